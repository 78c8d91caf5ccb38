/- Contracts that the proof leans on. -/
import Derived.Test.YthblidglcppakaaGreatDoorXCSb
namespace Go.Proofs.YthblidglcppakaaGreatDoor
open Go.RowKit
set_option linter.unusedVariables false
set_option linter.unusedSimpArgs false
set_option maxHeartbeats 8000000
set_option maxRecDepth 10000
def dD (R:Nat->Nat->Rat) (o:Nat->Nat) (Y:Nat->Rat) (d:Rat) (m t:Nat):Nat->Rat
 | 0=>d*R t m
 | i+1=>dD R o Y d m t i-R t (o (t+1+i))*Y (o (t+1+i))
theorem CG (a b:Rat):a=a-0*b:=by grind
structure AK (R:Nat->Nat->Rat) (o ip:Nat->Nat) (Y:Nat->Rat) (d:Rat) (m L LS:Nat):Prop where
 ot:∀ t,t<m->o t<m/\ip (o t)=t
 oj:∀ j,j<m->ip j<m/\o (ip j)=j
 sum:∀ t,t<m->∀ i,t+1+i<=m->bM LS (dD R o Y d m t i)
 piv:∀ t,t<m->R t (o t)≠0/\dD R o Y d m t (m-(t+1)) / R t (o t)=Y (o t)
 ys:∀ j,j<m->bM L (Y j)
 xs:∀ j,j<m->bM L (Y j / d)
def qD (ip:Nat->Nat) (Y:Nat->Rat) (q:Nat):Nat->Rat:=fun j=>if q<=ip j then Y j else 0
def nF (Y:Nat->Rat) (d:Rat) (i:Nat):Nat->Rat:=fun j=>if j<i then Y j / d else Y j
theorem zr (Y:Nat->Rat) (d:Rat) (i j:Nat):bg (nF Y d i) i (Y i / d) j=nF Y d (i+1) j:=by
 unfold bg nF;by_cases h:j=i
 ·rw [if_pos h,if_pos (by omega),h]
 ·rw [if_neg h];by_cases h2:j<i
  ·rw [if_pos h2,if_pos (by omega)]
  ·rw [if_neg h2,if_neg (by omega)]
theorem Cm {R:Nat->Nat->Rat} {o ip:Nat->Nat} {Y:Nat->Rat} {d:Rat} {m L LS:Nat} (h:AK R o ip Y d m L LS) (t:Nat) (ht:t<m) (j:Nat) (hj:j<m) :
  bg (qD ip Y (t+1)) (o t) (Y (o t)) j=qD ip Y t j:=by
 unfold bg qD;by_cases e:j=o t
 ·rw [if_pos e,e,(h.ot t ht).2,if_pos (by omega)]
 ·rw [if_neg e];have hn:ip j≠t:=fun e2=>e (by rw [<- (h.oj j hj).2,e2])
  by_cases h2:t+1<=ip j
  ·rw [if_pos h2,if_pos (by omega)]
  ·rw [if_neg h2,if_neg (by omega)]
def BakR (W:World) (go m:Nat) (ip:Nat->Nat) (Y:Nat->Rat) (L:Nat) (v:Value) (wr:World):Prop :=
 ∃ q:Nat,q<=m/\v=.int .i64 ((q:Int)-1)/\aH wr go m (qD ip Y q) L/\aX W wr go
def InnR (W:World) (gs:Nat) (R:Nat->Nat->Rat) (o:Nat->Nat) (Y:Nat->Rat) (d:Rat) (m t LS:Nat) (v:Value) (wr:World):Prop :=
 ∃ i:Nat,t+1+i<=m/\v=.int .i64 i/\aH wr gs 1 (fun _=>dD R o Y d m t i) LS/\W.grownBy wr none
def LasR (W:World) (go m:Nat) (Y:Nat->Rat) (d:Rat) (L:Nat) (v:Value) (wr:World):Prop :=
 ∃ i:Nat,i<=m/\v=.int .i64 i/\aH wr go m (nF Y d i) L/\aX W wr go
def BackE (w:World) (m:Nat) (X:Nat->Rat) (L:Nat) (e:Ending) (w':World):Prop:=∃ g,e=.returned (.slice (some ⟨g,0,none⟩) m m)/\w.heap.size<=g/\aH w' g m X L/\w.grownBy w' none
theorem zB (fb:Bool) (fo fo2:Option Addr) (fl fc fl2 fc2:Nat) (br bo m cap co:Nat) (bs cs:Nat->Nat) (R:Nat->Nat->Rat) (o ip:Nat->Nat) (Y:Nat->Rat) (d:Rat) (lv:Value) (L LS:Nat) (w:World)
  (hM:bX w br m (m+1) bs cs R L) (hO:cK w bo m o) (hy:FQ w lv d L) (hH:AK R o ip Y d m L LS) (hd:d≠0) (hm:m<=1000) (hc:m<=cap) (hc2:cap<=maxLen) (hco:m<=co) (hco2:co<=maxLen) (hL1:1<=L) (hL:L<=300000000) (hLS:L+L+1<=LS) (hLS2:LS<=100000000) :
  Calls Tryz.prog 178 #[(jI fb (.slice fo fl fc) (.slice fo2 fl2 fc2)),.slice (some ⟨br,0,none⟩) m cap,.slice (some ⟨bo,0,none⟩) m co,lv] w fun e w'=>BackE w m (fun j=>Y j / d) L e w':=by
 unfold maxLen at hc2 hco2;have HM:=ab hM;have HO:=ab hO;have HY:=ab hy;have HH:=ab hH;have HD:=ab hd;have hbl:=hM.lt;have hbo:=hO.lt;obtain ⟨lo,ll,lc,lo2,ll2,lc2,rfl⟩:=hy.shape;have HBS:Hid (∀ i,i<m->bs i<w.heap.size):=fun i hi=>(hM.row i hi).lt
 clear hM hO hy hH hd;obtain ⟨W,hW⟩:∃ W,W=(w.alloc (Obj.cells #[.bool fb,.slice fo fl fc,.slice fo2 fl2 fc2,.func (.func 99) #[] #[],.func (.func 100) #[] #[],.func (.func 81) #[] #[],.func (.func 101) #[] #[],.func (.func 102) #[] #[],.func (.func 103) #[] #[],.func (.func 104) #[] #[],.func (.func 105) #[] #[]] 126)).alloc (Obj.cells #[.bool (rB d),.slice lo ll lc,.slice lo2 ll2 lc2] 91):=⟨_,rfl⟩;have GW:Hid (w.grownBy W none):=by rw [hW];exact ag (ag (ae _ _) _) _
 have HWS:Hid (W.heap.size=w.heap.size+2):=by show _=_;rw [hW];simp
 have BASE:Hid (W.cell? ⟨w.heap.size,5,none⟩=some (.func (.func 81) #[] #[])/\W.cell? ⟨w.heap.size,6,none⟩=some (.func (.func 101) #[] #[])/\W.cell? ⟨w.heap.size,7,none⟩=some (.func (.func 102) #[] #[])/\W.cell? ⟨w.heap.size,8,none⟩=some (.func (.func 103) #[] #[])/\W.cell? ⟨w.heap.size+1,0,none⟩=some (.bool (rB d))/\W.cell? ⟨w.heap.size+1,1,none⟩=some (.slice lo ll lc)/\W.cell? ⟨w.heap.size+1,2,none⟩=some (.slice lo2 ll2 lc2)):=by
  have hg:((w.alloc (Obj.cells #[.bool fb,.slice fo fl fc,.slice fo2 fl2 fc2,.func (.func 99) #[] #[],.func (.func 100) #[] #[],.func (.func 81) #[] #[],.func (.func 101) #[] #[],.func (.func 102) #[] #[],.func (.func 103) #[] #[],.func (.func 104) #[] #[],.func (.func 105) #[] #[]] 126)).alloc (Obj.cells #[.bool (rB d),.slice lo ll lc,.slice lo2 ll2 lc2] 91)).grownBy W none:=by rw [<- hW];exact ae _ _
  exact ⟨hg.cell (by go_simp) (by simp),hg.cell (by go_simp) (by simp),hg.cell (by go_simp) (by simp),hg.cell (by go_simp) (by simp),hg.cell (by go_simp) (by simp),hg.cell (by go_simp) (by simp),hg.cell (by go_simp) (by simp)⟩
 go_enter Tryz.func178,Tryz.ntmps178
 go_upto_region 1 with fail;rw [<- hW];clear hW;go_wp2_with (at_make;refine ld _ rfl _ _ 60 rfl Tryz.underlying60 Tryz.infoF _ _ _ _ m rfl rfl (by omega) (by omega) (by omega) ?_)
 intro w1 hf1 hg1;generalize hgo:W.heap.size=go at hf1;have HGO:Hid (go=w.heap.size+2):=by show _=_;rw [<- hgo];exact HWS.out
 have F1:=ab hf1;have G1:=ab hg1;have CELLS:Hid (∀ wx,w1.grownBy wx (some go)->wx.cell? ⟨w.heap.size,5,none⟩=some (.func (.func 81) #[] #[])/\wx.cell? ⟨w.heap.size,6,none⟩=some (.func (.func 101) #[] #[])/\wx.cell? ⟨w.heap.size,7,none⟩=some (.func (.func 102) #[] #[])/\wx.cell? ⟨w.heap.size,8,none⟩=some (.func (.func 103) #[] #[])/\wx.cell? ⟨w.heap.size+1,0,none⟩=some (.bool (rB d))/\wx.cell? ⟨w.heap.size+1,1,none⟩=some (.slice lo ll lc)/\wx.cell? ⟨w.heap.size+1,2,none⟩=some (.slice lo2 ll2 lc2)):=by
  intro wx hg;obtain ⟨s0,s1,s2,s3,s4,s5,s6⟩:=BASE.out;have n1:some w.heap.size≠some go:=fun e=>by have:=Option.some.inj e;have:=HGO.out;omega
  have n2:some (w.heap.size+1)≠some go:=fun e=>by have:=Option.some.inj e;have:=HGO.out;omega
  exact ⟨hg.cell (G1.out.cell s0 (by simp)) n1,hg.cell (G1.out.cell s1 (by simp)) n1,hg.cell (G1.out.cell s2 (by simp)) n1,hg.cell (G1.out.cell s3 (by simp)) n1,hg.cell (G1.out.cell s4 (by simp)) n2,hg.cell (G1.out.cell s5 (by simp)) n2,hg.cell (G1.out.cell s6 (by simp)) n2⟩
 have GA:=ab (aa GW.out hg1);have HSZ1:Hid (w.heap.size+2<=w1.heap.size):=by show _<=_;have:=G1.out.size;have:=HWS.out;omega
 have M1:=ab (HM.out.keep0 GA.out);have O1:=ab (HO.out.keep GA.out (by simp));have Y1:=ab (HY.out.keep0 GA.out);have hwr1:IntKind.i64.wrap ((m:Int)-1)=(m:Int)-1:=IntWalk.i64_in _ ⟨by omega,by omega⟩;clear hf1 hg1 hgo HM HO HY BASE;go_wp2;go_loopw [10] (fun v wr=>Hid (BakR w1 go m ip Y L v wr)) (fun v _=>(intOf v+1).toNat)
 case atStart =>
  refine ⟨m,Nat.le_refl _,by first | rfl | (rw [hwr1]),?_,aX.refl _ _⟩;refine (F1.out.mono (Nat.zero_le _)).congr (fun j hj=>?_);unfold qD;rw [if_neg (by have:=(HH.out.oj j hj).1;omega)]
 case round =>
  obtain ⟨q,hq,rfl,l1,l2⟩:=hrel.out;have L1:=ab l1;have L2:=ab l2;clear l1 l2 hrel F1;by_cases hq0:q=0
  ·subst hq0;rw [show ((0:Nat):Int)-1 = -1 from rfl];go_wp2;go_loopw [92] (fun v wx=>Hid (LasR w1 go m Y d L v wx)) (fun v _=>m-(intOf v).toNat)
   case atStart=>exact ⟨0,by omega,rfl,L1.out.congr (fun j _=>by unfold qD nF;rw [if_pos (by omega),if_neg (by omega)]),L2.out⟩
   case round =>
    obtain ⟨i,hi,rfl,l1,l2⟩:=hrel.out;have K1:=ab l1;have K2:=ab l2;clear l1 l2 hrel L1 L2;by_cases hlt:i<m
    ·obtain ⟨uo,ul,uc,do_,dl,dc,c0,c1,c2,c3,_⟩:=K1.out.at i hlt;have hRi:nF Y d i i=Y i:=by unfold nF;rw [if_neg (by omega)]
     rw [hRi] at c0 c3;have C3:=ab c3;clear c3 hRi;go_upto_region 17 with fail;obtain ⟨w2,hw2⟩:∃ w2,w2=wr.alloc (Obj.cells #[.bool (rB (Y i)),.slice uo ul uc,.slice do_ dl dc] 91):=⟨_,rfl⟩;have G2:Hid (wr.grownBy w2 none):=by rw [hw2];exact ag (ae _ _) _
     have XC:Hid (∀ wx,w2.grownBy wx none->wx.cell? ⟨wr.heap.size,0,none⟩=some (.bool (rB (Y i)))/\wx.cell? ⟨wr.heap.size,1,none⟩=some (.slice uo ul uc)/\wx.cell? ⟨wr.heap.size,2,none⟩=some (.slice do_ dl dc)):=by
      intro wx hg;rw [hw2] at hg;exact aJ hg
     rw [<- hw2];clear hw2 c0 c1 c2;obtain ⟨x0,x1,x2⟩:=XC.out w2 (ae _ _);have LL2:=ab (K2.out.gr G2.out);obtain ⟨s0,s1,s2,s3,s4,s5,s6⟩:=CELLS.out w2 LL2.out.1;go_wp2_with fail;refine (pE _ _ (Y i) d L L _ (C3.out.keep0 G2.out) (Y1.out.kept LL2.out.2) HD.out (by omega)).mono ?_;rintro e w4 ⟨v4,rfl,p1,p2⟩;have F4:=ab ((K1.out.keep0 G2.out).keep0 p2);have P1:=ab (p1.tight (HH.out.xs i hlt));obtain ⟨ao,al,ac,bo_,bl,bc,rfl⟩:=p1.shape;have L4:=ab (LL2.out.gr p2);obtain ⟨_,_,_,_,_,_,d0,d1,d2,_,df⟩:=F4.out.at i hlt;have df0:=df (i*3);have df1:=df (i*3+1);have df2:=df (i*3+2);clear p1 p2 df x0 x1 x2 s0 s1 s2 s3 s4 s5 s6;go_wp2;go_roundw
     case rel =>
      obtain ⟨r1,r2,r3⟩:=F4.out.set i hlt P1.out;exact ⟨i+1,by omega,by go_num,r1.congr (fun j _=>zr Y d i j),L4.out.trans ⟨r2,r3⟩⟩
     case measure=>simp [intOf];omega
    ·obtain rfl:i=m:=by omega
     go_wp2;refine bodyPost_ret (v:=.slice (some ⟨go,0,none⟩) i i) (by simp [results,Tryz.results178,go_sem]) rfl ?_;refine ⟨go,rfl,by have:=HGO.out;omega,K1.out.congr (fun j hj=>by unfold nF;rw [if_pos hj]),?_⟩;exact aq (r:=none) GA.out K2.out.1 (fun _ _ e=>e) (fun b hb e=>by have:=Option.some.inj e;have:=HGO.out;omega)
  ·obtain ⟨t,rfl⟩:∃ t,q=t+1:=⟨q-1,by omega⟩;have hti:((t+1:Nat):Int)-1=(t:Int):=by omega
   rw [hti];have hqt:t<m:=by omega
   clear hq0 hti;have MM:=ab (M1.out.keepR L2.out (by have:=HGO.out;omega) (fun i hi=>by have:=HBS.out i hi;have:=HGO.out;omega));have OO:=ab (O1.out.keep L2.out.1 (fun e=>by have:=Option.some.inj e;have:=HGO.out;omega));have YY:=ab (Y1.out.kept L2.out.2);have ct:=(MM.out.cell t hqt).1;obtain ⟨hcc1,hcc2⟩:=MM.out.cap t hqt;unfold maxLen at hcc2;obtain ⟨xo,xl,xc,yo,yl,yc,c0,c1,c2,c3,_⟩:=(MM.out.row t hqt).at m (by omega);have X3:=ab c3;have HS0:=ab (HH.out.sum t hqt 0 (by omega));have CX:Hid (∀ wx,wr.grownBy wx none->wx.cell? ⟨w.heap.size,5,none⟩=some (.func (.func 81) #[] #[])/\wx.cell? ⟨w.heap.size,6,none⟩=some (.func (.func 101) #[] #[])/\wx.cell? ⟨w.heap.size,7,none⟩=some (.func (.func 102) #[] #[])/\wx.cell? ⟨w.heap.size,8,none⟩=some (.func (.func 103) #[] #[])/\wx.cell? ⟨w.heap.size+1,0,none⟩=some (.bool (rB d))/\wx.cell? ⟨w.heap.size+1,1,none⟩=some (.slice lo ll lc)/\wx.cell? ⟨w.heap.size+1,2,none⟩=some (.slice lo2 ll2 lc2)/\wx.cell? ⟨bs t,m*3,none⟩=some (.bool (rB (R t m)))/\wx.cell? ⟨bs t,m*3+1,none⟩=some (.slice xo xl xc)/\wx.cell? ⟨bs t,m*3+2,none⟩=some (.slice yo yl yc)):=by
    intro wx hg;obtain ⟨s0,s1,s2,s3,s4,s5,s6⟩:=CELLS.out wx (L2.out.gr hg).1;exact ⟨s0,s1,s2,s3,s4,s5,s6,hg.cell c0 (by simp),hg.cell c1 (by simp),hg.cell c2 (by simp)⟩
   clear c0 c1 c2 c3;have GG:wr.grownBy wr none:=ae _ _;obtain ⟨s0,s1,s2,s3,s4,s5,s6,s7,s8,s9⟩:=CX.out wr GG;have hszr:w.heap.size+2<=wr.heap.size:=by have:=HSZ1.out;have:=L2.out.1.size;omega
   have nz1:wr.heap.size≠w.heap.size:=by omega
   have nz2:wr.heap.size≠w.heap.size+1:=by omega
   have nz3:wr.heap.size≠bs t:=by have:=HBS.out t hqt;omega
   have hmm1:(0:Int)<=(m:Int):=by omega
   have hmm2:(m:Int)<(m:Int)+1:=by omega
   go_wp2;go_cut [12] (fun s12 wx=>Hid (∃ gs,s12=.pointer (some ⟨gs,0,none⟩)/\wr.heap.size<=gs/\aH wx gs 1 (fun _=>dD R o Y d m t 0) LS/\wr.grownBy wx none))
   case first =>
    go_region_held3 (fun w'=>w'.cell? ⟨w.heap.size,5,none⟩=some (.func (.func 81) #[] #[])/\w'.cell? ⟨w.heap.size,6,none⟩=some (.func (.func 101) #[] #[])/\w'.cell? ⟨w.heap.size,7,none⟩=some (.func (.func 102) #[] #[])/\w'.cell? ⟨w.heap.size,8,none⟩=some (.func (.func 103) #[] #[])/\w'.cell? ⟨w.heap.size+1,0,none⟩=some (.bool (rB d))/\w'.cell? ⟨w.heap.size+1,1,none⟩=some (.slice lo ll lc)/\w'.cell? ⟨w.heap.size+1,2,none⟩=some (.slice lo2 ll2 lc2)/\w'.cell? ⟨bs t,m*3,none⟩=some (.bool (rB (R t m)))/\w'.cell? ⟨bs t,m*3+1,none⟩=some (.slice xo xl xc)/\w'.cell? ⟨bs t,m*3+2,none⟩=some (.slice yo yl yc)) (go_keep)
     (first | (go_at_call 101;refine (eM _ _ d (R t m) L L _ (YY.out.keep0 (aa GG (by first | exact aj _ | exact ah | exact ae _ _ | exact ag (aj _) _ | exact ag ah _ | exact ar (ag (ae _ _) _) 1 | exact ar (ag (ae _ _) _) _))) (X3.out.keep0 (aa GG (by first | exact aj _ | exact ah | exact ae _ _ | exact ag (aj _) _ | exact ag ah _ | exact ar (ag (ae _ _) _) 1 | exact ar (ag (ae _ _) _) _))) (by omega)).mono ?_;rintro e wx ⟨vx,rfl,px,gx⟩;have px:=px.mono (show L+L+1<=LS by omega);obtain ⟨po,pl,pc,qo,ql,qc,rfl⟩:=px.shape;have GG:wr.grownBy wx none:=aa (aa GG (by first | exact aj _ | exact ah | exact ae _ _ | exact ag (aj _) _ | exact ag ah _ | exact ar (ag (ae _ _) _) 1 | exact ar (ag (ae _ _) _) _)) gx;obtain ⟨x0,x1,x2,x3,x4,x5,x6,x7,x8,x9⟩:=CX.out wx GG;(try (have gy:=aa (ar (ae (wr.alloc (Obj.cells #[.bool false,.slice none 0 0,.slice none 0 0] 91)) none) 1) gx;obtain ⟨rc0,rc1,rc2,rcf⟩:=aV gy;have rcf0:=rcf 0;have rcf1:=rcf 1;have rcf2:=rcf 2;clear rcf))))
    all_goals (go_wp2_with fail;go_meet;first
     | exact ⟨_,rfl,GG.size,my (px.keep0 (by first | exact aj _ | exact ah | exact ae _ _)),ag (by first | exact aa GG (aj _) | exact aa GG ah | exact GG) _⟩
     | exact ⟨_,rfl,Nat.le_refl _,oA gy px,ai (ai (ai GG _ _ (Nat.le_refl _)) _ _ (Nat.le_refl _)) _ _ (Nat.le_refl _)⟩)
   case rest =>
    obtain ⟨gs,rfl,hgs,f2,g2⟩:=hcut.out;have F2:=ab f2;have G2:=ab g2;clear hcut f2 g2 GG s0 s1 s2 s3 s4 s5 s6 s7 s8 s9;have hwt:IntKind.i64.wrap ((t:Int)+1)=(t:Int)+1:=IntWalk.i64_in _ ⟨by omega,by omega⟩;have ht0:(0:Int)<=(t:Int)+1:=by omega
    have ht1:(t:Int)+1<=(m:Int):=by omega
    clear CX X3 HS0 ct;go_upto_region 7 with fail;go_cut [43,44,45] (fun s43 s44 s45 wx=>Hid (∃ off c,s43=.slice (some ⟨bo,off,none⟩) (m-(t+1)) c/\m-(t+1)<=c/\c<=9223372036854775807/\(t+1<m->off=t+1)/\s44=.int .i64 ((m-(t+1):Nat):Int)/\s45=.int .i64 0/\aH wx gs 1 (fun _=>dD R o Y d m t 0) LS/\wr.grownBy wx none))
    case first =>
     by_cases hct:co=t+1
     ·have hcT:(co=t+1)=True:=eq_true hct;have HCT:=ab hct;clear hct;go_wp2
      all_goals (go_meet;exact ⟨_,_,rfl,by have:=HCT.out;omega,by omega,fun h=>absurd h (by have:=HCT.out;omega),rfl,rfl,F2.out,G2.out⟩)
     ·have hcF:(co=t+1)=False:=eq_false hct;clear hct;go_wp2
      all_goals (go_meet;exact ⟨_,_,rfl,by omega,by omega,fun _=>rfl,rfl,rfl,F2.out,G2.out⟩)
    case rest =>
     obtain ⟨off,c,rfl,hoc,hoc2,hoff,rfl,rfl,f3,g3⟩:=hcut.out;have F3:=ab f3;have G3:=ab g3;have HGS:Hid (w.heap.size+2<=gs/\gs≠go):=⟨by omega,by have:=L1.out.lt;omega⟩;clear hcut f3 g3 F2 G2 hwt ht0 ht1;go_wp2;go_loopw [45] (fun v wx=>Hid (InnR wr gs R o Y d m t LS v wx)) (fun v _=>m-(intOf v).toNat)
     case atStart=>exact ⟨0,by omega,rfl,F3.out,G3.out⟩
     case round =>
      obtain ⟨i,hi,rfl,k1,k2⟩:=hrel.out;have K1:=ab k1;have K2:=ab k2;clear k1 k2 hrel F3 G3;obtain ⟨so,sl,sc,to_,tl,tc,s0_,s1_,s2_,S3,sf_⟩:=K1.out.var;have SQ:=ab S3;have SUM:Hid (∀ wx,wr.grownBy wx none->aH wx gs 1 (fun _=>dD R o Y d m t i) LS/\wx.cell? ⟨gs,0,none⟩=some (.bool (rB (dD R o Y d m t i)))/\wx.cell? ⟨gs,1,none⟩=some (.slice so sl sc)/\wx.cell? ⟨gs,2,none⟩=some (.slice to_ tl tc)/\∀ k,wx.frozen? ⟨gs,k,none⟩=false):=by
       intro wx hg;have hr:=K1.out.keep0 hg;obtain ⟨_,_,_,_,_,_,_,_,_,_,hf⟩:=hr.var;exact ⟨hr,hg.cell s0_ (by simp),hg.cell s1_ (by simp),hg.cell s2_ (by simp),hf⟩
      clear s0_ s1_ s2_ S3 sf_;by_cases hlt:t+1+i<m
      ·obtain rfl:off=t+1:=hoff (by omega);obtain ⟨u,hu⟩:∃ u,u=o (t+1+i):=⟨_,rfl⟩;have hum:u<m:=by rw [hu];exact (HH.out.ot _ hlt).1
       have hip:ip u=t+1+i:=by rw [hu];exact (HH.out.ot _ hlt).2
       have oc:=(OO.out.keep K2.out (by simp)).at (t+1+i) hlt;rw [<- hu] at oc;have HSI:Hid (bM LS (dD R o Y d m t i-R t u*Y u)):=by rw [hu];exact HH.out.sum t hqt (i+1) (by omega)
       have HSE:Hid (dD R o Y d m t (i+1)=dD R o Y d m t i-R t u*Y u):=by show _=_;rw [hu];rfl
       obtain ⟨ao,al,ac,bo_,bl,bc,c0,c1,c2,c3,_⟩:=((MM.out.row t hqt).keep0 K2.out).at u (by omega);obtain ⟨jo,jl,jc,ko,kl,kc,e0,e1,e2,e3,_⟩:=(L1.out.keep0 K2.out).at u hum;have hoY:qD ip Y (t+1) u=Y u:=by unfold qD;rw [if_pos (by omega)]
       rw [hoY] at e0 e3;have C3:=ab c3;have E3:=ab e3;have CX:Hid (∀ wx,wr.grownBy wx none->wx.cell? ⟨w.heap.size,5,none⟩=some (.func (.func 81) #[] #[])/\wx.cell? ⟨w.heap.size,6,none⟩=some (.func (.func 101) #[] #[])/\wx.cell? ⟨w.heap.size,7,none⟩=some (.func (.func 102) #[] #[])/\wx.cell? ⟨w.heap.size,8,none⟩=some (.func (.func 103) #[] #[])/\wx.cell? ⟨w.heap.size+1,0,none⟩=some (.bool (rB d))/\wx.cell? ⟨w.heap.size+1,1,none⟩=some (.slice lo ll lc)/\wx.cell? ⟨w.heap.size+1,2,none⟩=some (.slice lo2 ll2 lc2)/\wx.cell? ⟨bs t,u*3,none⟩=some (.bool (rB (R t u)))/\wx.cell? ⟨bs t,u*3+1,none⟩=some (.slice ao al ac)/\wx.cell? ⟨bs t,u*3+2,none⟩=some (.slice bo_ bl bc)/\wx.cell? ⟨go,u*3,none⟩=some (.bool (rB (Y u)))/\wx.cell? ⟨go,u*3+1,none⟩=some (.slice jo jl jc)/\wx.cell? ⟨go,u*3+2,none⟩=some (.slice ko kl kc)):=by
        intro wx hg;obtain ⟨s0,s1,s2,s3,s4,s5,s6⟩:=CELLS.out wx (L2.out.gr (aa K2.out hg)).1;exact ⟨s0,s1,s2,s3,s4,s5,s6,hg.cell c0 (by simp),hg.cell c1 (by simp),hg.cell c2 (by simp),hg.cell e0 (by simp),hg.cell e1 (by simp),hg.cell e2 (by simp)⟩
       clear c0 c1 c2 c3 e0 e1 e2 e3 hu hoY hip;have GG:wr.grownBy wr none:=ae _ _;obtain ⟨s0,s1,s2,s3,s4,s5,s6,s7,s8,s9,s10,s11,s12⟩:=CX.out wr GG;have hil:i<m-(t+1):=by omega
       have hum1:u<m+1:=by omega
       have hum2:(u:Int)<(m:Int)+1:=by omega
       have hum3:(0:Int)<=(u:Int):=by omega
       have hum4:(u:Int)<(m:Int):=by omega
       go_wp2;go_cut [56] (fun s56 wx=>Hid (s56=.bool (!(decide (R t u=0)))/\wr.grownBy wx none))
       case first =>
        go_region_held3 (fun w'=>w'.cell? ⟨w.heap.size,5,none⟩=some (.func (.func 81) #[] #[])/\w'.cell? ⟨w.heap.size,6,none⟩=some (.func (.func 101) #[] #[])/\w'.cell? ⟨w.heap.size,7,none⟩=some (.func (.func 102) #[] #[])/\w'.cell? ⟨w.heap.size,8,none⟩=some (.func (.func 103) #[] #[])/\w'.cell? ⟨w.heap.size+1,0,none⟩=some (.bool (rB d))/\w'.cell? ⟨w.heap.size+1,1,none⟩=some (.slice lo ll lc)/\w'.cell? ⟨w.heap.size+1,2,none⟩=some (.slice lo2 ll2 lc2)/\w'.cell? ⟨bs t,u*3,none⟩=some (.bool (rB (R t u)))/\w'.cell? ⟨bs t,u*3+1,none⟩=some (.slice ao al ac)/\w'.cell? ⟨bs t,u*3+2,none⟩=some (.slice bo_ bl bc)/\w'.cell? ⟨go,u*3,none⟩=some (.bool (rB (Y u)))/\w'.cell? ⟨go,u*3+1,none⟩=some (.slice jo jl jc)/\w'.cell? ⟨go,u*3+2,none⟩=some (.slice ko kl kc)) (go_keep)
         (first | (go_at_call 103;refine (bq _ (R t u) L _ (C3.out.keep0 (by first | exact aa GG (aj _) | exact aa GG ah | exact GG))).mono ?_;rintro e wa ⟨rfl,ga⟩;have GG:wr.grownBy wa none:=aa (by first | exact aa GG (aj _) | exact aa GG ah | exact GG) ga;obtain ⟨a0,a1,a2,a3,a4,a5,a6,a7,a8,a9,a10,a11,a12⟩:=CX.out wa GG))
        all_goals (go_wp2_with fail;go_meet;exact ⟨rfl,(by first | exact aa GG (aj _) | exact aa GG ah | exact GG)⟩)
       case rest =>
        obtain ⟨rfl,g4⟩:=hcut.out;have G4:=ab g4;clear hcut g4 GG s0 s1 s2 s3 s4 s5 s6 s7 s8 s9 s10 s11 s12;by_cases hz:R t u=0
        ·have hzd:(!(decide (R t u=0)))=false:=by simp [hz]
         rw [hzd];have HZ:=ab hz;clear hz hzd;go_wp2;go_roundw
         case rel =>
          refine ⟨i+1,by omega,by go_num,(SUM.out _ G4.out).1.congr (fun _ _=>?_),aa K2.out G4.out⟩;rw [HSE.out,HZ.out];exact CG _ _
         case measure=>simp [intOf];omega
        ·have hzd:(!(decide (R t u=0)))=true:=by simp [hz]
         rw [hzd];clear hz hzd;have CX4:Hid (∀ wx,wc.grownBy wx none->wx.cell? ⟨w.heap.size,5,none⟩=some (.func (.func 81) #[] #[])/\wx.cell? ⟨w.heap.size,6,none⟩=some (.func (.func 101) #[] #[])/\wx.cell? ⟨w.heap.size,7,none⟩=some (.func (.func 102) #[] #[])/\wx.cell? ⟨w.heap.size,8,none⟩=some (.func (.func 103) #[] #[])/\wx.cell? ⟨w.heap.size+1,0,none⟩=some (.bool (rB d))/\wx.cell? ⟨w.heap.size+1,1,none⟩=some (.slice lo ll lc)/\wx.cell? ⟨w.heap.size+1,2,none⟩=some (.slice lo2 ll2 lc2)/\wx.cell? ⟨bs t,u*3,none⟩=some (.bool (rB (R t u)))/\wx.cell? ⟨bs t,u*3+1,none⟩=some (.slice ao al ac)/\wx.cell? ⟨bs t,u*3+2,none⟩=some (.slice bo_ bl bc)/\wx.cell? ⟨go,u*3,none⟩=some (.bool (rB (Y u)))/\wx.cell? ⟨go,u*3+1,none⟩=some (.slice jo jl jc)/\wx.cell? ⟨go,u*3+2,none⟩=some (.slice ko kl kc)):=fun wx hg=>CX.out wx (aa G4.out hg)
         have SUM4:Hid (∀ wx,wc.grownBy wx none->aH wx gs 1 (fun _=>dD R o Y d m t i) LS/\wx.cell? ⟨gs,0,none⟩=some (.bool (rB (dD R o Y d m t i)))/\wx.cell? ⟨gs,1,none⟩=some (.slice so sl sc)/\wx.cell? ⟨gs,2,none⟩=some (.slice to_ tl tc)/\∀ k,wx.frozen? ⟨gs,k,none⟩=false):=fun wx hg=>SUM.out wx (aa G4.out hg)
         have nz4:gs≠w.heap.size:=by have:=HGS.out.1;omega
         have nz5:gs≠w.heap.size+1:=by have:=HGS.out.1;omega
         have nz6:gs≠bs t:=by have:=HGS.out.1;have:=HBS.out t hqt;omega
         have nz7:gs≠go:=HGS.out.2;have GG:wc.grownBy wc none:=ae _ _;obtain ⟨s0,s1,s2,s3,s4,s5,s6,s7,s8,s9,s10,s11,s12⟩:=CX4.out wc GG;obtain ⟨sr,t0,t1,t2,tf⟩:=SUM4.out wc GG;clear sr tf;go_wp2;refine wp_region_held_drew (S:=(fun w'=>w'.cell? ⟨w.heap.size,5,none⟩=some (.func (.func 81) #[] #[])/\w'.cell? ⟨w.heap.size,6,none⟩=some (.func (.func 101) #[] #[])/\w'.cell? ⟨w.heap.size,7,none⟩=some (.func (.func 102) #[] #[])/\w'.cell? ⟨w.heap.size,8,none⟩=some (.func (.func 103) #[] #[])/\w'.cell? ⟨w.heap.size+1,0,none⟩=some (.bool (rB d))/\w'.cell? ⟨w.heap.size+1,1,none⟩=some (.slice lo ll lc)/\w'.cell? ⟨w.heap.size+1,2,none⟩=some (.slice lo2 ll2 lc2)/\w'.cell? ⟨bs t,u*3,none⟩=some (.bool (rB (R t u)))/\w'.cell? ⟨bs t,u*3+1,none⟩=some (.slice ao al ac)/\w'.cell? ⟨bs t,u*3+2,none⟩=some (.slice bo_ bl bc)/\w'.cell? ⟨go,u*3,none⟩=some (.bool (rB (Y u)))/\w'.cell? ⟨go,u*3+1,none⟩=some (.slice jo jl jc)/\w'.cell? ⟨go,u*3+2,none⟩=some (.slice ko kl kc))) (by kernel_rfl) ?zs1y (fun hHeld=>?zr1y)
         case zs1y=>((try dsimp only);go_keep)
         case zr1y =>
          refine wpAnyH_take (i:=0) (oi:=⟨some 57,.fieldAddr 126 (.tmp 4) 3,0, "rows.go:134",#[],none⟩) (v:=.pointer (some ⟨w.heap.size,5,none⟩)) rfl (by kernel_rfl) (by kernel_rfl) (by kernel_rfl) (fun _ _ _ h=>h) (Or.inl ⟨by rfl,?zy1y1⟩) (by assumption) ?zr1y1
          case zy1y1=>(intro w hSw;(try dsimp only at hSw);go_simp)
          case zr1y1 =>
           (try simp only [Act.put,ib,ig,ie])
           refine wpAnyH_take (i:=1) (oi:=⟨some 58,.load 122 (.tmp 57),122, "rows.go:134",#[⟨0,.data⟩],none⟩) (v:=.func (.func 81) #[] #[]) rfl (by kernel_rfl) (by kernel_rfl) (by kernel_rfl) (fun _ _ _ h=>h) (Or.inl ⟨by rfl,?zy1y2⟩) (by assumption) ?zr1y2
           case zy1y2=>(intro w hSw;(try dsimp only at hSw);go_simp)
           case zr1y2 =>
            (try simp only [Act.put,ib,ig,ie])
            refine wpAnyH_take (i:=3) (oi:=⟨some 60,.fieldAddr 126 (.tmp 4) 4,0, "rows.go:134",#[],none⟩) (v:=.pointer (some ⟨w.heap.size,6,none⟩)) rfl (by kernel_rfl) (by kernel_rfl) (by kernel_rfl) (fun _ _ _ h=>h) (Or.inl ⟨by rfl,?zy1y3⟩) (by assumption) ?zr1y3
            case zy1y3=>(intro w hSw;(try dsimp only at hSw);go_simp)
            case zr1y3 =>
             (try simp only [Act.put,ib,ig,ie])
             refine wpAnyH_take (i:=4) (oi:=⟨some 61,.load 122 (.tmp 60),122, "rows.go:134",#[⟨3,.data⟩],none⟩) (v:=.func (.func 101) #[] #[]) rfl (by kernel_rfl) (by kernel_rfl) (by kernel_rfl) (fun _ _ _ h=>h) (Or.inl ⟨by rfl,?zy1y4⟩) (by assumption) ?zr1y4
             case zy1y4=>(intro w hSw;(try dsimp only at hSw);go_simp)
             case zr1y4 =>
              (try simp only [Act.put,ib,ig,ie])
              refine wpAnyH_take (i:=5) (oi:=⟨some 62,.move (.tmp 11),60, "rows.go:134",#[],none⟩) (v:=.slice (some ⟨bs t,0,none⟩) (m+1) (cs t)) rfl (by kernel_rfl) (by kernel_rfl) (by kernel_rfl) (fun _ _ _ h=>h) (Or.inl ⟨by rfl,?zy1y5⟩) (by assumption) ?zr1y5
              case zy1y5=>(intro w hSw;(try dsimp only at hSw);go_simp)
              case zr1y5 =>
               (try simp only [Act.put,ib,ig,ie])
               refine wpAnyH_take (i:=6) (oi:=⟨some 63,.move (.tmp 14),3, "rows.go:134",#[],none⟩) (v:=.int .i64 (u:Nat)) rfl (by kernel_rfl) (by kernel_rfl) (by kernel_rfl) (fun _ _ _ h=>h) (Or.inl ⟨by rfl,?zy1y6⟩) (by assumption) ?zr1y6
               case zy1y6=>(intro w hSw;(try dsimp only at hSw);go_simp)
               case zr1y6 =>
                (try simp only [Act.put,ib,ig,ie])
                refine wpAnyH_take (i:=7) (oi:=⟨some 64,.indexAddr 60 (.tmp 62) (.tmp 63),0, "rows.go:134",#[⟨5,.data⟩,⟨6,.data⟩],none⟩) (v:=.pointer (some ⟨bs t,u*3,none⟩)) rfl (by kernel_rfl) (by kernel_rfl) (by kernel_rfl) (fun _ _ _ h=>h) (Or.inl ⟨by rfl,?zy1y7⟩) (by assumption) ?zr1y7
                case zy1y7=>(intro w hSw;(try dsimp only at hSw);go_simp)
                case zr1y7 =>
                 (try simp only [Act.put,ib,ig,ie])
                 refine wpAnyH_take (i:=8) (oi:=⟨some 65,.load 91 (.tmp 64),91, "rows.go:134",#[⟨7,.data⟩],none⟩) (v:=Value.agg #[.bool (rB (R t u)),.slice ao al ac,.slice bo_ bl bc]) rfl (by kernel_rfl) (by kernel_rfl) (by kernel_rfl) (fun _ _ _ h=>h) (Or.inl ⟨by rfl,?zy1y8⟩) (by assumption) ?zr1y8
                 case zy1y8=>(intro w hSw;(try dsimp only at hSw);go_simp)
                 case zr1y8 =>
                  (try simp only [Act.put,ib,ig,ie])
                  refine wpAnyH_take (i:=9) (oi:=⟨some 66,.move (.tmp 9),60, "rows.go:134",#[],none⟩) (v:=.slice (some ⟨go,0,none⟩) m m) rfl (by kernel_rfl) (by kernel_rfl) (by kernel_rfl) (fun _ _ _ h=>h) (Or.inl ⟨by rfl,?zy1y9⟩) (by assumption) ?zr1y9
                  case zy1y9=>(intro w hSw;(try dsimp only at hSw);go_simp)
                  case zr1y9 =>
                   (try simp only [Act.put,ib,ig,ie])
                   refine wpAnyH_take (i:=10) (oi:=⟨some 67,.move (.tmp 14),3, "rows.go:134",#[],none⟩) (v:=.int .i64 (u:Nat)) rfl (by kernel_rfl) (by kernel_rfl) (by kernel_rfl) (fun _ _ _ h=>h) (Or.inl ⟨by rfl,?zy1y10⟩) (by assumption) ?zr1y10
                   case zy1y10=>(intro w hSw;(try dsimp only at hSw);go_simp)
                   case zr1y10 =>
                    (try simp only [Act.put,ib,ig,ie])
                    refine wpAnyH_take (i:=11) (oi:=⟨some 68,.indexAddr 60 (.tmp 66) (.tmp 67),0, "rows.go:134",#[⟨9,.data⟩,⟨10,.data⟩],none⟩) (v:=.pointer (some ⟨go,u*3,none⟩)) rfl (by kernel_rfl) (by kernel_rfl) (by kernel_rfl) (fun _ _ _ h=>h) (Or.inl ⟨by rfl,?zy1y11⟩) (by assumption) ?zr1y11
                    case zy1y11=>(intro w hSw;(try dsimp only at hSw);go_simp)
                    case zr1y11 =>
                     (try simp only [Act.put,ib,ig,ie])
                     refine wpAnyH_take (i:=12) (oi:=⟨some 69,.load 91 (.tmp 68),91, "rows.go:134",#[⟨11,.data⟩],none⟩) (v:=Value.agg #[.bool (rB (Y u)),.slice jo jl jc,.slice ko kl kc]) rfl (by kernel_rfl) (by kernel_rfl) (by kernel_rfl) (fun _ _ _ h=>h) (Or.inl ⟨by rfl,?zy1y12⟩) (by assumption) ?zr1y12
                     case zy1y12=>(intro w hSw;(try dsimp only at hSw);go_simp)
                     case zr1y12 =>
                      (try simp only [Act.put,ib,ig,ie])
                      refine wpAnyH_ready (rs:=[2,13]) (by kernel_rfl) (by simp) ?_;refine AllReadyH.cons (o:=⟨some 59,.load 91 (.tmp 12),91, "rows.go:134",#[],none⟩) rfl (fun K hK=>?zr1y13) (AllReadyH.cons (o:=⟨some 70,.call ⟨.value (.tmp 61),#[.tmp 65,.tmp 69],#[91,91]⟩,91, "rows.go:134",#[⟨4,.data⟩,⟨8,.data⟩,⟨12,.data⟩],none⟩) rfl (fun K hK=>?zr1y14) AllReadyH.nil)
                      case zr1y13 =>
                       go_simp
                       refine hK.out _ _ ?zs1y15 (fun hHeld=>?zr1y15)
                       case zs1y15=>((try dsimp only);go_keep)
                       case zr1y15 =>
                        clear hK K
                        (try simp only [Act.put,ib,ig,ie])
                        refine wpAnyH_ready (rs:=[13]) (by kernel_rfl) (by simp) ?_;refine AllReadyH.cons (o:=⟨some 70,.call ⟨.value (.tmp 61),#[.tmp 65,.tmp 69],#[91,91]⟩,91, "rows.go:134",#[⟨4,.data⟩,⟨8,.data⟩,⟨12,.data⟩],none⟩) rfl (fun K hK=>?_) AllReadyH.nil;go_simp
                        go_at_call 101
                        refine (eM _ _ (R t u) (Y u) L L _ (C3.out.keep0 (aa G4.out (by first | exact aa GG (aj _) | exact aa GG ah | exact GG))) (E3.out.keep0 (aa G4.out (by first | exact aa GG (aj _) | exact aa GG ah | exact GG))) (by omega)).mono ?_;rintro e wa ⟨va,rfl,pa,ga⟩;obtain ⟨po,pl,pc,qo,ql,qc,rfl⟩:=pa.shape;have GG:wc.grownBy wa none:=aa (by first | exact aa GG (aj _) | exact aa GG ah | exact GG) ga;obtain ⟨a0,a1,a2,a3,a4,a5,a6,a7,a8,a9,a10,a11,a12⟩:=CX4.out wa GG;obtain ⟨sr,ta0,ta1,ta2,tf⟩:=SUM4.out wa GG;clear sr tf;go_wp2_with fail;refine hK.out _ _ ?zs1y16 (fun hHeld=>?zr1y16)
                        case zs1y16=>((try dsimp only);go_keep)
                        case zr1y16 =>
                         clear hK K
                         (try simp only [Act.put,ib,ig,ie])
                         refine wpAnyH_ready (rs:=[14]) (by kernel_rfl) (by simp) ?_;refine AllReadyH.cons (o:=⟨some 71,.call ⟨.value (.tmp 58),#[.tmp 59,.tmp 70],#[91,91]⟩,91, "rows.go:134",#[⟨1,.data⟩,⟨2,.data⟩,⟨13,.data⟩,⟨13,.chain⟩],none⟩) rfl (fun K hK=>?_) AllReadyH.nil;go_simp
                         go_at_call 81
                         refine (cZ _ _ (dD R o Y d m t i) (R t u*Y u) LS (L+L+1) _ (SQ.out.keep0 (aa G4.out (by first | exact aa GG (aj _) | exact aa GG ah | exact GG))) (pa.keep0 (by first | exact aj _ | exact ah | exact ae _ _)) (by omega)).mono ?_;rintro e wm ⟨vm,rfl,pm,gm⟩;have pm:=pm.tight (L':=LS) HSI.out;obtain ⟨mo,ml,mc,no,nl,nc,rfl⟩:=pm.shape;have GG:wc.grownBy wm none:=aa (by first | exact aa GG (aj _) | exact aa GG ah | exact GG) gm;obtain ⟨b0,b1,b2,b3,b4,b5,b6,b7,b8,b9,b10,b11,b12⟩:=CX4.out wm GG;obtain ⟨sr,tb0,tb1,tb2,tf⟩:=SUM4.out wm GG;have tf0:=tf 0;have tf1:=tf 1;have tf2:=tf 2;clear tf;go_wp2_with fail;refine hK.out _ _ ?zs1y17 (fun hHeld=>?zr1y17)
                         case zs1y17=>((try dsimp only);go_keep)
                         case zr1y17 =>
                          clear hK K
                          (try simp only [Act.put,ib,ig,ie])
                          refine wpAnyH_ready (rs:=[15]) (by kernel_rfl) (by simp) ?_;refine AllReadyH.cons (o:=⟨none,.store 91 (.tmp 12) (.tmp 71),0, "rows.go:134",#[⟨14,.data⟩,⟨14,.chain⟩,⟨0,.phase⟩,⟨1,.phase⟩,⟨2,.phase⟩,⟨3,.phase⟩,⟨4,.phase⟩,⟨5,.phase⟩,⟨6,.phase⟩,⟨7,.phase⟩,⟨8,.phase⟩,⟨9,.phase⟩,⟨10,.phase⟩,⟨11,.phase⟩,⟨12,.phase⟩,⟨13,.phase⟩,⟨14,.phase⟩],none⟩) rfl (fun K hK=>?_) AllReadyH.nil;go_simp
                          refine hK.out _ _ ?zs1y18 (fun hHeld=>?zr1y18)
                          case zs1y18=>((try dsimp only);go_keep)
                          case zr1y18 =>
                           clear hK K
                           (try simp only [Act.put,ib,ig,ie])
                           refine wpAnyH_done (by kernel_rfl) ?_ _;have SR:=ab sr;have PM:=ab pm;have GF:=ab (aa K2.out (aa G4.out GG));clear sr pm GG;go_wp2;go_roundw
                           case rel =>
                            refine ⟨i+1,by omega,by go_num,?_,ai (ai (ai GF.out _ _ hgs) _ _ hgs) _ _ hgs⟩;rw [HSE.out];exact SR.out.varset PM.out (Nat.le_refl _)
                           case measure=>simp [intOf];omega
                      case zr1y14 =>
                       go_simp
                       go_at_call 101
                       refine (eM _ _ (R t u) (Y u) L L _ (C3.out.keep0 (aa G4.out (by first | exact aa GG (aj _) | exact aa GG ah | exact GG))) (E3.out.keep0 (aa G4.out (by first | exact aa GG (aj _) | exact aa GG ah | exact GG))) (by omega)).mono ?_;rintro e wa ⟨va,rfl,pa,ga⟩;obtain ⟨po,pl,pc,qo,ql,qc,rfl⟩:=pa.shape;have GG:wc.grownBy wa none:=aa (by first | exact aa GG (aj _) | exact aa GG ah | exact GG) ga;obtain ⟨a0,a1,a2,a3,a4,a5,a6,a7,a8,a9,a10,a11,a12⟩:=CX4.out wa GG;obtain ⟨sr,ta0,ta1,ta2,tf⟩:=SUM4.out wa GG;clear sr tf;go_wp2_with fail;refine hK.out _ _ ?zs1y19 (fun hHeld=>?zr1y19)
                       case zs1y19=>((try dsimp only);go_keep)
                       case zr1y19 =>
                        clear hK K
                        (try simp only [Act.put,ib,ig,ie])
                        refine wpAnyH_ready (rs:=[2]) (by kernel_rfl) (by simp) ?_;refine AllReadyH.cons (o:=⟨some 59,.load 91 (.tmp 12),91, "rows.go:134",#[],none⟩) rfl (fun K hK=>?_) AllReadyH.nil;go_simp
                        refine hK.out _ _ ?zs1y20 (fun hHeld=>?zr1y20)
                        case zs1y20=>((try dsimp only);go_keep)
                        case zr1y20 =>
                         clear hK K
                         (try simp only [Act.put,ib,ig,ie])
                         refine wpAnyH_ready (rs:=[14]) (by kernel_rfl) (by simp) ?_;refine AllReadyH.cons (o:=⟨some 71,.call ⟨.value (.tmp 58),#[.tmp 59,.tmp 70],#[91,91]⟩,91, "rows.go:134",#[⟨1,.data⟩,⟨2,.data⟩,⟨13,.data⟩,⟨13,.chain⟩],none⟩) rfl (fun K hK=>?_) AllReadyH.nil;go_simp
                         go_at_call 81
                         refine (cZ _ _ (dD R o Y d m t i) (R t u*Y u) LS (L+L+1) _ (SQ.out.keep0 (aa G4.out (by first | exact aa GG (aj _) | exact aa GG ah | exact GG))) (pa.keep0 (by first | exact aj _ | exact ah | exact ae _ _)) (by omega)).mono ?_;rintro e wm ⟨vm,rfl,pm,gm⟩;have pm:=pm.tight (L':=LS) HSI.out;obtain ⟨mo,ml,mc,no,nl,nc,rfl⟩:=pm.shape;have GG:wc.grownBy wm none:=aa (by first | exact aa GG (aj _) | exact aa GG ah | exact GG) gm;obtain ⟨b0,b1,b2,b3,b4,b5,b6,b7,b8,b9,b10,b11,b12⟩:=CX4.out wm GG;obtain ⟨sr,tb0,tb1,tb2,tf⟩:=SUM4.out wm GG;have tf0:=tf 0;have tf1:=tf 1;have tf2:=tf 2;clear tf;go_wp2_with fail;refine hK.out _ _ ?zs1y21 (fun hHeld=>?zr1y21)
                         case zs1y21=>((try dsimp only);go_keep)
                         case zr1y21 =>
                          clear hK K
                          (try simp only [Act.put,ib,ig,ie])
                          refine wpAnyH_ready (rs:=[15]) (by kernel_rfl) (by simp) ?_;refine AllReadyH.cons (o:=⟨none,.store 91 (.tmp 12) (.tmp 71),0, "rows.go:134",#[⟨14,.data⟩,⟨14,.chain⟩,⟨0,.phase⟩,⟨1,.phase⟩,⟨2,.phase⟩,⟨3,.phase⟩,⟨4,.phase⟩,⟨5,.phase⟩,⟨6,.phase⟩,⟨7,.phase⟩,⟨8,.phase⟩,⟨9,.phase⟩,⟨10,.phase⟩,⟨11,.phase⟩,⟨12,.phase⟩,⟨13,.phase⟩,⟨14,.phase⟩],none⟩) rfl (fun K hK=>?_) AllReadyH.nil;go_simp
                          refine hK.out _ _ ?zs1y22 (fun hHeld=>?zr1y22)
                          case zs1y22=>((try dsimp only);go_keep)
                          case zr1y22 =>
                           clear hK K
                           (try simp only [Act.put,ib,ig,ie])
                           refine wpAnyH_done (by kernel_rfl) ?_ _;have SR:=ab sr;have PM:=ab pm;have GF:=ab (aa K2.out (aa G4.out GG));clear sr pm GG;go_wp2;go_roundw
                           case rel =>
                            refine ⟨i+1,by omega,by go_num,?_,ai (ai (ai GF.out _ _ hgs) _ _ hgs) _ _ hgs⟩;rw [HSE.out];exact SR.out.varset PM.out (Nat.le_refl _)
                           case measure=>simp [intOf];omega
      ·obtain rfl:i=m-(t+1):=by omega
       obtain ⟨hot,_⟩:=HH.out.ot t hqt;obtain ⟨v,hv⟩:∃ v,v=o t:=⟨_,rfl⟩;have oc:=(OO.out.keep K2.out (by simp)).at t hqt;rw [<- hv] at oc hot;obtain ⟨eo,el,ec,ho,hl,hc_,c0,c1,c2,c3,_⟩:=((MM.out.row t hqt).keep0 K2.out).at v (by omega);obtain ⟨jo,jl,jc,ko,kl,kc,e0,e1,e2,e3,ef⟩:=(L1.out.keep0 K2.out).at v hot;have C3:=ab c3;have HPV:Hid (R t v≠0):=by rw [hv];exact (HH.out.piv t hqt).1
       have HPE:Hid (dD R o Y d m t (m-(t+1)) / R t v=Y v):=by show _=_;rw [hv];exact (HH.out.piv t hqt).2
       have HYV:Hid (bM L (Y v)):=HH.out.ys v hot;have HV:=ab hv;have CX:Hid (∀ wx,wr.grownBy wx none->wx.cell? ⟨w.heap.size,5,none⟩=some (.func (.func 81) #[] #[])/\wx.cell? ⟨w.heap.size,6,none⟩=some (.func (.func 101) #[] #[])/\wx.cell? ⟨w.heap.size,7,none⟩=some (.func (.func 102) #[] #[])/\wx.cell? ⟨w.heap.size,8,none⟩=some (.func (.func 103) #[] #[])/\wx.cell? ⟨w.heap.size+1,0,none⟩=some (.bool (rB d))/\wx.cell? ⟨w.heap.size+1,1,none⟩=some (.slice lo ll lc)/\wx.cell? ⟨w.heap.size+1,2,none⟩=some (.slice lo2 ll2 lc2)/\wx.cell? ⟨bs t,v*3,none⟩=some (.bool (rB (R t v)))/\wx.cell? ⟨bs t,v*3+1,none⟩=some (.slice eo el ec)/\wx.cell? ⟨bs t,v*3+2,none⟩=some (.slice ho hl hc_)/\wx.cell? ⟨gs,0,none⟩=some (.bool (rB (dD R o Y d m t (m-(t+1)))))/\wx.cell? ⟨gs,1,none⟩=some (.slice so sl sc)/\wx.cell? ⟨gs,2,none⟩=some (.slice to_ tl tc)/\wx.cell? ⟨bo,t,none⟩=some (.int .i64 ((v:Nat):Int))):=by
        intro wx hg;obtain ⟨s0,s1,s2,s3,s4,s5,s6⟩:=CELLS.out wx (L2.out.gr (aa K2.out hg)).1;obtain ⟨_,t0,t1,t2,_⟩:=SUM.out wx hg;exact ⟨s0,s1,s2,s3,s4,s5,s6,hg.cell c0 (by simp),hg.cell c1 (by simp),hg.cell c2 (by simp),t0,t1,t2,hg.cell oc (by simp)⟩
       have OUT:Hid (∀ wx,wr.grownBy wx none->aH wx go m (qD ip Y (t+1)) L/\wx.cell? ⟨go,v*3,none⟩=some (.bool (rB (qD ip Y (t+1) v)))/\wx.cell? ⟨go,v*3+1,none⟩=some (.slice jo jl jc)/\wx.cell? ⟨go,v*3+2,none⟩=some (.slice ko kl kc)/\∀ k,wx.frozen? ⟨go,k,none⟩=false):=by
        intro wx hg;have hr:=(L1.out.keep0 K2.out).keep0 hg;obtain ⟨_,_,_,_,_,_,_,_,_,_,hf⟩:=hr.at v hot;exact ⟨hr,hg.cell e0 (by simp),hg.cell e1 (by simp),hg.cell e2 (by simp),hf⟩
       clear c0 c1 c2 c3 e0 e1 e2 e3 ef hv oc;have GG:wr.grownBy wr none:=ae _ _;obtain ⟨s0,s1,s2,s3,s4,s5,s6,s7,s8,s9,s10,s11,s12,s13⟩:=CX.out wr GG;have nz4:go≠w.heap.size:=by have:=HGO.out;omega
       have nz5:go≠w.heap.size+1:=by have:=HGO.out;omega
       have nz6:go≠bs t:=by have:=HGO.out;have:=HBS.out t hqt;omega
       have nz7:go≠gs:=fun e=>HGS.out.2 e.symm
       have nz8:go≠bo:=by have:=HGO.out;omega
       have hv1:(v:Int)<(m:Int)+1:=by omega
       have hv2:(0:Int)<=(v:Int):=by omega
       have hv3:(v:Int)<(m:Int):=by omega
       have ht3:(t:Int)<(m:Int):=by omega
       have ht4:(0:Int)<=(t:Int):=by omega
       have hwt2:IntKind.i64.wrap ((t:Int)-1)=(t:Int)-1:=IntWalk.i64_in _ ⟨by omega,by omega⟩;go_wp2;go_region_held3 (fun w'=>w'.cell? ⟨w.heap.size,5,none⟩=some (.func (.func 81) #[] #[])/\w'.cell? ⟨w.heap.size,6,none⟩=some (.func (.func 101) #[] #[])/\w'.cell? ⟨w.heap.size,7,none⟩=some (.func (.func 102) #[] #[])/\w'.cell? ⟨w.heap.size,8,none⟩=some (.func (.func 103) #[] #[])/\w'.cell? ⟨w.heap.size+1,0,none⟩=some (.bool (rB d))/\w'.cell? ⟨w.heap.size+1,1,none⟩=some (.slice lo ll lc)/\w'.cell? ⟨w.heap.size+1,2,none⟩=some (.slice lo2 ll2 lc2)/\w'.cell? ⟨bs t,v*3,none⟩=some (.bool (rB (R t v)))/\w'.cell? ⟨bs t,v*3+1,none⟩=some (.slice eo el ec)/\w'.cell? ⟨bs t,v*3+2,none⟩=some (.slice ho hl hc_)/\w'.cell? ⟨gs,0,none⟩=some (.bool (rB (dD R o Y d m t (m-(t+1)))))/\w'.cell? ⟨gs,1,none⟩=some (.slice so sl sc)/\w'.cell? ⟨gs,2,none⟩=some (.slice to_ tl tc)/\w'.cell? ⟨bo,t,none⟩=some (.int .i64 ((v:Nat):Int))) (go_keep)
        (first | (go_at_call 102;refine (pE _ _ (dD R o Y d m t (m-(t+1))) (R t v) LS L _ (SQ.out.keep0 (by first | exact aa GG (aj _) | exact aa GG ah | exact GG)) (C3.out.keep0 (by first | exact aa GG (aj _) | exact aa GG ah | exact GG)) HPV.out (by omega)).mono ?_;rintro e wy ⟨vy,rfl,py,gy⟩;rw [HPE.out] at py;have py:=py.tight (L':=L) HYV.out;obtain ⟨mo,ml,mc,no,nl,nc,rfl⟩:=py.shape;have GG:wr.grownBy wy none:=aa (by first | exact aa GG (aj _) | exact aa GG ah | exact GG) gy;obtain ⟨b0,b1,b2,b3,b4,b5,b6,b7,b8,b9,b10,b11,b12,b13⟩:=CX.out wy GG;obtain ⟨fr,t0,t1,t2,tf⟩:=OUT.out wy GG;have tf0:=tf (v*3);have tf1:=tf (v*3+1);have tf2:=tf (v*3+2);clear tf))
       all_goals
        have FR:=ab fr;have PY:=ab py;have GF:=ab (aa K2.out GG);clear fr py GG;go_wp2;go_roundw
        case rel =>
         obtain ⟨r1,r2,r3⟩:=FR.out.set v hot PY.out;refine ⟨t,by omega,by first | rfl | (rw [hwt2]),r1.congr (fun j hj=>?_),(L2.out.gr GF.out).trans ⟨r2,r3⟩⟩;rw [HV.out];exact Cm HH.out t hqt j hj
        case measure=>simp [intOf]<;>omega
end Go.Proofs.YthblidglcppakaaGreatDoor
