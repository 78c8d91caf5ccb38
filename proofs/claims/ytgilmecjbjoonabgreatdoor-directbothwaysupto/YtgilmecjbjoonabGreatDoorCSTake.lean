/- Contracts that the proof leans on. -/
import Derived.Test.YtgilmecjbjoonabGreatDoorCCSa
import Derived.BigQuiet
namespace Go.Proofs.YtgilmecjbjoonabGreatDoor
open Go.RowKit
set_option linter.unusedVariables false
set_option linter.unusedSimpArgs false
set_option maxHeartbeats 8000000
set_option maxRecDepth 10000
def js (R P:Nat->Rat) (k:Nat) (d:Rat):Nat->Rat:=fun i=>(P k*R i-R k*P i) / d
def eJ (R P:Nat->Rat) (k:Nat) (d:Rat) (i:Nat):Nat->Rat:=fun j=>if j<i then js R P k d j else R j
theorem uj (R P:Nat->Rat) (k:Nat) (d:Rat) (i j:Nat):bq (eJ R P k d i) i (js R P k d i) j=eJ R P k d (i+1) j:=by
 unfold bq eJ;by_cases h:j=i
 ·rw [if_pos h,if_pos (by omega),h]
 ·rw [if_neg h];by_cases h2:j<i
  ·rw [if_pos h2,if_pos (by omega)]
  ·rw [if_neg h2,if_neg (by omega)]
theorem uh {R P:Nat->Rat} {k i:Nat} {d:Rat} (h:R i=0) (h2:R k=0∨P i=0):js R P k d i=R i:=by
 unfold js;rcases h2 with h2 | h2<;>rw [h,h2]<;>grind
theorem sH {R P:Nat->Rat} {k i:Nat} {d:Rat} (h:js R P k d i=R i) (j:Nat):eJ R P k d i j=eJ R P k d (i+1) j:=by
 unfold eJ;by_cases h2:j<i
 ·rw [if_pos h2,if_pos (by omega)]
 ·rw [if_neg h2];by_cases h3:j=i
  ·subst h3;rw [if_pos (by omega),h]
  ·rw [if_neg (by omega)]
def TakR (W:World) (b n:Nat) (R P:Nat->Rat) (k:Nat) (d:Rat) (L:Nat) (v:Value) (wr:World):Prop :=
 ∃ i:Nat,i<=n/\v=.int .i64 i/\aK wr b n (eJ R P k d i) L/\aW W wr b
theorem pN (W:World) (a0 a1 a2 b0 b1 b2:Value) :
  W.grownBy ((W.alloc (Obj.cells #[a0,a1,a2] 100)).alloc (Obj.cells #[b0,b1,b2] 100)).drew none
  /\ ((W.alloc (Obj.cells #[a0,a1,a2] 100)).alloc (Obj.cells #[b0,b1,b2] 100)).drew.cell? ⟨W.heap.size,0,none⟩=some (a0)/\((W.alloc (Obj.cells #[a0,a1,a2] 100)).alloc (Obj.cells #[b0,b1,b2] 100)).drew.cell? ⟨W.heap.size,1,none⟩=some (a1)/\((W.alloc (Obj.cells #[a0,a1,a2] 100)).alloc (Obj.cells #[b0,b1,b2] 100)).drew.cell? ⟨W.heap.size,2,none⟩=some (a2)/\((W.alloc (Obj.cells #[a0,a1,a2] 100)).alloc (Obj.cells #[b0,b1,b2] 100)).drew.cell? ⟨W.heap.size+1,0,none⟩=some (b0)/\((W.alloc (Obj.cells #[a0,a1,a2] 100)).alloc (Obj.cells #[b0,b1,b2] 100)).drew.cell? ⟨W.heap.size+1,1,none⟩=some (b1)/\((W.alloc (Obj.cells #[a0,a1,a2] 100)).alloc (Obj.cells #[b0,b1,b2] 100)).drew.cell? ⟨W.heap.size+1,2,none⟩=some (b2):=by
 have a:=aM (w:=W) (ar (ag (ae (W.alloc (Obj.cells #[a0,a1,a2] 100)) none) (Obj.cells #[b0,b1,b2] 100)) 1);have b:=aM (w:=W.alloc (Obj.cells #[a0,a1,a2] 100)) (ar (ae ((W.alloc (Obj.cells #[a0,a1,a2] 100)).alloc (Obj.cells #[b0,b1,b2] 100)) none) 1);have e:(W.alloc (Obj.cells #[a0,a1,a2] 100)).heap.size=W.heap.size+1:=by simp
 rw [e] at b;exact ⟨ar (ag (ag (ae _ _) _) _) 1,a.1,a.2.1,a.2.2,b.1,b.2.1,b.2.2⟩
theorem ui (fb:Bool) (fo fo2:Option Addr) (fl fc fl2 fc2:Nat) (b b2 n cap cap2 k:Nat) (R P:Nat->Rat) (d:Rat) (lv:Value) (L:Nat) (w:World) (hr:aK w b n R L) (hp:aK w b2 n P L) (hbb:b≠b2) (hy:FQ w lv d L)
  (hk:k<n) (hn:n<=cap) (hc:cap<=maxLen) (hn2:n<=cap2) (hc2:cap2<=maxLen) (hL1:1<=L) (hL:L<=50000000) (hd:d≠0) (hfit:∀ i,i<n->bN L (js R P k d i)) :
  Calls Tryz.prog 203 #[(iP fb (.slice fo fl fc) (.slice fo2 fl2 fc2)),.slice (some ⟨b,0,none⟩) n cap,.slice (some ⟨b2,0,none⟩) n cap2,.int .i64 (k:Nat),lv] w
   fun e w'=>e=.returned (.tuple #[])/\aK w' b n (js R P k d) L/\aW w w' b:=by
 have HR:=ab hr;have HP:=ab hp;have HY:=ab hy;have HD:=ab hd;have HF:=ab hfit;unfold maxLen at hc hc2;have hbl:=hr.lt;have hbl2:=hp.lt;obtain ⟨lo,ll,lc,lo2,ll2,lc2,rfl⟩:=hy.shape;obtain ⟨so,sl,sc,so2,sl2,sc2,c0,c1,c2,c3,_⟩:=hr.at k hk;obtain ⟨uo,ul,uc,vo,vl,vc,e0,e1,e2,e3,_⟩:=hp.at k hk;have C3:=ab c3;have E3:=ab e3;clear hr hp hy c3 e3 hd hfit;obtain ⟨W,hW⟩:∃ W,W=(w.alloc (Obj.cells #[.bool fb,.slice fo fl fc,.slice fo2 fl2 fc2,.func (.func 153) #[] #[],.func (.func 132) #[] #[],.func (.func 88) #[] #[],.func (.func 53) #[] #[],.func (.func 154) #[] #[],.func (.func 155) #[] #[],.func (.func 156) #[] #[],.func (.func 157) #[] #[]] 145)).alloc (Obj.cells #[.bool (rB d),.slice lo ll lc,.slice lo2 ll2 lc2] 100):=⟨_,rfl⟩;have GW:Hid (w.grownBy W none):=by rw [hW];exact ag (ag (ae _ _) _) _
 have HWS:Hid (W.heap.size=w.heap.size+2):=by show _=_;rw [hW];simp
 have BASE:Hid (W.cell? ⟨w.heap.size,3,none⟩=some (.func (.func 153) #[] #[])/\W.cell? ⟨w.heap.size,4,none⟩=some (.func (.func 132) #[] #[])/\W.cell? ⟨w.heap.size,5,none⟩=some (.func (.func 88) #[] #[])/\W.cell? ⟨w.heap.size,6,none⟩=some (.func (.func 53) #[] #[])/\W.cell? ⟨w.heap.size,7,none⟩=some (.func (.func 154) #[] #[])/\W.cell? ⟨w.heap.size,8,none⟩=some (.func (.func 155) #[] #[])/\W.cell? ⟨w.heap.size,9,none⟩=some (.func (.func 156) #[] #[])/\W.cell? ⟨w.heap.size,10,none⟩=some (.func (.func 157) #[] #[])/\W.cell? ⟨w.heap.size+1,0,none⟩=some (.bool (rB d))/\W.cell? ⟨w.heap.size+1,1,none⟩=some (.slice lo ll lc)/\W.cell? ⟨w.heap.size+1,2,none⟩=some (.slice lo2 ll2 lc2)):=by
  have hg:((w.alloc (Obj.cells #[.bool fb,.slice fo fl fc,.slice fo2 fl2 fc2,.func (.func 153) #[] #[],.func (.func 132) #[] #[],.func (.func 88) #[] #[],.func (.func 53) #[] #[],.func (.func 154) #[] #[],.func (.func 155) #[] #[],.func (.func 156) #[] #[],.func (.func 157) #[] #[]] 145)).alloc (Obj.cells #[.bool (rB d),.slice lo ll lc,.slice lo2 ll2 lc2] 100)).grownBy W none:=by rw [<- hW];exact ae _ _
  exact ⟨hg.cell (by go_simp) (by simp),hg.cell (by go_simp) (by simp),hg.cell (by go_simp) (by simp),hg.cell (by go_simp) (by simp),hg.cell (by go_simp) (by simp),hg.cell (by go_simp) (by simp),hg.cell (by go_simp) (by simp),hg.cell (by go_simp) (by simp),hg.cell (by go_simp) (by simp),hg.cell (by go_simp) (by simp),hg.cell (by go_simp) (by simp)⟩
 have r0:=GW.out.cell c0 (by simp);have r1:=GW.out.cell c1 (by simp);have r2:=GW.out.cell c2 (by simp);have q0:=GW.out.cell e0 (by simp);have q1:=GW.out.cell e1 (by simp);have q2:=GW.out.cell e2 (by simp);clear c0 c1 c2 e0 e1 e2;go_enter Tryz.func203,Tryz.ntmps203
 go_upto_region 1 with fail;rw [<- hW];clear hW;have hws:=HWS.out;have hne1:¬ b=W.heap.size:=by omega
 have hne2:¬ b2=W.heap.size:=by omega
 have hne3:¬ W.heap.size=b:=by omega
 have hne4:¬ W.heap.size=b2:=by omega
 have nw1:W.heap.size≠b:=by omega
 have nw2:W.heap.size≠b2:=by omega
 have nw3:W.heap.size+1≠b:=by omega
 have nw4:W.heap.size+1≠b2:=by omega
 go_cut [10,11] (fun s10 s11 wx=>Hid (∃ gp gr,s10=.pointer (some ⟨gp,0,none⟩)/\s11=.pointer (some ⟨gr,0,none⟩)/\W.heap.size<=gp/\W.heap.size<=gr/\W.grownBy wx none/\wx.cell? ⟨gp,0,none⟩=some (.bool (rB (P k)))/\wx.cell? ⟨gp,1,none⟩=some (.slice uo ul uc)/\wx.cell? ⟨gp,2,none⟩=some (.slice vo vl vc)/\wx.cell? ⟨gr,0,none⟩=some (.bool (rB (R k)))/\wx.cell? ⟨gr,1,none⟩=some (.slice so sl sc)/\wx.cell? ⟨gr,2,none⟩=some (.slice so2 sl2 sc2)))
 case first =>
  go_region_held3 (fun w'=>w'.cell? ⟨b,k*3,none⟩=some (.bool (rB (R k)))/\w'.cell? ⟨b,k*3+1,none⟩=some (.slice so sl sc)/\w'.cell? ⟨b,k*3+2,none⟩=some (.slice so2 sl2 sc2)/\w'.cell? ⟨b2,k*3,none⟩=some (.bool (rB (P k)))/\w'.cell? ⟨b2,k*3+1,none⟩=some (.slice uo ul uc)/\w'.cell? ⟨b2,k*3+2,none⟩=some (.slice vo vl vc)) (go_keep) (fail)
  all_goals (go_wp2_with fail;go_meet;first
   | (have T:=pN W (.bool (rB (P k))) (.slice uo ul uc) (.slice vo vl vc) (.bool (rB (R k))) (.slice so sl sc) (.slice so2 sl2 sc2);rw [hws] at T;obtain ⟨t0,t1,t2,t3,t4,t5,t6⟩:=T;exact ⟨_,_,rfl,rfl,by omega,by omega,t0,t1,t2,t3,t4,t5,t6⟩)
   | (have T:=pN W (.bool (rB (R k))) (.slice so sl sc) (.slice so2 sl2 sc2) (.bool (rB (P k))) (.slice uo ul uc) (.slice vo vl vc);rw [hws] at T;obtain ⟨t0,t1,t2,t3,t4,t5,t6⟩:=T;exact ⟨_,_,rfl,rfl,by omega,by omega,t0,t4,t5,t6,t1,t2,t3⟩))
 case rest =>
  obtain ⟨gp,gr,rfl,rfl,hgp,hgr,g1,h1⟩:=hcut.out;have G1:=ab (aa GW.out g1);have CELLS:Hid (∀ wx,wc.grownBy wx (some b)->wx.cell? ⟨w.heap.size,3,none⟩=some (.func (.func 153) #[] #[])/\wx.cell? ⟨w.heap.size,4,none⟩=some (.func (.func 132) #[] #[])/\wx.cell? ⟨w.heap.size,5,none⟩=some (.func (.func 88) #[] #[])/\wx.cell? ⟨w.heap.size,6,none⟩=some (.func (.func 53) #[] #[])/\wx.cell? ⟨w.heap.size,7,none⟩=some (.func (.func 154) #[] #[])/\wx.cell? ⟨w.heap.size,8,none⟩=some (.func (.func 155) #[] #[])/\wx.cell? ⟨w.heap.size,9,none⟩=some (.func (.func 156) #[] #[])/\wx.cell? ⟨w.heap.size,10,none⟩=some (.func (.func 157) #[] #[])/\wx.cell? ⟨w.heap.size+1,0,none⟩=some (.bool (rB d))/\wx.cell? ⟨w.heap.size+1,1,none⟩=some (.slice lo ll lc)/\wx.cell? ⟨w.heap.size+1,2,none⟩=some (.slice lo2 ll2 lc2)/\wx.cell? ⟨gp,0,none⟩=some (.bool (rB (P k)))/\wx.cell? ⟨gp,1,none⟩=some (.slice uo ul uc)/\wx.cell? ⟨gp,2,none⟩=some (.slice vo vl vc)/\wx.cell? ⟨gr,0,none⟩=some (.bool (rB (R k)))/\wx.cell? ⟨gr,1,none⟩=some (.slice so sl sc)/\wx.cell? ⟨gr,2,none⟩=some (.slice so2 sl2 sc2)):=by
   intro wx hg;obtain ⟨s0,s1,s2,s3,s4,s5,s6,s7,s8,s9,s10⟩:=BASE.out;obtain ⟨x0,x1,x2,y0,y1,y2⟩:=h1;have n1:some w.heap.size≠some b:=fun e=>by have:=Option.some.inj e;omega
   have n2:some (w.heap.size+1)≠some b:=fun e=>by have:=Option.some.inj e;omega
   have n3:some gp≠some b:=fun e=>by have:=Option.some.inj e;omega
   have n4:some gr≠some b:=fun e=>by have:=Option.some.inj e;omega
   exact ⟨hg.cell ((aa g1 (ae _ _)).cell s0 (by simp)) n1,hg.cell ((aa g1 (ae _ _)).cell s1 (by simp)) n1,hg.cell ((aa g1 (ae _ _)).cell s2 (by simp)) n1,hg.cell ((aa g1 (ae _ _)).cell s3 (by simp)) n1,hg.cell ((aa g1 (ae _ _)).cell s4 (by simp)) n1,hg.cell ((aa g1 (ae _ _)).cell s5 (by simp)) n1,hg.cell ((aa g1 (ae _ _)).cell s6 (by simp)) n1,hg.cell ((aa g1 (ae _ _)).cell s7 (by simp)) n1,hg.cell (g1.cell s8 (by simp)) n2,hg.cell (g1.cell s9 (by simp)) n2,hg.cell (g1.cell s10 (by simp)) n2,hg.cell x0 n3,hg.cell x1 n3,hg.cell x2 n3,hg.cell y0 n4,hg.cell y1 n4,hg.cell y2 n4⟩
  have CELLS0:Hid (∀ wx,wc.grownBy wx none->wx.cell? ⟨w.heap.size,3,none⟩=some (.func (.func 153) #[] #[])/\wx.cell? ⟨w.heap.size,4,none⟩=some (.func (.func 132) #[] #[])/\wx.cell? ⟨w.heap.size,5,none⟩=some (.func (.func 88) #[] #[])/\wx.cell? ⟨w.heap.size,6,none⟩=some (.func (.func 53) #[] #[])/\wx.cell? ⟨w.heap.size,7,none⟩=some (.func (.func 154) #[] #[])/\wx.cell? ⟨w.heap.size,8,none⟩=some (.func (.func 155) #[] #[])/\wx.cell? ⟨w.heap.size,9,none⟩=some (.func (.func 156) #[] #[])/\wx.cell? ⟨w.heap.size,10,none⟩=some (.func (.func 157) #[] #[])/\wx.cell? ⟨w.heap.size+1,0,none⟩=some (.bool (rB d))/\wx.cell? ⟨w.heap.size+1,1,none⟩=some (.slice lo ll lc)/\wx.cell? ⟨w.heap.size+1,2,none⟩=some (.slice lo2 ll2 lc2)/\wx.cell? ⟨gp,0,none⟩=some (.bool (rB (P k)))/\wx.cell? ⟨gp,1,none⟩=some (.slice uo ul uc)/\wx.cell? ⟨gp,2,none⟩=some (.slice vo vl vc)/\wx.cell? ⟨gr,0,none⟩=some (.bool (rB (R k)))/\wx.cell? ⟨gr,1,none⟩=some (.slice so sl sc)/\wx.cell? ⟨gr,2,none⟩=some (.slice so2 sl2 sc2)):=fun wx hg=>CELLS.out wx (aW.of_gr hg).1
  have HRc:=ab (HR.out.keep0 G1.out);have HPc:=ab (HP.out.keep0 G1.out);have HYc:=ab (HY.out.keep0 G1.out);have C3c:=ab (C3.out.keep0 G1.out);have E3c:=ab (E3.out.keep0 G1.out);have HSZ:Hid (w.heap.size+2<=wc.heap.size):=by show _<=_;have:=g1.size;omega
  have HGL:Hid (gp<wc.heap.size/\gr<wc.heap.size):=⟨cP h1.1,cP h1.2.2.2.1⟩;have GG:wc.grownBy wc none:=ae _ _;obtain ⟨s0,s1,s2,s3,s4,s5,s6,s7,s8,s9,s10,s11,s12,s13,s14,s15,s16⟩:=CELLS0.out wc GG;clear hcut h1 g1 r0 r1 r2 q0 q1 q2 BASE hne1 hne2 hne3 hne4 nw1 nw2 nw3 nw4;go_wp2;go_cut [35] (fun s35 wx=>Hid (s35=.bool (decide (R k=0) && decide (P k-d=0))/\wc.grownBy wx none))
  case first =>
   by_cases h0:R k=0
   ·have hzd:decide (R k=0)=true:=decide_eq_true h0;have HZD:=ab hzd;clear hzd h0;go_region_held3 (fun w'=>w'.cell? ⟨w.heap.size,3,none⟩=some (.func (.func 153) #[] #[])/\w'.cell? ⟨w.heap.size,4,none⟩=some (.func (.func 132) #[] #[])/\w'.cell? ⟨w.heap.size,5,none⟩=some (.func (.func 88) #[] #[])/\w'.cell? ⟨w.heap.size,6,none⟩=some (.func (.func 53) #[] #[])/\w'.cell? ⟨w.heap.size,7,none⟩=some (.func (.func 154) #[] #[])/\w'.cell? ⟨w.heap.size,8,none⟩=some (.func (.func 155) #[] #[])/\w'.cell? ⟨w.heap.size,9,none⟩=some (.func (.func 156) #[] #[])/\w'.cell? ⟨w.heap.size,10,none⟩=some (.func (.func 157) #[] #[])/\w'.cell? ⟨w.heap.size+1,0,none⟩=some (.bool (rB d))/\w'.cell? ⟨w.heap.size+1,1,none⟩=some (.slice lo ll lc)/\w'.cell? ⟨w.heap.size+1,2,none⟩=some (.slice lo2 ll2 lc2)/\w'.cell? ⟨gp,0,none⟩=some (.bool (rB (P k)))/\w'.cell? ⟨gp,1,none⟩=some (.slice uo ul uc)/\w'.cell? ⟨gp,2,none⟩=some (.slice vo vl vc)/\w'.cell? ⟨gr,0,none⟩=some (.bool (rB (R k)))/\w'.cell? ⟨gr,1,none⟩=some (.slice so sl sc)/\w'.cell? ⟨gr,2,none⟩=some (.slice so2 sl2 sc2)) (go_keep)
     (first | (go_at_call_of 155 (Value.agg #[.bool (rB (R k)),.slice so sl sc,.slice so2 sl2 sc2]);refine (bu _ (R k) L _ (C3c.out.keep0 (by first | exact aa GG (aj _) | exact aa GG ah | exact GG))).mono ?_;rintro e wa ⟨rfl,ga⟩;rw [HZD.out];have GG:wc.grownBy wa none:=aa (by first | exact aa GG (aj _) | exact aa GG ah | exact GG) ga;obtain ⟨a0,a1,a2,a3,a4,a5,a6,a7,a8,a9,a10,a11,a12,a13,a14,a15,a16⟩:=CELLS0.out wa GG) | (go_at_call 88;refine (cN _ _ (P k) d L L _ (E3c.out.keep0 (by first | exact aa GG (aj _) | exact aa GG ah | exact GG)) (HYc.out.keep0 (by first | exact aa GG (aj _) | exact aa GG ah | exact GG)) (by omega)).mono ?_;rintro e wm ⟨vm,rfl,pm,gm⟩;obtain ⟨mo,ml,mc,mo2,ml2,mc2,rfl⟩:=pm.shape;have KP:=aa (by first | exact aj _ | exact ah | exact ae _ _) gm;clear KP;have GG:wc.grownBy wm none:=aa (by first | exact aa GG (aj _) | exact aa GG ah | exact GG) gm;obtain ⟨m0,m1,m2,m3,m4,m5,m6,m7,m8,m9,m10,m11,m12,m13,m14,m15,m16⟩:=CELLS0.out wm GG) | (go_at_call_of 155 (Value.agg #[.bool (rB (P k-d)),.slice mo ml mc,.slice mo2 ml2 mc2]);refine (bu _ (P k-d) (L+L+2) _ (pm.keep0 (by first | exact aj _ | exact ah | exact ae _ _))).mono ?_;rintro e wz ⟨rfl,gz⟩;have GG:wc.grownBy wz none:=aa (by first | exact aa GG (aj _) | exact aa GG ah | exact GG) gz;obtain ⟨z0,z1,z2,z3,z4,z5,z6,z7,z8,z9,z10,z11,z12,z13,z14,z15,z16⟩:=CELLS0.out wz GG))
    all_goals (go_wp2_with fail;go_meet;exact ⟨by rw [HZD.out,Bool.true_and],(by first | exact aa GG (aj _) | exact aa GG ah | exact GG)⟩)
   ·have hzd:decide (R k=0)=false:=decide_eq_false h0;have HZD:=ab hzd;clear hzd h0;refine wp_region_held_drew (S:=(fun w'=>w'.cell? ⟨w.heap.size,3,none⟩=some (.func (.func 153) #[] #[])/\w'.cell? ⟨w.heap.size,4,none⟩=some (.func (.func 132) #[] #[])/\w'.cell? ⟨w.heap.size,5,none⟩=some (.func (.func 88) #[] #[])/\w'.cell? ⟨w.heap.size,6,none⟩=some (.func (.func 53) #[] #[])/\w'.cell? ⟨w.heap.size,7,none⟩=some (.func (.func 154) #[] #[])/\w'.cell? ⟨w.heap.size,8,none⟩=some (.func (.func 155) #[] #[])/\w'.cell? ⟨w.heap.size,9,none⟩=some (.func (.func 156) #[] #[])/\w'.cell? ⟨w.heap.size,10,none⟩=some (.func (.func 157) #[] #[])/\w'.cell? ⟨w.heap.size+1,0,none⟩=some (.bool (rB d))/\w'.cell? ⟨w.heap.size+1,1,none⟩=some (.slice lo ll lc)/\w'.cell? ⟨w.heap.size+1,2,none⟩=some (.slice lo2 ll2 lc2)/\w'.cell? ⟨gp,0,none⟩=some (.bool (rB (P k)))/\w'.cell? ⟨gp,1,none⟩=some (.slice uo ul uc)/\w'.cell? ⟨gp,2,none⟩=some (.slice vo vl vc)/\w'.cell? ⟨gr,0,none⟩=some (.bool (rB (R k)))/\w'.cell? ⟨gr,1,none⟩=some (.slice so sl sc)/\w'.cell? ⟨gr,2,none⟩=some (.slice so2 sl2 sc2))) (by kernel_rfl) ?zs1z (fun hHeld=>?zr1z)
    case zs1z=>((try dsimp only);go_keep)
    case zr1z =>
     refine wpAnyH_take (i:=0) (oi:=⟨some 22,.fieldAddr 145 (.tmp 5) 6,0, "rows.go:115",#[],none⟩) (v:=.pointer (some ⟨w.heap.size,8,none⟩)) rfl (by kernel_rfl) (by kernel_rfl) (by kernel_rfl) (fun _ _ _ h=>h) (Or.inl ⟨by rfl,?zy1z0⟩) (by assumption) ?zr1z0
     case zy1z0=>(intro w hSw;(try dsimp only at hSw);go_simp)
     case zr1z0 =>
      (try simp only [Act.put,aA,aC,aB])
      refine wpAnyH_take (i:=1) (oi:=⟨some 23,.load 142 (.tmp 22),142, "rows.go:115",#[⟨0,.data⟩],none⟩) (v:=.func (.func 155) #[] #[]) rfl (by kernel_rfl) (by kernel_rfl) (by kernel_rfl) (fun _ _ _ h=>h) (Or.inl ⟨by rfl,?zy1z1⟩) (by assumption) ?zr1z1
      case zy1z1=>(intro w hSw;(try dsimp only at hSw);go_simp)
      case zr1z1 =>
       (try simp only [Act.put,aA,aC,aB])
       refine wpAnyH_take (i:=2) (oi:=⟨some 24,.load 100 (.tmp 11),100, "rows.go:115",#[],none⟩) (v:=Value.agg #[.bool (rB (R k)),.slice so sl sc,.slice so2 sl2 sc2]) rfl (by kernel_rfl) (by kernel_rfl) (by kernel_rfl) (fun _ _ _ h=>h) (Or.inl ⟨by rfl,?zy1z2⟩) (by assumption) ?zr1z2
       case zy1z2=>(intro w hSw;(try dsimp only at hSw);go_simp)
       case zr1z2 =>
        (try simp only [Act.put,aA,aC,aB])
        refine wpAnyH_ready (rs:=[3]) (by kernel_rfl) (by simp) ?_;refine AllReadyH.cons (o:=⟨some 25,.call ⟨.value (.tmp 23),#[.tmp 24],#[100]⟩,4, "rows.go:115",#[⟨1,.data⟩,⟨2,.data⟩],none⟩) rfl (fun K hK=>?_) AllReadyH.nil;go_simp
        go_at_call_of 155 (Value.agg #[.bool (rB (R k)),.slice so sl sc,.slice so2 sl2 sc2])
        refine (bu _ (R k) L _ (C3c.out.keep0 (by first | exact aa GG (aj _) | exact aa GG ah | exact GG))).mono ?_;rintro e wa ⟨rfl,ga⟩;rw [HZD.out];have GG:wc.grownBy wa none:=aa (by first | exact aa GG (aj _) | exact aa GG ah | exact GG) ga;obtain ⟨a0,a1,a2,a3,a4,a5,a6,a7,a8,a9,a10,a11,a12,a13,a14,a15,a16⟩:=CELLS0.out wa GG;go_wp2_with fail;refine hK.out _ _ ?zs1z3 (fun hHeld=>?zr1z3)
        case zs1z3=>((try dsimp only);go_keep)
        case zr1z3 =>
         clear hK K
         (try simp only [Act.put,aA,aC,aB])
         refine wpAnyH_take (i:=4) (oi:=⟨some 26,.move (.tmp 25),4, "rows.go:115",#[⟨3,.data⟩,⟨3,.chain⟩],none⟩) (v:=.bool false) rfl (by kernel_rfl) (by kernel_rfl) (by kernel_rfl) (fun _ _ _ h=>h) (Or.inl ⟨by rfl,?zy1z4⟩) (by assumption) ?zr1z4
         case zy1z4=>(intro w hSw;(try dsimp only at hSw);go_simp)
         case zr1z4 =>
          (try simp only [Act.put,aA,aC,aB])
          refine wpAnyH_take (i:=5) (oi:=⟨some 27,.fieldAddr 145 (.tmp 5) 6,0, "rows.go:115",#[⟨4,.guard⟩],some (4,true)⟩) (v:=undef) rfl (by kernel_rfl) (by kernel_rfl) (by kernel_rfl) (fun _ _ _ h=>h) (Or.inr ⟨by rfl,rfl⟩) (by assumption) ?_
          (try simp only [Act.put,aA,aC,aB])
          refine wpAnyH_take (i:=6) (oi:=⟨some 28,.load 142 (.tmp 27),142, "rows.go:115",#[⟨5,.data⟩,⟨4,.guard⟩],some (4,true)⟩) (v:=undef) rfl (by kernel_rfl) (by kernel_rfl) (by kernel_rfl) (fun _ _ _ h=>h) (Or.inr ⟨by rfl,rfl⟩) (by assumption) ?_
          (try simp only [Act.put,aA,aC,aB])
          refine wpAnyH_take (i:=7) (oi:=⟨some 29,.fieldAddr 145 (.tmp 5) 3,0, "rows.go:115",#[⟨4,.guard⟩],some (4,true)⟩) (v:=undef) rfl (by kernel_rfl) (by kernel_rfl) (by kernel_rfl) (fun _ _ _ h=>h) (Or.inr ⟨by rfl,rfl⟩) (by assumption) ?_
          (try simp only [Act.put,aA,aC,aB])
          refine wpAnyH_take (i:=8) (oi:=⟨some 30,.load 141 (.tmp 29),141, "rows.go:115",#[⟨7,.data⟩,⟨4,.guard⟩],some (4,true)⟩) (v:=undef) rfl (by kernel_rfl) (by kernel_rfl) (by kernel_rfl) (fun _ _ _ h=>h) (Or.inr ⟨by rfl,rfl⟩) (by assumption) ?_
          (try simp only [Act.put,aA,aC,aB])
          refine wpAnyH_take (i:=9) (oi:=⟨some 31,.load 100 (.tmp 10),100, "rows.go:115",#[⟨4,.guard⟩],some (4,true)⟩) (v:=undef) rfl (by kernel_rfl) (by kernel_rfl) (by kernel_rfl) (fun _ _ _ h=>h) (Or.inr ⟨by rfl,rfl⟩) (by assumption) ?_
          (try simp only [Act.put,aA,aC,aB])
          refine wpAnyH_take (i:=10) (oi:=⟨some 32,.load 100 (.tmp 9),100, "rows.go:115",#[⟨4,.guard⟩],some (4,true)⟩) (v:=undef) rfl (by kernel_rfl) (by kernel_rfl) (by kernel_rfl) (fun _ _ _ h=>h) (Or.inr ⟨by rfl,rfl⟩) (by assumption) ?_
          (try simp only [Act.put,aA,aC,aB])
          refine wpAnyH_take (i:=11) (oi:=⟨some 33,.call ⟨.value (.tmp 30),#[.tmp 31,.tmp 32],#[100,100]⟩,100, "rows.go:115",#[⟨8,.data⟩,⟨9,.data⟩,⟨10,.data⟩,⟨4,.chain⟩,⟨4,.guard⟩],some (4,true)⟩) (v:=undef) rfl (by kernel_rfl) (by kernel_rfl) (by kernel_rfl) (fun _ _ _ h=>h) (Or.inr ⟨by rfl,rfl⟩) (by assumption) ?_
          (try simp only [Act.put,aA,aC,aB])
          refine wpAnyH_take (i:=12) (oi:=⟨some 34,.call ⟨.value (.tmp 28),#[.tmp 33],#[100]⟩,4, "rows.go:115",#[⟨6,.data⟩,⟨11,.data⟩,⟨11,.chain⟩,⟨4,.guard⟩],some (4,true)⟩) (v:=undef) rfl (by kernel_rfl) (by kernel_rfl) (by kernel_rfl) (fun _ _ _ h=>h) (Or.inr ⟨by rfl,rfl⟩) (by assumption) ?_
          (try simp only [Act.put,aA,aC,aB])
          refine wpAnyH_take (i:=13) (oi:=⟨some 35,.pick (.tmp 26) (.tmp 34) (.const (Value.bool false)),4, "rows.go:115",#[⟨4,.data⟩,⟨12,.data⟩],none⟩) (v:=.bool false) rfl (by kernel_rfl) (by kernel_rfl) (by kernel_rfl) (fun _ _ _ h=>h) (Or.inl ⟨by rfl,?zy1z13⟩) (by assumption) ?zr1z13
          case zy1z13=>(intro w hSw;(try dsimp only at hSw);go_simp)
          case zr1z13 =>
           (try simp only [Act.put,aA,aC,aB])
           refine wpAnyH_done (by kernel_rfl) ?_ _
           (go_wp2_with fail;go_meet;exact ⟨by rw [HZD.out,Bool.false_and],(by first | exact aa GG (aj _) | exact aa GG ah | exact GG)⟩)
  case rest =>
   obtain ⟨rfl,g2⟩:=hcut.out;have G2:=ab g2;clear hcut g2 GG s0 s1 s2 s3 s4 s5 s6 s7 s8 s9 s10 s11 s12 s13 s14 s15 s16;have CELLSL:Hid (∀ wx,wc.grownBy wx (some b)->wx.cell? ⟨w.heap.size,3,none⟩=some (.func (.func 153) #[] #[])/\wx.cell? ⟨w.heap.size,4,none⟩=some (.func (.func 132) #[] #[])/\wx.cell? ⟨w.heap.size,5,none⟩=some (.func (.func 88) #[] #[])/\wx.cell? ⟨w.heap.size,6,none⟩=some (.func (.func 53) #[] #[])/\wx.cell? ⟨w.heap.size,7,none⟩=some (.func (.func 154) #[] #[])/\wx.cell? ⟨w.heap.size,8,none⟩=some (.func (.func 155) #[] #[])/\wx.cell? ⟨w.heap.size,9,none⟩=some (.func (.func 156) #[] #[])/\wx.cell? ⟨w.heap.size,10,none⟩=some (.func (.func 157) #[] #[])/\wx.cell? ⟨w.heap.size+1,0,none⟩=some (.bool (rB d))/\wx.cell? ⟨w.heap.size+1,1,none⟩=some (.slice lo ll lc)/\wx.cell? ⟨w.heap.size+1,2,none⟩=some (.slice lo2 ll2 lc2)/\wx.cell? ⟨gp,0,none⟩=some (.bool (rB (P k)))/\wx.cell? ⟨gp,1,none⟩=some (.slice uo ul uc)/\wx.cell? ⟨gp,2,none⟩=some (.slice vo vl vc)/\wx.cell? ⟨gr,0,none⟩=some (.bool (rB (R k)))/\wx.cell? ⟨gr,1,none⟩=some (.slice so sl sc)/\wx.cell? ⟨gr,2,none⟩=some (.slice so2 sl2 sc2)):=fun wx hg=>CELLS.out wx (au (r:=some b) G2.out hg (fun _ _ e=>by cases e) (fun _ _ e=>e))
   have HRl:=ab (HRc.out.keep0 G2.out);have HPl:=ab (HPc.out.keep0 G2.out);have HYl:=ab (HYc.out.keep0 G2.out);have C3l:=ab (C3c.out.keep0 G2.out);have E3l:=ab (E3c.out.keep0 G2.out);have G12:=ab (aa G1.out G2.out);have hszl:w.heap.size+2<=wc.heap.size:=Nat.le_trans HSZ.out G2.out.size;clear HRc HPc HYc C3c E3c CELLS CELLS0 HR HP HY C3 E3;by_cases hs:R k=0/\P k-d=0
   ·have hb:(decide (R k=0) && decide (P k-d=0))=true:=by simp [hs]
    rw [hb];have HS:=ab hs;clear hs hb;go_wp2;refine bodyPost_ret (v:=.tuple #[]) (by simp [results,Tryz.results203,go_sem]) rfl ?_;refine ⟨rfl,HRl.out.congr (fun i _=>?_),aW.of_gr G12.out⟩;obtain ⟨h1,h2⟩:=HS.out;have hpd:P k=d:=by grind
    have hd:=HD.out;unfold js;have e:d*R i-0*P i=R i*d:=by grind
    rw [h1,hpd,e,Rat.mul_div_cancel hd]
   ·have hb:(decide (R k=0) && decide (P k-d=0))=false:=by
     rw [Bool.and_eq_false_iff];by_cases h1:R k=0
     ·right;exact decide_eq_false (fun h2=>hs ⟨h1,h2⟩)
     ·left;exact decide_eq_false h1
    rw [hb];clear hs hb;go_wp2;go_loopw [38] (fun v wr=>Hid (TakR wc b n R P k d L v wr)) (fun v _=>n-(intOf v).toNat)
    case atStart=>exact ⟨0,by omega,rfl,HRl.out.congr (fun i _=>by unfold eJ;rw [if_neg (by omega)]),aW.refl _ _⟩
    case round =>
     obtain ⟨i,hi,rfl,l1,l2⟩:=hrel.out;have L1:=ab l1;have L2:=ab l2;clear l1 l2 hrel;by_cases hlt:i<n
     ·have hRi:eJ R P k d i i=R i:=by unfold eJ;rw [if_neg (by omega)]
      obtain ⟨xo,xl,xc,yo,yl,yc,c0,c1,c2,c3,_⟩:=L1.out.at i hlt;rw [hRi] at c0 c3;obtain ⟨po,pl,pc,qo,ql,qc,e0,e1,e2,e3,_⟩:=(HPl.out.keep L2.out.1 L2.out.2 (fun e=>hbb (Option.some.inj e).symm)).at i hlt;have X3:=ab c3;have Q3:=ab e3;clear c3 e3 hRi;go_upto_region 6 with fail;obtain ⟨w2,hw2⟩:∃ w2,w2=wr.alloc (Obj.cells #[.bool (rB (R i)),.slice xo xl xc,.slice yo yl yc] 100):=⟨_,rfl⟩;have G3:Hid (wr.grownBy w2 none):=by rw [hw2];exact ag (ae _ _) _
      have CX:Hid (∀ wx,w2.grownBy wx none->wx.cell? ⟨w.heap.size,3,none⟩=some (.func (.func 153) #[] #[])/\wx.cell? ⟨w.heap.size,4,none⟩=some (.func (.func 132) #[] #[])/\wx.cell? ⟨w.heap.size,5,none⟩=some (.func (.func 88) #[] #[])/\wx.cell? ⟨w.heap.size,6,none⟩=some (.func (.func 53) #[] #[])/\wx.cell? ⟨w.heap.size,7,none⟩=some (.func (.func 154) #[] #[])/\wx.cell? ⟨w.heap.size,8,none⟩=some (.func (.func 155) #[] #[])/\wx.cell? ⟨w.heap.size,9,none⟩=some (.func (.func 156) #[] #[])/\wx.cell? ⟨w.heap.size,10,none⟩=some (.func (.func 157) #[] #[])/\wx.cell? ⟨w.heap.size+1,0,none⟩=some (.bool (rB d))/\wx.cell? ⟨w.heap.size+1,1,none⟩=some (.slice lo ll lc)/\wx.cell? ⟨w.heap.size+1,2,none⟩=some (.slice lo2 ll2 lc2)/\wx.cell? ⟨gp,0,none⟩=some (.bool (rB (P k)))/\wx.cell? ⟨gp,1,none⟩=some (.slice uo ul uc)/\wx.cell? ⟨gp,2,none⟩=some (.slice vo vl vc)/\wx.cell? ⟨gr,0,none⟩=some (.bool (rB (R k)))/\wx.cell? ⟨gr,1,none⟩=some (.slice so sl sc)/\wx.cell? ⟨gr,2,none⟩=some (.slice so2 sl2 sc2)/\wx.cell? ⟨wr.heap.size,0,none⟩=some (.bool (rB (R i)))/\wx.cell? ⟨wr.heap.size,1,none⟩=some (.slice xo xl xc)/\wx.cell? ⟨wr.heap.size,2,none⟩=some (.slice yo yl yc)/\wx.cell? ⟨b2,i*3,none⟩=some (.bool (rB (P i)))/\wx.cell? ⟨b2,i*3+1,none⟩=some (.slice po pl pc)/\wx.cell? ⟨b2,i*3+2,none⟩=some (.slice qo ql qc)):=by
       intro wx hg;have hgr:=aa G3.out hg;obtain ⟨s0,s1,s2,s3,s4,s5,s6,s7,s8,s9,s10,s11,s12,s13,s14,s15,s16⟩:=CELLSL.out wx (L2.out.gr hgr).1;rw [hw2] at hg;obtain ⟨x0,x1,x2⟩:=aM hg;exact ⟨s0,s1,s2,s3,s4,s5,s6,s7,s8,s9,s10,s11,s12,s13,s14,s15,s16,x0,x1,x2,hgr.cell e0 (by simp),hgr.cell e1 (by simp),hgr.cell e2 (by simp)⟩
      have RB:Hid (∀ wx,w2.grownBy wx none->aK wx b n (eJ R P k d i) L/\wx.cell? ⟨b,i*3,none⟩=some (.bool (rB (R i)))/\wx.cell? ⟨b,i*3+1,none⟩=some (.slice xo xl xc)/\wx.cell? ⟨b,i*3+2,none⟩=some (.slice yo yl yc)):=by
       intro wx hg;have hgr:=aa G3.out hg;exact ⟨L1.out.keep0 hgr,hgr.cell c0 (by simp),hgr.cell c1 (by simp),hgr.cell c2 (by simp)⟩
      rw [<- hw2];clear hw2 c0 c1 c2 e0 e1 e2;have hwr:w.heap.size+2<=wr.heap.size:=Nat.le_trans hszl L2.out.1.size;have X2:=ab (X3.out.keep0 G3.out);have Q2:=ab (Q3.out.keep0 G3.out);have KL:=ab ((L2.out.gr G3.out).2);have GG:w2.grownBy w2 none:=ae _ _;obtain ⟨s0,s1,s2,s3,s4,s5,s6,s7,s8,s9,s10,s11,s12,s13,s14,s15,s16,s17,s18,s19,s20,s21,s22⟩:=CX.out w2 GG;go_cut [61] (fun s61 wx=>Hid (s61=.bool (decide (R i=0) && (decide (R k=0) || decide (P i=0)))/\w2.grownBy wx none))
      case first =>
       by_cases hx0:R i=0
       ·have HZX:Hid (decide (R i=0)=true):=decide_eq_true hx0;clear hx0;by_cases hk0:R k=0
        ·have HZK:Hid (decide (R k=0)=true):=decide_eq_true hk0;clear hk0;refine wp_region_held_drew (S:=(fun w'=>w'.cell? ⟨w.heap.size,3,none⟩=some (.func (.func 153) #[] #[])/\w'.cell? ⟨w.heap.size,4,none⟩=some (.func (.func 132) #[] #[])/\w'.cell? ⟨w.heap.size,5,none⟩=some (.func (.func 88) #[] #[])/\w'.cell? ⟨w.heap.size,6,none⟩=some (.func (.func 53) #[] #[])/\w'.cell? ⟨w.heap.size,7,none⟩=some (.func (.func 154) #[] #[])/\w'.cell? ⟨w.heap.size,8,none⟩=some (.func (.func 155) #[] #[])/\w'.cell? ⟨w.heap.size,9,none⟩=some (.func (.func 156) #[] #[])/\w'.cell? ⟨w.heap.size,10,none⟩=some (.func (.func 157) #[] #[])/\w'.cell? ⟨w.heap.size+1,0,none⟩=some (.bool (rB d))/\w'.cell? ⟨w.heap.size+1,1,none⟩=some (.slice lo ll lc)/\w'.cell? ⟨w.heap.size+1,2,none⟩=some (.slice lo2 ll2 lc2)/\w'.cell? ⟨gp,0,none⟩=some (.bool (rB (P k)))/\w'.cell? ⟨gp,1,none⟩=some (.slice uo ul uc)/\w'.cell? ⟨gp,2,none⟩=some (.slice vo vl vc)/\w'.cell? ⟨gr,0,none⟩=some (.bool (rB (R k)))/\w'.cell? ⟨gr,1,none⟩=some (.slice so sl sc)/\w'.cell? ⟨gr,2,none⟩=some (.slice so2 sl2 sc2)/\w'.cell? ⟨wr.heap.size,0,none⟩=some (.bool (rB (R i)))/\w'.cell? ⟨wr.heap.size,1,none⟩=some (.slice xo xl xc)/\w'.cell? ⟨wr.heap.size,2,none⟩=some (.slice yo yl yc)/\w'.cell? ⟨b2,i*3,none⟩=some (.bool (rB (P i)))/\w'.cell? ⟨b2,i*3+1,none⟩=some (.slice po pl pc)/\w'.cell? ⟨b2,i*3+2,none⟩=some (.slice qo ql qc))) (by kernel_rfl) ?zs3z (fun hHeld=>?zr3z)
         case zs3z=>((try dsimp only);go_keep)
         case zr3z =>
          refine wpAnyH_take (i:=0) (oi:=⟨some 43,.fieldAddr 145 (.tmp 5) 6,0, "rows.go:119",#[],none⟩) (v:=.pointer (some ⟨w.heap.size,8,none⟩)) rfl (by kernel_rfl) (by kernel_rfl) (by kernel_rfl) (fun _ _ _ h=>h) (Or.inl ⟨by rfl,?zy3z0⟩) (by assumption) ?zr3z0
          case zy3z0=>(intro w hSw;(try dsimp only at hSw);go_simp)
          case zr3z0 =>
           (try simp only [Act.put,aA,aC,aB])
           refine wpAnyH_take (i:=1) (oi:=⟨some 44,.load 142 (.tmp 43),142, "rows.go:119",#[⟨0,.data⟩],none⟩) (v:=.func (.func 155) #[] #[]) rfl (by kernel_rfl) (by kernel_rfl) (by kernel_rfl) (fun _ _ _ h=>h) (Or.inl ⟨by rfl,?zy3z1⟩) (by assumption) ?zr3z1
           case zy3z1=>(intro w hSw;(try dsimp only at hSw);go_simp)
           case zr3z1 =>
            (try simp only [Act.put,aA,aC,aB])
            refine wpAnyH_take (i:=2) (oi:=⟨some 45,.load 100 (.tmp 13),100, "rows.go:119",#[],none⟩) (v:=Value.agg #[.bool (rB (R i)),.slice xo xl xc,.slice yo yl yc]) rfl (by kernel_rfl) (by kernel_rfl) (by kernel_rfl) (fun _ _ _ h=>h) (Or.inl ⟨by rfl,?zy3z2⟩) (by assumption) ?zr3z2
            case zy3z2=>(intro w hSw;(try dsimp only at hSw);go_simp)
            case zr3z2 =>
             (try simp only [Act.put,aA,aC,aB])
             refine wpAnyH_ready (rs:=[3]) (by kernel_rfl) (by simp) ?_;refine AllReadyH.cons (o:=⟨some 46,.call ⟨.value (.tmp 44),#[.tmp 45],#[100]⟩,4, "rows.go:119",#[⟨1,.data⟩,⟨2,.data⟩],none⟩) rfl (fun K hK=>?_) AllReadyH.nil;go_simp
             go_at_call_of 155 (Value.agg #[.bool (rB (R i)),.slice xo xl xc,.slice yo yl yc])
             refine (bu _ (R i) L _ (X2.out.keep0 (by first | exact aa GG (aj _) | exact aa GG ah | exact GG))).mono ?_;rintro e wa ⟨rfl,ga⟩;rw [HZX.out];have GG:w2.grownBy wa none:=aa (by first | exact aa GG (aj _) | exact aa GG ah | exact GG) ga;obtain ⟨a0,a1,a2,a3,a4,a5,a6,a7,a8,a9,a10,a11,a12,a13,a14,a15,a16,a17,a18,a19,a20,a21,a22⟩:=CX.out wa GG;go_wp2_with fail;refine hK.out _ _ ?zs3z3 (fun hHeld=>?zr3z3)
             case zs3z3=>((try dsimp only);go_keep)
             case zr3z3 =>
              clear hK K
              (try simp only [Act.put,aA,aC,aB])
              refine wpAnyH_take (i:=4) (oi:=⟨some 47,.move (.tmp 46),4, "rows.go:119",#[⟨3,.data⟩,⟨3,.chain⟩],none⟩) (v:=.bool true) rfl (by kernel_rfl) (by kernel_rfl) (by kernel_rfl) (fun _ _ _ h=>h) (Or.inl ⟨by rfl,?zy3z4⟩) (by assumption) ?zr3z4
              case zy3z4=>(intro w hSw;(try dsimp only at hSw);go_simp)
              case zr3z4 =>
               (try simp only [Act.put,aA,aC,aB])
               refine wpAnyH_take (i:=5) (oi:=⟨some 48,.fieldAddr 145 (.tmp 5) 6,0, "rows.go:119",#[⟨4,.guard⟩],some (4,true)⟩) (v:=.pointer (some ⟨w.heap.size,8,none⟩)) rfl (by kernel_rfl) (by kernel_rfl) (by kernel_rfl) (fun _ _ _ h=>h) (Or.inl ⟨by rfl,?zy3z5⟩) (by assumption) ?zr3z5
               case zy3z5=>(intro w hSw;(try dsimp only at hSw);go_simp)
               case zr3z5 =>
                (try simp only [Act.put,aA,aC,aB])
                refine wpAnyH_take (i:=6) (oi:=⟨some 49,.load 142 (.tmp 48),142, "rows.go:119",#[⟨5,.data⟩,⟨4,.guard⟩],some (4,true)⟩) (v:=.func (.func 155) #[] #[]) rfl (by kernel_rfl) (by kernel_rfl) (by kernel_rfl) (fun _ _ _ h=>h) (Or.inl ⟨by rfl,?zy3z6⟩) (by assumption) ?zr3z6
                case zy3z6=>(intro w hSw;(try dsimp only at hSw);go_simp)
                case zr3z6 =>
                 (try simp only [Act.put,aA,aC,aB])
                 refine wpAnyH_take (i:=7) (oi:=⟨some 50,.load 100 (.tmp 11),100, "rows.go:119",#[⟨4,.guard⟩],some (4,true)⟩) (v:=Value.agg #[.bool (rB (R k)),.slice so sl sc,.slice so2 sl2 sc2]) rfl (by kernel_rfl) (by kernel_rfl) (by kernel_rfl) (fun _ _ _ h=>h) (Or.inl ⟨by rfl,?zy3z7⟩) (by assumption) ?zr3z7
                 case zy3z7=>(intro w hSw;(try dsimp only at hSw);go_simp)
                 case zr3z7 =>
                  (try simp only [Act.put,aA,aC,aB])
                  refine wpAnyH_ready (rs:=[8]) (by kernel_rfl) (by simp) ?_;refine AllReadyH.cons (o:=⟨some 51,.call ⟨.value (.tmp 49),#[.tmp 50],#[100]⟩,4, "rows.go:119",#[⟨6,.data⟩,⟨7,.data⟩,⟨4,.chain⟩,⟨4,.guard⟩],some (4,true)⟩) rfl (fun K hK=>?_) AllReadyH.nil;go_simp
                  go_at_call_of 155 (Value.agg #[.bool (rB (R k)),.slice so sl sc,.slice so2 sl2 sc2])
                  refine (bu _ (R k) L _ ((C3l.out.kept KL.out).keep0 (by first | exact aa GG (aj _) | exact aa GG ah | exact GG))).mono ?_;rintro e wz ⟨rfl,gz⟩;rw [HZK.out];have GG:w2.grownBy wz none:=aa (by first | exact aa GG (aj _) | exact aa GG ah | exact GG) gz;obtain ⟨z0,z1,z2,z3,z4,z5,z6,z7,z8,z9,z10,z11,z12,z13,z14,z15,z16,z17,z18,z19,z20,z21,z22⟩:=CX.out wz GG;go_wp2_with fail;refine hK.out _ _ ?zs3z8 (fun hHeld=>?zr3z8)
                  case zs3z8=>((try dsimp only);go_keep)
                  case zr3z8 =>
                   clear hK K
                   (try simp only [Act.put,aA,aC,aB])
                   refine wpAnyH_take (i:=9) (oi:=⟨some 52,.move (.tmp 51),4, "rows.go:119",#[⟨8,.data⟩,⟨8,.chain⟩,⟨4,.guard⟩],some (4,true)⟩) (v:=.bool true) rfl (by kernel_rfl) (by kernel_rfl) (by kernel_rfl) (fun _ _ _ h=>h) (Or.inl ⟨by rfl,?zy3z9⟩) (by assumption) ?zr3z9
                   case zy3z9=>(intro w hSw;(try dsimp only at hSw);go_simp)
                   case zr3z9 =>
                    (try simp only [Act.put,aA,aC,aB])
                    refine wpAnyH_take (i:=10) (oi:=⟨some 53,.fieldAddr 145 (.tmp 5) 6,0, "rows.go:119",#[⟨9,.guard⟩],some (9,false)⟩) (v:=undef) rfl (by kernel_rfl) (by kernel_rfl) (by kernel_rfl) (fun _ _ _ h=>h) (Or.inr ⟨by rfl,rfl⟩) (by assumption) ?_
                    (try simp only [Act.put,aA,aC,aB])
                    refine wpAnyH_take (i:=11) (oi:=⟨some 54,.load 142 (.tmp 53),142, "rows.go:119",#[⟨10,.data⟩,⟨9,.guard⟩],some (9,false)⟩) (v:=undef) rfl (by kernel_rfl) (by kernel_rfl) (by kernel_rfl) (fun _ _ _ h=>h) (Or.inr ⟨by rfl,rfl⟩) (by assumption) ?_
                    (try simp only [Act.put,aA,aC,aB])
                    refine wpAnyH_take (i:=12) (oi:=⟨some 55,.move (.tmp 2),92, "rows.go:119",#[⟨9,.guard⟩],some (9,false)⟩) (v:=undef) rfl (by kernel_rfl) (by kernel_rfl) (by kernel_rfl) (fun _ _ _ h=>h) (Or.inr ⟨by rfl,rfl⟩) (by assumption) ?_
                    (try simp only [Act.put,aA,aC,aB])
                    refine wpAnyH_take (i:=13) (oi:=⟨some 56,.move (.tmp 12),3, "rows.go:119",#[⟨9,.guard⟩],some (9,false)⟩) (v:=undef) rfl (by kernel_rfl) (by kernel_rfl) (by kernel_rfl) (fun _ _ _ h=>h) (Or.inr ⟨by rfl,rfl⟩) (by assumption) ?_
                    (try simp only [Act.put,aA,aC,aB])
                    refine wpAnyH_take (i:=14) (oi:=⟨some 57,.indexAddr 92 (.tmp 55) (.tmp 56),0, "rows.go:119",#[⟨12,.data⟩,⟨13,.data⟩,⟨9,.guard⟩],some (9,false)⟩) (v:=undef) rfl (by kernel_rfl) (by kernel_rfl) (by kernel_rfl) (fun _ _ _ h=>h) (Or.inr ⟨by rfl,rfl⟩) (by assumption) ?_
                    (try simp only [Act.put,aA,aC,aB])
                    refine wpAnyH_take (i:=15) (oi:=⟨some 58,.load 100 (.tmp 57),100, "rows.go:119",#[⟨14,.data⟩,⟨9,.guard⟩],some (9,false)⟩) (v:=undef) rfl (by kernel_rfl) (by kernel_rfl) (by kernel_rfl) (fun _ _ _ h=>h) (Or.inr ⟨by rfl,rfl⟩) (by assumption) ?_
                    (try simp only [Act.put,aA,aC,aB])
                    refine wpAnyH_take (i:=16) (oi:=⟨some 59,.call ⟨.value (.tmp 54),#[.tmp 58],#[100]⟩,4, "rows.go:119",#[⟨11,.data⟩,⟨15,.data⟩,⟨9,.chain⟩,⟨9,.guard⟩],some (9,false)⟩) (v:=undef) rfl (by kernel_rfl) (by kernel_rfl) (by kernel_rfl) (fun _ _ _ h=>h) (Or.inr ⟨by rfl,rfl⟩) (by assumption) ?_
                    (try simp only [Act.put,aA,aC,aB])
                    refine wpAnyH_take (i:=17) (oi:=⟨some 60,.pick (.tmp 52) (.const (Value.bool true)) (.tmp 59),4, "rows.go:119",#[⟨9,.data⟩,⟨16,.data⟩,⟨4,.guard⟩],some (4,true)⟩) (v:=.bool true) rfl (by kernel_rfl) (by kernel_rfl) (by kernel_rfl) (fun _ _ _ h=>h) (Or.inl ⟨by rfl,?zy3z17⟩) (by assumption) ?zr3z17
                    case zy3z17=>(intro w hSw;(try dsimp only at hSw);go_simp)
                    case zr3z17 =>
                     (try simp only [Act.put,aA,aC,aB])
                     refine wpAnyH_take (i:=18) (oi:=⟨some 61,.pick (.tmp 47) (.tmp 60) (.const (Value.bool false)),4, "rows.go:119",#[⟨4,.data⟩,⟨17,.data⟩],none⟩) (v:=.bool true) rfl (by kernel_rfl) (by kernel_rfl) (by kernel_rfl) (fun _ _ _ h=>h) (Or.inl ⟨by rfl,?zy3z18⟩) (by assumption) ?zr3z18
                     case zy3z18=>(intro w hSw;(try dsimp only at hSw);go_simp)
                     case zr3z18 =>
                      (try simp only [Act.put,aA,aC,aB])
                      refine wpAnyH_done (by kernel_rfl) ?_ _
                      (go_wp2_with fail;go_meet;exact ⟨by rw [HZX.out,HZK.out,Bool.true_and,Bool.true_or],(by first | exact aa GG (aj _) | exact aa GG ah | exact GG)⟩)
        ·have HZK:Hid (decide (R k=0)=false):=decide_eq_false hk0;clear hk0;refine wp_region_held_drew (S:=(fun w'=>w'.cell? ⟨w.heap.size,3,none⟩=some (.func (.func 153) #[] #[])/\w'.cell? ⟨w.heap.size,4,none⟩=some (.func (.func 132) #[] #[])/\w'.cell? ⟨w.heap.size,5,none⟩=some (.func (.func 88) #[] #[])/\w'.cell? ⟨w.heap.size,6,none⟩=some (.func (.func 53) #[] #[])/\w'.cell? ⟨w.heap.size,7,none⟩=some (.func (.func 154) #[] #[])/\w'.cell? ⟨w.heap.size,8,none⟩=some (.func (.func 155) #[] #[])/\w'.cell? ⟨w.heap.size,9,none⟩=some (.func (.func 156) #[] #[])/\w'.cell? ⟨w.heap.size,10,none⟩=some (.func (.func 157) #[] #[])/\w'.cell? ⟨w.heap.size+1,0,none⟩=some (.bool (rB d))/\w'.cell? ⟨w.heap.size+1,1,none⟩=some (.slice lo ll lc)/\w'.cell? ⟨w.heap.size+1,2,none⟩=some (.slice lo2 ll2 lc2)/\w'.cell? ⟨gp,0,none⟩=some (.bool (rB (P k)))/\w'.cell? ⟨gp,1,none⟩=some (.slice uo ul uc)/\w'.cell? ⟨gp,2,none⟩=some (.slice vo vl vc)/\w'.cell? ⟨gr,0,none⟩=some (.bool (rB (R k)))/\w'.cell? ⟨gr,1,none⟩=some (.slice so sl sc)/\w'.cell? ⟨gr,2,none⟩=some (.slice so2 sl2 sc2)/\w'.cell? ⟨wr.heap.size,0,none⟩=some (.bool (rB (R i)))/\w'.cell? ⟨wr.heap.size,1,none⟩=some (.slice xo xl xc)/\w'.cell? ⟨wr.heap.size,2,none⟩=some (.slice yo yl yc)/\w'.cell? ⟨b2,i*3,none⟩=some (.bool (rB (P i)))/\w'.cell? ⟨b2,i*3+1,none⟩=some (.slice po pl pc)/\w'.cell? ⟨b2,i*3+2,none⟩=some (.slice qo ql qc))) (by kernel_rfl) ?zs4z (fun hHeld=>?zr4z)
         case zs4z=>((try dsimp only);go_keep)
         case zr4z =>
          refine wpAnyH_take (i:=0) (oi:=⟨some 43,.fieldAddr 145 (.tmp 5) 6,0, "rows.go:119",#[],none⟩) (v:=.pointer (some ⟨w.heap.size,8,none⟩)) rfl (by kernel_rfl) (by kernel_rfl) (by kernel_rfl) (fun _ _ _ h=>h) (Or.inl ⟨by rfl,?zy4z0⟩) (by assumption) ?zr4z0
          case zy4z0=>(intro w hSw;(try dsimp only at hSw);go_simp)
          case zr4z0 =>
           (try simp only [Act.put,aA,aC,aB])
           refine wpAnyH_take (i:=1) (oi:=⟨some 44,.load 142 (.tmp 43),142, "rows.go:119",#[⟨0,.data⟩],none⟩) (v:=.func (.func 155) #[] #[]) rfl (by kernel_rfl) (by kernel_rfl) (by kernel_rfl) (fun _ _ _ h=>h) (Or.inl ⟨by rfl,?zy4z1⟩) (by assumption) ?zr4z1
           case zy4z1=>(intro w hSw;(try dsimp only at hSw);go_simp)
           case zr4z1 =>
            (try simp only [Act.put,aA,aC,aB])
            refine wpAnyH_take (i:=2) (oi:=⟨some 45,.load 100 (.tmp 13),100, "rows.go:119",#[],none⟩) (v:=Value.agg #[.bool (rB (R i)),.slice xo xl xc,.slice yo yl yc]) rfl (by kernel_rfl) (by kernel_rfl) (by kernel_rfl) (fun _ _ _ h=>h) (Or.inl ⟨by rfl,?zy4z2⟩) (by assumption) ?zr4z2
            case zy4z2=>(intro w hSw;(try dsimp only at hSw);go_simp)
            case zr4z2 =>
             (try simp only [Act.put,aA,aC,aB])
             refine wpAnyH_ready (rs:=[3]) (by kernel_rfl) (by simp) ?_;refine AllReadyH.cons (o:=⟨some 46,.call ⟨.value (.tmp 44),#[.tmp 45],#[100]⟩,4, "rows.go:119",#[⟨1,.data⟩,⟨2,.data⟩],none⟩) rfl (fun K hK=>?_) AllReadyH.nil;go_simp
             go_at_call_of 155 (Value.agg #[.bool (rB (R i)),.slice xo xl xc,.slice yo yl yc])
             refine (bu _ (R i) L _ (X2.out.keep0 (by first | exact aa GG (aj _) | exact aa GG ah | exact GG))).mono ?_;rintro e wa ⟨rfl,ga⟩;rw [HZX.out];have GG:w2.grownBy wa none:=aa (by first | exact aa GG (aj _) | exact aa GG ah | exact GG) ga;obtain ⟨a0,a1,a2,a3,a4,a5,a6,a7,a8,a9,a10,a11,a12,a13,a14,a15,a16,a17,a18,a19,a20,a21,a22⟩:=CX.out wa GG;go_wp2_with fail;refine hK.out _ _ ?zs4z3 (fun hHeld=>?zr4z3)
             case zs4z3=>((try dsimp only);go_keep)
             case zr4z3 =>
              clear hK K
              (try simp only [Act.put,aA,aC,aB])
              refine wpAnyH_take (i:=4) (oi:=⟨some 47,.move (.tmp 46),4, "rows.go:119",#[⟨3,.data⟩,⟨3,.chain⟩],none⟩) (v:=.bool true) rfl (by kernel_rfl) (by kernel_rfl) (by kernel_rfl) (fun _ _ _ h=>h) (Or.inl ⟨by rfl,?zy4z4⟩) (by assumption) ?zr4z4
              case zy4z4=>(intro w hSw;(try dsimp only at hSw);go_simp)
              case zr4z4 =>
               (try simp only [Act.put,aA,aC,aB])
               refine wpAnyH_take (i:=5) (oi:=⟨some 48,.fieldAddr 145 (.tmp 5) 6,0, "rows.go:119",#[⟨4,.guard⟩],some (4,true)⟩) (v:=.pointer (some ⟨w.heap.size,8,none⟩)) rfl (by kernel_rfl) (by kernel_rfl) (by kernel_rfl) (fun _ _ _ h=>h) (Or.inl ⟨by rfl,?zy4z5⟩) (by assumption) ?zr4z5
               case zy4z5=>(intro w hSw;(try dsimp only at hSw);go_simp)
               case zr4z5 =>
                (try simp only [Act.put,aA,aC,aB])
                refine wpAnyH_take (i:=6) (oi:=⟨some 49,.load 142 (.tmp 48),142, "rows.go:119",#[⟨5,.data⟩,⟨4,.guard⟩],some (4,true)⟩) (v:=.func (.func 155) #[] #[]) rfl (by kernel_rfl) (by kernel_rfl) (by kernel_rfl) (fun _ _ _ h=>h) (Or.inl ⟨by rfl,?zy4z6⟩) (by assumption) ?zr4z6
                case zy4z6=>(intro w hSw;(try dsimp only at hSw);go_simp)
                case zr4z6 =>
                 (try simp only [Act.put,aA,aC,aB])
                 refine wpAnyH_take (i:=7) (oi:=⟨some 50,.load 100 (.tmp 11),100, "rows.go:119",#[⟨4,.guard⟩],some (4,true)⟩) (v:=Value.agg #[.bool (rB (R k)),.slice so sl sc,.slice so2 sl2 sc2]) rfl (by kernel_rfl) (by kernel_rfl) (by kernel_rfl) (fun _ _ _ h=>h) (Or.inl ⟨by rfl,?zy4z7⟩) (by assumption) ?zr4z7
                 case zy4z7=>(intro w hSw;(try dsimp only at hSw);go_simp)
                 case zr4z7 =>
                  (try simp only [Act.put,aA,aC,aB])
                  refine wpAnyH_ready (rs:=[8]) (by kernel_rfl) (by simp) ?_;refine AllReadyH.cons (o:=⟨some 51,.call ⟨.value (.tmp 49),#[.tmp 50],#[100]⟩,4, "rows.go:119",#[⟨6,.data⟩,⟨7,.data⟩,⟨4,.chain⟩,⟨4,.guard⟩],some (4,true)⟩) rfl (fun K hK=>?_) AllReadyH.nil;go_simp
                  go_at_call_of 155 (Value.agg #[.bool (rB (R k)),.slice so sl sc,.slice so2 sl2 sc2])
                  refine (bu _ (R k) L _ ((C3l.out.kept KL.out).keep0 (by first | exact aa GG (aj _) | exact aa GG ah | exact GG))).mono ?_;rintro e wz ⟨rfl,gz⟩;rw [HZK.out];have GG:w2.grownBy wz none:=aa (by first | exact aa GG (aj _) | exact aa GG ah | exact GG) gz;obtain ⟨z0,z1,z2,z3,z4,z5,z6,z7,z8,z9,z10,z11,z12,z13,z14,z15,z16,z17,z18,z19,z20,z21,z22⟩:=CX.out wz GG;go_wp2_with fail;refine hK.out _ _ ?zs4z8 (fun hHeld=>?zr4z8)
                  case zs4z8=>((try dsimp only);go_keep)
                  case zr4z8 =>
                   clear hK K
                   (try simp only [Act.put,aA,aC,aB])
                   refine wpAnyH_take (i:=9) (oi:=⟨some 52,.move (.tmp 51),4, "rows.go:119",#[⟨8,.data⟩,⟨8,.chain⟩,⟨4,.guard⟩],some (4,true)⟩) (v:=.bool false) rfl (by kernel_rfl) (by kernel_rfl) (by kernel_rfl) (fun _ _ _ h=>h) (Or.inl ⟨by rfl,?zy4z9⟩) (by assumption) ?zr4z9
                   case zy4z9=>(intro w hSw;(try dsimp only at hSw);go_simp)
                   case zr4z9 =>
                    (try simp only [Act.put,aA,aC,aB])
                    refine wpAnyH_take (i:=10) (oi:=⟨some 53,.fieldAddr 145 (.tmp 5) 6,0, "rows.go:119",#[⟨9,.guard⟩],some (9,false)⟩) (v:=.pointer (some ⟨w.heap.size,8,none⟩)) rfl (by kernel_rfl) (by kernel_rfl) (by kernel_rfl) (fun _ _ _ h=>h) (Or.inl ⟨by rfl,?zy4z10⟩) (by assumption) ?zr4z10
                    case zy4z10=>(intro w hSw;(try dsimp only at hSw);go_simp)
                    case zr4z10 =>
                     (try simp only [Act.put,aA,aC,aB])
                     refine wpAnyH_take (i:=11) (oi:=⟨some 54,.load 142 (.tmp 53),142, "rows.go:119",#[⟨10,.data⟩,⟨9,.guard⟩],some (9,false)⟩) (v:=.func (.func 155) #[] #[]) rfl (by kernel_rfl) (by kernel_rfl) (by kernel_rfl) (fun _ _ _ h=>h) (Or.inl ⟨by rfl,?zy4z11⟩) (by assumption) ?zr4z11
                     case zy4z11=>(intro w hSw;(try dsimp only at hSw);go_simp)
                     case zr4z11 =>
                      (try simp only [Act.put,aA,aC,aB])
                      refine wpAnyH_take (i:=12) (oi:=⟨some 55,.move (.tmp 2),92, "rows.go:119",#[⟨9,.guard⟩],some (9,false)⟩) (v:=.slice (some ⟨b2,0,none⟩) n cap2) rfl (by kernel_rfl) (by kernel_rfl) (by kernel_rfl) (fun _ _ _ h=>h) (Or.inl ⟨by rfl,?zy4z12⟩) (by assumption) ?zr4z12
                      case zy4z12=>(intro w hSw;(try dsimp only at hSw);go_simp)
                      case zr4z12 =>
                       (try simp only [Act.put,aA,aC,aB])
                       refine wpAnyH_take (i:=13) (oi:=⟨some 56,.move (.tmp 12),3, "rows.go:119",#[⟨9,.guard⟩],some (9,false)⟩) (v:=.int .i64 (i:Nat)) rfl (by kernel_rfl) (by kernel_rfl) (by kernel_rfl) (fun _ _ _ h=>h) (Or.inl ⟨by rfl,?zy4z13⟩) (by assumption) ?zr4z13
                       case zy4z13=>(intro w hSw;(try dsimp only at hSw);go_simp)
                       case zr4z13 =>
                        (try simp only [Act.put,aA,aC,aB])
                        refine wpAnyH_take (i:=14) (oi:=⟨some 57,.indexAddr 92 (.tmp 55) (.tmp 56),0, "rows.go:119",#[⟨12,.data⟩,⟨13,.data⟩,⟨9,.guard⟩],some (9,false)⟩) (v:=.pointer (some ⟨b2,i*3,none⟩)) rfl (by kernel_rfl) (by kernel_rfl) (by kernel_rfl) (fun _ _ _ h=>h) (Or.inl ⟨by rfl,?zy4z14⟩) (by assumption) ?zr4z14
                        case zy4z14=>(intro w hSw;(try dsimp only at hSw);go_simp)
                        case zr4z14 =>
                         (try simp only [Act.put,aA,aC,aB])
                         refine wpAnyH_take (i:=15) (oi:=⟨some 58,.load 100 (.tmp 57),100, "rows.go:119",#[⟨14,.data⟩,⟨9,.guard⟩],some (9,false)⟩) (v:=Value.agg #[.bool (rB (P i)),.slice po pl pc,.slice qo ql qc]) rfl (by kernel_rfl) (by kernel_rfl) (by kernel_rfl) (fun _ _ _ h=>h) (Or.inl ⟨by rfl,?zy4z15⟩) (by assumption) ?zr4z15
                         case zy4z15=>(intro w hSw;(try dsimp only at hSw);go_simp)
                         case zr4z15 =>
                          (try simp only [Act.put,aA,aC,aB])
                          refine wpAnyH_ready (rs:=[16]) (by kernel_rfl) (by simp) ?_;refine AllReadyH.cons (o:=⟨some 59,.call ⟨.value (.tmp 54),#[.tmp 58],#[100]⟩,4, "rows.go:119",#[⟨11,.data⟩,⟨15,.data⟩,⟨9,.chain⟩,⟨9,.guard⟩],some (9,false)⟩) rfl (fun K hK=>?_) AllReadyH.nil;go_simp
                          go_at_call_of 155 (Value.agg #[.bool (rB (P i)),.slice po pl pc,.slice qo ql qc])
                          refine (bu _ (P i) L _ (Q2.out.keep0 (by first | exact aa GG (aj _) | exact aa GG ah | exact GG))).mono ?_;rintro e wv ⟨rfl,gv⟩;have GG:w2.grownBy wv none:=aa (by first | exact aa GG (aj _) | exact aa GG ah | exact GG) gv;obtain ⟨v0,v1,v2,v3,v4,v5,v6,v7,v8,v9,v10,v11,v12,v13,v14,v15,v16,v17,v18,v19,v20,v21,v22⟩:=CX.out wv GG;go_wp2_with fail;refine hK.out _ _ ?zs4z16 (fun hHeld=>?zr4z16)
                          case zs4z16=>((try dsimp only);go_keep)
                          case zr4z16 =>
                           clear hK K
                           (try simp only [Act.put,aA,aC,aB])
                           refine wpAnyH_take (i:=17) (oi:=⟨some 60,.pick (.tmp 52) (.const (Value.bool true)) (.tmp 59),4, "rows.go:119",#[⟨9,.data⟩,⟨16,.data⟩,⟨4,.guard⟩],some (4,true)⟩) (v:=.bool (decide (P i=0))) rfl (by kernel_rfl) (by kernel_rfl) (by kernel_rfl) (fun _ _ _ h=>h) (Or.inl ⟨by rfl,?zy4z17⟩) (by assumption) ?zr4z17
                           case zy4z17=>(intro w hSw;(try dsimp only at hSw);go_simp)
                           case zr4z17 =>
                            (try simp only [Act.put,aA,aC,aB])
                            refine wpAnyH_take (i:=18) (oi:=⟨some 61,.pick (.tmp 47) (.tmp 60) (.const (Value.bool false)),4, "rows.go:119",#[⟨4,.data⟩,⟨17,.data⟩],none⟩) (v:=.bool (decide (P i=0))) rfl (by kernel_rfl) (by kernel_rfl) (by kernel_rfl) (fun _ _ _ h=>h) (Or.inl ⟨by rfl,?zy4z18⟩) (by assumption) ?zr4z18
                            case zy4z18=>(intro w hSw;(try dsimp only at hSw);go_simp)
                            case zr4z18 =>
                             (try simp only [Act.put,aA,aC,aB])
                             refine wpAnyH_done (by kernel_rfl) ?_ _
                             (go_wp2_with fail;go_meet;exact ⟨by rw [HZX.out,HZK.out,Bool.true_and,Bool.false_or],(by first | exact aa GG (aj _) | exact aa GG ah | exact GG)⟩)
       ·have HZX:Hid (decide (R i=0)=false):=decide_eq_false hx0;clear hx0;refine wp_region_held_drew (S:=(fun w'=>w'.cell? ⟨w.heap.size,3,none⟩=some (.func (.func 153) #[] #[])/\w'.cell? ⟨w.heap.size,4,none⟩=some (.func (.func 132) #[] #[])/\w'.cell? ⟨w.heap.size,5,none⟩=some (.func (.func 88) #[] #[])/\w'.cell? ⟨w.heap.size,6,none⟩=some (.func (.func 53) #[] #[])/\w'.cell? ⟨w.heap.size,7,none⟩=some (.func (.func 154) #[] #[])/\w'.cell? ⟨w.heap.size,8,none⟩=some (.func (.func 155) #[] #[])/\w'.cell? ⟨w.heap.size,9,none⟩=some (.func (.func 156) #[] #[])/\w'.cell? ⟨w.heap.size,10,none⟩=some (.func (.func 157) #[] #[])/\w'.cell? ⟨w.heap.size+1,0,none⟩=some (.bool (rB d))/\w'.cell? ⟨w.heap.size+1,1,none⟩=some (.slice lo ll lc)/\w'.cell? ⟨w.heap.size+1,2,none⟩=some (.slice lo2 ll2 lc2)/\w'.cell? ⟨gp,0,none⟩=some (.bool (rB (P k)))/\w'.cell? ⟨gp,1,none⟩=some (.slice uo ul uc)/\w'.cell? ⟨gp,2,none⟩=some (.slice vo vl vc)/\w'.cell? ⟨gr,0,none⟩=some (.bool (rB (R k)))/\w'.cell? ⟨gr,1,none⟩=some (.slice so sl sc)/\w'.cell? ⟨gr,2,none⟩=some (.slice so2 sl2 sc2)/\w'.cell? ⟨wr.heap.size,0,none⟩=some (.bool (rB (R i)))/\w'.cell? ⟨wr.heap.size,1,none⟩=some (.slice xo xl xc)/\w'.cell? ⟨wr.heap.size,2,none⟩=some (.slice yo yl yc)/\w'.cell? ⟨b2,i*3,none⟩=some (.bool (rB (P i)))/\w'.cell? ⟨b2,i*3+1,none⟩=some (.slice po pl pc)/\w'.cell? ⟨b2,i*3+2,none⟩=some (.slice qo ql qc))) (by kernel_rfl) ?zs2z (fun hHeld=>?zr2z)
        case zs2z=>((try dsimp only);go_keep)
        case zr2z =>
         refine wpAnyH_take (i:=0) (oi:=⟨some 43,.fieldAddr 145 (.tmp 5) 6,0, "rows.go:119",#[],none⟩) (v:=.pointer (some ⟨w.heap.size,8,none⟩)) rfl (by kernel_rfl) (by kernel_rfl) (by kernel_rfl) (fun _ _ _ h=>h) (Or.inl ⟨by rfl,?zy2z0⟩) (by assumption) ?zr2z0
         case zy2z0=>(intro w hSw;(try dsimp only at hSw);go_simp)
         case zr2z0 =>
          (try simp only [Act.put,aA,aC,aB])
          refine wpAnyH_take (i:=1) (oi:=⟨some 44,.load 142 (.tmp 43),142, "rows.go:119",#[⟨0,.data⟩],none⟩) (v:=.func (.func 155) #[] #[]) rfl (by kernel_rfl) (by kernel_rfl) (by kernel_rfl) (fun _ _ _ h=>h) (Or.inl ⟨by rfl,?zy2z1⟩) (by assumption) ?zr2z1
          case zy2z1=>(intro w hSw;(try dsimp only at hSw);go_simp)
          case zr2z1 =>
           (try simp only [Act.put,aA,aC,aB])
           refine wpAnyH_take (i:=2) (oi:=⟨some 45,.load 100 (.tmp 13),100, "rows.go:119",#[],none⟩) (v:=Value.agg #[.bool (rB (R i)),.slice xo xl xc,.slice yo yl yc]) rfl (by kernel_rfl) (by kernel_rfl) (by kernel_rfl) (fun _ _ _ h=>h) (Or.inl ⟨by rfl,?zy2z2⟩) (by assumption) ?zr2z2
           case zy2z2=>(intro w hSw;(try dsimp only at hSw);go_simp)
           case zr2z2 =>
            (try simp only [Act.put,aA,aC,aB])
            refine wpAnyH_ready (rs:=[3]) (by kernel_rfl) (by simp) ?_;refine AllReadyH.cons (o:=⟨some 46,.call ⟨.value (.tmp 44),#[.tmp 45],#[100]⟩,4, "rows.go:119",#[⟨1,.data⟩,⟨2,.data⟩],none⟩) rfl (fun K hK=>?_) AllReadyH.nil;go_simp
            go_at_call_of 155 (Value.agg #[.bool (rB (R i)),.slice xo xl xc,.slice yo yl yc])
            refine (bu _ (R i) L _ (X2.out.keep0 (by first | exact aa GG (aj _) | exact aa GG ah | exact GG))).mono ?_;rintro e wa ⟨rfl,ga⟩;rw [HZX.out];have GG:w2.grownBy wa none:=aa (by first | exact aa GG (aj _) | exact aa GG ah | exact GG) ga;obtain ⟨a0,a1,a2,a3,a4,a5,a6,a7,a8,a9,a10,a11,a12,a13,a14,a15,a16,a17,a18,a19,a20,a21,a22⟩:=CX.out wa GG;go_wp2_with fail;refine hK.out _ _ ?zs2z3 (fun hHeld=>?zr2z3)
            case zs2z3=>((try dsimp only);go_keep)
            case zr2z3 =>
             clear hK K
             (try simp only [Act.put,aA,aC,aB])
             refine wpAnyH_take (i:=4) (oi:=⟨some 47,.move (.tmp 46),4, "rows.go:119",#[⟨3,.data⟩,⟨3,.chain⟩],none⟩) (v:=.bool false) rfl (by kernel_rfl) (by kernel_rfl) (by kernel_rfl) (fun _ _ _ h=>h) (Or.inl ⟨by rfl,?zy2z4⟩) (by assumption) ?zr2z4
             case zy2z4=>(intro w hSw;(try dsimp only at hSw);go_simp)
             case zr2z4 =>
              (try simp only [Act.put,aA,aC,aB])
              refine wpAnyH_take (i:=5) (oi:=⟨some 48,.fieldAddr 145 (.tmp 5) 6,0, "rows.go:119",#[⟨4,.guard⟩],some (4,true)⟩) (v:=undef) rfl (by kernel_rfl) (by kernel_rfl) (by kernel_rfl) (fun _ _ _ h=>h) (Or.inr ⟨by rfl,rfl⟩) (by assumption) ?_
              (try simp only [Act.put,aA,aC,aB])
              refine wpAnyH_take (i:=6) (oi:=⟨some 49,.load 142 (.tmp 48),142, "rows.go:119",#[⟨5,.data⟩,⟨4,.guard⟩],some (4,true)⟩) (v:=undef) rfl (by kernel_rfl) (by kernel_rfl) (by kernel_rfl) (fun _ _ _ h=>h) (Or.inr ⟨by rfl,rfl⟩) (by assumption) ?_
              (try simp only [Act.put,aA,aC,aB])
              refine wpAnyH_take (i:=7) (oi:=⟨some 50,.load 100 (.tmp 11),100, "rows.go:119",#[⟨4,.guard⟩],some (4,true)⟩) (v:=undef) rfl (by kernel_rfl) (by kernel_rfl) (by kernel_rfl) (fun _ _ _ h=>h) (Or.inr ⟨by rfl,rfl⟩) (by assumption) ?_
              (try simp only [Act.put,aA,aC,aB])
              refine wpAnyH_take (i:=8) (oi:=⟨some 51,.call ⟨.value (.tmp 49),#[.tmp 50],#[100]⟩,4, "rows.go:119",#[⟨6,.data⟩,⟨7,.data⟩,⟨4,.chain⟩,⟨4,.guard⟩],some (4,true)⟩) (v:=undef) rfl (by kernel_rfl) (by kernel_rfl) (by kernel_rfl) (fun _ _ _ h=>h) (Or.inr ⟨by rfl,rfl⟩) (by assumption) ?_
              (try simp only [Act.put,aA,aC,aB])
              refine wpAnyH_take (i:=9) (oi:=⟨some 52,.move (.tmp 51),4, "rows.go:119",#[⟨8,.data⟩,⟨8,.chain⟩,⟨4,.guard⟩],some (4,true)⟩) (v:=undef) rfl (by kernel_rfl) (by kernel_rfl) (by kernel_rfl) (fun _ _ _ h=>h) (Or.inr ⟨by rfl,rfl⟩) (by assumption) ?_
              (try simp only [Act.put,aA,aC,aB])
              refine wpAnyH_take (i:=10) (oi:=⟨some 53,.fieldAddr 145 (.tmp 5) 6,0, "rows.go:119",#[⟨9,.guard⟩],some (9,false)⟩) (v:=undef) rfl (by kernel_rfl) (by kernel_rfl) (by kernel_rfl) (fun _ _ _ h=>h) (Or.inr ⟨by rfl,rfl⟩) (by assumption) ?_
              (try simp only [Act.put,aA,aC,aB])
              refine wpAnyH_take (i:=11) (oi:=⟨some 54,.load 142 (.tmp 53),142, "rows.go:119",#[⟨10,.data⟩,⟨9,.guard⟩],some (9,false)⟩) (v:=undef) rfl (by kernel_rfl) (by kernel_rfl) (by kernel_rfl) (fun _ _ _ h=>h) (Or.inr ⟨by rfl,rfl⟩) (by assumption) ?_
              (try simp only [Act.put,aA,aC,aB])
              refine wpAnyH_take (i:=12) (oi:=⟨some 55,.move (.tmp 2),92, "rows.go:119",#[⟨9,.guard⟩],some (9,false)⟩) (v:=undef) rfl (by kernel_rfl) (by kernel_rfl) (by kernel_rfl) (fun _ _ _ h=>h) (Or.inr ⟨by rfl,rfl⟩) (by assumption) ?_
              (try simp only [Act.put,aA,aC,aB])
              refine wpAnyH_take (i:=13) (oi:=⟨some 56,.move (.tmp 12),3, "rows.go:119",#[⟨9,.guard⟩],some (9,false)⟩) (v:=undef) rfl (by kernel_rfl) (by kernel_rfl) (by kernel_rfl) (fun _ _ _ h=>h) (Or.inr ⟨by rfl,rfl⟩) (by assumption) ?_
              (try simp only [Act.put,aA,aC,aB])
              refine wpAnyH_take (i:=14) (oi:=⟨some 57,.indexAddr 92 (.tmp 55) (.tmp 56),0, "rows.go:119",#[⟨12,.data⟩,⟨13,.data⟩,⟨9,.guard⟩],some (9,false)⟩) (v:=undef) rfl (by kernel_rfl) (by kernel_rfl) (by kernel_rfl) (fun _ _ _ h=>h) (Or.inr ⟨by rfl,rfl⟩) (by assumption) ?_
              (try simp only [Act.put,aA,aC,aB])
              refine wpAnyH_take (i:=15) (oi:=⟨some 58,.load 100 (.tmp 57),100, "rows.go:119",#[⟨14,.data⟩,⟨9,.guard⟩],some (9,false)⟩) (v:=undef) rfl (by kernel_rfl) (by kernel_rfl) (by kernel_rfl) (fun _ _ _ h=>h) (Or.inr ⟨by rfl,rfl⟩) (by assumption) ?_
              (try simp only [Act.put,aA,aC,aB])
              refine wpAnyH_take (i:=16) (oi:=⟨some 59,.call ⟨.value (.tmp 54),#[.tmp 58],#[100]⟩,4, "rows.go:119",#[⟨11,.data⟩,⟨15,.data⟩,⟨9,.chain⟩,⟨9,.guard⟩],some (9,false)⟩) (v:=undef) rfl (by kernel_rfl) (by kernel_rfl) (by kernel_rfl) (fun _ _ _ h=>h) (Or.inr ⟨by rfl,rfl⟩) (by assumption) ?_
              (try simp only [Act.put,aA,aC,aB])
              refine wpAnyH_take (i:=17) (oi:=⟨some 60,.pick (.tmp 52) (.const (Value.bool true)) (.tmp 59),4, "rows.go:119",#[⟨9,.data⟩,⟨16,.data⟩,⟨4,.guard⟩],some (4,true)⟩) (v:=undef) rfl (by kernel_rfl) (by kernel_rfl) (by kernel_rfl) (fun _ _ _ h=>h) (Or.inr ⟨by rfl,rfl⟩) (by assumption) ?_
              (try simp only [Act.put,aA,aC,aB])
              refine wpAnyH_take (i:=18) (oi:=⟨some 61,.pick (.tmp 47) (.tmp 60) (.const (Value.bool false)),4, "rows.go:119",#[⟨4,.data⟩,⟨17,.data⟩],none⟩) (v:=.bool false) rfl (by kernel_rfl) (by kernel_rfl) (by kernel_rfl) (fun _ _ _ h=>h) (Or.inl ⟨by rfl,?zy2z18⟩) (by assumption) ?zr2z18
              case zy2z18=>(intro w hSw;(try dsimp only at hSw);go_simp)
              case zr2z18 =>
               (try simp only [Act.put,aA,aC,aB])
               refine wpAnyH_done (by kernel_rfl) ?_ _
               (go_wp2_with fail;go_meet;exact ⟨by rw [HZX.out,Bool.false_and],(by first | exact aa GG (aj _) | exact aa GG ah | exact GG)⟩)
      case rest =>
       obtain ⟨rfl,g4⟩:=hcut.out;have G4:=ab g4;clear hcut g4 GG s0 s1 s2 s3 s4 s5 s6 s7 s8 s9 s10 s11 s12 s13 s14 s15 s16 s17 s18 s19 s20 s21 s22;by_cases hs:R i=0/\(R k=0∨P i=0)
       ·have hb:(decide (R i=0) && (decide (R k=0) || decide (P i=0)))=true:=by
         obtain ⟨h1,h2⟩:=hs;rw [decide_eq_true h1,Bool.true_and,Bool.or_eq_true];rcases h2 with h2 | h2
         ·left;exact decide_eq_true h2
         ·right;exact decide_eq_true h2
        rw [hb];have HS:=ab hs;clear hs hb;go_wp2;go_roundw
        case rel=>exact ⟨i+1,by omega,by go_num,(L1.out.keep0 (aa G3.out G4.out)).congr (fun j _=>sH (uh HS.out.1 HS.out.2) j),L2.out.gr (aa G3.out G4.out)⟩
        case measure=>simp [intOf];omega
       ·have hb:(decide (R i=0) && (decide (R k=0) || decide (P i=0)))=false:=by
         rw [Bool.and_eq_false_iff];by_cases h1:R i=0
         ·right
          rw [Bool.or_eq_false_iff];exact ⟨decide_eq_false (fun h=>hs ⟨h1,.inl h⟩),decide_eq_false (fun h=>hs ⟨h1,.inr h⟩)⟩
         ·left;exact decide_eq_false h1
        rw [hb];clear hs hb;have X4:=ab (X2.out.keep0 G4.out);have Q4:=ab (Q2.out.keep0 G4.out);have K4:=ab (KL.out.trans (bm.of_gr G4.out));have CX4:Hid (∀ wx,wc.grownBy wx none->wx.cell? ⟨w.heap.size,3,none⟩=some (.func (.func 153) #[] #[])/\wx.cell? ⟨w.heap.size,4,none⟩=some (.func (.func 132) #[] #[])/\wx.cell? ⟨w.heap.size,5,none⟩=some (.func (.func 88) #[] #[])/\wx.cell? ⟨w.heap.size,6,none⟩=some (.func (.func 53) #[] #[])/\wx.cell? ⟨w.heap.size,7,none⟩=some (.func (.func 154) #[] #[])/\wx.cell? ⟨w.heap.size,8,none⟩=some (.func (.func 155) #[] #[])/\wx.cell? ⟨w.heap.size,9,none⟩=some (.func (.func 156) #[] #[])/\wx.cell? ⟨w.heap.size,10,none⟩=some (.func (.func 157) #[] #[])/\wx.cell? ⟨w.heap.size+1,0,none⟩=some (.bool (rB d))/\wx.cell? ⟨w.heap.size+1,1,none⟩=some (.slice lo ll lc)/\wx.cell? ⟨w.heap.size+1,2,none⟩=some (.slice lo2 ll2 lc2)/\wx.cell? ⟨gp,0,none⟩=some (.bool (rB (P k)))/\wx.cell? ⟨gp,1,none⟩=some (.slice uo ul uc)/\wx.cell? ⟨gp,2,none⟩=some (.slice vo vl vc)/\wx.cell? ⟨gr,0,none⟩=some (.bool (rB (R k)))/\wx.cell? ⟨gr,1,none⟩=some (.slice so sl sc)/\wx.cell? ⟨gr,2,none⟩=some (.slice so2 sl2 sc2)/\wx.cell? ⟨wr.heap.size,0,none⟩=some (.bool (rB (R i)))/\wx.cell? ⟨wr.heap.size,1,none⟩=some (.slice xo xl xc)/\wx.cell? ⟨wr.heap.size,2,none⟩=some (.slice yo yl yc)/\wx.cell? ⟨b2,i*3,none⟩=some (.bool (rB (P i)))/\wx.cell? ⟨b2,i*3+1,none⟩=some (.slice po pl pc)/\wx.cell? ⟨b2,i*3+2,none⟩=some (.slice qo ql qc)):=fun wx hg=>CX.out wx (aa G4.out hg)
        have RB4:Hid (∀ wx,wc.grownBy wx none->aK wx b n (eJ R P k d i) L/\wx.cell? ⟨b,i*3,none⟩=some (.bool (rB (R i)))/\wx.cell? ⟨b,i*3+1,none⟩=some (.slice xo xl xc)/\wx.cell? ⟨b,i*3+2,none⟩=some (.slice yo yl yc)):=fun wx hg=>RB.out wx (aa G4.out hg)
        have nb1:b≠w.heap.size:=by omega
        have nb2:b≠w.heap.size+1:=by omega
        have nb3:b≠gp:=by omega
        have nb4:b≠gr:=by omega
        have nb5:b≠wr.heap.size:=by omega
        have GG:wc.grownBy wc none:=ae _ _;obtain ⟨s0,s1,s2,s3,s4,s5,s6,s7,s8,s9,s10,s11,s12,s13,s14,s15,s16,s17,s18,s19,s20,s21,s22⟩:=CX4.out wc GG;go_wp2;go_region_held3 (fun w'=>w'.cell? ⟨w.heap.size,3,none⟩=some (.func (.func 153) #[] #[])/\w'.cell? ⟨w.heap.size,4,none⟩=some (.func (.func 132) #[] #[])/\w'.cell? ⟨w.heap.size,5,none⟩=some (.func (.func 88) #[] #[])/\w'.cell? ⟨w.heap.size,6,none⟩=some (.func (.func 53) #[] #[])/\w'.cell? ⟨w.heap.size,7,none⟩=some (.func (.func 154) #[] #[])/\w'.cell? ⟨w.heap.size,8,none⟩=some (.func (.func 155) #[] #[])/\w'.cell? ⟨w.heap.size,9,none⟩=some (.func (.func 156) #[] #[])/\w'.cell? ⟨w.heap.size,10,none⟩=some (.func (.func 157) #[] #[])/\w'.cell? ⟨w.heap.size+1,0,none⟩=some (.bool (rB d))/\w'.cell? ⟨w.heap.size+1,1,none⟩=some (.slice lo ll lc)/\w'.cell? ⟨w.heap.size+1,2,none⟩=some (.slice lo2 ll2 lc2)/\w'.cell? ⟨gp,0,none⟩=some (.bool (rB (P k)))/\w'.cell? ⟨gp,1,none⟩=some (.slice uo ul uc)/\w'.cell? ⟨gp,2,none⟩=some (.slice vo vl vc)/\w'.cell? ⟨gr,0,none⟩=some (.bool (rB (R k)))/\w'.cell? ⟨gr,1,none⟩=some (.slice so sl sc)/\w'.cell? ⟨gr,2,none⟩=some (.slice so2 sl2 sc2)/\w'.cell? ⟨wr.heap.size,0,none⟩=some (.bool (rB (R i)))/\w'.cell? ⟨wr.heap.size,1,none⟩=some (.slice xo xl xc)/\w'.cell? ⟨wr.heap.size,2,none⟩=some (.slice yo yl yc)/\w'.cell? ⟨b2,i*3,none⟩=some (.bool (rB (P i)))/\w'.cell? ⟨b2,i*3+1,none⟩=some (.slice po pl pc)/\w'.cell? ⟨b2,i*3+2,none⟩=some (.slice qo ql qc)) (go_keep)
         (first | (go_at_call_of 53 (Value.agg #[.bool (rB (P k)),.slice uo ul uc,.slice vo vl vc]);refine (dO _ _ (P k) (R i) L L _ ((E3l.out.kept K4.out).keep0 (by first | exact aa GG (aj _) | exact aa GG ah | exact GG)) (X4.out.keep0 (by first | exact aa GG (aj _) | exact aa GG ah | exact GG)) (by omega)).mono ?_;rintro e wa ⟨va,rfl,pa,ga⟩;obtain ⟨ao,al,ac,ao2,al2,ac2,rfl⟩:=pa.shape;have KP:=aa (by first | exact aj _ | exact ah | exact ae _ _) ga;(try have pe:=pe.keep0 KP);clear KP;have GG:wc.grownBy wa none:=aa (by first | exact aa GG (aj _) | exact aa GG ah | exact GG) ga;obtain ⟨a0,a1,a2,a3,a4,a5,a6,a7,a8,a9,a10,a11,a12,a13,a14,a15,a16,a17,a18,a19,a20,a21,a22⟩:=CX4.out wa GG) | (go_at_call_of 53 (Value.agg #[.bool (rB (R k)),.slice so sl sc,.slice so2 sl2 sc2]);refine (dO _ _ (R k) (P i) L L _ ((C3l.out.kept K4.out).keep0 (by first | exact aa GG (aj _) | exact aa GG ah | exact GG)) (Q4.out.keep0 (by first | exact aa GG (aj _) | exact aa GG ah | exact GG)) (by omega)).mono ?_;rintro e we ⟨ve,rfl,pe,ge⟩;obtain ⟨eo,el,ec,eo2,el2,ec2,rfl⟩:=pe.shape;have KP:=aa (by first | exact aj _ | exact ah | exact ae _ _) ge;(try have pa:=pa.keep0 KP);clear KP;have GG:wc.grownBy we none:=aa (by first | exact aa GG (aj _) | exact aa GG ah | exact GG) ge;obtain ⟨e0,e1,e2,e3,e4,e5,e6,e7,e8,e9,e10,e11,e12,e13,e14,e15,e16,e17,e18,e19,e20,e21,e22⟩:=CX4.out we GG) | (go_at_call 88;refine (cN _ _ (P k*R i) (R k*P i) (L+L+1) (L+L+1) _ (pa.keep0 (by first | exact aj _ | exact ah | exact ae _ _)) (pe.keep0 (by first | exact aj _ | exact ah | exact ae _ _)) (by omega)).mono ?_;rintro e wm ⟨vm,rfl,pm,gm⟩;obtain ⟨mo,ml,mc,mo2,ml2,mc2,rfl⟩:=pm.shape;have KP:=aa (by first | exact aj _ | exact ah | exact ae _ _) gm;clear KP;have GG:wc.grownBy wm none:=aa (by first | exact aa GG (aj _) | exact aa GG ah | exact GG) gm;obtain ⟨m0,m1,m2,m3,m4,m5,m6,m7,m8,m9,m10,m11,m12,m13,m14,m15,m16,m17,m18,m19,m20,m21,m22⟩:=CX4.out wm GG) | (go_at_call 154;refine (nN _ _ (P k*R i-R k*P i) d (L+L+1+(L+L+1)+2) L _ (pm.keep0 (by first | exact aj _ | exact ah | exact ae _ _)) ((HYl.out.kept K4.out).keep0 (by first | exact aa GG (aj _) | exact aa GG ah | exact GG)) HD.out (by omega)).mono ?_;rintro e wy ⟨vy,rfl,py,gy⟩;obtain ⟨yo,yl,yc,yo2,yl2,yc2,rfl⟩:=py.shape;have KP:=aa (by first | exact aj _ | exact ah | exact ae _ _) gy;clear KP;have GG:wc.grownBy wy none:=aa (by first | exact aa GG (aj _) | exact aa GG ah | exact GG) gy;obtain ⟨y0,y1,y2,y3,y4,y5,y6,y7,y8,y9,y10,y11,y12,y13,y14,y15,y16,y17,y18,y19,y20,y21,y22⟩:=CX4.out wy GG;have py:=py.tight (L':=L) (HF.out i hlt);obtain ⟨fr,t0,t1,t2⟩:=RB4.out wy GG;obtain ⟨_,_,_,_,_,_,_,_,_,_,tf⟩:=fr.at i hlt;have tf0:=tf (i*3);have tf1:=tf (i*3+1);have tf2:=tf (i*3+2);clear tf))
        all_goals
         have FR:=ab fr;have PY:=ab py;have GF:=ab (aa (aa G3.out G4.out) GG);clear fr py GG;go_wp2;go_roundw
         case rel =>
          obtain ⟨r1,r2,r3⟩:=FR.out.set i hlt PY.out;exact ⟨i+1,by omega,by go_num,r1.congr (fun j _=>uj R P k d i j),(L2.out.gr GF.out).trans ⟨r2,r3⟩⟩
         case measure=>simp [intOf];omega
     ·obtain rfl:i=n:=by omega
      go_wp2;go_end0
      exact ⟨rfl,L1.out.congr (fun j hj=>by unfold eJ;rw [if_pos hj]),(aW.of_gr G12.out).trans L2.out⟩
end Go.Proofs.YtgilmecjbjoonabGreatDoor
