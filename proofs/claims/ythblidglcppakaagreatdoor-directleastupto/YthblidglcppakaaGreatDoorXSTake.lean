/- Contracts that the proof leans on. -/
import Derived.Test.YthblidglcppakaaGreatDoorXCSa
import Derived.Test.YthblidglcppakaaGreatDoorXHand
namespace Go.Proofs.YthblidglcppakaaGreatDoor
open Go.RowKit
set_option linter.unusedVariables false
set_option linter.unusedSimpArgs false
set_option maxHeartbeats 8000000
set_option maxRecDepth 10000
def km (R P:Nat->Rat) (k:Nat) (d:Rat):Nat->Rat:=fun i=>(P k*R i-R k*P i) / d
def fG (R P:Nat->Rat) (k:Nat) (d:Rat) (i:Nat):Nat->Rat:=fun j=>if j<i then km R P k d j else R j
theorem xB (R P:Nat->Rat) (k:Nat) (d:Rat) (i j:Nat):bg (fG R P k d i) i (km R P k d i) j=fG R P k d (i+1) j:=by
 unfold bg fG;by_cases h:j=i
 ·rw [if_pos h,if_pos (by omega),h]
 ·rw [if_neg h];by_cases h2:j<i
  ·rw [if_pos h2,if_pos (by omega)]
  ·rw [if_neg h2,if_neg (by omega)]
theorem xz {R P:Nat->Rat} {k i:Nat} {d:Rat} (h:R i=0) (h2:R k=0∨P i=0):km R P k d i=R i:=by
 unfold km;rcases h2 with h2 | h2<;>rw [h,h2]<;>grind
theorem vB {R P:Nat->Rat} {k i:Nat} {d:Rat} (h:km R P k d i=R i) (j:Nat):fG R P k d i j=fG R P k d (i+1) j:=by
 unfold fG;by_cases h2:j<i
 ·rw [if_pos h2,if_pos (by omega)]
 ·rw [if_neg h2];by_cases h3:j=i
  ·subst h3;rw [if_pos (by omega),h]
  ·rw [if_neg (by omega)]
def TakR (W:World) (b n:Nat) (R P:Nat->Rat) (k:Nat) (d:Rat) (L:Nat) (v:Value) (wr:World):Prop :=
 ∃ i:Nat,i<=n/\v=.int .i64 i/\aH wr b n (fG R P k d i) L/\aX W wr b
theorem rQ (W:World) (a0 a1 a2 b0 b1 b2:Value):W.grownBy ((W.alloc (Obj.cells #[a0,a1,a2] 91)).alloc (Obj.cells #[b0,b1,b2] 91)).drew none/\dC ((W.alloc (Obj.cells #[a0,a1,a2] 91)).alloc (Obj.cells #[b0,b1,b2] 91)).drew W.heap.size a0 a1 a2/\dC ((W.alloc (Obj.cells #[a0,a1,a2] 91)).alloc (Obj.cells #[b0,b1,b2] 91)).drew (W.heap.size+1) b0 b1 b2:=by
 have a:=aJ (w:=W) (ar (ag (ae (W.alloc (Obj.cells #[a0,a1,a2] 91)) none) (Obj.cells #[b0,b1,b2] 91)) 1);have b:=aJ (w:=W.alloc (Obj.cells #[a0,a1,a2] 91)) (ar (ae ((W.alloc (Obj.cells #[a0,a1,a2] 91)).alloc (Obj.cells #[b0,b1,b2] 91)) none) 1);have e:(W.alloc (Obj.cells #[a0,a1,a2] 91)).heap.size=W.heap.size+1:=by simp
 rw [e] at b;exact ⟨ar (ag (ag (ae _ _) _) _) 1,a,b⟩
attribute [local simp] jG dC kV
theorem xA (fb:Bool) (fo fo2:Option Addr) (fl fc fl2 fc2:Nat) (b b2 n cap cap2 k:Nat) (R P:Nat->Rat) (d:Rat) (lv:Value) (L:Nat) (w:World) (hr:aH w b n R L) (hp:aH w b2 n P L) (hbb:b≠b2) (hy:FQ w lv d L)
  (hk:k<n) (hn:n<=cap) (hc:cap<=maxLen) (hn2:n<=cap2) (hc2:cap2<=maxLen) (hL1:1<=L) (hL:L<=50000000) (hd:d≠0) (hfit:∀ i,i<n->bM L (km R P k d i)) :
  Calls Tryz.prog 177 #[(jI fb (.slice fo fl fc) (.slice fo2 fl2 fc2)),.slice (some ⟨b,0,none⟩) n cap,.slice (some ⟨b2,0,none⟩) n cap2,.int .i64 (k:Nat),lv] w
   fun e w'=>e=.returned (.tuple #[])/\aH w' b n (km R P k d) L/\aX w w' b:=by
 have HR:=ab hr;have HP:=ab hp;have HY:=ab hy;have HD:=ab hd;have HF:=ab hfit;unfold maxLen at hc hc2;have hbl:=hr.lt;have hbl2:=hp.lt;obtain ⟨lo,ll,lc,lo2,ll2,lc2,rfl⟩:=hy.shape;obtain ⟨so,sl,sc,so2,sl2,sc2,c0,c1,c2,c3,_⟩:=hr.at k hk;obtain ⟨uo,ul,uc,vo,vl,vc,e0,e1,e2,e3,_⟩:=hp.at k hk;have C3:=ab c3;have E3:=ab e3;clear hr hp hy c3 e3 hd hfit;obtain ⟨W,hW⟩:∃ W,W=(w.alloc (Obj.cells #[.bool fb,.slice fo fl fc,.slice fo2 fl2 fc2,.func (.func 99) #[] #[],.func (.func 100) #[] #[],.func (.func 81) #[] #[],.func (.func 101) #[] #[],.func (.func 102) #[] #[],.func (.func 103) #[] #[],.func (.func 104) #[] #[],.func (.func 105) #[] #[]] 126)).alloc (Obj.cells #[.bool (rB d),.slice lo ll lc,.slice lo2 ll2 lc2] 91):=⟨_,rfl⟩;have GW:Hid (w.grownBy W none):=by rw [hW];exact ag (ag (ae _ _) _) _
 have HWS:Hid (W.heap.size=w.heap.size+2):=by show _=_;rw [hW];simp
 have BASE:Hid (jG W (w.heap.size)/\dC W (w.heap.size+1) (.bool (rB d)) (.slice lo ll lc) (.slice lo2 ll2 lc2)):=by
  have h2:=aJ (ae W none |> fun h=>by rw (occs:=.pos [1]) [hW] at h;exact h);rw [show ∀ o,(w.alloc o).heap.size=w.heap.size+1 from fun _=>by simp] at h2;exact ⟨(mN fb fo fo2 fl fc fl2 fc2 (by rw [hW];exact ag (ae _ _) _)).1,h2⟩
 have r:=(show kV w b k _ _ _ from ⟨c0,c1,c2⟩).k0 GW.out;have q:=(show kV w b2 k _ _ _ from ⟨e0,e1,e2⟩).k0 GW.out;clear c0 c1 c2 e0 e1 e2;go_enter Tryz.func177,Tryz.ntmps177
 go_upto_region 1 with fail;rw [<- hW];clear hW;have hws:=HWS.out;have hne1:¬ b=W.heap.size:=by omega
 have hne2:¬ b2=W.heap.size:=by omega
 have hne3:¬ W.heap.size=b:=by omega
 have hne4:¬ W.heap.size=b2:=by omega
 have nw3:W.heap.size+1≠b:=by omega
 have nw4:W.heap.size+1≠b2:=by omega
 go_cut [10,11] (fun s10 s11 wx=>Hid (∃ gp gr,s10=.pointer (some ⟨gp,0,none⟩)/\s11=.pointer (some ⟨gr,0,none⟩)/\W.heap.size<=gp/\W.heap.size<=gr/\W.grownBy wx none/\dC wx (gp) (.bool (rB (P k))) (.slice uo ul uc) (.slice vo vl vc)/\dC wx (gr) (.bool (rB (R k))) (.slice so sl sc) (.slice so2 sl2 sc2)))
 case first =>
  go_region_held3 (fun w'=>kV w' b k (.bool (rB (R k))) (.slice so sl sc) (.slice so2 sl2 sc2)/\kV w' b2 k (.bool (rB (P k))) (.slice uo ul uc) (.slice vo vl vc)) (go_keep) (fail)
  all_goals (go_wp2_with fail;go_meet;first
   | (have T:=rQ W (.bool (rB (P k))) (.slice uo ul uc) (.slice vo vl vc) (.bool (rB (R k))) (.slice so sl sc) (.slice so2 sl2 sc2);rw [hws] at T;exact ⟨_,_,rfl,rfl,by omega,by omega,T.1,T.2.1,T.2.2⟩)
   | (have T:=rQ W (.bool (rB (R k))) (.slice so sl sc) (.slice so2 sl2 sc2) (.bool (rB (P k))) (.slice uo ul uc) (.slice vo vl vc);rw [hws] at T;exact ⟨_,_,rfl,rfl,by omega,by omega,T.1,T.2.2,T.2.1⟩))
 case rest =>
  obtain ⟨gp,gr,rfl,rfl,hgp,hgr,g1,h1⟩:=hcut.out;have G1:=ab (aa GW.out g1);have CELLS:Hid (∀ wx,wc.grownBy wx (some b)->jG wx (w.heap.size)/\dC wx (w.heap.size+1) (.bool (rB d)) (.slice lo ll lc) (.slice lo2 ll2 lc2)/\dC wx (gp) (.bool (rB (P k))) (.slice uo ul uc) (.slice vo vl vc)/\dC wx (gr) (.bool (rB (R k))) (.slice so sl sc) (.slice so2 sl2 sc2)):=by
   intro wx hg;exact ⟨(BASE.out.1.k0 g1).k hg (fun e=>by have:=Option.some.inj e;omega),(BASE.out.2.k0 g1).k hg (fun e=>by have:=Option.some.inj e;omega),h1.1.k hg (fun e=>by have:=Option.some.inj e;omega),h1.2.k hg (fun e=>by have:=Option.some.inj e;omega)⟩
  have CELLS0:Hid (∀ wx,wc.grownBy wx none->jG wx (w.heap.size)/\dC wx (w.heap.size+1) (.bool (rB d)) (.slice lo ll lc) (.slice lo2 ll2 lc2)/\dC wx (gp) (.bool (rB (P k))) (.slice uo ul uc) (.slice vo vl vc)/\dC wx (gr) (.bool (rB (R k))) (.slice so sl sc) (.slice so2 sl2 sc2)):=fun wx hg=>CELLS.out wx (aX.of_gr hg).1
  have HRc:=ab (HR.out.keep0 G1.out);have HPc:=ab (HP.out.keep0 G1.out);have HYc:=ab (HY.out.keep0 G1.out);have C3c:=ab (C3.out.keep0 G1.out);have E3c:=ab (E3.out.keep0 G1.out);have HSZ:Hid (w.heap.size+2<=wc.heap.size):=by show _<=_;have:=g1.size;omega
  have HGL:Hid (gp<wc.heap.size/\gr<wc.heap.size):=⟨cV h1.1.1,cV h1.2.1⟩;have GG:wc.grownBy wc none:=ae _ _;have s0:=CELLS0.out wc GG;clear hcut h1 g1 r q BASE hne1 hne2 hne3 hne4 nw3 nw4;go_wp2;go_cut [35] (fun s35 wx=>Hid (s35=.bool (decide (R k=0) && decide (P k-d=0))/\wc.grownBy wx none))
  case first =>
   by_cases h0:R k=0
   ·have hzd:decide (R k=0)=true:=decide_eq_true h0;have HZD:=ab hzd;clear hzd h0;go_region_held3 (fun w'=>jG w' (w.heap.size)/\dC w' (w.heap.size+1) (.bool (rB d)) (.slice lo ll lc) (.slice lo2 ll2 lc2)/\dC w' (gp) (.bool (rB (P k))) (.slice uo ul uc) (.slice vo vl vc)/\dC w' (gr) (.bool (rB (R k))) (.slice so sl sc) (.slice so2 sl2 sc2)) (go_keep)
     (first | (go_at_call_of 103 (Value.agg #[.bool (rB (R k)),.slice so sl sc,.slice so2 sl2 sc2]);refine (bq _ (R k) L _ (C3c.out.keep0 (gx GG))).mono ?_;rintro e wa ⟨rfl,ga⟩;rw [HZD.out];have GG:=aa (gx GG) ga;have ha:=CELLS0.out wa GG) | (go_at_call 81;refine (cZ _ _ (P k) d L L _ (E3c.out.keep0 (gx GG)) (HYc.out.keep0 (gx GG)) (by omega)).mono ?_;rintro e wm ⟨vm,rfl,pm,gm⟩;obtain ⟨mo,ml,mc,mo2,ml2,mc2,rfl⟩:=pm.shape;have GG:=aa (gx GG) gm;have hm:=CELLS0.out wm GG) | (go_at_call_of 103 (Value.agg #[.bool (rB (P k-d)),.slice mo ml mc,.slice mo2 ml2 mc2]);refine (bq _ (P k-d) (L+L+2) _ (pm.keep0 (by first | exact aj _ | exact ah | exact ae _ _))).mono ?_;rintro e wz ⟨rfl,gz⟩;have GG:=aa (gx GG) gz;have hz:=CELLS0.out wz GG))
    all_goals (go_wp2_with fail;go_meet;exact ⟨by rw [HZD.out,Bool.true_and],(gx GG)⟩)
   ·have hzd:decide (R k=0)=false:=decide_eq_false h0;have HZD:=ab hzd;clear hzd h0;refine hd (fun w'=>jG w' (w.heap.size)/\dC w' (w.heap.size+1) (.bool (rB d)) (.slice lo ll lc) (.slice lo2 ll2 lc2)/\dC w' (gp) (.bool (rB (P k))) (.slice uo ul uc) (.slice vo vl vc)/\dC w' (gr) (.bool (rB (R k))) (.slice so sl sc) (.slice so2 sl2 sc2)) (fun hHeld=>?_);refine tk 11 [(0,22,.pointer (some ⟨w.heap.size,8,none⟩)),(1,23,.func (.func 103) #[] #[]),(2,24,Value.agg #[.bool (rB (R k)),.slice so sl sc,.slice so2 sl2 sc2])] ?_;try simp only [pA,pL,vA,vL,q0,q1,q2,q3]
    refine qn 10 3 (fun K hK=>?_);simp only [bR,q4,q5,q6,q7];go_simp
    go_at_call_of 103 (Value.agg #[.bool (rB (R k)),.slice so sl sc,.slice so2 sl2 sc2])
    refine (bq _ (R k) L _ (C3c.out.keep0 (gx GG))).mono ?_;rintro e wa ⟨rfl,ga⟩;rw [HZD.out];have GG:=aa (gx GG) ga;have ha:=CELLS0.out wa GG;go_wp2_with fail;refine bk hK (fun hHeld=>?_);clear hK K;refine tk 9 [(4,26,.bool false)] ?_;refine sk 1 [(5,27),(6,28),(7,29),(8,30),(9,31),(10,32),(11,33),(12,34)] ?_;try simp only [pA,pL,vA,vL,q0,q1,q2,q3]
    refine tk 0 [(13,35,.bool false)] ?_;try simp only [pA,pL,vA,vL,q0,q1,q2,q3]
    refine wpAnyH_done (by kernel_rfl) ?_ _
    (go_wp2_with fail;go_meet;exact ⟨by rw [HZD.out,Bool.false_and],(gx GG)⟩)
  case rest =>
   obtain ⟨rfl,g2⟩:=hcut.out;have G2:=ab g2;clear hcut g2 GG s0;have CELLSL:Hid (∀ wx,wc.grownBy wx (some b)->jG wx (w.heap.size)/\dC wx (w.heap.size+1) (.bool (rB d)) (.slice lo ll lc) (.slice lo2 ll2 lc2)/\dC wx (gp) (.bool (rB (P k))) (.slice uo ul uc) (.slice vo vl vc)/\dC wx (gr) (.bool (rB (R k))) (.slice so sl sc) (.slice so2 sl2 sc2)):=fun wx hg=>CELLS.out wx (aq (r:=some b) G2.out hg (fun _ _ e=>by cases e) (fun _ _ e=>e))
   have HRl:=ab (HRc.out.keep0 G2.out);have HPl:=ab (HPc.out.keep0 G2.out);have HYl:=ab (HYc.out.keep0 G2.out);have C3l:=ab (C3c.out.keep0 G2.out);have E3l:=ab (E3c.out.keep0 G2.out);have G12:=ab (aa G1.out G2.out);have hszl:w.heap.size+2<=wc.heap.size:=Nat.le_trans HSZ.out G2.out.size;clear HRc HPc HYc C3c E3c CELLS CELLS0 HR HP HY C3 E3;by_cases hs:R k=0/\P k-d=0
   ·have hb:(decide (R k=0) && decide (P k-d=0))=true:=by simp [hs]
    rw [hb];have HS:=ab hs;clear hs hb;go_wp2;refine bodyPost_ret (v:=.tuple #[]) (by simp [results,Tryz.results177,go_sem]) rfl ?_;refine ⟨rfl,HRl.out.congr (fun i _=>?_),aX.of_gr G12.out⟩;obtain ⟨h1,h2⟩:=HS.out;have hpd:P k=d:=by grind
    have hd:=HD.out;unfold km;have e:d*R i-0*P i=R i*d:=by grind
    rw [h1,hpd,e,Rat.mul_div_cancel hd]
   ·have hb:(decide (R k=0) && decide (P k-d=0))=false:=by
     rw [Bool.and_eq_false_iff];by_cases h1:R k=0
     ·right;exact decide_eq_false (fun h2=>hs ⟨h1,h2⟩)
     ·left;exact decide_eq_false h1
    rw [hb];clear hs hb;go_wp2;go_loopw [38] (fun v wr=>Hid (TakR wc b n R P k d L v wr)) (fun v _=>n-(intOf v).toNat)
    case atStart=>exact ⟨0,by omega,rfl,HRl.out.congr (fun i _=>by unfold fG;rw [if_neg (by omega)]),aX.refl _ _⟩
    case round =>
     obtain ⟨i,hi,rfl,l1,l2⟩:=hrel.out;have L1:=ab l1;have L2:=ab l2;clear l1 l2 hrel;by_cases hlt:i<n
     ·have hRi:fG R P k d i i=R i:=by unfold fG;rw [if_neg (by omega)]
      obtain ⟨xo,xl,xc,yo,yl,yc,c0,c1,c2,c3,_⟩:=L1.out.at i hlt;rw [hRi] at c0 c3;obtain ⟨po,pl,pc,qo,ql,qc,e0,e1,e2,e3,_⟩:=(HPl.out.keep L2.out.1 L2.out.2 (fun e=>hbb (Option.some.inj e).symm)).at i hlt;have X3:=ab c3;have Q3:=ab e3;clear c3 e3 hRi;go_upto_region 6 with fail;obtain ⟨w2,hw2⟩:∃ w2,w2=wr.alloc (Obj.cells #[.bool (rB (R i)),.slice xo xl xc,.slice yo yl yc] 91):=⟨_,rfl⟩;have G3:Hid (wr.grownBy w2 none):=by rw [hw2];exact ag (ae _ _) _
      have CX:Hid (∀ wx,w2.grownBy wx none->(jG wx (w.heap.size)/\dC wx (w.heap.size+1) (.bool (rB d)) (.slice lo ll lc) (.slice lo2 ll2 lc2)/\dC wx (gp) (.bool (rB (P k))) (.slice uo ul uc) (.slice vo vl vc)/\dC wx (gr) (.bool (rB (R k))) (.slice so sl sc) (.slice so2 sl2 sc2))/\dC wx (wr.heap.size) (.bool (rB (R i))) (.slice xo xl xc) (.slice yo yl yc)/\kV wx b2 i (.bool (rB (P i))) (.slice po pl pc) (.slice qo ql qc)):=by
       intro wx hg;have hgr:=aa G3.out hg;have s0:=CELLSL.out wx (L2.out.gr hgr).1;rw [hw2] at hg;exact ⟨s0,aJ hg,(show kV _ _ _ _ _ _ from ⟨e0,e1,e2⟩).k0 hgr⟩
      have RB:Hid (∀ wx,w2.grownBy wx none->aH wx b n (fG R P k d i) L/\kV wx b i (.bool (rB (R i))) (.slice xo xl xc) (.slice yo yl yc)):=by
       intro wx hg;have hgr:=aa G3.out hg;exact ⟨L1.out.keep0 hgr,(show kV _ _ _ _ _ _ from ⟨c0,c1,c2⟩).k0 hgr⟩
      rw [<- hw2];clear hw2 c0 c1 c2 e0 e1 e2;have hwr:w.heap.size+2<=wr.heap.size:=Nat.le_trans hszl L2.out.1.size;have X2:=ab (X3.out.keep0 G3.out);have Q2:=ab (Q3.out.keep0 G3.out);have KL:=ab ((L2.out.gr G3.out).2);have GG:w2.grownBy w2 none:=ae _ _;have s0:=CX.out w2 GG;go_cut [61] (fun s61 wx=>Hid (s61=.bool (decide (R i=0) && (decide (R k=0) || decide (P i=0)))/\w2.grownBy wx none))
      case first =>
       by_cases hx0:R i=0
       ·have HZX:Hid (decide (R i=0)=true):=decide_eq_true hx0;clear hx0;by_cases hk0:R k=0
        ·have HZK:Hid (decide (R k=0)=true):=decide_eq_true hk0;clear hk0;refine hd (fun w'=>(jG w' (w.heap.size)/\dC w' (w.heap.size+1) (.bool (rB d)) (.slice lo ll lc) (.slice lo2 ll2 lc2)/\dC w' (gp) (.bool (rB (P k))) (.slice uo ul uc) (.slice vo vl vc)/\dC w' (gr) (.bool (rB (R k))) (.slice so sl sc) (.slice so2 sl2 sc2))/\dC w' (wr.heap.size) (.bool (rB (R i))) (.slice xo xl xc) (.slice yo yl yc)/\kV w' b2 i (.bool (rB (P i))) (.slice po pl pc) (.slice qo ql qc)) (fun hHeld=>?_);refine tk 16 [(0,43,.pointer (some ⟨w.heap.size,8,none⟩)),(1,44,.func (.func 103) #[] #[]),(2,45,Value.agg #[.bool (rB (R i)),.slice xo xl xc,.slice yo yl yc])] ?_;try simp only [pA,pL,vA,vL,q0,q1,q2,q3]
         refine qn 15 3 (fun K hK=>?_);simp only [bR,q4,q5,q6,q7];go_simp
         go_at_call_of 103 (Value.agg #[.bool (rB (R i)),.slice xo xl xc,.slice yo yl yc])
         refine (bq _ (R i) L _ (X2.out.keep0 (gx GG))).mono ?_;rintro e wa ⟨rfl,ga⟩;rw [HZX.out];have GG:=aa (gx GG) ga;have ha:=CX.out wa GG;go_wp2_with fail;refine bk hK (fun hHeld=>?_);clear hK K;refine tk 11 [(4,47,.bool true),(5,48,.pointer (some ⟨w.heap.size,8,none⟩)),(6,49,.func (.func 103) #[] #[]),(7,50,Value.agg #[.bool (rB (R k)),.slice so sl sc,.slice so2 sl2 sc2])] ?_;try simp only [pA,pL,vA,vL,q0,q1,q2,q3]
         refine qn 10 8 (fun K hK=>?_);simp only [bR,q4,q5,q6,q7];go_simp
         go_at_call_of 103 (Value.agg #[.bool (rB (R k)),.slice so sl sc,.slice so2 sl2 sc2])
         refine (bq _ (R k) L _ ((C3l.out.kept KL.out).keep0 (gx GG))).mono ?_;rintro e wz ⟨rfl,gz⟩;rw [HZK.out];have GG:=aa (gx GG) gz;have hz:=CX.out wz GG;go_wp2_with fail;refine bk hK (fun hHeld=>?_);clear hK K;refine tk 9 [(9,52,.bool true)] ?_;refine sk 2 [(10,53),(11,54),(12,55),(13,56),(14,57),(15,58),(16,59)] ?_;try simp only [pA,pL,vA,vL,q0,q1,q2,q3]
         refine tk 0 [(17,60,.bool true),(18,61,.bool true)] ?_;try simp only [pA,pL,vA,vL,q0,q1,q2,q3]
         refine wpAnyH_done (by kernel_rfl) ?_ _
         (go_wp2_with fail;go_meet;exact ⟨by rw [HZX.out,HZK.out,Bool.true_and,Bool.true_or],(gx GG)⟩)
        ·have HZK:Hid (decide (R k=0)=false):=decide_eq_false hk0;clear hk0;refine hd (fun w'=>(jG w' (w.heap.size)/\dC w' (w.heap.size+1) (.bool (rB d)) (.slice lo ll lc) (.slice lo2 ll2 lc2)/\dC w' (gp) (.bool (rB (P k))) (.slice uo ul uc) (.slice vo vl vc)/\dC w' (gr) (.bool (rB (R k))) (.slice so sl sc) (.slice so2 sl2 sc2))/\dC w' (wr.heap.size) (.bool (rB (R i))) (.slice xo xl xc) (.slice yo yl yc)/\kV w' b2 i (.bool (rB (P i))) (.slice po pl pc) (.slice qo ql qc)) (fun hHeld=>?_);refine tk 16 [(0,43,.pointer (some ⟨w.heap.size,8,none⟩)),(1,44,.func (.func 103) #[] #[]),(2,45,Value.agg #[.bool (rB (R i)),.slice xo xl xc,.slice yo yl yc])] ?_;try simp only [pA,pL,vA,vL,q0,q1,q2,q3]
         refine qn 15 3 (fun K hK=>?_);simp only [bR,q4,q5,q6,q7];go_simp
         go_at_call_of 103 (Value.agg #[.bool (rB (R i)),.slice xo xl xc,.slice yo yl yc])
         refine (bq _ (R i) L _ (X2.out.keep0 (gx GG))).mono ?_;rintro e wa ⟨rfl,ga⟩;rw [HZX.out];have GG:=aa (gx GG) ga;have ha:=CX.out wa GG;go_wp2_with fail;refine bk hK (fun hHeld=>?_);clear hK K;refine tk 11 [(4,47,.bool true),(5,48,.pointer (some ⟨w.heap.size,8,none⟩)),(6,49,.func (.func 103) #[] #[]),(7,50,Value.agg #[.bool (rB (R k)),.slice so sl sc,.slice so2 sl2 sc2])] ?_;try simp only [pA,pL,vA,vL,q0,q1,q2,q3]
         refine qn 10 8 (fun K hK=>?_);simp only [bR,q4,q5,q6,q7];go_simp
         go_at_call_of 103 (Value.agg #[.bool (rB (R k)),.slice so sl sc,.slice so2 sl2 sc2])
         refine (bq _ (R k) L _ ((C3l.out.kept KL.out).keep0 (gx GG))).mono ?_;rintro e wz ⟨rfl,gz⟩;rw [HZK.out];have GG:=aa (gx GG) gz;have hz:=CX.out wz GG;go_wp2_with fail;refine bk hK (fun hHeld=>?_);clear hK K;refine tk 3 [(9,52,.bool false),(10,53,.pointer (some ⟨w.heap.size,8,none⟩)),(11,54,.func (.func 103) #[] #[]),(12,55,.slice (some ⟨b2,0,none⟩) n cap2),(13,56,.int .i64 (i:Nat)),(14,57,.pointer (some ⟨b2,i*3,none⟩)),(15,58,Value.agg #[.bool (rB (P i)),.slice po pl pc,.slice qo ql qc])] ?_;try simp only [pA,pL,vA,vL,q0,q1,q2,q3]
         refine qn 2 16 (fun K hK=>?_);simp only [bR,q4,q5,q6,q7];go_simp
         go_at_call_of 103 (Value.agg #[.bool (rB (P i)),.slice po pl pc,.slice qo ql qc])
         refine (bq _ (P i) L _ (Q2.out.keep0 (gx GG))).mono ?_;rintro e wv ⟨rfl,gv⟩;have GG:=aa (gx GG) gv;have hv:=CX.out wv GG;go_wp2_with fail;refine bk hK (fun hHeld=>?_);clear hK K;refine tk 0 [(17,60,.bool (decide (P i=0))),(18,61,.bool (decide (P i=0)))] ?_;try simp only [pA,pL,vA,vL,q0,q1,q2,q3]
         refine wpAnyH_done (by kernel_rfl) ?_ _
         (go_wp2_with fail;go_meet;exact ⟨by rw [HZX.out,HZK.out,Bool.true_and,Bool.false_or],(gx GG)⟩)
       ·have HZX:Hid (decide (R i=0)=false):=decide_eq_false hx0;clear hx0;refine hd (fun w'=>(jG w' (w.heap.size)/\dC w' (w.heap.size+1) (.bool (rB d)) (.slice lo ll lc) (.slice lo2 ll2 lc2)/\dC w' (gp) (.bool (rB (P k))) (.slice uo ul uc) (.slice vo vl vc)/\dC w' (gr) (.bool (rB (R k))) (.slice so sl sc) (.slice so2 sl2 sc2))/\dC w' (wr.heap.size) (.bool (rB (R i))) (.slice xo xl xc) (.slice yo yl yc)/\kV w' b2 i (.bool (rB (P i))) (.slice po pl pc) (.slice qo ql qc)) (fun hHeld=>?_);refine tk 16 [(0,43,.pointer (some ⟨w.heap.size,8,none⟩)),(1,44,.func (.func 103) #[] #[]),(2,45,Value.agg #[.bool (rB (R i)),.slice xo xl xc,.slice yo yl yc])] ?_;try simp only [pA,pL,vA,vL,q0,q1,q2,q3]
        refine qn 15 3 (fun K hK=>?_);simp only [bR,q4,q5,q6,q7];go_simp
        go_at_call_of 103 (Value.agg #[.bool (rB (R i)),.slice xo xl xc,.slice yo yl yc])
        refine (bq _ (R i) L _ (X2.out.keep0 (gx GG))).mono ?_;rintro e wa ⟨rfl,ga⟩;rw [HZX.out];have GG:=aa (gx GG) ga;have ha:=CX.out wa GG;go_wp2_with fail;refine bk hK (fun hHeld=>?_);clear hK K;refine tk 14 [(4,47,.bool false)] ?_;refine sk 1 [(5,48),(6,49),(7,50),(8,51),(9,52),(10,53),(11,54),(12,55),(13,56),(14,57),(15,58),(16,59),(17,60)] ?_;try simp only [pA,pL,vA,vL,q0,q1,q2,q3]
        refine tk 0 [(18,61,.bool false)] ?_;try simp only [pA,pL,vA,vL,q0,q1,q2,q3]
        refine wpAnyH_done (by kernel_rfl) ?_ _
        (go_wp2_with fail;go_meet;exact ⟨by rw [HZX.out,Bool.false_and],(gx GG)⟩)
      case rest =>
       obtain ⟨rfl,g4⟩:=hcut.out;have G4:=ab g4;clear hcut g4 GG s0;by_cases hs:R i=0/\(R k=0∨P i=0)
       ·have hb:(decide (R i=0) && (decide (R k=0) || decide (P i=0)))=true:=by
         obtain ⟨h1,h2⟩:=hs;rw [decide_eq_true h1,Bool.true_and,Bool.or_eq_true];rcases h2 with h2 | h2
         ·left;exact decide_eq_true h2
         ·right;exact decide_eq_true h2
        rw [hb];have HS:=ab hs;clear hs hb;go_wp2;go_roundw
        case rel=>exact ⟨i+1,by omega,by go_num,(L1.out.keep0 (aa G3.out G4.out)).congr (fun j _=>vB (xz HS.out.1 HS.out.2) j),L2.out.gr (aa G3.out G4.out)⟩
        case measure=>simp [intOf];omega
       ·have hb:(decide (R i=0) && (decide (R k=0) || decide (P i=0)))=false:=by
         rw [Bool.and_eq_false_iff];by_cases h1:R i=0
         ·right
          rw [Bool.or_eq_false_iff];exact ⟨decide_eq_false (fun h=>hs ⟨h1,.inl h⟩),decide_eq_false (fun h=>hs ⟨h1,.inr h⟩)⟩
         ·left;exact decide_eq_false h1
        rw [hb];clear hs hb;have X4:=ab (X2.out.keep0 G4.out);have Q4:=ab (Q2.out.keep0 G4.out);have K4:=ab (KL.out.trans (aW.of_gr G4.out));have CX4:Hid (∀ wx,wc.grownBy wx none->(jG wx (w.heap.size)/\dC wx (w.heap.size+1) (.bool (rB d)) (.slice lo ll lc) (.slice lo2 ll2 lc2)/\dC wx (gp) (.bool (rB (P k))) (.slice uo ul uc) (.slice vo vl vc)/\dC wx (gr) (.bool (rB (R k))) (.slice so sl sc) (.slice so2 sl2 sc2))/\dC wx (wr.heap.size) (.bool (rB (R i))) (.slice xo xl xc) (.slice yo yl yc)/\kV wx b2 i (.bool (rB (P i))) (.slice po pl pc) (.slice qo ql qc)):=fun wx hg=>CX.out wx (aa G4.out hg)
        have RB4:Hid (∀ wx,wc.grownBy wx none->aH wx b n (fG R P k d i) L/\kV wx b i (.bool (rB (R i))) (.slice xo xl xc) (.slice yo yl yc)):=fun wx hg=>RB.out wx (aa G4.out hg)
        have nb1:b≠w.heap.size:=by omega
        have nb2:b≠w.heap.size+1:=by omega
        have nb3:b≠gp:=by omega
        have nb4:b≠gr:=by omega
        have nb5:b≠wr.heap.size:=by omega
        have GG:wc.grownBy wc none:=ae _ _;have s0:=CX4.out wc GG;go_wp2;go_region_held3 (fun w'=>(jG w' (w.heap.size)/\dC w' (w.heap.size+1) (.bool (rB d)) (.slice lo ll lc) (.slice lo2 ll2 lc2)/\dC w' (gp) (.bool (rB (P k))) (.slice uo ul uc) (.slice vo vl vc)/\dC w' (gr) (.bool (rB (R k))) (.slice so sl sc) (.slice so2 sl2 sc2))/\dC w' (wr.heap.size) (.bool (rB (R i))) (.slice xo xl xc) (.slice yo yl yc)/\kV w' b2 i (.bool (rB (P i))) (.slice po pl pc) (.slice qo ql qc)) (go_keep)
         (first | (go_at_call_of 101 (Value.agg #[.bool (rB (P k)),.slice uo ul uc,.slice vo vl vc]);refine (eM _ _ (P k) (R i) L L _ ((E3l.out.kept K4.out).keep0 (gx GG)) (X4.out.keep0 (gx GG)) (by omega)).mono ?_;rintro e wa ⟨va,rfl,pa,ga⟩;obtain ⟨ao,al,ac,ao2,al2,ac2,rfl⟩:=pa.shape;(try have pe:=pe.keep0 (aa (by first | exact aj _ | exact ah | exact ae _ _) ga));have GG:=aa (gx GG) ga;have ha:=CX4.out wa GG) | (go_at_call_of 101 (Value.agg #[.bool (rB (R k)),.slice so sl sc,.slice so2 sl2 sc2]);refine (eM _ _ (R k) (P i) L L _ ((C3l.out.kept K4.out).keep0 (gx GG)) (Q4.out.keep0 (gx GG)) (by omega)).mono ?_;rintro e we ⟨ve,rfl,pe,ge⟩;obtain ⟨eo,el,ec,eo2,el2,ec2,rfl⟩:=pe.shape;(try have pa:=pa.keep0 (aa (by first | exact aj _ | exact ah | exact ae _ _) ge));have GG:=aa (gx GG) ge;have he:=CX4.out we GG) | (go_at_call 81;refine (cZ _ _ (P k*R i) (R k*P i) (L+L+1) (L+L+1) _ (pa.keep0 (by first | exact aj _ | exact ah | exact ae _ _)) (pe.keep0 (by first | exact aj _ | exact ah | exact ae _ _)) (by omega)).mono ?_;rintro e wm ⟨vm,rfl,pm,gm⟩;obtain ⟨mo,ml,mc,mo2,ml2,mc2,rfl⟩:=pm.shape;have GG:=aa (gx GG) gm;have hm:=CX4.out wm GG) | (go_at_call 102;refine (pE _ _ (P k*R i-R k*P i) d (L+L+1+(L+L+1)+2) L _ (pm.keep0 (by first | exact aj _ | exact ah | exact ae _ _)) ((HYl.out.kept K4.out).keep0 (gx GG)) HD.out (by omega)).mono ?_;rintro e wy ⟨vy,rfl,py,gy⟩;obtain ⟨yo,yl,yc,yo2,yl2,yc2,rfl⟩:=py.shape;have GG:=aa (gx GG) gy;have hy:=CX4.out wy GG;have py:=py.tight (L':=L) (HF.out i hlt);obtain ⟨fr,t0⟩:=RB4.out wy GG;obtain ⟨_,_,_,_,_,_,_,_,_,_,tf⟩:=fr.at i hlt;have tf0:=tf (i*3);have tf1:=tf (i*3+1);have tf2:=tf (i*3+2);clear tf))
        all_goals
         have FR:=ab fr;have PY:=ab py;have GF:=ab (aa (aa G3.out G4.out) GG);clear fr py GG;go_wp2;go_roundw
         case rel =>
          obtain ⟨r1,r2,r3⟩:=FR.out.set i hlt PY.out;exact ⟨i+1,by omega,by go_num,r1.congr (fun j _=>xB R P k d i j),(L2.out.gr GF.out).trans ⟨r2,r3⟩⟩
         case measure=>simp [intOf];omega
     ·obtain rfl:i=n:=by omega
      go_wp2;go_end0
      exact ⟨rfl,L1.out.congr (fun j hj=>by unfold fG;rw [if_pos hj]),(aX.of_gr G12.out).trans L2.out⟩
end Go.Proofs.YthblidglcppakaaGreatDoor
