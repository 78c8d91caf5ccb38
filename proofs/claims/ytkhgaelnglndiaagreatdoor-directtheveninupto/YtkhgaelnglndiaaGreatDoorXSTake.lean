/- Contracts that the proof leans on. -/
import Derived.Test.YtkhgaelnglndiaaGreatDoorXCSa
import Derived.Test.YtkhgaelnglndiaaGreatDoorXHand
namespace Go.Proofs.YtkhgaelnglndiaaGreatDoor
open Go.RowKit
set_option linter.unusedVariables false
set_option linter.unusedSimpArgs false
set_option maxHeartbeats 8000000
set_option maxRecDepth 10000
def takeF (R P:Nat->Rat) (k:Nat) (d:Rat):Nat->Rat:=fun i=>(P k*R i-R k*P i) / d
def takeUp (R P:Nat->Rat) (k:Nat) (d:Rat) (i:Nat):Nat->Rat:=fun j=>if j<i then takeF R P k d j else R j
theorem takeUp_put (R P:Nat->Rat) (k:Nat) (d:Rat) (i j:Nat):put (takeUp R P k d i) i (takeF R P k d i) j=takeUp R P k d (i+1) j:=by
 unfold put takeUp;by_cases h:j=i
 ·rw [if_pos h,if_pos (by omega),h]
 ·rw [if_neg h];by_cases h2:j<i
  ·rw [if_pos h2,if_pos (by omega)]
  ·rw [if_neg h2,if_neg (by omega)]
theorem takeF_zero {R P:Nat->Rat} {k i:Nat} {d:Rat} (h:R i=0) (h2:R k=0∨P i=0):takeF R P k d i=R i:=by
 unfold takeF;rcases h2 with h2 | h2<;>rw [h,h2]<;>grind
theorem takeUp_skip {R P:Nat->Rat} {k i:Nat} {d:Rat} (h:takeF R P k d i=R i) (j:Nat):takeUp R P k d i j=takeUp R P k d (i+1) j:=by
 unfold takeUp;by_cases h2:j<i
 ·rw [if_pos h2,if_pos (by omega)]
 ·rw [if_neg h2];by_cases h3:j=i
  ·subst h3;rw [if_pos (by omega),h]
  ·rw [if_neg (by omega)]
def TakR (W:World) (b n:Nat) (R P:Nat->Rat) (k:Nat) (d:Rat) (L:Nat) (v:Value) (wr:World):Prop :=
 ∃ i:Nat,i<=n/\v=.int .i64 i/\FRow wr b n (takeUp R P k d i) L/\RowW W wr b
theorem two_boxes (W:World) (a0 a1 a2 b0 b1 b2:Value):W.grownBy ((W.alloc (Obj.cells #[a0,a1,a2] 70)).alloc (Obj.cells #[b0,b1,b2] 70)).drew none/\Th0 ((W.alloc (Obj.cells #[a0,a1,a2] 70)).alloc (Obj.cells #[b0,b1,b2] 70)).drew W.heap.size a0 a1 a2/\Th0 ((W.alloc (Obj.cells #[a0,a1,a2] 70)).alloc (Obj.cells #[b0,b1,b2] 70)).drew (W.heap.size+1) b0 b1 b2:=by
 have a:=box_three (w:=W) (gr_drewN (gr_alloc (gr_refl (W.alloc (Obj.cells #[a0,a1,a2] 70)) none) (Obj.cells #[b0,b1,b2] 70)) 1);have b:=box_three (w:=W.alloc (Obj.cells #[a0,a1,a2] 70)) (gr_drewN (gr_refl ((W.alloc (Obj.cells #[a0,a1,a2] 70)).alloc (Obj.cells #[b0,b1,b2] 70)) none) 1);have e:(W.alloc (Obj.cells #[a0,a1,a2] 70)).heap.size=W.heap.size+1:=by simp
 rw [e] at b;exact ⟨gr_drewN (gr_alloc (gr_alloc (gr_refl _ _) _) _) 1,a,b⟩
attribute [local simp] FdC Th0 Th3
theorem takeOut_at (fb:Bool) (fo fo2:Option Addr) (fl fc fl2 fc2:Nat) (b b2 n cap cap2 k:Nat) (R P:Nat->Rat) (d:Rat) (lv:Value) (L:Nat) (w:World) (hr:FRow w b n R L) (hp:FRow w b2 n P L) (hbb:b≠b2) (hy:FQ w lv d L)
  (hk:k<n) (hn:n<=cap) (hc:cap<=maxLen) (hn2:n<=cap2) (hc2:cap2<=maxLen) (hL1:1<=L) (hL:L<=50000000) (hd:d≠0) (hfit:∀ i,i<n->FitW L (takeF R P k d i)) :
  Calls Tryz.prog 201 #[(fldV fb (.slice fo fl fc) (.slice fo2 fl2 fc2)),.slice (some ⟨b,0,none⟩) n cap,.slice (some ⟨b2,0,none⟩) n cap2,.int .i64 (k:Nat),lv] w
   fun e w'=>e=.returned (.tuple #[])/\FRow w' b n (takeF R P k d) L/\RowW w w' b:=by
 have HR:=hide hr;have HP:=hide hp;have HY:=hide hy;have HD:=hide hd;have HF:=hide hfit;unfold maxLen at hc hc2;have hbl:=hr.lt;have hbl2:=hp.lt;obtain ⟨lo,ll,lc,lo2,ll2,lc2,rfl⟩:=hy.shape;obtain ⟨so,sl,sc,so2,sl2,sc2,c0,c1,c2,c3,_⟩:=hr.at k hk;obtain ⟨uo,ul,uc,vo,vl,vc,e0,e1,e2,e3,_⟩:=hp.at k hk;have C3:=hide c3;have E3:=hide e3;clear hr hp hy c3 e3 hd hfit;obtain ⟨W,hW⟩:∃ W,W=(w.alloc (Obj.cells #[.bool fb,.slice fo fl fc,.slice fo2 fl2 fc2,.func (.func 131) #[] #[],.func (.func 98) #[] #[],.func (.func 54) #[] #[],.func (.func 27) #[] #[],.func (.func 132) #[] #[],.func (.func 133) #[] #[],.func (.func 134) #[] #[],.func (.func 135) #[] #[]] 132)).alloc (Obj.cells #[.bool (rB d),.slice lo ll lc,.slice lo2 ll2 lc2] 70):=⟨_,rfl⟩;have GW:Hid (w.grownBy W none):=by rw [hW];exact gr_alloc (gr_alloc (gr_refl _ _) _) _
 have HWS:Hid (W.heap.size=w.heap.size+2):=by show _=_;rw [hW];simp
 have BASE:Hid (FdC W (w.heap.size)/\Th0 W (w.heap.size+1) (.bool (rB d)) (.slice lo ll lc) (.slice lo2 ll2 lc2)):=by
  have h2:=box_three (gr_refl W none |> fun h=>by rw (occs:=.pos [1]) [hW] at h;exact h);rw [show ∀ o,(w.alloc o).heap.size=w.heap.size+1 from fun _=>by simp] at h2;exact ⟨(fd_new fb fo fo2 fl fc fl2 fc2 (by rw [hW];exact gr_alloc (gr_refl _ _) _)).1,h2⟩
 have r:=(show Th3 w b k _ _ _ from ⟨c0,c1,c2⟩).k0 GW.out;have q:=(show Th3 w b2 k _ _ _ from ⟨e0,e1,e2⟩).k0 GW.out;clear c0 c1 c2 e0 e1 e2;go_enter Tryz.func201,Tryz.ntmps201
 go_upto_region 1 with fail;rw [<- hW];clear hW;have hws:=HWS.out;have hne1:¬ b=W.heap.size:=by omega
 have hne2:¬ b2=W.heap.size:=by omega
 have hne3:¬ W.heap.size=b:=by omega
 have hne4:¬ W.heap.size=b2:=by omega
 have nw3:W.heap.size+1≠b:=by omega
 have nw4:W.heap.size+1≠b2:=by omega
 go_cut [10,11] (fun s10 s11 wx=>Hid (∃ gp gr,s10=.pointer (some ⟨gp,0,none⟩)/\s11=.pointer (some ⟨gr,0,none⟩)/\W.heap.size<=gp/\W.heap.size<=gr/\W.grownBy wx none/\Th0 wx (gp) (.bool (rB (P k))) (.slice uo ul uc) (.slice vo vl vc)/\Th0 wx (gr) (.bool (rB (R k))) (.slice so sl sc) (.slice so2 sl2 sc2)))
 case first =>
  go_region_held3 (fun w'=>Th3 w' b k (.bool (rB (R k))) (.slice so sl sc) (.slice so2 sl2 sc2)/\Th3 w' b2 k (.bool (rB (P k))) (.slice uo ul uc) (.slice vo vl vc)) (go_keep) (fail)
  all_goals (go_wp2_with fail;go_meet;first
   | (have T:=two_boxes W (.bool (rB (P k))) (.slice uo ul uc) (.slice vo vl vc) (.bool (rB (R k))) (.slice so sl sc) (.slice so2 sl2 sc2);rw [hws] at T;exact ⟨_,_,rfl,rfl,by omega,by omega,T.1,T.2.1,T.2.2⟩)
   | (have T:=two_boxes W (.bool (rB (R k))) (.slice so sl sc) (.slice so2 sl2 sc2) (.bool (rB (P k))) (.slice uo ul uc) (.slice vo vl vc);rw [hws] at T;exact ⟨_,_,rfl,rfl,by omega,by omega,T.1,T.2.2,T.2.1⟩))
 case rest =>
  obtain ⟨gp,gr,rfl,rfl,hgp,hgr,g1,h1⟩:=hcut.out;have G1:=hide (gr_none GW.out g1);have CELLS:Hid (∀ wx,wc.grownBy wx (some b)->FdC wx (w.heap.size)/\Th0 wx (w.heap.size+1) (.bool (rB d)) (.slice lo ll lc) (.slice lo2 ll2 lc2)/\Th0 wx (gp) (.bool (rB (P k))) (.slice uo ul uc) (.slice vo vl vc)/\Th0 wx (gr) (.bool (rB (R k))) (.slice so sl sc) (.slice so2 sl2 sc2)):=by
   intro wx hg;exact ⟨(BASE.out.1.k0 g1).k hg (fun e=>by have:=Option.some.inj e;omega),(BASE.out.2.k0 g1).k hg (fun e=>by have:=Option.some.inj e;omega),h1.1.k hg (fun e=>by have:=Option.some.inj e;omega),h1.2.k hg (fun e=>by have:=Option.some.inj e;omega)⟩
  have CELLS0:Hid (∀ wx,wc.grownBy wx none->FdC wx (w.heap.size)/\Th0 wx (w.heap.size+1) (.bool (rB d)) (.slice lo ll lc) (.slice lo2 ll2 lc2)/\Th0 wx (gp) (.bool (rB (P k))) (.slice uo ul uc) (.slice vo vl vc)/\Th0 wx (gr) (.bool (rB (R k))) (.slice so sl sc) (.slice so2 sl2 sc2)):=fun wx hg=>CELLS.out wx (RowW.of_gr hg).1
  have HRc:=hide (HR.out.keep0 G1.out);have HPc:=hide (HP.out.keep0 G1.out);have HYc:=hide (HY.out.keep0 G1.out);have C3c:=hide (C3.out.keep0 G1.out);have E3c:=hide (E3.out.keep0 G1.out);have HSZ:Hid (w.heap.size+2<=wc.heap.size):=by show _<=_;have:=g1.size;omega
  have HGL:Hid (gp<wc.heap.size/\gr<wc.heap.size):=⟨cell_lt h1.1.1,cell_lt h1.2.1⟩;have GG:wc.grownBy wc none:=gr_refl _ _;have s0:=CELLS0.out wc GG;clear hcut h1 g1 r q BASE hne1 hne2 hne3 hne4 nw3 nw4;go_wp2;go_cut [35] (fun s35 wx=>Hid (s35=.bool (decide (R k=0) && decide (P k-d=0))/\wc.grownBy wx none))
  case first =>
   by_cases h0:R k=0
   ·have hzd:decide (R k=0)=true:=decide_eq_true h0;have HZD:=hide hzd;clear hzd h0;go_region_held3 (fun w'=>FdC w' (w.heap.size)/\Th0 w' (w.heap.size+1) (.bool (rB d)) (.slice lo ll lc) (.slice lo2 ll2 lc2)/\Th0 w' (gp) (.bool (rB (P k))) (.slice uo ul uc) (.slice vo vl vc)/\Th0 w' (gr) (.bool (rB (R k))) (.slice so sl sc) (.slice so2 sl2 sc2)) (go_keep)
     (first | (go_at_call_of 133 (Value.agg #[.bool (rB (R k)),.slice so sl sc,.slice so2 sl2 sc2]);refine (qIsZero_at _ (R k) L _ (C3c.out.keep0 (gx GG))).mono ?_;rintro e wa ⟨rfl,ga⟩;rw [HZD.out];have GG:=gr_none (gx GG) ga;have ha:=CELLS0.out wa GG) | (go_at_call 54;refine (qMinus_at _ _ (P k) d L L _ (E3c.out.keep0 (gx GG)) (HYc.out.keep0 (gx GG)) (by omega)).mono ?_;rintro e wm ⟨vm,rfl,pm,gm⟩;obtain ⟨mo,ml,mc,mo2,ml2,mc2,rfl⟩:=pm.shape;have GG:=gr_none (gx GG) gm;have hm:=CELLS0.out wm GG) | (go_at_call_of 133 (Value.agg #[.bool (rB (P k-d)),.slice mo ml mc,.slice mo2 ml2 mc2]);refine (qIsZero_at _ (P k-d) (L+L+2) _ (pm.keep0 (by first | exact gr_d _ | exact gr_d1 | exact gr_refl _ _))).mono ?_;rintro e wz ⟨rfl,gz⟩;have GG:=gr_none (gx GG) gz;have hz:=CELLS0.out wz GG))
    all_goals (go_wp2_with fail;go_meet;exact ⟨by rw [HZD.out,Bool.true_and],(gx GG)⟩)
   ·have hzd:decide (R k=0)=false:=decide_eq_false h0;have HZD:=hide hzd;clear hzd h0;refine hd (fun w'=>FdC w' (w.heap.size)/\Th0 w' (w.heap.size+1) (.bool (rB d)) (.slice lo ll lc) (.slice lo2 ll2 lc2)/\Th0 w' (gp) (.bool (rB (P k))) (.slice uo ul uc) (.slice vo vl vc)/\Th0 w' (gr) (.bool (rB (R k))) (.slice so sl sc) (.slice so2 sl2 sc2)) (fun hHeld=>?_);refine tk 11 [(0,22,.pointer (some ⟨w.heap.size,8,none⟩)),(1,23,.func (.func 133) #[] #[]),(2,24,Value.agg #[.bool (rB (R k)),.slice so sl sc,.slice so2 sl2 sc2])] ?_;try simp only [pA,pL,vA,vL,q0,q1,q2,q3]
    refine on1 10 3 (fun K hK=>?_);simp only [opAtD,q4,q5,q6,q7];go_simp
    go_at_call_of 133 (Value.agg #[.bool (rB (R k)),.slice so sl sc,.slice so2 sl2 sc2])
    refine (qIsZero_at _ (R k) L _ (C3c.out.keep0 (gx GG))).mono ?_;rintro e wa ⟨rfl,ga⟩;rw [HZD.out];have GG:=gr_none (gx GG) ga;have ha:=CELLS0.out wa GG;go_wp2_with fail;refine bk hK (fun hHeld=>?_);clear hK K;refine tk 9 [(4,26,.bool false)] ?_;refine sk 1 [(5,27),(6,28),(7,29),(8,30),(9,31),(10,32),(11,33),(12,34)] ?_;try simp only [pA,pL,vA,vL,q0,q1,q2,q3]
    refine tk 0 [(13,35,.bool false)] ?_;try simp only [pA,pL,vA,vL,q0,q1,q2,q3]
    refine wpAnyH_done (by kernel_rfl) ?_ _
    (go_wp2_with fail;go_meet;exact ⟨by rw [HZD.out,Bool.false_and],(gx GG)⟩)
  case rest =>
   obtain ⟨rfl,g2⟩:=hcut.out;have G2:=hide g2;clear hcut g2 GG s0;have CELLSL:Hid (∀ wx,wc.grownBy wx (some b)->FdC wx (w.heap.size)/\Th0 wx (w.heap.size+1) (.bool (rB d)) (.slice lo ll lc) (.slice lo2 ll2 lc2)/\Th0 wx (gp) (.bool (rB (P k))) (.slice uo ul uc) (.slice vo vl vc)/\Th0 wx (gr) (.bool (rB (R k))) (.slice so sl sc) (.slice so2 sl2 sc2)):=fun wx hg=>CELLS.out wx (gr_trans (r:=some b) G2.out hg (fun _ _ e=>by cases e) (fun _ _ e=>e))
   have HRl:=hide (HRc.out.keep0 G2.out);have HPl:=hide (HPc.out.keep0 G2.out);have HYl:=hide (HYc.out.keep0 G2.out);have C3l:=hide (C3c.out.keep0 G2.out);have E3l:=hide (E3c.out.keep0 G2.out);have G12:=hide (gr_none G1.out G2.out);have hszl:w.heap.size+2<=wc.heap.size:=Nat.le_trans HSZ.out G2.out.size;clear HRc HPc HYc C3c E3c CELLS CELLS0 HR HP HY C3 E3;by_cases hs:R k=0/\P k-d=0
   ·have hb:(decide (R k=0) && decide (P k-d=0))=true:=by simp [hs]
    rw [hb];have HS:=hide hs;clear hs hb;go_wp2;refine bodyPost_ret (v:=.tuple #[]) (by simp [results,Tryz.results201,go_sem]) rfl ?_;refine ⟨rfl,HRl.out.congr (fun i _=>?_),RowW.of_gr G12.out⟩;obtain ⟨h1,h2⟩:=HS.out;have hpd:P k=d:=by grind
    have hd:=HD.out;unfold takeF;have e:d*R i-0*P i=R i*d:=by grind
    rw [h1,hpd,e,Rat.mul_div_cancel hd]
   ·have hb:(decide (R k=0) && decide (P k-d=0))=false:=by
     rw [Bool.and_eq_false_iff];by_cases h1:R k=0
     ·right;exact decide_eq_false (fun h2=>hs ⟨h1,h2⟩)
     ·left;exact decide_eq_false h1
    rw [hb];clear hs hb;go_wp2;go_loopw [38] (fun v wr=>Hid (TakR wc b n R P k d L v wr)) (fun v _=>n-(intOf v).toNat)
    case atStart=>exact ⟨0,by omega,rfl,HRl.out.congr (fun i _=>by unfold takeUp;rw [if_neg (by omega)]),RowW.refl _ _⟩
    case round =>
     obtain ⟨i,hi,rfl,l1,l2⟩:=hrel.out;have L1:=hide l1;have L2:=hide l2;clear l1 l2 hrel;by_cases hlt:i<n
     ·have hRi:takeUp R P k d i i=R i:=by unfold takeUp;rw [if_neg (by omega)]
      obtain ⟨xo,xl,xc,yo,yl,yc,c0,c1,c2,c3,_⟩:=L1.out.at i hlt;rw [hRi] at c0 c3;obtain ⟨po,pl,pc,qo,ql,qc,e0,e1,e2,e3,_⟩:=(HPl.out.keep L2.out.1 L2.out.2 (fun e=>hbb (Option.some.inj e).symm)).at i hlt;have X3:=hide c3;have Q3:=hide e3;clear c3 e3 hRi;go_upto_region 6 with fail;obtain ⟨w2,hw2⟩:∃ w2,w2=wr.alloc (Obj.cells #[.bool (rB (R i)),.slice xo xl xc,.slice yo yl yc] 70):=⟨_,rfl⟩;have G3:Hid (wr.grownBy w2 none):=by rw [hw2];exact gr_alloc (gr_refl _ _) _
      have CX:Hid (∀ wx,w2.grownBy wx none->(FdC wx (w.heap.size)/\Th0 wx (w.heap.size+1) (.bool (rB d)) (.slice lo ll lc) (.slice lo2 ll2 lc2)/\Th0 wx (gp) (.bool (rB (P k))) (.slice uo ul uc) (.slice vo vl vc)/\Th0 wx (gr) (.bool (rB (R k))) (.slice so sl sc) (.slice so2 sl2 sc2))/\Th0 wx (wr.heap.size) (.bool (rB (R i))) (.slice xo xl xc) (.slice yo yl yc)/\Th3 wx b2 i (.bool (rB (P i))) (.slice po pl pc) (.slice qo ql qc)):=by
       intro wx hg;have hgr:=gr_none G3.out hg;have s0:=CELLSL.out wx (L2.out.gr hgr).1;rw [hw2] at hg;exact ⟨s0,box_three hg,(show Th3 _ _ _ _ _ _ from ⟨e0,e1,e2⟩).k0 hgr⟩
      have RB:Hid (∀ wx,w2.grownBy wx none->FRow wx b n (takeUp R P k d i) L/\Th3 wx b i (.bool (rB (R i))) (.slice xo xl xc) (.slice yo yl yc)):=by
       intro wx hg;have hgr:=gr_none G3.out hg;exact ⟨L1.out.keep0 hgr,(show Th3 _ _ _ _ _ _ from ⟨c0,c1,c2⟩).k0 hgr⟩
      rw [<- hw2];clear hw2 c0 c1 c2 e0 e1 e2;have hwr:w.heap.size+2<=wr.heap.size:=Nat.le_trans hszl L2.out.1.size;have X2:=hide (X3.out.keep0 G3.out);have Q2:=hide (Q3.out.keep0 G3.out);have KL:=hide ((L2.out.gr G3.out).2);have GG:w2.grownBy w2 none:=gr_refl _ _;have s0:=CX.out w2 GG;go_cut [61] (fun s61 wx=>Hid (s61=.bool (decide (R i=0) && (decide (R k=0) || decide (P i=0)))/\w2.grownBy wx none))
      case first =>
       by_cases hx0:R i=0
       ·have HZX:Hid (decide (R i=0)=true):=decide_eq_true hx0;clear hx0;by_cases hk0:R k=0
        ·have HZK:Hid (decide (R k=0)=true):=decide_eq_true hk0;clear hk0;refine hd (fun w'=>(FdC w' (w.heap.size)/\Th0 w' (w.heap.size+1) (.bool (rB d)) (.slice lo ll lc) (.slice lo2 ll2 lc2)/\Th0 w' (gp) (.bool (rB (P k))) (.slice uo ul uc) (.slice vo vl vc)/\Th0 w' (gr) (.bool (rB (R k))) (.slice so sl sc) (.slice so2 sl2 sc2))/\Th0 w' (wr.heap.size) (.bool (rB (R i))) (.slice xo xl xc) (.slice yo yl yc)/\Th3 w' b2 i (.bool (rB (P i))) (.slice po pl pc) (.slice qo ql qc)) (fun hHeld=>?_);refine tk 16 [(0,43,.pointer (some ⟨w.heap.size,8,none⟩)),(1,44,.func (.func 133) #[] #[]),(2,45,Value.agg #[.bool (rB (R i)),.slice xo xl xc,.slice yo yl yc])] ?_;try simp only [pA,pL,vA,vL,q0,q1,q2,q3]
         refine on1 15 3 (fun K hK=>?_);simp only [opAtD,q4,q5,q6,q7];go_simp
         go_at_call_of 133 (Value.agg #[.bool (rB (R i)),.slice xo xl xc,.slice yo yl yc])
         refine (qIsZero_at _ (R i) L _ (X2.out.keep0 (gx GG))).mono ?_;rintro e wa ⟨rfl,ga⟩;rw [HZX.out];have GG:=gr_none (gx GG) ga;have ha:=CX.out wa GG;go_wp2_with fail;refine bk hK (fun hHeld=>?_);clear hK K;refine tk 11 [(4,47,.bool true),(5,48,.pointer (some ⟨w.heap.size,8,none⟩)),(6,49,.func (.func 133) #[] #[]),(7,50,Value.agg #[.bool (rB (R k)),.slice so sl sc,.slice so2 sl2 sc2])] ?_;try simp only [pA,pL,vA,vL,q0,q1,q2,q3]
         refine on1 10 8 (fun K hK=>?_);simp only [opAtD,q4,q5,q6,q7];go_simp
         go_at_call_of 133 (Value.agg #[.bool (rB (R k)),.slice so sl sc,.slice so2 sl2 sc2])
         refine (qIsZero_at _ (R k) L _ ((C3l.out.kept KL.out).keep0 (gx GG))).mono ?_;rintro e wz ⟨rfl,gz⟩;rw [HZK.out];have GG:=gr_none (gx GG) gz;have hz:=CX.out wz GG;go_wp2_with fail;refine bk hK (fun hHeld=>?_);clear hK K;refine tk 9 [(9,52,.bool true)] ?_;refine sk 2 [(10,53),(11,54),(12,55),(13,56),(14,57),(15,58),(16,59)] ?_;try simp only [pA,pL,vA,vL,q0,q1,q2,q3]
         refine tk 0 [(17,60,.bool true),(18,61,.bool true)] ?_;try simp only [pA,pL,vA,vL,q0,q1,q2,q3]
         refine wpAnyH_done (by kernel_rfl) ?_ _
         (go_wp2_with fail;go_meet;exact ⟨by rw [HZX.out,HZK.out,Bool.true_and,Bool.true_or],(gx GG)⟩)
        ·have HZK:Hid (decide (R k=0)=false):=decide_eq_false hk0;clear hk0;refine hd (fun w'=>(FdC w' (w.heap.size)/\Th0 w' (w.heap.size+1) (.bool (rB d)) (.slice lo ll lc) (.slice lo2 ll2 lc2)/\Th0 w' (gp) (.bool (rB (P k))) (.slice uo ul uc) (.slice vo vl vc)/\Th0 w' (gr) (.bool (rB (R k))) (.slice so sl sc) (.slice so2 sl2 sc2))/\Th0 w' (wr.heap.size) (.bool (rB (R i))) (.slice xo xl xc) (.slice yo yl yc)/\Th3 w' b2 i (.bool (rB (P i))) (.slice po pl pc) (.slice qo ql qc)) (fun hHeld=>?_);refine tk 16 [(0,43,.pointer (some ⟨w.heap.size,8,none⟩)),(1,44,.func (.func 133) #[] #[]),(2,45,Value.agg #[.bool (rB (R i)),.slice xo xl xc,.slice yo yl yc])] ?_;try simp only [pA,pL,vA,vL,q0,q1,q2,q3]
         refine on1 15 3 (fun K hK=>?_);simp only [opAtD,q4,q5,q6,q7];go_simp
         go_at_call_of 133 (Value.agg #[.bool (rB (R i)),.slice xo xl xc,.slice yo yl yc])
         refine (qIsZero_at _ (R i) L _ (X2.out.keep0 (gx GG))).mono ?_;rintro e wa ⟨rfl,ga⟩;rw [HZX.out];have GG:=gr_none (gx GG) ga;have ha:=CX.out wa GG;go_wp2_with fail;refine bk hK (fun hHeld=>?_);clear hK K;refine tk 11 [(4,47,.bool true),(5,48,.pointer (some ⟨w.heap.size,8,none⟩)),(6,49,.func (.func 133) #[] #[]),(7,50,Value.agg #[.bool (rB (R k)),.slice so sl sc,.slice so2 sl2 sc2])] ?_;try simp only [pA,pL,vA,vL,q0,q1,q2,q3]
         refine on1 10 8 (fun K hK=>?_);simp only [opAtD,q4,q5,q6,q7];go_simp
         go_at_call_of 133 (Value.agg #[.bool (rB (R k)),.slice so sl sc,.slice so2 sl2 sc2])
         refine (qIsZero_at _ (R k) L _ ((C3l.out.kept KL.out).keep0 (gx GG))).mono ?_;rintro e wz ⟨rfl,gz⟩;rw [HZK.out];have GG:=gr_none (gx GG) gz;have hz:=CX.out wz GG;go_wp2_with fail;refine bk hK (fun hHeld=>?_);clear hK K;refine tk 3 [(9,52,.bool false),(10,53,.pointer (some ⟨w.heap.size,8,none⟩)),(11,54,.func (.func 133) #[] #[]),(12,55,.slice (some ⟨b2,0,none⟩) n cap2),(13,56,.int .i64 (i:Nat)),(14,57,.pointer (some ⟨b2,i*3,none⟩)),(15,58,Value.agg #[.bool (rB (P i)),.slice po pl pc,.slice qo ql qc])] ?_;try simp only [pA,pL,vA,vL,q0,q1,q2,q3]
         refine on1 2 16 (fun K hK=>?_);simp only [opAtD,q4,q5,q6,q7];go_simp
         go_at_call_of 133 (Value.agg #[.bool (rB (P i)),.slice po pl pc,.slice qo ql qc])
         refine (qIsZero_at _ (P i) L _ (Q2.out.keep0 (gx GG))).mono ?_;rintro e wv ⟨rfl,gv⟩;have GG:=gr_none (gx GG) gv;have hv:=CX.out wv GG;go_wp2_with fail;refine bk hK (fun hHeld=>?_);clear hK K;refine tk 0 [(17,60,.bool (decide (P i=0))),(18,61,.bool (decide (P i=0)))] ?_;try simp only [pA,pL,vA,vL,q0,q1,q2,q3]
         refine wpAnyH_done (by kernel_rfl) ?_ _
         (go_wp2_with fail;go_meet;exact ⟨by rw [HZX.out,HZK.out,Bool.true_and,Bool.false_or],(gx GG)⟩)
       ·have HZX:Hid (decide (R i=0)=false):=decide_eq_false hx0;clear hx0;refine hd (fun w'=>(FdC w' (w.heap.size)/\Th0 w' (w.heap.size+1) (.bool (rB d)) (.slice lo ll lc) (.slice lo2 ll2 lc2)/\Th0 w' (gp) (.bool (rB (P k))) (.slice uo ul uc) (.slice vo vl vc)/\Th0 w' (gr) (.bool (rB (R k))) (.slice so sl sc) (.slice so2 sl2 sc2))/\Th0 w' (wr.heap.size) (.bool (rB (R i))) (.slice xo xl xc) (.slice yo yl yc)/\Th3 w' b2 i (.bool (rB (P i))) (.slice po pl pc) (.slice qo ql qc)) (fun hHeld=>?_);refine tk 16 [(0,43,.pointer (some ⟨w.heap.size,8,none⟩)),(1,44,.func (.func 133) #[] #[]),(2,45,Value.agg #[.bool (rB (R i)),.slice xo xl xc,.slice yo yl yc])] ?_;try simp only [pA,pL,vA,vL,q0,q1,q2,q3]
        refine on1 15 3 (fun K hK=>?_);simp only [opAtD,q4,q5,q6,q7];go_simp
        go_at_call_of 133 (Value.agg #[.bool (rB (R i)),.slice xo xl xc,.slice yo yl yc])
        refine (qIsZero_at _ (R i) L _ (X2.out.keep0 (gx GG))).mono ?_;rintro e wa ⟨rfl,ga⟩;rw [HZX.out];have GG:=gr_none (gx GG) ga;have ha:=CX.out wa GG;go_wp2_with fail;refine bk hK (fun hHeld=>?_);clear hK K;refine tk 14 [(4,47,.bool false)] ?_;refine sk 1 [(5,48),(6,49),(7,50),(8,51),(9,52),(10,53),(11,54),(12,55),(13,56),(14,57),(15,58),(16,59),(17,60)] ?_;try simp only [pA,pL,vA,vL,q0,q1,q2,q3]
        refine tk 0 [(18,61,.bool false)] ?_;try simp only [pA,pL,vA,vL,q0,q1,q2,q3]
        refine wpAnyH_done (by kernel_rfl) ?_ _
        (go_wp2_with fail;go_meet;exact ⟨by rw [HZX.out,Bool.false_and],(gx GG)⟩)
      case rest =>
       obtain ⟨rfl,g4⟩:=hcut.out;have G4:=hide g4;clear hcut g4 GG s0;by_cases hs:R i=0/\(R k=0∨P i=0)
       ·have hb:(decide (R i=0) && (decide (R k=0) || decide (P i=0)))=true:=by
         obtain ⟨h1,h2⟩:=hs;rw [decide_eq_true h1,Bool.true_and,Bool.or_eq_true];rcases h2 with h2 | h2
         ·left;exact decide_eq_true h2
         ·right;exact decide_eq_true h2
        rw [hb];have HS:=hide hs;clear hs hb;go_wp2;go_roundw
        case rel=>exact ⟨i+1,by omega,by go_num,(L1.out.keep0 (gr_none G3.out G4.out)).congr (fun j _=>takeUp_skip (takeF_zero HS.out.1 HS.out.2) j),L2.out.gr (gr_none G3.out G4.out)⟩
        case measure=>simp [intOf];omega
       ·have hb:(decide (R i=0) && (decide (R k=0) || decide (P i=0)))=false:=by
         rw [Bool.and_eq_false_iff];by_cases h1:R i=0
         ·right
          rw [Bool.or_eq_false_iff];exact ⟨decide_eq_false (fun h=>hs ⟨h1,.inl h⟩),decide_eq_false (fun h=>hs ⟨h1,.inr h⟩)⟩
         ·left;exact decide_eq_false h1
        rw [hb];clear hs hb;have X4:=hide (X2.out.keep0 G4.out);have Q4:=hide (Q2.out.keep0 G4.out);have K4:=hide (KL.out.trans (WKept.of_gr G4.out));have CX4:Hid (∀ wx,wc.grownBy wx none->(FdC wx (w.heap.size)/\Th0 wx (w.heap.size+1) (.bool (rB d)) (.slice lo ll lc) (.slice lo2 ll2 lc2)/\Th0 wx (gp) (.bool (rB (P k))) (.slice uo ul uc) (.slice vo vl vc)/\Th0 wx (gr) (.bool (rB (R k))) (.slice so sl sc) (.slice so2 sl2 sc2))/\Th0 wx (wr.heap.size) (.bool (rB (R i))) (.slice xo xl xc) (.slice yo yl yc)/\Th3 wx b2 i (.bool (rB (P i))) (.slice po pl pc) (.slice qo ql qc)):=fun wx hg=>CX.out wx (gr_none G4.out hg)
        have RB4:Hid (∀ wx,wc.grownBy wx none->FRow wx b n (takeUp R P k d i) L/\Th3 wx b i (.bool (rB (R i))) (.slice xo xl xc) (.slice yo yl yc)):=fun wx hg=>RB.out wx (gr_none G4.out hg)
        have nb1:b≠w.heap.size:=by omega
        have nb2:b≠w.heap.size+1:=by omega
        have nb3:b≠gp:=by omega
        have nb4:b≠gr:=by omega
        have nb5:b≠wr.heap.size:=by omega
        have GG:wc.grownBy wc none:=gr_refl _ _;have s0:=CX4.out wc GG;go_wp2;go_region_held3 (fun w'=>(FdC w' (w.heap.size)/\Th0 w' (w.heap.size+1) (.bool (rB d)) (.slice lo ll lc) (.slice lo2 ll2 lc2)/\Th0 w' (gp) (.bool (rB (P k))) (.slice uo ul uc) (.slice vo vl vc)/\Th0 w' (gr) (.bool (rB (R k))) (.slice so sl sc) (.slice so2 sl2 sc2))/\Th0 w' (wr.heap.size) (.bool (rB (R i))) (.slice xo xl xc) (.slice yo yl yc)/\Th3 w' b2 i (.bool (rB (P i))) (.slice po pl pc) (.slice qo ql qc)) (go_keep)
         (first | (go_at_call_of 27 (Value.agg #[.bool (rB (P k)),.slice uo ul uc,.slice vo vl vc]);refine (qTimes_at _ _ (P k) (R i) L L _ ((E3l.out.kept K4.out).keep0 (gx GG)) (X4.out.keep0 (gx GG)) (by omega)).mono ?_;rintro e wa ⟨va,rfl,pa,ga⟩;obtain ⟨ao,al,ac,ao2,al2,ac2,rfl⟩:=pa.shape;(try have pe:=pe.keep0 (gr_none (by first | exact gr_d _ | exact gr_d1 | exact gr_refl _ _) ga));have GG:=gr_none (gx GG) ga;have ha:=CX4.out wa GG) | (go_at_call_of 27 (Value.agg #[.bool (rB (R k)),.slice so sl sc,.slice so2 sl2 sc2]);refine (qTimes_at _ _ (R k) (P i) L L _ ((C3l.out.kept K4.out).keep0 (gx GG)) (Q4.out.keep0 (gx GG)) (by omega)).mono ?_;rintro e we ⟨ve,rfl,pe,ge⟩;obtain ⟨eo,el,ec,eo2,el2,ec2,rfl⟩:=pe.shape;(try have pa:=pa.keep0 (gr_none (by first | exact gr_d _ | exact gr_d1 | exact gr_refl _ _) ge));have GG:=gr_none (gx GG) ge;have he:=CX4.out we GG) | (go_at_call 54;refine (qMinus_at _ _ (P k*R i) (R k*P i) (L+L+1) (L+L+1) _ (pa.keep0 (by first | exact gr_d _ | exact gr_d1 | exact gr_refl _ _)) (pe.keep0 (by first | exact gr_d _ | exact gr_d1 | exact gr_refl _ _)) (by omega)).mono ?_;rintro e wm ⟨vm,rfl,pm,gm⟩;obtain ⟨mo,ml,mc,mo2,ml2,mc2,rfl⟩:=pm.shape;have GG:=gr_none (gx GG) gm;have hm:=CX4.out wm GG) | (go_at_call 132;refine (qOver_at _ _ (P k*R i-R k*P i) d (L+L+1+(L+L+1)+2) L _ (pm.keep0 (by first | exact gr_d _ | exact gr_d1 | exact gr_refl _ _)) ((HYl.out.kept K4.out).keep0 (gx GG)) HD.out (by omega)).mono ?_;rintro e wy ⟨vy,rfl,py,gy⟩;obtain ⟨yo,yl,yc,yo2,yl2,yc2,rfl⟩:=py.shape;have GG:=gr_none (gx GG) gy;have hy:=CX4.out wy GG;have py:=py.tight (L':=L) (HF.out i hlt);obtain ⟨fr,t0⟩:=RB4.out wy GG;obtain ⟨_,_,_,_,_,_,_,_,_,_,tf⟩:=fr.at i hlt;have tf0:=tf (i*3);have tf1:=tf (i*3+1);have tf2:=tf (i*3+2);clear tf))
        all_goals
         have FR:=hide fr;have PY:=hide py;have GF:=hide (gr_none (gr_none G3.out G4.out) GG);clear fr py GG;go_wp2;go_roundw
         case rel =>
          obtain ⟨r1,r2,r3⟩:=FR.out.set i hlt PY.out;exact ⟨i+1,by omega,by go_num,r1.congr (fun j _=>takeUp_put R P k d i j),(L2.out.gr GF.out).trans ⟨r2,r3⟩⟩
         case measure=>simp [intOf];omega
     ·obtain rfl:i=n:=by omega
      go_wp2;go_end0
      exact ⟨rfl,L1.out.congr (fun j hj=>by unfold takeUp;rw [if_pos hj]),(RowW.of_gr G12.out).trans L2.out⟩
end Go.Proofs.YtkhgaelnglndiaaGreatDoor
