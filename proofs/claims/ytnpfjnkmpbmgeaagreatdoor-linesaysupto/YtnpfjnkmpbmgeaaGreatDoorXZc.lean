/- Contracts that the proof leans on. -/
import Derived.Test.YtnpfjnkmpbmgeaaGreatDoorXBase
import Derived.Deep.RegionHeld3
import Derived.Test.YtnpfjnkmpbmgeaaGreatDoorXZt
namespace Go.Proofs.YtnpfjnkmpbmgeaaGreatDoor
open Go.RowKit
set_option linter.unusedVariables false
set_option linter.unusedSimpArgs false
set_option maxHeartbeats 32000000
set_option maxRecDepth 10000
open Go Go.RowKit
section
variable {P:Program} {ops:Array Oper} {Q:Exit->Act->World->Prop} {md:Region.Mode} {S:World->Prop} {T:Nat->Bool}
def wpLate (P:Program) (md:Region.Mode) (ops:Array Oper) (Q:Exit->Act->World->Prop) (S:World->Prop) (T:Nat->Bool):Nat->Array Bool->Act->World->Prop
 | 0,l,a,w=>Region.ready md ops l=[]/\Q .normal a w
 | n+1,l,a,w=>(Region.ready md ops l=[]->Q .normal a w)/\∀ i∈Region.ready md ops l,wpOp P ops Q i (fun a' w'=>(T i=false->S w')/\wpLate P md ops Q S T n (l.setIfInBounds i true) a' w') a w
theorem late_any:∀ (n:Nat) (l:Array Bool) (a:Act) (w:World),wpLate P md ops Q S T n l a w->wpAny P md ops Q n l a w
 | 0,_,_,_,h=>h
 | n+1,_,_,_,h=>⟨h.1,fun i hi=>wpOp_mono (fun a' w' k=>late_any n _ a' w' k.2) (h.2 i hi)⟩
def lateWait (md:Region.Mode) (ops:Array Oper) (T D:Nat->Bool) (i:Nat):Bool :=
 (List.range ops.size).all fun j=>(!T j || D j) && (!D j || ((ops[j]?).map fun o=>o.after.any fun e=>Region.binds md e && (e.on==i || D e.on)).getD true)
def noneYet (D:Nat->Bool) (l:Array Bool):Bool:=(List.range l.size).all fun k=>!D k || !l.getD k false
theorem lateWait_at {D:Nat->Bool} {i j:Nat} {oj:Oper} (h:lateWait md ops T D i=true) (hj:ops[j]? = some oj):(T j=true->D j=true)/\(D j=true->∃ e∈oj.after,Region.binds md e=true/\(e.on=i∨D e.on=true)):=by
 unfold lateWait at h;rw [List.all_eq_true] at h;have h1:=h j (List.mem_range.2 (Array.getElem?_eq_some_iff.1 hj).1);rw [hj,Bool.and_eq_true] at h1;simp only [Option.map_some,Option.getD_some] at h1;refine ⟨fun ht=>?_,fun hd=>?_⟩
 ·have:=h1.1;rw [ht] at this;simpa using this
 ·have h2:=h1.2;rw [hd] at h2;simp only [Bool.not_true,Bool.false_or] at h2;obtain ⟨e,he,hb⟩:=Array.any_eq_true'.1 h2;simp only [Bool.and_eq_true,Bool.or_eq_true,beq_iff_eq] at hb;exact ⟨e,he,hb.1,hb.2⟩
theorem noneYet_at {D:Nat->Bool} {l:Array Bool} (h:noneYet D l=true) (k:Nat) (hk:D k=true):l.getD k false=false:=by
 rcases Nat.lt_or_ge k l.size with hl | hl
 ·unfold noneYet at h;rw [List.all_eq_true] at h;have:=h k (List.mem_range.2 hl);rw [hk] at this;simpa using this
 ·simp [Array.getElem?_eq_none hl]
theorem getD_set_ne' {l:Array Bool} {i j:Nat} (d:Bool) (h:i≠j):(l.setIfInBounds i true).getD j d=l.getD j d:=getD_set_ne d h
theorem late_first {D:Nat->Bool} {i:Nat} {oi:Oper} {v:Value} (hi:ops[i]? = some oi) (hs:Region.noSelect ops=true) (hw:lateWait md ops T D i=true)
  (hQ:∀ c a w,Q (.panic c) (a.put oi.dst v) w->Q (.panic c) a w) :
  ∀ (n:Nat) (l:Array Bool) (a:Act) (w:World),(∀ k,D k=true->l.getD k false=false)->(∀ j oj,ops[j]? = some oj->j≠i->l.getD j true=false->(∀ e∈oj.after,Region.binds md e=true->e.on≠i)->oi.apart ops oj=true) ->
   i∈Region.ready md ops l->YieldsIf P ops S oi v a->S w->wpLate P md ops Q S T n (l.setIfInBounds i true) (a.put oi.dst v) w->wpLate P md ops Q S T (n+1) l a w:=by
 intro n;induction n with
 | zero =>
  intro l a w hD hfree hr hy hS H;refine ⟨fun h0=>(by rw [h0] at hr;cases hr),fun j hj=>?_⟩;by_cases e:j=i
  ·rw [e];exact hy.wpOp hi hS ⟨fun _=>hS,H⟩
  ·have:=ready_mono hj e;rw [H.1] at this;cases this
 | succ n ih =>
  intro l a w hD hfree hr hy hS H;refine ⟨fun h0=>(by rw [h0] at hr;cases hr),fun j hj=>?_⟩;by_cases e:j=i
  ·rw [e];exact hy.wpOp hi hS ⟨fun _=>hS,H⟩
  ·obtain ⟨hun,oj,hoj,hall⟩:=mem_ready.1 hj;have hnot:∀ x∈oj.after,Region.binds md x=true->x.on≠i:=by
    intro x hx hb hon;have k1:=hall x hx hb;have k0:=(mem_ready.1 hr).1;rw [hon] at k1;rcases Nat.lt_or_ge i l.size with hl | hl
    ·simp [hl] at k0 k1;rw [k0] at k1;cases k1
    ·simp [Array.getElem?_eq_none hl] at k1
   have hDj:D j=false:=by
    cases hd:D j with
    | false=>rfl
    | true =>
     obtain ⟨x,hx,hb,hon⟩:=(lateWait_at hw hoj).2 hd;rcases hon with hon | hon
     ·exact absurd hon (hnot x hx hb)
     ·have k1:=hall x hx hb;rw [hD _ hon] at k1;cases k1
   have hT:T j=false:=by
    cases ht:T j with
    | false=>rfl
    | true =>
     have:=(lateWait_at hw hoj).1 ht;rw [hDj] at this;cases this
   have k:=wpOp_putIf hoj (hfree j oj hoj e hun hnot) (fun cs b=>Region.noSelect_spec hs i oi cs b hi) (fun cs b=>Region.noSelect_spec hs j oj cs b hoj) hQ hy (H.2 j (ready_mono hj e));refine wpOp_mono (fun a' w' m=>⟨fun _=>m.2.1 hT,ih _ a' w' ?_ ?_ (ready_mono hr (Ne.symm e)) m.1 (m.2.1 hT) ?_⟩) k
   ·intro x hx;have hjx:j≠x:=fun h=>by rw [h,hx] at hDj;cases hDj
    rw [getD_set_ne' false hjx];exact hD x hx
   ·intro x ox hox hxi hxu hxn;refine hfree x ox hox hxi ?_ hxn;by_cases hjx:j=x
    ·rw [<- hjx];exact hun
    ·rw [getD_set_ne true hjx] at hxu;exact hxu
   ·rw [Array.setIfInBounds_comm _ _ e];exact m.2.2
theorem late_take (D:Nat->Bool) {i:Nat} {oi:Oper} {v:Value} {n:Nat} {l:Array Bool} {a:Act} {w:World} (hi:ops[i]? = some oi) (hs:Region.noSelect ops=true) (hw:lateWait md ops T D i=true) (hn:noneYet D l=true)
  (hf:Region.free md ops l i=true) (hr:(Region.ready md ops l).contains i=true) (hQ:∀ c a w,Q (.panic c) (a.put oi.dst v) w->Q (.panic c) a w) (hy:YieldsIf P ops S oi v a) (hS:S w)
  (h:wpLate P md ops Q S T n (l.setIfInBounds i true) (a.put oi.dst v) w):wpLate P md ops Q S T (n+1) l a w :=
 late_first hi hs hw hQ n l a w (noneYet_at hn) (Region.free_spec hi hf) (by simpa using hr) hy hS h
theorem late_one {i:Nat} {o:Oper} {n:Nat} {l:Array Bool} {a:Act} {w:World} (hr:Region.ready md ops l=[i]) (ho:ops[i]? = some o)
  (h:∀ K':Act->World->Prop,Shut (∀ a w,(T i=false->S w)->wpLate P md ops Q S T n (l.setIfInBounds i true) a w->K' a w)->if Region.wanted o (yielded ops a.tmps)=true then Oper.wp P o a w K' Q else K' (a.put o.dst undef) w) :
  wpLate P md ops Q S T (n+1) l a w:=by
 refine ⟨fun h0=>by (rw [hr] at h0;cases h0),fun j hj=>?_⟩;rw [hr] at hj;have e:j=i:=by simpa using hj
 rw [e];exact wpOp_step ho (fun K' hK=>h K' (fun a w h1 h2=>hK a w ⟨h1,h2⟩))
theorem late_rest:∀ (n:Nat) (l:Array Bool) (a:Act) (w:World),(∀ j,j<ops.size->l.getD j true=false->T j=true)->wpAny P md ops Q n l a w->wpLate P md ops Q S T n l a w
 | 0,_,_,_,_,h=>h
 | n+1,l,_,_,ht,h=>⟨h.1,fun i hi=>by
   obtain ⟨hun,oj,hoj,_⟩:=mem_ready.1 hi;have hTi:=ht i (Array.getElem?_eq_some_iff.1 hoj).1 hun;refine wpOp_mono (fun a' w' k=>⟨fun e=>(by rw [hTi] at e;cases e),late_rest n _ a' w' (fun j hj hju=>?_) k⟩) (h.2 i hi);by_cases e:i=j
   ·rw [<- e];exact hTi
   ·rw [getD_set_ne true e] at hju;exact ht j hj hju⟩
end
def cdR (p q r s:Rat):Rat:=(p*r+q*s) / (r*r+s*s)
def cdI (p q r s:Rat):Rat:=(q*r-p*s) / (r*r+s*s)
theorem sq_nonneg (r:Rat):0<=r*r:=by
 rcases Rat.le_total (a:=0) (b:=r) with k | k
 ·exact Rat.mul_nonneg k k
 ·have:=Rat.mul_nonneg (Rat.neg_le_neg k) (Rat.neg_le_neg k);grind
theorem sq_sum {r s:Rat} (h:¬ (r=0/\s=0)):r*r+s*s≠0:=by
 intro e;have h1:=sq_nonneg r;have h2:=sq_nonneg s;have h3:r*r=0:=by grind
 have h4:s*s=0:=by grind
 grind
theorem cd_real {r s:Rat} (p q:Rat) (hs:s=0) (hr:r≠0):cdR p q r s=p / r/\cdI p q r s=q / r:=by
 unfold cdR cdI;rw [hs];constructor<;>grind
theorem cd_mir (p q r s:Rat):(p*r-q * -s) / (r*r-s * -s)=cdR p q r s/\(p * -s+q*r) / (r*r-s * -s)=cdI p q r s:=by
 unfold cdR cdI;have e1:p*r-q * -s=p*r+q*s:=by grind
 have e2:r*r-s * -s=r*r+s*s:=by grind
 have e3:p * -s+q*r=q*r-p*s:=by grind
 rw [e1,e2,e3];exact ⟨rfl,rfl⟩
theorem zOver_at (x y:Value) (p q r s:Rat) (L M:Nat) (w:World) (hx:ZQ w x p q L) (hy:ZQ w y r s M) (hn:¬ (r=0/\s=0)) (hl:L+M<=400000000000) :
  Calls Tryz.prog 100 #[x,y] w fun e w'=>ZQE w (cdR p q r s) (cdI p q r s) (2*L+6*M+10) e w':=by
 obtain ⟨xk1,xo1,xl1,xc1,xo2,xl2,xc2,xk2,xo3,xl3,xc3,xo4,xl4,xc4,rfl,hx1,hx2⟩:=hx.letters;obtain ⟨yk1,yo1,yl1,yc1,yo2,yl2,yc2,yk2,yo3,yl3,yc3,yo4,yl4,yc4,rfl,hy1,hy2⟩:=hy.letters;have HX1:=hide hx1;have HX2:=hide hx2;have HY1:=hide hy1;have HY2:=hide hy2;clear hx hy hx1 hx2 hy1 hy2;obtain ⟨W,hW⟩:∃ W,W=(((w.alloc (Obj.cells #[.bool xk1,.slice xo1 xl1 xc1,.slice xo2 xl2 xc2,.bool xk2,.slice xo3 xl3 xc3,.slice xo4 xl4 xc4] 55)).alloc (Obj.cells #[.bool yk1,.slice yo1 yl1 yc1,.slice yo2 yl2 yc2,.bool yk2,.slice yo3 yl3 yc3,.slice yo4 yl4 yc4] 55)).alloc (Obj.cells #[.bool false,.slice none 0 0,.slice none 0 0,.bool false,.slice none 0 0,.slice none 0 0] 55)):=⟨_,rfl⟩;have GW:Hid (w.grownBy W none):=by rw [hW];exact gr_alloc (gr_alloc (gr_alloc (gr_refl _ _) _) _) _
 have BX:Hid (∀ wx,W.grownBy wx none->BoxC wx (w.heap.size) #[.bool xk1,.slice xo1 xl1 xc1,.slice xo2 xl2 xc2,.bool xk2,.slice xo3 xl3 xc3,.slice xo4 xl4 xc4]):=by
  intro wx hg;rw [hW] at hg;have h0:=(boxNew' w #[.bool xk1,.slice xo1 xl1 xc1,.slice xo2 xl2 xc2,.bool xk2,.slice xo3 xl3 xc3,.slice xo4 xl4 xc4] 55 (w.heap.size) (by simp));exact (((h0).keep0 (gr_alloc (gr_refl _ _) _)).keep0 (gr_alloc (gr_refl _ _) _)).keep0 hg
 have BY:Hid (∀ wx,W.grownBy wx none->BoxC wx (w.heap.size+1) #[.bool yk1,.slice yo1 yl1 yc1,.slice yo2 yl2 yc2,.bool yk2,.slice yo3 yl3 yc3,.slice yo4 yl4 yc4]):=by
  intro wx hg;rw [hW] at hg;have h0:=(boxNew' (w.alloc (Obj.cells #[.bool xk1,.slice xo1 xl1 xc1,.slice xo2 xl2 xc2,.bool xk2,.slice xo3 xl3 xc3,.slice xo4 xl4 xc4] 55)) #[.bool yk1,.slice yo1 yl1 yc1,.slice yo2 yl2 yc2,.bool yk2,.slice yo3 yl3 yc3,.slice yo4 yl4 yc4] 55 (w.heap.size+1) (by simp));exact ((h0).keep0 (gr_alloc (gr_refl _ _) _)).keep0 hg
 have BR:Hid (∀ wx,W.grownBy wx none->BoxC wx (w.heap.size+1+1) #[.bool false,.slice none 0 0,.slice none 0 0,.bool false,.slice none 0 0,.slice none 0 0]):=by
  intro wx hg;rw [hW] at hg;have h0:=(boxNew' ((w.alloc (Obj.cells #[.bool xk1,.slice xo1 xl1 xc1,.slice xo2 xl2 xc2,.bool xk2,.slice xo3 xl3 xc3,.slice xo4 xl4 xc4] 55)).alloc (Obj.cells #[.bool yk1,.slice yo1 yl1 yc1,.slice yo2 yl2 yc2,.bool yk2,.slice yo3 yl3 yc3,.slice yo4 yl4 yc4] 55)) #[.bool false,.slice none 0 0,.slice none 0 0,.bool false,.slice none 0 0,.slice none 0 0] 55 (w.heap.size+1+1) (by simp));exact (h0).keep0 hg
 have hne2_0:¬ w.heap.size+1+1=w.heap.size:=by omega
 have hnf2_0:¬ w.heap.size=w.heap.size+1+1:=by omega
 have hne2_1:¬ w.heap.size+1+1=w.heap.size+1:=by omega
 have hnf2_1:¬ w.heap.size+1=w.heap.size+1+1:=by omega
 have hne1_0:¬ w.heap.size+1=w.heap.size:=by omega
 have hnf1_0:¬ w.heap.size=w.heap.size+1:=by omega
 by_cases hs:s=0
 ·have hd:decide (s=0)=true:=decide_eq_true hs;have HR0:Hid (r≠0):=fun e=>hn ⟨e,hs⟩
  have HE:=hide (cd_real p q hs HR0.out);rw [HE.out.1,HE.out.2];clear hs hn HE;obtain ⟨y0,y1,y2,y3,y4,y5,yf0,yf1,yf2,yf3,yf4,yf5⟩:=(BY.out W (gr_refl _ _)).c6;go_enter Tryz.func100,Tryz.ntmps100
  go_wp2_with fail;rw [<- hW];clear hW;refine (qIsZero_at _ s M _ (HY2.out.keep0 GW.out)).mono ?_;rintro e w1 ⟨rfl,g1⟩;rw [hd];clear hd;have B1X:Hid (∀ wx,w1.grownBy wx none->BoxC wx (w.heap.size) #[.bool xk1,.slice xo1 xl1 xc1,.slice xo2 xl2 xc2,.bool xk2,.slice xo3 xl3 xc3,.slice xo4 xl4 xc4]):=fun wx g=>BX.out wx (gr_none g1 g)
  have B1Y:Hid (∀ wx,w1.grownBy wx none->BoxC wx (w.heap.size+1) #[.bool yk1,.slice yo1 yl1 yc1,.slice yo2 yl2 yc2,.bool yk2,.slice yo3 yl3 yc3,.slice yo4 yl4 yc4]):=fun wx g=>BY.out wx (gr_none g1 g)
  have B1R:Hid (∀ wx,w1.grownBy wx none->BoxC wx (w.heap.size+1+1) #[.bool false,.slice none 0 0,.slice none 0 0,.bool false,.slice none 0 0,.slice none 0 0]):=fun wx g=>BR.out wx (gr_none g1 g)
  have G1:=hide (gr_none GW.out g1);clear g1 y0 y1 y2 y3 y4 y5 yf0 yf1 yf2 yf3 yf4 yf5;have K1:=hide (HX1.out.keep0 G1.out);have K2:=hide (HX2.out.keep0 G1.out);have K3:=hide (HY1.out.keep0 G1.out);have K4:=hide (HY2.out.keep0 G1.out);go_wp2;have GG:w1.grownBy w1 none:=gr_refl _ _;obtain ⟨x0,x1,x2,x3,x4,x5,xf0,xf1,xf2,xf3,xf4,xf5⟩:=(B1X.out w1 (gr_refl _ _)).c6;obtain ⟨y0,y1,y2,y3,y4,y5,yf0,yf1,yf2,yf3,yf4,yf5⟩:=(B1Y.out w1 (gr_refl _ _)).c6;go_region_held3 (fun w'=>w'.cell? ⟨w.heap.size,0,none⟩=some (.bool xk1)/\w'.cell? ⟨w.heap.size,1,none⟩=some (.slice xo1 xl1 xc1)/\w'.cell? ⟨w.heap.size,2,none⟩=some (.slice xo2 xl2 xc2)/\w'.cell? ⟨w.heap.size,3,none⟩=some (.bool xk2)/\w'.cell? ⟨w.heap.size,4,none⟩=some (.slice xo3 xl3 xc3)/\w'.cell? ⟨w.heap.size,5,none⟩=some (.slice xo4 xl4 xc4)/\w'.cell? ⟨w.heap.size+1,0,none⟩=some (.bool yk1)/\w'.cell? ⟨w.heap.size+1,1,none⟩=some (.slice yo1 yl1 yc1)/\w'.cell? ⟨w.heap.size+1,2,none⟩=some (.slice yo2 yl2 yc2)/\w'.cell? ⟨w.heap.size+1,3,none⟩=some (.bool yk2)/\w'.cell? ⟨w.heap.size+1,4,none⟩=some (.slice yo3 yl3 yc3)/\w'.cell? ⟨w.heap.size+1,5,none⟩=some (.slice yo4 yl4 yc4)) (go_keep)
    (first | (go_at_call_of 47 (Value.agg #[.bool xk1,.slice xo1 xl1 xc1,.slice xo2 xl2 xc2]);refine (qOver_at _ _ p r (L) (M) _ (K1.out.keep0 (by first | exact gr_none GG (gr_d _) | exact gr_none GG gr_d1 | exact GG)) (K3.out.keep0 (by first | exact gr_none GG (gr_d _) | exact gr_none GG gr_d1 | exact GG)) HR0.out (by omega)).mono ?_;rintro e wm ⟨vm,rfl,pm,gm⟩;obtain ⟨mk,mo1,ml1,mc1,mo2,ml2,mc2,rfl⟩:=pm.letters;have KP:=gr_none (by first | exact gr_d _ | exact gr_d1 | exact gr_refl _ _) gm;have GG:w1.grownBy wm none:=gr_none (by first | exact gr_none GG (gr_d _) | exact gr_none GG gr_d1 | exact GG) gm;clear KP;obtain ⟨mx0,mx1,mx2,mx3,mx4,mx5,mxf0,mxf1,mxf2,mxf3,mxf4,mxf5⟩:=(B1X.out wm GG).c6;obtain ⟨my0,my1,my2,my3,my4,my5,myf0,myf1,myf2,myf3,myf4,myf5⟩:=(B1Y.out wm GG).c6;obtain ⟨mr0,mr1,mr2,mr3,mr4,mr5,mrf0,mrf1,mrf2,mrf3,mrf4,mrf5⟩:=(B1R.out wm GG).c6) | (go_at_call_of 47 (Value.agg #[.bool xk2,.slice xo3 xl3 xc3,.slice xo4 xl4 xc4]);refine (qOver_at _ _ q r (L) (M) _ (K2.out.keep0 (by first | exact gr_none GG (gr_d _) | exact gr_none GG gr_d1 | exact GG)) (K3.out.keep0 (by first | exact gr_none GG (gr_d _) | exact gr_none GG gr_d1 | exact GG)) HR0.out (by omega)).mono ?_;rintro e wn ⟨vn,rfl,pn,gn⟩;obtain ⟨nk,no1,nl1,nc1,no2,nl2,nc2,rfl⟩:=pn.letters;have KP:=gr_none (by first | exact gr_d _ | exact gr_d1 | exact gr_refl _ _) gn;have GG:w1.grownBy wn none:=gr_none (by first | exact gr_none GG (gr_d _) | exact gr_none GG gr_d1 | exact GG) gn;(try have pm:=pm.keep0 KP);clear KP;obtain ⟨nx0,nx1,nx2,nx3,nx4,nx5,nxf0,nxf1,nxf2,nxf3,nxf4,nxf5⟩:=(B1X.out wn GG).c6;obtain ⟨ny0,ny1,ny2,ny3,ny4,ny5,nyf0,nyf1,nyf2,nyf3,nyf4,nyf5⟩:=(B1Y.out wn GG).c6;obtain ⟨nr0,nr1,nr2,nr3,nr4,nr5,nrf0,nrf1,nrf2,nrf3,nrf4,nrf5⟩:=(B1R.out wn GG).c6))
  all_goals
   have F1:=hide (pm.mono (show _<=2*L+6*M+10 by omega));have F2:=hide (pn.mono (show _<=2*L+6*M+10 by omega));have HGd:=hide GG;clear pm pn;go_wp2;refine bodyPost_ret (v:=.agg #[.bool mk,.slice mo1 ml1 mc1,.slice mo2 ml2 mc2,.bool nk,.slice no1 nl1 nc1,.slice no2 nl2 nc2]) (by first | (simp [results,Tryz.results100,go_sem,nr0,nr1,nr2,nr3,nr4,nr5];done) | (simp [results,Tryz.results100,go_sem,nr0,nr1,nr2,nr3,nr4,nr5];rfl)) rfl ?_;refine ⟨_,rfl,ZQ.kept (ZQ.of F1.out F2.out) ((B1R.out _ HGd.out).kept6 _ _ _ _ _ _ (noWd6 _ _ _ _ _ _ _ _ _ _ _ _ _ _)),?_⟩;exact gr_set (gr_set (gr_set (gr_set (gr_set (gr_set (gr_none G1.out HGd.out) _ _ (by first | (simp;done) | (simp;omega))) _ _ (by first | (simp;done) | (simp;omega))) _ _ (by first | (simp;done) | (simp;omega))) _ _ (by first | (simp;done) | (simp;omega))) _ _ (by first | (simp;done) | (simp;omega))) _ _ (by first | (simp;done) | (simp;omega))
 ·have hd:decide (s=0)=false:=decide_eq_false hs;have HR0:Hid (r*r-s * -s≠0):=by
   have e2:r*r-s * -s=r*r+s*s:=by grind
   unfold Hid;rw [e2];exact sq_sum hn
  have HE:=hide (cd_mir p q r s);rw [<- HE.out.1,<- HE.out.2];clear hs hn HE;obtain ⟨y0,y1,y2,y3,y4,y5,yf0,yf1,yf2,yf3,yf4,yf5⟩:=(BY.out W (gr_refl _ _)).c6;go_enter Tryz.func100,Tryz.ntmps100
  go_wp2_with fail;rw [<- hW];clear hW;refine (qIsZero_at _ s M _ (HY2.out.keep0 GW.out)).mono ?_;rintro e w1 ⟨rfl,g1⟩;rw [hd];clear hd;have B1X:Hid (∀ wx,w1.grownBy wx none->BoxC wx (w.heap.size) #[.bool xk1,.slice xo1 xl1 xc1,.slice xo2 xl2 xc2,.bool xk2,.slice xo3 xl3 xc3,.slice xo4 xl4 xc4]):=fun wx g=>BX.out wx (gr_none g1 g)
  have B1Y:Hid (∀ wx,w1.grownBy wx none->BoxC wx (w.heap.size+1) #[.bool yk1,.slice yo1 yl1 yc1,.slice yo2 yl2 yc2,.bool yk2,.slice yo3 yl3 yc3,.slice yo4 yl4 yc4]):=fun wx g=>BY.out wx (gr_none g1 g)
  have B1R:Hid (∀ wx,w1.grownBy wx none->BoxC wx (w.heap.size+1+1) #[.bool false,.slice none 0 0,.slice none 0 0,.bool false,.slice none 0 0,.slice none 0 0]):=fun wx g=>BR.out wx (gr_none g1 g)
  have G1:=hide (gr_none GW.out g1);clear g1 y0 y1 y2 y3 y4 y5 yf0 yf1 yf2 yf3 yf4 yf5;have K1:=hide (HX1.out.keep0 G1.out);have K2:=hide (HX2.out.keep0 G1.out);have K3:=hide (HY1.out.keep0 G1.out);have K4:=hide (HY2.out.keep0 G1.out);go_upto_region 2 with fail;go_cut [9] (fun s9 wx=>Hid (∃ cv dv,ZQ wx cv (p*r-q * -s) (p * -s+q*r) (2*(L+M)+4)/\ZQ wx dv (r*r-s * -s) (r * -s+s*r) (2*(M+M)+4)/\(∃ c0 c1 c2 c3 c4 c5,cv=.agg #[c0,c1,c2,c3,c4,c5]/\BoxC wx (w.heap.size) #[c0,c1,c2,c3,c4,c5])/\(∃ c0 c1 c2 c3 c4 c5,dv=.agg #[c0,c1,c2,c3,c4,c5]/\BoxC wx (w.heap.size+1) #[c0,c1,c2,c3,c4,c5])/\BoxC wx (w.heap.size+1+1) #[.bool false,.slice none 0 0,.slice none 0 0,.bool false,.slice none 0 0,.slice none 0 0]/\w.grownBy wx none))
  case first =>
   refine wp_region_any (by kernel_rfl) ?_;change wpAny _ _ _ _ _ _ _ (World.drew _)
   refine late_any (S:=fun w'=>w'.cell? ⟨w.heap.size,0,none⟩=some (.bool xk1)/\w'.cell? ⟨w.heap.size,1,none⟩=some (.slice xo1 xl1 xc1)/\w'.cell? ⟨w.heap.size,2,none⟩=some (.slice xo2 xl2 xc2)/\w'.cell? ⟨w.heap.size,3,none⟩=some (.bool xk2)/\w'.cell? ⟨w.heap.size,4,none⟩=some (.slice xo3 xl3 xc3)/\w'.cell? ⟨w.heap.size,5,none⟩=some (.slice xo4 xl4 xc4)/\w'.cell? ⟨w.heap.size+1,0,none⟩=some (.bool yk1)/\w'.cell? ⟨w.heap.size+1,1,none⟩=some (.slice yo1 yl1 yc1)/\w'.cell? ⟨w.heap.size+1,2,none⟩=some (.slice yo2 yl2 yc2)/\w'.cell? ⟨w.heap.size+1,3,none⟩=some (.bool yk2)/\w'.cell? ⟨w.heap.size+1,4,none⟩=some (.slice yo3 yl3 yc3)/\w'.cell? ⟨w.heap.size+1,5,none⟩=some (.slice yo4 yl4 yc4)) (T:=fun i=>i==8 || i==9) _ _ _ _ ?_;have GG:w1.grownBy w1.drew none:=gr_d1;obtain ⟨x0,x1,x2,x3,x4,x5,xf0,xf1,xf2,xf3,xf4,xf5⟩:=(B1X.out _ GG).c6;obtain ⟨y0,y1,y2,y3,y4,y5,yf0,yf1,yf2,yf3,yf4,yf5⟩:=(B1Y.out _ GG).c6;have hHeld:(fun w'=>w'.cell? ⟨w.heap.size,0,none⟩=some (.bool xk1)/\w'.cell? ⟨w.heap.size,1,none⟩=some (.slice xo1 xl1 xc1)/\w'.cell? ⟨w.heap.size,2,none⟩=some (.slice xo2 xl2 xc2)/\w'.cell? ⟨w.heap.size,3,none⟩=some (.bool xk2)/\w'.cell? ⟨w.heap.size,4,none⟩=some (.slice xo3 xl3 xc3)/\w'.cell? ⟨w.heap.size,5,none⟩=some (.slice xo4 xl4 xc4)/\w'.cell? ⟨w.heap.size+1,0,none⟩=some (.bool yk1)/\w'.cell? ⟨w.heap.size+1,1,none⟩=some (.slice yo1 yl1 yc1)/\w'.cell? ⟨w.heap.size+1,2,none⟩=some (.slice yo2 yl2 yc2)/\w'.cell? ⟨w.heap.size+1,3,none⟩=some (.bool yk2)/\w'.cell? ⟨w.heap.size+1,4,none⟩=some (.slice yo3 yl3 yc3)/\w'.cell? ⟨w.heap.size+1,5,none⟩=some (.slice yo4 yl4 yc4)) w1.drew:=by (dsimp only;go_keep)
   refine late_take (fun k=>k==8 || k==9) (i:=0) (v:=(Value.agg #[.bool xk1,.slice xo1 xl1 xc1,.slice xo2 xl2 xc2,.bool xk2,.slice xo3 xl3 xc3,.slice xo4 xl4 xc4])) rfl (by kernel_rfl) (by kernel_rfl) (by kernel_rfl) (by kernel_rfl) (by kernel_rfl) (fun _ _ _ h=>h) (Or.inl ⟨by rfl,?zy0⟩) hHeld ?zr0
   case zy0=>(intro w hSw;(try dsimp only at hSw);go_simp)
   case zr0 =>
    (try simp only [Act.put,List.setIfInBounds_toArray,List.set_cons_zero,List.set_cons_succ])
    refine late_take (fun k=>k==8 || k==9) (i:=1) (v:=(Value.agg #[.bool yk1,.slice yo1 yl1 yc1,.slice yo2 yl2 yc2,.bool yk2,.slice yo3 yl3 yc3,.slice yo4 yl4 yc4])) rfl (by kernel_rfl) (by kernel_rfl) (by kernel_rfl) (by kernel_rfl) (by kernel_rfl) (fun _ _ _ h=>h) (Or.inl ⟨by rfl,?zy1⟩) hHeld ?zr1
    case zy1=>(intro w hSw;(try dsimp only at hSw);go_simp)
    case zr1 =>
     (try simp only [Act.put,List.setIfInBounds_toArray,List.set_cons_zero,List.set_cons_succ])
     refine late_take (fun k=>k==7 || k==8 || k==9) (i:=4) (v:=(Value.agg #[.bool yk1,.slice yo1 yl1 yc1,.slice yo2 yl2 yc2,.bool yk2,.slice yo3 yl3 yc3,.slice yo4 yl4 yc4])) rfl (by kernel_rfl) (by kernel_rfl) (by kernel_rfl) (by kernel_rfl) (by kernel_rfl) (fun _ _ _ h=>h) (Or.inl ⟨by rfl,?zy4⟩) hHeld ?zr4
     case zy4=>(intro w hSw;(try dsimp only at hSw);go_simp)
     case zr4 =>
      (try simp only [Act.put,List.setIfInBounds_toArray,List.set_cons_zero,List.set_cons_succ])
      refine late_take (fun k=>k==6 || k==7 || k==8 || k==9) (i:=5) (v:=(Value.agg #[.bool yk1,.slice yo1 yl1 yc1,.slice yo2 yl2 yc2,.bool yk2,.slice yo3 yl3 yc3,.slice yo4 yl4 yc4])) rfl (by kernel_rfl) (by kernel_rfl) (by kernel_rfl) (by kernel_rfl) (by kernel_rfl) (fun _ _ _ h=>h) (Or.inl ⟨by rfl,?zy5⟩) hHeld ?zr5
      case zy5=>(intro w hSw;(try dsimp only at hSw);go_simp)
      case zr5 =>
       (try simp only [Act.put,List.setIfInBounds_toArray,List.set_cons_zero,List.set_cons_succ])
       refine late_one (i:=2) (by kernel_rfl) rfl (fun K hK=>?_);go_simp
       refine (zMir_at _ r s M _ (ZQ.of (K3.out.keep0 GG) (K4.out.keep0 GG))).mono ?_;rintro e wa ⟨va,rfl,pa,ga⟩;obtain ⟨ak1,ao1,al1,ac1,ao2,al2,ac2,ak2,ao3,al3,ac3,ao4,al4,ac4,rfl,_,_⟩:=pa.letters;have GG:w1.grownBy wa none:=gr_none GG ga;obtain ⟨ax0,ax1,ax2,ax3,ax4,ax5,axf0,axf1,axf2,axf3,axf4,axf5⟩:=(B1X.out wa GG).c6;obtain ⟨ay0,ay1,ay2,ay3,ay4,ay5,ayf0,ayf1,ayf2,ayf3,ayf4,ayf5⟩:=(B1Y.out wa GG).c6;go_wp2_with fail;refine hK.out _ _ ?zs2 ?zt2
       case zs2=>(intro _;(try dsimp only);go_keep)
       case zt2 =>
        (try simp only [Act.put,List.setIfInBounds_toArray,List.set_cons_zero,List.set_cons_succ])
        refine late_one (i:=3) (by kernel_rfl) rfl (fun K hK=>?_);go_simp
        refine (zTimes_at _ _ p q r (-s) L M _ (ZQ.of (K1.out.keep0 GG) (K2.out.keep0 GG)) pa (by omega)).mono ?_;rintro e wc ⟨vc,rfl,pc,gc⟩;obtain ⟨ck1,co1,cl1,cc1,co2,cl2,cc2,ck2,co3,cl3,cc3,co4,cl4,cc4,rfl,_,_⟩:=pc.letters;have GG:w1.grownBy wc none:=gr_none GG gc;obtain ⟨cx0,cx1,cx2,cx3,cx4,cx5,cxf0,cxf1,cxf2,cxf3,cxf4,cxf5⟩:=(B1X.out wc GG).c6;obtain ⟨cy0,cy1,cy2,cy3,cy4,cy5,cyf0,cyf1,cyf2,cyf3,cyf4,cyf5⟩:=(B1Y.out wc GG).c6;go_wp2_with fail;refine hK.out _ _ ?zs3 ?zt3
        case zs3=>(intro _;(try dsimp only);go_keep)
        case zt3 =>
         (try simp only [Act.put,List.setIfInBounds_toArray,List.set_cons_zero,List.set_cons_succ])
         refine late_one (i:=6) (by kernel_rfl) rfl (fun K hK=>?_);go_simp
         refine (zMir_at _ r s M _ (ZQ.of (K3.out.keep0 GG) (K4.out.keep0 GG))).mono ?_;rintro e wb ⟨vb,rfl,pb,gb⟩;obtain ⟨bk1,bo1,bl1,bc1,bo2,bl2,bc2,bk2,bo3,bl3,bc3,bo4,bl4,bc4,rfl,_,_⟩:=pb.letters;have pc:=pc.keep0 gb;have GG:w1.grownBy wb none:=gr_none GG gb;obtain ⟨bx0,bx1,bx2,bx3,bx4,bx5,bxf0,bxf1,bxf2,bxf3,bxf4,bxf5⟩:=(B1X.out wb GG).c6;obtain ⟨by0,by1,by2,by3,by4,by5,byf0,byf1,byf2,byf3,byf4,byf5⟩:=(B1Y.out wb GG).c6;go_wp2_with fail;refine hK.out _ _ ?zs6 ?zt6
         case zs6=>(intro _;(try dsimp only);go_keep)
         case zt6 =>
          (try simp only [Act.put,List.setIfInBounds_toArray,List.set_cons_zero,List.set_cons_succ])
          refine late_one (i:=7) (by kernel_rfl) rfl (fun K hK=>?_);go_simp
          refine (zTimes_at _ _ r s r (-s) M M _ (ZQ.of (K3.out.keep0 GG) (K4.out.keep0 GG)) pb (by omega)).mono ?_;rintro e wd ⟨vd,rfl,pd,gd⟩;obtain ⟨dk1,do1,dl1,dc1,do2,dl2,dc2,dk2,do3,dl3,dc3,do4,dl4,dc4,rfl,_,_⟩:=pd.letters;have pc:=pc.keep0 gd;have GG:w1.grownBy wd none:=gr_none GG gd;obtain ⟨dx0,dx1,dx2,dx3,dx4,dx5,dxf0,dxf1,dxf2,dxf3,dxf4,dxf5⟩:=(B1X.out wd GG).c6;obtain ⟨dy0,dy1,dy2,dy3,dy4,dy5,dyf0,dyf1,dyf2,dyf3,dyf4,dyf5⟩:=(B1Y.out wd GG).c6;go_wp2_with fail;refine hK.out _ _ ?zs7 ?zt7
          case zs7=>(intro _;(try dsimp only);go_keep)
          case zt7 =>
           (try simp only [Act.put,List.setIfInBounds_toArray,List.set_cons_zero,List.set_cons_succ])
           refine late_rest _ _ _ _ ?zl ?zw
           case zl=>(intro j hj hju;match j,hj,hju with | 8,_,_=>rfl | 9,_,_=>rfl)
           case zw =>
            have BXd:=B1X.out wd GG;have BYd:=B1Y.out wd GG;have BRd:=B1R.out wd GG;have PC:=hide pc;have PD:=hide pd;have GD:=hide (gr_none G1.out GG);clear pc pd pa pb;refine wpAny_ready (rs:=[8]) (by kernel_rfl) (by simp) ?_;refine AllReady.cons rfl (fun K hK=>?_) AllReady.nil
            ·obtain ⟨W5,hW5⟩:∃ W5,W5=(((((wd.setCell ⟨w.heap.size,0,none⟩ (.bool ck1)).setCell ⟨w.heap.size,1,none⟩ (.slice co1 cl1 cc1)).setCell ⟨w.heap.size,2,none⟩ (.slice co2 cl2 cc2)).setCell ⟨w.heap.size,3,none⟩ (.bool ck2)).setCell ⟨w.heap.size,4,none⟩ (.slice co3 cl3 cc3)).setCell ⟨w.heap.size,5,none⟩ (.slice co4 cl4 cc4):=⟨_,rfl⟩;go_simp
             rw [<- hW5];refine hK _ _ ?_
             (try simp only [Act.put,List.setIfInBounds_toArray,List.set_cons_zero,List.set_cons_succ])
             have e1:BoxC W5 (w.heap.size) #[.bool ck1,.slice co1 cl1 cc1,.slice co2 cl2 cc2,.bool ck2,.slice co3 cl3 cc3,.slice co4 cl4 cc4]:=by rw [hW5];exact BXd.set6
             have e2:BoxC W5 (w.heap.size+1) #[.bool yk1,.slice yo1 yl1 yc1,.slice yo2 yl2 yc2,.bool yk2,.slice yo3 yl3 yc3,.slice yo4 yl4 yc4]:=by rw [hW5];exact (((((BYd.setO 0 _ (by omega)).setO 1 _ (by omega)).setO 2 _ (by omega)).setO 3 _ (by omega)).setO 4 _ (by omega)).setO 5 _ (by omega)
             have e3:BoxC W5 (w.heap.size+1+1) #[.bool false,.slice none 0 0,.slice none 0 0,.bool false,.slice none 0 0,.slice none 0 0]:=by rw [hW5];exact (((((BRd.setO 0 _ (by omega)).setO 1 _ (by omega)).setO 2 _ (by omega)).setO 3 _ (by omega)).setO 4 _ (by omega)).setO 5 _ (by omega)
             have k1:WKept wd W5:=by rw [hW5];exact BXd.kept6 _ _ _ _ _ _ (noWd6 _ _ _ _ _ _ _ _ _ _ _ _ _ _)
             have g5:w.grownBy W5 none:=by rw [hW5];exact gr_set (gr_set (gr_set (gr_set (gr_set (gr_set (GD.out) _ _ (by first | (simp;done) | (simp;omega))) _ _ (by first | (simp;done) | (simp;omega))) _ _ (by first | (simp;done) | (simp;omega))) _ _ (by first | (simp;done) | (simp;omega))) _ _ (by first | (simp;done) | (simp;omega))) _ _ (by first | (simp;done) | (simp;omega))
             obtain ⟨t0,t1,t2,t3,t4,t5,tf0,tf1,tf2,tf3,tf4,tf5⟩:=e2.c6;have E1:=hide e1;have E2:=hide e2;have E3:=hide e3;have KK:=hide k1;have G5:=hide g5;clear e1 e2 e3 k1 g5 hW5;refine wpAny_ready (rs:=[9]) (by kernel_rfl) (by simp) ?_;refine AllReady.cons rfl (fun K hK=>?_) AllReady.nil;obtain ⟨W6,hW6⟩:∃ W6,W6=(((((W5.setCell ⟨w.heap.size+1,0,none⟩ (.bool dk1)).setCell ⟨w.heap.size+1,1,none⟩ (.slice do1 dl1 dc1)).setCell ⟨w.heap.size+1,2,none⟩ (.slice do2 dl2 dc2)).setCell ⟨w.heap.size+1,3,none⟩ (.bool dk2)).setCell ⟨w.heap.size+1,4,none⟩ (.slice do3 dl3 dc3)).setCell ⟨w.heap.size+1,5,none⟩ (.slice do4 dl4 dc4):=⟨_,rfl⟩;go_simp
             rw [<- hW6];refine hK _ _ ?_
             (try simp only [Act.put,List.setIfInBounds_toArray,List.set_cons_zero,List.set_cons_succ])
             refine wpAny_done (by kernel_rfl) ?_ _;have e1:BoxC W6 (w.heap.size) #[.bool ck1,.slice co1 cl1 cc1,.slice co2 cl2 cc2,.bool ck2,.slice co3 cl3 cc3,.slice co4 cl4 cc4]:=by rw [hW6];exact (((((E1.out.setO 0 _ (by omega)).setO 1 _ (by omega)).setO 2 _ (by omega)).setO 3 _ (by omega)).setO 4 _ (by omega)).setO 5 _ (by omega)
             have e2:BoxC W6 (w.heap.size+1) #[.bool dk1,.slice do1 dl1 dc1,.slice do2 dl2 dc2,.bool dk2,.slice do3 dl3 dc3,.slice do4 dl4 dc4]:=by rw [hW6];exact E2.out.set6
             have e3:BoxC W6 (w.heap.size+1+1) #[.bool false,.slice none 0 0,.slice none 0 0,.bool false,.slice none 0 0,.slice none 0 0]:=by rw [hW6];exact (((((E3.out.setO 0 _ (by omega)).setO 1 _ (by omega)).setO 2 _ (by omega)).setO 3 _ (by omega)).setO 4 _ (by omega)).setO 5 _ (by omega)
             have k1:WKept wd W6:=KK.out.trans (by rw [hW6];exact E2.out.kept6 _ _ _ _ _ _ (noWd6 _ _ _ _ _ _ _ _ _ _ _ _ _ _));have g6:w.grownBy W6 none:=by rw [hW6];exact gr_set (gr_set (gr_set (gr_set (gr_set (gr_set (G5.out) _ _ (by first | (simp;done) | (simp;omega))) _ _ (by first | (simp;done) | (simp;omega))) _ _ (by first | (simp;done) | (simp;omega))) _ _ (by first | (simp;done) | (simp;omega))) _ _ (by first | (simp;done) | (simp;omega))) _ _ (by first | (simp;done) | (simp;omega))
             go_wp2;go_meet
             exact ⟨_,_,PC.out.kept k1,PD.out.kept k1,⟨_,_,_,_,_,_,rfl,e1⟩,⟨_,_,_,_,_,_,rfl,e2⟩,e3,g6⟩
  case rest =>
   obtain ⟨cv,dv,pc,pd,⟨c0,c1,c2,c3,c4,c5,rfl,bx⟩,⟨d0,d1,d2,d3,d4,d5,rfl,by'⟩,br,gz⟩:=hcut.out;obtain ⟨ck1,co1,cl1,cc1,co2,cl2,cc2,ck2,co3,cl3,cc3,co4,cl4,cc4,e,fc1,fc2⟩:=pc.letters;simp only [Value.agg.injEq,Array.mk.injEq,List.cons.injEq,and_true] at e;obtain ⟨rfl,rfl,rfl,rfl,rfl,rfl⟩:=e;obtain ⟨dk1,do1,dl1,dc1,do2,dl2,dc2,dk2,do3,dl3,dc3,do4,dl4,dc4,e,fd1,fd2⟩:=pd.letters;simp only [Value.agg.injEq,Array.mk.injEq,List.cons.injEq,and_true] at e;obtain ⟨rfl,rfl,rfl,rfl,rfl,rfl⟩:=e;have B3X:Hid (∀ wx,wc.grownBy wx none->BoxC wx (w.heap.size) #[.bool ck1,.slice co1 cl1 cc1,.slice co2 cl2 cc2,.bool ck2,.slice co3 cl3 cc3,.slice co4 cl4 cc4]):=fun wx g=>bx.keep0 g
   have B3Y:Hid (∀ wx,wc.grownBy wx none->BoxC wx (w.heap.size+1) #[.bool dk1,.slice do1 dl1 dc1,.slice do2 dl2 dc2,.bool dk2,.slice do3 dl3 dc3,.slice do4 dl4 dc4]):=fun wx g=>by'.keep0 g
   have B3R:Hid (∀ wx,wc.grownBy wx none->BoxC wx (w.heap.size+1+1) #[.bool false,.slice none 0 0,.slice none 0 0,.bool false,.slice none 0 0,.slice none 0 0]):=fun wx g=>br.keep0 g
   have GZ:=hide gz;have C1:=hide fc1;have C2:=hide fc2;have D1:=hide fd1;clear hcut pc pd bx by' br gz fc1 fc2 fd1 fd2 B1X B1Y B1R BX BY BR K1 K2 K3 K4
   go_wp2;have GG:wc.grownBy wc none:=gr_refl _ _;obtain ⟨x0,x1,x2,x3,x4,x5,xf0,xf1,xf2,xf3,xf4,xf5⟩:=(B3X.out wc (gr_refl _ _)).c6;obtain ⟨y0,y1,y2,y3,y4,y5,yf0,yf1,yf2,yf3,yf4,yf5⟩:=(B3Y.out wc (gr_refl _ _)).c6;go_region_held3 (fun w'=>w'.cell? ⟨w.heap.size,0,none⟩=some (.bool ck1)/\w'.cell? ⟨w.heap.size,1,none⟩=some (.slice co1 cl1 cc1)/\w'.cell? ⟨w.heap.size,2,none⟩=some (.slice co2 cl2 cc2)/\w'.cell? ⟨w.heap.size,3,none⟩=some (.bool ck2)/\w'.cell? ⟨w.heap.size,4,none⟩=some (.slice co3 cl3 cc3)/\w'.cell? ⟨w.heap.size,5,none⟩=some (.slice co4 cl4 cc4)/\w'.cell? ⟨w.heap.size+1,0,none⟩=some (.bool dk1)/\w'.cell? ⟨w.heap.size+1,1,none⟩=some (.slice do1 dl1 dc1)/\w'.cell? ⟨w.heap.size+1,2,none⟩=some (.slice do2 dl2 dc2)/\w'.cell? ⟨w.heap.size+1,3,none⟩=some (.bool dk2)/\w'.cell? ⟨w.heap.size+1,4,none⟩=some (.slice do3 dl3 dc3)/\w'.cell? ⟨w.heap.size+1,5,none⟩=some (.slice do4 dl4 dc4)) (go_keep)
     (first | (go_at_call_of 47 (Value.agg #[.bool ck1,.slice co1 cl1 cc1,.slice co2 cl2 cc2]);refine (qOver_at _ _ (p*r-q * -s) (r*r-s * -s) (2*(L+M)+4) (2*(M+M)+4) _ (C1.out.keep0 (by first | exact gr_none GG (gr_d _) | exact gr_none GG gr_d1 | exact GG)) (D1.out.keep0 (by first | exact gr_none GG (gr_d _) | exact gr_none GG gr_d1 | exact GG)) HR0.out (by omega)).mono ?_;rintro e wm ⟨vm,rfl,pm,gm⟩;obtain ⟨mk,mo1,ml1,mc1,mo2,ml2,mc2,rfl⟩:=pm.letters;have KP:=gr_none (by first | exact gr_d _ | exact gr_d1 | exact gr_refl _ _) gm;have GG:wc.grownBy wm none:=gr_none (by first | exact gr_none GG (gr_d _) | exact gr_none GG gr_d1 | exact GG) gm;clear KP;obtain ⟨mx0,mx1,mx2,mx3,mx4,mx5,mxf0,mxf1,mxf2,mxf3,mxf4,mxf5⟩:=(B3X.out wm GG).c6;obtain ⟨my0,my1,my2,my3,my4,my5,myf0,myf1,myf2,myf3,myf4,myf5⟩:=(B3Y.out wm GG).c6;obtain ⟨mr0,mr1,mr2,mr3,mr4,mr5,mrf0,mrf1,mrf2,mrf3,mrf4,mrf5⟩:=(B3R.out wm GG).c6) | (go_at_call_of 47 (Value.agg #[.bool ck2,.slice co3 cl3 cc3,.slice co4 cl4 cc4]);refine (qOver_at _ _ (p * -s+q*r) (r*r-s * -s) (2*(L+M)+4) (2*(M+M)+4) _ (C2.out.keep0 (by first | exact gr_none GG (gr_d _) | exact gr_none GG gr_d1 | exact GG)) (D1.out.keep0 (by first | exact gr_none GG (gr_d _) | exact gr_none GG gr_d1 | exact GG)) HR0.out (by omega)).mono ?_;rintro e wn ⟨vn,rfl,pn,gn⟩;obtain ⟨nk,no1,nl1,nc1,no2,nl2,nc2,rfl⟩:=pn.letters;have KP:=gr_none (by first | exact gr_d _ | exact gr_d1 | exact gr_refl _ _) gn;have GG:wc.grownBy wn none:=gr_none (by first | exact gr_none GG (gr_d _) | exact gr_none GG gr_d1 | exact GG) gn;(try have pm:=pm.keep0 KP);clear KP;obtain ⟨nx0,nx1,nx2,nx3,nx4,nx5,nxf0,nxf1,nxf2,nxf3,nxf4,nxf5⟩:=(B3X.out wn GG).c6;obtain ⟨ny0,ny1,ny2,ny3,ny4,ny5,nyf0,nyf1,nyf2,nyf3,nyf4,nyf5⟩:=(B3Y.out wn GG).c6;obtain ⟨nr0,nr1,nr2,nr3,nr4,nr5,nrf0,nrf1,nrf2,nrf3,nrf4,nrf5⟩:=(B3R.out wn GG).c6))
   all_goals
    have F1:=hide (pm.mono (show _<=2*L+6*M+10 by omega));have F2:=hide (pn.mono (show _<=2*L+6*M+10 by omega));have HGd:=hide GG;clear pm pn;go_wp2;refine bodyPost_ret (v:=.agg #[.bool mk,.slice mo1 ml1 mc1,.slice mo2 ml2 mc2,.bool nk,.slice no1 nl1 nc1,.slice no2 nl2 nc2]) (by first | (simp [results,Tryz.results100,go_sem,nr0,nr1,nr2,nr3,nr4,nr5];done) | (simp [results,Tryz.results100,go_sem,nr0,nr1,nr2,nr3,nr4,nr5];rfl)) rfl ?_;refine ⟨_,rfl,ZQ.kept (ZQ.of F1.out F2.out) ((B3R.out _ HGd.out).kept6 _ _ _ _ _ _ (noWd6 _ _ _ _ _ _ _ _ _ _ _ _ _ _)),?_⟩;exact gr_set (gr_set (gr_set (gr_set (gr_set (gr_set (gr_none GZ.out HGd.out) _ _ (by first | (simp;done) | (simp;omega))) _ _ (by first | (simp;done) | (simp;omega))) _ _ (by first | (simp;done) | (simp;omega))) _ _ (by first | (simp;done) | (simp;omega))) _ _ (by first | (simp;done) | (simp;omega))) _ _ (by first | (simp;done) | (simp;omega))
end Go.Proofs.YtnpfjnkmpbmgeaaGreatDoor
