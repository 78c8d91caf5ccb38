/- Contracts. -/
import Derived.Test.YtkbmbmdemajoaaaGreatDoorXPm
namespace Go.Proofs.YtkbmbmdemajoaaaGreatDoor
open Go.RowKit
set_option linter.unusedVariables false
set_option linter.unusedSimpArgs false
set_option maxHeartbeats 8000000
set_option maxRecDepth 10000
attribute [local simp] iD bX im dR
def oL (w:World) (k:Nat) (R:Nat->Rat) (L:Nat) (e:Ending) (w':World):Prop:=∃ g,e=.returned (.slice (some ⟨g,0,none⟩) k k)/\w.heap.size<=g/\aH w' g k R L/\w.grownBy w' none
theorem j8 (n k:Nat) (c:Option Addr) (d:Nat) (w:World) (hn:n<=1000) (i:k<=1000) :
  Calls Tryz.prog 108 #[.agg #[.int .i64 ((n:Nat):Int),.slice c k d]] w fun e h=>oL w (n+k+1) (fun _=>0) 0 e h:=by
 have j:IntKind.i64.wrap ((n:Int)+(k:Int))=(n:Int)+(k:Int):=IntWalk.i64_in _ ⟨O,O⟩;have l:IntKind.i64.wrap ((n:Int)+(k:Int)+1)=(n:Int)+(k:Int)+1:=IntWalk.i64_in _ ⟨O,O⟩;go_enter Tryz.func108,Tryz.ntmps108
 go_wp2_with (at_make;refine kT _ rfl _ _ 58 rfl Tryz.underlying58 Tryz.infoF _ _ _ _ (n+k+1) rfl rfl O O O ?_)
 intro w1 a b;have f:=ab a;have g:=ab b;clear a b;go_wp2;go_ret;refine ⟨_,rfl,Z,f,aa (ag (ae _ _) _) g⟩
def iQ (p:aD) (j:Nat):Rat:=(if p.a=(j:Int) then 0+1 else 0)-(if p.b=(j:Int) then 1 else 0)
def dJ (n:Nat) (ps:List aD) (j:Nat):Nat->Rat:=fun x=>if x<n then 0 else match ps[x-n]? with | some p=>iQ p j | none=>0
def eI (n:Nat) (ps:List aD) (j i:Nat):Nat->Rat:=fun x=>if x<n+i then dJ n ps j x else 0
theorem jA (n:Nat) (a:List aD) (j i:Nat) (hi:i<a.length) (x:Nat):aJ (eI n a j i) (n+i) (iQ a[i] j) x=eI n a j (i+1) x:=by
 unfold aJ eI;by_cases h:x=n+i
 ·rw [if_pos h,if_pos O,h];unfold dJ;rw [if_neg O,show n+i-n=i by omega,zX hi]
 ·rw [if_neg h];by_cases b:x<n+i
  ·rw [if_pos b,if_pos O]
  ·rw [if_neg b,if_neg O]
theorem put_put (R:Nat->Rat) (k:Nat) (a b:Rat) (x:Nat):aJ (aJ R k a) k b x=aJ R k b x:=by
 unfold aJ;by_cases h:x=k
 ·rw [if_pos h,if_pos h]
 ·rw [if_neg h,if_neg h,if_neg h]
theorem uN (n:Nat) (a:List aD) (j i:Nat) (hi:i<a.length) (h:iQ a[i] j=0) (x:Nat):eI n a j i x=eI n a j (i+1) x:=by
 rw [<- jA n a j i hi x,h];unfold aJ eI;by_cases h:x=n+i
 ·rw [if_pos h,if_neg O]
 ·rw [if_neg h]
theorem BS {p:aD} {j:Nat} (c:p.a=(j:Int)) (d:p.b=(j:Int)):iQ p j=0+1-1:=by unfold iQ;rw [if_pos c,if_pos d]
theorem BQ {p:aD} {j:Nat} (c:p.a=(j:Int)) (d:¬ p.b=(j:Int)):iQ p j=0+1:=by unfold iQ;rw [if_pos c,if_neg d];grind
theorem BP {p:aD} {j:Nat} (c:¬ p.a=(j:Int)) (d:p.b=(j:Int)):iQ p j=0-1:=by unfold iQ;rw [if_neg c,if_pos d]
theorem BN {p:aD} {j:Nat} (c:¬ p.a=(j:Int)) (d:¬ p.b=(j:Int)):iQ p j=0:=by unfold iQ;rw [if_neg c,if_neg d];grind
def NodR (W:World) (g n:Nat) (ps:List aD) (j L:Nat) (v:Value) (wr:World):Prop :=
 ∃ i:Nat,i<=ps.length/\v=.int .i64 i/\aH wr g (n+ps.length+1) (eI n ps j i) L/\aI W wr g
theorem xI (z:Bool) (A m:Option Addr) (fl fc o q:Nat) (n j:Nat) (pv:Value) (f:List aD) (L:Nat) (w:World) (h1:FQ w (.agg #[.bool z,.slice A fl fc,.slice m o q]) 1 L) (hp:aR w pv f)
  (hj:j<n) (hj0:j≠0) (hn:n<=1000) (hk:f.length<=1000) (hL1:1<=L) (hL:L<=100000000) :
  Calls Tryz.prog 70 #[(jP z (.slice A fl fc) (.slice m o q)),.agg #[.int .i64 ((n:Nat):Int),pv],.int .i64 ((j:Nat):Int)] w fun e u=>oL w (n+f.length+1) (dJ n f j) L e u:=by
 have H1:=ab h1;have HP:=ab hp;obtain ⟨ao,cap,rfl,He,kl,hH⟩:=hp;have hN:=ab hH;have hQ:Hid (bg L (0+1)):=by
  have e:(0:Rat)+1=1:=by grind
  rw [e];exact h1.fits hL1
 have hR:Hid (bg L (0+1-1)):=by
  have e:(0:Rat)+1-1=0:=by grind
  rw [e];exact (aX w L).fits hL1
 have hS:Hid (bg L (0-1)):=by
  have e:(0:Rat)-1 = -1:=by grind
  rw [e];exact (h1.fits hL1).neg
 unfold maxLen at kl;clear h1 hH;obtain ⟨W,hW⟩:=eX ((w.alloc (Obj.cells #[.bool z,.slice A fl fc,.slice m o q,.func (.func 60) #[] #[],.func (.func 61) #[] #[],.func (.func 62) #[] #[],.func (.func 63) #[] #[],.func (.func 64) #[] #[],.func (.func 65) #[] #[],.func (.func 66) #[] #[],.func (.func 67) #[] #[]] 87)).alloc (Obj.cells #[.int .i64 ((n:Nat):Int),.slice ao f.length cap] 24));have GW:Hid (w.grownBy W none):=by rw [hW];exact ag (ag (ae _ _) _) _
 have he:Hid (W.heap.size=w.heap.size+2):=by show _=_;rw [hW];simp
 have R:Hid (∀ wx g,W.heap.size<=g->W.grownBy wx (some g)->iD wx (w.heap.size)/\bX wx (w.heap.size) (.bool z) (.slice A fl fc) (.slice m o q)/\dR wx (w.heap.size+1) (.int .i64 ((n:Nat):Int)) (.slice ao f.length cap)):=by
  intro wx g Hd hg;have mm:=he.out;have n1:some w.heap.size≠some g:=fun e=>by have:=zJ e;omega
  have n2:some (w.heap.size+1)≠some g:=fun e=>by have:=zJ e;omega
  obtain ⟨f1,f2⟩:=ln z A m fl fc o q (w:=W) (by rw [hW];exact ag (ae _ _) _);exact ⟨f1.k hg n1,f2.k hg n1,dR.k (w:=W) (by rw [hW];exact ⟨zG,zG⟩) hg n2⟩
 have s0:=R.out W W.heap.size zL (ae _ _);go_enter Tryz.func70,Tryz.ntmps70
 go_upto_region 1 with fail;rw [<- hW];clear hW;go_wp2_with fail;refine (j8 n f.length ao cap W hn hk).mono ?_;rintro e w1 ⟨g,rfl,ko,hI,B⟩;have F1:=ab hI;have G1:=ab B;have mo:w.heap.size+2<=g:=by have:=he.out;omega
 have l:Hid (∀ wx,aI w1 wx g->iD wx (w.heap.size)/\bX wx (w.heap.size) (.bool z) (.slice A fl fc) (.slice m o q)/\dR wx (w.heap.size+1) (.int .i64 ((n:Nat):Int)) (.slice ao f.length cap)):=fun wx hx=>R wx g ko (aw (r:=some g) G1 hx.1 nofun (fun _ _ e=>e))
 have J:=ab (aa GW B);have mp:(((j:Nat):Int)==0)=false:=zB O;have hy:Hid (w.heap.size+2<=w1.heap.size):=by show _<=_;have:=he.out;have:=B.size;omega
 clear hI B s0;have s0:=l.out w1 (aI.refl _ _);go_wp2;go_loopw [23] (fun v wr=>Hid (NodR w1 g n f j L v wr)) (fun v _=>f.length-(intOf v).toNat)
 case atStart=>exact ⟨0,O,rfl,(F1.mono (Nat.zero_le _)).congr (fun x _=>by unfold eI dJ;by_cases h:x<n+0<;>simp_all),aI.refl _ _⟩
 case round =>
  obtain ⟨i,hi,rfl,l1,l2⟩:=hrel.out;have L1:=ab l1;have G:=ab l2;clear l1 l2 hrel F1 s0;by_cases hlt:i<f.length
  ·obtain ⟨b,off,rfl,hb,c0,c1,c2,c3,c4,c5,c6⟩:=hN.out i hlt;obtain ⟨p,hu⟩:=eX (f[i]);rw [<- hu] at c0 c1 c2 c3 c4 c5 c6;have M:=ab hu;have E:some b≠some g:=fun e=>by have:=zJ e;omega
   have q0:=G.out.1.cell (J.cell c0 Z) E;have q1:=G.out.1.cell (J.cell c1 Z) E;have q2:=G.out.1.cell (J.cell c2 Z) E;have q3:=G.out.1.cell (J.cell c3 Z) E;have q4:=G.out.1.cell (J.cell c4 Z) E;have q5:=G.out.1.cell (J.cell c5 Z) E;clear c0 c1 c2 c3 c4 c5 c6 hu;have s0:=l.out wr G;have mc:w.heap.size+2<=wr.heap.size:=Nat.le_trans hy G.1.size;have ms:g<wr.heap.size:=L1.out.lt;go_upto_region 8 with fail;obtain ⟨y,P⟩:=eX (wr.alloc (Obj.cells #[.int .i64 p.kind,.int .i64 p.a,.int .i64 p.b,.int .i64 p.c,.int .i64 p.d,.string p.v] 45));have G2:Hid (wr.grownBy y none):=by rw [P];exact ag (ae _ _) _
   have N:Hid (∀ wx,aI y wx g->wx.cell? ⟨wr.heap.size,1,none⟩=some (.int .i64 p.a)/\wx.cell? ⟨wr.heap.size,2,none⟩=some (.int .i64 p.b)):=by
    intro wx hx;have hl:=hx.1;rw [P] at hl;have n1:some wr.heap.size≠some g:=fun e=>by have:=zJ e;omega
    exact ⟨hl.cell zG n1,hl.cell zG n1⟩
   rw [<- P];clear P q0 q1 q2 q3 q4 q5 s0;have F2:=ab (L1.keep0 G2);have S:=ab (G.gr G2);have t:n+i<n+f.length+1:=O
   have mt:IntKind.i64.wrap ((n:Int)+(i:Int))=(n:Int)+(i:Int):=IntWalk.i64_in _ ⟨O,O⟩;have md:(0:Int)<=(n:Int)+(i:Int):=O
   have ml:(n:Int)+(i:Int)<(n:Int)+(f.length:Int)+1:=O
   have Ha:g≠w.heap.size:=O
   have Hb:g≠w.heap.size+1:=O
   have Hc:g≠wr.heap.size:=O
   have hz:eI n f j i (n+i)=0:=by unfold eI;rw [if_neg O]
   have hC:=ab hz;clear hz;have s0:=l.out y S;obtain ⟨t1,t2⟩:=N.out y (aI.refl _ _);by_cases hA:p.a=(j:Int)
   ·have hT:(p.a==(j:Int))=true:=beq_iff_eq.2 hA;have HA:=ab hA;clear hA;obtain ⟨kz,kF,kH,kN,qa,qb,C,r1,r2,H,I⟩:=F2.out.at (n+i) t;rw [hC] at C H;have hX:=ab H;have hY:=ab (H1.kept ((aL.of_gr J).trans S.2));have hD:Hid (∀ wx,y.grownBy wx none->(iD wx (w.heap.size)/\bX wx (w.heap.size) (.bool z) (.slice A fl fc) (.slice m o q)/\dR wx (w.heap.size+1) (.int .i64 ((n:Nat):Int)) (.slice (some ⟨b,off,none⟩) f.length cap))/\wx.cell? ⟨wr.heap.size,1,none⟩=some (.int .i64 p.a)/\wx.cell? ⟨wr.heap.size,2,none⟩=some (.int .i64 p.b)):=by
     intro wx hg;exact ⟨l wx (S.gr hg),N wx (aI.of_gr hg)⟩
    have T:Hid (∀ wx,y.grownBy wx none->aH wx g (n+f.length+1) (eI n f j i) L/\im wx g (n+i) (.bool (rB (0))) (.slice kz kF kH) (.slice kN qa qb)/\∀ k,wx.frozen? ⟨g,k,none⟩=false):=by
     intro wx hg;have U:=F2.out.keep0 hg;obtain ⟨_,_,_,_,_,_,_,_,_,_,hf⟩:=U.at (n+i) t;exact ⟨U,(show im _ _ _ _ _ _ from ⟨C,r1,r2⟩).k0 hg,hf⟩
    clear C r1 r2 H I;have GG:y.grownBy y none:=ae _ _;have s0:=hD.out y GG;obtain ⟨fr,C,I⟩:=T.out y GG;clear fr I;go_wp2;refine hd (fun u=>(iD u (w.heap.size)/\bX u (w.heap.size) (.bool z) (.slice A fl fc) (.slice m o q)/\dR u (w.heap.size+1) (.int .i64 ((n:Nat):Int)) (.slice (some ⟨b,off,none⟩) f.length cap))/\u.cell? ⟨wr.heap.size,1,none⟩=some (.int .i64 p.a)/\u.cell? ⟨wr.heap.size,2,none⟩=some (.int .i64 p.b)) (fun hHeld=>?_);refine tk 4 [(0,36,.slice (some ⟨g,0,none⟩) (n+f.length+1) (n+f.length+1)),(1,37,.int .i64 ((n:Int)+(i:Int))),(2,38,.pointer (some ⟨w.heap.size,4,none⟩)),(3,39,.func (.func 61) #[] #[]),(4,40,.slice (some ⟨g,0,none⟩) (n+f.length+1) (n+f.length+1)),(5,41,.int .i64 ((n:Int)+(i:Int))),(6,42,.pointer (some ⟨g,(n+i)*3,none⟩)),(8,44,.pointer (some ⟨w.heap.size,0,none⟩)),(9,45,Value.agg #[.bool z,.slice A fl fc,.slice m o q])] ?_;try simp only [pA,pL,vA,vL,q0,q1,q2,q3]
    refine de 3 7 (fun K s=>?_);simp only [ax,q4,q5,q6,q7];go_simp
    refine bk s (fun hHeld=>?_);clear s K;try simp only [pA,pL,vA,vL,q0,q1,q2,q3]
    refine de 2 10 (fun K s=>?_);simp only [ax,q4,q5,q6,q7];go_simp
    go_at_call 61
    refine (mg _ _ (0) 1 L L _ (hX.keep0 (gx GG)) (hY.keep0 (gx GG)) O).mono ?_;rintro e hv ⟨vm,rfl,pm,gm⟩;have pm:=pm.tight (L':=L) hQ;obtain ⟨qc,qf,ql,qo,qq,qs,rfl⟩:=pm.shape;have GG:=aa (gx GG) gm;have b0:=hD.out hv GG;obtain ⟨fr,d0,D⟩:=T.out hv GG;have hm:=D ((n+i)*3);have ho:=D ((n+i)*3+1);have hq:=D ((n+i)*3+2);clear D;go_wp2_with fail;refine bk s (fun hHeld=>?_);clear s K;refine tk 1 [(11,47,.pointer (some ⟨g,(n+i)*3,none⟩))] ?_;try simp only [pA,pL,vA,vL,q0,q1,q2,q3]
    refine de 0 12 (fun K s=>?_);simp only [ax,q4,q5,q6,q7];go_simp
    refine bk s (fun hHeld=>?_);clear s K;try simp only [pA,pL,vA,vL,q0,q1,q2,q3]
    refine wpAnyH_done zK ?_ _;have FR:=ab fr;have PM:=ab pm;have GF:=ab GG;clear fr pm GG;obtain ⟨Q,hw⟩:=eX (((hv.setCell ⟨g,(n+i)*3,none⟩ (.bool (rB (0+1)))).setCell ⟨g,(n+i)*3+1,none⟩ (.slice qc qf ql)).setCell ⟨g,(n+i)*3+2,none⟩ (.slice qo qq qs));obtain ⟨y1,Y,y3⟩:=FR.out.set (n+i) t PM;rw [<- hw] at y1 Y y3;rw [<- hw];have F3:=ab y1;have R3:=ab ((S.gr GF).trans ⟨Y,y3⟩);have hE:Hid (∀ wx,aI Q wx g->wx.cell? ⟨wr.heap.size,1,none⟩=some (.int .i64 p.a)/\wx.cell? ⟨wr.heap.size,2,none⟩=some (.int .i64 p.b)):=fun wx hx=>N wx (((aI.of_gr GF).trans ⟨Y,y3⟩).trans hx)
    have ka:Hid (aJ (eI n f j i) (n+i) (0+1) (n+i)=0+1):=by show _=_;unfold aJ;rw [if_pos rfl]
    clear hw y1 Y y3 FR PM b0 d0 hm ho hq;have s0:=l.out Q R3;obtain ⟨t1,t2⟩:=hE.out Q (aI.refl _ _);by_cases F:p.b=(j:Int)
    ·have hs:(p.b==(j:Int))=true:=beq_iff_eq.2 F;have HB:=ab F;clear F;obtain ⟨yc,yl,yn,yo,yv,jc,C,r1,r2,H,I⟩:=F3.out.at (n+i) t;rw [ka] at C H;have kb:=ab H;have kc:=ab (H1.kept ((aL.of_gr J).trans R3.2));have hF:Hid (∀ wx,Q.grownBy wx none->(iD wx (w.heap.size)/\bX wx (w.heap.size) (.bool z) (.slice A fl fc) (.slice m o q)/\dR wx (w.heap.size+1) (.int .i64 ((n:Nat):Int)) (.slice (some ⟨b,off,none⟩) f.length cap))/\wx.cell? ⟨wr.heap.size,1,none⟩=some (.int .i64 p.a)/\wx.cell? ⟨wr.heap.size,2,none⟩=some (.int .i64 p.b)):=by
      intro wx hg;exact ⟨l wx (R3.gr hg),hE wx (aI.of_gr hg)⟩
     have V:Hid (∀ wx,Q.grownBy wx none->aH wx g (n+f.length+1) (aJ (eI n f j i) (n+i) (0+1)) L/\im wx g (n+i) (.bool (rB (0+1))) (.slice yc yl yn) (.slice yo yv jc)/\∀ k,wx.frozen? ⟨g,k,none⟩=false):=by
      intro wx hg;have U:=F3.out.keep0 hg;obtain ⟨_,_,_,_,_,_,_,_,_,_,hf⟩:=U.at (n+i) t;exact ⟨U,(show im _ _ _ _ _ _ from ⟨C,r1,r2⟩).k0 hg,hf⟩
     clear C r1 r2 H I;have GG:Q.grownBy Q none:=ae _ _;have s0:=hF.out Q GG;obtain ⟨fr,C,I⟩:=V.out Q GG;clear fr I;go_wp2;refine hd (fun u=>(iD u (w.heap.size)/\bX u (w.heap.size) (.bool z) (.slice A fl fc) (.slice m o q)/\dR u (w.heap.size+1) (.int .i64 ((n:Nat):Int)) (.slice (some ⟨b,off,none⟩) f.length cap))/\u.cell? ⟨wr.heap.size,1,none⟩=some (.int .i64 p.a)/\u.cell? ⟨wr.heap.size,2,none⟩=some (.int .i64 p.b)) (fun hHeld=>?_);refine tk 4 [(0,52,.slice (some ⟨g,0,none⟩) (n+f.length+1) (n+f.length+1)),(1,53,.int .i64 ((n:Int)+(i:Int))),(2,54,.pointer (some ⟨w.heap.size,5,none⟩)),(3,55,.func (.func 62) #[] #[]),(4,56,.slice (some ⟨g,0,none⟩) (n+f.length+1) (n+f.length+1)),(5,57,.int .i64 ((n:Int)+(i:Int))),(6,58,.pointer (some ⟨g,(n+i)*3,none⟩)),(8,60,.pointer (some ⟨w.heap.size,0,none⟩)),(9,61,Value.agg #[.bool z,.slice A fl fc,.slice m o q])] ?_;try simp only [pA,pL,vA,vL,q0,q1,q2,q3]
     refine de 3 7 (fun K s=>?_);simp only [ax,q4,q5,q6,q7];go_simp
     refine bk s (fun hHeld=>?_);clear s K;try simp only [pA,pL,vA,vL,q0,q1,q2,q3]
     refine de 2 10 (fun K s=>?_);simp only [ax,q4,q5,q6,q7];go_simp
     go_at_call 62
     refine (dr _ _ (0+1) 1 L L _ (kb.keep0 (gx GG)) (kc.keep0 (gx GG)) O).mono ?_;rintro e hJ ⟨vm,rfl,pm,gm⟩;have pm:=pm.tight (L':=L) hR;obtain ⟨Hf,Hg,Hh,Hi,Hj,Hk,rfl⟩:=pm.shape;have GG:=aa (gx GG) gm;have b0:=hF.out hJ GG;obtain ⟨fr,d0,D⟩:=V.out hJ GG;have hm:=D ((n+i)*3);have ho:=D ((n+i)*3+1);have hq:=D ((n+i)*3+2);clear D;go_wp2_with fail;refine bk s (fun hHeld=>?_);clear s K;refine tk 1 [(11,63,.pointer (some ⟨g,(n+i)*3,none⟩))] ?_;try simp only [pA,pL,vA,vL,q0,q1,q2,q3]
     refine de 0 12 (fun K s=>?_);simp only [ax,q4,q5,q6,q7];go_simp
     refine bk s (fun hHeld=>?_);clear s K;try simp only [pA,pL,vA,vL,q0,q1,q2,q3]
     refine wpAnyH_done zK ?_ _;have FR:=ab fr;have PM:=ab pm;have GF:=ab GG;clear fr pm GG;go_wp2;go_roundw
     case rel =>
      obtain ⟨y1,Y,y3⟩:=FR.out.set (n+i) t PM;refine ⟨i+1,O,zN,y1.congr (fun x _=>?_),(R3.gr GF).trans ⟨Y,y3⟩⟩;rw [put_put];rw [<- jA n f j i hlt x,<- M,BS HA HB]
     case measure=>simp [intOf];omega
    ·have hs:(p.b==(j:Int))=false:=zB F;have HB:=ab F;clear F;go_wp2;go_roundw
     case rel=>exact ⟨i+1,O,zN,F3.congr (fun x _=>by rw [<- jA n f j i hlt x,<- M,BQ HA HB]),R3⟩
     case measure=>simp [intOf];omega
   ·have hT:(p.a==(j:Int))=false:=zB hA;have HA:=ab hA;clear hA;by_cases F:p.b=(j:Int)
    ·have hs:(p.b==(j:Int))=true:=beq_iff_eq.2 F;have HB:=ab F;clear F;obtain ⟨jg,jk,jl,jo,jp,jv,C,r1,r2,H,I⟩:=F2.out.at (n+i) t;rw [hC] at C H;have kf:=ab H;have kk:=ab (H1.kept ((aL.of_gr J).trans S.2));have hG:Hid (∀ wx,y.grownBy wx none->(iD wx (w.heap.size)/\bX wx (w.heap.size) (.bool z) (.slice A fl fc) (.slice m o q)/\dR wx (w.heap.size+1) (.int .i64 ((n:Nat):Int)) (.slice (some ⟨b,off,none⟩) f.length cap))/\wx.cell? ⟨wr.heap.size,1,none⟩=some (.int .i64 p.a)/\wx.cell? ⟨wr.heap.size,2,none⟩=some (.int .i64 p.b)):=by
      intro wx hg;exact ⟨l wx (S.gr hg),N wx (aI.of_gr hg)⟩
     have X:Hid (∀ wx,y.grownBy wx none->aH wx g (n+f.length+1) (eI n f j i) L/\im wx g (n+i) (.bool (rB (0))) (.slice jg jk jl) (.slice jo jp jv)/\∀ k,wx.frozen? ⟨g,k,none⟩=false):=by
      intro wx hg;have U:=F2.out.keep0 hg;obtain ⟨_,_,_,_,_,_,_,_,_,_,hf⟩:=U.at (n+i) t;exact ⟨U,(show im _ _ _ _ _ _ from ⟨C,r1,r2⟩).k0 hg,hf⟩
     clear C r1 r2 H I;have GG:y.grownBy y none:=ae _ _;have s0:=hG.out y GG;obtain ⟨fr,C,I⟩:=X.out y GG;clear fr I;go_wp2;refine hd (fun u=>(iD u (w.heap.size)/\bX u (w.heap.size) (.bool z) (.slice A fl fc) (.slice m o q)/\dR u (w.heap.size+1) (.int .i64 ((n:Nat):Int)) (.slice (some ⟨b,off,none⟩) f.length cap))/\u.cell? ⟨wr.heap.size,1,none⟩=some (.int .i64 p.a)/\u.cell? ⟨wr.heap.size,2,none⟩=some (.int .i64 p.b)) (fun hHeld=>?_);refine tk 4 [(0,52,.slice (some ⟨g,0,none⟩) (n+f.length+1) (n+f.length+1)),(1,53,.int .i64 ((n:Int)+(i:Int))),(2,54,.pointer (some ⟨w.heap.size,5,none⟩)),(3,55,.func (.func 62) #[] #[]),(4,56,.slice (some ⟨g,0,none⟩) (n+f.length+1) (n+f.length+1)),(5,57,.int .i64 ((n:Int)+(i:Int))),(6,58,.pointer (some ⟨g,(n+i)*3,none⟩)),(8,60,.pointer (some ⟨w.heap.size,0,none⟩)),(9,61,Value.agg #[.bool z,.slice A fl fc,.slice m o q])] ?_;try simp only [pA,pL,vA,vL,q0,q1,q2,q3]
     refine de 3 7 (fun K s=>?_);simp only [ax,q4,q5,q6,q7];go_simp
     refine bk s (fun hHeld=>?_);clear s K;try simp only [pA,pL,vA,vL,q0,q1,q2,q3]
     refine de 2 10 (fun K s=>?_);simp only [ax,q4,q5,q6,q7];go_simp
     go_at_call 62
     refine (dr _ _ (0) 1 L L _ (kf.keep0 (gx GG)) (kk.keep0 (gx GG)) O).mono ?_;rintro e hM ⟨vm,rfl,pm,gm⟩;have pm:=pm.tight (L':=L) hS;obtain ⟨Hl,Hm,Hn,Ho,Hp,Hq,rfl⟩:=pm.shape;have GG:=aa (gx GG) gm;have b0:=hG.out hM GG;obtain ⟨fr,d0,D⟩:=X.out hM GG;have hm:=D ((n+i)*3);have ho:=D ((n+i)*3+1);have hq:=D ((n+i)*3+2);clear D;go_wp2_with fail;refine bk s (fun hHeld=>?_);clear s K;refine tk 1 [(11,63,.pointer (some ⟨g,(n+i)*3,none⟩))] ?_;try simp only [pA,pL,vA,vL,q0,q1,q2,q3]
     refine de 0 12 (fun K s=>?_);simp only [ax,q4,q5,q6,q7];go_simp
     refine bk s (fun hHeld=>?_);clear s K;try simp only [pA,pL,vA,vL,q0,q1,q2,q3]
     refine wpAnyH_done zK ?_ _;have FR:=ab fr;have PM:=ab pm;have GF:=ab GG;clear fr pm GG;go_wp2;go_roundw
     case rel =>
      obtain ⟨y1,Y,y3⟩:=FR.out.set (n+i) t PM;refine ⟨i+1,O,zN,y1.congr (fun x _=>?_),(S.gr GF).trans ⟨Y,y3⟩⟩;rw [<- jA n f j i hlt x,<- M,BP HA HB]
     case measure=>simp [intOf];omega
    ·have hs:(p.b==(j:Int))=false:=zB F;have HB:=ab F;clear F;go_wp2;go_roundw
     case rel=>exact ⟨i+1,O,zN,F2.congr (fun x _=>uN n f j i hlt (by rw [<- M];exact BN HA HB) x),S⟩
     case measure=>simp [intOf];omega
  ·obtain rfl:i=f.length:=O
   have s0:=l.out wr G;go_wp2;refine bodyPost_ret (v:=.slice (some ⟨g,0,none⟩) (n+f.length+1) (n+f.length+1)) (by simp [results,Tryz.results70,go_sem]) rfl ?_;refine ⟨g,rfl,O,L1.congr (fun x hx=>?_),aw (r:=none) J G.1 (fun _ _ e=>e) (fun b hb e=>by have:=zJ e;omega)⟩;unfold eI;by_cases h:x<n+f.length
   ·rw [if_pos h]
   ·rw [if_neg h];unfold dJ;rw [if_neg O,List.getElem?_eq_none O]
theorem sU (j:Bool) (m a:Option Addr) (fl fc c d:Nat) (n k:Nat) (q:Option Addr) (cap:Nat) (L:Nat) (w:World) (t:FQ w (.agg #[.bool j,.slice m fl fc,.slice a c d]) 1 L) (hn:n<=1000) (z:k<=1000) :
  Calls Tryz.prog 70 #[(jP j (.slice m fl fc) (.slice a c d)),.agg #[.int .i64 ((n:Nat):Int),.slice q k cap],.int .i64 0] w fun e M=>oL w (n+k+1) (aJ (fun _=>0) 0 1) L e M:=by
 have A:=ab t;have o:Hid (j=rB 1):=FV.parts t;clear t;obtain ⟨W,l⟩:=eX ((w.alloc (Obj.cells #[.bool j,.slice m fl fc,.slice a c d,.func (.func 60) #[] #[],.func (.func 61) #[] #[],.func (.func 62) #[] #[],.func (.func 63) #[] #[],.func (.func 64) #[] #[],.func (.func 65) #[] #[],.func (.func 66) #[] #[],.func (.func 67) #[] #[]] 87)).alloc (Obj.cells #[.int .i64 ((n:Nat):Int),.slice q k cap] 24));have B:Hid (w.grownBy W none):=by rw [l];exact ag (ag (ae _ _) _) _
 have p:Hid (W.heap.size=w.heap.size+2):=by show _=_;rw [l];simp
 have h:Hid (∀ wx,W.grownBy wx none->bX wx (w.heap.size) (.bool j) (.slice m fl fc) (.slice a c d)/\dR wx (w.heap.size+1) (.int .i64 ((n:Nat):Int)) (.slice q k cap)):=by
  intro wx hg;exact ⟨(ln j m a fl fc c d (w:=W) (by rw [l];exact ag (ae _ _) _)).2.k0 hg,dR.k0 (w:=W) (by rw [l];exact ⟨zG,zG⟩) hg⟩
 have s0:=h.out W (ae _ _);go_enter Tryz.func70,Tryz.ntmps70
 go_upto_region 1 with fail;rw [<- l];clear l;go_wp2_with fail;refine (j8 n k q cap W hn z).mono ?_;rintro e w1 ⟨g,rfl,H,i,f⟩;have N:=h.out w1 f;have C:=ab (i.mono (Nat.zero_le L));have x:=ab (aa B f);obtain ⟨P,Q,R,S,T,U,I,J,K,_,s⟩:=i.at 0 O;simp only [Nat.zero_mul,Nat.zero_add] at I J K;have D:=s 0;have E:=s 1;have F:=s 2;have G:(0:Int)<(n:Int)+(k:Int)+1:=O
 clear i f s s0;go_wp2;refine bodyPost_ret (v:=.slice (some ⟨g,0,none⟩) (n+k+1) (n+k+1)) (by simp [results,Tryz.results70,go_sem]) rfl ?_;have y:=A.out.keep0 x;rw [o] at y;have u:=C.out.set 0 O y;simp only [Nat.zero_mul,Nat.zero_add] at u;rw [o];exact ⟨g,rfl,by have:=p.out;omega,u.1,aw (r:=none) x u.2.1 (fun _ _ e=>e) (fun b hb e=>by have:=zJ e;have:=p.out;omega)⟩
attribute [local simp] iD bX im dR
theorem rJ (c bv g K k:Nat) (R:Nat->Rat) (q:Rat) (y:Value) (L:Nat) (w:World) (f:w.cell? ⟨c,4,none⟩=some (.func (.func 61) #[] #[])) (t:w.cell? ⟨bv,0,none⟩=some (.slice (some ⟨g,0,none⟩) K K)) (b:aH w g K R L) (hy:FQ w y q L)
  (hk:k<K) (hK:K<=3000) (hbf:g≠c) (hbv:g≠bv) (hL:L<=100000000) (hfit:bg L (R k+q)) :
  Calls Tryz.prog 109 #[.int .i64 ((k:Nat):Int),y,.pointer (some ⟨c,0,none⟩),.pointer (some ⟨bv,0,none⟩)] w
   fun e d=>e=.returned (.tuple #[])/\aH d g K (aJ R k (R k+q)) L/\aI w d g:=by
 have C:=ab b;have D:=ab hy;have E:=ab hfit;have F:=b.lt;have u:=bZ f;have v:=bZ t;simp only at u v;obtain ⟨j,l,m,n,o,p,rfl⟩:=hy.shape;obtain ⟨U,V,X,Y,vl,vc,x,r1,r2,A,_⟩:=b.at k hk;have G:=ab A;clear b hy hfit A;obtain ⟨W,r⟩:=eX (w.alloc (Obj.cells #[.bool (rB q),.slice j l m,.slice n o p] 81));have h:Hid (w.grownBy W none):=by rw [r];exact ag (ae _ _) _
 have z:Hid (∀ wx,W.grownBy wx none->wx.cell? ⟨c,4,none⟩=some (.func (.func 61) #[] #[])/\wx.cell? ⟨bv,0,none⟩=some (.slice (some ⟨g,0,none⟩) K K)/\bX wx (w.heap.size) (.bool (rB q)) (.slice j l m) (.slice n o p)):=by
  intro wx hg;have a:=aa h hg;rw [r] at hg;exact ⟨a.cell f Z,a.cell t Z,aG hg⟩
 have i:Hid (∀ wx,W.grownBy wx none->aH wx g K R L/\im wx g k (.bool (rB (R k))) (.slice U V X) (.slice Y vl vc)/\∀ k,wx.frozen? ⟨g,k,none⟩=false):=by
  intro wx hg;have a:=aa h hg;have b:=C.out.keep0 a;obtain ⟨_,_,_,_,_,_,_,_,_,_,f⟩:=b.at k hk;exact ⟨b,(show im _ _ _ _ _ _ from ⟨x,r1,r2⟩).k0 a,f⟩
 clear f t x r1 r2;have H:g≠w.heap.size:=O
 have I:((k:Nat):Int)<(K:Int):=O
 have J:(0:Int)<=((k:Nat):Int):=O
 have GG:W.grownBy W none:=ae _ _;have s0:=z.out W GG;obtain ⟨fr,x,rf⟩:=i.out W GG;clear fr rf;go_enter Tryz.func109,Tryz.ntmps109
 go_wp2;rw [<- r];clear r;refine hd (fun d=>d.cell? ⟨c,4,none⟩=some (.func (.func 61) #[] #[])/\d.cell? ⟨bv,0,none⟩=some (.slice (some ⟨g,0,none⟩) K K)/\bX d (w.heap.size) (.bool (rB q)) (.slice j l m) (.slice n o p)) (fun hHeld=>?_);refine tk 4 [(0,6,.slice (some ⟨g,0,none⟩) K K),(1,7,.int .i64 ((k:Nat):Int)),(2,8,.pointer (some ⟨c,4,none⟩)),(3,9,.func (.func 61) #[] #[]),(4,10,.slice (some ⟨g,0,none⟩) K K),(5,11,.int .i64 ((k:Nat):Int)),(6,12,.pointer (some ⟨g,k*3,none⟩)),(8,14,Value.agg #[.bool (rB q),.slice j l m,.slice n o p])] ?_;try simp only [pA,pL,vA,vL,q0,q1,q2,q3]
 refine de 3 7 (fun K hK=>?_);simp only [ax,q4,q5,q6,q7];go_simp
 refine bk hK (fun hHeld=>?_);clear hK K;try simp only [pA,pL,vA,vL,q0,q1,q2,q3]
 refine de 2 9 (fun K hK=>?_);simp only [ax,q4,q5,q6,q7];go_simp
 go_at_call 61
 refine (mg _ _ (R k) q L L _ (G.keep0 (aa h (gx GG))) (D.keep0 (aa h (gx GG))) O).mono ?_;rintro e B ⟨vm,rfl,pm,gm⟩;have pm:=pm.tight (L':=L) E;obtain ⟨mo,ml,mc,no,nl,nc,rfl⟩:=pm.shape;have GG:=aa (gx GG) gm;have b0:=z.out B GG;obtain ⟨fr,d0,s⟩:=i.out B GG;have M:=s (k*3);have N:=s (k*3+1);have P:=s (k*3+2);clear s;go_wp2_with fail;refine bk hK (fun hHeld=>?_);clear hK K;refine tk 1 [(10,16,.pointer (some ⟨g,k*3,none⟩))] ?_;try simp only [pA,pL,vA,vL,q0,q1,q2,q3]
 refine de 0 11 (fun K hK=>?_);simp only [ax,q4,q5,q6,q7];go_simp
 refine bk hK (fun hHeld=>?_);clear hK K;try simp only [pA,pL,vA,vL,q0,q1,q2,q3]
 refine wpAnyH_done zK ?_ _;have Q:=ab fr;have S:=ab pm;have T:=ab GG;clear fr pm GG;go_wp2;go_end0
 obtain ⟨y1,y2,y3⟩:=Q.out.set k hk S;exact ⟨rfl,y1,(aI.of_gr (aa h T)).trans ⟨y2,y3⟩⟩
theorem pV (c bv g K k:Nat) (R:Nat->Rat) (q:Rat) (y:Value) (L:Nat) (w:World) (f:w.cell? ⟨c,5,none⟩=some (.func (.func 62) #[] #[])) (t:w.cell? ⟨bv,0,none⟩=some (.slice (some ⟨g,0,none⟩) K K)) (b:aH w g K R L) (hy:FQ w y q L)
  (hk:k<K) (hK:K<=3000) (hbf:g≠c) (hbv:g≠bv) (hL:L<=100000000) (hfit:bg L (R k-q)) :
  Calls Tryz.prog 110 #[.int .i64 ((k:Nat):Int),y,.pointer (some ⟨c,0,none⟩),.pointer (some ⟨bv,0,none⟩)] w
   fun e d=>e=.returned (.tuple #[])/\aH d g K (aJ R k (R k-q)) L/\aI w d g:=by
 have C:=ab b;have D:=ab hy;have E:=ab hfit;have F:=b.lt;have u:=bZ f;have v:=bZ t;simp only at u v;obtain ⟨j,l,m,n,o,p,rfl⟩:=hy.shape;obtain ⟨U,V,X,Y,vl,vc,x,r1,r2,A,_⟩:=b.at k hk;have G:=ab A;clear b hy hfit A;obtain ⟨W,r⟩:=eX (w.alloc (Obj.cells #[.bool (rB q),.slice j l m,.slice n o p] 81));have h:Hid (w.grownBy W none):=by rw [r];exact ag (ae _ _) _
 have z:Hid (∀ wx,W.grownBy wx none->wx.cell? ⟨c,5,none⟩=some (.func (.func 62) #[] #[])/\wx.cell? ⟨bv,0,none⟩=some (.slice (some ⟨g,0,none⟩) K K)/\bX wx (w.heap.size) (.bool (rB q)) (.slice j l m) (.slice n o p)):=by
  intro wx hg;have a:=aa h hg;rw [r] at hg;exact ⟨a.cell f Z,a.cell t Z,aG hg⟩
 have i:Hid (∀ wx,W.grownBy wx none->aH wx g K R L/\im wx g k (.bool (rB (R k))) (.slice U V X) (.slice Y vl vc)/\∀ k,wx.frozen? ⟨g,k,none⟩=false):=by
  intro wx hg;have a:=aa h hg;have b:=C.out.keep0 a;obtain ⟨_,_,_,_,_,_,_,_,_,_,f⟩:=b.at k hk;exact ⟨b,(show im _ _ _ _ _ _ from ⟨x,r1,r2⟩).k0 a,f⟩
 clear f t x r1 r2;have H:g≠w.heap.size:=O
 have I:((k:Nat):Int)<(K:Int):=O
 have J:(0:Int)<=((k:Nat):Int):=O
 have GG:W.grownBy W none:=ae _ _;have s0:=z.out W GG;obtain ⟨fr,x,rf⟩:=i.out W GG;clear fr rf;go_enter Tryz.func110,Tryz.ntmps110
 go_wp2;rw [<- r];clear r;refine hd (fun d=>d.cell? ⟨c,5,none⟩=some (.func (.func 62) #[] #[])/\d.cell? ⟨bv,0,none⟩=some (.slice (some ⟨g,0,none⟩) K K)/\bX d (w.heap.size) (.bool (rB q)) (.slice j l m) (.slice n o p)) (fun hHeld=>?_);refine tk 4 [(0,6,.slice (some ⟨g,0,none⟩) K K),(1,7,.int .i64 ((k:Nat):Int)),(2,8,.pointer (some ⟨c,5,none⟩)),(3,9,.func (.func 62) #[] #[]),(4,10,.slice (some ⟨g,0,none⟩) K K),(5,11,.int .i64 ((k:Nat):Int)),(6,12,.pointer (some ⟨g,k*3,none⟩)),(8,14,Value.agg #[.bool (rB q),.slice j l m,.slice n o p])] ?_;try simp only [pA,pL,vA,vL,q0,q1,q2,q3]
 refine de 3 7 (fun K hK=>?_);simp only [ax,q4,q5,q6,q7];go_simp
 refine bk hK (fun hHeld=>?_);clear hK K;try simp only [pA,pL,vA,vL,q0,q1,q2,q3]
 refine de 2 9 (fun K hK=>?_);simp only [ax,q4,q5,q6,q7];go_simp
 go_at_call 62
 refine (dr _ _ (R k) q L L _ (G.keep0 (aa h (gx GG))) (D.keep0 (aa h (gx GG))) O).mono ?_;rintro e B ⟨vm,rfl,pm,gm⟩;have pm:=pm.tight (L':=L) E;obtain ⟨mo,ml,mc,no,nl,nc,rfl⟩:=pm.shape;have GG:=aa (gx GG) gm;have b0:=z.out B GG;obtain ⟨fr,d0,s⟩:=i.out B GG;have M:=s (k*3);have N:=s (k*3+1);have P:=s (k*3+2);clear s;go_wp2_with fail;refine bk hK (fun hHeld=>?_);clear hK K;refine tk 1 [(10,16,.pointer (some ⟨g,k*3,none⟩))] ?_;try simp only [pA,pL,vA,vL,q0,q1,q2,q3]
 refine de 0 11 (fun K hK=>?_);simp only [ax,q4,q5,q6,q7];go_simp
 refine bk hK (fun hHeld=>?_);clear hK K;try simp only [pA,pL,vA,vL,q0,q1,q2,q3]
 refine wpAnyH_done zK ?_ _;have Q:=ab fr;have S:=ab pm;have T:=ab GG;clear fr pm GG;go_wp2;go_end0
 obtain ⟨y1,y2,y3⟩:=Q.out.set k hk S;exact ⟨rfl,y1,(aI.of_gr (aa h T)).trans ⟨y2,y3⟩⟩
def kR (n i K xa xb xc xd:Nat) (qa qf ql qs:Rat):Nat->Rat :=
 aJ (aJ (aJ (aJ (aJ (aJ (fun _=>0) xa (0+qa)) xb (aJ (fun _=>0) xa (0+qa) xb-qa)) xc (aJ (aJ (fun _=>0) xa (0+qa)) xb (aJ (fun _=>0) xa (0+qa) xb-qa) xc+ql)) xd (aJ (aJ (aJ (fun _=>0) xa (0+qa)) xb (aJ (fun _=>0) xa (0+qa) xb-qa)) xc (aJ (aJ (fun _=>0) xa (0+qa)) xb (aJ (fun _=>0) xa (0+qa) xb-qa) xc+ql) xd-ql)) (n+i) qf) (K-1) qs
theorem xM (fb:Bool) (fo Q:Option Addr) (fl fc R S:Nat) (n i j l y M:Nat) (pv:Value) (f:List aD) (qa qf ql qs:Rat) (ko lo so wo B C o p:Option Addr) (kl kc D E ll lc F G sl sc q s wl wc t u:Nat) (L:Nat) (w:World) (hp:aR w pv f) (hi:i<f.length)
  (ea:f[i].a=(j:Int)) (eb:f[i].b=(l:Int)) (ec:f[i].c=(y:Int)) (ed:f[i].d=(M:Int)) (ha:j<n) (hb:l<n) (hc:y<n) (hd:M<n)
  (hav:FQ w (.agg #[.bool (rB qa),.slice ko kl kc,.slice B D E]) qa L) (hfv:FQ w (.agg #[.bool (rB qf),.slice wo wl wc,.slice p t u]) qf L) (hlv:FQ w (.agg #[.bool (rB ql),.slice lo ll lc,.slice C F G]) ql L) (hsv:FQ w (.agg #[.bool (rB qs),.slice so sl sc,.slice o q s]) qs L) (hn:n<=1000) (hk:f.length<=1000) (hL:L<=100000000)
  (h1:bg L (0+qa)) (h2:bg L (aJ (fun _=>0) j (0+qa) l-qa)) (h3:bg L (aJ (aJ (fun _=>0) j (0+qa)) l (aJ (fun _=>0) j (0+qa) l-qa) y+ql))
  (h4:bg L (aJ (aJ (aJ (fun _=>0) j (0+qa)) l (aJ (fun _=>0) j (0+qa) l-qa)) y (aJ (aJ (fun _=>0) j (0+qa)) l (aJ (fun _=>0) j (0+qa) l-qa) y+ql) M-ql)) :
  Calls Tryz.prog 71 #[(jP fb (.slice fo fl fc) (.slice Q R S)),.agg #[.int .i64 ((n:Nat):Int),pv],.int .i64 ((i:Nat):Int),.agg #[.bool (rB qa),.slice ko kl kc,.slice B D E,.bool (rB qf),.slice wo wl wc,.slice p t u,.bool (rB ql),.slice lo ll lc,.slice C F G,.bool (rB qs),.slice so sl sc,.slice o q s]] w
   fun e w'=>oL w (n+f.length+1) (kR n i (n+f.length+1) j l y M qa qf ql qs) L e w':=by
 have HP:=ab hp;obtain ⟨ao,cap,rfl,hH,hs,ho⟩:=hp;unfold maxLen at hs;obtain ⟨b,off,rfl,hI,c0,c1,c2,c3,c4,c5,c6⟩:=ho i hi;rw [ea] at c1;rw [eb] at c2;rw [ec] at c3;rw [ed] at c4;have HA:=ab hav;have HF:=ab hfv;have HL:=ab hlv;have HS:=ab hsv;have T1:=ab h1;have T2:=ab h2;have T3:=ab h3;have T4:=ab h4;clear ho hav hfv hlv hsv h1 h2 h3 h4 ea eb ec ed;obtain ⟨kd,hq⟩:=eX (f[i].kind);obtain ⟨vv,hr⟩:=eX (f[i].v);rw [<- hq] at c0;rw [<- hr] at c5;clear hq hr c6;obtain ⟨W,hW⟩:=eX (((w.alloc (Obj.cells #[.bool fb,.slice fo fl fc,.slice Q R S,.func (.func 60) #[] #[],.func (.func 61) #[] #[],.func (.func 62) #[] #[],.func (.func 63) #[] #[],.func (.func 64) #[] #[],.func (.func 65) #[] #[],.func (.func 66) #[] #[],.func (.func 67) #[] #[]] 87)).alloc (Obj.cells #[.int .i64 ((n:Nat):Int),.slice (some ⟨b,off,none⟩) f.length cap] 24)).alloc (Obj.cells #[.bool (rB qa),.slice ko kl kc,.slice B D E,.bool (rB qf),.slice wo wl wc,.slice p t u,.bool (rB ql),.slice lo ll lc,.slice C F G,.bool (rB qs),.slice so sl sc,.slice o q s] 92));have GW:Hid (w.grownBy W none):=by rw [hW];exact ag (ag (ag (ae _ _) _) _) _
 have hj:Hid (W.heap.size=w.heap.size+3):=by show _=_;rw [hW];simp
 have m:Hid (∀ wx g,W.heap.size<=g->W.grownBy wx (some g)->(iD wx (w.heap.size)/\wx.cell? ⟨w.heap.size+1,0,none⟩=some (.int .i64 ((n:Nat):Int))/\wx.cell? ⟨w.heap.size+1+1,0,none⟩=some (.bool (rB qa))/\wx.cell? ⟨w.heap.size+1+1,1,none⟩=some (.slice ko kl kc)/\wx.cell? ⟨w.heap.size+1+1,2,none⟩=some (.slice B D E)/\wx.cell? ⟨w.heap.size+1+1,3,none⟩=some (.bool (rB qf))/\wx.cell? ⟨w.heap.size+1+1,4,none⟩=some (.slice wo wl wc)/\wx.cell? ⟨w.heap.size+1+1,5,none⟩=some (.slice p t u)/\wx.cell? ⟨w.heap.size+1+1,6,none⟩=some (.bool (rB ql))/\wx.cell? ⟨w.heap.size+1+1,7,none⟩=some (.slice lo ll lc)/\wx.cell? ⟨w.heap.size+1+1,8,none⟩=some (.slice C F G)/\wx.cell? ⟨w.heap.size+1+1,9,none⟩=some (.bool (rB qs))/\wx.cell? ⟨w.heap.size+1+1,10,none⟩=some (.slice so sl sc)/\wx.cell? ⟨w.heap.size+1+1,11,none⟩=some (.slice o q s))/\wx.cell? ⟨w.heap.size+1,1,none⟩=some (.slice (some ⟨b,off,none⟩) f.length cap)):=by
  intro wx g hG hg;have hD:=hj.out;have N:some w.heap.size≠some g:=fun e=>by have:=zJ e;omega
  have fd:=(ln fb fo Q fl fc R S (w:=W) (by rw [hW];exact ag (ag (ae _ _) _) _)).1.k hg N;rw [hW] at hg;have n2:some (w.heap.size+1)≠some g:=fun e=>by have:=zJ e;omega
  have z:some (w.heap.size+1+1)≠some g:=fun e=>by have:=zJ e;omega
  exact ⟨⟨fd,hg.cell zG n2,hg.cell zG z,hg.cell zG z,hg.cell zG z,hg.cell zG z,hg.cell zG z,hg.cell zG z,hg.cell zG z,hg.cell zG z,hg.cell zG z,hg.cell zG z,hg.cell zG z,hg.cell zG z⟩,hg.cell zG n2⟩
 have s0:=m.out W W.heap.size zL (ae _ _);go_enter Tryz.func71,Tryz.ntmps71
 go_upto_region 1 with fail;rw [<- hW];clear hW;go_wp2_with fail;refine (j8 n f.length (some ⟨b,off,none⟩) cap W hn hk).mono ?_;rintro e w1 ⟨g,rfl,X,Y,H⟩;have F1:=ab (Y.mono (Nat.zero_le L));have G1:=ab H;have GA:=ab (aa GW H);have hE:w.heap.size+3<=g:=by have:=hj.out;omega
 have hu:g<w1.heap.size:=Y.lt;have hv:w.heap.size+3<=w1.heap.size:=O
 clear Y H s0;have s0:=m.out w1 g X (aI.of_gr G1).1;go_upto_region 2 with fail;obtain ⟨A,I⟩:=eX (w1.alloc (Obj.cells #[.slice (some ⟨g,0,none⟩) (n+f.length+1) (n+f.length+1)] 58));have G2:Hid (w1.grownBy A none):=by rw [I];exact ag (ae _ _) _
 have hl:Hid (A.heap.size=w1.heap.size+1):=by show _=_;rw [I];simp
 have V2:Hid (A.cell? ⟨w1.heap.size,0,none⟩=some (.slice (some ⟨g,0,none⟩) (n+f.length+1) (n+f.length+1))):=by show _=_;rw [I];go_simp
 rw [<- I];clear I s0;generalize hbv:w1.heap.size=bv at *;have x:=ab (aa GA G2);have s0:=m.out A g X (aI.of_gr (aa G1 G2)).1;have p0:=x.out.cell c0 Z;have p1:=x.out.cell c1 Z;have p2:=x.out.cell c2 Z;have p3:=x.out.cell c3 Z;have p4:=x.out.cell c4 Z;have p5:=x.out.cell c5 Z;clear c0 c1 c2 c3 c4 c5;go_upto_region 3 with fail;obtain ⟨w3,J⟩:=eX (A.alloc (Obj.cells #[.int .i64 kd,.int .i64 ((j:Nat):Int),.int .i64 ((l:Nat):Int),.int .i64 ((y:Nat):Int),.int .i64 ((M:Nat):Int),.string vv] 45));have G3:Hid (A.grownBy w3 none):=by rw [J];exact ag (ae _ _) _
 have PC:Hid (∀ wx,w3.grownBy wx (some g)->wx.cell? ⟨A.heap.size,1,none⟩=some (.int .i64 ((j:Nat):Int))/\wx.cell? ⟨A.heap.size,2,none⟩=some (.int .i64 ((l:Nat):Int))/\wx.cell? ⟨A.heap.size,3,none⟩=some (.int .i64 ((y:Nat):Int))/\wx.cell? ⟨A.heap.size,4,none⟩=some (.int .i64 ((M:Nat):Int))):=by
  intro wx hg;rw [J] at hg;have N:some A.heap.size≠some g:=fun e=>by have:=zJ e;have:=hl.out;omega
  exact ⟨hg.cell zG N,hg.cell zG N,hg.cell zG N,hg.cell zG N⟩
 rw [<- J];clear J s0 p0 p1 p2 p3 p4 p5;generalize A.heap.size=bp at *;have GB:=ab (aa G2 G3);have h:Hid (∀ wx,aI w3 wx g->(iD wx (w.heap.size)/\wx.cell? ⟨w.heap.size+1,0,none⟩=some (.int .i64 ((n:Nat):Int))/\wx.cell? ⟨w.heap.size+1+1,0,none⟩=some (.bool (rB qa))/\wx.cell? ⟨w.heap.size+1+1,1,none⟩=some (.slice ko kl kc)/\wx.cell? ⟨w.heap.size+1+1,2,none⟩=some (.slice B D E)/\wx.cell? ⟨w.heap.size+1+1,3,none⟩=some (.bool (rB qf))/\wx.cell? ⟨w.heap.size+1+1,4,none⟩=some (.slice wo wl wc)/\wx.cell? ⟨w.heap.size+1+1,5,none⟩=some (.slice p t u)/\wx.cell? ⟨w.heap.size+1+1,6,none⟩=some (.bool (rB ql))/\wx.cell? ⟨w.heap.size+1+1,7,none⟩=some (.slice lo ll lc)/\wx.cell? ⟨w.heap.size+1+1,8,none⟩=some (.slice C F G)/\wx.cell? ⟨w.heap.size+1+1,9,none⟩=some (.bool (rB qs))/\wx.cell? ⟨w.heap.size+1+1,10,none⟩=some (.slice so sl sc)/\wx.cell? ⟨w.heap.size+1+1,11,none⟩=some (.slice o q s))/\wx.cell? ⟨bv,0,none⟩=some (.slice (some ⟨g,0,none⟩) (n+f.length+1) (n+f.length+1))/\wx.cell? ⟨bp,1,none⟩=some (.int .i64 ((j:Nat):Int))/\wx.cell? ⟨bp,2,none⟩=some (.int .i64 ((l:Nat):Int))/\wx.cell? ⟨bp,3,none⟩=some (.int .i64 ((y:Nat):Int))/\wx.cell? ⟨bp,4,none⟩=some (.int .i64 ((M:Nat):Int))):=by
  intro wx hx;have N:some bv≠some g:=fun e=>by have:=zJ e;omega
  exact ⟨(m wx g X (aw (r:=some g) (aa G1 GB) hx.1 nofun (fun _ _ e=>e))).1,hx.1.cell (G3.cell V2 Z) N,PC wx hx.1⟩
 have F3:=ab (F1.keep0 GB);have R3:=ab (aI.refl w3 g);have Z3:=ab (aL.of_gr (aa GA GB));have s0:=h.out w3 R3;go_wp2_with fail;refine (rJ w.heap.size bv g (n+f.length+1) j (fun _=>0) qa _ L _ s0.1.1.2.1 s0.2.1 F3 (HA.kept Z3) O O O O hL T1).mono ?_;rintro e w4 ⟨rfl,f4,g4⟩;have F4:=ab f4;have R4:=ab (R3.trans g4);have Z4:=ab (Z3.trans g4.2);clear f4 g4 s0;have s0:=h.out w4 R4;go_wp2_with fail;refine (pV w.heap.size bv g (n+f.length+1) l (aJ (fun _=>0) j (0+qa)) qa _ L _ s0.1.1.2.2.1 s0.2.1 F4 (HA.kept Z4) O O O O hL T2).mono ?_;rintro e w5 ⟨rfl,f5,g5⟩;have F5:=ab f5;have R5:=ab (R4.trans g5);have Z5:=ab (Z4.trans g5.2);clear f5 g5 s0;have s0:=h.out w5 R5;go_wp2_with fail;refine (rJ w.heap.size bv g (n+f.length+1) y (aJ (aJ (fun _=>0) j (0+qa)) l ((aJ (fun _=>0) j (0+qa)) l-qa)) ql _ L _ s0.1.1.2.1 s0.2.1 F5 (HL.kept Z5) O O O O hL T3).mono ?_;rintro e w6 ⟨rfl,f6,g6⟩;have F6:=ab f6;have R6:=ab (R5.trans g6);have Z6:=ab (Z5.trans g6.2);clear f6 g6 s0;have s0:=h.out w6 R6;go_wp2_with fail;refine (pV w.heap.size bv g (n+f.length+1) M (aJ (aJ (aJ (fun _=>0) j (0+qa)) l ((aJ (fun _=>0) j (0+qa)) l-qa)) y ((aJ (aJ (fun _=>0) j (0+qa)) l ((aJ (fun _=>0) j (0+qa)) l-qa)) y+ql)) ql _ L _ s0.1.1.2.2.1 s0.2.1 F6 (HL.kept Z6) O O O O hL T4).mono ?_
 rintro e w7 ⟨rfl,f7,g7⟩;have F7:=ab f7;have R7:=ab (R6.trans g7);have Z7:=ab (Z6.trans g7.2);clear f7 g7 s0;have s0:=h.out w7 R7;have hF:IntKind.i64.wrap ((n:Int)+(i:Int))=(n:Int)+(i:Int):=IntWalk.i64_in _ ⟨O,O⟩;have hw:(0:Int)<=(n:Int)+(i:Int):=O
 have hy:(n:Int)+(i:Int)<(n:Int)+(f.length:Int)+1:=O
 have hm:n+i<n+f.length+1:=O
 obtain ⟨_,_,_,_,_,_,d0,d1,d2,_,K⟩:=F7.out.at (n+i) hm;have T:=K ((n+i)*3);have U:=K ((n+i)*3+1);have V:=K ((n+i)*3+2);clear K;go_upto_region 10 with fail;obtain ⟨w8,he⟩:=eX (((w7.setCell ⟨g,(n+i)*3,none⟩ (.bool (rB qf))).setCell ⟨g,(n+i)*3+1,none⟩ (.slice wo wl wc)).setCell ⟨g,(n+i)*3+2,none⟩ (.slice p t u));obtain ⟨y1,y2,P⟩:=F7.out.set (n+i) hm (HF.kept Z7);rw [<- he] at y1 y2 P;rw [<- he];have F8:=ab y1;have R8:=ab (R7.trans ⟨y2,P⟩);have Z8:=ab (Z7.trans P);clear he y1 y2 P d0 d1 d2 T U V s0;have s0:=h.out w8 R8;obtain ⟨_,_,_,_,_,_,d0,d1,d2,_,K⟩:=F8.out.at (n+f.length) O;have T:=K ((n+f.length)*3);have U:=K ((n+f.length)*3+1);have V:=K ((n+f.length)*3+2);clear K;have hz:IntKind.i64.wrap ((n:Int)+(f.length:Int))=(n:Int)+(f.length:Int):=IntWalk.i64_in _ ⟨O,O⟩;have hA:IntKind.i64.wrap ((n:Int)+(f.length:Int)+1-1)=(n:Int)+(f.length:Int):=by rw [IntWalk.i64_in _ ⟨O,O⟩];omega
 have hB:(0:Int)<=(n:Int)+(f.length:Int):=O
 have hC:(n:Int)+(f.length:Int)<(n:Int)+(f.length:Int)+1:=O
 go_upto_region 11 with fail;obtain ⟨w9,hf⟩:=eX (((w8.setCell ⟨g,(n+f.length)*3,none⟩ (.bool (rB qs))).setCell ⟨g,(n+f.length)*3+1,none⟩ (.slice so sl sc)).setCell ⟨g,(n+f.length)*3+2,none⟩ (.slice o q s));obtain ⟨y1,y2,P⟩:=F8.out.set (n+f.length) O (HS.kept Z8);rw [<- hf] at y1 y2 P;rw [<- hf];have F9:=ab y1;have R9:=ab (R8.trans ⟨y2,P⟩);clear hf y1 y2 P d0 d1 d2 T U V s0;have s0:=h.out w9 R9;go_wp2;refine bodyPost_ret (v:=.slice (some ⟨g,0,none⟩) (n+f.length+1) (n+f.length+1)) (by simp [results,Tryz.results71,go_sem]) rfl ?_;exact ⟨g,rfl,O,F9,aw (r:=none) (aa GA GB) R9.1 (fun _ _ e=>e) (fun b hb e=>by have:=zJ e;omega)⟩
theorem ofId_at (x:Value) (q:Rat) (L:Nat) (w:World) (a:FQ w x q L) :
  Calls Tryz.prog 60 #[x] w fun e j=>FQE w q L e j:=by
 have c:=ab a;obtain ⟨d,f,g,b,h,i,rfl⟩:=a.shape;clear a;go_enter Tryz.func60,Tryz.ntmps60
 go_wp2;refine bodyPost_ret (v:=.agg #[.bool (rB q),.slice d f g,.slice b h i]) (by simp [results,Tryz.results60,go_sem]) rfl ?_;exact ⟨_,rfl,c.keep0 (ag (ag (ae _ _) _) _),ag (ag (ae _ _) _) _⟩
theorem ja (x:Value) (q:Rat) (r f:Nat) (L:Nat) (w:World) (g:FQ w x q L) (s:w.cell? ⟨r,5,none⟩=some (.func (.func 62) #[] #[]))
  (z0:w.cell? ⟨f,0,none⟩=some (.bool false)) (z1:w.cell? ⟨f,1,none⟩=some (.slice none 0 0)) (z2:w.cell? ⟨f,2,none⟩=some (.slice none 0 0)) (hL1:1<=L) (hL:L<=100000000) :
  Calls Tryz.prog 68 #[x,.pointer (some ⟨r,0,none⟩),.pointer (some ⟨f,0,none⟩)] w fun e P=>FQE w (0-q) L e P:=by
 have A:=ab g;have h:Hid (bg L (0-q)):=by
  have e:0-q = -q:=by grind
  rw [e];exact (g.fits hL1).neg
 obtain ⟨j,k,l,b,m,n,rfl⟩:=g.shape;clear g;obtain ⟨W,d⟩:=eX ((w.alloc (Obj.cells #[.bool (rB q),.slice j k l,.slice b m n] 81)).alloc (Obj.cells #[.bool false,.slice none 0 0,.slice none 0 0] 81));have c:Hid (w.grownBy W none):=by rw [d];exact ag (ag (ae _ _) _) _
 have a:Hid (∀ wx,W.grownBy wx none->(wx.cell? ⟨w.heap.size,0,none⟩=some (.bool (rB q))/\wx.cell? ⟨w.heap.size,1,none⟩=some (.slice j k l)/\wx.cell? ⟨w.heap.size,2,none⟩=some (.slice b m n))/\(wx.cell? ⟨w.heap.size+1,0,none⟩=some (.bool false)/\wx.cell? ⟨w.heap.size+1,1,none⟩=some (.slice none 0 0)/\wx.cell? ⟨w.heap.size+1,2,none⟩=some (.slice none 0 0)/\∀ i,wx.frozen? ⟨w.heap.size+1,i,none⟩=false)):=by
  intro wx hg;rw [d] at hg;have B:=aG (aa (ag (ae _ none) _) hg);have t:=aT hg;have C:(w.alloc (Obj.cells #[.bool (rB q),.slice j k l,.slice b m n] 81)).heap.size=w.heap.size+1:=Z
  rw [C] at t;exact ⟨B,t⟩
 have D:Hid (∀ wx,W.grownBy wx none->bP wx (w.heap.size+1)):=by
  intro wx hg;rw [d] at hg;have:=bC hg;simpa using this
 have k0:=c.out.cell s Z;have Q:=c.out.cell z0 Z;have R:=c.out.cell z1 Z;have S:=c.out.cell z2 Z;obtain ⟨⟨s0,s1,s2⟩,⟨T,r1,r2,I⟩⟩:=a.out W (ae _ _);clear s z0 z1 z2 I;go_enter Tryz.func68,Tryz.ntmps68
 go_upto_region 1 with fail;rw [<- d];clear d;go_wp2_with fail;have u:=aX W L;refine (dr _ _ 0 q L L _ (by exact u) (A.keep0 c) O).mono ?_;rintro e z ⟨v,rfl,o,p⟩;have E:=ab (o.tight (L':=L) h);obtain ⟨J,al,K,bo,M,N,rfl⟩:=o.shape;have y:=ab p;obtain ⟨⟨U,V,X⟩,⟨q0,q1,q2,qf⟩⟩:=a.out z p;have F:=qf 0;have G:=qf 1;have H:=qf 2;clear o p qf u;go_wp2;refine bodyPost_ret (v:=.agg #[.bool (rB (0-q)),.slice J al K,.slice bo M N]) (by first | (simp [results,Tryz.results68,go_sem,q0,q1,q2];done) | (simp [results,Tryz.results68,go_sem,q0,q1,q2];rfl)) rfl ?_;exact ⟨_,rfl,FV.other E (D z y) bH,ah (ah (ah (aa c y) _ _ Z) _ _ Z) _ _ Z⟩
end Go.Proofs.YtkbmbmdemajoaaaGreatDoor
