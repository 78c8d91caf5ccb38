/- Contracts that the proof leans on. -/
import Derived.Test.YthblidglcppakaaGreatDoorXCSb
import Derived.Test.YthblidglcppakaaGreatDoorXHand
import Derived.Test.YthblidglcppakaaGreatDoorXCNa
namespace Go.Proofs.YthblidglcppakaaGreatDoor
open Go.RowKit
set_option linter.unusedVariables false
set_option linter.unusedSimpArgs false
set_option maxHeartbeats 8000000
set_option maxRecDepth 10000
attribute [local simp] jG dC kV lJ
def oJ (w:World) (k:Nat) (R:Nat->Rat) (L:Nat) (e:Ending) (w':World):Prop:=∃ g,e=.returned (.slice (some ⟨g,0,none⟩) k k)/\w.heap.size<=g/\aH w' g k R L/\w.grownBy w' none
theorem j5 (n k:Nat) (po:Option Addr) (pc:Nat) (w:World) (hn:n<=1000) (hk:k<=1000) :
  Calls Tryz.prog 170 #[.agg #[.int .i64 ((n:Nat):Int),.slice po k pc]] w fun e w'=>oJ w (n+k+1) (fun _=>0) 0 e w':=by
 have h1:IntKind.i64.wrap ((n:Int)+(k:Int))=(n:Int)+(k:Int):=IntWalk.i64_in _ ⟨by omega,by omega⟩;have h2:IntKind.i64.wrap ((n:Int)+(k:Int)+1)=(n:Int)+(k:Int)+1:=IntWalk.i64_in _ ⟨by omega,by omega⟩;go_enter Tryz.func170,Tryz.ntmps170
 go_wp2_with (at_make;refine ld _ rfl _ _ 60 rfl Tryz.underlying60 Tryz.infoF _ _ _ _ (n+k+1) rfl rfl (by omega) (by omega) (by omega) ?_)
 intro w1 hf1 hg1;have F1:=ab hf1;have G1:=ab hg1;clear hf1 hg1;go_wp2;go_ret;refine ⟨_,rfl,by simp,F1.out,aa (ag (ae _ _) _) G1.out⟩
def qQ (p:aI) (j:Nat):Rat:=(if p.a=(j:Int) then 0+1 else 0)-(if p.b=(j:Int) then 1 else 0)
def dW (n:Nat) (ps:List aI) (j:Nat):Nat->Rat:=fun x=>if x<n then 0 else match ps[x-n]? with | some p=>qQ p j | none=>0
def eI (n:Nat) (ps:List aI) (j i:Nat):Nat->Rat:=fun x=>if x<n+i then dW n ps j x else 0
theorem jn (n:Nat) (ps:List aI) (j i:Nat) (hi:i<ps.length) (x:Nat):bg (eI n ps j i) (n+i) (qQ ps[i] j) x=eI n ps j (i+1) x:=by
 unfold bg eI;by_cases h:x=n+i
 ·rw [if_pos h,if_pos (by omega),h];unfold dW;rw [if_neg (by omega),show n+i-n=i by omega,List.getElem?_eq_getElem hi]
 ·rw [if_neg h];by_cases h2:x<n+i
  ·rw [if_pos h2,if_pos (by omega)]
  ·rw [if_neg h2,if_neg (by omega)]
theorem put_put (R:Nat->Rat) (k:Nat) (a b:Rat) (x:Nat):bg (bg R k a) k b x=bg R k b x:=by
 unfold bg;by_cases h:x=k
 ·rw [if_pos h,if_pos h]
 ·rw [if_neg h,if_neg h,if_neg h]
theorem uz (n:Nat) (ps:List aI) (j i:Nat) (hi:i<ps.length) (h:qQ ps[i] j=0) (x:Nat):eI n ps j i x=eI n ps j (i+1) x:=by
 rw [<- jn n ps j i hi x,h];unfold bg eI;by_cases h:x=n+i
 ·rw [if_pos h,if_neg (by omega)]
 ·rw [if_neg h]
theorem A0 {p:aI} {j:Nat} (h1:p.a=(j:Int)) (h2:p.b=(j:Int)):qQ p j=0+1-1:=by unfold qQ;rw [if_pos h1,if_pos h2]
theorem AZ {p:aI} {j:Nat} (h1:p.a=(j:Int)) (h2:¬ p.b=(j:Int)):qQ p j=0+1:=by unfold qQ;rw [if_pos h1,if_neg h2];grind
theorem AY {p:aI} {j:Nat} (h1:¬ p.a=(j:Int)) (h2:p.b=(j:Int)):qQ p j=0-1:=by unfold qQ;rw [if_neg h1,if_pos h2]
theorem AW {p:aI} {j:Nat} (h1:¬ p.a=(j:Int)) (h2:¬ p.b=(j:Int)):qQ p j=0:=by unfold qQ;rw [if_neg h1,if_neg h2];grind
def NodR (W:World) (g n:Nat) (ps:List aI) (j L:Nat) (v:Value) (wr:World):Prop :=
 ∃ i:Nat,i<=ps.length/\v=.int .i64 i/\aH wr g (n+ps.length+1) (eI n ps j i) L/\aX W wr g
theorem wY (fb:Bool) (fo fo2:Option Addr) (fl fc fl2 fc2:Nat) (n j:Nat) (pv:Value) (ps:List aI) (L:Nat) (w:World) (h1:FQ w (.agg #[.bool fb,.slice fo fl fc,.slice fo2 fl2 fc2]) 1 L) (hp:aK w pv ps)
  (hj:j<n) (hj0:j≠0) (hn:n<=1000) (hk:ps.length<=1000) (hL1:1<=L) (hL:L<=100000000) :
  Calls Tryz.prog 141 #[(jI fb (.slice fo fl fc) (.slice fo2 fl2 fc2)),.agg #[.int .i64 ((n:Nat):Int),pv],.int .i64 ((j:Nat):Int)] w fun e w'=>oJ w (n+ps.length+1) (dW n ps j) L e w':=by
 have H1:=ab h1;have HP:=ab hp;obtain ⟨ao,cap,rfl,hp1,hp2,hp3⟩:=hp;have HPC:=ab hp3;have F01:Hid (bM L (0+1)):=by
  have e:(0:Rat)+1=1:=by grind
  rw [e];exact h1.fits hL1
 have F00:Hid (bM L (0+1-1)):=by
  have e:(0:Rat)+1-1=0:=by grind
  rw [e];exact (bP w L).fits hL1
 have F0m:Hid (bM L (0-1)):=by
  have e:(0:Rat)-1 = -1:=by grind
  rw [e];exact (h1.fits hL1).neg
 unfold maxLen at hp2;clear h1 hp3;obtain ⟨W,hW⟩:∃ W,W=(w.alloc (Obj.cells #[.bool fb,.slice fo fl fc,.slice fo2 fl2 fc2,.func (.func 99) #[] #[],.func (.func 100) #[] #[],.func (.func 81) #[] #[],.func (.func 101) #[] #[],.func (.func 102) #[] #[],.func (.func 103) #[] #[],.func (.func 104) #[] #[],.func (.func 105) #[] #[]] 126)).alloc (Obj.cells #[.int .i64 ((n:Nat):Int),.slice ao ps.length cap] 24):=⟨_,rfl⟩;have GW:Hid (w.grownBy W none):=by rw [hW];exact ag (ag (ae _ _) _) _
 have HWS:Hid (W.heap.size=w.heap.size+2):=by show _=_;rw [hW];simp
 have BASE:Hid (∀ wx g,W.heap.size<=g->W.grownBy wx (some g)->jG wx (w.heap.size)/\dC wx (w.heap.size) (.bool fb) (.slice fo fl fc) (.slice fo2 fl2 fc2)/\lJ wx (w.heap.size+1) (.int .i64 ((n:Nat):Int)) (.slice ao ps.length cap)):=by
  intro wx g hgs hg;have hsz:=HWS.out;have n1:some w.heap.size≠some g:=fun e=>by have:=Option.some.inj e;omega
  have n2:some (w.heap.size+1)≠some g:=fun e=>by have:=Option.some.inj e;omega
  obtain ⟨f1,f2⟩:=mN fb fo fo2 fl fc fl2 fc2 (w:=W) (by rw [hW];exact ag (ae _ _) _);exact ⟨f1.k hg n1,f2.k hg n1,lJ.k (w:=W) (by rw [hW];exact ⟨by go_simp,by go_simp⟩) hg n2⟩
 have s0:=BASE.out W W.heap.size (Nat.le_refl _) (ae _ _);go_enter Tryz.func141,Tryz.ntmps141
 go_upto_region 1 with fail;rw [<- hW];clear hW;go_wp2_with fail;refine (j5 n ps.length ao cap W hn hk).mono ?_;rintro e w1 ⟨g,rfl,hg1,hf1,hgr1⟩;have F1:=ab hf1;have G1:=ab hgr1;have hgg:w.heap.size+2<=g:=by have:=HWS.out;omega
 have CELLS:Hid (∀ wx,aX w1 wx g->jG wx (w.heap.size)/\dC wx (w.heap.size) (.bool fb) (.slice fo fl fc) (.slice fo2 fl2 fc2)/\lJ wx (w.heap.size+1) (.int .i64 ((n:Nat):Int)) (.slice ao ps.length cap)):=fun wx hx=>BASE.out wx g hg1 (aq (r:=some g) G1.out hx.1 (fun _ _ e=>by cases e) (fun _ _ e=>e))
 have GA:=ab (aa GW.out hgr1);have hjb:(((j:Nat):Int)==0)=false:=beq_eq_false_iff_ne.2 (by omega);have HSZ1:Hid (w.heap.size+2<=w1.heap.size):=by show _<=_;have:=HWS.out;have:=hgr1.size;omega
 clear hf1 hgr1 s0;have s0:=CELLS.out w1 (aX.refl _ _);go_wp2;go_loopw [23] (fun v wr=>Hid (NodR w1 g n ps j L v wr)) (fun v _=>ps.length-(intOf v).toNat)
 case atStart=>exact ⟨0,by omega,rfl,(F1.out.mono (Nat.zero_le _)).congr (fun x _=>by unfold eI dW;by_cases h:x<n+0<;>simp_all),aX.refl _ _⟩
 case round =>
  obtain ⟨i,hi,rfl,l1,l2⟩:=hrel.out;have L1:=ab l1;have L2:=ab l2;clear l1 l2 hrel F1 s0;by_cases hlt:i<ps.length
  ·obtain ⟨b,off,rfl,hb,c0,c1,c2,c3,c4,c5,c6⟩:=HPC.out i hlt;obtain ⟨p,hpe⟩:∃ p,p=ps[i]:=⟨_,rfl⟩;rw [<- hpe] at c0 c1 c2 c3 c4 c5 c6;have HPE:=ab hpe;have hbg:some b≠some g:=fun e=>by have:=Option.some.inj e;omega
   have q0:=L2.out.1.cell (GA.out.cell c0 (by simp)) hbg;have q1:=L2.out.1.cell (GA.out.cell c1 (by simp)) hbg;have q2:=L2.out.1.cell (GA.out.cell c2 (by simp)) hbg;have q3:=L2.out.1.cell (GA.out.cell c3 (by simp)) hbg;have q4:=L2.out.1.cell (GA.out.cell c4 (by simp)) hbg;have q5:=L2.out.1.cell (GA.out.cell c5 (by simp)) hbg;clear c0 c1 c2 c3 c4 c5 c6 hpe;have s0:=CELLS.out wr L2.out;have hszr:w.heap.size+2<=wr.heap.size:=Nat.le_trans HSZ1.out L2.out.1.size;have hgr:g<wr.heap.size:=L1.out.lt;go_upto_region 8 with fail;obtain ⟨w2,hw2⟩:∃ w2,w2=wr.alloc (Obj.cells #[.int .i64 p.kind,.int .i64 p.a,.int .i64 p.b,.int .i64 p.c,.int .i64 p.d,.string p.v] 34):=⟨_,rfl⟩;have G2:Hid (wr.grownBy w2 none):=by rw [hw2];exact ag (ae _ _) _
   have PX2:Hid (∀ wx,aX w2 wx g->wx.cell? ⟨wr.heap.size,1,none⟩=some (.int .i64 p.a)/\wx.cell? ⟨wr.heap.size,2,none⟩=some (.int .i64 p.b)):=by
    intro wx hx;have hx1:=hx.1;rw [hw2] at hx1;have n1:some wr.heap.size≠some g:=fun e=>by have:=Option.some.inj e;omega
    exact ⟨hx1.cell (by go_simp) n1,hx1.cell (by go_simp) n1⟩
   rw [<- hw2];clear hw2 q0 q1 q2 q3 q4 q5 s0;have F2:=ab (L1.out.keep0 G2.out);have R2:=ab (L2.out.gr G2.out);have hni:n+i<n+ps.length+1:=by omega
   have hwn:IntKind.i64.wrap ((n:Int)+(i:Int))=(n:Int)+(i:Int):=IntWalk.i64_in _ ⟨by omega,by omega⟩;have hni1:(0:Int)<=(n:Int)+(i:Int):=by omega
   have hni2:(n:Int)+(i:Int)<(n:Int)+(ps.length:Int)+1:=by omega
   have ng1:g≠w.heap.size:=by omega
   have ng2:g≠w.heap.size+1:=by omega
   have ng3:g≠wr.heap.size:=by omega
   have hz2:eI n ps j i (n+i)=0:=by unfold eI;rw [if_neg (by omega)]
   have HZ2:=ab hz2;clear hz2;have s0:=CELLS.out w2 R2.out;obtain ⟨t1,t2⟩:=PX2.out w2 (aX.refl _ _);by_cases hA:p.a=(j:Int)
   ·have hAb:(p.a==(j:Int))=true:=beq_iff_eq.2 hA;have HA:=ab hA;clear hA;obtain ⟨uoa,ula,uca,voa,vla,vca,r0,r1,r2,r3,rf⟩:=F2.out.at (n+i) hni;rw [HZ2.out] at r0 r3;have X3a:=ab r3;have H1a:=ab (H1.out.kept ((aW.of_gr GA.out).trans R2.out.2));have CXa:Hid (∀ wx,w2.grownBy wx none->(jG wx (w.heap.size)/\dC wx (w.heap.size) (.bool fb) (.slice fo fl fc) (.slice fo2 fl2 fc2)/\lJ wx (w.heap.size+1) (.int .i64 ((n:Nat):Int)) (.slice (some ⟨b,off,none⟩) ps.length cap))/\wx.cell? ⟨wr.heap.size,1,none⟩=some (.int .i64 p.a)/\wx.cell? ⟨wr.heap.size,2,none⟩=some (.int .i64 p.b)):=by
     intro wx hg;exact ⟨CELLS.out wx (R2.out.gr hg),PX2.out wx (aX.of_gr hg)⟩
    have ROWa:Hid (∀ wx,w2.grownBy wx none->aH wx g (n+ps.length+1) (eI n ps j i) L/\kV wx g (n+i) (.bool (rB (0))) (.slice uoa ula uca) (.slice voa vla vca)/\∀ k,wx.frozen? ⟨g,k,none⟩=false):=by
     intro wx hg;have hr:=F2.out.keep0 hg;obtain ⟨_,_,_,_,_,_,_,_,_,_,hf⟩:=hr.at (n+i) hni;exact ⟨hr,(show kV _ _ _ _ _ _ from ⟨r0,r1,r2⟩).k0 hg,hf⟩
    clear r0 r1 r2 r3 rf;have GG:w2.grownBy w2 none:=ae _ _;have s0:=CXa.out w2 GG;obtain ⟨fr,r0,rf⟩:=ROWa.out w2 GG;clear fr rf;go_wp2;refine hd (fun w'=>(jG w' (w.heap.size)/\dC w' (w.heap.size) (.bool fb) (.slice fo fl fc) (.slice fo2 fl2 fc2)/\lJ w' (w.heap.size+1) (.int .i64 ((n:Nat):Int)) (.slice (some ⟨b,off,none⟩) ps.length cap))/\w'.cell? ⟨wr.heap.size,1,none⟩=some (.int .i64 p.a)/\w'.cell? ⟨wr.heap.size,2,none⟩=some (.int .i64 p.b)) (fun hHeld=>?_);refine tk 4 [(0,36,.slice (some ⟨g,0,none⟩) (n+ps.length+1) (n+ps.length+1)),(1,37,.int .i64 ((n:Int)+(i:Int))),(2,38,.pointer (some ⟨w.heap.size,4,none⟩)),(3,39,.func (.func 100) #[] #[]),(4,40,.slice (some ⟨g,0,none⟩) (n+ps.length+1) (n+ps.length+1)),(5,41,.int .i64 ((n:Int)+(i:Int))),(6,42,.pointer (some ⟨g,(n+i)*3,none⟩)),(8,44,.pointer (some ⟨w.heap.size,0,none⟩)),(9,45,Value.agg #[.bool fb,.slice fo fl fc,.slice fo2 fl2 fc2])] ?_;try simp only [pA,pL,vA,vL,q0,q1,q2,q3]
    refine qn 3 7 (fun K hK=>?_);simp only [bR,q4,q5,q6,q7];go_simp
    refine bk hK (fun hHeld=>?_);clear hK K;try simp only [pA,pL,vA,vL,q0,q1,q2,q3]
    refine qn 2 10 (fun K hK=>?_);simp only [bR,q4,q5,q6,q7];go_simp
    go_at_call 100
    refine (mf _ _ (0) 1 L L _ (X3a.out.keep0 (gx GG)) (H1a.out.keep0 (gx GG)) (by omega)).mono ?_;rintro e wam ⟨vm,rfl,pm,gm⟩;have pm:=pm.tight (L':=L) F01.out;obtain ⟨moa,mla,mca,noa,nla,nca,rfl⟩:=pm.shape;have GG:=aa (gx GG) gm;have b0:=CXa.out wam GG;obtain ⟨fr,d0,df⟩:=ROWa.out wam GG;have df0:=df ((n+i)*3);have df1:=df ((n+i)*3+1);have df2:=df ((n+i)*3+2);clear df;go_wp2_with fail;refine bk hK (fun hHeld=>?_);clear hK K;refine tk 1 [(11,47,.pointer (some ⟨g,(n+i)*3,none⟩))] ?_;try simp only [pA,pL,vA,vL,q0,q1,q2,q3]
    refine qn 0 12 (fun K hK=>?_);simp only [bR,q4,q5,q6,q7];go_simp
    refine bk hK (fun hHeld=>?_);clear hK K;try simp only [pA,pL,vA,vL,q0,q1,q2,q3]
    refine wpAnyH_done (by kernel_rfl) ?_ _;have FR:=ab fr;have PM:=ab pm;have GF:=ab GG;clear fr pm GG;obtain ⟨w3,hw3⟩:∃ w3,w3=((wam.setCell ⟨g,(n+i)*3,none⟩ (.bool (rB (0+1)))).setCell ⟨g,(n+i)*3+1,none⟩ (.slice moa mla mca)).setCell ⟨g,(n+i)*3+2,none⟩ (.slice noa nla nca):=⟨_,rfl⟩;obtain ⟨y1,y2,y3⟩:=FR.out.set (n+i) hni PM.out;rw [<- hw3] at y1 y2 y3;rw [<- hw3];have F3:=ab y1;have R3:=ab ((R2.out.gr GF.out).trans ⟨y2,y3⟩);have PX3:Hid (∀ wx,aX w3 wx g->wx.cell? ⟨wr.heap.size,1,none⟩=some (.int .i64 p.a)/\wx.cell? ⟨wr.heap.size,2,none⟩=some (.int .i64 p.b)):=fun wx hx=>PX2.out wx (((aX.of_gr GF.out).trans ⟨y2,y3⟩).trans hx)
    have HZ3:Hid (bg (eI n ps j i) (n+i) (0+1) (n+i)=0+1):=by show _=_;unfold bg;rw [if_pos rfl]
    clear hw3 y1 y2 y3 FR PM b0 d0 df0 df1 df2;have s0:=CELLS.out w3 R3.out;obtain ⟨t1,t2⟩:=PX3.out w3 (aX.refl _ _);by_cases hB:p.b=(j:Int)
    ·have hBb:(p.b==(j:Int))=true:=beq_iff_eq.2 hB;have HB:=ab hB;clear hB;obtain ⟨uob,ulb,ucb,vob,vlb,vcb,r0,r1,r2,r3,rf⟩:=F3.out.at (n+i) hni;rw [HZ3.out] at r0 r3;have X3b:=ab r3;have H1b:=ab (H1.out.kept ((aW.of_gr GA.out).trans R3.out.2));have CXb:Hid (∀ wx,w3.grownBy wx none->(jG wx (w.heap.size)/\dC wx (w.heap.size) (.bool fb) (.slice fo fl fc) (.slice fo2 fl2 fc2)/\lJ wx (w.heap.size+1) (.int .i64 ((n:Nat):Int)) (.slice (some ⟨b,off,none⟩) ps.length cap))/\wx.cell? ⟨wr.heap.size,1,none⟩=some (.int .i64 p.a)/\wx.cell? ⟨wr.heap.size,2,none⟩=some (.int .i64 p.b)):=by
      intro wx hg;exact ⟨CELLS.out wx (R3.out.gr hg),PX3.out wx (aX.of_gr hg)⟩
     have ROWb:Hid (∀ wx,w3.grownBy wx none->aH wx g (n+ps.length+1) (bg (eI n ps j i) (n+i) (0+1)) L/\kV wx g (n+i) (.bool (rB (0+1))) (.slice uob ulb ucb) (.slice vob vlb vcb)/\∀ k,wx.frozen? ⟨g,k,none⟩=false):=by
      intro wx hg;have hr:=F3.out.keep0 hg;obtain ⟨_,_,_,_,_,_,_,_,_,_,hf⟩:=hr.at (n+i) hni;exact ⟨hr,(show kV _ _ _ _ _ _ from ⟨r0,r1,r2⟩).k0 hg,hf⟩
     clear r0 r1 r2 r3 rf;have GG:w3.grownBy w3 none:=ae _ _;have s0:=CXb.out w3 GG;obtain ⟨fr,r0,rf⟩:=ROWb.out w3 GG;clear fr rf;go_wp2;refine hd (fun w'=>(jG w' (w.heap.size)/\dC w' (w.heap.size) (.bool fb) (.slice fo fl fc) (.slice fo2 fl2 fc2)/\lJ w' (w.heap.size+1) (.int .i64 ((n:Nat):Int)) (.slice (some ⟨b,off,none⟩) ps.length cap))/\w'.cell? ⟨wr.heap.size,1,none⟩=some (.int .i64 p.a)/\w'.cell? ⟨wr.heap.size,2,none⟩=some (.int .i64 p.b)) (fun hHeld=>?_);refine tk 4 [(0,52,.slice (some ⟨g,0,none⟩) (n+ps.length+1) (n+ps.length+1)),(1,53,.int .i64 ((n:Int)+(i:Int))),(2,54,.pointer (some ⟨w.heap.size,5,none⟩)),(3,55,.func (.func 81) #[] #[]),(4,56,.slice (some ⟨g,0,none⟩) (n+ps.length+1) (n+ps.length+1)),(5,57,.int .i64 ((n:Int)+(i:Int))),(6,58,.pointer (some ⟨g,(n+i)*3,none⟩)),(8,60,.pointer (some ⟨w.heap.size,0,none⟩)),(9,61,Value.agg #[.bool fb,.slice fo fl fc,.slice fo2 fl2 fc2])] ?_;try simp only [pA,pL,vA,vL,q0,q1,q2,q3]
     refine qn 3 7 (fun K hK=>?_);simp only [bR,q4,q5,q6,q7];go_simp
     refine bk hK (fun hHeld=>?_);clear hK K;try simp only [pA,pL,vA,vL,q0,q1,q2,q3]
     refine qn 2 10 (fun K hK=>?_);simp only [bR,q4,q5,q6,q7];go_simp
     go_at_call 81
     refine (cZ _ _ (0+1) 1 L L _ (X3b.out.keep0 (gx GG)) (H1b.out.keep0 (gx GG)) (by omega)).mono ?_;rintro e wbm ⟨vm,rfl,pm,gm⟩;have pm:=pm.tight (L':=L) F00.out;obtain ⟨mob,mlb,mcb,nob,nlb,ncb,rfl⟩:=pm.shape;have GG:=aa (gx GG) gm;have b0:=CXb.out wbm GG;obtain ⟨fr,d0,df⟩:=ROWb.out wbm GG;have df0:=df ((n+i)*3);have df1:=df ((n+i)*3+1);have df2:=df ((n+i)*3+2);clear df;go_wp2_with fail;refine bk hK (fun hHeld=>?_);clear hK K;refine tk 1 [(11,63,.pointer (some ⟨g,(n+i)*3,none⟩))] ?_;try simp only [pA,pL,vA,vL,q0,q1,q2,q3]
     refine qn 0 12 (fun K hK=>?_);simp only [bR,q4,q5,q6,q7];go_simp
     refine bk hK (fun hHeld=>?_);clear hK K;try simp only [pA,pL,vA,vL,q0,q1,q2,q3]
     refine wpAnyH_done (by kernel_rfl) ?_ _;have FR:=ab fr;have PM:=ab pm;have GF:=ab GG;clear fr pm GG;go_wp2;go_roundw
     case rel =>
      obtain ⟨y1,y2,y3⟩:=FR.out.set (n+i) hni PM.out;refine ⟨i+1,by omega,by go_num,y1.congr (fun x _=>?_),(R3.out.gr GF.out).trans ⟨y2,y3⟩⟩;rw [put_put];rw [<- jn n ps j i hlt x,<- HPE.out,A0 HA.out HB.out]
     case measure=>simp [intOf];omega
    ·have hBb:(p.b==(j:Int))=false:=beq_eq_false_iff_ne.2 hB;have HB:=ab hB;clear hB;go_wp2;go_roundw
     case rel=>exact ⟨i+1,by omega,by go_num,F3.out.congr (fun x _=>by rw [<- jn n ps j i hlt x,<- HPE.out,AZ HA.out HB.out]),R3.out⟩
     case measure=>simp [intOf];omega
   ·have hAb:(p.a==(j:Int))=false:=beq_eq_false_iff_ne.2 hA;have HA:=ab hA;clear hA;by_cases hB:p.b=(j:Int)
    ·have hBb:(p.b==(j:Int))=true:=beq_iff_eq.2 hB;have HB:=ab hB;clear hB;obtain ⟨uoc,ulc,ucc,voc,vlc,vcc,r0,r1,r2,r3,rf⟩:=F2.out.at (n+i) hni;rw [HZ2.out] at r0 r3;have X3c:=ab r3;have H1c:=ab (H1.out.kept ((aW.of_gr GA.out).trans R2.out.2));have CXc:Hid (∀ wx,w2.grownBy wx none->(jG wx (w.heap.size)/\dC wx (w.heap.size) (.bool fb) (.slice fo fl fc) (.slice fo2 fl2 fc2)/\lJ wx (w.heap.size+1) (.int .i64 ((n:Nat):Int)) (.slice (some ⟨b,off,none⟩) ps.length cap))/\wx.cell? ⟨wr.heap.size,1,none⟩=some (.int .i64 p.a)/\wx.cell? ⟨wr.heap.size,2,none⟩=some (.int .i64 p.b)):=by
      intro wx hg;exact ⟨CELLS.out wx (R2.out.gr hg),PX2.out wx (aX.of_gr hg)⟩
     have ROWc:Hid (∀ wx,w2.grownBy wx none->aH wx g (n+ps.length+1) (eI n ps j i) L/\kV wx g (n+i) (.bool (rB (0))) (.slice uoc ulc ucc) (.slice voc vlc vcc)/\∀ k,wx.frozen? ⟨g,k,none⟩=false):=by
      intro wx hg;have hr:=F2.out.keep0 hg;obtain ⟨_,_,_,_,_,_,_,_,_,_,hf⟩:=hr.at (n+i) hni;exact ⟨hr,(show kV _ _ _ _ _ _ from ⟨r0,r1,r2⟩).k0 hg,hf⟩
     clear r0 r1 r2 r3 rf;have GG:w2.grownBy w2 none:=ae _ _;have s0:=CXc.out w2 GG;obtain ⟨fr,r0,rf⟩:=ROWc.out w2 GG;clear fr rf;go_wp2;refine hd (fun w'=>(jG w' (w.heap.size)/\dC w' (w.heap.size) (.bool fb) (.slice fo fl fc) (.slice fo2 fl2 fc2)/\lJ w' (w.heap.size+1) (.int .i64 ((n:Nat):Int)) (.slice (some ⟨b,off,none⟩) ps.length cap))/\w'.cell? ⟨wr.heap.size,1,none⟩=some (.int .i64 p.a)/\w'.cell? ⟨wr.heap.size,2,none⟩=some (.int .i64 p.b)) (fun hHeld=>?_);refine tk 4 [(0,52,.slice (some ⟨g,0,none⟩) (n+ps.length+1) (n+ps.length+1)),(1,53,.int .i64 ((n:Int)+(i:Int))),(2,54,.pointer (some ⟨w.heap.size,5,none⟩)),(3,55,.func (.func 81) #[] #[]),(4,56,.slice (some ⟨g,0,none⟩) (n+ps.length+1) (n+ps.length+1)),(5,57,.int .i64 ((n:Int)+(i:Int))),(6,58,.pointer (some ⟨g,(n+i)*3,none⟩)),(8,60,.pointer (some ⟨w.heap.size,0,none⟩)),(9,61,Value.agg #[.bool fb,.slice fo fl fc,.slice fo2 fl2 fc2])] ?_;try simp only [pA,pL,vA,vL,q0,q1,q2,q3]
     refine qn 3 7 (fun K hK=>?_);simp only [bR,q4,q5,q6,q7];go_simp
     refine bk hK (fun hHeld=>?_);clear hK K;try simp only [pA,pL,vA,vL,q0,q1,q2,q3]
     refine qn 2 10 (fun K hK=>?_);simp only [bR,q4,q5,q6,q7];go_simp
     go_at_call 81
     refine (cZ _ _ (0) 1 L L _ (X3c.out.keep0 (gx GG)) (H1c.out.keep0 (gx GG)) (by omega)).mono ?_;rintro e wcm ⟨vm,rfl,pm,gm⟩;have pm:=pm.tight (L':=L) F0m.out;obtain ⟨moc,mlc,mcc,noc,nlc,ncc,rfl⟩:=pm.shape;have GG:=aa (gx GG) gm;have b0:=CXc.out wcm GG;obtain ⟨fr,d0,df⟩:=ROWc.out wcm GG;have df0:=df ((n+i)*3);have df1:=df ((n+i)*3+1);have df2:=df ((n+i)*3+2);clear df;go_wp2_with fail;refine bk hK (fun hHeld=>?_);clear hK K;refine tk 1 [(11,63,.pointer (some ⟨g,(n+i)*3,none⟩))] ?_;try simp only [pA,pL,vA,vL,q0,q1,q2,q3]
     refine qn 0 12 (fun K hK=>?_);simp only [bR,q4,q5,q6,q7];go_simp
     refine bk hK (fun hHeld=>?_);clear hK K;try simp only [pA,pL,vA,vL,q0,q1,q2,q3]
     refine wpAnyH_done (by kernel_rfl) ?_ _;have FR:=ab fr;have PM:=ab pm;have GF:=ab GG;clear fr pm GG;go_wp2;go_roundw
     case rel =>
      obtain ⟨y1,y2,y3⟩:=FR.out.set (n+i) hni PM.out;refine ⟨i+1,by omega,by go_num,y1.congr (fun x _=>?_),(R2.out.gr GF.out).trans ⟨y2,y3⟩⟩;rw [<- jn n ps j i hlt x,<- HPE.out,AY HA.out HB.out]
     case measure=>simp [intOf];omega
    ·have hBb:(p.b==(j:Int))=false:=beq_eq_false_iff_ne.2 hB;have HB:=ab hB;clear hB;go_wp2;go_roundw
     case rel=>exact ⟨i+1,by omega,by go_num,F2.out.congr (fun x _=>uz n ps j i hlt (by rw [<- HPE.out];exact AW HA.out HB.out) x),R2.out⟩
     case measure=>simp [intOf];omega
  ·obtain rfl:i=ps.length:=by omega
   have s0:=CELLS.out wr L2.out;go_wp2;refine bodyPost_ret (v:=.slice (some ⟨g,0,none⟩) (n+ps.length+1) (n+ps.length+1)) (by simp [results,Tryz.results141,go_sem]) rfl ?_;refine ⟨g,rfl,by omega,L1.out.congr (fun x hx=>?_),aq (r:=none) GA.out L2.out.1 (fun _ _ e=>e) (fun b hb e=>by have:=Option.some.inj e;omega)⟩;unfold eI;by_cases h:x<n+ps.length
   ·rw [if_pos h]
   ·rw [if_neg h];unfold dW;rw [if_neg (by omega),List.getElem?_eq_none (by omega)]
theorem sA (fb:Bool) (fo fo2:Option Addr) (fl fc fl2 fc2:Nat) (n k:Nat) (ao:Option Addr) (cap:Nat) (L:Nat) (w:World) (h1:FQ w (.agg #[.bool fb,.slice fo fl fc,.slice fo2 fl2 fc2]) 1 L) (hn:n<=1000) (hk:k<=1000) :
  Calls Tryz.prog 141 #[(jI fb (.slice fo fl fc) (.slice fo2 fl2 fc2)),.agg #[.int .i64 ((n:Nat):Int),.slice ao k cap],.int .i64 0] w fun e w'=>oJ w (n+k+1) (bg (fun _=>0) 0 1) L e w':=by
 have H1:=ab h1;have HFB:Hid (fb=rB 1):=FV.parts h1;clear h1;obtain ⟨W,hW⟩:∃ W,W=(w.alloc (Obj.cells #[.bool fb,.slice fo fl fc,.slice fo2 fl2 fc2,.func (.func 99) #[] #[],.func (.func 100) #[] #[],.func (.func 81) #[] #[],.func (.func 101) #[] #[],.func (.func 102) #[] #[],.func (.func 103) #[] #[],.func (.func 104) #[] #[],.func (.func 105) #[] #[]] 126)).alloc (Obj.cells #[.int .i64 ((n:Nat):Int),.slice ao k cap] 24):=⟨_,rfl⟩;have GW:Hid (w.grownBy W none):=by rw [hW];exact ag (ag (ae _ _) _) _
 have HWS:Hid (W.heap.size=w.heap.size+2):=by show _=_;rw [hW];simp
 have BASE:Hid (∀ wx,W.grownBy wx none->dC wx (w.heap.size) (.bool fb) (.slice fo fl fc) (.slice fo2 fl2 fc2)/\lJ wx (w.heap.size+1) (.int .i64 ((n:Nat):Int)) (.slice ao k cap)):=by
  intro wx hg;exact ⟨(mN fb fo fo2 fl fc fl2 fc2 (w:=W) (by rw [hW];exact ag (ae _ _) _)).2.k0 hg,lJ.k0 (w:=W) (by rw [hW];exact ⟨by go_simp,by go_simp⟩) hg⟩
 have s0:=BASE.out W (ae _ _);go_enter Tryz.func141,Tryz.ntmps141
 go_upto_region 1 with fail;rw [<- hW];clear hW;go_wp2_with fail;refine (j5 n k ao cap W hn hk).mono ?_;rintro e w1 ⟨g,rfl,hg1,hf1,hgr1⟩;have t0:=BASE.out w1 hgr1;have F1:=ab (hf1.mono (Nat.zero_le L));have G1:=ab (aa GW.out hgr1);obtain ⟨uo,ul,uc,vo,vl,vc,d0,d1,d2,_,df⟩:=hf1.at 0 (by omega);simp only [Nat.zero_mul,Nat.zero_add] at d0 d1 d2;have df0:=df 0;have df1:=df 1;have df2:=df 2;have hk0:(0:Int)<(n:Int)+(k:Int)+1:=by omega
 clear hf1 hgr1 df s0;go_wp2;refine bodyPost_ret (v:=.slice (some ⟨g,0,none⟩) (n+k+1) (n+k+1)) (by simp [results,Tryz.results141,go_sem]) rfl ?_;have hq:=H1.out.keep0 G1.out;rw [HFB.out] at hq;have hs:=F1.out.set 0 (by omega) hq;simp only [Nat.zero_mul,Nat.zero_add] at hs;rw [HFB.out];exact ⟨g,rfl,by have:=HWS.out;omega,hs.1,aq (r:=none) G1.out hs.2.1 (fun _ _ e=>e) (fun b hb e=>by have:=Option.some.inj e;have:=HWS.out;omega)⟩
end Go.Proofs.YthblidglcppakaaGreatDoor
