/- Contracts that the proof leans on. -/
import Derived.Test.YthblidglcppakaaGreatDoorXCSd
import Derived.Test.YthblidglcppakaaGreatDoorXCSc
import Derived.Test.YthblidglcppakaaGreatDoorXSBack
namespace Go.Proofs.YthblidglcppakaaGreatDoor
open Go.RowKit
set_option linter.unusedVariables false
set_option linter.unusedSimpArgs false
set_option maxHeartbeats 8000000
set_option maxRecDepth 10000
theorem cK.of_labs {w:World} {g m:Nat} {l:Nat->Nat} (h:d6 w g (dM m l)):cK w g m l:=by
 refine ⟨_,_,h,fun i hi=>?_⟩;simp [dM,hi]
theorem cK.congr {w:World} {g m:Nat} {o o':Nat->Nat} (h:cK w g m o) (e:∀ i,i<m->o i=o' i):cK w g m o':=by
 obtain ⟨cur,t,hb,hc⟩:=h;exact ⟨cur,t,hb,fun i hi=>by rw [<- e i hi];exact hc i hi⟩
structure rR (W w:World) (br2 bo gl m:Nat) (bs cs:Nat->Nat) (order:List Nat) (R:Nat->Nat->Rat) (d:Rat) (L:Nat):Prop where
 mat:bX w br2 m (m+1) bs cs R L
 ord:cK w bo m (fun i=>order.getD i 0)
 var:aH w gl 1 (fun _=>d) L
 gr:W.grownBy w none
section
variable {W w w':World} {br2 bo gl m:Nat} {bs cs:Nat->Nat} {order:List Nat} {R:Nat->Nat->Rat} {d:Rat} {L:Nat}
theorem rR.keep0 (h:rR W w br2 bo gl m bs cs order R d L) (g:w.grownBy w' none):rR W w' br2 bo gl m bs cs order R d L:=⟨h.mat.keep0 g,h.ord.keep0 g,h.var.keep0 g,aa h.gr g⟩
theorem rR.congr {R':Nat->Nat->Rat} (h:rR W w br2 bo gl m bs cs order R d L) (e:∀ i,i<m->∀ j,j<m+1->R i j=R' i j):rR W w br2 bo gl m bs cs order R' d L:=⟨h.mat.congr e,h.ord,h.var,h.gr⟩
theorem rR.neo (h:rR W w br2 bo gl m bs cs order R d L) (hm:0<m):br2≠bo/\∀ i,i<m->bs i≠bo:=h.mat.ne_int hm (by omega) (h.ord.at 0 hm)
theorem rR.row (h:rR W w br2 bo gl m bs cs order R d L) (hb:∀ i,i<m->W.heap.size<=bs i/\bs i≠gl) {i:Nat} (hi:i<m) {Q:Nat->Rat} (hr:aH w' (bs i) (m+1) Q L) (g:aX w w' (bs i)):rR W w' br2 bo gl m bs cs order (fun j=>if j=i then Q else R j) d L :=
 ⟨h.mat.step hi hr g,h.ord.keep g.1 (fun e=>(h.neo (by omega)).2 i hi (Option.some.inj e).symm),h.var.keep g.1 g.2 (fun e=>(hb i hi).2 (Option.some.inj e).symm),aq (r:=none) h.gr g.1 (fun _ _ e=>e) (fun b h2 e=>by have:=Option.some.inj e;have:=(hb i hi).1;omega)⟩
theorem rR.last {p:Rat} (h:rR W w br2 bo gl m bs cs order R d L) (hb:∀ i,i<m->W.heap.size<=bs i/\bs i≠gl) (h1:W.heap.size<=gl) (h2:br2<gl) (h3:bo<gl) (hr:aH w' gl 1 (fun _=>p) L) (g:aX w w' gl):rR W w' br2 bo gl m bs cs order R p L :=
 ⟨h.mat.keepR g (by omega) (fun i hi=>(hb i hi).2),h.ord.keep g.1 (fun e=>by have:=Option.some.inj e;omega),hr,aq (r:=none) h.gr g.1 (fun _ _ e=>e) (fun b h2 e=>by have:=Option.some.inj e;omega)⟩
end
theorem aH.varset2 {w:World} {b L:Nat} {p q:Rat} (h:aH w b 1 (fun _=>p) L) {uo do_:Option Addr} {ul uc dl dc:Nat} (hq:FQ w (.agg #[.bool (rB q),.slice uo ul uc,.slice do_ dl dc]) q L) :
  aH (((w.setCell ⟨b,0,none⟩ (.bool (rB q))).setCell ⟨b,1,none⟩ (.slice uo ul uc)).setCell ⟨b,2,none⟩ (.slice do_ dl dc)) b 1 (fun _=>q) L
  /\ aX w (((w.setCell ⟨b,0,none⟩ (.bool (rB q))).setCell ⟨b,1,none⟩ (.slice uo ul uc)).setCell ⟨b,2,none⟩ (.slice do_ dl dc)) b:=by
 have:=(h.set 0 (by omega) hq);simp only [Nat.zero_mul,Nat.zero_add] at this;exact ⟨h.varset hq (Nat.le_refl _),this.2⟩
theorem ir (a b:Nat):bT a b a=b:=by
 unfold bT;by_cases e:a=b
 ·rw [if_pos e,e]
 ·rw [if_neg e,if_pos rfl]
def RowsE (w:World) (m:Nat) (R:Nat->Nat->Rat) (L:Nat) (e:Ending) (w':World):Prop :=
 (∃ g X,e=.returned (.tuple #[.slice (some ⟨g,0,none⟩) m m,.int .i64 0])/\w.heap.size<=g/\aH w' g m X L/\w.grownBy w' none/\mD R m X/\∀ z,mD R m z->∀ j,j<m->z j=X j)
 ∨ (e=.returned (.tuple #[.slice none 0 0,.int .i64 7])/\w.grownBy w' none/\¬ ∃ x,mD R m x)
 ∨ (e=.returned (.tuple #[.slice none 0 0,.int .i64 8])/\w.grownBy w' none/\∃ x y:Nat->Rat,mD R m x/\mD R m y/\∃ j,j<m/\x j≠y j)
def OrdR (W:World) (g m:Nat) (v:Value) (wr:World):Prop:=∃ k:Nat,k<=m/\v=.int .i64 k/\d6 wr g (dM m fun x=>if x<k then x else 0)/\W.grownBy wr none
def RowR (W:World) (br2 bo gl m:Nat) (Wm:Nat->Nat->Rat) (b:Nat->Nat) (L:Nat) (v:Value) (wr:World):Prop :=
 ∃ (done:Nat) (bs cs:Nat->Nat) (perm order:List Nat) (R:Nat->Nat->Rat) (d s:Rat),done<=m/\v=.int .i64 done/\St Wm m done perm order R d s/\(∀ t,t<done->∀ j,mF (gE m b) (R t j))
  /\ (∀ i,i<m->W.heap.size<=bs i/\bs i≠gl)/\rR W wr br2 bo gl m bs cs order (R) (d) L
def ElmR (W:World) (br2 bo gl m done:Nat) (bs cs:Nat->Nat) (order:List Nat) (R:Nat->Nat->Rat) (u d:Rat) (L:Nat) (v:Value) (wr:World):Prop :=
 ∃ i:Nat,done+1+i<=m/\v=.int .i64 i/\rR W wr br2 bo gl m bs cs order (fs R (order.getD done 0) done u d i) (d) L
theorem rows_at (fb:Bool) (fo fo2:Option Addr) (fl fc fl2 fc2:Nat) (br m cap:Nat) (bs0 cs0:Nat->Nat) (R0:Nat->Nat->Rat) (L LS:Nat) (b:Nat->Nat) (w:World)
  (hM:bX w br m (m+1) bs0 cs0 R0 L) (h1:FQ w (.agg #[.bool fb,.slice fo fl fc,.slice fo2 fl2 fc2]) 1 L) (hm0:0<m) (hm:m<=900) (hc:m<=cap) (hc2:cap<=maxLen) (hL1:1<=L) (hL:L<=300000000)
  (hfit:∀ i,i<m->∀ k,k<=m+1->∀ j,j<m+1->bM L (cD (R0 i) k j)) (hb:∀ r,1<=b r) (hB:∀ r j,mF (b r) (qj R0 (m+1) r j)) (hMo:gE m b<4294967296^L) (hS:(m+1)*(gE m b*gE m b)<4294967296^LS) (hLS:L+L+1<=LS) (hLS2:LS<=100000000) :
  Calls Tryz.prog 143 #[(jI fb (.slice fo fl fc) (.slice fo2 fl2 fc2)),.slice (some ⟨br,0,none⟩) m cap] w fun e w'=>RowsE w m R0 L e w':=by
 have HM:=ab hM;have H1:=ab h1;have HF:=ab hfit;have HB:=ab hb;have HBB:=ab hB;have HMO:=ab hMo;have HS:=ab hS;have HC2:=ab hc2;clear hM h1 hfit hb hB hMo hS hc2;obtain ⟨W,hW⟩:∃ W,W=w.alloc (Obj.cells #[.bool fb,.slice fo fl fc,.slice fo2 fl2 fc2,.func (.func 99) #[] #[],.func (.func 100) #[] #[],.func (.func 81) #[] #[],.func (.func 101) #[] #[],.func (.func 102) #[] #[],.func (.func 103) #[] #[],.func (.func 104) #[] #[],.func (.func 105) #[] #[]] 126):=⟨_,rfl⟩;have GW:Hid (w.grownBy W none):=by rw [hW];exact ag (ae _ _) _
 have HWS:Hid (W.heap.size=w.heap.size+1):=by show _=_;rw [hW];simp
 have BASE:Hid (∀ wx,W.grownBy wx none->wx.cell? ⟨w.heap.size,0,none⟩=some (.bool fb)/\wx.cell? ⟨w.heap.size,1,none⟩=some (.slice fo fl fc)/\wx.cell? ⟨w.heap.size,2,none⟩=some (.slice fo2 fl2 fc2)/\wx.cell? ⟨w.heap.size,3,none⟩=some (.func (.func 99) #[] #[])/\wx.cell? ⟨w.heap.size,4,none⟩=some (.func (.func 100) #[] #[])/\wx.cell? ⟨w.heap.size,5,none⟩=some (.func (.func 81) #[] #[])/\wx.cell? ⟨w.heap.size,6,none⟩=some (.func (.func 101) #[] #[])/\wx.cell? ⟨w.heap.size,7,none⟩=some (.func (.func 102) #[] #[])/\wx.cell? ⟨w.heap.size,8,none⟩=some (.func (.func 103) #[] #[])/\wx.cell? ⟨w.heap.size,9,none⟩=some (.func (.func 104) #[] #[])/\wx.cell? ⟨w.heap.size,10,none⟩=some (.func (.func 105) #[] #[])):=by
  intro wx hg;rw [hW] at hg;exact ⟨hg.cell (by go_simp) (by simp),hg.cell (by go_simp) (by simp),hg.cell (by go_simp) (by simp),hg.cell (by go_simp) (by simp),hg.cell (by go_simp) (by simp),hg.cell (by go_simp) (by simp),hg.cell (by go_simp) (by simp),hg.cell (by go_simp) (by simp),hg.cell (by go_simp) (by simp),hg.cell (by go_simp) (by simp),hg.cell (by go_simp) (by simp)⟩
 obtain ⟨s0,s1,s2,s3,s4,s5,s6,s7,s8,s9,s10⟩:=BASE.out W (ae _ _);go_enter Tryz.func143,Tryz.ntmps143
 go_upto_region 1 with fail;rw [<- hW];clear hW;go_wp2_with fail;refine (sU fb fo fo2 fl fc fl2 fc2 br m (m+1) cap bs0 cs0 R0 L W (HM.out.keep0 GW.out) (H1.out.keep0 GW.out) hm0 (by omega) (by omega) (by omega) hc HC2.out hL1 (by omega) HF.out).mono ?_;rintro e w1 ⟨br2,cap2,bs1,cs1,rfl,k1,k2,k3,kl,k4,k5⟩;have M1:=ab (k4.congr (R':=qj R0 (m+1)) (fun i hi j hj=>by unfold qj;rw [if_pos hj]));have G1:=ab k5;have HK3:=ab k3;have HKL:=ab kl;have HBR:=ab k1;unfold maxLen at k3;clear k1 kl k4 k5 s0 s1 s2 s3 s4 s5 s6 s7 s8 s9 s10;go_wp2_with (at_make;refine du iv 3 0 8 _ rfl _ _ 31 rfl Tryz.underlying31 Tryz.infoInt rfl _ _ _ _ m rfl rfl (by omega) (by omega) (by omega) (by omega) ?_)
 intro w2 harr hgr;have A2:=ab harr;have G2:=ab hgr;obtain ⟨bo,hbo⟩:∃ bo,bo=w1.heap.size:=⟨_,rfl⟩;rw [<- hbo] at A2 ⊢;have HBO:=ab hbo;have HBOW:Hid (W.heap.size<=bo):=by show _<=_;rw [hbo];exact G1.out.size
 clear harr hgr hbo;go_wp2;go_loopw [20] (fun v wr=>Hid (OrdR w1 bo m v wr)) (fun v _=>m-(intOf v).toNat)
 case atStart =>
  refine ⟨0,by omega,rfl,?_,G2.out⟩;have e:dM m (fun x=>if x<0 then x else 0)=List.replicate m 0:=by
   apply List.ext_getElem
   ·simp [dM]
   ·intro i h1 h2;simp [dM]
  rw [e];exact A2.out
 case round =>
  obtain ⟨k,hk,rfl,l1,l2⟩:=hrel.out;by_cases hlt:k<m
  ·have hfr:=l1.free k;obtain ⟨v0,hco⟩:∃ v,wr.cell? ⟨bo,k,none⟩=some v:=⟨_,l1.cell k (by rw [cN];exact hlt)⟩;have L1:=ab l1;have L2:=ab l2;clear l1 l2 hrel;go_wp2;go_roundw
   case rel =>
    refine ⟨k+1,by omega,by go_num,?_,ai L2.out _ _ (by rw [<- HBO.out];exact Nat.le_refl _)⟩;have:=L1.out.set k ((k:Nat):Int) (.int .i64 (k:Nat)) rfl;rw [pj m _ k k hlt] at this;rw [fD m (fun x=>if x<k+1 then x else 0) (fun x=>if x=k then k else if x<k then x else 0)]
    ·exact this
    ·intro x hx;by_cases e:x=k
     ·subst e;simp
     ·by_cases e2:x<k
      ·rw [if_pos (by omega),if_neg e,if_pos e2]
      ·rw [if_neg (by omega),if_neg e,if_neg e2]
   case measure=>simp [intOf];omega
  ·obtain rfl:m=k:=by omega
   have O3:Hid (cK wr bo m (fun i=>(List.range m).getD i 0)):=(cK.of_labs l1).congr (fun i hi=>by rw [if_pos hi,js m i hi]);have M3:=ab (M1.out.keep0 l2);have G3:=ab (aa G1.out l2);obtain ⟨w3,hw3⟩:∃ w3,w3=wr:=⟨_,rfl⟩;clear l1 l2 hrel A2 G2 M1 G1;obtain ⟨s0,s1,s2,s3,s4,s5,s6,s7,s8,s9,s10⟩:=BASE.out wr G3.out;go_upto_region 9 with fail;obtain ⟨w4,hw4⟩:∃ w4,w4=wr.alloc (Obj.cells #[.bool fb,.slice fo fl fc,.slice fo2 fl2 fc2] 91):=⟨_,rfl⟩;have G34:Hid (wr.grownBy w4 none):=by rw [hw4];exact ag (ae _ _) _
   have HFB:Hid (fb=rB 1):=FV.parts H1.out;have F4:Hid (aH w4 wr.heap.size 1 (fun _=>1) L):=by
    rw [hw4,HFB.out];refine my ?_;rw [<- HFB.out];exact H1.out.keep0 (aa GW.out G3.out)
   obtain ⟨gl,hgl⟩:∃ gl,gl=wr.heap.size:=⟨_,rfl⟩;rw [<- hw4,<- hgl];rw [<- hgl] at F4;have O4:=ab (O3.out.keep0 G34.out);have M4:=ab (M3.out.keep0 G34.out);have G4:=ab (aa G3.out G34.out);have HGL:Hid (W.heap.size<=gl/\br2<gl/\bo<gl/\∀ i,i<m->bs1 i<gl):=by
    rw [hgl];exact ⟨G3.out.size,M3.out.lt,O3.out.lt,fun i hi=>(M3.out.row i hi).lt⟩
   clear hw4 hgl hw3 w3 O3 M3 G3 G34 s0 s1 s2 s3 s4 s5 s6 s7 s8 s9 s10;go_wp2;go_loopw [32] (fun v wr=>Hid (RowR W br2 bo gl m (qj R0 (m+1)) b L v wr)) (fun v _=>m-(intOf v).toNat)
   case atStart=>exact ⟨0,bs1,cs1,_,_,_,1,1,by omega,rfl,vh _ _,fun t ht=>by omega,fun i hi=>⟨HKL.out i hi,fun e=>by have:=HGL.out.2.2.2 i hi;omega⟩,⟨M4.out,O4.out,F4.out,G4.out⟩⟩
   case round =>
    clear M4 O4 F4 G4;obtain ⟨done,bs,cs,perm,order,R,d,s,hdm,rfl,l1,l2,l3,⟨l4,l5,l6,l7⟩⟩:=hrel.out;have S1:=ab l1;have S2:=ab l2;have S3:=ab l3;have M1:=ab l4;have O1:=ab l5;have F1:=ab l6;have G1:=ab l7;clear l1 l2 l3 l4 l5 l6 l7 hrel;obtain ⟨s0,s1,s2,s3,s4,s5,s6,s7,s8,s9,s10⟩:=BASE.out wr G1.out;by_cases hlt:done<m
    ·have HOL:Hid (∀ i,i<m->order.getD i 0<m):=fun i hi=>S1.out.ob _ (dm order i (by rw [S1.out.ol];exact hi))
     go_wp2_with fail;refine (qz fb fo fo2 fl fc fl2 fc2 br2 bo m (m+1) cap2 m done bs cs R (fun i=>order.getD i 0) L wr M1.out O1.out (fun i hi=>by have:=HOL.out i hi;omega) hlt (by omega) (by omega) k2 HK3.out (Nat.le_refl _) (by unfold maxLen;omega) (by omega)).mono ?_;rintro e w5 (⟨a,c,ha1,ha2,hc1,hc3,hne,rfl,m5,o5,p5⟩ | ⟨rfl,hz5,g5⟩)
     ·have key:Hid (∃ (bs' cs':Nat->Nat) (perm' order':List Nat) (R':Nat->Nat->Rat),St (qj R0 (m+1)) m done perm' order' R' d s/\(∀ t,t<done->∀ j,mF (gE m b) (R' t j))/\(∀ i,i<m->W.heap.size<=bs' i/\bs' i≠gl)/\R' done (order'.getD done 0)≠0/\rR W w5 br2 bo gl m bs' cs' order' R' d L):=by
       have ol:=S1.out.ol;refine ⟨_,_,_,_,_,yA S1.out hlt ha1 ha2 hc1 hc3,fun t ht j=>?_,fun i hi=>S3.out _ (fh hlt ha2 hi),?_,⟨m5,o5.congr (fun i hi=>(dq order done c i (by omega) (by omega)).symm),p5.row F1.out (by have:=HGL.out.2.1;omega) (by have:=HGL.out.2.2.1;omega),p5.gr G1.out HBR.out HBOW.out⟩⟩
       ·show mF _ (R (bT done a t) j)
        rw [m8 (Nat.le_refl done) ha1 ht];exact S2.out t ht j
       ·show R (bT done a done) ((gY order done c).getD done 0)≠0
        rw [dq order done c done (by omega) (by omega),ir,ir];exact hne
      have HOL0:=HOL;clear m5 o5 p5 hne S1 S2 S3 M1 O1 F1 G1 HOL HOL0 s0 s1 s2 s3 s4 s5 s6 s7 s8 s9 s10;clear bs cs perm order R;obtain ⟨bs,cs,perm,order,R,t1,t2,t3,t4,t5⟩:=key.out;have S1:=ab t1;have S2:=ab t2;have S3:=ab t3;have HNE:=ab t4;have E5:=ab t5;have hom:order.getD done 0<m:=t1.ob _ (dm order done (by rw [t1.ol];exact hlt));obtain ⟨lo,ll,lc,lo2,ll2,lc2,c0,c1,c2,c3,_⟩:=t5.var.var;have D3:=ab c3;obtain ⟨u,hu⟩:∃ u,u=sT (R done (order.getD done 0)+d):=⟨_,rfl⟩;have HU:=ab hu;have HSG:Hid (u=1∨u = -1):=by rw [hu];exact turn_sg _
      have rd:=(t5.mat.cell done hlt).1;have od:=t5.ord.at done hlt;obtain ⟨hcc1,hcc2⟩:=t5.mat.cap done hlt;have HCC2:=ab hcc2;unfold maxLen at hcc2;have NEB:Hid (bs done≠w.heap.size/\bs done≠br2/\bs done≠bo/\bs done≠gl):=⟨by have:=(t3 done hlt).1;have:=HWS.out;omega,t5.mat.off done hlt,(t5.neo hm0).2 done hlt,(t3 done hlt).2⟩;have CX:Hid (∀ wx,w5.grownBy wx (some (bs done))->wx.cell? ⟨w.heap.size,0,none⟩=some (.bool fb)/\wx.cell? ⟨w.heap.size,1,none⟩=some (.slice fo fl fc)/\wx.cell? ⟨w.heap.size,2,none⟩=some (.slice fo2 fl2 fc2)/\wx.cell? ⟨w.heap.size,3,none⟩=some (.func (.func 99) #[] #[])/\wx.cell? ⟨w.heap.size,4,none⟩=some (.func (.func 100) #[] #[])/\wx.cell? ⟨w.heap.size,5,none⟩=some (.func (.func 81) #[] #[])/\wx.cell? ⟨w.heap.size,6,none⟩=some (.func (.func 101) #[] #[])/\wx.cell? ⟨w.heap.size,7,none⟩=some (.func (.func 102) #[] #[])/\wx.cell? ⟨w.heap.size,8,none⟩=some (.func (.func 103) #[] #[])/\wx.cell? ⟨w.heap.size,9,none⟩=some (.func (.func 104) #[] #[])/\wx.cell? ⟨w.heap.size,10,none⟩=some (.func (.func 105) #[] #[])/\wx.cell? ⟨br2,done,none⟩=some (.slice (some ⟨bs (done),0,none⟩) (m+1) (cs (done)))/\wx.cell? ⟨bo,done,none⟩=some (.int .i64 ((order.getD done 0:Nat):Int))/\wx.cell? ⟨gl,0,none⟩=some (.bool (rB d))/\wx.cell? ⟨gl,1,none⟩=some (.slice lo ll lc)/\wx.cell? ⟨gl,2,none⟩=some (.slice lo2 ll2 lc2)):=by
       intro wx hg;have n1:some w.heap.size≠some (bs done):=fun e=>NEB.out.1 (Option.some.inj e).symm
       have n2:some br2≠some (bs done):=fun e=>NEB.out.2.1 (Option.some.inj e).symm
       have n3:some bo≠some (bs done):=fun e=>NEB.out.2.2.1 (Option.some.inj e).symm
       have n4:some gl≠some (bs done):=fun e=>NEB.out.2.2.2 (Option.some.inj e).symm
       obtain ⟨b0,b1,b2,b3,b4,b5,b6,b7,b8,b9,b10⟩:=BASE.out w5 E5.out.gr;exact ⟨hg.cell b0 n1,hg.cell b1 n1,hg.cell b2 n1,hg.cell b3 n1,hg.cell b4 n1,hg.cell b5 n1,hg.cell b6 n1,hg.cell b7 n1,hg.cell b8 n1,hg.cell b9 n1,hg.cell b10 n1,hg.cell rd n2,hg.cell od n3,hg.cell c0 n4,hg.cell c1 n4,hg.cell c2 n4⟩
      clear t1 t2 t3 t4 t5 key c0 c1 c2 c3 rd od hu;have GG:w5.grownBy w5 none:=ae _ _;obtain ⟨s0,s1,s2,s3,s4,s5,s6,s7,s8,s9,s10,s11,s12,s13,s14,s15⟩:=CX.out w5 (ae _ _);have hom1:order.getD done 0<m+1:=by omega
      have hd1:(0:Int)<=(done:Int):=by omega
      have hd2:(done:Int)<(m:Int):=by omega
      obtain ⟨kk,hkk⟩:∃ kk,kk=order.getD done 0:=⟨_,rfl⟩;go_wp2_with fail;go_cut [56] (fun s56 wx=>Hid (rR W wx br2 bo gl m bs cs order (fs R (order.getD done 0) done u d 0) d L))
      case first =>
       go_region_held3 (fun w'=>w'.cell? ⟨w.heap.size,0,none⟩=some (.bool fb)/\w'.cell? ⟨w.heap.size,1,none⟩=some (.slice fo fl fc)/\w'.cell? ⟨w.heap.size,2,none⟩=some (.slice fo2 fl2 fc2)/\w'.cell? ⟨w.heap.size,3,none⟩=some (.func (.func 99) #[] #[])/\w'.cell? ⟨w.heap.size,4,none⟩=some (.func (.func 100) #[] #[])/\w'.cell? ⟨w.heap.size,5,none⟩=some (.func (.func 81) #[] #[])/\w'.cell? ⟨w.heap.size,6,none⟩=some (.func (.func 101) #[] #[])/\w'.cell? ⟨w.heap.size,7,none⟩=some (.func (.func 102) #[] #[])/\w'.cell? ⟨w.heap.size,8,none⟩=some (.func (.func 103) #[] #[])/\w'.cell? ⟨w.heap.size,9,none⟩=some (.func (.func 104) #[] #[])/\w'.cell? ⟨w.heap.size,10,none⟩=some (.func (.func 105) #[] #[])/\w'.cell? ⟨br2,done,none⟩=some (.slice (some ⟨bs (done),0,none⟩) (m+1) (cs (done)))/\w'.cell? ⟨bo,done,none⟩=some (.int .i64 ((order.getD done 0:Nat):Int))/\w'.cell? ⟨gl,0,none⟩=some (.bool (rB d))/\w'.cell? ⟨gl,1,none⟩=some (.slice lo ll lc)/\w'.cell? ⟨gl,2,none⟩=some (.slice lo2 ll2 lc2)) (go_keep)
        (first | (go_at_call 176;refine (uf fb fo fo2 fl fc fl2 fc2 (bs done) (m+1) (cs done) (order.getD done 0) (R done) d _ L _ ((E5.out.mat.row done hlt).keep0 (by first | exact aa GG (aj _) | exact aa GG ah | exact GG)) (D3.out.keep0 (by first | exact aa GG (aj _) | exact aa GG ah | exact GG)) (H1.out.keep0 (aa (aa GW.out E5.out.gr) (by first | exact aa GG (aj _) | exact aa GG ah | exact GG))) hom1 hcc1 HCC2.out hL1 (by omega)).mono ?_;rintro e wa ⟨rfl,fa,ra⟩;rw [<- HU.out] at fa;have KS:=ab (((E5.out.keep0 (by first | exact aa GG (aj _) | exact aa GG ah | exact GG)).row S3.out hlt fa ra).congr (fun t ht j hj=>wH R (order.getD done 0) done u d t j));obtain ⟨a0,a1,a2,a3,a4,a5,a6,a7,a8,a9,a10,a11,a12,a13,a14,a15⟩:=CX.out wa ((aX.of_gr (b:=bs done) (by first | exact aa GG (aj _) | exact aa GG ah | exact GG)).trans ra).1;clear fa ra GG))
       all_goals (go_wp2_with fail;go_meet;exact KS.out.keep0 (by first | exact ae _ _ | exact ah | exact aj _))
      case rest =>
       have K1:=ab hcut.out;clear hcut s0 s1 s2 s3 s4 s5 s6 s7 s8 s9 s10 s11 s12 s13 s14 s15 GG CX D3 hkk kk;have hwt:IntKind.i64.wrap ((done:Int)+1)=(done:Int)+1:=IntWalk.i64_in _ ⟨by omega,by omega⟩;have ht0:(0:Int)<=(done:Int)+1:=by omega
       have ht1:(done:Int)+1<=(cap2:Int):=by omega
       have ht2:(done:Int)+1<=(m:Int):=by omega
       go_upto_region 15 with fail;go_cut [60,61,62] (fun s60 s61 s62 wx=>Hid (∃ off c,s60=.slice (some ⟨br2,off,none⟩) (m-(done+1)) c/\m-(done+1)<=c/\c<=9223372036854775807/\(done+1<m->off=done+1)/\s61=.int .i64 ((m-(done+1):Nat):Int)/\s62=.int .i64 0/\rR W wx br2 bo gl m bs cs order (fs R (order.getD done 0) done u d 0) d L))
       case first =>
        by_cases hct:cap2=done+1
        ·have hcT:(cap2=done+1)=True:=eq_true hct;have HCT:=ab hct;clear hct;go_wp2
         all_goals (go_meet;exact ⟨_,_,rfl,by have:=HCT.out;omega,by omega,fun h=>absurd h (by have:=HCT.out;omega),rfl,rfl,K1.out⟩)
        ·have hcF:(cap2=done+1)=False:=eq_false hct;clear hct;go_wp2
         all_goals (go_meet;exact ⟨_,_,rfl,by omega,by omega,fun _=>rfl,rfl,rfl,K1.out⟩)
       case rest =>
        obtain ⟨off,c,rfl,hoc,hoc2,hoff,rfl,rfl,e3⟩:=hcut.out;have K2:=ab e3;clear hcut e3 K1 hwt ht0 ht1 ht2;go_wp2;go_loopw [62] (fun v wx=>Hid (ElmR W br2 bo gl m done bs cs order R u d L v wx)) (fun v _=>m-(intOf v).toNat)
        case atStart=>exact ⟨0,by omega,rfl,K2.out⟩
        case round =>
         obtain ⟨i,hi,rfl,e4⟩:=hrel.out;have K3:=ab e4;obtain ⟨lo,ll,lc,lo2,ll2,lc2,c0,c1,c2,c3,cf⟩:=e4.var.var;have D3:=ab c3;have rd:=(e4.mat.cell done hlt).1;have od:=e4.ord.at done hlt;by_cases hit:done+1+i<m
         ·obtain rfl:off=done+1:=hoff (by omega);have ri:=(e4.mat.cell (done+1+i) hit).1;obtain ⟨hci1,hci2⟩:=e4.mat.cap (done+1+i) hit;have HCI2:=ab hci2;unfold maxLen at hci2;have NEB:Hid (bs (done+1+i)≠w.heap.size/\bs (done+1+i)≠br2/\bs (done+1+i)≠bo/\bs (done+1+i)≠gl):=⟨by have:=(S3.out _ hit).1;have:=HWS.out;omega,e4.mat.off _ hit,(e4.neo hm0).2 _ hit,(S3.out _ hit).2⟩;have CX:Hid (∀ wx,wr.grownBy wx (some (bs (done+1+i)))->wx.cell? ⟨w.heap.size,0,none⟩=some (.bool fb)/\wx.cell? ⟨w.heap.size,1,none⟩=some (.slice fo fl fc)/\wx.cell? ⟨w.heap.size,2,none⟩=some (.slice fo2 fl2 fc2)/\wx.cell? ⟨w.heap.size,3,none⟩=some (.func (.func 99) #[] #[])/\wx.cell? ⟨w.heap.size,4,none⟩=some (.func (.func 100) #[] #[])/\wx.cell? ⟨w.heap.size,5,none⟩=some (.func (.func 81) #[] #[])/\wx.cell? ⟨w.heap.size,6,none⟩=some (.func (.func 101) #[] #[])/\wx.cell? ⟨w.heap.size,7,none⟩=some (.func (.func 102) #[] #[])/\wx.cell? ⟨w.heap.size,8,none⟩=some (.func (.func 103) #[] #[])/\wx.cell? ⟨w.heap.size,9,none⟩=some (.func (.func 104) #[] #[])/\wx.cell? ⟨w.heap.size,10,none⟩=some (.func (.func 105) #[] #[])/\wx.cell? ⟨br2,done,none⟩=some (.slice (some ⟨bs (done),0,none⟩) (m+1) (cs (done)))/\wx.cell? ⟨bo,done,none⟩=some (.int .i64 ((order.getD done 0:Nat):Int))/\wx.cell? ⟨gl,0,none⟩=some (.bool (rB d))/\wx.cell? ⟨gl,1,none⟩=some (.slice lo ll lc)/\wx.cell? ⟨gl,2,none⟩=some (.slice lo2 ll2 lc2)):=by
           intro wx hg;have n1:some w.heap.size≠some (bs (done+1+i)):=fun e=>NEB.out.1 (Option.some.inj e).symm
           have n2:some br2≠some (bs (done+1+i)):=fun e=>NEB.out.2.1 (Option.some.inj e).symm
           have n3:some bo≠some (bs (done+1+i)):=fun e=>NEB.out.2.2.1 (Option.some.inj e).symm
           have n4:some gl≠some (bs (done+1+i)):=fun e=>NEB.out.2.2.2 (Option.some.inj e).symm
           obtain ⟨b0,b1,b2,b3,b4,b5,b6,b7,b8,b9,b10⟩:=BASE.out wr K3.out.gr;exact ⟨hg.cell b0 n1,hg.cell b1 n1,hg.cell b2 n1,hg.cell b3 n1,hg.cell b4 n1,hg.cell b5 n1,hg.cell b6 n1,hg.cell b7 n1,hg.cell b8 n1,hg.cell b9 n1,hg.cell b10 n1,hg.cell rd n2,hg.cell od n3,hg.cell c0 n4,hg.cell c1 n4,hg.cell c2 n4⟩
          clear e4 c0 c1 c2 c3 cf rd od hrel K2;have GG:wr.grownBy wr none:=ae _ _;obtain ⟨s0,s1,s2,s3,s4,s5,s6,s7,s8,s9,s10,s11,s12,s13,s14,s15⟩:=CX.out wr (ae _ _);have hil:i<m-(done+1):=by omega
          have HRT:Hid (aH wr (bs (done+1+i)) (m+1) (R (done+1+i)) L):=by have h:=K3.out.mat.row _ hit;rw [wF] at h;exact h
          have HRD:Hid (aH wr (bs done) (m+1) (fun j=>u*R done j) L):=(K3.out.mat.row done hlt).congr (fun j _=>gI _ _ _ _ _ _ _);have HNB:Hid (bs (done+1+i)≠bs done):=fun e=>by have:=K3.out.mat.inj _ _ hit hlt e;omega
          go_wp2_with fail;go_region_held3 (fun w'=>w'.cell? ⟨w.heap.size,0,none⟩=some (.bool fb)/\w'.cell? ⟨w.heap.size,1,none⟩=some (.slice fo fl fc)/\w'.cell? ⟨w.heap.size,2,none⟩=some (.slice fo2 fl2 fc2)/\w'.cell? ⟨w.heap.size,3,none⟩=some (.func (.func 99) #[] #[])/\w'.cell? ⟨w.heap.size,4,none⟩=some (.func (.func 100) #[] #[])/\w'.cell? ⟨w.heap.size,5,none⟩=some (.func (.func 81) #[] #[])/\w'.cell? ⟨w.heap.size,6,none⟩=some (.func (.func 101) #[] #[])/\w'.cell? ⟨w.heap.size,7,none⟩=some (.func (.func 102) #[] #[])/\w'.cell? ⟨w.heap.size,8,none⟩=some (.func (.func 103) #[] #[])/\w'.cell? ⟨w.heap.size,9,none⟩=some (.func (.func 104) #[] #[])/\w'.cell? ⟨w.heap.size,10,none⟩=some (.func (.func 105) #[] #[])/\w'.cell? ⟨br2,done,none⟩=some (.slice (some ⟨bs (done),0,none⟩) (m+1) (cs (done)))/\w'.cell? ⟨bo,done,none⟩=some (.int .i64 ((order.getD done 0:Nat):Int))/\w'.cell? ⟨gl,0,none⟩=some (.bool (rB d))/\w'.cell? ⟨gl,1,none⟩=some (.slice lo ll lc)/\w'.cell? ⟨gl,2,none⟩=some (.slice lo2 ll2 lc2)) (go_keep)
           (first | (go_at_call 177;refine (xA fb fo fo2 fl fc fl2 fc2 (bs (done+1+i)) (bs done) (m+1) (cs (done+1+i)) (cs done) (order.getD done 0) (R (done+1+i)) (fun j=>u*R done j) d _ L _ (HRT.out.keep0 (by first | exact aa GG (aj _) | exact aa GG ah | exact GG)) (HRD.out.keep0 (by first | exact aa GG (aj _) | exact aa GG ah | exact GG)) HNB.out (D3.out.keep0 (by first | exact aa GG (aj _) | exact aa GG ah | exact GG)) hom1 hci1 HCI2.out hcc1 HCC2.out hL1 (by omega) S1.out.dn (fun j _=>Bs S1.out hlt HSG.out HNE.out HB.out HBB.out hL1 HMO.out _ (by omega) hit j)).mono ?_;rintro e wa ⟨rfl,fa,ra⟩;have KS:=ab (((K3.out.keep0 (by first | exact aa GG (aj _) | exact aa GG ah | exact GG)).row S3.out hit fa ra).congr (fun t ht j hj=>wG R (order.getD done 0) done u d i t j));obtain ⟨a0,a1,a2,a3,a4,a5,a6,a7,a8,a9,a10,a11,a12,a13,a14,a15⟩:=CX.out wa ((aX.of_gr (b:=bs (done+1+i)) (by first | exact aa GG (aj _) | exact aa GG ah | exact GG)).trans ra).1;clear fa ra GG))
          all_goals
           go_wp2;go_roundw
           case rel=>exact ⟨i+1,by omega,by go_num,KS.out.keep0 (by first | exact ae _ _ | exact ah | exact aj _)⟩
           case measure=>simp [intOf];omega
         ·obtain rfl:i=m-(done+1):=by omega
          obtain ⟨p,hp⟩:∃ p,p=u*R done (order.getD done 0):=⟨_,rfl⟩;obtain ⟨po,pl,pc,po2,pl2,pc2,e0,e1,e2,e3,_⟩:=(e4.mat.row done hlt).at (order.getD done 0) hom1;rw [gI,<- hp] at e0 e3;have P3:=ab e3;have HP:=ab hp;have cf0:=cf 0;have cf1:=cf 1;have cf2:=cf 2;clear e4 e3 hp hrel K2 c3 cf;have hd1:(0:Int)<=((order.getD done 0:Nat):Int):=by omega
          have hd2:((order.getD done 0:Nat):Int)<(m:Int)+1:=by omega
          obtain ⟨kk,hkk⟩:∃ kk,kk=order.getD done 0:=⟨_,rfl⟩;rw [<- hkk] at od e0 e1 e2 hd1 hd2;clear hkk;go_wp2;have V:=ab (K3.out.var.varset2 P3.out);have K4:=ab (K3.out.last S3.out HGL.out.1 HGL.out.2.1 HGL.out.2.2.1 V.out.1 V.out.2);go_region
          all_goals
           go_wp2;go_roundw
           case rel =>
            refine ⟨done+1,bs,cs,perm,order,_,p,u*s,by omega,by go_num,?_,fun t ht j=>elim_wh S1.out hlt HSG.out HB.out HBB.out S2.out _ _ t ht j,S3.out,K4.out.keep0 (by first | exact ah | exact ae _ _ | exact aj _)⟩;rw [HP.out];exact mM S1.out hlt HSG.out HNE.out
           case measure=>simp [intOf];omega
     ·have M5:=ab (M1.out.keep0 g5);have G5:=ab (aa G1.out g5);have HZ5:=ab hz5;clear g5 hz5 s0 s1 s2 s3 s4 s5 s6 s7 s8 s9 s10;obtain ⟨s0,s1,s2,s3,s4,s5,s6,s7,s8,s9,s10⟩:=BASE.out w5 G5.out;have hd1:(0:Int)<=(done:Int):=by omega
      have hd2:(done:Int)<=(cap2:Int):=by omega
      have hd3:(done:Int)<=(m:Int):=by omega
      have hcF:(cap2=done)=False:=eq_false (by omega);have GG:w5.grownBy w5 none:=ae _ _;go_wp2_with fail;go_region_held3 (fun w'=>w'.cell? ⟨w.heap.size,0,none⟩=some (.bool fb)/\w'.cell? ⟨w.heap.size,1,none⟩=some (.slice fo fl fc)/\w'.cell? ⟨w.heap.size,2,none⟩=some (.slice fo2 fl2 fc2)/\w'.cell? ⟨w.heap.size,3,none⟩=some (.func (.func 99) #[] #[])/\w'.cell? ⟨w.heap.size,4,none⟩=some (.func (.func 100) #[] #[])/\w'.cell? ⟨w.heap.size,5,none⟩=some (.func (.func 81) #[] #[])/\w'.cell? ⟨w.heap.size,6,none⟩=some (.func (.func 101) #[] #[])/\w'.cell? ⟨w.heap.size,7,none⟩=some (.func (.func 102) #[] #[])/\w'.cell? ⟨w.heap.size,8,none⟩=some (.func (.func 103) #[] #[])/\w'.cell? ⟨w.heap.size,9,none⟩=some (.func (.func 104) #[] #[])/\w'.cell? ⟨w.heap.size,10,none⟩=some (.func (.func 105) #[] #[])) (go_keep)
       (first | (go_at_call 175;refine (C6 fb fo fo2 fl fc fl2 fc2 br2 m cap2 done bs cs R L _ (M5.out.keep0 (by first | exact aa GG (aj _) | exact aa GG ah | exact GG)) (by omega) (by omega) k2 HK3.out).mono ?_;rintro e wa ⟨ca,rfl,hca,ga⟩;have HCA:=ab hca;clear hca;have GG:w5.grownBy wa none:=aa (by first | exact aa GG (aj _) | exact aa GG ah | exact GG) ga;obtain ⟨a0,a1,a2,a3,a4,a5,a6,a7,a8,a9,a10⟩:=BASE.out wa (aa G5.out GG)))
      all_goals
       go_wp2;go_ret2
       rcases HCA.out with ⟨e7,i,hi1,hi2,hn⟩ | ⟨e8,hn⟩
       ·refine .inr (.inl ⟨by rw [e7];rfl,aa (aa GW.out G5.out) (by first | exact aa GG (aj _) | exact aa GG ah | exact GG),?_⟩);rintro ⟨x,hx⟩;exact st_none S1.out HZ5.out hi1 hi2 hn ⟨x,(mn R0 m x).2 hx⟩
       ·refine .inr (.inr ⟨by rw [e8];rfl,aa (aa GW.out G5.out) (by first | exact aa GG (aj _) | exact aa GG ah | exact GG),?_⟩);obtain ⟨x,y,hx,hy,hxy⟩:=st_many S1.out hlt HZ5.out hn;exact ⟨x,y,(mn R0 m x).1 hx,(mn R0 m y).1 hy,hxy⟩
    ·obtain rfl:done=m:=by omega
     obtain ⟨lo,ll,lc,lo2,ll2,lc2,c0,c1,c2,c3,_⟩:=F1.out.var;obtain ⟨X,ip,hX1,hX2,hX3,hX4⟩:=back_of S1.out hm0 HB.out HBB.out S2.out L LS hL1 HMO.out (by omega) HS.out;have D3:=ab c3;clear c3;go_wp2_with fail;refine (zB fb fo fo2 fl fc fl2 fc2 br2 bo done cap2 done bs cs R (fun i=>order.getD i 0) ip (fun j=>d*X j) d _ L LS wr M1.out O1.out D3.out hX3 S1.out.dn (by omega) k2 HK3.out (Nat.le_refl _) (by unfold maxLen;omega) hL1 hL hLS hLS2).mono ?_;rintro e w5 ⟨g,rfl,q1,q2,q3⟩;have Q2:=ab q2;have Q3:=ab q3;have HX1:=ab hX1;have HX2:=ab hX2;have HX4:=ab hX4;clear q2 q3 hX1 hX2 hX3 hX4 s0 s1 s2 s3 s4 s5 s6 s7 s8 s9 s10 c0 c1 c2;go_wp2;go_ret2
     refine .inl ⟨g,X,rfl,?_,Q2.out.congr (fun j _=>HX4.out j),aa (aa GW.out G1.out) Q3.out,(mn R0 done X).1 HX1.out,fun z hz j hj=>HX2.out z ((mn R0 done z).2 hz) j hj⟩;have:=(aa GW.out G1.out).size;omega
end Go.Proofs.YthblidglcppakaaGreatDoor
