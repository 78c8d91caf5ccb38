/- Contracts that the proof leans on. -/
import Derived.Test.YthblidglcppakaaGreatDoorXCT
import Derived.Test.YthblidglcppakaaGreatDoorXRChkW
import Derived.Test.YthblidglcppakaaGreatDoorXCNz
import Derived.Test.YthblidglcppakaaGreatDoorXCBg
namespace Go.Proofs.YthblidglcppakaaGreatDoor
open Go.RowKit
set_option linter.unusedVariables false
set_option linter.unusedSimpArgs false
set_option maxHeartbeats 8000000
set_option maxRecDepth 10000
attribute [local simp] lJ
theorem eP.apart {w:World} {base base':Nat} {v u:Value} {ps:List aI} {xs:List Nat} (h:eP w base v ps) (k:cL (fun x:Nat=>iv x) 3 w base' u xs):v.ownBlock=none∨v.ownBlock≠u.ownBlock:=by
 rcases h.2 with ⟨e,_⟩ | ⟨g,cap,cur,e,_,hh,_⟩
 ·left
  rw [e];rfl
 ·right
  rcases k.2 with ⟨e2,_⟩ | ⟨g2,cap2,cur2,e2,_,hh2,_⟩
  ·rw [e,e2];simp [Value.ownBlock]
  ·rw [e,e2];intro e3;have e4:g=g2:=by simpa [Value.ownBlock] using e3
   subst e4;rw [hh] at hh2;simp at hh2
theorem ordX_le {p q:Rat} (h:p<=q):sB p q<=0:=by
 rw [Rat.le_iff] at h;unfold sB;split
 ·rename_i e;have hd:=q.den_pos;rw [e] at h;have h2:p.num<=q.num:=Int.le_of_mul_le_mul_right h (by omega);unfold gj;by_cases h3:p.num<q.num
  ·rw [if_pos h3];decide
  ·rw [if_neg h3,if_pos (by omega)];decide
 ·unfold gj;by_cases h3:p.num*(q.den:Int)<q.num*(p.den:Int)
  ·rw [if_pos h3];decide
  ·rw [if_neg h3,if_pos (by omega)];decide
theorem Cn (ps:List aI) (h:cS ps<=1100000):∀ n,cm n ps->gw (dI n ps) (n+ps.length)<2300000:=by
 intro n hR;have:=pY n ps;have:=hR.hi;have:=hR.len;omega
theorem rM {ps:List aI} {p:aI} (h:p∈ps):p.v.size<=cS ps:=by
 unfold cS;induction ps with
 | nil=>cases h
 | cons q r ih =>
  rw [List.map_cons,List.sum_cons];rcases List.mem_cons.1 h with e | e
  ·rw [e];omega
  ·have:=ih e;omega
theorem De {w:World} {ao:Option Addr} {n cc:Nat} {P:Nat->Rat} (h:ee sv w (.slice ao n cc) (cG P n)):∀ j,j<n->∃ g off,ao=some ⟨g,off,none⟩/\w.cell? ⟨g,off+j,none⟩=some (.string ⟨(cP (P j)).toArray⟩):=by
 intro j hj;obtain ⟨ao_,cap_,ep,h1,h2,h3⟩:=h;simp only [Value.slice.injEq] at ep;obtain ⟨rfl,_,rfl⟩:=ep;obtain ⟨g,off,e,_,c⟩:=h3 j (by rw [dt];exact hj);exact ⟨g,off,e,by rw [c];simp [cG,sv]⟩
theorem ints_at {w:World} {ao:Option Addr} {cc:Nat} {xs:List Nat} (h:ee (fun x:Nat=>iv x) w (.slice ao xs.length cc) xs):∀ j (hj:j<xs.length),∃ g off,ao=some ⟨g,off,none⟩/\w.cell? ⟨g,off+j,none⟩=some (.int .i64 ((xs[j]:Nat):Int)):=by
 intro j hj;obtain ⟨ao_,cap_,ep,h1,h2,h3⟩:=h;simp only [Value.slice.injEq] at ep;obtain ⟨rfl,_,rfl⟩:=ep;obtain ⟨g,off,e,_,c⟩:=h3 j hj;exact ⟨g,off,e,c⟩
theorem zO (m:Nat) (T:List Nat) (css:List (List Int)) (i:Nat):(bK m T css i).length<=i:=by
 unfold bK;rw [List.length_map];exact Nat.le_trans (List.length_filter_le _ _) (by simp)
def LtR (W:World) (bx bz r:Nat) (P Q:Nat->Rat) (v:Value) (wr:World):Prop :=
 ∃ k:Nat,k<=r/\v=.int .i64 k/\RV wr bx (bC P k) (2+k*113500600)/\RV wr bz (bC Q k) (2+k*113500600)/\nT wr bx/\nT wr bz/\W.grownBy wr none
def LfR (W:World) (n:Nat) (F:Nat->Rat) (v u:Value) (wr:World):Prop :=
 ∃ j b:Nat,j<=n/\u=.int .i64 j/\v=.pointer (some ⟨b,0,none⟩)/\RV wr b (F j) (2300000+j*3300017)/\W.grownBy wr none
def LsR (W:World) (gm:Nat) (n:Int) (ps:List aI) (s6 s33:Value) (wr:World):Prop :=
 ∃ (i:Nat) (v:Value),i<=ps.length/\s33=.int .i64 i/\kQ wr gm (.int .i64 n) v/\eP wr (gm+1) v (cA ps i)/\cL (fun x:Nat=>iv x) 3 wr (gm+1) s6 (dO ps i)/\(∀ j (h:j<ps.length),j<i->ps[j].kind=1∨ps[j].kind=5)/\W.grownBy wr none
theorem zH (nodes:Int) (po:Option Addr) (pc:Nat) (ps:List aI) (vo_:Option Addr) (vc_:Nat) (vs:List ByteArray) (w:World) (hb:ia w) (ht:eY w) (hp:aK w (.slice po ps.length pc) ps)
  (hv:ee sv w (.slice vo_ vs.length vc_) vs) (hsz:cS ps<=1100000) (hsv:∀ v∈vs,v.size<=1100000) :
  Calls Tryz.prog 3 #[.agg #[.int .i64 nodes,.slice po ps.length pc],.slice vo_ vs.length vc_] w fun e w'=>e=.returned (.bool true)/\w.grownBy w' none:=by
 have HB:=ab hb;have HT:=ab ht;have HP:=ab hp;have HV:=ab hv;have HSV:=ab hsv;have HSZ:=ab hsz;clear hb ht hp hv hsv hsz;obtain ⟨W,hW⟩:∃ W,W=w.alloc (Obj.cells #[.int .i64 nodes,.slice po ps.length pc] 24):=⟨_,rfl⟩;obtain ⟨gn,hgn⟩:∃ gn,gn=w.heap.size:=⟨_,rfl⟩;have GW:Hid (w.grownBy W none):=by rw [hW];exact ag (ae _ _) _
 have NC:Hid (∀ wx,W.grownBy wx none->lJ wx gn (.int .i64 nodes) (.slice po ps.length pc)):=by
  intro wx hg;rw [hW] at hg;rw [hgn];exact ⟨hg.cell (by go_simp) (by simp),hg.cell (by go_simp) (by simp)⟩
 go_enter Tryz.func3,Tryz.ntmps3
 go_wp2_with fail;rw [<- hW,<- hgn];clear hW hgn;refine (wD W (HB.out.keep GW.out) (HT.out.keep0 GW.out)).mono ?_;rintro e w1 ⟨rfl,g1⟩;have n0:=NC.out w1 g1;have G1:=ab g1;clear g1;obtain ⟨ml,hml⟩:=HB.out.2.1;have ML:Hid (∀ wx,W.grownBy wx none->wx.cell? ⟨1,0,none⟩=some (.int .i64 ml)):=fun wx hg=>(aa GW.out hg).cell hml (by simp)
 clear hml;go_wp2_with fail;refine (xr nodes po pc ps false ml w1 (ML.out w1 G1.out) (HP.out.keep (aa GW.out G1.out))).mono ?_;rintro e w2 ⟨c1,c2,rfl,g2,h16⟩;have G2:=ab (aa G1.out g2);clear g2 n0;have n0:=NC.out w2 G2.out;have hfd:∀ wx,(Instr.field 29 (.agg #[.int .i64 c1,.int .i64 c2]) 0).run Tryz.prog wx=.ok (.int .i64 c1) wx:=fun wx=>by kernel_rfl
 by_cases hx:c1≠0
 ·have hxd:(c1 != 0)=true:=by simp [hx]
  go_wp2;go_ret;exact ⟨rfl,aa GW.out G2.out⟩
 replace hx:c1=0:=Classical.not_not.1 hx;subst hx;have hl16:=h16 rfl;clear h16;go_upto_region 6 with fail;obtain ⟨gm,hgm⟩:∃ gm,gm=w2.heap.size:=⟨_,rfl⟩;obtain ⟨wm,hwm⟩:∃ wm,wm=w2.alloc (Obj.cells #[.int .i64 nodes,.slice none 0 0] 24):=⟨_,rfl⟩;have GM:Hid (w2.grownBy wm none):=by rw [hwm];exact ag (ae _ _) _
 have M1:Hid (kQ wm gm (.int .i64 nodes) (.slice none 0 0)):=by rw [hwm,hgm];exact heap_alloc_new w2 _
 have HGM:Hid (gm=w2.heap.size):=hgm;rw [<- hwm,<- hgm];clear hwm hgm n0 hfd;have n0:=NC.out wm (aa G2.out GM.out);go_wp2;go_loopw [6,33] (fun s6 s33 wr=>Hid (LsR w2 gm nodes ps s6 s33 wr)) (fun _ iv _=>ps.length-(intOf iv).toNat)
 case atStart=>exact ⟨0,_,by omega,rfl,M1.out,World.ownsRow_nil _ _ _ _,World.ownsRow_nil _ _ _ _,fun j h hj=>by omega,GM.out⟩
 case round =>
  obtain ⟨i,v,hi,rfl,l1,l2,l4,l5,l3⟩:=hrel.out;obtain ⟨vo,vc,rfl,hvc⟩:=l2.shape;obtain ⟨uo,uc,rfl⟩:=l4.shape;obtain ⟨hrl,hri,_⟩:=fg ps i hi;have HRL:=ab hrl;have N1:=ab l1;have N2:=ab l2;have N3:=ab l3;have N4:=ab l4;have N5:=ab l5;clear l1 l2 l3 l4 l5 hrel n0 hrl;obtain ⟨m0,m1,m2,m3⟩:=N1.out.cells;by_cases hlt:i<ps.length
  ·obtain ⟨po',pc',e0,_,_,hps⟩:=HP.out;obtain ⟨b0,off,e1,hb,c0,c1,c2,c3,c4,c5,c6⟩:=hps i hlt;have e2:po=po':=by injection e0
   have e4:pc=pc':=by injection e0
   subst e2 e4;subst e1;have hgg:=aa GW.out (aa G2.out N3.out);obtain ⟨q,hq⟩:∃ q,q=ps[i]:=⟨_,rfl⟩;rw [<- hq] at c0 c1 c2 c3 c4 c5 c6;have q0:=hgg.cell c0 (by simp);have q1:=hgg.cell c1 (by simp);have q2:=hgg.cell c2 (by simp);have q3:=hgg.cell c3 (by simp);have q4:=hgg.cell c4 (by simp);have q5:=hgg.cell c5 (by simp);have HQ:=ab hq;clear c0 c1 c2 c3 c4 c5 c6 hq hps e0 hgg m0 m1 m2 m3;go_upto_region 10 with fail;obtain ⟨gq,hgq⟩:∃ gq,gq=wr.heap.size:=⟨_,rfl⟩;obtain ⟨w7,hw7⟩:∃ w7,w7=wr.alloc (Obj.cells #[.int .i64 q.kind,.int .i64 q.a,.int .i64 q.b,.int .i64 q.c,.int .i64 q.d,.string q.v] 34):=⟨_,rfl⟩;have G7:Hid (wr.grownBy w7 none):=by rw [hw7];exact ag (ae _ _) _
   have PQ:Hid (lJ w7 gq (.int .i64 q.kind) (.int .i64 q.a)/\w7.cell? ⟨gq,2,none⟩=some (.int .i64 q.b)/\w7.cell? ⟨gq,3,none⟩=some (.int .i64 q.c)/\w7.cell? ⟨gq,4,none⟩=some (.int .i64 q.d)/\w7.cell? ⟨gq,5,none⟩=some (.string q.v)):=by
    rw [hw7,hgq];exact ⟨⟨by go_simp,by go_simp⟩,by go_simp,by go_simp,by go_simp,by go_simp⟩
   rw [<- hw7,<- hgq];clear hw7 hgq q0 q1 q2 q3 q4 q5;have x0:=PQ.out;by_cases hk1:q.kind=1
   ·rw [hk1] at x0;have HTK:Hid (cA ps (i+1)=cA ps i++[q]):=by show _=_;rw [mY ps i hlt,if_pos (by rw [<- HQ.out];exact hk1),HQ.out]
    have HTI:Hid (dO ps (i+1)=dO ps i++[i]):=by show _=_;rw [kI ps i hlt,if_pos (by rw [<- HQ.out];exact hk1)]
    have B7:=ab (N1.out.keep G7.out (by simp));obtain ⟨m0,m1,m2,m3⟩:=B7.out.cells;have HSZ3:Hid (gm+1<=w7.heap.size):=B7.out.lt;have hrp:(cA ps i).length<=ps.length:=by rw [HRL.out];omega
    have HK1:=ab hk1;have HCL:Hid (∀ j u,(cE q)[j]? = some u->(w7.alloc (Obj.cells #[.int .i64 1,.int .i64 q.a,.int .i64 q.b,.int .i64 q.c,.int .i64 q.d,.string q.v] 34)).cell? ((⟨w7.heap.size,0,none⟩:Addr).add j)=some u):=by
     intro j u hj;have hn:=heap_alloc_new w7 (Obj.cells #[.int .i64 1,.int .i64 q.a,.int .i64 q.b,.int .i64 q.c,.int .i64 q.d,.string q.v] 34);rw [show (⟨w7.heap.size,0,none⟩:Addr).add j=⟨w7.heap.size,j,none⟩ from by unfold Addr.add;split<;>simp_all];simp only [World.cell?,hn];rw [<- hj];simp [cE,hk1]
    have G8:=ab (ag G7.out (Obj.cells #[.int .i64 1,.int .i64 q.a,.int .i64 q.b,.int .i64 q.c,.int .i64 q.d,.string q.v] 34));clear hk1;go_wp2_with (at_builtin;refine nZ _ rfl _ _ 22 rfl (gm+1) Tryz.underlying22 Tryz.infoPart (.slice vo (cA ps i).length vc) (cA ps i) rfl (N2.out.keep0 G8.out) w7.heap.size q rfl HCL.out (by omega) (by simp;have:=HSZ3.out;omega) ?_)
    intro ao cap5 w11 hown hgr;rw [<- HTK.out] at hown;have O11:=ab hown;have hne5:some gm≠(Value.slice vo (cA ps i).length vc).ownBlock:=by
     rcases N2.out.ne (b:=gm) (by omega) with e | e
     ·rw [e];simp
     ·exact fun e2=>e e2.symm
    have B11:=ab ((N1.out.keep G8.out (by simp)).keep hgr hne5);have G11:Hid (w2.grownBy w11 none):=by
     refine aq (r:=none) (aa N3.out G8.out) hgr (fun _ _ e=>e) (fun k hk e=>?_);have:=(World.ownsRow.lt N2.out k e.symm).1;have:=HGM.out;omega
    have U11:Hid (cL (fun x:Nat=>iv x) 3 w11 (gm+1) (.slice uo (dO ps i).length uc) (dO ps i)):=by
     refine (N4.out.keep0 G8.out).keep hgr ?_;rcases N2.out.apart N4.out with e | e
     ·rw [e];cases hu:(Value.slice uo (dO ps i).length uc).ownBlock<;>simp
     ·exact .inr (fun e2=>e e2.symm)
    clear hown hgr hne5 m0 m1 m2 m3 x0 HCL;obtain ⟨m0,m1,m2,m3⟩:=B11.out.cells;obtain ⟨lp,hlp⟩:∃ lp,lp=(cA ps i).length+1:=⟨_,rfl⟩;have HLP:Hid (lp=(cA ps (i+1)).length):=by show _=_;rw [hlp,HTK.out];simp
    rw [<- hlp] at O11 ⊢;clear hlp;go_upto_region 14 with fail;obtain ⟨w12,hw12⟩:∃ w12,w12=w11.setCell ⟨gm,1,none⟩ (.slice ao lp cap5):=⟨_,rfl⟩;have B12:Hid (kQ w12 gm (.int .i64 nodes) (.slice ao lp cap5)):=by rw [hw12];exact B11.out.set1 _
    have O12:Hid (eP w12 (gm+1) (.slice ao lp cap5) (cA ps (i+1))):=by rw [hw12];exact O11.out.kept (de _ _ _ _) (O11.out.ne (by omega))
    have U12:Hid (cL (fun x:Nat=>iv x) 3 w12 (gm+1) (.slice uo (dO ps i).length uc) (dO ps i)):=by
     rw [hw12];refine U11.out.keep (de _ _ _ _) ?_;cases hu:(Value.slice uo (dO ps i).length uc).ownBlock with
     | none=>exact .inl rfl
     | some k =>
      right
      intro e;have:=(U11.out.fresh k hu).1;have:=Option.some.inj e;omega
    have G12:Hid (w2.grownBy w12 none):=by rw [hw12];exact ai G11.out _ _ (show w2.heap.size<=gm by have:=HGM.out;omega)
    rw [<- hw12];clear hw12 m0 m1 m2 m3 B11 O11 U11;have hS12:gm+1<=w12.heap.size:=B12.out.lt;go_wp2_with (at_builtin;refine dZ (fun x:Nat=>iv x) 3 (iv 0) 8 _ rfl _ _ 31 rfl (gm+1) Tryz.underlying31 Tryz.infoInt rfl _ (dO ps i) rfl (U12.out.keep0 (ag (ae _ _) _)) w12.heap.size i rfl (by go_simp) rfl (by omega) (by omega) (by simp;omega) ?_)
    intro ao6 cap6 w13 hown hgr;rw [<- HTI.out] at hown;have G13a:=ag (ae w12 none) (Obj.cells #[.int .i64 (i:Int)] 3);have hne6:some gm≠(Value.slice uo (dO ps i).length uc).ownBlock:=by
     intro e;have:=(U12.out.fresh gm e.symm).1;omega
    have B13:=ab ((B12.out.keep G13a (by simp)).keep hgr hne6);have O13:=ab ((O12.out.keep0 G13a).kept hgr (O12.out.apart U12.out));have G13:Hid (w2.grownBy w13 none):=by
     refine aq (r:=none) (aa G12.out G13a) hgr (fun _ _ e=>e) (fun k hk e=>?_);have:=(U12.out.fresh k e.symm).1;have:=HGM.out;omega
    have U13:=ab hown;clear hown hgr hne6 G13a;go_wp2;go_roundw
    case rel =>
     refine ⟨i+1,_,by omega,by go_num,B13.out,O13.out,?_,fun j h hj=>?_,G13.out⟩
     ·have:=U13.out;rw [HTI.out] at this ⊢;simpa using this
     ·by_cases e:j=i
      ·subst e;left
       rw [<- HQ.out];exact HK1.out
      ·exact N5.out j h (by omega)
    case measure=>simp [intOf];omega
   ·have b1:(q.kind==1)=false:=beq_eq_false_iff_ne.2 hk1;by_cases hk5:q.kind=5
    ·have b5:(q.kind==5)=true:=by simp [hk5]
     go_wp2;go_roundw
     case rel =>
      refine ⟨i+1,_,by omega,by go_num,N1.out.keep G7.out (by simp),?_,?_,fun j h hj=>?_,aa N3.out G7.out⟩
      ·rw [mY ps i hlt,if_neg (by rw [<- HQ.out];exact hk1)];exact N2.out.keep0 G7.out
      ·rw [kI ps i hlt,if_neg (by rw [<- HQ.out];exact hk1)];exact N4.out.keep0 G7.out
      ·by_cases e:j=i
       ·subst e;right
        rw [<- HQ.out];exact hk5
       ·exact N5.out j h (by omega)
     case measure=>simp [intOf];omega
    ·have b5:(q.kind==5)=false:=beq_eq_false_iff_ne.2 hk5;go_wp2;go_ret;exact ⟨rfl,aa GW.out (aa G2.out (aa N3.out G7.out))⟩
  ·obtain rfl:i=ps.length:=by omega
   have GWr:=ab (aa GW.out (aa G2.out N3.out));have H16:=ab hl16;clear m0 m1 m2 m3 hl16 N5 hlt hi hri;have n0:=NC.out wr (aa G2.out N3.out);go_wp2_with fail;refine (rH nodes po pc ps 2300000 wr (HB.out.keep GWr.out) (HT.out.keep0 GWr.out) (HP.out.keep GWr.out) (Cn ps HSZ.out) (by decide) (by decide)).mono ?_;rintro e w4 ⟨c1,c2,n1,n2,V,I,vv,iv_,rfl,o1,o2,sp,g4,q1,q2⟩;obtain ⟨ao1,cc1,rfl⟩:=o1.shape;obtain ⟨ao2,cc2,rfl⟩:=o2.shape;rw [dt] at o1 ⊢;rw [dt] at o2 ⊢;have O2:=ab o2;have SP:=ab sp;have Q2:=ab q2;have G4:=ab g4;clear o1 o2 sp q1 q2 g4 n0;go_upto_region 18 with fail;obtain ⟨ga,hga⟩:∃ ga,ga=w4.heap.size:=⟨_,rfl⟩;obtain ⟨gf,hgf⟩:∃ gf,gf=w4.heap.size+1:=⟨_,rfl⟩;obtain ⟨w5,hw5⟩:∃ w5,w5=(w4.alloc (Obj.cells #[.slice ao1 n1 cc1,.slice ao2 n2 cc2] 36)).alloc (Obj.cells #[.int .i64 c1,.int .i64 c2] 29):=⟨_,rfl⟩;have G45:Hid (w4.grownBy w5 none):=by rw [hw5];exact ag (ag (ae _ _) _) _
   have G5:Hid (wr.grownBy w5 none):=aa G4.out G45.out;have AX:Hid (lJ w5 ga (.slice ao1 n1 cc1) (.slice ao2 n2 cc2)):=by rw [hw5,hga];exact ⟨by go_simp,by go_simp⟩
   have FX:Hid (eW w5 gf c1 c2):=by
    show w5.heap[gf]? = _
    rw [hw5,hgf];have:=heap_alloc_new (w4.alloc (Obj.cells #[.slice ao1 n1 cc1,.slice ao2 n2 cc2] 36)) (Obj.cells #[.int .i64 c1,.int .i64 c2] 29);simpa using this
   rw [<- hw5];try rw [<- hgf]
   try rw [<- hga]
   clear hw5 hga hgf;obtain ⟨qs,hqs⟩:∃ qs,qs=cA ps ps.length:=⟨_,rfl⟩;have HQS:=ab hqs;have B5:=ab (N1.out.keep G5.out (by simp));rw [<- hqs] at B5;have O5:Hid (eP w5 (gm+1) (.slice vo qs.length vc) qs):=by rw [hqs];exact N2.out.keep0 G5.out
   have U5:=ab (N4.out.keep0 G5.out);have hq600:∀ p∈qs,p.v.size<=600000000:=by
    intro p hp;rw [hqs] at hp;obtain ⟨k,hk,rfl⟩:=List.mem_iff_getElem.1 hp;obtain ⟨hx,e,_⟩:=kJ (k:=k) (by rw [<- HRL.out];exact hk) hk;rw [e];have:=rM (List.getElem_mem hx);have:=HSZ.out;omega
   have LC:=ab (zM nodes (.slice vo qs.length vc) qs w5 (HB.out.keep (aa GWr.out G5.out)) (O5.out.parts hq600));obtain ⟨m0,m1,m2,m3⟩:=B5.out.cells;clear hq600 hqs N1 N2 N4;go_wp2_with fail;refine LC.out.mono ?_;rintro e w6 ⟨lv,d1,d2,rfl,g6,⟨lo,ll,lc,rfl⟩,hlp⟩;have G6:=ab g6;have HLP:=ab hlp;clear g6 hlp LC m0 m1 m2 m3;have FX6:=ab (FX.out.keep0 G6.out);go_upto_region 19 with fail;obtain ⟨gl,hgl⟩:∃ gl,gl=w6.heap.size:=⟨_,rfl⟩;obtain ⟨w7,hw7⟩:∃ w7,w7=w6.alloc (Obj.cells #[.int .i64 d1,.int .i64 d2] 29):=⟨_,rfl⟩;have G67:Hid (w6.grownBy w7 none):=by rw [hw7];exact ag (ae _ _) _
   have LX:Hid (eW w7 gl d1 d2):=by rw [hw7,hgl];exact heap_alloc_new w6 _
   rw [<- hw7];try rw [<- hgl]
   clear hw7 hgl;have G57:=ab (aa G6.out G67.out);have G47:=ab (aa G45.out G57.out);have G7:=ab (aa (aa G2.out N3.out) (aa G5.out G57.out));have GW7:=ab (aa GW.out G7.out);have F7:=ab (FX6.out.keep0 G67.out);obtain ⟨f0,f1,f2,f3⟩:=F7.out.cells;by_cases hx:c1≠0
   ·have hxd:(c1 != 0)=true:=by simp [hx]
    go_wp2;go_ret;exact ⟨rfl,GW7.out⟩
   replace hx:c1=0:=Classical.not_not.1 hx;subst hx;obtain ⟨hck,hc2,hn1,hn2,hsol,huq⟩:=SP.out.one;subst hc2 hn2;obtain ⟨hRN,hnn,hle,hFP⟩:=mg hck;obtain ⟨hd1,hd2,hrows⟩:=HLP.out (by rw [HQS.out];exact za hck);subst hd1 hd2;have TXT:Hid (∀ j,j<ps.length->∃ g off,ao2=some ⟨g,off,none⟩/\w7.cell? ⟨g,off+j,none⟩=some (.string ⟨(cP (I j)).toArray⟩)):=De (O2.out.keep0 G47.out).row;obtain ⟨P,hP⟩:∃ P:Nat->Rat,P=fun k=>mb ps k*(ft ps I k*ft ps I k):=⟨_,rfl⟩
   obtain ⟨Q,hQ⟩:∃ Q:Nat->Rat,Q=fun k=>mb ps k*((ft ps I k+mG (bJ ps) vs k (bJ ps).length)*(ft ps I k+mG (bJ ps) vs k (bJ ps).length)):=⟨_,rfl⟩
   have HPQ:Hid (sB (bC P (cA ps ps.length).length) (bC Q (cA ps ps.length).length)<=0):=by
    rw [hP,hQ];exact ab (ordX_le (BV hRN hle hFP hsol vs))
   have HPK:Hid (∀ k,P k=mb ps k*(ft ps I k*ft ps I k)):=by intro k;rw [hP]
   have HQK:Hid (∀ k,Q k=mb ps k*((ft ps I k+mG (bJ ps) vs k (bJ ps).length)*(ft ps I k+mG (bJ ps) vs k (bJ ps).length))):=by intro k;rw [hQ]
   have HRQ:Hid (cm nodes.toNat qs):=by rw [HQS.out];exact ab (rE hRN hle)
   clear hP hQ hck huq hsol SP hRN hnn hFP HLP hn1 hle;obtain ⟨vals,v1,v2,v3⟩:=hrows;obtain ⟨lo_,lc_,ev,v4,v5,v6⟩:=v1;simp only [Value.slice.injEq] at ev;obtain ⟨rfl,rfl,rfl⟩:=ev;obtain ⟨LL,hLL⟩:∃ LL,LL=bJ ps:=⟨_,rfl⟩;have hLq:bK qs.length (aE (aS qs)) (bE (aS qs) (aE (aS qs))) qs.length=LL:=by rw [hLL,HQS.out]
   have HLM:Hid (∀ l∈LL,l.length=qs.length/\∀ x∈l,-1<=x/\x<=1):=by
    intro l hl;rw [<- hLq] at hl;exact ⟨(uk HRQ.out V l hl).1,loop_bd _ _ _ _ _ hl⟩
   have HLN:Hid (LL.length<=16):=by
    show _<=_
    rw [<- hLq];have h1:=zO qs.length (aE (aS qs)) (bE (aS qs) (aE (aS qs))) qs.length;have h2:=(fg ps ps.length (Nat.le_refl _)).2.1;have h3:=H16.out;have h4:=HRL.out;rw [HQS.out] at h1 ⊢;omega
   rw [hLq] at v2 v3;have VC:Hid (∀ i (h:i<vals.length),∃ b off,lo=some ⟨b,off,none⟩/\b<w6.heap.size/\w6.cell? ⟨b,off+i,none⟩=some vals[i]):=v6;have RW:Hid (∀ i (h:i<vals.length) (h':i<LL.length),ee iv w6 vals[i] LL[i]):=v3;have HVL:Hid (vals.length=LL.length):=v2;have HVC:=ab v5;rw [<- hLL] at HQK;clear v2 v3 v6 hLq v5 hLL;have LX7:=LX.out.cells;obtain ⟨l0,l1,l2,l3⟩:=LX7;have hls:(((ps.length:Nat):Int) != ((ps.length:Nat):Int))=false:=by simp
   have ax:lJ w7 ga (.slice ao1 n1 cc1) (.slice ao2 ps.length cc2):=⟨G57.out.cell AX.out.1 (by simp),G57.out.cell AX.out.2 (by simp)⟩;have n0:=NC.out w7 G7.out;go_upto_region 24 with fail;obtain ⟨bx,hbx⟩:∃ bx,bx=w7.heap.size:=⟨_,rfl⟩;obtain ⟨bz,hbz⟩:∃ bz,bz=w7.heap.size+1:=⟨_,rfl⟩;obtain ⟨w8,hw8⟩:∃ w8,w8=(w7.alloc (.cells #[.bool false,.slice none 0 0,.bool false,.slice none 0 0] 47)).alloc (.cells #[.bool false,.slice none 0 0,.bool false,.slice none 0 0] 47):=⟨_,rfl⟩;have G78:Hid (w7.grownBy w8 none):=by rw [hw8];exact ag (ag (ae _ _) _) _
   have ZX:Hid (qu w8 bx):=by
    rw [hw8,hbx];exact qu.keep (heap_alloc_new w7 _) (ag (ae _ none) _) (by simp)
   have ZZ:Hid (qu w8 bz):=by
    show w8.heap[bz]? = _
    rw [hw8,hbz];have:=heap_alloc_new (w7.alloc (.cells #[.bool false,.slice none 0 0,.bool false,.slice none 0 0] 47)) (.cells #[.bool false,.slice none 0 0,.bool false,.slice none 0 0] 47);simpa using this
   have HBX:Hid (w7.heap.size<=bx/\bx<bz):=by show _/\_;rw [hbx,hbz];omega
   rw [<- hw8];try rw [<- hbz]
   try rw [<- hbx]
   clear hw8 hbx hbz l0 l1 l2 l3 f0 f1 f2 f3 hls ax n0;obtain ⟨ix,hix⟩:∃ ix,ix=dO ps ps.length:=⟨_,rfl⟩;have HIX:=ab hix;rw [<- hix] at U5 HRL;have hqi:Hid (qs.length=ix.length):=by rw [HQS.out,hix];exact ab ((fg ps ps.length (Nat.le_refl _)).1)
   have UT:Hid (∀ j (hj:j<ix.length),∃ g off,uo=some ⟨g,off,none⟩/\w7.cell? ⟨g,off+j,none⟩=some (.int .i64 ((ix[j]:Nat):Int))):=ints_at (U5.out.keep0 G57.out).row;rw [<- hix];have HI16:Hid (ix.length<=16):=by
    show _<=_
    have h2:=(fg ps ps.length (Nat.le_refl _)).2.1;have h3:=H16.out;rw [hix];omega
   clear hix;go_wp2;go_loopw [84] (fun v wr=>Hid (LtR w7 bx bz ix.length P Q v wr)) (fun v _=>ix.length-(intOf v).toNat)
   case atStart=>exact ⟨0,by omega,rfl,.inr ⟨rfl,(ZX.out.nil _).1⟩,.inr ⟨rfl,(ZZ.out.nil _).1⟩,(ZX.out.nil 0).2,(ZZ.out.nil 0).2,G78.out⟩
   case round =>
    obtain ⟨k,hk,rfl,k1,k2,k3,k4,k5⟩:=hrel.out;have K1:=ab k1;have K2:=ab k2;have K3:=ab k3;have K4:=ab k4;have K5:=ab k5;clear k1 k2 k3 k4 k5 hrel;obtain ⟨wo,hwo⟩:∃ wo,wo=wr:=⟨_,rfl⟩;subst hwo;by_cases hkr:k<ix.length
    ·have hkr2:k<(cA ps ps.length).length:=by rw [<- HQS.out,hqi.out];exact hkr
     obtain ⟨hx,ek,hk1⟩:=kJ (k:=k) (by rw [<- HIX.out];exact hkr) hkr2;obtain ⟨gi,oi,rfl,hc⟩:=UT.out k hkr;obtain ⟨x,hxx⟩:∃ x,x=ix[k]:=⟨_,rfl⟩;have hxx2:(dO ps ps.length)[k]'(by rw [<- HIX.out];exact hkr)=x:=by rw [hxx];simp only [HIX.out]
     rw [<- hxx] at hc;simp only [hxx2] at hx ek hk1;obtain ⟨vx,hvx⟩:∃ vx,vx=(ps[x]'hx).v:=⟨_,rfl⟩;have EO:Hid (mb ps k=dN vx.data.toList):=by
      show _=_
      unfold mb;rw [List.getElem?_eq_getElem hkr2];show ((cA ps ps.length)[k]).q=_
      rw [ek,hvx];rfl
     have HVX:=ab hvx;have EF:Hid (ft ps I k=I x):=by
      show _=_
      unfold ft;rw [List.getD_eq_getElem?_getD,List.getElem?_eq_getElem (by rw [<- HIX.out];exact hkr),hxx2];rfl
     have xc:=K5.out.cell hc (by simp);obtain ⟨ga2,oa2,rfl,ht⟩:=TXT.out x hx;have X1h:=fun wx h=>Cz (I x) 2300000 ml wx (by decide) (Q2.out x hx) (by decide) h
     have ct:=K5.out.cell ht (by simp);obtain ⟨T,hT⟩:∃ T:ByteArray,T=⟨(cP (I x)).toArray⟩:=⟨_,rfl⟩;rw [<- hT] at ct X1h;have ca:=(aa G57.out K5.out).cell AX.out.2 (by simp);have GO:=ab (aa G7.out K5.out);have n0:=NC.out wo GO.out;have X1H:=ab X1h;have HX:=ab hx;clear hT ht hc hk1 ek hxx hxx2 X1h hkr2 hvx;go_wp2_with fail;refine (X1H.out wo (ML.out wo GO.out)).mono ?_;rintro e wa ⟨ba,rfl,g1,gb,x1⟩;have X1:=ab x1;have A1:=ab g1;have NA:Hid (ba≠bx/\ba≠bz):=by
      have h1:=K1.out.lt;have h2:=K2.out.lt;exact ⟨by omega,by omega⟩
     clear g1 x1 n0 ca ct xc X1H gb;obtain ⟨po',pc',e0,_,_,hps⟩:=HP.out;obtain ⟨b0,off,e1,hb,c0,c1,c2,c3,c4,c5,c6⟩:=hps x hx;have e2:po=po':=by injection e0
     subst e2 e1;have cv:wa.cell? ⟨b0,off+x*6+5,none⟩=some (.string vx):=by
      rw [HVX.out];exact (aa GW.out (aa GO.out A1.out)).cell c5 (by simp)
     have n0:=NC.out wa (aa GO.out A1.out);have hvs:vx.size<=1100000:=by
      rw [HVX.out];exact Nat.le_trans (rM (List.getElem_mem hx)) HSZ.out
     have HVS:=ab hvs;clear c0 c1 c2 c3 c4 c5 c6 hps e0 hvs;go_wp2_with fail;refine (yq vx 3300008 ml wa (by have:=HVS.out;omega) (by have:=HVS.out;omega) (ML.out wa (aa GO.out A1.out))).mono ?_;rintro e wb ⟨bb,rfl,g1,gb,x1⟩;have X2:=ab x1;have NB:Hid (bb≠bx/\bb≠bz):=by
      have h1:=K1.out.lt;have h2:=K2.out.lt;have h3:=A1.out.size;exact ⟨by omega,by omega⟩
     have B1:=ab (aa A1.out g1);have X1:=ab (X1.out.keep0 g1);clear g1 x1 n0 cv gb;go_wp2_with fail;refine (iY ba ba _ _ 2300000 2300000 wb (X1.out.x (by decide)) (X1.out.x (by decide)) (by decide)).mono ?_;rintro e wc ⟨bc,rfl,y1,y2,y3⟩;have Y1:=ab y1;have C1:=ab (aa B1.out y2);have X1:=ab (X1.out.keep0 y2);have X2:=ab (X2.out.keep0 y2);clear y1 y2 y3;go_wp2_with fail;refine (iY bb bc _ _ 3300008 4600002 wc (X2.out.x (by decide)) Y1.out.x (by decide)).mono ?_;rintro e wd ⟨bd,rfl,y1,y2,y3⟩;have Y2:=ab y1;have D1:=ab (aa C1.out y2);have X1:=ab (X1.out.keep0 y2);have X2:=ab (X2.out.keep0 y2);have K3:=ab (K3.out.keep K1.out.lt D1.out (by simp));have K4:=ab (K4.out.keep K2.out.lt D1.out (by simp));have K1:=ab (K1.out.keep0 D1.out);have K2:=ab (K2.out.keep0 D1.out);have hk16:k<16:=Nat.lt_of_lt_of_le hkr HI16.out;clear y1 y2 y3;go_wp2_with fail;refine (th bx bd (bC P k) _ (2+k*113500600) 7900012 wd K1.out Y2.out.x (by omega) (by omega)).mono ?_;rintro e we ⟨rfl,r1,r2⟩;have hzx:bz≠bx:=by have:=HBX.out;omega
     obtain ⟨a1,a2,a3⟩:=r1.both K1.out K3.out K2.out K4.out hzx;have X1:=ab (r1.other K1.out K3.out X1.out NA.out.1);have X2:=ab (r1.other K1.out K3.out X2.out NB.out.1);have K2:=ab a1;have K3:=ab a2;have K4:=ab a3;have E1:Hid (w7.grownBy we none):=lW (aa K5.out D1.out) r1 HBX.out.1;have K1:Hid (RV we bx (bC P (k+1)) (2+(k+1)*113500600)):=by
      show RV _ _ _ _
      rw [aP,HPK.out,EO.out,EF.out];exact .inl (r2.mono (by rw [Nat.add_mul];omega))
     clear a1 a2 a3 r1 r2 Y1 Y2 hzx;obtain ⟨F,hF⟩:∃ F:Nat->Rat,F=fun j=>I x+mG LL vs k j:=⟨_,rfl⟩
     have HF:Hid (∀ j,F j=I x+mG LL vs k j):=by intro j;rw [hF]
     have HF0:Hid (F 0=I x):=by show _=_;rw [hF];show I x+0=I x;rw [Rat.add_zero]
     clear hF;go_wp2;go_loopw [17,112] (fun v u wr=>Hid (LfR we vals.length F v u wr)) (fun _ u _=>vals.length-(intOf u).toNat)
     case atStart=>exact ⟨0,ba,by omega,rfl,rfl,by rw [HF0.out];exact X1.out,ae _ _⟩
     case round =>
      obtain ⟨j,bf,hj,rfl,rfl,k1,k2⟩:=hrel.out;have J1:=ab k1;have J2:=ab k2;clear k1 k2 hrel;by_cases hjl:j<vals.length
      ·obtain ⟨bl,ol,rfl,hbl,hc⟩:=VC.out j hjl;obtain ⟨xo,xc,ex,hx1,hx2,hx3⟩:=RW.out j hjl (by rw [<- HVL.out];exact hjl);obtain ⟨l,hl⟩:∃ l,l=LL[j]'(by rw [<- HVL.out];exact hjl):=⟨_,rfl⟩;rw [<- hl] at hx3 ex hx1;obtain ⟨hll,hlb⟩:=HLM.out l (by rw [hl];exact List.getElem_mem _);have HLG:Hid (LL.getD j []=l):=by show _=_;rw [List.getD_eq_getElem?_getD,List.getElem?_eq_getElem (by rw [<- HVL.out];exact hjl),hl];rfl
       have hkl:k<l.length:=by rw [hll,hqi.out];exact hkr
       obtain ⟨b2,o2,rfl,hb2,hc2⟩:=hx3 k hkl;obtain ⟨c,hcc⟩:∃ c,c=l[k]:=⟨_,rfl⟩;have hcb:=hlb c (by rw [hcc];exact List.getElem_mem _);have HCG:Hid (l.getD k 0=c):=by show _=_;rw [List.getD_eq_getElem?_getD,List.getElem?_eq_getElem hkl,hcc];rfl
       rw [<- hcc] at hc2;rw [ex] at hc;have hg6:=aa G67.out (aa E1.out J2.out);have c0:=hg6.cell hc (by simp);have c1:wr.cell? ⟨b2,o2+k,none⟩=some (.int .i64 c):=hg6.cell hc2 (by simp);unfold maxLen at hx2;clear hx3 hc hc2 hcc hl ex hlb hg6;have GJ:=ab (aa G7.out (aa E1.out J2.out));have hj16:j<16:=by have:=HLN.out;have:=HVL.out;omega
       have HLL:=ab hll;clear hll;by_cases hjv:j<vs.length
       ·obtain ⟨vo3,vc3,ev,_,_,hvv⟩:=HV.out;simp only [Value.slice.injEq] at ev;obtain ⟨rfl,_,rfl⟩:=ev;obtain ⟨b3,o3,rfl,hb3,hc3⟩:=hvv j hjv;have hs3:=HSV.out vs[j] (List.getElem_mem _);have HMV:Hid (l9 vs j=dN vs[j].data.toList):=Ca vs j hjv;obtain ⟨T3,hT3⟩:∃ T3,T3=vs[j]:=⟨_,rfl⟩;rw [<- hT3] at hc3 hs3 HMV;have c3:wr.cell? ⟨b3,o3+j,none⟩=some (.string T3):=(aa GW.out GJ.out).cell hc3 (by simp);have HS3:=ab hs3;clear hvv hc3 hT3 hs3;have CX:Hid (∀ wx,wr.grownBy wx none->wx.cell? ⟨b2,o2+k,none⟩=some (.int .i64 c)/\wx.cell? ⟨b3,o3+j,none⟩=some (.string T3)):=fun wx hg=>⟨hg.cell c1 (by simp),hg.cell c3 (by simp)⟩
        have GG:wr.grownBy wr none:=ae _ _;have s0:=CX.out wr GG;have i0:(0:Int)<=(k:Int):=by omega
        have i1:(k:Int)<(l.length:Int):=by omega
        have i2:(0:Int)<=(j:Int):=by omega
        have i3:(j:Int)<(vs.length:Int):=by omega
        clear c1 c3;go_upto_region 34 with fail;go_region_held3 (fun w'=>w'.cell? ⟨b2,o2+k,none⟩=some (.int .i64 c)/\w'.cell? ⟨b3,o3+j,none⟩=some (.string T3)) (go_keep)
         (first
          | (go_at_call 12;refine (rN_at c _ (by omega) (by omega)).mono ?_;rintro e wa ⟨ba,rfl,y1,y2,y3⟩;have GG:=aa (gx GG) y2;have k0:=CX.out wa GG;have Y1:=ab y1;clear y1 y2 y3)
          | (go_at_call 8;refine (yq T3 3300008 ml _ (by have:=HS3.out;omega) (by have:=HS3.out;omega) (ML.out _ (aa GJ.out (gx GG)))).mono ?_;rintro e wb ⟨bb,rfl,g2,g3,x2⟩;have Y1:=ab (Y1.out.keep0 (aa (gx (ae _ _)) g2));have GG:=aa (gx GG) g2;have k1:=CX.out wb GG;have Y2:=ab x2;clear x2 g2 g3)
          | (go_at_call 10;refine (iY ba bb _ _ 4 3300008 _ (Y1.out.x.keep0 (gx (ae _ _))) ((Y2.out.x (by decide)).keep0 (gx (ae _ _))) (by decide)).mono ?_;rintro e wc ⟨bc,rfl,y1,y2,y3⟩;have GG:=aa (gx GG) y2;have k2:=CX.out wc GG;have Y3:=ab y1;clear y1 y2 y3)
          | (go_at_call 11;refine (Cx bf bc _ _ (2300000+j*3300017) 3300014 _ ((J1.out.x (by omega)).keep0 (gx GG)) (Y3.out.x.keep0 (gx (ae _ _))) (by omega)).mono ?_;rintro e wd ⟨bd,rfl,y1,y2,y3⟩;have GG:=aa (gx GG) y2;have k3:=CX.out wd GG;have Y4:=ab y1;clear y1 y2 y3))
        all_goals
         have JR:Hid (RV wd bd (F (j+1)) (2300000+(j+1)*3300017)):=by
          show RV _ _ _ _
          have:=Y4.out;rw [HF.out,qM,HLG.out,HCG.out,HMV.out,<- Rat.add_assoc,<- HF.out];exact .inl (Y4.out.mono (by rw [Nat.add_mul];omega))
         have JG:Hid (we.grownBy wd none):=aa J2.out (gx GG);clear Y4 s0;go_wp2;go_roundw
         case rel=>exact ⟨j+1,bd,by omega,by go_num,rfl,JR.out,JG.out⟩
         case measure=>simp [intOf];omega
       ·have HMV:Hid (l9 vs j=0):=wV vs j hjv;have JR:Hid (RV wr bf (F (j+1)) (2300000+(j+1)*3300017)):=by
         show RV _ _ _ _
         rw [HF.out,qM,HMV.out,Rat.mul_zero,Rat.add_zero,<- HF.out];exact J1.out.mono (by rw [Nat.add_mul];omega)
        clear J1;go_wp2;go_roundw
        case rel=>exact ⟨j+1,bf,by omega,by go_num,rfl,JR.out,J2.out⟩
        case measure=>simp [intOf];omega
      ·obtain rfl:j=vals.length:=by omega
       have hv16:vals.length<=16:=by rw [HVL.out];exact HLN.out
       have J1:Hid (RV wr bf (F vals.length) 55100272):=ab (J1.out.mono (by omega));have X2:=ab (X2.out.keep0 J2.out);have K3:=ab (K3.out.keep K1.out.lt J2.out (by simp));have K4:=ab (K4.out.keep K2.out.lt J2.out (by simp));have K1:=ab (K1.out.keep0 J2.out);have K2:=ab (K2.out.keep0 J2.out);go_wp2_with fail;refine (iY bf bf _ _ 55100272 55100272 wr (J1.out.x (by decide)) (J1.out.x (by decide)) (by decide)).mono ?_;rintro e wc ⟨bc,rfl,y1,y2,y3⟩;have Y1:=ab y1;have C1:=ab y2;have X2:=ab (X2.out.keep0 y2);clear y1 y2 y3;go_wp2_with fail;refine (iY bb bc _ _ 3300008 110200546 wc (X2.out.x (by decide)) Y1.out.x (by decide)).mono ?_;rintro e wd ⟨bd,rfl,y1,y2,y3⟩;have Y2:=ab y1;have D1:=ab (aa C1.out y2);have K3:=ab (K3.out.keep K1.out.lt D1.out (by simp));have K4:=ab (K4.out.keep K2.out.lt D1.out (by simp));have K1:=ab (K1.out.keep0 D1.out);have K2:=ab (K2.out.keep0 D1.out);clear y1 y2 y3;go_wp2_with fail;refine (th bz bd (bC Q k) _ (2+k*113500600) 113500556 wd K2.out Y2.out.x (by omega) (by omega)).mono ?_;rintro e wf ⟨rfl,r1,r2⟩;obtain ⟨a1,a2,a3⟩:=r1.both K2.out K4.out K1.out K3.out (by have:=HBX.out;omega);have K1:=ab a1;have K4:=ab a2;have K3:=ab a3;have E2:Hid (w7.grownBy wf none):=lW (aa E1.out (aa J2.out D1.out)) r1 (Nat.le_trans HBX.out.1 (Nat.le_of_lt HBX.out.2));have K2:Hid (RV wf bz (bC Q (k+1)) (2+(k+1)*113500600)):=by
        show RV _ _ _ _
        rw [aP,HQK.out,EO.out,EF.out,<- HVL.out,<- HF.out];exact .inl (r2.mono (by rw [Nat.add_mul];omega))
       clear a1 a2 a3 r1 r2 Y1 Y2;go_wp2;go_roundw
       case rel=>exact ⟨k+1,by omega,by go_num,K1.out,K2.out,K3.out,K4.out,E2.out⟩
       case measure=>simp [intOf];omega
    ·obtain rfl:k=ix.length:=by omega
     have hi16:=HI16.out;go_wp2_with fail;refine (xp bx bz _ _ (2+ix.length*113500600) (2+ix.length*113500600) wo (K1.out.x (by omega)) (K2.out.x (by omega)) (by omega)).mono ?_;rintro e wc ⟨rfl,g1⟩;have hle:sB (bC P ix.length) (bC Q ix.length)<=0:=by
      have:=HPQ.out;rw [<- HQS.out,hqi.out] at this;exact this
     have C1:=ab g1;clear g1;go_wp2;go_ret;exact ⟨rfl,aa GW7.out (aa K5.out C1.out)⟩
end Go.Proofs.YthblidglcppakaaGreatDoor
