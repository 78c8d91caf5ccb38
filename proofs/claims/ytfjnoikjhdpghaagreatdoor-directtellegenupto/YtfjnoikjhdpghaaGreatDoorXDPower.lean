/- Contracts that the proof leans on. -/
import Derived.Test.YtfjnoikjhdpghaaGreatDoorXCDb
import Derived.Test.YtfjnoikjhdpghaaGreatDoorXCNz
import Derived.Test.YtfjnoikjhdpghaaGreatDoorXHand
namespace Go.Proofs.YtfjnoikjhdpghaaGreatDoor
open Go.RowKit
set_option linter.unusedVariables false
set_option linter.unusedSimpArgs false
set_option maxHeartbeats 8000000
set_option maxRecDepth 10000
attribute [local simp] kO jK
theorem qw {P:Program} {α:Type} (f:α->Value) (e:TypeId) (z0:Value) (by_:Nat) (W:World) {ops:Array Oper} {o:Oper} {a:Act} {K:Act->World->Prop} {Q:Exit->Act->World->Prop} {E:Prop}
  (hg:o.guard=none) (s x:Operand) (t:TypeId) (ho:o.op=.call { callee:=.builtin .append,args:=#[s,x],argTypes:=#[t,t] }) (base:Nat)
  (h1:P.underlying t=some (.slice e)) (hinfo:(P.info? e).map (fun i=>(i.zero,i.size,i.bytes))=some (some z0,1,by_)) (hcz:z0.cells.size=1)
  (v:Value) (xs:List α) (hs:a.eval s=v) (hown:cA f e W base v xs) (b:Nat) (y:α) (hx:a.eval x=.slice (some ⟨b,0,none⟩) 1 1) (hc:W.cell? ⟨b,0,none⟩=some (f y)) (h1c:(f y).oneCell'=true)
  (hlen:xs.length<=1000000) (hby:by_<=24) (hbase:base<=W.heap.size)
  (hK:∀ ao cap w',cA f e w' base (.slice ao (xs.length+1) cap) (xs++[y])->W.grownBy w' v.ownBlock->K (a.put o.dst (.slice ao (xs.length+1) cap)) w') :
  if Region.wanted o (yielded ops a.tmps)=true then Oper.wp P o a W K Q else E:=by
 have hw:Region.wanted o (yielded ops a.tmps)=true:=by simp [Region.wanted,hg]
 rw [if_pos hw];obtain ⟨i,hi,hz0,hsz,hz2⟩:=info_parts hinfo;have hby2:(xs.length+1)*by_<=140737488355328:=by
  have:(xs.length+1)*by_<=(1000000+1)*24:=Nat.mul_le_mul (by omega) hby;omega
 have hnews:∀ j u,[f y][j]? = some u->W.cell? ((⟨b,0,none⟩:Addr).add j)=some u:=by
  intro j u hj;match j with
  | 0 =>
   simp only [List.getElem?_cons_zero,Option.some.injEq] at hj;subst hj;simpa [Addr.add] using hc
  | j+1=>simp at hj
 have h1':∀ u∈[f y],u.oneCell'=true:=by
  intro u hu;simp only [List.mem_singleton] at hu;subst hu;exact h1c
 obtain ⟨v',w',hr,h2,h3,_⟩:=run_append_own (P:=P) W base t o.type e i z0 1 by_ h1 hi hz0 hsz hz2 hcz (by decide) v xs.length (xs.map f) hown ⟨b,0,none⟩ 1 1 [f y] rfl hnews h1' (by unfold maxLen;omega) hby2 hbase;have h6:cA f e w' base v' (xs++[y]):=by
  unfold cA;rw [List.length_append,List.map_append];exact h2
 obtain ⟨ao,cap,ev⟩:=h6.shape;rw [List.length_append,List.length_singleton] at ev;unfold Oper.wp execOp;simp only [ho,resolve,invoke,builtin,Sem.run_bind,Sem.run_pure,Result.andThen_ok,List.map_toArray,List.map_cons,List.map_nil,hs,hx,hr];rw [ev] at h6 ⊢;exact hK ao cap w' h6 h3
def BO (ps:List aI) (V I:Nat->Rat) (i:Nat):Rat:=qh ps V i*I i
def PowE (w:World) (nodes:Int) (ps:List aI) (L:Nat) (e:Ending) (w':World):Prop :=
 ∃ (c1 c2:Int) (n1 n2:Nat) (V I:Nat->Rat) (vv:Value),e=.returned (.tuple #[vv,.agg #[.int .i64 c1,.int .i64 c2]])/\cA sv 45 w' w.heap.size vv (bI (BO ps V I) n2)/\oC nodes ps c1 c2 n1 n2 V I/\w.grownBy w' none/\∀ i,i<n2->nJ (BO ps V I i) (3*L+3)
def PowR (W:World) (ps:List aI) (V I:Nat->Rat) (L:Nat) (ov v:Value) (wr:World):Prop :=
 ∃ i:Nat,i<=ps.length/\v=.int .i64 i/\cA sv 45 wr W.heap.size ov (bI (BO ps V I) i)/\W.grownBy wr none/\∀ j,j<i->nJ (BO ps V I j) (3*L+3)
theorem BP (nodes:Int) (po:Option Addr) (pc:Nat) (ps:List aI) (L:Nat) (w:World) (hb:iD w) (ht:eJ w) (hp:aM w (.slice po ps.length pc) ps) (hLs:∀ n,bV n ps->fC (dA n ps) (n+ps.length)<L) (hL2:2<=L) (hL:L<=3000000) :
  Calls Tryz.prog 7 #[.agg #[.int .i64 nodes,.slice po ps.length pc]] w fun e w'=>PowE w nodes ps L e w':=by
 have HB:=ab hb;have HT:=ab ht;have HP:=ab hp;have HLS:=ab hLs;clear hb ht hp hLs;obtain ⟨gr,hgr⟩:∃ gr,gr=w.heap.size+1:=⟨_,rfl⟩;obtain ⟨W,hW⟩:∃ W,W=(w.alloc (Obj.cells #[.int .i64 nodes,.slice po ps.length pc] 24)).alloc (Obj.cells #[.int .i64 0,.int .i64 0] 32):=⟨_,rfl⟩;have GW:Hid (w.grownBy W none):=by rw [hW];exact ag (ag (ae _ _) _) _
 have HWS:Hid (W.heap.size=w.heap.size+2):=by show _=_;rw [hW];simp
 have NC:Hid (∀ wx,W.grownBy wx none->wx.cell? ⟨w.heap.size,0,none⟩=some (.int .i64 nodes)/\wx.cell? ⟨w.heap.size,1,none⟩=some (.slice po ps.length pc)):=by
  intro wx hg;rw [hW] at hg;exact ⟨hg.cell (by go_simp) (by simp),hg.cell (by go_simp) (by simp)⟩
 have FR:Hid (dI W gr 0 0):=by
  show W.heap[gr]? = _
  rw [hW,hgr];have:=heap_alloc_new (w.alloc (Obj.cells #[.int .i64 nodes,.slice po ps.length pc] 24)) (Obj.cells #[.int .i64 0,.int .i64 0] 32);simpa using this
 have HGR:Hid (gr=w.heap.size+1):=hgr;obtain ⟨a0,a1⟩:=NC.out W (ae _ _);go_enter Tryz.func7,Tryz.ntmps7
 go_upto_region 1 with fail;rw [<- hW];try rw [<- hgr]
 clear hW hgr;go_wp2_with fail;refine (oH nodes po pc ps L W (HB.out.keep GW.out) (HP.out.keep GW.out) HLS.out hL2 (by omega)).mono ?_;intro e w1 hce;obtain ⟨ao1,n1,cc1,ao2,n2,cc2,c1,c2,V,I,rfl,p1,p2,p3,g1⟩:=sZ hce;have P1:=ab p1;have P2:=ab p2;have P3:=ab p3;have hn:=p3.small;have hn1:=hn.1;have hn2:=hn.2;have G1:=ab g1;clear p1 p2 p3 g1 hce hn a0 a1;go_upto_region 2 with fail;obtain ⟨w3,hw3⟩:∃ w3,w3=(w1.alloc (Obj.cells #[.slice ao1 n1 cc1,.slice ao2 n2 cc2] 64)).alloc (Obj.cells #[.int .i64 c1,.int .i64 c2] 32):=⟨_,rfl⟩;have G3:Hid (w1.grownBy w3 none):=by rw [hw3];exact ag (ag (ae _ _) _) _
 obtain ⟨ga,hga⟩:∃ ga,ga=w1.heap.size:=⟨_,rfl⟩;obtain ⟨gf,hgf⟩:∃ gf,gf=w1.heap.size+1:=⟨_,rfl⟩;have CX:Hid (w3.cell? ⟨ga,0,none⟩=some (.slice ao1 n1 cc1)/\w3.cell? ⟨ga,1,none⟩=some (.slice ao2 n2 cc2)/\w3.cell? ⟨gf,0,none⟩=some (.int .i64 c1)/\w3.cell? ⟨gf,1,none⟩=some (.int .i64 c2)):=by
  rw [hw3,hga,hgf];exact ⟨by go_simp,by go_simp,by go_simp,by go_simp⟩
 have HGA:Hid (gr<ga/\ga<w3.heap.size/\gr<gf):=by
  have:=FR.out.lt;have:=G1.out.size;rw [hga,hgf,hw3];refine ⟨by omega,by simp;omega,by omega⟩
 have F3:Hid (dI w3 gr 0 0):=FR.out.keep0 (aa G1.out G3.out);have GA:Hid (w.grownBy w3 none):=aa GW.out (aa G1.out G3.out);have GWA:Hid (W.grownBy w3 none):=aa G1.out G3.out;rw [<- hw3];try rw [<- hgf]
 try rw [<- hga]
 have P1':=ab (P1.out.keep0 G3.out);have P2':=ab (P2.out.keep0 G3.out);clear hw3 hga hgf P1 P2;obtain ⟨s0,s1,s2,s3⟩:=CX.out;obtain ⟨y0,y1,y2,y3⟩:=F3.out.cells;by_cases hx:c1≠0
 ·have hxd:(c1 != 0)=true:=by simp [hx]
  have hz:n1=0/\n2=0:=by
   rcases P3.out with ⟨_,_,_,h1,h2⟩ | ⟨_,_,(⟨h0,_⟩ | ⟨_,h1,h2,_⟩ | ⟨_,h1,h2,_⟩)⟩
   ·exact ⟨h1,h2⟩
   ·exact absurd h0 hx
   ·exact ⟨h1,h2⟩
   ·exact ⟨h1,h2⟩
  obtain ⟨f4,r4⟩:=F3.out.set c1 c2;have R4:=ab r4.1;have HZ:=ab hz;clear hz f4 r4;have ngf:gr≠gf:=by have:=HGA.out;omega
  go_wp2;go_region
  all_goals
   go_wp2;refine bodyPost_ret (v:=.tuple #[.slice none 0 0,.agg #[.int .i64 c1,.int .i64 c2]]) (by simp [results,Tryz.results7,go_sem,y0,y1]) rfl ?_;obtain ⟨rfl,rfl⟩:=HZ.out;refine ⟨c1,c2,0,0,V,I,_,rfl,fS,P3.out,?_,fun i hi=>by omega⟩;have hle:w.heap.size<=gr:=by have:=HGR.out;omega
   have g0:=ai (a:=⟨gr,1,none⟩) (v:=.int .i64 c2) (ai (a:=⟨gr,0,none⟩) (v:=.int .i64 c1) GA.out hle) hle;first | exact g0 | exact nT g0 | exact au g0 1
 replace hx:c1=0:=Classical.not_not.1 hx;subst hx;obtain ⟨hck,hc2,hn1',hn2',hsol,huq⟩:=P3.out.one;subst hc2;obtain ⟨hRN,hnn,hle,hfine⟩:=gR hck;obtain ⟨n,hn⟩:∃ n,n=nodes.toNat:=⟨_,rfl⟩;rw [<- hn] at hRN hnn hn1';subst hnn;subst hn1';subst hn2';obtain ⟨ao,c,e1,hc1,hm1,hr1⟩:=P1'.out;obtain ⟨ap,d,e2,hc3,hm2,hr2⟩:=P2'.out;obtain ⟨rfl,rfl⟩:ao1=ao/\cc1=c:=by injection e1 with x y z;exact ⟨x,z⟩
 obtain ⟨rfl,rfl⟩:ao2=ap/\cc2=d:=by injection e2 with x y z;exact ⟨x,z⟩
 obtain ⟨g1,rfl,hg1,fr1⟩:=hr1 hRN.lo;have F1:=ab fr1;have HR2:=ab hr2;have HRN:=ab hRN;have HM1:=ab hm1;unfold maxLen at hm1 hm2;obtain ⟨n0,n1'⟩:=NC.out w3 GWA.out;clear hck hsol huq hRN hfine hn e1 e2 hr1 hr2 fr1 y0 y1 y2 y3;go_wp2;go_loopw [6,21] (fun ov v wr=>Hid (PowR w3 ps V I L ov v wr)) (fun _ v _=>ps.length-(intOf v).toNat)
 case atStart=>exact ⟨0,by omega,rfl,fS,ae _ _,fun j hj=>by omega⟩
 case round =>
  obtain ⟨i,hi,rfl,l1,l2,l3⟩:=hrel.out;obtain ⟨oa,oc,rfl⟩:=l1.shape;rw [aP] at l1 ⊢;have L1:=ab l1;have L2:=ab l2;have L3:=ab l3;clear l1 l2 l3 hrel s0 s1 s2 s3 n0 n1';by_cases hlt:i<ps.length
  ·obtain ⟨po',pc',e0,_,_,hps⟩:=HP.out;obtain ⟨b0,off,e1,hb,c0,c1,c2,c3,c4,c5,c6⟩:=hps i hlt;have e2:po=po':=by injection e0
   have e4:pc=pc':=by injection e0
   subst e2 e4;subst e1;have hgg:=aa GA.out L2.out;obtain ⟨xa,xb,xc,xd,ea,eb,ec,ed,hxa,hxb,hxc,hxd⟩:=HRN.out.ends ps[i] (List.getElem_mem hlt);obtain ⟨q,hq⟩:∃ q,q=ps[i]:=⟨_,rfl⟩;rw [<- hq] at c0 c1 c2 c3 c4 c5 c6 ea eb;have q0:=hgg.cell c0 (by simp);have q1:=hgg.cell c1 (by simp);have q2:=hgg.cell c2 (by simp);have q3:=hgg.cell c3 (by simp);have q4:=hgg.cell c4 (by simp);have q5:=hgg.cell c5 (by simp);rw [ea] at q1;rw [eb] at q2;have HPOW:Hid (BO ps V I i=(V xa-V xb)*I i):=by
    show _=_
    unfold BO qh;rw [List.getElem?_eq_getElem hlt,<- hq];show (V q.a.toNat-V q.b.toNat)*I i=_
    rw [ea,eb,Int.toNat_natCast,Int.toNat_natCast]
   obtain ⟨g2,rfl,hg2,fr2⟩:=HR2.out (by omega);have F2:=ab fr2;clear c0 c1 c2 c3 c4 c5 c6 hps e0 hgg hq ea eb ec ed fr2;go_upto_region 8 with fail;obtain ⟨bp,hbp⟩:∃ bp,bp=wr.heap.size:=⟨_,rfl⟩;obtain ⟨w5,hw5⟩:∃ w5,w5=wr.alloc (Obj.cells #[.int .i64 q.kind,.int .i64 (xa:Int),.int .i64 (xb:Int),.int .i64 q.c,.int .i64 q.d,.string q.v] 47):=⟨_,rfl⟩;have G5:Hid (wr.grownBy w5 none):=by rw [hw5];exact ag (ae _ _) _
   have PB:Hid (w5.cell? ⟨bp,1,none⟩=some (.int .i64 (xa:Int))/\w5.cell? ⟨bp,2,none⟩=some (.int .i64 (xb:Int))):=by
    rw [hw5,hbp];exact ⟨by go_simp,by go_simp⟩
   have HBP:Hid (bp=wr.heap.size):=hbp;rw [<- hw5];try rw [<- hbp]
   clear hw5 hbp q0 q1 q2 q3 q4 q5;have G35:=ab (aa L2.out G5.out);obtain ⟨uo,ul,uc,do_,dl,dc,t0,t1,t2,t3,_⟩:=(F2.out.keep0 G35.out).at i hlt;have T3:=ab t3;have CZ:Hid (∀ wx r,w5.grownBy wx r->(∀ k,r=some k->w3.heap.size<=k/\k<bp)->kO wx (ga) (.slice (some ⟨g1,0,none⟩) n1 cc1) (.slice (some ⟨g2,0,none⟩) ps.length cc2)/\(wx.cell? ⟨bp,1,none⟩=some (.int .i64 (xa:Int))/\wx.cell? ⟨bp,2,none⟩=some (.int .i64 (xb:Int)))/\jK wx g2 i (.bool (rB (I i))) (.slice uo ul uc) (.slice do_ dl dc)):=by
    intro wx r hg hr;have hga:=HGA.out;have h2:=F2.out.lt;have x1:some ga≠r:=fun e=>by have:=hr ga e.symm;omega
    have x2:some bp≠r:=fun e=>by have:=hr bp e.symm;omega
    have x3:some g2≠r:=fun e=>by have:=hr g2 e.symm;omega
    exact ⟨⟨hg.cell (G35.out.cell CX.out.1 (by simp)) x1,hg.cell (G35.out.cell CX.out.2.1 (by simp)) x1⟩,⟨hg.cell PB.out.1 x2,hg.cell PB.out.2 x2⟩,hg.cell t0 x3,hg.cell t1 x3,hg.cell t2 x3⟩
   have z0:=CZ.out w5 none (ae _ _) (fun k e=>by cases e);have GG:w5.grownBy w5 none:=ae _ _;clear t0 t1 t2 t3;refine hd (fun w'=>kO w' (ga) (.slice (some ⟨g1,0,none⟩) n1 cc1) (.slice (some ⟨g2,0,none⟩) ps.length cc2)/\(w'.cell? ⟨bp,1,none⟩=some (.int .i64 (xa:Int))/\w'.cell? ⟨bp,2,none⟩=some (.int .i64 (xb:Int)))/\jK w' g2 i (.bool (rB (I i))) (.slice uo ul uc) (.slice do_ dl dc)) (fun hHeld=>?_);refine tk 6 [(0,26,.slice oa i oc),(1,27,.agg #[.slice (some ⟨g1,0,none⟩) n1 cc1,.slice (some ⟨g2,0,none⟩) ps.length cc2]),(2,28,.pointer (some ⟨bp,1,none⟩)),(3,29,.int .i64 (xa:Int)),(4,30,.pointer (some ⟨bp,2,none⟩)),(5,31,.int .i64 (xb:Int)),(7,33,.pointer (some ⟨ga,1,none⟩)),(8,34,.slice (some ⟨g2,0,none⟩) ps.length cc2),(9,35,.int .i64 (i:Int)),(10,36,.pointer (some ⟨g2,i*3,none⟩)),(11,37,.agg #[.bool (rB (I i)),.slice uo ul uc,.slice do_ dl dc])] ?_;try simp only [pA,pL,vA,vL,q0,q1,q2,q3]
   refine nk 5 6 (fun K hK=>?_);simp only [bJ,q4,q5,q6,q7];go_simp
   go_at_call 25
   refine (ld g1 n1 cc1 (some ⟨g2,0,none⟩) ps.length cc2 V xa xb L _ (F1.out.keep0 (aa G35.out (gx GG))) hxa hxb hc1 HM1.out (by omega)).mono ?_;rintro e wa ⟨va,rfl,pa,ga'⟩;obtain ⟨ao',al',ac',bo',bl',bc',rfl⟩:=pa.shape;have PA:=ab pa;have GG:=aa (gx GG) ga';clear pa ga';have ha:=CZ.out wa none GG (fun k e=>by cases e);go_wp2_with fail;refine bk hK (fun hHeld=>?_);clear hK K;try simp only [pA,pL,vA,vL,q0,q1,q2,q3]
   refine nk 4 12 (fun K hK=>?_);simp only [bJ,q4,q5,q6,q7];go_simp
   go_at_call 26
   refine (dO _ _ _ _ (L+L+2) L _ (PA.out.keep0 (by first | exact aj _ | exact ah | exact ae _ _)) (T3.out.keep0 (gx GG)) (by omega)).mono ?_;rintro e wb ⟨vb,rfl,pb,gb'⟩;obtain ⟨co',cl',cc',do',dl',dc',rfl⟩:=pb.shape;have PB2:=ab pb;have GG:=aa (gx GG) gb';clear pb gb';have hb:=CZ.out wb none GG (fun k e=>by cases e);go_wp2_with fail;refine bk hK (fun hHeld=>?_);clear hK K;try simp only [pA,pL,vA,vL,q0,q1,q2,q3]
   refine nk 3 13 (fun K hK=>?_);simp only [bJ,q4,q5,q6,q7];go_simp
   go_at_call 27
   refine (xr _ _ (L+L+2+L+1) _ (PB2.out.keep0 (by first | exact aj _ | exact ah | exact ae _ _)) (by omega) (HT.out.keep0 (aa GA.out (aa G35.out (gx GG))))).mono ?_;rintro e wc ⟨rfl,gc'⟩;have GG:=aa (gx GG) gc';clear gc';have hc:=CZ.out wc none GG (fun k e=>by cases e);go_wp2_with fail;refine bk hK (fun hHeld=>?_);clear hK K;try simp only [pA,pL,vA,vL,q0,q1,q2,q3]
   refine nk 2 14 (fun K hK=>?_);simp only [bJ,q4,q5,q6,q7];go_simp
   refine bk hK (fun hHeld=>?_);clear hK K;try simp only [pA,pL,vA,vL,q0,q1,q2,q3]
   refine on1e 1 15 ⟨some 41,.call ⟨.builtin .append,#[.tmp 26,.tmp 40],#[26,26]⟩,26, "direct.go:56",#[⟨0,.data⟩,⟨14,.data⟩,⟨13,.chain⟩],none⟩ (fun K hK=>?_);refine qw sv 45 (sv ⟨#[]⟩) 16 _ rfl _ _ 26 rfl w3.heap.size Tryz.underlying26 Tryz.infoQ rfl (.slice oa i oc) (bI (BO ps V I) i) rfl (L1.out.keep0 (aa G5.out (aa GG (by first | exact ag (ae _ _) _ | exact au (ag (ae _ _) _) 1 | exact ag ah _ | exact ag (aj _) _)))) wc.heap.size ⟨(bS ((V xa-V xb)*I i)).toArray⟩ rfl (by go_simp) rfl (by rw [aP];omega) (by omega) (by simp;exact Nat.le_succ_of_le (Nat.le_trans G35.out.size GG.size)) ?_;intro ao5 cap5 w6 hown hgr;rw [aP];have OW:Hid (cA sv 45 w6 w3.heap.size (.slice ao5 (i+1) cap5) (bI (BO ps V I) (i+1))):=by show cA _ _ _ _ _ _;rw [nF,HPOW.out];rw [aP] at hown;exact hown
   have HG:Hid (w3.grownBy w6 none):=by
    refine aq (r:=none) (aa G35.out (aa GG (by first | exact ag (ae _ _) _ | exact au (ag (ae _ _) _) 1 | exact ag ah _ | exact ag (aj _) _))) hgr (fun _ _ e=>e) (fun b hb e=>?_);have:=(L1.out.fresh b e.symm).1;omega
   have z6:=CZ.out w6 _ (aq (r:=(Value.slice oa i oc).ownBlock) (aa GG (by first | exact ag (ae _ _) _ | exact au (ag (ae _ _) _) 1 | exact ag ah _ | exact ag (aj _) _)) hgr (fun _ _ e=>by cases e) (fun _ _ e=>e)) (fun k e=>by have h1:=L1.out.fresh k e;have:=HBP.out;exact ⟨h1.1,by omega⟩);clear hown hgr;refine bk hK (fun hHeld=>?_);clear hK K;refine tk 0 [(16,6,.slice ao5 (i+1) cap5)] ?_;try simp only [pA,pL,vA,vL,q0,q1,q2,q3]
   refine wpAnyH_done (by kernel_rfl) ?_ _;go_wp2;go_roundw
   case rel=>exact ⟨i+1,by omega,by go_num,OW.out,HG.out,fun j hj=>by
     by_cases hji:j<i
     ·exact L3.out j hji
     ·obtain rfl:j=i:=by omega
      rw [HPOW.out];have:=PB2.out.fit (by omega);rw [show L+L+2+L+1=3*L+3 by omega] at this;exact this⟩
   case measure=>simp [intOf];omega
  ·obtain rfl:i=ps.length:=by omega
   have F4:=ab (F3.out.keep0 L2.out);obtain ⟨y0,y1,y2,y3⟩:=F4.out.cells;obtain ⟨f4,r4⟩:=F4.out.set 0 0;go_wp2;refine bodyPost_ret (v:=.tuple #[.slice oa ps.length oc,.agg #[.int .i64 0,.int .i64 0]]) (by simp [results,Tryz.results7,go_sem,y0,y1]) rfl ?_;have hle:w.heap.size<=gr:=by have:=HGR.out;omega
   exact ⟨0,0,n1,ps.length,V,I,_,rfl,(L1.out.keepB r4.1 (by have:=HGA.out;omega)).low GA.out.size,P3.out,ai (ai (aa GA.out L2.out) _ _ hle) _ _ hle,L3.out⟩
end Go.Proofs.YtfjnoikjhdpghaaGreatDoor
