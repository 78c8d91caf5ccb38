/- Contracts. -/
import Derived.Test.YtbfohfjobncehaaGreatDoorXPx
namespace Go.Proofs.YtbfohfjobncehaaGreatDoor
open Go.RowKit
set_option linter.all false
set_option maxHeartbeats 8000000
set_option maxRecDepth 10000
attribute [local simp] lu fT
theorem ry {P:Program} {α:Type} (f:α->Value) (e:TypeId) (k:Value) (c:Nat) (W:World) {g:Array Oper} {o:Oper} {a:Act} {K:Act->World->Prop} {Q:Exit->Act->World->Prop} {E:Prop}
  (hg:o.guard=none) (s x:Operand) (t:TypeId) (ho:o.op=.call { callee:=.builtin .append,args:=#[s,x],argTypes:=#[t,t] }) (base:Nat)
  (h1:P.underlying t=some (.slice e)) (hinfo:(P.info? e).map (fun i=>(i.zero,i.size,i.bytes))=some (some k,1,c)) (hcz:k.cells.size=1)
  (v:Value) (xs:List α) (hs:a.eval s=v) (hown:bV f e W base v xs) (b:Nat) (y:α) (hx:a.eval x=.slice (some ⟨b,0,none⟩) 1 1) (hc:W.cell? ⟨b,0,none⟩=some (f y)) (h1c:(f y).oneCell'=true)
  (hlen:xs.length<=1000000) (hby:c<=24) (hbase:base<=W.heap.size)
  (hK:∀ ao cap w',bV f e w' base (.slice ao (xs.length+1) cap) (xs++[y])->W.grownBy w' v.ownBlock->K (a.put o.dst (.slice ao (xs.length+1) cap)) w') :
  if Region.wanted o (yielded g a.tmps)=true then Oper.wp P o a W K Q else E:=by
 have A:Region.wanted o (yielded g a.tmps)=true:=by simp [Region.wanted,hg]
 rw [if_pos A];obtain ⟨i,hi,p,q,r⟩:=info_parts hinfo;have h:(xs.length+1)*c<=140737488355328:=by
  have:(xs.length+1)*c<=(1000000+1)*24:=Nat.mul_le_mul O hby;omega
 have d:∀ j u,[f y][j]? = some u->W.cell? ((⟨b,0,none⟩:Addr).add j)=some u:=by
  intro j u n;match j with
  | 0 =>
   simp only [List.getElem?_cons_zero,zI] at n;subst n;simpa [Addr.add] using hc
  | j+1=>simp at n
 have l:∀ u∈[f y],u.oneCell'=true:=by
  intro u w;simp only [List.mem_singleton] at w;subst w;exact h1c
 obtain ⟨B,w',C,D,F,_⟩:=run_append_own (P:=P) W base t o.type e i k 1 c h1 hi p q r hcz zD v xs.length (xs.map f) hown ⟨b,0,none⟩ 1 1 [f y] rfl d l (by unfold maxLen;omega) h hbase;have m:bV f e w' base B (xs++[y]):=by
  unfold bV;rw [List.length_append,List.map_append];exact D
 obtain ⟨ao,cap,z⟩:=m.shape;rw [List.length_append,List.length_singleton] at z;unfold Oper.wp execOp;simp only [ho,resolve,invoke,builtin,Sem.run_bind,Sem.run_pure,Result.andThen_ok,List.map_toArray,List.map_cons,List.map_nil,hs,hx,C];rw [z] at m ⊢;exact hK ao cap w' m F
def q8 (ps:List aD) (V I:Nat->Rat) (i:Nat):Rat:=acr ps V i*I i
def PowE (w:World) (nodes:Int) (ps:List aD) (L:Nat) (e:Ending) (w':World):Prop :=
 ∃ (c1 c2:Int) (n1 n2:Nat) (V I:Nat->Rat) (vv:Value),e=.returned (.tuple #[vv,.agg #[.int .i64 c1,.int .i64 c2]])/\bV sv 47 w' w.heap.size vv (aL (q8 ps V I) n2)/\kp nodes ps c1 c2 n1 n2 V I/\w.grownBy w' none/\∀ i,i<n2->mE (q8 ps V I i) (3*L+3)
def PowR (W:World) (ps:List aD) (V I:Nat->Rat) (L:Nat) (ov v:Value) (wr:World):Prop :=
 ∃ i:Nat,i<=ps.length/\v=.int .i64 i/\bV sv 47 wr W.heap.size ov (aL (q8 ps V I) i)/\W.grownBy wr none/\∀ j,j<i->mE (q8 ps V I j) (3*L+3)
theorem DO (f:Int) (S:Option Addr) (T:Nat) (g:List aD) (L:Nat) (w:World) (hb:lM w) (ht:fh w) (hp:aA w (.slice S g.length T) g) (hk:∀ n,bS n g->fD (cr n g) (n+g.length)<L) (hM:2<=L) (hL:L<=3000000) :
  Calls Tryz.prog 16 #[.agg #[.int .i64 f,.slice S g.length T]] w fun e w'=>PowE w f g L e w':=by
 have HB:=aa hb;have HT:=aa ht;have HP:=aa hp;have hN:=aa hk;clear hb ht hp hk;obtain ⟨gr,hgr⟩:=eX (w.heap.size+1);obtain ⟨W,hW⟩:=eX ((w.alloc (Obj.cells #[.int .i64 f,.slice S g.length T] 24)).alloc (Obj.cells #[.int .i64 0,.int .i64 0] 29));have GW:Hid (w.grownBy W none):=by rw [hW];exact ae (ae (ag _ _) _) _
 have kw:Hid (W.heap.size=w.heap.size+2):=by show _=_;rw [hW];simp
 have NC:Hid (∀ wx,W.grownBy wx none->wx.cell? ⟨w.heap.size,0,none⟩=some (.int .i64 f)/\wx.cell? ⟨w.heap.size,1,none⟩=some (.slice S g.length T)):=by
  intro wx hg;rw [hW] at hg;exact ⟨hg.cell zG Z,hg.cell zG Z⟩
 have FR:Hid (fw W gr 0 0):=by
  show W.heap[gr]? = _
  rw [hW,hgr];have:=heap_alloc_new (w.alloc (Obj.cells #[.int .i64 f,.slice S g.length T] 24)) (Obj.cells #[.int .i64 0,.int .i64 0] 29);simpa using this
 have hl:Hid (gr=w.heap.size+1):=hgr;obtain ⟨a0,a1⟩:=NC.out W (ag _ _);go_enter Tryz.func16,Tryz.ntmps16
 go_upto_region 1 with fail;rw [<- hW];try rw [<- hgr]
 clear hW hgr;go_wp2_with fail;refine (pX f S T g L W (HB.keep GW) (HP.keep GW) hN hM O).mono ?_;intro e w1 ho;obtain ⟨X,N,o,Y,n2,h,c1,c2,V,I,rfl,p1,p2,p3,g1⟩:=uJ ho;have P1:=aa p1;have P2:=aa p2;have P3:=aa p3;have hn:=p3.small;have ky:=hn.1;have kz:=hn.2;have G1:=aa g1;clear p1 p2 p3 g1 ho hn a0 a1;go_upto_region 2 with fail;obtain ⟨p,B⟩:=eX ((w1.alloc (Obj.cells #[.slice X N o,.slice Y n2 h] 78)).alloc (Obj.cells #[.int .i64 c1,.int .i64 c2] 29));have G3:Hid (w1.grownBy p none):=by rw [B];exact ae (ae (ag _ _) _) _
 obtain ⟨D,hga⟩:=eX w1.heap.size;obtain ⟨gf,E⟩:=eX (w1.heap.size+1);have CX:Hid (p.cell? ⟨D,0,none⟩=some (.slice X N o)/\p.cell? ⟨D,1,none⟩=some (.slice Y n2 h)/\p.cell? ⟨gf,0,none⟩=some (.int .i64 c1)/\p.cell? ⟨gf,1,none⟩=some (.int .i64 c2)):=by
  rw [B,hga,E];exact ⟨zG,zG,zG,zG⟩
 have U:Hid (gr<D/\D<p.heap.size/\gr<gf):=by
  have:=FR.out.lt;have:=G1.out.size;rw [hga,E,B];refine ⟨O,by simp;omega,O⟩
 have F3:Hid (fw p gr 0 0):=FR.out.keep0 (ab G1 G3);have GA:Hid (w.grownBy p none):=ab GW (ab G1 G3);have hQ:Hid (W.grownBy p none):=ab G1 G3;rw [<- B];try rw [<- E]
 try rw [<- hga]
 have hR:=aa (P1.keep0 G3);have hS:=aa (P2.keep0 G3);clear B hga E P1 P2;obtain ⟨s0,s1,s2,s3⟩:=CX.out;obtain ⟨y0,y1,y2,y3⟩:=F3.out.cells;by_cases hx:c1≠0
 ·have hT:(c1 != 0)=true:=by simp [hx]
  have hz:N=0/\n2=0:=by
   rcases P3.out with ⟨_,_,_,h1,h2⟩ | ⟨_,_,(⟨h0,_⟩ | ⟨_,h1,h2,_⟩ | ⟨_,h1,h2,_⟩)⟩
   ·exact ⟨h1,h2⟩
   ·exact absurd h0 hx
   ·exact ⟨h1,h2⟩
   ·exact ⟨h1,h2⟩
  obtain ⟨f4,r4⟩:=F3.out.set c1 c2;have R4:=aa r4.1;have HZ:=aa hz;clear hz f4 r4;have kF:gr≠gf:=by have:=U.out;omega
  go_wp2;go_region
  all_goals
   go_wp2;refine bodyPost_ret (v:=.tuple #[.slice none 0 0,.agg #[.int .i64 c1,.int .i64 c2]]) (by simp [results,Tryz.results16,go_sem,y0,y1]) rfl ?_;obtain ⟨rfl,rfl⟩:=HZ.out;refine ⟨c1,c2,0,0,V,I,_,rfl,gE,P3,?_,fun i hi=>O⟩;have t:w.heap.size<=gr:=by have:=hl.out;omega
   have g0:=ah (a:=⟨gr,1,none⟩) (v:=.int .i64 c2) (ah (a:=⟨gr,0,none⟩) (v:=.int .i64 c1) GA t) t;first | exact g0 | exact jH g0 | exact ar g0 1
 replace hx:c1=0:=Classical.not_not.1 hx;subst hx;obtain ⟨hu,ke,P,hv,hw,kf⟩:=P3.out.one;subst ke;obtain ⟨F,hy,t,he⟩:=eK hu;obtain ⟨n,hn⟩:=eX f.toNat;rw [<- hn] at F hy P;subst hy;subst P;subst hv;obtain ⟨ao,c,e1,kg,hA,hB⟩:=hR.out;obtain ⟨ap,d,e2,kH,kk,hC⟩:=hS.out;obtain ⟨rfl,rfl⟩:X=ao/\o=c:=by injection e1 with x y z;exact ⟨x,z⟩
 obtain ⟨rfl,rfl⟩:Y=ap/\h=d:=by injection e2 with x y z;exact ⟨x,z⟩
 obtain ⟨g1,rfl,kN,hD⟩:=hB F.lo;have F1:=aa hD;have hX:=aa hC;have hY:=aa F;have ka:=aa hA;unfold maxLen at hA kk;obtain ⟨n0,kl⟩:=NC.out p hQ;clear hu hw kf F he hn e1 e2 hB hC hD y0 y1 y2 y3;go_wp2;go_loopw [6,21] (fun ov v wr=>Hid (PowR p g V I L ov v wr)) (fun _ v _=>g.length-(intOf v).toNat)
 case atStart=>exact ⟨0,O,rfl,gE,ag _ _,fun j hj=>O⟩
 case round =>
  obtain ⟨i,hi,rfl,l1,l2,l3⟩:=hrel.out;obtain ⟨oa,oc,rfl⟩:=l1.shape;rw [bd] at l1 ⊢;have L1:=aa l1;have L2:=aa l2;have L3:=aa l3;clear l1 l2 l3 hrel s0 s1 s2 s3 n0 kl;by_cases hlt:i<g.length
  ·obtain ⟨kn,ko,e0,_,_,hE⟩:=HP.out;obtain ⟨b0,off,e1,hb,c0,c1,c2,c3,c4,c5,c6⟩:=hE i hlt;have e2:S=kn:=by injection e0
   have e4:T=ko:=by injection e0
   subst e2 e4;subst e1;have l:=ab GA L2;obtain ⟨Q,R,xc,xd,ea,eb,ec,ed,ks,ku,kS,hT⟩:=hY.out.ends g[i] (List.getElem_mem hlt);obtain ⟨q,hq⟩:=eX (g[i]);rw [<- hq] at c0 c1 c2 c3 c4 c5 c6 ea eb;have q0:=l.cell c0 Z;have q1:=l.cell c1 Z;have q2:=l.cell c2 Z;have q3:=l.cell c3 Z;have q4:=l.cell c4 Z;have q5:=l.cell c5 Z;rw [ea] at q1;rw [eb] at q2;have J:Hid (q8 g V I i=(V Q-V R)*I i):=by
    show _=_
    unfold q8 acr;rw [zX hlt,<- hq];show (V q.a.toNat-V q.b.toNat)*I i=_
    rw [ea,eb,Int.toNat_natCast,Int.toNat_natCast]
   obtain ⟨C,rfl,qa,hF⟩:=hX.out O;have F2:=aa hF;clear c0 c1 c2 c3 c4 c5 c6 hE e0 l hq ea eb ec ed hF;go_upto_region 8 with fail;obtain ⟨u,G⟩:=eX wr.heap.size;obtain ⟨w5,H⟩:=eX (wr.alloc (Obj.cells #[.int .i64 q.kind,.int .i64 (Q:Int),.int .i64 (R:Int),.int .i64 q.c,.int .i64 q.d,.string q.v] 60));have G5:Hid (wr.grownBy w5 none):=by rw [H];exact ae (ag _ _) _
   have PB:Hid (w5.cell? ⟨u,1,none⟩=some (.int .i64 (Q:Int))/\w5.cell? ⟨u,2,none⟩=some (.int .i64 (R:Int))):=by
    rw [H,G];exact ⟨zG,zG⟩
   have kb:Hid (u=wr.heap.size):=G;rw [<- H];try rw [<- G]
   clear H G q0 q1 q2 q3 q4 q5;have m:=aa (ab L2 G5);obtain ⟨uo,ul,uc,hf,dl,dc,t0,t1,t2,t3,_⟩:=(F2.keep0 m).at i hlt;have T3:=aa t3;have CZ:Hid (∀ wx r,w5.grownBy wx r->(∀ k,r=some k->p.heap.size<=k/\k<u)->lu wx (D) (.slice (some ⟨g1,0,none⟩) N o) (.slice (some ⟨C,0,none⟩) g.length h)/\(wx.cell? ⟨u,1,none⟩=some (.int .i64 (Q:Int))/\wx.cell? ⟨u,2,none⟩=some (.int .i64 (R:Int)))/\fT wx C i (.bool (rB (I i))) (.slice uo ul uc) (.slice hf dl dc)):=by
    intro wx r hg hr;have hga:=U.out;have h2:=F2.out.lt;have x1:some D≠r:=fun e=>by have:=hr D e.symm;omega
    have x2:some u≠r:=fun e=>by have:=hr u e.symm;omega
    have x3:some C≠r:=fun e=>by have:=hr C e.symm;omega
    exact ⟨⟨hg.cell (m.cell CX.1 Z) x1,hg.cell (m.cell CX.2.1 Z) x1⟩,⟨hg.cell PB.1 x2,hg.cell PB.2 x2⟩,hg.cell t0 x3,hg.cell t1 x3,hg.cell t2 x3⟩
   have z0:=CZ.out w5 none (ag _ _) nofun;have GG:w5.grownBy w5 none:=ag _ _;clear t0 t1 t2 t3;refine hd (fun w'=>lu w' (D) (.slice (some ⟨g1,0,none⟩) N o) (.slice (some ⟨C,0,none⟩) g.length h)/\(w'.cell? ⟨u,1,none⟩=some (.int .i64 (Q:Int))/\w'.cell? ⟨u,2,none⟩=some (.int .i64 (R:Int)))/\fT w' C i (.bool (rB (I i))) (.slice uo ul uc) (.slice hf dl dc)) (fun hHeld=>?_);refine tk 6 [(0,26,.slice oa i oc),(1,27,.agg #[.slice (some ⟨g1,0,none⟩) N o,.slice (some ⟨C,0,none⟩) g.length h]),(2,28,.pointer (some ⟨u,1,none⟩)),(3,29,.int .i64 (Q:Int)),(4,30,.pointer (some ⟨u,2,none⟩)),(5,31,.int .i64 (R:Int)),(7,33,.pointer (some ⟨D,1,none⟩)),(8,34,.slice (some ⟨C,0,none⟩) g.length h),(9,35,.int .i64 (i:Int)),(10,36,.pointer (some ⟨C,i*3,none⟩)),(11,37,.agg #[.bool (rB (I i)),.slice uo ul uc,.slice hf dl dc])] ?_;try simp only [pA,pL,vA,vL,q0,q1,q2,q3]
   refine cQ 5 6 (fun K s=>?_);simp only [ax,q4,q5,q6,q7];go_simp
   go_at_call 37
   refine (ma g1 N o (some ⟨C,0,none⟩) g.length h V Q R L _ (F1.keep0 (ab m (gx GG))) ks ku kg ka O).mono ?_;rintro e wa ⟨va,rfl,pa,hG⟩;obtain ⟨qb,qc,qf,ql,qo,qq,rfl⟩:=pa.shape;have PA:=aa pa;have GG:=ab (gx GG) hG;clear pa hG;have ha:=CZ.out wa none GG nofun;go_wp2_with fail;refine bk s (fun hHeld=>?_);clear s K;try simp only [pA,pL,vA,vL,q0,q1,q2,q3]
   refine cQ 4 12 (fun K s=>?_);simp only [ax,q4,q5,q6,q7];go_simp
   go_at_call 38
   refine (fj _ _ _ _ (L+L+2) L _ (PA.keep0 zQ) (T3.keep0 (gx GG)) O).mono ?_;rintro e wb ⟨vb,rfl,pb,hH⟩;obtain ⟨qs,ya,yb,yc,yl,yn,rfl⟩:=pb.shape;have hm:=aa pb;have GG:=ab (gx GG) hH;clear pb hH;have hb:=CZ.out wb none GG nofun;go_wp2_with fail;refine bk s (fun hHeld=>?_);clear s K;try simp only [pA,pL,vA,vL,q0,q1,q2,q3]
   refine cQ 3 13 (fun K s=>?_);simp only [ax,q4,q5,q6,q7];go_simp
   go_at_call 39
   refine (zt _ _ (L+L+2+L+1) _ (hm.keep0 zQ) O (HT.keep0 (ab GA (ab m (gx GG))))).mono ?_;rintro e wc ⟨rfl,hI⟩;have GG:=ab (gx GG) hI;clear hI;have hc:=CZ.out wc none GG nofun;go_wp2_with fail;refine bk s (fun hHeld=>?_);clear s K;try simp only [pA,pL,vA,vL,q0,q1,q2,q3]
   refine cQ 2 14 (fun K s=>?_);simp only [ax,q4,q5,q6,q7];go_simp
   refine bk s (fun hHeld=>?_);clear s K;try simp only [pA,pL,vA,vL,q0,q1,q2,q3]
   refine on1e 1 15 ⟨some 41,.call ⟨.builtin .append,#[.tmp 26,.tmp 40],#[39,39]⟩,39, "direct.go:56",#[⟨0,.data⟩,⟨14,.data⟩,⟨13,.chain⟩],none⟩ (fun K s=>?_);refine ry sv 47 (sv ⟨#[]⟩) 16 _ rfl _ _ 39 rfl p.heap.size Tryz.underlying39 Tryz.infoQ rfl (.slice oa i oc) (aL (q8 g V I) i) rfl (L1.keep0 (ab G5 (ab GG (by first | exact ae (ag _ _) _ | exact ar (ae (ag _ _) _) 1 | exact ae aX _ | exact ae (bG _) _)))) wc.heap.size ⟨(bZ ((V Q-V R)*I i)).toArray⟩ rfl zG rfl (by rw [bd];omega) O (by simp;exact Nat.le_succ_of_le (Nat.le_trans m.size GG.size)) ?_;intro hs M w6 A hgr;rw [bd];have OW:Hid (bV sv 47 w6 p.heap.size (.slice hs (i+1) M) (aL (q8 g V I) (i+1))):=by show bV ..;rw [gJ,J];rw [bd] at A;exact A
   have HG:Hid (p.grownBy w6 none):=by
    refine aj (r:=none) (ab m (ab GG (by first | exact ae (ag _ _) _ | exact ar (ae (ag _ _) _) 1 | exact ae aX _ | exact ae (bG _) _))) hgr (fun _ _ e=>e) (fun b hb e=>?_);have:=(L1.fresh b e.symm).1;omega
   have z6:=CZ.out w6 _ (aj (r:=(Value.slice oa i oc).ownBlock) (ab GG (by first | exact ae (ag _ _) _ | exact ar (ae (ag _ _) _) 1 | exact ae aX _ | exact ae (bG _) _)) hgr nofun (fun _ _ e=>e)) (fun k e=>by have h1:=L1.out.fresh k e;have:=kb.out;exact ⟨h1.1,O⟩);clear A hgr;refine bk s (fun hHeld=>?_);clear s K;refine tk 0 [(16,6,.slice hs (i+1) M)] ?_;try simp only [pA,pL,vA,vL,q0,q1,q2,q3]
   refine wpAnyH_done zK ?_ _;go_wp2;go_roundw
   case rel=>exact ⟨i+1,O,zN,OW,HG,fun j hj=>by
     by_cases kc:j<i
     ·exact L3 j kc
     ·obtain rfl:j=i:=O
      rw [J];have:=hm.out.fit O;rw [show L+L+2+L+1=3*L+3 by omega] at this;exact this⟩
   case measure=>exact bO
  ·obtain rfl:i=g.length:=O
   have F4:=aa (F3.keep0 L2);obtain ⟨y0,y1,y2,y3⟩:=F4.out.cells;obtain ⟨f4,r4⟩:=F4.out.set 0 0;go_wp2;refine bodyPost_ret (v:=.tuple #[.slice oa g.length oc,.agg #[.int .i64 0,.int .i64 0]]) (by simp [results,Tryz.results16,go_sem,y0,y1]) rfl ?_;have t:w.heap.size<=gr:=by have:=hl.out;omega
   exact ⟨0,0,N,g.length,V,I,_,rfl,(L1.keepB r4.1 (by have:=U.out;omega)).low GA.size,P3,ah (ah (ab GA L2) _ _ t) _ _ t,L3⟩
end Go.Proofs.YtbfohfjobncehaaGreatDoor
