/- Contracts that the proof leans on. -/
import Derived.Test.YtgilmecjbjoonabGreatDoorCCNc
import Derived.Test.YtgilmecjbjoonabGreatDoorCSSolve
import Derived.Test.YtgilmecjbjoonabGreatDoorCCSc
import Derived.Test.YtgilmecjbjoonabGreatDoorCSNode
namespace Go.Proofs.YtgilmecjbjoonabGreatDoor
open Go.RowKit
set_option linter.unusedVariables false
set_option linter.unusedSimpArgs false
set_option maxHeartbeats 8000000
set_option maxRecDepth 10000
theorem tO (fb:Bool) (fo fo2:Option Addr) (fl fc fl2 fc2:Nat) (n j:Nat) (po:Option Addr) (pc:Nat) (ps:List aU) (L:Nat) (w:World) (h1:FQ w (.agg #[.bool fb,.slice fo fl fc,.slice fo2 fl2 fc2]) 1 L) (hp:aV w (.slice po ps.length pc) ps)
  (hj:j<n) (hn:n<=1000) (hk:ps.length<=1000) (hL1:1<=L) (hL:L<=100000000) :
  Calls Tryz.prog 160 #[(iP fb (.slice fo fl fc) (.slice fo2 fl2 fc2)),.agg #[.int .i64 ((n:Nat):Int),.slice po ps.length pc],.int .i64 ((j:Nat):Int)] w fun e w'=>lk w (n+ps.length+1) (ff n ps j) L e w':=by
 by_cases h0:j=0
 ·subst h0;have:=qk fb fo fo2 fl fc fl2 fc2 n ps.length po pc L w h1 hn hk;unfold ff;rw [if_pos rfl];exact this
 ·have:=tP fb fo fo2 fl fc fl2 fc2 n j _ ps L w h1 hp hj h0 hn hk hL1 hL;unfold ff;rw [if_neg h0,if_pos hj];exact this
theorem tS (fb:Bool) (fo fo2:Option Addr) (fl fc fl2 fc2:Nat) (n i:Nat) (po:Option Addr) (pc:Nat) (ps:List aU) (p:aU) (u1 d1 u2 d2 u3 d3 u4 d4:Value) (L:Nat) (w:World) (hp:aV w (.slice po ps.length pc) ps) (hR:cE n ps) (hi:i<ps.length) (hpe:p=ps[i])
  (k1:FQ w (.agg #[.bool (rB (cI p.kind p.q)),u1,d1]) (cI p.kind p.q) L) (k2:FQ w (.agg #[.bool (rB (cM p.kind p.q)),u2,d2]) (cM p.kind p.q) L) (k3:FQ w (.agg #[.bool (rB (cJ p.kind p.q)),u3,d3]) (cJ p.kind p.q) L) (k4:FQ w (.agg #[.bool (rB (cW p.kind p.q)),u4,d4]) (cW p.kind p.q) L)
  (hL0:p.v.size+2<=L) (hL:L<=100000000) :
  Calls Tryz.prog 161 #[(iP fb (.slice fo fl fc) (.slice fo2 fl2 fc2)),.agg #[.int .i64 ((n:Nat):Int),.slice po ps.length pc],.int .i64 ((i:Nat):Int),.agg #[.bool (rB (cI p.kind p.q)),u1,d1,.bool (rB (cM p.kind p.q)),u2,d2,.bool (rB (cJ p.kind p.q)),u3,d3,.bool (rB (cW p.kind p.q)),u4,d4]] w
   fun e w'=>lk w (n+ps.length+1) (ff n ps (n+i)) L e w':=by
 subst hpe;obtain ⟨xa,xb,xc,xd,ea,eb,ec,ed,ha,hb,hc,hd⟩:=hR.ends ps[i] (List.getElem_mem hi);obtain ⟨a1,a2,a3,a4,a5,a6,e1⟩:=k1.shape;obtain ⟨b1,b2,b3,b4,b5,b6,e2⟩:=k2.shape;obtain ⟨c1,c2,c3,c4,c5,c6,e3⟩:=k3.shape;obtain ⟨f1,f2,f3,f4,f5,f6,e4⟩:=k4.shape;simp only [Value.agg.injEq,Array.mk.injEq,List.cons.injEq,and_true,true_and] at e1 e2 e3 e4;obtain ⟨rfl,rfl⟩:=e1;obtain ⟨rfl,rfl⟩:=e2;obtain ⟨rfl,rfl⟩:=e3;obtain ⟨rfl,rfl⟩:=e4;obtain ⟨z1,z2,z3,z4⟩:=wR (L:=L) (xa:=xa) (xb:=xb) (xc:=xc) (xd:=xd) (uG ps[i].kind ps[i].q) (uH ps[i].kind ps[i].q) ps[i].fit (by omega);have hlo:=hR.lo;have hhi:=hR.hi;have hle:=hR.len;have:=tT fb fo fo2 fl fc fl2 fc2 n i xa xb xc xd _ ps (cI ps[i].kind ps[i].q) (cM ps[i].kind ps[i].q) (cJ ps[i].kind ps[i].q) (cW ps[i].kind ps[i].q) _ _ _ _ _ _ _ _ _ _ _ _ _ _ _ _ _ _ _ _ _ _ _ _ L w hp hi ea eb ec ed ha hb hc hd k1 k2 k3 k4 (by omega) (by omega) hL z1 z2 z3 z4;have e:ff n ps (n+i)=kL n i (n+ps.length+1) xa xb xc xd (cI ps[i].kind ps[i].q) (cM ps[i].kind ps[i].q) (cJ ps[i].kind ps[i].q) (cW ps[i].kind ps[i].q):=by
  unfold ff zh;rw [if_neg (by omega),if_neg (by omega),show n+i-n=i by omega,List.getElem?_eq_getElem hi];show kL n i (n+ps.length+1) ps[i].a.toNat ps[i].b.toNat ps[i].c.toNat ps[i].d.toNat _ _ _ _=_
  rw [ea,eb,ec,ed];rfl
 rw [e];exact this
theorem cQ (f g:Nat->Rat):∀ k,(∀ i,i<k->f i=g i)->bZ f k=bZ g k:=by
 intro k;induction k with
 | zero=>intro _;rfl
 | succ k ih=>intro h;rw [aZ,aZ,ih (fun i hi=>h i (by omega)),h k (by omega)]
theorem aN.congr {n:Nat} {ps:List aU} (hR:cE n ps) {V I V2 I2:Nat->Rat} (h:aN n ps V I) (hV:∀ j,j<n->V j=V2 j) (hI:∀ i,i<ps.length->I i=I2 i):aN n ps V2 I2:=by
 have hlo:=hR.lo;refine ⟨by rw [<- hV 0 (by omega)];exact h.gnd,fun r h0 hn=>?_,fun i hi=>?_⟩
 ·rw [<- h.node r h0 hn];exact cQ _ _ _ (fun i hi=>by rw [hI i hi])
 ·obtain ⟨xa,xb,xc,xd,ea,eb,ec,ed,ha,hb,hc,hd⟩:=hR.ends ps[i] (List.getElem_mem hi);have:=h.part i hi;rw [hI i hi,hV _ (by rw [ea];simpa using ha),hV _ (by rw [eb];simpa using hb),hV _ (by rw [ec];simpa using hc),hV _ (by rw [ed];simpa using hd)] at this;exact this
theorem iE {n:Nat} {ps:List aU} (hR:cE n ps) {V I:Nat->Rat} (h:aN n ps V I):∃ x,mW (ff n ps) (n+ps.length) x/\(∀ j,j<n->x j=V j)/\∀ i,i<ps.length->x (n+i)=I i:=by
 have e1:∀ j,j<n->(fun j=>if j<n then V j else if j<n+ps.length then I (j-n) else -1:Nat->Rat) j=V j:=fun j hj=>by simp only;rw [if_pos hj]
 have e2:∀ i,i<ps.length->(fun j=>if j<n then V j else if j<n+ps.length then I (j-n) else -1:Nat->Rat) (n+i)=I i:=fun i hi=>by simp only;rw [if_neg (by omega),if_pos (by omega),show n+i-n=i by omega]
 refine ⟨fun j=>if j<n then V j else if j<n+ps.length then I (j-n) else -1,(iD hR _).2 ⟨?_,?_⟩,e1,e2⟩
 ·rw [if_neg (by omega),if_neg (by omega)]
 ·exact h.congr hR (fun j hj=>(e1 j hj).symm) (fun i hi=>(e2 i hi).symm)
theorem bV.low {w:World} {base base':Nat} {v:Value} {n:Nat} {R:Nat->Rat} {L:Nat} (h:bV w base v n R L) (hb:base'<=base):bV w base' v n R L:=by
 obtain ⟨ao,c,e,h1,h2,h3⟩:=h;refine ⟨ao,c,e,h1,h2,fun h0=>?_⟩;obtain ⟨b,e1,e2,e3⟩:=h3 h0;exact ⟨b,e1,Nat.le_trans hb e2,e3⟩
theorem kB (g k n cap:Nat) (X:Nat->Rat) (L:Nat) (w:World) (h:aK w g k X L) (hnk:n<=k) (hn:n<=3000) (hc:n<=cap) (hm:cap<=maxLen) :
  Calls Tryz.prog 163 #[.slice (some ⟨g,0,none⟩) n cap] w fun e w'=>∃ v,e=.returned v/\bV w' w.heap.size v n X L/\w.grownBy w' none:=by
 obtain ⟨xs,x1,x2,x3,x4⟩:=h.piece 0 n (by omega);refine iC g 0 n cap X L w xs x1 (fun j u hj=>?_) x3 (fun w' b cur e h1 h2 h3=>(x4 w' b cur e h1 h2 h3).congr (fun i _=>by rw [Nat.zero_add])) hn hc hm;have:=x2 j u hj;rw [Nat.zero_mul] at this;exact this
theorem pY (g k n l cap:Nat) (X:Nat->Rat) (L:Nat) (w:World) (h:aK w g k X L) (hnk:n+l<=k) (hn:l<=3000) (hc:l<=cap) (hm:cap<=maxLen) :
  Calls Tryz.prog 163 #[.slice (some ⟨g,n*3,none⟩) l cap] w fun e w'=>∃ v,e=.returned v/\bV w' w.heap.size v l (fun i=>X (n+i)) L/\w.grownBy w' none:=by
 obtain ⟨xs,x1,x2,x3,x4⟩:=h.piece n l hnk;exact iC g (n*3) l cap _ L w xs x1 x2 x3 x4 hn hc hm
theorem pX (b off:Nat) (X:Nat->Rat) (L:Nat) (w:World) :
  Calls Tryz.prog 163 #[.slice (some ⟨b,off,none⟩) 0 0] w fun e w'=>∃ v,e=.returned v/\bV w' w.heap.size v 0 X L/\w.grownBy w' none :=
 iC b off 0 0 X L w [] rfl (fun j u h=>by simp at h) (fun u h=>by simp at h) (fun w' g cur e h1 h2 h3=>⟨cur,e,h2,fun i hi=>by omega⟩) (by omega) (by omega) (by unfold maxLen;omega)
def NetE (w:World) (n:Nat) (ps:List aU) (L:Nat) (e:Ending) (w':World):Prop :=
 (∃ v1 v2 V I,e=.returned (.tuple #[v1,v2,.int .i64 0])/\bV w' w.heap.size v1 n V L/\bV w' w.heap.size v2 ps.length I L/\aN n ps V I/\(∀ V' I',aN n ps V' I'->(∀ j,j<n->V' j=V j)/\∀ i,i<ps.length->I' i=I i)/\w.grownBy w' none)
 ∨ (e=.returned (.tuple #[.slice none 0 0,.slice none 0 0,.int .i64 7])/\(¬ ∃ V I,aN n ps V I)/\w.grownBy w' none)
 ∨ (e=.returned (.tuple #[.slice none 0 0,.slice none 0 0,.int .i64 8])/\(∃ V I V' I',aN n ps V I/\aN n ps V' I'/\((∃ j,j<n/\V j≠V' j)∨∃ i,i<ps.length/\I i≠I' i))/\w.grownBy w' none)
def NetR (W:World) (base n k lo m:Nat) (ps:List aU) (L:Nat) (v9 v:Value) (wr:World):Prop :=
 ∃ (i:Nat) (bs cs:Nat->Nat),i<=k/\v=.int .i64 i/\gJ (kr (m+1)) 92 wr base v9 (fi bs cs (lo+i))/\pT wr base (m+1) (lo+i) bs cs (ff n ps) L/\W.grownBy wr none
theorem net_at (fb:Bool) (fo fo2:Option Addr) (fl fc fl2 fc2:Nat) (n:Nat) (po:Option Addr) (pc:Nat) (ps:List aU) (bf bop bs bz:Nat) (mm:Int) (L:Nat) (w:World) (hml:w.cell? ⟨2,0,none⟩=some (.int .i64 mm))
  (h1:FQ w (.agg #[.bool fb,.slice fo fl fc,.slice fo2 fl2 fc2]) 1 L) (hp:aV w (.slice po ps.length pc) ps) (hR:cE n ps) (hF:w.cell? ⟨bf,0,none⟩=some (.bool fb)/\w.cell? ⟨bf,1,none⟩=some (.slice fo fl fc)/\w.cell? ⟨bf,2,none⟩=some (.slice fo2 fl2 fc2)/\w.cell? ⟨bf,3,none⟩=some (.func (.func 153) #[] #[])/\w.cell? ⟨bf,4,none⟩=some (.func (.func 132) #[] #[])/\w.cell? ⟨bf,5,none⟩=some (.func (.func 88) #[] #[])/\w.cell? ⟨bf,6,none⟩=some (.func (.func 53) #[] #[])/\w.cell? ⟨bf,7,none⟩=some (.func (.func 154) #[] #[])/\w.cell? ⟨bf,8,none⟩=some (.func (.func 155) #[] #[])/\w.cell? ⟨bf,9,none⟩=some (.func (.func 156) #[] #[])/\w.cell? ⟨bf,10,none⟩=some (.func (.func 157) #[] #[]))
  (hop:w.cell? ⟨bop,0,none⟩=some (.func (.func 158) #[] #[.pointer (some ⟨bf,0,none⟩),.pointer (some ⟨bz,0,none⟩)])) (hs:w.cell? ⟨bs,0,none⟩=some (.bool false)/\w.cell? ⟨bs,1,none⟩=some (.slice none 0 0)/\w.cell? ⟨bs,2,none⟩=some (.slice none 0 0)) (hz:w.cell? ⟨bz,0,none⟩=some (.bool false)/\w.cell? ⟨bz,1,none⟩=some (.slice none 0 0)/\w.cell? ⟨bz,2,none⟩=some (.slice none 0 0)) (hLs:ft (du n ps) (n+ps.length)<L) (hL:L<=30000000) :
  Calls Tryz.prog 103 #[(iP fb (.slice fo fl fc) (.slice fo2 fl2 fc2)),.agg #[.int .i64 ((n:Nat):Int),.slice po ps.length pc],.func (.func 159) #[] #[.pointer (some ⟨bf,0,none⟩),.pointer (some ⟨bop,0,none⟩),.pointer (some ⟨bs,0,none⟩)]] w fun e w'=>NetE w n ps L e w':=by
 have HML:=ab hml;have H1:=ab h1;have HP:=ab hp;have HR:=ab hR;have HF:=ab hF;have HOP:=ab hop;have HS:=ab hs;have HZ:=ab hz;have HLS:=ab hLs;have hlo:=hR.lo;have hhi:=hR.hi;have hle:=hR.len;have hL1:1<=L:=by omega
 obtain ⟨ao_,cap_,ep,hp1,hp2,hp3⟩:=hp;simp only [Value.slice.injEq,true_and] at ep;obtain ⟨rfl,rfl⟩:=ep;have HPC:=ab hp3;unfold maxLen at hp2;obtain ⟨m,hm⟩:∃ m,m=n+ps.length:=⟨_,rfl⟩;have HMM:=ab hm;have hm28:m<=28:=by omega
 have hmn:n<=m:=by omega
 clear hml h1 hR hF hop hs hz hLs hp3 hm;obtain ⟨W,hW⟩:∃ W,W=(w.alloc (Obj.cells #[.bool fb,.slice fo fl fc,.slice fo2 fl2 fc2,.func (.func 153) #[] #[],.func (.func 132) #[] #[],.func (.func 88) #[] #[],.func (.func 53) #[] #[],.func (.func 154) #[] #[],.func (.func 155) #[] #[],.func (.func 156) #[] #[],.func (.func 157) #[] #[]] 145)).alloc (Obj.cells #[.int .i64 ((n:Nat):Int),.slice po ps.length pc] 24):=⟨_,rfl⟩;have GW:Hid (w.grownBy W none):=by rw [hW];exact ag (ag (ae _ _) _) _
 have HWS:Hid (W.heap.size=w.heap.size+2):=by show _=_;rw [hW];simp
 have BASE:Hid (∀ wx,W.grownBy wx none->wx.cell? ⟨w.heap.size,0,none⟩=some (.bool fb)/\wx.cell? ⟨w.heap.size,1,none⟩=some (.slice fo fl fc)/\wx.cell? ⟨w.heap.size,2,none⟩=some (.slice fo2 fl2 fc2)/\wx.cell? ⟨w.heap.size,3,none⟩=some (.func (.func 153) #[] #[])/\wx.cell? ⟨w.heap.size,4,none⟩=some (.func (.func 132) #[] #[])/\wx.cell? ⟨w.heap.size,5,none⟩=some (.func (.func 88) #[] #[])/\wx.cell? ⟨w.heap.size,6,none⟩=some (.func (.func 53) #[] #[])/\wx.cell? ⟨w.heap.size,7,none⟩=some (.func (.func 154) #[] #[])/\wx.cell? ⟨w.heap.size,8,none⟩=some (.func (.func 155) #[] #[])/\wx.cell? ⟨w.heap.size,9,none⟩=some (.func (.func 156) #[] #[])/\wx.cell? ⟨w.heap.size,10,none⟩=some (.func (.func 157) #[] #[])/\wx.cell? ⟨w.heap.size+1,0,none⟩=some (.int .i64 ((n:Nat):Int))/\wx.cell? ⟨w.heap.size+1,1,none⟩=some (.slice po ps.length pc)):=by
  intro wx hg;rw [hW] at hg;exact ⟨hg.cell (by go_simp) (by simp),hg.cell (by go_simp) (by simp),hg.cell (by go_simp) (by simp),hg.cell (by go_simp) (by simp),hg.cell (by go_simp) (by simp),hg.cell (by go_simp) (by simp),hg.cell (by go_simp) (by simp),hg.cell (by go_simp) (by simp),hg.cell (by go_simp) (by simp),hg.cell (by go_simp) (by simp),hg.cell (by go_simp) (by simp),hg.cell (by go_simp) (by simp),hg.cell (by go_simp) (by simp)⟩
 obtain ⟨s0,s1,s2,s3,s4,s5,s6,s7,s8,s9,s10,s11,s12⟩:=BASE.out W (ae _ _);go_enter Tryz.func103,Tryz.ntmps103
 go_upto_region 2 with fail;rw [<- hW];clear hW;go_wp2;go_loopw [9,16] (fun v9 v wr=>Hid (NetR W W.heap.size n n 0 m ps L v9 v wr)) (fun _ v _=>n-(intOf v).toNat)
 case atStart=>exact ⟨0,fun _=>0,fun _=>0,by omega,rfl,rP,pT.nil _ _ _ _ _ _ _,ae _ _⟩
 case round =>
  obtain ⟨i,bt,ct,hi,rfl,l1,l2,l3⟩:=hrel.out;rw [Nat.zero_add] at l1 l2;obtain ⟨oa,oc,rfl⟩:=l1.1.shape;rw [cm] at l1 ⊢;have L1:=ab l1;have L2:=ab l2;have L3:=ab l3;clear l1 l2 l3 hrel s0 s1 s2 s3 s4 s5 s6 s7 s8 s9 s10 s11 s12;by_cases hlt:i<n
  ·obtain ⟨s0,s1,s2,s3,s4,s5,s6,s7,s8,s9,s10,s11,s12⟩:=BASE.out wr L3.out;go_wp2_with fail;refine (tO fb fo fo2 fl fc fl2 fc2 n i po pc ps L _ (H1.out.keep0 (aa GW.out L3.out)) (HP.out.keep (aa GW.out L3.out)) hlt (by omega) (by omega) hL1 (by omega)).mono ?_;rintro e w1 ⟨g,rfl,hg1,f1,g1⟩;rw [<- HMM.out] at f1 ⊢;have F1:=ab f1;have G1:=ab (aa L3.out g1);have O1:=ab (L1.out.keep0 g1);have O2:=ab (L2.out.keep0 g1);have HNE:Hid ((Value.slice oa i oc).ownBlock≠some g):=fun e=>by have:=(L1.out.1.fresh g e).2;omega
   have HNB:Hid (∀ j,j<i->bt j≠g):=fun j hj e=>by have:=(L2.out.row j hj).lt;omega
   have HGW:Hid (W.heap.size<=g):=by show _<=_;have:=L3.out.size;omega
   have HSZ:Hid (W.heap.size<=w1.heap.size):=G1.out.size;clear f1 g1 s0 s1 s2 s3 s4 s5 s6 s7 s8 s9 s10 s11 s12 L1 L2;go_wp2_with (at_builtin;refine iN (kr (m+1)) 92 (.slice none 0 0) 24 _ rfl _ _ 207 rfl W.heap.size Tryz.underlying207 Tryz.infoRow rfl (fun x=>by simp [Value.cells]) (fun u x=>by simp [kr]) (.slice oa i oc) (fi bt ct i) rfl (O1.out.keep0 (ag (ae _ _) _)) w1.heap.size (g,m+1) rfl (by go_simp;rfl) rfl (by rw [cm];omega) (by omega) (by simp;exact Nat.le_succ_of_le HSZ.out) ?_)
   intro ao cap5 w5 hown hgr hkk;rw [cm] at hown ⊢;have RA:=ab (gA (O1.out.keep0 (ag (ae w1 none) _)) (by omega) (O2.out.keep0 (ag (ae w1 none) _)) (Nat.le_refl _) (by unfold maxLen;omega) (F1.out.keep0 (ag (ae w1 none) _)) HGW.out HNB.out HNE.out hgr hkk hown);have HG:Hid (W.grownBy w5 none):=by
    refine au (r:=none) (aa G1.out (ag (ae w1 none) _)) hgr (fun _ _ e=>e) (fun b hb e=>?_);have:=(O1.out.1.fresh b e.symm).1;omega
   clear hown hgr hkk;go_wp2;go_roundw
   case rel=>exact ⟨i+1,hJ bt i g,hJ ct i (m+1),by omega,by go_num,by rw [Nat.zero_add];exact RA.out.1,by rw [Nat.zero_add];exact RA.out.2,HG.out⟩
   case measure=>simp [intOf];omega
  ·obtain rfl:n=i:=by omega
   obtain ⟨s0,s1,s2,s3,s4,s5,s6,s7,s8,s9,s10,s11,s12⟩:=BASE.out wr L3.out;go_wp2;go_loopw [9,30] (fun v9 v wr=>Hid (NetR W W.heap.size n ps.length n m ps L v9 v wr)) (fun _ v _=>ps.length-(intOf v).toNat)
   case atStart=>exact ⟨0,bt,ct,by omega,rfl,L1.out,L2.out,L3.out⟩
   case round =>
    clear L1 L2 L3 s0 s1 s2 s3 s4 s5 s6 s7 s8 s9 s10 s11 s12;obtain ⟨i,bt,ct,hi,rfl,l1,l2,l3⟩:=hrel.out;obtain ⟨oa,oc,rfl⟩:=l1.1.shape;rw [cm] at l1 ⊢;have L1:=ab l1;have L2:=ab l2;have L3:=ab l3;clear l1 l2 l3 hrel;by_cases hlt:i<ps.length
    ·obtain ⟨b,off,rfl,hb,c0,c1,c2,c3,c4,c5,c6⟩:=HPC.out i hlt;obtain ⟨p,hpe⟩:∃ p,p=ps[i]:=⟨_,rfl⟩;rw [<- hpe] at c0 c1 c2 c3 c4 c5 c6;have HPE:=ab hpe;have hsz:p.v.size+2<=L:=by
      have h1:=vh (du n ps) (n+ps.length) (n+i) (by omega);have h2:du n ps (n+i)=2*(p.v.size+1)+1:=by
       unfold du;rw [if_neg (by omega),show n+i-n=i by omega,List.getElem?_eq_getElem hlt,hpe]
      have h3:=HLS.out;omega
     have g0:=aa GW.out L3.out;have q0:=g0.cell c0 (by simp);have q1:=g0.cell c1 (by simp);have q2:=g0.cell c2 (by simp);have q3:=g0.cell c3 (by simp);have q4:=g0.cell c4 (by simp);have q5:=g0.cell c5 (by simp);clear c0 c1 c2 c3 c4 c5 hpe g0;obtain ⟨s0,s1,s2,s3,s4,s5,s6,s7,s8,s9,s10,s11,s12⟩:=BASE.out wr L3.out;go_upto_region 10 with fail;obtain ⟨w2,hw2⟩:∃ w2,w2=wr.alloc (Obj.cells #[.int .i64 p.kind,.int .i64 p.a,.int .i64 p.b,.int .i64 p.c,.int .i64 p.d,.string p.v] 66):=⟨_,rfl⟩;obtain ⟨gp,hgp⟩:∃ gp,gp=wr.heap.size:=⟨_,rfl⟩;have G2:Hid (wr.grownBy w2 none):=by rw [hw2];exact ag (ae _ _) _
     have PX:Hid (w2.cell? ⟨gp,0,none⟩=some (.int .i64 p.kind)/\w2.cell? ⟨gp,1,none⟩=some (.int .i64 p.a)/\w2.cell? ⟨gp,2,none⟩=some (.int .i64 p.b)/\w2.cell? ⟨gp,3,none⟩=some (.int .i64 p.c)/\w2.cell? ⟨gp,4,none⟩=some (.int .i64 p.d)/\w2.cell? ⟨gp,5,none⟩=some (.string p.v)):=by
      rw [hw2,hgp];exact ⟨by go_simp,by go_simp,by go_simp,by go_simp,by go_simp,by go_simp⟩
     have HGP:=ab hgp;have GWA:Hid (wr.heap.size<=w2.heap.size):=G2.out.size;have HGPW:Hid (w.heap.size+2<=gp/\gp<w2.heap.size):=by rw [hgp,hw2];exact ⟨by have:=L3.out.size;have:=HWS.out;omega,by simp⟩
     rw [<- hw2,<- hgp];clear hw2 hgp s0 s1 s2 s3 s4 s5 s6 s7 s8 s9 s10 s11 s12 q0 q1 q2 q3 q4 q5;have GA:=ab (aa GW.out (aa L3.out G2.out));have CX:Hid (∀ wx r,w2.grownBy wx r->(∀ k,r=some k->W.heap.size<=k/\k<gp)->wx.cell? ⟨w.heap.size,0,none⟩=some (.bool fb)/\wx.cell? ⟨w.heap.size,1,none⟩=some (.slice fo fl fc)/\wx.cell? ⟨w.heap.size,2,none⟩=some (.slice fo2 fl2 fc2)/\wx.cell? ⟨w.heap.size,3,none⟩=some (.func (.func 153) #[] #[])/\wx.cell? ⟨w.heap.size,4,none⟩=some (.func (.func 132) #[] #[])/\wx.cell? ⟨w.heap.size,5,none⟩=some (.func (.func 88) #[] #[])/\wx.cell? ⟨w.heap.size,6,none⟩=some (.func (.func 53) #[] #[])/\wx.cell? ⟨w.heap.size,7,none⟩=some (.func (.func 154) #[] #[])/\wx.cell? ⟨w.heap.size,8,none⟩=some (.func (.func 155) #[] #[])/\wx.cell? ⟨w.heap.size,9,none⟩=some (.func (.func 156) #[] #[])/\wx.cell? ⟨w.heap.size,10,none⟩=some (.func (.func 157) #[] #[])/\wx.cell? ⟨w.heap.size+1,0,none⟩=some (.int .i64 ((n:Nat):Int))/\wx.cell? ⟨w.heap.size+1,1,none⟩=some (.slice (some ⟨b,off,none⟩) ps.length pc)/\wx.cell? ⟨gp,0,none⟩=some (.int .i64 p.kind)/\wx.cell? ⟨gp,1,none⟩=some (.int .i64 p.a)/\wx.cell? ⟨gp,2,none⟩=some (.int .i64 p.b)/\wx.cell? ⟨gp,3,none⟩=some (.int .i64 p.c)/\wx.cell? ⟨gp,4,none⟩=some (.int .i64 p.d)/\wx.cell? ⟨gp,5,none⟩=some (.string p.v)):=by
      intro wx r hg hr;obtain ⟨s0,s1,s2,s3,s4,s5,s6,s7,s8,s9,s10,s11,s12⟩:=BASE.out w2 (aa L3.out G2.out);obtain ⟨t0,t1,t2,t3,t4,t5⟩:=PX.out;have n1:some w.heap.size≠r:=fun e=>by have:=(hr _ e.symm).1;have:=HWS.out;omega
      have n2:some (w.heap.size+1)≠r:=fun e=>by have:=(hr _ e.symm).1;have:=HWS.out;omega
      have n3:some gp≠r:=fun e=>by have:=(hr _ e.symm).2;omega
      exact ⟨hg.cell s0 n1,hg.cell s1 n1,hg.cell s2 n1,hg.cell s3 n1,hg.cell s4 n1,hg.cell s5 n1,hg.cell s6 n1,hg.cell s7 n1,hg.cell s8 n1,hg.cell s9 n1,hg.cell s10 n1,hg.cell s11 n2,hg.cell s12 n2,hg.cell t0 n3,hg.cell t1 n3,hg.cell t2 n3,hg.cell t3 n3,hg.cell t4 n3,hg.cell t5 n3⟩
     have HFX:Hid (∀ wx,w.grownBy wx none->wx.cell? ⟨bf,0,none⟩=some (.bool fb)/\wx.cell? ⟨bf,1,none⟩=some (.slice fo fl fc)/\wx.cell? ⟨bf,2,none⟩=some (.slice fo2 fl2 fc2)/\wx.cell? ⟨bf,3,none⟩=some (.func (.func 153) #[] #[])/\wx.cell? ⟨bf,4,none⟩=some (.func (.func 132) #[] #[])/\wx.cell? ⟨bf,5,none⟩=some (.func (.func 88) #[] #[])/\wx.cell? ⟨bf,6,none⟩=some (.func (.func 53) #[] #[])/\wx.cell? ⟨bf,7,none⟩=some (.func (.func 154) #[] #[])/\wx.cell? ⟨bf,8,none⟩=some (.func (.func 155) #[] #[])/\wx.cell? ⟨bf,9,none⟩=some (.func (.func 156) #[] #[])/\wx.cell? ⟨bf,10,none⟩=some (.func (.func 157) #[] #[])):=by
      intro wx hg;obtain ⟨s0,s1,s2,s3,s4,s5,s6,s7,s8,s9,s10⟩:=HF.out;exact ⟨hg.cell s0 (by simp),hg.cell s1 (by simp),hg.cell s2 (by simp),hg.cell s3 (by simp),hg.cell s4 (by simp),hg.cell s5 (by simp),hg.cell s6 (by simp),hg.cell s7 (by simp),hg.cell s8 (by simp),hg.cell s9 (by simp),hg.cell s10 (by simp)⟩
     have HSX:Hid (∀ wx,w.grownBy wx none->wx.cell? ⟨bs,0,none⟩=some (.bool false)/\wx.cell? ⟨bs,1,none⟩=some (.slice none 0 0)/\wx.cell? ⟨bs,2,none⟩=some (.slice none 0 0)):=fun wx hg=>⟨hg.cell HS.out.1 (by simp),hg.cell HS.out.2.1 (by simp),hg.cell HS.out.2.2 (by simp)⟩
     have HZX:Hid (∀ wx,w.grownBy wx none->wx.cell? ⟨bz,0,none⟩=some (.bool false)/\wx.cell? ⟨bz,1,none⟩=some (.slice none 0 0)/\wx.cell? ⟨bz,2,none⟩=some (.slice none 0 0)):=fun wx hg=>⟨hg.cell HZ.out.1 (by simp),hg.cell HZ.out.2.1 (by simp),hg.cell HZ.out.2.2 (by simp)⟩
     have O1:=ab (L1.out.keep0 G2.out);have O2:=ab (L2.out.keep0 G2.out);have HSZ:Hid (W.heap.size<=w2.heap.size):=(aa L3.out G2.out).size;have GG:w2.grownBy w2 none:=ae _ _;obtain ⟨s0,s1,s2,s3,s4,s5,s6,s7,s8,s9,s10,s11,s12,s13,s14,s15,s16,s17,s18⟩:=CX.out w2 none GG (fun _ e=>by cases e);have nz1:gp≠w.heap.size:=by have:=HGPW.out.1;omega
     have nz2:gp≠w.heap.size+1:=by have:=HGPW.out.1;omega
     have hzz:w.heap.size+2<=w2.heap.size:=by have:=HGPW.out;omega
     refine wp_region_held_drew (S:=(fun w'=>w'.cell? ⟨w.heap.size,0,none⟩=some (.bool fb)/\w'.cell? ⟨w.heap.size,1,none⟩=some (.slice fo fl fc)/\w'.cell? ⟨w.heap.size,2,none⟩=some (.slice fo2 fl2 fc2)/\w'.cell? ⟨w.heap.size,3,none⟩=some (.func (.func 153) #[] #[])/\w'.cell? ⟨w.heap.size,4,none⟩=some (.func (.func 132) #[] #[])/\w'.cell? ⟨w.heap.size,5,none⟩=some (.func (.func 88) #[] #[])/\w'.cell? ⟨w.heap.size,6,none⟩=some (.func (.func 53) #[] #[])/\w'.cell? ⟨w.heap.size,7,none⟩=some (.func (.func 154) #[] #[])/\w'.cell? ⟨w.heap.size,8,none⟩=some (.func (.func 155) #[] #[])/\w'.cell? ⟨w.heap.size,9,none⟩=some (.func (.func 156) #[] #[])/\w'.cell? ⟨w.heap.size,10,none⟩=some (.func (.func 157) #[] #[])/\w'.cell? ⟨w.heap.size+1,0,none⟩=some (.int .i64 ((n:Nat):Int))/\w'.cell? ⟨w.heap.size+1,1,none⟩=some (.slice (some ⟨b,off,none⟩) ps.length pc)/\w'.cell? ⟨gp,0,none⟩=some (.int .i64 p.kind)/\w'.cell? ⟨gp,1,none⟩=some (.int .i64 p.a)/\w'.cell? ⟨gp,2,none⟩=some (.int .i64 p.b)/\w'.cell? ⟨gp,3,none⟩=some (.int .i64 p.c)/\w'.cell? ⟨gp,4,none⟩=some (.int .i64 p.d)/\w'.cell? ⟨gp,5,none⟩=some (.string p.v))) (by kernel_rfl) ?zs1y (fun hHeld=>?zr1y)
     case zs1y=>((try dsimp only);go_keep)
     case zr1y =>
      refine wpAnyH_take (i:=0) (oi:=⟨some 35,.move (.tmp 9),207, "net.go:44",#[],none⟩) (v:=.slice oa (n+i) oc) rfl (by kernel_rfl) (by kernel_rfl) (by kernel_rfl) (fun _ _ _ h=>h) (Or.inl ⟨by rfl,?zy1y1⟩) (by assumption) ?zr1y1
      case zy1y1=>(intro w hSw;(try dsimp only at hSw);go_simp)
      case zr1y1 =>
       (try simp only [Act.put,aA,aC,aB])
       refine wpAnyH_take (i:=1) (oi:=⟨some 36,.load 145 (.tmp 3),145, "net.go:44",#[],none⟩) (v:=Value.agg #[.bool fb,.slice fo fl fc,.slice fo2 fl2 fc2,.func (.func 153) #[] #[],.func (.func 132) #[] #[],.func (.func 88) #[] #[],.func (.func 53) #[] #[],.func (.func 154) #[] #[],.func (.func 155) #[] #[],.func (.func 156) #[] #[],.func (.func 157) #[] #[]]) rfl (by kernel_rfl) (by kernel_rfl) (by kernel_rfl) (fun _ _ _ h=>h) (Or.inl ⟨by rfl,?zy1y2⟩) (by assumption) ?zr1y2
       case zy1y2=>(intro w hSw;(try dsimp only at hSw);go_simp)
       case zr1y2 =>
        (try simp only [Act.put,aA,aC,aB])
        refine wpAnyH_take (i:=2) (oi:=⟨some 37,.load 24 (.tmp 4),24, "net.go:44",#[],none⟩) (v:=Value.agg #[.int .i64 ((n:Nat):Int),.slice (some ⟨b,off,none⟩) ps.length pc]) rfl (by kernel_rfl) (by kernel_rfl) (by kernel_rfl) (fun _ _ _ h=>h) (Or.inl ⟨by rfl,?zy1y3⟩) (by assumption) ?zr1y3
        case zy1y3=>(intro w hSw;(try dsimp only at hSw);go_simp)
        case zr1y3 =>
         (try simp only [Act.put,aA,aC,aB])
         refine wpAnyH_take (i:=3) (oi:=⟨some 38,.move (.tmp 11),3, "net.go:44",#[],none⟩) (v:=.int .i64 ((i:Nat):Int)) rfl (by kernel_rfl) (by kernel_rfl) (by kernel_rfl) (fun _ _ _ h=>h) (Or.inl ⟨by rfl,?zy1y4⟩) (by assumption) ?zr1y4
         case zy1y4=>(intro w hSw;(try dsimp only at hSw);go_simp)
         case zr1y4 =>
          (try simp only [Act.put,aA,aC,aB])
          refine wpAnyH_take (i:=4) (oi:=⟨some 39,.move (.tmp 2),147, "net.go:44",#[],none⟩) (v:=.func (.func 159) #[] #[.pointer (some ⟨bf,0,none⟩),.pointer (some ⟨bop,0,none⟩),.pointer (some ⟨bs,0,none⟩)]) rfl (by kernel_rfl) (by kernel_rfl) (by kernel_rfl) (fun _ _ _ h=>h) (Or.inl ⟨by rfl,?zy1y5⟩) (by assumption) ?zr1y5
          case zy1y5=>(intro w hSw;(try dsimp only at hSw);go_simp)
          case zr1y5 =>
           (try simp only [Act.put,aA,aC,aB])
           refine wpAnyH_take (i:=5) (oi:=⟨some 40,.load 66 (.tmp 12),66, "net.go:44",#[],none⟩) (v:=Value.agg #[.int .i64 p.kind,.int .i64 p.a,.int .i64 p.b,.int .i64 p.c,.int .i64 p.d,.string p.v]) rfl (by kernel_rfl) (by kernel_rfl) (by kernel_rfl) (fun _ _ _ h=>h) (Or.inl ⟨by rfl,?zy1y6⟩) (by assumption) ?zr1y6
           case zy1y6=>(intro w hSw;(try dsimp only at hSw);go_simp)
           case zr1y6 =>
            (try simp only [Act.put,aA,aC,aB])
            refine wpAnyH_ready (rs:=[6]) (by kernel_rfl) (by simp) ?_;refine AllReadyH.cons (o:=⟨some 41,.call ⟨.value (.tmp 39),#[.tmp 40],#[66]⟩,206, "net.go:44",#[⟨4,.data⟩,⟨5,.data⟩],none⟩) rfl (fun K hK=>?_) AllReadyH.nil;go_simp
            go_at_call 159
            refine (law_at fb fo fo2 fl fc fl2 fc2 p bf bop bs bz mm L _ ((aa GA.out (by first | exact aa GG (aj _) | exact aa GG ah | exact GG)).cell HML.out (by simp)) (HFX.out _ (aa GA.out (by first | exact aa GG (aj _) | exact aa GG ah | exact GG))) (H1.out.keep0 (aa GA.out (by first | exact aa GG (aj _) | exact aa GG ah | exact GG))) ((aa GA.out (by first | exact aa GG (aj _) | exact aa GG ah | exact GG)).cell HOP.out (by simp)) (HSX.out _ (aa GA.out (by first | exact aa GG (aj _) | exact aa GG ah | exact GG))) (HZX.out _ (aa GA.out (by first | exact aa GG (aj _) | exact aa GG ah | exact GG))) (by omega) (by omega)).mono ?_;rintro e wa ⟨u1,d1,u2,d2,u3,d3,u4,d4,rfl,k1,k2,k3,k4,ga⟩;have K1:=ab k1;have K2:=ab k2;have K3:=ab k3;have K4:=ab k4;clear k1 k2 k3 k4;have GG:w2.grownBy wa none:=aa (by first | exact aa GG (aj _) | exact aa GG ah | exact GG) ga;obtain ⟨a0,a1,a2,a3,a4,a5,a6,a7,a8,a9,a10,a11,a12,a13,a14,a15,a16,a17,a18⟩:=CX.out wa none GG (fun _ e=>by cases e);go_wp2_with fail;refine hK.out _ _ ?zs1y7 (fun hHeld=>?zr1y7)
            case zs1y7=>((try dsimp only);go_keep)
            case zr1y7 =>
             clear hK K
             (try simp only [Act.put,aA,aC,aB])
             refine wpAnyH_ready (rs:=[7]) (by kernel_rfl) (by simp) ?_;refine AllReadyH.cons (o:=⟨some 42,.call ⟨.value (.func 161),#[.tmp 36,.tmp 37,.tmp 38,.tmp 41],#[145,24,3,206]⟩,92, "net.go:44",#[⟨1,.data⟩,⟨2,.data⟩,⟨3,.data⟩,⟨6,.data⟩,⟨6,.chain⟩],none⟩) rfl (fun K hK=>?_) AllReadyH.nil;go_simp
             go_at_call 161
             refine (tS fb fo fo2 fl fc fl2 fc2 n i (some ⟨b,off,none⟩) pc ps p u1 d1 u2 d2 u3 d3 u4 d4 L _ (HP.out.keep (aa GA.out (by first | exact aa GG (aj _) | exact aa GG ah | exact GG))) HR.out hlt HPE.out (K1.out.keep0 (by first | exact aj _ | exact ah | exact ae _ _)) (K2.out.keep0 (by first | exact aj _ | exact ah | exact ae _ _)) (K3.out.keep0 (by first | exact aj _ | exact ah | exact ae _ _)) (K4.out.keep0 (by first | exact aj _ | exact ah | exact ae _ _)) (by omega) (by omega)).mono ?_;rintro e wb ⟨g,rfl,hg1,f1,gb⟩;rw [<- HMM.out] at f1 ⊢;have F1:=ab f1;have HG1:Hid (w2.heap.size<=g):=Nat.le_trans GG.size hg1;clear f1 hg1;have GG:w2.grownBy wb none:=aa (by first | exact aa GG (aj _) | exact aa GG ah | exact GG) gb;obtain ⟨b0,b1,b2,b3,b4,b5,b6,b7,b8,b9,b10,b11,b12,b13,b14,b15,b16,b17,b18⟩:=CX.out wb none GG (fun _ e=>by cases e);go_wp2_with fail;refine hK.out _ _ ?zs1y8 (fun hHeld=>?zr1y8)
             case zs1y8=>((try dsimp only);go_keep)
             case zr1y8 =>
              clear hK K
              (try simp only [Act.put,aA,aC,aB])
              refine wpAnyH_ready (rs:=[8]) (by kernel_rfl) (by simp) ?_;refine AllReadyH.cons (o:=⟨some 43,.buildSlice 207 1 #[(0,.tmp 42)],207, "net.go:44",#[⟨7,.data⟩],none⟩) rfl (fun K hK=>?_) AllReadyH.nil;go_simp
              refine hK.out _ _ ?zs1y9 (fun hHeld=>?zr1y9)
              case zs1y9=>((try dsimp only);go_keep)
              case zr1y9 =>
               clear hK K
               (try simp only [Act.put,aA,aC,aB])
               refine wpAnyH_ready (rs:=[9]) (by kernel_rfl) (by simp) ?_;refine AllReadyH.cons (o:=⟨some 44,.call ⟨.builtin .append,#[.tmp 35,.tmp 43],#[207,207]⟩,207, "net.go:44",#[⟨0,.data⟩,⟨8,.data⟩,⟨7,.chain⟩],none⟩) rfl (fun K hK=>?_) AllReadyH.nil;refine oE (kr (m+1)) 92 (.slice none 0 0) 24 _ rfl _ _ 207 rfl W.heap.size Tryz.underlying207 Tryz.infoRow rfl (fun x=>by simp [Value.cells]) (fun u x=>by simp [kr]) (.slice oa (n+i) oc) (fi bt ct (n+i)) rfl (O1.out.keep0 (aa GG (by first | exact ag (ae _ _) _ | exact ar (ag (ae _ _) _) 1 | exact ag ah _ | exact ag (aj _) _))) wb.heap.size (g,m+1) rfl (by go_simp;rfl) rfl (by rw [cm];omega) (by omega) (by simp;exact Nat.le_succ_of_le (Nat.le_trans HSZ.out GG.size)) ?_;intro ao cap5 w5 hown hgr hkk;rw [cm] at hown ⊢;have HNE:Hid ((Value.slice oa (n+i) oc).ownBlock≠some g):=fun e=>by have h1:=(L1.out.1.fresh g e).2;have h2:=HG1.out;have h3:=GWA.out;omega
               have HNB:Hid (∀ j,j<n+i->bt j≠g):=fun j hj e=>by have h1:=(L2.out.row j hj).lt;have h2:=HG1.out;have h3:=GWA.out;omega
               have HGW:Hid (W.heap.size<=g):=by show _<=_;have h1:=L3.out.size;have h2:=HG1.out;have h3:=GWA.out;omega
               have RA:=ab (gA (O1.out.keep0 (aa GG (by first | exact ag (ae _ _) _ | exact ar (ag (ae _ _) _) 1 | exact ag ah _ | exact ag (aj _) _))) (by omega) (O2.out.keep0 (aa GG (by first | exact ag (ae _ _) _ | exact ar (ag (ae _ _) _) 1 | exact ag ah _ | exact ag (aj _) _))) (Nat.le_refl _) (by unfold maxLen;omega) (F1.out.keep0 (by first | exact ag (ae _ _) _ | exact ar (ag (ae _ _) _) 1 | exact ag ah _ | exact ag (aj _) _)) HGW.out HNB.out HNE.out hgr hkk hown);have HG:Hid (W.grownBy w5 none):=by
                refine au (r:=none) (aa L3.out (aa G2.out (aa GG (by first | exact ag (ae _ _) _ | exact ar (ag (ae _ _) _) 1 | exact ag ah _ | exact ag (aj _) _)))) hgr (fun _ _ e=>e) (fun b hb e=>?_);have:=(O1.out.1.fresh b e.symm).1;omega
               obtain ⟨e0,e1,e2,e3,e4,e5,e6,e7,e8,e9,e10,e11,e12,e13,e14,e15,e16,e17,e18⟩:=CX.out w5 _ (au (r:=(Value.slice oa (n+i) oc).ownBlock) (aa GG (by first | exact ag (ae _ _) _ | exact ar (ag (ae _ _) _) 1 | exact ag ah _ | exact ag (aj _) _)) hgr (fun _ _ e=>by cases e) (fun _ _ e=>e)) (fun k e=>by have h1:=L1.out.1.fresh k e;exact ⟨h1.1,by have:=HGP.out;omega⟩);clear hown hgr hkk;refine hK.out _ _ ?zs1y10 (fun hHeld=>?zr1y10)
               case zs1y10=>((try dsimp only);go_keep)
               case zr1y10 =>
                clear hK K
                (try simp only [Act.put,aA,aC,aB])
                refine wpAnyH_take (i:=10) (oi:=⟨some 9,.assign (.tmp 44),207, "net.go:44",#[⟨9,.data⟩,⟨9,.chain⟩,⟨0,.phase⟩,⟨1,.phase⟩,⟨2,.phase⟩,⟨3,.phase⟩,⟨4,.phase⟩,⟨5,.phase⟩,⟨6,.phase⟩,⟨7,.phase⟩,⟨8,.phase⟩,⟨9,.phase⟩],none⟩) (v:=.slice ao (n+i+1) cap5) rfl (by kernel_rfl) (by kernel_rfl) (by kernel_rfl) (fun _ _ _ h=>h) (Or.inl ⟨by rfl,?zy1y11⟩) (by assumption) ?zr1y11
                case zy1y11=>(intro w hSw;(try dsimp only at hSw);go_simp)
                case zr1y11 =>
                 (try simp only [Act.put,aA,aC,aB])
                 refine wpAnyH_done (by kernel_rfl) ?_ _;go_wp2;go_roundw
                 case rel=>exact ⟨i+1,hJ bt (n+i) g,hJ ct (n+i) (m+1),by omega,by go_num,RA.out.1,RA.out.2,HG.out⟩
                 case measure=>simp [intOf];omega
    ·obtain rfl:ps.length=i:=by omega
     obtain ⟨br,cap2,e2,q1,q2,q3,q4⟩:=L1.out.mat (by omega) (by omega) L2.out;rw [HMM.out] at q4;simp only [Value.slice.injEq,true_and] at e2;obtain ⟨rfl,rfl⟩:=e2;have Q3:=ab q3;have Q4:=ab q4;have HMO:=most_lt (n+ps.length) L (by omega) (du n ps) HLS.out;have HMO2:=ab HMO;clear q3 q4 HMO L1 L2;obtain ⟨s0,s1,s2,s3,s4,s5,s6,s7,s8,s9,s10,s11,s12⟩:=BASE.out wr L3.out;go_wp2_with fail;refine (rows_at fb fo fo2 fl fc fl2 fc2 br (n+ps.length) oc bt ct (ff n ps) L (2*L+1) (fun r=>4294967296^du n ps r) wr Q4.out (H1.out.keep0 (aa GW.out L3.out)) (by omega) (by omega) q2 Q3.out hL1 hL (fun i hi k _ j _=>net_fit n ps _ L HLS.out i hi k j) (fun r=>Nat.one_le_pow _ _ (by decide)) (fun r j=>net_wh n ps _ r j) HMO2.out (most_sq _ L _ (by omega) HMO2.out) (by omega) (by omega)).mono ?_;rintro e w5 (⟨g,X,rfl,hg1,fX,gX,hs1,hs2⟩ | ⟨rfl,gX,hs1⟩ | ⟨rfl,gX,hs1⟩)
     ·have FX:=ab fX;have G5:=ab (aa L3.out gX);have HS1:=ab hs1;have HS2:=ab hs2;have HGG:Hid (w.heap.size<=g):=by show _<=_;have:=L3.out.size;have:=HWS.out;omega
      clear fX gX hs1 hs2 s0 s1 s2 s3 s4 s5 s6 s7 s8 s9 s10 s11 s12 hg1;obtain ⟨s0,s1,s2,s3,s4,s5,s6,s7,s8,s9,s10,s11,s12⟩:=BASE.out w5 G5.out;clear s0 s1 s2 s3 s4 s5 s6 s7 s8 s9 s10;have CN:Hid (∀ wx,w5.grownBy wx none->wx.cell? ⟨w.heap.size+1,0,none⟩=some (.int .i64 ((n:Nat):Int))):=fun wx hg=>hg.cell s11 (by simp)
      have GG:w5.grownBy w5 none:=ae _ _;have hn0:(0:Int)<=(n:Int):=by omega
      have hn1:(n:Int)<=((n:Int)+(ps.length:Int)):=by omega
      have HSZ5:Hid (w.heap.size<=w5.heap.size):=(aa GW.out G5.out).size;by_cases hk0:ps.length=0
      ·have HK0:=ab hk0;have hcT:(n+ps.length=n)=True:=eq_true (by omega);go_wp2_with fail;go_region_held3 (fun w'=>w'.cell? ⟨w.heap.size+1,0,none⟩=some (.int .i64 ((n:Nat):Int))) (go_keep)
        (first | (go_at_call_of 163 (Value.slice (some ⟨g,0,none⟩) n n);refine (kB g (n+ps.length) n _ X L _ (FX.out.keep0 (by first | exact aa GG (aj _) | exact aa GG ah | exact GG)) (by omega) (by omega) (by omega) (by unfold maxLen;omega)).mono ?_;rintro e wa ⟨va,rfl,pa,ga⟩;have pa:=pa.low (Nat.le_trans HSZ5.out GG.size);obtain ⟨aoa,cca,rfl,_⟩:=id pa;have KP:=aa (by first | exact aj _ | exact ah | exact ae _ _) ga;(try have pb:=pb.keep0 KP);clear KP;have GG:w5.grownBy wa none:=aa (by first | exact aa GG (aj _) | exact aa GG ah | exact GG) ga;have cna:=CN.out wa GG) | (go_at_call 163;refine (pX g _ (fun i=>X (n+i)) L _).mono ?_;rintro e wb ⟨vb,rfl,pb,gb⟩;have pb:=pb.low (Nat.le_trans HSZ5.out GG.size);obtain ⟨aob,ccb,rfl,_⟩:=id pb;have KP:=aa (by first | exact aj _ | exact ah | exact ae _ _) gb;(try have pa:=pa.keep0 KP);clear KP;have GG:w5.grownBy wb none:=aa (by first | exact aa GG (aj _) | exact aa GG ah | exact GG) gb;have cnb:=CN.out wb GG))
       all_goals
        have PA:=ab pa;have PB:=ab pb;have GF:=ab GG;clear pa pb GG;go_wp2;go_ret3
        refine .inl ⟨_,_,X,fun i=>X (n+i),rfl,PA.out.keep0 (by first | exact ae _ _ | exact ah | exact aj _),(by rw [HK0.out];exact PB.out.keep0 (by first | exact ae _ _ | exact ah | exact aj _)),((iD HR.out X).1 HS1.out).2,fun V2 I2 hh=>?_,aa (aa GW.out G5.out) (by first | exact GF.out | exact aa GF.out ah)⟩;obtain ⟨x,hx1,hx2,hx3⟩:=iE HR.out hh;exact ⟨fun j hj=>by rw [<- hx2 j hj];exact HS2.out x hx1 j (by omega),fun i hi=>by rw [<- hx3 i hi];exact HS2.out x hx1 (n+i) (by omega)⟩
      ·have hcF:(n+ps.length=n)=False:=eq_false (by omega);go_wp2_with fail;go_region_held3 (fun w'=>w'.cell? ⟨w.heap.size+1,0,none⟩=some (.int .i64 ((n:Nat):Int))) (go_keep)
        (first | (go_at_call_of 163 (Value.slice (some ⟨g,0,none⟩) n (n+ps.length));refine (kB g (n+ps.length) n _ X L _ (FX.out.keep0 (by first | exact aa GG (aj _) | exact aa GG ah | exact GG)) (by omega) (by omega) (by omega) (by unfold maxLen;omega)).mono ?_;rintro e wa ⟨va,rfl,pa,ga⟩;have pa:=pa.low (Nat.le_trans HSZ5.out GG.size);obtain ⟨aoa,cca,rfl,_⟩:=id pa;have KP:=aa (by first | exact aj _ | exact ah | exact ae _ _) ga;(try have pb:=pb.keep0 KP);clear KP;have GG:w5.grownBy wa none:=aa (by first | exact aa GG (aj _) | exact aa GG ah | exact GG) ga;have cna:=CN.out wa GG) | (go_at_call 163;refine (pY g (n+ps.length) n ps.length _ X L _ (FX.out.keep0 (by first | exact aa GG (aj _) | exact aa GG ah | exact GG)) (by omega) (by omega) (by omega) (by unfold maxLen;omega)).mono ?_;rintro e wb ⟨vb,rfl,pb,gb⟩;have pb:=pb.low (Nat.le_trans HSZ5.out GG.size);obtain ⟨aob,ccb,rfl,_⟩:=id pb;have KP:=aa (by first | exact aj _ | exact ah | exact ae _ _) gb;(try have pa:=pa.keep0 KP);clear KP;have GG:w5.grownBy wb none:=aa (by first | exact aa GG (aj _) | exact aa GG ah | exact GG) gb;have cnb:=CN.out wb GG))
       all_goals
        have PA:=ab pa;have PB:=ab pb;have GF:=ab GG;clear pa pb GG;go_wp2;go_ret3
        refine .inl ⟨_,_,X,fun i=>X (n+i),rfl,PA.out.keep0 (by first | exact ae _ _ | exact ah | exact aj _),PB.out.keep0 (by first | exact ae _ _ | exact ah | exact aj _),((iD HR.out X).1 HS1.out).2,fun V2 I2 hh=>?_,aa (aa GW.out G5.out) (by first | exact GF.out | exact aa GF.out ah)⟩;obtain ⟨x,hx1,hx2,hx3⟩:=iE HR.out hh;exact ⟨fun j hj=>by rw [<- hx2 j hj];exact HS2.out x hx1 j (by omega),fun i hi=>by rw [<- hx3 i hi];exact HS2.out x hx1 (n+i) (by omega)⟩
     ·have G5:=ab (aa L3.out gX);have HS1:=ab hs1;clear gX hs1 s0 s1 s2 s3 s4 s5 s6 s7 s8 s9 s10 s11 s12;go_wp2;go_ret3
      refine .inr (.inl ⟨rfl,?_,aa GW.out G5.out⟩);rintro ⟨V,I,hh⟩;obtain ⟨x,hx,_⟩:=iE HR.out hh;exact HS1.out ⟨x,hx⟩
     ·have G5:=ab (aa L3.out gX);have HS1:=ab hs1;clear gX hs1 s0 s1 s2 s3 s4 s5 s6 s7 s8 s9 s10 s11 s12;go_wp2;go_ret3
      refine .inr (.inr ⟨rfl,?_,aa GW.out G5.out⟩);obtain ⟨x,y,hx,hy,j,hj,hne⟩:=HS1.out;refine ⟨_,_,_,_,((iD HR.out x).1 hx).2,((iD HR.out y).1 hy).2,?_⟩;by_cases hjn:j<n
      ·exact .inl ⟨j,hjn,hne⟩
      ·exact .inr ⟨j-n,by omega,by show x (n+(j-n))≠y (n+(j-n));rw [show n+(j-n)=j by omega];exact hne⟩
end Go.Proofs.YtgilmecjbjoonabGreatDoor
