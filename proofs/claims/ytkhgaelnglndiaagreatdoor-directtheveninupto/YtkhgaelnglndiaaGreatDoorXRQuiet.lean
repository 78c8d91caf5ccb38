/- Contracts that the proof leans on. -/
import Derived.Test.YtkhgaelnglndiaaGreatDoorXCSe
import Derived.Test.YtkhgaelnglndiaaGreatDoorXCDa
namespace Go.Proofs.YtkhgaelnglndiaaGreatDoor
open Go.RowKit
set_option linter.unusedVariables false
set_option linter.unusedSimpArgs false
set_option maxHeartbeats 8000000
set_option maxRecDepth 10000
def BoxN (w:World) (b:Nat) (u v:Value):Prop:=w.heap[b]? = some (Obj.cells #[u,v] 24 (0,0))
theorem BoxN.lt {w:World} {b:Nat} {u v:Value} (h:BoxN w b u v):b<w.heap.size:=(Array.getElem?_eq_some_iff.1 h).1
theorem BoxN.keep {w w':World} {b:Nat} {u v:Value} {r:Option Nat} (h:BoxN w b u v) (g:w.grownBy w' r) (hr:some b≠r):BoxN w' b u v:=by
 have hl:=h.lt;unfold BoxN at h ⊢;rw [g.block b hl hr];exact h
theorem BoxN.cells {w:World} {b:Nat} {u v:Value} (h:BoxN w b u v):w.cell? ⟨b,0,none⟩=some u/\w.cell? ⟨b,1,none⟩=some v/\w.frozen? ⟨b,0,none⟩=false/\w.frozen? ⟨b,1,none⟩=false:=by
 unfold BoxN at h;refine ⟨?_,?_,?_,?_⟩<;>simp [World.cell?,World.frozen?,h]
theorem BoxN.set1 {w:World} {b:Nat} {u v:Value} (h:BoxN w b u v) (x:Value):BoxN (w.setCell ⟨b,1,none⟩ x) b u x:=by
 unfold BoxN at h ⊢;rw [heap_setCell_same w b 1 _ _ x h];simp
def QuiR (W:World) (base gm n:Nat) (ps:List Prt) (iv:Value) (wr:World):Prop :=
 ∃ (i:Nat) (v:Value),i<=ps.length/\iv=.int .i64 i/\BoxN wr gm (.int .i64 ((n:Nat):Int)) v/\OwnP wr base v ((ps.map quietP).take i)/\W.grownBy wr none
def NewNet (w:World) (n:Nat) (qs:List Prt) (e:Ending) (w':World):Prop :=
 ∃ v,e=.returned (.agg #[.int .i64 ((n:Nat):Int),v])/\OwnP w' w.heap.size v qs/\w.grownBy w' none
theorem OwnP.low {w:World} {base base':Nat} {v:Value} {ps:List Prt} (h:OwnP w base v ps) (hb:base'<=base):OwnP w base' v ps:=by
 refine ⟨h.1,?_⟩;rcases h.2 with h2 | ⟨g,cap,cur,e,h3,h4⟩
 ·exact .inl h2
 ·exact .inr ⟨g,cap,cur,e,Nat.le_trans hb h3,h4⟩
theorem OwnP.ne {w:World} {base b:Nat} {v:Value} {ps:List Prt} (h:OwnP w base v ps) (hb:b<base):v.ownBlock=none∨v.ownBlock≠some b:=by
 cases hv:v.ownBlock with
 | none=>exact .inl rfl
 | some k =>
  right
  intro e;have:=(World.ownsRow.lt h k hv).1;have:=Option.some.inj e;omega
theorem wpList_append_p {P:Program} (W:World) {ops:Array Oper} {rest:List Oper} {o:Oper} {a:Act} {Q:Exit->Act->World->Prop}
  (hg:o.guard=none) (s x:Operand) (t:TypeId) (ho:o.op=.call { callee:=.builtin .append,args:=#[s,x],argTypes:=#[t,t] }) (base:Nat)
  (h1:P.underlying t=some (.slice 47)) (hinfo:(P.info? 47).map (fun i=>(i.zero,i.size,i.bytes))=some (some (.agg #[.int .i64 0,.int .i64 0,.int .i64 0,.int .i64 0,.int .i64 0,.string ⟨#[]⟩]),6,56))
  (v:Value) (qs:List Prt) (hs:a.eval s=v) (hown:OwnP W base v qs) (b:Nat) (p:Prt) (hx:a.eval x=.slice (some ⟨b,0,none⟩) 1 1) (hc:∀ j u,(cellsP p)[j]? = some u->W.cell? ((⟨b,0,none⟩:Addr).add j)=some u)
  (hlen:qs.length<=100000) (hbase:base<=W.heap.size)
  (hK:∀ ao cap w',OwnP w' base (.slice ao (qs.length+1) cap) (qs++[p])->W.grownBy w' v.ownBlock->wpList P ops Q rest (a.put o.dst (.slice ao (qs.length+1) cap)) w'):wpList P ops Q (o :: rest) a W:=by
 obtain ⟨i0,hi0,hz0,hz1,hz2⟩:=info_parts hinfo;refine wpList_append_own W hg s x t ho base _ i0 _ 6 56 h1 hi0 hz0 hz1 hz2 rfl (by decide) v qs.length (cellsPs qs) hs hown ⟨b,0,none⟩ 1 1 (cellsP p) hx rfl hc ?_ (by unfold maxLen;omega) (by omega) hbase ?_
 ·intro u hu;exact cellsPs_one [p] u (by simpa [cellsPs] using hu)
 ·intro v' w' hown' hgr _;have h2:OwnP w' base v' (qs++[p]):=by
   show World.ownsRow _ _ _ _ _ _ _
   have e2:cellsPs (qs++[p])=cellsPs qs++cellsP p:=by
    rw [cellsPs_append];simp [cellsPs]
   rw [List.length_append,e2];exact hown'
  obtain ⟨ao,cap,ev,_⟩:=h2.shape;rw [List.length_append,List.length_singleton] at ev;subst ev;exact hK ao cap w' h2 hgr
theorem rQuiet_at (n:Nat) (po:Option Addr) (pc:Nat) (ps:List Prt) (w:World) (h:PartsAt w (.slice po ps.length pc) ps) (hn:ps.length<=1000) :
  Calls Tryz.prog 19 #[.agg #[.int .i64 ((n:Nat):Int),.slice po ps.length pc]] w fun e w'=>NewNet w n (ps.map quietP) e w':=by
 obtain ⟨ao_,cap_,ep,hp1,hp2,hp3⟩:=id h;simp only [Value.slice.injEq,true_and] at ep;obtain ⟨rfl,rfl⟩:=ep;have HPC:=hide hp3;unfold maxLen at hp2;clear h hp3;obtain ⟨W,hW⟩:∃ W,W=(w.alloc (Obj.cells #[.int .i64 ((n:Nat):Int),.slice po ps.length pc] 24)).alloc (Obj.cells #[.int .i64 0,.slice none 0 0] 24):=⟨_,rfl⟩;have GW:Hid (w.grownBy W none):=by rw [hW];exact gr_alloc (gr_alloc (gr_refl _ _) _) _
 have HWS:Hid (W.heap.size=w.heap.size+2):=by show _=_;rw [hW];simp
 have NB:Hid (∀ wx,W.grownBy wx none->wx.cell? ⟨w.heap.size,0,none⟩=some (.int .i64 ((n:Nat):Int))/\wx.cell? ⟨w.heap.size,1,none⟩=some (.slice po ps.length pc)/\BoxN wx (w.heap.size+1) (.int .i64 0) (.slice none 0 0)):=by
  intro wx hg;have e:wx.heap[w.heap.size+1]? = some (Obj.cells #[.int .i64 0,.slice none 0 0] 24 (0,0)):=by
   rw [hg.block (w.heap.size+1) (by rw [HWS.out];omega) (by simp),hW];have:=heap_alloc_new (w.alloc (Obj.cells #[.int .i64 ((n:Nat):Int),.slice po ps.length pc] 24)) (Obj.cells #[.int .i64 0,.slice none 0 0] 24);simpa using this
  rw [hW] at hg;exact ⟨hg.cell (by go_simp) (by simp),hg.cell (by go_simp) (by simp),e⟩
 obtain ⟨s0,s1,s2⟩:=NB.out W (gr_refl _ _);clear s2;go_enter Tryz.func19,Tryz.ntmps19
 go_upto_region 1 with fail;rw [<- hW];clear hW;go_upto_region 2 with fail;obtain ⟨gm,hgm⟩:∃ gm,gm=W.heap.size:=⟨_,rfl⟩;obtain ⟨w1,hw1⟩:∃ w1,w1=W.alloc (Obj.cells #[.int .i64 ((n:Nat):Int),.slice none 0 0] 24):=⟨_,rfl⟩;have G1:Hid (W.grownBy w1 none):=by rw [hw1];exact gr_alloc (gr_refl _ _) _
 have M1:Hid (BoxN w1 gm (.int .i64 ((n:Nat):Int)) (.slice none 0 0)):=by rw [hw1,hgm];exact heap_alloc_new W _
 have HGM:Hid (gm=w.heap.size+2):=by rw [hgm];exact HWS.out
 rw [<- hw1,<- hgm];clear hw1 hgm s0 s1;obtain ⟨s0,s1,_⟩:=NB.out w1 G1.out;have HSZ1:Hid (w.heap.size+3<=w1.heap.size):=by show _<=_;have:=M1.out.lt;have:=HGM.out;omega
 go_wp2;go_loopw [12] (fun iv wr=>Hid (QuiR W (w.heap.size+3) gm n ps iv wr)) (fun iv _=>ps.length-(intOf iv).toNat)
 case atStart=>exact ⟨0,_,by omega,rfl,M1.out,by rw [List.take_zero];exact World.ownsRow_nil _ _ _ _,G1.out⟩
 case round =>
  obtain ⟨i,v,hi,rfl,l1,l2,l3⟩:=hrel.out;obtain ⟨vo,vc,rfl,hvc⟩:=l2.shape;have hlt':((ps.map quietP).take i).length=i:=by simp;omega
  rw [hlt'] at l1 l2;have L1:=hide l1;have L2:=hide l2;have L3:=hide l3;clear l1 l2 l3 hrel s0 s1 hlt';obtain ⟨m0,m1,m2,m3⟩:=L1.out.cells;by_cases hlt:i<ps.length
  ·obtain ⟨b,off,rfl,hb,c0,c1,c2,c3,c4,c5,c6⟩:=HPC.out i hlt;obtain ⟨q,hq⟩:∃ q,q=ps[i]:=⟨_,rfl⟩;rw [<- hq] at c0 c1 c2 c3 c4 c5 c6;have g0:=gr_none GW.out L3.out;have q0:=g0.cell c0 (by simp);have q1:=g0.cell c1 (by simp);have q2:=g0.cell c2 (by simp);have q3:=g0.cell c3 (by simp);have q4:=g0.cell c4 (by simp);have q5:=g0.cell c5 (by simp);have HQ:=hide hq;have HTK:Hid ((ps.map quietP).take (i+1)=(ps.map quietP).take i++[quietP q]):=by
    show _=_
    rw [List.take_succ_eq_append_getElem (by simpa using hlt),List.getElem_map,hq]
   have HLEN:Hid (((ps.map quietP).take i).length=i):=by show _=_;simp;omega
   clear c0 c1 c2 c3 c4 c5 g0 hq;go_upto_region 5 with fail;obtain ⟨gq,hgq⟩:∃ gq,gq=wr.heap.size:=⟨_,rfl⟩;obtain ⟨w2,hw2⟩:∃ w2,w2=wr.alloc (Obj.cells #[.int .i64 q.kind,.int .i64 q.a,.int .i64 q.b,.int .i64 q.c,.int .i64 q.d,.string q.v] 47):=⟨_,rfl⟩;have G2:Hid (wr.grownBy w2 none):=by rw [hw2];exact gr_alloc (gr_refl _ _) _
   have hh:w2.heap[gq]? = some (Obj.cells #[.int .i64 q.kind,.int .i64 q.a,.int .i64 q.b,.int .i64 q.c,.int .i64 q.d,.string q.v] 47 (0,0)):=by rw [hw2,hgq];exact heap_alloc_new wr _
   have HH:=hide hh;have HGQ:Hid (gm<gq/\w.heap.size+3<=gq):=by rw [hgq];exact ⟨L1.out.lt,by have:=L1.out.lt;have:=HGM.out;omega⟩
   have HGQW:Hid (gq=wr.heap.size):=hgq;rw [<- hw2,<- hgq];clear hw2 hgq q0 q1 q2 q3 q4 q5 hh m0 m1 m2 m3;have p0:w2.cell? ⟨gq,0,none⟩=some (.int .i64 q.kind):=by simp [World.cell?,HH.out]
   have p5:w2.cell? ⟨gq,5,none⟩=some (.string q.v):=by simp [World.cell?,HH.out]
   have pf:w2.frozen? ⟨gq,5,none⟩=false:=by simp [World.frozen?,HH.out]
   by_cases hk4:q.kind=4
   ·skip;rw [hk4] at p0;have hgqz:gm≠gq:=by have:=HGQ.out.1;omega
    go_upto_region 7 with fail;obtain ⟨w3,hw3⟩:∃ w3,w3=w2.setCell ⟨gq,5,none⟩ (.string ⟨#[48]⟩):=⟨_,rfl⟩;have H3:Hid (w3.heap[gq]? = some (Obj.cells #[.int .i64 4,.int .i64 q.a,.int .i64 q.b,.int .i64 q.c,.int .i64 q.d,.string ⟨#[48]⟩] 47 (0,0))):=by
     show _=_
     rw [hw3,heap_setCell_same w2 gq 5 _ _ _ HH.out,hk4];simp
    have hg3:w2.grownBy w3 (some gq):=by rw [hw3];exact grs_set _ _ _ _
    have HQP:Hid (quietP q=⟨4,q.a,q.b,q.c,q.d,⟨#[48]⟩⟩):=by show _=_;unfold quietP;rw [if_pos (by omega),hk4]
    have B3:=hide ((L1.out.keep G2.out (by simp)).keep hg3 (fun e=>hgqz (Option.some.inj e)));have O3:Hid (OwnP w3 (w.heap.size+3) (.slice vo i vc) ((ps.map quietP).take i)):=by
     refine (L2.out.keep0 G2.out).kept hg3 ?_;cases hv:(Value.slice vo i vc).ownBlock with
     | none=>exact .inl rfl
     | some k =>
      right
      intro e;have:=(World.ownsRow.lt L2.out k hv).2;have:=Option.some.inj e;have:=HGQW.out;omega
    have G3:Hid (W.grownBy w3 none):=gr_trans (r:=none) (gr_none L3.out G2.out) hg3 (fun _ _ e=>e) (fun k hk e=>by have:=Option.some.inj e;have:=HGQ.out;have:=HWS.out;omega);have HSZ3:Hid (w.heap.size+3<=w3.heap.size):=by show _<=_;have:=hg3.size;have:=G2.out.size;have:=HGQ.out;have:=HGQW.out;omega
    rw [<- hw3];clear hw3 hg3 p0 p5 pf;obtain ⟨m0,m1,m2,m3⟩:=B3.out.cells;have hn3:=H3.out;have y0:w3.cell? ⟨gq,0,none⟩=some (.int .i64 4):=by simp [World.cell?,hn3]
    have y1:w3.cell? ⟨gq,1,none⟩=some (.int .i64 q.a):=by simp [World.cell?,hn3]
    have y2:w3.cell? ⟨gq,2,none⟩=some (.int .i64 q.b):=by simp [World.cell?,hn3]
    have y3:w3.cell? ⟨gq,3,none⟩=some (.int .i64 q.c):=by simp [World.cell?,hn3]
    have y4:w3.cell? ⟨gq,4,none⟩=some (.int .i64 q.d):=by simp [World.cell?,hn3]
    have y5:w3.cell? ⟨gq,5,none⟩=some (.string ⟨#[48]⟩):=by simp [World.cell?,hn3]
    have HCL:Hid (∀ j u,(cellsP (quietP q))[j]? = some u->(w3.alloc (Obj.cells #[.int .i64 4,.int .i64 q.a,.int .i64 q.b,.int .i64 q.c,.int .i64 q.d,.string ⟨#[48]⟩] 47)).cell? ((⟨w3.heap.size,0,none⟩:Addr).add j)=some u):=by
     intro j u hj;have hn:=heap_alloc_new w3 (Obj.cells #[.int .i64 4,.int .i64 q.a,.int .i64 q.b,.int .i64 q.c,.int .i64 q.d,.string ⟨#[48]⟩] 47);rw [HQP.out] at hj;rw [show (⟨w3.heap.size,0,none⟩:Addr).add j=⟨w3.heap.size,j,none⟩ from by unfold Addr.add;split<;>simp_all];simp only [World.cell?,hn];rw [<- hj];simp [cellsP]
    clear hn3;go_wp2_with (at_builtin;refine wpList_append_p _ rfl _ _ 22 rfl (w.heap.size+3) Tryz.underlying22 Tryz.infoPart (.slice vo i vc) ((ps.map quietP).take i) rfl (O3.out.keep0 (gr_alloc (gr_refl _ _) _)) w3.heap.size (quietP q) rfl HCL.out (by rw [HLEN.out];omega) (by simp;have:=HSZ3.out;omega) ?_)
    intro ao cap5 w5 hown hgr;try rw [HLEN.out] at hown
    try rw [HLEN.out]
    rw [<- HTK.out] at hown;have O5:=hide hown;have hne5:some gm≠(Value.slice vo i vc).ownBlock:=by
     rcases O3.out.ne (b:=gm) (by have:=HGM.out;omega) with e | e
     ·rw [e];simp
     ·exact fun e2=>e e2.symm
    have B5:=hide ((B3.out.keep (gr_alloc (gr_refl w3 none) (Obj.cells #[.int .i64 4,.int .i64 q.a,.int .i64 q.b,.int .i64 q.c,.int .i64 q.d,.string ⟨#[48]⟩] 47)) (by simp)).keep hgr hne5);have G5:Hid (W.grownBy w5 none):=by
     refine gr_trans (r:=none) (gr_none G3.out (gr_alloc (gr_refl w3 none) _)) hgr (fun _ _ e=>e) (fun k hk e=>?_);have:=(World.ownsRow.lt O3.out k e.symm).1;have:=HWS.out;omega
    clear hown hgr hne5 m0 m1 m2 m3 y0 y1 y2 y3 y4 y5;obtain ⟨m0,m1,m2,m3⟩:=B5.out.cells;go_wp2;go_roundw
    case rel=>exact ⟨i+1,_,by omega,by go_num,B5.out.set1 _,O5.out.kept (grs_set _ _ _ _) (O5.out.ne (by have:=HGM.out;omega)),gr_set G5.out _ _ (show W.heap.size<=gm by have:=HGM.out;have:=HWS.out;omega)⟩
    case measure=>simp [intOf];omega
   ·by_cases hk5:q.kind=5
    ·skip;rw [hk5] at p0;have hgqz:gm≠gq:=by have:=HGQ.out.1;omega
     go_upto_region 7 with fail;obtain ⟨w3,hw3⟩:∃ w3,w3=w2.setCell ⟨gq,5,none⟩ (.string ⟨#[48]⟩):=⟨_,rfl⟩;have H3:Hid (w3.heap[gq]? = some (Obj.cells #[.int .i64 5,.int .i64 q.a,.int .i64 q.b,.int .i64 q.c,.int .i64 q.d,.string ⟨#[48]⟩] 47 (0,0))):=by
      show _=_
      rw [hw3,heap_setCell_same w2 gq 5 _ _ _ HH.out,hk5];simp
     have hg3:w2.grownBy w3 (some gq):=by rw [hw3];exact grs_set _ _ _ _
     have HQP:Hid (quietP q=⟨5,q.a,q.b,q.c,q.d,⟨#[48]⟩⟩):=by show _=_;unfold quietP;rw [if_pos (by omega),hk5]
     have B3:=hide ((L1.out.keep G2.out (by simp)).keep hg3 (fun e=>hgqz (Option.some.inj e)));have O3:Hid (OwnP w3 (w.heap.size+3) (.slice vo i vc) ((ps.map quietP).take i)):=by
      refine (L2.out.keep0 G2.out).kept hg3 ?_;cases hv:(Value.slice vo i vc).ownBlock with
      | none=>exact .inl rfl
      | some k =>
       right
       intro e;have:=(World.ownsRow.lt L2.out k hv).2;have:=Option.some.inj e;have:=HGQW.out;omega
     have G3:Hid (W.grownBy w3 none):=gr_trans (r:=none) (gr_none L3.out G2.out) hg3 (fun _ _ e=>e) (fun k hk e=>by have:=Option.some.inj e;have:=HGQ.out;have:=HWS.out;omega);have HSZ3:Hid (w.heap.size+3<=w3.heap.size):=by show _<=_;have:=hg3.size;have:=G2.out.size;have:=HGQ.out;have:=HGQW.out;omega
     rw [<- hw3];clear hw3 hg3 p0 p5 pf;obtain ⟨m0,m1,m2,m3⟩:=B3.out.cells;have hn3:=H3.out;have y0:w3.cell? ⟨gq,0,none⟩=some (.int .i64 5):=by simp [World.cell?,hn3]
     have y1:w3.cell? ⟨gq,1,none⟩=some (.int .i64 q.a):=by simp [World.cell?,hn3]
     have y2:w3.cell? ⟨gq,2,none⟩=some (.int .i64 q.b):=by simp [World.cell?,hn3]
     have y3:w3.cell? ⟨gq,3,none⟩=some (.int .i64 q.c):=by simp [World.cell?,hn3]
     have y4:w3.cell? ⟨gq,4,none⟩=some (.int .i64 q.d):=by simp [World.cell?,hn3]
     have y5:w3.cell? ⟨gq,5,none⟩=some (.string ⟨#[48]⟩):=by simp [World.cell?,hn3]
     have HCL:Hid (∀ j u,(cellsP (quietP q))[j]? = some u->(w3.alloc (Obj.cells #[.int .i64 5,.int .i64 q.a,.int .i64 q.b,.int .i64 q.c,.int .i64 q.d,.string ⟨#[48]⟩] 47)).cell? ((⟨w3.heap.size,0,none⟩:Addr).add j)=some u):=by
      intro j u hj;have hn:=heap_alloc_new w3 (Obj.cells #[.int .i64 5,.int .i64 q.a,.int .i64 q.b,.int .i64 q.c,.int .i64 q.d,.string ⟨#[48]⟩] 47);rw [HQP.out] at hj;rw [show (⟨w3.heap.size,0,none⟩:Addr).add j=⟨w3.heap.size,j,none⟩ from by unfold Addr.add;split<;>simp_all];simp only [World.cell?,hn];rw [<- hj];simp [cellsP]
     clear hn3;go_wp2_with (at_builtin;refine wpList_append_p _ rfl _ _ 22 rfl (w.heap.size+3) Tryz.underlying22 Tryz.infoPart (.slice vo i vc) ((ps.map quietP).take i) rfl (O3.out.keep0 (gr_alloc (gr_refl _ _) _)) w3.heap.size (quietP q) rfl HCL.out (by rw [HLEN.out];omega) (by simp;have:=HSZ3.out;omega) ?_)
     intro ao cap5 w5 hown hgr;try rw [HLEN.out] at hown
     try rw [HLEN.out]
     rw [<- HTK.out] at hown;have O5:=hide hown;have hne5:some gm≠(Value.slice vo i vc).ownBlock:=by
      rcases O3.out.ne (b:=gm) (by have:=HGM.out;omega) with e | e
      ·rw [e];simp
      ·exact fun e2=>e e2.symm
     have B5:=hide ((B3.out.keep (gr_alloc (gr_refl w3 none) (Obj.cells #[.int .i64 5,.int .i64 q.a,.int .i64 q.b,.int .i64 q.c,.int .i64 q.d,.string ⟨#[48]⟩] 47)) (by simp)).keep hgr hne5);have G5:Hid (W.grownBy w5 none):=by
      refine gr_trans (r:=none) (gr_none G3.out (gr_alloc (gr_refl w3 none) _)) hgr (fun _ _ e=>e) (fun k hk e=>?_);have:=(World.ownsRow.lt O3.out k e.symm).1;have:=HWS.out;omega
     clear hown hgr hne5 m0 m1 m2 m3 y0 y1 y2 y3 y4 y5;obtain ⟨m0,m1,m2,m3⟩:=B5.out.cells;go_wp2;go_roundw
     case rel=>exact ⟨i+1,_,by omega,by go_num,B5.out.set1 _,O5.out.kept (grs_set _ _ _ _) (O5.out.ne (by have:=HGM.out;omega)),gr_set G5.out _ _ (show W.heap.size<=gm by have:=HGM.out;have:=HWS.out;omega)⟩
     case measure=>simp [intOf];omega
    ·skip;have b4:(q.kind==4)=false:=beq_eq_false_iff_ne.2 hk4;have b5:(q.kind==5)=false:=beq_eq_false_iff_ne.2 hk5;have HQP:Hid (quietP q=⟨q.kind,q.a,q.b,q.c,q.d,q.v⟩):=by show _=_;unfold quietP;rw [if_neg (by omega)]
     go_upto_region 7 with fail;obtain ⟨w3,hw3⟩:∃ w3,w3=w2:=⟨_,rfl⟩;rw [<- hw3];have H3:Hid (w3.heap[gq]? = some (Obj.cells #[.int .i64 q.kind,.int .i64 q.a,.int .i64 q.b,.int .i64 q.c,.int .i64 q.d,.string q.v] 47 (0,0))):=by rw [hw3];exact HH.out
     have B3:Hid (BoxN w3 gm (.int .i64 ((n:Nat):Int)) (.slice vo i vc)):=by rw [hw3];exact L1.out.keep G2.out (by simp)
     have O3:Hid (OwnP w3 (w.heap.size+3) (.slice vo i vc) ((ps.map quietP).take i)):=by rw [hw3];exact L2.out.keep0 G2.out
     have G3:Hid (W.grownBy w3 none):=by rw [hw3];exact gr_none L3.out G2.out
     have HSZ3:Hid (w.heap.size+3<=w3.heap.size):=by rw [hw3];show _<=_;have:=G2.out.size;have:=HGQ.out;have:=HGQW.out;omega
     clear hw3 p0 p5 pf;obtain ⟨m0,m1,m2,m3⟩:=B3.out.cells;have hn3:=H3.out;have y0:w3.cell? ⟨gq,0,none⟩=some (.int .i64 q.kind):=by simp [World.cell?,hn3]
     have y1:w3.cell? ⟨gq,1,none⟩=some (.int .i64 q.a):=by simp [World.cell?,hn3]
     have y2:w3.cell? ⟨gq,2,none⟩=some (.int .i64 q.b):=by simp [World.cell?,hn3]
     have y3:w3.cell? ⟨gq,3,none⟩=some (.int .i64 q.c):=by simp [World.cell?,hn3]
     have y4:w3.cell? ⟨gq,4,none⟩=some (.int .i64 q.d):=by simp [World.cell?,hn3]
     have y5:w3.cell? ⟨gq,5,none⟩=some (.string q.v):=by simp [World.cell?,hn3]
     have HCL:Hid (∀ j u,(cellsP (quietP q))[j]? = some u->(w3.alloc (Obj.cells #[.int .i64 q.kind,.int .i64 q.a,.int .i64 q.b,.int .i64 q.c,.int .i64 q.d,.string q.v] 47)).cell? ((⟨w3.heap.size,0,none⟩:Addr).add j)=some u):=by
      intro j u hj;have hn:=heap_alloc_new w3 (Obj.cells #[.int .i64 q.kind,.int .i64 q.a,.int .i64 q.b,.int .i64 q.c,.int .i64 q.d,.string q.v] 47);rw [HQP.out] at hj;rw [show (⟨w3.heap.size,0,none⟩:Addr).add j=⟨w3.heap.size,j,none⟩ from by unfold Addr.add;split<;>simp_all];simp only [World.cell?,hn];rw [<- hj];simp [cellsP]
     clear hn3;go_wp2_with (at_builtin;refine wpList_append_p _ rfl _ _ 22 rfl (w.heap.size+3) Tryz.underlying22 Tryz.infoPart (.slice vo i vc) ((ps.map quietP).take i) rfl (O3.out.keep0 (gr_alloc (gr_refl _ _) _)) w3.heap.size (quietP q) rfl HCL.out (by rw [HLEN.out];omega) (by simp;have:=HSZ3.out;omega) ?_)
     intro ao cap5 w5 hown hgr;try rw [HLEN.out] at hown
     try rw [HLEN.out]
     rw [<- HTK.out] at hown;have O5:=hide hown;have hne5:some gm≠(Value.slice vo i vc).ownBlock:=by
      rcases O3.out.ne (b:=gm) (by have:=HGM.out;omega) with e | e
      ·rw [e];simp
      ·exact fun e2=>e e2.symm
     have B5:=hide ((B3.out.keep (gr_alloc (gr_refl w3 none) (Obj.cells #[.int .i64 q.kind,.int .i64 q.a,.int .i64 q.b,.int .i64 q.c,.int .i64 q.d,.string q.v] 47)) (by simp)).keep hgr hne5);have G5:Hid (W.grownBy w5 none):=by
      refine gr_trans (r:=none) (gr_none G3.out (gr_alloc (gr_refl w3 none) _)) hgr (fun _ _ e=>e) (fun k hk e=>?_);have:=(World.ownsRow.lt O3.out k e.symm).1;have:=HWS.out;omega
     clear hown hgr hne5 m0 m1 m2 m3 y0 y1 y2 y3 y4 y5;obtain ⟨m0,m1,m2,m3⟩:=B5.out.cells;go_wp2;go_roundw
     case rel=>exact ⟨i+1,_,by omega,by go_num,B5.out.set1 _,O5.out.kept (grs_set _ _ _ _) (O5.out.ne (by have:=HGM.out;omega)),gr_set G5.out _ _ (show W.heap.size<=gm by have:=HGM.out;have:=HWS.out;omega)⟩
     case measure=>simp [intOf];omega
  ·obtain rfl:i=ps.length:=by omega
   have HTK:Hid ((ps.map quietP).take ps.length=ps.map quietP):=by show _=_;rw [List.take_of_length_le (by simp)]
   rw [HTK.out] at L2;obtain ⟨_,_,rb⟩:=NB.out wr L3.out;have RB:=hide rb;obtain ⟨r0,r1,r2,r3⟩:=rb.cells;clear rb;go_wp2;refine bodyPost_ret (v:=.agg #[.int .i64 ((n:Nat):Int),.slice vo ps.length vc]) (by simp [results,Tryz.results19,go_sem,r0,r1]) rfl ?_;refine ⟨_,rfl,(((L2.out.kept (grs_set _ _ _ _) (L2.out.ne (by omega))).kept (grs_set _ _ _ _) (L2.out.ne (by omega))).low (by omega)),gr_set (gr_set (gr_none GW.out L3.out) _ _ (Nat.le_add_right _ 1)) _ _ (Nat.le_add_right _ 1)⟩
end Go.Proofs.YtkhgaelnglndiaaGreatDoor
