/- Contracts that the proof leans on. -/
import Derived.Test.YthblidglcppakaaGreatDoorXSTake
namespace Go.Proofs.YthblidglcppakaaGreatDoor
open Go.RowKit
set_option linter.unusedVariables false
set_option linter.unusedSimpArgs false
set_option maxHeartbeats 8000000
set_option maxRecDepth 10000
structure bX (w:World) (br m n:Nat) (bs cs:Nat->Nat) (R:Nat->Nat->Rat) (L:Nat):Prop where
 top:∃ cur e,w.heap[br]? = some (.cells cur e (0,0))/\∀ i,i<m->cur[i]? = some (.slice (some ⟨bs i,0,none⟩) n (cs i))
 cap:∀ i,i<m->n<=cs i/\cs i<=maxLen
 row:∀ i,i<m->aH w (bs i) n (R i) L
 inj:∀ i j,i<m->j<m->bs i=bs j->i=j
 off:∀ i,i<m->bs i≠br
theorem bX.lt {w:World} {br m n L:Nat} {bs cs:Nat->Nat} {R:Nat->Nat->Rat} (h:bX w br m n bs cs R L):br<w.heap.size:=by
 obtain ⟨cur,e,hb,_⟩:=h.top;exact (Array.getElem?_eq_some_iff.1 hb).1
theorem bX.cell {w:World} {br m n L:Nat} {bs cs:Nat->Nat} {R:Nat->Nat->Rat} (h:bX w br m n bs cs R L) (i:Nat) (hi:i<m) :
  w.cell? ⟨br,i,none⟩=some (.slice (some ⟨bs i,0,none⟩) n (cs i))/\∀ k,w.frozen? ⟨br,k,none⟩=false:=by
 obtain ⟨cur,e,hb,hc⟩:=h.top;exact ⟨by simp only [World.cell?,hb];exact hc i hi,fun k=>by simp [World.frozen?,hb]⟩
theorem bX.keep0 {w w':World} {br m n L:Nat} {bs cs:Nat->Nat} {R:Nat->Nat->Rat} (h:bX w br m n bs cs R L) (g:w.grownBy w' none):bX w' br m n bs cs R L:=by
 have hl:=h.lt;obtain ⟨cur,e,hb,hc⟩:=h.top;exact ⟨⟨cur,e,by rw [g.block br hl (by simp)];exact hb,hc⟩,h.cap,fun i hi=>(h.row i hi).keep0 g,h.inj,h.off⟩
theorem bX.congr {w:World} {br m n L:Nat} {bs cs:Nat->Nat} {R R':Nat->Nat->Rat} (h:bX w br m n bs cs R L) (e:∀ i,i<m->∀ j,j<n->R i j=R' i j):bX w br m n bs cs R' L :=
 ⟨h.top,h.cap,fun i hi=>(h.row i hi).congr (e i hi),h.inj,h.off⟩
theorem bX.step {w w':World} {br m n L:Nat} {bs cs:Nat->Nat} {R:Nat->Nat->Rat} (h:bX w br m n bs cs R L) {i:Nat} (hi:i<m) {Q:Nat->Rat} (hr:aH w' (bs i) n Q L) (g:aX w w' (bs i)) :
  bX w' br m n bs cs (fun j=>if j=i then Q else R j) L:=by
 have hl:=h.lt;obtain ⟨cur,e,hb,hc⟩:=h.top;refine ⟨⟨cur,e,by rw [g.1.block br hl (fun e=>h.off i hi (Option.some.inj e).symm)];exact hb,hc⟩,h.cap,fun j hj=>?_,h.inj,h.off⟩;by_cases hji:j=i
 ·subst hji;simp only [if_true];exact hr
 ·simp only [if_neg hji];exact (h.row j hj).keep g.1 g.2 (fun e=>hji (h.inj j i hj hi (Option.some.inj e)))
theorem bX.keepR {w w':World} {br m n L b:Nat} {bs cs:Nat->Nat} {R:Nat->Nat->Rat} (h:bX w br m n bs cs R L) (g:aX w w' b) (h1:br≠b) (h2:∀ i,i<m->bs i≠b):bX w' br m n bs cs R L:=by
 have hl:=h.lt;obtain ⟨cur,e,hb,hc⟩:=h.top;exact ⟨⟨cur,e,by rw [g.1.block br hl (fun e=>h1 (Option.some.inj e))];exact hb,hc⟩,h.cap,fun i hi=>(h.row i hi).keep g.1 g.2 (fun e=>h2 i hi (Option.some.inj e)),h.inj,h.off⟩
theorem aH.mono {w:World} {b n L L':Nat} {R:Nat->Rat} (h:aH w b n R L) (hL:L<=L'):aH w b n R L':=by
 obtain ⟨cur,e,hb,hc⟩:=h;refine ⟨cur,e,hb,fun i hi=>?_⟩;obtain ⟨u,d,c0,c1,c2,c3⟩:=hc i hi;exact ⟨u,d,c0,c1,c2,c3.mono hL⟩
def StuckE (w:World) (m done:Nat) (R:Nat->Nat->Rat) (e:Ending) (w':World):Prop :=
 ∃ c:Int,e=.returned (.int .i64 c)/\((c=7/\∃ i,done<=i/\i<m/\R i m≠0)∨(c=8/\∀ i,done<=i->i<m->R i m=0))/\w.grownBy w' none
def StkR (W:World) (m done:Nat) (R:Nat->Nat->Rat) (v:Value) (wr:World):Prop :=
 ∃ i:Nat,done+i<=m/\v=.int .i64 i/\(∀ j,done<=j->j<done+i->R j m=0)/\W.grownBy wr none
theorem C6 (fb:Bool) (fo fo2:Option Addr) (fl fc fl2 fc2:Nat) (br m cap done:Nat) (bs cs:Nat->Nat) (R:Nat->Nat->Rat) (L:Nat) (w:World) (hM:bX w br m (m+1) bs cs R L) (hd:done<=m) (hm:m<=1000) (hc:m<=cap) (hc2:cap<=maxLen) :
  Calls Tryz.prog 175 #[(jI fb (.slice fo fl fc) (.slice fo2 fl2 fc2)),.slice (some ⟨br,done,none⟩) (m-done) (cap-done)] w fun e w'=>StuckE w m done R e w':=by
 unfold maxLen at hc2;have HM:=ab hM;have hbl:=hM.lt;clear hM;obtain ⟨W,hW⟩:∃ W,W=w.alloc (Obj.cells #[.bool fb,.slice fo fl fc,.slice fo2 fl2 fc2,.func (.func 99) #[] #[],.func (.func 100) #[] #[],.func (.func 81) #[] #[],.func (.func 101) #[] #[],.func (.func 102) #[] #[],.func (.func 103) #[] #[],.func (.func 104) #[] #[],.func (.func 105) #[] #[]] 126):=⟨_,rfl⟩;have GW:Hid (w.grownBy W none):=by rw [hW];exact ag (ae _ _) _
 have FC:Hid (∀ wx,W.grownBy wx none->wx.cell? ⟨w.heap.size,8,none⟩=some (.func (.func 103) #[] #[])):=by
  intro wx hg;rw [hW] at hg;exact hg.cell (by go_simp) (by simp)
 have MW:=ab (HM.out.keep0 GW.out);go_enter Tryz.func175,Tryz.ntmps175
 go_wp2;rw [<- hW];clear hW;go_loopw [9] (fun v wr=>Hid (StkR W m done R v wr)) (fun v _=>m-done-(intOf v).toNat)
 case atStart=>exact ⟨0,by omega,rfl,fun j h1 h2=>by omega,ae _ _⟩
 case round =>
  obtain ⟨i,hi,rfl,l1,l2⟩:=hrel.out;have L1:=ab l1;have L2:=ab l2;clear l1 l2 hrel;by_cases hlt:done+i<m
  ·have hlt2:i<m-done:=by omega
   have hcc:=(HM.out.cap (done+i) hlt);obtain ⟨hcc1,hcc2⟩:=hcc;unfold maxLen at hcc2;have ct:=((MW.out.keep0 L2.out).cell (done+i) hlt).1;obtain ⟨uo,ul,uc,vo,vl,vc,c0,c1,c2,c3,_⟩:=((MW.out.keep0 L2.out).row (done+i) hlt).at m (by omega);have C3:=ab c3;have CX:Hid (∀ wx,wr.grownBy wx none->wx.cell? ⟨w.heap.size,8,none⟩=some (.func (.func 103) #[] #[])/\wx.cell? ⟨bs (done+i),m*3,none⟩=some (.bool (rB (R (done+i) m)))/\wx.cell? ⟨bs (done+i),m*3+1,none⟩=some (.slice uo ul uc)/\wx.cell? ⟨bs (done+i),m*3+2,none⟩=some (.slice vo vl vc)):=by
    intro wx hg;exact ⟨FC.out wx (aa L2.out hg),hg.cell c0 (by simp),hg.cell c1 (by simp),hg.cell c2 (by simp)⟩
   clear c0 c1 c2 c3;have GG:wr.grownBy wr none:=ae _ _;have hwr1:IntKind.i64.wrap (((m+1:Nat):Int)-1)=(m:Int):=by rw [IntWalk.i64_in _ ⟨by omega,by omega⟩];omega
   have hwr2:IntKind.i64.wrap ((m:Int)+1-1)=(m:Int):=by rw [IntWalk.i64_in _ ⟨by omega,by omega⟩];omega
   have hwr5:IntKind.i64.wrap (m:Int)=(m:Int):=IntWalk.i64_in _ ⟨by omega,by omega⟩;have hwr3:(0:Int)<=(m:Int):=by omega
   have hwr4:(m:Int)<(m:Int)+1:=by omega
   obtain ⟨s0,s1,s2,s3⟩:=CX.out wr GG;go_wp2;go_cut [22] (fun s22 wx=>Hid (s22=.bool (!(decide (R (done+i) m=0)))/\wr.grownBy wx none))
   case first =>
    go_region_held3 (fun w'=>w'.cell? ⟨w.heap.size,8,none⟩=some (.func (.func 103) #[] #[])/\w'.cell? ⟨bs (done+i),m*3,none⟩=some (.bool (rB (R (done+i) m)))/\w'.cell? ⟨bs (done+i),m*3+1,none⟩=some (.slice uo ul uc)/\w'.cell? ⟨bs (done+i),m*3+2,none⟩=some (.slice vo vl vc)) (go_keep)
     (first | (go_at_call 103;refine (bq _ (R (done+i) m) L _ (C3.out.keep0 (by first | exact aa GG (aj _) | exact aa GG ah | exact GG))).mono ?_;rintro e wa ⟨rfl,ga⟩;have GG:wr.grownBy wa none:=aa (by first | exact aa GG (aj _) | exact aa GG ah | exact GG) ga;obtain ⟨a0,a1,a2,a3⟩:=CX.out wa GG))
    all_goals (go_wp2_with fail;go_meet;exact ⟨rfl,(by first | exact aa GG (aj _) | exact aa GG ah | exact GG)⟩)
   case rest =>
    obtain ⟨rfl,g2⟩:=hcut.out;have G2:=ab g2;clear hcut g2 GG s0 s1 s2 s3;by_cases hz:R (done+i) m=0
    ·have hzd:(!(decide (R (done+i) m=0)))=false:=by simp [hz]
     rw [hzd];have HZ:=ab hz;clear hz hzd;go_wp2;go_roundw
     case rel =>
      refine ⟨i+1,by omega,by go_num,fun j h1 h2=>?_,aa L2.out G2.out⟩;by_cases hj:j=done+i
      ·rw [hj];exact HZ.out
      ·exact L1.out j h1 (by omega)
     case measure=>simp [intOf];omega
    ·have hzd:(!(decide (R (done+i) m=0)))=true:=by simp [hz]
     rw [hzd];have HZ:=ab hz;clear hz hzd;go_wp2;refine bodyPost_ret (v:=.int .i64 7) (by simp [results,Tryz.results175,go_sem]) rfl ?_;exact ⟨7,rfl,.inl ⟨rfl,done+i,by omega,hlt,HZ.out⟩,aa GW.out (aa L2.out G2.out)⟩
  ·have hlt2:i=m-done:=by omega
   have hlt3:¬ (i<m-done):=by omega
   go_wp2;refine bodyPost_ret (v:=.int .i64 8) (by simp [results,Tryz.results175,go_sem]) rfl ?_;exact ⟨8,rfl,.inr ⟨rfl,fun j h1 h2=>L1.out j h1 (by omega)⟩,aa GW.out L2.out⟩
theorem bP (w:World) (L:Nat):FQ w (.agg #[.bool (rB 0),.slice none 0 0,.slice none 0 0]) 0 L:=by
 have e2:rN 0=0:=rfl;have e3:(0:Rat).den=1:=rfl;unfold FQ;rw [e2,e3];exact ⟨_,_,rfl,⟨[],Ws.nil _,rfl,rfl,by simp⟩,.inl ⟨rfl,rfl⟩,rfl,by decide⟩
theorem Tryz.infoF:(Tryz.prog.info? 91).map (fun i=>(i.zero,i.size,i.bytes))=some (some (.agg #[.bool false,.slice none 0 0,.slice none 0 0]),3,56):=by kernel_rfl
theorem ld {P:Program} (w:World) {ops:Array Oper} {rest:List Oper} {o:Oper} {a:Act} {Q:Exit->Act->World->Prop}
  (hg:o.guard=none) (l c:Operand) (t:TypeId) (hop:o.op=Op.makeSlice t l c)
  (h1:P.underlying t=some (.slice 91)) (hinfo:(P.info? 91).map (fun i=>(i.zero,i.size,i.bytes))=some (some (.agg #[.bool false,.slice none 0 0,.slice none 0 0]),3,56))
  (kl kc:IntKind) (L C:Int) (n:Nat) (hl:a.eval l=.int kl L) (hc:a.eval c=.int kc C) (hL:L=(n:Int)) (hC:C=(n:Int)) (b2:n<=1000000)
  (hK:∀ w',aH w' w.heap.size n (fun _=>0) 0->w.grownBy w' none->wpList P ops Q rest (a.put o.dst (.slice (some ⟨w.heap.size,0,none⟩) n n)) w') :
  wpList P ops Q (o :: rest) a w:=by
 obtain ⟨i,hi,hz0,hz1,hz2⟩:=info_parts hinfo;refine wpList_make_full w hg l c t hop w.heap.size 91 i _ 3 h1 hi hz0 hz1 kl kc L C n hl hc hL hC (by rw [hz2];omega) (by unfold maxLen;omega) (Nat.le_refl _) ?_;intro w' hown hgr;refine hK w' ?_ hgr;obtain ⟨_,h⟩:=hown;rcases h with ⟨h,_⟩ | ⟨g,cap,cur,h,_,hh,_,_,hsz,ht⟩
 ·simp at h
 ·simp only [Value.slice.injEq,Option.some.injEq,Addr.mk.injEq,and_true,true_and] at h;obtain ⟨rfl,rfl⟩:=h;have hcur:cur=madeCells (Value.agg #[.bool false,.slice none 0 0,.slice none 0 0]).cells (n*3):=by
   apply Array.ext';rw [<- ht,List.take_of_length_le (by simp [hsz])]
  refine ⟨cur,_,hh,fun j hj=>⟨.slice none 0 0,.slice none 0 0,?_,?_,?_,bP _ _⟩⟩
  ·rw [hcur];have e:j*3 % 3=0:=by omega
   simp only [madeCells,Value.cells,Array.getElem?_map];rw [Array.getElem?_eq_getElem (by simp;omega)];simp [e];rfl
  ·rw [hcur];have e:(j*3+1) % 3=1:=by omega
   simp only [madeCells,Value.cells,Array.getElem?_map];rw [Array.getElem?_eq_getElem (by simp;omega)];simp [e]
  ·rw [hcur];have e:(j*3+2) % 3=2:=by omega
   simp only [madeCells,Value.cells,Array.getElem?_map];rw [Array.getElem?_eq_getElem (by simp;omega)];simp [e]
theorem my {w:World} {q:Rat} {uo vo:Option Addr} {ul uc vl vc L:Nat} (h:FQ w (.agg #[.bool (rB q),.slice uo ul uc,.slice vo vl vc]) q L) :
  aH (w.alloc (Obj.cells #[.bool (rB q),.slice uo ul uc,.slice vo vl vc] 91)) w.heap.size 1 (fun _=>q) L:=by
 refine ⟨_,_,heap_alloc_new w _,fun i hi=>?_⟩;obtain rfl:i=0:=by omega
 exact ⟨_,_,rfl,rfl,rfl,h.keep0 (ag (ae _ _) _)⟩
theorem oA {w wb:World} {q:Rat} {uo vo:Option Addr} {ul uc vl vc L:Nat} (hg:(w.alloc (Obj.cells #[.bool false,.slice none 0 0,.slice none 0 0] 91)).grownBy wb none)
  (h:FQ wb (.agg #[.bool (rB q),.slice uo ul uc,.slice vo vl vc]) q L) :
  aH (((wb.setCell ⟨w.heap.size,0,none⟩ (.bool (rB q))).setCell ⟨w.heap.size,1,none⟩ (.slice uo ul uc)).setCell ⟨w.heap.size,2,none⟩ (.slice vo vl vc)) w.heap.size 1 (fun _=>q) L:=by
 have e:wb.heap[w.heap.size]? = some (Obj.cells #[.bool false,.slice none 0 0,.slice none 0 0] 91 (0,0)):=by
  rw [hg.block w.heap.size (by simp) (by simp)];exact heap_alloc_new w _
 have hz:aH wb w.heap.size 1 (fun _=>0) L:=⟨_,_,e,fun i hi=>by
  obtain rfl:i=0:=by omega
  exact ⟨_,_,rfl,rfl,rfl,bP _ _⟩⟩
 have:=(hz.set 0 (by omega) h).1;simp only [Nat.zero_mul,Nat.zero_add] at this;exact this.congr (fun i hi=>by
  obtain rfl:i=0:=by omega
  simp [bg])
theorem aH.var {w:World} {b L:Nat} {q:Rat} (h:aH w b 1 (fun _=>q) L) :
  ∃ uo ul uc do_ dl dc,w.cell? ⟨b,0,none⟩=some (.bool (rB q))/\w.cell? ⟨b,1,none⟩=some (.slice uo ul uc)/\w.cell? ⟨b,2,none⟩=some (.slice do_ dl dc)
   /\ FQ w (.agg #[.bool (rB q),.slice uo ul uc,.slice do_ dl dc]) q L/\∀ k,w.frozen? ⟨b,k,none⟩=false:=by
 obtain ⟨a,b,c,d,e,f,h0,h1,h2,h3,h4⟩:=h.at 0 (by omega);exact ⟨a,b,c,d,e,f,by simpa using h0,by simpa using h1,by simpa using h2,h3,h4⟩
theorem aH.varset {w:World} {b L L':Nat} {p q:Rat} (h:aH w b 1 (fun _=>p) L') {uo do_:Option Addr} {ul uc dl dc:Nat} (hq:FQ w (.agg #[.bool (rB q),.slice uo ul uc,.slice do_ dl dc]) q L) (hL:L'<=L) :
  aH (((w.setCell ⟨b,0,none⟩ (.bool (rB q))).setCell ⟨b,1,none⟩ (.slice uo ul uc)).setCell ⟨b,2,none⟩ (.slice do_ dl dc)) b 1 (fun _=>q) L:=by
 have h':aH w b 1 (fun _=>p) L:=by
  obtain ⟨cur,e,hb,hc⟩:=h;refine ⟨cur,e,hb,fun i hi=>?_⟩;obtain ⟨u,d,c0,c1,c2,c3⟩:=hc i hi;exact ⟨u,d,c0,c1,c2,c3.mono hL⟩
 have:=(h'.set 0 (by omega) hq).1;simp only [Nat.zero_mul,Nat.zero_add] at this;exact this.congr (fun i hi=>by
  obtain rfl:i=0:=by omega
  simp [bg])
def cK (w:World) (bo m:Nat) (o:Nat->Nat):Prop:=∃ cur e,w.heap[bo]? = some (.cells cur e (0,0))/\∀ i,i<m->cur[i]? = some (.int .i64 ((o i:Nat):Int))
theorem cK.lt {w:World} {bo m:Nat} {o:Nat->Nat} (h:cK w bo m o):bo<w.heap.size:=by
 obtain ⟨cur,e,hb,_⟩:=h;exact (Array.getElem?_eq_some_iff.1 hb).1
theorem cK.keep {w w':World} {bo m:Nat} {o:Nat->Nat} {r:Option Nat} (h:cK w bo m o) (g:w.grownBy w' r) (hr:some bo≠r):cK w' bo m o:=by
 have hl:=h.lt;obtain ⟨cur,e,hb,hc⟩:=h;exact ⟨cur,e,by rw [g.block bo hl hr];exact hb,hc⟩
theorem cK.at {w:World} {bo m:Nat} {o:Nat->Nat} (h:cK w bo m o) (i:Nat) (hi:i<m):w.cell? ⟨bo,i,none⟩=some (.int .i64 ((o i:Nat):Int)):=by
 obtain ⟨cur,e,hb,hc⟩:=h;simp only [World.cell?,hb];exact hc i hi
theorem ofR_one:dN [49]=1:=by
 unfold dN;decide
theorem aw {w w1:World} {g i:Nat} {v:Value} (h:w.grownBy w1 (some g)):w.grownBy (w1.setCell ⟨g,i,none⟩ v) (some g) :=
 aq (r2:=some g) h ⟨rfl,rfl,rfl,by simp,fun k _ hr=>heap_setCell_other _ _ _ _ (fun e=>hr (by rw [e]))⟩ (fun _ _ e=>e) (fun _ _ e=>e)
def FldE (w:World) (e:Ending) (w':World):Prop:=∃ fo fl fc fo2 fl2 fc2,e=.returned (jI false (.slice fo fl fc) (.slice fo2 fl2 fc2))/\FQ w' (.agg #[.bool false,.slice fo fl fc,.slice fo2 fl2 fc2]) 1 2/\w.grownBy w' none
theorem sq (m:Int) (w:World) (hml:w.cell? ⟨1,0,none⟩=some (.int .i64 m)) :
  Calls Tryz.prog 77 #[] w fun e w'=>FldE w e w':=by
 have HM:=ab hml;have hb:=cV hml;clear hml;obtain ⟨W,hW⟩:∃ W,W=w.alloc (Obj.cells #[.bool false,.slice none 0 0,.slice none 0 0,.nilFunc,.nilFunc,.nilFunc,.nilFunc,.nilFunc,.nilFunc,.nilFunc,.nilFunc] 126):=⟨_,rfl⟩;have GW:Hid (w.grownBy W none):=by rw [hW];exact ag (ae _ _) _
 have BL:Hid (∀ wx,W.grownBy wx none->wx.heap[w.heap.size]? = some (Obj.cells #[.bool false,.slice none 0 0,.slice none 0 0,.nilFunc,.nilFunc,.nilFunc,.nilFunc,.nilFunc,.nilFunc,.nilFunc,.nilFunc] 126 (0,0))):=by
  intro wx hg;rw [hW] at hg;rw [hg.block w.heap.size (by simp) (by simp)];exact heap_alloc_new w _
 go_enter Tryz.func77,Tryz.ntmps77
 go_wp2_with fail;rw [<- hW];clear hW;refine (Cv _ m _ (by decide) (GW.out.cell HM.out (by simp))).mono ?_;rintro e w2 ⟨v,rfl,k1,k2⟩;have e1:dN (ByteArray.mk #[49]).data.toList=1:=ofR_one;rw [e1] at k1;obtain ⟨uo,ul,uc,do_,dl,dc,rfl⟩:=k1.shape;have K1:=ab k1;have K2:=ab k2;have hbl:=BL.out w2 k2;have h0:∀ k,k<11->(w2.cell? ⟨w.heap.size,k,none⟩).isSome=true/\w2.frozen? ⟨w.heap.size,k,none⟩=false:=by
  intro k hk;simp only [World.cell?,World.frozen?,hbl];refine ⟨?_,by simp⟩;rcases k with _ | _ | _ | _ | _ | _ | _ | _ | _ | _ | _ | k<;>first | rfl | omega
 have c0:w2.cell? ⟨w.heap.size,0,none⟩=some (.bool false):=by simp [World.cell?,hbl]
 have c1:w2.cell? ⟨w.heap.size,1,none⟩=some (.slice none 0 0):=by simp [World.cell?,hbl]
 have c2:w2.cell? ⟨w.heap.size,2,none⟩=some (.slice none 0 0):=by simp [World.cell?,hbl]
 have c3:w2.cell? ⟨w.heap.size,3,none⟩=some .nilFunc:=by simp [World.cell?,hbl]
 have c4:w2.cell? ⟨w.heap.size,4,none⟩=some .nilFunc:=by simp [World.cell?,hbl]
 have c5:w2.cell? ⟨w.heap.size,5,none⟩=some .nilFunc:=by simp [World.cell?,hbl]
 have c6:w2.cell? ⟨w.heap.size,6,none⟩=some .nilFunc:=by simp [World.cell?,hbl]
 have c7:w2.cell? ⟨w.heap.size,7,none⟩=some .nilFunc:=by simp [World.cell?,hbl]
 have c8:w2.cell? ⟨w.heap.size,8,none⟩=some .nilFunc:=by simp [World.cell?,hbl]
 have c9:w2.cell? ⟨w.heap.size,9,none⟩=some .nilFunc:=by simp [World.cell?,hbl]
 have c10:w2.cell? ⟨w.heap.size,10,none⟩=some .nilFunc:=by simp [World.cell?,hbl]
 have f0:=(h0 0 (by omega)).2;have f1:=(h0 1 (by omega)).2;have f2:=(h0 2 (by omega)).2;have f3:=(h0 3 (by omega)).2;have f4:=(h0 4 (by omega)).2;have f5:=(h0 5 (by omega)).2;have f6:=(h0 6 (by omega)).2;have f7:=(h0 7 (by omega)).2;have f8:=(h0 8 (by omega)).2;have f9:=(h0 9 (by omega)).2;have f10:=(h0 10 (by omega)).2;have NW:Hid (bO w2 w.heap.size):=by
  intro i x;simp only [World.cell?,hbl];rcases i with _ | _ | _ | _ | _ | _ | _ | _ | _ | _ | _ | i<;>simp
 clear h0 hbl k1 k2;have sf:∀ (n:Nat) (a:Addr) (wx:World),(store a (.func (.func n) #[] #[])).run Tryz.prog wx=stored Tryz.prog wx a (.func (.func n) #[] #[]) .plain:=fun n a wx=>run_store _ _ _ _ _ rfl
 go_wp2;refine bodyPost_ret (v:=jI (rB 1) (.slice uo ul uc) (.slice do_ dl dc)) (by simp [results,Tryz.results77,go_sem,c0,c1,c2,c3,c4,c5,c6,c7,c8,c9,c10]) rfl ?_;refine ⟨uo,ul,uc,do_,dl,dc,rfl,FV.other (g:=w.heap.size) K1.out NW.out ?_,?_⟩
 ·exact aw (aw (aw (aw (aw (aw (aw (aw (aw (aw (aw (ae _ _)))))))))))
 ·exact ai (ai (ai (ai (ai (ai (ai (ai (ai (ai (ai (aa GW.out K2.out) _ _ (Nat.le_refl _)) _ _ (Nat.le_refl _)) _ _ (Nat.le_refl _)) _ _ (Nat.le_refl _)) _ _ (Nat.le_refl _)) _ _ (Nat.le_refl _)) _ _ (Nat.le_refl _)) _ _ (Nat.le_refl _)) _ _ (Nat.le_refl _)) _ _ (Nat.le_refl _)) _ _ (Nat.le_refl _)
theorem ofId_at (x:Value) (q:Rat) (L:Nat) (w:World) (hx:FQ w x q L) :
  Calls Tryz.prog 99 #[x] w fun e w'=>AN w q L e w':=by
 have HX:=ab hx;obtain ⟨uo,ul,uc,do_,dl,dc,rfl⟩:=hx.shape;clear hx;go_enter Tryz.func99,Tryz.ntmps99
 go_wp2;refine bodyPost_ret (v:=.agg #[.bool (rB q),.slice uo ul uc,.slice do_ dl dc]) (by simp [results,Tryz.results99,go_sem]) rfl ?_;exact ⟨_,rfl,HX.out.keep0 (ag (ag (ae _ _) _) _),ag (ag (ae _ _) _) _⟩
theorem iT (x:Value) (q:Rat) (bf bz:Nat) (L:Nat) (w:World) (hx:FQ w x q L) (hf:w.cell? ⟨bf,5,none⟩=some (.func (.func 81) #[] #[]))
  (z0:w.cell? ⟨bz,0,none⟩=some (.bool false)) (z1:w.cell? ⟨bz,1,none⟩=some (.slice none 0 0)) (z2:w.cell? ⟨bz,2,none⟩=some (.slice none 0 0)) (hL1:1<=L) (hL:L<=100000000) :
  Calls Tryz.prog 106 #[x,.pointer (some ⟨bf,0,none⟩),.pointer (some ⟨bz,0,none⟩)] w fun e w'=>AN w (0-q) L e w':=by
 have HX:=ab hx;have HFT:Hid (bM L (0-q)):=by
  have e:0-q = -q:=by grind
  rw [e];exact (hx.fits hL1).neg
 obtain ⟨uo,ul,uc,do_,dl,dc,rfl⟩:=hx.shape;clear hx;obtain ⟨W,hW⟩:∃ W,W=(w.alloc (Obj.cells #[.bool (rB q),.slice uo ul uc,.slice do_ dl dc] 91)).alloc (Obj.cells #[.bool false,.slice none 0 0,.slice none 0 0] 91):=⟨_,rfl⟩;have GW:Hid (w.grownBy W none):=by rw [hW];exact ag (ag (ae _ _) _) _
 have CELLS:Hid (∀ wx,W.grownBy wx none->(wx.cell? ⟨w.heap.size,0,none⟩=some (.bool (rB q))/\wx.cell? ⟨w.heap.size,1,none⟩=some (.slice uo ul uc)/\wx.cell? ⟨w.heap.size,2,none⟩=some (.slice do_ dl dc))/\(wx.cell? ⟨w.heap.size+1,0,none⟩=some (.bool false)/\wx.cell? ⟨w.heap.size+1,1,none⟩=some (.slice none 0 0)/\wx.cell? ⟨w.heap.size+1,2,none⟩=some (.slice none 0 0)/\∀ i,wx.frozen? ⟨w.heap.size+1,i,none⟩=false)):=by
  intro wx hg;rw [hW] at hg;have a1:=aJ (aa (ag (ae _ none) _) hg);have a3:=aV hg;have e3:(w.alloc (Obj.cells #[.bool (rB q),.slice uo ul uc,.slice do_ dl dc] 91)).heap.size=w.heap.size+1:=by simp
  rw [e3] at a3;exact ⟨a1,a3⟩
 have NW:Hid (∀ wx,W.grownBy wx none->bO wx (w.heap.size+1)):=by
  intro wx hg;rw [hW] at hg;have:=bu hg;simpa using this
 have k0:=GW.out.cell hf (by simp);have k1:=GW.out.cell z0 (by simp);have k2:=GW.out.cell z1 (by simp);have k3:=GW.out.cell z2 (by simp);obtain ⟨⟨s0,s1,s2⟩,⟨r0,r1,r2,rf⟩⟩:=CELLS.out W (ae _ _);clear hf z0 z1 z2 rf;go_enter Tryz.func106,Tryz.ntmps106
 go_upto_region 1 with fail;rw [<- hW];clear hW;go_wp2_with fail;have hz:=bP W L;refine (cZ _ _ 0 q L L _ (by exact hz) (HX.out.keep0 GW.out) (by omega)).mono ?_;rintro e w2 ⟨v,rfl,p1,p2⟩;have P1:=ab (p1.tight (L':=L) HFT.out);obtain ⟨ao,al,ac,bo,bl,bc,rfl⟩:=p1.shape;have G2:=ab p2;obtain ⟨⟨t0,t1,t2⟩,⟨q0,q1,q2,qf⟩⟩:=CELLS.out w2 p2;have qf0:=qf 0;have qf1:=qf 1;have qf2:=qf 2;clear p1 p2 qf hz;go_wp2;refine bodyPost_ret (v:=.agg #[.bool (rB (0-q)),.slice ao al ac,.slice bo bl bc]) (by first | (simp [results,Tryz.results106,go_sem,q0,q1,q2];done) | (simp [results,Tryz.results106,go_sem,q0,q1,q2];rfl)) rfl ?_;exact ⟨_,rfl,FV.other P1.out (NW.out w2 G2.out) bF,ai (ai (ai (aa GW.out G2.out) _ _ (by simp)) _ _ (by simp)) _ _ (by simp)⟩
theorem oM (g n c:Nat) (ao:Option Addr) (al ac:Nat) (R:Nat->Rat) (i j L:Nat) (w:World) (hr:aH w g n R L) (hi:i<n) (hj:j<n) (hc:n<=c) (hm:c<=maxLen) (hL:L<=100000000) :
  Calls Tryz.prog 44 #[.agg #[.slice (some ⟨g,0,none⟩) n c,.slice ao al ac],.int .i64 ((i:Nat):Int),.int .i64 ((j:Nat):Int)] w fun e w'=>AN w (R i-R j) (L+L+2) e w':=by
 unfold maxLen at hm;have hgl:=hr.lt;obtain ⟨uo,ul,uc,vo,vl,vc,c0,c1,c2,c3,_⟩:=hr.at i hi;obtain ⟨xo,xl,xc,yo,yl,yc,e0,e1,e2,e3,_⟩:=hr.at j hj;have C3:=ab c3;have E3:=ab e3;clear hr c3 e3;obtain ⟨W,hW⟩:∃ W,W=(w.alloc (Obj.cells #[.slice (some ⟨g,0,none⟩) n c,.slice ao al ac] 62)).alloc (Obj.cells #[.bool false,.slice none 0 0,.slice none 0 0] 91):=⟨_,rfl⟩;have GW:Hid (w.grownBy W none):=by rw [hW];exact ag (ag (ae _ _) _) _
 have CX:Hid (∀ wx,W.grownBy wx none->wx.cell? ⟨w.heap.size,0,none⟩=some (.slice (some ⟨g,0,none⟩) n c)/\wx.cell? ⟨g,i*3,none⟩=some (.bool (rB (R i)))/\wx.cell? ⟨g,i*3+1,none⟩=some (.slice uo ul uc)/\wx.cell? ⟨g,i*3+2,none⟩=some (.slice vo vl vc)/\wx.cell? ⟨g,j*3,none⟩=some (.bool (rB (R j)))/\wx.cell? ⟨g,j*3+1,none⟩=some (.slice xo xl xc)/\wx.cell? ⟨g,j*3+2,none⟩=some (.slice yo yl yc)):=by
  intro wx hg;have hg2:=aa GW.out hg;rw [hW] at hg;exact ⟨hg.cell (by go_simp) (by simp),hg2.cell c0 (by simp),hg2.cell c1 (by simp),hg2.cell c2 (by simp),hg2.cell e0 (by simp),hg2.cell e1 (by simp),hg2.cell e2 (by simp)⟩
 have RES:Hid (∀ wx,W.grownBy wx none->(wx.cell? ⟨w.heap.size+1,0,none⟩=some (.bool false)/\wx.cell? ⟨w.heap.size+1,1,none⟩=some (.slice none 0 0)/\wx.cell? ⟨w.heap.size+1,2,none⟩=some (.slice none 0 0)/\∀ i,wx.frozen? ⟨w.heap.size+1,i,none⟩=false)/\bO wx (w.heap.size+1)):=by
  intro wx hg;rw [hW] at hg;have a3:=aV hg;have a4:=bu hg;have e3:(w.alloc (Obj.cells #[.slice (some ⟨g,0,none⟩) n c,.slice ao al ac] 62)).heap.size=w.heap.size+1:=by simp
  rw [e3] at a3 a4;exact ⟨a3,a4⟩
 clear c0 c1 c2 e0 e1 e2;have GG:W.grownBy W none:=ae _ _;obtain ⟨s0,s1,s2,s3,s4,s5,s6⟩:=CX.out W GG;have n1:w.heap.size+1≠w.heap.size:=by omega
 have n2:w.heap.size+1≠g:=by omega
 have hi1:(0:Int)<=((i:Nat):Int):=by omega
 have hi2:((i:Nat):Int)<(n:Int):=by omega
 have hj1:(0:Int)<=((j:Nat):Int):=by omega
 have hj2:((j:Nat):Int)<(n:Int):=by omega
 go_enter Tryz.func44,Tryz.ntmps44
 go_upto_region 1 with fail;rw [<- hW];clear hW;go_region_held3 (fun w'=>w'.cell? ⟨w.heap.size,0,none⟩=some (.slice (some ⟨g,0,none⟩) n c)/\w'.cell? ⟨g,i*3,none⟩=some (.bool (rB (R i)))/\w'.cell? ⟨g,i*3+1,none⟩=some (.slice uo ul uc)/\w'.cell? ⟨g,i*3+2,none⟩=some (.slice vo vl vc)/\w'.cell? ⟨g,j*3,none⟩=some (.bool (rB (R j)))/\w'.cell? ⟨g,j*3+1,none⟩=some (.slice xo xl xc)/\w'.cell? ⟨g,j*3+2,none⟩=some (.slice yo yl yc)) (go_keep)
  (first | (go_at_call 81;refine (cZ _ _ (R i) (R j) L L _ (C3.out.keep0 (aa GW.out (by first | exact aa GG (aj _) | exact aa GG ah | exact GG))) (E3.out.keep0 (aa GW.out (by first | exact aa GG (aj _) | exact aa GG ah | exact GG))) (by omega)).mono ?_;rintro e wf ⟨v6,rfl,f1,f2⟩;obtain ⟨fo,fl,fc,fo2,fl2,fc2,rfl⟩:=f1.shape;have GG:W.grownBy wf none:=aa (by first | exact aa GG (aj _) | exact aa GG ah | exact GG) f2;obtain ⟨b0,b1,b2,b3,b4,b5,b6⟩:=CX.out wf GG;obtain ⟨⟨r0,r1,r2,rf⟩,nw⟩:=RES.out wf GG;have rf0:=rf 0;have rf1:=rf 1;have rf2:=rf 2;clear rf))
 all_goals
  have F1:=ab f1;have NW:=ab nw;have HG:=ab GG;clear f1 f2 nw;go_wp2;refine bodyPost_ret (v:=.agg #[.bool (rB (R i-R j)),.slice fo fl fc,.slice fo2 fl2 fc2]) (by first | (simp [results,Tryz.results44,go_sem,r0,r1,r2];done) | (simp [results,Tryz.results44,go_sem,r0,r1,r2];rfl)) rfl ?_;exact ⟨_,rfl,FV.other F1.out NW.out bF,ai (ai (ai (aa GW.out HG.out) _ _ (by simp)) _ _ (by simp)) _ _ (by simp)⟩
def dH (n k:Nat) (a b:Int):Int×Int:=if a<0∨(n:Int)<=a then (4,k) else if b<0∨(n:Int)<=b then (4,(k:Int)+1) else (0,0)
def EndsR2 (W:World) (n:Nat) (a b:Int) (v:Value) (wr:World):Prop :=
 (v=.int .i64 0/\W.grownBy wr none)∨(v=.int .i64 1/\0<=a/\a<(n:Int)/\W.grownBy wr none)∨(v=.int .i64 2/\0<=a/\a<(n:Int)/\0<=b/\b<(n:Int)/\W.grownBy wr none)
theorem ends_at (n k:Nat) (po:Option Addr) (pc:Nat) (a b:Int) (w:World) (hk:k<=1000) :
  Calls Tryz.prog 41 #[.agg #[.int .i64 ((n:Nat):Int),.slice po k pc],.int .i64 a,.int .i64 b] w
   fun e w'=>e=.returned (.agg #[.int .i64 (dH n k a b).1,.int .i64 (dH n k a b).2])/\w.grownBy w' none:=by
 obtain ⟨W,hW⟩:∃ W,W=(w.alloc (Obj.cells #[.int .i64 ((n:Nat):Int),.slice po k pc] 24)).alloc (Obj.cells #[.int .i64 0,.int .i64 0] 29):=⟨_,rfl⟩;have GW:Hid (w.grownBy W none):=by rw [hW];exact ag (ag (ae _ _) _) _
 have CX:Hid (∀ wx,W.grownBy wx none->wx.cell? ⟨w.heap.size,0,none⟩=some (.int .i64 ((n:Nat):Int))/\wx.cell? ⟨w.heap.size,1,none⟩=some (.slice po k pc)/\wx.cell? ⟨w.heap.size+1,0,none⟩=some (.int .i64 0)/\wx.cell? ⟨w.heap.size+1,1,none⟩=some (.int .i64 0)/\wx.frozen? ⟨w.heap.size+1,0,none⟩=false/\wx.frozen? ⟨w.heap.size+1,1,none⟩=false):=by
  intro wx hg;have e:wx.heap[w.heap.size+1]? = some (Obj.cells #[.int .i64 0,.int .i64 0] 29 (0,0)):=by
   rw [hW] at hg;rw [hg.block (w.heap.size+1) (by simp) (by simp)];have:=heap_alloc_new (w.alloc (Obj.cells #[.int .i64 ((n:Nat):Int),.slice po k pc] 24)) (Obj.cells #[.int .i64 0,.int .i64 0] 29);simpa using this
  rw [hW] at hg;exact ⟨hg.cell (by go_simp) (by simp),hg.cell (by go_simp) (by simp),by simp [World.cell?,e],by simp [World.cell?,e],by simp [World.frozen?,e],by simp [World.frozen?,e]⟩
 have hix0:∀ wx,(Instr.index 120 (.agg #[.int .i64 a,.int .i64 b]) (.int .i64 0)).run Tryz.prog wx=.ok (.int .i64 a) wx:=fun wx=>by kernel_rfl
 have hix1:∀ wx,(Instr.index 120 (.agg #[.int .i64 a,.int .i64 b]) (.int .i64 1)).run Tryz.prog wx=.ok (.int .i64 b) wx:=fun wx=>by kernel_rfl
 go_enter Tryz.func41,Tryz.ntmps41
 go_wp2;rw [<- hW];clear hW;go_loopw [12] (fun v wr=>Hid (EndsR2 W n a b v wr)) (fun v _=>2-(intOf v).toNat)
 case atStart=>exact .inl ⟨rfl,ae _ _⟩
 case round =>
  rcases hrel.out with ⟨rfl,g1⟩ | ⟨rfl,h1,h2,g1⟩ | ⟨rfl,h1,h2,h3,h4,g1⟩
  ·have G1:=ab g1;obtain ⟨s0,s1,s2,s3,s4,s5⟩:=CX.out wr g1;clear hrel g1;by_cases ha:a<0
   ·have e1:dH n k a b=(4,(k:Int)):=by unfold dH;rw [if_pos (.inl ha)]
    have E1:=ab e1;have hd:decide (a<0)=true:=decide_eq_true ha;clear e1;go_wp2;refine bodyPost_ret (v:=.agg #[.int .i64 4,.int .i64 (k:Int)]) (by simp [results,Tryz.results41,go_sem,s2,s3]) rfl ?_;exact ⟨by rw [E1.out],ai (ai (aa GW.out G1.out) _ _ (by simp)) _ _ (by simp)⟩
   ·by_cases ha2:(n:Int)<=a
    ·have e1:dH n k a b=(4,(k:Int)):=by unfold dH;rw [if_pos (.inr ha2)]
     have E1:=ab e1;have hd:decide (a<0)=false:=decide_eq_false ha;clear e1;go_wp2;refine bodyPost_ret (v:=.agg #[.int .i64 4,.int .i64 (k:Int)]) (by simp [results,Tryz.results41,go_sem,s2,s3]) rfl ?_;exact ⟨by rw [E1.out],ai (ai (aa GW.out G1.out) _ _ (by simp)) _ _ (by simp)⟩
    ·have hd:decide (a<0)=false:=decide_eq_false ha;have hd2:decide ((n:Int)<=a)=false:=decide_eq_false ha2;go_wp2;go_roundw
     case rel=>exact .inr (.inl ⟨by go_num,by omega,by omega,G1.out⟩)
     case measure=>simp [intOf]
  ·have G1:=ab g1;obtain ⟨s0,s1,s2,s3,s4,s5⟩:=CX.out wr g1;clear hrel g1;have hwk:IntKind.i64.wrap ((k:Int)+1)=(k:Int)+1:=IntWalk.i64_in _ ⟨by omega,by omega⟩;by_cases hb:b<0
   ·have e1:dH n k a b=(4,(k:Int)+1):=by unfold dH;rw [if_neg (by omega),if_pos (.inl hb)]
    have E1:=ab e1;have hd:decide (b<0)=true:=decide_eq_true hb;clear e1;go_wp2;refine bodyPost_ret (v:=.agg #[.int .i64 4,.int .i64 ((k:Int)+1)]) (by simp [results,Tryz.results41,go_sem,s2,s3]) rfl ?_;exact ⟨by rw [E1.out],ai (ai (aa GW.out G1.out) _ _ (by simp)) _ _ (by simp)⟩
   ·by_cases hb2:(n:Int)<=b
    ·have e1:dH n k a b=(4,(k:Int)+1):=by unfold dH;rw [if_neg (by omega),if_pos (.inr hb2)]
     have E1:=ab e1;have hd:decide (b<0)=false:=decide_eq_false hb;clear e1;go_wp2;refine bodyPost_ret (v:=.agg #[.int .i64 4,.int .i64 ((k:Int)+1)]) (by simp [results,Tryz.results41,go_sem,s2,s3]) rfl ?_;exact ⟨by rw [E1.out],ai (ai (aa GW.out G1.out) _ _ (by simp)) _ _ (by simp)⟩
    ·have hd:decide (b<0)=false:=decide_eq_false hb;have hd2:decide ((n:Int)<=b)=false:=decide_eq_false hb2;go_wp2;go_roundw
     case rel=>exact .inr (.inr ⟨by go_num,h1,h2,by omega,by omega,G1.out⟩)
     case measure=>simp [intOf]
  ·have G1:=ab g1;obtain ⟨s0,s1,s2,s3,s4,s5⟩:=CX.out wr g1;clear hrel g1;have e1:dH n k a b=(0,0):=by unfold dH;rw [if_neg (by omega),if_neg (by omega)]
   have E1:=ab e1;clear e1;go_wp2;refine bodyPost_ret (v:=.agg #[.int .i64 0,.int .i64 0]) (by simp [results,Tryz.results41,go_sem,s2,s3]) rfl ?_;exact ⟨by rw [E1.out],ai (ai (aa GW.out G1.out) _ _ (by simp)) _ _ (by simp)⟩
end Go.Proofs.YthblidglcppakaaGreatDoor
