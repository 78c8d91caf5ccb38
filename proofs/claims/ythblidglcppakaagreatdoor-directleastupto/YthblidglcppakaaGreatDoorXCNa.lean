/- Contracts that the proof leans on. -/
import Derived.Test.YthblidglcppakaaGreatDoorXMBase
import Derived.Laws.AppendOwn
import Derived.Test.YthblidglcppakaaGreatDoorXMFc
namespace Go.Proofs.YthblidglcppakaaGreatDoor
open Go.RowKit
set_option linter.unusedVariables false
set_option linter.unusedSimpArgs false
set_option maxHeartbeats 8000000
set_option maxRecDepth 10000
structure aI where
 kind:Int
 a:Int
 b:Int
 c:Int
 d:Int
 v:ByteArray
def aI.val (p:aI):Value:=.agg #[.int .i64 p.kind,.int .i64 p.a,.int .i64 p.b,.int .i64 p.c,.int .i64 p.d,.string p.v]
def aK (w:World) (v:Value) (ps:List aI):Prop:=∃ ao cap,v=.slice ao ps.length cap/\ps.length<=cap/\cap<=maxLen/\∀ i (h:i<ps.length),∃ b off,ao=some ⟨b,off,none⟩/\b<w.heap.size /\
 w.cell? ⟨b,off+i*6,none⟩=some (.int .i64 ps[i].kind)/\w.cell? ⟨b,off+i*6+1,none⟩=some (.int .i64 ps[i].a)/\w.cell? ⟨b,off+i*6+2,none⟩=some (.int .i64 ps[i].b)/\w.cell? ⟨b,off+i*6+3,none⟩=some (.int .i64 ps[i].c)/\w.cell? ⟨b,off+i*6+4,none⟩=some (.int .i64 ps[i].d)/\w.cell? ⟨b,off+i*6+5,none⟩=some (.string ps[i].v)/\ps[i].v.size<=600000000
theorem aK.keep {w w':World} {v:Value} {ps:List aI} (h:aK w v ps) (hg:w.grownBy w' none):aK w' v ps:=by
 obtain ⟨ao,cap,e,h1,h2,h3⟩:=h;refine ⟨ao,cap,e,h1,h2,fun i hi=>?_⟩;obtain ⟨b,off,e,hb,c0,c1,c2,c3,c4,c5,c6⟩:=h3 i hi;exact ⟨b,off,e,Nat.lt_of_lt_of_le hb hg.size,hg.cell c0 (by simp),hg.cell c1 (by simp),hg.cell c2 (by simp),hg.cell c3 (by simp),hg.cell c4 (by simp),hg.cell c5 (by simp),c6⟩
def cL {α:Type} (f:α->Value) (t:TypeId) (w:World) (base:Nat) (v:Value) (xs:List α):Prop:=w.ownsRow base t 1 v xs.length (xs.map f)
def ee {α:Type} (f:α->Value) (w:World) (v:Value) (xs:List α):Prop:=∃ ao cap,v=.slice ao xs.length cap/\xs.length<=cap/\cap<=maxLen/\∀ i (h:i<xs.length),∃ b off,ao=some ⟨b,off,none⟩/\b<w.heap.size/\w.cell? ⟨b,off+i,none⟩=some (f xs[i])
theorem ee.keep {α:Type} {f:α->Value} {w w':World} {v:Value} {xs:List α} (h:ee f w v xs) (hg:w.grownBy w' none):ee f w' v xs:=by
 obtain ⟨ao,cap,e,h1,h2,h3⟩:=h;refine ⟨ao,cap,e,h1,h2,fun i hi=>?_⟩;obtain ⟨b,off,e,hb,c⟩:=h3 i hi;exact ⟨b,off,e,Nat.lt_of_lt_of_le hb hg.size,hg.cell c (by simp)⟩
section
variable {α:Type} {f:α->Value} {t:TypeId} {w w':World} {base:Nat} {v:Value} {xs:List α}
theorem iU:cL f t w base (.slice none 0 0) []:=World.ownsRow_nil _ _ _ _
theorem cL.row (h:cL f t w base v xs):ee f w v xs:=by
 rcases h.2 with ⟨rfl,h0⟩ | ⟨g,cap,cur,rfl,hb,hh,h1,h2,h3,h4⟩
 ·have:xs=[]:=List.eq_nil_of_length_eq_zero h0;subst this;exact ⟨none,0,rfl,by simp,by simp,fun i hi=>by simp at hi⟩
 ·refine ⟨_,cap,rfl,h1,h2,fun i hi=>⟨g,0,rfl,(Array.getElem?_eq_some_iff.1 hh).1,?_⟩⟩;rw [Nat.zero_add];simp only [World.cell?,hh];have h5:(cur.toList.take (xs.length*1))[i]? = (xs.map f)[i]?:=by rw [h4]
  rw [List.getElem?_take,if_pos (by omega)] at h5;simpa [hi] using h5
theorem cL.fresh (h:cL f t w base v xs):∀ k,v.ownBlock=some k->base<=k/\k<w.heap.size:=World.ownsRow.lt h
theorem cL.keep {row:Option Nat} (h:cL f t w base v xs) (hg:w.grownBy w' row) (hne:v.ownBlock=none∨v.ownBlock≠row):cL f t w' base v xs:=World.ownsRow.kept h hg hne
theorem cL.keep0 (h:cL f t w base v xs) (hg:w.grownBy w' none):cL f t w' base v xs:=h.keep hg (by cases hv:v.ownBlock<;>simp)
theorem cL.keepB {g:Nat} (h:cL f t w base v xs) (hg:w.grownBy w' (some g)) (hb:g<base):cL f t w' base v xs:=by
 refine h.keep hg ?_;cases hv:v.ownBlock with
 | none=>exact .inl rfl
 | some k =>
  right
  intro e;have:=(h.fresh k hv).1;cases e
  omega
theorem cL.shape (h:cL f t w base v xs):∃ ao cap,v=.slice ao xs.length cap:=by
 obtain ⟨ao,cap,e,_⟩:=h.row;exact ⟨ao,cap,e⟩
end
theorem dZ {P:Program} {α:Type} (f:α->Value) (e:TypeId) (z0:Value) (by_:Nat) (W:World) {ops:Array Oper} {rest:List Oper} {o:Oper} {a:Act} {Q:Exit->Act->World->Prop}
  (hg:o.guard=none) (s x:Operand) (t:TypeId) (ho:o.op=.call { callee:=.builtin .append,args:=#[s,x],argTypes:=#[t,t] }) (base:Nat)
  (h1:P.underlying t=some (.slice e)) (hinfo:(P.info? e).map (fun i=>(i.zero,i.size,i.bytes))=some (some z0,1,by_)) (hcz:z0.cells.size=1)
  (v:Value) (xs:List α) (hs:a.eval s=v) (hown:cL f e W base v xs) (b:Nat) (y:α) (hx:a.eval x=.slice (some ⟨b,0,none⟩) 1 1) (hc:W.cell? ⟨b,0,none⟩=some (f y)) (h1c:(f y).oneCell'=true)
  (hlen:xs.length<=1000000) (hby:by_<=24) (hbase:base<=W.heap.size)
  (hK:∀ ao cap w',cL f e w' base (.slice ao (xs.length+1) cap) (xs++[y])->W.grownBy w' v.ownBlock->wpList P ops Q rest (a.put o.dst (.slice ao (xs.length+1) cap)) w'):wpList P ops Q (o :: rest) a W:=by
 obtain ⟨i,hi,hz0,hz1,hz2⟩:=info_parts hinfo;refine wpList_append_own W hg s x t ho base e i z0 1 by_ h1 hi hz0 hz1 hz2 hcz (by decide) v xs.length (xs.map f) hs hown ⟨b,0,none⟩ 1 1 [f y] hx rfl ?_ ?_ (by unfold maxLen;omega) ?_ hbase ?_
 ·intro j u hj;match j with
  | 0 =>
   simp only [List.getElem?_cons_zero,Option.some.injEq] at hj;subst hj;simpa [Addr.add] using hc
  | j+1=>simp at hj
 ·intro u hu;simp only [List.mem_singleton] at hu;subst hu;exact h1c
 ·have:(xs.length+1)*by_<=(1000000+1)*24:=Nat.mul_le_mul (by omega) hby;omega
 ·intro v' w' hown' hgr _;have h2:cL f e w' base v' (xs++[y]):=by
   unfold cL;rw [List.length_append,List.map_append];exact hown'
  obtain ⟨ao,cap,rfl⟩:=h2.shape;rw [List.length_append,List.length_singleton] at h2 ⊢;exact hK ao cap w' h2 hgr
def fQ {α:Type} (f:α->Value) (t:TypeId) (w:World) (g:Nat) (xs:List α):Prop:=w.heap[g]? = some (.cells (xs.map f).toArray t (0,0))
section
variable {α:Type} {f:α->Value} {t:TypeId} {w w':World} {g:Nat} {xs:List α}
theorem fQ.lt (h:fQ f t w g xs):g<w.heap.size:=(Array.getElem?_eq_some_iff.1 h).1
theorem fQ.cell (h:fQ f t w g xs) (i:Nat) (hi:i<xs.length):w.cell? ⟨g,i,none⟩=some (f xs[i]):=by
 unfold fQ at h;simp [World.cell?,h,hi]
theorem fQ.free (h:fQ f t w g xs) (i:Nat):w.frozen? ⟨g,i,none⟩=false:=by
 unfold fQ at h;simp [World.frozen?,h]
theorem fQ.set (h:fQ f t w g xs) (i:Nat) (x:α) (z:Value) (hz:z=f x):fQ f t (w.setCell ⟨g,i,none⟩ z) g (xs.set i x):=by
 unfold fQ at h ⊢;rw [heap_setCell_same w g i _ _ _ h,hz];simp [List.map_set]
theorem fQ.keep {row:Option Nat} (h:fQ f t w g xs) (hg:w.grownBy w' row) (hr:some g≠row):fQ f t w' g xs:=by
 have hl:=h.lt;unfold fQ at h ⊢;rw [hg.block g hl hr,h]
theorem fQ.keep0 (h:fQ f t w g xs) (hg:w.grownBy w' none):fQ f t w' g xs:=h.keep hg (by simp)
end
abbrev iv (x:Int):Value:=.int .i64 x
abbrev bv (b:Bool):Value:=.bool b
abbrev d6 (w:World) (g:Nat) (xs:List Int):Prop:=fQ iv 3 w g xs
abbrev BArr (w:World) (g:Nat) (xs:List Bool):Prop:=fQ bv 4 w g xs
theorem du {P:Program} {α:Type} (f:α->Value) (e:TypeId) (z0:α) (by_:Nat) (w:World) {ops:Array Oper} {rest:List Oper} {o:Oper} {a:Act} {Q:Exit->Act->World->Prop}
  (hg:o.guard=none) (l c:Operand) (t:TypeId) (hop:o.op=Op.makeSlice t l c)
  (h1:P.underlying t=some (.slice e)) (hinfo:(P.info? e).map (fun i=>(i.zero,i.size,i.bytes))=some (some (f z0),1,by_)) (hcell:(f z0).cells=#[f z0])
  (kl kc:IntKind) (L C:Int) (n:Nat) (hl:a.eval l=.int kl L) (hc:a.eval c=.int kc C) (hL:L=(n:Int)) (hC:C=(n:Int)) (b2:n<=1073741824) (hby:by_<=8)
  (hK:∀ w',fQ f e w' w.heap.size (List.replicate n z0)->w.grownBy w' none->wpList P ops Q rest (a.put o.dst (.slice (some ⟨w.heap.size,0,none⟩) n n)) w') :
  wpList P ops Q (o :: rest) a w:=by
 obtain ⟨i,hi,hz0,hz1,hz2⟩:=info_parts hinfo;refine wpList_make_full w hg l c t hop w.heap.size e i (f z0) 1 h1 hi hz0 hz1 kl kc L C n hl hc hL hC (by rw [hz2];have:=Nat.mul_le_mul hby b2;omega) (by unfold maxLen;omega) (Nat.le_refl _) ?_;intro w' hown hgr;refine hK w' ?_ hgr;obtain ⟨_,h⟩:=hown;rcases h with ⟨h,_⟩ | ⟨g,cap,cur,h,_,hh,_,_,hsz,ht⟩
 ·simp at h
 ·simp only [Value.slice.injEq,Option.some.injEq,Addr.mk.injEq,and_true,true_and] at h;obtain ⟨rfl,rfl⟩:=h;unfold fQ;rw [hh];have hm:madeCells (f z0).cells (n*1)=((List.replicate n z0).map f).toArray:=by
   apply Array.ext
   ·simp [madeCells]
   ·intro i h1 h2;simp [madeCells,hcell,Nat.mod_one]
  have:cur=((List.replicate n z0).map f).toArray:=by
   rw [<- hm];apply Array.ext';rw [<- ht,List.take_of_length_le (by simp [hsz])]
  rw [this]
theorem Tryz.infoInt:(Tryz.prog.info? 3).map (fun i=>(i.zero,i.size,i.bytes))=some (some (iv 0),1,8):=by kernel_rfl
theorem Tryz.infoBool:(Tryz.prog.info? 4).map (fun i=>(i.zero,i.size,i.bytes))=some (some (bv false),1,1):=by kernel_rfl
def dM (n:Nat) (l:Nat->Nat):List Int:=(List.range n).map fun x=>((l x:Nat):Int)
theorem cN (n:Nat) (l:Nat->Nat):(dM n l).length=n:=by simp [dM]
theorem lX (n:Nat) (l:Nat->Nat) (i:Nat) (h:i<(dM n l).length):(dM n l)[i]=((l i:Nat):Int):=by simp [dM]
theorem pj (n:Nat) (l:Nat->Nat) (i y:Nat) (h:i<n):(dM n l).set i ((y:Nat):Int)=dM n (fun x=>if x=i then y else l x):=by
 apply List.ext_getElem
 ·simp [dM]
 ·intro k h1 h2;rw [List.getElem_set];by_cases e:i=k
  ·subst e;simp [dM]
  ·have e2:¬ k=i:=fun h=>e h.symm
   simp [dM,e,e2]
theorem fD (n:Nat) (l m:Nat->Nat) (h:∀ x,x<n->l x=m x):dM n l=dM n m:=by
 unfold dM;apply List.map_congr_left;intro x hx;rw [h x (List.mem_range.1 hx)]
def cE (p:aI):List Value:=[.int .i64 p.kind,.int .i64 p.a,.int .i64 p.b,.int .i64 p.c,.int .i64 p.d,.string p.v]
def bh (ps:List aI):List Value:=ps.flatMap cE
theorem fJ (p:aI):(cE p).length=6:=rfl
theorem dG (ps:List aI):(bh ps).length=ps.length*6:=by
 induction ps with
 | nil=>rfl
 | cons p r ih=>simp only [bh,List.flatMap_cons,List.length_append,fJ] at ih ⊢;rw [ih,List.length_cons];omega
theorem jU (ps qs:List aI):bh (ps++qs)=bh ps++bh qs:=by simp [bh]
theorem fR (ps:List aI) (i k:Nat) (h:i<ps.length) (hk:k<6):(bh ps)[i*6+k]? = (cE ps[i])[k]?:=by
 induction ps generalizing i with
 | nil=>simp at h
 | cons p r ih =>
  show (cE p++bh r)[i*6+k]? = _
  cases i with
  | zero=>rw [List.getElem?_append_left (by rw [fJ];omega)];simp
  | succ i =>
   rw [List.getElem?_append_right (by rw [fJ];omega),fJ,show (i+1)*6+k-6=i*6+k from by omega,ih i (by simpa using h)];simp
theorem jV (ps:List aI):∀ u∈bh ps,u.oneCell'=true:=by
 intro u hu;simp only [bh,List.mem_flatMap,cE] at hu;obtain ⟨p,_,hu⟩:=hu;simp only [List.mem_cons,List.not_mem_nil,or_false] at hu;rcases hu with rfl | rfl | rfl | rfl | rfl | rfl<;>rfl
theorem j9 {w:World} {g n cap:Nat} {ps:List aI} (hb:g<w.heap.size) (hn:ps.length=n) (hc:n<=cap) (hm:cap<=maxLen) (hz:∀ i (h:i<ps.length),ps[i].v.size<=600000000)
  (h:∀ j,j<n*6->w.cell? ⟨g,j,none⟩=(bh ps)[j]?):aK w (.slice (some ⟨g,0,none⟩) n cap) ps:=by
 subst hn;refine ⟨_,cap,rfl,hc,hm,fun i hi=>⟨g,0,rfl,hb,?_⟩⟩;have e:∀ k,k<6->w.cell? ⟨g,0+i*6+k,none⟩=(cE ps[i])[k]?:=fun k hk=>by
  rw [Nat.zero_add,h (i*6+k) (by omega),fR ps i k hi hk]
 exact ⟨by have:=e 0 (by omega);exact this,by have:=e 1 (by omega);exact this,by have:=e 2 (by omega);exact this,by have:=e 3 (by omega);exact this,by have:=e 4 (by omega);exact this,by have:=e 5 (by omega);exact this,hz i hi⟩
theorem aK.cells {w:World} {ps:List aI} {a:Addr} {n cap:Nat} (h:aK w (.slice (some a) n cap) ps):∀ j u,(bh ps)[j]? = some u->w.cell? (a.add j)=some u:=by
 intro j u hu;obtain ⟨ao,c,e,h1,h2,h3⟩:=h;have hj:j<ps.length*6:=by
  rw [<- dG];exact (List.getElem?_eq_some_iff.1 hu).1
 have hi:j / 6<ps.length:=by omega
 simp only [Value.slice.injEq] at e;obtain ⟨rfl,rfl,rfl⟩:=e;obtain ⟨b,off,e,hb,c0,c1,c2,c3,c4,c5,c6⟩:=h3 (j / 6) hi;simp only [Option.some.injEq] at e;subst e;have hadd:(⟨b,off,none⟩:Addr).add j=⟨b,off+j,none⟩:=by unfold Addr.add;split<;>simp_all
 have ej:j=j / 6*6+j % 6:=by omega
 rw [ej,fR ps (j / 6) (j % 6) hi (by omega)] at hu;rw [hadd,ej,<- Nat.add_assoc];have hk:j % 6<6:=by omega
 generalize j % 6=k at hu hk;match k,hk with
 | 0,_=>simp only [cE,List.getElem?_cons_zero,Option.some.injEq] at hu;subst hu;exact c0
 | 1,_=>simp only [cE,List.getElem?_cons_succ,List.getElem?_cons_zero,Option.some.injEq] at hu;subst hu;exact c1
 | 2,_=>simp only [cE,List.getElem?_cons_succ,List.getElem?_cons_zero,Option.some.injEq] at hu;subst hu;exact c2
 | 3,_=>simp only [cE,List.getElem?_cons_succ,List.getElem?_cons_zero,Option.some.injEq] at hu;subst hu;exact c3
 | 4,_=>simp only [cE,List.getElem?_cons_succ,List.getElem?_cons_zero,Option.some.injEq] at hu;subst hu;exact c4
 | 5,_=>simp only [cE,List.getElem?_cons_succ,List.getElem?_cons_zero,Option.some.injEq] at hu;subst hu;exact c5
def mj (neg:Bool) (n:Nat):Int:=if neg then -1 else if n=0 then 0 else 1
theorem ow (v:Value) (neg:Bool) (n d L:Nat) (w:World) (h:FV w v neg n d L) :
  Calls Tryz.prog 98 #[v] w fun e w'=>e=.returned (.int .i64 (mj neg n))/\w.grownBy w' none:=by
 obtain ⟨up,down,rfl,h1,h2,h3,h4⟩:=h;obtain ⟨uo,ul,uc,rfl,u1,_,_⟩:=h1.shape;obtain ⟨do_,dl,dc,rfl⟩:∃ o l c,down=.slice o l c:=by
  rcases h2 with ⟨rfl,_⟩ | ⟨h2,_⟩
  ·exact ⟨_,_,_,rfl⟩
  ·obtain ⟨o,l,c,rfl,_⟩:=h2.shape;exact ⟨_,_,_,rfl⟩
 have U1:=ab u1;clear u1 h1 h2 h3 h4;cases neg with
 | true =>
  go_enter Tryz.func98,Tryz.ntmps98
  go_wp2;go_ret;exact ⟨rfl,ag (ae _ _) _⟩
 | false =>
  go_enter Tryz.func98,Tryz.ntmps98
  go_wp2_with fail;refine (tV _ _).mono ?_;rintro e w1 ⟨rfl,rfl⟩;go_wp2;go_ret;refine ⟨?_,ag (ae _ _) _⟩;have:vT (ul:Int)=mj false n:=by
   unfold vT mj;have:=U1.out;by_cases h:ul=0
   ·rw [if_neg (by omega),if_neg (by omega),if_neg (by simp),if_pos (this.1 h)]
   ·rw [if_neg (by omega),if_pos (by omega),if_neg (by simp),if_neg (fun e=>h (this.2 e))]
  rw [<- this];rfl
def eZ (k:Nat):Bool:=k != 8
def fC (k:Nat):Bool:=k==1 || k==2 || k==3
def jJ (k:Nat):Bool:=k==6 || k==7
def fH (w:World):Prop:=0<w.heap.size/\∀ k:Nat,1<=k->k<=8->∃ s u:ByteArray,w.cell? ⟨0,k*5,none⟩=some (.string s)/\w.cell? ⟨0,k*5+1,none⟩=some (.string u) /\
 w.cell? ⟨0,k*5+2,none⟩=some (.bool (eZ k))/\w.cell? ⟨0,k*5+3,none⟩=some (.bool (fC k))/\w.cell? ⟨0,k*5+4,none⟩=some (.bool (jJ k))
theorem fH.keep {w w':World} (h:fH w) (hg:w.grownBy w' none):fH w':=by
 refine ⟨Nat.lt_of_lt_of_le h.1 hg.size,fun k h1 h2=>?_⟩;obtain ⟨s,u,a,b,c,d,e⟩:=h.2 k h1 h2;exact ⟨s,u,hg.cell a (by simp),hg.cell b (by simp),hg.cell c (by simp),hg.cell d (by simp),hg.cell e (by simp)⟩
def fL (x nodes:Int):Bool:=decide (0<=x) && decide (x<nodes)
theorem aC (x nodes:Int) (g:Nat) (w:World) (hc:w.cell? ⟨g,0,none⟩=some (.int .i64 nodes)) :
  Calls Tryz.prog 96 #[.int .i64 x,.pointer (some ⟨g,0,none⟩)] w fun e w'=>e=.returned (.bool (fL x nodes))/\w'=w:=by
 by_cases h:0<=x
 ·go_enter Tryz.func96,Tryz.ntmps96
  go_wp2;go_ret;refine ⟨?_,rfl⟩;unfold fL;simp [h]
 ·go_enter Tryz.func96,Tryz.ntmps96
  go_wp2;go_ret;refine ⟨?_,rfl⟩;unfold fL;rw [show decide (0<=x)=false from by simpa using h];rfl
def pR (v:ByteArray):Int:=mj (im v.data.toList).1 (im v.data.toList).2.1
def ks (k:Nat) (a b c d:Int) (v:ByteArray) (nodes:Int):Int :=
 if !(fL a nodes) || !(fL b nodes) || (jJ k && !(fL c nodes && fL d nodes)) then 4
 else if fC k && decide (pR v<=0) then 5
 else if (!jJ k && (c != 0 || d != 0)) || (!eZ k && !v.data.toList.isEmpty) then 6 else 0
theorem vP (k:Nat) (a b c d:Int) (v:ByteArray) (nodes:Int) (w:World) (h1:1<=k) (h2:k<9) (hk:fH w) (hn:(!(fL a nodes) || !(fL b nodes) || (jJ k && !(fL c nodes && fL d nodes)))=true) :
  Calls Tryz.prog 76 #[.agg #[.int .i64 (k:Nat),.int .i64 a,.int .i64 b,.int .i64 c,.int .i64 d,.string v],.int .i64 nodes] w fun e w'=>e=.returned (.int .i64 4)/\w.grownBy w' none:=by
 obtain ⟨hk0,hk1⟩:=hk;obtain ⟨s,u,c0,c1,c2,c3,c4⟩:=hk1 k h1 (by omega);have gK:w.grownBy ((w.alloc (Obj.cells #[.int .i64 (k:Nat),.int .i64 a,.int .i64 b,.int .i64 c,.int .i64 d,.string v] 34)).alloc (Obj.cells #[.int .i64 nodes] 3)) none:=ag (ag (ae _ _) _) _;have k0:=gK.cell c0 (by simp);have k1:=gK.cell c1 (by simp);have k2:=gK.cell c2 (by simp);have k3:=gK.cell c3 (by simp);have k4:=gK.cell c4 (by simp);clear gK;generalize eZ k=valued at c2 k2;generalize fC k=above at c3 k3;generalize jJ k=led at c4 k4 hn;clear hk1;cases hA:fL a nodes with
 | false =>
  clear hn;go_enter Tryz.func76,Tryz.ntmps76
  go_wp2_with (go_at_call_of 96 (Value.int .i64 a);refine (aC a nodes _ _ (by go_simp)).mono ?_;rintro e w1 ⟨rfl,rfl⟩;rw [hA])
  go_ret;exact ⟨rfl,ag (ag (ag (ae _ _) _) _) _⟩
 | true =>
  cases hB:fL b nodes with
  | false =>
   clear hn;go_enter Tryz.func76,Tryz.ntmps76
   go_wp2_with (first | (go_at_call_of 96 (Value.int .i64 a);refine (aC a nodes _ _ (by go_simp)).mono ?_;rintro e w1 ⟨rfl,rfl⟩;rw [hA]) | (go_at_call_of 96 (Value.int .i64 b);refine (aC b nodes _ _ (by go_simp)).mono ?_;rintro e w1 ⟨rfl,rfl⟩;rw [hB]))
   go_ret;exact ⟨rfl,ag (ag (ag (ae _ _) _) _) _⟩
  | true =>
   rw [hA,hB] at hn;simp only [Bool.not_true,Bool.false_or,Bool.and_eq_true] at hn;obtain ⟨rfl,hn2⟩:=hn;cases hC:fL c nodes with
   | false =>
    clear hn2;go_enter Tryz.func76,Tryz.ntmps76
    go_wp2_with (first | (go_at_call_of 96 (Value.int .i64 a);refine (aC a nodes _ _ (by go_simp)).mono ?_;rintro e w1 ⟨rfl,rfl⟩;rw [hA]) | (go_at_call_of 96 (Value.int .i64 b);refine (aC b nodes _ _ (by go_simp)).mono ?_;rintro e w1 ⟨rfl,rfl⟩;rw [hB]) | (go_at_call_of 96 (Value.int .i64 c);refine (aC c nodes _ _ (by go_simp)).mono ?_;rintro e w1 ⟨rfl,rfl⟩;rw [hC]))
    go_ret;exact ⟨rfl,ag (ag (ag (ae _ _) _) _) _⟩
   | true =>
    rw [hC] at hn2;have hD:fL d nodes=false:=by simpa using hn2
    clear hn2;go_enter Tryz.func76,Tryz.ntmps76
    go_wp2_with (first | (go_at_call_of 96 (Value.int .i64 a);refine (aC a nodes _ _ (by go_simp)).mono ?_;rintro e w1 ⟨rfl,rfl⟩;rw [hA]) | (go_at_call_of 96 (Value.int .i64 b);refine (aC b nodes _ _ (by go_simp)).mono ?_;rintro e w1 ⟨rfl,rfl⟩;rw [hB]) | (go_at_call_of 96 (Value.int .i64 c);refine (aC c nodes _ _ (by go_simp)).mono ?_;rintro e w1 ⟨rfl,rfl⟩;rw [hC]) | (go_at_call_of 96 (Value.int .i64 d);refine (aC d nodes _ _ (by go_simp)).mono ?_;rintro e w1 ⟨rfl,rfl⟩;rw [hD]))
    go_ret;exact ⟨rfl,ag (ag (ag (ae _ _) _) _) _⟩
end Go.Proofs.YthblidglcppakaaGreatDoor
