/- Contracts. -/
import Derived.Test.YtbomdfhdocaagaaGreatDoorXPa
namespace Go.Proofs.YtbomdfhdocaagaaGreatDoor
open Go.RowKit
set_option linter.all false
set_option maxHeartbeats 8000000
set_option maxRecDepth 10000
structure aA where
 kind:Int
 a:Int
 b:Int
 c:Int
 d:Int
 v:ByteArray
def aA.val (p:aA):Value:=.agg #[.int .i64 p.kind,.int .i64 p.a,.int .i64 p.b,.int .i64 p.c,.int .i64 p.d,.string p.v]
def aB (w:World) (v:Value) (ps:List aA):Prop:=∃ ao cap,v=.slice ao ps.length cap/\ps.length<=cap/\cap<=maxLen/\∀ i (h:i<ps.length),∃ b off,ao=some ⟨b,off,none⟩/\b<w.heap.size /\
 w.cell? ⟨b,off+i*6,none⟩=some (.int .i64 ps[i].kind)/\w.cell? ⟨b,off+i*6+1,none⟩=some (.int .i64 ps[i].a)/\w.cell? ⟨b,off+i*6+2,none⟩=some (.int .i64 ps[i].b)/\w.cell? ⟨b,off+i*6+3,none⟩=some (.int .i64 ps[i].c)/\w.cell? ⟨b,off+i*6+4,none⟩=some (.int .i64 ps[i].d)/\w.cell? ⟨b,off+i*6+5,none⟩=some (.string ps[i].v)/\ps[i].v.size<=600000000
def aB.keep {w a:World} {v:Value} {c:List aA} (h:aB w v c) (hg:w.grownBy a none):aB a v c:=by
 obtain ⟨d,cap,e,f,g,j⟩:=h;refine ⟨d,cap,e,f,g,fun i hi=>?_⟩;obtain ⟨b,off,e,hb,c0,c1,c2,c3,c4,c5,k⟩:=j i hi;exact ⟨b,off,e,Nat.lt_of_lt_of_le hb hg.size,hg.cell c0 Z,hg.cell c1 Z,hg.cell c2 Z,hg.cell c3 Z,hg.cell c4 Z,hg.cell c5 Z,k⟩
def bM {α:Type} (f:α->Value) (t:TypeId) (w:World) (base:Nat) (v:Value) (xs:List α):Prop:=w.ownsRow base t 1 v xs.length (xs.map f)
def iu {α:Type} (f:α->Value) (w:World) (v:Value) (xs:List α):Prop:=∃ ao cap,v=.slice ao xs.length cap/\xs.length<=cap/\cap<=maxLen/\∀ i (h:i<xs.length),∃ b off,ao=some ⟨b,off,none⟩/\b<w.heap.size/\w.cell? ⟨b,off+i,none⟩=some (f xs[i])
def iu.keep {α:Type} {f:α->Value} {w a:World} {v:Value} {xs:List α} (h:iu f w v xs) (hg:w.grownBy a none):iu f a v xs:=by
 obtain ⟨d,cap,e,g,j,k⟩:=h;refine ⟨d,cap,e,g,j,fun i hi=>?_⟩;obtain ⟨b,off,e,hb,c⟩:=k i hi;exact ⟨b,off,e,Nat.lt_of_lt_of_le hb hg.size,hg.cell c Z⟩
section
variable {α:Type} {f:α->Value} {t:TypeId} {w w':World} {base:Nat} {v:Value} {xs:List α}
def fA:bM f t w base (.slice none 0 0) []:=World.ownsRow_nil _ _ _ _
def bM.row (h:bM f t w base v xs):iu f w v xs:=by
 rcases h.2 with ⟨rfl,c⟩ | ⟨g,cap,a,rfl,hb,hh,d,e,k,j⟩
 ·have:xs=[]:=List.eq_nil_of_length_eq_zero c;subst this;exact ⟨none,0,rfl,Z,Z,fun i hi=>by simp at hi⟩
 ·refine ⟨_,cap,rfl,d,e,fun i hi=>⟨g,0,rfl,(zZ hh).1,?_⟩⟩;rw [Nat.zero_add];simp only [World.cell?,hh];have b:(a.toList.take (xs.length*1))[i]? = (xs.map f)[i]?:=by rw [j]
  rw [List.getElem?_take,if_pos O] at b;simpa [hi] using b
def bM.fresh (h:bM f t w base v xs):∀ k,v.ownBlock=some k->base<=k/\k<w.heap.size:=World.ownsRow.lt h
def bM.keep {row:Option Nat} (h:bM f t w base v xs) (hg:w.grownBy w' row) (a:v.ownBlock=none∨v.ownBlock≠row):bM f t w' base v xs:=World.ownsRow.kept h hg a
def bM.keep0 (h:bM f t w base v xs) (hg:w.grownBy w' none):bM f t w' base v xs:=h.keep hg (by cases hv:v.ownBlock<;>simp)
def bM.keepB {g:Nat} (h:bM f t w base v xs) (hg:w.grownBy w' (some g)) (hb:g<base):bM f t w' base v xs:=by
 refine h.keep hg ?_;cases hv:v.ownBlock with
 | none=>exact .inl rfl
 | some k =>
  right
  intro e;have:=(h.fresh k hv).1;cases e
  omega
def bM.shape (h:bM f t w base v xs):∃ ao cap,v=.slice ao xs.length cap:=by
 obtain ⟨ao,cap,e,_⟩:=h.row;exact ⟨ao,cap,e⟩
end
def ke {P:Program} {α:Type} (f:α->Value) (e:TypeId) (h:Value) (c:Nat) (W:World) {g:Array Oper} {rest:List Oper} {o:Oper} {a:Act} {Q:Exit->Act->World->Prop}
  (hg:o.guard=none) (s x:Operand) (t:TypeId) (ho:o.op=.call { callee:=.builtin .append,args:=#[s,x],argTypes:=#[t,t] }) (base:Nat)
  (h1:P.underlying t=some (.slice e)) (hinfo:(P.info? e).map (fun i=>(i.zero,i.size,i.bytes))=some (some h,1,c)) (hcz:h.cells.size=1)
  (v:Value) (xs:List α) (hs:a.eval s=v) (hown:bM f e W base v xs) (b:Nat) (y:α) (hx:a.eval x=.slice (some ⟨b,0,none⟩) 1 1) (hc:W.cell? ⟨b,0,none⟩=some (f y)) (h1c:(f y).oneCell'=true)
  (hlen:xs.length<=1000000) (hby:c<=24) (hbase:base<=W.heap.size)
  (hK:∀ ao cap w',bM f e w' base (.slice ao (xs.length+1) cap) (xs++[y])->W.grownBy w' v.ownBlock->wpList P g Q rest (a.put o.dst (.slice ao (xs.length+1) cap)) w'):wpList P g Q (o :: rest) a W:=by
 obtain ⟨i,hi,n,p,q⟩:=info_parts hinfo;refine wpList_append_own W hg s x t ho base e i h 1 c h1 hi n p q hcz zD v xs.length (xs.map f) hs hown ⟨b,0,none⟩ 1 1 [f y] hx rfl ?_ ?_ (by unfold maxLen;omega) ?_ hbase ?_
 ·intro j u l;match j with
  | 0 =>
   simp only [List.getElem?_cons_zero,zI] at l;subst l;simpa [Addr.add] using hc
  | j+1=>simp at l
 ·intro u r;simp only [List.mem_singleton] at r;subst r;exact h1c
 ·have:(xs.length+1)*c<=(1000000+1)*24:=Nat.mul_le_mul O hby;omega
 ·intro w w' d m _;have k:bM f e w' base w (xs++[y]):=by
   unfold bM;rw [List.length_append,List.map_append];exact d
  obtain ⟨ao,cap,rfl⟩:=k.shape;rw [List.length_append,List.length_singleton] at k ⊢;exact hK ao cap w' k m
def fk {α:Type} (f:α->Value) (t:TypeId) (w:World) (g:Nat) (xs:List α):Prop:=w.heap[g]? = some (.cells (xs.map f).toArray t (0,0))
section
variable {α:Type} {f:α->Value} {t:TypeId} {w w':World} {g:Nat} {xs:List α}
def fk.lt (h:fk f t w g xs):g<w.heap.size:=(zZ h).1
def fk.cell (h:fk f t w g xs) (i:Nat) (hi:i<xs.length):w.cell? ⟨g,i,none⟩=some (f xs[i]):=by
 unfold fk at h;simp [World.cell?,h,hi]
def fk.free (h:fk f t w g xs) (i:Nat):w.frozen? ⟨g,i,none⟩=false:=by
 unfold fk at h;simp [World.frozen?,h]
def fk.set (h:fk f t w g xs) (i:Nat) (x:α) (z:Value) (a:z=f x):fk f t (w.setCell ⟨g,i,none⟩ z) g (xs.set i x):=by
 unfold fk at h ⊢;rw [heap_setCell_same w g i _ _ _ h,a];simp [List.map_set]
def fk.keep {row:Option Nat} (h:fk f t w g xs) (hg:w.grownBy w' row) (a:some g≠row):fk f t w' g xs:=by
 have b:=h.lt;unfold fk at h ⊢;rw [hg.block g b a,h]
def fk.keep0 (h:fk f t w g xs) (hg:w.grownBy w' none):fk f t w' g xs:=h.keep hg Z
end
abbrev iv (x:Int):Value:=.int .i64 x
abbrev bv (b:Bool):Value:=.bool b
abbrev qV (w:World) (g:Nat) (xs:List Int):Prop:=fk iv 3 w g xs
abbrev CE (w:World) (g:Nat) (xs:List Bool):Prop:=fk bv 4 w g xs
def eI {P:Program} {α:Type} (f:α->Value) (e:TypeId) (b:α) (d:Nat) (w:World) {j:Array Oper} {rest:List Oper} {o:Oper} {a:Act} {Q:Exit->Act->World->Prop}
  (hg:o.guard=none) (l c:Operand) (t:TypeId) (hop:o.op=Op.makeSlice t l c)
  (h1:P.underlying t=some (.slice e)) (hinfo:(P.info? e).map (fun i=>(i.zero,i.size,i.bytes))=some (some (f b),1,d)) (hcell:(f b).cells=#[f b])
  (kl kc:IntKind) (L C:Int) (n:Nat) (hl:a.eval l=.int kl L) (hc:a.eval c=.int kc C) (hL:L=(n:Int)) (hC:C=(n:Int)) (b2:n<=1073741824) (hby:d<=8)
  (hK:∀ w',fk f e w' w.heap.size (List.replicate n b)->w.grownBy w' none->wpList P j Q rest (a.put o.dst (.slice (some ⟨w.heap.size,0,none⟩) n n)) w') :
  wpList P j Q (o :: rest) a w:=by
 obtain ⟨i,hi,p,q,r⟩:=info_parts hinfo;refine wpList_make_full w hg l c t hop w.heap.size e i (f b) 1 h1 hi p q kl kc L C n hl hc hL hC (by rw [r];have:=Nat.mul_le_mul hby b2;omega) (by unfold maxLen;omega) zL ?_;intro w' k m;refine hK w' ?_ m;obtain ⟨_,h⟩:=k;rcases h with ⟨h,_⟩ | ⟨g,cap,s,h,_,hh,_,_,u,x⟩
 ·simp at h
 ·simp only [Value.slice.injEq,zI,Addr.mk.injEq,and_true,true_and] at h;obtain ⟨rfl,rfl⟩:=h;unfold fk;rw [hh];have v:madeCells (f b).cells (n*1)=((List.replicate n b).map f).toArray:=by
   apply Array.ext
   ·simp [madeCells]
   ·intro i h1 y;simp [madeCells,hcell,Nat.mod_one]
  have:s=((List.replicate n b).map f).toArray:=by
   rw [<- v];apply Array.ext';rw [<- x,zT (by simp [u])]
  rw [this]
def Tryz.infoInt:(Tryz.prog.info? 3).map (fun i=>(i.zero,i.size,i.bytes))=some (some (iv 0),1,8):=zK
def Tryz.infoBool:(Tryz.prog.info? 4).map (fun i=>(i.zero,i.size,i.bytes))=some (some (bv false),1,1):=zK
def lL (n:Nat) (l:Nat->Nat):List Int:=(List.range n).map fun x=>((l x:Nat):Int)
def vz (n:Nat) (l:Nat->Nat):(lL n l).length=n:=by simp [lL]
def DV (n:Nat) (l:Nat->Nat) (i y:Nat) (h:i<n):(lL n l).set i ((y:Nat):Int)=lL n (fun x=>if x=i then y else l x):=by
 apply List.ext_getElem
 ·simp [lL]
 ·intro k b c;rw [List.getElem_set];by_cases e:i=k
  ·subst e;simp [lL]
  ·have a:¬ k=i:=fun h=>e h.symm
   simp [lL,e,a]
def ya (n:Nat) (l m:Nat->Nat) (h:∀ x,x<n->l x=m x):lL n l=lL n m:=by
 unfold lL;apply List.map_congr_left;intro x a;rw [h x (List.mem_range.1 a)]
end Go.Proofs.YtbomdfhdocaagaaGreatDoor
