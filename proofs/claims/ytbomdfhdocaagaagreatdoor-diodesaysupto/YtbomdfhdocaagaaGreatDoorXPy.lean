/- Contracts. -/
import Derived.Test.YtbomdfhdocaagaaGreatDoorXPn
import Derived.Test.YtbomdfhdocaagaaGreatDoorCards
import Derived.Test.YtbomdfhdocaagaaGreatDoorTie
import Derived.Deep.DeepHandedRow
import Derived.Lib.LaidU8
import Derived.Lib.SmallJoins
import Derived.Test.YtbomdfhdocaagaaGreatDoorXPt
namespace Go.Proofs.YtbomdfhdocaagaaGreatDoor
open Go.RowKit
set_option linter.all false
set_option maxHeartbeats 8000000
set_option maxRecDepth 10000
variable {W:World} {cs:List Value}
def oC {H:Type} : ∀ (ps:List aA) (ds:List (DataW H)),ps.length=ds.length->(∀ i (h:i<ps.length) (h2:i<ds.length),ps[i].v.size<=Rows.uptoBulk ds[i])->dV ps<=Rows.uptoBulkAll ds
 | [],[],_,_=>by simp [dV]
 | p :: ps,d :: ds,h,hk=>by
  have a:=oC ps ds (by simpa using h) (fun i hi h2=>hk (i+1) (by simpa using hi) (by simpa using h2));have h2:p.v.size<=Rows.uptoBulk d:=hk 0 Z Z;unfold dV at a ⊢;simp only [List.map_cons,List.sum_cons,Rows.uptoBulkAll];omega
 | [],d :: ds,h,_=>by simp at h
 | p :: ps,[],h,_=>by simp at h
open Go.ChangeShapes Go.WideShapes Go.ChangeAt Go.RowKit Go.Joins Go.Deep
def ownK:ownKnob Tryz.prog.godebug=none:=zK
def DW:laidOutB Tryz.prog=true:=zK
def gTab:Tryz.prog.globalNamed "voltaic/net.kinds" = some 1:=zK
def DL:(Tryz.prog.globals[1]?).map (·.type)=some 135:=zK
def Da:Tryz.prog.cellsOf 135=45:=zK
def A7:Tryz.prog.cellsOf 134=5:=zK
def A8:Tryz.prog.cellsOf 55=6:=zK
def C0:Tryz.prog.cellsOf 24=2:=zK
def uO:Tryz.prog.cellsOf 9=1:=zK
def C6:Tryz.prog.cellsOf 50=1:=zK
def np:Tryz.prog.cellsOf 4=1:=zK
def dY:Tryz.prog.cellsOf 3=1:=zK
def gPow:Tryz.prog.globalNamed "internal/strconv.uint64pow10" = some 5:=zK
def DJ:(Tryz.prog.globals[5]?).map (·.type)=some 257:=zK
def Db:Tryz.prog.cellsOf 161=1:=zK
def C5:Tryz.prog.cellsOf 257=20:=zK
section
variable {H:Type} {enc:TypeId×Value->H} {w:World} {base:Nat} {spare:Nat->Bool} {held:Bool}
def dF {i:Nat} {v:Value} (h:(cs.drop i).take 1=[v]):cs[i]? = some v:=by
 have:=congrArg (·[0]?) h;simpa [List.getElem?_take,List.getElem?_drop] using this
def yC {f:Nat} {x:DataW H×List MemPlace} (h:DataW.trod enc Tryz.prog w base spare held f 55 cs=some x) :
  ∃ p:aA,cs[0]? = some (.int .i64 p.kind)/\cs[1]? = some (.int .i64 p.a)/\cs[2]? = some (.int .i64 p.b)/\cs[3]? = some (.int .i64 p.c)/\cs[4]? = some (.int .i64 p.d)/\cs[5]? = some (.string p.v)/\∃ r:List (DataW H),x.1=.agg r/\.lit (.string p.v.data.toList)∈r:=by
 obtain ⟨xs,n,_,o,I,g,e⟩:=DataW.trod_struct Tryz.underlying55 h;have i:xs.length=6:=g;have f0:=e 0 _ rfl;change DataW.trod enc Tryz.prog w base spare held n 3 ((cs.drop 0).take (Tryz.prog.cellsOf 3))=_ at f0
 rw [dY,zX O] at f0;have f1:=e 1 _ rfl;change DataW.trod enc Tryz.prog w base spare held n 3 ((cs.drop 1).take (Tryz.prog.cellsOf 3))=_ at f1
 rw [dY,zX O] at f1;have j:=e 2 _ rfl;change DataW.trod enc Tryz.prog w base spare held n 3 ((cs.drop 2).take (Tryz.prog.cellsOf 3))=_ at j
 rw [dY,zX O] at j;have k:=e 3 _ rfl;change DataW.trod enc Tryz.prog w base spare held n 3 ((cs.drop 3).take (Tryz.prog.cellsOf 3))=_ at k
 rw [dY,zX O] at k;have l:=e 4 _ rfl;change DataW.trod enc Tryz.prog w base spare held n 3 ((cs.drop 4).take (Tryz.prog.cellsOf 3))=_ at l
 rw [dY,zX O] at l;have m:=e 5 _ rfl;change DataW.trod enc Tryz.prog w base spare held n 50 ((cs.drop 5).take (Tryz.prog.cellsOf 50))=_ at m
 rw [C6,zX O] at m;obtain ⟨q,t,_,_⟩:=DataW.trod_int Tryz.underlying3 f0;obtain ⟨u,y,_,_⟩:=DataW.trod_int Tryz.underlying3 f1;obtain ⟨z,A,_,_⟩:=DataW.trod_int Tryz.underlying3 j;obtain ⟨B,C,_,_⟩:=DataW.trod_int Tryz.underlying3 k;obtain ⟨D,E,_,_⟩:=DataW.trod_int Tryz.underlying3 l;obtain ⟨s,F,G,_⟩:=DataW.trod_string Tryz.underlying50 m;refine ⟨⟨q,u,z,B,D,s⟩,dF t,dF y,dF A,dF C,dF E,dF F,xs.map (·.1),by rw [o],?_⟩;have:xs[5].1∈xs.map (·.1):=List.mem_map.2 ⟨xs[5],List.getElem_mem _,rfl⟩;rw [G] at this;exact this
def xY {b:Nat} {x:DataW H×List MemPlace} {o p:DataW H} {v a l:Bool} (h:DataW.trod enc Tryz.prog w base spare held b 134 cs=some x) (hd:x.1=.agg [o,p,.lit (.bool v),.lit (.bool a),.lit (.bool l)]) :
  ∃ s u:ByteArray,cs[0]? = some (.string s)/\cs[1]? = some (.string u)/\cs[2]? = some (.bool v)/\cs[3]? = some (.bool a)/\cs[4]? = some (.bool l):=by
 obtain ⟨xs,n,_,q,E,c,d⟩:=DataW.trod_struct Tryz.underlying134 h;have e:xs.length=5:=c;have f0:=d 0 _ rfl;change DataW.trod enc Tryz.prog w base spare held n 9 ((cs.drop 0).take (Tryz.prog.cellsOf 9))=_ at f0
 rw [uO,zX O] at f0;have f1:=d 1 _ rfl;change DataW.trod enc Tryz.prog w base spare held n 9 ((cs.drop 1).take (Tryz.prog.cellsOf 9))=_ at f1
 rw [uO,zX O] at f1;have f:=d 2 _ rfl;change DataW.trod enc Tryz.prog w base spare held n 4 ((cs.drop 2).take (Tryz.prog.cellsOf 4))=_ at f
 rw [np,zX O] at f;have g:=d 3 _ rfl;change DataW.trod enc Tryz.prog w base spare held n 4 ((cs.drop 3).take (Tryz.prog.cellsOf 4))=_ at g
 rw [np,zX O] at g;have i:=d 4 _ rfl;change DataW.trod enc Tryz.prog w base spare held n 4 ((cs.drop 4).take (Tryz.prog.cellsOf 4))=_ at i
 rw [np,zX O] at i;obtain ⟨s,r,_,_⟩:=DataW.trod_string Tryz.underlying9 f0;obtain ⟨u,t,_,_⟩:=DataW.trod_string Tryz.underlying9 f1;obtain ⟨F,y,z⟩:=DataW.trod_bool Tryz.underlying4 f;obtain ⟨G,A,B⟩:=DataW.trod_bool Tryz.underlying4 g;obtain ⟨I,C,D⟩:=DataW.trod_bool Tryz.underlying4 i;have j:xs.map (·.1)=[o,p,.lit (.bool v),.lit (.bool a),.lit (.bool l)]:=by
  rw [q] at hd;simpa using hd
 have k:=congrArg (·[2]?) j;have m3:=congrArg (·[3]?) j;have m:=congrArg (·[4]?) j;simp only [List.getElem?_map,zX (show 2<xs.length by omega),zX (show 3<xs.length by omega),zX (show 4<xs.length by omega),z,B,D] at k m3 m;simp at k m3 m;subst k m3 m;exact ⟨s,u,dF r,dF t,dF y,dF A,dF C⟩
end
def xZ (h:Lib.VarReads Tryz.prog W "voltaic/net.kinds" Rows.laid_voltaic_net_kinds):fV W:=by
 obtain ⟨C,D,cs,n,p,f,g,d,hd⟩:=h;obtain rfl:=zJ (gTab.symm.trans f);obtain rfl:=zJ (DL.symm.trans g);obtain ⟨xs,m,_,y,o,q,z⟩:=DataW.trod_array Tryz.underlying135 hd;have r:xs.map (·.1)=(match (Rows.laid_voltaic_net_kinds:DataW Unit) with | .agg l=>l | _=>[]):=by
  have:=congrArg Prod.fst y;simp only [Rows.laid_voltaic_net_kinds] at this ⊢;simpa using this.symm
 have a:∀ i,W.cell? ⟨1,i,none⟩=cs[i]?:=fun i=>World.var?_cell gTab d i
 have e:cs.size=45:=by rw [Da] at o;simpa using o
 have hlt:1<W.heap.size:=World.block_lt_of_cell? W ⟨1,0,none⟩ (u:=cs[0]) (by rw [a];simp [e]);refine ⟨hlt,fun k A B=>?_⟩;have t:k<9:=O
 have c:=z k t;rw [A7,zX O] at c;have b:∃ d0 d1,(xs[k]'O).1=.agg [d0,d1,.lit (.bool (eK k)),.lit (.bool (fP k)),.lit (.bool (lK k))]:=by
  have mk:=congrArg (·[k]?) r;simp only [List.getElem?_map,zX (show k<xs.length by omega),Option.map_some] at mk;have w:k=1∨k=2∨k=3∨k=4∨k=5∨k=6∨k=7∨k=8:=O
  rcases w with rfl | rfl | rfl | rfl | rfl | rfl | rfl | rfl<;>exact ⟨_,_,zJ mk⟩
 obtain ⟨d0,d1,b⟩:=b;obtain ⟨s,u,c0,c1,c2,c3,c4⟩:=xY c b;have get:∀ j v,j<5->((cs.toList.drop (k*5)).take 5)[j]? = some v->W.cell? ⟨1,k*5+j,none⟩=some v:=by
  intro j v x h;rw [a];rw [List.getElem?_take,if_pos x,List.getElem?_drop] at h;simpa using h
 exact ⟨s,u,get 0 _ O c0,get 1 _ O c1,get 2 _ O c2,get 3 _ O c3,get 4 _ O c4⟩
def FZ (h:Lib.VarReads Tryz.prog W "internal/strconv.uint64pow10" Rows.laid_internal_strconv_uint64pow10):fG W:=by
 obtain ⟨g,t,cs,d,p,hg,c,a,hd⟩:=h;obtain rfl:=zJ (gPow.symm.trans hg);obtain rfl:=zJ (DJ.symm.trans c);have e:(Rows.laid_internal_strconv_uint64pow10:DataW Unit)=Lib.tabData .u64 Lib.pow10Tab:=zK
 rw [e] at hd;have b:=Lib.cells_of_tab Tryz.underlying257 Tryz.underlying161 Db C5 hd;unfold fG Lib.TabIs;rw [a,<- b]
def vI {α:Type} {P:Nat->α->Prop} : ∀ n:Nat,(∀ i,i<n->∃ x,P i x)->∃ xs:List α,xs.length=n/\∀ i (h:i<xs.length),P i xs[i]:=by
 intro n;induction n with
 | zero=>intro _;exact ⟨[],rfl,fun i h=>by simp at h⟩
 | succ n ih =>
  intro h;obtain ⟨xs,a,b⟩:=ih (fun i hi=>h i O);obtain ⟨x,c⟩:=h n O;refine ⟨xs++[x],by simp [a],fun i hi=>?_⟩;by_cases hlt:i<xs.length
  ·rw [List.getElem_append_left hlt];exact b i hlt
  ·have:i=n:=by simp at hi;omega
   subst this;rw [List.getElem_append_right O];simpa [a] using c
def uJ {H:Type} {d:DataW H} {l:List (DataW H)} (h:d∈l):Rows.uptoBulk d<=Rows.uptoBulkAll l:=by
 induction l with
 | nil=>cases h
 | cons x r ih =>
  simp only [Rows.uptoBulkAll];rcases List.mem_cons.1 h with rfl | h
  ·omega
  ·have:=ih h;omega
def add_add (b off i j:Nat) (h:0<i+j∨True):((⟨b,off,none⟩:Addr).add i).add j=⟨b,off+i+j,none⟩:=by
 unfold Addr.add;by_cases hi:i=0<;>by_cases a:j=0<;>simp [hi,a]
def yD {H:Type} {enc:TypeId×Value->H} {m:Nat} {c1:Value} {l:DataW H×List MemPlace} (s:DataW.trod enc Tryz.prog W 0 (fun _=>true) true m 22 [c1]=some l) (t:Rows.uptoBulk l.1<=1048576) :
  ∃ ps,aB W c1 ps/\(∀ c,c1=.slice none 0 c->c=0)/\dV ps<=Rows.uptoBulk l.1/\∀ i (h:i<ps.length),ps[i].v.size<=100000000:=by
 rcases open_slice Tryz.underlying22 s with ⟨k,_⟩ | ⟨a,len,cap,J,Q,D,R,k,hb,S,K,w,z,x⟩
 ·obtain rfl:c1=.slice none 0 0:=by simpa using k
  exact ⟨[],⟨none,0,rfl,Z,by unfold maxLen;omega,fun i h=>by simp at h⟩,fun c e=>by cases e;rfl,by simp [dV],fun i h=>by simp at h⟩
 ·obtain rfl:c1=.slice (some a) len cap:=by simpa using k
  have E:len<=J:=by rw [w];split<;>omega
  obtain ⟨b,off,f⟩:=a;have u:∀ i,i<len->∃ p:aA,W.cell? (((⟨b,off,f⟩:Addr).add (i*6)).add 0)=some (.int .i64 p.kind)/\W.cell? (((⟨b,off,f⟩:Addr).add (i*6)).add 1)=some (.int .i64 p.a)/\W.cell? (((⟨b,off,f⟩:Addr).add (i*6)).add 2)=some (.int .i64 p.b)/\W.cell? (((⟨b,off,f⟩:Addr).add (i*6)).add 3)=some (.int .i64 p.c)/\W.cell? (((⟨b,off,f⟩:Addr).add (i*6)).add 4)=some (.int .i64 p.d)/\W.cell? (((⟨b,off,f⟩:Addr).add (i*6)).add 5)=some (.string p.v)/\(p.v.size<=100000000/\p.v.size<=Rows.uptoBulk (D i)):=by
   intro i hi;obtain ⟨L,A,B⟩:=x i O;rw [A8] at A;obtain ⟨_,C,hc⟩:=World.cells?_some A;obtain ⟨p,q0,q1,q2,q3,q4,q5,r,M,o⟩:=yC B;refine ⟨p,(hc 0 O).trans q0,(hc 1 O).trans q1,(hc 2 O).trans q2,(hc 3 O).trans q3,(hc 4 O).trans q4,(hc 5 O).trans q5,?_⟩;have F:=uJ o;have n:D i=.agg r:=M;have y:Rows.uptoBulk (D i)<=Rows.uptoBulkAll ((List.range len).map D):=uJ (List.mem_map.2 ⟨i,List.mem_range.2 hi,rfl⟩);have G:Rows.uptoBulkAll ((List.range len).map D)<=Rows.uptoBulk l.1:=by
    rw [z];simp only [Rows.uptoBulk];omega
   rw [n] at y;simp only [Rows.uptoBulk] at F y;have e:p.v.size=p.v.data.toList.length:=Lib.size_eq _;refine ⟨O,?_⟩;rw [n];simp only [Rows.uptoBulk];omega
  obtain ⟨ps,q,hP⟩:=vI len u;refine ⟨ps,⟨some ⟨b,off,f⟩,cap,by rw [q],O,K,fun i hi=>?_⟩,fun c e=>by simp at e,?_,fun i hi=>(hP i hi).2.2.2.2.2.2.1⟩;rotate_left
  ·have G:Rows.uptoBulkAll ((List.range len).map D)<=Rows.uptoBulk l.1:=by
    rw [z];simp only [Rows.uptoBulk];omega
   have P:=oC ps ((List.range len).map D) (by simp [q]) (fun i hi B=>by
    have:=(hP i hi).2.2.2.2.2.2.2;simpa using this)
   omega
  obtain ⟨q0,q1,q2,q3,q4,q5,q6⟩:=hP i hi;have g:f=none:=by
   obtain ⟨N,_⟩:=hP 0 O;have:=World.cell?_spot N;simpa [Addr.add] using this
  subst g;have I:∀ j,((⟨b,off,none⟩:Addr).add (i*6)).add j=⟨b,off+i*6+j,none⟩:=fun j=>add_add b off (i*6) j (.inr trivial)
  rw [I] at q0 q1 q2 q3 q4 q5;exact ⟨b,off,rfl,World.block_lt_of_cell? W _ q0,q0,q1,q2,q3,q4,q5,O⟩
open Go.ChangeShapes Go.WideShapes Go.ChangeAt Go.RowKit Go.Joins Go.Deep
def gMark:Tryz.prog.globalNamed "voltaic/voltaicsame.Mark" = some 0:=zK
def Bo:(Tryz.prog.globals[0]?).map (·.type)=some 55:=zK
section
variable {H:Type} {enc:TypeId×Value->H} {w:World} {base:Nat} {spare:Nat->Bool} {held:Bool}
def yt {g:Nat} {x:DataW H×List MemPlace} {k a b c d:Int} {v:List UInt8} (h:DataW.trod enc Tryz.prog w base spare held g 55 cs=some x) (hd:x.1=.agg [.lit (.int .i64 k),.lit (.int .i64 a),.lit (.int .i64 b),.lit (.int .i64 c),.lit (.int .i64 d),.lit (.string v)]) :
  cs[0]? = some (.int .i64 k)/\cs[1]? = some (.int .i64 a)/\cs[2]? = some (.int .i64 b)/\cs[3]? = some (.int .i64 c)/\cs[4]? = some (.int .i64 d)/\cs[5]? = some (.string ⟨v.toArray⟩):=by
 obtain ⟨xs,n,_,A,P,i,f⟩:=DataW.trod_struct Tryz.underlying55 h;have j:xs.length=6:=i;have f0:=f 0 _ rfl;change DataW.trod enc Tryz.prog w base spare held n 3 ((cs.drop 0).take (Tryz.prog.cellsOf 3))=_ at f0
 rw [dY,zX O] at f0;obtain ⟨Q,B,C,_⟩:=DataW.trod_int Tryz.underlying3 f0;have f1:=f 1 _ rfl;change DataW.trod enc Tryz.prog w base spare held n 3 ((cs.drop 1).take (Tryz.prog.cellsOf 3))=_ at f1
 rw [dY,zX O] at f1;obtain ⟨R,D,E,_⟩:=DataW.trod_int Tryz.underlying3 f1;have l:=f 2 _ rfl;change DataW.trod enc Tryz.prog w base spare held n 3 ((cs.drop 2).take (Tryz.prog.cellsOf 3))=_ at l
 rw [dY,zX O] at l;obtain ⟨S,F,G,_⟩:=DataW.trod_int Tryz.underlying3 l;have m:=f 3 _ rfl;change DataW.trod enc Tryz.prog w base spare held n 3 ((cs.drop 3).take (Tryz.prog.cellsOf 3))=_ at m
 rw [dY,zX O] at m;obtain ⟨T,I,J,_⟩:=DataW.trod_int Tryz.underlying3 m;have o:=f 4 _ rfl;change DataW.trod enc Tryz.prog w base spare held n 3 ((cs.drop 4).take (Tryz.prog.cellsOf 3))=_ at o
 rw [dY,zX O] at o;obtain ⟨U,K,L,_⟩:=DataW.trod_int Tryz.underlying3 o;have p:=f 5 _ rfl;change DataW.trod enc Tryz.prog w base spare held n 50 ((cs.drop 5).take (Tryz.prog.cellsOf 50))=_ at p
 rw [C6,zX O] at p;obtain ⟨s,M,N,_⟩:=DataW.trod_string Tryz.underlying50 p;have e:xs.map (·.1)=[.lit (.int .i64 k),.lit (.int .i64 a),.lit (.int .i64 b),.lit (.int .i64 c),.lit (.int .i64 d),.lit (.string v)]:=by
  rw [A] at hd;simpa using hd
 have q:=congrArg (·[0]?) e;simp only [List.getElem?_map,zX (show 0<xs.length by omega),C] at q;have r:=congrArg (·[1]?) e;simp only [List.getElem?_map,zX (show 1<xs.length by omega),E] at r;have t:=congrArg (·[2]?) e;simp only [List.getElem?_map,zX (show 2<xs.length by omega),G] at t;have m3:=congrArg (·[3]?) e;simp only [List.getElem?_map,zX (show 3<xs.length by omega),J] at m3;have u:=congrArg (·[4]?) e;simp only [List.getElem?_map,zX (show 4<xs.length by omega),L] at u;have y:=congrArg (·[5]?) e;simp only [List.getElem?_map,zX (show 5<xs.length by omega),N] at y;simp at q r t m3 u y;subst q r t m3 u;have z:s=⟨v.toArray⟩:=by rw [<- y]
 subst z;exact ⟨dF B,dF D,dF F,dF I,dF K,dF M⟩
end
def mark_of (h:Lib.VarReads Tryz.prog W "voltaic/voltaicsame.Mark" Rows.laid_voltaic_voltaicsame_Mark):jB W:=by
 obtain ⟨g,j,cs,e,p,c,d,b,hd⟩:=h;obtain rfl:=zJ (gMark.symm.trans c);obtain rfl:=zJ (Bo.symm.trans d);have a:∀ i,W.cell? ⟨0,i,none⟩=cs[i]?:=fun i=>World.var?_cell gMark b i
 obtain ⟨c0,c1,c2,c3,c4,c5⟩:=yt hd rfl;have get:∀ i v,cs.toList[i]? = some v->W.cell? ⟨0,i,none⟩=some v:=by
  intro i v f;rw [a];simpa using f
 exact ⟨get 0 _ c0,get 1 _ c1,get 2 _ c2,get 3 _ c3,get 4 _ c4,get 5 _ c5⟩
def AY {H:Type} (d:DataW H):1<=Rows.uptoBulk d:=by
 unfold Rows.uptoBulk;split<;>omega
def rF {H:Type} : ∀ l:List (DataW H),l.length<=Rows.uptoBulkAll l
 | []=>Z
 | d :: r=>by
  have a:=rF r;have b:=AY d;simp only [Rows.uptoBulkAll,List.length_cons];omega
def BZ {H:Type} {enc:TypeId×Value->H} {m:Nat} {c1:Value} {d:DataW H×List MemPlace} {h:List aA} (f:DataW.trod enc Tryz.prog W 0 (fun _=>true) true m 22 [c1]=some d) (g:Rows.uptoBulk d.1<=1048576) (i:aB W c1 h):h.length<=1048576:=by
 obtain ⟨p,q,e,_⟩:=i;rcases open_slice Tryz.underlying22 f with ⟨b,_⟩ | ⟨a,len,cap,r,s,D,t,b,hb,u,v,k,l,n⟩
 ·have c:c1=.slice none 0 0:=by simpa using b
  rw [e] at c;simp only [Value.slice.injEq] at c;omega
 ·have c:c1=.slice (some a) len cap:=by simpa using b
  rw [e] at c;simp only [Value.slice.injEq] at c;have j:=rF ((List.range len).map D);have o:Rows.uptoBulkAll ((List.range len).map D)<=Rows.uptoBulk d.1:=by
   rw [l];simp only [Rows.uptoBulk];omega
  simp only [List.length_map,List.length_range] at j;omega
end Go.Proofs.YtbomdfhdocaagaaGreatDoor
