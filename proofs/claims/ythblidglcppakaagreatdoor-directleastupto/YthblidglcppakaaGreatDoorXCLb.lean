/- Contracts that the proof leans on. -/
import Derived.Test.YthblidglcppakaaGreatDoorXCDb
import Derived.Test.YthblidglcppakaaGreatDoorRows
import Derived.Test.YthblidglcppakaaGreatDoorCards
import Derived.Test.YthblidglcppakaaGreatDoorTie
import Derived.ProofKit
import Derived.OpenShut
import Derived.ShutString
import Derived.ChangeOld
import Derived.Below
import Derived.Deep.DeepHandedRow
import Derived.Lib.LaidTab
import Derived.Lib.LaidU8
import Derived.Lib.SmallJoins
import Derived.Deep.Slices
import Derived.Test.YthblidglcppakaaGreatDoorXCLo
namespace Go.Proofs.YthblidglcppakaaGreatDoor
open Go.RowKit
set_option linter.unusedVariables false
set_option linter.unusedSimpArgs false
set_option maxHeartbeats 8000000
set_option maxRecDepth 10000
theorem nQ {H:Type} : ∀ (ps:List aI) (ds:List (DataW H)),ps.length=ds.length->(∀ i (h:i<ps.length) (h2:i<ds.length),ps[i].v.size<=Rows.uptoBulk ds[i])->cS ps<=Rows.uptoBulkAll ds
 | [],[],_,_=>by simp [cS]
 | p :: ps,d :: ds,h,hk=>by
  have h1:=nQ ps ds (by simpa using h) (fun i hi h2=>hk (i+1) (by simpa using hi) (by simpa using h2));have h2:p.v.size<=Rows.uptoBulk d:=hk 0 (by simp) (by simp);unfold cS at h1 ⊢;simp only [List.map_cons,List.sum_cons,Rows.uptoBulkAll];omega
 | [],d :: ds,h,_=>by simp at h
 | p :: ps,[],h,_=>by simp at h
open Go.ChangeShapes Go.WideShapes Go.ChangeAt Go.RowKit Go.Joins Go.Deep
theorem ownK:ownKnob Tryz.prog.godebug=none:=by kernel_rfl
theorem uh:laidOutB Tryz.prog=true:=by kernel_rfl
theorem gTab:Tryz.prog.globalNamed "voltaic/net.kinds" = some 0:=by kernel_rfl
theorem BH:(Tryz.prog.globals[0]?).map (·.type)=some 147:=by kernel_rfl
theorem Bb:Tryz.prog.cellsOf 147=45:=by kernel_rfl
theorem yW:Tryz.prog.cellsOf 146=5:=by kernel_rfl
theorem yX:Tryz.prog.cellsOf 34=6:=by kernel_rfl
theorem A8:Tryz.prog.cellsOf 24=2:=by kernel_rfl
theorem tC:Tryz.prog.cellsOf 9=1:=by kernel_rfl
theorem Ba:Tryz.prog.cellsOf 32=1:=by kernel_rfl
theorem mI:Tryz.prog.cellsOf 4=1:=by kernel_rfl
theorem jT:Tryz.prog.cellsOf 3=1:=by kernel_rfl
theorem gPow:Tryz.prog.globalNamed "internal/strconv.uint64pow10" = some 4:=by kernel_rfl
theorem BG:(Tryz.prog.globals[4]?).map (·.type)=some 243:=by kernel_rfl
theorem Bc:Tryz.prog.cellsOf 110=1:=by kernel_rfl
theorem A9:Tryz.prog.cellsOf 243=20:=by kernel_rfl
section
variable {H:Type} {enc:TypeId×Value->H} {w:World} {base:Nat} {spare:Nat->Bool} {held:Bool}
theorem gU {cs:List Value} {i:Nat} {v:Value} (h:(cs.drop i).take 1=[v]):cs[i]? = some v:=by
 have:=congrArg (·[0]?) h;simpa [List.getElem?_take,List.getElem?_drop] using this
theorem xh {fuel:Nat} {cs:List Value} {x:DataW H×List MemPlace} (h:DataW.trod enc Tryz.prog w base spare held fuel 34 cs=some x) :
  ∃ p:aI,cs[0]? = some (.int .i64 p.kind)/\cs[1]? = some (.int .i64 p.a)/\cs[2]? = some (.int .i64 p.b)/\cs[3]? = some (.int .i64 p.c)/\cs[4]? = some (.int .i64 p.d)/\cs[5]? = some (.string p.v)/\∃ r:List (DataW H),x.1=.agg r/\.lit (.string p.v.data.toList)∈r:=by
 obtain ⟨xs,n,_,hx,hl,hlen,hf⟩:=DataW.trod_struct Tryz.underlying34 h;have hlen':xs.length=6:=hlen;have f0:=hf 0 _ rfl;change DataW.trod enc Tryz.prog w base spare held n 3 ((cs.drop 0).take (Tryz.prog.cellsOf 3))=_ at f0
 rw [jT,List.getElem?_eq_getElem (by omega)] at f0;have f1:=hf 1 _ rfl;change DataW.trod enc Tryz.prog w base spare held n 3 ((cs.drop 1).take (Tryz.prog.cellsOf 3))=_ at f1
 rw [jT,List.getElem?_eq_getElem (by omega)] at f1;have f2:=hf 2 _ rfl;change DataW.trod enc Tryz.prog w base spare held n 3 ((cs.drop 2).take (Tryz.prog.cellsOf 3))=_ at f2
 rw [jT,List.getElem?_eq_getElem (by omega)] at f2;have f3:=hf 3 _ rfl;change DataW.trod enc Tryz.prog w base spare held n 3 ((cs.drop 3).take (Tryz.prog.cellsOf 3))=_ at f3
 rw [jT,List.getElem?_eq_getElem (by omega)] at f3;have f4:=hf 4 _ rfl;change DataW.trod enc Tryz.prog w base spare held n 3 ((cs.drop 4).take (Tryz.prog.cellsOf 3))=_ at f4
 rw [jT,List.getElem?_eq_getElem (by omega)] at f4;have f5:=hf 5 _ rfl;change DataW.trod enc Tryz.prog w base spare held n 32 ((cs.drop 5).take (Tryz.prog.cellsOf 32))=_ at f5
 rw [Ba,List.getElem?_eq_getElem (by omega)] at f5;obtain ⟨z0,e0,_,_⟩:=DataW.trod_int Tryz.underlying3 f0;obtain ⟨z1,e1,_,_⟩:=DataW.trod_int Tryz.underlying3 f1;obtain ⟨z2,e2,_,_⟩:=DataW.trod_int Tryz.underlying3 f2;obtain ⟨z3,e3,_,_⟩:=DataW.trod_int Tryz.underlying3 f3;obtain ⟨z4,e4,_,_⟩:=DataW.trod_int Tryz.underlying3 f4;obtain ⟨s,e5,e6,_⟩:=DataW.trod_string Tryz.underlying32 f5;refine ⟨⟨z0,z1,z2,z3,z4,s⟩,gU e0,gU e1,gU e2,gU e3,gU e4,gU e5,xs.map (·.1),by rw [hx],?_⟩;have:xs[5].1∈xs.map (·.1):=List.mem_map.2 ⟨xs[5],List.getElem_mem _,rfl⟩;rw [e6] at this;exact this
theorem wO {fuel:Nat} {cs:List Value} {x:DataW H×List MemPlace} {d0 d1:DataW H} {v a l:Bool} (h:DataW.trod enc Tryz.prog w base spare held fuel 146 cs=some x) (hd:x.1=.agg [d0,d1,.lit (.bool v),.lit (.bool a),.lit (.bool l)]) :
  ∃ s u:ByteArray,cs[0]? = some (.string s)/\cs[1]? = some (.string u)/\cs[2]? = some (.bool v)/\cs[3]? = some (.bool a)/\cs[4]? = some (.bool l):=by
 obtain ⟨xs,n,_,hx,hl,hlen,hf⟩:=DataW.trod_struct Tryz.underlying146 h;have hlen':xs.length=5:=hlen;have f0:=hf 0 _ rfl;change DataW.trod enc Tryz.prog w base spare held n 9 ((cs.drop 0).take (Tryz.prog.cellsOf 9))=_ at f0
 rw [tC,List.getElem?_eq_getElem (by omega)] at f0;have f1:=hf 1 _ rfl;change DataW.trod enc Tryz.prog w base spare held n 9 ((cs.drop 1).take (Tryz.prog.cellsOf 9))=_ at f1
 rw [tC,List.getElem?_eq_getElem (by omega)] at f1;have f2:=hf 2 _ rfl;change DataW.trod enc Tryz.prog w base spare held n 4 ((cs.drop 2).take (Tryz.prog.cellsOf 4))=_ at f2
 rw [mI,List.getElem?_eq_getElem (by omega)] at f2;have f3:=hf 3 _ rfl;change DataW.trod enc Tryz.prog w base spare held n 4 ((cs.drop 3).take (Tryz.prog.cellsOf 4))=_ at f3
 rw [mI,List.getElem?_eq_getElem (by omega)] at f3;have f4:=hf 4 _ rfl;change DataW.trod enc Tryz.prog w base spare held n 4 ((cs.drop 4).take (Tryz.prog.cellsOf 4))=_ at f4
 rw [mI,List.getElem?_eq_getElem (by omega)] at f4;obtain ⟨s,e0,_,_⟩:=DataW.trod_string Tryz.underlying9 f0;obtain ⟨u,e1,_,_⟩:=DataW.trod_string Tryz.underlying9 f1;obtain ⟨b2,e2,g2⟩:=DataW.trod_bool Tryz.underlying4 f2;obtain ⟨b3,e3,g3⟩:=DataW.trod_bool Tryz.underlying4 f3;obtain ⟨b4,e4,g4⟩:=DataW.trod_bool Tryz.underlying4 f4;have hm:xs.map (·.1)=[d0,d1,.lit (.bool v),.lit (.bool a),.lit (.bool l)]:=by
  rw [hx] at hd;simpa using hd
 have m2:=congrArg (·[2]?) hm;have m3:=congrArg (·[3]?) hm;have m4:=congrArg (·[4]?) hm;simp only [List.getElem?_map,List.getElem?_eq_getElem (show 2<xs.length by omega),List.getElem?_eq_getElem (show 3<xs.length by omega),List.getElem?_eq_getElem (show 4<xs.length by omega),g2,g3,g4] at m2 m3 m4;simp at m2 m3 m4;subst m2 m3 m4;exact ⟨s,u,gU e0,gU e1,gU e2,gU e3,gU e4⟩
end
theorem wP {W:World} (h:Lib.VarReads Tryz.prog W "voltaic/net.kinds" Rows.laid_voltaic_net_kinds):fH W:=by
 obtain ⟨g',t',cs,fuel,p,hg',ht',hvar,hd⟩:=h;obtain rfl:=Option.some.inj (gTab.symm.trans hg');obtain rfl:=Option.some.inj (BH.symm.trans ht');obtain ⟨xs,m,_,hx,hl,hlen,hf⟩:=DataW.trod_array Tryz.underlying147 hd;have hm:xs.map (·.1)=(match (Rows.laid_voltaic_net_kinds:DataW Unit) with | .agg l=>l | _=>[]):=by
  have:=congrArg Prod.fst hx;simp only [Rows.laid_voltaic_net_kinds] at this ⊢;simpa using this.symm
 have hcell:∀ i,W.cell? ⟨0,i,none⟩=cs[i]?:=fun i=>World.var?_cell gTab hvar i
 have hsz:cs.size=45:=by rw [Bb] at hl;simpa using hl
 have hlt:0<W.heap.size:=World.block_lt_of_cell? W ⟨0,0,none⟩ (u:=cs[0]) (by rw [hcell];simp [hsz]);refine ⟨hlt,fun k hk1 hk2=>?_⟩;have hk:k<9:=by omega
 have hfk:=hf k hk;rw [yW,List.getElem?_eq_getElem (by omega)] at hfk;have hxk:∃ d0 d1,(xs[k]'(by omega)).1=.agg [d0,d1,.lit (.bool (eZ k)),.lit (.bool (fC k)),.lit (.bool (jJ k))]:=by
  have mk:=congrArg (·[k]?) hm;simp only [List.getElem?_map,List.getElem?_eq_getElem (show k<xs.length by omega),Option.map_some] at mk;have hK:k=1∨k=2∨k=3∨k=4∨k=5∨k=6∨k=7∨k=8:=by omega
  rcases hK with rfl | rfl | rfl | rfl | rfl | rfl | rfl | rfl<;>exact ⟨_,_,Option.some.inj mk⟩
 obtain ⟨d0,d1,hxk⟩:=hxk;obtain ⟨s,u,c0,c1,c2,c3,c4⟩:=wO hfk hxk;have get:∀ j v,j<5->((cs.toList.drop (k*5)).take 5)[j]? = some v->W.cell? ⟨0,k*5+j,none⟩=some v:=by
  intro j v hj h;rw [hcell];rw [List.getElem?_take,if_pos hj,List.getElem?_drop] at h;simpa using h
 exact ⟨s,u,get 0 _ (by omega) c0,get 1 _ (by omega) c1,get 2 _ (by omega) c2,get 3 _ (by omega) c3,get 4 _ (by omega) c4⟩
theorem Dd {W:World} (h:Lib.VarReads Tryz.prog W "internal/strconv.uint64pow10" Rows.laid_internal_strconv_uint64pow10):eY W:=by
 obtain ⟨g,t,cs,fuel,p,hg,hty,hvar,hd⟩:=h;obtain rfl:=Option.some.inj (gPow.symm.trans hg);obtain rfl:=Option.some.inj (BG.symm.trans hty);have e:(Rows.laid_internal_strconv_uint64pow10:DataW Unit)=Lib.tabData .u64 Lib.pow10Tab:=by kernel_rfl
 rw [e] at hd;have hcs:=Lib.cells_of_tab Tryz.underlying243 Tryz.underlying110 Bc A9 hd;unfold eY Lib.TabIs;rw [hvar,<- hcs]
theorem nH {α:Type} {P:Nat->α->Prop} : ∀ n:Nat,(∀ i,i<n->∃ x,P i x)->∃ xs:List α,xs.length=n/\∀ i (h:i<xs.length),P i xs[i]:=by
 intro n;induction n with
 | zero=>intro _;exact ⟨[],rfl,fun i h=>by simp at h⟩
 | succ n ih =>
  intro h;obtain ⟨xs,h1,h2⟩:=ih (fun i hi=>h i (by omega));obtain ⟨x,hx⟩:=h n (by omega);refine ⟨xs++[x],by simp [h1],fun i hi=>?_⟩;by_cases hlt:i<xs.length
  ·rw [List.getElem_append_left hlt];exact h2 i hlt
  ·have:i=n:=by simp at hi;omega
   subst this;rw [List.getElem_append_right (by omega)];simpa [h1] using hx
theorem tu {H:Type} {d:DataW H} {l:List (DataW H)} (h:d∈l):Rows.uptoBulk d<=Rows.uptoBulkAll l:=by
 induction l with
 | nil=>cases h
 | cons x r ih =>
  simp only [Rows.uptoBulkAll];rcases List.mem_cons.1 h with rfl | h
  ·omega
  ·have:=ih h;omega
theorem add_add (b off i j:Nat) (h:0<i+j∨True):((⟨b,off,none⟩:Addr).add i).add j=⟨b,off+i+j,none⟩:=by
 unfold Addr.add;by_cases hi:i=0<;>by_cases hj:j=0<;>simp [hi,hj]
theorem xi {H:Type} {enc:TypeId×Value->H} {W:World} {m:Nat} {c1:Value} {y1:DataW H×List MemPlace} (hy1:DataW.trod enc Tryz.prog W 0 (fun _=>true) true m 22 [c1]=some y1) (hbulk:Rows.uptoBulk y1.1<=1048576) :
  ∃ ps,aK W c1 ps/\(∀ c,c1=.slice none 0 c->c=0)/\cS ps<=Rows.uptoBulk y1.1/\∀ i (h:i<ps.length),ps[i].v.size<=100000000:=by
 rcases open_slice Tryz.underlying22 hy1 with ⟨hcs,_⟩ | ⟨a,len,cap,mm,nn,D,Pl,hcs,hb,hl,hm,hmm,hx,hel⟩
 ·obtain rfl:c1=.slice none 0 0:=by simpa using hcs
  exact ⟨[],⟨none,0,rfl,by simp,by unfold maxLen;omega,fun i h=>by simp at h⟩,fun c e=>by cases e;rfl,by simp [cS],fun i h=>by simp at h⟩
 ·obtain rfl:c1=.slice (some a) len cap:=by simpa using hcs
  have hlm:len<=mm:=by rw [hmm];split<;>omega
  obtain ⟨b,off,spot⟩:=a;have key:∀ i,i<len->∃ p:aI,W.cell? (((⟨b,off,spot⟩:Addr).add (i*6)).add 0)=some (.int .i64 p.kind)/\W.cell? (((⟨b,off,spot⟩:Addr).add (i*6)).add 1)=some (.int .i64 p.a)/\W.cell? (((⟨b,off,spot⟩:Addr).add (i*6)).add 2)=some (.int .i64 p.b)/\W.cell? (((⟨b,off,spot⟩:Addr).add (i*6)).add 3)=some (.int .i64 p.c)/\W.cell? (((⟨b,off,spot⟩:Addr).add (i*6)).add 4)=some (.int .i64 p.d)/\W.cell? (((⟨b,off,spot⟩:Addr).add (i*6)).add 5)=some (.string p.v)/\(p.v.size<=100000000/\p.v.size<=Rows.uptoBulk (D i)):=by
   intro i hi;obtain ⟨cs',h1,h2⟩:=hel i (by omega);rw [yX] at h1;obtain ⟨_,hlen,hc⟩:=World.cells?_some h1;obtain ⟨p,q0,q1,q2,q3,q4,q5,r,hr,hmem⟩:=xh h2;refine ⟨p,(hc 0 (by omega)).trans q0,(hc 1 (by omega)).trans q1,(hc 2 (by omega)).trans q2,(hc 3 (by omega)).trans q3,(hc 4 (by omega)).trans q4,(hc 5 (by omega)).trans q5,?_⟩;have b1:=tu hmem;have hr':D i=.agg r:=hr;have b2:Rows.uptoBulk (D i)<=Rows.uptoBulkAll ((List.range len).map D):=tu (List.mem_map.2 ⟨i,List.mem_range.2 hi,rfl⟩);have b3:Rows.uptoBulkAll ((List.range len).map D)<=Rows.uptoBulk y1.1:=by
    rw [hx];simp only [Rows.uptoBulk];omega
   rw [hr'] at b2;simp only [Rows.uptoBulk] at b1 b2;have e:p.v.size=p.v.data.toList.length:=Lib.size_eq _;refine ⟨by omega,?_⟩;rw [hr'];simp only [Rows.uptoBulk];omega
  obtain ⟨ps,hps,hP⟩:=nH len key;refine ⟨ps,⟨some ⟨b,off,spot⟩,cap,by rw [hps],by omega,hm,fun i hi=>?_⟩,fun c e=>by simp at e,?_,fun i hi=>(hP i hi).2.2.2.2.2.2.1⟩;rotate_left
  ·have b3:Rows.uptoBulkAll ((List.range len).map D)<=Rows.uptoBulk y1.1:=by
    rw [hx];simp only [Rows.uptoBulk];omega
   have b4:=nQ ps ((List.range len).map D) (by simp [hps]) (fun i hi h2=>by
    have:=(hP i hi).2.2.2.2.2.2.2;simpa using this)
   omega
  obtain ⟨q0,q1,q2,q3,q4,q5,q6⟩:=hP i hi;have hspot:spot=none:=by
   obtain ⟨z0,_⟩:=hP 0 (by omega);have:=World.cell?_spot z0;simpa [Addr.add] using this
  subst hspot;have ad:∀ j,((⟨b,off,none⟩:Addr).add (i*6)).add j=⟨b,off+i*6+j,none⟩:=fun j=>add_add b off (i*6) j (.inr trivial)
  rw [ad] at q0 q1 q2 q3 q4 q5;exact ⟨b,off,rfl,World.block_lt_of_cell? W _ q0,q0,q1,q2,q3,q4,q5,by omega⟩
open Go.ChangeShapes Go.WideShapes Go.ChangeAt Go.RowKit Go.Joins Go.Deep
theorem pS {H:Type} : ∀ (ls:List ByteArray) (ds:List (DataW H)),ls.length=ds.length->(∀ i (h:i<ls.length) (h2:i<ds.length),(ls[i]).size<=Rows.uptoBulk ds[i])->(ls.map fun s=>s.size).sum<=Rows.uptoBulkAll ds
 | [],[],_,_=>by simp
 | p :: ps,d :: ds,h,hk=>by
  have h1:=pS ps ds (by simpa using h) (fun i hi h2=>hk (i+1) (by simpa using hi) (by simpa using h2));have h2:p.size<=Rows.uptoBulk d:=hk 0 (by simp) (by simp);simp only [List.map_cons,List.sum_cons,Rows.uptoBulkAll];omega
 | [],d :: ds,h,_=>by simp at h
 | p :: ps,[],h,_=>by simp at h
theorem xE {H:Type} {enc:TypeId×Value->H} {W:World} {m:Nat} {c1:Value} {y1:DataW H×List MemPlace} (hy1:DataW.trod enc Tryz.prog W 0 (fun _=>true) true m 25 [c1]=some y1) (hbulk:Rows.uptoBulk y1.1<=1048576) :
  ∃ ls,ee sv W c1 ls/\(ls.map fun s=>s.size).sum<=1048576:=by
 rcases open_slice Tryz.underlying25 hy1 with ⟨hcs,_⟩ | ⟨a,len,cap,mm,nn,D,Pl,hcs,hb,hl,hm,hmm,hx,hel⟩
 ·obtain rfl:c1=.slice none 0 0:=by simpa using hcs
  exact ⟨[],⟨none,0,rfl,by simp,by unfold maxLen;omega,fun i h=>by simp at h⟩,by simp⟩
 ·obtain rfl:c1=.slice (some a) len cap:=by simpa using hcs
  have hlm:len<=mm:=by rw [hmm];split<;>omega
  obtain ⟨b,off,spot⟩:=a;have key:∀ i,i<len->∃ s:ByteArray,W.cell? ((⟨b,off,spot⟩:Addr).add (i*1))=some (.string s)/\s.size<=Rows.uptoBulk (D i):=by
   intro i hi;obtain ⟨cs',h1,h2⟩:=hel i (by omega);rw [Ba] at h1;obtain ⟨_,hlen,hc⟩:=World.cells?_some h1;obtain ⟨s,e5,e6,_⟩:=DataW.trod_string Tryz.underlying32 h2;have hc0:=hc 0 (by omega);have e7:cs'[0]? = some (.string s):=by
    have:=congrArg (·[0]?) e5;simpa using this
   refine ⟨s,?_,?_⟩
   ·have e8:((⟨b,off,spot⟩:Addr).add (i*1)).add 0=(⟨b,off,spot⟩:Addr).add (i*1):=by unfold Addr.add;simp
    rw [<- e8];exact hc0.trans e7
   ·have e9:D i=.lit (.string s.data.toList):=congrArg Prod.fst e6;rw [e9];have e:s.size=s.data.toList.length:=Lib.size_eq _;simp only [Rows.uptoBulk];omega
  obtain ⟨ls,hls,hP⟩:=nH len key;have hsum:(ls.map fun s=>s.size).sum<=1048576:=by
   have b3:Rows.uptoBulkAll ((List.range len).map D)<=Rows.uptoBulk y1.1:=by
    rw [hx];simp only [Rows.uptoBulk];omega
   have b4:=pS ls ((List.range len).map D) (by simp [hls]) (fun i hi h2=>by
    have:=(hP i hi).2;simpa using this)
   omega
  refine ⟨ls,⟨some ⟨b,off,spot⟩,cap,by rw [hls],by omega,hm,fun i hi=>?_⟩,hsum⟩;have hspot:spot=none:=by
   obtain ⟨z0,_⟩:=hP 0 (by omega);have:=World.cell?_spot z0;simpa [Addr.add] using this
  subst hspot;have q0:=(hP i hi).1;have ad:(⟨b,off,none⟩:Addr).add (i*1)=⟨b,off+i,none⟩:=by
   unfold Addr.add;by_cases h:i=0<;>simp [h]
  rw [ad] at q0;exact ⟨b,off,rfl,World.block_lt_of_cell? W _ q0,q0⟩
theorem uX {v:ByteArray} : ∀ vs:List ByteArray,v∈vs->v.size<=(vs.map fun s=>s.size).sum
 | [],h=>by cases h
 | x :: r,h=>by
  simp only [List.map_cons,List.sum_cons];rcases List.mem_cons.1 h with rfl | h
  ·omega
  ·have:=uX r h;omega
end Go.Proofs.YthblidglcppakaaGreatDoor
