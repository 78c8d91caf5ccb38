/- Contracts that the proof leans on. -/
import Derived.Test.YtcoeancbjafooaaGreatDoorXMBase
import Derived.Laws.AppendOwn
import Derived.Lib.UnsafeStr
import Derived.Lib.Walk
import Derived.Test.YtcoeancbjafooaaGreatDoorXCBc
import Derived.Test.YtcoeancbjafooaaGreatDoorXCBf
import Derived.Test.YtcoeancbjafooaaGreatDoorXCFd
import Derived.Deep.RegionHeld3
namespace Go.Proofs.YtcoeancbjafooaaGreatDoor
open Go.RowKit
set_option linter.unusedVariables false
set_option linter.unusedSimpArgs false
set_option maxHeartbeats 8000000
set_option maxRecDepth 10000
def dY (w:World) (base:Nat) (v:Value) (l:List UInt8):Prop:=w.ownsRow base 5 1 v l.length (Lib.byteCells l)
theorem Tryz.infoU8:(Tryz.prog.info? 5).map (fun i=>(i.zero,i.size,i.bytes))=some (some (.int .u8 0),1,1):=by kernel_rfl
theorem dY.nil (w:World) (base:Nat):dY w base (.slice none 0 0) []:=World.ownsRow_nil _ _ _ _
theorem dY.shape {w:World} {base:Nat} {v:Value} {l:List UInt8} (h:dY w base v l):∃ ao cap,v=.slice ao l.length cap/\l.length<=cap/\cap<=9223372036854775807:=by
 rcases h.2 with ⟨rfl,h0⟩ | ⟨g,cap,cur,rfl,hb,hh,h1,h2,h3,h4⟩
 ·exact ⟨none,0,by rw [h0],by omega,by omega⟩
 ·exact ⟨_,cap,rfl,h1,by unfold maxLen at h2;omega⟩
theorem rz {cur:Array Value} {l:List UInt8} (h:cur.toList.take (l.length*1)=Lib.byteCells l) (i:Nat) (hi:i<l.length):cur[i]? = some (.int .u8 (l[i].toNat:Nat)):=by
 have h2:(cur.toList.take (l.length*1))[i]? = (Lib.byteCells l)[i]?:=by rw [h]
 rw [List.getElem?_take,if_pos (by omega)] at h2;simpa [Lib.byteCells,hi] using h2
theorem dY.open {w:World} {base:Nat} {v:Value} {l:List UInt8} (h:dY w base v l) (h0:0<l.length):∃ g cap,v=.slice (some ⟨g,0,none⟩) l.length cap/\l.length<=cap/\cap<=9223372036854775807/\base<=g/\g<w.heap.size:=by
 rcases h.2 with ⟨rfl,h1⟩ | ⟨g,cap,cur,rfl,hb,hh,h1,h2,h3,h4⟩
 ·omega
 ·exact ⟨g,cap,rfl,h1,by unfold maxLen at h2;omega,hb,(Array.getElem?_eq_some_iff.1 hh).1⟩
theorem dY.at {w:World} {base g cap:Nat} {l:List UInt8} (h:dY w base (.slice (some ⟨g,0,none⟩) l.length cap) l) (i:Nat) (hi:i<l.length) :
  w.cell? ⟨g,i,none⟩=some (.int .u8 (l[i].toNat:Nat))/\w.frozen? ⟨g,i,none⟩=false /\
   ∀ (x:UInt8) (z:Int),z=(x.toNat:Int)->dY (w.setCell ⟨g,i,none⟩ (.int .u8 z)) base (.slice (some ⟨g,0,none⟩) l.length cap) (l.set i x):=by
 rcases h.2 with ⟨h0,_⟩ | ⟨g',cap',cur,h0,hb,hh,h1,h2,h3,h4⟩
 ·simp at h0
 ·simp only [Value.slice.injEq,Option.some.injEq,Addr.mk.injEq,and_true,true_and] at h0;obtain ⟨rfl,rfl⟩:=h0;refine ⟨?_,?_,?_⟩
  ·simp only [World.cell?,hh];exact rz h4 i hi
  ·simp [World.frozen?,hh]
  ·intro x z hz;refine ⟨by simp [Lib.byteCells],.inr ⟨g,cap,cur.setIfInBounds i (.int .u8 z),by simp,hb,?_,by simpa using h1,h2,by simpa using h3,?_⟩⟩
   ·rw [heap_setCell_same w g i _ _ _ hh]
   ·subst hz;rw [Array.toList_setIfInBounds,List.length_set,List.take_set,h4];simp [Lib.byteCells,List.map_set]
theorem dY.keep {w w':World} {base:Nat} {v:Value} {l:List UInt8} {row:Option Nat} (h:dY w base v l) (hg:w.grownBy w' row) (hne:∀ k,row=some k->ay v≠some k):dY w' base v l:=by
 refine World.ownsRow.kept h hg ?_;cases row with
 | none=>cases hv:v.ownBlock<;>simp
 | some k =>
  right
  intro e;refine hne k rfl ?_;rw [<- e];cases v<;>rfl
theorem dY.keep0 {w w':World} {base:Nat} {v:Value} {l:List UInt8} (h:dY w base v l) (hg:w.grownBy w' none):dY w' base v l:=h.keep hg (fun _ e=>by cases e)
theorem dY.alloc {w:World} {base:Nat} {v:Value} {l:List UInt8} (h:dY w base v l) (o:Obj):dY (w.alloc o) base v l:=World.ownsRow.alloc h o
theorem dY.fresh {w:World} {base:Nat} {v:Value} {l:List UInt8} (h:dY w base v l):∀ k,ay v=some k->base<=k/\k<w.heap.size:=by
 intro k hk;rcases h.2 with ⟨rfl,h0⟩ | ⟨g,cap,cur,rfl,hb,hh,h1,h2,h3,h4⟩
 ·simp [ay] at hk
 ·simp [ay] at hk;subst hk;exact ⟨hb,(Array.getElem?_eq_some_iff.1 hh).1⟩
theorem Ca {w w1 w2:World} {r:Option Nat} (h:w.grownBy w1 none) (k:w1.grownBy w2 r) (hb:∀ b,r=some b->w.heap.size<=b):w.grownBy w2 none :=
 ar h k (fun _ _ e=>e) (fun b hb' e=>by have:=hb b e.symm;omega)
theorem Az (v:Value):v.ownBlock=ay v:=by cases v<;>rfl
theorem hJ (w:World) {ops:Array Oper} {rest:List Oper} {o:Oper} {a:Act} {Q:Exit->Act->World->Prop} (hg:o.guard=none) (x y:Operand) (hop:o.op=Op.call { callee:=.builtin .append,args:=#[x,y],argTypes:=#[165,165] }) (base:Nat) (v:Value) (l:List UInt8) (hx:a.eval x=v) (g:Nat) (z:Int) (c:UInt8) (hz:z=(c.toNat:Int)) (hy:a.eval y=.slice (some ⟨g,0,none⟩) 1 1) (hcell:w.cell? ⟨g,0,none⟩=some (.int .u8 z)) (h:dY w base v l) (hl:l.length<=1000000000) (hb:base<=w.heap.size)
  (hK:∀ v' w',dY w' base v' (l++[c])->w.grownBy w' (ay v)->wpList Tryz.prog ops Q rest (a.put o.dst v') w') :
  wpList Tryz.prog ops Q (o :: rest) a w:=by
 obtain ⟨i0,hi0,hz0,hz1,hz2⟩:=info_parts Tryz.infoU8;refine wpList_append_own w hg x y 165 hop base 5 i0 (.int .u8 0) 1 1 Tryz.underlying165 hi0 hz0 hz1 hz2 rfl (by decide) v l.length (Lib.byteCells l) hx h ⟨g,0,none⟩ 1 1 [.int .u8 z] hy rfl ?_ ?_ (by unfold maxLen;omega) (by omega) hb ?_
 ·intro j u hj;match j with
  | 0 =>
   simp only [List.getElem?_cons_zero,Option.some.injEq] at hj;subst hj;simpa [Addr.add] using hcell
  | j+1=>simp at hj
 ·intro u hu;simp only [List.mem_singleton] at hu;subst hu;rfl
 ·intro v' w' hown hgr _;refine hK v' w' ?_ (by rw [<- Az];exact hgr);unfold dY;rw [List.length_append,List.length_singleton];have e:Lib.byteCells (l++[c])=Lib.byteCells l++[.int .u8 z]:=by rw [hz];simp [Lib.byteCells]
  rw [e];exact hown
theorem dY.string {w:World} {base:Nat} {v:Value} {l:List UInt8} (h:dY w base v l) (h0:0<l.length) :
  (convert 165 9 v).run Tryz.prog w=.ok (.string ⟨l.toArray⟩) w:=by
 obtain ⟨g,cap,rfl,_,_,_,_⟩:=h.open h0;refine run_convert_bytes_back (P:=Tryz.prog) w 165 9 5 ⟨g,0,none⟩ cap l Tryz.underlying165 Tryz.underlying5 Tryz.underlying9 ?_;intro j hj;rw [show (⟨g,0,none⟩:Addr).add j=⟨g,j,none⟩ from by simp [Addr.add];exact Eq.symm];exact (h.at j hj).1
def oN (l:List UInt8) (i:Nat):List UInt8:=(List.range l.length).map fun p=>if p<i∨l.length<p+1+i then l.getD (l.length-1-p) 0 else l.getD p 0
theorem cF (l:List UInt8) (i:Nat):(oN l i).length=l.length:=by simp [oN]
theorem lu (l:List UInt8) (i p:Nat) (h:p<(oN l i).length):(oN l i)[p]=if p<i∨l.length<p+1+i then l.getD (l.length-1-p) 0 else l.getD p 0:=by simp [oN]
theorem wD (l:List UInt8):oN l 0=l:=by
 apply List.ext_getElem (cF l 0);intro p h1 h2;rw [lu,if_neg (by omega)];simp [List.getD,h2]
theorem DC (l:List UInt8) (i:Nat) (h:i+i+1<l.length):((oN l i).set i (l.getD (l.length-1-i) 0)).set (l.length-1-i) (l.getD i 0)=oN l (i+1):=by
 apply List.ext_getElem (by simp [cF]);intro p h1 h2;rw [List.getElem_set,List.getElem_set,lu,lu];have hp:p<l.length:=by simpa [cF] using h2
 by_cases e1:l.length-1-i=p
 ·rw [if_pos e1,if_pos (by omega),<- e1];congr 1
  omega
 ·rw [if_neg e1];by_cases e2:i=p
  ·rw [if_pos e2,if_pos (by omega),e2]
  ·rw [if_neg e2];by_cases e3:p<i∨l.length<p+1+i
   ·rw [if_pos e3,if_pos (by omega)]
   ·rw [if_neg e3,if_neg (by omega)]
theorem zp (l:List UInt8) (i:Nat) (h:l.length<=i+i+1):oN l i=l.reverse:=by
 apply List.ext_getElem (by simp [cF]);intro p h1 h2;have hp:p<l.length:=by simpa [cF] using h1
 rw [lu,List.getElem_reverse];by_cases e:p<i∨l.length<p+1+i
 ·rw [if_pos e];simp [List.getD,show l.length-1-p<l.length by omega]
 ·rw [if_neg e];have e2:l.length-1-p=p:=by omega
  simp [List.getD,hp,e2]
def dR (z:Int):List UInt8:=if z<0 then 45 :: Lib.decDigits z.natAbs else Lib.decDigits z.natAbs
def dgB (r:Nat):UInt8:=UInt8.ofNat (48+r)
theorem byte_of (r:Nat) (h:r<10):(48+(r:Int))=((dgB r).toNat:Int):=by
 unfold dgB;rw [UInt8.toNat_ofNat'];omega
def wX (n m:Nat) (acc:List UInt8):Prop:=(m≠0->Lib.decDigits n=Lib.decDigits m++acc.reverse)/\(m=0->Lib.decDigits n=acc.reverse)
theorem wX.step {n m:Nat} {acc:List UInt8} (h:wX n m acc) (hm:m≠0):wX n (m / 10) (acc++[dgB (m % 10)]):=by
 have h1:=h.1 hm;unfold wX dgB;rw [List.reverse_append,List.reverse_singleton];refine ⟨fun h2=>?_,fun h2=>?_⟩
 ·rw [h1,pS (by omega),List.append_assoc]
 ·have h3:m<10:=by omega
  rw [h1,Lib.decDigits_one h3,Nat.mod_eq_of_lt h3]
theorem se (z:Int):0<(dR z).length:=by
 have:=Lib.nDigits_pos z.natAbs;rw [<- Lib.decDigits_length] at this;unfold dR;split
 ·simp
 ·omega
def SwpR (w:World) (g c:Nat) (l:List UInt8) (i:Nat) (wr:World):Prop:=dY wr w.heap.size (.slice (some ⟨g,0,none⟩) l.length c) (oN l i)/\w.grownBy wr none
theorem dY.swap {w:World} {base g c i j:Nat} {l:List UInt8} (h:dY w base (.slice (some ⟨g,0,none⟩) l.length c) (oN l i)) (hi:i+i+1<l.length) (hj:j=l.length-1-i) :
  ∃ x y:UInt8,w.cell? ⟨g,i,none⟩=some (.int .u8 (x.toNat:Nat))/\w.cell? ⟨g,j,none⟩=some (.int .u8 (y.toNat:Nat))/\w.frozen? ⟨g,i,none⟩=false/\w.frozen? ⟨g,j,none⟩=false /\
   dY ((w.setCell ⟨g,i,none⟩ (.int .u8 (y.toNat:Nat))).setCell ⟨g,j,none⟩ (.int .u8 (x.toNat:Nat))) base (.slice (some ⟨g,0,none⟩) l.length c) (oN l (i+1)):=by
 have hi2:i<(oN l i).length:=by rw [cF];omega
 have hj2:j<(oN l i).length:=by rw [cF];omega
 rw [<- cF l i] at h;obtain ⟨a1,a2,a3⟩:=h.at i hi2;obtain ⟨b1,b2,b3⟩:=h.at j hj2;have ex:(oN l i)[i]=l.getD i 0:=by rw [lu,if_neg (by omega)]
 have ey:(oN l i)[j]=l.getD j 0:=by rw [lu,if_neg (by omega)]
 refine ⟨(oN l i)[i],(oN l i)[j],a1,b1,a2,b2,?_⟩;have h2:=a3 (oN l i)[j] _ rfl;rw [show (oN l i).length=((oN l i).set i (oN l i)[j]).length from by simp] at h2;obtain ⟨_,_,c3⟩:=h2.at j (by simpa using hj2);have h3:=c3 (oN l i)[i] _ rfl;rw [show ((oN l i).set i (oN l i)[j]).length=l.length from by simp [cF]] at h3;have e:=DC l i hi;rw [<- hj] at e;rw [ey,ex] at h3 ⊢;rw [e] at h3;exact h3
def TxtR (w:World) (n L:Nat) (k:Nat) (bv av:Value) (wr:World):Prop :=
 ∃ (m:Nat) (acc:List UInt8),dY wr w.heap.size bv acc/\aU wr av m L/\wX n m acc/\w.grownBy wr none/\m=k
theorem wX.len {n m:Nat} {acc:List UInt8} (h:wX n m acc):acc.length<=Lib.nDigits n:=by
 rw [<- Lib.decDigits_length];by_cases hm:m=0
 ·rw [h.2 hm];simp
 ·rw [h.1 hm];simp
theorem rS {n L:Nat} (hL:0<L) (h:n<4294967296^L):Lib.nDigits n<=10*L:=by
 refine l9 (by omega) (Nat.lt_of_lt_of_le h ?_);rw [Nat.pow_mul];exact Nat.pow_le_pow_left (by decide) L
theorem CK {w:World} {v:Value} {n L:Nat} (h:aU w v n L):n<4294967296^L:=by
 obtain ⟨xs,h1,h2,h3,h4⟩:=h;have:=bG h1.sm;rw [h3] at this;exact Nat.lt_of_lt_of_le this (Nat.pow_le_pow_right (by decide) h4)
theorem xD (bx ox:Nat) (z:Int) (L:Nat) (w:World) (h:aB w bx ox z L) (hL:L<=50000000) :
  Calls Tryz.prog 143 #[.pointer (some ⟨bx,ox,none⟩),.int .i64 10] w fun e w'=>e=.returned (.string ⟨(dR z).toArray⟩)/\w.grownBy w' none:=by
 obtain ⟨neg,v,h1,h2,h3,h4⟩:=h;obtain ⟨ao,l,ca,rfl,hl,_,hc1,hc2,_,_⟩:=aL h2;have c0:=h1.c0;have c1:=h1.c1;have hnil:∀ W,(binOp .eql 93 (.pointer (some ⟨bx,ox,none⟩)) (.pointer none)).run Tryz.prog W=.ok (.bool false) W:=fun W=>by kernel_rfl
 by_cases hz:z=0
 ·have hl0:l=0:=hl.2 (by omega);subst hl0 hz;clear hl h1 h2 h3 h4;go_enter Tryz.func143,Tryz.ntmps143
  go_wp2;go_ret;refine ⟨?_,ae _ _⟩;rw [show dR 0=[48] from by simp [dR,Lib.decDigits_one]];rfl
 ·have hl0:0<l:=by
   rcases Nat.eq_zero_or_pos l with e | e
   ·have:=hl.1 e;omega
   ·exact e
  have hl1:((l:Int)==0)=false:=by simp;omega
  obtain ⟨n,hn⟩:∃ n,n=z.natAbs:=⟨_,rfl⟩;have hn0:0<n:=by omega
  rw [<- hn] at h2;have HB:=ab h1;have HN:=ab h2;have H3:=ab h3;have HNZ:=ab hn;clear hl h1 h2 h3 h4 hn;go_enter Tryz.func143,Tryz.ntmps143
  go_wp2_with fail;refine (qR _ n L _ HN.out (by omega)).mono ?_;rintro e w1 ⟨av,rfl,a1,a2,a3⟩;obtain ⟨ao1,l1,ca1,rfl,hll,_,hcc1,hcc2,_,_⟩:=aL a1;have A1:=ab a1;have A2:=ab a2;have hnd:Lib.nDigits n<=10*L:=by
   have hlt:=CK a1;refine rS ?_ hlt;rcases Nat.eq_zero_or_pos L with e | e
   ·subst e;simp at hlt;omega
   ·exact e
  clear a1 a2 a3 hll c0 c1;go_wp2;go_loopg [5,6] n (fun k bv av wr=>Hid (TxtR w n L k bv av wr))
  case atStart=>exact ⟨n,[],dY.nil _ _,A1.out,⟨fun _=>by simp,fun e=>by omega⟩,A2.out,rfl⟩
  case round =>
   obtain ⟨k,acc,r1,r2,r3,r4,rfl⟩:=hrel.out;have hacc:=r3.len;obtain ⟨bo,bc,rfl,hbc1,hbc2⟩:=r1.shape;obtain ⟨ao2,l2,ca2,rfl,hl2,_,hd1,hd2,_,_⟩:=aL r2;have R1:=ab r1;have R2:=ab r2;have R3:=ab r3;have R4:=ab r4;clear r1 r2 r3 r4 hrel;by_cases hk:k=0
   ·obtain rfl:l2=0:=hl2.2 hk;subst hk;have HD:=ab (R3.out.2 rfl);clear hl2;have cb0:=HB.out.keep0 R4.out;have c0:=cb0.c0;clear cb0;by_cases hneg:neg=true
    ·subst hneg;have hown:=R1.out.alloc (Obj.cells #[Value.int IntKind.u8 45] 5);have hcell:(wr.alloc (Obj.cells #[Value.int IntKind.u8 45] 5)).cell? ⟨wr.heap.size,0,none⟩=some (.int .u8 45):=by simp
     have HC:=ab hcell;have HO:=ab hown;have hbs:w.heap.size<=(wr.alloc (Obj.cells #[Value.int IntKind.u8 45] 5)).heap.size:=by have:=R4.out.size;simp;omega
     have HBS:=ab hbs;clear hcell hown hbs;go_wp2_with (at_builtin;refine hJ _ rfl _ _ rfl w.heap.size _ acc rfl wr.heap.size _ 45 rfl rfl HC.out HO.out (by omega) HBS.out ?_)
     intro bv' w3 o1 o2;have O1:=ab o1;have G3:=ab (Ca (aa R4.out (ag (ae _ _) _)) o2 (fun b e=>(R1.out.fresh b e).1));clear o1 o2;obtain ⟨l0,hl0⟩:∃ l0,l0=(acc++[45]):=⟨_,rfl⟩;have HSW:Hid (l0.reverse=dR z):=by
      show _=_
      rw [hl0];rw [List.reverse_append,<- HD.out,HNZ.out];have hzn:z<0:=by simpa using H3.out.symm
      simp [dR,hzn]
     have hal:0<l0.length:=by
      have h1:=congrArg List.length HSW.out;rw [List.length_reverse] at h1;have h2:=se z;omega
     have hlb:l0.length<=10*L+1:=by rw [hl0];simp;omega
     rw [<- hl0] at O1;clear hl0;obtain ⟨gb,cb,rfl,hcb1,hcb2,hgb1,hgb2⟩:=O1.out.open hal;go_wp2;go_loopw [8,9] (fun iv jv w5=>∃ i:Nat,i+i<=l0.length+1/\iv=.int .i64 (i:Int)/\jv=.int .i64 ((l0.length:Int)-1-i)/\Hid (SwpR w gb cb l0 i w5)) (fun iv _ _=>l0.length-(intOf iv).toNat)
     case atStart=>exact ⟨0,by omega,rfl,by go_num,by rw [SwpR,wD];exact ⟨O1.out,G3.out⟩⟩
     case round =>
      obtain ⟨i,hi,rfl,rfl,HI⟩:=hrel;by_cases hlt:i+i+1<l0.length
      ·obtain ⟨j,hj⟩:∃ j,j=l0.length-1-i:=⟨_,rfl⟩;have hje:((l0.length:Int)-1-i)=(j:Int):=by omega
       obtain ⟨x,y,x1,y1,x2,y2,st⟩:=HI.out.1.swap hlt hj;have ST:=ab st;have G5:=ab HI.out.2;have HJ:=ab hj;have hj1:i<j:=by omega
       have hj2:j<l0.length:=by omega
       have hj3:i<l0.length:=by omega
       rw [hje];clear st hj hje HI O1;go_wp2;go_roundw
       case rel =>
        have hj:=HJ.out;exact ⟨i+1,by omega,by go_num,by go_num,ST.out,ah (ah G5.out _ _ (by simp;omega)) _ _ (by simp;omega)⟩
       case measure=>simp [intOf];omega
      ·have hcv:=HI.out.1.string (by rw [cF];exact hal);rw [zp l0 i (by omega),HSW.out] at hcv;have G5:=ab HI.out.2;clear HI O1;go_wp2;go_ret;exact ⟨rfl,G5.out⟩
    ·obtain rfl:neg=false:=by simpa using hneg
     clear hneg;have O1:=ab R1.out;have G3:=ab R4.out;have HSW:Hid (acc.reverse=dR z):=by
      show _=_
      rw [<- HD.out,HNZ.out];have hzn:¬ z<0:=by simpa using H3.out.symm
      simp [dR,hzn]
     have hal:0<acc.length:=by
      have h1:=congrArg List.length HSW.out;rw [List.length_reverse] at h1;have h2:=se z;omega
     have hlb:acc.length<=10*L+1:=by omega
     obtain ⟨gb,cb,eb,hcb1,hcb2,hgb1,hgb2⟩:=O1.out.open hal;simp only [Value.slice.injEq,true_and] at eb;obtain ⟨rfl,rfl⟩:=eb;have hcbc:bc=bc:=rfl;go_wp2;go_loopw [8,9] (fun iv jv w5=>∃ i:Nat,i+i<=acc.length+1/\iv=.int .i64 (i:Int)/\jv=.int .i64 ((acc.length:Int)-1-i)/\Hid (SwpR w gb bc acc i w5)) (fun iv _ _=>acc.length-(intOf iv).toNat)
     case atStart=>exact ⟨0,by omega,rfl,by go_num,by rw [SwpR,wD];exact ⟨O1.out,G3.out⟩⟩
     case round =>
      obtain ⟨i,hi,rfl,rfl,HI⟩:=hrel;by_cases hlt:i+i+1<acc.length
      ·obtain ⟨j,hj⟩:∃ j,j=acc.length-1-i:=⟨_,rfl⟩;have hje:((acc.length:Int)-1-i)=(j:Int):=by omega
       obtain ⟨x,y,x1,y1,x2,y2,st⟩:=HI.out.1.swap hlt hj;have ST:=ab st;have G5:=ab HI.out.2;have HJ:=ab hj;have hj1:i<j:=by omega
       have hj2:j<acc.length:=by omega
       have hj3:i<acc.length:=by omega
       rw [hje];clear st hj hje HI O1;go_wp2;go_roundw
       case rel =>
        have hj:=HJ.out;exact ⟨i+1,by omega,by go_num,by go_num,ST.out,ah (ah G5.out _ _ (by simp;omega)) _ _ (by simp;omega)⟩
       case measure=>simp [intOf];omega
      ·have hcv:=HI.out.1.string (by rw [cF];exact hal);rw [zp acc i (by omega),HSW.out] at hcv;have G5:=ab HI.out.2;clear HI O1;go_wp2;go_ret;exact ⟨rfl,G5.out⟩
   ·have hl3:0<l2:=by
     rcases Nat.eq_zero_or_pos l2 with e | e
     ·exact absurd (hl2.1 e) hk
     ·exact e
    clear hl2;go_wp2_with fail;refine (AV _ k L 10 _ R2.out (by omega) (by omega) (by omega)).mono ?_;rintro e w2 ⟨v',r,rfl,hr,s1,s2,s3⟩;obtain ⟨ao3,l3,ca3,rfl,hl4,_,he1,he2,_,_⟩:=aL s1;have hr10:r<10:=by omega
    have HR:=ab hr;have S1:=ab s1;have S2:=ab s2;have S3:=ab s3;clear hr s1 s2 s3 hl4;have hri:(r:Int)<10:=by omega
    have hu8:(48+(r:Int))=((dgB r).toNat:Int):=byte_of r hr10;have hcell:(w2.alloc (Obj.cells #[Value.int IntKind.u8 (48+(r:Int))] 5)).cell? ⟨w2.heap.size,0,none⟩=some (.int .u8 (48+(r:Int))):=by simp
    have hown:=(R1.out.keep0 S2.out).alloc (Obj.cells #[Value.int IntKind.u8 (48+(r:Int))] 5);have hbs:w.heap.size<=(w2.alloc (Obj.cells #[Value.int IntKind.u8 (48+(r:Int))] 5)).heap.size:=by have:=R4.out.size;have:=S2.out.size;simp;omega
    have HU:=ab hu8;have HC:=ab hcell;have HO:=ab hown;have HBS:=ab hbs;clear hu8 hcell hown hbs;go_wp2_with (at_builtin;refine hJ _ rfl _ _ rfl w.heap.size _ acc rfl w2.heap.size _ (dgB r) HU.out rfl HC.out HO.out (by omega) HBS.out ?_)
    intro bv' w3 o1 o2;obtain ⟨bo3,bc3,rfl,_,_⟩:=o1.shape;have O1:=ab o1;have O2:=ab o2;clear o1 o2;go_wp2;go_roundg (k / 10)
    case measure=>omega
    case rel =>
     refine ⟨k / 10,_,O1.out,?_,?_,?_,rfl⟩
     ·refine (S1.out.keep0 (ag (ae _ _) _)).keep O2.out ?_;intro j e h2;have h3:=S3.out j h2;have h4:=(R1.out.fresh j e).2;omega
     ·rw [HR.out];exact R3.out.step hk
     ·exact Ca (aa R4.out (aa S2.out (ag (ae _ _) _))) O2.out (fun b e=>(R1.out.fresh b e).1)
theorem sb (bx ox bY oY:Nat) (x y L M:Nat) (w:World) (hX:aB w bx ox (x:Int) L) (hY:aB w bY oY (y:Int) M) :
  Calls Tryz.prog 61 #[.pointer (some ⟨bx,ox,none⟩),.pointer (some ⟨bY,oY,none⟩)] w fun e w'=>e=.returned (.int .i64 (gD x y))/\w.grownBy w' none:=by
 obtain ⟨nx,vx,x1,x2,x3,x4⟩:=hX;obtain ⟨ny,vy,y1,y2,y3,y4⟩:=hY;have ex:nx=false:=by rw [x3];exact decide_eq_false (by omega)
 have ey:ny=false:=by rw [y3];exact decide_eq_false (by omega)
 subst ex ey;rw [Int.natAbs_natCast] at x2 y2;obtain ⟨xo,xl,xc,rfl,_,_,_,_,_,_⟩:=aL x2;obtain ⟨yo,yl,yc,rfl,_,_,_,_,_,_⟩:=aL y2;have X2:=ab x2;have Y2:=ab y2;have c0:=x1.c0;have c1:=x1.c1;have d0:=y1.c0;have d1:=y1.c1;clear x1 x2 x3 x4 y1 y2 y3 y4;go_enter Tryz.func61,Tryz.ntmps61
 go_wp2;go_quiet (fail)
 go_wp2;go_region_with (go_at_call 111;refine (oT _ _ x y L M _ (X2.out.keep0 (by first | exact ae _ _ | (refine au ?_ _;first | exact ae _ _ | exact au (ae _ _) _))) (Y2.out.keep0 (by first | exact ae _ _ | (refine au ?_ _;first | exact ae _ _ | exact au (ae _ _) _)))).mono ?_;rintro e w2 ⟨rfl,qq,rfl⟩)
 all_goals
  go_wp2;go_ret;exact ⟨rfl,by repeat (first | exact ae _ _ | refine au ?_ _)⟩
theorem ord_one (n:Nat) (h:0<n):(gD n 1==0)=decide (n=1):=by
 unfold gD;by_cases e:n=1
 ·subst e;rfl
 ·rw [if_neg (by omega),if_neg e];simp [e]
theorem Cg (b:Nat) (q:Rat) (L:Nat) (w:World) (h:RQ w b q L) :
  Calls Tryz.prog 100 #[.pointer (some ⟨b,0,none⟩)] w fun e w'=>e=.returned (.bool (decide (q.den=1)))/\w.grownBy w' none:=by
 have H:=ab h;clear h;go_enter Tryz.func100,Tryz.ntmps100
 go_wp2_with fail;refine (tm b _ _ L _ H.out).mono ?_;rintro e w1 ⟨rfl,hw1⟩;rw [hw1];clear hw1;go_wp2_with fail;refine (fA 1 _ (by omega) (by omega)).mono ?_;rintro e w2 ⟨rfl,a1,a2,a3⟩;have A1:=ab a1;have A2:=ab a2;clear a1 a2 a3;go_wp2_with fail;refine (sb b 2 w.heap.size 0 q.den 1 L 2 _ (H.out.2.1.keep0 A1.out) A2.out).mono ?_;rintro e w3 ⟨rfl,b1⟩;have B1:=ab (aa A1.out b1);have ho:=ord_one q.den q.den_pos;clear b1;generalize gD q.den 1=oo at ho ⊢;have HO:=ab ho;clear ho;go_wp2;go_ret;refine ⟨?_,B1.out⟩;rw [<- HO.out];rfl
theorem BH (b:Nat) (q:Rat) (L:Nat) (w:World) (h:RQ w b q L) (hL:L<=400000000) :
  Calls Tryz.prog 103 #[.pointer (some ⟨b,0,none⟩)] w fun e w'=>∃ c,e=.returned (.pointer (some ⟨c,0,none⟩))/\aB w' c 0 (q.den:Int) L/\w.grownBy w' none:=by
 have H:=ab h;clear h;go_enter Tryz.func103,Tryz.ntmps103
 go_wp2_with fail;have g1:=ag (ae w none) (.cells #[.bool false,.slice none 0 0] 51);have H1:=ab (H.out.keep0 g1);refine (tm b _ _ L _ H1.out).mono ?_;rintro e w1 ⟨rfl,hw1⟩;rw [hw1];clear hw1;go_wp2_with fail;refine (qE w.heap.size 0 b 2 false (.slice none 0 0) (q.den:Int) L _ (fz w) H1.out.2.1 (by omega)).mono ?_;rintro e w2 ⟨rfl,k1,k2,k3⟩;have G:=ab (cB g1 k1 (Nat.le_refl _));have K2:=ab k2;clear k1 k2 k3 g1;go_wp2;go_ret;exact ⟨_,rfl,K2.out,G.out⟩
theorem gB (b o:Nat) (z:Int) (L:Nat) (w:World) (h:aB w b o z L) (hL:L<=50000000) :
  Calls Tryz.prog 102 #[.pointer (some ⟨b,o,none⟩)] w fun e w'=>e=.returned (.string ⟨(dR z).toArray⟩)/\w.grownBy w' none:=by
 have H:=ab h;clear h;go_enter Tryz.func102,Tryz.ntmps102
 go_wp2_with fail;refine (xD b o z L _ H.out hL).mono ?_;rintro e w1 ⟨rfl,g1⟩;have G:=ab g1;clear g1;go_wp2;go_ret;exact ⟨rfl,G.out⟩
theorem CJ (b:Nat) (q:Rat) (L:Nat) (w:World) (h:RQ w b q L) :
  Calls Tryz.prog 101 #[.pointer (some ⟨b,0,none⟩)] w fun e w'=>e=.returned (.pointer (some ⟨b,0,none⟩))/\w'=w:=by
 obtain ⟨n1,v1,b1,_⟩:=h.1;have c0:=b1.c0;clear b1 h;go_enter Tryz.func101,Tryz.ntmps101
 go_wp2;go_ret;exact ⟨rfl,rfl⟩
theorem Al (n:Nat):dR (n:Int)=Lib.decDigits n:=by
 unfold dR;rw [if_neg (by omega),Int.natAbs_natCast]
theorem vG (q:Rat):bg q=dR q.num++(if q.den=1 then [] else [47]++dR (q.den:Int)):=by
 rw [Al];unfold bg dR rB rN;by_cases h:q.num<0
 ·simp [h]
 ·simp [h]
theorem nk {w:World} {b o:Nat} {z:Int} {L:Nat} (h:aB w b o z L) (hL:L<=10000000):(dR z).length<=100000002:=by
 obtain ⟨_,_,_,h2,_⟩:=h;have h3:=CK h2;have h4:(Lib.decDigits z.natAbs).length<=100000001:=by
  rw [Lib.decDigits_length];rcases Nat.eq_zero_or_pos L with e | e
  ·subst e;have:z.natAbs=0:=by simpa using h3
   rw [this,Lib.nDigits_small (by decide)];omega
  ·have:=rS e h3;omega
 unfold dR;split
 ·simp;omega
 ·omega
theorem rT_at (b:Nat) (q:Rat) (L:Nat) (w:World) (h:RQ w b q L) (hL:L<=10000000) :
  Calls Tryz.prog 55 #[.pointer (some ⟨b,0,none⟩)] w fun e w'=>e=.returned (.string ⟨(bg q).toArray⟩)/\w.grownBy w' none:=by
 have H:=ab h;have hl1:=nk h.1 hL;have hl2:=nk h.2.1 hL;obtain ⟨A,hA⟩:∃ l,l=dR q.num:=⟨_,rfl⟩;obtain ⟨B,hB⟩:∃ l,l=dR (q.den:Int):=⟨_,rfl⟩;have HQ:Hid (bg q=A++(if q.den=1 then [] else [47]++B)):=by show _=_;rw [hA,hB];exact vG q
 rw [<- hA] at hl1;rw [<- hB] at hl2;have HA:=ab hA;have HB:=ab hB;clear h hA hB;go_enter Tryz.func55,Tryz.ntmps55
 go_wp2_with fail;refine (Cg b q L _ H.out).mono ?_;rintro e w1 ⟨rfl,g1⟩;have G1:=ab g1;have H1:=ab (H.out.keep0 g1);clear g1;by_cases hd:q.den=1
 ·rw [decide_eq_true hd];have HQ2:=HQ.out;rw [if_pos hd,List.append_nil] at HQ2;have HQ3:=ab HQ2;clear HQ2 HQ hd;go_wp2_with fail;refine (CJ b q L _ H1.out).mono ?_;rintro e wn ⟨rfl,hwn⟩;rw [hwn];clear hwn;go_wp2_with fail;refine (gB b 0 q.num L _ H1.out.1 (by omega)).mono ?_;rintro e w2 ⟨rfl,g2⟩;have G2:=ab (aa G1.out g2);clear g2;rw [<- HA.out];go_wp2;go_ret;rw [HQ3.out];exact ⟨rfl,G2.out⟩
 ·rw [decide_eq_false hd];have HQ2:=HQ.out;rw [if_neg hd] at HQ2;have HQ3:=ab HQ2;clear HQ2 HQ hd;go_wp2_with fail;refine (CJ b q L _ H1.out).mono ?_;rintro e wn ⟨rfl,hwn⟩;rw [hwn];clear hwn;go_wp2_with fail;refine (gB b 0 q.num L _ H1.out.1 (by omega)).mono ?_;rintro e w2 ⟨rfl,g2⟩;have G2:=ab (aa G1.out g2);have H2:=ab (H1.out.keep0 g2);clear g2;rw [<- HA.out];go_wp2_with fail;refine (BH b q L _ H2.out (by omega)).mono ?_;rintro e w3 ⟨c,rfl,c1,c2⟩;have C1:=ab c1;have G3:=ab (aa G2.out c2);clear c1 c2;go_wp2_with fail;refine (gB c 0 (q.den:Int) L _ C1.out (by omega)).mono ?_;rintro e w4 ⟨rfl,g4⟩;have G4:=ab (aa G3.out g4);clear g4;rw [<- HB.out];go_wp2;go_ret;rw [HQ3.out];refine ⟨?_,G4.out⟩;first | rfl | (simp;apply ByteArray.ext;simp [ByteArray.data_append])
end Go.Proofs.YtcoeancbjafooaaGreatDoor
