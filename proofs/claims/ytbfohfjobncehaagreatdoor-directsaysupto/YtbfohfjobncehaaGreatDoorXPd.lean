/- Contracts. -/
import Derived.Test.YtbfohfjobncehaaGreatDoorXPc
import Derived.Test.YtbfohfjobncehaaGreatDoorXPf
namespace Go.Proofs.YtbfohfjobncehaaGreatDoor
open Go.RowKit
set_option linter.all false
set_option maxHeartbeats 8000000
set_option maxRecDepth 10000
variable {w w':World} {L n b base:Nat} {v:Value} {l:List UInt8} {R:Nat->Rat} {cs:List Nat} {cur:Array Value}
theorem jI (h:Below w.heap.size w w'):w.grownBy w' none:=⟨h.os,h.tape,h.output,h.size,fun k a _=>h.block k a⟩
theorem iH (B b:Nat) (bs:List Value) (s:ByteArray) (w:World) (h:Lib.IsBuilder 166 5 B b bs w) (a:bs.length+s.size<=140737488355328) (c:B<=w.heap.size) :
  Calls Tryz.prog 120 #[.pointer (some ⟨b,0,none⟩),.string s] w fun e w'=>e=.returned (.tuple #[.int .i64 s.size,.nilIface])/\(Lib.BuilderAt 166 5 B b (.pointer (some ⟨b,0,none⟩)) (bs++Lib.strCells s) w'/\Below B w w') :=
 Any.Builder_WriteString Tryz.wsLays Tryz.wsExtra B b bs s w h a c
theorem my (w:World) {f:Array Oper} {rest:List Oper} {o:Oper} {a:Act} {Q:Exit->Act->World->Prop} (hg:o.guard=none) (x y:Operand) (hop:o.op=Op.call { callee:=.builtin .append,args:=#[x,y],argTypes:=#[82,82] }) (base:Nat) (v:Value) (l:List Nat) (A:a.eval x=v) (g:Nat) (z:Int) (c:Nat) (B:z=(c:Int)) (hy:a.eval y=.slice (some ⟨g,0,none⟩) 1 1) (d:w.cell? ⟨g,0,none⟩=some (.int .u32 z)) (h:gR w base v l) (D:l.length<=10000000000000) (hb:base<=w.heap.size)
  (hK:∀ v' w',gR w' base v' (l++[c])->w.grownBy w' (au v)->wpList Tryz.prog f Q rest (a.put o.dst v') w') :
  wpList Tryz.prog f Q (o :: rest) a w:=by
 obtain ⟨C,p,q,r,s⟩:=info_parts Tryz.info32;refine wpList_append_own w hg x y 82 hop base 115 C (.int .u32 0) 1 4 Tryz.underlying82 p q r s rfl zD v l.length (ak l).toList A h ⟨g,0,none⟩ 1 1 [.int .u32 z] hy rfl ?_ ?_ (by unfold maxLen;omega) O hb ?_
 ·intro j u k;match j with
  | 0 =>
   simp only [List.getElem?_cons_zero,zI] at k;subst k;simpa [Addr.add] using d
  | j+1=>simp at k
 ·intro u t;simp only [List.mem_singleton] at t;subst t;rfl
 ·intro v' w' i m _;refine hK v' w' ?_ (by rw [<- oB];exact m);unfold gR;rw [List.length_append,List.length_singleton];have e:(ak (l++[c])).toList=(ak l).toList++[.int .u32 z]:=by rw [B];simp [ak]
  rw [e];exact i
theorem lD (h:aT w v n L):n<4294967296^L:=by
 obtain ⟨xs,a,e,c,d⟩:=h;have:=bD a.sm;rw [c] at this;exact Nat.lt_of_lt_of_le this (Nat.pow_le_pow_right zD d)
def Cq (cs:List Nat):Prop:=∃ F c,cs=F++[c]/\c≠0
theorem Cq.pos (h:Cq cs) (i:Nat) (hi:i<cs.length):0<dY 1000000000 (cs.drop i):=by
 obtain ⟨F,c,rfl,hc⟩:=h;have a:i<=F.length:=by simp at hi;omega
 rw [List.drop_append_of_le_length a,kG];have:0<1000000000^(F.drop i).length*c:=Nat.mul_pos (Nat.pow_pos zD) O;omega
def ChkR (w:World) (B n L:Nat) (k:Nat) (cv lv:Value) (wr:World):Prop :=
 ∃ (m:Nat) (cs:List Nat),gR wr B cv cs/\B<=wr.heap.size/\ik wr w.heap.size lv m L/\(∀ k,au lv=some k->k<B)/\(∀ c∈cs,c<1000000000)/\n=dY 1000000000 cs+1000000000^cs.length*m/\(m≠0∨Cq cs)/\w.grownBy wr none/\m=k
theorem rJ {m:Nat} (h:n=dY 1000000000 cs+1000000000^cs.length*m) (d:m≠0) (hn:n<4294967296^L):cs.length<32*L:=by
 have e:1000000000^cs.length<=n:=by
  have:1000000000^cs.length*1<=1000000000^cs.length*m:=Nat.mul_le_mul_left _ O;omega
 have f:2^cs.length<=1000000000^cs.length:=Nat.pow_le_pow_left zD _;have c:4294967296^L=2^(32*L):=by rw [Nat.pow_mul]
 rw [c] at hn;exact (Nat.pow_lt_pow_iff_right (a:=2) zD).1 O
theorem xJ {m:Nat} (h:n=dY 1000000000 cs+1000000000^cs.length*m):n=dY 1000000000 (cs++[m % 1000000000])+1000000000^(cs++[m % 1000000000]).length*(m / 1000000000):=by
 rw [kG,List.length_append,List.length_singleton,Nat.pow_succ,h,Nat.mul_assoc,Nat.add_assoc,<- Nat.mul_add];congr 2
 omega
def oS (cs:List Nat) (k:Nat):List UInt8:=if k=cs.length then [] else me cs k
theorem mJ {T e:TypeId} {B:Nat} {bs:List Value} (h:Lib.IsBuilder T e B b bs w) (hg:w.grownBy w' none):Lib.IsBuilder T e B b bs w':=by
 have a:∀ p,Lib.BuilderAt T e B b p bs w->Lib.BuilderAt T e B b p bs w':=by
  intro p d;have hlt:=d.lt;obtain ⟨f,v,hb,g,c⟩:=d;exact ⟨f,v,by rw [hg.block b hlt Z];exact hb,World.ownsRow.kept g hg (by cases hv:v.ownBlock<;>simp),c⟩
 rcases h with h | h
 ·exact .inl (a _ h)
 ·exact .inr (a _ h)
theorem sK (l:List UInt8):Lib.strCells ⟨l.toArray⟩=Lib.byteCells l:=by
 unfold Lib.strCells Lib.byteCells;simp
theorem Ej (c:Nat):Lib.repeatL [48] c=List.replicate c 48:=by
 induction c with
 | zero=>rfl
 | succ c ih=>rw [Lib.repeatL,ih,List.replicate_succ];rfl
def WrtR (W:World) (cs:List Nat) (iv:Value) (wr:World):Prop :=
 ∃ k:Nat,k<=cs.length/\iv=.int .i64 ((k:Int)-1)/\Lib.IsBuilder 166 5 W.heap.size W.heap.size (Lib.byteCells (oS cs k)) wr/\Below W.heap.size W wr/\W.heap.size<=wr.heap.size
theorem txt_len (cs:List Nat) (k:Nat) (hc:∀ c∈cs,c<1000000000) (e:k<=cs.length) (h:Cq cs):(oS cs k).length<=9*(cs.length-k):=by
 have f:∀ d k,d=cs.length-k->k<=cs.length->(oS cs k).length<=9*d:=by
  intro d;induction d with
  | zero =>
   intro k i h2;have:k=cs.length:=O
   rw [oS,if_pos this];simp
  | succ d ih =>
   intro k i h2;have e:k<cs.length:=O
   have a:=hc cs[k] (List.getElem_mem e);have j:(Lib.decDigits cs[k]).length<=9:=p7 zD a;rw [oS,if_neg O];by_cases g:k+1=cs.length
   ·rw [n8 cs k g];omega
   ·have h2:=ih (k+1) O O;rw [oS,if_neg g] at h2;rw [n9 cs k O a (h.pos (k+1) O)];simp;omega
 exact f _ k rfl e
theorem ud (v:Value) (n L:Nat) (w:World) (h:aT w v n L) (hL:L<=100000000000) (ht:fh w) :
  Calls Tryz.prog 74 #[v] w fun e w'=>e=.returned (.string ⟨(Lib.decDigits n).toArray⟩)/\w.grownBy w' none:=by
 obtain ⟨vo,vl,vc,rfl,u,hH,hp⟩:=h.shape;have HT:=aa ht;have HN:=aa h;have T:=aa (lD h);unfold maxLen at hp;clear ht h;by_cases h0:n=0
 ·obtain rfl:vl=0:=u.2 h0;subst h0;clear u;go_enter Tryz.func74,Tryz.ntmps74
  go_wp2;go_ret;refine ⟨?_,ag _ _⟩;rw [Lib.decDigits_one (by decide)];rfl
 ·have hC:0<vl:=by
   rcases zP vl with e | e
   ·exact absurd (u.1 e) h0
   ·exact e
  have hE:((vl:Int)==0)=false:=by simp;omega
  clear u;obtain ⟨xs,x1,x2,x3,x4⟩:=HN.out;have X1:=aa x1;have X2:=aa x2;have X3:=aa x3;clear x1 x2 x3;go_enter Tryz.func74,Tryz.ntmps74
  go_wp2_with fail;refine (jG _ xs _ X1 (by omega)).mono ?_;rintro e w1 ⟨lv,rfl,l1,l2⟩;obtain ⟨lo,lc,rfl,hI,hq,_⟩:=l1.open;unfold maxLen at hq;have L1:Hid (ik w1 w.heap.size (.slice lo xs.length lc) n L):=⟨xs,l1,X1.sm,X2,X3,x4⟩;have LB:=aa (fun k hk=>(l1.fresh k hk).2);have L2:=aa l2;clear l1 l2;go_wp2;go_loopg [3,4] n (fun k cv lv wr=>Hid (ChkR w w1.heap.size n L k cv lv wr))
  case atStart=>exact ⟨n,[],o9 _ _,zL,L1,LB,by simp,by simp [dY],.inl h0,L2,rfl⟩
  case round =>
   obtain ⟨m,cs,r1,r2,r3,r4,r5,r6,r7,r8,rfl⟩:=hrel.out;obtain ⟨co,cc,rfl,hK,hs,_⟩:=r1.open;unfold maxLen at hs;obtain ⟨kc,H,ke,rfl,x,hM,hu⟩:=r3.num.shape;unfold maxLen at hu;have K:=aa r1;have R3:=aa r3;have R4:=aa r4;have R5:=aa r5;have R6:=aa r6;have R7:=aa r7;have R8:=aa r8;clear r1 r3 r4 r5 r6 r7 r8 hrel;by_cases hm:m=0
   ·obtain rfl:H=0:=x.2 hm;subst hm;clear x;have t:Cq cs:=by
     rcases R7.out with h | h
     ·exact absurd rfl h
     ·exact h
    have y:=aa t;have hQ:0<cs.length:=by obtain ⟨F,c,e,_⟩:=t;rw [e];simp
    have U:Hid (dY 1000000000 cs=n):=by have:=R6.out;show _=_;omega
    have hF:cs.length<=32*L+1:=by
     obtain ⟨F,c,e,hc⟩:=t;have V:=U.out;rw [e,kG] at V;have:=rJ (cs:=F) (m:=c) V.symm hc T;rw [e];simp;omega
    clear t;obtain ⟨W,rfl⟩:∃ W,W=wr:=⟨wr,rfl⟩;obtain ⟨g,rfl,kf,hA⟩:∃ g,co=some ⟨g,0,none⟩/\w1.heap.size<=g/\g<W.heap.size:=by
     obtain ⟨ao,cap,e,_,_,hh⟩:=K.out.open;simp only [Value.slice.injEq,true_and] at e;obtain ⟨rfl,rfl⟩:=e;rcases hh with h | h
     ·subst h;rcases K.out.2 with ⟨_,e2⟩ | ⟨g,hN,cur,e2,_⟩
      ·omega
      ·simp at e2
     ·exact h
    have TW:Hid (fh W):=HT.out.keep0 R8;go_wp2;go_loopw [7] (fun iv w5=>Hid (WrtR W cs iv w5)) (fun iv _=>(intOf iv+1).toNat)
    case atStart =>
     refine ⟨cs.length,zL,by go_num,.inl ⟨zL,.slice none 0 0,heap_alloc_new W _,?_,by simp [Value.ownBlock]⟩,vf (ae (ag _ _) _),by simp⟩;rw [oS,if_pos rfl];exact World.ownsRow_nil _ _ _ _
    case round =>
     obtain ⟨k,hk,rfl,b1,b2,b3⟩:=hrel.out;have B1:=aa b1;have o:=aa b2;clear b1 b2 hrel;by_cases X:k=0
     ·subst X;have B:=B1.out;rw [oS,if_neg (by omega),me,List.drop_zero,U] at B;have hv:=aa B;clear B;go_wp2_with fail;refine (Tryz.Builder_String W.heap.size W.heap.size (Lib.decDigits n) _ hv (fun e=>by
       have V:=Lib.decDigits_length n;have h2:=Lib.nDigits_pos n;rw [e] at V;simp at V;omega)).mono ?_
      rintro e w6 ⟨rfl,P⟩;have G6:=aa (ab R8 (jI ⟨P.os.trans o.os,P.tape.trans o.tape,P.output.trans o.out.output,Nat.le_trans o.size P.size,fun k hk=>(P.block k hk).trans (o.block k hk)⟩));clear P;go_wp2;go_ret;exact ⟨rfl,G6⟩
     ·obtain ⟨j,rfl⟩:∃ j,k=j+1:=⟨k-1,by omega⟩;have ej:(((j+1:Nat):Int)-1)=(j:Int):=by omega
      rw [ej];clear ej X;have Y:j<cs.length:=by omega
      have C:=R5.out cs[j] (List.getElem_mem Y);have f:=(K.at j Y).1;have d:wr.cell? ⟨g,j,none⟩=some (.int .u32 (cs[j]:Nat)):=(World.cell?_of_block (a:=⟨g,j,none⟩) (o.block g hA)).trans f;obtain ⟨c,I⟩:=eX (cs[j]);rw [<- I] at d C;have E:=aa I;have T5:Hid (fh wr):=TW.out.keep0 (jI o);have h9:(Lib.decDigits c).length<=9:=p7 (by decide) C;have he:=Lib.nDigits_pos c;rw [<- Lib.decDigits_length] at he;have hR:=txt_len cs (j+1) R5 hk y;clear f I;go_wp2_with fail;refine (rp c _ (by omega) T5).mono ?_;rintro e w6 ⟨rfl,J⟩;obtain ⟨D,hD⟩:∃ D:ByteArray,D=⟨(Lib.decDigits c).toArray⟩:=⟨_,rfl⟩;rw [<- hD];have hf:D.size=(Lib.decDigits c).length:=by rw [hD];rfl
      have hS:D.size<=9:=by omega
      have i:Hid (Lib.strCells D=Lib.byteCells (Lib.decDigits c)):=by rw [hD];exact sK _
      have B6:=aa (mJ B1 J);have p:Hid (Below W.heap.size W w6):=⟨J.os.trans o.os,J.tape.trans o.tape,J.output.trans o.out.output,Nat.le_trans o.size J.size,fun k hk=>(J.block k (by omega) (by simp)).trans (o.block k hk)⟩;have hj:W.heap.size<=w6.heap.size:=p.out.size;have hw:=aa hf;clear J hD hf d T5 B1 o;by_cases q:j+1=cs.length
      ·go_wp2_with fail;refine (iH W.heap.size W.heap.size _ D _ B6 (by rw [Lib.byteCells_length];omega) hj).mono ?_;rintro e w7 ⟨rfl,c7,s⟩;have C7:=aa c7;have D7:=aa s;have G:W.heap.size<=w7.heap.size:=Nat.le_trans hj s.size;clear c7 s;go_wp2;go_roundw
       case rel =>
        refine ⟨j,by omega,by go_num,.inr ?_,⟨D7.os.trans p.os,D7.tape.trans p.tape,D7.out.output.trans p.out.output,Nat.le_trans p.size D7.size,fun k hk=>(D7.block k hk).trans (p.block k hk)⟩,G⟩;have h7:=C7.out;rw [i,oS,if_pos q] at h7;rw [oS,if_neg (by omega),n8 cs j q,<- E];exact h7
       case measure=>simp [intOf]
      ·have hT:(j:Int)<(cs.length:Int)-1:=by omega
       have hx:(9-(D.size:Int))=((9-D.size:Nat):Int):=by omega
       go_wp2_with fail;refine (Tryz.strings_Repeat ⟨#[48]⟩ (9-D.size) _ (by omega) (by have:(⟨#[48]⟩:ByteArray).size=1:=rfl;rw [this];omega)).mono ?_;rintro e w7 ⟨rfl,s⟩;rw [show (⟨#[48]⟩:ByteArray).data.toList=[48] from rfl,Ej];obtain ⟨Z,hZ⟩:∃ Z:ByteArray,Z=⟨(List.replicate (9-D.size) 48).toArray⟩:=⟨_,rfl⟩;rw [<- hZ];have hW:Z.size<=9:=by rw [hZ];show (List.replicate (9-D.size) 48).toArray.size<=9;simp
       have hy:Hid (Lib.strCells Z=Lib.byteCells (List.replicate (9-D.size) 48)):=by rw [hZ];exact sK _
       have B7:=aa (mJ B6 (jI s));have M:Hid (Below W.heap.size W w7):=⟨s.os.trans p.os,s.tape.trans p.tape,s.output.trans p.out.output,Nat.le_trans p.size s.size,fun k hk=>(s.block k (by omega)).trans (p.block k hk)⟩;have G:W.heap.size<=w7.heap.size:=M.out.size;clear s hZ p B6 hx;go_wp2_with fail;refine (iH W.heap.size W.heap.size _ Z _ B7 (by rw [Lib.byteCells_length];omega) G).mono ?_;rintro e w8 ⟨rfl,c8,Q⟩;have C8:=aa c8;have N:Hid (Below W.heap.size W w8):=⟨Q.os.trans M.os,Q.tape.trans M.tape,Q.output.trans M.out.output,Nat.le_trans M.size Q.size,fun k hk=>(Q.block k hk).trans (M.block k hk)⟩;have hz:W.heap.size<=w8.heap.size:=N.out.size;clear c8 Q;go_wp2_with fail;refine (iH W.heap.size W.heap.size _ D _ (.inr C8) (by rw [List.length_append,Lib.byteCells_length,Lib.strCells_length];omega) hz).mono ?_;rintro e w9 ⟨rfl,c9,S⟩;have C9:=aa c9;have W9:Hid (Below W.heap.size W w9):=⟨S.os.trans N.os,S.tape.trans N.tape,S.output.trans N.out.output,Nat.le_trans N.size S.size,fun k hk=>(S.block k hk).trans (N.block k hk)⟩;clear c9 S;go_wp2;go_roundw
       case rel =>
        refine ⟨j,by omega,by go_num,.inr ?_,W9,W9.size⟩;have h9:=C9.out;rw [i,hy,oS,if_neg q] at h9;rw [oS,if_neg (by omega),n9 cs j (by omega) (by rw [<- E];exact C) (y.pos (j+1) (by omega)),<- E,<- hw];rw [show ∀ a b c:List UInt8,Lib.byteCells (a++(b++c))=(Lib.byteCells a++Lib.byteCells b)++Lib.byteCells c from fun a b c=>by simp [Lib.byteCells]];exact h9
       case measure=>simp [intOf]
   ·have hX:0<H:=by
     rcases zP H with e | e
     ·exact absurd (x.1 e) hm
     ·exact e
    clear x;have hG:=rJ R6 hm T;obtain ⟨ys,y1,y2,y3,y4,y5⟩:=R3.out;go_wp2_with fail;refine (qK _ ys 1000000000 _ w.heap.size y1 y2 (by omega) (by omega) (by omega)).mono ?_;rintro e A ⟨q',r,rfl,hr,s1⟩;rw [y4] at hr;obtain ⟨zs,z1,z2,z3,z4,z5,z6,z7⟩:=s1;rw [y4] at z4;obtain ⟨qo,qc,rfl,_,_,_⟩:=z1.open;have hY:r<1000000000:=by rw [hr];exact Nat.mod_lt _ (by decide)
    have G2:Hid (w.grownBy A none):=iL R8 z6 (fun b e=>(y1.fresh b e).1);have C2:Hid (gR A w1.heap.size (.slice co cs.length cc) cs):=K.out.keep z6 (fun k e h2=>by
     have h3:=R4.out k e;have h4:=(K.fresh k h2).1;omega)
    have Z1:Hid (ik A w.heap.size (.slice qo zs.length qc) (m / 1000000000) L):=⟨zs,z1,z2,z3,z4,by omega⟩;have ZB:Hid (∀ k,au (.slice qo zs.length qc)=some k->k<w1.heap.size):=fun k hk=>R4 k (by rw [<- z7];exact hk)
    have ka:w1.heap.size<=A.heap.size:=Nat.le_trans r2 z6.size;have HR:=aa hr;clear y1 y2 y3 y4 y5 hr z1 z2 z3 z4 z5 z6 z7 K R3 R4;have z:=C2.out.alloc (Obj.cells #[Value.int IntKind.u32 (r:Int)] 115);have d:(A.alloc (Obj.cells #[Value.int IntKind.u32 (r:Int)] 115)).cell? ⟨A.heap.size,0,none⟩=some (.int .u32 (r:Int)):=by simp
    have hl:w1.heap.size<=(A.alloc (Obj.cells #[Value.int IntKind.u32 (r:Int)] 115)).heap.size:=by simp;omega
    have HC:=aa d;have HO:=aa z;have ho:=aa hl;clear d z hl;go_wp2_with (at_builtin;refine my _ rfl _ _ rfl w1.heap.size _ cs rfl A.heap.size _ r rfl rfl HC HO (by omega) ho ?_)
    intro kb w3 o1 o2;obtain ⟨kg,kk,rfl,_,_,_⟩:=o1.open;have O1:=aa o1;have O2:=aa o2;clear o1 o2;go_wp2;go_roundg (m / 1000000000)
    case measure=>omega
    case rel =>
     refine ⟨m / 1000000000,cs++[r],O1,Nat.le_trans ho O2.size,?_,ZB,?_,?_,?_,?_,rfl⟩
     ·obtain ⟨hB,a1,a2,a3,a4,a5⟩:=Z1.out.keep0 (ae (ag _ _) (Obj.cells #[Value.int IntKind.u32 (r:Int)] 115));refine ⟨hB,a1.keep O2 ?_,a2,a3,a4,a5⟩;intro k e h2;have h3:=ZB.out k h2;have h4:=(C2.fresh k e).1;omega
     ·intro c hc;rcases List.mem_append.1 hc with hc | hc
      ·exact R5 c hc
      ·simp at hc;omega
     ·rw [HR];exact xJ R6
     ·by_cases h9:m / 1000000000=0
      ·right
       refine ⟨cs,r,rfl,?_⟩;have:=HR.out;omega
      ·exact .inl h9
     ·exact iL (ab G2 (ae (ag _ _) _)) O2 (fun b e=>by have:=(C2.fresh b e).1;have:=L2.out.size;omega)
def bZ (q:Rat):List UInt8:=(if rB q then [45] else [])++(Lib.decDigits (rN q)++(if q.den=1 then [] else 47 :: Lib.decDigits q.den))
def oU (w wr:World) (xs ys:List Nat) (k c:Nat):Prop :=
 ∃ done:List Nat,done.length=k/\Sm done/\ch wr w.heap.size (done++List.replicate (xs.length+1-k) 0)/\w.grownBy wr none/\ai done+4294967296^k*c=ai (xs.take k)+ai (ys.take k)
theorem DM (p c x y V X Y t q r:Nat) (h:V+p*c=X+Y) (a:t=c+x+y) (d:t=r+4294967296*q):V+p*r+p*4294967296*q=X+p*x+(Y+p*y):=by
 have e:p*t=p*r+p*4294967296*q:=by rw [d,Nat.mul_add,Nat.mul_assoc]
 have f:p*t=p*c+p*x+p*y:=by rw [a,Nat.mul_add,Nat.mul_add]
 omega
theorem oU.step {wr:World} {xs ys:List Nat} {k c:Nat} (h:oU w wr xs ys k c) (d:k<xs.length) (x y:Nat) (f:x=xs[k]) (hy:y=ys.getD k 0) (t:Nat) (z:Int) (g:t=c+x+y) (i:z=((t % 4294967296:Nat):Int)) :
  oU w (wr.setCell ⟨w.heap.size,k,none⟩ (.int .u32 z)) xs ys (k+1) (t / 4294967296):=by
 obtain ⟨done,a,j,m,o,p⟩:=h;refine ⟨done++[t % 4294967296],by simp [a],j.append (Sm.cons (Nat.mod_lt _ zD) Sm.nil),?_,ah o _ _ zL,?_⟩
 ·have:=m.set k (t % 4294967296);rw [dW _ _ _ _ a O] at this;rw [i,show xs.length+1-(k+1)=xs.length+1-k-1 from O];exact this
 ·rw [aS,a,aw xs k d,<- f,cW ys k,<- hy,Nat.pow_succ];have e:t=t % 4294967296+4294967296*(t / 4294967296):=O
  exact DM _ c x y _ _ _ t _ _ p g e
def PlusR (w:World) (xs ys:List Nat) (cv iv:Value) (wr:World):Prop:=∃ k c:Nat,k<=xs.length/\c<=1/\iv=.int .i64 k/\cv=.int .u64 (c:Nat)/\oU w wr xs ys k c
theorem BJ (K M:Value) (xs ys:List Nat) (w:World) (ha:Ws w K xs) (hb:Ws w M ys) (B:ys.length<=xs.length) (hl:xs.length<=10000000000000) :
  Calls Tryz.prog 184 #[K,M] w fun e w'=>rF w (ai xs+ai ys) (xs.length+1) e w':=by
 obtain ⟨ao,ca,rfl,hm,q,Q⟩:=ha.open;obtain ⟨bo,cb,rfl,ho,r,S⟩:=hb.open;unfold maxLen at q r;have V:=aa Q;have W:=aa S;have X:=aa ha.sm;have Y:=aa hb.sm;clear Q ha S hb;go_enter Tryz.func184,Tryz.ntmps184
 go_wp2_with (at_make;refine aC _ rfl _ _ 83 rfl Tryz.underlying83 Tryz.info32 _ _ _ _ (xs.length+1) rfl rfl O O O ?_)
 intro w1 i p;have HR:=aa i;have HG:=aa p;clear i p;go_wp2;go_loopw [6,22] (fun cv iv wr=>Hid (PlusR w xs ys cv iv wr)) (fun _ iv _=>xs.length-(intOf iv).toNat)
 case atStart=>exact ⟨0,0,Nat.zero_le _,O,rfl,rfl,[],rfl,Sm.nil,by simpa using HR.out,HG,by simp [ai]⟩
 case round =>
  obtain ⟨k,c,hk,hc,rfl,rfl,s⟩:=hrel.out;have u:=aa s;clear hrel s;by_cases hlt:k<xs.length
  ·obtain ⟨b',off,rfl,hp,d⟩:=aG V k hlt;have hx:=(aG X).get k hlt;obtain ⟨x,ex⟩:=eX (xs[k]);rw [<- ex] at d hx;have N:=aa ex;clear ex;obtain ⟨done,h,z,m,o,A⟩:=u.out;have he:wr.cell? ⟨b',off+k,none⟩=some (.int .u32 (x:Nat)):=o.cell d Z;have C:wr.frozen? ⟨w.heap.size,k,none⟩=false:=m.free k;obtain ⟨v0,H⟩:∃ v,wr.cell? ⟨w.heap.size,k,none⟩=some v:=⟨_,m.cell k (by simp [h];omega)⟩;have D:=aa o;clear h z m o A d;by_cases f:k<ys.length
   ·obtain ⟨I,t,rfl,T,a⟩:=aG W k f;have hy:=(aG Y).get k f;obtain ⟨y,J⟩:=eX (ys[k]);rw [<- J] at a hy;have E:Hid (y=ys.getD k 0):=by rw [J];show _=_;simp [f]
    have hf:wr.cell? ⟨I,t+k,none⟩=some (.int .u32 (y:Nat)):=D.out.cell a Z;clear J a;go_wp2;go_roundw
    case rel=>exact ⟨k+1,(c+x+y) / 4294967296,O,O,zN,zN,u.step hlt x y N E _ _ rfl O⟩
    case measure=>exact bO
   ·have E:Hid ((0:Nat)=ys.getD k 0):=by show _=_;simp [List.getD,show ¬ k<ys.length from f]
    go_wp2;go_roundw
    case rel=>exact ⟨k+1,(c+x) / 4294967296,O,O,zN,zN,u.step hlt x 0 N E _ _ Z O⟩
    case measure=>exact bO
  ·obtain rfl:k=xs.length:=O
   obtain ⟨done,h,z,m,o,A⟩:=u.out;have C:wr.frozen? ⟨w.heap.size,xs.length,none⟩=false:=m.free _;obtain ⟨v0,H⟩:∃ v,wr.cell? ⟨w.heap.size,xs.length,none⟩=some v:=⟨_,m.cell xs.length (by simp [h])⟩;have g:=m.set xs.length c;rw [dW _ _ _ _ h O,show xs.length+1-xs.length-1=0 from O,List.replicate_zero,List.append_nil] at g;have F:=g.ws (z.append (Sm.cons O Sm.nil)) (by simp [h];unfold maxLen;omega);rw [show (done++[c]).length=xs.length+1 from by simp [h]] at F;have HW:=aa F;have HV:Hid (ai (done++[c])=ai xs+ai ys):=by
    show _=_
    rw [aS,h,A,zT zL,zT B]
   have G:Hid ((done++[c]).length=xs.length+1):=by show _=_;simp [h]
   have H4:=aa (ah o ⟨w.heap.size,xs.length,none⟩ (.int .u32 (c:Nat)) zL);clear h z m o A g F;go_wp2_with fail;refine (fN _ (done++[c]) _ HW).mono ?_;rintro e w2 ⟨v',rfl,rfl,k1,U⟩;have K1:=aa k1;have K2:=aa U;clear k1 U;go_wp2;go_ret;refine ⟨v',rfl,?_,H4,?_⟩
   ·have:=K1.out;rw [HV,G] at this;exact this
   ·intro j P;rw [K2] at P;simp [au] at P;omega
theorem yC (K M:Value) (xs ys:List Nat) (w:World) (ha:Ws w K xs) (hb:Ws w M ys) (B:ys.length<xs.length) (hl:xs.length<=10000000000000) :
  Calls Tryz.prog 184 #[M,K] w fun e w'=>rF w (ai xs+ai ys) (xs.length+1) e w':=by
 obtain ⟨ao,ca,rfl,hm,q,Q⟩:=ha.open;obtain ⟨bo,cb,rfl,ho,r,S⟩:=hb.open;unfold maxLen at q r;have V:=aa Q;have W:=aa S;have X:=aa ha.sm;have Y:=aa hb.sm;clear Q ha S hb;go_enter Tryz.func184,Tryz.ntmps184
 go_wp2_with (at_make;refine aC _ rfl _ _ 83 rfl Tryz.underlying83 Tryz.info32 _ _ _ _ (xs.length+1) rfl rfl O O O ?_)
 intro w1 i p;have HR:=aa i;have HG:=aa p;clear i p;go_wp2;go_loopw [6,22] (fun cv iv wr=>Hid (PlusR w xs ys cv iv wr)) (fun _ iv _=>xs.length-(intOf iv).toNat)
 case atStart=>exact ⟨0,0,Nat.zero_le _,O,rfl,rfl,[],rfl,Sm.nil,by simpa using HR.out,HG,by simp [ai]⟩
 case round =>
  obtain ⟨k,c,hk,hc,rfl,rfl,s⟩:=hrel.out;have u:=aa s;clear hrel s;by_cases hlt:k<xs.length
  ·obtain ⟨b',off,rfl,hp,d⟩:=aG V k hlt;have hx:=(aG X).get k hlt;obtain ⟨x,ex⟩:=eX (xs[k]);rw [<- ex] at d hx;have N:=aa ex;clear ex;obtain ⟨done,h,z,m,o,A⟩:=u.out;have he:wr.cell? ⟨b',off+k,none⟩=some (.int .u32 (x:Nat)):=o.cell d Z;have C:wr.frozen? ⟨w.heap.size,k,none⟩=false:=m.free k;obtain ⟨v0,H⟩:∃ v,wr.cell? ⟨w.heap.size,k,none⟩=some v:=⟨_,m.cell k (by simp [h];omega)⟩;have D:=aa o;clear h z m o A d;by_cases f:k<ys.length
   ·obtain ⟨I,t,rfl,T,a⟩:=aG W k f;have hy:=(aG Y).get k f;obtain ⟨y,J⟩:=eX (ys[k]);rw [<- J] at a hy;have E:Hid (y=ys.getD k 0):=by rw [J];show _=_;simp [f]
    have hf:wr.cell? ⟨I,t+k,none⟩=some (.int .u32 (y:Nat)):=D.out.cell a Z;clear J a;go_wp2;go_roundw
    case rel=>exact ⟨k+1,(c+x+y) / 4294967296,O,O,zN,zN,u.step hlt x y N E _ _ rfl O⟩
    case measure=>exact bO
   ·have E:Hid ((0:Nat)=ys.getD k 0):=by show _=_;simp [List.getD,show ¬ k<ys.length from f]
    go_wp2;go_roundw
    case rel=>exact ⟨k+1,(c+x) / 4294967296,O,O,zN,zN,u.step hlt x 0 N E _ _ Z O⟩
    case measure=>exact bO
  ·obtain rfl:k=xs.length:=O
   obtain ⟨done,h,z,m,o,A⟩:=u.out;have C:wr.frozen? ⟨w.heap.size,xs.length,none⟩=false:=m.free _;obtain ⟨v0,H⟩:∃ v,wr.cell? ⟨w.heap.size,xs.length,none⟩=some v:=⟨_,m.cell xs.length (by simp [h])⟩;have g:=m.set xs.length c;rw [dW _ _ _ _ h O,show xs.length+1-xs.length-1=0 from O,List.replicate_zero,List.append_nil] at g;have F:=g.ws (z.append (Sm.cons O Sm.nil)) (by simp [h];unfold maxLen;omega);rw [show (done++[c]).length=xs.length+1 from by simp [h]] at F;have HW:=aa F;have HV:Hid (ai (done++[c])=ai xs+ai ys):=by
    show _=_
    rw [aS,h,A,zT zL,zT (Nat.le_of_lt B)]
   have G:Hid ((done++[c]).length=xs.length+1):=by show _=_;simp [h]
   have H4:=aa (ah o ⟨w.heap.size,xs.length,none⟩ (.int .u32 (c:Nat)) zL);clear h z m o A g F;go_wp2_with fail;refine (fN _ (done++[c]) _ HW).mono ?_;rintro e w2 ⟨v',rfl,rfl,k1,U⟩;have K1:=aa k1;have K2:=aa U;clear k1 U;go_wp2;go_ret;refine ⟨v',rfl,?_,H4,?_⟩
   ·have:=K1.out;rw [HV,G] at this;exact this
   ·intro j P;rw [K2] at P;simp [au] at P;omega
theorem DN (a c:Value) (m n L M:Nat) (w:World) (ha:aT w a m L) (hb:aT w c n M) (p:L+M<=10000000000000) :
  Calls Tryz.prog 184 #[a,c] w fun e w'=>rF w (m+n) (max L M+1) e w':=by
 obtain ⟨xs,i,q,j,r⟩:=ha;obtain ⟨ys,k,s,o,t⟩:=hb;by_cases h:ys.length<=xs.length
 ·refine (BJ a c xs ys w i k h O).mono ?_;rintro e w' ⟨d,rfl,k1,f,g⟩;rw [j,o] at k1;exact ⟨d,rfl,k1.mono O,f,g⟩
 ·refine (yC c a ys xs w k i O O).mono ?_;rintro e w' ⟨d,rfl,k1,f,g⟩;rw [j,o,Nat.add_comm] at k1;exact ⟨d,rfl,k1.mono O,f,g⟩
def MinusR (w:World) (v:Value) (xs ys:List Nat) (ov iv:Value) (wr:World):Prop :=
 ∃ (k o:Nat) (done:List Nat),k<=xs.length/\o<=1/\iv=.int .i64 k/\ov=.int .u32 (o:Nat)/\done.length=k/\Sm done/\gR wr w.heap.size v (done++xs.drop k)/\w.grownBy wr none/\ai done+ai (ys.take k)=ai (xs.take k)+4294967296^k*o
theorem jL (x t:Nat) (a:x<4294967296) (c:t<=4294967296) :
  ∃ r:Nat,IntKind.u32.wrap ((x:Int)-(t:Int) % 4294967296)=(r:Int)/\r<4294967296/\((x<t->r+t=x+4294967296)/\(¬ x<t->r+t=x)):=by
 rw [IntKind.wrap_u32];refine ⟨(((x:Int)-(t:Int) % 4294967296) % 4294967296).toNat,O,O,?_,?_⟩<;>intro h<;>omega
theorem jn (p V Y X y x r t o a:Nat) (h:V+Y=X+p*o) (c:t=o+y) (d:r+t=x+4294967296*a):V+p*r+(Y+p*y)=X+p*x+p*4294967296*a:=by
 have e:p*r+p*t=p*x+p*4294967296*a:=by rw [<- Nat.mul_add,d,Nat.mul_add,Nat.mul_assoc]
 have f:p*t=p*o+p*y:=by rw [c,Nat.mul_add]
 omega
theorem Bv (done xs:List Nat) (k r:Nat) (a:done.length=k) (c:k<xs.length):(done++xs.drop k).set k r=(done++[r])++xs.drop (k+1):=by
 rw [List.set_append_right _ _ O,a,Nat.sub_self,List.drop_eq_getElem_cons c,List.set_cons_zero,List.append_assoc];rfl
theorem Bu (done xs:List Nat) (k:Nat) (a:done.length=k) (c:k<xs.length) (h:k<(done++xs.drop k).length):(done++xs.drop k)[k]=xs[k]:=by
 rw [List.getElem_append_right O];simp [a]
theorem Dx (va vb:Value) (xs ys:List Nat) (w:World) (ha:Ws w va xs) (hb:Ws w vb ys) (E:ys.length<=xs.length) (A:ai ys<=ai xs) (hl:xs.length<=10000000000000) :
  Calls Tryz.prog 185 #[va,vb] w fun e w'=>rF w (ai xs-ai ys) xs.length e w':=by
 obtain ⟨ao,ca,rfl,hu,I,Ha⟩:=ha.open;obtain ⟨bo,cb,rfl,hA,J,Hb⟩:=hb.open;unfold maxLen at I J;have WA:=aa ha;have HB:=aa Hb;have SA:=aa ha.sm;have SB:=aa hb.sm;have S:=aa A;clear Ha ha Hb hb A;go_enter Tryz.func185,Tryz.ntmps185
 go_wp2_with fail;refine (jG _ xs w WA hl).mono ?_;rintro e w1 ⟨v,rfl,W,g1⟩;have O1:=aa W;have G1:=aa g1;obtain ⟨X,Y,rfl,hB,he,hf⟩:=W.open;unfold maxLen at he;clear W g1 hf;go_wp2;go_loopw [6,13] (fun ov iv wr=>Hid (MinusR w (.slice X xs.length Y) xs ys ov iv wr)) (fun _ iv _=>xs.length-(intOf iv).toNat)
 case atStart=>exact ⟨0,0,[],Nat.zero_le _,O,rfl,rfl,rfl,Sm.nil,by simpa using O1.out,G1,by simp [ai]⟩
 case round =>
  obtain ⟨k,o,done,hk,ho,rfl,rfl,h1,h2,P,h4,h5⟩:=hrel.out;have a:(done++xs.drop k).length=xs.length:=by simp [h1];omega
  have m:gR wr w.heap.size (.slice X (done++xs.drop k).length Y) (done++xs.drop k):=by rw [a];exact P
  have i:=aa h1;have C:=aa h2;have T:=aa P;have D:=aa h4;have F:=aa h5;clear hrel h1 h2 h4 h5;by_cases hlt:k<xs.length
  ·obtain ⟨g,rfl⟩:∃ g,X=some ⟨g,0,none⟩:=by
    obtain ⟨hC,hm,e,_,_,h | ⟨g,h,_⟩⟩:=m.open
    ·rcases m.2 with ⟨_,Q⟩ | ⟨g,hp,cur,e2,_⟩
     ·rw [a] at Q;omega
     ·simp only [Value.slice.injEq] at e2;exact ⟨g,e2.1⟩
    ·simp only [Value.slice.injEq] at e;exact ⟨g,by rw [e.1];exact h⟩
   have G:=(aG SA).get k hlt;obtain ⟨q1,q2,q3⟩:=m.at k (by rw [a];exact hlt);rw [Bu done xs k i hlt] at q1;obtain ⟨x,ex⟩:=eX (xs[k]);rw [<- ex] at q1 G;have M:=aa ex;have N:Hid (∀ (r:Nat) (z:Int),z=(r:Int)->gR (wr.setCell ⟨g,k,none⟩ (.int .u32 z)) w.heap.size (.slice (some ⟨g,0,none⟩) xs.length Y) ((done++[r])++xs.drop (k+1))):=by
    intro r z hz;have:=q3 r z hz;rw [Bv done xs k r i hlt,a] at this;exact this
   have s:Hid (w.heap.size<=g):=by
    have:=T.out.fresh g rfl;exact this.1
   clear q3 ex m P a;by_cases f:k<ys.length
   ·obtain ⟨b2,K,rfl,hq,d⟩:=aG HB k f;have hy:=(aG SB).get k f;obtain ⟨y,ey⟩:=eX (ys[k]);rw [<- ey] at d hy;have H:Hid (y=ys.getD k 0):=by rw [ey];show _=_;simp [f]
    have hs:wr.cell? ⟨b2,K+k,none⟩=some (.int .u32 (y:Nat)):=D.out.cell d Z;clear ey d;by_cases p:x<o+y
    ·obtain ⟨r,r1,r2,t,u⟩:=jL x (o+y) G O;rw [Int.natCast_add] at r1;have q:r+(o+y)=x+4294967296*1:=by have:=t p;omega
     have c:=aa q;have B:=aa r1;clear t u q;go_wp2;go_roundw
     case rel =>
      refine ⟨k+1,1,done++[r],O,O,zN,rfl,by simp [i.out],C.append (Sm.cons r2 Sm.nil),N r _ (by first | exact r1 | rfl | (have:=c.out;omega)),ah D _ _ s,?_⟩;rw [aS,i,cW ys k,aw xs k hlt,<- M,<- H,Nat.pow_succ];exact jn _ _ _ _ y x r (o+y) o 1 F rfl c
     case measure=>exact bO
    ·obtain ⟨r,r1,r2,t,u⟩:=jL x (o+y) G O;rw [Int.natCast_add] at r1;have q:r+(o+y)=x+4294967296*0:=by have:=u p;omega
     have c:=aa q;have B:=aa r1;clear t u q;go_wp2;go_roundw
     case rel =>
      refine ⟨k+1,0,done++[r],O,O,zN,rfl,by simp [i.out],C.append (Sm.cons r2 Sm.nil),N r _ (by first | exact r1 | rfl | (have:=c.out;omega)),ah D _ _ s,?_⟩;rw [aS,i,cW ys k,aw xs k hlt,<- M,<- H,Nat.pow_succ];exact jn _ _ _ _ y x r (o+y) o 0 F rfl c
     case measure=>exact bO
   ·have H:Hid ((0:Nat)=ys.getD k 0):=by show _=_;simp [List.getD,show ¬ k<ys.length from f]
    by_cases p:x<o
    ·obtain ⟨r,r1,r2,t,u⟩:=jL x o G O;have q:r+o=x+4294967296*1:=by have:=t p;omega
     have c:=aa q;have B:=aa r1;clear t u q;go_wp2;go_roundw
     case rel =>
      refine ⟨k+1,1,done++[r],O,O,zN,rfl,by simp [i.out],C.append (Sm.cons r2 Sm.nil),N r _ (by first | exact r1 | rfl | (have:=c.out;omega)),ah D _ _ s,?_⟩;rw [aS,i,cW ys k,aw xs k hlt,<- M,<- H,Nat.pow_succ];exact jn _ _ _ _ 0 x r o o 1 F rfl c
     case measure=>exact bO
    ·obtain ⟨r,r1,r2,t,u⟩:=jL x o G O;have q:r+o=x+4294967296*0:=by have:=u p;omega
     have c:=aa q;have B:=aa r1;clear t u q;go_wp2;go_roundw
     case rel =>
      refine ⟨k+1,0,done++[r],O,O,zN,rfl,by simp [i.out],C.append (Sm.cons r2 Sm.nil),N r _ (by first | exact r1 | rfl | (have:=c.out;omega)),ah D _ _ s,?_⟩;rw [aS,i,cW ys k,aw xs k hlt,<- M,<- H,Nat.pow_succ];exact jn _ _ _ _ 0 x r o o 0 F rfl c
     case measure=>exact bO
  ·obtain rfl:k=xs.length:=O
   have hv:ai done=ai xs-ai ys:=by
    have h:=F.out;rw [zT zL,zT E] at h;have hd:=bD C;rw [i] at hd;have A:=S.out;have:o=0:=by
     rcases zP o with Q | Q
     ·exact Q
     ·have e:o=1:=O
      rw [e,Nat.mul_one] at h;omega
    rw [this,Nat.mul_zero] at h;omega
   have U:=T.out.ws (by rw [List.drop_of_length_le zL,List.append_nil];exact C);rw [List.drop_of_length_le zL,List.append_nil] at U;have HW:=aa U;have HV:=aa hv;have V:=aa (T.fresh);clear U hv P m a;go_wp2_with fail;refine (fN _ done _ HW).mono ?_;rintro e w2 ⟨v',rfl,rfl,k1,k2⟩;have K1:=aa k1;have K2:=aa k2;clear k1 k2;go_wp2;go_ret;refine ⟨v',rfl,?_,D,?_⟩
   ·have:=K1.out;rw [HV,i] at this;exact this
   ·intro j hj;rw [K2] at hj;exact (V j hj).1
theorem r9 (a c:Value) (m n L M:Nat) (w:World) (ha:aT w a m L) (hb:aT w c n M) (g:n<=m) (r:L<=10000000000000) :
  Calls Tryz.prog 185 #[a,c] w fun e w'=>rF w (m-n) L e w':=by
 obtain ⟨xs,d,s,i,t⟩:=ha;obtain ⟨ys,f,j,k,u⟩:=hb;have h:=mj f.sm j d.sm O;refine (Dx a c xs ys w d f h O O).mono ?_;rintro e w' ⟨o,rfl,k1,p,q⟩;rw [i,k] at k1;exact ⟨o,rfl,k1.mono O,p,q⟩
theorem nF (x:Value) (neg:Bool) (n d L:Nat) (w:World) (g:FV w x neg n d L) :
  Calls Tryz.prog 131 #[x] w fun e w'=>e=.returned (.bool (decide (n=0)))/\w.grownBy w' none:=by
 obtain ⟨m,f,o,k,p,q,rfl⟩:=g.shape;obtain ⟨up,h,e,i,_⟩:=g;simp only [Value.agg.injEq,Array.mk.injEq,List.cons.injEq,and_true,true_and] at e;obtain ⟨rfl,rfl⟩:=e;obtain ⟨r,s,t,j,u1,u2,u3⟩:=i.shape;simp only [Value.slice.injEq] at j;obtain ⟨rfl,rfl,rfl⟩:=j;unfold maxLen at u3;clear i;by_cases a:n=0
 ·have c:f=0:=u1.2 a;subst c;have hd:decide (n=0)=true:=decide_eq_true a;rw [hd];clear u1 a hd;go_enter Tryz.func131,Tryz.ntmps131
  go_wp2;go_ret;exact ⟨rfl,ae (ag _ _) _⟩
 ·have c:f≠0:=fun e=>a (u1.1 e)
  have hb:(((f:Nat):Int)==0)=false:=zB O;have hd:decide (n=0)=false:=decide_eq_false a;rw [hd];clear u1 a hd c;go_enter Tryz.func131,Tryz.ntmps131
  go_wp2;go_ret;exact ⟨by first | rfl | simp [hb],ae (ag _ _) _⟩
def oP (neg:Bool) (n:Nat):Bool:=!neg && !(decide (n=0))
theorem FV.opp {u:Value} {neg:Bool} {d:Nat} (h:FV w (.agg #[.bool neg,u,v]) neg n d L) (hg:w.grownBy w' none):FV w' (.agg #[.bool (oP neg n),u,v]) (oP neg n) n d L:=by
 obtain ⟨up,a,e,c,f,g,i⟩:=h.keep0 hg;simp only [Value.agg.injEq,Array.mk.injEq,List.cons.injEq,and_true,true_and] at e;obtain ⟨rfl,rfl⟩:=e;refine ⟨_,_,rfl,c,f,g,fun hb=>?_⟩;unfold oP at hb;simp at hb;omega
theorem vP (x:Value) (neg:Bool) (n d L:Nat) (w:World) (p:FV w x neg n d L) :
  Calls Tryz.prog 108 #[x] w fun e w'=>gN w (oP neg n) n d L e w':=by
 have q:=aa p;obtain ⟨g,h,j,a,k,m,rfl⟩:=p.shape;clear p;obtain ⟨W,y⟩:=eX ((w.alloc (Obj.cells #[.bool neg,.slice g h j,.slice a k m] 85)).alloc (Obj.cells #[.bool false,.slice none 0 0,.slice none 0 0] 85));have A:Hid (w.grownBy W none):=by rw [y];exact ae (ae (ag _ _) _) _
 have c:Hid (∀ wx,W.grownBy wx none->(wx.cell? ⟨w.heap.size,0,none⟩=some (.bool neg)/\wx.cell? ⟨w.heap.size,1,none⟩=some (.slice g h j)/\wx.cell? ⟨w.heap.size,2,none⟩=some (.slice a k m)/\∀ i,wx.frozen? ⟨w.heap.size,i,none⟩=false)/\(wx.cell? ⟨w.heap.size+1,0,none⟩=some (.bool false)/\wx.cell? ⟨w.heap.size+1,1,none⟩=some (.slice none 0 0)/\wx.cell? ⟨w.heap.size+1,2,none⟩=some (.slice none 0 0)/\∀ i,wx.frozen? ⟨w.heap.size+1,i,none⟩=false)):=by
  intro wx hg;rw [y] at hg;have F:=aV (ab (ae (ag _ none) _) hg);have B:=aV hg;have G:(w.alloc (Obj.cells #[.bool neg,.slice g h j,.slice a k m] 85)).heap.size=w.heap.size+1:=Z
  rw [G] at B;exact ⟨F,B⟩
 cases neg with
 | true =>
  obtain ⟨⟨s0,s1,s2,o⟩,⟨D,r1,r2,f⟩⟩:=c.out W (ag _ _);have r:=o 0;have s:=f 0;have t:=f 1;have u:=f 2;clear o f;go_enter Tryz.func108,Tryz.ntmps108
  go_wp2;refine bodyPost_ret (v:=.agg #[.bool (oP true n),.slice g h j,.slice a k m]) (by simp [results,Tryz.results108,go_sem,oP]) rfl ?_;exact ⟨_,rfl,q.opp (ae (ae (ag _ _) _) _),ae (ae (ag _ _) _) _⟩
 | false =>
  have hb:oP false n = !(decide (n=0)):=by simp [oP]
  go_enter Tryz.func108,Tryz.ntmps108
  go_wp2_with fail;rw [<- y];refine (nF _ false n d L W (q.keep0 A)).mono ?_;rintro e E ⟨rfl,z⟩;obtain ⟨⟨s0,s1,s2,o⟩,⟨D,r1,r2,f⟩⟩:=c.out E z;have r:=o 0;have s:=f 0;have t:=f 1;have u:=f 2;have H:=aa (ab A z);clear o f z;go_wp2;refine bodyPost_ret (v:=.agg #[.bool (oP false n),.slice g h j,.slice a k m]) (by simp [results,Tryz.results108,go_sem,D,r1,r2,oP]) rfl ?_;have C:w.grownBy ((((E.setCell ⟨w.heap.size,0,none⟩ (.bool (!(decide (n=0))))).setCell ⟨w.heap.size+1,0,none⟩ (.bool (!(decide (n=0))))).setCell ⟨w.heap.size+1,1,none⟩ (.slice g h j)).setCell ⟨w.heap.size+1,2,none⟩ (.slice a k m)) none:=ah (ah (ah (ah H _ _ Z) _ _ Z) _ _ Z) _ _ Z;exact ⟨_,rfl,q.opp C,C⟩
theorem ED (x y:Value) (d f:Bool) (a g c i:Nat) (w:World) (r:aT w x a g) (hy:aT w y c i) (K:g+i<=10000000000000) :
  Calls Tryz.prog 149 #[.bool d,x,.bool f,y] w fun e w'=>∃ v,e=.returned (.tuple #[.bool (kv d a f c),v])/\aT w' v (iX d a f c) (max g i+1)/\w.grownBy w' none:=by
 have z:=aa r;have A:=aa hy;obtain ⟨T,U,V,rfl,_⟩:=r.shape;obtain ⟨W,X,Y,rfl,_⟩:=hy.shape;clear r hy;by_cases hb:d=f
 ·have j:kv d a f c=d:=by unfold kv;rw [if_pos hb]
  have k:iX d a f c=a+c:=by unfold iX;rw [if_pos hb]
  rw [j,k];clear j k;have E:(d==f)=true:=by simp [hb]
  clear hb;go_enter Tryz.func149,Tryz.ntmps149
  go_wp2_with fail;refine (DN _ _ a c g i _ z A K).mono ?_;rintro e H ⟨u,rfl,k1,m,_⟩;have s:=aa k1;have t:=aa m;clear k1 m;go_wp2;exact bodyPost_ret (v:=.tuple #[.bool d,u]) (by simp [results,Tryz.results149,go_sem]) rfl ⟨u,rfl,s,t⟩
 ·have E:(d==f)=false:=by simp [hb]
  by_cases hlt:a<c
  ·have j:kv d a f c=f:=by unfold kv;rw [if_neg hb,if_pos hlt]
   have k:iX d a f c=c-a:=by unfold iX;rw [if_neg hb,if_pos hlt]
   rw [j,k];clear j k hb;have p:=aa hlt;have C:jb a c = -1:=by unfold jb;rw [if_pos hlt]
   clear hlt;go_enter Tryz.func149,Tryz.ntmps149
   go_wp2_with fail;refine (mP _ _ a c g i _ z A).mono ?_;rintro e H ⟨rfl,q,rfl⟩;rw [C];clear C;go_wp2_with fail;refine (r9 _ _ c a i g _ (A.keep0 (bG q)) (z.keep0 (bG q)) (Nat.le_of_lt p) O).mono ?_;rintro e Q ⟨u,rfl,k1,m,_⟩;have s:=aa (k1.mono (show i<=max g i+1 by omega));have t:=aa (ab (bG q) m);clear k1 m;go_wp2;exact bodyPost_ret (v:=.tuple #[.bool f,u]) (by simp [results,Tryz.results149,go_sem]) rfl ⟨u,rfl,s,t⟩
  ·have j:kv d a f c=(d && decide (0<a-c)):=by unfold kv;rw [if_neg hb,if_neg hlt]
   have k:iX d a f c=a-c:=by unfold iX;rw [if_neg hb,if_neg hlt]
   rw [j,k];clear j k hb;have p:Hid (c<=a):=by show c<=a;omega
   have C:0<=jb a c:=by unfold jb;rw [if_neg hlt];split<;>decide
   obtain ⟨o,D⟩:=eX (jb a c);have M:o<=1:=by rw [D];unfold jb;rw [if_neg hlt];split<;>decide
   rw [<- D] at C;have N:=aa D;clear hlt D;have P:(decide (o<0))=false:=decide_eq_false O;go_enter Tryz.func149,Tryz.ntmps149
   go_wp2_with fail;refine (mP _ _ a c g i _ z A).mono ?_;rintro e H ⟨rfl,q,rfl⟩;rw [<- N];go_wp2_with fail;refine (r9 _ _ a c g i _ (z.keep0 (bG q)) (A.keep0 (bG q)) p O).mono ?_;rintro e Q ⟨u,rfl,k1,m,_⟩;obtain ⟨I,B,J,rfl,G,x2,S⟩:=k1.shape;unfold maxLen at S;have s:=aa (k1.mono (show g<=max g i+1 by omega));have t:=aa (ab (bG q) m);have r:decide (0<a-c)=decide ((0:Int)<(B:Nat)):=by
    rw [decide_eq_decide];constructor
    ·intro h;have:B≠0:=fun e=>by have:=G.1 e;omega
     omega
    ·intro h;have:a-c≠0:=fun e=>by have:=G.2 e;omega
     omega
   have F:=aa r;clear k1 m G r;cases d with
   | false =>
    go_wp2;exact bodyPost_ret (v:=.tuple #[.bool false,.slice I B J]) (by simp [results,Tryz.results149,go_sem]) rfl ⟨_,rfl,s,t⟩
   | true =>
    go_wp2;refine bodyPost_ret (v:=.tuple #[.bool (decide ((0:Int)<(B:Nat))),.slice I B J]) (by first | (simp [results,Tryz.results149,go_sem];done) | (simp [results,Tryz.results149,go_sem];rfl)) rfl ⟨_,?_,s,t⟩;rw [Bool.true_and,F]
def Ai (b1:Bool) (n1 d1:Nat) (b2:Bool) (n2 d2:Nat):Bool×Nat×Nat :=
 bg (DL b1 n1 d1 b2 n2 d2) (j9 b1 n1 d1 b2 n2 d2 / Nat.gcd (j9 b1 n1 d1 b2 n2 d2) (Nat.gcd d1 d2)) (d1 / Nat.gcd d1 d2*(d2 / Nat.gcd (j9 b1 n1 d1 b2 n2 d2) (Nat.gcd d1 d2)))
theorem qA (y C m K:Option Addr) (z A D E F I M N:Nat) (q r:Bool) (S X s P J p:Nat) (w:World) (hx:FV w (.agg #[.bool q,.slice y z A,.slice m F I]) q S X s) (hy:FV w (.agg #[.bool r,.slice C D E,.slice K M N]) r P J p) (hl:s+p<=4000000000000)
  (hwh:∀ wx:World,(Calls Tryz.prog 68 #[.agg #[.bool q,.slice y z A,.slice m F I]] wx fun e w'=>e=.returned (.bool false)/\wx.grownBy w' none)∨((Calls Tryz.prog 68 #[.agg #[.bool q,.slice y z A,.slice m F I]] wx fun e w'=>e=.returned (.bool true)/\wx.grownBy w' none)/\∀ wx:World,Calls Tryz.prog 68 #[.agg #[.bool r,.slice C D E,.slice K M N]] wx fun e w'=>e=.returned (.bool false)/\wx.grownBy w' none)) :
  Calls Tryz.prog 107 #[.agg #[.bool q,.slice y z A,.slice m F I],.agg #[.bool r,.slice C D E,.slice K M N]] w fun e w'=>gN w (Ai q S X r P J).1 (Ai q S X r P J).2.1 (Ai q S X r P J).2.2 (s+p+2) e w':=by
 have HX:=aa hx;have HY:=aa hy;obtain ⟨hw,hC⟩:=hx.down_le;obtain ⟨yb,hs⟩:=hy.down_le;have hE:=hx.cop;have hF:=hy.cop;have NX:Hid (aT w (.slice y z A) S s):=by
  obtain ⟨up,yn,e,h1,_⟩:=hx;simp only [Value.agg.injEq,Array.mk.injEq,List.cons.injEq,and_true,true_and] at e;rw [e.1];exact h1
 have NY:Hid (aT w (.slice C D E) P p):=by
  obtain ⟨up,yn,e,h1,_⟩:=hy;simp only [Value.agg.injEq,Array.mk.injEq,List.cons.injEq,and_true,true_and] at e;rw [e.1];exact h1
 clear hx hy;obtain ⟨G,eG⟩:=eX (Nat.gcd X J);have hG:0<G:=by rw [eG];exact Nat.gcd_pos_of_pos_left _ hw
 obtain ⟨Q,hu⟩:=eX (X / G);obtain ⟨Y1,hv⟩:=eX (J / G);obtain ⟨T,eT⟩:=eX (iX q (S*Y1) r (P*Q));obtain ⟨B,eB⟩:=eX (kv q (S*Y1) r (P*Q));obtain ⟨H,eH⟩:=eX (Nat.gcd T G);have hH:0<H:=by rw [eH];exact Nat.gcd_pos_of_pos_right _ hG
 obtain ⟨U,eU⟩:=eX (T / H);obtain ⟨V,eV⟩:=eX (J / H);have qa:Q<4294967296^(s+1):=by rw [hu];exact nO (Nat.le_trans (Nat.div_le_self _ _) hC)
 have jp:Y1<4294967296^(p+1):=by rw [hv];exact nO (Nat.le_trans (Nat.div_le_self _ _) hs)
 have hV:V<4294967296^(p+1):=by rw [eV];exact nO (Nat.le_trans (Nat.div_le_self _ _) hs)
 have qb:Ai q S X r P J=bg B U (Q*V):=by rw [eB,eU,eV,eH,eT,hu,hv,eG];rfl
 obtain ⟨hV0,hD⟩:0<Q*V/\(U=0∨Nat.gcd U (Q*V)=1):=by
  rw [eU,eV,eH,eT,hu,hv,eG];exact ⟨(vT q r hE hF hw yb).1,.inr (vT q r hE hF hw yb).2⟩
 have qc:=aa hD;have EG:=aa eG;have js:=aa hu;have jv:=aa hv;have ET:=aa eT;have EB:=aa eB;have EH:=aa eH;have EU:=aa eU;have EV:=aa eV;rw [qb];clear qb hD eG hu hv eT eB eH eU eV hE hF hC hs;obtain ⟨W,hW⟩:=eX (((w.alloc (Obj.cells #[.bool q,.slice y z A,.slice m F I] 85)).alloc (Obj.cells #[.bool r,.slice C D E,.slice K M N] 85)).alloc (Obj.cells #[.bool false,.slice none 0 0,.slice none 0 0] 85));have GW:Hid (w.grownBy W none):=by rw [hW];exact ae (ae (ae (ag _ _) _) _) _
 have NW:Hid (∀ wx,W.grownBy wx none->bM wx (w.heap.size+1+1)):=by
  intro wx hg;rw [hW] at hg;have:=bu hg;simpa using this
 have a:Hid (∀ wx,W.grownBy wx none->(wx.cell? ⟨w.heap.size,0,none⟩=some (.bool q)/\wx.cell? ⟨w.heap.size,1,none⟩=some (.slice y z A)/\wx.cell? ⟨w.heap.size,2,none⟩=some (.slice m F I))/\(wx.cell? ⟨w.heap.size+1,0,none⟩=some (.bool r)/\wx.cell? ⟨w.heap.size+1,1,none⟩=some (.slice C D E)/\wx.cell? ⟨w.heap.size+1,2,none⟩=some (.slice K M N))/\(wx.cell? ⟨w.heap.size+1+1,0,none⟩=some (.bool false)/\wx.cell? ⟨w.heap.size+1+1,1,none⟩=some (.slice none 0 0)/\wx.cell? ⟨w.heap.size+1+1,2,none⟩=some (.slice none 0 0))/\∀ i,wx.frozen? ⟨w.heap.size+1+1,i,none⟩=false):=by
  intro wx hg;rw [hW] at hg;have a1:=aJ (ab (ae (ae (ag _ none) _) _) hg);have a2:=aJ (w:=w.alloc (Obj.cells #[.bool q,.slice y z A,.slice m F I] 85)) (ab (ae (ag _ none) _) hg);have a3:=aV hg;have e3:((w.alloc (Obj.cells #[.bool q,.slice y z A,.slice m F I] 85)).alloc (Obj.cells #[.bool r,.slice C D E,.slice K M N] 85)).heap.size=w.heap.size+1+1:=Z
  rw [e3] at a3;refine ⟨a1,by simpa using a2,?_,?_⟩
  ·exact ⟨a3.1,a3.2.1,a3.2.2.1⟩
  ·exact a3.2.2.2
 obtain ⟨⟨s0,s1,s2⟩,⟨t0,t1,t2⟩,⟨r0,r1,r2⟩,rf⟩:=a.out W (ag _ _);clear rf;have Hg:¬ w.heap.size+1+1=w.heap.size:=O
 have Hh:¬ w.heap.size=w.heap.size+1+1:=O
 have Hi:¬ w.heap.size+1+1=w.heap.size+1:=O
 have mc:=aa hwh;clear hwh;go_enter Tryz.func107,Tryz.ntmps107
 go_upto_region 1 with fail;rw [<- hW];clear hW;go_cut [18] (fun s18 wx=>Hid (s18=.bool false/\W.grownBy wx none))
 case first =>
  go_wp2_with fail;rcases mc.out W with h | ⟨h,h2⟩
  ·refine h.mono ?_;rintro e w1 ⟨rfl,g1⟩;go_wp2_with fail;go_meet
   exact ⟨rfl,g1⟩
  ·refine h.mono ?_;rintro e w1 ⟨rfl,g1⟩;obtain ⟨⟨a0,a1,a2⟩,⟨a3,a4,a5⟩,_⟩:=a.out w1 g1;go_wp2_with fail;refine (h2 _).mono ?_;rintro e w2 ⟨rfl,g2⟩;go_wp2_with fail;go_meet
   exact ⟨rfl,ab g1 g2⟩
 case rest =>
  obtain ⟨rfl,GG⟩:=hcut.out;clear hcut s0 s1 s2 t0 t1 t2 r0 r1 r2;obtain ⟨⟨s0,s1,s2⟩,⟨s3,s4,s5⟩,_⟩:=a.out wc GG;go_wp2;go_cut [7] (fun s7 wx=>Hid (W.grownBy wx none/\(∃ o l c,s7=.slice o l c)/\aT wx s7 G (s+p+1)))
  case first =>
   go_region_held3 (fun w'=>w'.cell? ⟨w.heap.size,0,none⟩=some (.bool q)/\w'.cell? ⟨w.heap.size,1,none⟩=some (.slice y z A)/\w'.cell? ⟨w.heap.size,2,none⟩=some (.slice m F I)/\w'.cell? ⟨w.heap.size+1,0,none⟩=some (.bool r)/\w'.cell? ⟨w.heap.size+1,1,none⟩=some (.slice C D E)/\w'.cell? ⟨w.heap.size+1,2,none⟩=some (.slice K M N)) (go_keep)
    (first | (go_at_call_of 72 (Value.agg #[.bool q,.slice y z A,.slice m F I]);refine (iq _ q S X s _ (HX.keep0 (ab GW zF))).mono ?_;rintro e wa ⟨va,rfl,pa,ga⟩;obtain ⟨ao,al,ac,rfl,_,_,_⟩:=pa.shape;have d:=ab zQ ga;have GG:W.grownBy wa none:=ab zF ga;(try have pb:=pb.keep0 d);(try have k:=k.keep0 d);clear d;obtain ⟨⟨hI,hK,hL⟩,⟨hM,hN,hQ⟩,⟨hR,hS,hT⟩,f⟩:=a.out wa GG;have Y:=f 0;have he:=f 1;have hf:=f 2;clear f) | (go_at_call_of 72 (Value.agg #[.bool r,.slice C D E,.slice K M N]);refine (iq _ r P J p _ (HY.keep0 (ab GW zF))).mono ?_;rintro e wb ⟨vb,rfl,pb,gb⟩;obtain ⟨bo,bl,bc,rfl,_,_,_⟩:=pb.shape;have d:=ab zQ gb;have GG:W.grownBy wb none:=ab zF gb;(try have pa:=pa.keep0 d);(try have k:=k.keep0 d);clear d;obtain ⟨⟨hX,hY,ka⟩,⟨kb,ke,kf⟩,⟨kg,kk,kn⟩,g⟩:=a.out wb GG;have hj:=g 0;have hk:=g 1;have hm:=g 2;clear g) | (go_at_call 71;refine (oW _ _ X J (s+p+1) _ ((pa.keep0 zQ).mono O) ((pb.keep0 zQ).mono O) (.inl hw) O).mono ?_;rintro e wx ⟨vx,rfl,k,gx⟩;rw [<- EG] at k;obtain ⟨xo,xl,xc,rfl,_,_,_⟩:=k.shape;have d:=ab zQ gx;have GG:W.grownBy wx none:=ab zF gx;(try have pa:=pa.keep0 d);(try have pb:=pb.keep0 d);clear d;obtain ⟨⟨ks,ku,kw⟩,⟨ky,kz,kF⟩,⟨kH,kN,kS⟩,j⟩:=a.out wx GG;have hp:=j 0;have hq:=j 1;have hr:=j 2;clear j))
   all_goals (go_wp2_with fail;go_meet;exact ⟨zF,⟨_,_,_,rfl⟩,(k.keep0 zQ)⟩)
  case rest =>
   clear GG s0 s1 s2 s3 s4 s5;obtain ⟨GG,⟨go,gl,gc,rfl⟩,S7⟩:=hcut.out;clear hcut;obtain ⟨⟨s0,s1,s2⟩,⟨s3,s4,s5⟩,_⟩:=a.out wc GG;go_wp2;go_cut [8,9] (fun s8 s9 wx=>Hid (W.grownBy wx none/\(∃ o l c,s8=.slice o l c)/\(∃ o l c,s9=.slice o l c)/\aT wx s8 Q (s+p+1)/\aT wx s9 Y1 (s+p+1)/\aT wx (.slice go gl gc) G (s+p+1)))
   case first =>
    go_region_held3 (fun w'=>w'.cell? ⟨w.heap.size,0,none⟩=some (.bool q)/\w'.cell? ⟨w.heap.size,1,none⟩=some (.slice y z A)/\w'.cell? ⟨w.heap.size,2,none⟩=some (.slice m F I)/\w'.cell? ⟨w.heap.size+1,0,none⟩=some (.bool r)/\w'.cell? ⟨w.heap.size+1,1,none⟩=some (.slice C D E)/\w'.cell? ⟨w.heap.size+1,2,none⟩=some (.slice K M N)) (go_keep)
     (first | (go_at_call_of 72 (Value.agg #[.bool q,.slice y z A,.slice m F I]);refine (iq _ q S X s _ (HX.keep0 (ab GW zF))).mono ?_;rintro e wa ⟨va,rfl,pa,ga⟩;obtain ⟨ao,al,ac,rfl,_,_,_⟩:=pa.shape;have d:=ab zQ ga;have GG:W.grownBy wa none:=ab zF ga;(try have pb:=pb.keep0 d);(try have k:=k.keep0 d);(try have x:=x.keep0 d);(try have S7:=S7.keep0 d);clear d;obtain ⟨⟨hI,hK,hL⟩,⟨hM,hN,hQ⟩,⟨hR,hS,hT⟩,f⟩:=a.out wa GG;have Y:=f 0;have he:=f 1;have hf:=f 2;clear f) | (go_at_call_of 72 (Value.agg #[.bool r,.slice C D E,.slice K M N]);refine (iq _ r P J p _ (HY.keep0 (ab GW zF))).mono ?_;rintro e wb ⟨vb,rfl,pb,gb⟩;obtain ⟨bo,bl,bc,rfl,_,_,_⟩:=pb.shape;have d:=ab zQ gb;have GG:W.grownBy wb none:=ab zF gb;(try have pa:=pa.keep0 d);(try have k:=k.keep0 d);(try have x:=x.keep0 d);(try have S7:=S7.keep0 d);clear d;obtain ⟨⟨hX,hY,ka⟩,⟨kb,ke,kf⟩,⟨kg,kk,kn⟩,g⟩:=a.out wb GG;have hj:=g 0;have hk:=g 1;have hm:=g 2;clear g) | (go_at_call_of 73 (Value.slice ao al ac);refine (fW _ _ X G (s+p+1) _ ((pa.keep0 zQ).mono O) (S7.keep0 zQ) hG O).mono ?_;rintro e wx ⟨vx,rfl,k,gx⟩;rw [<- js] at k;obtain ⟨xo,xl,xc,rfl,_,_,_⟩:=k.shape;have d:=ab zQ gx;have GG:W.grownBy wx none:=ab zF gx;(try have pa:=pa.keep0 d);(try have pb:=pb.keep0 d);(try have x:=x.keep0 d);(try have S7:=S7.keep0 d);clear d;obtain ⟨⟨ks,ku,kw⟩,⟨ky,kz,kF⟩,⟨kH,kN,kS⟩,j⟩:=a.out wx GG;have hp:=j 0;have hq:=j 1;have hr:=j 2;clear j) | (go_at_call_of 73 (Value.slice bo bl bc);refine (fW _ _ J G (s+p+1) _ ((pb.keep0 zQ).mono O) (S7.keep0 zQ) hG O).mono ?_;rintro e wy ⟨vy,rfl,x,gy⟩;rw [<- jv] at x;obtain ⟨yo,yl,yc,rfl,_,_,_⟩:=x.shape;have d:=ab zQ gy;have GG:W.grownBy wy none:=ab zF gy;(try have pa:=pa.keep0 d);(try have pb:=pb.keep0 d);(try have k:=k.keep0 d);(try have S7:=S7.keep0 d);clear d;obtain ⟨⟨md,ml,mm⟩,⟨mo,mp,ms⟩,⟨mt,Ha,Hb⟩,u⟩:=a.out wy GG;have qf:=u 0;have ql:=u 1;have qo:=u 2;clear u))
    all_goals (go_wp2_with fail;go_meet;exact ⟨zF,⟨_,_,_,rfl⟩,⟨_,_,_,rfl⟩,(k.keep0 zQ),(x.keep0 zQ),(S7.keep0 zQ)⟩)
   case rest =>
    clear GG s0 s1 s2 s3 s4 s5 S7;obtain ⟨GG,⟨ho,Hc,hc,rfl⟩,⟨io,il,ic,rfl⟩,S8,S9,S7⟩:=hcut.out;clear hcut;obtain ⟨⟨s0,s1,s2⟩,⟨s3,s4,s5⟩,_⟩:=a.out wc GG;go_wp2;go_cut [10,11] (fun s10 s11 wx=>Hid (W.grownBy wx none/\s10=.bool B/\(∃ o l c,s11=.slice o l c)/\aT wx s11 T (s+p+2)/\aT wx (.slice go gl gc) G (s+p+1)/\aT wx (.slice ho Hc hc) Q (s+p+1)))
    case first =>
     go_region_held3 (fun w'=>w'.cell? ⟨w.heap.size,0,none⟩=some (.bool q)/\w'.cell? ⟨w.heap.size,1,none⟩=some (.slice y z A)/\w'.cell? ⟨w.heap.size,2,none⟩=some (.slice m F I)/\w'.cell? ⟨w.heap.size+1,0,none⟩=some (.bool r)/\w'.cell? ⟨w.heap.size+1,1,none⟩=some (.slice C D E)/\w'.cell? ⟨w.heap.size+1,2,none⟩=some (.slice K M N)) (go_keep)
      (first | (go_at_call_of 70 (Value.slice y z A);refine (ie _ _ S Y1 s (p+1) _ (NX.keep0 (ab GW zF)) ((S9.keep0 zQ).tight jp) O).mono ?_;rintro e wa ⟨va,rfl,pa,ga,_⟩;obtain ⟨ao,al,ac,rfl,_,_,_⟩:=pa.shape;have d:=ab zQ ga;have GG:W.grownBy wa none:=ab zF ga;(try have pb:=pb.keep0 d);(try have k:=k.keep0 d);(try have S7:=S7.keep0 d);(try have S8:=S8.keep0 d);(try have S9:=S9.keep0 d);clear d;obtain ⟨⟨hI,hK,hL⟩,⟨hM,hN,hQ⟩,⟨hR,hS,hT⟩,f⟩:=a.out wa GG;have Y:=f 0;have he:=f 1;have hf:=f 2;clear f) | (go_at_call_of 70 (Value.slice C D E);refine (ie _ _ P Q p (s+1) _ (NY.keep0 (ab GW zF)) ((S8.keep0 zQ).tight qa) O).mono ?_;rintro e wb ⟨vb,rfl,pb,gb,_⟩;obtain ⟨bo,bl,bc,rfl,_,_,_⟩:=pb.shape;have d:=ab zQ gb;have GG:W.grownBy wb none:=ab zF gb;(try have pa:=pa.keep0 d);(try have k:=k.keep0 d);(try have S7:=S7.keep0 d);(try have S8:=S8.keep0 d);(try have S9:=S9.keep0 d);clear d;obtain ⟨⟨hX,hY,ka⟩,⟨kb,ke,kf⟩,⟨kg,kk,kn⟩,g⟩:=a.out wb GG;have hj:=g 0;have hk:=g 1;have hm:=g 2;clear g) | (go_at_call 149;refine (ED _ _ q r (S*Y1) (s+(p+1)) (P*Q) (p+(s+1)) _ (pa.keep0 zQ) (pb.keep0 zQ) O).mono ?_;rintro e wx ⟨vx,rfl,k,gx⟩;rw [<- ET] at k;rw [<- EB];obtain ⟨xo,xl,xc,rfl,_,_,_⟩:=k.shape;have d:=ab zQ gx;have GG:W.grownBy wx none:=ab zF gx;(try have pa:=pa.keep0 d);(try have pb:=pb.keep0 d);(try have S7:=S7.keep0 d);(try have S8:=S8.keep0 d);(try have S9:=S9.keep0 d);clear d;obtain ⟨⟨ks,ku,kw⟩,⟨ky,kz,kF⟩,⟨kH,kN,kS⟩,j⟩:=a.out wx GG;have hp:=j 0;have hq:=j 1;have hr:=j 2;clear j))
     all_goals (go_wp2_with fail;go_meet;exact ⟨zF,rfl,⟨_,_,_,rfl⟩,(k.keep0 zQ).mono O,(S7.keep0 zQ),(S8.keep0 zQ)⟩)
    case rest =>
     clear GG s0 s1 s2 s3 s4 s5 S7 S8 S9;obtain ⟨GG,rfl,⟨jo,jl,jc,rfl⟩,S11,S7,S8⟩:=hcut.out;clear hcut;obtain ⟨⟨s0,s1,s2⟩,⟨s3,s4,s5⟩,_⟩:=a.out wc GG;go_wp2_with fail;refine (oW _ _ T G (s+p+2) _ S11 (S7.mono O) (.inr hG) O).mono ?_;rintro e yv ⟨v12,rfl,hz,hA⟩;rw [<- EH] at hz;obtain ⟨ko,kl,kc,rfl,_,_,_⟩:=hz.shape;have t:=hz;have hB:=S11.keep0 hA;have qq:=S8.keep0 hA;have qs:W.grownBy yv none:=ab GG hA;clear GG s0 s1 s2 s3 s4 s5 S11 S7 S8 hA hz;have GG:=qs;have S11:=hB;have S8:=qq;clear qs hB qq;obtain ⟨⟨s0,s1,s2⟩,⟨s3,s4,s5⟩,_⟩:=a.out yv GG;go_wp2;go_region_held3 (fun w'=>w'.cell? ⟨w.heap.size,0,none⟩=some (.bool q)/\w'.cell? ⟨w.heap.size,1,none⟩=some (.slice y z A)/\w'.cell? ⟨w.heap.size,2,none⟩=some (.slice m F I)/\w'.cell? ⟨w.heap.size+1,0,none⟩=some (.bool r)/\w'.cell? ⟨w.heap.size+1,1,none⟩=some (.slice C D E)/\w'.cell? ⟨w.heap.size+1,2,none⟩=some (.slice K M N)) (go_keep)
      (first | (go_at_call_of 73 (Value.slice jo jl jc);refine (fW _ _ T H (s+p+2) _ (S11.keep0 zQ) ((t.keep0 zQ).mono O) hH O).mono ?_;rintro e wa ⟨va,rfl,pa,ga⟩;rw [<- EU] at pa;obtain ⟨ao,al,ac,rfl,_,_,_⟩:=pa.shape;have d:=ab zQ ga;have GG:W.grownBy wa none:=ab zF ga;(try have pb:=pb.keep0 d);(try have k:=k.keep0 d);(try have x:=x.keep0 d);(try have S11:=S11.keep0 d);(try have t:=t.keep0 d);(try have S8:=S8.keep0 d);clear d;obtain ⟨⟨hI,hK,hL⟩,⟨hM,hN,hQ⟩,⟨hR,hS,hT⟩,f⟩:=a.out wa GG;have Y:=f 0;have he:=f 1;have hf:=f 2;clear f) | (go_at_call_of 72 (Value.agg #[.bool r,.slice C D E,.slice K M N]);refine (iq _ r P J p _ (HY.keep0 (ab GW zF))).mono ?_;rintro e wb ⟨vb,rfl,pb,gb⟩;obtain ⟨bo,bl,bc,rfl,_,_,_⟩:=pb.shape;have d:=ab zQ gb;have GG:W.grownBy wb none:=ab zF gb;(try have pa:=pa.keep0 d);(try have k:=k.keep0 d);(try have x:=x.keep0 d);(try have S11:=S11.keep0 d);(try have t:=t.keep0 d);(try have S8:=S8.keep0 d);clear d;obtain ⟨⟨hX,hY,ka⟩,⟨kb,ke,kf⟩,⟨kg,kk,kn⟩,g⟩:=a.out wb GG;have hj:=g 0;have hk:=g 1;have hm:=g 2;clear g) | (go_at_call_of 73 (Value.slice bo bl bc);refine (fW _ _ J H (s+p+2) _ ((pb.keep0 zQ).mono O) (t.keep0 zQ) hH O).mono ?_;rintro e wx ⟨vx,rfl,k,gx⟩;rw [<- EV] at k;obtain ⟨xo,xl,xc,rfl,_,_,_⟩:=k.shape;have d:=ab zQ gx;have GG:W.grownBy wx none:=ab zF gx;(try have pa:=pa.keep0 d);(try have pb:=pb.keep0 d);(try have x:=x.keep0 d);(try have S11:=S11.keep0 d);(try have t:=t.keep0 d);(try have S8:=S8.keep0 d);clear d;obtain ⟨⟨ks,ku,kw⟩,⟨ky,kz,kF⟩,⟨kH,kN,kS⟩,j⟩:=a.out wx GG;have hp:=j 0;have hq:=j 1;have hr:=j 2;clear j) | (go_at_call 70;refine (ie _ _ Q V (s+1) (p+1) _ ((S8.keep0 zQ).tight qa) ((k.keep0 zQ).tight hV) O).mono ?_;rintro e wy ⟨vy,rfl,x,gy,_⟩;obtain ⟨yo,yl,yc,rfl,_,_,_⟩:=x.shape;have d:=ab zQ gy;have GG:W.grownBy wy none:=ab zF gy;(try have pa:=pa.keep0 d);(try have pb:=pb.keep0 d);(try have k:=k.keep0 d);(try have S11:=S11.keep0 d);(try have t:=t.keep0 d);(try have S8:=S8.keep0 d);clear d;obtain ⟨⟨md,ml,mm⟩,⟨mo,mp,ms⟩,⟨mt,Ha,Hb⟩,u⟩:=a.out wy GG;have qf:=u 0;have ql:=u 1;have qo:=u 2;clear u) | (go_at_call 69;refine (lx _ _ _ U (Q*V) (s+p+2) _ (pa.keep0 zQ) ((x.keep0 zQ).mono O) hV0 qc).mono ?_;rintro e wf ⟨v6,rfl,f1,f2⟩;obtain ⟨fo,fl,fc,Hd,He,Hf,rfl⟩:=f1.shape;have GG:W.grownBy wf none:=ab zF f2;obtain ⟨⟨g0,g1,g2⟩,⟨g3,g4,g5⟩,⟨g6,g7,g8⟩,gf⟩:=a.out wf GG;have Hj:=gf 0;have Hk:=gf 1;have Hl:=gf 2;clear gf))
     all_goals
      have F1:=aa f1;have ya:=aa GG;clear f1 f2;go_wp2;refine bodyPost_ret (v:=.agg #[.bool (bg B U (Q*V)).1,.slice fo fl fc,.slice Hd He Hf]) (by first | (simp [results,Tryz.results107,go_sem,g6,g7,g8];done) | (simp [results,Tryz.results107,go_sem,g6,g7,g8];rfl)) rfl ?_;exact ⟨_,rfl,F1.other (NW wf ya) bH,ah (ah (ah (ab GW ya) _ _ (by simp;omega)) _ _ (by simp;omega)) _ _ (by simp;omega)⟩
theorem vZ (h o:Option Addr) (j k p q:Nat) (c d:Bool) (f r g s:Nat) (w:World) (F:aT w (.slice h j k) f r) (hy:aT w (.slice o p q) g s) (t:c=true->0<f) (u:d=true->0<g) (hl:r+s<=4000000000000) :
  Calls Tryz.prog 107 #[.agg #[.bool c,.slice h j k,.slice none 0 0],.agg #[.bool d,.slice o p q,.slice none 0 0]] w fun e w'=>gN w (kv c f d g) (iX c f d g) 1 (r+s+2) e w':=by
 have V:=aa F;have X:=aa hy;have Y:=aa (Ax c f d g t u);clear F hy t u;obtain ⟨W,x⟩:=eX (((w.alloc (Obj.cells #[.bool c,.slice h j k,.slice none 0 0] 85)).alloc (Obj.cells #[.bool d,.slice o p q,.slice none 0 0] 85)).alloc (Obj.cells #[.bool false,.slice none 0 0,.slice none 0 0] 85));have A:Hid (w.grownBy W none):=by rw [x];exact ae (ae (ae (ag _ _) _) _) _
 have NW:Hid (∀ wx,W.grownBy wx none->bM wx (w.heap.size+1+1)):=by
  intro wx hg;rw [x] at hg;have:=bu hg;simpa using this
 have a:Hid (∀ wx,W.grownBy wx none->(wx.cell? ⟨w.heap.size,0,none⟩=some (.bool c)/\wx.cell? ⟨w.heap.size,1,none⟩=some (.slice h j k)/\wx.cell? ⟨w.heap.size,2,none⟩=some (.slice none 0 0))/\(wx.cell? ⟨w.heap.size+1,0,none⟩=some (.bool d)/\wx.cell? ⟨w.heap.size+1,1,none⟩=some (.slice o p q)/\wx.cell? ⟨w.heap.size+1,2,none⟩=some (.slice none 0 0))/\(wx.cell? ⟨w.heap.size+1+1,0,none⟩=some (.bool false)/\wx.cell? ⟨w.heap.size+1+1,1,none⟩=some (.slice none 0 0)/\wx.cell? ⟨w.heap.size+1+1,2,none⟩=some (.slice none 0 0))/\∀ i,wx.frozen? ⟨w.heap.size+1+1,i,none⟩=false):=by
  intro wx hg;rw [x] at hg;have G:=aJ (ab (ae (ae (ag _ none) _) _) hg);have H:=aJ (w:=w.alloc (Obj.cells #[.bool c,.slice h j k,.slice none 0 0] 85)) (ab (ae (ag _ none) _) hg);have m:=aV hg;have e3:((w.alloc (Obj.cells #[.bool c,.slice h j k,.slice none 0 0] 85)).alloc (Obj.cells #[.bool d,.slice o p q,.slice none 0 0] 85)).heap.size=w.heap.size+1+1:=Z
  rw [e3] at m;refine ⟨G,by simpa using H,?_,?_⟩
  ·exact ⟨m.1,m.2.1,m.2.2.1⟩
  ·exact m.2.2.2
 obtain ⟨⟨s0,s1,s2⟩,⟨t0,t1,t2⟩,⟨r0,r1,r2⟩,rf⟩:=a.out W (ag _ _);clear rf;have I:¬ w.heap.size+1+1=w.heap.size:=O
 have J:¬ w.heap.size=w.heap.size+1+1:=O
 have K:¬ w.heap.size+1+1=w.heap.size+1:=O
 go_enter Tryz.func107,Tryz.ntmps107
 go_wp2_with fail;rw [<- x];clear x;refine (cP _ _ _ _ _).mono ?_;rintro e w1 ⟨rfl,C⟩;have G1:=aa C;obtain ⟨⟨a0,G,H⟩,⟨m,a4,a5⟩,_⟩:=a.out w1 C;clear C;go_wp2_with fail;refine (cP _ _ _ _ _).mono ?_;rintro e w2 ⟨rfl,M⟩;have y:=aa (ab G1 M);obtain ⟨⟨c0,c1,c2⟩,⟨c3,c4,c5⟩,_⟩:=a.out w2 y;clear M;go_wp2_with fail;refine (ED _ _ c d f r g s _ (V.keep0 (ab A y)) (X.keep0 (ab A y)) O).mono ?_;rintro e D ⟨v3,rfl,E,N⟩;obtain ⟨P,Q,S,rfl,_,_,_⟩:=E.shape;have P1:=aa E;have B:=aa (ab y N);obtain ⟨⟨k0,k1,k2⟩,⟨k3,k4,k5⟩,⟨T,k7,U⟩,z⟩:=a.out D B;have he:=z 0;have hf:=z 1;have hj:=z 2;clear z E N;go_wp2;refine bodyPost_ret (v:=.agg #[.bool (kv c f d g),.slice P Q S,.slice none 0 0]) (by first | (simp [results,Tryz.results107,go_sem,T,k7,U];done) | (simp [results,Tryz.results107,go_sem,T,k7,U];rfl)) rfl ?_;refine ⟨_,rfl,?_,ah (ah (ah (ab A B) _ _ (by simp;omega)) _ _ (by simp;omega)) _ _ (by simp;omega)⟩;have hF:FV D (.agg #[.bool (kv c f d g),.slice P Q S,.slice none 0 0]) (kv c f d g) (iX c f d g) 1 (r+s+2) :=
  ⟨_,_,rfl,P1.mono O,.inl ⟨rfl,rfl⟩,Nat.gcd_one_right _,Y⟩
 exact hF.other (NW D B) bH
theorem yj {b:Bool} (h:b=true->0<n):bg b n 1=(b,n,1):=by
 unfold bg;by_cases a:n=0
 ·subst a;cases b
  ·rfl
  ·exact absurd (h rfl) O
 ·rw [if_neg O,Nat.gcd_one_right,Nat.div_one,Nat.div_one]
theorem mX (x y:Value) (p q:Rat) (a c:Nat) (w:World) (K:FQ w x p a) (hy:FQ w y q c) (i:a+c<=4000000000000) :
  Calls Tryz.prog 107 #[x,y] w fun e w'=>Cm w (p+q) (a+c+2) e w':=by
 have M:=K;have j:=hy;obtain ⟨up,N,rfl,P,o,h3,Q⟩:=K;obtain ⟨T,r,rfl,k1,s,k3,S⟩:=hy;obtain ⟨t,u,z,rfl,_⟩:=P.shape;obtain ⟨A,B,C,rfl,_⟩:=k1.shape;rcases o with ⟨rfl,hd⟩ | ⟨o,hd⟩
 ·rcases s with ⟨rfl,kd⟩ | ⟨s,kd⟩
  ·refine (vZ t A u z B C _ _ _ a _ c w P k1 Q S i).mono ?_;intro e w' h;have f:=yj (Ax (rB p) (rN p) (rB q) (rN q) Q S);refine gN.q (b:=kv (rB p) (rN p) (rB q) (rN q)) (n:=iX (rB p) (rN p) (rB q) (rN q)) (d:=1) ?_ (by rw [f];exact h);rw [Ay,fC,fC,Rat.add_def',hd,kd];simp
  ·obtain ⟨D,g,E,rfl,f,F,G⟩:=s.shape;have k:0<g:=by
    rcases zP g with h | h
    ·have:=f.1 h;omega
    ·exact h
   refine (qA t A none D u z B C 0 0 g E _ _ _ _ a _ _ c w M j i (fun J=>.inr ⟨cP _ _ _ _ J,fun Y=>fO _ _ _ _ _ _ _ Y k F G⟩)).mono ?_;intro e w' h;exact gN.q (Aj p q) h
 ·obtain ⟨H,I,U,rfl,f,F,G⟩:=o.shape;have m:0<I:=by
   rcases zP I with h | h
   ·have:=f.1 h;omega
   ·exact h
  obtain ⟨V,W,X,D,g,E,e⟩:=j.shape;simp only [Value.agg.injEq,Array.mk.injEq,List.cons.injEq,and_true,true_and] at e;obtain ⟨_,rfl⟩:=e;refine (qA t A H D u z B C I U g E _ _ _ _ a _ _ c w M j i (fun J=>.inl (fO _ _ _ _ _ _ _ J m F G))).mono ?_;intro e w' h;exact gN.q (Aj p q) h
theorem DI (q:Rat):oP (rB q) (rN q)=rB (-q)/\rN (-q)=rN q/\(-q).den=q.den:=by
 refine ⟨?_,?_,rfl⟩
 ·unfold oP rB rN;rw [Rat.neg_num];by_cases h:q.num<0
  ·have a:¬ -q.num<0:=O
   simp [h,a];omega
  ·by_cases c:q.num=0
   ·simp [c]
   ·have a:-q.num<0:=O
    simp [h,a,c];omega
 ·unfold rN;rw [Rat.neg_num,Int.natAbs_neg]
theorem qOpp_at (x:Value) (q:Rat) (L:Nat) (w:World) (a:FQ w x q L) :
  Calls Tryz.prog 108 #[x] w fun e w'=>Cm w (-q) L e w':=by
 refine (vP x _ _ _ L w a).mono ?_;rintro e w' ⟨v,rfl,k1,c⟩;refine ⟨v,rfl,?_,c⟩;obtain ⟨d,f,g⟩:=DI q;rw [d] at k1;unfold FQ;rw [f,g];exact k1
theorem bn (x:Value) (q:Rat) (L:Nat) (w:World) (a:FQ w x q L) :
  Calls Tryz.prog 131 #[x] w fun e w'=>e=.returned (.bool (decide (q=0)))/\w.grownBy w' none:=by
 refine (nF x _ _ _ L w a).mono ?_;rintro e w' ⟨rfl,c⟩;refine ⟨?_,c⟩;have:decide (rN q=0)=decide (q=0):=by
  rw [decide_eq_decide];exact ⟨DU,fun h=>by rw [h];rfl⟩
 rw [this]
theorem dD (x y:Value) (p q:Rat) (z h:Nat) (w:World) (J:FQ w x p z) (hy:FQ w y q h) (hl:z+h<=4000000000000) :
  Calls Tryz.prog 67 #[x,y] w fun e w'=>Cm w (p-q) (z+h+2) e w':=by
 have S:=aa J;have T:=aa hy;obtain ⟨k,m,o,c,r,s,rfl⟩:=J.shape;obtain ⟨A,B,C,D,E,F,rfl⟩:=hy.shape;obtain ⟨t,d⟩:=eX (rB p);obtain ⟨G,f⟩:=eX (rB q);rw [<- d,<- f];rw [<- d] at S;rw [<- f] at T;clear J hy d f;obtain ⟨W,u⟩:=eX (((w.alloc (Obj.cells #[.bool t,.slice k m o,.slice c r s] 85)).alloc (Obj.cells #[.bool G,.slice A B C,.slice D E F] 85)).alloc (Obj.cells #[.bool false,.slice none 0 0,.slice none 0 0] 85));have K:Hid (w.grownBy W none):=by rw [u];exact ae (ae (ae (ag _ _) _) _) _
 have NW:Hid (∀ wx,W.grownBy wx none->bM wx (w.heap.size+1+1)):=by
  intro wx hg;rw [u] at hg;have:=bu hg;simpa using this
 have a:Hid (∀ wx,W.grownBy wx none->(wx.cell? ⟨w.heap.size,0,none⟩=some (.bool t)/\wx.cell? ⟨w.heap.size,1,none⟩=some (.slice k m o)/\wx.cell? ⟨w.heap.size,2,none⟩=some (.slice c r s))/\(wx.cell? ⟨w.heap.size+1,0,none⟩=some (.bool G)/\wx.cell? ⟨w.heap.size+1,1,none⟩=some (.slice A B C)/\wx.cell? ⟨w.heap.size+1,2,none⟩=some (.slice D E F))/\(wx.cell? ⟨w.heap.size+1+1,0,none⟩=some (.bool false)/\wx.cell? ⟨w.heap.size+1+1,1,none⟩=some (.slice none 0 0)/\wx.cell? ⟨w.heap.size+1+1,2,none⟩=some (.slice none 0 0))/\∀ i,wx.frozen? ⟨w.heap.size+1+1,i,none⟩=false):=by
  intro wx hg;rw [u] at hg;have U:=aJ (ab (ae (ae (ag _ none) _) _) hg);have V:=aJ (w:=w.alloc (Obj.cells #[.bool t,.slice k m o,.slice c r s] 85)) (ab (ae (ag _ none) _) hg);have g:=aV hg;have e3:((w.alloc (Obj.cells #[.bool t,.slice k m o,.slice c r s] 85)).alloc (Obj.cells #[.bool G,.slice A B C,.slice D E F] 85)).heap.size=w.heap.size+1+1:=Z
  rw [e3] at g;refine ⟨U,by simpa using V,?_,?_⟩
  ·exact ⟨g.1,g.2.1,g.2.2.1⟩
  ·exact g.2.2.2
 obtain ⟨⟨s0,s1,s2⟩,⟨t0,t1,t2⟩,⟨r0,r1,r2⟩,rf⟩:=a.out W (ag _ _);clear rf;have X:¬ w.heap.size+1+1=w.heap.size:=O
 have Y:¬ w.heap.size=w.heap.size+1+1:=O
 have he:¬ w.heap.size+1+1=w.heap.size+1:=O
 go_enter Tryz.func67,Tryz.ntmps67
 go_wp2;rw [<- u];clear u;have GG:W.grownBy W none:=ag _ _;go_region_held3 (fun w'=>w'.cell? ⟨w.heap.size,0,none⟩=some (.bool t)/\w'.cell? ⟨w.heap.size,1,none⟩=some (.slice k m o)/\w'.cell? ⟨w.heap.size,2,none⟩=some (.slice c r s)/\w'.cell? ⟨w.heap.size+1,0,none⟩=some (.bool G)/\w'.cell? ⟨w.heap.size+1,1,none⟩=some (.slice A B C)/\w'.cell? ⟨w.heap.size+1,2,none⟩=some (.slice D E F)) (go_keep)
  (first | (go_at_call 108;refine (qOpp_at _ q h _ (T.keep0 (ab K zF))).mono ?_;rintro e wa ⟨va,rfl,pa,ga⟩;obtain ⟨ao,al,ac,bo,bl,bc,rfl⟩:=pa.shape;have GG:W.grownBy wa none:=ab zF ga;obtain ⟨⟨a0,U,V⟩,⟨g,a4,a5⟩,⟨a6,a7,a8⟩,H⟩:=a.out wa GG;have hf:=H 0;have hj:=H 1;have hk:=H 2;clear H) | (go_at_call 107;refine (mX _ _ p (-q) z h _ (S.keep0 (ab K zF)) (pa.keep0 zQ) O).mono ?_;rintro e M ⟨v6,rfl,f1,f2⟩;obtain ⟨fo,fl,fc,N,P,Q,rfl⟩:=f1.shape;have GG:W.grownBy M none:=ab zF f2;obtain ⟨⟨g0,g1,g2⟩,⟨g3,g4,g5⟩,⟨g6,g7,g8⟩,I⟩:=a.out M GG;have hm:=I 0;have ho:=I 1;have hp:=I 2;clear I))
 all_goals
  have F1:=aa f1;have j:=aa GG;clear f1 f2;go_wp2;refine bodyPost_ret (v:=.agg #[.bool (rB (p + -q)),.slice fo fl fc,.slice N P Q]) (by first | (simp [results,Tryz.results67,go_sem,g6,g7,g8];done) | (simp [results,Tryz.results67,go_sem,g6,g7,g8];rfl)) rfl ?_;rw [Rat.sub_eq_add_neg];exact ⟨_,rfl,FV.other F1 (NW M j) bH,ah (ah (ah (ab K j) _ _ (by simp;omega)) _ _ (by simp;omega)) _ _ (by simp;omega)⟩
theorem fBar_at (x:Value) (neg:Bool) (n d L:Nat) (w:World) (h:FV w x neg n d L) :
  Calls Tryz.prog 132 #[x] w fun e w'=>gN w false d 1 (L+1) e w':=by
 have B:=aa h;obtain ⟨q,r,s,c,t,u,rfl⟩:=h.shape;clear h;obtain ⟨W,f⟩:=eX ((w.alloc (Obj.cells #[.bool neg,.slice q r s,.slice c t u] 85)).alloc (Obj.cells #[.bool false,.slice none 0 0,.slice none 0 0] 85));have m:Hid (w.grownBy W none):=by rw [f];exact ae (ae (ag _ _) _) _
 have a:Hid (∀ wx,W.grownBy wx none->(wx.cell? ⟨w.heap.size+1,0,none⟩=some (.bool false)/\wx.cell? ⟨w.heap.size+1,1,none⟩=some (.slice none 0 0)/\wx.cell? ⟨w.heap.size+1,2,none⟩=some (.slice none 0 0)/\∀ i,wx.frozen? ⟨w.heap.size+1,i,none⟩=false)):=by
  intro wx hg;rw [f] at hg;have o:=aV hg;have C:(w.alloc (Obj.cells #[.bool neg,.slice q r s,.slice c t u] 85)).heap.size=w.heap.size+1:=Z
  rw [C] at o;exact o
 have D:Hid (∀ wx,W.grownBy wx none->bM wx (w.heap.size+1)):=by
  intro wx hg;rw [f] at hg;have:=bu hg;simpa using this
 go_enter Tryz.func132,Tryz.ntmps132
 go_wp2_with fail;rw [<- f];refine (iq _ neg n d L W (B.keep0 m)).mono ?_;rintro e j ⟨v,rfl,k1,k⟩;obtain ⟨y,z,A,rfl,_,_,_⟩:=k1.shape;obtain ⟨J,r1,r2,g⟩:=a.out j k;have E:=g 0;have F:=g 1;have G:=g 2;have H:=aa k1;have p:=aa k;clear g k1 k f;go_wp2;refine bodyPost_ret (v:=.agg #[.bool false,.slice y z A,.slice none 0 0]) (by simp [results,Tryz.results132,go_sem,J,r1,r2]) rfl ?_;refine ⟨_,rfl,?_,ah (ah (ah (ab m p) _ _ Z) _ _ Z) _ _ Z⟩;have I:FV j (.agg #[.bool false,.slice y z A,.slice none 0 0]) false d 1 (L+1):=⟨_,_,rfl,H,.inl ⟨rfl,rfl⟩,Z,Z⟩;exact I.other (D j p) bH
def SizeE (w:World) (L:Nat) (e:Ending) (w':World):Prop:=∃ k:Nat,e=.returned (.int .i64 (k:Nat))/\k<=64*L+64/\w.grownBy w' none
theorem C5 (x:Value) (neg:Bool) (n d L:Nat) (w:World) (p:FV w x neg n d L) (s:L<=10000000000000) :
  Calls Tryz.prog 133 #[x] w fun e w'=>SizeE w L e w':=by
 obtain ⟨f,g,h,a,i,j,rfl⟩:=p.shape;have A:Hid (aT w (.slice f g h) n L):=by
  obtain ⟨up,k,e,u,_⟩:=p;simp only [Value.agg.injEq,Array.mk.injEq,List.cons.injEq,and_true,true_and] at e;rw [e.1];exact u
 have t:Hid (∃ m,aT w (.slice a i j) m L):=by
  obtain ⟨up,k,e,u,o,_⟩:=p;simp only [Value.agg.injEq,Array.mk.injEq,List.cons.injEq,and_true,true_and] at e;rw [e.2];rcases o with ⟨o,_⟩ | ⟨o,_⟩
  ·rw [o];exact ⟨0,[],Ws.nil _,rfl,rfl,Z⟩
  ·exact ⟨_,o⟩
 obtain ⟨m,y⟩:=t.out;have B:=aa y;clear p y t;obtain ⟨W,q⟩:=eX (w.alloc (Obj.cells #[.bool neg,.slice f g h,.slice a i j] 85));have r:Hid (w.grownBy W none):=by rw [q];exact ae (ag _ _) _
 have c:Hid (∀ wx,W.grownBy wx none->wx.cell? ⟨w.heap.size,1,none⟩=some (.slice f g h)/\wx.cell? ⟨w.heap.size,2,none⟩=some (.slice a i j)):=by
  intro wx hg;rw [q] at hg;exact (aJ hg).2
 obtain ⟨s1,s2⟩:=c.out W (ag _ _);go_enter Tryz.func133,Tryz.ntmps133
 go_wp2;rw [<- q];clear q;go_region_held3 (fun w'=>w'.cell? ⟨w.heap.size,1,none⟩=some (.slice f g h)/\w'.cell? ⟨w.heap.size,2,none⟩=some (.slice a i j)) (go_keep)
  (first | (go_at_call_of 112 (Value.slice f g h);refine (mI _ n L _ (A.keep0 (ab r (by first | exact ab Gb (bG _) | exact ab Gb (ar (ag _ _) 1) | exact Gb | exact ab Ga (bG _) | exact ab Ga (ar (ag _ _) 1) | exact Ga | exact bG _ | exact ar (ag _ _) 1 | exact ag _ _))) s).mono ?_;rintro e F ⟨k1,rfl,_,C,rfl⟩) | (go_at_call_of 112 (Value.slice a i j);refine (mI _ m L _ (B.keep0 (ab r (by first | exact ab Gb (bG _) | exact ab Gb (ar (ag _ _) 1) | exact Gb | exact ab Ga (bG _) | exact ab Ga (ar (ag _ _) 1) | exact Ga | exact bG _ | exact ar (ag _ _) 1 | exact ag _ _))) s).mono ?_;rintro e G ⟨D,rfl,_,E,rfl⟩))
 all_goals
  go_wp2;go_ret;exact ⟨k1+D,congrArg (fun z=>Ending.returned (Value.int .i64 z)) (by first | omega | (rw [IntWalk.i64_in _ ⟨O,O⟩];omega)),O,ab r (by first | exact ab Gb (bG _) | exact ab Gb (ar (ag _ _) 1) | exact Gb | exact ab Ga (bG _) | exact ab Ga (ar (ag _ _) 1) | exact Ga | exact bG _ | exact ar (ag _ _) 1 | exact ag _ _)⟩
theorem vY (f o:Option Addr) (g h p q:Nat) (c d:Bool) (j s k t:Nat) (w:World) (F:aT w (.slice f g h) j s) (hy:aT w (.slice o p q) k t) (hl:s+t<=4000000000000) :
  Calls Tryz.prog 130 #[.agg #[.bool c,.slice f g h,.slice none 0 0],.agg #[.bool d,.slice o p q,.slice none 0 0]] w fun e w'=>gN w (bg (c != d) j k).1 (bg (c != d) j k).2.1 (bg (c != d) j k).2.2 (s+t+2) e w':=by
 have U:=aa F;have V:=aa hy;clear F hy;obtain ⟨W,r⟩:=eX (((w.alloc (Obj.cells #[.bool c,.slice f g h,.slice none 0 0] 85)).alloc (Obj.cells #[.bool d,.slice o p q,.slice none 0 0] 85)).alloc (Obj.cells #[.bool false,.slice none 0 0,.slice none 0 0] 85));have y:Hid (w.grownBy W none):=by rw [r];exact ae (ae (ae (ag _ _) _) _) _
 have X:Hid (∀ wx,W.grownBy wx none->bM wx (w.heap.size+1+1)):=by
  intro wx hg;rw [r] at hg;have:=bu hg;simpa using this
 have a:Hid (∀ wx,W.grownBy wx none->(wx.cell? ⟨w.heap.size,0,none⟩=some (.bool c)/\wx.cell? ⟨w.heap.size,1,none⟩=some (.slice f g h)/\wx.cell? ⟨w.heap.size,2,none⟩=some (.slice none 0 0))/\(wx.cell? ⟨w.heap.size+1,0,none⟩=some (.bool d)/\wx.cell? ⟨w.heap.size+1,1,none⟩=some (.slice o p q)/\wx.cell? ⟨w.heap.size+1,2,none⟩=some (.slice none 0 0))/\(wx.cell? ⟨w.heap.size+1+1,0,none⟩=some (.bool false)/\wx.cell? ⟨w.heap.size+1+1,1,none⟩=some (.slice none 0 0)/\wx.cell? ⟨w.heap.size+1+1,2,none⟩=some (.slice none 0 0))/\∀ i,wx.frozen? ⟨w.heap.size+1+1,i,none⟩=false):=by
  intro wx hg;rw [r] at hg;have G:=aJ (ab (ae (ae (ag _ none) _) _) hg);have H:=aJ (w:=w.alloc (Obj.cells #[.bool c,.slice f g h,.slice none 0 0] 85)) (ab (ae (ag _ none) _) hg);have m:=aV hg;have Y:((w.alloc (Obj.cells #[.bool c,.slice f g h,.slice none 0 0] 85)).alloc (Obj.cells #[.bool d,.slice o p q,.slice none 0 0] 85)).heap.size=w.heap.size+1+1:=Z
  rw [Y] at m;refine ⟨G,by simpa using H,?_,?_⟩
  ·exact ⟨m.1,m.2.1,m.2.2.1⟩
  ·exact m.2.2.2
 obtain ⟨⟨s0,s1,s2⟩,⟨t0,t1,t2⟩,⟨r0,r1,r2⟩,rf⟩:=a.out W (ag _ _);clear rf;have I:¬ w.heap.size+1+1=w.heap.size:=O
 have J:¬ w.heap.size=w.heap.size+1+1:=O
 have K:¬ w.heap.size+1+1=w.heap.size+1:=O
 go_enter Tryz.func130,Tryz.ntmps130
 go_wp2_with fail;rw [<- r];clear r;refine (cP _ _ _ _ _).mono ?_;rintro e w1 ⟨rfl,A⟩;have G1:=aa A;obtain ⟨⟨a0,G,H⟩,⟨m,a4,a5⟩,_⟩:=a.out w1 A;clear A;go_wp2_with fail;refine (cP _ _ _ _ _).mono ?_;rintro e w2 ⟨rfl,M⟩;have u:=aa (ab G1 M);obtain ⟨⟨c0,c1,c2⟩,⟨c3,c4,c5⟩,_⟩:=a.out w2 u;clear M;go_wp2_with fail;refine (nI _ _ _ j k (s+t+2) _ ((U.keep0 (ab y u)).mono O) ((V.keep0 (ab y u)).mono O) O).mono ?_;rintro e N ⟨v3,rfl,B,P⟩;obtain ⟨fo,fl,fc,C,D,E,rfl⟩:=B.shape;have P1:=aa B;have z:=aa (ab u P);obtain ⟨⟨k0,k1,k2⟩,⟨k3,k4,k5⟩,⟨Q,S,T⟩,x⟩:=a.out N z;have he:=x 0;have hf:=x 1;have hj:=x 2;clear x B P;go_wp2;refine bodyPost_ret (v:=.agg #[.bool (bg (c != d) j k).1,.slice fo fl fc,.slice C D E]) (by first | (simp [results,Tryz.results130,go_sem,Q,S,T];done) | (simp [results,Tryz.results130,go_sem,Q,S,T];rfl)) rfl ?_;exact ⟨_,rfl,P1.other (X N z) bH,ah (ah (ah (ab y z) _ _ (by simp;omega)) _ _ (by simp;omega)) _ _ (by simp;omega)⟩
theorem qz (k m c y:Option Addr) (o p q r s t z A:Nat) (f d:Bool) (E F Q g j B:Nat) (w:World) (hx:FV w (.agg #[.bool f,.slice k o p,.slice c s t]) f E F Q) (hy:FV w (.agg #[.bool d,.slice m q r,.slice y z A]) d g j B) (hn:0<g) (hl:Q+B<=4000000000000)
  (hwh:∀ wx:World,(Calls Tryz.prog 68 #[.agg #[.bool f,.slice k o p,.slice c s t]] wx fun e w'=>e=.returned (.bool false)/\wx.grownBy w' none)∨((Calls Tryz.prog 68 #[.agg #[.bool f,.slice k o p,.slice c s t]] wx fun e w'=>e=.returned (.bool true)/\wx.grownBy w' none)/\∀ wx:World,Calls Tryz.prog 68 #[.agg #[.bool d,.slice m q r,.slice y z A]] wx fun e w'=>e=.returned (.bool false)/\wx.grownBy w' none)) :
  Calls Tryz.prog 130 #[.agg #[.bool f,.slice k o p,.slice c s t],.agg #[.bool d,.slice m q r,.slice y z A]] w fun e w'=>gN w (bg (f != d) (E*j) (F*g)).1 (bg (f != d) (E*j) (F*g)).2.1 (bg (f != d) (E*j) (F*g)).2.2 (Q+B+2) e w':=by
 have HX:=aa hx;have HY:=aa hy;have T:=hy.down_le.1;have D:=hy.cop;have NY:Hid (aT w (.slice m q r) g B):=by
  obtain ⟨up,hw,e,h1,_⟩:=hy;simp only [Value.agg.injEq,Array.mk.injEq,List.cons.injEq,and_true,true_and] at e;rw [e.1];exact h1
 clear hx hy;have U:Hid (bg d j g=(d,j,g)):=by show _=_;exact oz d j g T hn (by rw [Nat.gcd_comm];exact D)
 have H:Hid (j=0∨Nat.gcd j g=1):=.inr (by rw [Nat.gcd_comm];exact D);have I:decide (g=0)=false:=decide_eq_false O;have V:=aa I;clear D I;obtain ⟨W,P⟩:=eX (((w.alloc (Obj.cells #[.bool f,.slice k o p,.slice c s t] 85)).alloc (Obj.cells #[.bool d,.slice m q r,.slice y z A] 85)).alloc (Obj.cells #[.bool false,.slice none 0 0,.slice none 0 0] 85));have J:Hid (w.grownBy W none):=by rw [P];exact ae (ae (ae (ag _ _) _) _) _
 have NW:Hid (∀ wx,W.grownBy wx none->bM wx (w.heap.size+1+1)):=by
  intro wx hg;rw [P] at hg;have:=bu hg;simpa using this
 have a:Hid (∀ wx,W.grownBy wx none->(wx.cell? ⟨w.heap.size,0,none⟩=some (.bool f)/\wx.cell? ⟨w.heap.size,1,none⟩=some (.slice k o p)/\wx.cell? ⟨w.heap.size,2,none⟩=some (.slice c s t))/\(wx.cell? ⟨w.heap.size+1,0,none⟩=some (.bool d)/\wx.cell? ⟨w.heap.size+1,1,none⟩=some (.slice m q r)/\wx.cell? ⟨w.heap.size+1,2,none⟩=some (.slice y z A))/\(wx.cell? ⟨w.heap.size+1+1,0,none⟩=some (.bool false)/\wx.cell? ⟨w.heap.size+1+1,1,none⟩=some (.slice none 0 0)/\wx.cell? ⟨w.heap.size+1+1,2,none⟩=some (.slice none 0 0))/\∀ i,wx.frozen? ⟨w.heap.size+1+1,i,none⟩=false):=by
  intro wx hg;rw [P] at hg;have a1:=aJ (ab (ae (ae (ag _ none) _) _) hg);have a2:=aJ (w:=w.alloc (Obj.cells #[.bool f,.slice k o p,.slice c s t] 85)) (ab (ae (ag _ none) _) hg);have G:=aV hg;have e3:((w.alloc (Obj.cells #[.bool f,.slice k o p,.slice c s t] 85)).alloc (Obj.cells #[.bool d,.slice m q r,.slice y z A] 85)).heap.size=w.heap.size+1+1:=Z
  rw [e3] at G;refine ⟨a1,by simpa using a2,?_,?_⟩
  ·exact ⟨G.1,G.2.1,G.2.2.1⟩
  ·exact G.2.2.2
 obtain ⟨⟨s0,s1,s2⟩,⟨t0,t1,t2⟩,⟨r0,r1,r2⟩,rf⟩:=a.out W (ag _ _);clear rf;have hk:¬ w.heap.size+1+1=w.heap.size:=O
 have hm:¬ w.heap.size=w.heap.size+1+1:=O
 have ho:¬ w.heap.size+1+1=w.heap.size+1:=O
 have X:=aa hwh;clear hwh;go_enter Tryz.func130,Tryz.ntmps130
 go_upto_region 1 with fail;rw [<- P];clear P;go_cut [10] (fun s10 wx=>Hid (s10=.bool false/\W.grownBy wx none))
 case first =>
  go_wp2_with fail;rcases X.out W with h | ⟨h,h2⟩
  ·refine h.mono ?_;rintro e w1 ⟨rfl,C⟩;go_wp2_with fail;go_meet
   exact ⟨rfl,C⟩
  ·refine h.mono ?_;rintro e w1 ⟨rfl,C⟩;obtain ⟨⟨a0,a1,a2⟩,⟨G,a4,a5⟩,_⟩:=a.out w1 C;go_wp2_with fail;refine (h2 _).mono ?_;rintro e w2 ⟨rfl,g2⟩;go_wp2_with fail;go_meet
   exact ⟨rfl,ab C g2⟩
 case rest =>
  obtain ⟨rfl,GG⟩:=hcut.out;clear hcut s0 s1 s2 t0 t1 t2 r0 r1 r2;obtain ⟨⟨s0,s1,s2⟩,⟨s3,s4,s5⟩,_⟩:=a.out wc GG;go_wp2_with fail;refine (nF _ d g j B _ (HY.keep0 (ab J GG))).mono ?_;rintro e w1 ⟨rfl,C⟩;rw [V];have K:W.grownBy w1 none:=ab GG C;clear GG s0 s1 s2 s3 s4 s5 C;have GG:=K;clear K;obtain ⟨⟨s0,s1,s2⟩,⟨s3,s4,s5⟩,_⟩:=a.out w1 GG;go_wp2;go_region_held3 (fun w'=>w'.cell? ⟨w.heap.size,0,none⟩=some (.bool f)/\w'.cell? ⟨w.heap.size,1,none⟩=some (.slice k o p)/\w'.cell? ⟨w.heap.size,2,none⟩=some (.slice c s t)/\w'.cell? ⟨w.heap.size+1,0,none⟩=some (.bool d)/\w'.cell? ⟨w.heap.size+1,1,none⟩=some (.slice m q r)/\w'.cell? ⟨w.heap.size+1,2,none⟩=some (.slice y z A)) (go_keep)
   (first | (go_at_call_of 72 (Value.agg #[.bool d,.slice m q r,.slice y z A]);refine (iq _ _ _ _ B _ (HY.keep0 (ab J zF))).mono ?_;rintro e wa ⟨va,rfl,pa,ga⟩;obtain ⟨ao,al,ac,rfl,_,_,_⟩:=pa.shape;have KP:=ab zQ ga;have GG:W.grownBy wa none:=ab zF ga;(try have M:=M.keep0 KP);clear KP;obtain ⟨⟨hC,hD,hE⟩,⟨hF,hG,hH⟩,⟨hI,hK,hL⟩,u⟩:=a.out wa GG;have hp:=u 0;have hq:=u 1;have hr:=u 2;clear u) | (go_at_call 69;refine (lx _ _ _ j g (B+1) _ (pa.keep0 zQ) ((NY.keep0 (ab J zF)).mono O) hn H).mono ?_;rintro e wx ⟨vx,rfl,M,gx⟩;rw [U] at M;obtain ⟨xo,xl,xc,yo,yl,yc,rfl⟩:=M.shape;have GG:W.grownBy wx none:=ab zF gx;obtain ⟨⟨hM,hN,hQ⟩,⟨hR,hS,hT⟩,⟨hX,hY,ka⟩,x⟩:=a.out wx GG;have hs:=x 0;have hu:=x 1;have hv:=x 2;clear x) | (go_at_call 38;refine (rO _ _ f d E F Q j g (B+1) _ (HX.keep0 (ab J zF)) (M.keep0 zQ) O).mono ?_;rintro e Y ⟨v6,rfl,f1,f2⟩;obtain ⟨fo,fl,fc,he,hf,hj,rfl⟩:=f1.shape;have GG:W.grownBy Y none:=ab zF f2;obtain ⟨⟨g0,C,g2⟩,⟨g3,g4,g5⟩,⟨g6,g7,g8⟩,S⟩:=a.out Y GG;have hz:=S 0;have hA:=S 1;have hB:=S 2;clear S))
  all_goals
   have F1:=aa f1;have N:=aa GG;clear f1 f2;go_wp2;refine bodyPost_ret (v:=.agg #[.bool (bg (f != d) (E*j) (F*g)).1,.slice fo fl fc,.slice he hf hj]) (by first | (simp [results,Tryz.results130,go_sem,g6,g7,g8];done) | (simp [results,Tryz.results130,go_sem,g6,g7,g8];rfl)) rfl ?_;exact ⟨_,rfl,F1.other (NW Y N) bH,ah (ah (ah (ab J N) _ _ (by simp;omega)) _ _ (by simp;omega)) _ _ (by simp;omega)⟩
theorem qy (x y:Value) (p q:Rat) (c d:Nat) (w:World) (K:FQ w x p c) (hy:FQ w y q d) (Q:q≠0) (g:c+d<=4000000000000) :
  Calls Tryz.prog 130 #[x,y] w fun e w'=>Cm w (p / q) (c+d+2) e w':=by
 have M:=K;have i:=hy;have hn:0<rN q:=by have:=q_ne Q;omega
 have a:mkRat (fY (rB p != rB q) (rN p*q.den)) (p.den*rN q)=p / q:=by rw [Nat.mul_comm p.den];exact DT p q
 obtain ⟨up,N,rfl,P,m,Y,h4⟩:=K;obtain ⟨S,o,rfl,k1,r,k3,k4⟩:=hy;obtain ⟨s,t,u,rfl,_⟩:=P.shape;obtain ⟨z,A,B,rfl,_⟩:=k1.shape;rcases m with ⟨rfl,hd⟩ | ⟨m,hd⟩
 ·rcases r with ⟨rfl,kd⟩ | ⟨r,kd⟩
  ·refine (vY s z t u A B _ _ _ c _ d w P k1 g).mono ?_;intro e w' h;rw [hd,kd,Nat.mul_one,Nat.one_mul] at a;exact gN.q a h
  ·obtain ⟨C,f,D,rfl,E,F,G⟩:=r.shape;have j:0<f:=by
    rcases zP f with h | h
    ·have:=E.1 h;omega
    ·exact h
   refine (qz s z none C t u A B 0 0 f D _ _ _ _ c _ _ d w M i hn g (fun J=>.inr ⟨cP _ _ _ _ J,fun X=>fO _ _ _ _ _ _ _ X j F G⟩)).mono ?_;intro e w' h;exact gN.q a h
 ·obtain ⟨H,I,T,rfl,E,F,G⟩:=m.shape;have k:0<I:=by
   rcases zP I with h | h
   ·have:=E.1 h;omega
   ·exact h
  obtain ⟨U,V,W,C,f,D,e⟩:=i.shape;simp only [Value.agg.injEq,Array.mk.injEq,List.cons.injEq,and_true,true_and] at e;obtain ⟨_,rfl⟩:=e;refine (qz s z H C t u A B I T f D _ _ _ _ c _ _ d w M i hn g (fun J=>.inl (fO _ _ _ _ _ _ _ J k F G))).mono ?_;intro e w' h;exact gN.q a h
theorem qBar_at (x:Value) (q:Rat) (L:Nat) (w:World) (a:FQ w x q L) :
  Calls Tryz.prog 132 #[x] w fun e w'=>Cm w ((q.den:Nat):Rat) (L+1) e w':=by
 refine (fBar_at x _ _ _ L w a).mono ?_;rintro e w' ⟨v,rfl,k1,g⟩;refine ⟨v,rfl,?_,g⟩;have c:rB ((q.den:Nat):Rat)=false:=by unfold rB;rw [Rat.num_natCast];exact decide_eq_false O
 have d:rN ((q.den:Nat):Rat)=q.den:=by unfold rN;rw [Rat.num_natCast];exact Int.natAbs_natCast _
 have f:((q.den:Nat):Rat).den=1:=Rat.den_natCast _;unfold FQ;rw [c,d,f];exact k1
def aN (w w':World):Prop:=w.heap.size<=w'.heap.size/\∀ a (x:Nat),w.cell? a=some (.int .u32 (x:Nat))->w'.cell? a=some (.int .u32 (x:Nat))
theorem aN.refl (w:World):aN w w:=⟨zL,fun _ _ h=>h⟩
theorem aN.trans {w1 c:World} (h:aN w w1) (k:aN w1 c):aN w c:=⟨Nat.le_trans h.1 k.1,fun a x e=>k.2 a x (h.2 a x e)⟩
theorem cJ {a:Addr} (h:w.cell? a=some v):a.block<w.heap.size:=by
 rcases Nat.lt_or_ge a.block w.heap.size with c | c
 ·exact c
 ·simp [World.cell?,Array.getElem?_eq_none c] at h
theorem aN.of_gr (h:w.grownBy w' none):aN w w' :=
 ⟨h.size,fun a x e=>by rw [World.cell?_of_block (h.block a.block (cJ e) Z)];exact e⟩
theorem aT.kept (h:aT w v n L) (k:aN w w'):aT w' v n L:=by
 obtain ⟨xs,a,c,d,e⟩:=h;refine ⟨xs,⟨a.sm,?_⟩,c,d,e⟩;rcases a.sh with h | ⟨b,off,cap,rfl,hb,f,g,hc⟩
 ·exact .inl h
 ·exact .inr ⟨b,off,cap,rfl,Nat.lt_of_lt_of_le hb k.1,f,g,fun i hi=>k.2 _ _ (hc i hi)⟩
theorem FV.kept {neg:Bool} {d:Nat} (h:FV w v neg n d L) (k:aN w w'):FV w' v neg n d L:=by
 obtain ⟨up,a,e,f,c,g,i⟩:=h;refine ⟨up,a,e,f.kept k,?_,g,i⟩;rcases c with c | ⟨c,j⟩
 ·exact .inl c
 ·exact .inr ⟨c.kept k,j⟩
theorem FQ.kept {q:Rat} (h:FQ w v q L) (k:aN w w'):FQ w' v q L:=FV.kept h k
theorem aN.set {i:Nat} {e:TypeId} (hb:w.heap[b]? = some (.cells cur e (0,0))) (hi:∀ x:Nat,cur[i]?≠some (.int .u32 (x:Nat))) (v:Value):aN w (w.setCell ⟨b,i,none⟩ v):=by
 refine ⟨Z,?_⟩;rintro ⟨d,m,f⟩ x h;by_cases a:d=b
 ·subst a;have j:=heap_setCell_same w d i cur e v hb;by_cases c:m=i
  ·subst c;cases f with
   | none =>
    simp only [World.cell?,hb] at h;exact absurd h (hi x)
   | some g=>simp [World.cell?,hb] at h
  ·cases f with
   | none =>
    simp only [World.cell?,hb] at h;simp only [World.cell?,j];rw [Array.getElem?_setIfInBounds_ne (fun e=>c e.symm)];exact h
   | some g=>simp [World.cell?,hb] at h
 ·have k:=heap_setCell_other w ⟨b,i,none⟩ d v a;rw [World.cell?_of_block k];exact h
def bh (L:Nat) (q:Rat):Prop:=rN q<4294967296^L/\q.den<4294967296^L
theorem FQ.tight {q:Rat} {L':Nat} (h:FQ w v q L) (k:bh L' q):FQ w v q L':=by
 obtain ⟨up,a,e,d,c,f,g⟩:=h;refine ⟨up,a,e,d.tight k.1,?_,f,g⟩;rcases c with c | ⟨c,i⟩
 ·exact .inl c
 ·exact .inr ⟨c.tight k.2,i⟩
def aI (w:World) (b n:Nat) (R:Nat->Rat) (L:Nat):Prop :=
 ∃ cur e,w.heap[b]? = some (.cells cur e (0,0))/\∀ i,i<n->∃ u d,cur[i*3]? = some (.bool (rB (R i)))/\cur[i*3+1]? = some u/\cur[i*3+2]? = some d/\FQ w (.agg #[.bool (rB (R i)),u,d]) (R i) L
theorem aI.lt (h:aI w b n R L):b<w.heap.size:=by
 obtain ⟨cur,e,hb,_⟩:=h;exact (zZ hb).1
theorem aI.keep {r:Option Nat} (h:aI w b n R L) (g:w.grownBy w' r) (k:aN w w') (a:some b≠r):aI w' b n R L:=by
 have c:=h.lt;obtain ⟨cur,e,hb,hc⟩:=h;refine ⟨cur,e,by rw [g.block b c a];exact hb,fun i hi=>?_⟩;obtain ⟨u,d,c0,c1,c2,c3⟩:=hc i hi;exact ⟨u,d,c0,c1,c2,c3.kept k⟩
theorem aI.keep0 (h:aI w b n R L) (g:w.grownBy w' none):aI w' b n R L:=h.keep g (aN.of_gr g) Z
theorem aI.congr {R':Nat->Rat} (h:aI w b n R L) (e:∀ i,i<n->R i=R' i):aI w b n R' L:=by
 obtain ⟨cur,a,hb,hc⟩:=h;refine ⟨cur,a,hb,fun i hi=>?_⟩;rw [<- e i hi];exact hc i hi
theorem aI.at (h:aI w b n R L) (i:Nat) (hi:i<n) :
  ∃ uo ul uc do_ dl dc,w.cell? ⟨b,i*3,none⟩=some (.bool (rB (R i)))/\w.cell? ⟨b,i*3+1,none⟩=some (.slice uo ul uc)/\w.cell? ⟨b,i*3+2,none⟩=some (.slice do_ dl dc)
   /\ FQ w (.agg #[.bool (rB (R i)),.slice uo ul uc,.slice do_ dl dc]) (R i) L/\∀ k,w.frozen? ⟨b,k,none⟩=false:=by
 obtain ⟨cur,e,hb,hc⟩:=h;obtain ⟨u,d,c0,c1,c2,c3⟩:=hc i hi;obtain ⟨uo,ul,uc,do_,dl,dc,a⟩:=c3.shape;simp only [Value.agg.injEq,Array.mk.injEq,List.cons.injEq,and_true,true_and] at a;obtain ⟨rfl,rfl⟩:=a;exact ⟨uo,ul,uc,do_,dl,dc,by simp only [World.cell?,hb];exact c0,by simp only [World.cell?,hb];exact c1,by simp only [World.cell?,hb];exact c2,c3,fun k=>by simp [World.frozen?,hb]⟩
def aQ (R:Nat->Rat) (i:Nat) (q:Rat):Nat->Rat:=fun j=>if j=i then q else R j
theorem set3 {k:Nat} {e:TypeId} (hb:w.heap[b]? = some (.cells cur e (0,0))) {a c d:Value} (c0:cur[k]? = some a) (c1:cur[k+1]? = some c) (c2:cur[k+2]? = some d)
  (n0:∀ x:Nat,a≠.int .u32 (x:Nat)) (n1:∀ x:Nat,c≠.int .u32 (x:Nat)) (n2:∀ x:Nat,d≠.int .u32 (x:Nat)) (y0 y1 y2:Value) :
  ∃ cur',(((w.setCell ⟨b,k,none⟩ y0).setCell ⟨b,k+1,none⟩ y1).setCell ⟨b,k+2,none⟩ y2).heap[b]? = some (.cells cur' e (0,0))
   /\ cur'[k]? = some y0/\cur'[k+1]? = some y1/\cur'[k+2]? = some y2/\(∀ j,j≠k->j≠k+1->j≠k+2->cur'[j]? = cur[j]?)
   /\ aN w (((w.setCell ⟨b,k,none⟩ y0).setCell ⟨b,k+1,none⟩ y1).setCell ⟨b,k+2,none⟩ y2):=by
 have h:=(zZ c0).1;have m:=(zZ c1).1;have o:=(zZ c2).1;have f:=heap_setCell_same w b k cur e y0 hb;have g:=heap_setCell_same (w.setCell ⟨b,k,none⟩ y0) b (k+1) (cur.setIfInBounds k y0) e y1 f;have p:=heap_setCell_same ((w.setCell ⟨b,k,none⟩ y0).setCell ⟨b,k+1,none⟩ y1) b (k+2) ((cur.setIfInBounds k y0).setIfInBounds (k+1) y1) e y2 g;have k1:aN w (w.setCell ⟨b,k,none⟩ y0):=aN.set hb (fun x e=>by rw [c0] at e;exact n0 x (zJ e)) y0;have q:=aN.set f (i:=k+1) (fun x e=>by rw [Array.getElem?_setIfInBounds_ne O,c1] at e;exact n1 x (zJ e)) y1;have r:=aN.set g (i:=k+2) (fun x e=>by rw [Array.getElem?_setIfInBounds_ne O,Array.getElem?_setIfInBounds_ne O,c2] at e;exact n2 x (zJ e)) y2;refine ⟨((cur.setIfInBounds k y0).setIfInBounds (k+1) y1).setIfInBounds (k+2) y2,p,?_,?_,?_,?_,(k1.trans q).trans r⟩
 ·rw [Array.getElem?_setIfInBounds_ne O,Array.getElem?_setIfInBounds_ne O,Array.getElem?_setIfInBounds_self_of_lt h]
 ·rw [Array.getElem?_setIfInBounds_ne O,Array.getElem?_setIfInBounds_self_of_lt (by simpa using m)]
 ·rw [Array.getElem?_setIfInBounds_self_of_lt (by simpa using o)]
 ·intro j s t u;rw [Array.getElem?_setIfInBounds_ne O,Array.getElem?_setIfInBounds_ne O,Array.getElem?_setIfInBounds_ne O]
theorem aI.set (h:aI w b n R L) (i:Nat) (hi:i<n) {q:Rat} {c a:Option Addr} {f g m o:Nat} (E:FQ w (.agg #[.bool (rB q),.slice c f g,.slice a m o]) q L) :
  aI (((w.setCell ⟨b,i*3,none⟩ (.bool (rB q))).setCell ⟨b,i*3+1,none⟩ (.slice c f g)).setCell ⟨b,i*3+2,none⟩ (.slice a m o)) b n (aQ R i q) L
  /\ w.grownBy (((w.setCell ⟨b,i*3,none⟩ (.bool (rB q))).setCell ⟨b,i*3+1,none⟩ (.slice c f g)).setCell ⟨b,i*3+2,none⟩ (.slice a m o)) (some b)
  /\ aN w (((w.setCell ⟨b,i*3,none⟩ (.bool (rB q))).setCell ⟨b,i*3+1,none⟩ (.slice c f g)).setCell ⟨b,i*3+2,none⟩ (.slice a m o)):=by
 have hg:w.grownBy (((w.setCell ⟨b,i*3,none⟩ (.bool (rB q))).setCell ⟨b,i*3+1,none⟩ (.slice c f g)).setCell ⟨b,i*3+2,none⟩ (.slice a m o)) (some b) :=
  ⟨rfl,rfl,rfl,Z,fun k _ V=>by
   have t:k≠b:=fun e=>V (by rw [e])
   rw [heap_setCell_other _ _ k _ t,heap_setCell_other _ _ k _ t,heap_setCell_other _ _ k _ t]⟩
 obtain ⟨cur,e,hb,hc⟩:=h;obtain ⟨u0,X,c0,c1,c2,c3⟩:=hc i hi;obtain ⟨F,G,H,I,J,K,C⟩:=c3.shape;simp only [Value.agg.injEq,Array.mk.injEq,List.cons.injEq,and_true,true_and] at C;obtain ⟨z,A⟩:=C;obtain ⟨r,D,M,N,P,B,s⟩:=set3 hb c0 c1 c2 (fun x e=>by simp at e) (fun x e=>by rw [z] at e;simp at e) (fun x e=>by rw [A] at e;simp at e) (.bool (rB q)) (.slice c f g) (.slice a m o);generalize (((w.setCell ⟨b,i*3,none⟩ (.bool (rB q))).setCell ⟨b,i*3+1,none⟩ (.slice c f g)).setCell ⟨b,i*3+2,none⟩ (.slice a m o))=w3 at hg D s;refine ⟨⟨r,e,D,fun j W=>?_⟩,hg,s⟩;by_cases p:j=i
 ·have y:aQ R i q j=q:=by unfold aQ;rw [if_pos p]
  rw [y,p];exact ⟨.slice c f g,.slice a m o,M,N,P,E.kept s⟩
 ·obtain ⟨u,d,Q,S,T,U⟩:=hc j W;have y:aQ R i q j=R j:=by unfold aQ;rw [if_neg p]
  rw [y];exact ⟨u,d,by rw [B _ O O O];exact Q,by rw [B _ O O O];exact S,by rw [B _ O O O];exact T,U.kept s⟩
abbrev kq (b:Bool) (u d:Value):Value:=.agg #[.bool b,u,d,.func (.func 129) #[] #[],.func (.func 107) #[] #[],.func (.func 67) #[] #[],.func (.func 38) #[] #[],.func (.func 130) #[] #[],.func (.func 131) #[] #[],.func (.func 132) #[] #[],.func (.func 133) #[] #[]]
theorem FQ.parts {u d:Value} {q:Rat} (h:FQ w (.agg #[.bool (rB q),u,d]) q L):aT w u (rN q) L/\((d=.slice none 0 0/\q.den=1)∨(aT w d q.den L/\1<q.den)):=by
 obtain ⟨up,a,e,c,f,_⟩:=h;simp only [Value.agg.injEq,Array.mk.injEq,List.cons.injEq,and_true,true_and] at e;obtain ⟨rfl,rfl⟩:=e;exact ⟨c,f⟩
theorem nC (a:L<=100000000000) (h:n<4294967296^L):(Lib.decDigits n).length<=1000000000001:=by
 rw [Lib.decDigits_length];rcases zP L with e | e
 ·subst e;have:n=0:=by simpa using h
  subst this;rw [Lib.nDigits_small zD];omega
 ·have:Lib.nDigits n<=10*L:=by
   refine mr O (Nat.lt_of_lt_of_le h ?_);rw [Nat.pow_mul];exact Nat.pow_le_pow_left zD L
  omega
theorem zt (x:Value) (q:Rat) (L:Nat) (w:World) (G:FQ w x q L) (u:L<=100000000000) (Q:fh w) :
  Calls Tryz.prog 39 #[x] w fun e w'=>e=.returned (.string ⟨(bZ q).toArray⟩)/\w.grownBy w' none:=by
 obtain ⟨T,U,V,m,g,D,rfl⟩:=G.shape;obtain ⟨K,hd⟩:=G.parts;have Y:=aa K;have S:=aa hd;have H:=aa Q;obtain ⟨W,E⟩:=eX (w.alloc (Obj.cells #[.bool (rB q),.slice T U V,.slice m g D] 85));have k:Hid (w.grownBy W none):=by rw [E];exact ae (ag _ _) _
 have i:Hid (∀ wx,W.grownBy wx none->wx.cell? ⟨w.heap.size,0,none⟩=some (.bool (rB q))/\wx.cell? ⟨w.heap.size,1,none⟩=some (.slice T U V)/\wx.cell? ⟨w.heap.size,2,none⟩=some (.slice m g D)):=by
  intro wx hg;rw [E] at hg;exact aJ hg
 obtain ⟨s0,s1,s2⟩:=i.out W (ag _ _);have z:=nC u (lD K);obtain ⟨F,t⟩:=eX (Lib.decDigits (rN q));have j:=aa t;rw [<- t] at z;have d:Hid (g=0↔q.den=1):=by
  rcases hd with ⟨e,y⟩ | ⟨y,h2⟩
  ·simp only [Value.slice.injEq] at e;exact ⟨fun _=>y,fun _=>e.2.1⟩
  ·obtain ⟨o,l,c,e,hl,_⟩:=y.shape;simp only [Value.slice.injEq] at e;obtain ⟨rfl,rfl,rfl⟩:=e;exact ⟨fun e=>by have:=hl.1 e;omega,fun e=>O⟩
 have he:g<=9223372036854775807:=by
  rcases hd with ⟨e,y⟩ | ⟨y,h2⟩
  ·simp only [Value.slice.injEq] at e;omega
  ·obtain ⟨o,l,c,e,_,z,hl2⟩:=y.shape;simp only [Value.slice.injEq] at e;obtain ⟨rfl,rfl,rfl⟩:=e;unfold maxLen at hl2;omega
 clear G K hd Q t;go_enter Tryz.func39,Tryz.ntmps39
 go_wp2_with fail;rw [<- E];refine (ud _ _ L W (Y.keep0 k) u (H.keep0 k)).mono ?_;rintro e M ⟨rfl,N⟩;rw [<- j];obtain ⟨X,a1,a2⟩:=i.out M N;have p:=aa N;clear s0 s1 s2 N E;by_cases hb:rB q=true
 ·rw [hb] at X;have A:=aa hb;clear hb;by_cases a:q.den=1
  ·obtain rfl:g=0:=d.out.2 a;have r:Hid (bZ q=[45]++F):=by
    show _=_
    rw [bZ,A,if_pos a,j];simp
   clear d;go_wp2;go_ret;rw [r];exact ⟨rfl,ab k p⟩
  ·have I:0<g:=by
    rcases zP g with e | e
    ·exact absurd (d.1 e) a
    ·exact e
   have B:Hid (aT w (.slice m g D) q.den L):=by
    rcases S.out with ⟨e,h⟩ | ⟨h,_⟩
    ·exact absurd h a
    ·exact h
   have hl2:=nC u (lD B);clear d;go_wp2_with fail;refine (ud _ _ L M ((B.keep0 k).keep0 p) u ((H.keep0 k).keep0 p)).mono ?_;rintro e w3 ⟨rfl,C⟩;have J:=aa C;obtain ⟨P,f⟩:=eX (Lib.decDigits q.den);rw [<- f] at hl2 ⊢;have r:Hid (bZ q=[45]++F++([47]++P)):=by
    show _=_
    rw [bZ,A,if_neg a,j,f];simp
   clear C f;go_wp2;go_ret;rw [r];exact ⟨rfl,ab k (ab p J)⟩
 ·have s:rB q=false:=by simpa using hb
  rw [s] at X;have A:=aa s;clear hb s;by_cases a:q.den=1
  ·obtain rfl:g=0:=d.out.2 a;have r:Hid (bZ q=F):=by
    show _=_
    rw [bZ,A,if_pos a,j];simp
   clear d;go_wp2;go_ret;rw [r];exact ⟨rfl,ab k p⟩
  ·have I:0<g:=by
    rcases zP g with e | e
    ·exact absurd (d.1 e) a
    ·exact e
   have B:Hid (aT w (.slice m g D) q.den L):=by
    rcases S.out with ⟨e,h⟩ | ⟨h,_⟩
    ·exact absurd h a
    ·exact h
   have hl2:=nC u (lD B);clear d;go_wp2_with fail;refine (ud _ _ L M ((B.keep0 k).keep0 p) u ((H.keep0 k).keep0 p)).mono ?_;rintro e w3 ⟨rfl,C⟩;have J:=aa C;obtain ⟨P,f⟩:=eX (Lib.decDigits q.den);rw [<- f] at hl2 ⊢;have r:Hid (bZ q=F++([47]++P)):=by
    show _=_
    rw [bZ,A,if_neg a,j,f];simp
   clear C f;go_wp2;go_ret;rw [r];exact ⟨rfl,ab k (ab p J)⟩
def eY (w:World) (base:Nat) (v:Value) (l:List UInt8):Prop:=w.ownsRow base 5 1 v l.length (Lib.byteCells l)
theorem Tryz.infoU8:(Tryz.prog.info? 5).map (fun i=>(i.zero,i.size,i.bytes))=some (some (.int .u8 0),1,1):=zK
theorem eY.nil (w:World) (base:Nat):eY w base (.slice none 0 0) []:=World.ownsRow_nil _ _ _ _
theorem eY.shape (h:eY w base v l):∃ ao cap,v=.slice ao l.length cap/\l.length<=cap/\cap<=9223372036854775807:=by
 rcases h.2 with ⟨rfl,a⟩ | ⟨g,cap,cur,rfl,hb,hh,c,d,e,f⟩
 ·exact ⟨none,0,by rw [a],O,O⟩
 ·exact ⟨_,cap,rfl,c,by unfold maxLen at d;omega⟩
theorem rA (h:cur.toList.take (l.length*1)=Lib.byteCells l) (i:Nat) (hi:i<l.length):cur[i]? = some (.int .u8 (l[i].toNat:Nat)):=by
 have a:(cur.toList.take (l.length*1))[i]? = (Lib.byteCells l)[i]?:=by rw [h]
 rw [List.getElem?_take,if_pos O] at a;simpa [Lib.byteCells,hi] using a
theorem eY.open (h:eY w base v l) (d:0<l.length):∃ g cap,v=.slice (some ⟨g,0,none⟩) l.length cap/\l.length<=cap/\cap<=9223372036854775807/\base<=g/\g<w.heap.size:=by
 rcases h.2 with ⟨rfl,a⟩ | ⟨g,cap,cur,rfl,hb,hh,a,c,e,f⟩
 ·omega
 ·exact ⟨g,cap,rfl,a,by unfold maxLen at c;omega,hb,(zZ hh).1⟩
theorem eY.at {g cap:Nat} (h:eY w base (.slice (some ⟨g,0,none⟩) l.length cap) l) (i:Nat) (hi:i<l.length) :
  w.cell? ⟨g,i,none⟩=some (.int .u8 (l[i].toNat:Nat))/\w.frozen? ⟨g,i,none⟩=false /\
   ∀ (x:UInt8) (z:Int),z=(x.toNat:Int)->eY (w.setCell ⟨g,i,none⟩ (.int .u8 z)) base (.slice (some ⟨g,0,none⟩) l.length cap) (l.set i x):=by
 rcases h.2 with ⟨a,_⟩ | ⟨m,c,cur,a,hb,hh,f,j,k,d⟩
 ·simp at a
 ·simp only [Value.slice.injEq,zI,Addr.mk.injEq,and_true,true_and] at a;obtain ⟨rfl,rfl⟩:=a;refine ⟨?_,?_,?_⟩
  ·simp only [World.cell?,hh];exact rA d i hi
  ·simp [World.frozen?,hh]
  ·intro x z e;refine ⟨by simp [Lib.byteCells],.inr ⟨g,cap,cur.setIfInBounds i (.int .u8 z),Z,hb,?_,by simpa using f,j,by simpa using k,?_⟩⟩
   ·rw [heap_setCell_same w g i _ _ _ hh]
   ·subst e;rw [Array.toList_setIfInBounds,List.length_set,List.take_set,d];simp [Lib.byteCells,List.map_set]
theorem eY.keep {row:Option Nat} (h:eY w base v l) (hg:w.grownBy w' row) (a:∀ k,row=some k->au v≠some k):eY w' base v l:=by
 refine World.ownsRow.kept h hg ?_;cases row with
 | none=>cases hv:v.ownBlock<;>simp
 | some k =>
  right
  intro e;refine a k rfl ?_;rw [<- e];cases v<;>rfl
theorem eY.keep0 (h:eY w base v l) (hg:w.grownBy w' none):eY w' base v l:=h.keep hg nofun
theorem eY.alloc (h:eY w base v l) (o:Obj):eY (w.alloc o) base v l:=World.ownsRow.alloc h o
theorem eY.fresh (h:eY w base v l):∀ k,au v=some k->base<=k/\k<w.heap.size:=by
 intro k a;rcases h.2 with ⟨rfl,c⟩ | ⟨g,cap,cur,rfl,hb,hh,d,e,f,i⟩
 ·simp [au] at a
 ·simp [au] at a;subst a;exact ⟨hb,(zZ hh).1⟩
theorem Di {w1 a:World} {r:Option Nat} (h:w.grownBy w1 none) (k:w1.grownBy a r) (hb:∀ b,r=some b->w.heap.size<=b):w.grownBy a none :=
 aj h k (fun _ _ e=>e) (fun b c e=>by have:=hb b e.symm;omega)
theorem BB (v:Value):v.ownBlock=au v:=by cases v<;>rfl
theorem iG (w:World) {f:Array Oper} {rest:List Oper} {o:Oper} {a:Act} {Q:Exit->Act->World->Prop} (hg:o.guard=none) (x y:Operand) (hop:o.op=Op.call { callee:=.builtin .append,args:=#[x,y],argTypes:=#[164,164] }) (base:Nat) (v:Value) (l:List UInt8) (A:a.eval x=v) (g:Nat) (z:Int) (c:UInt8) (B:z=(c.toNat:Int)) (hy:a.eval y=.slice (some ⟨g,0,none⟩) 1 1) (d:w.cell? ⟨g,0,none⟩=some (.int .u8 z)) (h:eY w base v l) (D:l.length<=1000000000) (hb:base<=w.heap.size)
  (hK:∀ v' w',eY w' base v' (l++[c])->w.grownBy w' (au v)->wpList Tryz.prog f Q rest (a.put o.dst v') w') :
  wpList Tryz.prog f Q (o :: rest) a w:=by
 obtain ⟨C,p,q,r,s⟩:=info_parts Tryz.infoU8;refine wpList_append_own w hg x y 164 hop base 5 C (.int .u8 0) 1 1 Tryz.underlying164 p q r s rfl zD v l.length (Lib.byteCells l) A h ⟨g,0,none⟩ 1 1 [.int .u8 z] hy rfl ?_ ?_ (by unfold maxLen;omega) O hb ?_
 ·intro j u k;match j with
  | 0 =>
   simp only [List.getElem?_cons_zero,zI] at k;subst k;simpa [Addr.add] using d
  | j+1=>simp at k
 ·intro u t;simp only [List.mem_singleton] at t;subst t;rfl
 ·intro v' w' i m _;refine hK v' w' ?_ (by rw [<- BB];exact m);unfold eY;rw [List.length_append,List.length_singleton];have e:Lib.byteCells (l++[c])=Lib.byteCells l++[.int .u8 z]:=by rw [B];simp [Lib.byteCells]
  rw [e];exact i
theorem eY.string (h:eY w base v l) (a:0<l.length) :
  (convert 164 9 v).run Tryz.prog w=.ok (.string ⟨l.toArray⟩) w:=by
 obtain ⟨g,cap,rfl,_,_,_,_⟩:=h.open a;refine run_convert_bytes_back (P:=Tryz.prog) w 164 9 5 ⟨g,0,none⟩ cap l Tryz.underlying164 Tryz.underlying5 Tryz.underlying9 ?_;intro j c;rw [show (⟨g,0,none⟩:Addr).add j=⟨g,j,none⟩ from by simp [Addr.add];exact Eq.symm];exact (h.at j c).1
def dX (l:List UInt8) (i:Nat):List UInt8:=(List.range l.length).map fun p=>if p<i∨l.length<p+1+i then l.getD (l.length-1-p) 0 else l.getD p 0
theorem cI (l:List UInt8) (i:Nat):(dX l i).length=l.length:=by simp [dX]
theorem lK (l:List UInt8) (i p:Nat) (h:p<(dX l i).length):(dX l i)[p]=if p<i∨l.length<p+1+i then l.getD (l.length-1-p) 0 else l.getD p 0:=by simp [dX]
theorem xe (l:List UInt8):dX l 0=l:=by
 apply List.ext_getElem (cI l 0);intro p c a;rw [lK,if_neg O];simp [List.getD,a]
theorem EJ (l:List UInt8) (i:Nat) (h:i+i+1<l.length):((dX l i).set i (l.getD (l.length-1-i) 0)).set (l.length-1-i) (l.getD i 0)=dX l (i+1):=by
 apply List.ext_getElem (by simp [cI]);intro p g e;rw [List.getElem_set,List.getElem_set,lK,lK];have f:p<l.length:=by simpa [cI] using e
 by_cases a:l.length-1-i=p
 ·rw [if_pos a,if_pos O,<- a];congr 1
  omega
 ·rw [if_neg a];by_cases c:i=p
  ·rw [if_pos c,if_pos O,c]
  ·rw [if_neg c];by_cases d:p<i∨l.length<p+1+i
   ·rw [if_pos d,if_pos O]
   ·rw [if_neg d,if_neg O]
theorem Az (l:List UInt8) (i:Nat) (h:l.length<=i+i+1):dX l i=l.reverse:=by
 apply List.ext_getElem (by simp [cI]);intro p d f;have a:p<l.length:=by simpa [cI] using d
 rw [lK,List.getElem_reverse];by_cases e:p<i∨l.length<p+1+i
 ·rw [if_pos e];simp [List.getD,show l.length-1-p<l.length by omega]
 ·rw [if_neg e];have c:l.length-1-p=p:=O
  simp [List.getD,a,c]
end Go.Proofs.YtbfohfjobncehaaGreatDoor
