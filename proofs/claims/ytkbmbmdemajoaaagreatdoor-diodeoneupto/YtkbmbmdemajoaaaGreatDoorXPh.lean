/- Contracts. -/
import Derived.Test.YtkbmbmdemajoaaaGreatDoorXPg
import Derived.Test.YtkbmbmdemajoaaaGreatDoorXPv
namespace Go.Proofs.YtkbmbmdemajoaaaGreatDoor
open Go.RowKit
set_option linter.unusedVariables false
set_option linter.unusedSimpArgs false
set_option maxHeartbeats 8000000
set_option maxRecDepth 10000
variable {w w':World} {l:List UInt8} {v:Value} {base:Nat} {cs:List Nat}
theorem ju (h:Below w.heap.size w w'):w.grownBy w' none:=⟨h.os,h.tape,h.output,h.size,fun k a _=>h.block k a⟩
theorem ik (B b:Nat) (bs:List Value) (s:ByteArray) (w:World) (h:Lib.IsBuilder 171 5 B b bs w) (a:bs.length+s.size<=140737488355328) (c:B<=w.heap.size) :
  Calls Tryz.prog 121 #[.pointer (some ⟨b,0,none⟩),.string s] w fun e w'=>e=.returned (.tuple #[.int .i64 s.size,.nilIface])/\(Lib.BuilderAt 171 5 B b (.pointer (some ⟨b,0,none⟩)) (bs++Lib.strCells s) w'/\Below B w w') :=
 Any.Builder_WriteString Tryz.wsLays Tryz.wsExtra B b bs s w h a c
theorem lG (w:World) {d:Array Oper} {rest:List Oper} {o:Oper} {a:Act} {Q:Exit->Act->World->Prop} (hg:o.guard=none) (x y:Operand) (hop:o.op=Op.call { callee:=.builtin .append,args:=#[x,y],argTypes:=#[78,78] }) (base:Nat) (v:Value) (l:List Nat) (s:a.eval x=v) (g:Nat) (z:Int) (c:Nat) (t:z=(c:Int)) (hy:a.eval y=.slice (some ⟨g,0,none⟩) 1 1) (b:w.cell? ⟨g,0,none⟩=some (.int .u32 z)) (h:gE w base v l) (B:l.length<=10000000000000) (hb:base<=w.heap.size)
  (hK:∀ v' w',gE w' base v' (l++[c])->w.grownBy w' (ar v)->wpList Tryz.prog d Q rest (a.put o.dst v') w') :
  wpList Tryz.prog d Q (o :: rest) a w:=by
 obtain ⟨A,m,n,p,q⟩:=info_parts Tryz.info32;refine wpList_append_own w hg x y 78 hop base 140 A (.int .u32 0) 1 4 Tryz.underlying78 m n p q rfl zD v l.length (ak l).toList s h ⟨g,0,none⟩ 1 1 [.int .u32 z] hy rfl ?_ ?_ (by unfold maxLen;omega) O hb ?_
 ·intro j u i;match j with
  | 0 =>
   simp only [List.getElem?_cons_zero,zI] at i;subst i;simpa [Addr.add] using b
  | j+1=>simp at i
 ·intro u r;simp only [List.mem_singleton] at r;subst r;rfl
 ·intro v' w' f k _;refine hK v' w' ?_ (by rw [<- nC];exact k);unfold gE;rw [List.length_append,List.length_singleton];have e:(ak (l++[c])).toList=(ak l).toList++[.int .u32 z]:=by rw [t];simp [ak]
  rw [e];exact f
theorem kB {n L:Nat} (h:aQ w v n L):n<4294967296^L:=by
 obtain ⟨xs,a,d,b,c⟩:=h;have:=bw a.sm;rw [b] at this;exact Nat.lt_of_lt_of_le this (Nat.pow_le_pow_right zD c)
def BM (cs:List Nat):Prop:=∃ F c,cs=F++[c]/\c≠0
theorem BM.pos (h:BM cs) (i:Nat) (hi:i<cs.length):0<dK 1000000000 (cs.drop i):=by
 obtain ⟨F,c,rfl,hc⟩:=h;have a:i<=F.length:=by simp at hi;omega
 rw [List.drop_append_of_le_length a,jZ];have:0<1000000000^(F.drop i).length*c:=Nat.mul_pos (Nat.pow_pos zD) O;omega
def ChkR (w:World) (B n L:Nat) (k:Nat) (cv lv:Value) (wr:World):Prop :=
 ∃ (m:Nat) (cs:List Nat),gE wr B cv cs/\B<=wr.heap.size/\gP wr w.heap.size lv m L/\(∀ k,ar lv=some k->k<B)/\(∀ c∈cs,c<1000000000)/\n=dK 1000000000 cs+1000000000^cs.length*m/\(m≠0∨BM cs)/\w.grownBy wr none/\m=k
theorem qM {n m L:Nat} (h:n=dK 1000000000 cs+1000000000^cs.length*m) (c:m≠0) (hn:n<4294967296^L):cs.length<32*L:=by
 have d:1000000000^cs.length<=n:=by
  have:1000000000^cs.length*1<=1000000000^cs.length*m:=Nat.mul_le_mul_left _ O;omega
 have e:2^cs.length<=1000000000^cs.length:=Nat.pow_le_pow_left zD _;have b:4294967296^L=2^(32*L):=by rw [Nat.pow_mul]
 rw [b] at hn;exact (Nat.pow_lt_pow_iff_right (a:=2) zD).1 O
theorem wT {n m:Nat} (h:n=dK 1000000000 cs+1000000000^cs.length*m):n=dK 1000000000 (cs++[m % 1000000000])+1000000000^(cs++[m % 1000000000]).length*(m / 1000000000):=by
 rw [jZ,List.length_append,List.length_singleton,Nat.pow_succ,h,Nat.mul_assoc,Nat.add_assoc,<- Nat.mul_add];congr 2
 omega
def nR (cs:List Nat) (k:Nat):List UInt8:=if k=cs.length then [] else lh cs k
theorem lO {T e:TypeId} {B b:Nat} {bs:List Value} (h:Lib.IsBuilder T e B b bs w) (hg:w.grownBy w' none):Lib.IsBuilder T e B b bs w':=by
 have a:∀ p,Lib.BuilderAt T e B b p bs w->Lib.BuilderAt T e B b p bs w':=by
  intro p d;have hlt:=d.lt;obtain ⟨f,v,hb,g,c⟩:=d;exact ⟨f,v,by rw [hg.block b hlt Z];exact hb,World.ownsRow.kept g hg (by cases hv:v.ownBlock<;>simp),c⟩
 rcases h with h | h
 ·exact .inl (a _ h)
 ·exact .inr (a _ h)
theorem rS (l:List UInt8):Lib.strCells ⟨l.toArray⟩=Lib.byteCells l:=by
 unfold Lib.strCells Lib.byteCells;simp
theorem Eb (c:Nat):Lib.repeatL [48] c=List.replicate c 48:=by
 induction c with
 | zero=>rfl
 | succ c ih=>rw [Lib.repeatL,ih,List.replicate_succ];rfl
def WrtR (W:World) (cs:List Nat) (iv:Value) (wr:World):Prop :=
 ∃ k:Nat,k<=cs.length/\iv=.int .i64 ((k:Int)-1)/\Lib.IsBuilder 171 5 W.heap.size W.heap.size (Lib.byteCells (nR cs k)) wr/\Below W.heap.size W wr/\W.heap.size<=wr.heap.size
theorem txt_len (cs:List Nat) (k:Nat) (hc:∀ c∈cs,c<1000000000) (b:k<=cs.length) (g:BM cs):(nR cs k).length<=9*(cs.length-k):=by
 have e:∀ d k,d=cs.length-k->k<=cs.length->(nR cs k).length<=9*d:=by
  intro d;induction d with
  | zero =>
   intro k h h2;have:k=cs.length:=O
   rw [nR,if_pos this];simp
  | succ d ih =>
   intro k h h2;have b:k<cs.length:=O
   have a:=hc cs[k] (List.getElem_mem b);have i:(Lib.decDigits cs[k]).length<=9:=oW zD a;rw [nR,if_neg O];by_cases f:k+1=cs.length
   ·rw [nj cs k f];omega
   ·have h2:=ih (k+1) O O;rw [nR,if_neg f] at h2;rw [nk cs k O a (g.pos (k+1) O)];simp;omega
 exact e _ k rfl b
theorem tz (v:Value) (n L:Nat) (w:World) (h:aQ w v n L) (hL:L<=100000000000) (ht:fT w) :
  Calls Tryz.prog 78 #[v] w fun e w'=>e=.returned (.string ⟨(Lib.decDigits n).toArray⟩)/\w.grownBy w' none:=by
 obtain ⟨vo,vl,vc,rfl,u,hH,hp⟩:=h.shape;have HT:=ab ht;have HN:=ab h;have S:=ab (kB h);unfold maxLen at hp;clear ht h;by_cases h0:n=0
 ·obtain rfl:vl=0:=u.2 h0;subst h0;clear u;go_enter Tryz.func78,Tryz.ntmps78
  go_wp2;go_ret;refine ⟨?_,ae _ _⟩;rw [Lib.decDigits_one (by decide)];rfl
 ·have hC:0<vl:=by
   rcases zP vl with e | e
   ·exact absurd (u.1 e) h0
   ·exact e
  have hE:((vl:Int)==0)=false:=by simp;omega
  clear u;obtain ⟨xs,x1,x2,x3,x4⟩:=HN.out;have X1:=ab x1;have X2:=ab x2;have X3:=ab x3;clear x1 x2 x3;go_enter Tryz.func78,Tryz.ntmps78
  go_wp2_with fail;refine (js _ xs _ X1 (by omega)).mono ?_;rintro e w1 ⟨lv,rfl,l1,l2⟩;obtain ⟨lo,lc,rfl,hI,hq,_⟩:=l1.open;unfold maxLen at hq;have L1:Hid (gP w1 w.heap.size (.slice lo xs.length lc) n L):=⟨xs,l1,X1.sm,X2,X3,x4⟩;have LB:=ab (fun k hk=>(l1.fresh k hk).2);have L2:=ab l2;clear l1 l2;go_wp2;go_loopg [3,4] n (fun k cv lv wr=>Hid (ChkR w w1.heap.size n L k cv lv wr))
  case atStart=>exact ⟨n,[],oh _ _,zL,L1,LB,by simp,by simp [dK],.inl h0,L2,rfl⟩
  case round =>
   obtain ⟨m,cs,r1,r2,r3,r4,r5,r6,r7,r8,rfl⟩:=hrel.out;obtain ⟨co,cc,rfl,hJ,hs,_⟩:=r1.open;unfold maxLen at hs;obtain ⟨kb,H,kc,rfl,x,hK,hu⟩:=r3.num.shape;unfold maxLen at hu;have K:=ab r1;have R3:=ab r3;have R4:=ab r4;have R5:=ab r5;have R6:=ab r6;have R7:=ab r7;have R8:=ab r8;clear r1 r3 r4 r5 r6 r7 r8 hrel;by_cases hm:m=0
   ·obtain rfl:H=0:=x.2 hm;subst hm;clear x;have t:BM cs:=by
     rcases R7.out with h | h
     ·exact absurd rfl h
     ·exact h
    have y:=ab t;have hN:0<cs.length:=by obtain ⟨F,c,e,_⟩:=t;rw [e];simp
    have T:Hid (dK 1000000000 cs=n):=by have:=R6.out;show _=_;omega
    have hF:cs.length<=32*L+1:=by
     obtain ⟨F,c,e,hc⟩:=t;have U:=T.out;rw [e,jZ] at U;have:=qM (cs:=F) (m:=c) U.symm hc S;rw [e];simp;omega
    clear t;obtain ⟨W,rfl⟩:∃ W,W=wr:=⟨wr,rfl⟩;obtain ⟨g,rfl,kf,hA⟩:∃ g,co=some ⟨g,0,none⟩/\w1.heap.size<=g/\g<W.heap.size:=by
     obtain ⟨ao,cap,e,_,_,hh⟩:=K.out.open;simp only [Value.slice.injEq,true_and] at e;obtain ⟨rfl,rfl⟩:=e;rcases hh with h | h
     ·subst h;rcases K.out.2 with ⟨_,e2⟩ | ⟨g,hM,kk,e2,_⟩
      ·omega
      ·simp at e2
     ·exact h
    have TW:Hid (fT W):=HT.out.keep0 R8;go_wp2;go_loopw [7] (fun iv w5=>Hid (WrtR W cs iv w5)) (fun iv _=>(intOf iv+1).toNat)
    case atStart =>
     refine ⟨cs.length,zL,by go_num,.inl ⟨zL,.slice none 0 0,heap_alloc_new W _,?_,by simp [Value.ownBlock]⟩,lW (ag (ae _ _) _),by simp⟩;rw [nR,if_pos rfl];exact World.ownsRow_nil _ _ _ _
    case round =>
     obtain ⟨k,hk,rfl,b1,b2,b3⟩:=hrel.out;have B1:=ab b1;have o:=ab b2;clear b1 b2 hrel;by_cases V:k=0
     ·subst V;have B:=B1.out;rw [nR,if_neg (by omega),lh,List.drop_zero,T] at B;have hv:=ab B;clear B;go_wp2_with fail;refine (Tryz.Builder_String W.heap.size W.heap.size (Lib.decDigits n) _ hv (fun e=>by
       have U:=Lib.decDigits_length n;have h2:=Lib.nDigits_pos n;rw [e] at U;simp at U;omega)).mono ?_
      rintro e w6 ⟨rfl,P⟩;have G6:=ab (aa R8 (ju ⟨P.os.trans o.os,P.tape.trans o.tape,P.output.trans o.out.output,Nat.le_trans o.size P.size,fun k hk=>(P.block k hk).trans (o.block k hk)⟩));clear P;go_wp2;go_ret;exact ⟨rfl,G6⟩
     ·obtain ⟨j,rfl⟩:∃ j,k=j+1:=⟨k-1,by omega⟩;have ej:(((j+1:Nat):Int)-1)=(j:Int):=by omega
      rw [ej];clear ej V;have X:j<cs.length:=by omega
      have C:=R5.out cs[j] (List.getElem_mem X);have f:=(K.at j X).1;have d:wr.cell? ⟨g,j,none⟩=some (.int .u32 (cs[j]:Nat)):=(World.cell?_of_block (a:=⟨g,j,none⟩) (o.block g hA)).trans f;obtain ⟨c,I⟩:=eX (cs[j]);rw [<- I] at d C;have E:=ab I;have T5:Hid (fT wr):=TW.out.keep0 (ju o);have Y:(Lib.decDigits c).length<=9:=oW (by decide) C;have he:=Lib.nDigits_pos c;rw [<- Lib.decDigits_length] at he;have hQ:=txt_len cs (j+1) R5 hk y;clear f I;go_wp2_with fail;refine (qz c _ (by omega) T5).mono ?_;rintro e w6 ⟨rfl,J⟩;obtain ⟨D,hD⟩:∃ D:ByteArray,D=⟨(Lib.decDigits c).toArray⟩:=⟨_,rfl⟩;rw [<- hD];have hf:D.size=(Lib.decDigits c).length:=by rw [hD];rfl
      have hR:D.size<=9:=by omega
      have i:Hid (Lib.strCells D=Lib.byteCells (Lib.decDigits c)):=by rw [hD];exact rS _
      have B6:=ab (lO B1 J);have p:Hid (Below W.heap.size W w6):=⟨J.os.trans o.os,J.tape.trans o.tape,J.output.trans o.out.output,Nat.le_trans o.size J.size,fun k hk=>(J.block k (by omega) (by simp)).trans (o.block k hk)⟩;have hj:W.heap.size<=w6.heap.size:=p.out.size;have hw:=ab hf;clear J hD hf d T5 B1 o;by_cases q:j+1=cs.length
      ·go_wp2_with fail;refine (ik W.heap.size W.heap.size _ D _ B6 (by rw [Lib.byteCells_length];omega) hj).mono ?_;rintro e w7 ⟨rfl,c7,s⟩;have C7:=ab c7;have D7:=ab s;have G:W.heap.size<=w7.heap.size:=Nat.le_trans hj s.size;clear c7 s;go_wp2;go_roundw
       case rel =>
        refine ⟨j,by omega,by go_num,.inr ?_,⟨D7.os.trans p.os,D7.tape.trans p.tape,D7.out.output.trans p.out.output,Nat.le_trans p.size D7.size,fun k hk=>(D7.block k hk).trans (p.block k hk)⟩,G⟩;have h7:=C7.out;rw [i,nR,if_pos q] at h7;rw [nR,if_neg (by omega),nj cs j q,<- E];exact h7
       case measure=>simp [intOf]
      ·have hS:(j:Int)<(cs.length:Int)-1:=by omega
       have hx:(9-(D.size:Int))=((9-D.size:Nat):Int):=by omega
       go_wp2_with fail;refine (Tryz.strings_Repeat ⟨#[48]⟩ (9-D.size) _ (by omega) (by have:(⟨#[48]⟩:ByteArray).size=1:=rfl;rw [this];omega)).mono ?_;rintro e w7 ⟨rfl,s⟩;rw [show (⟨#[48]⟩:ByteArray).data.toList=[48] from rfl,Eb];obtain ⟨Z,hZ⟩:∃ Z:ByteArray,Z=⟨(List.replicate (9-D.size) 48).toArray⟩:=⟨_,rfl⟩;rw [<- hZ];have hT:Z.size<=9:=by rw [hZ];show (List.replicate (9-D.size) 48).toArray.size<=9;simp
       have hy:Hid (Lib.strCells Z=Lib.byteCells (List.replicate (9-D.size) 48)):=by rw [hZ];exact rS _
       have B7:=ab (lO B6 (ju s));have M:Hid (Below W.heap.size W w7):=⟨s.os.trans p.os,s.tape.trans p.tape,s.output.trans p.out.output,Nat.le_trans p.size s.size,fun k hk=>(s.block k (by omega)).trans (p.block k hk)⟩;have G:W.heap.size<=w7.heap.size:=M.out.size;clear s hZ p B6 hx;go_wp2_with fail;refine (ik W.heap.size W.heap.size _ Z _ B7 (by rw [Lib.byteCells_length];omega) G).mono ?_;rintro e w8 ⟨rfl,c8,Q⟩;have C8:=ab c8;have N:Hid (Below W.heap.size W w8):=⟨Q.os.trans M.os,Q.tape.trans M.tape,Q.output.trans M.out.output,Nat.le_trans M.size Q.size,fun k hk=>(Q.block k hk).trans (M.block k hk)⟩;have hz:W.heap.size<=w8.heap.size:=N.out.size;clear c8 Q;go_wp2_with fail;refine (ik W.heap.size W.heap.size _ D _ (.inr C8) (by rw [List.length_append,Lib.byteCells_length,Lib.strCells_length];omega) hz).mono ?_;rintro e w9 ⟨rfl,c9,R⟩;have C9:=ab c9;have W9:Hid (Below W.heap.size W w9):=⟨R.os.trans N.os,R.tape.trans N.tape,R.output.trans N.out.output,Nat.le_trans N.size R.size,fun k hk=>(R.block k hk).trans (N.block k hk)⟩;clear c9 R;go_wp2;go_roundw
       case rel =>
        refine ⟨j,by omega,by go_num,.inr ?_,W9,W9.size⟩;have Y:=C9.out;rw [i,hy,nR,if_neg q] at Y;rw [nR,if_neg (by omega),nk cs j (by omega) (by rw [<- E];exact C) (y.pos (j+1) (by omega)),<- E,<- hw];rw [show ∀ a b c:List UInt8,Lib.byteCells (a++(b++c))=(Lib.byteCells a++Lib.byteCells b)++Lib.byteCells c from fun a b c=>by simp [Lib.byteCells]];exact Y
       case measure=>simp [intOf]
   ·have hW:0<H:=by
     rcases zP H with e | e
     ·exact absurd (x.1 e) hm
     ·exact e
    clear x;have hG:=qM R6 hm S;obtain ⟨ys,y1,y2,y3,y4,y5⟩:=R3.out;go_wp2_with fail;refine (pZ _ ys 1000000000 _ w.heap.size y1 y2 (by omega) (by omega) (by omega)).mono ?_;rintro e A ⟨q',r,rfl,hr,s1⟩;rw [y4] at hr;obtain ⟨zs,z1,z2,z3,z4,z5,z6,z7⟩:=s1;rw [y4] at z4;obtain ⟨qo,qc,rfl,_,_,_⟩:=z1.open;have hX:r<1000000000:=by rw [hr];exact Nat.mod_lt _ (by decide)
    have G2:Hid (w.grownBy A none):=fM R8 z6 (fun b e=>(y1.fresh b e).1);have C2:Hid (gE A w1.heap.size (.slice co cs.length cc) cs):=K.out.keep z6 (fun k e h2=>by
     have h3:=R4.out k e;have h4:=(K.fresh k h2).1;omega)
    have Z1:Hid (gP A w.heap.size (.slice qo zs.length qc) (m / 1000000000) L):=⟨zs,z1,z2,z3,z4,by omega⟩;have ZB:Hid (∀ k,ar (.slice qo zs.length qc)=some k->k<w1.heap.size):=fun k hk=>R4 k (by rw [<- z7];exact hk)
    have hY:w1.heap.size<=A.heap.size:=Nat.le_trans r2 z6.size;have HR:=ab hr;clear y1 y2 y3 y4 y5 hr z1 z2 z3 z4 z5 z6 z7 K R3 R4;have z:=C2.out.alloc (Obj.cells #[Value.int IntKind.u32 (r:Int)] 140);have d:(A.alloc (Obj.cells #[Value.int IntKind.u32 (r:Int)] 140)).cell? ⟨A.heap.size,0,none⟩=some (.int .u32 (r:Int)):=by simp
    have hl:w1.heap.size<=(A.alloc (Obj.cells #[Value.int IntKind.u32 (r:Int)] 140)).heap.size:=by simp;omega
    have HC:=ab d;have HO:=ab z;have ho:=ab hl;clear d z hl;go_wp2_with (at_builtin;refine lG _ rfl _ _ rfl w1.heap.size _ cs rfl A.heap.size _ r rfl rfl HC HO (by omega) ho ?_)
    intro ka w3 o1 o2;obtain ⟨kl,ko,rfl,_,_,_⟩:=o1.open;have O1:=ab o1;have O2:=ab o2;clear o1 o2;go_wp2;go_roundg (m / 1000000000)
    case measure=>omega
    case rel =>
     refine ⟨m / 1000000000,cs++[r],O1,Nat.le_trans ho O2.size,?_,ZB,?_,?_,?_,?_,rfl⟩
     ·obtain ⟨hB,a1,a2,a3,a4,a5⟩:=Z1.out.keep0 (ag (ae _ _) (Obj.cells #[Value.int IntKind.u32 (r:Int)] 140));refine ⟨hB,a1.keep O2 ?_,a2,a3,a4,a5⟩;intro k e h2;have h3:=ZB.out k h2;have h4:=(C2.fresh k e).1;omega
     ·intro c hc;rcases List.mem_append.1 hc with hc | hc
      ·exact R5 c hc
      ·simp at hc;omega
     ·rw [HR];exact wT R6
     ·by_cases Y:m / 1000000000=0
      ·right
       refine ⟨cs,r,rfl,?_⟩;have:=HR.out;omega
      ·exact .inl Y
     ·exact fM (aa G2 (ag (ae _ _) _)) O2 (fun b e=>by have:=(C2.fresh b e).1;have:=L2.out.size;omega)
def bQ (q:Rat):List UInt8:=(if rB q then [45] else [])++(Lib.decDigits (rN q)++(if q.den=1 then [] else 47 :: Lib.decDigits q.den))
theorem iU (x:Value) (q:Rat) (L:Nat) (w:World) (k:FQ w x q L) :
  Calls Tryz.prog 38 #[x] w fun e w'=>e=.returned (.int .i64 q.num.sign)/\w.grownBy w' none:=by
 obtain ⟨n,b,p,d,r,s,rfl⟩:=k.shape;obtain ⟨up,t,e,u,_⟩:=k;simp only [Value.agg.injEq,Array.mk.injEq,List.cons.injEq,and_true,true_and] at e;obtain ⟨rfl,rfl⟩:=e;obtain ⟨o,l,c,y,i,C,j⟩:=u.shape;simp only [Value.slice.injEq] at y;obtain ⟨rfl,rfl,rfl⟩:=y;unfold maxLen at j;obtain ⟨W,f⟩:=eX (w.alloc (Obj.cells #[.bool (rB q),.slice n b p,.slice d r s] 81));have m:Hid (w.grownBy W none):=by rw [f];exact ag (ae _ _) _
 obtain ⟨s0,s1,s2⟩:W.cell? ⟨w.heap.size,0,none⟩=some (.bool (rB q))/\W.cell? ⟨w.heap.size,1,none⟩=some (.slice n b p)/\W.cell? ⟨w.heap.size,2,none⟩=some (.slice d r s):=aG (by rw [f];exact ae _ _);by_cases hb:rB q=true
 ·have g:Hid (q.num.sign = -1):=by
   unfold rB at hb;exact Int.sign_eq_neg_one_of_neg (by simpa using hb)
  rw [hb] at s0 f ⊢;go_enter Tryz.func38,Tryz.ntmps38
  go_wp2;go_ret;rw [g];exact ⟨rfl,by first | exact ag (ae _ _) _ | exact m⟩
 ·have a:rB q=false:=by simpa using hb
  have z:0<=q.num:=by unfold rB at a;simpa using a
  have g:Hid (q.num.sign=jT (b:Int)):=by
   show _=_
   unfold jT;by_cases h:b=0
   ·have:q.num=0:=by have:=i.1 h;unfold rN at this;omega
    rw [this,h];rfl
   ·have A:¬ rN q=0:=fun e=>h (i.2 e)
    have B:0<q.num:=by unfold rN at A;omega
    rw [Int.sign_eq_one_of_pos B,if_neg O,if_pos O]
  rw [a] at s0 f ⊢;clear i u hb a;go_enter Tryz.func38,Tryz.ntmps38
  go_wp2_with fail;refine (lV (b:Int) _).mono ?_;rintro e D ⟨rfl,rfl⟩;go_wp2;go_ret;rw [g];exact ⟨rfl,by first | exact ag (ae _ _) _ | exact m⟩
theorem FQ.parts {u d:Value} {q:Rat} {L:Nat} (h:FQ w (.agg #[.bool (rB q),u,d]) q L):aQ w u (rN q) L/\((d=.slice none 0 0/\q.den=1)∨(aQ w d q.den L/\1<q.den)):=by
 obtain ⟨up,a,e,b,c,_⟩:=h;simp only [Value.agg.injEq,Array.mk.injEq,List.cons.injEq,and_true,true_and] at e;obtain ⟨rfl,rfl⟩:=e;exact ⟨b,c⟩
theorem mK {n L:Nat} (a:L<=100000000000) (h:n<4294967296^L):(Lib.decDigits n).length<=1000000000001:=by
 rw [Lib.decDigits_length];rcases zP L with e | e
 ·subst e;have:n=0:=by simpa using h
  subst this;rw [Lib.nDigits_small zD];omega
 ·have:Lib.nDigits n<=10*L:=by
   refine lB O (Nat.lt_of_lt_of_le h ?_);rw [Nat.pow_mul];exact Nat.pow_le_pow_left zD L
  omega
theorem fQ_at (x:Value) (q:Rat) (L:Nat) (w:World) (E:FQ w x q L) (s:L<=100000000000) (N:fT w) :
  Calls Tryz.prog 40 #[x] w fun e w'=>e=.returned (.string ⟨(bQ q).toArray⟩)/\w.grownBy w' none:=by
 obtain ⟨Q,R,S,k,f,B,rfl⟩:=E.shape;obtain ⟨I,hd⟩:=E.parts;have U:=ab I;have P:=ab hd;have F:=ab N;obtain ⟨W,C⟩:=eX (w.alloc (Obj.cells #[.bool (rB q),.slice Q R S,.slice k f B] 81));have j:Hid (w.grownBy W none):=by rw [C];exact ag (ae _ _) _
 have g:Hid (∀ wx,W.grownBy wx none->wx.cell? ⟨w.heap.size,0,none⟩=some (.bool (rB q))/\wx.cell? ⟨w.heap.size,1,none⟩=some (.slice Q R S)/\wx.cell? ⟨w.heap.size,2,none⟩=some (.slice k f B)):=by
  intro wx hg;rw [C] at hg;exact aG hg
 obtain ⟨s0,s1,s2⟩:=g.out W (ae _ _);have u:=mK s (kB I);obtain ⟨D,r⟩:=eX (Lib.decDigits (rN q));have i:=ab r;rw [<- r] at u;have b:Hid (f=0↔q.den=1):=by
  rcases hd with ⟨e,t⟩ | ⟨t,X⟩
  ·simp only [Value.slice.injEq] at e;exact ⟨fun _=>t,fun _=>e.2.1⟩
  ·obtain ⟨o,l,c,e,Y,_⟩:=t.shape;simp only [Value.slice.injEq] at e;obtain ⟨rfl,rfl,rfl⟩:=e;exact ⟨fun e=>by have:=Y.1 e;omega,fun e=>O⟩
 have V:f<=9223372036854775807:=by
  rcases hd with ⟨e,t⟩ | ⟨t,X⟩
  ·simp only [Value.slice.injEq] at e;omega
  ·obtain ⟨o,l,c,e,_,u,hl2⟩:=t.shape;simp only [Value.slice.injEq] at e;obtain ⟨rfl,rfl,rfl⟩:=e;unfold maxLen at hl2;omega
 clear E I hd N r;go_enter Tryz.func40,Tryz.ntmps40
 go_wp2_with fail;rw [<- C];refine (tz _ _ L W (U.keep0 j) s (F.keep0 j)).mono ?_;rintro e J ⟨rfl,K⟩;rw [<- i];obtain ⟨T,a1,a2⟩:=g.out J K;have m:=ab K;clear s0 s1 s2 K C;by_cases hb:rB q=true
 ·rw [hb] at T;have y:=ab hb;clear hb;by_cases a:q.den=1
  ·obtain rfl:f=0:=b.out.2 a;have n:Hid (bQ q=[45]++D):=by
    show _=_
    rw [bQ,y,if_pos a,i];simp
   clear b;go_wp2;go_ret;rw [n];exact ⟨rfl,aa j m⟩
  ·have G:0<f:=by
    rcases zP f with e | e
    ·exact absurd (b.1 e) a
    ·exact e
   have z:Hid (aQ w (.slice k f B) q.den L):=by
    rcases P.out with ⟨e,h⟩ | ⟨h,_⟩
    ·exact absurd h a
    ·exact h
   have hl2:=mK s (kB z);clear b;go_wp2_with fail;refine (tz _ _ L J ((z.keep0 j).keep0 m) s ((F.keep0 j).keep0 m)).mono ?_;rintro e w3 ⟨rfl,A⟩;have H:=ab A;obtain ⟨M,d⟩:=eX (Lib.decDigits q.den);rw [<- d] at hl2 ⊢;have n:Hid (bQ q=[45]++D++([47]++M)):=by
    show _=_
    rw [bQ,y,if_neg a,i,d];simp
   clear A d;go_wp2;go_ret;rw [n];exact ⟨rfl,aa j (aa m H)⟩
 ·have p:rB q=false:=by simpa using hb
  rw [p] at T;have y:=ab p;clear hb p;by_cases a:q.den=1
  ·obtain rfl:f=0:=b.out.2 a;have n:Hid (bQ q=D):=by
    show _=_
    rw [bQ,y,if_pos a,i];simp
   clear b;go_wp2;go_ret;rw [n];exact ⟨rfl,aa j m⟩
  ·have G:0<f:=by
    rcases zP f with e | e
    ·exact absurd (b.1 e) a
    ·exact e
   have z:Hid (aQ w (.slice k f B) q.den L):=by
    rcases P.out with ⟨e,h⟩ | ⟨h,_⟩
    ·exact absurd h a
    ·exact h
   have hl2:=mK s (kB z);clear b;go_wp2_with fail;refine (tz _ _ L J ((z.keep0 j).keep0 m) s ((F.keep0 j).keep0 m)).mono ?_;rintro e w3 ⟨rfl,A⟩;have H:=ab A;obtain ⟨M,d⟩:=eX (Lib.decDigits q.den);rw [<- d] at hl2 ⊢;have n:Hid (bQ q=D++([47]++M)):=by
    show _=_
    rw [bQ,y,if_neg a,i,d];simp
   clear A d;go_wp2;go_ret;rw [n];exact ⟨rfl,aa j (aa m H)⟩
def qu (p q:Rat):Int:=if p<q then -1 else if q<p then 1 else 0
theorem Ca (p q:Rat) (h:p.num.sign≠q.num.sign):jT (p.num.sign-q.num.sign)=qu p q:=by
 have f:=p.den_pos;have g:=q.den_pos;unfold qu jT;simp only [Rat.lt_iff];rcases Int.lt_trichotomy p.num 0 with a | a | a<;>rcases Int.lt_trichotomy q.num 0 with b | b | b
 ·rw [Int.sign_eq_neg_one_of_neg a,Int.sign_eq_neg_one_of_neg b] at h;exact absurd rfl h
 ·rw [Int.sign_eq_neg_one_of_neg a,b];have:p.num*(q.den:Int)<0:=Int.mul_neg_of_neg_of_pos a O;simp [this]
 ·rw [Int.sign_eq_neg_one_of_neg a,Int.sign_eq_one_of_pos b];have d:p.num*(q.den:Int)<0:=Int.mul_neg_of_neg_of_pos a O;have c:0<q.num*(p.den:Int):=Int.mul_pos b O;rw [if_pos O,if_pos O]
 ·rw [Int.sign_eq_neg_one_of_neg b,a];have:q.num*(p.den:Int)<0:=Int.mul_neg_of_neg_of_pos b O;have c:¬ (0:Int)<q.num*(p.den:Int):=O
  simp [this,c]
 ·rw [a,b] at h;exact absurd rfl h
 ·rw [a,Int.sign_eq_one_of_pos b];have c:0<q.num*(p.den:Int):=Int.mul_pos b O;simp [c]
 ·rw [Int.sign_eq_one_of_pos a,Int.sign_eq_neg_one_of_neg b];have d:q.num*(p.den:Int)<0:=Int.mul_neg_of_neg_of_pos b O;have c:0<p.num*(q.den:Int):=Int.mul_pos a O;rw [if_neg O,if_pos O,if_neg O,if_pos O]
 ·rw [Int.sign_eq_one_of_pos a,b];have c:0<p.num*(q.den:Int):=Int.mul_pos a O;have e:¬ p.num*(q.den:Int)<0:=O
  simp [c,e]
 ·rw [Int.sign_eq_one_of_pos a,Int.sign_eq_one_of_pos b] at h;exact absurd rfl h
theorem Cb (p q:Rat) (h:p.num.sign=q.num.sign):p.num.sign*gG (rN p*q.den) (rN q*p.den)=qu p q:=by
 have g:=p.den_pos;have i:=q.den_pos;unfold qu gG;simp only [Rat.lt_iff];obtain ⟨X,e⟩:∃ X:Nat,X=rN p*q.den:=⟨_,rfl⟩;obtain ⟨Y,f⟩:∃ Y:Nat,Y=rN q*p.den:=⟨_,rfl⟩;rw [<- e,<- f];rcases Int.lt_trichotomy p.num 0 with a | a | a
 ·have b:q.num<0:=by
   rw [Int.sign_eq_neg_one_of_neg a] at h;exact Int.sign_eq_neg_one_iff_neg.1 h.symm
  have c:p.num*(q.den:Int) = -(X:Int):=by
   rw [e,Int.natCast_mul,show p.num = -((rN p:Nat):Int) from by unfold rN;omega,Int.neg_mul]
  have d:q.num*(p.den:Int) = -(Y:Int):=by
   rw [f,Int.natCast_mul,show q.num = -((rN q:Nat):Int) from by unfold rN;omega,Int.neg_mul]
  rw [c,d,Int.sign_eq_neg_one_of_neg a];split<;>split<;>(try split)<;>(try split)<;>omega
 ·have b:q.num=0:=by
   rw [a] at h;exact Int.sign_eq_zero_iff_zero.1 h.symm
  rw [a,b];simp
 ·have b:0<q.num:=by
   rw [Int.sign_eq_one_of_pos a] at h;exact Int.sign_eq_one_iff_pos.1 h.symm
  have c:p.num*(q.den:Int)=(X:Int):=by
   rw [e,Int.natCast_mul,show p.num=((rN p:Nat):Int) from by unfold rN;omega]
  have d:q.num*(p.den:Int)=(Y:Int):=by
   rw [f,Int.natCast_mul,show q.num=((rN q:Nat):Int) from by unfold rN;omega]
  rw [c,d,Int.sign_eq_one_of_pos a];split<;>split<;>(try split)<;>(try split)<;>omega
theorem uh (x y:Value) (p q:Rat) (M V:Nat) (w:World) (hx:FQ w x p M) (hy:FQ w y q V) (hl:M+V<=700000000) :
  Calls Tryz.prog 39 #[x,y] w fun e w'=>e=.returned (.int .i64 (qu p q))/\w.grownBy w' none:=by
 have HX:=ab hx;have HY:=ab hy;obtain ⟨A,B,C,d,E,F,rfl⟩:=hx.shape;obtain ⟨G,H,I,N,P,Q,rfl⟩:=hy.shape;have NX:=ab hx.parts.1;have NY:=ab hy.parts.1;clear hx hy;obtain ⟨W,hW⟩:=eX ((w.alloc (Obj.cells #[.bool (rB p),.slice A B C,.slice d E F] 81)).alloc (Obj.cells #[.bool (rB q),.slice G H I,.slice N P Q] 81));have r:Hid (w.grownBy W none):=by rw [hW];exact ag (ag (ae _ _) _) _
 have b:Hid (∀ wx,W.grownBy wx none->wx.cell? ⟨w.heap.size,0,none⟩=some (.bool (rB p))/\wx.cell? ⟨w.heap.size,1,none⟩=some (.slice A B C)/\wx.cell? ⟨w.heap.size,2,none⟩=some (.slice d E F)/\wx.cell? ⟨w.heap.size+1,0,none⟩=some (.bool (rB q))/\wx.cell? ⟨w.heap.size+1,1,none⟩=some (.slice G H I)/\wx.cell? ⟨w.heap.size+1,2,none⟩=some (.slice N P Q)):=by
  intro wx hg;rw [hW] at hg;have o:=aG (aa (ag (ae _ none) _) hg);have s:=aG hg;rw [show (w.alloc (Obj.cells #[.bool (rB p),.slice A B C,.slice d E F] 81)).heap.size=w.heap.size+1 from by simp] at s;exact ⟨o.1,o.2.1,o.2.2,s⟩
 have a:W.grownBy W none:=ae _ _;obtain ⟨s0,s1,s2,s3,s4,s5⟩:=b.out W a;have hv:-1<=p.num.sign/\p.num.sign<=1:=by
  rcases Int.sign_trichotomy p.num with h | h | h<;>omega
 have hw:-1<=q.num.sign/\q.num.sign<=1:=by
  rcases Int.sign_trichotomy q.num with h | h | h<;>omega
 obtain ⟨hj,hk⟩:=hv;obtain ⟨hm,ho⟩:=hw;obtain ⟨n,Y⟩:=eX p.num.sign;obtain ⟨sq,he⟩:=eX q.num.sign;have m:=ab Y;have t:=ab he;rw [<- Y] at hj hk;rw [<- he] at hm ho;clear Y he;go_enter Tryz.func39,Tryz.ntmps39
 go_wp2;rw [<- hW];clear hW;go_cut [9] (fun s9 wx=>Hid (W.grownBy wx none/\s9=.bool (n != sq)))
 case first =>
  go_region_held3 (fun w'=>w'.cell? ⟨w.heap.size,0,none⟩=some (.bool (rB p))/\w'.cell? ⟨w.heap.size,1,none⟩=some (.slice A B C)/\w'.cell? ⟨w.heap.size,2,none⟩=some (.slice d E F)/\w'.cell? ⟨w.heap.size+1,0,none⟩=some (.bool (rB q))/\w'.cell? ⟨w.heap.size+1,1,none⟩=some (.slice G H I)/\w'.cell? ⟨w.heap.size+1,2,none⟩=some (.slice N P Q)) (go_keep)
   (first | (go_at_call_of 38 (Value.agg #[.bool (rB p),.slice A B C,.slice d E F]);refine (iU _ p M _ (HX.keep0 (aa r (by first | exact a | exact aa a (aP _) | exact aa a aA | exact aa a (aj (ae _ _) 1))))).mono ?_;rintro e k ⟨rfl,c⟩;(try have f:=f.keep0 (aa zE c));(try have g:=g.keep0 (aa zE c));(try have i:=i.keep0 (aa zE c));(try have j:=j.keep0 (aa zE c));have a:W.grownBy k none:=aa (by first | exact a | exact aa a (aP _) | exact aa a aA | exact aa a (aj (ae _ _) 1)) c;obtain ⟨R,o,s,S,T,U⟩:=b.out k a) | (go_at_call_of 38 (Value.agg #[.bool (rB q),.slice G H I,.slice N P Q]);refine (iU _ q V _ (HY.keep0 (aa r (by first | exact a | exact aa a (aP _) | exact aa a aA | exact aa a (aj (ae _ _) 1))))).mono ?_;rintro e D ⟨rfl,c⟩;(try have f:=f.keep0 (aa zE c));(try have g:=g.keep0 (aa zE c));(try have i:=i.keep0 (aa zE c));(try have j:=j.keep0 (aa zE c));have a:W.grownBy D none:=aa (by first | exact a | exact aa a (aP _) | exact aa a aA | exact aa a (aj (ae _ _) 1)) c;obtain ⟨R,o,s,S,T,U⟩:=b.out D a))
  all_goals
   rw [<- m,<- t];go_wp2_with fail;go_meet
   exact ⟨(by first | exact a | exact aa a (aP _) | exact aa a aA | exact aa a (aj (ae _ _) 1)),by first | rfl | simp⟩
 case rest =>
  obtain ⟨hG,rfl⟩:=hcut.out;clear a;have a:=hG;clear hG hcut s0 s1 s2 s3 s4 s5;obtain ⟨s0,s1,s2,s3,s4,s5⟩:=b.out wc a;by_cases hs:n=sq
  ·have X:(n != sq)=false:=by simp [hs]
   rw [X];have HC:Hid (p.num.sign*gG (rN p*q.den) (rN q*p.den)=qu p q):=Cb p q (by rw [<- m,<- t];exact hs);have hz:-1<=gG (rN p*q.den) (rN q*p.den):=by unfold gG;split<;>(try split)<;>omega
   have hA:gG (rN p*q.den) (rN q*p.den)<=1:=by unfold gG;split<;>(try split)<;>omega
   obtain ⟨J,hf⟩:=eX (gG (rN p*q.den) (rN q*p.den));rw [<- hf] at HC hz hA;have hB:=ab hf;have hC:-1<=n*J:=by
    have u:J = -1∨J=0∨J=1:=O
    have z:n = -1∨n=0∨n=1:=O
    rcases u with u | u | u<;>rcases z with z | z | z<;>rw [u,z]<;>decide
   have hD:n*J<=1:=by
    have u:J = -1∨J=0∨J=1:=O
    have z:n = -1∨n=0∨n=1:=O
    rcases u with u | u | u<;>rcases z with z | z | z<;>rw [u,z]<;>decide
   clear hf hs;go_wp2;go_region_held3 (fun w'=>w'.cell? ⟨w.heap.size,0,none⟩=some (.bool (rB p))/\w'.cell? ⟨w.heap.size,1,none⟩=some (.slice A B C)/\w'.cell? ⟨w.heap.size,2,none⟩=some (.slice d E F)/\w'.cell? ⟨w.heap.size+1,0,none⟩=some (.bool (rB q))/\w'.cell? ⟨w.heap.size+1,1,none⟩=some (.slice G H I)/\w'.cell? ⟨w.heap.size+1,2,none⟩=some (.slice N P Q)) (go_keep)
    (first | (go_at_call_of 38 (Value.agg #[.bool (rB p),.slice A B C,.slice d E F]);refine (iU _ p M _ (HX.keep0 (aa r (by first | exact a | exact aa a (aP _) | exact aa a aA | exact aa a (aj (ae _ _) 1))))).mono ?_;rintro e k ⟨rfl,c⟩;(try have f:=f.keep0 (aa zE c));(try have g:=g.keep0 (aa zE c));(try have i:=i.keep0 (aa zE c));(try have j:=j.keep0 (aa zE c));have a:W.grownBy k none:=aa (by first | exact a | exact aa a (aP _) | exact aa a aA | exact aa a (aj (ae _ _) 1)) c;obtain ⟨R,o,s,S,T,U⟩:=b.out k a;rw [<- m]) | (go_at_call_of 77 (Value.agg #[.bool (rB q),.slice G H I,.slice N P Q]);refine (fB _ _ _ _ V _ (HY.keep0 (aa r (by first | exact a | exact aa a (aP _) | exact aa a aA | exact aa a (aj (ae _ _) 1))))).mono ?_;rintro e hp ⟨hE,rfl,f,K⟩;obtain ⟨hF,hH,hI,rfl,_,_,_⟩:=f.shape;(try have g:=g.keep0 (aa zE K));(try have i:=i.keep0 (aa zE K));(try have j:=j.keep0 (aa zE K));have a:W.grownBy hp none:=aa (by first | exact a | exact aa a (aP _) | exact aa a aA | exact aa a (aj (ae _ _) 1)) K;obtain ⟨R,o,s,S,T,U⟩:=b.out hp a) | (go_at_call_of 77 (Value.agg #[.bool (rB p),.slice A B C,.slice d E F]);refine (fB _ _ _ _ M _ (HX.keep0 (aa r (by first | exact a | exact aa a (aP _) | exact aa a aA | exact aa a (aj (ae _ _) 1))))).mono ?_;rintro e hq ⟨hJ,rfl,i,K⟩;obtain ⟨hK,hL,hM,rfl,_,_,_⟩:=i.shape;(try have g:=g.keep0 (aa zE K));(try have f:=f.keep0 (aa zE K));(try have j:=j.keep0 (aa zE K));have a:W.grownBy hq none:=aa (by first | exact a | exact aa a (aP _) | exact aa a aA | exact aa a (aj (ae _ _) 1)) K;obtain ⟨R,o,s,S,T,U⟩:=b.out hq a) | (go_at_call_of 76 (Value.slice A B C);refine (eP _ _ (rN p) q.den M (V+1) _ (NX.keep0 (aa r (by first | exact a | exact aa a (aP _) | exact aa a aA | exact aa a (aj (ae _ _) 1)))) (f.keep0 zE) O).mono ?_;rintro e hr ⟨hN,rfl,g,L,_⟩;obtain ⟨hQ,hR,hS,rfl,_,_,_⟩:=g.shape;(try have f:=f.keep0 (aa zE L));(try have i:=i.keep0 (aa zE L));(try have j:=j.keep0 (aa zE L));have a:W.grownBy hr none:=aa (by first | exact a | exact aa a (aP _) | exact aa a aA | exact aa a (aj (ae _ _) 1)) L;obtain ⟨R,o,s,S,T,U⟩:=b.out hr a) | (go_at_call_of 76 (Value.slice G H I);refine (eP _ _ (rN q) p.den V (M+1) _ (NY.keep0 (aa r (by first | exact a | exact aa a (aP _) | exact aa a aA | exact aa a (aj (ae _ _) 1)))) (i.keep0 zE) O).mono ?_;rintro e hu ⟨hT,rfl,j,L,_⟩;obtain ⟨hX,hY,ka,rfl,_,_,_⟩:=j.shape;(try have f:=f.keep0 (aa zE L));(try have i:=i.keep0 (aa zE L));(try have g:=g.keep0 (aa zE L));have a:W.grownBy hu none:=aa (by first | exact a | exact aa a (aP _) | exact aa a aA | exact aa a (aj (ae _ _) 1)) L;obtain ⟨R,o,s,S,T,U⟩:=b.out hu a) | (go_at_call 75;refine (jt _ _ (rN p*q.den) (rN q*p.den) _ _ _ (g.keep0 zE) (j.keep0 zE)).mono ?_;rintro e kb ⟨rfl,qc,rfl⟩;rw [<- hB]))
   all_goals
    go_wp2;go_ret;refine ⟨?_,aa r (by first | exact a | exact aa a (aP _) | exact aa a aA | exact aa a (aj (ae _ _) 1))⟩;have hc:=HC.out;rw [<- m] at hc;rw [<- hc];first | rfl | (show Ending.returned (Value.int .i64 (IntKind.i64.wrap (n*J)))=_;rw [IntWalk.i64_in _ ⟨O,O⟩])
  ·have X:(n != sq)=true:=by simp [hs]
   rw [X];have HC:Hid (jT (n-sq)=qu p q):=by
    show _=_
    rw [m,t];exact Ca p q (by rw [<- m,<- t];exact hs)
   clear hs;go_wp2;go_region_held3 (fun w'=>w'.cell? ⟨w.heap.size,0,none⟩=some (.bool (rB p))/\w'.cell? ⟨w.heap.size,1,none⟩=some (.slice A B C)/\w'.cell? ⟨w.heap.size,2,none⟩=some (.slice d E F)/\w'.cell? ⟨w.heap.size+1,0,none⟩=some (.bool (rB q))/\w'.cell? ⟨w.heap.size+1,1,none⟩=some (.slice G H I)/\w'.cell? ⟨w.heap.size+1,2,none⟩=some (.slice N P Q)) (go_keep)
    (first | (go_at_call_of 38 (Value.agg #[.bool (rB p),.slice A B C,.slice d E F]);refine (iU _ p M _ (HX.keep0 (aa r (by first | exact a | exact aa a (aP _) | exact aa a aA | exact aa a (aj (ae _ _) 1))))).mono ?_;rintro e k ⟨rfl,c⟩;(try have f:=f.keep0 (aa zE c));(try have g:=g.keep0 (aa zE c));(try have i:=i.keep0 (aa zE c));(try have j:=j.keep0 (aa zE c));have a:W.grownBy k none:=aa (by first | exact a | exact aa a (aP _) | exact aa a aA | exact aa a (aj (ae _ _) 1)) c;obtain ⟨R,o,s,S,T,U⟩:=b.out k a;rw [<- m]) | (go_at_call_of 38 (Value.agg #[.bool (rB q),.slice G H I,.slice N P Q]);refine (iU _ q V _ (HY.keep0 (aa r (by first | exact a | exact aa a (aP _) | exact aa a aA | exact aa a (aj (ae _ _) 1))))).mono ?_;rintro e D ⟨rfl,c⟩;(try have f:=f.keep0 (aa zE c));(try have g:=g.keep0 (aa zE c));(try have i:=i.keep0 (aa zE c));(try have j:=j.keep0 (aa zE c));have a:W.grownBy D none:=aa (by first | exact a | exact aa a (aP _) | exact aa a aA | exact aa a (aj (ae _ _) 1)) c;obtain ⟨R,o,s,S,T,U⟩:=b.out D a;rw [<- t]) | (go_at_call 74;refine (lV _ _).mono ?_;rintro e kc ⟨rfl,rfl⟩))
   all_goals
    go_wp2;go_ret;refine ⟨?_,aa r (by first | exact a | exact aa a (aP _) | exact aa a aA | exact aa a (aj (ae _ _) 1))⟩;rw [<- HC];first | rfl | (show Ending.returned (Value.int .i64 (jT (IntKind.i64.wrap (n-sq))))=_;rw [IntWalk.i64_in _ ⟨O,O⟩])
def eC (w:World) (base:Nat) (v:Value) (l:List UInt8):Prop:=w.ownsRow base 5 1 v l.length (Lib.byteCells l)
theorem Tryz.infoU8:(Tryz.prog.info? 5).map (fun i=>(i.zero,i.size,i.bytes))=some (some (.int .u8 0),1,1):=zK
theorem eC.nil (w:World) (base:Nat):eC w base (.slice none 0 0) []:=World.ownsRow_nil _ _ _ _
theorem eC.shape (h:eC w base v l):∃ ao cap,v=.slice ao l.length cap/\l.length<=cap/\cap<=9223372036854775807:=by
 rcases h.2 with ⟨rfl,a⟩ | ⟨g,cap,b,rfl,hb,hh,c,d,e,f⟩
 ·exact ⟨none,0,by rw [a],O,O⟩
 ·exact ⟨_,cap,rfl,c,by unfold maxLen at d;omega⟩
theorem qG {a:Array Value} (h:a.toList.take (l.length*1)=Lib.byteCells l) (i:Nat) (hi:i<l.length):a[i]? = some (.int .u8 (l[i].toNat:Nat)):=by
 have b:(a.toList.take (l.length*1))[i]? = (Lib.byteCells l)[i]?:=by rw [h]
 rw [List.getElem?_take,if_pos O] at b;simpa [Lib.byteCells,hi] using b
theorem eC.open (h:eC w base v l) (d:0<l.length):∃ g cap,v=.slice (some ⟨g,0,none⟩) l.length cap/\l.length<=cap/\cap<=9223372036854775807/\base<=g/\g<w.heap.size:=by
 rcases h.2 with ⟨rfl,a⟩ | ⟨g,cap,b,rfl,hb,hh,a,c,e,f⟩
 ·omega
 ·exact ⟨g,cap,rfl,a,by unfold maxLen at c;omega,hb,(zZ hh).1⟩
theorem eC.at {g cap:Nat} (h:eC w base (.slice (some ⟨g,0,none⟩) l.length cap) l) (i:Nat) (hi:i<l.length) :
  w.cell? ⟨g,i,none⟩=some (.int .u8 (l[i].toNat:Nat))/\w.frozen? ⟨g,i,none⟩=false /\
   ∀ (x:UInt8) (z:Int),z=(x.toNat:Int)->eC (w.setCell ⟨g,i,none⟩ (.int .u8 z)) base (.slice (some ⟨g,0,none⟩) l.length cap) (l.set i x):=by
 rcases h.2 with ⟨a,_⟩ | ⟨m,c,b,a,hb,hh,f,j,k,d⟩
 ·simp at a
 ·simp only [Value.slice.injEq,zI,Addr.mk.injEq,and_true,true_and] at a;obtain ⟨rfl,rfl⟩:=a;refine ⟨?_,?_,?_⟩
  ·simp only [World.cell?,hh];exact qG d i hi
  ·simp [World.frozen?,hh]
  ·intro x z e;refine ⟨by simp [Lib.byteCells],.inr ⟨g,cap,b.setIfInBounds i (.int .u8 z),Z,hb,?_,by simpa using f,j,by simpa using k,?_⟩⟩
   ·rw [heap_setCell_same w g i _ _ _ hh]
   ·subst e;rw [Array.toList_setIfInBounds,List.length_set,List.take_set,d];simp [Lib.byteCells,List.map_set]
theorem eC.keep {row:Option Nat} (h:eC w base v l) (hg:w.grownBy w' row) (a:∀ k,row=some k->ar v≠some k):eC w' base v l:=by
 refine World.ownsRow.kept h hg ?_;cases row with
 | none=>cases hv:v.ownBlock<;>simp
 | some k =>
  right
  intro e;refine a k rfl ?_;rw [<- e];cases v<;>rfl
theorem eC.keep0 (h:eC w base v l) (hg:w.grownBy w' none):eC w' base v l:=h.keep hg nofun
theorem eC.alloc (h:eC w base v l) (o:Obj):eC (w.alloc o) base v l:=World.ownsRow.alloc h o
theorem eC.fresh (h:eC w base v l):∀ k,ar v=some k->base<=k/\k<w.heap.size:=by
 intro k a;rcases h.2 with ⟨rfl,c⟩ | ⟨g,cap,b,rfl,hb,hh,d,e,f,i⟩
 ·simp [ar] at a
 ·simp [ar] at a;subst a;exact ⟨hb,(zZ hh).1⟩
theorem CK {w1 a:World} {r:Option Nat} (h:w.grownBy w1 none) (k:w1.grownBy a r) (hb:∀ b,r=some b->w.heap.size<=b):w.grownBy a none :=
 aw h k (fun _ _ e=>e) (fun b c e=>by have:=hb b e.symm;omega)
theorem AY (v:Value):v.ownBlock=ar v:=by cases v<;>rfl
theorem ij (w:World) {d:Array Oper} {rest:List Oper} {o:Oper} {a:Act} {Q:Exit->Act->World->Prop} (hg:o.guard=none) (x y:Operand) (hop:o.op=Op.call { callee:=.builtin .append,args:=#[x,y],argTypes:=#[138,138] }) (base:Nat) (v:Value) (l:List UInt8) (s:a.eval x=v) (g:Nat) (z:Int) (c:UInt8) (t:z=(c.toNat:Int)) (hy:a.eval y=.slice (some ⟨g,0,none⟩) 1 1) (b:w.cell? ⟨g,0,none⟩=some (.int .u8 z)) (h:eC w base v l) (B:l.length<=1000000000) (hb:base<=w.heap.size)
  (hK:∀ v' w',eC w' base v' (l++[c])->w.grownBy w' (ar v)->wpList Tryz.prog d Q rest (a.put o.dst v') w') :
  wpList Tryz.prog d Q (o :: rest) a w:=by
 obtain ⟨A,m,n,p,q⟩:=info_parts Tryz.infoU8;refine wpList_append_own w hg x y 138 hop base 5 A (.int .u8 0) 1 1 Tryz.underlying138 m n p q rfl zD v l.length (Lib.byteCells l) s h ⟨g,0,none⟩ 1 1 [.int .u8 z] hy rfl ?_ ?_ (by unfold maxLen;omega) O hb ?_
 ·intro j u i;match j with
  | 0 =>
   simp only [List.getElem?_cons_zero,zI] at i;subst i;simpa [Addr.add] using b
  | j+1=>simp at i
 ·intro u r;simp only [List.mem_singleton] at r;subst r;rfl
 ·intro v' w' f k _;refine hK v' w' ?_ (by rw [<- AY];exact k);unfold eC;rw [List.length_append,List.length_singleton];have e:Lib.byteCells (l++[c])=Lib.byteCells l++[.int .u8 z]:=by rw [t];simp [Lib.byteCells]
  rw [e];exact f
theorem eC.string (h:eC w base v l) (a:0<l.length) :
  (convert 138 9 v).run Tryz.prog w=.ok (.string ⟨l.toArray⟩) w:=by
 obtain ⟨g,cap,rfl,_,_,_,_⟩:=h.open a;refine run_convert_bytes_back (P:=Tryz.prog) w 138 9 5 ⟨g,0,none⟩ cap l Tryz.underlying138 Tryz.underlying5 Tryz.underlying9 ?_;intro j b;rw [show (⟨g,0,none⟩:Addr).add j=⟨g,j,none⟩ from by simp [Addr.add];exact Eq.symm];exact (h.at j b).1
def dI (l:List UInt8) (i:Nat):List UInt8:=(List.range l.length).map fun p=>if p<i∨l.length<p+1+i then l.getD (l.length-1-p) 0 else l.getD p 0
theorem cF (l:List UInt8) (i:Nat):(dI l i).length=l.length:=by simp [dI]
theorem kK (l:List UInt8) (i p:Nat) (h:p<(dI l i).length):(dI l i)[p]=if p<i∨l.length<p+1+i then l.getD (l.length-1-p) 0 else l.getD p 0:=by simp [dI]
theorem vU (l:List UInt8):dI l 0=l:=by
 apply List.ext_getElem (cF l 0);intro p b a;rw [kK,if_neg O];simp [List.getD,a]
theorem Ev (l:List UInt8) (i:Nat) (h:i+i+1<l.length):((dI l i).set i (l.getD (l.length-1-i) 0)).set (l.length-1-i) (l.getD i 0)=dI l (i+1):=by
 apply List.ext_getElem (by simp [cF]);intro p f d;rw [List.getElem_set,List.getElem_set,kK,kK];have e:p<l.length:=by simpa [cF] using d
 by_cases a:l.length-1-i=p
 ·rw [if_pos a,if_pos O,<- a];congr 1
  omega
 ·rw [if_neg a];by_cases b:i=p
  ·rw [if_pos b,if_pos O,b]
  ·rw [if_neg b];by_cases c:p<i∨l.length<p+1+i
   ·rw [if_pos c,if_pos O]
   ·rw [if_neg c,if_neg O]
theorem zA (l:List UInt8) (i:Nat) (h:l.length<=i+i+1):dI l i=l.reverse:=by
 apply List.ext_getElem (by simp [cF]);intro p c d;have a:p<l.length:=by simpa [cF] using c
 rw [kK,List.getElem_reverse];by_cases e:p<i∨l.length<p+1+i
 ·rw [if_pos e];simp [List.getD,show l.length-1-p<l.length by omega]
 ·rw [if_neg e];have b:l.length-1-p=p:=O
  simp [List.getD,a,b]
end Go.Proofs.YtkbmbmdemajoaaaGreatDoor
