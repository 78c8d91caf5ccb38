/- Contracts. -/
import Derived.Test.YtbfohfjobncehaaGreatDoorXPg
namespace Go.Proofs.YtbfohfjobncehaaGreatDoor
open Go.RowKit
set_option linter.all false
set_option maxHeartbeats 8000000
set_option maxRecDepth 10000
def lR:List aD:=[⟨4,1,0,0,0,⟨#[49,48]⟩⟩,⟨1,1,2,0,0,⟨#[50]⟩⟩,⟨1,2,0,0,0,⟨#[51]⟩⟩]
theorem ofR_two:dh [50]=2:=by unfold dh;decide +kernel
theorem BA:dh [51]=3:=by unfold dh;decide +kernel
theorem sw:aM false 3 lR=(0,0):=by decide +kernel
def V0:Nat->Rat:=fun j=>if j=1 then 10 else if j=2 then 6 else 0
def I0:Nat->Rat:=fun i=>if i=0 then -2 else 2
def U0:Nat->Rat:=fun j=>if j=2 then 6 / 5 else 0
def J0:Nat->Rat:=fun i=>if i=0 then 3 / 5 else if i=1 then -(3 / 5) else if i=2 then 2 / 5 else 1
theorem ps0_hom (V I:Nat->Rat) (h:kA 3 lR V I):(∀ j,j<3->V j=0)/\∀ i,i<3->I i=0:=by
 have g:=h.gnd;have k:fG (fun i=>cO lR i 1*I i) 3=0:=h.node 1 O O;have l:fG (fun i=>cO lR i 2*I i) 3=0:=h.node 2 O O;have m:=h.part 0 zD;have n:=h.part 1 zD;have o:=h.part 2 zD;have a:cO lR 0 1=1:=by decide +kernel
 have b:cO lR 1 1=1:=by decide +kernel
 have c:cO lR 2 1=0:=by decide +kernel
 have d:cO lR 0 2=0:=by decide +kernel
 have e:cO lR 1 2 = -1:=by decide +kernel
 have f:cO lR 2 2=1:=by decide +kernel
 rw [bJ,bJ,bJ,a,b,c] at k;rw [bJ,bJ,bJ,d,e,f] at l;have p:fG (fun i=>cO lR i 1*I i) 0=0:=rfl;have q:fG (fun i=>cO lR i 2*I i) 0=0:=rfl;rw [p] at k;rw [q] at l;have q1:(1:Rat)*(V 1-V 0)+0*(V 0-V 0)+0*I 0=0:=m;have q2:(1:Rat)*(V 1-V 2)+0*(V 0-V 0)+(0-dh [50])*I 1=0:=n;have q3:(1:Rat)*(V 2-V 0)+0*(V 0-V 0)+(0-dh [51])*I 2=0:=o;rw [ofR_two] at q2;rw [BA] at q3;have r:I 1=0:=by grind
 have s:I 0=0:=by grind
 have t:I 2=0:=by grind
 have f1:V 1=0:=by grind
 have u:V 2=0:=by grind
 refine ⟨fun j v=>?_,fun i hi=>?_⟩
 ·match j,v with
  | 0,_=>exact g
  | 1,_=>exact f1
  | 2,_=>exact u
 ·match i,hi with
  | 0,_=>exact s
  | 1,_=>exact r
  | 2,_=>exact t
theorem tM:aE 3 lR V0 I0:=by
 refine ⟨rfl,fun r h0 hn=>?_,fun i hi=>?_⟩
 ·have:r=1∨r=2:=O
  rcases this with rfl | rfl<;>decide +kernel
 ·have hi3:i<3:=hi;match i,hi3 with
  | 0,_=>exact (by decide +kernel:bP 4 (dh [49,48])*(V0 1-V0 0)+cT 4 (dh [49,48])*(V0 0-V0 0)+bQ 4 (dh [49,48])*I0 0=cL 4 (dh [49,48]))
  | 1,_=>exact (by decide +kernel:bP 1 (dh [50])*(V0 1-V0 2)+cT 1 (dh [50])*(V0 0-V0 0)+bQ 1 (dh [50])*I0 1=cL 1 (dh [50]))
  | 2,_=>exact (by decide +kernel:bP 1 (dh [51])*(V0 2-V0 0)+cT 1 (dh [51])*(V0 0-V0 0)+bQ 1 (dh [51])*I0 2=cL 1 (dh [51]))
theorem DP:aW lR 2 0=[⟨4,1,0,0,0,⟨#[48]⟩⟩,⟨1,1,2,0,0,⟨#[50]⟩⟩,⟨1,2,0,0,0,⟨#[51]⟩⟩,⟨5,0,2,0,0,⟨#[49]⟩⟩]:=rfl
theorem vX:aE 3 (aW lR 2 0) U0 J0:=by
 rw [DP];refine ⟨rfl,fun r h0 hn=>?_,fun i hi=>?_⟩
 ·have:r=1∨r=2:=O
  rcases this with rfl | rfl<;>decide +kernel
 ·have hi3:i<4:=hi;match i,hi3 with
  | 0,_=>exact (by decide +kernel:bP 4 (dh [48])*(U0 1-U0 0)+cT 4 (dh [48])*(U0 0-U0 0)+bQ 4 (dh [48])*J0 0=cL 4 (dh [48]))
  | 1,_=>exact (by decide +kernel:bP 1 (dh [50])*(U0 1-U0 2)+cT 1 (dh [50])*(U0 0-U0 0)+bQ 1 (dh [50])*J0 1=cL 1 (dh [50]))
  | 2,_=>exact (by decide +kernel:bP 1 (dh [51])*(U0 2-U0 0)+cT 1 (dh [51])*(U0 0-U0 0)+bQ 1 (dh [51])*J0 2=cL 1 (dh [51]))
  | 3,_=>exact (by decide +kernel:bP 5 (dh [49])*(U0 0-U0 2)+cT 5 (dh [49])*(U0 0-U0 0)+bQ 5 (dh [49])*J0 3=cL 5 (dh [49]))
theorem jP:∀ V' I',aE 3 lR V' I'->(∀ j,j<3->V' j=V0 j)/\∀ i,i<3->I' i=I0 i:=by
 intro V' I' h;obtain ⟨h1,h2⟩:=ps0_hom _ _ (h.sub tM);refine ⟨fun j hj=>?_,fun i hi=>?_⟩
 ·have:V' j-V0 j=0:=h1 j hj;grind
 ·have:I' i-I0 i=0:=h2 i hi;grind
theorem DR {c1 c2:Int} {f g:Nat} {V I:Nat->Rat} (h:kp 3 lR c1 c2 f g V I):c1=0/\c2=0/\aL V f=[⟨#[48]⟩,⟨#[49,48]⟩,⟨#[54]⟩]/\aL I g=[⟨#[45,50]⟩,⟨#[50]⟩,⟨#[50]⟩]:=by
 rcases h with ⟨h,_⟩ | ⟨_,l,(⟨rfl,m,n,b,p⟩ | ⟨_,_,_,b⟩ | ⟨_,_,_,b⟩)⟩
 ·exact absurd (by rw [sw]) h
 ·obtain ⟨k1,i⟩:=jP V I b;have d:f=3:=m;have e:g=3:=n;refine ⟨rfl,l,?_,?_⟩
  ·rw [d];have:aL V 3=aL V0 3:=List.map_congr_left (fun j k=>by rw [k1 j (List.mem_range.1 k)]);rw [this];decide +kernel
  ·rw [e];have:aL I 3=aL I0 3:=List.map_congr_left (fun j k=>by rw [i j (List.mem_range.1 k)]);rw [this];decide +kernel
 ·exact absurd ⟨_,_,tM⟩ b
 ·exfalso
  obtain ⟨A,B,A',q,k1,i,o⟩:=b;have d:=jP _ _ k1;have e:=jP _ _ i;rcases o with ⟨t,c,a⟩ | ⟨t,c,a⟩
  ·exact a (by rw [d.1 t c,e.1 t c])
  ·exact a (by rw [d.2 t c,e.2 t c])
theorem AP {x y:ByteArray} (h:x.toList=y.toList):x=y:=by
 rw [ByteArray.toList_eq,ByteArray.toList_eq] at h;cases x
 cases y
 congr 1
 exact Array.ext' h
def EquR (W:World) (xs ys:List ByteArray) (v:Value) (wr:World):Prop:=∃ i:Nat,i<=xs.length/\v=.int .i64 i/\(∀ j,j<i->xs[j]? = ys[j]?)/\W.grownBy wr none
theorem jm (v1 v2:Value) (xs ys:List ByteArray) (w:World) (C:pR sv w v1 xs) (D:pR sv w v2 ys) (P:xs.length<=100000) (E:ys.length<=100000) :
  Calls Tryz.prog 17 #[v1,v2] w fun e N=>e=.returned (.bool (decide (xs=ys)))/\w.grownBy N none:=by
 obtain ⟨Q,cap,rfl,R,K,t⟩:=C;obtain ⟨S,l,rfl,T,L,u⟩:=D;unfold maxLen at K L;have F:=aa t;have G:=aa u;clear t u;by_cases a:xs.length=ys.length
 ·have d:=aa a;have f:(((xs.length:Nat):Int)==((ys.length:Nat):Int))=true:=by rw [a];simp
  rw [<- a];have H:xs.length<=l:=O
  clear a f;go_enter Tryz.func17,Tryz.ntmps17
  go_wp2;go_loopw [13] (fun v wr=>Hid (EquR w xs ys v wr)) (fun v _=>xs.length-(intOf v).toNat)
  case atStart=>exact ⟨0,O,rfl,fun j hj=>O,ag _ _⟩
  case round =>
   obtain ⟨i,hi,rfl,z,A⟩:=hrel.out;have q:=aa z;have c:=aa A;clear z A hrel;by_cases hlt:i<xs.length
   ·have g:i<ys.length:=by have:=d.out;omega
    obtain ⟨b,off,rfl,hb,n⟩:=F.out i hlt;obtain ⟨U,B,rfl,M,o⟩:=G.out i g;obtain ⟨x,p⟩:=eX (xs[i]);obtain ⟨y,hy⟩:=eX (ys[i]);rw [<- p] at n;rw [<- hy] at o;have c1:=c.out.cell n Z;have c2:=c.out.cell o Z;have r:=aa p;have s:=aa hy;have I:(0:Int)<=(i:Int):=O
    have J:(i:Int)<(xs.length:Int):=O
    clear n o p hy;by_cases h:x=y
    ·subst h;go_wp2;go_region
     all_goals
      go_wp2;go_roundw
      case rel =>
       refine ⟨i+1,O,zN,fun j hj=>?_,by first | exact ab c aX | exact ab c (bG _) | exact c⟩;by_cases e:j=i
       ·subst e;rw [zX hlt,zX g,<- r,<- s]
       ·exact q j O
      case measure=>exact bO
    ·have k:(x.toList==y.toList)=false:=zB (fun e=>h (AP e));have m:=aa h;go_wp2;go_region
     all_goals
      go_wp2;go_ret;refine ⟨?_,by first | exact ab c aX | exact ab c (bG _) | exact c⟩;have:xs≠ys:=by
       intro e;apply m;rw [r,s];subst e;rfl
      rw [decide_eq_false this];rfl
   ·obtain rfl:i=xs.length:=O
    go_wp2;go_ret;refine ⟨?_,c⟩;have:xs=ys:=by
     apply List.ext_getElem?
     intro j;by_cases hj:j<xs.length
     ·exact q j hj
     ·rw [List.getElem?_eq_none O,List.getElem?_eq_none (by have:=d.out;omega)]
    rw [decide_eq_true this];rfl
 ·have f:(((xs.length:Nat):Int)==((ys.length:Nat):Int))=false:=by
   apply zB;omega
  have k:xs≠ys:=fun e=>a (by rw [e])
  rw [decide_eq_false k];clear a k;go_enter Tryz.func17,Tryz.ntmps17
  go_wp2;go_ret;exact ⟨rfl,ag _ _⟩
theorem qE (w:World) (t:TypeId) (x y z:ByteArray):pR sv (w.alloc (Obj.cells #[.string x,.string y,.string z] t)) (.slice (some ⟨w.heap.size,0,none⟩) 3 3) [x,y,z]:=by
 refine ⟨_,3,rfl,Nat.le_refl 3,by unfold maxLen;omega,fun i hi=>⟨w.heap.size,0,rfl,Z,?_⟩⟩;have hn:=heap_alloc_new w (Obj.cells #[.string x,.string y,.string z] t);have a:i<3:=hi;simp only [World.cell?,hn,Nat.zero_add];match i,a with
 | 0,_=>rfl
 | 1,_=>rfl
 | 2,_=>rfl
theorem mi (k a b:Int) (s:ByteArray) (w:World) :
  Calls Tryz.prog 24 #[.int .i64 k,.int .i64 a,.int .i64 b,.string s] w fun e c=>e=.returned (.agg #[.int .i64 k,.int .i64 a,.int .i64 b,.int .i64 0,.int .i64 0,.string s])/\w.grownBy c none:=by
 go_enter Tryz.func24,Tryz.ntmps24
 go_wp2;refine bodyPost_ret (v:=.agg #[.int .i64 k,.int .i64 a,.int .i64 b,.int .i64 0,.int .i64 0,.string s]) (by simp [results,Tryz.results24,go_sem]) rfl ?_;exact ⟨rfl,ae (ag _ _) _⟩
def dG (ps:List aD):Nat:=(ps.map fun p=>p.v.size).sum
theorem jy (n:Nat) (a:List aD):fD (cr n a) (n+a.length)=n+4*a.length+2*dG a:=by
 have b:∀ k,k<=n->fD (cr n a) k=k:=by
  intro k;induction k with
  | zero=>intro _;rfl
  | succ k ih =>
   intro f;unfold fD;have e:cr n a k=0:=by unfold cr;rw [if_pos O]
   rw [ih O,e]
 have c:∀ k,k<=a.length->fD (cr n a) (n+k)=n+4*k+2*dG (a.take k):=by
  intro k;induction k with
  | zero=>intro _;rw [Nat.add_zero,b n zL];simp [dG]
  | succ k ih =>
   intro f;show fD (cr n a) (n+k)+(1+cr n a (n+k))=_
   have e:cr n a (n+k)=2*(a[k].v.size+1)+1:=by
    unfold cr;rw [if_neg O,show n+k-n=k by omega,zX O]
   have d:dG (a.take (k+1))=dG (a.take k)+a[k].v.size:=by
    unfold dG;rw [List.take_succ_eq_append_getElem O,List.map_append,List.sum_append];simp
   rw [ih O,e,d];omega
 have:=c a.length zL;rw [List.take_length] at this;exact this
theorem xj (c:List aD) (a b:Int):dG (aW c a b)<=dG c+c.length+1:=by
 unfold aW dG;rw [List.map_append,List.sum_append];have:∀ qs:List aD,((qs.map aH).map fun p=>p.v.size).sum<=(qs.map fun p=>p.v.size).sum+qs.length:=by
  intro qs;induction qs with
  | nil=>simp
  | cons q r ih =>
   have d:(aH q).v.size<=q.v.size+1:=by
    unfold aH;split
    ·show (1:Nat)<=_;omega
    ·omega
   simp only [List.map_cons,List.sum_cons,List.length_cons];omega
 have e:=this c;have f:(([⟨5,b,a,0,0,⟨#[49]⟩⟩]:List aD).map fun p=>p.v.size).sum=1:=rfl;omega
theorem kQ (c:List aD) (a b:Int):(aW c a b).length=c.length+1:=by simp [aW]
theorem nS (n:Nat) (c:List aD) (a b:Int):fD (cr n (aW c a b)) (n+(c.length+1))<=n+6*(c.length+1)+2*dG c:=by
 have h:=jy n (aW c a b);rw [kQ] at h;have:=xj c a b;omega
theorem DQ {w f:World} {e:Ending} (h:SeenE w 3 lR 2 0 e f):e=.returned (.tuple #[.string ⟨#[54]⟩,.string ⟨#[54,47,53]⟩,.agg #[.int .i64 0,.int .i64 0]])/\w.grownBy f none:=by
 obtain ⟨s1,s2,c1,c2,rfl,g,hc⟩:=h;refine ⟨?_,g⟩;rcases hc with ⟨h,_⟩ | ⟨_,h,_⟩ | ⟨_,_,_,_,_,(⟨_,h⟩ | ⟨_,h⟩)⟩ | ⟨_,_,rfl,rfl,V,I,U,J,k1,i,j,k,rfl,rfl⟩
 ·exact absurd (by rw [sw]) h
 ·exact absurd zD h
 ·exact absurd ⟨_,_,tM⟩ h
 ·exfalso
  obtain ⟨A,B,A',l,k1,i,j⟩:=h;have c:=jP _ _ k1;have d:=jP _ _ i;rcases j with ⟨t,b,a⟩ | ⟨t,b,a⟩
  ·exact a (by rw [c.1 t b,d.1 t b])
  ·exact a (by rw [c.2 t b,d.2 t b])
 ·have v2:V 2=V0 2:=(jP V I k1).1 2 zD;have v0:V 0=V0 0:=(jP V I k1).1 0 zD;have u2:U0 2=U 2:=(k U0 J0 vX).1 2 zD;have u0:U0 0=U 0:=(k U0 J0 vX).1 0 zD;have c:V (2:Int).toNat-V (0:Int).toNat=V0 2-V0 0:=by show V 2-V 0=_;rw [v2,v0]
  have d:U (2:Int).toNat-U (0:Int).toNat=U0 2-U0 0:=by show U 2-U 0=_;rw [u2,u0]
  rw [c,d];have q1:(bZ (V0 2-V0 0)).toArray=#[54]:=by decide +kernel
  have q2:(bZ (U0 2-U0 0)).toArray=#[54,47,53]:=by decide +kernel
  rw [q1,q2]
theorem xN (w:World) (hb:lM w) (U:fh w):Calls Tryz.prog 4 #[] w fun e w'=>e=.returned (.bool true)/\w.grownBy w' none:=by
 have W:=aa hb;have X:=aa U;clear hb U;go_enter Tryz.func4,Tryz.ntmps4
 go_wp2_with fail;refine (mi 4 1 0 _ _).mono ?_;rintro e w1 ⟨rfl,g1⟩;have Y:=aa g1;clear g1;go_wp2_with fail;refine (mi 1 1 2 _ _).mono ?_;rintro e w2 ⟨rfl,g2⟩;have G2:=aa (ab Y g2);clear g2 Y;go_wp2_with fail;refine (mi 1 2 0 _ _).mono ?_;rintro e v ⟨rfl,g3⟩;have G3:=aa (ab G2 g3);clear g3 G2;go_upto_region 2 with fail;obtain ⟨x,c⟩:=eX v.heap.size;obtain ⟨gn,l⟩:=eX (v.heap.size+1);obtain ⟨m,b⟩:=eX ((v.alloc (Obj.cells #[.int .i64 4,.int .i64 1,.int .i64 0,.int .i64 0,.int .i64 0,.string ⟨#[49,48]⟩,.int .i64 1,.int .i64 1,.int .i64 2,.int .i64 0,.int .i64 0,.string ⟨#[50]⟩,.int .i64 1,.int .i64 2,.int .i64 0,.int .i64 0,.int .i64 0,.string ⟨#[51]⟩] 60)).alloc (Obj.cells #[.int .i64 3,.slice (some ⟨v.heap.size,0,none⟩) 3 3] 24));have E:Hid (w.grownBy m none):=by rw [b];exact ab G3 (ae (ae (ag _ _) _) _)
 have NC:Hid (∀ wx,m.grownBy wx none->wx.cell? ⟨gn,0,none⟩=some (.int .i64 3)/\wx.cell? ⟨gn,1,none⟩=some (.slice (some ⟨x,0,none⟩) 3 3)):=by
  intro wx hg;rw [b] at hg;rw [l,c];exact ⟨hg.cell zG Z,hg.cell zG Z⟩
 have PA:Hid (aA m (.slice (some ⟨x,0,none⟩) 3 3) lR):=by
  have hh:m.heap[x]? = some (Obj.cells (aK lR).toArray 60 (0,0)):=by
   rw [b,c,heap_alloc_old _ _ Z];exact heap_alloc_new v _
  refine iD (zZ hh).1 rfl zD (by unfold maxLen;omega) (fun i hi=>?_) (fun j hj=>?_)
  ·have F:i<3:=hi;match i,F with
   | 0,_=>exact (by decide:(2:Nat)<=600000000)
   | 1,_=>exact (by decide:(1:Nat)<=600000000)
   | 2,_=>exact (by decide:(1:Nat)<=600000000)
  ·simp only [World.cell?,hh];rw [List.getElem?_toArray];rfl
 rw [<- b];try rw [<- l]
 try rw [<- c]
 clear b l c;have t:Hid (∀ n,bS n lR->fD (cr n lR) (n+lR.length)<4000000):=by
  intro n M;rw [jy];have:=M.hi;have e:dG lR=4:=rfl;have e2:lR.length=3:=rfl;omega
 have G:Hid (∀ n,bS n lR->fD (cr n (aW lR 2 0)) (n+(lR.length+1))<4000000):=by
  intro n M;have h:=nS n lR 2 0;have:=M.hi;have e:dG lR=4:=rfl;have e2:lR.length=3:=rfl;omega
 obtain ⟨P,Q⟩:=NC.out m (ag _ _);go_wp2_with fail;refine (Ev 3 (some ⟨x,0,none⟩) 3 lR 4000000 m (W.keep E) (X.keep0 E) PA t zD zD).mono ?_;rintro e A ⟨c1,c2,m1,m2,V,I,vv,iv,rfl,B,C,sp,g5⟩;obtain ⟨rfl,rfl,t1,t2⟩:=DR sp;rw [t1] at B;rw [t2] at C;obtain ⟨a1,k1,rfl⟩:=B.shape;obtain ⟨a2,k2,rfl⟩:=C.shape;have O1:=aa B.row;have O2:=aa C.row;have G5:=aa g5;simp only [List.length_cons,List.length_nil,Nat.zero_add,Nat.reduceAdd] at O1 O2 ⊢;clear B C sp g5 t1 t2 P Q;go_upto_region 3 with fail;obtain ⟨ga,o⟩:=eX A.heap.size;obtain ⟨gf,p⟩:=eX (A.heap.size+1);obtain ⟨q,d⟩:=eX ((A.alloc (Obj.cells #[.slice a1 3 k1,.slice a2 3 k2] 41)).alloc (Obj.cells #[.int .i64 0,.int .i64 0] 29));have g:Hid (A.grownBy q none):=by rw [d];exact ae (ae (ag _ _) _) _
 have AC:Hid (∀ wx,q.grownBy wx none->wx.cell? ⟨ga,0,none⟩=some (.slice a1 3 k1)/\wx.cell? ⟨ga,1,none⟩=some (.slice a2 3 k2)/\wx.cell? ⟨gf,0,none⟩=some (.int .i64 0)):=by
  intro wx hg;rw [d] at hg;rw [o,p];exact ⟨hg.cell zG Z,hg.cell zG Z,hg.cell zG Z⟩
 have k:Hid (m.grownBy q none):=ab G5 g;have H:Hid (w.grownBy q none):=ab E k;rw [<- d];try rw [<- p]
 try rw [<- o]
 clear d o p;obtain ⟨P,Q⟩:=NC.out q k;go_wp2_with fail;refine (Ar 3 (some ⟨x,0,none⟩) 3 lR 2 0 4000000 q (W.keep H) (X.keep0 H) (PA.keep k) t G zD zD).mono ?_;intro e N u;obtain ⟨rfl,g7⟩:=DQ u;have G7:=aa g7;clear u g7 P Q;go_upto_region 4 with fail;obtain ⟨g8,r⟩:=eX N.heap.size;obtain ⟨s,f⟩:=eX (N.alloc (Obj.cells #[.int .i64 0,.int .i64 0] 29));have J:Hid (N.grownBy s none):=by rw [f];exact ae (ag _ _) _
 have BC:Hid (∀ wx,s.grownBy wx none->wx.cell? ⟨g8,0,none⟩=some (.int .i64 0)):=by
  intro wx hg;rw [f] at hg;rw [r];exact hg.cell zG Z
 have a:Hid (q.grownBy s none):=ab G7 J;rw [<- f];try rw [<- r]
 clear f r;obtain ⟨R,S,T⟩:=AC.out s a;have K:=BC.out s (ag _ _);go_wp2_with fail;refine (jm _ _ [⟨#[48]⟩,⟨#[49,48]⟩,⟨#[54]⟩] [⟨#[48]⟩,⟨#[49,48]⟩,⟨#[54]⟩] _ (O1.keep (ab g (ab a (ae (ag _ _) _)))) (qE s _ _ _ _) zD zD).mono ?_;rintro e D ⟨rfl,g9⟩;rw [decide_eq_true rfl];have z:=aa (ab (ae (ag s none) _) g9);clear g9 R S T K;obtain ⟨R,S,T⟩:=AC.out D (ab a z);have K:=BC.out D z;go_wp2_with fail;refine (jm _ _ [⟨#[45,50]⟩,⟨#[50]⟩,⟨#[50]⟩] [⟨#[45,50]⟩,⟨#[50]⟩,⟨#[50]⟩] _ (O2.keep (ab g (ab a (ab z (ae (ag _ _) _))))) (qE D _ _ _ _) zD zD).mono ?_;rintro e he ⟨rfl,y⟩;rw [decide_eq_true rfl];have L:=aa (ab z (ab (ae (ag D none) _) y));clear y R S T K;go_wp2;go_ret;exact ⟨rfl,ab H (ab a L)⟩
end Go.Proofs.YtbfohfjobncehaaGreatDoor
