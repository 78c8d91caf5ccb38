/- Contracts. -/
import Derived.Test.YtkbmbmdemajoaaaGreatDoorXPs
namespace Go.Proofs.YtkbmbmdemajoaaaGreatDoor
open Go.RowKit
set_option linter.unusedVariables false
set_option linter.unusedSimpArgs false
set_option maxHeartbeats 8000000
set_option maxRecDepth 10000
variable {ps:List aD}
theorem Ac {x y:ByteArray} (h:x.toList=y.toList):x=y:=by
 rw [ByteArray.toList_eq,ByteArray.toList_eq] at h;cases x
 cases y
 congr 1
 exact Array.ext' h
def EquR (W:World) (xs ys:List ByteArray) (v:Value) (wr:World):Prop:=∃ i:Nat,i<=xs.length/\v=.int .i64 i/\(∀ j,j<i->xs[j]? = ys[j]?)/\W.grownBy wr none
theorem qW (v1 v2:Value) (xs ys:List ByteArray) (w:World) (C:mH sv w v1 xs) (D:mH sv w v2 ys) (P:xs.length<=100000) (E:ys.length<=100000) :
  Calls Tryz.prog 14 #[v1,v2] w fun e N=>e=.returned (.bool (decide (xs=ys)))/\w.grownBy N none:=by
 obtain ⟨R,cap,rfl,S,K,t⟩:=C;obtain ⟨bo,l,rfl,T,L,u⟩:=D;unfold maxLen at K L;have F:=ab t;have G:=ab u;clear t u;by_cases a:xs.length=ys.length
 ·have d:=ab a;have f:(((xs.length:Nat):Int)==((ys.length:Nat):Int))=true:=by rw [a];simp
  rw [<- a];have H:xs.length<=l:=O
  clear a f;go_enter Tryz.func14,Tryz.ntmps14
  go_wp2;go_loopw [13] (fun v wr=>Hid (EquR w xs ys v wr)) (fun v _=>xs.length-(intOf v).toNat)
  case atStart=>exact ⟨0,O,rfl,fun j hj=>O,ae _ _⟩
  case round =>
   obtain ⟨i,hi,rfl,z,A⟩:=hrel.out;have q:=ab z;have c:=ab A;clear z A hrel;by_cases hlt:i<xs.length
   ·have g:i<ys.length:=by have:=d.out;omega
    obtain ⟨b,off,rfl,hb,n⟩:=F.out i hlt;obtain ⟨b',B,rfl,M,o⟩:=G.out i g;obtain ⟨x,p⟩:=eX (xs[i]);obtain ⟨y,hy⟩:=eX (ys[i]);rw [<- p] at n;rw [<- hy] at o;have c1:=c.out.cell n Z;have Q:=c.out.cell o Z;have r:=ab p;have s:=ab hy;have I:(0:Int)<=(i:Int):=O
    have J:(i:Int)<(xs.length:Int):=O
    clear n o p hy;by_cases h:x=y
    ·subst h;go_wp2;go_region
     all_goals
      go_wp2;go_roundw
      case rel =>
       refine ⟨i+1,O,zN,fun j hj=>?_,by first | exact aa c aA | exact aa c (aP _) | exact c⟩;by_cases e:j=i
       ·subst e;rw [zX hlt,zX g,<- r,<- s]
       ·exact q j O
      case measure=>simp [intOf];omega
    ·have k:(x.toList==y.toList)=false:=zB (fun e=>h (Ac e));have m:=ab h;go_wp2;go_region
     all_goals
      go_wp2;go_ret;refine ⟨?_,by first | exact aa c aA | exact aa c (aP _) | exact c⟩;have:xs≠ys:=by
       intro e;apply m;rw [r,s];subst e;rfl
      rw [decide_eq_false this];rfl
   ·obtain rfl:i=xs.length:=O
    go_wp2;go_ret;refine ⟨?_,c⟩;have:xs=ys:=by
     apply List.ext_getElem?
     intro j;by_cases hj:j<xs.length
     ·exact q j hj
     ·rw [List.getElem?_eq_none O,List.getElem?_eq_none (by have:=d.out;omega)]
    rw [decide_eq_true this];rfl
 ·have f:(((xs.length:Nat):Int)==((ys.length:Nat):Int))=false:=by
   apply zB;omega
  have k:xs≠ys:=fun e=>a (by rw [e])
  rw [decide_eq_false k];clear a k;go_enter Tryz.func14,Tryz.ntmps14
  go_wp2;go_ret;exact ⟨rfl,ae _ _⟩
def EquBR (W:World) (xs ys:List Bool) (v:Value) (wr:World):Prop:=∃ i:Nat,i<=xs.length/\v=.int .i64 i/\(∀ j,j<i->xs[j]? = ys[j]?)/\W.grownBy wr none
theorem qV (v1 v2:Value) (xs ys:List Bool) (w:World) (D:mH bv w v1 xs) (E:mH bv w v2 ys) (Q:xs.length<=100000) (F:ys.length<=100000) :
  Calls Tryz.prog 13 #[v1,v2] w fun e P=>e=.returned (.bool (decide (xs=ys)))/\w.grownBy P none:=by
 obtain ⟨S,cap,rfl,T,L,u⟩:=D;obtain ⟨bo,l,rfl,U,M,z⟩:=E;unfold maxLen at L M;have G:=ab u;have H:=ab z;clear u z;by_cases a:xs.length=ys.length
 ·have f:=ab a;have g:(((xs.length:Nat):Int)==((ys.length:Nat):Int))=true:=by rw [a];simp
  rw [<- a];have I:xs.length<=l:=O
  clear a g;go_enter Tryz.func13,Tryz.ntmps13
  go_wp2;go_loopw [13] (fun v wr=>Hid (EquBR w xs ys v wr)) (fun v _=>xs.length-(intOf v).toNat)
  case atStart=>exact ⟨0,O,rfl,fun j hj=>O,ae _ _⟩
  case round =>
   obtain ⟨i,hi,rfl,A,B⟩:=hrel.out;have q:=ab A;have c:=ab B;clear A B hrel;by_cases hlt:i<xs.length
   ·have h:i<ys.length:=by have:=f.out;omega
    obtain ⟨b,off,rfl,hb,n⟩:=G.out i hlt;obtain ⟨b',C,rfl,N,o⟩:=H.out i h;obtain ⟨x,p⟩:=eX (xs[i]);obtain ⟨y,hy⟩:=eX (ys[i]);rw [<- p] at n;rw [<- hy] at o;have c1:=c.out.cell n Z;have R:=c.out.cell o Z;have r:=ab p;have s:=ab hy;have J:(0:Int)<=(i:Int):=O
    have K:(i:Int)<(xs.length:Int):=O
    clear n o p hy;by_cases k:x=y
    ·subst k;go_wp2;go_region
     all_goals
      go_wp2;go_roundw
      case rel =>
       refine ⟨i+1,O,zN,fun j hj=>?_,by first | exact aa c aA | exact aa c (aP _) | exact c⟩;by_cases e:j=i
       ·subst e;rw [zX hlt,zX h,<- r,<- s]
       ·exact q j O
      case measure=>simp [intOf];omega
    ·have d:(x==y)=false:=zB k;have t:(x != y)=true:=by simp [bne,d]
     have m:=ab k;go_wp2;go_region
     all_goals
      go_wp2;go_ret;refine ⟨?_,by first | exact aa c aA | exact aa c (aP _) | exact c⟩;have:xs≠ys:=by
       intro e;apply m;rw [r,s];subst e;rfl
      rw [decide_eq_false this];rfl
   ·obtain rfl:i=xs.length:=O
    go_wp2;go_ret;refine ⟨?_,c⟩;have:xs=ys:=by
     apply List.ext_getElem?
     intro j;by_cases hj:j<xs.length
     ·exact q j hj
     ·rw [List.getElem?_eq_none O,List.getElem?_eq_none (by have:=f.out;omega)]
    rw [decide_eq_true this];rfl
 ·have g:(((xs.length:Nat):Int)==((ys.length:Nat):Int))=false:=by
   apply zB;omega
  have d:xs≠ys:=fun e=>a (by rw [e])
  rw [decide_eq_false d];clear a d;go_enter Tryz.func13,Tryz.ntmps13
  go_wp2;go_ret;exact ⟨rfl,ae _ _⟩
theorem pU (w:World) (t:TypeId) (x y z:ByteArray):mH sv (w.alloc (Obj.cells #[.string x,.string y,.string z] t)) (.slice (some ⟨w.heap.size,0,none⟩) 3 3) [x,y,z]:=by
 refine ⟨_,3,rfl,Nat.le_refl 3,by unfold maxLen;omega,fun i hi=>⟨w.heap.size,0,rfl,Z,?_⟩⟩;have hn:=heap_alloc_new w (Obj.cells #[.string x,.string y,.string z] t);have a:i<3:=hi;simp only [World.cell?,hn,Nat.zero_add];match i,a with
 | 0,_=>rfl
 | 1,_=>rfl
 | 2,_=>rfl
theorem fG (k a b:Int) (s:ByteArray) (w:World) :
  Calls Tryz.prog 12 #[.int .i64 k,.int .i64 a,.int .i64 b,.string s] w fun e c=>e=.returned (.agg #[.int .i64 k,.int .i64 a,.int .i64 b,.int .i64 0,.int .i64 0,.string s])/\w.grownBy c none:=by
 go_enter Tryz.func12,Tryz.ntmps12
 go_wp2;refine bodyPost_ret (v:=.agg #[.int .i64 k,.int .i64 a,.int .i64 b,.int .i64 0,.int .i64 0,.string s]) (by simp [results,Tryz.results12,go_sem]) rfl ?_;exact ⟨rfl,ag (ae _ _) _⟩
def dO (ps:List aD):Nat:=(ps.map fun p=>p.v.size).sum
theorem p9 (n:Nat) (ps:List aD):iq (cU n ps) (n+ps.length)=n+4*ps.length+2*dO ps:=by
 have a:∀ k,k<=n->iq (cU n ps) k=k:=by
  intro k;induction k with
  | zero=>intro _;rfl
  | succ k ih =>
   intro d;unfold iq;have e:cU n ps k=0:=by unfold cU;rw [if_pos O]
   rw [ih O,e]
 have b:∀ k,k<=ps.length->iq (cU n ps) (n+k)=n+4*k+2*dO (ps.take k):=by
  intro k;induction k with
  | zero=>intro _;rw [Nat.add_zero,a n zL];simp [dO]
  | succ k ih =>
   intro d;show iq (cU n ps) (n+k)+(1+cU n ps (n+k))=_
   have e:cU n ps (n+k)=2*(ps[k].v.size+1)+1:=by
    unfold cU;rw [if_neg O,show n+k-n=k by omega,zX O]
   have c:dO (ps.take (k+1))=dO (ps.take k)+ps[k].v.size:=by
    unfold dO;rw [List.take_succ_eq_append_getElem O,List.map_append,List.sum_append];simp
   rw [ih O,e,c];omega
 have:=b ps.length zL;rw [List.take_length] at this;exact this
attribute [local simp] bX im dR
theorem uG {w d:World} {e:Nat} (a b:Int) (hh:d.heap[e]? = some (Obj.cells (nW (fN a b)).toArray 45 (0,0))):aR d (.slice (some ⟨e,0,none⟩) 3 3) (fN a b):=by
 refine pH (zZ hh).1 rfl zD (by unfold maxLen;omega) (fun i hi=>?_) (fun j f=>?_)
 ·have c:i<3:=hi;match i,c with
  | 0,_=>exact (by decide:(1:Nat)<=600000000)
  | 1,_=>exact (by decide:(0:Nat)<=600000000)
  | 2,_=>exact (by decide:(1:Nat)<=600000000)
 ·simp only [World.cell?,hh];rw [List.getElem?_toArray];rfl
theorem AI:bL 3 (fN 1 2)=(0,0):=by decide +kernel
theorem AJ:bL 3 (fN 2 1)=(0,0):=by decide +kernel
theorem ld_sum (a b:Int):iq (cU 3 (fN a b)) (3+(fN a b).length)<100:=by
 rw [p9];have e:dO (fN a b)=2:=rfl;have c:(fN a b).length=3:=rfl;omega
theorem pB (a b:Int) (c:Nat) (w:World) (hb:lJ w) (f:fT w) (g:aR w (.slice (some ⟨c,0,none⟩) 3 3) (fN a b)) (hc:bL 3 (fN a b)=(0,0)) :
  Calls Tryz.prog 5 #[.agg #[.int .i64 3,.slice (some ⟨c,0,none⟩) 3 3]] w fun e h=>DxE w 3 (fN a b) e h :=
 qO 3 (some ⟨c,0,none⟩) 3 (fN a b) 100 w hb f g (by show (bL 3 (fN a b)).1=0;rw [hc]) (fun p d=>by
  have:p=⟨4,1,0,0,0,⟨#[49]⟩⟩∨p=⟨8,a,b,0,0,⟨#[]⟩⟩∨p=⟨1,2,0,0,0,⟨#[49]⟩⟩:=by simpa [fN] using d
  rcases this with rfl | rfl | rfl
  ·exact (by decide:(1:Nat)+2<=100)
  ·exact (by decide:(0:Nat)+2<=100)
  ·exact (by decide:(1:Nat)+2<=100)) (ld_sum a b) O O
theorem ld_txt1 {I:Nat->Rat} (h:I 0 = -1/\I 1=1/\I 2=1):bB I 3=[⟨#[45,49]⟩,⟨#[49]⟩,⟨#[49]⟩]:=by
 obtain ⟨a,b,c⟩:=h;show [(⟨(bQ (I 0)).toArray⟩:ByteArray),⟨(bQ (I 1)).toArray⟩,⟨(bQ (I 2)).toArray⟩]=_
 rw [a,b,c];decide +kernel
theorem ld_txt2 {I:Nat->Rat} (h:I 0=0/\I 1=0/\I 2=0):bB I 3=[⟨#[48]⟩,⟨#[48]⟩,⟨#[48]⟩]:=by
 obtain ⟨a,b,c⟩:=h;show [(⟨(bQ (I 0)).toArray⟩:ByteArray),⟨(bQ (I 1)).toArray⟩,⟨(bQ (I 2)).toArray⟩]=_
 rw [a,b,c];decide +kernel
theorem uq {a b:Int} {k:Nat} {x:Value} {w:World} {l:List Bool} (h:wE (fN a b) k x w) (f:l=[iY (fN a b) k 0,iY (fN a b) k 1,iY (fN a b) k 2]):mH bv w x l:=by
 subst f;obtain ⟨g,e,c⟩:=h;refine ⟨_,_,e,Nat.le_refl 3,by show (3:Nat)<=maxLen;unfold maxLen;decide,fun i hi=>⟨g,0,rfl,bZ (c 0 (by show 0<3;decide)),?_⟩⟩;have d:i<3:=hi;rw [Nat.zero_add];match i,d with
 | 0,_=>exact c 0 (by show 0<3;decide)
 | 1,_=>exact c 1 (by show 1<3;decide)
 | 2,_=>exact c 2 (by show 2<3;decide)
theorem pT (w:World) (t:TypeId) (x y z:Bool):mH bv (w.alloc (Obj.cells #[.bool x,.bool y,.bool z] t)) (.slice (some ⟨w.heap.size,0,none⟩) 3 3) [x,y,z]:=by
 refine ⟨_,3,rfl,Nat.le_refl 3,by unfold maxLen;omega,fun i hi=>⟨w.heap.size,0,rfl,Z,?_⟩⟩;have hn:=heap_alloc_new w (Obj.cells #[.bool x,.bool y,.bool z] t);have a:i<3:=hi;simp only [World.cell?,hn,Nat.zero_add];match i,a with
 | 0,_=>rfl
 | 1,_=>rfl
 | 2,_=>rfl
theorem Da (w:World) (hb:lJ w) (ht:fT w):Calls Tryz.prog 4 #[] w fun e w'=>e=.returned (.bool true)/\w.grownBy w' none:=by
 have HB:=ab hb;have HT:=ab ht;have G0:Hid (w.grownBy w none):=ae _ _;clear hb ht;go_enter Tryz.func4,Tryz.ntmps4
 go_wp2_with fail;refine (fG 4 1 0 _ _).mono ?_;rintro e wa ⟨rfl,H⟩;have r:=ab (aa G0 H);clear H ;go_wp2_with fail;refine (fG 8 1 2 _ _).mono ?_;rintro e wb ⟨rfl,I⟩;have s:=ab (aa r I);clear I r;go_wp2_with fail;refine (fG 1 2 0 _ _).mono ?_;rintro e g ⟨rfl,J⟩;have t:=ab (aa s J);clear J s;go_upto_region 2 with fail;obtain ⟨gp,b⟩:=eX g.heap.size;obtain ⟨gn,f⟩:=eX (g.heap.size+1);obtain ⟨w4,a⟩:=eX ((g.alloc (Obj.cells #[.int .i64 4,.int .i64 1,.int .i64 0,.int .i64 0,.int .i64 0,.string ⟨#[49]⟩,.int .i64 8,.int .i64 1,.int .i64 2,.int .i64 0,.int .i64 0,.string ⟨#[]⟩,.int .i64 1,.int .i64 2,.int .i64 0,.int .i64 0,.int .i64 0,.string ⟨#[49]⟩] 45)).alloc (Obj.cells #[.int .i64 3,.slice (some ⟨g.heap.size,0,none⟩) 3 3] 24));have u:Hid (w.grownBy w4 none):=by rw [a];exact aa t (ag (ag (ae _ _) _) _)
 have he:Hid (∀ wx,w4.grownBy wx none->wx.cell? ⟨gn,0,none⟩=some (.int .i64 3)/\wx.cell? ⟨gn,1,none⟩=some (.slice (some ⟨gp,0,none⟩) 3 3)):=by
  intro wx hg;rw [a] at hg;rw [f,b];exact ⟨hg.cell zG Z,hg.cell zG Z⟩
 have hf:Hid (aR w4 (.slice (some ⟨gp,0,none⟩) 3 3) (fN 1 2)):=by
  refine uG (w:=w) 1 2 ?_;rw [a,b];exact ((ag (ae _ none) _).block _ Z Z).trans (heap_alloc_new g _)
 rw [<- a];try rw [<- f]
 try rw [<- b]
 clear a f b t;go_wp2_with fail;refine (fG 4 1 0 _ _).mono ?_;rintro e wa ⟨rfl,H⟩;have r:=ab H;clear H ;go_wp2_with fail;refine (fG 8 2 1 _ _).mono ?_;rintro e wb ⟨rfl,I⟩;have s:=ab (aa r I);clear I r;go_wp2_with fail;refine (fG 1 2 0 _ _).mono ?_;rintro e g ⟨rfl,J⟩;have t:=ab (aa s J);clear J s;go_upto_region 3 with fail;obtain ⟨gq,b⟩:=eX g.heap.size;obtain ⟨gm,f⟩:=eX (g.heap.size+1);obtain ⟨K,a⟩:=eX ((g.alloc (Obj.cells #[.int .i64 4,.int .i64 1,.int .i64 0,.int .i64 0,.int .i64 0,.string ⟨#[49]⟩,.int .i64 8,.int .i64 2,.int .i64 1,.int .i64 0,.int .i64 0,.string ⟨#[]⟩,.int .i64 1,.int .i64 2,.int .i64 0,.int .i64 0,.int .i64 0,.string ⟨#[49]⟩] 45)).alloc (Obj.cells #[.int .i64 3,.slice (some ⟨g.heap.size,0,none⟩) 3 3] 24));have x:Hid (w4.grownBy K none):=by rw [a];exact aa t (ag (ag (ae _ _) _) _)
 have hj:Hid (∀ wx,K.grownBy wx none->wx.cell? ⟨gm,0,none⟩=some (.int .i64 3)/\wx.cell? ⟨gm,1,none⟩=some (.slice (some ⟨gq,0,none⟩) 3 3)):=by
  intro wx hg;rw [a] at hg;rw [f,b];exact ⟨hg.cell zG Z,hg.cell zG Z⟩
 have hk:Hid (aR K (.slice (some ⟨gq,0,none⟩) 3 3) (fN 2 1)):=by
  refine uG (w:=w) 2 1 ?_;rw [a,b];exact ((ag (ae _ none) _).block _ Z Z).trans (heap_alloc_new g _)
 rw [<- a];try rw [<- f]
 try rw [<- b]
 clear a f b t;obtain ⟨n0,n1⟩:=he.out K x;go_wp2_with fail;refine (pB 1 2 gp K (HB.keep (aa u x)) (HT.keep0 (aa u x)) (hf.keep x) AI).mono ?_;rintro e o ⟨_,v,jv,c,d,rfl,g6,⟨uo,ul,uc,rfl⟩,i⟩;rcases i with ⟨rfl,I1,k1,hS,L,k⟩ | ⟨_,_,l⟩
 case inr=>exact absurd (l 1 (by rw [sS];decide)) ld1_not
 obtain ⟨rfl,M,N,P⟩:=ld1_one hS;have HI:=ab (And.intro M (And.intro N P));have y:=ab L;have z:=ab k;have G6:=ab (aa x g6);have hl:=ab g6;obtain ⟨gj,rfl,_⟩:=L;obtain ⟨oa,oc,rfl⟩:=k.shape;clear hS M N P k g6 n0 n1;go_upto_region 4 with fail;refine dq (fun wx=>o.grownBy wx none/\fR wx o.heap.size 28 (.slice uo ul uc) (.slice oa (bB I1 (fN 1 2).length).length oc)/\fR wx (o.heap.size+1) 32 (.int .i64 0) (.int .i64 d)) ?_ ?_
 ·refine ⟨ag (ag (ae _ _) _) _,(cR o _ _ _).keep (ag (ae _ none) _) Z,?_⟩;have h:=cR (o.alloc (Obj.cells #[.slice uo ul uc,.slice oa (bB I1 (fN 1 2).length).length oc] 28)) 32 (.int .i64 0) (.int .i64 d);rw [World.size_alloc] at h;exact h
 rintro w7 ⟨Q,m,n⟩;obtain ⟨ba,R⟩:=eX o.heap.size;rw [<- R] at m n ⊢;clear R;have BA:=ab m;have BF:=ab n;have G7:=ab (aa G6 Q);have A:=ab (aa hl Q);have hm:=ab (dU y Q nofun);have ho:=ab (z.keep0 Q);clear Q m n y z;obtain ⟨n0,n1⟩:=hj.out w7 (by have:=G7.out;exact A);go_wp2_with fail;refine (pB 2 1 gq w7 (HB.keep (aa u G7)) (HT.keep0 (aa u G7)) (hk.keep A) AJ).mono ?_;rintro e p ⟨_,v,hv,c,d2,rfl,q,⟨S,T,U,rfl⟩,i⟩;rcases i with ⟨rfl,I2,k2,hS,L,k⟩ | ⟨_,_,l⟩
 case inr=>exact absurd (l 0 (by rw [sS];decide)) yL
 obtain ⟨rfl,M,N,P⟩:=ld2_one hS;have hp:=ab (And.intro M (And.intro N P));have B:=ab L;have C:=ab k;have G8:=ab (aa G7 q);have D:=ab (dU hm q nofun);have E:=ab (ho.keep0 q);have F:=ab (BA.keep q Z);have G:=ab (BF.keep q Z);obtain ⟨hw,rfl,_⟩:=L;obtain ⟨V,W,rfl⟩:=k.shape;clear hS M N P k q n0 n1;go_upto_region 5 with fail;refine dq (fun wx=>p.grownBy wx none/\fR wx p.heap.size 28 (.slice S T U) (.slice V (bB I2 (fN 2 1).length).length W)/\fR wx (p.heap.size+1) 32 (.int .i64 0) (.int .i64 d2)) ?_ ?_
 ·refine ⟨ag (ag (ae _ _) _) _,(cR p _ _ _).keep (ag (ae _ none) _) Z,?_⟩;have h:=cR (p.alloc (Obj.cells #[.slice S T U,.slice V (bB I2 (fN 2 1).length).length W] 28)) 32 (.int .i64 0) (.int .i64 d2);rw [World.size_alloc] at h;exact h
 rintro w9 ⟨j,m,n⟩;obtain ⟨bb,X⟩:=eX p.heap.size;rw [<- X] at m n ⊢;clear X;have A2:=ab m;have F2:=ab n;have G9:=ab (aa G8 j);have hq:=ab (dU D j nofun);have hr:=ab (dU B j nofun);have hs:=ab (E.keep0 j);have hu:=ab (C.keep0 j);have A1:=ab (F.keep j Z);have F1:=ab (G.keep j Z);clear m n j D B E C F G;obtain ⟨f0,_⟩:=F1.out.cells;obtain ⟨h0,_⟩:=F2.out.cells;go_wp2_with fail;refine (qV _ _ [false,true,false] [false,true,false] _ ((uq hq rfl).keep (ag (ae _ _) _)) (pT w9 _ false true false) zD zD).mono ?_;rintro e wa ⟨rfl,ga⟩;rw [decide_eq_true rfl];have GA:=ab (aa (ag (ae w9 none) _) ga);clear ga;go_wp2_with fail;refine (qV _ _ [false,false,false] [false,false,false] _ ((uq hr rfl).keep (aa GA (ag (ae _ _) _))) (pT wa _ false false false) zD zD).mono ?_;rintro e wb ⟨rfl,gb⟩;rw [decide_eq_true rfl];have GB:=ab (aa GA (aa (ag (ae wa none) _) gb));obtain ⟨_,a1,_⟩:=fR.cells (A1.keep GB Z);clear gb GA;go_wp2_with fail;refine (qW _ _ (bB I1 3) [⟨#[45,49]⟩,⟨#[49]⟩,⟨#[49]⟩] _ ((hs.row).keep (aa GB (ag (ae _ _) _))) (pU wb _ ⟨#[45,49]⟩ ⟨#[49]⟩ ⟨#[49]⟩) (by rw [aK];decide) zD).mono ?_
 rintro e Y ⟨rfl,gc⟩;rw [decide_eq_true (ld_txt1 HI)];have GC:=ab (aa GB (aa (ag (ae wb none) _) gc));obtain ⟨_,a2,_⟩:=fR.cells (A2.keep GC Z);clear gc GB a1;go_wp2_with fail;refine (qW _ _ (bB I2 3) [⟨#[48]⟩,⟨#[48]⟩,⟨#[48]⟩] _ ((hu.row).keep (aa GC (ag (ae _ _) _))) (pU Y _ ⟨#[48]⟩ ⟨#[48]⟩ ⟨#[48]⟩) (by rw [aK];decide) zD).mono ?_;rintro e wd ⟨rfl,gd⟩;rw [decide_eq_true (ld_txt2 hp)];have GD:=ab (aa GC (aa (ag (ae Y none) _) gd));clear gd GC a2;go_wp2;go_ret;exact ⟨rfl,aa u (aa G9 GD)⟩
open Go Go.RowKit
attribute [local simp] bX im dR Pc6 nf
def DiR (W:World) (ps:List aD) (cv iv:Value) (wr:World):Prop:=∃ i:Nat,i<=ps.length/\cv=.int .i64 (bu ps i).length/\iv=.int .i64 i/\W.grownBy wr none
theorem Al (n:Nat) (l:Option Addr) (m:Nat) (ps:List aD) (w:World) (k:aR w (.slice l ps.length m) ps) (hn:ps.length<=1000) :
  Calls Tryz.prog 6 #[.agg #[.int .i64 (n:Nat),.slice l ps.length m]] w fun e G=>e=.returned (.int .i64 (bu ps ps.length).length)/\w.grownBy G none:=by
 have z:=ab k;clear k;obtain ⟨W,r⟩:=eX (w.alloc (Obj.cells #[.int .i64 (n:Nat),.slice l ps.length m] 24));have t:Hid (w.grownBy W none):=by rw [r];exact ag (ae _ _) _
 have A:Hid (∀ wx,W.grownBy wx none->dR wx w.heap.size (.int .i64 (n:Nat)) (.slice l ps.length m)):=by
  intro wx hg;exact dR.k0 (w:=W) (by rw [r];exact ⟨zG,zG⟩) hg
 go_enter Tryz.func6,Tryz.ntmps6
 go_upto_region 1 with fail;rw [<- r];clear r;have B:=A.out W (ae _ _);go_wp2;go_loopw [3,9] (fun H iv wr=>Hid (DiR W ps H iv wr)) (fun _ iv _=>ps.length-(intOf iv).toNat)
 case atStart=>exact ⟨0,O,rfl,rfl,ae _ _⟩
 case round =>
  obtain ⟨i,hi,rfl,rfl,x⟩:=hrel.out;have o:=ab x;clear x hrel B;have C:=pg ps i;by_cases hlt:i<ps.length
  ·obtain ⟨b,off,rfl,rc,s⟩:=z.out.row (aa t o) hlt;have g:=ab (mL ps i hlt);obtain ⟨p,k⟩:=eX (ps[i]);rw [<- k] at rc g;clear k s;go_upto_region 5 with fail;obtain ⟨E,j⟩:=eX wr.heap.size;obtain ⟨y,f⟩:=eX (wr.alloc (Obj.cells #[.int .i64 p.kind,.int .i64 p.a,.int .i64 p.b,.int .i64 p.c,.int .i64 p.d,.string p.v] 45));have u:Hid (wr.grownBy y none):=by rw [f];exact ag (ae _ _) _
   have D:Hid (nf y E p):=by rw [j];exact gJ wr p 45 (by rw [f];exact ae _ _)
   rw [<- f,<- j];clear f j rc;obtain ⟨F,I,J,K,L,M⟩:=D.out;by_cases q:p.kind=8
   ·have h:Hid ((bu ps (i+1)).length=(bu ps i).length+1):=by show _=_;rw [g,if_pos q];simp
    rw [q] at F;clear q;go_wp2;go_roundw
    case rel=>exact ⟨i+1,O,by rw [h];go_num,zN,aa o u⟩
    case measure=>simp [intOf];omega
   ·have h:Hid ((bu ps (i+1)).length=(bu ps i).length):=by show _=_;rw [g,if_neg q]
    go_wp2;go_roundw
    case rel=>exact ⟨i+1,O,by rw [h],zN,aa o u⟩
    case measure=>simp [intOf];omega
  ·obtain rfl:ps.length=i:=O
   go_wp2;go_ret;exact ⟨rfl,aa t o⟩
def uR (ps:List aD) (k i:Nat):List Bool:=(List.range ps.length).map fun j=>decide (j<i) && iY ps k j
theorem og (ps:List aD) (k i:Nat):(uR ps k i).length=ps.length:=by simp [uR]
theorem Dx (ps:List aD) (k:Nat):List.replicate ps.length false=uR ps k 0:=by
 apply List.ext_getElem
 ·simp [uR]
 ·intro i a b;simp [uR]
theorem onU_set {k i:Nat} (hi:i<ps.length) (b:ps[i].kind=8):(uR ps k i).set i (Nat.testBit k (bu ps i).length)=uR ps k (i+1):=by
 apply List.ext_getElem
 ·simp [uR]
 ·intro j d a;rw [List.getElem_set];have c:j<ps.length:=by rw [og] at a;exact a
  simp only [uR,List.getElem_map,List.getElem_range];by_cases e:i=j
  ·subst e;rw [if_pos rfl];simp [iY,zX hi,b]
  ·rw [if_neg e];have:decide (j<i)=decide (j<i+1):=by rw [decide_eq_decide];omega
   rw [this]
theorem Dw {k i:Nat} (hi:i<ps.length) (a:ps[i].kind≠8):uR ps k i=uR ps k (i+1):=by
 apply List.ext_getElem
 ·simp [uR]
 ·intro j b c;simp only [uR,List.getElem_map,List.getElem_range];by_cases e:j=i
  ·subst e;simp [iY,zX hi,a]
  ·have:decide (j<i)=decide (j<i+1):=by rw [decide_eq_decide];omega
   rw [this]
theorem onU_all {k i:Nat} (hi:i<ps.length):(uR ps k ps.length)[i]'(by rw [og];exact hi)=iY ps k i:=by simp [uR,hi]
def OnR (W:World) (ps:List aD) (g k:Nat) (bv_ iv:Value) (wr:World):Prop:=∃ i:Nat,i<=ps.length/\bv_=.int .i64 (bu ps i).length/\iv=.int .i64 i/\BArr wr g (uR ps k i)/\W.grownBy wr none
theorem onOf_at (n k:Nat) (z:Option Addr) (A:Nat) (ps:List aD) (w:World) (q:aR w (.slice z ps.length A) ps) (hn:ps.length<=16) (hk:k<=64) (Q:(bu ps ps.length).length<=6) :
  Calls Tryz.prog 7 #[.agg #[.int .i64 (n:Nat),.slice z ps.length A],.int .i64 (k:Nat)] w fun e P=>∃ x,e=.returned x/\wE ps k x P/\w.grownBy P none:=by
 have R:=ab q;clear q;obtain ⟨W,C⟩:=eX (w.alloc (Obj.cells #[.int .i64 (n:Nat),.slice z ps.length A] 24));have J:Hid (w.grownBy W none):=by rw [C];exact ag (ae _ _) _
 have D:Hid (∀ wx,W.grownBy wx none->dR wx w.heap.size (.int .i64 (n:Nat)) (.slice z ps.length A)):=by
  intro wx hg;exact dR.k0 (w:=W) (by rw [C];exact ⟨zG,zG⟩) hg
 go_enter Tryz.func7,Tryz.ntmps7
 go_upto_region 1 with fail;rw [<- C];clear C;have r:=D.out W (ae _ _);go_wp2_with (at_make;refine dY bv 4 false 1 _ rfl _ _ 29 rfl Tryz.underlying29 Tryz.infoBool rfl _ _ _ _ ps.length rfl rfl rfl rfl O O ?_)
 intro w1 ha y;obtain ⟨g,hg⟩:=eX W.heap.size;rw [<- hg] at ha ⊢;have S:Hid (BArr w1 g (uR ps k 0)):=by rw [<- Dx];exact ha
 have K:=ab y;have E:Hid (W.heap.size<=g):=Nat.le_of_eq hg.symm;clear ha y hg r;have r:=D.out w1 K;go_wp2;go_loopw [6,16] (fun cv iv wr=>Hid (OnR W ps g k cv iv wr)) (fun _ iv _=>ps.length-(intOf iv).toNat)
 case atStart=>exact ⟨0,O,rfl,rfl,S,K⟩
 case round =>
  obtain ⟨i,hi,rfl,rfl,M,y⟩:=hrel.out;have L:=ab M;have s:=ab y;clear y M hrel r;have r:=D.out wr s;have F:=pg ps i;by_cases hlt:i<ps.length
  ·obtain ⟨b,off,rfl,rc,H⟩:=R.out.row (aa J s) hlt;have m:=ab (mL ps i hlt);have t:=ab (fun h8=>onU_set (k:=k) hlt h8);have u:=ab (fun h8=>Dw (k:=k) hlt h8);obtain ⟨p,q⟩:=eX (ps[i]);rw [<- q] at rc m t u;clear q H;go_upto_region 6 with fail;obtain ⟨V,o⟩:=eX wr.heap.size;obtain ⟨I,l⟩:=eX (wr.alloc (Obj.cells #[.int .i64 p.kind,.int .i64 p.a,.int .i64 p.b,.int .i64 p.c,.int .i64 p.d,.string p.v] 45));have G:Hid (wr.grownBy I none):=by rw [l];exact ag (ae _ _) _
   have T:Hid (nf I V p):=by rw [o];exact gJ wr p 45 (by rw [l];exact ae _ _)
   rw [<- l,<- o];clear l o rc r;obtain ⟨X,b1,b2,b3,b4,b5⟩:=T.out;have B:=ab (L.keep0 G);by_cases h8:p.kind=8
   ·have f:Hid ((bu ps (i+1)).length=(bu ps i).length+1):=by show _=_;rw [m,if_pos h8];simp
    have h:=ab (t h8);rw [h8] at X;clear h8;obtain ⟨j,N⟩:=eX ((bu ps i).length);rw [<- N] at f h F ⊢;clear N;obtain ⟨v0,Y⟩:∃ v,World.cell? I ⟨g,i,none⟩=some v:=⟨_,B.cell i (by rw [og];exact hlt)⟩;have U:=B.out.free i;go_wp2;go_roundw
    case rel =>
     refine ⟨i+1,O,by rw [f];go_num,zN,?_,ah (aa s G) _ _ E⟩;have:=B.out.set i (Nat.testBit k j) (.bool (Nat.testBit k j)) rfl;rw [h,<- tO,<- tN] at this;exact this
    case measure=>simp [intOf];omega
   ·have f:Hid ((bu ps (i+1)).length=(bu ps i).length):=by show _=_;rw [m,if_neg h8]
    have h:=ab (u h8);go_wp2;go_roundw
    case rel=>exact ⟨i+1,O,by rw [f],zN,by rw [<- h];exact B,aa s G⟩
    case measure=>simp [intOf];omega
  ·obtain rfl:ps.length=i:=O
   go_wp2;go_ret;refine ⟨_,rfl,⟨g,rfl,fun i hi=>?_⟩,aa J s⟩;rw [L.cell i (by rw [og];exact hi),onU_all hi]
open Go Go.RowKit
attribute [local simp] bX im dR
theorem wU (a:Int) (b:Option Addr) (f:Nat) (ps:List aD) (w:World) (hb:lJ w) (x:aR w (.slice b ps.length f) ps) (hc:(bL a ps).1≠0) :
  Calls Tryz.prog 5 #[.agg #[.int .i64 a,.slice b ps.length f]] w fun e w'=>∃ c d,e=.returned (.tuple #[.agg #[.slice none 0 0,.slice none 0 0],.slice none 0 0,.agg #[.int .i64 c,.int .i64 d]])/\w.grownBy w' none/\c≠0:=by
 have F:=ab hb;have G:=ab x;obtain ⟨c,d,g⟩:∃ c d,bL a ps=(c,d):=⟨_,_,rfl⟩;have H:=ab g;rw [g] at hc;have hc:¬ c=0:=hc;clear hb x g;obtain ⟨W,hW⟩:=eX ((((w.alloc (Obj.cells #[.int .i64 a,.slice b ps.length f] 24)).alloc (Obj.cells #[.slice none 0 0,.slice none 0 0] 28)).alloc (Obj.cells #[.slice none 0 0] 29)).alloc (Obj.cells #[.int .i64 0,.int .i64 0] 32));have o:Hid (w.grownBy W none):=by rw [hW];exact ag (ag (ag (ag (ae _ _) _) _) _) _
 go_enter Tryz.func5,Tryz.ntmps5
 go_upto_region 1 with fail;rw [<- hW];have y:Hid (∀ wx,W.grownBy wx none->dR wx w.heap.size (.int .i64 a) (.slice b ps.length f)):=by
  intro wx hg;exact dR.k0 (w:=W) (by rw [hW];exact ⟨zG,zG⟩) hg
 have I:Hid (fR W (w.heap.size+1) 28 (.slice none 0 0) (.slice none 0 0)):=by
  have h:=cR (w.alloc (Obj.cells #[.int .i64 a,.slice b ps.length f] 24)) 28 (.slice none 0 0) (.slice none 0 0);rw [World.size_alloc] at h;rw [hW];exact h.keep (ag (ag (ae _ none) _) _) Z
 have J:Hid (lI W (w.heap.size+1+1) 29 (.slice none 0 0)):=by
  have h:=sj ((w.alloc (Obj.cells #[.int .i64 a,.slice b ps.length f] 24)).alloc (Obj.cells #[.slice none 0 0,.slice none 0 0] 28)) 29 (.slice none 0 0);rw [World.size_alloc,World.size_alloc] at h;rw [hW];exact h.keep (ag (ae _ none) _) Z
 have K:Hid (fR W (w.heap.size+1+1+1) 32 (.int .i64 0) (.int .i64 0)):=by
  have h:=cR (((w.alloc (Obj.cells #[.int .i64 a,.slice b ps.length f] 24)).alloc (Obj.cells #[.slice none 0 0,.slice none 0 0] 28)).alloc (Obj.cells #[.slice none 0 0] 29)) 32 (.int .i64 0) (.int .i64 0);rw [World.size_alloc,World.size_alloc,World.size_alloc] at h;rw [hW];exact h
 have k:Hid (W.heap.size=w.heap.size+4):=by show _=_;rw [hW];simp
 clear hW;obtain ⟨V,X⟩:=y.out W (ae _ _);go_wp2_with fail;refine (qN a b f ps W (F.keep o) (G.keep o)).mono ?_;rintro e w1 ⟨rfl,q⟩;rw [H];have l:=ab q;obtain ⟨Y,n3⟩:=y.out w1 q;clear q V X;go_upto_region 3 with fail;refine dq (fun wx=>W.grownBy wx none/\fR wx w1.heap.size 32 (.int .i64 c) (.int .i64 d)/\fR wx (w.heap.size+1) 28 (.slice none 0 0) (.slice none 0 0)/\lI wx (w.heap.size+1+1) 29 (.slice none 0 0)/\fR wx (w.heap.size+1+1+1) 32 (.int .i64 0) (.int .i64 0)) ⟨ag l _,cR _ _ _ _,I.keep (ag l _) Z,J.keep (ag l _) Z,K.keep (ag l _) Z⟩ ?_;rintro w2 ⟨B,r,s,t,u⟩;have L:=ab B;have M:=ab r;have N:=ab s;have P:=ab t;have Q:=ab u;obtain ⟨e0,e1,e2,e3⟩:=r.cells;obtain ⟨C,D,a2,a3⟩:=s.cells;obtain ⟨E,t1⟩:=t.cells;obtain ⟨f0,f1,f2,f3⟩:=u.cells;clear Y n3 B r s t u;obtain ⟨j,n⟩:=eX w1.heap.size;have m:=l.out.size;have p:=k.out;rw [<- n] at m e0 e1 e2 e3 M ⊢;have m1:¬ j=w.heap.size+1:=O
 have m2:¬ j=w.heap.size+1+1:=O
 have m3:¬ j=w.heap.size+1+1+1:=O
 have m4:¬ w.heap.size+1=j:=O
 have m5:¬ w.heap.size+1+1=j:=O
 have m6:¬ w.heap.size+1+1+1=j:=O
 clear n m p k;go_region
 all_goals
  go_wp2;have z:w.heap.size<=w.heap.size+1:=O
  have R:w.heap.size<=w.heap.size+1+1:=O
  have A:w.heap.size<=w.heap.size+1+1+1:=O
  have S:=(((((N.set0 (.slice none 0 0)).set1 (.slice none 0 0)).oth (i:=0) (b':=w.heap.size+1+1) (.slice none 0 0) O).oth (i:=0) (b':=w.heap.size+1+1+1) (.int .i64 c) O).oth (i:=1) (b':=w.heap.size+1+1+1) (.int .i64 d) O).keep aA Z;have T:=(((((P.oth (i:=0) (b':=w.heap.size+1) (.slice none 0 0) O).oth (i:=1) (b':=w.heap.size+1) (.slice none 0 0) O).set (.slice none 0 0)).1.oth (i:=0) (b':=w.heap.size+1+1+1) (.int .i64 c) O).oth (i:=1) (b':=w.heap.size+1+1+1) (.int .i64 d) O).keep aA Z;have U:=(((((Q.oth (i:=0) (b':=w.heap.size+1) (.slice none 0 0) O).oth (i:=1) (b':=w.heap.size+1) (.slice none 0 0) O).oth (i:=0) (b':=w.heap.size+1+1) (.slice none 0 0) O).set0 (.int .i64 c)).set1 (.int .i64 d)).keep aA Z;have hW:=aj (ah (ah (ah (ah (ah (aa o L) ⟨w.heap.size+1,0,none⟩ (.slice none 0 0) z) ⟨w.heap.size+1,1,none⟩ (.slice none 0 0) z) ⟨w.heap.size+1+1,0,none⟩ (.slice none 0 0) R) ⟨w.heap.size+1+1+1,0,none⟩ (.int .i64 c) A) ⟨w.heap.size+1+1+1,1,none⟩ (.int .i64 d) A) 1;obtain ⟨C,D,_⟩:=S.cells;obtain ⟨E,_⟩:=T.cells;obtain ⟨f0,f1,_⟩:=U.cells;exact bodyPost_ret (v:=.tuple #[.agg #[.slice none 0 0,.slice none 0 0],.slice none 0 0,.agg #[.int .i64 c,.int .i64 d]]) (by simp [results,Tryz.results5,go_sem,C,D,f0,f1,E]) rfl ⟨c,d,rfl,hW,hc⟩
end Go.Proofs.YtkbmbmdemajoaaaGreatDoor
