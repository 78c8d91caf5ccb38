/- Contracts. -/
import Derived.Test.YtbomdfhdocaagaaGreatDoorXPr
import Derived.Test.YtbomdfhdocaagaaGreatDoorXHand
import Derived.Test.YtbomdfhdocaagaaGreatDoorXPb
import Derived.Shelf.Strings.SlTrimAscii
namespace Go.Proofs.YtbomdfhdocaagaaGreatDoor
open Go.RowKit
set_option linter.all false
set_option maxHeartbeats 8000000
set_option maxRecDepth 10000
variable {w w0 w' w1:World} {L b p o k M L':Nat} {z:Int} {F A B:List Nat} {l:List UInt8} {y:Bool}
def xz (w:World) (F:List Nat) (p o:Nat) (z:Int) (L:Nat):Prop:=ay w p o z L/\p∉F/\∀ v,w.cell? ⟨p,o+1,none⟩=some v->∀ k∈F,ar v≠some k
abbrev pp (b o:Nat):Value:=.pointer (some ⟨b,o,none⟩)
structure nO where
 p:Nat
 o:Nat
 z:Int
 L:Nat
structure dC (w0 w:World) (F:List Nat) (I:List nO):Prop where
 gr:w0.grownBy w none
 nd:F.Nodup
 fr:∀ k∈F,w0.heap.size<=k/\gO w k 0 false (.slice none 0 0)
 it:∀ i∈I,xz w F i.p i.o i.z i.L
def ay.words (h:ay w p o z L) {v:Value} (a:w.cell? ⟨p,o+1,none⟩=some v) (c:ar v=some k):k<w.heap.size:=by
 obtain ⟨neg,u,u1,u2,u3,u4⟩:=h;rw [u1.c1] at a;obtain rfl:=zJ a;obtain ⟨xs,d,e,f,g⟩:=u2;exact d.blk k c
def lX (h:ay w p o z L) (hg:w.grownBy w' none) (c:Nat):w'.cell? ⟨p,c,none⟩=w.cell? ⟨p,c,none⟩ :=
 World.cell?_of_block (w:=w) (a:=⟨p,c,none⟩) (hg.block p h.lt Z)
def xz.keep0 (h:xz w F p o z L) (hg:w.grownBy w' none):xz w' F p o z L :=
 ⟨h.1.keep0 hg,h.2.1,fun v a=>h.2.2 v (by rw [<- lX h.1 hg (o+1)];exact a)⟩
def dC.grow {I:List nO} (m:dC w0 w F I) (hg:w.grownBy w' none):dC w0 w' F I :=
 ⟨aa m.gr hg,m.nd,fun k a=>⟨(m.fr k a).1,(m.fr k a).2.keep0 hg⟩,fun i hi=>(m.it i hi).keep0 hg⟩
def dC.lt {I:List nO} (m:dC w0 w F I) (a:k∈F):k<w.heap.size:=(m.fr k a).2.lt
def dC.start (h:w0.grownBy w none):dC w0 w [] []:=⟨h,List.nodup_nil,(fun k a=>nomatch a),(fun i hi=>nomatch hi)⟩
def dC.alloc {I:List nO} (m:dC w0 w (A++B) I):dC w0 (w.alloc (.cells #[.bool false,.slice none 0 0] 96)) (A++w.heap.size :: B) I:=by
 have g:w.grownBy (w.alloc (.cells #[.bool false,.slice none 0 0] 96)) none:=ag (ae w none) _;have hn:w.heap.size∉A++B:=fun h=>Nat.lt_irrefl _ (m.lt h)
 have d:∀ k,k∈A++w.heap.size :: B->k=w.heap.size∨k∈A++B:=by
  intro k c;simp only [List.mem_append,List.mem_cons] at c ⊢;rcases c with h | h | h
  ·exact .inr (.inl h)
  ·exact .inl h
  ·exact .inr (.inr h)
 refine ⟨aa m.gr g,?_,?_,?_⟩
 ·have:=m.nd;simp only [List.nodup_append,List.nodup_cons,List.mem_append,List.mem_cons,not_or] at this hn ⊢;refine ⟨this.1,⟨hn.2,this.2.1⟩,?_⟩;intro a ha b hb;rcases hb with h | h
  ·rintro rfl;exact hn.1 (h▸ha)
  ·exact this.2.2 a ha b h
 ·intro k c;rcases d k c with rfl | h
  ·exact ⟨m.gr.size,fR w⟩
  ·exact ⟨(m.fr k h).1,(m.fr k h).2.keep0 g⟩
 ·intro i hi;have h:=m.it i hi;refine ⟨h.1.keep0 g,?_,?_⟩
  ·intro n;rcases d _ n with e | e
   ·have:=h.1.lt;omega
   ·exact h.2.1 e
  ·intro v f k c e;rw [lX h.1 g] at f;rcases d _ c with j | j
   ·have:=h.1.words f e;omega
   ·exact h.2.2 v f k j e
def dC.new {I:List nO} (m:dC w0 w F I) (hg:w.grownBy w' none) (h:ay w' p o z L) (g:w.heap.size<=p) (hn:dX w w' p o):dC w0 w' F (⟨p,o,z,L⟩ :: I):=by
 have a:=m.grow hg;refine ⟨a.gr,a.nd,a.fr,?_⟩;intro i hi;rcases List.mem_cons.1 hi with rfl | hi
 ·refine ⟨h,fun c=>?_,fun v d k f e=>?_⟩
  ·have:=m.lt c;simp only at this;omega
  ·have j:=m.lt f;have n:=hn v d k e;omega
 ·exact a.it i hi
def dC.old {I:List nO} (m:dC w0 w F I) (h:ay w0 p o z L):dC w0 w F (⟨p,o,z,L⟩ :: I):=by
 refine ⟨m.gr,m.nd,m.fr,?_⟩;intro i hi;rcases List.mem_cons.1 hi with rfl | hi
 ·refine ⟨h.keep0 m.gr,fun c=>?_,fun v a k d e=>?_⟩
  ·have:=(m.fr _ c).1;have:=h.lt;simp only at *;omega
  ·rw [lX h m.gr] at a;have f:=h.words a e;have g:=(m.fr k d).1;omega
 ·exact m.it i hi
def dC.put {I:List nO} (m:dC w0 w (A++b :: B) I) (n:gF w w' b 0) (h:ay w' b 0 z L) (hn:dX w w' b 0):dC w0 w' (A++B) (⟨b,0,z,L⟩ :: I):=by
 have hb:b∈A++b :: B:=Z
 have g:∀ k,k∈A++B->k∈A++b :: B/\k≠b:=by
  intro k d;have nd:=m.nd;simp only [List.nodup_append,List.nodup_cons,List.mem_append,List.mem_cons] at d nd ⊢;rcases d with h | h
  ·exact ⟨.inl h,nd.2.2 k h b (.inl rfl)⟩
  ·exact ⟨.inr (.inr h),fun e=>nd.2.1.1 (e▸h)⟩
 refine ⟨cw m.gr n (m.fr b hb).1,?_,?_,?_⟩
 ·have nd:=m.nd;simp only [List.nodup_append,List.nodup_cons,List.mem_cons] at nd ⊢;exact ⟨nd.1,nd.2.1.2,fun a ha c hc=>nd.2.2 a ha c (.inr hc)⟩
 ·intro k d;obtain ⟨h1,h2⟩:=g k d;exact ⟨(m.fr k h1).1,(m.fr k h1).2.keep n (.inl h2)⟩
 ·intro i hi;rcases List.mem_cons.1 hi with rfl | hi
  ·refine ⟨h,fun q=>(g _ q).2 rfl,fun v f k d e=>?_⟩;have h1:=m.lt (g k d).1;have h2:=hn v f k e;omega
  ·have a:=m.it i hi;have j:i.p≠b:=fun e=>a.2.1 (e▸hb)
   refine ⟨a.1.keep n (.inl j) (fun v f=>a.2.2 v f b hb),fun q=>a.2.1 (g _ q).1,fun v f k d=>?_⟩;have hc:w'.cell? ⟨i.p,i.o+1,none⟩=w.cell? ⟨i.p,i.o+1,none⟩:=World.cell?_of_block (w:=w) (a:=⟨i.p,i.o+1,none⟩) (n.gr.block i.p a.1.lt (by simpa using j));rw [hc] at f;exact a.2.2 v f k (g k d).1
def dC.drop {I I':List nO} (m:dC w0 w F I) (h:∀ i∈I',i∈I):dC w0 w F I':=⟨m.gr,m.nd,m.fr,fun i hi=>m.it i (h i hi)⟩
def dC.away {I:List nO} (m:dC w0 w F I) (hi:(⟨p,o,z,L⟩:nO)∈I):ay w p o z L:=(m.it _ hi).1
def dC.ne {I:List nO} (m:dC w0 w F I) (hi:(⟨p,o,z,L⟩:nO)∈I) (hb:b∈F):p≠b:=fun e=>(m.it _ hi).2.1 (e▸hb)
def dC.mul {I:List nO} (m:dC w0 w (A++b :: B) I) {q r:Nat} {x y:Int} (a:(⟨p,o,x,L⟩:nO)∈I) (hy:(⟨q,r,y,M⟩:nO)∈I) (c:L+M<=10000000000000) :
  Calls Tryz.prog 126 #[.pointer (some ⟨b,0,none⟩),.pointer (some ⟨p,o,none⟩),.pointer (some ⟨q,r,none⟩)] w fun e w'=>e=.returned (.pointer (some ⟨b,0,none⟩))/\dC w0 w' (A++B) (⟨b,0,x*y,L+M⟩ :: I):=by
 have hb:b∈A++b :: B:=Z
 refine (mul_at b 0 p o q r _ _ x y L M w (m.fr b hb).2 (m.away a) (m.away hy) c (m.ne a hb) (m.ne hy hb)).mono ?_;rintro e w' ⟨rfl,d,f,g⟩;exact ⟨rfl,m.put d f g⟩
def dC.sub {I:List nO} (m:dC w0 w (A++b :: B) I) {q r:Nat} {x y:Int} (a:(⟨p,o,x,L⟩:nO)∈I) (hy:(⟨q,r,y,M⟩:nO)∈I) (c:L<=9000000000000) (d:M<=9000000000000) :
  Calls Tryz.prog 127 #[.pointer (some ⟨b,0,none⟩),.pointer (some ⟨p,o,none⟩),.pointer (some ⟨q,r,none⟩)] w fun e w'=>e=.returned (.pointer (some ⟨b,0,none⟩))/\dC w0 w' (A++B) (⟨b,0,x-y,max L M+1⟩ :: I):=by
 have hb:b∈A++b :: B:=Z
 refine (Bt b 0 p o q r _ _ x y L M w (m.fr b hb).2 (m.away a) (m.away hy) c d (m.ne a hb) (m.ne hy hb)).mono ?_;rintro e w' ⟨rfl,f,g,h⟩;exact ⟨rfl,m.put f g h⟩
def dC.add {I:List nO} (m:dC w0 w (A++b :: B) I) {q r:Nat} {x y:Int} (a:(⟨p,o,x,L⟩:nO)∈I) (hy:(⟨q,r,y,M⟩:nO)∈I) (c:L<=9000000000000) (d:M<=9000000000000) :
  Calls Tryz.prog 125 #[.pointer (some ⟨b,0,none⟩),.pointer (some ⟨p,o,none⟩),.pointer (some ⟨q,r,none⟩)] w fun e w'=>e=.returned (.pointer (some ⟨b,0,none⟩))/\dC w0 w' (A++B) (⟨b,0,x+y,max L M+1⟩ :: I):=by
 have hb:b∈A++b :: B:=Z
 refine (Bs b 0 p o q r _ _ x y L M w (m.fr b hb).2 (m.away a) (m.away hy) c d (m.ne a hb) (m.ne hy hb)).mono ?_;rintro e w' ⟨rfl,f,g,h⟩;exact ⟨rfl,m.put f g h⟩
def lT (w0:World) (b d M:Nat):Prop:=∀ w F I,dC w0 w F I->Calls Tryz.prog 80 #[.pointer (some ⟨b,0,none⟩)] w fun e w'=>∃ p o,e=.returned (.pointer (some ⟨p,o,none⟩))/\w.grownBy w' none/\dC w0 w' F (⟨p,o,(d:Int),M⟩ :: I)
def bK.denC {x:Int} {y:Nat} (h:bK w b x y L):lT w b y L:=by
 intro w1 F I m;refine (tq b x y L w1 (h.keep0 m.gr)).mono ?_;rintro e w' ⟨rfl,rfl⟩;exact ⟨b,2,rfl,ae _ _,m.old h.2.1⟩
def dC.low {I:List nO} (m:dC w1 w F I) (h:w0.grownBy w1 none):dC w0 w F I :=
 ⟨aa h m.gr,m.nd,fun k a=>⟨Nat.le_trans h.size (m.fr k a).1,(m.fr k a).2⟩,m.it⟩
def lT.keep0 {d:Nat} (h:lT w0 b d M) (hg:w0.grownBy w1 none):lT w1 b d M:=by
 intro w F I m;refine (h w F I (m.low hg)).mono ?_;rintro e w' ⟨p,o,rfl,g,a⟩;exact ⟨p,o,rfl,g,aa m.gr g,a.nd,fun k c=>⟨(m.fr k c).1,(a.fr k c).2⟩,a.it⟩
def xz.mono (h:xz w F p o z L) (a:L<=L'):xz w F p o z L':=⟨h.1.mono a,h.2⟩
def lT.mono {d c:Nat} (h:lT w0 b d M) (f:M<=c):lT w0 b d c:=by
 intro w F I m;refine (h w F I m).mono ?_;rintro e w' ⟨p,o,rfl,g,a⟩;refine ⟨p,o,rfl,g,a.gr,a.nd,a.fr,?_⟩;intro i hi;rcases List.mem_cons.1 hi with rfl | hi
 ·exact (a.it _ (List.mem_cons_self ..)).mono f
 ·exact a.it i (List.mem_cons_of_mem _ hi)
open Go Go.RowKit
section
variable {P:Program} {ops:Array Oper} {Q:Exit->Act->World->Prop} {md:Region.Mode} {S:World->Prop} {σ:Type} [BEq σ] [LawfulBEq σ]
def wkOk (md:Region.Mode) (ops:Array Oper) (ss:List σ) (L:σ->Array Bool) (m:σ->Nat) (rd:σ->List Nat) (nx:σ->Nat->σ):Bool :=
 ss.all fun s=>Region.ready md ops (L s)==rd s && ((m s==0)==(rd s).isEmpty) && (rd s).all fun i=>(ops[i]?).isSome && ss.contains (nx s i) && L (nx s i)==(L s).setIfInBounds i true && m (nx s i)+1==m s
def wk (f:List σ) (L:σ->Array Bool) (m:σ->Nat) (rd:σ->List Nat) (u:σ->Nat->σ) (R:σ->Act->World->Prop) (s0:σ) {N:Nat} {l:Array Bool} {a:Act} (v:R s0 a w)
  (h:∀ s a w,R s a w->(rd s=[]->Q .normal a w)/\∀ i∈rd s,∀ K':Act->World->Prop,Shut (∀ a w,R (u s i) a w->K' a w)->if Region.wanted (ax ops i) (yielded ops a.tmps)=true then Oper.wp P (ax ops i) a w K' Q else K' (a.put (ax ops i).dst undef) w)
  (hok:wkOk md ops f L m rd u=true:=by kernel_rfl) (hs:f.contains s0=true:=by kernel_rfl) (hl:l=L s0:=by kernel_rfl) (hN:N=m s0:=by kernel_rfl) (hS:∀ s a w,R s a w->S w:=by exact fun _ _ _ _=>trivial):wpAnyH P md ops Q S N l a w:=by
 subst hl hN;have g:∀ (n:Nat) (s:σ) (a:Act) (w:World),s∈f->m s=n->R s a w->wpAnyH P md ops Q S n (L s) a w:=by
  intro n;induction n with
  | zero =>
   intro s a w q hn r;have c:=List.all_eq_true.1 hok s q;simp only [Bool.and_eq_true,beq_iff_eq,hn] at c;have e:rd s=[]:=by simpa using c.1.2.symm
   exact ⟨c.1.1.trans e,(h s a w r).1 e⟩
  | succ n ih =>
   intro s a w q hn r;have c:=List.all_eq_true.1 hok s q;simp only [Bool.and_eq_true,beq_iff_eq,List.all_eq_true] at c;have j:rd s≠[]:=by
    intro e;have:=c.1.2;rw [hn,e] at this;simp at this
   refine wpAnyH_ready c.1.1 j ?_;intro i hi;obtain ⟨⟨⟨x,C⟩,D⟩,G⟩:=c.2 i hi;refine wpOp_step (dG x) (fun K' E=>(h s a w r).2 i hi K' (fun t w' d=>E t w' ⟨hS _ t w' d,?_⟩));rw [<- D];exact ih _ t w' (by simpa using C) O d
 exact g _ _ _ _ (by simpa using hs) rfl v
end
def opZ (ad:Bool) (x y:Int):Int:=if ad then x+y else x-y
abbrev Sg:=Nat×Bool×Bool×Bool
def fl (b:Bool) (p:Nat):List Nat:=if b then [p] else []
def st3 (ok:Sg->Bool):List Sg:=((List.range 7).flatMap fun k=>[true,false].flatMap fun x=>[true,false].flatMap fun y=>[true,false].map fun z=>(k,x,y,z)).filter ok
def m3 (s:Sg):Nat:=(6-s.1)+(if s.2.1 then 0 else 1)+(if s.2.2.1 then 0 else 1)+(if s.2.2.2 then 0 else 1)
abbrev ow (b:Bool) (p o:Nat):Value:=if b then pp p o else undef
def dC.alloc2 {A':List Nat} {I:List nO} (m:dC w0 w (A++(A'++B)) I):dC w0 (w.alloc (.cells #[.bool false,.slice none 0 0] 96)) (A++(A'++w.heap.size :: B)) I:=by
 rw [<- List.append_assoc] at m ⊢;exact dC.alloc m
def dC.mul2 {A':List Nat} {I:List nO} (m:dC w0 w (A++(A'++b :: B)) I) {q r:Nat} {x y:Int} (a:(⟨p,o,x,L⟩:nO)∈I) (hy:(⟨q,r,y,M⟩:nO)∈I) (c:L+M<=10000000000000) :
  Calls Tryz.prog 126 #[.pointer (some ⟨b,0,none⟩),.pointer (some ⟨p,o,none⟩),.pointer (some ⟨q,r,none⟩)] w fun e w'=>e=.returned (.pointer (some ⟨b,0,none⟩))/\dC w0 w' (A++(A'++B)) (⟨b,0,x*y,L+M⟩ :: I):=by
 rw [<- List.append_assoc] at m ⊢;exact dC.mul m a hy c
def mM:Sg->Bool | (k,x,y,z)=>decide (k<=6) && (decide (k<2) || y) && (decide (k<4) || z) && (decide (k<5) || x)
def lAS:Sg->Array Bool | (k,x,y,z)=>#[x,y,true,true,true,true,decide (1<=k),decide (2<=k),z,true,true,true,true,decide (3<=k),decide (4<=k),decide (5<=k),decide (6<=k)]
def Fg:Sg->List Nat | (k,x,y,z)=>(if x then [] else [0])++(if y then [] else [1])++(if k=0 then [6] else [])++(if k=1/\y then [7] else [])++(if z then [] else [8])++(if k=2 then [13] else [])++(if k=3/\z then [14] else [])++(if k=4/\x then [15] else [])++(if k=5 then [16] else [])
def rp:Sg->Nat->Sg | (k,x,y,z),i=>if i=0 then (k,true,y,z) else if i=1 then (k,x,true,z) else if i=8 then (k,x,y,true) else (k+1,x,y,z)
def Fi {x z:Bool} (c:Fg (k,x,y,z)=[]) (a:mM (k,x,y,z)=true):k=6/\x=true/\y=true/\z=true:=by
 rcases k with _ | _ | _ | _ | _ | _ | _ | k<;>cases x<;>cases y<;>cases z<;>first | (simp [mM] at a;done) | (simp [Fg] at c;done) | simp
def Fh {i:Nat} {x z:Bool} (h:i∈Fg (k,x,y,z)):(i=0/\x=false)∨(i=1/\y=false)∨(i=8/\z=false)∨(i=6/\k=0)∨(i=7/\k=1/\y=true)∨(i=13/\k=2)∨(i=14/\k=3/\z=true)∨(i=15/\k=4/\x=true)∨(i=16/\k=5):=by
 unfold Fg at h;simp only [List.mem_append] at h;rcases h with (((((((h | h) | h) | h) | h) | h) | h) | h) | h<;>split at h<;>simp_all
def wF (H:Bool) (v m n:Nat) (S T:Bool) (v1 v2:Value) (g j:Int) (c d L M:Nat) (w:World) (D:gO w v 0 S v1) (E:gO w v 2 T v2) (U:ay w m 0 g L) (V:ay w n 0 j M) (W:lT w m c L) (X:lT w n d M) (I:0<c) (J:0<d) (hL:L+M<=3900000000000) :
  Calls Tryz.prog (bif H then 76 else 78) #[.pointer (some ⟨v,0,none⟩),.pointer (some ⟨m,0,none⟩),.pointer (some ⟨n,0,none⟩)] w fun e w'=>e=.returned (.pointer (some ⟨v,0,none⟩))/\bE w w' v/\bK w' v (fF (opZ H (g*(d:Int)) (j*(c:Int))) (c*d)) (fw (opZ H (g*(d:Int)) (j*(c:Int))) (c*d)) (L+M+3):=by
 have HX:=ab U;have HY:=ab V;have Y:=ab W;have DY:=ab X;have Z1:=ab D;have Z2:=ab E;clear U V W X D E;have N:opZ true (g*(d:Int)) (j*(c:Int))=g*(d:Int)+j*(c:Int)/\opZ false (g*(d:Int)) (j*(c:Int))=g*(d:Int)-j*(c:Int):=⟨rfl,rfl⟩;cases H
 case' false=>(dsimp only [cond];rw [N.2];obtain ⟨Z,C⟩:=eX (g*(d:Int)-j*(c:Int));have HZ:=ab C;rw [<- C];go_enter Tryz.func78,Tryz.ntmps78)
 case' true=>(dsimp only [cond];rw [N.1];obtain ⟨Z,C⟩:=eX (g*(d:Int)+j*(c:Int));have HZ:=ab C;rw [<- C];go_enter Tryz.func76,Tryz.ntmps76)
 all_goals
  clear N C;go_upto_region 1 with fail;refine hd (fun _=>True) (fun _=>?_) (hS:=trivial);refine tk 9 [(2,10,pp m 0),(3,11,pp m 0),(4,12,pp m 0),(5,13,pp n 0),(9,17,pp n 0),(10,18,pp n 0),(11,19,pp n 0),(12,20,pp m 0)] ?_;refine wk (st3 mM) lAS m3 Fg rp (fun (k,x,y,z) a wx=>∃ p q r d1 o1 d2 o2:Nat,mM (k,x,y,z)=true/\a=⟨#[pp v 0,pp m 0,pp n 0,undef,undef,undef,.pointer none,ow (decide (6<=k)) p 0,ow x p 0,ow y q 0,pp m 0,pp m 0,pp m 0,pp n 0,ow (decide (1<=k)) d1 o1,ow (decide (2<=k)) q 0,ow z r 0,pp n 0,pp n 0,pp n 0,pp m 0,ow (decide (3<=k)) d2 o2,ow (decide (4<=k)) r 0,ow (decide (5<=k)) p 0,undef,undef,undef,undef,undef,undef,undef,undef,undef],[]⟩
   /\ dC w wx (fl (x && decide (k<5)) p++(fl (y && decide (k<2)) q++fl (z && decide (k<4)) r)) ([⟨p,0,Z,max (L+M) (M+L)+1⟩,⟨r,0,j*(c:Int),M+L⟩,⟨d2,o2,(c:Int),L⟩,⟨q,0,g*(d:Int),L+M⟩,⟨d1,o1,(d:Int),M⟩,⟨m,0,g,L⟩,⟨n,0,j,M⟩].drop (5-k))) (0,false,false,false) ⟨0,0,0,0,0,0,0,rfl,rfl,((dC.start (ln (ae w none))).old HY).old HX⟩ ?_
  rintro ⟨k,x,y,z⟩ a wx ⟨p,q,r,d1,o1,d2,o2,f,rfl,t⟩;refine ⟨fun he=>?_,fun i hi K u=>?_⟩
  ·obtain ⟨rfl,rfl,rfl,rfl⟩:=Fi he f;have M0:=ab (t.drop (I':=[⟨p,0,Z,max (L+M) (M+L)+1⟩]) (by simp));clear t he f;simp only [ow];go_wp2_with fail;refine (Y _ _ _ (dC.alloc (A:=[]) (B:=[]) M0)).mono ?_;rintro e w1 ⟨d1,o1,rfl,_,s⟩;have M1:=ab s;clear s;go_wp2_with fail;refine (DY _ _ _ M1).mono ?_;rintro e w2 ⟨d2,o2,rfl,_,m2⟩;have M2:=ab m2;clear m2;go_wp2_with fail;refine (dC.mul (A:=[]) (B:=[]) M2 (x:=(c:Int)) (y:=(d:Int)) (L:=L) (M:=M) (by simp) (by simp) (by omega)).mono ?_;rintro e w3 ⟨rfl,m3⟩;have G:=ab m3;clear m3;go_wp2_with fail;refine (da v p 0 _ 0 S T v1 v2 Z (c*d) (L+M+1) _ (Z1.keep0 G.gr) (Z2.keep0 G.gr) ((G.away (L:=max (L+M) (M+L)+1) (by simp)).mono (by omega)) ((by rw [Int.natCast_mul];exact G.away (L:=L+M) (by simp):ay w3 wx.heap.size 0 ((c*d:Nat):Int) (L+M)).mono (by omega)) (Nat.mul_pos I J) (by omega)).mono ?_;rintro e w4 ⟨rfl,r1,r2⟩;have R1:=ab r1;have R2:=ab r2;clear r1 r2;go_wp2;go_ret;exact ⟨rfl,(bE.of_gr G.gr).trans R1,R2⟩
  ·have hm:=Fh hi;have hh:k<=6/\(k<2∨y=true)/\(k<4∨z=true)/\(k<5∨x=true):=by simp only [mM,Bool.and_eq_true,Bool.or_eq_true,decide_eq_true_eq] at f;exact ⟨f.1.1.1,f.1.1.2,f.1.2,f.2⟩
   clear f hi;rcases hm with ⟨rfl,rfl⟩ | ⟨rfl,rfl⟩ | ⟨rfl,rfl⟩ | ⟨rfl,rfl⟩ | ⟨rfl,rfl,rfl⟩ | ⟨rfl,rfl⟩ | ⟨rfl,rfl,rfl⟩ | ⟨rfl,rfl,rfl⟩ | ⟨rfl,rfl⟩<;>simp only [ax,q4,q5,q6,q7]
   ·go_simp
    rcases k with _ | _ | _ | _ | _ | _ | k<;>first
     | exact u _ _ ⟨wx.heap.size,q,r,d1,o1,d2,o2,by simpa [mM,rp,and_assoc] using hh,rfl,dC.alloc (A:=[]) t⟩
     | (exfalso;obtain ⟨h0,P,Q,R⟩:=hh;rcases R with h | h<;>first | omega | cases h)
   ·go_simp
    rcases k with _ | _ | _ | _ | _ | _ | k<;>first
     | exact u _ _ ⟨p,wx.heap.size,r,d1,o1,d2,o2,by simpa [mM,rp,and_assoc] using hh,rfl,dC.alloc (A:=fl (x && decide (_<5)) p) t⟩
     | (exfalso;obtain ⟨h0,P,Q,R⟩:=hh;rcases P with h | h<;>first | omega | cases h)
   ·go_simp
    rcases k with _ | _ | _ | _ | _ | _ | k<;>first
     | exact u _ _ ⟨p,q,wx.heap.size,d1,o1,d2,o2,by simpa [mM,rp,and_assoc] using hh,rfl,dC.alloc2 (A:=fl (x && decide (_<5)) p) (A':=fl (y && decide (_<2)) q) t⟩
     | (exfalso;obtain ⟨h0,P,Q,R⟩:=hh;rcases Q with h | h<;>first | omega | cases h)
   ·go_simp
    go_at_call 80
    refine (DY _ _ _ t).mono ?_;rintro e w1 ⟨d1,o1,rfl,_,s⟩;go_wp2_with fail;exact u _ _ ⟨p,q,r,d1,o1,d2,o2,by simpa [mM,rp,and_assoc] using hh,rfl,s⟩
   ·go_simp
    go_at_call 126
    refine (dC.mul (A:=fl (x && decide (1<5)) p) t (x:=g) (y:=(d:Int)) (L:=L) (M:=M) (by simp) (by simp) (by omega)).mono ?_;rintro e w1 ⟨rfl,s⟩;go_wp2_with fail;exact u _ _ ⟨p,q,r,d1,o1,d2,o2,by simpa [mM,rp,and_assoc] using hh,rfl,s⟩
   ·go_simp
    go_at_call 80
    refine (Y _ _ _ t).mono ?_;rintro e w1 ⟨d2,o2,rfl,_,s⟩;go_wp2_with fail;exact u _ _ ⟨p,q,r,d1,o1,d2,o2,by simpa [mM,rp,and_assoc] using hh,rfl,s⟩
   ·go_simp
    go_at_call 126
    refine (dC.mul2 (A:=fl (x && decide (3<5)) p) (A':=fl (y && decide (3<2)) q) t (x:=j) (y:=(c:Int)) (L:=M) (M:=L) (by simp) (by simp) (by omega)).mono ?_;rintro e w1 ⟨rfl,s⟩;go_wp2_with fail;exact u _ _ ⟨p,q,r,d1,o1,d2,o2,by simpa [mM,rp,and_assoc] using hh,rfl,s⟩
   ·go_simp
    first
     | (go_at_call 127;refine (dC.sub (A:=[]) t (x:=g*(d:Int)) (y:=j*(c:Int)) (L:=L+M) (M:=M+L) (by simp) (by simp) (by omega) (by omega)).mono ?_)
     | (go_at_call 125;refine (dC.add (A:=[]) t (x:=g*(d:Int)) (y:=j*(c:Int)) (L:=L+M) (M:=M+L) (by simp) (by simp) (by omega) (by omega)).mono ?_)
    rintro e w1 ⟨rfl,s⟩;rw [<- HZ] at s;go_wp2_with fail;exact u _ _ ⟨p,q,r,d1,o1,d2,o2,by simpa [mM,rp,and_assoc] using hh,rfl,s⟩
   ·go_simp
    exact u _ _ ⟨p,q,r,d1,o1,d2,o2,by simpa [mM,rp,and_assoc] using hh,rfl,t⟩
def xX (h:∀ c∈l,nu c=true) (c:UInt8) (hc:c∈l):48<=c.toNat/\c.toNat<=57:=by
 have:=h c hc;unfold nu at this;rw [Bool.and_eq_true,decide_eq_true_eq,decide_eq_true_eq] at this;exact this
def uK (s:ByteArray) (i:Nat) (h:i<s.size):s[i]∈s.data.toList:=by
 have:s[i]=s.data.toList[i]'(by simpa using h):=rfl;rw [this];exact List.getElem_mem _
def Ai (w:World):aT w (.slice none 0 0) 0 0:=⟨[],Ws.nil w,rfl,rfl,zL⟩
def jn {v:Value} {n:Nat} (h:aT w v n L):∃ ao l cap,v=.slice ao l cap/\l<=cap/\cap<=9223372036854775807:=by
 obtain ⟨xs,a,f,g,i⟩:=h;obtain ⟨ao,c,rfl,d,e,j⟩:=a.open;exact ⟨ao,xs.length,c,rfl,d,by unfold maxLen at e;omega⟩
def SetR (w:World) (s:ByteArray) (rv iv:Value) (wr:World):Prop :=
 ∃ i:Nat,i<=s.size/\iv=.int .i64 i/\aT wr rv (bw (s.data.toList.take i)) (3*i)/\w.grownBy wr none/\bC w rv
def SetE (w:World) (b off:Nat) (s:ByteArray) (e:Ending) (w':World):Prop:=e=.returned (.tuple #[.pointer (some ⟨b,off,none⟩),.bool true])/\gF w w' b off/\ay w' b off (bw s.data.toList:Nat) (3*s.size)/\dX w w' b off
def dL (b off:Nat) (a:Bool) (v0:Value) (s:ByteArray) (w:World) (g:gO w b off a v0) (j:0<s.size) (hs:s.size<=1000000000000) (hd:∀ c∈s.data.toList,nu c=true) :
  Calls Tryz.prog 70 #[.pointer (some ⟨b,off,none⟩),.string s,.int .i64 10] w fun e w'=>SetE w b off s e w':=by
 have HB:=ab g;have hb:=g.lt;have HD:=ab hd;obtain ⟨f1,f2⟩:=xX hd s[0] (uK s 0 j);have g1:((s[0].toNat:Int)==45)=false:=by simp;omega
 have g2:((s[0].toNat:Int)==43)=false:=by simp;omega
 have m:((s.size:Int)==0)=false:=by simp;intro e;rw [e] at j;simp at j
 clear hd g f1 f2;go_enter Tryz.func70,Tryz.ntmps70
 go_wp2;clear g1 g2 m;go_loopw [9,10] (fun rv iv wr=>Hid (SetR w s rv iv wr)) (fun _ iv _=>s.size-(intOf iv).toNat)
 case atStart=>exact ⟨0,O,rfl,Ai _,ae _ _,fun k G=>by simp [ar] at G⟩
 case round =>
  obtain ⟨i,hi,rfl,t,P,Q⟩:=hrel.out;obtain ⟨ao,l,cap,rfl,hj,hl⟩:=jn t;have H:=ab t;have f:=ab P;have I:=ab Q;clear t P Q hrel;by_cases hlt:i<s.size
  ·obtain ⟨d1,d2⟩:=xX HD s[i] (uK s i hlt);have n:=ab (sP s i hlt);obtain ⟨c,hc⟩:=eX (s[i].toNat);have he:(48:Int)<=(s[i].toNat:Int):=O
   have hf:(s[i].toNat:Int)<=57:=O
   have HC:=ab hc;clear hc;go_wp2_with fail;refine (fi _ _ ?p1 ?p2).mono ?_
   case p1=>omega
   case p2=>omega
   rintro e w1 ⟨v1,rfl,u,R,k3⟩;obtain ⟨hm,l1,S,rfl,ho,hp⟩:=jn u;have K1:=ab u;have J:=ab R;clear u R k3;go_wp2_with fail;refine (Ah _ _ (bw (s.data.toList.take i)) 10 (3*i) 2 w1 (H.keep0 J) (by simpa using K1.out) O).mono ?_;rintro e w2 ⟨v2,rfl,x,T,m3⟩;obtain ⟨hq,l2,U,rfl,hr,hu⟩:=jn x;have M1:=ab x;have M2:=ab (aa J T);clear x T m3;go_wp2_with fail;refine (fi _ _ ?q1 ?q2).mono ?_
   case q1=>omega
   case q2=>omega
   rintro e w3 ⟨v3,rfl,C,D,n3⟩;obtain ⟨hv,l3,V,rfl,hw,hx⟩:=jn C;have N1:=ab C;have K:=ab (aa M2 D);have q:=ab (M1.keep0 D);clear C D n3;go_wp2_with fail;refine (zd _ _ _ _ (3*i+2) 2 w3 q N1 O O).mono ?_;rintro e w4 ⟨v4,rfl,p1,p2,W⟩;obtain ⟨E,l4,d,rfl,hy,hz⟩:=jn p1;have P1:=ab p1;have P2:=ab (aa K p2);have P3:=ab (show bC w (Value.slice E l4 d) from fun k G=>Nat.le_trans (aa f K).size (W k G));clear p1 p2 W;go_wp2;go_roundw
   case rel =>
    refine ⟨i+1,O,zN,?_,aa f P2,P3⟩;rw [n,pU];have hP:=P1.out.mono (L':=3*(i+1)) O;have e:((s[i].toNat:Int)-48).toNat=s[i].toNat-48:=O
    first
     | exact hP
     | (rw [e] at hP;exact hP)
   case measure=>exact bH
  ·have N:s.data.toList.take i=s.data.toList:=zT (by have:=Lib.size_eq s;omega);have r:i=s.size:=O
   have HT:=ab N;clear N;go_wp2_with fail;refine (gI b off a v0 _ _ _ _ wr (HB.keep0 f) H (gH (w1:=w) I hb)).mono ?_;rintro e w2 ⟨rfl,X,Y,a5⟩;have A1:=ab X;have A2:=ab Y;have A5:=ab a5;clear X Y a5;go_wp2;refine bodyPost_ret (v:=.tuple #[.pointer (some ⟨b,off,none⟩),.bool true]) (by simp [results,Tryz.results70,go_sem]) rfl ?_;refine ⟨rfl,(gF.of_gr f b off hb).trans A1,?_,dX.of A5 I zL⟩;have h:=A2.out;rw [HT,r] at h;exact h
def xV (b off:Nat) (z:Int) (L:Nat) (w:World) (h:ay w b off z L) :
  Calls Tryz.prog 52 #[.pointer (some ⟨b,off,none⟩)] w fun e w'=>e=.returned (.int .i64 (ja z))/\w'=w:=by
 obtain ⟨neg,v,f,g,c,n⟩:=h;obtain ⟨s,l,t,rfl,d,_,q,r,_,_⟩:=aF g;have c0:=f.c0;have c1:=f.c1;clear f g n;by_cases i:z=0
 ·have a:l=0:=d.2 O;subst a;clear d;go_enter Tryz.func52,Tryz.ntmps52
  go_wp2;go_ret;exact ⟨by simp [ja,i],rfl⟩
 ·have a:0<l:=by
   rcases zP l with e | e
   ·have:=d.1 e;omega
   ·exact e
  have j:((l:Int)==0)=false:=by simp;omega
  clear d;by_cases hn:z<0
  ·obtain rfl:neg=true:=by rw [c];simp [hn]
   clear c;go_enter Tryz.func52,Tryz.ntmps52
   go_wp2;go_ret;exact ⟨by simp [ja,hn],rfl⟩
  ·obtain rfl:neg=false:=by rw [c];simp [hn]
   clear c;go_enter Tryz.func52,Tryz.ntmps52
   go_wp2;go_ret;refine ⟨?_,rfl⟩;have m:0<z:=O
   simp [ja,hn,m]
def mh (b:Nat) (z:Int) (L:Nat) (w:World) (h:ay w b 0 z L) :
  Calls Tryz.prog 31 #[.pointer (some ⟨b,0,none⟩)] w fun e w'=>e=.returned (.int .i64 (ja z))/\w'=w:=by
 have H:=ab h;clear h;go_enter Tryz.func31,Tryz.ntmps31
 go_wp2_with fail;refine (xV b 0 z L w H).mono ?_;rintro e w1 ⟨rfl,rfl⟩;go_wp2;go_ret;exact ⟨rfl,rfl⟩
def vJ {x:Int} {y:Nat} (h:Nat.gcd x.natAbs y=1):fF x y=x/\fw x y=y:=by
 unfold fF fw;rw [h];simp
def wG (b:Nat) (x:Int) (y L:Nat) (w:World) (h:bK w b x y L) (i:L<=4000000000000) :
  Calls Tryz.prog 118 #[.pointer (some ⟨b,0,none⟩),.pointer (some ⟨b,0,none⟩)] w fun e w'=>e=.returned (.pointer (some ⟨b,0,none⟩))/\bE w w' b/\bK w' b x y (L+2):=by
 have H:=ab h;obtain ⟨n,v1,d,_⟩:=h.1;obtain ⟨q,v2,f,_⟩:=h.2.1;have j:=ab d;have m:=ab f;have a:=vJ h.2.2.2;have c:=ab a;clear h d f a;go_enter Tryz.func118,Tryz.ntmps118
 go_wp2;go_region_with (first | (go_at_call 80;refine (tq b x y L _ (H.keep0 (az _))).mono ?_;rintro e w1 ⟨rfl,rfl⟩) | (go_at_call 72;refine (da b b 0 b 2 n q v1 v2 x y L _ (j.keep0 (az _)) (m.keep0 (az _)) (H.1.keep0 (az _)) (H.2.1.keep0 (az _)) H.2.2.1 i).mono ?_;rintro e s ⟨rfl,r,g⟩))
 all_goals go_wp2
 all_goals go_ret
 all_goals rw [c.1,c.2] at g
 all_goals exact ⟨rfl,(bE.of_gr (az _)).trans r,g⟩
def oy (b:Nat) (x:Int) (y L:Nat) (w:World) (h:bK w b x y L) (j:L<=4000000000000) :
  Calls Tryz.prog 73 #[.pointer (some ⟨b,0,none⟩),.pointer (some ⟨b,0,none⟩)] w fun e w'=>e=.returned (.pointer (some ⟨b,0,none⟩))/\bE w w' b/\bK w' b (-x) y (L+2):=by
 have H:=ab h;clear h;go_enter Tryz.func73,Tryz.ntmps73
 go_wp2_with fail;refine (wG b x y L w H j).mono ?_;rintro e w1 ⟨rfl,g,d⟩;obtain ⟨q,v1,i,_⟩:=d.1;have m:=ab g;have a:=ab d;have n:=ab i;clear g d i;go_wp2;go_region_with (go_at_call 119;refine (nE b 0 b 0 q v1 x (L+2) _ (n.keep0 (az _)) (a.1.keep0 (az _)) O).mono ?_;rintro e t ⟨rfl,c1,c2,c3⟩)
 all_goals go_wp2
 all_goals go_ret
 all_goals refine ⟨rfl,m.trans ((bE.of_gr (az _)).trans (bE.of_put c1)),c2,?_,a.2.2.1,by rw [Int.natAbs_neg];exact a.2.2.2⟩
 all_goals refine (a.2.1.keep0 (az _)).keep c1 (.inr (.inr O)) ?_
 all_goals (intro v c e;obtain ⟨u,v2,r,C,D,s⟩:=a.out.2.1;have f:=r.c1;simp at f c;rw [f] at c;exact s (by rw [zJ c];exact e))
def low_mk (x:Int) (y:Nat) (hy:0<y):fF x y=(mkRat x y).num/\fw x y=(mkRat x y).den:=by
 rw [Rat.num_mkRat,Rat.den_mkRat,if_neg O,if_neg O];unfold fF fw;rw [Nat.gcd_comm y x.natAbs];exact ⟨rfl,rfl⟩
def RQ (w:World) (b:Nat) (q:Rat) (L:Nat):Prop:=bK w b q.num q.den L
def RQ.keep0 {q:Rat} (h:RQ w b q L) (hg:w.grownBy w' none):RQ w' b q L:=bK.keep0 h hg
def RQ.mono {q:Rat} (h:RQ w b q L) (a:L<=L'):RQ w b q L':=bK.mono h a
def CM (w:World) (q:Rat) (L:Nat) (e:Ending) (w':World):Prop:=∃ b,e=.returned (.pointer (some ⟨b,0,none⟩))/\RQ w' b q L/\w.grownBy w' none/\w.heap.size<=b
def eM (w:World):gO (w.alloc (.cells #[.bool false,.slice none 0 0,.bool false,.slice none 0 0] 98)) w.heap.size 0 false (.slice none 0 0)/\gO (w.alloc (.cells #[.bool false,.slice none 0 0,.bool false,.slice none 0 0] 98)) w.heap.size 2 false (.slice none 0 0) :=
 ⟨by constructor<;>simp,by constructor<;>simp⟩
def lu {a:World} (h:w.grownBy w1 none) (k:bE w1 a b) (hb:w.heap.size<=b):w.grownBy a none :=
 aw h k.gr (fun _ _ e=>e) (fun c hc e=>by cases e;omega)
def bK.q {x:Int} {y:Nat} {q:Rat} (hy:0<y) (a:mkRat x y=q) (h:bK w b (fF x y) (fw x y) L):RQ w b q L:=by
 obtain ⟨c,d⟩:=low_mk x y hy;rw [c,d,a] at h;exact h
def BN (x:Int):mkRat x 1=(x:Rat):=by
 rw [Rat.mkRat_eq_div];have:((1:Nat):Rat)=1:=rfl;rw [this,Rat.div_def];have:(1:Rat)⁻¹=1:=by decide +kernel
 rw [this,Rat.mul_one]
def pJ (w:World) (b L:Nat):Prop:=ay w b 0 0 L/\ay w b 2 0 L
def pJ.keep0 (h:pJ w b L) (hg:w.grownBy w' none):pJ w' b L:=⟨h.1.keep0 hg,h.2.keep0 hg⟩
def zj (b L:Nat) (w:World) (h:pJ w b L) :
  Calls Tryz.prog 80 #[.pointer (some ⟨b,0,none⟩)] w fun e w'=>e=.returned (.pointer (some ⟨w.heap.size,0,none⟩))/\w.grownBy w' none/\ay w' w.heap.size 0 1 2/\dX w w' w.heap.size 0:=by
 obtain ⟨x,C,a,c,q,r⟩:=h.2;obtain ⟨bo,lb,s,rfl,d,D,E,G,t,u⟩:=aF c;obtain rfl:lb=0:=d.2 rfl;have v:w.cell? ⟨b,3,none⟩=some (.slice bo 0 s):=a.c1;clear a c q r d t u h;go_enter Tryz.func80,Tryz.ntmps80
 go_wp2_with fail;refine (dJ 1 _ O O).mono ?_;rintro e w1 ⟨rfl,f,g,i⟩;have j:=ab f;have m:=ab g;have n:=ab i;clear f g i;go_wp2;go_ret;exact ⟨rfl,j,m,n⟩
def RX (w:World) (b:Nat) (q:Rat) (L:Nat):Prop:=ay w b 0 q.num L/\lT w b q.den L
def RX.keep0 {q:Rat} (h:RX w b q L) (hg:w.grownBy w' none):RX w' b q L:=⟨h.1.keep0 hg,h.2.keep0 hg⟩
def RQ.x {q:Rat} (h:RQ w b q L):RX w b q L:=⟨h.1,bK.denC h⟩
def pJ.x (h:pJ w b L) (a:2<=L):RX w b 0 L:=by
 refine ⟨h.1,?_⟩;have:lT w b 1 2:=by
  intro w1 F I m;refine (zj b L w1 (h.keep0 m.gr)).mono ?_;rintro e w' ⟨rfl,g,c,d⟩;exact ⟨w1.heap.size,0,rfl,g,m.new g c zL d⟩
 exact this.mono a
def sub_mk (p q:Rat):mkRat (p.num*(q.den:Int)-q.num*(p.den:Int)) (p.den*q.den)=p-q:=(Rat.sub_def' p q).symm
def As (c d:Nat) (p q:Rat) (L M:Nat) (w:World) (f:RX w c p L) (g:RX w d q M) (n:L+M<=3900000000000) :
  Calls Tryz.prog 49 #[.pointer (some ⟨c,0,none⟩),.pointer (some ⟨d,0,none⟩)] w fun e w'=>CM w (p-q) (L+M+3) e w':=by
 have h:=ab f;have i:=ab g;clear f g;go_enter Tryz.func49,Tryz.ntmps49
 go_wp2_with fail;have a:=ag (ae w none) (.cells #[.bool false,.slice none 0 0,.bool false,.slice none 0 0] 98);refine (wF false w.heap.size c d false false (.slice none 0 0) (.slice none 0 0) _ _ _ _ L M _ (eM w).1 (eM w).2 (h.1.keep0 a) (i.1.keep0 a) (h.2.keep0 a) (i.2.keep0 a) p.den_pos q.den_pos n).mono ?_;rintro e w1 ⟨rfl,j,m⟩;have r:=ab j;have s:=ab m;clear j m a;go_wp2;go_ret;exact ⟨_,rfl,bK.q (Nat.mul_pos p.den_pos q.den_pos) (sub_mk p q) s,lu (ag (ae _ _) _) r zL,zL⟩
def Fd (a c:Nat) (p q:Rat) (L M:Nat) (w:World) (d:RX w a p L) (f:RX w c q M) (g:L+M<=3900000000000) :
  Calls Tryz.prog 32 #[.pointer (some ⟨a,0,none⟩),.pointer (some ⟨c,0,none⟩)] w fun e w'=>CM w (p-q) (L+M+3) e w':=by
 have i:=ab d;have j:=ab f;clear d f;go_enter Tryz.func32,Tryz.ntmps32
 go_wp2_with fail;refine (As a c p q L M _ i j g).mono ?_;rintro e w1 ⟨b,rfl,h⟩;have H:=ab h;clear h;go_wp2;go_ret;exact ⟨b,rfl,H⟩
def add_mk (p q:Rat):mkRat (p.num*(q.den:Int)+q.num*(p.den:Int)) (p.den*q.den)=p+q:=(Rat.add_def' p q).symm
def rAdd_at (c d:Nat) (p q:Rat) (L M:Nat) (w:World) (f:RX w c p L) (g:RX w d q M) (n:L+M<=3900000000000) :
  Calls Tryz.prog 46 #[.pointer (some ⟨c,0,none⟩),.pointer (some ⟨d,0,none⟩)] w fun e w'=>CM w (p+q) (L+M+3) e w':=by
 have h:=ab f;have i:=ab g;clear f g;go_enter Tryz.func46,Tryz.ntmps46
 go_wp2_with fail;have a:=ag (ae w none) (.cells #[.bool false,.slice none 0 0,.bool false,.slice none 0 0] 98);refine (wF true w.heap.size c d false false (.slice none 0 0) (.slice none 0 0) _ _ _ _ L M _ (eM w).1 (eM w).2 (h.1.keep0 a) (i.1.keep0 a) (h.2.keep0 a) (i.2.keep0 a) p.den_pos q.den_pos n).mono ?_;rintro e w1 ⟨rfl,j,m⟩;have r:=ab j;have s:=ab m;clear j m a;go_wp2;go_ret;exact ⟨_,rfl,bK.q (Nat.mul_pos p.den_pos q.den_pos) (add_mk p q) s,lu (ag (ae _ _) _) r zL,zL⟩
def RV (w:World) (b:Nat) (q:Rat) (L:Nat):Prop:=RQ w b q L∨(q=0/\pJ w b L)
def RV.keep0 {q:Rat} (h:RV w b q L) (hg:w.grownBy w' none):RV w' b q L:=by
 rcases h with h | ⟨e,h⟩
 ·exact .inl (h.keep0 hg)
 ·exact .inr ⟨e,h.keep0 hg⟩
def RV.mono {q:Rat} (h:RV w b q L) (a:L<=L'):RV w b q L':=by
 rcases h with h | ⟨e,h⟩
 ·exact .inl (h.mono a)
 ·exact .inr ⟨e,h.1.mono a,h.2.mono a⟩
def RV.x {q:Rat} (h:RV w b q L) (a:2<=L):RX w b q L:=by
 rcases h with h | ⟨rfl,h⟩
 ·exact h.x
 ·exact h.x a
def RV.ints {q:Rat} (h:RV w b q L):∃ z y:Int,ay w b 0 z L/\ay w b 2 y L:=by
 rcases h with h | ⟨rfl,h⟩
 ·exact ⟨_,_,h.1,h.2.1⟩
 ·exact ⟨_,_,h.1,h.2⟩
def RV.lt {q:Rat} (h:RV w b q L):b<w.heap.size:=by
 obtain ⟨z,y,⟨c,v1,a,_⟩,_⟩:=h.ints;exact a.lt
def Ws.keepV {v:Value} {xs:List Nat} (h:Ws w v xs) (hg:w.grownBy w' (some k)) (hn:bR w k):Ws w' v xs:=by
 refine ⟨h.sm,?_⟩;rcases h.sh with d | ⟨b,off,cap,rfl,hb,f,g,hc⟩
 ·exact .inl d
 ·refine .inr ⟨b,off,cap,rfl,Nat.lt_of_lt_of_le hb hg.size,f,g,fun i hi=>?_⟩;have c:b≠k:=fun e=>hn (off+i) xs[i] (by rw [<- e];exact hc i hi)
  have e:w'.heap[b]? = w.heap[b]?:=hg.block b hb (fun e=>c (zJ e));exact (World.cell?_of_block (a:=⟨b,off+i,none⟩) e).trans (hc i hi)
def ay.keepV {off:Nat} (h:ay w b off z L) (hg:w.grownBy w' (some k)) (hn:bR w k) (d:b≠k):ay w' b off z L:=by
 obtain ⟨neg,v,c,⟨xs,f,g⟩,i⟩:=h;have e:w'.heap[b]? = w.heap[b]?:=hg.block b c.lt (fun e=>d (zJ e));exact ⟨neg,v,⟨(World.cell?_of_block (a:=⟨b,off,none⟩) e).trans c.c0,(World.cell?_of_block (a:=⟨b,off+1,none⟩) e).trans c.c1,(World.frozen?_of_block (a:=⟨b,off,none⟩) e).trans c.f0,(World.frozen?_of_block (a:=⟨b,off+1,none⟩) e).trans c.f1⟩,⟨xs,f.keepV hg hn,g⟩,i⟩
def RV.keepV {q:Rat} (h:RV w b q L) (hg:w.grownBy w' (some k)) (hn:bR w k) (a:b≠k):RV w' b q L:=by
 rcases h with h | ⟨e,h⟩
 ·exact .inl ⟨h.1.keepV hg hn a,h.2.1.keepV hg hn a,h.2.2⟩
 ·exact .inr ⟨e,h.1.keepV hg hn a,h.2.keepV hg hn a⟩
def pv:Option Nat->Value
 | none=>.pointer none
 | some b=>.pointer (some ⟨b,0,none⟩)
def Tryz.infoPR:(Tryz.prog.info? 65).map (fun i=>(i.zero,i.size,i.bytes))=some (some (pv none),1,8):=zK
def tW (a:Nat) (h i:Bool) (v1 v2:Value) (x:Int) (w:World) (c:gO w a 0 h v1) (d:gO w a 2 i v2) (s:-9223372036854775808<=x) (t:x<=9223372036854775807) :
  Calls Tryz.prog 51 #[.pointer (some ⟨a,0,none⟩),.int .i64 x] w fun e w'=>e=.returned (.pointer (some ⟨a,0,none⟩))/\bE w w' a/\RQ w' a (x:Rat) 4:=by
 have u:=ab c;have v:=ab d;clear c d;go_enter Tryz.func51,Tryz.ntmps51
 go_wp2_with fail;refine (dJ x _ s t).mono ?_;rintro e w1 ⟨rfl,j,m,H⟩;have g:=ab j;have C:=ab m;clear j m H;go_wp2_with fail;refine (dJ 1 _ O O).mono ?_;rintro e J ⟨rfl,n,r,I⟩;have f:=ab n;have D:=ab r;clear n r I;go_wp2_with fail;refine (da a w.heap.size 0 w1.heap.size 0 h i v1 v2 x 1 2 _ ((u.keep0 g).keep0 f) ((v.keep0 g).keep0 f) (C.keep0 f) D O O).mono ?_;rintro e K ⟨rfl,c1,c2⟩;have E:=ab c1;have G:=ab c2;clear c1 c2;go_wp2;go_ret;exact ⟨rfl,((bE.of_gr g).trans (bE.of_gr f)).trans E,bK.q O (BN x) G⟩
def fB (x:Int) (w:World) (d:-9223372036854775808<=x) (f:x<=9223372036854775807) :
  Calls Tryz.prog 28 #[.int .i64 x] w fun e w'=>CM w (x:Rat) 4 e w':=by
 go_enter Tryz.func28,Tryz.ntmps28
 go_wp2_with fail;refine (tW w.heap.size false false (.slice none 0 0) (.slice none 0 0) x _ (eM w).1 (eM w).2 d f).mono ?_;rintro e w1 ⟨rfl,a,c⟩;have g:=ab a;have h:=ab c;clear a c;go_wp2;go_ret;exact ⟨_,rfl,h,lu (ag (ae _ _) _) g zL,zL⟩
def j6 (c:UInt8):([48,49,50,51,52,53,54,55,56,57]:List UInt8).contains c=nu c:=by
 rw [Bool.eq_iff_iff];simp [nu,<- UInt8.toNat_inj];omega
def j7 (c:UInt8):([48]:List UInt8).contains c=true↔c=48:=Z
def xP (p:UInt8->Bool):∀ l:List UInt8,l.dropWhile p=[]↔∀ c∈l,p c=true
 | []=>Z
 | a :: r=>by
  rw [List.dropWhile_cons];by_cases h:p a=true
  ·rw [if_pos h,xP p r];simp [h]
  ·rw [if_neg h];simp [h]
def zu (p:UInt8->Bool):∀ (l:List UInt8) (x:UInt8) (r:List UInt8),l.dropWhile p=x :: r->p x=false
 | [],x,r,h=>by simp at h
 | a :: t,x,r,h=>by
  rw [List.dropWhile_cons] at h;by_cases ha:p a=true
  ·rw [if_pos ha] at h;exact zu p t x r h
  ·rw [if_neg ha] at h;obtain ⟨rfl,_⟩:=List.cons.inj h;simpa using ha
def Dw (p:UInt8->Bool):∀ (l:List UInt8) (c:UInt8),c∈l.dropWhile p->c∈l
 | [],c,h=>by simp at h
 | a :: t,c,h=>by
  rw [List.dropWhile_cons] at h;by_cases ha:p a=true
  ·rw [if_pos ha] at h;exact List.mem_cons_of_mem _ (Dw p t c h)
  ·rw [if_neg ha] at h;exact h
def sR (l cs:List UInt8):Lib.trimS l cs=[]↔∀ c∈l,cs.contains c=true:=by
 unfold Lib.trimS Lib.trimLeftS Lib.trimRightS;rw [xP];constructor
 ·intro h;cases he:l.reverse.dropWhile (fun x=>cs.contains x) with
  | nil =>
   rw [xP] at he;exact fun c hc=>he c (by simpa using hc)
  | cons x r =>
   exfalso
   have d:=zu _ _ _ _ he;have a:=h x (by rw [he];simp);simp only [d] at a;exact absurd a Z
 ·intro h c hc;rw [List.mem_reverse] at hc;exact h c (by simpa using Dw _ _ _ hc)
def xu (hd:∀ c∈l,nu c=true) (h:bw l=0):∀ c∈l,([48]:List UInt8).contains c=true:=by
 induction l with
 | nil=>intro c hc;simp at hc
 | cons a r ih =>
  have e:=lZ [a] r;simp only [List.singleton_append] at e;rw [h] at e;have d:bw [a]*10^r.length=0:=O
  have f:bw r=0:=O
  have g:bw [a]=0:=by
   rcases Nat.mul_eq_zero.1 d with h | h
   ·exact h
   ·have:=Nat.pow_pos (n:=r.length) (show 0<10 by decide);omega
  have i:=(xX hd a Z).1;intro c hc;rcases List.mem_cons.1 hc with rfl | hc
  ·rw [j7,<- UInt8.toNat_inj];simp [bw] at g;show c.toNat=48
   omega
  ·exact ih (fun c hc=>hd c (by simp [hc])) f c hc
def uE (h:∀ c∈l,([48]:List UInt8).contains c=true):bw l=0:=by
 induction l with
 | nil=>rfl
 | cons a r ih =>
  have e:=lZ [a] r;simp only [List.singleton_append] at e;have d:=(j7 a).1 (h a Z);rw [e,ih (fun c hc=>h c (by simp [hc])),d];have:bw [(48:UInt8)]=0:=zD
  rw [this];simp
def je {s:ByteArray} (h:cr s.data.toList=true):0<s.size:=by
 rw [Lib.size_eq];unfold cr at h;cases hl:s.data.toList with
 | nil=>rw [hl] at h;simp at h
 | cons a r=>simp
def kD (h:Below w.heap.size w w'):w.grownBy w' none:=by
 obtain ⟨a,b,c,d,e⟩:=h;exact ⟨a,b,c,d,fun k f _=>e k f⟩
def uU (h:l=[]):(⟨l.toArray⟩:ByteArray)=⟨#[]⟩:=by rw [h]
def qd (h:l≠[]):(⟨l.toArray⟩:ByteArray).toList.isEmpty=false:=by
 rw [Lib.toList_data];cases l with
 | nil=>exact absurd rfl h
 | cons a r=>rfl
def aV (s:ByteArray) (w:World) (u:s.size<=9223372036854775807) :
  Calls Tryz.prog 68 #[.string s] w fun e w'=>e=.returned (.bool (cr s.data.toList))/\w.grownBy w' none:=by
 by_cases n:s.data.toList=[]
 ·have v:s=⟨#[]⟩:=by
   rw [<- Lib.mk_data s,n]
  subst v;go_enter Tryz.func68,Tryz.ntmps68
  go_wp2;go_ret;exact ⟨rfl,ae _ _⟩
 ·have t:s.toList.isEmpty=false:=by
   rw [Lib.toList_data];cases h:s.data.toList with
   | nil=>exact absurd h n
   | cons a r=>rfl
  have d:=Any.strings_Trim_laid Tryz.lays160 zK s ⟨#[48,49,50,51,52,53,54,55,56,57]⟩ w u zD (ascii_of_all zD);change Calls Tryz.prog 69 _ _ (fun e w'=>e=.returned (.string ⟨(Lib.trimS s.data.toList [48,49,50,51,52,53,54,55,56,57]).toArray⟩)/\Below w.heap.size w w') at d
  have hn:=sR s.data.toList [48,49,50,51,52,53,54,55,56,57];have f:cr s.data.toList=s.data.toList.all nu:=by
   unfold cr;cases h:s.data.toList with
   | nil=>exact absurd h n
   | cons a r=>rfl
  by_cases ha:s.data.toList.all nu=true
  ·have m:=uU (hn.2 (fun c hc=>by rw [j6];exact List.all_eq_true.1 ha c hc));rw [m] at d;rw [f,ha];have g:=ab d;clear d hn m ha f;go_enter Tryz.func68,Tryz.ntmps68
   go_wp2_with fail;refine g.mono ?_;rintro e w1 ⟨rfl,j⟩;have q:=ab (kD j);clear j;go_wp2;go_ret;exact ⟨rfl,q⟩
  ·have i:s.data.toList.all nu=false:=by simpa using ha
   have m:=qd (fun e=>ha (List.all_eq_true.2 (fun c hc=>by rw [<- j6];exact hn.1 e c hc)));rw [f,i];generalize (⟨(Lib.trimS s.data.toList [48,49,50,51,52,53,54,55,56,57]).toArray⟩:ByteArray)=r at d m;have g:=ab d;clear d hn ha f i;go_enter Tryz.func68,Tryz.ntmps68
   go_wp2_with fail;refine g.mono ?_;rintro e w1 ⟨rfl,j⟩;have q:=ab (kD j);clear j;go_wp2;go_ret;exact ⟨rfl,q⟩
def oD (s:ByteArray) (w:World) (d:s.size<=9223372036854775807) :
  Calls Tryz.prog 69 #[.string s,.string ⟨#[48]⟩] w fun e w'=>∃ r:ByteArray,e=.returned (.string r)/\(((∀ c∈s.data.toList,([48]:List UInt8).contains c=true)->r=⟨#[]⟩)/\((¬ ∀ c∈s.data.toList,([48]:List UInt8).contains c=true)->r.toList.isEmpty=false))/\w.grownBy w' none:=by
 have a:=Any.strings_Trim_laid Tryz.lays160 zK s ⟨#[48]⟩ w d zD (ascii_of_all zD);change Calls Tryz.prog 69 _ _ (fun e w'=>e=.returned (.string ⟨(Lib.trimS s.data.toList [48]).toArray⟩)/\Below w.heap.size w w') at a
 have hn:=sR s.data.toList [48];refine a.mono ?_;rintro e w1 ⟨rfl,f⟩;exact ⟨_,rfl,⟨fun h=>uU (hn.2 h),fun h=>qd (fun e=>h (hn.1 e))⟩,kD f⟩
def SplitE (w:World) (t:ByteArray) (e:Ending) (w':World):Prop :=
 w.grownBy w' none/\∃ A:ByteArray,A.data.toList=(Lib.cut t.data.toList [47]).1/\w'.cell? ⟨w.heap.size,0,none⟩=some (.string A) /\
  (((Lib.cut t.data.toList [47]).2.2=false/\∃ cap,1<=cap/\cap<=2/\e=.returned (.slice (some ⟨w.heap.size,0,none⟩) 1 cap)) ∨
   ((Lib.cut t.data.toList [47]).2.2=true/\∃ B:ByteArray,B.data.toList=(Lib.cut t.data.toList [47]).2.1/\w'.cell? ⟨w.heap.size,1,none⟩=some (.string B)/\e=.returned (.slice (some ⟨w.heap.size,0,none⟩) 2 2)))
def yX (t:ByteArray) (i:Nat) (h:i<=t.size):(t.extract 0 i).data.toList=t.data.toList.take i:=by
 rw [ByteArray.data_extract,Array.toList_extract];simp
def wV (t:ByteArray) (m:Int) (w:World) (g:t.size<=4200000000) (f:w.cell? ⟨2,0,none⟩=some (.int .i64 m)) :
  Calls Tryz.prog 67 #[.string t,.string ⟨#[47]⟩,.int .i64 2] w fun e w'=>SplitE w t e w':=by
 refine (Tryz.strings_SplitN t ⟨#[47]⟩ 2 m w O f zD zD zD).mono ?_;rintro e w1 ⟨rfl,rfl⟩;refine ⟨ag (ae _ _) _,?_⟩;rcases Lib.indexB_cases t ⟨#[47]⟩ with hi | ⟨i,hi,d⟩
 ·rw [Lib.splitB_miss _ _ _ _ hi];have hc:Lib.cut t.data.toList [47]=(t.data.toList,[],false):=by
   unfold Lib.cut;have:Lib.index t.data.toList [47] = -1:=hi;rw [this,if_neg zD]
  rw [hc];refine ⟨t,rfl,?_,.inl ⟨rfl,min 2 (t.size+1),O,O,rfl⟩⟩;rw [World.cell?_alloc_at _ _ _ _ rfl];simp [Lib.cellsOf]
 ·have a:(⟨#[47]⟩:ByteArray).size=1:=rfl;rw [a] at d;have c:min 2 (t.size+1)=2:=O
  rw [c];rw [show (2-1:Nat)=0+1 from rfl,Lib.splitB_hit _ _ _ _ i hi,Lib.splitB_zero,a,Nat.add_zero];have hc:Lib.cut t.data.toList [47]=(t.data.toList.take i,t.data.toList.drop (i+1),true):=by
   unfold Lib.cut;have:Lib.index t.data.toList [47]=(i:Int):=hi;rw [this,if_pos O];simp
  rw [hc];refine ⟨t.extract 0 i,yX t i O,?_,.inr ⟨rfl,t.extract (i+1) t.size,(kY t (i+1) O).1,?_,rfl⟩⟩
  ·rw [World.cell?_alloc_at _ _ _ _ rfl];simp [Lib.cellsOf]
  ·rw [World.cell?_alloc_at _ _ _ _ rfl];simp [Lib.cellsOf]
def yF {s:ByteArray} (h:Lib.hasPrefix s.data.toList [45]=true):1<=s.size/\Lib.trimPrefix s.data.toList [45]=(s.extract 1 s.size).data.toList:=by
 have c:1<=s.size:=by
  rw [Lib.size_eq];unfold Lib.hasPrefix at h;cases hl:s.data.toList with
  | nil=>rw [hl] at h;simp at h
  | cons a r=>simp
 refine ⟨c,?_⟩;unfold Lib.trimPrefix;rw [if_pos h,(kY s 1 c).1];rfl
def wT {s:List UInt8} {a:Bool} {T A:List UInt8} (c:Lib.hasPrefix s [45]=a) (d:Lib.trimPrefix s [45]=T) (f:A=(Lib.cut T [47]).1) (g:(Lib.cut T [47]).2.2=false):ij s=if cr A then bn a (bw A) 1 else (false,0,1):=by
 have e:fM T=[49]:=by unfold fM;rw [g];rfl
 unfold ij;rw [c,d,e,f];have h:cr [49]=true:=zD
 have i:bw [49]=1:=zD
 rw [h,i,Bool.and_true]
def wU {s:List UInt8} {a:Bool} {T A B:List UInt8} (c:Lib.hasPrefix s [45]=a) (d:Lib.trimPrefix s [45]=T) (f:A=(Lib.cut T [47]).1) (g:B=(Lib.cut T [47]).2.1) (h:(Lib.cut T [47]).2.2=true):ij s=if cr A && cr B then bn a (bw A) (bw B) else (false,0,1):=by
 have e:fM T=B:=by unfold fM;rw [h,g];rfl
 unfold ij;rw [c,d,e,f]
def iV (w:World):gO (w.alloc (.cells #[.bool false,.slice none 0 0,.bool false,.slice none 0 0] 98)) w.heap.size 0 false (.slice none 0 0)/\gO (w.alloc (.cells #[.bool false,.slice none 0 0,.bool false,.slice none 0 0] 98)) w.heap.size 2 false (.slice none 0 0) :=
 ⟨⟨Z,Z,Z,Z⟩,⟨Z,Z,Z,Z⟩⟩
def AP (w:World) (l:List UInt8) (L:Nat) (e:Ending) (w':World):Prop :=
 ∃ b,e=.returned (.pointer (some ⟨b,0,none⟩))/\w.grownBy w' none/\w.heap.size<=b/\ay w' b 0 (sg (ij l).1 (ij l).2.1) L /\
  (bK w' b (sg (ij l).1 (ij l).2.1) (ij l).2.2 L∨(ij l=(false,0,1)/\ay w' b 2 0 L))
def gJ (h:ij l=(false,0,1)) (hg:w.grownBy w1 none) :
  AP w l L (.returned (.pointer (some ⟨w1.heap.size,0,none⟩))) (w1.alloc (.cells #[.bool false,.slice none 0 0,.bool false,.slice none 0 0] 98)):=by
 have a:∀ off,gO (w1.alloc (.cells #[.bool false,.slice none 0 0,.bool false,.slice none 0 0] 98)) w1.heap.size off false (.slice none 0 0)->ay (w1.alloc (.cells #[.bool false,.slice none 0 0,.bool false,.slice none 0 0] 98)) w1.heap.size off 0 L:=by
  intro off c;exact ⟨false,.slice none 0 0,c,(Ai _).mono (Nat.zero_le _),Z,by simp [ar]⟩
 refine ⟨_,rfl,ag hg _,hg.size,?_,.inr ⟨h,a 2 (iV w1).2⟩⟩;rw [h];exact a 0 (iV w1).1
def Ad (n d:Nat) (hd:0<d) (a:Bool):sg (bn a n d).1 (bn a n d).2.1=(if a then-fF (n:Int) d else fF (n:Int) d)/\(bn a n d).2.2=fw (n:Int) d:=by
 unfold bn fF fw;rw [Int.natAbs_natCast];by_cases hn:n=0
 ·subst hn;rw [if_pos (.inl rfl)];simp [sg,Nat.div_self hd]
 ·rw [if_neg O];cases a<;>simp [sg]
def Ay {c:World} {n d a:Nat} (h:ij l=bn false n d) (hd:0<d) (e:bK c a (fF (n:Int) d) (fw (n:Int) d) L) (hg:w.grownBy c none) (hn:w.heap.size<=a) (f:L<=L') :
  AP w l L' (.returned (.pointer (some ⟨a,0,none⟩))) c:=by
 obtain ⟨j,m⟩:=Ad n d hd false;have g:sg (ij l).1 (ij l).2.1=fF (n:Int) d:=by rw [h];simpa using j
 have i:(ij l).2.2=fw (n:Int) d:=by rw [h];exact m
 refine ⟨a,rfl,hg,hn,?_,.inl ?_⟩
 ·rw [g];exact e.1.mono f
 ·rw [g,i];exact e.mono f
def Aw {c:World} {n d a:Nat} (h:ij l=bn true n d) (hd:0<d) (e:bK c a (- fF (n:Int) d) (fw (n:Int) d) L) (hg:w.grownBy c none) (hn:w.heap.size<=a) (f:L<=L') :
  AP w l L' (.returned (.pointer (some ⟨a,0,none⟩))) c:=by
 obtain ⟨j,m⟩:=Ad n d hd true;have g:sg (ij l).1 (ij l).2.1 = - fF (n:Int) d:=by rw [h];simpa using j
 have i:(ij l).2.2=fw (n:Int) d:=by rw [h];exact m
 refine ⟨a,rfl,hg,hn,?_,.inl ?_⟩
 ·rw [g];exact e.1.mono f
 ·rw [g,i];exact e.mono f
def wJ (s:ByteArray) (m:Int) (w:World) (hs:s.size<=3000000000) (Q:w.cell? ⟨2,0,none⟩=some (.int .i64 m)) (i:Lib.hasPrefix s.data.toList [45]=false) :
  Calls Tryz.prog 40 #[.string s] w fun e w'=>AP w s.data.toList (3*s.size+8) e w':=by
 have he:=ab Q;have j:=ab i;have HT:Hid (Lib.trimPrefix s.data.toList [45]=s.data.toList):=by
  show _=_
  unfold Lib.trimPrefix;rw [if_neg (by rw [i];simp)]
 clear Q i;go_enter Tryz.func40,Tryz.ntmps40
 go_wp2_with fail;refine (Tryz.strings_HasPrefix s ⟨#[45]⟩ _).mono ?_;rintro e w0 ⟨rfl,rfl⟩;rw [show Lib.hasPrefix s.data.toList (⟨#[45]⟩:ByteArray).data.toList=false from j.out];go_wp2_with fail;refine (wV s m w0 O he).mono ?_;intro e w1 I;obtain ⟨g1,A,J,q0,hw⟩:=I;have ho:A.size<=s.size:=by
  have:=(ky (s).data.toList [47]).1;rw [<- J,<- Lib.size_eq,<- Lib.size_eq] at this;omega
 have N:=ab g1;have R:=ab J;clear g1 J;generalize w0.heap.size=h at *;have hp:s.size<=s.size:=zL;have hq:w0.heap.size<=w1.heap.size:=N.out.size;rcases hw with ⟨c,cap,hx,hy,rfl⟩ | ⟨c,B,K,q1,rfl⟩
 ·have f:Hid (ij s.data.toList=if cr A.data.toList then bn false (bw A.data.toList) 1 else (false,0,1)):=wT j HT R c;clear c;by_cases ha:cr A.data.toList=true
  ·have g:=ab ha;rw [ha,if_pos rfl] at f;clear ha;go_wp2_with fail;refine (aV A _ O).mono ?_;rintro e v ⟨rfl,a⟩;rw [g];have q0:=a.cell q0 Z;have u:=ab (aa N a);clear a;have hf:h<v.heap.size:=eP q0;go_wp2_with fail;refine (dL v.heap.size 0 false (.slice none 0 0) A _ (fR v) (je g) O (dm g)).mono ?_;intro e w3 I;obtain ⟨rfl,C,D,_⟩:=I;have x:v.grownBy w3 none:=cw (ag (ae _ _) _) C zL;have q0:=x.cell q0 Z;have G3:=ab (aa u x);have N3:=ab D;generalize v.heap.size=na at *;clear C D x;go_wp2_with fail;refine (dJ 1 _ O O).mono ?_;rintro e w4 ⟨rfl,g4,p4,_⟩;have E:=ab (aa G3 g4);have N4:=ab (N3.keep0 g4);have D4:=ab p4;have q0:=g4.cell q0 Z;generalize w3.heap.size=nb at *;clear g4 p4;go_wp2_with fail;refine (da w4.heap.size na 0 nb 0 false false (.slice none 0 0) (.slice none 0 0) (bw A.data.toList:Nat) 1 (3*s.size+4) _ (iV w4).1 (iV w4).2 ((N4.mono O).keep0 (ag (ae _ _) _)) ((D4.mono O).keep0 (ag (ae _ _) _)) O O).mono ?_;rintro e w5 ⟨rfl,V,W⟩;have G5:=ab (aw (ag E _) V.gr (fun _ _ e=>e) (fun k hk e=>by cases e;have:=E.out.size;omega));have R5:=ab W;have n:w0.heap.size<=w4.heap.size:=E.out.size;generalize w4.heap.size=nz at *;clear V W;go_wp2
   go_ret;exact Ay f O R5 G5 n O
  ·have d:cr A.data.toList=false:=by simpa using ha
   have g:=ab d;rw [d] at f;clear ha d;go_wp2_with fail;refine (aV A _ O).mono ?_;rintro e v ⟨rfl,a⟩;rw [g];have u:=ab (aa N a);clear a;go_wp2;go_ret;exact gJ f u
 ·have f:Hid (ij s.data.toList=if cr A.data.toList && cr B.data.toList then bn false (bw A.data.toList) (bw B.data.toList) else (false,0,1)):=wU j HT R K c;have hu:B.size<=s.size:=by
   have:=(ky s.data.toList [47]).2;rw [<- K,<- Lib.size_eq,<- Lib.size_eq] at this;omega
  clear c K;by_cases ha:cr A.data.toList=true
  ·have g:=ab ha;rw [ha,Bool.true_and] at f;clear ha;by_cases hb:cr B.data.toList=true
   ·have P:=ab hb;rw [hb,if_pos rfl] at f;clear hb;go_wp2_with fail;refine (aV A _ O).mono ?_;rintro e v ⟨rfl,a⟩;rw [g];have q0:=a.cell q0 Z;have q1:=a.cell q1 Z;have u:=ab (aa N a);clear a;go_wp2_with fail;refine (aV B _ O).mono ?_;rintro e hm ⟨rfl,a⟩;rw [P];have q0:=a.cell q0 Z;have q1:=a.cell q1 Z;have G:=ab (aa u a);clear a;go_wp2_with fail;refine (oD B _ O).mono ?_;rintro e q ⟨r,rfl,hr,a⟩;have q0:=a.cell q0 Z;have q1:=a.cell q1 Z;have S:=ab (aa G a);clear a;by_cases T:bw B.data.toList=0
    ·obtain rfl:=hr.1 (xu (dm P) T);rw [T] at f;clear hr T;go_wp2;go_ret;refine gJ ?_ S;rw [f];unfold bn;rw [if_pos (.inr rfl)]
    ·have hv:=hr.2 (fun h=>T (uE h));have U:0<bw B.data.toList:=O
     clear hr T;have X:h<q.heap.size:=eP q0;go_wp2_with fail;refine (dL q.heap.size 0 false (.slice none 0 0) A _ (fR q) (je g) O (dm g)).mono ?_;intro e w3 I;obtain ⟨rfl,C,D,_⟩:=I;have x:q.grownBy w3 none:=cw (ag (ae _ _) _) C zL;have q0:=x.cell q0 Z;have q1:=x.cell q1 Z;have G3:=ab (aa S x);have N3:=ab D;generalize q.heap.size=na at *;clear C D x;go_wp2_with fail;refine (dJ 1 _ O O).mono ?_;rintro e t ⟨rfl,g4,_,_⟩;have hj:=ab (aa G3 g4);have hl:=ab (N3.keep0 g4);have q0:=g4.cell q0 Z;have q1:=g4.cell q1 Z;clear g4;have Y:h<t.heap.size:=eP q0;go_wp2_with fail;refine (dL t.heap.size 0 false (.slice none 0 0) B _ (fR t) (je P) O (dm P)).mono ?_;intro e w4 I;obtain ⟨rfl,C,D,_⟩:=I;have g4:t.grownBy w4 none:=cw (ag (ae _ _) _) C zL;have q0:=g4.cell q0 Z;have q1:=g4.cell q1 Z;have E:=ab (aa hj g4);have N4:=ab (hl.keep0 g4);have D4:=ab D;generalize t.heap.size=nb at *;clear C D g4;go_wp2_with fail;refine (da w4.heap.size na 0 nb 0 false false (.slice none 0 0) (.slice none 0 0) (bw A.data.toList:Nat) (bw B.data.toList) (3*s.size+4) _ (iV w4).1 (iV w4).2 ((N4.mono O).keep0 (ag (ae _ _) _)) ((D4.mono O).keep0 (ag (ae _ _) _)) U O).mono ?_
     rintro e w5 ⟨rfl,V,W⟩;have G5:=ab (aw (ag E _) V.gr (fun _ _ e=>e) (fun k hk e=>by cases e;have:=E.out.size;omega));have R5:=ab W;have n:w0.heap.size<=w4.heap.size:=E.out.size;generalize w4.heap.size=nz at *;clear V W;go_wp2;go_ret;exact Ay f U R5 G5 n O
   ·have H:cr B.data.toList=false:=by simpa using hb
    have P:=ab H;rw [H] at f;clear hb H;go_wp2_with fail;refine (aV A _ O).mono ?_;rintro e v ⟨rfl,a⟩;rw [g];have q0:=a.cell q0 Z;have q1:=a.cell q1 Z;have u:=ab (aa N a);clear a;go_wp2_with fail;refine (aV B _ O).mono ?_;rintro e hm ⟨rfl,a⟩;rw [P];have G:=ab (aa u a);clear a;go_wp2;go_ret;exact gJ f G
  ·have d:cr A.data.toList=false:=by simpa using ha
   have g:=ab d;rw [d,Bool.false_and] at f;clear ha d;go_wp2_with fail;refine (aV A _ O).mono ?_;rintro e v ⟨rfl,a⟩;rw [g];have u:=ab (aa N a);clear a;go_wp2;go_ret;exact gJ f u
def yK (s:ByteArray) (m:Int) (w:World) (hs:s.size<=3000000000) (Q:w.cell? ⟨2,0,none⟩=some (.int .i64 m)) (i:Lib.hasPrefix s.data.toList [45]=true) :
  Calls Tryz.prog 40 #[.string s] w fun e w'=>AP w s.data.toList (3*s.size+8) e w':=by
 have hj:=ab Q;have j:=ab i;obtain ⟨hp,W⟩:=yF i;have R:Hid (Lib.trimPrefix s.data.toList [45]=(s.extract 1 s.size).data.toList):=W;have hu:=(kY s 1 hp).2;clear W;clear Q i;go_enter Tryz.func40,Tryz.ntmps40
 go_wp2_with fail;refine (Tryz.strings_HasPrefix s ⟨#[45]⟩ _).mono ?_;rintro e w0 ⟨rfl,rfl⟩;rw [show Lib.hasPrefix s.data.toList (⟨#[45]⟩:ByteArray).data.toList=true from j.out];go_wp2_with fail;refine (wV (s.extract 1 s.size) m w0 O hj).mono ?_;intro e w1 I;obtain ⟨g1,A,J,q0,hw⟩:=I;have hv:A.size<=s.size:=by
  have:=(ky ((s.extract 1 s.size)).data.toList [47]).1;rw [<- J,<- Lib.size_eq,<- Lib.size_eq] at this;omega
 have N:=ab g1;have S:=ab J;clear g1 J;generalize w0.heap.size=h at *;have hx:w0.heap.size<=w1.heap.size:=N.out.size;rcases hw with ⟨c,cap,hB,hC,rfl⟩ | ⟨c,B,K,q1,rfl⟩
 ·have f:Hid (ij s.data.toList=if cr A.data.toList then bn true (bw A.data.toList) 1 else (false,0,1)):=wT j R S c;clear c;by_cases ha:cr A.data.toList=true
  ·have g:=ab ha;rw [ha,if_pos rfl] at f;clear ha;go_wp2_with fail;refine (aV A _ O).mono ?_;rintro e v ⟨rfl,a⟩;rw [g];have q0:=a.cell q0 Z;have u:=ab (aa N a);clear a;have hl:h<v.heap.size:=eP q0;go_wp2_with fail;refine (dL v.heap.size 0 false (.slice none 0 0) A _ (fR v) (je g) O (dm g)).mono ?_;intro e w3 I;obtain ⟨rfl,C,D,_⟩:=I;have x:v.grownBy w3 none:=cw (ag (ae _ _) _) C zL;have q0:=x.cell q0 Z;have G3:=ab (aa u x);have N3:=ab D;generalize v.heap.size=na at *;clear C D x;go_wp2_with fail;refine (dJ 1 _ O O).mono ?_;rintro e w4 ⟨rfl,g4,p4,_⟩;have E:=ab (aa G3 g4);have N4:=ab (N3.keep0 g4);have D4:=ab p4;have q0:=g4.cell q0 Z;generalize w3.heap.size=nb at *;clear g4 p4;go_wp2_with fail;refine (da w4.heap.size na 0 nb 0 false false (.slice none 0 0) (.slice none 0 0) (bw A.data.toList:Nat) 1 (3*s.size+4) _ (iV w4).1 (iV w4).2 ((N4.mono O).keep0 (ag (ae _ _) _)) ((D4.mono O).keep0 (ag (ae _ _) _)) O O).mono ?_;rintro e w5 ⟨rfl,X,Y⟩;have G5:=ab (aw (ag E _) X.gr (fun _ _ e=>e) (fun k hk e=>by cases e;have:=E.out.size;omega));have R5:=ab Y;have n:w0.heap.size<=w4.heap.size:=E.out.size;generalize w4.heap.size=nz at *;clear X Y;go_wp2_with fail
   refine (oy nz _ _ _ w5 R5 O).mono ?_;rintro e w6 ⟨rfl,r6,t6⟩;have G6:=ab (aw G5 r6.gr (fun _ _ e=>e) (fun k hk e=>by cases e;omega));have R6:=ab t6;clear r6 t6;go_wp2;go_ret;exact Aw f O R6 G6 n O
  ·have d:cr A.data.toList=false:=by simpa using ha
   have g:=ab d;rw [d] at f;clear ha d;go_wp2_with fail;refine (aV A _ O).mono ?_;rintro e v ⟨rfl,a⟩;rw [g];have u:=ab (aa N a);clear a;go_wp2;go_ret;exact gJ f u
 ·have f:Hid (ij s.data.toList=if cr A.data.toList && cr B.data.toList then bn true (bw A.data.toList) (bw B.data.toList) else (false,0,1)):=wU j R S K c;have hy:B.size<=s.size:=by
   have:=(ky (s.extract 1 s.size).data.toList [47]).2;rw [<- K,<- Lib.size_eq,<- Lib.size_eq] at this;omega
  clear c K;by_cases ha:cr A.data.toList=true
  ·have g:=ab ha;rw [ha,Bool.true_and] at f;clear ha;by_cases hb:cr B.data.toList=true
   ·have P:=ab hb;rw [hb,if_pos rfl] at f;clear hb;go_wp2_with fail;refine (aV A _ O).mono ?_;rintro e v ⟨rfl,a⟩;rw [g];have q0:=a.cell q0 Z;have q1:=a.cell q1 Z;have u:=ab (aa N a);clear a;go_wp2_with fail;refine (aV B _ O).mono ?_;rintro e hq ⟨rfl,a⟩;rw [P];have q0:=a.cell q0 Z;have q1:=a.cell q1 Z;have G:=ab (aa u a);clear a;go_wp2_with fail;refine (oD B _ O).mono ?_;rintro e q ⟨r,rfl,hr,a⟩;have q0:=a.cell q0 Z;have q1:=a.cell q1 Z;have T:=ab (aa G a);clear a;by_cases U:bw B.data.toList=0
    ·obtain rfl:=hr.1 (xu (dm P) U);rw [U] at f;clear hr U;go_wp2;go_ret;refine gJ ?_ T;rw [f];unfold bn;rw [if_pos (.inr rfl)]
    ·have hA:=hr.2 (fun h=>U (uE h));have V:0<bw B.data.toList:=O
     clear hr U;have he:h<q.heap.size:=eP q0;go_wp2_with fail;refine (dL q.heap.size 0 false (.slice none 0 0) A _ (fR q) (je g) O (dm g)).mono ?_;intro e w3 I;obtain ⟨rfl,C,D,_⟩:=I;have x:q.grownBy w3 none:=cw (ag (ae _ _) _) C zL;have q0:=x.cell q0 Z;have q1:=x.cell q1 Z;have G3:=ab (aa T x);have N3:=ab D;generalize q.heap.size=na at *;clear C D x;go_wp2_with fail;refine (dJ 1 _ O O).mono ?_;rintro e t ⟨rfl,g4,_,_⟩;have hm:=ab (aa G3 g4);have ho:=ab (N3.keep0 g4);have q0:=g4.cell q0 Z;have q1:=g4.cell q1 Z;clear g4;have hf:h<t.heap.size:=eP q0;go_wp2_with fail;refine (dL t.heap.size 0 false (.slice none 0 0) B _ (fR t) (je P) O (dm P)).mono ?_;intro e w4 I;obtain ⟨rfl,C,D,_⟩:=I;have g4:t.grownBy w4 none:=cw (ag (ae _ _) _) C zL;have q0:=g4.cell q0 Z;have q1:=g4.cell q1 Z;have E:=ab (aa hm g4);have N4:=ab (ho.keep0 g4);have D4:=ab D;generalize t.heap.size=nb at *;clear C D g4;go_wp2_with fail;refine (da w4.heap.size na 0 nb 0 false false (.slice none 0 0) (.slice none 0 0) (bw A.data.toList:Nat) (bw B.data.toList) (3*s.size+4) _ (iV w4).1 (iV w4).2 ((N4.mono O).keep0 (ag (ae _ _) _)) ((D4.mono O).keep0 (ag (ae _ _) _)) V O).mono ?_
     rintro e w5 ⟨rfl,X,Y⟩;have G5:=ab (aw (ag E _) X.gr (fun _ _ e=>e) (fun k hk e=>by cases e;have:=E.out.size;omega));have R5:=ab Y;have n:w0.heap.size<=w4.heap.size:=E.out.size;generalize w4.heap.size=nz at *;clear X Y;go_wp2_with fail;refine (oy nz _ _ _ w5 R5 O).mono ?_;rintro e w6 ⟨rfl,r6,t6⟩;have G6:=ab (aw G5 r6.gr (fun _ _ e=>e) (fun k hk e=>by cases e;omega));have R6:=ab t6;clear r6 t6;go_wp2;go_ret;exact Aw f V R6 G6 n O
   ·have H:cr B.data.toList=false:=by simpa using hb
    have P:=ab H;rw [H] at f;clear hb H;go_wp2_with fail;refine (aV A _ O).mono ?_;rintro e v ⟨rfl,a⟩;rw [g];have q0:=a.cell q0 Z;have q1:=a.cell q1 Z;have u:=ab (aa N a);clear a;go_wp2_with fail;refine (aV B _ O).mono ?_;rintro e hq ⟨rfl,a⟩;rw [P];have G:=ab (aa u a);clear a;go_wp2;go_ret;exact gJ f G
  ·have d:cr A.data.toList=false:=by simpa using ha
   have g:=ab d;rw [d,Bool.false_and] at f;clear ha d;go_wp2_with fail;refine (aV A _ O).mono ?_;rintro e v ⟨rfl,a⟩;rw [g];have u:=ab (aa N a);clear a;go_wp2;go_ret;exact gJ f u
def wI (s:ByteArray) (m:Int) (w:World) (c:s.size<=3000000000) (a:w.cell? ⟨2,0,none⟩=some (.int .i64 m)) :
  Calls Tryz.prog 40 #[.string s] w fun e w'=>AP w s.data.toList (3*s.size+8) e w':=by
 cases hneg:Lib.hasPrefix s.data.toList [45] with
 | false=>exact wJ s m w c a hneg
 | true=>exact yK s m w c a hneg
def rOfN_at (s:ByteArray) (m:Int) (w:World) (r:s.size<=1000000000) (c:w.cell? ⟨2,0,none⟩=some (.int .i64 m)) :
  Calls Tryz.prog 40 #[.string s] w fun e w'=>∃ b,e=.returned (.pointer (some ⟨b,0,none⟩))/\w.grownBy w' none/\w.heap.size<=b/\(RQ w' b (fI s.data.toList) (3*s.size+8)∨(fI s.data.toList=0/\pJ w' b (3*s.size+8))):=by
 refine (wI s m w O c).mono ?_;rintro e w' ⟨b,rfl,j,n,f,a⟩;refine ⟨b,rfl,j,n,?_⟩;have d:=Et s.data.toList;have g:sg (ij s.data.toList).1 (ij s.data.toList).2.1=(fI s.data.toList).num:=by rw [d];exact fC _
 have h:(ij s.data.toList).2.2=(fI s.data.toList).den:=by rw [d]
 rw [g] at f a;rw [h] at a;rcases a with a | ⟨a,q⟩
 ·exact .inl a
 ·right
  rw [d] at a;simp only [Prod.mk.injEq] at a;have hn:(fI s.data.toList).num=0:=by
   have:=a.2.1;unfold rN at this;omega
  have i:fI s.data.toList=0:=Rat.num_eq_zero.1 hn;rw [hn] at f;exact ⟨i,f,q⟩
def RX.denAt {q:Rat} (h:RX w b q L) (a:World) (g:w.grownBy a none):Calls Tryz.prog 80 #[.pointer (some ⟨b,0,none⟩)] a fun e w'=>∃ p o,e=.returned (.pointer (some ⟨p,o,none⟩))/\a.grownBy w' none/\ay w' p o (q.den:Int) L:=by
 refine (h.2 a [] [] (dC.start g)).mono ?_;rintro e w' ⟨p,o,rfl,c,m⟩;exact ⟨p,o,rfl,c,m.away (List.mem_cons_self ..)⟩
def ratSetX (c b:Nat) (i j:Bool) (v1 v2:Value) (q:Rat) (L:Nat) (w:World) (d:gO w c 0 i v1) (f:gO w c 2 j v2) (h:RX w b q L) (n:L<=4000000000000) :
  Calls Tryz.prog 118 #[.pointer (some ⟨c,0,none⟩),.pointer (some ⟨b,0,none⟩)] w fun e w'=>e=.returned (.pointer (some ⟨c,0,none⟩))/\bE w w' c/\bK w' c q.num q.den (L+2):=by
 have H:=ab h;have r:=ab h.denAt;have s:=ab d;have t:=ab f;have a:=ab (vJ (show Nat.gcd q.num.natAbs q.den=1 from q.reduced));clear h d f;go_enter Tryz.func118,Tryz.ntmps118
 go_wp2;go_region_with (first | (go_at_call 80;refine (r _ (az _)).mono ?_;rintro e w1 ⟨p,o,rfl,g,u⟩) | (go_at_call 72;refine (da c b 0 p o i j v1 v2 q.num q.den L _ (s.keep0 (aa (az _) g)) (t.keep0 (aa (az _) g)) (H.1.keep0 (aa (az _) g)) u q.den_pos n).mono ?_;rintro e x ⟨rfl,v,m⟩))
 all_goals go_wp2
 all_goals go_ret
 all_goals rw [a.1,a.2] at m
 all_goals exact ⟨rfl,(bE.of_gr (aa (az _) g)).trans v,m⟩
def ratNegX (a b:Nat) (m g:Bool) (v1 v2:Value) (q:Rat) (L:Nat) (w:World) (c:gO w a 0 m v1) (d:gO w a 2 g v2) (h:RX w b q L) (t:L<=4000000000000) :
  Calls Tryz.prog 73 #[.pointer (some ⟨a,0,none⟩),.pointer (some ⟨b,0,none⟩)] w fun e w'=>e=.returned (.pointer (some ⟨a,0,none⟩))/\bE w w' a/\bK w' a (-q.num) q.den (L+2):=by
 have H:=ab h;have u:=ab c;have x:=ab d;clear h c d;go_enter Tryz.func73,Tryz.ntmps73
 go_wp2_with fail;refine (ratSetX a b m g v1 v2 q L w u x H t).mono ?_;rintro e w1 ⟨rfl,r,j⟩;obtain ⟨n3,v3,s,_⟩:=j.1;have C:=ab r;have f:=ab j;have D:=ab s;clear r j s;go_wp2;go_region_with (go_at_call 119;refine (nE a 0 a 0 n3 v3 q.num (L+2) _ (D.keep0 (az _)) (f.1.keep0 (az _)) O).mono ?_;rintro e I ⟨rfl,c1,c2,c3⟩)
 all_goals go_wp2
 all_goals go_ret
 all_goals refine ⟨rfl,C.trans ((bE.of_gr (az _)).trans (bE.of_put c1)),c2,?_,f.2.2.1,by rw [Int.natAbs_neg];exact f.2.2.2⟩
 all_goals refine (f.2.1.keep0 (az _)).keep c1 (.inr (.inr O)) ?_
 all_goals (intro v i e;obtain ⟨g,v2,E,J,K,G⟩:=f.out.2.1;have n:=E.c1;simp at n i;rw [n] at i;exact G (by rw [zJ i];exact e))
def mP (b:Nat) (q:Rat) (L:Nat) (w:World) (h:RX w b q L) (f:L<=4000000000000) :
  Calls Tryz.prog 47 #[.pointer (some ⟨b,0,none⟩)] w fun e w'=>CM w (-q) (L+2) e w':=by
 have H:=ab h;clear h;go_enter Tryz.func47,Tryz.ntmps47
 go_wp2_with fail;have a:=ag (ae w none) (.cells #[.bool false,.slice none 0 0,.bool false,.slice none 0 0] 98);refine (ratNegX w.heap.size b false false (.slice none 0 0) (.slice none 0 0) _ L _ (eM w).1 (eM w).2 (H.keep0 a) f).mono ?_;rintro e w1 ⟨rfl,c,d⟩;have g:=ab c;have i:=ab d;clear c d a;go_wp2;go_ret;exact ⟨_,rfl,i,lu (ag (ae _ _) _) g zL,zL⟩
def Eo (b:Nat) (x0 x:Int) (hl:-x0=x) (y L M G:Nat) (hG:G=Nat.gcd x.natAbs y) (w:World) (hm:ay w b 0 x0 L) (ho:ay w b 2 (-(y:Int)) M) (hx:x≠0) (hy:0<y) (hL:L<=4000000000000) (hM:M<=4000000000000) :
  Calls Tryz.prog 117 #[.pointer (some ⟨b,0,none⟩)] w fun e w'=>e=.returned (.pointer (some ⟨b,0,none⟩))/\bE w w' b/\ay w' b 0 (x / (G:Nat)) (L+2)/\ay w' b 2 (y / G:Nat) (M+2):=by
 have hp:=ab hl;have T:=ab hG;clear hl hG;have hq:=ab hm;have hr:=ab ho;obtain ⟨hS,hT,hD,_⟩:=hm;obtain ⟨hW,ko,P,he,hE,hF⟩:=ho;have hI:hW=true:=by rw [hE];exact decide_eq_true O
 subst hI;rw [Int.natAbs_neg,Int.natAbs_natCast] at he;obtain ⟨hX,hH,hY,rfl,ka,_,_,_,_,_⟩:=aF he;have kc:((hH:Int)==0)=false:=zB O;have hJ:=P.c0;have hK:=P.c1;have V:=ab P;have W:=ab hD;have hs:=ab hF;clear hD P he hE hF ka;go_enter Tryz.func117,Tryz.ntmps117
 go_wp2;go_region_with (go_at_call 119;refine (nE b 0 b 0 hS hT x0 L _ (W.keep0 (az _)) (hq.keep0 (az _)) O).mono ?_;rintro e w1 ⟨rfl,c1,c2,c3⟩)
 have C1:=ab ((gF.of_gr (az _) b 0 W.lt).trans c1);have C2:=ab c2;have hu:=ab (hr.keep C1 (.inr (.inr O)) (fun v hv e=>by
  rw [V.c1] at hv;rw [<- zJ hv] at e;exact hs e))
 have X:=ab (V.keep C1 (.inr (.inr O)));clear c1 c2 c3 hJ hK;go_wp2;go_region_with (go_at_call 119;refine (nE b 2 b 2 true (.slice hX hH hY) (-(y:Int)) M _ (X.keep0 (az _)) (hu.keep0 (az _)) O).mono ?_;rintro e w2 ⟨rfl,c1,c2,c3⟩)
 have C3:=ab ((gF.of_gr (az _) b 2 X.lt).trans c1);rw [Int.neg_neg] at c2;have hB:ay w2 b 2 (y:Int) M:=c2;have U:ay w2 b 0 (-x0) L:=C2.out.keep C3 (.inr (.inl O)) (fun v hv e=>by
  obtain ⟨_,v3,q1,_,_,q4⟩:=C2.out;rw [q1.c1] at hv;rw [<- zJ hv] at e;exact q4 e)
 have hA:ay w2 b 0 x L:=by rw [<- hp];exact U
 have R2:Hid (bE w w2 b):=(bE.of_put C1).trans (bE.of_put C3);clear c1 c2 c3 C1 C2 C3 hu X hq hr V W hs hp U;have HA:=ab hA;have HB:=ab hB;obtain ⟨na,va,a1,a2,a3,a4⟩:=hA;obtain ⟨nb,vb,b1,b2,b3,b4⟩:=hB;rw [Int.natAbs_natCast] at b2;have hN:nb=false:=by rw [b3];simp
 subst hN;have c0:=a1.c0;have c1:=a1.c1;have d0:=b1.c0;have d1:=b1.c1;obtain ⟨ao,la,ca,rfl,z1,z2,z3,z4,z5,z6⟩:=aF a2;obtain ⟨bo,lb,cb,rfl,y1,y2,y3,y4,y5,y6⟩:=aF b2;have kk:((la:Int)==0)=false:=zB O;have kl:((lb:Int)==0)=false:=zB O;have A1:=ab a1;have A2:=ab a2;have A3:=ab a3;have A4:=ab a4;have B1:=ab b1;have B2:=ab b2;have B4:=ab b4;clear a1 a2 a3 a4 b1 b2 b3 b4 z1 z5 z6 y1;by_cases hQ:y=1
 ·subst hQ;have hw:((lb:Int)==1)=true:=beq_iff_eq.2 (by have:=y6 rfl;omega);obtain ⟨i,c,rfl,kb⟩:=y5 (y6 rfl);have hz:=y6 rfl;clear y5 y6;skip;go_wp2;go_ret;refine ⟨rfl,R2.trans (bE.of_gr (ae _ _)),?_,?_⟩
  ·rw [show G=1 from T.out.trans (Nat.gcd_one_right _)];simpa using HA.out.mono O
  ·rw [show G=1 from T.out.trans (Nat.gcd_one_right _)];simpa using HB.out.mono O
 ·have hC:Hid (0<x.natAbs):=by show 0<x.natAbs;omega
  have hR:((lb:Int)==1)=false∨(((lb:Int)==1)=true/\∃ i c,bo=some ⟨i,c,none⟩/\w2.cell? ⟨i,c,none⟩=some (.int .u32 (y:Nat))/\(((y:Nat):Int)==1)=false/\1<=lb):=by
   by_cases h:lb=1
   ·obtain ⟨i,c,e1,e2⟩:=y5 h;exact .inr ⟨beq_iff_eq.2 O,i,c,e1,e2,zB O,O⟩
   ·exact .inl (zB O)
  clear y5 y6;rcases hR with hw | ⟨hw,i,c,rfl,kb,kf,hz⟩
  ·skip;skip;go_wp2;go_region_held3 (fun w'=>w'.cell? ⟨b,1,none⟩=some (.slice ao la ca)/\w'.cell? ⟨b,3,none⟩=some (.slice bo lb cb)) (go_keep)
    (first | (go_at_call 162;refine (jE _ _ _ _ L M _ (A2.keep0 (az _)) (B2.keep0 (az _)) hC O O).mono ?_;rintro e H ⟨g,rfl,Q,R⟩;have q1:=(A1.keep0 (aa (az _) R)).c1;have q3:=(B1.keep0 (aa (az _) R)).c1))
   have m:=aa (az _) R;rw [<- T] at Q;have s:0<G:=by rw [T];exact Nat.gcd_pos_of_pos_right _ hy
   obtain ⟨go,n,cg,rfl,m1,m2,m3,m4,S,m6⟩:=aF Q;have e1:=A1.out.keep0 m;have e2:=B1.out.keep0 m;have f1:=e1.f1;have f3:=e2.f1;have E1:=ab e1;have E2:=ab e2;have K1:=ab Q;have J:=ab m;have N1:=ab (A2.keep0 m);have N2:=ab (B2.keep0 m);clear Q R m e1 e2 c0 c1 d0 d1;by_cases f:G=1
   ·have t:=m6 f;have u:((n:Int)==1)=true:=beq_iff_eq.2 O;obtain ⟨r,a,rfl,hf⟩:=S t;have Y:(((G:Nat):Int)==1)=true:=beq_iff_eq.2 O;have C:=ab f;have D:1<=n:=O
    clear m1 S m6 t f;go_wp2;go_ret;refine ⟨rfl,R2.trans (bE.of_gr J),?_,?_⟩
    ·rw [C];simpa using (HA.keep0 J).mono O
    ·rw [C];simpa using (HB.keep0 J).mono O
   ·have E:((n:Int)==1)=false∨(((n:Int)==1)=true/\∃ r a,go=some ⟨r,a,none⟩/\H.cell? ⟨r,a,none⟩=some (.int .u32 (G:Nat))/\(((G:Nat):Int)==1)=false/\1<=n):=by
     by_cases h:n=1
     ·obtain ⟨r,a,e1,e2⟩:=S h;exact .inr ⟨beq_iff_eq.2 O,r,a,e1,e2,zB O,O⟩
     ·exact .inl (zB O)
    clear m1 S m6;rcases E with u | ⟨u,r,a,rfl,hf,Y,D⟩
    all_goals
     go_wp2_with fail;refine (fY _ _ _ _ L (max L M+2) _ N1 K1 s O O).mono ?_;rintro e hj ⟨p,r1,rfl,j,p2,d,I,p5⟩;obtain ⟨po,lp,cp,rfl,_,_,_,_,_,_⟩:=aF j;have u1:=E1.out.keep0 d;have u2:=E2.out.keep0 d;have s1:=u1.c1;have s2:=u2.c1;have s3:=u1.f1;have s4:=u2.f1;have P1:=ab j;have P3:=ab d;have P4:=ab I;clear j p2 d I p5 q1 q3 f1 f3;go_wp2_with fail;refine (fY _ _ _ _ M (max L M+2) _ (N2.keep0 P3) (K1.keep0 P3) s O O).mono ?_;rintro e hk ⟨q,r2,rfl,j,p2,d,I,p5⟩;obtain ⟨qo,lq,cq,rfl,_,_,_,_,_,_⟩:=aF j;have K:=u1.keep0 d;have N:=u2.keep0 d;have v1:=K.c1;have v2:=N.c1;have v3:=K.f1;have v4:=N.f1;have Q1:=ab j;have Q3:=ab d;have Q4:=ab I;have T1:=ab K;have T2:=ab N;clear j p2 d I p5 s1 s2 s3 s4 u1 u2 K N;go_wp2;go_ret;have NE:=mL b x y G L M w2 H hj hk na (.slice po lp cp) (.slice qo lq cq) T hx hy A3 J P3 Q3 T1 T2 P1 Q1 P4 Q4 (A1.lt);exact ⟨rfl,R2.trans NE.1,NE.2⟩
  ·skip;skip;go_wp2;go_region_held3 (fun w'=>w'.cell? ⟨b,1,none⟩=some (.slice ao la ca)/\w'.cell? ⟨b,3,none⟩=some (.slice (some ⟨i,c,none⟩) lb cb)) (go_keep)
    (first | (go_at_call 162;refine (jE _ _ _ _ L M _ (A2.keep0 (az _)) (B2.keep0 (az _)) hC O O).mono ?_;rintro e H ⟨g,rfl,Q,R⟩;have q1:=(A1.keep0 (aa (az _) R)).c1;have q3:=(B1.keep0 (aa (az _) R)).c1))
   have m:=aa (az _) R;rw [<- T] at Q;have s:0<G:=by rw [T];exact Nat.gcd_pos_of_pos_right _ hy
   obtain ⟨go,n,cg,rfl,m1,m2,m3,m4,S,m6⟩:=aF Q;have e1:=A1.out.keep0 m;have e2:=B1.out.keep0 m;have f1:=e1.f1;have f3:=e2.f1;have E1:=ab e1;have E2:=ab e2;have K1:=ab Q;have J:=ab m;have N1:=ab (A2.keep0 m);have N2:=ab (B2.keep0 m);clear Q R m e1 e2 c0 c1 d0 d1;by_cases f:G=1
   ·have t:=m6 f;have u:((n:Int)==1)=true:=beq_iff_eq.2 O;obtain ⟨r,a,rfl,hf⟩:=S t;have Y:(((G:Nat):Int)==1)=true:=beq_iff_eq.2 O;have C:=ab f;have D:1<=n:=O
    clear m1 S m6 t f;go_wp2;go_ret;refine ⟨rfl,R2.trans (bE.of_gr J),?_,?_⟩
    ·rw [C];simpa using (HA.keep0 J).mono O
    ·rw [C];simpa using (HB.keep0 J).mono O
   ·have E:((n:Int)==1)=false∨(((n:Int)==1)=true/\∃ r a,go=some ⟨r,a,none⟩/\H.cell? ⟨r,a,none⟩=some (.int .u32 (G:Nat))/\(((G:Nat):Int)==1)=false/\1<=n):=by
     by_cases h:n=1
     ·obtain ⟨r,a,e1,e2⟩:=S h;exact .inr ⟨beq_iff_eq.2 O,r,a,e1,e2,zB O,O⟩
     ·exact .inl (zB O)
    clear m1 S m6;rcases E with u | ⟨u,r,a,rfl,hf,Y,D⟩
    all_goals
     go_wp2_with fail;refine (fY _ _ _ _ L (max L M+2) _ N1 K1 s O O).mono ?_;rintro e hj ⟨p,r1,rfl,j,p2,d,I,p5⟩;obtain ⟨po,lp,cp,rfl,_,_,_,_,_,_⟩:=aF j;have u1:=E1.out.keep0 d;have u2:=E2.out.keep0 d;have s1:=u1.c1;have s2:=u2.c1;have s3:=u1.f1;have s4:=u2.f1;have P1:=ab j;have P3:=ab d;have P4:=ab I;clear j p2 d I p5 q1 q3 f1 f3;go_wp2_with fail;refine (fY _ _ _ _ M (max L M+2) _ (N2.keep0 P3) (K1.keep0 P3) s O O).mono ?_;rintro e hk ⟨q,r2,rfl,j,p2,d,I,p5⟩;obtain ⟨qo,lq,cq,rfl,_,_,_,_,_,_⟩:=aF j;have K:=u1.keep0 d;have N:=u2.keep0 d;have v1:=K.c1;have v2:=N.c1;have v3:=K.f1;have v4:=N.f1;have Q1:=ab j;have Q3:=ab d;have Q4:=ab I;have T1:=ab K;have T2:=ab N;clear j p2 d I p5 s1 s2 s3 s4 u1 u2 K N;go_wp2;go_ret;have NE:=mL b x y G L M w2 H hj hk na (.slice po lp cp) (.slice qo lq cq) T hx hy A3 J P3 Q3 T1 T2 P1 Q1 P4 Q4 (A1.lt);exact ⟨rfl,R2.trans NE.1,NE.2⟩
def yz (b:Nat) (y L M:Nat) (w:World) (j:ay w b 0 0 L) (m:ay w b 2 (-(y:Int)) M) (hy:0<y) (hL:L<=4000000000000) (hM:M<=4000000000000) :
  Calls Tryz.prog 117 #[.pointer (some ⟨b,0,none⟩)] w fun e w'=>e=.returned (.pointer (some ⟨b,0,none⟩))/\bE w w' b/\ay w' b 0 0 L/\ay w' b 2 1 2:=by
 have n:=ab j;have q:=ab m;obtain ⟨T,U,t,_⟩:=j;obtain ⟨V,hk,a,i,u,x⟩:=m;have J:V=true:=by rw [u];exact decide_eq_true O
 subst J;rw [Int.natAbs_neg,Int.natAbs_natCast] at i;obtain ⟨W,C,X,rfl,Y,_,_,_,_,_⟩:=aF i;have he:((C:Int)==0)=false:=zB O;have K:=a.c0;have N:=a.c1;have d:=ab a;have f:=ab t;have r:=ab x;clear t a i u x Y;go_enter Tryz.func117,Tryz.ntmps117
 go_wp2;go_region_with (go_at_call 119;refine (nE b 0 b 0 T U 0 L _ (f.keep0 (az _)) (n.keep0 (az _)) O).mono ?_;rintro e w1 ⟨rfl,c1,c2,c3⟩)
 have E:=ab ((gF.of_gr (az _) b 0 f.lt).trans c1);have P:=ab c2;have s:=ab (q.keep E (.inr (.inr O)) (fun v D e=>by
  rw [d.c1] at D;rw [<- zJ D] at e;exact r e))
 have g:=ab (d.keep E (.inr (.inr O)));clear c1 c2 c3 K N;go_wp2;go_region_with (go_at_call 119;refine (nE b 2 b 2 true (.slice W C X) (-(y:Int)) M _ (g.keep0 (az _)) (s.keep0 (az _)) O).mono ?_;rintro e G ⟨rfl,c1,c2,c3⟩)
 have Q:=ab ((gF.of_gr (az _) b 2 g.lt).trans c1);rw [Int.neg_neg] at c2;have hB:ay G b 2 (y:Int) M:=c2;have c:ay G b 0 (-0) L:=P.out.keep Q (.inr (.inl O)) (fun v D e=>by
  obtain ⟨_,v3,q1,_,_,q4⟩:=P.out;rw [q1.c1] at D;rw [<- zJ D] at e;exact q4 e)
 have hA:ay G b 0 0 L :=  c;have R2:Hid (bE w G b):=(bE.of_put E).trans (bE.of_put Q);clear c1 c2 c3 E P Q s g n q d f r c;have HA:=ab hA;obtain ⟨na,va,H,a2,a3,a4⟩:=hA;obtain ⟨nb,vb,I,b2,b3,b4⟩:=hB;rw [Int.natAbs_natCast] at b2;have R:nb=false:=by rw [b3];simp
 subst R;have c0:=H.c0;have c1:=H.c1;have d0:=I.c0;have d1:=I.c1;obtain ⟨ao,la,ca,rfl,z1,z2,z3,z4,z5,z6⟩:=aF a2;obtain ⟨bo,lb,cb,rfl,y1,y2,y3,y4,y5,y6⟩:=aF b2;have hf:((la:Int)==0)=true:=beq_iff_eq.2 (by have:=z1.2 rfl;omega);have hj:((lb:Int)==0)=false:=zB O;have A1:=ab H;have A2:=ab a2;have A4:=ab a4;have A3:=ab a3;have B1:=ab I;clear H a2 a3 a4 I b2 b3 b4 z1 z5 z6 y1 y5 y6;skip;go_wp2_with fail;refine (kK b 2 false (.slice bo lb cb) 1 _ B1 O O).mono ?_;rintro e hl ⟨rfl,k1,k2,_⟩;have S:=ab k1;have K2:=ab k2;clear k1 k2;go_wp2;go_ret;refine ⟨rfl,R2.trans (bE.of_put S),?_,K2⟩;exact ⟨na,.slice ao la ca,A1.keep S (.inr (.inl O)),A2.keep S.gr (fun k e h=>by cases e;exact A4 h),A3,A4⟩
def uw (x z:Int):Int:=if z<0 then -x else x
def En (b:Nat) (x z:Int) (L:Nat) (w:World) (c:ay w b 0 x L) (d:ay w b 2 z L) (r:z≠0) (a:L<=4000000000000) :
  Calls Tryz.prog 117 #[.pointer (some ⟨b,0,none⟩)] w fun e w'=>e=.returned (.pointer (some ⟨b,0,none⟩))/\bE w w' b/\bK w' b (fF (uw x z) z.natAbs) (fw (uw x z) z.natAbs) (L+2):=by
 by_cases hn:z<0
 ·obtain ⟨y,rfl⟩:∃ y:Nat,z = -(y:Int):=⟨z.natAbs,O⟩;have m:(-(y:Int)).natAbs=y:=O
  have f:uw x (-(y:Int)) = -x:=if_pos hn;rw [m,f];have hy:0<y:=O
  have j:=Ac (-x) y hy;by_cases n:x=0
  ·subst n;refine (yz b y L L w c d hy a a).mono ?_;rintro e w' ⟨rfl,g,h,i⟩;have f1:fF (-0) y=0:=by simp [fF]
   have q:fw (-0) y=1:=by simp [fw];exact Nat.div_self hy
   rw [f1,q];exact ⟨rfl,g,h.mono O,i.mono O,zD,rfl⟩
  ·refine (Eo b x (-x) rfl y L L _ rfl w c d O hy a a).mono ?_;rintro e w' ⟨rfl,g,h,i⟩;exact ⟨rfl,g,h,i,j.2,j.1⟩
 ·obtain ⟨y,rfl⟩:∃ y:Nat,z=(y:Int):=⟨z.natAbs,O⟩;have f:uw x (y:Int)=x:=if_neg hn;rw [Int.natAbs_natCast,f];exact vQ b x y L w c d O a
def Bl (b:Nat) (x y:Int) (L:Nat) (w:World) (a c:Bool) (p q:Value) {r n:Bool} {v1 v2:Value} (g:gO w b 0 r v1) (s:gO w b 2 n v2) (t:aT w p x.natAbs L) (u:aT w q y.natAbs L) (i:a=decide (x<0)) (j:c=decide (y<0)) (f1:ar p≠some b) (m:ar q≠some b) :
  bE w ((((w.setCell ⟨b,0,none⟩ (.bool a)).setCell ⟨b,1,none⟩ p).setCell ⟨b,2,none⟩ (.bool c)).setCell ⟨b,3,none⟩ q) b /\
  ay ((((w.setCell ⟨b,0,none⟩ (.bool a)).setCell ⟨b,1,none⟩ p).setCell ⟨b,2,none⟩ (.bool c)).setCell ⟨b,3,none⟩ q) b 0 x L /\
  ay ((((w.setCell ⟨b,0,none⟩ (.bool a)).setCell ⟨b,1,none⟩ p).setCell ⟨b,2,none⟩ (.bool c)).setCell ⟨b,3,none⟩ q) b 2 y L:=by
 have d:gF w ((w.setCell ⟨b,0,none⟩ (.bool a)).setCell ⟨b,1,none⟩ p) b 0:=(gF.set _ (.inl rfl)).trans (gF.set _ (.inr rfl));have f:gF ((w.setCell ⟨b,0,none⟩ (.bool a)).setCell ⟨b,1,none⟩ p) ((((w.setCell ⟨b,0,none⟩ (.bool a)).setCell ⟨b,1,none⟩ p).setCell ⟨b,2,none⟩ (.bool c)).setCell ⟨b,3,none⟩ q) b 2:=(gF.set _ (.inl rfl)).trans (gF.set _ (.inr rfl));have v:gO ((w.setCell ⟨b,0,none⟩ (.bool a)).setCell ⟨b,1,none⟩ p) b 0 a p:=by
  refine ⟨?_,?_,(d.fr 0).trans g.f0,(d.fr 1).trans g.f1⟩
  ·rw [World.cell?_setCell_other _ _ _ _ Z];exact World.cell?_setCell_same _ _ _ g.c0
  ·exact World.cell?_setCell_same _ _ _ (by rw [World.cell?_setCell_other _ _ _ _ Z];exact g.c1)
 have c2:gO ((w.setCell ⟨b,0,none⟩ (.bool a)).setCell ⟨b,1,none⟩ p) b 2 n v2:=s.keep d (.inr (.inr O));refine ⟨(bE.of_put d).trans (bE.of_put f),?_,?_⟩
 ·exact ⟨a,p,v.keep f (.inr (.inl O)),(t.keep d.gr (fun k e h=>by cases e;exact f1 h)).keep f.gr (fun k e h=>by cases e;exact f1 h),i,f1⟩
 ·refine ⟨c,q,⟨?_,?_,(f.fr 2).trans c2.f0,(f.fr 3).trans c2.f1⟩,?_,j,m⟩
  ·rw [World.cell?_setCell_other _ _ _ _ Z];exact World.cell?_setCell_same _ _ _ c2.c0
  ·exact World.cell?_setCell_same _ _ _ (by rw [World.cell?_setCell_other _ _ _ _ Z];exact c2.c1)
  ·exact (u.keep d.gr (fun k e h=>by cases e;exact m h)).keep f.gr (fun k e h=>by cases e;exact m h)
def oz (c v C D ob:Nat) (n1 n2:Bool) (v1 v2:Value) (x y:Int) (L:Nat) (w:World) (f:gO w c 0 n1 v1) (m:gO w c 2 n2 v2) (P:ay w v C x L) (Q:ay w D ob y L) (hy:y≠0) (hL:L<=4000000000000) :
  Calls Tryz.prog 72 #[.pointer (some ⟨c,0,none⟩),.pointer (some ⟨v,C,none⟩),.pointer (some ⟨D,ob,none⟩)] w fun e w'=>e=.returned (.pointer (some ⟨c,0,none⟩))/\bE w w' c/\bK w' c (fF (uw x y) y.natAbs) (fw (uw x y) y.natAbs) (L+2):=by
 have HA:=ab P;have HB:=ab Q;have Z1:=ab f;have Z2:=ab m;have he:=f.lt;obtain ⟨nb,vb,g,j,s,t⟩:=Q;obtain ⟨bo,lb,cb,rfl,y1,y2,y3,y4,y5,y6⟩:=aF j;have d1:=g.c1;have hf:((lb:Int)==0)=false:=zB O;clear g j s t y1 y5 y6 f m P;go_enter Tryz.func72,Tryz.ntmps72
 go_wp2_with fail;have E:=ag (ae w none) (.cells #[.bool false,.slice none 0 0] 96);refine (qF w.heap.size 0 v C false (.slice none 0 0) x L _ (fR w) (HA.keep0 E) O).mono ?_;rintro e w1 ⟨rfl,d,r,S⟩;have K4:=ab S;clear S;have n:=ab (cw E d zL);have R:=ab r;clear d r E d1;go_wp2_with fail;have G:=ag (ae w1 none) (.cells #[.bool false,.slice none 0 0] 96);refine (qF w1.heap.size 0 D ob false (.slice none 0 0) y L _ (fR w1) ((HB.keep0 n).keep0 G) O).mono ?_;rintro e w2 ⟨rfl,d,T,U⟩;have K5:=ab U;clear U;have q:=ab (cw G d zL);have K3:=ab T;clear d T G;have H:w.heap.size<w1.heap.size:=R.out.lt;obtain ⟨na,va,u,K,V,W⟩:=R.out.keep0 q;obtain ⟨N,hj,g,j,s,t⟩:=K3.out;have h:=(Z1.keep0 n).keep0 q;have i:=(Z2.keep0 n).keep0 q;obtain ⟨X,Y,cp,rfl,_,_,_,_,_,_⟩:=aF K;obtain ⟨qo,lq,cq,rfl,_,_,_,_,_,_⟩:=aF j;have m0:=u.c0;have m1:=u.c1;have m2:=g.c0;have m3:=g.c1;have x0:=h.c0;have x1:=h.c1;have x2:=i.c0;have x3:=i.c1;have f0:=h.f0;have f1:=h.f1;have f2:=i.f0;have f3:=i.f1;have A1:=ab u;have A2:=ab K;have A3:=ab V;have A4:=ab W;have B1:=ab g;have B2:=ab j;have B3:=ab s;have B4:=ab t;have I:=ab h;have J:=ab i;clear u K V W g j s t h i;simp only [Nat.zero_add] at m0 m1 m2 m3 x0 x1 x2 x3 f0 f1 f2 f3;have F1:Hid (ar (.slice X Y cp)≠some c):=by
  intro e;have:=K4.out _ (by rw [<- A1.c1];exact (World.cell?_of_block (w:=w1) (a:=⟨w.heap.size,0+1,none⟩) (q.block _ H Z)).symm) c e;simp at this;omega
 have F2:Hid (ar (.slice qo lq cq)≠some c):=by
  intro e;have:=K5.out _ B1.c1 c e;have h2:=n.out.size;simp at this;omega
 go_wp2_with fail;obtain ⟨r1,r2,r3⟩:=Bl c x y L w2 na N (.slice X Y cp) (.slice qo lq cq) I J A2 B2 A3 B3 F1 F2;refine (En c x y L _ r2 r3 hy hL).mono ?_;rintro e w3 ⟨rfl,d,r⟩;have RR:=ab ((bE.of_gr (aa n q)).trans (r1.trans d));have KK:=ab r;clear r1 r2 r3 d r;go_wp2;go_ret;exact ⟨rfl,RR,KK⟩
def nG:Sg->Bool | (k,x,y,z)=>x && decide (k<=6) && (decide (k<2) || y) && (decide (k<4) || z)
def lQU:Sg->Array Bool | (k,_,y,z)=>#[true,y,true,true,true,true,decide (1<=k),decide (2<=k),z,true,decide (3<=k),true,true,true,decide (4<=k),decide (5<=k),decide (6<=k)]
def Fm:Sg->List Nat | (k,_,y,z)=>(if y then [] else [1])++(if k=0 then [6] else [])++(if k=1/\y then [7] else [])++(if z then [] else [8])++(if k=2 then [10] else [])++(if k=3/\z then [14] else [])++(if k=4 then [15] else [])++(if k=5 then [16] else [])
def kj:Sg->Nat->Sg | (k,x,y,z),i=>if i=1 then (k,x,true,z) else if i=8 then (k,x,y,true) else (k+1,x,y,z)
def Fo {x z:Bool} (c:Fm (k,x,y,z)=[]) (a:nG (k,x,y,z)=true):k=6/\y=true/\z=true:=by
 rcases k with _ | _ | _ | _ | _ | _ | _ | k<;>cases x<;>cases y<;>cases z<;>first | (simp [nG] at a;done) | (simp [Fm] at c;done) | simp
def Fn {i:Nat} {x z:Bool} (h:i∈Fm (k,x,y,z)):(i=1/\y=false)∨(i=8/\z=false)∨(i=6/\k=0)∨(i=7/\k=1/\y=true)∨(i=10/\k=2)∨(i=14/\k=3/\z=true)∨(i=15/\k=4)∨(i=16/\k=5):=by
 unfold Fm at h;simp only [List.mem_append] at h;rcases h with ((((((h | h) | h) | h) | h) | h) | h) | h<;>split at h<;>simp_all
def yJ (d j m:Nat) (H I:Bool) (v1 v2:Value) (t f:Int) (g u L M:Nat) (w:World) (C:gO w d 0 H v1) (D:gO w d 2 I v2) (J:ay w j 0 t L) (N:ay w m 0 f M) (P:lT w j g L) (Q:lT w m u M) (G:(g:Int)*f≠0) (hL:L+M<=3900000000000) :
  Calls Tryz.prog 77 #[.pointer (some ⟨d,0,none⟩),.pointer (some ⟨j,0,none⟩),.pointer (some ⟨m,0,none⟩)] w fun e w'=>e=.returned (.pointer (some ⟨d,0,none⟩))/\bE w w' d/\bK w' d (fF (uw (t*(u:Int)) ((g:Int)*f)) ((g:Int)*f).natAbs) (fw (uw (t*(u:Int)) ((g:Int)*f)) ((g:Int)*f).natAbs) (L+M+2):=by
 have V:=ab J;have W:=ab N;have X:=ab P;have Y:=ab Q;have Z1:=ab C;have Z2:=ab D;clear J N P Q C D;go_enter Tryz.func77,Tryz.ntmps77
 go_upto_region 1 with fail;refine hd (fun _=>True) (fun _=>?_) (hS:=trivial);refine tk 8 [(0,7,pp d 0),(2,9,pp j 0),(3,10,pp j 0),(4,11,pp j 0),(5,12,pp m 0),(9,16,pp j 0),(11,18,pp m 0),(12,19,pp m 0),(13,20,pp m 0)] ?_;refine wk (st3 nG) lQU m3 Fm kj (fun (k,x,y,z) a wx=>∃ q r d1 o1 d2 o2:Nat,nG (k,x,y,z)=true/\a=⟨#[pp d 0,pp j 0,pp m 0,undef,undef,undef,(if 6<=k then pp d 0 else .pointer none),pp d 0,ow y q 0,pp j 0,pp j 0,pp j 0,pp m 0,ow (decide (1<=k)) d1 o1,ow (decide (2<=k)) q 0,ow z r 0,pp j 0,ow (decide (3<=k)) d2 o2,pp m 0,pp m 0,pp m 0,ow (decide (4<=k)) r 0,ow (decide (5<=k)) d 0],[]⟩
   /\ (k<5->dC w wx (fl (decide (k<2) && y) q++fl (decide (k<4) && z) r) ([⟨r,0,(g:Int)*f,L+M⟩,⟨d2,o2,(g:Int),L⟩,⟨q,0,t*(u:Int),L+M⟩,⟨d1,o1,(u:Int),M⟩,⟨j,0,t,L⟩,⟨m,0,f,M⟩].drop (4-k)))
   /\ (5<=k->bE w wx d/\bK wx d (fF (uw (t*(u:Int)) ((g:Int)*f)) ((g:Int)*f).natAbs) (fw (uw (t*(u:Int)) ((g:Int)*f)) ((g:Int)*f).natAbs) (L+M+2))) (0,true,false,false) ⟨0,0,0,0,0,0,rfl,rfl,fun _=>((dC.start (ln (ae w none))).old W).old V,fun h=>absurd h (by simp [kj])⟩ ?_
 rintro ⟨k,x,y,z⟩ a wx ⟨q,r,d1,o1,d2,o2,c,rfl,n⟩;refine ⟨fun U=>?_,fun i hi K v=>?_⟩
 ·obtain ⟨rfl,rfl,rfl⟩:=Fo U c;obtain ⟨s,R⟩:=n.2 O;have M1:=ab s;have M2:=ab R;clear s R n U c;simp only [ow];go_wp2;go_ret;exact ⟨rfl,M1,M2⟩
 ·have hm:=Fn hi;have hh:x=true/\k<=6/\(k<2∨y=true)/\(k<4∨z=true):=by simp only [nG,Bool.and_eq_true,Bool.or_eq_true,decide_eq_true_eq] at c;exact ⟨c.1.1.1,c.1.1.2,c.1.2,c.2⟩
  clear c hi;rcases hm with ⟨rfl,rfl⟩ | ⟨rfl,rfl⟩ | ⟨rfl,rfl⟩ | ⟨rfl,rfl,rfl⟩ | ⟨rfl,rfl⟩ | ⟨rfl,rfl,rfl⟩ | ⟨rfl,rfl⟩ | ⟨rfl,rfl⟩<;>simp only [ax,q4,q5,q6,q7]
  ·go_simp
   rcases k with _ | _ | _ | _ | _ | k<;>first
    | exact v _ _ ⟨wx.heap.size,r,d1,o1,d2,o2,by simpa [nG,kj,and_assoc] using hh,rfl,fun h=>dC.alloc (A:=[]) (n.1 h),fun h=>absurd h (by simp [kj])⟩
    | (exfalso;obtain ⟨h,h0,S,T⟩:=hh;rcases S with h | h<;>first | omega | cases h)
  ·go_simp
   rcases k with _ | _ | _ | _ | _ | k<;>first
    | exact v _ _ ⟨q,wx.heap.size,d1,o1,d2,o2,by simpa [nG,kj,and_assoc] using hh,rfl,fun h=>dC.alloc (A:=fl (decide (_<2) && y) q) (n.1 h),fun h=>absurd h (by simp [kj])⟩
    | (exfalso;obtain ⟨h,h0,S,T⟩:=hh;rcases T with h | h<;>first | omega | cases h)
  ·go_simp
   go_at_call 80
   refine (Y _ _ _ (n.1 O)).mono ?_;rintro e w1 ⟨d1,o1,rfl,_,s⟩;go_wp2_with fail;exact v _ _ ⟨q,r,d1,o1,d2,o2,by simpa [nG,kj,and_assoc] using hh,rfl,fun _=>s,fun h=>absurd h (by simp [kj])⟩
  ·go_simp
   go_at_call 126
   refine (dC.mul (A:=[]) (n.1 O) (x:=t) (y:=(u:Int)) (L:=L) (M:=M) Z Z O).mono ?_;rintro e w1 ⟨rfl,s⟩;go_wp2_with fail;exact v _ _ ⟨q,r,d1,o1,d2,o2,by simpa [nG,kj,and_assoc] using hh,rfl,fun _=>s,fun h=>absurd h (by simp [kj])⟩
  ·go_simp
   go_at_call 80
   refine (X _ _ _ (n.1 O)).mono ?_;rintro e w1 ⟨d2,o2,rfl,_,s⟩;go_wp2_with fail;exact v _ _ ⟨q,r,d1,o1,d2,o2,by simpa [nG,kj,and_assoc] using hh,rfl,fun _=>s,fun h=>absurd h (by simp [kj])⟩
  ·go_simp
   go_at_call 126
   refine (dC.mul (A:=[]) (B:=[]) (n.1 O) (x:=(g:Int)) (y:=f) (L:=L) (M:=M) Z Z O).mono ?_;rintro e w1 ⟨rfl,s⟩;go_wp2_with fail;exact v _ _ ⟨q,r,d1,o1,d2,o2,by simpa [nG,kj,and_assoc] using hh,rfl,fun _=>s,fun h=>absurd h (by simp [kj])⟩
  ·go_simp
   go_at_call 72
   have E:=n.1 O;refine (oz d q 0 r 0 H I v1 v2 (t*(u:Int)) ((g:Int)*f) (L+M) _ (Z1.keep0 E.gr) (Z2.keep0 E.gr) (E.away (L:=L+M) Z) (E.away (L:=L+M) Z) G O).mono ?_;rintro e w1 ⟨rfl,r1,r2⟩;go_wp2_with fail;exact v _ _ ⟨q,r,d1,o1,d2,o2,by simpa [nG,kj,and_assoc] using hh,rfl,fun h=>absurd h (by simp [kj]),fun _=>⟨(bE.of_gr E.gr).trans r1,r2⟩⟩
  ·go_simp
   exact v _ _ ⟨q,r,d1,o1,d2,o2,by simpa [nG,kj,and_assoc] using hh,rfl,fun h=>absurd h (by simp [kj]),fun _=>n.2 O⟩
def Fa (p:Rat) {q:Rat} (h:q≠0):(p.den:Int)*q.num≠0:=by
 have c:=p.den_pos;have a:q.num≠0:=fun e=>h (Rat.num_eq_zero.1 e)
 exact Int.mul_ne_zero O a
def quo_up (p:Rat) {q:Rat} (h:q≠0):mkRat (uw (p.num*(q.den:Int)) ((p.den:Int)*q.num)) ((p.den:Int)*q.num).natAbs=p / q:=by
 have d:=p.den_pos;have f:q.num≠0:=fun e=>h (Rat.num_eq_zero.1 e)
 have hd:=E6 p q;rw [<- hd];have c:((p.den:Int)*q.num).natAbs=rN q*p.den:=by
  rw [Int.natAbs_mul,Int.natAbs_natCast,Nat.mul_comm];rfl
 rw [c];congr 1
 unfold uw;by_cases hn:q.num<0
 ·have:(p.den:Int)*q.num<0:=Int.mul_neg_of_pos_of_neg O hn;rw [if_pos this];have hb:rB q=true:=by unfold rB;exact decide_eq_true hn
  rw [hb];have:=fC p;rw [ff];rw [<- Int.neg_mul];congr 1
  rw [<- this];unfold gD;cases rB p<;>simp
 ·have:¬ (p.den:Int)*q.num<0:=by
   have:=Int.mul_nonneg (a:=(p.den:Int)) (b:=q.num) O O;omega
  rw [if_neg this];have hb:rB q=false:=by unfold rB;exact decide_eq_false hn
  rw [hb,ff];congr 1
  rw [Bool.bne_false];exact (fC p).symm
def wD (c d:Nat) (p q:Rat) (L M:Nat) (w:World) (g:RX w c p L) (h:RX w d q M) (f:q≠0) (r:L+M<=3900000000000) :
  Calls Tryz.prog 48 #[.pointer (some ⟨c,0,none⟩),.pointer (some ⟨d,0,none⟩)] w fun e w'=>CM w (p / q) (L+M+2) e w':=by
 have i:=ab g;have j:=ab h;clear g h;go_enter Tryz.func48,Tryz.ntmps48
 go_wp2_with fail;have a:=ag (ae w none) (.cells #[.bool false,.slice none 0 0,.bool false,.slice none 0 0] 98);refine (yJ w.heap.size c d false false (.slice none 0 0) (.slice none 0 0) _ _ _ _ L M _ (eM w).1 (eM w).2 (i.1.keep0 a) (j.1.keep0 a) (i.2.keep0 a) (j.2.keep0 a) (Fa p f) r).mono ?_;rintro e w1 ⟨rfl,m,n⟩;have s:=ab m;have t:=ab n;clear m n a;go_wp2;go_ret;exact ⟨_,rfl,bK.q (by have:=Fa p f;omega) (quo_up p f) t,lu (ag (ae _ _) _) s zL,zL⟩
def nF:Sg->Bool | (k,x,y,z)=>x && decide (k<=6) && (decide (k<1) || y) && (decide (k<4) || z)
def lMU:Sg->Array Bool | (k,_,y,z)=>#[true,y,true,true,true,true,true,true,decide (1<=k),z,true,decide (2<=k),true,decide (3<=k),decide (4<=k),decide (5<=k),decide (6<=k)]
def Fj:Sg->List Nat | (k,_,y,z)=>(if y then [] else [1])++(if k=0/\y then [8] else [])++(if z then [] else [9])++(if k=1 then [11] else [])++(if k=2 then [13] else [])++(if k=3/\z then [14] else [])++(if k=4 then [15] else [])++(if k=5 then [16] else [])
def ki:Sg->Nat->Sg | (k,x,y,z),i=>if i=1 then (k,x,true,z) else if i=9 then (k,x,y,true) else (k+1,x,y,z)
def Fl {x z:Bool} (c:Fj (k,x,y,z)=[]) (a:nF (k,x,y,z)=true):k=6/\y=true/\z=true:=by
 rcases k with _ | _ | _ | _ | _ | _ | _ | k<;>cases x<;>cases y<;>cases z<;>first | (simp [nF] at a;done) | (simp [Fj] at c;done) | simp
def Fk {i:Nat} {x z:Bool} (h:i∈Fj (k,x,y,z)):(i=1/\y=false)∨(i=9/\z=false)∨(i=8/\k=0/\y=true)∨(i=11/\k=1)∨(i=13/\k=2)∨(i=14/\k=3/\z=true)∨(i=15/\k=4)∨(i=16/\k=5):=by
 unfold Fj at h;simp only [List.mem_append] at h;rcases h with ((((((h | h) | h) | h) | h) | h) | h) | h<;>split at h<;>simp_all
def yI (d j m:Nat) (H I:Bool) (v1 v2:Value) (t u:Int) (f g L M:Nat) (w:World) (C:gO w d 0 H v1) (D:gO w d 2 I v2) (J:ay w j 0 t L) (N:ay w m 0 u M) (P:lT w j f L) (Q:lT w m g M) (G:(f:Int)*(g:Int)≠0) (hL:L+M<=3900000000000) :
  Calls Tryz.prog 79 #[.pointer (some ⟨d,0,none⟩),.pointer (some ⟨j,0,none⟩),.pointer (some ⟨m,0,none⟩)] w fun e w'=>e=.returned (.pointer (some ⟨d,0,none⟩))/\bE w w' d/\bK w' d (fF (uw (t*u) ((f:Int)*(g:Int))) ((f:Int)*(g:Int)).natAbs) (fw (uw (t*u) ((f:Int)*(g:Int))) ((f:Int)*(g:Int)).natAbs) (L+M+2):=by
 have V:=ab J;have W:=ab N;have X:=ab P;have Y:=ab Q;have Z1:=ab C;have Z2:=ab D;clear J N P Q C D;go_enter Tryz.func79,Tryz.ntmps79
 go_upto_region 1 with fail;refine hd (fun _=>True) (fun _=>?_) (hS:=trivial);refine tk 8 [(0,7,pp d 0),(2,9,pp j 0),(3,10,pp j 0),(4,11,pp j 0),(5,12,pp m 0),(6,13,pp m 0),(7,14,pp m 0),(10,17,pp j 0),(12,19,pp m 0)] ?_;refine wk (st3 nF) lMU m3 Fj ki (fun (k,x,y,z) a wx=>∃ q r d1 o1 d2 o2:Nat,nF (k,x,y,z)=true/\a=⟨#[pp d 0,pp j 0,pp m 0,undef,undef,undef,(if 6<=k then pp d 0 else .pointer none),pp d 0,ow y q 0,pp j 0,pp j 0,pp j 0,pp m 0,pp m 0,pp m 0,ow (decide (1<=k)) q 0,ow z r 0,pp j 0,ow (decide (2<=k)) d1 o1,pp m 0,ow (decide (3<=k)) d2 o2,ow (decide (4<=k)) r 0,ow (decide (5<=k)) d 0],[]⟩
   /\ (k<5->dC w wx (fl (decide (k<1) && y) q++fl (decide (k<4) && z) r) ([⟨r,0,(f:Int)*(g:Int),L+M⟩,⟨d2,o2,(g:Int),M⟩,⟨d1,o1,(f:Int),L⟩,⟨q,0,t*u,L+M⟩,⟨j,0,t,L⟩,⟨m,0,u,M⟩].drop (4-k)))
   /\ (5<=k->bE w wx d/\bK wx d (fF (uw (t*u) ((f:Int)*(g:Int))) ((f:Int)*(g:Int)).natAbs) (fw (uw (t*u) ((f:Int)*(g:Int))) ((f:Int)*(g:Int)).natAbs) (L+M+2))) (0,true,false,false) ⟨0,0,0,0,0,0,rfl,rfl,fun _=>((dC.start (ln (ae w none))).old W).old V,fun h=>absurd h (by simp [ki])⟩ ?_
 rintro ⟨k,x,y,z⟩ a wx ⟨q,r,d1,o1,d2,o2,c,rfl,n⟩;refine ⟨fun U=>?_,fun i hi K v=>?_⟩
 ·obtain ⟨rfl,rfl,rfl⟩:=Fl U c;obtain ⟨s,R⟩:=n.2 O;have M1:=ab s;have M2:=ab R;clear s R n U c;simp only [ow];go_wp2;go_ret;exact ⟨rfl,M1,M2⟩
 ·have hm:=Fk hi;have hh:x=true/\k<=6/\(k<1∨y=true)/\(k<4∨z=true):=by simp only [nF,Bool.and_eq_true,Bool.or_eq_true,decide_eq_true_eq] at c;exact ⟨c.1.1.1,c.1.1.2,c.1.2,c.2⟩
  clear c hi;rcases hm with ⟨rfl,rfl⟩ | ⟨rfl,rfl⟩ | ⟨rfl,rfl,rfl⟩ | ⟨rfl,rfl⟩ | ⟨rfl,rfl⟩ | ⟨rfl,rfl,rfl⟩ | ⟨rfl,rfl⟩ | ⟨rfl,rfl⟩<;>simp only [ax,q4,q5,q6,q7]
  ·go_simp
   rcases k with _ | _ | _ | _ | _ | k<;>first
    | exact v _ _ ⟨wx.heap.size,r,d1,o1,d2,o2,by simpa [nF,ki,and_assoc] using hh,rfl,fun h=>dC.alloc (A:=[]) (n.1 h),fun h=>absurd h (by simp [ki])⟩
    | (exfalso;obtain ⟨h,h0,S,T⟩:=hh;rcases S with h | h<;>first | omega | cases h)
  ·go_simp
   rcases k with _ | _ | _ | _ | _ | k<;>first
    | exact v _ _ ⟨q,wx.heap.size,d1,o1,d2,o2,by simpa [nF,ki,and_assoc] using hh,rfl,fun h=>dC.alloc (A:=fl (decide (_<1) && y) q) (n.1 h),fun h=>absurd h (by simp [ki])⟩
    | (exfalso;obtain ⟨h,h0,S,T⟩:=hh;rcases T with h | h<;>first | omega | cases h)
  ·go_simp
   go_at_call 126
   refine (dC.mul (A:=[]) (n.1 O) (x:=t) (y:=u) (L:=L) (M:=M) Z Z O).mono ?_;rintro e w1 ⟨rfl,s⟩;go_wp2_with fail;exact v _ _ ⟨q,r,d1,o1,d2,o2,by simpa [nF,ki,and_assoc] using hh,rfl,fun _=>s,fun h=>absurd h (by simp [ki])⟩
  ·go_simp
   go_at_call 80
   refine (X _ _ _ (n.1 O)).mono ?_;rintro e w1 ⟨d1,o1,rfl,_,s⟩;go_wp2_with fail;exact v _ _ ⟨q,r,d1,o1,d2,o2,by simpa [nF,ki,and_assoc] using hh,rfl,fun _=>s,fun h=>absurd h (by simp [ki])⟩
  ·go_simp
   go_at_call 80
   refine (Y _ _ _ (n.1 O)).mono ?_;rintro e w1 ⟨d2,o2,rfl,_,s⟩;go_wp2_with fail;exact v _ _ ⟨q,r,d1,o1,d2,o2,by simpa [nF,ki,and_assoc] using hh,rfl,fun _=>s,fun h=>absurd h (by simp [ki])⟩
  ·go_simp
   go_at_call 126
   refine (dC.mul (A:=[]) (B:=[]) (n.1 O) (x:=(f:Int)) (y:=(g:Int)) (L:=L) (M:=M) Z Z O).mono ?_;rintro e w1 ⟨rfl,s⟩;go_wp2_with fail;exact v _ _ ⟨q,r,d1,o1,d2,o2,by simpa [nF,ki,and_assoc] using hh,rfl,fun _=>s,fun h=>absurd h (by simp [ki])⟩
  ·go_simp
   go_at_call 72
   have E:=n.1 O;refine (oz d q 0 r 0 H I v1 v2 (t*u) ((f:Int)*(g:Int)) (L+M) _ (Z1.keep0 E.gr) (Z2.keep0 E.gr) (E.away (L:=L+M) Z) (E.away (L:=L+M) Z) G O).mono ?_;rintro e w1 ⟨rfl,r1,r2⟩;go_wp2_with fail;exact v _ _ ⟨q,r,d1,o1,d2,o2,by simpa [nF,ki,and_assoc] using hh,rfl,fun h=>absurd h (by simp [ki]),fun _=>⟨(bE.of_gr E.gr).trans r1,r2⟩⟩
  ·go_simp
   exact v _ _ ⟨q,r,d1,o1,d2,o2,by simpa [nF,ki,and_assoc] using hh,rfl,fun h=>absurd h (by simp [ki]),fun _=>n.2 O⟩
def upS_pos (x:Int) (h:0<z):uw x z=x:=if_neg O
def iA (p q:Rat):(p.den:Int)*(q.den:Int)≠0:=by
 have a:=p.den_pos;have c:=q.den_pos;have:0<(p.den:Int)*(q.den:Int):=Int.mul_pos O O;omega
def mul_up (p q:Rat):mkRat (uw (p.num*q.num) ((p.den:Int)*(q.den:Int))) ((p.den:Int)*(q.den:Int)).natAbs=p*q:=by
 have a:=p.den_pos;have c:=q.den_pos;have:0<(p.den:Int)*(q.den:Int):=Int.mul_pos O O;rw [upS_pos _ this,<- Int.natCast_mul,Int.natAbs_natCast];exact (Rat.mul_def p q).symm▸(Rat.normalize_eq_mkRat _).symm
def Fc (c d:Nat) (p q:Rat) (L M:Nat) (w:World) (f:RX w c p L) (g:RX w d q M) (n:L+M<=3900000000000) :
  Calls Tryz.prog 50 #[.pointer (some ⟨c,0,none⟩),.pointer (some ⟨d,0,none⟩)] w fun e w'=>CM w (p*q) (L+M+2) e w':=by
 have h:=ab f;have i:=ab g;clear f g;go_enter Tryz.func50,Tryz.ntmps50
 go_wp2_with fail;have a:=ag (ae w none) (.cells #[.bool false,.slice none 0 0,.bool false,.slice none 0 0] 98);refine (yI w.heap.size c d false false (.slice none 0 0) (.slice none 0 0) _ _ _ _ L M _ (eM w).1 (eM w).2 (h.1.keep0 a) (i.1.keep0 a) (h.2.keep0 a) (i.2.keep0 a) (iA p q) n).mono ?_;rintro e w1 ⟨rfl,j,m⟩;have r:=ab j;have s:=ab m;clear j m a;go_wp2;go_ret;exact ⟨_,rfl,bK.q (by have:=iA p q;omega) (mul_up p q) s,lu (ag (ae _ _) _) r zL,zL⟩
end Go.Proofs.YtbomdfhdocaagaaGreatDoor
