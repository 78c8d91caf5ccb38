/- Contracts. -/
import Derived.Test.YtbfohfjobncehaaGreatDoorXPp
import Derived.Test.YtbfohfjobncehaaGreatDoorXHand
import Derived.Test.YtbfohfjobncehaaGreatDoorXPm
import Derived.Shelf.Strings.SlTrimAscii
namespace Go.Proofs.YtbfohfjobncehaaGreatDoor
open Go.RowKit
set_option linter.all false
set_option maxHeartbeats 8000000
set_option maxRecDepth 10000
variable {w w0 w' w1:World} {L b p o k M L':Nat} {z:Int} {F A B:List Nat} {l:List UInt8} {y:Bool}
def xz (w:World) (F:List Nat) (p o:Nat) (z:Int) (L:Nat):Prop:=ay w p o z L/\p∉F/\∀ v,w.cell? ⟨p,o+1,none⟩=some v->∀ k∈F,au v≠some k
abbrev pp (b o:Nat):Value:=.pointer (some ⟨b,o,none⟩)
structure nW where
 p:Nat
 o:Nat
 z:Int
 L:Nat
structure dK (w0 w:World) (F:List Nat) (I:List nW):Prop where
 gr:w0.grownBy w none
 nd:F.Nodup
 fr:∀ k∈F,w0.heap.size<=k/\gL w k 0 false (.slice none 0 0)
 it:∀ i∈I,xz w F i.p i.o i.z i.L
theorem ay.words (h:ay w p o z L) {v:Value} (a:w.cell? ⟨p,o+1,none⟩=some v) (c:au v=some k):k<w.heap.size:=by
 obtain ⟨neg,u,u1,u2,u3,u4⟩:=h;rw [u1.c1] at a;obtain rfl:=zJ a;obtain ⟨xs,d,e,f,g⟩:=u2;exact d.blk k c
theorem mb (h:ay w p o z L) (hg:w.grownBy w' none) (c:Nat):w'.cell? ⟨p,c,none⟩=w.cell? ⟨p,c,none⟩ :=
 World.cell?_of_block (w:=w) (a:=⟨p,c,none⟩) (hg.block p h.lt Z)
theorem xz.keep0 (h:xz w F p o z L) (hg:w.grownBy w' none):xz w' F p o z L :=
 ⟨h.1.keep0 hg,h.2.1,fun v a=>h.2.2 v (by rw [<- mb h.1 hg (o+1)];exact a)⟩
theorem dK.grow {I:List nW} (m:dK w0 w F I) (hg:w.grownBy w' none):dK w0 w' F I :=
 ⟨ab m.gr hg,m.nd,fun k a=>⟨(m.fr k a).1,(m.fr k a).2.keep0 hg⟩,fun i hi=>(m.it i hi).keep0 hg⟩
theorem dK.lt {I:List nW} (m:dK w0 w F I) (a:k∈F):k<w.heap.size:=(m.fr k a).2.lt
theorem dK.start (h:w0.grownBy w none):dK w0 w [] []:=⟨h,List.nodup_nil,(fun k a=>nomatch a),(fun i hi=>nomatch hi)⟩
theorem dK.alloc {I:List nW} (m:dK w0 w (A++B) I):dK w0 (w.alloc (.cells #[.bool false,.slice none 0 0] 101)) (A++w.heap.size :: B) I:=by
 have g:w.grownBy (w.alloc (.cells #[.bool false,.slice none 0 0] 101)) none:=ae (ag w none) _;have hn:w.heap.size∉A++B:=fun h=>Nat.lt_irrefl _ (m.lt h)
 have d:∀ k,k∈A++w.heap.size :: B->k=w.heap.size∨k∈A++B:=by
  intro k c;simp only [List.mem_append,List.mem_cons] at c ⊢;rcases c with h | h | h
  ·exact .inr (.inl h)
  ·exact .inl h
  ·exact .inr (.inr h)
 refine ⟨ab m.gr g,?_,?_,?_⟩
 ·have:=m.nd;simp only [List.nodup_append,List.nodup_cons,List.mem_append,List.mem_cons,not_or] at this hn ⊢;refine ⟨this.1,⟨hn.2,this.2.1⟩,?_⟩;intro a ha b hb;rcases hb with h | h
  ·rintro rfl;exact hn.1 (h▸ha)
  ·exact this.2.2 a ha b h
 ·intro k c;rcases d k c with rfl | h
  ·exact ⟨m.gr.size,fP w⟩
  ·exact ⟨(m.fr k h).1,(m.fr k h).2.keep0 g⟩
 ·intro i hi;have h:=m.it i hi;refine ⟨h.1.keep0 g,?_,?_⟩
  ·intro n;rcases d _ n with e | e
   ·have:=h.1.lt;omega
   ·exact h.2.1 e
  ·intro v f k c e;rw [mb h.1 g] at f;rcases d _ c with j | j
   ·have:=h.1.words f e;omega
   ·exact h.2.2 v f k j e
theorem dK.new {I:List nW} (m:dK w0 w F I) (hg:w.grownBy w' none) (h:ay w' p o z L) (g:w.heap.size<=p) (hn:eC w w' p o):dK w0 w' F (⟨p,o,z,L⟩ :: I):=by
 have a:=m.grow hg;refine ⟨a.gr,a.nd,a.fr,?_⟩;intro i hi;rcases List.mem_cons.1 hi with rfl | hi
 ·refine ⟨h,fun c=>?_,fun v d k f e=>?_⟩
  ·have:=m.lt c;simp only at this;omega
  ·have j:=m.lt f;have n:=hn v d k e;omega
 ·exact a.it i hi
theorem dK.old {I:List nW} (m:dK w0 w F I) (h:ay w0 p o z L):dK w0 w F (⟨p,o,z,L⟩ :: I):=by
 refine ⟨m.gr,m.nd,m.fr,?_⟩;intro i hi;rcases List.mem_cons.1 hi with rfl | hi
 ·refine ⟨h.keep0 m.gr,fun c=>?_,fun v a k d e=>?_⟩
  ·have:=(m.fr _ c).1;have:=h.lt;simp only at *;omega
  ·rw [mb h m.gr] at a;have f:=h.words a e;have g:=(m.fr k d).1;omega
 ·exact m.it i hi
theorem dK.put {I:List nW} (m:dK w0 w (A++b :: B) I) (n:gh w w' b 0) (h:ay w' b 0 z L) (hn:eC w w' b 0):dK w0 w' (A++B) (⟨b,0,z,L⟩ :: I):=by
 have hb:b∈A++b :: B:=Z
 have g:∀ k,k∈A++B->k∈A++b :: B/\k≠b:=by
  intro k d;have nd:=m.nd;simp only [List.nodup_append,List.nodup_cons,List.mem_append,List.mem_cons] at d nd ⊢;rcases d with h | h
  ·exact ⟨.inl h,nd.2.2 k h b (.inl rfl)⟩
  ·exact ⟨.inr (.inr h),fun e=>nd.2.1.1 (e▸h)⟩
 refine ⟨cD m.gr n (m.fr b hb).1,?_,?_,?_⟩
 ·have nd:=m.nd;simp only [List.nodup_append,List.nodup_cons,List.mem_cons] at nd ⊢;exact ⟨nd.1,nd.2.1.2,fun a ha c hc=>nd.2.2 a ha c (.inr hc)⟩
 ·intro k d;obtain ⟨h1,h2⟩:=g k d;exact ⟨(m.fr k h1).1,(m.fr k h1).2.keep n (.inl h2)⟩
 ·intro i hi;rcases List.mem_cons.1 hi with rfl | hi
  ·refine ⟨h,fun q=>(g _ q).2 rfl,fun v f k d e=>?_⟩;have h1:=m.lt (g k d).1;have h2:=hn v f k e;omega
  ·have a:=m.it i hi;have j:i.p≠b:=fun e=>a.2.1 (e▸hb)
   refine ⟨a.1.keep n (.inl j) (fun v f=>a.2.2 v f b hb),fun q=>a.2.1 (g _ q).1,fun v f k d=>?_⟩;have hc:w'.cell? ⟨i.p,i.o+1,none⟩=w.cell? ⟨i.p,i.o+1,none⟩:=World.cell?_of_block (w:=w) (a:=⟨i.p,i.o+1,none⟩) (n.gr.block i.p a.1.lt (by simpa using j));rw [hc] at f;exact a.2.2 v f k (g k d).1
theorem dK.drop {I I':List nW} (m:dK w0 w F I) (h:∀ i∈I',i∈I):dK w0 w F I':=⟨m.gr,m.nd,m.fr,fun i hi=>m.it i (h i hi)⟩
theorem dK.away {I:List nW} (m:dK w0 w F I) (hi:(⟨p,o,z,L⟩:nW)∈I):ay w p o z L:=(m.it _ hi).1
theorem dK.ne {I:List nW} (m:dK w0 w F I) (hi:(⟨p,o,z,L⟩:nW)∈I) (hb:b∈F):p≠b:=fun e=>(m.it _ hi).2.1 (e▸hb)
theorem dK.mul {I:List nW} (m:dK w0 w (A++b :: B) I) {q r:Nat} {x y:Int} (a:(⟨p,o,x,L⟩:nW)∈I) (hy:(⟨q,r,y,M⟩:nW)∈I) (c:L+M<=10000000000000) :
  Calls Tryz.prog 106 #[.pointer (some ⟨b,0,none⟩),.pointer (some ⟨p,o,none⟩),.pointer (some ⟨q,r,none⟩)] w fun e w'=>e=.returned (.pointer (some ⟨b,0,none⟩))/\dK w0 w' (A++B) (⟨b,0,x*y,L+M⟩ :: I):=by
 have hb:b∈A++b :: B:=Z
 refine (mul_at b 0 p o q r _ _ x y L M w (m.fr b hb).2 (m.away a) (m.away hy) c (m.ne a hb) (m.ne hy hb)).mono ?_;rintro e w' ⟨rfl,d,f,g⟩;exact ⟨rfl,m.put d f g⟩
theorem dK.sub {I:List nW} (m:dK w0 w (A++b :: B) I) {q r:Nat} {x y:Int} (a:(⟨p,o,x,L⟩:nW)∈I) (hy:(⟨q,r,y,M⟩:nW)∈I) (c:L<=9000000000000) (d:M<=9000000000000) :
  Calls Tryz.prog 105 #[.pointer (some ⟨b,0,none⟩),.pointer (some ⟨p,o,none⟩),.pointer (some ⟨q,r,none⟩)] w fun e w'=>e=.returned (.pointer (some ⟨b,0,none⟩))/\dK w0 w' (A++B) (⟨b,0,x-y,max L M+1⟩ :: I):=by
 have hb:b∈A++b :: B:=Z
 refine (Bm b 0 p o q r _ _ x y L M w (m.fr b hb).2 (m.away a) (m.away hy) c d (m.ne a hb) (m.ne hy hb)).mono ?_;rintro e w' ⟨rfl,f,g,h⟩;exact ⟨rfl,m.put f g h⟩
theorem dK.add {I:List nW} (m:dK w0 w (A++b :: B) I) {q r:Nat} {x y:Int} (a:(⟨p,o,x,L⟩:nW)∈I) (hy:(⟨q,r,y,M⟩:nW)∈I) (c:L<=9000000000000) (d:M<=9000000000000) :
  Calls Tryz.prog 147 #[.pointer (some ⟨b,0,none⟩),.pointer (some ⟨p,o,none⟩),.pointer (some ⟨q,r,none⟩)] w fun e w'=>e=.returned (.pointer (some ⟨b,0,none⟩))/\dK w0 w' (A++B) (⟨b,0,x+y,max L M+1⟩ :: I):=by
 have hb:b∈A++b :: B:=Z
 refine (Bl b 0 p o q r _ _ x y L M w (m.fr b hb).2 (m.away a) (m.away hy) c d (m.ne a hb) (m.ne hy hb)).mono ?_;rintro e w' ⟨rfl,f,g,h⟩;exact ⟨rfl,m.put f g h⟩
def l8 (w0:World) (b d M:Nat):Prop:=∀ w F I,dK w0 w F I->Calls Tryz.prog 75 #[.pointer (some ⟨b,0,none⟩)] w fun e w'=>∃ p o,e=.returned (.pointer (some ⟨p,o,none⟩))/\w.grownBy w' none/\dK w0 w' F (⟨p,o,(d:Int),M⟩ :: I)
theorem bK.denC {x:Int} {y:Nat} (h:bK w b x y L):l8 w b y L:=by
 intro w1 F I m;refine (tj b x y L w1 (h.keep0 m.gr)).mono ?_;rintro e w' ⟨rfl,rfl⟩;exact ⟨b,2,rfl,ag _ _,m.old h.2.1⟩
theorem dK.low {I:List nW} (m:dK w1 w F I) (h:w0.grownBy w1 none):dK w0 w F I :=
 ⟨ab h m.gr,m.nd,fun k a=>⟨Nat.le_trans h.size (m.fr k a).1,(m.fr k a).2⟩,m.it⟩
theorem l8.keep0 {d:Nat} (h:l8 w0 b d M) (hg:w0.grownBy w1 none):l8 w1 b d M:=by
 intro w F I m;refine (h w F I (m.low hg)).mono ?_;rintro e w' ⟨p,o,rfl,g,a⟩;exact ⟨p,o,rfl,g,ab m.gr g,a.nd,fun k c=>⟨(m.fr k c).1,(a.fr k c).2⟩,a.it⟩
theorem xz.mono (h:xz w F p o z L) (a:L<=L'):xz w F p o z L':=⟨h.1.mono a,h.2⟩
theorem l8.mono {d c:Nat} (h:l8 w0 b d M) (f:M<=c):l8 w0 b d c:=by
 intro w F I m;refine (h w F I m).mono ?_;rintro e w' ⟨p,o,rfl,g,a⟩;refine ⟨p,o,rfl,g,a.gr,a.nd,a.fr,?_⟩;intro i hi;rcases List.mem_cons.1 hi with rfl | hi
 ·exact (a.it _ (List.mem_cons_self ..)).mono f
 ·exact a.it i (List.mem_cons_of_mem _ hi)
open Go Go.RowKit
section
variable {P:Program} {ops:Array Oper} {Q:Exit->Act->World->Prop} {md:Region.Mode} {S:World->Prop} {σ:Type} [BEq σ] [LawfulBEq σ]
def wkOk (md:Region.Mode) (ops:Array Oper) (ss:List σ) (L:σ->Array Bool) (m:σ->Nat) (rd:σ->List Nat) (nx:σ->Nat->σ):Bool :=
 ss.all fun s=>Region.ready md ops (L s)==rd s && ((m s==0)==(rd s).isEmpty) && (rd s).all fun i=>(ops[i]?).isSome && ss.contains (nx s i) && L (nx s i)==(L s).setIfInBounds i true && m (nx s i)+1==m s
theorem wk (f:List σ) (L:σ->Array Bool) (m:σ->Nat) (rd:σ->List Nat) (u:σ->Nat->σ) (R:σ->Act->World->Prop) (s0:σ) {N:Nat} {l:Array Bool} {a:Act} (v:R s0 a w)
  (h:∀ s a w,R s a w->(rd s=[]->Q .normal a w)/\∀ i∈rd s,∀ K':Act->World->Prop,Shut (∀ a w,R (u s i) a w->K' a w)->if Region.wanted (ax ops i) (yielded ops a.tmps)=true then Oper.wp P (ax ops i) a w K' Q else K' (a.put (ax ops i).dst undef) w)
  (hok:wkOk md ops f L m rd u=true:=by kernel_rfl) (hs:f.contains s0=true:=by kernel_rfl) (hl:l=L s0:=by kernel_rfl) (hN:N=m s0:=by kernel_rfl) (hS:∀ s a w,R s a w->S w:=by exact fun _ _ _ _=>trivial):wpAnyH P md ops Q S N l a w:=by
 subst hl hN;have g:∀ (n:Nat) (s:σ) (a:Act) (w:World),s∈f->m s=n->R s a w->wpAnyH P md ops Q S n (L s) a w:=by
  intro n;induction n with
  | zero =>
   intro s a w q hn r;have c:=List.all_eq_true.1 hok s q;simp only [Bool.and_eq_true,beq_iff_eq,hn] at c;have e:rd s=[]:=by simpa using c.1.2.symm
   exact ⟨c.1.1.trans e,(h s a w r).1 e⟩
  | succ n ih =>
   intro s a w q hn r;have c:=List.all_eq_true.1 hok s q;simp only [Bool.and_eq_true,beq_iff_eq,List.all_eq_true] at c;have j:rd s≠[]:=by
    intro e;have:=c.1.2;rw [hn,e] at this;simp at this
   refine wpAnyH_ready c.1.1 j ?_;intro i hi;obtain ⟨⟨⟨k1,x⟩,C⟩,E⟩:=c.2 i hi;refine wpOp_step (dP k1) (fun K' D=>(h s a w r).2 i hi K' (fun t w' d=>D t w' ⟨hS _ t w' d,?_⟩));rw [<- C];exact ih _ t w' (by simpa using x) O d
 exact g _ _ _ _ (by simpa using hs) rfl v
end
def opZ (ad:Bool) (x y:Int):Int:=if ad then x+y else x-y
abbrev Sg:=Nat×Bool×Bool×Bool
def fl (b:Bool) (p:Nat):List Nat:=if b then [p] else []
def st3 (ok:Sg->Bool):List Sg:=((List.range 7).flatMap fun k=>[true,false].flatMap fun x=>[true,false].flatMap fun y=>[true,false].map fun z=>(k,x,y,z)).filter ok
def m3 (s:Sg):Nat:=(6-s.1)+(if s.2.1 then 0 else 1)+(if s.2.2.1 then 0 else 1)+(if s.2.2.2 then 0 else 1)
abbrev oC (b:Bool) (p o:Nat):Value:=if b then pp p o else undef
theorem dK.alloc2 {A':List Nat} {I:List nW} (m:dK w0 w (A++(A'++B)) I):dK w0 (w.alloc (.cells #[.bool false,.slice none 0 0] 101)) (A++(A'++w.heap.size :: B)) I:=by
 rw [<- List.append_assoc] at m ⊢;exact dK.alloc m
theorem dK.mul2 {A':List Nat} {I:List nW} (m:dK w0 w (A++(A'++b :: B)) I) {q r:Nat} {x y:Int} (a:(⟨p,o,x,L⟩:nW)∈I) (hy:(⟨q,r,y,M⟩:nW)∈I) (c:L+M<=10000000000000) :
  Calls Tryz.prog 106 #[.pointer (some ⟨b,0,none⟩),.pointer (some ⟨p,o,none⟩),.pointer (some ⟨q,r,none⟩)] w fun e w'=>e=.returned (.pointer (some ⟨b,0,none⟩))/\dK w0 w' (A++(A'++B)) (⟨b,0,x*y,L+M⟩ :: I):=by
 rw [<- List.append_assoc] at m ⊢;exact dK.mul m a hy c
def mV:Sg->Bool | (k,x,y,z)=>decide (k<=6) && (decide (k<2) || y) && (decide (k<4) || z) && (decide (k<5) || x)
def lAS:Sg->Array Bool | (k,x,y,z)=>#[x,y,true,true,true,true,decide (1<=k),decide (2<=k),z,true,true,true,true,decide (3<=k),decide (4<=k),decide (5<=k),decide (6<=k)]
def D5:Sg->List Nat | (k,x,y,z)=>(if x then [] else [0])++(if y then [] else [1])++(if k=0 then [6] else [])++(if k=1/\y then [7] else [])++(if z then [] else [8])++(if k=2 then [13] else [])++(if k=3/\z then [14] else [])++(if k=4/\x then [15] else [])++(if k=5 then [16] else [])
def rq:Sg->Nat->Sg | (k,x,y,z),i=>if i=0 then (k,true,y,z) else if i=1 then (k,x,true,z) else if i=8 then (k,x,y,true) else (k+1,x,y,z)
theorem D9 {x z:Bool} (c:D5 (k,x,y,z)=[]) (a:mV (k,x,y,z)=true):k=6/\x=true/\y=true/\z=true:=by
 rcases k with _ | _ | _ | _ | _ | _ | _ | k<;>cases x<;>cases y<;>cases z<;>first | (simp [mV] at a;done) | (simp [D5] at c;done) | simp
theorem D8 {i:Nat} {x z:Bool} (h:i∈D5 (k,x,y,z)):(i=0/\x=false)∨(i=1/\y=false)∨(i=8/\z=false)∨(i=6/\k=0)∨(i=7/\k=1/\y=true)∨(i=13/\k=2)∨(i=14/\k=3/\z=true)∨(i=15/\k=4/\x=true)∨(i=16/\k=5):=by
 unfold D5 at h;simp only [List.mem_append] at h;rcases h with (((((((h | h) | h) | h) | h) | h) | h) | h) | h<;>split at h<;>simp_all
theorem wD (H:Bool) (v m n:Nat) (S T:Bool) (v1 v2:Value) (g j:Int) (c d L M:Nat) (w:World) (D:gL w v 0 S v1) (E:gL w v 2 T v2) (U:ay w m 0 g L) (V:ay w n 0 j M) (W:l8 w m c L) (X:l8 w n d M) (I:0<c) (J:0<d) (hL:L+M<=3900000000000) :
  Calls Tryz.prog (bif H then 103 else 65) #[.pointer (some ⟨v,0,none⟩),.pointer (some ⟨m,0,none⟩),.pointer (some ⟨n,0,none⟩)] w fun e w'=>e=.returned (.pointer (some ⟨v,0,none⟩))/\bF w w' v/\bK w' v (fF (opZ H (g*(d:Int)) (j*(c:Int))) (c*d)) (fA (opZ H (g*(d:Int)) (j*(c:Int))) (c*d)) (L+M+3):=by
 have HX:=aa U;have HY:=aa V;have Y:=aa W;have DY:=aa X;have Z1:=aa D;have Z2:=aa E;clear U V W X D E;have N:opZ true (g*(d:Int)) (j*(c:Int))=g*(d:Int)+j*(c:Int)/\opZ false (g*(d:Int)) (j*(c:Int))=g*(d:Int)-j*(c:Int):=⟨rfl,rfl⟩;cases H
 case' false=>(dsimp only [cond];rw [N.2];obtain ⟨Z,C⟩:=eX (g*(d:Int)-j*(c:Int));have HZ:=aa C;rw [<- C];go_enter Tryz.func65,Tryz.ntmps65)
 case' true=>(dsimp only [cond];rw [N.1];obtain ⟨Z,C⟩:=eX (g*(d:Int)+j*(c:Int));have HZ:=aa C;rw [<- C];go_enter Tryz.func103,Tryz.ntmps103)
 all_goals
  clear N C;go_upto_region 1 with fail;refine hd (fun _=>True) (fun _=>?_) (hS:=trivial);refine tk 9 [(2,10,pp m 0),(3,11,pp m 0),(4,12,pp m 0),(5,13,pp n 0),(9,17,pp n 0),(10,18,pp n 0),(11,19,pp n 0),(12,20,pp m 0)] ?_;refine wk (st3 mV) lAS m3 D5 rq (fun (k,x,y,z) a wx=>∃ p q r d1 o1 d2 o2:Nat,mV (k,x,y,z)=true/\a=⟨#[pp v 0,pp m 0,pp n 0,undef,undef,undef,.pointer none,oC (decide (6<=k)) p 0,oC x p 0,oC y q 0,pp m 0,pp m 0,pp m 0,pp n 0,oC (decide (1<=k)) d1 o1,oC (decide (2<=k)) q 0,oC z r 0,pp n 0,pp n 0,pp n 0,pp m 0,oC (decide (3<=k)) d2 o2,oC (decide (4<=k)) r 0,oC (decide (5<=k)) p 0,undef,undef,undef,undef,undef,undef,undef,undef,undef],[]⟩
   /\ dK w wx (fl (x && decide (k<5)) p++(fl (y && decide (k<2)) q++fl (z && decide (k<4)) r)) ([⟨p,0,Z,max (L+M) (M+L)+1⟩,⟨r,0,j*(c:Int),M+L⟩,⟨d2,o2,(c:Int),L⟩,⟨q,0,g*(d:Int),L+M⟩,⟨d1,o1,(d:Int),M⟩,⟨m,0,g,L⟩,⟨n,0,j,M⟩].drop (5-k))) (0,false,false,false) ⟨0,0,0,0,0,0,0,rfl,rfl,((dK.start (jH (ag w none))).old HY).old HX⟩ ?_
  rintro ⟨k,x,y,z⟩ a wx ⟨p,q,r,d1,o1,d2,o2,f,rfl,t⟩;refine ⟨fun he=>?_,fun i hi K u=>?_⟩
  ·obtain ⟨rfl,rfl,rfl,rfl⟩:=D9 he f;have M0:=aa (t.drop (I':=[⟨p,0,Z,max (L+M) (M+L)+1⟩]) (by simp));clear t he f;simp only [oC];go_wp2_with fail;refine (Y _ _ _ (dK.alloc (A:=[]) (B:=[]) M0)).mono ?_;rintro e w1 ⟨d1,o1,rfl,_,s⟩;have M1:=aa s;clear s;go_wp2_with fail;refine (DY _ _ _ M1).mono ?_;rintro e w2 ⟨d2,o2,rfl,_,m2⟩;have M2:=aa m2;clear m2;go_wp2_with fail;refine (dK.mul (A:=[]) (B:=[]) M2 (x:=(c:Int)) (y:=(d:Int)) (L:=L) (M:=M) (by simp) (by simp) (by omega)).mono ?_;rintro e w3 ⟨rfl,m3⟩;have G:=aa m3;clear m3;go_wp2_with fail;refine (dj v p 0 _ 0 S T v1 v2 Z (c*d) (L+M+1) _ (Z1.keep0 G.gr) (Z2.keep0 G.gr) ((G.away (L:=max (L+M) (M+L)+1) (by simp)).mono (by omega)) ((by rw [Int.natCast_mul];exact G.away (L:=L+M) (by simp):ay w3 wx.heap.size 0 ((c*d:Nat):Int) (L+M)).mono (by omega)) (Nat.mul_pos I J) (by omega)).mono ?_;rintro e w4 ⟨rfl,r1,r2⟩;have R1:=aa r1;have R2:=aa r2;clear r1 r2;go_wp2;go_ret;exact ⟨rfl,(bF.of_gr G.gr).trans R1,R2⟩
  ·have hm:=D8 hi;have hh:k<=6/\(k<2∨y=true)/\(k<4∨z=true)/\(k<5∨x=true):=by simp only [mV,Bool.and_eq_true,Bool.or_eq_true,decide_eq_true_eq] at f;exact ⟨f.1.1.1,f.1.1.2,f.1.2,f.2⟩
   clear f hi;rcases hm with ⟨rfl,rfl⟩ | ⟨rfl,rfl⟩ | ⟨rfl,rfl⟩ | ⟨rfl,rfl⟩ | ⟨rfl,rfl,rfl⟩ | ⟨rfl,rfl⟩ | ⟨rfl,rfl,rfl⟩ | ⟨rfl,rfl,rfl⟩ | ⟨rfl,rfl⟩<;>simp only [ax,q4,q5,q6,q7]
   ·go_simp
    rcases k with _ | _ | _ | _ | _ | _ | k<;>first
     | exact u _ _ ⟨wx.heap.size,q,r,d1,o1,d2,o2,by simpa [mV,rq,and_assoc] using hh,rfl,dK.alloc (A:=[]) t⟩
     | (exfalso;obtain ⟨h0,P,Q,R⟩:=hh;rcases R with h | h<;>first | omega | cases h)
   ·go_simp
    rcases k with _ | _ | _ | _ | _ | _ | k<;>first
     | exact u _ _ ⟨p,wx.heap.size,r,d1,o1,d2,o2,by simpa [mV,rq,and_assoc] using hh,rfl,dK.alloc (A:=fl (x && decide (_<5)) p) t⟩
     | (exfalso;obtain ⟨h0,P,Q,R⟩:=hh;rcases P with h | h<;>first | omega | cases h)
   ·go_simp
    rcases k with _ | _ | _ | _ | _ | _ | k<;>first
     | exact u _ _ ⟨p,q,wx.heap.size,d1,o1,d2,o2,by simpa [mV,rq,and_assoc] using hh,rfl,dK.alloc2 (A:=fl (x && decide (_<5)) p) (A':=fl (y && decide (_<2)) q) t⟩
     | (exfalso;obtain ⟨h0,P,Q,R⟩:=hh;rcases Q with h | h<;>first | omega | cases h)
   ·go_simp
    go_at_call 75
    refine (DY _ _ _ t).mono ?_;rintro e w1 ⟨d1,o1,rfl,_,s⟩;go_wp2_with fail;exact u _ _ ⟨p,q,r,d1,o1,d2,o2,by simpa [mV,rq,and_assoc] using hh,rfl,s⟩
   ·go_simp
    go_at_call 106
    refine (dK.mul (A:=fl (x && decide (1<5)) p) t (x:=g) (y:=(d:Int)) (L:=L) (M:=M) (by simp) (by simp) (by omega)).mono ?_;rintro e w1 ⟨rfl,s⟩;go_wp2_with fail;exact u _ _ ⟨p,q,r,d1,o1,d2,o2,by simpa [mV,rq,and_assoc] using hh,rfl,s⟩
   ·go_simp
    go_at_call 75
    refine (Y _ _ _ t).mono ?_;rintro e w1 ⟨d2,o2,rfl,_,s⟩;go_wp2_with fail;exact u _ _ ⟨p,q,r,d1,o1,d2,o2,by simpa [mV,rq,and_assoc] using hh,rfl,s⟩
   ·go_simp
    go_at_call 106
    refine (dK.mul2 (A:=fl (x && decide (3<5)) p) (A':=fl (y && decide (3<2)) q) t (x:=j) (y:=(c:Int)) (L:=M) (M:=L) (by simp) (by simp) (by omega)).mono ?_;rintro e w1 ⟨rfl,s⟩;go_wp2_with fail;exact u _ _ ⟨p,q,r,d1,o1,d2,o2,by simpa [mV,rq,and_assoc] using hh,rfl,s⟩
   ·go_simp
    first
     | (go_at_call 105;refine (dK.sub (A:=[]) t (x:=g*(d:Int)) (y:=j*(c:Int)) (L:=L+M) (M:=M+L) (by simp) (by simp) (by omega) (by omega)).mono ?_)
     | (go_at_call 147;refine (dK.add (A:=[]) t (x:=g*(d:Int)) (y:=j*(c:Int)) (L:=L+M) (M:=M+L) (by simp) (by simp) (by omega) (by omega)).mono ?_)
    rintro e w1 ⟨rfl,s⟩;rw [<- HZ] at s;go_wp2_with fail;exact u _ _ ⟨p,q,r,d1,o1,d2,o2,by simpa [mV,rq,and_assoc] using hh,rfl,s⟩
   ·go_simp
    exact u _ _ ⟨p,q,r,d1,o1,d2,o2,by simpa [mV,rq,and_assoc] using hh,rfl,t⟩
theorem xW (h:∀ c∈l,nE c=true) (c:UInt8) (hc:c∈l):48<=c.toNat/\c.toNat<=57:=by
 have:=h c hc;unfold nE at this;rw [Bool.and_eq_true,decide_eq_true_eq,decide_eq_true_eq] at this;exact this
theorem uE (s:ByteArray) (i:Nat) (h:i<s.size):s[i]∈s.data.toList:=by
 have:s[i]=s.data.toList[i]'(by simpa using h):=rfl;rw [this];exact List.getElem_mem _
theorem Ad (w:World):aT w (.slice none 0 0) 0 0:=⟨[],Ws.nil w,rfl,rfl,zL⟩
theorem jq {v:Value} {n:Nat} (h:aT w v n L):∃ ao l cap,v=.slice ao l cap/\l<=cap/\cap<=9223372036854775807:=by
 obtain ⟨xs,a,f,g,i⟩:=h;obtain ⟨ao,c,rfl,d,e,j⟩:=a.open;exact ⟨ao,xs.length,c,rfl,d,by unfold maxLen at e;omega⟩
def SetR (w:World) (s:ByteArray) (rv iv:Value) (wr:World):Prop :=
 ∃ i:Nat,i<=s.size/\iv=.int .i64 i/\aT wr rv (bj (s.data.toList.take i)) (3*i)/\w.grownBy wr none/\bB w rv
def SetE (w:World) (b off:Nat) (s:ByteArray) (e:Ending) (w':World):Prop:=e=.returned (.tuple #[.pointer (some ⟨b,off,none⟩),.bool true])/\gh w w' b off/\ay w' b off (bj s.data.toList:Nat) (3*s.size)/\eC w w' b off
theorem dV (b off:Nat) (a:Bool) (v0:Value) (s:ByteArray) (w:World) (g:gL w b off a v0) (j:0<s.size) (hs:s.size<=1000000000000) (hd:∀ c∈s.data.toList,nE c=true) :
  Calls Tryz.prog 54 #[.pointer (some ⟨b,off,none⟩),.string s,.int .i64 10] w fun e w'=>SetE w b off s e w':=by
 have HB:=aa g;have hb:=g.lt;have HD:=aa hd;obtain ⟨f1,f2⟩:=xW hd s[0] (uE s 0 j);have g1:((s[0].toNat:Int)==45)=false:=by simp;omega
 have g2:((s[0].toNat:Int)==43)=false:=by simp;omega
 have m:((s.size:Int)==0)=false:=by simp;intro e;rw [e] at j;simp at j
 clear hd g f1 f2;go_enter Tryz.func54,Tryz.ntmps54
 go_wp2;clear g1 g2 m;go_loopw [9,10] (fun rv iv wr=>Hid (SetR w s rv iv wr)) (fun _ iv _=>s.size-(intOf iv).toNat)
 case atStart=>exact ⟨0,O,rfl,Ad _,ag _ _,fun k E=>by simp [au] at E⟩
 case round =>
  obtain ⟨i,hi,rfl,t,N,P⟩:=hrel.out;obtain ⟨ao,l,cap,rfl,hj,hl⟩:=jq t;have G:=aa t;have f:=aa N;have H:=aa P;clear t N P hrel;by_cases hlt:i<s.size
  ·obtain ⟨d1,d2⟩:=xW HD s[i] (uE s i hlt);have n:=aa (sL s i hlt);obtain ⟨c,hc⟩:=eX (s[i].toNat);have he:(48:Int)<=(s[i].toNat:Int):=O
   have hf:(s[i].toNat:Int)<=57:=O
   have HC:=aa hc;clear hc;go_wp2_with fail;refine (fp _ _ ?p1 ?p2).mono ?_
   case p1=>omega
   case p2=>omega
   rintro e w1 ⟨v1,rfl,k1,Q,k3⟩;obtain ⟨hm,l1,R,rfl,ho,hp⟩:=jq k1;have K1:=aa k1;have I:=aa Q;clear k1 Q k3;go_wp2_with fail;refine (Ac _ _ (bj (s.data.toList.take i)) 10 (3*i) 2 w1 (G.keep0 I) (by simpa using K1.out) O).mono ?_;rintro e w2 ⟨v2,rfl,u,S,m3⟩;obtain ⟨hq,l2,T,rfl,hr,hu⟩:=jq u;have M1:=aa u;have M2:=aa (ab I S);clear u S m3;go_wp2_with fail;refine (fp _ _ ?q1 ?q2).mono ?_
   case q1=>omega
   case q2=>omega
   rintro e w3 ⟨v3,rfl,x,C,n3⟩;obtain ⟨hv,l3,U,rfl,hw,hx⟩:=jq x;have N1:=aa x;have J:=aa (ab M2 C);have q:=aa (M1.keep0 C);clear x C n3;go_wp2_with fail;refine (zb _ _ _ _ (3*i+2) 2 w3 q N1 O O).mono ?_;rintro e w4 ⟨v4,rfl,p1,p2,V⟩;obtain ⟨D,l4,d,rfl,hy,hz⟩:=jq p1;have P1:=aa p1;have P2:=aa (ab J p2);have P3:=aa (show bB w (Value.slice D l4 d) from fun k E=>Nat.le_trans (ab f J).size (V k E));clear p1 p2 V;go_wp2;go_roundw
   case rel =>
    refine ⟨i+1,O,zN,?_,ab f P2,P3⟩;rw [n,p8];have hP:=P1.out.mono (L':=3*(i+1)) O;have e:((s[i].toNat:Int)-48).toNat=s[i].toNat-48:=O
    first
     | exact hP
     | (rw [e] at hP;exact hP)
   case measure=>exact bO
  ·have K:s.data.toList.take i=s.data.toList:=zT (by have:=Lib.size_eq s;omega);have r:i=s.size:=O
   have HT:=aa K;clear K;go_wp2_with fail;refine (gD b off a v0 _ _ _ _ wr (HB.keep0 f) G (gC (w1:=w) H hb)).mono ?_;rintro e w2 ⟨rfl,W,X,Y⟩;have A1:=aa W;have A2:=aa X;have A5:=aa Y;clear W X Y;go_wp2;refine bodyPost_ret (v:=.tuple #[.pointer (some ⟨b,off,none⟩),.bool true]) (by simp [results,Tryz.results54,go_sem]) rfl ?_;refine ⟨rfl,(gh.of_gr f b off hb).trans A1,?_,eC.of A5 H zL⟩;have h:=A2.out;rw [HT,r] at h;exact h
theorem xU (b off:Nat) (z:Int) (L:Nat) (w:World) (h:ay w b off z L) :
  Calls Tryz.prog 58 #[.pointer (some ⟨b,off,none⟩)] w fun e w'=>e=.returned (.int .i64 (oI z))/\w'=w:=by
 obtain ⟨neg,v,f,g,c,n⟩:=h;obtain ⟨s,l,t,rfl,d,_,q,r,_,_⟩:=aF g;have c0:=f.c0;have c1:=f.c1;clear f g n;by_cases i:z=0
 ·have a:l=0:=d.2 O;subst a;clear d;go_enter Tryz.func58,Tryz.ntmps58
  go_wp2;go_ret;exact ⟨by simp [oI,i],rfl⟩
 ·have a:0<l:=by
   rcases zP l with e | e
   ·have:=d.1 e;omega
   ·exact e
  have j:((l:Int)==0)=false:=by simp;omega
  clear d;by_cases hn:z<0
  ·obtain rfl:neg=true:=by rw [c];simp [hn]
   clear c;go_enter Tryz.func58,Tryz.ntmps58
   go_wp2;go_ret;exact ⟨by simp [oI,hn],rfl⟩
  ·obtain rfl:neg=false:=by rw [c];simp [hn]
   clear c;go_enter Tryz.func58,Tryz.ntmps58
   go_wp2;go_ret;refine ⟨?_,rfl⟩;have m:0<z:=O
   simp [oI,hn,m]
theorem mw (b:Nat) (z:Int) (L:Nat) (w:World) (h:ay w b 0 z L) :
  Calls Tryz.prog 28 #[.pointer (some ⟨b,0,none⟩)] w fun e w'=>e=.returned (.int .i64 (oI z))/\w'=w:=by
 have H:=aa h;clear h;go_enter Tryz.func28,Tryz.ntmps28
 go_wp2_with fail;refine (xU b 0 z L w H).mono ?_;rintro e w1 ⟨rfl,rfl⟩;go_wp2;go_ret;exact ⟨rfl,rfl⟩
theorem vG {x:Int} {y:Nat} (h:Nat.gcd x.natAbs y=1):fF x y=x/\fA x y=y:=by
 unfold fF fA;rw [h];simp
theorem wE (b:Nat) (x:Int) (y L:Nat) (w:World) (h:bK w b x y L) (i:L<=4000000000000) :
  Calls Tryz.prog 101 #[.pointer (some ⟨b,0,none⟩),.pointer (some ⟨b,0,none⟩)] w fun e w'=>e=.returned (.pointer (some ⟨b,0,none⟩))/\bF w w' b/\bK w' b x y (L+2):=by
 have H:=aa h;obtain ⟨n,v1,d,_⟩:=h.1;obtain ⟨q,v2,f,_⟩:=h.2.1;have j:=aa d;have m:=aa f;have a:=vG h.2.2.2;have c:=aa a;clear h d f a;go_enter Tryz.func101,Tryz.ntmps101
 go_wp2;go_region_with (first | (go_at_call 75;refine (tj b x y L _ (H.keep0 (az _))).mono ?_;rintro e w1 ⟨rfl,rfl⟩) | (go_at_call 56;refine (dj b b 0 b 2 n q v1 v2 x y L _ (j.keep0 (az _)) (m.keep0 (az _)) (H.1.keep0 (az _)) (H.2.1.keep0 (az _)) H.2.2.1 i).mono ?_;rintro e s ⟨rfl,r,g⟩))
 all_goals go_wp2
 all_goals go_ret
 all_goals rw [c.1,c.2] at g
 all_goals exact ⟨rfl,(bF.of_gr (az _)).trans r,g⟩
theorem oE (b:Nat) (x:Int) (y L:Nat) (w:World) (h:bK w b x y L) (j:L<=4000000000000) :
  Calls Tryz.prog 57 #[.pointer (some ⟨b,0,none⟩),.pointer (some ⟨b,0,none⟩)] w fun e w'=>e=.returned (.pointer (some ⟨b,0,none⟩))/\bF w w' b/\bK w' b (-x) y (L+2):=by
 have H:=aa h;clear h;go_enter Tryz.func57,Tryz.ntmps57
 go_wp2_with fail;refine (wE b x y L w H j).mono ?_;rintro e w1 ⟨rfl,g,d⟩;obtain ⟨q,v1,i,_⟩:=d.1;have m:=aa g;have a:=aa d;have n:=aa i;clear g d i;go_wp2;go_region_with (go_at_call 102;refine (nJ b 0 b 0 q v1 x (L+2) _ (n.keep0 (az _)) (a.1.keep0 (az _)) O).mono ?_;rintro e t ⟨rfl,c1,c2,c3⟩)
 all_goals go_wp2
 all_goals go_ret
 all_goals refine ⟨rfl,m.trans ((bF.of_gr (az _)).trans (bF.of_put c1)),c2,?_,a.2.2.1,by rw [Int.natAbs_neg];exact a.2.2.2⟩
 all_goals refine (a.2.1.keep0 (az _)).keep c1 (.inr (.inr O)) ?_
 all_goals (intro v c e;obtain ⟨u,v2,r,C,D,s⟩:=a.out.2.1;have f:=r.c1;simp at f c;rw [f] at c;exact s (by rw [zJ c];exact e))
theorem low_mk (x:Int) (y:Nat) (hy:0<y):fF x y=(mkRat x y).num/\fA x y=(mkRat x y).den:=by
 rw [Rat.num_mkRat,Rat.den_mkRat,if_neg O,if_neg O];unfold fF fA;rw [Nat.gcd_comm y x.natAbs];exact ⟨rfl,rfl⟩
def RQ (w:World) (b:Nat) (q:Rat) (L:Nat):Prop:=bK w b q.num q.den L
theorem RQ.keep0 {q:Rat} (h:RQ w b q L) (hg:w.grownBy w' none):RQ w' b q L:=bK.keep0 h hg
theorem RQ.mono {q:Rat} (h:RQ w b q L) (a:L<=L'):RQ w b q L':=bK.mono h a
def Ci (w:World) (q:Rat) (L:Nat) (e:Ending) (w':World):Prop:=∃ b,e=.returned (.pointer (some ⟨b,0,none⟩))/\RQ w' b q L/\w.grownBy w' none/\w.heap.size<=b
theorem eW (w:World):gL (w.alloc (.cells #[.bool false,.slice none 0 0,.bool false,.slice none 0 0] 103)) w.heap.size 0 false (.slice none 0 0)/\gL (w.alloc (.cells #[.bool false,.slice none 0 0,.bool false,.slice none 0 0] 103)) w.heap.size 2 false (.slice none 0 0) :=
 ⟨by constructor<;>simp,by constructor<;>simp⟩
theorem lC {a:World} (h:w.grownBy w1 none) (k:bF w1 a b) (hb:w.heap.size<=b):w.grownBy a none :=
 aj h k.gr (fun _ _ e=>e) (fun c hc e=>by cases e;omega)
theorem bK.q {x:Int} {y:Nat} {q:Rat} (hy:0<y) (a:mkRat x y=q) (h:bK w b (fF x y) (fA x y) L):RQ w b q L:=by
 obtain ⟨c,d⟩:=low_mk x y hy;rw [c,d,a] at h;exact h
theorem Bw (x:Int):mkRat x 1=(x:Rat):=by
 rw [Rat.mkRat_eq_div];have:((1:Nat):Rat)=1:=rfl;rw [this,Rat.div_def];have:(1:Rat)⁻¹=1:=by decide +kernel
 rw [this,Rat.mul_one]
def pP (w:World) (b L:Nat):Prop:=ay w b 0 0 L/\ay w b 2 0 L
theorem pP.keep0 (h:pP w b L) (hg:w.grownBy w' none):pP w' b L:=⟨h.1.keep0 hg,h.2.keep0 hg⟩
theorem zi (b L:Nat) (w:World) (h:pP w b L) :
  Calls Tryz.prog 75 #[.pointer (some ⟨b,0,none⟩)] w fun e w'=>e=.returned (.pointer (some ⟨w.heap.size,0,none⟩))/\w.grownBy w' none/\ay w' w.heap.size 0 1 2/\eC w w' w.heap.size 0:=by
 obtain ⟨D,E,a,c,q,r⟩:=h.2;obtain ⟨s,t,u,rfl,d,G,H,I,v,x⟩:=aF c;obtain rfl:t=0:=d.2 rfl;have C:w.cell? ⟨b,3,none⟩=some (.slice s 0 u):=a.c1;clear a c q r d v x h;go_enter Tryz.func75,Tryz.ntmps75
 go_wp2_with fail;refine (dS 1 _ O O).mono ?_;rintro e w1 ⟨rfl,f,g,i⟩;have j:=aa f;have m:=aa g;have n:=aa i;clear f g i;go_wp2;go_ret;exact ⟨rfl,j,m,n⟩
def RX (w:World) (b:Nat) (q:Rat) (L:Nat):Prop:=ay w b 0 q.num L/\l8 w b q.den L
theorem RX.keep0 {q:Rat} (h:RX w b q L) (hg:w.grownBy w' none):RX w' b q L:=⟨h.1.keep0 hg,h.2.keep0 hg⟩
theorem RQ.x {q:Rat} (h:RQ w b q L):RX w b q L:=⟨h.1,bK.denC h⟩
theorem pP.x (h:pP w b L) (a:2<=L):RX w b 0 L:=by
 refine ⟨h.1,?_⟩;have:l8 w b 1 2:=by
  intro w1 F I m;refine (zi b L w1 (h.keep0 m.gr)).mono ?_;rintro e w' ⟨rfl,g,c,d⟩;exact ⟨w1.heap.size,0,rfl,g,m.new g c zL d⟩
 exact this.mono a
theorem sub_mk (p q:Rat):mkRat (p.num*(q.den:Int)-q.num*(p.den:Int)) (p.den*q.den)=p-q:=(Rat.sub_def' p q).symm
theorem tO (c d:Nat) (p q:Rat) (L M:Nat) (w:World) (f:RX w c p L) (g:RX w d q M) (n:L+M<=3900000000000) :
  Calls Tryz.prog 33 #[.pointer (some ⟨c,0,none⟩),.pointer (some ⟨d,0,none⟩)] w fun e w'=>Ci w (p-q) (L+M+3) e w':=by
 have h:=aa f;have i:=aa g;clear f g;go_enter Tryz.func33,Tryz.ntmps33
 go_wp2_with fail;have a:=ae (ag w none) (.cells #[.bool false,.slice none 0 0,.bool false,.slice none 0 0] 103);refine (wD false w.heap.size c d false false (.slice none 0 0) (.slice none 0 0) _ _ _ _ L M _ (eW w).1 (eW w).2 (h.1.keep0 a) (i.1.keep0 a) (h.2.keep0 a) (i.2.keep0 a) p.den_pos q.den_pos n).mono ?_;rintro e w1 ⟨rfl,j,m⟩;have r:=aa j;have s:=aa m;clear j m a;go_wp2;go_ret;exact ⟨_,rfl,bK.q (Nat.mul_pos p.den_pos q.den_pos) (sub_mk p q) s,lC (ae (ag _ _) _) r zL,zL⟩
theorem wB (a c:Nat) (p q:Rat) (L M:Nat) (w:World) (d:RX w a p L) (f:RX w c q M) (g:L+M<=3900000000000) :
  Calls Tryz.prog 21 #[.pointer (some ⟨a,0,none⟩),.pointer (some ⟨c,0,none⟩)] w fun e w'=>Ci w (p-q) (L+M+3) e w':=by
 have i:=aa d;have j:=aa f;clear d f;go_enter Tryz.func21,Tryz.ntmps21
 go_wp2_with fail;refine (tO a c p q L M _ i j g).mono ?_;rintro e w1 ⟨b,rfl,h⟩;have H:=aa h;clear h;go_wp2;go_ret;exact ⟨b,rfl,H⟩
theorem add_mk (p q:Rat):mkRat (p.num*(q.den:Int)+q.num*(p.den:Int)) (p.den*q.den)=p+q:=(Rat.add_def' p q).symm
theorem rAdd_at (c d:Nat) (p q:Rat) (L M:Nat) (w:World) (f:RX w c p L) (g:RX w d q M) (n:L+M<=3900000000000) :
  Calls Tryz.prog 61 #[.pointer (some ⟨c,0,none⟩),.pointer (some ⟨d,0,none⟩)] w fun e w'=>Ci w (p+q) (L+M+3) e w':=by
 have h:=aa f;have i:=aa g;clear f g;go_enter Tryz.func61,Tryz.ntmps61
 go_wp2_with fail;have a:=ae (ag w none) (.cells #[.bool false,.slice none 0 0,.bool false,.slice none 0 0] 103);refine (wD true w.heap.size c d false false (.slice none 0 0) (.slice none 0 0) _ _ _ _ L M _ (eW w).1 (eW w).2 (h.1.keep0 a) (i.1.keep0 a) (h.2.keep0 a) (i.2.keep0 a) p.den_pos q.den_pos n).mono ?_;rintro e w1 ⟨rfl,j,m⟩;have r:=aa j;have s:=aa m;clear j m a;go_wp2;go_ret;exact ⟨_,rfl,bK.q (Nat.mul_pos p.den_pos q.den_pos) (add_mk p q) s,lC (ae (ag _ _) _) r zL,zL⟩
def RV (w:World) (b:Nat) (q:Rat) (L:Nat):Prop:=RQ w b q L∨(q=0/\pP w b L)
theorem RV.keep0 {q:Rat} (h:RV w b q L) (hg:w.grownBy w' none):RV w' b q L:=by
 rcases h with h | ⟨e,h⟩
 ·exact .inl (h.keep0 hg)
 ·exact .inr ⟨e,h.keep0 hg⟩
theorem RV.mono {q:Rat} (h:RV w b q L) (a:L<=L'):RV w b q L':=by
 rcases h with h | ⟨e,h⟩
 ·exact .inl (h.mono a)
 ·exact .inr ⟨e,h.1.mono a,h.2.mono a⟩
theorem RV.x {q:Rat} (h:RV w b q L) (a:2<=L):RX w b q L:=by
 rcases h with h | ⟨rfl,h⟩
 ·exact h.x
 ·exact h.x a
theorem RV.ints {q:Rat} (h:RV w b q L):∃ z y:Int,ay w b 0 z L/\ay w b 2 y L:=by
 rcases h with h | ⟨rfl,h⟩
 ·exact ⟨_,_,h.1,h.2.1⟩
 ·exact ⟨_,_,h.1,h.2⟩
theorem RV.lt {q:Rat} (h:RV w b q L):b<w.heap.size:=by
 obtain ⟨z,y,⟨c,v1,a,_⟩,_⟩:=h.ints;exact a.lt
theorem Ws.keepV {v:Value} {xs:List Nat} (h:Ws w v xs) (hg:w.grownBy w' (some k)) (hn:bM w k):Ws w' v xs:=by
 refine ⟨h.sm,?_⟩;rcases h.sh with d | ⟨b,off,cap,rfl,hb,f,g,hc⟩
 ·exact .inl d
 ·refine .inr ⟨b,off,cap,rfl,Nat.lt_of_lt_of_le hb hg.size,f,g,fun i hi=>?_⟩;have c:b≠k:=fun e=>hn (off+i) xs[i] (by rw [<- e];exact hc i hi)
  have e:w'.heap[b]? = w.heap[b]?:=hg.block b hb (fun e=>c (zJ e));exact (World.cell?_of_block (a:=⟨b,off+i,none⟩) e).trans (hc i hi)
theorem ay.keepV {off:Nat} (h:ay w b off z L) (hg:w.grownBy w' (some k)) (hn:bM w k) (d:b≠k):ay w' b off z L:=by
 obtain ⟨neg,v,c,⟨xs,f,g⟩,i⟩:=h;have e:w'.heap[b]? = w.heap[b]?:=hg.block b c.lt (fun e=>d (zJ e));exact ⟨neg,v,⟨(World.cell?_of_block (a:=⟨b,off,none⟩) e).trans c.c0,(World.cell?_of_block (a:=⟨b,off+1,none⟩) e).trans c.c1,(World.frozen?_of_block (a:=⟨b,off,none⟩) e).trans c.f0,(World.frozen?_of_block (a:=⟨b,off+1,none⟩) e).trans c.f1⟩,⟨xs,f.keepV hg hn,g⟩,i⟩
theorem RV.keepV {q:Rat} (h:RV w b q L) (hg:w.grownBy w' (some k)) (hn:bM w k) (a:b≠k):RV w' b q L:=by
 rcases h with h | ⟨e,h⟩
 ·exact .inl ⟨h.1.keepV hg hn a,h.2.1.keepV hg hn a,h.2.2⟩
 ·exact .inr ⟨e,h.1.keepV hg hn a,h.2.keepV hg hn a⟩
def pv:Option Nat->Value
 | none=>.pointer none
 | some b=>.pointer (some ⟨b,0,none⟩)
theorem Tryz.infoPR:(Tryz.prog.info? 37).map (fun i=>(i.zero,i.size,i.bytes))=some (some (pv none),1,8):=zK
theorem tT (a:Nat) (h i:Bool) (v1 v2:Value) (x:Int) (w:World) (c:gL w a 0 h v1) (d:gL w a 2 i v2) (s:-9223372036854775808<=x) (t:x<=9223372036854775807) :
  Calls Tryz.prog 64 #[.pointer (some ⟨a,0,none⟩),.int .i64 x] w fun e w'=>e=.returned (.pointer (some ⟨a,0,none⟩))/\bF w w' a/\RQ w' a (x:Rat) 4:=by
 have u:=aa c;have v:=aa d;clear c d;go_enter Tryz.func64,Tryz.ntmps64
 go_wp2_with fail;refine (dS x _ s t).mono ?_;rintro e w1 ⟨rfl,j,m,H⟩;have g:=aa j;have C:=aa m;clear j m H;go_wp2_with fail;refine (dS 1 _ O O).mono ?_;rintro e J ⟨rfl,n,r,I⟩;have f:=aa n;have D:=aa r;clear n r I;go_wp2_with fail;refine (dj a w.heap.size 0 w1.heap.size 0 h i v1 v2 x 1 2 _ ((u.keep0 g).keep0 f) ((v.keep0 g).keep0 f) (C.keep0 f) D O O).mono ?_;rintro e K ⟨rfl,c1,c2⟩;have E:=aa c1;have G:=aa c2;clear c1 c2;go_wp2;go_ret;exact ⟨rfl,((bF.of_gr g).trans (bF.of_gr f)).trans E,bK.q O (Bw x) G⟩
theorem gS (x:Int) (w:World) (d:-9223372036854775808<=x) (f:x<=9223372036854775807) :
  Calls Tryz.prog 31 #[.int .i64 x] w fun e w'=>Ci w (x:Rat) 4 e w':=by
 go_enter Tryz.func31,Tryz.ntmps31
 go_wp2_with fail;refine (tT w.heap.size false false (.slice none 0 0) (.slice none 0 0) x _ (eW w).1 (eW w).2 d f).mono ?_;rintro e w1 ⟨rfl,a,c⟩;have g:=aa a;have h:=aa c;clear a c;go_wp2;go_ret;exact ⟨_,rfl,h,lC (ae (ag _ _) _) g zL,zL⟩
theorem j5 (c:UInt8):([48,49,50,51,52,53,54,55,56,57]:List UInt8).contains c=nE c:=by
 rw [Bool.eq_iff_iff];simp [nE,<- UInt8.toNat_inj];omega
theorem j6 (c:UInt8):([48]:List UInt8).contains c=true↔c=48:=Z
theorem xO (p:UInt8->Bool):∀ l:List UInt8,l.dropWhile p=[]↔∀ c∈l,p c=true
 | []=>Z
 | a :: r=>by
  rw [List.dropWhile_cons];by_cases h:p a=true
  ·rw [if_pos h,xO p r];simp [h]
  ·rw [if_neg h];simp [h]
theorem zr (p:UInt8->Bool):∀ (l:List UInt8) (x:UInt8) (r:List UInt8),l.dropWhile p=x :: r->p x=false
 | [],x,r,h=>by simp at h
 | a :: t,x,r,h=>by
  rw [List.dropWhile_cons] at h;by_cases ha:p a=true
  ·rw [if_pos ha] at h;exact zr p t x r h
  ·rw [if_neg ha] at h;obtain ⟨rfl,_⟩:=List.cons.inj h;simpa using ha
theorem CS (p:UInt8->Bool):∀ (l:List UInt8) (c:UInt8),c∈l.dropWhile p->c∈l
 | [],c,h=>by simp at h
 | a :: t,c,h=>by
  rw [List.dropWhile_cons] at h;by_cases ha:p a=true
  ·rw [if_pos ha] at h;exact List.mem_cons_of_mem _ (CS p t c h)
  ·rw [if_neg ha] at h;exact h
theorem sM (l cs:List UInt8):Lib.trimS l cs=[]↔∀ c∈l,cs.contains c=true:=by
 unfold Lib.trimS Lib.trimLeftS Lib.trimRightS;rw [xO];constructor
 ·intro h;cases he:l.reverse.dropWhile (fun x=>cs.contains x) with
  | nil =>
   rw [xO] at he;exact fun c hc=>he c (by simpa using hc)
  | cons x r =>
   exfalso
   have d:=zr _ _ _ _ he;have a:=h x (by rw [he];simp);simp only [d] at a;exact absurd a Z
 ·intro h c hc;rw [List.mem_reverse] at hc;exact h c (by simpa using CS _ _ _ hc)
theorem xu (hd:∀ c∈l,nE c=true) (h:bj l=0):∀ c∈l,([48]:List UInt8).contains c=true:=by
 induction l with
 | nil=>intro c hc;simp at hc
 | cons a r ih =>
  have e:=mf [a] r;simp only [List.singleton_append] at e;rw [h] at e;have d:bj [a]*10^r.length=0:=O
  have f:bj r=0:=O
  have g:bj [a]=0:=by
   rcases Nat.mul_eq_zero.1 d with h | h
   ·exact h
   ·have:=Nat.pow_pos (n:=r.length) (show 0<10 by decide);omega
  have i:=(xW hd a Z).1;intro c hc;rcases List.mem_cons.1 hc with rfl | hc
  ·rw [j6,<- UInt8.toNat_inj];simp [bj] at g;show c.toNat=48
   omega
  ·exact ih (fun c hc=>hd c (by simp [hc])) f c hc
theorem uy (h:∀ c∈l,([48]:List UInt8).contains c=true):bj l=0:=by
 induction l with
 | nil=>rfl
 | cons a r ih =>
  have e:=mf [a] r;simp only [List.singleton_append] at e;have d:=(j6 a).1 (h a Z);rw [e,ih (fun c hc=>h c (by simp [hc])),d];have:bj [(48:UInt8)]=0:=zD
  rw [this];simp
theorem jg {s:ByteArray} (h:cC s.data.toList=true):0<s.size:=by
 rw [Lib.size_eq];unfold cC at h;cases hl:s.data.toList with
 | nil=>rw [hl] at h;simp at h
 | cons a r=>simp
theorem kO (h:Below w.heap.size w w'):w.grownBy w' none:=by
 obtain ⟨a,b,c,d,e⟩:=h;exact ⟨a,b,c,d,fun k f _=>e k f⟩
theorem uR (h:l=[]):(⟨l.toArray⟩:ByteArray)=⟨#[]⟩:=by rw [h]
theorem qm (h:l≠[]):(⟨l.toArray⟩:ByteArray).toList.isEmpty=false:=by
 rw [Lib.toList_data];cases l with
 | nil=>exact absurd rfl h
 | cons a r=>rfl
theorem aU (s:ByteArray) (w:World) (u:s.size<=9223372036854775807) :
  Calls Tryz.prog 52 #[.string s] w fun e w'=>e=.returned (.bool (cC s.data.toList))/\w.grownBy w' none:=by
 by_cases n:s.data.toList=[]
 ·have v:s=⟨#[]⟩:=by
   rw [<- Lib.mk_data s,n]
  subst v;go_enter Tryz.func52,Tryz.ntmps52
  go_wp2;go_ret;exact ⟨rfl,ag _ _⟩
 ·have t:s.toList.isEmpty=false:=by
   rw [Lib.toList_data];cases h:s.data.toList with
   | nil=>exact absurd h n
   | cons a r=>rfl
  have d:=Any.strings_Trim_laid Tryz.lays160 zK s ⟨#[48,49,50,51,52,53,54,55,56,57]⟩ w u zD (ascii_of_all zD);change Calls Tryz.prog 53 _ _ (fun e w'=>e=.returned (.string ⟨(Lib.trimS s.data.toList [48,49,50,51,52,53,54,55,56,57]).toArray⟩)/\Below w.heap.size w w') at d
  have hn:=sM s.data.toList [48,49,50,51,52,53,54,55,56,57];have f:cC s.data.toList=s.data.toList.all nE:=by
   unfold cC;cases h:s.data.toList with
   | nil=>exact absurd h n
   | cons a r=>rfl
  by_cases ha:s.data.toList.all nE=true
  ·have m:=uR (hn.2 (fun c hc=>by rw [j5];exact List.all_eq_true.1 ha c hc));rw [m] at d;rw [f,ha];have g:=aa d;clear d hn m ha f;go_enter Tryz.func52,Tryz.ntmps52
   go_wp2_with fail;refine g.mono ?_;rintro e w1 ⟨rfl,j⟩;have q:=aa (kO j);clear j;go_wp2;go_ret;exact ⟨rfl,q⟩
  ·have i:s.data.toList.all nE=false:=by simpa using ha
   have m:=qm (fun e=>ha (List.all_eq_true.2 (fun c hc=>by rw [<- j5];exact hn.1 e c hc)));rw [f,i];generalize (⟨(Lib.trimS s.data.toList [48,49,50,51,52,53,54,55,56,57]).toArray⟩:ByteArray)=r at d m;have g:=aa d;clear d hn ha f i;go_enter Tryz.func52,Tryz.ntmps52
   go_wp2_with fail;refine g.mono ?_;rintro e w1 ⟨rfl,j⟩;have q:=aa (kO j);clear j;go_wp2;go_ret;exact ⟨rfl,q⟩
theorem oK (s:ByteArray) (w:World) (d:s.size<=9223372036854775807) :
  Calls Tryz.prog 53 #[.string s,.string ⟨#[48]⟩] w fun e w'=>∃ r:ByteArray,e=.returned (.string r)/\(((∀ c∈s.data.toList,([48]:List UInt8).contains c=true)->r=⟨#[]⟩)/\((¬ ∀ c∈s.data.toList,([48]:List UInt8).contains c=true)->r.toList.isEmpty=false))/\w.grownBy w' none:=by
 have a:=Any.strings_Trim_laid Tryz.lays160 zK s ⟨#[48]⟩ w d zD (ascii_of_all zD);change Calls Tryz.prog 53 _ _ (fun e w'=>e=.returned (.string ⟨(Lib.trimS s.data.toList [48]).toArray⟩)/\Below w.heap.size w w') at a
 have hn:=sM s.data.toList [48];refine a.mono ?_;rintro e w1 ⟨rfl,f⟩;exact ⟨_,rfl,⟨fun h=>uR (hn.2 h),fun h=>qm (fun e=>h (hn.1 e))⟩,kO f⟩
def SplitE (w:World) (t:ByteArray) (e:Ending) (w':World):Prop :=
 w.grownBy w' none/\∃ A:ByteArray,A.data.toList=(Lib.cut t.data.toList [47]).1/\w'.cell? ⟨w.heap.size,0,none⟩=some (.string A) /\
  (((Lib.cut t.data.toList [47]).2.2=false/\∃ cap,1<=cap/\cap<=2/\e=.returned (.slice (some ⟨w.heap.size,0,none⟩) 1 cap)) ∨
   ((Lib.cut t.data.toList [47]).2.2=true/\∃ B:ByteArray,B.data.toList=(Lib.cut t.data.toList [47]).2.1/\w'.cell? ⟨w.heap.size,1,none⟩=some (.string B)/\e=.returned (.slice (some ⟨w.heap.size,0,none⟩) 2 2)))
theorem yW (t:ByteArray) (i:Nat) (h:i<=t.size):(t.extract 0 i).data.toList=t.data.toList.take i:=by
 rw [ByteArray.data_extract,Array.toList_extract];simp
theorem wR (t:ByteArray) (m:Int) (w:World) (g:t.size<=4200000000) (f:w.cell? ⟨2,0,none⟩=some (.int .i64 m)) :
  Calls Tryz.prog 51 #[.string t,.string ⟨#[47]⟩,.int .i64 2] w fun e w'=>SplitE w t e w':=by
 refine (Tryz.strings_SplitN t ⟨#[47]⟩ 2 m w O f zD zD zD).mono ?_;rintro e w1 ⟨rfl,rfl⟩;refine ⟨ae (ag _ _) _,?_⟩;rcases Lib.indexB_cases t ⟨#[47]⟩ with hi | ⟨i,hi,d⟩
 ·rw [Lib.splitB_miss _ _ _ _ hi];have hc:Lib.cut t.data.toList [47]=(t.data.toList,[],false):=by
   unfold Lib.cut;have:Lib.index t.data.toList [47] = -1:=hi;rw [this,if_neg zD]
  rw [hc];refine ⟨t,rfl,?_,.inl ⟨rfl,min 2 (t.size+1),O,O,rfl⟩⟩;rw [World.cell?_alloc_at _ _ _ _ rfl];simp [Lib.cellsOf]
 ·have a:(⟨#[47]⟩:ByteArray).size=1:=rfl;rw [a] at d;have c:min 2 (t.size+1)=2:=O
  rw [c];rw [show (2-1:Nat)=0+1 from rfl,Lib.splitB_hit _ _ _ _ i hi,Lib.splitB_zero,a,Nat.add_zero];have hc:Lib.cut t.data.toList [47]=(t.data.toList.take i,t.data.toList.drop (i+1),true):=by
   unfold Lib.cut;have:Lib.index t.data.toList [47]=(i:Int):=hi;rw [this,if_pos O];simp
  rw [hc];refine ⟨t.extract 0 i,yW t i O,?_,.inr ⟨rfl,t.extract (i+1) t.size,(ly t (i+1) O).1,?_,rfl⟩⟩
  ·rw [World.cell?_alloc_at _ _ _ _ rfl];simp [Lib.cellsOf]
  ·rw [World.cell?_alloc_at _ _ _ _ rfl];simp [Lib.cellsOf]
theorem yD {s:ByteArray} (h:Lib.hasPrefix s.data.toList [45]=true):1<=s.size/\Lib.trimPrefix s.data.toList [45]=(s.extract 1 s.size).data.toList:=by
 have c:1<=s.size:=by
  rw [Lib.size_eq];unfold Lib.hasPrefix at h;cases hl:s.data.toList with
  | nil=>rw [hl] at h;simp at h
  | cons a r=>simp
 refine ⟨c,?_⟩;unfold Lib.trimPrefix;rw [if_pos h,(ly s 1 c).1];rfl
theorem wP {s:List UInt8} {a:Bool} {T A:List UInt8} (c:Lib.hasPrefix s [45]=a) (d:Lib.trimPrefix s [45]=T) (f:A=(Lib.cut T [47]).1) (g:(Lib.cut T [47]).2.2=false):hJ s=if cC A then bg a (bj A) 1 else (false,0,1):=by
 have e:fM T=[49]:=by unfold fM;rw [g];rfl
 unfold hJ;rw [c,d,e,f];have h:cC [49]=true:=zD
 have i:bj [49]=1:=zD
 rw [h,i,Bool.and_true]
theorem wQ {s:List UInt8} {a:Bool} {T A B:List UInt8} (c:Lib.hasPrefix s [45]=a) (d:Lib.trimPrefix s [45]=T) (f:A=(Lib.cut T [47]).1) (g:B=(Lib.cut T [47]).2.1) (h:(Lib.cut T [47]).2.2=true):hJ s=if cC A && cC B then bg a (bj A) (bj B) else (false,0,1):=by
 have e:fM T=B:=by unfold fM;rw [h,g];rfl
 unfold hJ;rw [c,d,e,f]
theorem iV (w:World):gL (w.alloc (.cells #[.bool false,.slice none 0 0,.bool false,.slice none 0 0] 103)) w.heap.size 0 false (.slice none 0 0)/\gL (w.alloc (.cells #[.bool false,.slice none 0 0,.bool false,.slice none 0 0] 103)) w.heap.size 2 false (.slice none 0 0) :=
 ⟨⟨Z,Z,Z,Z⟩,⟨Z,Z,Z,Z⟩⟩
def AG (w:World) (l:List UInt8) (L:Nat) (e:Ending) (w':World):Prop :=
 ∃ b,e=.returned (.pointer (some ⟨b,0,none⟩))/\w.grownBy w' none/\w.heap.size<=b/\ay w' b 0 (sg (hJ l).1 (hJ l).2.1) L /\
  (bK w' b (sg (hJ l).1 (hJ l).2.1) (hJ l).2.2 L∨(hJ l=(false,0,1)/\ay w' b 2 0 L))
theorem gH (h:hJ l=(false,0,1)) (hg:w.grownBy w1 none) :
  AG w l L (.returned (.pointer (some ⟨w1.heap.size,0,none⟩))) (w1.alloc (.cells #[.bool false,.slice none 0 0,.bool false,.slice none 0 0] 103)):=by
 have a:∀ off,gL (w1.alloc (.cells #[.bool false,.slice none 0 0,.bool false,.slice none 0 0] 103)) w1.heap.size off false (.slice none 0 0)->ay (w1.alloc (.cells #[.bool false,.slice none 0 0,.bool false,.slice none 0 0] 103)) w1.heap.size off 0 L:=by
  intro off c;exact ⟨false,.slice none 0 0,c,(Ad _).mono (Nat.zero_le _),Z,by simp [au]⟩
 refine ⟨_,rfl,ae hg _,hg.size,?_,.inr ⟨h,a 2 (iV w1).2⟩⟩;rw [h];exact a 0 (iV w1).1
theorem Aa (n d:Nat) (hd:0<d) (a:Bool):sg (bg a n d).1 (bg a n d).2.1=(if a then-fF (n:Int) d else fF (n:Int) d)/\(bg a n d).2.2=fA (n:Int) d:=by
 unfold bg fF fA;rw [Int.natAbs_natCast];by_cases hn:n=0
 ·subst hn;rw [if_pos (.inl rfl)];simp [sg,Nat.div_self hd]
 ·rw [if_neg O];cases a<;>simp [sg]
theorem Ao {c:World} {n d a:Nat} (h:hJ l=bg false n d) (hd:0<d) (e:bK c a (fF (n:Int) d) (fA (n:Int) d) L) (hg:w.grownBy c none) (hn:w.heap.size<=a) (f:L<=L') :
  AG w l L' (.returned (.pointer (some ⟨a,0,none⟩))) c:=by
 obtain ⟨j,m⟩:=Aa n d hd false;have g:sg (hJ l).1 (hJ l).2.1=fF (n:Int) d:=by rw [h];simpa using j
 have i:(hJ l).2.2=fA (n:Int) d:=by rw [h];exact m
 refine ⟨a,rfl,hg,hn,?_,.inl ?_⟩
 ·rw [g];exact e.1.mono f
 ·rw [g,i];exact e.mono f
theorem An {c:World} {n d a:Nat} (h:hJ l=bg true n d) (hd:0<d) (e:bK c a (- fF (n:Int) d) (fA (n:Int) d) L) (hg:w.grownBy c none) (hn:w.heap.size<=a) (f:L<=L') :
  AG w l L' (.returned (.pointer (some ⟨a,0,none⟩))) c:=by
 obtain ⟨j,m⟩:=Aa n d hd true;have g:sg (hJ l).1 (hJ l).2.1 = - fF (n:Int) d:=by rw [h];simpa using j
 have i:(hJ l).2.2=fA (n:Int) d:=by rw [h];exact m
 refine ⟨a,rfl,hg,hn,?_,.inl ?_⟩
 ·rw [g];exact e.1.mono f
 ·rw [g,i];exact e.mono f
theorem wG (s:ByteArray) (m:Int) (w:World) (hs:s.size<=3000000000) (Q:w.cell? ⟨2,0,none⟩=some (.int .i64 m)) (i:Lib.hasPrefix s.data.toList [45]=false) :
  Calls Tryz.prog 27 #[.string s] w fun e w'=>AG w s.data.toList (3*s.size+8) e w':=by
 have he:=aa Q;have j:=aa i;have HT:Hid (Lib.trimPrefix s.data.toList [45]=s.data.toList):=by
  show _=_
  unfold Lib.trimPrefix;rw [if_neg (by rw [i];simp)]
 clear Q i;go_enter Tryz.func27,Tryz.ntmps27
 go_wp2_with fail;refine (Tryz.strings_HasPrefix s ⟨#[45]⟩ _).mono ?_;rintro e w0 ⟨rfl,rfl⟩;rw [show Lib.hasPrefix s.data.toList (⟨#[45]⟩:ByteArray).data.toList=false from j.out];go_wp2_with fail;refine (wR s m w0 O he).mono ?_;intro e w1 I;obtain ⟨g1,A,J,q0,hw⟩:=I;have ho:A.size<=s.size:=by
  have:=(kJ (s).data.toList [47]).1;rw [<- J,<- Lib.size_eq,<- Lib.size_eq] at this;omega
 have N:=aa g1;have R:=aa J;clear g1 J;generalize w0.heap.size=h at *;have hp:s.size<=s.size:=zL;have hq:w0.heap.size<=w1.heap.size:=N.out.size;rcases hw with ⟨c,cap,hx,hy,rfl⟩ | ⟨c,B,K,q1,rfl⟩
 ·have f:Hid (hJ s.data.toList=if cC A.data.toList then bg false (bj A.data.toList) 1 else (false,0,1)):=wP j HT R c;clear c;by_cases ha:cC A.data.toList=true
  ·have g:=aa ha;rw [ha,if_pos rfl] at f;clear ha;go_wp2_with fail;refine (aU A _ O).mono ?_;rintro e v ⟨rfl,a⟩;rw [g];have q0:=a.cell q0 Z;have u:=aa (ab N a);clear a;have hf:h<v.heap.size:=eZ q0;go_wp2_with fail;refine (dV v.heap.size 0 false (.slice none 0 0) A _ (fP v) (jg g) O (dw g)).mono ?_;intro e w3 I;obtain ⟨rfl,C,D,_⟩:=I;have x:v.grownBy w3 none:=cD (ae (ag _ _) _) C zL;have q0:=x.cell q0 Z;have G3:=aa (ab u x);have N3:=aa D;generalize v.heap.size=na at *;clear C D x;go_wp2_with fail;refine (dS 1 _ O O).mono ?_;rintro e w4 ⟨rfl,g4,p4,_⟩;have E:=aa (ab G3 g4);have N4:=aa (N3.keep0 g4);have D4:=aa p4;have q0:=g4.cell q0 Z;generalize w3.heap.size=nb at *;clear g4 p4;go_wp2_with fail;refine (dj w4.heap.size na 0 nb 0 false false (.slice none 0 0) (.slice none 0 0) (bj A.data.toList:Nat) 1 (3*s.size+4) _ (iV w4).1 (iV w4).2 ((N4.mono O).keep0 (ae (ag _ _) _)) ((D4.mono O).keep0 (ae (ag _ _) _)) O O).mono ?_;rintro e w5 ⟨rfl,V,W⟩;have G5:=aa (aj (ae E _) V.gr (fun _ _ e=>e) (fun k hk e=>by cases e;have:=E.out.size;omega));have R5:=aa W;have n:w0.heap.size<=w4.heap.size:=E.out.size;generalize w4.heap.size=nz at *;clear V W;go_wp2
   go_ret;exact Ao f O R5 G5 n O
  ·have d:cC A.data.toList=false:=by simpa using ha
   have g:=aa d;rw [d] at f;clear ha d;go_wp2_with fail;refine (aU A _ O).mono ?_;rintro e v ⟨rfl,a⟩;rw [g];have u:=aa (ab N a);clear a;go_wp2;go_ret;exact gH f u
 ·have f:Hid (hJ s.data.toList=if cC A.data.toList && cC B.data.toList then bg false (bj A.data.toList) (bj B.data.toList) else (false,0,1)):=wQ j HT R K c;have hu:B.size<=s.size:=by
   have:=(kJ s.data.toList [47]).2;rw [<- K,<- Lib.size_eq,<- Lib.size_eq] at this;omega
  clear c K;by_cases ha:cC A.data.toList=true
  ·have g:=aa ha;rw [ha,Bool.true_and] at f;clear ha;by_cases hb:cC B.data.toList=true
   ·have P:=aa hb;rw [hb,if_pos rfl] at f;clear hb;go_wp2_with fail;refine (aU A _ O).mono ?_;rintro e v ⟨rfl,a⟩;rw [g];have q0:=a.cell q0 Z;have q1:=a.cell q1 Z;have u:=aa (ab N a);clear a;go_wp2_with fail;refine (aU B _ O).mono ?_;rintro e hm ⟨rfl,a⟩;rw [P];have q0:=a.cell q0 Z;have q1:=a.cell q1 Z;have G:=aa (ab u a);clear a;go_wp2_with fail;refine (oK B _ O).mono ?_;rintro e q ⟨r,rfl,hr,a⟩;have q0:=a.cell q0 Z;have q1:=a.cell q1 Z;have S:=aa (ab G a);clear a;by_cases T:bj B.data.toList=0
    ·obtain rfl:=hr.1 (xu (dw P) T);rw [T] at f;clear hr T;go_wp2;go_ret;refine gH ?_ S;rw [f];unfold bg;rw [if_pos (.inr rfl)]
    ·have hv:=hr.2 (fun h=>T (uy h));have U:0<bj B.data.toList:=O
     clear hr T;have X:h<q.heap.size:=eZ q0;go_wp2_with fail;refine (dV q.heap.size 0 false (.slice none 0 0) A _ (fP q) (jg g) O (dw g)).mono ?_;intro e w3 I;obtain ⟨rfl,C,D,_⟩:=I;have x:q.grownBy w3 none:=cD (ae (ag _ _) _) C zL;have q0:=x.cell q0 Z;have q1:=x.cell q1 Z;have G3:=aa (ab S x);have N3:=aa D;generalize q.heap.size=na at *;clear C D x;go_wp2_with fail;refine (dS 1 _ O O).mono ?_;rintro e t ⟨rfl,g4,_,_⟩;have hj:=aa (ab G3 g4);have hl:=aa (N3.keep0 g4);have q0:=g4.cell q0 Z;have q1:=g4.cell q1 Z;clear g4;have Y:h<t.heap.size:=eZ q0;go_wp2_with fail;refine (dV t.heap.size 0 false (.slice none 0 0) B _ (fP t) (jg P) O (dw P)).mono ?_;intro e w4 I;obtain ⟨rfl,C,D,_⟩:=I;have g4:t.grownBy w4 none:=cD (ae (ag _ _) _) C zL;have q0:=g4.cell q0 Z;have q1:=g4.cell q1 Z;have E:=aa (ab hj g4);have N4:=aa (hl.keep0 g4);have D4:=aa D;generalize t.heap.size=nb at *;clear C D g4;go_wp2_with fail;refine (dj w4.heap.size na 0 nb 0 false false (.slice none 0 0) (.slice none 0 0) (bj A.data.toList:Nat) (bj B.data.toList) (3*s.size+4) _ (iV w4).1 (iV w4).2 ((N4.mono O).keep0 (ae (ag _ _) _)) ((D4.mono O).keep0 (ae (ag _ _) _)) U O).mono ?_
     rintro e w5 ⟨rfl,V,W⟩;have G5:=aa (aj (ae E _) V.gr (fun _ _ e=>e) (fun k hk e=>by cases e;have:=E.out.size;omega));have R5:=aa W;have n:w0.heap.size<=w4.heap.size:=E.out.size;generalize w4.heap.size=nz at *;clear V W;go_wp2;go_ret;exact Ao f U R5 G5 n O
   ·have H:cC B.data.toList=false:=by simpa using hb
    have P:=aa H;rw [H] at f;clear hb H;go_wp2_with fail;refine (aU A _ O).mono ?_;rintro e v ⟨rfl,a⟩;rw [g];have q0:=a.cell q0 Z;have q1:=a.cell q1 Z;have u:=aa (ab N a);clear a;go_wp2_with fail;refine (aU B _ O).mono ?_;rintro e hm ⟨rfl,a⟩;rw [P];have G:=aa (ab u a);clear a;go_wp2;go_ret;exact gH f G
  ·have d:cC A.data.toList=false:=by simpa using ha
   have g:=aa d;rw [d,Bool.false_and] at f;clear ha d;go_wp2_with fail;refine (aU A _ O).mono ?_;rintro e v ⟨rfl,a⟩;rw [g];have u:=aa (ab N a);clear a;go_wp2;go_ret;exact gH f u
theorem yL (s:ByteArray) (m:Int) (w:World) (hs:s.size<=3000000000) (Q:w.cell? ⟨2,0,none⟩=some (.int .i64 m)) (i:Lib.hasPrefix s.data.toList [45]=true) :
  Calls Tryz.prog 27 #[.string s] w fun e w'=>AG w s.data.toList (3*s.size+8) e w':=by
 have hj:=aa Q;have j:=aa i;obtain ⟨hp,W⟩:=yD i;have R:Hid (Lib.trimPrefix s.data.toList [45]=(s.extract 1 s.size).data.toList):=W;have hu:=(ly s 1 hp).2;clear W;clear Q i;go_enter Tryz.func27,Tryz.ntmps27
 go_wp2_with fail;refine (Tryz.strings_HasPrefix s ⟨#[45]⟩ _).mono ?_;rintro e w0 ⟨rfl,rfl⟩;rw [show Lib.hasPrefix s.data.toList (⟨#[45]⟩:ByteArray).data.toList=true from j.out];go_wp2_with fail;refine (wR (s.extract 1 s.size) m w0 O hj).mono ?_;intro e w1 I;obtain ⟨g1,A,J,q0,hw⟩:=I;have hv:A.size<=s.size:=by
  have:=(kJ ((s.extract 1 s.size)).data.toList [47]).1;rw [<- J,<- Lib.size_eq,<- Lib.size_eq] at this;omega
 have N:=aa g1;have S:=aa J;clear g1 J;generalize w0.heap.size=h at *;have hx:w0.heap.size<=w1.heap.size:=N.out.size;rcases hw with ⟨c,cap,hB,hC,rfl⟩ | ⟨c,B,K,q1,rfl⟩
 ·have f:Hid (hJ s.data.toList=if cC A.data.toList then bg true (bj A.data.toList) 1 else (false,0,1)):=wP j R S c;clear c;by_cases ha:cC A.data.toList=true
  ·have g:=aa ha;rw [ha,if_pos rfl] at f;clear ha;go_wp2_with fail;refine (aU A _ O).mono ?_;rintro e v ⟨rfl,a⟩;rw [g];have q0:=a.cell q0 Z;have u:=aa (ab N a);clear a;have hl:h<v.heap.size:=eZ q0;go_wp2_with fail;refine (dV v.heap.size 0 false (.slice none 0 0) A _ (fP v) (jg g) O (dw g)).mono ?_;intro e w3 I;obtain ⟨rfl,C,D,_⟩:=I;have x:v.grownBy w3 none:=cD (ae (ag _ _) _) C zL;have q0:=x.cell q0 Z;have G3:=aa (ab u x);have N3:=aa D;generalize v.heap.size=na at *;clear C D x;go_wp2_with fail;refine (dS 1 _ O O).mono ?_;rintro e w4 ⟨rfl,g4,p4,_⟩;have E:=aa (ab G3 g4);have N4:=aa (N3.keep0 g4);have D4:=aa p4;have q0:=g4.cell q0 Z;generalize w3.heap.size=nb at *;clear g4 p4;go_wp2_with fail;refine (dj w4.heap.size na 0 nb 0 false false (.slice none 0 0) (.slice none 0 0) (bj A.data.toList:Nat) 1 (3*s.size+4) _ (iV w4).1 (iV w4).2 ((N4.mono O).keep0 (ae (ag _ _) _)) ((D4.mono O).keep0 (ae (ag _ _) _)) O O).mono ?_;rintro e w5 ⟨rfl,X,Y⟩;have G5:=aa (aj (ae E _) X.gr (fun _ _ e=>e) (fun k hk e=>by cases e;have:=E.out.size;omega));have R5:=aa Y;have n:w0.heap.size<=w4.heap.size:=E.out.size;generalize w4.heap.size=nz at *;clear X Y;go_wp2_with fail
   refine (oE nz _ _ _ w5 R5 O).mono ?_;rintro e w6 ⟨rfl,r6,t6⟩;have G6:=aa (aj G5 r6.gr (fun _ _ e=>e) (fun k hk e=>by cases e;omega));have R6:=aa t6;clear r6 t6;go_wp2;go_ret;exact An f O R6 G6 n O
  ·have d:cC A.data.toList=false:=by simpa using ha
   have g:=aa d;rw [d] at f;clear ha d;go_wp2_with fail;refine (aU A _ O).mono ?_;rintro e v ⟨rfl,a⟩;rw [g];have u:=aa (ab N a);clear a;go_wp2;go_ret;exact gH f u
 ·have f:Hid (hJ s.data.toList=if cC A.data.toList && cC B.data.toList then bg true (bj A.data.toList) (bj B.data.toList) else (false,0,1)):=wQ j R S K c;have hy:B.size<=s.size:=by
   have:=(kJ (s.extract 1 s.size).data.toList [47]).2;rw [<- K,<- Lib.size_eq,<- Lib.size_eq] at this;omega
  clear c K;by_cases ha:cC A.data.toList=true
  ·have g:=aa ha;rw [ha,Bool.true_and] at f;clear ha;by_cases hb:cC B.data.toList=true
   ·have P:=aa hb;rw [hb,if_pos rfl] at f;clear hb;go_wp2_with fail;refine (aU A _ O).mono ?_;rintro e v ⟨rfl,a⟩;rw [g];have q0:=a.cell q0 Z;have q1:=a.cell q1 Z;have u:=aa (ab N a);clear a;go_wp2_with fail;refine (aU B _ O).mono ?_;rintro e hq ⟨rfl,a⟩;rw [P];have q0:=a.cell q0 Z;have q1:=a.cell q1 Z;have G:=aa (ab u a);clear a;go_wp2_with fail;refine (oK B _ O).mono ?_;rintro e q ⟨r,rfl,hr,a⟩;have q0:=a.cell q0 Z;have q1:=a.cell q1 Z;have T:=aa (ab G a);clear a;by_cases U:bj B.data.toList=0
    ·obtain rfl:=hr.1 (xu (dw P) U);rw [U] at f;clear hr U;go_wp2;go_ret;refine gH ?_ T;rw [f];unfold bg;rw [if_pos (.inr rfl)]
    ·have hA:=hr.2 (fun h=>U (uy h));have V:0<bj B.data.toList:=O
     clear hr U;have he:h<q.heap.size:=eZ q0;go_wp2_with fail;refine (dV q.heap.size 0 false (.slice none 0 0) A _ (fP q) (jg g) O (dw g)).mono ?_;intro e w3 I;obtain ⟨rfl,C,D,_⟩:=I;have x:q.grownBy w3 none:=cD (ae (ag _ _) _) C zL;have q0:=x.cell q0 Z;have q1:=x.cell q1 Z;have G3:=aa (ab T x);have N3:=aa D;generalize q.heap.size=na at *;clear C D x;go_wp2_with fail;refine (dS 1 _ O O).mono ?_;rintro e t ⟨rfl,g4,_,_⟩;have hm:=aa (ab G3 g4);have ho:=aa (N3.keep0 g4);have q0:=g4.cell q0 Z;have q1:=g4.cell q1 Z;clear g4;have hf:h<t.heap.size:=eZ q0;go_wp2_with fail;refine (dV t.heap.size 0 false (.slice none 0 0) B _ (fP t) (jg P) O (dw P)).mono ?_;intro e w4 I;obtain ⟨rfl,C,D,_⟩:=I;have g4:t.grownBy w4 none:=cD (ae (ag _ _) _) C zL;have q0:=g4.cell q0 Z;have q1:=g4.cell q1 Z;have E:=aa (ab hm g4);have N4:=aa (ho.keep0 g4);have D4:=aa D;generalize t.heap.size=nb at *;clear C D g4;go_wp2_with fail;refine (dj w4.heap.size na 0 nb 0 false false (.slice none 0 0) (.slice none 0 0) (bj A.data.toList:Nat) (bj B.data.toList) (3*s.size+4) _ (iV w4).1 (iV w4).2 ((N4.mono O).keep0 (ae (ag _ _) _)) ((D4.mono O).keep0 (ae (ag _ _) _)) V O).mono ?_
     rintro e w5 ⟨rfl,X,Y⟩;have G5:=aa (aj (ae E _) X.gr (fun _ _ e=>e) (fun k hk e=>by cases e;have:=E.out.size;omega));have R5:=aa Y;have n:w0.heap.size<=w4.heap.size:=E.out.size;generalize w4.heap.size=nz at *;clear X Y;go_wp2_with fail;refine (oE nz _ _ _ w5 R5 O).mono ?_;rintro e w6 ⟨rfl,r6,t6⟩;have G6:=aa (aj G5 r6.gr (fun _ _ e=>e) (fun k hk e=>by cases e;omega));have R6:=aa t6;clear r6 t6;go_wp2;go_ret;exact An f V R6 G6 n O
   ·have H:cC B.data.toList=false:=by simpa using hb
    have P:=aa H;rw [H] at f;clear hb H;go_wp2_with fail;refine (aU A _ O).mono ?_;rintro e v ⟨rfl,a⟩;rw [g];have q0:=a.cell q0 Z;have q1:=a.cell q1 Z;have u:=aa (ab N a);clear a;go_wp2_with fail;refine (aU B _ O).mono ?_;rintro e hq ⟨rfl,a⟩;rw [P];have G:=aa (ab u a);clear a;go_wp2;go_ret;exact gH f G
  ·have d:cC A.data.toList=false:=by simpa using ha
   have g:=aa d;rw [d,Bool.false_and] at f;clear ha d;go_wp2_with fail;refine (aU A _ O).mono ?_;rintro e v ⟨rfl,a⟩;rw [g];have u:=aa (ab N a);clear a;go_wp2;go_ret;exact gH f u
theorem wF (s:ByteArray) (m:Int) (w:World) (c:s.size<=3000000000) (a:w.cell? ⟨2,0,none⟩=some (.int .i64 m)) :
  Calls Tryz.prog 27 #[.string s] w fun e w'=>AG w s.data.toList (3*s.size+8) e w':=by
 cases hneg:Lib.hasPrefix s.data.toList [45] with
 | false=>exact wG s m w c a hneg
 | true=>exact yL s m w c a hneg
theorem rOfN_at (s:ByteArray) (m:Int) (w:World) (r:s.size<=1000000000) (c:w.cell? ⟨2,0,none⟩=some (.int .i64 m)) :
  Calls Tryz.prog 27 #[.string s] w fun e w'=>∃ b,e=.returned (.pointer (some ⟨b,0,none⟩))/\w.grownBy w' none/\w.heap.size<=b/\(RQ w' b (dh s.data.toList) (3*s.size+8)∨(dh s.data.toList=0/\pP w' b (3*s.size+8))):=by
 refine (wF s m w O c).mono ?_;rintro e w' ⟨b,rfl,j,n,f,a⟩;refine ⟨b,rfl,j,n,?_⟩;have d:=ofQ_R s.data.toList;have g:sg (hJ s.data.toList).1 (hJ s.data.toList).2.1=(dh s.data.toList).num:=by rw [d];exact fC _
 have h:(hJ s.data.toList).2.2=(dh s.data.toList).den:=by rw [d]
 rw [g] at f a;rw [h] at a;rcases a with a | ⟨a,q⟩
 ·exact .inl a
 ·right
  rw [d] at a;simp only [Prod.mk.injEq] at a;have hn:(dh s.data.toList).num=0:=by
   have:=a.2.1;unfold rN at this;omega
  have i:dh s.data.toList=0:=Rat.num_eq_zero.1 hn;rw [hn] at f;exact ⟨i,f,q⟩
theorem RX.denAt {q:Rat} (h:RX w b q L) (a:World) (g:w.grownBy a none):Calls Tryz.prog 75 #[.pointer (some ⟨b,0,none⟩)] a fun e w'=>∃ p o,e=.returned (.pointer (some ⟨p,o,none⟩))/\a.grownBy w' none/\ay w' p o (q.den:Int) L:=by
 refine (h.2 a [] [] (dK.start g)).mono ?_;rintro e w' ⟨p,o,rfl,c,m⟩;exact ⟨p,o,rfl,c,m.away (List.mem_cons_self ..)⟩
theorem ratSetX (c b:Nat) (i j:Bool) (v1 v2:Value) (q:Rat) (L:Nat) (w:World) (d:gL w c 0 i v1) (f:gL w c 2 j v2) (h:RX w b q L) (n:L<=4000000000000) :
  Calls Tryz.prog 101 #[.pointer (some ⟨c,0,none⟩),.pointer (some ⟨b,0,none⟩)] w fun e w'=>e=.returned (.pointer (some ⟨c,0,none⟩))/\bF w w' c/\bK w' c q.num q.den (L+2):=by
 have H:=aa h;have r:=aa h.denAt;have s:=aa d;have t:=aa f;have a:=aa (vG (show Nat.gcd q.num.natAbs q.den=1 from q.reduced));clear h d f;go_enter Tryz.func101,Tryz.ntmps101
 go_wp2;go_region_with (first | (go_at_call 75;refine (r _ (az _)).mono ?_;rintro e w1 ⟨p,o,rfl,g,u⟩) | (go_at_call 56;refine (dj c b 0 p o i j v1 v2 q.num q.den L _ (s.keep0 (ab (az _) g)) (t.keep0 (ab (az _) g)) (H.1.keep0 (ab (az _) g)) u q.den_pos n).mono ?_;rintro e x ⟨rfl,v,m⟩))
 all_goals go_wp2
 all_goals go_ret
 all_goals rw [a.1,a.2] at m
 all_goals exact ⟨rfl,(bF.of_gr (ab (az _) g)).trans v,m⟩
theorem ratNegX (a b:Nat) (m g:Bool) (v1 v2:Value) (q:Rat) (L:Nat) (w:World) (c:gL w a 0 m v1) (d:gL w a 2 g v2) (h:RX w b q L) (t:L<=4000000000000) :
  Calls Tryz.prog 57 #[.pointer (some ⟨a,0,none⟩),.pointer (some ⟨b,0,none⟩)] w fun e w'=>e=.returned (.pointer (some ⟨a,0,none⟩))/\bF w w' a/\bK w' a (-q.num) q.den (L+2):=by
 have H:=aa h;have u:=aa c;have x:=aa d;clear h c d;go_enter Tryz.func57,Tryz.ntmps57
 go_wp2_with fail;refine (ratSetX a b m g v1 v2 q L w u x H t).mono ?_;rintro e w1 ⟨rfl,r,j⟩;obtain ⟨n3,v3,s,_⟩:=j.1;have C:=aa r;have f:=aa j;have D:=aa s;clear r j s;go_wp2;go_region_with (go_at_call 102;refine (nJ a 0 a 0 n3 v3 q.num (L+2) _ (D.keep0 (az _)) (f.1.keep0 (az _)) O).mono ?_;rintro e I ⟨rfl,c1,c2,c3⟩)
 all_goals go_wp2
 all_goals go_ret
 all_goals refine ⟨rfl,C.trans ((bF.of_gr (az _)).trans (bF.of_put c1)),c2,?_,f.2.2.1,by rw [Int.natAbs_neg];exact f.2.2.2⟩
 all_goals refine (f.2.1.keep0 (az _)).keep c1 (.inr (.inr O)) ?_
 all_goals (intro v i e;obtain ⟨g,v2,E,J,K,G⟩:=f.out.2.1;have n:=E.c1;simp at n i;rw [n] at i;exact G (by rw [zJ i];exact e))
theorem mY (b:Nat) (q:Rat) (L:Nat) (w:World) (h:RX w b q L) (f:L<=4000000000000) :
  Calls Tryz.prog 62 #[.pointer (some ⟨b,0,none⟩)] w fun e w'=>Ci w (-q) (L+2) e w':=by
 have H:=aa h;clear h;go_enter Tryz.func62,Tryz.ntmps62
 go_wp2_with fail;have a:=ae (ag w none) (.cells #[.bool false,.slice none 0 0,.bool false,.slice none 0 0] 103);refine (ratNegX w.heap.size b false false (.slice none 0 0) (.slice none 0 0) _ L _ (eW w).1 (eW w).2 (H.keep0 a) f).mono ?_;rintro e w1 ⟨rfl,c,d⟩;have g:=aa c;have i:=aa d;clear c d a;go_wp2;go_ret;exact ⟨_,rfl,i,lC (ae (ag _ _) _) g zL,zL⟩
theorem DD (b:Nat) (x0 x:Int) (hl:-x0=x) (y L M G:Nat) (hG:G=Nat.gcd x.natAbs y) (w:World) (hm:ay w b 0 x0 L) (ho:ay w b 2 (-(y:Int)) M) (hx:x≠0) (hy:0<y) (hL:L<=4000000000000) (hM:M<=4000000000000) :
  Calls Tryz.prog 100 #[.pointer (some ⟨b,0,none⟩)] w fun e w'=>e=.returned (.pointer (some ⟨b,0,none⟩))/\bF w w' b/\ay w' b 0 (x / (G:Nat)) (L+2)/\ay w' b 2 (y / G:Nat) (M+2):=by
 have hp:=aa hl;have S:=aa hG;clear hl hG;have hq:=aa hm;have hr:=aa ho;obtain ⟨hT,hW,hD,_⟩:=hm;obtain ⟨hX,kl,P,he,hE,hF⟩:=ho;have hI:hX=true:=by rw [hE];exact decide_eq_true O
 subst hI;rw [Int.natAbs_neg,Int.natAbs_natCast] at he;obtain ⟨hY,hH,ka,rfl,kb,_,_,_,_,_⟩:=aF he;have ke:((hH:Int)==0)=false:=zB O;have hK:=P.c0;have hN:=P.c1;have V:=aa P;have W:=aa hD;have hs:=aa hF;clear hD P he hE hF kb;go_enter Tryz.func100,Tryz.ntmps100
 go_wp2;go_region_with (go_at_call 102;refine (nJ b 0 b 0 hT hW x0 L _ (W.keep0 (az _)) (hq.keep0 (az _)) O).mono ?_;rintro e w1 ⟨rfl,c1,c2,c3⟩)
 have C1:=aa ((gh.of_gr (az _) b 0 W.lt).trans c1);have C2:=aa c2;have hu:=aa (hr.keep C1 (.inr (.inr O)) (fun v hv e=>by
  rw [V.c1] at hv;rw [<- zJ hv] at e;exact hs e))
 have X:=aa (V.keep C1 (.inr (.inr O)));clear c1 c2 c3 hK hN;go_wp2;go_region_with (go_at_call 102;refine (nJ b 2 b 2 true (.slice hY hH ka) (-(y:Int)) M _ (X.keep0 (az _)) (hu.keep0 (az _)) O).mono ?_;rintro e w2 ⟨rfl,c1,c2,c3⟩)
 have C3:=aa ((gh.of_gr (az _) b 2 X.lt).trans c1);rw [Int.neg_neg] at c2;have hB:ay w2 b 2 (y:Int) M:=c2;have T:ay w2 b 0 (-x0) L:=C2.out.keep C3 (.inr (.inl O)) (fun v hv e=>by
  obtain ⟨_,v3,q1,_,_,q4⟩:=C2.out;rw [q1.c1] at hv;rw [<- zJ hv] at e;exact q4 e)
 have hA:ay w2 b 0 x L:=by rw [<- hp];exact T
 have R2:Hid (bF w w2 b):=(bF.of_put C1).trans (bF.of_put C3);clear c1 c2 c3 C1 C2 C3 hu X hq hr V W hs hp T;have HA:=aa hA;have HB:=aa hB;obtain ⟨na,va,a1,a2,a3,a4⟩:=hA;obtain ⟨nb,vb,b1,b2,b3,b4⟩:=hB;rw [Int.natAbs_natCast] at b2;have hQ:nb=false:=by rw [b3];simp
 subst hQ;have c0:=a1.c0;have c1:=a1.c1;have d0:=b1.c0;have d1:=b1.c1;obtain ⟨ao,la,ca,rfl,z1,z2,z3,z4,z5,z6⟩:=aF a2;obtain ⟨bo,U,cb,rfl,y1,y2,y3,y4,y5,y6⟩:=aF b2;have kg:((la:Int)==0)=false:=zB O;have kk:((U:Int)==0)=false:=zB O;have A1:=aa a1;have A2:=aa a2;have A3:=aa a3;have A4:=aa a4;have B1:=aa b1;have B2:=aa b2;have B4:=aa b4;clear a1 a2 a3 a4 b1 b2 b3 b4 z1 z5 z6 y1;by_cases hR:y=1
 ·subst hR;have hw:((U:Int)==1)=true:=beq_iff_eq.2 (by have:=y6 rfl;omega);obtain ⟨i,c,rfl,kc⟩:=y5 (y6 rfl);have hz:=y6 rfl;clear y5 y6;skip;go_wp2;go_ret;refine ⟨rfl,R2.trans (bF.of_gr (ag _ _)),?_,?_⟩
  ·rw [show G=1 from S.out.trans (Nat.gcd_one_right _)];simpa using HA.out.mono O
  ·rw [show G=1 from S.out.trans (Nat.gcd_one_right _)];simpa using HB.out.mono O
 ·have hC:Hid (0<x.natAbs):=by show 0<x.natAbs;omega
  have hS:((U:Int)==1)=false∨(((U:Int)==1)=true/\∃ i c,bo=some ⟨i,c,none⟩/\w2.cell? ⟨i,c,none⟩=some (.int .u32 (y:Nat))/\(((y:Nat):Int)==1)=false/\1<=U):=by
   by_cases h:U=1
   ·obtain ⟨i,c,e1,e2⟩:=y5 h;exact .inr ⟨beq_iff_eq.2 O,i,c,e1,e2,zB O,O⟩
   ·exact .inl (zB O)
  clear y5 y6;rcases hS with hw | ⟨hw,i,c,rfl,kc,kf,hz⟩
  ·skip;skip;go_wp2;go_region_held3 (fun w'=>w'.cell? ⟨b,1,none⟩=some (.slice ao la ca)/\w'.cell? ⟨b,3,none⟩=some (.slice bo U cb)) (go_keep)
    (first | (go_at_call 145;refine (jE _ _ _ _ L M _ (A2.keep0 (az _)) (B2.keep0 (az _)) hC O O).mono ?_;rintro e H ⟨g,rfl,k1,Q⟩;have q1:=(A1.keep0 (ab (az _) Q)).c1;have q3:=(B1.keep0 (ab (az _) Q)).c1))
   have m:=ab (az _) Q;rw [<- S] at k1;have s:0<G:=by rw [S];exact Nat.gcd_pos_of_pos_right _ hy
   obtain ⟨go,n,cg,rfl,m1,m2,m3,m4,R,m6⟩:=aF k1;have e1:=A1.out.keep0 m;have e2:=B1.out.keep0 m;have f1:=e1.f1;have f3:=e2.f1;have E1:=aa e1;have E2:=aa e2;have K1:=aa k1;have J:=aa m;have N1:=aa (A2.keep0 m);have N2:=aa (B2.keep0 m);clear k1 Q m e1 e2 c0 c1 d0 d1;by_cases f:G=1
   ·have t:=m6 f;have u:((n:Int)==1)=true:=beq_iff_eq.2 O;obtain ⟨r,a,rfl,hf⟩:=R t;have Y:(((G:Nat):Int)==1)=true:=beq_iff_eq.2 O;have C:=aa f;have D:1<=n:=O
    clear m1 R m6 t f;go_wp2;go_ret;refine ⟨rfl,R2.trans (bF.of_gr J),?_,?_⟩
    ·rw [C];simpa using (HA.keep0 J).mono O
    ·rw [C];simpa using (HB.keep0 J).mono O
   ·have E:((n:Int)==1)=false∨(((n:Int)==1)=true/\∃ r a,go=some ⟨r,a,none⟩/\H.cell? ⟨r,a,none⟩=some (.int .u32 (G:Nat))/\(((G:Nat):Int)==1)=false/\1<=n):=by
     by_cases h:n=1
     ·obtain ⟨r,a,e1,e2⟩:=R h;exact .inr ⟨beq_iff_eq.2 O,r,a,e1,e2,zB O,O⟩
     ·exact .inl (zB O)
    clear m1 R m6;rcases E with u | ⟨u,r,a,rfl,hf,Y,D⟩
    all_goals
     go_wp2_with fail;refine (fV _ _ _ _ L (max L M+2) _ N1 K1 s O O).mono ?_;rintro e hj ⟨p,r1,rfl,j,p2,d,I,p5⟩;obtain ⟨po,lp,cp,rfl,_,_,_,_,_,_⟩:=aF j;have u1:=E1.out.keep0 d;have u2:=E2.out.keep0 d;have s1:=u1.c1;have s2:=u2.c1;have s3:=u1.f1;have s4:=u2.f1;have P1:=aa j;have P3:=aa d;have P4:=aa I;clear j p2 d I p5 q1 q3 f1 f3;go_wp2_with fail;refine (fV _ _ _ _ M (max L M+2) _ (N2.keep0 P3) (K1.keep0 P3) s O O).mono ?_;rintro e hk ⟨q,r2,rfl,j,p2,d,I,p5⟩;obtain ⟨qo,lq,cq,rfl,_,_,_,_,_,_⟩:=aF j;have K:=u1.keep0 d;have N:=u2.keep0 d;have v1:=K.c1;have v2:=N.c1;have v3:=K.f1;have v4:=N.f1;have Q1:=aa j;have Q3:=aa d;have Q4:=aa I;have T1:=aa K;have T2:=aa N;clear j p2 d I p5 s1 s2 s3 s4 u1 u2 K N;go_wp2;go_ret;have NE:=mU b x y G L M w2 H hj hk na (.slice po lp cp) (.slice qo lq cq) S hx hy A3 J P3 Q3 T1 T2 P1 Q1 P4 Q4 (A1.lt);exact ⟨rfl,R2.trans NE.1,NE.2⟩
  ·skip;skip;go_wp2;go_region_held3 (fun w'=>w'.cell? ⟨b,1,none⟩=some (.slice ao la ca)/\w'.cell? ⟨b,3,none⟩=some (.slice (some ⟨i,c,none⟩) U cb)) (go_keep)
    (first | (go_at_call 145;refine (jE _ _ _ _ L M _ (A2.keep0 (az _)) (B2.keep0 (az _)) hC O O).mono ?_;rintro e H ⟨g,rfl,k1,Q⟩;have q1:=(A1.keep0 (ab (az _) Q)).c1;have q3:=(B1.keep0 (ab (az _) Q)).c1))
   have m:=ab (az _) Q;rw [<- S] at k1;have s:0<G:=by rw [S];exact Nat.gcd_pos_of_pos_right _ hy
   obtain ⟨go,n,cg,rfl,m1,m2,m3,m4,R,m6⟩:=aF k1;have e1:=A1.out.keep0 m;have e2:=B1.out.keep0 m;have f1:=e1.f1;have f3:=e2.f1;have E1:=aa e1;have E2:=aa e2;have K1:=aa k1;have J:=aa m;have N1:=aa (A2.keep0 m);have N2:=aa (B2.keep0 m);clear k1 Q m e1 e2 c0 c1 d0 d1;by_cases f:G=1
   ·have t:=m6 f;have u:((n:Int)==1)=true:=beq_iff_eq.2 O;obtain ⟨r,a,rfl,hf⟩:=R t;have Y:(((G:Nat):Int)==1)=true:=beq_iff_eq.2 O;have C:=aa f;have D:1<=n:=O
    clear m1 R m6 t f;go_wp2;go_ret;refine ⟨rfl,R2.trans (bF.of_gr J),?_,?_⟩
    ·rw [C];simpa using (HA.keep0 J).mono O
    ·rw [C];simpa using (HB.keep0 J).mono O
   ·have E:((n:Int)==1)=false∨(((n:Int)==1)=true/\∃ r a,go=some ⟨r,a,none⟩/\H.cell? ⟨r,a,none⟩=some (.int .u32 (G:Nat))/\(((G:Nat):Int)==1)=false/\1<=n):=by
     by_cases h:n=1
     ·obtain ⟨r,a,e1,e2⟩:=R h;exact .inr ⟨beq_iff_eq.2 O,r,a,e1,e2,zB O,O⟩
     ·exact .inl (zB O)
    clear m1 R m6;rcases E with u | ⟨u,r,a,rfl,hf,Y,D⟩
    all_goals
     go_wp2_with fail;refine (fV _ _ _ _ L (max L M+2) _ N1 K1 s O O).mono ?_;rintro e hj ⟨p,r1,rfl,j,p2,d,I,p5⟩;obtain ⟨po,lp,cp,rfl,_,_,_,_,_,_⟩:=aF j;have u1:=E1.out.keep0 d;have u2:=E2.out.keep0 d;have s1:=u1.c1;have s2:=u2.c1;have s3:=u1.f1;have s4:=u2.f1;have P1:=aa j;have P3:=aa d;have P4:=aa I;clear j p2 d I p5 q1 q3 f1 f3;go_wp2_with fail;refine (fV _ _ _ _ M (max L M+2) _ (N2.keep0 P3) (K1.keep0 P3) s O O).mono ?_;rintro e hk ⟨q,r2,rfl,j,p2,d,I,p5⟩;obtain ⟨qo,lq,cq,rfl,_,_,_,_,_,_⟩:=aF j;have K:=u1.keep0 d;have N:=u2.keep0 d;have v1:=K.c1;have v2:=N.c1;have v3:=K.f1;have v4:=N.f1;have Q1:=aa j;have Q3:=aa d;have Q4:=aa I;have T1:=aa K;have T2:=aa N;clear j p2 d I p5 s1 s2 s3 s4 u1 u2 K N;go_wp2;go_ret;have NE:=mU b x y G L M w2 H hj hk na (.slice po lp cp) (.slice qo lq cq) S hx hy A3 J P3 Q3 T1 T2 P1 Q1 P4 Q4 (A1.lt);exact ⟨rfl,R2.trans NE.1,NE.2⟩
theorem yx (b:Nat) (y L M:Nat) (w:World) (j:ay w b 0 0 L) (m:ay w b 2 (-(y:Int)) M) (hy:0<y) (hL:L<=4000000000000) (hM:M<=4000000000000) :
  Calls Tryz.prog 100 #[.pointer (some ⟨b,0,none⟩)] w fun e w'=>e=.returned (.pointer (some ⟨b,0,none⟩))/\bF w w' b/\ay w' b 0 0 L/\ay w' b 2 1 2:=by
 have n:=aa j;have q:=aa m;obtain ⟨T,U,t,_⟩:=j;obtain ⟨V,hk,a,i,u,x⟩:=m;have J:V=true:=by rw [u];exact decide_eq_true O
 subst J;rw [Int.natAbs_neg,Int.natAbs_natCast] at i;obtain ⟨W,C,X,rfl,Y,_,_,_,_,_⟩:=aF i;have he:((C:Int)==0)=false:=zB O;have K:=a.c0;have N:=a.c1;have d:=aa a;have f:=aa t;have r:=aa x;clear t a i u x Y;go_enter Tryz.func100,Tryz.ntmps100
 go_wp2;go_region_with (go_at_call 102;refine (nJ b 0 b 0 T U 0 L _ (f.keep0 (az _)) (n.keep0 (az _)) O).mono ?_;rintro e w1 ⟨rfl,c1,c2,c3⟩)
 have E:=aa ((gh.of_gr (az _) b 0 f.lt).trans c1);have P:=aa c2;have s:=aa (q.keep E (.inr (.inr O)) (fun v D e=>by
  rw [d.c1] at D;rw [<- zJ D] at e;exact r e))
 have g:=aa (d.keep E (.inr (.inr O)));clear c1 c2 c3 K N;go_wp2;go_region_with (go_at_call 102;refine (nJ b 2 b 2 true (.slice W C X) (-(y:Int)) M _ (g.keep0 (az _)) (s.keep0 (az _)) O).mono ?_;rintro e G ⟨rfl,c1,c2,c3⟩)
 have Q:=aa ((gh.of_gr (az _) b 2 g.lt).trans c1);rw [Int.neg_neg] at c2;have hB:ay G b 2 (y:Int) M:=c2;have c:ay G b 0 (-0) L:=P.out.keep Q (.inr (.inl O)) (fun v D e=>by
  obtain ⟨_,v3,q1,_,_,q4⟩:=P.out;rw [q1.c1] at D;rw [<- zJ D] at e;exact q4 e)
 have hA:ay G b 0 0 L :=  c;have R2:Hid (bF w G b):=(bF.of_put E).trans (bF.of_put Q);clear c1 c2 c3 E P Q s g n q d f r c;have HA:=aa hA;obtain ⟨na,va,H,a2,a3,a4⟩:=hA;obtain ⟨nb,vb,I,b2,b3,b4⟩:=hB;rw [Int.natAbs_natCast] at b2;have R:nb=false:=by rw [b3];simp
 subst R;have c0:=H.c0;have c1:=H.c1;have d0:=I.c0;have d1:=I.c1;obtain ⟨ao,la,ca,rfl,z1,z2,z3,z4,z5,z6⟩:=aF a2;obtain ⟨bo,lb,cb,rfl,y1,y2,y3,y4,y5,y6⟩:=aF b2;have hf:((la:Int)==0)=true:=beq_iff_eq.2 (by have:=z1.2 rfl;omega);have hj:((lb:Int)==0)=false:=zB O;have A1:=aa H;have A2:=aa a2;have A4:=aa a4;have A3:=aa a3;have B1:=aa I;clear H a2 a3 a4 I b2 b3 b4 z1 z5 z6 y1 y5 y6;skip;go_wp2_with fail;refine (kT b 2 false (.slice bo lb cb) 1 _ B1 O O).mono ?_;rintro e hl ⟨rfl,k1,k2,_⟩;have S:=aa k1;have K2:=aa k2;clear k1 k2;go_wp2;go_ret;refine ⟨rfl,R2.trans (bF.of_put S),?_,K2⟩;exact ⟨na,.slice ao la ca,A1.keep S (.inr (.inl O)),A2.keep S.gr (fun k e h=>by cases e;exact A4 h),A3,A4⟩
def uj (x z:Int):Int:=if z<0 then -x else x
theorem DC (b:Nat) (x z:Int) (L:Nat) (w:World) (c:ay w b 0 x L) (d:ay w b 2 z L) (q:z≠0) (a:L<=4000000000000) :
  Calls Tryz.prog 100 #[.pointer (some ⟨b,0,none⟩)] w fun e w'=>e=.returned (.pointer (some ⟨b,0,none⟩))/\bF w w' b/\bK w' b (fF (uj x z) z.natAbs) (fA (uj x z) z.natAbs) (L+2):=by
 by_cases hn:z<0
 ·obtain ⟨y,rfl⟩:∃ y:Nat,z = -(y:Int):=⟨z.natAbs,O⟩;have j:(-(y:Int)).natAbs=y:=O
  have f:uj x (-(y:Int)) = -x:=if_pos hn;rw [j,f];have hy:0<y:=O
  have i:=zV (-x) y hy;by_cases m:x=0
  ·subst m;refine (yx b y L L w c d hy a a).mono ?_;rintro e w' ⟨rfl,k1,g,h⟩;have f1:fF (-0) y=0:=by simp [fF]
   have n:fA (-0) y=1:=by simp [fA];exact Nat.div_self hy
   rw [f1,n];exact ⟨rfl,k1,g.mono O,h.mono O,zD,rfl⟩
  ·refine (DD b x (-x) rfl y L L _ rfl w c d O hy a a).mono ?_;rintro e w' ⟨rfl,k1,g,h⟩;exact ⟨rfl,k1,g,h,i.2,i.1⟩
 ·obtain ⟨y,rfl⟩:∃ y:Nat,z=(y:Int):=⟨z.natAbs,O⟩;have f:uj x (y:Int)=x:=if_neg hn;rw [Int.natAbs_natCast,f];exact vM b x y L w c d O a
theorem Be (b:Nat) (x y:Int) (L:Nat) (w:World) (a c:Bool) (p q:Value) {r n:Bool} {v1 v2:Value} (g:gL w b 0 r v1) (s:gL w b 2 n v2) (t:aT w p x.natAbs L) (u:aT w q y.natAbs L) (i:a=decide (x<0)) (j:c=decide (y<0)) (f1:au p≠some b) (m:au q≠some b) :
  bF w ((((w.setCell ⟨b,0,none⟩ (.bool a)).setCell ⟨b,1,none⟩ p).setCell ⟨b,2,none⟩ (.bool c)).setCell ⟨b,3,none⟩ q) b /\
  ay ((((w.setCell ⟨b,0,none⟩ (.bool a)).setCell ⟨b,1,none⟩ p).setCell ⟨b,2,none⟩ (.bool c)).setCell ⟨b,3,none⟩ q) b 0 x L /\
  ay ((((w.setCell ⟨b,0,none⟩ (.bool a)).setCell ⟨b,1,none⟩ p).setCell ⟨b,2,none⟩ (.bool c)).setCell ⟨b,3,none⟩ q) b 2 y L:=by
 have d:gh w ((w.setCell ⟨b,0,none⟩ (.bool a)).setCell ⟨b,1,none⟩ p) b 0:=(gh.set _ (.inl rfl)).trans (gh.set _ (.inr rfl));have f:gh ((w.setCell ⟨b,0,none⟩ (.bool a)).setCell ⟨b,1,none⟩ p) ((((w.setCell ⟨b,0,none⟩ (.bool a)).setCell ⟨b,1,none⟩ p).setCell ⟨b,2,none⟩ (.bool c)).setCell ⟨b,3,none⟩ q) b 2:=(gh.set _ (.inl rfl)).trans (gh.set _ (.inr rfl));have v:gL ((w.setCell ⟨b,0,none⟩ (.bool a)).setCell ⟨b,1,none⟩ p) b 0 a p:=by
  refine ⟨?_,?_,(d.fr 0).trans g.f0,(d.fr 1).trans g.f1⟩
  ·rw [World.cell?_setCell_other _ _ _ _ Z];exact World.cell?_setCell_same _ _ _ g.c0
  ·exact World.cell?_setCell_same _ _ _ (by rw [World.cell?_setCell_other _ _ _ _ Z];exact g.c1)
 have c2:gL ((w.setCell ⟨b,0,none⟩ (.bool a)).setCell ⟨b,1,none⟩ p) b 2 n v2:=s.keep d (.inr (.inr O));refine ⟨(bF.of_put d).trans (bF.of_put f),?_,?_⟩
 ·exact ⟨a,p,v.keep f (.inr (.inl O)),(t.keep d.gr (fun k e h=>by cases e;exact f1 h)).keep f.gr (fun k e h=>by cases e;exact f1 h),i,f1⟩
 ·refine ⟨c,q,⟨?_,?_,(f.fr 2).trans c2.f0,(f.fr 3).trans c2.f1⟩,?_,j,m⟩
  ·rw [World.cell?_setCell_other _ _ _ _ Z];exact World.cell?_setCell_same _ _ _ c2.c0
  ·exact World.cell?_setCell_same _ _ _ (by rw [World.cell?_setCell_other _ _ _ _ Z];exact c2.c1)
  ·exact (u.keep d.gr (fun k e h=>by cases e;exact m h)).keep f.gr (fun k e h=>by cases e;exact m h)
theorem oG (c u v C ob:Nat) (n1 n2:Bool) (v1 v2:Value) (x y:Int) (L:Nat) (w:World) (d:gL w c 0 n1 v1) (j:gL w c 2 n2 v2) (N:ay w u v x L) (P:ay w C ob y L) (hy:y≠0) (hL:L<=4000000000000) :
  Calls Tryz.prog 56 #[.pointer (some ⟨c,0,none⟩),.pointer (some ⟨u,v,none⟩),.pointer (some ⟨C,ob,none⟩)] w fun e w'=>e=.returned (.pointer (some ⟨c,0,none⟩))/\bF w w' c/\bK w' c (fF (uj x y) y.natAbs) (fA (uj x y) y.natAbs) (L+2):=by
 have HA:=aa N;have HB:=aa P;have Z1:=aa d;have Z2:=aa j;have he:=d.lt;obtain ⟨nb,vb,f,i,r,s⟩:=P;obtain ⟨bo,lb,cb,rfl,y1,y2,y3,y4,y5,y6⟩:=aF i;have d1:=f.c1;have hf:((lb:Int)==0)=false:=zB O;clear f i r s y1 y5 y6 d j N;go_enter Tryz.func56,Tryz.ntmps56
 go_wp2_with fail;have D:=ae (ag w none) (.cells #[.bool false,.slice none 0 0] 101);refine (qJ w.heap.size 0 u v false (.slice none 0 0) x L _ (fP w) (HA.keep0 D) O).mono ?_;rintro e w1 ⟨rfl,k1,q,R⟩;have K4:=aa R;clear R;have m:=aa (cD D k1 zL);have Q:=aa q;clear k1 q D d1;go_wp2_with fail;have E:=ae (ag w1 none) (.cells #[.bool false,.slice none 0 0] 101);refine (qJ w1.heap.size 0 C ob false (.slice none 0 0) y L _ (fP w1) ((HB.keep0 m).keep0 E) O).mono ?_;rintro e w2 ⟨rfl,k1,S,T⟩;have K5:=aa T;clear T;have n:=aa (cD E k1 zL);have K3:=aa S;clear k1 S E;have G:w.heap.size<w1.heap.size:=Q.out.lt;obtain ⟨na,va,t,J,U,V⟩:=Q.out.keep0 n;obtain ⟨K,hj,f,i,r,s⟩:=K3.out;have g:=(Z1.keep0 m).keep0 n;have h:=(Z2.keep0 m).keep0 n;obtain ⟨W,X,Y,rfl,_,_,_,_,_,_⟩:=aF J;obtain ⟨qo,lq,cq,rfl,_,_,_,_,_,_⟩:=aF i;have m0:=t.c0;have m1:=t.c1;have m2:=f.c0;have m3:=f.c1;have x0:=g.c0;have x1:=g.c1;have x2:=h.c0;have x3:=h.c1;have f0:=g.f0;have f1:=g.f1;have f2:=h.f0;have f3:=h.f1;have A1:=aa t;have A2:=aa J;have A3:=aa U;have A4:=aa V;have B1:=aa f;have B2:=aa i;have B3:=aa r;have B4:=aa s;have H:=aa g;have I:=aa h;clear t J U V f i r s g h;simp only [Nat.zero_add] at m0 m1 m2 m3 x0 x1 x2 x3 f0 f1 f2 f3;have F1:Hid (au (.slice W X Y)≠some c):=by
  intro e;have:=K4.out _ (by rw [<- A1.c1];exact (World.cell?_of_block (w:=w1) (a:=⟨w.heap.size,0+1,none⟩) (n.block _ G Z)).symm) c e;simp at this;omega
 have F2:Hid (au (.slice qo lq cq)≠some c):=by
  intro e;have:=K5.out _ B1.c1 c e;have h2:=m.out.size;simp at this;omega
 go_wp2_with fail;obtain ⟨r1,r2,r3⟩:=Be c x y L w2 na K (.slice W X Y) (.slice qo lq cq) H I A2 B2 A3 B3 F1 F2;refine (DC c x y L _ r2 r3 hy hL).mono ?_;rintro e w3 ⟨rfl,k1,q⟩;have RR:=aa ((bF.of_gr (ab m n)).trans (r1.trans k1));have KK:=aa q;clear r1 r2 r3 k1 q;go_wp2;go_ret;exact ⟨rfl,RR,KK⟩
def nL:Sg->Bool | (k,x,y,z)=>x && decide (k<=6) && (decide (k<2) || y) && (decide (k<4) || z)
def lQU:Sg->Array Bool | (k,_,y,z)=>#[true,y,true,true,true,true,decide (1<=k),decide (2<=k),z,true,decide (3<=k),true,true,true,decide (4<=k),decide (5<=k),decide (6<=k)]
def Ed:Sg->List Nat | (k,_,y,z)=>(if y then [] else [1])++(if k=0 then [6] else [])++(if k=1/\y then [7] else [])++(if z then [] else [8])++(if k=2 then [10] else [])++(if k=3/\z then [14] else [])++(if k=4 then [15] else [])++(if k=5 then [16] else [])
def kt:Sg->Nat->Sg | (k,x,y,z),i=>if i=1 then (k,x,true,z) else if i=8 then (k,x,y,true) else (k+1,x,y,z)
theorem Ef {x z:Bool} (c:Ed (k,x,y,z)=[]) (a:nL (k,x,y,z)=true):k=6/\y=true/\z=true:=by
 rcases k with _ | _ | _ | _ | _ | _ | _ | k<;>cases x<;>cases y<;>cases z<;>first | (simp [nL] at a;done) | (simp [Ed] at c;done) | simp
theorem Ee {i:Nat} {x z:Bool} (h:i∈Ed (k,x,y,z)):(i=1/\y=false)∨(i=8/\z=false)∨(i=6/\k=0)∨(i=7/\k=1/\y=true)∨(i=10/\k=2)∨(i=14/\k=3/\z=true)∨(i=15/\k=4)∨(i=16/\k=5):=by
 unfold Ed at h;simp only [List.mem_append] at h;rcases h with ((((((h | h) | h) | h) | h) | h) | h) | h<;>split at h<;>simp_all
theorem yK (d j m:Nat) (H I:Bool) (v1 v2:Value) (t f:Int) (g u L M:Nat) (w:World) (C:gL w d 0 H v1) (D:gL w d 2 I v2) (J:ay w j 0 t L) (N:ay w m 0 f M) (P:l8 w j g L) (Q:l8 w m u M) (G:(g:Int)*f≠0) (hL:L+M<=3900000000000) :
  Calls Tryz.prog 104 #[.pointer (some ⟨d,0,none⟩),.pointer (some ⟨j,0,none⟩),.pointer (some ⟨m,0,none⟩)] w fun e w'=>e=.returned (.pointer (some ⟨d,0,none⟩))/\bF w w' d/\bK w' d (fF (uj (t*(u:Int)) ((g:Int)*f)) ((g:Int)*f).natAbs) (fA (uj (t*(u:Int)) ((g:Int)*f)) ((g:Int)*f).natAbs) (L+M+2):=by
 have V:=aa J;have W:=aa N;have X:=aa P;have Y:=aa Q;have Z1:=aa C;have Z2:=aa D;clear J N P Q C D;go_enter Tryz.func104,Tryz.ntmps104
 go_upto_region 1 with fail;refine hd (fun _=>True) (fun _=>?_) (hS:=trivial);refine tk 8 [(0,7,pp d 0),(2,9,pp j 0),(3,10,pp j 0),(4,11,pp j 0),(5,12,pp m 0),(9,16,pp j 0),(11,18,pp m 0),(12,19,pp m 0),(13,20,pp m 0)] ?_;refine wk (st3 nL) lQU m3 Ed kt (fun (k,x,y,z) a wx=>∃ q r d1 o1 d2 o2:Nat,nL (k,x,y,z)=true/\a=⟨#[pp d 0,pp j 0,pp m 0,undef,undef,undef,(if 6<=k then pp d 0 else .pointer none),pp d 0,oC y q 0,pp j 0,pp j 0,pp j 0,pp m 0,oC (decide (1<=k)) d1 o1,oC (decide (2<=k)) q 0,oC z r 0,pp j 0,oC (decide (3<=k)) d2 o2,pp m 0,pp m 0,pp m 0,oC (decide (4<=k)) r 0,oC (decide (5<=k)) d 0],[]⟩
   /\ (k<5->dK w wx (fl (decide (k<2) && y) q++fl (decide (k<4) && z) r) ([⟨r,0,(g:Int)*f,L+M⟩,⟨d2,o2,(g:Int),L⟩,⟨q,0,t*(u:Int),L+M⟩,⟨d1,o1,(u:Int),M⟩,⟨j,0,t,L⟩,⟨m,0,f,M⟩].drop (4-k)))
   /\ (5<=k->bF w wx d/\bK wx d (fF (uj (t*(u:Int)) ((g:Int)*f)) ((g:Int)*f).natAbs) (fA (uj (t*(u:Int)) ((g:Int)*f)) ((g:Int)*f).natAbs) (L+M+2))) (0,true,false,false) ⟨0,0,0,0,0,0,rfl,rfl,fun _=>((dK.start (jH (ag w none))).old W).old V,fun h=>absurd h (by simp [kt])⟩ ?_
 rintro ⟨k,x,y,z⟩ a wx ⟨q,r,d1,o1,d2,o2,c,rfl,n⟩;refine ⟨fun U=>?_,fun i hi K v=>?_⟩
 ·obtain ⟨rfl,rfl,rfl⟩:=Ef U c;obtain ⟨s,R⟩:=n.2 O;have M1:=aa s;have M2:=aa R;clear s R n U c;simp only [oC];go_wp2;go_ret;exact ⟨rfl,M1,M2⟩
 ·have hm:=Ee hi;have hh:x=true/\k<=6/\(k<2∨y=true)/\(k<4∨z=true):=by simp only [nL,Bool.and_eq_true,Bool.or_eq_true,decide_eq_true_eq] at c;exact ⟨c.1.1.1,c.1.1.2,c.1.2,c.2⟩
  clear c hi;rcases hm with ⟨rfl,rfl⟩ | ⟨rfl,rfl⟩ | ⟨rfl,rfl⟩ | ⟨rfl,rfl,rfl⟩ | ⟨rfl,rfl⟩ | ⟨rfl,rfl,rfl⟩ | ⟨rfl,rfl⟩ | ⟨rfl,rfl⟩<;>simp only [ax,q4,q5,q6,q7]
  ·go_simp
   rcases k with _ | _ | _ | _ | _ | k<;>first
    | exact v _ _ ⟨wx.heap.size,r,d1,o1,d2,o2,by simpa [nL,kt,and_assoc] using hh,rfl,fun h=>dK.alloc (A:=[]) (n.1 h),fun h=>absurd h (by simp [kt])⟩
    | (exfalso;obtain ⟨h,h0,S,T⟩:=hh;rcases S with h | h<;>first | omega | cases h)
  ·go_simp
   rcases k with _ | _ | _ | _ | _ | k<;>first
    | exact v _ _ ⟨q,wx.heap.size,d1,o1,d2,o2,by simpa [nL,kt,and_assoc] using hh,rfl,fun h=>dK.alloc (A:=fl (decide (_<2) && y) q) (n.1 h),fun h=>absurd h (by simp [kt])⟩
    | (exfalso;obtain ⟨h,h0,S,T⟩:=hh;rcases T with h | h<;>first | omega | cases h)
  ·go_simp
   go_at_call 75
   refine (Y _ _ _ (n.1 O)).mono ?_;rintro e w1 ⟨d1,o1,rfl,_,s⟩;go_wp2_with fail;exact v _ _ ⟨q,r,d1,o1,d2,o2,by simpa [nL,kt,and_assoc] using hh,rfl,fun _=>s,fun h=>absurd h (by simp [kt])⟩
  ·go_simp
   go_at_call 106
   refine (dK.mul (A:=[]) (n.1 O) (x:=t) (y:=(u:Int)) (L:=L) (M:=M) Z Z O).mono ?_;rintro e w1 ⟨rfl,s⟩;go_wp2_with fail;exact v _ _ ⟨q,r,d1,o1,d2,o2,by simpa [nL,kt,and_assoc] using hh,rfl,fun _=>s,fun h=>absurd h (by simp [kt])⟩
  ·go_simp
   go_at_call 75
   refine (X _ _ _ (n.1 O)).mono ?_;rintro e w1 ⟨d2,o2,rfl,_,s⟩;go_wp2_with fail;exact v _ _ ⟨q,r,d1,o1,d2,o2,by simpa [nL,kt,and_assoc] using hh,rfl,fun _=>s,fun h=>absurd h (by simp [kt])⟩
  ·go_simp
   go_at_call 106
   refine (dK.mul (A:=[]) (B:=[]) (n.1 O) (x:=(g:Int)) (y:=f) (L:=L) (M:=M) Z Z O).mono ?_;rintro e w1 ⟨rfl,s⟩;go_wp2_with fail;exact v _ _ ⟨q,r,d1,o1,d2,o2,by simpa [nL,kt,and_assoc] using hh,rfl,fun _=>s,fun h=>absurd h (by simp [kt])⟩
  ·go_simp
   go_at_call 56
   have E:=n.1 O;refine (oG d q 0 r 0 H I v1 v2 (t*(u:Int)) ((g:Int)*f) (L+M) _ (Z1.keep0 E.gr) (Z2.keep0 E.gr) (E.away (L:=L+M) Z) (E.away (L:=L+M) Z) G O).mono ?_;rintro e w1 ⟨rfl,r1,r2⟩;go_wp2_with fail;exact v _ _ ⟨q,r,d1,o1,d2,o2,by simpa [nL,kt,and_assoc] using hh,rfl,fun h=>absurd h (by simp [kt]),fun _=>⟨(bF.of_gr E.gr).trans r1,r2⟩⟩
  ·go_simp
   exact v _ _ ⟨q,r,d1,o1,d2,o2,by simpa [nL,kt,and_assoc] using hh,rfl,fun h=>absurd h (by simp [kt]),fun _=>n.2 O⟩
theorem DV (p:Rat) {q:Rat} (h:q≠0):(p.den:Int)*q.num≠0:=by
 have c:=p.den_pos;have a:q.num≠0:=fun e=>h (Rat.num_eq_zero.1 e)
 exact Int.mul_ne_zero O a
theorem quo_up (p:Rat) {q:Rat} (h:q≠0):mkRat (uj (p.num*(q.den:Int)) ((p.den:Int)*q.num)) ((p.den:Int)*q.num).natAbs=p / q:=by
 have d:=p.den_pos;have f:q.num≠0:=fun e=>h (Rat.num_eq_zero.1 e)
 have hd:=DT p q;rw [<- hd];have c:((p.den:Int)*q.num).natAbs=rN q*p.den:=by
  rw [Int.natAbs_mul,Int.natAbs_natCast,Nat.mul_comm];rfl
 rw [c];congr 1
 unfold uj;by_cases hn:q.num<0
 ·have:(p.den:Int)*q.num<0:=Int.mul_neg_of_pos_of_neg O hn;rw [if_pos this];have hb:rB q=true:=by unfold rB;exact decide_eq_true hn
  rw [hb];have:=fC p;rw [fk];rw [<- Int.neg_mul];congr 1
  rw [<- this];unfold fY;cases rB p<;>simp
 ·have:¬ (p.den:Int)*q.num<0:=by
   have:=Int.mul_nonneg (a:=(p.den:Int)) (b:=q.num) O O;omega
  rw [if_neg this];have hb:rB q=false:=by unfold rB;exact decide_eq_false hn
  rw [hb,fk];congr 1
  rw [Bool.bne_false];exact (fC p).symm
theorem wA (c d:Nat) (p q:Rat) (L M:Nat) (w:World) (g:RX w c p L) (h:RX w d q M) (f:q≠0) (r:L+M<=3900000000000) :
  Calls Tryz.prog 63 #[.pointer (some ⟨c,0,none⟩),.pointer (some ⟨d,0,none⟩)] w fun e w'=>Ci w (p / q) (L+M+2) e w':=by
 have i:=aa g;have j:=aa h;clear g h;go_enter Tryz.func63,Tryz.ntmps63
 go_wp2_with fail;have a:=ae (ag w none) (.cells #[.bool false,.slice none 0 0,.bool false,.slice none 0 0] 103);refine (yK w.heap.size c d false false (.slice none 0 0) (.slice none 0 0) _ _ _ _ L M _ (eW w).1 (eW w).2 (i.1.keep0 a) (j.1.keep0 a) (i.2.keep0 a) (j.2.keep0 a) (DV p f) r).mono ?_;rintro e w1 ⟨rfl,m,n⟩;have s:=aa m;have t:=aa n;clear m n a;go_wp2;go_ret;exact ⟨_,rfl,bK.q (by have:=DV p f;omega) (quo_up p f) t,lC (ae (ag _ _) _) s zL,zL⟩
def nK:Sg->Bool | (k,x,y,z)=>x && decide (k<=6) && (decide (k<1) || y) && (decide (k<4) || z)
def lMU:Sg->Array Bool | (k,_,y,z)=>#[true,y,true,true,true,true,true,true,decide (1<=k),z,true,decide (2<=k),true,decide (3<=k),decide (4<=k),decide (5<=k),decide (6<=k)]
def Ea:Sg->List Nat | (k,_,y,z)=>(if y then [] else [1])++(if k=0/\y then [8] else [])++(if z then [] else [9])++(if k=1 then [11] else [])++(if k=2 then [13] else [])++(if k=3/\z then [14] else [])++(if k=4 then [15] else [])++(if k=5 then [16] else [])
def kr:Sg->Nat->Sg | (k,x,y,z),i=>if i=1 then (k,x,true,z) else if i=9 then (k,x,y,true) else (k+1,x,y,z)
theorem Ec {x z:Bool} (c:Ea (k,x,y,z)=[]) (a:nK (k,x,y,z)=true):k=6/\y=true/\z=true:=by
 rcases k with _ | _ | _ | _ | _ | _ | _ | k<;>cases x<;>cases y<;>cases z<;>first | (simp [nK] at a;done) | (simp [Ea] at c;done) | simp
theorem Eb {i:Nat} {x z:Bool} (h:i∈Ea (k,x,y,z)):(i=1/\y=false)∨(i=9/\z=false)∨(i=8/\k=0/\y=true)∨(i=11/\k=1)∨(i=13/\k=2)∨(i=14/\k=3/\z=true)∨(i=15/\k=4)∨(i=16/\k=5):=by
 unfold Ea at h;simp only [List.mem_append] at h;rcases h with ((((((h | h) | h) | h) | h) | h) | h) | h<;>split at h<;>simp_all
theorem yJ (d j m:Nat) (H I:Bool) (v1 v2:Value) (t u:Int) (f g L M:Nat) (w:World) (C:gL w d 0 H v1) (D:gL w d 2 I v2) (J:ay w j 0 t L) (N:ay w m 0 u M) (P:l8 w j f L) (Q:l8 w m g M) (G:(f:Int)*(g:Int)≠0) (hL:L+M<=3900000000000) :
  Calls Tryz.prog 66 #[.pointer (some ⟨d,0,none⟩),.pointer (some ⟨j,0,none⟩),.pointer (some ⟨m,0,none⟩)] w fun e w'=>e=.returned (.pointer (some ⟨d,0,none⟩))/\bF w w' d/\bK w' d (fF (uj (t*u) ((f:Int)*(g:Int))) ((f:Int)*(g:Int)).natAbs) (fA (uj (t*u) ((f:Int)*(g:Int))) ((f:Int)*(g:Int)).natAbs) (L+M+2):=by
 have V:=aa J;have W:=aa N;have X:=aa P;have Y:=aa Q;have Z1:=aa C;have Z2:=aa D;clear J N P Q C D;go_enter Tryz.func66,Tryz.ntmps66
 go_upto_region 1 with fail;refine hd (fun _=>True) (fun _=>?_) (hS:=trivial);refine tk 8 [(0,7,pp d 0),(2,9,pp j 0),(3,10,pp j 0),(4,11,pp j 0),(5,12,pp m 0),(6,13,pp m 0),(7,14,pp m 0),(10,17,pp j 0),(12,19,pp m 0)] ?_;refine wk (st3 nK) lMU m3 Ea kr (fun (k,x,y,z) a wx=>∃ q r d1 o1 d2 o2:Nat,nK (k,x,y,z)=true/\a=⟨#[pp d 0,pp j 0,pp m 0,undef,undef,undef,(if 6<=k then pp d 0 else .pointer none),pp d 0,oC y q 0,pp j 0,pp j 0,pp j 0,pp m 0,pp m 0,pp m 0,oC (decide (1<=k)) q 0,oC z r 0,pp j 0,oC (decide (2<=k)) d1 o1,pp m 0,oC (decide (3<=k)) d2 o2,oC (decide (4<=k)) r 0,oC (decide (5<=k)) d 0],[]⟩
   /\ (k<5->dK w wx (fl (decide (k<1) && y) q++fl (decide (k<4) && z) r) ([⟨r,0,(f:Int)*(g:Int),L+M⟩,⟨d2,o2,(g:Int),M⟩,⟨d1,o1,(f:Int),L⟩,⟨q,0,t*u,L+M⟩,⟨j,0,t,L⟩,⟨m,0,u,M⟩].drop (4-k)))
   /\ (5<=k->bF w wx d/\bK wx d (fF (uj (t*u) ((f:Int)*(g:Int))) ((f:Int)*(g:Int)).natAbs) (fA (uj (t*u) ((f:Int)*(g:Int))) ((f:Int)*(g:Int)).natAbs) (L+M+2))) (0,true,false,false) ⟨0,0,0,0,0,0,rfl,rfl,fun _=>((dK.start (jH (ag w none))).old W).old V,fun h=>absurd h (by simp [kr])⟩ ?_
 rintro ⟨k,x,y,z⟩ a wx ⟨q,r,d1,o1,d2,o2,c,rfl,n⟩;refine ⟨fun U=>?_,fun i hi K v=>?_⟩
 ·obtain ⟨rfl,rfl,rfl⟩:=Ec U c;obtain ⟨s,R⟩:=n.2 O;have M1:=aa s;have M2:=aa R;clear s R n U c;simp only [oC];go_wp2;go_ret;exact ⟨rfl,M1,M2⟩
 ·have hm:=Eb hi;have hh:x=true/\k<=6/\(k<1∨y=true)/\(k<4∨z=true):=by simp only [nK,Bool.and_eq_true,Bool.or_eq_true,decide_eq_true_eq] at c;exact ⟨c.1.1.1,c.1.1.2,c.1.2,c.2⟩
  clear c hi;rcases hm with ⟨rfl,rfl⟩ | ⟨rfl,rfl⟩ | ⟨rfl,rfl,rfl⟩ | ⟨rfl,rfl⟩ | ⟨rfl,rfl⟩ | ⟨rfl,rfl,rfl⟩ | ⟨rfl,rfl⟩ | ⟨rfl,rfl⟩<;>simp only [ax,q4,q5,q6,q7]
  ·go_simp
   rcases k with _ | _ | _ | _ | _ | k<;>first
    | exact v _ _ ⟨wx.heap.size,r,d1,o1,d2,o2,by simpa [nK,kr,and_assoc] using hh,rfl,fun h=>dK.alloc (A:=[]) (n.1 h),fun h=>absurd h (by simp [kr])⟩
    | (exfalso;obtain ⟨h,h0,S,T⟩:=hh;rcases S with h | h<;>first | omega | cases h)
  ·go_simp
   rcases k with _ | _ | _ | _ | _ | k<;>first
    | exact v _ _ ⟨q,wx.heap.size,d1,o1,d2,o2,by simpa [nK,kr,and_assoc] using hh,rfl,fun h=>dK.alloc (A:=fl (decide (_<1) && y) q) (n.1 h),fun h=>absurd h (by simp [kr])⟩
    | (exfalso;obtain ⟨h,h0,S,T⟩:=hh;rcases T with h | h<;>first | omega | cases h)
  ·go_simp
   go_at_call 106
   refine (dK.mul (A:=[]) (n.1 O) (x:=t) (y:=u) (L:=L) (M:=M) Z Z O).mono ?_;rintro e w1 ⟨rfl,s⟩;go_wp2_with fail;exact v _ _ ⟨q,r,d1,o1,d2,o2,by simpa [nK,kr,and_assoc] using hh,rfl,fun _=>s,fun h=>absurd h (by simp [kr])⟩
  ·go_simp
   go_at_call 75
   refine (X _ _ _ (n.1 O)).mono ?_;rintro e w1 ⟨d1,o1,rfl,_,s⟩;go_wp2_with fail;exact v _ _ ⟨q,r,d1,o1,d2,o2,by simpa [nK,kr,and_assoc] using hh,rfl,fun _=>s,fun h=>absurd h (by simp [kr])⟩
  ·go_simp
   go_at_call 75
   refine (Y _ _ _ (n.1 O)).mono ?_;rintro e w1 ⟨d2,o2,rfl,_,s⟩;go_wp2_with fail;exact v _ _ ⟨q,r,d1,o1,d2,o2,by simpa [nK,kr,and_assoc] using hh,rfl,fun _=>s,fun h=>absurd h (by simp [kr])⟩
  ·go_simp
   go_at_call 106
   refine (dK.mul (A:=[]) (B:=[]) (n.1 O) (x:=(f:Int)) (y:=(g:Int)) (L:=L) (M:=M) Z Z O).mono ?_;rintro e w1 ⟨rfl,s⟩;go_wp2_with fail;exact v _ _ ⟨q,r,d1,o1,d2,o2,by simpa [nK,kr,and_assoc] using hh,rfl,fun _=>s,fun h=>absurd h (by simp [kr])⟩
  ·go_simp
   go_at_call 56
   have E:=n.1 O;refine (oG d q 0 r 0 H I v1 v2 (t*u) ((f:Int)*(g:Int)) (L+M) _ (Z1.keep0 E.gr) (Z2.keep0 E.gr) (E.away (L:=L+M) Z) (E.away (L:=L+M) Z) G O).mono ?_;rintro e w1 ⟨rfl,r1,r2⟩;go_wp2_with fail;exact v _ _ ⟨q,r,d1,o1,d2,o2,by simpa [nK,kr,and_assoc] using hh,rfl,fun h=>absurd h (by simp [kr]),fun _=>⟨(bF.of_gr E.gr).trans r1,r2⟩⟩
  ·go_simp
   exact v _ _ ⟨q,r,d1,o1,d2,o2,by simpa [nK,kr,and_assoc] using hh,rfl,fun h=>absurd h (by simp [kr]),fun _=>n.2 O⟩
theorem upS_pos (x:Int) (h:0<z):uj x z=x:=if_neg O
theorem iz (p q:Rat):(p.den:Int)*(q.den:Int)≠0:=by
 have a:=p.den_pos;have c:=q.den_pos;have:0<(p.den:Int)*(q.den:Int):=Int.mul_pos O O;omega
theorem mul_up (p q:Rat):mkRat (uj (p.num*q.num) ((p.den:Int)*(q.den:Int))) ((p.den:Int)*(q.den:Int)).natAbs=p*q:=by
 have a:=p.den_pos;have c:=q.den_pos;have:0<(p.den:Int)*(q.den:Int):=Int.mul_pos O O;rw [upS_pos _ this,<- Int.natCast_mul,Int.natAbs_natCast];exact (Rat.mul_def p q).symm▸(Rat.normalize_eq_mkRat _).symm
theorem wj (c d:Nat) (p q:Rat) (L M:Nat) (w:World) (f:RX w c p L) (g:RX w d q M) (n:L+M<=3900000000000) :
  Calls Tryz.prog 34 #[.pointer (some ⟨c,0,none⟩),.pointer (some ⟨d,0,none⟩)] w fun e w'=>Ci w (p*q) (L+M+2) e w':=by
 have h:=aa f;have i:=aa g;clear f g;go_enter Tryz.func34,Tryz.ntmps34
 go_wp2_with fail;have a:=ae (ag w none) (.cells #[.bool false,.slice none 0 0,.bool false,.slice none 0 0] 103);refine (yJ w.heap.size c d false false (.slice none 0 0) (.slice none 0 0) _ _ _ _ L M _ (eW w).1 (eW w).2 (h.1.keep0 a) (i.1.keep0 a) (h.2.keep0 a) (i.2.keep0 a) (iz p q) n).mono ?_;rintro e w1 ⟨rfl,j,m⟩;have r:=aa j;have s:=aa m;clear j m a;go_wp2;go_ret;exact ⟨_,rfl,bK.q (by have:=iz p q;omega) (mul_up p q) s,lC (ae (ag _ _) _) r zL,zL⟩
end Go.Proofs.YtbfohfjobncehaaGreatDoor
