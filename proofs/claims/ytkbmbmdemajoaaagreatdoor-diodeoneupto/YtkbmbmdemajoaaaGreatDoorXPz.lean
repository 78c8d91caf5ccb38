/- Contracts. -/
import Derived.Test.YtkbmbmdemajoaaaGreatDoorXPy
import Derived.Test.YtkbmbmdemajoaaaGreatDoorXHand
import Derived.Test.YtkbmbmdemajoaaaGreatDoorXPb
import Derived.Shelf.Strings.SlTrimAscii
import Derived.Test.YtkbmbmdemajoaaaGreatDoorXPh
namespace Go.Proofs.YtkbmbmdemajoaaaGreatDoor
open Go.RowKit
set_option linter.unusedVariables false
set_option linter.unusedSimpArgs false
set_option linter.unnecessarySimpa false
set_option maxHeartbeats 8000000
set_option maxRecDepth 10000
variable {w w0 w' w1:World} {L b p o k M L':Nat} {z:Int} {F A B:List Nat} {l:List UInt8}
def wG (w:World) (F:List Nat) (p o:Nat) (z:Int) (L:Nat):Prop:=ay w p o z L/\p∉F/\∀ v,w.cell? ⟨p,o+1,none⟩=some v->∀ k∈F,ar v≠some k
abbrev pp (b o:Nat):Value:=.pointer (some ⟨b,o,none⟩)
structure m9 where
 p:Nat
 o:Nat
 z:Int
 L:Nat
structure dB (w0 w:World) (F:List Nat) (I:List m9):Prop where
 gr:w0.grownBy w none
 nd:F.Nodup
 fr:∀ k∈F,w0.heap.size<=k/\gh w k 0 false (.slice none 0 0)
 it:∀ i∈I,wG w F i.p i.o i.z i.L
theorem ay.words (h:ay w p o z L) {v:Value} (a:w.cell? ⟨p,o+1,none⟩=some v) (c:ar v=some k):k<w.heap.size:=by
 obtain ⟨neg,u,u1,u2,u3,u4⟩:=h;rw [u1.c1] at a;obtain rfl:=zJ a;obtain ⟨xs,d,e,f,g⟩:=u2;exact d.blk k c
theorem kZ (h:ay w p o z L) (hg:w.grownBy w' none) (c:Nat):w'.cell? ⟨p,c,none⟩=w.cell? ⟨p,c,none⟩ :=
 World.cell?_of_block (w:=w) (a:=⟨p,c,none⟩) (hg.block p h.lt Z)
theorem wG.keep0 (h:wG w F p o z L) (hg:w.grownBy w' none):wG w' F p o z L :=
 ⟨h.1.keep0 hg,h.2.1,fun v a=>h.2.2 v (by rw [<- kZ h.1 hg (o+1)];exact a)⟩
theorem dB.grow {I:List m9} (m:dB w0 w F I) (hg:w.grownBy w' none):dB w0 w' F I :=
 ⟨aa m.gr hg,m.nd,fun k a=>⟨(m.fr k a).1,(m.fr k a).2.keep0 hg⟩,fun i hi=>(m.it i hi).keep0 hg⟩
theorem dB.lt {I:List m9} (m:dB w0 w F I) (a:k∈F):k<w.heap.size:=(m.fr k a).2.lt
theorem dB.start (h:w0.grownBy w none):dB w0 w [] []:=⟨h,List.nodup_nil,(fun k a=>nomatch a),(fun i hi=>nomatch hi)⟩
theorem dB.alloc {I:List m9} (m:dB w0 w (A++B) I):dB w0 (w.alloc (.cells #[.bool false,.slice none 0 0] 106)) (A++w.heap.size :: B) I:=by
 have g:w.grownBy (w.alloc (.cells #[.bool false,.slice none 0 0] 106)) none:=ag (ae w none) _;have hn:w.heap.size∉A++B:=fun h=>Nat.lt_irrefl _ (m.lt h)
 have d:∀ k,k∈A++w.heap.size :: B->k=w.heap.size∨k∈A++B:=by
  intro k c;simp only [List.mem_append,List.mem_cons] at c ⊢;rcases c with h | h | h
  ·exact .inr (.inl h)
  ·exact .inl h
  ·exact .inr (.inr h)
 refine ⟨aa m.gr g,?_,?_,?_⟩
 ·have:=m.nd;simp only [List.nodup_append,List.nodup_cons,List.mem_append,List.mem_cons,not_or] at this hn ⊢;refine ⟨this.1,⟨hn.2,this.2.1⟩,?_⟩;intro a ha b hb;rcases hb with h | h
  ·rintro rfl;exact hn.1 (h▸ha)
  ·exact this.2.2 a ha b h
 ·intro k c;rcases d k c with rfl | h
  ·exact ⟨m.gr.size,fH w⟩
  ·exact ⟨(m.fr k h).1,(m.fr k h).2.keep0 g⟩
 ·intro i hi;have h:=m.it i hi;refine ⟨h.1.keep0 g,?_,?_⟩
  ·intro n;rcases d _ n with e | e
   ·have:=h.1.lt;omega
   ·exact h.2.1 e
  ·intro v f k c e;rw [kZ h.1 g] at f;rcases d _ c with j | j
   ·have:=h.1.words f e;omega
   ·exact h.2.2 v f k j e
theorem dB.new {I:List m9} (m:dB w0 w F I) (hg:w.grownBy w' none) (h:ay w' p o z L) (g:w.heap.size<=p) (hn:dQ w w' p o):dB w0 w' F (⟨p,o,z,L⟩ :: I):=by
 have a:=m.grow hg;refine ⟨a.gr,a.nd,a.fr,?_⟩;intro i hi;rcases List.mem_cons.1 hi with rfl | hi
 ·refine ⟨h,fun c=>?_,fun v d k f e=>?_⟩
  ·have:=m.lt c;simp only at this;omega
  ·have j:=m.lt f;have n:=hn v d k e;omega
 ·exact a.it i hi
theorem dB.old {I:List m9} (m:dB w0 w F I) (h:ay w0 p o z L):dB w0 w F (⟨p,o,z,L⟩ :: I):=by
 refine ⟨m.gr,m.nd,m.fr,?_⟩;intro i hi;rcases List.mem_cons.1 hi with rfl | hi
 ·refine ⟨h.keep0 m.gr,fun c=>?_,fun v a k d e=>?_⟩
  ·have:=(m.fr _ c).1;have:=h.lt;simp only at *;omega
  ·rw [kZ h m.gr] at a;have f:=h.words a e;have g:=(m.fr k d).1;omega
 ·exact m.it i hi
theorem dB.put {I:List m9} (m:dB w0 w (A++b :: B) I) (n:fS w w' b 0) (h:ay w' b 0 z L) (hn:dQ w w' b 0):dB w0 w' (A++B) (⟨b,0,z,L⟩ :: I):=by
 have hb:b∈A++b :: B:=Z
 have g:∀ k,k∈A++B->k∈A++b :: B/\k≠b:=by
  intro k d;have nd:=m.nd;simp only [List.nodup_append,List.nodup_cons,List.mem_append,List.mem_cons] at d nd ⊢;rcases d with h | h
  ·exact ⟨.inl h,nd.2.2 k h b (.inl rfl)⟩
  ·exact ⟨.inr (.inr h),fun e=>nd.2.1.1 (e▸h)⟩
 refine ⟨cw m.gr n (m.fr b hb).1,?_,?_,?_⟩
 ·have nd:=m.nd;simp only [List.nodup_append,List.nodup_cons,List.mem_cons] at nd ⊢;exact ⟨nd.1,nd.2.1.2,fun a ha c hc=>nd.2.2 a ha c (.inr hc)⟩
 ·intro k d;obtain ⟨h1,h2⟩:=g k d;exact ⟨(m.fr k h1).1,(m.fr k h1).2.keep n (.inl h2)⟩
 ·intro i hi;rcases List.mem_cons.1 hi with rfl | hi
  ·refine ⟨h,fun q=>(g _ q).2 rfl,fun v f k d e=>?_⟩;have h1:=m.lt (g k d).1;have h2:=hn v f k e;omega
  ·have a:=m.it i hi;have j:i.p≠b:=fun e=>a.2.1 (e▸hb)
   refine ⟨a.1.keep n (.inl j) (fun v f=>a.2.2 v f b hb),fun q=>a.2.1 (g _ q).1,fun v f k d=>?_⟩;have hc:w'.cell? ⟨i.p,i.o+1,none⟩=w.cell? ⟨i.p,i.o+1,none⟩:=World.cell?_of_block (w:=w) (a:=⟨i.p,i.o+1,none⟩) (n.gr.block i.p a.1.lt (by simpa using j));rw [hc] at f;exact a.2.2 v f k (g k d).1
theorem dB.drop {I I':List m9} (m:dB w0 w F I) (h:∀ i∈I',i∈I):dB w0 w F I':=⟨m.gr,m.nd,m.fr,fun i hi=>m.it i (h i hi)⟩
theorem dB.away {I:List m9} (m:dB w0 w F I) (hi:(⟨p,o,z,L⟩:m9)∈I):ay w p o z L:=(m.it _ hi).1
theorem dB.ne {I:List m9} (m:dB w0 w F I) (hi:(⟨p,o,z,L⟩:m9)∈I) (hb:b∈F):p≠b:=fun e=>(m.it _ hi).2.1 (e▸hb)
theorem dB.mul {I:List m9} (m:dB w0 w (A++b :: B) I) {q r:Nat} {x y:Int} (a:(⟨p,o,x,L⟩:m9)∈I) (hy:(⟨q,r,y,M⟩:m9)∈I) (c:L+M<=10000000000000) :
  Calls Tryz.prog 125 #[.pointer (some ⟨b,0,none⟩),.pointer (some ⟨p,o,none⟩),.pointer (some ⟨q,r,none⟩)] w fun e w'=>e=.returned (.pointer (some ⟨b,0,none⟩))/\dB w0 w' (A++B) (⟨b,0,x*y,L+M⟩ :: I):=by
 have hb:b∈A++b :: B:=Z
 refine (mul_at b 0 p o q r _ _ x y L M w (m.fr b hb).2 (m.away a) (m.away hy) c (m.ne a hb) (m.ne hy hb)).mono ?_;rintro e w' ⟨rfl,d,f,g⟩;exact ⟨rfl,m.put d f g⟩
theorem dB.sub {I:List m9} (m:dB w0 w (A++b :: B) I) {q r:Nat} {x y:Int} (a:(⟨p,o,x,L⟩:m9)∈I) (hy:(⟨q,r,y,M⟩:m9)∈I) (c:L<=9000000000000) (d:M<=9000000000000) :
  Calls Tryz.prog 141 #[.pointer (some ⟨b,0,none⟩),.pointer (some ⟨p,o,none⟩),.pointer (some ⟨q,r,none⟩)] w fun e w'=>e=.returned (.pointer (some ⟨b,0,none⟩))/\dB w0 w' (A++B) (⟨b,0,x-y,max L M+1⟩ :: I):=by
 have hb:b∈A++b :: B:=Z
 refine (Az b 0 p o q r _ _ x y L M w (m.fr b hb).2 (m.away a) (m.away hy) c d (m.ne a hb) (m.ne hy hb)).mono ?_;rintro e w' ⟨rfl,f,g,h⟩;exact ⟨rfl,m.put f g h⟩
theorem dB.add {I:List m9} (m:dB w0 w (A++b :: B) I) {q r:Nat} {x y:Int} (a:(⟨p,o,x,L⟩:m9)∈I) (hy:(⟨q,r,y,M⟩:m9)∈I) (c:L<=9000000000000) (d:M<=9000000000000) :
  Calls Tryz.prog 124 #[.pointer (some ⟨b,0,none⟩),.pointer (some ⟨p,o,none⟩),.pointer (some ⟨q,r,none⟩)] w fun e w'=>e=.returned (.pointer (some ⟨b,0,none⟩))/\dB w0 w' (A++B) (⟨b,0,x+y,max L M+1⟩ :: I):=by
 have hb:b∈A++b :: B:=Z
 refine (Ay b 0 p o q r _ _ x y L M w (m.fr b hb).2 (m.away a) (m.away hy) c d (m.ne a hb) (m.ne hy hb)).mono ?_;rintro e w' ⟨rfl,f,g,h⟩;exact ⟨rfl,m.put f g h⟩
def kV (w0:World) (b d M:Nat):Prop:=∀ w F I,dB w0 w F I->Calls Tryz.prog 51 #[.pointer (some ⟨b,0,none⟩)] w fun e w'=>∃ p o,e=.returned (.pointer (some ⟨p,o,none⟩))/\w.grownBy w' none/\dB w0 w' F (⟨p,o,(d:Int),M⟩ :: I)
theorem bJ.denC {x:Int} {y:Nat} (h:bJ w b x y L):kV w b y L:=by
 intro w1 F I m;refine (sD b x y L w1 (h.keep0 m.gr)).mono ?_;rintro e w' ⟨rfl,rfl⟩;exact ⟨b,2,rfl,ae _ _,m.old h.2.1⟩
theorem dB.low {I:List m9} (m:dB w1 w F I) (h:w0.grownBy w1 none):dB w0 w F I :=
 ⟨aa h m.gr,m.nd,fun k a=>⟨Nat.le_trans h.size (m.fr k a).1,(m.fr k a).2⟩,m.it⟩
theorem kV.keep0 {d:Nat} (h:kV w0 b d M) (hg:w0.grownBy w1 none):kV w1 b d M:=by
 intro w F I m;refine (h w F I (m.low hg)).mono ?_;rintro e w' ⟨p,o,rfl,g,a⟩;exact ⟨p,o,rfl,g,aa m.gr g,a.nd,fun k c=>⟨(m.fr k c).1,(a.fr k c).2⟩,a.it⟩
theorem wG.mono (h:wG w F p o z L) (a:L<=L'):wG w F p o z L':=⟨h.1.mono a,h.2⟩
theorem kV.mono {d c:Nat} (h:kV w0 b d M) (f:M<=c):kV w0 b d c:=by
 intro w F I m;refine (h w F I m).mono ?_;rintro e w' ⟨p,o,rfl,g,a⟩;refine ⟨p,o,rfl,g,a.gr,a.nd,a.fr,?_⟩;intro i hi;rcases List.mem_cons.1 hi with rfl | hi
 ·exact (a.it _ (List.mem_cons_self ..)).mono f
 ·exact a.it i (List.mem_cons_of_mem _ hi)
open Go Go.RowKit
section
variable {P:Program} {ops:Array Oper} {Q:Exit->Act->World->Prop} {md:Region.Mode} {S:World->Prop} {σ:Type} [BEq σ] [LawfulBEq σ]
def wkOk (md:Region.Mode) (ops:Array Oper) (ss:List σ) (L:σ->Array Bool) (m:σ->Nat) (rd:σ->List Nat) (nx:σ->Nat->σ):Bool :=
 ss.all fun s=>Region.ready md ops (L s)==rd s && ((m s==0)==(rd s).isEmpty) && (rd s).all fun i=>(ops[i]?).isSome && ss.contains (nx s i) && L (nx s i)==(L s).setIfInBounds i true && m (nx s i)+1==m s
theorem wk (d:List σ) (L:σ->Array Bool) (m:σ->Nat) (rd:σ->List Nat) (t:σ->Nat->σ) (R:σ->Act->World->Prop) (s0:σ) {N:Nat} {l:Array Bool} {a:Act} (v:R s0 a w)
  (h:∀ s a w,R s a w->(rd s=[]->Q .normal a w)/\∀ i∈rd s,∀ K':Act->World->Prop,Shut (∀ a w,R (t s i) a w->K' a w)->if Region.wanted (ax ops i) (yielded ops a.tmps)=true then Oper.wp P (ax ops i) a w K' Q else K' (a.put (ax ops i).dst undef) w)
  (hok:wkOk md ops d L m rd t=true:=by kernel_rfl) (hs:d.contains s0=true:=by kernel_rfl) (hl:l=L s0:=by kernel_rfl) (hN:N=m s0:=by kernel_rfl) (hS:∀ w,S w:=by exact fun _=>trivial):wpAnyH P md ops Q S N l a w:=by
 subst hl hN;have f:∀ (n:Nat) (s:σ) (a:Act) (w:World),s∈d->m s=n->R s a w->wpAnyH P md ops Q S n (L s) a w:=by
  intro n;induction n with
  | zero =>
   intro s a w j hn q;have c:=List.all_eq_true.1 hok s j;simp only [Bool.and_eq_true,beq_iff_eq,hn] at c;have e:rd s=[]:=by simpa using c.1.2.symm
   exact ⟨c.1.1.trans e,(h s a w q).1 e⟩
  | succ n ih =>
   intro s a w j hn q;have c:=List.all_eq_true.1 hok s j;simp only [Bool.and_eq_true,beq_iff_eq,List.all_eq_true] at c;have g:rd s≠[]:=by
    intro e;have:=c.1.2;rw [hn,e] at this;simp at this
   refine wpAnyH_ready c.1.1 g ?_;intro i hi;obtain ⟨⟨⟨x,y⟩,C⟩,E⟩:=c.2 i hi;refine wpOp_step (fI x) (fun K' D=>(h s a w q).2 i hi K' (fun u w' r=>D u w' ⟨hS w',?_⟩));rw [<- C];exact ih _ u w' (by simpa using y) O r
 exact f _ _ _ _ (by simpa using hs) rfl v
end
def opZ (ad:Bool) (x y:Int):Int:=if ad then x+y else x-y
abbrev Sg:=Nat×Bool×Bool×Bool
def fl (b:Bool) (p:Nat):List Nat:=if b then [p] else []
def st3 (ok:Sg->Bool):List Sg:=((List.range 7).flatMap fun k=>[true,false].flatMap fun x=>[true,false].flatMap fun y=>[true,false].map fun z=>(k,x,y,z)).filter ok
def m3 (s:Sg):Nat:=(6-s.1)+(if s.2.1 then 0 else 1)+(if s.2.2.1 then 0 else 1)+(if s.2.2.2 then 0 else 1)
abbrev nD (b:Bool) (p o:Nat):Value:=if b then pp p o else undef
theorem dB.alloc2 {A':List Nat} {I:List m9} (m:dB w0 w (A++(A'++B)) I):dB w0 (w.alloc (.cells #[.bool false,.slice none 0 0] 106)) (A++(A'++w.heap.size :: B)) I:=by
 rw [<- List.append_assoc] at m ⊢;exact dB.alloc m
theorem dB.mul2 {A':List Nat} {I:List m9} (m:dB w0 w (A++(A'++b :: B)) I) {q r:Nat} {x y:Int} (a:(⟨p,o,x,L⟩:m9)∈I) (hy:(⟨q,r,y,M⟩:m9)∈I) (c:L+M<=10000000000000) :
  Calls Tryz.prog 125 #[.pointer (some ⟨b,0,none⟩),.pointer (some ⟨p,o,none⟩),.pointer (some ⟨q,r,none⟩)] w fun e w'=>e=.returned (.pointer (some ⟨b,0,none⟩))/\dB w0 w' (A++(A'++B)) (⟨b,0,x*y,L+M⟩ :: I):=by
 rw [<- List.append_assoc] at m ⊢;exact dB.mul m a hy c
def mb:Sg->Bool | (k,x,y,z)=>decide (k<=6) && (decide (k<2) || y) && (decide (k<4) || z) && (decide (k<5) || x)
def lAS:Sg->Array Bool | (k,x,y,z)=>#[x,y,true,true,true,true,decide (1<=k),decide (2<=k),z,true,true,true,true,decide (3<=k),decide (4<=k),decide (5<=k),decide (6<=k)]
def DQ:Sg->List Nat | (k,x,y,z)=>(if x then [] else [0])++(if y then [] else [1])++(if k=0 then [6] else [])++(if k=1/\y then [7] else [])++(if z then [] else [8])++(if k=2 then [13] else [])++(if k=3/\z then [14] else [])++(if k=4/\x then [15] else [])++(if k=5 then [16] else [])
def qC:Sg->Nat->Sg | (k,x,y,z),i=>if i=0 then (k,true,y,z) else if i=1 then (k,x,true,z) else if i=8 then (k,x,y,true) else (k+1,x,y,z)
theorem DS {x y z:Bool} (c:DQ (k,x,y,z)=[]) (a:mb (k,x,y,z)=true):k=6/\x=true/\y=true/\z=true:=by
 rcases k with _ | _ | _ | _ | _ | _ | _ | k<;>cases x<;>cases y<;>cases z<;>first | (simp [mb] at a;done) | (simp [DQ] at c;done) | simp
theorem DR {i:Nat} {x y z:Bool} (h:i∈DQ (k,x,y,z)):(i=0/\x=false)∨(i=1/\y=false)∨(i=8/\z=false)∨(i=6/\k=0)∨(i=7/\k=1/\y=true)∨(i=13/\k=2)∨(i=14/\k=3/\z=true)∨(i=15/\k=4/\x=true)∨(i=16/\k=5):=by
 unfold DQ at h;simp only [List.mem_append] at h;rcases h with (((((((h | h) | h) | h) | h) | h) | h) | h) | h<;>split at h<;>simp_all
theorem vk (H:Bool) (v m n:Nat) (S T:Bool) (v1 v2:Value) (g j:Int) (c d L M:Nat) (w:World) (D:gh w v 0 S v1) (E:gh w v 2 T v2) (U:ay w m 0 g L) (V:ay w n 0 j M) (W:kV w m c L) (X:kV w n d M) (I:0<c) (J:0<d) (hL:L+M<=3900000000000) :
  Calls Tryz.prog (bif H then 79 else 88) #[.pointer (some ⟨v,0,none⟩),.pointer (some ⟨m,0,none⟩),.pointer (some ⟨n,0,none⟩)] w fun e w'=>e=.returned (.pointer (some ⟨v,0,none⟩))/\bA w w' v/\bJ w' v (ft (opZ H (g*(d:Int)) (j*(c:Int))) (c*d)) (fj (opZ H (g*(d:Int)) (j*(c:Int))) (c*d)) (L+M+3):=by
 have HX:=ab U;have HY:=ab V;have Y:=ab W;have DY:=ab X;have Z1:=ab D;have Z2:=ab E;clear U V W X D E;have N:opZ true (g*(d:Int)) (j*(c:Int))=g*(d:Int)+j*(c:Int)/\opZ false (g*(d:Int)) (j*(c:Int))=g*(d:Int)-j*(c:Int):=⟨rfl,rfl⟩;cases H
 case' false=>(dsimp only [cond];rw [N.2];obtain ⟨Z,C⟩:=eX (g*(d:Int)-j*(c:Int));have HZ:=ab C;rw [<- C];go_enter Tryz.func88,Tryz.ntmps88)
 case' true=>(dsimp only [cond];rw [N.1];obtain ⟨Z,C⟩:=eX (g*(d:Int)+j*(c:Int));have HZ:=ab C;rw [<- C];go_enter Tryz.func79,Tryz.ntmps79)
 all_goals
  clear N C;go_upto_region 1 with fail;refine hd (fun _=>True) (fun _=>?_) (hS:=trivial);refine tk 9 [(2,10,pp m 0),(3,11,pp m 0),(4,12,pp m 0),(5,13,pp n 0),(9,17,pp n 0),(10,18,pp n 0),(11,19,pp n 0),(12,20,pp m 0)] ?_;refine wk (st3 mb) lAS m3 DQ qC (fun (k,x,y,z) a wx=>∃ p q r d1 o1 d2 o2:Nat,mb (k,x,y,z)=true/\a=⟨#[pp v 0,pp m 0,pp n 0,undef,undef,undef,.pointer none,nD (decide (6<=k)) p 0,nD x p 0,nD y q 0,pp m 0,pp m 0,pp m 0,pp n 0,nD (decide (1<=k)) d1 o1,nD (decide (2<=k)) q 0,nD z r 0,pp n 0,pp n 0,pp n 0,pp m 0,nD (decide (3<=k)) d2 o2,nD (decide (4<=k)) r 0,nD (decide (5<=k)) p 0,undef,undef,undef,undef,undef,undef,undef,undef,undef],[]⟩
   /\ dB w wx (fl (x && decide (k<5)) p++(fl (y && decide (k<2)) q++fl (z && decide (k<4)) r)) ([⟨p,0,Z,max (L+M) (M+L)+1⟩,⟨r,0,j*(c:Int),M+L⟩,⟨d2,o2,(c:Int),L⟩,⟨q,0,g*(d:Int),L+M⟩,⟨d1,o1,(d:Int),M⟩,⟨m,0,g,L⟩,⟨n,0,j,M⟩].drop (5-k))) (0,false,false,false) ⟨0,0,0,0,0,0,0,rfl,rfl,((dB.start (sM (ae w none))).old HY).old HX⟩ ?_
  rintro ⟨k,x,y,z⟩ a wx ⟨p,q,r,d1,o1,d2,o2,f,rfl,t⟩;refine ⟨fun he=>?_,fun i hi K u=>?_⟩
  ·obtain ⟨rfl,rfl,rfl,rfl⟩:=DS he f;have M0:=ab (t.drop (I':=[⟨p,0,Z,max (L+M) (M+L)+1⟩]) (by simp));clear t he f;simp only [nD];go_wp2_with fail;refine (Y _ _ _ (dB.alloc (A:=[]) (B:=[]) M0)).mono ?_;rintro e w1 ⟨d1,o1,rfl,_,s⟩;have M1:=ab s;clear s;go_wp2_with fail;refine (DY _ _ _ M1).mono ?_;rintro e w2 ⟨d2,o2,rfl,_,m2⟩;have M2:=ab m2;clear m2;go_wp2_with fail;refine (dB.mul (A:=[]) (B:=[]) M2 (x:=(c:Int)) (y:=(d:Int)) (L:=L) (M:=M) (by simp) (by simp) (by omega)).mono ?_;rintro e w3 ⟨rfl,m3⟩;have G:=ab m3;clear m3;go_wp2_with fail;refine (cZ v p 0 _ 0 S T v1 v2 Z (c*d) (L+M+1) _ (Z1.keep0 G.gr) (Z2.keep0 G.gr) ((G.away (L:=max (L+M) (M+L)+1) (by simp)).mono (by omega)) ((by rw [Int.natCast_mul];exact G.away (L:=L+M) (by simp):ay w3 wx.heap.size 0 ((c*d:Nat):Int) (L+M)).mono (by omega)) (Nat.mul_pos I J) (by omega)).mono ?_;rintro e w4 ⟨rfl,r1,r2⟩;have R1:=ab r1;have R2:=ab r2;clear r1 r2;go_wp2;go_ret;exact ⟨rfl,(bA.of_gr G.gr).trans R1,R2⟩
  ·have hm:=DR hi;have hh:k<=6/\(k<2∨y=true)/\(k<4∨z=true)/\(k<5∨x=true):=by simp only [mb,Bool.and_eq_true,Bool.or_eq_true,decide_eq_true_eq] at f;exact ⟨f.1.1.1,f.1.1.2,f.1.2,f.2⟩
   clear f hi;rcases hm with ⟨rfl,rfl⟩ | ⟨rfl,rfl⟩ | ⟨rfl,rfl⟩ | ⟨rfl,rfl⟩ | ⟨rfl,rfl,rfl⟩ | ⟨rfl,rfl⟩ | ⟨rfl,rfl,rfl⟩ | ⟨rfl,rfl,rfl⟩ | ⟨rfl,rfl⟩<;>simp only [ax,q4,q5,q6,q7]
   ·go_simp
    rcases k with _ | _ | _ | _ | _ | _ | k<;>first
     | exact u _ _ ⟨wx.heap.size,q,r,d1,o1,d2,o2,by simpa [mb,qC,and_assoc] using hh,rfl,dB.alloc (A:=[]) t⟩
     | (exfalso;obtain ⟨h0,P,Q,R⟩:=hh;rcases R with h | h<;>first | omega | cases h)
   ·go_simp
    rcases k with _ | _ | _ | _ | _ | _ | k<;>first
     | exact u _ _ ⟨p,wx.heap.size,r,d1,o1,d2,o2,by simpa [mb,qC,and_assoc] using hh,rfl,dB.alloc (A:=fl (x && decide (_<5)) p) t⟩
     | (exfalso;obtain ⟨h0,P,Q,R⟩:=hh;rcases P with h | h<;>first | omega | cases h)
   ·go_simp
    rcases k with _ | _ | _ | _ | _ | _ | k<;>first
     | exact u _ _ ⟨p,q,wx.heap.size,d1,o1,d2,o2,by simpa [mb,qC,and_assoc] using hh,rfl,dB.alloc2 (A:=fl (x && decide (_<5)) p) (A':=fl (y && decide (_<2)) q) t⟩
     | (exfalso;obtain ⟨h0,P,Q,R⟩:=hh;rcases Q with h | h<;>first | omega | cases h)
   ·go_simp
    go_at_call 51
    refine (DY _ _ _ t).mono ?_;rintro e w1 ⟨d1,o1,rfl,_,s⟩;go_wp2_with fail;exact u _ _ ⟨p,q,r,d1,o1,d2,o2,by simpa [mb,qC,and_assoc] using hh,rfl,s⟩
   ·go_simp
    go_at_call 125
    refine (dB.mul (A:=fl (x && decide (1<5)) p) t (x:=g) (y:=(d:Int)) (L:=L) (M:=M) (by simp) (by simp) (by omega)).mono ?_;rintro e w1 ⟨rfl,s⟩;go_wp2_with fail;exact u _ _ ⟨p,q,r,d1,o1,d2,o2,by simpa [mb,qC,and_assoc] using hh,rfl,s⟩
   ·go_simp
    go_at_call 51
    refine (Y _ _ _ t).mono ?_;rintro e w1 ⟨d2,o2,rfl,_,s⟩;go_wp2_with fail;exact u _ _ ⟨p,q,r,d1,o1,d2,o2,by simpa [mb,qC,and_assoc] using hh,rfl,s⟩
   ·go_simp
    go_at_call 125
    refine (dB.mul2 (A:=fl (x && decide (3<5)) p) (A':=fl (y && decide (3<2)) q) t (x:=j) (y:=(c:Int)) (L:=M) (M:=L) (by simp) (by simp) (by omega)).mono ?_;rintro e w1 ⟨rfl,s⟩;go_wp2_with fail;exact u _ _ ⟨p,q,r,d1,o1,d2,o2,by simpa [mb,qC,and_assoc] using hh,rfl,s⟩
   ·go_simp
    first
     | (go_at_call 141;refine (dB.sub (A:=[]) t (x:=g*(d:Int)) (y:=j*(c:Int)) (L:=L+M) (M:=M+L) (by simp) (by simp) (by omega) (by omega)).mono ?_)
     | (go_at_call 124;refine (dB.add (A:=[]) t (x:=g*(d:Int)) (y:=j*(c:Int)) (L:=L+M) (M:=M+L) (by simp) (by simp) (by omega) (by omega)).mono ?_)
    rintro e w1 ⟨rfl,s⟩;rw [<- HZ] at s;go_wp2_with fail;exact u _ _ ⟨p,q,r,d1,o1,d2,o2,by simpa [mb,qC,and_assoc] using hh,rfl,s⟩
   ·go_simp
    exact u _ _ ⟨p,q,r,d1,o1,d2,o2,by simpa [mb,qC,and_assoc] using hh,rfl,t⟩
theorem xm (h:∀ c∈l,mM c=true) (c:UInt8) (hc:c∈l):48<=c.toNat/\c.toNat<=57:=by
 have:=h c hc;unfold mM at this;rw [Bool.and_eq_true,decide_eq_true_eq,decide_eq_true_eq] at this;exact this
theorem tR (s:ByteArray) (i:Nat) (h:i<s.size):s[i]∈s.data.toList:=by
 have:s[i]=s.data.toList[i]'(by simpa using h):=rfl;rw [this];exact List.getElem_mem _
theorem yV (w:World):aQ w (.slice none 0 0) 0 0:=⟨[],Ws.nil w,rfl,rfl,zL⟩
theorem iX {v:Value} {n:Nat} (h:aQ w v n L):∃ ao l cap,v=.slice ao l cap/\l<=cap/\cap<=9223372036854775807:=by
 obtain ⟨xs,a,f,g,i⟩:=h;obtain ⟨ao,c,rfl,d,e,j⟩:=a.open;exact ⟨ao,xs.length,c,rfl,d,by unfold maxLen at e;omega⟩
def SetR (w:World) (s:ByteArray) (rv iv:Value) (wr:World):Prop :=
 ∃ i:Nat,i<=s.size/\iv=.int .i64 i/\aQ wr rv (aZ (s.data.toList.take i)) (3*i)/\w.grownBy wr none/\bn w rv
def SetE (w:World) (b off:Nat) (s:ByteArray) (e:Ending) (w':World):Prop:=e=.returned (.tuple #[.pointer (some ⟨b,off,none⟩),.bool true])/\fS w w' b off/\ay w' b off (aZ s.data.toList:Nat) (3*s.size)/\dQ w w' b off
theorem dG (b off:Nat) (a:Bool) (v0:Value) (s:ByteArray) (w:World) (g:gh w b off a v0) (j:0<s.size) (hs:s.size<=1000000000000) (hd:∀ c∈s.data.toList,mM c=true) :
  Calls Tryz.prog 85 #[.pointer (some ⟨b,off,none⟩),.string s,.int .i64 10] w fun e w'=>SetE w b off s e w':=by
 have HB:=ab g;have hb:=g.lt;have HD:=ab hd;obtain ⟨f1,f2⟩:=xm hd s[0] (tR s 0 j);have g1:((s[0].toNat:Int)==45)=false:=by simp;omega
 have g2:((s[0].toNat:Int)==43)=false:=by simp;omega
 have m:((s.size:Int)==0)=false:=by simp;intro e;rw [e] at j;simp at j
 clear hd g f1 f2;go_enter Tryz.func85,Tryz.ntmps85
 go_wp2;clear g1 g2 m;go_loopw [9,10] (fun rv iv wr=>Hid (SetR w s rv iv wr)) (fun _ iv _=>s.size-(intOf iv).toNat)
 case atStart=>exact ⟨0,O,rfl,yV _,ae _ _,fun k E=>by simp [ar] at E⟩
 case round =>
  obtain ⟨i,hi,rfl,t,N,P⟩:=hrel.out;obtain ⟨ao,l,cap,rfl,hj,hl⟩:=iX t;have G:=ab t;have f:=ab N;have H:=ab P;clear t N P hrel;by_cases hlt:i<s.size
  ·obtain ⟨d1,d2⟩:=xm HD s[i] (tR s i hlt);have n:=ab (rX s i hlt);obtain ⟨c,hc⟩:=eX (s[i].toNat);have he:(48:Int)<=(s[i].toNat:Int):=O
   have hf:(s[i].toNat:Int)<=57:=O
   have HC:=ab hc;clear hc;go_wp2_with fail;refine (eY _ _ ?p1 ?p2).mono ?_
   case p1=>omega
   case p2=>omega
   rintro e w1 ⟨v1,rfl,u,Q,k3⟩;obtain ⟨hm,l1,R,rfl,ho,hp⟩:=iX u;have K1:=ab u;have I:=ab Q;clear u Q k3;go_wp2_with fail;refine (yU _ _ (aZ (s.data.toList.take i)) 10 (3*i) 2 w1 (G.keep0 I) (by simpa using K1.out) O).mono ?_;rintro e w2 ⟨v2,rfl,x,S,m3⟩;obtain ⟨hq,l2,T,rfl,hr,hu⟩:=iX x;have M1:=ab x;have M2:=ab (aa I S);clear x S m3;go_wp2_with fail;refine (eY _ _ ?q1 ?q2).mono ?_
   case q1=>omega
   case q2=>omega
   rintro e w3 ⟨v3,rfl,y,C,n3⟩;obtain ⟨hv,l3,U,rfl,hw,hx⟩:=iX y;have N1:=ab y;have J:=ab (aa M2 C);have q:=ab (M1.keep0 C);clear y C n3;go_wp2_with fail;refine (yp _ _ _ _ (3*i+2) 2 w3 q N1 O O).mono ?_;rintro e w4 ⟨v4,rfl,p1,p2,V⟩;obtain ⟨D,l4,d,rfl,hy,hz⟩:=iX p1;have P1:=ab p1;have P2:=ab (aa J p2);have P3:=ab (show bn w (Value.slice D l4 d) from fun k E=>Nat.le_trans (aa f J).size (V k E));clear p1 p2 V;go_wp2;go_roundw
   case rel =>
    refine ⟨i+1,O,zN,?_,aa f P2,P3⟩;rw [n,oX];have hP:=P1.out.mono (L':=3*(i+1)) O;have e:((s[i].toNat:Int)-48).toNat=s[i].toNat-48:=O
    first
     | exact hP
     | (rw [e] at hP;exact hP)
   case measure=>simp [intOf];omega
  ·have K:s.data.toList.take i=s.data.toList:=zT (by have:=Lib.size_eq s;omega);have r:i=s.size:=O
   have HT:=ab K;clear K;go_wp2_with fail;refine (fW b off a v0 _ _ _ _ wr (HB.keep0 f) G (fV (w1:=w) H hb)).mono ?_;rintro e w2 ⟨rfl,W,X,Y⟩;have A1:=ab W;have A2:=ab X;have A5:=ab Y;clear W X Y;go_wp2;refine bodyPost_ret (v:=.tuple #[.pointer (some ⟨b,off,none⟩),.bool true]) (by simp [results,Tryz.results85,go_sem]) rfl ?_;refine ⟨rfl,(fS.of_gr f b off hb).trans A1,?_,dQ.of A5 H zL⟩;have h:=A2.out;rw [HT,r] at h;exact h
theorem xj (b off:Nat) (z:Int) (L:Nat) (w:World) (h:ay w b off z L) :
  Calls Tryz.prog 50 #[.pointer (some ⟨b,off,none⟩)] w fun e w'=>e=.returned (.int .i64 (jT z))/\w'=w:=by
 obtain ⟨neg,v,f,g,c,n⟩:=h;obtain ⟨s,l,t,rfl,d,_,q,r,_,_⟩:=aE g;have c0:=f.c0;have c1:=f.c1;clear f g n;by_cases i:z=0
 ·have a:l=0:=d.2 O;subst a;clear d;go_enter Tryz.func50,Tryz.ntmps50
  go_wp2;go_ret;exact ⟨by simp [jT,i],rfl⟩
 ·have a:0<l:=by
   rcases zP l with e | e
   ·have:=d.1 e;omega
   ·exact e
  have j:((l:Int)==0)=false:=by simp;omega
  clear d;by_cases hn:z<0
  ·obtain rfl:neg=true:=by rw [c];simp [hn]
   clear c;go_enter Tryz.func50,Tryz.ntmps50
   go_wp2;go_ret;exact ⟨by simp [jT,hn],rfl⟩
  ·obtain rfl:neg=false:=by rw [c];simp [hn]
   clear c;go_enter Tryz.func50,Tryz.ntmps50
   go_wp2;go_ret;refine ⟨?_,rfl⟩;have m:0<z:=O
   simp [jT,hn,m]
theorem pO (b:Nat) (z:Int) (L:Nat) (w:World) (h:ay w b 0 z L) :
  Calls Tryz.prog 25 #[.pointer (some ⟨b,0,none⟩)] w fun e w'=>e=.returned (.int .i64 (jT z))/\w'=w:=by
 have H:=ab h;clear h;go_enter Tryz.func25,Tryz.ntmps25
 go_wp2_with fail;refine (xj b 0 z L w H).mono ?_;rintro e w1 ⟨rfl,rfl⟩;go_wp2;go_ret;exact ⟨rfl,rfl⟩
theorem uJ {x:Int} {y:Nat} (h:Nat.gcd x.natAbs y=1):ft x y=x/\fj x y=y:=by
 unfold ft fj;rw [h];simp
theorem vp (b:Nat) (x:Int) (y L:Nat) (w:World) (h:bJ w b x y L) (i:L<=4000000000000) :
  Calls Tryz.prog 126 #[.pointer (some ⟨b,0,none⟩),.pointer (some ⟨b,0,none⟩)] w fun e w'=>e=.returned (.pointer (some ⟨b,0,none⟩))/\bA w w' b/\bJ w' b x y (L+2):=by
 have H:=ab h;obtain ⟨n,v1,d,_⟩:=h.1;obtain ⟨q,v2,f,_⟩:=h.2.1;have j:=ab d;have m:=ab f;have a:=uJ h.2.2.2;have c:=ab a;clear h d f a;go_enter Tryz.func126,Tryz.ntmps126
 go_wp2;go_region_with (first | (go_at_call 51;refine (sD b x y L _ (H.keep0 (az _))).mono ?_;rintro e w1 ⟨rfl,rfl⟩) | (go_at_call 86;refine (cZ b b 0 b 2 n q v1 v2 x y L _ (j.keep0 (az _)) (m.keep0 (az _)) (H.1.keep0 (az _)) (H.2.1.keep0 (az _)) H.2.2.1 i).mono ?_;rintro e s ⟨rfl,r,g⟩))
 all_goals go_wp2
 all_goals go_ret
 all_goals rw [c.1,c.2] at g
 all_goals exact ⟨rfl,(bA.of_gr (az _)).trans r,g⟩
theorem nE (b:Nat) (x:Int) (y L:Nat) (w:World) (h:bJ w b x y L) (j:L<=4000000000000) :
  Calls Tryz.prog 80 #[.pointer (some ⟨b,0,none⟩),.pointer (some ⟨b,0,none⟩)] w fun e w'=>e=.returned (.pointer (some ⟨b,0,none⟩))/\bA w w' b/\bJ w' b (-x) y (L+2):=by
 have H:=ab h;clear h;go_enter Tryz.func80,Tryz.ntmps80
 go_wp2_with fail;refine (vp b x y L w H j).mono ?_;rintro e w1 ⟨rfl,g,d⟩;obtain ⟨q,v1,i,_⟩:=d.1;have m:=ab g;have a:=ab d;have n:=ab i;clear g d i;go_wp2;go_region_with (go_at_call 127;refine (mR b 0 b 0 q v1 x (L+2) _ (n.keep0 (az _)) (a.1.keep0 (az _)) O).mono ?_;rintro e u ⟨rfl,c1,r,C⟩)
 all_goals go_wp2
 all_goals go_ret
 all_goals refine ⟨rfl,m.trans ((bA.of_gr (az _)).trans (bA.of_put c1)),r,?_,a.2.2.1,by rw [Int.natAbs_neg];exact a.2.2.2⟩
 all_goals refine (a.2.1.keep0 (az _)).keep c1 (.inr (.inr O)) ?_
 all_goals (intro v c e;obtain ⟨D,v2,s,E,G,t⟩:=a.out.2.1;have f:=s.c1;simp at f c;rw [f] at c;exact t (by rw [zJ c];exact e))
theorem low_mk (x:Int) (y:Nat) (hy:0<y):ft x y=(mkRat x y).num/\fj x y=(mkRat x y).den:=by
 rw [Rat.num_mkRat,Rat.den_mkRat,if_neg O,if_neg O];unfold ft fj;rw [Nat.gcd_comm y x.natAbs];exact ⟨rfl,rfl⟩
def RQ (w:World) (b:Nat) (q:Rat) (L:Nat):Prop:=bJ w b q.num q.den L
theorem RQ.keep0 {q:Rat} (h:RQ w b q L) (hg:w.grownBy w' none):RQ w' b q L:=bJ.keep0 h hg
theorem RQ.mono {q:Rat} (h:RQ w b q L) (a:L<=L'):RQ w b q L':=bJ.mono h a
def BG (w:World) (q:Rat) (L:Nat) (e:Ending) (w':World):Prop:=∃ b,e=.returned (.pointer (some ⟨b,0,none⟩))/\RQ w' b q L/\w.grownBy w' none/\w.heap.size<=b
theorem dZ (w:World):gh (w.alloc (.cells #[.bool false,.slice none 0 0,.bool false,.slice none 0 0] 108)) w.heap.size 0 false (.slice none 0 0)/\gh (w.alloc (.cells #[.bool false,.slice none 0 0,.bool false,.slice none 0 0] 108)) w.heap.size 2 false (.slice none 0 0) :=
 ⟨by constructor<;>simp,by constructor<;>simp⟩
theorem kA {a:World} (h:w.grownBy w1 none) (k:bA w1 a b) (hb:w.heap.size<=b):w.grownBy a none :=
 aw h k.gr (fun _ _ e=>e) (fun c hc e=>by cases e;omega)
theorem bJ.q {x:Int} {y:Nat} {q:Rat} (hy:0<y) (a:mkRat x y=q) (h:bJ w b (ft x y) (fj x y) L):RQ w b q L:=by
 obtain ⟨c,d⟩:=low_mk x y hy;rw [c,d,a] at h;exact h
theorem AT (x:Int):mkRat x 1=(x:Rat):=by
 rw [Rat.mkRat_eq_div];have:((1:Nat):Rat)=1:=rfl;rw [this,Rat.div_def];have:(1:Rat)⁻¹=1:=by decide +kernel
 rw [this,Rat.mul_one]
def oN (w:World) (b L:Nat):Prop:=ay w b 0 0 L/\ay w b 2 0 L
theorem oN.keep0 (h:oN w b L) (hg:w.grownBy w' none):oN w' b L:=⟨h.1.keep0 hg,h.2.keep0 hg⟩
theorem yw (b L:Nat) (w:World) (h:oN w b L) :
  Calls Tryz.prog 51 #[.pointer (some ⟨b,0,none⟩)] w fun e w'=>e=.returned (.pointer (some ⟨w.heap.size,0,none⟩))/\w.grownBy w' none/\ay w' w.heap.size 0 1 2/\dQ w w' w.heap.size 0:=by
 obtain ⟨x,y,a,c,q,r⟩:=h.2;obtain ⟨bo,lb,s,rfl,d,C,D,E,t,u⟩:=aE c;obtain rfl:lb=0:=d.2 rfl;have v:w.cell? ⟨b,3,none⟩=some (.slice bo 0 s):=a.c1;clear a c q r d t u h;go_enter Tryz.func51,Tryz.ntmps51
 go_wp2_with fail;refine (dF 1 _ O O).mono ?_;rintro e w1 ⟨rfl,f,g,i⟩;have j:=ab f;have m:=ab g;have n:=ab i;clear f g i;go_wp2;go_ret;exact ⟨rfl,j,m,n⟩
def RX (w:World) (b:Nat) (q:Rat) (L:Nat):Prop:=ay w b 0 q.num L/\kV w b q.den L
theorem RX.keep0 {q:Rat} (h:RX w b q L) (hg:w.grownBy w' none):RX w' b q L:=⟨h.1.keep0 hg,h.2.keep0 hg⟩
theorem RQ.x {q:Rat} (h:RQ w b q L):RX w b q L:=⟨h.1,bJ.denC h⟩
theorem oN.x (h:oN w b L) (a:2<=L):RX w b 0 L:=by
 refine ⟨h.1,?_⟩;have:kV w b 1 2:=by
  intro w1 F I m;refine (yw b L w1 (h.keep0 m.gr)).mono ?_;rintro e w' ⟨rfl,g,c,d⟩;exact ⟨w1.heap.size,0,rfl,g,m.new g c zL d⟩
 exact this.mono a
theorem sub_mk (p q:Rat):mkRat (p.num*(q.den:Int)-q.num*(p.den:Int)) (p.den*q.den)=p-q:=(Rat.sub_def' p q).symm
theorem zg (c d:Nat) (p q:Rat) (L M:Nat) (w:World) (f:RX w c p L) (g:RX w d q M) (n:L+M<=3900000000000) :
  Calls Tryz.prog 47 #[.pointer (some ⟨c,0,none⟩),.pointer (some ⟨d,0,none⟩)] w fun e w'=>BG w (p-q) (L+M+3) e w':=by
 have h:=ab f;have i:=ab g;clear f g;go_enter Tryz.func47,Tryz.ntmps47
 go_wp2_with fail;have a:=ag (ae w none) (.cells #[.bool false,.slice none 0 0,.bool false,.slice none 0 0] 108);refine (vk false w.heap.size c d false false (.slice none 0 0) (.slice none 0 0) _ _ _ _ L M _ (dZ w).1 (dZ w).2 (h.1.keep0 a) (i.1.keep0 a) (h.2.keep0 a) (i.2.keep0 a) p.den_pos q.den_pos n).mono ?_;rintro e w1 ⟨rfl,j,m⟩;have r:=ab j;have s:=ab m;clear j m a;go_wp2;go_ret;exact ⟨_,rfl,bJ.q (Nat.mul_pos p.den_pos q.den_pos) (sub_mk p q) s,kA (ag (ae _ _) _) r zL,zL⟩
theorem DN (a c:Nat) (p q:Rat) (L M:Nat) (w:World) (d:RX w a p L) (f:RX w c q M) (g:L+M<=3900000000000) :
  Calls Tryz.prog 26 #[.pointer (some ⟨a,0,none⟩),.pointer (some ⟨c,0,none⟩)] w fun e w'=>BG w (p-q) (L+M+3) e w':=by
 have i:=ab d;have j:=ab f;clear d f;go_enter Tryz.func26,Tryz.ntmps26
 go_wp2_with fail;refine (zg a c p q L M _ i j g).mono ?_;rintro e w1 ⟨b,rfl,h⟩;have H:=ab h;clear h;go_wp2;go_ret;exact ⟨b,rfl,H⟩
theorem add_mk (p q:Rat):mkRat (p.num*(q.den:Int)+q.num*(p.den:Int)) (p.den*q.den)=p+q:=(Rat.add_def' p q).symm
theorem rAdd_at (c d:Nat) (p q:Rat) (L M:Nat) (w:World) (f:RX w c p L) (g:RX w d q M) (n:L+M<=3900000000000) :
  Calls Tryz.prog 43 #[.pointer (some ⟨c,0,none⟩),.pointer (some ⟨d,0,none⟩)] w fun e w'=>BG w (p+q) (L+M+3) e w':=by
 have h:=ab f;have i:=ab g;clear f g;go_enter Tryz.func43,Tryz.ntmps43
 go_wp2_with fail;have a:=ag (ae w none) (.cells #[.bool false,.slice none 0 0,.bool false,.slice none 0 0] 108);refine (vk true w.heap.size c d false false (.slice none 0 0) (.slice none 0 0) _ _ _ _ L M _ (dZ w).1 (dZ w).2 (h.1.keep0 a) (i.1.keep0 a) (h.2.keep0 a) (i.2.keep0 a) p.den_pos q.den_pos n).mono ?_;rintro e w1 ⟨rfl,j,m⟩;have r:=ab j;have s:=ab m;clear j m a;go_wp2;go_ret;exact ⟨_,rfl,bJ.q (Nat.mul_pos p.den_pos q.den_pos) (add_mk p q) s,kA (ag (ae _ _) _) r zL,zL⟩
def RV (w:World) (b:Nat) (q:Rat) (L:Nat):Prop:=RQ w b q L∨(q=0/\oN w b L)
theorem RV.keep0 {q:Rat} (h:RV w b q L) (hg:w.grownBy w' none):RV w' b q L:=by
 rcases h with h | ⟨e,h⟩
 ·exact .inl (h.keep0 hg)
 ·exact .inr ⟨e,h.keep0 hg⟩
theorem RV.mono {q:Rat} (h:RV w b q L) (a:L<=L'):RV w b q L':=by
 rcases h with h | ⟨e,h⟩
 ·exact .inl (h.mono a)
 ·exact .inr ⟨e,h.1.mono a,h.2.mono a⟩
theorem RV.x {q:Rat} (h:RV w b q L) (a:2<=L):RX w b q L:=by
 rcases h with h | ⟨rfl,h⟩
 ·exact h.x
 ·exact h.x a
theorem RV.ints {q:Rat} (h:RV w b q L):∃ z y:Int,ay w b 0 z L/\ay w b 2 y L:=by
 rcases h with h | ⟨rfl,h⟩
 ·exact ⟨_,_,h.1,h.2.1⟩
 ·exact ⟨_,_,h.1,h.2⟩
theorem RV.lt {q:Rat} (h:RV w b q L):b<w.heap.size:=by
 obtain ⟨z,y,⟨c,v1,a,_⟩,_⟩:=h.ints;exact a.lt
theorem Ws.keepV {v:Value} {xs:List Nat} (h:Ws w v xs) (hg:w.grownBy w' (some k)) (hn:bP w k):Ws w' v xs:=by
 refine ⟨h.sm,?_⟩;rcases h.sh with d | ⟨b,off,cap,rfl,hb,f,g,hc⟩
 ·exact .inl d
 ·refine .inr ⟨b,off,cap,rfl,Nat.lt_of_lt_of_le hb hg.size,f,g,fun i hi=>?_⟩;have c:b≠k:=fun e=>hn (off+i) xs[i] (by rw [<- e];exact hc i hi)
  have e:w'.heap[b]? = w.heap[b]?:=hg.block b hb (fun e=>c (zJ e));exact (World.cell?_of_block (a:=⟨b,off+i,none⟩) e).trans (hc i hi)
theorem ay.keepV {off:Nat} (h:ay w b off z L) (hg:w.grownBy w' (some k)) (hn:bP w k) (d:b≠k):ay w' b off z L:=by
 obtain ⟨neg,v,c,⟨xs,f,g⟩,i⟩:=h;have e:w'.heap[b]? = w.heap[b]?:=hg.block b c.lt (fun e=>d (zJ e));exact ⟨neg,v,⟨(World.cell?_of_block (a:=⟨b,off,none⟩) e).trans c.c0,(World.cell?_of_block (a:=⟨b,off+1,none⟩) e).trans c.c1,(World.frozen?_of_block (a:=⟨b,off,none⟩) e).trans c.f0,(World.frozen?_of_block (a:=⟨b,off+1,none⟩) e).trans c.f1⟩,⟨xs,f.keepV hg hn,g⟩,i⟩
theorem RV.keepV {q:Rat} (h:RV w b q L) (hg:w.grownBy w' (some k)) (hn:bP w k) (a:b≠k):RV w' b q L:=by
 rcases h with h | ⟨e,h⟩
 ·exact .inl ⟨h.1.keepV hg hn a,h.2.1.keepV hg hn a,h.2.2⟩
 ·exact .inr ⟨e,h.1.keepV hg hn a,h.2.keepV hg hn a⟩
def pv:Option Nat->Value
 | none=>.pointer none
 | some b=>.pointer (some ⟨b,0,none⟩)
theorem Tryz.infoPR:(Tryz.prog.info? 47).map (fun i=>(i.zero,i.size,i.bytes))=some (some (pv none),1,8):=zK
theorem tj (a:Nat) (h i:Bool) (v1 v2:Value) (x:Int) (w:World) (c:gh w a 0 h v1) (d:gh w a 2 i v2) (t:-9223372036854775808<=x) (u:x<=9223372036854775807) :
  Calls Tryz.prog 49 #[.pointer (some ⟨a,0,none⟩),.int .i64 x] w fun e w'=>e=.returned (.pointer (some ⟨a,0,none⟩))/\bA w w' a/\RQ w' a (x:Rat) 4:=by
 have v:=ab c;have y:=ab d;clear c d;go_enter Tryz.func49,Tryz.ntmps49
 go_wp2_with fail;refine (dF x _ t u).mono ?_;rintro e w1 ⟨rfl,j,m,H⟩;have g:=ab j;have C:=ab m;clear j m H;go_wp2_with fail;refine (dF 1 _ O O).mono ?_;rintro e J ⟨rfl,n,r,I⟩;have f:=ab n;have D:=ab r;clear n r I;go_wp2_with fail;refine (cZ a w.heap.size 0 w1.heap.size 0 h i v1 v2 x 1 2 _ ((v.keep0 g).keep0 f) ((y.keep0 g).keep0 f) (C.keep0 f) D O O).mono ?_;rintro e K ⟨rfl,c1,s⟩;have E:=ab c1;have G:=ab s;clear c1 s;go_wp2;go_ret;exact ⟨rfl,((bA.of_gr g).trans (bA.of_gr f)).trans E,bJ.q O (AT x) G⟩
theorem fm (x:Int) (w:World) (d:-9223372036854775808<=x) (f:x<=9223372036854775807) :
  Calls Tryz.prog 22 #[.int .i64 x] w fun e w'=>BG w (x:Rat) 4 e w':=by
 go_enter Tryz.func22,Tryz.ntmps22
 go_wp2_with fail;refine (tj w.heap.size false false (.slice none 0 0) (.slice none 0 0) x _ (dZ w).1 (dZ w).2 d f).mono ?_;rintro e w1 ⟨rfl,a,c⟩;have g:=ab a;have h:=ab c;clear a c;go_wp2;go_ret;exact ⟨_,rfl,h,kA (ag (ae _ _) _) g zL,zL⟩
theorem jK (c:UInt8):([48,49,50,51,52,53,54,55,56,57]:List UInt8).contains c=mM c:=by
 rw [Bool.eq_iff_iff];simp [mM,<- UInt8.toNat_inj];omega
theorem jL (c:UInt8):([48]:List UInt8).contains c=true↔c=48:=Z
theorem wY (p:UInt8->Bool):∀ l:List UInt8,l.dropWhile p=[]↔∀ c∈l,p c=true
 | []=>Z
 | a :: r=>by
  rw [List.dropWhile_cons];by_cases h:p a=true
  ·rw [if_pos h,wY p r];simp [h]
  ·rw [if_neg h];simp [h]
theorem yC (p:UInt8->Bool):∀ (l:List UInt8) (x:UInt8) (r:List UInt8),l.dropWhile p=x :: r->p x=false
 | [],x,r,h=>by simp at h
 | a :: t,x,r,h=>by
  rw [List.dropWhile_cons] at h;by_cases ha:p a=true
  ·rw [if_pos ha] at h;exact yC p t x r h
  ·rw [if_neg ha] at h;obtain ⟨rfl,_⟩:=List.cons.inj h;simpa using ha
theorem Cr (p:UInt8->Bool):∀ (l:List UInt8) (c:UInt8),c∈l.dropWhile p->c∈l
 | [],c,h=>by simp at h
 | a :: t,c,h=>by
  rw [List.dropWhile_cons] at h;by_cases ha:p a=true
  ·rw [if_pos ha] at h;exact List.mem_cons_of_mem _ (Cr p t c h)
  ·rw [if_neg ha] at h;exact h
theorem rY (l cs:List UInt8):Lib.trimS l cs=[]↔∀ c∈l,cs.contains c=true:=by
 unfold Lib.trimS Lib.trimLeftS Lib.trimRightS;rw [wY];constructor
 ·intro h;cases he:l.reverse.dropWhile (fun x=>cs.contains x) with
  | nil =>
   rw [wY] at he;exact fun c hc=>he c (by simpa using hc)
  | cons x r =>
   exfalso
   have d:=yC _ _ _ _ he;have a:=h x (by rw [he];simp);simp only [d] at a;exact absurd a Z
 ·intro h c hc;rw [List.mem_reverse] at hc;exact h c (by simpa using Cr _ _ _ hc)
theorem wC (hd:∀ c∈l,mM c=true) (h:aZ l=0):∀ c∈l,([48]:List UInt8).contains c=true:=by
 induction l with
 | nil=>intro c hc;simp at hc
 | cons a r ih =>
  have e:=lj [a] r;simp only [List.singleton_append] at e;rw [h] at e;have d:aZ [a]*10^r.length=0:=O
  have f:aZ r=0:=O
  have g:aZ [a]=0:=by
   rcases Nat.mul_eq_zero.1 d with h | h
   ·exact h
   ·have:=Nat.pow_pos (n:=r.length) (show 0<10 by decide);omega
  have i:=(xm hd a Z).1;intro c hc;rcases List.mem_cons.1 hc with rfl | hc
  ·rw [jL,<- UInt8.toNat_inj];simp [aZ] at g;show c.toNat=48
   omega
  ·exact ih (fun c hc=>hd c (by simp [hc])) f c hc
theorem tL (h:∀ c∈l,([48]:List UInt8).contains c=true):aZ l=0:=by
 induction l with
 | nil=>rfl
 | cons a r ih =>
  have e:=lj [a] r;simp only [List.singleton_append] at e;have d:=(jL a).1 (h a Z);rw [e,ih (fun c hc=>h c (by simp [hc])),d];have:aZ [(48:UInt8)]=0:=zD
  rw [this];simp
theorem iP {s:ByteArray} (h:cr s.data.toList=true):0<s.size:=by
 rw [Lib.size_eq];unfold cr at h;cases hl:s.data.toList with
 | nil=>rw [hl] at h;simp at h
 | cons a r=>simp
theorem j9 (h:Below w.heap.size w w'):w.grownBy w' none:=by
 obtain ⟨a,b,c,d,e⟩:=h;exact ⟨a,b,c,d,fun k f _=>e k f⟩
theorem uf (h:l=[]):(⟨l.toArray⟩:ByteArray)=⟨#[]⟩:=by rw [h]
theorem pt (h:l≠[]):(⟨l.toArray⟩:ByteArray).toList.isEmpty=false:=by
 rw [Lib.toList_data];cases l with
 | nil=>exact absurd rfl h
 | cons a r=>rfl
theorem aS (s:ByteArray) (w:World) (u:s.size<=9223372036854775807) :
  Calls Tryz.prog 83 #[.string s] w fun e w'=>e=.returned (.bool (cr s.data.toList))/\w.grownBy w' none:=by
 by_cases n:s.data.toList=[]
 ·have v:s=⟨#[]⟩:=by
   rw [<- Lib.mk_data s,n]
  subst v;go_enter Tryz.func83,Tryz.ntmps83
  go_wp2;go_ret;exact ⟨rfl,ae _ _⟩
 ·have t:s.toList.isEmpty=false:=by
   rw [Lib.toList_data];cases h:s.data.toList with
   | nil=>exact absurd h n
   | cons a r=>rfl
  have d:=Any.strings_Trim_laid Tryz.lays160 zK s ⟨#[48,49,50,51,52,53,54,55,56,57]⟩ w u zD (ascii_of_all zD);change Calls Tryz.prog 84 _ _ (fun e w'=>e=.returned (.string ⟨(Lib.trimS s.data.toList [48,49,50,51,52,53,54,55,56,57]).toArray⟩)/\Below w.heap.size w w') at d
  have hn:=rY s.data.toList [48,49,50,51,52,53,54,55,56,57];have f:cr s.data.toList=s.data.toList.all mM:=by
   unfold cr;cases h:s.data.toList with
   | nil=>exact absurd h n
   | cons a r=>rfl
  by_cases ha:s.data.toList.all mM=true
  ·have m:=uf (hn.2 (fun c hc=>by rw [jK];exact List.all_eq_true.1 ha c hc));rw [m] at d;rw [f,ha];have g:=ab d;clear d hn m ha f;go_enter Tryz.func83,Tryz.ntmps83
   go_wp2_with fail;refine g.mono ?_;rintro e w1 ⟨rfl,j⟩;have q:=ab (j9 j);clear j;go_wp2;go_ret;exact ⟨rfl,q⟩
  ·have i:s.data.toList.all mM=false:=by simpa using ha
   have m:=pt (fun e=>ha (List.all_eq_true.2 (fun c hc=>by rw [<- jK];exact hn.1 e c hc)));rw [f,i];generalize (⟨(Lib.trimS s.data.toList [48,49,50,51,52,53,54,55,56,57]).toArray⟩:ByteArray)=r at d m;have g:=ab d;clear d hn ha f i;go_enter Tryz.func83,Tryz.ntmps83
   go_wp2_with fail;refine g.mono ?_;rintro e w1 ⟨rfl,j⟩;have q:=ab (j9 j);clear j;go_wp2;go_ret;exact ⟨rfl,q⟩
theorem nK (s:ByteArray) (w:World) (d:s.size<=9223372036854775807) :
  Calls Tryz.prog 84 #[.string s,.string ⟨#[48]⟩] w fun e w'=>∃ r:ByteArray,e=.returned (.string r)/\(((∀ c∈s.data.toList,([48]:List UInt8).contains c=true)->r=⟨#[]⟩)/\((¬ ∀ c∈s.data.toList,([48]:List UInt8).contains c=true)->r.toList.isEmpty=false))/\w.grownBy w' none:=by
 have a:=Any.strings_Trim_laid Tryz.lays160 zK s ⟨#[48]⟩ w d zD (ascii_of_all zD);change Calls Tryz.prog 84 _ _ (fun e w'=>e=.returned (.string ⟨(Lib.trimS s.data.toList [48]).toArray⟩)/\Below w.heap.size w w') at a
 have hn:=rY s.data.toList [48];refine a.mono ?_;rintro e w1 ⟨rfl,f⟩;exact ⟨_,rfl,⟨fun h=>uf (hn.2 h),fun h=>pt (fun e=>h (hn.1 e))⟩,j9 f⟩
def SplitE (w:World) (t:ByteArray) (e:Ending) (w':World):Prop :=
 w.grownBy w' none/\∃ A:ByteArray,A.data.toList=(Lib.cut t.data.toList [47]).1/\w'.cell? ⟨w.heap.size,0,none⟩=some (.string A) /\
  (((Lib.cut t.data.toList [47]).2.2=false/\∃ cap,1<=cap/\cap<=2/\e=.returned (.slice (some ⟨w.heap.size,0,none⟩) 1 cap)) ∨
   ((Lib.cut t.data.toList [47]).2.2=true/\∃ B:ByteArray,B.data.toList=(Lib.cut t.data.toList [47]).2.1/\w'.cell? ⟨w.heap.size,1,none⟩=some (.string B)/\e=.returned (.slice (some ⟨w.heap.size,0,none⟩) 2 2)))
theorem yh (t:ByteArray) (i:Nat) (h:i<=t.size):(t.extract 0 i).data.toList=t.data.toList.take i:=by
 rw [ByteArray.data_extract,Array.toList_extract];simp
theorem vK (t:ByteArray) (m:Int) (w:World) (g:t.size<=4200000000) (f:w.cell? ⟨1,0,none⟩=some (.int .i64 m)) :
  Calls Tryz.prog 82 #[.string t,.string ⟨#[47]⟩,.int .i64 2] w fun e w'=>SplitE w t e w':=by
 refine (Tryz.strings_SplitN t ⟨#[47]⟩ 2 m w O f zD zD zD).mono ?_;rintro e w1 ⟨rfl,rfl⟩;refine ⟨ag (ae _ _) _,?_⟩;rcases Lib.indexB_cases t ⟨#[47]⟩ with hi | ⟨i,hi,d⟩
 ·rw [Lib.splitB_miss _ _ _ _ hi];have hc:Lib.cut t.data.toList [47]=(t.data.toList,[],false):=by
   unfold Lib.cut;have:Lib.index t.data.toList [47] = -1:=hi;rw [this,if_neg zD]
  rw [hc];refine ⟨t,rfl,?_,.inl ⟨rfl,min 2 (t.size+1),O,O,rfl⟩⟩;rw [World.cell?_alloc_at _ _ _ _ rfl];simp [Lib.cellsOf]
 ·have a:(⟨#[47]⟩:ByteArray).size=1:=rfl;rw [a] at d;have c:min 2 (t.size+1)=2:=O
  rw [c];rw [show (2-1:Nat)=0+1 from rfl,Lib.splitB_hit _ _ _ _ i hi,Lib.splitB_zero,a,Nat.add_zero];have hc:Lib.cut t.data.toList [47]=(t.data.toList.take i,t.data.toList.drop (i+1),true):=by
   unfold Lib.cut;have:Lib.index t.data.toList [47]=(i:Int):=hi;rw [this,if_pos O];simp
  rw [hc];refine ⟨t.extract 0 i,yh t i O,?_,.inr ⟨rfl,t.extract (i+1) t.size,(kv t (i+1) O).1,?_,rfl⟩⟩
  ·rw [World.cell?_alloc_at _ _ _ _ rfl];simp [Lib.cellsOf]
  ·rw [World.cell?_alloc_at _ _ _ _ rfl];simp [Lib.cellsOf]
theorem xQ {s:ByteArray} (h:Lib.hasPrefix s.data.toList [45]=true):1<=s.size/\Lib.trimPrefix s.data.toList [45]=(s.extract 1 s.size).data.toList:=by
 have c:1<=s.size:=by
  rw [Lib.size_eq];unfold Lib.hasPrefix at h;cases hl:s.data.toList with
  | nil=>rw [hl] at h;simp at h
  | cons a r=>simp
 refine ⟨c,?_⟩;unfold Lib.trimPrefix;rw [if_pos h,(kv s 1 c).1];rfl
theorem vI {s:List UInt8} {a:Bool} {T A:List UInt8} (c:Lib.hasPrefix s [45]=a) (d:Lib.trimPrefix s [45]=T) (f:A=(Lib.cut T [47]).1) (g:(Lib.cut T [47]).2.2=false):iy s=if cr A then aY a (aZ A) 1 else (false,0,1):=by
 have e:fD T=[49]:=by unfold fD;rw [g];rfl
 unfold iy;rw [c,d,e,f];have h:cr [49]=true:=zD
 have i:aZ [49]=1:=zD
 rw [h,i,Bool.and_true]
theorem vJ {s:List UInt8} {a:Bool} {T A B:List UInt8} (c:Lib.hasPrefix s [45]=a) (d:Lib.trimPrefix s [45]=T) (f:A=(Lib.cut T [47]).1) (g:B=(Lib.cut T [47]).2.1) (h:(Lib.cut T [47]).2.2=true):iy s=if cr A && cr B then aY a (aZ A) (aZ B) else (false,0,1):=by
 have e:fD T=B:=by unfold fD;rw [h,g];rfl
 unfold iy;rw [c,d,e,f]
theorem iI (w:World):gh (w.alloc (.cells #[.bool false,.slice none 0 0,.bool false,.slice none 0 0] 108)) w.heap.size 0 false (.slice none 0 0)/\gh (w.alloc (.cells #[.bool false,.slice none 0 0,.bool false,.slice none 0 0] 108)) w.heap.size 2 false (.slice none 0 0) :=
 ⟨⟨Z,Z,Z,Z⟩,⟨Z,Z,Z,Z⟩⟩
def zR (w:World) (l:List UInt8) (L:Nat) (e:Ending) (w':World):Prop :=
 ∃ b,e=.returned (.pointer (some ⟨b,0,none⟩))/\w.grownBy w' none/\w.heap.size<=b/\ay w' b 0 (sg (iy l).1 (iy l).2.1) L /\
  (bJ w' b (sg (iy l).1 (iy l).2.1) (iy l).2.2 L∨(iy l=(false,0,1)/\ay w' b 2 0 L))
theorem fY (h:iy l=(false,0,1)) (hg:w.grownBy w1 none) :
  zR w l L (.returned (.pointer (some ⟨w1.heap.size,0,none⟩))) (w1.alloc (.cells #[.bool false,.slice none 0 0,.bool false,.slice none 0 0] 108)):=by
 have a:∀ off,gh (w1.alloc (.cells #[.bool false,.slice none 0 0,.bool false,.slice none 0 0] 108)) w1.heap.size off false (.slice none 0 0)->ay (w1.alloc (.cells #[.bool false,.slice none 0 0,.bool false,.slice none 0 0] 108)) w1.heap.size off 0 L:=by
  intro off c;exact ⟨false,.slice none 0 0,c,(yV _).mono (Nat.zero_le _),Z,by simp [ar]⟩
 refine ⟨_,rfl,ag hg _,hg.size,?_,.inr ⟨h,a 2 (iI w1).2⟩⟩;rw [h];exact a 0 (iI w1).1
theorem yQ (n d:Nat) (hd:0<d) (a:Bool):sg (aY a n d).1 (aY a n d).2.1=(if a then-ft (n:Int) d else ft (n:Int) d)/\(aY a n d).2.2=fj (n:Int) d:=by
 unfold aY ft fj;rw [Int.natAbs_natCast];by_cases hn:n=0
 ·subst hn;rw [if_pos (.inl rfl)];simp [sg,Nat.div_self hd]
 ·rw [if_neg O];cases a<;>simp [sg]
theorem zm {c:World} {n d a:Nat} (h:iy l=aY false n d) (hd:0<d) (e:bJ c a (ft (n:Int) d) (fj (n:Int) d) L) (hg:w.grownBy c none) (hn:w.heap.size<=a) (f:L<=L') :
  zR w l L' (.returned (.pointer (some ⟨a,0,none⟩))) c:=by
 obtain ⟨j,m⟩:=yQ n d hd false;have g:sg (iy l).1 (iy l).2.1=ft (n:Int) d:=by rw [h];simpa using j
 have i:(iy l).2.2=fj (n:Int) d:=by rw [h];exact m
 refine ⟨a,rfl,hg,hn,?_,.inl ?_⟩
 ·rw [g];exact e.1.mono f
 ·rw [g,i];exact e.mono f
theorem zk {c:World} {n d a:Nat} (h:iy l=aY true n d) (hd:0<d) (e:bJ c a (- ft (n:Int) d) (fj (n:Int) d) L) (hg:w.grownBy c none) (hn:w.heap.size<=a) (f:L<=L') :
  zR w l L' (.returned (.pointer (some ⟨a,0,none⟩))) c:=by
 obtain ⟨j,m⟩:=yQ n d hd true;have g:sg (iy l).1 (iy l).2.1 = - ft (n:Int) d:=by rw [h];simpa using j
 have i:(iy l).2.2=fj (n:Int) d:=by rw [h];exact m
 refine ⟨a,rfl,hg,hn,?_,.inl ?_⟩
 ·rw [g];exact e.1.mono f
 ·rw [g,i];exact e.mono f
theorem vw (s:ByteArray) (m:Int) (w:World) (hs:s.size<=3000000000) (P:w.cell? ⟨1,0,none⟩=some (.int .i64 m)) (i:Lib.hasPrefix s.data.toList [45]=false) :
  Calls Tryz.prog 45 #[.string s] w fun e w'=>zR w s.data.toList (3*s.size+8) e w':=by
 have he:=ab P;have j:=ab i;have HT:Hid (Lib.trimPrefix s.data.toList [45]=s.data.toList):=by
  show _=_
  unfold Lib.trimPrefix;rw [if_neg (by rw [i];simp)]
 clear P i;go_enter Tryz.func45,Tryz.ntmps45
 go_wp2_with fail;refine (Tryz.strings_HasPrefix s ⟨#[45]⟩ _).mono ?_;rintro e w0 ⟨rfl,rfl⟩;rw [show Lib.hasPrefix s.data.toList (⟨#[45]⟩:ByteArray).data.toList=false from j.out];go_wp2_with fail;refine (vK s m w0 O he).mono ?_;intro e w1 H;obtain ⟨g1,A,I,q0,hw⟩:=H;have ho:A.size<=s.size:=by
  have:=(j6 (s).data.toList [47]).1;rw [<- I,<- Lib.size_eq,<- Lib.size_eq] at this;omega
 have K:=ab g1;have Q:=ab I;clear g1 I;generalize w0.heap.size=h at *;have hp:s.size<=s.size:=zL;have hq:w0.heap.size<=w1.heap.size:=K.out.size;rcases hw with ⟨c,cap,hx,hy,rfl⟩ | ⟨c,B,J,q1,rfl⟩
 ·have f:Hid (iy s.data.toList=if cr A.data.toList then aY false (aZ A.data.toList) 1 else (false,0,1)):=vI j HT Q c;clear c;by_cases ha:cr A.data.toList=true
  ·have g:=ab ha;rw [ha,if_pos rfl] at f;clear ha;go_wp2_with fail;refine (aS A _ O).mono ?_;rintro e v ⟨rfl,a⟩;rw [g];have q0:=a.cell q0 Z;have u:=ab (aa K a);clear a;have hf:h<v.heap.size:=eD q0;go_wp2_with fail;refine (dG v.heap.size 0 false (.slice none 0 0) A _ (fH v) (iP g) O (dj g)).mono ?_;intro e Y H;obtain ⟨rfl,y,C,_⟩:=H;have x:v.grownBy Y none:=cw (ag (ae _ _) _) y zL;have q0:=x.cell q0 Z;have G3:=ab (aa u x);have N3:=ab C;generalize v.heap.size=na at *;clear y C x;go_wp2_with fail;refine (dF 1 _ O O).mono ?_;rintro e w4 ⟨rfl,g4,p4,_⟩;have D:=ab (aa G3 g4);have N4:=ab (N3.keep0 g4);have D4:=ab p4;have q0:=g4.cell q0 Z;generalize Y.heap.size=nb at *;clear g4 p4;go_wp2_with fail;refine (cZ w4.heap.size na 0 nb 0 false false (.slice none 0 0) (.slice none 0 0) (aZ A.data.toList:Nat) 1 (3*s.size+4) _ (iI w4).1 (iI w4).2 ((N4.mono O).keep0 (ag (ae _ _) _)) ((D4.mono O).keep0 (ag (ae _ _) _)) O O).mono ?_;rintro e w5 ⟨rfl,U,V⟩;have G5:=ab (aw (ag D _) U.gr (fun _ _ e=>e) (fun k hk e=>by cases e;have:=D.out.size;omega));have R5:=ab V;have n:w0.heap.size<=w4.heap.size:=D.out.size;generalize w4.heap.size=nz at *;clear U V;go_wp2
   go_ret;exact zm f O R5 G5 n O
  ·have d:cr A.data.toList=false:=by simpa using ha
   have g:=ab d;rw [d] at f;clear ha d;go_wp2_with fail;refine (aS A _ O).mono ?_;rintro e v ⟨rfl,a⟩;rw [g];have u:=ab (aa K a);clear a;go_wp2;go_ret;exact fY f u
 ·have f:Hid (iy s.data.toList=if cr A.data.toList && cr B.data.toList then aY false (aZ A.data.toList) (aZ B.data.toList) else (false,0,1)):=vJ j HT Q J c;have hu:B.size<=s.size:=by
   have:=(j6 s.data.toList [47]).2;rw [<- J,<- Lib.size_eq,<- Lib.size_eq] at this;omega
  clear c J;by_cases ha:cr A.data.toList=true
  ·have g:=ab ha;rw [ha,Bool.true_and] at f;clear ha;by_cases hb:cr B.data.toList=true
   ·have N:=ab hb;rw [hb,if_pos rfl] at f;clear hb;go_wp2_with fail;refine (aS A _ O).mono ?_;rintro e v ⟨rfl,a⟩;rw [g];have q0:=a.cell q0 Z;have q1:=a.cell q1 Z;have u:=ab (aa K a);clear a;go_wp2_with fail;refine (aS B _ O).mono ?_;rintro e hm ⟨rfl,a⟩;rw [N];have q0:=a.cell q0 Z;have q1:=a.cell q1 Z;have E:=ab (aa u a);clear a;go_wp2_with fail;refine (nK B _ O).mono ?_;rintro e q ⟨r,rfl,hr,a⟩;have q0:=a.cell q0 Z;have q1:=a.cell q1 Z;have R:=ab (aa E a);clear a;by_cases S:aZ B.data.toList=0
    ·obtain rfl:=hr.1 (wC (dj N) S);rw [S] at f;clear hr S;go_wp2;go_ret;refine fY ?_ R;rw [f];unfold aY;rw [if_pos (.inr rfl)]
    ·have hv:=hr.2 (fun h=>S (tL h));have T:0<aZ B.data.toList:=O
     clear hr S;have W:h<q.heap.size:=eD q0;go_wp2_with fail;refine (dG q.heap.size 0 false (.slice none 0 0) A _ (fH q) (iP g) O (dj g)).mono ?_;intro e Y H;obtain ⟨rfl,y,C,_⟩:=H;have x:q.grownBy Y none:=cw (ag (ae _ _) _) y zL;have q0:=x.cell q0 Z;have q1:=x.cell q1 Z;have G3:=ab (aa R x);have N3:=ab C;generalize q.heap.size=na at *;clear y C x;go_wp2_with fail;refine (dF 1 _ O O).mono ?_;rintro e t ⟨rfl,g4,_,_⟩;have hj:=ab (aa G3 g4);have hl:=ab (N3.keep0 g4);have q0:=g4.cell q0 Z;have q1:=g4.cell q1 Z;clear g4;have X:h<t.heap.size:=eD q0;go_wp2_with fail;refine (dG t.heap.size 0 false (.slice none 0 0) B _ (fH t) (iP N) O (dj N)).mono ?_;intro e w4 H;obtain ⟨rfl,y,C,_⟩:=H;have g4:t.grownBy w4 none:=cw (ag (ae _ _) _) y zL;have q0:=g4.cell q0 Z;have q1:=g4.cell q1 Z;have D:=ab (aa hj g4);have N4:=ab (hl.keep0 g4);have D4:=ab C;generalize t.heap.size=nb at *;clear y C g4;go_wp2_with fail;refine (cZ w4.heap.size na 0 nb 0 false false (.slice none 0 0) (.slice none 0 0) (aZ A.data.toList:Nat) (aZ B.data.toList) (3*s.size+4) _ (iI w4).1 (iI w4).2 ((N4.mono O).keep0 (ag (ae _ _) _)) ((D4.mono O).keep0 (ag (ae _ _) _)) T O).mono ?_
     rintro e w5 ⟨rfl,U,V⟩;have G5:=ab (aw (ag D _) U.gr (fun _ _ e=>e) (fun k hk e=>by cases e;have:=D.out.size;omega));have R5:=ab V;have n:w0.heap.size<=w4.heap.size:=D.out.size;generalize w4.heap.size=nz at *;clear U V;go_wp2;go_ret;exact zm f T R5 G5 n O
   ·have G:cr B.data.toList=false:=by simpa using hb
    have N:=ab G;rw [G] at f;clear hb G;go_wp2_with fail;refine (aS A _ O).mono ?_;rintro e v ⟨rfl,a⟩;rw [g];have q0:=a.cell q0 Z;have q1:=a.cell q1 Z;have u:=ab (aa K a);clear a;go_wp2_with fail;refine (aS B _ O).mono ?_;rintro e hm ⟨rfl,a⟩;rw [N];have E:=ab (aa u a);clear a;go_wp2;go_ret;exact fY f E
  ·have d:cr A.data.toList=false:=by simpa using ha
   have g:=ab d;rw [d,Bool.false_and] at f;clear ha d;go_wp2_with fail;refine (aS A _ O).mono ?_;rintro e v ⟨rfl,a⟩;rw [g];have u:=ab (aa K a);clear a;go_wp2;go_ret;exact fY f u
theorem xV (s:ByteArray) (m:Int) (w:World) (hs:s.size<=3000000000) (P:w.cell? ⟨1,0,none⟩=some (.int .i64 m)) (i:Lib.hasPrefix s.data.toList [45]=true) :
  Calls Tryz.prog 45 #[.string s] w fun e w'=>zR w s.data.toList (3*s.size+8) e w':=by
 have hj:=ab P;have j:=ab i;obtain ⟨hp,V⟩:=xQ i;have Q:Hid (Lib.trimPrefix s.data.toList [45]=(s.extract 1 s.size).data.toList):=V;have hu:=(kv s 1 hp).2;clear V;clear P i;go_enter Tryz.func45,Tryz.ntmps45
 go_wp2_with fail;refine (Tryz.strings_HasPrefix s ⟨#[45]⟩ _).mono ?_;rintro e w0 ⟨rfl,rfl⟩;rw [show Lib.hasPrefix s.data.toList (⟨#[45]⟩:ByteArray).data.toList=true from j.out];go_wp2_with fail;refine (vK (s.extract 1 s.size) m w0 O hj).mono ?_;intro e w1 H;obtain ⟨g1,A,I,q0,hw⟩:=H;have hv:A.size<=s.size:=by
  have:=(j6 ((s.extract 1 s.size)).data.toList [47]).1;rw [<- I,<- Lib.size_eq,<- Lib.size_eq] at this;omega
 have K:=ab g1;have R:=ab I;clear g1 I;generalize w0.heap.size=h at *;have hx:w0.heap.size<=w1.heap.size:=K.out.size;rcases hw with ⟨c,cap,hB,hC,rfl⟩ | ⟨c,B,J,q1,rfl⟩
 ·have f:Hid (iy s.data.toList=if cr A.data.toList then aY true (aZ A.data.toList) 1 else (false,0,1)):=vI j Q R c;clear c;by_cases ha:cr A.data.toList=true
  ·have g:=ab ha;rw [ha,if_pos rfl] at f;clear ha;go_wp2_with fail;refine (aS A _ O).mono ?_;rintro e v ⟨rfl,a⟩;rw [g];have q0:=a.cell q0 Z;have u:=ab (aa K a);clear a;have hl:h<v.heap.size:=eD q0;go_wp2_with fail;refine (dG v.heap.size 0 false (.slice none 0 0) A _ (fH v) (iP g) O (dj g)).mono ?_;intro e w3 H;obtain ⟨rfl,y,C,_⟩:=H;have x:v.grownBy w3 none:=cw (ag (ae _ _) _) y zL;have q0:=x.cell q0 Z;have G3:=ab (aa u x);have N3:=ab C;generalize v.heap.size=na at *;clear y C x;go_wp2_with fail;refine (dF 1 _ O O).mono ?_;rintro e w4 ⟨rfl,g4,p4,_⟩;have D:=ab (aa G3 g4);have N4:=ab (N3.keep0 g4);have D4:=ab p4;have q0:=g4.cell q0 Z;generalize w3.heap.size=nb at *;clear g4 p4;go_wp2_with fail;refine (cZ w4.heap.size na 0 nb 0 false false (.slice none 0 0) (.slice none 0 0) (aZ A.data.toList:Nat) 1 (3*s.size+4) _ (iI w4).1 (iI w4).2 ((N4.mono O).keep0 (ag (ae _ _) _)) ((D4.mono O).keep0 (ag (ae _ _) _)) O O).mono ?_;rintro e w5 ⟨rfl,W,X⟩;have G5:=ab (aw (ag D _) W.gr (fun _ _ e=>e) (fun k hk e=>by cases e;have:=D.out.size;omega));have R5:=ab X;have n:w0.heap.size<=w4.heap.size:=D.out.size;generalize w4.heap.size=nz at *;clear W X;go_wp2_with fail
   refine (nE nz _ _ _ w5 R5 O).mono ?_;rintro e w6 ⟨rfl,Y,t6⟩;have G6:=ab (aw G5 Y.gr (fun _ _ e=>e) (fun k hk e=>by cases e;omega));have R6:=ab t6;clear Y t6;go_wp2;go_ret;exact zk f O R6 G6 n O
  ·have d:cr A.data.toList=false:=by simpa using ha
   have g:=ab d;rw [d] at f;clear ha d;go_wp2_with fail;refine (aS A _ O).mono ?_;rintro e v ⟨rfl,a⟩;rw [g];have u:=ab (aa K a);clear a;go_wp2;go_ret;exact fY f u
 ·have f:Hid (iy s.data.toList=if cr A.data.toList && cr B.data.toList then aY true (aZ A.data.toList) (aZ B.data.toList) else (false,0,1)):=vJ j Q R J c;have hy:B.size<=s.size:=by
   have:=(j6 (s.extract 1 s.size).data.toList [47]).2;rw [<- J,<- Lib.size_eq,<- Lib.size_eq] at this;omega
  clear c J;by_cases ha:cr A.data.toList=true
  ·have g:=ab ha;rw [ha,Bool.true_and] at f;clear ha;by_cases hb:cr B.data.toList=true
   ·have N:=ab hb;rw [hb,if_pos rfl] at f;clear hb;go_wp2_with fail;refine (aS A _ O).mono ?_;rintro e v ⟨rfl,a⟩;rw [g];have q0:=a.cell q0 Z;have q1:=a.cell q1 Z;have u:=ab (aa K a);clear a;go_wp2_with fail;refine (aS B _ O).mono ?_;rintro e hq ⟨rfl,a⟩;rw [N];have q0:=a.cell q0 Z;have q1:=a.cell q1 Z;have E:=ab (aa u a);clear a;go_wp2_with fail;refine (nK B _ O).mono ?_;rintro e q ⟨r,rfl,hr,a⟩;have q0:=a.cell q0 Z;have q1:=a.cell q1 Z;have S:=ab (aa E a);clear a;by_cases T:aZ B.data.toList=0
    ·obtain rfl:=hr.1 (wC (dj N) T);rw [T] at f;clear hr T;go_wp2;go_ret;refine fY ?_ S;rw [f];unfold aY;rw [if_pos (.inr rfl)]
    ·have hA:=hr.2 (fun h=>T (tL h));have U:0<aZ B.data.toList:=O
     clear hr T;have he:h<q.heap.size:=eD q0;go_wp2_with fail;refine (dG q.heap.size 0 false (.slice none 0 0) A _ (fH q) (iP g) O (dj g)).mono ?_;intro e w3 H;obtain ⟨rfl,y,C,_⟩:=H;have x:q.grownBy w3 none:=cw (ag (ae _ _) _) y zL;have q0:=x.cell q0 Z;have q1:=x.cell q1 Z;have G3:=ab (aa S x);have N3:=ab C;generalize q.heap.size=na at *;clear y C x;go_wp2_with fail;refine (dF 1 _ O O).mono ?_;rintro e t ⟨rfl,g4,_,_⟩;have hm:=ab (aa G3 g4);have ho:=ab (N3.keep0 g4);have q0:=g4.cell q0 Z;have q1:=g4.cell q1 Z;clear g4;have hf:h<t.heap.size:=eD q0;go_wp2_with fail;refine (dG t.heap.size 0 false (.slice none 0 0) B _ (fH t) (iP N) O (dj N)).mono ?_;intro e w4 H;obtain ⟨rfl,y,C,_⟩:=H;have g4:t.grownBy w4 none:=cw (ag (ae _ _) _) y zL;have q0:=g4.cell q0 Z;have q1:=g4.cell q1 Z;have D:=ab (aa hm g4);have N4:=ab (ho.keep0 g4);have D4:=ab C;generalize t.heap.size=nb at *;clear y C g4;go_wp2_with fail;refine (cZ w4.heap.size na 0 nb 0 false false (.slice none 0 0) (.slice none 0 0) (aZ A.data.toList:Nat) (aZ B.data.toList) (3*s.size+4) _ (iI w4).1 (iI w4).2 ((N4.mono O).keep0 (ag (ae _ _) _)) ((D4.mono O).keep0 (ag (ae _ _) _)) U O).mono ?_
     rintro e w5 ⟨rfl,W,X⟩;have G5:=ab (aw (ag D _) W.gr (fun _ _ e=>e) (fun k hk e=>by cases e;have:=D.out.size;omega));have R5:=ab X;have n:w0.heap.size<=w4.heap.size:=D.out.size;generalize w4.heap.size=nz at *;clear W X;go_wp2_with fail;refine (nE nz _ _ _ w5 R5 O).mono ?_;rintro e w6 ⟨rfl,Y,t6⟩;have G6:=ab (aw G5 Y.gr (fun _ _ e=>e) (fun k hk e=>by cases e;omega));have R6:=ab t6;clear Y t6;go_wp2;go_ret;exact zk f U R6 G6 n O
   ·have G:cr B.data.toList=false:=by simpa using hb
    have N:=ab G;rw [G] at f;clear hb G;go_wp2_with fail;refine (aS A _ O).mono ?_;rintro e v ⟨rfl,a⟩;rw [g];have q0:=a.cell q0 Z;have q1:=a.cell q1 Z;have u:=ab (aa K a);clear a;go_wp2_with fail;refine (aS B _ O).mono ?_;rintro e hq ⟨rfl,a⟩;rw [N];have E:=ab (aa u a);clear a;go_wp2;go_ret;exact fY f E
  ·have d:cr A.data.toList=false:=by simpa using ha
   have g:=ab d;rw [d,Bool.false_and] at f;clear ha d;go_wp2_with fail;refine (aS A _ O).mono ?_;rintro e v ⟨rfl,a⟩;rw [g];have u:=ab (aa K a);clear a;go_wp2;go_ret;exact fY f u
theorem Ea (s:ByteArray) (m:Int) (w:World) (c:s.size<=3000000000) (a:w.cell? ⟨1,0,none⟩=some (.int .i64 m)) :
  Calls Tryz.prog 45 #[.string s] w fun e w'=>zR w s.data.toList (3*s.size+8) e w':=by
 cases hneg:Lib.hasPrefix s.data.toList [45] with
 | false=>exact vw s m w c a hneg
 | true=>exact xV s m w c a hneg
theorem rOfN_at (s:ByteArray) (m:Int) (w:World) (r:s.size<=1000000000) (c:w.cell? ⟨1,0,none⟩=some (.int .i64 m)) :
  Calls Tryz.prog 45 #[.string s] w fun e w'=>∃ b,e=.returned (.pointer (some ⟨b,0,none⟩))/\w.grownBy w' none/\w.heap.size<=b/\(RQ w' b (fy s.data.toList) (3*s.size+8)∨(fy s.data.toList=0/\oN w' b (3*s.size+8))):=by
 refine (Ea s m w O c).mono ?_;rintro e w' ⟨b,rfl,j,n,f,a⟩;refine ⟨b,rfl,j,n,?_⟩;have d:=Dr s.data.toList;have g:sg (iy s.data.toList).1 (iy s.data.toList).2.1=(fy s.data.toList).num:=by rw [d];exact fp _
 have h:(iy s.data.toList).2.2=(fy s.data.toList).den:=by rw [d]
 rw [g] at f a;rw [h] at a;rcases a with a | ⟨a,q⟩
 ·exact .inl a
 ·right
  rw [d] at a;simp only [Prod.mk.injEq] at a;have hn:(fy s.data.toList).num=0:=by
   have:=a.2.1;unfold rN at this;omega
  have i:fy s.data.toList=0:=Rat.num_eq_zero.1 hn;rw [hn] at f;exact ⟨i,f,q⟩
theorem RX.denAt {q:Rat} (h:RX w b q L) (a:World) (g:w.grownBy a none):Calls Tryz.prog 51 #[.pointer (some ⟨b,0,none⟩)] a fun e w'=>∃ p o,e=.returned (.pointer (some ⟨p,o,none⟩))/\a.grownBy w' none/\ay w' p o (q.den:Int) L:=by
 refine (h.2 a [] [] (dB.start g)).mono ?_;rintro e w' ⟨p,o,rfl,c,m⟩;exact ⟨p,o,rfl,c,m.away (List.mem_cons_self ..)⟩
theorem ratSetX (c b:Nat) (i j:Bool) (v1 v2:Value) (q:Rat) (L:Nat) (w:World) (d:gh w c 0 i v1) (f:gh w c 2 j v2) (h:RX w b q L) (n:L<=4000000000000) :
  Calls Tryz.prog 126 #[.pointer (some ⟨c,0,none⟩),.pointer (some ⟨b,0,none⟩)] w fun e w'=>e=.returned (.pointer (some ⟨c,0,none⟩))/\bA w w' c/\bJ w' c q.num q.den (L+2):=by
 have H:=ab h;have r:=ab h.denAt;have s:=ab d;have t:=ab f;have a:=ab (uJ (show Nat.gcd q.num.natAbs q.den=1 from q.reduced));clear h d f;go_enter Tryz.func126,Tryz.ntmps126
 go_wp2;go_region_with (first | (go_at_call 51;refine (r _ (az _)).mono ?_;rintro e w1 ⟨p,o,rfl,g,u⟩) | (go_at_call 86;refine (cZ c b 0 p o i j v1 v2 q.num q.den L _ (s.keep0 (aa (az _) g)) (t.keep0 (aa (az _) g)) (H.1.keep0 (aa (az _) g)) u q.den_pos n).mono ?_;rintro e x ⟨rfl,v,m⟩))
 all_goals go_wp2
 all_goals go_ret
 all_goals rw [a.1,a.2] at m
 all_goals exact ⟨rfl,(bA.of_gr (aa (az _) g)).trans v,m⟩
theorem ratNegX (a b:Nat) (m g:Bool) (v1 v2:Value) (q:Rat) (L:Nat) (w:World) (c:gh w a 0 m v1) (d:gh w a 2 g v2) (h:RX w b q L) (t:L<=4000000000000) :
  Calls Tryz.prog 80 #[.pointer (some ⟨a,0,none⟩),.pointer (some ⟨b,0,none⟩)] w fun e w'=>e=.returned (.pointer (some ⟨a,0,none⟩))/\bA w w' a/\bJ w' a (-q.num) q.den (L+2):=by
 have H:=ab h;have u:=ab c;have x:=ab d;clear h c d;go_enter Tryz.func80,Tryz.ntmps80
 go_wp2_with fail;refine (ratSetX a b m g v1 v2 q L w u x H t).mono ?_;rintro e w1 ⟨rfl,r,j⟩;obtain ⟨D,v3,s,_⟩:=j.1;have y:=ab r;have f:=ab j;have C:=ab s;clear r j s;go_wp2;go_region_with (go_at_call 127;refine (mR a 0 a 0 D v3 q.num (L+2) _ (C.keep0 (az _)) (f.1.keep0 (az _)) O).mono ?_;rintro e J ⟨rfl,c1,E,K⟩)
 all_goals go_wp2
 all_goals go_ret
 all_goals refine ⟨rfl,y.trans ((bA.of_gr (az _)).trans (bA.of_put c1)),E,?_,f.2.2.1,by rw [Int.natAbs_neg];exact f.2.2.2⟩
 all_goals refine (f.2.1.keep0 (az _)).keep c1 (.inr (.inr O)) ?_
 all_goals (intro v i e;obtain ⟨g,v2,G,N,P,I⟩:=f.out.2.1;have n:=G.c1;simp at n i;rw [n] at i;exact I (by rw [zJ i];exact e))
theorem mh (b:Nat) (q:Rat) (L:Nat) (w:World) (h:RX w b q L) (f:L<=4000000000000) :
  Calls Tryz.prog 44 #[.pointer (some ⟨b,0,none⟩)] w fun e w'=>BG w (-q) (L+2) e w':=by
 have H:=ab h;clear h;go_enter Tryz.func44,Tryz.ntmps44
 go_wp2_with fail;have a:=ag (ae w none) (.cells #[.bool false,.slice none 0 0,.bool false,.slice none 0 0] 108);refine (ratNegX w.heap.size b false false (.slice none 0 0) (.slice none 0 0) _ L _ (dZ w).1 (dZ w).2 (H.keep0 a) f).mono ?_;rintro e w1 ⟨rfl,c,d⟩;have g:=ab c;have i:=ab d;clear c d a;go_wp2;go_ret;exact ⟨_,rfl,i,kA (ag (ae _ _) _) g zL,zL⟩
end Go.Proofs.YtkbmbmdemajoaaaGreatDoor
