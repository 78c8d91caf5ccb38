/- Contracts. -/
import Derived.Test.YtbomdfhdocaagaaGreatDoorXPe
namespace Go.Proofs.YtbomdfhdocaagaaGreatDoor
open Go.RowKit
set_option linter.all false
set_option maxHeartbeats 8000000
set_option maxRecDepth 10000
variable {w:World} {l:List UInt8} {base:Nat} {v:Value}
def qX (p q:Rat):Int:=if p<q then -1 else if q<p then 1 else 0
def De (p q:Rat) (h:p.num.sign≠q.num.sign):ja (p.num.sign-q.num.sign)=qX p q:=by
 have f:=p.den_pos;have g:=q.den_pos;unfold qX ja;simp only [Rat.lt_iff];rcases Int.lt_trichotomy p.num 0 with a | a | a<;>rcases Int.lt_trichotomy q.num 0 with b | b | b
 ·rw [Int.sign_eq_neg_one_of_neg a,Int.sign_eq_neg_one_of_neg b] at h;exact absurd rfl h
 ·rw [Int.sign_eq_neg_one_of_neg a,b];have:p.num*(q.den:Int)<0:=Int.mul_neg_of_neg_of_pos a O;simp [this]
 ·rw [Int.sign_eq_neg_one_of_neg a,Int.sign_eq_one_of_pos b];have d:p.num*(q.den:Int)<0:=Int.mul_neg_of_neg_of_pos a O;have c:0<q.num*(p.den:Int):=Int.mul_pos b O;rw [if_pos O,if_pos O]
 ·rw [Int.sign_eq_neg_one_of_neg b,a];have:q.num*(p.den:Int)<0:=Int.mul_neg_of_neg_of_pos b O;have c:¬ (0:Int)<q.num*(p.den:Int):=O
  simp [this,c]
 ·rw [a,b] at h;exact absurd rfl h
 ·rw [a,Int.sign_eq_one_of_pos b];have c:0<q.num*(p.den:Int):=Int.mul_pos b O;simp [c]
 ·rw [Int.sign_eq_one_of_pos a,Int.sign_eq_neg_one_of_neg b];have d:q.num*(p.den:Int)<0:=Int.mul_neg_of_neg_of_pos b O;have c:0<p.num*(q.den:Int):=Int.mul_pos a O;rw [if_neg O,if_pos O,if_neg O,if_pos O]
 ·rw [Int.sign_eq_one_of_pos a,b];have c:0<p.num*(q.den:Int):=Int.mul_pos a O;have e:¬ p.num*(q.den:Int)<0:=O
  simp [c,e]
 ·rw [Int.sign_eq_one_of_pos a,Int.sign_eq_one_of_pos b] at h;exact absurd rfl h
def Df (p q:Rat) (h:p.num.sign=q.num.sign):p.num.sign*gZ (rN p*q.den) (rN q*p.den)=qX p q:=by
 have g:=p.den_pos;have i:=q.den_pos;unfold qX gZ;simp only [Rat.lt_iff];obtain ⟨X,e⟩:∃ X:Nat,X=rN p*q.den:=⟨_,rfl⟩;obtain ⟨Y,f⟩:∃ Y:Nat,Y=rN q*p.den:=⟨_,rfl⟩;rw [<- e,<- f];rcases Int.lt_trichotomy p.num 0 with a | a | a
 ·have b:q.num<0:=by
   rw [Int.sign_eq_neg_one_of_neg a] at h;exact Int.sign_eq_neg_one_iff_neg.1 h.symm
  have c:p.num*(q.den:Int) = -(X:Int):=by
   rw [e,Int.natCast_mul,show p.num = -((rN p:Nat):Int) from by unfold rN;omega,Int.neg_mul]
  have d:q.num*(p.den:Int) = -(Y:Int):=by
   rw [f,Int.natCast_mul,show q.num = -((rN q:Nat):Int) from by unfold rN;omega,Int.neg_mul]
  rw [c,d,Int.sign_eq_neg_one_of_neg a];split<;>split<;>(try split)<;>(try split)<;>omega
 ·have b:q.num=0:=by
   rw [a] at h;exact Int.sign_eq_zero_iff_zero.1 h.symm
  rw [a,b];simp
 ·have b:0<q.num:=by
   rw [Int.sign_eq_one_of_pos a] at h;exact Int.sign_eq_one_iff_pos.1 h.symm
  have c:p.num*(q.den:Int)=(X:Int):=by
   rw [e,Int.natCast_mul,show p.num=((rN p:Nat):Int) from by unfold rN;omega]
  have d:q.num*(p.den:Int)=(Y:Int):=by
   rw [f,Int.natCast_mul,show q.num=((rN q:Nat):Int) from by unfold rN;omega]
  rw [c,d,Int.sign_eq_one_of_pos a];split<;>split<;>(try split)<;>(try split)<;>omega
def uW (x y:Value) (p q:Rat) (N X:Nat) (w:World) (hx:FQ w x p N) (hy:FQ w y q X) (hl:N+X<=700000000) :
  Calls Tryz.prog 64 #[x,y] w fun e d=>e=.returned (.int .i64 (qX p q))/\w.grownBy d none:=by
 have HX:=ab hx;have HY:=ab hy;obtain ⟨B,C,D,f,F,G,rfl⟩:=hx.shape;obtain ⟨H,I,J,P,Q,R,rfl⟩:=hy.shape;have NX:=ab hx.parts.1;have NY:=ab hy.parts.1;clear hx hy;obtain ⟨W,hW⟩:=eX ((w.alloc (Obj.cells #[.bool (rB p),.slice B C D,.slice f F G] 105)).alloc (Obj.cells #[.bool (rB q),.slice H I J,.slice P Q R] 105));have s:Hid (w.grownBy W none):=by rw [hW];exact ag (ag (ae _ _) _) _
 have b:Hid (∀ wx,W.grownBy wx none->wx.cell? ⟨w.heap.size,0,none⟩=some (.bool (rB p))/\wx.cell? ⟨w.heap.size,1,none⟩=some (.slice B C D)/\wx.cell? ⟨w.heap.size,2,none⟩=some (.slice f F G)/\wx.cell? ⟨w.heap.size+1,0,none⟩=some (.bool (rB q))/\wx.cell? ⟨w.heap.size+1,1,none⟩=some (.slice H I J)/\wx.cell? ⟨w.heap.size+1,2,none⟩=some (.slice P Q R)):=by
  intro wx hg;rw [hW] at hg;have r:=aH (aa (ag (ae _ none) _) hg);have t:=aH hg;rw [show (w.alloc (Obj.cells #[.bool (rB p),.slice B C D,.slice f F G] 105)).heap.size=w.heap.size+1 from by simp] at t;exact ⟨r.1,r.2.1,r.2.2,t⟩
 have a:W.grownBy W none:=ae _ _;obtain ⟨s0,s1,s2,s3,s4,s5⟩:=b.out W a;have hw:-1<=p.num.sign/\p.num.sign<=1:=by
  rcases Int.sign_trichotomy p.num with h | h | h<;>omega
 have hz:-1<=q.num.sign/\q.num.sign<=1:=by
  rcases Int.sign_trichotomy q.num with h | h | h<;>omega
 obtain ⟨hk,hm⟩:=hw;obtain ⟨ho,hp⟩:=hz;obtain ⟨o,he⟩:=eX p.num.sign;obtain ⟨sq,hf⟩:=eX q.num.sign;have n:=ab he;have u:=ab hf;rw [<- he] at hk hm;rw [<- hf] at ho hp;clear he hf;go_enter Tryz.func64,Tryz.ntmps64
 go_wp2;rw [<- hW];clear hW;go_cut [9] (fun s9 wx=>Hid (W.grownBy wx none/\s9=.bool (o != sq)))
 case first =>
  go_region_held3 (fun d=>d.cell? ⟨w.heap.size,0,none⟩=some (.bool (rB p))/\d.cell? ⟨w.heap.size,1,none⟩=some (.slice B C D)/\d.cell? ⟨w.heap.size,2,none⟩=some (.slice f F G)/\d.cell? ⟨w.heap.size+1,0,none⟩=some (.bool (rB q))/\d.cell? ⟨w.heap.size+1,1,none⟩=some (.slice H I J)/\d.cell? ⟨w.heap.size+1,2,none⟩=some (.slice P Q R)) (go_keep)
   (first | (go_at_call_of 63 (Value.agg #[.bool (rB p),.slice B C D,.slice f F G]);refine (jj _ p N _ (HX.keep0 (aa s (by first | exact a | exact aa a (aS _) | exact aa a aC | exact aa a (ak (ae _ _) 1))))).mono ?_;rintro e m ⟨rfl,c⟩;(try have g:=g.keep0 (aa zE c));(try have i:=i.keep0 (aa zE c));(try have j:=j.keep0 (aa zE c));(try have k:=k.keep0 (aa zE c));have a:W.grownBy m none:=aa (by first | exact a | exact aa a (aS _) | exact aa a aC | exact aa a (ak (ae _ _) 1)) c;obtain ⟨S,r,t,T,U,V⟩:=b.out m a) | (go_at_call_of 63 (Value.agg #[.bool (rB q),.slice H I J,.slice P Q R]);refine (jj _ q X _ (HY.keep0 (aa s (by first | exact a | exact aa a (aS _) | exact aa a aC | exact aa a (ak (ae _ _) 1))))).mono ?_;rintro e E ⟨rfl,c⟩;(try have g:=g.keep0 (aa zE c));(try have i:=i.keep0 (aa zE c));(try have j:=j.keep0 (aa zE c));(try have k:=k.keep0 (aa zE c));have a:W.grownBy E none:=aa (by first | exact a | exact aa a (aS _) | exact aa a aC | exact aa a (ak (ae _ _) 1)) c;obtain ⟨S,r,t,T,U,V⟩:=b.out E a))
  all_goals
   rw [<- n,<- u];go_wp2_with fail;go_meet
   exact ⟨(by first | exact a | exact aa a (aS _) | exact aa a aC | exact aa a (ak (ae _ _) 1)),by first | rfl | simp⟩
 case rest =>
  obtain ⟨hG,rfl⟩:=hcut.out;clear a;have a:=hG;clear hG hcut s0 s1 s2 s3 s4 s5;obtain ⟨s0,s1,s2,s3,s4,s5⟩:=b.out wc a;by_cases hs:o=sq
  ·have Y:(o != sq)=false:=by simp [hs]
   rw [Y];have HC:Hid (p.num.sign*gZ (rN p*q.den) (rN q*p.den)=qX p q):=Df p q (by rw [<- n,<- u];exact hs);have hA:-1<=gZ (rN p*q.den) (rN q*p.den):=by unfold gZ;split<;>(try split)<;>omega
   have hB:gZ (rN p*q.den) (rN q*p.den)<=1:=by unfold gZ;split<;>(try split)<;>omega
   obtain ⟨K,hj⟩:=eX (gZ (rN p*q.den) (rN q*p.den));rw [<- hj] at HC hA hB;have hC:=ab hj;have hD:-1<=o*K:=by
    have z:K = -1∨K=0∨K=1:=O
    have A:o = -1∨o=0∨o=1:=O
    rcases z with z | z | z<;>rcases A with A | A | A<;>rw [z,A]<;>decide
   have hE:o*K<=1:=by
    have z:K = -1∨K=0∨K=1:=O
    have A:o = -1∨o=0∨o=1:=O
    rcases z with z | z | z<;>rcases A with A | A | A<;>rw [z,A]<;>decide
   clear hj hs;go_wp2;go_region_held3 (fun d=>d.cell? ⟨w.heap.size,0,none⟩=some (.bool (rB p))/\d.cell? ⟨w.heap.size,1,none⟩=some (.slice B C D)/\d.cell? ⟨w.heap.size,2,none⟩=some (.slice f F G)/\d.cell? ⟨w.heap.size+1,0,none⟩=some (.bool (rB q))/\d.cell? ⟨w.heap.size+1,1,none⟩=some (.slice H I J)/\d.cell? ⟨w.heap.size+1,2,none⟩=some (.slice P Q R)) (go_keep)
    (first | (go_at_call_of 63 (Value.agg #[.bool (rB p),.slice B C D,.slice f F G]);refine (jj _ p N _ (HX.keep0 (aa s (by first | exact a | exact aa a (aS _) | exact aa a aC | exact aa a (ak (ae _ _) 1))))).mono ?_;rintro e m ⟨rfl,c⟩;(try have g:=g.keep0 (aa zE c));(try have i:=i.keep0 (aa zE c));(try have j:=j.keep0 (aa zE c));(try have k:=k.keep0 (aa zE c));have a:W.grownBy m none:=aa (by first | exact a | exact aa a (aS _) | exact aa a aC | exact aa a (ak (ae _ _) 1)) c;obtain ⟨S,r,t,T,U,V⟩:=b.out m a;rw [<- n]) | (go_at_call_of 101 (Value.agg #[.bool (rB q),.slice H I J,.slice P Q R]);refine (fK _ _ _ _ X _ (HY.keep0 (aa s (by first | exact a | exact aa a (aS _) | exact aa a aC | exact aa a (ak (ae _ _) 1))))).mono ?_;rintro e hq ⟨hF,rfl,g,L⟩;obtain ⟨hH,hI,hJ,rfl,_,_,_⟩:=g.shape;(try have i:=i.keep0 (aa zE L));(try have j:=j.keep0 (aa zE L));(try have k:=k.keep0 (aa zE L));have a:W.grownBy hq none:=aa (by first | exact a | exact aa a (aS _) | exact aa a aC | exact aa a (ak (ae _ _) 1)) L;obtain ⟨S,r,t,T,U,V⟩:=b.out hq a) | (go_at_call_of 101 (Value.agg #[.bool (rB p),.slice B C D,.slice f F G]);refine (fK _ _ _ _ N _ (HX.keep0 (aa s (by first | exact a | exact aa a (aS _) | exact aa a aC | exact aa a (ak (ae _ _) 1))))).mono ?_;rintro e hr ⟨hK,rfl,j,L⟩;obtain ⟨hL,hM,hN,rfl,_,_,_⟩:=j.shape;(try have i:=i.keep0 (aa zE L));(try have g:=g.keep0 (aa zE L));(try have k:=k.keep0 (aa zE L));have a:W.grownBy hr none:=aa (by first | exact a | exact aa a (aS _) | exact aa a aC | exact aa a (ak (ae _ _) 1)) L;obtain ⟨S,r,t,T,U,V⟩:=b.out hr a) | (go_at_call_of 100 (Value.slice B C D);refine (fg _ _ (rN p) q.den N (X+1) _ (NX.keep0 (aa s (by first | exact a | exact aa a (aS _) | exact aa a aC | exact aa a (ak (ae _ _) 1)))) (g.keep0 zE) O).mono ?_;rintro e hu ⟨hQ,rfl,i,M,_⟩;obtain ⟨hR,hS,hT,rfl,_,_,_⟩:=i.shape;(try have g:=g.keep0 (aa zE M));(try have j:=j.keep0 (aa zE M));(try have k:=k.keep0 (aa zE M));have a:W.grownBy hu none:=aa (by first | exact a | exact aa a (aS _) | exact aa a aC | exact aa a (ak (ae _ _) 1)) M;obtain ⟨S,r,t,T,U,V⟩:=b.out hu a) | (go_at_call_of 100 (Value.slice H I J);refine (fg _ _ (rN q) p.den X (N+1) _ (NY.keep0 (aa s (by first | exact a | exact aa a (aS _) | exact aa a aC | exact aa a (ak (ae _ _) 1)))) (j.keep0 zE) O).mono ?_;rintro e hv ⟨hX,rfl,k,M,_⟩;obtain ⟨hY,ka,kb,rfl,_,_,_⟩:=k.shape;(try have g:=g.keep0 (aa zE M));(try have j:=j.keep0 (aa zE M));(try have i:=i.keep0 (aa zE M));have a:W.grownBy hv none:=aa (by first | exact a | exact aa a (aS _) | exact aa a aC | exact aa a (ak (ae _ _) 1)) M;obtain ⟨S,r,t,T,U,V⟩:=b.out hv a) | (go_at_call 99;refine (jJ _ _ (rN p*q.den) (rN q*p.den) _ _ _ (i.keep0 zE) (k.keep0 zE)).mono ?_;rintro e kc ⟨rfl,qc,rfl⟩;rw [<- hC]))
   all_goals
    go_wp2;go_ret;refine ⟨?_,aa s (by first | exact a | exact aa a (aS _) | exact aa a aC | exact aa a (ak (ae _ _) 1))⟩;have hc:=HC.out;rw [<- n] at hc;rw [<- hc];first | rfl | (show Ending.returned (Value.int .i64 (IntKind.i64.wrap (o*K)))=_;rw [IntWalk.i64_in _ ⟨O,O⟩])
  ·have Y:(o != sq)=true:=by simp [hs]
   rw [Y];have HC:Hid (ja (o-sq)=qX p q):=by
    show _=_
    rw [n,u];exact De p q (by rw [<- n,<- u];exact hs)
   clear hs;go_wp2;go_region_held3 (fun d=>d.cell? ⟨w.heap.size,0,none⟩=some (.bool (rB p))/\d.cell? ⟨w.heap.size,1,none⟩=some (.slice B C D)/\d.cell? ⟨w.heap.size,2,none⟩=some (.slice f F G)/\d.cell? ⟨w.heap.size+1,0,none⟩=some (.bool (rB q))/\d.cell? ⟨w.heap.size+1,1,none⟩=some (.slice H I J)/\d.cell? ⟨w.heap.size+1,2,none⟩=some (.slice P Q R)) (go_keep)
    (first | (go_at_call_of 63 (Value.agg #[.bool (rB p),.slice B C D,.slice f F G]);refine (jj _ p N _ (HX.keep0 (aa s (by first | exact a | exact aa a (aS _) | exact aa a aC | exact aa a (ak (ae _ _) 1))))).mono ?_;rintro e m ⟨rfl,c⟩;(try have g:=g.keep0 (aa zE c));(try have i:=i.keep0 (aa zE c));(try have j:=j.keep0 (aa zE c));(try have k:=k.keep0 (aa zE c));have a:W.grownBy m none:=aa (by first | exact a | exact aa a (aS _) | exact aa a aC | exact aa a (ak (ae _ _) 1)) c;obtain ⟨S,r,t,T,U,V⟩:=b.out m a;rw [<- n]) | (go_at_call_of 63 (Value.agg #[.bool (rB q),.slice H I J,.slice P Q R]);refine (jj _ q X _ (HY.keep0 (aa s (by first | exact a | exact aa a (aS _) | exact aa a aC | exact aa a (ak (ae _ _) 1))))).mono ?_;rintro e E ⟨rfl,c⟩;(try have g:=g.keep0 (aa zE c));(try have i:=i.keep0 (aa zE c));(try have j:=j.keep0 (aa zE c));(try have k:=k.keep0 (aa zE c));have a:W.grownBy E none:=aa (by first | exact a | exact aa a (aS _) | exact aa a aC | exact aa a (ak (ae _ _) 1)) c;obtain ⟨S,r,t,T,U,V⟩:=b.out E a;rw [<- u]) | (go_at_call 98;refine (mF _ _).mono ?_;rintro e kf ⟨rfl,rfl⟩))
   all_goals
    go_wp2;go_ret;refine ⟨?_,aa s (by first | exact a | exact aa a (aS _) | exact aa a aC | exact aa a (ak (ae _ _) 1))⟩;rw [<- HC];first | rfl | (show Ending.returned (Value.int .i64 (ja (IntKind.i64.wrap (o-sq))))=_;rw [IntWalk.i64_in _ ⟨O,O⟩])
def eO (w:World) (base:Nat) (v:Value) (l:List UInt8):Prop:=w.ownsRow base 5 1 v l.length (Lib.byteCells l)
def Tryz.infoU8:(Tryz.prog.info? 5).map (fun i=>(i.zero,i.size,i.bytes))=some (some (.int .u8 0),1,1):=zK
def eO.nil (w:World) (base:Nat):eO w base (.slice none 0 0) []:=World.ownsRow_nil _ _ _ _
def eO.shape (h:eO w base v l):∃ ao cap,v=.slice ao l.length cap/\l.length<=cap/\cap<=9223372036854775807:=by
 rcases h.2 with ⟨rfl,a⟩ | ⟨g,cap,b,rfl,hb,hh,c,d,e,f⟩
 ·exact ⟨none,0,by rw [a],O,O⟩
 ·exact ⟨_,cap,rfl,c,by unfold maxLen at d;omega⟩
def ry {a:Array Value} (h:a.toList.take (l.length*1)=Lib.byteCells l) (i:Nat) (hi:i<l.length):a[i]? = some (.int .u8 (l[i].toNat:Nat)):=by
 have b:(a.toList.take (l.length*1))[i]? = (Lib.byteCells l)[i]?:=by rw [h]
 rw [List.getElem?_take,if_pos O] at b;simpa [Lib.byteCells,hi] using b
def eO.open (h:eO w base v l) (d:0<l.length):∃ g cap,v=.slice (some ⟨g,0,none⟩) l.length cap/\l.length<=cap/\cap<=9223372036854775807/\base<=g/\g<w.heap.size:=by
 rcases h.2 with ⟨rfl,a⟩ | ⟨g,cap,b,rfl,hb,hh,a,c,e,f⟩
 ·omega
 ·exact ⟨g,cap,rfl,a,by unfold maxLen at c;omega,hb,(zZ hh).1⟩
def eO.at {g cap:Nat} (h:eO w base (.slice (some ⟨g,0,none⟩) l.length cap) l) (i:Nat) (hi:i<l.length) :
  w.cell? ⟨g,i,none⟩=some (.int .u8 (l[i].toNat:Nat))/\w.frozen? ⟨g,i,none⟩=false /\
   ∀ (x:UInt8) (z:Int),z=(x.toNat:Int)->eO (w.setCell ⟨g,i,none⟩ (.int .u8 z)) base (.slice (some ⟨g,0,none⟩) l.length cap) (l.set i x):=by
 rcases h.2 with ⟨a,_⟩ | ⟨m,c,b,a,hb,hh,f,j,k,d⟩
 ·simp at a
 ·simp only [Value.slice.injEq,zI,Addr.mk.injEq,and_true,true_and] at a;obtain ⟨rfl,rfl⟩:=a;refine ⟨?_,?_,?_⟩
  ·simp only [World.cell?,hh];exact ry d i hi
  ·simp [World.frozen?,hh]
  ·intro x z e;refine ⟨by simp [Lib.byteCells],.inr ⟨g,cap,b.setIfInBounds i (.int .u8 z),Z,hb,?_,by simpa using f,j,by simpa using k,?_⟩⟩
   ·rw [heap_setCell_same w g i _ _ _ hh]
   ·subst e;rw [Array.toList_setIfInBounds,List.length_set,List.take_set,d];simp [Lib.byteCells,List.map_set]
def eO.keep {b:World} {row:Option Nat} (h:eO w base v l) (hg:w.grownBy b row) (a:∀ k,row=some k->ar v≠some k):eO b base v l:=by
 refine World.ownsRow.kept h hg ?_;cases row with
 | none=>cases hv:v.ownBlock<;>simp
 | some k =>
  right
  intro e;refine a k rfl ?_;rw [<- e];cases v<;>rfl
def eO.keep0 {a:World} (h:eO w base v l) (hg:w.grownBy a none):eO a base v l:=h.keep hg nofun
def eO.alloc (h:eO w base v l) (o:Obj):eO (w.alloc o) base v l:=World.ownsRow.alloc h o
def eO.fresh (h:eO w base v l):∀ k,ar v=some k->base<=k/\k<w.heap.size:=by
 intro k a;rcases h.2 with ⟨rfl,c⟩ | ⟨g,cap,b,rfl,hb,hh,d,e,f,i⟩
 ·simp [ar] at a
 ·simp [ar] at a;subst a;exact ⟨hb,(zZ hh).1⟩
def DO {w1 a:World} {r:Option Nat} (h:w.grownBy w1 none) (k:w1.grownBy a r) (hb:∀ b,r=some b->w.heap.size<=b):w.grownBy a none :=
 aw h k (fun _ _ e=>e) (fun b c e=>by have:=hb b e.symm;omega)
def BT (v:Value):v.ownBlock=ar v:=by cases v<;>rfl
def iH (w:World) {d:Array Oper} {rest:List Oper} {o:Oper} {a:Act} {Q:Exit->Act->World->Prop} (hg:o.guard=none) (x y:Operand) (hop:o.op=Op.call { callee:=.builtin .append,args:=#[x,y],argTypes:=#[172,172] }) (base:Nat) (v:Value) (l:List UInt8) (s:a.eval x=v) (g:Nat) (z:Int) (c:UInt8) (t:z=(c.toNat:Int)) (hy:a.eval y=.slice (some ⟨g,0,none⟩) 1 1) (b:w.cell? ⟨g,0,none⟩=some (.int .u8 z)) (h:eO w base v l) (B:l.length<=1000000000) (hb:base<=w.heap.size)
  (hK:∀ v' w',eO w' base v' (l++[c])->w.grownBy w' (ar v)->wpList Tryz.prog d Q rest (a.put o.dst v') w') :
  wpList Tryz.prog d Q (o :: rest) a w:=by
 obtain ⟨A,m,n,p,q⟩:=info_parts Tryz.infoU8;refine wpList_append_own w hg x y 172 hop base 5 A (.int .u8 0) 1 1 Tryz.underlying172 m n p q rfl zD v l.length (Lib.byteCells l) s h ⟨g,0,none⟩ 1 1 [.int .u8 z] hy rfl ?_ ?_ (by unfold maxLen;omega) O hb ?_
 ·intro j u i;match j with
  | 0 =>
   simp only [List.getElem?_cons_zero,zI] at i;subst i;simpa [Addr.add] using b
  | j+1=>simp at i
 ·intro u r;simp only [List.mem_singleton] at r;subst r;rfl
 ·intro v' w' f k _;refine hK v' w' ?_ (by rw [<- BT];exact k);unfold eO;rw [List.length_append,List.length_singleton];have e:Lib.byteCells (l++[c])=Lib.byteCells l++[.int .u8 z]:=by rw [t];simp [Lib.byteCells]
  rw [e];exact f
def eO.string (h:eO w base v l) (a:0<l.length) :
  (convert 172 9 v).run Tryz.prog w=.ok (.string ⟨l.toArray⟩) w:=by
 obtain ⟨g,cap,rfl,_,_,_,_⟩:=h.open a;refine run_convert_bytes_back (P:=Tryz.prog) w 172 9 5 ⟨g,0,none⟩ cap l Tryz.underlying172 Tryz.underlying5 Tryz.underlying9 ?_;intro j b;rw [show (⟨g,0,none⟩:Addr).add j=⟨g,j,none⟩ from by simp [Addr.add];exact Eq.symm];exact (h.at j b).1
def dN (l:List UInt8) (i:Nat):List UInt8:=(List.range l.length).map fun p=>if p<i∨l.length<p+1+i then l.getD (l.length-1-p) 0 else l.getD p 0
def cF (l:List UInt8) (i:Nat):(dN l i).length=l.length:=by simp [dN]
def lH (l:List UInt8) (i p:Nat) (h:p<(dN l i).length):(dN l i)[p]=if p<i∨l.length<p+1+i then l.getD (l.length-1-p) 0 else l.getD p 0:=by simp [dN]
def xh (l:List UInt8):dN l 0=l:=by
 apply List.ext_getElem (cF l 0);intro p b a;rw [lH,if_neg O];simp [List.getD,a]
def FY (l:List UInt8) (i:Nat) (h:i+i+1<l.length):((dN l i).set i (l.getD (l.length-1-i) 0)).set (l.length-1-i) (l.getD i 0)=dN l (i+1):=by
 apply List.ext_getElem (by simp [cF]);intro p f d;rw [List.getElem_set,List.getElem_set,lH,lH];have e:p<l.length:=by simpa [cF] using d
 by_cases a:l.length-1-i=p
 ·rw [if_pos a,if_pos O,<- a];congr 1
  omega
 ·rw [if_neg a];by_cases b:i=p
  ·rw [if_pos b,if_pos O,b]
  ·rw [if_neg b];by_cases c:p<i∨l.length<p+1+i
   ·rw [if_pos c,if_pos O]
   ·rw [if_neg c,if_neg O]
def AJ (l:List UInt8) (i:Nat) (h:l.length<=i+i+1):dN l i=l.reverse:=by
 apply List.ext_getElem (by simp [cF]);intro p c d;have a:p<l.length:=by simpa [cF] using c
 rw [lH,List.getElem_reverse];by_cases e:p<i∨l.length<p+1+i
 ·rw [if_pos e];simp [List.getD,show l.length-1-p<l.length by omega]
 ·rw [if_neg e];have b:l.length-1-p=p:=O
  simp [List.getD,a,b]
end Go.Proofs.YtbomdfhdocaagaaGreatDoor
