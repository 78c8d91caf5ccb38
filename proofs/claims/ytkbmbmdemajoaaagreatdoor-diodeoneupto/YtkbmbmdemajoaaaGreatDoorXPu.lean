/- Contracts. -/
import Derived.Test.YtkbmbmdemajoaaaGreatDoorXPe
import Derived.Test.YtkbmbmdemajoaaaGreatDoorXPb
namespace Go.Proofs.YtkbmbmdemajoaaaGreatDoor
open Go.RowKit
set_option linter.unusedVariables false
set_option linter.unusedSimpArgs false
set_option maxHeartbeats 8000000
set_option maxRecDepth 10000
variable {w:World}
def mq (neg:Bool) (n:Nat):Int:=if neg then -1 else if n=0 then 0 else 1
theorem ow (v:Value) (neg:Bool) (n d L:Nat) (w:World) (h:FV w v neg n d L) :
  Calls Tryz.prog 38 #[v] w fun e p=>e=.returned (.int .i64 (mq neg n))/\w.grownBy p none:=by
 obtain ⟨up,a,rfl,f,b,j,k⟩:=h;obtain ⟨q,g,r,rfl,u1,_,_⟩:=f.shape;obtain ⟨m,s,t,rfl⟩:∃ o l c,a=.slice o l c:=by
  rcases b with ⟨rfl,_⟩ | ⟨b,_⟩
  ·exact ⟨_,_,_,rfl⟩
  ·obtain ⟨o,l,c,rfl,_⟩:=b.shape;exact ⟨_,_,_,rfl⟩
 have i:=ab u1;clear u1 f b j k;cases neg with
 | true =>
  go_enter Tryz.func38,Tryz.ntmps38
  go_wp2;go_ret;exact ⟨rfl,ag (ae _ _) _⟩
 | false =>
  go_enter Tryz.func38,Tryz.ntmps38
  go_wp2_with fail;refine (lV _ _).mono ?_;rintro e w1 ⟨rfl,rfl⟩;go_wp2;go_ret;refine ⟨?_,ag (ae _ _) _⟩;have:jT (g:Int)=mq false n:=by
   unfold jT mq;have:=i.out;by_cases h:g=0
   ·rw [if_neg O,if_neg O,if_neg Z,if_pos (this.1 h)]
   ·rw [if_neg O,if_pos O,if_neg Z,if_neg (fun e=>h (this.2 e))]
  rw [<- this];rfl
def fh (k:Nat):Bool:=k != 8
def gB (k:Nat):Bool:=k==1 || k==2 || k==3
def lu (k:Nat):Bool:=k==6 || k==7
def fK (w:World):Prop:=0<w.heap.size/\∀ k:Nat,1<=k->k<=8->∃ s u:ByteArray,w.cell? ⟨0,k*5,none⟩=some (.string s)/\w.cell? ⟨0,k*5+1,none⟩=some (.string u) /\
 w.cell? ⟨0,k*5+2,none⟩=some (.bool (fh k))/\w.cell? ⟨0,k*5+3,none⟩=some (.bool (gB k))/\w.cell? ⟨0,k*5+4,none⟩=some (.bool (lu k))
theorem fK.keep {f:World} (h:fK w) (hg:w.grownBy f none):fK f:=by
 refine ⟨Nat.lt_of_lt_of_le h.1 hg.size,fun k g i=>?_⟩;obtain ⟨s,u,a,b,c,d,e⟩:=h.2 k g i;exact ⟨s,u,hg.cell a Z,hg.cell b Z,hg.cell c Z,hg.cell d Z,hg.cell e Z⟩
def iV (x nodes:Int):Bool:=decide (0<=x) && decide (x<nodes)
theorem aB (x a:Int) (g:Nat) (w:World) (hc:w.cell? ⟨g,0,none⟩=some (.int .i64 a)) :
  Calls Tryz.prog 95 #[.int .i64 x,.pointer (some ⟨g,0,none⟩)] w fun e b=>e=.returned (.bool (iV x a))/\b=w:=by
 by_cases h:0<=x
 ·go_enter Tryz.func95,Tryz.ntmps95
  go_wp2;go_ret;refine ⟨?_,rfl⟩;unfold iV;simp [h]
 ·go_enter Tryz.func95,Tryz.ntmps95
  go_wp2;go_ret;refine ⟨?_,rfl⟩;unfold iV;rw [show decide (0<=x)=false from by simpa using h];rfl
def rP (v:ByteArray):Int:=mq (iy v.data.toList).1 (iy v.data.toList).2.1
def lH (k:Nat) (a b c d:Int) (v:ByteArray) (nodes:Int):Int :=
 if !(iV a nodes) || !(iV b nodes) || (lu k && !(iV c nodes && iV d nodes)) then 4
 else if gB k && decide (rP v<=0) then 5
 else if (!lu k && (c != 0 || d != 0)) || (!fh k && !v.data.toList.isEmpty) then 6 else 0
theorem wA (k:Nat) (a b c d:Int) (v:ByteArray) (f:Int) (w:World) (n:1<=k) (z:k<9) (o:fK w) (hn:(!(iV a f) || !(iV b f) || (lu k && !(iV c f && iV d f)))=true) :
  Calls Tryz.prog 58 #[.agg #[.int .i64 (k:Nat),.int .i64 a,.int .i64 b,.int .i64 c,.int .i64 d,.string v],.int .i64 f] w fun e y=>e=.returned (.int .i64 4)/\w.grownBy y none:=by
 obtain ⟨x,i⟩:=o;obtain ⟨s,u,c0,c1,j,l,m⟩:=i k n O;have h:w.grownBy ((w.alloc (Obj.cells #[.int .i64 (k:Nat),.int .i64 a,.int .i64 b,.int .i64 c,.int .i64 d,.string v] 45)).alloc (Obj.cells #[.int .i64 f] 3)) none:=ag (ag (ae _ _) _) _;have k0:=h.cell c0 Z;have A:=h.cell c1 Z;have p:=h.cell j Z;have q:=h.cell l Z;have r:=h.cell m Z;clear h;generalize fh k=valued at j p;generalize gB k=above at l q;generalize lu k=led at m r hn;clear i;cases hA:iV a f with
 | false =>
  clear hn;go_enter Tryz.func58,Tryz.ntmps58
  go_wp2_with (go_at_call_of 95 (Value.int .i64 a);refine (aB a f _ _ zG).mono ?_;rintro e w1 ⟨rfl,rfl⟩;rw [hA])
  go_ret;exact ⟨rfl,ag (ag (ag (ae _ _) _) _) _⟩
 | true =>
  cases hB:iV b f with
  | false =>
   clear hn;go_enter Tryz.func58,Tryz.ntmps58
   go_wp2_with (first | (go_at_call_of 95 (Value.int .i64 a);refine (aB a f _ _ zG).mono ?_;rintro e w1 ⟨rfl,rfl⟩;rw [hA]) | (go_at_call_of 95 (Value.int .i64 b);refine (aB b f _ _ zG).mono ?_;rintro e w1 ⟨rfl,rfl⟩;rw [hB]))
   go_ret;exact ⟨rfl,ag (ag (ag (ae _ _) _) _) _⟩
  | true =>
   rw [hA,hB] at hn;simp only [Bool.not_true,Bool.false_or,Bool.and_eq_true] at hn;obtain ⟨rfl,g⟩:=hn;cases hC:iV c f with
   | false =>
    clear g;go_enter Tryz.func58,Tryz.ntmps58
    go_wp2_with (first | (go_at_call_of 95 (Value.int .i64 a);refine (aB a f _ _ zG).mono ?_;rintro e w1 ⟨rfl,rfl⟩;rw [hA]) | (go_at_call_of 95 (Value.int .i64 b);refine (aB b f _ _ zG).mono ?_;rintro e w1 ⟨rfl,rfl⟩;rw [hB]) | (go_at_call_of 95 (Value.int .i64 c);refine (aB c f _ _ zG).mono ?_;rintro e w1 ⟨rfl,rfl⟩;rw [hC]))
    go_ret;exact ⟨rfl,ag (ag (ag (ae _ _) _) _) _⟩
   | true =>
    rw [hC] at g;have t:iV d f=false:=by simpa using g
    clear g;go_enter Tryz.func58,Tryz.ntmps58
    go_wp2_with (first | (go_at_call_of 95 (Value.int .i64 a);refine (aB a f _ _ zG).mono ?_;rintro e w1 ⟨rfl,rfl⟩;rw [hA]) | (go_at_call_of 95 (Value.int .i64 b);refine (aB b f _ _ zG).mono ?_;rintro e w1 ⟨rfl,rfl⟩;rw [hB]) | (go_at_call_of 95 (Value.int .i64 c);refine (aB c f _ _ zG).mono ?_;rintro e w1 ⟨rfl,rfl⟩;rw [hC]) | (go_at_call_of 95 (Value.int .i64 d);refine (aB d f _ _ zG).mono ?_;rintro e w1 ⟨rfl,rfl⟩;rw [t]))
    go_ret;exact ⟨rfl,ag (ag (ag (ae _ _) _) _) _⟩
theorem lC {c:Int} (h:c≠0):(c != 0)=true:=by simpa using h
theorem Bz (k:Nat) (a b c d:Int) (v:ByteArray) (f:Int) (w:World) (o:1<=k) (D:k<9) (p:fK w) (q:iV a f=true) (r:iV b f=true) (t:iV c f=true) (x:iV d f=true) (i:lu k=true) (j:fh k=true) (ha:gB k=false) :
  Calls Tryz.prog 58 #[.agg #[.int .i64 (k:Nat),.int .i64 a,.int .i64 b,.int .i64 c,.int .i64 d,.string v],.int .i64 f] w fun e C=>e=.returned (.int .i64 (0))/\w.grownBy C none:=by
 obtain ⟨B,h⟩:=p;obtain ⟨s,u,c0,c1,l,m,n⟩:=h k o O;have g:w.grownBy ((w.alloc (Obj.cells #[.int .i64 (k:Nat),.int .i64 a,.int .i64 b,.int .i64 c,.int .i64 d,.string v] 45)).alloc (Obj.cells #[.int .i64 f] 3)) none:=ag (ag (ae _ _) _) _;have k0:=g.cell c0 Z;have E:=g.cell c1 Z;have y:=g.cell l Z;have z:=g.cell m Z;have A:=g.cell n Z;clear g;clear h;rw [i] at n A;rw [j] at l y;rw [ha] at m z;clear i j ha;go_enter Tryz.func58,Tryz.ntmps58
 go_wp2_with (first | (go_at_call_of 95 (Value.int .i64 a);refine (aB a f _ _ zG).mono ?_;rintro e w1 ⟨rfl,rfl⟩;rw [q]) | (go_at_call_of 95 (Value.int .i64 b);refine (aB b f _ _ zG).mono ?_;rintro e w1 ⟨rfl,rfl⟩;rw [r]) | (go_at_call_of 95 (Value.int .i64 c);refine (aB c f _ _ zG).mono ?_;rintro e w1 ⟨rfl,rfl⟩;rw [t]) | (go_at_call_of 95 (Value.int .i64 d);refine (aB d f _ _ zG).mono ?_;rintro e w1 ⟨rfl,rfl⟩;rw [x]))
 go_ret;exact ⟨rfl,ag (ag (ag (ae _ _) _) _) _⟩
theorem wB (k:Nat) (a b c d:Int) (v:ByteArray) (f:Int) (w:World) (q:1<=k) (D:k<9) (r:fK w) (i:iV a f=true) (j:iV b f=true) (l:lu k=false) (m:fh k=true) (ha:gB k=false) :
  Calls Tryz.prog 58 #[.agg #[.int .i64 (k:Nat),.int .i64 a,.int .i64 b,.int .i64 c,.int .i64 d,.string v],.int .i64 f] w fun e C=>e=.returned (.int .i64 (if c=0/\d=0 then 0 else 6))/\w.grownBy C none:=by
 obtain ⟨B,h⟩:=r;obtain ⟨s,u,c0,c1,n,o,p⟩:=h k q O;have g:w.grownBy ((w.alloc (Obj.cells #[.int .i64 (k:Nat),.int .i64 a,.int .i64 b,.int .i64 c,.int .i64 d,.string v] 45)).alloc (Obj.cells #[.int .i64 f] 3)) none:=ag (ag (ae _ _) _) _;have k0:=g.cell c0 Z;have E:=g.cell c1 Z;have t:=g.cell n Z;have x:=g.cell o Z;have y:=g.cell p Z;clear g;clear h;rw [l] at p y;rw [m] at n t;rw [ha] at o x;clear l m ha;by_cases hc:c=0
 ·by_cases hd:d=0
  ·rw [if_pos ⟨hc,hd⟩];subst hc hd;go_enter Tryz.func58,Tryz.ntmps58
   go_wp2_with (first | (go_at_call_of 95 (Value.int .i64 a);refine (aB a f _ _ zG).mono ?_;rintro e w1 ⟨rfl,rfl⟩;rw [i]) | (go_at_call_of 95 (Value.int .i64 b);refine (aB b f _ _ zG).mono ?_;rintro e w1 ⟨rfl,rfl⟩;rw [j]))
   go_ret;exact ⟨rfl,ag (ag (ag (ae _ _) _) _) _⟩
  ·rw [if_neg (fun e=>hd e.2)];have z:=lC hd;subst hc;go_enter Tryz.func58,Tryz.ntmps58
   go_wp2_with (first | (go_at_call_of 95 (Value.int .i64 a);refine (aB a f _ _ zG).mono ?_;rintro e w1 ⟨rfl,rfl⟩;rw [i]) | (go_at_call_of 95 (Value.int .i64 b);refine (aB b f _ _ zG).mono ?_;rintro e w1 ⟨rfl,rfl⟩;rw [j]))
   go_ret;exact ⟨rfl,ag (ag (ag (ae _ _) _) _) _⟩
 ·rw [if_neg (fun e=>hc e.1)];have A:=lC hc;go_enter Tryz.func58,Tryz.ntmps58
  go_wp2_with (first | (go_at_call_of 95 (Value.int .i64 a);refine (aB a f _ _ zG).mono ?_;rintro e w1 ⟨rfl,rfl⟩;rw [i]) | (go_at_call_of 95 (Value.int .i64 b);refine (aB b f _ _ zG).mono ?_;rintro e w1 ⟨rfl,rfl⟩;rw [j]))
  go_ret;exact ⟨rfl,ag (ag (ag (ae _ _) _) _) _⟩
theorem wj (k:Nat) (a b c d:Int) (v:ByteArray) (f:Int) (w:World) (t:1<=k) (H:k<9) (z:fK w) (j:iV a f=true) (l:iV b f=true) (m:lu k=false) (o:fh k=false) (ha:gB k=false) :
  Calls Tryz.prog 58 #[.agg #[.int .i64 (k:Nat),.int .i64 a,.int .i64 b,.int .i64 c,.int .i64 d,.string v],.int .i64 f] w fun e G=>e=.returned (.int .i64 (if c=0/\d=0/\v.data.toList=[] then 0 else 6))/\w.grownBy G none:=by
 obtain ⟨F,i⟩:=z;obtain ⟨s,u,c0,c1,p,q,r⟩:=i k t O;have g:w.grownBy ((w.alloc (Obj.cells #[.int .i64 (k:Nat),.int .i64 a,.int .i64 b,.int .i64 c,.int .i64 d,.string v] 45)).alloc (Obj.cells #[.int .i64 f] 3)) none:=ag (ag (ae _ _) _) _;have k0:=g.cell c0 Z;have I:=g.cell c1 Z;have A:=g.cell p Z;have B:=g.cell q Z;have C:=g.cell r Z;clear g;clear i;rw [m] at r C;rw [o] at p A;rw [ha] at q B;clear m o ha;by_cases hc:c=0
 ·by_cases hd:d=0
  ·by_cases h:v.data.toList=[]
   ·rw [if_pos ⟨hc,hd,h⟩];subst hc hd;have n:v.toList=[]:=by rw [ByteArray.toList_eq];exact h
    clear h;go_enter Tryz.func58,Tryz.ntmps58
    go_wp2_with (first | (go_at_call_of 95 (Value.int .i64 a);refine (aB a f _ _ zG).mono ?_;rintro e w1 ⟨rfl,rfl⟩;rw [j]) | (go_at_call_of 95 (Value.int .i64 b);refine (aB b f _ _ zG).mono ?_;rintro e w1 ⟨rfl,rfl⟩;rw [l]))
    go_ret;exact ⟨rfl,ag (ag (ag (ae _ _) _) _) _⟩
   ·rw [if_neg (fun e=>h e.2.2)];subst hc hd;have n:v.toList.isEmpty=false:=by
     rw [ByteArray.toList_eq];cases m:v.data.toList with
     | nil=>exact absurd m h
     | cons x y=>rfl
    clear h;go_enter Tryz.func58,Tryz.ntmps58
    go_wp2_with (first | (go_at_call_of 95 (Value.int .i64 a);refine (aB a f _ _ zG).mono ?_;rintro e w1 ⟨rfl,rfl⟩;rw [j]) | (go_at_call_of 95 (Value.int .i64 b);refine (aB b f _ _ zG).mono ?_;rintro e w1 ⟨rfl,rfl⟩;rw [l]))
    go_ret;exact ⟨rfl,ag (ag (ag (ae _ _) _) _) _⟩
  ·rw [if_neg (fun e=>hd e.2.1)];have D:=lC hd;subst hc;go_enter Tryz.func58,Tryz.ntmps58
   go_wp2_with (first | (go_at_call_of 95 (Value.int .i64 a);refine (aB a f _ _ zG).mono ?_;rintro e w1 ⟨rfl,rfl⟩;rw [j]) | (go_at_call_of 95 (Value.int .i64 b);refine (aB b f _ _ zG).mono ?_;rintro e w1 ⟨rfl,rfl⟩;rw [l]))
   go_ret;exact ⟨rfl,ag (ag (ag (ae _ _) _) _) _⟩
 ·rw [if_neg (fun e=>hc e.1)];have E:=lC hc;go_enter Tryz.func58,Tryz.ntmps58
  go_wp2_with (first | (go_at_call_of 95 (Value.int .i64 a);refine (aB a f _ _ zG).mono ?_;rintro e w1 ⟨rfl,rfl⟩;rw [j]) | (go_at_call_of 95 (Value.int .i64 b);refine (aB b f _ _ zG).mono ?_;rintro e w1 ⟨rfl,rfl⟩;rw [l]))
  go_ret;exact ⟨rfl,ag (ag (ag (ae _ _) _) _) _⟩
theorem wi (k:Nat) (a b c d:Int) (v:ByteArray) (f:Int) (w:World) (H:1<=k) (S:k<9) (I:fK w) (t:iV a f=true) (x:iV b f=true) (m:Int) (j:w.cell? ⟨1,0,none⟩=some (.int .i64 m)) (J:1<w.heap.size) (T:v.size<=600000000) (B:lu k=false) (C:fh k=true) (ha:gB k=true) :
  Calls Tryz.prog 58 #[.agg #[.int .i64 (k:Nat),.int .i64 a,.int .i64 b,.int .i64 c,.int .i64 d,.string v],.int .i64 f] w fun e R=>e=.returned (.int .i64 (if rP v<=0 then 5 else if c=0/\d=0 then 0 else 6))/\w.grownBy R none:=by
 obtain ⟨Q,r⟩:=I;obtain ⟨s,u,c0,c1,E,F,G⟩:=r k H O;have q:w.grownBy ((w.alloc (Obj.cells #[.int .i64 (k:Nat),.int .i64 a,.int .i64 b,.int .i64 c,.int .i64 d,.string v] 45)).alloc (Obj.cells #[.int .i64 f] 3)) none:=ag (ag (ae _ _) _) _;have k0:=q.cell c0 Z;have U:=q.cell c1 Z;have K:=q.cell E Z;have L:=q.cell F Z;have M:=q.cell G Z;clear q;clear r;rw [B] at G M;rw [C] at E K;rw [ha] at F L;obtain ⟨sv,p⟩:=eX (rP v);rw [<- p];have l:=ab p;clear B C ha p;by_cases D:sv<=0
 ·rw [if_pos D];go_enter Tryz.func58,Tryz.ntmps58
  go_wp2_with (first | (go_at_call_of 95 (Value.int .i64 a);refine (aB a f _ _ zG).mono ?_;rintro e w1 ⟨rfl,rfl⟩;rw [t]) | (go_at_call_of 95 (Value.int .i64 b);refine (aB b f _ _ zG).mono ?_;rintro e w1 ⟨rfl,rfl⟩;rw [x]) | (go_at_call 59;refine (uQ v m _ O (by refine World.grownBy.cell (w:=w) (row:=none) ?_ j Z;repeat (first | exact ae _ _ | refine ag ?_ _ | refine aj ?_ _))).mono ?_;intro e y h;obtain ⟨z,rfl,f1,i⟩:=h;have n:=ab f1;have o:=ab i;clear f1 i) | (go_at_call 38;refine (ow _ _ _ _ _ _ n).mono ?_;rintro e A ⟨rfl,s2⟩;have g:=ab (aa o s2);have q1:=g.out.cell (a:=⟨w.heap.size,3,none⟩) (v:=.int .i64 c) zG Z;have q2:=g.out.cell (a:=⟨w.heap.size,4,none⟩) (v:=.int .i64 d) zG Z;have q3:=g.out.cell (a:=⟨w.heap.size+1+1,4,none⟩) (v:=.bool false) zG Z;have q4:=g.out.cell (a:=⟨w.heap.size+1+1,2,none⟩) (v:=.bool true) zG Z;rw [show mq (iy v.data.toList).1 (iy v.data.toList).2.1=sv from l.out.symm];clear s2))
  go_ret;exact ⟨rfl,aa (ag (ag (ag (ae _ _) _) _) _) g⟩
 ·rw [if_neg D];by_cases hc:c=0
  ·by_cases hd:d=0
   ·rw [if_pos ⟨hc,hd⟩];subst hc hd;go_enter Tryz.func58,Tryz.ntmps58
    go_wp2_with (first | (go_at_call_of 95 (Value.int .i64 a);refine (aB a f _ _ zG).mono ?_;rintro e w1 ⟨rfl,rfl⟩;rw [t]) | (go_at_call_of 95 (Value.int .i64 b);refine (aB b f _ _ zG).mono ?_;rintro e w1 ⟨rfl,rfl⟩;rw [x]) | (go_at_call 59;refine (uQ v m _ O (by refine World.grownBy.cell (w:=w) (row:=none) ?_ j Z;repeat (first | exact ae _ _ | refine ag ?_ _ | refine aj ?_ _))).mono ?_;intro e y h;obtain ⟨z,rfl,f1,i⟩:=h;have n:=ab f1;have o:=ab i;clear f1 i) | (go_at_call 38;refine (ow _ _ _ _ _ _ n).mono ?_;rintro e A ⟨rfl,s2⟩;have g:=ab (aa o s2);have q1:=g.out.cell (a:=⟨w.heap.size,3,none⟩) (v:=.int .i64 0) zG Z;have q2:=g.out.cell (a:=⟨w.heap.size,4,none⟩) (v:=.int .i64 0) zG Z;have q3:=g.out.cell (a:=⟨w.heap.size+1+1,4,none⟩) (v:=.bool false) zG Z;have q4:=g.out.cell (a:=⟨w.heap.size+1+1,2,none⟩) (v:=.bool true) zG Z;rw [show mq (iy v.data.toList).1 (iy v.data.toList).2.1=sv from l.out.symm];clear s2))
    go_ret;exact ⟨rfl,aa (ag (ag (ag (ae _ _) _) _) _) g⟩
   ·rw [if_neg (fun e=>hd e.2)];have N:=lC hd;subst hc;go_enter Tryz.func58,Tryz.ntmps58
    go_wp2_with (first | (go_at_call_of 95 (Value.int .i64 a);refine (aB a f _ _ zG).mono ?_;rintro e w1 ⟨rfl,rfl⟩;rw [t]) | (go_at_call_of 95 (Value.int .i64 b);refine (aB b f _ _ zG).mono ?_;rintro e w1 ⟨rfl,rfl⟩;rw [x]) | (go_at_call 59;refine (uQ v m _ O (by refine World.grownBy.cell (w:=w) (row:=none) ?_ j Z;repeat (first | exact ae _ _ | refine ag ?_ _ | refine aj ?_ _))).mono ?_;intro e y h;obtain ⟨z,rfl,f1,i⟩:=h;have n:=ab f1;have o:=ab i;clear f1 i) | (go_at_call 38;refine (ow _ _ _ _ _ _ n).mono ?_;rintro e A ⟨rfl,s2⟩;have g:=ab (aa o s2);have q1:=g.out.cell (a:=⟨w.heap.size,3,none⟩) (v:=.int .i64 0) zG Z;have q2:=g.out.cell (a:=⟨w.heap.size,4,none⟩) (v:=.int .i64 d) zG Z;have q3:=g.out.cell (a:=⟨w.heap.size+1+1,4,none⟩) (v:=.bool false) zG Z;have q4:=g.out.cell (a:=⟨w.heap.size+1+1,2,none⟩) (v:=.bool true) zG Z;rw [show mq (iy v.data.toList).1 (iy v.data.toList).2.1=sv from l.out.symm];clear s2))
    go_ret;exact ⟨rfl,aa (ag (ag (ag (ae _ _) _) _) _) g⟩
  ·rw [if_neg (fun e=>hc e.1)];have P:=lC hc;go_enter Tryz.func58,Tryz.ntmps58
   go_wp2_with (first | (go_at_call_of 95 (Value.int .i64 a);refine (aB a f _ _ zG).mono ?_;rintro e w1 ⟨rfl,rfl⟩;rw [t]) | (go_at_call_of 95 (Value.int .i64 b);refine (aB b f _ _ zG).mono ?_;rintro e w1 ⟨rfl,rfl⟩;rw [x]) | (go_at_call 59;refine (uQ v m _ O (by refine World.grownBy.cell (w:=w) (row:=none) ?_ j Z;repeat (first | exact ae _ _ | refine ag ?_ _ | refine aj ?_ _))).mono ?_;intro e y h;obtain ⟨z,rfl,f1,i⟩:=h;have n:=ab f1;have o:=ab i;clear f1 i) | (go_at_call 38;refine (ow _ _ _ _ _ _ n).mono ?_;rintro e A ⟨rfl,s2⟩;have g:=ab (aa o s2);have q1:=g.out.cell (a:=⟨w.heap.size,3,none⟩) (v:=.int .i64 c) zG Z;have q2:=g.out.cell (a:=⟨w.heap.size,4,none⟩) (v:=.int .i64 d) zG Z;have q3:=g.out.cell (a:=⟨w.heap.size+1+1,4,none⟩) (v:=.bool false) zG Z;have q4:=g.out.cell (a:=⟨w.heap.size+1+1,2,none⟩) (v:=.bool true) zG Z;rw [show mq (iy v.data.toList).1 (iy v.data.toList).2.1=sv from l.out.symm];clear s2))
   go_ret;exact ⟨rfl,aa (ag (ag (ag (ae _ _) _) _) _) g⟩
def gD (p:aD) (nodes:Int):Int:=if p.kind<1∨9<=p.kind then 3 else lH p.kind.toNat p.a p.b p.c p.d p.v nodes
def lJ (w:World):Prop:=fK w/\(∃ m:Int,w.cell? ⟨1,0,none⟩=some (.int .i64 m))/\1<w.heap.size
theorem lJ.keep {a:World} (h:lJ w) (hg:w.grownBy a none):lJ a:=by
 obtain ⟨b,⟨m,c⟩,d⟩:=h;exact ⟨b.keep hg,⟨m,hg.cell c Z⟩,Nat.lt_of_lt_of_le d hg.size⟩
theorem yk (z:Int) (a b c d:Int) (v:ByteArray) (f:Int) (w:World) (h:z<1∨9<=z) :
  Calls Tryz.prog 58 #[.agg #[.int .i64 z,.int .i64 a,.int .i64 b,.int .i64 c,.int .i64 d,.string v],.int .i64 f] w fun e g=>e=.returned (.int .i64 3)/\w.grownBy g none:=by
 by_cases i:z<1
 ·clear h;go_enter Tryz.func58,Tryz.ntmps58
  go_wp2;go_ret;exact ⟨rfl,ag (ag (ae _ _) _) _⟩
 ·have j:9<=z:=O
  clear h;go_enter Tryz.func58,Tryz.ntmps58
  go_wp2;go_ret;exact ⟨rfl,ag (ag (ae _ _) _) _⟩
theorem iS {P:Program} {f:Nat} {args:Array Value} {x y:Int} {R:World->Prop} (h:Calls P f args w fun e a=>e=.returned (.int .i64 x)/\R a) (e:x=y):Calls P f args w fun e a=>e=.returned (.int .i64 y)/\R a:=by
 rw [<- e];exact h
theorem EP (p:aD) (f:Int) (w:World) (hb:lJ w) (D:p.v.size<=600000000) :
  Calls Tryz.prog 58 #[p.val,.int .i64 f] w fun e G=>e=.returned (.int .i64 (gD p f))/\w.grownBy G none:=by
 obtain ⟨kind,a,b,c,d,v⟩:=p;unfold aD.val gD;by_cases h:kind<1∨9<=kind
 ·simp only;rw [if_pos h];exact yk kind a b c d v f w h
 ·simp only;rw [if_neg h];obtain ⟨k,rfl⟩:∃ k:Nat,kind=k:=⟨kind.toNat,O⟩;rw [Int.toNat_natCast];have q:1<=k:=O
  have r:k<9:=O
  obtain ⟨s,⟨m,z⟩,A⟩:=hb;by_cases hn:(!(iV a f) || !(iV b f) || (lu k && !(iV c f && iV d f)))=true
  ·refine iS (wA k a b c d v f w q r s hn) ?_;unfold lH;rw [if_pos hn]
  ·have j:iV a f=true:=by
    cases h:iV a f with
    | true=>rfl
    | false=>rw [h] at hn;simp at hn
   have l:iV b f=true:=by
    cases h:iV b f with
    | true=>rfl
    | false=>rw [h] at hn;simp at hn
   have o:(c != 0 || d != 0) = !(decide (c=0/\d=0)):=by
    by_cases hc:c=0<;>by_cases hd:d=0<;>simp [hc,hd]
   have t:k=1∨k=2∨k=3∨k=4∨k=5∨k=6∨k=7∨k=8:=O
   by_cases g:lu k=true
   ·rw [j,l,g] at hn;have B:iV c f=true:=by
     cases h:iV c f with
     | true=>rfl
     | false=>rw [h] at hn;simp at hn
    have C:iV d f=true:=by
     cases h:iV d f with
     | true=>rfl
     | false=>rw [h] at hn;simp at hn
    have i:fh k=true:=by rcases t with rfl | rfl | rfl | rfl | rfl | rfl | rfl | rfl<;>first | rfl | (simp [lu] at g)
    have ha:gB k=false:=by rcases t with rfl | rfl | rfl | rfl | rfl | rfl | rfl | rfl<;>first | rfl | (simp [lu] at g)
    refine iS (Bz k a b c d v f w q r s j l B C g i ha) ?_;unfold lH;simp [j,l,B,C,g,i,ha]
   ·have g:lu k=false:=by simpa using g
    by_cases i:fh k=true
    ·by_cases ha:gB k=true
     ·refine iS (wi k a b c d v f w q r s j l m z A D g i ha) ?_;unfold lH;simp only [j,l,g,i,ha,o];by_cases E:rP v<=0<;>by_cases n:c=0/\d=0<;>simp [E,n]
     ·have ha:gB k=false:=by simpa using ha
      refine iS (wB k a b c d v f w q r s j l g i ha) ?_;unfold lH;simp only [j,l,g,i,ha,o];by_cases n:c=0/\d=0<;>simp [n]
    ·have i:fh k=false:=by simpa using i
     have ha:gB k=false:=by rcases t with rfl | rfl | rfl | rfl | rfl | rfl | rfl | rfl<;>first | rfl | (simp [fh] at i)
     refine iS (wj k a b c d v f w q r s j l g i ha) ?_;unfold lH;simp only [j,l,g,i,ha,o];by_cases n:c=0/\d=0
     ·by_cases u:v.data.toList=[]
      ·simp [n,u]
      ·have F:v.data.toList.isEmpty=false:=by
        cases hq:v.data.toList with
        | nil=>exact absurd hq u
        | cons x y=>rfl
       simp [n,u,F]
     ·rw [if_neg (fun e=>n ⟨e.1,e.2.1⟩)];simp [n]
theorem told_at (p:aD) (f:Int) (g:Nat) (w:World) (hb:lJ w) (k:p.v.size<=600000000) (hg:g<w.heap.size) (hc:w.cell? ⟨g,0,none⟩=some (.int .i64 f)) :
  Calls Tryz.prog 57 #[p.val,.pointer (some ⟨g,0,none⟩)] w fun e n=>e=.returned (.int .i64 (gD p f))/\w.grownBy n none:=by
 have l:=ab (hb.keep (World.grownBy_alloc w (Obj.cells #[.int .i64 p.kind,.int .i64 p.a,.int .i64 p.b,.int .i64 p.c,.int .i64 p.d,.string p.v] 45) none));have i:=EP p f _ l k;have h:=ab i;unfold aD.val at h;clear hb i;unfold aD.val;generalize gD p f=r at h ⊢;go_enter Tryz.func57,Tryz.ntmps57
 go_wp2_with fail;refine h.mono ?_;rintro e w1 ⟨rfl,j⟩;have m:=ab j;clear j;go_wp2;go_ret;exact ⟨rfl,aa (ag (ae _ _) _) m⟩
def dS (nodes:Int):List aD->Nat->Int×Int
 | [],_=>(0,0)
 | p :: r,i=>if gD p nodes=0 then dS nodes r (i+1) else (gD p nodes,(i:Int))
def iG (nodes:Int) (ps:List aD):Int×Int:=if nodes<1∨8<nodes∨16<ps.length then (2,0) else dS nodes ps 0
def wH (w:World) (nodes:Int) (ps:List aD) (e:Ending) (w':World):Prop:=e=.returned (.agg #[.int .i64 (iG nodes ps).1,.int .i64 (iG nodes ps).2])/\w.grownBy w' none
theorem wS (a:Int) (o:Option Addr) (l cap:Nat) (f:Value) (w:World) (h:a<1∨8<a∨16<l) :
  Calls Tryz.prog 56 #[.agg #[.int .i64 a,.slice o l cap],f] w fun e i=>e=.returned (.agg #[.int .i64 2,.int .i64 0])/\w.grownBy i none:=by
 by_cases b:a<1
 ·clear h;go_enter Tryz.func56,Tryz.ntmps56
  go_wp2;exact bodyPost_ret (v:=.agg #[.int .i64 2,.int .i64 0]) (by simp [results,Tryz.results56,go_sem]) rfl ⟨rfl,ag (ag (ae _ _) _) _⟩
 ·by_cases c:8<a
  ·clear h;go_enter Tryz.func56,Tryz.ntmps56
   go_wp2;exact bodyPost_ret (v:=.agg #[.int .i64 2,.int .i64 0]) (by simp [results,Tryz.results56,go_sem]) rfl ⟨rfl,ag (ag (ae _ _) _) _⟩
  ·have j:16<l:=O
   have d:decide (a<1)=false:=by simpa using b
   have g:decide (8<a)=false:=by simpa using c
   clear h;go_enter Tryz.func56,Tryz.ntmps56
   go_wp2;exact bodyPost_ret (v:=.agg #[.int .i64 2,.int .i64 0]) (by simp [results,Tryz.results56,go_sem]) rfl ⟨rfl,ag (ag (ae _ _) _) _⟩
theorem te {W:World} {t:TypeId} {u v:Value} (h:(w.alloc (Obj.cells #[u,v] t)).grownBy W none) :
  W.cell? ⟨w.heap.size,0,none⟩=some u/\W.cell? ⟨w.heap.size,1,none⟩=some v/\(∀ i,W.frozen? ⟨w.heap.size,i,none⟩=false):=by
 have e:W.heap[w.heap.size]? = some (Obj.cells #[u,v] t (0,0)):=by
  rw [h.block w.heap.size Z Z];exact heap_alloc_new w _
 refine ⟨?_,?_,fun i=>?_⟩<;>simp [World.cell?,World.frozen?,e]
def NChkR (W:World) (nodes:Int) (ps:List aD) (C:Int×Int) (iv:Value) (wr:World):Prop:=∃ i:Nat,i<=ps.length/\iv=.int .i64 i/\dS nodes (ps.drop i) i=C/\W.grownBy wr none
theorem B9 (a:Int) (pv:Value) (c:List aD) (g:Nat) (w:World) (hb:lJ w) (X:aR w pv c) (hg:g<w.heap.size) (hc:w.cell? ⟨g,0,none⟩=some (.int .i64 a)) :
  Calls Tryz.prog 56 #[.agg #[.int .i64 a,pv],.func (.func 57) #[] #[.pointer (some ⟨g,0,none⟩)]] w fun e w'=>wH w a c e w':=by
 obtain ⟨M,cap,rfl,h1,h2,N⟩:=X;unfold maxLen at h2;by_cases o:a<1∨8<a∨16<c.length
 ·refine (wS a M c.length cap _ w o).mono ?_;rintro e w' ⟨rfl,hw⟩;refine ⟨?_,hw⟩;unfold iG;rw [if_pos o]
 ·have Y:decide (a<1)=false:=by simp;omega
  have he:decide (8<a)=false:=by simp;omega
  have hj:decide ((16:Int)<(c.length:Int))=false:=by simp;omega
  have J:c.length<=16:=O
  have t:=ab N;have u:=ab hb;have x:=ab hc;obtain ⟨C,G⟩:∃ C,dS a c 0=C:=⟨_,rfl⟩;have l:Hid (iG a c=C):=by
   show _=_
   unfold iG;rw [if_neg o,G]
  have y:=ab G;clear N hb hc o G;go_enter Tryz.func56,Tryz.ntmps56
  go_wp2;obtain ⟨W,q⟩:=eX ((w.alloc (Obj.cells #[.int .i64 a,.slice M c.length cap] 24)).alloc (Obj.cells #[.int .i64 0,.int .i64 0] 32));have z:Hid (w.grownBy W none):=by rw [q];exact ag (ag (ae _ _) _) _
  have K:Hid (∀ wr:World,W.grownBy wr none->wr.cell? ⟨w.heap.size+1,0,none⟩=some (.int .i64 0)/\wr.cell? ⟨w.heap.size+1,1,none⟩=some (.int .i64 0)/\(∀ i,wr.frozen? ⟨w.heap.size+1,i,none⟩=false)):=by
   intro wr hg;rw [q] at hg;have:=te hg;simpa using this
  simp only [<- q];clear q;go_loopw [26] (fun iv wr=>Hid (NChkR W a c C iv wr)) (fun iv _=>c.length-(intOf iv).toNat)
  case atStart=>exact ⟨0,O,rfl,y,ae _ _⟩
  case round =>
   obtain ⟨i,hi,rfl,P,k⟩:=hrel.out;obtain ⟨r0,r1,H⟩:=K.out wr k;have hk:=H 0;have hl:=H 1;have A:=ab P;have f:=ab k;clear P k H hrel;by_cases hlt:i<c.length
   ·obtain ⟨b,off,rfl,hb,c0,c1,Q,R,S,T,U⟩:=t.out i hlt;have d:=(aa z f);have q0:=d.cell c0 Z;have q1:=d.cell c1 Z;have q2:=d.cell Q Z;have q3:=d.cell R Z;have q4:=d.cell S Z;have q5:=d.cell T Z;have hd:c.drop i=c[i] :: c.drop (i+1):=List.drop_eq_getElem_cons hlt;have B:=ab hd;have h:=ab d;generalize c[i]=p at q0 q1 q2 q3 q4 q5 U B;clear c0 c1 Q R S T hd d;go_wp2_with fail;refine (told_at p a g _ (u.keep (ag h _)) U (by have:=h.out.size;simp;omega) ((ag h _).cell x Z)).mono ?_;rintro e w1 ⟨rfl,V⟩;have D:=ab (aa (ag f _) V);obtain ⟨t0,t1,I⟩:=K.out w1 D;have ho:=I 0;have hq:=I 1;clear I V t;by_cases j:gD p a=0
    ·rw [j];have E:=ab j;clear j;go_wp2;go_roundw
     case rel =>
      refine ⟨i+1,O,zN,?_,D⟩;have:=A.out;rw [B,dS,if_pos E.out] at this;exact this
     case measure=>simp [intOf];omega
    ·obtain ⟨r,s⟩:=eX (gD p a);rw [<- s];rw [<- s] at j;have hs:=lC j;have L:=ab s;have E:=ab j;clear j s;go_wp2;refine bodyPost_ret (v:=.agg #[.int .i64 r,.int .i64 (i:Nat)]) (by simp [results,Tryz.results56,go_sem,t0,t1]) rfl ?_;have m:=A.out;rw [B,dS,if_neg (by rw [<- L];exact E),<- L] at m;refine ⟨?_,?_⟩
     ·rw [l,<- m]
     ·exact ah (ah (aa z D) _ _ Z) _ _ Z
   ·have n:c.drop i=[]:=List.drop_of_length_le O;have F:=ab n;clear n t;go_wp2;refine bodyPost_ret (v:=.agg #[.int .i64 0,.int .i64 0]) (by simp [results,Tryz.results56,go_sem,r0,r1]) rfl ?_;have m:=A.out;rw [F,dS] at m;refine ⟨?_,?_⟩
    ·rw [l,<- m]
    ·exact ah (ah (aa z f) _ _ Z) _ _ Z
theorem BD (a:Int) (pv:Value) (b:List aD) (w:World) (hb:lJ w) (j:aR w pv b) :
  Calls Tryz.prog 31 #[.agg #[.int .i64 a,pv]] w fun e A=>wH w a b e A:=by
 have l:=ab hb;have m:=ab j;obtain ⟨s,cap,rfl,B,t,u⟩:=j;clear u hb t;go_enter Tryz.func31,Tryz.ntmps31
 go_wp2_with fail;have k:w.grownBy ((w.alloc (Obj.cells #[.int .i64 a,.slice s b.length cap] 24)).alloc (Obj.cells #[.int .i64 0,.int .i64 0] 32)) none:=ag (ag (ae _ _) _) _;have c:=ab k;clear k;refine (B9 a _ b w.heap.size _ (l.keep c) (m.keep c) (by simp;omega) zG).mono ?_;intro e w1 r;obtain ⟨rfl,f⟩:=r;have n:=ab f;have d:w1.cell? ⟨w.heap.size+1,0,none⟩=some (.int .i64 0)/\w1.cell? ⟨w.heap.size+1,1,none⟩=some (.int .i64 0)/\(∀ i,w1.frozen? ⟨w.heap.size+1,i,none⟩=false):=by
  have:=te f;simpa using this
 obtain ⟨x,r1,g⟩:=d;have o:=g 0;have p:=g 1;obtain ⟨C,h⟩:=eX (iG a b);rw [<- h];obtain ⟨y,z⟩:=C;have q:=ab h;clear g f h;go_wp2;refine bodyPost_ret (v:=.agg #[.int .i64 y,.int .i64 z]) (by simp [results,Tryz.results31,go_sem,x,r1]) rfl ?_;refine ⟨?_,?_⟩
 ·rw [<- q]
 ·exact ah (ah (aa c n) _ _ Z) _ _ Z
def oS (p:aD):List Value:=[.int .i64 p.kind,.int .i64 p.a,.int .i64 p.b,.int .i64 p.c,.int .i64 p.d,.string p.v]
def nW (ps:List aD):List Value:=ps.flatMap oS
theorem iF (p:aD):(oS p).length=6:=rfl
theorem tV (a:List aD) (i k:Nat) (h:i<a.length) (b:k<6):(nW a)[i*6+k]? = (oS a[i])[k]?:=by
 induction a generalizing i with
 | nil=>simp at h
 | cons p r ih =>
  show (oS p++nW r)[i*6+k]? = _
  cases i with
  | zero=>rw [List.getElem?_append_left (by rw [iF];omega)];simp
  | succ i =>
   rw [List.getElem?_append_right (by rw [iF];omega),iF,show (i+1)*6+k-6=i*6+k from O,ih i (by simpa using h)];simp
theorem pH {g n cap:Nat} {a:List aD} (hb:g<w.heap.size) (hn:a.length=n) (hc:n<=cap) (b:cap<=maxLen) (c:∀ i (h:i<a.length),a[i].v.size<=600000000)
  (h:∀ j,j<n*6->w.cell? ⟨g,j,none⟩=(nW a)[j]?):aR w (.slice (some ⟨g,0,none⟩) n cap) a:=by
 subst hn;refine ⟨_,cap,rfl,hc,b,fun i hi=>⟨g,0,rfl,hb,?_⟩⟩;have e:∀ k,k<6->w.cell? ⟨g,0+i*6+k,none⟩=(oS a[i])[k]?:=fun k d=>by
  rw [Nat.zero_add,h (i*6+k) O,tV a i k hi d]
 exact ⟨by have:=e 0 O;exact this,by have:=e 1 O;exact this,by have:=e 2 O;exact this,by have:=e 3 O;exact this,by have:=e 4 O;exact this,by have:=e 5 O;exact this,c i hi⟩
end Go.Proofs.YtkbmbmdemajoaaaGreatDoor
