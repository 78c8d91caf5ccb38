/- Contracts. -/
import Derived.Test.YtbomdfhdocaagaaGreatDoorXPd
import Derived.Test.YtbomdfhdocaagaaGreatDoorXPb
namespace Go.Proofs.YtbomdfhdocaagaaGreatDoor
open Go.RowKit
set_option linter.all false
set_option maxHeartbeats 8000000
set_option maxRecDepth 10000
variable {w:World}
def lQ (neg:Bool) (n:Nat):Int:=if neg then -1 else if n=0 then 0 else 1
def oZ (v:Value) (neg:Bool) (n d L:Nat) (w:World) (h:FV w v neg n d L) :
  Calls Tryz.prog 63 #[v] w fun e p=>e=.returned (.int .i64 (lQ neg n))/\w.grownBy p none:=by
 obtain ⟨up,a,rfl,f,b,j,k⟩:=h;obtain ⟨q,g,r,rfl,u1,_,_⟩:=f.shape;obtain ⟨m,s,t,rfl⟩:∃ o l c,a=.slice o l c:=by
  rcases b with ⟨rfl,_⟩ | ⟨b,_⟩
  ·exact ⟨_,_,_,rfl⟩
  ·obtain ⟨o,l,c,rfl,_⟩:=b.shape;exact ⟨_,_,_,rfl⟩
 have i:=ab u1;clear u1 f b j k;cases neg with
 | true =>
  go_enter Tryz.func63,Tryz.ntmps63
  go_wp2;go_ret;exact ⟨rfl,ag (ae _ _) _⟩
 | false =>
  go_enter Tryz.func63,Tryz.ntmps63
  go_wp2_with fail;refine (mF _ _).mono ?_;rintro e w1 ⟨rfl,rfl⟩;go_wp2;go_ret;refine ⟨?_,ag (ae _ _) _⟩;have:ja (g:Int)=lQ false n:=by
   unfold ja lQ;have:=i.out;by_cases h:g=0
   ·rw [if_neg O,if_neg O,if_neg Z,if_pos (this.1 h)]
   ·rw [if_neg O,if_pos O,if_neg Z,if_neg (fun e=>h (this.2 e))]
  rw [<- this];rfl
def eK (k:Nat):Bool:=k != 8
def fP (k:Nat):Bool:=k==1 || k==2 || k==3
def lK (k:Nat):Bool:=k==6 || k==7
def fV (w:World):Prop:=1<w.heap.size/\∀ k:Nat,1<=k->k<=8->∃ s u:ByteArray,w.cell? ⟨1,k*5,none⟩=some (.string s)/\w.cell? ⟨1,k*5+1,none⟩=some (.string u) /\
 w.cell? ⟨1,k*5+2,none⟩=some (.bool (eK k))/\w.cell? ⟨1,k*5+3,none⟩=some (.bool (fP k))/\w.cell? ⟨1,k*5+4,none⟩=some (.bool (lK k))
def fV.keep {f:World} (h:fV w) (hg:w.grownBy f none):fV f:=by
 refine ⟨Nat.lt_of_lt_of_le h.1 hg.size,fun k g i=>?_⟩;obtain ⟨s,u,a,b,c,d,e⟩:=h.2 k g i;exact ⟨s,u,hg.cell a Z,hg.cell b Z,hg.cell c Z,hg.cell d Z,hg.cell e Z⟩
def ft (x nodes:Int):Bool:=decide (0<=x) && decide (x<nodes)
def aD (x a:Int) (g:Nat) (w:World) (hc:w.cell? ⟨g,0,none⟩=some (.int .i64 a)) :
  Calls Tryz.prog 74 #[.int .i64 x,.pointer (some ⟨g,0,none⟩)] w fun e b=>e=.returned (.bool (ft x a))/\b=w:=by
 by_cases h:0<=x
 ·go_enter Tryz.func74,Tryz.ntmps74
  go_wp2;go_ret;refine ⟨?_,rfl⟩;unfold ft;simp [h]
 ·go_enter Tryz.func74,Tryz.ntmps74
  go_wp2;go_ret;refine ⟨?_,rfl⟩;unfold ft;rw [show decide (0<=x)=false from by simpa using h];rfl
def kM (v:ByteArray):Int:=lQ (ij v.data.toList).1 (ij v.data.toList).2.1
def kT (k:Nat) (a b c d:Int) (v:ByteArray) (nodes:Int):Int :=
 if !(ft a nodes) || !(ft b nodes) || (lK k && !(ft c nodes && ft d nodes)) then 4
 else if fP k && decide (kM v<=0) then 5
 else if (!lK k && (c != 0 || d != 0)) || (!eK k && !v.data.toList.isEmpty) then 6 else 0
def xr (k:Nat) (a b c d:Int) (v:ByteArray) (f:Int) (w:World) (j:1<=k) (t:k<9) (l:fV w) (hn:(!(ft a f) || !(ft b f) || (lK k && !(ft c f && ft d f)))=true) :
  Calls Tryz.prog 43 #[.agg #[.int .i64 (k:Nat),.int .i64 a,.int .i64 b,.int .i64 c,.int .i64 d,.string v],.int .i64 f] w fun e r=>e=.returned (.int .i64 4)/\w.grownBy r none:=by
 obtain ⟨q,i⟩:=l;obtain ⟨s,u,c0,c1,c2,c3,c4⟩:=i k j O;have h:w.grownBy ((w.alloc (Obj.cells #[.int .i64 (k:Nat),.int .i64 a,.int .i64 b,.int .i64 c,.int .i64 d,.string v] 55)).alloc (Obj.cells #[.int .i64 f] 3)) none:=ag (ag (ae _ _) _) _;have k0:=h.cell c0 Z;have x:=h.cell c1 Z;have m:=h.cell c2 Z;have n:=h.cell c3 Z;have o:=h.cell c4 Z;clear h;generalize eK k=valued at c2 m;generalize fP k=above at c3 n;generalize lK k=led at c4 o hn;clear i;cases hA:ft a f with
 | false =>
  clear hn;go_enter Tryz.func43,Tryz.ntmps43
  go_wp2_with (go_at_call_of 74 (Value.int .i64 a);refine (aD a f _ _ zG).mono ?_;rintro e w1 ⟨rfl,rfl⟩;rw [hA])
  go_ret;exact ⟨rfl,ag (ag (ag (ae _ _) _) _) _⟩
 | true =>
  cases hB:ft b f with
  | false =>
   clear hn;go_enter Tryz.func43,Tryz.ntmps43
   go_wp2_with (first | (go_at_call_of 74 (Value.int .i64 a);refine (aD a f _ _ zG).mono ?_;rintro e w1 ⟨rfl,rfl⟩;rw [hA]) | (go_at_call_of 74 (Value.int .i64 b);refine (aD b f _ _ zG).mono ?_;rintro e w1 ⟨rfl,rfl⟩;rw [hB]))
   go_ret;exact ⟨rfl,ag (ag (ag (ae _ _) _) _) _⟩
  | true =>
   rw [hA,hB] at hn;simp only [Bool.not_true,Bool.false_or,Bool.and_eq_true] at hn;obtain ⟨rfl,g⟩:=hn;cases hC:ft c f with
   | false =>
    clear g;go_enter Tryz.func43,Tryz.ntmps43
    go_wp2_with (first | (go_at_call_of 74 (Value.int .i64 a);refine (aD a f _ _ zG).mono ?_;rintro e w1 ⟨rfl,rfl⟩;rw [hA]) | (go_at_call_of 74 (Value.int .i64 b);refine (aD b f _ _ zG).mono ?_;rintro e w1 ⟨rfl,rfl⟩;rw [hB]) | (go_at_call_of 74 (Value.int .i64 c);refine (aD c f _ _ zG).mono ?_;rintro e w1 ⟨rfl,rfl⟩;rw [hC]))
    go_ret;exact ⟨rfl,ag (ag (ag (ae _ _) _) _) _⟩
   | true =>
    rw [hC] at g;have p:ft d f=false:=by simpa using g
    clear g;go_enter Tryz.func43,Tryz.ntmps43
    go_wp2_with (first | (go_at_call_of 74 (Value.int .i64 a);refine (aD a f _ _ zG).mono ?_;rintro e w1 ⟨rfl,rfl⟩;rw [hA]) | (go_at_call_of 74 (Value.int .i64 b);refine (aD b f _ _ zG).mono ?_;rintro e w1 ⟨rfl,rfl⟩;rw [hB]) | (go_at_call_of 74 (Value.int .i64 c);refine (aD c f _ _ zG).mono ?_;rintro e w1 ⟨rfl,rfl⟩;rw [hC]) | (go_at_call_of 74 (Value.int .i64 d);refine (aD d f _ _ zG).mono ?_;rintro e w1 ⟨rfl,rfl⟩;rw [p]))
    go_ret;exact ⟨rfl,ag (ag (ag (ae _ _) _) _) _⟩
def mf {c:Int} (h:c≠0):(c != 0)=true:=by simpa using h
def CA (k:Nat) (a b c d:Int) (v:ByteArray) (f:Int) (w:World) (l:1<=k) (A:k<9) (m:fV w) (n:ft a f=true) (o:ft b f=true) (p:ft c f=true) (q:ft d f=true) (i:lK k=true) (j:eK k=true) (ha:fP k=false) :
  Calls Tryz.prog 43 #[.agg #[.int .i64 (k:Nat),.int .i64 a,.int .i64 b,.int .i64 c,.int .i64 d,.string v],.int .i64 f] w fun e z=>e=.returned (.int .i64 (0))/\w.grownBy z none:=by
 obtain ⟨y,h⟩:=m;obtain ⟨s,u,c0,c1,c2,c3,c4⟩:=h k l O;have g:w.grownBy ((w.alloc (Obj.cells #[.int .i64 (k:Nat),.int .i64 a,.int .i64 b,.int .i64 c,.int .i64 d,.string v] 55)).alloc (Obj.cells #[.int .i64 f] 3)) none:=ag (ag (ae _ _) _) _;have k0:=g.cell c0 Z;have B:=g.cell c1 Z;have r:=g.cell c2 Z;have t:=g.cell c3 Z;have x:=g.cell c4 Z;clear g;clear h;rw [i] at c4 x;rw [j] at c2 r;rw [ha] at c3 t;clear i j ha;go_enter Tryz.func43,Tryz.ntmps43
 go_wp2_with (first | (go_at_call_of 74 (Value.int .i64 a);refine (aD a f _ _ zG).mono ?_;rintro e w1 ⟨rfl,rfl⟩;rw [n]) | (go_at_call_of 74 (Value.int .i64 b);refine (aD b f _ _ zG).mono ?_;rintro e w1 ⟨rfl,rfl⟩;rw [o]) | (go_at_call_of 74 (Value.int .i64 c);refine (aD c f _ _ zG).mono ?_;rintro e w1 ⟨rfl,rfl⟩;rw [p]) | (go_at_call_of 74 (Value.int .i64 d);refine (aD d f _ _ zG).mono ?_;rintro e w1 ⟨rfl,rfl⟩;rw [q]))
 go_ret;exact ⟨rfl,ag (ag (ag (ae _ _) _) _) _⟩
def xt (k:Nat) (a b c d:Int) (v:ByteArray) (f:Int) (w:World) (n:1<=k) (A:k<9) (o:fV w) (i:ft a f=true) (j:ft b f=true) (l:lK k=false) (m:eK k=true) (ha:fP k=false) :
  Calls Tryz.prog 43 #[.agg #[.int .i64 (k:Nat),.int .i64 a,.int .i64 b,.int .i64 c,.int .i64 d,.string v],.int .i64 f] w fun e z=>e=.returned (.int .i64 (if c=0/\d=0 then 0 else 6))/\w.grownBy z none:=by
 obtain ⟨y,h⟩:=o;obtain ⟨s,u,c0,c1,c2,c3,c4⟩:=h k n O;have g:w.grownBy ((w.alloc (Obj.cells #[.int .i64 (k:Nat),.int .i64 a,.int .i64 b,.int .i64 c,.int .i64 d,.string v] 55)).alloc (Obj.cells #[.int .i64 f] 3)) none:=ag (ag (ae _ _) _) _;have k0:=g.cell c0 Z;have B:=g.cell c1 Z;have p:=g.cell c2 Z;have q:=g.cell c3 Z;have r:=g.cell c4 Z;clear g;clear h;rw [l] at c4 r;rw [m] at c2 p;rw [ha] at c3 q;clear l m ha;by_cases hc:c=0
 ·by_cases hd:d=0
  ·rw [if_pos ⟨hc,hd⟩];subst hc hd;go_enter Tryz.func43,Tryz.ntmps43
   go_wp2_with (first | (go_at_call_of 74 (Value.int .i64 a);refine (aD a f _ _ zG).mono ?_;rintro e w1 ⟨rfl,rfl⟩;rw [i]) | (go_at_call_of 74 (Value.int .i64 b);refine (aD b f _ _ zG).mono ?_;rintro e w1 ⟨rfl,rfl⟩;rw [j]))
   go_ret;exact ⟨rfl,ag (ag (ag (ae _ _) _) _) _⟩
  ·rw [if_neg (fun e=>hd e.2)];have t:=mf hd;subst hc;go_enter Tryz.func43,Tryz.ntmps43
   go_wp2_with (first | (go_at_call_of 74 (Value.int .i64 a);refine (aD a f _ _ zG).mono ?_;rintro e w1 ⟨rfl,rfl⟩;rw [i]) | (go_at_call_of 74 (Value.int .i64 b);refine (aD b f _ _ zG).mono ?_;rintro e w1 ⟨rfl,rfl⟩;rw [j]))
   go_ret;exact ⟨rfl,ag (ag (ag (ae _ _) _) _) _⟩
 ·rw [if_neg (fun e=>hc e.1)];have x:=mf hc;go_enter Tryz.func43,Tryz.ntmps43
  go_wp2_with (first | (go_at_call_of 74 (Value.int .i64 a);refine (aD a f _ _ zG).mono ?_;rintro e w1 ⟨rfl,rfl⟩;rw [i]) | (go_at_call_of 74 (Value.int .i64 b);refine (aD b f _ _ zG).mono ?_;rintro e w1 ⟨rfl,rfl⟩;rw [j]))
  go_ret;exact ⟨rfl,ag (ag (ag (ae _ _) _) _) _⟩
def xq (k:Nat) (a b c d:Int) (v:ByteArray) (f:Int) (w:World) (p:1<=k) (E:k<9) (q:fV w) (j:ft a f=true) (l:ft b f=true) (m:lK k=false) (o:eK k=false) (ha:fP k=false) :
  Calls Tryz.prog 43 #[.agg #[.int .i64 (k:Nat),.int .i64 a,.int .i64 b,.int .i64 c,.int .i64 d,.string v],.int .i64 f] w fun e D=>e=.returned (.int .i64 (if c=0/\d=0/\v.data.toList=[] then 0 else 6))/\w.grownBy D none:=by
 obtain ⟨C,i⟩:=q;obtain ⟨s,u,c0,c1,c2,c3,c4⟩:=i k p O;have g:w.grownBy ((w.alloc (Obj.cells #[.int .i64 (k:Nat),.int .i64 a,.int .i64 b,.int .i64 c,.int .i64 d,.string v] 55)).alloc (Obj.cells #[.int .i64 f] 3)) none:=ag (ag (ae _ _) _) _;have k0:=g.cell c0 Z;have F:=g.cell c1 Z;have r:=g.cell c2 Z;have t:=g.cell c3 Z;have z:=g.cell c4 Z;clear g;clear i;rw [m] at c4 z;rw [o] at c2 r;rw [ha] at c3 t;clear m o ha;by_cases hc:c=0
 ·by_cases hd:d=0
  ·by_cases h:v.data.toList=[]
   ·rw [if_pos ⟨hc,hd,h⟩];subst hc hd;have n:v.toList=[]:=by rw [ByteArray.toList_eq];exact h
    clear h;go_enter Tryz.func43,Tryz.ntmps43
    go_wp2_with (first | (go_at_call_of 74 (Value.int .i64 a);refine (aD a f _ _ zG).mono ?_;rintro e w1 ⟨rfl,rfl⟩;rw [j]) | (go_at_call_of 74 (Value.int .i64 b);refine (aD b f _ _ zG).mono ?_;rintro e w1 ⟨rfl,rfl⟩;rw [l]))
    go_ret;exact ⟨rfl,ag (ag (ag (ae _ _) _) _) _⟩
   ·rw [if_neg (fun e=>h e.2.2)];subst hc hd;have n:v.toList.isEmpty=false:=by
     rw [ByteArray.toList_eq];cases m:v.data.toList with
     | nil=>exact absurd m h
     | cons x y=>rfl
    clear h;go_enter Tryz.func43,Tryz.ntmps43
    go_wp2_with (first | (go_at_call_of 74 (Value.int .i64 a);refine (aD a f _ _ zG).mono ?_;rintro e w1 ⟨rfl,rfl⟩;rw [j]) | (go_at_call_of 74 (Value.int .i64 b);refine (aD b f _ _ zG).mono ?_;rintro e w1 ⟨rfl,rfl⟩;rw [l]))
    go_ret;exact ⟨rfl,ag (ag (ag (ae _ _) _) _) _⟩
  ·rw [if_neg (fun e=>hd e.2.1)];have A:=mf hd;subst hc;go_enter Tryz.func43,Tryz.ntmps43
   go_wp2_with (first | (go_at_call_of 74 (Value.int .i64 a);refine (aD a f _ _ zG).mono ?_;rintro e w1 ⟨rfl,rfl⟩;rw [j]) | (go_at_call_of 74 (Value.int .i64 b);refine (aD b f _ _ zG).mono ?_;rintro e w1 ⟨rfl,rfl⟩;rw [l]))
   go_ret;exact ⟨rfl,ag (ag (ag (ae _ _) _) _) _⟩
 ·rw [if_neg (fun e=>hc e.1)];have B:=mf hc;go_enter Tryz.func43,Tryz.ntmps43
  go_wp2_with (first | (go_at_call_of 74 (Value.int .i64 a);refine (aD a f _ _ zG).mono ?_;rintro e w1 ⟨rfl,rfl⟩;rw [j]) | (go_at_call_of 74 (Value.int .i64 b);refine (aD b f _ _ zG).mono ?_;rintro e w1 ⟨rfl,rfl⟩;rw [l]))
  go_ret;exact ⟨rfl,ag (ag (ag (ae _ _) _) _) _⟩
def xp (k:Nat) (a b c d:Int) (v:ByteArray) (f:Int) (w:World) (E:1<=k) (P:k<9) (F:fV w) (t:ft a f=true) (x:ft b f=true) (m:Int) (j:w.cell? ⟨2,0,none⟩=some (.int .i64 m)) (G:2<w.heap.size) (Q:v.size<=600000000) (B:lK k=false) (C:eK k=true) (ha:fP k=true) :
  Calls Tryz.prog 43 #[.agg #[.int .i64 (k:Nat),.int .i64 a,.int .i64 b,.int .i64 c,.int .i64 d,.string v],.int .i64 f] w fun e N=>e=.returned (.int .i64 (if kM v<=0 then 5 else if c=0/\d=0 then 0 else 6))/\w.grownBy N none:=by
 obtain ⟨M,r⟩:=F;obtain ⟨s,u,c0,c1,c2,c3,c4⟩:=r k E O;have q:w.grownBy ((w.alloc (Obj.cells #[.int .i64 (k:Nat),.int .i64 a,.int .i64 b,.int .i64 c,.int .i64 d,.string v] 55)).alloc (Obj.cells #[.int .i64 f] 3)) none:=ag (ag (ae _ _) _) _;have k0:=q.cell c0 Z;have R:=q.cell c1 Z;have H:=q.cell c2 Z;have I:=q.cell c3 Z;have J:=q.cell c4 Z;clear q;clear r;rw [B] at c4 J;rw [C] at c2 H;rw [ha] at c3 I;obtain ⟨sv,p⟩:=eX (kM v);rw [<- p];have l:=ab p;clear B C ha p;by_cases D:sv<=0
 ·rw [if_pos D];go_enter Tryz.func43,Tryz.ntmps43
  go_wp2_with (first | (go_at_call_of 74 (Value.int .i64 a);refine (aD a f _ _ zG).mono ?_;rintro e w1 ⟨rfl,rfl⟩;rw [t]) | (go_at_call_of 74 (Value.int .i64 b);refine (aD b f _ _ zG).mono ?_;rintro e w1 ⟨rfl,rfl⟩;rw [x]) | (go_at_call 75;refine (vS v m _ O (by refine World.grownBy.cell (w:=w) (row:=none) ?_ j Z;repeat (first | exact ae _ _ | refine ag ?_ _ | refine ak ?_ _))).mono ?_;intro e y h;obtain ⟨z,rfl,f1,i⟩:=h;have n:=ab f1;have o:=ab i;clear f1 i) | (go_at_call 63;refine (oZ _ _ _ _ _ _ n).mono ?_;rintro e A ⟨rfl,s2⟩;have g:=ab (aa o s2);have q1:=g.out.cell (a:=⟨w.heap.size,3,none⟩) (v:=.int .i64 c) zG Z;have q2:=g.out.cell (a:=⟨w.heap.size,4,none⟩) (v:=.int .i64 d) zG Z;have q3:=g.out.cell (a:=⟨w.heap.size+1+1,4,none⟩) (v:=.bool false) zG Z;have q4:=g.out.cell (a:=⟨w.heap.size+1+1,2,none⟩) (v:=.bool true) zG Z;rw [show lQ (ij v.data.toList).1 (ij v.data.toList).2.1=sv from l.out.symm];clear s2))
  go_ret;exact ⟨rfl,aa (ag (ag (ag (ae _ _) _) _) _) g⟩
 ·rw [if_neg D];by_cases hc:c=0
  ·by_cases hd:d=0
   ·rw [if_pos ⟨hc,hd⟩];subst hc hd;go_enter Tryz.func43,Tryz.ntmps43
    go_wp2_with (first | (go_at_call_of 74 (Value.int .i64 a);refine (aD a f _ _ zG).mono ?_;rintro e w1 ⟨rfl,rfl⟩;rw [t]) | (go_at_call_of 74 (Value.int .i64 b);refine (aD b f _ _ zG).mono ?_;rintro e w1 ⟨rfl,rfl⟩;rw [x]) | (go_at_call 75;refine (vS v m _ O (by refine World.grownBy.cell (w:=w) (row:=none) ?_ j Z;repeat (first | exact ae _ _ | refine ag ?_ _ | refine ak ?_ _))).mono ?_;intro e y h;obtain ⟨z,rfl,f1,i⟩:=h;have n:=ab f1;have o:=ab i;clear f1 i) | (go_at_call 63;refine (oZ _ _ _ _ _ _ n).mono ?_;rintro e A ⟨rfl,s2⟩;have g:=ab (aa o s2);have q1:=g.out.cell (a:=⟨w.heap.size,3,none⟩) (v:=.int .i64 0) zG Z;have q2:=g.out.cell (a:=⟨w.heap.size,4,none⟩) (v:=.int .i64 0) zG Z;have q3:=g.out.cell (a:=⟨w.heap.size+1+1,4,none⟩) (v:=.bool false) zG Z;have q4:=g.out.cell (a:=⟨w.heap.size+1+1,2,none⟩) (v:=.bool true) zG Z;rw [show lQ (ij v.data.toList).1 (ij v.data.toList).2.1=sv from l.out.symm];clear s2))
    go_ret;exact ⟨rfl,aa (ag (ag (ag (ae _ _) _) _) _) g⟩
   ·rw [if_neg (fun e=>hd e.2)];have K:=mf hd;subst hc;go_enter Tryz.func43,Tryz.ntmps43
    go_wp2_with (first | (go_at_call_of 74 (Value.int .i64 a);refine (aD a f _ _ zG).mono ?_;rintro e w1 ⟨rfl,rfl⟩;rw [t]) | (go_at_call_of 74 (Value.int .i64 b);refine (aD b f _ _ zG).mono ?_;rintro e w1 ⟨rfl,rfl⟩;rw [x]) | (go_at_call 75;refine (vS v m _ O (by refine World.grownBy.cell (w:=w) (row:=none) ?_ j Z;repeat (first | exact ae _ _ | refine ag ?_ _ | refine ak ?_ _))).mono ?_;intro e y h;obtain ⟨z,rfl,f1,i⟩:=h;have n:=ab f1;have o:=ab i;clear f1 i) | (go_at_call 63;refine (oZ _ _ _ _ _ _ n).mono ?_;rintro e A ⟨rfl,s2⟩;have g:=ab (aa o s2);have q1:=g.out.cell (a:=⟨w.heap.size,3,none⟩) (v:=.int .i64 0) zG Z;have q2:=g.out.cell (a:=⟨w.heap.size,4,none⟩) (v:=.int .i64 d) zG Z;have q3:=g.out.cell (a:=⟨w.heap.size+1+1,4,none⟩) (v:=.bool false) zG Z;have q4:=g.out.cell (a:=⟨w.heap.size+1+1,2,none⟩) (v:=.bool true) zG Z;rw [show lQ (ij v.data.toList).1 (ij v.data.toList).2.1=sv from l.out.symm];clear s2))
    go_ret;exact ⟨rfl,aa (ag (ag (ag (ae _ _) _) _) _) g⟩
  ·rw [if_neg (fun e=>hc e.1)];have L:=mf hc;go_enter Tryz.func43,Tryz.ntmps43
   go_wp2_with (first | (go_at_call_of 74 (Value.int .i64 a);refine (aD a f _ _ zG).mono ?_;rintro e w1 ⟨rfl,rfl⟩;rw [t]) | (go_at_call_of 74 (Value.int .i64 b);refine (aD b f _ _ zG).mono ?_;rintro e w1 ⟨rfl,rfl⟩;rw [x]) | (go_at_call 75;refine (vS v m _ O (by refine World.grownBy.cell (w:=w) (row:=none) ?_ j Z;repeat (first | exact ae _ _ | refine ag ?_ _ | refine ak ?_ _))).mono ?_;intro e y h;obtain ⟨z,rfl,f1,i⟩:=h;have n:=ab f1;have o:=ab i;clear f1 i) | (go_at_call 63;refine (oZ _ _ _ _ _ _ n).mono ?_;rintro e A ⟨rfl,s2⟩;have g:=ab (aa o s2);have q1:=g.out.cell (a:=⟨w.heap.size,3,none⟩) (v:=.int .i64 c) zG Z;have q2:=g.out.cell (a:=⟨w.heap.size,4,none⟩) (v:=.int .i64 d) zG Z;have q3:=g.out.cell (a:=⟨w.heap.size+1+1,4,none⟩) (v:=.bool false) zG Z;have q4:=g.out.cell (a:=⟨w.heap.size+1+1,2,none⟩) (v:=.bool true) zG Z;rw [show lQ (ij v.data.toList).1 (ij v.data.toList).2.1=sv from l.out.symm];clear s2))
   go_ret;exact ⟨rfl,aa (ag (ag (ag (ae _ _) _) _) _) g⟩
def dI (p:aA) (nodes:Int):Int:=if p.kind<1∨9<=p.kind then 3 else kT p.kind.toNat p.a p.b p.c p.d p.v nodes
def kn (w:World):Prop:=fV w/\(∃ m:Int,w.cell? ⟨2,0,none⟩=some (.int .i64 m))/\2<w.heap.size
def kn.keep {a:World} (h:kn w) (hg:w.grownBy a none):kn a:=by
 obtain ⟨b,⟨m,c⟩,d⟩:=h;exact ⟨b.keep hg,⟨m,hg.cell c Z⟩,Nat.lt_of_lt_of_le d hg.size⟩
def za (z:Int) (a b c d:Int) (v:ByteArray) (f:Int) (w:World) (h:z<1∨9<=z) :
  Calls Tryz.prog 43 #[.agg #[.int .i64 z,.int .i64 a,.int .i64 b,.int .i64 c,.int .i64 d,.string v],.int .i64 f] w fun e g=>e=.returned (.int .i64 3)/\w.grownBy g none:=by
 by_cases i:z<1
 ·clear h;go_enter Tryz.func43,Tryz.ntmps43
  go_wp2;go_ret;exact ⟨rfl,ag (ag (ae _ _) _) _⟩
 ·have j:9<=z:=O
  clear h;go_enter Tryz.func43,Tryz.ntmps43
  go_wp2;go_ret;exact ⟨rfl,ag (ag (ae _ _) _) _⟩
def jh {P:Program} {f:Nat} {args:Array Value} {x y:Int} {R:World->Prop} (h:Calls P f args w fun e a=>e=.returned (.int .i64 x)/\R a) (e:x=y):Calls P f args w fun e a=>e=.returned (.int .i64 y)/\R a:=by
 rw [<- e];exact h
def Gl (p:aA) (f:Int) (w:World) (hb:kn w) (D:p.v.size<=600000000) :
  Calls Tryz.prog 43 #[p.val,.int .i64 f] w fun e G=>e=.returned (.int .i64 (dI p f))/\w.grownBy G none:=by
 obtain ⟨kind,a,b,c,d,v⟩:=p;unfold aA.val dI;by_cases h:kind<1∨9<=kind
 ·simp only;rw [if_pos h];exact za kind a b c d v f w h
 ·simp only;rw [if_neg h];obtain ⟨k,rfl⟩:∃ k:Nat,kind=k:=⟨kind.toNat,O⟩;rw [Int.toNat_natCast];have q:1<=k:=O
  have r:k<9:=O
  obtain ⟨s,⟨m,z⟩,A⟩:=hb;by_cases hn:(!(ft a f) || !(ft b f) || (lK k && !(ft c f && ft d f)))=true
  ·refine jh (xr k a b c d v f w q r s hn) ?_;unfold kT;rw [if_pos hn]
  ·have j:ft a f=true:=by
    cases h:ft a f with
    | true=>rfl
    | false=>rw [h] at hn;simp at hn
   have l:ft b f=true:=by
    cases h:ft b f with
    | true=>rfl
    | false=>rw [h] at hn;simp at hn
   have o:(c != 0 || d != 0) = !(decide (c=0/\d=0)):=by
    by_cases hc:c=0<;>by_cases hd:d=0<;>simp [hc,hd]
   have t:k=1∨k=2∨k=3∨k=4∨k=5∨k=6∨k=7∨k=8:=O
   by_cases g:lK k=true
   ·rw [j,l,g] at hn;have B:ft c f=true:=by
     cases h:ft c f with
     | true=>rfl
     | false=>rw [h] at hn;simp at hn
    have C:ft d f=true:=by
     cases h:ft d f with
     | true=>rfl
     | false=>rw [h] at hn;simp at hn
    have i:eK k=true:=by rcases t with rfl | rfl | rfl | rfl | rfl | rfl | rfl | rfl<;>first | rfl | (simp [lK] at g)
    have ha:fP k=false:=by rcases t with rfl | rfl | rfl | rfl | rfl | rfl | rfl | rfl<;>first | rfl | (simp [lK] at g)
    refine jh (CA k a b c d v f w q r s j l B C g i ha) ?_;unfold kT;simp [j,l,B,C,g,i,ha]
   ·have g:lK k=false:=by simpa using g
    by_cases i:eK k=true
    ·by_cases ha:fP k=true
     ·refine jh (xp k a b c d v f w q r s j l m z A D g i ha) ?_;unfold kT;simp only [j,l,g,i,ha,o];by_cases E:kM v<=0<;>by_cases n:c=0/\d=0<;>simp [E,n]
     ·have ha:fP k=false:=by simpa using ha
      refine jh (xt k a b c d v f w q r s j l g i ha) ?_;unfold kT;simp only [j,l,g,i,ha,o];by_cases n:c=0/\d=0<;>simp [n]
    ·have i:eK k=false:=by simpa using i
     have ha:fP k=false:=by rcases t with rfl | rfl | rfl | rfl | rfl | rfl | rfl | rfl<;>first | rfl | (simp [eK] at i)
     refine jh (xq k a b c d v f w q r s j l g i ha) ?_;unfold kT;simp only [j,l,g,i,ha,o];by_cases n:c=0/\d=0
     ·by_cases u:v.data.toList=[]
      ·simp [n,u]
      ·have F:v.data.toList.isEmpty=false:=by
        cases hq:v.data.toList with
        | nil=>exact absurd hq u
        | cons x y=>rfl
       simp [n,u,F]
     ·rw [if_neg (fun e=>n ⟨e.1,e.2.1⟩)];simp [n]
def told_at (p:aA) (f:Int) (g:Nat) (w:World) (hb:kn w) (k:p.v.size<=600000000) (hg:g<w.heap.size) (hc:w.cell? ⟨g,0,none⟩=some (.int .i64 f)) :
  Calls Tryz.prog 42 #[p.val,.pointer (some ⟨g,0,none⟩)] w fun e n=>e=.returned (.int .i64 (dI p f))/\w.grownBy n none:=by
 have l:=ab (hb.keep (World.grownBy_alloc w (Obj.cells #[.int .i64 p.kind,.int .i64 p.a,.int .i64 p.b,.int .i64 p.c,.int .i64 p.d,.string p.v] 55) none));have i:=Gl p f _ l k;have h:=ab i;unfold aA.val at h;clear hb i;unfold aA.val;generalize dI p f=r at h ⊢;go_enter Tryz.func42,Tryz.ntmps42
 go_wp2_with fail;refine h.mono ?_;rintro e w1 ⟨rfl,j⟩;have m:=ab j;clear j;go_wp2;go_ret;exact ⟨rfl,aa (ag (ae _ _) _) m⟩
def cK (nodes:Int):List aA->Nat->Int×Int
 | [],_=>(0,0)
 | p :: r,i=>if dI p nodes=0 then cK nodes r (i+1) else (dI p nodes,(i:Int))
def fs (nodes:Int) (ps:List aA):Int×Int:=if nodes<1∨8<nodes∨16<ps.length then (2,0) else cK nodes ps 0
def pB (w:World) (nodes:Int) (ps:List aA) (e:Ending) (w':World):Prop:=e=.returned (.agg #[.int .i64 (fs nodes ps).1,.int .i64 (fs nodes ps).2])/\w.grownBy w' none
def xI (a:Int) (o:Option Addr) (l cap:Nat) (f:Value) (w:World) (h:a<1∨8<a∨16<l) :
  Calls Tryz.prog 41 #[.agg #[.int .i64 a,.slice o l cap],f] w fun e i=>e=.returned (.agg #[.int .i64 2,.int .i64 0])/\w.grownBy i none:=by
 by_cases b:a<1
 ·clear h;go_enter Tryz.func41,Tryz.ntmps41
  go_wp2;exact bodyPost_ret (v:=.agg #[.int .i64 2,.int .i64 0]) (by simp [results,Tryz.results41,go_sem]) rfl ⟨rfl,ag (ag (ae _ _) _) _⟩
 ·by_cases c:8<a
  ·clear h;go_enter Tryz.func41,Tryz.ntmps41
   go_wp2;exact bodyPost_ret (v:=.agg #[.int .i64 2,.int .i64 0]) (by simp [results,Tryz.results41,go_sem]) rfl ⟨rfl,ag (ag (ae _ _) _) _⟩
  ·have j:16<l:=O
   have d:decide (a<1)=false:=by simpa using b
   have g:decide (8<a)=false:=by simpa using c
   clear h;go_enter Tryz.func41,Tryz.ntmps41
   go_wp2;exact bodyPost_ret (v:=.agg #[.int .i64 2,.int .i64 0]) (by simp [results,Tryz.results41,go_sem]) rfl ⟨rfl,ag (ag (ae _ _) _) _⟩
def mQ {W:World} {t:TypeId} {u v:Value} (h:(w.alloc (Obj.cells #[u,v] t)).grownBy W none) :
  W.cell? ⟨w.heap.size,0,none⟩=some u/\W.cell? ⟨w.heap.size,1,none⟩=some v/\(∀ i,W.frozen? ⟨w.heap.size,i,none⟩=false):=by
 have e:W.heap[w.heap.size]? = some (Obj.cells #[u,v] t (0,0)):=by
  rw [h.block w.heap.size Z Z];exact heap_alloc_new w _
 refine ⟨?_,?_,fun i=>?_⟩<;>simp [World.cell?,World.frozen?,e]
def NChkR (W:World) (nodes:Int) (ps:List aA) (C:Int×Int) (iv:Value) (wr:World):Prop:=∃ i:Nat,i<=ps.length/\iv=.int .i64 i/\cK nodes (ps.drop i) i=C/\W.grownBy wr none
def Dc (a:Int) (pv:Value) (c:List aA) (g:Nat) (w:World) (hb:kn w) (S:aB w pv c) (hg:g<w.heap.size) (hc:w.cell? ⟨g,0,none⟩=some (.int .i64 a)) :
  Calls Tryz.prog 41 #[.agg #[.int .i64 a,pv],.func (.func 42) #[] #[.pointer (some ⟨g,0,none⟩)]] w fun e w'=>pB w a c e w':=by
 obtain ⟨M,cap,rfl,h1,h2,N⟩:=S;unfold maxLen at h2;by_cases o:a<1∨8<a∨16<c.length
 ·refine (xI a M c.length cap _ w o).mono ?_;rintro e w' ⟨rfl,hw⟩;refine ⟨?_,hw⟩;unfold fs;rw [if_pos o]
 ·have T:decide (a<1)=false:=by simp;omega
  have U:decide (8<a)=false:=by simp;omega
  have V:decide ((16:Int)<(c.length:Int))=false:=by simp;omega
  have J:c.length<=16:=O
  have t:=ab N;have u:=ab hb;have x:=ab hc;obtain ⟨C,G⟩:∃ C,cK a c 0=C:=⟨_,rfl⟩;have l:Hid (fs a c=C):=by
   show _=_
   unfold fs;rw [if_neg o,G]
  have y:=ab G;clear N hb hc o G;go_enter Tryz.func41,Tryz.ntmps41
  go_wp2;obtain ⟨W,q⟩:=eX ((w.alloc (Obj.cells #[.int .i64 a,.slice M c.length cap] 24)).alloc (Obj.cells #[.int .i64 0,.int .i64 0] 29));have z:Hid (w.grownBy W none):=by rw [q];exact ag (ag (ae _ _) _) _
  have K:Hid (∀ wr:World,W.grownBy wr none->wr.cell? ⟨w.heap.size+1,0,none⟩=some (.int .i64 0)/\wr.cell? ⟨w.heap.size+1,1,none⟩=some (.int .i64 0)/\(∀ i,wr.frozen? ⟨w.heap.size+1,i,none⟩=false)):=by
   intro wr hg;rw [q] at hg;have:=mQ hg;simpa using this
  simp only [<- q];clear q;go_loopw [26] (fun iv wr=>Hid (NChkR W a c C iv wr)) (fun iv _=>c.length-(intOf iv).toNat)
  case atStart=>exact ⟨0,O,rfl,y,ae _ _⟩
  case round =>
   obtain ⟨i,hi,rfl,P,k⟩:=hrel.out;obtain ⟨r0,r1,H⟩:=K.out wr k;have X:=H 0;have Y:=H 1;have A:=ab P;have f:=ab k;clear P k H hrel;by_cases hlt:i<c.length
   ·obtain ⟨b,off,rfl,hb,c0,c1,c2,c3,c4,c5,Q⟩:=t.out i hlt;have d:=(aa z f);have q0:=d.cell c0 Z;have q1:=d.cell c1 Z;have q2:=d.cell c2 Z;have q3:=d.cell c3 Z;have q4:=d.cell c4 Z;have q5:=d.cell c5 Z;have hd:c.drop i=c[i] :: c.drop (i+1):=List.drop_eq_getElem_cons hlt;have B:=ab hd;have h:=ab d;generalize c[i]=p at q0 q1 q2 q3 q4 q5 Q B;clear c0 c1 c2 c3 c4 c5 hd d;go_wp2_with fail;refine (told_at p a g _ (u.keep (ag h _)) Q (by have:=h.out.size;simp;omega) ((ag h _).cell x Z)).mono ?_;rintro e w1 ⟨rfl,R⟩;have D:=ab (aa (ag f _) R);obtain ⟨t0,t1,I⟩:=K.out w1 D;have he:=I 0;have hj:=I 1;clear I R t;by_cases j:dI p a=0
    ·rw [j];have E:=ab j;clear j;go_wp2;go_roundw
     case rel =>
      refine ⟨i+1,O,zN,?_,D⟩;have:=A.out;rw [B,cK,if_pos E.out] at this;exact this
     case measure=>exact bH
    ·obtain ⟨r,s⟩:=eX (dI p a);rw [<- s];rw [<- s] at j;have hk:=mf j;have L:=ab s;have E:=ab j;clear j s;go_wp2;refine bodyPost_ret (v:=.agg #[.int .i64 r,.int .i64 (i:Nat)]) (by simp [results,Tryz.results41,go_sem,t0,t1]) rfl ?_;have m:=A.out;rw [B,cK,if_neg (by rw [<- L];exact E),<- L] at m;refine ⟨?_,?_⟩
     ·rw [l,<- m]
     ·exact ah (ah (aa z D) _ _ Z) _ _ Z
   ·have n:c.drop i=[]:=List.drop_of_length_le O;have F:=ab n;clear n t;go_wp2;refine bodyPost_ret (v:=.agg #[.int .i64 0,.int .i64 0]) (by simp [results,Tryz.results41,go_sem,r0,r1]) rfl ?_;have m:=A.out;rw [F,cK] at m;refine ⟨?_,?_⟩
    ·rw [l,<- m]
    ·exact ah (ah (aa z f) _ _ Z) _ _ Z
def CI (a:Int) (pv:Value) (b:List aA) (w:World) (hb:kn w) (j:aB w pv b) :
  Calls Tryz.prog 25 #[.agg #[.int .i64 a,pv]] w fun e A=>pB w a b e A:=by
 have l:=ab hb;have m:=ab j;obtain ⟨s,cap,rfl,B,t,u⟩:=j;clear u hb t;go_enter Tryz.func25,Tryz.ntmps25
 go_wp2_with fail;have k:w.grownBy ((w.alloc (Obj.cells #[.int .i64 a,.slice s b.length cap] 24)).alloc (Obj.cells #[.int .i64 0,.int .i64 0] 29)) none:=ag (ag (ae _ _) _) _;have c:=ab k;clear k;refine (Dc a _ b w.heap.size _ (l.keep c) (m.keep c) (by simp;omega) zG).mono ?_;intro e w1 r;obtain ⟨rfl,f⟩:=r;have n:=ab f;have d:w1.cell? ⟨w.heap.size+1,0,none⟩=some (.int .i64 0)/\w1.cell? ⟨w.heap.size+1,1,none⟩=some (.int .i64 0)/\(∀ i,w1.frozen? ⟨w.heap.size+1,i,none⟩=false):=by
  have:=mQ f;simpa using this
 obtain ⟨x,r1,g⟩:=d;have o:=g 0;have p:=g 1;obtain ⟨C,h⟩:=eX (fs a b);rw [<- h];obtain ⟨y,z⟩:=C;have q:=ab h;clear g f h;go_wp2;refine bodyPost_ret (v:=.agg #[.int .i64 y,.int .i64 z]) (by simp [results,Tryz.results25,go_sem,x,r1]) rfl ?_;refine ⟨?_,?_⟩
 ·rw [<- q]
 ·exact ah (ah (aa c n) _ _ Z) _ _ Z
def gS (p:aA):List Value:=[.int .i64 p.kind,.int .i64 p.a,.int .i64 p.b,.int .i64 p.c,.int .i64 p.d,.string p.v]
def bG (ps:List aA):List Value:=ps.flatMap gS
def fW (p:aA):(gS p).length=6:=rfl
def ku (a:List aA):(bG a).length=a.length*6:=by
 induction a with
 | nil=>rfl
 | cons p r ih=>simp only [bG,List.flatMap_cons,List.length_append,fW] at ih ⊢;rw [ih,List.length_cons];omega
def pP (a qs:List aA):bG (a++qs)=bG a++bG qs:=by simp [bG]
def nR (a:List aA) (i k:Nat) (h:i<a.length) (b:k<6):(bG a)[i*6+k]? = (gS a[i])[k]?:=by
 induction a generalizing i with
 | nil=>simp at h
 | cons p r ih =>
  show (gS p++bG r)[i*6+k]? = _
  cases i with
  | zero=>rw [List.getElem?_append_left (by rw [fW];omega)];simp
  | succ i =>
   rw [List.getElem?_append_right (by rw [fW];omega),fW,show (i+1)*6+k-6=i*6+k from O,ih i (by simpa using h)];simp
def nS (b:List aA):∀ u∈bG b,u.oneCell'=true:=by
 intro u a;simp only [bG,List.mem_flatMap,gS] at a;obtain ⟨p,_,a⟩:=a;simp only [List.mem_cons,List.not_mem_nil,or_false] at a;rcases a with rfl | rfl | rfl | rfl | rfl | rfl<;>rfl
def kI {g n cap:Nat} {a:List aA} (hb:g<w.heap.size) (hn:a.length=n) (hc:n<=cap) (b:cap<=maxLen) (c:∀ i (h:i<a.length),a[i].v.size<=600000000)
  (h:∀ j,j<n*6->w.cell? ⟨g,j,none⟩=(bG a)[j]?):aB w (.slice (some ⟨g,0,none⟩) n cap) a:=by
 subst hn;refine ⟨_,cap,rfl,hc,b,fun i hi=>⟨g,0,rfl,hb,?_⟩⟩;have e:∀ k,k<6->w.cell? ⟨g,0+i*6+k,none⟩=(gS a[i])[k]?:=fun k d=>by
  rw [Nat.zero_add,h (i*6+k) O,nR a i k hi d]
 exact ⟨by have:=e 0 O;exact this,by have:=e 1 O;exact this,by have:=e 2 O;exact this,by have:=e 3 O;exact this,by have:=e 4 O;exact this,by have:=e 5 O;exact this,c i hi⟩
def aB.cells {f:List aA} {a:Addr} {n cap:Nat} (h:aB w (.slice (some a) n cap) f):∀ j u,(bG f)[j]? = some u->w.cell? (a.add j)=some u:=by
 intro j u d;obtain ⟨p,c,e,q,r,m⟩:=h;have o:j<f.length*6:=by
  rw [<- ku];exact (zY d).1
 have hi:j / 6<f.length:=O
 simp only [Value.slice.injEq] at e;obtain ⟨rfl,rfl,rfl⟩:=e;obtain ⟨b,off,e,hb,c0,c1,c2,c3,c4,c5,s⟩:=m (j / 6) hi;simp only [zI] at e;subst e;have g:(⟨b,off,none⟩:Addr).add j=⟨b,off+j,none⟩:=by unfold Addr.add;split<;>simp_all
 have i:j=j / 6*6+j % 6:=O
 rw [i,nR f (j / 6) (j % 6) hi O] at d;rw [g,i,<- Nat.add_assoc];have l:j % 6<6:=O
 generalize j % 6=k at d l;match k,l with
 | 0,_=>simp only [gS,List.getElem?_cons_zero,zI] at d;subst d;exact c0
 | 1,_=>simp only [gS,List.getElem?_cons_succ,List.getElem?_cons_zero,zI] at d;subst d;exact c1
 | 2,_=>simp only [gS,List.getElem?_cons_succ,List.getElem?_cons_zero,zI] at d;subst d;exact c2
 | 3,_=>simp only [gS,List.getElem?_cons_succ,List.getElem?_cons_zero,zI] at d;subst d;exact c3
 | 4,_=>simp only [gS,List.getElem?_cons_succ,List.getElem?_cons_zero,zI] at d;subst d;exact c4
 | 5,_=>simp only [gS,List.getElem?_cons_succ,List.getElem?_cons_zero,zI] at d;subst d;exact c5
end Go.Proofs.YtbomdfhdocaagaaGreatDoor
