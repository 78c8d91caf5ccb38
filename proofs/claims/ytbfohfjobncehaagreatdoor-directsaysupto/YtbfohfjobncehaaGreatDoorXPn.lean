/- Contracts. -/
import Derived.Test.YtbfohfjobncehaaGreatDoorXPc
import Derived.Test.YtbfohfjobncehaaGreatDoorXPm
namespace Go.Proofs.YtbfohfjobncehaaGreatDoor
open Go.RowKit
set_option linter.all false
set_option maxHeartbeats 8000000
set_option maxRecDepth 10000
variable {w:World}
def nf (neg:Bool) (n:Nat):Int:=if neg then -1 else if n=0 then 0 else 1
theorem pt (v:Value) (neg:Bool) (n d L:Nat) (w:World) (h:FV w v neg n d L) :
  Calls Tryz.prog 128 #[v] w fun e p=>e=.returned (.int .i64 (nf neg n))/\w.grownBy p none:=by
 obtain ⟨up,a,rfl,f,b,j,k⟩:=h;obtain ⟨q,g,r,rfl,u1,_,_⟩:=f.shape;obtain ⟨m,s,t,rfl⟩:∃ o l c,a=.slice o l c:=by
  rcases b with ⟨rfl,_⟩ | ⟨b,_⟩
  ·exact ⟨_,_,_,rfl⟩
  ·obtain ⟨o,l,c,rfl,_⟩:=b.shape;exact ⟨_,_,_,rfl⟩
 have i:=aa u1;clear u1 f b j k;cases neg with
 | true =>
  go_enter Tryz.func128,Tryz.ntmps128
  go_wp2;go_ret;exact ⟨rfl,ae (ag _ _) _⟩
 | false =>
  go_enter Tryz.func128,Tryz.ntmps128
  go_wp2_with fail;refine (uY _ _).mono ?_;rintro e w1 ⟨rfl,rfl⟩;go_wp2;go_ret;refine ⟨?_,ae (ag _ _) _⟩;have:oI (g:Int)=nf false n:=by
   unfold oI nf;have:=i.out;by_cases h:g=0
   ·rw [if_neg O,if_neg O,if_neg Z,if_pos (this.1 h)]
   ·rw [if_neg O,if_pos O,if_neg Z,if_neg (fun e=>h (this.2 e))]
  rw [<- this];rfl
def eP (k:Nat):Bool:=k != 8
def fz (k:Nat):Bool:=k==1 || k==2 || k==3
def jJ (k:Nat):Bool:=k==6 || k==7
def fS (w:World):Prop:=1<w.heap.size/\∀ k:Nat,1<=k->k<=8->∃ s u:ByteArray,w.cell? ⟨1,k*5,none⟩=some (.string s)/\w.cell? ⟨1,k*5+1,none⟩=some (.string u) /\
 w.cell? ⟨1,k*5+2,none⟩=some (.bool (eP k))/\w.cell? ⟨1,k*5+3,none⟩=some (.bool (fz k))/\w.cell? ⟨1,k*5+4,none⟩=some (.bool (jJ k))
theorem fS.keep {f:World} (h:fS w) (hg:w.grownBy f none):fS f:=by
 refine ⟨Nat.lt_of_lt_of_le h.1 hg.size,fun k g i=>?_⟩;obtain ⟨s,u,a,b,c,d,e⟩:=h.2 k g i;exact ⟨s,u,hg.cell a Z,hg.cell b Z,hg.cell c Z,hg.cell d Z,hg.cell e Z⟩
def ft (x nodes:Int):Bool:=decide (0<=x) && decide (x<nodes)
theorem aB (x a:Int) (g:Nat) (w:World) (hc:w.cell? ⟨g,0,none⟩=some (.int .i64 a)) :
  Calls Tryz.prog 126 #[.int .i64 x,.pointer (some ⟨g,0,none⟩)] w fun e b=>e=.returned (.bool (ft x a))/\b=w:=by
 by_cases h:0<=x
 ·go_enter Tryz.func126,Tryz.ntmps126
  go_wp2;go_ret;refine ⟨?_,rfl⟩;unfold ft;simp [h]
 ·go_enter Tryz.func126,Tryz.ntmps126
  go_wp2;go_ret;refine ⟨?_,rfl⟩;unfold ft;rw [show decide (0<=x)=false from by simpa using h];rfl
def lW (v:ByteArray):Int:=nf (hJ v.data.toList).1 (hJ v.data.toList).2.1
def kZ (k:Nat) (a b c d:Int) (v:ByteArray) (nodes:Int):Int :=
 if !(ft a nodes) || !(ft b nodes) || (jJ k && !(ft c nodes && ft d nodes)) then 4
 else if fz k && decide (lW v<=0) then 5
 else if (!jJ k && (c != 0 || d != 0)) || (!eP k && !v.data.toList.isEmpty) then 6 else 0
theorem xr (k:Nat) (a b c d:Int) (v:ByteArray) (f:Int) (w:World) (j:1<=k) (t:k<9) (l:fS w) (hn:(!(ft a f) || !(ft b f) || (jJ k && !(ft c f && ft d f)))=true) :
  Calls Tryz.prog 81 #[.agg #[.int .i64 (k:Nat),.int .i64 a,.int .i64 b,.int .i64 c,.int .i64 d,.string v],.int .i64 f] w fun e r=>e=.returned (.int .i64 4)/\w.grownBy r none:=by
 obtain ⟨q,i⟩:=l;obtain ⟨s,u,c0,c1,c2,c3,c4⟩:=i k j O;have h:w.grownBy ((w.alloc (Obj.cells #[.int .i64 (k:Nat),.int .i64 a,.int .i64 b,.int .i64 c,.int .i64 d,.string v] 60)).alloc (Obj.cells #[.int .i64 f] 3)) none:=ae (ae (ag _ _) _) _;have k0:=h.cell c0 Z;have k1:=h.cell c1 Z;have m:=h.cell c2 Z;have n:=h.cell c3 Z;have o:=h.cell c4 Z;clear h;generalize eP k=valued at c2 m;generalize fz k=above at c3 n;generalize jJ k=led at c4 o hn;clear i;cases hA:ft a f with
 | false =>
  clear hn;go_enter Tryz.func81,Tryz.ntmps81
  go_wp2_with (go_at_call_of 126 (Value.int .i64 a);refine (aB a f _ _ zG).mono ?_;rintro e w1 ⟨rfl,rfl⟩;rw [hA])
  go_ret;exact ⟨rfl,ae (ae (ae (ag _ _) _) _) _⟩
 | true =>
  cases hB:ft b f with
  | false =>
   clear hn;go_enter Tryz.func81,Tryz.ntmps81
   go_wp2_with (first | (go_at_call_of 126 (Value.int .i64 a);refine (aB a f _ _ zG).mono ?_;rintro e w1 ⟨rfl,rfl⟩;rw [hA]) | (go_at_call_of 126 (Value.int .i64 b);refine (aB b f _ _ zG).mono ?_;rintro e w1 ⟨rfl,rfl⟩;rw [hB]))
   go_ret;exact ⟨rfl,ae (ae (ae (ag _ _) _) _) _⟩
  | true =>
   rw [hA,hB] at hn;simp only [Bool.not_true,Bool.false_or,Bool.and_eq_true] at hn;obtain ⟨rfl,g⟩:=hn;cases hC:ft c f with
   | false =>
    clear g;go_enter Tryz.func81,Tryz.ntmps81
    go_wp2_with (first | (go_at_call_of 126 (Value.int .i64 a);refine (aB a f _ _ zG).mono ?_;rintro e w1 ⟨rfl,rfl⟩;rw [hA]) | (go_at_call_of 126 (Value.int .i64 b);refine (aB b f _ _ zG).mono ?_;rintro e w1 ⟨rfl,rfl⟩;rw [hB]) | (go_at_call_of 126 (Value.int .i64 c);refine (aB c f _ _ zG).mono ?_;rintro e w1 ⟨rfl,rfl⟩;rw [hC]))
    go_ret;exact ⟨rfl,ae (ae (ae (ag _ _) _) _) _⟩
   | true =>
    rw [hC] at g;have p:ft d f=false:=by simpa using g
    clear g;go_enter Tryz.func81,Tryz.ntmps81
    go_wp2_with (first | (go_at_call_of 126 (Value.int .i64 a);refine (aB a f _ _ zG).mono ?_;rintro e w1 ⟨rfl,rfl⟩;rw [hA]) | (go_at_call_of 126 (Value.int .i64 b);refine (aB b f _ _ zG).mono ?_;rintro e w1 ⟨rfl,rfl⟩;rw [hB]) | (go_at_call_of 126 (Value.int .i64 c);refine (aB c f _ _ zG).mono ?_;rintro e w1 ⟨rfl,rfl⟩;rw [hC]) | (go_at_call_of 126 (Value.int .i64 d);refine (aB d f _ _ zG).mono ?_;rintro e w1 ⟨rfl,rfl⟩;rw [p]))
    go_ret;exact ⟨rfl,ae (ae (ae (ag _ _) _) _) _⟩
theorem mu {c:Int} (h:c≠0):(c != 0)=true:=by simpa using h
theorem Ch (k:Nat) (a b c d:Int) (v:ByteArray) (f:Int) (w:World) (l:1<=k) (A:k<9) (m:fS w) (n:ft a f=true) (o:ft b f=true) (p:ft c f=true) (q:ft d f=true) (i:jJ k=true) (j:eP k=true) (ha:fz k=false) :
  Calls Tryz.prog 81 #[.agg #[.int .i64 (k:Nat),.int .i64 a,.int .i64 b,.int .i64 c,.int .i64 d,.string v],.int .i64 f] w fun e z=>e=.returned (.int .i64 (0))/\w.grownBy z none:=by
 obtain ⟨y,h⟩:=m;obtain ⟨s,u,c0,c1,c2,c3,c4⟩:=h k l O;have g:w.grownBy ((w.alloc (Obj.cells #[.int .i64 (k:Nat),.int .i64 a,.int .i64 b,.int .i64 c,.int .i64 d,.string v] 60)).alloc (Obj.cells #[.int .i64 f] 3)) none:=ae (ae (ag _ _) _) _;have k0:=g.cell c0 Z;have k1:=g.cell c1 Z;have r:=g.cell c2 Z;have t:=g.cell c3 Z;have x:=g.cell c4 Z;clear g;clear h;rw [i] at c4 x;rw [j] at c2 r;rw [ha] at c3 t;clear i j ha;go_enter Tryz.func81,Tryz.ntmps81
 go_wp2_with (first | (go_at_call_of 126 (Value.int .i64 a);refine (aB a f _ _ zG).mono ?_;rintro e w1 ⟨rfl,rfl⟩;rw [n]) | (go_at_call_of 126 (Value.int .i64 b);refine (aB b f _ _ zG).mono ?_;rintro e w1 ⟨rfl,rfl⟩;rw [o]) | (go_at_call_of 126 (Value.int .i64 c);refine (aB c f _ _ zG).mono ?_;rintro e w1 ⟨rfl,rfl⟩;rw [p]) | (go_at_call_of 126 (Value.int .i64 d);refine (aB d f _ _ zG).mono ?_;rintro e w1 ⟨rfl,rfl⟩;rw [q]))
 go_ret;exact ⟨rfl,ae (ae (ae (ag _ _) _) _) _⟩
theorem xt (k:Nat) (a b c d:Int) (v:ByteArray) (f:Int) (w:World) (n:1<=k) (A:k<9) (o:fS w) (i:ft a f=true) (j:ft b f=true) (l:jJ k=false) (m:eP k=true) (ha:fz k=false) :
  Calls Tryz.prog 81 #[.agg #[.int .i64 (k:Nat),.int .i64 a,.int .i64 b,.int .i64 c,.int .i64 d,.string v],.int .i64 f] w fun e z=>e=.returned (.int .i64 (if c=0/\d=0 then 0 else 6))/\w.grownBy z none:=by
 obtain ⟨y,h⟩:=o;obtain ⟨s,u,c0,c1,c2,c3,c4⟩:=h k n O;have g:w.grownBy ((w.alloc (Obj.cells #[.int .i64 (k:Nat),.int .i64 a,.int .i64 b,.int .i64 c,.int .i64 d,.string v] 60)).alloc (Obj.cells #[.int .i64 f] 3)) none:=ae (ae (ag _ _) _) _;have k0:=g.cell c0 Z;have k1:=g.cell c1 Z;have p:=g.cell c2 Z;have q:=g.cell c3 Z;have r:=g.cell c4 Z;clear g;clear h;rw [l] at c4 r;rw [m] at c2 p;rw [ha] at c3 q;clear l m ha;by_cases hc:c=0
 ·by_cases hd:d=0
  ·rw [if_pos ⟨hc,hd⟩];subst hc hd;go_enter Tryz.func81,Tryz.ntmps81
   go_wp2_with (first | (go_at_call_of 126 (Value.int .i64 a);refine (aB a f _ _ zG).mono ?_;rintro e w1 ⟨rfl,rfl⟩;rw [i]) | (go_at_call_of 126 (Value.int .i64 b);refine (aB b f _ _ zG).mono ?_;rintro e w1 ⟨rfl,rfl⟩;rw [j]))
   go_ret;exact ⟨rfl,ae (ae (ae (ag _ _) _) _) _⟩
  ·rw [if_neg (fun e=>hd e.2)];have t:=mu hd;subst hc;go_enter Tryz.func81,Tryz.ntmps81
   go_wp2_with (first | (go_at_call_of 126 (Value.int .i64 a);refine (aB a f _ _ zG).mono ?_;rintro e w1 ⟨rfl,rfl⟩;rw [i]) | (go_at_call_of 126 (Value.int .i64 b);refine (aB b f _ _ zG).mono ?_;rintro e w1 ⟨rfl,rfl⟩;rw [j]))
   go_ret;exact ⟨rfl,ae (ae (ae (ag _ _) _) _) _⟩
 ·rw [if_neg (fun e=>hc e.1)];have x:=mu hc;go_enter Tryz.func81,Tryz.ntmps81
  go_wp2_with (first | (go_at_call_of 126 (Value.int .i64 a);refine (aB a f _ _ zG).mono ?_;rintro e w1 ⟨rfl,rfl⟩;rw [i]) | (go_at_call_of 126 (Value.int .i64 b);refine (aB b f _ _ zG).mono ?_;rintro e w1 ⟨rfl,rfl⟩;rw [j]))
  go_ret;exact ⟨rfl,ae (ae (ae (ag _ _) _) _) _⟩
theorem xq (k:Nat) (a b c d:Int) (v:ByteArray) (f:Int) (w:World) (p:1<=k) (E:k<9) (q:fS w) (j:ft a f=true) (l:ft b f=true) (m:jJ k=false) (o:eP k=false) (ha:fz k=false) :
  Calls Tryz.prog 81 #[.agg #[.int .i64 (k:Nat),.int .i64 a,.int .i64 b,.int .i64 c,.int .i64 d,.string v],.int .i64 f] w fun e D=>e=.returned (.int .i64 (if c=0/\d=0/\v.data.toList=[] then 0 else 6))/\w.grownBy D none:=by
 obtain ⟨C,i⟩:=q;obtain ⟨s,u,c0,c1,c2,c3,c4⟩:=i k p O;have g:w.grownBy ((w.alloc (Obj.cells #[.int .i64 (k:Nat),.int .i64 a,.int .i64 b,.int .i64 c,.int .i64 d,.string v] 60)).alloc (Obj.cells #[.int .i64 f] 3)) none:=ae (ae (ag _ _) _) _;have k0:=g.cell c0 Z;have k1:=g.cell c1 Z;have r:=g.cell c2 Z;have t:=g.cell c3 Z;have z:=g.cell c4 Z;clear g;clear i;rw [m] at c4 z;rw [o] at c2 r;rw [ha] at c3 t;clear m o ha;by_cases hc:c=0
 ·by_cases hd:d=0
  ·by_cases h:v.data.toList=[]
   ·rw [if_pos ⟨hc,hd,h⟩];subst hc hd;have n:v.toList=[]:=by rw [ByteArray.toList_eq];exact h
    clear h;go_enter Tryz.func81,Tryz.ntmps81
    go_wp2_with (first | (go_at_call_of 126 (Value.int .i64 a);refine (aB a f _ _ zG).mono ?_;rintro e w1 ⟨rfl,rfl⟩;rw [j]) | (go_at_call_of 126 (Value.int .i64 b);refine (aB b f _ _ zG).mono ?_;rintro e w1 ⟨rfl,rfl⟩;rw [l]))
    go_ret;exact ⟨rfl,ae (ae (ae (ag _ _) _) _) _⟩
   ·rw [if_neg (fun e=>h e.2.2)];subst hc hd;have n:v.toList.isEmpty=false:=by
     rw [ByteArray.toList_eq];cases m:v.data.toList with
     | nil=>exact absurd m h
     | cons x y=>rfl
    clear h;go_enter Tryz.func81,Tryz.ntmps81
    go_wp2_with (first | (go_at_call_of 126 (Value.int .i64 a);refine (aB a f _ _ zG).mono ?_;rintro e w1 ⟨rfl,rfl⟩;rw [j]) | (go_at_call_of 126 (Value.int .i64 b);refine (aB b f _ _ zG).mono ?_;rintro e w1 ⟨rfl,rfl⟩;rw [l]))
    go_ret;exact ⟨rfl,ae (ae (ae (ag _ _) _) _) _⟩
  ·rw [if_neg (fun e=>hd e.2.1)];have A:=mu hd;subst hc;go_enter Tryz.func81,Tryz.ntmps81
   go_wp2_with (first | (go_at_call_of 126 (Value.int .i64 a);refine (aB a f _ _ zG).mono ?_;rintro e w1 ⟨rfl,rfl⟩;rw [j]) | (go_at_call_of 126 (Value.int .i64 b);refine (aB b f _ _ zG).mono ?_;rintro e w1 ⟨rfl,rfl⟩;rw [l]))
   go_ret;exact ⟨rfl,ae (ae (ae (ag _ _) _) _) _⟩
 ·rw [if_neg (fun e=>hc e.1)];have B:=mu hc;go_enter Tryz.func81,Tryz.ntmps81
  go_wp2_with (first | (go_at_call_of 126 (Value.int .i64 a);refine (aB a f _ _ zG).mono ?_;rintro e w1 ⟨rfl,rfl⟩;rw [j]) | (go_at_call_of 126 (Value.int .i64 b);refine (aB b f _ _ zG).mono ?_;rintro e w1 ⟨rfl,rfl⟩;rw [l]))
  go_ret;exact ⟨rfl,ae (ae (ae (ag _ _) _) _) _⟩
theorem xp (k:Nat) (a b c d:Int) (v:ByteArray) (f:Int) (w:World) (E:1<=k) (P:k<9) (F:fS w) (t:ft a f=true) (x:ft b f=true) (m:Int) (j:w.cell? ⟨2,0,none⟩=some (.int .i64 m)) (G:2<w.heap.size) (Q:v.size<=600000000) (B:jJ k=false) (C:eP k=true) (ha:fz k=true) :
  Calls Tryz.prog 81 #[.agg #[.int .i64 (k:Nat),.int .i64 a,.int .i64 b,.int .i64 c,.int .i64 d,.string v],.int .i64 f] w fun e N=>e=.returned (.int .i64 (if lW v<=0 then 5 else if c=0/\d=0 then 0 else 6))/\w.grownBy N none:=by
 obtain ⟨M,r⟩:=F;obtain ⟨s,u,c0,c1,c2,c3,c4⟩:=r k E O;have q:w.grownBy ((w.alloc (Obj.cells #[.int .i64 (k:Nat),.int .i64 a,.int .i64 b,.int .i64 c,.int .i64 d,.string v] 60)).alloc (Obj.cells #[.int .i64 f] 3)) none:=ae (ae (ag _ _) _) _;have k0:=q.cell c0 Z;have k1:=q.cell c1 Z;have H:=q.cell c2 Z;have I:=q.cell c3 Z;have J:=q.cell c4 Z;clear q;clear r;rw [B] at c4 J;rw [C] at c2 H;rw [ha] at c3 I;obtain ⟨sv,p⟩:=eX (lW v);rw [<- p];have l:=aa p;clear B C ha p;by_cases D:sv<=0
 ·rw [if_pos D];go_enter Tryz.func81,Tryz.ntmps81
  go_wp2_with (first | (go_at_call_of 126 (Value.int .i64 a);refine (aB a f _ _ zG).mono ?_;rintro e w1 ⟨rfl,rfl⟩;rw [t]) | (go_at_call_of 126 (Value.int .i64 b);refine (aB b f _ _ zG).mono ?_;rintro e w1 ⟨rfl,rfl⟩;rw [x]) | (go_at_call 127;refine (vO v m _ O (by refine World.grownBy.cell (w:=w) (row:=none) ?_ j Z;repeat (first | exact ag _ _ | refine ae ?_ _ | refine ar ?_ _))).mono ?_;intro e y h;obtain ⟨z,rfl,f1,i⟩:=h;have n:=aa f1;have o:=aa i;clear f1 i) | (go_at_call 128;refine (pt _ _ _ _ _ _ n).mono ?_;rintro e A ⟨rfl,s2⟩;have g:=aa (ab o s2);have q1:=g.out.cell (a:=⟨w.heap.size,3,none⟩) (v:=.int .i64 c) zG Z;have q2:=g.out.cell (a:=⟨w.heap.size,4,none⟩) (v:=.int .i64 d) zG Z;have q3:=g.out.cell (a:=⟨w.heap.size+1+1,4,none⟩) (v:=.bool false) zG Z;have q4:=g.out.cell (a:=⟨w.heap.size+1+1,2,none⟩) (v:=.bool true) zG Z;rw [show nf (hJ v.data.toList).1 (hJ v.data.toList).2.1=sv from l.out.symm];clear s2))
  go_ret;exact ⟨rfl,ab (ae (ae (ae (ag _ _) _) _) _) g⟩
 ·rw [if_neg D];by_cases hc:c=0
  ·by_cases hd:d=0
   ·rw [if_pos ⟨hc,hd⟩];subst hc hd;go_enter Tryz.func81,Tryz.ntmps81
    go_wp2_with (first | (go_at_call_of 126 (Value.int .i64 a);refine (aB a f _ _ zG).mono ?_;rintro e w1 ⟨rfl,rfl⟩;rw [t]) | (go_at_call_of 126 (Value.int .i64 b);refine (aB b f _ _ zG).mono ?_;rintro e w1 ⟨rfl,rfl⟩;rw [x]) | (go_at_call 127;refine (vO v m _ O (by refine World.grownBy.cell (w:=w) (row:=none) ?_ j Z;repeat (first | exact ag _ _ | refine ae ?_ _ | refine ar ?_ _))).mono ?_;intro e y h;obtain ⟨z,rfl,f1,i⟩:=h;have n:=aa f1;have o:=aa i;clear f1 i) | (go_at_call 128;refine (pt _ _ _ _ _ _ n).mono ?_;rintro e A ⟨rfl,s2⟩;have g:=aa (ab o s2);have q1:=g.out.cell (a:=⟨w.heap.size,3,none⟩) (v:=.int .i64 0) zG Z;have q2:=g.out.cell (a:=⟨w.heap.size,4,none⟩) (v:=.int .i64 0) zG Z;have q3:=g.out.cell (a:=⟨w.heap.size+1+1,4,none⟩) (v:=.bool false) zG Z;have q4:=g.out.cell (a:=⟨w.heap.size+1+1,2,none⟩) (v:=.bool true) zG Z;rw [show nf (hJ v.data.toList).1 (hJ v.data.toList).2.1=sv from l.out.symm];clear s2))
    go_ret;exact ⟨rfl,ab (ae (ae (ae (ag _ _) _) _) _) g⟩
   ·rw [if_neg (fun e=>hd e.2)];have K:=mu hd;subst hc;go_enter Tryz.func81,Tryz.ntmps81
    go_wp2_with (first | (go_at_call_of 126 (Value.int .i64 a);refine (aB a f _ _ zG).mono ?_;rintro e w1 ⟨rfl,rfl⟩;rw [t]) | (go_at_call_of 126 (Value.int .i64 b);refine (aB b f _ _ zG).mono ?_;rintro e w1 ⟨rfl,rfl⟩;rw [x]) | (go_at_call 127;refine (vO v m _ O (by refine World.grownBy.cell (w:=w) (row:=none) ?_ j Z;repeat (first | exact ag _ _ | refine ae ?_ _ | refine ar ?_ _))).mono ?_;intro e y h;obtain ⟨z,rfl,f1,i⟩:=h;have n:=aa f1;have o:=aa i;clear f1 i) | (go_at_call 128;refine (pt _ _ _ _ _ _ n).mono ?_;rintro e A ⟨rfl,s2⟩;have g:=aa (ab o s2);have q1:=g.out.cell (a:=⟨w.heap.size,3,none⟩) (v:=.int .i64 0) zG Z;have q2:=g.out.cell (a:=⟨w.heap.size,4,none⟩) (v:=.int .i64 d) zG Z;have q3:=g.out.cell (a:=⟨w.heap.size+1+1,4,none⟩) (v:=.bool false) zG Z;have q4:=g.out.cell (a:=⟨w.heap.size+1+1,2,none⟩) (v:=.bool true) zG Z;rw [show nf (hJ v.data.toList).1 (hJ v.data.toList).2.1=sv from l.out.symm];clear s2))
    go_ret;exact ⟨rfl,ab (ae (ae (ae (ag _ _) _) _) _) g⟩
  ·rw [if_neg (fun e=>hc e.1)];have L:=mu hc;go_enter Tryz.func81,Tryz.ntmps81
   go_wp2_with (first | (go_at_call_of 126 (Value.int .i64 a);refine (aB a f _ _ zG).mono ?_;rintro e w1 ⟨rfl,rfl⟩;rw [t]) | (go_at_call_of 126 (Value.int .i64 b);refine (aB b f _ _ zG).mono ?_;rintro e w1 ⟨rfl,rfl⟩;rw [x]) | (go_at_call 127;refine (vO v m _ O (by refine World.grownBy.cell (w:=w) (row:=none) ?_ j Z;repeat (first | exact ag _ _ | refine ae ?_ _ | refine ar ?_ _))).mono ?_;intro e y h;obtain ⟨z,rfl,f1,i⟩:=h;have n:=aa f1;have o:=aa i;clear f1 i) | (go_at_call 128;refine (pt _ _ _ _ _ _ n).mono ?_;rintro e A ⟨rfl,s2⟩;have g:=aa (ab o s2);have q1:=g.out.cell (a:=⟨w.heap.size,3,none⟩) (v:=.int .i64 c) zG Z;have q2:=g.out.cell (a:=⟨w.heap.size,4,none⟩) (v:=.int .i64 d) zG Z;have q3:=g.out.cell (a:=⟨w.heap.size+1+1,4,none⟩) (v:=.bool false) zG Z;have q4:=g.out.cell (a:=⟨w.heap.size+1+1,2,none⟩) (v:=.bool true) zG Z;rw [show nf (hJ v.data.toList).1 (hJ v.data.toList).2.1=sv from l.out.symm];clear s2))
   go_ret;exact ⟨rfl,ab (ae (ae (ae (ag _ _) _) _) _) g⟩
def lh (p:aD) (nodes:Int):Int:=if p.kind<1∨9<=p.kind then 3 else kZ p.kind.toNat p.a p.b p.c p.d p.v nodes
def lM (w:World):Prop:=fS w/\(∃ m:Int,w.cell? ⟨2,0,none⟩=some (.int .i64 m))/\2<w.heap.size
theorem lM.keep {a:World} (h:lM w) (hg:w.grownBy a none):lM a:=by
 obtain ⟨b,⟨m,c⟩,d⟩:=h;exact ⟨b.keep hg,⟨m,hg.cell c Z⟩,Nat.lt_of_lt_of_le d hg.size⟩
theorem yZ (z:Int) (a b c d:Int) (v:ByteArray) (f:Int) (w:World) (h:z<1∨9<=z) :
  Calls Tryz.prog 81 #[.agg #[.int .i64 z,.int .i64 a,.int .i64 b,.int .i64 c,.int .i64 d,.string v],.int .i64 f] w fun e g=>e=.returned (.int .i64 3)/\w.grownBy g none:=by
 by_cases i:z<1
 ·clear h;go_enter Tryz.func81,Tryz.ntmps81
  go_wp2;go_ret;exact ⟨rfl,ae (ae (ag _ _) _) _⟩
 ·have j:9<=z:=O
  clear h;go_enter Tryz.func81,Tryz.ntmps81
  go_wp2;go_ret;exact ⟨rfl,ae (ae (ag _ _) _) _⟩
theorem ji {P:Program} {f:Nat} {a:Array Value} {x y:Int} {R:World->Prop} (h:Calls P f a w fun e b=>e=.returned (.int .i64 x)/\R b) (e:x=y):Calls P f a w fun e b=>e=.returned (.int .i64 y)/\R b:=by
 rw [<- e];exact h
theorem Ff (p:aD) (f:Int) (w:World) (hb:lM w) (D:p.v.size<=600000000) :
  Calls Tryz.prog 81 #[p.val,.int .i64 f] w fun e G=>e=.returned (.int .i64 (lh p f))/\w.grownBy G none:=by
 obtain ⟨kind,a,b,c,d,v⟩:=p;unfold aD.val lh;by_cases h:kind<1∨9<=kind
 ·simp only;rw [if_pos h];exact yZ kind a b c d v f w h
 ·simp only;rw [if_neg h];obtain ⟨k,rfl⟩:∃ k:Nat,kind=k:=⟨kind.toNat,O⟩;rw [Int.toNat_natCast];have q:1<=k:=O
  have r:k<9:=O
  obtain ⟨s,⟨m,z⟩,A⟩:=hb;by_cases hn:(!(ft a f) || !(ft b f) || (jJ k && !(ft c f && ft d f)))=true
  ·refine ji (xr k a b c d v f w q r s hn) ?_;unfold kZ;rw [if_pos hn]
  ·have j:ft a f=true:=by
    cases h:ft a f with
    | true=>rfl
    | false=>rw [h] at hn;simp at hn
   have l:ft b f=true:=by
    cases h:ft b f with
    | true=>rfl
    | false=>rw [h] at hn;simp at hn
   have o:(c != 0 || d != 0) = !(decide (c=0/\d=0)):=by
    by_cases hc:c=0<;>by_cases hd:d=0<;>simp [hc,hd]
   have t:k=1∨k=2∨k=3∨k=4∨k=5∨k=6∨k=7∨k=8:=O
   by_cases g:jJ k=true
   ·rw [j,l,g] at hn;have B:ft c f=true:=by
     cases h:ft c f with
     | true=>rfl
     | false=>rw [h] at hn;simp at hn
    have C:ft d f=true:=by
     cases h:ft d f with
     | true=>rfl
     | false=>rw [h] at hn;simp at hn
    have i:eP k=true:=by rcases t with rfl | rfl | rfl | rfl | rfl | rfl | rfl | rfl<;>first | rfl | (simp [jJ] at g)
    have ha:fz k=false:=by rcases t with rfl | rfl | rfl | rfl | rfl | rfl | rfl | rfl<;>first | rfl | (simp [jJ] at g)
    refine ji (Ch k a b c d v f w q r s j l B C g i ha) ?_;unfold kZ;simp [j,l,B,C,g,i,ha]
   ·have g:jJ k=false:=by simpa using g
    by_cases i:eP k=true
    ·by_cases ha:fz k=true
     ·refine ji (xp k a b c d v f w q r s j l m z A D g i ha) ?_;unfold kZ;simp only [j,l,g,i,ha,o];by_cases E:lW v<=0<;>by_cases n:c=0/\d=0<;>simp [E,n]
     ·have ha:fz k=false:=by simpa using ha
      refine ji (xt k a b c d v f w q r s j l g i ha) ?_;unfold kZ;simp only [j,l,g,i,ha,o];by_cases n:c=0/\d=0<;>simp [n]
    ·have i:eP k=false:=by simpa using i
     have ha:fz k=false:=by rcases t with rfl | rfl | rfl | rfl | rfl | rfl | rfl | rfl<;>first | rfl | (simp [eP] at i)
     refine ji (xq k a b c d v f w q r s j l g i ha) ?_;unfold kZ;simp only [j,l,g,i,ha,o];by_cases n:c=0/\d=0
     ·by_cases u:v.data.toList=[]
      ·simp [n,u]
      ·have F:v.data.toList.isEmpty=false:=by
        cases hq:v.data.toList with
        | nil=>exact absurd hq u
        | cons x y=>rfl
       simp [n,u,F]
     ·rw [if_neg (fun e=>n ⟨e.1,e.2.1⟩)];simp [n]
theorem xI (a:Int) (o:Option Addr) (l cap:Nat) (f:Value) (w:World) (h:a<1∨8<a∨16<l) :
  Calls Tryz.prog 79 #[.agg #[.int .i64 a,.slice o l cap],f] w fun e i=>e=.returned (.agg #[.int .i64 2,.int .i64 0])/\w.grownBy i none:=by
 by_cases b:a<1
 ·clear h;go_enter Tryz.func79,Tryz.ntmps79
  go_wp2;exact bodyPost_ret (v:=.agg #[.int .i64 2,.int .i64 0]) (by simp [results,Tryz.results79,go_sem]) rfl ⟨rfl,ae (ae (ag _ _) _) _⟩
 ·by_cases c:8<a
  ·clear h;go_enter Tryz.func79,Tryz.ntmps79
   go_wp2;exact bodyPost_ret (v:=.agg #[.int .i64 2,.int .i64 0]) (by simp [results,Tryz.results79,go_sem]) rfl ⟨rfl,ae (ae (ag _ _) _) _⟩
  ·have j:16<l:=O
   have d:decide (a<1)=false:=by simpa using b
   have g:decide (8<a)=false:=by simpa using c
   clear h;go_enter Tryz.func79,Tryz.ntmps79
   go_wp2;exact bodyPost_ret (v:=.agg #[.int .i64 2,.int .i64 0]) (by simp [results,Tryz.results79,go_sem]) rfl ⟨rfl,ae (ae (ag _ _) _) _⟩
theorem mZ {W:World} {t:TypeId} {u v:Value} (h:(w.alloc (Obj.cells #[u,v] t)).grownBy W none) :
  W.cell? ⟨w.heap.size,0,none⟩=some u/\W.cell? ⟨w.heap.size,1,none⟩=some v/\(∀ i,W.frozen? ⟨w.heap.size,i,none⟩=false):=by
 have e:W.heap[w.heap.size]? = some (Obj.cells #[u,v] t (0,0)):=by
  rw [h.block w.heap.size Z Z];exact heap_alloc_new w _
 refine ⟨?_,?_,fun i=>?_⟩<;>simp [World.cell?,World.frozen?,e]
def dq (dio:Bool) (p:aD) (nodes:Int):Int:=if p.kind=8/\dio=false then 3 else lh p nodes
def bw (dio:Bool) (nodes:Int):List aD->Nat->Int×Int
 | [],_=>(0,0)
 | p :: r,i=>if dq dio p nodes=0 then bw dio nodes r (i+1) else (dq dio p nodes,(i:Int))
def aM (dio:Bool) (nodes:Int) (ps:List aD):Int×Int:=if nodes<1∨8<nodes∨16<ps.length then (2,0) else bw dio nodes ps 0
def sP (dio:Bool) (w:World) (nodes:Int) (ps:List aD) (e:Ending) (w':World):Prop:=e=.returned (.agg #[.int .i64 (aM dio nodes ps).1,.int .i64 (aM dio nodes ps).2])/\w.grownBy w' none
theorem EP (p:aD) (f:Int) (g:Nat) (w:World) (hb:lM w) (m:p.v.size<=600000000) (hg:g<w.heap.size) (hc:w.cell? ⟨g,0,none⟩=some (.int .i64 f)) :
  Calls Tryz.prog 80 #[p.val,.pointer (some ⟨g,0,none⟩)] w fun e s=>e=.returned (.int .i64 (dq false p f))/\w.grownBy s none:=by
 have n:=aa (hb.keep (World.grownBy_alloc w (Obj.cells #[.int .i64 p.kind,.int .i64 p.a,.int .i64 p.b,.int .i64 p.c,.int .i64 p.d,.string p.v] 60) none));have k:=Ff p f _ n m;have j:=aa k;unfold aD.val at j;clear hb k;unfold aD.val;by_cases i:p.kind=8
 ·have e:dq false p f=3:=by unfold dq;rw [if_pos ⟨i,rfl⟩]
  rw [e,i];clear j e i;go_enter Tryz.func80,Tryz.ntmps80
  go_wp2;go_ret;exact ⟨rfl,ae (ag _ _) _⟩
 ·have e:dq false p f=lh p f:=by unfold dq;rw [if_neg (fun h=>i h.1)]
  rw [e];have o:(p.kind==8)=false:=by simpa using i
  clear e i;generalize lh p f=r at j ⊢;go_enter Tryz.func80,Tryz.ntmps80
  go_wp2_with fail;refine j.mono ?_;rintro e w1 ⟨rfl,l⟩;have q:=aa l;clear l;go_wp2;go_ret;exact ⟨rfl,ab (ae (ag _ _) _) q⟩
def ChkLR (W:World) (nodes:Int) (ps:List aD) (C:Int×Int) (iv:Value) (wr:World):Prop:=∃ i:Nat,i<=ps.length/\iv=.int .i64 i/\bw false nodes (ps.drop i) i=C/\W.grownBy wr none
theorem AW (a:Int) (pv:Value) (c:List aD) (g:Nat) (w:World) (hb:lM w) (S:aA w pv c) (hg:g<w.heap.size) (hc:w.cell? ⟨g,0,none⟩=some (.int .i64 a)) :
  Calls Tryz.prog 79 #[.agg #[.int .i64 a,pv],.func (.func 80) #[] #[.pointer (some ⟨g,0,none⟩)]] w fun e w'=>sP false w a c e w':=by
 obtain ⟨M,cap,rfl,h1,h2,N⟩:=S;unfold maxLen at h2;by_cases o:a<1∨8<a∨16<c.length
 ·refine (xI a M c.length cap _ w o).mono ?_;rintro e w' ⟨rfl,hw⟩;refine ⟨?_,hw⟩;unfold aM;rw [if_pos o]
 ·have T:decide (a<1)=false:=by simp;omega
  have U:decide (8<a)=false:=by simp;omega
  have V:decide ((16:Int)<(c.length:Int))=false:=by simp;omega
  have J:c.length<=16:=O
  have t:=aa N;have u:=aa hb;have x:=aa hc;obtain ⟨C,G⟩:∃ C,bw false a c 0=C:=⟨_,rfl⟩;have l:Hid (aM false a c=C):=by
   show _=_
   unfold aM;rw [if_neg o,G]
  have y:=aa G;clear N hb hc o G;go_enter Tryz.func79,Tryz.ntmps79
  go_wp2;obtain ⟨W,q⟩:=eX ((w.alloc (Obj.cells #[.int .i64 a,.slice M c.length cap] 24)).alloc (Obj.cells #[.int .i64 0,.int .i64 0] 29));have z:Hid (w.grownBy W none):=by rw [q];exact ae (ae (ag _ _) _) _
  have K:Hid (∀ wr:World,W.grownBy wr none->wr.cell? ⟨w.heap.size+1,0,none⟩=some (.int .i64 0)/\wr.cell? ⟨w.heap.size+1,1,none⟩=some (.int .i64 0)/\(∀ i,wr.frozen? ⟨w.heap.size+1,i,none⟩=false)):=by
   intro wr hg;rw [q] at hg;have:=mZ hg;simpa using this
  simp only [<- q];clear q;go_loopw [26] (fun iv wr=>Hid (ChkLR W a c C iv wr)) (fun iv _=>c.length-(intOf iv).toNat)
  case atStart=>exact ⟨0,O,rfl,y,ag _ _⟩
  case round =>
   obtain ⟨i,hi,rfl,P,k⟩:=hrel.out;obtain ⟨r0,r1,H⟩:=K.out wr k;have X:=H 0;have Y:=H 1;have A:=aa P;have f:=aa k;clear P k H hrel;by_cases hlt:i<c.length
   ·obtain ⟨b,off,rfl,hb,c0,c1,c2,c3,c4,c5,Q⟩:=t.out i hlt;have d:=(ab z f);have q0:=d.cell c0 Z;have q1:=d.cell c1 Z;have q2:=d.cell c2 Z;have q3:=d.cell c3 Z;have q4:=d.cell c4 Z;have q5:=d.cell c5 Z;have hd:c.drop i=c[i] :: c.drop (i+1):=List.drop_eq_getElem_cons hlt;have B:=aa hd;have h:=aa d;generalize c[i]=p at q0 q1 q2 q3 q4 q5 Q B;clear c0 c1 c2 c3 c4 c5 hd d;go_wp2_with fail;refine (EP p a g _ (u.keep (ae h _)) Q (by have:=h.out.size;simp;omega) ((ae h _).cell x Z)).mono ?_;rintro e w1 ⟨rfl,R⟩;have D:=aa (ab (ae f _) R);obtain ⟨t0,t1,I⟩:=K.out w1 D;have he:=I 0;have hj:=I 1;clear I R t;by_cases j:dq false p a=0
    ·rw [j];have E:=aa j;clear j;go_wp2;go_roundw
     case rel =>
      refine ⟨i+1,O,zN,?_,D⟩;have:=A.out;rw [B,bw,if_pos E.out] at this;exact this
     case measure=>exact bO
    ·obtain ⟨r,s⟩:=eX (dq false p a);rw [<- s];rw [<- s] at j;have hk:=mu j;have L:=aa s;have E:=aa j;clear j s;go_wp2;refine bodyPost_ret (v:=.agg #[.int .i64 r,.int .i64 (i:Nat)]) (by simp [results,Tryz.results79,go_sem,t0,t1]) rfl ?_;have m:=A.out;rw [B,bw,if_neg (by rw [<- L];exact E),<- L] at m;refine ⟨?_,?_⟩
     ·rw [l,<- m]
     ·exact ah (ah (ab z D) _ _ Z) _ _ Z
   ·have n:c.drop i=[]:=List.drop_of_length_le O;have F:=aa n;clear n t;go_wp2;refine bodyPost_ret (v:=.agg #[.int .i64 0,.int .i64 0]) (by simp [results,Tryz.results79,go_sem,r0,r1]) rfl ?_;have m:=A.out;rw [F,bw] at m;refine ⟨?_,?_⟩
    ·rw [l,<- m]
    ·exact ah (ah (ab z f) _ _ Z) _ _ Z
theorem rG (a:Int) (pv:Value) (b:List aD) (w:World) (hb:lM w) (j:aA w pv b) :
  Calls Tryz.prog 45 #[.agg #[.int .i64 a,pv]] w fun e A=>sP false w a b e A:=by
 have l:=aa hb;have m:=aa j;obtain ⟨s,cap,rfl,B,t,u⟩:=j;clear u hb t;go_enter Tryz.func45,Tryz.ntmps45
 go_wp2_with fail;have k:w.grownBy ((w.alloc (Obj.cells #[.int .i64 a,.slice s b.length cap] 24)).alloc (Obj.cells #[.int .i64 0,.int .i64 0] 29)) none:=ae (ae (ag _ _) _) _;have c:=aa k;clear k;refine (AW a _ b w.heap.size _ (l.keep c) (m.keep c) (by simp;omega) zG).mono ?_;intro e w1 r;obtain ⟨rfl,f⟩:=r;have n:=aa f;have d:w1.cell? ⟨w.heap.size+1,0,none⟩=some (.int .i64 0)/\w1.cell? ⟨w.heap.size+1,1,none⟩=some (.int .i64 0)/\(∀ i,w1.frozen? ⟨w.heap.size+1,i,none⟩=false):=by
  have:=mZ f;simpa using this
 obtain ⟨x,r1,g⟩:=d;have o:=g 0;have p:=g 1;obtain ⟨C,h⟩:=eX (aM false a b);rw [<- h];obtain ⟨y,z⟩:=C;have q:=aa h;clear g f h;go_wp2;refine bodyPost_ret (v:=.agg #[.int .i64 y,.int .i64 z]) (by simp [results,Tryz.results45,go_sem,x,r1]) rfl ?_;refine ⟨?_,?_⟩
 ·rw [<- q]
 ·exact ah (ah (ab c n) _ _ Z) _ _ Z
def cj (p:aD):List Value:=[.int .i64 p.kind,.int .i64 p.a,.int .i64 p.b,.int .i64 p.c,.int .i64 p.d,.string p.v]
def aK (ps:List aD):List Value:=ps.flatMap cj
theorem fU (p:aD):(cj p).length=6:=rfl
theorem db (a:List aD):(aK a).length=a.length*6:=by
 induction a with
 | nil=>rfl
 | cons p r ih=>simp only [aK,List.flatMap_cons,List.length_append,fU] at ih ⊢;rw [ih,List.length_cons];omega
theorem ir (a b:List aD):aK (a++b)=aK a++aK b:=by simp [aK]
theorem gj (a:List aD) (i k:Nat) (h:i<a.length) (b:k<6):(aK a)[i*6+k]? = (cj a[i])[k]?:=by
 induction a generalizing i with
 | nil=>simp at h
 | cons p r ih =>
  show (cj p++aK r)[i*6+k]? = _
  cases i with
  | zero=>rw [List.getElem?_append_left (by rw [fU];omega)];simp
  | succ i =>
   rw [List.getElem?_append_right (by rw [fU];omega),fU,show (i+1)*6+k-6=i*6+k from O,ih i (by simpa using h)];simp
theorem gA (b:List aD):∀ u∈aK b,u.oneCell'=true:=by
 intro u a;simp only [aK,List.mem_flatMap,cj] at a;obtain ⟨p,_,a⟩:=a;simp only [List.mem_cons,List.not_mem_nil,or_false] at a;rcases a with rfl | rfl | rfl | rfl | rfl | rfl<;>rfl
theorem iD {g n cap:Nat} {a:List aD} (hb:g<w.heap.size) (hn:a.length=n) (hc:n<=cap) (b:cap<=maxLen) (c:∀ i (h:i<a.length),a[i].v.size<=600000000)
  (h:∀ j,j<n*6->w.cell? ⟨g,j,none⟩=(aK a)[j]?):aA w (.slice (some ⟨g,0,none⟩) n cap) a:=by
 subst hn;refine ⟨_,cap,rfl,hc,b,fun i hi=>⟨g,0,rfl,hb,?_⟩⟩;have e:∀ k,k<6->w.cell? ⟨g,0+i*6+k,none⟩=(cj a[i])[k]?:=fun k d=>by
  rw [Nat.zero_add,h (i*6+k) O,gj a i k hi d]
 exact ⟨by have:=e 0 O;exact this,by have:=e 1 O;exact this,by have:=e 2 O;exact this,by have:=e 3 O;exact this,by have:=e 4 O;exact this,by have:=e 5 O;exact this,c i hi⟩
theorem aA.cells {f:List aD} {a:Addr} {n cap:Nat} (h:aA w (.slice (some a) n cap) f):∀ j u,(aK f)[j]? = some u->w.cell? (a.add j)=some u:=by
 intro j u d;obtain ⟨p,c,e,q,r,m⟩:=h;have o:j<f.length*6:=by
  rw [<- db];exact (zY d).1
 have hi:j / 6<f.length:=O
 simp only [Value.slice.injEq] at e;obtain ⟨rfl,rfl,rfl⟩:=e;obtain ⟨b,off,e,hb,c0,c1,c2,c3,c4,c5,s⟩:=m (j / 6) hi;simp only [zI] at e;subst e;have g:(⟨b,off,none⟩:Addr).add j=⟨b,off+j,none⟩:=by unfold Addr.add;split<;>simp_all
 have i:j=j / 6*6+j % 6:=O
 rw [i,gj f (j / 6) (j % 6) hi O] at d;rw [g,i,<- Nat.add_assoc];have l:j % 6<6:=O
 generalize j % 6=k at d l;match k,l with
 | 0,_=>simp only [cj,List.getElem?_cons_zero,zI] at d;subst d;exact c0
 | 1,_=>simp only [cj,List.getElem?_cons_succ,List.getElem?_cons_zero,zI] at d;subst d;exact c1
 | 2,_=>simp only [cj,List.getElem?_cons_succ,List.getElem?_cons_zero,zI] at d;subst d;exact c2
 | 3,_=>simp only [cj,List.getElem?_cons_succ,List.getElem?_cons_zero,zI] at d;subst d;exact c3
 | 4,_=>simp only [cj,List.getElem?_cons_succ,List.getElem?_cons_zero,zI] at d;subst d;exact c4
 | 5,_=>simp only [cj,List.getElem?_cons_succ,List.getElem?_cons_zero,zI] at d;subst d;exact c5
end Go.Proofs.YtbfohfjobncehaaGreatDoor
