/- Contracts that the proof leans on. -/
import Derived.Test.YtcoeancbjafooaaGreatDoorXCNa
namespace Go.Proofs.YtcoeancbjafooaaGreatDoor
open Go.RowKit
set_option linter.unusedVariables false
set_option linter.unusedSimpArgs false
set_option maxHeartbeats 8000000
set_option maxRecDepth 10000
theorem ma {c:Int} (h:c≠0):(c != 0)=true:=by simpa using h
theorem Bh (k:Nat) (a b c d:Int) (v:ByteArray) (nodes:Int) (w:World) (h1:1<=k) (h2:k<9) (hk:fF w) (hA:cJ a nodes=true) (hB:cJ b nodes=true) (hC:cJ c nodes=true) (hD:cJ d nodes=true) (hl:ee k=true) (hv:cw k=true) (ha:cE k=false) :
  Calls Tryz.prog 106 #[.agg #[.int .i64 (k:Nat),.int .i64 a,.int .i64 b,.int .i64 c,.int .i64 d,.string v],.int .i64 nodes] w fun e w'=>e=.returned (.int .i64 (0))/\w.grownBy w' none:=by
 obtain ⟨hk0,hk1⟩:=hk;obtain ⟨s,u,c0,c1,c2,c3,c4⟩:=hk1 k h1 (by omega);have gK:w.grownBy ((w.alloc (Obj.cells #[.int .i64 (k:Nat),.int .i64 a,.int .i64 b,.int .i64 c,.int .i64 d,.string v] 47)).alloc (Obj.cells #[.int .i64 nodes] 3)) none:=ag (ag (ae _ _) _) _;have k0:=gK.cell c0 (by simp);have k1:=gK.cell c1 (by simp);have k2:=gK.cell c2 (by simp);have k3:=gK.cell c3 (by simp);have k4:=gK.cell c4 (by simp);clear gK;clear hk1;rw [hl] at c4 k4;rw [hv] at c2 k2;rw [ha] at c3 k3;clear hl hv ha;go_enter Tryz.func106,Tryz.ntmps106
 go_wp2_with (first | (go_at_call_of 144 (Value.int .i64 a);refine (aE a nodes _ _ (by go_simp)).mono ?_;rintro e w1 ⟨rfl,rfl⟩;rw [hA]) | (go_at_call_of 144 (Value.int .i64 b);refine (aE b nodes _ _ (by go_simp)).mono ?_;rintro e w1 ⟨rfl,rfl⟩;rw [hB]) | (go_at_call_of 144 (Value.int .i64 c);refine (aE c nodes _ _ (by go_simp)).mono ?_;rintro e w1 ⟨rfl,rfl⟩;rw [hC]) | (go_at_call_of 144 (Value.int .i64 d);refine (aE d nodes _ _ (by go_simp)).mono ?_;rintro e w1 ⟨rfl,rfl⟩;rw [hD]))
 go_ret;exact ⟨rfl,ag (ag (ag (ae _ _) _) _) _⟩
theorem wR (k:Nat) (a b c d:Int) (v:ByteArray) (nodes:Int) (w:World) (h1:1<=k) (h2:k<9) (hk:fF w) (hA:cJ a nodes=true) (hB:cJ b nodes=true) (hl:ee k=false) (hv:cw k=true) (ha:cE k=false) :
  Calls Tryz.prog 106 #[.agg #[.int .i64 (k:Nat),.int .i64 a,.int .i64 b,.int .i64 c,.int .i64 d,.string v],.int .i64 nodes] w fun e w'=>e=.returned (.int .i64 (if c=0/\d=0 then 0 else 6))/\w.grownBy w' none:=by
 obtain ⟨hk0,hk1⟩:=hk;obtain ⟨s,u,c0,c1,c2,c3,c4⟩:=hk1 k h1 (by omega);have gK:w.grownBy ((w.alloc (Obj.cells #[.int .i64 (k:Nat),.int .i64 a,.int .i64 b,.int .i64 c,.int .i64 d,.string v] 47)).alloc (Obj.cells #[.int .i64 nodes] 3)) none:=ag (ag (ae _ _) _) _;have k0:=gK.cell c0 (by simp);have k1:=gK.cell c1 (by simp);have k2:=gK.cell c2 (by simp);have k3:=gK.cell c3 (by simp);have k4:=gK.cell c4 (by simp);clear gK;clear hk1;rw [hl] at c4 k4;rw [hv] at c2 k2;rw [ha] at c3 k3;clear hl hv ha;by_cases hc:c=0
 ·by_cases hd:d=0
  ·rw [if_pos ⟨hc,hd⟩];subst hc hd;go_enter Tryz.func106,Tryz.ntmps106
   go_wp2_with (first | (go_at_call_of 144 (Value.int .i64 a);refine (aE a nodes _ _ (by go_simp)).mono ?_;rintro e w1 ⟨rfl,rfl⟩;rw [hA]) | (go_at_call_of 144 (Value.int .i64 b);refine (aE b nodes _ _ (by go_simp)).mono ?_;rintro e w1 ⟨rfl,rfl⟩;rw [hB]))
   go_ret;exact ⟨rfl,ag (ag (ag (ae _ _) _) _) _⟩
  ·rw [if_neg (fun e=>hd e.2)];have hd':=ma hd;subst hc;go_enter Tryz.func106,Tryz.ntmps106
   go_wp2_with (first | (go_at_call_of 144 (Value.int .i64 a);refine (aE a nodes _ _ (by go_simp)).mono ?_;rintro e w1 ⟨rfl,rfl⟩;rw [hA]) | (go_at_call_of 144 (Value.int .i64 b);refine (aE b nodes _ _ (by go_simp)).mono ?_;rintro e w1 ⟨rfl,rfl⟩;rw [hB]))
   go_ret;exact ⟨rfl,ag (ag (ag (ae _ _) _) _) _⟩
 ·rw [if_neg (fun e=>hc e.1)];have hc':=ma hc;go_enter Tryz.func106,Tryz.ntmps106
  go_wp2_with (first | (go_at_call_of 144 (Value.int .i64 a);refine (aE a nodes _ _ (by go_simp)).mono ?_;rintro e w1 ⟨rfl,rfl⟩;rw [hA]) | (go_at_call_of 144 (Value.int .i64 b);refine (aE b nodes _ _ (by go_simp)).mono ?_;rintro e w1 ⟨rfl,rfl⟩;rw [hB]))
  go_ret;exact ⟨rfl,ag (ag (ag (ae _ _) _) _) _⟩
theorem wP (k:Nat) (a b c d:Int) (v:ByteArray) (nodes:Int) (w:World) (h1:1<=k) (h2:k<9) (hk:fF w) (hA:cJ a nodes=true) (hB:cJ b nodes=true) (hl:ee k=false) (hv:cw k=false) (ha:cE k=false) :
  Calls Tryz.prog 106 #[.agg #[.int .i64 (k:Nat),.int .i64 a,.int .i64 b,.int .i64 c,.int .i64 d,.string v],.int .i64 nodes] w fun e w'=>e=.returned (.int .i64 (if c=0/\d=0/\v.data.toList=[] then 0 else 6))/\w.grownBy w' none:=by
 obtain ⟨hk0,hk1⟩:=hk;obtain ⟨s,u,c0,c1,c2,c3,c4⟩:=hk1 k h1 (by omega);have gK:w.grownBy ((w.alloc (Obj.cells #[.int .i64 (k:Nat),.int .i64 a,.int .i64 b,.int .i64 c,.int .i64 d,.string v] 47)).alloc (Obj.cells #[.int .i64 nodes] 3)) none:=ag (ag (ae _ _) _) _;have k0:=gK.cell c0 (by simp);have k1:=gK.cell c1 (by simp);have k2:=gK.cell c2 (by simp);have k3:=gK.cell c3 (by simp);have k4:=gK.cell c4 (by simp);clear gK;clear hk1;rw [hl] at c4 k4;rw [hv] at c2 k2;rw [ha] at c3 k3;clear hl hv ha;by_cases hc:c=0
 ·by_cases hd:d=0
  ·by_cases he:v.data.toList=[]
   ·rw [if_pos ⟨hc,hd,he⟩];subst hc hd;have he':v.toList=[]:=by rw [ByteArray.toList_eq];exact he
    clear he;go_enter Tryz.func106,Tryz.ntmps106
    go_wp2_with (first | (go_at_call_of 144 (Value.int .i64 a);refine (aE a nodes _ _ (by go_simp)).mono ?_;rintro e w1 ⟨rfl,rfl⟩;rw [hA]) | (go_at_call_of 144 (Value.int .i64 b);refine (aE b nodes _ _ (by go_simp)).mono ?_;rintro e w1 ⟨rfl,rfl⟩;rw [hB]))
    go_ret;exact ⟨rfl,ag (ag (ag (ae _ _) _) _) _⟩
   ·rw [if_neg (fun e=>he e.2.2)];subst hc hd;have he':v.toList.isEmpty=false:=by
     rw [ByteArray.toList_eq];cases hl:v.data.toList with
     | nil=>exact absurd hl he
     | cons x y=>rfl
    clear he;go_enter Tryz.func106,Tryz.ntmps106
    go_wp2_with (first | (go_at_call_of 144 (Value.int .i64 a);refine (aE a nodes _ _ (by go_simp)).mono ?_;rintro e w1 ⟨rfl,rfl⟩;rw [hA]) | (go_at_call_of 144 (Value.int .i64 b);refine (aE b nodes _ _ (by go_simp)).mono ?_;rintro e w1 ⟨rfl,rfl⟩;rw [hB]))
    go_ret;exact ⟨rfl,ag (ag (ag (ae _ _) _) _) _⟩
  ·rw [if_neg (fun e=>hd e.2.1)];have hd':=ma hd;subst hc;go_enter Tryz.func106,Tryz.ntmps106
   go_wp2_with (first | (go_at_call_of 144 (Value.int .i64 a);refine (aE a nodes _ _ (by go_simp)).mono ?_;rintro e w1 ⟨rfl,rfl⟩;rw [hA]) | (go_at_call_of 144 (Value.int .i64 b);refine (aE b nodes _ _ (by go_simp)).mono ?_;rintro e w1 ⟨rfl,rfl⟩;rw [hB]))
   go_ret;exact ⟨rfl,ag (ag (ag (ae _ _) _) _) _⟩
 ·rw [if_neg (fun e=>hc e.1)];have hc':=ma hc;go_enter Tryz.func106,Tryz.ntmps106
  go_wp2_with (first | (go_at_call_of 144 (Value.int .i64 a);refine (aE a nodes _ _ (by go_simp)).mono ?_;rintro e w1 ⟨rfl,rfl⟩;rw [hA]) | (go_at_call_of 144 (Value.int .i64 b);refine (aE b nodes _ _ (by go_simp)).mono ?_;rintro e w1 ⟨rfl,rfl⟩;rw [hB]))
  go_ret;exact ⟨rfl,ag (ag (ag (ae _ _) _) _) _⟩
theorem wO (k:Nat) (a b c d:Int) (v:ByteArray) (nodes:Int) (w:World) (h1:1<=k) (h2:k<9) (hk:fF w) (hA:cJ a nodes=true) (hB:cJ b nodes=true) (m:Int) (hml:w.cell? ⟨1,0,none⟩=some (.int .i64 m)) (hm1:1<w.heap.size) (hz:v.size<=600000000) (hl:ee k=false) (hv:cw k=true) (ha:cE k=true) :
  Calls Tryz.prog 106 #[.agg #[.int .i64 (k:Nat),.int .i64 a,.int .i64 b,.int .i64 c,.int .i64 d,.string v],.int .i64 nodes] w fun e w'=>e=.returned (.int .i64 (if iu v<=0 then 5 else if c=0/\d=0 then 0 else 6))/\w.grownBy w' none:=by
 obtain ⟨hk0,hk1⟩:=hk;obtain ⟨s,u,c0,c1,c2,c3,c4⟩:=hk1 k h1 (by omega);have gK:w.grownBy ((w.alloc (Obj.cells #[.int .i64 (k:Nat),.int .i64 a,.int .i64 b,.int .i64 c,.int .i64 d,.string v] 47)).alloc (Obj.cells #[.int .i64 nodes] 3)) none:=ag (ag (ae _ _) _) _;have k0:=gK.cell c0 (by simp);have k1:=gK.cell c1 (by simp);have k2:=gK.cell c2 (by simp);have k3:=gK.cell c3 (by simp);have k4:=gK.cell c4 (by simp);clear gK;clear hk1;rw [hl] at c4 k4;rw [hv] at c2 k2;rw [ha] at c3 k3;obtain ⟨sv,hsv⟩:∃ z,z=iu v:=⟨_,rfl⟩;rw [<- hsv];have HSV:=ab hsv;clear hl hv ha hsv;by_cases hs:sv<=0
 ·rw [if_pos hs];go_enter Tryz.func106,Tryz.ntmps106
  go_wp2_with (first | (go_at_call_of 144 (Value.int .i64 a);refine (aE a nodes _ _ (by go_simp)).mono ?_;rintro e w1 ⟨rfl,rfl⟩;rw [hA]) | (go_at_call_of 144 (Value.int .i64 b);refine (aE b nodes _ _ (by go_simp)).mono ?_;rintro e w1 ⟨rfl,rfl⟩;rw [hB]) | (go_at_call 145;refine (vh v m _ (by omega) (by refine World.grownBy.cell (w:=w) (row:=none) ?_ hml (by simp);repeat (first | exact ae _ _ | refine ag ?_ _ | refine au ?_ _))).mono ?_;intro e w2 hOf;obtain ⟨fv,rfl,f1,f2⟩:=hOf;have F1:=ab f1;have F2:=ab f2;clear f1 f2) | (go_at_call 146;refine (ph _ _ _ _ _ _ F1.out).mono ?_;rintro e w3 ⟨rfl,s2⟩;have S2:=ab (aa F2.out s2);have q1:=S2.out.cell (a:=⟨w.heap.size,3,none⟩) (v:=.int .i64 c) (by go_simp) (by simp);have q2:=S2.out.cell (a:=⟨w.heap.size,4,none⟩) (v:=.int .i64 d) (by go_simp) (by simp);have q3:=S2.out.cell (a:=⟨w.heap.size+1+1,4,none⟩) (v:=.bool false) (by go_simp) (by simp);have q4:=S2.out.cell (a:=⟨w.heap.size+1+1,2,none⟩) (v:=.bool true) (by go_simp) (by simp);rw [show kE (fm v.data.toList).1 (fm v.data.toList).2.1=sv from HSV.out.symm];clear s2))
  go_ret;exact ⟨rfl,aa (ag (ag (ag (ae _ _) _) _) _) S2.out⟩
 ·rw [if_neg hs];by_cases hc:c=0
  ·by_cases hd:d=0
   ·rw [if_pos ⟨hc,hd⟩];subst hc hd;go_enter Tryz.func106,Tryz.ntmps106
    go_wp2_with (first | (go_at_call_of 144 (Value.int .i64 a);refine (aE a nodes _ _ (by go_simp)).mono ?_;rintro e w1 ⟨rfl,rfl⟩;rw [hA]) | (go_at_call_of 144 (Value.int .i64 b);refine (aE b nodes _ _ (by go_simp)).mono ?_;rintro e w1 ⟨rfl,rfl⟩;rw [hB]) | (go_at_call 145;refine (vh v m _ (by omega) (by refine World.grownBy.cell (w:=w) (row:=none) ?_ hml (by simp);repeat (first | exact ae _ _ | refine ag ?_ _ | refine au ?_ _))).mono ?_;intro e w2 hOf;obtain ⟨fv,rfl,f1,f2⟩:=hOf;have F1:=ab f1;have F2:=ab f2;clear f1 f2) | (go_at_call 146;refine (ph _ _ _ _ _ _ F1.out).mono ?_;rintro e w3 ⟨rfl,s2⟩;have S2:=ab (aa F2.out s2);have q1:=S2.out.cell (a:=⟨w.heap.size,3,none⟩) (v:=.int .i64 0) (by go_simp) (by simp);have q2:=S2.out.cell (a:=⟨w.heap.size,4,none⟩) (v:=.int .i64 0) (by go_simp) (by simp);have q3:=S2.out.cell (a:=⟨w.heap.size+1+1,4,none⟩) (v:=.bool false) (by go_simp) (by simp);have q4:=S2.out.cell (a:=⟨w.heap.size+1+1,2,none⟩) (v:=.bool true) (by go_simp) (by simp);rw [show kE (fm v.data.toList).1 (fm v.data.toList).2.1=sv from HSV.out.symm];clear s2))
    go_ret;exact ⟨rfl,aa (ag (ag (ag (ae _ _) _) _) _) S2.out⟩
   ·rw [if_neg (fun e=>hd e.2)];have hd':=ma hd;subst hc;go_enter Tryz.func106,Tryz.ntmps106
    go_wp2_with (first | (go_at_call_of 144 (Value.int .i64 a);refine (aE a nodes _ _ (by go_simp)).mono ?_;rintro e w1 ⟨rfl,rfl⟩;rw [hA]) | (go_at_call_of 144 (Value.int .i64 b);refine (aE b nodes _ _ (by go_simp)).mono ?_;rintro e w1 ⟨rfl,rfl⟩;rw [hB]) | (go_at_call 145;refine (vh v m _ (by omega) (by refine World.grownBy.cell (w:=w) (row:=none) ?_ hml (by simp);repeat (first | exact ae _ _ | refine ag ?_ _ | refine au ?_ _))).mono ?_;intro e w2 hOf;obtain ⟨fv,rfl,f1,f2⟩:=hOf;have F1:=ab f1;have F2:=ab f2;clear f1 f2) | (go_at_call 146;refine (ph _ _ _ _ _ _ F1.out).mono ?_;rintro e w3 ⟨rfl,s2⟩;have S2:=ab (aa F2.out s2);have q1:=S2.out.cell (a:=⟨w.heap.size,3,none⟩) (v:=.int .i64 0) (by go_simp) (by simp);have q2:=S2.out.cell (a:=⟨w.heap.size,4,none⟩) (v:=.int .i64 d) (by go_simp) (by simp);have q3:=S2.out.cell (a:=⟨w.heap.size+1+1,4,none⟩) (v:=.bool false) (by go_simp) (by simp);have q4:=S2.out.cell (a:=⟨w.heap.size+1+1,2,none⟩) (v:=.bool true) (by go_simp) (by simp);rw [show kE (fm v.data.toList).1 (fm v.data.toList).2.1=sv from HSV.out.symm];clear s2))
    go_ret;exact ⟨rfl,aa (ag (ag (ag (ae _ _) _) _) _) S2.out⟩
  ·rw [if_neg (fun e=>hc e.1)];have hc':=ma hc;go_enter Tryz.func106,Tryz.ntmps106
   go_wp2_with (first | (go_at_call_of 144 (Value.int .i64 a);refine (aE a nodes _ _ (by go_simp)).mono ?_;rintro e w1 ⟨rfl,rfl⟩;rw [hA]) | (go_at_call_of 144 (Value.int .i64 b);refine (aE b nodes _ _ (by go_simp)).mono ?_;rintro e w1 ⟨rfl,rfl⟩;rw [hB]) | (go_at_call 145;refine (vh v m _ (by omega) (by refine World.grownBy.cell (w:=w) (row:=none) ?_ hml (by simp);repeat (first | exact ae _ _ | refine ag ?_ _ | refine au ?_ _))).mono ?_;intro e w2 hOf;obtain ⟨fv,rfl,f1,f2⟩:=hOf;have F1:=ab f1;have F2:=ab f2;clear f1 f2) | (go_at_call 146;refine (ph _ _ _ _ _ _ F1.out).mono ?_;rintro e w3 ⟨rfl,s2⟩;have S2:=ab (aa F2.out s2);have q1:=S2.out.cell (a:=⟨w.heap.size,3,none⟩) (v:=.int .i64 c) (by go_simp) (by simp);have q2:=S2.out.cell (a:=⟨w.heap.size,4,none⟩) (v:=.int .i64 d) (by go_simp) (by simp);have q3:=S2.out.cell (a:=⟨w.heap.size+1+1,4,none⟩) (v:=.bool false) (by go_simp) (by simp);have q4:=S2.out.cell (a:=⟨w.heap.size+1+1,2,none⟩) (v:=.bool true) (by go_simp) (by simp);rw [show kE (fm v.data.toList).1 (fm v.data.toList).2.1=sv from HSV.out.symm];clear s2))
   go_ret;exact ⟨rfl,aa (ag (ag (ag (ae _ _) _) _) _) S2.out⟩
def iQ (p:aO) (nodes:Int):Int:=if p.kind<1∨9<=p.kind then 3 else da p.kind.toNat p.a p.b p.c p.d p.v nodes
def ji (w:World):Prop:=fF w/\(∃ m:Int,w.cell? ⟨1,0,none⟩=some (.int .i64 m))/\1<w.heap.size
theorem ji.keep {w w':World} (h:ji w) (hg:w.grownBy w' none):ji w':=by
 obtain ⟨h1,⟨m,h2⟩,h3⟩:=h;exact ⟨h1.keep hg,⟨m,hg.cell h2 (by simp)⟩,Nat.lt_of_lt_of_le h3 hg.size⟩
theorem yr (z:Int) (a b c d:Int) (v:ByteArray) (nodes:Int) (w:World) (h:z<1∨9<=z) :
  Calls Tryz.prog 106 #[.agg #[.int .i64 z,.int .i64 a,.int .i64 b,.int .i64 c,.int .i64 d,.string v],.int .i64 nodes] w fun e w'=>e=.returned (.int .i64 3)/\w.grownBy w' none:=by
 by_cases h1:z<1
 ·clear h;go_enter Tryz.func106,Tryz.ntmps106
  go_wp2;go_ret;exact ⟨rfl,ag (ag (ae _ _) _) _⟩
 ·have h2:9<=z:=by omega
  clear h;go_enter Tryz.func106,Tryz.ntmps106
  go_wp2;go_ret;exact ⟨rfl,ag (ag (ae _ _) _) _⟩
theorem iV {P:Program} {f:Nat} {args:Array Value} {w:World} {x y:Int} {R:World->Prop} (h:Calls P f args w fun e w'=>e=.returned (.int .i64 x)/\R w') (e:x=y):Calls P f args w fun e w'=>e=.returned (.int .i64 y)/\R w':=by
 rw [<- e];exact h
theorem DN (p:aO) (nodes:Int) (w:World) (hb:ji w) (hz:p.v.size<=600000000) :
  Calls Tryz.prog 106 #[p.val,.int .i64 nodes] w fun e w'=>e=.returned (.int .i64 (iQ p nodes))/\w.grownBy w' none:=by
 obtain ⟨kind,a,b,c,d,v⟩:=p;unfold aO.val iQ;by_cases h:kind<1∨9<=kind
 ·simp only;rw [if_pos h];exact yr kind a b c d v nodes w h
 ·simp only;rw [if_neg h];obtain ⟨k,rfl⟩:∃ k:Nat,kind=k:=⟨kind.toNat,by omega⟩;rw [Int.toNat_natCast];have h1:1<=k:=by omega
  have h2:k<9:=by omega
  obtain ⟨hk,⟨m,hml⟩,hm1⟩:=hb;by_cases hn:(!(cJ a nodes) || !(cJ b nodes) || (ee k && !(cJ c nodes && cJ d nodes)))=true
  ·refine iV (wQ k a b c d v nodes w h1 h2 hk hn) ?_;unfold da;rw [if_pos hn]
  ·have hA:cJ a nodes=true:=by
    cases h:cJ a nodes with
    | true=>rfl
    | false=>rw [h] at hn;simp at hn
   have hB:cJ b nodes=true:=by
    cases h:cJ b nodes with
    | true=>rfl
    | false=>rw [h] at hn;simp at hn
   have hcd:(c != 0 || d != 0) = !(decide (c=0/\d=0)):=by
    by_cases hc:c=0<;>by_cases hd:d=0<;>simp [hc,hd]
   have hK:k=1∨k=2∨k=3∨k=4∨k=5∨k=6∨k=7∨k=8:=by omega
   by_cases hl:ee k=true
   ·rw [hA,hB,hl] at hn;have hC:cJ c nodes=true:=by
     cases h:cJ c nodes with
     | true=>rfl
     | false=>rw [h] at hn;simp at hn
    have hD:cJ d nodes=true:=by
     cases h:cJ d nodes with
     | true=>rfl
     | false=>rw [h] at hn;simp at hn
    have hv:cw k=true:=by rcases hK with rfl | rfl | rfl | rfl | rfl | rfl | rfl | rfl<;>first | rfl | (simp [ee] at hl)
    have ha:cE k=false:=by rcases hK with rfl | rfl | rfl | rfl | rfl | rfl | rfl | rfl<;>first | rfl | (simp [ee] at hl)
    refine iV (Bh k a b c d v nodes w h1 h2 hk hA hB hC hD hl hv ha) ?_;unfold da;simp [hA,hB,hC,hD,hl,hv,ha]
   ·have hl:ee k=false:=by simpa using hl
    by_cases hv:cw k=true
    ·by_cases ha:cE k=true
     ·refine iV (wO k a b c d v nodes w h1 h2 hk hA hB m hml hm1 hz hl hv ha) ?_;unfold da;simp only [hA,hB,hl,hv,ha,hcd];by_cases h3:iu v<=0<;>by_cases h4:c=0/\d=0<;>simp [h3,h4]
     ·have ha:cE k=false:=by simpa using ha
      refine iV (wR k a b c d v nodes w h1 h2 hk hA hB hl hv ha) ?_;unfold da;simp only [hA,hB,hl,hv,ha,hcd];by_cases h4:c=0/\d=0<;>simp [h4]
    ·have hv:cw k=false:=by simpa using hv
     have ha:cE k=false:=by rcases hK with rfl | rfl | rfl | rfl | rfl | rfl | rfl | rfl<;>first | rfl | (simp [cw] at hv)
     refine iV (wP k a b c d v nodes w h1 h2 hk hA hB hl hv ha) ?_;unfold da;simp only [hA,hB,hl,hv,ha,hcd];by_cases h4:c=0/\d=0
     ·by_cases h5:v.data.toList=[]
      ·simp [h4,h5]
      ·have h6:v.data.toList.isEmpty=false:=by
        cases hq:v.data.toList with
        | nil=>exact absurd hq h5
        | cons x y=>rfl
       simp [h4,h5,h6]
     ·rw [if_neg (fun e=>h4 ⟨e.1,e.2.1⟩)];simp [h4]
theorem xi (nodes:Int) (o:Option Addr) (l cap:Nat) (f:Value) (w:World) (h:nodes<1∨8<nodes∨16<l) :
  Calls Tryz.prog 104 #[.agg #[.int .i64 nodes,.slice o l cap],f] w fun e w'=>e=.returned (.agg #[.int .i64 2,.int .i64 0])/\w.grownBy w' none:=by
 by_cases h1:nodes<1
 ·clear h;go_enter Tryz.func104,Tryz.ntmps104
  go_wp2;exact bodyPost_ret (v:=.agg #[.int .i64 2,.int .i64 0]) (by simp [results,Tryz.results104,go_sem]) rfl ⟨rfl,ag (ag (ae _ _) _) _⟩
 ·by_cases h2:8<nodes
  ·clear h;go_enter Tryz.func104,Tryz.ntmps104
   go_wp2;exact bodyPost_ret (v:=.agg #[.int .i64 2,.int .i64 0]) (by simp [results,Tryz.results104,go_sem]) rfl ⟨rfl,ag (ag (ae _ _) _) _⟩
  ·have h3:16<l:=by omega
   have h1':decide (nodes<1)=false:=by simpa using h1
   have h2':decide (8<nodes)=false:=by simpa using h2
   clear h;go_enter Tryz.func104,Tryz.ntmps104
   go_wp2;exact bodyPost_ret (v:=.agg #[.int .i64 2,.int .i64 0]) (by simp [results,Tryz.results104,go_sem]) rfl ⟨rfl,ag (ag (ae _ _) _) _⟩
theorem lj {w W:World} {t:TypeId} {u v:Value} (h:(w.alloc (Obj.cells #[u,v] t)).grownBy W none) :
  W.cell? ⟨w.heap.size,0,none⟩=some u/\W.cell? ⟨w.heap.size,1,none⟩=some v/\(∀ i,W.frozen? ⟨w.heap.size,i,none⟩=false):=by
 have e:W.heap[w.heap.size]? = some (Obj.cells #[u,v] t (0,0)):=by
  rw [h.block w.heap.size (by simp) (by simp)];exact heap_alloc_new w _
 refine ⟨?_,?_,fun i=>?_⟩<;>simp [World.cell?,World.frozen?,e]
def aC (dio:Bool) (p:aO) (nodes:Int):Int:=if p.kind=8/\dio=false then 3 else iQ p nodes
def aA (dio:Bool) (nodes:Int):List aO->Nat->Int×Int
 | [],_=>(0,0)
 | p :: r,i=>if aC dio p nodes=0 then aA dio nodes r (i+1) else (aC dio p nodes,(i:Int))
def aQ (dio:Bool) (nodes:Int) (ps:List aO):Int×Int:=if nodes<1∨8<nodes∨16<ps.length then (2,0) else aA dio nodes ps 0
def sX (dio:Bool) (w:World) (nodes:Int) (ps:List aO) (e:Ending) (w':World):Prop:=e=.returned (.agg #[.int .i64 (aQ dio nodes ps).1,.int .i64 (aQ dio nodes ps).2])/\w.grownBy w' none
theorem DE (p:aO) (nodes:Int) (g:Nat) (w:World) (hb:ji w) (hz:p.v.size<=600000000) (hg:g<w.heap.size) (hc:w.cell? ⟨g,0,none⟩=some (.int .i64 nodes)) :
  Calls Tryz.prog 105 #[p.val,.pointer (some ⟨g,0,none⟩)] w fun e w'=>e=.returned (.int .i64 (aC false p nodes))/\w.grownBy w' none:=by
 have HB:=ab (hb.keep (World.grownBy_alloc w (Obj.cells #[.int .i64 p.kind,.int .i64 p.a,.int .i64 p.b,.int .i64 p.c,.int .i64 p.d,.string p.v] 47) none));have hW:=DN p nodes _ HB.out hz;have HW:=ab hW;unfold aO.val at HW;clear hb hW;unfold aO.val;by_cases h8:p.kind=8
 ·have e:aC false p nodes=3:=by unfold aC;rw [if_pos ⟨h8,rfl⟩]
  rw [e,h8];clear HW e h8;go_enter Tryz.func105,Tryz.ntmps105
  go_wp2;go_ret;exact ⟨rfl,ag (ae _ _) _⟩
 ·have e:aC false p nodes=iQ p nodes:=by unfold aC;rw [if_neg (fun h=>h8 h.1)]
  rw [e];have h8':(p.kind==8)=false:=by simpa using h8
  clear e h8;generalize iQ p nodes=r at HW ⊢;go_enter Tryz.func105,Tryz.ntmps105
  go_wp2_with fail;refine HW.out.mono ?_;rintro e w1 ⟨rfl,g1⟩;have G1:=ab g1;clear g1;go_wp2;go_ret;exact ⟨rfl,aa (ag (ae _ _) _) G1.out⟩
def ChkLR (W:World) (nodes:Int) (ps:List aO) (C:Int×Int) (iv:Value) (wr:World):Prop:=∃ i:Nat,i<=ps.length/\iv=.int .i64 i/\aA false nodes (ps.drop i) i=C/\W.grownBy wr none
theorem zO (nodes:Int) (pv:Value) (ps:List aO) (g:Nat) (w:World) (hb:ji w) (hp:aT w pv ps) (hg:g<w.heap.size) (hc:w.cell? ⟨g,0,none⟩=some (.int .i64 nodes)) :
  Calls Tryz.prog 104 #[.agg #[.int .i64 nodes,pv],.func (.func 105) #[] #[.pointer (some ⟨g,0,none⟩)]] w fun e w'=>sX false w nodes ps e w':=by
 obtain ⟨ao,cap,rfl,h1,h2,h3⟩:=hp;unfold maxLen at h2;by_cases hm:nodes<1∨8<nodes∨16<ps.length
 ·refine (xi nodes ao ps.length cap _ w hm).mono ?_;rintro e w' ⟨rfl,hw⟩;refine ⟨?_,hw⟩;unfold aQ;rw [if_pos hm]
 ·have hn1:decide (nodes<1)=false:=by simp;omega
  have hn2:decide (8<nodes)=false:=by simp;omega
  have hn3:decide ((16:Int)<(ps.length:Int))=false:=by simp;omega
  have hl16:ps.length<=16:=by omega
  have HP:=ab h3;have HBS:=ab hb;have HCG:=ab hc;obtain ⟨C,hC⟩:∃ C,aA false nodes ps 0=C:=⟨_,rfl⟩;have HCK:Hid (aQ false nodes ps=C):=by
   show _=_
   unfold aQ;rw [if_neg hm,hC]
  have HC0:=ab hC;clear h3 hb hc hm hC;go_enter Tryz.func104,Tryz.ntmps104
  go_wp2;obtain ⟨W,hW⟩:∃ W,W=(w.alloc (Obj.cells #[.int .i64 nodes,.slice ao ps.length cap] 24)).alloc (Obj.cells #[.int .i64 0,.int .i64 0] 32):=⟨_,rfl⟩;have gW:Hid (w.grownBy W none):=by rw [hW];exact ag (ag (ae _ _) _) _
  have rW:Hid (∀ wr:World,W.grownBy wr none->wr.cell? ⟨w.heap.size+1,0,none⟩=some (.int .i64 0)/\wr.cell? ⟨w.heap.size+1,1,none⟩=some (.int .i64 0)/\(∀ i,wr.frozen? ⟨w.heap.size+1,i,none⟩=false)):=by
   intro wr hg;rw [hW] at hg;have:=lj hg;simpa using this
  simp only [<- hW];clear hW;go_loopw [26] (fun iv wr=>Hid (ChkLR W nodes ps C iv wr)) (fun iv _=>ps.length-(intOf iv).toNat)
  case atStart=>exact ⟨0,by omega,rfl,HC0.out,ae _ _⟩
  case round =>
   obtain ⟨i,hi,rfl,hF,hgr⟩:=hrel.out;obtain ⟨r0,r1,rf⟩:=rW.out wr hgr;have rf0:=rf 0;have rf1:=rf 1;have HF:=ab hF;have HGR:=ab hgr;clear hF hgr rf hrel;by_cases hlt:i<ps.length
   ·obtain ⟨b,off,rfl,hb,c0,c1,c2,c3,c4,c5,c6⟩:=HP.out i hlt;have hgg:=(aa gW.out HGR.out);have q0:=hgg.cell c0 (by simp);have q1:=hgg.cell c1 (by simp);have q2:=hgg.cell c2 (by simp);have q3:=hgg.cell c3 (by simp);have q4:=hgg.cell c4 (by simp);have q5:=hgg.cell c5 (by simp);have hd:ps.drop i=ps[i] :: ps.drop (i+1):=List.drop_eq_getElem_cons hlt;have HD:=ab hd;have HGG:=ab hgg;generalize ps[i]=p at q0 q1 q2 q3 q4 q5 c6 HD;clear c0 c1 c2 c3 c4 c5 hd hgg;go_wp2_with fail;refine (DE p nodes g _ (HBS.out.keep (ag HGG.out _)) c6 (by have:=HGG.out.size;simp;omega) ((ag HGG.out _).cell HCG.out (by simp))).mono ?_;rintro e w1 ⟨rfl,g1⟩;have G1:=ab (aa (ag HGR.out _) g1);obtain ⟨t0,t1,tf⟩:=rW.out w1 G1.out;have tf0:=tf 0;have tf1:=tf 1;clear tf g1 HP;by_cases hz:aC false p nodes=0
    ·rw [hz];have HZ:=ab hz;clear hz;go_wp2;go_roundw
     case rel =>
      refine ⟨i+1,by omega,by go_num,?_,G1.out⟩;have:=HF.out;rw [HD.out,aA,if_pos HZ.out] at this;exact this
     case measure=>simp [intOf];omega
    ·obtain ⟨r,hr⟩:∃ r,r=aC false p nodes:=⟨_,rfl⟩;rw [<- hr];rw [<- hr] at hz;have hz':=ma hz;have HR:=ab hr;have HZ:=ab hz;clear hz hr;go_wp2;refine bodyPost_ret (v:=.agg #[.int .i64 r,.int .i64 (i:Nat)]) (by simp [results,Tryz.results104,go_sem,t0,t1]) rfl ?_;have hf:=HF.out;rw [HD.out,aA,if_neg (by rw [<- HR.out];exact HZ.out),<- HR.out] at hf;refine ⟨?_,?_⟩
     ·rw [HCK.out,<- hf]
     ·exact ah (ah (aa gW.out G1.out) _ _ (by simp)) _ _ (by simp)
   ·have hdn:ps.drop i=[]:=List.drop_of_length_le (by omega);have HDN:=ab hdn;clear hdn HP;go_wp2;refine bodyPost_ret (v:=.agg #[.int .i64 0,.int .i64 0]) (by simp [results,Tryz.results104,go_sem,r0,r1]) rfl ?_;have hf:=HF.out;rw [HDN.out,aA] at hf;refine ⟨?_,?_⟩
    ·rw [HCK.out,<- hf]
    ·exact ah (ah (aa gW.out HGR.out) _ _ (by simp)) _ _ (by simp)
theorem rF (nodes:Int) (pv:Value) (ps:List aO) (w:World) (hb:ji w) (hp:aT w pv ps) :
  Calls Tryz.prog 56 #[.agg #[.int .i64 nodes,pv]] w fun e w'=>sX false w nodes ps e w':=by
 have HB:=ab hb;have HP:=ab hp;obtain ⟨ao,cap,rfl,h1,h2,h3⟩:=hp;clear h3 hb h2;go_enter Tryz.func56,Tryz.ntmps56
 go_wp2_with fail;have gW:w.grownBy ((w.alloc (Obj.cells #[.int .i64 nodes,.slice ao ps.length cap] 24)).alloc (Obj.cells #[.int .i64 0,.int .i64 0] 32)) none:=ag (ag (ae _ _) _) _;have GW:=ab gW;clear gW;refine (zO nodes _ ps w.heap.size _ (HB.out.keep GW.out) (HP.out.keep GW.out) (by simp;omega) (by go_simp)).mono ?_;intro e w1 hE;obtain ⟨rfl,g1⟩:=hE;have HG:=ab g1;have hrr:w1.cell? ⟨w.heap.size+1,0,none⟩=some (.int .i64 0)/\w1.cell? ⟨w.heap.size+1,1,none⟩=some (.int .i64 0)/\(∀ i,w1.frozen? ⟨w.heap.size+1,i,none⟩=false):=by
  have:=lj g1;simpa using this
 obtain ⟨r0,r1,rf⟩:=hrr;have rf0:=rf 0;have rf1:=rf 1;obtain ⟨C,hC⟩:∃ C,C=aQ false nodes ps:=⟨_,rfl⟩;rw [<- hC];obtain ⟨C1,C2⟩:=C;have HC:=ab hC;clear rf g1 hC;go_wp2;refine bodyPost_ret (v:=.agg #[.int .i64 C1,.int .i64 C2]) (by simp [results,Tryz.results56,go_sem,r0,r1]) rfl ?_;refine ⟨?_,?_⟩
 ·rw [<- HC.out]
 ·exact ah (ah (aa GW.out HG.out) _ _ (by simp)) _ _ (by simp)
end Go.Proofs.YtcoeancbjafooaaGreatDoor
