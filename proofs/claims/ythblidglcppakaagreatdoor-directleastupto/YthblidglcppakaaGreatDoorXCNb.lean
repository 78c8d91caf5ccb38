/- Contracts that the proof leans on. -/
import Derived.Test.YthblidglcppakaaGreatDoorXCNa
namespace Go.Proofs.YthblidglcppakaaGreatDoor
open Go.RowKit
set_option linter.unusedVariables false
set_option linter.unusedSimpArgs false
set_option maxHeartbeats 8000000
set_option maxRecDepth 10000
theorem iD {c:Int} (h:c≠0):(c != 0)=true:=by simpa using h
theorem AI (k:Nat) (a b c d:Int) (v:ByteArray) (nodes:Int) (w:World) (h1:1<=k) (h2:k<9) (hk:fH w) (hA:fL a nodes=true) (hB:fL b nodes=true) (hC:fL c nodes=true) (hD:fL d nodes=true) (hl:jJ k=true) (hv:eZ k=true) (ha:fC k=false) :
  Calls Tryz.prog 76 #[.agg #[.int .i64 (k:Nat),.int .i64 a,.int .i64 b,.int .i64 c,.int .i64 d,.string v],.int .i64 nodes] w fun e w'=>e=.returned (.int .i64 (0))/\w.grownBy w' none:=by
 obtain ⟨hk0,hk1⟩:=hk;obtain ⟨s,u,c0,c1,c2,c3,c4⟩:=hk1 k h1 (by omega);have gK:w.grownBy ((w.alloc (Obj.cells #[.int .i64 (k:Nat),.int .i64 a,.int .i64 b,.int .i64 c,.int .i64 d,.string v] 34)).alloc (Obj.cells #[.int .i64 nodes] 3)) none:=ag (ag (ae _ _) _) _;have k0:=gK.cell c0 (by simp);have k1:=gK.cell c1 (by simp);have k2:=gK.cell c2 (by simp);have k3:=gK.cell c3 (by simp);have k4:=gK.cell c4 (by simp);clear gK;clear hk1;rw [hl] at c4 k4;rw [hv] at c2 k2;rw [ha] at c3 k3;clear hl hv ha;go_enter Tryz.func76,Tryz.ntmps76
 go_wp2_with (first | (go_at_call_of 96 (Value.int .i64 a);refine (aC a nodes _ _ (by go_simp)).mono ?_;rintro e w1 ⟨rfl,rfl⟩;rw [hA]) | (go_at_call_of 96 (Value.int .i64 b);refine (aC b nodes _ _ (by go_simp)).mono ?_;rintro e w1 ⟨rfl,rfl⟩;rw [hB]) | (go_at_call_of 96 (Value.int .i64 c);refine (aC c nodes _ _ (by go_simp)).mono ?_;rintro e w1 ⟨rfl,rfl⟩;rw [hC]) | (go_at_call_of 96 (Value.int .i64 d);refine (aC d nodes _ _ (by go_simp)).mono ?_;rintro e w1 ⟨rfl,rfl⟩;rw [hD]))
 go_ret;exact ⟨rfl,ag (ag (ag (ae _ _) _) _) _⟩
theorem vQ (k:Nat) (a b c d:Int) (v:ByteArray) (nodes:Int) (w:World) (h1:1<=k) (h2:k<9) (hk:fH w) (hA:fL a nodes=true) (hB:fL b nodes=true) (hl:jJ k=false) (hv:eZ k=true) (ha:fC k=false) :
  Calls Tryz.prog 76 #[.agg #[.int .i64 (k:Nat),.int .i64 a,.int .i64 b,.int .i64 c,.int .i64 d,.string v],.int .i64 nodes] w fun e w'=>e=.returned (.int .i64 (if c=0/\d=0 then 0 else 6))/\w.grownBy w' none:=by
 obtain ⟨hk0,hk1⟩:=hk;obtain ⟨s,u,c0,c1,c2,c3,c4⟩:=hk1 k h1 (by omega);have gK:w.grownBy ((w.alloc (Obj.cells #[.int .i64 (k:Nat),.int .i64 a,.int .i64 b,.int .i64 c,.int .i64 d,.string v] 34)).alloc (Obj.cells #[.int .i64 nodes] 3)) none:=ag (ag (ae _ _) _) _;have k0:=gK.cell c0 (by simp);have k1:=gK.cell c1 (by simp);have k2:=gK.cell c2 (by simp);have k3:=gK.cell c3 (by simp);have k4:=gK.cell c4 (by simp);clear gK;clear hk1;rw [hl] at c4 k4;rw [hv] at c2 k2;rw [ha] at c3 k3;clear hl hv ha;by_cases hc:c=0
 ·by_cases hd:d=0
  ·rw [if_pos ⟨hc,hd⟩];subst hc hd;go_enter Tryz.func76,Tryz.ntmps76
   go_wp2_with (first | (go_at_call_of 96 (Value.int .i64 a);refine (aC a nodes _ _ (by go_simp)).mono ?_;rintro e w1 ⟨rfl,rfl⟩;rw [hA]) | (go_at_call_of 96 (Value.int .i64 b);refine (aC b nodes _ _ (by go_simp)).mono ?_;rintro e w1 ⟨rfl,rfl⟩;rw [hB]))
   go_ret;exact ⟨rfl,ag (ag (ag (ae _ _) _) _) _⟩
  ·rw [if_neg (fun e=>hd e.2)];have hd':=iD hd;subst hc;go_enter Tryz.func76,Tryz.ntmps76
   go_wp2_with (first | (go_at_call_of 96 (Value.int .i64 a);refine (aC a nodes _ _ (by go_simp)).mono ?_;rintro e w1 ⟨rfl,rfl⟩;rw [hA]) | (go_at_call_of 96 (Value.int .i64 b);refine (aC b nodes _ _ (by go_simp)).mono ?_;rintro e w1 ⟨rfl,rfl⟩;rw [hB]))
   go_ret;exact ⟨rfl,ag (ag (ag (ae _ _) _) _) _⟩
 ·rw [if_neg (fun e=>hc e.1)];have hc':=iD hc;go_enter Tryz.func76,Tryz.ntmps76
  go_wp2_with (first | (go_at_call_of 96 (Value.int .i64 a);refine (aC a nodes _ _ (by go_simp)).mono ?_;rintro e w1 ⟨rfl,rfl⟩;rw [hA]) | (go_at_call_of 96 (Value.int .i64 b);refine (aC b nodes _ _ (by go_simp)).mono ?_;rintro e w1 ⟨rfl,rfl⟩;rw [hB]))
  go_ret;exact ⟨rfl,ag (ag (ag (ae _ _) _) _) _⟩
theorem vO (k:Nat) (a b c d:Int) (v:ByteArray) (nodes:Int) (w:World) (h1:1<=k) (h2:k<9) (hk:fH w) (hA:fL a nodes=true) (hB:fL b nodes=true) (hl:jJ k=false) (hv:eZ k=false) (ha:fC k=false) :
  Calls Tryz.prog 76 #[.agg #[.int .i64 (k:Nat),.int .i64 a,.int .i64 b,.int .i64 c,.int .i64 d,.string v],.int .i64 nodes] w fun e w'=>e=.returned (.int .i64 (if c=0/\d=0/\v.data.toList=[] then 0 else 6))/\w.grownBy w' none:=by
 obtain ⟨hk0,hk1⟩:=hk;obtain ⟨s,u,c0,c1,c2,c3,c4⟩:=hk1 k h1 (by omega);have gK:w.grownBy ((w.alloc (Obj.cells #[.int .i64 (k:Nat),.int .i64 a,.int .i64 b,.int .i64 c,.int .i64 d,.string v] 34)).alloc (Obj.cells #[.int .i64 nodes] 3)) none:=ag (ag (ae _ _) _) _;have k0:=gK.cell c0 (by simp);have k1:=gK.cell c1 (by simp);have k2:=gK.cell c2 (by simp);have k3:=gK.cell c3 (by simp);have k4:=gK.cell c4 (by simp);clear gK;clear hk1;rw [hl] at c4 k4;rw [hv] at c2 k2;rw [ha] at c3 k3;clear hl hv ha;by_cases hc:c=0
 ·by_cases hd:d=0
  ·by_cases he:v.data.toList=[]
   ·rw [if_pos ⟨hc,hd,he⟩];subst hc hd;have he':v.toList=[]:=by rw [ByteArray.toList_eq];exact he
    clear he;go_enter Tryz.func76,Tryz.ntmps76
    go_wp2_with (first | (go_at_call_of 96 (Value.int .i64 a);refine (aC a nodes _ _ (by go_simp)).mono ?_;rintro e w1 ⟨rfl,rfl⟩;rw [hA]) | (go_at_call_of 96 (Value.int .i64 b);refine (aC b nodes _ _ (by go_simp)).mono ?_;rintro e w1 ⟨rfl,rfl⟩;rw [hB]))
    go_ret;exact ⟨rfl,ag (ag (ag (ae _ _) _) _) _⟩
   ·rw [if_neg (fun e=>he e.2.2)];subst hc hd;have he':v.toList.isEmpty=false:=by
     rw [ByteArray.toList_eq];cases hl:v.data.toList with
     | nil=>exact absurd hl he
     | cons x y=>rfl
    clear he;go_enter Tryz.func76,Tryz.ntmps76
    go_wp2_with (first | (go_at_call_of 96 (Value.int .i64 a);refine (aC a nodes _ _ (by go_simp)).mono ?_;rintro e w1 ⟨rfl,rfl⟩;rw [hA]) | (go_at_call_of 96 (Value.int .i64 b);refine (aC b nodes _ _ (by go_simp)).mono ?_;rintro e w1 ⟨rfl,rfl⟩;rw [hB]))
    go_ret;exact ⟨rfl,ag (ag (ag (ae _ _) _) _) _⟩
  ·rw [if_neg (fun e=>hd e.2.1)];have hd':=iD hd;subst hc;go_enter Tryz.func76,Tryz.ntmps76
   go_wp2_with (first | (go_at_call_of 96 (Value.int .i64 a);refine (aC a nodes _ _ (by go_simp)).mono ?_;rintro e w1 ⟨rfl,rfl⟩;rw [hA]) | (go_at_call_of 96 (Value.int .i64 b);refine (aC b nodes _ _ (by go_simp)).mono ?_;rintro e w1 ⟨rfl,rfl⟩;rw [hB]))
   go_ret;exact ⟨rfl,ag (ag (ag (ae _ _) _) _) _⟩
 ·rw [if_neg (fun e=>hc e.1)];have hc':=iD hc;go_enter Tryz.func76,Tryz.ntmps76
  go_wp2_with (first | (go_at_call_of 96 (Value.int .i64 a);refine (aC a nodes _ _ (by go_simp)).mono ?_;rintro e w1 ⟨rfl,rfl⟩;rw [hA]) | (go_at_call_of 96 (Value.int .i64 b);refine (aC b nodes _ _ (by go_simp)).mono ?_;rintro e w1 ⟨rfl,rfl⟩;rw [hB]))
  go_ret;exact ⟨rfl,ag (ag (ag (ae _ _) _) _) _⟩
theorem vM (k:Nat) (a b c d:Int) (v:ByteArray) (nodes:Int) (w:World) (h1:1<=k) (h2:k<9) (hk:fH w) (hA:fL a nodes=true) (hB:fL b nodes=true) (m:Int) (hml:w.cell? ⟨1,0,none⟩=some (.int .i64 m)) (hm1:1<w.heap.size) (hz:v.size<=600000000) (hl:jJ k=false) (hv:eZ k=true) (ha:fC k=true) :
  Calls Tryz.prog 76 #[.agg #[.int .i64 (k:Nat),.int .i64 a,.int .i64 b,.int .i64 c,.int .i64 d,.string v],.int .i64 nodes] w fun e w'=>e=.returned (.int .i64 (if pR v<=0 then 5 else if c=0/\d=0 then 0 else 6))/\w.grownBy w' none:=by
 obtain ⟨hk0,hk1⟩:=hk;obtain ⟨s,u,c0,c1,c2,c3,c4⟩:=hk1 k h1 (by omega);have gK:w.grownBy ((w.alloc (Obj.cells #[.int .i64 (k:Nat),.int .i64 a,.int .i64 b,.int .i64 c,.int .i64 d,.string v] 34)).alloc (Obj.cells #[.int .i64 nodes] 3)) none:=ag (ag (ae _ _) _) _;have k0:=gK.cell c0 (by simp);have k1:=gK.cell c1 (by simp);have k2:=gK.cell c2 (by simp);have k3:=gK.cell c3 (by simp);have k4:=gK.cell c4 (by simp);clear gK;clear hk1;rw [hl] at c4 k4;rw [hv] at c2 k2;rw [ha] at c3 k3;obtain ⟨sv,hsv⟩:∃ z,z=pR v:=⟨_,rfl⟩;rw [<- hsv];have HSV:=ab hsv;clear hl hv ha hsv;by_cases hs:sv<=0
 ·rw [if_pos hs];go_enter Tryz.func76,Tryz.ntmps76
  go_wp2_with (first | (go_at_call_of 96 (Value.int .i64 a);refine (aC a nodes _ _ (by go_simp)).mono ?_;rintro e w1 ⟨rfl,rfl⟩;rw [hA]) | (go_at_call_of 96 (Value.int .i64 b);refine (aC b nodes _ _ (by go_simp)).mono ?_;rintro e w1 ⟨rfl,rfl⟩;rw [hB]) | (go_at_call 97;refine (uC v m _ (by omega) (by refine World.grownBy.cell (w:=w) (row:=none) ?_ hml (by simp);repeat (first | exact ae _ _ | refine ag ?_ _ | refine ar ?_ _))).mono ?_;intro e w2 hOf;obtain ⟨fv,rfl,f1,f2⟩:=hOf;have F1:=ab f1;have F2:=ab f2;clear f1 f2) | (go_at_call 98;refine (ow _ _ _ _ _ _ F1.out).mono ?_;rintro e w3 ⟨rfl,s2⟩;have S2:=ab (aa F2.out s2);have q1:=S2.out.cell (a:=⟨w.heap.size,3,none⟩) (v:=.int .i64 c) (by go_simp) (by simp);have q2:=S2.out.cell (a:=⟨w.heap.size,4,none⟩) (v:=.int .i64 d) (by go_simp) (by simp);have q3:=S2.out.cell (a:=⟨w.heap.size+1+1,4,none⟩) (v:=.bool false) (by go_simp) (by simp);have q4:=S2.out.cell (a:=⟨w.heap.size+1+1,2,none⟩) (v:=.bool true) (by go_simp) (by simp);rw [show mj (im v.data.toList).1 (im v.data.toList).2.1=sv from HSV.out.symm];clear s2))
  go_ret;exact ⟨rfl,aa (ag (ag (ag (ae _ _) _) _) _) S2.out⟩
 ·rw [if_neg hs];by_cases hc:c=0
  ·by_cases hd:d=0
   ·rw [if_pos ⟨hc,hd⟩];subst hc hd;go_enter Tryz.func76,Tryz.ntmps76
    go_wp2_with (first | (go_at_call_of 96 (Value.int .i64 a);refine (aC a nodes _ _ (by go_simp)).mono ?_;rintro e w1 ⟨rfl,rfl⟩;rw [hA]) | (go_at_call_of 96 (Value.int .i64 b);refine (aC b nodes _ _ (by go_simp)).mono ?_;rintro e w1 ⟨rfl,rfl⟩;rw [hB]) | (go_at_call 97;refine (uC v m _ (by omega) (by refine World.grownBy.cell (w:=w) (row:=none) ?_ hml (by simp);repeat (first | exact ae _ _ | refine ag ?_ _ | refine ar ?_ _))).mono ?_;intro e w2 hOf;obtain ⟨fv,rfl,f1,f2⟩:=hOf;have F1:=ab f1;have F2:=ab f2;clear f1 f2) | (go_at_call 98;refine (ow _ _ _ _ _ _ F1.out).mono ?_;rintro e w3 ⟨rfl,s2⟩;have S2:=ab (aa F2.out s2);have q1:=S2.out.cell (a:=⟨w.heap.size,3,none⟩) (v:=.int .i64 0) (by go_simp) (by simp);have q2:=S2.out.cell (a:=⟨w.heap.size,4,none⟩) (v:=.int .i64 0) (by go_simp) (by simp);have q3:=S2.out.cell (a:=⟨w.heap.size+1+1,4,none⟩) (v:=.bool false) (by go_simp) (by simp);have q4:=S2.out.cell (a:=⟨w.heap.size+1+1,2,none⟩) (v:=.bool true) (by go_simp) (by simp);rw [show mj (im v.data.toList).1 (im v.data.toList).2.1=sv from HSV.out.symm];clear s2))
    go_ret;exact ⟨rfl,aa (ag (ag (ag (ae _ _) _) _) _) S2.out⟩
   ·rw [if_neg (fun e=>hd e.2)];have hd':=iD hd;subst hc;go_enter Tryz.func76,Tryz.ntmps76
    go_wp2_with (first | (go_at_call_of 96 (Value.int .i64 a);refine (aC a nodes _ _ (by go_simp)).mono ?_;rintro e w1 ⟨rfl,rfl⟩;rw [hA]) | (go_at_call_of 96 (Value.int .i64 b);refine (aC b nodes _ _ (by go_simp)).mono ?_;rintro e w1 ⟨rfl,rfl⟩;rw [hB]) | (go_at_call 97;refine (uC v m _ (by omega) (by refine World.grownBy.cell (w:=w) (row:=none) ?_ hml (by simp);repeat (first | exact ae _ _ | refine ag ?_ _ | refine ar ?_ _))).mono ?_;intro e w2 hOf;obtain ⟨fv,rfl,f1,f2⟩:=hOf;have F1:=ab f1;have F2:=ab f2;clear f1 f2) | (go_at_call 98;refine (ow _ _ _ _ _ _ F1.out).mono ?_;rintro e w3 ⟨rfl,s2⟩;have S2:=ab (aa F2.out s2);have q1:=S2.out.cell (a:=⟨w.heap.size,3,none⟩) (v:=.int .i64 0) (by go_simp) (by simp);have q2:=S2.out.cell (a:=⟨w.heap.size,4,none⟩) (v:=.int .i64 d) (by go_simp) (by simp);have q3:=S2.out.cell (a:=⟨w.heap.size+1+1,4,none⟩) (v:=.bool false) (by go_simp) (by simp);have q4:=S2.out.cell (a:=⟨w.heap.size+1+1,2,none⟩) (v:=.bool true) (by go_simp) (by simp);rw [show mj (im v.data.toList).1 (im v.data.toList).2.1=sv from HSV.out.symm];clear s2))
    go_ret;exact ⟨rfl,aa (ag (ag (ag (ae _ _) _) _) _) S2.out⟩
  ·rw [if_neg (fun e=>hc e.1)];have hc':=iD hc;go_enter Tryz.func76,Tryz.ntmps76
   go_wp2_with (first | (go_at_call_of 96 (Value.int .i64 a);refine (aC a nodes _ _ (by go_simp)).mono ?_;rintro e w1 ⟨rfl,rfl⟩;rw [hA]) | (go_at_call_of 96 (Value.int .i64 b);refine (aC b nodes _ _ (by go_simp)).mono ?_;rintro e w1 ⟨rfl,rfl⟩;rw [hB]) | (go_at_call 97;refine (uC v m _ (by omega) (by refine World.grownBy.cell (w:=w) (row:=none) ?_ hml (by simp);repeat (first | exact ae _ _ | refine ag ?_ _ | refine ar ?_ _))).mono ?_;intro e w2 hOf;obtain ⟨fv,rfl,f1,f2⟩:=hOf;have F1:=ab f1;have F2:=ab f2;clear f1 f2) | (go_at_call 98;refine (ow _ _ _ _ _ _ F1.out).mono ?_;rintro e w3 ⟨rfl,s2⟩;have S2:=ab (aa F2.out s2);have q1:=S2.out.cell (a:=⟨w.heap.size,3,none⟩) (v:=.int .i64 c) (by go_simp) (by simp);have q2:=S2.out.cell (a:=⟨w.heap.size,4,none⟩) (v:=.int .i64 d) (by go_simp) (by simp);have q3:=S2.out.cell (a:=⟨w.heap.size+1+1,4,none⟩) (v:=.bool false) (by go_simp) (by simp);have q4:=S2.out.cell (a:=⟨w.heap.size+1+1,2,none⟩) (v:=.bool true) (by go_simp) (by simp);rw [show mj (im v.data.toList).1 (im v.data.toList).2.1=sv from HSV.out.symm];clear s2))
   go_ret;exact ⟨rfl,aa (ag (ag (ag (ae _ _) _) _) _) S2.out⟩
def di (p:aI) (nodes:Int):Int:=if p.kind<1∨9<=p.kind then 3 else ks p.kind.toNat p.a p.b p.c p.d p.v nodes
def ia (w:World):Prop:=fH w/\(∃ m:Int,w.cell? ⟨1,0,none⟩=some (.int .i64 m))/\1<w.heap.size
theorem ia.keep {w w':World} (h:ia w) (hg:w.grownBy w' none):ia w':=by
 obtain ⟨h1,⟨m,h2⟩,h3⟩:=h;exact ⟨h1.keep hg,⟨m,hg.cell h2 (by simp)⟩,Nat.lt_of_lt_of_le h3 hg.size⟩
theorem xJ (z:Int) (a b c d:Int) (v:ByteArray) (nodes:Int) (w:World) (h:z<1∨9<=z) :
  Calls Tryz.prog 76 #[.agg #[.int .i64 z,.int .i64 a,.int .i64 b,.int .i64 c,.int .i64 d,.string v],.int .i64 nodes] w fun e w'=>e=.returned (.int .i64 3)/\w.grownBy w' none:=by
 by_cases h1:z<1
 ·clear h;go_enter Tryz.func76,Tryz.ntmps76
  go_wp2;go_ret;exact ⟨rfl,ag (ag (ae _ _) _) _⟩
 ·have h2:9<=z:=by omega
  clear h;go_enter Tryz.func76,Tryz.ntmps76
  go_wp2;go_ret;exact ⟨rfl,ag (ag (ae _ _) _) _⟩
theorem iN {P:Program} {f:Nat} {args:Array Value} {w:World} {x y:Int} {R:World->Prop} (h:Calls P f args w fun e w'=>e=.returned (.int .i64 x)/\R w') (e:x=y):Calls P f args w fun e w'=>e=.returned (.int .i64 y)/\R w':=by
 rw [<- e];exact h
theorem vN (p:aI) (nodes:Int) (w:World) (hb:ia w) (hz:p.v.size<=600000000) :
  Calls Tryz.prog 76 #[p.val,.int .i64 nodes] w fun e w'=>e=.returned (.int .i64 (di p nodes))/\w.grownBy w' none:=by
 obtain ⟨kind,a,b,c,d,v⟩:=p;unfold aI.val di;by_cases h:kind<1∨9<=kind
 ·simp only;rw [if_pos h];exact xJ kind a b c d v nodes w h
 ·simp only;rw [if_neg h];obtain ⟨k,rfl⟩:∃ k:Nat,kind=k:=⟨kind.toNat,by omega⟩;rw [Int.toNat_natCast];have h1:1<=k:=by omega
  have h2:k<9:=by omega
  obtain ⟨hk,⟨m,hml⟩,hm1⟩:=hb;by_cases hn:(!(fL a nodes) || !(fL b nodes) || (jJ k && !(fL c nodes && fL d nodes)))=true
  ·refine iN (vP k a b c d v nodes w h1 h2 hk hn) ?_;unfold ks;rw [if_pos hn]
  ·have hA:fL a nodes=true:=by
    cases h:fL a nodes with
    | true=>rfl
    | false=>rw [h] at hn;simp at hn
   have hB:fL b nodes=true:=by
    cases h:fL b nodes with
    | true=>rfl
    | false=>rw [h] at hn;simp at hn
   have hcd:(c != 0 || d != 0) = !(decide (c=0/\d=0)):=by
    by_cases hc:c=0<;>by_cases hd:d=0<;>simp [hc,hd]
   have hK:k=1∨k=2∨k=3∨k=4∨k=5∨k=6∨k=7∨k=8:=by omega
   by_cases hl:jJ k=true
   ·rw [hA,hB,hl] at hn;have hC:fL c nodes=true:=by
     cases h:fL c nodes with
     | true=>rfl
     | false=>rw [h] at hn;simp at hn
    have hD:fL d nodes=true:=by
     cases h:fL d nodes with
     | true=>rfl
     | false=>rw [h] at hn;simp at hn
    have hv:eZ k=true:=by rcases hK with rfl | rfl | rfl | rfl | rfl | rfl | rfl | rfl<;>first | rfl | (simp [jJ] at hl)
    have ha:fC k=false:=by rcases hK with rfl | rfl | rfl | rfl | rfl | rfl | rfl | rfl<;>first | rfl | (simp [jJ] at hl)
    refine iN (AI k a b c d v nodes w h1 h2 hk hA hB hC hD hl hv ha) ?_;unfold ks;simp [hA,hB,hC,hD,hl,hv,ha]
   ·have hl:jJ k=false:=by simpa using hl
    by_cases hv:eZ k=true
    ·by_cases ha:fC k=true
     ·refine iN (vM k a b c d v nodes w h1 h2 hk hA hB m hml hm1 hz hl hv ha) ?_;unfold ks;simp only [hA,hB,hl,hv,ha,hcd];by_cases h3:pR v<=0<;>by_cases h4:c=0/\d=0<;>simp [h3,h4]
     ·have ha:fC k=false:=by simpa using ha
      refine iN (vQ k a b c d v nodes w h1 h2 hk hA hB hl hv ha) ?_;unfold ks;simp only [hA,hB,hl,hv,ha,hcd];by_cases h4:c=0/\d=0<;>simp [h4]
    ·have hv:eZ k=false:=by simpa using hv
     have ha:fC k=false:=by rcases hK with rfl | rfl | rfl | rfl | rfl | rfl | rfl | rfl<;>first | rfl | (simp [eZ] at hv)
     refine iN (vO k a b c d v nodes w h1 h2 hk hA hB hl hv ha) ?_;unfold ks;simp only [hA,hB,hl,hv,ha,hcd];by_cases h4:c=0/\d=0
     ·by_cases h5:v.data.toList=[]
      ·simp [h4,h5]
      ·have h6:v.data.toList.isEmpty=false:=by
        cases hq:v.data.toList with
        | nil=>exact absurd hq h5
        | cons x y=>rfl
       simp [h4,h5,h6]
     ·rw [if_neg (fun e=>h4 ⟨e.1,e.2.1⟩)];simp [h4]
theorem told_at (p:aI) (nodes:Int) (g:Nat) (w:World) (hb:ia w) (hz:p.v.size<=600000000) (hg:g<w.heap.size) (hc:w.cell? ⟨g,0,none⟩=some (.int .i64 nodes)) :
  Calls Tryz.prog 83 #[p.val,.pointer (some ⟨g,0,none⟩)] w fun e w'=>e=.returned (.int .i64 (di p nodes))/\w.grownBy w' none:=by
 have HB:=ab (hb.keep (World.grownBy_alloc w (Obj.cells #[.int .i64 p.kind,.int .i64 p.a,.int .i64 p.b,.int .i64 p.c,.int .i64 p.d,.string p.v] 34) none));have hW:=vN p nodes _ HB.out hz;have HW:=ab hW;unfold aI.val at HW;clear hb hW;unfold aI.val;generalize di p nodes=r at HW ⊢;go_enter Tryz.func83,Tryz.ntmps83
 go_wp2_with fail;refine HW.out.mono ?_;rintro e w1 ⟨rfl,g1⟩;have G1:=ab g1;clear g1;go_wp2;go_ret;exact ⟨rfl,aa (ag (ae _ _) _) G1.out⟩
def cd (nodes:Int):List aI->Nat->Int×Int
 | [],_=>(0,0)
 | p :: r,i=>if di p nodes=0 then cd nodes r (i+1) else (di p nodes,(i:Int))
def bV (nodes:Int) (ps:List aI):Int×Int:=if nodes<1∨8<nodes∨16<ps.length then (2,0) else cd nodes ps 0
def AM (w:World) (nodes:Int) (ps:List aI) (e:Ending) (w':World):Prop:=e=.returned (.agg #[.int .i64 (bV nodes ps).1,.int .i64 (bV nodes ps).2])/\w.grownBy w' none
theorem oO (nodes:Int) (o:Option Addr) (l cap:Nat) (f:Value) (w:World) (h:nodes<1∨8<nodes∨16<l) :
  Calls Tryz.prog 74 #[.agg #[.int .i64 nodes,.slice o l cap],f] w fun e w'=>e=.returned (.agg #[.int .i64 2,.int .i64 0])/\w.grownBy w' none:=by
 by_cases h1:nodes<1
 ·clear h;go_enter Tryz.func74,Tryz.ntmps74
  go_wp2;exact bodyPost_ret (v:=.agg #[.int .i64 2,.int .i64 0]) (by simp [results,Tryz.results74,go_sem]) rfl ⟨rfl,ag (ag (ae _ _) _) _⟩
 ·by_cases h2:8<nodes
  ·clear h;go_enter Tryz.func74,Tryz.ntmps74
   go_wp2;exact bodyPost_ret (v:=.agg #[.int .i64 2,.int .i64 0]) (by simp [results,Tryz.results74,go_sem]) rfl ⟨rfl,ag (ag (ae _ _) _) _⟩
  ·have h3:16<l:=by omega
   have h1':decide (nodes<1)=false:=by simpa using h1
   have h2':decide (8<nodes)=false:=by simpa using h2
   clear h;go_enter Tryz.func74,Tryz.ntmps74
   go_wp2;exact bodyPost_ret (v:=.agg #[.int .i64 2,.int .i64 0]) (by simp [results,Tryz.results74,go_sem]) rfl ⟨rfl,ag (ag (ae _ _) _) _⟩
theorem gG {w W:World} {t:TypeId} {u v:Value} (h:(w.alloc (Obj.cells #[u,v] t)).grownBy W none) :
  W.cell? ⟨w.heap.size,0,none⟩=some u/\W.cell? ⟨w.heap.size,1,none⟩=some v/\(∀ i,W.frozen? ⟨w.heap.size,i,none⟩=false):=by
 have e:W.heap[w.heap.size]? = some (Obj.cells #[u,v] t (0,0)):=by
  rw [h.block w.heap.size (by simp) (by simp)];exact heap_alloc_new w _
 refine ⟨?_,?_,fun i=>?_⟩<;>simp [World.cell?,World.frozen?,e]
def NChkR (W:World) (nodes:Int) (ps:List aI) (C:Int×Int) (iv:Value) (wr:World):Prop:=∃ i:Nat,i<=ps.length/\iv=.int .i64 i/\cd nodes (ps.drop i) i=C/\W.grownBy wr none
theorem Bd (nodes:Int) (pv:Value) (ps:List aI) (g:Nat) (w:World) (hb:ia w) (hp:aK w pv ps) (hg:g<w.heap.size) (hc:w.cell? ⟨g,0,none⟩=some (.int .i64 nodes)) :
  Calls Tryz.prog 74 #[.agg #[.int .i64 nodes,pv],.func (.func 83) #[] #[.pointer (some ⟨g,0,none⟩)]] w fun e w'=>AM w nodes ps e w':=by
 obtain ⟨ao,cap,rfl,h1,h2,h3⟩:=hp;unfold maxLen at h2;by_cases hm:nodes<1∨8<nodes∨16<ps.length
 ·refine (oO nodes ao ps.length cap _ w hm).mono ?_;rintro e w' ⟨rfl,hw⟩;refine ⟨?_,hw⟩;unfold bV;rw [if_pos hm]
 ·have hn1:decide (nodes<1)=false:=by simp;omega
  have hn2:decide (8<nodes)=false:=by simp;omega
  have hn3:decide ((16:Int)<(ps.length:Int))=false:=by simp;omega
  have hl16:ps.length<=16:=by omega
  have HP:=ab h3;have HBS:=ab hb;have HCG:=ab hc;obtain ⟨C,hC⟩:∃ C,cd nodes ps 0=C:=⟨_,rfl⟩;have HCK:Hid (bV nodes ps=C):=by
   show _=_
   unfold bV;rw [if_neg hm,hC]
  have HC0:=ab hC;clear h3 hb hc hm hC;go_enter Tryz.func74,Tryz.ntmps74
  go_wp2;obtain ⟨W,hW⟩:∃ W,W=(w.alloc (Obj.cells #[.int .i64 nodes,.slice ao ps.length cap] 24)).alloc (Obj.cells #[.int .i64 0,.int .i64 0] 29):=⟨_,rfl⟩;have gW:Hid (w.grownBy W none):=by rw [hW];exact ag (ag (ae _ _) _) _
  have rW:Hid (∀ wr:World,W.grownBy wr none->wr.cell? ⟨w.heap.size+1,0,none⟩=some (.int .i64 0)/\wr.cell? ⟨w.heap.size+1,1,none⟩=some (.int .i64 0)/\(∀ i,wr.frozen? ⟨w.heap.size+1,i,none⟩=false)):=by
   intro wr hg;rw [hW] at hg;have:=gG hg;simpa using this
  simp only [<- hW];clear hW;go_loopw [26] (fun iv wr=>Hid (NChkR W nodes ps C iv wr)) (fun iv _=>ps.length-(intOf iv).toNat)
  case atStart=>exact ⟨0,by omega,rfl,HC0.out,ae _ _⟩
  case round =>
   obtain ⟨i,hi,rfl,hF,hgr⟩:=hrel.out;obtain ⟨r0,r1,rf⟩:=rW.out wr hgr;have rf0:=rf 0;have rf1:=rf 1;have HF:=ab hF;have HGR:=ab hgr;clear hF hgr rf hrel;by_cases hlt:i<ps.length
   ·obtain ⟨b,off,rfl,hb,c0,c1,c2,c3,c4,c5,c6⟩:=HP.out i hlt;have hgg:=(aa gW.out HGR.out);have q0:=hgg.cell c0 (by simp);have q1:=hgg.cell c1 (by simp);have q2:=hgg.cell c2 (by simp);have q3:=hgg.cell c3 (by simp);have q4:=hgg.cell c4 (by simp);have q5:=hgg.cell c5 (by simp);have hd:ps.drop i=ps[i] :: ps.drop (i+1):=List.drop_eq_getElem_cons hlt;have HD:=ab hd;have HGG:=ab hgg;generalize ps[i]=p at q0 q1 q2 q3 q4 q5 c6 HD;clear c0 c1 c2 c3 c4 c5 hd hgg;go_wp2_with fail;refine (told_at p nodes g _ (HBS.out.keep (ag HGG.out _)) c6 (by have:=HGG.out.size;simp;omega) ((ag HGG.out _).cell HCG.out (by simp))).mono ?_;rintro e w1 ⟨rfl,g1⟩;have G1:=ab (aa (ag HGR.out _) g1);obtain ⟨t0,t1,tf⟩:=rW.out w1 G1.out;have tf0:=tf 0;have tf1:=tf 1;clear tf g1 HP;by_cases hz:di p nodes=0
    ·rw [hz];have HZ:=ab hz;clear hz;go_wp2;go_roundw
     case rel =>
      refine ⟨i+1,by omega,by go_num,?_,G1.out⟩;have:=HF.out;rw [HD.out,cd,if_pos HZ.out] at this;exact this
     case measure=>simp [intOf];omega
    ·obtain ⟨r,hr⟩:∃ r,r=di p nodes:=⟨_,rfl⟩;rw [<- hr];rw [<- hr] at hz;have hz':=iD hz;have HR:=ab hr;have HZ:=ab hz;clear hz hr;go_wp2;refine bodyPost_ret (v:=.agg #[.int .i64 r,.int .i64 (i:Nat)]) (by simp [results,Tryz.results74,go_sem,t0,t1]) rfl ?_;have hf:=HF.out;rw [HD.out,cd,if_neg (by rw [<- HR.out];exact HZ.out),<- HR.out] at hf;refine ⟨?_,?_⟩
     ·rw [HCK.out,<- hf]
     ·exact ai (ai (aa gW.out G1.out) _ _ (by simp)) _ _ (by simp)
   ·have hdn:ps.drop i=[]:=List.drop_of_length_le (by omega);have HDN:=ab hdn;clear hdn HP;go_wp2;refine bodyPost_ret (v:=.agg #[.int .i64 0,.int .i64 0]) (by simp [results,Tryz.results74,go_sem,r0,r1]) rfl ?_;have hf:=HF.out;rw [HDN.out,cd] at hf;refine ⟨?_,?_⟩
    ·rw [HCK.out,<- hf]
    ·exact ai (ai (aa gW.out HGR.out) _ _ (by simp)) _ _ (by simp)
theorem sY (nodes:Int) (pv:Value) (ps:List aI) (w:World) (hb:ia w) (hp:aK w pv ps) :
  Calls Tryz.prog 47 #[.agg #[.int .i64 nodes,pv]] w fun e w'=>AM w nodes ps e w':=by
 have HB:=ab hb;have HP:=ab hp;obtain ⟨ao,cap,rfl,h1,h2,h3⟩:=hp;clear h3 hb h2;go_enter Tryz.func47,Tryz.ntmps47
 go_wp2_with fail;have gW:w.grownBy ((w.alloc (Obj.cells #[.int .i64 nodes,.slice ao ps.length cap] 24)).alloc (Obj.cells #[.int .i64 0,.int .i64 0] 29)) none:=ag (ag (ae _ _) _) _;have GW:=ab gW;clear gW;refine (Bd nodes _ ps w.heap.size _ (HB.out.keep GW.out) (HP.out.keep GW.out) (by simp;omega) (by go_simp)).mono ?_;intro e w1 hE;obtain ⟨rfl,g1⟩:=hE;have HG:=ab g1;have hrr:w1.cell? ⟨w.heap.size+1,0,none⟩=some (.int .i64 0)/\w1.cell? ⟨w.heap.size+1,1,none⟩=some (.int .i64 0)/\(∀ i,w1.frozen? ⟨w.heap.size+1,i,none⟩=false):=by
  have:=gG g1;simpa using this
 obtain ⟨r0,r1,rf⟩:=hrr;have rf0:=rf 0;have rf1:=rf 1;obtain ⟨C,hC⟩:∃ C,C=bV nodes ps:=⟨_,rfl⟩;rw [<- hC];obtain ⟨C1,C2⟩:=C;have HC:=ab hC;clear rf g1 hC;go_wp2;refine bodyPost_ret (v:=.agg #[.int .i64 C1,.int .i64 C2]) (by simp [results,Tryz.results47,go_sem,r0,r1]) rfl ?_;refine ⟨?_,?_⟩
 ·rw [<- HC.out]
 ·exact ai (ai (aa GW.out HG.out) _ _ (by simp)) _ _ (by simp)
def dA (dio:Bool) (p:aI) (nodes:Int):Int:=if p.kind=8/\dio=false then 3 else di p nodes
def bS (dio:Bool) (nodes:Int):List aI->Nat->Int×Int
 | [],_=>(0,0)
 | p :: r,i=>if dA dio p nodes=0 then bS dio nodes r (i+1) else (dA dio p nodes,(i:Int))
def bj (dio:Bool) (nodes:Int) (ps:List aI):Int×Int:=if nodes<1∨8<nodes∨16<ps.length then (2,0) else bS dio nodes ps 0
def xK (dio:Bool) (w:World) (nodes:Int) (ps:List aI) (e:Ending) (w':World):Prop:=e=.returned (.agg #[.int .i64 (bj dio nodes ps).1,.int .i64 (bj dio nodes ps).2])/\w.grownBy w' none
theorem tD (nodes:Int) (ps:List aI):bj true nodes ps=bV nodes ps:=by
 have key:∀ (ps:List aI) (i:Nat),bS true nodes ps i=cd nodes ps i:=by
  intro ps;induction ps with
  | nil=>intro i;rfl
  | cons p r ih =>
   intro i;have e:dA true p nodes=di p nodes:=by unfold dA;rw [if_neg (by simp)]
   rw [bS,cd,e,ih]
 unfold bj bV;rw [key]
theorem Df (p:aI) (nodes:Int) (g:Nat) (w:World) (hb:ia w) (hz:p.v.size<=600000000) (hg:g<w.heap.size) (hc:w.cell? ⟨g,0,none⟩=some (.int .i64 nodes)) :
  Calls Tryz.prog 75 #[p.val,.pointer (some ⟨g,0,none⟩)] w fun e w'=>e=.returned (.int .i64 (dA false p nodes))/\w.grownBy w' none:=by
 have HB:=ab (hb.keep (World.grownBy_alloc w (Obj.cells #[.int .i64 p.kind,.int .i64 p.a,.int .i64 p.b,.int .i64 p.c,.int .i64 p.d,.string p.v] 34) none));have hW:=vN p nodes _ HB.out hz;have HW:=ab hW;unfold aI.val at HW;clear hb hW;unfold aI.val;by_cases h8:p.kind=8
 ·have e:dA false p nodes=3:=by unfold dA;rw [if_pos ⟨h8,rfl⟩]
  rw [e,h8];clear HW e h8;go_enter Tryz.func75,Tryz.ntmps75
  go_wp2;go_ret;exact ⟨rfl,ag (ae _ _) _⟩
 ·have e:dA false p nodes=di p nodes:=by unfold dA;rw [if_neg (fun h=>h8 h.1)]
  rw [e];have h8':(p.kind==8)=false:=by simpa using h8
  clear e h8;generalize di p nodes=r at HW ⊢;go_enter Tryz.func75,Tryz.ntmps75
  go_wp2_with fail;refine HW.out.mono ?_;rintro e w1 ⟨rfl,g1⟩;have G1:=ab g1;clear g1;go_wp2;go_ret;exact ⟨rfl,aa (ag (ae _ _) _) G1.out⟩
def ChkLR (W:World) (nodes:Int) (ps:List aI) (C:Int×Int) (iv:Value) (wr:World):Prop:=∃ i:Nat,i<=ps.length/\iv=.int .i64 i/\bS false nodes (ps.drop i) i=C/\W.grownBy wr none
theorem yZ (nodes:Int) (pv:Value) (ps:List aI) (g:Nat) (w:World) (hb:ia w) (hp:aK w pv ps) (hg:g<w.heap.size) (hc:w.cell? ⟨g,0,none⟩=some (.int .i64 nodes)) :
  Calls Tryz.prog 74 #[.agg #[.int .i64 nodes,pv],.func (.func 75) #[] #[.pointer (some ⟨g,0,none⟩)]] w fun e w'=>xK false w nodes ps e w':=by
 obtain ⟨ao,cap,rfl,h1,h2,h3⟩:=hp;unfold maxLen at h2;by_cases hm:nodes<1∨8<nodes∨16<ps.length
 ·refine (oO nodes ao ps.length cap _ w hm).mono ?_;rintro e w' ⟨rfl,hw⟩;refine ⟨?_,hw⟩;unfold bj;rw [if_pos hm]
 ·have hn1:decide (nodes<1)=false:=by simp;omega
  have hn2:decide (8<nodes)=false:=by simp;omega
  have hn3:decide ((16:Int)<(ps.length:Int))=false:=by simp;omega
  have hl16:ps.length<=16:=by omega
  have HP:=ab h3;have HBS:=ab hb;have HCG:=ab hc;obtain ⟨C,hC⟩:∃ C,bS false nodes ps 0=C:=⟨_,rfl⟩;have HCK:Hid (bj false nodes ps=C):=by
   show _=_
   unfold bj;rw [if_neg hm,hC]
  have HC0:=ab hC;clear h3 hb hc hm hC;go_enter Tryz.func74,Tryz.ntmps74
  go_wp2;obtain ⟨W,hW⟩:∃ W,W=(w.alloc (Obj.cells #[.int .i64 nodes,.slice ao ps.length cap] 24)).alloc (Obj.cells #[.int .i64 0,.int .i64 0] 29):=⟨_,rfl⟩;have gW:Hid (w.grownBy W none):=by rw [hW];exact ag (ag (ae _ _) _) _
  have rW:Hid (∀ wr:World,W.grownBy wr none->wr.cell? ⟨w.heap.size+1,0,none⟩=some (.int .i64 0)/\wr.cell? ⟨w.heap.size+1,1,none⟩=some (.int .i64 0)/\(∀ i,wr.frozen? ⟨w.heap.size+1,i,none⟩=false)):=by
   intro wr hg;rw [hW] at hg;have:=gG hg;simpa using this
  simp only [<- hW];clear hW;go_loopw [26] (fun iv wr=>Hid (ChkLR W nodes ps C iv wr)) (fun iv _=>ps.length-(intOf iv).toNat)
  case atStart=>exact ⟨0,by omega,rfl,HC0.out,ae _ _⟩
  case round =>
   obtain ⟨i,hi,rfl,hF,hgr⟩:=hrel.out;obtain ⟨r0,r1,rf⟩:=rW.out wr hgr;have rf0:=rf 0;have rf1:=rf 1;have HF:=ab hF;have HGR:=ab hgr;clear hF hgr rf hrel;by_cases hlt:i<ps.length
   ·obtain ⟨b,off,rfl,hb,c0,c1,c2,c3,c4,c5,c6⟩:=HP.out i hlt;have hgg:=(aa gW.out HGR.out);have q0:=hgg.cell c0 (by simp);have q1:=hgg.cell c1 (by simp);have q2:=hgg.cell c2 (by simp);have q3:=hgg.cell c3 (by simp);have q4:=hgg.cell c4 (by simp);have q5:=hgg.cell c5 (by simp);have hd:ps.drop i=ps[i] :: ps.drop (i+1):=List.drop_eq_getElem_cons hlt;have HD:=ab hd;have HGG:=ab hgg;generalize ps[i]=p at q0 q1 q2 q3 q4 q5 c6 HD;clear c0 c1 c2 c3 c4 c5 hd hgg;go_wp2_with fail;refine (Df p nodes g _ (HBS.out.keep (ag HGG.out _)) c6 (by have:=HGG.out.size;simp;omega) ((ag HGG.out _).cell HCG.out (by simp))).mono ?_;rintro e w1 ⟨rfl,g1⟩;have G1:=ab (aa (ag HGR.out _) g1);obtain ⟨t0,t1,tf⟩:=rW.out w1 G1.out;have tf0:=tf 0;have tf1:=tf 1;clear tf g1 HP;by_cases hz:dA false p nodes=0
    ·rw [hz];have HZ:=ab hz;clear hz;go_wp2;go_roundw
     case rel =>
      refine ⟨i+1,by omega,by go_num,?_,G1.out⟩;have:=HF.out;rw [HD.out,bS,if_pos HZ.out] at this;exact this
     case measure=>simp [intOf];omega
    ·obtain ⟨r,hr⟩:∃ r,r=dA false p nodes:=⟨_,rfl⟩;rw [<- hr];rw [<- hr] at hz;have hz':=iD hz;have HR:=ab hr;have HZ:=ab hz;clear hz hr;go_wp2;refine bodyPost_ret (v:=.agg #[.int .i64 r,.int .i64 (i:Nat)]) (by simp [results,Tryz.results74,go_sem,t0,t1]) rfl ?_;have hf:=HF.out;rw [HD.out,bS,if_neg (by rw [<- HR.out];exact HZ.out),<- HR.out] at hf;refine ⟨?_,?_⟩
     ·rw [HCK.out,<- hf]
     ·exact ai (ai (aa gW.out G1.out) _ _ (by simp)) _ _ (by simp)
   ·have hdn:ps.drop i=[]:=List.drop_of_length_le (by omega);have HDN:=ab hdn;clear hdn HP;go_wp2;refine bodyPost_ret (v:=.agg #[.int .i64 0,.int .i64 0]) (by simp [results,Tryz.results74,go_sem,r0,r1]) rfl ?_;have hf:=HF.out;rw [HDN.out,bS] at hf;refine ⟨?_,?_⟩
    ·rw [HCK.out,<- hf]
    ·exact ai (ai (aa gW.out HGR.out) _ _ (by simp)) _ _ (by simp)
theorem qL (nodes:Int) (pv:Value) (ps:List aI) (w:World) (hb:ia w) (hp:aK w pv ps) :
  Calls Tryz.prog 40 #[.agg #[.int .i64 nodes,pv]] w fun e w'=>xK false w nodes ps e w':=by
 have HB:=ab hb;have HP:=ab hp;obtain ⟨ao,cap,rfl,h1,h2,h3⟩:=hp;clear h3 hb h2;go_enter Tryz.func40,Tryz.ntmps40
 go_wp2_with fail;have gW:w.grownBy ((w.alloc (Obj.cells #[.int .i64 nodes,.slice ao ps.length cap] 24)).alloc (Obj.cells #[.int .i64 0,.int .i64 0] 29)) none:=ag (ag (ae _ _) _) _;have GW:=ab gW;clear gW;refine (yZ nodes _ ps w.heap.size _ (HB.out.keep GW.out) (HP.out.keep GW.out) (by simp;omega) (by go_simp)).mono ?_;intro e w1 hE;obtain ⟨rfl,g1⟩:=hE;have HG:=ab g1;have hrr:w1.cell? ⟨w.heap.size+1,0,none⟩=some (.int .i64 0)/\w1.cell? ⟨w.heap.size+1,1,none⟩=some (.int .i64 0)/\(∀ i,w1.frozen? ⟨w.heap.size+1,i,none⟩=false):=by
  have:=gG g1;simpa using this
 obtain ⟨r0,r1,rf⟩:=hrr;have rf0:=rf 0;have rf1:=rf 1;obtain ⟨C,hC⟩:∃ C,C=bj false nodes ps:=⟨_,rfl⟩;rw [<- hC];obtain ⟨C1,C2⟩:=C;have HC:=ab hC;clear rf g1 hC;go_wp2;refine bodyPost_ret (v:=.agg #[.int .i64 C1,.int .i64 C2]) (by simp [results,Tryz.results40,go_sem,r0,r1]) rfl ?_;refine ⟨?_,?_⟩
 ·rw [<- HC.out]
 ·exact ai (ai (aa GW.out HG.out) _ _ (by simp)) _ _ (by simp)
end Go.Proofs.YthblidglcppakaaGreatDoor
