/- Contracts that the proof leans on. -/
import Derived.WalkKit
import Derived.Deep.Draws
import Derived.Test.YthblidglcppakaaGreatDoorProg
import Derived.RowKit
import Derived.OwnWalk
import Derived.Laws.Rows
import Derived.Laws.MakeOwn
import Derived.Laws.BitsAllLaws
import Derived.Lib.ItoaNum
namespace Go.Proofs.YthblidglcppakaaGreatDoor
open Go.RowKit
set_option linter.unusedVariables false
set_option linter.unusedSimpArgs false
set_option maxHeartbeats 8000000
set_option maxRecDepth 10000
theorem ab {p:Prop} (h:p):Hid p:=h
theorem aG {p:Prop} (h:Hid p):p:=h
def aN:List Nat->List Nat
 | []=>[]
 | x :: r=>if aN r=[]/\x=0 then [] else x :: aN r
theorem aY (xs:List Nat):(aN xs).length<=xs.length:=by
 induction xs with
 | nil=>simp [aN]
 | cons x r ih=>unfold aN;split<;>simp<;>omega
theorem nX (xs:List Nat):aN (xs++[0])=aN xs:=by
 induction xs with
 | nil=>simp [aN]
 | cons x r ih=>simp [aN,ih]
theorem kp (xs:List Nat) (x:Nat) (h:x≠0):aN (xs++[x])=xs++[x]:=by
 induction xs with
 | nil=>simp [aN,h]
 | cons y r ih=>simp [aN,ih]
theorem kP (xs:List Nat) (i:Nat) (hi:i<(aN xs).length):(aN xs)[i]=xs[i]'(Nat.lt_of_lt_of_le hi (aY xs)):=by
 induction xs generalizing i with
 | nil=>simp [aN] at hi
 | cons x r ih =>
  by_cases h:aN r=[]/\x=0
  ·have e:aN (x :: r)=[]:=by rw [aN,if_pos h]
   rw [e] at hi;simp at hi
  ·have e:aN (x :: r)=x :: aN r:=by rw [aN,if_neg h]
   cases i with
   | zero=>simp [e]
   | succ i =>
    simp only [e,List.getElem_cons_succ];exact ih i (by rw [e] at hi;simpa using hi)
theorem jx (xs:List Nat) (k:Nat) (h:k<xs.length):xs.take (k+1)=xs.take k++[xs[k]]:=by
 rw [List.take_succ_eq_append_getElem h]
theorem jE (xs:List Nat) (k:Nat) (h:k<xs.length) (h0:xs[k]=0):aN (xs.take (k+1))=aN (xs.take k):=by
 rw [jx xs k h,h0,nX]
theorem kq (xs:List Nat) (k:Nat) (h:k<xs.length) (h0:xs[k]≠0):aN (xs.take (k+1))=xs.take (k+1):=by
 rw [jx xs k h,kp _ _ h0]
def ak:List Nat->Nat
 | []=>0
 | x :: r=>x+4294967296*ak r
theorem eN (xs:List Nat):ak (aN xs)=ak xs:=by
 induction xs with
 | nil=>rfl
 | cons x r ih =>
  unfold aN;split
  ·rename_i h;simp only [ak];rw [<- ih,h.1,h.2];simp [ak]
  ·simp [ak,ih]
theorem bN (xs ys:List Nat):ak (xs++ys)=ak xs+4294967296^xs.length*ak ys:=by
 induction xs with
 | nil=>simp [ak]
 | cons x r ih =>
  simp only [List.cons_append,ak,ih,List.length_cons,Nat.pow_succ];rw [Nat.mul_add,<- Nat.mul_assoc,Nat.mul_comm 4294967296 (4294967296^r.length)];omega
def Sm (xs:List Nat):Prop:=∀ x∈xs,x<4294967296
theorem Sm.nil:Sm []:=by simp [Sm]
theorem Sm.get {xs:List Nat} (h:Sm xs) (i:Nat) (hi:i<xs.length):xs[i]<4294967296:=h _ (List.getElem_mem hi)
theorem Sm.append {xs ys:List Nat} (h:Sm xs) (k:Sm ys):Sm (xs++ys):=fun x hx=>by
 rcases List.mem_append.1 hx with hx | hx
 ·exact h x hx
 ·exact k x hx
theorem Sm.cons {x:Nat} {xs:List Nat} (hx:x<4294967296) (h:Sm xs):Sm (x :: xs):=fun y hy=>by
 rcases List.mem_cons.1 hy with rfl | hy
 ·exact hx
 ·exact h y hy
theorem Sm.take {xs:List Nat} (h:Sm xs) (n:Nat):Sm (xs.take n):=fun x hx=>h x (List.mem_of_mem_take hx)
theorem Sm.drop {xs:List Nat} (h:Sm xs) (n:Nat):Sm (xs.drop n):=fun x hx=>h x (List.mem_of_mem_drop hx)
theorem Sm.trimL {xs:List Nat} (h:Sm xs):Sm (aN xs):=by
 induction xs with
 | nil=>exact h
 | cons x r ih =>
  unfold Go.Proofs.YthblidglcppakaaGreatDoor.aN;split
  ·exact Sm.nil
  ·exact Sm.cons (h x (by simp)) (ih fun y hy=>h y (by simp [hy]))
theorem bD {xs:List Nat} (h:Sm xs):ak xs<4294967296^xs.length:=by
 induction xs with
 | nil=>simp [ak]
 | cons x r ih =>
  have hx:=h x (by simp);have hr:=ih fun y hy=>h y (by simp [hy])
  simp only [ak,List.length_cons,Nat.pow_succ];have:4294967296*ak r+4294967296<=4294967296^r.length*4294967296:=by
   rw [Nat.mul_comm (4294967296^r.length)];have:ak r+1<=4294967296^r.length:=hr;have:=Nat.mul_le_mul_left 4294967296 this;omega
  omega
def Tr (xs:List Nat):Prop:=aN xs=xs
theorem vI (xs:List Nat):aN (aN xs)=aN xs:=by
 induction xs with
 | nil=>rfl
 | cons x r ih =>
  by_cases h:aN r=[]/\x=0
  ·have e:aN (x :: r)=[]:=by rw [aN,if_pos h]
   rw [e];rfl
  ·have e:aN (x :: r)=x :: aN r:=by rw [aN,if_neg h]
   rw [e,aN,ih,if_neg h]
theorem Tr.trimL (xs:List Nat):Tr (aN xs):=vI xs
theorem Tr.tail {x:Nat} {r:List Nat} (h:Tr (x :: r)):Tr r:=by
 unfold Tr at h ⊢;unfold Go.Proofs.YthblidglcppakaaGreatDoor.aN at h;split at h
 ·cases h
 ·exact (List.cons.inj h).2
theorem Tr.pos {x:Nat} {r:List Nat} (h:Tr (x :: r)):0<ak (x :: r):=by
 induction r generalizing x with
 | nil =>
  unfold Tr Go.Proofs.YthblidglcppakaaGreatDoor.aN at h;simp [Go.Proofs.YthblidglcppakaaGreatDoor.aN] at h;simp [ak];omega
 | cons y r ih =>
  have:=ih (Tr.tail h);show 0<x+4294967296*ak (y :: r)
  omega
theorem yG:∀ {xs ys:List Nat},Sm xs->Sm ys->Tr xs->Tr ys->ak xs=ak ys->xs=ys
 | [],[],_,_,_,_,_=>rfl
 | [],y :: s,_,_,_,ty,h=>by have:=Tr.pos ty;rw [<- h] at this;simp [ak] at this
 | x :: r,[],_,_,tx,_,h=>by have:=Tr.pos tx;rw [h] at this;simp [ak] at this
 | x :: r,y :: s,hx,hy,tx,ty,h=>by
  have a:=hx x (by simp);have b:=hy y (by simp);simp only [ak] at h;have e:x=y:=by omega
  have e2:ak r=ak s:=by omega
  rw [e,yG (fun z hz=>hx z (by simp [hz])) (fun z hz=>hy z (by simp [hz])) (Tr.tail tx) (Tr.tail ty) e2]
structure Ws (w:World) (v:Value) (xs:List Nat):Prop where
 sm:Sm xs
 sh:(v=.slice none 0 0/\xs=[])∨∃ b off cap,v=.slice (some ⟨b,off,none⟩) xs.length cap/\b<w.heap.size/\xs.length<=cap/\cap<=maxLen/\∀ i (h:i<xs.length),w.cell? ⟨b,off+i,none⟩=some (.int .u32 (xs[i]:Nat))
def az:Value->Option Nat
 | .slice (some a) _ _=>some a.block
 | _=>none
theorem Ws.keep {w w':World} {v:Value} {xs:List Nat} {row:Option Nat} (h:Ws w v xs) (hg:w.grownBy w' row) (hr:∀ k,row=some k->az v≠some k):Ws w' v xs:=by
 refine ⟨h.sm,?_⟩;rcases h.sh with h | ⟨b,off,cap,rfl,hb,hl,hm,hc⟩
 ·exact .inl h
 ·refine .inr ⟨b,off,cap,rfl,Nat.lt_of_lt_of_le hb hg.size,hl,hm,fun i hi=>hg.cell (hc i hi) ?_⟩;intro e;exact hr b e.symm rfl
theorem Ws.nil (w:World):Ws w (.slice none 0 0) []:=⟨Sm.nil,.inl ⟨rfl,rfl⟩⟩
def au (xs:List Nat):Array Value:=(xs.map fun x:Nat=>Value.int .u32 x).toArray
theorem qk (xs:List Nat):(au xs).size=xs.length:=by simp [au]
theorem qH (xs:List Nat) (i:Nat) (h:i<xs.length):(au xs)[i]? = some (.int .u32 (xs[i]:Nat)):=by simp [au,h]
theorem qI (xs:List Nat) (i v:Nat):(au xs).setIfInBounds i (.int .u32 (v:Nat))=au (xs.set i v):=by
 simp [au,List.map_set]
def ch (w:World) (g:Nat) (xs:List Nat):Prop:=w.heap[g]? = some (.cells (au xs) 140 (0,0))
theorem ch.lt {w:World} {g:Nat} {xs:List Nat} (h:ch w g xs):g<w.heap.size:=(Array.getElem?_eq_some_iff.1 h).1
theorem ch.cell {w:World} {g:Nat} {xs:List Nat} (h:ch w g xs) (i:Nat) (hi:i<xs.length):w.cell? ⟨g,i,none⟩=some (.int .u32 (xs[i]:Nat)):=by
 unfold ch at h;simp [World.cell?,h,qH xs i hi]
theorem ch.free {w:World} {g:Nat} {xs:List Nat} (h:ch w g xs) (i:Nat):w.frozen? ⟨g,i,none⟩=false:=by
 unfold ch at h;simp [World.frozen?,h]
theorem ch.set {w:World} {g:Nat} {xs:List Nat} (h:ch w g xs) (i v:Nat):ch (w.setCell ⟨g,i,none⟩ (.int .u32 (v:Nat))) g (xs.set i v):=by
 unfold ch at h ⊢;rw [heap_setCell_same w g i _ _ _ h,qI]
theorem ch.drewN {w:World} {g:Nat} {xs:List Nat} (h:ch w g xs) (n:Nat):ch (w.drewN n) g xs:=h
theorem ch.keep {w w':World} {g:Nat} {xs:List Nat} {row:Option Nat} (h:ch w g xs) (hg:w.grownBy w' row) (hr:some g≠row):ch w' g xs:=by
 have hl:=h.lt;unfold ch at h ⊢;rw [hg.block g hl hr,h]
theorem ch.ws {w:World} {g:Nat} {xs:List Nat} (h:ch w g xs) (hs:Sm xs) (hm:xs.length<=maxLen):Ws w (.slice (some ⟨g,0,none⟩) xs.length xs.length) xs :=
 ⟨hs,.inr ⟨g,0,xs.length,rfl,h.lt,Nat.le_refl _,hm,fun i hi=>by rw [Nat.zero_add];exact h.cell i hi⟩⟩
theorem ae (w:World) (r:Option Nat):w.grownBy w r:=⟨rfl,rfl,rfl,Nat.le_refl _,fun _ _ _=>rfl⟩
theorem aq {w w1 w2:World} {r r1 r2:Option Nat} (h:w.grownBy w1 r1) (k:w1.grownBy w2 r2) (h1:∀ b,b<w.heap.size->some b=r1->some b=r) (h2:∀ b,b<w.heap.size->some b=r2->some b=r):w.grownBy w2 r :=
 ⟨k.os.trans h.os,k.tape.trans h.tape,k.output.trans h.output,Nat.le_trans h.size k.size,fun b hb hr =>
  (k.block b (Nat.lt_of_lt_of_le hb h.size) (fun e=>hr (h2 b hb e))).trans (h.block b hb (fun e=>hr (h1 b hb e)))⟩
theorem aa {w w1 w2:World} (h:w.grownBy w1 none) (k:w1.grownBy w2 none):w.grownBy w2 none :=
 aq h k (fun _ _ e=>e) (fun _ _ e=>e)
theorem ar {w w1:World} {r:Option Nat} (h:w.grownBy w1 r) (n:Nat):w.grownBy (w1.drewN n) r:=⟨h.os,h.tape,h.output,h.size,h.block⟩
theorem ag {w w1:World} {r:Option Nat} (h:w.grownBy w1 r) (o:Obj):w.grownBy (w1.alloc o) r :=
 aq h (World.grownBy_alloc w1 o none) (fun _ _ e=>e) (fun _ _ e=>by cases e)
theorem ai {w w1:World} {r:Option Nat} (h:w.grownBy w1 r) (a:Addr) (v:Value) (ha:w.heap.size<=a.block):w.grownBy (w1.setCell a v) r :=
 aq (r2:=some a.block) h ⟨rfl,rfl,rfl,by simp,fun k _ hr=>heap_setCell_other _ _ _ _ (fun e=>hr (by rw [e]))⟩ (fun _ _ e=>e) (fun b hb e=>by cases e;omega)
theorem tX {w w1:World} (h:w.grownBy w1 none):Below w.heap.size w w1:=⟨h.os,h.tape,h.output,h.size,fun k hk=>h.block k hk (by simp)⟩
theorem wU (n:Nat):(madeCells (Value.int .u32 0).cells (n*1))=au (List.replicate n 0):=by
 apply Array.ext
 ·simp [madeCells,qk]
 ·intro i h1 h2;simp [madeCells,au,Value.cells,Nat.mod_one]
theorem aD {P:Program} (w:World) {ops:Array Oper} {rest:List Oper} {o:Oper} {a:Act} {Q:Exit->Act->World->Prop}
  (hg:o.guard=none) (l c:Operand) (t:TypeId) (hop:o.op=Op.makeSlice t l c)
  (h1:P.underlying t=some (.slice 140)) (hinfo:(P.info? 140).map (fun i=>(i.zero,i.size,i.bytes))=some (some (.int .u32 0),1,4))
  (kl kc:IntKind) (L C:Int) (n:Nat) (hl:a.eval l=.int kl L) (hc:a.eval c=.int kc C) (hL:L=(n:Int)) (hC:C=(n:Int)) (b2:n<=10737418240000)
  (hK:∀ w',ch w' w.heap.size (List.replicate n 0)->w.grownBy w' none->wpList P ops Q rest (a.put o.dst (.slice (some ⟨w.heap.size,0,none⟩) n n)) w') :
  wpList P ops Q (o :: rest) a w:=by
 obtain ⟨i,hi,hz0,hz1,hz2⟩:=info_parts hinfo;refine wpList_make_full w hg l c t hop w.heap.size 140 i (.int .u32 0) 1 h1 hi hz0 hz1 kl kc L C n hl hc hL hC (by rw [hz2];omega) (by unfold maxLen;omega) (Nat.le_refl _) ?_;intro w' hown hgr;refine hK w' ?_ hgr;obtain ⟨_,h⟩:=hown;rcases h with ⟨h,_⟩ | ⟨g,cap,cur,h,_,hh,_,_,hsz,ht⟩
 ·simp at h
 ·simp only [Value.slice.injEq,Option.some.injEq,Addr.mk.injEq,and_true,true_and] at h;obtain ⟨rfl,rfl⟩:=h;unfold ch;rw [hh];have:cur=au (List.replicate n 0):=by
   rw [<- wU];apply Array.ext';rw [<- ht,List.take_of_length_le (by simp [hsz])]
  rw [this]
structure aU (w:World) (v:Value) (n L:Nat):Prop where
 ex:∃ xs,Ws w v xs/\Tr xs/\ak xs=n/\xs.length<=L
theorem aU.keep {w w':World} {v:Value} {n L:Nat} {row:Option Nat} (h:aU w v n L) (hg:w.grownBy w' row) (hr:∀ k,row=some k->az v≠some k):aU w' v n L:=by
 obtain ⟨xs,h1,h2,h3,h4⟩:=h;exact ⟨xs,h1.keep hg hr,h2,h3,h4⟩
theorem aU.keep0 {w w':World} {v:Value} {n L:Nat} (h:aU w v n L) (hg:w.grownBy w' none):aU w' v n L:=h.keep hg (fun _ e=>by cases e)
theorem Ws.keep0 {w w':World} {v:Value} {xs:List Nat} (h:Ws w v xs) (hg:w.grownBy w' none):Ws w' v xs:=h.keep hg (fun _ e=>by cases e)
theorem aU.mono {w:World} {v:Value} {n L L':Nat} (h:aU w v n L) (hl:L<=L'):aU w v n L':=by
 obtain ⟨xs,h1,h2,h3,h4⟩:=h;exact ⟨xs,h1,h2,h3,Nat.le_trans h4 hl⟩
def bA (w:World) (v:Value):Prop:=∀ k,az v=some k->w.heap.size<=k
theorem Tryz.info32:(Tryz.prog.info? 140).map (fun i=>(i.zero,i.size,i.bytes))=some (some (.int .u32 0),1,4):=by kernel_rfl
theorem aO (xs:List Nat) (x:Nat):ak (xs++[x])=ak xs+4294967296^xs.length*x:=by
 rw [bN];simp [ak]
theorem ay (xs:List Nat) (k:Nat) (h:k<xs.length):ak (xs.take (k+1))=ak (xs.take k)+4294967296^k*xs[k]:=by
 rw [jx xs k h,aO];congr 2
 rw [List.length_take];congr 1
 omega
theorem fz (p c:Nat):p*(c % 4294967296)+p*4294967296*(c / 4294967296)=p*c:=by
 rw [Nat.mul_assoc,<- Nat.mul_add,Nat.mod_add_div]
theorem iK (n:Nat):ak (List.replicate n 0)=0:=by
 induction n with
 | zero=>rfl
 | succ n ih=>simp [List.replicate_succ,ak,ih]
theorem dR (done:List Nat) (k m v:Nat) (h:done.length=k) (hm:0<m):(done++List.replicate m 0).set k v=(done++[v])++List.replicate (m-1) 0:=by
 obtain ⟨m,rfl⟩:∃ j,m=j+1:=⟨m-1,by omega⟩;subst h;rw [List.set_append_right _ _ (Nat.le_refl _)];simp [List.replicate_succ]
theorem Sm.snoc {xs:List Nat} (h:Sm xs) (x:Nat):Sm (xs++[x % 4294967296]):=h.append (Sm.cons (Nat.mod_lt _ (by decide)) Sm.nil)
theorem Sm.replicate (n:Nat):Sm (List.replicate n 0):=fun x hx=>by
 have:=List.eq_of_mem_replicate hx;omega
theorem oL (done:List Nat) (k c x y X Y:Nat) (hk:done.length=k) (h:ak done+4294967296^k*c=X+Y) :
  ak (done++[(c+x+y) % 4294967296])+4294967296^(k+1)*((c+x+y) / 4294967296)=(X+4294967296^k*x)+(Y+4294967296^k*y):=by
 rw [aO,hk,Nat.pow_succ,Nat.add_assoc,fz,Nat.mul_add,Nat.mul_add];omega
theorem qi (xs:List Nat) (k:Nat):ak (xs.take (k+1))=ak (xs.take k)+4294967296^k*xs.getD k 0:=by
 by_cases h:k<xs.length
 ·rw [ay xs k h];simp [h]
 ·rw [List.take_of_length_le (by omega),List.take_of_length_le (by omega)];simp [List.getD,h]
theorem Sm.getD {xs:List Nat} (h:Sm xs) (k:Nat):xs.getD k 0<4294967296:=by
 by_cases hk:k<xs.length
 ·simp only [List.getD,List.getElem?_eq_getElem hk,Option.getD_some];exact h.get k hk
 ·simp only [List.getD,List.getElem?_eq_none (Nat.le_of_not_lt hk),Option.getD_none];decide
theorem gL (xs:List Nat) (j:Nat) (h:j<xs.length):ak xs=ak (xs.take j)+4294967296^j*(xs[j]+4294967296*ak (xs.drop (j+1))):=by
 have e:xs=xs.take j++(xs[j] :: xs.drop (j+1)):=by
  rw [<- List.drop_eq_getElem_cons h,List.take_append_drop]
 have e2:(xs.take j).length=j:=by rw [List.length_take];omega
 have:=bN (xs.take j) (xs[j] :: xs.drop (j+1));rw [<- e,e2] at this;exact this
theorem fP (xs ys:List Nat) (j:Nat) (hx:j<xs.length) (hy:j<ys.length) (sx:Sm xs) (hd:xs.drop (j+1)=ys.drop (j+1)) (hlt:xs[j]<ys[j]):ak xs<ak ys:=by
 rw [gL xs j hx,gL ys j hy,<- hd];have h1:=bD (sx.take j);rw [List.length_take,show min j xs.length=j from by omega] at h1;have h2:4294967296^j*(xs[j]+4294967296*ak (xs.drop (j+1))+1)<=4294967296^j*(ys[j]+4294967296*ak (xs.drop (j+1))):=Nat.mul_le_mul_left _ (by omega);rw [Nat.mul_add,Nat.mul_one] at h2;omega
theorem iZ {xs:List Nat} (h:Tr xs) (hne:xs≠[]):4294967296^(xs.length-1)<=ak xs:=by
 induction xs with
 | nil=>exact absurd rfl hne
 | cons x r ih =>
  cases r with
  | nil=>have:=h.pos;simp only [List.length_singleton,Nat.sub_self,Nat.pow_zero];omega
  | cons y s =>
   have:=ih h.tail (by simp);simp only [List.length_cons,Nat.add_sub_cancel] at this ⊢;show _<=x+4294967296*ak (y :: s)
   rw [Nat.pow_succ,Nat.mul_comm];have:=Nat.mul_le_mul_left 4294967296 this;omega
theorem cw {xs ys:List Nat} (sx:Sm xs) (ty:Tr ys) (h:xs.length<ys.length):ak xs<ak ys:=by
 have h1:=bD sx;have h2:=iZ ty (by intro e;subst e;simp at h);have h3:4294967296^xs.length<=4294967296^(ys.length-1):=Nat.pow_le_pow_right (by decide) (by omega);omega
def iG (m n:Nat):Int:=if m<n then -1 else if m=n then 0 else 1
theorem pD {m n:Nat} (h:m<n):iG m n = -1:=by simp [iG,h]
theorem xf (m:Nat):iG m m=0:=by simp [iG]
theorem pC {m n:Nat} (h:n<m):iG m n=1:=by
 unfold iG;rw [if_neg (by omega),if_neg (by omega)]
structure KD (b U V P vt vn V0 h u2 U0:Nat):Prop where
 hV:V=(vt*b+vn)*P+V0
 hU:U=(h*b+u2)*P+U0
 hP:0<P
 hV0:V0<P
 hU0:U0<P
 hvt:b<=2*vt
 hb:1<b
 hvn:vn<b
 hu2:u2<b
 hlt:U<b*V
variable {b U V P vt vn V0 h u2 U0:Nat}
theorem KD.pos (k:KD b U V P vt vn V0 h u2 U0):0<V:=by
 rcases Nat.eq_zero_or_pos V with e | e
 ·have:=k.hlt;rw [e] at this;omega
 ·exact e
theorem KD.q_lt (k:KD b U V P vt vn V0 h u2 U0):U / V<b:=by
 rw [Nat.div_lt_iff_lt_mul k.pos];have:=k.hlt;omega
theorem KD.q_test (k:KD b U V P vt vn V0 h u2 U0):U / V*(vt*b+vn)<=h*b+u2:=by
 have h1:U / V*V<=U:=Nat.div_mul_le_self U V;have h2:U / V*(vt*b+vn)*P<=U / V*V:=by
  have e:=k.hV;generalize U / V=q;generalize vt*b+vn=W at e ⊢;rw [e,Nat.mul_add,Nat.mul_assoc];omega
 have h3:U<(h*b+u2+1)*P:=by
  rw [Nat.add_mul (h*b+u2) 1 P,Nat.one_mul];have:=k.hU;have:=k.hU0;omega
 have h4:U / V*(vt*b+vn)*P<(h*b+u2+1)*P:=by omega
 exact Nat.le_of_lt_succ (Nat.lt_of_mul_lt_mul_right h4)
theorem KD.q_h (k:KD b U V P vt vn V0 h u2 U0):U / V*vt<=h:=by
 have h1:=k.q_test;have h2:=k.hu2;generalize U / V=q at h1 ⊢;have h3:q*vt*b<(h+1)*b:=by
  rw [Nat.mul_add,<- Nat.mul_assoc] at h1;rw [Nat.add_mul,Nat.one_mul];omega
 exact Nat.le_of_lt_succ (Nat.lt_of_mul_lt_mul_right h3)
theorem KD.init (k:KD b U V P vt vn V0 h u2 U0):U / V<=h / vt:=by
 rw [Nat.le_div_iff_mul_le (by have:=k.hvt;have:=k.hb;omega)];exact k.q_h
theorem KD.keep (k:KD b U V P vt vn V0 h u2 U0) {g r:Nat} (hg:g*vt+r=h) (ht:b<=g∨r*b+u2<g*vn):U / V<g:=by
 rcases ht with ht | ht
 ·have:=k.q_lt;omega
 ·have h1:=k.q_test;have h2:h*b+u2<g*(vt*b+vn):=by
   rw [<- hg,Nat.mul_add,<- Nat.mul_assoc,Nat.add_mul];omega
  exact Nat.lt_of_mul_lt_mul_right (Nat.lt_of_le_of_lt h1 h2)
theorem KD.h_le (k:KD b U V P vt vn V0 h u2 U0):h<=vt*b+vn:=by
 have h1:(h*b+u2)*P<=U:=by rw [k.hU];omega
 have h2:V<(vt*b+vn+1)*P:=by
  rw [Nat.add_mul _ 1 P,Nat.one_mul,k.hV];have:=k.hV0;omega
 have h3:b*V<=b*((vt*b+vn+1)*P):=Nat.mul_le_mul_left _ (Nat.le_of_lt h2);have h4:(h*b+u2)*P<(b*(vt*b+vn+1))*P:=by
  rw [Nat.mul_assoc];have:=k.hlt;omega
 have h5:=Nat.lt_of_mul_lt_mul_right h4;have h6:b*h<b*(vt*b+vn+1):=by
  rw [Nat.mul_comm b h];omega
 have h7:=Nat.lt_of_mul_lt_mul_left h6;omega
theorem KD.brk (k:KD b U V P vt vn V0 h u2 U0) {g r:Nat} (hg:g*vt+r=h) (hr:b<=r):g<b/\g*vn<=r*b+u2:=by
 have h1:=k.h_le;have h2:=k.hvn;have h3:g*vt<b*vt:=by
  rw [Nat.mul_comm b vt];omega
 have h4:=Nat.lt_of_mul_lt_mul_right h3;refine ⟨h4,?_⟩;have h5:g*vn<=b*b:=Nat.mul_le_mul (by omega) (by omega);have h6:b*b<=r*b:=Nat.mul_le_mul_right _ hr;omega
theorem KD.exit (k:KD b U V P vt vn V0 h u2 U0) {g r:Nat} (hg:g*vt+r=h) (hgb:g<b) (ht:g*vn<=r*b+u2):g<=U / V+1:=by
 have h1:U<(U / V+1)*V:=by
  have:=Nat.div_add_mod U V;have:=Nat.mod_lt U k.pos;rw [Nat.add_mul,Nat.one_mul,Nat.mul_comm];omega
 generalize U / V=q at h1 ⊢;rcases Nat.lt_or_ge (q+1) g with hlt | hge
 ·exfalso
  obtain ⟨m,rfl⟩:∃ m,g=m+1:=⟨g-1,by omega⟩;have h2:(q+1)*V<=m*V:=Nat.mul_le_mul_right _ (by omega);have h3:V<=(vt*b+vn+1)*P:=by
   rw [Nat.add_mul _ 1 P,Nat.one_mul,k.hV];have:=k.hV0;omega
  have h4:m*V<=m*(vt*b+vn+1)*P:=by
   rw [Nat.mul_assoc];exact Nat.mul_le_mul_left _ h3
  have h5:(m+1)*(vt*b+vn)<=h*b+u2:=by
   rw [<- hg,Nat.mul_add (m+1) (vt*b),<- Nat.mul_assoc (m+1) vt b,Nat.add_mul ((m+1)*vt) r b];omega
  have h6:(m+1)*(vt*b+vn)*P<=U:=by
   have:=Nat.mul_le_mul_right P h5;rw [k.hU];omega
  have h7:(m+1)*(vt*b+vn)*P<m*(vt*b+vn+1)*P:=by omega
  have h8:=Nat.lt_of_mul_lt_mul_right h7;have h9:=k.hvt;have h12:=k.hb;have h11:vt*b+vn<m:=by
   generalize vt*b+vn=W at h8 ⊢;rw [Nat.add_mul m 1 W,Nat.mul_add m W 1,Nat.one_mul,Nat.mul_one] at h8;omega
  have h13:1*b<=vt*b:=Nat.mul_le_mul_right _ (by omega);omega
 ·exact hge
theorem split2 (ys:List Nat) (n:Nat) (hn:ys.length=n+2):ak ys=(ys[n+1]*4294967296+ys[n])*4294967296^n+ak (ys.take n):=by
 have h1:=gL ys n (by omega);have h2:ys.drop (n+1)=[ys[n+1]]:=by
  rw [List.drop_eq_getElem_cons (by omega),List.drop_of_length_le (by omega)]
 rw [h2] at h1;simp only [ak,Nat.mul_zero,Nat.add_zero] at h1;rw [h1,Nat.mul_comm (4294967296^n),Nat.add_comm (ys[n]),Nat.mul_comm 4294967296];omega
theorem split3 (us:List Nat) (n:Nat) (hn:us.length=n+3):ak us=((us[n+2]*4294967296+us[n+1])*4294967296+us[n])*4294967296^n+ak (us.take n):=by
 have h1:=gL us n (by omega);have h2:us.drop (n+1)=[us[n+1],us[n+2]]:=by
  rw [List.drop_eq_getElem_cons (by omega),List.drop_eq_getElem_cons (by omega),List.drop_of_length_le (by omega)]
 rw [h2] at h1;simp only [ak,Nat.mul_zero,Nat.add_zero] at h1;rw [h1,Nat.mul_comm (4294967296^n)];have e:us[n]+4294967296*(us[n+1]+4294967296*us[n+2])=(us[n+2]*4294967296+us[n+1])*4294967296+us[n]:=by omega
 rw [e];omega
theorem kd_of (vs us:List Nat) (n:Nat) (hv:vs.length=n+2) (hu:us.length=n+3) (sv:Sm vs) (su:Sm us) (ht:2147483648<=vs[n+1]) (hlt:ak us<4294967296*ak vs) :
  KD 4294967296 (ak us) (ak vs) (4294967296^n) vs[n+1] vs[n] (ak (vs.take n)) (us[n+2]*4294967296+us[n+1]) us[n] (ak (us.take n)):=by
 have e1:(vs.take n).length=n:=by rw [List.length_take];omega
 have e2:(us.take n).length=n:=by rw [List.length_take];omega
 refine ⟨split2 vs n hv,split3 us n hu,Nat.pow_pos (by decide),?_,?_,by omega,by decide,sv.get n (by omega),su.get n (by omega),hlt⟩
 ·have:=bD (sv.take n);rw [e1] at this;exact this
 ·have:=bD (su.take n);rw [e2] at this;exact this
theorem Ws.open {w:World} {v:Value} {xs:List Nat} (h:Ws w v xs):∃ ao cap,v=.slice ao xs.length cap/\xs.length<=cap/\cap<=maxLen /\
  ∀ i (h:i<xs.length),∃ b off,ao=some ⟨b,off,none⟩/\b<w.heap.size/\w.cell? ⟨b,off+i,none⟩=some (.int .u32 (xs[i]:Nat)):=by
 rcases h.sh with ⟨rfl,rfl⟩ | ⟨b,off,cap,rfl,hb,hl,hm,hc⟩
 ·exact ⟨none,0,rfl,by simp,by simp,fun i h=>by simp at h⟩
 ·exact ⟨_,cap,rfl,hl,hm,fun i h=>⟨b,off,rfl,hb,hc i h⟩⟩
theorem jq (r x:Nat) (hr:r<4294967296) (hx:x<4294967296):bits .or .u64 ((r:Int)*4294967296) (x:Int)=((r*4294967296+x:Nat):Int):=by
 have h:=u64_or_nat (r*4294967296) x (by omega) (by omega);rw [Int.natCast_mul] at h;have e:r*4294967296 ||| x=r*4294967296+x:=by
  have:=Nat.two_pow_add_eq_or_of_lt (i:=32) (b:=x) (by omega) r;rw [Nat.mul_comm r];exact this.symm
 rw [e] at h;exact h
theorem uE (r x:Nat) (hr:r<4294967296) (hx:x<4294967296):bits .or .u64 (x:Int) ((r:Int)*4294967296)=((x+4294967296*r:Nat):Int):=by
 have h:=u64_or_nat x (r*4294967296) (by omega) (by omega);rw [Int.natCast_mul] at h;have e:x ||| r*4294967296=x+4294967296*r:=by
  have:=Nat.two_pow_add_eq_or_of_lt (i:=32) (b:=x) (by omega) r;rw [Nat.or_comm,Nat.mul_comm r,Nat.add_comm];exact this.symm
 rw [e] at h;exact h
theorem lC (x y:Nat) (hx:x<4294967296) (hy:y<4294967296):(x:Int)*(y:Int)<=18446744065119617025:=by
 have:x*y<=4294967295*4294967295:=Nat.mul_le_mul (by omega) (by omega);have h2:((x*y:Nat):Int)<=18446744065119617025:=by omega
 rwa [Int.natCast_mul] at h2
theorem tz (x y c r:Nat) (hx:x<4294967296) (hy:y<4294967296) (hc:c<4294967296) (hr:r<4294967296):(c+(x*y+r)) / 4294967296<4294967296:=by
 have:x*y<=4294967295*4294967295:=Nat.mul_le_mul (by omega) (by omega);omega
theorem oN (x y c r:Nat):(((c:Int)+((x:Int)*(y:Int)+(r:Int))) / 4294967296)=(((c+(x*y+r)) / 4294967296:Nat):Int):=by
 rw [Int.natCast_ediv,Int.natCast_add,Int.natCast_add,Int.natCast_mul];rfl
theorem ns (x y c r:Nat):(((c:Int)+((x:Int)*(y:Int)+(r:Int))) % 4294967296)=(((c+(x*y+r)) % 4294967296:Nat):Int):=by
 rw [Int.natCast_emod,Int.natCast_add,Int.natCast_add,Int.natCast_mul];rfl
theorem ry (s:Nat) (hs:s<32):∃ r,2^s*r=4294967296/\0<r:=by
 refine ⟨2^(32-s),?_,Nat.two_pow_pos _⟩;rw [<- Nat.pow_add,show s+(32-s)=32 from by omega]
theorem xe (s c x:Nat) (hs:s<32) (hc:c<2^s):c ||| (x*2^s % 4294967296)=c+x*2^s % 4294967296/\c+x*2^s % 4294967296<4294967296:=by
 obtain ⟨r,hr,hr0⟩:=ry s hs;have e:x*2^s % 4294967296=2^s*(x % r):=by
  rw [<- hr,Nat.mul_comm x,Nat.mul_mod_mul_left]
 constructor
 ·rw [e,Nat.or_comm,Nat.add_comm];exact (Nat.two_pow_add_eq_or_of_lt hc _).symm
 ·rw [e];have h1:x % r+1<=r:=Nat.mod_lt _ hr0;have h2:=Nat.mul_le_mul_left (2^s) h1;rw [hr,Nat.mul_add,Nat.mul_one] at h2;omega
theorem ki (x s:Nat) (hx:x<4294967296) (hs:s<32):IntKind.u64.wrap ((x:Int)*2^s)=((x*2^s:Nat):Int)/\x*2^s<18446744073709551616:=by
 have h1:2^s<=2^31:=Nat.pow_le_pow_right (by decide) (by omega);have h2:x*2^s<=4294967295*2^31:=Nat.mul_le_mul (by omega) h1;have e:(x:Int)*2^s=((x*2^s:Nat):Int):=by rw [Int.natCast_mul,Int.natCast_pow];rfl
 refine ⟨?_,by omega⟩;rw [e,IntWalk.u64_in _ ⟨by omega,by omega⟩]
theorem xY (c x s:Nat) (hx:x<4294967296) (hs:s<32) (hc:c<2^s):bits .or .u32 (c:Int) (IntKind.u64.wrap ((x:Int)*2^s) % 4294967296)=((c+x*2^s % 4294967296:Nat):Int):=by
 have h1:2^s<=2^31:=Nat.pow_le_pow_right (by decide) (by omega);rw [(ki x s hx hs).1,show (((x*2^s:Nat):Int) % 4294967296)=((x*2^s % 4294967296:Nat):Int) from by omega,u32_or_nat _ _ (by omega) (by omega),(xe s c x hs hc).1]
theorem left_z2 (x s:Nat) (hx:x<4294967296) (hs:s<32):bits .or .u32 0 (IntKind.u64.wrap ((x:Int)*2^s) / 4294967296 % 4294967296)=((x*2^s / 4294967296:Nat):Int):=by
 have h:=(ki x s hx hs).2;rw [(ki x s hx hs).1,show (((x*2^s:Nat):Int) / 4294967296 % 4294967296)=((x*2^s / 4294967296:Nat):Int) from by omega];have:=u32_or_nat 0 (x*2^s / 4294967296) (by omega) (by omega);rw [Nat.zero_or] at this;exact this
theorem BW (x s:Nat) (hx:x<4294967296):x*2^s / 4294967296<2^s:=by
 rw [Nat.div_lt_iff_lt_mul (by decide),Nat.mul_comm];exact Nat.mul_lt_mul_of_pos_left hx (Nat.two_pow_pos s)
theorem kr (xs:List Nat) (k:Nat) (h:Sm xs) (hk:k<=xs.length):ak xs / 4294967296^k=ak (xs.drop k):=by
 have e:=bN (xs.take k) (xs.drop k);have hl:(xs.take k).length=k:=by rw [List.length_take];omega
 rw [List.take_append_drop,hl] at e;have h1:=bD (h.take k);rw [hl] at h1;rw [e,Nat.add_comm,Nat.mul_add_div (Nat.pow_pos (by decide)),Nat.div_eq_of_lt h1,Nat.add_zero]
theorem cT (xs:List Nat) (k:Nat):ak (xs.drop k)=xs.getD k 0+4294967296*ak (xs.drop (k+1)):=by
 by_cases h:k<xs.length
 ·rw [List.drop_eq_getElem_cons h];simp [ak,h]
 ·rw [List.drop_of_length_le (by omega),List.drop_of_length_le (by omega)];simp [List.getD,h,ak]
theorem pJ (xs:List Nat) (s k:Nat) (h:Sm xs) (hs:s<32) (hk:k<xs.length) :
  ak xs / 2^s / 4294967296^k % 4294967296=(xs[k]+4294967296*xs.getD (k+1) 0) / 2^s % 4294967296:=by
 obtain ⟨r,hr,hr0⟩:=ry s hs;rw [Nat.div_div_eq_div_mul,Nat.mul_comm,<- Nat.div_div_eq_div_mul,kr xs k h (by omega),cT xs k,cT xs (k+1)];have e1:xs.getD k 0=xs[k]:=by simp [hk]
 rw [e1];generalize xs[k]=x;generalize xs.getD (k+1) 0=y;generalize ak (xs.drop (k+1+1))=D;have e2:x+4294967296*(y+4294967296*D)=(x+4294967296*y)+2^s*(4294967296*(r*D)):=by
  have:4294967296*D=2^s*(r*D):=by rw [<- Nat.mul_assoc,hr]
  rw [Nat.mul_add,this,Nat.mul_left_comm 4294967296 (2^s),Nat.add_assoc]
 rw [e2,Nat.add_mul_div_left _ _ (Nat.two_pow_pos s),Nat.add_mul_mod_self_left]
theorem mh (m s:Nat):((m:Int) / 2^s)=((m / 2^s:Nat):Int):=by
 rw [Int.natCast_ediv,Int.natCast_pow];rfl
theorem mA (us mid:List Nat) (j k:Nat) (hm:mid.length=k) (hj:j+k<us.length):(us.take j++mid++us.drop (j+k))[j+k]? = some us[j+k]:=by
 have hl:(us.take j).length=j:=by rw [List.length_take];omega
 rw [List.getElem?_append_right (by simp [hl,hm]),List.drop_eq_getElem_cons hj];have e3:j+k-(us.take j++mid).length=0:=by simp [hl,hm]
 rw [e3];rfl
theorem iu (us mid:List Nat) (j k x:Nat) (hm:mid.length=k) (hj:j+k<us.length):(us.take j++mid++us.drop (j+k)).set (j+k) x=us.take j++(mid++[x])++us.drop (j+(k+1)):=by
 have hl:(us.take j).length=j:=by rw [List.length_take];omega
 rw [List.set_append_right _ _ (by simp [hl,hm]),List.drop_eq_getElem_cons hj];have e3:j+k-(us.take j++mid).length=0:=by simp [hl,hm]
 rw [e3];simp [Nat.add_assoc]
theorem jy (us mid:List Nat) (j k:Nat) (hm:mid.length=k) (hj:j+k<=us.length):(us.take j++mid++us.drop (j+k)).length=us.length:=by
 simp [hm];omega
theorem vj (u lo d:Nat) (hu:u<4294967296) (hlo:lo<4294967296) (hd:d<=1) :
  ∃ T x e:Nat,IntKind.u64.wrap (IntKind.u64.wrap ((u:Int)-(lo:Int))-(d:Int))=(T:Int)/\T<18446744073709551616/\T / 9223372036854775808=e/\T % 4294967296=x/\e<=1/\x<4294967296/\x+lo+d=u+4294967296*e:=by
 rw [IntKind.wrap_u64,IntKind.wrap_u64];by_cases h:lo+d<=u
 ·exact ⟨u-lo-d,u-lo-d,0,by omega,by omega,by omega,by omega,by omega,by omega,by omega⟩
 ·exact ⟨18446744073709551616+u-lo-d,4294967296+u-lo-d,1,by omega,by omega,by omega,by omega,by omega,by omega,by omega⟩
theorem rm (ys:List Nat) (n V:Nat) (h:ak ys<V) (hV:V<=4294967296^n) (hn:n<=ys.length):ak (ys.drop n)=0/\ak (ys.take n)=ak ys:=by
 have e:=bN (ys.take n) (ys.drop n);have hl:(ys.take n).length=n:=by rw [List.length_take];omega
 rw [List.take_append_drop,hl] at e;have h0:ak (ys.drop n)=0:=by
  rcases Nat.eq_zero_or_pos (ak (ys.drop n)) with h0 | h0
  ·exact h0
  ·have:4294967296^n*1<=4294967296^n*ak (ys.drop n):=Nat.mul_le_mul_left _ h0;rw [Nat.mul_one] at this;omega
 rw [h0,Nat.mul_zero] at e;exact ⟨h0,by omega⟩
theorem mB {us vs:List Nat} {j:Nat} (sv:Sm vs) (su:Sm us) (hj:j+vs.length<us.length) (h:ak (us.drop (j+1))<ak vs) :
  ak ((us.drop j).take (vs.length+1))=ak (us.drop j)/\ak (us.drop j)<4294967296*ak vs/\ak (us.drop (j+(vs.length+1)))=0:=by
 have e1:=cT us j;have e2:us.getD j 0<4294967296:=su.getD j;have hV:=bD sv;have h2:ak (us.drop j)<4294967296*ak vs:=by
  have:4294967296*(ak (us.drop (j+1))+1)<=4294967296*ak vs:=Nat.mul_le_mul_left _ h;omega
 have h3:=rm (us.drop j) (vs.length+1) (4294967296*ak vs) h2 (by rw [Nat.pow_succ,Nat.mul_comm];exact Nat.mul_le_mul_right _ (Nat.le_of_lt hV)) (by rw [List.length_drop];omega);rw [List.drop_drop] at h3;exact ⟨h3.2,h2,h3.1⟩
theorem mU {m n:Nat} (h:n<=m):0<=iG m n:=by
 rcases Nat.lt_or_ge n m with h1 | h1
 ·rw [pC h1];decide
 ·rw [show m=n from by omega,xf];decide
theorem xF {xs:List Nat} (h:Tr xs) (hne:xs≠[]):∃ t,xs[xs.length-1]? = some t/\0<t:=by
 induction xs with
 | nil=>exact absurd rfl hne
 | cons x r ih =>
  cases r with
  | nil =>
   refine ⟨x,rfl,?_⟩;have:=h.pos;simp only [ak] at this;omega
  | cons y s =>
   obtain ⟨t,h1,h2⟩:=ih h.tail (by simp);exact ⟨t,by simpa using h1,h2⟩
theorem uB (ys vs:List Nat) (t n1 s:Nat) (hs:s=32-n1) (h1:1<=n1) (h2:n1<=32) (sy:Sm ys) (hy:0<ys.length) (ht:ys[ys.length-1]? = some t) (ht1:2^(n1-1)<=t) (ht2:t<2^n1)
  (sv:Sm vs) (tv:Tr vs) (hv:ak vs=ak ys*2^s):vs.length=ys.length/\∃ tt,vs[vs.length-1]? = some tt/\2147483648<=tt:=by
 obtain ⟨k,hk⟩:∃ k,ys.length=k+1:=⟨ys.length-1,by omega⟩;rw [hk,Nat.add_sub_cancel] at ht;obtain ⟨hkl,hte⟩:=List.getElem?_eq_some_iff.1 ht;have e1:ak ys=ak (ys.take k)+4294967296^k*t:=by
  have:=ay ys k hkl;rw [List.take_of_length_le (by omega),hte] at this;exact this
 have hlo:=bD (sy.take k);rw [List.length_take,show min k ys.length=k from by omega] at hlo;have p1:2^n1*2^s=4294967296:=by rw [<- Nat.pow_add,hs,show n1+(32-n1)=32 from by omega]
 have p2:2^(n1-1)*2^s=2147483648:=by rw [<- Nat.pow_add,hs,show n1-1+(32-n1)=31 from by omega]
 have hs0:0<2^s:=Nat.two_pow_pos s;generalize 2^s=S at hv p1 p2 hs0;have up:ak vs<4294967296^(k+1):=by
  have a1:ak ys+1<=4294967296^k*(t+1):=by rw [Nat.mul_add,Nat.mul_one];omega
  have a2:4294967296^k*(t+1)<=4294967296^k*2^n1:=Nat.mul_le_mul_left _ ht2;have a3:(ak ys+1)*S<=4294967296^k*2^n1*S:=Nat.mul_le_mul_right _ (Nat.le_trans a1 a2);rw [Nat.mul_assoc,p1,<- Nat.pow_succ,Nat.add_mul,Nat.one_mul] at a3;omega
 have lo:4294967296^k*2147483648<=ak vs:=by
  have a1:4294967296^k*2^(n1-1)<=ak ys:=by
   have:=Nat.mul_le_mul_left (4294967296^k) ht1;omega
  have a2:=Nat.mul_le_mul_right S a1;rw [Nat.mul_assoc,p2] at a2;omega
 have hp:0<4294967296^k:=Nat.pow_pos (by decide);have vne:vs≠[]:=by intro e;rw [e] at lo;simp only [ak] at lo;omega
 have l1:vs.length-1<k+1:=by
  have:=iZ tv vne;exact (Nat.pow_lt_pow_iff_right (a:=4294967296) (by decide)).1 (Nat.lt_of_le_of_lt this up)
 have l2:k<vs.length:=by
  have a:=bD sv;have b:4294967296^k*1<=4294967296^k*2147483648:=Nat.mul_le_mul_left _ (by decide);exact (Nat.pow_lt_pow_iff_right (a:=4294967296) (by decide)).1 (by omega)
 have l3:vs.length=k+1:=by omega
 refine ⟨by omega,vs[k],by rw [l3,Nat.add_sub_cancel];exact List.getElem?_eq_getElem l2,?_⟩;have e2:=ay vs k l2;rw [List.take_of_length_le (by omega)] at e2;have hl2:=bD (sv.take k);rw [List.length_take,show min k vs.length=k from by omega] at hl2;have a1:4294967296^k*2147483648<4294967296^k*(vs[k]+1):=by rw [Nat.mul_add,Nat.mul_one];omega
 have:=Nat.lt_of_mul_lt_mul_left a1;omega
theorem Ws.blk {w:World} {v:Value} {xs:List Nat} (h:Ws w v xs):∀ k,az v=some k->k<w.heap.size:=by
 intro k hk;rcases h.sh with ⟨rfl,_⟩ | ⟨b,off,cap,rfl,hb,_⟩
 ·simp [az] at hk
 ·simp [az] at hk;omega
theorem norm_lt (xs:List Nat) (s:Nat) (h:Sm xs) (hs:s<32):ak xs*2^s<4294967296^(xs.length+2-1):=by
 have h1:2^s<=2^31:=Nat.pow_le_pow_right (by decide) (by omega);have h2:=bD h;have h3:ak xs*2^s<=ak xs*2^31:=Nat.mul_le_mul_left _ h1;have h4:(ak xs+1)*4294967296<=4294967296^xs.length*4294967296:=Nat.mul_le_mul_right _ h2;rw [show xs.length+2-1=xs.length+1 from by omega,Nat.pow_succ];omega
theorem nE {U V g W p e:Nat} (h:W+g*V=U+p*e) (he:e=0) (h1:U / V<=g) (hV:0<V):U / V=g/\W=U % V:=by
 subst he;rw [Nat.mul_zero,Nat.add_zero] at h;have h2:g<=U / V:=by
  rw [Nat.le_div_iff_mul_le hV];omega
 have h3:U / V=g:=by omega
 refine ⟨h3,?_⟩;have:=Nat.div_add_mod U V;rw [h3,Nat.mul_comm] at this;omega
theorem oV {U V g W p e:Nat} (h:W+g*V=U+p*e) (he:e=1) (h1:U / V<=g) (h2:g<=U / V+1) (hW:W<p) (hV:0<V):U / V=g-1/\1<=g/\W+V=U % V+p:=by
 subst he;rw [Nat.mul_one] at h;have h3:=Nat.div_add_mod U V;have hr:=Nat.mod_lt U hV;generalize U / V=q at h1 h2 h3 ⊢;generalize U % V=r at h3 hr ⊢;have h4:q≠g:=by
  intro e;rw [e,Nat.mul_comm] at h3;omega
 have h5:g=q+1:=by omega
 refine ⟨by omega,by omega,?_⟩;rw [h5,Nat.add_mul,Nat.one_mul,Nat.mul_comm q] at h;omega
theorem bW {g r vt hh:Nat} (h:g*vt+r=hh) (hg:1<=g):(g-1)*vt+(r+vt)=hh:=by
 obtain ⟨m,rfl⟩:∃ m,g=m+1:=⟨g-1,by omega⟩;rw [Nat.add_sub_cancel];rw [Nat.add_mul,Nat.one_mul] at h;omega
theorem xP (X Y S Q R:Nat) (hS:0<S) (hR:R<Y*S) (h:X*S=Q*(Y*S)+R):Q=X / Y/\R / S=X % Y:=by
 have hY:0<Y:=by
  rcases Nat.eq_zero_or_pos Y with e | e
  ·rw [e,Nat.zero_mul] at hR;omega
  ·exact e
 have hYS:0<Y*S:=Nat.mul_pos hY hS;have e1:X*S / (Y*S)=X / Y:=Nat.mul_div_mul_right X Y hS;have e2:X*S / (Y*S)=Q:=by
  rw [h,Nat.mul_comm Q,Nat.mul_add_div hYS,Nat.div_eq_of_lt hR,Nat.add_zero]
 have e3:X*S % (Y*S)=R:=by
  rw [h,Nat.mul_comm Q,Nat.mul_add_mod,Nat.mod_eq_of_lt hR]
 rw [Nat.mul_mod_mul_right] at e3;exact ⟨by rw [<- e2,e1],by rw [<- e3,Nat.mul_div_cancel _ hS]⟩
theorem sC {m n:Nat} (h:m<n):iG m n<0:=by rw [pD h];decide
theorem lA {xs ys:List Nat} (sx:Sm xs) (tx:Tr xs) (sy:Sm ys) (h:ak xs<=ak ys):xs.length<=ys.length:=by
 rcases Nat.lt_or_ge ys.length xs.length with h1 | h1
 ·have:=cw sy tx h1;omega
 ·exact h1
theorem oz {xs:List Nat} (h:Sm xs) (hl:xs.length<=2):ak xs<18446744073709551616:=by
 have h1:=bD h;have h2:4294967296^xs.length<=4294967296^2:=Nat.pow_le_pow_right (by decide) hl;omega
def fO (b:Bool) (n:Nat):Int:=if b then -(n:Int) else n
theorem CT (x:Int):fO (decide (x<0)) x.natAbs=x:=by
 unfold fO;by_cases h:x<0
 ·simp [h];omega
 ·simp [h];omega
theorem oq (b:Bool) (n:Nat):(fO b n).natAbs=n:=by unfold fO;cases b<;>simp
theorem sgq_neg (b:Bool) (n:Nat) (h:n≠0):decide (fO b n<0)=b:=by
 unfold fO;cases b<;>simp<;>omega
theorem mk_zero (b:Bool) (n d:Nat) (h:n=0∨d=0):mkRat (fO b n) d=0:=by
 rcases h with h | h
 ·subst h;have:fO b 0=0:=by unfold fO;cases b<;>rfl
  rw [this,Rat.zero_mkRat]
 ·subst h;rw [Rat.mkRat_zero]
theorem uq (b:Bool) (n d:Nat) (hn:n≠0) (hd:d≠0) :
  decide ((mkRat (fO b n) d).num<0)=b/\(mkRat (fO b n) d).num.natAbs=n / Nat.gcd n d/\(mkRat (fO b n) d).den=d / Nat.gcd n d:=by
 have hg:0<Nat.gcd n d:=Nat.gcd_pos_of_pos_left _ (by omega);have hdv:((Nat.gcd n d:Nat):Int)∣fO b n:=by
  rw [<- Int.dvd_natAbs,oq];exact Int.natCast_dvd_natCast.2 (Nat.gcd_dvd_left n d)
 have hnum:(mkRat (fO b n) d).num=fO b n / (Nat.gcd n d:Nat):=by
  rw [Rat.num_mkRat,if_neg hd,oq,Nat.gcd_comm]
 have hden:(mkRat (fO b n) d).den=d / Nat.gcd n d:=by
  rw [Rat.den_mkRat,if_neg hd,oq,Nat.gcd_comm d n]
 have habs:(fO b n / (Nat.gcd n d:Nat)).natAbs=n / Nat.gcd n d:=by
  rw [Int.natAbs_ediv_of_dvd hdv,oq,Int.natAbs_natCast]
 have hpos:0<n / Nat.gcd n d:=Nat.div_pos (Nat.le_of_dvd (by omega) (Nat.gcd_dvd_left n d)) hg;refine ⟨?_,by rw [hnum,habs],hden⟩;rw [hnum];have e:fO b n=(fO b n / (Nat.gcd n d:Nat))*(Nat.gcd n d:Nat):=(Int.ediv_mul_cancel hdv).symm;have hz:fO b n / (Nat.gcd n d:Nat)≠0:=by
  intro h0;rw [h0] at habs;simp at habs;omega
 have hs:=sgq_neg b n hn;refine Eq.trans ?_ hs;rw [Bool.eq_iff_iff,decide_eq_true_eq,decide_eq_true_eq];constructor
 ·intro h;rw [e];exact Int.mul_neg_of_neg_of_pos h (by omega)
 ·intro h;rw [e] at h;rcases Int.lt_trichotomy (fO b n / (Nat.gcd n d:Nat)) 0 with h1 | h1 | h1
  ·exact h1
  ·exact absurd h1 hz
  ·exact absurd h (by have:=Int.mul_pos h1 (show (0:Int)<(Nat.gcd n d:Nat) by omega);omega)
def rB (q:Rat):Bool:=decide (q.num<0)
def rN (q:Rat):Nat:=q.num.natAbs
theorem fN (q:Rat):fO (rB q) (rN q)=q.num:=CT _
theorem sgq_mul (a b:Bool) (m n:Nat):fO (a != b) (m*n)=fO a m*fO b n:=by
 unfold fO;cases a<;>cases b<;>simp<;>grind
theorem q_mul (x y:Rat):mkRat (fO (rB x != rB y) (rN x*rN y)) (x.den*y.den)=x*y:=by
 rw [sgq_mul,fN,fN,Rat.mul_def']
theorem iq (b:Bool) (m n:Nat):fO b (m*n)=fO b m*n:=by
 unfold fO;cases b<;>simp
 grind
theorem q_div (x y:Rat):mkRat (fO (rB x != rB y) (rN x*y.den)) (rN y*x.den)=x / y:=by
 by_cases hy:y=0
 ·subst hy;rw [show rN 0*x.den=0 by simp [rN],Rat.mkRat_zero,Rat.div_def,Rat.inv_zero,Rat.mul_zero]
 ·have hyn:y.num≠0:=fun h=>hy (Rat.num_eq_zero.1 h)
  have hyp:rN y≠0:=by unfold rN;omega
  have e:x / y=Rat.divInt (x.num*y.den) (x.den*y.num):=by
   rw [Rat.div_def,Rat.inv_def,<- Rat.divInt_mul_divInt,Rat.num_divInt_den]
  rw [e,<- Rat.divInt_ofNat,Rat.divInt_eq_divInt_iff (by have:=x.den_nz;simp;omega) (by
   have:=x.den_nz;intro h;rcases Int.mul_eq_zero.1 h with h | h
   ·omega
   ·exact hyn h)]
  rw [iq];have e2:fO (rB x != rB y) (rN x)*y.num=x.num*(rN y:Nat):=by
   have h1:=fN x;have h2:=fN y;rw [<- h1,<- h2];unfold fO;cases rB x<;>cases rB y<;>simp<;>grind
  rw [Int.natCast_mul]
  calc fO (rB x != rB y) (rN x)*(y.den:Int)*((x.den:Int)*y.num)=(fO (rB x != rB y) (rN x)*y.num)*((y.den:Int)*x.den):=by grind
   _=x.num*(rN y:Nat)*((y.den:Int)*x.den):=by rw [e2]
   _=x.num*(y.den:Int)*((rN y:Int)*(x.den:Int)):=by grind
theorem q_ne {x:Rat} (h:x≠0):rN x≠0:=by
 have:x.num≠0:=fun h0=>h (Rat.num_eq_zero.1 h0)
 unfold rN;omega
theorem Cw {x:Rat} (h:rN x=0):x=0:=by
 refine Rat.num_eq_zero.1 ?_;unfold rN at h;omega
open Go.Lib
def sD:Nat->Nat->List UInt8
 | 0,_=>[]
 | k+1,c=>sD k (c / 10)++[UInt8.ofNat (48+c % 10)]
theorem tL {u:Nat} (h:¬ u<10):decDigits u=decDigits (u / 10)++[UInt8.ofNat (48+u % 10)]:=by rw [decDigits,dif_neg h]
theorem dec_pad (k q c:Nat) (hq:0<q) (hc:c<10^k):decDigits (q*10^k+c)=decDigits q++sD k c:=by
 induction k generalizing c with
 | zero =>
  have:c=0:=by simpa using hc
  subst this;simp [sD]
 | succ k ih =>
  have hp:0<10^k:=Nat.pow_pos (by decide);have h1:10^k<=q*10^k:=Nat.le_mul_of_pos_left _ hq;rw [Nat.pow_succ] at hc ⊢;have hd:(q*(10^k*10)+c) / 10=q*10^k+c / 10:=by
   rw [<- Nat.mul_assoc];omega
  have hm:(q*(10^k*10)+c) % 10=c % 10:=by
   rw [<- Nat.mul_assoc];omega
  rw [tL (by rw [<- Nat.mul_assoc];omega),hd,hm,ih (c / 10) (by omega),sD,List.append_assoc]
theorem Ag (k:Nat):sD k 0=List.replicate k 48:=by
 induction k with
 | zero=>rfl
 | succ k ih =>
  rw [sD,show (0:Nat) / 10=0 from rfl,ih,List.replicate_succ'];rfl
theorem padD_eq (k c:Nat) (hk:0<k) (hc:c<10^k):sD k c=List.replicate (k-(decDigits c).length) 48++decDigits c:=by
 induction k generalizing c with
 | zero=>omega
 | succ k ih =>
  rw [Nat.pow_succ] at hc;by_cases h:c<10
  ·rw [sD,show c / 10=0 by omega,Ag,decDigits_one h,List.length_singleton,show k+1-1=k by omega,Nat.mod_eq_of_lt h]
  ·have hk0:0<k:=by
    rcases Nat.eq_zero_or_pos k with h0 | h0
    ·subst h0;simp at hc;omega
    ·exact h0
   rw [sD,ih (c / 10) hk0 (by omega),tL h,List.length_append,List.length_singleton,List.append_assoc,show k+1-((decDigits (c / 10)).length+1)=k-(decDigits (c / 10)).length by omega]
theorem pt {c k:Nat} (hk:0<k) (hc:c<10^k):nDigits c<=k:=by
 induction k generalizing c with
 | zero=>omega
 | succ k ih =>
  rw [Nat.pow_succ] at hc;by_cases h:c<10
  ·rw [nDigits_small h];omega
  ·rw [nDigits_big h];have hk0:0<k:=by
    rcases Nat.eq_zero_or_pos k with h0 | h0
    ·subst h0;simp at hc;omega
    ·exact h0
   have:=ih hk0 (show c / 10<10^k by omega);omega
theorem lu {c k:Nat} (hk:0<k) (hc:c<10^k):(decDigits c).length<=k:=by
 rw [decDigits_length];exact pt hk hc
def dS (B:Nat):List Nat->Nat
 | []=>0
 | c :: r=>c+B*dS B r
theorem jW (B:Nat) (l:List Nat) (c:Nat):dS B (l++[c])=dS B l+B^l.length*c:=by
 induction l with
 | nil=>simp [dS]
 | cons x r ih =>
  simp only [List.cons_append,dS,ih,List.length_cons,Nat.pow_succ];rw [Nat.mul_add,<- Nat.mul_assoc,Nat.mul_comm B (B^r.length)];omega
def lk (l:List Nat) (i:Nat):List UInt8:=decDigits (dS 1000000000 (l.drop i))
theorem nu (l:List Nat) (i:Nat) (hi:i+1<l.length) (hc:l[i]'(by omega)<1000000000) (hp:0<dS 1000000000 (l.drop (i+1))) :
  lk l i=lk l (i+1)++(List.replicate (9-(decDigits (l[i]'(by omega))).length) 48++decDigits (l[i]'(by omega))):=by
 unfold lk;rw [List.drop_eq_getElem_cons (by omega:i<l.length),dS,<- padD_eq 9 _ (by decide) hc,Nat.add_comm,Nat.mul_comm];exact dec_pad 9 _ _ hp hc
theorem nt (l:List Nat) (i:Nat) (hi:i+1=l.length):lk l i=decDigits (l[i]'(by omega)):=by
 unfold lk;rw [List.drop_eq_getElem_cons (by omega:i<l.length),List.drop_of_length_le (by omega)];simp [dS]
theorem ib {α:Type} (xs:List α) (i:Nat) (a:α):xs.toArray.setIfInBounds i a=(xs.set i a).toArray:=by simp
theorem ig {α:Type} (x a:α) (xs:List α):(x::xs).set 0 a=a::xs:=rfl
theorem ie {α:Type} (x a:α) (xs:List α) (i:Nat):(x::xs).set (i+1) a=x::xs.set i a:=rfl
end Go.Proofs.YthblidglcppakaaGreatDoor
