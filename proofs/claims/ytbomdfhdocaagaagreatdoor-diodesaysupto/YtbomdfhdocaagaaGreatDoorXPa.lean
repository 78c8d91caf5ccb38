/- Contracts. -/
import Derived.WalkKit
import Derived.Deep.Draws
import Derived.Test.YtbomdfhdocaagaaGreatDoorProg
namespace Go.Proofs.YtbomdfhdocaagaaGreatDoor
open Go.RowKit
set_option linter.all false
set_option maxHeartbeats 8000000
set_option maxRecDepth 10000
variable {xs ys:List Nat} {w w1 w':World} {g n:Nat} {p:Prop} {v:Value} {r row:Option Nat}
def O {p:Prop} (h:p:=by omega):p:=h
def Z {p:Prop} (h:p:=by simp):p:=h
def zK {p:Prop} (h:p:=by kernel_rfl):p:=h
def zG {p:Prop} (h:p:=by go_simp):p:=h
def zD {p:Prop} (h:p:=by decide):p:=h
def bH (h:p:=by simp [intOf];omega):p:=h
def zN {p:Prop} (h:p:=by go_num):p:=h
def zC {α:Type} {a b:α} (h:a=b:=by kernel_rfl):some a=some b:=congrArg some h
def zF {p:Prop} (h:p:=by first | exact aa GG (aS _) | exact aa GG aC | exact GG):p:=h
def zE {p:Prop} (h:p:=by first | exact ae _ _ | exact aS _ | exact aC):p:=h
def zQ {p:Prop} (h:p:=by first | exact aS _ | exact aC | exact ae _ _):p:=h
def eX {α:Type} (a:α):∃ x,x=a:=⟨_,rfl⟩
def setA {α:Type} (xs:List α) (i:Nat) (a:α):xs.toArray.setIfInBounds i a=(xs.set i a).toArray:=Z
def setZ {α:Type} (x a:α) (xs:List α):(x::xs).set 0 a=a::xs:=rfl
def setS {α:Type} (x a:α) (xs:List α) (i:Nat):(x::xs).set (i+1) a=x::xs.set i a:=rfl
def zL {n:Nat}:n≤n:=Nat.le_refl _
def zJ {α:Type} {a b:α} (h:some a=some b):a=b:=Option.some.inj h
def zB {α:Type} [BEq α] [LawfulBEq α] {a b:α} (h:a≠b):(a==b)=false:=beq_eq_false_iff_ne.2 h
def zX {α:Type} {l:List α} {i:Nat} (h:i<l.length):l[i]?=some l[i]:=List.getElem?_eq_getElem h
def zY {α:Type} {l:List α} {i:Nat} {a:α} (h:l[i]?=some a):∃ h:i<l.length,l[i]=a:=List.getElem?_eq_some_iff.1 h
def zZ {α:Type} {l:Array α} {i:Nat} {a:α} (h:l[i]?=some a):∃ h:i<l.size,l[i]=a:=Array.getElem?_eq_some_iff.1 h
def zT {α:Type} {l:List α} {i:Nat} (h:l.length≤i):l.take i=l:=List.take_of_length_le h
def zW {α:Type} {l:List α} {i:Nat} {a:α}:l.getD i a=l[i]?.getD a:=List.getD_eq_getElem?_getD
def zI {α:Type} {a b:α}:(some a=some b)=(a=b):=Option.some.injEq ..
def zP (n:Nat):n=0∨0<n:=Nat.eq_zero_or_pos n
def ab (h:p):Hid p:=h
def aG (h:Hid p):p:=h
def aQ:List Nat->List Nat
 | []=>[]
 | x :: r=>if aQ r=[]/\x=0 then [] else x :: aQ r
def aZ (xs:List Nat):(aQ xs).length<=xs.length:=by
 induction xs with
 | nil=>simp [aQ]
 | cons x r ih=>unfold aQ;split<;>simp<;>omega
def oJ (xs:List Nat):aQ (xs++[0])=aQ xs:=by
 induction xs with
 | nil=>simp [aQ]
 | cons x r ih=>simp [aQ,ih]
def kP (xs:List Nat) (x:Nat) (h:x≠0):aQ (xs++[x])=xs++[x]:=by
 induction xs with
 | nil=>simp [aQ,h]
 | cons y r ih=>simp [aQ,ih]
def lI (xs:List Nat) (i:Nat) (hi:i<(aQ xs).length):(aQ xs)[i]=xs[i]'(Nat.lt_of_lt_of_le hi (aZ xs)):=by
 induction xs generalizing i with
 | nil=>simp [aQ] at hi
 | cons x r ih =>
  by_cases h:aQ r=[]/\x=0
  ·have e:aQ (x :: r)=[]:=by rw [aQ,if_pos h]
   rw [e] at hi;simp at hi
  ·have e:aQ (x :: r)=x :: aQ r:=by rw [aQ,if_neg h]
   cases i with
   | zero=>simp [e]
   | succ i =>
    simp only [e,List.getElem_cons_succ];exact ih i (by rw [e] at hi;simpa using hi)
def jY (xs:List Nat) (k:Nat) (h:k<xs.length):xs.take (k+1)=xs.take k++[xs[k]]:=by
 rw [List.take_succ_eq_append_getElem h]
def j9 (xs:List Nat) (k:Nat) (h:k<xs.length) (a:xs[k]=0):aQ (xs.take (k+1))=aQ (xs.take k):=by
 rw [jY xs k h,a,oJ]
def kQ (xs:List Nat) (k:Nat) (h:k<xs.length) (a:xs[k]≠0):aQ (xs.take (k+1))=xs.take (k+1):=by
 rw [jY xs k h,kP _ _ a]
def ai:List Nat->Nat
 | []=>0
 | x :: r=>x+4294967296*ai r
def fh (xs:List Nat):ai (aQ xs)=ai xs:=by
 induction xs with
 | nil=>rfl
 | cons x r ih =>
  unfold aQ;split
  ·rename_i h;simp only [ai];rw [<- ih,h.1,h.2];simp [ai]
  ·simp [ai,ih]
def bN (xs ys:List Nat):ai (xs++ys)=ai xs+4294967296^xs.length*ai ys:=by
 induction xs with
 | nil=>simp [ai]
 | cons x r ih =>
  simp only [List.cons_append,ai,ih,List.length_cons,Nat.pow_succ];rw [Nat.mul_add,<- Nat.mul_assoc,Nat.mul_comm 4294967296 (4294967296^r.length)];omega
def Sm (xs:List Nat):Prop:=∀ x∈xs,x<4294967296
def Sm.nil:Sm []:=by simp [Sm]
def Sm.get (h:Sm xs) (i:Nat) (hi:i<xs.length):xs[i]<4294967296:=h _ (List.getElem_mem hi)
def Sm.append (h:Sm xs) (k:Sm ys):Sm (xs++ys):=fun x hx=>by
 rcases List.mem_append.1 hx with hx | hx
 ·exact h x hx
 ·exact k x hx
def Sm.cons {x:Nat} (a:x<4294967296) (h:Sm xs):Sm (x :: xs):=fun y hy=>by
 rcases List.mem_cons.1 hy with rfl | hy
 ·exact a
 ·exact h y hy
def Sm.take (h:Sm xs) (n:Nat):Sm (xs.take n):=fun x a=>h x (List.mem_of_mem_take a)
def Sm.drop (h:Sm xs) (n:Nat):Sm (xs.drop n):=fun x a=>h x (List.mem_of_mem_drop a)
def Sm.trimL (h:Sm xs):Sm (aQ xs):=by
 induction xs with
 | nil=>exact h
 | cons x r ih =>
  unfold Go.Proofs.YtbomdfhdocaagaaGreatDoor.aQ;split
  ·exact Sm.nil
  ·exact Sm.cons (h x Z) (ih fun y hy=>h y (by simp [hy]))
def bD (h:Sm xs):ai xs<4294967296^xs.length:=by
 induction xs with
 | nil=>simp [ai]
 | cons x r ih =>
  have b:=h x Z;have a:=ih fun y hy=>h y (by simp [hy])
  simp only [ai,List.length_cons,Nat.pow_succ];have:4294967296*ai r+4294967296<=4294967296^r.length*4294967296:=by
   rw [Nat.mul_comm (4294967296^r.length)];have:ai r+1<=4294967296^r.length:=a;have:=Nat.mul_le_mul_left 4294967296 this;omega
  omega
def Tr (xs:List Nat):Prop:=aQ xs=xs
def xm (xs:List Nat):aQ (aQ xs)=aQ xs:=by
 induction xs with
 | nil=>rfl
 | cons x r ih =>
  by_cases h:aQ r=[]/\x=0
  ·have e:aQ (x :: r)=[]:=by rw [aQ,if_pos h]
   rw [e];rfl
  ·have e:aQ (x :: r)=x :: aQ r:=by rw [aQ,if_neg h]
   rw [e,aQ,ih,if_neg h]
def Tr.trimL (xs:List Nat):Tr (aQ xs):=xm xs
def Tr.tail {x:Nat} {r:List Nat} (h:Tr (x :: r)):Tr r:=by
 unfold Tr at h ⊢;unfold Go.Proofs.YtbomdfhdocaagaaGreatDoor.aQ at h;split at h
 ·cases h
 ·exact (List.cons.inj h).2
def Tr.pos {x:Nat} {r:List Nat} (h:Tr (x :: r)):0<ai (x :: r):=by
 induction r generalizing x with
 | nil =>
  unfold Tr Go.Proofs.YtbomdfhdocaagaaGreatDoor.aQ at h;simp [Go.Proofs.YtbomdfhdocaagaaGreatDoor.aQ] at h;simp [ai];omega
 | cons y r ih =>
  have:=ih (Tr.tail h);show 0<x+4294967296*ai (y :: r)
  omega
def AM:∀ {xs ys:List Nat},Sm xs->Sm ys->Tr xs->Tr ys->ai xs=ai ys->xs=ys
 | [],[],_,_,_,_,_=>rfl
 | [],y :: s,_,_,_,ty,h=>by have:=Tr.pos ty;rw [<- h] at this;simp [ai] at this
 | x :: r,[],_,_,tx,_,h=>by have:=Tr.pos tx;rw [h] at this;simp [ai] at this
 | x :: r,y :: s,hx,hy,tx,ty,h=>by
  have a:=hx x Z;have b:=hy y Z;simp only [ai] at h;have e:x=y:=O
  have e2:ai r=ai s:=O
  rw [e,AM (fun z hz=>hx z (by simp [hz])) (fun z hz=>hy z (by simp [hz])) (Tr.tail tx) (Tr.tail ty) e2]
structure Ws (w:World) (v:Value) (xs:List Nat):Prop where
 sm:Sm xs
 sh:(v=.slice none 0 0/\xs=[])∨∃ b off cap,v=.slice (some ⟨b,off,none⟩) xs.length cap/\b<w.heap.size/\xs.length<=cap/\cap<=maxLen/\∀ i (h:i<xs.length),w.cell? ⟨b,off+i,none⟩=some (.int .u32 (xs[i]:Nat))
def ar:Value->Option Nat
 | .slice (some a) _ _=>some a.block
 | _=>none
def Ws.keep (h:Ws w v xs) (hg:w.grownBy w' row) (a:∀ k,row=some k->ar v≠some k):Ws w' v xs:=by
 refine ⟨h.sm,?_⟩;rcases h.sh with h | ⟨b,off,cap,rfl,hb,c,d,hc⟩
 ·exact .inl h
 ·refine .inr ⟨b,off,cap,rfl,Nat.lt_of_lt_of_le hb hg.size,c,d,fun i hi=>hg.cell (hc i hi) ?_⟩;intro e;exact a b e.symm rfl
def Ws.nil (w:World):Ws w (.slice none 0 0) []:=⟨Sm.nil,.inl ⟨rfl,rfl⟩⟩
def aq (xs:List Nat):Array Value:=(xs.map fun x:Nat=>Value.int .u32 x).toArray
def qT (xs:List Nat):(aq xs).size=xs.length:=by simp [aq]
def rz (xs:List Nat) (i:Nat) (h:i<xs.length):(aq xs)[i]? = some (.int .u32 (xs[i]:Nat)):=by simp [aq,h]
def rA (xs:List Nat) (i v:Nat):(aq xs).setIfInBounds i (.int .u32 (v:Nat))=aq (xs.set i v):=by
 simp [aq,List.map_set]
def bZ (w:World) (g:Nat) (xs:List Nat):Prop:=w.heap[g]? = some (.cells (aq xs) 174 (0,0))
def bZ.lt (h:bZ w g xs):g<w.heap.size:=(zZ h).1
def bZ.cell (h:bZ w g xs) (i:Nat) (hi:i<xs.length):w.cell? ⟨g,i,none⟩=some (.int .u32 (xs[i]:Nat)):=by
 unfold bZ at h;simp [World.cell?,h,rz xs i hi]
def bZ.free (h:bZ w g xs) (i:Nat):w.frozen? ⟨g,i,none⟩=false:=by
 unfold bZ at h;simp [World.frozen?,h]
def bZ.set (h:bZ w g xs) (i v:Nat):bZ (w.setCell ⟨g,i,none⟩ (.int .u32 (v:Nat))) g (xs.set i v):=by
 unfold bZ at h ⊢;rw [heap_setCell_same w g i _ _ _ h,rA]
def bZ.drewN (h:bZ w g xs) (n:Nat):bZ (w.drewN n) g xs:=h
def bZ.keep (h:bZ w g xs) (hg:w.grownBy w' row) (a:some g≠row):bZ w' g xs:=by
 have b:=h.lt;unfold bZ at h ⊢;rw [hg.block g b a,h]
def bZ.ws (h:bZ w g xs) (a:Sm xs) (b:xs.length<=maxLen):Ws w (.slice (some ⟨g,0,none⟩) xs.length xs.length) xs :=
 ⟨a,.inr ⟨g,0,xs.length,rfl,h.lt,zL,b,fun i hi=>by rw [Nat.zero_add];exact h.cell i hi⟩⟩
def ae (w:World) (r:Option Nat):w.grownBy w r:=⟨rfl,rfl,rfl,zL,fun _ _ _=>rfl⟩
def aw {a:World} {r1 r2:Option Nat} (h:w.grownBy w1 r1) (k:w1.grownBy a r2) (d:∀ b,b<w.heap.size->some b=r1->some b=r) (f:∀ b,b<w.heap.size->some b=r2->some b=r):w.grownBy a r :=
 ⟨k.os.trans h.os,k.tape.trans h.tape,k.output.trans h.output,Nat.le_trans h.size k.size,fun b hb c =>
  (k.block b (Nat.lt_of_lt_of_le hb h.size) (fun e=>c (f b hb e))).trans (h.block b hb (fun e=>c (d b hb e)))⟩
def aa {a:World} (h:w.grownBy w1 none) (k:w1.grownBy a none):w.grownBy a none :=
 aw h k (fun _ _ e=>e) (fun _ _ e=>e)
def ak (h:w.grownBy w1 r) (n:Nat):w.grownBy (w1.drewN n) r:=⟨h.os,h.tape,h.output,h.size,h.block⟩
def ag (h:w.grownBy w1 r) (o:Obj):w.grownBy (w1.alloc o) r :=
 aw h (World.grownBy_alloc w1 o none) (fun _ _ e=>e) nofun
def ah (h:w.grownBy w1 r) (a:Addr) (v:Value) (ha:w.heap.size<=a.block):w.grownBy (w1.setCell a v) r :=
 aw (r2:=some a.block) h ⟨rfl,rfl,rfl,Z,fun k _ c=>heap_setCell_other _ _ _ _ (fun e=>c (by rw [e]))⟩ (fun _ _ e=>e) (fun b hb e=>by cases e;omega)
def zS {w w1:World} {r:Option Nat} {a:Addr} {v:Value} (g:w.grownBy w1 r) (h:w.heap.size≤a.block:=by exact Nat.le_succ _):w.grownBy (w1.setCell a v) r:=ah g _ _ h
def mG (h:w.grownBy w1 none):Below w.heap.size w w1:=⟨h.os,h.tape,h.output,h.size,fun k a=>h.block k a Z⟩
def yr (n:Nat):(madeCells (Value.int .u32 0).cells (n*1))=aq (List.replicate n 0):=by
 apply Array.ext
 ·simp [madeCells,qT]
 ·intro i a b;simp [madeCells,aq,Value.cells,Nat.mod_one]
def aE {P:Program} (w:World) {b:Array Oper} {rest:List Oper} {o:Oper} {a:Act} {Q:Exit->Act->World->Prop}
  (hg:o.guard=none) (l c:Operand) (t:TypeId) (hop:o.op=Op.makeSlice t l c)
  (h1:P.underlying t=some (.slice 174)) (hinfo:(P.info? 174).map (fun i=>(i.zero,i.size,i.bytes))=some (some (.int .u32 0),1,4))
  (kl kc:IntKind) (L C:Int) (n:Nat) (hl:a.eval l=.int kl L) (hc:a.eval c=.int kc C) (hL:L=(n:Int)) (hC:C=(n:Int)) (b2:n<=10737418240000)
  (hK:∀ w',bZ w' w.heap.size (List.replicate n 0)->w.grownBy w' none->wpList P b Q rest (a.put o.dst (.slice (some ⟨w.heap.size,0,none⟩) n n)) w') :
  wpList P b Q (o :: rest) a w:=by
 obtain ⟨i,hi,f,j,k⟩:=info_parts hinfo;refine wpList_make_full w hg l c t hop w.heap.size 174 i (.int .u32 0) 1 h1 hi f j kl kc L C n hl hc hL hC (by rw [k];omega) (by unfold maxLen;omega) zL ?_;intro w' d e;refine hK w' ?_ e;obtain ⟨_,h⟩:=d;rcases h with ⟨h,_⟩ | ⟨g,cap,m,h,_,hh,_,_,q,s⟩
 ·simp at h
 ·simp only [Value.slice.injEq,zI,Addr.mk.injEq,and_true,true_and] at h;obtain ⟨rfl,rfl⟩:=h;unfold bZ;rw [hh];have:m=aq (List.replicate n 0):=by
   rw [<- yr];apply Array.ext';rw [<- s,zT (by simp [q])]
  rw [this]
structure aT (w:World) (v:Value) (n L:Nat):Prop where
 ex:∃ xs,Ws w v xs/\Tr xs/\ai xs=n/\xs.length<=L
def aT.keep {L:Nat} (h:aT w v n L) (hg:w.grownBy w' row) (a:∀ k,row=some k->ar v≠some k):aT w' v n L:=by
 obtain ⟨xs,b,c,d,e⟩:=h;exact ⟨xs,b.keep hg a,c,d,e⟩
def aT.keep0 {L:Nat} (h:aT w v n L) (hg:w.grownBy w' none):aT w' v n L:=h.keep hg nofun
def Ws.keep0 (h:Ws w v xs) (hg:w.grownBy w' none):Ws w' v xs:=h.keep hg nofun
def aT.mono {L L':Nat} (h:aT w v n L) (a:L<=L'):aT w v n L':=by
 obtain ⟨xs,b,c,d,e⟩:=h;exact ⟨xs,b,c,d,Nat.le_trans e a⟩
def bC (w:World) (v:Value):Prop:=∀ k,ar v=some k->w.heap.size<=k
def Tryz.info32:(Tryz.prog.info? 174).map (fun i=>(i.zero,i.size,i.bytes))=some (some (.int .u32 0),1,4):=zK
def aR (xs:List Nat) (x:Nat):ai (xs++[x])=ai xs+4294967296^xs.length*x:=by
 rw [bN];simp [ai]
def au (xs:List Nat) (k:Nat) (h:k<xs.length):ai (xs.take (k+1))=ai (xs.take k)+4294967296^k*xs[k]:=by
 rw [jY xs k h,aR];congr 2
 rw [List.length_take];congr 1
 omega
def fL (p c:Nat):p*(c % 4294967296)+p*4294967296*(c / 4294967296)=p*c:=by
 rw [Nat.mul_assoc,<- Nat.mul_add,Nat.mod_add_div]
def iZ (n:Nat):ai (List.replicate n 0)=0:=by
 induction n with
 | zero=>rfl
 | succ n ih=>simp [List.replicate_succ,ai,ih]
def dM (done:List Nat) (k m v:Nat) (h:done.length=k) (a:0<m):(done++List.replicate m 0).set k v=(done++[v])++List.replicate (m-1) 0:=by
 obtain ⟨m,rfl⟩:∃ j,m=j+1:=⟨m-1,O⟩;subst h;rw [List.set_append_right _ _ zL];simp [List.replicate_succ]
def Sm.snoc (h:Sm xs) (x:Nat):Sm (xs++[x % 4294967296]):=h.append (Sm.cons (Nat.mod_lt _ zD) Sm.nil)
def Sm.replicate (n:Nat):Sm (List.replicate n 0):=fun x a=>by
 have:=List.eq_of_mem_replicate a;omega
def pM (done:List Nat) (k c x y X Y:Nat) (a:done.length=k) (h:ai done+4294967296^k*c=X+Y) :
  ai (done++[(c+x+y) % 4294967296])+4294967296^(k+1)*((c+x+y) / 4294967296)=(X+4294967296^k*x)+(Y+4294967296^k*y):=by
 rw [aR,a,Nat.pow_succ,Nat.add_assoc,fL,Nat.mul_add,Nat.mul_add];omega
def qR (xs:List Nat) (k:Nat):ai (xs.take (k+1))=ai (xs.take k)+4294967296^k*xs.getD k 0:=by
 by_cases h:k<xs.length
 ·rw [au xs k h];simp [h]
 ·rw [zT O,zT O];simp [List.getD,h]
def Sm.getD (h:Sm xs) (k:Nat):xs.getD k 0<4294967296:=by
 by_cases a:k<xs.length
 ·simp only [List.getD,zX a,Option.getD_some];exact h.get k a
 ·simp only [List.getD,List.getElem?_eq_none (Nat.le_of_not_lt a),Option.getD_none];decide
def im (xs:List Nat) (j:Nat) (h:j<xs.length):ai xs=ai (xs.take j)+4294967296^j*(xs[j]+4294967296*ai (xs.drop (j+1))):=by
 have e:xs=xs.take j++(xs[j] :: xs.drop (j+1)):=by
  rw [<- List.drop_eq_getElem_cons h,List.take_append_drop]
 have a:(xs.take j).length=j:=by rw [List.length_take];omega
 have:=bN (xs.take j) (xs[j] :: xs.drop (j+1));rw [<- e,a] at this;exact this
def gE (xs ys:List Nat) (j:Nat) (a:j<xs.length) (hy:j<ys.length) (b:Sm xs) (hd:xs.drop (j+1)=ys.drop (j+1)) (hlt:xs[j]<ys[j]):ai xs<ai ys:=by
 rw [im xs j a,im ys j hy,<- hd];have c:=bD (b.take j);rw [List.length_take,show min j xs.length=j from O] at c;have d:4294967296^j*(xs[j]+4294967296*ai (xs.drop (j+1))+1)<=4294967296^j*(ys[j]+4294967296*ai (xs.drop (j+1))):=Nat.mul_le_mul_left _ O;rw [Nat.mul_add,Nat.mul_one] at d;omega
def jz (h:Tr xs) (a:xs≠[]):4294967296^(xs.length-1)<=ai xs:=by
 induction xs with
 | nil=>exact absurd rfl a
 | cons x r ih =>
  cases r with
  | nil=>have:=h.pos;simp only [List.length_singleton,Nat.sub_self,Nat.pow_zero];omega
  | cons y s =>
   have:=ih h.tail Z;simp only [List.length_cons,Nat.add_sub_cancel] at this ⊢;show _<=x+4294967296*ai (y :: s)
   rw [Nat.pow_succ,Nat.mul_comm];have:=Nat.mul_le_mul_left 4294967296 this;omega
def cC (a:Sm xs) (b:Tr ys) (h:xs.length<ys.length):ai xs<ai ys:=by
 have c:=bD a;have d:=jz b (by intro e;subst e;simp at h);have f:4294967296^xs.length<=4294967296^(ys.length-1):=Nat.pow_le_pow_right zD O;omega
def gZ (m n:Nat):Int:=if m<n then -1 else if m=n then 0 else 1
def qp {m:Nat} (h:m<n):gZ m n = -1:=by simp [gZ,h]
def tN (m:Nat):gZ m m=0:=by simp [gZ]
def qn {m:Nat} (h:n<m):gZ m n=1:=by
 unfold gZ;rw [if_neg O,if_neg O]
structure KD (b U V P vt vn V0 h u2 U0:Nat):Prop where
 hV:V=(vt*b+vn)*P+V0
 hU:U=(h*b+u2)*P+U0
 hP:0<P
 hV0:V0<P
 hU0:U0<P
 hvt:b<=2*vt
 hb:1<b
 hvn:vn<b
 hu2:u2<b
 hlt:U<b*V
variable {b U V P vt vn V0 h u2 U0:Nat}
def KD.pos (k:KD b U V P vt vn V0 h u2 U0):0<V:=by
 rcases zP V with e | e
 ·have:=k.hlt;rw [e] at this;omega
 ·exact e
def KD.q_lt (k:KD b U V P vt vn V0 h u2 U0):U / V<b:=by
 rw [Nat.div_lt_iff_lt_mul k.pos];have:=k.hlt;omega
def KD.q_test (k:KD b U V P vt vn V0 h u2 U0):U / V*(vt*b+vn)<=h*b+u2:=by
 have c:U / V*V<=U:=Nat.div_mul_le_self U V;have d:U / V*(vt*b+vn)*P<=U / V*V:=by
  have e:=k.hV;generalize U / V=q;generalize vt*b+vn=W at e ⊢;rw [e,Nat.mul_add,Nat.mul_assoc];omega
 have f:U<(h*b+u2+1)*P:=by
  rw [Nat.add_mul (h*b+u2) 1 P,Nat.one_mul];have:=k.hU;have:=k.hU0;omega
 have a:U / V*(vt*b+vn)*P<(h*b+u2+1)*P:=O
 exact Nat.le_of_lt_succ (Nat.lt_of_mul_lt_mul_right a)
def KD.q_h (k:KD b U V P vt vn V0 h u2 U0):U / V*vt<=h:=by
 have a:=k.q_test;have d:=k.hu2;generalize U / V=q at a ⊢;have c:q*vt*b<(h+1)*b:=by
  rw [Nat.mul_add,<- Nat.mul_assoc] at a;rw [Nat.add_mul,Nat.one_mul];omega
 exact Nat.le_of_lt_succ (Nat.lt_of_mul_lt_mul_right c)
def KD.init (k:KD b U V P vt vn V0 h u2 U0):U / V<=h / vt:=by
 rw [Nat.le_div_iff_mul_le (by have:=k.hvt;have:=k.hb;omega)];exact k.q_h
def KD.keep (k:KD b U V P vt vn V0 h u2 U0) {r:Nat} (hg:g*vt+r=h) (a:b<=g∨r*b+u2<g*vn):U / V<g:=by
 rcases a with a | a
 ·have:=k.q_lt;omega
 ·have c:=k.q_test;have d:h*b+u2<g*(vt*b+vn):=by
   rw [<- hg,Nat.mul_add,<- Nat.mul_assoc,Nat.add_mul];omega
  exact Nat.lt_of_mul_lt_mul_right (Nat.lt_of_le_of_lt c d)
def KD.h_le (k:KD b U V P vt vn V0 h u2 U0):h<=vt*b+vn:=by
 have e:(h*b+u2)*P<=U:=by rw [k.hU];omega
 have a:V<(vt*b+vn+1)*P:=by
  rw [Nat.add_mul _ 1 P,Nat.one_mul,k.hV];have:=k.hV0;omega
 have f:b*V<=b*((vt*b+vn+1)*P):=Nat.mul_le_mul_left _ (Nat.le_of_lt a);have c:(h*b+u2)*P<(b*(vt*b+vn+1))*P:=by
  rw [Nat.mul_assoc];have:=k.hlt;omega
 have i:=Nat.lt_of_mul_lt_mul_right c;have d:b*h<b*(vt*b+vn+1):=by
  rw [Nat.mul_comm b h];omega
 have j:=Nat.lt_of_mul_lt_mul_left d;omega
def KD.brk (k:KD b U V P vt vn V0 h u2 U0) {r:Nat} (hg:g*vt+r=h) (a:b<=r):g<b/\g*vn<=r*b+u2:=by
 have e:=k.h_le;have f:=k.hvn;have c:g*vt<b*vt:=by
  rw [Nat.mul_comm b vt];omega
 have d:=Nat.lt_of_mul_lt_mul_right c;refine ⟨d,?_⟩;have i:g*vn<=b*b:=Nat.mul_le_mul O O;have j:b*b<=r*b:=Nat.mul_le_mul_right _ a;omega
def KD.exit (k:KD b U V P vt vn V0 h u2 U0) {r:Nat} (hg:g*vt+r=h) (d:g<b) (t:g*vn<=r*b+u2):g<=U / V+1:=by
 have e:U<(U / V+1)*V:=by
  have:=Nat.div_add_mod U V;have:=Nat.mod_lt U k.pos;rw [Nat.add_mul,Nat.one_mul,Nat.mul_comm];omega
 generalize U / V=q at e ⊢;rcases Nat.lt_or_ge (q+1) g with hlt | a
 ·exfalso
  obtain ⟨m,rfl⟩:∃ m,g=m+1:=⟨g-1,O⟩;have u:(q+1)*V<=m*V:=Nat.mul_le_mul_right _ O;have f:V<=(vt*b+vn+1)*P:=by
   rw [Nat.add_mul _ 1 P,Nat.one_mul,k.hV];have:=k.hV0;omega
  have x:m*V<=m*(vt*b+vn+1)*P:=by
   rw [Nat.mul_assoc];exact Nat.mul_le_mul_left _ f
  have i:(m+1)*(vt*b+vn)<=h*b+u2:=by
   rw [<- hg,Nat.mul_add (m+1) (vt*b),<- Nat.mul_assoc (m+1) vt b,Nat.add_mul ((m+1)*vt) r b];omega
  have y:(m+1)*(vt*b+vn)*P<=U:=by
   have:=Nat.mul_le_mul_right P i;rw [k.hU];omega
  have j:(m+1)*(vt*b+vn)*P<m*(vt*b+vn+1)*P:=O
  have c:=Nat.lt_of_mul_lt_mul_right j;have z:=k.hvt;have l:=k.hb;have o:vt*b+vn<m:=by
   generalize vt*b+vn=W at c ⊢;rw [Nat.add_mul m 1 W,Nat.mul_add m W 1,Nat.one_mul,Nat.mul_one] at c;omega
  have s:1*b<=vt*b:=Nat.mul_le_mul_right _ O;omega
 ·exact a
def split2 (ys:List Nat) (n:Nat) (hn:ys.length=n+2):ai ys=(ys[n+1]*4294967296+ys[n])*4294967296^n+ai (ys.take n):=by
 have a:=im ys n O;have b:ys.drop (n+1)=[ys[n+1]]:=by
  rw [List.drop_eq_getElem_cons O,List.drop_of_length_le O]
 rw [b] at a;simp only [ai,Nat.mul_zero,Nat.add_zero] at a;rw [a,Nat.mul_comm (4294967296^n),Nat.add_comm (ys[n]),Nat.mul_comm 4294967296];omega
def split3 (us:List Nat) (n:Nat) (hn:us.length=n+3):ai us=((us[n+2]*4294967296+us[n+1])*4294967296+us[n])*4294967296^n+ai (us.take n):=by
 have a:=im us n O;have b:us.drop (n+1)=[us[n+1],us[n+2]]:=by
  rw [List.drop_eq_getElem_cons O,List.drop_eq_getElem_cons O,List.drop_of_length_le O]
 rw [b] at a;simp only [ai,Nat.mul_zero,Nat.add_zero] at a;rw [a,Nat.mul_comm (4294967296^n)];have e:us[n]+4294967296*(us[n+1]+4294967296*us[n+2])=(us[n+2]*4294967296+us[n+1])*4294967296+us[n]:=O
 rw [e];omega
def kd_of (vs us:List Nat) (n:Nat) (b:vs.length=n+2) (c:us.length=n+3) (sv:Sm vs) (a:Sm us) (f:2147483648<=vs[n+1]) (hlt:ai us<4294967296*ai vs) :
  KD 4294967296 (ai us) (ai vs) (4294967296^n) vs[n+1] vs[n] (ai (vs.take n)) (us[n+2]*4294967296+us[n+1]) us[n] (ai (us.take n)):=by
 have d:(vs.take n).length=n:=by rw [List.length_take];omega
 have e:(us.take n).length=n:=by rw [List.length_take];omega
 refine ⟨split2 vs n b,split3 us n c,Nat.pow_pos zD,?_,?_,O,zD,sv.get n O,a.get n O,hlt⟩
 ·have:=bD (sv.take n);rw [d] at this;exact this
 ·have:=bD (a.take n);rw [e] at this;exact this
def Ws.open (h:Ws w v xs):∃ ao cap,v=.slice ao xs.length cap/\xs.length<=cap/\cap<=maxLen /\
  ∀ i (h:i<xs.length),∃ b off,ao=some ⟨b,off,none⟩/\b<w.heap.size/\w.cell? ⟨b,off+i,none⟩=some (.int .u32 (xs[i]:Nat)):=by
 rcases h.sh with ⟨rfl,rfl⟩ | ⟨b,off,cap,rfl,hb,a,c,hc⟩
 ·exact ⟨none,0,rfl,Z,Z,fun i h=>by simp at h⟩
 ·exact ⟨_,cap,rfl,a,c,fun i h=>⟨b,off,rfl,hb,hc i h⟩⟩
def jQ (r x:Nat) (a:r<4294967296) (c:x<4294967296):bits .or .u64 ((r:Int)*4294967296) (x:Int)=((r*4294967296+x:Nat):Int):=by
 have h:=u64_or_nat (r*4294967296) x O O;rw [Int.natCast_mul] at h;have e:r*4294967296 ||| x=r*4294967296+x:=by
  have:=Nat.two_pow_add_eq_or_of_lt (i:=32) (b:=x) O r;rw [Nat.mul_comm r];exact this.symm
 rw [e] at h;exact h
def vV (r x:Nat) (a:r<4294967296) (c:x<4294967296):bits .or .u64 (x:Int) ((r:Int)*4294967296)=((x+4294967296*r:Nat):Int):=by
 have h:=u64_or_nat x (r*4294967296) O O;rw [Int.natCast_mul] at h;have e:x ||| r*4294967296=x+4294967296*r:=by
  have:=Nat.two_pow_add_eq_or_of_lt (i:=32) (b:=x) O r;rw [Nat.or_comm,Nat.mul_comm r,Nat.add_comm];exact this.symm
 rw [e] at h;exact h
def mb (x y:Nat) (b:x<4294967296) (hy:y<4294967296):(x:Int)*(y:Int)<=18446744065119617025:=by
 have:x*y<=4294967295*4294967295:=Nat.mul_le_mul O O;have a:((x*y:Nat):Int)<=18446744065119617025:=O
 rwa [Int.natCast_mul] at a
def uM (x y c r:Nat) (a:x<4294967296) (hy:y<4294967296) (hc:c<4294967296) (b:r<4294967296):(c+(x*y+r)) / 4294967296<4294967296:=by
 have:x*y<=4294967295*4294967295:=Nat.mul_le_mul O O;omega
def pO (x y c r:Nat):(((c:Int)+((x:Int)*(y:Int)+(r:Int))) / 4294967296)=(((c+(x*y+r)) / 4294967296:Nat):Int):=by
 rw [Int.natCast_ediv,Int.natCast_add,Int.natCast_add,Int.natCast_mul];rfl
def nQ (x y c r:Nat):(((c:Int)+((x:Int)*(y:Int)+(r:Int))) % 4294967296)=(((c+(x*y+r)) % 4294967296:Nat):Int):=by
 rw [Int.natCast_emod,Int.natCast_add,Int.natCast_add,Int.natCast_mul];rfl
def sB (s:Nat) (a:s<32):∃ r,2^s*r=4294967296/\0<r:=by
 refine ⟨2^(32-s),?_,Nat.two_pow_pos _⟩;rw [<- Nat.pow_add,show s+(32-s)=32 from O]
def yA (s c x:Nat) (d:s<32) (hc:c<2^s):c ||| (x*2^s % 4294967296)=c+x*2^s % 4294967296/\c+x*2^s % 4294967296<4294967296:=by
 obtain ⟨r,b,a⟩:=sB s d;have e:x*2^s % 4294967296=2^s*(x % r):=by
  rw [<- b,Nat.mul_comm x,Nat.mul_mod_mul_left]
 constructor
 ·rw [e,Nat.or_comm,Nat.add_comm];exact (Nat.two_pow_add_eq_or_of_lt hc _).symm
 ·rw [e];have f:x % r+1<=r:=Nat.mod_lt _ a;have h:=Nat.mul_le_mul_left (2^s) f;rw [b,Nat.mul_add,Nat.mul_one] at h;omega
def kL (x s:Nat) (b:x<4294967296) (c:s<32):IntKind.u64.wrap ((x:Int)*2^s)=((x*2^s:Nat):Int)/\x*2^s<18446744073709551616:=by
 have a:2^s<=2^31:=Nat.pow_le_pow_right zD O;have d:x*2^s<=4294967295*2^31:=Nat.mul_le_mul O a;have e:(x:Int)*2^s=((x*2^s:Nat):Int):=by rw [Int.natCast_mul,Int.natCast_pow];rfl
 refine ⟨?_,O⟩;rw [e,IntWalk.u64_in _ ⟨O,O⟩]
def Aa (c x s:Nat) (b:x<4294967296) (a:s<32) (hc:c<2^s):bits .or .u32 (c:Int) (IntKind.u64.wrap ((x:Int)*2^s) % 4294967296)=((c+x*2^s % 4294967296:Nat):Int):=by
 have d:2^s<=2^31:=Nat.pow_le_pow_right zD O;rw [(kL x s b a).1,show (((x*2^s:Nat):Int) % 4294967296)=((x*2^s % 4294967296:Nat):Int) from O,u32_or_nat _ _ O O,(yA s c x a hc).1]
def left_z2 (x s:Nat) (a:x<4294967296) (b:s<32):bits .or .u32 0 (IntKind.u64.wrap ((x:Int)*2^s) / 4294967296 % 4294967296)=((x*2^s / 4294967296:Nat):Int):=by
 have h:=(kL x s a b).2;rw [(kL x s a b).1,show (((x*2^s:Nat):Int) / 4294967296 % 4294967296)=((x*2^s / 4294967296:Nat):Int) from O];have:=u32_or_nat 0 (x*2^s / 4294967296) O O;rw [Nat.zero_or] at this;exact this
def Ee (x s:Nat) (a:x<4294967296):x*2^s / 4294967296<2^s:=by
 rw [Nat.div_lt_iff_lt_mul zD,Nat.mul_comm];exact Nat.mul_lt_mul_of_pos_left a (Nat.two_pow_pos s)
def kR (xs:List Nat) (k:Nat) (h:Sm xs) (c:k<=xs.length):ai xs / 4294967296^k=ai (xs.drop k):=by
 have e:=bN (xs.take k) (xs.drop k);have a:(xs.take k).length=k:=by rw [List.length_take];omega
 rw [List.take_append_drop,a] at e;have b:=bD (h.take k);rw [a] at b;rw [e,Nat.add_comm,Nat.mul_add_div (Nat.pow_pos zD),Nat.div_eq_of_lt b,Nat.add_zero]
def cP (xs:List Nat) (k:Nat):ai (xs.drop k)=xs.getD k 0+4294967296*ai (xs.drop (k+1)):=by
 by_cases h:k<xs.length
 ·rw [List.drop_eq_getElem_cons h];simp [ai,h]
 ·rw [List.drop_of_length_le O,List.drop_of_length_le O];simp [List.getD,h,ai]
def qy (xs:List Nat) (s k:Nat) (h:Sm xs) (a:s<32) (b:k<xs.length) :
  ai xs / 2^s / 4294967296^k % 4294967296=(xs[k]+4294967296*xs.getD (k+1) 0) / 2^s % 4294967296:=by
 obtain ⟨r,e,f⟩:=sB s a;rw [Nat.div_div_eq_div_mul,Nat.mul_comm,<- Nat.div_div_eq_div_mul,kR xs k h O,cP xs k,cP xs (k+1)];have c:xs.getD k 0=xs[k]:=by simp [b]
 rw [c];generalize xs[k]=x;generalize xs.getD (k+1) 0=y;generalize ai (xs.drop (k+1+1))=D;have d:x+4294967296*(y+4294967296*D)=(x+4294967296*y)+2^s*(4294967296*(r*D)):=by
  have:4294967296*D=2^s*(r*D):=by rw [<- Nat.mul_assoc,e]
  rw [Nat.mul_add,this,Nat.mul_left_comm 4294967296 (2^s),Nat.add_assoc]
 rw [d,Nat.add_mul_div_left _ _ (Nat.two_pow_pos s),Nat.add_mul_mod_self_left]
def mT (m s:Nat):((m:Int) / 2^s)=((m / 2^s:Nat):Int):=by
 rw [Int.natCast_ediv,Int.natCast_pow];rfl
def nh (us a:List Nat) (j k:Nat) (b:a.length=k) (d:j+k<us.length):(us.take j++a++us.drop (j+k))[j+k]? = some us[j+k]:=by
 have c:(us.take j).length=j:=by rw [List.length_take];omega
 rw [List.getElem?_append_right (by simp [c,b]),List.drop_eq_getElem_cons d];have e:j+k-(us.take j++a).length=0:=by simp [c,b]
 rw [e];rfl
def iQ (us a:List Nat) (j k x:Nat) (b:a.length=k) (d:j+k<us.length):(us.take j++a++us.drop (j+k)).set (j+k) x=us.take j++(a++[x])++us.drop (j+(k+1)):=by
 have c:(us.take j).length=j:=by rw [List.length_take];omega
 rw [List.set_append_right _ _ (by simp [c,b]),List.drop_eq_getElem_cons d];have e:j+k-(us.take j++a).length=0:=by simp [c,b]
 rw [e];simp [Nat.add_assoc]
def jZ (us a:List Nat) (j k:Nat) (b:a.length=k) (c:j+k<=us.length):(us.take j++a++us.drop (j+k)).length=us.length:=by
 simp [b];omega
def wZ (u lo d:Nat) (b:u<4294967296) (a:lo<4294967296) (hd:d<=1) :
  ∃ T x e:Nat,IntKind.u64.wrap (IntKind.u64.wrap ((u:Int)-(lo:Int))-(d:Int))=(T:Int)/\T<18446744073709551616/\T / 9223372036854775808=e/\T % 4294967296=x/\e<=1/\x<4294967296/\x+lo+d=u+4294967296*e:=by
 rw [IntKind.wrap_u64,IntKind.wrap_u64];by_cases h:lo+d<=u
 ·exact ⟨u-lo-d,u-lo-d,0,O,O,O,O,O,O,O⟩
 ·exact ⟨18446744073709551616+u-lo-d,4294967296+u-lo-d,1,O,O,O,O,O,O,O⟩
def rS (ys:List Nat) (n V:Nat) (h:ai ys<V) (hV:V<=4294967296^n) (hn:n<=ys.length):ai (ys.drop n)=0/\ai (ys.take n)=ai ys:=by
 have e:=bN (ys.take n) (ys.drop n);have b:(ys.take n).length=n:=by rw [List.length_take];omega
 rw [List.take_append_drop,b] at e;have a:ai (ys.drop n)=0:=by
  rcases zP (ai (ys.drop n)) with a | a
  ·exact a
  ·have:4294967296^n*1<=4294967296^n*ai (ys.drop n):=Nat.mul_le_mul_left _ a;rw [Nat.mul_one] at this;omega
 rw [a,Nat.mul_zero] at e;exact ⟨a,O⟩
def ni {us vs:List Nat} {j:Nat} (sv:Sm vs) (c:Sm us) (d:j+vs.length<us.length) (h:ai (us.drop (j+1))<ai vs) :
  ai ((us.drop j).take (vs.length+1))=ai (us.drop j)/\ai (us.drop j)<4294967296*ai vs/\ai (us.drop (j+(vs.length+1)))=0:=by
 have e:=cP us j;have f:us.getD j 0<4294967296:=c.getD j;have hV:=bD sv;have b:ai (us.drop j)<4294967296*ai vs:=by
  have:4294967296*(ai (us.drop (j+1))+1)<=4294967296*ai vs:=Nat.mul_le_mul_left _ h;omega
 have a:=rS (us.drop j) (vs.length+1) (4294967296*ai vs) b (by rw [Nat.pow_succ,Nat.mul_comm];exact Nat.mul_le_mul_right _ (Nat.le_of_lt hV)) (by rw [List.length_drop];omega);rw [List.drop_drop] at a;exact ⟨a.2,b,a.1⟩
def nH {m:Nat} (h:n<=m):0<=gZ m n:=by
 rcases Nat.lt_or_ge n m with a | a
 ·rw [qn a];decide
 ·rw [show m=n from O,tN];decide
def yY (h:Tr xs) (a:xs≠[]):∃ t,xs[xs.length-1]? = some t/\0<t:=by
 induction xs with
 | nil=>exact absurd rfl a
 | cons x r ih =>
  cases r with
  | nil =>
   refine ⟨x,rfl,?_⟩;have:=h.pos;simp only [ai] at this;omega
  | cons y s =>
   obtain ⟨t,b,c⟩:=ih h.tail Z;exact ⟨t,by simpa using b,c⟩
def vR (ys vs:List Nat) (t c s:Nat) (x:s=32-c) (H:1<=c) (I:c<=32) (C:Sm ys) (hy:0<ys.length) (y:ys[ys.length-1]? = some t) (f:2^(c-1)<=t) (h:t<2^c)
  (sv:Sm vs) (tv:Tr vs) (hv:ai vs=ai ys*2^s):vs.length=ys.length/\∃ tt,vs[vs.length-1]? = some tt/\2147483648<=tt:=by
 obtain ⟨k,G⟩:∃ k,ys.length=k+1:=⟨ys.length-1,O⟩;rw [G,Nat.add_sub_cancel] at y;obtain ⟨q,u⟩:=zY y;have J:ai ys=ai (ys.take k)+4294967296^k*t:=by
  have:=au ys k q;rw [zT O,u] at this;exact this
 have i:=bD (C.take k);rw [List.length_take,show min k ys.length=k from O] at i;have z:2^c*2^s=4294967296:=by rw [<- Nat.pow_add,x,show c+(32-c)=32 from O]
 have A:2^(c-1)*2^s=2147483648:=by rw [<- Nat.pow_add,x,show c-1+(32-c)=31 from O]
 have j:0<2^s:=Nat.two_pow_pos s;generalize 2^s=S at hv z A j;have up:ai vs<4294967296^(k+1):=by
  have d:ai ys+1<=4294967296^k*(t+1):=by rw [Nat.mul_add,Nat.mul_one];omega
  have l:4294967296^k*(t+1)<=4294967296^k*2^c:=Nat.mul_le_mul_left _ h;have D:(ai ys+1)*S<=4294967296^k*2^c*S:=Nat.mul_le_mul_right _ (Nat.le_trans d l);rw [Nat.mul_assoc,z,<- Nat.pow_succ,Nat.add_mul,Nat.one_mul] at D;omega
 have lo:4294967296^k*2147483648<=ai vs:=by
  have d:4294967296^k*2^(c-1)<=ai ys:=by
   have:=Nat.mul_le_mul_left (4294967296^k) f;omega
  have l:=Nat.mul_le_mul_right S d;rw [Nat.mul_assoc,A] at l;omega
 have K:0<4294967296^k:=Nat.pow_pos zD;have m:vs≠[]:=by intro e;rw [e] at lo;simp only [ai] at lo;omega
 have L:vs.length-1<k+1:=by
  have:=jz tv m;exact (Nat.pow_lt_pow_iff_right (a:=4294967296) zD).1 (Nat.lt_of_le_of_lt this up)
 have B:k<vs.length:=by
  have a:=bD sv;have b:4294967296^k*1<=4294967296^k*2147483648:=Nat.mul_le_mul_left _ zD;exact (Nat.pow_lt_pow_iff_right (a:=4294967296) zD).1 O
 have E:vs.length=k+1:=O
 refine ⟨O,vs[k],by rw [E,Nat.add_sub_cancel];exact zX B,?_⟩;have F:=au vs k B;rw [zT O] at F;have o:=bD (sv.take k);rw [List.length_take,show min k vs.length=k from O] at o;have d:4294967296^k*2147483648<4294967296^k*(vs[k]+1):=by rw [Nat.mul_add,Nat.mul_one];omega
 have:=Nat.lt_of_mul_lt_mul_left d;omega
def Ws.blk (h:Ws w v xs):∀ k,ar v=some k->k<w.heap.size:=by
 intro k a;rcases h.sh with ⟨rfl,_⟩ | ⟨b,off,cap,rfl,hb,_⟩
 ·simp [ar] at a
 ·simp [ar] at a;omega
def norm_lt (xs:List Nat) (s:Nat) (h:Sm xs) (c:s<32):ai xs*2^s<4294967296^(xs.length+2-1):=by
 have a:2^s<=2^31:=Nat.pow_le_pow_right zD O;have b:=bD h;have d:ai xs*2^s<=ai xs*2^31:=Nat.mul_le_mul_left _ a;have e:(ai xs+1)*4294967296<=4294967296^xs.length*4294967296:=Nat.mul_le_mul_right _ b;rw [show xs.length+2-1=xs.length+1 from O,Nat.pow_succ];omega
def nX {U V W p e:Nat} (h:W+g*V=U+p*e) (b:e=0) (c:U / V<=g) (hV:0<V):U / V=g/\W=U % V:=by
 subst b;rw [Nat.mul_zero,Nat.add_zero] at h;have d:g<=U / V:=by
  rw [Nat.le_div_iff_mul_le hV];omega
 have a:U / V=g:=O
 refine ⟨a,?_⟩;have:=Nat.div_add_mod U V;rw [a,Nat.mul_comm] at this;omega
def pX {U V W p e:Nat} (h:W+g*V=U+p*e) (b:e=1) (c:U / V<=g) (d:g<=U / V+1) (j:W<p) (hV:0<V):U / V=g-1/\1<=g/\W+V=U % V+p:=by
 subst b;rw [Nat.mul_one] at h;have a:=Nat.div_add_mod U V;have f:=Nat.mod_lt U hV;generalize U / V=q at c d a ⊢;generalize U % V=r at a f ⊢;have k:q≠g:=by
  intro e;rw [e,Nat.mul_comm] at a;omega
 have i:g=q+1:=O
 refine ⟨O,O,?_⟩;rw [i,Nat.add_mul,Nat.one_mul,Nat.mul_comm q] at h;omega
def bT {r a hh:Nat} (h:g*a+r=hh) (hg:1<=g):(g-1)*a+(r+a)=hh:=by
 obtain ⟨m,rfl⟩:∃ m,g=m+1:=⟨g-1,O⟩;rw [Nat.add_sub_cancel];rw [Nat.add_mul,Nat.one_mul] at h;omega
def zn (X Y S Q R:Nat) (hS:0<S) (a:R<Y*S) (h:X*S=Q*(Y*S)+R):Q=X / Y/\R / S=X % Y:=by
 have d:0<Y:=by
  rcases zP Y with e | e
  ·rw [e,Nat.zero_mul] at a;omega
  ·exact e
 have b:0<Y*S:=Nat.mul_pos d hS;have f:X*S / (Y*S)=X / Y:=Nat.mul_div_mul_right X Y hS;have i:X*S / (Y*S)=Q:=by
  rw [h,Nat.mul_comm Q,Nat.mul_add_div b,Nat.div_eq_of_lt a,Nat.add_zero]
 have c:X*S % (Y*S)=R:=by
  rw [h,Nat.mul_comm Q,Nat.mul_add_mod,Nat.mod_eq_of_lt a]
 rw [Nat.mul_mod_mul_right] at c;exact ⟨by rw [<- i,f],by rw [<- c,Nat.mul_div_cancel _ hS]⟩
def tO {m:Nat} (h:m<n):gZ m n<0:=by rw [qp h];decide
def ma (d:Sm xs) (b:Tr xs) (c:Sm ys) (h:ai xs<=ai ys):xs.length<=ys.length:=by
 rcases Nat.lt_or_ge ys.length xs.length with a | a
 ·have:=cC c b a;omega
 ·exact a
def ph (h:Sm xs) (a:xs.length<=2):ai xs<18446744073709551616:=by
 have b:=bD h;have c:4294967296^xs.length<=4294967296^2:=Nat.pow_le_pow_right zD a;omega
end Go.Proofs.YtbomdfhdocaagaaGreatDoor
