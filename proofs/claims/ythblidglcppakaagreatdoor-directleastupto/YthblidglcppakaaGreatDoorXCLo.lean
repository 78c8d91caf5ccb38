/- Contracts that the proof leans on. -/
import Derived.WalkKit
import Derived.Test.YthblidglcppakaaGreatDoorXCNb
import Derived.Test.YthblidglcppakaaGreatDoorXCNa
import Derived.RegionTactic
import Derived.BigRegion
import Derived.Deep.RegionHeld3
import Derived.Deep.AppendLies
namespace Go.Proofs.YthblidglcppakaaGreatDoor
open Go.RowKit
set_option linter.unusedVariables false
set_option linter.unusedSimpArgs false
set_option maxHeartbeats 8000000
set_option maxRecDepth 10000
abbrev Pr:=Nat×Nat
def jB (l:Nat->Nat) (p:Pr):Nat->Nat:=fun x=>if l x=max (l p.1) (l p.2) then min (l p.1) (l p.2) else l x
def bG (E:List Pr):Nat->Nat:=E.foldl jB id
theorem mP (E:List Pr) (p:Pr):bG (E++[p])=jB (bG E) p:=by simp [bG]
theorem ph (l:Nat->Nat) (p:Pr) (a b:Nat):jB l p a=jB l p b↔l a=l b∨(l a=l p.1/\l b=l p.2)∨(l a=l p.2/\l b=l p.1):=by
 unfold jB;generalize l a=x,l b=y,l p.1=u,l p.2=v;constructor
 ·intro h;split at h<;>split at h<;>omega
 ·intro h;split<;>split<;>omega
def cr:List Int->List Pr->(Nat->Int)->Int
 | c :: cs,p :: ps,s=>c*(s p.1-s p.2)+cr cs ps s
 | _,_,_=>0
theorem zh (E:List Pr) (s:Nat->Int):cr (List.replicate E.length 0) E s=0:=by
 induction E with
 | nil=>rfl
 | cons p r ih=>simp [List.replicate_succ,cr,ih]
theorem da (c d:List Int) (E F:List Pr) (s:Nat->Int) (h:c.length=E.length):cr (c++d) (E++F) s=cr c E s+cr d F s:=by
 induction c generalizing E with
 | nil =>
  have:E=[]:=List.eq_nil_of_length_eq_zero h.symm;subst this;simp [cr]
 | cons x r ih =>
  cases E with
  | nil=>simp at h
  | cons p q =>
   simp only [List.cons_append,cr,ih q (by simpa using h)];omega
theorem tH (c d:List Int) (E:List Pr) (s:Nat->Int) (h:c.length=E.length) (k:d.length=E.length):cr (List.zipWith (· + ·) c d) E s=cr c E s+cr d E s:=by
 induction E generalizing c d with
 | nil =>
  have:c=[]:=List.eq_nil_of_length_eq_zero h;subst this;simp [cr]
 | cons p q ih =>
  match c,d with
  | [],_=>simp at h
  | _,[]=>simp at k
  | x :: c,y :: d =>
   simp only [List.zipWith_cons_cons,cr,ih c d (by simpa using h) (by simpa using k),Int.add_mul];omega
theorem tI (c:List Int) (E:List Pr) (s:Nat->Int):cr (c.map (- ·)) E s = - cr c E s:=by
 induction E generalizing c with
 | nil=>cases c<;>simp [cr]
 | cons p q ih =>
  match c with
  | []=>simp [cr]
  | x :: c =>
   simp only [List.map_cons,cr,ih c,Int.neg_mul];omega
theorem span (E:List Pr):∀ a b,bG E a=bG E b->∃ c:List Int,c.length=E.length/\∀ s:Nat->Int,s a-s b=cr c E s:=by
 have key:∀ (n:Nat) (E:List Pr),E.length=n->∀ a b,bG E a=bG E b->∃ c:List Int,c.length=E.length/\∀ s:Nat->Int,s a-s b=cr c E s:=by
  intro n;induction n with
  | zero =>
   intro E h a b hl;have:E=[]:=List.eq_nil_of_length_eq_zero h;subst this;have:a=b:=hl;subst this;exact ⟨[],rfl,fun s=>by simp [cr]⟩
  | succ n ih =>
   intro E h a b hl;have hne:E≠[]:=by intro e;subst e;simp at h
   obtain ⟨F,p,rfl⟩:∃ F p,E=F++[p]:=⟨E.dropLast,E.getLast hne,(List.dropLast_concat_getLast hne).symm⟩;have hF:F.length=n:=by simpa using h
   rw [mP,ph] at hl;rcases hl with hl | ⟨h1,h2⟩ | ⟨h1,h2⟩
   ·obtain ⟨c,hc,hs⟩:=ih F hF a b hl;exact ⟨c++[0],by simp [hc],fun s=>by rw [da _ _ _ _ _ hc,<- hs s];simp [cr]⟩
   ·obtain ⟨c,hc,hs⟩:=ih F hF _ _ h1;obtain ⟨d,hd,ht⟩:=ih F hF _ _ h2;refine ⟨List.zipWith (· + ·) c (d.map (- ·))++[1],by simp [hc,hd],fun s=>?_⟩;rw [da _ _ _ _ _ (by simp [hc,hd]),tH _ _ _ _ hc (by simp [hd]),tI,<- hs s,<- ht s];simp only [cr];omega
   ·obtain ⟨c,hc,hs⟩:=ih F hF _ _ h1;obtain ⟨d,hd,ht⟩:=ih F hF _ _ h2;refine ⟨List.zipWith (· + ·) c (d.map (- ·))++[-1],by simp [hc,hd],fun s=>?_⟩;rw [da _ _ _ _ _ (by simp [hc,hd]),tH _ _ _ _ hc (by simp [hd]),tI,<- hs s,<- ht s];simp only [cr];omega
 exact fun a b=>key E.length E rfl a b
theorem ug (E F:List Pr) (a b:Nat) (h:bG E a=bG E b):bG (E++F) a=bG (E++F) b:=by
 have key:∀ (F:List Pr) (l:Nat->Nat),l a=l b->F.foldl jB l a=F.foldl jB l b:=by
  intro F;induction F with
  | nil=>intro l h;exact h
  | cons p q ih=>intro l h;exact ih _ ((ph l p a b).2 (.inl h))
 unfold bG at h ⊢;rw [List.foldl_append];exact key F _ h
theorem lab_mem (E:List Pr) (p:Pr) (h:p∈E):bG E p.1=bG E p.2:=by
 obtain ⟨X,Y,rfl⟩:=List.append_of_mem h;have:X++p :: Y=(X++[p])++Y:=by simp
 rw [this];apply ug;rw [mP,ph];exact .inr (.inl ⟨rfl,rfl⟩)
def dw (E:List Pr):Prop:=∀ X p Y,E=X++p :: Y->bG X p.1≠bG X p.2
theorem dw.front {E:List Pr} {p:Pr} (h:dw (E++[p])):dw E:=fun X q Y e=>h X q (Y++[p]) (by rw [e];simp)
theorem dw.last {E:List Pr} {p:Pr} (h:dw (E++[p])):bG E p.1≠bG E p.2:=h E p [] rfl
theorem dw.nil:dw []:=fun X p Y e=>by simp at e
theorem dw.snoc {E:List Pr} {p:Pr} (h:dw E) (hp:bG E p.1≠bG E p.2):dw (E++[p]):=fun X q Y e=>by
 rcases List.eq_nil_or_concat Y with rfl | ⟨Z,z,rfl⟩
 ·obtain ⟨rfl,e2⟩:=List.append_inj' e (by simp);simp only [List.cons.injEq,and_true] at e2;subst e2;exact hp
 ·have e1:E++[p]=(X++q :: Z)++[z]:=by rw [e];simp
  obtain ⟨e3,_⟩:=List.append_inj' e1 (by simp);exact h X q Z e3
def dF (E:List Pr) (a x:Nat):Int:=if bG E x=bG E a then 1 else 0
theorem mJ (c:List Int) (E F:List Pr) (a:Nat) (h:∀ p∈F,p∈E):cr c F (dF E a)=0:=by
 induction F generalizing c with
 | nil=>cases c<;>rfl
 | cons p q ih =>
  match c with
  | []=>rfl
  | x :: c =>
   have e:=lab_mem E p (h p (by simp));simp only [cr,ih c (fun r hr=>h r (by simp [hr])),dF,e];simp
theorem indep:∀ (n:Nat) (E:List Pr) (d:List Int),E.length=n->d.length=E.length->dw E->(∀ s,cr d E s=0)->∀ x∈d,x=0:=by
 intro n;induction n with
 | zero =>
  intro E d h hd _ _ x hx;have:d=[]:=List.eq_nil_of_length_eq_zero (by omega);subst this;simp at hx
 | succ n ih =>
  intro E d h hd hf hs;have hne:E≠[]:=by intro e;subst e;simp at h
  have hnd:d≠[]:=by intro e;subst e;simp at hd;omega
  obtain ⟨F,p,rfl⟩:∃ F p,E=F++[p]:=⟨E.dropLast,E.getLast hne,(List.dropLast_concat_getLast hne).symm⟩;obtain ⟨c,y,rfl⟩:∃ c y,d=c++[y]:=⟨d.dropLast,d.getLast hnd,(List.dropLast_concat_getLast hnd).symm⟩;have hc:c.length=F.length:=by simpa using hd
  have hy:y=0:=by
   have h1:=hs (dF F p.1);rw [da _ _ _ _ _ hc,mJ c F F p.1 (fun _ h=>h)] at h1;have h2:=hf.last;simp only [cr,dF,if_true,if_neg (fun e:bG F p.2=bG F p.1=>h2 e.symm)] at h1;omega
  subst hy;have h3:∀ s,cr c F s=0:=by
   intro s;have h1:=hs s;rw [da _ _ _ _ _ hc] at h1;simp only [cr] at h1;omega
  intro x hx;rcases List.mem_append.1 hx with hx | hx
  ·exact ih F c (by simpa using h) hc hf.front h3 x hx
  ·simpa using hx
theorem qy {X Y:List Pr} {p:Pr} (hf:dw (X++p :: Y)):bG (X++Y) p.1≠bG (X++Y) p.2:=by
 intro e;obtain ⟨c,hc,hs⟩:=span (X++Y) _ _ e;obtain ⟨c1,c2,rfl,h1,h2⟩:∃ c1 c2,c=c1++c2/\c1.length=X.length/\c2.length=Y.length :=
  ⟨c.take X.length,c.drop X.length,(List.take_append_drop _ _).symm,by rw [List.length_take];simp at hc;omega,by rw [List.length_drop];simp at hc;omega⟩
 have h3:∀ s,cr (c1++(-1) :: c2) (X++p :: Y) s=0:=by
  intro s;have h4:=hs s;rw [da _ _ _ _ _ h1] at h4 ⊢;simp only [cr];omega
 have h5:=indep _ _ _ rfl (by simp [h1,h2]) hf h3 (-1) (by simp);omega
def tK (X Y:List Pr) (p e:Pr):Int:=dF (X++Y) p.1 e.1-dF (X++Y) p.1 e.2
theorem Bj {X Y:List Pr} {p:Pr} (hf:dw (X++p :: Y)):dF (X++Y) p.1 p.1-dF (X++Y) p.1 p.2=1:=by
 have:=qy hf;unfold dF;rw [if_pos rfl,if_neg (fun e=>this e.symm)];rfl
def jZ (X:List Pr):List Pr->Pr->List Int
 | [],_=>[]
 | p :: Y,e=>tK X Y p e :: jZ (X++[p]) Y e
theorem zg (E:List Pr) (hf:dw E) (e:Pr) (c:List Int) (hc:c.length=E.length) (hs:∀ s,s e.1-s e.2=cr c E s):c=jZ [] E e:=by
 have key:∀ (F X:List Pr) (c1 c2:List Int),E=X++F->c=c1++c2->c1.length=X.length->c2.length=F.length->c2=jZ X F e:=by
  intro F;induction F with
  | nil=>intro X c1 c2 _ _ _ h;exact List.eq_nil_of_length_eq_zero h
  | cons p Y ih =>
   intro X c1 c2 h1 h2 h3 h4;match c2 with
   | []=>simp at h4
   | x :: c2 =>
    have hx:x=tK X Y p e:=by
     have h5:=hs (dF (X++Y) p.1);rw [h1,h2,da _ _ _ _ _ h3] at h5;simp only [cr] at h5;rw [mJ c1 (X++Y) X p.1 (fun q hq=>by simp [hq]),mJ c2 (X++Y) Y p.1 (fun q hq=>by simp [hq]),Bj (by rw [<- h1];exact hf)] at h5;unfold tK;omega
    rw [hx,jZ,ih (X++[p]) (c1++[x]) c2 (by rw [h1];simp) (by rw [h2];simp) (by simp [h3]) (by simpa using h4)]
 exact key E [] [] c rfl rfl rfl hc
theorem zK (E:List Pr) (hf:dw E) (e:Pr) (he:bG E e.1=bG E e.2) (s:Nat->Int):s e.1-s e.2=cr (jZ [] E e) E s:=by
 obtain ⟨c,hc,hs⟩:=span E e.1 e.2 he;rw [<- zg E hf e c hc hs];exact hs s
theorem lab_le (E:List Pr):∀ x,bG E x<=x:=by
 have key:∀ (F:List Pr) (l:Nat->Nat),(∀ x,l x<=x)->∀ x,F.foldl jB l x<=x:=by
  intro F;induction F with
  | nil=>intro l h;exact h
  | cons p q ih =>
   intro l h;refine ih _ fun x=>?_
   have:=h x;unfold jB;split<;>omega
 exact key E id (fun _=>Nat.le_refl _)
def ApR (w:World) (n:Nat) (v:Value) (wr:World):Prop:=∃ k:Nat,k<=n/\v=.int .i64 k/\d6 wr w.heap.size (dM n fun x=>if x<k then x else 0)/\w.grownBy wr none
theorem tn (n:Nat) (w:World) (hn:n<=8) :
  Calls Tryz.prog 48 #[.int .i64 (n:Nat)] w fun e w'=>e=.returned (.slice (some ⟨w.heap.size,0,none⟩) n n)/\d6 w' w.heap.size (dM n (bG []))/\w.grownBy w' none:=by
 go_enter Tryz.func48,Tryz.ntmps48
 go_wp2_with (at_make;refine du iv 3 0 8 _ rfl _ _ 94 rfl Tryz.underlying94 Tryz.infoInt rfl _ _ _ _ n rfl rfl (by omega) (by omega) (by omega) (by omega) ?_)
 intro w1 harr hgr;have HR:=ab harr;have HG:=ab hgr;clear harr hgr;go_wp2;go_loopw [9] (fun v wr=>Hid (ApR w n v wr)) (fun v _=>n-(intOf v).toNat)
 case atStart =>
  refine ⟨0,by omega,rfl,?_,HG.out⟩;have e:dM n (fun x=>if x<0 then x else 0)=List.replicate n 0:=by
   apply List.ext_getElem
   ·simp [dM]
   ·intro i h1 h2;simp [dM]
  rw [e];exact HR.out
 case round =>
  obtain ⟨k,hk,rfl,h1,h2⟩:=hrel.out;by_cases hlt:k<n
  ·have hfr:=h1.free k;obtain ⟨v0,hco⟩:∃ v,wr.cell? ⟨w.heap.size,k,none⟩=some v:=⟨_,h1.cell k (by rw [cN];exact hlt)⟩;have H1:=ab h1;have H2:=ab h2;clear h1 h2 hrel;go_wp2;go_roundw
   case rel =>
    refine ⟨k+1,by omega,by go_num,?_,ai H2.out _ _ (Nat.le_refl _)⟩;have:=H1.out.set k ((k:Nat):Int) (.int .i64 (k:Nat)) rfl;rw [pj n _ k k hlt] at this;rw [fD n (fun x=>if x<k+1 then x else 0) (fun x=>if x=k then k else if x<k then x else 0)]
    ·exact this
    ·intro x hx;by_cases e:x=k
     ·subst e;simp
     ·by_cases e2:x<k
      ·rw [if_pos (by omega),if_neg e,if_pos e2]
      ·rw [if_neg (by omega),if_neg e,if_neg e2]
   case measure=>simp [intOf];omega
  ·obtain rfl:k=n:=by omega
   have H1:=ab h1;have H2:=ab h2;clear h1 h2 hrel;go_wp2;go_ret;refine ⟨rfl,?_,H2.out⟩;rw [fD k (bG []) (fun x=>if x<k then x else 0) (fun x hx=>by rw [if_pos hx];rfl)];exact H1.out
def JoR (w:World) (g n:Nat) (l:Nat->Nat) (hi lo:Nat) (v:Value) (wr:World):Prop:=∃ k:Nat,k<=n/\v=.int .i64 k/\d6 wr g (dM n fun x=>if x<k then (if l x=hi then lo else l x) else l x)/\w.grownBy wr (some g)
theorem join_at (g n cap:Nat) (l:Nat->Nat) (a b:Nat) (w:World) (hn:n<=8) (ha:a<n) (hb:b<n) (h:d6 w g (dM n l)) (hl:∀ x,x<n->l x<=8) (hc1:n<=cap) (hc2:cap<=maxLen) :
  Calls Tryz.prog 49 #[.slice (some ⟨g,0,none⟩) n cap,.int .i64 (a:Nat),.int .i64 (b:Nat)] w fun e w'=>e=.returned (.tuple #[])/\d6 w' g (dM n (jB l (a,b)))/\w.grownBy w' (some g):=by
 unfold maxLen at hc2;have ca:=h.cell a (by rw [cN];exact ha);have cb:=h.cell b (by rw [cN];exact hb);rw [lX] at ca cb;have la:=hl a ha;have lb:=hl b hb;obtain ⟨x,hx⟩:∃ x,x=l a:=⟨_,rfl⟩;obtain ⟨y,hy⟩:∃ y,y=l b:=⟨_,rfl⟩;rw [<- hx] at ca la;rw [<- hy] at cb lb;have H:=ab h;have HX:=ab hx;have HY:=ab hy;have HL:=ab hl;have hmin:min (x:Int) (y:Int)=((min x y:Nat):Int):=by omega
 have hmax:max (x:Int) (y:Int)=((max x y:Nat):Int):=by omega
 obtain ⟨lo,hlo⟩:∃ lo,lo=min x y:=⟨_,rfl⟩;obtain ⟨hi,hhi⟩:∃ hi,hi=max x y:=⟨_,rfl⟩;rw [<- hlo] at hmin;rw [<- hhi] at hmax;have HLO:=ab hlo;have HHI:=ab hhi;clear h hx hy hl hlo hhi;go_enter Tryz.func49,Tryz.ntmps49
 go_wp2;go_quiet (fail)
 go_wp2;clear hmin hmax ca cb;go_loopw [30] (fun v wr=>Hid (JoR w g n l hi lo v wr)) (fun v _=>n-(intOf v).toNat)
 case atStart =>
  refine ⟨0,by omega,rfl,?_,ar (ae _ _) _⟩;exact H.out
 case round =>
  obtain ⟨k,hk,rfl,h1,h2⟩:=hrel.out;by_cases hlt:k<n
  ·have hfr:=h1.free k;have hco:=h1.cell k (by rw [cN];exact hlt);rw [lX,if_neg (Nat.lt_irrefl k)] at hco;have hlk:=HL.out k hlt;obtain ⟨q,hq⟩:∃ q,q=l k:=⟨_,rfl⟩;rw [<- hq] at hco hlk;have HQ:=ab hq;have H1:=ab h1;have H2:=ab h2;clear h1 h2 hrel hq;by_cases he:q=hi
   ·have he':((q:Int)==(hi:Int))=true:=by simp [he]
    have HE:=ab he;clear he;go_wp2;go_roundw
    case rel =>
     refine ⟨k+1,by omega,by go_num,?_,eD H2.out g k _ rfl⟩;have:=H1.out.set k ((lo:Nat):Int) (.int .i64 (lo:Nat)) rfl;rw [pj n _ k lo hlt] at this;rw [fD n (fun x=>if x<k+1 then (if l x=hi then lo else l x) else l x) (fun x=>if x=k then lo else if x<k then (if l x=hi then lo else l x) else l x)]
     ·exact this
     ·intro x hx;by_cases e:x=k
      ·subst e;rw [if_pos (by omega),if_pos (by rw [<- HQ.out];exact HE.out),if_pos rfl]
      ·by_cases e2:x<k
       ·rw [if_pos (by omega),if_neg e,if_pos e2]
       ·rw [if_neg (by omega),if_neg e,if_neg e2]
    case measure=>simp [intOf];omega
   ·have he':((q:Int)==(hi:Int))=false:=by simp;omega
    have HE:=ab he;clear he;go_wp2;go_roundw
    case rel =>
     refine ⟨k+1,by omega,by go_num,?_,H2.out⟩;rw [fD n (fun x=>if x<k+1 then (if l x=hi then lo else l x) else l x) (fun x=>if x<k then (if l x=hi then lo else l x) else l x)]
     ·exact H1.out
     ·intro x hx;by_cases e:x=k
      ·subst e;rw [if_pos (by omega),if_neg (by rw [<- HQ.out];exact HE.out),if_neg (by omega)]
      ·by_cases e2:x<k
       ·rw [if_pos (by omega),if_pos e2]
       ·rw [if_neg (by omega),if_neg e2]
    case measure=>simp [intOf];omega
  ·obtain rfl:k=n:=by omega
   have H1:=ab h1;have H2:=ab h2;clear h1 h2 hrel;go_wp2;go_end0
   refine ⟨rfl,?_,H2.out⟩;rw [fD k (jB l (a,b)) (fun x=>if x<k then (if l x=hi then lo else l x) else l x)]
   ·exact H1.out
   ·intro x hx;rw [if_pos hx];unfold jB;rw [HHI.out,HLO.out,HX.out,HY.out]
theorem ue (g n cap:Nat) (E:List Pr) (a b:Nat) (w:World) (hn:n<=8) (ha:a<n) (hb:b<n) (h:d6 w g (dM n (bG E))) (hc1:n<=cap) (hc2:cap<=maxLen) :
  Calls Tryz.prog 49 #[.slice (some ⟨g,0,none⟩) n cap,.int .i64 (a:Nat),.int .i64 (b:Nat)] w fun e w'=>e=.returned (.tuple #[])/\d6 w' g (dM n (bG (E++[(a,b)])))/\w.grownBy w' (some g):=by
 rw [mP];exact join_at g n cap (bG E) a b w hn ha hb h (fun x hx=>by have:=lab_le E x;omega) hc1 hc2
def aS (ps:List aI):List Pr:=ps.map fun p=>(p.a.toNat,p.b.toNat)
structure yI (nodes:Int) (ps:List aI) (n:Nat):Prop where
 nodes:nodes=(n:Int)
 lo:1<=n
 hi:n<=8
 len:ps.length<=16
 ends:∀ i (h:i<ps.length),∃ a b:Nat,ps[i].a=(a:Int)/\ps[i].b=(b:Int)/\a<n/\b<n
theorem tU {nodes:Int} {ps:List aI} {i:Nat} (h:(cd nodes ps i).1=0):∀ p∈ps,di p nodes=0:=by
 induction ps generalizing i with
 | nil=>intro p hp;simp at hp
 | cons q r ih =>
  intro p hp;by_cases hq:di q nodes=0
  ·rw [cd,if_pos hq] at h;rcases List.mem_cons.1 hp with rfl | hp
   ·exact hq
   ·exact ih h p hp
  ·rw [cd,if_neg hq] at h;exact absurd h hq
theorem xI {p:aI} {nodes:Int} (h:di p nodes=0):fL p.a nodes=true/\fL p.b nodes=true:=by
 unfold di at h;split at h
 ·exact absurd h (by decide)
 ·unfold ks at h;split at h
  ·exact absurd h (by decide)
  ·rename_i h1;constructor
   ·cases h2:fL p.a nodes with
    | true=>rfl
    | false=>rw [h2] at h1;simp at h1
   ·cases h2:fL p.b nodes with
    | true=>rfl
    | false=>rw [h2] at h1;simp at h1
theorem good_of {nodes:Int} {ps:List aI} (h:(bV nodes ps).1=0):yI nodes ps nodes.toNat/\bV nodes ps=(0,0):=by
 unfold bV at h ⊢;by_cases hm:nodes<1∨8<nodes∨16<ps.length
 ·rw [if_pos hm] at h;exact absurd h (by decide)
 ·rw [if_neg hm] at h ⊢;have hall:=tU h;refine ⟨⟨by omega,by omega,by omega,by omega,fun i hi=>?_⟩,?_⟩
  ·obtain ⟨h1,h2⟩:=xI (hall ps[i] (List.getElem_mem hi));unfold fL at h1 h2;rw [Bool.and_eq_true,decide_eq_true_eq,decide_eq_true_eq] at h1 h2;exact ⟨ps[i].a.toNat,ps[i].b.toNat,by omega,by omega,by omega,by omega⟩
  ·have key:∀ (qs:List aI) (i:Nat),(∀ p∈qs,di p nodes=0)->cd nodes qs i=(0,0):=by
    intro qs;induction qs with
    | nil=>intro i _;rfl
    | cons q r ih =>
     intro i hq;rw [cd,if_pos (hq q (by simp))];exact ih _ (fun p hp=>hq p (by simp [hp]))
   exact key ps 0 hall
def BadE (w:World) (C:Int×Int) (e:Ending) (w':World):Prop:=e=.returned (.tuple #[.slice none 0 0,.agg #[.int .i64 C.1,.int .i64 C.2]])/\w.grownBy w' none
theorem Cr {ps:List aI} {i:Nat} (h:i<ps.length):(aS ps).take (i+1)=(aS ps).take i++[(ps[i].a.toNat,ps[i].b.toNat)]:=by
 rw [List.take_succ_eq_append_getElem (by simp [aS];exact h)];simp [aS]
def gH (E:List Pr) (T:List Nat):List Pr:=T.map fun i=>E.getD i (0,0)
def aA (E:List Pr):Nat->List Nat
 | 0=>[]
 | k+1=>if bG (gH E (aA E k)) (E.getD k (0,0)).1=bG (gH E (aA E k)) (E.getD k (0,0)).2 then aA E k else aA E k++[k]
def aE (E:List Pr):List Nat:=aA E E.length
theorem fQ.row {α:Type} {f:α->Value} {t:TypeId} {w:World} {g:Nat} {xs:List α} (h:fQ f t w g xs) (hm:xs.length<=maxLen):ee f w (.slice (some ⟨g,0,none⟩) xs.length xs.length) xs :=
 ⟨_,_,rfl,Nat.le_refl _,hm,fun i hi=>⟨g,0,rfl,h.lt,by rw [Nat.zero_add];exact h.cell i hi⟩⟩
def TreeR (W:World) (g base n:Nat) (E:List Pr) (ov v:Value) (wr:World):Prop :=
 ∃ i:Nat,i<=E.length/\v=.int .i64 i/\d6 wr g (dM n (bG (gH E (aA E i))))/\cL (fun x:Nat=>iv x) 3 wr base ov (aA E i)/\W.grownBy wr none/\base<=wr.heap.size
def TreeE (w:World) (ps:List aI) (e:Ending) (w':World):Prop:=∃ v,e=.returned (.tuple #[v,.agg #[.int .i64 0,.int .i64 0]])/\ee (fun x:Nat=>iv x) w' v (aE (aS ps))/\w.grownBy w' none
theorem sF {ps:List aI} {i:Nat} (h:i<ps.length):(aS ps).getD i (0,0)=(ps[i].a.toNat,ps[i].b.toNat):=by
 simp [aS,List.getD,h]
theorem mx (E:List Pr) (k:Nat):(aA E k).length<=k:=by
 induction k with
 | zero=>simp [aA]
 | succ k ih =>
  unfold aA;split
  ·omega
  ·simp;omega
theorem tree_ok (nodes:Int) (pv:Value) (ps:List aI) (n:Nat) (w:World) (hb:ia w) (hp:aK w pv ps) (hG:yI nodes ps n) (hC:bV nodes ps=(0,0)) :
  Calls Tryz.prog 22 #[.agg #[.int .i64 nodes,pv]] w fun e w'=>TreeE w ps e w':=by
 obtain ⟨i0,hi0,hz0,hz1,hz2⟩:=info_parts Tryz.infoInt;have HB:=ab hb;have HP:=ab hp;obtain ⟨ao,cap,rfl,h1,h2,h3⟩:=hp;unfold maxLen at h2;obtain ⟨rfl,g1,g2,g3,g4⟩:=hG;have HE:=ab g4;have HPC:=ab h3;have HCK:=ab hC;clear h3 hb g4 hC;go_enter Tryz.func22,Tryz.ntmps22
 go_wp2_with fail;have gW:w.grownBy ((w.alloc (Obj.cells #[.int .i64 (n:Nat),.slice ao ps.length cap] 24)).alloc (Obj.cells #[.int .i64 0,.int .i64 0] 29)) none:=ag (ag (ae _ _) _) _;have GW:=ab gW;clear gW;refine (sY (n:Nat) _ ps _ (HB.out.keep GW.out) (HP.out.keep GW.out)).mono ?_;intro e w1 hE;obtain ⟨rfl,k1⟩:=hE;rw [HCK.out];have K1:=ab k1;have b0:=k1.cell (a:=⟨w.heap.size,0,none⟩) (v:=.int .i64 (n:Nat)) (by go_simp) (by simp);have b1:=k1.cell (a:=⟨w.heap.size,1,none⟩) (v:=.slice ao ps.length cap) (by go_simp) (by simp);have hsz:w.heap.size+1<w1.heap.size:=by have:=k1.size;simp at this;omega
 have hsz0:w.heap.size<w1.heap.size:=by omega
 clear k1;obtain ⟨Wa,hWa⟩:∃ W,W=(w.alloc (Obj.cells #[.int .i64 (n:Nat),.slice ao ps.length cap] 24)).alloc (Obj.cells #[.int .i64 0,.int .i64 0] 29):=⟨_,rfl⟩;rw [<- hWa] at K1 GW;have RES:Hid (∀ wr:World,Wa.grownBy wr none->wr.cell? ⟨w.heap.size+1,0,none⟩=some (.int .i64 0)/\wr.cell? ⟨w.heap.size+1,1,none⟩=some (.int .i64 0)/\(∀ i,wr.frozen? ⟨w.heap.size+1,i,none⟩=false)/\wr.cell? ⟨w.heap.size,0,none⟩=some (.int .i64 (n:Nat))/\wr.cell? ⟨w.heap.size,1,none⟩=some (.slice ao ps.length cap)):=by
  intro wr hg;rw [hWa] at hg;have:=gG hg;refine ⟨by simpa using this.1,by simpa using this.2.1,by simpa using this.2.2,hg.cell (by go_simp) (by simp),hg.cell (by go_simp) (by simp)⟩
 have hWs:Wa.heap.size=w.heap.size+2:=by rw [hWa];simp
 have HWS:=ab hWs;clear hWa hWs;go_wp2_with fail;refine (tn n _ g2).mono ?_;rintro e w2 ⟨rfl,a1,a2⟩;have A1:=ab a1;have A2:=ab (aa (ag K1.out _) a2);have hgs:Wa.heap.size<=(w1.alloc (Obj.cells #[Value.int IntKind.i64 0,Value.int IntKind.i64 0] 29)).heap.size:=(ag K1.out _).size;generalize (w1.alloc (Obj.cells #[Value.int IntKind.i64 0,Value.int IntKind.i64 0] 29)).heap.size=g at *;have hgb:g<w2.heap.size:=a1.lt;obtain ⟨_,_,_,n0,n1⟩:=RES.out w2 A2.out;clear a1 a2 b0 b1;go_wp2;obtain ⟨base,hbase⟩:∃ b,b=w2.heap.size:=⟨_,rfl⟩;rw [<- hbase] at hgb;have HBASE:=ab hbase;clear hbase;have hpl:(aS ps).length=ps.length:=by simp [aS]
 have HPL:=ab hpl;clear hpl;go_loopw [5,21] (fun ov v wr=>Hid (TreeR Wa g base n (aS ps) ov v wr)) (fun _ v _=>ps.length-(intOf v).toNat)
 case atStart=>exact ⟨0,by omega,rfl,A1.out,iU,A2.out,by rw [HBASE.out];exact Nat.le_refl _⟩
 case round =>
  obtain ⟨i,hi,rfl,l1,l2,l3,l4⟩:=hrel.out;rw [HPL.out] at hi;obtain ⟨oo,oc,ev⟩:=l2.shape;subst ev;have L1:=ab l1;have L2:=ab l2;have L3:=ab l3;have htl:=mx (aS ps) i;obtain ⟨r0,r1,rf,_,_⟩:=RES.out wr l3;have rf0:=rf 0;have rf1:=rf 1;clear l1 l2 l3 hrel rf n0 n1 A1;by_cases hlt:i<ps.length
  ·obtain ⟨b,off,rfl,hb,c0,c1,c2,c3,c4,c5,c6⟩:=HPC.out i hlt;have hgg:=aa GW.out L3.out;obtain ⟨ea,eb,e1,e2,e3,e4⟩:=HE.out i hlt;have q0:=hgg.cell c0 (by simp);have q1:=hgg.cell c1 (by simp);have q2:=hgg.cell c2 (by simp);have q3:=hgg.cell c3 (by simp);have q4:=hgg.cell c4 (by simp);have q5:=hgg.cell c5 (by simp);have hpt:=sF (ps:=ps) hlt;rw [e1,e2,Int.toNat_natCast,Int.toNat_natCast] at hpt;rw [e1] at q1;rw [e2] at q2;have HPT:=ab hpt;have la:=L1.out.cell ea (by rw [cN];exact e3);have lb:=L1.out.cell eb (by rw [cN];exact e4);rw [lX] at la lb;have hgw:=L1.out.lt;generalize ps[i].kind=z0 at q0;generalize ps[i].c=z3 at q3;generalize ps[i].d=z4 at q4;generalize ps[i].v=z5 at q5;clear c0 c1 c2 c3 c4 c5 c6 hgg e1 e2 hpt HPC;by_cases heq:bG (gH (aS ps) (aA (aS ps) i)) ea=bG (gH (aS ps) (aA (aS ps) i)) eb
   ·have HEQ:=ab heq;rw [heq] at la;generalize bG (gH (aS ps) (aA (aS ps) i)) eb=x at la lb;clear heq;go_wp2;go_quiet (fail)
    go_wp2;go_roundw
    case rel =>
     have et:aA (aS ps) (i+1)=aA (aS ps) i:=by
      show (if _ then _ else _)=_
      rw [HPT.out,if_pos HEQ.out]
     refine ⟨i+1,by rw [HPL.out];omega,by go_num,?_,?_,ar (ag L3.out _) _,by simp;omega⟩
     ·rw [et];exact L1.out.keep0 (ar (ag (ae _ _) _) _)
     ·rw [et];exact L2.out.keep0 (ar (ag (ae _ _) _) _)
    case measure=>simp [intOf];omega
   ·have HEQ:=ab heq;have hne:(((bG (gH (aS ps) (aA (aS ps) i)) ea:Nat):Int) != ((bG (gH (aS ps) (aA (aS ps) i)) eb:Nat):Int))=true:=by
     rw [bne_iff_ne];omega
    generalize bG (gH (aS ps) (aA (aS ps) i)) ea=x at la hne;generalize bG (gH (aS ps) (aA (aS ps) i)) eb=y at lb hne;clear heq;go_wp2;go_quiet (fail)
    go_wp2_with fail;refine (ue g n n (gH (aS ps) (aA (aS ps) i)) ea eb _ g2 e3 e4 (L1.out.keep0 (ar (ag (ae _ _) _) _)) (by omega) (by unfold maxLen;omega)).mono ?_;rintro e w3 ⟨rfl,j1,j2⟩;have et:aA (aS ps) (i+1)=aA (aS ps) i++[i]:=by
     show (if _ then _ else _)=_
     rw [HPT.out,if_neg HEQ.out]
    have ET:=ab et;have J1:Hid (d6 w3 g (dM n (bG (gH (aS ps) (aA (aS ps) (i+1)))))):=by
     rw [et];have:gH (aS ps) (aA (aS ps) i++[i])=gH (aS ps) (aA (aS ps) i)++[(ea,eb)]:=by
      simp only [gH,List.map_append,List.map_cons,List.map_nil];rw [HPT.out]
     rw [this];exact j1
    have J2:=ab (j6 (ar (ag L3.out _) _) j2 hgs);have J3:=ab ((L2.out.keep0 (ar (ag (ae _ _) _) _)).keepB j2 hgb);have hb3:base<=w3.heap.size:=by
     have:=j2.size;simp at this;omega
    have hbig:(aA (aS ps) i).length<=16:=by omega
    clear j1 j2 et la lb L1 L2 htl;go_wp2_with (at_builtin;refine dZ (fun x:Nat=>iv x) 3 (iv 0) 8 _ rfl _ _ 31 rfl base Tryz.underlying31 Tryz.infoInt rfl _ (aA (aS ps) i) rfl (J3.out.keep0 (ag (ae _ _) _)) w3.heap.size i rfl (by go_simp) rfl (by omega) (by omega) (by simp;omega) ?_)
    intro ao' cap' w4 o1 o2;have O1:=ab o1;have O2:=ab o2;clear o1 o2;go_wp2;go_roundw
    case rel =>
     have hown:Hid (∀ k,(Value.slice oo (aA (aS ps) i).length oc).ownBlock=some k->base<=k):=fun k hk=>(J3.out.fresh k hk).1
     have hgr2:w3.grownBy w4 (Value.slice oo (aA (aS ps) i).length oc).ownBlock:=aq (r1:=none) (ag (ae _ _) _) O2.out (fun _ _ e=>by cases e) (fun _ _ e=>e);have hWb:Wa.heap.size<=base:=by omega
     refine ⟨i+1,by rw [HPL.out];omega,by go_num,?_,?_,?_,?_⟩
     ·refine J1.out.keep hgr2 ?_;intro e;have:=hown.out g e.symm;omega
     ·rw [ET.out];exact O1.out
     ·exact aq J2.out hgr2 (fun _ _ e=>e) (fun b hb e=>by have:=hown.out b e.symm;omega)
     ·exact Nat.le_trans hb3 hgr2.size
    case measure=>simp [intOf];omega
  ·have hie:i=(aS ps).length:=by rw [HPL.out];omega
   have HIE:=ab hie;clear hie HPC;go_wp2;refine bodyPost_ret (v:=.tuple #[.slice oo (aA (aS ps) i).length oc,.agg #[.int .i64 0,.int .i64 0]]) (by simp [results,Tryz.results22,go_sem,r0,r1]) rfl ?_;have hrow:=L2.out;have hne:∀ x y,wr.grownBy ((wr.setCell ⟨w.heap.size+1,0,none⟩ x).setCell ⟨w.heap.size+1,1,none⟩ y) (some (w.heap.size+1)):=fun x y=>eD (eD (ae _ _) _ 0 _ rfl) _ 1 _ rfl
   refine ⟨_,rfl,?_,ai (ai (aa GW.out L3.out) _ _ (by simp)) _ _ (by simp)⟩;have h5:=(hrow.keepB (hne (.int .i64 0) (.int .i64 0)) (by have:=HWS.out;omega)).row;unfold aE;rw [<- HIE.out];exact h5
abbrev nv (x:Nat):Value:=iv (x:Int)
def kj (n:Nat) (E:List Pr) (a:Nat):List Int:=(List.range n).map (dF E a)
theorem mi (n:Nat) (E:List Pr) (a:Nat):(kj n E a).length=n:=by simp [kj]
theorem At (n:Nat) (E:List Pr) (a i:Nat) (h:i<(kj n E a).length):(kj n E a)[i]=dF E a i:=by simp [kj]
def aQ (E:List Pr) (T:List Nat) (t:Nat):List Pr:=gH E (T.filter (fun x=>x != t))
def Sd1R (W:World) (g n:Nat) (E:List Pr) (T:List Nat) (t:Nat) (v:Value) (wr:World):Prop:=∃ i:Nat,i<=T.length/\v=.int .i64 i/\d6 wr g (dM n (bG (aQ E (T.take i) t)))/\W.grownBy wr none
def Sd2R (W:World) (g g2 n:Nat) (E:List Pr) (a:Nat) (v:Value) (wr:World):Prop:=∃ i:Nat,i<=n/\v=.int .i64 i/\d6 wr g (dM n (bG E))/\d6 wr g2 ((List.range n).map (fun x=>if x<i then dF E a x else 0))/\W.grownBy wr none
theorem sV {E:List Pr} {T:List Nat} {t i:Nat} (h:i<T.length):aQ E (T.take (i+1)) t=if T[i]=t then aQ E (T.take i) t else aQ E (T.take i) t++[E.getD T[i] (0,0)]:=by
 unfold aQ;rw [List.take_succ_eq_append_getElem h,List.filter_append];by_cases e:T[i]=t
 ·rw [if_pos e];simp [e]
 ·rw [if_neg e];simp [gH,e]
def SideE (w:World) (n:Nat) (E:List Pr) (T:List Nat) (t:Nat) (e:Ending) (w':World):Prop:=∃ g,e=.returned (.slice (some ⟨g,0,none⟩) n n)/\d6 w' g (kj n (aQ E T t) (E.getD t (0,0)).1)/\w.grownBy w' none
theorem Au (n:Nat) (pv tv:Value) (ps:List aI) (T:List Nat) (t:Nat) (w:World) (hp:aK w pv ps) (hG:yI (n:Int) ps n) (hT:ee nv w tv T) (hTl:∀ x∈T,x<ps.length) (hT16:T.length<=16) (ht:t<ps.length) :
  Calls Tryz.prog 50 #[.agg #[.int .i64 (n:Nat),pv],tv,.int .i64 (t:Nat)] w fun e w'=>SideE w n (aS ps) T t e w':=by
 obtain ⟨ao,cap,rfl,h1,h2,h3⟩:=hp;obtain ⟨to_,tc,rfl,t1,t2,t3⟩:=hT;unfold maxLen at h2 t2;obtain ⟨g0,g1,g2,g3,g4⟩:=hG;have HE:=ab g4;have HPC:=ab h3;have HTC:=ab t3;have HTL:=ab hTl;clear h3 g4 g0 t3 hTl;go_enter Tryz.func50,Tryz.ntmps50
 go_wp2_with fail;obtain ⟨Wa,hWa⟩:∃ W,W=w.alloc (Obj.cells #[.int .i64 (n:Nat),.slice ao ps.length cap] 24):=⟨_,rfl⟩;have GW:Hid (w.grownBy Wa none):=by rw [hWa];exact ag (ae _ _) _
 have RES:Hid (∀ wr:World,Wa.grownBy wr none->wr.cell? ⟨w.heap.size,0,none⟩=some (.int .i64 (n:Nat))/\wr.cell? ⟨w.heap.size,1,none⟩=some (.slice ao ps.length cap)):=by
  intro wr hg;rw [hWa] at hg;exact ⟨hg.cell (by go_simp) (by simp),hg.cell (by go_simp) (by simp)⟩
 have hws:w.heap.size<Wa.heap.size:=by rw [hWa];simp
 rw [<- hWa];clear hWa;refine (tn n _ g2).mono ?_;rintro e w2 ⟨rfl,a1,a2⟩;have A1:=ab a1;have A2:=ab a2;have hgs:Wa.heap.size<=Wa.heap.size:=Nat.le_refl _;generalize hgg0:Wa.heap.size=g at a1 a2 A1 hgs hws;rw [<- hgg0] at hgs;have HG0:=ab hgg0;obtain ⟨n0,n1⟩:=RES.out w2 a2;clear a1 a2 hgg0;go_wp2;go_loopw [18] (fun v wr=>Hid (Sd1R Wa g n (aS ps) T t v wr)) (fun v _=>T.length-(intOf v).toNat)
 case atStart=>exact ⟨0,by omega,rfl,A1.out,A2.out⟩
 case round =>
  obtain ⟨i,hi,rfl,l1,l2⟩:=hrel.out;have L1:=ab l1;have L2:=ab l2;obtain ⟨m0,m1⟩:=RES.out wr l2;clear l1 l2 hrel n0 n1 A1 A2;by_cases hlt:i<T.length
  ·obtain ⟨tb,toff,rfl,htb,htc⟩:=HTC.out i hlt;have htl:=HTL.out T[i] (List.getElem_mem hlt);have hws2:=sV (E:=aS ps) (t:=t) hlt;have qt:=(aa GW.out L2.out).cell htc (by simp);obtain ⟨x,hx⟩:∃ x,x=T[i]:=⟨_,rfl⟩;rw [<- hx] at qt htl hws2;have HWS2:=ab hws2;clear htc hws2 hx HTC;by_cases hxt:x=t
   ·have hxt':((x:Int) != (t:Int))=false:=by simp [hxt]
    have HXT:=ab hxt;clear hxt;go_wp2;go_roundw
    case rel=>exact ⟨i+1,by omega,by go_num,by rw [HWS2.out,if_pos HXT.out];exact L1.out,L2.out⟩
    case measure=>simp [intOf];omega
   ·have hxt':((x:Int) != (t:Int))=true:=by rw [bne_iff_ne];omega
    have HXT:=ab hxt;obtain ⟨b,off,rfl,hb,c0,c1,c2,c3,c4,c5,c6⟩:=HPC.out x htl;obtain ⟨ea,eb,e1,e2,e3,e4⟩:=HE.out x htl;have hgg:=aa GW.out L2.out;have q1:=hgg.cell c1 (by simp);have q2:=hgg.cell c2 (by simp);have hpt:=sF (ps:=ps) htl;rw [e1,e2,Int.toNat_natCast,Int.toNat_natCast] at hpt;rw [e1] at q1;rw [e2] at q2;have HPT:=ab hpt;have hbg:some b≠some g:=by
     intro e;have:=Option.some.inj e;have:=HG0.out;omega
    have hwg:some w.heap.size≠some g:=by
     intro e;have:=Option.some.inj e;omega
    clear c0 c1 c2 c3 c4 c5 c6 hgg e1 e2 hpt hxt;go_wp2_with fail;go_region_held3 (fun w'=>w'.cell? ⟨w.heap.size,1,none⟩=some (.slice (some ⟨b,off,none⟩) ps.length cap)/\w'.cell? ⟨b,off+x*6+1,none⟩=some (.int .i64 (ea:Nat))/\w'.cell? ⟨b,off+x*6+2,none⟩=some (.int .i64 (eb:Nat))) (go_keep)
     (first | (go_at_call 49;refine (ue g n n (aQ (aS ps) (T.take i) t) ea eb _ g2 e3 e4 (L1.out.keep0 (aj _)) (by omega) (by unfold maxLen;omega)).mono ?_;rintro e w3 ⟨rfl,j1,j2⟩;have s1:=(aq (r1:=none) (r2:=some g) (aj _) j2 (fun _ _ e=>by cases e) (fun _ _ e=>e)).cell m1 hwg;have s2:=(aq (r1:=none) (r2:=some g) (aj _) j2 (fun _ _ e=>by cases e) (fun _ _ e=>e)).cell q1 hbg;have s3:=(aq (r1:=none) (r2:=some g) (aj _) j2 (fun _ _ e=>by cases e) (fun _ _ e=>e)).cell q2 hbg))
    have J1:Hid (d6 w3 g (dM n (bG (aQ (aS ps) (T.take (i+1)) t)))):=by
     rw [HWS2.out,if_neg HXT.out,HPT.out];exact j1
    have J2:=ab (j6 (ar L2.out _) j2 (by have:=HG0.out;omega));clear j1 j2 s1 s2 s3 HPC HTL;go_wp2;go_roundw
    case rel=>exact ⟨i+1,by omega,by go_num,J1.out,J2.out⟩
    case measure=>simp [intOf];omega
  ·have htk:T.take i=T:=List.take_of_length_le (by omega);rw [htk] at L1;clear htk HTC HTL;obtain ⟨b,off,rfl,hb,c0,c1,c2,c3,c4,c5,c6⟩:=HPC.out t ht;obtain ⟨ea,eb,e1,e2,e3,e4⟩:=HE.out t ht;rw [e1] at c1;have hpt:=sF (ps:=ps) ht;rw [e1,e2,Int.toNat_natCast,Int.toNat_natCast] at hpt;have HPT:=ab hpt;have C1:=ab c1;clear c0 c1 c2 c3 c4 c5 c6 e1 e2 hpt HPC HE;go_wp2_with (at_make;refine du iv 3 0 8 _ rfl _ _ 31 rfl Tryz.underlying31 Tryz.infoInt rfl _ _ _ _ n rfl rfl (by omega) (by omega) (by omega) (by omega) ?_)
   intro w5 harr hgr;have HR:=ab harr;have L5:=ab (L1.out.keep0 hgr);have G5:=ab (aa L2.out hgr);have hg2:g<wr.heap.size:=L1.out.lt;have hgW:Wa.heap.size<=wr.heap.size:=L2.out.size;generalize wr.heap.size=gs at *;clear harr hgr L1 L2 m0 m1;go_wp2;go_loopw [45] (fun v wr=>Hid (Sd2R Wa g gs n (aQ (aS ps) T t) ea v wr)) (fun v _=>n-(intOf v).toNat)
   case atStart =>
    refine ⟨0,by omega,rfl,L5.out,?_,G5.out⟩;have e:(List.range n).map (fun x=>if x<0 then dF (aQ (aS ps) T t) ea x else 0)=List.replicate n 0:=by
     apply List.ext_getElem
     ·simp
     ·intro i h1 h2;simp
    rw [e];exact HR.out
   case round =>
    obtain ⟨j,hj,rfl,k1,k2,k3⟩:=hrel.out;obtain ⟨m0,m1⟩:=RES.out wr k3;by_cases hlt2:j<n
    ·have ca:=k1.cell ea (by rw [cN];exact e3);have cj:=k1.cell j (by rw [cN];exact hlt2);rw [lX] at ca cj;have qa:=(aa GW.out k3).cell C1.out (by simp);have hfr:=k2.free j;obtain ⟨v0,hco⟩:∃ v,wr.cell? ⟨gs,j,none⟩=some v:=⟨_,k2.cell j (by simp;exact hlt2)⟩;have K1:=ab k1;have K2:=ab k2;have K3:=ab k3;by_cases hes:bG (aQ (aS ps) T t) j=bG (aQ (aS ps) T t) ea
     ·have HES:=ab hes;rw [hes] at cj;generalize bG (aQ (aS ps) T t) ea=x at ca cj;clear hes k1 k2 k3 hrel;go_wp2;go_roundw
      case rel =>
       refine ⟨j+1,by omega,by go_num,?_,?_,ai K3.out _ _ hgW⟩
       ·exact K1.out.keep (eD (ae wr _) gs j (.int .i64 1) rfl) (by intro e;have:=Option.some.inj e;omega)
       ·have:=K2.out.set j 1 (.int .i64 1) rfl;have e:((List.range n).map (fun x=>if x<j then dF (aQ (aS ps) T t) ea x else 0)).set j 1=(List.range n).map (fun x=>if x<j+1 then dF (aQ (aS ps) T t) ea x else 0):=by
         apply List.ext_getElem
         ·simp
         ·intro q h1 h2;rw [List.getElem_set];by_cases e:j=q
          ·subst e;simp [dF,HES.out]
          ·by_cases e2:q<j
           ·simp [e,e2,Nat.lt_succ_of_lt e2]
           ·have e3:¬ q<j+1:=by omega
            simp [e,e2,e3]
        rw [e] at this;exact this
      case measure=>simp [intOf];omega
     ·have HES:=ab hes;have hbe:(((bG (aQ (aS ps) T t) j:Nat):Int)==((bG (aQ (aS ps) T t) ea:Nat):Int))=false:=by rw [beq_eq_false_iff_ne];omega
      generalize bG (aQ (aS ps) T t) ea=x at ca hbe;generalize bG (aQ (aS ps) T t) j=y at cj hbe;clear hes k1 k2 k3 hrel;go_wp2;go_roundw
      case rel =>
       refine ⟨j+1,by omega,by go_num,K1.out,?_,K3.out⟩;have e:(List.range n).map (fun x=>if x<j then dF (aQ (aS ps) T t) ea x else 0)=(List.range n).map (fun x=>if x<j+1 then dF (aQ (aS ps) T t) ea x else 0):=by
        apply List.map_congr_left;intro q _;by_cases e:q=j
        ·subst e;rw [if_neg (by omega),if_pos (by omega)];unfold dF;rw [if_neg HES.out]
        ·by_cases e2:q<j
         ·rw [if_pos e2,if_pos (by omega)]
         ·rw [if_neg e2,if_neg (by omega)]
       have:=K2.out;rw [e] at this;exact this
      case measure=>simp [intOf];omega
    ·obtain rfl:j=n:=by omega
     have K2:=ab k2;have K3:=ab k3;clear k1 k2 k3 hrel;go_wp2;go_ret;refine ⟨gs,rfl,?_,aa GW.out K3.out⟩;rw [HPT.out];have e:(List.range j).map (fun x=>if x<j then dF (aQ (aS ps) T t) ea x else 0)=kj j (aQ (aS ps) T t) ea:=by
      unfold kj;apply List.map_congr_left;intro q hq;rw [if_pos (List.mem_range.1 hq)]
     have:=K2.out;rw [e] at this;exact this
theorem ou (E:List Pr) (a x:Nat):dF E a x=0∨dF E a x=1:=by
 unfold dF;split
 ·exact .inr rfl
 ·exact .inl rfl
theorem wj (p:aI) (n g gs ea eb a:Nat) (E:List Pr) (w:World) (hn:n<=8) (h:d6 w gs (kj n E a)) (hc:w.cell? ⟨g,0,none⟩=some (.slice (some ⟨gs,0,none⟩) n n)) (hg:g<w.heap.size) (e1:p.a=(ea:Int)) (e2:p.b=(eb:Int)) (e3:ea<n) (e4:eb<n) :
  Calls Tryz.prog 52 #[p.val,.pointer (some ⟨g,0,none⟩)] w fun e w'=>e=.returned (.int .i64 (dF E a ea-dF E a eb))/\w.grownBy w' none:=by
 have hgs:=h.lt;have ca:=h.cell ea (by rw [mi];exact e3);have cb:=h.cell eb (by rw [mi];exact e4);rw [At] at ca cb;have s1:=ou E a ea;have s2:=ou E a eb;have hx:0<=dF E a ea/\dF E a ea<=1:=by omega
 have hy:0<=dF E a eb/\dF E a eb<=1:=by omega
 generalize dF E a ea=x at ca hx;generalize dF E a eb=y at cb hy;obtain ⟨x1,x2⟩:=hx;obtain ⟨y1,y2⟩:=hy;unfold aI.val;rw [e1,e2];generalize p.kind=z0;generalize p.c=z3;generalize p.d=z4;generalize p.v=z5;clear s1 s2 h e1 e2;go_enter Tryz.func52,Tryz.ntmps52
 go_wp2;go_quiet (fail)
 go_wp2;go_ret;exact ⟨rfl,ar (ag (ae _ _) _) _⟩
def cF (E:List Pr) (ps:List Pr) (a:Nat):List Int:=ps.map fun e=>dF E a e.1-dF E a e.2
def TellR (W:World) (base n gs:Nat) (E:List Pr) (a:Nat) (ps:List Pr) (ov v:Value) (wr:World):Prop:=∃ i:Nat,i<=ps.length/\v=.int .i64 i/\cL iv 3 wr base ov (cF E (ps.take i) a)/\d6 wr gs (kj n E a)/\W.grownBy wr none
def TellE (w:World) (E:List Pr) (a:Nat) (ps:List Pr) (e:Ending) (w':World):Prop:=∃ v,e=.returned v/\ee iv w' v (cF E ps a)/\w.grownBy w' none/\(∀ k,v.ownBlock=some k->w.heap.size<=k/\k<w'.heap.size)
theorem vC (n g gs a:Nat) (pv:Value) (ps:List aI) (E:List Pr) (w:World) (hp:aK w pv ps) (hG:yI (n:Int) ps n) (h:d6 w gs (kj n E a)) (hc:w.cell? ⟨g,0,none⟩=some (.slice (some ⟨gs,0,none⟩) n n)) (hg:g<w.heap.size) :
  Calls Tryz.prog 51 #[.agg #[.int .i64 (n:Nat),pv],.func (.func 52) #[] #[.pointer (some ⟨g,0,none⟩)]] w fun e w'=>TellE w E a (aS ps) e w':=by
 obtain ⟨ao,cap,rfl,h1,h2,h3⟩:=hp;unfold maxLen at h2;obtain ⟨g0,g1,g2,g3,g4⟩:=hG;have HE:=ab g4;have HPC:=ab h3;have HS:=ab h;have HC:=ab hc;have hpl:(aS ps).length=ps.length:=by simp [aS]
 have HPL:=ab hpl;have hgs:=h.lt;clear h3 g4 g0 h hc hpl;go_enter Tryz.func51,Tryz.ntmps51
 go_wp2;obtain ⟨Wa,hWa⟩:∃ W,W=w.alloc (Obj.cells #[.int .i64 (n:Nat),.slice ao ps.length cap] 24):=⟨_,rfl⟩;have GW:Hid (w.grownBy Wa none):=by rw [hWa];exact ag (ae _ _) _
 have hws:w.heap.size<Wa.heap.size:=by rw [hWa];simp
 simp only [<- hWa];clear hWa;go_loopw [5,11] (fun ov v wr=>Hid (TellR Wa Wa.heap.size n gs E a (aS ps) ov v wr)) (fun _ v _=>ps.length-(intOf v).toNat)
 case atStart=>exact ⟨0,by omega,rfl,iU,HS.out.keep0 GW.out,ae _ _⟩
 case round =>
  obtain ⟨i,hi,rfl,l1,l2,l3⟩:=hrel.out;rw [HPL.out] at hi;obtain ⟨oo,oc,ev⟩:=l1.shape;have hll:(cF E ((aS ps).take i) a).length=i:=by simp [cF,HPL.out];omega
  subst ev;have L1:=ab l1;have L2:=ab l2;have L3:=ab l3;have HLL:=ab hll;clear l1 l2 l3 hrel hll;by_cases hlt:i<ps.length
  ·obtain ⟨b,off,rfl,hb,c0,c1,c2,c3,c4,c5,c6⟩:=HPC.out i hlt;have hgg:=aa GW.out L3.out;obtain ⟨ea,eb,e1,e2,e3,e4⟩:=HE.out i hlt;have q0:=hgg.cell c0 (by simp);have q1:=hgg.cell c1 (by simp);have q2:=hgg.cell c2 (by simp);have q3:=hgg.cell c3 (by simp);have q4:=hgg.cell c4 (by simp);have q5:=hgg.cell c5 (by simp);have qc:=hgg.cell HC.out (by simp);have hgz:g<wr.heap.size:=Nat.lt_of_lt_of_le hg hgg.size;have hpt:=Cr (ps:=ps) hlt;rw [e1,e2,Int.toNat_natCast,Int.toNat_natCast] at hpt;have HPT:=ab hpt;have ET:=ab (And.intro e1 e2);generalize ps[i]=p at q0 q1 q2 q3 q4 q5 ET;clear c0 c1 c2 c3 c4 c5 c6 hgg e1 e2 hpt HPC;go_wp2_with fail;refine (wj p n g gs ea eb a E _ g2 (L2.out.keep0 (ag (ae _ _) _)) ((ag (ae wr none) _).cell qc (by simp)) (by simp;omega) ET.out.1 ET.out.2 e3 e4).mono ?_;rintro e w3 ⟨rfl,j2⟩;have J2:=ab (aa (ag (ae _ _) _) j2);have hj2:=J2.out.size;obtain ⟨z,hz⟩:∃ z,z=dF E a ea-dF E a eb:=⟨_,rfl⟩;rw [<- hz];have HZ:=ab hz;have hl3:=L3.out.size;clear j2 hz;go_wp2_with (at_builtin;refine dZ iv 3 (iv 0) 8 _ rfl _ _ 31 rfl Wa.heap.size Tryz.underlying31 Tryz.infoInt rfl _ (cF E ((aS ps).take i) a) rfl (L1.out.keep0 (ag J2.out _)) w3.heap.size z rfl (by go_simp) rfl (by rw [HLL.out];omega) (by omega) (by simp;omega) ?_)
   intro ao' cap' w4 o1 o2;have O1:=ab o1;have O2:=ab o2;clear o1 o2;go_wp2;go_roundw
   case rel =>
    have hown:∀ k,(Value.slice oo (cF E ((aS ps).take i) a).length oc).ownBlock=some k->Wa.heap.size<=k:=fun k hk=>(L1.out.fresh k hk).1
    have hgr2:=aq (r:=(Value.slice oo (cF E ((aS ps).take i) a).length oc).ownBlock) (r1:=none) (ag J2.out _) O2.out (fun _ _ e=>by cases e) (fun _ _ e=>e);refine ⟨i+1,by rw [HPL.out];omega,by go_num,?_,?_,?_⟩
    ·rw [HPT.out];have e:cF E ((aS ps).take i++[(ea,eb)]) a=cF E ((aS ps).take i) a++[z]:=by
      rw [HZ.out];simp [cF]
     rw [e];exact O1.out
    ·refine L2.out.keep hgr2 ?_;intro e;have:=hown gs e.symm;omega
    ·exact aq L3.out hgr2 (fun _ _ e=>e) (fun b hb e=>by have:=hown b e.symm;omega)
   case measure=>simp [intOf];omega
  ·have htk:(aS ps).take i=aS ps:=List.take_of_length_le (by rw [HPL.out];omega);have HTK:=ab htk;clear htk HPC;go_wp2;go_ret;refine ⟨_,rfl,?_,aa GW.out L3.out,?_⟩;rotate_left
   ·intro k hk;have:=L1.out.fresh k hk;omega
   have h5:=L1.out.row;show ee iv wr (.slice oo (cF E ((aS ps).take i) a).length oc) _
   rw [HTK.out] at h5 ⊢;exact h5
theorem Tryz.infoInts:(Tryz.prog.info? 31).map (fun i=>(i.zero,i.size,i.bytes))=some (some (.slice none 0 0),1,24):=by kernel_rfl
theorem ja {P:Program} {α:Type} (f:α->Value) (e:TypeId) (z0:Value) (by_:Nat) (W:World) {ops:Array Oper} {rest:List Oper} {o:Oper} {a:Act} {Q:Exit->Act->World->Prop}
  (hg:o.guard=none) (s x:Operand) (t:TypeId) (ho:o.op=.call { callee:=.builtin .append,args:=#[s,x],argTypes:=#[t,t] }) (base:Nat)
  (h1:P.underlying t=some (.slice e)) (hinfo:(P.info? e).map (fun i=>(i.zero,i.size,i.bytes))=some (some z0,1,by_)) (hcz:z0.cells.size=1)
  (v:Value) (xs:List α) (hs:a.eval s=v) (hown:cL f e W base v xs) (b:Nat) (y:α) (hx:a.eval x=.slice (some ⟨b,0,none⟩) 1 1) (hc:W.cell? ⟨b,0,none⟩=some (f y)) (h1c:(f y).oneCell'=true)
  (hlen:xs.length<=1000000) (hby:by_<=24) (hbase:base<=W.heap.size)
  (hK:∀ g cap w',cL f e w' base (.slice (some ⟨g,0,none⟩) (xs.length+1) cap) (xs++[y])->W.grownBy w' v.ownBlock->(v.ownBlock=some g∨g=W.heap.size)->wpList P ops Q rest (a.put o.dst (.slice (some ⟨g,0,none⟩) (xs.length+1) cap)) w'):wpList P ops Q (o :: rest) a W:=by
 obtain ⟨i,hi,hz0,hz1,hz2⟩:=info_parts hinfo;refine wpList_append_lies W hg s x t ho base e i z0 1 by_ h1 hi hz0 hz1 hz2 hcz (by decide) v xs.length (xs.map f) hs hown ⟨b,0,none⟩ 1 1 [f y] hx rfl ?_ ?_ (by decide) (by unfold maxLen;omega) ?_ hbase _ rfl ?_
 ·intro j u hj;match j with
  | 0 =>
   simp only [List.getElem?_cons_zero,Option.some.injEq] at hj;subst hj;simpa [Addr.add] using hc
  | j+1=>simp at hj
 ·intro u hu;simp only [List.mem_singleton] at hu;subst hu;exact h1c
 ·have:(xs.length+1)*by_<=(1000000+1)*24:=Nat.mul_le_mul (by omega) hby;omega
 ·intro g cap w' hown' hgr hat _;refine hK g cap w' ?_ hgr hat;unfold cL;rw [List.length_append,List.map_append];exact hown'
theorem ee.keepB {α:Type} {f:α->Value} {w w':World} {v:Value} {xs:List α} {row:Option Nat} (h:ee f w v xs) (hg:w.grownBy w' row) (hr:∀ k,v.ownBlock=some k->some k≠row):ee f w' v xs:=by
 obtain ⟨ao,cap,rfl,h1,h2,h3⟩:=h;refine ⟨ao,cap,rfl,h1,h2,fun i hi=>?_⟩;obtain ⟨b,off,rfl,hb,c⟩:=h3 i hi;exact ⟨b,off,rfl,Nat.lt_of_lt_of_le hb hg.size,hg.cell c (hr b rfl)⟩
def mE (w:World) (base:Nat) (ov:Value) (css:List (List Int)):Prop :=
 ∃ vals:List Value,cL id 31 w base ov vals/\vals.length=css.length/\∀ i (h:i<vals.length) (h':i<css.length),ee iv w vals[i] css[i]/\(∃ o l c,vals[i]=.slice o l c)/\∀ k,vals[i].ownBlock=some k->base<=k/\k<w.heap.size/\some k≠ov.ownBlock
theorem uF {w:World} {base:Nat} : mE w base (.slice none 0 0) []:=⟨[],iU,rfl,fun i h=>by simp at h⟩
theorem mE.keepB {w w':World} {base g:Nat} {ov:Value} {css:List (List Int)} (h:mE w base ov css) (hg:w.grownBy w' (some g)) (hb:g<base):mE w' base ov css:=by
 obtain ⟨vals,h1,h2,h3⟩:=h;refine ⟨vals,h1.keepB hg hb,h2,fun i hi hi'=>?_⟩;obtain ⟨k1,k2,k3⟩:=h3 i hi hi';exact ⟨k1.keepB hg (fun k hk e=>by have:=(k3 k hk).1;cases e;omega),k2,fun k hk=>⟨(k3 k hk).1,Nat.lt_of_lt_of_le (k3 k hk).2.1 hg.size,(k3 k hk).2.2⟩⟩
theorem mE.snoc {w w1 w':World} {base:Nat} {ov nw:Value} {css:List (List Int)} {vals:List Value} {row:List Int} {g cap:Nat} (h2:vals.length=css.length)
  (h3:∀ i (h:i<vals.length) (h':i<css.length),ee iv w1 vals[i] css[i]/\(∃ o l c,vals[i]=.slice o l c)/\∀ k,vals[i].ownBlock=some k->base<=k/\k<w1.heap.size/\some k≠ov.ownBlock)
  (hn:ee iv w1 nw row) (hns:∃ o l c,nw=.slice o l c) (hnk:∀ k,nw.ownBlock=some k->base<=k/\k<w1.heap.size/\some k≠ov.ownBlock)
  (ho:cL id 31 w' base (.slice (some ⟨g,0,none⟩) (vals.length+1) cap) (vals++[nw])) (hgr:w1.grownBy w' ov.ownBlock) (hat:ov.ownBlock=some g∨w1.heap.size<=g) :
  mE w' base (.slice (some ⟨g,0,none⟩) (vals.length+1) cap) (css++[row]):=by
 have key:∀ v xs,ee iv w1 v xs->(∀ k,v.ownBlock=some k->base<=k/\k<w1.heap.size/\some k≠ov.ownBlock)->ee iv w' v xs/\∀ k,v.ownBlock=some k->base<=k/\k<w'.heap.size/\some k≠(Value.slice (some ⟨g,0,none⟩) (vals.length+1) cap).ownBlock:=by
  intro v xs hv hk;refine ⟨hv.keepB hgr (fun k e=>(hk k e).2.2),fun k e=>⟨(hk k e).1,Nat.lt_of_lt_of_le (hk k e).2.1 hgr.size,?_⟩⟩;show some k≠some g
  intro e2;have e3:=Option.some.inj e2;subst e3;rcases hat with h | h
  ·exact (hk k e).2.2 h.symm
  ·have:=(hk k e).2.1;omega
 refine ⟨vals++[nw],ho,by simp [h2],fun i hi hi'=>?_⟩;by_cases hlt:i<vals.length
 ·obtain ⟨k1,k2,k3⟩:=h3 i hlt (by omega);obtain ⟨m1,m2⟩:=key _ _ k1 k3;simp only [List.getElem_append_left hlt,List.getElem_append_left (show i<css.length by omega)];exact ⟨m1,k2,m2⟩
 ·have hi2:i=vals.length:=by simp at hi;omega
  subst hi2;obtain ⟨m1,m2⟩:=key _ _ hn hnk;have e1:(vals++[nw])[vals.length]=nw:=by simp
  have e2:(css++[row])[vals.length]'hi'=row:=by simp [h2]
  rw [e1,e2];exact ⟨m1,hns,m2⟩
def bE (E:List Pr) (T:List Nat):List (List Int):=T.map fun t=>cF (aQ E T t) E (E.getD t (0,0)).1
def CutsR (W:World) (base:Nat) (E:List Pr) (T:List Nat) (ov v:Value) (wr:World):Prop:=∃ i:Nat,i<=T.length/\v=.int .i64 i/\mE wr base ov ((bE E T).take i)/\W.grownBy wr none
def CutsE (w:World) (E:List Pr) (T:List Nat) (e:Ending) (w':World):Prop:=∃ v,e=.returned v/\mE w' w.heap.size v (bE E T)/\w.grownBy w' none
theorem zn (n:Nat) (pv tv:Value) (ps:List aI) (T:List Nat) (w:World) (hp:aK w pv ps) (hG:yI (n:Int) ps n) (hT:ee nv w tv T) (hTl:∀ x∈T,x<ps.length) (hT16:T.length<=16) :
  Calls Tryz.prog 23 #[.agg #[.int .i64 (n:Nat),pv],tv] w fun e w'=>CutsE w (aS ps) T e w':=by
 have HP:=ab hp;have HT:=ab hT;obtain ⟨ao,cap,rfl,h1,h2,h3⟩:=hp;obtain ⟨to_,tc,rfl,t1,t2,t3⟩:=hT;unfold maxLen at h2 t2;have HG:=ab hG;have HTC:=ab t3;have HTL:=ab hTl;have g3:=hG.len;have g2:=hG.hi;clear h3 t3 hTl hG;have hcl:(bE (aS ps) T).length=T.length:=by simp [bE]
 have HCL:=ab hcl;clear hcl;go_enter Tryz.func23,Tryz.ntmps23
 go_wp2;obtain ⟨Wa,hWa⟩:∃ W,W=w.alloc (Obj.cells #[.int .i64 (n:Nat),.slice ao ps.length cap] 24):=⟨_,rfl⟩;have GW:Hid (w.grownBy Wa none):=by rw [hWa];exact ag (ae _ _) _
 have RES:Hid (∀ wr:World,Wa.grownBy wr none->wr.cell? ⟨w.heap.size,0,none⟩=some (.int .i64 (n:Nat))/\wr.cell? ⟨w.heap.size,1,none⟩=some (.slice ao ps.length cap)):=by
  intro wr hg;rw [hWa] at hg;exact ⟨hg.cell (by go_simp) (by simp),hg.cell (by go_simp) (by simp)⟩
 have hws:w.heap.size<Wa.heap.size:=by rw [hWa];simp
 simp only [<- hWa];clear hWa;go_loopw [5,11] (fun ov v wr=>Hid (CutsR Wa Wa.heap.size (aS ps) T ov v wr)) (fun _ v _=>T.length-(intOf v).toNat)
 case atStart=>exact ⟨0,by omega,rfl,uF,ae _ _⟩
 case round =>
  obtain ⟨i,hi,rfl,l1,l2⟩:=hrel.out;have L1:=ab l1;have L2:=ab l2;obtain ⟨vals,v1,v2,v3⟩:=l1;obtain ⟨oo,oc,ev⟩:=v1.shape;subst ev;obtain ⟨m0,m1⟩:=RES.out wr l2;have V1:=ab v1;have V2:=ab v2;have V3:=ab v3;clear l2 hrel v1 v2 v3;have hvl:vals.length=i:=by rw [V2.out,List.length_take,HCL.out];omega
  have HVL:=ab hvl;clear hvl;by_cases hlt:i<T.length
  ·obtain ⟨tb,toff,rfl,htb,htc⟩:=HTC.out i hlt;have htl:=HTL.out T[i] (List.getElem_mem hlt);have qt:=(aa GW.out L2.out).cell htc (by simp);have hct:(bE (aS ps) T).take (i+1)=(bE (aS ps) T).take i++[cF (aQ (aS ps) T T[i]) (aS ps) ((aS ps).getD T[i] (0,0)).1]:=by
    rw [List.take_succ_eq_append_getElem (by rw [HCL.out];exact hlt)];simp [bE]
   have HCT:=ab hct;generalize T[i]=x at qt htl HCT;clear htc hct HTC;go_wp2_with fail;refine (Au n _ _ ps T x _ (HP.out.keep (aa GW.out L2.out)) HG.out (HT.out.keep (aa GW.out L2.out)) HTL.out hT16 htl).mono ?_;intro e w3 hS;obtain ⟨gs,rfl,s1,s2⟩:=hS;have S1:=ab s1;have S2:=ab s2;have n0:=s2.cell m0 (by simp);have n1:=s2.cell m1 (by simp);have hsz3:w.heap.size<w3.heap.size:=by have:=L2.out.size;have:=s2.size;omega
   clear s1 s2 HTL m0 m1 qt;go_wp2_with fail;have gbx:Hid (wr.grownBy (w3.alloc (Obj.cells #[.slice (some ⟨gs,0,none⟩) n n] 31)) none):=ag S2.out _;refine (vC n w3.heap.size gs ((aS ps).getD x (0,0)).1 _ ps (aQ (aS ps) T x) _ (HP.out.keep (aa GW.out (aa L2.out gbx.out))) HG.out (S1.out.keep0 (ag (ae _ _) _)) (by go_simp) (by simp)).mono ?_;intro e w4 hTe;obtain ⟨rv,rfl,r1,r2,r3⟩:=hTe;obtain ⟨ro,rc,re,_⟩:=r1;subst re;have r1':ee iv w4 (.slice ro (cF (aQ (aS ps) T x) (aS ps) ((aS ps).getD x (0,0)).1).length rc) (cF (aQ (aS ps) T x) (aS ps) ((aS ps).getD x (0,0)).1):=⟨ro,rc,rfl,‹_›⟩;have R1:=ab r1';have R2:=ab (aa gbx.out r2);have R3:=ab r3;have hR2:=(aa gbx.out r2).size;have hL2:=L2.out.size;generalize cF (aQ (aS ps) T x) (aS ps) ((aS ps).getD x (0,0)).1=row at R1 HCT R3 ⊢;clear r1' r2 r3 n0 n1;go_wp2_with (at_builtin;refine ja id 31 (.slice none 0 0) 24 _ rfl _ _ 39 rfl Wa.heap.size Tryz.underlying39 Tryz.infoInts rfl _ vals rfl (V1.out.keep0 (ag R2.out _)) w4.heap.size (.slice ro row.length rc) rfl (by go_simp) rfl (by rw [HVL.out];omega) (by omega) (by simp;omega) ?_)
   intro g' cap' w5 o1 o2 o3;have O1:=ab o1;have O2:=ab o2;have O3:=ab o3;clear o1 o2 o3;go_wp2;go_roundw
   case rel =>
    have hgr2:=aq (r:=(Value.slice oo vals.length oc).ownBlock) (r1:=none) (ag (ae w4 none) _) O2.out (fun _ _ e=>by cases e) (fun _ _ e=>e);have hownb:∀ k,(Value.slice oo vals.length oc).ownBlock=some k->Wa.heap.size<=k/\k<wr.heap.size:=fun k hk=>V1.out.fresh k hk
    refine ⟨i+1,by omega,by go_num,?_,?_⟩
    ·rw [HCT.out];refine mE.snoc (w1:=w4) (w:=w4) (vals:=vals) (ov:=.slice oo vals.length oc) V2.out ?_ R1.out ⟨_,_,_,rfl⟩ ?_ O1.out hgr2 ?_
     ·intro j hj hj';obtain ⟨k1,k2,k3⟩:=V3.out j hj hj';exact ⟨k1.keep R2.out,k2,fun k hk=>⟨(k3 k hk).1,Nat.lt_of_lt_of_le (k3 k hk).2.1 hR2,(k3 k hk).2.2⟩⟩
     ·intro k hk;obtain ⟨a1,a2⟩:=R3.out k hk;have hgz:=gbx.out.size;refine ⟨by omega,a2,fun e=>?_⟩;have:=(hownb k e.symm).2;omega
     ·rcases O3.out with h | h
      ·exact .inl h
      ·right
       rw [h];simp
    ·exact aq (aa L2.out R2.out) hgr2 (fun _ _ e=>e) (fun b hb e=>by have:=(hownb b e.symm).1;omega)
   case measure=>simp [intOf];omega
  ·have htk:(bE (aS ps) T).take i=bE (aS ps) T:=List.take_of_length_le (by rw [HCL.out];omega);have HTK:=ab htk;clear htk HTC HTL;go_wp2;go_ret;refine ⟨_,rfl,?_,aa GW.out L2.out⟩;have h5:=L1.out;rw [HTK.out] at h5;obtain ⟨vs,o1,o2,o3⟩:=h5;refine ⟨vs,⟨o1.1,?_⟩,o2,fun i hi hi'=>⟨(o3 i hi hi').1,(o3 i hi hi').2.1,fun k hk=>⟨by have:=((o3 i hi hi').2.2 k hk).1;omega,((o3 i hi hi').2.2 k hk).2⟩⟩⟩;rcases o1.2 with h | ⟨g,cap',cur,e,hb,rest⟩
   ·exact .inl h
   ·exact .inr ⟨g,cap',cur,e,by omega,rest⟩
def oK (w:World) (v:Value) (css:List (List Int)):Prop :=
 ∃ vals:List Value,ee id w v vals/\vals.length=css.length/\∀ i (h:i<vals.length) (h':i<css.length),ee iv w vals[i] css[i]
theorem mE.rows {w:World} {base:Nat} {v:Value} {css:List (List Int)} (h:mE w base v css):oK w v css:=by
 obtain ⟨vals,h1,h2,h3⟩:=h;exact ⟨vals,h1.row,h2,fun i hi hi'=>(h3 i hi hi').1⟩
theorem oK.keep {w w':World} {v:Value} {css:List (List Int)} (h:oK w v css) (hg:w.grownBy w' none):oK w' v css:=by
 obtain ⟨vals,h1,h2,h3⟩:=h;exact ⟨vals,h1.keep hg,h2,fun i hi hi'=>(h3 i hi hi').keep hg⟩
def cO (m part:Nat) (T:List Nat) (css:List (List Int)):Nat->List Int
 | 0=>List.replicate m 0
 | i+1=>(cO m part T css i).set (T.getD i 0) (-((css.getD i []).getD part 0))
def dY (m part:Nat) (T:List Nat) (css:List (List Int)):List Int:=(cO m part T css T.length).set part 1
theorem cI (m part:Nat) (T:List Nat) (css:List (List Int)) (i:Nat):(cO m part T css i).length=m:=by
 induction i with
 | zero=>simp [cO]
 | succ i ih=>simp [cO,ih]
def LoopR (W:World) (g m part:Nat) (T:List Nat) (css:List (List Int)) (v:Value) (wr:World):Prop:=∃ i:Nat,i<=T.length/\v=.int .i64 i/\d6 wr g (cO m part T css i)/\W.grownBy wr none
def LoopE (w:World) (m part:Nat) (T:List Nat) (css:List (List Int)) (e:Ending) (w':World):Prop:=∃ g,e=.returned (.slice (some ⟨g,0,none⟩) m m)/\d6 w' g (dY m part T css)/\w.grownBy w' none/\w.heap.size<=g
theorem loop_at (nodes:Int) (o:Option Addr) (m pc part:Nat) (tv cv:Value) (T:List Nat) (css:List (List Int)) (w:World) (hT:ee nv w tv T) (hTl:∀ x∈T,x<m) (hm:m<=16) (hT16:T.length<=16) (hC:oK w cv css) (hcl:css.length=T.length) (hrow:∀ i (h:i<css.length),css[i].length=m) (hbd:∀ i (h:i<css.length),∀ x∈css[i],-1<=x/\x<=1) (hpart:part<m) (hpc:m<=pc) (hpc2:pc<=maxLen) :
  Calls Tryz.prog 24 #[.agg #[.int .i64 nodes,.slice o m pc],.int .i64 (part:Nat),tv,cv] w fun e w'=>LoopE w m part T css e w':=by
 obtain ⟨to_,tc,rfl,t1,t2,t3⟩:=hT;obtain ⟨vals,⟨co,cc,rfl,c1,c2,c3⟩,c4,c5⟩:=hC;unfold maxLen at t2 c2 hpc2;have HTC:=ab t3;have HTL:=ab hTl;have HC3:=ab c3;have HC4:=ab c4;have HC5:=ab c5;have HCL:=ab hcl;have HROW:=ab hrow;have HBD:=ab hbd;have hvT:vals.length<=T.length:=by omega
 have hTv:T.length<=vals.length:=by omega
 clear t3 hTl c3 c4 c5 hcl hrow hbd;go_enter Tryz.func24,Tryz.ntmps24
 go_wp2_with (at_make;refine du iv 3 0 8 _ rfl _ _ 31 rfl Tryz.underlying31 Tryz.infoInt rfl _ _ _ _ m rfl rfl (by omega) (by omega) (by omega) (by omega) ?_)
 intro w2 harr hgr;have HR:Hid (d6 w2 (w.heap.size+1) (List.replicate m 0)):=by first | exact harr | simpa using harr
 have HGR:=ab (aa (ag (ae w none) _) hgr);clear harr hgr;go_wp2;go_loopw [18] (fun v wr=>Hid (LoopR w (w.heap.size+1) m part T css v wr)) (fun v _=>T.length-(intOf v).toNat)
 case atStart=>exact ⟨0,by omega,rfl,HR.out,HGR.out⟩
 case round =>
  obtain ⟨i,hi,rfl,l1,l2⟩:=hrel.out;have L1:=ab l1;have L2:=ab l2;clear l1 l2 hrel;by_cases hlt:i<T.length
  ·obtain ⟨tb,toff,rfl,htb,htc⟩:=HTC.out i hlt;obtain ⟨cb,coff,rfl,hcb,hcc⟩:=HC3.out i (by omega);have hci:i<css.length:=by rw [HCL.out];exact hlt
   obtain ⟨ro,rc,re,r1,r2,r3⟩:=HC5.out i (by omega) hci;have hrl:=HROW.out i hci;obtain ⟨rb,roff,rfl,hrb,hrc⟩:=r3 part (by omega);have hxb:=HBD.out i hci (css[i][part]'(by omega)) (List.getElem_mem _);have htl:=HTL.out T[i] (List.getElem_mem hlt);have eT:T.getD i 0=T[i]:=by simp [List.getD,hlt]
   have eC:(css.getD i []).getD part 0=css[i][part]'(by omega):=by
    have:css.getD i []=css[i]:=by simp [List.getD,hci]
    rw [this];simp [List.getD,hrl,hpart]
   have qt:=L2.out.cell htc (by simp);have qc:=L2.out.cell hcc (by simp);have qr:=L2.out.cell hrc (by simp);simp only [id] at qc;rw [re,hrl] at qc;rw [hrl] at r1;obtain ⟨x,hx⟩:∃ x,x=T[i]:=⟨_,rfl⟩;obtain ⟨y,hy⟩:∃ y,y=css[i][part]'(by omega):=⟨_,rfl⟩;rw [<- hx] at qt htl eT;rw [<- hy] at qr hxb eC;obtain ⟨y1,y2⟩:=hxb;have hfr:=L1.out.free x;obtain ⟨v0,hco⟩:∃ v,wr.cell? ⟨w.heap.size+1,x,none⟩=some v:=⟨_,L1.out.cell x (by rw [cI];exact htl)⟩;have ET:=ab eT;have EC:=ab eC;unfold maxLen at r2;clear htc hcc hrc r3 re hx hy eT eC HTC HC3 HC5 HROW HBD HTL hrl;go_wp2;go_roundw
   case rel =>
    refine ⟨i+1,by omega,by go_num,?_,ai L2.out _ _ (by simp)⟩;show d6 _ _ ((cO m part T css i).set (T.getD i 0) (-((css.getD i []).getD part 0)))
    rw [ET.out,EC.out];exact L1.out.set x (-y) _ (by first | rfl | go_num | simp)
   case measure=>simp [intOf];omega
  ·obtain rfl:i=T.length:=by omega
   have hfr:=L1.out.free part;obtain ⟨v0,hco⟩:∃ v,wr.cell? ⟨w.heap.size+1,part,none⟩=some v:=⟨_,L1.out.cell part (by rw [cI];exact hpart)⟩;clear HTC HC3 HC5 HROW HBD HTL;go_wp2;go_ret;exact ⟨w.heap.size+1,rfl,L1.out.set part 1 _ rfl,ai L2.out _ _ (by simp),by omega⟩
theorem Di (nodes:Int) (pv:Value) (ps:List aI) (w:World) (hb:ia w) (hp:aK w pv ps) (hC:(bV nodes ps).1≠0) :
  Calls Tryz.prog 22 #[.agg #[.int .i64 nodes,pv]] w fun e w'=>BadE w (bV nodes ps) e w':=by
 have HB:=ab hb;have HP:=ab hp;obtain ⟨ao,cap,rfl,h1,h2,h3⟩:=hp;clear h3 hb h2;go_enter Tryz.func22,Tryz.ntmps22
 go_wp2_with fail;have gW:w.grownBy ((w.alloc (Obj.cells #[.int .i64 nodes,.slice ao ps.length cap] 24)).alloc (Obj.cells #[.int .i64 0,.int .i64 0] 29)) none:=ag (ag (ae _ _) _) _;have GW:=ab gW;clear gW;refine (sY nodes _ ps _ (HB.out.keep GW.out) (HP.out.keep GW.out)).mono ?_;intro e w1 hE;obtain ⟨rfl,g1⟩:=hE;have HG:=ab (aa GW.out g1);have hrr:w1.cell? ⟨w.heap.size+1,0,none⟩=some (.int .i64 0)/\w1.cell? ⟨w.heap.size+1,1,none⟩=some (.int .i64 0)/\(∀ i,w1.frozen? ⟨w.heap.size+1,i,none⟩=false):=by
  have:=gG g1;simpa using this
 obtain ⟨r0,r1,rf⟩:=hrr;have rf0:=rf 0;have rf1:=rf 1;have hsz:w.heap.size+1<w1.heap.size:=by have:=g1.size;simp at this;omega
 obtain ⟨C,hC'⟩:∃ C,C=bV nodes ps:=⟨_,rfl⟩;rw [<- hC'] at hC ⊢;obtain ⟨C1,C2⟩:=C;simp only at hC;have hz:=iD hC;have HC:=ab hC';clear rf g1 hC' hC;go_wp2;go_region
 go_wp2;refine bodyPost_ret (v:=.tuple #[.slice none 0 0,.agg #[.int .i64 C1,.int .i64 C2]]) (by simp [results,Tryz.results22,go_sem,r0,r1,hsz]) rfl ?_;refine ⟨?_,?_⟩
 ·rw [<- HC.out]
 ·exact ar (ag (ai (ai HG.out _ _ (by simp)) _ _ (by simp)) _) 1
theorem zN (nodes:Int) (pv:Value) (ps:List aI) (w:World) (hb:ia w) (hp:aK w pv ps) (hC:(bV nodes ps).1≠0) :
  Calls Tryz.prog 7 #[.agg #[.int .i64 nodes,pv]] w fun e w'=>BadE w (bV nodes ps) e w':=by
 have HB:=ab hb;have HP:=ab hp;obtain ⟨ao,cap,rfl,h1,h2,h3⟩:=hp;have HC0:=ab hC;clear h3 hb h2;go_enter Tryz.func7,Tryz.ntmps7
 go_wp2_with fail;have gW:w.grownBy ((w.alloc (Obj.cells #[.int .i64 nodes,.slice ao ps.length cap] 24)).alloc (Obj.cells #[.int .i64 0,.int .i64 0] 29)) none:=ag (ag (ae _ _) _) _;have GW:=ab gW;clear gW;refine (Di nodes _ ps _ (HB.out.keep GW.out) (HP.out.keep GW.out) HC0.out).mono ?_;intro e w1 hE;obtain ⟨rfl,g1⟩:=hE;have HG:=ab (aa GW.out g1);have hrr:w1.cell? ⟨w.heap.size+1,0,none⟩=some (.int .i64 0)/\w1.cell? ⟨w.heap.size+1,1,none⟩=some (.int .i64 0)/\(∀ i,w1.frozen? ⟨w.heap.size+1,i,none⟩=false):=by
  have:=gG g1;simpa using this
 obtain ⟨r0,r1,rf⟩:=hrr;have rf0:=rf 0;have rf1:=rf 1;have hsz:w.heap.size+1<w1.heap.size:=by have:=g1.size;simp at this;omega
 obtain ⟨C,hC'⟩:∃ C,C=bV nodes ps:=⟨_,rfl⟩;rw [<- hC'] at hC ⊢;obtain ⟨C1,C2⟩:=C;simp only at hC;have hz:=iD hC;have HC:=ab hC';clear rf g1 hC' hC;go_wp2;go_region
 go_wp2;refine bodyPost_ret (v:=.tuple #[.slice none 0 0,.agg #[.int .i64 C1,.int .i64 C2]]) (by simp [results,Tryz.results7,go_sem,r0,r1,hsz]) rfl ?_;refine ⟨?_,?_⟩
 ·rw [<- HC.out]
 ·exact ar (ag (ai (ai HG.out _ _ (by simp)) _ _ (by simp)) _) 1
theorem kn (E:List Pr) (k:Nat):∀ x∈aA E k,x<k:=by
 induction k with
 | zero=>intro x hx;simp [aA] at hx
 | succ k ih =>
  intro x hx;unfold aA at hx;split at hx
  ·have:=ih x hx;omega
  ·rcases List.mem_append.1 hx with h | h
   ·have:=ih x h;omega
   ·have:x=k:=by simpa using h
    omega
theorem rO (ps:List aI):∀ x∈aE (aS ps),x<ps.length:=by
 intro x hx;have:=kn (aS ps) _ x hx;simpa [aS] using this
theorem qg (ps:List aI) (h:ps.length<=16):(aE (aS ps)).length<=16:=by
 have:=mx (aS ps) (aS ps).length;have e:(aS ps).length=ps.length:=by simp [aS]
 unfold aE;omega
def bK (m:Nat) (T:List Nat) (css:List (List Int)) (i:Nat):List (List Int):=((List.range i).filter fun x=>!(T.contains x)).map fun x=>dY m x T css
def gT (m:Nat) (T:List Nat):List Bool:=(List.range m).map fun x=>T.contains x
theorem l8 (m:Nat) (T:List Nat):(gT m T).length=m:=by simp [gT]
theorem zQ (m:Nat) (T:List Nat) (i:Nat) (h:i<(gT m T).length):(gT m T)[i]=T.contains i:=by simp [gT]
theorem zR (m:Nat) (T:List Nat) (x:Nat):(gT m T).set x true=gT m (T++[x]):=by
 apply List.ext_getElem
 ·simp [gT]
 ·intro i h1 h2;rw [List.getElem_set];by_cases e:x=i
  ·subst e;simp [gT]
  ·have e2:¬ i=x:=fun h=>e h.symm
   simp [gT,e,e2]
theorem pn (m:Nat) (T:List Nat) (css:List (List Int)) (i:Nat):bK m T css (i+1)=if T.contains i then bK m T css i else bK m T css i++[dY m i T css]:=by
 unfold bK;rw [List.range_succ,List.filter_append];by_cases h:i∈T
 ·have h2:T.contains i=true:=by simpa using h
  rw [if_pos h2];simp [h]
 ·have h2:T.contains i=false:=by simpa using h
  rw [if_neg (by rw [h2];simp)];simp [h]
theorem zm (E:List Pr) (ps:List Pr) (a:Nat):∀ x∈cF E ps a,-1<=x/\x<=1:=by
 intro x hx;unfold cF at hx;obtain ⟨e,_,rfl⟩:=List.mem_map.1 hx;have h1:=ou E a e.1;have h2:=ou E a e.2;omega
theorem mK (E:List Pr) (T:List Nat) (i:Nat) (h:i<(bE E T).length):(bE E T)[i].length=E.length/\∀ x∈(bE E T)[i],-1<=x/\x<=1:=by
 have e:(bE E T)[i]=cF (aQ E T (T[i]'(by simpa [bE] using h))) E (E.getD (T[i]'(by simpa [bE] using h)) (0,0)).1:=by simp [bE]
 rw [e];exact ⟨by simp [cF],zm _ _ _⟩
def Mk1R (W:World) (gb m:Nat) (T:List Nat) (v:Value) (wr:World):Prop:=∃ i:Nat,i<=T.length/\v=.int .i64 i/\BArr wr gb (gT m (T.take i))/\W.grownBy wr none
def LpsR (W:World) (base gb m:Nat) (T:List Nat) (css:List (List Int)) (ov v:Value) (wr:World):Prop:=∃ i:Nat,i<=m/\v=.int .i64 i/\mE wr base ov (bK m T css i)/\BArr wr gb (gT m T)/\W.grownBy wr none/\base<=wr.heap.size
def LpsE (w:World) (ps:List aI) (e:Ending) (w':World):Prop:=∃ v,e=.returned (.tuple #[v,.agg #[.int .i64 0,.int .i64 0]])/\oK w' v (bK ps.length (aE (aS ps)) (bE (aS ps) (aE (aS ps))) ps.length)/\w.grownBy w' none
theorem BY (nodes:Int) (pv:Value) (ps:List aI) (n:Nat) (w:World) (hb:ia w) (hp:aK w pv ps) (hG:yI nodes ps n) (hC:bV nodes ps=(0,0)) :
  Calls Tryz.prog 7 #[.agg #[.int .i64 nodes,pv]] w fun e w'=>LpsE w ps e w':=by
 have HB:=ab hb;have HP:=ab hp;have HG:=ab hG;have HCK:=ab hC;obtain ⟨ao,cap,rfl,h1,h2,h3⟩:=hp;obtain ⟨rfl,g1,g2,g3,g4⟩:=hG;have h2':=h2;unfold maxLen at h2';have HM:=ab h2;clear h3 hb g4 hC h2;go_enter Tryz.func7,Tryz.ntmps7
 go_wp2_with fail;have gW:w.grownBy ((w.alloc (Obj.cells #[.int .i64 (n:Nat),.slice ao ps.length cap] 24)).alloc (Obj.cells #[.int .i64 0,.int .i64 0] 29)) none:=ag (ag (ae _ _) _) _;have GW:=ab gW;clear gW;refine (tree_ok (n:Nat) _ ps n _ (HB.out.keep GW.out) (HP.out.keep GW.out) HG.out HCK.out).mono ?_;intro e w1 hE;obtain ⟨tv,rfl,k0,k1⟩:=hE;obtain ⟨to_,tc,te,kt1,kt2,kt3⟩:=k0;have K0:Hid (ee nv w1 tv (aE (aS ps))):=⟨to_,tc,te,kt1,kt2,kt3⟩;subst te;unfold maxLen at kt2;have K1:=ab k1;have b0:=k1.cell (a:=⟨w.heap.size,0,none⟩) (v:=.int .i64 (n:Nat)) (by go_simp) (by simp);have b1:=k1.cell (a:=⟨w.heap.size,1,none⟩) (v:=.slice ao ps.length cap) (by go_simp) (by simp);have hsz:w.heap.size+1<w1.heap.size:=by have:=k1.size;simp at this;omega
 have hsz0:w.heap.size<w1.heap.size:=by omega
 obtain ⟨Wa,hWa⟩:∃ W,W=(w.alloc (Obj.cells #[.int .i64 (n:Nat),.slice ao ps.length cap] 24)).alloc (Obj.cells #[.int .i64 0,.int .i64 0] 29):=⟨_,rfl⟩;rw [<- hWa] at K1 GW;have RES:Hid (∀ wr:World,Wa.grownBy wr none->wr.cell? ⟨w.heap.size+1,0,none⟩=some (.int .i64 0)/\wr.cell? ⟨w.heap.size+1,1,none⟩=some (.int .i64 0)/\(∀ i,wr.frozen? ⟨w.heap.size+1,i,none⟩=false)/\wr.cell? ⟨w.heap.size,0,none⟩=some (.int .i64 (n:Nat))/\wr.cell? ⟨w.heap.size,1,none⟩=some (.slice ao ps.length cap)):=by
  intro wr hg;rw [hWa] at hg;have:=gG hg;refine ⟨by simpa using this.1,by simpa using this.2.1,by simpa using this.2.2,hg.cell (by go_simp) (by simp),hg.cell (by go_simp) (by simp)⟩
 have hWs:Wa.heap.size=w.heap.size+2:=by rw [hWa];simp
 have HWS:=ab hWs;clear k1 hWa hWs kt3;go_wp2_with fail;refine (zn n _ _ ps (aE (aS ps)) _ (HP.out.keep (aa GW.out (ag K1.out _))) HG.out (K0.out.keep (ag (ae _ _) _)) (rO ps) (qg ps g3)).mono ?_;intro e w2 hC2;obtain ⟨cv,rfl,c1,c2⟩:=hC2;have G2:=ab (aa (ag K1.out _) c2);have T2:=ab (K0.out.keep (aa (ag (ae _ _) _) c2));have C1:=ab c1.rows;obtain ⟨vals,v1,v2,v3⟩:=c1;clear v2 v3;obtain ⟨co,cc,ce⟩:=v1.shape;subst ce;have hT16:=qg ps g3;have HTLT:=ab (rO ps);have hcl:(bE (aS ps) (aE (aS ps))).length=(aE (aS ps)).length:=by simp [bE]
 have hpl:(aS ps).length=ps.length:=by simp [aS]
 have HROW:Hid (∀ i (h:i<(bE (aS ps) (aE (aS ps))).length),(bE (aS ps) (aE (aS ps)))[i].length=ps.length):=fun i h=>by rw [(mK _ _ i h).1,hpl]
 have HBD:Hid (∀ i (h:i<(bE (aS ps) (aE (aS ps))).length),∀ x∈(bE (aS ps) (aE (aS ps)))[i],-1<=x/\x<=1):=fun i h=>(mK _ _ i h).2
 have HCL:=ab hcl;generalize hcs:bE (aS ps) (aE (aS ps))=css at C1 HCL HROW HBD ⊢;have HCS:=ab hcs;generalize hT0:aE (aS ps)=T at K0 T2 HTLT hT16 HCL HCS kt1 ⊢;have HT0:=ab hT0;clear hcs hT0;obtain ⟨_,_,_,n0,n1⟩:=RES.out w2 G2.out;clear v1 c2 b0 b1 hcl hpl K0;go_wp2_with (at_make;refine du bv 4 false 1 _ rfl _ _ 69 rfl Tryz.underlying69 Tryz.infoBool rfl _ _ _ _ ps.length rfl rfl (by omega) (by omega) (by omega) (by omega) ?_)
 intro w3 harr hgr;have HR:=ab harr;have HGR:=ab hgr;clear harr hgr n0 n1;go_wp2;go_loopw [30] (fun v wr=>Hid (Mk1R w2 w2.heap.size ps.length T v wr)) (fun v _=>T.length-(intOf v).toNat)
 case atStart =>
  refine ⟨0,by omega,rfl,?_,HGR.out⟩;have e:gT ps.length (T.take 0)=List.replicate ps.length false:=by
   apply List.ext_getElem
   ·simp [gT]
   ·intro i h1 h2;simp [gT]
  rw [e];exact HR.out
 case round =>
  obtain ⟨i,hi,rfl,l1,l2⟩:=hrel.out;have L1:=ab l1;have L2:=ab l2;obtain ⟨_,_,_,m0,m1⟩:=RES.out wr (aa G2.out l2);clear l1 l2 hrel;by_cases hlt:i<T.length
  ·obtain ⟨to2,tc2,te2,_,_,ht3⟩:=T2.out;simp only [Value.slice.injEq,true_and] at te2;obtain ⟨rfl,rfl⟩:=te2;obtain ⟨tb,toff,rfl,htb,htc⟩:=ht3 i hlt;have htl:=HTLT.out T[i] (List.getElem_mem hlt);have htk:T.take (i+1)=T.take i++[T[i]]:=List.take_succ_eq_append_getElem hlt;have qt:=L2.out.cell htc (by simp);obtain ⟨x,hx⟩:∃ x,x=T[i]:=⟨_,rfl⟩;rw [<- hx] at qt htl htk;have HTK:=ab htk;have hfr:=L1.out.free x;obtain ⟨v0,hco⟩:∃ v,wr.cell? ⟨w2.heap.size,x,none⟩=some v:=⟨_,L1.out.cell x (by rw [l8];exact htl)⟩;clear htc ht3 hx htk HTLT;go_wp2;go_roundw
   case rel =>
    refine ⟨i+1,by omega,by go_num,?_,ai L2.out _ _ (by simp)⟩;have:=L1.out.set x true (.bool true) rfl;rw [zR,<- HTK.out] at this;exact this
   case measure=>simp [intOf];omega
  ·have htk:T.take i=T:=List.take_of_length_le (by omega);rw [htk] at L1;clear htk;have hb5:w2.heap.size<wr.heap.size:=L1.out.lt;obtain ⟨base,hbase⟩:∃ b,b=wr.heap.size:=⟨_,rfl⟩;rw [<- hbase] at hb5;have HBASE:=ab hbase;clear hbase;go_wp2;go_loopw [10,41] (fun ov v wr=>Hid (LpsR w2 base w2.heap.size ps.length T css ov v wr)) (fun _ v _=>ps.length-(intOf v).toNat)
   case atStart=>exact ⟨0,by omega,rfl,uF,L1.out,L2.out,by rw [HBASE.out];exact Nat.le_refl _⟩
   case round =>
    obtain ⟨j,hj,rfl,l1,l2,l3,l4⟩:=hrel.out;have P1:=ab l1;have P2:=ab l2;have P3:=ab l3;obtain ⟨r0,r1,rf,q0,q1⟩:=RES.out wr (aa G2.out l3);have rf0:=rf 0;have rf1:=rf 1;obtain ⟨vs,v1,v2,v3⟩:=l1;obtain ⟨oo,oc,oe⟩:=v1.shape;subst oe;have V1:=ab v1;have V2:=ab v2;have V3:=ab v3;have hvl:vs.length<=j:=by
     rw [v2];unfold bK;rw [List.length_map];have:=List.length_filter_le (fun x=>!(T.contains x)) (List.range j);simpa using this
    clear l2 l3 hrel rf v1 v2 v3 L1 L2 m0 m1 HBASE;by_cases hlt2:j<ps.length
    ·have hcm:=P2.out.cell j (by rw [l8];exact hlt2);rw [zQ] at hcm;have hls:=pn ps.length T css j;cases hin:T.contains j with
     | true =>
      rw [hin] at hcm hls;rw [if_pos rfl] at hls;have HLS:=ab hls;clear hls hin;go_wp2;go_roundw
      case rel=>exact ⟨j+1,by omega,by go_num,by rw [HLS.out];exact P1.out,P2.out,P3.out,l4⟩
      case measure=>simp [intOf];omega
     | false =>
      rw [hin] at hcm hls;rw [if_neg (by simp)] at hls;have HLS:=ab hls;clear hls hin;go_wp2_with fail;refine (loop_at (n:Nat) _ ps.length cap j _ _ T css _ (T2.out.keep P3.out) HTLT.out g3 hT16 (C1.out.keep P3.out) HCL.out HROW.out HBD.out hlt2 h1 HM.out).mono ?_;intro e w6 hL;obtain ⟨gl,rfl,a1,a2,a3⟩:=hL;have A1:=ab a1;have A2:=ab a2;have hgl:=a1.lt;have hs6:=a2.size;have hlv:(dY ps.length j T css).length=ps.length:=by simp [dY,cI]
      have HLV:=ab hlv;clear a1 a2 hlv;go_wp2_with (at_builtin;refine ja id 31 (.slice none 0 0) 24 _ rfl _ _ 39 rfl base Tryz.underlying39 Tryz.infoInts rfl _ vs rfl (V1.out.keep0 (ag A2.out _)) w6.heap.size (.slice (some ⟨gl,0,none⟩) ps.length ps.length) rfl (by go_simp) rfl (by omega) (by omega) (by simp;omega) ?_)
      intro g' cap' w7 o1 o2 o3;have O1:=ab o1;have O2:=ab o2;have O3:=ab o3;clear o1 o2 o3;go_wp2;go_roundw
      case rel =>
       have hgr2:=aq (r:=(Value.slice oo vs.length oc).ownBlock) (r1:=none) (ag (ae w6 none) _) O2.out (fun _ _ e=>by cases e) (fun _ _ e=>e);have hownb:∀ k,(Value.slice oo vs.length oc).ownBlock=some k->base<=k/\k<wr.heap.size:=fun k hk=>V1.out.fresh k hk
       have hrow:=fQ.row A1.out (by rw [HLV.out];unfold maxLen;omega);rw [HLV.out] at hrow;refine ⟨j+1,by omega,by go_num,?_,?_,?_,?_⟩
       ·rw [HLS.out];refine mE.snoc (w1:=w6) (w:=w6) (vals:=vs) (ov:=.slice oo vs.length oc) V2.out ?_ hrow ⟨_,_,_,rfl⟩ ?_ O1.out hgr2 ?_
        ·intro q hq hq';obtain ⟨k1,k2,k3⟩:=V3.out q hq hq';exact ⟨k1.keep A2.out,k2,fun k hk=>⟨(k3 k hk).1,Nat.lt_of_lt_of_le (k3 k hk).2.1 hs6,(k3 k hk).2.2⟩⟩
        ·intro k hk;have:gl=k:=by simpa [Value.ownBlock] using hk
         subst this;refine ⟨by omega,hgl,fun e=>?_⟩;have:=(hownb gl e.symm).2;omega
        ·rcases O3.out with h | h
         ·exact .inl h
         ·right
          rw [h];simp
       ·refine (P2.out.keep0 A2.out).keep hgr2 ?_;intro e;have:=(hownb w2.heap.size e.symm).1;omega
       ·exact aq (aa P3.out A2.out) hgr2 (fun _ _ e=>e) (fun b hb e=>by have:=(hownb b e.symm).1;omega)
       ·have:=hgr2.size;omega
      case measure=>simp [intOf];omega
    ·obtain rfl:j=ps.length:=by omega
     go_wp2;refine bodyPost_ret (v:=.tuple #[.slice oo vs.length oc,.agg #[.int .i64 0,.int .i64 0]]) (by simp [results,Tryz.results7,go_sem,r0,r1]) rfl ?_;refine ⟨_,rfl,?_,ai (ai (aa GW.out (aa G2.out P3.out)) _ _ (by simp)) _ _ (by simp)⟩;rw [HT0.out,HCS.out];exact (P1.out.keepB (eD (eD (ae wr _) (w.heap.size+1) 0 (.int .i64 0) rfl) (w.heap.size+1) 1 (.int .i64 0) rfl) (by have:=HWS.out;have:=G2.out.size;omega)).rows
theorem jD (E:List Pr) (k:Nat):∀ l,k<=l->∃ S,aA E l=aA E k++S/\∀ x∈S,k<=x:=by
 intro l;induction l with
 | zero =>
  intro h;have e:k=0:=by omega
  rw [e];exact ⟨[],by simp,by simp⟩
 | succ l ih =>
  intro h;by_cases e:k=l+1
  ·subst e;exact ⟨[],by simp,by simp⟩
  ·obtain ⟨S,h1,h2⟩:=ih (by omega);by_cases hc:bG (gH E (aA E l)) (E.getD l (0,0)).1=bG (gH E (aA E l)) (E.getD l (0,0)).2
   ·exact ⟨S,by rw [aA,if_pos hc];exact h1,h2⟩
   ·refine ⟨S++[l],by rw [aA,if_neg hc,h1];simp,fun x hx=>?_⟩;rcases List.mem_append.1 hx with h3 | h3
    ·exact h2 x h3
    ·have:x=l:=by simpa using h3
     omega
theorem qh (E:List Pr) (k:Nat):(aA E k).Nodup:=by
 induction k with
 | zero=>simp [aA]
 | succ k ih =>
  unfold aA;split
  ·exact ih
  ·rw [List.nodup_append];refine ⟨ih,by simp,?_⟩;intro a ha b hb e;have h1:=kn E k a ha;have:b=k:=by simpa using hb
   omega
theorem lG (E:List Pr) (S T:List Nat):gH E (S++T)=gH E S++gH E T:=by simp [gH]
theorem vH (E:List Pr) (k:Nat):dw (gH E (aA E k)):=by
 induction k with
 | zero=>exact dw.nil
 | succ k ih =>
  unfold aA;split
  ·exact ih
  ·rename_i h;rw [lG];exact dw.snoc ih h
theorem nontree (E:List Pr) (i:Nat) (hi:i<E.length) (h:i∉aE E):bG (gH E (aE E)) (E.getD i (0,0)).1=bG (gH E (aE E)) (E.getD i (0,0)).2:=by
 obtain ⟨S,h1,_⟩:=jD E (i+1) E.length (by omega);have h2:i∉aA E (i+1):=by
  intro e;apply h;unfold aE;rw [h1];exact List.mem_append.2 (.inl e)
 by_cases hc:bG (gH E (aA E i)) (E.getD i (0,0)).1=bG (gH E (aA E i)) (E.getD i (0,0)).2
 ·obtain ⟨S2,h3,_⟩:=jD E i E.length (by omega);unfold aE;rw [h3,lG];exact ug _ _ _ _ hc
 ·exfalso
  apply h2;rw [aA,if_neg hc];simp
theorem tJ (c:List Int) (E:List Pr) (t:Nat) (v:Int) (s:Nat->Int) (hc:c.length=E.length) (ht:t<E.length):cr (c.set t v) E s=cr c E s+(v-c.getD t 0)*(s (E.getD t (0,0)).1-s (E.getD t (0,0)).2):=by
 induction E generalizing c t with
 | nil=>simp at ht
 | cons p q ih =>
  match c with
  | []=>simp at hc
  | x :: c =>
   cases t with
   | zero =>
    simp only [List.set_cons_zero,cr,List.getD_cons_zero];rw [Int.sub_mul];omega
   | succ t =>
    simp only [List.set_cons_succ,cr,List.getD_cons_succ];rw [ih c t (by simpa using hc) (by simpa using ht)];omega
theorem lZ (m part:Nat) (T:List Nat) (css:List (List Int)) (i x:Nat) (hx:∀ j,j<i->T.getD j 0≠x):(cO m part T css i).getD x 0=0:=by
 induction i with
 | zero =>
  simp only [cO,List.getD];by_cases h:x<m
  ·simp [h]
  ·simp [h]
 | succ i ih =>
  have h1:=hx i (by omega);show ((cO m part T css i).set (T.getD i 0) (-((css.getD i []).getD part 0))).getD x 0=0
  rw [List.getD_eq_getElem?_getD,List.getElem?_set_ne h1,<- List.getD_eq_getElem?_getD];exact ih (fun j hj=>hx j (by omega))
def col (css:List (List Int)) (e:Nat):List Int:=css.map fun c=>c.getD e 0
theorem BJ {T:List Nat} (hn:T.Nodup) {i j:Nat} (hi:i<T.length) (hj:j<T.length) (h:T.getD i 0=T.getD j 0):i=j:=by
 have e1:T.getD i 0=T[i]:=by simp [List.getD,hi]
 have e2:T.getD j 0=T[j]:=by simp [List.getD,hj]
 rw [e1,e2] at h;have hp:=List.pairwise_iff_getElem.1 hn;rcases Nat.lt_trichotomy i j with h1 | h1 | h1
 ·exact absurd h (hp i j hi hj h1)
 ·exact h1
 ·exact absurd h.symm (hp j i hj hi h1)
theorem qC (E:List Pr) (part:Nat) (T:List Nat) (css:List (List Int)) (s:Nat->Int) (hn:T.Nodup) (hT:∀ x∈T,x<E.length) (hc:css.length=T.length):∀ i,i<=T.length->cr (cO E.length part T css i) E s = - cr ((col css part).take i) ((gH E T).take i) s:=by
 intro i;induction i with
 | zero =>
  intro _;simp only [cO,List.take_zero];have:=zh E s;rw [this];rfl
 | succ i ih =>
  intro hi;have hlt:i<T.length:=by omega
  have eT:T.getD i 0=T[i]:=by simp [List.getD,hlt]
  have hti:T.getD i 0<E.length:=by rw [eT];exact hT _ (List.getElem_mem hlt)
  rw [cO,tJ _ _ _ _ _ (cI _ _ _ _ _) hti,ih (by omega),lZ]
  ·have e1:(col css part).take (i+1)=(col css part).take i++[(css.getD i []).getD part 0]:=by
    rw [List.take_succ_eq_append_getElem (by simp [col];omega)];have hci:i<css.length:=by omega
    simp [col,List.getD,hci]
   have e2:(gH E T).take (i+1)=(gH E T).take i++[E.getD (T.getD i 0) (0,0)]:=by
    rw [List.take_succ_eq_append_getElem (by simp [gH];omega)];simp [gH,hlt]
   rw [e1,e2,da _ _ _ _ _ (by simp [col,gH];omega)];simp only [cr];rw [Int.sub_zero,Int.neg_mul];omega
  ·intro j hj e;have:=BJ hn (by omega) hlt e;omega
theorem Bf (E:List Pr) (e:Nat) (he:e<E.length):∀ (R P:List Nat),(P++R).Nodup->(∀ x∈P++R,x<E.length) ->
  R.map (fun t=>(cF (aQ E (P++R) t) E (E.getD t (0,0)).1).getD e 0)=jZ (gH E P) (gH E R) (E.getD e (0,0)):=by
 intro R;induction R with
 | nil=>intro P _ _;rfl
 | cons t R ih =>
  intro P hn hl;have h1:aQ E (P++t :: R) t=gH E P++gH E R:=by
   unfold aQ;rw [List.nodup_append] at hn;obtain ⟨n1,n2,n3⟩:=hn;rw [List.nodup_cons] at n2;rw [List.filter_append,List.filter_cons];have hP:P.filter (fun x=>x != t)=P:=by
    rw [List.filter_eq_self];intro x hx;simp only [bne_iff_ne];exact fun e=>n3 x hx t (by simp) e
   have hR:R.filter (fun x=>x != t)=R:=by
    rw [List.filter_eq_self];intro x hx;simp only [bne_iff_ne];exact fun e=>n2.1 (e▸hx)
   rw [hP,hR];simp [gH]
  have h2:=ih (P++[t]) (by simpa using hn) (by simpa using hl);simp only [List.append_assoc,List.singleton_append] at h2;rw [List.map_cons,h1,h2];show _=tK (gH E P) (gH E R) (E.getD t (0,0)) (E.getD e (0,0)) :: jZ (gH E P++[E.getD t (0,0)]) (gH E R) (E.getD e (0,0))
  rw [lG];congr 1
  ·unfold cF tK;simp [List.getD,he]
theorem zL (E:List Pr) (e:Nat) (he:e<E.length) (hnt:e∉aE E) (s:Nat->Int):cr (dY E.length e (aE E) (bE E (aE E))) E s=0:=by
 have hn:(aE E).Nodup:=qh E E.length;have hl:∀ x∈aE E,x<E.length:=kn E E.length;have hcl:(bE E (aE E)).length=(aE E).length:=by simp [bE]
 unfold dY;rw [tJ _ _ _ _ _ (cI _ _ _ _ _) he,qC E e (aE E) (bE E (aE E)) s hn hl hcl _ (Nat.le_refl _),lZ]
 ·have e1:(col (bE E (aE E)) e).take (aE E).length=jZ [] (gH E (aE E)) (E.getD e (0,0)):=by
   rw [List.take_of_length_le (by simp [col,bE])];have:=Bf E e he (aE E) [] (by simpa using hn) (by simpa using hl);rw [<- show gH E []=[] from rfl,<- this];simp [col,bE]
  have e2:(gH E (aE E)).take (aE E).length=gH E (aE E):=List.take_of_length_le (by simp [gH]);rw [e1,e2,<- zK (gH E (aE E)) (vH E E.length) (E.getD e (0,0)) (nontree E e he hnt) s];omega
 ·intro j hj h;apply hnt;have:(aE E).getD j 0=(aE E)[j]:=by simp [List.getD,hj]
  rw [<- h,this];exact List.getElem_mem hj
end Go.Proofs.YthblidglcppakaaGreatDoor
