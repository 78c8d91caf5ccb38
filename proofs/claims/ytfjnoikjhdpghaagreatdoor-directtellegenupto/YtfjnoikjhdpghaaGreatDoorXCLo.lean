/- Contracts that the proof leans on. -/
import Derived.WalkKit
import Derived.Test.YtfjnoikjhdpghaaGreatDoorXCNb
import Derived.Test.YtfjnoikjhdpghaaGreatDoorXCNa
import Derived.RegionTactic
import Derived.BigRegion
import Derived.Deep.RegionHeld3
import Derived.Deep.AppendLies
namespace Go.Proofs.YtfjnoikjhdpghaaGreatDoor
open Go.RowKit
set_option linter.unusedVariables false
set_option linter.unusedSimpArgs false
set_option maxHeartbeats 8000000
set_option maxRecDepth 10000
abbrev Pr:=Nat×Nat
def ju (l:Nat->Nat) (p:Pr):Nat->Nat:=fun x=>if l x=max (l p.1) (l p.2) then min (l p.1) (l p.2) else l x
def bH (E:List Pr):Nat->Nat:=E.foldl ju id
theorem mF (E:List Pr) (p:Pr):bH (E++[p])=ju (bH E) p:=by simp [bH]
theorem oW (l:Nat->Nat) (p:Pr) (a b:Nat):ju l p a=ju l p b↔l a=l b∨(l a=l p.1/\l b=l p.2)∨(l a=l p.2/\l b=l p.1):=by
 unfold ju;generalize l a=x,l b=y,l p.1=u,l p.2=v;constructor
 ·intro h;split at h<;>split at h<;>omega
 ·intro h;split<;>split<;>omega
def cB:List Int->List Pr->(Nat->Int)->Int
 | c :: cs,p :: ps,s=>c*(s p.1-s p.2)+cB cs ps s
 | _,_,_=>0
theorem yB (E:List Pr) (s:Nat->Int):cB (List.replicate E.length 0) E s=0:=by
 induction E with
 | nil=>rfl
 | cons p r ih=>simp [List.replicate_succ,cB,ih]
theorem de (c d:List Int) (E F:List Pr) (s:Nat->Int) (h:c.length=E.length):cB (c++d) (E++F) s=cB c E s+cB d F s:=by
 induction c generalizing E with
 | nil =>
  have:E=[]:=List.eq_nil_of_length_eq_zero h.symm;subst this;simp [cB]
 | cons x r ih =>
  cases E with
  | nil=>simp at h
  | cons p q =>
   simp only [List.cons_append,cB,ih q (by simpa using h)];omega
theorem ta (c d:List Int) (E:List Pr) (s:Nat->Int) (h:c.length=E.length) (k:d.length=E.length):cB (List.zipWith (· + ·) c d) E s=cB c E s+cB d E s:=by
 induction E generalizing c d with
 | nil =>
  have:c=[]:=List.eq_nil_of_length_eq_zero h;subst this;simp [cB]
 | cons p q ih =>
  match c,d with
  | [],_=>simp at h
  | _,[]=>simp at k
  | x :: c,y :: d =>
   simp only [List.zipWith_cons_cons,cB,ih c d (by simpa using h) (by simpa using k),Int.add_mul];omega
theorem td (c:List Int) (E:List Pr) (s:Nat->Int):cB (c.map (- ·)) E s = - cB c E s:=by
 induction E generalizing c with
 | nil=>cases c<;>simp [cB]
 | cons p q ih =>
  match c with
  | []=>simp [cB]
  | x :: c =>
   simp only [List.map_cons,cB,ih c,Int.neg_mul];omega
theorem span (E:List Pr):∀ a b,bH E a=bH E b->∃ c:List Int,c.length=E.length/\∀ s:Nat->Int,s a-s b=cB c E s:=by
 have key:∀ (n:Nat) (E:List Pr),E.length=n->∀ a b,bH E a=bH E b->∃ c:List Int,c.length=E.length/\∀ s:Nat->Int,s a-s b=cB c E s:=by
  intro n;induction n with
  | zero =>
   intro E h a b hl;have:E=[]:=List.eq_nil_of_length_eq_zero h;subst this;have:a=b:=hl;subst this;exact ⟨[],rfl,fun s=>by simp [cB]⟩
  | succ n ih =>
   intro E h a b hl;have hne:E≠[]:=by intro e;subst e;simp at h
   obtain ⟨F,p,rfl⟩:∃ F p,E=F++[p]:=⟨E.dropLast,E.getLast hne,(List.dropLast_concat_getLast hne).symm⟩;have hF:F.length=n:=by simpa using h
   rw [mF,oW] at hl;rcases hl with hl | ⟨h1,h2⟩ | ⟨h1,h2⟩
   ·obtain ⟨c,hc,hs⟩:=ih F hF a b hl;exact ⟨c++[0],by simp [hc],fun s=>by rw [de _ _ _ _ _ hc,<- hs s];simp [cB]⟩
   ·obtain ⟨c,hc,hs⟩:=ih F hF _ _ h1;obtain ⟨d,hd,ht⟩:=ih F hF _ _ h2;refine ⟨List.zipWith (· + ·) c (d.map (- ·))++[1],by simp [hc,hd],fun s=>?_⟩;rw [de _ _ _ _ _ (by simp [hc,hd]),ta _ _ _ _ hc (by simp [hd]),td,<- hs s,<- ht s];simp only [cB];omega
   ·obtain ⟨c,hc,hs⟩:=ih F hF _ _ h1;obtain ⟨d,hd,ht⟩:=ih F hF _ _ h2;refine ⟨List.zipWith (· + ·) c (d.map (- ·))++[-1],by simp [hc,hd],fun s=>?_⟩;rw [de _ _ _ _ _ (by simp [hc,hd]),ta _ _ _ _ hc (by simp [hd]),td,<- hs s,<- ht s];simp only [cB];omega
 exact fun a b=>key E.length E rfl a b
theorem tI (E F:List Pr) (a b:Nat) (h:bH E a=bH E b):bH (E++F) a=bH (E++F) b:=by
 have key:∀ (F:List Pr) (l:Nat->Nat),l a=l b->F.foldl ju l a=F.foldl ju l b:=by
  intro F;induction F with
  | nil=>intro l h;exact h
  | cons p q ih=>intro l h;exact ih _ ((oW l p a b).2 (.inl h))
 unfold bH at h ⊢;rw [List.foldl_append];exact key F _ h
theorem lab_mem (E:List Pr) (p:Pr) (h:p∈E):bH E p.1=bH E p.2:=by
 obtain ⟨X,Y,rfl⟩:=List.append_of_mem h;have:X++p :: Y=(X++[p])++Y:=by simp
 rw [this];apply tI;rw [mF,oW];exact .inr (.inl ⟨rfl,rfl⟩)
def du (E:List Pr):Prop:=∀ X p Y,E=X++p :: Y->bH X p.1≠bH X p.2
theorem du.front {E:List Pr} {p:Pr} (h:du (E++[p])):du E:=fun X q Y e=>h X q (Y++[p]) (by rw [e];simp)
theorem du.last {E:List Pr} {p:Pr} (h:du (E++[p])):bH E p.1≠bH E p.2:=h E p [] rfl
theorem du.nil:du []:=fun X p Y e=>by simp at e
theorem du.snoc {E:List Pr} {p:Pr} (h:du E) (hp:bH E p.1≠bH E p.2):du (E++[p]):=fun X q Y e=>by
 rcases List.eq_nil_or_concat Y with rfl | ⟨Z,z,rfl⟩
 ·obtain ⟨rfl,e2⟩:=List.append_inj' e (by simp);simp only [List.cons.injEq,and_true] at e2;subst e2;exact hp
 ·have e1:E++[p]=(X++q :: Z)++[z]:=by rw [e];simp
  obtain ⟨e3,_⟩:=List.append_inj' e1 (by simp);exact h X q Z e3
def dH (E:List Pr) (a x:Nat):Int:=if bH E x=bH E a then 1 else 0
theorem mz (c:List Int) (E F:List Pr) (a:Nat) (h:∀ p∈F,p∈E):cB c F (dH E a)=0:=by
 induction F generalizing c with
 | nil=>cases c<;>rfl
 | cons p q ih =>
  match c with
  | []=>rfl
  | x :: c =>
   have e:=lab_mem E p (h p (by simp));simp only [cB,ih c (fun r hr=>h r (by simp [hr])),dH,e];simp
theorem indep:∀ (n:Nat) (E:List Pr) (d:List Int),E.length=n->d.length=E.length->du E->(∀ s,cB d E s=0)->∀ x∈d,x=0:=by
 intro n;induction n with
 | zero =>
  intro E d h hd _ _ x hx;have:d=[]:=List.eq_nil_of_length_eq_zero (by omega);subst this;simp at hx
 | succ n ih =>
  intro E d h hd hf hs;have hne:E≠[]:=by intro e;subst e;simp at h
  have hnd:d≠[]:=by intro e;subst e;simp at hd;omega
  obtain ⟨F,p,rfl⟩:∃ F p,E=F++[p]:=⟨E.dropLast,E.getLast hne,(List.dropLast_concat_getLast hne).symm⟩;obtain ⟨c,y,rfl⟩:∃ c y,d=c++[y]:=⟨d.dropLast,d.getLast hnd,(List.dropLast_concat_getLast hnd).symm⟩;have hc:c.length=F.length:=by simpa using hd
  have hy:y=0:=by
   have h1:=hs (dH F p.1);rw [de _ _ _ _ _ hc,mz c F F p.1 (fun _ h=>h)] at h1;have h2:=hf.last;simp only [cB,dH,if_true,if_neg (fun e:bH F p.2=bH F p.1=>h2 e.symm)] at h1;omega
  subst hy;have h3:∀ s,cB c F s=0:=by
   intro s;have h1:=hs s;rw [de _ _ _ _ _ hc] at h1;simp only [cB] at h1;omega
  intro x hx;rcases List.mem_append.1 hx with hx | hx
  ·exact ih F c (by simpa using h) hc hf.front h3 x hx
  ·simpa using hx
theorem qi {X Y:List Pr} {p:Pr} (hf:du (X++p :: Y)):bH (X++Y) p.1≠bH (X++Y) p.2:=by
 intro e;obtain ⟨c,hc,hs⟩:=span (X++Y) _ _ e;obtain ⟨c1,c2,rfl,h1,h2⟩:∃ c1 c2,c=c1++c2/\c1.length=X.length/\c2.length=Y.length :=
  ⟨c.take X.length,c.drop X.length,(List.take_append_drop _ _).symm,by rw [List.length_take];simp at hc;omega,by rw [List.length_drop];simp at hc;omega⟩
 have h3:∀ s,cB (c1++(-1) :: c2) (X++p :: Y) s=0:=by
  intro s;have h4:=hs s;rw [de _ _ _ _ _ h1] at h4 ⊢;simp only [cB];omega
 have h5:=indep _ _ _ rfl (by simp [h1,h2]) hf h3 (-1) (by simp);omega
def th (X Y:List Pr) (p e:Pr):Int:=dH (X++Y) p.1 e.1-dH (X++Y) p.1 e.2
theorem AK {X Y:List Pr} {p:Pr} (hf:du (X++p :: Y)):dH (X++Y) p.1 p.1-dH (X++Y) p.1 p.2=1:=by
 have:=qi hf;unfold dH;rw [if_pos rfl,if_neg (fun e=>this e.symm)];rfl
def jQ (X:List Pr):List Pr->Pr->List Int
 | [],_=>[]
 | p :: Y,e=>th X Y p e :: jQ (X++[p]) Y e
theorem yA (E:List Pr) (hf:du E) (e:Pr) (c:List Int) (hc:c.length=E.length) (hs:∀ s,s e.1-s e.2=cB c E s):c=jQ [] E e:=by
 have key:∀ (F X:List Pr) (c1 c2:List Int),E=X++F->c=c1++c2->c1.length=X.length->c2.length=F.length->c2=jQ X F e:=by
  intro F;induction F with
  | nil=>intro X c1 c2 _ _ _ h;exact List.eq_nil_of_length_eq_zero h
  | cons p Y ih =>
   intro X c1 c2 h1 h2 h3 h4;match c2 with
   | []=>simp at h4
   | x :: c2 =>
    have hx:x=th X Y p e:=by
     have h5:=hs (dH (X++Y) p.1);rw [h1,h2,de _ _ _ _ _ h3] at h5;simp only [cB] at h5;rw [mz c1 (X++Y) X p.1 (fun q hq=>by simp [hq]),mz c2 (X++Y) Y p.1 (fun q hq=>by simp [hq]),AK (by rw [<- h1];exact hf)] at h5;unfold th;omega
    rw [hx,jQ,ih (X++[p]) (c1++[x]) c2 (by rw [h1];simp) (by rw [h2];simp) (by simp [h3]) (by simpa using h4)]
 exact key E [] [] c rfl rfl rfl hc
theorem zb (E:List Pr) (hf:du E) (e:Pr) (he:bH E e.1=bH E e.2) (s:Nat->Int):s e.1-s e.2=cB (jQ [] E e) E s:=by
 obtain ⟨c,hc,hs⟩:=span E e.1 e.2 he;rw [<- yA E hf e c hc hs];exact hs s
theorem lab_le (E:List Pr):∀ x,bH E x<=x:=by
 have key:∀ (F:List Pr) (l:Nat->Nat),(∀ x,l x<=x)->∀ x,F.foldl ju l x<=x:=by
  intro F;induction F with
  | nil=>intro l h;exact h
  | cons p q ih =>
   intro l h;refine ih _ fun x=>?_
   have:=h x;unfold ju;split<;>omega
 exact key E id (fun _=>Nat.le_refl _)
def ApR (w:World) (n:Nat) (v:Value) (wr:World):Prop:=∃ k:Nat,k<=n/\v=.int .i64 k/\dZ wr w.heap.size (dN n fun x=>if x<k then x else 0)/\w.grownBy wr none
theorem sN (n:Nat) (w:World) (hn:n<=8) :
  Calls Tryz.prog 63 #[.int .i64 (n:Nat)] w fun e w'=>e=.returned (.slice (some ⟨w.heap.size,0,none⟩) n n)/\dZ w' w.heap.size (dN n (bH []))/\w.grownBy w' none:=by
 go_enter Tryz.func63,Tryz.ntmps63
 go_wp2_with (at_make;refine dt iv 3 0 8 _ rfl _ _ 104 rfl Tryz.underlying104 Tryz.infoInt rfl _ _ _ _ n rfl rfl (by omega) (by omega) (by omega) (by omega) ?_)
 intro w1 harr hgr;have HR:=ab harr;have HG:=ab hgr;clear harr hgr;go_wp2;go_loopw [9] (fun v wr=>Hid (ApR w n v wr)) (fun v _=>n-(intOf v).toNat)
 case atStart =>
  refine ⟨0,by omega,rfl,?_,HG.out⟩;have e:dN n (fun x=>if x<0 then x else 0)=List.replicate n 0:=by
   apply List.ext_getElem
   ·simp [dN]
   ·intro i h1 h2;simp [dN]
  rw [e];exact HR.out
 case round =>
  obtain ⟨k,hk,rfl,h1,h2⟩:=hrel.out;by_cases hlt:k<n
  ·have hfr:=h1.free k;obtain ⟨v0,hco⟩:∃ v,wr.cell? ⟨w.heap.size,k,none⟩=some v:=⟨_,h1.cell k (by rw [cR];exact hlt)⟩;have H1:=ab h1;have H2:=ab h2;clear h1 h2 hrel;go_wp2;go_roundw
   case rel =>
    refine ⟨k+1,by omega,by go_num,?_,ai H2.out _ _ (Nat.le_refl _)⟩;have:=H1.out.set k ((k:Nat):Int) (.int .i64 (k:Nat)) rfl;rw [oX n _ k k hlt] at this;rw [fz n (fun x=>if x<k+1 then x else 0) (fun x=>if x=k then k else if x<k then x else 0)]
    ·exact this
    ·intro x hx;by_cases e:x=k
     ·subst e;simp
     ·by_cases e2:x<k
      ·rw [if_pos (by omega),if_neg e,if_pos e2]
      ·rw [if_neg (by omega),if_neg e,if_neg e2]
   case measure=>simp [intOf];omega
  ·obtain rfl:k=n:=by omega
   have H1:=ab h1;have H2:=ab h2;clear h1 h2 hrel;go_wp2;go_ret;refine ⟨rfl,?_,H2.out⟩;rw [fz k (bH []) (fun x=>if x<k then x else 0) (fun x hx=>by rw [if_pos hx];rfl)];exact H1.out
def JoR (w:World) (g n:Nat) (l:Nat->Nat) (hi lo:Nat) (v:Value) (wr:World):Prop:=∃ k:Nat,k<=n/\v=.int .i64 k/\dZ wr g (dN n fun x=>if x<k then (if l x=hi then lo else l x) else l x)/\w.grownBy wr (some g)
theorem join_at (g n cap:Nat) (l:Nat->Nat) (a b:Nat) (w:World) (hn:n<=8) (ha:a<n) (hb:b<n) (h:dZ w g (dN n l)) (hl:∀ x,x<n->l x<=8) (hc1:n<=cap) (hc2:cap<=maxLen) :
  Calls Tryz.prog 64 #[.slice (some ⟨g,0,none⟩) n cap,.int .i64 (a:Nat),.int .i64 (b:Nat)] w fun e w'=>e=.returned (.tuple #[])/\dZ w' g (dN n (ju l (a,b)))/\w.grownBy w' (some g):=by
 unfold maxLen at hc2;have ca:=h.cell a (by rw [cR];exact ha);have cb:=h.cell b (by rw [cR];exact hb);rw [lS] at ca cb;have la:=hl a ha;have lb:=hl b hb;obtain ⟨x,hx⟩:∃ x,x=l a:=⟨_,rfl⟩;obtain ⟨y,hy⟩:∃ y,y=l b:=⟨_,rfl⟩;rw [<- hx] at ca la;rw [<- hy] at cb lb;have H:=ab h;have HX:=ab hx;have HY:=ab hy;have HL:=ab hl;have hmin:min (x:Int) (y:Int)=((min x y:Nat):Int):=by omega
 have hmax:max (x:Int) (y:Int)=((max x y:Nat):Int):=by omega
 obtain ⟨lo,hlo⟩:∃ lo,lo=min x y:=⟨_,rfl⟩;obtain ⟨hi,hhi⟩:∃ hi,hi=max x y:=⟨_,rfl⟩;rw [<- hlo] at hmin;rw [<- hhi] at hmax;have HLO:=ab hlo;have HHI:=ab hhi;clear h hx hy hl hlo hhi;go_enter Tryz.func64,Tryz.ntmps64
 go_wp2;go_quiet (fail)
 go_wp2;clear hmin hmax ca cb;go_loopw [30] (fun v wr=>Hid (JoR w g n l hi lo v wr)) (fun v _=>n-(intOf v).toNat)
 case atStart =>
  refine ⟨0,by omega,rfl,?_,au (ae _ _) _⟩;exact H.out
 case round =>
  obtain ⟨k,hk,rfl,h1,h2⟩:=hrel.out;by_cases hlt:k<n
  ·have hfr:=h1.free k;have hco:=h1.cell k (by rw [cR];exact hlt);rw [lS,if_neg (Nat.lt_irrefl k)] at hco;have hlk:=HL.out k hlt;obtain ⟨q,hq⟩:∃ q,q=l k:=⟨_,rfl⟩;rw [<- hq] at hco hlk;have HQ:=ab hq;have H1:=ab h1;have H2:=ab h2;clear h1 h2 hrel hq;by_cases he:q=hi
   ·have he':((q:Int)==(hi:Int))=true:=by simp [he]
    have HE:=ab he;clear he;go_wp2;go_roundw
    case rel =>
     refine ⟨k+1,by omega,by go_num,?_,eg H2.out g k _ rfl⟩;have:=H1.out.set k ((lo:Nat):Int) (.int .i64 (lo:Nat)) rfl;rw [oX n _ k lo hlt] at this;rw [fz n (fun x=>if x<k+1 then (if l x=hi then lo else l x) else l x) (fun x=>if x=k then lo else if x<k then (if l x=hi then lo else l x) else l x)]
     ·exact this
     ·intro x hx;by_cases e:x=k
      ·subst e;rw [if_pos (by omega),if_pos (by rw [<- HQ.out];exact HE.out),if_pos rfl]
      ·by_cases e2:x<k
       ·rw [if_pos (by omega),if_neg e,if_pos e2]
       ·rw [if_neg (by omega),if_neg e,if_neg e2]
    case measure=>simp [intOf];omega
   ·have he':((q:Int)==(hi:Int))=false:=by simp;omega
    have HE:=ab he;clear he;go_wp2;go_roundw
    case rel =>
     refine ⟨k+1,by omega,by go_num,?_,H2.out⟩;rw [fz n (fun x=>if x<k+1 then (if l x=hi then lo else l x) else l x) (fun x=>if x<k then (if l x=hi then lo else l x) else l x)]
     ·exact H1.out
     ·intro x hx;by_cases e:x=k
      ·subst e;rw [if_pos (by omega),if_neg (by rw [<- HQ.out];exact HE.out),if_neg (by omega)]
      ·by_cases e2:x<k
       ·rw [if_pos (by omega),if_pos e2]
       ·rw [if_neg (by omega),if_neg e2]
    case measure=>simp [intOf];omega
  ·obtain rfl:k=n:=by omega
   have H1:=ab h1;have H2:=ab h2;clear h1 h2 hrel;go_wp2;go_end0
   refine ⟨rfl,?_,H2.out⟩;rw [fz k (ju l (a,b)) (fun x=>if x<k then (if l x=hi then lo else l x) else l x)]
   ·exact H1.out
   ·intro x hx;rw [if_pos hx];unfold ju;rw [HHI.out,HLO.out,HX.out,HY.out]
theorem tG (g n cap:Nat) (E:List Pr) (a b:Nat) (w:World) (hn:n<=8) (ha:a<n) (hb:b<n) (h:dZ w g (dN n (bH E))) (hc1:n<=cap) (hc2:cap<=maxLen) :
  Calls Tryz.prog 64 #[.slice (some ⟨g,0,none⟩) n cap,.int .i64 (a:Nat),.int .i64 (b:Nat)] w fun e w'=>e=.returned (.tuple #[])/\dZ w' g (dN n (bH (E++[(a,b)])))/\w.grownBy w' (some g):=by
 rw [mF];exact join_at g n cap (bH E) a b w hn ha hb h (fun x hx=>by have:=lab_le E x;omega) hc1 hc2
def aW (ps:List aI):List Pr:=ps.map fun p=>(p.a.toNat,p.b.toNat)
structure yh (nodes:Int) (ps:List aI) (n:Nat):Prop where
 nodes:nodes=(n:Int)
 lo:1<=n
 hi:n<=8
 len:ps.length<=16
 ends:∀ i (h:i<ps.length),∃ a b:Nat,ps[i].a=(a:Int)/\ps[i].b=(b:Int)/\a<n/\b<n
theorem A7 {nodes:Int} {ps:List aI} {i:Nat} (h:(cP nodes ps i).1=0):∀ p∈ps,dC p nodes=0:=by
 induction ps generalizing i with
 | nil=>intro p hp;simp at hp
 | cons q r ih =>
  intro p hp;by_cases hq:dC q nodes=0
  ·rw [cP,if_pos hq] at h;rcases List.mem_cons.1 hp with rfl | hp
   ·exact hq
   ·exact ih h p hp
  ·rw [cP,if_neg hq] at h;exact absurd h hq
theorem xf {p:aI} {nodes:Int} (h:dC p nodes=0):gG p.a nodes=true/\gG p.b nodes=true:=by
 unfold dC at h;split at h
 ·exact absurd h (by decide)
 ·unfold kn at h;split at h
  ·exact absurd h (by decide)
  ·rename_i h1;constructor
   ·cases h2:gG p.a nodes with
    | true=>rfl
    | false=>rw [h2] at h1;simp at h1
   ·cases h2:gG p.b nodes with
    | true=>rfl
    | false=>rw [h2] at h1;simp at h1
theorem good_of {nodes:Int} {ps:List aI} (h:(d6 nodes ps).1=0):yh nodes ps nodes.toNat/\d6 nodes ps=(0,0):=by
 unfold d6 at h ⊢;by_cases hm:nodes<1∨8<nodes∨16<ps.length
 ·rw [if_pos hm] at h;exact absurd h (by decide)
 ·rw [if_neg hm] at h ⊢;have hall:=A7 h;refine ⟨⟨by omega,by omega,by omega,by omega,fun i hi=>?_⟩,?_⟩
  ·obtain ⟨h1,h2⟩:=xf (hall ps[i] (List.getElem_mem hi));unfold gG at h1 h2;rw [Bool.and_eq_true,decide_eq_true_eq,decide_eq_true_eq] at h1 h2;exact ⟨ps[i].a.toNat,ps[i].b.toNat,by omega,by omega,by omega,by omega⟩
  ·have key:∀ (qs:List aI) (i:Nat),(∀ p∈qs,dC p nodes=0)->cP nodes qs i=(0,0):=by
    intro qs;induction qs with
    | nil=>intro i _;rfl
    | cons q r ih =>
     intro i hq;rw [cP,if_pos (hq q (by simp))];exact ih _ (fun p hp=>hq p (by simp [hp]))
   exact key ps 0 hall
theorem BQ {ps:List aI} {i:Nat} (h:i<ps.length):(aW ps).take (i+1)=(aW ps).take i++[(ps[i].a.toNat,ps[i].b.toNat)]:=by
 rw [List.take_succ_eq_append_getElem (by simp [aW];exact h)];simp [aW]
def gD (E:List Pr) (T:List Nat):List Pr:=T.map fun i=>E.getD i (0,0)
def aB (E:List Pr):Nat->List Nat
 | 0=>[]
 | k+1=>if bH (gD E (aB E k)) (E.getD k (0,0)).1=bH (gD E (aB E k)) (E.getD k (0,0)).2 then aB E k else aB E k++[k]
def aG (E:List Pr):List Nat:=aB E E.length
theorem fN.row {α:Type} {f:α->Value} {t:TypeId} {w:World} {g:Nat} {xs:List α} (h:fN f t w g xs) (hm:xs.length<=maxLen):dM f w (.slice (some ⟨g,0,none⟩) xs.length xs.length) xs :=
 ⟨_,_,rfl,Nat.le_refl _,hm,fun i hi=>⟨g,0,rfl,h.lt,by rw [Nat.zero_add];exact h.cell i hi⟩⟩
def TreeR (W:World) (g base n:Nat) (E:List Pr) (ov v:Value) (wr:World):Prop :=
 ∃ i:Nat,i<=E.length/\v=.int .i64 i/\dZ wr g (dN n (bH (gD E (aB E i))))/\cA (fun x:Nat=>iv x) 3 wr base ov (aB E i)/\W.grownBy wr none/\base<=wr.heap.size
def TreeE (w:World) (ps:List aI) (e:Ending) (w':World):Prop:=∃ v,e=.returned (.tuple #[v,.agg #[.int .i64 0,.int .i64 0]])/\dM (fun x:Nat=>iv x) w' v (aG (aW ps))/\w.grownBy w' none
theorem sb {ps:List aI} {i:Nat} (h:i<ps.length):(aW ps).getD i (0,0)=(ps[i].a.toNat,ps[i].b.toNat):=by
 simp [aW,List.getD,h]
theorem mh (E:List Pr) (k:Nat):(aB E k).length<=k:=by
 induction k with
 | zero=>simp [aB]
 | succ k ih =>
  unfold aB;split
  ·omega
  ·simp;omega
theorem tree_ok (nodes:Int) (pv:Value) (ps:List aI) (n:Nat) (w:World) (hb:iD w) (hp:aM w pv ps) (hG:yh nodes ps n) (hC:d6 nodes ps=(0,0)) :
  Calls Tryz.prog 29 #[.agg #[.int .i64 nodes,pv]] w fun e w'=>TreeE w ps e w':=by
 obtain ⟨i0,hi0,hz0,hz1,hz2⟩:=info_parts Tryz.infoInt;have HB:=ab hb;have HP:=ab hp;obtain ⟨ao,cap,rfl,h1,h2,h3⟩:=hp;unfold maxLen at h2;obtain ⟨rfl,g1,g2,g3,g4⟩:=hG;have HE:=ab g4;have HPC:=ab h3;have HCK:=ab hC;clear h3 hb g4 hC;go_enter Tryz.func29,Tryz.ntmps29
 go_wp2_with fail;have gW:w.grownBy ((w.alloc (Obj.cells #[.int .i64 (n:Nat),.slice ao ps.length cap] 24)).alloc (Obj.cells #[.int .i64 0,.int .i64 0] 32)) none:=ag (ag (ae _ _) _) _;have GW:=ab gW;clear gW;refine (Am (n:Nat) _ ps _ (HB.out.keep GW.out) (HP.out.keep GW.out)).mono ?_;intro e w1 hE;obtain ⟨rfl,k1⟩:=hE;rw [HCK.out];have K1:=ab k1;have b0:=k1.cell (a:=⟨w.heap.size,0,none⟩) (v:=.int .i64 (n:Nat)) (by go_simp) (by simp);have b1:=k1.cell (a:=⟨w.heap.size,1,none⟩) (v:=.slice ao ps.length cap) (by go_simp) (by simp);have hsz:w.heap.size+1<w1.heap.size:=by have:=k1.size;simp at this;omega
 have hsz0:w.heap.size<w1.heap.size:=by omega
 clear k1;obtain ⟨Wa,hWa⟩:∃ W,W=(w.alloc (Obj.cells #[.int .i64 (n:Nat),.slice ao ps.length cap] 24)).alloc (Obj.cells #[.int .i64 0,.int .i64 0] 32):=⟨_,rfl⟩;rw [<- hWa] at K1 GW;have RES:Hid (∀ wr:World,Wa.grownBy wr none->wr.cell? ⟨w.heap.size+1,0,none⟩=some (.int .i64 0)/\wr.cell? ⟨w.heap.size+1,1,none⟩=some (.int .i64 0)/\(∀ i,wr.frozen? ⟨w.heap.size+1,i,none⟩=false)/\wr.cell? ⟨w.heap.size,0,none⟩=some (.int .i64 (n:Nat))/\wr.cell? ⟨w.heap.size,1,none⟩=some (.slice ao ps.length cap)):=by
  intro wr hg;rw [hWa] at hg;have:=kE hg;refine ⟨by simpa using this.1,by simpa using this.2.1,by simpa using this.2.2,hg.cell (by go_simp) (by simp),hg.cell (by go_simp) (by simp)⟩
 have hWs:Wa.heap.size=w.heap.size+2:=by rw [hWa];simp
 have HWS:=ab hWs;clear hWa hWs;go_wp2_with fail;refine (sN n _ g2).mono ?_;rintro e w2 ⟨rfl,a1,a2⟩;have A1:=ab a1;have A2:=ab (aa (ag K1.out _) a2);have hgs:Wa.heap.size<=(w1.alloc (Obj.cells #[Value.int IntKind.i64 0,Value.int IntKind.i64 0] 32)).heap.size:=(ag K1.out _).size;generalize (w1.alloc (Obj.cells #[Value.int IntKind.i64 0,Value.int IntKind.i64 0] 32)).heap.size=g at *;have hgb:g<w2.heap.size:=a1.lt;obtain ⟨_,_,_,n0,n1⟩:=RES.out w2 A2.out;clear a1 a2 b0 b1;go_wp2;obtain ⟨base,hbase⟩:∃ b,b=w2.heap.size:=⟨_,rfl⟩;rw [<- hbase] at hgb;have HBASE:=ab hbase;clear hbase;have hpl:(aW ps).length=ps.length:=by simp [aW]
 have HPL:=ab hpl;clear hpl;go_loopw [5,21] (fun ov v wr=>Hid (TreeR Wa g base n (aW ps) ov v wr)) (fun _ v _=>ps.length-(intOf v).toNat)
 case atStart=>exact ⟨0,by omega,rfl,A1.out,fS,A2.out,by rw [HBASE.out];exact Nat.le_refl _⟩
 case round =>
  obtain ⟨i,hi,rfl,l1,l2,l3,l4⟩:=hrel.out;rw [HPL.out] at hi;obtain ⟨oo,oc,ev⟩:=l2.shape;subst ev;have L1:=ab l1;have L2:=ab l2;have L3:=ab l3;have htl:=mh (aW ps) i;obtain ⟨r0,r1,rf,_,_⟩:=RES.out wr l3;have rf0:=rf 0;have rf1:=rf 1;clear l1 l2 l3 hrel rf n0 n1 A1;by_cases hlt:i<ps.length
  ·obtain ⟨b,off,rfl,hb,c0,c1,c2,c3,c4,c5,c6⟩:=HPC.out i hlt;have hgg:=aa GW.out L3.out;obtain ⟨ea,eb,e1,e2,e3,e4⟩:=HE.out i hlt;have q0:=hgg.cell c0 (by simp);have q1:=hgg.cell c1 (by simp);have q2:=hgg.cell c2 (by simp);have q3:=hgg.cell c3 (by simp);have q4:=hgg.cell c4 (by simp);have q5:=hgg.cell c5 (by simp);have hpt:=sb (ps:=ps) hlt;rw [e1,e2,Int.toNat_natCast,Int.toNat_natCast] at hpt;rw [e1] at q1;rw [e2] at q2;have HPT:=ab hpt;have la:=L1.out.cell ea (by rw [cR];exact e3);have lb:=L1.out.cell eb (by rw [cR];exact e4);rw [lS] at la lb;have hgw:=L1.out.lt;generalize ps[i].kind=z0 at q0;generalize ps[i].c=z3 at q3;generalize ps[i].d=z4 at q4;generalize ps[i].v=z5 at q5;clear c0 c1 c2 c3 c4 c5 c6 hgg e1 e2 hpt HPC;by_cases heq:bH (gD (aW ps) (aB (aW ps) i)) ea=bH (gD (aW ps) (aB (aW ps) i)) eb
   ·have HEQ:=ab heq;rw [heq] at la;generalize bH (gD (aW ps) (aB (aW ps) i)) eb=x at la lb;clear heq;go_wp2;go_quiet (fail)
    go_wp2;go_roundw
    case rel =>
     have et:aB (aW ps) (i+1)=aB (aW ps) i:=by
      show (if _ then _ else _)=_
      rw [HPT.out,if_pos HEQ.out]
     refine ⟨i+1,by rw [HPL.out];omega,by go_num,?_,?_,au (ag L3.out _) _,by simp;omega⟩
     ·rw [et];exact L1.out.keep0 (au (ag (ae _ _) _) _)
     ·rw [et];exact L2.out.keep0 (au (ag (ae _ _) _) _)
    case measure=>simp [intOf];omega
   ·have HEQ:=ab heq;have hne:(((bH (gD (aW ps) (aB (aW ps) i)) ea:Nat):Int) != ((bH (gD (aW ps) (aB (aW ps) i)) eb:Nat):Int))=true:=by
     rw [bne_iff_ne];omega
    generalize bH (gD (aW ps) (aB (aW ps) i)) ea=x at la hne;generalize bH (gD (aW ps) (aB (aW ps) i)) eb=y at lb hne;clear heq;go_wp2;go_quiet (fail)
    go_wp2_with fail;refine (tG g n n (gD (aW ps) (aB (aW ps) i)) ea eb _ g2 e3 e4 (L1.out.keep0 (au (ag (ae _ _) _) _)) (by omega) (by unfold maxLen;omega)).mono ?_;rintro e w3 ⟨rfl,j1,j2⟩;have et:aB (aW ps) (i+1)=aB (aW ps) i++[i]:=by
     show (if _ then _ else _)=_
     rw [HPT.out,if_neg HEQ.out]
    have ET:=ab et;have J1:Hid (dZ w3 g (dN n (bH (gD (aW ps) (aB (aW ps) (i+1)))))):=by
     rw [et];have:gD (aW ps) (aB (aW ps) i++[i])=gD (aW ps) (aB (aW ps) i)++[(ea,eb)]:=by
      simp only [gD,List.map_append,List.map_cons,List.map_nil];rw [HPT.out]
     rw [this];exact j1
    have J2:=ab (jS (au (ag L3.out _) _) j2 hgs);have J3:=ab ((L2.out.keep0 (au (ag (ae _ _) _) _)).keepB j2 hgb);have hb3:base<=w3.heap.size:=by
     have:=j2.size;simp at this;omega
    have hbig:(aB (aW ps) i).length<=16:=by omega
    clear j1 j2 et la lb L1 L2 htl;go_wp2_with (at_builtin;refine gk (fun x:Nat=>iv x) 3 (iv 0) 8 _ rfl _ _ 25 rfl base Tryz.underlying25 Tryz.infoInt rfl _ (aB (aW ps) i) rfl (J3.out.keep0 (ag (ae _ _) _)) w3.heap.size i rfl (by go_simp) rfl (by omega) (by omega) (by simp;omega) ?_)
    intro ao' cap' w4 o1 o2;have O1:=ab o1;have O2:=ab o2;clear o1 o2;go_wp2;go_roundw
    case rel =>
     have hown:Hid (∀ k,(Value.slice oo (aB (aW ps) i).length oc).ownBlock=some k->base<=k):=fun k hk=>(J3.out.fresh k hk).1
     have hgr2:w3.grownBy w4 (Value.slice oo (aB (aW ps) i).length oc).ownBlock:=aq (r1:=none) (ag (ae _ _) _) O2.out (fun _ _ e=>by cases e) (fun _ _ e=>e);have hWb:Wa.heap.size<=base:=by omega
     refine ⟨i+1,by rw [HPL.out];omega,by go_num,?_,?_,?_,?_⟩
     ·refine J1.out.keep hgr2 ?_;intro e;have:=hown.out g e.symm;omega
     ·rw [ET.out];exact O1.out
     ·exact aq J2.out hgr2 (fun _ _ e=>e) (fun b hb e=>by have:=hown.out b e.symm;omega)
     ·exact Nat.le_trans hb3 hgr2.size
    case measure=>simp [intOf];omega
  ·have hie:i=(aW ps).length:=by rw [HPL.out];omega
   have HIE:=ab hie;clear hie HPC;go_wp2;refine bodyPost_ret (v:=.tuple #[.slice oo (aB (aW ps) i).length oc,.agg #[.int .i64 0,.int .i64 0]]) (by simp [results,Tryz.results29,go_sem,r0,r1]) rfl ?_;have hrow:=L2.out;have hne:∀ x y,wr.grownBy ((wr.setCell ⟨w.heap.size+1,0,none⟩ x).setCell ⟨w.heap.size+1,1,none⟩ y) (some (w.heap.size+1)):=fun x y=>eg (eg (ae _ _) _ 0 _ rfl) _ 1 _ rfl
   refine ⟨_,rfl,?_,ai (ai (aa GW.out L3.out) _ _ (by simp)) _ _ (by simp)⟩;have h5:=(hrow.keepB (hne (.int .i64 0) (.int .i64 0)) (by have:=HWS.out;omega)).row;unfold aG;rw [<- HIE.out];exact h5
abbrev nv (x:Nat):Value:=iv (x:Int)
def j6 (n:Nat) (E:List Pr) (a:Nat):List Int:=(List.range n).map (dH E a)
theorem lZ (n:Nat) (E:List Pr) (a:Nat):(j6 n E a).length=n:=by simp [j6]
theorem zO (n:Nat) (E:List Pr) (a i:Nat) (h:i<(j6 n E a).length):(j6 n E a)[i]=dH E a i:=by simp [j6]
def aR (E:List Pr) (T:List Nat) (t:Nat):List Pr:=gD E (T.filter (fun x=>x != t))
def Sd1R (W:World) (g n:Nat) (E:List Pr) (T:List Nat) (t:Nat) (v:Value) (wr:World):Prop:=∃ i:Nat,i<=T.length/\v=.int .i64 i/\dZ wr g (dN n (bH (aR E (T.take i) t)))/\W.grownBy wr none
def Sd2R (W:World) (g g2 n:Nat) (E:List Pr) (a:Nat) (v:Value) (wr:World):Prop:=∃ i:Nat,i<=n/\v=.int .i64 i/\dZ wr g (dN n (bH E))/\dZ wr g2 ((List.range n).map (fun x=>if x<i then dH E a x else 0))/\W.grownBy wr none
theorem sG {E:List Pr} {T:List Nat} {t i:Nat} (h:i<T.length):aR E (T.take (i+1)) t=if T[i]=t then aR E (T.take i) t else aR E (T.take i) t++[E.getD T[i] (0,0)]:=by
 unfold aR;rw [List.take_succ_eq_append_getElem h,List.filter_append];by_cases e:T[i]=t
 ·rw [if_pos e];simp [e]
 ·rw [if_neg e];simp [gD,e]
def SideE (w:World) (n:Nat) (E:List Pr) (T:List Nat) (t:Nat) (e:Ending) (w':World):Prop:=∃ g,e=.returned (.slice (some ⟨g,0,none⟩) n n)/\dZ w' g (j6 n (aR E T t) (E.getD t (0,0)).1)/\w.grownBy w' none
theorem zP (n:Nat) (pv tv:Value) (ps:List aI) (T:List Nat) (t:Nat) (w:World) (hp:aM w pv ps) (hG:yh (n:Int) ps n) (hT:dM nv w tv T) (hTl:∀ x∈T,x<ps.length) (hT16:T.length<=16) (ht:t<ps.length) :
  Calls Tryz.prog 65 #[.agg #[.int .i64 (n:Nat),pv],tv,.int .i64 (t:Nat)] w fun e w'=>SideE w n (aW ps) T t e w':=by
 obtain ⟨ao,cap,rfl,h1,h2,h3⟩:=hp;obtain ⟨to_,tc,rfl,t1,t2,t3⟩:=hT;unfold maxLen at h2 t2;obtain ⟨g0,g1,g2,g3,g4⟩:=hG;have HE:=ab g4;have HPC:=ab h3;have HTC:=ab t3;have HTL:=ab hTl;clear h3 g4 g0 t3 hTl;go_enter Tryz.func65,Tryz.ntmps65
 go_wp2_with fail;obtain ⟨Wa,hWa⟩:∃ W,W=w.alloc (Obj.cells #[.int .i64 (n:Nat),.slice ao ps.length cap] 24):=⟨_,rfl⟩;have GW:Hid (w.grownBy Wa none):=by rw [hWa];exact ag (ae _ _) _
 have RES:Hid (∀ wr:World,Wa.grownBy wr none->wr.cell? ⟨w.heap.size,0,none⟩=some (.int .i64 (n:Nat))/\wr.cell? ⟨w.heap.size,1,none⟩=some (.slice ao ps.length cap)):=by
  intro wr hg;rw [hWa] at hg;exact ⟨hg.cell (by go_simp) (by simp),hg.cell (by go_simp) (by simp)⟩
 have hws:w.heap.size<Wa.heap.size:=by rw [hWa];simp
 rw [<- hWa];clear hWa;refine (sN n _ g2).mono ?_;rintro e w2 ⟨rfl,a1,a2⟩;have A1:=ab a1;have A2:=ab a2;have hgs:Wa.heap.size<=Wa.heap.size:=Nat.le_refl _;generalize hgg0:Wa.heap.size=g at a1 a2 A1 hgs hws;rw [<- hgg0] at hgs;have HG0:=ab hgg0;obtain ⟨n0,n1⟩:=RES.out w2 a2;clear a1 a2 hgg0;go_wp2;go_loopw [18] (fun v wr=>Hid (Sd1R Wa g n (aW ps) T t v wr)) (fun v _=>T.length-(intOf v).toNat)
 case atStart=>exact ⟨0,by omega,rfl,A1.out,A2.out⟩
 case round =>
  obtain ⟨i,hi,rfl,l1,l2⟩:=hrel.out;have L1:=ab l1;have L2:=ab l2;obtain ⟨m0,m1⟩:=RES.out wr l2;clear l1 l2 hrel n0 n1 A1 A2;by_cases hlt:i<T.length
  ·obtain ⟨tb,toff,rfl,htb,htc⟩:=HTC.out i hlt;have htl:=HTL.out T[i] (List.getElem_mem hlt);have hws2:=sG (E:=aW ps) (t:=t) hlt;have qt:=(aa GW.out L2.out).cell htc (by simp);obtain ⟨x,hx⟩:∃ x,x=T[i]:=⟨_,rfl⟩;rw [<- hx] at qt htl hws2;have HWS2:=ab hws2;clear htc hws2 hx HTC;by_cases hxt:x=t
   ·have hxt':((x:Int) != (t:Int))=false:=by simp [hxt]
    have HXT:=ab hxt;clear hxt;go_wp2;go_roundw
    case rel=>exact ⟨i+1,by omega,by go_num,by rw [HWS2.out,if_pos HXT.out];exact L1.out,L2.out⟩
    case measure=>simp [intOf];omega
   ·have hxt':((x:Int) != (t:Int))=true:=by rw [bne_iff_ne];omega
    have HXT:=ab hxt;obtain ⟨b,off,rfl,hb,c0,c1,c2,c3,c4,c5,c6⟩:=HPC.out x htl;obtain ⟨ea,eb,e1,e2,e3,e4⟩:=HE.out x htl;have hgg:=aa GW.out L2.out;have q1:=hgg.cell c1 (by simp);have q2:=hgg.cell c2 (by simp);have hpt:=sb (ps:=ps) htl;rw [e1,e2,Int.toNat_natCast,Int.toNat_natCast] at hpt;rw [e1] at q1;rw [e2] at q2;have HPT:=ab hpt;have hbg:some b≠some g:=by
     intro e;have:=Option.some.inj e;have:=HG0.out;omega
    have hwg:some w.heap.size≠some g:=by
     intro e;have:=Option.some.inj e;omega
    clear c0 c1 c2 c3 c4 c5 c6 hgg e1 e2 hpt hxt;go_wp2_with fail;go_region_held3 (fun w'=>w'.cell? ⟨w.heap.size,1,none⟩=some (.slice (some ⟨b,off,none⟩) ps.length cap)/\w'.cell? ⟨b,off+x*6+1,none⟩=some (.int .i64 (ea:Nat))/\w'.cell? ⟨b,off+x*6+2,none⟩=some (.int .i64 (eb:Nat))) (go_keep)
     (first | (go_at_call 64;refine (tG g n n (aR (aW ps) (T.take i) t) ea eb _ g2 e3 e4 (L1.out.keep0 (aj _)) (by omega) (by unfold maxLen;omega)).mono ?_;rintro e w3 ⟨rfl,j1,j2⟩;have s1:=(aq (r1:=none) (r2:=some g) (aj _) j2 (fun _ _ e=>by cases e) (fun _ _ e=>e)).cell m1 hwg;have s2:=(aq (r1:=none) (r2:=some g) (aj _) j2 (fun _ _ e=>by cases e) (fun _ _ e=>e)).cell q1 hbg;have s3:=(aq (r1:=none) (r2:=some g) (aj _) j2 (fun _ _ e=>by cases e) (fun _ _ e=>e)).cell q2 hbg))
    have J1:Hid (dZ w3 g (dN n (bH (aR (aW ps) (T.take (i+1)) t)))):=by
     rw [HWS2.out,if_neg HXT.out,HPT.out];exact j1
    have J2:=ab (jS (au L2.out _) j2 (by have:=HG0.out;omega));clear j1 j2 s1 s2 s3 HPC HTL;go_wp2;go_roundw
    case rel=>exact ⟨i+1,by omega,by go_num,J1.out,J2.out⟩
    case measure=>simp [intOf];omega
  ·have htk:T.take i=T:=List.take_of_length_le (by omega);rw [htk] at L1;clear htk HTC HTL;obtain ⟨b,off,rfl,hb,c0,c1,c2,c3,c4,c5,c6⟩:=HPC.out t ht;obtain ⟨ea,eb,e1,e2,e3,e4⟩:=HE.out t ht;rw [e1] at c1;have hpt:=sb (ps:=ps) ht;rw [e1,e2,Int.toNat_natCast,Int.toNat_natCast] at hpt;have HPT:=ab hpt;have C1:=ab c1;clear c0 c1 c2 c3 c4 c5 c6 e1 e2 hpt HPC HE;go_wp2_with (at_make;refine dt iv 3 0 8 _ rfl _ _ 25 rfl Tryz.underlying25 Tryz.infoInt rfl _ _ _ _ n rfl rfl (by omega) (by omega) (by omega) (by omega) ?_)
   intro w5 harr hgr;have HR:=ab harr;have L5:=ab (L1.out.keep0 hgr);have G5:=ab (aa L2.out hgr);have hg2:g<wr.heap.size:=L1.out.lt;have hgW:Wa.heap.size<=wr.heap.size:=L2.out.size;generalize wr.heap.size=gs at *;clear harr hgr L1 L2 m0 m1;go_wp2;go_loopw [45] (fun v wr=>Hid (Sd2R Wa g gs n (aR (aW ps) T t) ea v wr)) (fun v _=>n-(intOf v).toNat)
   case atStart =>
    refine ⟨0,by omega,rfl,L5.out,?_,G5.out⟩;have e:(List.range n).map (fun x=>if x<0 then dH (aR (aW ps) T t) ea x else 0)=List.replicate n 0:=by
     apply List.ext_getElem
     ·simp
     ·intro i h1 h2;simp
    rw [e];exact HR.out
   case round =>
    obtain ⟨j,hj,rfl,k1,k2,k3⟩:=hrel.out;obtain ⟨m0,m1⟩:=RES.out wr k3;by_cases hlt2:j<n
    ·have ca:=k1.cell ea (by rw [cR];exact e3);have cj:=k1.cell j (by rw [cR];exact hlt2);rw [lS] at ca cj;have qa:=(aa GW.out k3).cell C1.out (by simp);have hfr:=k2.free j;obtain ⟨v0,hco⟩:∃ v,wr.cell? ⟨gs,j,none⟩=some v:=⟨_,k2.cell j (by simp;exact hlt2)⟩;have K1:=ab k1;have K2:=ab k2;have K3:=ab k3;by_cases hes:bH (aR (aW ps) T t) j=bH (aR (aW ps) T t) ea
     ·have HES:=ab hes;rw [hes] at cj;generalize bH (aR (aW ps) T t) ea=x at ca cj;clear hes k1 k2 k3 hrel;go_wp2;go_roundw
      case rel =>
       refine ⟨j+1,by omega,by go_num,?_,?_,ai K3.out _ _ hgW⟩
       ·exact K1.out.keep (eg (ae wr _) gs j (.int .i64 1) rfl) (by intro e;have:=Option.some.inj e;omega)
       ·have:=K2.out.set j 1 (.int .i64 1) rfl;have e:((List.range n).map (fun x=>if x<j then dH (aR (aW ps) T t) ea x else 0)).set j 1=(List.range n).map (fun x=>if x<j+1 then dH (aR (aW ps) T t) ea x else 0):=by
         apply List.ext_getElem
         ·simp
         ·intro q h1 h2;rw [List.getElem_set];by_cases e:j=q
          ·subst e;simp [dH,HES.out]
          ·by_cases e2:q<j
           ·simp [e,e2,Nat.lt_succ_of_lt e2]
           ·have e3:¬ q<j+1:=by omega
            simp [e,e2,e3]
        rw [e] at this;exact this
      case measure=>simp [intOf];omega
     ·have HES:=ab hes;have hbe:(((bH (aR (aW ps) T t) j:Nat):Int)==((bH (aR (aW ps) T t) ea:Nat):Int))=false:=by rw [beq_eq_false_iff_ne];omega
      generalize bH (aR (aW ps) T t) ea=x at ca hbe;generalize bH (aR (aW ps) T t) j=y at cj hbe;clear hes k1 k2 k3 hrel;go_wp2;go_roundw
      case rel =>
       refine ⟨j+1,by omega,by go_num,K1.out,?_,K3.out⟩;have e:(List.range n).map (fun x=>if x<j then dH (aR (aW ps) T t) ea x else 0)=(List.range n).map (fun x=>if x<j+1 then dH (aR (aW ps) T t) ea x else 0):=by
        apply List.map_congr_left;intro q _;by_cases e:q=j
        ·subst e;rw [if_neg (by omega),if_pos (by omega)];unfold dH;rw [if_neg HES.out]
        ·by_cases e2:q<j
         ·rw [if_pos e2,if_pos (by omega)]
         ·rw [if_neg e2,if_neg (by omega)]
       have:=K2.out;rw [e] at this;exact this
      case measure=>simp [intOf];omega
    ·obtain rfl:j=n:=by omega
     have K2:=ab k2;have K3:=ab k3;clear k1 k2 k3 hrel;go_wp2;go_ret;refine ⟨gs,rfl,?_,aa GW.out K3.out⟩;rw [HPT.out];have e:(List.range j).map (fun x=>if x<j then dH (aR (aW ps) T t) ea x else 0)=j6 j (aR (aW ps) T t) ea:=by
      unfold j6;apply List.map_congr_left;intro q hq;rw [if_pos (List.mem_range.1 hq)]
     have:=K2.out;rw [e] at this;exact this
theorem nZ (E:List Pr) (a x:Nat):dH E a x=0∨dH E a x=1:=by
 unfold dH;split
 ·exact .inr rfl
 ·exact .inl rfl
theorem vG (p:aI) (n g gs ea eb a:Nat) (E:List Pr) (w:World) (hn:n<=8) (h:dZ w gs (j6 n E a)) (hc:w.cell? ⟨g,0,none⟩=some (.slice (some ⟨gs,0,none⟩) n n)) (hg:g<w.heap.size) (e1:p.a=(ea:Int)) (e2:p.b=(eb:Int)) (e3:ea<n) (e4:eb<n) :
  Calls Tryz.prog 67 #[p.val,.pointer (some ⟨g,0,none⟩)] w fun e w'=>e=.returned (.int .i64 (dH E a ea-dH E a eb))/\w.grownBy w' none:=by
 have hgs:=h.lt;have ca:=h.cell ea (by rw [lZ];exact e3);have cb:=h.cell eb (by rw [lZ];exact e4);rw [zO] at ca cb;have s1:=nZ E a ea;have s2:=nZ E a eb;have hx:0<=dH E a ea/\dH E a ea<=1:=by omega
 have hy:0<=dH E a eb/\dH E a eb<=1:=by omega
 generalize dH E a ea=x at ca hx;generalize dH E a eb=y at cb hy;obtain ⟨x1,x2⟩:=hx;obtain ⟨y1,y2⟩:=hy;unfold aI.val;rw [e1,e2];generalize p.kind=z0;generalize p.c=z3;generalize p.d=z4;generalize p.v=z5;clear s1 s2 h e1 e2;go_enter Tryz.func67,Tryz.ntmps67
 go_wp2;go_quiet (fail)
 go_wp2;go_ret;exact ⟨rfl,au (ag (ae _ _) _) _⟩
def cH (E:List Pr) (ps:List Pr) (a:Nat):List Int:=ps.map fun e=>dH E a e.1-dH E a e.2
def TellR (W:World) (base n gs:Nat) (E:List Pr) (a:Nat) (ps:List Pr) (ov v:Value) (wr:World):Prop:=∃ i:Nat,i<=ps.length/\v=.int .i64 i/\cA iv 3 wr base ov (cH E (ps.take i) a)/\dZ wr gs (j6 n E a)/\W.grownBy wr none
def TellE (w:World) (E:List Pr) (a:Nat) (ps:List Pr) (e:Ending) (w':World):Prop:=∃ v,e=.returned v/\dM iv w' v (cH E ps a)/\w.grownBy w' none/\(∀ k,v.ownBlock=some k->w.heap.size<=k/\k<w'.heap.size)
theorem uP (n g gs a:Nat) (pv:Value) (ps:List aI) (E:List Pr) (w:World) (hp:aM w pv ps) (hG:yh (n:Int) ps n) (h:dZ w gs (j6 n E a)) (hc:w.cell? ⟨g,0,none⟩=some (.slice (some ⟨gs,0,none⟩) n n)) (hg:g<w.heap.size) :
  Calls Tryz.prog 66 #[.agg #[.int .i64 (n:Nat),pv],.func (.func 67) #[] #[.pointer (some ⟨g,0,none⟩)]] w fun e w'=>TellE w E a (aW ps) e w':=by
 obtain ⟨ao,cap,rfl,h1,h2,h3⟩:=hp;unfold maxLen at h2;obtain ⟨g0,g1,g2,g3,g4⟩:=hG;have HE:=ab g4;have HPC:=ab h3;have HS:=ab h;have HC:=ab hc;have hpl:(aW ps).length=ps.length:=by simp [aW]
 have HPL:=ab hpl;have hgs:=h.lt;clear h3 g4 g0 h hc hpl;go_enter Tryz.func66,Tryz.ntmps66
 go_wp2;obtain ⟨Wa,hWa⟩:∃ W,W=w.alloc (Obj.cells #[.int .i64 (n:Nat),.slice ao ps.length cap] 24):=⟨_,rfl⟩;have GW:Hid (w.grownBy Wa none):=by rw [hWa];exact ag (ae _ _) _
 have hws:w.heap.size<Wa.heap.size:=by rw [hWa];simp
 simp only [<- hWa];clear hWa;go_loopw [5,11] (fun ov v wr=>Hid (TellR Wa Wa.heap.size n gs E a (aW ps) ov v wr)) (fun _ v _=>ps.length-(intOf v).toNat)
 case atStart=>exact ⟨0,by omega,rfl,fS,HS.out.keep0 GW.out,ae _ _⟩
 case round =>
  obtain ⟨i,hi,rfl,l1,l2,l3⟩:=hrel.out;rw [HPL.out] at hi;obtain ⟨oo,oc,ev⟩:=l1.shape;have hll:(cH E ((aW ps).take i) a).length=i:=by simp [cH,HPL.out];omega
  subst ev;have L1:=ab l1;have L2:=ab l2;have L3:=ab l3;have HLL:=ab hll;clear l1 l2 l3 hrel hll;by_cases hlt:i<ps.length
  ·obtain ⟨b,off,rfl,hb,c0,c1,c2,c3,c4,c5,c6⟩:=HPC.out i hlt;have hgg:=aa GW.out L3.out;obtain ⟨ea,eb,e1,e2,e3,e4⟩:=HE.out i hlt;have q0:=hgg.cell c0 (by simp);have q1:=hgg.cell c1 (by simp);have q2:=hgg.cell c2 (by simp);have q3:=hgg.cell c3 (by simp);have q4:=hgg.cell c4 (by simp);have q5:=hgg.cell c5 (by simp);have qc:=hgg.cell HC.out (by simp);have hgz:g<wr.heap.size:=Nat.lt_of_lt_of_le hg hgg.size;have hpt:=BQ (ps:=ps) hlt;rw [e1,e2,Int.toNat_natCast,Int.toNat_natCast] at hpt;have HPT:=ab hpt;have ET:=ab (And.intro e1 e2);generalize ps[i]=p at q0 q1 q2 q3 q4 q5 ET;clear c0 c1 c2 c3 c4 c5 c6 hgg e1 e2 hpt HPC;go_wp2_with fail;refine (vG p n g gs ea eb a E _ g2 (L2.out.keep0 (ag (ae _ _) _)) ((ag (ae wr none) _).cell qc (by simp)) (by simp;omega) ET.out.1 ET.out.2 e3 e4).mono ?_;rintro e w3 ⟨rfl,j2⟩;have J2:=ab (aa (ag (ae _ _) _) j2);have hj2:=J2.out.size;obtain ⟨z,hz⟩:∃ z,z=dH E a ea-dH E a eb:=⟨_,rfl⟩;rw [<- hz];have HZ:=ab hz;have hl3:=L3.out.size;clear j2 hz;go_wp2_with (at_builtin;refine gk iv 3 (iv 0) 8 _ rfl _ _ 25 rfl Wa.heap.size Tryz.underlying25 Tryz.infoInt rfl _ (cH E ((aW ps).take i) a) rfl (L1.out.keep0 (ag J2.out _)) w3.heap.size z rfl (by go_simp) rfl (by rw [HLL.out];omega) (by omega) (by simp;omega) ?_)
   intro ao' cap' w4 o1 o2;have O1:=ab o1;have O2:=ab o2;clear o1 o2;go_wp2;go_roundw
   case rel =>
    have hown:∀ k,(Value.slice oo (cH E ((aW ps).take i) a).length oc).ownBlock=some k->Wa.heap.size<=k:=fun k hk=>(L1.out.fresh k hk).1
    have hgr2:=aq (r:=(Value.slice oo (cH E ((aW ps).take i) a).length oc).ownBlock) (r1:=none) (ag J2.out _) O2.out (fun _ _ e=>by cases e) (fun _ _ e=>e);refine ⟨i+1,by rw [HPL.out];omega,by go_num,?_,?_,?_⟩
    ·rw [HPT.out];have e:cH E ((aW ps).take i++[(ea,eb)]) a=cH E ((aW ps).take i) a++[z]:=by
      rw [HZ.out];simp [cH]
     rw [e];exact O1.out
    ·refine L2.out.keep hgr2 ?_;intro e;have:=hown gs e.symm;omega
    ·exact aq L3.out hgr2 (fun _ _ e=>e) (fun b hb e=>by have:=hown b e.symm;omega)
   case measure=>simp [intOf];omega
  ·have htk:(aW ps).take i=aW ps:=List.take_of_length_le (by rw [HPL.out];omega);have HTK:=ab htk;clear htk HPC;go_wp2;go_ret;refine ⟨_,rfl,?_,aa GW.out L3.out,?_⟩;rotate_left
   ·intro k hk;have:=L1.out.fresh k hk;omega
   have h5:=L1.out.row;show dM iv wr (.slice oo (cH E ((aW ps).take i) a).length oc) _
   rw [HTK.out] at h5 ⊢;exact h5
theorem Tryz.infoInts:(Tryz.prog.info? 25).map (fun i=>(i.zero,i.size,i.bytes))=some (some (.slice none 0 0),1,24):=by kernel_rfl
theorem iS {P:Program} {α:Type} (f:α->Value) (e:TypeId) (z0:Value) (by_:Nat) (W:World) {ops:Array Oper} {rest:List Oper} {o:Oper} {a:Act} {Q:Exit->Act->World->Prop}
  (hg:o.guard=none) (s x:Operand) (t:TypeId) (ho:o.op=.call { callee:=.builtin .append,args:=#[s,x],argTypes:=#[t,t] }) (base:Nat)
  (h1:P.underlying t=some (.slice e)) (hinfo:(P.info? e).map (fun i=>(i.zero,i.size,i.bytes))=some (some z0,1,by_)) (hcz:z0.cells.size=1)
  (v:Value) (xs:List α) (hs:a.eval s=v) (hown:cA f e W base v xs) (b:Nat) (y:α) (hx:a.eval x=.slice (some ⟨b,0,none⟩) 1 1) (hc:W.cell? ⟨b,0,none⟩=some (f y)) (h1c:(f y).oneCell'=true)
  (hlen:xs.length<=1000000) (hby:by_<=24) (hbase:base<=W.heap.size)
  (hK:∀ g cap w',cA f e w' base (.slice (some ⟨g,0,none⟩) (xs.length+1) cap) (xs++[y])->W.grownBy w' v.ownBlock->(v.ownBlock=some g∨g=W.heap.size)->wpList P ops Q rest (a.put o.dst (.slice (some ⟨g,0,none⟩) (xs.length+1) cap)) w'):wpList P ops Q (o :: rest) a W:=by
 obtain ⟨i,hi,hz0,hz1,hz2⟩:=info_parts hinfo;refine wpList_append_lies W hg s x t ho base e i z0 1 by_ h1 hi hz0 hz1 hz2 hcz (by decide) v xs.length (xs.map f) hs hown ⟨b,0,none⟩ 1 1 [f y] hx rfl ?_ ?_ (by decide) (by unfold maxLen;omega) ?_ hbase _ rfl ?_
 ·intro j u hj;match j with
  | 0 =>
   simp only [List.getElem?_cons_zero,Option.some.injEq] at hj;subst hj;simpa [Addr.add] using hc
  | j+1=>simp at hj
 ·intro u hu;simp only [List.mem_singleton] at hu;subst hu;exact h1c
 ·have:(xs.length+1)*by_<=(1000000+1)*24:=Nat.mul_le_mul (by omega) hby;omega
 ·intro g cap w' hown' hgr hat _;refine hK g cap w' ?_ hgr hat;unfold cA;rw [List.length_append,List.map_append];exact hown'
theorem dM.keepB {α:Type} {f:α->Value} {w w':World} {v:Value} {xs:List α} {row:Option Nat} (h:dM f w v xs) (hg:w.grownBy w' row) (hr:∀ k,v.ownBlock=some k->some k≠row):dM f w' v xs:=by
 obtain ⟨ao,cap,rfl,h1,h2,h3⟩:=h;refine ⟨ao,cap,rfl,h1,h2,fun i hi=>?_⟩;obtain ⟨b,off,rfl,hb,c⟩:=h3 i hi;exact ⟨b,off,rfl,Nat.lt_of_lt_of_le hb hg.size,hg.cell c (hr b rfl)⟩
def mv (w:World) (base:Nat) (ov:Value) (css:List (List Int)):Prop :=
 ∃ vals:List Value,cA id 25 w base ov vals/\vals.length=css.length/\∀ i (h:i<vals.length) (h':i<css.length),dM iv w vals[i] css[i]/\(∃ o l c,vals[i]=.slice o l c)/\∀ k,vals[i].ownBlock=some k->base<=k/\k<w.heap.size/\some k≠ov.ownBlock
theorem tX {w:World} {base:Nat} : mv w base (.slice none 0 0) []:=⟨[],fS,rfl,fun i h=>by simp at h⟩
theorem mv.keepB {w w':World} {base g:Nat} {ov:Value} {css:List (List Int)} (h:mv w base ov css) (hg:w.grownBy w' (some g)) (hb:g<base):mv w' base ov css:=by
 obtain ⟨vals,h1,h2,h3⟩:=h;refine ⟨vals,h1.keepB hg hb,h2,fun i hi hi'=>?_⟩;obtain ⟨k1,k2,k3⟩:=h3 i hi hi';exact ⟨k1.keepB hg (fun k hk e=>by have:=(k3 k hk).1;cases e;omega),k2,fun k hk=>⟨(k3 k hk).1,Nat.lt_of_lt_of_le (k3 k hk).2.1 hg.size,(k3 k hk).2.2⟩⟩
theorem mv.snoc {w w1 w':World} {base:Nat} {ov nw:Value} {css:List (List Int)} {vals:List Value} {row:List Int} {g cap:Nat} (h2:vals.length=css.length)
  (h3:∀ i (h:i<vals.length) (h':i<css.length),dM iv w1 vals[i] css[i]/\(∃ o l c,vals[i]=.slice o l c)/\∀ k,vals[i].ownBlock=some k->base<=k/\k<w1.heap.size/\some k≠ov.ownBlock)
  (hn:dM iv w1 nw row) (hns:∃ o l c,nw=.slice o l c) (hnk:∀ k,nw.ownBlock=some k->base<=k/\k<w1.heap.size/\some k≠ov.ownBlock)
  (ho:cA id 25 w' base (.slice (some ⟨g,0,none⟩) (vals.length+1) cap) (vals++[nw])) (hgr:w1.grownBy w' ov.ownBlock) (hat:ov.ownBlock=some g∨w1.heap.size<=g) :
  mv w' base (.slice (some ⟨g,0,none⟩) (vals.length+1) cap) (css++[row]):=by
 have key:∀ v xs,dM iv w1 v xs->(∀ k,v.ownBlock=some k->base<=k/\k<w1.heap.size/\some k≠ov.ownBlock)->dM iv w' v xs/\∀ k,v.ownBlock=some k->base<=k/\k<w'.heap.size/\some k≠(Value.slice (some ⟨g,0,none⟩) (vals.length+1) cap).ownBlock:=by
  intro v xs hv hk;refine ⟨hv.keepB hgr (fun k e=>(hk k e).2.2),fun k e=>⟨(hk k e).1,Nat.lt_of_lt_of_le (hk k e).2.1 hgr.size,?_⟩⟩;show some k≠some g
  intro e2;have e3:=Option.some.inj e2;subst e3;rcases hat with h | h
  ·exact (hk k e).2.2 h.symm
  ·have:=(hk k e).2.1;omega
 refine ⟨vals++[nw],ho,by simp [h2],fun i hi hi'=>?_⟩;by_cases hlt:i<vals.length
 ·obtain ⟨k1,k2,k3⟩:=h3 i hlt (by omega);obtain ⟨m1,m2⟩:=key _ _ k1 k3;simp only [List.getElem_append_left hlt,List.getElem_append_left (show i<css.length by omega)];exact ⟨m1,k2,m2⟩
 ·have hi2:i=vals.length:=by simp at hi;omega
  subst hi2;obtain ⟨m1,m2⟩:=key _ _ hn hnk;have e1:(vals++[nw])[vals.length]=nw:=by simp
  have e2:(css++[row])[vals.length]'hi'=row:=by simp [h2]
  rw [e1,e2];exact ⟨m1,hns,m2⟩
def bM (E:List Pr) (T:List Nat):List (List Int):=T.map fun t=>cH (aR E T t) E (E.getD t (0,0)).1
def CutsR (W:World) (base:Nat) (E:List Pr) (T:List Nat) (ov v:Value) (wr:World):Prop:=∃ i:Nat,i<=T.length/\v=.int .i64 i/\mv wr base ov ((bM E T).take i)/\W.grownBy wr none
def CutsE (w:World) (E:List Pr) (T:List Nat) (e:Ending) (w':World):Prop:=∃ v,e=.returned v/\mv w' w.heap.size v (bM E T)/\w.grownBy w' none
theorem yG (n:Nat) (pv tv:Value) (ps:List aI) (T:List Nat) (w:World) (hp:aM w pv ps) (hG:yh (n:Int) ps n) (hT:dM nv w tv T) (hTl:∀ x∈T,x<ps.length) (hT16:T.length<=16) :
  Calls Tryz.prog 30 #[.agg #[.int .i64 (n:Nat),pv],tv] w fun e w'=>CutsE w (aW ps) T e w':=by
 have HP:=ab hp;have HT:=ab hT;obtain ⟨ao,cap,rfl,h1,h2,h3⟩:=hp;obtain ⟨to_,tc,rfl,t1,t2,t3⟩:=hT;unfold maxLen at h2 t2;have HG:=ab hG;have HTC:=ab t3;have HTL:=ab hTl;have g3:=hG.len;have g2:=hG.hi;clear h3 t3 hTl hG;have hcl:(bM (aW ps) T).length=T.length:=by simp [bM]
 have HCL:=ab hcl;clear hcl;go_enter Tryz.func30,Tryz.ntmps30
 go_wp2;obtain ⟨Wa,hWa⟩:∃ W,W=w.alloc (Obj.cells #[.int .i64 (n:Nat),.slice ao ps.length cap] 24):=⟨_,rfl⟩;have GW:Hid (w.grownBy Wa none):=by rw [hWa];exact ag (ae _ _) _
 have RES:Hid (∀ wr:World,Wa.grownBy wr none->wr.cell? ⟨w.heap.size,0,none⟩=some (.int .i64 (n:Nat))/\wr.cell? ⟨w.heap.size,1,none⟩=some (.slice ao ps.length cap)):=by
  intro wr hg;rw [hWa] at hg;exact ⟨hg.cell (by go_simp) (by simp),hg.cell (by go_simp) (by simp)⟩
 have hws:w.heap.size<Wa.heap.size:=by rw [hWa];simp
 simp only [<- hWa];clear hWa;go_loopw [5,11] (fun ov v wr=>Hid (CutsR Wa Wa.heap.size (aW ps) T ov v wr)) (fun _ v _=>T.length-(intOf v).toNat)
 case atStart=>exact ⟨0,by omega,rfl,tX,ae _ _⟩
 case round =>
  obtain ⟨i,hi,rfl,l1,l2⟩:=hrel.out;have L1:=ab l1;have L2:=ab l2;obtain ⟨vals,v1,v2,v3⟩:=l1;obtain ⟨oo,oc,ev⟩:=v1.shape;subst ev;obtain ⟨m0,m1⟩:=RES.out wr l2;have V1:=ab v1;have V2:=ab v2;have V3:=ab v3;clear l2 hrel v1 v2 v3;have hvl:vals.length=i:=by rw [V2.out,List.length_take,HCL.out];omega
  have HVL:=ab hvl;clear hvl;by_cases hlt:i<T.length
  ·obtain ⟨tb,toff,rfl,htb,htc⟩:=HTC.out i hlt;have htl:=HTL.out T[i] (List.getElem_mem hlt);have qt:=(aa GW.out L2.out).cell htc (by simp);have hct:(bM (aW ps) T).take (i+1)=(bM (aW ps) T).take i++[cH (aR (aW ps) T T[i]) (aW ps) ((aW ps).getD T[i] (0,0)).1]:=by
    rw [List.take_succ_eq_append_getElem (by rw [HCL.out];exact hlt)];simp [bM]
   have HCT:=ab hct;generalize T[i]=x at qt htl HCT;clear htc hct HTC;go_wp2_with fail;refine (zP n _ _ ps T x _ (HP.out.keep (aa GW.out L2.out)) HG.out (HT.out.keep (aa GW.out L2.out)) HTL.out hT16 htl).mono ?_;intro e w3 hS;obtain ⟨gs,rfl,s1,s2⟩:=hS;have S1:=ab s1;have S2:=ab s2;have n0:=s2.cell m0 (by simp);have n1:=s2.cell m1 (by simp);have hsz3:w.heap.size<w3.heap.size:=by have:=L2.out.size;have:=s2.size;omega
   clear s1 s2 HTL m0 m1 qt;go_wp2_with fail;have gbx:Hid (wr.grownBy (w3.alloc (Obj.cells #[.slice (some ⟨gs,0,none⟩) n n] 25)) none):=ag S2.out _;refine (uP n w3.heap.size gs ((aW ps).getD x (0,0)).1 _ ps (aR (aW ps) T x) _ (HP.out.keep (aa GW.out (aa L2.out gbx.out))) HG.out (S1.out.keep0 (ag (ae _ _) _)) (by go_simp) (by simp)).mono ?_;intro e w4 hTe;obtain ⟨rv,rfl,r1,r2,r3⟩:=hTe;obtain ⟨ro,rc,re,_⟩:=r1;subst re;have r1':dM iv w4 (.slice ro (cH (aR (aW ps) T x) (aW ps) ((aW ps).getD x (0,0)).1).length rc) (cH (aR (aW ps) T x) (aW ps) ((aW ps).getD x (0,0)).1):=⟨ro,rc,rfl,‹_›⟩;have R1:=ab r1';have R2:=ab (aa gbx.out r2);have R3:=ab r3;have hR2:=(aa gbx.out r2).size;have hL2:=L2.out.size;generalize cH (aR (aW ps) T x) (aW ps) ((aW ps).getD x (0,0)).1=row at R1 HCT R3 ⊢;clear r1' r2 r3 n0 n1;go_wp2_with (at_builtin;refine iS id 25 (.slice none 0 0) 24 _ rfl _ _ 40 rfl Wa.heap.size Tryz.underlying40 Tryz.infoInts rfl _ vals rfl (V1.out.keep0 (ag R2.out _)) w4.heap.size (.slice ro row.length rc) rfl (by go_simp) rfl (by rw [HVL.out];omega) (by omega) (by simp;omega) ?_)
   intro g' cap' w5 o1 o2 o3;have O1:=ab o1;have O2:=ab o2;have O3:=ab o3;clear o1 o2 o3;go_wp2;go_roundw
   case rel =>
    have hgr2:=aq (r:=(Value.slice oo vals.length oc).ownBlock) (r1:=none) (ag (ae w4 none) _) O2.out (fun _ _ e=>by cases e) (fun _ _ e=>e);have hownb:∀ k,(Value.slice oo vals.length oc).ownBlock=some k->Wa.heap.size<=k/\k<wr.heap.size:=fun k hk=>V1.out.fresh k hk
    refine ⟨i+1,by omega,by go_num,?_,?_⟩
    ·rw [HCT.out];refine mv.snoc (w1:=w4) (w:=w4) (vals:=vals) (ov:=.slice oo vals.length oc) V2.out ?_ R1.out ⟨_,_,_,rfl⟩ ?_ O1.out hgr2 ?_
     ·intro j hj hj';obtain ⟨k1,k2,k3⟩:=V3.out j hj hj';exact ⟨k1.keep R2.out,k2,fun k hk=>⟨(k3 k hk).1,Nat.lt_of_lt_of_le (k3 k hk).2.1 hR2,(k3 k hk).2.2⟩⟩
     ·intro k hk;obtain ⟨a1,a2⟩:=R3.out k hk;have hgz:=gbx.out.size;refine ⟨by omega,a2,fun e=>?_⟩;have:=(hownb k e.symm).2;omega
     ·rcases O3.out with h | h
      ·exact .inl h
      ·right
       rw [h];simp
    ·exact aq (aa L2.out R2.out) hgr2 (fun _ _ e=>e) (fun b hb e=>by have:=(hownb b e.symm).1;omega)
   case measure=>simp [intOf];omega
  ·have htk:(bM (aW ps) T).take i=bM (aW ps) T:=List.take_of_length_le (by rw [HCL.out];omega);have HTK:=ab htk;clear htk HTC HTL;go_wp2;go_ret;refine ⟨_,rfl,?_,aa GW.out L2.out⟩;have h5:=L1.out;rw [HTK.out] at h5;obtain ⟨vs,o1,o2,o3⟩:=h5;refine ⟨vs,⟨o1.1,?_⟩,o2,fun i hi hi'=>⟨(o3 i hi hi').1,(o3 i hi hi').2.1,fun k hk=>⟨by have:=((o3 i hi hi').2.2 k hk).1;omega,((o3 i hi hi').2.2 k hk).2⟩⟩⟩;rcases o1.2 with h | ⟨g,cap',cur,e,hb,rest⟩
   ·exact .inl h
   ·exact .inr ⟨g,cap',cur,e,by omega,rest⟩
def qF (w:World) (v:Value) (css:List (List Int)):Prop :=
 ∃ vals:List Value,dM id w v vals/\vals.length=css.length/\∀ i (h:i<vals.length) (h':i<css.length),dM iv w vals[i] css[i]
theorem mv.rows {w:World} {base:Nat} {v:Value} {css:List (List Int)} (h:mv w base v css):qF w v css:=by
 obtain ⟨vals,h1,h2,h3⟩:=h;exact ⟨vals,h1.row,h2,fun i hi hi'=>(h3 i hi hi').1⟩
theorem qF.keep {w w':World} {v:Value} {css:List (List Int)} (h:qF w v css) (hg:w.grownBy w' none):qF w' v css:=by
 obtain ⟨vals,h1,h2,h3⟩:=h;exact ⟨vals,h1.keep hg,h2,fun i hi hi'=>(h3 i hi hi').keep hg⟩
def cS (m part:Nat) (T:List Nat) (css:List (List Int)):Nat->List Int
 | 0=>List.replicate m 0
 | i+1=>(cS m part T css i).set (T.getD i 0) (-((css.getD i []).getD part 0))
def dY (m part:Nat) (T:List Nat) (css:List (List Int)):List Int:=(cS m part T css T.length).set part 1
theorem cJ (m part:Nat) (T:List Nat) (css:List (List Int)) (i:Nat):(cS m part T css i).length=m:=by
 induction i with
 | zero=>simp [cS]
 | succ i ih=>simp [cS,ih]
def LoopR (W:World) (g m part:Nat) (T:List Nat) (css:List (List Int)) (v:Value) (wr:World):Prop:=∃ i:Nat,i<=T.length/\v=.int .i64 i/\dZ wr g (cS m part T css i)/\W.grownBy wr none
def LoopE (w:World) (m part:Nat) (T:List Nat) (css:List (List Int)) (e:Ending) (w':World):Prop:=∃ g,e=.returned (.slice (some ⟨g,0,none⟩) m m)/\dZ w' g (dY m part T css)/\w.grownBy w' none/\w.heap.size<=g
theorem loop_at (nodes:Int) (o:Option Addr) (m pc part:Nat) (tv cv:Value) (T:List Nat) (css:List (List Int)) (w:World) (hT:dM nv w tv T) (hTl:∀ x∈T,x<m) (hm:m<=16) (hT16:T.length<=16) (hC:qF w cv css) (hcl:css.length=T.length) (hrow:∀ i (h:i<css.length),css[i].length=m) (hbd:∀ i (h:i<css.length),∀ x∈css[i],-1<=x/\x<=1) (hpart:part<m) (hpc:m<=pc) (hpc2:pc<=maxLen) :
  Calls Tryz.prog 31 #[.agg #[.int .i64 nodes,.slice o m pc],.int .i64 (part:Nat),tv,cv] w fun e w'=>LoopE w m part T css e w':=by
 obtain ⟨to_,tc,rfl,t1,t2,t3⟩:=hT;obtain ⟨vals,⟨co,cc,rfl,c1,c2,c3⟩,c4,c5⟩:=hC;unfold maxLen at t2 c2 hpc2;have HTC:=ab t3;have HTL:=ab hTl;have HC3:=ab c3;have HC4:=ab c4;have HC5:=ab c5;have HCL:=ab hcl;have HROW:=ab hrow;have HBD:=ab hbd;have hvT:vals.length<=T.length:=by omega
 have hTv:T.length<=vals.length:=by omega
 clear t3 hTl c3 c4 c5 hcl hrow hbd;go_enter Tryz.func31,Tryz.ntmps31
 go_wp2_with (at_make;refine dt iv 3 0 8 _ rfl _ _ 25 rfl Tryz.underlying25 Tryz.infoInt rfl _ _ _ _ m rfl rfl (by omega) (by omega) (by omega) (by omega) ?_)
 intro w2 harr hgr;have HR:Hid (dZ w2 (w.heap.size+1) (List.replicate m 0)):=by first | exact harr | simpa using harr
 have HGR:=ab (aa (ag (ae w none) _) hgr);clear harr hgr;go_wp2;go_loopw [18] (fun v wr=>Hid (LoopR w (w.heap.size+1) m part T css v wr)) (fun v _=>T.length-(intOf v).toNat)
 case atStart=>exact ⟨0,by omega,rfl,HR.out,HGR.out⟩
 case round =>
  obtain ⟨i,hi,rfl,l1,l2⟩:=hrel.out;have L1:=ab l1;have L2:=ab l2;clear l1 l2 hrel;by_cases hlt:i<T.length
  ·obtain ⟨tb,toff,rfl,htb,htc⟩:=HTC.out i hlt;obtain ⟨cb,coff,rfl,hcb,hcc⟩:=HC3.out i (by omega);have hci:i<css.length:=by rw [HCL.out];exact hlt
   obtain ⟨ro,rc,re,r1,r2,r3⟩:=HC5.out i (by omega) hci;have hrl:=HROW.out i hci;obtain ⟨rb,roff,rfl,hrb,hrc⟩:=r3 part (by omega);have hxb:=HBD.out i hci (css[i][part]'(by omega)) (List.getElem_mem _);have htl:=HTL.out T[i] (List.getElem_mem hlt);have eT:T.getD i 0=T[i]:=by simp [List.getD,hlt]
   have eC:(css.getD i []).getD part 0=css[i][part]'(by omega):=by
    have:css.getD i []=css[i]:=by simp [List.getD,hci]
    rw [this];simp [List.getD,hrl,hpart]
   have qt:=L2.out.cell htc (by simp);have qc:=L2.out.cell hcc (by simp);have qr:=L2.out.cell hrc (by simp);simp only [id] at qc;rw [re,hrl] at qc;rw [hrl] at r1;obtain ⟨x,hx⟩:∃ x,x=T[i]:=⟨_,rfl⟩;obtain ⟨y,hy⟩:∃ y,y=css[i][part]'(by omega):=⟨_,rfl⟩;rw [<- hx] at qt htl eT;rw [<- hy] at qr hxb eC;obtain ⟨y1,y2⟩:=hxb;have hfr:=L1.out.free x;obtain ⟨v0,hco⟩:∃ v,wr.cell? ⟨w.heap.size+1,x,none⟩=some v:=⟨_,L1.out.cell x (by rw [cJ];exact htl)⟩;have ET:=ab eT;have EC:=ab eC;unfold maxLen at r2;clear htc hcc hrc r3 re hx hy eT eC HTC HC3 HC5 HROW HBD HTL hrl;go_wp2;go_roundw
   case rel =>
    refine ⟨i+1,by omega,by go_num,?_,ai L2.out _ _ (by simp)⟩;show dZ _ _ ((cS m part T css i).set (T.getD i 0) (-((css.getD i []).getD part 0)))
    rw [ET.out,EC.out];exact L1.out.set x (-y) _ (by first | rfl | go_num | simp)
   case measure=>simp [intOf];omega
  ·obtain rfl:i=T.length:=by omega
   have hfr:=L1.out.free part;obtain ⟨v0,hco⟩:∃ v,wr.cell? ⟨w.heap.size+1,part,none⟩=some v:=⟨_,L1.out.cell part (by rw [cJ];exact hpart)⟩;clear HTC HC3 HC5 HROW HBD HTL;go_wp2;go_ret;exact ⟨w.heap.size+1,rfl,L1.out.set part 1 _ rfl,ai L2.out _ _ (by simp),by omega⟩
theorem kh (E:List Pr) (k:Nat):∀ x∈aB E k,x<k:=by
 induction k with
 | zero=>intro x hx;simp [aB] at hx
 | succ k ih =>
  intro x hx;unfold aB at hx;split at hx
  ·have:=ih x hx;omega
  ·rcases List.mem_append.1 hx with h | h
   ·have:=ih x h;omega
   ·have:x=k:=by simpa using h
    omega
theorem rA (ps:List aI):∀ x∈aG (aW ps),x<ps.length:=by
 intro x hx;have:=kh (aW ps) _ x hx;simpa [aW] using this
theorem pW (ps:List aI) (h:ps.length<=16):(aG (aW ps)).length<=16:=by
 have:=mh (aW ps) (aW ps).length;have e:(aW ps).length=ps.length:=by simp [aW]
 unfold aG;omega
def cK (m:Nat) (T:List Nat) (css:List (List Int)) (i:Nat):List (List Int):=((List.range i).filter fun x=>!(T.contains x)).map fun x=>dY m x T css
def gP (m:Nat) (T:List Nat):List Bool:=(List.range m).map fun x=>T.contains x
theorem lV (m:Nat) (T:List Nat):(gP m T).length=m:=by simp [gP]
theorem zg (m:Nat) (T:List Nat) (i:Nat) (h:i<(gP m T).length):(gP m T)[i]=T.contains i:=by simp [gP]
theorem zh (m:Nat) (T:List Nat) (x:Nat):(gP m T).set x true=gP m (T++[x]):=by
 apply List.ext_getElem
 ·simp [gP]
 ·intro i h1 h2;rw [List.getElem_set];by_cases e:x=i
  ·subst e;simp [gP]
  ·have e2:¬ i=x:=fun h=>e h.symm
   simp [gP,e,e2]
theorem o9 (m:Nat) (T:List Nat) (css:List (List Int)) (i:Nat):cK m T css (i+1)=if T.contains i then cK m T css i else cK m T css i++[dY m i T css]:=by
 unfold cK;rw [List.range_succ,List.filter_append];by_cases h:i∈T
 ·have h2:T.contains i=true:=by simpa using h
  rw [if_pos h2];simp [h]
 ·have h2:T.contains i=false:=by simpa using h
  rw [if_neg (by rw [h2];simp)];simp [h]
theorem yF (E:List Pr) (ps:List Pr) (a:Nat):∀ x∈cH E ps a,-1<=x/\x<=1:=by
 intro x hx;unfold cH at hx;obtain ⟨e,_,rfl⟩:=List.mem_map.1 hx;have h1:=nZ E a e.1;have h2:=nZ E a e.2;omega
theorem mA (E:List Pr) (T:List Nat) (i:Nat) (h:i<(bM E T).length):(bM E T)[i].length=E.length/\∀ x∈(bM E T)[i],-1<=x/\x<=1:=by
 have e:(bM E T)[i]=cH (aR E T (T[i]'(by simpa [bM] using h))) E (E.getD (T[i]'(by simpa [bM] using h)) (0,0)).1:=by simp [bM]
 rw [e];exact ⟨by simp [cH],yF _ _ _⟩
def Mk1R (W:World) (gb m:Nat) (T:List Nat) (v:Value) (wr:World):Prop:=∃ i:Nat,i<=T.length/\v=.int .i64 i/\BArr wr gb (gP m (T.take i))/\W.grownBy wr none
def LpsR (W:World) (base gb m:Nat) (T:List Nat) (css:List (List Int)) (ov v:Value) (wr:World):Prop:=∃ i:Nat,i<=m/\v=.int .i64 i/\mv wr base ov (cK m T css i)/\BArr wr gb (gP m T)/\W.grownBy wr none/\base<=wr.heap.size
def LpsE (w:World) (ps:List aI) (e:Ending) (w':World):Prop:=∃ v,e=.returned (.tuple #[v,.agg #[.int .i64 0,.int .i64 0]])/\qF w' v (cK ps.length (aG (aW ps)) (bM (aW ps) (aG (aW ps))) ps.length)/\w.grownBy w' none
theorem Bu (nodes:Int) (pv:Value) (ps:List aI) (n:Nat) (w:World) (hb:iD w) (hp:aM w pv ps) (hG:yh nodes ps n) (hC:d6 nodes ps=(0,0)) :
  Calls Tryz.prog 10 #[.agg #[.int .i64 nodes,pv]] w fun e w'=>LpsE w ps e w':=by
 have HB:=ab hb;have HP:=ab hp;have HG:=ab hG;have HCK:=ab hC;obtain ⟨ao,cap,rfl,h1,h2,h3⟩:=hp;obtain ⟨rfl,g1,g2,g3,g4⟩:=hG;have h2':=h2;unfold maxLen at h2';have HM:=ab h2;clear h3 hb g4 hC h2;go_enter Tryz.func10,Tryz.ntmps10
 go_wp2_with fail;have gW:w.grownBy ((w.alloc (Obj.cells #[.int .i64 (n:Nat),.slice ao ps.length cap] 24)).alloc (Obj.cells #[.int .i64 0,.int .i64 0] 32)) none:=ag (ag (ae _ _) _) _;have GW:=ab gW;clear gW;refine (tree_ok (n:Nat) _ ps n _ (HB.out.keep GW.out) (HP.out.keep GW.out) HG.out HCK.out).mono ?_;intro e w1 hE;obtain ⟨tv,rfl,k0,k1⟩:=hE;obtain ⟨to_,tc,te,kt1,kt2,kt3⟩:=k0;have K0:Hid (dM nv w1 tv (aG (aW ps))):=⟨to_,tc,te,kt1,kt2,kt3⟩;subst te;unfold maxLen at kt2;have K1:=ab k1;have b0:=k1.cell (a:=⟨w.heap.size,0,none⟩) (v:=.int .i64 (n:Nat)) (by go_simp) (by simp);have b1:=k1.cell (a:=⟨w.heap.size,1,none⟩) (v:=.slice ao ps.length cap) (by go_simp) (by simp);have hsz:w.heap.size+1<w1.heap.size:=by have:=k1.size;simp at this;omega
 have hsz0:w.heap.size<w1.heap.size:=by omega
 obtain ⟨Wa,hWa⟩:∃ W,W=(w.alloc (Obj.cells #[.int .i64 (n:Nat),.slice ao ps.length cap] 24)).alloc (Obj.cells #[.int .i64 0,.int .i64 0] 32):=⟨_,rfl⟩;rw [<- hWa] at K1 GW;have RES:Hid (∀ wr:World,Wa.grownBy wr none->wr.cell? ⟨w.heap.size+1,0,none⟩=some (.int .i64 0)/\wr.cell? ⟨w.heap.size+1,1,none⟩=some (.int .i64 0)/\(∀ i,wr.frozen? ⟨w.heap.size+1,i,none⟩=false)/\wr.cell? ⟨w.heap.size,0,none⟩=some (.int .i64 (n:Nat))/\wr.cell? ⟨w.heap.size,1,none⟩=some (.slice ao ps.length cap)):=by
  intro wr hg;rw [hWa] at hg;have:=kE hg;refine ⟨by simpa using this.1,by simpa using this.2.1,by simpa using this.2.2,hg.cell (by go_simp) (by simp),hg.cell (by go_simp) (by simp)⟩
 have hWs:Wa.heap.size=w.heap.size+2:=by rw [hWa];simp
 have HWS:=ab hWs;clear k1 hWa hWs kt3;go_wp2_with fail;refine (yG n _ _ ps (aG (aW ps)) _ (HP.out.keep (aa GW.out (ag K1.out _))) HG.out (K0.out.keep (ag (ae _ _) _)) (rA ps) (pW ps g3)).mono ?_;intro e w2 hC2;obtain ⟨cv,rfl,c1,c2⟩:=hC2;have G2:=ab (aa (ag K1.out _) c2);have T2:=ab (K0.out.keep (aa (ag (ae _ _) _) c2));have C1:=ab c1.rows;obtain ⟨vals,v1,v2,v3⟩:=c1;clear v2 v3;obtain ⟨co,cc,ce⟩:=v1.shape;subst ce;have hT16:=pW ps g3;have HTLT:=ab (rA ps);have hcl:(bM (aW ps) (aG (aW ps))).length=(aG (aW ps)).length:=by simp [bM]
 have hpl:(aW ps).length=ps.length:=by simp [aW]
 have HROW:Hid (∀ i (h:i<(bM (aW ps) (aG (aW ps))).length),(bM (aW ps) (aG (aW ps)))[i].length=ps.length):=fun i h=>by rw [(mA _ _ i h).1,hpl]
 have HBD:Hid (∀ i (h:i<(bM (aW ps) (aG (aW ps))).length),∀ x∈(bM (aW ps) (aG (aW ps)))[i],-1<=x/\x<=1):=fun i h=>(mA _ _ i h).2
 have HCL:=ab hcl;generalize hcs:bM (aW ps) (aG (aW ps))=css at C1 HCL HROW HBD ⊢;have HCS:=ab hcs;generalize hT0:aG (aW ps)=T at K0 T2 HTLT hT16 HCL HCS kt1 ⊢;have HT0:=ab hT0;clear hcs hT0;obtain ⟨_,_,_,n0,n1⟩:=RES.out w2 G2.out;clear v1 c2 b0 b1 hcl hpl K0;go_wp2_with (at_make;refine dt bv 4 false 1 _ rfl _ _ 77 rfl Tryz.underlying77 Tryz.infoBool rfl _ _ _ _ ps.length rfl rfl (by omega) (by omega) (by omega) (by omega) ?_)
 intro w3 harr hgr;have HR:=ab harr;have HGR:=ab hgr;clear harr hgr n0 n1;go_wp2;go_loopw [30] (fun v wr=>Hid (Mk1R w2 w2.heap.size ps.length T v wr)) (fun v _=>T.length-(intOf v).toNat)
 case atStart =>
  refine ⟨0,by omega,rfl,?_,HGR.out⟩;have e:gP ps.length (T.take 0)=List.replicate ps.length false:=by
   apply List.ext_getElem
   ·simp [gP]
   ·intro i h1 h2;simp [gP]
  rw [e];exact HR.out
 case round =>
  obtain ⟨i,hi,rfl,l1,l2⟩:=hrel.out;have L1:=ab l1;have L2:=ab l2;obtain ⟨_,_,_,m0,m1⟩:=RES.out wr (aa G2.out l2);clear l1 l2 hrel;by_cases hlt:i<T.length
  ·obtain ⟨to2,tc2,te2,_,_,ht3⟩:=T2.out;simp only [Value.slice.injEq,true_and] at te2;obtain ⟨rfl,rfl⟩:=te2;obtain ⟨tb,toff,rfl,htb,htc⟩:=ht3 i hlt;have htl:=HTLT.out T[i] (List.getElem_mem hlt);have htk:T.take (i+1)=T.take i++[T[i]]:=List.take_succ_eq_append_getElem hlt;have qt:=L2.out.cell htc (by simp);obtain ⟨x,hx⟩:∃ x,x=T[i]:=⟨_,rfl⟩;rw [<- hx] at qt htl htk;have HTK:=ab htk;have hfr:=L1.out.free x;obtain ⟨v0,hco⟩:∃ v,wr.cell? ⟨w2.heap.size,x,none⟩=some v:=⟨_,L1.out.cell x (by rw [lV];exact htl)⟩;clear htc ht3 hx htk HTLT;go_wp2;go_roundw
   case rel =>
    refine ⟨i+1,by omega,by go_num,?_,ai L2.out _ _ (by simp)⟩;have:=L1.out.set x true (.bool true) rfl;rw [zh,<- HTK.out] at this;exact this
   case measure=>simp [intOf];omega
  ·have htk:T.take i=T:=List.take_of_length_le (by omega);rw [htk] at L1;clear htk;have hb5:w2.heap.size<wr.heap.size:=L1.out.lt;obtain ⟨base,hbase⟩:∃ b,b=wr.heap.size:=⟨_,rfl⟩;rw [<- hbase] at hb5;have HBASE:=ab hbase;clear hbase;go_wp2;go_loopw [10,41] (fun ov v wr=>Hid (LpsR w2 base w2.heap.size ps.length T css ov v wr)) (fun _ v _=>ps.length-(intOf v).toNat)
   case atStart=>exact ⟨0,by omega,rfl,tX,L1.out,L2.out,by rw [HBASE.out];exact Nat.le_refl _⟩
   case round =>
    obtain ⟨j,hj,rfl,l1,l2,l3,l4⟩:=hrel.out;have P1:=ab l1;have P2:=ab l2;have P3:=ab l3;obtain ⟨r0,r1,rf,q0,q1⟩:=RES.out wr (aa G2.out l3);have rf0:=rf 0;have rf1:=rf 1;obtain ⟨vs,v1,v2,v3⟩:=l1;obtain ⟨oo,oc,oe⟩:=v1.shape;subst oe;have V1:=ab v1;have V2:=ab v2;have V3:=ab v3;have hvl:vs.length<=j:=by
     rw [v2];unfold cK;rw [List.length_map];have:=List.length_filter_le (fun x=>!(T.contains x)) (List.range j);simpa using this
    clear l2 l3 hrel rf v1 v2 v3 L1 L2 m0 m1 HBASE;by_cases hlt2:j<ps.length
    ·have hcm:=P2.out.cell j (by rw [lV];exact hlt2);rw [zg] at hcm;have hls:=o9 ps.length T css j;cases hin:T.contains j with
     | true =>
      rw [hin] at hcm hls;rw [if_pos rfl] at hls;have HLS:=ab hls;clear hls hin;go_wp2;go_roundw
      case rel=>exact ⟨j+1,by omega,by go_num,by rw [HLS.out];exact P1.out,P2.out,P3.out,l4⟩
      case measure=>simp [intOf];omega
     | false =>
      rw [hin] at hcm hls;rw [if_neg (by simp)] at hls;have HLS:=ab hls;clear hls hin;go_wp2_with fail;refine (loop_at (n:Nat) _ ps.length cap j _ _ T css _ (T2.out.keep P3.out) HTLT.out g3 hT16 (C1.out.keep P3.out) HCL.out HROW.out HBD.out hlt2 h1 HM.out).mono ?_;intro e w6 hL;obtain ⟨gl,rfl,a1,a2,a3⟩:=hL;have A1:=ab a1;have A2:=ab a2;have hgl:=a1.lt;have hs6:=a2.size;have hlv:(dY ps.length j T css).length=ps.length:=by simp [dY,cJ]
      have HLV:=ab hlv;clear a1 a2 hlv;go_wp2_with (at_builtin;refine iS id 25 (.slice none 0 0) 24 _ rfl _ _ 40 rfl base Tryz.underlying40 Tryz.infoInts rfl _ vs rfl (V1.out.keep0 (ag A2.out _)) w6.heap.size (.slice (some ⟨gl,0,none⟩) ps.length ps.length) rfl (by go_simp) rfl (by omega) (by omega) (by simp;omega) ?_)
      intro g' cap' w7 o1 o2 o3;have O1:=ab o1;have O2:=ab o2;have O3:=ab o3;clear o1 o2 o3;go_wp2;go_roundw
      case rel =>
       have hgr2:=aq (r:=(Value.slice oo vs.length oc).ownBlock) (r1:=none) (ag (ae w6 none) _) O2.out (fun _ _ e=>by cases e) (fun _ _ e=>e);have hownb:∀ k,(Value.slice oo vs.length oc).ownBlock=some k->base<=k/\k<wr.heap.size:=fun k hk=>V1.out.fresh k hk
       have hrow:=fN.row A1.out (by rw [HLV.out];unfold maxLen;omega);rw [HLV.out] at hrow;refine ⟨j+1,by omega,by go_num,?_,?_,?_,?_⟩
       ·rw [HLS.out];refine mv.snoc (w1:=w6) (w:=w6) (vals:=vs) (ov:=.slice oo vs.length oc) V2.out ?_ hrow ⟨_,_,_,rfl⟩ ?_ O1.out hgr2 ?_
        ·intro q hq hq';obtain ⟨k1,k2,k3⟩:=V3.out q hq hq';exact ⟨k1.keep A2.out,k2,fun k hk=>⟨(k3 k hk).1,Nat.lt_of_lt_of_le (k3 k hk).2.1 hs6,(k3 k hk).2.2⟩⟩
        ·intro k hk;have:gl=k:=by simpa [Value.ownBlock] using hk
         subst this;refine ⟨by omega,hgl,fun e=>?_⟩;have:=(hownb gl e.symm).2;omega
        ·rcases O3.out with h | h
         ·exact .inl h
         ·right
          rw [h];simp
       ·refine (P2.out.keep0 A2.out).keep hgr2 ?_;intro e;have:=(hownb w2.heap.size e.symm).1;omega
       ·exact aq (aa P3.out A2.out) hgr2 (fun _ _ e=>e) (fun b hb e=>by have:=(hownb b e.symm).1;omega)
       ·have:=hgr2.size;omega
      case measure=>simp [intOf];omega
    ·obtain rfl:j=ps.length:=by omega
     go_wp2;refine bodyPost_ret (v:=.tuple #[.slice oo vs.length oc,.agg #[.int .i64 0,.int .i64 0]]) (by simp [results,Tryz.results10,go_sem,r0,r1]) rfl ?_;refine ⟨_,rfl,?_,ai (ai (aa GW.out (aa G2.out P3.out)) _ _ (by simp)) _ _ (by simp)⟩;rw [HT0.out,HCS.out];exact (P1.out.keepB (eg (eg (ae wr _) (w.heap.size+1) 0 (.int .i64 0) rfl) (w.heap.size+1) 1 (.int .i64 0) rfl) (by have:=HWS.out;have:=G2.out.size;omega)).rows
theorem jx (E:List Pr) (k:Nat):∀ l,k<=l->∃ S,aB E l=aB E k++S/\∀ x∈S,k<=x:=by
 intro l;induction l with
 | zero =>
  intro h;have e:k=0:=by omega
  rw [e];exact ⟨[],by simp,by simp⟩
 | succ l ih =>
  intro h;by_cases e:k=l+1
  ·subst e;exact ⟨[],by simp,by simp⟩
  ·obtain ⟨S,h1,h2⟩:=ih (by omega);by_cases hc:bH (gD E (aB E l)) (E.getD l (0,0)).1=bH (gD E (aB E l)) (E.getD l (0,0)).2
   ·exact ⟨S,by rw [aB,if_pos hc];exact h1,h2⟩
   ·refine ⟨S++[l],by rw [aB,if_neg hc,h1];simp,fun x hx=>?_⟩;rcases List.mem_append.1 hx with h3 | h3
    ·exact h2 x h3
    ·have:x=l:=by simpa using h3
     omega
theorem pX (E:List Pr) (k:Nat):(aB E k).Nodup:=by
 induction k with
 | zero=>simp [aB]
 | succ k ih =>
  unfold aB;split
  ·exact ih
  ·rw [List.nodup_append];refine ⟨ih,by simp,?_⟩;intro a ha b hb e;have h1:=kh E k a ha;have:b=k:=by simpa using hb
   omega
theorem lC (E:List Pr) (S T:List Nat):gD E (S++T)=gD E S++gD E T:=by simp [gD]
theorem uV (E:List Pr) (k:Nat):du (gD E (aB E k)):=by
 induction k with
 | zero=>exact du.nil
 | succ k ih =>
  unfold aB;split
  ·exact ih
  ·rename_i h;rw [lC];exact du.snoc ih h
theorem nontree (E:List Pr) (i:Nat) (hi:i<E.length) (h:i∉aG E):bH (gD E (aG E)) (E.getD i (0,0)).1=bH (gD E (aG E)) (E.getD i (0,0)).2:=by
 obtain ⟨S,h1,_⟩:=jx E (i+1) E.length (by omega);have h2:i∉aB E (i+1):=by
  intro e;apply h;unfold aG;rw [h1];exact List.mem_append.2 (.inl e)
 by_cases hc:bH (gD E (aB E i)) (E.getD i (0,0)).1=bH (gD E (aB E i)) (E.getD i (0,0)).2
 ·obtain ⟨S2,h3,_⟩:=jx E i E.length (by omega);unfold aG;rw [h3,lC];exact tI _ _ _ _ hc
 ·exfalso
  apply h2;rw [aB,if_neg hc];simp
theorem tg (c:List Int) (E:List Pr) (t:Nat) (v:Int) (s:Nat->Int) (hc:c.length=E.length) (ht:t<E.length):cB (c.set t v) E s=cB c E s+(v-c.getD t 0)*(s (E.getD t (0,0)).1-s (E.getD t (0,0)).2):=by
 induction E generalizing c t with
 | nil=>simp at ht
 | cons p q ih =>
  match c with
  | []=>simp at hc
  | x :: c =>
   cases t with
   | zero =>
    simp only [List.set_cons_zero,cB,List.getD_cons_zero];rw [Int.sub_mul];omega
   | succ t =>
    simp only [List.set_cons_succ,cB,List.getD_cons_succ];rw [ih c t (by simpa using hc) (by simpa using ht)];omega
theorem lU (m part:Nat) (T:List Nat) (css:List (List Int)) (i x:Nat) (hx:∀ j,j<i->T.getD j 0≠x):(cS m part T css i).getD x 0=0:=by
 induction i with
 | zero =>
  simp only [cS,List.getD];by_cases h:x<m
  ·simp [h]
  ·simp [h]
 | succ i ih =>
  have h1:=hx i (by omega);show ((cS m part T css i).set (T.getD i 0) (-((css.getD i []).getD part 0))).getD x 0=0
  rw [List.getD_eq_getElem?_getD,List.getElem?_set_ne h1,<- List.getD_eq_getElem?_getD];exact ih (fun j hj=>hx j (by omega))
def col (css:List (List Int)) (e:Nat):List Int:=css.map fun c=>c.getD e 0
theorem Bg {T:List Nat} (hn:T.Nodup) {i j:Nat} (hi:i<T.length) (hj:j<T.length) (h:T.getD i 0=T.getD j 0):i=j:=by
 have e1:T.getD i 0=T[i]:=by simp [List.getD,hi]
 have e2:T.getD j 0=T[j]:=by simp [List.getD,hj]
 rw [e1,e2] at h;have hp:=List.pairwise_iff_getElem.1 hn;rcases Nat.lt_trichotomy i j with h1 | h1 | h1
 ·exact absurd h (hp i j hi hj h1)
 ·exact h1
 ·exact absurd h.symm (hp j i hj hi h1)
theorem qn (E:List Pr) (part:Nat) (T:List Nat) (css:List (List Int)) (s:Nat->Int) (hn:T.Nodup) (hT:∀ x∈T,x<E.length) (hc:css.length=T.length):∀ i,i<=T.length->cB (cS E.length part T css i) E s = - cB ((col css part).take i) ((gD E T).take i) s:=by
 intro i;induction i with
 | zero =>
  intro _;simp only [cS,List.take_zero];have:=yB E s;rw [this];rfl
 | succ i ih =>
  intro hi;have hlt:i<T.length:=by omega
  have eT:T.getD i 0=T[i]:=by simp [List.getD,hlt]
  have hti:T.getD i 0<E.length:=by rw [eT];exact hT _ (List.getElem_mem hlt)
  rw [cS,tg _ _ _ _ _ (cJ _ _ _ _ _) hti,ih (by omega),lU]
  ·have e1:(col css part).take (i+1)=(col css part).take i++[(css.getD i []).getD part 0]:=by
    rw [List.take_succ_eq_append_getElem (by simp [col];omega)];have hci:i<css.length:=by omega
    simp [col,List.getD,hci]
   have e2:(gD E T).take (i+1)=(gD E T).take i++[E.getD (T.getD i 0) (0,0)]:=by
    rw [List.take_succ_eq_append_getElem (by simp [gD];omega)];simp [gD,hlt]
   rw [e1,e2,de _ _ _ _ _ (by simp [col,gD];omega)];simp only [cB];rw [Int.sub_zero,Int.neg_mul];omega
  ·intro j hj e;have:=Bg hn (by omega) hlt e;omega
theorem AG (E:List Pr) (e:Nat) (he:e<E.length):∀ (R P:List Nat),(P++R).Nodup->(∀ x∈P++R,x<E.length) ->
  R.map (fun t=>(cH (aR E (P++R) t) E (E.getD t (0,0)).1).getD e 0)=jQ (gD E P) (gD E R) (E.getD e (0,0)):=by
 intro R;induction R with
 | nil=>intro P _ _;rfl
 | cons t R ih =>
  intro P hn hl;have h1:aR E (P++t :: R) t=gD E P++gD E R:=by
   unfold aR;rw [List.nodup_append] at hn;obtain ⟨n1,n2,n3⟩:=hn;rw [List.nodup_cons] at n2;rw [List.filter_append,List.filter_cons];have hP:P.filter (fun x=>x != t)=P:=by
    rw [List.filter_eq_self];intro x hx;simp only [bne_iff_ne];exact fun e=>n3 x hx t (by simp) e
   have hR:R.filter (fun x=>x != t)=R:=by
    rw [List.filter_eq_self];intro x hx;simp only [bne_iff_ne];exact fun e=>n2.1 (e▸hx)
   rw [hP,hR];simp [gD]
  have h2:=ih (P++[t]) (by simpa using hn) (by simpa using hl);simp only [List.append_assoc,List.singleton_append] at h2;rw [List.map_cons,h1,h2];show _=th (gD E P) (gD E R) (E.getD t (0,0)) (E.getD e (0,0)) :: jQ (gD E P++[E.getD t (0,0)]) (gD E R) (E.getD e (0,0))
  rw [lC];congr 1
  ·unfold cH th;simp [List.getD,he]
theorem zd (E:List Pr) (e:Nat) (he:e<E.length) (hnt:e∉aG E) (s:Nat->Int):cB (dY E.length e (aG E) (bM E (aG E))) E s=0:=by
 have hn:(aG E).Nodup:=pX E E.length;have hl:∀ x∈aG E,x<E.length:=kh E E.length;have hcl:(bM E (aG E)).length=(aG E).length:=by simp [bM]
 unfold dY;rw [tg _ _ _ _ _ (cJ _ _ _ _ _) he,qn E e (aG E) (bM E (aG E)) s hn hl hcl _ (Nat.le_refl _),lU]
 ·have e1:(col (bM E (aG E)) e).take (aG E).length=jQ [] (gD E (aG E)) (E.getD e (0,0)):=by
   rw [List.take_of_length_le (by simp [col,bM])];have:=AG E e he (aG E) [] (by simpa using hn) (by simpa using hl);rw [<- show gD E []=[] from rfl,<- this];simp [col,bM]
  have e2:(gD E (aG E)).take (aG E).length=gD E (aG E):=List.take_of_length_le (by simp [gD]);rw [e1,e2,<- zb (gD E (aG E)) (uV E E.length) (E.getD e (0,0)) (nontree E e he hnt) s];omega
 ·intro j hj h;apply hnt;have:(aG E).getD j 0=(aG E)[j]:=by simp [List.getD,hj]
  rw [<- h,this];exact List.getElem_mem hj
end Go.Proofs.YtfjnoikjhdpghaaGreatDoor
