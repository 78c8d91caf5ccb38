/- Contracts that the proof leans on. -/
import Derived.WalkKit
import Derived.Test.YtkhgaelnglndiaaGreatDoorXMBase
namespace Go.Proofs.YtkhgaelnglndiaaGreatDoor
open Go.RowKit
set_option linter.unusedVariables false
set_option linter.unusedSimpArgs false
set_option maxHeartbeats 8000000
set_option maxRecDepth 10000
namespace Nums
theorem addA (a b c:Rat):a+b+c=a+(b+c):=Rat.add_assoc a b c
theorem addC (a b:Rat):a+b=b+a:=Rat.add_comm a b
theorem zeroA (a:Rat):0+a=a:=Rat.zero_add a
theorem negA (a:Rat):-a+a=0:=Rat.neg_add_cancel a
theorem subE (a b:Rat):a-b=a + -b:=Rat.sub_eq_add_neg a b
theorem mulA (a b c:Rat):a*b*c=a*(b*c):=Rat.mul_assoc a b c
theorem mulC (a b:Rat):a*b=b*a:=Rat.mul_comm a b
theorem oneM (a:Rat):1*a=a:=Rat.one_mul a
theorem dist (a b c:Rat):a*(b+c)=a*b+a*c:=Rat.mul_add a b c
theorem divM (a b:Rat) (h:b≠0):a / b*b=a:=Rat.div_mul_cancel h
theorem oneN:(1:Rat)≠0:=by decide
theorem Azero (a:Rat):a+0=a:=by rw [addC,zeroA]
theorem Aneg (a:Rat):a + -a=0:=by rw [addC,negA]
theorem Mone (a:Rat):a*1=a:=by rw [mulC,oneM]
theorem distR (a b c:Rat):(a+b)*c=a*c+b*c:=by rw [mulC,dist,mulC c a,mulC c b]
theorem canc {a b c:Rat} (h:a+b=a+c):b=c:=by
 have:-a+(a+b) = -a+(a+c):=by rw [h]
 rw [<- addA,<- addA,negA,zeroA,zeroA] at this;exact this
theorem Mzero (a:Rat):a*0=0:=by
 apply canc (a:=a*0);rw [<- dist,Azero,Azero]
theorem zeroM (a:Rat):0*a=0:=by rw [mulC,Mzero]
theorem neg_of {a b:Rat} (h:a+b=0):b = -a:=by
 apply canc (a:=a);rw [h,Aneg]
theorem negM (a b:Rat):-a*b = -(a*b):=by
 apply neg_of;rw [<- distR,Aneg,zeroM]
theorem Mneg (a b:Rat):a * -b = -(a*b):=by rw [mulC,negM,mulC]
theorem negneg (a:Rat):-(-a)=a:=(neg_of (negA a)).symm
theorem negadd (a b:Rat):-(a+b) = -a + -b:=by
 apply Eq.symm;apply neg_of
 calc a+b+(-a + -b)=(a + -a)+(b + -b):=by grind
  _=0:=by rw [Aneg,Aneg,Azero]
theorem negzero:-(0:Rat)=0:=(neg_of (Azero 0)).symm
theorem eq_of_sub {a b:Rat} (h:a + -b=0):a=b:=by
 have:=neg_of h;have h2:-(-b) = -(-a):=by rw [this]
 rw [negneg,negneg] at h2;exact h2.symm
theorem inv_self {b:Rat} (h:b≠0):1 / b*b=1:=divM 1 b h
theorem div_eq (a:Rat) {b:Rat} (h:b≠0):a / b=a*(1 / b):=by
 calc a / b=a / b*(1 / b*b):=by rw [inv_self h,Mone]
  _=(a / b*b)*(1 / b):=by grind
  _=a*(1 / b):=by rw [divM a b h]
theorem div_of {a b c:Rat} (h:b≠0) (e:c*b=a):a / b=c:=by
 rw [div_eq a h,<- e,mulA,mulC b,inv_self h,Mone]
theorem zero_div {b:Rat} (h:b≠0):0 / b=0:=div_of h (zeroM b)
theorem mul_ne {a b:Rat} (ha:a≠0) (hb:b≠0):a*b≠0:=by
 intro h;apply hb
 calc b=1 / a*a*b:=by rw [inv_self ha,oneM]
  _=1 / a*(a*b):=by rw [mulA]
  _=0:=by rw [h,Mzero]
theorem zero_of_mul {a b:Rat} (ha:a≠0) (h:a*b=0):b=0:=by
 apply Classical.byContradiction;intro hb;exact mul_ne ha hb h
theorem neg_ne {a:Rat} (h:a≠0):-a≠0:=by
 intro e;apply h;rw [<- negneg a,e,negzero]
end Nums
open Nums
def lap (v:Nat->Rat):(List Nat->Rat)->List Nat->Rat
 | _,[]=>0
 | f,a :: l=>v a*f l + -(lap v (fun l'=>f (a :: l')) l)
theorem lap_lin (u:Nat->Rat) (c:Rat):∀ (l:List Nat) (g h:List Nat->Rat),
  lap u (fun l'=>c*g l'+h l') l=c*lap u g l+lap u h l:=by
 intro l;induction l with
 | nil=>intro g h;simp only [lap];rw [Mzero,Azero]
 | cons a l ih =>
  intro g h;simp only [lap];rw [ih (fun l'=>g (a :: l')) (fun l'=>h (a :: l'))];simp only [dist,negadd,Mneg];grind
theorem lap_zero (u:Nat->Rat):∀ (l:List Nat),lap u (fun _=>0) l=0:=by
 intro l;induction l with
 | nil=>rfl
 | cons a l ih=>simp only [lap];rw [ih,Mzero,negzero,Azero]
theorem lap_neg (u:Nat->Rat) (h:List Nat->Rat) (l:List Nat):lap u (fun l'=>-(h l')) l = -(lap u h l):=by
 have:=lap_lin u (-1) l h (fun _=>0);rw [lap_zero,Azero,negM,oneM] at this;rw [<- this];congr 1
 funext l'
 rw [negM,oneM,Azero]
theorem lap_alt (v:Nat->Rat):∀ (l:List Nat) (f:List Nat->Rat),lap v (lap v f) l=0:=by
 intro l;induction l with
 | nil=>intro f;rfl
 | cons a l ih =>
  intro f;show v a*lap v f l + -(lap v (fun l'=>v a*f l' + -(lap v (fun l''=>f (a :: l'')) l')) l)=0
  rw [lap_lin v (v a) l f (fun l'=>-(lap v (fun l''=>f (a :: l'')) l')),lap_neg,ih,negzero,Azero,Aneg]
theorem lap_swap (u v:Nat->Rat):∀ (l:List Nat) (f:List Nat->Rat),lap u (lap v f) l = -(lap v (lap u f) l):=by
 intro l;induction l with
 | nil=>intro f;exact negzero.symm
 | cons a l ih =>
  intro f;show u a*lap v f l + -(lap u (fun l'=>v a*f l' + -(lap v (fun l''=>f (a :: l'')) l')) l)
   = -(v a*lap u f l + -(lap v (fun l'=>u a*f l' + -(lap u (fun l''=>f (a :: l'')) l')) l))
  rw [lap_lin u (v a) l f (fun l'=>-(lap v (fun l''=>f (a :: l'')) l')),lap_neg,ih,
   lap_lin v (u a) l f (fun l'=>-(lap u (fun l''=>f (a :: l'')) l')),lap_neg]
  simp only [negadd,negneg];grind
def det (W:Nat->Nat->Rat):List Nat->List Nat->Rat
 | [],_=>1
 | j :: γ,l=>lap (fun r=>W r j) (det W γ) l
theorem det_swap (W:Nat->Nat->Rat) (c j:Nat) (γ2:List Nat):∀ (γ1 l:List Nat),det W (γ1++c :: j :: γ2) l = -(det W (γ1++j :: c :: γ2) l):=by
 intro γ1;induction γ1 with
 | nil=>intro l;exact lap_swap _ _ l _
 | cons g γ1 ih =>
  intro l;have:det W (γ1++c :: j :: γ2)=fun l=>-(det W (γ1++j :: c :: γ2) l):=funext ih
  simp only [List.cons_append,det];rw [this,lap_neg]
theorem det_dup (W:Nat->Nat->Rat) (j:Nat):∀ (γ:List Nat),j∈γ->∀ l,det W (j :: γ) l=0:=by
 intro γ;induction γ with
 | nil=>intro h;simp at h
 | cons c γ ih =>
  intro h l;by_cases hc:j=c
  ·subst hc;exact lap_alt _ l _
  ·have hm:j∈γ:=by simpa [hc] using h
   have:=det_swap W j c γ [] l;simp only [List.nil_append] at this;rw [this];have h0:det W (j :: γ)=fun _=>0:=funext (ih hm)
   simp only [det] at h0 ⊢;rw [h0,lap_zero,negzero]
theorem det_front (W:Nat->Nat->Rat) (j:Nat) (γ2:List Nat):∀ (γ1 l:List Nat),
  det W (γ1++j :: γ2) l=det W (j :: (γ1++γ2)) l∨det W (γ1++j :: γ2) l = -(det W (j :: (γ1++γ2)) l):=by
 have key:∀ γ1:List Nat,(∀ l,det W (γ1++j :: γ2) l=det W (j :: (γ1++γ2)) l)∨(∀ l,det W (γ1++j :: γ2) l = -(det W (j :: (γ1++γ2)) l)):=by
  intro γ1;induction γ1 with
  | nil=>exact .inl fun _=>rfl
  | cons c γ1 ih =>
   have hs:∀ l,det W (j :: c :: (γ1++γ2)) l = -(det W (c :: j :: (γ1++γ2)) l):=fun l=>by
    have:=det_swap W j c (γ1++γ2) [] l;simpa only [List.nil_append] using this
   rcases ih with ih | ih
   ·right
    intro l;have e:det W (γ1++j :: γ2)=det W (j :: (γ1++γ2)):=funext ih;show lap _ (det W (γ1++j :: γ2)) l=_
    rw [e];show det W (c :: j :: (γ1++γ2)) l = -(det W (j :: c :: (γ1++γ2)) l)
    rw [hs,negneg]
   ·left
    intro l;have e:det W (γ1++j :: γ2)=fun l=>-(det W (j :: (γ1++γ2)) l):=funext ih
    show lap _ (det W (γ1++j :: γ2)) l=_
    rw [e,lap_neg];show -(det W (c :: j :: (γ1++γ2)) l)=det W (j :: c :: (γ1++γ2)) l
    rw [hs]
 intro γ1 l;rcases key γ1 with h | h
 ·exact .inl (h l)
 ·exact .inr (h l)
structure IsWh (Wh:Nat->Rat->Prop):Prop where
 zero:∀ b,Wh b 0
 one:∀ b,1<=b->Wh b 1
 add:∀ b c x y,Wh b x->Wh c y->Wh (b+c) (x+y)
 mul:∀ b c x y,Wh b x->Wh c y->Wh (b*c) (x*y)
 neg:∀ b x,Wh b x->Wh b (-x)
 mono:∀ b c x,b<=c->Wh b x->Wh c x
theorem lap_wh {Wh:Nat->Rat->Prop} (hW:IsWh Wh) (v:Nat->Rat) (K:Nat):∀ (l:List Nat) (f:List Nat->Rat),
  (∀ p a q,l=p++a :: q->Wh K (v a*f (p++q)))->Wh (l.length*K) (lap v f l):=by
 intro l;induction l with
 | nil=>intro f _;exact hW.zero _
 | cons a l ih =>
  intro f hf;have h1:=ih (fun l'=>f (a :: l')) (fun p b q e=>hf (a :: p) b q (by rw [e];rfl));have h2:Wh K (v a*f l):=hf [] a l rfl;have:=hW.add _ _ _ _ h2 (hW.neg _ _ h1);refine hW.mono _ _ _ ?_ this;rw [List.length_cons,Nat.add_mul,Nat.one_mul,Nat.add_comm];exact Nat.le_refl _
def prodL (b:Nat->Nat):List Nat->Nat
 | []=>1
 | a :: l=>b a*prodL b l
theorem prodL_app (b:Nat->Nat):∀ l l':List Nat,prodL b (l++l')=prodL b l*prodL b l':=by
 intro l l';induction l with
 | nil=>simp [prodL]
 | cons a l ih=>simp only [List.cons_append,prodL];rw [ih,Nat.mul_assoc]
theorem prodL_pos (b:Nat->Nat) (hb:∀ r,1<=b r):∀ l:List Nat,1<=prodL b l:=by
 intro l;induction l with
 | nil=>exact Nat.le_refl _
 | cons a l ih=>exact Nat.mul_pos (hb a) ih
theorem det_wh {Wh:Nat->Rat->Prop} (hW:IsWh Wh) (W:Nat->Nat->Rat) (b:Nat->Nat) (hb:∀ r,1<=b r) (hB:∀ r j,Wh (b r) (W r j)) (N:Nat) (hN:0<N):∀ (γ l:List Nat),
  l.length<=N->Wh (prodL (fun r=>N*b r) l) (det W γ l):=by
 have hpos:∀ r,1<=N*b r:=fun r=>Nat.mul_pos hN (hb r)
 intro γ;induction γ with
 | nil=>intro l _;exact hW.one _ (prodL_pos _ hpos l)
 | cons j γ ih =>
  intro l hl;have:=lap_wh hW (fun r=>W r j) (prodL (fun r=>N*b r) l / N) l (det W γ) (by
   intro p a q e;have h1:=hW.mul _ _ _ _ (hB a j) (ih (p++q) (by rw [e] at hl;simp at hl ⊢;omega));refine hW.mono _ _ _ ?_ h1;have e2:prodL (fun r=>N*b r) l=N*(b a*prodL (fun r=>N*b r) (p++q)):=by
    rw [e,prodL_app,prodL_app];simp only [prodL];grind
   rw [e2,Nat.mul_div_cancel_left _ hN];exact Nat.le_refl _)
  refine hW.mono _ _ _ ?_ this;exact Nat.le_trans (Nat.mul_le_mul hl (Nat.le_refl _)) (Nat.mul_div_le _ _)
def Span (W:Nat->Nat->Rat):List Nat->(Nat->Rat)->Prop
 | [],R=>∀ j,R j=0
 | r :: ρ,R=>∃ c S,Span W ρ S/\∀ j,R j=c*W r j+S j
theorem span_congr (W:Nat->Nat->Rat) {ρ:List Nat} {R R':Nat->Rat} (h:∀ j,R j=R' j) (hR:Span W ρ R):Span W ρ R':=by
 have:R=R':=funext h;rw [<- this];exact hR
theorem span_lin (W:Nat->Nat->Rat) (a b:Rat):∀ (ρ:List Nat) (R R':Nat->Rat),Span W ρ R->Span W ρ R'->Span W ρ (fun j=>a*R j+b*R' j):=by
 intro ρ;induction ρ with
 | nil=>intro R R' h h' j;simp only [];rw [h j,h' j,Mzero,Mzero,Azero]
 | cons r ρ ih =>
  rintro R R' ⟨c,S,hS,e⟩ ⟨c',S',hS',e'⟩;refine ⟨a*c+b*c',_,ih S S' hS hS',fun j=>?_⟩;simp only [];rw [e j,e' j];simp only [dist,distR];grind
theorem span_zero (W:Nat->Nat->Rat):∀ (ρ:List Nat),Span W ρ (fun _=>0):=by
 intro ρ;induction ρ with
 | nil=>intro j;rfl
 | cons r ρ ih=>exact ⟨0,_,ih,fun j=>by simp only [];rw [zeroM,Azero]⟩
theorem span_mul (W:Nat->Nat->Rat) (a:Rat) {ρ:List Nat} {R:Nat->Rat} (h:Span W ρ R):Span W ρ (fun j=>a*R j) :=
 span_congr W (fun j=>by rw [Mzero,Azero]) (span_lin W a 0 ρ R (fun _=>0) h (span_zero W ρ))
theorem span_add (W:Nat->Nat->Rat) {ρ:List Nat} {R R':Nat->Rat} (h:Span W ρ R) (h':Span W ρ R'):Span W ρ (fun j=>R j+R' j) :=
 span_congr W (fun j=>by rw [oneM,oneM]) (span_lin W 1 1 ρ R R' h h')
theorem span_cons (W:Nat->Nat->Rat) (r:Nat) {ρ:List Nat} {R:Nat->Rat} (h:Span W ρ R):Span W (r :: ρ) R :=
 ⟨0,R,h,fun j=>by rw [zeroM,zeroA]⟩
theorem span_row (W:Nat->Nat->Rat) (r:Nat) (ρ:List Nat) (c:Rat) {S:Nat->Rat} (h:Span W ρ S):Span W (r :: ρ) (fun j=>c*W r j+S j) :=
 ⟨c,S,h,fun _=>rfl⟩
theorem span_lap (W:Nat->Nat->Rat):∀ (ρ:List Nat) (f:List Nat->Rat),Span W ρ (fun j=>lap (fun r=>W r j) f ρ):=by
 intro ρ;induction ρ with
 | nil=>intro f j;rfl
 | cons a ρ ih =>
  intro f;refine ⟨f ρ,_,span_mul W (-1) (ih (fun l'=>f (a :: l'))),fun j=>?_⟩;simp only [lap];rw [negM,oneM,mulC]
def Ind (W:Nat->Nat->Rat) (ρ γ:List Nat):Prop:=∀ S,Span W ρ S->(∀ c∈γ,S c=0)->∀ j,S j=0
theorem ind_nil (W:Nat->Nat->Rat):Ind W [] []:=fun _ h _ j=>h j
theorem row_det (W:Nat->Nat->Rat) {ρ γ:List Nat} {d s:Rat} {R S:Nat->Rat} {i:Nat} (hI:Ind W ρ γ) (hd:d=s*det W γ ρ)
  (hR:∀ j,R j=d*W i j+S j) (hS:Span W ρ S) (h0:∀ c∈γ,R c=0):∀ j,R j=s*det W (j :: γ) (i :: ρ):=by
 intro j;have hD:∀ j,s*det W (j :: γ) (i :: ρ)=d*W i j + -(s*lap (fun r=>W r j) (fun l'=>det W γ (i :: l')) ρ):=by
  intro j;show s*(W i j*det W γ ρ + -(lap (fun r=>W r j) (fun l'=>det W γ (i :: l')) ρ))=_
  rw [dist,Mneg,hd];congr 1
  grind
 have hT:=hI (fun j=>S j+s*lap (fun r=>W r j) (fun l'=>det W γ (i :: l')) ρ) (span_add W hS (span_mul W s (span_lap W ρ _))) (by
  intro c hc;have h1:=h0 c hc;rw [hR c] at h1;have h2:=hD c;rw [det_dup W c γ hc,Mzero] at h2;have h3:=neg_of h1;have h4:s*lap (fun r=>W r c) (fun l'=>det W γ (i :: l')) ρ=d*W i c:=(eq_of_sub h2.symm).symm;rw [h3,h4,negA]) j
 rw [hR j,hD j];congr 1
 rw [addC] at hT;exact neg_of hT
theorem ind_cons (W:Nat->Nat->Rat) {ρ γ:List Nat} {d:Rat} {R S:Nat->Rat} {i c:Nat} (hI:Ind W ρ γ) (hd:d≠0)
  (hR:∀ j,R j=d*W i j+S j) (hS:Span W ρ S) (h0:∀ c∈γ,R c=0) (hc:R c≠0):Ind W (i :: ρ) (c :: γ):=by
 rintro S2 ⟨e,S3,hS3,hE⟩ hz;have hk:∀ j,S2 j=e*(1 / d)*R j:=by
  intro j;have hT:=hI (fun j=>S3 j + -(e*(1 / d))*S j) (span_add W hS3 (span_mul W _ hS)) (by
   intro g hg;have h1:=hz g (List.mem_cons_of_mem _ hg);have h2:=h0 g hg;rw [hE g] at h1;rw [hR g] at h2;have h3:=neg_of h1;have h4:=neg_of h2;rw [h3,h4,negM,Mneg,negneg];have:e*(1 / d)*(d*W i g)=e*W i g:=by
    calc e*(1 / d)*(d*W i g)=e*(1 / d*d)*W i g:=by grind
     _=e*W i g:=by rw [inv_self hd,Mone]
   rw [this,negA]) j
  rw [addC] at hT;have h5:=neg_of hT;rw [negM,negneg] at h5;rw [hE j,hR j,dist,h5];congr 1
  calc e*W i j=e*(1 / d*d)*W i j:=by rw [inv_self hd,Mone]
   _=e*(1 / d)*(d*W i j):=by grind
 have hz0:e*(1 / d)=0:=by
  have h1:=hz c (List.mem_cons_self ..);rw [hk c,mulC] at h1;exact zero_of_mul hc h1
 intro j;rw [hk j,hz0,zeroM]
theorem row_take (W:Nat->Nat->Rat) {ρ:List Nat} {d p:Rat} {R S R' S':Nat->Rat} {i i':Nat} {e:Rat} (l:Rat) (hd:d≠0)
  (hR:∀ j,R j=e*W i j+S j) (hS:Span W ρ S) (hR':∀ j,R' j=d*W i' j+S' j) (hS':Span W ρ S') :
  ∃ T,Span W (i :: ρ) T/\∀ j,(p*R' j-l*R j) / d=p*W i' j+T j:=by
 have hA:=span_row W i ρ e hS;have hB:=span_lin W (p*(1 / d)) (-(l*(1 / d))) (i :: ρ) S' (fun j=>e*W i j+S j) (span_cons W i hS') hA;refine ⟨_,hB,fun j=>?_⟩;rw [div_eq _ hd,subE,hR' j,<- hR j,distR,negM,negM,dist,distR];have h1:p*(d*W i' j)*(1 / d)=p*W i' j:=by
  calc p*(d*W i' j)*(1 / d)=p*(1 / d*d)*W i' j:=by grind
   _=p*W i' j:=by rw [inv_self hd,Mone]
 have h2:p*S' j*(1 / d)=p*(1 / d)*S' j:=by grind
 have h3:l*R j*(1 / d)=l*(1 / d)*R j:=by grind
 rw [h1,h2,h3,addA]
def dot:Nat->(Nat->Rat)->(Nat->Rat)->Rat
 | 0,_,_=>0
 | n+1,x,R=>dot n x R+R n*x n
theorem dot_lin (x:Nat->Rat) (a b:Rat) (R R':Nat->Rat):∀ n,dot n x (fun j=>a*R j+b*R' j)=a*dot n x R+b*dot n x R':=by
 intro n;induction n with
 | zero=>simp only [dot];rw [Mzero,Mzero,Azero]
 | succ n ih=>simp only [dot];rw [ih];simp only [dist,distR];grind
theorem dot_congr (x x' R R':Nat->Rat):∀ n,(∀ j,j<n->R j*x j=R' j*x' j)->dot n x R=dot n x' R':=by
 intro n;induction n with
 | zero=>intro _;rfl
 | succ n ih=>intro h;simp only [dot];rw [ih (fun j hj=>h j (by omega)),h n (by omega)]
theorem dot_zero (x R:Nat->Rat):∀ n,(∀ j,j<n->R j*x j=0)->dot n x R=0:=by
 intro n;induction n with
 | zero=>intro _;rfl
 | succ n ih=>intro h;simp only [dot];rw [ih (fun j hj=>h j (by omega)),h n (by omega),Azero]
theorem dot_row (x:Nat->Rat) (c:Rat) (R S:Nat->Rat) (n:Nat):dot n x (fun j=>c*R j+S j)=c*dot n x R+dot n x S:=by
 have:=dot_lin x c 1 R S n;rw [oneM] at this;rw [<- this];congr 1
 funext j
 rw [oneM]
theorem span_dot (W:Nat->Nat->Rat) (n:Nat) (x:Nat->Rat):∀ (ρ:List Nat) (S:Nat->Rat),Span W ρ S->(∀ r∈ρ,dot n x (W r)=0)->dot n x S=0:=by
 intro ρ;induction ρ with
 | nil =>
  intro S h _;exact dot_zero x S n (fun j _=>by rw [h j,zeroM])
 | cons r ρ ih =>
  rintro S ⟨c,S',hS',e⟩ h;have:S=fun j=>c*W r j+S' j:=funext e
  rw [this,dot_row,h r (List.mem_cons_self ..),ih S' hS' (fun q hq=>h q (List.mem_cons_of_mem _ hq)),Mzero,Azero]
open Nums
def sumL (f:Nat->Rat):List Nat->Rat
 | []=>0
 | a :: l=>f a+sumL f l
theorem sumL_app (f:Nat->Rat):∀ l l':List Nat,sumL f (l++l')=sumL f l+sumL f l':=by
 intro l l';induction l with
 | nil=>exact (zeroA _).symm
 | cons a l ih=>simp only [List.cons_append,sumL];rw [ih,addA]
theorem sumL_zero (f:Nat->Rat):∀ l:List Nat,(∀ j∈l,f j=0)->sumL f l=0:=by
 intro l;induction l with
 | nil=>intro _;rfl
 | cons a l ih=>intro h;simp only [sumL];rw [h a (List.mem_cons_self ..),ih (fun j hj=>h j (List.mem_cons_of_mem _ hj)),Azero]
theorem sumL_congr (f g:Nat->Rat):∀ l:List Nat,(∀ j∈l,f j=g j)->sumL f l=sumL g l:=by
 intro l;induction l with
 | nil=>intro _;rfl
 | cons a l ih=>intro h;simp only [sumL];rw [h a (List.mem_cons_self ..),ih (fun j hj=>h j (List.mem_cons_of_mem _ hj))]
theorem sumL_mul (c:Rat) (f:Nat->Rat):∀ l:List Nat,sumL (fun j=>c*f j) l=c*sumL f l:=by
 intro l;induction l with
 | nil=>exact (Mzero c).symm
 | cons a l ih=>simp only [sumL];rw [ih,dist]
theorem sumL_range (x R:Nat->Rat):∀ n,sumL (fun j=>R j*x j) (List.range n)=dot n x R:=by
 intro n;induction n with
 | zero=>rfl
 | succ n ih=>rw [List.range_succ,sumL_app,ih];simp only [sumL,dot];rw [Azero]
theorem sumL_set (f:Nat->Rat) (v:Nat):∀ (l:List Nat) (i:Nat),i<l.length->sumL f (l.set i v)+f (l.getD i 0)=sumL f l+f v:=by
 intro l;induction l with
 | nil=>intro i h;simp at h
 | cons a l ih =>
  intro i h;cases i with
  | zero=>simp only [List.set_cons_zero,sumL,List.getD_cons_zero];grind
  | succ i =>
   simp only [List.set_cons_succ,sumL,List.getD_cons_succ];have:=ih i (by simpa using h);rw [addA,this,addA]
theorem prodL_set (f:Nat->Nat) (v:Nat):∀ (l:List Nat) (i:Nat),i<l.length->prodL f (l.set i v)*f (l.getD i 0)=prodL f l*f v:=by
 intro l;induction l with
 | nil=>intro i h;simp at h
 | cons a l ih =>
  intro i h;cases i with
  | zero=>simp only [List.set_cons_zero,prodL,List.getD_cons_zero];grind
  | succ i =>
   simp only [List.set_cons_succ,prodL,List.getD_cons_succ];have:=ih i (by simpa using h);rw [Nat.mul_assoc,this,Nat.mul_assoc]
def swapL (l:List Nat) (i j:Nat):List Nat:=(l.set i (l.getD j 0)).set j (l.getD i 0)
def swapI (a b i:Nat):Nat:=if i=b then a else if i=a then b else i
theorem swapL_len (l:List Nat) (i j:Nat):(swapL l i j).length=l.length:=by simp [swapL]
theorem swapL_get (l:List Nat) (a b i:Nat) (ha:a<l.length) (hb:b<l.length):(swapL l a b).getD i 0=l.getD (swapI a b i) 0:=by
 unfold swapL swapI;simp only [List.getD_eq_getElem?_getD,List.getElem?_set,List.length_set];by_cases h1:b=i
 ·subst h1;simp [hb]
 ·have h1':i≠b:=fun e=>h1 e.symm
  by_cases h2:a=i
  ·subst h2;simp [h1,h1',ha]
  ·have h2':i≠a:=fun e=>h2 e.symm
   simp [h1,h1',h2,h2']
theorem swapI_lt {a b i m:Nat} (ha:a<m) (hb:b<m) (hi:i<m):swapI a b i<m:=by
 unfold swapI;split
 ·exact ha
 ·split<;>assumption
theorem swapI_ge {a b i k:Nat} (ha:k<=a) (hb:k<=b) (hi:k<=i):k<=swapI a b i:=by
 unfold swapI;split
 ·exact ha
 ·split<;>assumption
theorem swapI_low {a b i k:Nat} (ha:k<=a) (hb:k<=b) (hi:i<k):swapI a b i=i:=by
 unfold swapI;rw [if_neg (by omega),if_neg (by omega)]
theorem swapI_self (a b i:Nat):swapI a b (swapI a b i)=i:=by
 unfold swapI;by_cases h1:i=b
 ·subst h1;by_cases h2:a=i
  ·subst h2;simp
  ·simp [h2]
 ·by_cases h2:i=a
  ·subst h2;simp [h1]
  ·simp [h1,h2]
theorem getD_mem (l:List Nat) (i:Nat) (h:i<l.length):l.getD i 0∈l:=by
 rw [List.getD_eq_getElem?_getD,List.getElem?_eq_getElem h];exact List.getElem_mem h
theorem mem_getD {l:List Nat} {v:Nat} (h:v∈l):∃ i,i<l.length/\l.getD i 0=v:=by
 obtain ⟨i,hi,e⟩:=List.mem_iff_getElem.1 h;exact ⟨i,hi,by rw [List.getD_eq_getElem?_getD,List.getElem?_eq_getElem hi];exact e⟩
theorem swapL_mem (l:List Nat) (a b v:Nat) (ha:a<l.length) (hb:b<l.length):v∈swapL l a b↔v∈l:=by
 constructor
 ·intro h;obtain ⟨i,hi,e⟩:=mem_getD h;rw [swapL_get l a b i ha hb] at e;rw [swapL_len] at hi;rw [<- e];exact getD_mem l _ (swapI_lt ha hb hi)
 ·intro h;obtain ⟨i,hi,e⟩:=mem_getD h;have h2:=getD_mem (swapL l a b) (swapI a b i) (by rw [swapL_len];exact swapI_lt ha hb hi);rw [swapL_get l a b _ ha hb,swapI_self,e] at h2;exact h2
theorem swapL_sum (f:Nat->Rat) (l:List Nat) (a b:Nat) (ha:a<l.length) (hb:b<l.length):sumL f (swapL l a b)=sumL f l:=by
 have h1:=sumL_set f (l.getD b 0) l a ha;have h2:=sumL_set f (l.getD a 0) (l.set a (l.getD b 0)) b (by simpa using hb);have h3:(l.set a (l.getD b 0)).getD b 0=l.getD b 0:=by
  by_cases h:a=b
  ·subst h;rw [List.getD_eq_getElem?_getD,List.getElem?_set];simp [ha]
  ·rw [List.getD_eq_getElem?_getD,List.getElem?_set,if_neg h,<- List.getD_eq_getElem?_getD]
 rw [h3] at h2;show sumL f ((l.set a (l.getD b 0)).set b (l.getD a 0))=_
 apply canc (a:=f (l.getD b 0)+f (l.getD a 0))
 calc f (l.getD b 0)+f (l.getD a 0)+sumL f ((l.set a (l.getD b 0)).set b (l.getD a 0))
   = (sumL f ((l.set a (l.getD b 0)).set b (l.getD a 0))+f (l.getD b 0))+f (l.getD a 0):=by grind
  _=(sumL f (l.set a (l.getD b 0))+f (l.getD a 0))+f (l.getD a 0):=by rw [h2]
  _=(sumL f l+f (l.getD b 0))+f (l.getD a 0):=by rw [h1]
  _=f (l.getD b 0)+f (l.getD a 0)+sumL f l:=by grind
theorem swapL_prod (f:Nat->Nat) (hf:∀ r,1<=f r) (l:List Nat) (a b:Nat) (ha:a<l.length) (hb:b<l.length):prodL f (swapL l a b)=prodL f l:=by
 have h1:=prodL_set f (l.getD b 0) l a ha;have h2:=prodL_set f (l.getD a 0) (l.set a (l.getD b 0)) b (by simpa using hb);have h3:(l.set a (l.getD b 0)).getD b 0=l.getD b 0:=by
  by_cases h:a=b
  ·subst h;rw [List.getD_eq_getElem?_getD,List.getElem?_set];simp [ha]
  ·rw [List.getD_eq_getElem?_getD,List.getElem?_set,if_neg h,<- List.getD_eq_getElem?_getD]
 rw [h3] at h2;show prodL f ((l.set a (l.getD b 0)).set b (l.getD a 0))=_
 have hp:0<f (l.getD b 0)*f (l.getD a 0):=Nat.mul_pos (hf _) (hf _);apply Nat.eq_of_mul_eq_mul_left hp
 calc f (l.getD b 0)*f (l.getD a 0)*prodL f ((l.set a (l.getD b 0)).set b (l.getD a 0))
   = (prodL f ((l.set a (l.getD b 0)).set b (l.getD a 0))*f (l.getD b 0))*f (l.getD a 0):=by grind
  _=(prodL f (l.set a (l.getD b 0))*f (l.getD a 0))*f (l.getD a 0):=by rw [h2]
  _=(prodL f l*f (l.getD b 0))*f (l.getD a 0):=by rw [h1]
  _=f (l.getD b 0)*f (l.getD a 0)*prodL f l:=by grind
theorem swapL_take (l:List Nat) (a b k:Nat) (ha:k<=a) (hb:k<=b):(swapL l a b).take k=l.take k:=by
 unfold swapL;rw [List.take_set_of_le (by omega),List.take_set_of_le (by omega)]
theorem take_succ_rev (l:List Nat) (k:Nat) (h:k<l.length):(l.take (k+1)).reverse=l.getD k 0 :: (l.take k).reverse:=by
 rw [List.take_add_one,List.getElem?_eq_getElem h,List.getD_eq_getElem?_getD,List.getElem?_eq_getElem h];simp
def Left (W:Nat->Nat->Rat) (ρ γ:List Nat) (d:Rat) (i:Nat) (R:Nat->Rat):Prop :=
 ∃ S,Span W ρ S/\(∀ j,R j=d*W i j+S j)/\∀ c∈γ,R c=0
def DoneR (W:Nat->Nat->Rat) (ρ γ:List Nat) (c i:Nat) (R:Nat->Rat):Prop :=
 ∃ e S,e≠0/\Span W ρ S/\(∀ j,R j=e*W i j+S j)/\(∀ c∈γ,R c=0)/\R c≠0
structure St (W:Nat->Nat->Rat) (m done:Nat) (perm order:List Nat) (R:Nat->Nat->Rat) (d s:Rat):Prop where
 pl:perm.length=m
 pm:∀ r,r<m->r∈perm
 pb:∀ r∈perm,r<m
 pp:∀ c:Nat->Nat,(∀ r,1<=c r)->prodL c perm=prodL c (List.range m)
 ol:order.length=m
 om:∀ j,j<m->j∈order
 ob:∀ j∈order,j<m
 oi:∀ i k,i<m->k<m->order.getD i 0=order.getD k 0->i=k
 os:∀ f:Nat->Rat,sumL f order=sumL f (List.range m)
 le:done<=m
 ind:Ind W (perm.take done).reverse (order.take done).reverse
 dn:d≠0
 dd:d=s*det W (order.take done).reverse (perm.take done).reverse
 sg:s=1∨s = -1
 todo:∀ i,done<=i->i<m->Left W (perm.take done).reverse (order.take done).reverse d (perm.getD i 0) (R i)
 fin:∀ t,t<done->DoneR W (perm.take t).reverse (order.take t).reverse (order.getD t 0) (perm.getD t 0) (R t)
theorem range_getD (m i:Nat) (h:i<m):(List.range m).getD i 0=i:=by
 rw [List.getD_eq_getElem?_getD,List.getElem?_range h];rfl
theorem st_start (W:Nat->Nat->Rat) (m:Nat):St W m 0 (List.range m) (List.range m) W 1 1 where
 pl:=List.length_range
 pm:=fun r h=>List.mem_range.2 h
 pb:=fun r h=>List.mem_range.1 h
 pp:=fun _ _=>rfl
 ol:=List.length_range
 om:=fun r h=>List.mem_range.2 h
 ob:=fun r h=>List.mem_range.1 h
 oi:=fun i k hi hk e=>by rw [range_getD m i hi,range_getD m k hk] at e;exact e
 os:=fun _=>rfl
 le:=Nat.zero_le _
 ind:=by simpa using ind_nil W
 dn:=oneN
 dd:=by simp only [List.take_zero,List.reverse_nil,det];rw [oneM]
 sg:=.inl rfl
 todo:=fun i _ h=>⟨fun _=>0,span_zero W _,fun j=>by rw [range_getD m i h,oneM,Azero],by simp⟩
 fin:=fun t h=>by omega
theorem st_swap {W:Nat->Nat->Rat} {m done:Nat} {perm order:List Nat} {R:Nat->Nat->Rat} {d s:Rat} (h:St W m done perm order R d s)
  {a b:Nat} (hd:done<m) (ha:done<=a) (ha2:a<m) (hb:done<=b) (hb2:b<m) :
  St W m done (swapL perm done a) (swapL order done b) (fun i=>R (swapI done a i)) d s:=by
 have hp1:done<perm.length:=by rw [h.pl];exact hd
 have hp2:a<perm.length:=by rw [h.pl];exact ha2
 have ho1:done<order.length:=by rw [h.ol];exact hd
 have ho2:b<order.length:=by rw [h.ol];exact hb2
 constructor
 ·rw [swapL_len];exact h.pl
 ·intro r hr;exact (swapL_mem perm done a r hp1 hp2).2 (h.pm r hr)
 ·intro r hr;exact h.pb r ((swapL_mem perm done a r hp1 hp2).1 hr)
 ·intro c hc;rw [swapL_prod c hc perm done a hp1 hp2];exact h.pp c hc
 ·rw [swapL_len];exact h.ol
 ·intro r hr;exact (swapL_mem order done b r ho1 ho2).2 (h.om r hr)
 ·intro r hr;exact h.ob r ((swapL_mem order done b r ho1 ho2).1 hr)
 ·intro i k hi hk e;rw [swapL_get _ _ _ _ ho1 ho2,swapL_get _ _ _ _ ho1 ho2] at e;have h1:=h.oi _ _ (swapI_lt hd hb2 hi) (swapI_lt hd hb2 hk) e;rw [<- swapI_self done b i,h1,swapI_self]
 ·intro f;rw [swapL_sum f order done b ho1 ho2];exact h.os f
 ·exact h.le
 ·rw [swapL_take _ _ _ _ (Nat.le_refl _) ha,swapL_take _ _ _ _ (Nat.le_refl _) hb];exact h.ind
 ·exact h.dn
 ·rw [swapL_take _ _ _ _ (Nat.le_refl _) ha,swapL_take _ _ _ _ (Nat.le_refl _) hb];exact h.dd
 ·exact h.sg
 ·intro i hi hi2;rw [swapL_take _ _ _ _ (Nat.le_refl _) ha,swapL_take _ _ _ _ (Nat.le_refl _) hb,swapL_get _ _ _ _ hp1 hp2];exact h.todo _ (swapI_ge (Nat.le_refl _) ha hi) (swapI_lt hd ha2 hi2)
 ·intro t ht;rw [swapL_take _ _ _ _ (by omega) (by omega),swapL_take _ _ _ _ (by omega) (by omega),swapL_get _ _ _ _ hp1 hp2,swapL_get _ _ _ _ ho1 ho2,
   swapI_low (Nat.le_refl _) ha ht,swapI_low (Nat.le_refl _) hb ht]
  exact h.fin t ht
theorem st_step {W:Nat->Nat->Rat} {m done:Nat} {perm order:List Nat} {R R':Nat->Nat->Rat} {d s u p:Rat} (h:St W m done perm order R d s)
  (hd:done<m) (hu:u=1∨u = -1) (hlow:∀ t,t<done->∀ j,R' t j=R t j)
  (hpiv:∀ j,R' done j=u*R done j) (hp:p=R' done (order.getD done 0)) (hn:p≠0)
  (hrest:∀ i,done<i->i<m->∀ j,R' i j=(p*R i j-R i (order.getD done 0)*R' done j) / d) :
  St W m (done+1) perm order R' p (u*s):=by
 obtain ⟨S,hS,hR,h0⟩:=h.todo done (Nat.le_refl _) hd;have hp1:done<perm.length:=by rw [h.pl];exact hd
 have ho1:done<order.length:=by rw [h.ol];exact hd
 have hun:u≠0:=by rcases hu with e | e<;>rw [e];exact oneN;exact neg_ne oneN
 have hRn:R done (order.getD done 0)≠0:=by
  intro e;apply hn;rw [hp,hpiv,e,Mzero]
 have hR2:∀ j,R' done j=u*d*W (perm.getD done 0) j+u*S j:=by
  intro j;rw [hpiv,hR,dist,mulA]
 have hS2:Span W (perm.take done).reverse (fun j=>u*S j):=span_mul W u hS;have h02:∀ c∈(order.take done).reverse,R' done c=0:=by
  intro c hc;rw [hpiv,h0 c hc,Mzero]
 constructor
 ·exact h.pl
 ·exact h.pm
 ·exact h.pb
 ·exact h.pp
 ·exact h.ol
 ·exact h.om
 ·exact h.ob
 ·exact h.oi
 ·exact h.os
 ·exact hd
 ·rw [take_succ_rev _ _ hp1,take_succ_rev _ _ ho1];exact ind_cons W h.ind h.dn hR hS h0 hRn
 ·exact hn
 ·rw [take_succ_rev _ _ hp1,take_succ_rev _ _ ho1,hp,hpiv,row_det W h.ind h.dd hR hS h0 (order.getD done 0),mulA]
 ·rcases hu with e | e<;>rcases h.sg with e' | e' <;> rw [e,e']
  ·left;exact oneM 1
  ·right;exact oneM _
  ·right;exact Mone _
  ·left;rw [negM,oneM,negneg]
 ·intro i hi hi2;rw [take_succ_rev _ _ hp1,take_succ_rev _ _ ho1];obtain ⟨S',hS',hR',h0'⟩:=h.todo i (by omega) hi2;obtain ⟨T,hT,hE⟩:=row_take W (p:=p) (i:=perm.getD done 0) (i':=perm.getD i 0) (R i (order.getD done 0)) h.dn hR2 hS2 hR' hS';refine ⟨T,hT,fun j=>?_,fun c hc=>?_⟩
  ·rw [hrest i hi hi2 j,hE j]
  ·rw [hrest i hi hi2 c];rcases List.mem_cons.1 hc with e | e
   ·subst e;rw [<- hp,mulC p,subE,Aneg,zero_div h.dn]
   ·rw [h0' c e,h02 c e,Mzero,Mzero,subE,negzero,Azero,zero_div h.dn]
 ·intro t ht;by_cases e:t=done
  ·subst e;exact ⟨u*d,_,mul_ne hun h.dn,hS2,hR2,h02,by rw [<- hp];exact hn⟩
  ·obtain ⟨e',S',he',hS',hR',h0',hn'⟩:=h.fin t (by omega);refine ⟨e',S',he',hS',fun j=>?_,fun c hc=>?_,?_⟩
   ·rw [hlow t (by omega) j];exact hR' j
   ·rw [hlow t (by omega) c];exact h0' c hc
   ·rw [hlow t (by omega)];exact hn'
def Sol (W:Nat->Nat->Rat) (m:Nat) (x:Nat->Rat):Prop:=x m = -1/\∀ r,r<m->dot (m+1) x (W r)=0
theorem st_sol {W:Nat->Nat->Rat} {m done:Nat} {perm order:List Nat} {R:Nat->Nat->Rat} {d s:Rat} (h:St W m done perm order R d s) (x:Nat->Rat) :
  (∀ r,r<m->dot (m+1) x (W r)=0)↔∀ i,i<m->dot (m+1) x (R i)=0:=by
 have hpt:∀ t,t<m->perm.getD t 0<m:=fun t ht=>h.pb _ (getD_mem perm t (by rw [h.pl];exact ht))
 have hrev:∀ k,∀ r∈(perm.take k).reverse,∃ t,t<k/\t<m/\perm.getD t 0=r:=by
  intro k r hr;rw [List.mem_reverse] at hr;obtain ⟨i,hi,e⟩:=mem_getD hr;rw [List.length_take] at hi;refine ⟨i,by omega,by rw [<- h.pl];omega,?_⟩;rw [<- e,List.getD_eq_getElem?_getD,List.getD_eq_getElem?_getD,List.getElem?_take,if_pos (by omega)]
 constructor
 ·intro hW i hi;have hsp:∀ k (S:Nat->Rat),Span W (perm.take k).reverse S->dot (m+1) x S=0:=fun k S hS =>
   span_dot W (m+1) x _ S hS (fun r hr=>by obtain ⟨t,_,ht,e⟩:=hrev k r hr;rw [<- e];exact hW _ (hpt t ht))
  by_cases hd:i<done
  ·obtain ⟨e,S,_,hS,hR,_⟩:=h.fin i hd;rw [funext hR,dot_row,hW _ (hpt i hi),hsp i S hS,Mzero,Azero]
  ·obtain ⟨S,hS,hR,_⟩:=h.todo i (by omega) hi;rw [funext hR,dot_row,hW _ (hpt i hi),hsp done S hS,Mzero,Azero]
 ·intro hR;have hlow:∀ t,t<done->dot (m+1) x (W (perm.getD t 0))=0:=by
   intro t;induction t using Nat.strongRecOn with
   | _ t ih =>
    intro ht;obtain ⟨e,S,he,hS,hE,_⟩:=h.fin t ht;have h1:=hR t (by have:=h.le;omega);rw [funext hE,dot_row,span_dot W (m+1) x _ S hS (fun r hr=>by
     obtain ⟨q,hq,_,e⟩:=hrev t r hr;rw [<- e];exact ih q hq (by omega)),Azero] at h1
    exact zero_of_mul he h1
  have hall:∀ t,t<m->dot (m+1) x (W (perm.getD t 0))=0:=by
   intro t ht;by_cases hd:t<done
   ·exact hlow t hd
   ·obtain ⟨S,hS,hE,_⟩:=h.todo t (by omega) ht;have h1:=hR t ht;rw [funext hE,dot_row,span_dot W (m+1) x _ S hS (fun r hr=>by
     obtain ⟨q,hq,_,e⟩:=hrev done r hr;rw [<- e];exact hlow q hq),Azero] at h1
    exact zero_of_mul h.dn h1
  intro r hr;obtain ⟨i,hi,e⟩:=mem_getD (h.pm r hr);rw [<- e];exact hall i (by rw [<- h.pl];exact hi)
open Nums
theorem sg_wh {Wh:Nat->Rat->Prop} (hW:IsWh Wh) {s:Rat} (hs:s=1∨s = -1) {b:Nat} {x:Rat} (h:Wh b x):Wh b (s*x):=by
 rcases hs with e | e<;>rw [e]
 ·rw [oneM];exact h
 ·rw [negM,oneM];exact hW.neg _ _ h
def most (m:Nat) (b:Nat->Nat):Nat:=prodL (fun r=>m*b r) (List.range m)
theorem prodL_mem (c:Nat->Nat) (hc:∀ r,1<=c r) {v:Nat} : ∀ l:List Nat,v∈l->c v<=prodL c l:=by
 intro l;induction l with
 | nil=>intro h;simp at h
 | cons a l ih =>
  intro h;simp only [prodL];rcases List.mem_cons.1 h with e | e
  ·rw [e];exact Nat.le_mul_of_pos_right _ (prodL_pos c hc l)
  ·exact Nat.le_trans (ih e) (Nat.le_mul_of_pos_left _ (hc a))
theorem prodL_rev (c:Nat->Nat):∀ l:List Nat,prodL c l.reverse=prodL c l:=by
 intro l;induction l with
 | nil=>rfl
 | cons a l ih=>rw [List.reverse_cons,prodL_app,ih];simp only [prodL];rw [Nat.mul_one,Nat.mul_comm]
theorem prodL_take (c:Nat->Nat) (hc:∀ r,1<=c r) (l:List Nat) (k:Nat):prodL c (l.take k)<=prodL c l:=by
 conv=>rhs;rw [<- List.take_append_drop k l]
 rw [prodL_app];exact Nat.le_mul_of_pos_right _ (prodL_pos c hc _)
theorem prodL_one (c:Nat->Nat) (hc:∀ r,1<=c r) (l:List Nat) (k i:Nat) (hi:k<=i) (hi2:i<l.length):prodL c (l.getD i 0 :: (l.take k).reverse)<=prodL c l:=by
 conv=>rhs;rw [<- List.take_append_drop k l]
 rw [prodL_app];simp only [prodL];rw [prodL_rev,Nat.mul_comm];apply Nat.mul_le_mul (Nat.le_refl _);apply prodL_mem c hc;have:=getD_mem (l.drop k) (i-k) (by rw [List.length_drop];omega);rw [List.getD_eq_getElem?_getD,List.getElem?_drop,<- List.getD_eq_getElem?_getD] at this;rw [show k+(i-k)=i by omega] at this;exact this
theorem st_wh {Wh:Nat->Rat->Prop} (hW:IsWh Wh) {W:Nat->Nat->Rat} {m done:Nat} {b:Nat->Nat} {perm order:List Nat} {R:Nat->Nat->Rat} {d s:Rat}
  (h:St W m done perm order R d s) (hb:∀ r,1<=b r) (hB:∀ r j,Wh (b r) (W r j)) (i:Nat) (hi:done<=i) (hi2:i<m) (j:Nat):Wh (most m b) (R i j):=by
 obtain ⟨S,hS,hR,h0⟩:=h.todo i hi hi2;rw [row_det W h.ind h.dd hR hS h0 j];apply sg_wh hW h.sg;have hc:∀ r,1<=m*b r:=fun r=>Nat.mul_pos (by omega) (hb r)
 have hl:(perm.getD i 0 :: (perm.take done).reverse).length<=m:=by
  simp only [List.length_cons,List.length_reverse,List.length_take];omega
 have:=det_wh hW W b hb hB m (by omega) (j :: (order.take done).reverse) _ hl;refine hW.mono _ _ _ ?_ this;unfold most;rw [<- h.pp _ hc];exact prodL_one _ hc perm done i hi (by rw [h.pl];exact hi2)
theorem st_wh_d {Wh:Nat->Rat->Prop} (hW:IsWh Wh) {W:Nat->Nat->Rat} {m done:Nat} {b:Nat->Nat} {perm order:List Nat} {R:Nat->Nat->Rat} {d s:Rat}
  (h:St W m done perm order R d s) (hm:0<m) (hb:∀ r,1<=b r) (hB:∀ r j,Wh (b r) (W r j)):Wh (most m b) d:=by
 rw [h.dd];apply sg_wh hW h.sg;have hc:∀ r,1<=m*b r:=fun r=>Nat.mul_pos hm (hb r)
 have hl:(perm.take done).reverse.length<=m:=by
  simp only [List.length_reverse,List.length_take];have:=h.le;omega
 have:=det_wh hW W b hb hB m hm (order.take done).reverse _ hl;refine hW.mono _ _ _ ?_ this;unfold most;rw [<- h.pp _ hc,prodL_rev];exact prodL_take _ hc perm done
theorem mem_take_getD {l:List Nat} {k v:Nat} (h:v∈l.take k):∃ t,t<k/\t<l.length/\l.getD t 0=v:=by
 obtain ⟨i,hi,e⟩:=mem_getD h;rw [List.length_take] at hi;refine ⟨i,by omega,by omega,?_⟩;rw [<- e,List.getD_eq_getElem?_getD,List.getD_eq_getElem?_getD,List.getElem?_take,if_pos (by omega)]
theorem getD_mem_take {l:List Nat} {k t:Nat} (h:t<k) (h2:t<l.length):l.getD t 0∈l.take k:=by
 have:=getD_mem (l.take k) t (by rw [List.length_take];omega);rw [List.getD_eq_getElem?_getD,List.getElem?_take,if_pos h,<- List.getD_eq_getElem?_getD] at this;exact this
theorem sumL_split (f:Nat->Rat):∀ (l:List Nat) (t:Nat),t<l.length->sumL f l=sumL f (l.take t)+(f (l.getD t 0)+sumL f (l.drop (t+1))):=by
 intro l;induction l with
 | nil=>intro t h;simp at h
 | cons a l ih =>
  intro t h;cases t with
  | zero=>simp only [List.take_zero,List.getD_cons_zero,sumL,List.drop_succ_cons,List.drop_zero];rw [zeroA]
  | succ t =>
   simp only [List.take_succ_cons,List.getD_cons_succ,sumL,List.drop_succ_cons];rw [ih t (by simpa using h),addA]
def upd (x:Nat->Rat) (c:Nat) (v:Rat):Nat->Rat:=fun j=>if j=c then v else x j
theorem dot_upd (x R:Nat->Rat) (c:Nat) (v:Rat):∀ n,c<n->dot n (upd x c v) R=dot n x R+R c*(v + -(x c)):=by
 intro n;induction n with
 | zero=>intro h;omega
 | succ n ih =>
  intro h;simp only [dot];by_cases e:c=n
  ·subst e;have h1:dot c (upd x c v) R=dot c x R:=dot_congr _ _ _ _ c (fun j hj=>by simp only [upd];rw [if_neg (by omega)]);have h2:upd x c v c=v:=by simp [upd]
   rw [h1,h2,dist,Mneg]
   calc dot c x R+R c*v=dot c x R+(R c*x c + -(R c*x c))+R c*v:=by rw [Aneg,Azero]
    _=dot c x R+R c*x c+(R c*v + -(R c*x c)):=by grind
  ·have h2:upd x c v n=x n:=by simp only [upd];rw [if_neg (by omega)]
   rw [ih (by omega),h2];grind
theorem st_free {W:Nat->Nat->Rat} {m done:Nat} {perm order:List Nat} {R:Nat->Nat->Rat} {d s:Rat} (h:St W m done perm order R d s) (x0:Nat->Rat) :
  ∃ x:Nat->Rat,(∀ j,j∉order.take done->x j=x0 j)/\∀ t,t<done->dot (m+1) x (R t)=0:=by
 have key:∀ k,k<=done->∃ x:Nat->Rat,(∀ j,j∉order.take done->x j=x0 j)/\∀ t,done-k<=t->t<done->dot (m+1) x (R t)=0:=by
  intro k;induction k with
  | zero=>intro _;exact ⟨x0,fun _ _=>rfl,fun t h1 h2=>by omega⟩
  | succ k ih =>
   intro hk;obtain ⟨x,hx,hE⟩:=ih (by omega);have hq:done-(k+1)<done:=by omega
   have hm:=h.le;obtain ⟨e,S,_,_,_,_,hn⟩:=h.fin (done-(k+1)) hq;have hol:=h.ol;have hc:order.getD (done-(k+1)) 0<m:=h.ob _ (getD_mem order _ (by omega));refine ⟨upd x (order.getD (done-(k+1)) 0) (x (order.getD (done-(k+1)) 0) + -(dot (m+1) x (R (done-(k+1))) / R (done-(k+1)) (order.getD (done-(k+1)) 0))),fun j hj=>?_,fun t h1 h2=>?_⟩
   ·have:j≠order.getD (done-(k+1)) 0:=by
     intro e;apply hj;rw [e];exact getD_mem_take hq (by omega)
    simp only [upd];rw [if_neg this];exact hx j hj
   ·rw [dot_upd _ _ _ _ (m+1) (by omega)];by_cases ht:t=done-(k+1)
    ·subst ht;have h3:x (order.getD (done-(k+1)) 0) + -(dot (m+1) x (R (done-(k+1))) / R (done-(k+1)) (order.getD (done-(k+1)) 0)) + -(x (order.getD (done-(k+1)) 0))
       = -(dot (m+1) x (R (done-(k+1))) / R (done-(k+1)) (order.getD (done-(k+1)) 0)):=by
      calc x (order.getD (done-(k+1)) 0) + -(dot (m+1) x (R (done-(k+1))) / R (done-(k+1)) (order.getD (done-(k+1)) 0)) + -(x (order.getD (done-(k+1)) 0))
        = -(dot (m+1) x (R (done-(k+1))) / R (done-(k+1)) (order.getD (done-(k+1)) 0))+(x (order.getD (done-(k+1)) 0) + -(x (order.getD (done-(k+1)) 0))):=by grind
       _=_:=by rw [Aneg,Azero]
     rw [h3,Mneg,mulC,divM _ _ hn,Aneg]
    ·obtain ⟨_,_,_,_,_,h0,_⟩:=h.fin t h2;have hz:=h0 (order.getD (done-(k+1)) 0) (by rw [List.mem_reverse];exact getD_mem_take (by omega) (by omega));rw [hz,zeroM,Azero];exact hE t (by omega) h2
 obtain ⟨x,hx,hE⟩:=key done (Nat.le_refl _);exact ⟨x,hx,fun t ht=>hE t (by omega) ht⟩
theorem st_stuck {W:Nat->Nat->Rat} {m done:Nat} {perm order:List Nat} {R:Nat->Nat->Rat} {d s:Rat} (h:St W m done perm order R d s)
  (hz:∀ i,done<=i->i<m->∀ k,done<=k->k<m->R i (order.getD k 0)=0) (i:Nat) (hi:done<=i) (hi2:i<m) (j:Nat) (hj:j<m):R i j=0:=by
 obtain ⟨k,hk,e⟩:=mem_getD (h.om j hj);rw [h.ol] at hk;rw [<- e];by_cases hd:k<done
 ·obtain ⟨S,_,_,h0⟩:=h.todo i hi hi2;exact h0 _ (by rw [List.mem_reverse];exact getD_mem_take hd (by rw [h.ol];exact hk))
 ·exact hz i hi hi2 k (by omega) hk
theorem st_none {W:Nat->Nat->Rat} {m done:Nat} {perm order:List Nat} {R:Nat->Nat->Rat} {d s:Rat} (h:St W m done perm order R d s)
  (hz:∀ i,done<=i->i<m->∀ k,done<=k->k<m->R i (order.getD k 0)=0) {i:Nat} (hi:done<=i) (hi2:i<m) (hn:R i m≠0):¬ ∃ x,Sol W m x:=by
 rintro ⟨x,hx,hE⟩;have h1:=(st_sol h x).1 hE i hi2;simp only [dot] at h1;rw [dot_zero x (R i) m (fun j hj=>by rw [st_stuck h hz i hi hi2 j hj,zeroM]),zeroA,hx,Mneg,Mone] at h1;exact neg_ne hn h1
theorem st_many {W:Nat->Nat->Rat} {m done:Nat} {perm order:List Nat} {R:Nat->Nat->Rat} {d s:Rat} (h:St W m done perm order R d s) (hd:done<m)
  (hz:∀ i,done<=i->i<m->∀ k,done<=k->k<m->R i (order.getD k 0)=0) (hn:∀ i,done<=i->i<m->R i m=0) :
  ∃ x y:Nat->Rat,Sol W m x/\Sol W m y/\∃ j,j<m/\x j≠y j:=by
 have hol:=h.ol;have hmk:∀ v:Rat,∃ x:Nat->Rat,Sol W m x/\x (order.getD done 0)=v:=by
  intro v;obtain ⟨x,hx,hE⟩:=st_free h (fun j=>if j=m then -1 else v);have hm:m∉order.take done:=fun hm=>by
   have:=h.ob m (List.mem_of_mem_take hm);omega
  have ho:order.getD done 0∉order.take done:=fun hm=>by
   obtain ⟨t,ht,ht2,e⟩:=mem_take_getD hm;have:=h.oi t done (by omega) hd e;omega
  have hlt:order.getD done 0<m:=h.ob _ (getD_mem order _ (by omega));refine ⟨x,⟨?_,(st_sol h x).2 (fun i hi=>?_)⟩,?_⟩
  ·rw [hx m hm,if_pos rfl]
  ·by_cases hi2:i<done
   ·exact hE i hi2
   ·apply dot_zero;intro j hj;by_cases hjm:j=m
    ·rw [hjm,hn i (by omega) hi,zeroM]
    ·rw [st_stuck h hz i (by omega) hi j (by omega),zeroM]
  ·rw [hx _ ho,if_neg (by omega)]
 obtain ⟨x,hx,ex⟩:=hmk 0;obtain ⟨y,hy,ey⟩:=hmk 1;refine ⟨x,y,hx,hy,order.getD done 0,h.ob _ (getD_mem order _ (by omega)),?_⟩;rw [ex,ey];exact fun e=>oneN e.symm
theorem lap_congr {u v:Nat->Rat} : ∀ (l:List Nat) (f:List Nat->Rat),(∀ r∈l,u r=v r)->lap u f l=lap v f l:=by
 intro l;induction l with
 | nil=>intro _ _;rfl
 | cons a l ih =>
  intro f h;simp only [lap];rw [h a (List.mem_cons_self ..),ih _ (fun r hr=>h r (List.mem_cons_of_mem _ hr))]
theorem lap_lin1 (a:Rat) (u v:Nat->Rat):∀ (l:List Nat) (f:List Nat->Rat),lap (fun r=>a*u r+v r) f l=a*lap u f l+lap v f l:=by
 intro l;induction l with
 | nil=>intro f;simp only [lap];rw [Mzero,Azero]
 | cons r l ih =>
  intro f;simp only [lap];rw [ih];simp only [dist,distR,negadd,Mneg];grind
theorem lap_zero1:∀ (l:List Nat) (f:List Nat->Rat),lap (fun _=>(0:Rat)) f l=0:=by
 intro l;induction l with
 | nil=>intro f;rfl
 | cons r l ih=>intro f;simp only [lap];rw [ih,zeroM,negzero,Azero]
theorem det_sum (W:Nat->Nat->Rat) (x:Nat->Rat) (γ l:List Nat):∀ o:List Nat,
  lap (fun r=>sumL (fun j=>W r j*x j) o) (det W γ) l=sumL (fun j=>x j*det W (j :: γ) l) o:=by
 intro o;induction o with
 | nil=>exact lap_zero1 l _
 | cons a o ih =>
  simp only [sumL];rw [<- ih];show _=x a*lap (fun r=>W r a) (det W γ) l+_
  rw [<- lap_lin1];congr 1
  funext r
  rw [mulC]
theorem st_cramer {Wh:Nat->Rat->Prop} (hW:IsWh Wh) {W:Nat->Nat->Rat} {m:Nat} {b:Nat->Nat} {perm order:List Nat} {R:Nat->Nat->Rat} {d s:Rat}
  (h:St W m m perm order R d s) (hb:∀ r,1<=b r) (hB:∀ r j,Wh (b r) (W r j)) {y:Nat->Rat} (hy:Sol W m y) (t:Nat) (ht:t<m) :
  Wh (most m b) (d*y (order.getD t 0)):=by
 have hol:=h.ol;have hpl:=h.pl;have ho:order.take m=order:=List.take_of_length_le (by omega);have hp:perm.take m=perm:=List.take_of_length_le (by omega);have hdd:=h.dd;rw [ho,hp] at hdd;have hrhs:∀ r∈perm.reverse,W r m=sumL (fun j=>W r j*y j) order:=by
  intro r hr;rw [List.mem_reverse] at hr;have h2:=hy.2 r (h.pb r hr);simp only [dot] at h2;rw [hy.1,Mneg,Mone] at h2;rw [h.os,sumL_range];exact (eq_of_sub h2).symm
 have hsplit:order.reverse=(order.drop (t+1)).reverse++order.getD t 0 :: (order.take t).reverse:=by
  have e:order=order.take t++order.getD t 0 :: order.drop (t+1):=by
   rw [List.getD_eq_getElem?_getD,List.getElem?_eq_getElem (by omega)];simp
  conv=>lhs;rw [e]
  simp
 have hE:det W (m :: ((order.drop (t+1)).reverse++(order.take t).reverse)) perm.reverse
   = y (order.getD t 0)*det W (order.getD t 0 :: ((order.drop (t+1)).reverse++(order.take t).reverse)) perm.reverse:=by
  show lap (fun r=>W r m) _ _=_
  rw [lap_congr perm.reverse _ hrhs,det_sum,sumL_split _ order t (by omega)];rw [sumL_zero _ (order.take t) (fun j hj=>by rw [det_dup W j _ (by simp [hj]),Mzero]),
   sumL_zero _ (order.drop (t+1)) (fun j hj=>by rw [det_dup W j _ (by simp [hj]),Mzero]),Azero,zeroA]
 have hwE:Wh (most m b) (det W (m :: ((order.drop (t+1)).reverse++(order.take t).reverse)) perm.reverse):=by
  have hc:∀ r,1<=m*b r:=fun r=>Nat.mul_pos (by omega) (hb r)
  have:=det_wh hW W b hb hB m (by omega) (m :: ((order.drop (t+1)).reverse++(order.take t).reverse)) perm.reverse (by rw [List.length_reverse];omega);refine hW.mono _ _ _ ?_ this;unfold most;rw [<- h.pp _ hc,prodL_rev];exact Nat.le_refl _
 have hf:d*y (order.getD t 0)=s*det W (m :: ((order.drop (t+1)).reverse++(order.take t).reverse)) perm.reverse
   ∨ d*y (order.getD t 0) = -(s*det W (m :: ((order.drop (t+1)).reverse++(order.take t).reverse)) perm.reverse):=by
  rw [hE,hdd,hsplit];rcases det_front W (order.getD t 0) (order.take t).reverse (order.drop (t+1)).reverse perm.reverse with e | e
  ·left;rw [e];grind
  ·right;rw [e,Mneg,negM];congr 1;grind
 rcases hf with e | e<;>rw [e]
 ·exact sg_wh hW h.sg hwE
 ·exact hW.neg _ _ (sg_wh hW h.sg hwE)
theorem st_full {Wh:Nat->Rat->Prop} (hW:IsWh Wh) {W:Nat->Nat->Rat} {m:Nat} {b:Nat->Nat} {perm order:List Nat} {R:Nat->Nat->Rat} {d s:Rat}
  (h:St W m m perm order R d s) (hb:∀ r,1<=b r) (hB:∀ r j,Wh (b r) (W r j)) :
  ∃ y:Nat->Rat,Sol W m y/\(∀ z,Sol W m z->∀ j,j<m->z j=y j)/\(∀ t,t<m->Wh (most m b) (d*y (order.getD t 0)))
   /\ ∀ t,t<m->R t (order.getD t 0)≠0/\d*R t m-sumL (fun v=>R t v*(d*y v)) (order.drop (t+1))=d*y (order.getD t 0)*R t (order.getD t 0):=by
 have hol:=h.ol;obtain ⟨y,hy,hE⟩:=st_free h (fun _=>-1);have hm:m∉order.take m:=fun hm=>by
  have:=h.ob m (List.mem_of_mem_take hm);omega
 have hS:Sol W m y:=⟨hy m hm,(st_sol h y).2 (fun i hi=>hE i hi)⟩;have hform:∀ z,Sol W m z->∀ t,t<m->R t m=R t (order.getD t 0)*z (order.getD t 0)+sumL (fun v=>R t v*z v) (order.drop (t+1)):=by
  intro z hz t ht;have h2:=(st_sol h z).1 hz.2 t ht;simp only [dot] at h2;rw [hz.1,Mneg,Mone,<- sumL_range,<- h.os,sumL_split _ order t (by omega)] at h2;obtain ⟨_,_,_,_,_,h0,_⟩:=h.fin t ht;rw [sumL_zero _ (order.take t) (fun j hj=>by rw [h0 j (by rw [List.mem_reverse];exact hj),zeroM]),zeroA] at h2;exact (eq_of_sub h2).symm
 have hpiv:∀ t,t<m->R t (order.getD t 0)≠0:=fun t ht=>by
  obtain ⟨_,_,_,_,_,_,hn⟩:=h.fin t ht;exact hn
 refine ⟨y,hS,?_,fun t ht=>st_cramer hW h hb hB hS t ht,fun t ht=>⟨hpiv t ht,?_⟩⟩
 ·intro z hz;have key:∀ k,k<=m->∀ t,m-k<=t->t<m->z (order.getD t 0)=y (order.getD t 0):=by
   intro k;induction k with
   | zero=>intro _ t h2 h3;omega
   | succ k ih =>
    intro hk t h2 h3;by_cases e:m-k<=t
    ·exact ih (by omega) t e h3
    ·have ea:=hform z hz t h3;have eb:=hform y hS t h3;have hs:sumL (fun v=>R t v*z v) (order.drop (t+1))=sumL (fun v=>R t v*y v) (order.drop (t+1)):=by
      apply sumL_congr;intro j hj;obtain ⟨q,hq,eq⟩:=mem_getD hj;rw [List.length_drop] at hq;rw [List.getD_eq_getElem?_getD,List.getElem?_drop,<- List.getD_eq_getElem?_getD] at eq;rw [<- eq,ih (by omega) (t+1+q) (by omega) (by omega)]
     rw [ea,hs,addC] at eb;rw [addC (R t (order.getD t 0)*y _)] at eb;have e3:=canc eb;have e4:R t (order.getD t 0)*(z (order.getD t 0) + -(y (order.getD t 0)))=0:=by
      rw [dist,Mneg,e3,Aneg]
     exact eq_of_sub (zero_of_mul (hpiv t h3) e4)
  intro j hj;obtain ⟨t,ht,e⟩:=mem_getD (h.om j hj);rw [<- e];exact key m (Nat.le_refl _) t (by omega) (by omega)
 ·have e:=hform y hS t ht;have hs:sumL (fun v=>R t v*(d*y v)) (order.drop (t+1))=d*sumL (fun v=>R t v*y v) (order.drop (t+1)):=by
   rw [<- sumL_mul];apply sumL_congr;intro j _;grind
  rw [hs,e,subE,dist,addA,Aneg,Azero];grind
def WhR (b:Nat) (q:Rat):Prop:=q.den=1/\rN q<=b
theorem whR_int {q:Rat} (h:q.den=1):q=((q.num:Int):Rat):=by
 apply Rat.ext
 ·rfl
 ·rw [h];rfl
theorem whR_of (z:Int) (b:Nat) (h:z.natAbs<=b):WhR b ((z:Int):Rat):=⟨rfl,h⟩
theorem whR_isWh:IsWh WhR where
 zero:=fun b=>⟨rfl,Nat.zero_le _⟩
 one:=fun b h=>⟨rfl,h⟩
 add:=by
  rintro b c x y ⟨h1,h2⟩ ⟨h3,h4⟩;rw [whR_int h1,whR_int h3];have e:((x.num:Int):Rat)+((y.num:Int):Rat)=((x.num+y.num:Int):Rat):=(Rat.intCast_add _ _).symm;show WhR _ (((x.num:Int):Rat)+((y.num:Int):Rat))
  rw [e];refine whR_of _ _ ?_;unfold rN at h2 h4;omega
 mul:=by
  rintro b c x y ⟨h1,h2⟩ ⟨h3,h4⟩;rw [whR_int h1,whR_int h3];have e:((x.num:Int):Rat)*((y.num:Int):Rat)=((x.num*y.num:Int):Rat):=(Rat.intCast_mul _ _).symm;show WhR _ (((x.num:Int):Rat)*((y.num:Int):Rat))
  rw [e];refine whR_of _ _ ?_;rw [Int.natAbs_mul];exact Nat.mul_le_mul h2 h4
 neg:=by
  rintro b x ⟨h1,h2⟩;refine ⟨h1,?_⟩;unfold rN;show (-x).num.natAbs<=b
  rw [Rat.neg_num,Int.natAbs_neg];exact h2
 mono:=fun b c x h h1=>⟨h1.1,Nat.le_trans h1.2 h⟩
def barC (R:Nat->Rat):Nat->Nat
 | 0=>1
 | i+1=>barC R i*(R i*(barC R i:Nat)).den
def barUp (R:Nat->Rat) (i:Nat):Nat->Rat:=fun j=>R j*(barC R i:Nat)
theorem barUp_zero (R:Nat->Rat) (j:Nat):barUp R 0 j=R j:=by
 unfold barUp barC;show R j*((1:Nat):Rat)=R j
 rw [show ((1:Nat):Rat)=1 from rfl,Rat.mul_one]
theorem barUp_succ (R:Nat->Rat) (i j:Nat):barUp R (i+1) j=barUp R i j*(((barUp R i i).den:Nat):Rat):=by
 unfold barUp;show R j*((barC R i*(R i*(barC R i:Nat)).den:Nat):Rat)=_
 rw [Rat.natCast_mul,Rat.mul_assoc]
theorem barC_pos (R:Nat->Rat):∀ i,0<barC R i:=by
 intro i;induction i with
 | zero=>exact Nat.one_pos
 | succ i ih=>exact Nat.mul_pos ih (Rat.den_pos _)
theorem den_mul_nat (x:Rat) (k:Nat):(x*(k:Nat)).den∣x.den:=by
 have e:x*((k:Nat):Rat)=mkRat (x.num*(k:Nat)) x.den:=by
  rw [Rat.mul_def',Rat.num_natCast,Rat.den_natCast,Nat.mul_one]
 rw [e,Rat.den_mkRat,if_neg x.den_nz];exact Nat.div_dvd_of_dvd (Nat.gcd_dvd_left _ _)
theorem den_one_mul {x:Rat} (k:Nat) (h:x.den=1):(x*(k:Nat)).den=1:=by
 have:=den_mul_nat x k;rw [h] at this;exact Nat.dvd_one.1 this
theorem mul_own_den (x:Rat):(x*((x.den:Nat):Rat)).den=1:=by
 have e:x*((x.den:Nat):Rat)=mkRat (x.num*(x.den:Nat)) x.den:=by
  rw [Rat.mul_def',Rat.num_natCast,Rat.den_natCast,Nat.mul_one]
 rw [e,Rat.den_mkRat,if_neg x.den_nz];have hg:Nat.gcd x.den (x.num*(x.den:Nat)).natAbs=x.den:=by
  rw [Int.natAbs_mul,Int.natAbs_natCast];exact Nat.gcd_eq_left (Nat.dvd_mul_left _ _)
 first | (rw [hg];exact Nat.div_self x.den_pos) | (rw [Nat.gcd_comm,hg];exact Nat.div_self x.den_pos)
theorem barUp_whole (R:Nat->Rat):∀ i j,j<i->(barUp R i j).den=1:=by
 intro i;induction i with
 | zero=>intro j h;omega
 | succ i ih =>
  intro j hj;rw [barUp_succ];by_cases e:j=i
  ·rw [e];exact mul_own_den _
  ·exact den_one_mul _ (ih j (by omega))
theorem barUp_den (R:Nat->Rat) (i j:Nat):(barUp R i j).den∣(R j).den:=den_mul_nat _ _
end Go.Proofs.YtkhgaelnglndiaaGreatDoor
