/- Contracts that the proof leans on. -/
import Derived.WalkKit
import Derived.Test.YtfjnoikjhdpghaaGreatDoorXMBase
namespace Go.Proofs.YtfjnoikjhdpghaaGreatDoor
open Go.RowKit
set_option linter.unusedVariables false
set_option linter.unusedSimpArgs false
set_option maxHeartbeats 8000000
set_option maxRecDepth 10000
namespace Nums
theorem sJ (a b c:Rat):a+b+c=a+(b+c):=Rat.add_assoc a b c
theorem ym (a b:Rat):a+b=b+a:=Rat.add_comm a b
theorem mr (a:Rat):0+a=a:=Rat.zero_add a
theorem BB (a:Rat):-a+a=0:=Rat.neg_add_cancel a
theorem subE (a b:Rat):a-b=a + -b:=Rat.sub_eq_add_neg a b
theorem mulA (a b c:Rat):a*b*c=a*(b*c):=Rat.mul_assoc a b c
theorem mI (a b:Rat):a*b=b*a:=Rat.mul_comm a b
theorem kQ (a:Rat):1*a=a:=Rat.one_mul a
theorem lO (a b c:Rat):a*(b+c)=a*b+a*c:=Rat.mul_add a b c
theorem divM (a b:Rat) (h:b≠0):a / b*b=a:=Rat.div_mul_cancel h
theorem oneN:(1:Rat)≠0:=by decide
theorem cF (a:Rat):a+0=a:=by rw [ym,mr]
theorem oq (a:Rat):a + -a=0:=by rw [ym,BB]
theorem rF (a:Rat):a*1=a:=by rw [mI,kQ]
theorem qM (a b c:Rat):(a+b)*c=a*c+b*c:=by rw [mI,lO,mI c a,mI c b]
theorem canc {a b c:Rat} (h:a+b=a+c):b=c:=by
 have:-a+(a+b) = -a+(a+c):=by rw [h]
 rw [<- sJ,<- sJ,BB,mr,mr] at this;exact this
theorem dU (a:Rat):a*0=0:=by
 apply canc (a:=a*0);rw [<- lO,cF,cF]
theorem jz (a:Rat):0*a=0:=by rw [mI,dU]
theorem ir {a b:Rat} (h:a+b=0):b = -a:=by
 apply canc (a:=a);rw [h,oq]
theorem pk (a b:Rat):-a*b = -(a*b):=by
 apply ir;rw [<- qM,oq,jz]
theorem oz (a b:Rat):a * -b = -(a*b):=by rw [mI,pk,mI]
theorem jW (a:Rat):-(-a)=a:=(ir (BB a)).symm
theorem wk (a b:Rat):-(a+b) = -a + -b:=by
 apply Eq.symm;apply ir
 calc a+b+(-a + -b)=(a + -a)+(b + -b):=by grind
  _=0:=by rw [oq,oq,cF]
theorem je:-(0:Rat)=0:=(ir (cF 0)).symm
theorem kv {a b:Rat} (h:a + -b=0):a=b:=by
 have:=ir h;have h2:-(-b) = -(-a):=by rw [this]
 rw [jW,jW] at h2;exact h2.symm
theorem iJ {b:Rat} (h:b≠0):1 / b*b=1:=divM 1 b h
theorem AO (a:Rat) {b:Rat} (h:b≠0):a / b=a*(1 / b):=by
 calc a / b=a / b*(1 / b*b):=by rw [iJ h,rF]
  _=(a / b*b)*(1 / b):=by grind
  _=a*(1 / b):=by rw [divM a b h]
theorem div_of {a b c:Rat} (h:b≠0) (e:c*b=a):a / b=c:=by
 rw [AO a h,<- e,mulA,mI b,iJ h,rF]
theorem vk {b:Rat} (h:b≠0):0 / b=0:=div_of h (jz b)
theorem ph {a b:Rat} (ha:a≠0) (hb:b≠0):a*b≠0:=by
 intro h;apply hb
 calc b=1 / a*a*b:=by rw [iJ ha,kQ]
  _=1 / a*(a*b):=by rw [mulA]
  _=0:=by rw [h,dU]
theorem ik {a b:Rat} (ha:a≠0) (h:a*b=0):b=0:=by
 apply Classical.byContradiction;intro hb;exact ph ha hb h
theorem BD {a:Rat} (h:a≠0):-a≠0:=by
 intro e;apply h;rw [<- jW a,e,je]
end Nums
open Nums
def fZ (v:Nat->Rat):(List Nat->Rat)->List Nat->Rat
 | _,[]=>0
 | f,a :: l=>v a*f l + -(fZ v (fun l'=>f (a :: l')) l)
theorem nU (u:Nat->Rat) (c:Rat):∀ (l:List Nat) (g h:List Nat->Rat),
  fZ u (fun l'=>c*g l'+h l') l=c*fZ u g l+fZ u h l:=by
 intro l;induction l with
 | nil=>intro g h;simp only [fZ];rw [dU,cF]
 | cons a l ih =>
  intro g h;simp only [fZ];rw [ih (fun l'=>g (a :: l')) (fun l'=>h (a :: l'))];simp only [lO,wk,oz];grind
theorem tJ (u:Nat->Rat):∀ (l:List Nat),fZ u (fun _=>0) l=0:=by
 intro l;induction l with
 | nil=>rfl
 | cons a l ih=>simp only [fZ];rw [ih,dU,je,cF]
theorem lT (u:Nat->Rat) (h:List Nat->Rat) (l:List Nat):fZ u (fun l'=>-(h l')) l = -(fZ u h l):=by
 have:=nU u (-1) l h (fun _=>0);rw [tJ,cF,pk,kQ] at this;rw [<- this];congr 1
 funext l'
 rw [pk,kQ,cF]
theorem lap_alt (v:Nat->Rat):∀ (l:List Nat) (f:List Nat->Rat),fZ v (fZ v f) l=0:=by
 intro l;induction l with
 | nil=>intro f;rfl
 | cons a l ih =>
  intro f;show v a*fZ v f l + -(fZ v (fun l'=>v a*f l' + -(fZ v (fun l''=>f (a :: l'')) l')) l)=0
  rw [nU v (v a) l f (fun l'=>-(fZ v (fun l''=>f (a :: l'')) l')),lT,ih,je,cF,oq]
theorem Bo (u v:Nat->Rat):∀ (l:List Nat) (f:List Nat->Rat),fZ u (fZ v f) l = -(fZ v (fZ u f) l):=by
 intro l;induction l with
 | nil=>intro f;exact je.symm
 | cons a l ih =>
  intro f;show u a*fZ v f l + -(fZ u (fun l'=>v a*f l' + -(fZ v (fun l''=>f (a :: l'')) l')) l)
   = -(v a*fZ u f l + -(fZ v (fun l'=>u a*f l' + -(fZ u (fun l''=>f (a :: l'')) l')) l))
  rw [nU u (v a) l f (fun l'=>-(fZ v (fun l''=>f (a :: l'')) l')),lT,ih,
   nU v (u a) l f (fun l'=>-(fZ u (fun l''=>f (a :: l'')) l')),lT]
  simp only [wk,jW];grind
def gB (W:Nat->Nat->Rat):List Nat->List Nat->Rat
 | [],_=>1
 | j :: γ,l=>fZ (fun r=>W r j) (gB W γ) l
theorem tm (W:Nat->Nat->Rat) (c j:Nat) (γ2:List Nat):∀ (γ1 l:List Nat),gB W (γ1++c :: j :: γ2) l = -(gB W (γ1++j :: c :: γ2) l):=by
 intro γ1;induction γ1 with
 | nil=>intro l;exact Bo _ _ l _
 | cons g γ1 ih =>
  intro l;have:gB W (γ1++c :: j :: γ2)=fun l=>-(gB W (γ1++j :: c :: γ2) l):=funext ih
  simp only [List.cons_append,gB];rw [this,lT]
theorem rO (W:Nat->Nat->Rat) (j:Nat):∀ (γ:List Nat),j∈γ->∀ l,gB W (j :: γ) l=0:=by
 intro γ;induction γ with
 | nil=>intro h;simp at h
 | cons c γ ih =>
  intro h l;by_cases hc:j=c
  ·subst hc;exact lap_alt _ l _
  ·have hm:j∈γ:=by simpa [hc] using h
   have:=tm W j c γ [] l;simp only [List.nil_append] at this;rw [this];have h0:gB W (j :: γ)=fun _=>0:=funext (ih hm)
   simp only [gB] at h0 ⊢;rw [h0,tJ,je]
theorem yI (W:Nat->Nat->Rat) (j:Nat) (γ2:List Nat):∀ (γ1 l:List Nat),
  gB W (γ1++j :: γ2) l=gB W (j :: (γ1++γ2)) l∨gB W (γ1++j :: γ2) l = -(gB W (j :: (γ1++γ2)) l):=by
 have key:∀ γ1:List Nat,(∀ l,gB W (γ1++j :: γ2) l=gB W (j :: (γ1++γ2)) l)∨(∀ l,gB W (γ1++j :: γ2) l = -(gB W (j :: (γ1++γ2)) l)):=by
  intro γ1;induction γ1 with
  | nil=>exact .inl fun _=>rfl
  | cons c γ1 ih =>
   have hs:∀ l,gB W (j :: c :: (γ1++γ2)) l = -(gB W (c :: j :: (γ1++γ2)) l):=fun l=>by
    have:=tm W j c (γ1++γ2) [] l;simpa only [List.nil_append] using this
   rcases ih with ih | ih
   ·right
    intro l;have e:gB W (γ1++j :: γ2)=gB W (j :: (γ1++γ2)):=funext ih;show fZ _ (gB W (γ1++j :: γ2)) l=_
    rw [e];show gB W (c :: j :: (γ1++γ2)) l = -(gB W (j :: c :: (γ1++γ2)) l)
    rw [hs,jW]
   ·left
    intro l;have e:gB W (γ1++j :: γ2)=fun l=>-(gB W (j :: (γ1++γ2)) l):=funext ih
    show fZ _ (gB W (γ1++j :: γ2)) l=_
    rw [e,lT];show -(gB W (c :: j :: (γ1++γ2)) l)=gB W (j :: c :: (γ1++γ2)) l
    rw [hs]
 intro γ1 l;rcases key γ1 with h | h
 ·exact .inl (h l)
 ·exact .inr (h l)
structure sI (Wh:Nat->Rat->Prop):Prop where
 zero:∀ b,Wh b 0
 one:∀ b,1<=b->Wh b 1
 add:∀ b c x y,Wh b x->Wh c y->Wh (b+c) (x+y)
 mul:∀ b c x y,Wh b x->Wh c y->Wh (b*c) (x*y)
 neg:∀ b x,Wh b x->Wh b (-x)
 mono:∀ b c x,b<=c->Wh b x->Wh c x
theorem lap_wh {Wh:Nat->Rat->Prop} (hW:sI Wh) (v:Nat->Rat) (K:Nat):∀ (l:List Nat) (f:List Nat->Rat),
  (∀ p a q,l=p++a :: q->Wh K (v a*f (p++q)))->Wh (l.length*K) (fZ v f l):=by
 intro l;induction l with
 | nil=>intro f _;exact hW.zero _
 | cons a l ih =>
  intro f hf;have h1:=ih (fun l'=>f (a :: l')) (fun p b q e=>hf (a :: p) b q (by rw [e];rfl));have h2:Wh K (v a*f l):=hf [] a l rfl;have:=hW.add _ _ _ _ h2 (hW.neg _ _ h1);refine hW.mono _ _ _ ?_ this;rw [List.length_cons,Nat.add_mul,Nat.one_mul,Nat.add_comm];exact Nat.le_refl _
def bn (b:Nat->Nat):List Nat->Nat
 | []=>1
 | a :: l=>b a*bn b l
theorem iP (b:Nat->Nat):∀ l l':List Nat,bn b (l++l')=bn b l*bn b l':=by
 intro l l';induction l with
 | nil=>simp [bn]
 | cons a l ih=>simp only [List.cons_append,bn];rw [ih,Nat.mul_assoc]
theorem mM (b:Nat->Nat) (hb:∀ r,1<=b r):∀ l:List Nat,1<=bn b l:=by
 intro l;induction l with
 | nil=>exact Nat.le_refl _
 | cons a l ih=>exact Nat.mul_pos (hb a) ih
theorem vH {Wh:Nat->Rat->Prop} (hW:sI Wh) (W:Nat->Nat->Rat) (b:Nat->Nat) (hb:∀ r,1<=b r) (hB:∀ r j,Wh (b r) (W r j)) (N:Nat) (hN:0<N):∀ (γ l:List Nat),
  l.length<=N->Wh (bn (fun r=>N*b r) l) (gB W γ l):=by
 have hpos:∀ r,1<=N*b r:=fun r=>Nat.mul_pos hN (hb r)
 intro γ;induction γ with
 | nil=>intro l _;exact hW.one _ (mM _ hpos l)
 | cons j γ ih =>
  intro l hl;have:=lap_wh hW (fun r=>W r j) (bn (fun r=>N*b r) l / N) l (gB W γ) (by
   intro p a q e;have h1:=hW.mul _ _ _ _ (hB a j) (ih (p++q) (by rw [e] at hl;simp at hl ⊢;omega));refine hW.mono _ _ _ ?_ h1;have e2:bn (fun r=>N*b r) l=N*(b a*bn (fun r=>N*b r) (p++q)):=by
    rw [e,iP,iP];simp only [bn];grind
   rw [e2,Nat.mul_div_cancel_left _ hN];exact Nat.le_refl _)
  refine hW.mono _ _ _ ?_ this;exact Nat.le_trans (Nat.mul_le_mul hl (Nat.le_refl _)) (Nat.mul_div_le _ _)
def fh (W:Nat->Nat->Rat):List Nat->(Nat->Rat)->Prop
 | [],R=>∀ j,R j=0
 | r :: ρ,R=>∃ c S,fh W ρ S/\∀ j,R j=c*W r j+S j
theorem pM (W:Nat->Nat->Rat) {ρ:List Nat} {R R':Nat->Rat} (h:∀ j,R j=R' j) (hR:fh W ρ R):fh W ρ R':=by
 have:R=R':=funext h;rw [<- this];exact hR
theorem pO (W:Nat->Nat->Rat) (a b:Rat):∀ (ρ:List Nat) (R R':Nat->Rat),fh W ρ R->fh W ρ R'->fh W ρ (fun j=>a*R j+b*R' j):=by
 intro ρ;induction ρ with
 | nil=>intro R R' h h' j;simp only [];rw [h j,h' j,dU,dU,cF]
 | cons r ρ ih =>
  rintro R R' ⟨c,S,hS,e⟩ ⟨c',S',hS',e'⟩;refine ⟨a*c+b*c',_,ih S S' hS hS',fun j=>?_⟩;simp only [];rw [e j,e' j];simp only [lO,qM];grind
theorem rm (W:Nat->Nat->Rat):∀ (ρ:List Nat),fh W ρ (fun _=>0):=by
 intro ρ;induction ρ with
 | nil=>intro j;rfl
 | cons r ρ ih=>exact ⟨0,_,ih,fun j=>by simp only [];rw [jz,cF]⟩
theorem l9 (W:Nat->Nat->Rat) (a:Rat) {ρ:List Nat} {R:Nat->Rat} (h:fh W ρ R):fh W ρ (fun j=>a*R j) :=
 pM W (fun j=>by rw [dU,cF]) (pO W a 0 ρ R (fun _=>0) h (rm W ρ))
theorem uD (W:Nat->Nat->Rat) {ρ:List Nat} {R R':Nat->Rat} (h:fh W ρ R) (h':fh W ρ R'):fh W ρ (fun j=>R j+R' j) :=
 pM W (fun j=>by rw [kQ,kQ]) (pO W 1 1 ρ R R' h h')
theorem zQ (W:Nat->Nat->Rat) (r:Nat) {ρ:List Nat} {R:Nat->Rat} (h:fh W ρ R):fh W (r :: ρ) R :=
 ⟨0,R,h,fun j=>by rw [jz,mr]⟩
theorem Cl (W:Nat->Nat->Rat) (r:Nat) (ρ:List Nat) (c:Rat) {S:Nat->Rat} (h:fh W ρ S):fh W (r :: ρ) (fun j=>c*W r j+S j) :=
 ⟨c,S,h,fun _=>rfl⟩
theorem Ck (W:Nat->Nat->Rat):∀ (ρ:List Nat) (f:List Nat->Rat),fh W ρ (fun j=>fZ (fun r=>W r j) f ρ):=by
 intro ρ;induction ρ with
 | nil=>intro f j;rfl
 | cons a ρ ih =>
  intro f;refine ⟨f ρ,_,l9 W (-1) (ih (fun l'=>f (a :: l'))),fun j=>?_⟩;simp only [fZ];rw [pk,kQ,mI]
def Ind (W:Nat->Nat->Rat) (ρ γ:List Nat):Prop:=∀ S,fh W ρ S->(∀ c∈γ,S c=0)->∀ j,S j=0
theorem ind_nil (W:Nat->Nat->Rat):Ind W [] []:=fun _ h _ j=>h j
theorem xU (W:Nat->Nat->Rat) {ρ γ:List Nat} {d s:Rat} {R S:Nat->Rat} {i:Nat} (hI:Ind W ρ γ) (hd:d=s*gB W γ ρ)
  (hR:∀ j,R j=d*W i j+S j) (hS:fh W ρ S) (h0:∀ c∈γ,R c=0):∀ j,R j=s*gB W (j :: γ) (i :: ρ):=by
 intro j;have hD:∀ j,s*gB W (j :: γ) (i :: ρ)=d*W i j + -(s*fZ (fun r=>W r j) (fun l'=>gB W γ (i :: l')) ρ):=by
  intro j;show s*(W i j*gB W γ ρ + -(fZ (fun r=>W r j) (fun l'=>gB W γ (i :: l')) ρ))=_
  rw [lO,oz,hd];congr 1
  grind
 have hT:=hI (fun j=>S j+s*fZ (fun r=>W r j) (fun l'=>gB W γ (i :: l')) ρ) (uD W hS (l9 W s (Ck W ρ _))) (by
  intro c hc;have h1:=h0 c hc;rw [hR c] at h1;have h2:=hD c;rw [rO W c γ hc,dU] at h2;have h3:=ir h1;have h4:s*fZ (fun r=>W r c) (fun l'=>gB W γ (i :: l')) ρ=d*W i c:=(kv h2.symm).symm;rw [h3,h4,BB]) j
 rw [hR j,hD j];congr 1
 rw [ym] at hT;exact ir hT
theorem Bj (W:Nat->Nat->Rat) {ρ γ:List Nat} {d:Rat} {R S:Nat->Rat} {i c:Nat} (hI:Ind W ρ γ) (hd:d≠0)
  (hR:∀ j,R j=d*W i j+S j) (hS:fh W ρ S) (h0:∀ c∈γ,R c=0) (hc:R c≠0):Ind W (i :: ρ) (c :: γ):=by
 rintro S2 ⟨e,S3,hS3,hE⟩ hz;have hk:∀ j,S2 j=e*(1 / d)*R j:=by
  intro j;have hT:=hI (fun j=>S3 j + -(e*(1 / d))*S j) (uD W hS3 (l9 W _ hS)) (by
   intro g hg;have h1:=hz g (List.mem_cons_of_mem _ hg);have h2:=h0 g hg;rw [hE g] at h1;rw [hR g] at h2;have h3:=ir h1;have h4:=ir h2;rw [h3,h4,pk,oz,jW];have:e*(1 / d)*(d*W i g)=e*W i g:=by
    calc e*(1 / d)*(d*W i g)=e*(1 / d*d)*W i g:=by grind
     _=e*W i g:=by rw [iJ hd,rF]
   rw [this,BB]) j
  rw [ym] at hT;have h5:=ir hT;rw [pk,jW] at h5;rw [hE j,hR j,lO,h5];congr 1
  calc e*W i j=e*(1 / d*d)*W i j:=by rw [iJ hd,rF]
   _=e*(1 / d)*(d*W i j):=by grind
 have hz0:e*(1 / d)=0:=by
  have h1:=hz c (List.mem_cons_self ..);rw [hk c,mI] at h1;exact ik hc h1
 intro j;rw [hk j,hz0,jz]
theorem Cb (W:Nat->Nat->Rat) {ρ:List Nat} {d p:Rat} {R S R' S':Nat->Rat} {i i':Nat} {e:Rat} (l:Rat) (hd:d≠0)
  (hR:∀ j,R j=e*W i j+S j) (hS:fh W ρ S) (hR':∀ j,R' j=d*W i' j+S' j) (hS':fh W ρ S') :
  ∃ T,fh W (i :: ρ) T/\∀ j,(p*R' j-l*R j) / d=p*W i' j+T j:=by
 have hA:=Cl W i ρ e hS;have hB:=pO W (p*(1 / d)) (-(l*(1 / d))) (i :: ρ) S' (fun j=>e*W i j+S j) (zQ W i hS') hA;refine ⟨_,hB,fun j=>?_⟩;rw [AO _ hd,subE,hR' j,<- hR j,qM,pk,pk,lO,qM];have h1:p*(d*W i' j)*(1 / d)=p*W i' j:=by
  calc p*(d*W i' j)*(1 / d)=p*(1 / d*d)*W i' j:=by grind
   _=p*W i' j:=by rw [iJ hd,rF]
 have h2:p*S' j*(1 / d)=p*(1 / d)*S' j:=by grind
 have h3:l*R j*(1 / d)=l*(1 / d)*R j:=by grind
 rw [h1,h2,h3,sJ]
def cZ:Nat->(Nat->Rat)->(Nat->Rat)->Rat
 | 0,_,_=>0
 | n+1,x,R=>cZ n x R+R n*x n
theorem dot_lin (x:Nat->Rat) (a b:Rat) (R R':Nat->Rat):∀ n,cZ n x (fun j=>a*R j+b*R' j)=a*cZ n x R+b*cZ n x R':=by
 intro n;induction n with
 | zero=>simp only [cZ];rw [dU,dU,cF]
 | succ n ih=>simp only [cZ];rw [ih];simp only [lO,qM];grind
theorem yL (x x' R R':Nat->Rat):∀ n,(∀ j,j<n->R j*x j=R' j*x' j)->cZ n x R=cZ n x' R':=by
 intro n;induction n with
 | zero=>intro _;rfl
 | succ n ih=>intro h;simp only [cZ];rw [ih (fun j hj=>h j (by omega)),h n (by omega)]
theorem oQ (x R:Nat->Rat):∀ n,(∀ j,j<n->R j*x j=0)->cZ n x R=0:=by
 intro n;induction n with
 | zero=>intro _;rfl
 | succ n ih=>intro h;simp only [cZ];rw [ih (fun j hj=>h j (by omega)),h n (by omega),cF]
theorem lQ (x:Nat->Rat) (c:Rat) (R S:Nat->Rat) (n:Nat):cZ n x (fun j=>c*R j+S j)=c*cZ n x R+cZ n x S:=by
 have:=dot_lin x c 1 R S n;rw [kQ] at this;rw [<- this];congr 1
 funext j
 rw [kQ]
theorem pN (W:Nat->Nat->Rat) (n:Nat) (x:Nat->Rat):∀ (ρ:List Nat) (S:Nat->Rat),fh W ρ S->(∀ r∈ρ,cZ n x (W r)=0)->cZ n x S=0:=by
 intro ρ;induction ρ with
 | nil =>
  intro S h _;exact oQ x S n (fun j _=>by rw [h j,jz])
 | cons r ρ ih =>
  rintro S ⟨c,S',hS',e⟩ h;have:S=fun j=>c*W r j+S' j:=funext e
  rw [this,lQ,h r (List.mem_cons_self ..),ih S' hS' (fun q hq=>h q (List.mem_cons_of_mem _ hq)),dU,cF]
open Nums
def cE (f:Nat->Rat):List Nat->Rat
 | []=>0
 | a :: l=>f a+cE f l
theorem uL (f:Nat->Rat):∀ l l':List Nat,cE f (l++l')=cE f l+cE f l':=by
 intro l l';induction l with
 | nil=>exact (mr _).symm
 | cons a l ih=>simp only [List.cons_append,cE];rw [ih,sJ]
theorem mR (f:Nat->Rat):∀ l:List Nat,(∀ j∈l,f j=0)->cE f l=0:=by
 intro l;induction l with
 | nil=>intro _;rfl
 | cons a l ih=>intro h;simp only [cE];rw [h a (List.mem_cons_self ..),ih (fun j hj=>h j (List.mem_cons_of_mem _ hj)),cF]
theorem pS (f g:Nat->Rat):∀ l:List Nat,(∀ j∈l,f j=g j)->cE f l=cE g l:=by
 intro l;induction l with
 | nil=>intro _;rfl
 | cons a l ih=>intro h;simp only [cE];rw [h a (List.mem_cons_self ..),ih (fun j hj=>h j (List.mem_cons_of_mem _ hj))]
theorem Co (c:Rat) (f:Nat->Rat):∀ l:List Nat,cE (fun j=>c*f j) l=c*cE f l:=by
 intro l;induction l with
 | nil=>exact (dU c).symm
 | cons a l ih=>simp only [cE];rw [ih,lO]
theorem pT (x R:Nat->Rat):∀ n,cE (fun j=>R j*x j) (List.range n)=cZ n x R:=by
 intro n;induction n with
 | zero=>rfl
 | succ n ih=>rw [List.range_succ,uL,ih];simp only [cE,cZ];rw [cF]
theorem uM (f:Nat->Rat) (v:Nat):∀ (l:List Nat) (i:Nat),i<l.length->cE f (l.set i v)+f (l.getD i 0)=cE f l+f v:=by
 intro l;induction l with
 | nil=>intro i h;simp at h
 | cons a l ih =>
  intro i h;cases i with
  | zero=>simp only [List.set_cons_zero,cE,List.getD_cons_zero];grind
  | succ i =>
   simp only [List.set_cons_succ,cE,List.getD_cons_succ];have:=ih i (by simpa using h);rw [sJ,this,sJ]
theorem qZ (f:Nat->Nat) (v:Nat):∀ (l:List Nat) (i:Nat),i<l.length->bn f (l.set i v)*f (l.getD i 0)=bn f l*f v:=by
 intro l;induction l with
 | nil=>intro i h;simp at h
 | cons a l ih =>
  intro i h;cases i with
  | zero=>simp only [List.set_cons_zero,bn,List.getD_cons_zero];grind
  | succ i =>
   simp only [List.set_cons_succ,bn,List.getD_cons_succ];have:=ih i (by simpa using h);rw [Nat.mul_assoc,this,Nat.mul_assoc]
def gT (l:List Nat) (i j:Nat):List Nat:=(l.set i (l.getD j 0)).set j (l.getD i 0)
def bX (a b i:Nat):Nat:=if i=b then a else if i=a then b else i
theorem kJ (l:List Nat) (i j:Nat):(gT l i j).length=l.length:=by simp [gT]
theorem dq (l:List Nat) (a b i:Nat) (ha:a<l.length) (hb:b<l.length):(gT l a b).getD i 0=l.getD (bX a b i) 0:=by
 unfold gT bX;simp only [List.getD_eq_getElem?_getD,List.getElem?_set,List.length_set];by_cases h1:b=i
 ·subst h1;simp [hb]
 ·have h1':i≠b:=fun e=>h1 e.symm
  by_cases h2:a=i
  ·subst h2;simp [h1,h1',ha]
  ·have h2':i≠a:=fun e=>h2 e.symm
   simp [h1,h1',h2,h2']
theorem eZ {a b i m:Nat} (ha:a<m) (hb:b<m) (hi:i<m):bX a b i<m:=by
 unfold bX;split
 ·exact ha
 ·split<;>assumption
theorem Cr {a b i k:Nat} (ha:k<=a) (hb:k<=b) (hi:k<=i):k<=bX a b i:=by
 unfold bX;split
 ·exact ha
 ·split<;>assumption
theorem mS {a b i k:Nat} (ha:k<=a) (hb:k<=b) (hi:i<k):bX a b i=i:=by
 unfold bX;rw [if_neg (by omega),if_neg (by omega)]
theorem gS (a b i:Nat):bX a b (bX a b i)=i:=by
 unfold bX;by_cases h1:i=b
 ·subst h1;by_cases h2:a=i
  ·subst h2;simp
  ·simp [h2]
 ·by_cases h2:i=a
  ·subst h2;simp [h1]
  ·simp [h1,h2]
theorem dj (l:List Nat) (i:Nat) (h:i<l.length):l.getD i 0∈l:=by
 rw [List.getD_eq_getElem?_getD,List.getElem?_eq_getElem h];exact List.getElem_mem h
theorem eX {l:List Nat} {v:Nat} (h:v∈l):∃ i,i<l.length/\l.getD i 0=v:=by
 obtain ⟨i,hi,e⟩:=List.mem_iff_getElem.1 h;exact ⟨i,hi,by rw [List.getD_eq_getElem?_getD,List.getElem?_eq_getElem hi];exact e⟩
theorem kK (l:List Nat) (a b v:Nat) (ha:a<l.length) (hb:b<l.length):v∈gT l a b↔v∈l:=by
 constructor
 ·intro h;obtain ⟨i,hi,e⟩:=eX h;rw [dq l a b i ha hb] at e;rw [kJ] at hi;rw [<- e];exact dj l _ (eZ ha hb hi)
 ·intro h;obtain ⟨i,hi,e⟩:=eX h;have h2:=dj (gT l a b) (bX a b i) (by rw [kJ];exact eZ ha hb hi);rw [dq l a b _ ha hb,gS,e] at h2;exact h2
theorem Ab (f:Nat->Rat) (l:List Nat) (a b:Nat) (ha:a<l.length) (hb:b<l.length):cE f (gT l a b)=cE f l:=by
 have h1:=uM f (l.getD b 0) l a ha;have h2:=uM f (l.getD a 0) (l.set a (l.getD b 0)) b (by simpa using hb);have h3:(l.set a (l.getD b 0)).getD b 0=l.getD b 0:=by
  by_cases h:a=b
  ·subst h;rw [List.getD_eq_getElem?_getD,List.getElem?_set];simp [ha]
  ·rw [List.getD_eq_getElem?_getD,List.getElem?_set,if_neg h,<- List.getD_eq_getElem?_getD]
 rw [h3] at h2;show cE f ((l.set a (l.getD b 0)).set b (l.getD a 0))=_
 apply canc (a:=f (l.getD b 0)+f (l.getD a 0))
 calc f (l.getD b 0)+f (l.getD a 0)+cE f ((l.set a (l.getD b 0)).set b (l.getD a 0))
   = (cE f ((l.set a (l.getD b 0)).set b (l.getD a 0))+f (l.getD b 0))+f (l.getD a 0):=by grind
  _=(cE f (l.set a (l.getD b 0))+f (l.getD a 0))+f (l.getD a 0):=by rw [h2]
  _=(cE f l+f (l.getD b 0))+f (l.getD a 0):=by rw [h1]
  _=f (l.getD b 0)+f (l.getD a 0)+cE f l:=by grind
theorem wR (f:Nat->Nat) (hf:∀ r,1<=f r) (l:List Nat) (a b:Nat) (ha:a<l.length) (hb:b<l.length):bn f (gT l a b)=bn f l:=by
 have h1:=qZ f (l.getD b 0) l a ha;have h2:=qZ f (l.getD a 0) (l.set a (l.getD b 0)) b (by simpa using hb);have h3:(l.set a (l.getD b 0)).getD b 0=l.getD b 0:=by
  by_cases h:a=b
  ·subst h;rw [List.getD_eq_getElem?_getD,List.getElem?_set];simp [ha]
  ·rw [List.getD_eq_getElem?_getD,List.getElem?_set,if_neg h,<- List.getD_eq_getElem?_getD]
 rw [h3] at h2;show bn f ((l.set a (l.getD b 0)).set b (l.getD a 0))=_
 have hp:0<f (l.getD b 0)*f (l.getD a 0):=Nat.mul_pos (hf _) (hf _);apply Nat.eq_of_mul_eq_mul_left hp
 calc f (l.getD b 0)*f (l.getD a 0)*bn f ((l.set a (l.getD b 0)).set b (l.getD a 0))
   = (bn f ((l.set a (l.getD b 0)).set b (l.getD a 0))*f (l.getD b 0))*f (l.getD a 0):=by grind
  _=(bn f (l.set a (l.getD b 0))*f (l.getD a 0))*f (l.getD a 0):=by rw [h2]
  _=(bn f l*f (l.getD b 0))*f (l.getD a 0):=by rw [h1]
  _=f (l.getD b 0)*f (l.getD a 0)*bn f l:=by grind
theorem dL (l:List Nat) (a b k:Nat) (ha:k<=a) (hb:k<=b):(gT l a b).take k=l.take k:=by
 unfold gT;rw [List.take_set_of_le (by omega),List.take_set_of_le (by omega)]
theorem dr (l:List Nat) (k:Nat) (h:k<l.length):(l.take (k+1)).reverse=l.getD k 0 :: (l.take k).reverse:=by
 rw [List.take_add_one,List.getElem?_eq_getElem h,List.getD_eq_getElem?_getD,List.getElem?_eq_getElem h];simp
def Left (W:Nat->Nat->Rat) (ρ γ:List Nat) (d:Rat) (i:Nat) (R:Nat->Rat):Prop :=
 ∃ S,fh W ρ S/\(∀ j,R j=d*W i j+S j)/\∀ c∈γ,R c=0
def DoneR (W:Nat->Nat->Rat) (ρ γ:List Nat) (c i:Nat) (R:Nat->Rat):Prop :=
 ∃ e S,e≠0/\fh W ρ S/\(∀ j,R j=e*W i j+S j)/\(∀ c∈γ,R c=0)/\R c≠0
structure St (W:Nat->Nat->Rat) (m done:Nat) (perm order:List Nat) (R:Nat->Nat->Rat) (d s:Rat):Prop where
 pl:perm.length=m
 pm:∀ r,r<m->r∈perm
 pb:∀ r∈perm,r<m
 pp:∀ c:Nat->Nat,(∀ r,1<=c r)->bn c perm=bn c (List.range m)
 ol:order.length=m
 om:∀ j,j<m->j∈order
 ob:∀ j∈order,j<m
 oi:∀ i k,i<m->k<m->order.getD i 0=order.getD k 0->i=k
 os:∀ f:Nat->Rat,cE f order=cE f (List.range m)
 le:done<=m
 ind:Ind W (perm.take done).reverse (order.take done).reverse
 dn:d≠0
 dd:d=s*gB W (order.take done).reverse (perm.take done).reverse
 sg:s=1∨s = -1
 todo:∀ i,done<=i->i<m->Left W (perm.take done).reverse (order.take done).reverse d (perm.getD i 0) (R i)
 fin:∀ t,t<done->DoneR W (perm.take t).reverse (order.take t).reverse (order.getD t 0) (perm.getD t 0) (R t)
theorem jj (m i:Nat) (h:i<m):(List.range m).getD i 0=i:=by
 rw [List.getD_eq_getElem?_getD,List.getElem?_range h];rfl
theorem uH (W:Nat->Nat->Rat) (m:Nat):St W m 0 (List.range m) (List.range m) W 1 1 where
 pl:=List.length_range
 pm:=fun r h=>List.mem_range.2 h
 pb:=fun r h=>List.mem_range.1 h
 pp:=fun _ _=>rfl
 ol:=List.length_range
 om:=fun r h=>List.mem_range.2 h
 ob:=fun r h=>List.mem_range.1 h
 oi:=fun i k hi hk e=>by rw [jj m i hi,jj m k hk] at e;exact e
 os:=fun _=>rfl
 le:=Nat.zero_le _
 ind:=by simpa using ind_nil W
 dn:=oneN
 dd:=by simp only [List.take_zero,List.reverse_nil,gB];rw [kQ]
 sg:=.inl rfl
 todo:=fun i _ h=>⟨fun _=>0,rm W _,fun j=>by rw [jj m i h,kQ,cF],by simp⟩
 fin:=fun t h=>by omega
theorem xY {W:Nat->Nat->Rat} {m done:Nat} {perm order:List Nat} {R:Nat->Nat->Rat} {d s:Rat} (h:St W m done perm order R d s)
  {a b:Nat} (hd:done<m) (ha:done<=a) (ha2:a<m) (hb:done<=b) (hb2:b<m) :
  St W m done (gT perm done a) (gT order done b) (fun i=>R (bX done a i)) d s:=by
 have hp1:done<perm.length:=by rw [h.pl];exact hd
 have hp2:a<perm.length:=by rw [h.pl];exact ha2
 have ho1:done<order.length:=by rw [h.ol];exact hd
 have ho2:b<order.length:=by rw [h.ol];exact hb2
 constructor
 ·rw [kJ];exact h.pl
 ·intro r hr;exact (kK perm done a r hp1 hp2).2 (h.pm r hr)
 ·intro r hr;exact h.pb r ((kK perm done a r hp1 hp2).1 hr)
 ·intro c hc;rw [wR c hc perm done a hp1 hp2];exact h.pp c hc
 ·rw [kJ];exact h.ol
 ·intro r hr;exact (kK order done b r ho1 ho2).2 (h.om r hr)
 ·intro r hr;exact h.ob r ((kK order done b r ho1 ho2).1 hr)
 ·intro i k hi hk e;rw [dq _ _ _ _ ho1 ho2,dq _ _ _ _ ho1 ho2] at e;have h1:=h.oi _ _ (eZ hd hb2 hi) (eZ hd hb2 hk) e;rw [<- gS done b i,h1,gS]
 ·intro f;rw [Ab f order done b ho1 ho2];exact h.os f
 ·exact h.le
 ·rw [dL _ _ _ _ (Nat.le_refl _) ha,dL _ _ _ _ (Nat.le_refl _) hb];exact h.ind
 ·exact h.dn
 ·rw [dL _ _ _ _ (Nat.le_refl _) ha,dL _ _ _ _ (Nat.le_refl _) hb];exact h.dd
 ·exact h.sg
 ·intro i hi hi2;rw [dL _ _ _ _ (Nat.le_refl _) ha,dL _ _ _ _ (Nat.le_refl _) hb,dq _ _ _ _ hp1 hp2];exact h.todo _ (Cr (Nat.le_refl _) ha hi) (eZ hd ha2 hi2)
 ·intro t ht;rw [dL _ _ _ _ (by omega) (by omega),dL _ _ _ _ (by omega) (by omega),dq _ _ _ _ hp1 hp2,dq _ _ _ _ ho1 ho2,
   mS (Nat.le_refl _) ha ht,mS (Nat.le_refl _) hb ht]
  exact h.fin t ht
theorem st_step {W:Nat->Nat->Rat} {m done:Nat} {perm order:List Nat} {R R':Nat->Nat->Rat} {d s u p:Rat} (h:St W m done perm order R d s)
  (hd:done<m) (hu:u=1∨u = -1) (hlow:∀ t,t<done->∀ j,R' t j=R t j)
  (hpiv:∀ j,R' done j=u*R done j) (hp:p=R' done (order.getD done 0)) (hn:p≠0)
  (hrest:∀ i,done<i->i<m->∀ j,R' i j=(p*R i j-R i (order.getD done 0)*R' done j) / d) :
  St W m (done+1) perm order R' p (u*s):=by
 obtain ⟨S,hS,hR,h0⟩:=h.todo done (Nat.le_refl _) hd;have hp1:done<perm.length:=by rw [h.pl];exact hd
 have ho1:done<order.length:=by rw [h.ol];exact hd
 have hun:u≠0:=by rcases hu with e | e<;>rw [e];exact oneN;exact BD oneN
 have hRn:R done (order.getD done 0)≠0:=by
  intro e;apply hn;rw [hp,hpiv,e,dU]
 have hR2:∀ j,R' done j=u*d*W (perm.getD done 0) j+u*S j:=by
  intro j;rw [hpiv,hR,lO,mulA]
 have hS2:fh W (perm.take done).reverse (fun j=>u*S j):=l9 W u hS;have h02:∀ c∈(order.take done).reverse,R' done c=0:=by
  intro c hc;rw [hpiv,h0 c hc,dU]
 constructor
 ·exact h.pl
 ·exact h.pm
 ·exact h.pb
 ·exact h.pp
 ·exact h.ol
 ·exact h.om
 ·exact h.ob
 ·exact h.oi
 ·exact h.os
 ·exact hd
 ·rw [dr _ _ hp1,dr _ _ ho1];exact Bj W h.ind h.dn hR hS h0 hRn
 ·exact hn
 ·rw [dr _ _ hp1,dr _ _ ho1,hp,hpiv,xU W h.ind h.dd hR hS h0 (order.getD done 0),mulA]
 ·rcases hu with e | e<;>rcases h.sg with e' | e' <;> rw [e,e']
  ·left;exact kQ 1
  ·right;exact kQ _
  ·right;exact rF _
  ·left;rw [pk,kQ,jW]
 ·intro i hi hi2;rw [dr _ _ hp1,dr _ _ ho1];obtain ⟨S',hS',hR',h0'⟩:=h.todo i (by omega) hi2;obtain ⟨T,hT,hE⟩:=Cb W (p:=p) (i:=perm.getD done 0) (i':=perm.getD i 0) (R i (order.getD done 0)) h.dn hR2 hS2 hR' hS';refine ⟨T,hT,fun j=>?_,fun c hc=>?_⟩
  ·rw [hrest i hi hi2 j,hE j]
  ·rw [hrest i hi hi2 c];rcases List.mem_cons.1 hc with e | e
   ·subst e;rw [<- hp,mI p,subE,oq,vk h.dn]
   ·rw [h0' c e,h02 c e,dU,dU,subE,je,cF,vk h.dn]
 ·intro t ht;by_cases e:t=done
  ·subst e;exact ⟨u*d,_,ph hun h.dn,hS2,hR2,h02,by rw [<- hp];exact hn⟩
  ·obtain ⟨e',S',he',hS',hR',h0',hn'⟩:=h.fin t (by omega);refine ⟨e',S',he',hS',fun j=>?_,fun c hc=>?_,?_⟩
   ·rw [hlow t (by omega) j];exact hR' j
   ·rw [hlow t (by omega) c];exact h0' c hc
   ·rw [hlow t (by omega)];exact hn'
def mu (W:Nat->Nat->Rat) (m:Nat) (x:Nat->Rat):Prop:=x m = -1/\∀ r,r<m->cZ (m+1) x (W r)=0
theorem mQ {W:Nat->Nat->Rat} {m done:Nat} {perm order:List Nat} {R:Nat->Nat->Rat} {d s:Rat} (h:St W m done perm order R d s) (x:Nat->Rat) :
  (∀ r,r<m->cZ (m+1) x (W r)=0)↔∀ i,i<m->cZ (m+1) x (R i)=0:=by
 have hpt:∀ t,t<m->perm.getD t 0<m:=fun t ht=>h.pb _ (dj perm t (by rw [h.pl];exact ht))
 have hrev:∀ k,∀ r∈(perm.take k).reverse,∃ t,t<k/\t<m/\perm.getD t 0=r:=by
  intro k r hr;rw [List.mem_reverse] at hr;obtain ⟨i,hi,e⟩:=eX hr;rw [List.length_take] at hi;refine ⟨i,by omega,by rw [<- h.pl];omega,?_⟩;rw [<- e,List.getD_eq_getElem?_getD,List.getD_eq_getElem?_getD,List.getElem?_take,if_pos (by omega)]
 constructor
 ·intro hW i hi;have hsp:∀ k (S:Nat->Rat),fh W (perm.take k).reverse S->cZ (m+1) x S=0:=fun k S hS =>
   pN W (m+1) x _ S hS (fun r hr=>by obtain ⟨t,_,ht,e⟩:=hrev k r hr;rw [<- e];exact hW _ (hpt t ht))
  by_cases hd:i<done
  ·obtain ⟨e,S,_,hS,hR,_⟩:=h.fin i hd;rw [funext hR,lQ,hW _ (hpt i hi),hsp i S hS,dU,cF]
  ·obtain ⟨S,hS,hR,_⟩:=h.todo i (by omega) hi;rw [funext hR,lQ,hW _ (hpt i hi),hsp done S hS,dU,cF]
 ·intro hR;have hlow:∀ t,t<done->cZ (m+1) x (W (perm.getD t 0))=0:=by
   intro t;induction t using Nat.strongRecOn with
   | _ t ih =>
    intro ht;obtain ⟨e,S,he,hS,hE,_⟩:=h.fin t ht;have h1:=hR t (by have:=h.le;omega);rw [funext hE,lQ,pN W (m+1) x _ S hS (fun r hr=>by
     obtain ⟨q,hq,_,e⟩:=hrev t r hr;rw [<- e];exact ih q hq (by omega)),cF] at h1
    exact ik he h1
  have hall:∀ t,t<m->cZ (m+1) x (W (perm.getD t 0))=0:=by
   intro t ht;by_cases hd:t<done
   ·exact hlow t hd
   ·obtain ⟨S,hS,hE,_⟩:=h.todo t (by omega) ht;have h1:=hR t ht;rw [funext hE,lQ,pN W (m+1) x _ S hS (fun r hr=>by
     obtain ⟨q,hq,_,e⟩:=hrev done r hr;rw [<- e];exact hlow q hq),cF] at h1
    exact ik h.dn h1
  intro r hr;obtain ⟨i,hi,e⟩:=eX (h.pm r hr);rw [<- e];exact hall i (by rw [<- h.pl];exact hi)
open Nums
theorem uA {Wh:Nat->Rat->Prop} (hW:sI Wh) {s:Rat} (hs:s=1∨s = -1) {b:Nat} {x:Rat} (h:Wh b x):Wh b (s*x):=by
 rcases hs with e | e<;>rw [e]
 ·rw [kQ];exact h
 ·rw [pk,kQ];exact hW.neg _ _ h
def gC (m:Nat) (b:Nat->Nat):Nat:=bn (fun r=>m*b r) (List.range m)
theorem zE (c:Nat->Nat) (hc:∀ r,1<=c r) {v:Nat} : ∀ l:List Nat,v∈l->c v<=bn c l:=by
 intro l;induction l with
 | nil=>intro h;simp at h
 | cons a l ih =>
  intro h;simp only [bn];rcases List.mem_cons.1 h with e | e
  ·rw [e];exact Nat.le_mul_of_pos_right _ (mM c hc l)
  ·exact Nat.le_trans (ih e) (Nat.le_mul_of_pos_left _ (hc a))
theorem mN (c:Nat->Nat):∀ l:List Nat,bn c l.reverse=bn c l:=by
 intro l;induction l with
 | nil=>rfl
 | cons a l ih=>rw [List.reverse_cons,iP,ih];simp only [bn];rw [Nat.mul_one,Nat.mul_comm]
theorem wK (c:Nat->Nat) (hc:∀ r,1<=c r) (l:List Nat) (k:Nat):bn c (l.take k)<=bn c l:=by
 conv=>rhs;rw [<- List.take_append_drop k l]
 rw [iP];exact Nat.le_mul_of_pos_right _ (mM c hc _)
theorem zF (c:Nat->Nat) (hc:∀ r,1<=c r) (l:List Nat) (k i:Nat) (hi:k<=i) (hi2:i<l.length):bn c (l.getD i 0 :: (l.take k).reverse)<=bn c l:=by
 conv=>rhs;rw [<- List.take_append_drop k l]
 rw [iP];simp only [bn];rw [mN,Nat.mul_comm];apply Nat.mul_le_mul (Nat.le_refl _);apply zE c hc;have:=dj (l.drop k) (i-k) (by rw [List.length_drop];omega);rw [List.getD_eq_getElem?_getD,List.getElem?_drop,<- List.getD_eq_getElem?_getD] at this;rw [show k+(i-k)=i by omega] at this;exact this
theorem st_wh {Wh:Nat->Rat->Prop} (hW:sI Wh) {W:Nat->Nat->Rat} {m done:Nat} {b:Nat->Nat} {perm order:List Nat} {R:Nat->Nat->Rat} {d s:Rat}
  (h:St W m done perm order R d s) (hb:∀ r,1<=b r) (hB:∀ r j,Wh (b r) (W r j)) (i:Nat) (hi:done<=i) (hi2:i<m) (j:Nat):Wh (gC m b) (R i j):=by
 obtain ⟨S,hS,hR,h0⟩:=h.todo i hi hi2;rw [xU W h.ind h.dd hR hS h0 j];apply uA hW h.sg;have hc:∀ r,1<=m*b r:=fun r=>Nat.mul_pos (by omega) (hb r)
 have hl:(perm.getD i 0 :: (perm.take done).reverse).length<=m:=by
  simp only [List.length_cons,List.length_reverse,List.length_take];omega
 have:=vH hW W b hb hB m (by omega) (j :: (order.take done).reverse) _ hl;refine hW.mono _ _ _ ?_ this;unfold gC;rw [<- h.pp _ hc];exact zF _ hc perm done i hi (by rw [h.pl];exact hi2)
theorem st_wh_d {Wh:Nat->Rat->Prop} (hW:sI Wh) {W:Nat->Nat->Rat} {m done:Nat} {b:Nat->Nat} {perm order:List Nat} {R:Nat->Nat->Rat} {d s:Rat}
  (h:St W m done perm order R d s) (hm:0<m) (hb:∀ r,1<=b r) (hB:∀ r j,Wh (b r) (W r j)):Wh (gC m b) d:=by
 rw [h.dd];apply uA hW h.sg;have hc:∀ r,1<=m*b r:=fun r=>Nat.mul_pos hm (hb r)
 have hl:(perm.take done).reverse.length<=m:=by
  simp only [List.length_reverse,List.length_take];have:=h.le;omega
 have:=vH hW W b hb hB m hm (order.take done).reverse _ hl;refine hW.mono _ _ _ ?_ this;unfold gC;rw [<- h.pp _ hc,mN];exact wK _ hc perm done
theorem kV {l:List Nat} {k v:Nat} (h:v∈l.take k):∃ t,t<k/\t<l.length/\l.getD t 0=v:=by
 obtain ⟨i,hi,e⟩:=eX h;rw [List.length_take] at hi;refine ⟨i,by omega,by omega,?_⟩;rw [<- e,List.getD_eq_getElem?_getD,List.getD_eq_getElem?_getD,List.getElem?_take,if_pos (by omega)]
theorem iq {l:List Nat} {k t:Nat} (h:t<k) (h2:t<l.length):l.getD t 0∈l.take k:=by
 have:=dj (l.take k) t (by rw [List.length_take];omega);rw [List.getD_eq_getElem?_getD,List.getElem?_take,if_pos h,<- List.getD_eq_getElem?_getD] at this;exact this
theorem pU (f:Nat->Rat):∀ (l:List Nat) (t:Nat),t<l.length->cE f l=cE f (l.take t)+(f (l.getD t 0)+cE f (l.drop (t+1))):=by
 intro l;induction l with
 | nil=>intro t h;simp at h
 | cons a l ih =>
  intro t h;cases t with
  | zero=>simp only [List.take_zero,List.getD_cons_zero,cE,List.drop_succ_cons,List.drop_zero];rw [mr]
  | succ t =>
   simp only [List.take_succ_cons,List.getD_cons_succ,cE,List.drop_succ_cons];rw [ih t (by simpa using h),sJ]
def upd (x:Nat->Rat) (c:Nat) (v:Rat):Nat->Rat:=fun j=>if j=c then v else x j
theorem dot_upd (x R:Nat->Rat) (c:Nat) (v:Rat):∀ n,c<n->cZ n (upd x c v) R=cZ n x R+R c*(v + -(x c)):=by
 intro n;induction n with
 | zero=>intro h;omega
 | succ n ih =>
  intro h;simp only [cZ];by_cases e:c=n
  ·subst e;have h1:cZ c (upd x c v) R=cZ c x R:=yL _ _ _ _ c (fun j hj=>by simp only [upd];rw [if_neg (by omega)]);have h2:upd x c v c=v:=by simp [upd]
   rw [h1,h2,lO,oz]
   calc cZ c x R+R c*v=cZ c x R+(R c*x c + -(R c*x c))+R c*v:=by rw [oq,cF]
    _=cZ c x R+R c*x c+(R c*v + -(R c*x c)):=by grind
  ·have h2:upd x c v n=x n:=by simp only [upd];rw [if_neg (by omega)]
   rw [ih (by omega),h2];grind
theorem n7 {W:Nat->Nat->Rat} {m done:Nat} {perm order:List Nat} {R:Nat->Nat->Rat} {d s:Rat} (h:St W m done perm order R d s) (x0:Nat->Rat) :
  ∃ x:Nat->Rat,(∀ j,j∉order.take done->x j=x0 j)/\∀ t,t<done->cZ (m+1) x (R t)=0:=by
 have key:∀ k,k<=done->∃ x:Nat->Rat,(∀ j,j∉order.take done->x j=x0 j)/\∀ t,done-k<=t->t<done->cZ (m+1) x (R t)=0:=by
  intro k;induction k with
  | zero=>intro _;exact ⟨x0,fun _ _=>rfl,fun t h1 h2=>by omega⟩
  | succ k ih =>
   intro hk;obtain ⟨x,hx,hE⟩:=ih (by omega);have hq:done-(k+1)<done:=by omega
   have hm:=h.le;obtain ⟨e,S,_,_,_,_,hn⟩:=h.fin (done-(k+1)) hq;have hol:=h.ol;have hc:order.getD (done-(k+1)) 0<m:=h.ob _ (dj order _ (by omega));refine ⟨upd x (order.getD (done-(k+1)) 0) (x (order.getD (done-(k+1)) 0) + -(cZ (m+1) x (R (done-(k+1))) / R (done-(k+1)) (order.getD (done-(k+1)) 0))),fun j hj=>?_,fun t h1 h2=>?_⟩
   ·have:j≠order.getD (done-(k+1)) 0:=by
     intro e;apply hj;rw [e];exact iq hq (by omega)
    simp only [upd];rw [if_neg this];exact hx j hj
   ·rw [dot_upd _ _ _ _ (m+1) (by omega)];by_cases ht:t=done-(k+1)
    ·subst ht;have h3:x (order.getD (done-(k+1)) 0) + -(cZ (m+1) x (R (done-(k+1))) / R (done-(k+1)) (order.getD (done-(k+1)) 0)) + -(x (order.getD (done-(k+1)) 0))
       = -(cZ (m+1) x (R (done-(k+1))) / R (done-(k+1)) (order.getD (done-(k+1)) 0)):=by
      calc x (order.getD (done-(k+1)) 0) + -(cZ (m+1) x (R (done-(k+1))) / R (done-(k+1)) (order.getD (done-(k+1)) 0)) + -(x (order.getD (done-(k+1)) 0))
        = -(cZ (m+1) x (R (done-(k+1))) / R (done-(k+1)) (order.getD (done-(k+1)) 0))+(x (order.getD (done-(k+1)) 0) + -(x (order.getD (done-(k+1)) 0))):=by grind
       _=_:=by rw [oq,cF]
     rw [h3,oz,mI,divM _ _ hn,oq]
    ·obtain ⟨_,_,_,_,_,h0,_⟩:=h.fin t h2;have hz:=h0 (order.getD (done-(k+1)) 0) (by rw [List.mem_reverse];exact iq (by omega) (by omega));rw [hz,jz,cF];exact hE t (by omega) h2
 obtain ⟨x,hx,hE⟩:=key done (Nat.le_refl _);exact ⟨x,hx,fun t ht=>hE t (by omega) ht⟩
theorem pQ {W:Nat->Nat->Rat} {m done:Nat} {perm order:List Nat} {R:Nat->Nat->Rat} {d s:Rat} (h:St W m done perm order R d s)
  (hz:∀ i,done<=i->i<m->∀ k,done<=k->k<m->R i (order.getD k 0)=0) (i:Nat) (hi:done<=i) (hi2:i<m) (j:Nat) (hj:j<m):R i j=0:=by
 obtain ⟨k,hk,e⟩:=eX (h.om j hj);rw [h.ol] at hk;rw [<- e];by_cases hd:k<done
 ·obtain ⟨S,_,_,h0⟩:=h.todo i hi hi2;exact h0 _ (by rw [List.mem_reverse];exact iq hd (by rw [h.ol];exact hk))
 ·exact hz i hi hi2 k (by omega) hk
theorem st_none {W:Nat->Nat->Rat} {m done:Nat} {perm order:List Nat} {R:Nat->Nat->Rat} {d s:Rat} (h:St W m done perm order R d s)
  (hz:∀ i,done<=i->i<m->∀ k,done<=k->k<m->R i (order.getD k 0)=0) {i:Nat} (hi:done<=i) (hi2:i<m) (hn:R i m≠0):¬ ∃ x,mu W m x:=by
 rintro ⟨x,hx,hE⟩;have h1:=(mQ h x).1 hE i hi2;simp only [cZ] at h1;rw [oQ x (R i) m (fun j hj=>by rw [pQ h hz i hi hi2 j hj,jz]),mr,hx,oz,rF] at h1;exact BD hn h1
theorem st_many {W:Nat->Nat->Rat} {m done:Nat} {perm order:List Nat} {R:Nat->Nat->Rat} {d s:Rat} (h:St W m done perm order R d s) (hd:done<m)
  (hz:∀ i,done<=i->i<m->∀ k,done<=k->k<m->R i (order.getD k 0)=0) (hn:∀ i,done<=i->i<m->R i m=0) :
  ∃ x y:Nat->Rat,mu W m x/\mu W m y/\∃ j,j<m/\x j≠y j:=by
 have hol:=h.ol;have hmk:∀ v:Rat,∃ x:Nat->Rat,mu W m x/\x (order.getD done 0)=v:=by
  intro v;obtain ⟨x,hx,hE⟩:=n7 h (fun j=>if j=m then -1 else v);have hm:m∉order.take done:=fun hm=>by
   have:=h.ob m (List.mem_of_mem_take hm);omega
  have ho:order.getD done 0∉order.take done:=fun hm=>by
   obtain ⟨t,ht,ht2,e⟩:=kV hm;have:=h.oi t done (by omega) hd e;omega
  have hlt:order.getD done 0<m:=h.ob _ (dj order _ (by omega));refine ⟨x,⟨?_,(mQ h x).2 (fun i hi=>?_)⟩,?_⟩
  ·rw [hx m hm,if_pos rfl]
  ·by_cases hi2:i<done
   ·exact hE i hi2
   ·apply oQ;intro j hj;by_cases hjm:j=m
    ·rw [hjm,hn i (by omega) hi,jz]
    ·rw [pQ h hz i (by omega) hi j (by omega),jz]
  ·rw [hx _ ho,if_neg (by omega)]
 obtain ⟨x,hx,ex⟩:=hmk 0;obtain ⟨y,hy,ey⟩:=hmk 1;refine ⟨x,y,hx,hy,order.getD done 0,h.ob _ (dj order _ (by omega)),?_⟩;rw [ex,ey];exact fun e=>oneN e.symm
theorem yX {u v:Nat->Rat} : ∀ (l:List Nat) (f:List Nat->Rat),(∀ r∈l,u r=v r)->fZ u f l=fZ v f l:=by
 intro l;induction l with
 | nil=>intro _ _;rfl
 | cons a l ih =>
  intro f h;simp only [fZ];rw [h a (List.mem_cons_self ..),ih _ (fun r hr=>h r (List.mem_cons_of_mem _ hr))]
theorem Bn (a:Rat) (u v:Nat->Rat):∀ (l:List Nat) (f:List Nat->Rat),fZ (fun r=>a*u r+v r) f l=a*fZ u f l+fZ v f l:=by
 intro l;induction l with
 | nil=>intro f;simp only [fZ];rw [dU,cF]
 | cons r l ih =>
  intro f;simp only [fZ];rw [ih];simp only [lO,qM,wk,oz];grind
theorem yY:∀ (l:List Nat) (f:List Nat->Rat),fZ (fun _=>(0:Rat)) f l=0:=by
 intro l;induction l with
 | nil=>intro f;rfl
 | cons r l ih=>intro f;simp only [fZ];rw [ih,jz,je,cF]
theorem det_sum (W:Nat->Nat->Rat) (x:Nat->Rat) (γ l:List Nat):∀ o:List Nat,
  fZ (fun r=>cE (fun j=>W r j*x j) o) (gB W γ) l=cE (fun j=>x j*gB W (j :: γ) l) o:=by
 intro o;induction o with
 | nil=>exact yY l _
 | cons a o ih =>
  simp only [cE];rw [<- ih];show _=x a*fZ (fun r=>W r a) (gB W γ) l+_
  rw [<- Bn];congr 1
  funext r
  rw [mI]
theorem zR {Wh:Nat->Rat->Prop} (hW:sI Wh) {W:Nat->Nat->Rat} {m:Nat} {b:Nat->Nat} {perm order:List Nat} {R:Nat->Nat->Rat} {d s:Rat}
  (h:St W m m perm order R d s) (hb:∀ r,1<=b r) (hB:∀ r j,Wh (b r) (W r j)) {y:Nat->Rat} (hy:mu W m y) (t:Nat) (ht:t<m) :
  Wh (gC m b) (d*y (order.getD t 0)):=by
 have hol:=h.ol;have hpl:=h.pl;have ho:order.take m=order:=List.take_of_length_le (by omega);have hp:perm.take m=perm:=List.take_of_length_le (by omega);have hdd:=h.dd;rw [ho,hp] at hdd;have hrhs:∀ r∈perm.reverse,W r m=cE (fun j=>W r j*y j) order:=by
  intro r hr;rw [List.mem_reverse] at hr;have h2:=hy.2 r (h.pb r hr);simp only [cZ] at h2;rw [hy.1,oz,rF] at h2;rw [h.os,pT];exact (kv h2).symm
 have hsplit:order.reverse=(order.drop (t+1)).reverse++order.getD t 0 :: (order.take t).reverse:=by
  have e:order=order.take t++order.getD t 0 :: order.drop (t+1):=by
   rw [List.getD_eq_getElem?_getD,List.getElem?_eq_getElem (by omega)];simp
  conv=>lhs;rw [e]
  simp
 have hE:gB W (m :: ((order.drop (t+1)).reverse++(order.take t).reverse)) perm.reverse
   = y (order.getD t 0)*gB W (order.getD t 0 :: ((order.drop (t+1)).reverse++(order.take t).reverse)) perm.reverse:=by
  show fZ (fun r=>W r m) _ _=_
  rw [yX perm.reverse _ hrhs,det_sum,pU _ order t (by omega)];rw [mR _ (order.take t) (fun j hj=>by rw [rO W j _ (by simp [hj]),dU]),
   mR _ (order.drop (t+1)) (fun j hj=>by rw [rO W j _ (by simp [hj]),dU]),cF,mr]
 have hwE:Wh (gC m b) (gB W (m :: ((order.drop (t+1)).reverse++(order.take t).reverse)) perm.reverse):=by
  have hc:∀ r,1<=m*b r:=fun r=>Nat.mul_pos (by omega) (hb r)
  have:=vH hW W b hb hB m (by omega) (m :: ((order.drop (t+1)).reverse++(order.take t).reverse)) perm.reverse (by rw [List.length_reverse];omega);refine hW.mono _ _ _ ?_ this;unfold gC;rw [<- h.pp _ hc,mN];exact Nat.le_refl _
 have hf:d*y (order.getD t 0)=s*gB W (m :: ((order.drop (t+1)).reverse++(order.take t).reverse)) perm.reverse
   ∨ d*y (order.getD t 0) = -(s*gB W (m :: ((order.drop (t+1)).reverse++(order.take t).reverse)) perm.reverse):=by
  rw [hE,hdd,hsplit];rcases yI W (order.getD t 0) (order.take t).reverse (order.drop (t+1)).reverse perm.reverse with e | e
  ·left;rw [e];grind
  ·right;rw [e,oz,pk];congr 1;grind
 rcases hf with e | e<;>rw [e]
 ·exact uA hW h.sg hwE
 ·exact hW.neg _ _ (uA hW h.sg hwE)
theorem st_full {Wh:Nat->Rat->Prop} (hW:sI Wh) {W:Nat->Nat->Rat} {m:Nat} {b:Nat->Nat} {perm order:List Nat} {R:Nat->Nat->Rat} {d s:Rat}
  (h:St W m m perm order R d s) (hb:∀ r,1<=b r) (hB:∀ r j,Wh (b r) (W r j)) :
  ∃ y:Nat->Rat,mu W m y/\(∀ z,mu W m z->∀ j,j<m->z j=y j)/\(∀ t,t<m->Wh (gC m b) (d*y (order.getD t 0)))
   /\ ∀ t,t<m->R t (order.getD t 0)≠0/\d*R t m-cE (fun v=>R t v*(d*y v)) (order.drop (t+1))=d*y (order.getD t 0)*R t (order.getD t 0):=by
 have hol:=h.ol;obtain ⟨y,hy,hE⟩:=n7 h (fun _=>-1);have hm:m∉order.take m:=fun hm=>by
  have:=h.ob m (List.mem_of_mem_take hm);omega
 have hS:mu W m y:=⟨hy m hm,(mQ h y).2 (fun i hi=>hE i hi)⟩;have hform:∀ z,mu W m z->∀ t,t<m->R t m=R t (order.getD t 0)*z (order.getD t 0)+cE (fun v=>R t v*z v) (order.drop (t+1)):=by
  intro z hz t ht;have h2:=(mQ h z).1 hz.2 t ht;simp only [cZ] at h2;rw [hz.1,oz,rF,<- pT,<- h.os,pU _ order t (by omega)] at h2;obtain ⟨_,_,_,_,_,h0,_⟩:=h.fin t ht;rw [mR _ (order.take t) (fun j hj=>by rw [h0 j (by rw [List.mem_reverse];exact hj),jz]),mr] at h2;exact (kv h2).symm
 have hpiv:∀ t,t<m->R t (order.getD t 0)≠0:=fun t ht=>by
  obtain ⟨_,_,_,_,_,_,hn⟩:=h.fin t ht;exact hn
 refine ⟨y,hS,?_,fun t ht=>zR hW h hb hB hS t ht,fun t ht=>⟨hpiv t ht,?_⟩⟩
 ·intro z hz;have key:∀ k,k<=m->∀ t,m-k<=t->t<m->z (order.getD t 0)=y (order.getD t 0):=by
   intro k;induction k with
   | zero=>intro _ t h2 h3;omega
   | succ k ih =>
    intro hk t h2 h3;by_cases e:m-k<=t
    ·exact ih (by omega) t e h3
    ·have ea:=hform z hz t h3;have eb:=hform y hS t h3;have hs:cE (fun v=>R t v*z v) (order.drop (t+1))=cE (fun v=>R t v*y v) (order.drop (t+1)):=by
      apply pS;intro j hj;obtain ⟨q,hq,eq⟩:=eX hj;rw [List.length_drop] at hq;rw [List.getD_eq_getElem?_getD,List.getElem?_drop,<- List.getD_eq_getElem?_getD] at eq;rw [<- eq,ih (by omega) (t+1+q) (by omega) (by omega)]
     rw [ea,hs,ym] at eb;rw [ym (R t (order.getD t 0)*y _)] at eb;have e3:=canc eb;have e4:R t (order.getD t 0)*(z (order.getD t 0) + -(y (order.getD t 0)))=0:=by
      rw [lO,oz,e3,oq]
     exact kv (ik (hpiv t h3) e4)
  intro j hj;obtain ⟨t,ht,e⟩:=eX (h.om j hj);rw [<- e];exact key m (Nat.le_refl _) t (by omega) (by omega)
 ·have e:=hform y hS t ht;have hs:cE (fun v=>R t v*(d*y v)) (order.drop (t+1))=d*cE (fun v=>R t v*y v) (order.drop (t+1)):=by
   rw [<- Co];apply pS;intro j _;grind
  rw [hs,e,subE,lO,sJ,oq,cF];grind
def mw (b:Nat) (q:Rat):Prop:=q.den=1/\rN q<=b
theorem og {q:Rat} (h:q.den=1):q=((q.num:Int):Rat):=by
 apply Rat.ext
 ·rfl
 ·rw [h];rfl
theorem Cz (z:Int) (b:Nat) (h:z.natAbs<=b):mw b ((z:Int):Rat):=⟨rfl,h⟩
theorem ff:sI mw where
 zero:=fun b=>⟨rfl,Nat.zero_le _⟩
 one:=fun b h=>⟨rfl,h⟩
 add:=by
  rintro b c x y ⟨h1,h2⟩ ⟨h3,h4⟩;rw [og h1,og h3];have e:((x.num:Int):Rat)+((y.num:Int):Rat)=((x.num+y.num:Int):Rat):=(Rat.intCast_add _ _).symm;show mw _ (((x.num:Int):Rat)+((y.num:Int):Rat))
  rw [e];refine Cz _ _ ?_;unfold rN at h2 h4;omega
 mul:=by
  rintro b c x y ⟨h1,h2⟩ ⟨h3,h4⟩;rw [og h1,og h3];have e:((x.num:Int):Rat)*((y.num:Int):Rat)=((x.num*y.num:Int):Rat):=(Rat.intCast_mul _ _).symm;show mw _ (((x.num:Int):Rat)*((y.num:Int):Rat))
  rw [e];refine Cz _ _ ?_;rw [Int.natAbs_mul];exact Nat.mul_le_mul h2 h4
 neg:=by
  rintro b x ⟨h1,h2⟩;refine ⟨h1,?_⟩;unfold rN;show (-x).num.natAbs<=b
  rw [Rat.neg_num,Int.natAbs_neg];exact h2
 mono:=fun b c x h h1=>⟨h1.1,Nat.le_trans h1.2 h⟩
def lJ (R:Nat->Rat):Nat->Nat
 | 0=>1
 | i+1=>lJ R i*(R i*(lJ R i:Nat)).den
def cG (R:Nat->Rat) (i:Nat):Nat->Rat:=fun j=>R j*(lJ R i:Nat)
theorem vC (R:Nat->Rat) (j:Nat):cG R 0 j=R j:=by
 unfold cG lJ;show R j*((1:Nat):Rat)=R j
 rw [show ((1:Nat):Rat)=1 from rfl,Rat.mul_one]
theorem iV (R:Nat->Rat) (i j:Nat):cG R (i+1) j=cG R i j*(((cG R i i).den:Nat):Rat):=by
 unfold cG;show R j*((lJ R i*(R i*(lJ R i:Nat)).den:Nat):Rat)=_
 rw [Rat.natCast_mul,Rat.mul_assoc]
theorem sO (R:Nat->Rat):∀ i,0<lJ R i:=by
 intro i;induction i with
 | zero=>exact Nat.one_pos
 | succ i ih=>exact Nat.mul_pos ih (Rat.den_pos _)
theorem mY (x:Rat) (k:Nat):(x*(k:Nat)).den∣x.den:=by
 have e:x*((k:Nat):Rat)=mkRat (x.num*(k:Nat)) x.den:=by
  rw [Rat.mul_def',Rat.num_natCast,Rat.den_natCast,Nat.mul_one]
 rw [e,Rat.den_mkRat,if_neg x.den_nz];exact Nat.div_dvd_of_dvd (Nat.gcd_dvd_left _ _)
theorem tj {x:Rat} (k:Nat) (h:x.den=1):(x*(k:Nat)).den=1:=by
 have:=mY x k;rw [h] at this;exact Nat.dvd_one.1 this
theorem tQ (x:Rat):(x*((x.den:Nat):Rat)).den=1:=by
 have e:x*((x.den:Nat):Rat)=mkRat (x.num*(x.den:Nat)) x.den:=by
  rw [Rat.mul_def',Rat.num_natCast,Rat.den_natCast,Nat.mul_one]
 rw [e,Rat.den_mkRat,if_neg x.den_nz];have hg:Nat.gcd x.den (x.num*(x.den:Nat)).natAbs=x.den:=by
  rw [Int.natAbs_mul,Int.natAbs_natCast];exact Nat.gcd_eq_left (Nat.dvd_mul_left _ _)
 first | (rw [hg];exact Nat.div_self x.den_pos) | (rw [Nat.gcd_comm,hg];exact Nat.div_self x.den_pos)
theorem sP (R:Nat->Rat):∀ i j,j<i->(cG R i j).den=1:=by
 intro i;induction i with
 | zero=>intro j h;omega
 | succ i ih =>
  intro j hj;rw [iV];by_cases e:j=i
  ·rw [e];exact tQ _
  ·exact tj _ (ih j (by omega))
theorem yq (R:Nat->Rat) (i j:Nat):(cG R i j).den∣(R j).den:=mY _ _
end Go.Proofs.YtfjnoikjhdpghaaGreatDoor
