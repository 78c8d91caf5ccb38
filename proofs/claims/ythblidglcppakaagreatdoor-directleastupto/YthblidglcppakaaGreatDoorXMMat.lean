/- Contracts that the proof leans on. -/
import Derived.WalkKit
import Derived.Test.YthblidglcppakaaGreatDoorXMBase
namespace Go.Proofs.YthblidglcppakaaGreatDoor
open Go.RowKit
set_option linter.unusedVariables false
set_option linter.unusedSimpArgs false
set_option maxHeartbeats 8000000
set_option maxRecDepth 10000
namespace Nums
theorem td (a b c:Rat):a+b+c=a+(b+c):=Rat.add_assoc a b c
theorem yL (a b:Rat):a+b=b+a:=Rat.add_comm a b
theorem mC (a:Rat):0+a=a:=Rat.zero_add a
theorem Cc (a:Rat):-a+a=0:=Rat.neg_add_cancel a
theorem subE (a b:Rat):a-b=a + -b:=Rat.sub_eq_add_neg a b
theorem mulA (a b c:Rat):a*b*c=a*(b*c):=Rat.mul_assoc a b c
theorem mS (a b:Rat):a*b=b*a:=Rat.mul_comm a b
theorem kT (a:Rat):1*a=a:=Rat.one_mul a
theorem lS (a b c:Rat):a*(b+c)=a*b+a*c:=Rat.mul_add a b c
theorem divM (a b:Rat) (h:b≠0):a / b*b=a:=Rat.div_mul_cancel h
theorem oneN:(1:Rat)≠0:=by decide
theorem cC (a:Rat):a+0=a:=by rw [yL,mC]
theorem oD (a:Rat):a + -a=0:=by rw [yL,Cc]
theorem rT (a:Rat):a*1=a:=by rw [mS,kT]
theorem qZ (a b c:Rat):(a+b)*c=a*c+b*c:=by rw [mS,lS,mS c a,mS c b]
theorem canc {a b c:Rat} (h:a+b=a+c):b=c:=by
 have:-a+(a+b) = -a+(a+c):=by rw [h]
 rw [<- td,<- td,Cc,mC,mC] at this;exact this
theorem dU (a:Rat):a*0=0:=by
 apply canc (a:=a*0);rw [<- lS,cC,cC]
theorem jF (a:Rat):0*a=0:=by rw [mS,dU]
theorem iE {a b:Rat} (h:a+b=0):b = -a:=by
 apply canc (a:=a);rw [h,oD]
theorem pw (a b:Rat):-a*b = -(a*b):=by
 apply iE;rw [<- qZ,oD,jF]
theorem oH (a b:Rat):a * -b = -(a*b):=by rw [mS,pw,mS]
theorem j8 (a:Rat):-(-a)=a:=(iE (Cc a)).symm
theorem wW (a b:Rat):-(a+b) = -a + -b:=by
 apply Eq.symm;apply iE
 calc a+b+(-a + -b)=(a + -a)+(b + -b):=by grind
  _=0:=by rw [oD,oD,cC]
theorem jm:-(0:Rat)=0:=(iE (cC 0)).symm
theorem kA {a b:Rat} (h:a + -b=0):a=b:=by
 have:=iE h;have h2:-(-b) = -(-a):=by rw [this]
 rw [j8,j8] at h2;exact h2.symm
theorem iP {b:Rat} (h:b≠0):1 / b*b=1:=divM 1 b h
theorem Bn (a:Rat) {b:Rat} (h:b≠0):a / b=a*(1 / b):=by
 calc a / b=a / b*(1 / b*b):=by rw [iP h,rT]
  _=(a / b*b)*(1 / b):=by grind
  _=a*(1 / b):=by rw [divM a b h]
theorem div_of {a b c:Rat} (h:b≠0) (e:c*b=a):a / b=c:=by
 rw [Bn a h,<- e,mulA,mS b,iP h,rT]
theorem vS {b:Rat} (h:b≠0):0 / b=0:=div_of h (jF b)
theorem pr {a b:Rat} (ha:a≠0) (hb:b≠0):a*b≠0:=by
 intro h;apply hb
 calc b=1 / a*a*b:=by rw [iP ha,kT]
  _=1 / a*(a*b):=by rw [mulA]
  _=0:=by rw [h,dU]
theorem iw {a b:Rat} (ha:a≠0) (h:a*b=0):b=0:=by
 apply Classical.byContradiction;intro hb;exact pr ha hb h
theorem Cd {a:Rat} (h:a≠0):-a≠0:=by
 intro e;apply h;rw [<- j8 a,e,jm]
end Nums
open Nums
def fZ (v:Nat->Rat):(List Nat->Rat)->List Nat->Rat
 | _,[]=>0
 | f,a :: l=>v a*f l + -(fZ v (fun l'=>f (a :: l')) l)
theorem n9 (u:Nat->Rat) (c:Rat):∀ (l:List Nat) (g h:List Nat->Rat),
  fZ u (fun l'=>c*g l'+h l') l=c*fZ u g l+fZ u h l:=by
 intro l;induction l with
 | nil=>intro g h;simp only [fZ];rw [dU,cC]
 | cons a l ih =>
  intro g h;simp only [fZ];rw [ih (fun l'=>g (a :: l')) (fun l'=>h (a :: l'))];simp only [lS,wW,oH];grind
theorem ui (u:Nat->Rat):∀ (l:List Nat),fZ u (fun _=>0) l=0:=by
 intro l;induction l with
 | nil=>rfl
 | cons a l ih=>simp only [fZ];rw [ih,dU,jm,cC]
theorem lY (u:Nat->Rat) (h:List Nat->Rat) (l:List Nat):fZ u (fun l'=>-(h l')) l = -(fZ u h l):=by
 have:=n9 u (-1) l h (fun _=>0);rw [ui,cC,pw,kT] at this;rw [<- this];congr 1
 funext l'
 rw [pw,kT,cC]
theorem lap_alt (v:Nat->Rat):∀ (l:List Nat) (f:List Nat->Rat),fZ v (fZ v f) l=0:=by
 intro l;induction l with
 | nil=>intro f;rfl
 | cons a l ih =>
  intro f;show v a*fZ v f l + -(fZ v (fun l'=>v a*f l' + -(fZ v (fun l''=>f (a :: l'')) l')) l)=0
  rw [n9 v (v a) l f (fun l'=>-(fZ v (fun l''=>f (a :: l'')) l')),lY,ih,jm,cC,oD]
theorem BS (u v:Nat->Rat):∀ (l:List Nat) (f:List Nat->Rat),fZ u (fZ v f) l = -(fZ v (fZ u f) l):=by
 intro l;induction l with
 | nil=>intro f;exact jm.symm
 | cons a l ih =>
  intro f;show u a*fZ v f l + -(fZ u (fun l'=>v a*f l' + -(fZ v (fun l''=>f (a :: l'')) l')) l)
   = -(v a*fZ u f l + -(fZ v (fun l'=>u a*f l' + -(fZ u (fun l''=>f (a :: l'')) l')) l))
  rw [n9 u (v a) l f (fun l'=>-(fZ v (fun l''=>f (a :: l'')) l')),lY,ih,
   n9 v (u a) l f (fun l'=>-(fZ u (fun l''=>f (a :: l'')) l')),lY]
  simp only [wW,j8];grind
def gD (W:Nat->Nat->Rat):List Nat->List Nat->Rat
 | [],_=>1
 | j :: γ,l=>fZ (fun r=>W r j) (gD W γ) l
theorem tN (W:Nat->Nat->Rat) (c j:Nat) (γ2:List Nat):∀ (γ1 l:List Nat),gD W (γ1++c :: j :: γ2) l = -(gD W (γ1++j :: c :: γ2) l):=by
 intro γ1;induction γ1 with
 | nil=>intro l;exact BS _ _ l _
 | cons g γ1 ih =>
  intro l;have:gD W (γ1++c :: j :: γ2)=fun l=>-(gD W (γ1++j :: c :: γ2) l):=funext ih
  simp only [List.cons_append,gD];rw [this,lY]
theorem se (W:Nat->Nat->Rat) (j:Nat):∀ (γ:List Nat),j∈γ->∀ l,gD W (j :: γ) l=0:=by
 intro γ;induction γ with
 | nil=>intro h;simp at h
 | cons c γ ih =>
  intro h l;by_cases hc:j=c
  ·subst hc;exact lap_alt _ l _
  ·have hm:j∈γ:=by simpa [hc] using h
   have:=tN W j c γ [] l;simp only [List.nil_append] at this;rw [this];have h0:gD W (j :: γ)=fun _=>0:=funext (ih hm)
   simp only [gD] at h0 ⊢;rw [h0,ui,jm]
theorem zq (W:Nat->Nat->Rat) (j:Nat) (γ2:List Nat):∀ (γ1 l:List Nat),
  gD W (γ1++j :: γ2) l=gD W (j :: (γ1++γ2)) l∨gD W (γ1++j :: γ2) l = -(gD W (j :: (γ1++γ2)) l):=by
 have key:∀ γ1:List Nat,(∀ l,gD W (γ1++j :: γ2) l=gD W (j :: (γ1++γ2)) l)∨(∀ l,gD W (γ1++j :: γ2) l = -(gD W (j :: (γ1++γ2)) l)):=by
  intro γ1;induction γ1 with
  | nil=>exact .inl fun _=>rfl
  | cons c γ1 ih =>
   have hs:∀ l,gD W (j :: c :: (γ1++γ2)) l = -(gD W (c :: j :: (γ1++γ2)) l):=fun l=>by
    have:=tN W j c (γ1++γ2) [] l;simpa only [List.nil_append] using this
   rcases ih with ih | ih
   ·right
    intro l;have e:gD W (γ1++j :: γ2)=gD W (j :: (γ1++γ2)):=funext ih;show fZ _ (gD W (γ1++j :: γ2)) l=_
    rw [e];show gD W (c :: j :: (γ1++γ2)) l = -(gD W (j :: c :: (γ1++γ2)) l)
    rw [hs,j8]
   ·left
    intro l;have e:gD W (γ1++j :: γ2)=fun l=>-(gD W (j :: (γ1++γ2)) l):=funext ih
    show fZ _ (gD W (γ1++j :: γ2)) l=_
    rw [e,lY];show -(gD W (c :: j :: (γ1++γ2)) l)=gD W (j :: c :: (γ1++γ2)) l
    rw [hs]
 intro γ1 l;rcases key γ1 with h | h
 ·exact .inl (h l)
 ·exact .inr (h l)
structure sZ (Wh:Nat->Rat->Prop):Prop where
 zero:∀ b,Wh b 0
 one:∀ b,1<=b->Wh b 1
 add:∀ b c x y,Wh b x->Wh c y->Wh (b+c) (x+y)
 mul:∀ b c x y,Wh b x->Wh c y->Wh (b*c) (x*y)
 neg:∀ b x,Wh b x->Wh b (-x)
 mono:∀ b c x,b<=c->Wh b x->Wh c x
theorem lap_wh {Wh:Nat->Rat->Prop} (hW:sZ Wh) (v:Nat->Rat) (K:Nat):∀ (l:List Nat) (f:List Nat->Rat),
  (∀ p a q,l=p++a :: q->Wh K (v a*f (p++q)))->Wh (l.length*K) (fZ v f l):=by
 intro l;induction l with
 | nil=>intro f _;exact hW.zero _
 | cons a l ih =>
  intro f hf;have h1:=ih (fun l'=>f (a :: l')) (fun p b q e=>hf (a :: p) b q (by rw [e];rfl));have h2:Wh K (v a*f l):=hf [] a l rfl;have:=hW.add _ _ _ _ h2 (hW.neg _ _ h1);refine hW.mono _ _ _ ?_ this;rw [List.length_cons,Nat.add_mul,Nat.one_mul,Nat.add_comm];exact Nat.le_refl _
def bm (b:Nat->Nat):List Nat->Nat
 | []=>1
 | a :: l=>b a*bm b l
theorem iW (b:Nat->Nat):∀ l l':List Nat,bm b (l++l')=bm b l*bm b l':=by
 intro l l';induction l with
 | nil=>simp [bm]
 | cons a l ih=>simp only [List.cons_append,bm];rw [ih,Nat.mul_assoc]
theorem mW (b:Nat->Nat) (hb:∀ r,1<=b r):∀ l:List Nat,1<=bm b l:=by
 intro l;induction l with
 | nil=>exact Nat.le_refl _
 | cons a l ih=>exact Nat.mul_pos (hb a) ih
theorem wk {Wh:Nat->Rat->Prop} (hW:sZ Wh) (W:Nat->Nat->Rat) (b:Nat->Nat) (hb:∀ r,1<=b r) (hB:∀ r j,Wh (b r) (W r j)) (N:Nat) (hN:0<N):∀ (γ l:List Nat),
  l.length<=N->Wh (bm (fun r=>N*b r) l) (gD W γ l):=by
 have hpos:∀ r,1<=N*b r:=fun r=>Nat.mul_pos hN (hb r)
 intro γ;induction γ with
 | nil=>intro l _;exact hW.one _ (mW _ hpos l)
 | cons j γ ih =>
  intro l hl;have:=lap_wh hW (fun r=>W r j) (bm (fun r=>N*b r) l / N) l (gD W γ) (by
   intro p a q e;have h1:=hW.mul _ _ _ _ (hB a j) (ih (p++q) (by rw [e] at hl;simp at hl ⊢;omega));refine hW.mono _ _ _ ?_ h1;have e2:bm (fun r=>N*b r) l=N*(b a*bm (fun r=>N*b r) (p++q)):=by
    rw [e,iW,iW];simp only [bm];grind
   rw [e2,Nat.mul_div_cancel_left _ hN];exact Nat.le_refl _)
  refine hW.mono _ _ _ ?_ this;exact Nat.le_trans (Nat.mul_le_mul hl (Nat.le_refl _)) (Nat.mul_div_le _ _)
def fk (W:Nat->Nat->Rat):List Nat->(Nat->Rat)->Prop
 | [],R=>∀ j,R j=0
 | r :: ρ,R=>∃ c S,fk W ρ S/\∀ j,R j=c*W r j+S j
theorem pT (W:Nat->Nat->Rat) {ρ:List Nat} {R R':Nat->Rat} (h:∀ j,R j=R' j) (hR:fk W ρ R):fk W ρ R':=by
 have:R=R':=funext h;rw [<- this];exact hR
theorem pV (W:Nat->Nat->Rat) (a b:Rat):∀ (ρ:List Nat) (R R':Nat->Rat),fk W ρ R->fk W ρ R'->fk W ρ (fun j=>a*R j+b*R' j):=by
 intro ρ;induction ρ with
 | nil=>intro R R' h h' j;simp only [];rw [h j,h' j,dU,dU,cC]
 | cons r ρ ih =>
  rintro R R' ⟨c,S,hS,e⟩ ⟨c',S',hS',e'⟩;refine ⟨a*c+b*c',_,ih S S' hS hS',fun j=>?_⟩;simp only [];rw [e j,e' j];simp only [lS,qZ];grind
theorem rI (W:Nat->Nat->Rat):∀ (ρ:List Nat),fk W ρ (fun _=>0):=by
 intro ρ;induction ρ with
 | nil=>intro j;rfl
 | cons r ρ ih=>exact ⟨0,_,ih,fun j=>by simp only [];rw [jF,cC]⟩
theorem mq (W:Nat->Nat->Rat) (a:Rat) {ρ:List Nat} {R:Nat->Rat} (h:fk W ρ R):fk W ρ (fun j=>a*R j) :=
 pT W (fun j=>by rw [dU,cC]) (pV W a 0 ρ R (fun _=>0) h (rI W ρ))
theorem uY (W:Nat->Nat->Rat) {ρ:List Nat} {R R':Nat->Rat} (h:fk W ρ R) (h':fk W ρ R'):fk W ρ (fun j=>R j+R' j) :=
 pT W (fun j=>by rw [kT,kT]) (pV W 1 1 ρ R R' h h')
theorem Av (W:Nat->Nat->Rat) (r:Nat) {ρ:List Nat} {R:Nat->Rat} (h:fk W ρ R):fk W (r :: ρ) R :=
 ⟨0,R,h,fun j=>by rw [jF,mC]⟩
theorem C5 (W:Nat->Nat->Rat) (r:Nat) (ρ:List Nat) (c:Rat) {S:Nat->Rat} (h:fk W ρ S):fk W (r :: ρ) (fun j=>c*W r j+S j) :=
 ⟨c,S,h,fun _=>rfl⟩
theorem C0 (W:Nat->Nat->Rat):∀ (ρ:List Nat) (f:List Nat->Rat),fk W ρ (fun j=>fZ (fun r=>W r j) f ρ):=by
 intro ρ;induction ρ with
 | nil=>intro f j;rfl
 | cons a ρ ih =>
  intro f;refine ⟨f ρ,_,mq W (-1) (ih (fun l'=>f (a :: l'))),fun j=>?_⟩;simp only [fZ];rw [pw,kT,mS]
def Ind (W:Nat->Nat->Rat) (ρ γ:List Nat):Prop:=∀ S,fk W ρ S->(∀ c∈γ,S c=0)->∀ j,S j=0
theorem ind_nil (W:Nat->Nat->Rat):Ind W [] []:=fun _ h _ j=>h j
theorem yw (W:Nat->Nat->Rat) {ρ γ:List Nat} {d s:Rat} {R S:Nat->Rat} {i:Nat} (hI:Ind W ρ γ) (hd:d=s*gD W γ ρ)
  (hR:∀ j,R j=d*W i j+S j) (hS:fk W ρ S) (h0:∀ c∈γ,R c=0):∀ j,R j=s*gD W (j :: γ) (i :: ρ):=by
 intro j;have hD:∀ j,s*gD W (j :: γ) (i :: ρ)=d*W i j + -(s*fZ (fun r=>W r j) (fun l'=>gD W γ (i :: l')) ρ):=by
  intro j;show s*(W i j*gD W γ ρ + -(fZ (fun r=>W r j) (fun l'=>gD W γ (i :: l')) ρ))=_
  rw [lS,oH,hd];congr 1
  grind
 have hT:=hI (fun j=>S j+s*fZ (fun r=>W r j) (fun l'=>gD W γ (i :: l')) ρ) (uY W hS (mq W s (C0 W ρ _))) (by
  intro c hc;have h1:=h0 c hc;rw [hR c] at h1;have h2:=hD c;rw [se W c γ hc,dU] at h2;have h3:=iE h1;have h4:s*fZ (fun r=>W r c) (fun l'=>gD W γ (i :: l')) ρ=d*W i c:=(kA h2.symm).symm;rw [h3,h4,Cc]) j
 rw [hR j,hD j];congr 1
 rw [yL] at hT;exact iE hT
theorem BN (W:Nat->Nat->Rat) {ρ γ:List Nat} {d:Rat} {R S:Nat->Rat} {i c:Nat} (hI:Ind W ρ γ) (hd:d≠0)
  (hR:∀ j,R j=d*W i j+S j) (hS:fk W ρ S) (h0:∀ c∈γ,R c=0) (hc:R c≠0):Ind W (i :: ρ) (c :: γ):=by
 rintro S2 ⟨e,S3,hS3,hE⟩ hz;have hk:∀ j,S2 j=e*(1 / d)*R j:=by
  intro j;have hT:=hI (fun j=>S3 j + -(e*(1 / d))*S j) (uY W hS3 (mq W _ hS)) (by
   intro g hg;have h1:=hz g (List.mem_cons_of_mem _ hg);have h2:=h0 g hg;rw [hE g] at h1;rw [hR g] at h2;have h3:=iE h1;have h4:=iE h2;rw [h3,h4,pw,oH,j8];have:e*(1 / d)*(d*W i g)=e*W i g:=by
    calc e*(1 / d)*(d*W i g)=e*(1 / d*d)*W i g:=by grind
     _=e*W i g:=by rw [iP hd,rT]
   rw [this,Cc]) j
  rw [yL] at hT;have h5:=iE hT;rw [pw,j8] at h5;rw [hE j,hR j,lS,h5];congr 1
  calc e*W i j=e*(1 / d*d)*W i j:=by rw [iP hd,rT]
   _=e*(1 / d)*(d*W i j):=by grind
 have hz0:e*(1 / d)=0:=by
  have h1:=hz c (List.mem_cons_self ..);rw [hk c,mS] at h1;exact iw hc h1
 intro j;rw [hk j,hz0,jF]
theorem CM (W:Nat->Nat->Rat) {ρ:List Nat} {d p:Rat} {R S R' S':Nat->Rat} {i i':Nat} {e:Rat} (l:Rat) (hd:d≠0)
  (hR:∀ j,R j=e*W i j+S j) (hS:fk W ρ S) (hR':∀ j,R' j=d*W i' j+S' j) (hS':fk W ρ S') :
  ∃ T,fk W (i :: ρ) T/\∀ j,(p*R' j-l*R j) / d=p*W i' j+T j:=by
 have hA:=C5 W i ρ e hS;have hB:=pV W (p*(1 / d)) (-(l*(1 / d))) (i :: ρ) S' (fun j=>e*W i j+S j) (Av W i hS') hA;refine ⟨_,hB,fun j=>?_⟩;rw [Bn _ hd,subE,hR' j,<- hR j,qZ,pw,pw,lS,qZ];have h1:p*(d*W i' j)*(1 / d)=p*W i' j:=by
  calc p*(d*W i' j)*(1 / d)=p*(1 / d*d)*W i' j:=by grind
   _=p*W i' j:=by rw [iP hd,rT]
 have h2:p*S' j*(1 / d)=p*(1 / d)*S' j:=by grind
 have h3:l*R j*(1 / d)=l*(1 / d)*R j:=by grind
 rw [h1,h2,h3,td]
def cX:Nat->(Nat->Rat)->(Nat->Rat)->Rat
 | 0,_,_=>0
 | n+1,x,R=>cX n x R+R n*x n
theorem dot_lin (x:Nat->Rat) (a b:Rat) (R R':Nat->Rat):∀ n,cX n x (fun j=>a*R j+b*R' j)=a*cX n x R+b*cX n x R':=by
 intro n;induction n with
 | zero=>simp only [cX];rw [dU,dU,cC]
 | succ n ih=>simp only [cX];rw [ih];simp only [lS,qZ];grind
theorem zu (x x' R R':Nat->Rat):∀ n,(∀ j,j<n->R j*x j=R' j*x' j)->cX n x R=cX n x' R':=by
 intro n;induction n with
 | zero=>intro _;rfl
 | succ n ih=>intro h;simp only [cX];rw [ih (fun j hj=>h j (by omega)),h n (by omega)]
theorem oX (x R:Nat->Rat):∀ n,(∀ j,j<n->R j*x j=0)->cX n x R=0:=by
 intro n;induction n with
 | zero=>intro _;rfl
 | succ n ih=>intro h;simp only [cX];rw [ih (fun j hj=>h j (by omega)),h n (by omega),cC]
theorem lU (x:Nat->Rat) (c:Rat) (R S:Nat->Rat) (n:Nat):cX n x (fun j=>c*R j+S j)=c*cX n x R+cX n x S:=by
 have:=dot_lin x c 1 R S n;rw [kT] at this;rw [<- this];congr 1
 funext j
 rw [kT]
theorem pU (W:Nat->Nat->Rat) (n:Nat) (x:Nat->Rat):∀ (ρ:List Nat) (S:Nat->Rat),fk W ρ S->(∀ r∈ρ,cX n x (W r)=0)->cX n x S=0:=by
 intro ρ;induction ρ with
 | nil =>
  intro S h _;exact oX x S n (fun j _=>by rw [h j,jF])
 | cons r ρ ih =>
  rintro S ⟨c,S',hS',e⟩ h;have:S=fun j=>c*W r j+S' j:=funext e
  rw [this,lU,h r (List.mem_cons_self ..),ih S' hS' (fun q hq=>h q (List.mem_cons_of_mem _ hq)),dU,cC]
open Nums
def cB (f:Nat->Rat):List Nat->Rat
 | []=>0
 | a :: l=>f a+cB f l
theorem vk (f:Nat->Rat):∀ l l':List Nat,cB f (l++l')=cB f l+cB f l':=by
 intro l l';induction l with
 | nil=>exact (mC _).symm
 | cons a l ih=>simp only [List.cons_append,cB];rw [ih,td]
theorem m7 (f:Nat->Rat):∀ l:List Nat,(∀ j∈l,f j=0)->cB f l=0:=by
 intro l;induction l with
 | nil=>intro _;rfl
 | cons a l ih=>intro h;simp only [cB];rw [h a (List.mem_cons_self ..),ih (fun j hj=>h j (List.mem_cons_of_mem _ hj)),cC]
theorem p6 (f g:Nat->Rat):∀ l:List Nat,(∀ j∈l,f j=g j)->cB f l=cB g l:=by
 intro l;induction l with
 | nil=>intro _;rfl
 | cons a l ih=>intro h;simp only [cB];rw [h a (List.mem_cons_self ..),ih (fun j hj=>h j (List.mem_cons_of_mem _ hj))]
theorem Da (c:Rat) (f:Nat->Rat):∀ l:List Nat,cB (fun j=>c*f j) l=c*cB f l:=by
 intro l;induction l with
 | nil=>exact (dU c).symm
 | cons a l ih=>simp only [cB];rw [ih,lS]
theorem p7 (x R:Nat->Rat):∀ n,cB (fun j=>R j*x j) (List.range n)=cX n x R:=by
 intro n;induction n with
 | zero=>rfl
 | succ n ih=>rw [List.range_succ,vk,ih];simp only [cB,cX];rw [cC]
theorem vp (f:Nat->Rat) (v:Nat):∀ (l:List Nat) (i:Nat),i<l.length->cB f (l.set i v)+f (l.getD i 0)=cB f l+f v:=by
 intro l;induction l with
 | nil=>intro i h;simp at h
 | cons a l ih =>
  intro i h;cases i with
  | zero=>simp only [List.set_cons_zero,cB,List.getD_cons_zero];grind
  | succ i =>
   simp only [List.set_cons_succ,cB,List.getD_cons_succ];have:=ih i (by simpa using h);rw [td,this,td]
theorem rz (f:Nat->Nat) (v:Nat):∀ (l:List Nat) (i:Nat),i<l.length->bm f (l.set i v)*f (l.getD i 0)=bm f l*f v:=by
 intro l;induction l with
 | nil=>intro i h;simp at h
 | cons a l ih =>
  intro i h;cases i with
  | zero=>simp only [List.set_cons_zero,bm,List.getD_cons_zero];grind
  | succ i =>
   simp only [List.set_cons_succ,bm,List.getD_cons_succ];have:=ih i (by simpa using h);rw [Nat.mul_assoc,this,Nat.mul_assoc]
def gY (l:List Nat) (i j:Nat):List Nat:=(l.set i (l.getD j 0)).set j (l.getD i 0)
def bT (a b i:Nat):Nat:=if i=b then a else if i=a then b else i
theorem kM (l:List Nat) (i j:Nat):(gY l i j).length=l.length:=by simp [gY]
theorem dq (l:List Nat) (a b i:Nat) (ha:a<l.length) (hb:b<l.length):(gY l a b).getD i 0=l.getD (bT a b i) 0:=by
 unfold gY bT;simp only [List.getD_eq_getElem?_getD,List.getElem?_set,List.length_set];by_cases h1:b=i
 ·subst h1;simp [hb]
 ·have h1':i≠b:=fun e=>h1 e.symm
  by_cases h2:a=i
  ·subst h2;simp [h1,h1',ha]
  ·have h2':i≠a:=fun e=>h2 e.symm
   simp [h1,h1',h2,h2']
theorem fh {a b i m:Nat} (ha:a<m) (hb:b<m) (hi:i<m):bT a b i<m:=by
 unfold bT;split
 ·exact ha
 ·split<;>assumption
theorem Dc {a b i k:Nat} (ha:k<=a) (hb:k<=b) (hi:k<=i):k<=bT a b i:=by
 unfold bT;split
 ·exact ha
 ·split<;>assumption
theorem m8 {a b i k:Nat} (ha:k<=a) (hb:k<=b) (hi:i<k):bT a b i=i:=by
 unfold bT;rw [if_neg (by omega),if_neg (by omega)]
theorem gV (a b i:Nat):bT a b (bT a b i)=i:=by
 unfold bT;by_cases h1:i=b
 ·subst h1;by_cases h2:a=i
  ·subst h2;simp
  ·simp [h2]
 ·by_cases h2:i=a
  ·subst h2;simp [h1]
  ·simp [h1,h2]
theorem dm (l:List Nat) (i:Nat) (h:i<l.length):l.getD i 0∈l:=by
 rw [List.getD_eq_getElem?_getD,List.getElem?_eq_getElem h];exact List.getElem_mem h
theorem ff {l:List Nat} {v:Nat} (h:v∈l):∃ i,i<l.length/\l.getD i 0=v:=by
 obtain ⟨i,hi,e⟩:=List.mem_iff_getElem.1 h;exact ⟨i,hi,by rw [List.getD_eq_getElem?_getD,List.getElem?_eq_getElem hi];exact e⟩
theorem kO (l:List Nat) (a b v:Nat) (ha:a<l.length) (hb:b<l.length):v∈gY l a b↔v∈l:=by
 constructor
 ·intro h;obtain ⟨i,hi,e⟩:=ff h;rw [dq l a b i ha hb] at e;rw [kM] at hi;rw [<- e];exact dm l _ (fh ha hb hi)
 ·intro h;obtain ⟨i,hi,e⟩:=ff h;have h2:=dm (gY l a b) (bT a b i) (by rw [kM];exact fh ha hb hi);rw [dq l a b _ ha hb,gV,e] at h2;exact h2
theorem AB (f:Nat->Rat) (l:List Nat) (a b:Nat) (ha:a<l.length) (hb:b<l.length):cB f (gY l a b)=cB f l:=by
 have h1:=vp f (l.getD b 0) l a ha;have h2:=vp f (l.getD a 0) (l.set a (l.getD b 0)) b (by simpa using hb);have h3:(l.set a (l.getD b 0)).getD b 0=l.getD b 0:=by
  by_cases h:a=b
  ·subst h;rw [List.getD_eq_getElem?_getD,List.getElem?_set];simp [ha]
  ·rw [List.getD_eq_getElem?_getD,List.getElem?_set,if_neg h,<- List.getD_eq_getElem?_getD]
 rw [h3] at h2;show cB f ((l.set a (l.getD b 0)).set b (l.getD a 0))=_
 apply canc (a:=f (l.getD b 0)+f (l.getD a 0))
 calc f (l.getD b 0)+f (l.getD a 0)+cB f ((l.set a (l.getD b 0)).set b (l.getD a 0))
   = (cB f ((l.set a (l.getD b 0)).set b (l.getD a 0))+f (l.getD b 0))+f (l.getD a 0):=by grind
  _=(cB f (l.set a (l.getD b 0))+f (l.getD a 0))+f (l.getD a 0):=by rw [h2]
  _=(cB f l+f (l.getD b 0))+f (l.getD a 0):=by rw [h1]
  _=f (l.getD b 0)+f (l.getD a 0)+cB f l:=by grind
theorem xy (f:Nat->Nat) (hf:∀ r,1<=f r) (l:List Nat) (a b:Nat) (ha:a<l.length) (hb:b<l.length):bm f (gY l a b)=bm f l:=by
 have h1:=rz f (l.getD b 0) l a ha;have h2:=rz f (l.getD a 0) (l.set a (l.getD b 0)) b (by simpa using hb);have h3:(l.set a (l.getD b 0)).getD b 0=l.getD b 0:=by
  by_cases h:a=b
  ·subst h;rw [List.getD_eq_getElem?_getD,List.getElem?_set];simp [ha]
  ·rw [List.getD_eq_getElem?_getD,List.getElem?_set,if_neg h,<- List.getD_eq_getElem?_getD]
 rw [h3] at h2;show bm f ((l.set a (l.getD b 0)).set b (l.getD a 0))=_
 have hp:0<f (l.getD b 0)*f (l.getD a 0):=Nat.mul_pos (hf _) (hf _);apply Nat.eq_of_mul_eq_mul_left hp
 calc f (l.getD b 0)*f (l.getD a 0)*bm f ((l.set a (l.getD b 0)).set b (l.getD a 0))
   = (bm f ((l.set a (l.getD b 0)).set b (l.getD a 0))*f (l.getD b 0))*f (l.getD a 0):=by grind
  _=(bm f (l.set a (l.getD b 0))*f (l.getD a 0))*f (l.getD a 0):=by rw [h2]
  _=(bm f l*f (l.getD b 0))*f (l.getD a 0):=by rw [h1]
  _=f (l.getD b 0)*f (l.getD a 0)*bm f l:=by grind
theorem dL (l:List Nat) (a b k:Nat) (ha:k<=a) (hb:k<=b):(gY l a b).take k=l.take k:=by
 unfold gY;rw [List.take_set_of_le (by omega),List.take_set_of_le (by omega)]
theorem dr (l:List Nat) (k:Nat) (h:k<l.length):(l.take (k+1)).reverse=l.getD k 0 :: (l.take k).reverse:=by
 rw [List.take_add_one,List.getElem?_eq_getElem h,List.getD_eq_getElem?_getD,List.getElem?_eq_getElem h];simp
def Left (W:Nat->Nat->Rat) (ρ γ:List Nat) (d:Rat) (i:Nat) (R:Nat->Rat):Prop :=
 ∃ S,fk W ρ S/\(∀ j,R j=d*W i j+S j)/\∀ c∈γ,R c=0
def DoneR (W:Nat->Nat->Rat) (ρ γ:List Nat) (c i:Nat) (R:Nat->Rat):Prop :=
 ∃ e S,e≠0/\fk W ρ S/\(∀ j,R j=e*W i j+S j)/\(∀ c∈γ,R c=0)/\R c≠0
structure St (W:Nat->Nat->Rat) (m done:Nat) (perm order:List Nat) (R:Nat->Nat->Rat) (d s:Rat):Prop where
 pl:perm.length=m
 pm:∀ r,r<m->r∈perm
 pb:∀ r∈perm,r<m
 pp:∀ c:Nat->Nat,(∀ r,1<=c r)->bm c perm=bm c (List.range m)
 ol:order.length=m
 om:∀ j,j<m->j∈order
 ob:∀ j∈order,j<m
 oi:∀ i k,i<m->k<m->order.getD i 0=order.getD k 0->i=k
 os:∀ f:Nat->Rat,cB f order=cB f (List.range m)
 le:done<=m
 ind:Ind W (perm.take done).reverse (order.take done).reverse
 dn:d≠0
 dd:d=s*gD W (order.take done).reverse (perm.take done).reverse
 sg:s=1∨s = -1
 todo:∀ i,done<=i->i<m->Left W (perm.take done).reverse (order.take done).reverse d (perm.getD i 0) (R i)
 fin:∀ t,t<done->DoneR W (perm.take t).reverse (order.take t).reverse (order.getD t 0) (perm.getD t 0) (R t)
theorem js (m i:Nat) (h:i<m):(List.range m).getD i 0=i:=by
 rw [List.getD_eq_getElem?_getD,List.getElem?_range h];rfl
theorem vh (W:Nat->Nat->Rat) (m:Nat):St W m 0 (List.range m) (List.range m) W 1 1 where
 pl:=List.length_range
 pm:=fun r h=>List.mem_range.2 h
 pb:=fun r h=>List.mem_range.1 h
 pp:=fun _ _=>rfl
 ol:=List.length_range
 om:=fun r h=>List.mem_range.2 h
 ob:=fun r h=>List.mem_range.1 h
 oi:=fun i k hi hk e=>by rw [js m i hi,js m k hk] at e;exact e
 os:=fun _=>rfl
 le:=Nat.zero_le _
 ind:=by simpa using ind_nil W
 dn:=oneN
 dd:=by simp only [List.take_zero,List.reverse_nil,gD];rw [kT]
 sg:=.inl rfl
 todo:=fun i _ h=>⟨fun _=>0,rI W _,fun j=>by rw [js m i h,kT,cC],by simp⟩
 fin:=fun t h=>by omega
theorem yA {W:Nat->Nat->Rat} {m done:Nat} {perm order:List Nat} {R:Nat->Nat->Rat} {d s:Rat} (h:St W m done perm order R d s)
  {a b:Nat} (hd:done<m) (ha:done<=a) (ha2:a<m) (hb:done<=b) (hb2:b<m) :
  St W m done (gY perm done a) (gY order done b) (fun i=>R (bT done a i)) d s:=by
 have hp1:done<perm.length:=by rw [h.pl];exact hd
 have hp2:a<perm.length:=by rw [h.pl];exact ha2
 have ho1:done<order.length:=by rw [h.ol];exact hd
 have ho2:b<order.length:=by rw [h.ol];exact hb2
 constructor
 ·rw [kM];exact h.pl
 ·intro r hr;exact (kO perm done a r hp1 hp2).2 (h.pm r hr)
 ·intro r hr;exact h.pb r ((kO perm done a r hp1 hp2).1 hr)
 ·intro c hc;rw [xy c hc perm done a hp1 hp2];exact h.pp c hc
 ·rw [kM];exact h.ol
 ·intro r hr;exact (kO order done b r ho1 ho2).2 (h.om r hr)
 ·intro r hr;exact h.ob r ((kO order done b r ho1 ho2).1 hr)
 ·intro i k hi hk e;rw [dq _ _ _ _ ho1 ho2,dq _ _ _ _ ho1 ho2] at e;have h1:=h.oi _ _ (fh hd hb2 hi) (fh hd hb2 hk) e;rw [<- gV done b i,h1,gV]
 ·intro f;rw [AB f order done b ho1 ho2];exact h.os f
 ·exact h.le
 ·rw [dL _ _ _ _ (Nat.le_refl _) ha,dL _ _ _ _ (Nat.le_refl _) hb];exact h.ind
 ·exact h.dn
 ·rw [dL _ _ _ _ (Nat.le_refl _) ha,dL _ _ _ _ (Nat.le_refl _) hb];exact h.dd
 ·exact h.sg
 ·intro i hi hi2;rw [dL _ _ _ _ (Nat.le_refl _) ha,dL _ _ _ _ (Nat.le_refl _) hb,dq _ _ _ _ hp1 hp2];exact h.todo _ (Dc (Nat.le_refl _) ha hi) (fh hd ha2 hi2)
 ·intro t ht;rw [dL _ _ _ _ (by omega) (by omega),dL _ _ _ _ (by omega) (by omega),dq _ _ _ _ hp1 hp2,dq _ _ _ _ ho1 ho2,
   m8 (Nat.le_refl _) ha ht,m8 (Nat.le_refl _) hb ht]
  exact h.fin t ht
theorem st_step {W:Nat->Nat->Rat} {m done:Nat} {perm order:List Nat} {R R':Nat->Nat->Rat} {d s u p:Rat} (h:St W m done perm order R d s)
  (hd:done<m) (hu:u=1∨u = -1) (hlow:∀ t,t<done->∀ j,R' t j=R t j)
  (hpiv:∀ j,R' done j=u*R done j) (hp:p=R' done (order.getD done 0)) (hn:p≠0)
  (hrest:∀ i,done<i->i<m->∀ j,R' i j=(p*R i j-R i (order.getD done 0)*R' done j) / d) :
  St W m (done+1) perm order R' p (u*s):=by
 obtain ⟨S,hS,hR,h0⟩:=h.todo done (Nat.le_refl _) hd;have hp1:done<perm.length:=by rw [h.pl];exact hd
 have ho1:done<order.length:=by rw [h.ol];exact hd
 have hun:u≠0:=by rcases hu with e | e<;>rw [e];exact oneN;exact Cd oneN
 have hRn:R done (order.getD done 0)≠0:=by
  intro e;apply hn;rw [hp,hpiv,e,dU]
 have hR2:∀ j,R' done j=u*d*W (perm.getD done 0) j+u*S j:=by
  intro j;rw [hpiv,hR,lS,mulA]
 have hS2:fk W (perm.take done).reverse (fun j=>u*S j):=mq W u hS;have h02:∀ c∈(order.take done).reverse,R' done c=0:=by
  intro c hc;rw [hpiv,h0 c hc,dU]
 constructor
 ·exact h.pl
 ·exact h.pm
 ·exact h.pb
 ·exact h.pp
 ·exact h.ol
 ·exact h.om
 ·exact h.ob
 ·exact h.oi
 ·exact h.os
 ·exact hd
 ·rw [dr _ _ hp1,dr _ _ ho1];exact BN W h.ind h.dn hR hS h0 hRn
 ·exact hn
 ·rw [dr _ _ hp1,dr _ _ ho1,hp,hpiv,yw W h.ind h.dd hR hS h0 (order.getD done 0),mulA]
 ·rcases hu with e | e<;>rcases h.sg with e' | e' <;> rw [e,e']
  ·left;exact kT 1
  ·right;exact kT _
  ·right;exact rT _
  ·left;rw [pw,kT,j8]
 ·intro i hi hi2;rw [dr _ _ hp1,dr _ _ ho1];obtain ⟨S',hS',hR',h0'⟩:=h.todo i (by omega) hi2;obtain ⟨T,hT,hE⟩:=CM W (p:=p) (i:=perm.getD done 0) (i':=perm.getD i 0) (R i (order.getD done 0)) h.dn hR2 hS2 hR' hS';refine ⟨T,hT,fun j=>?_,fun c hc=>?_⟩
  ·rw [hrest i hi hi2 j,hE j]
  ·rw [hrest i hi hi2 c];rcases List.mem_cons.1 hc with e | e
   ·subst e;rw [<- hp,mS p,subE,oD,vS h.dn]
   ·rw [h0' c e,h02 c e,dU,dU,subE,jm,cC,vS h.dn]
 ·intro t ht;by_cases e:t=done
  ·subst e;exact ⟨u*d,_,pr hun h.dn,hS2,hR2,h02,by rw [<- hp];exact hn⟩
  ·obtain ⟨e',S',he',hS',hR',h0',hn'⟩:=h.fin t (by omega);refine ⟨e',S',he',hS',fun j=>?_,fun c hc=>?_,?_⟩
   ·rw [hlow t (by omega) j];exact hR' j
   ·rw [hlow t (by omega) c];exact h0' c hc
   ·rw [hlow t (by omega)];exact hn'
def mD (W:Nat->Nat->Rat) (m:Nat) (x:Nat->Rat):Prop:=x m = -1/\∀ r,r<m->cX (m+1) x (W r)=0
theorem mZ {W:Nat->Nat->Rat} {m done:Nat} {perm order:List Nat} {R:Nat->Nat->Rat} {d s:Rat} (h:St W m done perm order R d s) (x:Nat->Rat) :
  (∀ r,r<m->cX (m+1) x (W r)=0)↔∀ i,i<m->cX (m+1) x (R i)=0:=by
 have hpt:∀ t,t<m->perm.getD t 0<m:=fun t ht=>h.pb _ (dm perm t (by rw [h.pl];exact ht))
 have hrev:∀ k,∀ r∈(perm.take k).reverse,∃ t,t<k/\t<m/\perm.getD t 0=r:=by
  intro k r hr;rw [List.mem_reverse] at hr;obtain ⟨i,hi,e⟩:=ff hr;rw [List.length_take] at hi;refine ⟨i,by omega,by rw [<- h.pl];omega,?_⟩;rw [<- e,List.getD_eq_getElem?_getD,List.getD_eq_getElem?_getD,List.getElem?_take,if_pos (by omega)]
 constructor
 ·intro hW i hi;have hsp:∀ k (S:Nat->Rat),fk W (perm.take k).reverse S->cX (m+1) x S=0:=fun k S hS =>
   pU W (m+1) x _ S hS (fun r hr=>by obtain ⟨t,_,ht,e⟩:=hrev k r hr;rw [<- e];exact hW _ (hpt t ht))
  by_cases hd:i<done
  ·obtain ⟨e,S,_,hS,hR,_⟩:=h.fin i hd;rw [funext hR,lU,hW _ (hpt i hi),hsp i S hS,dU,cC]
  ·obtain ⟨S,hS,hR,_⟩:=h.todo i (by omega) hi;rw [funext hR,lU,hW _ (hpt i hi),hsp done S hS,dU,cC]
 ·intro hR;have hlow:∀ t,t<done->cX (m+1) x (W (perm.getD t 0))=0:=by
   intro t;induction t using Nat.strongRecOn with
   | _ t ih =>
    intro ht;obtain ⟨e,S,he,hS,hE,_⟩:=h.fin t ht;have h1:=hR t (by have:=h.le;omega);rw [funext hE,lU,pU W (m+1) x _ S hS (fun r hr=>by
     obtain ⟨q,hq,_,e⟩:=hrev t r hr;rw [<- e];exact ih q hq (by omega)),cC] at h1
    exact iw he h1
  have hall:∀ t,t<m->cX (m+1) x (W (perm.getD t 0))=0:=by
   intro t ht;by_cases hd:t<done
   ·exact hlow t hd
   ·obtain ⟨S,hS,hE,_⟩:=h.todo t (by omega) ht;have h1:=hR t ht;rw [funext hE,lU,pU W (m+1) x _ S hS (fun r hr=>by
     obtain ⟨q,hq,_,e⟩:=hrev done r hr;rw [<- e];exact hlow q hq),cC] at h1
    exact iw h.dn h1
  intro r hr;obtain ⟨i,hi,e⟩:=ff (h.pm r hr);rw [<- e];exact hall i (by rw [<- h.pl];exact hi)
open Nums
theorem uW {Wh:Nat->Rat->Prop} (hW:sZ Wh) {s:Rat} (hs:s=1∨s = -1) {b:Nat} {x:Rat} (h:Wh b x):Wh b (s*x):=by
 rcases hs with e | e<;>rw [e]
 ·rw [kT];exact h
 ·rw [pw,kT];exact hW.neg _ _ h
def gE (m:Nat) (b:Nat->Nat):Nat:=bm (fun r=>m*b r) (List.range m)
theorem Ak (c:Nat->Nat) (hc:∀ r,1<=c r) {v:Nat} : ∀ l:List Nat,v∈l->c v<=bm c l:=by
 intro l;induction l with
 | nil=>intro h;simp at h
 | cons a l ih =>
  intro h;simp only [bm];rcases List.mem_cons.1 h with e | e
  ·rw [e];exact Nat.le_mul_of_pos_right _ (mW c hc l)
  ·exact Nat.le_trans (ih e) (Nat.le_mul_of_pos_left _ (hc a))
theorem mX (c:Nat->Nat):∀ l:List Nat,bm c l.reverse=bm c l:=by
 intro l;induction l with
 | nil=>rfl
 | cons a l ih=>rw [List.reverse_cons,iW,ih];simp only [bm];rw [Nat.mul_one,Nat.mul_comm]
theorem xm (c:Nat->Nat) (hc:∀ r,1<=c r) (l:List Nat) (k:Nat):bm c (l.take k)<=bm c l:=by
 conv=>rhs;rw [<- List.take_append_drop k l]
 rw [iW];exact Nat.le_mul_of_pos_right _ (mW c hc _)
theorem Al (c:Nat->Nat) (hc:∀ r,1<=c r) (l:List Nat) (k i:Nat) (hi:k<=i) (hi2:i<l.length):bm c (l.getD i 0 :: (l.take k).reverse)<=bm c l:=by
 conv=>rhs;rw [<- List.take_append_drop k l]
 rw [iW];simp only [bm];rw [mX,Nat.mul_comm];apply Nat.mul_le_mul (Nat.le_refl _);apply Ak c hc;have:=dm (l.drop k) (i-k) (by rw [List.length_drop];omega);rw [List.getD_eq_getElem?_getD,List.getElem?_drop,<- List.getD_eq_getElem?_getD] at this;rw [show k+(i-k)=i by omega] at this;exact this
theorem st_wh {Wh:Nat->Rat->Prop} (hW:sZ Wh) {W:Nat->Nat->Rat} {m done:Nat} {b:Nat->Nat} {perm order:List Nat} {R:Nat->Nat->Rat} {d s:Rat}
  (h:St W m done perm order R d s) (hb:∀ r,1<=b r) (hB:∀ r j,Wh (b r) (W r j)) (i:Nat) (hi:done<=i) (hi2:i<m) (j:Nat):Wh (gE m b) (R i j):=by
 obtain ⟨S,hS,hR,h0⟩:=h.todo i hi hi2;rw [yw W h.ind h.dd hR hS h0 j];apply uW hW h.sg;have hc:∀ r,1<=m*b r:=fun r=>Nat.mul_pos (by omega) (hb r)
 have hl:(perm.getD i 0 :: (perm.take done).reverse).length<=m:=by
  simp only [List.length_cons,List.length_reverse,List.length_take];omega
 have:=wk hW W b hb hB m (by omega) (j :: (order.take done).reverse) _ hl;refine hW.mono _ _ _ ?_ this;unfold gE;rw [<- h.pp _ hc];exact Al _ hc perm done i hi (by rw [h.pl];exact hi2)
theorem st_wh_d {Wh:Nat->Rat->Prop} (hW:sZ Wh) {W:Nat->Nat->Rat} {m done:Nat} {b:Nat->Nat} {perm order:List Nat} {R:Nat->Nat->Rat} {d s:Rat}
  (h:St W m done perm order R d s) (hm:0<m) (hb:∀ r,1<=b r) (hB:∀ r j,Wh (b r) (W r j)):Wh (gE m b) d:=by
 rw [h.dd];apply uW hW h.sg;have hc:∀ r,1<=m*b r:=fun r=>Nat.mul_pos hm (hb r)
 have hl:(perm.take done).reverse.length<=m:=by
  simp only [List.length_reverse,List.length_take];have:=h.le;omega
 have:=wk hW W b hb hB m hm (order.take done).reverse _ hl;refine hW.mono _ _ _ ?_ this;unfold gE;rw [<- h.pp _ hc,mX];exact xm _ hc perm done
theorem kZ {l:List Nat} {k v:Nat} (h:v∈l.take k):∃ t,t<k/\t<l.length/\l.getD t 0=v:=by
 obtain ⟨i,hi,e⟩:=ff h;rw [List.length_take] at hi;refine ⟨i,by omega,by omega,?_⟩;rw [<- e,List.getD_eq_getElem?_getD,List.getD_eq_getElem?_getD,List.getElem?_take,if_pos (by omega)]
theorem iC {l:List Nat} {k t:Nat} (h:t<k) (h2:t<l.length):l.getD t 0∈l.take k:=by
 have:=dm (l.take k) t (by rw [List.length_take];omega);rw [List.getD_eq_getElem?_getD,List.getElem?_take,if_pos h,<- List.getD_eq_getElem?_getD] at this;exact this
theorem qd (f:Nat->Rat):∀ (l:List Nat) (t:Nat),t<l.length->cB f l=cB f (l.take t)+(f (l.getD t 0)+cB f (l.drop (t+1))):=by
 intro l;induction l with
 | nil=>intro t h;simp at h
 | cons a l ih =>
  intro t h;cases t with
  | zero=>simp only [List.take_zero,List.getD_cons_zero,cB,List.drop_succ_cons,List.drop_zero];rw [mC]
  | succ t =>
   simp only [List.take_succ_cons,List.getD_cons_succ,cB,List.drop_succ_cons];rw [ih t (by simpa using h),td]
def upd (x:Nat->Rat) (c:Nat) (v:Rat):Nat->Rat:=fun j=>if j=c then v else x j
theorem dot_upd (x R:Nat->Rat) (c:Nat) (v:Rat):∀ n,c<n->cX n (upd x c v) R=cX n x R+R c*(v + -(x c)):=by
 intro n;induction n with
 | zero=>intro h;omega
 | succ n ih =>
  intro h;simp only [cX];by_cases e:c=n
  ·subst e;have h1:cX c (upd x c v) R=cX c x R:=zu _ _ _ _ c (fun j hj=>by simp only [upd];rw [if_neg (by omega)]);have h2:upd x c v c=v:=by simp [upd]
   rw [h1,h2,lS,oH]
   calc cX c x R+R c*v=cX c x R+(R c*x c + -(R c*x c))+R c*v:=by rw [oD,cC]
    _=cX c x R+R c*x c+(R c*v + -(R c*x c)):=by grind
  ·have h2:upd x c v n=x n:=by simp only [upd];rw [if_neg (by omega)]
   rw [ih (by omega),h2];grind
theorem oy {W:Nat->Nat->Rat} {m done:Nat} {perm order:List Nat} {R:Nat->Nat->Rat} {d s:Rat} (h:St W m done perm order R d s) (x0:Nat->Rat) :
  ∃ x:Nat->Rat,(∀ j,j∉order.take done->x j=x0 j)/\∀ t,t<done->cX (m+1) x (R t)=0:=by
 have key:∀ k,k<=done->∃ x:Nat->Rat,(∀ j,j∉order.take done->x j=x0 j)/\∀ t,done-k<=t->t<done->cX (m+1) x (R t)=0:=by
  intro k;induction k with
  | zero=>intro _;exact ⟨x0,fun _ _=>rfl,fun t h1 h2=>by omega⟩
  | succ k ih =>
   intro hk;obtain ⟨x,hx,hE⟩:=ih (by omega);have hq:done-(k+1)<done:=by omega
   have hm:=h.le;obtain ⟨e,S,_,_,_,_,hn⟩:=h.fin (done-(k+1)) hq;have hol:=h.ol;have hc:order.getD (done-(k+1)) 0<m:=h.ob _ (dm order _ (by omega));refine ⟨upd x (order.getD (done-(k+1)) 0) (x (order.getD (done-(k+1)) 0) + -(cX (m+1) x (R (done-(k+1))) / R (done-(k+1)) (order.getD (done-(k+1)) 0))),fun j hj=>?_,fun t h1 h2=>?_⟩
   ·have:j≠order.getD (done-(k+1)) 0:=by
     intro e;apply hj;rw [e];exact iC hq (by omega)
    simp only [upd];rw [if_neg this];exact hx j hj
   ·rw [dot_upd _ _ _ _ (m+1) (by omega)];by_cases ht:t=done-(k+1)
    ·subst ht;have h3:x (order.getD (done-(k+1)) 0) + -(cX (m+1) x (R (done-(k+1))) / R (done-(k+1)) (order.getD (done-(k+1)) 0)) + -(x (order.getD (done-(k+1)) 0))
       = -(cX (m+1) x (R (done-(k+1))) / R (done-(k+1)) (order.getD (done-(k+1)) 0)):=by
      calc x (order.getD (done-(k+1)) 0) + -(cX (m+1) x (R (done-(k+1))) / R (done-(k+1)) (order.getD (done-(k+1)) 0)) + -(x (order.getD (done-(k+1)) 0))
        = -(cX (m+1) x (R (done-(k+1))) / R (done-(k+1)) (order.getD (done-(k+1)) 0))+(x (order.getD (done-(k+1)) 0) + -(x (order.getD (done-(k+1)) 0))):=by grind
       _=_:=by rw [oD,cC]
     rw [h3,oH,mS,divM _ _ hn,oD]
    ·obtain ⟨_,_,_,_,_,h0,_⟩:=h.fin t h2;have hz:=h0 (order.getD (done-(k+1)) 0) (by rw [List.mem_reverse];exact iC (by omega) (by omega));rw [hz,jF,cC];exact hE t (by omega) h2
 obtain ⟨x,hx,hE⟩:=key done (Nat.le_refl _);exact ⟨x,hx,fun t ht=>hE t (by omega) ht⟩
theorem pX {W:Nat->Nat->Rat} {m done:Nat} {perm order:List Nat} {R:Nat->Nat->Rat} {d s:Rat} (h:St W m done perm order R d s)
  (hz:∀ i,done<=i->i<m->∀ k,done<=k->k<m->R i (order.getD k 0)=0) (i:Nat) (hi:done<=i) (hi2:i<m) (j:Nat) (hj:j<m):R i j=0:=by
 obtain ⟨k,hk,e⟩:=ff (h.om j hj);rw [h.ol] at hk;rw [<- e];by_cases hd:k<done
 ·obtain ⟨S,_,_,h0⟩:=h.todo i hi hi2;exact h0 _ (by rw [List.mem_reverse];exact iC hd (by rw [h.ol];exact hk))
 ·exact hz i hi hi2 k (by omega) hk
theorem st_none {W:Nat->Nat->Rat} {m done:Nat} {perm order:List Nat} {R:Nat->Nat->Rat} {d s:Rat} (h:St W m done perm order R d s)
  (hz:∀ i,done<=i->i<m->∀ k,done<=k->k<m->R i (order.getD k 0)=0) {i:Nat} (hi:done<=i) (hi2:i<m) (hn:R i m≠0):¬ ∃ x,mD W m x:=by
 rintro ⟨x,hx,hE⟩;have h1:=(mZ h x).1 hE i hi2;simp only [cX] at h1;rw [oX x (R i) m (fun j hj=>by rw [pX h hz i hi hi2 j hj,jF]),mC,hx,oH,rT] at h1;exact Cd hn h1
theorem st_many {W:Nat->Nat->Rat} {m done:Nat} {perm order:List Nat} {R:Nat->Nat->Rat} {d s:Rat} (h:St W m done perm order R d s) (hd:done<m)
  (hz:∀ i,done<=i->i<m->∀ k,done<=k->k<m->R i (order.getD k 0)=0) (hn:∀ i,done<=i->i<m->R i m=0) :
  ∃ x y:Nat->Rat,mD W m x/\mD W m y/\∃ j,j<m/\x j≠y j:=by
 have hol:=h.ol;have hmk:∀ v:Rat,∃ x:Nat->Rat,mD W m x/\x (order.getD done 0)=v:=by
  intro v;obtain ⟨x,hx,hE⟩:=oy h (fun j=>if j=m then -1 else v);have hm:m∉order.take done:=fun hm=>by
   have:=h.ob m (List.mem_of_mem_take hm);omega
  have ho:order.getD done 0∉order.take done:=fun hm=>by
   obtain ⟨t,ht,ht2,e⟩:=kZ hm;have:=h.oi t done (by omega) hd e;omega
  have hlt:order.getD done 0<m:=h.ob _ (dm order _ (by omega));refine ⟨x,⟨?_,(mZ h x).2 (fun i hi=>?_)⟩,?_⟩
  ·rw [hx m hm,if_pos rfl]
  ·by_cases hi2:i<done
   ·exact hE i hi2
   ·apply oX;intro j hj;by_cases hjm:j=m
    ·rw [hjm,hn i (by omega) hi,jF]
    ·rw [pX h hz i (by omega) hi j (by omega),jF]
  ·rw [hx _ ho,if_neg (by omega)]
 obtain ⟨x,hx,ex⟩:=hmk 0;obtain ⟨y,hy,ey⟩:=hmk 1;refine ⟨x,y,hx,hy,order.getD done 0,h.ob _ (dm order _ (by omega)),?_⟩;rw [ex,ey];exact fun e=>oneN e.symm
theorem zF {u v:Nat->Rat} : ∀ (l:List Nat) (f:List Nat->Rat),(∀ r∈l,u r=v r)->fZ u f l=fZ v f l:=by
 intro l;induction l with
 | nil=>intro _ _;rfl
 | cons a l ih =>
  intro f h;simp only [fZ];rw [h a (List.mem_cons_self ..),ih _ (fun r hr=>h r (List.mem_cons_of_mem _ hr))]
theorem BR (a:Rat) (u v:Nat->Rat):∀ (l:List Nat) (f:List Nat->Rat),fZ (fun r=>a*u r+v r) f l=a*fZ u f l+fZ v f l:=by
 intro l;induction l with
 | nil=>intro f;simp only [fZ];rw [dU,cC]
 | cons r l ih =>
  intro f;simp only [fZ];rw [ih];simp only [lS,qZ,wW,oH];grind
theorem zG:∀ (l:List Nat) (f:List Nat->Rat),fZ (fun _=>(0:Rat)) f l=0:=by
 intro l;induction l with
 | nil=>intro f;rfl
 | cons r l ih=>intro f;simp only [fZ];rw [ih,jF,jm,cC]
theorem det_sum (W:Nat->Nat->Rat) (x:Nat->Rat) (γ l:List Nat):∀ o:List Nat,
  fZ (fun r=>cB (fun j=>W r j*x j) o) (gD W γ) l=cB (fun j=>x j*gD W (j :: γ) l) o:=by
 intro o;induction o with
 | nil=>exact zG l _
 | cons a o ih =>
  simp only [cB];rw [<- ih];show _=x a*fZ (fun r=>W r a) (gD W γ) l+_
  rw [<- BR];congr 1
  funext r
  rw [mS]
theorem Aw {Wh:Nat->Rat->Prop} (hW:sZ Wh) {W:Nat->Nat->Rat} {m:Nat} {b:Nat->Nat} {perm order:List Nat} {R:Nat->Nat->Rat} {d s:Rat}
  (h:St W m m perm order R d s) (hb:∀ r,1<=b r) (hB:∀ r j,Wh (b r) (W r j)) {y:Nat->Rat} (hy:mD W m y) (t:Nat) (ht:t<m) :
  Wh (gE m b) (d*y (order.getD t 0)):=by
 have hol:=h.ol;have hpl:=h.pl;have ho:order.take m=order:=List.take_of_length_le (by omega);have hp:perm.take m=perm:=List.take_of_length_le (by omega);have hdd:=h.dd;rw [ho,hp] at hdd;have hrhs:∀ r∈perm.reverse,W r m=cB (fun j=>W r j*y j) order:=by
  intro r hr;rw [List.mem_reverse] at hr;have h2:=hy.2 r (h.pb r hr);simp only [cX] at h2;rw [hy.1,oH,rT] at h2;rw [h.os,p7];exact (kA h2).symm
 have hsplit:order.reverse=(order.drop (t+1)).reverse++order.getD t 0 :: (order.take t).reverse:=by
  have e:order=order.take t++order.getD t 0 :: order.drop (t+1):=by
   rw [List.getD_eq_getElem?_getD,List.getElem?_eq_getElem (by omega)];simp
  conv=>lhs;rw [e]
  simp
 have hE:gD W (m :: ((order.drop (t+1)).reverse++(order.take t).reverse)) perm.reverse
   = y (order.getD t 0)*gD W (order.getD t 0 :: ((order.drop (t+1)).reverse++(order.take t).reverse)) perm.reverse:=by
  show fZ (fun r=>W r m) _ _=_
  rw [zF perm.reverse _ hrhs,det_sum,qd _ order t (by omega)];rw [m7 _ (order.take t) (fun j hj=>by rw [se W j _ (by simp [hj]),dU]),
   m7 _ (order.drop (t+1)) (fun j hj=>by rw [se W j _ (by simp [hj]),dU]),cC,mC]
 have hwE:Wh (gE m b) (gD W (m :: ((order.drop (t+1)).reverse++(order.take t).reverse)) perm.reverse):=by
  have hc:∀ r,1<=m*b r:=fun r=>Nat.mul_pos (by omega) (hb r)
  have:=wk hW W b hb hB m (by omega) (m :: ((order.drop (t+1)).reverse++(order.take t).reverse)) perm.reverse (by rw [List.length_reverse];omega);refine hW.mono _ _ _ ?_ this;unfold gE;rw [<- h.pp _ hc,mX];exact Nat.le_refl _
 have hf:d*y (order.getD t 0)=s*gD W (m :: ((order.drop (t+1)).reverse++(order.take t).reverse)) perm.reverse
   ∨ d*y (order.getD t 0) = -(s*gD W (m :: ((order.drop (t+1)).reverse++(order.take t).reverse)) perm.reverse):=by
  rw [hE,hdd,hsplit];rcases zq W (order.getD t 0) (order.take t).reverse (order.drop (t+1)).reverse perm.reverse with e | e
  ·left;rw [e];grind
  ·right;rw [e,oH,pw];congr 1;grind
 rcases hf with e | e<;>rw [e]
 ·exact uW hW h.sg hwE
 ·exact hW.neg _ _ (uW hW h.sg hwE)
theorem st_full {Wh:Nat->Rat->Prop} (hW:sZ Wh) {W:Nat->Nat->Rat} {m:Nat} {b:Nat->Nat} {perm order:List Nat} {R:Nat->Nat->Rat} {d s:Rat}
  (h:St W m m perm order R d s) (hb:∀ r,1<=b r) (hB:∀ r j,Wh (b r) (W r j)) :
  ∃ y:Nat->Rat,mD W m y/\(∀ z,mD W m z->∀ j,j<m->z j=y j)/\(∀ t,t<m->Wh (gE m b) (d*y (order.getD t 0)))
   /\ ∀ t,t<m->R t (order.getD t 0)≠0/\d*R t m-cB (fun v=>R t v*(d*y v)) (order.drop (t+1))=d*y (order.getD t 0)*R t (order.getD t 0):=by
 have hol:=h.ol;obtain ⟨y,hy,hE⟩:=oy h (fun _=>-1);have hm:m∉order.take m:=fun hm=>by
  have:=h.ob m (List.mem_of_mem_take hm);omega
 have hS:mD W m y:=⟨hy m hm,(mZ h y).2 (fun i hi=>hE i hi)⟩;have hform:∀ z,mD W m z->∀ t,t<m->R t m=R t (order.getD t 0)*z (order.getD t 0)+cB (fun v=>R t v*z v) (order.drop (t+1)):=by
  intro z hz t ht;have h2:=(mZ h z).1 hz.2 t ht;simp only [cX] at h2;rw [hz.1,oH,rT,<- p7,<- h.os,qd _ order t (by omega)] at h2;obtain ⟨_,_,_,_,_,h0,_⟩:=h.fin t ht;rw [m7 _ (order.take t) (fun j hj=>by rw [h0 j (by rw [List.mem_reverse];exact hj),jF]),mC] at h2;exact (kA h2).symm
 have hpiv:∀ t,t<m->R t (order.getD t 0)≠0:=fun t ht=>by
  obtain ⟨_,_,_,_,_,_,hn⟩:=h.fin t ht;exact hn
 refine ⟨y,hS,?_,fun t ht=>Aw hW h hb hB hS t ht,fun t ht=>⟨hpiv t ht,?_⟩⟩
 ·intro z hz;have key:∀ k,k<=m->∀ t,m-k<=t->t<m->z (order.getD t 0)=y (order.getD t 0):=by
   intro k;induction k with
   | zero=>intro _ t h2 h3;omega
   | succ k ih =>
    intro hk t h2 h3;by_cases e:m-k<=t
    ·exact ih (by omega) t e h3
    ·have ea:=hform z hz t h3;have eb:=hform y hS t h3;have hs:cB (fun v=>R t v*z v) (order.drop (t+1))=cB (fun v=>R t v*y v) (order.drop (t+1)):=by
      apply p6;intro j hj;obtain ⟨q,hq,eq⟩:=ff hj;rw [List.length_drop] at hq;rw [List.getD_eq_getElem?_getD,List.getElem?_drop,<- List.getD_eq_getElem?_getD] at eq;rw [<- eq,ih (by omega) (t+1+q) (by omega) (by omega)]
     rw [ea,hs,yL] at eb;rw [yL (R t (order.getD t 0)*y _)] at eb;have e3:=canc eb;have e4:R t (order.getD t 0)*(z (order.getD t 0) + -(y (order.getD t 0)))=0:=by
      rw [lS,oH,e3,oD]
     exact kA (iw (hpiv t h3) e4)
  intro j hj;obtain ⟨t,ht,e⟩:=ff (h.om j hj);rw [<- e];exact key m (Nat.le_refl _) t (by omega) (by omega)
 ·have e:=hform y hS t ht;have hs:cB (fun v=>R t v*(d*y v)) (order.drop (t+1))=d*cB (fun v=>R t v*y v) (order.drop (t+1)):=by
   rw [<- Da];apply p6;intro j _;grind
  rw [hs,e,subE,lS,td,oD,cC];grind
def mF (b:Nat) (q:Rat):Prop:=q.den=1/\rN q<=b
theorem oB {q:Rat} (h:q.den=1):q=((q.num:Int):Rat):=by
 apply Rat.ext
 ·rfl
 ·rw [h];rfl
theorem Dk (z:Int) (b:Nat) (h:z.natAbs<=b):mF b ((z:Int):Rat):=⟨rfl,h⟩
theorem fj:sZ mF where
 zero:=fun b=>⟨rfl,Nat.zero_le _⟩
 one:=fun b h=>⟨rfl,h⟩
 add:=by
  rintro b c x y ⟨h1,h2⟩ ⟨h3,h4⟩;rw [oB h1,oB h3];have e:((x.num:Int):Rat)+((y.num:Int):Rat)=((x.num+y.num:Int):Rat):=(Rat.intCast_add _ _).symm;show mF _ (((x.num:Int):Rat)+((y.num:Int):Rat))
  rw [e];refine Dk _ _ ?_;unfold rN at h2 h4;omega
 mul:=by
  rintro b c x y ⟨h1,h2⟩ ⟨h3,h4⟩;rw [oB h1,oB h3];have e:((x.num:Int):Rat)*((y.num:Int):Rat)=((x.num*y.num:Int):Rat):=(Rat.intCast_mul _ _).symm;show mF _ (((x.num:Int):Rat)*((y.num:Int):Rat))
  rw [e];refine Dk _ _ ?_;rw [Int.natAbs_mul];exact Nat.mul_le_mul h2 h4
 neg:=by
  rintro b x ⟨h1,h2⟩;refine ⟨h1,?_⟩;unfold rN;show (-x).num.natAbs<=b
  rw [Rat.neg_num,Int.natAbs_neg];exact h2
 mono:=fun b c x h h1=>⟨h1.1,Nat.le_trans h1.2 h⟩
def lN (R:Nat->Rat):Nat->Nat
 | 0=>1
 | i+1=>lN R i*(R i*(lN R i:Nat)).den
def cD (R:Nat->Rat) (i:Nat):Nat->Rat:=fun j=>R j*(lN R i:Nat)
theorem vZ (R:Nat->Rat) (j:Nat):cD R 0 j=R j:=by
 unfold cD lN;show R j*((1:Nat):Rat)=R j
 rw [show ((1:Nat):Rat)=1 from rfl,Rat.mul_one]
theorem je (R:Nat->Rat) (i j:Nat):cD R (i+1) j=cD R i j*(((cD R i i).den:Nat):Rat):=by
 unfold cD;show R j*((lN R i*(R i*(lN R i:Nat)).den:Nat):Rat)=_
 rw [Rat.natCast_mul,Rat.mul_assoc]
theorem tp (R:Nat->Rat):∀ i,0<lN R i:=by
 intro i;induction i with
 | zero=>exact Nat.one_pos
 | succ i ih=>exact Nat.mul_pos ih (Rat.den_pos _)
theorem nD (x:Rat) (k:Nat):(x*(k:Nat)).den∣x.den:=by
 have e:x*((k:Nat):Rat)=mkRat (x.num*(k:Nat)) x.den:=by
  rw [Rat.mul_def',Rat.num_natCast,Rat.den_natCast,Nat.mul_one]
 rw [e,Rat.den_mkRat,if_neg x.den_nz];exact Nat.div_dvd_of_dvd (Nat.gcd_dvd_left _ _)
theorem tM {x:Rat} (k:Nat) (h:x.den=1):(x*(k:Nat)).den=1:=by
 have:=nD x k;rw [h] at this;exact Nat.dvd_one.1 this
theorem uy (x:Rat):(x*((x.den:Nat):Rat)).den=1:=by
 have e:x*((x.den:Nat):Rat)=mkRat (x.num*(x.den:Nat)) x.den:=by
  rw [Rat.mul_def',Rat.num_natCast,Rat.den_natCast,Nat.mul_one]
 rw [e,Rat.den_mkRat,if_neg x.den_nz];have hg:Nat.gcd x.den (x.num*(x.den:Nat)).natAbs=x.den:=by
  rw [Int.natAbs_mul,Int.natAbs_natCast];exact Nat.gcd_eq_left (Nat.dvd_mul_left _ _)
 first | (rw [hg];exact Nat.div_self x.den_pos) | (rw [Nat.gcd_comm,hg];exact Nat.div_self x.den_pos)
theorem tq (R:Nat->Rat):∀ i j,j<i->(cD R i j).den=1:=by
 intro i;induction i with
 | zero=>intro j h;omega
 | succ i ih =>
  intro j hj;rw [je];by_cases e:j=i
  ·rw [e];exact uy _
  ·exact tM _ (ih j (by omega))
theorem yS (R:Nat->Rat) (i j:Nat):(cD R i j).den∣(R j).den:=nD _ _
end Go.Proofs.YthblidglcppakaaGreatDoor
