/- Contracts that the proof leans on. -/
import Derived.Test.YtcoeancbjafooaaGreatDoorXCDa
namespace Go.Proofs.YtcoeancbjafooaaGreatDoor
open Go.RowKit
set_option linter.unusedVariables false
set_option linter.unusedSimpArgs false
set_option maxHeartbeats 8000000
set_option maxRecDepth 10000
theorem Ba (f:Nat->Nat->Rat) (k n:Nat):cj (fun i=>cj (fun r=>f i r) n) k=cj (fun r=>cj (fun i=>f i r) k) n:=by
 induction k with
 | zero =>
  show (0:Rat)=_
  exact (nD _ n (fun _ _=>rfl)).symm
 | succ k ih =>
  rw [bu,ih,<- kL];rfl
theorem sR (V:Nat->Rat) (c:Rat) (x:Nat):∀ n,cj (fun r=>V r*(if x=r then c else 0)) n=if x<n then V x*c else 0:=by
 intro n;induction n with
 | zero=>rw [if_neg (by omega)];rfl
 | succ n ih =>
  rw [bu,ih];by_cases e:x=n
  ·rw [if_neg (by omega),if_pos e,if_pos (by omega),e];grind
  ·rw [if_neg e];by_cases e2:x<n
   ·rw [if_pos e2,if_pos (by omega)];grind
   ·rw [if_neg e2,if_neg (by omega)];grind
theorem Dx (V:Nat->Rat) (p:aO) {n xa xb:Nat} (ea:p.a=(xa:Int)) (eb:p.b=(xb:Int)) (ha:xa<n) (hb:xb<n):cj (fun r=>V r*nO p r) n=V xa-V xb:=by
 have e:cj (fun r=>V r*nO p r) n=cj (fun r=>V r*(if xa=r then 1 else 0) + -1*(V r*(if xb=r then 1 else 0))) n:=by
  refine bZ _ _ _ (fun r _=>?_);unfold nO;rw [ea,eb];have c1:((xa:Int)=(r:Int))↔xa=r:=by omega
  have c2:((xb:Int)=(r:Int))↔xb=r:=by omega
  by_cases h1:xa=r<;>by_cases h2:xb=r<;>simp only [c1,c2,h1,h2,if_true,if_false]<;>grind
 rw [e,kL,mR,sR,sR,if_pos ha,if_pos hb];grind
def acr (ps:List aO) (V:Nat->Rat) (i:Nat):Rat:=match ps[i]? with | some p=>V p.a.toNat-V p.b.toNat | none=>0
theorem wH {n:Nat} {ps:List aO} (hR:bT n ps) {V J:Nat->Rat} (h0:V 0=0) (hK:∀ r,0<r->r<n->cj (fun i=>bH ps i r*J i) ps.length=0):cj (fun i=>acr ps V i*J i) ps.length=0:=by
 have hlo:=hR.lo;have e1:cj (fun i=>acr ps V i*J i) ps.length=cj (fun i=>cj (fun r=>V r*(bH ps i r*J i)) n) ps.length:=by
  refine bZ _ _ _ (fun i hi=>?_);obtain ⟨xa,xb,xc,xd,ea,eb,ec,ed,ha,hb,hc,hd⟩:=hR.ends ps[i] (List.getElem_mem hi);have e:cj (fun r=>V r*(bH ps i r*J i)) n=J i*cj (fun r=>V r*nO ps[i] r) n:=by
   rw [<- mR];refine bZ _ _ _ (fun r _=>?_);unfold bH;rw [List.getElem?_eq_getElem hi];show V r*(nO ps[i] r*J i)=J i*(V r*nO ps[i] r)
   grind
  rw [e,Dx V ps[i] ea eb ha hb];unfold acr;rw [List.getElem?_eq_getElem hi];show (V ps[i].a.toNat-V ps[i].b.toNat)*J i=_
  rw [ea,eb,Int.toNat_natCast,Int.toNat_natCast];grind
 rw [e1,Ba];refine nD _ _ (fun r hr=>?_);have e2:cj (fun i=>V r*(bH ps i r*J i)) ps.length=V r*cj (fun i=>bH ps i r*J i) ps.length:=mR _ _ _;rw [e2];by_cases e:r=0
 ·rw [e,h0];grind
 ·rw [hK r (by omega) hr];grind
theorem oS {ps:List aO} {V:Nat->Rat} {i:Nat} (h:i<ps.length):acr ps V i=V ps[i].a.toNat-V ps[i].b.toNat:=by
 unfold acr;rw [List.getElem?_eq_getElem h]
theorem nu (ps:List aO) (a b:Int):(aI ps a b)[ps.length]'(by simp [aI])=⟨5,b,a,0,0,⟨#[49]⟩⟩:=by simp [aI]
theorem mL (ps:List aO) (a b:Int) (i:Nat) (h:i<ps.length):(aI ps a b)[i]'(by simp [aI];omega)=ax ps[i]:=by
 unfold aI;rw [List.getElem_append_left (by simpa using h),List.getElem_map]
theorem sD {n:Nat} {ps:List aO} {a b:Int} {V I:Nat->Rat} (h:aH n (aI ps a b) V I):I ps.length=1:=by
 have:=h.part ps.length (by simp [aI]);rw [nu] at this;have e:(0:Rat)*(V b.toNat-V a.toNat)+0*(V 0-V 0)+1*I ps.length=dg 5 (dw [49]):=this;have e5:dg 5 (dw [49])=dw [49]:=by unfold dg;simp
 rw [e5,yQ] at e;grind
theorem vg:dw [48]=0:=by unfold dw;decide
theorem AE {p:aO} (h1:1<=p.kind) (h5:p.kind<=5) {x y u v:Rat}
  (e1:db (ax p).kind (ax p).q*x+di (ax p).kind (ax p).q*y=dg (ax p).kind (ax p).q)
  (e2:db (ax p).kind (ax p).q*u+di (ax p).kind (ax p).q*v=dg (ax p).kind (ax p).q):x*v=u*y:=by
 have hk:p.kind=1∨p.kind=2∨p.kind=3∨p.kind=4∨p.kind=5:=by omega
 rw [(dj p).1] at e1 e2;rcases hk with hk | hk | hk | hk | hk<;>rw [hk] at e1 e2
 ·have f1:(1:Rat)*x+(0-(ax p).q)*y=0:=e1;have f2:(1:Rat)*u+(0-(ax p).q)*v=0:=e2;have g1:x=(ax p).q*y:=by grind
  have g2:u=(ax p).q*v:=by grind
  rw [g1,g2];grind
 ·have f1:(1:Rat)*x+0*y=0:=e1;have f2:(1:Rat)*u+0*v=0:=e2;have g1:x=0:=by grind
  have g2:u=0:=by grind
  rw [g1,g2];grind
 ·have f1:(0:Rat)*x+1*y=0:=e1;have f2:(0:Rat)*u+1*v=0:=e2;have g1:y=0:=by grind
  have g2:v=0:=by grind
  rw [g1,g2];grind
 ·have eq:(ax p).q=0:=by
   unfold ax;rw [if_pos (.inl hk)];exact vg
  rw [eq] at e1 e2;have f1:(1:Rat)*x+0*y=0:=e1;have f2:(1:Rat)*u+0*v=0:=e2;have g1:x=0:=by grind
  have g2:u=0:=by grind
  rw [g1,g2];grind
 ·have eq:(ax p).q=0:=by
   unfold ax;rw [if_pos (.inr hk)];exact vg
  rw [eq] at e1 e2;have f1:(0:Rat)*x+1*y=0:=e1;have f2:(0:Rat)*u+1*v=0:=e2;have g1:y=0:=by grind
  have g2:v=0:=by grind
  rw [g1,g2];grind
theorem zI {n:Nat} {ps:List aO} {a b c d:Int} (hA:bT n (aI ps a b)) (hC:bT n (aI ps c d)) (hk:∀ p∈ps,1<=p.kind/\p.kind<=5) {V I U J:Nat->Rat} (h:aH n (aI ps a b) V I) (k:aH n (aI ps c d) U J) :
  V c.toNat-V d.toNat=U a.toNat-U b.toNat:=by
 have t1:=wH hC (V:=V) (J:=J) h.gnd k.node;have t2:=wH hA (V:=U) (J:=I) k.gnd h.node;have l1:(aI ps c d).length=ps.length+1:=by simp [aI]
 have l2:(aI ps a b).length=ps.length+1:=by simp [aI]
 rw [l1,bu,sD k] at t1;rw [l2,bu,sD h] at t2;have a1:acr (aI ps c d) V ps.length=V d.toNat-V c.toNat:=by rw [oS (by omega),nu]
 have a2:acr (aI ps a b) U ps.length=U b.toNat-U a.toNat:=by rw [oS (by omega),nu]
 rw [a1] at t1;rw [a2] at t2;have e:cj (fun i=>acr (aI ps c d) V i*J i) ps.length=cj (fun i=>acr (aI ps a b) U i*I i) ps.length:=by
  refine bZ _ _ _ (fun i hi=>?_);rw [oS (by omega),oS (by omega),mL ps c d i hi,mL ps a b i hi];obtain ⟨k1,k5⟩:=hk ps[i] (List.getElem_mem hi);have p1:=h.part i (by omega);have p2:=k.part i (by omega);rw [mL ps a b i hi] at p1;rw [mL ps c d i hi] at p2;have hl:de (ax ps[i]).kind (ax ps[i]).q=0:=by
   rw [(dj ps[i]).1];unfold de;rw [if_neg (by omega),if_neg (by omega)]
  rw [hl] at p1 p2;exact AE k1 k5 (x:=V (ax ps[i]).a.toNat-V (ax ps[i]).b.toNat) (y:=I i) (u:=U (ax ps[i]).a.toNat-U (ax ps[i]).b.toNat) (v:=J i) (by grind) (by grind)
 rw [e] at t1;grind
end Go.Proofs.YtcoeancbjafooaaGreatDoor
