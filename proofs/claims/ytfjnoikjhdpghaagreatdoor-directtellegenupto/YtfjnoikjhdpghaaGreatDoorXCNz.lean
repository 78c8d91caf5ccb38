/- Contracts that the proof leans on. -/
import Derived.Test.YtfjnoikjhdpghaaGreatDoorXCDa
namespace Go.Proofs.YtfjnoikjhdpghaaGreatDoor
open Go.RowKit
set_option linter.unusedVariables false
set_option linter.unusedSimpArgs false
set_option maxHeartbeats 8000000
set_option maxRecDepth 10000
theorem Aa (f:Nat->Nat->Rat) (k n:Nat):bm (fun i=>bm (fun r=>f i r) n) k=bm (fun r=>bm (fun i=>f i r) k) n:=by
 induction k with
 | zero =>
  show (0:Rat)=_
  exact (ry _ n (fun _ _=>rfl)).symm
 | succ k ih =>
  rw [aQ,ih,<- me];rfl
theorem rx (V:Nat->Rat) (c:Rat) (x:Nat):∀ n,bm (fun r=>V r*(if x=r then c else 0)) n=if x<n then V x*c else 0:=by
 intro n;induction n with
 | zero=>rw [if_neg (by omega)];rfl
 | succ n ih =>
  rw [aQ,ih];by_cases e:x=n
  ·rw [if_neg (by omega),if_pos e,if_pos (by omega),e];grind
  ·rw [if_neg e];by_cases e2:x<n
   ·rw [if_pos e2,if_pos (by omega)];grind
   ·rw [if_neg e2,if_neg (by omega)];grind
theorem Cn (V:Nat->Rat) (p:aI) {n xa xb:Nat} (ea:p.a=(xa:Int)) (eb:p.b=(xb:Int)) (ha:xa<n) (hb:xb<n):bm (fun r=>V r*lI p r) n=V xa-V xb:=by
 have e:bm (fun r=>V r*lI p r) n=bm (fun r=>V r*(if xa=r then 1 else 0) + -1*(V r*(if xb=r then 1 else 0))) n:=by
  refine cV _ _ _ (fun r _=>?_);unfold lI;rw [ea,eb];have c1:((xa:Int)=(r:Int))↔xa=r:=by omega
  have c2:((xb:Int)=(r:Int))↔xb=r:=by omega
  by_cases h1:xa=r<;>by_cases h2:xb=r<;>simp only [c1,c2,h1,h2,if_true,if_false]<;>grind
 rw [e,me,mf,rx,rx,if_pos ha,if_pos hb];grind
def qh (ps:List aI) (V:Nat->Rat) (i:Nat):Rat:=match ps[i]? with | some p=>V p.a.toNat-V p.b.toNat | none=>0
theorem uR {n:Nat} {ps:List aI} (hR:bV n ps) {V J:Nat->Rat} (h0:V 0=0) (hK:∀ r,0<r->r<n->bm (fun i=>bR ps i r*J i) ps.length=0):bm (fun i=>qh ps V i*J i) ps.length=0:=by
 have hlo:=hR.lo;have e1:bm (fun i=>qh ps V i*J i) ps.length=bm (fun i=>bm (fun r=>V r*(bR ps i r*J i)) n) ps.length:=by
  refine cV _ _ _ (fun i hi=>?_);obtain ⟨xa,xb,xc,xd,ea,eb,ec,ed,ha,hb,hc,hd⟩:=hR.ends ps[i] (List.getElem_mem hi);have e:bm (fun r=>V r*(bR ps i r*J i)) n=J i*bm (fun r=>V r*lI ps[i] r) n:=by
   rw [<- mf];refine cV _ _ _ (fun r _=>?_);unfold bR;rw [List.getElem?_eq_getElem hi];show V r*(lI ps[i] r*J i)=J i*(V r*lI ps[i] r)
   grind
  rw [e,Cn V ps[i] ea eb ha hb];unfold qh;rw [List.getElem?_eq_getElem hi];show (V ps[i].a.toNat-V ps[i].b.toNat)*J i=_
  rw [ea,eb,Int.toNat_natCast,Int.toNat_natCast];grind
 rw [e1,Aa];refine ry _ _ (fun r hr=>?_);have e2:bm (fun i=>V r*(bR ps i r*J i)) ps.length=V r*bm (fun i=>bR ps i r*J i) ps.length:=mf _ _ _;rw [e2];by_cases e:r=0
 ·rw [e,h0];grind
 ·rw [hK r (by omega) hr];grind
theorem acr_get {ps:List aI} {V:Nat->Rat} {i:Nat} (h:i<ps.length):qh ps V i=V ps[i].a.toNat-V ps[i].b.toNat:=by
 unfold qh;rw [List.getElem?_eq_getElem h]
theorem aJ.power {n:Nat} {ps:List aI} (hR:bV n ps) {V I:Nat->Rat} (h:aJ n ps V I):bm (fun i=>qh ps V i*I i) ps.length=0:=uR hR h.gnd h.node
theorem oC.fixed {nodes:Int} {ps:List aI} {c1 c2:Int} {n1 n2:Nat} {V I:Nat->Rat} (h:oC nodes ps c1 c2 n1 n2 V I) (hc:(bh false nodes ps).1=0) (hF:kS nodes.toNat ps) :
  c1=0/\c2=0/\n1=nodes.toNat/\n2=ps.length/\aJ nodes.toNat ps V I:=by
 obtain ⟨hR,_⟩:=gR hc;obtain ⟨V0,I0,s0,u0⟩:=jg hR hF;rcases h with ⟨h0,_⟩ | ⟨_,h2,(⟨e1,e2,e3,e4,_⟩ | ⟨_,_,_,hno⟩ | ⟨_,_,_,V1,I1,V2,I2,s1,s2,hne⟩)⟩
 ·exact absurd hc h0
 ·exact ⟨e1,h2,e2,e3,e4⟩
 ·exact absurd ⟨V0,I0,s0⟩ hno
 ·exfalso
  obtain ⟨a1,b1⟩:=u0 _ _ s1;obtain ⟨a2,b2⟩:=u0 _ _ s2;rcases hne with ⟨j,hj,hn⟩ | ⟨i,hi,hn⟩
  ·exact hn (by rw [a1 j hj,a2 j hj])
  ·exact hn (by rw [b1 i hi,b2 i hi])
theorem oC.one {nodes:Int} {ps:List aI} {c2:Int} {n1 n2:Nat} {V I:Nat->Rat} (h:oC nodes ps 0 c2 n1 n2 V I) :
  (bh false nodes ps).1=0/\c2=0/\n1=nodes.toNat/\n2=ps.length/\aJ nodes.toNat ps V I/\∀ V' I',aJ nodes.toNat ps V' I'->(∀ j,j<nodes.toNat->V' j=V j)/\∀ i,i<ps.length->I' i=I i:=by
 rcases h with ⟨h0,h1,_⟩ | ⟨h0,h2,(⟨_,e2,e3,e4,e5⟩ | ⟨h1,_⟩ | ⟨h1,_⟩)⟩
 ·exact absurd h1.symm h0
 ·exact ⟨h0,h2,e2,e3,e4,e5⟩
 ·exact absurd h1 (by decide)
 ·exact absurd h1 (by decide)
end Go.Proofs.YtfjnoikjhdpghaaGreatDoor
