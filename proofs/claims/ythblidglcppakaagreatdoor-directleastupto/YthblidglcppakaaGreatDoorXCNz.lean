/- Contracts that the proof leans on. -/
import Derived.Test.YthblidglcppakaaGreatDoorXCDa
namespace Go.Proofs.YthblidglcppakaaGreatDoor
open Go.RowKit
set_option linter.unusedVariables false
set_option linter.unusedSimpArgs false
set_option maxHeartbeats 8000000
set_option maxRecDepth 10000
theorem AA (f:Nat->Nat->Rat) (k n:Nat):bC (fun i=>bC (fun r=>f i r) n) k=bC (fun r=>bC (fun i=>f i r) k) n:=by
 induction k with
 | zero =>
  show (0:Rat)=_
  exact (rK _ n (fun _ _=>rfl)).symm
 | succ k ih =>
  rw [aP,ih,<- mu];rfl
def acr (ps:List aI) (V:Nat->Rat) (i:Nat):Rat:=match ps[i]? with | some p=>V p.a.toNat-V p.b.toNat | none=>0
theorem acr_get {ps:List aI} {V:Nat->Rat} {i:Nat} (h:i<ps.length):acr ps V i=V ps[i].a.toNat-V ps[i].b.toNat:=by
 unfold acr;rw [List.getElem?_eq_getElem h]
theorem ta.one {nodes:Int} {ps:List aI} {c2:Int} {n1 n2:Nat} {V I:Nat->Rat} (h:ta nodes ps 0 c2 n1 n2 V I) :
  (bj false nodes ps).1=0/\c2=0/\n1=nodes.toNat/\n2=ps.length/\aM nodes.toNat ps V I/\∀ V' I',aM nodes.toNat ps V' I'->(∀ j,j<nodes.toNat->V' j=V j)/\∀ i,i<ps.length->I' i=I i:=by
 rcases h with ⟨h0,h1,_⟩ | ⟨h0,h2,(⟨_,e2,e3,e4,e5⟩ | ⟨h1,_⟩ | ⟨h1,_⟩)⟩
 ·exact absurd h1.symm h0
 ·exact ⟨h0,h2,e2,e3,e4,e5⟩
 ·exact absurd h1 (by decide)
 ·exact absurd h1 (by decide)
end Go.Proofs.YthblidglcppakaaGreatDoor
