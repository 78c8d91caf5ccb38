/- Contracts that the proof leans on. -/
import Derived.Test.YtfjnoikjhdpghaaGreatDoorXCBf
import Derived.Test.YtfjnoikjhdpghaaGreatDoorXCBd
import Derived.Test.YtfjnoikjhdpghaaGreatDoorXCBh
import Derived.Test.YtfjnoikjhdpghaaGreatDoorXCFd
import Derived.Test.YtfjnoikjhdpghaaGreatDoorXCSe
import Derived.Deep.RegionHeld3
namespace Go.Proofs.YtfjnoikjhdpghaaGreatDoor
open Go.RowKit
set_option linter.unusedVariables false
set_option linter.unusedSimpArgs false
set_option maxHeartbeats 8000000
set_option maxRecDepth 10000
theorem rOf_at (s:ByteArray) (m:Int) (w:World) (hs:s.size<=1000000000) (hml:w.cell? ⟨1,0,none⟩=some (.int .i64 m)) :
  Calls Tryz.prog 13 #[.string s] w fun e w'=>∃ b,e=.returned (.pointer (some ⟨b,0,none⟩))/\w.grownBy w' none/\(RQ w' b (eY s.data.toList) (3*s.size+8)∨(eY s.data.toList=0/\qg w' b (3*s.size+8))):=by
 refine (B8 s m w (by omega) hml).mono ?_;rintro e w' ⟨b,rfl,h1,h2,h3,h4⟩;refine ⟨b,rfl,h1,?_⟩;have hq:=ofQ_R s.data.toList;have e1:sg (ib s.data.toList).1 (ib s.data.toList).2.1=(eY s.data.toList).num:=by rw [hq];exact fI _
 have e2:(ib s.data.toList).2.2=(eY s.data.toList).den:=by rw [hq]
 rw [e1] at h3 h4;rw [e2] at h4;rcases h4 with h4 | ⟨h4,h5⟩
 ·exact .inl h4
 ·right
  rw [hq] at h4;simp only [Prod.mk.injEq] at h4;have hn:(eY s.data.toList).num=0:=by
   have:=h4.2.1;unfold rN at this;omega
  have h0:eY s.data.toList=0:=Rat.num_eq_zero.1 hn;rw [hn] at h3;exact ⟨h0,h3,h5⟩
theorem aA.tight {w:World} {b o L K:Nat} {z:Int} (h:aA w b o z L) (hz:z.natAbs<4294967296^K):aA w b o z K:=by
 obtain ⟨neg,v,h1,h2,h3,h4⟩:=h;exact ⟨neg,v,h1,h2.tight hz,h3,h4⟩
theorem nX (q:Rat) (K:Nat) (m:Int) (w:World) (hK:2<=K) (hf:nJ q K) (hl:K<=40000000) (hml:w.cell? ⟨1,0,none⟩=some (.int .i64 m)) :
  Calls Tryz.prog 13 #[.string ⟨(bS q).toArray⟩] w fun e w'=>∃ b,e=.returned (.pointer (some ⟨b,0,none⟩))/\w.grownBy w' none/\RX w' b q K:=by
 have hlen:=zH hf (by omega);refine (rOf_at ⟨(bS q).toArray⟩ m w (by show (bS q).toArray.size<=_;simp;omega) hml).mono ?_;rintro e w' ⟨b,rfl,g,h⟩;refine ⟨b,rfl,g,?_⟩;have e0:eY (⟨(bS q).toArray⟩:ByteArray).data.toList=q:=zw q;rw [e0] at h;rcases h with h | ⟨h0,h⟩
 ·have h':RQ w' b q K:=⟨h.1.tight hf.1,h.2.1.tight hf.2,h.2.2⟩;exact h'.x
 ·subst h0;have h':qg w' b K:=⟨h.1.tight hf.1,h.2.tight hf.1⟩;exact h'.x hK
end Go.Proofs.YtfjnoikjhdpghaaGreatDoor
