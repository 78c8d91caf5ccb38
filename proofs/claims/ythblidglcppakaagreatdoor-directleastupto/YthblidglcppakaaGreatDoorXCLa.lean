/- Contracts that the proof leans on. -/
import Derived.Test.YthblidglcppakaaGreatDoorXCBf
import Derived.Test.YthblidglcppakaaGreatDoorXCBd
import Derived.Test.YthblidglcppakaaGreatDoorXCBh
import Derived.Test.YthblidglcppakaaGreatDoorXCFd
import Derived.Test.YthblidglcppakaaGreatDoorXCSe
import Derived.Deep.RegionHeld3
namespace Go.Proofs.YthblidglcppakaaGreatDoor
open Go.RowKit
set_option linter.unusedVariables false
set_option linter.unusedSimpArgs false
set_option maxHeartbeats 8000000
set_option maxRecDepth 10000
theorem sI (s:ByteArray) (m:Int) (w:World) (hs:s.size<=1000000000) (hml:w.cell? ⟨1,0,none⟩=some (.int .i64 m)) :
  Calls Tryz.prog 8 #[.string s] w fun e w'=>∃ b,e=.returned (.pointer (some ⟨b,0,none⟩))/\w.grownBy w' none/\w.heap.size<=b/\(RQ w' b (dN s.data.toList) (3*s.size+8)∨(dN s.data.toList=0/\qv w' b (3*s.size+8))):=by
 refine (CH s m w (by omega) hml).mono ?_;rintro e w' ⟨b,rfl,h1,h2,h3,h4⟩;refine ⟨b,rfl,h1,h2,?_⟩;have hq:=Ch s.data.toList;have e1:sg (im s.data.toList).1 (im s.data.toList).2.1=(dN s.data.toList).num:=by rw [hq];exact fN _
 have e2:(im s.data.toList).2.2=(dN s.data.toList).den:=by rw [hq]
 rw [e1] at h3 h4;rw [e2] at h4;rcases h4 with h4 | ⟨h4,h5⟩
 ·exact .inl h4
 ·right
  rw [hq] at h4;simp only [Prod.mk.injEq] at h4;have hn:(dN s.data.toList).num=0:=by
   have:=h4.2.1;unfold rN at this;omega
  have h0:dN s.data.toList=0:=Rat.num_eq_zero.1 hn;rw [hn] at h3;exact ⟨h0,h3,h5⟩
theorem rOf_at (s:ByteArray) (m:Int) (w:World) (hs:s.size<=1000000000) (hml:w.cell? ⟨1,0,none⟩=some (.int .i64 m)) :
  Calls Tryz.prog 8 #[.string s] w fun e w'=>∃ b,e=.returned (.pointer (some ⟨b,0,none⟩))/\w.grownBy w' none/\(RQ w' b (dN s.data.toList) (3*s.size+8)∨(dN s.data.toList=0/\qv w' b (3*s.size+8))):=by
 refine (sI s m w hs hml).mono ?_;rintro e w' ⟨b,rfl,h1,_,h2⟩;exact ⟨b,rfl,h1,h2⟩
theorem aB.tight {w:World} {b o L K:Nat} {z:Int} (h:aB w b o z L) (hz:z.natAbs<4294967296^K):aB w b o z K:=by
 obtain ⟨neg,v,h1,h2,h3,h4⟩:=h;exact ⟨neg,v,h1,h2.tight hz,h3,h4⟩
end Go.Proofs.YthblidglcppakaaGreatDoor
