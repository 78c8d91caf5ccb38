/- Contracts that the proof leans on. -/
import Derived.Test.YtgilmecjbjoonabGreatDoorTCBf
import Derived.Test.YtgilmecjbjoonabGreatDoorTCBd
import Derived.Test.YtgilmecjbjoonabGreatDoorTCFd
import Derived.Test.YtgilmecjbjoonabGreatDoorTCSe
import Derived.Deep.RegionHeld3
namespace Go.Proofs.YtgilmecjbjoonabGreatDoor
open Go.RowKit
set_option linter.unusedVariables false
set_option linter.unusedSimpArgs false
set_option maxHeartbeats 8000000
set_option maxRecDepth 10000
theorem zQ (s:ByteArray) (m:Int) (w:World) (hs:s.size<=100000000) (hml:w.cell? ⟨2,0,none⟩=some (.int .i64 m)) :
  Calls Tryz.prog 33 #[.string s] w fun e w'=>∃ b,e=.returned (.pointer (some ⟨b,0,none⟩))/\w.grownBy w' none/\(RQ w' b (cX s.data.toList) (3*s.size+8)∨(cX s.data.toList=0/\pZ w' b (3*s.size+8))):=by
 refine (zU s m w hs hml).mono ?_;rintro e w' ⟨b,rfl,h1,h2,h3,h4⟩;refine ⟨b,rfl,h1,?_⟩;have hq:=zw s.data.toList;have e1:sg (gj s.data.toList).1 (gj s.data.toList).2.1=(cX s.data.toList).num:=by rw [hq];exact dB _
 have e2:(gj s.data.toList).2.2=(cX s.data.toList).den:=by rw [hq]
 rw [e1] at h3 h4;rw [e2] at h4;rcases h4 with h4 | ⟨h4,h5⟩
 ·exact .inl h4
 ·right
  rw [hq] at h4;simp only [Prod.mk.injEq] at h4;have hn:(cX s.data.toList).num=0:=by
   have:=h4.2.1;unfold rN at this;omega
  have h0:cX s.data.toList=0:=Rat.num_eq_zero.1 hn;rw [hn] at h3;exact ⟨h0,h3,h5⟩
theorem aC.tight {w:World} {b o L K:Nat} {z:Int} (h:aC w b o z L) (hz:z.natAbs<4294967296^K):aC w b o z K:=by
 obtain ⟨neg,v,h1,h2,h3,h4⟩:=h;exact ⟨neg,v,h1,h2.tight hz,h3,h4⟩
theorem xP {w:World} {base n cap:Nat} {ao:Option Addr} {V:Nat->Rat} (h:dh sv 47 w base (.slice ao n cap) (cm V n)) (h0:0<n):∃ g off,ao=some ⟨g,off,none⟩/\∀ j,j<n->w.cell? ⟨g,off+j,none⟩=some (.string ⟨(bW (V j)).toArray⟩):=by
 obtain ⟨ao',cap',e,_,_,hr⟩:=h.row;injection e with e1 e2 e3
 subst e1;obtain ⟨b,off,rfl,_,_⟩:=hr 0 (by rw [cG];exact h0);refine ⟨b,off,rfl,fun j hj=>?_⟩;obtain ⟨b',off',e4,_,hc⟩:=hr j (by rw [cG];exact hj);have e5:=Option.some.inj e4;injection e5 with e6 e7
 subst e6 e7;rw [hc];simp [cm,sv]
end Go.Proofs.YtgilmecjbjoonabGreatDoor
