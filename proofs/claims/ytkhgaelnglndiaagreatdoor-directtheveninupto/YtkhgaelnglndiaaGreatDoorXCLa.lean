/- Contracts that the proof leans on. -/
import Derived.Test.YtkhgaelnglndiaaGreatDoorXCBf
import Derived.Test.YtkhgaelnglndiaaGreatDoorXCBd
import Derived.Test.YtkhgaelnglndiaaGreatDoorXCBh
import Derived.Test.YtkhgaelnglndiaaGreatDoorXCFd
import Derived.Test.YtkhgaelnglndiaaGreatDoorXCSe
import Derived.Deep.RegionHeld3
namespace Go.Proofs.YtkhgaelnglndiaaGreatDoor
open Go.RowKit
set_option linter.unusedVariables false
set_option linter.unusedSimpArgs false
set_option maxHeartbeats 8000000
set_option maxRecDepth 10000
theorem rOf_at (s:ByteArray) (m:Int) (w:World) (hs:s.size<=100000000) (hml:w.cell? ⟨1,0,none⟩=some (.int .i64 m)) :
  Calls Tryz.prog 13 #[.string s] w fun e w'=>∃ b,e=.returned (.pointer (some ⟨b,0,none⟩))/\w.grownBy w' none/\(RQ w' b (ofR s.data.toList) (3*s.size+8)∨(ofR s.data.toList=0/\RNil w' b (3*s.size+8))):=by
 refine (refOf_at s m w hs hml).mono ?_;rintro e w' ⟨b,rfl,h1,h2,h3,h4⟩;refine ⟨b,rfl,h1,?_⟩;have hq:=ofQ_R s.data.toList;have e1:sg (ofQ s.data.toList).1 (ofQ s.data.toList).2.1=(ofR s.data.toList).num:=by rw [hq];exact rat_sgn _
 have e2:(ofQ s.data.toList).2.2=(ofR s.data.toList).den:=by rw [hq]
 rw [e1] at h3 h4;rw [e2] at h4;rcases h4 with h4 | ⟨h4,h5⟩
 ·exact .inl h4
 ·right
  rw [hq] at h4;simp only [Prod.mk.injEq] at h4;have hn:(ofR s.data.toList).num=0:=by
   have:=h4.2.1;unfold rN at this;omega
  have h0:ofR s.data.toList=0:=Rat.num_eq_zero.1 hn;rw [hn] at h3;exact ⟨h0,h3,h5⟩
theorem IntAt.tight {w:World} {b o L K:Nat} {z:Int} (h:IntAt w b o z L) (hz:z.natAbs<4294967296^K):IntAt w b o z K:=by
 obtain ⟨neg,v,h1,h2,h3,h4⟩:=h;exact ⟨neg,v,h1,h2.tight hz,h3,h4⟩
theorem text_cell {w:World} {base n cap:Nat} {ao:Option Addr} {V:Nat->Rat} (h:OwnG sv 45 w base (.slice ao n cap) (textsL V n)) (h0:0<n):∃ g off,ao=some ⟨g,off,none⟩/\∀ j,j<n->w.cell? ⟨g,off+j,none⟩=some (.string ⟨(qtext (V j)).toArray⟩):=by
 obtain ⟨ao',cap',e,_,_,hr⟩:=h.row;injection e with e1 e2 e3
 subst e1;obtain ⟨b,off,rfl,_,_⟩:=hr 0 (by rw [textsL_length];exact h0);refine ⟨b,off,rfl,fun j hj=>?_⟩;obtain ⟨b',off',e4,_,hc⟩:=hr j (by rw [textsL_length];exact hj);have e5:=Option.some.inj e4;injection e5 with e6 e7
 subst e6 e7;rw [hc];simp [textsL,sv]
end Go.Proofs.YtkhgaelnglndiaaGreatDoor
