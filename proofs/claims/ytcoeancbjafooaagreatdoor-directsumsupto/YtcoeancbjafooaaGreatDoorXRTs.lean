/- Contracts that the proof leans on. -/
import Derived.Test.YtcoeancbjafooaaGreatDoorXSumV
import Derived.Test.YtcoeancbjafooaaGreatDoorXRTNil
import Derived.Test.YtcoeancbjafooaaGreatDoorXCLa
import Derived.Test.YtcoeancbjafooaaGreatDoorXCSe
namespace Go.Proofs.YtcoeancbjafooaaGreatDoor
open Go.RowKit
set_option linter.unusedVariables false
set_option linter.unusedSimpArgs false
set_option maxHeartbeats 8000000
set_option maxRecDepth 10000
theorem rTV_at (b:Nat) (q:Rat) (L K:Nat) (w:World) (h:RV w b q L) (hf:jT q K) (hK:K<=10000000) :
  Calls Tryz.prog 55 #[.pointer (some ⟨b,0,none⟩)] w fun e w'=>e=.returned (.string ⟨(bg q).toArray⟩)/\w.grownBy w' none:=by
 rcases h with h | ⟨rfl,h⟩
 ·exact rT_at b q K w ⟨h.1.tight hf.1,h.2.1.tight hf.2,h.2.2⟩ hK
 ·exact rT_nil b K w ⟨h.1.tight hf.1,h.2.tight hf.1⟩ hK
theorem rTs_at (base g n cap:Nat) (B:Nat->Nat) (Q:Nat->Rat) (L:Nat->Nat) (K:Nat) (w:World) (h:rG w base g n B Q L) (hn:n<=3000) (hc:n<=cap) (hm:cap<=maxLen) (hf:∀ k,k<n->jT (Q k) K) (hK:K<=10000000) :
  Calls Tryz.prog 23 #[.slice (some ⟨g,0,none⟩) n cap] w fun e w'=>wZ w n Q e w':=by
 unfold maxLen at hm;have HR:=ab h;have HF:=ab hf;clear h hf;go_enter Tryz.func23,Tryz.ntmps23
 go_wp2;go_loopw [3,8] (fun ov v wr=>Hid (TelR w n Q ov v wr)) (fun _ v _=>n-(intOf v).toNat)
 case atStart=>exact ⟨0,by omega,rfl,mK,ae _ _⟩
 case round =>
  obtain ⟨i,hi,rfl,l1,l2⟩:=hrel.out;obtain ⟨oa,oc,rfl⟩:=l1.shape;have L1:=ab l1;have L2:=ab l2;clear l1 l2 hrel;by_cases hlt:i<n
  ·have c0:=(HR.out.keep0 L2.out).cell hlt;have C3:=ab ((HR.out.keep0 L2.out).num i hlt).1;have hf:=HF.out i hlt;have HFI:=ab hf;clear hf;go_wp2_with fail;refine (rTV_at _ (Q i) _ K _ C3.out HFI.out hK).mono ?_;rintro e w3 ⟨rfl,g3⟩;have G3:=ab g3;clear g3 c0;have hsz:w.heap.size<=w3.heap.size:=Nat.le_trans L2.out.size G3.out.size;go_wp2_with (at_builtin;refine jQ sv 45 (sv ⟨#[]⟩) 16 _ rfl _ _ 26 rfl w.heap.size Tryz.underlying26 Tryz.infoQ rfl _ (bB Q i) rfl (L1.out.keep0 (ag G3.out _)) w3.heap.size ⟨(bg (Q i)).toArray⟩ rfl (by go_simp) rfl (by rw [aJ];omega) (by omega) (by simp;omega) ?_)
   intro ao cap w5 hown hgr;have HO:Hid (du sv 45 w5 w.heap.size (.slice ao ((bB Q i).length+1) cap) (bB Q (i+1))):=by rw [oE];exact hown
   have HG:Hid (w.grownBy w5 none):=by
    refine ar (r:=none) (aa L2.out (ag G3.out _)) hgr (fun _ _ e=>e) (fun b hb e=>?_);have:=(L1.out.fresh b e.symm).1;omega
   clear hown hgr;go_wp2;go_roundw
   case rel=>exact ⟨i+1,by omega,by go_num,HO.out,HG.out⟩
   case measure=>simp [intOf];omega
  ·obtain rfl:i=n:=by omega
   go_wp2;go_ret;exact ⟨_,rfl,L1.out,L2.out⟩
end Go.Proofs.YtcoeancbjafooaaGreatDoor
