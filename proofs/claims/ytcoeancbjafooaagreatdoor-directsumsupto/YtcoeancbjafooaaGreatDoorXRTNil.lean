/- Contracts that the proof leans on. -/
import Derived.Test.YtcoeancbjafooaaGreatDoorXCLa
namespace Go.Proofs.YtcoeancbjafooaaGreatDoor
open Go.RowKit
set_option linter.unusedVariables false
set_option linter.unusedSimpArgs false
set_option maxHeartbeats 8000000
set_option maxRecDepth 10000
theorem Ak (b L:Nat) (w:World) (h:mu w b L) :
  Calls Tryz.prog 100 #[.pointer (some ⟨b,0,none⟩)] w fun e w'=>e=.returned (.bool true)/\w.grownBy w' none:=by
 have H:=ab h;clear h;have ho:(gD 1 1==0)=true:=by rw [tC];rfl
 go_enter Tryz.func100,Tryz.ntmps100
 go_wp2_with fail;refine (yy b L _ H.out).mono ?_;rintro e w1 ⟨rfl,d1,d2,d3⟩;have D1:=ab d1;have D2:Hid (aB w1 w.heap.size 0 ((1:Nat):Int) 2):=d2;clear d1 d2 d3;go_wp2_with fail;refine (fA 1 _ (by omega) (by omega)).mono ?_;rintro e w2 ⟨rfl,a1,a2,a3⟩;have A1:=ab a1;have A2:Hid (aB w2 w1.heap.size 0 ((1:Nat):Int) 2):=a2;clear a1 a2 a3;go_wp2_with fail;refine (sb w.heap.size 0 w1.heap.size 0 1 1 2 2 _ (D2.out.keep0 A1.out) A2.out).mono ?_;rintro e w3 ⟨rfl,b1⟩;have B1:=ab (aa D1.out (aa A1.out b1));clear b1;generalize gD 1 1=oo at ho ⊢;go_wp2;go_ret;exact ⟨by first | rfl | rw [ho],B1.out⟩
theorem Ax (b L:Nat) (w:World) (h:mu w b L) :
  Calls Tryz.prog 101 #[.pointer (some ⟨b,0,none⟩)] w fun e w'=>e=.returned (.pointer (some ⟨b,0,none⟩))/\w'=w:=by
 obtain ⟨n1,v1,b1,_⟩:=h.1;have c0:=b1.c0;clear b1 h;go_enter Tryz.func101,Tryz.ntmps101
 go_wp2;go_ret;exact ⟨rfl,rfl⟩
theorem rT_nil (b L:Nat) (w:World) (h:mu w b L) (hL:L<=10000000) :
  Calls Tryz.prog 55 #[.pointer (some ⟨b,0,none⟩)] w fun e w'=>e=.returned (.string ⟨(bg 0).toArray⟩)/\w.grownBy w' none:=by
 have H:=ab h;clear h;have hq:Hid (bg 0=dR 0):=by show _=_;rw [vG,if_pos (by rfl),List.append_nil];rfl
 rw [hq.out];have hl1:=nk H.out.1 hL;obtain ⟨A,hA⟩:∃ l,l=dR 0:=⟨_,rfl⟩;rw [<- hA] at hl1 ⊢;have HA:=ab hA;clear hA;go_enter Tryz.func55,Tryz.ntmps55
 go_wp2_with fail;refine (Ak b L _ H.out).mono ?_;rintro e w1 ⟨rfl,g1⟩;have G1:=ab g1;have H1:=ab (H.out.keep0 g1);clear g1;go_wp2_with fail;refine (Ax b L _ H1.out).mono ?_;rintro e wn ⟨rfl,hwn⟩;rw [hwn];clear hwn;go_wp2_with fail;refine (gB b 0 0 L _ H1.out.1 (by omega)).mono ?_;rintro e w2 ⟨rfl,g2⟩;have G2:=ab (aa G1.out g2);clear g2;rw [<- HA.out];go_wp2;go_ret;exact ⟨rfl,G2.out⟩
end Go.Proofs.YtcoeancbjafooaaGreatDoor
