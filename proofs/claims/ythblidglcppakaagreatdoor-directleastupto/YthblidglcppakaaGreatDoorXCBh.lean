/- Contracts that the proof leans on. -/
import Derived.Test.YthblidglcppakaaGreatDoorXCBf
namespace Go.Proofs.YthblidglcppakaaGreatDoor
open Go.RowKit
set_option linter.unusedVariables false
set_option linter.unusedSimpArgs false
set_option maxHeartbeats 8000000
set_option maxRecDepth 10000
theorem sJ (bz:Nat) (n1 n2:Bool) (v1 v2:Value) (x:Int) (w:World) (hz1:gC w bz 0 n1 v1) (hz2:gC w bz 2 n2 v2) (h1:-9223372036854775808<=x) (h2:x<=9223372036854775807) :
  Calls Tryz.prog 38 #[.pointer (some ⟨bz,0,none⟩),.int .i64 x] w fun e w'=>e=.returned (.pointer (some ⟨bz,0,none⟩))/\bB w w' bz/\RQ w' bz (x:Rat) 4:=by
 have Z1:=ab hz1;have Z2:=ab hz2;clear hz1 hz2;go_enter Tryz.func38,Tryz.ntmps38
 go_wp2_with fail;refine (fF x _ h1 h2).mono ?_;rintro e w1 ⟨rfl,a1,a2,a3⟩;have A1:=ab a1;have A2:=ab a2;clear a1 a2 a3;go_wp2_with fail;refine (fF 1 _ (by omega) (by omega)).mono ?_;rintro e w2 ⟨rfl,b1,b2,b3⟩;have B1:=ab b1;have B2:=ab b2;clear b1 b2 b3;go_wp2_with fail;refine (dJ bz w.heap.size 0 w1.heap.size 0 n1 n2 v1 v2 x 1 2 _ ((Z1.out.keep0 A1.out).keep0 B1.out) ((Z2.out.keep0 A1.out).keep0 B1.out) (A2.out.keep0 B1.out) B2.out (by omega) (by omega)).mono ?_;rintro e w3 ⟨rfl,c1,c2⟩;have C1:=ab c1;have C2:=ab c2;clear c1 c2;go_wp2;go_ret;exact ⟨rfl,((bB.of_gr A1.out).trans (bB.of_gr B1.out)).trans C1.out,bQ.q (by omega) (zV x) C2.out⟩
theorem rN_at (x:Int) (w:World) (h1:-9223372036854775808<=x) (h2:x<=9223372036854775807) :
  Calls Tryz.prog 12 #[.int .i64 x] w fun e w'=>RQE w (x:Rat) 4 e w':=by
 go_enter Tryz.func12,Tryz.ntmps12
 go_wp2_with fail;refine (sJ w.heap.size false false (.slice none 0 0) (.slice none 0 0) x _ (kE w).1 (kE w).2 h1 h2).mono ?_;rintro e w1 ⟨rfl,a1,a2⟩;have A1:=ab a1;have A2:=ab a2;clear a1 a2;go_wp2;go_ret;exact ⟨_,rfl,A2.out,lW (ag (ae _ _) _) A1.out (Nat.le_refl _),Nat.le_refl _⟩
end Go.Proofs.YthblidglcppakaaGreatDoor
