/- Contracts that the proof leans on. -/
import Derived.Test.YthblidglcppakaaGreatDoorXRMulT
import Derived.Test.YthblidglcppakaaGreatDoorXCBf
namespace Go.Proofs.YthblidglcppakaaGreatDoor
open Go.RowKit
set_option linter.unusedVariables false
set_option linter.unusedSimpArgs false
set_option maxHeartbeats 8000000
set_option maxRecDepth 10000
theorem xq (bz bx bY:Nat) (n1 n2:Bool) (v1 v2:Value) (x1 y1:Int) (x2 y2 L M:Nat) (w:World) (hz1:gC w bz 0 n1 v1) (hz2:gC w bz 2 n2 v2) (hX:aB w bx 0 x1 L) (hY:aB w bY 0 y1 M) (dx:jb w bx x2 L) (dy:jb w bY y2 M) (hne:(x2:Int)*(y2:Int)≠0) (hL:L+M<=3900000000000) :
  Calls Tryz.prog 72 #[.pointer (some ⟨bz,0,none⟩),.pointer (some ⟨bx,0,none⟩),.pointer (some ⟨bY,0,none⟩)] w fun e w'=>e=.returned (.pointer (some ⟨bz,0,none⟩))/\bB w w' bz/\bQ w' bz (fp (vU (x1*y1) ((x2:Int)*(y2:Int))) ((x2:Int)*(y2:Int)).natAbs) (fe (vU (x1*y1) ((x2:Int)*(y2:Int))) ((x2:Int)*(y2:Int)).natAbs) (L+M+2):=by
 have HX:=ab hX;have HY:=ab hY;have DX:=ab dx;have DY:=ab dy;have Z1:=ab hz1;have Z2:=ab hz2;clear hX hY dx dy hz1 hz2;go_enter Tryz.func72,Tryz.ntmps72
 go_upto_region 1 with fail;refine wp_region_any (by kernel_rfl) ?_;change wpAny _ _ _ _ _ _ _ (World.drew _)
 refine wpAny_take (i:=0) (v:=.pointer (some ⟨bz,0,none⟩)) rfl (by kernel_rfl) (by kernel_rfl) (by kernel_rfl) (fun _ _ _ h=>h) (Or.inl ⟨by rfl,?ty0⟩) ?tr0
 case ty0=>(intro w;go_simp<;>rfl)
 case tr0 =>
  refine wpAny_take (i:=2) (v:=.pointer (some ⟨bx,0,none⟩)) rfl (by kernel_rfl) (by kernel_rfl) (by kernel_rfl) (fun _ _ _ h=>h) (Or.inl ⟨by rfl,?ty2⟩) ?tr2
  case ty2=>(intro w;go_simp<;>rfl)
  case tr2 =>
   refine wpAny_take (i:=3) (v:=.pointer (some ⟨bx,0,none⟩)) rfl (by kernel_rfl) (by kernel_rfl) (by kernel_rfl) (fun _ _ _ h=>h) (Or.inl ⟨by rfl,?ty3⟩) ?tr3
   case ty3=>(intro w;go_simp<;>rfl)
   case tr3 =>
    refine wpAny_take (i:=4) (v:=.pointer (some ⟨bx,0,none⟩)) rfl (by kernel_rfl) (by kernel_rfl) (by kernel_rfl) (fun _ _ _ h=>h) (Or.inl ⟨by rfl,?ty4⟩) ?tr4
    case ty4=>(intro w;go_simp<;>rfl)
    case tr4 =>
     refine wpAny_take (i:=5) (v:=.pointer (some ⟨bY,0,none⟩)) rfl (by kernel_rfl) (by kernel_rfl) (by kernel_rfl) (fun _ _ _ h=>h) (Or.inl ⟨by rfl,?ty5⟩) ?tr5
     case ty5=>(intro w;go_simp<;>rfl)
     case tr5 =>
      refine wpAny_take (i:=6) (v:=.pointer (some ⟨bY,0,none⟩)) rfl (by kernel_rfl) (by kernel_rfl) (by kernel_rfl) (fun _ _ _ h=>h) (Or.inl ⟨by rfl,?ty6⟩) ?tr6
      case ty6=>(intro w;go_simp<;>rfl)
      case tr6 =>
       refine wpAny_take (i:=7) (v:=.pointer (some ⟨bY,0,none⟩)) rfl (by kernel_rfl) (by kernel_rfl) (by kernel_rfl) (fun _ _ _ h=>h) (Or.inl ⟨by rfl,?ty7⟩) ?tr7
       case ty7=>(intro w;go_simp<;>rfl)
       case tr7 =>
        refine wpAny_take (i:=10) (v:=.pointer (some ⟨bx,0,none⟩)) rfl (by kernel_rfl) (by kernel_rfl) (by kernel_rfl) (fun _ _ _ h=>h) (Or.inl ⟨by rfl,?ty10⟩) ?tr10
        case ty10=>(intro w;go_simp<;>rfl)
        case tr10 =>
         refine wpAny_take (i:=12) (v:=.pointer (some ⟨bY,0,none⟩)) rfl (by kernel_rfl) (by kernel_rfl) (by kernel_rfl) (fun _ _ _ h=>h) (Or.inl ⟨by rfl,?ty12⟩) ?tr12
         case ty12=>(intro w;go_simp<;>rfl)
         case tr12 =>
          refine mulT_0_ ⟨Z1.out,Z2.out,DX.out,DY.out,hne,hL,?_⟩ _ (((aT.start (kC (ae w none))).old HY.out).old HX.out);rintro d1 o1 d2 o2 p8 p16 w1 ⟨m1,m2⟩;have M1:=ab m1;have M2:=ab m2;clear m1 m2;unfold pp;go_wp2;go_ret;exact ⟨rfl,M1.out,M2.out⟩
theorem upS_pos (x:Int) {z:Int} (h:0<z):vU x z=x:=if_neg (by omega)
theorem pr (p q:Rat):(p.den:Int)*(q.den:Int)≠0:=by
 have h1:=p.den_pos;have h2:=q.den_pos;have:0<(p.den:Int)*(q.den:Int):=Int.mul_pos (by omega) (by omega);omega
theorem mul_up (p q:Rat):mkRat (vU (p.num*q.num) ((p.den:Int)*(q.den:Int))) ((p.den:Int)*(q.den:Int)).natAbs=p*q:=by
 have h1:=p.den_pos;have h2:=q.den_pos;have:0<(p.den:Int)*(q.den:Int):=Int.mul_pos (by omega) (by omega);rw [upS_pos _ this,<- Int.natCast_mul,Int.natAbs_natCast];exact (Rat.mul_def p q).symm▸(Rat.normalize_eq_mkRat _).symm
theorem Cy (bx bY:Nat) (p q:Rat) (L M:Nat) (w:World) (hX:RX w bx p L) (hY:RX w bY q M) (hL:L+M<=3900000000000) :
  Calls Tryz.prog 36 #[.pointer (some ⟨bx,0,none⟩),.pointer (some ⟨bY,0,none⟩)] w fun e w'=>RQE w (p*q) (L+M+2) e w':=by
 have HX:=ab hX;have HY:=ab hY;clear hX hY;go_enter Tryz.func36,Tryz.ntmps36
 go_wp2_with fail;have g1:=ag (ae w none) (.cells #[.bool false,.slice none 0 0,.bool false,.slice none 0 0] 47);refine (xq w.heap.size bx bY false false (.slice none 0 0) (.slice none 0 0) _ _ _ _ L M _ (kE w).1 (kE w).2 (HX.out.1.keep0 g1) (HY.out.1.keep0 g1) (HX.out.2.keep0 g1) (HY.out.2.keep0 g1) (pr p q) hL).mono ?_;rintro e w1 ⟨rfl,a1,a2⟩;have A1:=ab a1;have A2:=ab a2;clear a1 a2 g1;go_wp2;go_ret;exact ⟨_,rfl,bQ.q (by have:=pr p q;omega) (mul_up p q) A2.out,lW (ag (ae _ _) _) A1.out (Nat.le_refl _),Nat.le_refl _⟩
theorem iY (bx bY:Nat) (p q:Rat) (L M:Nat) (w:World) (hX:RX w bx p L) (hY:RX w bY q M) (hL:L+M<=3900000000000) :
  Calls Tryz.prog 10 #[.pointer (some ⟨bx,0,none⟩),.pointer (some ⟨bY,0,none⟩)] w fun e w'=>RQE w (p*q) (L+M+2) e w':=by
 have HX:=ab hX;have HY:=ab hY;clear hX hY;go_enter Tryz.func10,Tryz.ntmps10
 go_wp2_with fail;refine (Cy bx bY p q L M _ HX.out HY.out hL).mono ?_;rintro e w1 ⟨b,rfl,h⟩;have H:=ab h;clear h;go_wp2;go_ret;exact ⟨b,rfl,H.out⟩
end Go.Proofs.YthblidglcppakaaGreatDoor
