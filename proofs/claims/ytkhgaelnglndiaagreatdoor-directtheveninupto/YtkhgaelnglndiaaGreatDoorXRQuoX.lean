/- Contracts that the proof leans on. -/
import Derived.Test.YtkhgaelnglndiaaGreatDoorXRQuoT
import Derived.Test.YtkhgaelnglndiaaGreatDoorXCBf
namespace Go.Proofs.YtkhgaelnglndiaaGreatDoor
open Go.RowKit
set_option linter.unusedVariables false
set_option linter.unusedSimpArgs false
set_option maxHeartbeats 8000000
set_option maxRecDepth 10000
theorem ratQuoX_at (bz bx bY:Nat) (n1 n2:Bool) (v1 v2:Value) (x1 y1:Int) (x2 y2 L M:Nat) (w:World) (hz1:Box w bz 0 n1 v1) (hz2:Box w bz 2 n2 v2) (hX:IntAt w bx 0 x1 L) (hY:IntAt w bY 0 y1 M) (dx:DenC w bx x2 L) (dy:DenC w bY y2 M) (hne:(x2:Int)*y1≠0) (hL:L+M<=390000000) :
  Calls Tryz.prog 97 #[.pointer (some ⟨bz,0,none⟩),.pointer (some ⟨bx,0,none⟩),.pointer (some ⟨bY,0,none⟩)] w fun e w'=>e=.returned (.pointer (some ⟨bz,0,none⟩))/\RPut w w' bz/\RatAt w' bz (low1 (upS (x1*(y2:Int)) ((x2:Int)*y1)) ((x2:Int)*y1).natAbs) (low2 (upS (x1*(y2:Int)) ((x2:Int)*y1)) ((x2:Int)*y1).natAbs) (L+M+2):=by
 have HX:=hide hX;have HY:=hide hY;have DX:=hide dx;have DY:=hide dy;have Z1:=hide hz1;have Z2:=hide hz2;clear hX hY dx dy hz1 hz2;go_enter Tryz.func97,Tryz.ntmps97
 go_upto_region 1 with fail;refine wp_region_any (by kernel_rfl) ?_;change wpAny _ _ _ _ _ _ _ (World.drew _)
 refine wpAny_take (i:=0) (v:=.pointer (some ⟨bz,0,none⟩)) rfl (by kernel_rfl) (by kernel_rfl) (by kernel_rfl) (fun _ _ _ h=>h) (Or.inl ⟨by rfl,?ty0⟩) ?tr0
 case ty0=>(intro w;go_simp<;>rfl)
 case tr0 =>
  refine wpAny_take (i:=2) (v:=.pointer (some ⟨bx,0,none⟩)) rfl (by kernel_rfl) (by kernel_rfl) (by kernel_rfl) (fun _ _ _ h=>h) (Or.inl ⟨by rfl,?ty2⟩) ?tr2
  case ty2=>(intro w;go_simp<;>rfl)
  case tr2 =>
   refine wpAny_take (i:=3) (v:=.pointer (some ⟨bx,0,none⟩)) rfl (by kernel_rfl) (by kernel_rfl) (by kernel_rfl) (fun _ _ _ h=>h) (Or.inl ⟨by rfl,?ty3⟩) ?tr3
   case ty3=>(intro w;go_simp<;>rfl)
   case tr3 =>
    refine wpAny_take (i:=4) (v:=.pointer (some ⟨bx,0,none⟩)) rfl (by kernel_rfl) (by kernel_rfl) (by kernel_rfl) (fun _ _ _ h=>h) (Or.inl ⟨by rfl,?ty4⟩) ?tr4
    case ty4=>(intro w;go_simp<;>rfl)
    case tr4 =>
     refine wpAny_take (i:=5) (v:=.pointer (some ⟨bY,0,none⟩)) rfl (by kernel_rfl) (by kernel_rfl) (by kernel_rfl) (fun _ _ _ h=>h) (Or.inl ⟨by rfl,?ty5⟩) ?tr5
     case ty5=>(intro w;go_simp<;>rfl)
     case tr5 =>
      refine wpAny_take (i:=9) (v:=.pointer (some ⟨bx,0,none⟩)) rfl (by kernel_rfl) (by kernel_rfl) (by kernel_rfl) (fun _ _ _ h=>h) (Or.inl ⟨by rfl,?ty9⟩) ?tr9
      case ty9=>(intro w;go_simp<;>rfl)
      case tr9 =>
       refine wpAny_take (i:=11) (v:=.pointer (some ⟨bY,0,none⟩)) rfl (by kernel_rfl) (by kernel_rfl) (by kernel_rfl) (fun _ _ _ h=>h) (Or.inl ⟨by rfl,?ty11⟩) ?tr11
       case ty11=>(intro w;go_simp<;>rfl)
       case tr11 =>
        refine wpAny_take (i:=12) (v:=.pointer (some ⟨bY,0,none⟩)) rfl (by kernel_rfl) (by kernel_rfl) (by kernel_rfl) (fun _ _ _ h=>h) (Or.inl ⟨by rfl,?ty12⟩) ?tr12
        case ty12=>(intro w;go_simp<;>rfl)
        case tr12 =>
         refine wpAny_take (i:=13) (v:=.pointer (some ⟨bY,0,none⟩)) rfl (by kernel_rfl) (by kernel_rfl) (by kernel_rfl) (fun _ _ _ h=>h) (Or.inl ⟨by rfl,?ty13⟩) ?tr13
         case ty13=>(intro w;go_simp<;>rfl)
         case tr13 =>
          refine quoT_0_ ⟨Z1.out,Z2.out,DX.out,DY.out,hne,hL,?_⟩ _ (((Mem.start (gr_drew (gr_refl w none))).old HY.out).old HX.out);rintro d1 o1 d2 o2 p8 p16 w1 ⟨m1,m2⟩;have M1:=hide m1;have M2:=hide m2;clear m1 m2;unfold pp;go_wp2;go_ret;exact ⟨rfl,M1.out,M2.out⟩
theorem quo_ne (p:Rat) {q:Rat} (h:q≠0):(p.den:Int)*q.num≠0:=by
 have h1:=p.den_pos;have h2:q.num≠0:=fun e=>h (Rat.num_eq_zero.1 e)
 exact Int.mul_ne_zero (by omega) h2
theorem quo_up (p:Rat) {q:Rat} (h:q≠0):mkRat (upS (p.num*(q.den:Int)) ((p.den:Int)*q.num)) ((p.den:Int)*q.num).natAbs=p / q:=by
 have h1:=p.den_pos;have h2:q.num≠0:=fun e=>h (Rat.num_eq_zero.1 e)
 have hd:=q_div p q;rw [<- hd];have e1:((p.den:Int)*q.num).natAbs=rN q*p.den:=by
  rw [Int.natAbs_mul,Int.natAbs_natCast,Nat.mul_comm];rfl
 rw [e1];congr 1
 unfold upS;by_cases hn:q.num<0
 ·have:(p.den:Int)*q.num<0:=Int.mul_neg_of_pos_of_neg (by omega) hn;rw [if_pos this];have hb:rB q=true:=by unfold rB;exact decide_eq_true hn
  rw [hb];have:=rat_sgn p;rw [sgq_mul_nat];rw [<- Int.neg_mul];congr 1
  rw [<- this];unfold sgq;cases rB p<;>simp
 ·have:¬ (p.den:Int)*q.num<0:=by
   have:=Int.mul_nonneg (a:=(p.den:Int)) (b:=q.num) (by omega) (by omega);omega
  rw [if_neg this];have hb:rB q=false:=by unfold rB;exact decide_eq_false hn
  rw [hb,sgq_mul_nat];congr 1
  rw [Bool.bne_false];exact (rat_sgn p).symm
theorem rQuoX_at (bx bY:Nat) (p q:Rat) (L M:Nat) (w:World) (hX:RX w bx p L) (hY:RX w bY q M) (hq:q≠0) (hL:L+M<=390000000) :
  Calls Tryz.prog 53 #[.pointer (some ⟨bx,0,none⟩),.pointer (some ⟨bY,0,none⟩)] w fun e w'=>RQE w (p / q) (L+M+2) e w':=by
 have HX:=hide hX;have HY:=hide hY;clear hX hY;go_enter Tryz.func53,Tryz.ntmps53
 go_wp2_with fail;have g1:=gr_alloc (gr_refl w none) (.cells #[.bool false,.slice none 0 0,.bool false,.slice none 0 0] 53);refine (ratQuoX_at w.heap.size bx bY false false (.slice none 0 0) (.slice none 0 0) _ _ _ _ L M _ (newRatB w).1 (newRatB w).2 (HX.out.1.keep0 g1) (HY.out.1.keep0 g1) (HX.out.2.keep0 g1) (HY.out.2.keep0 g1) (quo_ne p hq) hL).mono ?_;rintro e w1 ⟨rfl,a1,a2⟩;have A1:=hide a1;have A2:=hide a2;clear a1 a2 g1;go_wp2;go_ret;exact ⟨_,rfl,RatAt.q (by have:=quo_ne p hq;omega) (quo_up p hq) A2.out,gr_rput (gr_alloc (gr_refl _ _) _) A1.out (Nat.le_refl _),Nat.le_refl _⟩
theorem rQuoSX_at (bx bY:Nat) (p q:Rat) (L M:Nat) (w:World) (hX:RX w bx p L) (hY:RX w bY q M) (hq:q≠0) (hL:L+M<=390000000) :
  Calls Tryz.prog 22 #[.pointer (some ⟨bx,0,none⟩),.pointer (some ⟨bY,0,none⟩)] w fun e w'=>RQE w (p / q) (L+M+2) e w':=by
 have HX:=hide hX;have HY:=hide hY;clear hX hY;go_enter Tryz.func22,Tryz.ntmps22
 go_wp2_with fail;refine (rQuoX_at bx bY p q L M _ HX.out HY.out hq hL).mono ?_;rintro e w1 ⟨b,rfl,h⟩;have H:=hide h;clear h;go_wp2;go_ret;exact ⟨b,rfl,H.out⟩
end Go.Proofs.YtkhgaelnglndiaaGreatDoor
