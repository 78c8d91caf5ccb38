/- Contracts that the proof leans on. -/
import Derived.Test.YtkhgaelnglndiaaGreatDoorXCBg
import Derived.Test.YtkhgaelnglndiaaGreatDoorXCBf
namespace Go.Proofs.YtkhgaelnglndiaaGreatDoor
open Go.RowKit
set_option linter.unusedVariables false
set_option linter.unusedSimpArgs false
set_option maxHeartbeats 8000000
set_option maxRecDepth 10000
def ordX (p q:Rat):Int:=if p.den=q.den then ordI p.num q.num else ordI (p.num*(q.den:Int)) (q.num*(p.den:Int))
theorem ordX_zero (p q:Rat):ordX p q=0↔p=q:=by
 unfold ordX;split
 ·rename_i h;rw [ordI_zero];constructor
  ·intro e;exact Rat.ext e h
  ·rintro rfl;rfl
 ·rw [ordI_zero];have h:=Rat.mkRat_eq_iff (n₁:=p.num) (n₂:=q.num) (Nat.ne_of_gt p.den_pos) (Nat.ne_of_gt q.den_pos);rw [Rat.mkRat_self,Rat.mkRat_self] at h;exact h.symm
theorem ratCmpX_at (bx bY:Nat) (p q:Rat) (L M:Nat) (w:World) (hX:RX w bx p L) (hY:RX w bY q M) (hL:L+M<=400000000) :
  Calls Tryz.prog 21 #[.pointer (some ⟨bx,0,none⟩),.pointer (some ⟨bY,0,none⟩)] w fun e w'=>e=.returned (.int .i64 (ordX p q))/\w.grownBy w' none:=by
 have HX:=hide hX;have HY:=hide hY;clear hX hY;go_enter Tryz.func21,Tryz.ntmps21
 go_wp2_with fail;refine (HX.out.2 _ _ _ (Mem.start (gr_refl w none))).mono ?_;rintro e w1 ⟨d1,o1,rfl,g1,m1⟩;have M1:=hide m1;clear m1 g1;go_wp2_with fail;refine (HY.out.2 _ _ _ M1.out).mono ?_;rintro e w2 ⟨d2,o2,rfl,g2,m2⟩;have M2:=hide m2;clear m2 g2;go_wp2_with fail;refine (intCmpZ_at d1 o1 d2 o2 (p.den:Int) (q.den:Int) L M _ (M2.out.away (by simp)) (M2.out.away (by simp))).mono ?_;rintro e w3 ⟨rfl,g3⟩;have G3:Hid (w.grownBy w3 none):=gr_none M2.out.gr g3;clear g3;by_cases hd:p.den=q.den
 ·have hz:(ordI (p.den:Int) (q.den:Int)==0)=true:=by
   rw [beq_iff_eq,ordI_zero,hd]
  have HE:Hid (ordI p.num q.num=ordX p q):=by unfold Hid ordX;rw [if_pos hd]
  clear hd;go_wp2_with fail;go_region_with (go_at_call 52;refine (intCmpZ_at bx 0 bY 0 p.num q.num L M _ (HX.out.1.keep0 (gr_drew G3.out)) (HY.out.1.keep0 (gr_drew G3.out))).mono ?_;rintro e w4 ⟨rfl,g4⟩)
  all_goals
   go_wp2;go_ret;exact ⟨congrArg (fun z=>Ending.returned (.int .i64 z)) HE.out,gr_none (gr_drew G3.out) g4⟩
 ·have hz:(ordI (p.den:Int) (q.den:Int)==0)=false:=by
   rw [beq_eq_false_iff_ne,Ne,ordI_zero];omega
  have HE:Hid (ordI (p.num*(q.den:Int)) (q.num*(p.den:Int))=ordX p q):=by unfold Hid ordX;rw [if_neg hd]
  clear hd;go_upto_region 3 with fail;go_cut [4] (fun s4 wx=>Hid (s4=.int .i64 (ordI (p.num*(q.den:Int)) (q.num*(p.den:Int)))/\w.grownBy wx none))
  case first =>
   refine wp_region_any (by kernel_rfl) ?_;change wpAny _ _ _ _ _ _ _ (World.drew _)
   refine wpAny_take (i:=1) (v:=.pointer (some ⟨bx,0,none⟩)) rfl (by kernel_rfl) (by kernel_rfl) (by kernel_rfl) (fun _ _ _ h=>h) (Or.inl ⟨by rfl,?ty1⟩) ?tr1
   case ty1=>(intro w;go_simp<;>rfl)
   case tr1 =>
    refine wpAny_take (i:=2) (v:=.pointer (some ⟨bx,0,none⟩)) rfl (by kernel_rfl) (by kernel_rfl) (by kernel_rfl) (fun _ _ _ h=>h) (Or.inl ⟨by rfl,?ty2⟩) ?tr2
    case ty2=>(intro w;go_simp<;>rfl)
    case tr2 =>
     refine wpAny_take (i:=3) (v:=.pointer (some ⟨bx,0,none⟩)) rfl (by kernel_rfl) (by kernel_rfl) (by kernel_rfl) (fun _ _ _ h=>h) (Or.inl ⟨by rfl,?ty3⟩) ?tr3
     case ty3=>(intro w;go_simp<;>rfl)
     case tr3 =>
      refine wpAny_take (i:=4) (v:=.pointer (some ⟨bY,0,none⟩)) rfl (by kernel_rfl) (by kernel_rfl) (by kernel_rfl) (fun _ _ _ h=>h) (Or.inl ⟨by rfl,?ty4⟩) ?tr4
      case ty4=>(intro w;go_simp<;>rfl)
      case tr4 =>
       refine wpAny_take (i:=8) (v:=.pointer (some ⟨bY,0,none⟩)) rfl (by kernel_rfl) (by kernel_rfl) (by kernel_rfl) (fun _ _ _ h=>h) (Or.inl ⟨by rfl,?ty8⟩) ?tr8
       case ty8=>(intro w;go_simp<;>rfl)
       case tr8 =>
        refine wpAny_take (i:=9) (v:=.pointer (some ⟨bY,0,none⟩)) rfl (by kernel_rfl) (by kernel_rfl) (by kernel_rfl) (fun _ _ _ h=>h) (Or.inl ⟨by rfl,?ty9⟩) ?tr9
        case ty9=>(intro w;go_simp<;>rfl)
        case tr9 =>
         refine wpAny_take (i:=10) (v:=.pointer (some ⟨bY,0,none⟩)) rfl (by kernel_rfl) (by kernel_rfl) (by kernel_rfl) (fun _ _ _ h=>h) (Or.inl ⟨by rfl,?ty10⟩) ?tr10
         case ty10=>(intro w;go_simp<;>rfl)
         case tr10 =>
          refine wpAny_take (i:=11) (v:=.pointer (some ⟨bx,0,none⟩)) rfl (by kernel_rfl) (by kernel_rfl) (by kernel_rfl) (fun _ _ _ h=>h) (Or.inl ⟨by rfl,?ty11⟩) ?tr11
          case ty11=>(intro w;go_simp<;>rfl)
          case tr11 =>
           exact cmpT_0_ ⟨HX.out.2,HY.out.2,hL,fun d1 o1 d2 o2 p9 p16 w1 g1=>by unfold pp;go_wp2;go_meet;case rel=>exact hide ⟨rfl,g1⟩⟩ _ (((Mem.start (gr_drew G3.out)).old HY.out.1).old HX.out.1)
  case rest =>
   obtain ⟨rfl,g⟩:=hcut.out;have G:=hide g;clear g;go_wp2;go_ret;exact ⟨congrArg (fun z=>Ending.returned (.int .i64 z)) HE.out,G.out⟩
end Go.Proofs.YtkhgaelnglndiaaGreatDoor
