/- Contracts that the proof leans on. -/
import Derived.Test.YthblidglcppakaaGreatDoorXRAddT
import Derived.Test.YthblidglcppakaaGreatDoorXCBd
import Derived.Test.YthblidglcppakaaGreatDoorXMBase
namespace Go.Proofs.YthblidglcppakaaGreatDoor
open Go.RowKit
set_option linter.unusedVariables false
set_option linter.unusedSimpArgs false
set_option maxHeartbeats 8000000
set_option maxRecDepth 10000
theorem rC (bz bx bY:Nat) (n1 n2:Bool) (v1 v2:Value) (x1 y1:Int) (x2 y2 L M:Nat) (w:World) (hz1:gC w bz 0 n1 v1) (hz2:gC w bz 2 n2 v2) (hX:aB w bx 0 x1 L) (hY:aB w bY 0 y1 M) (dx:jb w bx x2 L) (dy:jb w bY y2 M) (hx2:0<x2) (hy2:0<y2) (hL:L+M<=3900000000000) :
  Calls Tryz.prog 9 #[.pointer (some ⟨bz,0,none⟩),.pointer (some ⟨bx,0,none⟩),.pointer (some ⟨bY,0,none⟩)] w fun e w'=>e=.returned (.pointer (some ⟨bz,0,none⟩))/\bB w w' bz/\bQ w' bz (fp (x1*(y2:Int)+y1*(x2:Int)) (x2*y2)) (fe (x1*(y2:Int)+y1*(x2:Int)) (x2*y2)) (L+M+3):=by
 have HX:=ab hX;have HY:=ab hY;have DX:=ab dx;have DY:=ab dy;have Z1:=ab hz1;have Z2:=ab hz2;replace hL:L+M<=4000000000000-100000000000:=hL;have hL':=hL;clear hX hY dx dy hz1 hz2;replace hL:L+M<=4000000000000:=by omega
 go_enter Tryz.func9,Tryz.ntmps9
 go_upto_region 1 with fail;go_cut [7] (fun s7 wx=>Hid (∃ p8,s7=.pointer (some ⟨p8,0,none⟩)/\aT w wx [] [⟨p8,0,x1*(y2:Int)+y1*(x2:Int),max (L+M) (M+L)+1⟩]))
 case first =>
  refine wp_region_any (by kernel_rfl) ?_;change wpAny _ _ _ _ _ _ _ (World.drew _)
  refine wpAny_take (i:=2) (v:=.pointer (some ⟨bx,0,none⟩)) rfl (by kernel_rfl) (by kernel_rfl) (by kernel_rfl) (fun _ _ _ h=>h) (Or.inl ⟨by rfl,?ty2⟩) ?tr2
  case ty2=>(intro w;go_simp<;>rfl)
  case tr2 =>
   refine wpAny_take (i:=3) (v:=.pointer (some ⟨bx,0,none⟩)) rfl (by kernel_rfl) (by kernel_rfl) (by kernel_rfl) (fun _ _ _ h=>h) (Or.inl ⟨by rfl,?ty3⟩) ?tr3
   case ty3=>(intro w;go_simp<;>rfl)
   case tr3 =>
    refine wpAny_take (i:=4) (v:=.pointer (some ⟨bx,0,none⟩)) rfl (by kernel_rfl) (by kernel_rfl) (by kernel_rfl) (fun _ _ _ h=>h) (Or.inl ⟨by rfl,?ty4⟩) ?tr4
    case ty4=>(intro w;go_simp<;>rfl)
    case tr4 =>
     refine wpAny_take (i:=5) (v:=.pointer (some ⟨bY,0,none⟩)) rfl (by kernel_rfl) (by kernel_rfl) (by kernel_rfl) (fun _ _ _ h=>h) (Or.inl ⟨by rfl,?ty5⟩) ?tr5
     case ty5=>(intro w;go_simp<;>rfl)
     case tr5 =>
      refine wpAny_take (i:=9) (v:=.pointer (some ⟨bY,0,none⟩)) rfl (by kernel_rfl) (by kernel_rfl) (by kernel_rfl) (fun _ _ _ h=>h) (Or.inl ⟨by rfl,?ty9⟩) ?tr9
      case ty9=>(intro w;go_simp<;>rfl)
      case tr9 =>
       refine wpAny_take (i:=10) (v:=.pointer (some ⟨bY,0,none⟩)) rfl (by kernel_rfl) (by kernel_rfl) (by kernel_rfl) (fun _ _ _ h=>h) (Or.inl ⟨by rfl,?ty10⟩) ?tr10
       case ty10=>(intro w;go_simp<;>rfl)
       case tr10 =>
        refine wpAny_take (i:=11) (v:=.pointer (some ⟨bY,0,none⟩)) rfl (by kernel_rfl) (by kernel_rfl) (by kernel_rfl) (fun _ _ _ h=>h) (Or.inl ⟨by rfl,?ty11⟩) ?tr11
        case ty11=>(intro w;go_simp<;>rfl)
        case tr11 =>
         refine wpAny_take (i:=12) (v:=.pointer (some ⟨bx,0,none⟩)) rfl (by kernel_rfl) (by kernel_rfl) (by kernel_rfl) (fun _ _ _ h=>h) (Or.inl ⟨by rfl,?ty12⟩) ?tr12
         case ty12=>(intro w;go_simp<;>rfl)
         case tr12 =>
          exact addT_0_ ⟨DX.out,DY.out,hL,fun d1 o1 d2 o2 p8 p9 p16 w1 m1=>by unfold pp;go_wp2;go_meet;case rel=>exact ab ⟨p8,rfl,m1.drop (by simp)⟩⟩ _ (((aT.start (kC (ae w none))).old HY.out).old HX.out)
 case rest =>
  rename_i s7 wc;obtain ⟨p8,rfl,m⟩:=hcut.out;have M0:=ab m;clear m;go_wp2_with fail;refine (DX.out _ _ _ (aT.alloc (A:=[]) (B:=[]) M0.out)).mono ?_;rintro e w1 ⟨d1,o1,rfl,_,m1⟩;have M1:=ab m1;clear m1;go_wp2_with fail;refine (DY.out _ _ _ M1.out).mono ?_;rintro e w2 ⟨d2,o2,rfl,_,m2⟩;have M2:=ab m2;clear m2;go_wp2_with fail;refine (aT.mul (A:=[]) (B:=[]) M2.out (x:=(x2:Int)) (y:=(y2:Int)) (L:=L) (M:=M) (by simp) (by simp) (by omega)).mono ?_;rintro e w3 ⟨rfl,m3⟩;have M3:=ab m3;clear m3;go_wp2_with fail;refine (dJ bz p8 0 _ 0 n1 n2 v1 v2 (x1*(y2:Int)+y1*(x2:Int)) (x2*y2) (L+M+1) _ (Z1.out.keep0 M3.out.gr) (Z2.out.keep0 M3.out.gr) ((M3.out.away (L:=max (L+M) (M+L)+1) (by simp)).mono (by omega)) ((by rw [Int.natCast_mul];exact M3.out.away (L:=L+M) (by simp):aB w3 wc.heap.size 0 ((x2*y2:Nat):Int) (L+M)).mono (by omega)) (Nat.mul_pos hx2 hy2) (by omega)).mono ?_;rintro e w4 ⟨rfl,r1,r2⟩;have R1:=ab r1;have R2:=ab r2;clear r1 r2;go_wp2;go_ret;exact ⟨rfl,(bB.of_gr M3.out.gr).trans R1.out,R2.out⟩
theorem low_mk (x:Int) (y:Nat) (hy:0<y):fp x y=(mkRat x y).num/\fe x y=(mkRat x y).den:=by
 rw [Rat.num_mkRat,Rat.den_mkRat,if_neg (by omega),if_neg (by omega)];unfold fp fe;rw [Nat.gcd_comm y x.natAbs];exact ⟨rfl,rfl⟩
def RQ (w:World) (b:Nat) (q:Rat) (L:Nat):Prop:=bQ w b q.num q.den L
theorem RQ.keep0 {w w':World} {b L:Nat} {q:Rat} (h:RQ w b q L) (hg:w.grownBy w' none):RQ w' b q L:=bQ.keep0 h hg
theorem RQ.mono {w:World} {b L L':Nat} {q:Rat} (h:RQ w b q L) (hl:L<=L'):RQ w b q L':=bQ.mono h hl
def RQE (w:World) (q:Rat) (L:Nat) (e:Ending) (w':World):Prop:=∃ b,e=.returned (.pointer (some ⟨b,0,none⟩))/\RQ w' b q L/\w.grownBy w' none/\w.heap.size<=b
theorem kE (w:World):gC (w.alloc (.cells #[.bool false,.slice none 0 0,.bool false,.slice none 0 0] 47)) w.heap.size 0 false (.slice none 0 0)/\gC (w.alloc (.cells #[.bool false,.slice none 0 0,.bool false,.slice none 0 0] 47)) w.heap.size 2 false (.slice none 0 0) :=
 ⟨by constructor<;>simp,by constructor<;>simp⟩
theorem lW {w w1 w2:World} {b:Nat} (h:w.grownBy w1 none) (k:bB w1 w2 b) (hb:w.heap.size<=b):w.grownBy w2 none :=
 aq h k.gr (fun _ _ e=>e) (fun c hc e=>by cases e;omega)
theorem bQ.q {w:World} {b:Nat} {x:Int} {y L:Nat} {q:Rat} (hy:0<y) (hq:mkRat x y=q) (h:bQ w b (fp x y) (fe x y) L):RQ w b q L:=by
 obtain ⟨e1,e2⟩:=low_mk x y hy;rw [e1,e2,hq] at h;exact h
theorem zV (x:Int):mkRat x 1=(x:Rat):=by
 rw [Rat.mkRat_eq_div];have:((1:Nat):Rat)=1:=rfl;rw [this,Rat.div_def];have:(1:Rat)⁻¹=1:=by decide +kernel
 rw [this,Rat.mul_one]
def qv (w:World) (b L:Nat):Prop:=aB w b 0 0 L/\aB w b 2 0 L
theorem qv.keep0 {w w':World} {b L:Nat} (h:qv w b L) (hg:w.grownBy w' none):qv w' b L:=⟨h.1.keep0 hg,h.2.keep0 hg⟩
theorem den_nil (b L:Nat) (w:World) (h:qv w b L) :
  Calls Tryz.prog 35 #[.pointer (some ⟨b,0,none⟩)] w fun e w'=>e=.returned (.pointer (some ⟨w.heap.size,0,none⟩))/\w.grownBy w' none/\aB w' w.heap.size 0 1 2/\eX w w' w.heap.size 0:=by
 obtain ⟨nb,vb,b1,b2,b3,b4⟩:=h.2;obtain ⟨bo,lb,cb,rfl,y1,y2,y3,y4,y5,y6⟩:=aL b2;obtain rfl:lb=0:=y1.2 rfl;have d1:w.cell? ⟨b,3,none⟩=some (.slice bo 0 cb):=b1.c1;clear b1 b2 b3 b4 y1 y5 y6 h;go_enter Tryz.func35,Tryz.ntmps35
 go_wp2_with fail;refine (fF 1 _ (by omega) (by omega)).mono ?_;rintro e w1 ⟨rfl,a1,a2,a3⟩;have A1:=ab a1;have A2:=ab a2;have A3:=ab a3;clear a1 a2 a3;go_wp2;go_ret;exact ⟨rfl,A1.out,A2.out,A3.out⟩
def RX (w:World) (b:Nat) (q:Rat) (L:Nat):Prop:=aB w b 0 q.num L/\jb w b q.den L
theorem RX.keep0 {w w':World} {b L:Nat} {q:Rat} (h:RX w b q L) (hg:w.grownBy w' none):RX w' b q L:=⟨h.1.keep0 hg,h.2.keep0 hg⟩
theorem RQ.x {w:World} {b L:Nat} {q:Rat} (h:RQ w b q L):RX w b q L:=⟨h.1,bQ.denC h⟩
theorem qv.x {w:World} {b L:Nat} (h:qv w b L) (hL:2<=L):RX w b 0 L:=by
 refine ⟨h.1,?_⟩;have:jb w b 1 2:=by
  intro w1 F I m;refine (den_nil b L w1 (h.keep0 m.gr)).mono ?_;rintro e w' ⟨rfl,g,i1,i2⟩;exact ⟨w1.heap.size,0,rfl,g,m.new g i1 (Nat.le_refl _) i2⟩
 exact this.mono hL
theorem AV (p q:Rat):mkRat (p.num*(q.den:Int)+q.num*(p.den:Int)) (p.den*q.den)=p+q:=(Rat.add_def' p q).symm
theorem rAdd_at (bx bY:Nat) (p q:Rat) (L M:Nat) (w:World) (hX:RX w bx p L) (hY:RX w bY q M) (hL:L+M<=3900000000000) :
  Calls Tryz.prog 37 #[.pointer (some ⟨bx,0,none⟩),.pointer (some ⟨bY,0,none⟩)] w fun e w'=>RQE w (p+q) (L+M+3) e w':=by
 have HX:=ab hX;have HY:=ab hY;clear hX hY;go_enter Tryz.func37,Tryz.ntmps37
 go_wp2_with fail;have g1:=ag (ae w none) (.cells #[.bool false,.slice none 0 0,.bool false,.slice none 0 0] 47);refine (rC w.heap.size bx bY false false (.slice none 0 0) (.slice none 0 0) _ _ _ _ L M _ (kE w).1 (kE w).2 (HX.out.1.keep0 g1) (HY.out.1.keep0 g1) (HX.out.2.keep0 g1) (HY.out.2.keep0 g1) p.den_pos q.den_pos hL).mono ?_;rintro e w1 ⟨rfl,a1,a2⟩;have A1:=ab a1;have A2:=ab a2;clear a1 a2 g1;go_wp2;go_ret;exact ⟨_,rfl,bQ.q (Nat.mul_pos p.den_pos q.den_pos) (AV p q) A2.out,lW (ag (ae _ _) _) A1.out (Nat.le_refl _),Nat.le_refl _⟩
theorem Cx (bx bY:Nat) (p q:Rat) (L M:Nat) (w:World) (hX:RX w bx p L) (hY:RX w bY q M) (hL:L+M<=3900000000000) :
  Calls Tryz.prog 11 #[.pointer (some ⟨bx,0,none⟩),.pointer (some ⟨bY,0,none⟩)] w fun e w'=>RQE w (p+q) (L+M+3) e w':=by
 have HX:=ab hX;have HY:=ab hY;clear hX hY;go_enter Tryz.func11,Tryz.ntmps11
 go_wp2_with fail;refine (rAdd_at bx bY p q L M _ HX.out HY.out hL).mono ?_;rintro e w1 ⟨b,rfl,h⟩;have H:=ab h;clear h;go_wp2;go_ret;exact ⟨b,rfl,H.out⟩
end Go.Proofs.YthblidglcppakaaGreatDoor
