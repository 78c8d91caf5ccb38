/- Contracts that the proof leans on. -/
import Derived.Test.YtkhgaelnglndiaaGreatDoorXCBe
namespace Go.Proofs.YtkhgaelnglndiaaGreatDoor
open Go.RowKit
set_option linter.unusedVariables false
set_option linter.unusedSimpArgs false
set_option maxHeartbeats 8000000
set_option maxRecDepth 10000
def ordI (x y:Int):Int:=if x<y then -1 else if x=y then 0 else 1
theorem ordI_zero (x y:Int):(ordI x y=0)↔x=y:=by
 unfold ordI;repeat' split
 all_goals omega
theorem ordI_pos (m n:Nat) (x y:Int) (hx:x=m) (hy:y=n):ord m n=ordI x y:=by
 unfold ordI ord;repeat' split
 all_goals omega
theorem ordI_neg (m n:Nat) (x y:Int) (hx:x = -(m:Int)) (hy:y = -(n:Int)):-ord m n=ordI x y:=by
 unfold ordI ord;repeat' split
 all_goals omega
theorem intCmpZ_at (bx ox bY oY:Nat) (x y:Int) (L M:Nat) (w:World) (hX:IntAt w bx ox x L) (hY:IntAt w bY oY y M) :
  Calls Tryz.prog 52 #[.pointer (some ⟨bx,ox,none⟩),.pointer (some ⟨bY,oY,none⟩)] w fun e w'=>e=.returned (.int .i64 (ordI x y))/\w.grownBy w' none:=by
 obtain ⟨nx,vx,x1,x2,x3,x4⟩:=hX;obtain ⟨ny,vy,y1,y2,y3,y4⟩:=hY;have X2:=hide x2;have Y2:=hide y2;have c0:=x1.c0;have c1:=x1.c1;have d0:=y1.c0;have d1:=y1.c1;have X3:=hide x3;have Y3:=hide y3;clear x1 x2 x3 x4 y1 y2 y3 y4;cases nx
 ·cases ny
  ·have h1:x=(x.natAbs:Int):=by have:=of_decide_eq_false X3.out.symm;omega
   have h2:y=(y.natAbs:Int):=by have:=of_decide_eq_false Y3.out.symm;omega
   have H:=hide (ordI_pos _ _ x y h1 h2);clear h1 h2;go_enter Tryz.func52,Tryz.ntmps52
   go_wp2;go_quiet (fail)
   go_wp2;go_region_with (go_at_call 96;refine (cmp_num _ _ x.natAbs y.natAbs L M _ (X2.out.keep0 (by first | exact gr_refl _ _ | (refine gr_drewN ?_ _;first | exact gr_refl _ _ | exact gr_drewN (gr_refl _ _) _))) (Y2.out.keep0 (by first | exact gr_refl _ _ | (refine gr_drewN ?_ _;first | exact gr_refl _ _ | exact gr_drewN (gr_refl _ _) _)))).mono ?_;rintro e w2 ⟨rfl,qq,rfl⟩)
   all_goals
    go_wp2;go_ret;exact ⟨congrArg (fun z=>Ending.returned (.int .i64 z)) H.out,by repeat (first | exact gr_refl _ _ | refine gr_drewN ?_ _)⟩
  ·have h1:=of_decide_eq_false X3.out.symm;have h2:=of_decide_eq_true Y3.out.symm;have H:Hid (ordI x y=1):=by unfold Hid ordI;rw [if_neg (by omega),if_neg (by omega)]
   clear h1 h2;go_enter Tryz.func52,Tryz.ntmps52
   go_wp2;go_quiet (fail)
   go_wp2;go_ret;exact ⟨congrArg (fun z=>Ending.returned (.int .i64 z)) H.out.symm,by repeat (first | exact gr_refl _ _ | refine gr_drewN ?_ _)⟩
 ·cases ny
  ·have h1:=of_decide_eq_true X3.out.symm;have h2:=of_decide_eq_false Y3.out.symm;have H:Hid (ordI x y = -1):=by unfold Hid ordI;rw [if_pos (by omega)]
   clear h1 h2;go_enter Tryz.func52,Tryz.ntmps52
   go_wp2;go_quiet (fail)
   go_wp2;go_ret;exact ⟨congrArg (fun z=>Ending.returned (.int .i64 z)) H.out.symm,by repeat (first | exact gr_refl _ _ | refine gr_drewN ?_ _)⟩
  ·have h1:x = -(x.natAbs:Int):=by have:=of_decide_eq_true X3.out.symm;omega
   have h2:y = -(y.natAbs:Int):=by have:=of_decide_eq_true Y3.out.symm;omega
   have H:=hide (ordI_neg _ _ x y h1 h2);have hw:IntKind.i64.wrap (-ord x.natAbs y.natAbs) = -ord x.natAbs y.natAbs:=by unfold ord;(repeat' split)<;>decide
   clear h1 h2;go_enter Tryz.func52,Tryz.ntmps52
   go_wp2;go_quiet (fail)
   go_wp2;go_region_with (go_at_call 96;refine (cmp_num _ _ x.natAbs y.natAbs L M _ (X2.out.keep0 (by first | exact gr_refl _ _ | (refine gr_drewN ?_ _;first | exact gr_refl _ _ | exact gr_drewN (gr_refl _ _) _))) (Y2.out.keep0 (by first | exact gr_refl _ _ | (refine gr_drewN ?_ _;first | exact gr_refl _ _ | exact gr_drewN (gr_refl _ _) _)))).mono ?_;rintro e w2 ⟨rfl,qq,rfl⟩)
   all_goals
    go_wp2;go_ret;exact ⟨congrArg (fun z=>Ending.returned (.int .i64 z)) H.out,by repeat (first | exact gr_refl _ _ | refine gr_drewN ?_ _)⟩
def cmpOps:Array Oper:=#[⟨some 18,.alloc 51,84, "rat.go:96",#[],none⟩,
 ⟨some 19,.move (.tmp 0),37, "rat.go:96",#[],none⟩,
 ⟨some 20,.nilCheck (.tmp 19),0, "rat.go:96",#[⟨1,.data⟩],none⟩,
 ⟨some 21,.fieldAddr 53 (.tmp 20) 0,0, "rat.go:96",#[⟨2,.data⟩],none⟩,
 ⟨some 22,.move (.tmp 1),37, "rat.go:96",#[],none⟩,
 ⟨some 23,.call ⟨.value (.func 44),#[.tmp 22],#[37]⟩,84, "rat.go:96",#[⟨4,.data⟩],none⟩,
 ⟨some 24,.call ⟨.value (.func 43),#[.tmp 18,.tmp 21,.tmp 23],#[84,84,84]⟩,84, "rat.go:96",#[⟨0,.data⟩,⟨3,.data⟩,⟨5,.data⟩,⟨5,.chain⟩],none⟩,
 ⟨some 25,.alloc 51,84, "rat.go:96",#[],none⟩,
 ⟨some 26,.move (.tmp 1),37, "rat.go:96",#[],none⟩,
 ⟨some 27,.nilCheck (.tmp 26),0, "rat.go:96",#[⟨8,.data⟩],none⟩,
 ⟨some 28,.fieldAddr 53 (.tmp 27) 0,0, "rat.go:96",#[⟨9,.data⟩],none⟩,
 ⟨some 29,.move (.tmp 0),37, "rat.go:96",#[],none⟩,
 ⟨some 30,.call ⟨.value (.func 44),#[.tmp 29],#[37]⟩,84, "rat.go:96",#[⟨11,.data⟩,⟨6,.chain⟩],none⟩,
 ⟨some 31,.call ⟨.value (.func 43),#[.tmp 25,.tmp 28,.tmp 30],#[84,84,84]⟩,84, "rat.go:96",#[⟨7,.data⟩,⟨10,.data⟩,⟨12,.data⟩,⟨12,.chain⟩],none⟩,
 ⟨some 32,.call ⟨.value (.func 52),#[.tmp 24,.tmp 31],#[84,84]⟩,3, "rat.go:96",#[⟨6,.data⟩,⟨13,.data⟩,⟨13,.chain⟩],none⟩,
 ⟨some 4,.assign (.tmp 32),3, "rat.go:96",#[⟨14,.data⟩,⟨14,.chain⟩,⟨0,.phase⟩,⟨1,.phase⟩,⟨2,.phase⟩,⟨3,.phase⟩,⟨4,.phase⟩,⟨5,.phase⟩,⟨6,.phase⟩,⟨7,.phase⟩,⟨8,.phase⟩,⟨9,.phase⟩,⟨10,.phase⟩,⟨11,.phase⟩,⟨12,.phase⟩,⟨13,.phase⟩,⟨14,.phase⟩],none⟩]
structure cmpH (bx bY:Nat) (s5 s6 s7 s8 s9 s10:Value) (x1 y1:Int) (x2 y2 L M:Nat) (w0:World) (Q:Exit->Act->World->Prop):Prop where
 dx:DenC w0 bx x2 L
 dy:DenC w0 bY y2 M
 hL:L+M<=400000000
 hQ:∀ (d1 o1 d2 o2 p9 p16:Nat) (w:World),w0.grownBy w none->Q .normal ⟨#[pp bx 0,pp bY 0,undef,undef,.int .i64 (ordI (x1*(y2:Int)) (y1*(x2:Int))),s5,s6,s7,s8,s9,s10,undef,undef,undef,undef,undef,undef,undef,pp p9 0,pp bx 0,pp bx 0,pp bx 0,pp bY 0,pp d1 o1,pp p9 0,pp p16 0,pp bY 0,pp bY 0,pp bY 0,pp bx 0,pp d2 o2,pp p16 0,.int .i64 (ordI (x1*(y2:Int)) (y1*(x2:Int)))],[]⟩ w
section
variable {bx bY:Nat} {s5 s6 s7 s8 s9 s10:Value} {x1 y1:Int} {x2 y2 L M:Nat} {w0:World} {Q:Exit->Act->World->Prop}
theorem cmpT_6_0_7_ (h:cmpH bx bY s5 s6 s7 s8 s9 s10 x1 y1 x2 y2 L M w0 Q)  (d1 o1 d2 o2 p9 p16:Nat) (w:World) (m:Mem w0 w [] [⟨p16,0,y1*(x2:Int),M+L⟩,⟨d2,o2,(x2:Int),L⟩,⟨p9,0,x1*(y2:Int),L+M⟩,⟨d1,o1,(y2:Int),M⟩,⟨bx,0,x1,L⟩,⟨bY,0,y1,M⟩]) :
  wpAny Tryz.prog .any cmpOps Q 0 #[true,true,true,true,true,true,true,true,true,true,true,true,true,true,true,true] ⟨#[pp bx 0,pp bY 0,undef,undef,.int .i64 (ordI (x1*(y2:Int)) (y1*(x2:Int))),s5,s6,s7,s8,s9,s10,undef,undef,undef,undef,undef,undef,undef,pp p9 0,pp bx 0,pp bx 0,pp bx 0,pp bY 0,pp d1 o1,pp p9 0,pp p16 0,pp bY 0,pp bY 0,pp bY 0,pp bx 0,pp d2 o2,pp p16 0,.int .i64 (ordI (x1*(y2:Int)) (y1*(x2:Int)))],[]⟩ w:=by
 have hL:=h.hL;unfold pp;refine wpAny_done (by kernel_rfl) ?_ _;exact h.hQ d1 o1 d2 o2 p9 p16 w m.gr
theorem cmpT_5_0_7_ (h:cmpH bx bY s5 s6 s7 s8 s9 s10 x1 y1 x2 y2 L M w0 Q)  (d1 o1 d2 o2 p9 p16:Nat) (w:World) (m:Mem w0 w [] [⟨p16,0,y1*(x2:Int),M+L⟩,⟨d2,o2,(x2:Int),L⟩,⟨p9,0,x1*(y2:Int),L+M⟩,⟨d1,o1,(y2:Int),M⟩,⟨bx,0,x1,L⟩,⟨bY,0,y1,M⟩]) :
  wpAny Tryz.prog .any cmpOps Q 1 #[true,true,true,true,true,true,true,true,true,true,true,true,true,true,true,false] ⟨#[pp bx 0,pp bY 0,undef,undef,.int .i64 0,s5,s6,s7,s8,s9,s10,undef,undef,undef,undef,undef,undef,undef,pp p9 0,pp bx 0,pp bx 0,pp bx 0,pp bY 0,pp d1 o1,pp p9 0,pp p16 0,pp bY 0,pp bY 0,pp bY 0,pp bx 0,pp d2 o2,pp p16 0,.int .i64 (ordI (x1*(y2:Int)) (y1*(x2:Int)))],[]⟩ w:=by
 have hL:=h.hL;unfold pp;refine wpAny_ready (rs:=[15]) (by kernel_rfl) (by simp) ?_;refine AllReady.cons (o:=⟨some 4,.assign (.tmp 32),3, "rat.go:96",#[⟨14,.data⟩,⟨14,.chain⟩,⟨0,.phase⟩,⟨1,.phase⟩,⟨2,.phase⟩,⟨3,.phase⟩,⟨4,.phase⟩,⟨5,.phase⟩,⟨6,.phase⟩,⟨7,.phase⟩,⟨8,.phase⟩,⟨9,.phase⟩,⟨10,.phase⟩,⟨11,.phase⟩,⟨12,.phase⟩,⟨13,.phase⟩,⟨14,.phase⟩],none⟩) rfl (fun K hK=>?_) ?_
 ·go_simp
  refine hK _ _ ?_;exact cmpT_6_0_7_ h d1 o1 d2 o2 p9 p16 _ m
 exact AllReady.nil
theorem cmpT_4_0_7_ (h:cmpH bx bY s5 s6 s7 s8 s9 s10 x1 y1 x2 y2 L M w0 Q)  (d1 o1 d2 o2 p9 p16:Nat) (w:World) (m:Mem w0 w [] [⟨p16,0,y1*(x2:Int),M+L⟩,⟨d2,o2,(x2:Int),L⟩,⟨p9,0,x1*(y2:Int),L+M⟩,⟨d1,o1,(y2:Int),M⟩,⟨bx,0,x1,L⟩,⟨bY,0,y1,M⟩]) :
  wpAny Tryz.prog .any cmpOps Q 2 #[true,true,true,true,true,true,true,true,true,true,true,true,true,true,false,false] ⟨#[pp bx 0,pp bY 0,undef,undef,.int .i64 0,s5,s6,s7,s8,s9,s10,undef,undef,undef,undef,undef,undef,undef,pp p9 0,pp bx 0,pp bx 0,pp bx 0,pp bY 0,pp d1 o1,pp p9 0,pp p16 0,pp bY 0,pp bY 0,pp bY 0,pp bx 0,pp d2 o2,pp p16 0,undef],[]⟩ w:=by
 have hL:=h.hL;unfold pp;refine wpAny_ready (rs:=[14]) (by kernel_rfl) (by simp) ?_;refine AllReady.cons (o:=⟨some 32,.call ⟨.value (.func 52),#[.tmp 24,.tmp 31],#[84,84]⟩,3, "rat.go:96",#[⟨6,.data⟩,⟨13,.data⟩,⟨13,.chain⟩],none⟩) rfl (fun K hK=>?_) ?_
 ·go_simp
  refine (intCmpZ_at p9 0 p16 0 (x1*(y2:Int)) (y1*(x2:Int)) (L+M) (M+L) _ (m.away (by simp)) (m.away (by simp))).mono ?_;rintro e w1 ⟨rfl,g⟩;have m1:=m.grow g;go_wp2;exact cmpT_5_0_7_ h d1 o1 d2 o2 p9 p16 _ m1
 exact AllReady.nil
theorem cmpT_3_0_7_ (h:cmpH bx bY s5 s6 s7 s8 s9 s10 x1 y1 x2 y2 L M w0 Q)  (d1 o1 d2 o2 p9 p16:Nat) (w:World) (m:Mem w0 w [p16] [⟨d2,o2,(x2:Int),L⟩,⟨p9,0,x1*(y2:Int),L+M⟩,⟨d1,o1,(y2:Int),M⟩,⟨bx,0,x1,L⟩,⟨bY,0,y1,M⟩]) :
  wpAny Tryz.prog .any cmpOps Q 3 #[true,true,true,true,true,true,true,true,true,true,true,true,true,false,false,false] ⟨#[pp bx 0,pp bY 0,undef,undef,.int .i64 0,s5,s6,s7,s8,s9,s10,undef,undef,undef,undef,undef,undef,undef,pp p9 0,pp bx 0,pp bx 0,pp bx 0,pp bY 0,pp d1 o1,pp p9 0,pp p16 0,pp bY 0,pp bY 0,pp bY 0,pp bx 0,pp d2 o2,undef,undef],[]⟩ w:=by
 have hL:=h.hL;unfold pp;refine wpAny_ready (rs:=[13]) (by kernel_rfl) (by simp) ?_;refine AllReady.cons (o:=⟨some 31,.call ⟨.value (.func 43),#[.tmp 25,.tmp 28,.tmp 30],#[84,84,84]⟩,84, "rat.go:96",#[⟨7,.data⟩,⟨10,.data⟩,⟨12,.data⟩,⟨12,.chain⟩],none⟩) rfl (fun K hK=>?_) ?_
 ·go_simp
  refine (Mem.mul (A:=[]) (B:=[]) m (x:=y1) (y:=(x2:Int)) (L:=M) (M:=L) (by simp) (by simp) (by omega)).mono ?_;rintro e w1 ⟨rfl,m1⟩;go_wp2;exact cmpT_4_0_7_ h d1 o1 d2 o2 p9 p16 _ m1
 exact AllReady.nil
theorem cmpT_3_0_ (h:cmpH bx bY s5 s6 s7 s8 s9 s10 x1 y1 x2 y2 L M w0 Q)  (d1 o1 d2 o2 p9:Nat) (w:World) (m:Mem w0 w [] [⟨d2,o2,(x2:Int),L⟩,⟨p9,0,x1*(y2:Int),L+M⟩,⟨d1,o1,(y2:Int),M⟩,⟨bx,0,x1,L⟩,⟨bY,0,y1,M⟩]) :
  wpAny Tryz.prog .any cmpOps Q 4 #[true,true,true,true,true,true,true,false,true,true,true,true,true,false,false,false] ⟨#[pp bx 0,pp bY 0,undef,undef,.int .i64 0,s5,s6,s7,s8,s9,s10,undef,undef,undef,undef,undef,undef,undef,pp p9 0,pp bx 0,pp bx 0,pp bx 0,pp bY 0,pp d1 o1,pp p9 0,undef,pp bY 0,pp bY 0,pp bY 0,pp bx 0,pp d2 o2,undef,undef],[]⟩ w:=by
 have hL:=h.hL;unfold pp;refine wpAny_ready (rs:=[7]) (by kernel_rfl) (by simp) ?_;refine AllReady.cons (o:=⟨some 25,.alloc 51,84, "rat.go:96",#[],none⟩) rfl (fun K hK=>?_) ?_
 ·go_simp
  refine hK _ _ ?_;exact cmpT_3_0_7_ h d1 o1 d2 o2 p9 w.heap.size _ (Mem.alloc (A:=[]) (B:=[]) m)
 exact AllReady.nil
theorem cmpT_2_0_7_ (h:cmpH bx bY s5 s6 s7 s8 s9 s10 x1 y1 x2 y2 L M w0 Q)  (d1 o1 p9 p16:Nat) (w:World) (m:Mem w0 w [p16] [⟨p9,0,x1*(y2:Int),L+M⟩,⟨d1,o1,(y2:Int),M⟩,⟨bx,0,x1,L⟩,⟨bY,0,y1,M⟩]) :
  wpAny Tryz.prog .any cmpOps Q 4 #[true,true,true,true,true,true,true,true,true,true,true,true,false,false,false,false] ⟨#[pp bx 0,pp bY 0,undef,undef,.int .i64 0,s5,s6,s7,s8,s9,s10,undef,undef,undef,undef,undef,undef,undef,pp p9 0,pp bx 0,pp bx 0,pp bx 0,pp bY 0,pp d1 o1,pp p9 0,pp p16 0,pp bY 0,pp bY 0,pp bY 0,pp bx 0,undef,undef,undef],[]⟩ w:=by
 have hL:=h.hL;unfold pp;refine wpAny_ready (rs:=[12]) (by kernel_rfl) (by simp) ?_;refine AllReady.cons (o:=⟨some 30,.call ⟨.value (.func 44),#[.tmp 29],#[37]⟩,84, "rat.go:96",#[⟨11,.data⟩,⟨6,.chain⟩],none⟩) rfl (fun K hK=>?_) ?_
 ·go_simp
  refine (h.dx _ _ _ m).mono ?_;rintro e w1 ⟨d2,o2,rfl,_,m1⟩;go_wp2;exact cmpT_3_0_7_ h d1 o1 d2 o2 p9 p16 _ m1
 exact AllReady.nil
theorem cmpT_2_0_ (h:cmpH bx bY s5 s6 s7 s8 s9 s10 x1 y1 x2 y2 L M w0 Q)  (d1 o1 p9:Nat) (w:World) (m:Mem w0 w [] [⟨p9,0,x1*(y2:Int),L+M⟩,⟨d1,o1,(y2:Int),M⟩,⟨bx,0,x1,L⟩,⟨bY,0,y1,M⟩]) :
  wpAny Tryz.prog .any cmpOps Q 5 #[true,true,true,true,true,true,true,false,true,true,true,true,false,false,false,false] ⟨#[pp bx 0,pp bY 0,undef,undef,.int .i64 0,s5,s6,s7,s8,s9,s10,undef,undef,undef,undef,undef,undef,undef,pp p9 0,pp bx 0,pp bx 0,pp bx 0,pp bY 0,pp d1 o1,pp p9 0,undef,pp bY 0,pp bY 0,pp bY 0,pp bx 0,undef,undef,undef],[]⟩ w:=by
 have hL:=h.hL;unfold pp;refine wpAny_ready (rs:=[7,12]) (by kernel_rfl) (by simp) ?_;refine AllReady.cons (o:=⟨some 25,.alloc 51,84, "rat.go:96",#[],none⟩) rfl (fun K hK=>?_) ?_
 ·go_simp
  refine hK _ _ ?_;exact cmpT_2_0_7_ h d1 o1 p9 w.heap.size _ (Mem.alloc (A:=[]) (B:=[]) m)
 refine AllReady.cons (o:=⟨some 30,.call ⟨.value (.func 44),#[.tmp 29],#[37]⟩,84, "rat.go:96",#[⟨11,.data⟩,⟨6,.chain⟩],none⟩) rfl (fun K hK=>?_) ?_
 ·go_simp
  refine (h.dx _ _ _ m).mono ?_;rintro e w1 ⟨d2,o2,rfl,_,m1⟩;go_wp2;exact cmpT_3_0_ h d1 o1 d2 o2 p9 _ m1
 exact AllReady.nil
theorem cmpT_1_0_7_ (h:cmpH bx bY s5 s6 s7 s8 s9 s10 x1 y1 x2 y2 L M w0 Q)  (d1 o1 p9 p16:Nat) (w:World) (m:Mem w0 w [p9,p16] [⟨d1,o1,(y2:Int),M⟩,⟨bx,0,x1,L⟩,⟨bY,0,y1,M⟩]) :
  wpAny Tryz.prog .any cmpOps Q 5 #[true,true,true,true,true,true,false,true,true,true,true,true,false,false,false,false] ⟨#[pp bx 0,pp bY 0,undef,undef,.int .i64 0,s5,s6,s7,s8,s9,s10,undef,undef,undef,undef,undef,undef,undef,pp p9 0,pp bx 0,pp bx 0,pp bx 0,pp bY 0,pp d1 o1,undef,pp p16 0,pp bY 0,pp bY 0,pp bY 0,pp bx 0,undef,undef,undef],[]⟩ w:=by
 have hL:=h.hL;unfold pp;refine wpAny_ready (rs:=[6]) (by kernel_rfl) (by simp) ?_;refine AllReady.cons (o:=⟨some 24,.call ⟨.value (.func 43),#[.tmp 18,.tmp 21,.tmp 23],#[84,84,84]⟩,84, "rat.go:96",#[⟨0,.data⟩,⟨3,.data⟩,⟨5,.data⟩,⟨5,.chain⟩],none⟩) rfl (fun K hK=>?_) ?_
 ·go_simp
  refine (Mem.mul (A:=[]) (B:=[p16]) m (x:=x1) (y:=(y2:Int)) (L:=L) (M:=M) (by simp) (by simp) (by omega)).mono ?_;rintro e w1 ⟨rfl,m1⟩;go_wp2;exact cmpT_2_0_7_ h d1 o1 p9 p16 _ m1
 exact AllReady.nil
theorem cmpT_1_0_ (h:cmpH bx bY s5 s6 s7 s8 s9 s10 x1 y1 x2 y2 L M w0 Q)  (d1 o1 p9:Nat) (w:World) (m:Mem w0 w [p9] [⟨d1,o1,(y2:Int),M⟩,⟨bx,0,x1,L⟩,⟨bY,0,y1,M⟩]) :
  wpAny Tryz.prog .any cmpOps Q 6 #[true,true,true,true,true,true,false,false,true,true,true,true,false,false,false,false] ⟨#[pp bx 0,pp bY 0,undef,undef,.int .i64 0,s5,s6,s7,s8,s9,s10,undef,undef,undef,undef,undef,undef,undef,pp p9 0,pp bx 0,pp bx 0,pp bx 0,pp bY 0,pp d1 o1,undef,undef,pp bY 0,pp bY 0,pp bY 0,pp bx 0,undef,undef,undef],[]⟩ w:=by
 have hL:=h.hL;unfold pp;refine wpAny_ready (rs:=[6,7]) (by kernel_rfl) (by simp) ?_;refine AllReady.cons (o:=⟨some 24,.call ⟨.value (.func 43),#[.tmp 18,.tmp 21,.tmp 23],#[84,84,84]⟩,84, "rat.go:96",#[⟨0,.data⟩,⟨3,.data⟩,⟨5,.data⟩,⟨5,.chain⟩],none⟩) rfl (fun K hK=>?_) ?_
 ·go_simp
  refine (Mem.mul (A:=[]) (B:=[]) m (x:=x1) (y:=(y2:Int)) (L:=L) (M:=M) (by simp) (by simp) (by omega)).mono ?_;rintro e w1 ⟨rfl,m1⟩;go_wp2;exact cmpT_2_0_ h d1 o1 p9 _ m1
 refine AllReady.cons (o:=⟨some 25,.alloc 51,84, "rat.go:96",#[],none⟩) rfl (fun K hK=>?_) ?_
 ·go_simp
  refine hK _ _ ?_;exact cmpT_1_0_7_ h d1 o1 p9 w.heap.size _ (Mem.alloc (A:=[p9]) (B:=[]) m)
 exact AllReady.nil
theorem cmpT_1_7_ (h:cmpH bx bY s5 s6 s7 s8 s9 s10 x1 y1 x2 y2 L M w0 Q)  (d1 o1 p16:Nat) (w:World) (m:Mem w0 w [p16] [⟨d1,o1,(y2:Int),M⟩,⟨bx,0,x1,L⟩,⟨bY,0,y1,M⟩]) :
  wpAny Tryz.prog .any cmpOps Q 6 #[false,true,true,true,true,true,false,true,true,true,true,true,false,false,false,false] ⟨#[pp bx 0,pp bY 0,undef,undef,.int .i64 0,s5,s6,s7,s8,s9,s10,undef,undef,undef,undef,undef,undef,undef,undef,pp bx 0,pp bx 0,pp bx 0,pp bY 0,pp d1 o1,undef,pp p16 0,pp bY 0,pp bY 0,pp bY 0,pp bx 0,undef,undef,undef],[]⟩ w:=by
 have hL:=h.hL;unfold pp;refine wpAny_ready (rs:=[0]) (by kernel_rfl) (by simp) ?_;refine AllReady.cons (o:=⟨some 18,.alloc 51,84, "rat.go:96",#[],none⟩) rfl (fun K hK=>?_) ?_
 ·go_simp
  refine hK _ _ ?_;exact cmpT_1_0_7_ h d1 o1 w.heap.size p16 _ (Mem.alloc (A:=[]) (B:=[p16]) m)
 exact AllReady.nil
theorem cmpT_1_ (h:cmpH bx bY s5 s6 s7 s8 s9 s10 x1 y1 x2 y2 L M w0 Q)  (d1 o1:Nat) (w:World) (m:Mem w0 w [] [⟨d1,o1,(y2:Int),M⟩,⟨bx,0,x1,L⟩,⟨bY,0,y1,M⟩]) :
  wpAny Tryz.prog .any cmpOps Q 7 #[false,true,true,true,true,true,false,false,true,true,true,true,false,false,false,false] ⟨#[pp bx 0,pp bY 0,undef,undef,.int .i64 0,s5,s6,s7,s8,s9,s10,undef,undef,undef,undef,undef,undef,undef,undef,pp bx 0,pp bx 0,pp bx 0,pp bY 0,pp d1 o1,undef,undef,pp bY 0,pp bY 0,pp bY 0,pp bx 0,undef,undef,undef],[]⟩ w:=by
 have hL:=h.hL;unfold pp;refine wpAny_ready (rs:=[0,7]) (by kernel_rfl) (by simp) ?_;refine AllReady.cons (o:=⟨some 18,.alloc 51,84, "rat.go:96",#[],none⟩) rfl (fun K hK=>?_) ?_
 ·go_simp
  refine hK _ _ ?_;exact cmpT_1_0_ h d1 o1 w.heap.size _ (Mem.alloc (A:=[]) (B:=[]) m)
 refine AllReady.cons (o:=⟨some 25,.alloc 51,84, "rat.go:96",#[],none⟩) rfl (fun K hK=>?_) ?_
 ·go_simp
  refine hK _ _ ?_;exact cmpT_1_7_ h d1 o1 w.heap.size _ (Mem.alloc (A:=[]) (B:=[]) m)
 exact AllReady.nil
theorem cmpT_0_0_7_ (h:cmpH bx bY s5 s6 s7 s8 s9 s10 x1 y1 x2 y2 L M w0 Q)  (p9 p16:Nat) (w:World) (m:Mem w0 w [p9,p16] [⟨bx,0,x1,L⟩,⟨bY,0,y1,M⟩]) :
  wpAny Tryz.prog .any cmpOps Q 6 #[true,true,true,true,true,false,false,true,true,true,true,true,false,false,false,false] ⟨#[pp bx 0,pp bY 0,undef,undef,.int .i64 0,s5,s6,s7,s8,s9,s10,undef,undef,undef,undef,undef,undef,undef,pp p9 0,pp bx 0,pp bx 0,pp bx 0,pp bY 0,undef,undef,pp p16 0,pp bY 0,pp bY 0,pp bY 0,pp bx 0,undef,undef,undef],[]⟩ w:=by
 have hL:=h.hL;unfold pp;refine wpAny_ready (rs:=[5]) (by kernel_rfl) (by simp) ?_;refine AllReady.cons (o:=⟨some 23,.call ⟨.value (.func 44),#[.tmp 22],#[37]⟩,84, "rat.go:96",#[⟨4,.data⟩],none⟩) rfl (fun K hK=>?_) ?_
 ·go_simp
  refine (h.dy _ _ _ m).mono ?_;rintro e w1 ⟨d1,o1,rfl,_,m1⟩;go_wp2;exact cmpT_1_0_7_ h d1 o1 p9 p16 _ m1
 exact AllReady.nil
theorem cmpT_0_0_ (h:cmpH bx bY s5 s6 s7 s8 s9 s10 x1 y1 x2 y2 L M w0 Q)  (p9:Nat) (w:World) (m:Mem w0 w [p9] [⟨bx,0,x1,L⟩,⟨bY,0,y1,M⟩]) :
  wpAny Tryz.prog .any cmpOps Q 7 #[true,true,true,true,true,false,false,false,true,true,true,true,false,false,false,false] ⟨#[pp bx 0,pp bY 0,undef,undef,.int .i64 0,s5,s6,s7,s8,s9,s10,undef,undef,undef,undef,undef,undef,undef,pp p9 0,pp bx 0,pp bx 0,pp bx 0,pp bY 0,undef,undef,undef,pp bY 0,pp bY 0,pp bY 0,pp bx 0,undef,undef,undef],[]⟩ w:=by
 have hL:=h.hL;unfold pp;refine wpAny_ready (rs:=[5,7]) (by kernel_rfl) (by simp) ?_;refine AllReady.cons (o:=⟨some 23,.call ⟨.value (.func 44),#[.tmp 22],#[37]⟩,84, "rat.go:96",#[⟨4,.data⟩],none⟩) rfl (fun K hK=>?_) ?_
 ·go_simp
  refine (h.dy _ _ _ m).mono ?_;rintro e w1 ⟨d1,o1,rfl,_,m1⟩;go_wp2;exact cmpT_1_0_ h d1 o1 p9 _ m1
 refine AllReady.cons (o:=⟨some 25,.alloc 51,84, "rat.go:96",#[],none⟩) rfl (fun K hK=>?_) ?_
 ·go_simp
  refine hK _ _ ?_;exact cmpT_0_0_7_ h p9 w.heap.size _ (Mem.alloc (A:=[p9]) (B:=[]) m)
 exact AllReady.nil
theorem cmpT_0_7_ (h:cmpH bx bY s5 s6 s7 s8 s9 s10 x1 y1 x2 y2 L M w0 Q)  (p16:Nat) (w:World) (m:Mem w0 w [p16] [⟨bx,0,x1,L⟩,⟨bY,0,y1,M⟩]) :
  wpAny Tryz.prog .any cmpOps Q 7 #[false,true,true,true,true,false,false,true,true,true,true,true,false,false,false,false] ⟨#[pp bx 0,pp bY 0,undef,undef,.int .i64 0,s5,s6,s7,s8,s9,s10,undef,undef,undef,undef,undef,undef,undef,undef,pp bx 0,pp bx 0,pp bx 0,pp bY 0,undef,undef,pp p16 0,pp bY 0,pp bY 0,pp bY 0,pp bx 0,undef,undef,undef],[]⟩ w:=by
 have hL:=h.hL;unfold pp;refine wpAny_ready (rs:=[0,5]) (by kernel_rfl) (by simp) ?_;refine AllReady.cons (o:=⟨some 18,.alloc 51,84, "rat.go:96",#[],none⟩) rfl (fun K hK=>?_) ?_
 ·go_simp
  refine hK _ _ ?_;exact cmpT_0_0_7_ h w.heap.size p16 _ (Mem.alloc (A:=[]) (B:=[p16]) m)
 refine AllReady.cons (o:=⟨some 23,.call ⟨.value (.func 44),#[.tmp 22],#[37]⟩,84, "rat.go:96",#[⟨4,.data⟩],none⟩) rfl (fun K hK=>?_) ?_
 ·go_simp
  refine (h.dy _ _ _ m).mono ?_;rintro e w1 ⟨d1,o1,rfl,_,m1⟩;go_wp2;exact cmpT_1_7_ h d1 o1 p16 _ m1
 exact AllReady.nil
theorem cmpT_0_ (h:cmpH bx bY s5 s6 s7 s8 s9 s10 x1 y1 x2 y2 L M w0 Q)  (w:World) (m:Mem w0 w [] [⟨bx,0,x1,L⟩,⟨bY,0,y1,M⟩]) :
  wpAny Tryz.prog .any cmpOps Q 8 #[false,true,true,true,true,false,false,false,true,true,true,true,false,false,false,false] ⟨#[pp bx 0,pp bY 0,undef,undef,.int .i64 0,s5,s6,s7,s8,s9,s10,undef,undef,undef,undef,undef,undef,undef,undef,pp bx 0,pp bx 0,pp bx 0,pp bY 0,undef,undef,undef,pp bY 0,pp bY 0,pp bY 0,pp bx 0,undef,undef,undef],[]⟩ w:=by
 have hL:=h.hL;unfold pp;refine wpAny_ready (rs:=[0,5,7]) (by kernel_rfl) (by simp) ?_;refine AllReady.cons (o:=⟨some 18,.alloc 51,84, "rat.go:96",#[],none⟩) rfl (fun K hK=>?_) ?_
 ·go_simp
  refine hK _ _ ?_;exact cmpT_0_0_ h w.heap.size _ (Mem.alloc (A:=[]) (B:=[]) m)
 refine AllReady.cons (o:=⟨some 23,.call ⟨.value (.func 44),#[.tmp 22],#[37]⟩,84, "rat.go:96",#[⟨4,.data⟩],none⟩) rfl (fun K hK=>?_) ?_
 ·go_simp
  refine (h.dy _ _ _ m).mono ?_;rintro e w1 ⟨d1,o1,rfl,_,m1⟩;go_wp2;exact cmpT_1_ h d1 o1 _ m1
 refine AllReady.cons (o:=⟨some 25,.alloc 51,84, "rat.go:96",#[],none⟩) rfl (fun K hK=>?_) ?_
 ·go_simp
  refine hK _ _ ?_;exact cmpT_0_7_ h w.heap.size _ (Mem.alloc (A:=[]) (B:=[]) m)
 exact AllReady.nil
end
end Go.Proofs.YtkhgaelnglndiaaGreatDoor
