/- Contracts that the proof leans on. -/
import Derived.Test.YthblidglcppakaaGreatDoorXCBe
import Derived.Test.YthblidglcppakaaGreatDoorXCBf
namespace Go.Proofs.YthblidglcppakaaGreatDoor
open Go.RowKit
set_option linter.unusedVariables false
set_option linter.unusedSimpArgs false
set_option maxHeartbeats 8000000
set_option maxRecDepth 10000
def gj (x y:Int):Int:=if x<y then -1 else if x=y then 0 else 1
theorem rx (x y:Int):(gj x y=0)↔x=y:=by
 unfold gj;repeat' split
 all_goals omega
theorem Cl (m n:Nat) (x y:Int) (hx:x=m) (hy:y=n):iG m n=gj x y:=by
 unfold gj iG;repeat' split
 all_goals omega
theorem Ck (m n:Nat) (x y:Int) (hx:x = -(m:Int)) (hy:y = -(n:Int)):-iG m n=gj x y:=by
 unfold gj iG;repeat' split
 all_goals omega
theorem lx (bx ox bY oY:Nat) (x y:Int) (L M:Nat) (w:World) (hX:aB w bx ox x L) (hY:aB w bY oY y M) :
  Calls Tryz.prog 39 #[.pointer (some ⟨bx,ox,none⟩),.pointer (some ⟨bY,oY,none⟩)] w fun e w'=>e=.returned (.int .i64 (gj x y))/\w.grownBy w' none:=by
 obtain ⟨nx,vx,x1,x2,x3,x4⟩:=hX;obtain ⟨ny,vy,y1,y2,y3,y4⟩:=hY;have X2:=ab x2;have Y2:=ab y2;have c0:=x1.c0;have c1:=x1.c1;have d0:=y1.c0;have d1:=y1.c1;have X3:=ab x3;have Y3:=ab y3;clear x1 x2 x3 x4 y1 y2 y3 y4;cases nx
 ·cases ny
  ·have h1:x=(x.natAbs:Int):=by have:=of_decide_eq_false X3.out.symm;omega
   have h2:y=(y.natAbs:Int):=by have:=of_decide_eq_false Y3.out.symm;omega
   have H:=ab (Cl _ _ x y h1 h2);clear h1 h2;go_enter Tryz.func39,Tryz.ntmps39
   go_wp2;go_quiet (fail)
   go_wp2;go_region_with (go_at_call 73;refine (r9 _ _ x.natAbs y.natAbs L M _ (X2.out.keep0 (by first | exact ae _ _ | (refine ar ?_ _;first | exact ae _ _ | exact ar (ae _ _) _))) (Y2.out.keep0 (by first | exact ae _ _ | (refine ar ?_ _;first | exact ae _ _ | exact ar (ae _ _) _)))).mono ?_;rintro e w2 ⟨rfl,qq,rfl⟩)
   all_goals
    go_wp2;go_ret;exact ⟨congrArg (fun z=>Ending.returned (.int .i64 z)) H.out,by repeat (first | exact ae _ _ | refine ar ?_ _)⟩
  ·have h1:=of_decide_eq_false X3.out.symm;have h2:=of_decide_eq_true Y3.out.symm;have H:Hid (gj x y=1):=by unfold Hid gj;rw [if_neg (by omega),if_neg (by omega)]
   clear h1 h2;go_enter Tryz.func39,Tryz.ntmps39
   go_wp2;go_quiet (fail)
   go_wp2;go_ret;exact ⟨congrArg (fun z=>Ending.returned (.int .i64 z)) H.out.symm,by repeat (first | exact ae _ _ | refine ar ?_ _)⟩
 ·cases ny
  ·have h1:=of_decide_eq_true X3.out.symm;have h2:=of_decide_eq_false Y3.out.symm;have H:Hid (gj x y = -1):=by unfold Hid gj;rw [if_pos (by omega)]
   clear h1 h2;go_enter Tryz.func39,Tryz.ntmps39
   go_wp2;go_quiet (fail)
   go_wp2;go_ret;exact ⟨congrArg (fun z=>Ending.returned (.int .i64 z)) H.out.symm,by repeat (first | exact ae _ _ | refine ar ?_ _)⟩
  ·have h1:x = -(x.natAbs:Int):=by have:=of_decide_eq_true X3.out.symm;omega
   have h2:y = -(y.natAbs:Int):=by have:=of_decide_eq_true Y3.out.symm;omega
   have H:=ab (Ck _ _ x y h1 h2);have hw:IntKind.i64.wrap (-iG x.natAbs y.natAbs) = -iG x.natAbs y.natAbs:=by unfold iG;(repeat' split)<;>decide
   clear h1 h2;go_enter Tryz.func39,Tryz.ntmps39
   go_wp2;go_quiet (fail)
   go_wp2;go_region_with (go_at_call 73;refine (r9 _ _ x.natAbs y.natAbs L M _ (X2.out.keep0 (by first | exact ae _ _ | (refine ar ?_ _;first | exact ae _ _ | exact ar (ae _ _) _))) (Y2.out.keep0 (by first | exact ae _ _ | (refine ar ?_ _;first | exact ae _ _ | exact ar (ae _ _) _)))).mono ?_;rintro e w2 ⟨rfl,qq,rfl⟩)
   all_goals
    go_wp2;go_ret;exact ⟨congrArg (fun z=>Ending.returned (.int .i64 z)) H.out,by repeat (first | exact ae _ _ | refine ar ?_ _)⟩
def eg:Array Oper:=#[⟨some 18,.alloc 45,76, "rat.go:96",#[],none⟩,
 ⟨some 19,.move (.tmp 0),42, "rat.go:96",#[],none⟩,
 ⟨some 20,.nilCheck (.tmp 19),0, "rat.go:96",#[⟨1,.data⟩],none⟩,
 ⟨some 21,.fieldAddr 47 (.tmp 20) 0,0, "rat.go:96",#[⟨2,.data⟩],none⟩,
 ⟨some 22,.move (.tmp 1),42, "rat.go:96",#[],none⟩,
 ⟨some 23,.call ⟨.value (.func 35),#[.tmp 22],#[42]⟩,76, "rat.go:96",#[⟨4,.data⟩],none⟩,
 ⟨some 24,.call ⟨.value (.func 34),#[.tmp 18,.tmp 21,.tmp 23],#[76,76,76]⟩,76, "rat.go:96",#[⟨0,.data⟩,⟨3,.data⟩,⟨5,.data⟩,⟨5,.chain⟩],none⟩,
 ⟨some 25,.alloc 45,76, "rat.go:96",#[],none⟩,
 ⟨some 26,.move (.tmp 1),42, "rat.go:96",#[],none⟩,
 ⟨some 27,.nilCheck (.tmp 26),0, "rat.go:96",#[⟨8,.data⟩],none⟩,
 ⟨some 28,.fieldAddr 47 (.tmp 27) 0,0, "rat.go:96",#[⟨9,.data⟩],none⟩,
 ⟨some 29,.move (.tmp 0),42, "rat.go:96",#[],none⟩,
 ⟨some 30,.call ⟨.value (.func 35),#[.tmp 29],#[42]⟩,76, "rat.go:96",#[⟨11,.data⟩,⟨6,.chain⟩],none⟩,
 ⟨some 31,.call ⟨.value (.func 34),#[.tmp 25,.tmp 28,.tmp 30],#[76,76,76]⟩,76, "rat.go:96",#[⟨7,.data⟩,⟨10,.data⟩,⟨12,.data⟩,⟨12,.chain⟩],none⟩,
 ⟨some 32,.call ⟨.value (.func 39),#[.tmp 24,.tmp 31],#[76,76]⟩,3, "rat.go:96",#[⟨6,.data⟩,⟨13,.data⟩,⟨13,.chain⟩],none⟩,
 ⟨some 4,.assign (.tmp 32),3, "rat.go:96",#[⟨14,.data⟩,⟨14,.chain⟩,⟨0,.phase⟩,⟨1,.phase⟩,⟨2,.phase⟩,⟨3,.phase⟩,⟨4,.phase⟩,⟨5,.phase⟩,⟨6,.phase⟩,⟨7,.phase⟩,⟨8,.phase⟩,⟨9,.phase⟩,⟨10,.phase⟩,⟨11,.phase⟩,⟨12,.phase⟩,⟨13,.phase⟩,⟨14,.phase⟩],none⟩]
structure ln (bx bY:Nat) (s5 s6 s7 s8 s9 s10:Value) (x1 y1:Int) (x2 y2 L M:Nat) (w0:World) (Q:Exit->Act->World->Prop):Prop where
 dx:jb w0 bx x2 L
 dy:jb w0 bY y2 M
 hL:L+M<=4000000000000
 hQ:∀ (d1 o1 d2 o2 p9 p16:Nat) (w:World),w0.grownBy w none->Q .normal ⟨#[pp bx 0,pp bY 0,undef,undef,.int .i64 (gj (x1*(y2:Int)) (y1*(x2:Int))),s5,s6,s7,s8,s9,s10,undef,undef,undef,undef,undef,undef,undef,pp p9 0,pp bx 0,pp bx 0,pp bx 0,pp bY 0,pp d1 o1,pp p9 0,pp p16 0,pp bY 0,pp bY 0,pp bY 0,pp bx 0,pp d2 o2,pp p16 0,.int .i64 (gj (x1*(y2:Int)) (y1*(x2:Int)))],[]⟩ w
section
variable {bx bY:Nat} {s5 s6 s7 s8 s9 s10:Value} {x1 y1:Int} {x2 y2 L M:Nat} {w0:World} {Q:Exit->Act->World->Prop}
theorem tG (h:ln bx bY s5 s6 s7 s8 s9 s10 x1 y1 x2 y2 L M w0 Q)  (d1 o1 d2 o2 p9 p16:Nat) (w:World) (m:aT w0 w [] [⟨p16,0,y1*(x2:Int),M+L⟩,⟨d2,o2,(x2:Int),L⟩,⟨p9,0,x1*(y2:Int),L+M⟩,⟨d1,o1,(y2:Int),M⟩,⟨bx,0,x1,L⟩,⟨bY,0,y1,M⟩]) :
  wpAny Tryz.prog .any eg Q 0 #[true,true,true,true,true,true,true,true,true,true,true,true,true,true,true,true] ⟨#[pp bx 0,pp bY 0,undef,undef,.int .i64 (gj (x1*(y2:Int)) (y1*(x2:Int))),s5,s6,s7,s8,s9,s10,undef,undef,undef,undef,undef,undef,undef,pp p9 0,pp bx 0,pp bx 0,pp bx 0,pp bY 0,pp d1 o1,pp p9 0,pp p16 0,pp bY 0,pp bY 0,pp bY 0,pp bx 0,pp d2 o2,pp p16 0,.int .i64 (gj (x1*(y2:Int)) (y1*(x2:Int)))],[]⟩ w:=by
 have hL:=h.hL;unfold pp;refine wpAny_done (by kernel_rfl) ?_ _;exact h.hQ d1 o1 d2 o2 p9 p16 w m.gr
theorem tF (h:ln bx bY s5 s6 s7 s8 s9 s10 x1 y1 x2 y2 L M w0 Q)  (d1 o1 d2 o2 p9 p16:Nat) (w:World) (m:aT w0 w [] [⟨p16,0,y1*(x2:Int),M+L⟩,⟨d2,o2,(x2:Int),L⟩,⟨p9,0,x1*(y2:Int),L+M⟩,⟨d1,o1,(y2:Int),M⟩,⟨bx,0,x1,L⟩,⟨bY,0,y1,M⟩]) :
  wpAny Tryz.prog .any eg Q 1 #[true,true,true,true,true,true,true,true,true,true,true,true,true,true,true,false] ⟨#[pp bx 0,pp bY 0,undef,undef,.int .i64 0,s5,s6,s7,s8,s9,s10,undef,undef,undef,undef,undef,undef,undef,pp p9 0,pp bx 0,pp bx 0,pp bx 0,pp bY 0,pp d1 o1,pp p9 0,pp p16 0,pp bY 0,pp bY 0,pp bY 0,pp bx 0,pp d2 o2,pp p16 0,.int .i64 (gj (x1*(y2:Int)) (y1*(x2:Int)))],[]⟩ w:=by
 have hL:=h.hL;unfold pp;refine wpAny_ready (rs:=[15]) (by kernel_rfl) (by simp) ?_;refine AllReady.cons (o:=⟨some 4,.assign (.tmp 32),3, "rat.go:96",#[⟨14,.data⟩,⟨14,.chain⟩,⟨0,.phase⟩,⟨1,.phase⟩,⟨2,.phase⟩,⟨3,.phase⟩,⟨4,.phase⟩,⟨5,.phase⟩,⟨6,.phase⟩,⟨7,.phase⟩,⟨8,.phase⟩,⟨9,.phase⟩,⟨10,.phase⟩,⟨11,.phase⟩,⟨12,.phase⟩,⟨13,.phase⟩,⟨14,.phase⟩],none⟩) rfl (fun K hK=>?_) ?_
 ·go_simp
  refine hK _ _ ?_;exact tG h d1 o1 d2 o2 p9 p16 _ m
 exact AllReady.nil
theorem tE (h:ln bx bY s5 s6 s7 s8 s9 s10 x1 y1 x2 y2 L M w0 Q)  (d1 o1 d2 o2 p9 p16:Nat) (w:World) (m:aT w0 w [] [⟨p16,0,y1*(x2:Int),M+L⟩,⟨d2,o2,(x2:Int),L⟩,⟨p9,0,x1*(y2:Int),L+M⟩,⟨d1,o1,(y2:Int),M⟩,⟨bx,0,x1,L⟩,⟨bY,0,y1,M⟩]) :
  wpAny Tryz.prog .any eg Q 2 #[true,true,true,true,true,true,true,true,true,true,true,true,true,true,false,false] ⟨#[pp bx 0,pp bY 0,undef,undef,.int .i64 0,s5,s6,s7,s8,s9,s10,undef,undef,undef,undef,undef,undef,undef,pp p9 0,pp bx 0,pp bx 0,pp bx 0,pp bY 0,pp d1 o1,pp p9 0,pp p16 0,pp bY 0,pp bY 0,pp bY 0,pp bx 0,pp d2 o2,pp p16 0,undef],[]⟩ w:=by
 have hL:=h.hL;unfold pp;refine wpAny_ready (rs:=[14]) (by kernel_rfl) (by simp) ?_;refine AllReady.cons (o:=⟨some 32,.call ⟨.value (.func 39),#[.tmp 24,.tmp 31],#[76,76]⟩,3, "rat.go:96",#[⟨6,.data⟩,⟨13,.data⟩,⟨13,.chain⟩],none⟩) rfl (fun K hK=>?_) ?_
 ·go_simp
  refine (lx p9 0 p16 0 (x1*(y2:Int)) (y1*(x2:Int)) (L+M) (M+L) _ (m.away (by simp)) (m.away (by simp))).mono ?_;rintro e w1 ⟨rfl,g⟩;have m1:=m.grow g;go_wp2;exact tF h d1 o1 d2 o2 p9 p16 _ m1
 exact AllReady.nil
theorem nC (h:ln bx bY s5 s6 s7 s8 s9 s10 x1 y1 x2 y2 L M w0 Q)  (d1 o1 d2 o2 p9 p16:Nat) (w:World) (m:aT w0 w [p16] [⟨d2,o2,(x2:Int),L⟩,⟨p9,0,x1*(y2:Int),L+M⟩,⟨d1,o1,(y2:Int),M⟩,⟨bx,0,x1,L⟩,⟨bY,0,y1,M⟩]) :
  wpAny Tryz.prog .any eg Q 3 #[true,true,true,true,true,true,true,true,true,true,true,true,true,false,false,false] ⟨#[pp bx 0,pp bY 0,undef,undef,.int .i64 0,s5,s6,s7,s8,s9,s10,undef,undef,undef,undef,undef,undef,undef,pp p9 0,pp bx 0,pp bx 0,pp bx 0,pp bY 0,pp d1 o1,pp p9 0,pp p16 0,pp bY 0,pp bY 0,pp bY 0,pp bx 0,pp d2 o2,undef,undef],[]⟩ w:=by
 have hL:=h.hL;unfold pp;refine wpAny_ready (rs:=[13]) (by kernel_rfl) (by simp) ?_;refine AllReady.cons (o:=⟨some 31,.call ⟨.value (.func 34),#[.tmp 25,.tmp 28,.tmp 30],#[76,76,76]⟩,76, "rat.go:96",#[⟨7,.data⟩,⟨10,.data⟩,⟨12,.data⟩,⟨12,.chain⟩],none⟩) rfl (fun K hK=>?_) ?_
 ·go_simp
  refine (aT.mul (A:=[]) (B:=[]) m (x:=y1) (y:=(x2:Int)) (L:=M) (M:=L) (by simp) (by simp) (by omega)).mono ?_;rintro e w1 ⟨rfl,m1⟩;go_wp2;exact tE h d1 o1 d2 o2 p9 p16 _ m1
 exact AllReady.nil
theorem zf (h:ln bx bY s5 s6 s7 s8 s9 s10 x1 y1 x2 y2 L M w0 Q)  (d1 o1 d2 o2 p9:Nat) (w:World) (m:aT w0 w [] [⟨d2,o2,(x2:Int),L⟩,⟨p9,0,x1*(y2:Int),L+M⟩,⟨d1,o1,(y2:Int),M⟩,⟨bx,0,x1,L⟩,⟨bY,0,y1,M⟩]) :
  wpAny Tryz.prog .any eg Q 4 #[true,true,true,true,true,true,true,false,true,true,true,true,true,false,false,false] ⟨#[pp bx 0,pp bY 0,undef,undef,.int .i64 0,s5,s6,s7,s8,s9,s10,undef,undef,undef,undef,undef,undef,undef,pp p9 0,pp bx 0,pp bx 0,pp bx 0,pp bY 0,pp d1 o1,pp p9 0,undef,pp bY 0,pp bY 0,pp bY 0,pp bx 0,pp d2 o2,undef,undef],[]⟩ w:=by
 have hL:=h.hL;unfold pp;refine wpAny_ready (rs:=[7]) (by kernel_rfl) (by simp) ?_;refine AllReady.cons (o:=⟨some 25,.alloc 45,76, "rat.go:96",#[],none⟩) rfl (fun K hK=>?_) ?_
 ·go_simp
  refine hK _ _ ?_;exact nC h d1 o1 d2 o2 p9 w.heap.size _ (aT.alloc (A:=[]) (B:=[]) m)
 exact AllReady.nil
theorem nB (h:ln bx bY s5 s6 s7 s8 s9 s10 x1 y1 x2 y2 L M w0 Q)  (d1 o1 p9 p16:Nat) (w:World) (m:aT w0 w [p16] [⟨p9,0,x1*(y2:Int),L+M⟩,⟨d1,o1,(y2:Int),M⟩,⟨bx,0,x1,L⟩,⟨bY,0,y1,M⟩]) :
  wpAny Tryz.prog .any eg Q 4 #[true,true,true,true,true,true,true,true,true,true,true,true,false,false,false,false] ⟨#[pp bx 0,pp bY 0,undef,undef,.int .i64 0,s5,s6,s7,s8,s9,s10,undef,undef,undef,undef,undef,undef,undef,pp p9 0,pp bx 0,pp bx 0,pp bx 0,pp bY 0,pp d1 o1,pp p9 0,pp p16 0,pp bY 0,pp bY 0,pp bY 0,pp bx 0,undef,undef,undef],[]⟩ w:=by
 have hL:=h.hL;unfold pp;refine wpAny_ready (rs:=[12]) (by kernel_rfl) (by simp) ?_;refine AllReady.cons (o:=⟨some 30,.call ⟨.value (.func 35),#[.tmp 29],#[42]⟩,76, "rat.go:96",#[⟨11,.data⟩,⟨6,.chain⟩],none⟩) rfl (fun K hK=>?_) ?_
 ·go_simp
  refine (h.dx _ _ _ m).mono ?_;rintro e w1 ⟨d2,o2,rfl,_,m1⟩;go_wp2;exact nC h d1 o1 d2 o2 p9 p16 _ m1
 exact AllReady.nil
theorem ze (h:ln bx bY s5 s6 s7 s8 s9 s10 x1 y1 x2 y2 L M w0 Q)  (d1 o1 p9:Nat) (w:World) (m:aT w0 w [] [⟨p9,0,x1*(y2:Int),L+M⟩,⟨d1,o1,(y2:Int),M⟩,⟨bx,0,x1,L⟩,⟨bY,0,y1,M⟩]) :
  wpAny Tryz.prog .any eg Q 5 #[true,true,true,true,true,true,true,false,true,true,true,true,false,false,false,false] ⟨#[pp bx 0,pp bY 0,undef,undef,.int .i64 0,s5,s6,s7,s8,s9,s10,undef,undef,undef,undef,undef,undef,undef,pp p9 0,pp bx 0,pp bx 0,pp bx 0,pp bY 0,pp d1 o1,pp p9 0,undef,pp bY 0,pp bY 0,pp bY 0,pp bx 0,undef,undef,undef],[]⟩ w:=by
 have hL:=h.hL;unfold pp;refine wpAny_ready (rs:=[7,12]) (by kernel_rfl) (by simp) ?_;refine AllReady.cons (o:=⟨some 25,.alloc 45,76, "rat.go:96",#[],none⟩) rfl (fun K hK=>?_) ?_
 ·go_simp
  refine hK _ _ ?_;exact nB h d1 o1 p9 w.heap.size _ (aT.alloc (A:=[]) (B:=[]) m)
 refine AllReady.cons (o:=⟨some 30,.call ⟨.value (.func 35),#[.tmp 29],#[42]⟩,76, "rat.go:96",#[⟨11,.data⟩,⟨6,.chain⟩],none⟩) rfl (fun K hK=>?_) ?_
 ·go_simp
  refine (h.dx _ _ _ m).mono ?_;rintro e w1 ⟨d2,o2,rfl,_,m1⟩;go_wp2;exact zf h d1 o1 d2 o2 p9 _ m1
 exact AllReady.nil
theorem jX (h:ln bx bY s5 s6 s7 s8 s9 s10 x1 y1 x2 y2 L M w0 Q)  (d1 o1 p9 p16:Nat) (w:World) (m:aT w0 w [p9,p16] [⟨d1,o1,(y2:Int),M⟩,⟨bx,0,x1,L⟩,⟨bY,0,y1,M⟩]) :
  wpAny Tryz.prog .any eg Q 5 #[true,true,true,true,true,true,false,true,true,true,true,true,false,false,false,false] ⟨#[pp bx 0,pp bY 0,undef,undef,.int .i64 0,s5,s6,s7,s8,s9,s10,undef,undef,undef,undef,undef,undef,undef,pp p9 0,pp bx 0,pp bx 0,pp bx 0,pp bY 0,pp d1 o1,undef,pp p16 0,pp bY 0,pp bY 0,pp bY 0,pp bx 0,undef,undef,undef],[]⟩ w:=by
 have hL:=h.hL;unfold pp;refine wpAny_ready (rs:=[6]) (by kernel_rfl) (by simp) ?_;refine AllReady.cons (o:=⟨some 24,.call ⟨.value (.func 34),#[.tmp 18,.tmp 21,.tmp 23],#[76,76,76]⟩,76, "rat.go:96",#[⟨0,.data⟩,⟨3,.data⟩,⟨5,.data⟩,⟨5,.chain⟩],none⟩) rfl (fun K hK=>?_) ?_
 ·go_simp
  refine (aT.mul (A:=[]) (B:=[p16]) m (x:=x1) (y:=(y2:Int)) (L:=L) (M:=M) (by simp) (by simp) (by omega)).mono ?_;rintro e w1 ⟨rfl,m1⟩;go_wp2;exact nB h d1 o1 p9 p16 _ m1
 exact AllReady.nil
theorem qT (h:ln bx bY s5 s6 s7 s8 s9 s10 x1 y1 x2 y2 L M w0 Q)  (d1 o1 p9:Nat) (w:World) (m:aT w0 w [p9] [⟨d1,o1,(y2:Int),M⟩,⟨bx,0,x1,L⟩,⟨bY,0,y1,M⟩]) :
  wpAny Tryz.prog .any eg Q 6 #[true,true,true,true,true,true,false,false,true,true,true,true,false,false,false,false] ⟨#[pp bx 0,pp bY 0,undef,undef,.int .i64 0,s5,s6,s7,s8,s9,s10,undef,undef,undef,undef,undef,undef,undef,pp p9 0,pp bx 0,pp bx 0,pp bx 0,pp bY 0,pp d1 o1,undef,undef,pp bY 0,pp bY 0,pp bY 0,pp bx 0,undef,undef,undef],[]⟩ w:=by
 have hL:=h.hL;unfold pp;refine wpAny_ready (rs:=[6,7]) (by kernel_rfl) (by simp) ?_;refine AllReady.cons (o:=⟨some 24,.call ⟨.value (.func 34),#[.tmp 18,.tmp 21,.tmp 23],#[76,76,76]⟩,76, "rat.go:96",#[⟨0,.data⟩,⟨3,.data⟩,⟨5,.data⟩,⟨5,.chain⟩],none⟩) rfl (fun K hK=>?_) ?_
 ·go_simp
  refine (aT.mul (A:=[]) (B:=[]) m (x:=x1) (y:=(y2:Int)) (L:=L) (M:=M) (by simp) (by simp) (by omega)).mono ?_;rintro e w1 ⟨rfl,m1⟩;go_wp2;exact ze h d1 o1 p9 _ m1
 refine AllReady.cons (o:=⟨some 25,.alloc 45,76, "rat.go:96",#[],none⟩) rfl (fun K hK=>?_) ?_
 ·go_simp
  refine hK _ _ ?_;exact jX h d1 o1 p9 w.heap.size _ (aT.alloc (A:=[p9]) (B:=[]) m)
 exact AllReady.nil
theorem qU (h:ln bx bY s5 s6 s7 s8 s9 s10 x1 y1 x2 y2 L M w0 Q)  (d1 o1 p16:Nat) (w:World) (m:aT w0 w [p16] [⟨d1,o1,(y2:Int),M⟩,⟨bx,0,x1,L⟩,⟨bY,0,y1,M⟩]) :
  wpAny Tryz.prog .any eg Q 6 #[false,true,true,true,true,true,false,true,true,true,true,true,false,false,false,false] ⟨#[pp bx 0,pp bY 0,undef,undef,.int .i64 0,s5,s6,s7,s8,s9,s10,undef,undef,undef,undef,undef,undef,undef,undef,pp bx 0,pp bx 0,pp bx 0,pp bY 0,pp d1 o1,undef,pp p16 0,pp bY 0,pp bY 0,pp bY 0,pp bx 0,undef,undef,undef],[]⟩ w:=by
 have hL:=h.hL;unfold pp;refine wpAny_ready (rs:=[0]) (by kernel_rfl) (by simp) ?_;refine AllReady.cons (o:=⟨some 18,.alloc 45,76, "rat.go:96",#[],none⟩) rfl (fun K hK=>?_) ?_
 ·go_simp
  refine hK _ _ ?_;exact jX h d1 o1 w.heap.size p16 _ (aT.alloc (A:=[]) (B:=[p16]) m)
 exact AllReady.nil
theorem cmpT_1_ (h:ln bx bY s5 s6 s7 s8 s9 s10 x1 y1 x2 y2 L M w0 Q)  (d1 o1:Nat) (w:World) (m:aT w0 w [] [⟨d1,o1,(y2:Int),M⟩,⟨bx,0,x1,L⟩,⟨bY,0,y1,M⟩]) :
  wpAny Tryz.prog .any eg Q 7 #[false,true,true,true,true,true,false,false,true,true,true,true,false,false,false,false] ⟨#[pp bx 0,pp bY 0,undef,undef,.int .i64 0,s5,s6,s7,s8,s9,s10,undef,undef,undef,undef,undef,undef,undef,undef,pp bx 0,pp bx 0,pp bx 0,pp bY 0,pp d1 o1,undef,undef,pp bY 0,pp bY 0,pp bY 0,pp bx 0,undef,undef,undef],[]⟩ w:=by
 have hL:=h.hL;unfold pp;refine wpAny_ready (rs:=[0,7]) (by kernel_rfl) (by simp) ?_;refine AllReady.cons (o:=⟨some 18,.alloc 45,76, "rat.go:96",#[],none⟩) rfl (fun K hK=>?_) ?_
 ·go_simp
  refine hK _ _ ?_;exact qT h d1 o1 w.heap.size _ (aT.alloc (A:=[]) (B:=[]) m)
 refine AllReady.cons (o:=⟨some 25,.alloc 45,76, "rat.go:96",#[],none⟩) rfl (fun K hK=>?_) ?_
 ·go_simp
  refine hK _ _ ?_;exact qU h d1 o1 w.heap.size _ (aT.alloc (A:=[]) (B:=[]) m)
 exact AllReady.nil
theorem nA (h:ln bx bY s5 s6 s7 s8 s9 s10 x1 y1 x2 y2 L M w0 Q)  (p9 p16:Nat) (w:World) (m:aT w0 w [p9,p16] [⟨bx,0,x1,L⟩,⟨bY,0,y1,M⟩]) :
  wpAny Tryz.prog .any eg Q 6 #[true,true,true,true,true,false,false,true,true,true,true,true,false,false,false,false] ⟨#[pp bx 0,pp bY 0,undef,undef,.int .i64 0,s5,s6,s7,s8,s9,s10,undef,undef,undef,undef,undef,undef,undef,pp p9 0,pp bx 0,pp bx 0,pp bx 0,pp bY 0,undef,undef,pp p16 0,pp bY 0,pp bY 0,pp bY 0,pp bx 0,undef,undef,undef],[]⟩ w:=by
 have hL:=h.hL;unfold pp;refine wpAny_ready (rs:=[5]) (by kernel_rfl) (by simp) ?_;refine AllReady.cons (o:=⟨some 23,.call ⟨.value (.func 35),#[.tmp 22],#[42]⟩,76, "rat.go:96",#[⟨4,.data⟩],none⟩) rfl (fun K hK=>?_) ?_
 ·go_simp
  refine (h.dy _ _ _ m).mono ?_;rintro e w1 ⟨d1,o1,rfl,_,m1⟩;go_wp2;exact jX h d1 o1 p9 p16 _ m1
 exact AllReady.nil
theorem zb (h:ln bx bY s5 s6 s7 s8 s9 s10 x1 y1 x2 y2 L M w0 Q)  (p9:Nat) (w:World) (m:aT w0 w [p9] [⟨bx,0,x1,L⟩,⟨bY,0,y1,M⟩]) :
  wpAny Tryz.prog .any eg Q 7 #[true,true,true,true,true,false,false,false,true,true,true,true,false,false,false,false] ⟨#[pp bx 0,pp bY 0,undef,undef,.int .i64 0,s5,s6,s7,s8,s9,s10,undef,undef,undef,undef,undef,undef,undef,pp p9 0,pp bx 0,pp bx 0,pp bx 0,pp bY 0,undef,undef,undef,pp bY 0,pp bY 0,pp bY 0,pp bx 0,undef,undef,undef],[]⟩ w:=by
 have hL:=h.hL;unfold pp;refine wpAny_ready (rs:=[5,7]) (by kernel_rfl) (by simp) ?_;refine AllReady.cons (o:=⟨some 23,.call ⟨.value (.func 35),#[.tmp 22],#[42]⟩,76, "rat.go:96",#[⟨4,.data⟩],none⟩) rfl (fun K hK=>?_) ?_
 ·go_simp
  refine (h.dy _ _ _ m).mono ?_;rintro e w1 ⟨d1,o1,rfl,_,m1⟩;go_wp2;exact qT h d1 o1 p9 _ m1
 refine AllReady.cons (o:=⟨some 25,.alloc 45,76, "rat.go:96",#[],none⟩) rfl (fun K hK=>?_) ?_
 ·go_simp
  refine hK _ _ ?_;exact nA h p9 w.heap.size _ (aT.alloc (A:=[p9]) (B:=[]) m)
 exact AllReady.nil
theorem zd (h:ln bx bY s5 s6 s7 s8 s9 s10 x1 y1 x2 y2 L M w0 Q)  (p16:Nat) (w:World) (m:aT w0 w [p16] [⟨bx,0,x1,L⟩,⟨bY,0,y1,M⟩]) :
  wpAny Tryz.prog .any eg Q 7 #[false,true,true,true,true,false,false,true,true,true,true,true,false,false,false,false] ⟨#[pp bx 0,pp bY 0,undef,undef,.int .i64 0,s5,s6,s7,s8,s9,s10,undef,undef,undef,undef,undef,undef,undef,undef,pp bx 0,pp bx 0,pp bx 0,pp bY 0,undef,undef,pp p16 0,pp bY 0,pp bY 0,pp bY 0,pp bx 0,undef,undef,undef],[]⟩ w:=by
 have hL:=h.hL;unfold pp;refine wpAny_ready (rs:=[0,5]) (by kernel_rfl) (by simp) ?_;refine AllReady.cons (o:=⟨some 18,.alloc 45,76, "rat.go:96",#[],none⟩) rfl (fun K hK=>?_) ?_
 ·go_simp
  refine hK _ _ ?_;exact nA h w.heap.size p16 _ (aT.alloc (A:=[]) (B:=[p16]) m)
 refine AllReady.cons (o:=⟨some 23,.call ⟨.value (.func 35),#[.tmp 22],#[42]⟩,76, "rat.go:96",#[⟨4,.data⟩],none⟩) rfl (fun K hK=>?_) ?_
 ·go_simp
  refine (h.dy _ _ _ m).mono ?_;rintro e w1 ⟨d1,o1,rfl,_,m1⟩;go_wp2;exact qU h d1 o1 p16 _ m1
 exact AllReady.nil
theorem cmpT_0_ (h:ln bx bY s5 s6 s7 s8 s9 s10 x1 y1 x2 y2 L M w0 Q)  (w:World) (m:aT w0 w [] [⟨bx,0,x1,L⟩,⟨bY,0,y1,M⟩]) :
  wpAny Tryz.prog .any eg Q 8 #[false,true,true,true,true,false,false,false,true,true,true,true,false,false,false,false] ⟨#[pp bx 0,pp bY 0,undef,undef,.int .i64 0,s5,s6,s7,s8,s9,s10,undef,undef,undef,undef,undef,undef,undef,undef,pp bx 0,pp bx 0,pp bx 0,pp bY 0,undef,undef,undef,pp bY 0,pp bY 0,pp bY 0,pp bx 0,undef,undef,undef],[]⟩ w:=by
 have hL:=h.hL;unfold pp;refine wpAny_ready (rs:=[0,5,7]) (by kernel_rfl) (by simp) ?_;refine AllReady.cons (o:=⟨some 18,.alloc 45,76, "rat.go:96",#[],none⟩) rfl (fun K hK=>?_) ?_
 ·go_simp
  refine hK _ _ ?_;exact zb h w.heap.size _ (aT.alloc (A:=[]) (B:=[]) m)
 refine AllReady.cons (o:=⟨some 23,.call ⟨.value (.func 35),#[.tmp 22],#[42]⟩,76, "rat.go:96",#[⟨4,.data⟩],none⟩) rfl (fun K hK=>?_) ?_
 ·go_simp
  refine (h.dy _ _ _ m).mono ?_;rintro e w1 ⟨d1,o1,rfl,_,m1⟩;go_wp2;exact cmpT_1_ h d1 o1 _ m1
 refine AllReady.cons (o:=⟨some 25,.alloc 45,76, "rat.go:96",#[],none⟩) rfl (fun K hK=>?_) ?_
 ·go_simp
  refine hK _ _ ?_;exact zd h w.heap.size _ (aT.alloc (A:=[]) (B:=[]) m)
 exact AllReady.nil
end
def sB (p q:Rat):Int:=if p.den=q.den then gj p.num q.num else gj (p.num*(q.den:Int)) (q.num*(p.den:Int))
theorem xp (bx bY:Nat) (p q:Rat) (L M:Nat) (w:World) (hX:RX w bx p L) (hY:RX w bY q M) (hL:L+M<=4000000000000) :
  Calls Tryz.prog 13 #[.pointer (some ⟨bx,0,none⟩),.pointer (some ⟨bY,0,none⟩)] w fun e w'=>e=.returned (.int .i64 (sB p q))/\w.grownBy w' none:=by
 have HX:=ab hX;have HY:=ab hY;clear hX hY;go_enter Tryz.func13,Tryz.ntmps13
 go_wp2_with fail;refine (HX.out.2 _ _ _ (aT.start (ae w none))).mono ?_;rintro e w1 ⟨d1,o1,rfl,g1,m1⟩;have M1:=ab m1;clear m1 g1;go_wp2_with fail;refine (HY.out.2 _ _ _ M1.out).mono ?_;rintro e w2 ⟨d2,o2,rfl,g2,m2⟩;have M2:=ab m2;clear m2 g2;go_wp2_with fail;refine (lx d1 o1 d2 o2 (p.den:Int) (q.den:Int) L M _ (M2.out.away (by simp)) (M2.out.away (by simp))).mono ?_;rintro e w3 ⟨rfl,g3⟩;have G3:Hid (w.grownBy w3 none):=aa M2.out.gr g3;clear g3;by_cases hd:p.den=q.den
 ·have hz:(gj (p.den:Int) (q.den:Int)==0)=true:=by
   rw [beq_iff_eq,rx,hd]
  have HE:Hid (gj p.num q.num=sB p q):=by unfold Hid sB;rw [if_pos hd]
  clear hd;go_wp2_with fail;go_region_with (go_at_call 39;refine (lx bx 0 bY 0 p.num q.num L M _ (HX.out.1.keep0 (kC G3.out)) (HY.out.1.keep0 (kC G3.out))).mono ?_;rintro e w4 ⟨rfl,g4⟩)
  all_goals
   go_wp2;go_ret;exact ⟨congrArg (fun z=>Ending.returned (.int .i64 z)) HE.out,aa (kC G3.out) g4⟩
 ·have hz:(gj (p.den:Int) (q.den:Int)==0)=false:=by
   rw [beq_eq_false_iff_ne,Ne,rx];omega
  have HE:Hid (gj (p.num*(q.den:Int)) (q.num*(p.den:Int))=sB p q):=by unfold Hid sB;rw [if_neg hd]
  clear hd;go_upto_region 3 with fail;go_cut [4] (fun s4 wx=>Hid (s4=.int .i64 (gj (p.num*(q.den:Int)) (q.num*(p.den:Int)))/\w.grownBy wx none))
  case first =>
   refine wp_region_any (by kernel_rfl) ?_;change wpAny _ _ _ _ _ _ _ (World.drew _)
   refine wpAny_take (i:=1) (v:=.pointer (some ⟨bx,0,none⟩)) rfl (by kernel_rfl) (by kernel_rfl) (by kernel_rfl) (fun _ _ _ h=>h) (Or.inl ⟨by rfl,?ty1⟩) ?tr1
   case ty1=>(intro w;go_simp<;>rfl)
   case tr1 =>
    refine wpAny_take (i:=2) (v:=.pointer (some ⟨bx,0,none⟩)) rfl (by kernel_rfl) (by kernel_rfl) (by kernel_rfl) (fun _ _ _ h=>h) (Or.inl ⟨by rfl,?ty2⟩) ?tr2
    case ty2=>(intro w;go_simp<;>rfl)
    case tr2 =>
     refine wpAny_take (i:=3) (v:=.pointer (some ⟨bx,0,none⟩)) rfl (by kernel_rfl) (by kernel_rfl) (by kernel_rfl) (fun _ _ _ h=>h) (Or.inl ⟨by rfl,?ty3⟩) ?tr3
     case ty3=>(intro w;go_simp<;>rfl)
     case tr3 =>
      refine wpAny_take (i:=4) (v:=.pointer (some ⟨bY,0,none⟩)) rfl (by kernel_rfl) (by kernel_rfl) (by kernel_rfl) (fun _ _ _ h=>h) (Or.inl ⟨by rfl,?ty4⟩) ?tr4
      case ty4=>(intro w;go_simp<;>rfl)
      case tr4 =>
       refine wpAny_take (i:=8) (v:=.pointer (some ⟨bY,0,none⟩)) rfl (by kernel_rfl) (by kernel_rfl) (by kernel_rfl) (fun _ _ _ h=>h) (Or.inl ⟨by rfl,?ty8⟩) ?tr8
       case ty8=>(intro w;go_simp<;>rfl)
       case tr8 =>
        refine wpAny_take (i:=9) (v:=.pointer (some ⟨bY,0,none⟩)) rfl (by kernel_rfl) (by kernel_rfl) (by kernel_rfl) (fun _ _ _ h=>h) (Or.inl ⟨by rfl,?ty9⟩) ?tr9
        case ty9=>(intro w;go_simp<;>rfl)
        case tr9 =>
         refine wpAny_take (i:=10) (v:=.pointer (some ⟨bY,0,none⟩)) rfl (by kernel_rfl) (by kernel_rfl) (by kernel_rfl) (fun _ _ _ h=>h) (Or.inl ⟨by rfl,?ty10⟩) ?tr10
         case ty10=>(intro w;go_simp<;>rfl)
         case tr10 =>
          refine wpAny_take (i:=11) (v:=.pointer (some ⟨bx,0,none⟩)) rfl (by kernel_rfl) (by kernel_rfl) (by kernel_rfl) (fun _ _ _ h=>h) (Or.inl ⟨by rfl,?ty11⟩) ?tr11
          case ty11=>(intro w;go_simp<;>rfl)
          case tr11 =>
           exact cmpT_0_ ⟨HX.out.2,HY.out.2,hL,fun d1 o1 d2 o2 p9 p16 w1 g1=>by unfold pp;go_wp2;go_meet;case rel=>exact ab ⟨rfl,g1⟩⟩ _ (((aT.start (kC G3.out)).old HY.out.1).old HX.out.1)
  case rest =>
   obtain ⟨rfl,g⟩:=hcut.out;have G:=ab g;clear g;go_wp2;go_ret;exact ⟨congrArg (fun z=>Ending.returned (.int .i64 z)) HE.out,G.out⟩
end Go.Proofs.YthblidglcppakaaGreatDoor
