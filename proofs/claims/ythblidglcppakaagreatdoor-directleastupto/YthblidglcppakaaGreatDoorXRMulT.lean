/- Contracts that the proof leans on. -/
import Derived.Test.YthblidglcppakaaGreatDoorXCBe
import Derived.Test.YthblidglcppakaaGreatDoorXNormN
namespace Go.Proofs.YthblidglcppakaaGreatDoor
open Go.RowKit
set_option linter.unusedVariables false
set_option linter.unusedSimpArgs false
set_option maxHeartbeats 8000000
set_option maxRecDepth 10000
def fE:Array Oper:=#[⟨some 7,.move (.tmp 0),42, "rat.go:130",#[],none⟩,
 ⟨some 8,.alloc 45,76, "rat.go:130",#[],none⟩,
 ⟨some 9,.move (.tmp 1),42, "rat.go:130",#[],none⟩,
 ⟨some 10,.nilCheck (.tmp 9),0, "rat.go:130",#[⟨2,.data⟩],none⟩,
 ⟨some 11,.fieldAddr 47 (.tmp 10) 0,0, "rat.go:130",#[⟨3,.data⟩],none⟩,
 ⟨some 12,.move (.tmp 2),42, "rat.go:130",#[],none⟩,
 ⟨some 13,.nilCheck (.tmp 12),0, "rat.go:130",#[⟨5,.data⟩],none⟩,
 ⟨some 14,.fieldAddr 47 (.tmp 13) 0,0, "rat.go:130",#[⟨6,.data⟩],none⟩,
 ⟨some 15,.call ⟨.value (.func 34),#[.tmp 8,.tmp 11,.tmp 14],#[76,76,76]⟩,76, "rat.go:130",#[⟨1,.data⟩,⟨4,.data⟩,⟨7,.data⟩],none⟩,
 ⟨some 16,.alloc 45,76, "rat.go:130",#[],none⟩,
 ⟨some 17,.move (.tmp 1),42, "rat.go:130",#[],none⟩,
 ⟨some 18,.call ⟨.value (.func 35),#[.tmp 17],#[42]⟩,76, "rat.go:130",#[⟨10,.data⟩,⟨8,.chain⟩],none⟩,
 ⟨some 19,.move (.tmp 2),42, "rat.go:130",#[],none⟩,
 ⟨some 20,.call ⟨.value (.func 35),#[.tmp 19],#[42]⟩,76, "rat.go:130",#[⟨12,.data⟩,⟨11,.chain⟩],none⟩,
 ⟨some 21,.call ⟨.value (.func 34),#[.tmp 16,.tmp 18,.tmp 20],#[76,76,76]⟩,76, "rat.go:130",#[⟨9,.data⟩,⟨11,.data⟩,⟨13,.data⟩,⟨13,.chain⟩],none⟩,
 ⟨some 22,.call ⟨.value (.func 31),#[.tmp 7,.tmp 15,.tmp 21],#[42,76,76]⟩,42, "rat.go:130",#[⟨0,.data⟩,⟨8,.data⟩,⟨14,.data⟩,⟨14,.chain⟩],none⟩,
 ⟨some 6,.assign (.tmp 22),42, "rat.go:130",#[⟨15,.data⟩,⟨15,.chain⟩,⟨0,.phase⟩,⟨1,.phase⟩,⟨2,.phase⟩,⟨3,.phase⟩,⟨4,.phase⟩,⟨5,.phase⟩,⟨6,.phase⟩,⟨7,.phase⟩,⟨8,.phase⟩,⟨9,.phase⟩,⟨10,.phase⟩,⟨11,.phase⟩,⟨12,.phase⟩,⟨13,.phase⟩,⟨14,.phase⟩,⟨15,.phase⟩],none⟩]
structure mT (bz bx bY:Nat) (n1 n2:Bool) (v1 v2:Value) (x1 y1:Int) (x2 y2 L M:Nat) (w0:World) (Q:Exit->Act->World->Prop):Prop where
 hz1:gC w0 bz 0 n1 v1
 hz2:gC w0 bz 2 n2 v2
 dx:jb w0 bx x2 L
 dy:jb w0 bY y2 M
 hne:(x2:Int)*(y2:Int)≠0
 hL:L+M<=3900000000000
 hQ:∀ (d1 o1 d2 o2 p8 p16:Nat) (w:World),bB w0 w bz/\bQ w bz (fp (vU (x1*y1) ((x2:Int)*(y2:Int))) ((x2:Int)*(y2:Int)).natAbs) (fe (vU (x1*y1) ((x2:Int)*(y2:Int))) ((x2:Int)*(y2:Int)).natAbs) (L+M+2)->Q .normal ⟨#[pp bz 0,pp bx 0,pp bY 0,undef,undef,undef,pp bz 0,pp bz 0,pp p8 0,pp bx 0,pp bx 0,pp bx 0,pp bY 0,pp bY 0,pp bY 0,pp p8 0,pp p16 0,pp bx 0,pp d1 o1,pp bY 0,pp d2 o2,pp p16 0,pp bz 0],[]⟩ w
section
variable {bz bx bY:Nat} {n1 n2:Bool} {v1 v2:Value} {x1 y1:Int} {x2 y2 L M:Nat} {w0:World} {Q:Exit->Act->World->Prop}
theorem uw (h:mT bz bx bY n1 n2 v1 v2 x1 y1 x2 y2 L M w0 Q)  (d1 o1 d2 o2 p8 p16:Nat) (w:World) (m:bB w0 w bz/\bQ w bz (fp (vU (x1*y1) ((x2:Int)*(y2:Int))) ((x2:Int)*(y2:Int)).natAbs) (fe (vU (x1*y1) ((x2:Int)*(y2:Int))) ((x2:Int)*(y2:Int)).natAbs) (L+M+2)) :
  wpAny Tryz.prog .any fE Q 0 #[true,true,true,true,true,true,true,true,true,true,true,true,true,true,true,true,true] ⟨#[pp bz 0,pp bx 0,pp bY 0,undef,undef,undef,pp bz 0,pp bz 0,pp p8 0,pp bx 0,pp bx 0,pp bx 0,pp bY 0,pp bY 0,pp bY 0,pp p8 0,pp p16 0,pp bx 0,pp d1 o1,pp bY 0,pp d2 o2,pp p16 0,pp bz 0],[]⟩ w:=by
 have hL:=h.hL;unfold pp;refine wpAny_done (by kernel_rfl) ?_ _;exact h.hQ d1 o1 d2 o2 p8 p16 w m
theorem uu (h:mT bz bx bY n1 n2 v1 v2 x1 y1 x2 y2 L M w0 Q)  (d1 o1 d2 o2 p8 p16:Nat) (w:World) (m:bB w0 w bz/\bQ w bz (fp (vU (x1*y1) ((x2:Int)*(y2:Int))) ((x2:Int)*(y2:Int)).natAbs) (fe (vU (x1*y1) ((x2:Int)*(y2:Int))) ((x2:Int)*(y2:Int)).natAbs) (L+M+2)) :
  wpAny Tryz.prog .any fE Q 1 #[true,true,true,true,true,true,true,true,true,true,true,true,true,true,true,true,false] ⟨#[pp bz 0,pp bx 0,pp bY 0,undef,undef,undef,.pointer none,pp bz 0,pp p8 0,pp bx 0,pp bx 0,pp bx 0,pp bY 0,pp bY 0,pp bY 0,pp p8 0,pp p16 0,pp bx 0,pp d1 o1,pp bY 0,pp d2 o2,pp p16 0,pp bz 0],[]⟩ w:=by
 have hL:=h.hL;unfold pp;refine wpAny_ready (rs:=[16]) (by kernel_rfl) (by simp) ?_;refine AllReady.cons (o:=⟨some 6,.assign (.tmp 22),42, "rat.go:130",#[⟨15,.data⟩,⟨15,.chain⟩,⟨0,.phase⟩,⟨1,.phase⟩,⟨2,.phase⟩,⟨3,.phase⟩,⟨4,.phase⟩,⟨5,.phase⟩,⟨6,.phase⟩,⟨7,.phase⟩,⟨8,.phase⟩,⟨9,.phase⟩,⟨10,.phase⟩,⟨11,.phase⟩,⟨12,.phase⟩,⟨13,.phase⟩,⟨14,.phase⟩,⟨15,.phase⟩],none⟩) rfl (fun K hK=>?_) ?_
 ·go_simp
  refine hK _ _ ?_;exact uw h d1 o1 d2 o2 p8 p16 _ m
 exact AllReady.nil
theorem ur (h:mT bz bx bY n1 n2 v1 v2 x1 y1 x2 y2 L M w0 Q)  (d1 o1 d2 o2 p8 p16:Nat) (w:World) (m:aT w0 w [] [⟨p16,0,(x2:Int)*(y2:Int),L+M⟩,⟨d2,o2,(y2:Int),M⟩,⟨d1,o1,(x2:Int),L⟩,⟨p8,0,x1*y1,L+M⟩,⟨bx,0,x1,L⟩,⟨bY,0,y1,M⟩]) :
  wpAny Tryz.prog .any fE Q 2 #[true,true,true,true,true,true,true,true,true,true,true,true,true,true,true,false,false] ⟨#[pp bz 0,pp bx 0,pp bY 0,undef,undef,undef,.pointer none,pp bz 0,pp p8 0,pp bx 0,pp bx 0,pp bx 0,pp bY 0,pp bY 0,pp bY 0,pp p8 0,pp p16 0,pp bx 0,pp d1 o1,pp bY 0,pp d2 o2,pp p16 0,undef],[]⟩ w:=by
 have hL:=h.hL;unfold pp;refine wpAny_ready (rs:=[15]) (by kernel_rfl) (by simp) ?_;refine AllReady.cons (o:=⟨some 22,.call ⟨.value (.func 31),#[.tmp 7,.tmp 15,.tmp 21],#[42,76,76]⟩,42, "rat.go:130",#[⟨0,.data⟩,⟨8,.data⟩,⟨14,.data⟩,⟨14,.chain⟩],none⟩) rfl (fun K hK=>?_) ?_
 ·go_simp
  refine (uV bz p8 0 p16 0 n1 n2 v1 v2 (x1*y1) ((x2:Int)*(y2:Int)) (L+M) _ (h.hz1.keep0 m.gr) (h.hz2.keep0 m.gr) (m.away (L:=L+M) (by simp)) (m.away (L:=L+M) (by simp)) h.hne (by omega)).mono ?_;rintro e w1 ⟨rfl,k1,k2⟩;have m1:=And.intro ((bB.of_gr (b:=bz) m.gr).trans k1) k2;go_wp2;exact uu h d1 o1 d2 o2 p8 p16 _ m1
 exact AllReady.nil
theorem nM (h:mT bz bx bY n1 n2 v1 v2 x1 y1 x2 y2 L M w0 Q)  (d1 o1 d2 o2 p8 p16:Nat) (w:World) (m:aT w0 w [p16] [⟨d2,o2,(y2:Int),M⟩,⟨d1,o1,(x2:Int),L⟩,⟨p8,0,x1*y1,L+M⟩,⟨bx,0,x1,L⟩,⟨bY,0,y1,M⟩]) :
  wpAny Tryz.prog .any fE Q 3 #[true,true,true,true,true,true,true,true,true,true,true,true,true,true,false,false,false] ⟨#[pp bz 0,pp bx 0,pp bY 0,undef,undef,undef,.pointer none,pp bz 0,pp p8 0,pp bx 0,pp bx 0,pp bx 0,pp bY 0,pp bY 0,pp bY 0,pp p8 0,pp p16 0,pp bx 0,pp d1 o1,pp bY 0,pp d2 o2,undef,undef],[]⟩ w:=by
 have hL:=h.hL;unfold pp;refine wpAny_ready (rs:=[14]) (by kernel_rfl) (by simp) ?_;refine AllReady.cons (o:=⟨some 21,.call ⟨.value (.func 34),#[.tmp 16,.tmp 18,.tmp 20],#[76,76,76]⟩,76, "rat.go:130",#[⟨9,.data⟩,⟨11,.data⟩,⟨13,.data⟩,⟨13,.chain⟩],none⟩) rfl (fun K hK=>?_) ?_
 ·go_simp
  refine (aT.mul (A:=[]) (B:=[]) m (x:=(x2:Int)) (y:=(y2:Int)) (L:=L) (M:=M) (by simp) (by simp) (by omega)).mono ?_;rintro e w1 ⟨rfl,m1⟩;go_wp2;exact ur h d1 o1 d2 o2 p8 p16 _ m1
 exact AllReady.nil
theorem Aa (h:mT bz bx bY n1 n2 v1 v2 x1 y1 x2 y2 L M w0 Q)  (d1 o1 d2 o2 p8:Nat) (w:World) (m:aT w0 w [] [⟨d2,o2,(y2:Int),M⟩,⟨d1,o1,(x2:Int),L⟩,⟨p8,0,x1*y1,L+M⟩,⟨bx,0,x1,L⟩,⟨bY,0,y1,M⟩]) :
  wpAny Tryz.prog .any fE Q 4 #[true,true,true,true,true,true,true,true,true,false,true,true,true,true,false,false,false] ⟨#[pp bz 0,pp bx 0,pp bY 0,undef,undef,undef,.pointer none,pp bz 0,pp p8 0,pp bx 0,pp bx 0,pp bx 0,pp bY 0,pp bY 0,pp bY 0,pp p8 0,undef,pp bx 0,pp d1 o1,pp bY 0,pp d2 o2,undef,undef],[]⟩ w:=by
 have hL:=h.hL;unfold pp;refine wpAny_ready (rs:=[9]) (by kernel_rfl) (by simp) ?_;refine AllReady.cons (o:=⟨some 16,.alloc 45,76, "rat.go:130",#[],none⟩) rfl (fun K hK=>?_) ?_
 ·go_simp
  refine hK _ _ ?_;exact nM h d1 o1 d2 o2 p8 w.heap.size _ (aT.alloc (A:=[]) (B:=[]) m)
 exact AllReady.nil
theorem nL (h:mT bz bx bY n1 n2 v1 v2 x1 y1 x2 y2 L M w0 Q)  (d1 o1 p8 p16:Nat) (w:World) (m:aT w0 w [p16] [⟨d1,o1,(x2:Int),L⟩,⟨p8,0,x1*y1,L+M⟩,⟨bx,0,x1,L⟩,⟨bY,0,y1,M⟩]) :
  wpAny Tryz.prog .any fE Q 4 #[true,true,true,true,true,true,true,true,true,true,true,true,true,false,false,false,false] ⟨#[pp bz 0,pp bx 0,pp bY 0,undef,undef,undef,.pointer none,pp bz 0,pp p8 0,pp bx 0,pp bx 0,pp bx 0,pp bY 0,pp bY 0,pp bY 0,pp p8 0,pp p16 0,pp bx 0,pp d1 o1,pp bY 0,undef,undef,undef],[]⟩ w:=by
 have hL:=h.hL;unfold pp;refine wpAny_ready (rs:=[13]) (by kernel_rfl) (by simp) ?_;refine AllReady.cons (o:=⟨some 20,.call ⟨.value (.func 35),#[.tmp 19],#[42]⟩,76, "rat.go:130",#[⟨12,.data⟩,⟨11,.chain⟩],none⟩) rfl (fun K hK=>?_) ?_
 ·go_simp
  refine (h.dy _ _ _ m).mono ?_;rintro e w1 ⟨d2,o2,rfl,_,m1⟩;go_wp2;exact nM h d1 o1 d2 o2 p8 p16 _ m1
 exact AllReady.nil
theorem zZ (h:mT bz bx bY n1 n2 v1 v2 x1 y1 x2 y2 L M w0 Q)  (d1 o1 p8:Nat) (w:World) (m:aT w0 w [] [⟨d1,o1,(x2:Int),L⟩,⟨p8,0,x1*y1,L+M⟩,⟨bx,0,x1,L⟩,⟨bY,0,y1,M⟩]) :
  wpAny Tryz.prog .any fE Q 5 #[true,true,true,true,true,true,true,true,true,false,true,true,true,false,false,false,false] ⟨#[pp bz 0,pp bx 0,pp bY 0,undef,undef,undef,.pointer none,pp bz 0,pp p8 0,pp bx 0,pp bx 0,pp bx 0,pp bY 0,pp bY 0,pp bY 0,pp p8 0,undef,pp bx 0,pp d1 o1,pp bY 0,undef,undef,undef],[]⟩ w:=by
 have hL:=h.hL;unfold pp;refine wpAny_ready (rs:=[9,13]) (by kernel_rfl) (by simp) ?_;refine AllReady.cons (o:=⟨some 16,.alloc 45,76, "rat.go:130",#[],none⟩) rfl (fun K hK=>?_) ?_
 ·go_simp
  refine hK _ _ ?_;exact nL h d1 o1 p8 w.heap.size _ (aT.alloc (A:=[]) (B:=[]) m)
 refine AllReady.cons (o:=⟨some 20,.call ⟨.value (.func 35),#[.tmp 19],#[42]⟩,76, "rat.go:130",#[⟨12,.data⟩,⟨11,.chain⟩],none⟩) rfl (fun K hK=>?_) ?_
 ·go_simp
  refine (h.dy _ _ _ m).mono ?_;rintro e w1 ⟨d2,o2,rfl,_,m1⟩;go_wp2;exact Aa h d1 o1 d2 o2 p8 _ m1
 exact AllReady.nil
theorem nK (h:mT bz bx bY n1 n2 v1 v2 x1 y1 x2 y2 L M w0 Q)  (p8 p16:Nat) (w:World) (m:aT w0 w [p16] [⟨p8,0,x1*y1,L+M⟩,⟨bx,0,x1,L⟩,⟨bY,0,y1,M⟩]) :
  wpAny Tryz.prog .any fE Q 5 #[true,true,true,true,true,true,true,true,true,true,true,false,true,false,false,false,false] ⟨#[pp bz 0,pp bx 0,pp bY 0,undef,undef,undef,.pointer none,pp bz 0,pp p8 0,pp bx 0,pp bx 0,pp bx 0,pp bY 0,pp bY 0,pp bY 0,pp p8 0,pp p16 0,pp bx 0,undef,pp bY 0,undef,undef,undef],[]⟩ w:=by
 have hL:=h.hL;unfold pp;refine wpAny_ready (rs:=[11]) (by kernel_rfl) (by simp) ?_;refine AllReady.cons (o:=⟨some 18,.call ⟨.value (.func 35),#[.tmp 17],#[42]⟩,76, "rat.go:130",#[⟨10,.data⟩,⟨8,.chain⟩],none⟩) rfl (fun K hK=>?_) ?_
 ·go_simp
  refine (h.dx _ _ _ m).mono ?_;rintro e w1 ⟨d1,o1,rfl,_,m1⟩;go_wp2;exact nL h d1 o1 p8 p16 _ m1
 exact AllReady.nil
theorem zY (h:mT bz bx bY n1 n2 v1 v2 x1 y1 x2 y2 L M w0 Q)  (p8:Nat) (w:World) (m:aT w0 w [] [⟨p8,0,x1*y1,L+M⟩,⟨bx,0,x1,L⟩,⟨bY,0,y1,M⟩]) :
  wpAny Tryz.prog .any fE Q 6 #[true,true,true,true,true,true,true,true,true,false,true,false,true,false,false,false,false] ⟨#[pp bz 0,pp bx 0,pp bY 0,undef,undef,undef,.pointer none,pp bz 0,pp p8 0,pp bx 0,pp bx 0,pp bx 0,pp bY 0,pp bY 0,pp bY 0,pp p8 0,undef,pp bx 0,undef,pp bY 0,undef,undef,undef],[]⟩ w:=by
 have hL:=h.hL;unfold pp;refine wpAny_ready (rs:=[9,11]) (by kernel_rfl) (by simp) ?_;refine AllReady.cons (o:=⟨some 16,.alloc 45,76, "rat.go:130",#[],none⟩) rfl (fun K hK=>?_) ?_
 ·go_simp
  refine hK _ _ ?_;exact nK h p8 w.heap.size _ (aT.alloc (A:=[]) (B:=[]) m)
 refine AllReady.cons (o:=⟨some 18,.call ⟨.value (.func 35),#[.tmp 17],#[42]⟩,76, "rat.go:130",#[⟨10,.data⟩,⟨8,.chain⟩],none⟩) rfl (fun K hK=>?_) ?_
 ·go_simp
  refine (h.dx _ _ _ m).mono ?_;rintro e w1 ⟨d1,o1,rfl,_,m1⟩;go_wp2;exact zZ h d1 o1 p8 _ m1
 exact AllReady.nil
theorem nJ (h:mT bz bx bY n1 n2 v1 v2 x1 y1 x2 y2 L M w0 Q)  (p8 p16:Nat) (w:World) (m:aT w0 w [p8,p16] [⟨bx,0,x1,L⟩,⟨bY,0,y1,M⟩]) :
  wpAny Tryz.prog .any fE Q 6 #[true,true,true,true,true,true,true,true,false,true,true,false,true,false,false,false,false] ⟨#[pp bz 0,pp bx 0,pp bY 0,undef,undef,undef,.pointer none,pp bz 0,pp p8 0,pp bx 0,pp bx 0,pp bx 0,pp bY 0,pp bY 0,pp bY 0,undef,pp p16 0,pp bx 0,undef,pp bY 0,undef,undef,undef],[]⟩ w:=by
 have hL:=h.hL;unfold pp;refine wpAny_ready (rs:=[8]) (by kernel_rfl) (by simp) ?_;refine AllReady.cons (o:=⟨some 15,.call ⟨.value (.func 34),#[.tmp 8,.tmp 11,.tmp 14],#[76,76,76]⟩,76, "rat.go:130",#[⟨1,.data⟩,⟨4,.data⟩,⟨7,.data⟩],none⟩) rfl (fun K hK=>?_) ?_
 ·go_simp
  refine (aT.mul (A:=[]) (B:=[p16]) m (x:=x1) (y:=y1) (L:=L) (M:=M) (by simp) (by simp) (by omega)).mono ?_;rintro e w1 ⟨rfl,m1⟩;go_wp2;exact nK h p8 p16 _ m1
 exact AllReady.nil
theorem zW (h:mT bz bx bY n1 n2 v1 v2 x1 y1 x2 y2 L M w0 Q)  (p8:Nat) (w:World) (m:aT w0 w [p8] [⟨bx,0,x1,L⟩,⟨bY,0,y1,M⟩]) :
  wpAny Tryz.prog .any fE Q 7 #[true,true,true,true,true,true,true,true,false,false,true,false,true,false,false,false,false] ⟨#[pp bz 0,pp bx 0,pp bY 0,undef,undef,undef,.pointer none,pp bz 0,pp p8 0,pp bx 0,pp bx 0,pp bx 0,pp bY 0,pp bY 0,pp bY 0,undef,undef,pp bx 0,undef,pp bY 0,undef,undef,undef],[]⟩ w:=by
 have hL:=h.hL;unfold pp;refine wpAny_ready (rs:=[8,9]) (by kernel_rfl) (by simp) ?_;refine AllReady.cons (o:=⟨some 15,.call ⟨.value (.func 34),#[.tmp 8,.tmp 11,.tmp 14],#[76,76,76]⟩,76, "rat.go:130",#[⟨1,.data⟩,⟨4,.data⟩,⟨7,.data⟩],none⟩) rfl (fun K hK=>?_) ?_
 ·go_simp
  refine (aT.mul (A:=[]) (B:=[]) m (x:=x1) (y:=y1) (L:=L) (M:=M) (by simp) (by simp) (by omega)).mono ?_;rintro e w1 ⟨rfl,m1⟩;go_wp2;exact zY h p8 _ m1
 refine AllReady.cons (o:=⟨some 16,.alloc 45,76, "rat.go:130",#[],none⟩) rfl (fun K hK=>?_) ?_
 ·go_simp
  refine hK _ _ ?_;exact nJ h p8 w.heap.size _ (aT.alloc (A:=[p8]) (B:=[]) m)
 exact AllReady.nil
theorem zX (h:mT bz bx bY n1 n2 v1 v2 x1 y1 x2 y2 L M w0 Q)  (p16:Nat) (w:World) (m:aT w0 w [p16] [⟨bx,0,x1,L⟩,⟨bY,0,y1,M⟩]) :
  wpAny Tryz.prog .any fE Q 7 #[true,false,true,true,true,true,true,true,false,true,true,false,true,false,false,false,false] ⟨#[pp bz 0,pp bx 0,pp bY 0,undef,undef,undef,.pointer none,pp bz 0,undef,pp bx 0,pp bx 0,pp bx 0,pp bY 0,pp bY 0,pp bY 0,undef,pp p16 0,pp bx 0,undef,pp bY 0,undef,undef,undef],[]⟩ w:=by
 have hL:=h.hL;unfold pp;refine wpAny_ready (rs:=[1]) (by kernel_rfl) (by simp) ?_;refine AllReady.cons (o:=⟨some 8,.alloc 45,76, "rat.go:130",#[],none⟩) rfl (fun K hK=>?_) ?_
 ·go_simp
  refine hK _ _ ?_;exact nJ h w.heap.size p16 _ (aT.alloc (A:=[]) (B:=[p16]) m)
 exact AllReady.nil
theorem mulT_0_ (h:mT bz bx bY n1 n2 v1 v2 x1 y1 x2 y2 L M w0 Q)  (w:World) (m:aT w0 w [] [⟨bx,0,x1,L⟩,⟨bY,0,y1,M⟩]) :
  wpAny Tryz.prog .any fE Q 8 #[true,false,true,true,true,true,true,true,false,false,true,false,true,false,false,false,false] ⟨#[pp bz 0,pp bx 0,pp bY 0,undef,undef,undef,.pointer none,pp bz 0,undef,pp bx 0,pp bx 0,pp bx 0,pp bY 0,pp bY 0,pp bY 0,undef,undef,pp bx 0,undef,pp bY 0,undef,undef,undef],[]⟩ w:=by
 have hL:=h.hL;unfold pp;refine wpAny_ready (rs:=[1,9]) (by kernel_rfl) (by simp) ?_;refine AllReady.cons (o:=⟨some 8,.alloc 45,76, "rat.go:130",#[],none⟩) rfl (fun K hK=>?_) ?_
 ·go_simp
  refine hK _ _ ?_;exact zW h w.heap.size _ (aT.alloc (A:=[]) (B:=[]) m)
 refine AllReady.cons (o:=⟨some 16,.alloc 45,76, "rat.go:130",#[],none⟩) rfl (fun K hK=>?_) ?_
 ·go_simp
  refine hK _ _ ?_;exact zX h w.heap.size _ (aT.alloc (A:=[]) (B:=[]) m)
 exact AllReady.nil
end
end Go.Proofs.YthblidglcppakaaGreatDoor
