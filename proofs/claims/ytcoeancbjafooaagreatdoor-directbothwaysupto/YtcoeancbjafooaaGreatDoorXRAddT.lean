/- Contracts that the proof leans on. -/
import Derived.Test.YtcoeancbjafooaaGreatDoorXCBe
namespace Go.Proofs.YtcoeancbjafooaaGreatDoor
open Go.RowKit
set_option linter.unusedVariables false
set_option linter.unusedSimpArgs false
set_option maxHeartbeats 8000000
set_option maxRecDepth 10000
def bM:Array Oper:=#[⟨some 8,.alloc 51,93, "rat.go:118",#[],none⟩,
 ⟨some 9,.alloc 51,93, "rat.go:118",#[],none⟩,
 ⟨some 10,.move (.tmp 1),37, "rat.go:118",#[],none⟩,
 ⟨some 11,.nilCheck (.tmp 10),0, "rat.go:118",#[⟨2,.data⟩],none⟩,
 ⟨some 12,.fieldAddr 53 (.tmp 11) 0,0, "rat.go:118",#[⟨3,.data⟩],none⟩,
 ⟨some 13,.move (.tmp 2),37, "rat.go:118",#[],none⟩,
 ⟨some 14,.call ⟨.value (.func 52),#[.tmp 13],#[37]⟩,93, "rat.go:118",#[⟨5,.data⟩],none⟩,
 ⟨some 15,.call ⟨.value (.func 51),#[.tmp 9,.tmp 12,.tmp 14],#[93,93,93]⟩,93, "rat.go:118",#[⟨1,.data⟩,⟨4,.data⟩,⟨6,.data⟩,⟨6,.chain⟩],none⟩,
 ⟨some 16,.alloc 51,93, "rat.go:118",#[],none⟩,
 ⟨some 17,.move (.tmp 2),37, "rat.go:118",#[],none⟩,
 ⟨some 18,.nilCheck (.tmp 17),0, "rat.go:118",#[⟨9,.data⟩],none⟩,
 ⟨some 19,.fieldAddr 53 (.tmp 18) 0,0, "rat.go:118",#[⟨10,.data⟩],none⟩,
 ⟨some 20,.move (.tmp 1),37, "rat.go:118",#[],none⟩,
 ⟨some 21,.call ⟨.value (.func 52),#[.tmp 20],#[37]⟩,93, "rat.go:118",#[⟨12,.data⟩,⟨7,.chain⟩],none⟩,
 ⟨some 22,.call ⟨.value (.func 51),#[.tmp 16,.tmp 19,.tmp 21],#[93,93,93]⟩,93, "rat.go:118",#[⟨8,.data⟩,⟨11,.data⟩,⟨13,.data⟩,⟨13,.chain⟩],none⟩,
 ⟨some 23,.call ⟨.value (.func 50),#[.tmp 8,.tmp 15,.tmp 22],#[93,93,93]⟩,93, "rat.go:118",#[⟨0,.data⟩,⟨7,.data⟩,⟨14,.data⟩,⟨14,.chain⟩],none⟩,
 ⟨some 7,.assign (.tmp 23),93, "rat.go:118",#[⟨15,.data⟩,⟨15,.chain⟩,⟨0,.phase⟩,⟨1,.phase⟩,⟨2,.phase⟩,⟨3,.phase⟩,⟨4,.phase⟩,⟨5,.phase⟩,⟨6,.phase⟩,⟨7,.phase⟩,⟨8,.phase⟩,⟨9,.phase⟩,⟨10,.phase⟩,⟨11,.phase⟩,⟨12,.phase⟩,⟨13,.phase⟩,⟨14,.phase⟩,⟨15,.phase⟩],none⟩]
structure fh (bz bx bY:Nat) (x1 y1:Int) (x2 y2 L M:Nat) (w0:World) (Q:Exit->Act->World->Prop):Prop where
 dx:gJ w0 bx x2 L
 dy:gJ w0 bY y2 M
 hL:L+M<=400000000
 hQ:∀ (d1 o1 d2 o2 p8 p9 p16:Nat) (w:World),aG w0 w [] [⟨p8,0,x1*(y2:Int)+y1*(x2:Int),max (L+M) (M+L)+1⟩,⟨p16,0,y1*(x2:Int),M+L⟩,⟨d2,o2,(x2:Int),L⟩,⟨p9,0,x1*(y2:Int),L+M⟩,⟨d1,o1,(y2:Int),M⟩,⟨bx,0,x1,L⟩,⟨bY,0,y1,M⟩]->Q .normal ⟨#[pp bz 0,pp bx 0,pp bY 0,undef,undef,undef,.pointer none,pp p8 0,pp p8 0,pp p9 0,pp bx 0,pp bx 0,pp bx 0,pp bY 0,pp d1 o1,pp p9 0,pp p16 0,pp bY 0,pp bY 0,pp bY 0,pp bx 0,pp d2 o2,pp p16 0,pp p8 0,undef,undef,undef,undef,undef,undef,undef,undef,undef],[]⟩ w
section
variable {bz bx bY:Nat} {x1 y1:Int} {x2 y2 L M:Nat} {w0:World} {Q:Exit->Act->World->Prop}
theorem rh (h:fh bz bx bY x1 y1 x2 y2 L M w0 Q)  (d1 o1 d2 o2 p8 p9 p16:Nat) (w:World) (m:aG w0 w [] [⟨p8,0,x1*(y2:Int)+y1*(x2:Int),max (L+M) (M+L)+1⟩,⟨p16,0,y1*(x2:Int),M+L⟩,⟨d2,o2,(x2:Int),L⟩,⟨p9,0,x1*(y2:Int),L+M⟩,⟨d1,o1,(y2:Int),M⟩,⟨bx,0,x1,L⟩,⟨bY,0,y1,M⟩]) :
  wpAny Tryz.prog .any bM Q 0 #[true,true,true,true,true,true,true,true,true,true,true,true,true,true,true,true,true] ⟨#[pp bz 0,pp bx 0,pp bY 0,undef,undef,undef,.pointer none,pp p8 0,pp p8 0,pp p9 0,pp bx 0,pp bx 0,pp bx 0,pp bY 0,pp d1 o1,pp p9 0,pp p16 0,pp bY 0,pp bY 0,pp bY 0,pp bx 0,pp d2 o2,pp p16 0,pp p8 0,undef,undef,undef,undef,undef,undef,undef,undef,undef],[]⟩ w:=by
 have hL:=h.hL;unfold pp;refine wpAny_done (by kernel_rfl) ?_ _;exact h.hQ d1 o1 d2 o2 p8 p9 p16 w m
theorem rg (h:fh bz bx bY x1 y1 x2 y2 L M w0 Q)  (d1 o1 d2 o2 p8 p9 p16:Nat) (w:World) (m:aG w0 w [] [⟨p8,0,x1*(y2:Int)+y1*(x2:Int),max (L+M) (M+L)+1⟩,⟨p16,0,y1*(x2:Int),M+L⟩,⟨d2,o2,(x2:Int),L⟩,⟨p9,0,x1*(y2:Int),L+M⟩,⟨d1,o1,(y2:Int),M⟩,⟨bx,0,x1,L⟩,⟨bY,0,y1,M⟩]) :
  wpAny Tryz.prog .any bM Q 1 #[true,true,true,true,true,true,true,true,true,true,true,true,true,true,true,true,false] ⟨#[pp bz 0,pp bx 0,pp bY 0,undef,undef,undef,.pointer none,undef,pp p8 0,pp p9 0,pp bx 0,pp bx 0,pp bx 0,pp bY 0,pp d1 o1,pp p9 0,pp p16 0,pp bY 0,pp bY 0,pp bY 0,pp bx 0,pp d2 o2,pp p16 0,pp p8 0,undef,undef,undef,undef,undef,undef,undef,undef,undef],[]⟩ w:=by
 have hL:=h.hL;unfold pp;refine wpAny_ready (rs:=[16]) (by kernel_rfl) (by simp) ?_;refine AllReady.cons (o:=⟨some 7,.assign (.tmp 23),93, "rat.go:118",#[⟨15,.data⟩,⟨15,.chain⟩,⟨0,.phase⟩,⟨1,.phase⟩,⟨2,.phase⟩,⟨3,.phase⟩,⟨4,.phase⟩,⟨5,.phase⟩,⟨6,.phase⟩,⟨7,.phase⟩,⟨8,.phase⟩,⟨9,.phase⟩,⟨10,.phase⟩,⟨11,.phase⟩,⟨12,.phase⟩,⟨13,.phase⟩,⟨14,.phase⟩,⟨15,.phase⟩],none⟩) rfl (fun K hK=>?_) ?_
 ·go_simp
  refine hK _ _ ?_;exact rh h d1 o1 d2 o2 p8 p9 p16 _ m
 exact AllReady.nil
theorem lG (h:fh bz bx bY x1 y1 x2 y2 L M w0 Q)  (d1 o1 d2 o2 p8 p9 p16:Nat) (w:World) (m:aG w0 w [p8] [⟨p16,0,y1*(x2:Int),M+L⟩,⟨d2,o2,(x2:Int),L⟩,⟨p9,0,x1*(y2:Int),L+M⟩,⟨d1,o1,(y2:Int),M⟩,⟨bx,0,x1,L⟩,⟨bY,0,y1,M⟩]) :
  wpAny Tryz.prog .any bM Q 2 #[true,true,true,true,true,true,true,true,true,true,true,true,true,true,true,false,false] ⟨#[pp bz 0,pp bx 0,pp bY 0,undef,undef,undef,.pointer none,undef,pp p8 0,pp p9 0,pp bx 0,pp bx 0,pp bx 0,pp bY 0,pp d1 o1,pp p9 0,pp p16 0,pp bY 0,pp bY 0,pp bY 0,pp bx 0,pp d2 o2,pp p16 0,undef,undef,undef,undef,undef,undef,undef,undef,undef,undef],[]⟩ w:=by
 have hL:=h.hL;unfold pp;refine wpAny_ready (rs:=[15]) (by kernel_rfl) (by simp) ?_;refine AllReady.cons (o:=⟨some 23,.call ⟨.value (.func 50),#[.tmp 8,.tmp 15,.tmp 22],#[93,93,93]⟩,93, "rat.go:118",#[⟨0,.data⟩,⟨7,.data⟩,⟨14,.data⟩,⟨14,.chain⟩],none⟩) rfl (fun K hK=>?_) ?_
 ·go_simp
  refine (aG.add (A:=[]) (B:=[]) m (x:=x1*(y2:Int)) (y:=y1*(x2:Int)) (L:=L+M) (M:=M+L) (by simp) (by simp) (by omega) (by omega)).mono ?_;rintro e w1 ⟨rfl,m1⟩;go_wp2;exact rg h d1 o1 d2 o2 p8 p9 p16 _ m1
 exact AllReady.nil
theorem tZ (h:fh bz bx bY x1 y1 x2 y2 L M w0 Q)  (d1 o1 d2 o2 p9 p16:Nat) (w:World) (m:aG w0 w [] [⟨p16,0,y1*(x2:Int),M+L⟩,⟨d2,o2,(x2:Int),L⟩,⟨p9,0,x1*(y2:Int),L+M⟩,⟨d1,o1,(y2:Int),M⟩,⟨bx,0,x1,L⟩,⟨bY,0,y1,M⟩]) :
  wpAny Tryz.prog .any bM Q 3 #[false,true,true,true,true,true,true,true,true,true,true,true,true,true,true,false,false] ⟨#[pp bz 0,pp bx 0,pp bY 0,undef,undef,undef,.pointer none,undef,undef,pp p9 0,pp bx 0,pp bx 0,pp bx 0,pp bY 0,pp d1 o1,pp p9 0,pp p16 0,pp bY 0,pp bY 0,pp bY 0,pp bx 0,pp d2 o2,pp p16 0,undef,undef,undef,undef,undef,undef,undef,undef,undef,undef],[]⟩ w:=by
 have hL:=h.hL;unfold pp;refine wpAny_ready (rs:=[0]) (by kernel_rfl) (by simp) ?_;refine AllReady.cons (o:=⟨some 8,.alloc 51,93, "rat.go:118",#[],none⟩) rfl (fun K hK=>?_) ?_
 ·go_simp
  refine hK _ _ ?_;exact lG h d1 o1 d2 o2 w.heap.size p9 p16 _ (aG.alloc (A:=[]) (B:=[]) m)
 exact AllReady.nil
theorem iE (h:fh bz bx bY x1 y1 x2 y2 L M w0 Q)  (d1 o1 d2 o2 p8 p9 p16:Nat) (w:World) (m:aG w0 w [p8,p16] [⟨d2,o2,(x2:Int),L⟩,⟨p9,0,x1*(y2:Int),L+M⟩,⟨d1,o1,(y2:Int),M⟩,⟨bx,0,x1,L⟩,⟨bY,0,y1,M⟩]) :
  wpAny Tryz.prog .any bM Q 3 #[true,true,true,true,true,true,true,true,true,true,true,true,true,true,false,false,false] ⟨#[pp bz 0,pp bx 0,pp bY 0,undef,undef,undef,.pointer none,undef,pp p8 0,pp p9 0,pp bx 0,pp bx 0,pp bx 0,pp bY 0,pp d1 o1,pp p9 0,pp p16 0,pp bY 0,pp bY 0,pp bY 0,pp bx 0,pp d2 o2,undef,undef,undef,undef,undef,undef,undef,undef,undef,undef,undef],[]⟩ w:=by
 have hL:=h.hL;unfold pp;refine wpAny_ready (rs:=[14]) (by kernel_rfl) (by simp) ?_;refine AllReady.cons (o:=⟨some 22,.call ⟨.value (.func 51),#[.tmp 16,.tmp 19,.tmp 21],#[93,93,93]⟩,93, "rat.go:118",#[⟨8,.data⟩,⟨11,.data⟩,⟨13,.data⟩,⟨13,.chain⟩],none⟩) rfl (fun K hK=>?_) ?_
 ·go_simp
  refine (aG.mul (A:=[p8]) (B:=[]) m (x:=y1) (y:=(x2:Int)) (L:=M) (M:=L) (by simp) (by simp) (by omega)).mono ?_;rintro e w1 ⟨rfl,m1⟩;go_wp2;exact lG h d1 o1 d2 o2 p8 p9 p16 _ m1
 exact AllReady.nil
theorem nM (h:fh bz bx bY x1 y1 x2 y2 L M w0 Q)  (d1 o1 d2 o2 p8 p9:Nat) (w:World) (m:aG w0 w [p8] [⟨d2,o2,(x2:Int),L⟩,⟨p9,0,x1*(y2:Int),L+M⟩,⟨d1,o1,(y2:Int),M⟩,⟨bx,0,x1,L⟩,⟨bY,0,y1,M⟩]) :
  wpAny Tryz.prog .any bM Q 4 #[true,true,true,true,true,true,true,true,false,true,true,true,true,true,false,false,false] ⟨#[pp bz 0,pp bx 0,pp bY 0,undef,undef,undef,.pointer none,undef,pp p8 0,pp p9 0,pp bx 0,pp bx 0,pp bx 0,pp bY 0,pp d1 o1,pp p9 0,undef,pp bY 0,pp bY 0,pp bY 0,pp bx 0,pp d2 o2,undef,undef,undef,undef,undef,undef,undef,undef,undef,undef,undef],[]⟩ w:=by
 have hL:=h.hL;unfold pp;refine wpAny_ready (rs:=[8]) (by kernel_rfl) (by simp) ?_;refine AllReady.cons (o:=⟨some 16,.alloc 51,93, "rat.go:118",#[],none⟩) rfl (fun K hK=>?_) ?_
 ·go_simp
  refine hK _ _ ?_;exact iE h d1 o1 d2 o2 p8 p9 w.heap.size _ (aG.alloc (A:=[p8]) (B:=[]) m)
 exact AllReady.nil
theorem nN (h:fh bz bx bY x1 y1 x2 y2 L M w0 Q)  (d1 o1 d2 o2 p9 p16:Nat) (w:World) (m:aG w0 w [p16] [⟨d2,o2,(x2:Int),L⟩,⟨p9,0,x1*(y2:Int),L+M⟩,⟨d1,o1,(y2:Int),M⟩,⟨bx,0,x1,L⟩,⟨bY,0,y1,M⟩]) :
  wpAny Tryz.prog .any bM Q 4 #[false,true,true,true,true,true,true,true,true,true,true,true,true,true,false,false,false] ⟨#[pp bz 0,pp bx 0,pp bY 0,undef,undef,undef,.pointer none,undef,undef,pp p9 0,pp bx 0,pp bx 0,pp bx 0,pp bY 0,pp d1 o1,pp p9 0,pp p16 0,pp bY 0,pp bY 0,pp bY 0,pp bx 0,pp d2 o2,undef,undef,undef,undef,undef,undef,undef,undef,undef,undef,undef],[]⟩ w:=by
 have hL:=h.hL;unfold pp;refine wpAny_ready (rs:=[0,14]) (by kernel_rfl) (by simp) ?_;refine AllReady.cons (o:=⟨some 8,.alloc 51,93, "rat.go:118",#[],none⟩) rfl (fun K hK=>?_) ?_
 ·go_simp
  refine hK _ _ ?_;exact iE h d1 o1 d2 o2 w.heap.size p9 p16 _ (aG.alloc (A:=[]) (B:=[p16]) m)
 refine AllReady.cons (o:=⟨some 22,.call ⟨.value (.func 51),#[.tmp 16,.tmp 19,.tmp 21],#[93,93,93]⟩,93, "rat.go:118",#[⟨8,.data⟩,⟨11,.data⟩,⟨13,.data⟩,⟨13,.chain⟩],none⟩) rfl (fun K hK=>?_) ?_
 ·go_simp
  refine (aG.mul (A:=[]) (B:=[]) m (x:=y1) (y:=(x2:Int)) (L:=M) (M:=L) (by simp) (by simp) (by omega)).mono ?_;rintro e w1 ⟨rfl,m1⟩;go_wp2;exact tZ h d1 o1 d2 o2 p9 p16 _ m1
 exact AllReady.nil
theorem zE (h:fh bz bx bY x1 y1 x2 y2 L M w0 Q)  (d1 o1 d2 o2 p9:Nat) (w:World) (m:aG w0 w [] [⟨d2,o2,(x2:Int),L⟩,⟨p9,0,x1*(y2:Int),L+M⟩,⟨d1,o1,(y2:Int),M⟩,⟨bx,0,x1,L⟩,⟨bY,0,y1,M⟩]) :
  wpAny Tryz.prog .any bM Q 5 #[false,true,true,true,true,true,true,true,false,true,true,true,true,true,false,false,false] ⟨#[pp bz 0,pp bx 0,pp bY 0,undef,undef,undef,.pointer none,undef,undef,pp p9 0,pp bx 0,pp bx 0,pp bx 0,pp bY 0,pp d1 o1,pp p9 0,undef,pp bY 0,pp bY 0,pp bY 0,pp bx 0,pp d2 o2,undef,undef,undef,undef,undef,undef,undef,undef,undef,undef,undef],[]⟩ w:=by
 have hL:=h.hL;unfold pp;refine wpAny_ready (rs:=[0,8]) (by kernel_rfl) (by simp) ?_;refine AllReady.cons (o:=⟨some 8,.alloc 51,93, "rat.go:118",#[],none⟩) rfl (fun K hK=>?_) ?_
 ·go_simp
  refine hK _ _ ?_;exact nM h d1 o1 d2 o2 w.heap.size p9 _ (aG.alloc (A:=[]) (B:=[]) m)
 refine AllReady.cons (o:=⟨some 16,.alloc 51,93, "rat.go:118",#[],none⟩) rfl (fun K hK=>?_) ?_
 ·go_simp
  refine hK _ _ ?_;exact nN h d1 o1 d2 o2 p9 w.heap.size _ (aG.alloc (A:=[]) (B:=[]) m)
 exact AllReady.nil
theorem iD (h:fh bz bx bY x1 y1 x2 y2 L M w0 Q)  (d1 o1 p8 p9 p16:Nat) (w:World) (m:aG w0 w [p8,p16] [⟨p9,0,x1*(y2:Int),L+M⟩,⟨d1,o1,(y2:Int),M⟩,⟨bx,0,x1,L⟩,⟨bY,0,y1,M⟩]) :
  wpAny Tryz.prog .any bM Q 4 #[true,true,true,true,true,true,true,true,true,true,true,true,true,false,false,false,false] ⟨#[pp bz 0,pp bx 0,pp bY 0,undef,undef,undef,.pointer none,undef,pp p8 0,pp p9 0,pp bx 0,pp bx 0,pp bx 0,pp bY 0,pp d1 o1,pp p9 0,pp p16 0,pp bY 0,pp bY 0,pp bY 0,pp bx 0,undef,undef,undef,undef,undef,undef,undef,undef,undef,undef,undef,undef],[]⟩ w:=by
 have hL:=h.hL;unfold pp;refine wpAny_ready (rs:=[13]) (by kernel_rfl) (by simp) ?_;refine AllReady.cons (o:=⟨some 21,.call ⟨.value (.func 52),#[.tmp 20],#[37]⟩,93, "rat.go:118",#[⟨12,.data⟩,⟨7,.chain⟩],none⟩) rfl (fun K hK=>?_) ?_
 ·go_simp
  refine (h.dx _ _ _ m).mono ?_;rintro e w1 ⟨d2,o2,rfl,_,m1⟩;go_wp2;exact iE h d1 o1 d2 o2 p8 p9 p16 _ m1
 exact AllReady.nil
theorem nK (h:fh bz bx bY x1 y1 x2 y2 L M w0 Q)  (d1 o1 p8 p9:Nat) (w:World) (m:aG w0 w [p8] [⟨p9,0,x1*(y2:Int),L+M⟩,⟨d1,o1,(y2:Int),M⟩,⟨bx,0,x1,L⟩,⟨bY,0,y1,M⟩]) :
  wpAny Tryz.prog .any bM Q 5 #[true,true,true,true,true,true,true,true,false,true,true,true,true,false,false,false,false] ⟨#[pp bz 0,pp bx 0,pp bY 0,undef,undef,undef,.pointer none,undef,pp p8 0,pp p9 0,pp bx 0,pp bx 0,pp bx 0,pp bY 0,pp d1 o1,pp p9 0,undef,pp bY 0,pp bY 0,pp bY 0,pp bx 0,undef,undef,undef,undef,undef,undef,undef,undef,undef,undef,undef,undef],[]⟩ w:=by
 have hL:=h.hL;unfold pp;refine wpAny_ready (rs:=[8,13]) (by kernel_rfl) (by simp) ?_;refine AllReady.cons (o:=⟨some 16,.alloc 51,93, "rat.go:118",#[],none⟩) rfl (fun K hK=>?_) ?_
 ·go_simp
  refine hK _ _ ?_;exact iD h d1 o1 p8 p9 w.heap.size _ (aG.alloc (A:=[p8]) (B:=[]) m)
 refine AllReady.cons (o:=⟨some 21,.call ⟨.value (.func 52),#[.tmp 20],#[37]⟩,93, "rat.go:118",#[⟨12,.data⟩,⟨7,.chain⟩],none⟩) rfl (fun K hK=>?_) ?_
 ·go_simp
  refine (h.dx _ _ _ m).mono ?_;rintro e w1 ⟨d2,o2,rfl,_,m1⟩;go_wp2;exact nM h d1 o1 d2 o2 p8 p9 _ m1
 exact AllReady.nil
theorem nL (h:fh bz bx bY x1 y1 x2 y2 L M w0 Q)  (d1 o1 p9 p16:Nat) (w:World) (m:aG w0 w [p16] [⟨p9,0,x1*(y2:Int),L+M⟩,⟨d1,o1,(y2:Int),M⟩,⟨bx,0,x1,L⟩,⟨bY,0,y1,M⟩]) :
  wpAny Tryz.prog .any bM Q 5 #[false,true,true,true,true,true,true,true,true,true,true,true,true,false,false,false,false] ⟨#[pp bz 0,pp bx 0,pp bY 0,undef,undef,undef,.pointer none,undef,undef,pp p9 0,pp bx 0,pp bx 0,pp bx 0,pp bY 0,pp d1 o1,pp p9 0,pp p16 0,pp bY 0,pp bY 0,pp bY 0,pp bx 0,undef,undef,undef,undef,undef,undef,undef,undef,undef,undef,undef,undef],[]⟩ w:=by
 have hL:=h.hL;unfold pp;refine wpAny_ready (rs:=[0,13]) (by kernel_rfl) (by simp) ?_;refine AllReady.cons (o:=⟨some 8,.alloc 51,93, "rat.go:118",#[],none⟩) rfl (fun K hK=>?_) ?_
 ·go_simp
  refine hK _ _ ?_;exact iD h d1 o1 w.heap.size p9 p16 _ (aG.alloc (A:=[]) (B:=[p16]) m)
 refine AllReady.cons (o:=⟨some 21,.call ⟨.value (.func 52),#[.tmp 20],#[37]⟩,93, "rat.go:118",#[⟨12,.data⟩,⟨7,.chain⟩],none⟩) rfl (fun K hK=>?_) ?_
 ·go_simp
  refine (h.dx _ _ _ m).mono ?_;rintro e w1 ⟨d2,o2,rfl,_,m1⟩;go_wp2;exact nN h d1 o1 d2 o2 p9 p16 _ m1
 exact AllReady.nil
theorem zD (h:fh bz bx bY x1 y1 x2 y2 L M w0 Q)  (d1 o1 p9:Nat) (w:World) (m:aG w0 w [] [⟨p9,0,x1*(y2:Int),L+M⟩,⟨d1,o1,(y2:Int),M⟩,⟨bx,0,x1,L⟩,⟨bY,0,y1,M⟩]) :
  wpAny Tryz.prog .any bM Q 6 #[false,true,true,true,true,true,true,true,false,true,true,true,true,false,false,false,false] ⟨#[pp bz 0,pp bx 0,pp bY 0,undef,undef,undef,.pointer none,undef,undef,pp p9 0,pp bx 0,pp bx 0,pp bx 0,pp bY 0,pp d1 o1,pp p9 0,undef,pp bY 0,pp bY 0,pp bY 0,pp bx 0,undef,undef,undef,undef,undef,undef,undef,undef,undef,undef,undef,undef],[]⟩ w:=by
 have hL:=h.hL;unfold pp;refine wpAny_ready (rs:=[0,8,13]) (by kernel_rfl) (by simp) ?_;refine AllReady.cons (o:=⟨some 8,.alloc 51,93, "rat.go:118",#[],none⟩) rfl (fun K hK=>?_) ?_
 ·go_simp
  refine hK _ _ ?_;exact nK h d1 o1 w.heap.size p9 _ (aG.alloc (A:=[]) (B:=[]) m)
 refine AllReady.cons (o:=⟨some 16,.alloc 51,93, "rat.go:118",#[],none⟩) rfl (fun K hK=>?_) ?_
 ·go_simp
  refine hK _ _ ?_;exact nL h d1 o1 p9 w.heap.size _ (aG.alloc (A:=[]) (B:=[]) m)
 refine AllReady.cons (o:=⟨some 21,.call ⟨.value (.func 52),#[.tmp 20],#[37]⟩,93, "rat.go:118",#[⟨12,.data⟩,⟨7,.chain⟩],none⟩) rfl (fun K hK=>?_) ?_
 ·go_simp
  refine (h.dx _ _ _ m).mono ?_;rintro e w1 ⟨d2,o2,rfl,_,m1⟩;go_wp2;exact zE h d1 o1 d2 o2 p9 _ m1
 exact AllReady.nil
theorem fG (h:fh bz bx bY x1 y1 x2 y2 L M w0 Q)  (d1 o1 p8 p9 p16:Nat) (w:World) (m:aG w0 w [p8,p9,p16] [⟨d1,o1,(y2:Int),M⟩,⟨bx,0,x1,L⟩,⟨bY,0,y1,M⟩]) :
  wpAny Tryz.prog .any bM Q 5 #[true,true,true,true,true,true,true,false,true,true,true,true,true,false,false,false,false] ⟨#[pp bz 0,pp bx 0,pp bY 0,undef,undef,undef,.pointer none,undef,pp p8 0,pp p9 0,pp bx 0,pp bx 0,pp bx 0,pp bY 0,pp d1 o1,undef,pp p16 0,pp bY 0,pp bY 0,pp bY 0,pp bx 0,undef,undef,undef,undef,undef,undef,undef,undef,undef,undef,undef,undef],[]⟩ w:=by
 have hL:=h.hL;unfold pp;refine wpAny_ready (rs:=[7]) (by kernel_rfl) (by simp) ?_;refine AllReady.cons (o:=⟨some 15,.call ⟨.value (.func 51),#[.tmp 9,.tmp 12,.tmp 14],#[93,93,93]⟩,93, "rat.go:118",#[⟨1,.data⟩,⟨4,.data⟩,⟨6,.data⟩,⟨6,.chain⟩],none⟩) rfl (fun K hK=>?_) ?_
 ·go_simp
  refine (aG.mul (A:=[p8]) (B:=[p16]) m (x:=x1) (y:=(y2:Int)) (L:=L) (M:=M) (by simp) (by simp) (by omega)).mono ?_;rintro e w1 ⟨rfl,m1⟩;go_wp2;exact iD h d1 o1 p8 p9 p16 _ m1
 exact AllReady.nil
theorem j5 (h:fh bz bx bY x1 y1 x2 y2 L M w0 Q)  (d1 o1 p8 p9:Nat) (w:World) (m:aG w0 w [p8,p9] [⟨d1,o1,(y2:Int),M⟩,⟨bx,0,x1,L⟩,⟨bY,0,y1,M⟩]) :
  wpAny Tryz.prog .any bM Q 6 #[true,true,true,true,true,true,true,false,false,true,true,true,true,false,false,false,false] ⟨#[pp bz 0,pp bx 0,pp bY 0,undef,undef,undef,.pointer none,undef,pp p8 0,pp p9 0,pp bx 0,pp bx 0,pp bx 0,pp bY 0,pp d1 o1,undef,undef,pp bY 0,pp bY 0,pp bY 0,pp bx 0,undef,undef,undef,undef,undef,undef,undef,undef,undef,undef,undef,undef],[]⟩ w:=by
 have hL:=h.hL;unfold pp;refine wpAny_ready (rs:=[7,8]) (by kernel_rfl) (by simp) ?_;refine AllReady.cons (o:=⟨some 15,.call ⟨.value (.func 51),#[.tmp 9,.tmp 12,.tmp 14],#[93,93,93]⟩,93, "rat.go:118",#[⟨1,.data⟩,⟨4,.data⟩,⟨6,.data⟩,⟨6,.chain⟩],none⟩) rfl (fun K hK=>?_) ?_
 ·go_simp
  refine (aG.mul (A:=[p8]) (B:=[]) m (x:=x1) (y:=(y2:Int)) (L:=L) (M:=M) (by simp) (by simp) (by omega)).mono ?_;rintro e w1 ⟨rfl,m1⟩;go_wp2;exact nK h d1 o1 p8 p9 _ m1
 refine AllReady.cons (o:=⟨some 16,.alloc 51,93, "rat.go:118",#[],none⟩) rfl (fun K hK=>?_) ?_
 ·go_simp
  refine hK _ _ ?_;exact fG h d1 o1 p8 p9 w.heap.size _ (aG.alloc (A:=[p8,p9]) (B:=[]) m)
 exact AllReady.nil
theorem j6 (h:fh bz bx bY x1 y1 x2 y2 L M w0 Q)  (d1 o1 p8 p16:Nat) (w:World) (m:aG w0 w [p8,p16] [⟨d1,o1,(y2:Int),M⟩,⟨bx,0,x1,L⟩,⟨bY,0,y1,M⟩]) :
  wpAny Tryz.prog .any bM Q 6 #[true,false,true,true,true,true,true,false,true,true,true,true,true,false,false,false,false] ⟨#[pp bz 0,pp bx 0,pp bY 0,undef,undef,undef,.pointer none,undef,pp p8 0,undef,pp bx 0,pp bx 0,pp bx 0,pp bY 0,pp d1 o1,undef,pp p16 0,pp bY 0,pp bY 0,pp bY 0,pp bx 0,undef,undef,undef,undef,undef,undef,undef,undef,undef,undef,undef,undef],[]⟩ w:=by
 have hL:=h.hL;unfold pp;refine wpAny_ready (rs:=[1]) (by kernel_rfl) (by simp) ?_;refine AllReady.cons (o:=⟨some 9,.alloc 51,93, "rat.go:118",#[],none⟩) rfl (fun K hK=>?_) ?_
 ·go_simp
  refine hK _ _ ?_;exact fG h d1 o1 p8 w.heap.size p16 _ (aG.alloc (A:=[p8]) (B:=[p16]) m)
 exact AllReady.nil
theorem j7 (h:fh bz bx bY x1 y1 x2 y2 L M w0 Q)  (d1 o1 p9 p16:Nat) (w:World) (m:aG w0 w [p9,p16] [⟨d1,o1,(y2:Int),M⟩,⟨bx,0,x1,L⟩,⟨bY,0,y1,M⟩]) :
  wpAny Tryz.prog .any bM Q 6 #[false,true,true,true,true,true,true,false,true,true,true,true,true,false,false,false,false] ⟨#[pp bz 0,pp bx 0,pp bY 0,undef,undef,undef,.pointer none,undef,undef,pp p9 0,pp bx 0,pp bx 0,pp bx 0,pp bY 0,pp d1 o1,undef,pp p16 0,pp bY 0,pp bY 0,pp bY 0,pp bx 0,undef,undef,undef,undef,undef,undef,undef,undef,undef,undef,undef,undef],[]⟩ w:=by
 have hL:=h.hL;unfold pp;refine wpAny_ready (rs:=[0,7]) (by kernel_rfl) (by simp) ?_;refine AllReady.cons (o:=⟨some 8,.alloc 51,93, "rat.go:118",#[],none⟩) rfl (fun K hK=>?_) ?_
 ·go_simp
  refine hK _ _ ?_;exact fG h d1 o1 w.heap.size p9 p16 _ (aG.alloc (A:=[]) (B:=[p9,p16]) m)
 refine AllReady.cons (o:=⟨some 15,.call ⟨.value (.func 51),#[.tmp 9,.tmp 12,.tmp 14],#[93,93,93]⟩,93, "rat.go:118",#[⟨1,.data⟩,⟨4,.data⟩,⟨6,.data⟩,⟨6,.chain⟩],none⟩) rfl (fun K hK=>?_) ?_
 ·go_simp
  refine (aG.mul (A:=[]) (B:=[p16]) m (x:=x1) (y:=(y2:Int)) (L:=L) (M:=M) (by simp) (by simp) (by omega)).mono ?_;rintro e w1 ⟨rfl,m1⟩;go_wp2;exact nL h d1 o1 p9 p16 _ m1
 exact AllReady.nil
theorem rH (h:fh bz bx bY x1 y1 x2 y2 L M w0 Q)  (d1 o1 p8:Nat) (w:World) (m:aG w0 w [p8] [⟨d1,o1,(y2:Int),M⟩,⟨bx,0,x1,L⟩,⟨bY,0,y1,M⟩]) :
  wpAny Tryz.prog .any bM Q 7 #[true,false,true,true,true,true,true,false,false,true,true,true,true,false,false,false,false] ⟨#[pp bz 0,pp bx 0,pp bY 0,undef,undef,undef,.pointer none,undef,pp p8 0,undef,pp bx 0,pp bx 0,pp bx 0,pp bY 0,pp d1 o1,undef,undef,pp bY 0,pp bY 0,pp bY 0,pp bx 0,undef,undef,undef,undef,undef,undef,undef,undef,undef,undef,undef,undef],[]⟩ w:=by
 have hL:=h.hL;unfold pp;refine wpAny_ready (rs:=[1,8]) (by kernel_rfl) (by simp) ?_;refine AllReady.cons (o:=⟨some 9,.alloc 51,93, "rat.go:118",#[],none⟩) rfl (fun K hK=>?_) ?_
 ·go_simp
  refine hK _ _ ?_;exact j5 h d1 o1 p8 w.heap.size _ (aG.alloc (A:=[p8]) (B:=[]) m)
 refine AllReady.cons (o:=⟨some 16,.alloc 51,93, "rat.go:118",#[],none⟩) rfl (fun K hK=>?_) ?_
 ·go_simp
  refine hK _ _ ?_;exact j6 h d1 o1 p8 w.heap.size _ (aG.alloc (A:=[p8]) (B:=[]) m)
 exact AllReady.nil
theorem rI (h:fh bz bx bY x1 y1 x2 y2 L M w0 Q)  (d1 o1 p9:Nat) (w:World) (m:aG w0 w [p9] [⟨d1,o1,(y2:Int),M⟩,⟨bx,0,x1,L⟩,⟨bY,0,y1,M⟩]) :
  wpAny Tryz.prog .any bM Q 7 #[false,true,true,true,true,true,true,false,false,true,true,true,true,false,false,false,false] ⟨#[pp bz 0,pp bx 0,pp bY 0,undef,undef,undef,.pointer none,undef,undef,pp p9 0,pp bx 0,pp bx 0,pp bx 0,pp bY 0,pp d1 o1,undef,undef,pp bY 0,pp bY 0,pp bY 0,pp bx 0,undef,undef,undef,undef,undef,undef,undef,undef,undef,undef,undef,undef],[]⟩ w:=by
 have hL:=h.hL;unfold pp;refine wpAny_ready (rs:=[0,7,8]) (by kernel_rfl) (by simp) ?_;refine AllReady.cons (o:=⟨some 8,.alloc 51,93, "rat.go:118",#[],none⟩) rfl (fun K hK=>?_) ?_
 ·go_simp
  refine hK _ _ ?_;exact j5 h d1 o1 w.heap.size p9 _ (aG.alloc (A:=[]) (B:=[p9]) m)
 refine AllReady.cons (o:=⟨some 15,.call ⟨.value (.func 51),#[.tmp 9,.tmp 12,.tmp 14],#[93,93,93]⟩,93, "rat.go:118",#[⟨1,.data⟩,⟨4,.data⟩,⟨6,.data⟩,⟨6,.chain⟩],none⟩) rfl (fun K hK=>?_) ?_
 ·go_simp
  refine (aG.mul (A:=[]) (B:=[]) m (x:=x1) (y:=(y2:Int)) (L:=L) (M:=M) (by simp) (by simp) (by omega)).mono ?_;rintro e w1 ⟨rfl,m1⟩;go_wp2;exact zD h d1 o1 p9 _ m1
 refine AllReady.cons (o:=⟨some 16,.alloc 51,93, "rat.go:118",#[],none⟩) rfl (fun K hK=>?_) ?_
 ·go_simp
  refine hK _ _ ?_;exact j7 h d1 o1 p9 w.heap.size _ (aG.alloc (A:=[p9]) (B:=[]) m)
 exact AllReady.nil
theorem rJ (h:fh bz bx bY x1 y1 x2 y2 L M w0 Q)  (d1 o1 p16:Nat) (w:World) (m:aG w0 w [p16] [⟨d1,o1,(y2:Int),M⟩,⟨bx,0,x1,L⟩,⟨bY,0,y1,M⟩]) :
  wpAny Tryz.prog .any bM Q 7 #[false,false,true,true,true,true,true,false,true,true,true,true,true,false,false,false,false] ⟨#[pp bz 0,pp bx 0,pp bY 0,undef,undef,undef,.pointer none,undef,undef,undef,pp bx 0,pp bx 0,pp bx 0,pp bY 0,pp d1 o1,undef,pp p16 0,pp bY 0,pp bY 0,pp bY 0,pp bx 0,undef,undef,undef,undef,undef,undef,undef,undef,undef,undef,undef,undef],[]⟩ w:=by
 have hL:=h.hL;unfold pp;refine wpAny_ready (rs:=[0,1]) (by kernel_rfl) (by simp) ?_;refine AllReady.cons (o:=⟨some 8,.alloc 51,93, "rat.go:118",#[],none⟩) rfl (fun K hK=>?_) ?_
 ·go_simp
  refine hK _ _ ?_;exact j6 h d1 o1 w.heap.size p16 _ (aG.alloc (A:=[]) (B:=[p16]) m)
 refine AllReady.cons (o:=⟨some 9,.alloc 51,93, "rat.go:118",#[],none⟩) rfl (fun K hK=>?_) ?_
 ·go_simp
  refine hK _ _ ?_;exact j7 h d1 o1 w.heap.size p16 _ (aG.alloc (A:=[]) (B:=[p16]) m)
 exact AllReady.nil
theorem addT_1_ (h:fh bz bx bY x1 y1 x2 y2 L M w0 Q)  (d1 o1:Nat) (w:World) (m:aG w0 w [] [⟨d1,o1,(y2:Int),M⟩,⟨bx,0,x1,L⟩,⟨bY,0,y1,M⟩]) :
  wpAny Tryz.prog .any bM Q 8 #[false,false,true,true,true,true,true,false,false,true,true,true,true,false,false,false,false] ⟨#[pp bz 0,pp bx 0,pp bY 0,undef,undef,undef,.pointer none,undef,undef,undef,pp bx 0,pp bx 0,pp bx 0,pp bY 0,pp d1 o1,undef,undef,pp bY 0,pp bY 0,pp bY 0,pp bx 0,undef,undef,undef,undef,undef,undef,undef,undef,undef,undef,undef,undef],[]⟩ w:=by
 have hL:=h.hL;unfold pp;refine wpAny_ready (rs:=[0,1,8]) (by kernel_rfl) (by simp) ?_;refine AllReady.cons (o:=⟨some 8,.alloc 51,93, "rat.go:118",#[],none⟩) rfl (fun K hK=>?_) ?_
 ·go_simp
  refine hK _ _ ?_;exact rH h d1 o1 w.heap.size _ (aG.alloc (A:=[]) (B:=[]) m)
 refine AllReady.cons (o:=⟨some 9,.alloc 51,93, "rat.go:118",#[],none⟩) rfl (fun K hK=>?_) ?_
 ·go_simp
  refine hK _ _ ?_;exact rI h d1 o1 w.heap.size _ (aG.alloc (A:=[]) (B:=[]) m)
 refine AllReady.cons (o:=⟨some 16,.alloc 51,93, "rat.go:118",#[],none⟩) rfl (fun K hK=>?_) ?_
 ·go_simp
  refine hK _ _ ?_;exact rJ h d1 o1 w.heap.size _ (aG.alloc (A:=[]) (B:=[]) m)
 exact AllReady.nil
theorem iC (h:fh bz bx bY x1 y1 x2 y2 L M w0 Q)  (p8 p9 p16:Nat) (w:World) (m:aG w0 w [p8,p9,p16] [⟨bx,0,x1,L⟩,⟨bY,0,y1,M⟩]) :
  wpAny Tryz.prog .any bM Q 6 #[true,true,true,true,true,true,false,false,true,true,true,true,true,false,false,false,false] ⟨#[pp bz 0,pp bx 0,pp bY 0,undef,undef,undef,.pointer none,undef,pp p8 0,pp p9 0,pp bx 0,pp bx 0,pp bx 0,pp bY 0,undef,undef,pp p16 0,pp bY 0,pp bY 0,pp bY 0,pp bx 0,undef,undef,undef,undef,undef,undef,undef,undef,undef,undef,undef,undef],[]⟩ w:=by
 have hL:=h.hL;unfold pp;refine wpAny_ready (rs:=[6]) (by kernel_rfl) (by simp) ?_;refine AllReady.cons (o:=⟨some 14,.call ⟨.value (.func 52),#[.tmp 13],#[37]⟩,93, "rat.go:118",#[⟨5,.data⟩],none⟩) rfl (fun K hK=>?_) ?_
 ·go_simp
  refine (h.dy _ _ _ m).mono ?_;rintro e w1 ⟨d1,o1,rfl,_,m1⟩;go_wp2;exact fG h d1 o1 p8 p9 p16 _ m1
 exact AllReady.nil
theorem nH (h:fh bz bx bY x1 y1 x2 y2 L M w0 Q)  (p8 p9:Nat) (w:World) (m:aG w0 w [p8,p9] [⟨bx,0,x1,L⟩,⟨bY,0,y1,M⟩]) :
  wpAny Tryz.prog .any bM Q 7 #[true,true,true,true,true,true,false,false,false,true,true,true,true,false,false,false,false] ⟨#[pp bz 0,pp bx 0,pp bY 0,undef,undef,undef,.pointer none,undef,pp p8 0,pp p9 0,pp bx 0,pp bx 0,pp bx 0,pp bY 0,undef,undef,undef,pp bY 0,pp bY 0,pp bY 0,pp bx 0,undef,undef,undef,undef,undef,undef,undef,undef,undef,undef,undef,undef],[]⟩ w:=by
 have hL:=h.hL;unfold pp;refine wpAny_ready (rs:=[6,8]) (by kernel_rfl) (by simp) ?_;refine AllReady.cons (o:=⟨some 14,.call ⟨.value (.func 52),#[.tmp 13],#[37]⟩,93, "rat.go:118",#[⟨5,.data⟩],none⟩) rfl (fun K hK=>?_) ?_
 ·go_simp
  refine (h.dy _ _ _ m).mono ?_;rintro e w1 ⟨d1,o1,rfl,_,m1⟩;go_wp2;exact j5 h d1 o1 p8 p9 _ m1
 refine AllReady.cons (o:=⟨some 16,.alloc 51,93, "rat.go:118",#[],none⟩) rfl (fun K hK=>?_) ?_
 ·go_simp
  refine hK _ _ ?_;exact iC h p8 p9 w.heap.size _ (aG.alloc (A:=[p8,p9]) (B:=[]) m)
 exact AllReady.nil
theorem nI (h:fh bz bx bY x1 y1 x2 y2 L M w0 Q)  (p8 p16:Nat) (w:World) (m:aG w0 w [p8,p16] [⟨bx,0,x1,L⟩,⟨bY,0,y1,M⟩]) :
  wpAny Tryz.prog .any bM Q 7 #[true,false,true,true,true,true,false,false,true,true,true,true,true,false,false,false,false] ⟨#[pp bz 0,pp bx 0,pp bY 0,undef,undef,undef,.pointer none,undef,pp p8 0,undef,pp bx 0,pp bx 0,pp bx 0,pp bY 0,undef,undef,pp p16 0,pp bY 0,pp bY 0,pp bY 0,pp bx 0,undef,undef,undef,undef,undef,undef,undef,undef,undef,undef,undef,undef],[]⟩ w:=by
 have hL:=h.hL;unfold pp;refine wpAny_ready (rs:=[1,6]) (by kernel_rfl) (by simp) ?_;refine AllReady.cons (o:=⟨some 9,.alloc 51,93, "rat.go:118",#[],none⟩) rfl (fun K hK=>?_) ?_
 ·go_simp
  refine hK _ _ ?_;exact iC h p8 w.heap.size p16 _ (aG.alloc (A:=[p8]) (B:=[p16]) m)
 refine AllReady.cons (o:=⟨some 14,.call ⟨.value (.func 52),#[.tmp 13],#[37]⟩,93, "rat.go:118",#[⟨5,.data⟩],none⟩) rfl (fun K hK=>?_) ?_
 ·go_simp
  refine (h.dy _ _ _ m).mono ?_;rintro e w1 ⟨d1,o1,rfl,_,m1⟩;go_wp2;exact j6 h d1 o1 p8 p16 _ m1
 exact AllReady.nil
theorem nJ (h:fh bz bx bY x1 y1 x2 y2 L M w0 Q)  (p9 p16:Nat) (w:World) (m:aG w0 w [p9,p16] [⟨bx,0,x1,L⟩,⟨bY,0,y1,M⟩]) :
  wpAny Tryz.prog .any bM Q 7 #[false,true,true,true,true,true,false,false,true,true,true,true,true,false,false,false,false] ⟨#[pp bz 0,pp bx 0,pp bY 0,undef,undef,undef,.pointer none,undef,undef,pp p9 0,pp bx 0,pp bx 0,pp bx 0,pp bY 0,undef,undef,pp p16 0,pp bY 0,pp bY 0,pp bY 0,pp bx 0,undef,undef,undef,undef,undef,undef,undef,undef,undef,undef,undef,undef],[]⟩ w:=by
 have hL:=h.hL;unfold pp;refine wpAny_ready (rs:=[0,6]) (by kernel_rfl) (by simp) ?_;refine AllReady.cons (o:=⟨some 8,.alloc 51,93, "rat.go:118",#[],none⟩) rfl (fun K hK=>?_) ?_
 ·go_simp
  refine hK _ _ ?_;exact iC h w.heap.size p9 p16 _ (aG.alloc (A:=[]) (B:=[p9,p16]) m)
 refine AllReady.cons (o:=⟨some 14,.call ⟨.value (.func 52),#[.tmp 13],#[37]⟩,93, "rat.go:118",#[⟨5,.data⟩],none⟩) rfl (fun K hK=>?_) ?_
 ·go_simp
  refine (h.dy _ _ _ m).mono ?_;rintro e w1 ⟨d1,o1,rfl,_,m1⟩;go_wp2;exact j7 h d1 o1 p9 p16 _ m1
 exact AllReady.nil
theorem zA (h:fh bz bx bY x1 y1 x2 y2 L M w0 Q)  (p8:Nat) (w:World) (m:aG w0 w [p8] [⟨bx,0,x1,L⟩,⟨bY,0,y1,M⟩]) :
  wpAny Tryz.prog .any bM Q 8 #[true,false,true,true,true,true,false,false,false,true,true,true,true,false,false,false,false] ⟨#[pp bz 0,pp bx 0,pp bY 0,undef,undef,undef,.pointer none,undef,pp p8 0,undef,pp bx 0,pp bx 0,pp bx 0,pp bY 0,undef,undef,undef,pp bY 0,pp bY 0,pp bY 0,pp bx 0,undef,undef,undef,undef,undef,undef,undef,undef,undef,undef,undef,undef],[]⟩ w:=by
 have hL:=h.hL;unfold pp;refine wpAny_ready (rs:=[1,6,8]) (by kernel_rfl) (by simp) ?_;refine AllReady.cons (o:=⟨some 9,.alloc 51,93, "rat.go:118",#[],none⟩) rfl (fun K hK=>?_) ?_
 ·go_simp
  refine hK _ _ ?_;exact nH h p8 w.heap.size _ (aG.alloc (A:=[p8]) (B:=[]) m)
 refine AllReady.cons (o:=⟨some 14,.call ⟨.value (.func 52),#[.tmp 13],#[37]⟩,93, "rat.go:118",#[⟨5,.data⟩],none⟩) rfl (fun K hK=>?_) ?_
 ·go_simp
  refine (h.dy _ _ _ m).mono ?_;rintro e w1 ⟨d1,o1,rfl,_,m1⟩;go_wp2;exact rH h d1 o1 p8 _ m1
 refine AllReady.cons (o:=⟨some 16,.alloc 51,93, "rat.go:118",#[],none⟩) rfl (fun K hK=>?_) ?_
 ·go_simp
  refine hK _ _ ?_;exact nI h p8 w.heap.size _ (aG.alloc (A:=[p8]) (B:=[]) m)
 exact AllReady.nil
theorem zB (h:fh bz bx bY x1 y1 x2 y2 L M w0 Q)  (p9:Nat) (w:World) (m:aG w0 w [p9] [⟨bx,0,x1,L⟩,⟨bY,0,y1,M⟩]) :
  wpAny Tryz.prog .any bM Q 8 #[false,true,true,true,true,true,false,false,false,true,true,true,true,false,false,false,false] ⟨#[pp bz 0,pp bx 0,pp bY 0,undef,undef,undef,.pointer none,undef,undef,pp p9 0,pp bx 0,pp bx 0,pp bx 0,pp bY 0,undef,undef,undef,pp bY 0,pp bY 0,pp bY 0,pp bx 0,undef,undef,undef,undef,undef,undef,undef,undef,undef,undef,undef,undef],[]⟩ w:=by
 have hL:=h.hL;unfold pp;refine wpAny_ready (rs:=[0,6,8]) (by kernel_rfl) (by simp) ?_;refine AllReady.cons (o:=⟨some 8,.alloc 51,93, "rat.go:118",#[],none⟩) rfl (fun K hK=>?_) ?_
 ·go_simp
  refine hK _ _ ?_;exact nH h w.heap.size p9 _ (aG.alloc (A:=[]) (B:=[p9]) m)
 refine AllReady.cons (o:=⟨some 14,.call ⟨.value (.func 52),#[.tmp 13],#[37]⟩,93, "rat.go:118",#[⟨5,.data⟩],none⟩) rfl (fun K hK=>?_) ?_
 ·go_simp
  refine (h.dy _ _ _ m).mono ?_;rintro e w1 ⟨d1,o1,rfl,_,m1⟩;go_wp2;exact rI h d1 o1 p9 _ m1
 refine AllReady.cons (o:=⟨some 16,.alloc 51,93, "rat.go:118",#[],none⟩) rfl (fun K hK=>?_) ?_
 ·go_simp
  refine hK _ _ ?_;exact nJ h p9 w.heap.size _ (aG.alloc (A:=[p9]) (B:=[]) m)
 exact AllReady.nil
theorem zC (h:fh bz bx bY x1 y1 x2 y2 L M w0 Q)  (p16:Nat) (w:World) (m:aG w0 w [p16] [⟨bx,0,x1,L⟩,⟨bY,0,y1,M⟩]) :
  wpAny Tryz.prog .any bM Q 8 #[false,false,true,true,true,true,false,false,true,true,true,true,true,false,false,false,false] ⟨#[pp bz 0,pp bx 0,pp bY 0,undef,undef,undef,.pointer none,undef,undef,undef,pp bx 0,pp bx 0,pp bx 0,pp bY 0,undef,undef,pp p16 0,pp bY 0,pp bY 0,pp bY 0,pp bx 0,undef,undef,undef,undef,undef,undef,undef,undef,undef,undef,undef,undef],[]⟩ w:=by
 have hL:=h.hL;unfold pp;refine wpAny_ready (rs:=[0,1,6]) (by kernel_rfl) (by simp) ?_;refine AllReady.cons (o:=⟨some 8,.alloc 51,93, "rat.go:118",#[],none⟩) rfl (fun K hK=>?_) ?_
 ·go_simp
  refine hK _ _ ?_;exact nI h w.heap.size p16 _ (aG.alloc (A:=[]) (B:=[p16]) m)
 refine AllReady.cons (o:=⟨some 9,.alloc 51,93, "rat.go:118",#[],none⟩) rfl (fun K hK=>?_) ?_
 ·go_simp
  refine hK _ _ ?_;exact nJ h w.heap.size p16 _ (aG.alloc (A:=[]) (B:=[p16]) m)
 refine AllReady.cons (o:=⟨some 14,.call ⟨.value (.func 52),#[.tmp 13],#[37]⟩,93, "rat.go:118",#[⟨5,.data⟩],none⟩) rfl (fun K hK=>?_) ?_
 ·go_simp
  refine (h.dy _ _ _ m).mono ?_;rintro e w1 ⟨d1,o1,rfl,_,m1⟩;go_wp2;exact rJ h d1 o1 p16 _ m1
 exact AllReady.nil
theorem addT_0_ (h:fh bz bx bY x1 y1 x2 y2 L M w0 Q)  (w:World) (m:aG w0 w [] [⟨bx,0,x1,L⟩,⟨bY,0,y1,M⟩]) :
  wpAny Tryz.prog .any bM Q 9 #[false,false,true,true,true,true,false,false,false,true,true,true,true,false,false,false,false] ⟨#[pp bz 0,pp bx 0,pp bY 0,undef,undef,undef,.pointer none,undef,undef,undef,pp bx 0,pp bx 0,pp bx 0,pp bY 0,undef,undef,undef,pp bY 0,pp bY 0,pp bY 0,pp bx 0,undef,undef,undef,undef,undef,undef,undef,undef,undef,undef,undef,undef],[]⟩ w:=by
 have hL:=h.hL;unfold pp;refine wpAny_ready (rs:=[0,1,6,8]) (by kernel_rfl) (by simp) ?_;refine AllReady.cons (o:=⟨some 8,.alloc 51,93, "rat.go:118",#[],none⟩) rfl (fun K hK=>?_) ?_
 ·go_simp
  refine hK _ _ ?_;exact zA h w.heap.size _ (aG.alloc (A:=[]) (B:=[]) m)
 refine AllReady.cons (o:=⟨some 9,.alloc 51,93, "rat.go:118",#[],none⟩) rfl (fun K hK=>?_) ?_
 ·go_simp
  refine hK _ _ ?_;exact zB h w.heap.size _ (aG.alloc (A:=[]) (B:=[]) m)
 refine AllReady.cons (o:=⟨some 14,.call ⟨.value (.func 52),#[.tmp 13],#[37]⟩,93, "rat.go:118",#[⟨5,.data⟩],none⟩) rfl (fun K hK=>?_) ?_
 ·go_simp
  refine (h.dy _ _ _ m).mono ?_;rintro e w1 ⟨d1,o1,rfl,_,m1⟩;go_wp2;exact addT_1_ h d1 o1 _ m1
 refine AllReady.cons (o:=⟨some 16,.alloc 51,93, "rat.go:118",#[],none⟩) rfl (fun K hK=>?_) ?_
 ·go_simp
  refine hK _ _ ?_;exact zC h w.heap.size _ (aG.alloc (A:=[]) (B:=[]) m)
 exact AllReady.nil
end
end Go.Proofs.YtcoeancbjafooaaGreatDoor
