/- Contracts that the proof leans on. -/
import Derived.Test.YthblidglcppakaaGreatDoorXCBe
namespace Go.Proofs.YthblidglcppakaaGreatDoor
open Go.RowKit
set_option linter.unusedVariables false
set_option linter.unusedSimpArgs false
set_option maxHeartbeats 8000000
set_option maxRecDepth 10000
def bL:Array Oper:=#[⟨some 8,.alloc 45,76, "rat.go:118",#[],none⟩,
 ⟨some 9,.alloc 45,76, "rat.go:118",#[],none⟩,
 ⟨some 10,.move (.tmp 1),42, "rat.go:118",#[],none⟩,
 ⟨some 11,.nilCheck (.tmp 10),0, "rat.go:118",#[⟨2,.data⟩],none⟩,
 ⟨some 12,.fieldAddr 47 (.tmp 11) 0,0, "rat.go:118",#[⟨3,.data⟩],none⟩,
 ⟨some 13,.move (.tmp 2),42, "rat.go:118",#[],none⟩,
 ⟨some 14,.call ⟨.value (.func 35),#[.tmp 13],#[42]⟩,76, "rat.go:118",#[⟨5,.data⟩],none⟩,
 ⟨some 15,.call ⟨.value (.func 34),#[.tmp 9,.tmp 12,.tmp 14],#[76,76,76]⟩,76, "rat.go:118",#[⟨1,.data⟩,⟨4,.data⟩,⟨6,.data⟩,⟨6,.chain⟩],none⟩,
 ⟨some 16,.alloc 45,76, "rat.go:118",#[],none⟩,
 ⟨some 17,.move (.tmp 2),42, "rat.go:118",#[],none⟩,
 ⟨some 18,.nilCheck (.tmp 17),0, "rat.go:118",#[⟨9,.data⟩],none⟩,
 ⟨some 19,.fieldAddr 47 (.tmp 18) 0,0, "rat.go:118",#[⟨10,.data⟩],none⟩,
 ⟨some 20,.move (.tmp 1),42, "rat.go:118",#[],none⟩,
 ⟨some 21,.call ⟨.value (.func 35),#[.tmp 20],#[42]⟩,76, "rat.go:118",#[⟨12,.data⟩,⟨7,.chain⟩],none⟩,
 ⟨some 22,.call ⟨.value (.func 34),#[.tmp 16,.tmp 19,.tmp 21],#[76,76,76]⟩,76, "rat.go:118",#[⟨8,.data⟩,⟨11,.data⟩,⟨13,.data⟩,⟨13,.chain⟩],none⟩,
 ⟨some 23,.call ⟨.value (.func 33),#[.tmp 8,.tmp 15,.tmp 22],#[76,76,76]⟩,76, "rat.go:118",#[⟨0,.data⟩,⟨7,.data⟩,⟨14,.data⟩,⟨14,.chain⟩],none⟩,
 ⟨some 7,.assign (.tmp 23),76, "rat.go:118",#[⟨15,.data⟩,⟨15,.chain⟩,⟨0,.phase⟩,⟨1,.phase⟩,⟨2,.phase⟩,⟨3,.phase⟩,⟨4,.phase⟩,⟨5,.phase⟩,⟨6,.phase⟩,⟨7,.phase⟩,⟨8,.phase⟩,⟨9,.phase⟩,⟨10,.phase⟩,⟨11,.phase⟩,⟨12,.phase⟩,⟨13,.phase⟩,⟨14,.phase⟩,⟨15,.phase⟩],none⟩]
structure fm (bz bx bY:Nat) (x1 y1:Int) (x2 y2 L M:Nat) (w0:World) (Q:Exit->Act->World->Prop):Prop where
 dx:jb w0 bx x2 L
 dy:jb w0 bY y2 M
 hL:L+M<=4000000000000
 hQ:∀ (d1 o1 d2 o2 p8 p9 p16:Nat) (w:World),aT w0 w [] [⟨p8,0,x1*(y2:Int)+y1*(x2:Int),max (L+M) (M+L)+1⟩,⟨p16,0,y1*(x2:Int),M+L⟩,⟨d2,o2,(x2:Int),L⟩,⟨p9,0,x1*(y2:Int),L+M⟩,⟨d1,o1,(y2:Int),M⟩,⟨bx,0,x1,L⟩,⟨bY,0,y1,M⟩]->Q .normal ⟨#[pp bz 0,pp bx 0,pp bY 0,undef,undef,undef,.pointer none,pp p8 0,pp p8 0,pp p9 0,pp bx 0,pp bx 0,pp bx 0,pp bY 0,pp d1 o1,pp p9 0,pp p16 0,pp bY 0,pp bY 0,pp bY 0,pp bx 0,pp d2 o2,pp p16 0,pp p8 0,undef,undef,undef,undef,undef,undef,undef,undef,undef],[]⟩ w
section
variable {bz bx bY:Nat} {x1 y1:Int} {x2 y2 L M:Nat} {w0:World} {Q:Exit->Act->World->Prop}
theorem qx (h:fm bz bx bY x1 y1 x2 y2 L M w0 Q)  (d1 o1 d2 o2 p8 p9 p16:Nat) (w:World) (m:aT w0 w [] [⟨p8,0,x1*(y2:Int)+y1*(x2:Int),max (L+M) (M+L)+1⟩,⟨p16,0,y1*(x2:Int),M+L⟩,⟨d2,o2,(x2:Int),L⟩,⟨p9,0,x1*(y2:Int),L+M⟩,⟨d1,o1,(y2:Int),M⟩,⟨bx,0,x1,L⟩,⟨bY,0,y1,M⟩]) :
  wpAny Tryz.prog .any bL Q 0 #[true,true,true,true,true,true,true,true,true,true,true,true,true,true,true,true,true] ⟨#[pp bz 0,pp bx 0,pp bY 0,undef,undef,undef,.pointer none,pp p8 0,pp p8 0,pp p9 0,pp bx 0,pp bx 0,pp bx 0,pp bY 0,pp d1 o1,pp p9 0,pp p16 0,pp bY 0,pp bY 0,pp bY 0,pp bx 0,pp d2 o2,pp p16 0,pp p8 0,undef,undef,undef,undef,undef,undef,undef,undef,undef],[]⟩ w:=by
 have hL:=h.hL;unfold pp;refine wpAny_done (by kernel_rfl) ?_ _;exact h.hQ d1 o1 d2 o2 p8 p9 p16 w m
theorem qw (h:fm bz bx bY x1 y1 x2 y2 L M w0 Q)  (d1 o1 d2 o2 p8 p9 p16:Nat) (w:World) (m:aT w0 w [] [⟨p8,0,x1*(y2:Int)+y1*(x2:Int),max (L+M) (M+L)+1⟩,⟨p16,0,y1*(x2:Int),M+L⟩,⟨d2,o2,(x2:Int),L⟩,⟨p9,0,x1*(y2:Int),L+M⟩,⟨d1,o1,(y2:Int),M⟩,⟨bx,0,x1,L⟩,⟨bY,0,y1,M⟩]) :
  wpAny Tryz.prog .any bL Q 1 #[true,true,true,true,true,true,true,true,true,true,true,true,true,true,true,true,false] ⟨#[pp bz 0,pp bx 0,pp bY 0,undef,undef,undef,.pointer none,undef,pp p8 0,pp p9 0,pp bx 0,pp bx 0,pp bx 0,pp bY 0,pp d1 o1,pp p9 0,pp p16 0,pp bY 0,pp bY 0,pp bY 0,pp bx 0,pp d2 o2,pp p16 0,pp p8 0,undef,undef,undef,undef,undef,undef,undef,undef,undef],[]⟩ w:=by
 have hL:=h.hL;unfold pp;refine wpAny_ready (rs:=[16]) (by kernel_rfl) (by simp) ?_;refine AllReady.cons (o:=⟨some 7,.assign (.tmp 23),76, "rat.go:118",#[⟨15,.data⟩,⟨15,.chain⟩,⟨0,.phase⟩,⟨1,.phase⟩,⟨2,.phase⟩,⟨3,.phase⟩,⟨4,.phase⟩,⟨5,.phase⟩,⟨6,.phase⟩,⟨7,.phase⟩,⟨8,.phase⟩,⟨9,.phase⟩,⟨10,.phase⟩,⟨11,.phase⟩,⟨12,.phase⟩,⟨13,.phase⟩,⟨14,.phase⟩,⟨15,.phase⟩],none⟩) rfl (fun K hK=>?_) ?_
 ·go_simp
  refine hK _ _ ?_;exact qx h d1 o1 d2 o2 p8 p9 p16 _ m
 exact AllReady.nil
theorem kW (h:fm bz bx bY x1 y1 x2 y2 L M w0 Q)  (d1 o1 d2 o2 p8 p9 p16:Nat) (w:World) (m:aT w0 w [p8] [⟨p16,0,y1*(x2:Int),M+L⟩,⟨d2,o2,(x2:Int),L⟩,⟨p9,0,x1*(y2:Int),L+M⟩,⟨d1,o1,(y2:Int),M⟩,⟨bx,0,x1,L⟩,⟨bY,0,y1,M⟩]) :
  wpAny Tryz.prog .any bL Q 2 #[true,true,true,true,true,true,true,true,true,true,true,true,true,true,true,false,false] ⟨#[pp bz 0,pp bx 0,pp bY 0,undef,undef,undef,.pointer none,undef,pp p8 0,pp p9 0,pp bx 0,pp bx 0,pp bx 0,pp bY 0,pp d1 o1,pp p9 0,pp p16 0,pp bY 0,pp bY 0,pp bY 0,pp bx 0,pp d2 o2,pp p16 0,undef,undef,undef,undef,undef,undef,undef,undef,undef,undef],[]⟩ w:=by
 have hL:=h.hL;unfold pp;refine wpAny_ready (rs:=[15]) (by kernel_rfl) (by simp) ?_;refine AllReady.cons (o:=⟨some 23,.call ⟨.value (.func 33),#[.tmp 8,.tmp 15,.tmp 22],#[76,76,76]⟩,76, "rat.go:118",#[⟨0,.data⟩,⟨7,.data⟩,⟨14,.data⟩,⟨14,.chain⟩],none⟩) rfl (fun K hK=>?_) ?_
 ·go_simp
  refine (aT.add (A:=[]) (B:=[]) m (x:=x1*(y2:Int)) (y:=y1*(x2:Int)) (L:=L+M) (M:=M+L) (by simp) (by simp) (by omega) (by omega)).mono ?_;rintro e w1 ⟨rfl,m1⟩;go_wp2;exact qw h d1 o1 d2 o2 p8 p9 p16 _ m1
 exact AllReady.nil
theorem tg (h:fm bz bx bY x1 y1 x2 y2 L M w0 Q)  (d1 o1 d2 o2 p9 p16:Nat) (w:World) (m:aT w0 w [] [⟨p16,0,y1*(x2:Int),M+L⟩,⟨d2,o2,(x2:Int),L⟩,⟨p9,0,x1*(y2:Int),L+M⟩,⟨d1,o1,(y2:Int),M⟩,⟨bx,0,x1,L⟩,⟨bY,0,y1,M⟩]) :
  wpAny Tryz.prog .any bL Q 3 #[false,true,true,true,true,true,true,true,true,true,true,true,true,true,true,false,false] ⟨#[pp bz 0,pp bx 0,pp bY 0,undef,undef,undef,.pointer none,undef,undef,pp p9 0,pp bx 0,pp bx 0,pp bx 0,pp bY 0,pp d1 o1,pp p9 0,pp p16 0,pp bY 0,pp bY 0,pp bY 0,pp bx 0,pp d2 o2,pp p16 0,undef,undef,undef,undef,undef,undef,undef,undef,undef,undef],[]⟩ w:=by
 have hL:=h.hL;unfold pp;refine wpAny_ready (rs:=[0]) (by kernel_rfl) (by simp) ?_;refine AllReady.cons (o:=⟨some 8,.alloc 45,76, "rat.go:118",#[],none⟩) rfl (fun K hK=>?_) ?_
 ·go_simp
  refine hK _ _ ?_;exact kW h d1 o1 d2 o2 w.heap.size p9 p16 _ (aT.alloc (A:=[]) (B:=[]) m)
 exact AllReady.nil
theorem iB (h:fm bz bx bY x1 y1 x2 y2 L M w0 Q)  (d1 o1 d2 o2 p8 p9 p16:Nat) (w:World) (m:aT w0 w [p8,p16] [⟨d2,o2,(x2:Int),L⟩,⟨p9,0,x1*(y2:Int),L+M⟩,⟨d1,o1,(y2:Int),M⟩,⟨bx,0,x1,L⟩,⟨bY,0,y1,M⟩]) :
  wpAny Tryz.prog .any bL Q 3 #[true,true,true,true,true,true,true,true,true,true,true,true,true,true,false,false,false] ⟨#[pp bz 0,pp bx 0,pp bY 0,undef,undef,undef,.pointer none,undef,pp p8 0,pp p9 0,pp bx 0,pp bx 0,pp bx 0,pp bY 0,pp d1 o1,pp p9 0,pp p16 0,pp bY 0,pp bY 0,pp bY 0,pp bx 0,pp d2 o2,undef,undef,undef,undef,undef,undef,undef,undef,undef,undef,undef],[]⟩ w:=by
 have hL:=h.hL;unfold pp;refine wpAny_ready (rs:=[14]) (by kernel_rfl) (by simp) ?_;refine AllReady.cons (o:=⟨some 22,.call ⟨.value (.func 34),#[.tmp 16,.tmp 19,.tmp 21],#[76,76,76]⟩,76, "rat.go:118",#[⟨8,.data⟩,⟨11,.data⟩,⟨13,.data⟩,⟨13,.chain⟩],none⟩) rfl (fun K hK=>?_) ?_
 ·go_simp
  refine (aT.mul (A:=[p8]) (B:=[]) m (x:=y1) (y:=(x2:Int)) (L:=M) (M:=L) (by simp) (by simp) (by omega)).mono ?_;rintro e w1 ⟨rfl,m1⟩;go_wp2;exact kW h d1 o1 d2 o2 p8 p9 p16 _ m1
 exact AllReady.nil
theorem np (h:fm bz bx bY x1 y1 x2 y2 L M w0 Q)  (d1 o1 d2 o2 p8 p9:Nat) (w:World) (m:aT w0 w [p8] [⟨d2,o2,(x2:Int),L⟩,⟨p9,0,x1*(y2:Int),L+M⟩,⟨d1,o1,(y2:Int),M⟩,⟨bx,0,x1,L⟩,⟨bY,0,y1,M⟩]) :
  wpAny Tryz.prog .any bL Q 4 #[true,true,true,true,true,true,true,true,false,true,true,true,true,true,false,false,false] ⟨#[pp bz 0,pp bx 0,pp bY 0,undef,undef,undef,.pointer none,undef,pp p8 0,pp p9 0,pp bx 0,pp bx 0,pp bx 0,pp bY 0,pp d1 o1,pp p9 0,undef,pp bY 0,pp bY 0,pp bY 0,pp bx 0,pp d2 o2,undef,undef,undef,undef,undef,undef,undef,undef,undef,undef,undef],[]⟩ w:=by
 have hL:=h.hL;unfold pp;refine wpAny_ready (rs:=[8]) (by kernel_rfl) (by simp) ?_;refine AllReady.cons (o:=⟨some 16,.alloc 45,76, "rat.go:118",#[],none⟩) rfl (fun K hK=>?_) ?_
 ·go_simp
  refine hK _ _ ?_;exact iB h d1 o1 d2 o2 p8 p9 w.heap.size _ (aT.alloc (A:=[p8]) (B:=[]) m)
 exact AllReady.nil
theorem nq (h:fm bz bx bY x1 y1 x2 y2 L M w0 Q)  (d1 o1 d2 o2 p9 p16:Nat) (w:World) (m:aT w0 w [p16] [⟨d2,o2,(x2:Int),L⟩,⟨p9,0,x1*(y2:Int),L+M⟩,⟨d1,o1,(y2:Int),M⟩,⟨bx,0,x1,L⟩,⟨bY,0,y1,M⟩]) :
  wpAny Tryz.prog .any bL Q 4 #[false,true,true,true,true,true,true,true,true,true,true,true,true,true,false,false,false] ⟨#[pp bz 0,pp bx 0,pp bY 0,undef,undef,undef,.pointer none,undef,undef,pp p9 0,pp bx 0,pp bx 0,pp bx 0,pp bY 0,pp d1 o1,pp p9 0,pp p16 0,pp bY 0,pp bY 0,pp bY 0,pp bx 0,pp d2 o2,undef,undef,undef,undef,undef,undef,undef,undef,undef,undef,undef],[]⟩ w:=by
 have hL:=h.hL;unfold pp;refine wpAny_ready (rs:=[0,14]) (by kernel_rfl) (by simp) ?_;refine AllReady.cons (o:=⟨some 8,.alloc 45,76, "rat.go:118",#[],none⟩) rfl (fun K hK=>?_) ?_
 ·go_simp
  refine hK _ _ ?_;exact iB h d1 o1 d2 o2 w.heap.size p9 p16 _ (aT.alloc (A:=[]) (B:=[p16]) m)
 refine AllReady.cons (o:=⟨some 22,.call ⟨.value (.func 34),#[.tmp 16,.tmp 19,.tmp 21],#[76,76,76]⟩,76, "rat.go:118",#[⟨8,.data⟩,⟨11,.data⟩,⟨13,.data⟩,⟨13,.chain⟩],none⟩) rfl (fun K hK=>?_) ?_
 ·go_simp
  refine (aT.mul (A:=[]) (B:=[]) m (x:=y1) (y:=(x2:Int)) (L:=M) (M:=L) (by simp) (by simp) (by omega)).mono ?_;rintro e w1 ⟨rfl,m1⟩;go_wp2;exact tg h d1 o1 d2 o2 p9 p16 _ m1
 exact AllReady.nil
theorem yQ (h:fm bz bx bY x1 y1 x2 y2 L M w0 Q)  (d1 o1 d2 o2 p9:Nat) (w:World) (m:aT w0 w [] [⟨d2,o2,(x2:Int),L⟩,⟨p9,0,x1*(y2:Int),L+M⟩,⟨d1,o1,(y2:Int),M⟩,⟨bx,0,x1,L⟩,⟨bY,0,y1,M⟩]) :
  wpAny Tryz.prog .any bL Q 5 #[false,true,true,true,true,true,true,true,false,true,true,true,true,true,false,false,false] ⟨#[pp bz 0,pp bx 0,pp bY 0,undef,undef,undef,.pointer none,undef,undef,pp p9 0,pp bx 0,pp bx 0,pp bx 0,pp bY 0,pp d1 o1,pp p9 0,undef,pp bY 0,pp bY 0,pp bY 0,pp bx 0,pp d2 o2,undef,undef,undef,undef,undef,undef,undef,undef,undef,undef,undef],[]⟩ w:=by
 have hL:=h.hL;unfold pp;refine wpAny_ready (rs:=[0,8]) (by kernel_rfl) (by simp) ?_;refine AllReady.cons (o:=⟨some 8,.alloc 45,76, "rat.go:118",#[],none⟩) rfl (fun K hK=>?_) ?_
 ·go_simp
  refine hK _ _ ?_;exact np h d1 o1 d2 o2 w.heap.size p9 _ (aT.alloc (A:=[]) (B:=[]) m)
 refine AllReady.cons (o:=⟨some 16,.alloc 45,76, "rat.go:118",#[],none⟩) rfl (fun K hK=>?_) ?_
 ·go_simp
  refine hK _ _ ?_;exact nq h d1 o1 d2 o2 p9 w.heap.size _ (aT.alloc (A:=[]) (B:=[]) m)
 exact AllReady.nil
theorem iA (h:fm bz bx bY x1 y1 x2 y2 L M w0 Q)  (d1 o1 p8 p9 p16:Nat) (w:World) (m:aT w0 w [p8,p16] [⟨p9,0,x1*(y2:Int),L+M⟩,⟨d1,o1,(y2:Int),M⟩,⟨bx,0,x1,L⟩,⟨bY,0,y1,M⟩]) :
  wpAny Tryz.prog .any bL Q 4 #[true,true,true,true,true,true,true,true,true,true,true,true,true,false,false,false,false] ⟨#[pp bz 0,pp bx 0,pp bY 0,undef,undef,undef,.pointer none,undef,pp p8 0,pp p9 0,pp bx 0,pp bx 0,pp bx 0,pp bY 0,pp d1 o1,pp p9 0,pp p16 0,pp bY 0,pp bY 0,pp bY 0,pp bx 0,undef,undef,undef,undef,undef,undef,undef,undef,undef,undef,undef,undef],[]⟩ w:=by
 have hL:=h.hL;unfold pp;refine wpAny_ready (rs:=[13]) (by kernel_rfl) (by simp) ?_;refine AllReady.cons (o:=⟨some 21,.call ⟨.value (.func 35),#[.tmp 20],#[42]⟩,76, "rat.go:118",#[⟨12,.data⟩,⟨7,.chain⟩],none⟩) rfl (fun K hK=>?_) ?_
 ·go_simp
  refine (h.dx _ _ _ m).mono ?_;rintro e w1 ⟨d2,o2,rfl,_,m1⟩;go_wp2;exact iB h d1 o1 d2 o2 p8 p9 p16 _ m1
 exact AllReady.nil
theorem nk (h:fm bz bx bY x1 y1 x2 y2 L M w0 Q)  (d1 o1 p8 p9:Nat) (w:World) (m:aT w0 w [p8] [⟨p9,0,x1*(y2:Int),L+M⟩,⟨d1,o1,(y2:Int),M⟩,⟨bx,0,x1,L⟩,⟨bY,0,y1,M⟩]) :
  wpAny Tryz.prog .any bL Q 5 #[true,true,true,true,true,true,true,true,false,true,true,true,true,false,false,false,false] ⟨#[pp bz 0,pp bx 0,pp bY 0,undef,undef,undef,.pointer none,undef,pp p8 0,pp p9 0,pp bx 0,pp bx 0,pp bx 0,pp bY 0,pp d1 o1,pp p9 0,undef,pp bY 0,pp bY 0,pp bY 0,pp bx 0,undef,undef,undef,undef,undef,undef,undef,undef,undef,undef,undef,undef],[]⟩ w:=by
 have hL:=h.hL;unfold pp;refine wpAny_ready (rs:=[8,13]) (by kernel_rfl) (by simp) ?_;refine AllReady.cons (o:=⟨some 16,.alloc 45,76, "rat.go:118",#[],none⟩) rfl (fun K hK=>?_) ?_
 ·go_simp
  refine hK _ _ ?_;exact iA h d1 o1 p8 p9 w.heap.size _ (aT.alloc (A:=[p8]) (B:=[]) m)
 refine AllReady.cons (o:=⟨some 21,.call ⟨.value (.func 35),#[.tmp 20],#[42]⟩,76, "rat.go:118",#[⟨12,.data⟩,⟨7,.chain⟩],none⟩) rfl (fun K hK=>?_) ?_
 ·go_simp
  refine (h.dx _ _ _ m).mono ?_;rintro e w1 ⟨d2,o2,rfl,_,m1⟩;go_wp2;exact np h d1 o1 d2 o2 p8 p9 _ m1
 exact AllReady.nil
theorem nm (h:fm bz bx bY x1 y1 x2 y2 L M w0 Q)  (d1 o1 p9 p16:Nat) (w:World) (m:aT w0 w [p16] [⟨p9,0,x1*(y2:Int),L+M⟩,⟨d1,o1,(y2:Int),M⟩,⟨bx,0,x1,L⟩,⟨bY,0,y1,M⟩]) :
  wpAny Tryz.prog .any bL Q 5 #[false,true,true,true,true,true,true,true,true,true,true,true,true,false,false,false,false] ⟨#[pp bz 0,pp bx 0,pp bY 0,undef,undef,undef,.pointer none,undef,undef,pp p9 0,pp bx 0,pp bx 0,pp bx 0,pp bY 0,pp d1 o1,pp p9 0,pp p16 0,pp bY 0,pp bY 0,pp bY 0,pp bx 0,undef,undef,undef,undef,undef,undef,undef,undef,undef,undef,undef,undef],[]⟩ w:=by
 have hL:=h.hL;unfold pp;refine wpAny_ready (rs:=[0,13]) (by kernel_rfl) (by simp) ?_;refine AllReady.cons (o:=⟨some 8,.alloc 45,76, "rat.go:118",#[],none⟩) rfl (fun K hK=>?_) ?_
 ·go_simp
  refine hK _ _ ?_;exact iA h d1 o1 w.heap.size p9 p16 _ (aT.alloc (A:=[]) (B:=[p16]) m)
 refine AllReady.cons (o:=⟨some 21,.call ⟨.value (.func 35),#[.tmp 20],#[42]⟩,76, "rat.go:118",#[⟨12,.data⟩,⟨7,.chain⟩],none⟩) rfl (fun K hK=>?_) ?_
 ·go_simp
  refine (h.dx _ _ _ m).mono ?_;rintro e w1 ⟨d2,o2,rfl,_,m1⟩;go_wp2;exact nq h d1 o1 d2 o2 p9 p16 _ m1
 exact AllReady.nil
theorem yP (h:fm bz bx bY x1 y1 x2 y2 L M w0 Q)  (d1 o1 p9:Nat) (w:World) (m:aT w0 w [] [⟨p9,0,x1*(y2:Int),L+M⟩,⟨d1,o1,(y2:Int),M⟩,⟨bx,0,x1,L⟩,⟨bY,0,y1,M⟩]) :
  wpAny Tryz.prog .any bL Q 6 #[false,true,true,true,true,true,true,true,false,true,true,true,true,false,false,false,false] ⟨#[pp bz 0,pp bx 0,pp bY 0,undef,undef,undef,.pointer none,undef,undef,pp p9 0,pp bx 0,pp bx 0,pp bx 0,pp bY 0,pp d1 o1,pp p9 0,undef,pp bY 0,pp bY 0,pp bY 0,pp bx 0,undef,undef,undef,undef,undef,undef,undef,undef,undef,undef,undef,undef],[]⟩ w:=by
 have hL:=h.hL;unfold pp;refine wpAny_ready (rs:=[0,8,13]) (by kernel_rfl) (by simp) ?_;refine AllReady.cons (o:=⟨some 8,.alloc 45,76, "rat.go:118",#[],none⟩) rfl (fun K hK=>?_) ?_
 ·go_simp
  refine hK _ _ ?_;exact nk h d1 o1 w.heap.size p9 _ (aT.alloc (A:=[]) (B:=[]) m)
 refine AllReady.cons (o:=⟨some 16,.alloc 45,76, "rat.go:118",#[],none⟩) rfl (fun K hK=>?_) ?_
 ·go_simp
  refine hK _ _ ?_;exact nm h d1 o1 p9 w.heap.size _ (aT.alloc (A:=[]) (B:=[]) m)
 refine AllReady.cons (o:=⟨some 21,.call ⟨.value (.func 35),#[.tmp 20],#[42]⟩,76, "rat.go:118",#[⟨12,.data⟩,⟨7,.chain⟩],none⟩) rfl (fun K hK=>?_) ?_
 ·go_simp
  refine (h.dx _ _ _ m).mono ?_;rintro e w1 ⟨d2,o2,rfl,_,m1⟩;go_wp2;exact yQ h d1 o1 d2 o2 p9 _ m1
 exact AllReady.nil
theorem fI (h:fm bz bx bY x1 y1 x2 y2 L M w0 Q)  (d1 o1 p8 p9 p16:Nat) (w:World) (m:aT w0 w [p8,p9,p16] [⟨d1,o1,(y2:Int),M⟩,⟨bx,0,x1,L⟩,⟨bY,0,y1,M⟩]) :
  wpAny Tryz.prog .any bL Q 5 #[true,true,true,true,true,true,true,false,true,true,true,true,true,false,false,false,false] ⟨#[pp bz 0,pp bx 0,pp bY 0,undef,undef,undef,.pointer none,undef,pp p8 0,pp p9 0,pp bx 0,pp bx 0,pp bx 0,pp bY 0,pp d1 o1,undef,pp p16 0,pp bY 0,pp bY 0,pp bY 0,pp bx 0,undef,undef,undef,undef,undef,undef,undef,undef,undef,undef,undef,undef],[]⟩ w:=by
 have hL:=h.hL;unfold pp;refine wpAny_ready (rs:=[7]) (by kernel_rfl) (by simp) ?_;refine AllReady.cons (o:=⟨some 15,.call ⟨.value (.func 34),#[.tmp 9,.tmp 12,.tmp 14],#[76,76,76]⟩,76, "rat.go:118",#[⟨1,.data⟩,⟨4,.data⟩,⟨6,.data⟩,⟨6,.chain⟩],none⟩) rfl (fun K hK=>?_) ?_
 ·go_simp
  refine (aT.mul (A:=[p8]) (B:=[p16]) m (x:=x1) (y:=(y2:Int)) (L:=L) (M:=M) (by simp) (by simp) (by omega)).mono ?_;rintro e w1 ⟨rfl,m1⟩;go_wp2;exact iA h d1 o1 p8 p9 p16 _ m1
 exact AllReady.nil
theorem jP (h:fm bz bx bY x1 y1 x2 y2 L M w0 Q)  (d1 o1 p8 p9:Nat) (w:World) (m:aT w0 w [p8,p9] [⟨d1,o1,(y2:Int),M⟩,⟨bx,0,x1,L⟩,⟨bY,0,y1,M⟩]) :
  wpAny Tryz.prog .any bL Q 6 #[true,true,true,true,true,true,true,false,false,true,true,true,true,false,false,false,false] ⟨#[pp bz 0,pp bx 0,pp bY 0,undef,undef,undef,.pointer none,undef,pp p8 0,pp p9 0,pp bx 0,pp bx 0,pp bx 0,pp bY 0,pp d1 o1,undef,undef,pp bY 0,pp bY 0,pp bY 0,pp bx 0,undef,undef,undef,undef,undef,undef,undef,undef,undef,undef,undef,undef],[]⟩ w:=by
 have hL:=h.hL;unfold pp;refine wpAny_ready (rs:=[7,8]) (by kernel_rfl) (by simp) ?_;refine AllReady.cons (o:=⟨some 15,.call ⟨.value (.func 34),#[.tmp 9,.tmp 12,.tmp 14],#[76,76,76]⟩,76, "rat.go:118",#[⟨1,.data⟩,⟨4,.data⟩,⟨6,.data⟩,⟨6,.chain⟩],none⟩) rfl (fun K hK=>?_) ?_
 ·go_simp
  refine (aT.mul (A:=[p8]) (B:=[]) m (x:=x1) (y:=(y2:Int)) (L:=L) (M:=M) (by simp) (by simp) (by omega)).mono ?_;rintro e w1 ⟨rfl,m1⟩;go_wp2;exact nk h d1 o1 p8 p9 _ m1
 refine AllReady.cons (o:=⟨some 16,.alloc 45,76, "rat.go:118",#[],none⟩) rfl (fun K hK=>?_) ?_
 ·go_simp
  refine hK _ _ ?_;exact fI h d1 o1 p8 p9 w.heap.size _ (aT.alloc (A:=[p8,p9]) (B:=[]) m)
 exact AllReady.nil
theorem jQ (h:fm bz bx bY x1 y1 x2 y2 L M w0 Q)  (d1 o1 p8 p16:Nat) (w:World) (m:aT w0 w [p8,p16] [⟨d1,o1,(y2:Int),M⟩,⟨bx,0,x1,L⟩,⟨bY,0,y1,M⟩]) :
  wpAny Tryz.prog .any bL Q 6 #[true,false,true,true,true,true,true,false,true,true,true,true,true,false,false,false,false] ⟨#[pp bz 0,pp bx 0,pp bY 0,undef,undef,undef,.pointer none,undef,pp p8 0,undef,pp bx 0,pp bx 0,pp bx 0,pp bY 0,pp d1 o1,undef,pp p16 0,pp bY 0,pp bY 0,pp bY 0,pp bx 0,undef,undef,undef,undef,undef,undef,undef,undef,undef,undef,undef,undef],[]⟩ w:=by
 have hL:=h.hL;unfold pp;refine wpAny_ready (rs:=[1]) (by kernel_rfl) (by simp) ?_;refine AllReady.cons (o:=⟨some 9,.alloc 45,76, "rat.go:118",#[],none⟩) rfl (fun K hK=>?_) ?_
 ·go_simp
  refine hK _ _ ?_;exact fI h d1 o1 p8 w.heap.size p16 _ (aT.alloc (A:=[p8]) (B:=[p16]) m)
 exact AllReady.nil
theorem jR (h:fm bz bx bY x1 y1 x2 y2 L M w0 Q)  (d1 o1 p9 p16:Nat) (w:World) (m:aT w0 w [p9,p16] [⟨d1,o1,(y2:Int),M⟩,⟨bx,0,x1,L⟩,⟨bY,0,y1,M⟩]) :
  wpAny Tryz.prog .any bL Q 6 #[false,true,true,true,true,true,true,false,true,true,true,true,true,false,false,false,false] ⟨#[pp bz 0,pp bx 0,pp bY 0,undef,undef,undef,.pointer none,undef,undef,pp p9 0,pp bx 0,pp bx 0,pp bx 0,pp bY 0,pp d1 o1,undef,pp p16 0,pp bY 0,pp bY 0,pp bY 0,pp bx 0,undef,undef,undef,undef,undef,undef,undef,undef,undef,undef,undef,undef],[]⟩ w:=by
 have hL:=h.hL;unfold pp;refine wpAny_ready (rs:=[0,7]) (by kernel_rfl) (by simp) ?_;refine AllReady.cons (o:=⟨some 8,.alloc 45,76, "rat.go:118",#[],none⟩) rfl (fun K hK=>?_) ?_
 ·go_simp
  refine hK _ _ ?_;exact fI h d1 o1 w.heap.size p9 p16 _ (aT.alloc (A:=[]) (B:=[p9,p16]) m)
 refine AllReady.cons (o:=⟨some 15,.call ⟨.value (.func 34),#[.tmp 9,.tmp 12,.tmp 14],#[76,76,76]⟩,76, "rat.go:118",#[⟨1,.data⟩,⟨4,.data⟩,⟨6,.data⟩,⟨6,.chain⟩],none⟩) rfl (fun K hK=>?_) ?_
 ·go_simp
  refine (aT.mul (A:=[]) (B:=[p16]) m (x:=x1) (y:=(y2:Int)) (L:=L) (M:=M) (by simp) (by simp) (by omega)).mono ?_;rintro e w1 ⟨rfl,m1⟩;go_wp2;exact nm h d1 o1 p9 p16 _ m1
 exact AllReady.nil
theorem qN (h:fm bz bx bY x1 y1 x2 y2 L M w0 Q)  (d1 o1 p8:Nat) (w:World) (m:aT w0 w [p8] [⟨d1,o1,(y2:Int),M⟩,⟨bx,0,x1,L⟩,⟨bY,0,y1,M⟩]) :
  wpAny Tryz.prog .any bL Q 7 #[true,false,true,true,true,true,true,false,false,true,true,true,true,false,false,false,false] ⟨#[pp bz 0,pp bx 0,pp bY 0,undef,undef,undef,.pointer none,undef,pp p8 0,undef,pp bx 0,pp bx 0,pp bx 0,pp bY 0,pp d1 o1,undef,undef,pp bY 0,pp bY 0,pp bY 0,pp bx 0,undef,undef,undef,undef,undef,undef,undef,undef,undef,undef,undef,undef],[]⟩ w:=by
 have hL:=h.hL;unfold pp;refine wpAny_ready (rs:=[1,8]) (by kernel_rfl) (by simp) ?_;refine AllReady.cons (o:=⟨some 9,.alloc 45,76, "rat.go:118",#[],none⟩) rfl (fun K hK=>?_) ?_
 ·go_simp
  refine hK _ _ ?_;exact jP h d1 o1 p8 w.heap.size _ (aT.alloc (A:=[p8]) (B:=[]) m)
 refine AllReady.cons (o:=⟨some 16,.alloc 45,76, "rat.go:118",#[],none⟩) rfl (fun K hK=>?_) ?_
 ·go_simp
  refine hK _ _ ?_;exact jQ h d1 o1 p8 w.heap.size _ (aT.alloc (A:=[p8]) (B:=[]) m)
 exact AllReady.nil
theorem qO (h:fm bz bx bY x1 y1 x2 y2 L M w0 Q)  (d1 o1 p9:Nat) (w:World) (m:aT w0 w [p9] [⟨d1,o1,(y2:Int),M⟩,⟨bx,0,x1,L⟩,⟨bY,0,y1,M⟩]) :
  wpAny Tryz.prog .any bL Q 7 #[false,true,true,true,true,true,true,false,false,true,true,true,true,false,false,false,false] ⟨#[pp bz 0,pp bx 0,pp bY 0,undef,undef,undef,.pointer none,undef,undef,pp p9 0,pp bx 0,pp bx 0,pp bx 0,pp bY 0,pp d1 o1,undef,undef,pp bY 0,pp bY 0,pp bY 0,pp bx 0,undef,undef,undef,undef,undef,undef,undef,undef,undef,undef,undef,undef],[]⟩ w:=by
 have hL:=h.hL;unfold pp;refine wpAny_ready (rs:=[0,7,8]) (by kernel_rfl) (by simp) ?_;refine AllReady.cons (o:=⟨some 8,.alloc 45,76, "rat.go:118",#[],none⟩) rfl (fun K hK=>?_) ?_
 ·go_simp
  refine hK _ _ ?_;exact jP h d1 o1 w.heap.size p9 _ (aT.alloc (A:=[]) (B:=[p9]) m)
 refine AllReady.cons (o:=⟨some 15,.call ⟨.value (.func 34),#[.tmp 9,.tmp 12,.tmp 14],#[76,76,76]⟩,76, "rat.go:118",#[⟨1,.data⟩,⟨4,.data⟩,⟨6,.data⟩,⟨6,.chain⟩],none⟩) rfl (fun K hK=>?_) ?_
 ·go_simp
  refine (aT.mul (A:=[]) (B:=[]) m (x:=x1) (y:=(y2:Int)) (L:=L) (M:=M) (by simp) (by simp) (by omega)).mono ?_;rintro e w1 ⟨rfl,m1⟩;go_wp2;exact yP h d1 o1 p9 _ m1
 refine AllReady.cons (o:=⟨some 16,.alloc 45,76, "rat.go:118",#[],none⟩) rfl (fun K hK=>?_) ?_
 ·go_simp
  refine hK _ _ ?_;exact jR h d1 o1 p9 w.heap.size _ (aT.alloc (A:=[p9]) (B:=[]) m)
 exact AllReady.nil
theorem qP (h:fm bz bx bY x1 y1 x2 y2 L M w0 Q)  (d1 o1 p16:Nat) (w:World) (m:aT w0 w [p16] [⟨d1,o1,(y2:Int),M⟩,⟨bx,0,x1,L⟩,⟨bY,0,y1,M⟩]) :
  wpAny Tryz.prog .any bL Q 7 #[false,false,true,true,true,true,true,false,true,true,true,true,true,false,false,false,false] ⟨#[pp bz 0,pp bx 0,pp bY 0,undef,undef,undef,.pointer none,undef,undef,undef,pp bx 0,pp bx 0,pp bx 0,pp bY 0,pp d1 o1,undef,pp p16 0,pp bY 0,pp bY 0,pp bY 0,pp bx 0,undef,undef,undef,undef,undef,undef,undef,undef,undef,undef,undef,undef],[]⟩ w:=by
 have hL:=h.hL;unfold pp;refine wpAny_ready (rs:=[0,1]) (by kernel_rfl) (by simp) ?_;refine AllReady.cons (o:=⟨some 8,.alloc 45,76, "rat.go:118",#[],none⟩) rfl (fun K hK=>?_) ?_
 ·go_simp
  refine hK _ _ ?_;exact jQ h d1 o1 w.heap.size p16 _ (aT.alloc (A:=[]) (B:=[p16]) m)
 refine AllReady.cons (o:=⟨some 9,.alloc 45,76, "rat.go:118",#[],none⟩) rfl (fun K hK=>?_) ?_
 ·go_simp
  refine hK _ _ ?_;exact jR h d1 o1 w.heap.size p16 _ (aT.alloc (A:=[]) (B:=[p16]) m)
 exact AllReady.nil
theorem addT_1_ (h:fm bz bx bY x1 y1 x2 y2 L M w0 Q)  (d1 o1:Nat) (w:World) (m:aT w0 w [] [⟨d1,o1,(y2:Int),M⟩,⟨bx,0,x1,L⟩,⟨bY,0,y1,M⟩]) :
  wpAny Tryz.prog .any bL Q 8 #[false,false,true,true,true,true,true,false,false,true,true,true,true,false,false,false,false] ⟨#[pp bz 0,pp bx 0,pp bY 0,undef,undef,undef,.pointer none,undef,undef,undef,pp bx 0,pp bx 0,pp bx 0,pp bY 0,pp d1 o1,undef,undef,pp bY 0,pp bY 0,pp bY 0,pp bx 0,undef,undef,undef,undef,undef,undef,undef,undef,undef,undef,undef,undef],[]⟩ w:=by
 have hL:=h.hL;unfold pp;refine wpAny_ready (rs:=[0,1,8]) (by kernel_rfl) (by simp) ?_;refine AllReady.cons (o:=⟨some 8,.alloc 45,76, "rat.go:118",#[],none⟩) rfl (fun K hK=>?_) ?_
 ·go_simp
  refine hK _ _ ?_;exact qN h d1 o1 w.heap.size _ (aT.alloc (A:=[]) (B:=[]) m)
 refine AllReady.cons (o:=⟨some 9,.alloc 45,76, "rat.go:118",#[],none⟩) rfl (fun K hK=>?_) ?_
 ·go_simp
  refine hK _ _ ?_;exact qO h d1 o1 w.heap.size _ (aT.alloc (A:=[]) (B:=[]) m)
 refine AllReady.cons (o:=⟨some 16,.alloc 45,76, "rat.go:118",#[],none⟩) rfl (fun K hK=>?_) ?_
 ·go_simp
  refine hK _ _ ?_;exact qP h d1 o1 w.heap.size _ (aT.alloc (A:=[]) (B:=[]) m)
 exact AllReady.nil
theorem iz (h:fm bz bx bY x1 y1 x2 y2 L M w0 Q)  (p8 p9 p16:Nat) (w:World) (m:aT w0 w [p8,p9,p16] [⟨bx,0,x1,L⟩,⟨bY,0,y1,M⟩]) :
  wpAny Tryz.prog .any bL Q 6 #[true,true,true,true,true,true,false,false,true,true,true,true,true,false,false,false,false] ⟨#[pp bz 0,pp bx 0,pp bY 0,undef,undef,undef,.pointer none,undef,pp p8 0,pp p9 0,pp bx 0,pp bx 0,pp bx 0,pp bY 0,undef,undef,pp p16 0,pp bY 0,pp bY 0,pp bY 0,pp bx 0,undef,undef,undef,undef,undef,undef,undef,undef,undef,undef,undef,undef],[]⟩ w:=by
 have hL:=h.hL;unfold pp;refine wpAny_ready (rs:=[6]) (by kernel_rfl) (by simp) ?_;refine AllReady.cons (o:=⟨some 14,.call ⟨.value (.func 35),#[.tmp 13],#[42]⟩,76, "rat.go:118",#[⟨5,.data⟩],none⟩) rfl (fun K hK=>?_) ?_
 ·go_simp
  refine (h.dy _ _ _ m).mono ?_;rintro e w1 ⟨d1,o1,rfl,_,m1⟩;go_wp2;exact fI h d1 o1 p8 p9 p16 _ m1
 exact AllReady.nil
theorem nh (h:fm bz bx bY x1 y1 x2 y2 L M w0 Q)  (p8 p9:Nat) (w:World) (m:aT w0 w [p8,p9] [⟨bx,0,x1,L⟩,⟨bY,0,y1,M⟩]) :
  wpAny Tryz.prog .any bL Q 7 #[true,true,true,true,true,true,false,false,false,true,true,true,true,false,false,false,false] ⟨#[pp bz 0,pp bx 0,pp bY 0,undef,undef,undef,.pointer none,undef,pp p8 0,pp p9 0,pp bx 0,pp bx 0,pp bx 0,pp bY 0,undef,undef,undef,pp bY 0,pp bY 0,pp bY 0,pp bx 0,undef,undef,undef,undef,undef,undef,undef,undef,undef,undef,undef,undef],[]⟩ w:=by
 have hL:=h.hL;unfold pp;refine wpAny_ready (rs:=[6,8]) (by kernel_rfl) (by simp) ?_;refine AllReady.cons (o:=⟨some 14,.call ⟨.value (.func 35),#[.tmp 13],#[42]⟩,76, "rat.go:118",#[⟨5,.data⟩],none⟩) rfl (fun K hK=>?_) ?_
 ·go_simp
  refine (h.dy _ _ _ m).mono ?_;rintro e w1 ⟨d1,o1,rfl,_,m1⟩;go_wp2;exact jP h d1 o1 p8 p9 _ m1
 refine AllReady.cons (o:=⟨some 16,.alloc 45,76, "rat.go:118",#[],none⟩) rfl (fun K hK=>?_) ?_
 ·go_simp
  refine hK _ _ ?_;exact iz h p8 p9 w.heap.size _ (aT.alloc (A:=[p8,p9]) (B:=[]) m)
 exact AllReady.nil
theorem ni (h:fm bz bx bY x1 y1 x2 y2 L M w0 Q)  (p8 p16:Nat) (w:World) (m:aT w0 w [p8,p16] [⟨bx,0,x1,L⟩,⟨bY,0,y1,M⟩]) :
  wpAny Tryz.prog .any bL Q 7 #[true,false,true,true,true,true,false,false,true,true,true,true,true,false,false,false,false] ⟨#[pp bz 0,pp bx 0,pp bY 0,undef,undef,undef,.pointer none,undef,pp p8 0,undef,pp bx 0,pp bx 0,pp bx 0,pp bY 0,undef,undef,pp p16 0,pp bY 0,pp bY 0,pp bY 0,pp bx 0,undef,undef,undef,undef,undef,undef,undef,undef,undef,undef,undef,undef],[]⟩ w:=by
 have hL:=h.hL;unfold pp;refine wpAny_ready (rs:=[1,6]) (by kernel_rfl) (by simp) ?_;refine AllReady.cons (o:=⟨some 9,.alloc 45,76, "rat.go:118",#[],none⟩) rfl (fun K hK=>?_) ?_
 ·go_simp
  refine hK _ _ ?_;exact iz h p8 w.heap.size p16 _ (aT.alloc (A:=[p8]) (B:=[p16]) m)
 refine AllReady.cons (o:=⟨some 14,.call ⟨.value (.func 35),#[.tmp 13],#[42]⟩,76, "rat.go:118",#[⟨5,.data⟩],none⟩) rfl (fun K hK=>?_) ?_
 ·go_simp
  refine (h.dy _ _ _ m).mono ?_;rintro e w1 ⟨d1,o1,rfl,_,m1⟩;go_wp2;exact jQ h d1 o1 p8 p16 _ m1
 exact AllReady.nil
theorem nj (h:fm bz bx bY x1 y1 x2 y2 L M w0 Q)  (p9 p16:Nat) (w:World) (m:aT w0 w [p9,p16] [⟨bx,0,x1,L⟩,⟨bY,0,y1,M⟩]) :
  wpAny Tryz.prog .any bL Q 7 #[false,true,true,true,true,true,false,false,true,true,true,true,true,false,false,false,false] ⟨#[pp bz 0,pp bx 0,pp bY 0,undef,undef,undef,.pointer none,undef,undef,pp p9 0,pp bx 0,pp bx 0,pp bx 0,pp bY 0,undef,undef,pp p16 0,pp bY 0,pp bY 0,pp bY 0,pp bx 0,undef,undef,undef,undef,undef,undef,undef,undef,undef,undef,undef,undef],[]⟩ w:=by
 have hL:=h.hL;unfold pp;refine wpAny_ready (rs:=[0,6]) (by kernel_rfl) (by simp) ?_;refine AllReady.cons (o:=⟨some 8,.alloc 45,76, "rat.go:118",#[],none⟩) rfl (fun K hK=>?_) ?_
 ·go_simp
  refine hK _ _ ?_;exact iz h w.heap.size p9 p16 _ (aT.alloc (A:=[]) (B:=[p9,p16]) m)
 refine AllReady.cons (o:=⟨some 14,.call ⟨.value (.func 35),#[.tmp 13],#[42]⟩,76, "rat.go:118",#[⟨5,.data⟩],none⟩) rfl (fun K hK=>?_) ?_
 ·go_simp
  refine (h.dy _ _ _ m).mono ?_;rintro e w1 ⟨d1,o1,rfl,_,m1⟩;go_wp2;exact jR h d1 o1 p9 p16 _ m1
 exact AllReady.nil
theorem yM (h:fm bz bx bY x1 y1 x2 y2 L M w0 Q)  (p8:Nat) (w:World) (m:aT w0 w [p8] [⟨bx,0,x1,L⟩,⟨bY,0,y1,M⟩]) :
  wpAny Tryz.prog .any bL Q 8 #[true,false,true,true,true,true,false,false,false,true,true,true,true,false,false,false,false] ⟨#[pp bz 0,pp bx 0,pp bY 0,undef,undef,undef,.pointer none,undef,pp p8 0,undef,pp bx 0,pp bx 0,pp bx 0,pp bY 0,undef,undef,undef,pp bY 0,pp bY 0,pp bY 0,pp bx 0,undef,undef,undef,undef,undef,undef,undef,undef,undef,undef,undef,undef],[]⟩ w:=by
 have hL:=h.hL;unfold pp;refine wpAny_ready (rs:=[1,6,8]) (by kernel_rfl) (by simp) ?_;refine AllReady.cons (o:=⟨some 9,.alloc 45,76, "rat.go:118",#[],none⟩) rfl (fun K hK=>?_) ?_
 ·go_simp
  refine hK _ _ ?_;exact nh h p8 w.heap.size _ (aT.alloc (A:=[p8]) (B:=[]) m)
 refine AllReady.cons (o:=⟨some 14,.call ⟨.value (.func 35),#[.tmp 13],#[42]⟩,76, "rat.go:118",#[⟨5,.data⟩],none⟩) rfl (fun K hK=>?_) ?_
 ·go_simp
  refine (h.dy _ _ _ m).mono ?_;rintro e w1 ⟨d1,o1,rfl,_,m1⟩;go_wp2;exact qN h d1 o1 p8 _ m1
 refine AllReady.cons (o:=⟨some 16,.alloc 45,76, "rat.go:118",#[],none⟩) rfl (fun K hK=>?_) ?_
 ·go_simp
  refine hK _ _ ?_;exact ni h p8 w.heap.size _ (aT.alloc (A:=[p8]) (B:=[]) m)
 exact AllReady.nil
theorem yN (h:fm bz bx bY x1 y1 x2 y2 L M w0 Q)  (p9:Nat) (w:World) (m:aT w0 w [p9] [⟨bx,0,x1,L⟩,⟨bY,0,y1,M⟩]) :
  wpAny Tryz.prog .any bL Q 8 #[false,true,true,true,true,true,false,false,false,true,true,true,true,false,false,false,false] ⟨#[pp bz 0,pp bx 0,pp bY 0,undef,undef,undef,.pointer none,undef,undef,pp p9 0,pp bx 0,pp bx 0,pp bx 0,pp bY 0,undef,undef,undef,pp bY 0,pp bY 0,pp bY 0,pp bx 0,undef,undef,undef,undef,undef,undef,undef,undef,undef,undef,undef,undef],[]⟩ w:=by
 have hL:=h.hL;unfold pp;refine wpAny_ready (rs:=[0,6,8]) (by kernel_rfl) (by simp) ?_;refine AllReady.cons (o:=⟨some 8,.alloc 45,76, "rat.go:118",#[],none⟩) rfl (fun K hK=>?_) ?_
 ·go_simp
  refine hK _ _ ?_;exact nh h w.heap.size p9 _ (aT.alloc (A:=[]) (B:=[p9]) m)
 refine AllReady.cons (o:=⟨some 14,.call ⟨.value (.func 35),#[.tmp 13],#[42]⟩,76, "rat.go:118",#[⟨5,.data⟩],none⟩) rfl (fun K hK=>?_) ?_
 ·go_simp
  refine (h.dy _ _ _ m).mono ?_;rintro e w1 ⟨d1,o1,rfl,_,m1⟩;go_wp2;exact qO h d1 o1 p9 _ m1
 refine AllReady.cons (o:=⟨some 16,.alloc 45,76, "rat.go:118",#[],none⟩) rfl (fun K hK=>?_) ?_
 ·go_simp
  refine hK _ _ ?_;exact nj h p9 w.heap.size _ (aT.alloc (A:=[p9]) (B:=[]) m)
 exact AllReady.nil
theorem yO (h:fm bz bx bY x1 y1 x2 y2 L M w0 Q)  (p16:Nat) (w:World) (m:aT w0 w [p16] [⟨bx,0,x1,L⟩,⟨bY,0,y1,M⟩]) :
  wpAny Tryz.prog .any bL Q 8 #[false,false,true,true,true,true,false,false,true,true,true,true,true,false,false,false,false] ⟨#[pp bz 0,pp bx 0,pp bY 0,undef,undef,undef,.pointer none,undef,undef,undef,pp bx 0,pp bx 0,pp bx 0,pp bY 0,undef,undef,pp p16 0,pp bY 0,pp bY 0,pp bY 0,pp bx 0,undef,undef,undef,undef,undef,undef,undef,undef,undef,undef,undef,undef],[]⟩ w:=by
 have hL:=h.hL;unfold pp;refine wpAny_ready (rs:=[0,1,6]) (by kernel_rfl) (by simp) ?_;refine AllReady.cons (o:=⟨some 8,.alloc 45,76, "rat.go:118",#[],none⟩) rfl (fun K hK=>?_) ?_
 ·go_simp
  refine hK _ _ ?_;exact ni h w.heap.size p16 _ (aT.alloc (A:=[]) (B:=[p16]) m)
 refine AllReady.cons (o:=⟨some 9,.alloc 45,76, "rat.go:118",#[],none⟩) rfl (fun K hK=>?_) ?_
 ·go_simp
  refine hK _ _ ?_;exact nj h w.heap.size p16 _ (aT.alloc (A:=[]) (B:=[p16]) m)
 refine AllReady.cons (o:=⟨some 14,.call ⟨.value (.func 35),#[.tmp 13],#[42]⟩,76, "rat.go:118",#[⟨5,.data⟩],none⟩) rfl (fun K hK=>?_) ?_
 ·go_simp
  refine (h.dy _ _ _ m).mono ?_;rintro e w1 ⟨d1,o1,rfl,_,m1⟩;go_wp2;exact qP h d1 o1 p16 _ m1
 exact AllReady.nil
theorem addT_0_ (h:fm bz bx bY x1 y1 x2 y2 L M w0 Q)  (w:World) (m:aT w0 w [] [⟨bx,0,x1,L⟩,⟨bY,0,y1,M⟩]) :
  wpAny Tryz.prog .any bL Q 9 #[false,false,true,true,true,true,false,false,false,true,true,true,true,false,false,false,false] ⟨#[pp bz 0,pp bx 0,pp bY 0,undef,undef,undef,.pointer none,undef,undef,undef,pp bx 0,pp bx 0,pp bx 0,pp bY 0,undef,undef,undef,pp bY 0,pp bY 0,pp bY 0,pp bx 0,undef,undef,undef,undef,undef,undef,undef,undef,undef,undef,undef,undef],[]⟩ w:=by
 have hL:=h.hL;unfold pp;refine wpAny_ready (rs:=[0,1,6,8]) (by kernel_rfl) (by simp) ?_;refine AllReady.cons (o:=⟨some 8,.alloc 45,76, "rat.go:118",#[],none⟩) rfl (fun K hK=>?_) ?_
 ·go_simp
  refine hK _ _ ?_;exact yM h w.heap.size _ (aT.alloc (A:=[]) (B:=[]) m)
 refine AllReady.cons (o:=⟨some 9,.alloc 45,76, "rat.go:118",#[],none⟩) rfl (fun K hK=>?_) ?_
 ·go_simp
  refine hK _ _ ?_;exact yN h w.heap.size _ (aT.alloc (A:=[]) (B:=[]) m)
 refine AllReady.cons (o:=⟨some 14,.call ⟨.value (.func 35),#[.tmp 13],#[42]⟩,76, "rat.go:118",#[⟨5,.data⟩],none⟩) rfl (fun K hK=>?_) ?_
 ·go_simp
  refine (h.dy _ _ _ m).mono ?_;rintro e w1 ⟨d1,o1,rfl,_,m1⟩;go_wp2;exact addT_1_ h d1 o1 _ m1
 refine AllReady.cons (o:=⟨some 16,.alloc 45,76, "rat.go:118",#[],none⟩) rfl (fun K hK=>?_) ?_
 ·go_simp
  refine hK _ _ ?_;exact yO h w.heap.size _ (aT.alloc (A:=[]) (B:=[]) m)
 exact AllReady.nil
end
end Go.Proofs.YthblidglcppakaaGreatDoor
