/- Contracts that the proof leans on. -/
import Derived.Test.YtkhgaelnglndiaaGreatDoorXCBe
import Derived.Test.YtkhgaelnglndiaaGreatDoorXNormN
namespace Go.Proofs.YtkhgaelnglndiaaGreatDoor
open Go.RowKit
set_option linter.unusedVariables false
set_option linter.unusedSimpArgs false
set_option maxHeartbeats 8000000
set_option maxRecDepth 10000
def quoOps:Array Oper:=#[⟨some 7,.move (.tmp 0),37, "rat.go:135",#[],none⟩,
 ⟨some 8,.alloc 51,84, "rat.go:135",#[],none⟩,
 ⟨some 9,.move (.tmp 1),37, "rat.go:135",#[],none⟩,
 ⟨some 10,.nilCheck (.tmp 9),0, "rat.go:135",#[⟨2,.data⟩],none⟩,
 ⟨some 11,.fieldAddr 53 (.tmp 10) 0,0, "rat.go:135",#[⟨3,.data⟩],none⟩,
 ⟨some 12,.move (.tmp 2),37, "rat.go:135",#[],none⟩,
 ⟨some 13,.call ⟨.value (.func 44),#[.tmp 12],#[37]⟩,84, "rat.go:135",#[⟨5,.data⟩],none⟩,
 ⟨some 14,.call ⟨.value (.func 43),#[.tmp 8,.tmp 11,.tmp 13],#[84,84,84]⟩,84, "rat.go:135",#[⟨1,.data⟩,⟨4,.data⟩,⟨6,.data⟩,⟨6,.chain⟩],none⟩,
 ⟨some 15,.alloc 51,84, "rat.go:135",#[],none⟩,
 ⟨some 16,.move (.tmp 1),37, "rat.go:135",#[],none⟩,
 ⟨some 17,.call ⟨.value (.func 44),#[.tmp 16],#[37]⟩,84, "rat.go:135",#[⟨9,.data⟩,⟨7,.chain⟩],none⟩,
 ⟨some 18,.move (.tmp 2),37, "rat.go:135",#[],none⟩,
 ⟨some 19,.nilCheck (.tmp 18),0, "rat.go:135",#[⟨11,.data⟩],none⟩,
 ⟨some 20,.fieldAddr 53 (.tmp 19) 0,0, "rat.go:135",#[⟨12,.data⟩],none⟩,
 ⟨some 21,.call ⟨.value (.func 43),#[.tmp 15,.tmp 17,.tmp 20],#[84,84,84]⟩,84, "rat.go:135",#[⟨8,.data⟩,⟨10,.data⟩,⟨13,.data⟩,⟨10,.chain⟩],none⟩,
 ⟨some 22,.call ⟨.value (.func 40),#[.tmp 7,.tmp 14,.tmp 21],#[37,84,84]⟩,37, "rat.go:135",#[⟨0,.data⟩,⟨7,.data⟩,⟨14,.data⟩,⟨14,.chain⟩],none⟩,
 ⟨some 6,.assign (.tmp 22),37, "rat.go:135",#[⟨15,.data⟩,⟨15,.chain⟩,⟨0,.phase⟩,⟨1,.phase⟩,⟨2,.phase⟩,⟨3,.phase⟩,⟨4,.phase⟩,⟨5,.phase⟩,⟨6,.phase⟩,⟨7,.phase⟩,⟨8,.phase⟩,⟨9,.phase⟩,⟨10,.phase⟩,⟨11,.phase⟩,⟨12,.phase⟩,⟨13,.phase⟩,⟨14,.phase⟩,⟨15,.phase⟩],none⟩]
structure quoH (bz bx bY:Nat) (n1 n2:Bool) (v1 v2:Value) (x1 y1:Int) (x2 y2 L M:Nat) (w0:World) (Q:Exit->Act->World->Prop):Prop where
 hz1:Box w0 bz 0 n1 v1
 hz2:Box w0 bz 2 n2 v2
 dx:DenC w0 bx x2 L
 dy:DenC w0 bY y2 M
 hne:(x2:Int)*y1≠0
 hL:L+M<=390000000
 hQ:∀ (d1 o1 d2 o2 p8 p16:Nat) (w:World),RPut w0 w bz/\RatAt w bz (low1 (upS (x1*(y2:Int)) ((x2:Int)*y1)) ((x2:Int)*y1).natAbs) (low2 (upS (x1*(y2:Int)) ((x2:Int)*y1)) ((x2:Int)*y1).natAbs) (L+M+2)->Q .normal ⟨#[pp bz 0,pp bx 0,pp bY 0,undef,undef,undef,pp bz 0,pp bz 0,pp p8 0,pp bx 0,pp bx 0,pp bx 0,pp bY 0,pp d1 o1,pp p8 0,pp p16 0,pp bx 0,pp d2 o2,pp bY 0,pp bY 0,pp bY 0,pp p16 0,pp bz 0],[]⟩ w
section
variable {bz bx bY:Nat} {n1 n2:Bool} {v1 v2:Value} {x1 y1:Int} {x2 y2 L M:Nat} {w0:World} {Q:Exit->Act->World->Prop}
theorem quoT_6_1_8_ (h:quoH bz bx bY n1 n2 v1 v2 x1 y1 x2 y2 L M w0 Q)  (d1 o1 d2 o2 p8 p16:Nat) (w:World) (m:RPut w0 w bz/\RatAt w bz (low1 (upS (x1*(y2:Int)) ((x2:Int)*y1)) ((x2:Int)*y1).natAbs) (low2 (upS (x1*(y2:Int)) ((x2:Int)*y1)) ((x2:Int)*y1).natAbs) (L+M+2)) :
  wpAny Tryz.prog .any quoOps Q 0 #[true,true,true,true,true,true,true,true,true,true,true,true,true,true,true,true,true] ⟨#[pp bz 0,pp bx 0,pp bY 0,undef,undef,undef,pp bz 0,pp bz 0,pp p8 0,pp bx 0,pp bx 0,pp bx 0,pp bY 0,pp d1 o1,pp p8 0,pp p16 0,pp bx 0,pp d2 o2,pp bY 0,pp bY 0,pp bY 0,pp p16 0,pp bz 0],[]⟩ w:=by
 have hL:=h.hL;unfold pp;refine wpAny_done (by kernel_rfl) ?_ _;exact h.hQ d1 o1 d2 o2 p8 p16 w m
theorem quoT_5_1_8_ (h:quoH bz bx bY n1 n2 v1 v2 x1 y1 x2 y2 L M w0 Q)  (d1 o1 d2 o2 p8 p16:Nat) (w:World) (m:RPut w0 w bz/\RatAt w bz (low1 (upS (x1*(y2:Int)) ((x2:Int)*y1)) ((x2:Int)*y1).natAbs) (low2 (upS (x1*(y2:Int)) ((x2:Int)*y1)) ((x2:Int)*y1).natAbs) (L+M+2)) :
  wpAny Tryz.prog .any quoOps Q 1 #[true,true,true,true,true,true,true,true,true,true,true,true,true,true,true,true,false] ⟨#[pp bz 0,pp bx 0,pp bY 0,undef,undef,undef,.pointer none,pp bz 0,pp p8 0,pp bx 0,pp bx 0,pp bx 0,pp bY 0,pp d1 o1,pp p8 0,pp p16 0,pp bx 0,pp d2 o2,pp bY 0,pp bY 0,pp bY 0,pp p16 0,pp bz 0],[]⟩ w:=by
 have hL:=h.hL;unfold pp;refine wpAny_ready (rs:=[16]) (by kernel_rfl) (by simp) ?_;refine AllReady.cons (o:=⟨some 6,.assign (.tmp 22),37, "rat.go:135",#[⟨15,.data⟩,⟨15,.chain⟩,⟨0,.phase⟩,⟨1,.phase⟩,⟨2,.phase⟩,⟨3,.phase⟩,⟨4,.phase⟩,⟨5,.phase⟩,⟨6,.phase⟩,⟨7,.phase⟩,⟨8,.phase⟩,⟨9,.phase⟩,⟨10,.phase⟩,⟨11,.phase⟩,⟨12,.phase⟩,⟨13,.phase⟩,⟨14,.phase⟩,⟨15,.phase⟩],none⟩) rfl (fun K hK=>?_) ?_
 ·go_simp
  refine hK _ _ ?_;exact quoT_6_1_8_ h d1 o1 d2 o2 p8 p16 _ m
 exact AllReady.nil
theorem quoT_4_1_8_ (h:quoH bz bx bY n1 n2 v1 v2 x1 y1 x2 y2 L M w0 Q)  (d1 o1 d2 o2 p8 p16:Nat) (w:World) (m:Mem w0 w [] [⟨p16,0,(x2:Int)*y1,L+M⟩,⟨d2,o2,(x2:Int),L⟩,⟨p8,0,x1*(y2:Int),L+M⟩,⟨d1,o1,(y2:Int),M⟩,⟨bx,0,x1,L⟩,⟨bY,0,y1,M⟩]) :
  wpAny Tryz.prog .any quoOps Q 2 #[true,true,true,true,true,true,true,true,true,true,true,true,true,true,true,false,false] ⟨#[pp bz 0,pp bx 0,pp bY 0,undef,undef,undef,.pointer none,pp bz 0,pp p8 0,pp bx 0,pp bx 0,pp bx 0,pp bY 0,pp d1 o1,pp p8 0,pp p16 0,pp bx 0,pp d2 o2,pp bY 0,pp bY 0,pp bY 0,pp p16 0,undef],[]⟩ w:=by
 have hL:=h.hL;unfold pp;refine wpAny_ready (rs:=[15]) (by kernel_rfl) (by simp) ?_;refine AllReady.cons (o:=⟨some 22,.call ⟨.value (.func 40),#[.tmp 7,.tmp 14,.tmp 21],#[37,84,84]⟩,37, "rat.go:135",#[⟨0,.data⟩,⟨7,.data⟩,⟨14,.data⟩,⟨14,.chain⟩],none⟩) rfl (fun K hK=>?_) ?_
 ·go_simp
  refine (setFrac_any bz p8 0 p16 0 n1 n2 v1 v2 (x1*(y2:Int)) ((x2:Int)*y1) (L+M) _ (h.hz1.keep0 m.gr) (h.hz2.keep0 m.gr) (m.away (L:=L+M) (by simp)) (m.away (L:=L+M) (by simp)) h.hne (by omega)).mono ?_;rintro e w1 ⟨rfl,k1,k2⟩;have m1:=And.intro ((RPut.of_gr (b:=bz) m.gr).trans k1) k2;go_wp2;exact quoT_5_1_8_ h d1 o1 d2 o2 p8 p16 _ m1
 exact AllReady.nil
theorem quoT_3_1_8_ (h:quoH bz bx bY n1 n2 v1 v2 x1 y1 x2 y2 L M w0 Q)  (d1 o1 d2 o2 p8 p16:Nat) (w:World) (m:Mem w0 w [p16] [⟨d2,o2,(x2:Int),L⟩,⟨p8,0,x1*(y2:Int),L+M⟩,⟨d1,o1,(y2:Int),M⟩,⟨bx,0,x1,L⟩,⟨bY,0,y1,M⟩]) :
  wpAny Tryz.prog .any quoOps Q 3 #[true,true,true,true,true,true,true,true,true,true,true,true,true,true,false,false,false] ⟨#[pp bz 0,pp bx 0,pp bY 0,undef,undef,undef,.pointer none,pp bz 0,pp p8 0,pp bx 0,pp bx 0,pp bx 0,pp bY 0,pp d1 o1,pp p8 0,pp p16 0,pp bx 0,pp d2 o2,pp bY 0,pp bY 0,pp bY 0,undef,undef],[]⟩ w:=by
 have hL:=h.hL;unfold pp;refine wpAny_ready (rs:=[14]) (by kernel_rfl) (by simp) ?_;refine AllReady.cons (o:=⟨some 21,.call ⟨.value (.func 43),#[.tmp 15,.tmp 17,.tmp 20],#[84,84,84]⟩,84, "rat.go:135",#[⟨8,.data⟩,⟨10,.data⟩,⟨13,.data⟩,⟨10,.chain⟩],none⟩) rfl (fun K hK=>?_) ?_
 ·go_simp
  refine (Mem.mul (A:=[]) (B:=[]) m (x:=(x2:Int)) (y:=y1) (L:=L) (M:=M) (by simp) (by simp) (by omega)).mono ?_;rintro e w1 ⟨rfl,m1⟩;go_wp2;exact quoT_4_1_8_ h d1 o1 d2 o2 p8 p16 _ m1
 exact AllReady.nil
theorem quoT_3_1_ (h:quoH bz bx bY n1 n2 v1 v2 x1 y1 x2 y2 L M w0 Q)  (d1 o1 d2 o2 p8:Nat) (w:World) (m:Mem w0 w [] [⟨d2,o2,(x2:Int),L⟩,⟨p8,0,x1*(y2:Int),L+M⟩,⟨d1,o1,(y2:Int),M⟩,⟨bx,0,x1,L⟩,⟨bY,0,y1,M⟩]) :
  wpAny Tryz.prog .any quoOps Q 4 #[true,true,true,true,true,true,true,true,false,true,true,true,true,true,false,false,false] ⟨#[pp bz 0,pp bx 0,pp bY 0,undef,undef,undef,.pointer none,pp bz 0,pp p8 0,pp bx 0,pp bx 0,pp bx 0,pp bY 0,pp d1 o1,pp p8 0,undef,pp bx 0,pp d2 o2,pp bY 0,pp bY 0,pp bY 0,undef,undef],[]⟩ w:=by
 have hL:=h.hL;unfold pp;refine wpAny_ready (rs:=[8]) (by kernel_rfl) (by simp) ?_;refine AllReady.cons (o:=⟨some 15,.alloc 51,84, "rat.go:135",#[],none⟩) rfl (fun K hK=>?_) ?_
 ·go_simp
  refine hK _ _ ?_;exact quoT_3_1_8_ h d1 o1 d2 o2 p8 w.heap.size _ (Mem.alloc (A:=[]) (B:=[]) m)
 exact AllReady.nil
theorem quoT_2_1_8_ (h:quoH bz bx bY n1 n2 v1 v2 x1 y1 x2 y2 L M w0 Q)  (d1 o1 p8 p16:Nat) (w:World) (m:Mem w0 w [p16] [⟨p8,0,x1*(y2:Int),L+M⟩,⟨d1,o1,(y2:Int),M⟩,⟨bx,0,x1,L⟩,⟨bY,0,y1,M⟩]) :
  wpAny Tryz.prog .any quoOps Q 4 #[true,true,true,true,true,true,true,true,true,true,false,true,true,true,false,false,false] ⟨#[pp bz 0,pp bx 0,pp bY 0,undef,undef,undef,.pointer none,pp bz 0,pp p8 0,pp bx 0,pp bx 0,pp bx 0,pp bY 0,pp d1 o1,pp p8 0,pp p16 0,pp bx 0,undef,pp bY 0,pp bY 0,pp bY 0,undef,undef],[]⟩ w:=by
 have hL:=h.hL;unfold pp;refine wpAny_ready (rs:=[10]) (by kernel_rfl) (by simp) ?_;refine AllReady.cons (o:=⟨some 17,.call ⟨.value (.func 44),#[.tmp 16],#[37]⟩,84, "rat.go:135",#[⟨9,.data⟩,⟨7,.chain⟩],none⟩) rfl (fun K hK=>?_) ?_
 ·go_simp
  refine (h.dx _ _ _ m).mono ?_;rintro e w1 ⟨d2,o2,rfl,_,m1⟩;go_wp2;exact quoT_3_1_8_ h d1 o1 d2 o2 p8 p16 _ m1
 exact AllReady.nil
theorem quoT_2_1_ (h:quoH bz bx bY n1 n2 v1 v2 x1 y1 x2 y2 L M w0 Q)  (d1 o1 p8:Nat) (w:World) (m:Mem w0 w [] [⟨p8,0,x1*(y2:Int),L+M⟩,⟨d1,o1,(y2:Int),M⟩,⟨bx,0,x1,L⟩,⟨bY,0,y1,M⟩]) :
  wpAny Tryz.prog .any quoOps Q 5 #[true,true,true,true,true,true,true,true,false,true,false,true,true,true,false,false,false] ⟨#[pp bz 0,pp bx 0,pp bY 0,undef,undef,undef,.pointer none,pp bz 0,pp p8 0,pp bx 0,pp bx 0,pp bx 0,pp bY 0,pp d1 o1,pp p8 0,undef,pp bx 0,undef,pp bY 0,pp bY 0,pp bY 0,undef,undef],[]⟩ w:=by
 have hL:=h.hL;unfold pp;refine wpAny_ready (rs:=[8,10]) (by kernel_rfl) (by simp) ?_;refine AllReady.cons (o:=⟨some 15,.alloc 51,84, "rat.go:135",#[],none⟩) rfl (fun K hK=>?_) ?_
 ·go_simp
  refine hK _ _ ?_;exact quoT_2_1_8_ h d1 o1 p8 w.heap.size _ (Mem.alloc (A:=[]) (B:=[]) m)
 refine AllReady.cons (o:=⟨some 17,.call ⟨.value (.func 44),#[.tmp 16],#[37]⟩,84, "rat.go:135",#[⟨9,.data⟩,⟨7,.chain⟩],none⟩) rfl (fun K hK=>?_) ?_
 ·go_simp
  refine (h.dx _ _ _ m).mono ?_;rintro e w1 ⟨d2,o2,rfl,_,m1⟩;go_wp2;exact quoT_3_1_ h d1 o1 d2 o2 p8 _ m1
 exact AllReady.nil
theorem quoT_1_1_8_ (h:quoH bz bx bY n1 n2 v1 v2 x1 y1 x2 y2 L M w0 Q)  (d1 o1 p8 p16:Nat) (w:World) (m:Mem w0 w [p8,p16] [⟨d1,o1,(y2:Int),M⟩,⟨bx,0,x1,L⟩,⟨bY,0,y1,M⟩]) :
  wpAny Tryz.prog .any quoOps Q 5 #[true,true,true,true,true,true,true,false,true,true,false,true,true,true,false,false,false] ⟨#[pp bz 0,pp bx 0,pp bY 0,undef,undef,undef,.pointer none,pp bz 0,pp p8 0,pp bx 0,pp bx 0,pp bx 0,pp bY 0,pp d1 o1,undef,pp p16 0,pp bx 0,undef,pp bY 0,pp bY 0,pp bY 0,undef,undef],[]⟩ w:=by
 have hL:=h.hL;unfold pp;refine wpAny_ready (rs:=[7]) (by kernel_rfl) (by simp) ?_;refine AllReady.cons (o:=⟨some 14,.call ⟨.value (.func 43),#[.tmp 8,.tmp 11,.tmp 13],#[84,84,84]⟩,84, "rat.go:135",#[⟨1,.data⟩,⟨4,.data⟩,⟨6,.data⟩,⟨6,.chain⟩],none⟩) rfl (fun K hK=>?_) ?_
 ·go_simp
  refine (Mem.mul (A:=[]) (B:=[p16]) m (x:=x1) (y:=(y2:Int)) (L:=L) (M:=M) (by simp) (by simp) (by omega)).mono ?_;rintro e w1 ⟨rfl,m1⟩;go_wp2;exact quoT_2_1_8_ h d1 o1 p8 p16 _ m1
 exact AllReady.nil
theorem quoT_1_1_ (h:quoH bz bx bY n1 n2 v1 v2 x1 y1 x2 y2 L M w0 Q)  (d1 o1 p8:Nat) (w:World) (m:Mem w0 w [p8] [⟨d1,o1,(y2:Int),M⟩,⟨bx,0,x1,L⟩,⟨bY,0,y1,M⟩]) :
  wpAny Tryz.prog .any quoOps Q 6 #[true,true,true,true,true,true,true,false,false,true,false,true,true,true,false,false,false] ⟨#[pp bz 0,pp bx 0,pp bY 0,undef,undef,undef,.pointer none,pp bz 0,pp p8 0,pp bx 0,pp bx 0,pp bx 0,pp bY 0,pp d1 o1,undef,undef,pp bx 0,undef,pp bY 0,pp bY 0,pp bY 0,undef,undef],[]⟩ w:=by
 have hL:=h.hL;unfold pp;refine wpAny_ready (rs:=[7,8]) (by kernel_rfl) (by simp) ?_;refine AllReady.cons (o:=⟨some 14,.call ⟨.value (.func 43),#[.tmp 8,.tmp 11,.tmp 13],#[84,84,84]⟩,84, "rat.go:135",#[⟨1,.data⟩,⟨4,.data⟩,⟨6,.data⟩,⟨6,.chain⟩],none⟩) rfl (fun K hK=>?_) ?_
 ·go_simp
  refine (Mem.mul (A:=[]) (B:=[]) m (x:=x1) (y:=(y2:Int)) (L:=L) (M:=M) (by simp) (by simp) (by omega)).mono ?_;rintro e w1 ⟨rfl,m1⟩;go_wp2;exact quoT_2_1_ h d1 o1 p8 _ m1
 refine AllReady.cons (o:=⟨some 15,.alloc 51,84, "rat.go:135",#[],none⟩) rfl (fun K hK=>?_) ?_
 ·go_simp
  refine hK _ _ ?_;exact quoT_1_1_8_ h d1 o1 p8 w.heap.size _ (Mem.alloc (A:=[p8]) (B:=[]) m)
 exact AllReady.nil
theorem quoT_1_8_ (h:quoH bz bx bY n1 n2 v1 v2 x1 y1 x2 y2 L M w0 Q)  (d1 o1 p16:Nat) (w:World) (m:Mem w0 w [p16] [⟨d1,o1,(y2:Int),M⟩,⟨bx,0,x1,L⟩,⟨bY,0,y1,M⟩]) :
  wpAny Tryz.prog .any quoOps Q 6 #[true,false,true,true,true,true,true,false,true,true,false,true,true,true,false,false,false] ⟨#[pp bz 0,pp bx 0,pp bY 0,undef,undef,undef,.pointer none,pp bz 0,undef,pp bx 0,pp bx 0,pp bx 0,pp bY 0,pp d1 o1,undef,pp p16 0,pp bx 0,undef,pp bY 0,pp bY 0,pp bY 0,undef,undef],[]⟩ w:=by
 have hL:=h.hL;unfold pp;refine wpAny_ready (rs:=[1]) (by kernel_rfl) (by simp) ?_;refine AllReady.cons (o:=⟨some 8,.alloc 51,84, "rat.go:135",#[],none⟩) rfl (fun K hK=>?_) ?_
 ·go_simp
  refine hK _ _ ?_;exact quoT_1_1_8_ h d1 o1 w.heap.size p16 _ (Mem.alloc (A:=[]) (B:=[p16]) m)
 exact AllReady.nil
theorem quoT_1_ (h:quoH bz bx bY n1 n2 v1 v2 x1 y1 x2 y2 L M w0 Q)  (d1 o1:Nat) (w:World) (m:Mem w0 w [] [⟨d1,o1,(y2:Int),M⟩,⟨bx,0,x1,L⟩,⟨bY,0,y1,M⟩]) :
  wpAny Tryz.prog .any quoOps Q 7 #[true,false,true,true,true,true,true,false,false,true,false,true,true,true,false,false,false] ⟨#[pp bz 0,pp bx 0,pp bY 0,undef,undef,undef,.pointer none,pp bz 0,undef,pp bx 0,pp bx 0,pp bx 0,pp bY 0,pp d1 o1,undef,undef,pp bx 0,undef,pp bY 0,pp bY 0,pp bY 0,undef,undef],[]⟩ w:=by
 have hL:=h.hL;unfold pp;refine wpAny_ready (rs:=[1,8]) (by kernel_rfl) (by simp) ?_;refine AllReady.cons (o:=⟨some 8,.alloc 51,84, "rat.go:135",#[],none⟩) rfl (fun K hK=>?_) ?_
 ·go_simp
  refine hK _ _ ?_;exact quoT_1_1_ h d1 o1 w.heap.size _ (Mem.alloc (A:=[]) (B:=[]) m)
 refine AllReady.cons (o:=⟨some 15,.alloc 51,84, "rat.go:135",#[],none⟩) rfl (fun K hK=>?_) ?_
 ·go_simp
  refine hK _ _ ?_;exact quoT_1_8_ h d1 o1 w.heap.size _ (Mem.alloc (A:=[]) (B:=[]) m)
 exact AllReady.nil
theorem quoT_0_1_8_ (h:quoH bz bx bY n1 n2 v1 v2 x1 y1 x2 y2 L M w0 Q)  (p8 p16:Nat) (w:World) (m:Mem w0 w [p8,p16] [⟨bx,0,x1,L⟩,⟨bY,0,y1,M⟩]) :
  wpAny Tryz.prog .any quoOps Q 6 #[true,true,true,true,true,true,false,false,true,true,false,true,true,true,false,false,false] ⟨#[pp bz 0,pp bx 0,pp bY 0,undef,undef,undef,.pointer none,pp bz 0,pp p8 0,pp bx 0,pp bx 0,pp bx 0,pp bY 0,undef,undef,pp p16 0,pp bx 0,undef,pp bY 0,pp bY 0,pp bY 0,undef,undef],[]⟩ w:=by
 have hL:=h.hL;unfold pp;refine wpAny_ready (rs:=[6]) (by kernel_rfl) (by simp) ?_;refine AllReady.cons (o:=⟨some 13,.call ⟨.value (.func 44),#[.tmp 12],#[37]⟩,84, "rat.go:135",#[⟨5,.data⟩],none⟩) rfl (fun K hK=>?_) ?_
 ·go_simp
  refine (h.dy _ _ _ m).mono ?_;rintro e w1 ⟨d1,o1,rfl,_,m1⟩;go_wp2;exact quoT_1_1_8_ h d1 o1 p8 p16 _ m1
 exact AllReady.nil
theorem quoT_0_1_ (h:quoH bz bx bY n1 n2 v1 v2 x1 y1 x2 y2 L M w0 Q)  (p8:Nat) (w:World) (m:Mem w0 w [p8] [⟨bx,0,x1,L⟩,⟨bY,0,y1,M⟩]) :
  wpAny Tryz.prog .any quoOps Q 7 #[true,true,true,true,true,true,false,false,false,true,false,true,true,true,false,false,false] ⟨#[pp bz 0,pp bx 0,pp bY 0,undef,undef,undef,.pointer none,pp bz 0,pp p8 0,pp bx 0,pp bx 0,pp bx 0,pp bY 0,undef,undef,undef,pp bx 0,undef,pp bY 0,pp bY 0,pp bY 0,undef,undef],[]⟩ w:=by
 have hL:=h.hL;unfold pp;refine wpAny_ready (rs:=[6,8]) (by kernel_rfl) (by simp) ?_;refine AllReady.cons (o:=⟨some 13,.call ⟨.value (.func 44),#[.tmp 12],#[37]⟩,84, "rat.go:135",#[⟨5,.data⟩],none⟩) rfl (fun K hK=>?_) ?_
 ·go_simp
  refine (h.dy _ _ _ m).mono ?_;rintro e w1 ⟨d1,o1,rfl,_,m1⟩;go_wp2;exact quoT_1_1_ h d1 o1 p8 _ m1
 refine AllReady.cons (o:=⟨some 15,.alloc 51,84, "rat.go:135",#[],none⟩) rfl (fun K hK=>?_) ?_
 ·go_simp
  refine hK _ _ ?_;exact quoT_0_1_8_ h p8 w.heap.size _ (Mem.alloc (A:=[p8]) (B:=[]) m)
 exact AllReady.nil
theorem quoT_0_8_ (h:quoH bz bx bY n1 n2 v1 v2 x1 y1 x2 y2 L M w0 Q)  (p16:Nat) (w:World) (m:Mem w0 w [p16] [⟨bx,0,x1,L⟩,⟨bY,0,y1,M⟩]) :
  wpAny Tryz.prog .any quoOps Q 7 #[true,false,true,true,true,true,false,false,true,true,false,true,true,true,false,false,false] ⟨#[pp bz 0,pp bx 0,pp bY 0,undef,undef,undef,.pointer none,pp bz 0,undef,pp bx 0,pp bx 0,pp bx 0,pp bY 0,undef,undef,pp p16 0,pp bx 0,undef,pp bY 0,pp bY 0,pp bY 0,undef,undef],[]⟩ w:=by
 have hL:=h.hL;unfold pp;refine wpAny_ready (rs:=[1,6]) (by kernel_rfl) (by simp) ?_;refine AllReady.cons (o:=⟨some 8,.alloc 51,84, "rat.go:135",#[],none⟩) rfl (fun K hK=>?_) ?_
 ·go_simp
  refine hK _ _ ?_;exact quoT_0_1_8_ h w.heap.size p16 _ (Mem.alloc (A:=[]) (B:=[p16]) m)
 refine AllReady.cons (o:=⟨some 13,.call ⟨.value (.func 44),#[.tmp 12],#[37]⟩,84, "rat.go:135",#[⟨5,.data⟩],none⟩) rfl (fun K hK=>?_) ?_
 ·go_simp
  refine (h.dy _ _ _ m).mono ?_;rintro e w1 ⟨d1,o1,rfl,_,m1⟩;go_wp2;exact quoT_1_8_ h d1 o1 p16 _ m1
 exact AllReady.nil
theorem quoT_0_ (h:quoH bz bx bY n1 n2 v1 v2 x1 y1 x2 y2 L M w0 Q)  (w:World) (m:Mem w0 w [] [⟨bx,0,x1,L⟩,⟨bY,0,y1,M⟩]) :
  wpAny Tryz.prog .any quoOps Q 8 #[true,false,true,true,true,true,false,false,false,true,false,true,true,true,false,false,false] ⟨#[pp bz 0,pp bx 0,pp bY 0,undef,undef,undef,.pointer none,pp bz 0,undef,pp bx 0,pp bx 0,pp bx 0,pp bY 0,undef,undef,undef,pp bx 0,undef,pp bY 0,pp bY 0,pp bY 0,undef,undef],[]⟩ w:=by
 have hL:=h.hL;unfold pp;refine wpAny_ready (rs:=[1,6,8]) (by kernel_rfl) (by simp) ?_;refine AllReady.cons (o:=⟨some 8,.alloc 51,84, "rat.go:135",#[],none⟩) rfl (fun K hK=>?_) ?_
 ·go_simp
  refine hK _ _ ?_;exact quoT_0_1_ h w.heap.size _ (Mem.alloc (A:=[]) (B:=[]) m)
 refine AllReady.cons (o:=⟨some 13,.call ⟨.value (.func 44),#[.tmp 12],#[37]⟩,84, "rat.go:135",#[⟨5,.data⟩],none⟩) rfl (fun K hK=>?_) ?_
 ·go_simp
  refine (h.dy _ _ _ m).mono ?_;rintro e w1 ⟨d1,o1,rfl,_,m1⟩;go_wp2;exact quoT_1_ h d1 o1 _ m1
 refine AllReady.cons (o:=⟨some 15,.alloc 51,84, "rat.go:135",#[],none⟩) rfl (fun K hK=>?_) ?_
 ·go_simp
  refine hK _ _ ?_;exact quoT_0_8_ h w.heap.size _ (Mem.alloc (A:=[]) (B:=[]) m)
 exact AllReady.nil
end
end Go.Proofs.YtkhgaelnglndiaaGreatDoor
