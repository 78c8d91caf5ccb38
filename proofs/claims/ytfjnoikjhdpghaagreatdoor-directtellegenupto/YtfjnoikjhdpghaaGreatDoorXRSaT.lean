/- Contracts that the proof leans on. -/
import Derived.Test.YtfjnoikjhdpghaaGreatDoorXCBe
namespace Go.Proofs.YtfjnoikjhdpghaaGreatDoor
open Go.RowKit
set_option linter.unusedVariables false
set_option linter.unusedSimpArgs false
set_option maxHeartbeats 8000000
set_option maxRecDepth 10000
def opZ (ad:Bool) (x y:Int):Int:=if ad then x+y else x-y
def bO (ad:Bool):Array Oper:=#[{ dst:=some 8,op:=Op.alloc 51,type:=84,pos:=(if ad then "rat.go:118" else "rat.go:124"),after:=#[],guard:=none },
 { dst:=some 9,op:=Op.alloc 51,type:=84,pos:=(if ad then "rat.go:118" else "rat.go:124"),after:=#[],guard:=none },
 { dst:=some 10,op:=Op.move (Operand.tmp 1),type:=37,pos:=(if ad then "rat.go:118" else "rat.go:124"),after:=#[],guard:=none },
 { dst:=some 11,op:=Op.nilCheck (Operand.tmp 10),type:=0,pos:=(if ad then "rat.go:118" else "rat.go:124"),after:=#[⟨2,.data⟩],guard:=none },
 { dst:=some 12,op:=Op.fieldAddr 53 (Operand.tmp 11) 0,type:=0,pos:=(if ad then "rat.go:118" else "rat.go:124"),after:=#[⟨3,.data⟩],guard:=none },
 { dst:=some 13,op:=Op.move (Operand.tmp 2),type:=37,pos:=(if ad then "rat.go:118" else "rat.go:124"),after:=#[],guard:=none },
 { dst:=some 14,op:=Op.call { callee:=Callee.value (Operand.func 43),args:=#[Operand.tmp 13],argTypes:=#[37] },type:=84,pos:=(if ad then "rat.go:118" else "rat.go:124"),after:=#[⟨5,.data⟩],guard:=none },
 { dst:=some 15,op:=Op.call { callee:=Callee.value (Operand.func 42),args:=#[Operand.tmp 9,Operand.tmp 12,Operand.tmp 14],argTypes:=#[84,84,84] },type:=84,pos:=(if ad then "rat.go:118" else "rat.go:124"),after:=#[⟨1,.data⟩,⟨4,.data⟩,⟨6,.data⟩,⟨6,.chain⟩],guard:=none },
 { dst:=some 16,op:=Op.alloc 51,type:=84,pos:=(if ad then "rat.go:118" else "rat.go:124"),after:=#[],guard:=none },
 { dst:=some 17,op:=Op.move (Operand.tmp 2),type:=37,pos:=(if ad then "rat.go:118" else "rat.go:124"),after:=#[],guard:=none },
 { dst:=some 18,op:=Op.nilCheck (Operand.tmp 17),type:=0,pos:=(if ad then "rat.go:118" else "rat.go:124"),after:=#[⟨9,.data⟩],guard:=none },
 { dst:=some 19,op:=Op.fieldAddr 53 (Operand.tmp 18) 0,type:=0,pos:=(if ad then "rat.go:118" else "rat.go:124"),after:=#[⟨10,.data⟩],guard:=none },
 { dst:=some 20,op:=Op.move (Operand.tmp 1),type:=37,pos:=(if ad then "rat.go:118" else "rat.go:124"),after:=#[],guard:=none },
 { dst:=some 21,op:=Op.call { callee:=Callee.value (Operand.func 43),args:=#[Operand.tmp 20],argTypes:=#[37] },type:=84,pos:=(if ad then "rat.go:118" else "rat.go:124"),after:=#[⟨12,.data⟩,⟨7,.chain⟩],guard:=none },
 { dst:=some 22,op:=Op.call { callee:=Callee.value (Operand.func 42),args:=#[Operand.tmp 16,Operand.tmp 19,Operand.tmp 21],argTypes:=#[84,84,84] },type:=84,pos:=(if ad then "rat.go:118" else "rat.go:124"),after:=#[⟨8,.data⟩,⟨11,.data⟩,⟨13,.data⟩,⟨13,.chain⟩],guard:=none },
 { dst:=some 23,op:=Op.call { callee:=Callee.value (Operand.func (if ad then 41 else 114)),args:=#[Operand.tmp 8,Operand.tmp 15,Operand.tmp 22],argTypes:=#[84,84,84] },type:=84,pos:=(if ad then "rat.go:118" else "rat.go:124"),after:=#[⟨0,.data⟩,⟨7,.data⟩,⟨14,.data⟩,⟨14,.chain⟩],guard:=none },
 { dst:=some 7,op:=Op.assign (Operand.tmp 23),type:=84,pos:=(if ad then "rat.go:118" else "rat.go:124"),after:=#[⟨15,.data⟩,⟨15,.chain⟩,⟨0,.phase⟩,⟨1,.phase⟩,⟨2,.phase⟩,⟨3,.phase⟩,⟨4,.phase⟩,⟨5,.phase⟩,⟨6,.phase⟩,⟨7,.phase⟩,⟨8,.phase⟩,⟨9,.phase⟩,⟨10,.phase⟩,⟨11,.phase⟩,⟨12,.phase⟩,⟨13,.phase⟩,⟨14,.phase⟩,⟨15,.phase⟩],guard:=none }]
structure fi (ad:Bool) (bz bx bY:Nat) (x1 y1:Int) (x2 y2 L M:Nat) (w0:World) (Q:Exit->Act->World->Prop):Prop where
 dx:iT w0 bx x2 L
 dy:iT w0 bY y2 M
 hL:L+M<=4000000000000
 hQ:∀ (d1 o1 d2 o2 p8 p9 p16:Nat) (w:World),bj w0 w [] [⟨p8,0,opZ ad (x1*(y2:Int)) (y1*(x2:Int)),max (L+M) (M+L)+1⟩,⟨p16,0,y1*(x2:Int),M+L⟩,⟨d2,o2,(x2:Int),L⟩,⟨p9,0,x1*(y2:Int),L+M⟩,⟨d1,o1,(y2:Int),M⟩,⟨bx,0,x1,L⟩,⟨bY,0,y1,M⟩]->Q .normal ⟨#[pp bz 0,pp bx 0,pp bY 0,undef,undef,undef,.pointer none,pp p8 0,pp p8 0,pp p9 0,pp bx 0,pp bx 0,pp bx 0,pp bY 0,pp d1 o1,pp p9 0,pp p16 0,pp bY 0,pp bY 0,pp bY 0,pp bx 0,pp d2 o2,pp p16 0,pp p8 0,undef,undef,undef,undef,undef,undef,undef,undef,undef],[]⟩ w
section
variable {ad:Bool} {bz bx bY:Nat} {x1 y1:Int} {x2 y2 L M:Nat} {w0:World} {Q:Exit->Act->World->Prop}
theorem qy (h:fi ad bz bx bY x1 y1 x2 y2 L M w0 Q)  (d1 o1 d2 o2 p8 p9 p16:Nat) (w:World) (m:bj w0 w [] [⟨p8,0,opZ ad (x1*(y2:Int)) (y1*(x2:Int)),max (L+M) (M+L)+1⟩,⟨p16,0,y1*(x2:Int),M+L⟩,⟨d2,o2,(x2:Int),L⟩,⟨p9,0,x1*(y2:Int),L+M⟩,⟨d1,o1,(y2:Int),M⟩,⟨bx,0,x1,L⟩,⟨bY,0,y1,M⟩]) :
  wpAny Tryz.prog .any (bO ad) Q 0 #[true,true,true,true,true,true,true,true,true,true,true,true,true,true,true,true,true] ⟨#[pp bz 0,pp bx 0,pp bY 0,undef,undef,undef,.pointer none,pp p8 0,pp p8 0,pp p9 0,pp bx 0,pp bx 0,pp bx 0,pp bY 0,pp d1 o1,pp p9 0,pp p16 0,pp bY 0,pp bY 0,pp bY 0,pp bx 0,pp d2 o2,pp p16 0,pp p8 0,undef,undef,undef,undef,undef,undef,undef,undef,undef],[]⟩ w:=by
 have hL:=h.hL;unfold pp;refine wpAny_done (by kernel_rfl) ?_ _;exact h.hQ d1 o1 d2 o2 p8 p9 p16 w m
theorem qx (h:fi ad bz bx bY x1 y1 x2 y2 L M w0 Q)  (d1 o1 d2 o2 p8 p9 p16:Nat) (w:World) (m:bj w0 w [] [⟨p8,0,opZ ad (x1*(y2:Int)) (y1*(x2:Int)),max (L+M) (M+L)+1⟩,⟨p16,0,y1*(x2:Int),M+L⟩,⟨d2,o2,(x2:Int),L⟩,⟨p9,0,x1*(y2:Int),L+M⟩,⟨d1,o1,(y2:Int),M⟩,⟨bx,0,x1,L⟩,⟨bY,0,y1,M⟩]) :
  wpAny Tryz.prog .any (bO ad) Q 1 #[true,true,true,true,true,true,true,true,true,true,true,true,true,true,true,true,false] ⟨#[pp bz 0,pp bx 0,pp bY 0,undef,undef,undef,.pointer none,undef,pp p8 0,pp p9 0,pp bx 0,pp bx 0,pp bx 0,pp bY 0,pp d1 o1,pp p9 0,pp p16 0,pp bY 0,pp bY 0,pp bY 0,pp bx 0,pp d2 o2,pp p16 0,pp p8 0,undef,undef,undef,undef,undef,undef,undef,undef,undef],[]⟩ w:=by
 have hL:=h.hL;unfold pp;refine wpAny_ready (rs:=[16]) (by kernel_rfl) (by simp) ?_;refine AllReady.cons (o:={ dst:=some 7,op:=Op.assign (Operand.tmp 23),type:=84,pos:=(if ad then "rat.go:118" else "rat.go:124"),after:=#[⟨15,.data⟩,⟨15,.chain⟩,⟨0,.phase⟩,⟨1,.phase⟩,⟨2,.phase⟩,⟨3,.phase⟩,⟨4,.phase⟩,⟨5,.phase⟩,⟨6,.phase⟩,⟨7,.phase⟩,⟨8,.phase⟩,⟨9,.phase⟩,⟨10,.phase⟩,⟨11,.phase⟩,⟨12,.phase⟩,⟨13,.phase⟩,⟨14,.phase⟩,⟨15,.phase⟩],guard:=none }) rfl (fun K hK=>?_) ?_
 ·go_simp
  refine hK _ _ ?_;exact qy h d1 o1 d2 o2 p8 p9 p16 _ m
 exact AllReady.nil
theorem kX (h:fi ad bz bx bY x1 y1 x2 y2 L M w0 Q)  (d1 o1 d2 o2 p8 p9 p16:Nat) (w:World) (m:bj w0 w [p8] [⟨p16,0,y1*(x2:Int),M+L⟩,⟨d2,o2,(x2:Int),L⟩,⟨p9,0,x1*(y2:Int),L+M⟩,⟨d1,o1,(y2:Int),M⟩,⟨bx,0,x1,L⟩,⟨bY,0,y1,M⟩]) :
  wpAny Tryz.prog .any (bO ad) Q 2 #[true,true,true,true,true,true,true,true,true,true,true,true,true,true,true,false,false] ⟨#[pp bz 0,pp bx 0,pp bY 0,undef,undef,undef,.pointer none,undef,pp p8 0,pp p9 0,pp bx 0,pp bx 0,pp bx 0,pp bY 0,pp d1 o1,pp p9 0,pp p16 0,pp bY 0,pp bY 0,pp bY 0,pp bx 0,pp d2 o2,pp p16 0,undef,undef,undef,undef,undef,undef,undef,undef,undef,undef],[]⟩ w:=by
 have hL:=h.hL;unfold pp;refine wpAny_ready (rs:=[15]) (by kernel_rfl) (by simp) ?_;refine AllReady.cons (o:={ dst:=some 23,op:=Op.call { callee:=Callee.value (Operand.func (if ad then 41 else 114)),args:=#[Operand.tmp 8,Operand.tmp 15,Operand.tmp 22],argTypes:=#[84,84,84] },type:=84,pos:=(if ad then "rat.go:118" else "rat.go:124"),after:=#[⟨0,.data⟩,⟨7,.data⟩,⟨14,.data⟩,⟨14,.chain⟩],guard:=none }) rfl (fun K hK=>?_) ?_
 ·have key:Calls Tryz.prog (if ad then 41 else 114) #[.pointer (some ⟨p8,0,none⟩),.pointer (some ⟨p9,0,none⟩),.pointer (some ⟨p16,0,none⟩)] w fun e w'=>e=.returned (.pointer (some ⟨p8,0,none⟩))/\bj w0 w' [] (⟨p8,0,opZ ad (x1*(y2:Int)) (y1*(x2:Int)),max (L+M) (M+L)+1⟩ :: [⟨p16,0,y1*(x2:Int),M+L⟩,⟨d2,o2,(x2:Int),L⟩,⟨p9,0,x1*(y2:Int),L+M⟩,⟨d1,o1,(y2:Int),M⟩,⟨bx,0,x1,L⟩,⟨bY,0,y1,M⟩]):=by
   cases ad
   ·exact bj.sub (A:=[]) (B:=[]) m (x:=x1*(y2:Int)) (y:=y1*(x2:Int)) (L:=L+M) (M:=M+L) (by simp) (by simp) (by omega) (by omega)
   ·exact bj.add (A:=[]) (B:=[]) m (x:=x1*(y2:Int)) (y:=y1*(x2:Int)) (L:=L+M) (M:=M+L) (by simp) (by simp) (by omega) (by omega)
  have t5:=fun w m1=>qx h d1 o1 d2 o2 p8 p9 p16 w m1
  unfold pp at t5;cases ad
  all_goals
   simp only [if_true,if_false,Bool.false_eq_true] at key hK ⊢;go_simp
   refine key.mono ?_;rintro e w1 ⟨rfl,m1⟩;go_wp2;exact t5 _ m1
 exact AllReady.nil
theorem uJ (h:fi ad bz bx bY x1 y1 x2 y2 L M w0 Q)  (d1 o1 d2 o2 p9 p16:Nat) (w:World) (m:bj w0 w [] [⟨p16,0,y1*(x2:Int),M+L⟩,⟨d2,o2,(x2:Int),L⟩,⟨p9,0,x1*(y2:Int),L+M⟩,⟨d1,o1,(y2:Int),M⟩,⟨bx,0,x1,L⟩,⟨bY,0,y1,M⟩]) :
  wpAny Tryz.prog .any (bO ad) Q 3 #[false,true,true,true,true,true,true,true,true,true,true,true,true,true,true,false,false] ⟨#[pp bz 0,pp bx 0,pp bY 0,undef,undef,undef,.pointer none,undef,undef,pp p9 0,pp bx 0,pp bx 0,pp bx 0,pp bY 0,pp d1 o1,pp p9 0,pp p16 0,pp bY 0,pp bY 0,pp bY 0,pp bx 0,pp d2 o2,pp p16 0,undef,undef,undef,undef,undef,undef,undef,undef,undef,undef],[]⟩ w:=by
 have hL:=h.hL;unfold pp;refine wpAny_ready (rs:=[0]) (by kernel_rfl) (by simp) ?_;refine AllReady.cons (o:={ dst:=some 8,op:=Op.alloc 51,type:=84,pos:=(if ad then "rat.go:118" else "rat.go:124"),after:=#[],guard:=none }) rfl (fun K hK=>?_) ?_
 ·go_simp
  refine hK _ _ ?_;exact kX h d1 o1 d2 o2 w.heap.size p9 p16 _ (bj.alloc (A:=[]) (B:=[]) m)
 exact AllReady.nil
theorem iz (h:fi ad bz bx bY x1 y1 x2 y2 L M w0 Q)  (d1 o1 d2 o2 p8 p9 p16:Nat) (w:World) (m:bj w0 w [p8,p16] [⟨d2,o2,(x2:Int),L⟩,⟨p9,0,x1*(y2:Int),L+M⟩,⟨d1,o1,(y2:Int),M⟩,⟨bx,0,x1,L⟩,⟨bY,0,y1,M⟩]) :
  wpAny Tryz.prog .any (bO ad) Q 3 #[true,true,true,true,true,true,true,true,true,true,true,true,true,true,false,false,false] ⟨#[pp bz 0,pp bx 0,pp bY 0,undef,undef,undef,.pointer none,undef,pp p8 0,pp p9 0,pp bx 0,pp bx 0,pp bx 0,pp bY 0,pp d1 o1,pp p9 0,pp p16 0,pp bY 0,pp bY 0,pp bY 0,pp bx 0,pp d2 o2,undef,undef,undef,undef,undef,undef,undef,undef,undef,undef,undef],[]⟩ w:=by
 have hL:=h.hL;unfold pp;refine wpAny_ready (rs:=[14]) (by kernel_rfl) (by simp) ?_;refine AllReady.cons (o:={ dst:=some 22,op:=Op.call { callee:=Callee.value (Operand.func 42),args:=#[Operand.tmp 16,Operand.tmp 19,Operand.tmp 21],argTypes:=#[84,84,84] },type:=84,pos:=(if ad then "rat.go:118" else "rat.go:124"),after:=#[⟨8,.data⟩,⟨11,.data⟩,⟨13,.data⟩,⟨13,.chain⟩],guard:=none }) rfl (fun K hK=>?_) ?_
 ·go_simp
  refine (bj.mul (A:=[p8]) (B:=[]) m (x:=y1) (y:=(x2:Int)) (L:=M) (M:=L) (by simp) (by simp) (by omega)).mono ?_;rintro e w1 ⟨rfl,m1⟩;go_wp2;exact kX h d1 o1 d2 o2 p8 p9 p16 _ m1
 exact AllReady.nil
theorem nD (h:fi ad bz bx bY x1 y1 x2 y2 L M w0 Q)  (d1 o1 d2 o2 p8 p9:Nat) (w:World) (m:bj w0 w [p8] [⟨d2,o2,(x2:Int),L⟩,⟨p9,0,x1*(y2:Int),L+M⟩,⟨d1,o1,(y2:Int),M⟩,⟨bx,0,x1,L⟩,⟨bY,0,y1,M⟩]) :
  wpAny Tryz.prog .any (bO ad) Q 4 #[true,true,true,true,true,true,true,true,false,true,true,true,true,true,false,false,false] ⟨#[pp bz 0,pp bx 0,pp bY 0,undef,undef,undef,.pointer none,undef,pp p8 0,pp p9 0,pp bx 0,pp bx 0,pp bx 0,pp bY 0,pp d1 o1,pp p9 0,undef,pp bY 0,pp bY 0,pp bY 0,pp bx 0,pp d2 o2,undef,undef,undef,undef,undef,undef,undef,undef,undef,undef,undef],[]⟩ w:=by
 have hL:=h.hL;unfold pp;refine wpAny_ready (rs:=[8]) (by kernel_rfl) (by simp) ?_;refine AllReady.cons (o:={ dst:=some 16,op:=Op.alloc 51,type:=84,pos:=(if ad then "rat.go:118" else "rat.go:124"),after:=#[],guard:=none }) rfl (fun K hK=>?_) ?_
 ·go_simp
  refine hK _ _ ?_;exact iz h d1 o1 d2 o2 p8 p9 w.heap.size _ (bj.alloc (A:=[p8]) (B:=[]) m)
 exact AllReady.nil
theorem nE (h:fi ad bz bx bY x1 y1 x2 y2 L M w0 Q)  (d1 o1 d2 o2 p9 p16:Nat) (w:World) (m:bj w0 w [p16] [⟨d2,o2,(x2:Int),L⟩,⟨p9,0,x1*(y2:Int),L+M⟩,⟨d1,o1,(y2:Int),M⟩,⟨bx,0,x1,L⟩,⟨bY,0,y1,M⟩]) :
  wpAny Tryz.prog .any (bO ad) Q 4 #[false,true,true,true,true,true,true,true,true,true,true,true,true,true,false,false,false] ⟨#[pp bz 0,pp bx 0,pp bY 0,undef,undef,undef,.pointer none,undef,undef,pp p9 0,pp bx 0,pp bx 0,pp bx 0,pp bY 0,pp d1 o1,pp p9 0,pp p16 0,pp bY 0,pp bY 0,pp bY 0,pp bx 0,pp d2 o2,undef,undef,undef,undef,undef,undef,undef,undef,undef,undef,undef],[]⟩ w:=by
 have hL:=h.hL;unfold pp;refine wpAny_ready (rs:=[0,14]) (by kernel_rfl) (by simp) ?_;refine AllReady.cons (o:={ dst:=some 8,op:=Op.alloc 51,type:=84,pos:=(if ad then "rat.go:118" else "rat.go:124"),after:=#[],guard:=none }) rfl (fun K hK=>?_) ?_
 ·go_simp
  refine hK _ _ ?_;exact iz h d1 o1 d2 o2 w.heap.size p9 p16 _ (bj.alloc (A:=[]) (B:=[p16]) m)
 refine AllReady.cons (o:={ dst:=some 22,op:=Op.call { callee:=Callee.value (Operand.func 42),args:=#[Operand.tmp 16,Operand.tmp 19,Operand.tmp 21],argTypes:=#[84,84,84] },type:=84,pos:=(if ad then "rat.go:118" else "rat.go:124"),after:=#[⟨8,.data⟩,⟨11,.data⟩,⟨13,.data⟩,⟨13,.chain⟩],guard:=none }) rfl (fun K hK=>?_) ?_
 ·go_simp
  refine (bj.mul (A:=[]) (B:=[]) m (x:=y1) (y:=(x2:Int)) (L:=M) (M:=L) (by simp) (by simp) (by omega)).mono ?_;rintro e w1 ⟨rfl,m1⟩;go_wp2;exact uJ h d1 o1 d2 o2 p9 p16 _ m1
 exact AllReady.nil
theorem zW (h:fi ad bz bx bY x1 y1 x2 y2 L M w0 Q)  (d1 o1 d2 o2 p9:Nat) (w:World) (m:bj w0 w [] [⟨d2,o2,(x2:Int),L⟩,⟨p9,0,x1*(y2:Int),L+M⟩,⟨d1,o1,(y2:Int),M⟩,⟨bx,0,x1,L⟩,⟨bY,0,y1,M⟩]) :
  wpAny Tryz.prog .any (bO ad) Q 5 #[false,true,true,true,true,true,true,true,false,true,true,true,true,true,false,false,false] ⟨#[pp bz 0,pp bx 0,pp bY 0,undef,undef,undef,.pointer none,undef,undef,pp p9 0,pp bx 0,pp bx 0,pp bx 0,pp bY 0,pp d1 o1,pp p9 0,undef,pp bY 0,pp bY 0,pp bY 0,pp bx 0,pp d2 o2,undef,undef,undef,undef,undef,undef,undef,undef,undef,undef,undef],[]⟩ w:=by
 have hL:=h.hL;unfold pp;refine wpAny_ready (rs:=[0,8]) (by kernel_rfl) (by simp) ?_;refine AllReady.cons (o:={ dst:=some 8,op:=Op.alloc 51,type:=84,pos:=(if ad then "rat.go:118" else "rat.go:124"),after:=#[],guard:=none }) rfl (fun K hK=>?_) ?_
 ·go_simp
  refine hK _ _ ?_;exact nD h d1 o1 d2 o2 w.heap.size p9 _ (bj.alloc (A:=[]) (B:=[]) m)
 refine AllReady.cons (o:={ dst:=some 16,op:=Op.alloc 51,type:=84,pos:=(if ad then "rat.go:118" else "rat.go:124"),after:=#[],guard:=none }) rfl (fun K hK=>?_) ?_
 ·go_simp
  refine hK _ _ ?_;exact nE h d1 o1 d2 o2 p9 w.heap.size _ (bj.alloc (A:=[]) (B:=[]) m)
 exact AllReady.nil
theorem iy (h:fi ad bz bx bY x1 y1 x2 y2 L M w0 Q)  (d1 o1 p8 p9 p16:Nat) (w:World) (m:bj w0 w [p8,p16] [⟨p9,0,x1*(y2:Int),L+M⟩,⟨d1,o1,(y2:Int),M⟩,⟨bx,0,x1,L⟩,⟨bY,0,y1,M⟩]) :
  wpAny Tryz.prog .any (bO ad) Q 4 #[true,true,true,true,true,true,true,true,true,true,true,true,true,false,false,false,false] ⟨#[pp bz 0,pp bx 0,pp bY 0,undef,undef,undef,.pointer none,undef,pp p8 0,pp p9 0,pp bx 0,pp bx 0,pp bx 0,pp bY 0,pp d1 o1,pp p9 0,pp p16 0,pp bY 0,pp bY 0,pp bY 0,pp bx 0,undef,undef,undef,undef,undef,undef,undef,undef,undef,undef,undef,undef],[]⟩ w:=by
 have hL:=h.hL;unfold pp;refine wpAny_ready (rs:=[13]) (by kernel_rfl) (by simp) ?_;refine AllReady.cons (o:={ dst:=some 21,op:=Op.call { callee:=Callee.value (Operand.func 43),args:=#[Operand.tmp 20],argTypes:=#[37] },type:=84,pos:=(if ad then "rat.go:118" else "rat.go:124"),after:=#[⟨12,.data⟩,⟨7,.chain⟩],guard:=none }) rfl (fun K hK=>?_) ?_
 ·go_simp
  refine (h.dx _ _ _ m).mono ?_;rintro e w1 ⟨d2,o2,rfl,_,m1⟩;go_wp2;exact iz h d1 o1 d2 o2 p8 p9 p16 _ m1
 exact AllReady.nil
theorem nB (h:fi ad bz bx bY x1 y1 x2 y2 L M w0 Q)  (d1 o1 p8 p9:Nat) (w:World) (m:bj w0 w [p8] [⟨p9,0,x1*(y2:Int),L+M⟩,⟨d1,o1,(y2:Int),M⟩,⟨bx,0,x1,L⟩,⟨bY,0,y1,M⟩]) :
  wpAny Tryz.prog .any (bO ad) Q 5 #[true,true,true,true,true,true,true,true,false,true,true,true,true,false,false,false,false] ⟨#[pp bz 0,pp bx 0,pp bY 0,undef,undef,undef,.pointer none,undef,pp p8 0,pp p9 0,pp bx 0,pp bx 0,pp bx 0,pp bY 0,pp d1 o1,pp p9 0,undef,pp bY 0,pp bY 0,pp bY 0,pp bx 0,undef,undef,undef,undef,undef,undef,undef,undef,undef,undef,undef,undef],[]⟩ w:=by
 have hL:=h.hL;unfold pp;refine wpAny_ready (rs:=[8,13]) (by kernel_rfl) (by simp) ?_;refine AllReady.cons (o:={ dst:=some 16,op:=Op.alloc 51,type:=84,pos:=(if ad then "rat.go:118" else "rat.go:124"),after:=#[],guard:=none }) rfl (fun K hK=>?_) ?_
 ·go_simp
  refine hK _ _ ?_;exact iy h d1 o1 p8 p9 w.heap.size _ (bj.alloc (A:=[p8]) (B:=[]) m)
 refine AllReady.cons (o:={ dst:=some 21,op:=Op.call { callee:=Callee.value (Operand.func 43),args:=#[Operand.tmp 20],argTypes:=#[37] },type:=84,pos:=(if ad then "rat.go:118" else "rat.go:124"),after:=#[⟨12,.data⟩,⟨7,.chain⟩],guard:=none }) rfl (fun K hK=>?_) ?_
 ·go_simp
  refine (h.dx _ _ _ m).mono ?_;rintro e w1 ⟨d2,o2,rfl,_,m1⟩;go_wp2;exact nD h d1 o1 d2 o2 p8 p9 _ m1
 exact AllReady.nil
theorem nC (h:fi ad bz bx bY x1 y1 x2 y2 L M w0 Q)  (d1 o1 p9 p16:Nat) (w:World) (m:bj w0 w [p16] [⟨p9,0,x1*(y2:Int),L+M⟩,⟨d1,o1,(y2:Int),M⟩,⟨bx,0,x1,L⟩,⟨bY,0,y1,M⟩]) :
  wpAny Tryz.prog .any (bO ad) Q 5 #[false,true,true,true,true,true,true,true,true,true,true,true,true,false,false,false,false] ⟨#[pp bz 0,pp bx 0,pp bY 0,undef,undef,undef,.pointer none,undef,undef,pp p9 0,pp bx 0,pp bx 0,pp bx 0,pp bY 0,pp d1 o1,pp p9 0,pp p16 0,pp bY 0,pp bY 0,pp bY 0,pp bx 0,undef,undef,undef,undef,undef,undef,undef,undef,undef,undef,undef,undef],[]⟩ w:=by
 have hL:=h.hL;unfold pp;refine wpAny_ready (rs:=[0,13]) (by kernel_rfl) (by simp) ?_;refine AllReady.cons (o:={ dst:=some 8,op:=Op.alloc 51,type:=84,pos:=(if ad then "rat.go:118" else "rat.go:124"),after:=#[],guard:=none }) rfl (fun K hK=>?_) ?_
 ·go_simp
  refine hK _ _ ?_;exact iy h d1 o1 w.heap.size p9 p16 _ (bj.alloc (A:=[]) (B:=[p16]) m)
 refine AllReady.cons (o:={ dst:=some 21,op:=Op.call { callee:=Callee.value (Operand.func 43),args:=#[Operand.tmp 20],argTypes:=#[37] },type:=84,pos:=(if ad then "rat.go:118" else "rat.go:124"),after:=#[⟨12,.data⟩,⟨7,.chain⟩],guard:=none }) rfl (fun K hK=>?_) ?_
 ·go_simp
  refine (h.dx _ _ _ m).mono ?_;rintro e w1 ⟨d2,o2,rfl,_,m1⟩;go_wp2;exact nE h d1 o1 d2 o2 p9 p16 _ m1
 exact AllReady.nil
theorem zV (h:fi ad bz bx bY x1 y1 x2 y2 L M w0 Q)  (d1 o1 p9:Nat) (w:World) (m:bj w0 w [] [⟨p9,0,x1*(y2:Int),L+M⟩,⟨d1,o1,(y2:Int),M⟩,⟨bx,0,x1,L⟩,⟨bY,0,y1,M⟩]) :
  wpAny Tryz.prog .any (bO ad) Q 6 #[false,true,true,true,true,true,true,true,false,true,true,true,true,false,false,false,false] ⟨#[pp bz 0,pp bx 0,pp bY 0,undef,undef,undef,.pointer none,undef,undef,pp p9 0,pp bx 0,pp bx 0,pp bx 0,pp bY 0,pp d1 o1,pp p9 0,undef,pp bY 0,pp bY 0,pp bY 0,pp bx 0,undef,undef,undef,undef,undef,undef,undef,undef,undef,undef,undef,undef],[]⟩ w:=by
 have hL:=h.hL;unfold pp;refine wpAny_ready (rs:=[0,8,13]) (by kernel_rfl) (by simp) ?_;refine AllReady.cons (o:={ dst:=some 8,op:=Op.alloc 51,type:=84,pos:=(if ad then "rat.go:118" else "rat.go:124"),after:=#[],guard:=none }) rfl (fun K hK=>?_) ?_
 ·go_simp
  refine hK _ _ ?_;exact nB h d1 o1 w.heap.size p9 _ (bj.alloc (A:=[]) (B:=[]) m)
 refine AllReady.cons (o:={ dst:=some 16,op:=Op.alloc 51,type:=84,pos:=(if ad then "rat.go:118" else "rat.go:124"),after:=#[],guard:=none }) rfl (fun K hK=>?_) ?_
 ·go_simp
  refine hK _ _ ?_;exact nC h d1 o1 p9 w.heap.size _ (bj.alloc (A:=[]) (B:=[]) m)
 refine AllReady.cons (o:={ dst:=some 21,op:=Op.call { callee:=Callee.value (Operand.func 43),args:=#[Operand.tmp 20],argTypes:=#[37] },type:=84,pos:=(if ad then "rat.go:118" else "rat.go:124"),after:=#[⟨12,.data⟩,⟨7,.chain⟩],guard:=none }) rfl (fun K hK=>?_) ?_
 ·go_simp
  refine (h.dx _ _ _ m).mono ?_;rintro e w1 ⟨d2,o2,rfl,_,m1⟩;go_wp2;exact zW h d1 o1 d2 o2 p9 _ m1
 exact AllReady.nil
theorem fK (h:fi ad bz bx bY x1 y1 x2 y2 L M w0 Q)  (d1 o1 p8 p9 p16:Nat) (w:World) (m:bj w0 w [p8,p9,p16] [⟨d1,o1,(y2:Int),M⟩,⟨bx,0,x1,L⟩,⟨bY,0,y1,M⟩]) :
  wpAny Tryz.prog .any (bO ad) Q 5 #[true,true,true,true,true,true,true,false,true,true,true,true,true,false,false,false,false] ⟨#[pp bz 0,pp bx 0,pp bY 0,undef,undef,undef,.pointer none,undef,pp p8 0,pp p9 0,pp bx 0,pp bx 0,pp bx 0,pp bY 0,pp d1 o1,undef,pp p16 0,pp bY 0,pp bY 0,pp bY 0,pp bx 0,undef,undef,undef,undef,undef,undef,undef,undef,undef,undef,undef,undef],[]⟩ w:=by
 have hL:=h.hL;unfold pp;refine wpAny_ready (rs:=[7]) (by kernel_rfl) (by simp) ?_;refine AllReady.cons (o:={ dst:=some 15,op:=Op.call { callee:=Callee.value (Operand.func 42),args:=#[Operand.tmp 9,Operand.tmp 12,Operand.tmp 14],argTypes:=#[84,84,84] },type:=84,pos:=(if ad then "rat.go:118" else "rat.go:124"),after:=#[⟨1,.data⟩,⟨4,.data⟩,⟨6,.data⟩,⟨6,.chain⟩],guard:=none }) rfl (fun K hK=>?_) ?_
 ·go_simp
  refine (bj.mul (A:=[p8]) (B:=[p16]) m (x:=x1) (y:=(y2:Int)) (L:=L) (M:=M) (by simp) (by simp) (by omega)).mono ?_;rintro e w1 ⟨rfl,m1⟩;go_wp2;exact iy h d1 o1 p8 p9 p16 _ m1
 exact AllReady.nil
theorem j7 (h:fi ad bz bx bY x1 y1 x2 y2 L M w0 Q)  (d1 o1 p8 p9:Nat) (w:World) (m:bj w0 w [p8,p9] [⟨d1,o1,(y2:Int),M⟩,⟨bx,0,x1,L⟩,⟨bY,0,y1,M⟩]) :
  wpAny Tryz.prog .any (bO ad) Q 6 #[true,true,true,true,true,true,true,false,false,true,true,true,true,false,false,false,false] ⟨#[pp bz 0,pp bx 0,pp bY 0,undef,undef,undef,.pointer none,undef,pp p8 0,pp p9 0,pp bx 0,pp bx 0,pp bx 0,pp bY 0,pp d1 o1,undef,undef,pp bY 0,pp bY 0,pp bY 0,pp bx 0,undef,undef,undef,undef,undef,undef,undef,undef,undef,undef,undef,undef],[]⟩ w:=by
 have hL:=h.hL;unfold pp;refine wpAny_ready (rs:=[7,8]) (by kernel_rfl) (by simp) ?_;refine AllReady.cons (o:={ dst:=some 15,op:=Op.call { callee:=Callee.value (Operand.func 42),args:=#[Operand.tmp 9,Operand.tmp 12,Operand.tmp 14],argTypes:=#[84,84,84] },type:=84,pos:=(if ad then "rat.go:118" else "rat.go:124"),after:=#[⟨1,.data⟩,⟨4,.data⟩,⟨6,.data⟩,⟨6,.chain⟩],guard:=none }) rfl (fun K hK=>?_) ?_
 ·go_simp
  refine (bj.mul (A:=[p8]) (B:=[]) m (x:=x1) (y:=(y2:Int)) (L:=L) (M:=M) (by simp) (by simp) (by omega)).mono ?_;rintro e w1 ⟨rfl,m1⟩;go_wp2;exact nB h d1 o1 p8 p9 _ m1
 refine AllReady.cons (o:={ dst:=some 16,op:=Op.alloc 51,type:=84,pos:=(if ad then "rat.go:118" else "rat.go:124"),after:=#[],guard:=none }) rfl (fun K hK=>?_) ?_
 ·go_simp
  refine hK _ _ ?_;exact fK h d1 o1 p8 p9 w.heap.size _ (bj.alloc (A:=[p8,p9]) (B:=[]) m)
 exact AllReady.nil
theorem j8 (h:fi ad bz bx bY x1 y1 x2 y2 L M w0 Q)  (d1 o1 p8 p16:Nat) (w:World) (m:bj w0 w [p8,p16] [⟨d1,o1,(y2:Int),M⟩,⟨bx,0,x1,L⟩,⟨bY,0,y1,M⟩]) :
  wpAny Tryz.prog .any (bO ad) Q 6 #[true,false,true,true,true,true,true,false,true,true,true,true,true,false,false,false,false] ⟨#[pp bz 0,pp bx 0,pp bY 0,undef,undef,undef,.pointer none,undef,pp p8 0,undef,pp bx 0,pp bx 0,pp bx 0,pp bY 0,pp d1 o1,undef,pp p16 0,pp bY 0,pp bY 0,pp bY 0,pp bx 0,undef,undef,undef,undef,undef,undef,undef,undef,undef,undef,undef,undef],[]⟩ w:=by
 have hL:=h.hL;unfold pp;refine wpAny_ready (rs:=[1]) (by kernel_rfl) (by simp) ?_;refine AllReady.cons (o:={ dst:=some 9,op:=Op.alloc 51,type:=84,pos:=(if ad then "rat.go:118" else "rat.go:124"),after:=#[],guard:=none }) rfl (fun K hK=>?_) ?_
 ·go_simp
  refine hK _ _ ?_;exact fK h d1 o1 p8 w.heap.size p16 _ (bj.alloc (A:=[p8]) (B:=[p16]) m)
 exact AllReady.nil
theorem j9 (h:fi ad bz bx bY x1 y1 x2 y2 L M w0 Q)  (d1 o1 p9 p16:Nat) (w:World) (m:bj w0 w [p9,p16] [⟨d1,o1,(y2:Int),M⟩,⟨bx,0,x1,L⟩,⟨bY,0,y1,M⟩]) :
  wpAny Tryz.prog .any (bO ad) Q 6 #[false,true,true,true,true,true,true,false,true,true,true,true,true,false,false,false,false] ⟨#[pp bz 0,pp bx 0,pp bY 0,undef,undef,undef,.pointer none,undef,undef,pp p9 0,pp bx 0,pp bx 0,pp bx 0,pp bY 0,pp d1 o1,undef,pp p16 0,pp bY 0,pp bY 0,pp bY 0,pp bx 0,undef,undef,undef,undef,undef,undef,undef,undef,undef,undef,undef,undef],[]⟩ w:=by
 have hL:=h.hL;unfold pp;refine wpAny_ready (rs:=[0,7]) (by kernel_rfl) (by simp) ?_;refine AllReady.cons (o:={ dst:=some 8,op:=Op.alloc 51,type:=84,pos:=(if ad then "rat.go:118" else "rat.go:124"),after:=#[],guard:=none }) rfl (fun K hK=>?_) ?_
 ·go_simp
  refine hK _ _ ?_;exact fK h d1 o1 w.heap.size p9 p16 _ (bj.alloc (A:=[]) (B:=[p9,p16]) m)
 refine AllReady.cons (o:={ dst:=some 15,op:=Op.call { callee:=Callee.value (Operand.func 42),args:=#[Operand.tmp 9,Operand.tmp 12,Operand.tmp 14],argTypes:=#[84,84,84] },type:=84,pos:=(if ad then "rat.go:118" else "rat.go:124"),after:=#[⟨1,.data⟩,⟨4,.data⟩,⟨6,.data⟩,⟨6,.chain⟩],guard:=none }) rfl (fun K hK=>?_) ?_
 ·go_simp
  refine (bj.mul (A:=[]) (B:=[p16]) m (x:=x1) (y:=(y2:Int)) (L:=L) (M:=M) (by simp) (by simp) (by omega)).mono ?_;rintro e w1 ⟨rfl,m1⟩;go_wp2;exact nC h d1 o1 p9 p16 _ m1
 exact AllReady.nil
theorem rq (h:fi ad bz bx bY x1 y1 x2 y2 L M w0 Q)  (d1 o1 p8:Nat) (w:World) (m:bj w0 w [p8] [⟨d1,o1,(y2:Int),M⟩,⟨bx,0,x1,L⟩,⟨bY,0,y1,M⟩]) :
  wpAny Tryz.prog .any (bO ad) Q 7 #[true,false,true,true,true,true,true,false,false,true,true,true,true,false,false,false,false] ⟨#[pp bz 0,pp bx 0,pp bY 0,undef,undef,undef,.pointer none,undef,pp p8 0,undef,pp bx 0,pp bx 0,pp bx 0,pp bY 0,pp d1 o1,undef,undef,pp bY 0,pp bY 0,pp bY 0,pp bx 0,undef,undef,undef,undef,undef,undef,undef,undef,undef,undef,undef,undef],[]⟩ w:=by
 have hL:=h.hL;unfold pp;refine wpAny_ready (rs:=[1,8]) (by kernel_rfl) (by simp) ?_;refine AllReady.cons (o:={ dst:=some 9,op:=Op.alloc 51,type:=84,pos:=(if ad then "rat.go:118" else "rat.go:124"),after:=#[],guard:=none }) rfl (fun K hK=>?_) ?_
 ·go_simp
  refine hK _ _ ?_;exact j7 h d1 o1 p8 w.heap.size _ (bj.alloc (A:=[p8]) (B:=[]) m)
 refine AllReady.cons (o:={ dst:=some 16,op:=Op.alloc 51,type:=84,pos:=(if ad then "rat.go:118" else "rat.go:124"),after:=#[],guard:=none }) rfl (fun K hK=>?_) ?_
 ·go_simp
  refine hK _ _ ?_;exact j8 h d1 o1 p8 w.heap.size _ (bj.alloc (A:=[p8]) (B:=[]) m)
 exact AllReady.nil
theorem rt (h:fi ad bz bx bY x1 y1 x2 y2 L M w0 Q)  (d1 o1 p9:Nat) (w:World) (m:bj w0 w [p9] [⟨d1,o1,(y2:Int),M⟩,⟨bx,0,x1,L⟩,⟨bY,0,y1,M⟩]) :
  wpAny Tryz.prog .any (bO ad) Q 7 #[false,true,true,true,true,true,true,false,false,true,true,true,true,false,false,false,false] ⟨#[pp bz 0,pp bx 0,pp bY 0,undef,undef,undef,.pointer none,undef,undef,pp p9 0,pp bx 0,pp bx 0,pp bx 0,pp bY 0,pp d1 o1,undef,undef,pp bY 0,pp bY 0,pp bY 0,pp bx 0,undef,undef,undef,undef,undef,undef,undef,undef,undef,undef,undef,undef],[]⟩ w:=by
 have hL:=h.hL;unfold pp;refine wpAny_ready (rs:=[0,7,8]) (by kernel_rfl) (by simp) ?_;refine AllReady.cons (o:={ dst:=some 8,op:=Op.alloc 51,type:=84,pos:=(if ad then "rat.go:118" else "rat.go:124"),after:=#[],guard:=none }) rfl (fun K hK=>?_) ?_
 ·go_simp
  refine hK _ _ ?_;exact j7 h d1 o1 w.heap.size p9 _ (bj.alloc (A:=[]) (B:=[p9]) m)
 refine AllReady.cons (o:={ dst:=some 15,op:=Op.call { callee:=Callee.value (Operand.func 42),args:=#[Operand.tmp 9,Operand.tmp 12,Operand.tmp 14],argTypes:=#[84,84,84] },type:=84,pos:=(if ad then "rat.go:118" else "rat.go:124"),after:=#[⟨1,.data⟩,⟨4,.data⟩,⟨6,.data⟩,⟨6,.chain⟩],guard:=none }) rfl (fun K hK=>?_) ?_
 ·go_simp
  refine (bj.mul (A:=[]) (B:=[]) m (x:=x1) (y:=(y2:Int)) (L:=L) (M:=M) (by simp) (by simp) (by omega)).mono ?_;rintro e w1 ⟨rfl,m1⟩;go_wp2;exact zV h d1 o1 p9 _ m1
 refine AllReady.cons (o:={ dst:=some 16,op:=Op.alloc 51,type:=84,pos:=(if ad then "rat.go:118" else "rat.go:124"),after:=#[],guard:=none }) rfl (fun K hK=>?_) ?_
 ·go_simp
  refine hK _ _ ?_;exact j9 h d1 o1 p9 w.heap.size _ (bj.alloc (A:=[p9]) (B:=[]) m)
 exact AllReady.nil
theorem ru (h:fi ad bz bx bY x1 y1 x2 y2 L M w0 Q)  (d1 o1 p16:Nat) (w:World) (m:bj w0 w [p16] [⟨d1,o1,(y2:Int),M⟩,⟨bx,0,x1,L⟩,⟨bY,0,y1,M⟩]) :
  wpAny Tryz.prog .any (bO ad) Q 7 #[false,false,true,true,true,true,true,false,true,true,true,true,true,false,false,false,false] ⟨#[pp bz 0,pp bx 0,pp bY 0,undef,undef,undef,.pointer none,undef,undef,undef,pp bx 0,pp bx 0,pp bx 0,pp bY 0,pp d1 o1,undef,pp p16 0,pp bY 0,pp bY 0,pp bY 0,pp bx 0,undef,undef,undef,undef,undef,undef,undef,undef,undef,undef,undef,undef],[]⟩ w:=by
 have hL:=h.hL;unfold pp;refine wpAny_ready (rs:=[0,1]) (by kernel_rfl) (by simp) ?_;refine AllReady.cons (o:={ dst:=some 8,op:=Op.alloc 51,type:=84,pos:=(if ad then "rat.go:118" else "rat.go:124"),after:=#[],guard:=none }) rfl (fun K hK=>?_) ?_
 ·go_simp
  refine hK _ _ ?_;exact j8 h d1 o1 w.heap.size p16 _ (bj.alloc (A:=[]) (B:=[p16]) m)
 refine AllReady.cons (o:={ dst:=some 9,op:=Op.alloc 51,type:=84,pos:=(if ad then "rat.go:118" else "rat.go:124"),after:=#[],guard:=none }) rfl (fun K hK=>?_) ?_
 ·go_simp
  refine hK _ _ ?_;exact j9 h d1 o1 w.heap.size p16 _ (bj.alloc (A:=[]) (B:=[p16]) m)
 exact AllReady.nil
theorem subT_1_ (h:fi ad bz bx bY x1 y1 x2 y2 L M w0 Q)  (d1 o1:Nat) (w:World) (m:bj w0 w [] [⟨d1,o1,(y2:Int),M⟩,⟨bx,0,x1,L⟩,⟨bY,0,y1,M⟩]) :
  wpAny Tryz.prog .any (bO ad) Q 8 #[false,false,true,true,true,true,true,false,false,true,true,true,true,false,false,false,false] ⟨#[pp bz 0,pp bx 0,pp bY 0,undef,undef,undef,.pointer none,undef,undef,undef,pp bx 0,pp bx 0,pp bx 0,pp bY 0,pp d1 o1,undef,undef,pp bY 0,pp bY 0,pp bY 0,pp bx 0,undef,undef,undef,undef,undef,undef,undef,undef,undef,undef,undef,undef],[]⟩ w:=by
 have hL:=h.hL;unfold pp;refine wpAny_ready (rs:=[0,1,8]) (by kernel_rfl) (by simp) ?_;refine AllReady.cons (o:={ dst:=some 8,op:=Op.alloc 51,type:=84,pos:=(if ad then "rat.go:118" else "rat.go:124"),after:=#[],guard:=none }) rfl (fun K hK=>?_) ?_
 ·go_simp
  refine hK _ _ ?_;exact rq h d1 o1 w.heap.size _ (bj.alloc (A:=[]) (B:=[]) m)
 refine AllReady.cons (o:={ dst:=some 9,op:=Op.alloc 51,type:=84,pos:=(if ad then "rat.go:118" else "rat.go:124"),after:=#[],guard:=none }) rfl (fun K hK=>?_) ?_
 ·go_simp
  refine hK _ _ ?_;exact rt h d1 o1 w.heap.size _ (bj.alloc (A:=[]) (B:=[]) m)
 refine AllReady.cons (o:={ dst:=some 16,op:=Op.alloc 51,type:=84,pos:=(if ad then "rat.go:118" else "rat.go:124"),after:=#[],guard:=none }) rfl (fun K hK=>?_) ?_
 ·go_simp
  refine hK _ _ ?_;exact ru h d1 o1 w.heap.size _ (bj.alloc (A:=[]) (B:=[]) m)
 exact AllReady.nil
theorem ix (h:fi ad bz bx bY x1 y1 x2 y2 L M w0 Q)  (p8 p9 p16:Nat) (w:World) (m:bj w0 w [p8,p9,p16] [⟨bx,0,x1,L⟩,⟨bY,0,y1,M⟩]) :
  wpAny Tryz.prog .any (bO ad) Q 6 #[true,true,true,true,true,true,false,false,true,true,true,true,true,false,false,false,false] ⟨#[pp bz 0,pp bx 0,pp bY 0,undef,undef,undef,.pointer none,undef,pp p8 0,pp p9 0,pp bx 0,pp bx 0,pp bx 0,pp bY 0,undef,undef,pp p16 0,pp bY 0,pp bY 0,pp bY 0,pp bx 0,undef,undef,undef,undef,undef,undef,undef,undef,undef,undef,undef,undef],[]⟩ w:=by
 have hL:=h.hL;unfold pp;refine wpAny_ready (rs:=[6]) (by kernel_rfl) (by simp) ?_;refine AllReady.cons (o:={ dst:=some 14,op:=Op.call { callee:=Callee.value (Operand.func 43),args:=#[Operand.tmp 13],argTypes:=#[37] },type:=84,pos:=(if ad then "rat.go:118" else "rat.go:124"),after:=#[⟨5,.data⟩],guard:=none }) rfl (fun K hK=>?_) ?_
 ·go_simp
  refine (h.dy _ _ _ m).mono ?_;rintro e w1 ⟨d1,o1,rfl,_,m1⟩;go_wp2;exact fK h d1 o1 p8 p9 p16 _ m1
 exact AllReady.nil
theorem nt (h:fi ad bz bx bY x1 y1 x2 y2 L M w0 Q)  (p8 p9:Nat) (w:World) (m:bj w0 w [p8,p9] [⟨bx,0,x1,L⟩,⟨bY,0,y1,M⟩]) :
  wpAny Tryz.prog .any (bO ad) Q 7 #[true,true,true,true,true,true,false,false,false,true,true,true,true,false,false,false,false] ⟨#[pp bz 0,pp bx 0,pp bY 0,undef,undef,undef,.pointer none,undef,pp p8 0,pp p9 0,pp bx 0,pp bx 0,pp bx 0,pp bY 0,undef,undef,undef,pp bY 0,pp bY 0,pp bY 0,pp bx 0,undef,undef,undef,undef,undef,undef,undef,undef,undef,undef,undef,undef],[]⟩ w:=by
 have hL:=h.hL;unfold pp;refine wpAny_ready (rs:=[6,8]) (by kernel_rfl) (by simp) ?_;refine AllReady.cons (o:={ dst:=some 14,op:=Op.call { callee:=Callee.value (Operand.func 43),args:=#[Operand.tmp 13],argTypes:=#[37] },type:=84,pos:=(if ad then "rat.go:118" else "rat.go:124"),after:=#[⟨5,.data⟩],guard:=none }) rfl (fun K hK=>?_) ?_
 ·go_simp
  refine (h.dy _ _ _ m).mono ?_;rintro e w1 ⟨d1,o1,rfl,_,m1⟩;go_wp2;exact j7 h d1 o1 p8 p9 _ m1
 refine AllReady.cons (o:={ dst:=some 16,op:=Op.alloc 51,type:=84,pos:=(if ad then "rat.go:118" else "rat.go:124"),after:=#[],guard:=none }) rfl (fun K hK=>?_) ?_
 ·go_simp
  refine hK _ _ ?_;exact ix h p8 p9 w.heap.size _ (bj.alloc (A:=[p8,p9]) (B:=[]) m)
 exact AllReady.nil
theorem nu (h:fi ad bz bx bY x1 y1 x2 y2 L M w0 Q)  (p8 p16:Nat) (w:World) (m:bj w0 w [p8,p16] [⟨bx,0,x1,L⟩,⟨bY,0,y1,M⟩]) :
  wpAny Tryz.prog .any (bO ad) Q 7 #[true,false,true,true,true,true,false,false,true,true,true,true,true,false,false,false,false] ⟨#[pp bz 0,pp bx 0,pp bY 0,undef,undef,undef,.pointer none,undef,pp p8 0,undef,pp bx 0,pp bx 0,pp bx 0,pp bY 0,undef,undef,pp p16 0,pp bY 0,pp bY 0,pp bY 0,pp bx 0,undef,undef,undef,undef,undef,undef,undef,undef,undef,undef,undef,undef],[]⟩ w:=by
 have hL:=h.hL;unfold pp;refine wpAny_ready (rs:=[1,6]) (by kernel_rfl) (by simp) ?_;refine AllReady.cons (o:={ dst:=some 9,op:=Op.alloc 51,type:=84,pos:=(if ad then "rat.go:118" else "rat.go:124"),after:=#[],guard:=none }) rfl (fun K hK=>?_) ?_
 ·go_simp
  refine hK _ _ ?_;exact ix h p8 w.heap.size p16 _ (bj.alloc (A:=[p8]) (B:=[p16]) m)
 refine AllReady.cons (o:={ dst:=some 14,op:=Op.call { callee:=Callee.value (Operand.func 43),args:=#[Operand.tmp 13],argTypes:=#[37] },type:=84,pos:=(if ad then "rat.go:118" else "rat.go:124"),after:=#[⟨5,.data⟩],guard:=none }) rfl (fun K hK=>?_) ?_
 ·go_simp
  refine (h.dy _ _ _ m).mono ?_;rintro e w1 ⟨d1,o1,rfl,_,m1⟩;go_wp2;exact j8 h d1 o1 p8 p16 _ m1
 exact AllReady.nil
theorem nA (h:fi ad bz bx bY x1 y1 x2 y2 L M w0 Q)  (p9 p16:Nat) (w:World) (m:bj w0 w [p9,p16] [⟨bx,0,x1,L⟩,⟨bY,0,y1,M⟩]) :
  wpAny Tryz.prog .any (bO ad) Q 7 #[false,true,true,true,true,true,false,false,true,true,true,true,true,false,false,false,false] ⟨#[pp bz 0,pp bx 0,pp bY 0,undef,undef,undef,.pointer none,undef,undef,pp p9 0,pp bx 0,pp bx 0,pp bx 0,pp bY 0,undef,undef,pp p16 0,pp bY 0,pp bY 0,pp bY 0,pp bx 0,undef,undef,undef,undef,undef,undef,undef,undef,undef,undef,undef,undef],[]⟩ w:=by
 have hL:=h.hL;unfold pp;refine wpAny_ready (rs:=[0,6]) (by kernel_rfl) (by simp) ?_;refine AllReady.cons (o:={ dst:=some 8,op:=Op.alloc 51,type:=84,pos:=(if ad then "rat.go:118" else "rat.go:124"),after:=#[],guard:=none }) rfl (fun K hK=>?_) ?_
 ·go_simp
  refine hK _ _ ?_;exact ix h w.heap.size p9 p16 _ (bj.alloc (A:=[]) (B:=[p9,p16]) m)
 refine AllReady.cons (o:={ dst:=some 14,op:=Op.call { callee:=Callee.value (Operand.func 43),args:=#[Operand.tmp 13],argTypes:=#[37] },type:=84,pos:=(if ad then "rat.go:118" else "rat.go:124"),after:=#[⟨5,.data⟩],guard:=none }) rfl (fun K hK=>?_) ?_
 ·go_simp
  refine (h.dy _ _ _ m).mono ?_;rintro e w1 ⟨d1,o1,rfl,_,m1⟩;go_wp2;exact j9 h d1 o1 p9 p16 _ m1
 exact AllReady.nil
theorem zS (h:fi ad bz bx bY x1 y1 x2 y2 L M w0 Q)  (p8:Nat) (w:World) (m:bj w0 w [p8] [⟨bx,0,x1,L⟩,⟨bY,0,y1,M⟩]) :
  wpAny Tryz.prog .any (bO ad) Q 8 #[true,false,true,true,true,true,false,false,false,true,true,true,true,false,false,false,false] ⟨#[pp bz 0,pp bx 0,pp bY 0,undef,undef,undef,.pointer none,undef,pp p8 0,undef,pp bx 0,pp bx 0,pp bx 0,pp bY 0,undef,undef,undef,pp bY 0,pp bY 0,pp bY 0,pp bx 0,undef,undef,undef,undef,undef,undef,undef,undef,undef,undef,undef,undef],[]⟩ w:=by
 have hL:=h.hL;unfold pp;refine wpAny_ready (rs:=[1,6,8]) (by kernel_rfl) (by simp) ?_;refine AllReady.cons (o:={ dst:=some 9,op:=Op.alloc 51,type:=84,pos:=(if ad then "rat.go:118" else "rat.go:124"),after:=#[],guard:=none }) rfl (fun K hK=>?_) ?_
 ·go_simp
  refine hK _ _ ?_;exact nt h p8 w.heap.size _ (bj.alloc (A:=[p8]) (B:=[]) m)
 refine AllReady.cons (o:={ dst:=some 14,op:=Op.call { callee:=Callee.value (Operand.func 43),args:=#[Operand.tmp 13],argTypes:=#[37] },type:=84,pos:=(if ad then "rat.go:118" else "rat.go:124"),after:=#[⟨5,.data⟩],guard:=none }) rfl (fun K hK=>?_) ?_
 ·go_simp
  refine (h.dy _ _ _ m).mono ?_;rintro e w1 ⟨d1,o1,rfl,_,m1⟩;go_wp2;exact rq h d1 o1 p8 _ m1
 refine AllReady.cons (o:={ dst:=some 16,op:=Op.alloc 51,type:=84,pos:=(if ad then "rat.go:118" else "rat.go:124"),after:=#[],guard:=none }) rfl (fun K hK=>?_) ?_
 ·go_simp
  refine hK _ _ ?_;exact nu h p8 w.heap.size _ (bj.alloc (A:=[p8]) (B:=[]) m)
 exact AllReady.nil
theorem zT (h:fi ad bz bx bY x1 y1 x2 y2 L M w0 Q)  (p9:Nat) (w:World) (m:bj w0 w [p9] [⟨bx,0,x1,L⟩,⟨bY,0,y1,M⟩]) :
  wpAny Tryz.prog .any (bO ad) Q 8 #[false,true,true,true,true,true,false,false,false,true,true,true,true,false,false,false,false] ⟨#[pp bz 0,pp bx 0,pp bY 0,undef,undef,undef,.pointer none,undef,undef,pp p9 0,pp bx 0,pp bx 0,pp bx 0,pp bY 0,undef,undef,undef,pp bY 0,pp bY 0,pp bY 0,pp bx 0,undef,undef,undef,undef,undef,undef,undef,undef,undef,undef,undef,undef],[]⟩ w:=by
 have hL:=h.hL;unfold pp;refine wpAny_ready (rs:=[0,6,8]) (by kernel_rfl) (by simp) ?_;refine AllReady.cons (o:={ dst:=some 8,op:=Op.alloc 51,type:=84,pos:=(if ad then "rat.go:118" else "rat.go:124"),after:=#[],guard:=none }) rfl (fun K hK=>?_) ?_
 ·go_simp
  refine hK _ _ ?_;exact nt h w.heap.size p9 _ (bj.alloc (A:=[]) (B:=[p9]) m)
 refine AllReady.cons (o:={ dst:=some 14,op:=Op.call { callee:=Callee.value (Operand.func 43),args:=#[Operand.tmp 13],argTypes:=#[37] },type:=84,pos:=(if ad then "rat.go:118" else "rat.go:124"),after:=#[⟨5,.data⟩],guard:=none }) rfl (fun K hK=>?_) ?_
 ·go_simp
  refine (h.dy _ _ _ m).mono ?_;rintro e w1 ⟨d1,o1,rfl,_,m1⟩;go_wp2;exact rt h d1 o1 p9 _ m1
 refine AllReady.cons (o:={ dst:=some 16,op:=Op.alloc 51,type:=84,pos:=(if ad then "rat.go:118" else "rat.go:124"),after:=#[],guard:=none }) rfl (fun K hK=>?_) ?_
 ·go_simp
  refine hK _ _ ?_;exact nA h p9 w.heap.size _ (bj.alloc (A:=[p9]) (B:=[]) m)
 exact AllReady.nil
theorem zU (h:fi ad bz bx bY x1 y1 x2 y2 L M w0 Q)  (p16:Nat) (w:World) (m:bj w0 w [p16] [⟨bx,0,x1,L⟩,⟨bY,0,y1,M⟩]) :
  wpAny Tryz.prog .any (bO ad) Q 8 #[false,false,true,true,true,true,false,false,true,true,true,true,true,false,false,false,false] ⟨#[pp bz 0,pp bx 0,pp bY 0,undef,undef,undef,.pointer none,undef,undef,undef,pp bx 0,pp bx 0,pp bx 0,pp bY 0,undef,undef,pp p16 0,pp bY 0,pp bY 0,pp bY 0,pp bx 0,undef,undef,undef,undef,undef,undef,undef,undef,undef,undef,undef,undef],[]⟩ w:=by
 have hL:=h.hL;unfold pp;refine wpAny_ready (rs:=[0,1,6]) (by kernel_rfl) (by simp) ?_;refine AllReady.cons (o:={ dst:=some 8,op:=Op.alloc 51,type:=84,pos:=(if ad then "rat.go:118" else "rat.go:124"),after:=#[],guard:=none }) rfl (fun K hK=>?_) ?_
 ·go_simp
  refine hK _ _ ?_;exact nu h w.heap.size p16 _ (bj.alloc (A:=[]) (B:=[p16]) m)
 refine AllReady.cons (o:={ dst:=some 9,op:=Op.alloc 51,type:=84,pos:=(if ad then "rat.go:118" else "rat.go:124"),after:=#[],guard:=none }) rfl (fun K hK=>?_) ?_
 ·go_simp
  refine hK _ _ ?_;exact nA h w.heap.size p16 _ (bj.alloc (A:=[]) (B:=[p16]) m)
 refine AllReady.cons (o:={ dst:=some 14,op:=Op.call { callee:=Callee.value (Operand.func 43),args:=#[Operand.tmp 13],argTypes:=#[37] },type:=84,pos:=(if ad then "rat.go:118" else "rat.go:124"),after:=#[⟨5,.data⟩],guard:=none }) rfl (fun K hK=>?_) ?_
 ·go_simp
  refine (h.dy _ _ _ m).mono ?_;rintro e w1 ⟨d1,o1,rfl,_,m1⟩;go_wp2;exact ru h d1 o1 p16 _ m1
 exact AllReady.nil
theorem xZ (h:fi ad bz bx bY x1 y1 x2 y2 L M w0 Q)  (w:World) (m:bj w0 w [] [⟨bx,0,x1,L⟩,⟨bY,0,y1,M⟩]) :
  wpAny Tryz.prog .any (bO ad) Q 9 #[false,false,true,true,true,true,false,false,false,true,true,true,true,false,false,false,false] ⟨#[pp bz 0,pp bx 0,pp bY 0,undef,undef,undef,.pointer none,undef,undef,undef,pp bx 0,pp bx 0,pp bx 0,pp bY 0,undef,undef,undef,pp bY 0,pp bY 0,pp bY 0,pp bx 0,undef,undef,undef,undef,undef,undef,undef,undef,undef,undef,undef,undef],[]⟩ w:=by
 have hL:=h.hL;unfold pp;refine wpAny_ready (rs:=[0,1,6,8]) (by kernel_rfl) (by simp) ?_;refine AllReady.cons (o:={ dst:=some 8,op:=Op.alloc 51,type:=84,pos:=(if ad then "rat.go:118" else "rat.go:124"),after:=#[],guard:=none }) rfl (fun K hK=>?_) ?_
 ·go_simp
  refine hK _ _ ?_;exact zS h w.heap.size _ (bj.alloc (A:=[]) (B:=[]) m)
 refine AllReady.cons (o:={ dst:=some 9,op:=Op.alloc 51,type:=84,pos:=(if ad then "rat.go:118" else "rat.go:124"),after:=#[],guard:=none }) rfl (fun K hK=>?_) ?_
 ·go_simp
  refine hK _ _ ?_;exact zT h w.heap.size _ (bj.alloc (A:=[]) (B:=[]) m)
 refine AllReady.cons (o:={ dst:=some 14,op:=Op.call { callee:=Callee.value (Operand.func 43),args:=#[Operand.tmp 13],argTypes:=#[37] },type:=84,pos:=(if ad then "rat.go:118" else "rat.go:124"),after:=#[⟨5,.data⟩],guard:=none }) rfl (fun K hK=>?_) ?_
 ·go_simp
  refine (h.dy _ _ _ m).mono ?_;rintro e w1 ⟨d1,o1,rfl,_,m1⟩;go_wp2;exact subT_1_ h d1 o1 _ m1
 refine AllReady.cons (o:={ dst:=some 16,op:=Op.alloc 51,type:=84,pos:=(if ad then "rat.go:118" else "rat.go:124"),after:=#[],guard:=none }) rfl (fun K hK=>?_) ?_
 ·go_simp
  refine hK _ _ ?_;exact zU h w.heap.size _ (bj.alloc (A:=[]) (B:=[]) m)
 exact AllReady.nil
end
end Go.Proofs.YtfjnoikjhdpghaaGreatDoor
