/- Contracts that the proof leans on. -/
import Derived.Test.YtkhgaelnglndiaaGreatDoorXCBf
import Derived.Test.YtkhgaelnglndiaaGreatDoorXCBd
import Derived.Test.YtkhgaelnglndiaaGreatDoorXCNa
namespace Go.Proofs.YtkhgaelnglndiaaGreatDoor
open Go.RowKit
set_option linter.unusedVariables false
set_option linter.unusedSimpArgs false
set_option maxHeartbeats 8000000
set_option maxRecDepth 10000
def RV (w:World) (b:Nat) (q:Rat) (L:Nat):Prop:=RQ w b q L∨(q=0/\RNil w b L)
theorem RV.x {w:World} {b L:Nat} {q:Rat} (h:RV w b q L) (hL:2<=L):RX w b q L:=by
 rcases h with h | ⟨rfl,h⟩
 ·exact h.x
 ·exact h.x hL
theorem Ws.keepV {w w':World} {v:Value} {xs:List Nat} {k:Nat} (h:Ws w v xs) (hg:w.grownBy w' (some k)) (hn:NoWords w k):Ws w' v xs:=by
 refine ⟨h.sm,?_⟩;rcases h.sh with h1 | ⟨b,off,cap,rfl,hb,hl,hm,hc⟩
 ·exact .inl h1
 ·refine .inr ⟨b,off,cap,rfl,Nat.lt_of_lt_of_le hb hg.size,hl,hm,fun i hi=>?_⟩;have hne:b≠k:=fun e=>hn (off+i) xs[i] (by rw [<- e];exact hc i hi)
  have e:w'.heap[b]? = w.heap[b]?:=hg.block b hb (fun e=>hne (Option.some.inj e));exact (World.cell?_of_block (a:=⟨b,off+i,none⟩) e).trans (hc i hi)
theorem IntAt.keepV {w w':World} {b off L:Nat} {z:Int} {k:Nat} (h:IntAt w b off z L) (hg:w.grownBy w' (some k)) (hn:NoWords w k) (hne:b≠k):IntAt w' b off z L:=by
 obtain ⟨neg,v,h1,⟨xs,h2,h3⟩,h4⟩:=h;have e:w'.heap[b]? = w.heap[b]?:=hg.block b h1.lt (fun e=>hne (Option.some.inj e));exact ⟨neg,v,⟨(World.cell?_of_block (a:=⟨b,off,none⟩) e).trans h1.c0,(World.cell?_of_block (a:=⟨b,off+1,none⟩) e).trans h1.c1,(World.frozen?_of_block (a:=⟨b,off,none⟩) e).trans h1.f0,(World.frozen?_of_block (a:=⟨b,off+1,none⟩) e).trans h1.f1⟩,⟨xs,h2.keepV hg hn,h3⟩,h4⟩
theorem RV.keepV {w w':World} {b L:Nat} {q:Rat} {k:Nat} (h:RV w b q L) (hg:w.grownBy w' (some k)) (hn:NoWords w k) (hne:b≠k):RV w' b q L:=by
 rcases h with h | ⟨e,h⟩
 ·exact .inl ⟨h.1.keepV hg hn hne,h.2.1.keepV hg hn hne,h.2.2⟩
 ·exact .inr ⟨e,h.1.keepV hg hn hne,h.2.keepV hg hn hne⟩
end Go.Proofs.YtkhgaelnglndiaaGreatDoor
