/- Contracts that the proof leans on. -/
import Derived.Test.YthblidglcppakaaGreatDoorXCFd
import Derived.Test.YthblidglcppakaaGreatDoorXCSa
import Derived.Deep.RegionHeld3
namespace Go.Proofs.YthblidglcppakaaGreatDoor
open Go.RowKit
set_option linter.unusedVariables false
set_option linter.unusedSimpArgs false
set_option maxHeartbeats 8000000
set_option maxRecDepth 10000
open Go Go.RowKit
section
variable {P:Program} {ops:Array Oper} {Q:Exit->Act->World->Prop} {md:Region.Mode} {S:World->Prop}
def bR (ops:Array Oper) (i:Nat):Oper:=(ops[i]?).getD ⟨none,.move (.const undef),0, "",#[],none⟩
theorem lD {ops:Array Oper} {i:Nat} (h:(ops[i]?).isSome=true):ops[i]? = some (bR ops i):=by
 obtain ⟨o,ho⟩:=Option.isSome_iff_exists.1 h;unfold bR;rw [ho];rfl
def pA:List (Nat×Nat×Value)->Act->Act
 | [],a=>a
 | t :: ts,a=>pA ts (a.put (some t.2.1) t.2.2)
def pL:List (Nat×Nat×Value)->Array Bool->Array Bool
 | [],l=>l
 | t :: ts,l=>pL ts (l.setIfInBounds t.1 true)
def sP (md:Region.Mode) (ops:Array Oper):List (Nat×Nat)->Array Bool->Bool
 | [],_=>true
 | (i,d) :: ts,l=>(ops[i]?).isSome && (bR ops i).dst==some d && Region.free md ops l i && (Region.ready md ops l).contains i && sP md ops ts (l.setIfInBounds i true)
def xC (P:Program) (ops:Array Oper) (S:World->Prop):List (Nat×Nat×Value)->Act->Prop
 | [],_=>True
 | t :: ts,a=>(Region.wanted (bR ops t.1) (yielded ops a.tmps)=true/\∀ w,S w->(execOp a.eval (bR ops t.1)).run P w=.ok (.value t.2.2) w)/\xC P ops S ts (a.put (some t.2.1) t.2.2)
theorem takes {n:Nat} {w:World} (hs:Region.noSelect ops=true) (hS:S w) (hQ:∀ (c:_) (d:Nat) (v:Value) (a:Act) (w:World),Q (.panic c) (a.put (some d) v) w->Q (.panic c) a w) :
  ∀ (ts:List (Nat×Nat×Value)) (l:Array Bool) (a:Act),sP md ops (ts.map fun t=>(t.1,t.2.1)) l=true->xC P ops S ts a->wpAnyH P md ops Q S n (pL ts l) (pA ts a) w->wpAnyH P md ops Q S (n+ts.length) l a w
 | [],l,a,_,_,h=>h
 | t :: ts,l,a,hok,hy,h=>by
   simp only [List.map_cons,sP,Bool.and_eq_true,beq_iff_eq] at hok;obtain ⟨⟨⟨⟨h1,h2⟩,h3⟩,h4⟩,h5⟩:=hok;refine wpAnyH_take (i:=t.1) (oi:=bR ops t.1) (v:=t.2.2) (lD h1) hs h3 h4 (fun c a w h=>by rw [h2] at h;exact hQ c _ _ a w h) (.inl hy.1) hS ?_;rw [h2];exact takes hs hS hQ ts _ _ h5 hy.2 h
def sM (md:Region.Mode) (ops:Array Oper):List (Nat×Nat)->Array Bool->Act->Bool
 | [],_,_=>true
 | (i,d) :: ts,l,a=>(ops[i]?).isSome && (bR ops i).dst==some d && Region.free md ops l i && (Region.ready md ops l).contains i && !Region.wanted (bR ops i) (yielded ops a.tmps) && sM md ops ts (l.setIfInBounds i true) (a.put (some d) undef)
def vA:List (Nat×Nat)->Act->Act
 | [],a=>a
 | t :: ts,a=>vA ts (a.put (some t.2) undef)
def vL:List (Nat×Nat)->Array Bool->Array Bool
 | [],l=>l
 | t :: ts,l=>vL ts (l.setIfInBounds t.1 true)
theorem skips {n:Nat} {w:World} (hs:Region.noSelect ops=true) (hS:S w) (hQ:∀ (c:_) (d:Nat) (v:Value) (a:Act) (w:World),Q (.panic c) (a.put (some d) v) w->Q (.panic c) a w) :
  ∀ (ts:List (Nat×Nat)) (l:Array Bool) (a:Act),sM md ops ts l a=true->wpAnyH P md ops Q S n (vL ts l) (vA ts a) w->wpAnyH P md ops Q S (n+ts.length) l a w
 | [],l,a,_,h=>h
 | t :: ts,l,a,hok,h=>by
   simp only [sM,Bool.and_eq_true,beq_iff_eq,Bool.not_eq_true'] at hok;obtain ⟨⟨⟨⟨⟨h1,h2⟩,h3⟩,h4⟩,h5⟩,h6⟩:=hok;refine wpAnyH_take (i:=t.1) (oi:=bR ops t.1) (v:=undef) (lD h1) hs h3 h4 (fun c a w h=>by rw [h2] at h;exact hQ c _ _ a w h) (.inr ⟨h5,rfl⟩) hS ?_;rw [h2];exact skips hs hS hQ ts _ _ h6 h
theorem tk {N:Nat} {l:Array Bool} {a:Act} {w:World} (m:Nat) (ts:List (Nat×Nat×Value)) (h:wpAnyH P md ops Q S m (pL ts l) (pA ts a) w) (hm:N=m+ts.length:=by kernel_rfl) (hs:Region.noSelect ops=true:=by kernel_rfl)
  (hok:sP md ops (ts.map fun t=>(t.1,t.2.1)) l=true:=by kernel_rfl)
  (hy:xC P ops S ts a:=by
   ((repeat' apply And.intro)<;>first | exact True.intro | kernel_rfl | (intro w hSw;simp only [bR,List.getElem?_toArray,List.getElem?_cons_zero,List.getElem?_cons_succ,Option.getD_some,pA,vA,Act.put,ib,ig,ie];go_simp)))
  (hS:S w:=by assumption) (hQ:∀ (c:_) (d:Nat) (v:Value) (a:Act) (w:World),Q (.panic c) (a.put (some d) v) w->Q (.panic c) a w:=by exact fun _ _ _ _ _ h=>h):wpAnyH P md ops Q S N l a w :=
 hm▸takes hs hS hQ ts l a hok hy h
theorem sk {N:Nat} {l:Array Bool} {a:Act} {w:World} (m:Nat) (ts:List (Nat×Nat)) (h:wpAnyH P md ops Q S m (vL ts l) (vA ts a) w) (hm:N=m+ts.length:=by kernel_rfl) (hs:Region.noSelect ops=true:=by kernel_rfl)
  (hok:sM md ops ts l a=true:=by kernel_rfl) (hS:S w:=by assumption) (hQ:∀ (c:_) (d:Nat) (v:Value) (a:Act) (w:World),Q (.panic c) (a.put (some d) v) w->Q (.panic c) a w:=by exact fun _ _ _ _ _ h=>h):wpAnyH P md ops Q S N l a w :=
 hm▸skips hs hS hQ ts l a hok h
theorem qn {N:Nat} {l:Array Bool} {a:Act} {w:World} (m i:Nat)
  (h:∀ K':Act->World->Prop,Shut (∀ a w,S w->(S w->wpAnyH P md ops Q S m (l.setIfInBounds i true) a w)->K' a w)->if Region.wanted (bR ops i) (yielded ops a.tmps)=true then Oper.wp P (bR ops i) a w K' Q else K' (a.put (bR ops i).dst undef) w)
  (hr:Region.ready md ops l=[i]:=by kernel_rfl) (hm:N=m+1:=by kernel_rfl) (ho:(ops[i]?).isSome=true:=by kernel_rfl):wpAnyH P md ops Q S N l a w :=
 hm▸wpAnyH_ready hr (List.cons_ne_nil _ _) (AllReadyH.cons (lD ho) h AllReadyH.nil)
theorem hd (S:World->Prop) {id:Nat} {a:Act} {w:World} (h:S w.drew->wpAnyH P .any ops Q S ops.size (Array.replicate ops.size false) a w.drew) (hm:P.follows .mixedOrders=true:=by kernel_rfl) (hS:S w.drew:=by (try dsimp only);go_keep):(Code.region id ops true).wp P Q a w :=
 wp_region_held_drew hm hS h
theorem bk {X K:Act->World->Prop} {a:Act} {w:World} (hK:Shut (∀ a w,S w->(S w->X a w)->K a w)) (h:S w->X a w) (hS:S w:=by (try dsimp only);go_keep):K a w:=hK.out a w hS h
end
theorem q4 {α:Type} (l:List α) (i:Nat):l.toArray[i]? = l[i]?:=by simp
theorem q5 {α:Type} (x:α) (l:List α):(x :: l)[0]? = some x:=rfl
theorem q6 {α:Type} (x:α) (l:List α) (i:Nat):(x :: l)[i+1]? = l[i]?:=by simp
theorem q7 {α:Type} (x y:α):(some x).getD y=x:=rfl
theorem q1 {α:Type} (l:List α) (i:Nat) (x:α):l.toArray.setIfInBounds i x=(l.set i x).toArray:=List.setIfInBounds_toArray ..
theorem q2 {α:Type} (l:List α) (y x:α):(y :: l).set 0 x=x :: l:=rfl
theorem q3 {α:Type} (l:List α) (y x:α) (n:Nat):(y :: l).set (n+1) x=y :: l.set n x:=rfl
theorem q0 (a:Act) (d:Nat) (v:Value):a.put (some d) v = { a with tmps:=a.tmps.setIfInBounds d v }:=rfl
abbrev jG (w:World) (b:Nat):Prop:=w.cell? ⟨b,3,none⟩=some (.func (.func 99) #[] #[])/\w.cell? ⟨b,4,none⟩=some (.func (.func 100) #[] #[])/\w.cell? ⟨b,5,none⟩=some (.func (.func 81) #[] #[])/\w.cell? ⟨b,6,none⟩=some (.func (.func 101) #[] #[])
 /\ w.cell? ⟨b,7,none⟩=some (.func (.func 102) #[] #[])/\w.cell? ⟨b,8,none⟩=some (.func (.func 103) #[] #[])/\w.cell? ⟨b,9,none⟩=some (.func (.func 104) #[] #[])/\w.cell? ⟨b,10,none⟩=some (.func (.func 105) #[] #[])
abbrev dC (w:World) (b:Nat) (x y z:Value):Prop:=w.cell? ⟨b,0,none⟩=some x/\w.cell? ⟨b,1,none⟩=some y/\w.cell? ⟨b,2,none⟩=some z
abbrev lJ (w:World) (b:Nat) (x y:Value):Prop:=w.cell? ⟨b,0,none⟩=some x/\w.cell? ⟨b,1,none⟩=some y
abbrev kV (w:World) (b i:Nat) (x y z:Value):Prop:=w.cell? ⟨b,i*3,none⟩=some x/\w.cell? ⟨b,i*3+1,none⟩=some y/\w.cell? ⟨b,i*3+2,none⟩=some z
section
variable {w w':World} {b i:Nat} {r:Option Nat} {x y z:Value}
theorem jG.k (h:jG w b) (g:w.grownBy w' r) (n:some b≠r):jG w' b:=by
 obtain ⟨h1,h2,h3,h4,h5,h6,h7,h8⟩:=h;exact ⟨g.cell h1 n,g.cell h2 n,g.cell h3 n,g.cell h4 n,g.cell h5 n,g.cell h6 n,g.cell h7 n,g.cell h8 n⟩
theorem jG.k0 (h:jG w b) (g:w.grownBy w' none):jG w' b:=h.k g (by simp)
theorem dC.k (h:dC w b x y z) (g:w.grownBy w' r) (n:some b≠r):dC w' b x y z:=⟨g.cell h.1 n,g.cell h.2.1 n,g.cell h.2.2 n⟩
theorem dC.k0 (h:dC w b x y z) (g:w.grownBy w' none):dC w' b x y z:=h.k g (by simp)
theorem lJ.k (h:lJ w b x y) (g:w.grownBy w' r) (n:some b≠r):lJ w' b x y:=⟨g.cell h.1 n,g.cell h.2 n⟩
theorem lJ.k0 (h:lJ w b x y) (g:w.grownBy w' none):lJ w' b x y:=h.k g (by simp)
theorem kV.k0 (h:kV w b i x y z) (g:w.grownBy w' none):kV w' b i x y z:=⟨g.cell h.1 (by simp),g.cell h.2.1 (by simp),g.cell h.2.2 (by simp)⟩
theorem gx {wa wb:World} (g:w.grownBy wa none) (h:wa.grownBy wb none:=by first | exact aj _ | exact ah | exact ae _ _):w.grownBy wb none:=aa g h
theorem mN (fb:Bool) (o o2:Option Addr) (l c l2 c2:Nat) {T:TypeId} {w0:World} (hg:(w0.alloc (Obj.cells #[.bool fb,.slice o l c,.slice o2 l2 c2,.func (.func 99) #[] #[],.func (.func 100) #[] #[],.func (.func 81) #[] #[],.func (.func 101) #[] #[],.func (.func 102) #[] #[],.func (.func 103) #[] #[],.func (.func 104) #[] #[],.func (.func 105) #[] #[]] T)).grownBy w none):jG w w0.heap.size/\dC w w0.heap.size (.bool fb) (.slice o l c) (.slice o2 l2 c2) :=
 ⟨⟨hg.cell (by go_simp) (by simp),hg.cell (by go_simp) (by simp),hg.cell (by go_simp) (by simp),hg.cell (by go_simp) (by simp),hg.cell (by go_simp) (by simp),hg.cell (by go_simp) (by simp),hg.cell (by go_simp) (by simp),hg.cell (by go_simp) (by simp)⟩,hg.cell (by go_simp) (by simp),hg.cell (by go_simp) (by simp),hg.cell (by go_simp) (by simp)⟩
end
end Go.Proofs.YthblidglcppakaaGreatDoor
