/- Contracts. -/
import Derived.Test.YtbomdfhdocaagaaGreatDoorXPe
namespace Go.Proofs.YtbomdfhdocaagaaGreatDoor
open Go.RowKit
set_option linter.all false
set_option maxHeartbeats 8000000
set_option maxRecDepth 10000
open Go Go.RowKit
section
variable {P:Program} {ops:Array Oper} {Q:Exit->Act->World->Prop} {md:Region.Mode} {S:World->Prop}
variable {w:World} {a:Act} {l:Array Bool}
def ax (ops:Array Oper) (i:Nat):Oper:=(ops[i]?).getD ⟨none,.move (.const undef),0, "",#[],none⟩
def dG {b:Array Oper} {i:Nat} (h:(b[i]?).isSome=true):b[i]? = some (ax b i):=by
 obtain ⟨o,c⟩:=Option.isSome_iff_exists.1 h;unfold ax;rw [c];rfl
def pA:List (Nat×Nat×Value)->Act->Act
 | [],a=>a
 | t :: ts,a=>pA ts (a.put (some t.2.1) t.2.2)
def pL:List (Nat×Nat×Value)->Array Bool->Array Bool
 | [],l=>l
 | t :: ts,l=>pL ts (l.setIfInBounds t.1 true)
def ug (md:Region.Mode) (ops:Array Oper):List (Nat×Nat)->Array Bool->Bool
 | [],_=>true
 | (i,d) :: ts,l=>(ops[i]?).isSome && (ax ops i).dst==some d && Region.free md ops l i && (Region.ready md ops l).contains i && ug md ops ts (l.setIfInBounds i true)
def qO (P:Program) (ops:Array Oper) (S:World->Prop):List (Nat×Nat×Value)->Act->Prop
 | [],_=>True
 | t :: ts,a=>(Region.wanted (ax ops t.1) (yielded ops a.tmps)=true/\∀ w,S w->(execOp a.eval (ax ops t.1)).run P w=.ok (.value t.2.2) w)/\qO P ops S ts (a.put (some t.2.1) t.2.2)
def takes {n:Nat} (b:Region.noSelect ops=true) (hS:S w) (e:∀ (c:_) (d:Nat) (v:Value) (a:Act) (w:World),Q (.panic c) (a.put (some d) v) w->Q (.panic c) a w) :
  ∀ (ts:List (Nat×Nat×Value)) (l:Array Bool) (a:Act),ug md ops (ts.map fun t=>(t.1,t.2.1)) l=true->qO P ops S ts a->wpAnyH P md ops Q S n (pL ts l) (pA ts a) w->wpAnyH P md ops Q S (n+ts.length) l a w
 | [],l,a,_,_,h=>h
 | t :: ts,l,a,hok,hy,h=>by
   simp only [List.map_cons,ug,Bool.and_eq_true,beq_iff_eq] at hok;obtain ⟨⟨⟨⟨g,f⟩,j⟩,k⟩,m⟩:=hok;refine wpAnyH_take (i:=t.1) (oi:=ax ops t.1) (v:=t.2.2) (dG g) b j k (fun c a w h=>by rw [f] at h;exact e c _ _ a w h) (.inl hy.1) hS ?_;rw [f];exact takes b hS e ts _ _ m hy.2 h
def ud (md:Region.Mode) (ops:Array Oper):List (Nat×Nat)->Array Bool->Act->Bool
 | [],_,_=>true
 | (i,d) :: ts,l,a=>(ops[i]?).isSome && (ax ops i).dst==some d && Region.free md ops l i && (Region.ready md ops l).contains i && !Region.wanted (ax ops i) (yielded ops a.tmps) && ud md ops ts (l.setIfInBounds i true) (a.put (some d) undef)
def vA:List (Nat×Nat)->Act->Act
 | [],a=>a
 | t :: ts,a=>vA ts (a.put (some t.2) undef)
def vL:List (Nat×Nat)->Array Bool->Array Bool
 | [],l=>l
 | t :: ts,l=>vL ts (l.setIfInBounds t.1 true)
def skips {n:Nat} (b:Region.noSelect ops=true) (hS:S w) (e:∀ (c:_) (d:Nat) (v:Value) (a:Act) (w:World),Q (.panic c) (a.put (some d) v) w->Q (.panic c) a w) :
  ∀ (ts:List (Nat×Nat)) (l:Array Bool) (a:Act),ud md ops ts l a=true->wpAnyH P md ops Q S n (vL ts l) (vA ts a) w->wpAnyH P md ops Q S (n+ts.length) l a w
 | [],l,a,_,h=>h
 | t :: ts,l,a,hok,h=>by
   simp only [ud,Bool.and_eq_true,beq_iff_eq,Bool.not_eq_true'] at hok;obtain ⟨⟨⟨⟨⟨g,f⟩,j⟩,k⟩,m⟩,o⟩:=hok;refine wpAnyH_take (i:=t.1) (oi:=ax ops t.1) (v:=undef) (dG g) b j k (fun c a w h=>by rw [f] at h;exact e c _ _ a w h) (.inr ⟨m,rfl⟩) hS ?_;rw [f];exact skips b hS e ts _ _ o h
def tk {N:Nat} (m:Nat) (b:List (Nat×Nat×Value)) (h:wpAnyH P md ops Q S m (pL b l) (pA b a) w) (hm:N=m+b.length:=by kernel_rfl) (hs:Region.noSelect ops=true:=by kernel_rfl)
  (hok:ug md ops (b.map fun t=>(t.1,t.2.1)) l=true:=by kernel_rfl)
  (hy:qO P ops S b a:=by
   ((repeat' apply And.intro)<;>first | exact True.intro | kernel_rfl | (intro w e;simp only [ax,List.getElem?_toArray,List.getElem?_cons_zero,List.getElem?_cons_succ,Option.getD_some,pA,vA,Act.put,setA,setZ,setS];go_simp)))
  (hS:S w:=by assumption) (hQ:∀ (c:_) (d:Nat) (v:Value) (a:Act) (w:World),Q (.panic c) (a.put (some d) v) w->Q (.panic c) a w:=by exact fun _ _ _ _ _ h=>h):wpAnyH P md ops Q S N l a w :=
 hm▸takes hs hS hQ b l a hok hy h
def sk {N:Nat} (m:Nat) (b:List (Nat×Nat)) (h:wpAnyH P md ops Q S m (vL b l) (vA b a) w) (hm:N=m+b.length:=by kernel_rfl) (hs:Region.noSelect ops=true:=by kernel_rfl)
  (hok:ud md ops b l a=true:=by kernel_rfl) (hS:S w:=by assumption) (hQ:∀ (c:_) (d:Nat) (v:Value) (a:Act) (w:World),Q (.panic c) (a.put (some d) v) w->Q (.panic c) a w:=by exact fun _ _ _ _ _ h=>h):wpAnyH P md ops Q S N l a w :=
 hm▸skips hs hS hQ b l a hok h
def cX {N:Nat} (m i:Nat)
  (h:∀ K':Act->World->Prop,Shut (∀ a w,S w->(S w->wpAnyH P md ops Q S m (l.setIfInBounds i true) a w)->K' a w)->if Region.wanted (ax ops i) (yielded ops a.tmps)=true then Oper.wp P (ax ops i) a w K' Q else K' (a.put (ax ops i).dst undef) w)
  (hr:Region.ready md ops l=[i]:=by kernel_rfl) (hm:N=m+1:=by kernel_rfl) (ho:(ops[i]?).isSome=true:=by kernel_rfl):wpAnyH P md ops Q S N l a w :=
 hm▸wpAnyH_ready hr (List.cons_ne_nil _ _) (AllReadyH.cons (dG ho) h AllReadyH.nil)
def on1e {N:Nat} (m i:Nat) (o:Oper)
  (h:∀ K':Act->World->Prop,Shut (∀ a w,S w->(S w->wpAnyH P md ops Q S m (l.setIfInBounds i true) a w)->K' a w)->if Region.wanted o (yielded ops a.tmps)=true then Oper.wp P o a w K' Q else K' (a.put o.dst undef) w)
  (hr:Region.ready md ops l=[i]:=by kernel_rfl) (hm:N=m+1:=by kernel_rfl) (ho:ops[i]? = some o:=by rfl):wpAnyH P md ops Q S N l a w :=
 hm▸wpAnyH_ready hr (List.cons_ne_nil _ _) (AllReadyH.cons ho h AllReadyH.nil)
def hd (S:World->Prop) {id:Nat} (h:S w.drew->wpAnyH P .any ops Q S ops.size (Array.replicate ops.size false) a w.drew) (hm:P.follows .mixedOrders=true:=by kernel_rfl) (hS:S w.drew:=by (try dsimp only);go_keep):(Code.region id ops true).wp P Q a w :=
 wp_region_held_drew hm hS h
def bk {X K:Act->World->Prop} (b:Shut (∀ a w,S w->(S w->X a w)->K a w)) (h:S w->X a w) (hS:S w:=by (try dsimp only);go_keep):K a w:=b.out a w hS h
end
def q4 {α:Type} (l:List α) (i:Nat):l.toArray[i]? = l[i]?:=Z
def q5 {α:Type} (x:α) (l:List α):(x :: l)[0]? = some x:=rfl
def q6 {α:Type} (x:α) (l:List α) (i:Nat):(x :: l)[i+1]? = l[i]?:=Z
def q7 {α:Type} (x y:α):(some x).getD y=x:=rfl
def q1 {α:Type} (l:List α) (i:Nat) (x:α):l.toArray.setIfInBounds i x=(l.set i x).toArray:=List.setIfInBounds_toArray ..
def q2 {α:Type} (l:List α) (y x:α):(y :: l).set 0 x=x :: l:=rfl
def q3 {α:Type} (l:List α) (y x:α) (n:Nat):(y :: l).set (n+1) x=y :: l.set n x:=rfl
def q0 (a:Act) (d:Nat) (v:Value):a.put (some d) v = { a with tmps:=a.tmps.setIfInBounds d v }:=rfl
def zU:(∀ a,pA [] a=a)/\(∀ t s a,pA (t::s) a=pA s (a.put (some t.2.1) t.2.2))/\(∀ l,pL [] l=l)/\(∀ t s l,pL (t::s) l=pL s (l.setIfInBounds t.1 true))/\(∀ a,vA [] a=a)/\(∀ t s a,vA (t::s) a=vA s (a.put (some t.2) undef))/\(∀ l,vL [] l=l)/\(∀ t s l,vL (t::s) l=vL s (l.setIfInBounds t.1 true))/\(∀ (α:Type) (l:List α) (i:Nat) (x:α),l.toArray.setIfInBounds i x=(l.set i x).toArray)/\(∀ (α:Type) (l:List α) (y x:α),(y::l).set 0 x=x::l)/\(∀ (α:Type) (l:List α) (y x:α) (n:Nat),(y::l).set (n+1) x=y::l.set n x)/\∀ (a:Act) (d:Nat) (v:Value),a.put (some d) v={a with tmps:=a.tmps.setIfInBounds d v}:=⟨fun _=>rfl,fun _ _ _=>rfl,fun _=>rfl,fun _ _ _=>rfl,fun _=>rfl,fun _ _ _=>rfl,fun _=>rfl,fun _ _ _=>rfl,fun _ _ _ _=>q1 ..,fun _ _ _ _=>rfl,fun _ _ _ _ _=>rfl,fun _ _ _=>rfl⟩
abbrev fU (w:World) (b:Nat):Prop:=w.cell? ⟨b,3,none⟩=some (.func (.func 84) #[] #[])/\w.cell? ⟨b,4,none⟩=some (.func (.func 85) #[] #[])/\w.cell? ⟨b,5,none⟩=some (.func (.func 86) #[] #[])/\w.cell? ⟨b,6,none⟩=some (.func (.func 87) #[] #[])
 /\ w.cell? ⟨b,7,none⟩=some (.func (.func 88) #[] #[])/\w.cell? ⟨b,8,none⟩=some (.func (.func 89) #[] #[])/\w.cell? ⟨b,9,none⟩=some (.func (.func 90) #[] #[])/\w.cell? ⟨b,10,none⟩=some (.func (.func 91) #[] #[])
abbrev bL (w:World) (b:Nat) (x y z:Value):Prop:=w.cell? ⟨b,0,none⟩=some x/\w.cell? ⟨b,1,none⟩=some y/\w.cell? ⟨b,2,none⟩=some z
abbrev dP (w:World) (b:Nat) (x y:Value):Prop:=w.cell? ⟨b,0,none⟩=some x/\w.cell? ⟨b,1,none⟩=some y
abbrev eJ (w:World) (b i:Nat) (x y z:Value):Prop:=w.cell? ⟨b,i*3,none⟩=some x/\w.cell? ⟨b,i*3+1,none⟩=some y/\w.cell? ⟨b,i*3+2,none⟩=some z
section
variable {w w':World} {b i:Nat} {r:Option Nat} {x y z:Value}
def fU.k (h:fU w b) (g:w.grownBy w' r) (n:some b≠r):fU w' b:=by
 obtain ⟨c,d,e,f,i,j,m,o⟩:=h;exact ⟨g.cell c n,g.cell d n,g.cell e n,g.cell f n,g.cell i n,g.cell j n,g.cell m n,g.cell o n⟩
def fU.k0 (h:fU w b) (g:w.grownBy w' none):fU w' b:=h.k g Z
def bL.k (h:bL w b x y z) (g:w.grownBy w' r) (n:some b≠r):bL w' b x y z:=⟨g.cell h.1 n,g.cell h.2.1 n,g.cell h.2.2 n⟩
def bL.k0 (h:bL w b x y z) (g:w.grownBy w' none):bL w' b x y z:=h.k g Z
def dP.k (h:dP w b x y) (g:w.grownBy w' r) (n:some b≠r):dP w' b x y:=⟨g.cell h.1 n,g.cell h.2 n⟩
def dP.k0 (h:dP w b x y) (g:w.grownBy w' none):dP w' b x y:=h.k g Z
def eJ.k0 (h:eJ w b i x y z) (g:w.grownBy w' none):eJ w' b i x y z:=⟨g.cell h.1 Z,g.cell h.2.1 Z,g.cell h.2.2 Z⟩
def gx {b c:World} (g:w.grownBy b none) (h:b.grownBy c none:=by first | exact aS _ | exact aC | exact ae _ _):w.grownBy c none:=aa g h
def kC (b:Bool) (o d:Option Addr) (l c e c2:Nat) {T:TypeId} {w0:World} (hg:(w0.alloc (Obj.cells #[.bool b,.slice o l c,.slice d e c2,.func (.func 84) #[] #[],.func (.func 85) #[] #[],.func (.func 86) #[] #[],.func (.func 87) #[] #[],.func (.func 88) #[] #[],.func (.func 89) #[] #[],.func (.func 90) #[] #[],.func (.func 91) #[] #[]] T)).grownBy w none):fU w w0.heap.size/\bL w w0.heap.size (.bool b) (.slice o l c) (.slice d e c2) :=
 ⟨⟨hg.cell zG Z,hg.cell zG Z,hg.cell zG Z,hg.cell zG Z,hg.cell zG Z,hg.cell zG Z,hg.cell zG Z,hg.cell zG Z⟩,hg.cell zG Z,hg.cell zG Z,hg.cell zG Z⟩
end
end Go.Proofs.YtbomdfhdocaagaaGreatDoor
