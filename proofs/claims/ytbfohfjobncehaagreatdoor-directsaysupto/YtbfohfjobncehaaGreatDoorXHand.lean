/- Contracts. -/
import Derived.Test.YtbfohfjobncehaaGreatDoorXPd
namespace Go.Proofs.YtbfohfjobncehaaGreatDoor
open Go.RowKit
set_option linter.all false
set_option maxHeartbeats 8000000
set_option maxRecDepth 10000
open Go Go.RowKit
section
variable {P:Program} {ops:Array Oper} {Q:Exit->Act->World->Prop} {md:Region.Mode} {S:World->Prop}
variable {w:World} {a:Act} {l:Array Bool}
def ax (ops:Array Oper) (i:Nat):Oper:=(ops[i]?).getD ⟨none,.move (.const undef),0, "",#[],none⟩
theorem dP {b:Array Oper} {i:Nat} (h:(b[i]?).isSome=true):b[i]? = some (ax b i):=by
 obtain ⟨o,c⟩:=Option.isSome_iff_exists.1 h;unfold ax;rw [c];rfl
def pA:List (Nat×Nat×Value)->Act->Act
 | [],a=>a
 | t :: ts,a=>pA ts (a.put (some t.2.1) t.2.2)
def pL:List (Nat×Nat×Value)->Array Bool->Array Bool
 | [],l=>l
 | t :: ts,l=>pL ts (l.setIfInBounds t.1 true)
def tZ (md:Region.Mode) (ops:Array Oper):List (Nat×Nat)->Array Bool->Bool
 | [],_=>true
 | (i,d) :: ts,l=>(ops[i]?).isSome && (ax ops i).dst==some d && Region.free md ops l i && (Region.ready md ops l).contains i && tZ md ops ts (l.setIfInBounds i true)
def qS (P:Program) (ops:Array Oper) (S:World->Prop):List (Nat×Nat×Value)->Act->Prop
 | [],_=>True
 | t :: ts,a=>(Region.wanted (ax ops t.1) (yielded ops a.tmps)=true/\∀ w,S w->(execOp a.eval (ax ops t.1)).run P w=.ok (.value t.2.2) w)/\qS P ops S ts (a.put (some t.2.1) t.2.2)
theorem takes {n:Nat} (b:Region.noSelect ops=true) (hS:S w) (e:∀ (c:_) (d:Nat) (v:Value) (a:Act) (w:World),Q (.panic c) (a.put (some d) v) w->Q (.panic c) a w) :
  ∀ (ts:List (Nat×Nat×Value)) (l:Array Bool) (a:Act),tZ md ops (ts.map fun t=>(t.1,t.2.1)) l=true->qS P ops S ts a->wpAnyH P md ops Q S n (pL ts l) (pA ts a) w->wpAnyH P md ops Q S (n+ts.length) l a w
 | [],l,a,_,_,h=>h
 | t :: ts,l,a,hok,hy,h=>by
   simp only [List.map_cons,tZ,Bool.and_eq_true,beq_iff_eq] at hok;obtain ⟨⟨⟨⟨g,f⟩,j⟩,k⟩,m⟩:=hok;refine wpAnyH_take (i:=t.1) (oi:=ax ops t.1) (v:=t.2.2) (dP g) b j k (fun c a w h=>by rw [f] at h;exact e c _ _ a w h) (.inl hy.1) hS ?_;rw [f];exact takes b hS e ts _ _ m hy.2 h
def tW (md:Region.Mode) (ops:Array Oper):List (Nat×Nat)->Array Bool->Act->Bool
 | [],_,_=>true
 | (i,d) :: ts,l,a=>(ops[i]?).isSome && (ax ops i).dst==some d && Region.free md ops l i && (Region.ready md ops l).contains i && !Region.wanted (ax ops i) (yielded ops a.tmps) && tW md ops ts (l.setIfInBounds i true) (a.put (some d) undef)
def vA:List (Nat×Nat)->Act->Act
 | [],a=>a
 | t :: ts,a=>vA ts (a.put (some t.2) undef)
def vL:List (Nat×Nat)->Array Bool->Array Bool
 | [],l=>l
 | t :: ts,l=>vL ts (l.setIfInBounds t.1 true)
theorem skips {n:Nat} (b:Region.noSelect ops=true) (hS:S w) (e:∀ (c:_) (d:Nat) (v:Value) (a:Act) (w:World),Q (.panic c) (a.put (some d) v) w->Q (.panic c) a w) :
  ∀ (ts:List (Nat×Nat)) (l:Array Bool) (a:Act),tW md ops ts l a=true->wpAnyH P md ops Q S n (vL ts l) (vA ts a) w->wpAnyH P md ops Q S (n+ts.length) l a w
 | [],l,a,_,h=>h
 | t :: ts,l,a,hok,h=>by
   simp only [tW,Bool.and_eq_true,beq_iff_eq,Bool.not_eq_true'] at hok;obtain ⟨⟨⟨⟨⟨g,f⟩,j⟩,k⟩,m⟩,o⟩:=hok;refine wpAnyH_take (i:=t.1) (oi:=ax ops t.1) (v:=undef) (dP g) b j k (fun c a w h=>by rw [f] at h;exact e c _ _ a w h) (.inr ⟨m,rfl⟩) hS ?_;rw [f];exact skips b hS e ts _ _ o h
theorem tk {N:Nat} (m:Nat) (b:List (Nat×Nat×Value)) (h:wpAnyH P md ops Q S m (pL b l) (pA b a) w) (hm:N=m+b.length:=by kernel_rfl) (hs:Region.noSelect ops=true:=by kernel_rfl)
  (hok:tZ md ops (b.map fun t=>(t.1,t.2.1)) l=true:=by kernel_rfl)
  (hy:qS P ops S b a:=by
   ((repeat' apply And.intro)<;>first | exact True.intro | kernel_rfl | (intro w e;simp only [ax,List.getElem?_toArray,List.getElem?_cons_zero,List.getElem?_cons_succ,Option.getD_some,pA,vA,Act.put,setA,setZ,setS];go_simp)))
  (hS:S w:=by assumption) (hQ:∀ (c:_) (d:Nat) (v:Value) (a:Act) (w:World),Q (.panic c) (a.put (some d) v) w->Q (.panic c) a w:=by exact fun _ _ _ _ _ h=>h):wpAnyH P md ops Q S N l a w :=
 hm▸takes hs hS hQ b l a hok hy h
theorem sk {N:Nat} (m:Nat) (b:List (Nat×Nat)) (h:wpAnyH P md ops Q S m (vL b l) (vA b a) w) (hm:N=m+b.length:=by kernel_rfl) (hs:Region.noSelect ops=true:=by kernel_rfl)
  (hok:tW md ops b l a=true:=by kernel_rfl) (hS:S w:=by assumption) (hQ:∀ (c:_) (d:Nat) (v:Value) (a:Act) (w:World),Q (.panic c) (a.put (some d) v) w->Q (.panic c) a w:=by exact fun _ _ _ _ _ h=>h):wpAnyH P md ops Q S N l a w :=
 hm▸skips hs hS hQ b l a hok h
theorem cQ {N:Nat} (m i:Nat)
  (h:∀ K':Act->World->Prop,Shut (∀ a w,S w->(S w->wpAnyH P md ops Q S m (l.setIfInBounds i true) a w)->K' a w)->if Region.wanted (ax ops i) (yielded ops a.tmps)=true then Oper.wp P (ax ops i) a w K' Q else K' (a.put (ax ops i).dst undef) w)
  (hr:Region.ready md ops l=[i]:=by kernel_rfl) (hm:N=m+1:=by kernel_rfl) (ho:(ops[i]?).isSome=true:=by kernel_rfl):wpAnyH P md ops Q S N l a w :=
 hm▸wpAnyH_ready hr (List.cons_ne_nil _ _) (AllReadyH.cons (dP ho) h AllReadyH.nil)
theorem on1e {N:Nat} (m i:Nat) (o:Oper)
  (h:∀ K':Act->World->Prop,Shut (∀ a w,S w->(S w->wpAnyH P md ops Q S m (l.setIfInBounds i true) a w)->K' a w)->if Region.wanted o (yielded ops a.tmps)=true then Oper.wp P o a w K' Q else K' (a.put o.dst undef) w)
  (hr:Region.ready md ops l=[i]:=by kernel_rfl) (hm:N=m+1:=by kernel_rfl) (ho:ops[i]? = some o:=by rfl):wpAnyH P md ops Q S N l a w :=
 hm▸wpAnyH_ready hr (List.cons_ne_nil _ _) (AllReadyH.cons ho h AllReadyH.nil)
theorem hd (S:World->Prop) {id:Nat} (h:S w.drew->wpAnyH P .any ops Q S ops.size (Array.replicate ops.size false) a w.drew) (hm:P.follows .mixedOrders=true:=by kernel_rfl) (hS:S w.drew:=by (try dsimp only);go_keep):(Code.region id ops true).wp P Q a w :=
 wp_region_held_drew hm hS h
theorem bk {X K:Act->World->Prop} (b:Shut (∀ a w,S w->(S w->X a w)->K a w)) (h:S w->X a w) (hS:S w:=by (try dsimp only);go_keep):K a w:=b.out a w hS h
end
theorem q4 {α:Type} (l:List α) (i:Nat):l.toArray[i]? = l[i]?:=Z
theorem q5 {α:Type} (x:α) (l:List α):(x :: l)[0]? = some x:=rfl
theorem q6 {α:Type} (x:α) (l:List α) (i:Nat):(x :: l)[i+1]? = l[i]?:=Z
theorem q7 {α:Type} (x y:α):(some x).getD y=x:=rfl
theorem q1 {α:Type} (l:List α) (i:Nat) (x:α):l.toArray.setIfInBounds i x=(l.set i x).toArray:=List.setIfInBounds_toArray ..
theorem q2 {α:Type} (l:List α) (y x:α):(y :: l).set 0 x=x :: l:=rfl
theorem q3 {α:Type} (l:List α) (y x:α) (n:Nat):(y :: l).set (n+1) x=y :: l.set n x:=rfl
theorem q0 (a:Act) (d:Nat) (v:Value):a.put (some d) v = { a with tmps:=a.tmps.setIfInBounds d v }:=rfl
abbrev gY (w:World) (b:Nat):Prop:=w.cell? ⟨b,3,none⟩=some (.func (.func 129) #[] #[])/\w.cell? ⟨b,4,none⟩=some (.func (.func 107) #[] #[])/\w.cell? ⟨b,5,none⟩=some (.func (.func 67) #[] #[])/\w.cell? ⟨b,6,none⟩=some (.func (.func 38) #[] #[])
 /\ w.cell? ⟨b,7,none⟩=some (.func (.func 130) #[] #[])/\w.cell? ⟨b,8,none⟩=some (.func (.func 131) #[] #[])/\w.cell? ⟨b,9,none⟩=some (.func (.func 132) #[] #[])/\w.cell? ⟨b,10,none⟩=some (.func (.func 133) #[] #[])
abbrev cM (w:World) (b:Nat) (x y z:Value):Prop:=w.cell? ⟨b,0,none⟩=some x/\w.cell? ⟨b,1,none⟩=some y/\w.cell? ⟨b,2,none⟩=some z
abbrev lu (w:World) (b:Nat) (x y:Value):Prop:=w.cell? ⟨b,0,none⟩=some x/\w.cell? ⟨b,1,none⟩=some y
abbrev fT (w:World) (b i:Nat) (x y z:Value):Prop:=w.cell? ⟨b,i*3,none⟩=some x/\w.cell? ⟨b,i*3+1,none⟩=some y/\w.cell? ⟨b,i*3+2,none⟩=some z
section
variable {w w':World} {b i:Nat} {r:Option Nat} {x y z:Value}
theorem gY.k (h:gY w b) (g:w.grownBy w' r) (n:some b≠r):gY w' b:=by
 obtain ⟨c,d,e,f,i,j,m,o⟩:=h;exact ⟨g.cell c n,g.cell d n,g.cell e n,g.cell f n,g.cell i n,g.cell j n,g.cell m n,g.cell o n⟩
theorem gY.k0 (h:gY w b) (g:w.grownBy w' none):gY w' b:=h.k g Z
theorem cM.k (h:cM w b x y z) (g:w.grownBy w' r) (n:some b≠r):cM w' b x y z:=⟨g.cell h.1 n,g.cell h.2.1 n,g.cell h.2.2 n⟩
theorem cM.k0 (h:cM w b x y z) (g:w.grownBy w' none):cM w' b x y z:=h.k g Z
theorem lu.k (h:lu w b x y) (g:w.grownBy w' r) (n:some b≠r):lu w' b x y:=⟨g.cell h.1 n,g.cell h.2 n⟩
theorem lu.k0 (h:lu w b x y) (g:w.grownBy w' none):lu w' b x y:=h.k g Z
theorem fT.k0 (h:fT w b i x y z) (g:w.grownBy w' none):fT w' b i x y z:=⟨g.cell h.1 Z,g.cell h.2.1 Z,g.cell h.2.2 Z⟩
theorem gx {b c:World} (g:w.grownBy b none) (h:b.grownBy c none:=by first | exact bG _ | exact aX | exact ag _ _):w.grownBy c none:=ab g h
theorem mg (d:Bool) (o e:Option Addr) (l c f c2:Nat) {T:TypeId} {b:World} (hg:(b.alloc (Obj.cells #[.bool d,.slice o l c,.slice e f c2,.func (.func 129) #[] #[],.func (.func 107) #[] #[],.func (.func 67) #[] #[],.func (.func 38) #[] #[],.func (.func 130) #[] #[],.func (.func 131) #[] #[],.func (.func 132) #[] #[],.func (.func 133) #[] #[]] T)).grownBy w none):gY w b.heap.size/\cM w b.heap.size (.bool d) (.slice o l c) (.slice e f c2) :=
 ⟨⟨hg.cell zG Z,hg.cell zG Z,hg.cell zG Z,hg.cell zG Z,hg.cell zG Z,hg.cell zG Z,hg.cell zG Z,hg.cell zG Z⟩,hg.cell zG Z,hg.cell zG Z,hg.cell zG Z⟩
end
end Go.Proofs.YtbfohfjobncehaaGreatDoor
