/- Contracts that the proof leans on. -/
import Derived.Test.YtgilmecjbjoonabGreatDoorSCDa
namespace Go.Proofs.YtgilmecjbjoonabGreatDoor
open Go.RowKit
set_option linter.unusedVariables false
set_option linter.unusedSimpArgs false
set_option maxHeartbeats 8000000
set_option maxRecDepth 10000
theorem gJ.amp {ps qs:List aN} (h:gJ ps qs) (i r:Nat):bI qs i r=bI ps i r:=by
 unfold bI;by_cases hi:i<ps.length
 ·have hq:i<qs.length:=by rw [h.len];exact hi
  obtain ⟨ha,hb,_⟩:=h.at_ i hi hq;rw [List.getElem?_eq_getElem hi,List.getElem?_eq_getElem hq];exact xD ha hb r
 ·have hl:=h.len;rw [List.getElem?_eq_none (by omega:qs.length<=i),List.getElem?_eq_none (by omega:ps.length<=i)]
theorem sol_sum {n:Nat} {ps q1 q2 qs:List aN} (a1:gJ ps q1) (a2:gJ ps q2) (a:gJ ps qs)
  (hS:∀ i (h:i<ps.length) (h1:i<q1.length) (h2:i<q2.length) (h3:i<qs.length),cW qs[i].kind qs[i].q=cW q1[i].kind q1[i].q+cW q2[i].kind q2[i].q)
  {V I V' I':Nat->Rat} (s1:aI n q1 V I) (s2:aI n q2 V' I'):aI n qs (fun j=>V j+V' j) (fun i=>I i+I' i):=by
 refine ⟨by show V 0+V' 0=0;rw [s1.gnd,s2.gnd];grind,fun r h0 hn=>?_,fun i hi=>?_⟩
 ·have e:dG (fun i=>bI qs i r*(I i+I' i)) qs.length=dG (fun i=>bI ps i r*I i+bI ps i r*I' i) ps.length:=by
   rw [a.len];exact di _ _ _ (fun i _=>by rw [a.amp];grind)
  have e1:=s1.node r h0 hn;have e2:=s2.node r h0 hn;rw [a1.len,di _ (fun i=>bI ps i r*I i) _ (fun i _=>by rw [a1.amp])] at e1;rw [a2.len,di _ (fun i=>bI ps i r*I' i) _ (fun i _=>by rw [a2.amp])] at e2;show dG (fun i=>bI qs i r*(I i+I' i)) qs.length=0
  rw [e,nN,e1,e2];grind
 ·have hp:i<ps.length:=by rw [<- a.len];exact hi
  have h1:i<q1.length:=by rw [a1.len];exact hp
  have h2:i<q2.length:=by rw [a2.len];exact hp
  obtain ⟨ha,hb,hc,hd,l1,l2,l3⟩:=a.at_ i hp hi;obtain ⟨ha1,hb1,hc1,hd1,k1,k2,k3⟩:=a1.at_ i hp h1;obtain ⟨ha2,hb2,hc2,hd2,m1,m2,m3⟩:=a2.at_ i hp h2;have e1:=s1.part i h1;have e2:=s2.part i h2;have e3:=hS i hp h1 h2 hi;rw [ha1,hb1,hc1,hd1,k1,k2,k3] at e1;rw [ha2,hb2,hc2,hd2,m1,m2,m3] at e2;rw [ha,hb,hc,hd,l1,l2,l3,e3,<- e1,<- e2];grind
def fI (ps:List aN) (i:Nat):List aN:=ps.mapIdx fun j p=>if j<i then p else az p
def dL (ps:List aN) (i:Nat):List aN:=ps.mapIdx fun j p=>if j=i then p else az p
theorem oL (ps:List aN) (c:Nat->Prop) [DecidablePred c]:gJ ps (ps.mapIdx fun j p=>if c j then p else az p):=by
 refine ⟨by simp,fun i h h'=>?_⟩;rw [List.getElem_mapIdx];split
 ·exact ⟨rfl,rfl,rfl,rfl,rfl,rfl,rfl⟩
 ·obtain ⟨_,ha,hb,hc,hd⟩:=dE ps[i];obtain ⟨l1,l2,l3⟩:=pr ps[i];exact ⟨ha,hb,hc,hd,l1,l2,l3⟩
theorem jY (ps:List aN) (i:Nat):gJ ps (fI ps i):=oL ps (fun j=>j<i)
theorem bO (ps:List aN) (i:Nat):gJ ps (dL ps i):=oL ps (fun j=>j=i)
theorem km {p:aN} (h:¬ (p.kind=4∨p.kind=5)):az p=p:=by unfold az;rw [if_neg h]
theorem uO {p:aN} (h1:1<=p.kind) (h7:p.kind<=7):cW (az p).kind (az p).q=0:=by
 by_cases h:p.kind=4∨p.kind=5
 ·have e:(az p).q=0:=by
   unfold az aN.q;rw [if_pos h];exact (by decide +kernel:dO [48]=0)
  rw [(dE p).1,e];rcases h with h | h<;>rw [h]<;>rfl
 ·rw [km h];have:p.kind=1∨p.kind=2∨p.kind=3∨p.kind=6∨p.kind=7:=by omega
  rcases this with e | e | e | e | e<;>rw [e]<;>rfl
theorem wj (ps:List aN) (i:Nat) (hi:i<ps.length) (h:¬ (ps[i].kind=4∨ps[i].kind=5)):fI ps (i+1)=fI ps i:=by
 apply List.ext_getElem
 ·simp [fI]
 ·intro j h1 h2;simp only [fI,List.getElem_mapIdx];by_cases e:j=i
  ·subst e;rw [if_pos (by omega),if_neg (by omega),km h]
  ·by_cases e2:j<i
   ·rw [if_pos (by omega),if_pos e2]
   ·rw [if_neg (by omega),if_neg e2]
theorem yA (ps:List aN):fI ps ps.length=ps:=by
 apply List.ext_getElem
 ·simp [fI]
 ·intro j h1 h2;simp only [fI,List.getElem_mapIdx];rw [if_pos h2]
theorem wk (n:Nat) (ps:List aN) (hk:∀ p∈ps,1<=p.kind/\p.kind<=7):aI n (fI ps 0) (fun _=>0) (fun _=>0):=by
 refine ⟨rfl,fun r _ _=>xj _ _ (fun i _=>by show _*(0:Rat)=0;grind),fun i hi=>?_⟩;have hp:i<ps.length:=by rw [<- (jY ps 0).len];exact hi
 have e:(fI ps 0)[i]=az ps[i]:=by simp only [fI,List.getElem_mapIdx];rw [if_neg (by omega)]
 obtain ⟨h1,h7⟩:=hk ps[i] (List.getElem_mem hp);rw [e,uO h1 h7];grind
theorem o9 {n:Nat} {ps:List aN} (hk:∀ p∈ps,1<=p.kind/\p.kind<=7) (i:Nat) (hi:i<ps.length) {V I V' I':Nat->Rat} (s1:aI n (fI ps i) V I) (s2:aI n (dL ps i) V' I') :
  aI n (fI ps (i+1)) (fun j=>V j+V' j) (fun i=>I i+I' i):=by
 refine sol_sum (jY ps i) (bO ps i) (jY ps (i+1)) (fun j h h1 h2 h3=>?_) s1 s2;obtain ⟨k1,k7⟩:=hk ps[j] (List.getElem_mem h);have z:=uO k1 k7;simp only [fI,dL,List.getElem_mapIdx];by_cases e:j=i
 ·subst e;rw [if_pos (by omega),if_neg (by omega),if_pos rfl,z];grind
 ·rw [if_neg e,z];by_cases e2:j<i
  ·rw [if_pos (by omega),if_pos e2];grind
  ·rw [if_neg (by omega),if_neg e2,z];grind
theorem sG (p:aN) (nodes:Int):cm false (az p) nodes=cm false p nodes:=by
 by_cases h:p.kind=4∨p.kind=5
 ·obtain ⟨ek,ea,eb,ec,ed⟩:=dE p;unfold cm kr;rw [ek,ea,eb,ec,ed];rcases h with h | h<;>rw [h]<;>rfl
 ·rw [km h]
theorem sR {nodes:Int} {ps qs:List aN} (hl:qs.length=ps.length) (h:∀ i (h:i<ps.length) (h':i<qs.length),cm false qs[i] nodes=cm false ps[i] nodes):aU false nodes qs=aU false nodes ps:=by
 have key:∀ (ps qs:List aN) (k:Nat),qs.length=ps.length->(∀ i (h:i<ps.length) (h':i<qs.length),cm false qs[i] nodes=cm false ps[i] nodes)->bW false nodes qs k=bW false nodes ps k:=by
  intro ps;induction ps with
  | nil=>intro qs k hl _;rw [List.eq_nil_of_length_eq_zero hl]
  | cons p r ih =>
   intro qs k hl h;cases qs with
   | nil=>simp at hl
   | cons q s =>
    have h0:cm false q nodes=cm false p nodes:=h 0 (by simp) (by simp);unfold bW;rw [h0,ih s (k+1) (by simpa using hl) (fun i hi hi'=>by
     have:=h (i+1) (by simp;omega) (by simp;omega);simpa using this)]
 unfold aU;rw [hl,key ps qs 0 hl h]
theorem mO (nodes:Int) (ps:List aN) (i:Nat):aU false nodes (dL ps i)=aU false nodes ps:=by
 refine sR (bO ps i).len (fun j h h'=>?_);simp only [dL,List.getElem_mapIdx];split
 ·rfl
 ·exact sG _ _
theorem n6.fixed {nodes:Int} {ps:List aN} {c1 c2:Int} {n1 n2:Nat} {V I:Nat->Rat} (h:n6 nodes ps c1 c2 n1 n2 V I) (hc:(aU false nodes ps).1=0) (hF:jR nodes.toNat ps) :
  c1=0/\c2=0/\n1=nodes.toNat/\n2=ps.length/\aI nodes.toNat ps V I:=by
 obtain ⟨hR,_⟩:=jq hc;obtain ⟨V0,I0,s0,u0⟩:=ix hR hF;rcases h with ⟨h0,_⟩ | ⟨_,h2,(⟨e1,e2,e3,e4,_⟩ | ⟨_,_,_,hno⟩ | ⟨_,_,_,V1,I1,V2,I2,s1,s2,hne⟩)⟩
 ·exact absurd hc h0
 ·exact ⟨e1,h2,e2,e3,e4⟩
 ·exact absurd ⟨V0,I0,s0⟩ hno
 ·exfalso
  obtain ⟨a1,b1⟩:=u0 _ _ s1;obtain ⟨a2,b2⟩:=u0 _ _ s2;rcases hne with ⟨j,hj,hn⟩ | ⟨i,hi,hn⟩
  ·exact hn (by rw [a1 j hj,a2 j hj])
  ·exact hn (by rw [b1 i hi,b2 i hi])
theorem n6.one {nodes:Int} {ps:List aN} {c2:Int} {n1 n2:Nat} {V I:Nat->Rat} (h:n6 nodes ps 0 c2 n1 n2 V I) :
  (aU false nodes ps).1=0/\c2=0/\n1=nodes.toNat/\n2=ps.length/\aI nodes.toNat ps V I/\∀ V' I',aI nodes.toNat ps V' I'->(∀ j,j<nodes.toNat->V' j=V j)/\∀ i,i<ps.length->I' i=I i:=by
 rcases h with ⟨h0,h1,_⟩ | ⟨h0,h2,(⟨_,e2,e3,e4,e5⟩ | ⟨h1,_⟩ | ⟨h1,_⟩)⟩
 ·exact absurd h1.symm h0
 ·exact ⟨h0,h2,e2,e3,e4,e5⟩
 ·exact absurd h1 (by decide)
 ·exact absurd h1 (by decide)
end Go.Proofs.YtgilmecjbjoonabGreatDoor
