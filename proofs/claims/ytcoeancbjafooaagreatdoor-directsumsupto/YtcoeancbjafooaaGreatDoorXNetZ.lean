/- Contracts that the proof leans on. -/
import Derived.Test.YtcoeancbjafooaaGreatDoorXCDa
namespace Go.Proofs.YtcoeancbjafooaaGreatDoor
open Go.RowKit
set_option linter.unusedVariables false
set_option linter.unusedSimpArgs false
set_option maxHeartbeats 8000000
set_option maxRecDepth 10000
theorem iR.amp {ps qs:List aO} (h:iR ps qs) (i r:Nat):bH qs i r=bH ps i r:=by
 unfold bH;by_cases hi:i<ps.length
 ·have hq:i<qs.length:=by rw [h.len];exact hi
  obtain ⟨ha,hb,_⟩:=h.at_ i hi hq;rw [List.getElem?_eq_getElem hi,List.getElem?_eq_getElem hq];exact Bs ha hb r
 ·have hl:=h.len;rw [List.getElem?_eq_none (by omega:qs.length<=i),List.getElem?_eq_none (by omega:ps.length<=i)]
theorem sol_sum {n:Nat} {ps q1 q2 qs:List aO} (a1:iR ps q1) (a2:iR ps q2) (a:iR ps qs)
  (hS:∀ i (h:i<ps.length) (h1:i<q1.length) (h2:i<q2.length) (h3:i<qs.length),dg qs[i].kind qs[i].q=dg q1[i].kind q1[i].q+dg q2[i].kind q2[i].q)
  {V I V' I':Nat->Rat} (s1:aH n q1 V I) (s2:aH n q2 V' I'):aH n qs (fun j=>V j+V' j) (fun i=>I i+I' i):=by
 refine ⟨by show V 0+V' 0=0;rw [s1.gnd,s2.gnd];grind,fun r h0 hn=>?_,fun i hi=>?_⟩
 ·have e:cj (fun i=>bH qs i r*(I i+I' i)) qs.length=cj (fun i=>bH ps i r*I i+bH ps i r*I' i) ps.length:=by
   rw [a.len];exact bZ _ _ _ (fun i _=>by rw [a.amp];grind)
  have e1:=s1.node r h0 hn;have e2:=s2.node r h0 hn;rw [a1.len,bZ _ (fun i=>bH ps i r*I i) _ (fun i _=>by rw [a1.amp])] at e1;rw [a2.len,bZ _ (fun i=>bH ps i r*I' i) _ (fun i _=>by rw [a2.amp])] at e2;show cj (fun i=>bH qs i r*(I i+I' i)) qs.length=0
  rw [e,kL,e1,e2];grind
 ·have hp:i<ps.length:=by rw [<- a.len];exact hi
  have h1:i<q1.length:=by rw [a1.len];exact hp
  have h2:i<q2.length:=by rw [a2.len];exact hp
  obtain ⟨ha,hb,hc,hd,l1,l2,l3⟩:=a.at_ i hp hi;obtain ⟨ha1,hb1,hc1,hd1,k1,k2,k3⟩:=a1.at_ i hp h1;obtain ⟨ha2,hb2,hc2,hd2,m1,m2,m3⟩:=a2.at_ i hp h2;have e1:=s1.part i h1;have e2:=s2.part i h2;have e3:=hS i hp h1 h2 hi;rw [ha1,hb1,hc1,hd1,k1,k2,k3] at e1;rw [ha2,hb2,hc2,hd2,m1,m2,m3] at e2;rw [ha,hb,hc,hd,l1,l2,l3,e3,<- e1,<- e2];grind
def gQ (ps:List aO) (i:Nat):List aO:=ps.mapIdx fun j p=>if j<i then p else ax p
def eM (ps:List aO) (i:Nat):List aO:=ps.mapIdx fun j p=>if j=i then p else ax p
theorem rK (ps:List aO) (c:Nat->Prop) [DecidablePred c]:iR ps (ps.mapIdx fun j p=>if c j then p else ax p):=by
 refine ⟨by simp,fun i h h'=>?_⟩;rw [List.getElem_mapIdx];split
 ·exact ⟨rfl,rfl,rfl,rfl,rfl,rfl,rfl⟩
 ·obtain ⟨_,ha,hb,hc,hd⟩:=dj ps[i];obtain ⟨l1,l2,l3⟩:=sF ps[i];exact ⟨ha,hb,hc,hd,l1,l2,l3⟩
theorem lO (ps:List aO) (i:Nat):iR ps (gQ ps i):=rK ps (fun j=>j<i)
theorem bV (ps:List aO) (i:Nat):iR ps (eM ps i):=rK ps (fun j=>j=i)
theorem mf {p:aO} (h:¬ (p.kind=4∨p.kind=5)):ax p=p:=by unfold ax;rw [if_neg h]
theorem yX {p:aO} (h1:1<=p.kind) (h7:p.kind<=7):dg (ax p).kind (ax p).q=0:=by
 by_cases h:p.kind=4∨p.kind=5
 ·have e:(ax p).q=0:=by
   unfold ax aO.q;rw [if_pos h];exact (by decide +kernel:dw [48]=0)
  rw [(dj p).1,e];rcases h with h | h<;>rw [h]<;>rfl
 ·rw [mf h];have:p.kind=1∨p.kind=2∨p.kind=3∨p.kind=6∨p.kind=7:=by omega
  rcases this with e | e | e | e | e<;>rw [e]<;>rfl
theorem Am (ps:List aO) (i:Nat) (hi:i<ps.length) (h:¬ (ps[i].kind=4∨ps[i].kind=5)):gQ ps (i+1)=gQ ps i:=by
 apply List.ext_getElem
 ·simp [gQ]
 ·intro j h1 h2;simp only [gQ,List.getElem_mapIdx];by_cases e:j=i
  ·subst e;rw [if_pos (by omega),if_neg (by omega),mf h]
  ·by_cases e2:j<i
   ·rw [if_pos (by omega),if_pos e2]
   ·rw [if_neg (by omega),if_neg e2]
theorem Ch (ps:List aO):gQ ps ps.length=ps:=by
 apply List.ext_getElem
 ·simp [gQ]
 ·intro j h1 h2;simp only [gQ,List.getElem_mapIdx];rw [if_pos h2]
theorem An (n:Nat) (ps:List aO) (hk:∀ p∈ps,1<=p.kind/\p.kind<=7):aH n (gQ ps 0) (fun _=>0) (fun _=>0):=by
 refine ⟨rfl,fun r _ _=>nD _ _ (fun i _=>by show _*(0:Rat)=0;grind),fun i hi=>?_⟩;have hp:i<ps.length:=by rw [<- (lO ps 0).len];exact hi
 have e:(gQ ps 0)[i]=ax ps[i]:=by simp only [gQ,List.getElem_mapIdx];rw [if_neg (by omega)]
 obtain ⟨h1,h7⟩:=hk ps[i] (List.getElem_mem hp);rw [e,yX h1 h7];grind
theorem si {n:Nat} {ps:List aO} (hk:∀ p∈ps,1<=p.kind/\p.kind<=7) (i:Nat) (hi:i<ps.length) {V I V' I':Nat->Rat} (s1:aH n (gQ ps i) V I) (s2:aH n (eM ps i) V' I') :
  aH n (gQ ps (i+1)) (fun j=>V j+V' j) (fun i=>I i+I' i):=by
 refine sol_sum (lO ps i) (bV ps i) (lO ps (i+1)) (fun j h h1 h2 h3=>?_) s1 s2;obtain ⟨k1,k7⟩:=hk ps[j] (List.getElem_mem h);have z:=yX k1 k7;simp only [gQ,eM,List.getElem_mapIdx];by_cases e:j=i
 ·subst e;rw [if_pos (by omega),if_neg (by omega),if_pos rfl,z];grind
 ·rw [if_neg e,z];by_cases e2:j<i
  ·rw [if_pos (by omega),if_pos e2];grind
  ·rw [if_neg (by omega),if_neg e2,z];grind
theorem wS (p:aO) (nodes:Int):aC false (ax p) nodes=aC false p nodes:=by
 by_cases h:p.kind=4∨p.kind=5
 ·obtain ⟨ek,ea,eb,ec,ed⟩:=dj p;unfold aC iQ;rw [ek,ea,eb,ec,ed];rcases h with h | h<;>rw [h]<;>rfl
 ·rw [mf h]
theorem xh {nodes:Int} {ps qs:List aO} (hl:qs.length=ps.length) (h:∀ i (h:i<ps.length) (h':i<qs.length),aC false qs[i] nodes=aC false ps[i] nodes):aQ false nodes qs=aQ false nodes ps:=by
 have key:∀ (ps qs:List aO) (k:Nat),qs.length=ps.length->(∀ i (h:i<ps.length) (h':i<qs.length),aC false qs[i] nodes=aC false ps[i] nodes)->aA false nodes qs k=aA false nodes ps k:=by
  intro ps;induction ps with
  | nil=>intro qs k hl _;rw [List.eq_nil_of_length_eq_zero hl]
  | cons p r ih =>
   intro qs k hl h;cases qs with
   | nil=>simp at hl
   | cons q s =>
    have h0:aC false q nodes=aC false p nodes:=h 0 (by simp) (by simp);unfold aA;rw [h0,ih s (k+1) (by simpa using hl) (fun i hi hi'=>by
     have:=h (i+1) (by simp;omega) (by simp;omega);simpa using this)]
 unfold aQ;rw [hl,key ps qs 0 hl h]
theorem pK (nodes:Int) (ps:List aO) (i:Nat):aQ false nodes (eM ps i)=aQ false nodes ps:=by
 refine xh (bV ps i).len (fun j h h'=>?_);simp only [eM,List.getElem_mapIdx];split
 ·rfl
 ·exact wS _ _
theorem oI.fixed {nodes:Int} {ps:List aO} {c1 c2:Int} {n1 n2:Nat} {V I:Nat->Rat} (h:oI nodes ps c1 c2 n1 n2 V I) (hc:(aQ false nodes ps).1=0) (hF:jL nodes.toNat ps) :
  c1=0/\c2=0/\n1=nodes.toNat/\n2=ps.length/\aH nodes.toNat ps V I:=by
 obtain ⟨hR,_⟩:=gU hc;obtain ⟨V0,I0,s0,u0⟩:=gC hR hF;rcases h with ⟨h0,_⟩ | ⟨_,h2,(⟨e1,e2,e3,e4,_⟩ | ⟨_,_,_,hno⟩ | ⟨_,_,_,V1,I1,V2,I2,s1,s2,hne⟩)⟩
 ·exact absurd hc h0
 ·exact ⟨e1,h2,e2,e3,e4⟩
 ·exact absurd ⟨V0,I0,s0⟩ hno
 ·exfalso
  obtain ⟨a1,b1⟩:=u0 _ _ s1;obtain ⟨a2,b2⟩:=u0 _ _ s2;rcases hne with ⟨j,hj,hn⟩ | ⟨i,hi,hn⟩
  ·exact hn (by rw [a1 j hj,a2 j hj])
  ·exact hn (by rw [b1 i hi,b2 i hi])
theorem oI.one {nodes:Int} {ps:List aO} {c2:Int} {n1 n2:Nat} {V I:Nat->Rat} (h:oI nodes ps 0 c2 n1 n2 V I) :
  (aQ false nodes ps).1=0/\c2=0/\n1=nodes.toNat/\n2=ps.length/\aH nodes.toNat ps V I/\∀ V' I',aH nodes.toNat ps V' I'->(∀ j,j<nodes.toNat->V' j=V j)/\∀ i,i<ps.length->I' i=I i:=by
 rcases h with ⟨h0,h1,_⟩ | ⟨h0,h2,(⟨_,e2,e3,e4,e5⟩ | ⟨h1,_⟩ | ⟨h1,_⟩)⟩
 ·exact absurd h1.symm h0
 ·exact ⟨h0,h2,e2,e3,e4,e5⟩
 ·exact absurd h1 (by decide)
 ·exact absurd h1 (by decide)
end Go.Proofs.YtcoeancbjafooaaGreatDoor
