/- Contracts that the proof leans on. -/
import Derived.Test.YtgilmecjbjoonabGreatDoorTCDa
namespace Go.Proofs.YtgilmecjbjoonabGreatDoor
open Go.RowKit
set_option linter.unusedVariables false
set_option linter.unusedSimpArgs false
set_option maxHeartbeats 8000000
set_option maxRecDepth 10000
theorem mV.amp {ps qs:List aR} (h:mV ps qs) (i r:Nat):aN qs i r=aN ps i r:=by
 unfold aN;by_cases hi:i<ps.length
 ·have hq:i<qs.length:=by rw [h.len];exact hi
  obtain ⟨ha,hb,_⟩:=h.at_ i hi hq;rw [List.getElem?_eq_getElem hi,List.getElem?_eq_getElem hq];exact yf ha hb r
 ·have hl:=h.len;rw [List.getElem?_eq_none (by omega:qs.length<=i),List.getElem?_eq_none (by omega:ps.length<=i)]
theorem ui {p:aR} (h:¬ (p.kind=4∨p.kind=5)):aD p=p:=by unfold aD;rw [if_neg h]
theorem quiet_S {p:aR} (h1:1<=p.kind) (h7:p.kind<=7):di (aD p).kind (aD p).q=0:=by
 by_cases h:p.kind=4∨p.kind=5
 ·have e:(aD p).q=0:=by
   unfold aD aR.q;rw [if_pos h];exact (by decide +kernel:cX [48]=0)
  rw [(fO p).1,e];rcases h with h | h<;>rw [h]<;>rfl
 ·rw [ui h];have:p.kind=1∨p.kind=2∨p.kind=3∨p.kind=6∨p.kind=7:=by omega
  rcases this with e | e | e | e | e<;>rw [e]<;>rfl
theorem oH.fixed {nodes:Int} {ps:List aR} {c1 c2:Int} {n1 n2:Nat} {V I:Nat->Rat} (h:oH nodes ps c1 c2 n1 n2 V I) (hc:(bg false nodes ps).1=0) (hF:gS nodes.toNat ps) :
  c1=0/\c2=0/\n1=nodes.toNat/\n2=ps.length/\aI nodes.toNat ps V I:=by
 obtain ⟨hR,_⟩:=ju hc;obtain ⟨V0,I0,s0,u0⟩:=fw hR hF;rcases h with ⟨h0,_⟩ | ⟨_,h2,(⟨e1,e2,e3,e4,_⟩ | ⟨_,_,_,hno⟩ | ⟨_,_,_,V1,I1,V2,I2,s1,s2,hne⟩)⟩
 ·exact absurd hc h0
 ·exact ⟨e1,h2,e2,e3,e4⟩
 ·exact absurd ⟨V0,I0,s0⟩ hno
 ·exfalso
  obtain ⟨a1,b1⟩:=u0 _ _ s1;obtain ⟨a2,b2⟩:=u0 _ _ s2;rcases hne with ⟨j,hj,hn⟩ | ⟨i,hi,hn⟩
  ·exact hn (by rw [a1 j hj,a2 j hj])
  ·exact hn (by rw [b1 i hi,b2 i hi])
theorem oH.one {nodes:Int} {ps:List aR} {c2:Int} {n1 n2:Nat} {V I:Nat->Rat} (h:oH nodes ps 0 c2 n1 n2 V I) :
  (bg false nodes ps).1=0/\c2=0/\n1=nodes.toNat/\n2=ps.length/\aI nodes.toNat ps V I/\∀ V' I',aI nodes.toNat ps V' I'->(∀ j,j<nodes.toNat->V' j=V j)/\∀ i,i<ps.length->I' i=I i:=by
 rcases h with ⟨h0,h1,_⟩ | ⟨h0,h2,(⟨_,e2,e3,e4,e5⟩ | ⟨h1,_⟩ | ⟨h1,_⟩)⟩
 ·exact absurd h1.symm h0
 ·exact ⟨h0,h2,e2,e3,e4,e5⟩
 ·exact absurd h1 (by decide)
 ·exact absurd h1 (by decide)
def cV (ps:List aR) (a b:Int) (r:ByteArray):List aR:=ps++[⟨1,a,b,0,0,r⟩]
theorem aO (ps:List aR) (a b:Int) (r:ByteArray):(cV ps a b r).length=ps.length+1:=by simp [cV]
theorem fB (ps:List aR) (a b:Int) (r:ByteArray):(cV ps a b r)[ps.length]'(by rw [aO];omega)=⟨1,a,b,0,0,r⟩:=by simp [cV]
theorem qu (ps:List aR) (a b:Int) (r:ByteArray) (i:Nat) (h:i<ps.length):(cV ps a b r)[i]'(by rw [aO];omega)=ps[i]:=by
 unfold cV;exact List.getElem_append_left h
theorem nK (ps:List aR) (a b:Int) (r:ByteArray) (i k:Nat) (h:i<ps.length):aN (cV ps a b r) i k=aN ps i k:=by
 unfold aN cV;rw [List.getElem?_append_left h]
theorem zK (ps:List aR) (a b:Int) (i k:Nat) (h:i<ps.length):aN (aM ps a b) i k=aN ps i k:=by
 have e:aN (aM ps a b) i k=aN (ps.map aD) i k:=by
  unfold aN aM;rw [List.getElem?_append_left (by simpa using h)]
 rw [e,(lW ps).amp]
theorem yg (a b:Int) (v w:ByteArray) (k1 k2:Int) (r:Nat):lr ⟨k1,b,a,0,0,v⟩ r = - lr ⟨k2,a,b,0,0,w⟩ r:=by
 unfold lr;show _ = - _
 simp only;by_cases h1:a=(r:Int)<;>by_cases h2:b=(r:Int)<;>simp only [h1,h2,if_true,if_false]<;>grind
theorem lK {n:Nat} {ps:List aR} {a b:Int} {U J:Nat->Rat} (hk:∀ p∈ps,1<=p.kind/\p.kind<=7) (h:aI n (aM ps a b) U J) (r:ByteArray) :
  U 0=0/\(∀ k,0<k->k<n->cS (fun i=>aN ps i k*J i) ps.length=lr ⟨1,a,b,0,0,r⟩ k) /\
  ∀ i (hi:i<ps.length),ch ps[i].kind ps[i].q*(U ps[i].a.toNat-U ps[i].b.toNat)+cj ps[i].kind ps[i].q*(U ps[i].c.toNat-U ps[i].d.toNat)+cC ps[i].kind ps[i].q*J i=0:=by
 have hlen:(aM ps a b).length=ps.length+1:=by simp [aM]
 have elast:(aM ps a b)[ps.length]'(by omega)=⟨5,b,a,0,0,⟨#[49]⟩⟩:=by simp [aM]
 have hJ:J ps.length=1:=by
  have:=h.part ps.length (by omega);rw [elast] at this;have e1:(aR.q ⟨5,b,a,0,0,⟨#[49]⟩⟩)=1:=(by decide +kernel:cX [49]=1);rw [e1] at this;have l1:ch 5 1=0:=rfl;have l2:cj 5 1=0:=rfl;have l3:cC 5 1=1:=rfl;have l4:di 5 1=1:=rfl;simp only [l1,l2,l3,l4] at this;grind
 refine ⟨h.gnd,fun k h0 hn=>?_,fun i hi=>?_⟩
 ·have:=h.node k h0 hn;rw [hlen,bk,hJ] at this;have e:cS (fun i=>aN (aM ps a b) i k*J i) ps.length=cS (fun i=>aN ps i k*J i) ps.length:=cF _ _ _ (fun i hi=>by rw [zK ps a b i k hi]);have e2:aN (aM ps a b) ps.length k = - lr ⟨1,a,b,0,0,r⟩ k:=by
   unfold aN;rw [List.getElem?_eq_getElem (by omega),elast];exact yg a b _ _ _ _ k
  rw [e,e2] at this;grind
 ·have:=h.part i (by omega);have e:(aM ps a b)[i]'(by omega)=aD ps[i]:=by
   unfold aM;rw [List.getElem_append_left (by simpa using hi),List.getElem_map]
  obtain ⟨_,ha,hb,hc,hd⟩:=fO ps[i];obtain ⟨l1,l2,l3⟩:=pJ ps[i];obtain ⟨k1,k7⟩:=hk ps[i] (List.getElem_mem hi);rw [e,quiet_S k1 k7,l1,l2,l3,ha,hb,hc,hd] at this;exact this
theorem Ao {n:Nat} {ps:List aR} {a b:Int} {U J:Nat->Rat} (hk:∀ p∈ps,1<=p.kind/\p.kind<=7) (h:aI n (aM ps a b) U J) (r:ByteArray) (hs:U a.toNat-U b.toNat+cX r.data.toList=0) :
  gC n (cV ps a b r) (fun j=>- U j) (fun i=>if i=ps.length then 1 else-J i):=by
 obtain ⟨h0,h1,h2⟩:=lK hk h r;refine ⟨by show-U 0=0;rw [h0];grind,fun k k0 kn=>?_,fun i hi=>?_⟩
 ·rw [aO,bk,if_pos rfl];have e:cS (fun i=>aN (cV ps a b r) i k*(if i=ps.length then 1 else-J i)) ps.length=cS (fun i=>-1*(aN ps i k*J i)) ps.length:=cF _ _ _ (fun i hi=>by rw [nK ps a b r i k hi,if_neg (by omega)];grind);have e2:aN (cV ps a b r) ps.length k=lr ⟨1,a,b,0,0,r⟩ k:=by
   unfold aN;rw [List.getElem?_eq_getElem (by rw [aO];omega),fB]
  rw [e,e2,k9,h1 k k0 kn];grind
 ·by_cases e:i=ps.length
  ·subst e;rw [fB,if_pos rfl];have l1:∀ q,ch 1 q=1:=fun _=>rfl
   have l2:∀ q,cj 1 q=0:=fun _=>rfl
   have l3:∀ q,cC 1 q=0-q:=fun _=>rfl
   simp only [l1,l2,l3];have eq:aR.q ⟨1,a,b,0,0,r⟩=cX r.data.toList:=rfl;rw [eq];grind
  ·have hp:i<ps.length:=by rw [aO] at hi;omega
   rw [qu ps a b r i hp,if_neg e];have:=h2 i hp;grind
theorem uB {n:Nat} {ps:List aR} {a b:Int} {U J:Nat->Rat} (hk:∀ p∈ps,1<=p.kind/\p.kind<=7) (hF:gS n ps) (ha:a.toNat<n) (hb:b.toNat<n) (h:aI n (aM ps a b) U J) (r:ByteArray) (hs:U a.toNat-U b.toNat+cX r.data.toList≠0) :
  gS n (cV ps a b r):=by
 obtain ⟨h0,h1,h2⟩:=lK hk h r;intro V I k;have e2:∀ k,aN (cV ps a b r) ps.length k=lr ⟨1,a,b,0,0,r⟩ k:=by
  intro k;unfold aN;rw [List.getElem?_eq_getElem (by rw [aO];omega),fB]
 obtain ⟨c,hc⟩:∃ c,c=I ps.length:=⟨_,rfl⟩;have hom:gC n ps (fun j=>V j+c*U j) (fun i=>I i+c*J i):=by
  refine ⟨by show V 0+c*U 0=0;rw [k.gnd,h0];grind,fun x x0 xn=>?_,fun i hi=>?_⟩
  ·have n1:=k.node x x0 xn;rw [aO,bk,e2,<- hc] at n1;have e:cS (fun i=>aN (cV ps a b r) i x*I i) ps.length=cS (fun i=>aN ps i x*I i) ps.length:=cF _ _ _ (fun i hi=>by rw [nK ps a b r i x hi]);rw [e] at n1;have e3:cS (fun i=>aN ps i x*(I i+c*J i)) ps.length=cS (fun i=>aN ps i x*I i+c*(aN ps i x*J i)) ps.length:=cF _ _ _ (fun i _=>by grind);show cS (fun i=>aN ps i x*(I i+c*J i)) ps.length=0
   rw [e3,kZ,k9,h1 x x0 xn];grind
  ·have p1:=k.part i (by rw [aO];omega);rw [qu ps a b r i hi] at p1;have p2:=h2 i hi;grind
 obtain ⟨z1,z2⟩:=hF _ _ hom;have hl:=k.part ps.length (by rw [aO];omega);rw [fB] at hl;have l1:∀ q,ch 1 q=1:=fun _=>rfl
 have l2:∀ q,cj 1 q=0:=fun _=>rfl
 have l3:∀ q,cC 1 q=0-q:=fun _=>rfl
 simp only [l1,l2,l3] at hl;have eq:aR.q ⟨1,a,b,0,0,r⟩=cX r.data.toList:=rfl;rw [eq,<- hc] at hl;have za:V a.toNat+c*U a.toNat=0:=z1 _ ha;have zb:V b.toNat+c*U b.toNat=0:=z1 _ hb;have hcc:c*(U a.toNat-U b.toNat+cX r.data.toList)=0:=by grind
 have hc0:c=0:=by
  rcases Rat.mul_eq_zero.1 hcc with e | e
  ·exact e
  ·exact absurd e hs
 refine ⟨fun j hj=>?_,fun i hi=>?_⟩
 ·have:V j+c*U j=0:=z1 j hj;rw [hc0] at this;grind
 ·rw [aO] at hi;by_cases e:i=ps.length
  ·rw [e,<- hc,hc0]
  ·have:I i+c*J i=0:=z2 i (by omega);rw [hc0] at this;grind
theorem Ap {n:Nat} {ps:List aR} {a b:Int} {V I U J:Nat->Rat} (hk:∀ p∈ps,1<=p.kind/\p.kind<=7) (hV:aI n ps V I) (h:aI n (aM ps a b) U J) (r:ByteArray) (c:Rat) (hc:c*(U a.toNat-U b.toNat+cX r.data.toList)=V a.toNat-V b.toNat) :
  aI n (cV ps a b r) (fun j=>V j-c*U j) (fun i=>if i=ps.length then c else I i-c*J i):=by
 obtain ⟨h0,h1,h2⟩:=lK hk h r;refine ⟨by show V 0-c*U 0=0;rw [hV.gnd,h0];grind,fun k k0 kn=>?_,fun i hi=>?_⟩
 ·rw [aO,bk,if_pos rfl];have e:cS (fun i=>aN (cV ps a b r) i k*(if i=ps.length then c else I i-c*J i)) ps.length=cS (fun i=>aN ps i k*I i+(- c)*(aN ps i k*J i)) ps.length:=cF _ _ _ (fun i hi=>by rw [nK ps a b r i k hi,if_neg (by omega)];grind);have e2:aN (cV ps a b r) ps.length k=lr ⟨1,a,b,0,0,r⟩ k:=by
   unfold aN;rw [List.getElem?_eq_getElem (by rw [aO];omega),fB]
  rw [e,e2,kZ,k9,h1 k k0 kn,hV.node k k0 kn];grind
 ·by_cases e:i=ps.length
  ·subst e;rw [fB,if_pos rfl];have l1:∀ q,ch 1 q=1:=fun _=>rfl
   have l2:∀ q,cj 1 q=0:=fun _=>rfl
   have l3:∀ q,cC 1 q=0-q:=fun _=>rfl
   have l4:∀ q,di 1 q=0:=fun _=>rfl
   simp only [l1,l2,l3,l4];have eq:aR.q ⟨1,a,b,0,0,r⟩=cX r.data.toList:=rfl;rw [eq];grind
  ·have hp:i<ps.length:=by rw [aO] at hi;omega
   rw [qu ps a b r i hp,if_neg e];have p1:=hV.part i hp;have p2:=h2 i hp;grind
end Go.Proofs.YtgilmecjbjoonabGreatDoor
