/- Contracts that the proof leans on. -/
import Derived.Test.YtkhgaelnglndiaaGreatDoorXCDa
namespace Go.Proofs.YtkhgaelnglndiaaGreatDoor
open Go.RowKit
set_option linter.unusedVariables false
set_option linter.unusedSimpArgs false
set_option maxHeartbeats 8000000
set_option maxRecDepth 10000
theorem Alike.amp {ps qs:List Prt} (h:Alike ps qs) (i r:Nat):ampAt qs i r=ampAt ps i r:=by
 unfold ampAt;by_cases hi:i<ps.length
 ·have hq:i<qs.length:=by rw [h.len];exact hi
  obtain ⟨ha,hb,_⟩:=h.at_ i hi hq;rw [List.getElem?_eq_getElem hi,List.getElem?_eq_getElem hq];exact amp_of ha hb r
 ·have hl:=h.len;rw [List.getElem?_eq_none (by omega:qs.length<=i),List.getElem?_eq_none (by omega:ps.length<=i)]
theorem quiet_none {p:Prt} (h:¬ (p.kind=4∨p.kind=5)):quietP p=p:=by unfold quietP;rw [if_neg h]
theorem quiet_S {p:Prt} (h1:1<=p.kind) (h7:p.kind<=7):lawS (quietP p).kind (quietP p).q=0:=by
 by_cases h:p.kind=4∨p.kind=5
 ·have e:(quietP p).q=0:=by
   unfold quietP Prt.q;rw [if_pos h];exact (by decide +kernel:ofR [48]=0)
  rw [(quiet_kind p).1,e];rcases h with h | h<;>rw [h]<;>rfl
 ·rw [quiet_none h];have:p.kind=1∨p.kind=2∨p.kind=3∨p.kind=6∨p.kind=7:=by omega
  rcases this with e | e | e | e | e<;>rw [e]<;>rfl
theorem SolP.fixed {nodes:Int} {ps:List Prt} {c1 c2:Int} {n1 n2:Nat} {V I:Nat->Rat} (h:SolP nodes ps c1 c2 n1 n2 V I) (hc:(checkD false nodes ps).1=0) (hF:Fixed nodes.toNat ps) :
  c1=0/\c2=0/\n1=nodes.toNat/\n2=ps.length/\NetSol nodes.toNat ps V I:=by
 obtain ⟨hR,_⟩:=right_of hc;obtain ⟨V0,I0,s0,u0⟩:=one_of_fixed hR hF;rcases h with ⟨h0,_⟩ | ⟨_,h2,(⟨e1,e2,e3,e4,_⟩ | ⟨_,_,_,hno⟩ | ⟨_,_,_,V1,I1,V2,I2,s1,s2,hne⟩)⟩
 ·exact absurd hc h0
 ·exact ⟨e1,h2,e2,e3,e4⟩
 ·exact absurd ⟨V0,I0,s0⟩ hno
 ·exfalso
  obtain ⟨a1,b1⟩:=u0 _ _ s1;obtain ⟨a2,b2⟩:=u0 _ _ s2;rcases hne with ⟨j,hj,hn⟩ | ⟨i,hi,hn⟩
  ·exact hn (by rw [a1 j hj,a2 j hj])
  ·exact hn (by rw [b1 i hi,b2 i hi])
theorem SolP.one {nodes:Int} {ps:List Prt} {c2:Int} {n1 n2:Nat} {V I:Nat->Rat} (h:SolP nodes ps 0 c2 n1 n2 V I) :
  (checkD false nodes ps).1=0/\c2=0/\n1=nodes.toNat/\n2=ps.length/\NetSol nodes.toNat ps V I/\∀ V' I',NetSol nodes.toNat ps V' I'->(∀ j,j<nodes.toNat->V' j=V j)/\∀ i,i<ps.length->I' i=I i:=by
 rcases h with ⟨h0,h1,_⟩ | ⟨h0,h2,(⟨_,e2,e3,e4,e5⟩ | ⟨h1,_⟩ | ⟨h1,_⟩)⟩
 ·exact absurd h1.symm h0
 ·exact ⟨h0,h2,e2,e3,e4,e5⟩
 ·exact absurd h1 (by decide)
 ·exact absurd h1 (by decide)
def moreP (ps:List Prt) (a b:Int) (r:ByteArray):List Prt:=ps++[⟨1,a,b,0,0,r⟩]
theorem more_length (ps:List Prt) (a b:Int) (r:ByteArray):(moreP ps a b r).length=ps.length+1:=by simp [moreP]
theorem more_last (ps:List Prt) (a b:Int) (r:ByteArray):(moreP ps a b r)[ps.length]'(by rw [more_length];omega)=⟨1,a,b,0,0,r⟩:=by simp [moreP]
theorem more_at (ps:List Prt) (a b:Int) (r:ByteArray) (i:Nat) (h:i<ps.length):(moreP ps a b r)[i]'(by rw [more_length];omega)=ps[i]:=by
 unfold moreP;exact List.getElem_append_left h
theorem more_amp (ps:List Prt) (a b:Int) (r:ByteArray) (i k:Nat) (h:i<ps.length):ampAt (moreP ps a b r) i k=ampAt ps i k:=by
 unfold ampAt moreP;rw [List.getElem?_append_left h]
theorem push_amp (ps:List Prt) (a b:Int) (i k:Nat) (h:i<ps.length):ampAt (pushPs ps a b) i k=ampAt ps i k:=by
 have e:ampAt (pushPs ps a b) i k=ampAt (ps.map quietP) i k:=by
  unfold ampAt pushPs;rw [List.getElem?_append_left (by simpa using h)]
 rw [e,(alike_quiet ps).amp]
theorem amp_turn (a b:Int) (v w:ByteArray) (k1 k2:Int) (r:Nat):amp ⟨k1,b,a,0,0,v⟩ r = - amp ⟨k2,a,b,0,0,w⟩ r:=by
 unfold amp;show _ = - _
 simp only;by_cases h1:a=(r:Int)<;>by_cases h2:b=(r:Int)<;>simp only [h1,h2,if_true,if_false]<;>grind
theorem push_says {n:Nat} {ps:List Prt} {a b:Int} {U J:Nat->Rat} (hk:∀ p∈ps,1<=p.kind/\p.kind<=7) (h:NetSol n (pushPs ps a b) U J) (r:ByteArray) :
  U 0=0/\(∀ k,0<k->k<n->sumI (fun i=>ampAt ps i k*J i) ps.length=amp ⟨1,a,b,0,0,r⟩ k) /\
  ∀ i (hi:i<ps.length),lawA ps[i].kind ps[i].q*(U ps[i].a.toNat-U ps[i].b.toNat)+lawL ps[i].kind ps[i].q*(U ps[i].c.toNat-U ps[i].d.toNat)+lawF ps[i].kind ps[i].q*J i=0:=by
 have hlen:(pushPs ps a b).length=ps.length+1:=by simp [pushPs]
 have elast:(pushPs ps a b)[ps.length]'(by omega)=⟨5,b,a,0,0,⟨#[49]⟩⟩:=by simp [pushPs]
 have hJ:J ps.length=1:=by
  have:=h.part ps.length (by omega);rw [elast] at this;have e1:(Prt.q ⟨5,b,a,0,0,⟨#[49]⟩⟩)=1:=(by decide +kernel:ofR [49]=1);rw [e1] at this;have l1:lawA 5 1=0:=rfl;have l2:lawL 5 1=0:=rfl;have l3:lawF 5 1=1:=rfl;have l4:lawS 5 1=1:=rfl;simp only [l1,l2,l3,l4] at this;grind
 refine ⟨h.gnd,fun k h0 hn=>?_,fun i hi=>?_⟩
 ·have:=h.node k h0 hn;rw [hlen,sumI_succ,hJ] at this;have e:sumI (fun i=>ampAt (pushPs ps a b) i k*J i) ps.length=sumI (fun i=>ampAt ps i k*J i) ps.length:=sumI_congr _ _ _ (fun i hi=>by rw [push_amp ps a b i k hi]);have e2:ampAt (pushPs ps a b) ps.length k = - amp ⟨1,a,b,0,0,r⟩ k:=by
   unfold ampAt;rw [List.getElem?_eq_getElem (by omega),elast];exact amp_turn a b _ _ _ _ k
  rw [e,e2] at this;grind
 ·have:=h.part i (by omega);have e:(pushPs ps a b)[i]'(by omega)=quietP ps[i]:=by
   unfold pushPs;rw [List.getElem_append_left (by simpa using hi),List.getElem_map]
  obtain ⟨_,ha,hb,hc,hd⟩:=quiet_kind ps[i];obtain ⟨l1,l2,l3⟩:=quiet_law ps[i];obtain ⟨k1,k7⟩:=hk ps[i] (List.getElem_mem hi);rw [e,quiet_S k1 k7,l1,l2,l3,ha,hb,hc,hd] at this;exact this
theorem thev_hom {n:Nat} {ps:List Prt} {a b:Int} {U J:Nat->Rat} (hk:∀ p∈ps,1<=p.kind/\p.kind<=7) (h:NetSol n (pushPs ps a b) U J) (r:ByteArray) (hs:U a.toNat-U b.toNat+ofR r.data.toList=0) :
  NetHom n (moreP ps a b r) (fun j=>- U j) (fun i=>if i=ps.length then 1 else-J i):=by
 obtain ⟨h0,h1,h2⟩:=push_says hk h r;refine ⟨by show-U 0=0;rw [h0];grind,fun k k0 kn=>?_,fun i hi=>?_⟩
 ·rw [more_length,sumI_succ,if_pos rfl];have e:sumI (fun i=>ampAt (moreP ps a b r) i k*(if i=ps.length then 1 else-J i)) ps.length=sumI (fun i=>-1*(ampAt ps i k*J i)) ps.length:=sumI_congr _ _ _ (fun i hi=>by rw [more_amp ps a b r i k hi,if_neg (by omega)];grind);have e2:ampAt (moreP ps a b r) ps.length k=amp ⟨1,a,b,0,0,r⟩ k:=by
   unfold ampAt;rw [List.getElem?_eq_getElem (by rw [more_length];omega),more_last]
  rw [e,e2,sumI_mul,h1 k k0 kn];grind
 ·by_cases e:i=ps.length
  ·subst e;rw [more_last,if_pos rfl];have l1:∀ q,lawA 1 q=1:=fun _=>rfl
   have l2:∀ q,lawL 1 q=0:=fun _=>rfl
   have l3:∀ q,lawF 1 q=0-q:=fun _=>rfl
   simp only [l1,l2,l3];have eq:Prt.q ⟨1,a,b,0,0,r⟩=ofR r.data.toList:=rfl;rw [eq];grind
  ·have hp:i<ps.length:=by rw [more_length] at hi;omega
   rw [more_at ps a b r i hp,if_neg e];have:=h2 i hp;grind
theorem thev_fixed {n:Nat} {ps:List Prt} {a b:Int} {U J:Nat->Rat} (hk:∀ p∈ps,1<=p.kind/\p.kind<=7) (hF:Fixed n ps) (ha:a.toNat<n) (hb:b.toNat<n) (h:NetSol n (pushPs ps a b) U J) (r:ByteArray) (hs:U a.toNat-U b.toNat+ofR r.data.toList≠0) :
  Fixed n (moreP ps a b r):=by
 obtain ⟨h0,h1,h2⟩:=push_says hk h r;intro V I k;have e2:∀ k,ampAt (moreP ps a b r) ps.length k=amp ⟨1,a,b,0,0,r⟩ k:=by
  intro k;unfold ampAt;rw [List.getElem?_eq_getElem (by rw [more_length];omega),more_last]
 obtain ⟨c,hc⟩:∃ c,c=I ps.length:=⟨_,rfl⟩;have hom:NetHom n ps (fun j=>V j+c*U j) (fun i=>I i+c*J i):=by
  refine ⟨by show V 0+c*U 0=0;rw [k.gnd,h0];grind,fun x x0 xn=>?_,fun i hi=>?_⟩
  ·have n1:=k.node x x0 xn;rw [more_length,sumI_succ,e2,<- hc] at n1;have e:sumI (fun i=>ampAt (moreP ps a b r) i x*I i) ps.length=sumI (fun i=>ampAt ps i x*I i) ps.length:=sumI_congr _ _ _ (fun i hi=>by rw [more_amp ps a b r i x hi]);rw [e] at n1;have e3:sumI (fun i=>ampAt ps i x*(I i+c*J i)) ps.length=sumI (fun i=>ampAt ps i x*I i+c*(ampAt ps i x*J i)) ps.length:=sumI_congr _ _ _ (fun i _=>by grind);show sumI (fun i=>ampAt ps i x*(I i+c*J i)) ps.length=0
   rw [e3,sumI_add,sumI_mul,h1 x x0 xn];grind
  ·have p1:=k.part i (by rw [more_length];omega);rw [more_at ps a b r i hi] at p1;have p2:=h2 i hi;grind
 obtain ⟨z1,z2⟩:=hF _ _ hom;have hl:=k.part ps.length (by rw [more_length];omega);rw [more_last] at hl;have l1:∀ q,lawA 1 q=1:=fun _=>rfl
 have l2:∀ q,lawL 1 q=0:=fun _=>rfl
 have l3:∀ q,lawF 1 q=0-q:=fun _=>rfl
 simp only [l1,l2,l3] at hl;have eq:Prt.q ⟨1,a,b,0,0,r⟩=ofR r.data.toList:=rfl;rw [eq,<- hc] at hl;have za:V a.toNat+c*U a.toNat=0:=z1 _ ha;have zb:V b.toNat+c*U b.toNat=0:=z1 _ hb;have hcc:c*(U a.toNat-U b.toNat+ofR r.data.toList)=0:=by grind
 have hc0:c=0:=by
  rcases Rat.mul_eq_zero.1 hcc with e | e
  ·exact e
  ·exact absurd e hs
 refine ⟨fun j hj=>?_,fun i hi=>?_⟩
 ·have:V j+c*U j=0:=z1 j hj;rw [hc0] at this;grind
 ·rw [more_length] at hi;by_cases e:i=ps.length
  ·rw [e,<- hc,hc0]
  ·have:I i+c*J i=0:=z2 i (by omega);rw [hc0] at this;grind
theorem thev_sol {n:Nat} {ps:List Prt} {a b:Int} {V I U J:Nat->Rat} (hk:∀ p∈ps,1<=p.kind/\p.kind<=7) (hV:NetSol n ps V I) (h:NetSol n (pushPs ps a b) U J) (r:ByteArray) (c:Rat) (hc:c*(U a.toNat-U b.toNat+ofR r.data.toList)=V a.toNat-V b.toNat) :
  NetSol n (moreP ps a b r) (fun j=>V j-c*U j) (fun i=>if i=ps.length then c else I i-c*J i):=by
 obtain ⟨h0,h1,h2⟩:=push_says hk h r;refine ⟨by show V 0-c*U 0=0;rw [hV.gnd,h0];grind,fun k k0 kn=>?_,fun i hi=>?_⟩
 ·rw [more_length,sumI_succ,if_pos rfl];have e:sumI (fun i=>ampAt (moreP ps a b r) i k*(if i=ps.length then c else I i-c*J i)) ps.length=sumI (fun i=>ampAt ps i k*I i+(- c)*(ampAt ps i k*J i)) ps.length:=sumI_congr _ _ _ (fun i hi=>by rw [more_amp ps a b r i k hi,if_neg (by omega)];grind);have e2:ampAt (moreP ps a b r) ps.length k=amp ⟨1,a,b,0,0,r⟩ k:=by
   unfold ampAt;rw [List.getElem?_eq_getElem (by rw [more_length];omega),more_last]
  rw [e,e2,sumI_add,sumI_mul,h1 k k0 kn,hV.node k k0 kn];grind
 ·by_cases e:i=ps.length
  ·subst e;rw [more_last,if_pos rfl];have l1:∀ q,lawA 1 q=1:=fun _=>rfl
   have l2:∀ q,lawL 1 q=0:=fun _=>rfl
   have l3:∀ q,lawF 1 q=0-q:=fun _=>rfl
   have l4:∀ q,lawS 1 q=0:=fun _=>rfl
   simp only [l1,l2,l3,l4];have eq:Prt.q ⟨1,a,b,0,0,r⟩=ofR r.data.toList:=rfl;rw [eq];grind
  ·have hp:i<ps.length:=by rw [more_length] at hi;omega
   rw [more_at ps a b r i hp,if_neg e];have p1:=hV.part i hp;have p2:=h2 i hp;grind
end Go.Proofs.YtkhgaelnglndiaaGreatDoor
