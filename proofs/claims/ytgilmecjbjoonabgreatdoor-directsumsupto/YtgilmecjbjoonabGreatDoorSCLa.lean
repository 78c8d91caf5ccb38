/- Contracts that the proof leans on. -/
import Derived.Test.YtgilmecjbjoonabGreatDoorSCBf
import Derived.Test.YtgilmecjbjoonabGreatDoorSCBd
import Derived.Test.YtgilmecjbjoonabGreatDoorSCBh
import Derived.Test.YtgilmecjbjoonabGreatDoorSCFd
import Derived.Test.YtgilmecjbjoonabGreatDoorSCSe
import Derived.Deep.RegionHeld3
namespace Go.Proofs.YtgilmecjbjoonabGreatDoor
open Go.RowKit
set_option linter.unusedVariables false
set_option linter.unusedSimpArgs false
set_option maxHeartbeats 8000000
set_option maxRecDepth 10000
theorem rOf_at (s:ByteArray) (m:Int) (w:World) (hs:s.size<=100000000) (hml:w.cell? ⟨2,0,none⟩=some (.int .i64 m)) :
  Calls Tryz.prog 33 #[.string s] w fun e w'=>∃ b,e=.returned (.pointer (some ⟨b,0,none⟩))/\w.grownBy w' none/\(RQ w' b (dO s.data.toList) (3*s.size+8)∨(dO s.data.toList=0/\kY w' b (3*s.size+8))):=by
 refine (zk s m w hs hml).mono ?_;rintro e w' ⟨b,rfl,h1,h2,h3,h4⟩;refine ⟨b,rfl,h1,?_⟩;have hq:=ofQ_R s.data.toList;have e1:sg (fR s.data.toList).1 (fR s.data.toList).2.1=(dO s.data.toList).num:=by rw [hq];exact eN _
 have e2:(fR s.data.toList).2.2=(dO s.data.toList).den:=by rw [hq]
 rw [e1] at h3 h4;rw [e2] at h4;rcases h4 with h4 | ⟨h4,h5⟩
 ·exact .inl h4
 ·right
  rw [hq] at h4;simp only [Prod.mk.injEq] at h4;have hn:(dO s.data.toList).num=0:=by
   have:=h4.2.1;unfold rN at this;omega
  have h0:dO s.data.toList=0:=Rat.num_eq_zero.1 hn;rw [hn] at h3;exact ⟨h0,h3,h5⟩
theorem aF.tight {w:World} {b o L K:Nat} {z:Int} (h:aF w b o z L) (hz:z.natAbs<4294967296^K):aF w b o z K:=by
 obtain ⟨neg,v,h1,h2,h3,h4⟩:=h;exact ⟨neg,v,h1,h2.tight hz,h3,h4⟩
theorem uP (q:Rat) (K:Nat) (m:Int) (w:World) (hK:2<=K) (hf:pK q K) (hl:K<=4000000) (hml:w.cell? ⟨2,0,none⟩=some (.int .i64 m)) :
  Calls Tryz.prog 33 #[.string ⟨(bG q).toArray⟩] w fun e w'=>∃ b,e=.returned (.pointer (some ⟨b,0,none⟩))/\w.grownBy w' none/\RX w' b q K:=by
 have hlen:=wU hf (by omega);refine (rOf_at ⟨(bG q).toArray⟩ m w (by show (bG q).toArray.size<=_;simp;omega) hml).mono ?_;rintro e w' ⟨b,rfl,g,h⟩;refine ⟨b,rfl,g,?_⟩;have e0:dO (⟨(bG q).toArray⟩:ByteArray).data.toList=q:=wK q;rw [e0] at h;rcases h with h | ⟨h0,h⟩
 ·have h':RQ w' b q K:=⟨h.1.tight hf.1,h.2.1.tight hf.2,h.2.2⟩;exact h'.x
 ·subst h0;have h':kY w' b K:=⟨h.1.tight hf.1,h.2.tight hf.1⟩;exact h'.x hK
theorem pF {w:World} {base n cap:Nat} {ao:Option Addr} {V:Nat->Rat} (h:cU sv 47 w base (.slice ao n cap) (bd V n)) (h0:0<n):∃ g off,ao=some ⟨g,off,none⟩/\∀ j,j<n->w.cell? ⟨g,off+j,none⟩=some (.string ⟨(bG (V j)).toArray⟩):=by
 obtain ⟨ao',cap',e,_,_,hr⟩:=h.row;injection e with e1 e2 e3
 subst e1;obtain ⟨b,off,rfl,_,_⟩:=hr 0 (by rw [aM];exact h0);refine ⟨b,off,rfl,fun j hj=>?_⟩;obtain ⟨b',off',e4,_,hc⟩:=hr j (by rw [aM];exact hj);have e5:=Option.some.inj e4;injection e5 with e6 e7
 subst e6 e7;rw [hc];simp [bd,sv]
theorem wh (b L:Nat) (w:World) (h:kY w b L) :
  Calls Tryz.prog 55 #[.pointer (some ⟨b,0,none⟩)] w fun e w'=>e=.returned (.bool true)/\w.grownBy w' none:=by
 have H:=ab h;clear h;have ho:(gI 1 1==0)=true:=by rw [p6];rfl
 go_enter Tryz.func55,Tryz.ntmps55
 go_wp2_with fail;refine (uj b L _ H.out).mono ?_;rintro e w1 ⟨rfl,d1,d2,d3⟩;have D1:=ab d1;have D2:Hid (aF w1 w.heap.size 0 ((1:Nat):Int) 2):=d2;clear d1 d2 d3;go_wp2_with fail;refine (eD 1 _ (by omega) (by omega)).mono ?_;rintro e w2 ⟨rfl,a1,a2,a3⟩;have A1:=ab a1;have A2:Hid (aF w2 w1.heap.size 0 ((1:Nat):Int) 2):=a2;clear a1 a2 a3;go_wp2_with fail;refine (oZ w.heap.size 0 w1.heap.size 0 1 1 2 2 _ (D2.out.keep0 A1.out) A2.out).mono ?_;rintro e w3 ⟨rfl,b1⟩;have B1:=ab (aa D1.out (aa A1.out b1));clear b1;generalize gI 1 1=oo at ho ⊢;go_wp2;go_ret;exact ⟨by first | rfl | rw [ho],B1.out⟩
theorem wJ (b L:Nat) (w:World) (h:kY w b L) :
  Calls Tryz.prog 56 #[.pointer (some ⟨b,0,none⟩)] w fun e w'=>e=.returned (.pointer (some ⟨b,0,none⟩))/\w'=w:=by
 obtain ⟨n1,v1,b1,_⟩:=h.1;have c0:=b1.c0;clear b1 h;go_enter Tryz.func56,Tryz.ntmps56
 go_wp2;go_ret;exact ⟨rfl,rfl⟩
theorem rT_nil (b L:Nat) (w:World) (h:kY w b L) (hL:L<=10000000) :
  Calls Tryz.prog 25 #[.pointer (some ⟨b,0,none⟩)] w fun e w'=>e=.returned (.string ⟨(bG 0).toArray⟩)/\w.grownBy w' none:=by
 have H:=ab h;clear h;have hq:Hid (bG 0=dw 0):=by show _=_;rw [rJ,if_pos (by rfl),List.append_nil];rfl
 rw [hq.out];have hl1:=ln H.out.1 hL;obtain ⟨A,hA⟩:∃ l,l=dw 0:=⟨_,rfl⟩;rw [<- hA] at hl1 ⊢;have HA:=ab hA;clear hA;go_enter Tryz.func25,Tryz.ntmps25
 go_wp2_with fail;refine (wh b L _ H.out).mono ?_;rintro e w1 ⟨rfl,g1⟩;have G1:=ab g1;have H1:=ab (H.out.keep0 g1);clear g1;go_wp2_with fail;refine (wJ b L _ H1.out).mono ?_;rintro e wn ⟨rfl,hwn⟩;rw [hwn];clear hwn;go_wp2_with fail;refine (fs b 0 0 L _ H1.out.1 (by omega)).mono ?_;rintro e w2 ⟨rfl,g2⟩;have G2:=ab (aa G1.out g2);clear g2;rw [<- HA.out];go_wp2;go_ret;exact ⟨rfl,G2.out⟩
end Go.Proofs.YtgilmecjbjoonabGreatDoor
