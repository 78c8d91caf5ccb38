/- Contracts that the proof leans on. -/
import Derived.Test.YtcoeancbjafooaaGreatDoorXCBf
import Derived.Test.YtcoeancbjafooaaGreatDoorXCBd
import Derived.Test.YtcoeancbjafooaaGreatDoorXCBh
import Derived.Test.YtcoeancbjafooaaGreatDoorXCFd
import Derived.Test.YtcoeancbjafooaaGreatDoorXCSe
import Derived.Deep.RegionHeld3
namespace Go.Proofs.YtcoeancbjafooaaGreatDoor
open Go.RowKit
set_option linter.unusedVariables false
set_option linter.unusedSimpArgs false
set_option maxHeartbeats 8000000
set_option maxRecDepth 10000
theorem xY (s:ByteArray) (m:Int) (w:World) (hs:s.size<=100000000) (hml:w.cell? ⟨1,0,none⟩=some (.int .i64 m)) :
  Calls Tryz.prog 16 #[.string s] w fun e w'=>∃ b,e=.returned (.pointer (some ⟨b,0,none⟩))/\w.grownBy w' none/\(RQ w' b (dw s.data.toList) (3*s.size+8)∨(dw s.data.toList=0/\mu w' b (3*s.size+8))):=by
 refine (kA s m w hs hml).mono ?_;rintro e w' ⟨b,rfl,h1,h2,h3,h4⟩;refine ⟨b,rfl,h1,?_⟩;have hq:=CL s.data.toList;have e1:sg (fm s.data.toList).1 (fm s.data.toList).2.1=(dw s.data.toList).num:=by rw [hq];exact dW _
 have e2:(fm s.data.toList).2.2=(dw s.data.toList).den:=by rw [hq]
 rw [e1] at h3 h4;rw [e2] at h4;rcases h4 with h4 | ⟨h4,h5⟩
 ·exact .inl h4
 ·right
  rw [hq] at h4;simp only [Prod.mk.injEq] at h4;have hn:(dw s.data.toList).num=0:=by
   have:=h4.2.1;unfold rN at this;omega
  have h0:dw s.data.toList=0:=Rat.num_eq_zero.1 hn;rw [hn] at h3;exact ⟨h0,h3,h5⟩
theorem aB.tight {w:World} {b o L K:Nat} {z:Int} (h:aB w b o z L) (hz:z.natAbs<4294967296^K):aB w b o z K:=by
 obtain ⟨neg,v,h1,h2,h3,h4⟩:=h;exact ⟨neg,v,h1,h2.tight hz,h3,h4⟩
theorem o9 (q:Rat) (K:Nat) (m:Int) (w:World) (hK:2<=K) (hf:jT q K) (hl:K<=4000000) (hml:w.cell? ⟨1,0,none⟩=some (.int .i64 m)) :
  Calls Tryz.prog 16 #[.string ⟨(bg q).toArray⟩] w fun e w'=>∃ b,e=.returned (.pointer (some ⟨b,0,none⟩))/\w.grownBy w' none/\RX w' b q K:=by
 have hlen:=sE hf (by omega);refine (xY ⟨(bg q).toArray⟩ m w (by show (bg q).toArray.size<=_;simp;omega) hml).mono ?_;rintro e w' ⟨b,rfl,g,h⟩;refine ⟨b,rfl,g,?_⟩;have e0:dw (⟨(bg q).toArray⟩:ByteArray).data.toList=q:=sq q;rw [e0] at h;rcases h with h | ⟨h0,h⟩
 ·have h':RQ w' b q K:=⟨h.1.tight hf.1,h.2.1.tight hf.2,h.2.2⟩;exact h'.x
 ·subst h0;have h':mu w' b K:=⟨h.1.tight hf.1,h.2.tight hf.1⟩;exact h'.x hK
theorem jg {w:World} {base n cap:Nat} {ao:Option Addr} {V:Nat->Rat} (h:du sv 45 w base (.slice ao n cap) (bB V n)) (h0:0<n):∃ g off,ao=some ⟨g,off,none⟩/\∀ j,j<n->w.cell? ⟨g,off+j,none⟩=some (.string ⟨(bg (V j)).toArray⟩):=by
 obtain ⟨ao',cap',e,_,_,hr⟩:=h.row;injection e with e1 e2 e3
 subst e1;obtain ⟨b,off,rfl,_,_⟩:=hr 0 (by rw [aJ];exact h0);refine ⟨b,off,rfl,fun j hj=>?_⟩;obtain ⟨b',off',e4,_,hc⟩:=hr j (by rw [aJ];exact hj);have e5:=Option.some.inj e4;injection e5 with e6 e7
 subst e6 e7;rw [hc];simp [bB,sv]
theorem eD (x nodes:Int) (b:Nat) (w:World) (hc:w.cell? ⟨b,0,none⟩=some (.int .i64 nodes)) :
  Calls Tryz.prog 28 #[.int .i64 x,.pointer (some ⟨b,0,none⟩)] w fun e w'=>e=.returned (.bool (decide (0<=x) && decide (x<nodes)))/\w'=w:=by
 by_cases hx:0<=x
 ·have hd:decide (0<=x)=true:=decide_eq_true hx;go_enter Tryz.func28,Tryz.ntmps28
  go_wp2;go_ret;rw [hd,Bool.true_and];exact ⟨rfl,rfl⟩
 ·have hd:decide (0<=x)=false:=decide_eq_false hx;go_enter Tryz.func28,Tryz.ntmps28
  go_wp2;go_ret;exact ⟨rfl,rfl⟩
theorem pH (g off n cap:Nat) (io:Option Addr) (il ic:Nat) (p q:Nat) (s t:Rat) (K:Nat) (m:Int) (w:World) (hml:w.cell? ⟨1,0,none⟩=some (.int .i64 m)) (hp:p<n) (hq:q<n)
  (cp:w.cell? ⟨g,off+p,none⟩=some (.string ⟨(bg s).toArray⟩)) (cq:w.cell? ⟨g,off+q,none⟩=some (.string ⟨(bg t).toArray⟩)) (hK:2<=K) (hs:jT s K) (ht:jT t K) (hl:K<=4000000) :
  Calls Tryz.prog 31 #[.agg #[.slice (some ⟨g,off,none⟩) n cap,.slice io il ic],.int .i64 ((p:Nat):Int),.int .i64 ((q:Nat):Int)] w fun e w'=>RQE w (s-t) (K+K+3) e w':=by
 have X1h:=fun wx h=>o9 s K m wx hK hs hl h
 have X2h:=fun wx h=>o9 t K m wx hK ht hl h
 clear hs ht;generalize (⟨(bg s).toArray⟩:ByteArray)=S at cp X1h;generalize (⟨(bg t).toArray⟩:ByteArray)=T at cq X2h;obtain ⟨W,hW⟩:∃ W,W=w.alloc (Obj.cells #[.slice (some ⟨g,off,none⟩) n cap,.slice io il ic] 29):=⟨_,rfl⟩;have GW:w.grownBy W none:=by rw [hW];exact ag (ae w none) _
 have hmlW:=GW.cell hml (by simp);have cpW:=GW.cell cp (by simp);have cqW:=GW.cell cq (by simp);have c0:W.cell? ⟨w.heap.size,0,none⟩=some (.slice (some ⟨g,off,none⟩) n cap):=by rw [hW];simp
 have GWH:=ab GW;clear GW cp cq hml;go_enter Tryz.func31,Tryz.ntmps31
 go_wp2;rw [<- hW];generalize w.heap.size=bb at c0 ⊢;clear hW;go_region_held3 (fun w'=>w'.cell? ⟨bb,0,none⟩=some (.slice (some ⟨g,off,none⟩) n cap)/\w'.cell? ⟨g,off+p,none⟩=some (.string S)/\w'.cell? ⟨g,off+q,none⟩=some (.string T)) (go_keep)
  (first
   | (go_at_call_of 16 (Value.string S);refine (X1h _ (by first | exact hmlW | exact ((aj _).cell hmlW (by simp)))).mono ?_;rintro e w1 ⟨b1,rfl,g1,x1⟩;have G1:W.grownBy w1 none:=(by first | exact g1 | exact aa (aj _) g1);have k0:=G1.cell c0 (by simp);have k1:=G1.cell cpW (by simp);have k2:=G1.cell cqW (by simp);have X1:=ab x1;clear x1 g1)
   | (go_at_call_of 16 (Value.string T);refine (X2h _ (G1.cell hmlW (by simp))).mono ?_;rintro e w2 ⟨b2,rfl,g2,x2⟩;have l0:=g2.cell k0 (by simp);have l1:=g2.cell k1 (by simp);have l2:=g2.cell k2 (by simp);have X2:=ab x2;have X1':=ab (X1.out.keep0 g2);have G2:=aa G1 g2;clear x2)
   | (go_at_call 15;refine (De b1 b2 _ _ _ _ _ X1'.out X2.out (by omega)).mono ?_;rintro e w3 ⟨b3,rfl,r1,r2,r3⟩;have R1:=ab r1;have R3:=ab r3;have q0:=r2.cell l0 (by simp);have q1:=r2.cell l1 (by simp);have q2:=r2.cell l2 (by simp);have G3:=ab (aa G2 r2);have S2:=ab G2;clear r1 r3))
 all_goals go_wp2
 all_goals go_ret
 all_goals exact ⟨b3,rfl,R1.out,aa GWH.out G3.out,Nat.le_trans GWH.out.size (Nat.le_trans S2.out.size R3.out)⟩
end Go.Proofs.YtcoeancbjafooaaGreatDoor
