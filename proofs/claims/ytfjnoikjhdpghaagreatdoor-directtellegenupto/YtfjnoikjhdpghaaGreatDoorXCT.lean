/- Contracts that the proof leans on. -/
import Derived.Test.YtfjnoikjhdpghaaGreatDoorXCLo
import Derived.Test.YtfjnoikjhdpghaaGreatDoorXCNz
import Derived.Test.YtfjnoikjhdpghaaGreatDoorXCLa
import Derived.Test.YtfjnoikjhdpghaaGreatDoorXHand
import Derived.Test.YtfjnoikjhdpghaaGreatDoorXSumV
import Derived.Test.YtfjnoikjhdpghaaGreatDoorXCNc
import Derived.Test.YtfjnoikjhdpghaaGreatDoorXDPower
import Derived.Test.YtfjnoikjhdpghaaGreatDoorXCDb
import Derived.Test.YtfjnoikjhdpghaaGreatDoorXRMulX
import Derived.Test.YtfjnoikjhdpghaaGreatDoorXCBh
import Derived.Test.YtfjnoikjhdpghaaGreatDoorXCSe
namespace Go.Proofs.YtfjnoikjhdpghaaGreatDoor
open Go.RowKit
set_option linter.unusedVariables false
set_option linter.unusedSimpArgs false
set_option maxHeartbeats 8000000
set_option maxRecDepth 10000
def lN:List Int->List Pr->(Nat->Rat)->Rat
 | c :: cs,p :: ps,s=>(c:Rat)*(s p.1-s p.2)+lN cs ps s
 | _,_,_=>0
def kU (V:Nat->Rat):Nat->Nat
 | 0=>1
 | n+1=>kU V n*(V n).den
theorem yH (V:Nat->Rat) (n:Nat):0<kU V n:=by
 induction n with
 | zero=>exact Nat.one_pos
 | succ n ih=>exact Nat.mul_pos ih (Rat.den_pos _)
theorem qK (V:Nat->Rat):∀ n j,j<n->(V j).den∣kU V n
 | 0,j,h=>by omega
 | n+1,j,h=>by
  by_cases e:j=n
  ·rw [e];exact Nat.dvd_mul_left _ _
  ·exact Nat.dvd_trans (qK V n j (by omega)) (Nat.dvd_mul_right _ _)
theorem den_num (q:Rat):q*((q.den:Nat):Rat)=(q.num:Rat):=by
 have h:q=(q.num:Rat) / ((q.den:Nat):Rat):=(Rat.mkRat_self q).symm.trans (Rat.mkRat_eq_div _ _);have hd:((q.den:Nat):Rat)≠0:=by
  intro e;have:=Rat.den_pos q;have:(q.den:Nat)=0:=by exact_mod_cast e
  omega
 generalize q.num=a at h ⊢;generalize ((q.den:Nat):Rat)=b at h hd ⊢;rw [h,Rat.div_mul_cancel hd]
theorem zu {q:Rat} {D:Nat} (h:q.den∣D):∃ z:Int,q*(D:Rat)=(z:Rat):=by
 obtain ⟨k,rfl⟩:=h;refine ⟨q.num*(k:Int),?_⟩;have h1:q*(q.den:Rat)=(q.num:Rat):=den_num q;rw [Rat.natCast_mul,<- Rat.mul_assoc,h1,Rat.intCast_mul];rfl
theorem vF (c:List Int) (E:List Pr) (V:Nat->Rat) (n:Nat) (hE:∀ p∈E,p.1<n/\p.2<n) (h:∀ s:Nat->Int,cB c E s=0):lN c E V=0:=by
 have hD:=yH V n;have hD2:(kU V n:Rat)≠0:=by
  intro e;have:(kU V n:Nat)=0:=by exact_mod_cast e
  omega
 have hs:∃ s:Nat->Int,∀ j,j<n->V j*(kU V n:Rat)=(s j:Rat):=by
  have:∀ j,∃ z:Int,j<n->V j*(kU V n:Rat)=(z:Rat):=by
   intro j;by_cases hj:j<n
   ·obtain ⟨z,hz⟩:=zu (qK V n j hj);exact ⟨z,fun _=>hz⟩
   ·exact ⟨0,fun h=>absurd h hj⟩
  exact ⟨fun j=>(this j).choose,fun j hj=>(this j).choose_spec hj⟩
 obtain ⟨s,hs⟩:=hs;have key:∀ (c:List Int) (E:List Pr),(∀ p∈E,p.1<n/\p.2<n)->lN c E V*(kU V n:Rat)=((cB c E s:Int):Rat):=by
  intro c;induction c with
  | nil=>intro E _;cases E<;>simp [lN,cB,Rat.zero_mul]
  | cons a c ih =>
   intro E hE;cases E with
   | nil=>simp [lN,cB,Rat.zero_mul]
   | cons p E =>
    have h1:=hE p (by simp);have h2:=ih E (fun q hq=>hE q (by simp [hq]));have e1:=hs p.1 h1.1;have e2:=hs p.2 h1.2;show ((a:Rat)*(V p.1-V p.2)+lN c E V)*(kU V n:Rat)=((a*(s p.1-s p.2)+cB c E s:Int):Rat)
    rw [Rat.intCast_add,Rat.intCast_mul,Rat.intCast_sub,<- h2,<- e1,<- e2];grind
 have h0:=key c E hE;rw [h s] at h0;have h3:lN c E V*(kU V n:Rat)=0:=by rw [h0];rfl
 rcases Rat.mul_eq_zero.1 h3 with h | h
 ·exact h
 ·exact absurd h hD2
theorem pR (f:Nat->Rat):∀ k,bm f (k+1)=f 0+bm (fun i=>f (i+1)) k
 | 0=>by rw [aQ];show (0:Rat)+f 0=f 0+0;grind
 | k+1=>by rw [aQ,pR f k,aQ];grind
theorem qI:∀ (c:List Int) (E:List Pr) (V:Nat->Rat),c.length=E.length->lN c E V=bm (fun i=>((c.getD i 0:Int):Rat)*(V (E.getD i (0,0)).1-V (E.getD i (0,0)).2)) E.length
 | [],[],V,_=>rfl
 | a :: c,p :: E,V,h=>by
  have ih:=qI c E V (by simpa using h);show (a:Rat)*(V p.1-V p.2)+lN c E V=bm _ (E.length+1)
  rw [pR,ih];rfl
theorem Bt {n:Nat} {ps:List aI} (hR:bV n ps) (V:Nat->Rat) (l:List Int) (hl:l∈cK ps.length (aG (aW ps)) (bM (aW ps) (aG (aW ps))) ps.length) :
  l.length=ps.length/\bm (fun i=>((l.getD i 0:Int):Rat)*qh ps V i) ps.length=0:=by
 have hlen:(aW ps).length=ps.length:=by simp [aW]
 unfold cK at hl;simp only [List.mem_map,List.mem_filter,List.mem_range] at hl;obtain ⟨x,⟨hx,hnt⟩,rfl⟩:=hl;have hx2:x∉aG (aW ps):=by simpa using hnt
 have hll:(dY ps.length x (aG (aW ps)) (bM (aW ps) (aG (aW ps)))).length=ps.length:=by
  unfold dY;rw [List.length_set,cJ]
 refine ⟨hll,?_⟩;have hE:∀ p∈aW ps,p.1<n/\p.2<n:=by
  intro p hp;simp only [aW,List.mem_map] at hp;obtain ⟨q,hq,rfl⟩:=hp;obtain ⟨xa,xb,xc,xd,ea,eb,_,_,ha,hb,_⟩:=hR.ends q hq;rw [ea,eb];exact ⟨by simpa using ha,by simpa using hb⟩
 have hz:=vF (dY ps.length x (aG (aW ps)) (bM (aW ps) (aG (aW ps)))) (aW ps) V n hE (fun s=>by
  have:=zd (aW ps) x (by rw [hlen];exact hx) hx2 s;rw [hlen] at this;exact this)
 rw [qI _ _ _ (by rw [hll,hlen]),hlen] at hz;have hs:bm (fun i=>(((dY ps.length x (aG (aW ps)) (bM (aW ps) (aG (aW ps)))).getD i 0:Int):Rat)*qh ps V i) ps.length=bm (fun i=>(((dY ps.length x (aG (aW ps)) (bM (aW ps) (aG (aW ps)))).getD i 0:Int):Rat)*(V ((aW ps).getD i (0,0)).1-V ((aW ps).getD i (0,0)).2)) ps.length:=by
  refine cV _ _ _ (fun i hi=>?_);rw [acr_get hi];have e:(aW ps).getD i (0,0)=(ps[i].a.toNat,ps[i].b.toNat):=by
   rw [List.getD_eq_getElem?_getD,List.getElem?_eq_getElem (by rw [hlen];exact hi)];simp [aW]
  rw [e]
 rw [hs];exact hz
theorem yk (i xa xb bA bN g off n cap pb po k pc:Nat) (s t:Rat) (K:Nat) (m:Int) (w:World) (hml:w.cell? ⟨1,0,none⟩=some (.int .i64 m))
  (ca:w.cell? ⟨bA,0,none⟩=some (.slice (some ⟨g,off,none⟩) n cap)) (cn:w.cell? ⟨bN,1,none⟩=some (.slice (some ⟨pb,po,none⟩) k pc)) (hi:i<k)
  (p1:w.cell? ⟨pb,po+i*6+1,none⟩=some (.int .i64 (xa:Int))) (p2:w.cell? ⟨pb,po+i*6+2,none⟩=some (.int .i64 (xb:Int))) (hxa:xa<n) (hxb:xb<n)
  (cp:w.cell? ⟨g,off+xa,none⟩=some (.string ⟨(bS s).toArray⟩)) (cq:w.cell? ⟨g,off+xb,none⟩=some (.string ⟨(bS t).toArray⟩)) (hK:2<=K) (hs:nJ s K) (ht:nJ t K) (hl:K<=40000000) :
  Calls Tryz.prog 11 #[.int .i64 (i:Int),.pointer (some ⟨bA,0,none⟩),.pointer (some ⟨bN,0,none⟩)] w fun e w'=>RQE w (s-t) (K+K+3) e w':=by
 have X1h:=fun wx h=>nX s K m wx hK hs hl h
 have X2h:=fun wx h=>nX t K m wx hK ht hl h
 clear hs ht;generalize (⟨(bS s).toArray⟩:ByteArray)=S at cp X1h;generalize (⟨(bS t).toArray⟩:ByteArray)=T at cq X2h;have CX:Hid (∀ wx,w.grownBy wx none->wx.cell? ⟨bA,0,none⟩=some (.slice (some ⟨g,off,none⟩) n cap)/\wx.cell? ⟨bN,1,none⟩=some (.slice (some ⟨pb,po,none⟩) k pc)/\wx.cell? ⟨pb,po+i*6+1,none⟩=some (.int .i64 (xa:Int))/\wx.cell? ⟨pb,po+i*6+2,none⟩=some (.int .i64 (xb:Int))/\wx.cell? ⟨g,off+xa,none⟩=some (.string S)/\wx.cell? ⟨g,off+xb,none⟩=some (.string T)) :=
  fun wx hg=>⟨hg.cell ca (by simp),hg.cell cn (by simp),hg.cell p1 (by simp),hg.cell p2 (by simp),hg.cell cp (by simp),hg.cell cq (by simp)⟩
 have GG:w.grownBy w none:=ae _ _;have HML:=ab hml;clear ca cn p1 p2 cp cq hml;have s0:=CX.out w GG;have i0:(0:Int)<=(i:Int):=by omega
 have i1:(i:Int)<(k:Int):=by omega
 have a0:(0:Int)<=(xa:Int):=by omega
 have a1:(xa:Int)<(n:Int):=by omega
 have b0:(0:Int)<=(xb:Int):=by omega
 have b1:(xb:Int)<(n:Int):=by omega
 go_enter Tryz.func11,Tryz.ntmps11
 go_wp2;go_region_held3 (fun w'=>w'.cell? ⟨bA,0,none⟩=some (.slice (some ⟨g,off,none⟩) n cap)/\w'.cell? ⟨bN,1,none⟩=some (.slice (some ⟨pb,po,none⟩) k pc)/\w'.cell? ⟨pb,po+i*6+1,none⟩=some (.int .i64 (xa:Int))/\w'.cell? ⟨pb,po+i*6+2,none⟩=some (.int .i64 (xb:Int))/\w'.cell? ⟨g,off+xa,none⟩=some (.string S)/\w'.cell? ⟨g,off+xb,none⟩=some (.string T)) (go_keep)
  (first
   | (go_at_call_of 13 (Value.string S);refine (X1h _ ((gx GG).cell HML.out (by simp))).mono ?_;rintro e w1 ⟨b1,rfl,g1,x1⟩;have GG:=aa (gx GG) g1;have k0:=CX.out w1 GG;have X1:=ab x1;clear x1 g1)
   | (go_at_call_of 13 (Value.string T);refine (X2h _ ((gx GG).cell HML.out (by simp))).mono ?_;rintro e w2 ⟨b2,rfl,g2,x2⟩;have X1:=ab (X1.out.keep0 (aa (gx (ae _ _)) g2));have GG:=aa (gx GG) g2;have k1:=CX.out w2 GG;have X2:=ab x2;clear x2 g2)
   | (go_at_call 12;refine (BX b1 b2 _ _ _ _ _ (X1.out.keep0 (gx (ae _ _))) (X2.out.keep0 (gx (ae _ _))) (by omega)).mono ?_;rintro e w3 ⟨b3,rfl,r1,r2,r3⟩;have R1:=ab r1;have HB3:Hid (w.heap.size<=b3):=Nat.le_trans (gx GG).size r3;have GG:=aa (gx GG) r2;have k2:=CX.out w3 GG;clear r1 r2 r3))
 all_goals go_wp2
 all_goals go_ret
 all_goals exact ⟨b3,rfl,R1.out,GG,HB3.out⟩
def SofR (w:World) (b n:Nat) (P:Nat->Rat) (K:Nat) (v:Value) (wr:World):Prop:=∃ i:Nat,i<=n/\v=.int .i64 i/\RV wr b (bm P i) (2+i*(K+3))/\w.grownBy wr none
theorem rV (w:World) (L:Nat):RV (w.alloc (.cells #[.bool false,.slice none 0 0,.bool false,.slice none 0 0] 53)) w.heap.size 0 L :=
 .inr ⟨rfl,(NewR.nil (b:=w.heap.size) (heap_alloc_new w _) L).1⟩
theorem Cp (ao:Option Addr) (n cap:Nat) (P:Nat->Rat) (K:Nat) (m:Int) (w:World) (hml:w.cell? ⟨1,0,none⟩=some (.int .i64 m))
  (ht:∀ j,j<n->∃ g off,ao=some ⟨g,off,none⟩/\w.cell? ⟨g,off+j,none⟩=some (.string ⟨(bS (P j)).toArray⟩)) (hn:n<=16) (hf:∀ j,j<n->nJ (P j) K) (hK:2<=K) (hl:K<=40000000) :
  Calls Tryz.prog 8 #[.slice ao n cap] w fun e w'=>∃ b,e=.returned (.pointer (some ⟨b,0,none⟩))/\RV w' b (bm P n) (2+n*(K+3))/\w.grownBy w' none/\w.heap.size<=b:=by
 have HT:=ab ht;have HF:=ab hf;have HML:=ab hml;clear ht hf hml;obtain ⟨W,hW⟩:∃ W,W=w.alloc (.cells #[.bool false,.slice none 0 0,.bool false,.slice none 0 0] 53):=⟨_,rfl⟩;obtain ⟨b,hb⟩:∃ b,b=w.heap.size:=⟨_,rfl⟩;have R0:Hid (RV W b 0 2):=by rw [hW,hb];exact rV w 2
 have G0:Hid (w.grownBy W none):=by rw [hW];exact ag (ae _ _) _
 have HB:Hid (w.heap.size<=b):=Nat.le_of_eq hb.symm;go_enter Tryz.func8,Tryz.ntmps8
 go_upto_region 2 with fail;rw [<- hW,<- hb];clear hW hb;go_wp2;go_loopw [9] (fun v wr=>Hid (SofR w b n P K v wr)) (fun v _=>n-(intOf v).toNat)
 case atStart=>exact ⟨0,by omega,rfl,by rw [Nat.zero_mul];exact R0.out,G0.out⟩
 case round =>
  obtain ⟨i,hi,rfl,l1,l2⟩:=hrel.out;have L1:=ab l1;have L2:=ab l2;clear l1 l2 hrel;by_cases hlt:i<n
  ·obtain ⟨g,off,rfl,hc⟩:=HT.out i hlt;have c0:=L2.out.cell hc (by simp);have X1h:=fun wx h=>nX (P i) K m wx hK (HF.out i hlt) hl h
   clear hc;obtain ⟨q,hq⟩:∃ q,q=P i:=⟨_,rfl⟩;have HQ:=ab hq;rw [<- hq] at c0 X1h;clear hq;generalize (⟨(bS q).toArray⟩:ByteArray)=S at c0 X1h;go_wp2_with fail;refine (X1h _ (L2.out.cell HML.out (by simp))).mono ?_;rintro e w1 ⟨b1,rfl,g1,x1⟩;have X1:=ab x1;have G1:=ab (aa L2.out g1);have R1:=ab (L1.out.keep0 g1);have hbd:i*(K+3)<=16*(K+3):=Nat.mul_le_mul_right _ (by omega);clear x1 g1 c0;go_wp2_with fail;refine (oD b b1 (bm P i) q (2+i*(K+3)) K w1 R1.out X1.out (by omega) (by omega)).mono ?_;rintro e w2 ⟨rfl,r1,r2⟩;have RR:Hid (RV w2 b (bm P (i+1)) (2+(i+1)*(K+3))):=by
    show RV _ _ _ _
    rw [aQ,<- HQ.out,show 2+(i+1)*(K+3)=2+i*(K+3)+K+3 by rw [Nat.add_mul];omega];exact .inl r2
   have GR:=ab (kA G1.out r1 HB.out);clear r1 r2;go_wp2;go_roundw
   case rel=>exact ⟨i+1,by omega,by go_num,RR.out,GR.out⟩
   case measure=>simp [intOf];omega
  ·obtain rfl:i=n:=by omega
   go_wp2;go_ret;exact ⟨b,rfl,L1.out,L2.out,HB.out⟩
theorem vD {nodes:Int} {ps:List aI} (h:(bh false nodes ps).1=0):d6 nodes ps=(0,0):=by
 have key:∀ (ps:List aI) (k:Nat),(∀ p∈ps,dB false p nodes=0)->bW true nodes ps k=(0,0):=by
  intro ps;induction ps with
  | nil=>intro k _;rfl
  | cons p r ih =>
   intro k hp;have h1:=hp p (by simp);have h2:dB true p nodes=0:=by
    unfold dB at h1 ⊢;by_cases h8:p.kind=8
    ·rw [if_pos ⟨h8,rfl⟩] at h1;exact absurd h1 (by decide)
    ·rw [if_neg (by simp [h8])] at h1;rw [if_neg (by simp [h8])];exact h1
   rw [bW,if_pos h2];exact ih (k+1) (fun q hq=>hp q (by simp [hq]))
 rw [<- sY];unfold bh at h ⊢;by_cases hm:nodes<1∨8<nodes∨16<ps.length
 ·rw [if_pos hm] at h;exact absurd h (by decide)
 ·rw [if_neg hm] at h ⊢;exact key ps 0 (fun p hp=>qP h p hp)
theorem pJ (b:Nat) (q:Rat) (L:Nat) (w:World) (h:RV w b q L):Calls Tryz.prog 9 #[.pointer (some ⟨b,0,none⟩)] w fun e w'=>e=.returned (.int .i64 (sn q.num))/\w'=w:=by
 rcases h with h | ⟨rfl,h⟩
 ·exact pC b q.num L w h.1
 ·exact pC b 0 L w h.1
theorem Cu {n:Nat} {ps qs:List aI} (hR:bV n ps) (hQ:bV n qs) (hl:qs.length=ps.length) (he:∀ i (h:i<ps.length) (h':i<qs.length),qs[i].a=ps[i].a/\qs[i].b=ps[i].b) {V I U J:Nat->Rat} (h:aJ n ps V I) (k:aJ n qs U J) :
  bm (fun i=>qh ps V i*J i) ps.length=0:=by
 refine uR hR h.gnd (fun r h0 hr=>?_);rw [<- k.node r h0 hr,hl];refine cV _ _ _ (fun i hi=>?_);have e:bR ps i r=bR qs i r:=by
  unfold bR;rw [List.getElem?_eq_getElem hi,List.getElem?_eq_getElem (by rw [hl];exact hi)];obtain ⟨e1,e2⟩:=he i hi (by rw [hl];exact hi);show lI ps[i] r=lI qs[i] r
  unfold lI;rw [e1,e2]
 rw [e]
theorem rj {w:World} {b o:Nat} {c:Array Value} {T:TypeId} {f:Nat×Nat} {v:Value} (h:w.heap[b]? = some (Obj.cells c T f)) (ho:c[o]? = some v):w.setCell ⟨b,o,none⟩ v=w:=by
 have ho1:=(Array.getElem?_eq_some_iff.1 ho).1;have ho2:=(Array.getElem?_eq_some_iff.1 ho).2;have hs:w.setCell ⟨b,o,none⟩ v = { w with heap:=(w.setCell ⟨b,o,none⟩ v).heap }:=rfl;have hh:(w.setCell ⟨b,o,none⟩ v).heap=w.heap:=by
  unfold World.setCell;apply Array.ext_getElem?
  intro i;simp only [Array.getElem?_modify];by_cases e:b=i
  ·subst e;rw [if_pos rfl,h];simp [Array.setIfInBounds,ho1,<- ho2]
  ·rw [if_neg e]
 rw [hs,hh]
theorem dI.again {w:World} {b:Nat} {x y:Int} (h:dI w b x y):(w.setCell ⟨b,0,none⟩ (.int .i64 x)).setCell ⟨b,1,none⟩ (.int .i64 y)=w:=by
 unfold dI at h;rw [rj h rfl,rj h rfl]
def kZ (w:World) (b:Nat) (u v:Value):Prop:=w.heap[b]? = some (Obj.cells #[u,v] 24 (0,0))
theorem kZ.lt {w:World} {b:Nat} {u v:Value} (h:kZ w b u v):b<w.heap.size:=(Array.getElem?_eq_some_iff.1 h).1
theorem kZ.keep {w w':World} {b:Nat} {u v:Value} {r:Option Nat} (h:kZ w b u v) (g:w.grownBy w' r) (hr:some b≠r):kZ w' b u v:=by
 have hl:=h.lt;unfold kZ at h ⊢;rw [g.block b hl hr];exact h
theorem kZ.cells {w:World} {b:Nat} {u v:Value} (h:kZ w b u v):w.cell? ⟨b,0,none⟩=some u/\w.cell? ⟨b,1,none⟩=some v/\w.frozen? ⟨b,0,none⟩=false/\w.frozen? ⟨b,1,none⟩=false:=by
 unfold kZ at h;refine ⟨?_,?_,?_,?_⟩<;>simp [World.cell?,World.frozen?,h]
theorem kZ.set1 {w:World} {b:Nat} {u v:Value} (h:kZ w b u v) (x:Value):kZ (w.setCell ⟨b,1,none⟩ x) b u x:=by
 unfold kZ at h ⊢;rw [heap_setCell_same w b 1 _ _ x h];simp
theorem fg.ne {w:World} {base b:Nat} {v:Value} {ps:List aI} (h:fg w base v ps) (hb:b<base):v.ownBlock=none∨v.ownBlock≠some b:=by
 cases hv:v.ownBlock with
 | none=>exact .inl rfl
 | some k =>
  right
  intro e;have:=(World.ownsRow.lt h k hv).1;have:=Option.some.inj e;omega
theorem nP {P:Program} (W:World) {ops:Array Oper} {rest:List Oper} {o:Oper} {a:Act} {Q:Exit->Act->World->Prop}
  (hg:o.guard=none) (s x:Operand) (t:TypeId) (ho:o.op=.call { callee:=.builtin .append,args:=#[s,x],argTypes:=#[t,t] }) (base:Nat)
  (h1:P.underlying t=some (.slice 47)) (hinfo:(P.info? 47).map (fun i=>(i.zero,i.size,i.bytes))=some (some (.agg #[.int .i64 0,.int .i64 0,.int .i64 0,.int .i64 0,.int .i64 0,.string ⟨#[]⟩]),6,56))
  (v:Value) (qs:List aI) (hs:a.eval s=v) (hown:fg W base v qs) (b:Nat) (p:aI) (hx:a.eval x=.slice (some ⟨b,0,none⟩) 1 1) (hc:∀ j u,(bB p)[j]? = some u->W.cell? ((⟨b,0,none⟩:Addr).add j)=some u)
  (hlen:qs.length<=100000) (hbase:base<=W.heap.size)
  (hK:∀ ao cap w',fg w' base (.slice ao (qs.length+1) cap) (qs++[p])->W.grownBy w' v.ownBlock->wpList P ops Q rest (a.put o.dst (.slice ao (qs.length+1) cap)) w'):wpList P ops Q (o :: rest) a W:=by
 obtain ⟨i0,hi0,hz0,hz1,hz2⟩:=info_parts hinfo;refine wpList_append_own W hg s x t ho base _ i0 _ 6 56 h1 hi0 hz0 hz1 hz2 rfl (by decide) v qs.length (bg qs) hs hown ⟨b,0,none⟩ 1 1 (bB p) hx rfl hc ?_ (by unfold maxLen;omega) (by omega) hbase ?_
 ·intro u hu;exact jN [p] u (by simpa [bg] using hu)
 ·intro v' w' hown' hgr _;have h2:fg w' base v' (qs++[p]):=by
   show World.ownsRow _ _ _ _ _ _ _
   have e2:bg (qs++[p])=bg qs++bB p:=by
    rw [jM];simp [bg]
   rw [List.length_append,e2];exact hown'
  obtain ⟨ao,cap,ev,_⟩:=h2.shape;rw [List.length_append,List.length_singleton] at ev;subst ev;exact hK ao cap w' h2 hgr
theorem yj {n:Nat} {ps:List aI} (hR:bV n ps) {V:Nat->Rat} {K:Nat} (hK:2<=K) (hl:K<=40000000) (hq:∀ j,j<n->nJ (V j) K) (ga gn cc1 pc i:Nat) (ao1 po:Option Addr) (m:Int) (w:World) (hml:w.cell? ⟨1,0,none⟩=some (.int .i64 m))
  (ca:w.cell? ⟨ga,0,none⟩=some (.slice ao1 n cc1)) (cn:w.cell? ⟨gn,1,none⟩=some (.slice po ps.length pc)) (hp:aM w (.slice po ps.length pc) ps) (ho:dM sv w (.slice ao1 n cc1) (bI V n)) (hi:i<ps.length) :
  Calls Tryz.prog 11 #[.int .i64 (i:Int),.pointer (some ⟨ga,0,none⟩),.pointer (some ⟨gn,0,none⟩)] w fun e w'=>RQE w (qh ps V i) (K+K+3) e w':=by
 obtain ⟨ao_,cap_,ep,hp1,hp2,hp3⟩:=hp;simp only [Value.slice.injEq,true_and] at ep;obtain ⟨rfl,rfl⟩:=ep;obtain ⟨pb,off,rfl,hb,c0,c1,c2,c3⟩:=hp3 i hi;obtain ⟨a,b,_,_,ea,eb,_,_,ha,hb2,_⟩:=hR.ends ps[i] (List.getElem_mem hi);obtain ⟨ao_,cap_,ep,ho1,ho2,ho3⟩:=ho;simp only [Value.slice.injEq] at ep;obtain ⟨rfl,_,rfl⟩:=ep;obtain ⟨g,of2,rfl,hg,t1⟩:=ho3 a (by rw [aP];exact ha);obtain ⟨g',of2',e2,hg',t2⟩:=ho3 b (by rw [aP];exact hb2);simp only [Option.some.injEq,Addr.mk.injEq,and_true] at e2;obtain ⟨rfl,rfl⟩:=e2;have e:qh ps V i=V a-V b:=by
  unfold qh;rw [List.getElem?_eq_getElem hi];show V ps[i].a.toNat-V ps[i].b.toNat=_
  rw [ea,eb];rfl
 rw [e];rw [ea] at c1;rw [eb] at c2;refine yk i a b ga gn g of2 n _ pb off ps.length _ (V a) (V b) K m w hml ca cn hi c1 c2 ha hb2 ?_ ?_ hK (hq a ha) (hq b hb2) hl
 ·rw [t1];simp [bI,sv]
 ·rw [t2];simp [bI,sv]
theorem xH {l:List Int} {i:Nat} {v x:Int} (h:x∈l.set i v):x∈l∨x=v:=List.mem_or_eq_of_mem_set h
theorem tK (m part:Nat) (T:List Nat) (css:List (List Int)) (hc:∀ i (h:i<css.length),∀ x∈css[i],-1<=x/\x<=1):∀ i,∀ x∈cS m part T css i,-1<=x/\x<=1:=by
 intro i;induction i with
 | zero =>
  intro x hx;have:=List.eq_of_mem_replicate hx;omega
 | succ i ih =>
  intro x hx;rcases xH hx with h | h
  ·exact ih x h
  ·have hy:∀ l:List Int,(∀ x∈l,-1<=x/\x<=1)->-1<=l.getD part 0/\l.getD part 0<=1:=by
    intro l hl;rw [List.getD_eq_getElem?_getD];by_cases e:part<l.length
    ·rw [List.getElem?_eq_getElem e];exact hl _ (List.getElem_mem e)
    ·rw [List.getElem?_eq_none (by omega)];exact ⟨by decide,by decide⟩
   have h2:-1<=(css.getD i []).getD part 0/\(css.getD i []).getD part 0<=1:=by
    apply hy;rw [List.getD_eq_getElem?_getD];by_cases e:i<css.length
    ·rw [List.getElem?_eq_getElem e];exact hc i e
    ·rw [List.getElem?_eq_none (by omega)];intro x hx;cases hx
   omega
theorem loop_bd (E:List Pr) (m:Nat) (T:List Nat) (k:Nat) (l:List Int) (hl:l∈cK m T (bM E T) k):∀ x∈l,-1<=x/\x<=1:=by
 unfold cK at hl;obtain ⟨i,_,rfl⟩:=List.mem_map.1 hl;intro x hx;rcases xH hx with h | h
 ·exact tK _ _ _ _ (fun i h=>(mA E T i h).2) _ x h
 ·omega
end Go.Proofs.YtfjnoikjhdpghaaGreatDoor
