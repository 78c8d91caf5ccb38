/- Contracts that the proof leans on. -/
import Derived.Test.YtcoeancbjafooaaGreatDoorXRTs
import Derived.Test.YtcoeancbjafooaaGreatDoorXNetZ
import Derived.Test.YtcoeancbjafooaaGreatDoorXCDb
import Derived.Test.YtcoeancbjafooaaGreatDoorXRQuiet
import Derived.Deep.RegionHeld3
namespace Go.Proofs.YtcoeancbjafooaaGreatDoor
open Go.RowKit
set_option linter.unusedVariables false
set_option linter.unusedSimpArgs false
set_option maxHeartbeats 8000000
set_option maxRecDepth 10000
theorem DG:∀ (ps qs:List aO),qs.length=ps.length->(∀ i (h:i<ps.length) (h':i<qs.length),qs[i].v.size<=ps[i].v.size+1)->aY qs<=aY ps+ps.length:=by
 intro ps;induction ps with
 | nil=>intro qs hl _;rw [List.eq_nil_of_length_eq_zero hl];exact Nat.le_refl _
 | cons p r ih =>
  intro qs hl h;cases qs with
  | nil=>simp at hl
  | cons q s =>
   have h0:q.v.size<=p.v.size+1:=h 0 (by simp) (by simp);have h1:=ih s (by simpa using hl) (fun i hi hi'=>by
    have:=h (i+1) (by simp;omega) (by simp;omega);simpa using this)
   have e1:aY (q :: s)=q.v.size+aY s:=by simp [aY]
   have e2:aY (p :: r)=p.v.size+aY r:=by simp [aY]
   rw [e1,e2,List.length_cons];omega
theorem vI (p:aO):(ax p).v.size<=p.v.size+1:=by
 unfold ax;split
 ·show (1:Nat)<=_
  omega
 ·omega
theorem yd (ps:List aO) (i:Nat):aY (eM ps i)<=aY ps+ps.length:=by
 refine DG ps _ (bV ps i).len (fun j h h'=>?_);simp only [eM,List.getElem_mapIdx];split
 ·omega
 ·exact vI _
theorem kt (ps:List aO) (h:aY ps<=1100000):∀ n,bT n ps->eW (cP n ps) (n+ps.length)<2300000:=by
 intro n hn;have h1:=kK n ps;have h2:=hn.hi;have h3:=hn.len;omega
theorem sL (ps:List aO) (i:Nat) (h:aY ps<=1100000) (hl:ps.length<=16):∀ n,bT n (eM ps i)->eW (cP n (eM ps i)) (n+(eM ps i).length)<2300000:=by
 intro n hn;have h1:=kK n (eM ps i);have h2:=hn.hi;have h3:=hn.len;have h4:=yd ps i;omega
theorem vX (ps:List aO) (i:Nat) (hi:i<ps.length) (hq:i<(ps.map ax).length):(ps.map ax).set i { (ps.map ax)[i] with v:=ps[i].v } = eM ps i:=by
 apply List.ext_getElem
 ·simp [eM]
 ·intro j h1 h2;rw [List.getElem_set];simp only [eM,List.getElem_mapIdx];by_cases e:i=j
  ·subst e;rw [if_pos rfl,if_pos rfl,List.getElem_map];obtain ⟨e1,e2,e3,e4,e5⟩:=dj ps[i];cases hp:ps[i] with
   | mk k a b c d v =>
    rw [hp] at e1 e2 e3 e4 e5;rw [e1,e2,e3,e4,e5]
  ·rw [if_neg e,if_neg (fun h=>e h.symm),List.getElem_map]
theorem qG (ps:List aO) (i:Nat) (h:∀ i (h:i<ps.length),ps[i].v.size<=100000000):∀ p∈eM ps i,p.v.size<=600000000:=by
 intro p hp;obtain ⟨j,hj,rfl⟩:=List.mem_iff_getElem.1 hp;have hl:j<ps.length:=by rw [<- (bV ps i).len];exact hj
 have:=h j hl;simp only [eM,List.getElem_mapIdx];split
 ·omega
 ·have:=vI ps[j];omega
theorem q9.start {w:World} {base g n:Nat} (h:fY pv 37 w g (List.replicate n none)) (hg:base<=g):q9 w base g n 0 (fun _=>0):=by
 refine ⟨?_,hg,fun k hk=>by omega,fun k j hk=>by omega⟩;have e:((List.range n).map fun k=>if k<0 then some 0 else (none:Option Nat))=List.replicate n none:=by
  apply List.ext_getElem
  ·simp
  ·intro i h1 h2;simp
 rw [e];exact h
theorem tR {S V:Nat->Rat} {n:Nat} (h:∀ j,j<n->S j=V j):bB S n=bB V n:=by
 unfold bB;apply List.map_congr_left;intro j hj;rw [h j (List.mem_range.1 hj)]
theorem tO {α:Type} (a b:Nat->α) {t k:Nat} (h:t≠k):(if t<k+1 then a t else b t)=(if t<k then a t else b t):=by
 by_cases e:t<k
 ·rw [if_pos (by omega),if_pos e]
 ·rw [if_neg (by omega),if_neg e]
def KK (i:Nat):Nat:=10+i*2300010
def SumF (W:World) (g n:Nat) (v:Value) (wr:World):Prop:=∃ (i:Nat) (B:Nat->Nat),i<=n/\v=.int .i64 i/\q9 wr W.heap.size g n i B/\(∀ k,k<i->B k<wr.heap.size)/\W.grownBy wr none
def SumP (W:World) (g n:Nat) (B:Nat->Nat) (ps:List aO) (v:Value) (wr:World):Prop:=∃ (i:Nat) (S J:Nat->Rat),i<=ps.length/\v=.int .i64 i/\rG wr W.heap.size g n B S (fun _=>KK i)/\aH n (gQ ps i) S J/\W.grownBy wr none
def SumK (W Wb:World) (g n:Nat) (B:Nat->Nat) (S V:Nat->Rat) (i:Nat) (v:Value) (wr:World):Prop:=∃ k:Nat,k<=n/\v=.int .i64 k/\rG wr W.heap.size g n B (fun j=>if j<k then S j+V j else S j) (fun j=>if j<k then KK (i+1) else KK i)/\cr Wb wr n B/\W.grownBy wr none
theorem DA (nodes:Int) (po:Option Addr) (pc:Nat) (ps:List aO) (w:World) (hb:ji w) (ht:dQ w) (hp:aT w (.slice po ps.length pc) ps) (hsz:aY ps<=1100000) (hsv:∀ i (h:i<ps.length),ps[i].v.size<=100000000) :
  Calls Tryz.prog 4 #[.agg #[.int .i64 nodes,.slice po ps.length pc]] w fun e w'=>e=.returned (.bool true)/\w.grownBy w' none:=by
 have HB:=ab hb;have HT:=ab ht;have HP:=ab hp;have HSV:=ab hsv;have HSZ:=ab hsz;clear hb ht hp hsv hsz;obtain ⟨W,hW⟩:∃ W,W=w.alloc (Obj.cells #[.int .i64 nodes,.slice po ps.length pc] 24):=⟨_,rfl⟩;obtain ⟨gn,hgn⟩:∃ gn,gn=w.heap.size:=⟨_,rfl⟩;have GW:Hid (w.grownBy W none):=by rw [hW];exact ag (ae _ _) _
 have NC:Hid (∀ wx,W.grownBy wx none->wx.cell? ⟨gn,0,none⟩=some (.int .i64 nodes)/\wx.cell? ⟨gn,1,none⟩=some (.slice po ps.length pc)):=by
  intro wx hg;rw [hW] at hg;rw [hgn];exact ⟨hg.cell (by go_simp) (by simp),hg.cell (by go_simp) (by simp)⟩
 go_enter Tryz.func4,Tryz.ntmps4
 go_wp2_with fail;rw [<- hW,<- hgn];clear hW hgn;refine (lU W (HB.out.keep GW.out) (HT.out.keep0 GW.out)).mono ?_;rintro e w1 ⟨rfl,g1⟩;obtain ⟨c0,c1⟩:=NC.out w1 g1;have G1:=ab g1;clear g1;go_wp2_with fail;refine (fD nodes po pc ps 2300000 w1 (HB.out.keep (aa GW.out G1.out)) (HT.out.keep0 (aa GW.out G1.out)) (HP.out.keep (aa GW.out G1.out)) (kt ps HSZ.out) (by decide) (by decide)).mono ?_;rintro e sx ⟨fx,ffx,nx,mx,Vx,Ix,vvx,ivx,rfl,r1,r2,r3,r4,r5,r6⟩;obtain ⟨aox,acx,rfl⟩:=r1.shape;obtain ⟨box,bcx,rfl⟩:=r2.shape;rw [aJ] at r1 r2 ⊢;rw [aJ];have R1x:=ab r1;have R3x:=ab r3;have R5x:=ab r5;have GSx:=ab (aa G1.out r4);clear r1 r2 r3 r4 r5 r6 c0 c1;go_upto_region 4 with fail;obtain ⟨bkx,hhx⟩:∃ bkx,bkx=sx.heap.size:=⟨_,rfl⟩;obtain ⟨bfx,hjx⟩:∃ bfx,bfx=sx.heap.size+1:=⟨_,rfl⟩;obtain ⟨wa,hwi⟩:∃ wa,wa=(sx.alloc (Obj.cells #[.slice aox nx acx,.slice box mx bcx] 29)).alloc (Obj.cells #[.int .i64 fx,.int .i64 ffx] 32):=⟨_,rfl⟩;have GKx:Hid (sx.grownBy wa none):=by rw [hwi];exact ag (ag (ae _ _) _) _
 have Cx:Hid (wa.cell? ⟨bkx,0,none⟩=some (.slice aox nx acx)/\wa.cell? ⟨bkx,1,none⟩=some (.slice box mx bcx)/\wa.cell? ⟨bfx,0,none⟩=some (.int .i64 fx)/\wa.cell? ⟨bfx,1,none⟩=some (.int .i64 ffx)):=by
  rw [hwi,hhx,hjx];exact ⟨by go_simp,by go_simp,by go_simp,by go_simp⟩
 have HBKx:Hid (sx.heap.size<=bkx):=by rw [hhx];exact Nat.le_refl _
 rw [<- hwi];try rw [<- hjx]
 try rw [<- hhx]
 clear hwi hhx hjx;have GAx:=ab (aa GSx.out GKx.out);have GWa:=ab (aa GW.out GAx.out);obtain ⟨x0,x1,x2,x3⟩:=Cx.out;by_cases hx:fx≠0
 ·have hxd:(fx != 0)=true:=by simp [hx]
  go_wp2;go_ret;exact ⟨rfl,GWa.out⟩
 replace hx:fx=0:=Classical.not_not.1 hx;subst hx;obtain ⟨hck,hc2,hn1,hn2,hsol,huniq⟩:=R3x.out.one;subst hc2;obtain ⟨hRN,hnn,hle,hfine⟩:=gU hck;obtain ⟨n,hn⟩:∃ n,n=nodes.toNat:=⟨_,rfl⟩;rw [<- hn] at hRN hnn hn1 hsol huniq;subst hnn;subst hn1;have HCK:=ab hck;have HRN:=ab hRN;have HKIND:Hid (∀ p∈ps,1<=p.kind/\p.kind<=7):=fun p hp=>⟨(hfine p hp).k1,(hfine p hp).k7⟩
 have HUN:=ab huniq;have HFX:Hid (jL nx ps):=pW hsol huniq;have hn8:nx<=8:=hRN.hi;clear hRN hfine hn hck hn2 hsol huniq R3x;obtain ⟨c0,c1⟩:=NC.out wa GAx.out;go_wp2_with (at_make;refine iP pv 37 none 8 _ rfl _ _ 56 rfl Tryz.underlying56 Tryz.infoPR rfl _ _ _ _ nx rfl rfl (by omega) (by omega) (by omega) (by omega) ?_)
 intro wm harr gm;obtain ⟨g,hg⟩:∃ g,g=wa.heap.size:=⟨_,rfl⟩;rw [<- hg] at harr ⊢;have HGL:Hid (wa.heap.size<=g):=by rw [hg];exact Nat.le_refl _
 have HAR:=ab harr;have GM:=ab gm;clear harr gm hg x0 x1 x2 x3 c0 c1;go_wp2;go_loopw [28] (fun v wr=>Hid (SumF wa g nx v wr)) (fun v _=>nx-(intOf v).toNat)
 case atStart=>exact ⟨0,fun _=>0,by omega,rfl,q9.start HAR.out HGL.out,fun k hk=>by omega,GM.out⟩
 case round =>
  obtain ⟨i,B,hi,rfl,l1,l2,l3⟩:=hrel.out;have L1:=ab l1;have L2:=ab l2;have L3:=ab l3;clear l1 l2 l3 hrel HAR GM;by_cases hlt:i<nx
  ·have ga:=ag (ae wr none) (Obj.cells #[.bool false,.slice none 0 0,.bool false,.slice none 0 0] 53);have t0:wr.cell? ⟨g,i,none⟩=some (.pointer none):=by
    have:=L1.out.arr.cell i (by simpa using hlt);simpa [pv] using this
   have t1:=ga.cell t0 (by simp);have t2:(wr.alloc (Obj.cells #[.bool false,.slice none 0 0,.bool false,.slice none 0 0] 53)).frozen? ⟨g,i,none⟩=false:=(L1.out.arr.keep0 ga).free i;clear ga;go_wp2;go_roundw
   case rel =>
    refine ⟨i+1,_,by omega,by go_num,q9.step L1.out hlt L3.out.size L1.out.arr.lt L2.out rfl,fun k hk=>?_,ah (ag L3.out _) _ _ HGL.out⟩;by_cases e:k=i
    ·rw [if_pos e];simp
    ·rw [if_neg e];have:=L2.out k (by omega);simp;omega
   case measure=>simp [intOf];omega
  ·obtain rfl:i=nx:=by omega
   obtain ⟨c0,c1⟩:=NC.out wr (aa GAx.out L3.out);have V0:Hid (rG wr wa.heap.size g i B (fun _=>0) (fun _=>KK 0)):=L1.out.at _;obtain ⟨wv,hwv⟩:∃ wv,wv=wr:=⟨_,rfl⟩;subst hwv;clear L1 L2;go_wp2;clear c0 c1;go_loopw [39] (fun v wr=>Hid (SumP wa g i B ps v wr)) (fun v _=>ps.length-(intOf v).toNat)
   case atStart=>exact ⟨0,fun _=>0,fun _=>0,by omega,rfl,V0.out,An _ _ HKIND.out,L3.out⟩
   case round =>
    obtain ⟨j,S,J,hj,rfl,l1,l2,l3⟩:=hrel.out;have M1:=ab l1;have M2:=ab l2;have M3:=ab l3;clear l1 l2 l3 hrel V0;obtain ⟨wp,hwp⟩:∃ wp,wp=wr:=⟨_,rfl⟩;subst hwp;by_cases hjl:j<ps.length
    ·obtain ⟨po',pc',e0,_,_,hps⟩:=HP.out;obtain ⟨b0,off,e1,hb,c0,c1,c2,c3,c4,c5,c6⟩:=hps j hjl;have e2:po=po':=by injection e0
     have e4:pc=pc':=by injection e0
     subst e2 e4;subst e1;have hgg:=(aa GWa.out M3.out);obtain ⟨q,hq⟩:∃ q,q=ps[j]:=⟨_,rfl⟩;rw [<- hq] at c0 c1 c2 c3 c4 c5 c6;have q0:=hgg.cell c0 (by simp);have q1:=hgg.cell c1 (by simp);have q2:=hgg.cell c2 (by simp);have q3:=hgg.cell c3 (by simp);have q4:=hgg.cell c4 (by simp);have q5:=hgg.cell c5 (by simp);have HQ:=ab hq;obtain ⟨n0,n1⟩:=NC.out wp (aa GAx.out M3.out);clear c0 c1 c2 c3 c4 c5 c6 hq hps e0 hgg;go_upto_region 15 with fail;obtain ⟨gq,hgq⟩:∃ gq,gq=wp.heap.size:=⟨_,rfl⟩;obtain ⟨w2,hw2⟩:∃ w2,w2=wp.alloc (Obj.cells #[.int .i64 q.kind,.int .i64 q.a,.int .i64 q.b,.int .i64 q.c,.int .i64 q.d,.string q.v] 47):=⟨_,rfl⟩;have G2:Hid (wp.grownBy w2 none):=by rw [hw2];exact ag (ae _ _) _
     have PQ:Hid (∀ wx,w2.grownBy wx none->wx.cell? ⟨gq,0,none⟩=some (.int .i64 q.kind)/\wx.cell? ⟨gq,5,none⟩=some (.string q.v)):=by
      intro wx hg;rw [hw2] at hg;rw [hgq];exact ⟨hg.cell (by go_simp) (by simp),hg.cell (by go_simp) (by simp)⟩
     rw [<- hw2,<- hgq];clear hw2 hgq q0 q1 q2 q3 q4 q5 n0 n1;obtain ⟨q0,q5⟩:=PQ.out w2 (ae _ _);obtain ⟨n0,n1⟩:=NC.out w2 (aa GAx.out (aa M3.out G2.out));by_cases hk:¬ (q.kind=4∨q.kind=5)
     ·have b4:(q.kind==4)=false:=beq_eq_false_iff_ne.2 (fun e=>hk (.inl e));have b5:(q.kind==5)=false:=beq_eq_false_iff_ne.2 (fun e=>hk (.inr e));have d4:(q.kind != 4)=true:=by rw [bne,b4];rfl
      have d5:(q.kind != 5)=true:=by rw [bne,b5];rfl
      have HKI:=ab hk;clear hk;go_wp2;go_roundw
      case rel=>exact ⟨j+1,S,J,by omega,by go_num,(M1.out.keep0 G2.out).congr (fun _ _=>rfl) (fun _ _=>by unfold KK;omega),by rw [Am ps j hjl (by rw [<- HQ.out];exact HKI.out)];exact M2.out,aa M3.out G2.out⟩
      case measure=>simp [intOf];omega
     replace hk:=Classical.not_not.1 hk;have TO:Hid (∀ (P':Prop),(q.kind=4->P')->(q.kind=5->P')->P'):=fun P' h4 h5=>hk.elim h4 h5
     have HKI:=ab hk;clear hk;refine TO.out _ (fun hk4=>?_) (fun hk5=>?_)
     ·rw [hk4] at q0;clear hk4;go_upto_region 16 with fail
      all_goals (try (exfalso;omega))
      go_wp2_with fail;refine (lh i _ _ ps w2 (HP.out.keep (aa GWa.out (aa M3.out G2.out))) (by omega)).mono ?_;rintro e w3 ⟨v,rfl,o3,g3⟩;obtain ⟨vo,vc,rfl,hvc⟩:=o3.shape;have hlq:(ps.map ax).length=ps.length:=List.length_map _;rw [hlq] at o3 ⊢;obtain ⟨gm,rfl,hgb,hgl⟩:∃ gm,vo=some ⟨gm,0,none⟩/\w2.heap.size<=gm/\gm<w3.heap.size:=by
       rcases o3.2 with ⟨e,h0⟩ | ⟨g',cap',cur,e,hb,hh,_⟩
       ·omega
       ·simp only [Value.slice.injEq] at e;exact ⟨g',e.1,hb,(Array.getElem?_eq_some_iff.1 hh).1⟩
      have O3:=ab o3;have G3:=ab g3;have HGB:=ab hgb;have HGM:=ab hgl;unfold maxLen at hvc;clear o3 g3 hgb hgl n0 n1 q0 q5;go_upto_region 17 with fail;obtain ⟨bn,hbn⟩:∃ bn,bn=w3.heap.size:=⟨_,rfl⟩;obtain ⟨w4,hw4⟩:∃ w4,w4=w3.alloc (Obj.cells #[.int .i64 (i:Int),.slice (some ⟨gm,0,none⟩) ps.length vc] 24):=⟨_,rfl⟩;have G4:Hid (w3.grownBy w4 none):=by rw [hw4];exact ag (ae _ _) _
      have nb:w4.cell? ⟨bn,0,none⟩=some (.int .i64 (i:Int))/\w4.cell? ⟨bn,1,none⟩=some (.slice (some ⟨gm,0,none⟩) ps.length vc):=by
       rw [hw4,hbn];exact ⟨by go_simp,by go_simp⟩
      have HBN:Hid (bn=w3.heap.size):=hbn;rw [<- hw4];try rw [<- hbn]
      clear hw4 hbn;obtain ⟨nb0,nb1⟩:=nb;have O4:=ab (O3.out.keep0 G4.out);obtain ⟨q0,q5⟩:=PQ.out w4 (aa G3.out G4.out);have hqi:(ps.map ax)[j]'(by rw [hlq];exact hjl)=ax q:=by rw [List.getElem_map,HQ.out]
      have hcel:w4.cell? ⟨gm,j*6+5,none⟩=some (.string (ax q).v):=by
       have hcel:=World.ownsRow.cells O4.out (g:=gm) rfl (j*6+5) (.string (ax q).v) (by rw [dF _ j 5 (by rw [hlq];exact hjl) (by omega),hqi];rfl);rw [show (⟨gm,0,none⟩:Addr).add (j*6+5)=⟨gm,j*6+5,none⟩ from by unfold Addr.add;split<;>simp_all] at hcel;exact hcel
      have hfro:w4.frozen? ⟨gm,j*6+5,none⟩=false:=by
       rcases O4.out.2 with ⟨e,_⟩ | ⟨g',cap',cur,e,hb,hh,_⟩
       ·simp at e
       ·simp only [Value.slice.injEq,Option.some.injEq,Addr.mk.injEq,and_true] at e;obtain ⟨rfl,_⟩:=e;simp [World.frozen?,hh]
      generalize (ax q).v=qz at hcel;have HLQ:=ab hlq;clear hlq hqi;go_upto_region 18 with fail;obtain ⟨w5,hw5⟩:∃ w5,w5=w4.setCell ⟨gm,j*6+5,none⟩ (.string q.v):=⟨_,rfl⟩;have G5:Hid (w4.grownBy w5 (some gm)):=by rw [hw5];exact bD _ _ _ _
      have O5:Hid (cD w5 w2.heap.size (.slice (some ⟨gm,0,none⟩) ps.length vc) (eM ps j)):=by
       show World.ownsRow _ _ _ _ _ _ _
       have h1:=O4.out;unfold cD at h1;rw [HLQ.out] at h1;have h2:=tE h1 (j*6+5) (by omega) (.string q.v);rw [kh _ j (by rw [HLQ.out];exact hjl) q.v] at h2;have e1:=vX ps j hjl (by rw [HLQ.out];exact hjl);rw [<- HQ.out] at e1;rw [e1] at h2;rw [(bV ps j).len,hw5];exact h2
      have G25:Hid (w2.grownBy w5 none):=by
       rw [hw5];exact ah (aa G3.out G4.out) _ _ HGB.out
      rw [<- hw5];clear hw5 hcel hfro q0 q5;have mb0:=G5.out.cell nb0 (fun e=>by have:=Option.some.inj e;have:=HBN.out;have:=HGM.out;simp at *;omega);have mb1:=G5.out.cell nb1 (fun e=>by have:=Option.some.inj e;have:=HBN.out;have:=HGM.out;simp at *;omega);clear nb0 nb1;have GA5:=ab (aa GAx.out (aa M3.out (aa G2.out G25.out)));have GW5:=ab (aa GW.out GA5.out);have PP5:=ab (O5.out.parts (qG ps j HSV.out));have SV:=fD (i:Int) (some ⟨gm,0,none⟩) vc (eM ps j) 2300000 w5 (HB.out.keep GW5.out) (HT.out.keep0 GW5.out) (by rw [(bV ps j).len];exact PP5.out) (sL ps j HSZ.out hle) (by decide) (by decide);rw [(bV ps j).len] at SV;have SVH:=ab SV;clear SV;go_wp2_with fail;refine SVH.out.mono ?_;rintro e sy ⟨fy,ffy,ny,my,Vy,Iy,vvy,ivy,rfl,r1,r2,r3,r4,r5,r6⟩;obtain ⟨aoy,acy,rfl⟩:=r1.shape;obtain ⟨boy,bcy,rfl⟩:=r2.shape;rw [aJ] at r1 r2 ⊢;rw [aJ];obtain ⟨z1,z2,z3,z4,hsy⟩:=r3.fixed (by rw [pK];exact HCK.out) (by rw [Int.toNat_natCast];exact (bV ps j).fixed HFX.out);rw [Int.toNat_natCast] at z3 hsy;subst z1 z2;obtain rfl:i=ny:=z3.symm;have R1y:=ab r1;have R5y:=ab r5;have HSY:=ab hsy;have GSy:=ab r4;clear r1 r2 r3 r4 r5 r6 z4 hsy mb0 mb1 SVH;go_upto_region 19 with fail;obtain ⟨bky,hhy⟩:∃ bky,bky=sy.heap.size:=⟨_,rfl⟩;obtain ⟨bfy,hjy⟩:∃ bfy,bfy=sy.heap.size+1:=⟨_,rfl⟩;obtain ⟨wb,hwi⟩:∃ wb,wb=(sy.alloc (Obj.cells #[.slice aoy i acy,.slice boy my bcy] 29)).alloc (Obj.cells #[.int .i64 0,.int .i64 0] 32):=⟨_,rfl⟩
      have GKy:Hid (sy.grownBy wb none):=by rw [hwi];exact ag (ag (ae _ _) _) _
      have Cy:Hid (wb.cell? ⟨bky,0,none⟩=some (.slice aoy i acy)/\wb.cell? ⟨bky,1,none⟩=some (.slice boy my bcy)/\wb.cell? ⟨bfy,0,none⟩=some (.int .i64 0)/\wb.cell? ⟨bfy,1,none⟩=some (.int .i64 0)):=by
       rw [hwi,hhy,hjy];exact ⟨by go_simp,by go_simp,by go_simp,by go_simp⟩
      have HBKy:Hid (sy.heap.size<=bky):=by rw [hhy];exact Nat.le_refl _
      rw [<- hwi];try rw [<- hjy]
      try rw [<- hhy]
      clear hwi hhy hjy;obtain ⟨gy,oy,rfl,ty⟩:=jg R1y.out HRN.out.lo;have hgy:w5.heap.size<=gy:=by
       have:=(R1y.out.fresh gy rfl).1;exact this
      have TY:=ab ty;have GYB:Hid (wp.grownBy wb none):=aa G2.out (aa G25.out (aa GSy.out GKy.out));have BLT:Hid (∀ k,k<i->B k<w5.heap.size):=fun k hk=>Nat.lt_of_lt_of_le (M1.out.num k hk).1.lt (aa G2.out G25.out).size
      have HBY:Hid (w5.heap.size<=bky):=Nat.le_trans GSy.out.size HBKy.out;have HGY:=ab hgy;obtain ⟨y0,y1,y2,y3⟩:=Cy.out;have Y0:=ab y0;have GAb:=ab (aa M3.out GYB.out);obtain ⟨c0,c1⟩:=NC.out wb (aa GAx.out GAb.out);obtain ⟨ml,hml⟩:=HB.out.2.1;have ML:=ab (GWa.out.cell hml (by simp));have VB:Hid (rG wb wa.heap.size g i B S (fun _=>KK j)):=M1.out.keep0 GYB.out;clear ty hgy hml R1y;have hii:((i:Int)==(i:Int))=true:=by simp
      have hin:((i:Int) != (i:Int))=false:=by simp
      go_wp2;clear y0 y1 y2 y3 c0 c1;go_loopw [79] (fun v wr=>Hid (SumK wa wb g i B S Vy j v wr)) (fun v _=>i-(intOf v).toNat)
      case atStart=>exact ⟨0,by omega,rfl,VB.out.congr (fun k _=>by rw [if_neg (by omega)]) (fun k _=>by rw [if_neg (by omega)];exact Nat.le_refl _),cr.refl _ _ _,GAb.out⟩
      case round =>
       obtain ⟨k,hk,rfl,l1,l2,l3⟩:=hrel.out;have N1:=ab l1;have N2:=ab l2;have N3:=ab l3;clear l1 l2 l3 hrel;by_cases hlk:k<i
       ·have v0:=N1.out.cell hlk;have y0:=N2.out.cell Y0.out (fun t ht e=>by have:=BLT.out t ht;have:=HBY.out;have e':bky=B t:=e;omega);have y4:=N2.out.cell ((GKy.out).cell (TY.out k hlk) (by simp)) (fun t ht e=>by have:=BLT.out t ht;have:=HGY.out;have e':gy=B t:=e;omega);have RVK:Hid (RV wr (B k) (S k) (KK j)):=by
         have:=(N1.out.num k hlk).1;rw [if_neg (Nat.lt_irrefl k),if_neg (Nat.lt_irrefl k)] at this;exact this
        have FK:=ab (R5y.out k hlk);have OFT:=fun wx h=>o9 (Vy k) 2300000 ml wx (by decide) FK.out (by decide) h
        generalize (⟨(bg (Vy k)).toArray⟩:ByteArray)=T at y4 OFT;have OFH:=ab OFT;clear OFT;go_upto_region 24 with fail;go_region_held3 (fun w'=>w'.cell? ⟨g,k,none⟩=some (.pointer (some ⟨B k,0,none⟩))/\w'.cell? ⟨bky,0,none⟩=some (.slice (some ⟨gy,oy,none⟩) i acy)/\w'.cell? ⟨gy,oy+k,none⟩=some (.string T)) (go_keep)
         (first
          | (go_at_call 16;refine (OFH.out _ ((aa N3.out (aj _)).cell ML.out (by simp))).mono ?_;rintro e w7 ⟨b7,rfl,g7,x7⟩;have G7:wr.grownBy w7 none:=aa (aj _) g7;have k0:=G7.cell v0 (by simp);have k1:=G7.cell y0 (by simp);have k2:=G7.cell y4 (by simp);have X7:=ab x7;clear x7 g7)
          | (go_at_call 17;refine (ud (B k) b7 (S k) (Vy k) (KK j) 2300000 _ (RVK.out.keep0 (by first | exact G7 | exact aa G7 (aj _))) (by first | exact X7.out | exact X7.out.keep0 (aj _)) (by unfold KK;omega) (by unfold KK;omega)).mono ?_;rintro e w8 ⟨rfl,p8,x8⟩;have G78:wr.grownBy _ none:=(by first | exact G7 | exact aa G7 (aj _));have VN:rG w8 wa.heap.size g i B (fun t=>if t<k+1 then S t+Vy t else S t) (fun t=>if t<k+1 then KK (j+1) else KK j):=(N1.out.keep0 G78).put hlk p8 (by rw [if_pos (by omega),if_pos (by omega)];exact x8.mono (by unfold KK;omega)) (fun t ht=>⟨tO (fun t=>S t+Vy t) S ht,tO (fun _=>KK (j+1)) (fun _=>KK j) ht⟩);have KN:cr wb w8 i B:=(N2.out.gr G78).put hlk p8;have GN:wa.grownBy w8 none:=oV (aa N3.out G78) p8 (N1.out.num k hlk).2.2.1;have s0:=VN.cell hlk;have s1:=KN.cell Y0.out (fun t ht e=>by have:=BLT.out t ht;have:=HBY.out;have e':bky=B t:=e;omega);have s2:w8.cell? ⟨gy,oy+k,none⟩=some (.string T):=(cr.put ((cr.refl _ _ _).gr G78) hlk p8).cell y4 (fun t ht e=>by have:=BLT.out t ht;have:=HGY.out;have e':gy=B t:=e;omega);have VNH:=ab VN;have KNH:=ab KN;have GNH:=ab GN;clear VN KN GN x8 p8))
        all_goals go_wp2
        all_goals go_roundw
        all_goals first | exact ⟨k+1,by omega,by go_num,VNH.out,KNH.out,GNH.out⟩ | (simp [intOf];omega)
       ·obtain rfl:k=i:=by omega
        go_wp2;go_roundw
        case rel=>exact ⟨j+1,fun t=>S t+Vy t,fun t=>J t+Iy t,by omega,by go_num,N1.out.congr (fun t ht=>by rw [if_pos ht]) (fun t ht=>by rw [if_pos ht];exact Nat.le_refl _),si HKIND.out j hjl M2.out HSY.out,N3.out⟩
        case measure=>simp [intOf];omega
     ·rw [hk5] at q0;clear hk5;go_upto_region 16 with fail
      all_goals (try (exfalso;omega))
      go_wp2_with fail;refine (lh i _ _ ps w2 (HP.out.keep (aa GWa.out (aa M3.out G2.out))) (by omega)).mono ?_;rintro e w3 ⟨v,rfl,o3,g3⟩;obtain ⟨vo,vc,rfl,hvc⟩:=o3.shape;have hlq:(ps.map ax).length=ps.length:=List.length_map _;rw [hlq] at o3 ⊢;obtain ⟨gm,rfl,hgb,hgl⟩:∃ gm,vo=some ⟨gm,0,none⟩/\w2.heap.size<=gm/\gm<w3.heap.size:=by
       rcases o3.2 with ⟨e,h0⟩ | ⟨g',cap',cur,e,hb,hh,_⟩
       ·omega
       ·simp only [Value.slice.injEq] at e;exact ⟨g',e.1,hb,(Array.getElem?_eq_some_iff.1 hh).1⟩
      have O3:=ab o3;have G3:=ab g3;have HGB:=ab hgb;have HGM:=ab hgl;unfold maxLen at hvc;clear o3 g3 hgb hgl n0 n1 q0 q5;go_upto_region 17 with fail;obtain ⟨bn,hbn⟩:∃ bn,bn=w3.heap.size:=⟨_,rfl⟩;obtain ⟨w4,hw4⟩:∃ w4,w4=w3.alloc (Obj.cells #[.int .i64 (i:Int),.slice (some ⟨gm,0,none⟩) ps.length vc] 24):=⟨_,rfl⟩;have G4:Hid (w3.grownBy w4 none):=by rw [hw4];exact ag (ae _ _) _
      have nb:w4.cell? ⟨bn,0,none⟩=some (.int .i64 (i:Int))/\w4.cell? ⟨bn,1,none⟩=some (.slice (some ⟨gm,0,none⟩) ps.length vc):=by
       rw [hw4,hbn];exact ⟨by go_simp,by go_simp⟩
      have HBN:Hid (bn=w3.heap.size):=hbn;rw [<- hw4];try rw [<- hbn]
      clear hw4 hbn;obtain ⟨nb0,nb1⟩:=nb;have O4:=ab (O3.out.keep0 G4.out);obtain ⟨q0,q5⟩:=PQ.out w4 (aa G3.out G4.out);have hqi:(ps.map ax)[j]'(by rw [hlq];exact hjl)=ax q:=by rw [List.getElem_map,HQ.out]
      have hcel:w4.cell? ⟨gm,j*6+5,none⟩=some (.string (ax q).v):=by
       have hcel:=World.ownsRow.cells O4.out (g:=gm) rfl (j*6+5) (.string (ax q).v) (by rw [dF _ j 5 (by rw [hlq];exact hjl) (by omega),hqi];rfl);rw [show (⟨gm,0,none⟩:Addr).add (j*6+5)=⟨gm,j*6+5,none⟩ from by unfold Addr.add;split<;>simp_all] at hcel;exact hcel
      have hfro:w4.frozen? ⟨gm,j*6+5,none⟩=false:=by
       rcases O4.out.2 with ⟨e,_⟩ | ⟨g',cap',cur,e,hb,hh,_⟩
       ·simp at e
       ·simp only [Value.slice.injEq,Option.some.injEq,Addr.mk.injEq,and_true] at e;obtain ⟨rfl,_⟩:=e;simp [World.frozen?,hh]
      generalize (ax q).v=qz at hcel;have HLQ:=ab hlq;clear hlq hqi;go_upto_region 18 with fail;obtain ⟨w5,hw5⟩:∃ w5,w5=w4.setCell ⟨gm,j*6+5,none⟩ (.string q.v):=⟨_,rfl⟩;have G5:Hid (w4.grownBy w5 (some gm)):=by rw [hw5];exact bD _ _ _ _
      have O5:Hid (cD w5 w2.heap.size (.slice (some ⟨gm,0,none⟩) ps.length vc) (eM ps j)):=by
       show World.ownsRow _ _ _ _ _ _ _
       have h1:=O4.out;unfold cD at h1;rw [HLQ.out] at h1;have h2:=tE h1 (j*6+5) (by omega) (.string q.v);rw [kh _ j (by rw [HLQ.out];exact hjl) q.v] at h2;have e1:=vX ps j hjl (by rw [HLQ.out];exact hjl);rw [<- HQ.out] at e1;rw [e1] at h2;rw [(bV ps j).len,hw5];exact h2
      have G25:Hid (w2.grownBy w5 none):=by
       rw [hw5];exact ah (aa G3.out G4.out) _ _ HGB.out
      rw [<- hw5];clear hw5 hcel hfro q0 q5;have mb0:=G5.out.cell nb0 (fun e=>by have:=Option.some.inj e;have:=HBN.out;have:=HGM.out;simp at *;omega);have mb1:=G5.out.cell nb1 (fun e=>by have:=Option.some.inj e;have:=HBN.out;have:=HGM.out;simp at *;omega);clear nb0 nb1;have GA5:=ab (aa GAx.out (aa M3.out (aa G2.out G25.out)));have GW5:=ab (aa GW.out GA5.out);have PP5:=ab (O5.out.parts (qG ps j HSV.out));have SV:=fD (i:Int) (some ⟨gm,0,none⟩) vc (eM ps j) 2300000 w5 (HB.out.keep GW5.out) (HT.out.keep0 GW5.out) (by rw [(bV ps j).len];exact PP5.out) (sL ps j HSZ.out hle) (by decide) (by decide);rw [(bV ps j).len] at SV;have SVH:=ab SV;clear SV;go_wp2_with fail;refine SVH.out.mono ?_;rintro e sy ⟨fy,ffy,ny,my,Vy,Iy,vvy,ivy,rfl,r1,r2,r3,r4,r5,r6⟩;obtain ⟨aoy,acy,rfl⟩:=r1.shape;obtain ⟨boy,bcy,rfl⟩:=r2.shape;rw [aJ] at r1 r2 ⊢;rw [aJ];obtain ⟨z1,z2,z3,z4,hsy⟩:=r3.fixed (by rw [pK];exact HCK.out) (by rw [Int.toNat_natCast];exact (bV ps j).fixed HFX.out);rw [Int.toNat_natCast] at z3 hsy;subst z1 z2;obtain rfl:i=ny:=z3.symm;have R1y:=ab r1;have R5y:=ab r5;have HSY:=ab hsy;have GSy:=ab r4;clear r1 r2 r3 r4 r5 r6 z4 hsy mb0 mb1 SVH;go_upto_region 19 with fail;obtain ⟨bky,hhy⟩:∃ bky,bky=sy.heap.size:=⟨_,rfl⟩;obtain ⟨bfy,hjy⟩:∃ bfy,bfy=sy.heap.size+1:=⟨_,rfl⟩;obtain ⟨wb,hwi⟩:∃ wb,wb=(sy.alloc (Obj.cells #[.slice aoy i acy,.slice boy my bcy] 29)).alloc (Obj.cells #[.int .i64 0,.int .i64 0] 32):=⟨_,rfl⟩
      have GKy:Hid (sy.grownBy wb none):=by rw [hwi];exact ag (ag (ae _ _) _) _
      have Cy:Hid (wb.cell? ⟨bky,0,none⟩=some (.slice aoy i acy)/\wb.cell? ⟨bky,1,none⟩=some (.slice boy my bcy)/\wb.cell? ⟨bfy,0,none⟩=some (.int .i64 0)/\wb.cell? ⟨bfy,1,none⟩=some (.int .i64 0)):=by
       rw [hwi,hhy,hjy];exact ⟨by go_simp,by go_simp,by go_simp,by go_simp⟩
      have HBKy:Hid (sy.heap.size<=bky):=by rw [hhy];exact Nat.le_refl _
      rw [<- hwi];try rw [<- hjy]
      try rw [<- hhy]
      clear hwi hhy hjy;obtain ⟨gy,oy,rfl,ty⟩:=jg R1y.out HRN.out.lo;have hgy:w5.heap.size<=gy:=by
       have:=(R1y.out.fresh gy rfl).1;exact this
      have TY:=ab ty;have GYB:Hid (wp.grownBy wb none):=aa G2.out (aa G25.out (aa GSy.out GKy.out));have BLT:Hid (∀ k,k<i->B k<w5.heap.size):=fun k hk=>Nat.lt_of_lt_of_le (M1.out.num k hk).1.lt (aa G2.out G25.out).size
      have HBY:Hid (w5.heap.size<=bky):=Nat.le_trans GSy.out.size HBKy.out;have HGY:=ab hgy;obtain ⟨y0,y1,y2,y3⟩:=Cy.out;have Y0:=ab y0;have GAb:=ab (aa M3.out GYB.out);obtain ⟨c0,c1⟩:=NC.out wb (aa GAx.out GAb.out);obtain ⟨ml,hml⟩:=HB.out.2.1;have ML:=ab (GWa.out.cell hml (by simp));have VB:Hid (rG wb wa.heap.size g i B S (fun _=>KK j)):=M1.out.keep0 GYB.out;clear ty hgy hml R1y;have hii:((i:Int)==(i:Int))=true:=by simp
      have hin:((i:Int) != (i:Int))=false:=by simp
      go_wp2;clear y0 y1 y2 y3 c0 c1;go_loopw [79] (fun v wr=>Hid (SumK wa wb g i B S Vy j v wr)) (fun v _=>i-(intOf v).toNat)
      case atStart=>exact ⟨0,by omega,rfl,VB.out.congr (fun k _=>by rw [if_neg (by omega)]) (fun k _=>by rw [if_neg (by omega)];exact Nat.le_refl _),cr.refl _ _ _,GAb.out⟩
      case round =>
       obtain ⟨k,hk,rfl,l1,l2,l3⟩:=hrel.out;have N1:=ab l1;have N2:=ab l2;have N3:=ab l3;clear l1 l2 l3 hrel;by_cases hlk:k<i
       ·have v0:=N1.out.cell hlk;have y0:=N2.out.cell Y0.out (fun t ht e=>by have:=BLT.out t ht;have:=HBY.out;have e':bky=B t:=e;omega);have y4:=N2.out.cell ((GKy.out).cell (TY.out k hlk) (by simp)) (fun t ht e=>by have:=BLT.out t ht;have:=HGY.out;have e':gy=B t:=e;omega);have RVK:Hid (RV wr (B k) (S k) (KK j)):=by
         have:=(N1.out.num k hlk).1;rw [if_neg (Nat.lt_irrefl k),if_neg (Nat.lt_irrefl k)] at this;exact this
        have FK:=ab (R5y.out k hlk);have OFT:=fun wx h=>o9 (Vy k) 2300000 ml wx (by decide) FK.out (by decide) h
        generalize (⟨(bg (Vy k)).toArray⟩:ByteArray)=T at y4 OFT;have OFH:=ab OFT;clear OFT;go_upto_region 24 with fail;go_region_held3 (fun w'=>w'.cell? ⟨g,k,none⟩=some (.pointer (some ⟨B k,0,none⟩))/\w'.cell? ⟨bky,0,none⟩=some (.slice (some ⟨gy,oy,none⟩) i acy)/\w'.cell? ⟨gy,oy+k,none⟩=some (.string T)) (go_keep)
         (first
          | (go_at_call 16;refine (OFH.out _ ((aa N3.out (aj _)).cell ML.out (by simp))).mono ?_;rintro e w7 ⟨b7,rfl,g7,x7⟩;have G7:wr.grownBy w7 none:=aa (aj _) g7;have k0:=G7.cell v0 (by simp);have k1:=G7.cell y0 (by simp);have k2:=G7.cell y4 (by simp);have X7:=ab x7;clear x7 g7)
          | (go_at_call 17;refine (ud (B k) b7 (S k) (Vy k) (KK j) 2300000 _ (RVK.out.keep0 (by first | exact G7 | exact aa G7 (aj _))) (by first | exact X7.out | exact X7.out.keep0 (aj _)) (by unfold KK;omega) (by unfold KK;omega)).mono ?_;rintro e w8 ⟨rfl,p8,x8⟩;have G78:wr.grownBy _ none:=(by first | exact G7 | exact aa G7 (aj _));have VN:rG w8 wa.heap.size g i B (fun t=>if t<k+1 then S t+Vy t else S t) (fun t=>if t<k+1 then KK (j+1) else KK j):=(N1.out.keep0 G78).put hlk p8 (by rw [if_pos (by omega),if_pos (by omega)];exact x8.mono (by unfold KK;omega)) (fun t ht=>⟨tO (fun t=>S t+Vy t) S ht,tO (fun _=>KK (j+1)) (fun _=>KK j) ht⟩);have KN:cr wb w8 i B:=(N2.out.gr G78).put hlk p8;have GN:wa.grownBy w8 none:=oV (aa N3.out G78) p8 (N1.out.num k hlk).2.2.1;have s0:=VN.cell hlk;have s1:=KN.cell Y0.out (fun t ht e=>by have:=BLT.out t ht;have:=HBY.out;have e':bky=B t:=e;omega);have s2:w8.cell? ⟨gy,oy+k,none⟩=some (.string T):=(cr.put ((cr.refl _ _ _).gr G78) hlk p8).cell y4 (fun t ht e=>by have:=BLT.out t ht;have:=HGY.out;have e':gy=B t:=e;omega);have VNH:=ab VN;have KNH:=ab KN;have GNH:=ab GN;clear VN KN GN x8 p8))
        all_goals go_wp2
        all_goals go_roundw
        all_goals first | exact ⟨k+1,by omega,by go_num,VNH.out,KNH.out,GNH.out⟩ | (simp [intOf];omega)
       ·obtain rfl:k=i:=by omega
        go_wp2;go_roundw
        case rel=>exact ⟨j+1,fun t=>S t+Vy t,fun t=>J t+Iy t,by omega,by go_num,N1.out.congr (fun t ht=>by rw [if_pos ht]) (fun t ht=>by rw [if_pos ht];exact Nat.le_refl _),si HKIND.out j hjl M2.out HSY.out,N3.out⟩
        case measure=>simp [intOf];omega
    ·obtain rfl:j=ps.length:=by omega
     have hS:∀ t,t<i->S t=Vx t:=by
      have h:=M2.out;rw [Ch] at h;intro t ht;exact (HUN.out S J h).1 t ht
     have EQT:Hid (bB S i=bB Vx i):=tR hS;have FS:Hid (∀ t,t<i->jT (S t) 2300000):=fun t ht=>by rw [hS t ht];exact R5x.out t ht
     obtain ⟨x0,x1,x2,x3⟩:=Cx.out;have y0:=M3.out.cell x0 (by simp);have RX1:=ab (R1x.out.keep0 (aa GKx.out M3.out));clear hS x0 x1 x2 x3;have hdec:decide (bB S i=bB Vx i)=true:=decide_eq_true EQT.out;have HDEC:=ab hdec;clear hdec;go_upto_region 27 with fail;go_region_held3 (fun w'=>w'.cell? ⟨bkx,0,none⟩=some (.slice aox i acx)) (go_keep)
      (first
       | (go_at_call 23;refine (rTs_at _ g i i B S _ 2300000 _ (M1.out.keep0 (aj _)) (by omega) (Nat.le_refl _) (by unfold maxLen;omega) FS.out (by decide)).mono ?_;rintro e w7 ⟨v7,rfl,o7,g7⟩;have G7:wp.grownBy w7 none:=aa (aj _) g7;obtain ⟨ao7,ac7,rfl⟩:=o7.shape;rw [aJ] at o7 ⊢;have k0:=G7.cell y0 (by simp);have O7:=ab o7;clear o7 g7)
       | (go_at_call 22;refine (nh _ _ (bB S i) (bB Vx i) _ (O7.out.keep0 (by first | exact ae _ _ | exact aj _)).row (RX1.out.keep0 (by first | exact G7 | exact aa G7 (aj _))).row (by rw [aJ];omega) (by rw [aJ];omega)).mono ?_;rintro e w8 ⟨rfl,g8⟩;have G8:wp.grownBy w8 none:=aa (by first | exact G7 | exact aa G7 (aj _)) g8;have k1:=G8.cell y0 (by simp)))
     all_goals rw [HDEC.out]
     all_goals go_wp2
     all_goals go_ret
     all_goals exact ⟨rfl,aa GWa.out (aa M3.out G8)⟩
end Go.Proofs.YtcoeancbjafooaaGreatDoor
