/- Contracts that the proof leans on. -/
import Derived.Test.YthblidglcppakaaGreatDoorProg
import Derived.RowKit
import Derived.Test.YthblidglcppakaaGreatDoorXMBase
import Derived.Laws.AppendOwnNone
import Derived.WalkKit
import Derived.Outline
import Derived.BigQuiet
import Derived.Deep.QuietTactic
import Derived.WalkSpells
import Derived.Laws.AppendOwn
import Derived.Lib.SliceRun
import Derived.Laws.BitsAllLaws
namespace Go.Proofs.YthblidglcppakaaGreatDoor
open Go.RowKit
set_option linter.unusedVariables false
set_option linter.unusedSimpArgs false
set_option maxHeartbeats 8000000
set_option maxRecDepth 10000
def lenOf:Value->Nat
 | .slice _ l _=>l
 | _=>0
theorem rk (w:World):Calls Tryz.prog 145 #[.slice none 0 0] w fun e w'=>e=.returned (.slice none 0 0)/\w'=w:=by
 go_enter Tryz.func145,Tryz.ntmps145
 go_wp2;refine wp_loop_rounds 1 ?_;rw [rounds_succ];go_wp2;go_ret;exact ⟨rfl,rfl⟩
theorem o8 (b off cap:Nat) (xs:List Nat) (w:World) (hm:xs.length<=cap) (hcap:cap<=maxLen)
  (hc:∀ i (h:i<xs.length),w.cell? ⟨b,off+i,none⟩=some (.int .u32 (xs[i]:Nat))) :
  Calls Tryz.prog 145 #[.slice (some ⟨b,off,none⟩) xs.length cap] w fun e w'=>e=.returned (.slice (some ⟨b,off,none⟩) (aN xs).length cap)/\w'=w:=by
 unfold maxLen at hcap;go_enter Tryz.func145,Tryz.ntmps145
 go_wp2;go_loop [0] (fun n=>∃ k:Nat,k<=xs.length/\n=.slice (some ⟨b,off,none⟩) k cap/\aN (xs.take k)=aN xs) (fun n=>lenOf n)
 case atStart=>exact ⟨xs.length,Nat.le_refl _,rfl,by simp⟩
 case round =>
  obtain ⟨k,hk,rfl,ht⟩:=hrel;have HT:Hid (aN (xs.take k)=aN xs):=ht;clear ht;by_cases h0:k=0
  ·subst h0;go_wp2;go_ret;refine ⟨?_,rfl⟩;rw [<- HT.out];rfl
  ·obtain ⟨j,rfl⟩:∃ j,k=j+1:=⟨k-1,by omega⟩;have hj:=hc j (by omega);have hjl:j<xs.length:=by omega
   by_cases hz:xs[j]=0
   ·have HZ:Hid (xs[j]=0):=hz;rw [hz] at hj;clear hz hc;go_wp2;go_round
    case rel=>exact ⟨j,by omega,by simp,by rw [<- HT.out,jE xs j hjl HZ.out]⟩
    case measure=>simp [lenOf]
   ·have HZ:Hid (xs[j]≠0):=hz;obtain ⟨x,hx⟩:∃ x,x=xs[j]:=⟨_,rfl⟩;rw [<- hx] at hj hz;have hz':(((x:Nat):Int)==0)=false:=beq_eq_false_iff_ne.2 (by omega);clear hx hz hc;go_wp2;go_ret;refine ⟨?_,rfl⟩;rw [<- HT.out,kq xs j hjl HZ.out];simp;omega
theorem BF (v:Value) (xs:List Nat) (w:World) (h:Ws w v xs) :
  Calls Tryz.prog 145 #[v] w fun e w'=>∃ v',e=.returned v'/\w'=w/\Ws w v' (aN xs)/\az v'=az v:=by
 rcases h.sh with ⟨rfl,rfl⟩ | ⟨b,off,cap,rfl,hb,hl,hm,hc⟩
 ·refine (rk w).mono ?_;rintro e w' ⟨rfl,rfl⟩;exact ⟨_,rfl,rfl,Ws.nil _,rfl⟩
 ·refine (o8 b off cap xs w hl hm hc).mono ?_;rintro e w' ⟨rfl,rfl⟩;refine ⟨_,rfl,rfl,⟨h.sm.trimL,.inr ⟨b,off,cap,rfl,hb,Nat.le_trans (aY xs) hl,hm,?_⟩⟩,rfl⟩;intro i hi;have:=aY xs;rw [hc i (by omega),kP xs i hi]
theorem fA (v:Value) (xs:List Nat) (w:World) (h:Ws w v xs) :
  Calls Tryz.prog 145 #[v] w fun e w'=>∃ v',e=.returned v'/\w'=w/\aU w v' (ak xs) xs.length/\az v'=az v:=by
 refine (BF v xs w h).mono ?_;rintro e w' ⟨v',rfl,rfl,h1,h2⟩;exact ⟨v',rfl,rfl,⟨_,h1,Tr.trimL _,eN _,aY _⟩,h2⟩
theorem rh (va:Value) (xs:List Nat) (w:World) (ha:Ws w va xs) :
  Calls Tryz.prog 168 #[va] w fun e w'=>e=.returned (.bool (xs==[1]))/\w'=w:=by
 obtain ⟨ao,ca,rfl,hca,hca',Ha⟩:=ha.open;clear ha;match xs,Ha with
 | [],_ =>
  go_enter Tryz.func168,Tryz.ntmps168
  go_wp2;go_ret;exact ⟨rfl,rfl⟩
 | [x],Ha =>
  obtain ⟨b,off,rfl,hb,hc⟩:=Ha 0 (by simp);simp only [Nat.add_zero,List.getElem_cons_zero] at hc;clear Ha;go_enter Tryz.func168,Tryz.ntmps168
  go_wp2;go_ret;refine ⟨?_,rfl⟩;show Ending.returned (.bool ((x:Int)==1))=_
  congr 2
  rw [Bool.eq_iff_iff];simp;omega
 | x :: y :: r,_ =>
  have hb:((((x :: y :: r).length:Nat):Int)==1)=false:=beq_eq_false_iff_ne.2 (by simp;omega);generalize hn:(x :: y :: r).length=n at hb hca ⊢;go_enter Tryz.func168,Tryz.ntmps168
  go_wp2;go_ret;exact ⟨by simp,rfl⟩
def vT (d:Int):Int:=if d<0 then -1 else if 0<d then 1 else 0
theorem tV (d:Int) (w:World) :
  Calls Tryz.prog 132 #[.int .i64 d] w fun e w'=>e=.returned (.int .i64 (vT d))/\w'=w:=by
 rcases Int.lt_trichotomy d 0 with h | h | h
 ·go_enter Tryz.func132,Tryz.ntmps132
  go_wp2;go_ret;exact ⟨by simp [vT,h],rfl⟩
 ·subst h;go_enter Tryz.func132,Tryz.ntmps132
  go_wp2;go_ret;exact ⟨by simp [vT],rfl⟩
 ·go_enter Tryz.func132,Tryz.ntmps132
  go_wp2;go_ret;exact ⟨by simp [vT,h];omega,rfl⟩
theorem fS (va vb:Value) (xs ys:List Nat) (w:World) (ha:Ws w va xs) (hb:Ws w vb ys) (tx:Tr xs) (ty:Tr ys) :
  Calls Tryz.prog 163 #[va,vb] w fun e w'=>e=.returned (.int .i64 (iG (ak xs) (ak ys)))/\∃ q,w'=w.drewN q:=by
 obtain ⟨ao,ca,rfl,hca,hca',Ha⟩:=ha.open;obtain ⟨bo,cb,rfl,hcb,hcb',Hb⟩:=hb.open;unfold maxLen at hca' hcb';have HA:=ab Ha;have HB:=ab Hb;have SA:=ab ha.sm;have SB:=ab hb.sm;have TX:=ab tx;have TY:=ab ty;clear Ha Hb ha hb tx ty;by_cases hl:xs.length=ys.length
 ·have hne:(((xs.length:Nat):Int) != ((ys.length:Nat):Int))=false:=by rw [bne_eq_false_iff_eq];omega
  have HL:=ab hl;have hl1:xs.length<=ys.length:=by omega
  have hl2:ys.length<=xs.length:=by omega
  clear hl;go_enter Tryz.func163,Tryz.ntmps163
  go_wp2;go_loopw [5] (fun i wr=>∃ (z:Int) (q:Nat),-1<=z/\z<xs.length/\i=.int .i64 z/\wr=w.drewN q/\Hid (xs.drop (z+1).toNat=ys.drop (z+1).toNat)) (fun i _=>(intOf i+1).toNat)
  case atStart=>exact ⟨(xs.length:Int)-1,0,by omega,by omega,rfl,rfl,by rw [List.drop_of_length_le (by omega),List.drop_of_length_le (by omega)];rfl⟩
  case round =>
   obtain ⟨z,q,hz1,hz2,rfl,rfl,HD⟩:=hrel;by_cases h0:z<0
   ·go_wp2;go_ret;refine ⟨?_,q,rfl⟩;have:=HD.out;rw [show (z+1).toNat=0 from by omega] at this;simp only [List.drop_zero] at this;rw [this,xf];rfl
   ·obtain ⟨j,rfl⟩:∃ j:Nat,z=j:=⟨z.toNat,by omega⟩;have hjx:j<xs.length:=by omega
    have hjy:j<ys.length:=by omega
    obtain ⟨b,off,rfl,hbl,hcell⟩:=aG HA j hjx;obtain ⟨b2,off2,rfl,hbl2,hcell2⟩:=aG HB j hjy;obtain ⟨x,ex⟩:∃ x,x=xs[j]:=⟨_,rfl⟩;obtain ⟨y,ey⟩:∃ y,y=ys[j]:=⟨_,rfl⟩;rw [<- ex] at hcell;rw [<- ey] at hcell2;have EX:=ab ex;have EY:=ab ey;clear ex ey;have HD':=HD.out;rw [show ((j:Int)+1).toNat=j+1 from by omega] at HD';have HE:=ab HD';clear HD' HD;rcases Nat.lt_trichotomy x y with hxy | hxy | hxy
    ·go_wp2;go_quiet (fail)
     go_wp2;go_ret;refine ⟨?_,_,by simp only [World.drewN_drewN];rfl⟩;rw [pD (fP xs ys j hjx hjy SA.out HE.out (by rw [<- EX.out,<- EY.out];exact hxy))];rfl
    ·have HXY:=ab hxy;have hxy1:x<=y:=by omega
     have hxy2:y<=x:=by omega
     clear hxy;go_wp2;go_quiet (fail)
     go_wp2;go_quiet (fail)
     go_wp2;go_roundw
     case rel=>exact ⟨(j:Int)-1,_,by omega,by omega,by go_num,by first | rfl | (simp only [World.drewN_drewN];rfl),by
      rw [show ((j:Int)-1+1).toNat=j from by omega,List.drop_eq_getElem_cons hjx,List.drop_eq_getElem_cons hjy,HE.out,<- EX.out,<- EY.out,HXY.out];rfl⟩
     case measure=>simp [intOf]
    ·have hb2:¬ ((x:Nat):Int)<((y:Nat):Int):=by omega
     go_wp2;go_quiet (fail)
     go_wp2;go_quiet (fail)
     go_wp2;go_ret;refine ⟨?_,_,by simp only [World.drewN_drewN];rfl⟩;rw [pC (fP ys xs j hjy hjx SB.out HE.out.symm (by rw [<- EX.out,<- EY.out];exact hxy))];rfl
 ·have hne:(((xs.length:Nat):Int) != ((ys.length:Nat):Int))=true:=by rw [bne_iff_ne];omega
  have E:Hid (vT ((xs.length:Int)-(ys.length:Int))=iG (ak xs) (ak ys)):=by
   rcases Nat.lt_or_ge xs.length ys.length with h | h
   ·show _=_
    rw [pD (cw SA.out TY.out h)];unfold vT;rw [if_pos (by omega)]
   ·show _=_
    rw [pC (cw SB.out TX.out (by omega))];unfold vT;rw [if_neg (by omega),if_pos (by omega)]
  clear hl;go_enter Tryz.func163,Tryz.ntmps163
  go_wp2_with fail;refine (tV _ _).mono ?_;rintro e w1 ⟨rfl,rfl⟩;have E2:=E.out;generalize vT ((xs.length:Int)-(ys.length:Int))=s at E2 ⊢;have E3:=ab E2;clear E E2;go_wp2;go_ret;exact ⟨by rw [E3.out];rfl,0,rfl⟩
theorem lV (va vb:Value) (m n L M:Nat) (w:World) (ha:aU w va m L) (hb:aU w vb n M) :
  Calls Tryz.prog 163 #[va,vb] w fun e w'=>e=.returned (.int .i64 (iG m n))/\∃ q,w'=w.drewN q:=by
 obtain ⟨xs,x1,x2,x3,x4⟩:=ha;obtain ⟨ys,y1,y2,y3,y4⟩:=hb;rw [<- x3,<- y3];exact fS va vb xs ys w x1 y1 x2 y2
def gB (w:World) (base:Nat) (v:Value) (xs:List Nat):Prop:=w.ownsRow base 140 1 v xs.length (au xs).toList
theorem oh (w:World) (base:Nat):gB w base (.slice none 0 0) []:=World.ownsRow_nil _ _ _ _
theorem jw {cur:Array Value} {xs:List Nat} (h:cur.toList.take (xs.length*1)=(au xs).toList) (i:Nat) (hi:i<xs.length):cur[i]? = some (.int .u32 (xs[i]:Nat)):=by
 have h2:(cur.toList.take (xs.length*1))[i]? = (au xs).toList[i]?:=by rw [h]
 rw [List.getElem?_take,if_pos (by omega)] at h2;simpa [au,hi] using h2
theorem gB.ws {w:World} {base:Nat} {v:Value} {xs:List Nat} (h:gB w base v xs) (hs:Sm xs):Ws w v xs:=by
 refine ⟨hs,?_⟩;rcases h.2 with ⟨rfl,h0⟩ | ⟨g,cap,cur,rfl,hb,hh,h1,h2,h3,h4⟩
 ·exact .inl ⟨rfl,List.eq_nil_of_length_eq_zero h0⟩
 ·refine .inr ⟨g,0,cap,rfl,(Array.getElem?_eq_some_iff.1 hh).1,h1,h2,fun i hi=>?_⟩;rw [Nat.zero_add];simp only [World.cell?,hh];exact jw h4 i hi
theorem gB.fresh {w:World} {base:Nat} {v:Value} {xs:List Nat} (h:gB w base v xs):∀ k,az v=some k->base<=k/\k<w.heap.size:=by
 intro k hk;rcases h.2 with ⟨rfl,h0⟩ | ⟨g,cap,cur,rfl,hb,hh,h1,h2,h3,h4⟩
 ·simp [az] at hk
 ·simp [az] at hk;subst hk;exact ⟨hb,(Array.getElem?_eq_some_iff.1 hh).1⟩
theorem gB.open {w:World} {base:Nat} {v:Value} {xs:List Nat} (h:gB w base v xs):∃ ao cap,v=.slice ao xs.length cap/\xs.length<=cap/\cap<=maxLen /\
  (ao=none∨∃ g,ao=some ⟨g,0,none⟩/\base<=g/\g<w.heap.size):=by
 rcases h.2 with ⟨rfl,h0⟩ | ⟨g,cap,cur,rfl,hb,hh,h1,h2,h3,h4⟩
 ·exact ⟨none,0,by rw [h0],by omega,by unfold maxLen;omega,.inl rfl⟩
 ·exact ⟨_,cap,rfl,h1,h2,.inr ⟨g,rfl,hb,(Array.getElem?_eq_some_iff.1 hh).1⟩⟩
theorem gB.at {w:World} {base g cap:Nat} {xs:List Nat} (h:gB w base (.slice (some ⟨g,0,none⟩) xs.length cap) xs) (i:Nat) (hi:i<xs.length) :
  w.cell? ⟨g,i,none⟩=some (.int .u32 (xs[i]:Nat))/\w.frozen? ⟨g,i,none⟩=false /\
   ∀ (x:Nat) (z:Int),z=(x:Int)->gB (w.setCell ⟨g,i,none⟩ (.int .u32 z)) base (.slice (some ⟨g,0,none⟩) xs.length cap) (xs.set i x):=by
 rcases h.2 with ⟨h0,_⟩ | ⟨g',cap',cur,h0,hb,hh,h1,h2,h3,h4⟩
 ·simp at h0
 ·simp only [Value.slice.injEq,Option.some.injEq,Addr.mk.injEq,and_true,true_and] at h0;obtain ⟨rfl,rfl⟩:=h0;refine ⟨?_,?_,?_⟩
  ·simp only [World.cell?,hh];exact jw h4 i hi
  ·simp [World.frozen?,hh]
  ·intro x z hz;refine ⟨by simp [au],.inr ⟨g,cap,cur.setIfInBounds i (.int .u32 z),by simp,hb,?_,by simpa using h1,h2,by simpa using h3,?_⟩⟩
   ·rw [heap_setCell_same w g i _ _ _ hh]
   ·subst hz;rw [Array.toList_setIfInBounds,List.length_set,List.take_set,h4];simp [au,List.map_set]
theorem gB.keep {w w':World} {base:Nat} {v:Value} {xs:List Nat} {row:Option Nat} (h:gB w base v xs) (hg:w.grownBy w' row) (hne:∀ k,row=some k->az v≠some k):gB w' base v xs:=by
 refine World.ownsRow.kept h hg ?_;cases row with
 | none=>cases hv:v.ownBlock<;>simp
 | some k =>
  right
  intro e;refine hne k rfl ?_;rw [<- e];cases v<;>rfl
theorem gB.keep0 {w w':World} {base:Nat} {v:Value} {xs:List Nat} (h:gB w base v xs) (hg:w.grownBy w' none):gB w' base v xs:=h.keep hg (fun _ e=>by cases e)
theorem gB.base {w:World} {base base':Nat} {v:Value} {xs:List Nat} (h:gB w base v xs) (hb:∀ k,az v=some k->base'<=k):gB w base' v xs:=by
 refine ⟨h.1,?_⟩;rcases h.2 with h0 | ⟨g,cap,cur,rfl,h5,hh,h1,h2,h3,h4⟩
 ·exact .inl h0
 ·exact .inr ⟨g,cap,cur,rfl,hb g rfl,hh,h1,h2,h3,h4⟩
theorem ch.own {w:World} {g base:Nat} {xs:List Nat} (h:ch w g xs) (hb:base<=g) (hm:xs.length<=maxLen):gB w base (.slice (some ⟨g,0,none⟩) xs.length xs.length) xs :=
 ⟨by simp [au],.inr ⟨g,xs.length,au xs,rfl,hb,h,Nat.le_refl _,hm,by simp [au],List.take_of_length_le (by simp [au])⟩⟩
theorem nN (v:Value):v.ownBlock=az v:=by cases v<;>rfl
theorem eD {w w1:World} {r:Option Nat} (h:w.grownBy w1 r) (g i:Nat) (v:Value) (hr:r=some g):w.grownBy (w1.setCell ⟨g,i,none⟩ v) r :=
 aq (r2:=some g) h ⟨rfl,rfl,rfl,by simp,fun k _ hr=>heap_setCell_other _ _ _ _ (fun e=>hr (by rw [e]))⟩ (fun _ _ e=>e) (fun b hb e=>by rw [hr];exact e)
theorem Dh {ys:List Nat} (hs:Sm ys) (h:ys≠[]->4294967296^(ys.length-1)<=ak ys):Tr ys:=by
 by_cases hy:ys=[]
 ·subst hy;rfl
 ·have h1:=h hy;have h2:=eN ys;have h3:=bD hs.trimL;have h4:=aY ys;rw [h2] at h3;have h5:ys.length-1<(aN ys).length:=(Nat.pow_lt_pow_iff_right (a:=4294967296) (by decide)).1 (Nat.lt_of_le_of_lt h1 h3);have hp:0<ys.length:=List.length_pos_iff.2 hy;have h6:(aN ys).length=ys.length:=by omega
  unfold Tr;apply List.ext_getElem h6;intro i hi _;exact kP ys i hi
def gN (w:World) (base:Nat) (v:Value) (n L:Nat):Prop:=∃ xs,gB w base v xs/\Sm xs/\Tr xs/\ak xs=n/\xs.length<=L
theorem gN.num {w:World} {base:Nat} {v:Value} {n L:Nat} (h:gN w base v n L):aU w v n L:=by
 obtain ⟨xs,h1,h2,h3,h4,h5⟩:=h;exact ⟨xs,h1.ws h2,h3,h4,h5⟩
theorem gN.mono {w:World} {base:Nat} {v:Value} {n L L':Nat} (h:gN w base v n L) (hl:L<=L'):gN w base v n L':=by
 obtain ⟨xs,h1,h2,h3,h4,h5⟩:=h;exact ⟨xs,h1,h2,h3,h4,Nat.le_trans h5 hl⟩
theorem gN.keep0 {w w':World} {base:Nat} {v:Value} {n L:Nat} (h:gN w base v n L) (hg:w.grownBy w' none):gN w' base v n L:=by
 obtain ⟨xs,h1,h2,h3,h4,h5⟩:=h;exact ⟨xs,h1.keep0 hg,h2,h3,h4,h5⟩
theorem gN.fresh {w:World} {base:Nat} {v:Value} {n L:Nat} (h:gN w base v n L):∀ k,az v=some k->base<=k/\k<w.heap.size:=by
 obtain ⟨xs,h1,h2,h3,h4,h5⟩:=h;exact h1.fresh
theorem gN.base {w:World} {base base':Nat} {v:Value} {n L:Nat} (h:gN w base v n L) (hb:base'<=base):gN w base' v n L:=by
 obtain ⟨xs,h1,h2,h3,h4,h5⟩:=h;exact ⟨xs,h1.base (fun k hk=>Nat.le_trans hb (h1.fresh k hk).1),h2,h3,h4,h5⟩
def n6 (w wr:World) (base g cap:Nat) (xs:List Nat) (b m i c:Nat):Prop :=
 ∃ mid:List Nat,mid.length=i/\Sm mid/\gB wr base (.slice (some ⟨g,0,none⟩) xs.length cap) (mid++xs.drop i)/\w.grownBy wr (some g)/\ak mid+4294967296^i*c=ak (xs.take i)*b+m
theorem n6.at {w wr:World} {base g cap:Nat} {xs:List Nat} {b m i c:Nat} (h:n6 w wr base g cap xs b m i c) (hi:i<xs.length) :
  wr.cell? ⟨g,i,none⟩=some (.int .u32 (xs[i]:Nat))/\wr.frozen? ⟨g,i,none⟩=false /\
   ∀ (x:Nat) (z:Int),x=xs[i]->z=(((c+x*b) % 4294967296:Nat):Int)->n6 w (wr.setCell ⟨g,i,none⟩ (.int .u32 z)) base g cap xs b m (i+1) ((c+x*b) / 4294967296):=by
 obtain ⟨mid,h1,h2,h3,h4,h5⟩:=h;have hl:(mid++xs.drop i).length=xs.length:=by simp [h1];omega
 rw [<- hl] at h3;obtain ⟨k1,k2,k3⟩:=h3.at i (by rw [hl];exact hi);have e:(mid++xs.drop i)[i]'(by rw [hl];exact hi)=xs[i]:=by
  rw [List.getElem_append_right (by omega)];simp [h1]
 rw [e] at k1;refine ⟨k1,k2,fun x z hx hz=>?_⟩;have h6:=k3 _ z hz;have e2:(mid++xs.drop i).set i ((c+x*b) % 4294967296)=(mid++[(c+x*b) % 4294967296])++xs.drop (i+1):=by
  rw [List.set_append_right _ _ (by omega),h1,Nat.sub_self,List.drop_eq_getElem_cons hi,List.set_cons_zero,List.append_assoc];rfl
 rw [e2,hl] at h6;refine ⟨mid++[(c+x*b) % 4294967296],by simp [h1],h2.snoc _,h6,eD h4 g i _ rfl,?_⟩;rw [aO,h1,Nat.pow_succ,Nat.add_assoc,fz,Nat.mul_add,<- Nat.add_assoc,h5,ay xs i hi,<- hx,Nat.add_mul,Nat.mul_assoc];omega
theorem zC (x y c:Nat):(((c:Int)+(x:Int)*(y:Int)) / 4294967296)=(((c+x*y) / 4294967296:Nat):Int):=by
 rw [Int.natCast_ediv,Int.natCast_add,Int.natCast_mul];rfl
theorem wK (x y c:Nat):(((c:Int)+(x:Int)*(y:Int)) % 4294967296)=(((c+x*y) % 4294967296:Nat):Int):=by
 rw [Int.natCast_emod,Int.natCast_add,Int.natCast_mul];rfl
def Grown (w:World) (base:Nat) (v:Value) (xs:List Nat) (b m:Nat) (v':Value) (w':World):Prop :=
 ∃ ys,gB w' base v' ys/\Sm ys/\ak ys=ak xs*b+m/\ys.length<=xs.length+1/\w.grownBy w' (az v)/\(Tr xs->0<b->Tr ys)
theorem zD {xs mid:List Nat} {b m:Nat} (hm:mid.length=xs.length) (hs:Sm mid) (h:ak mid=ak xs*b+m) (tx:Tr xs) (hb:0<b):Tr mid:=by
 refine Dh hs fun hne=>?_
 have hx:xs≠[]:=by
  intro e;subst e;exact hne (List.eq_nil_of_length_eq_zero hm)
 have h1:=iZ tx hx;rw [hm,h];have:ak xs*1<=ak xs*b:=Nat.mul_le_mul_left _ hb;omega
theorem gB.alloc {w:World} {base:Nat} {v:Value} {xs:List Nat} (h:gB w base v xs) (o:Obj):gB (w.alloc o) base v xs:=World.ownsRow.alloc h o
theorem BK (v:Value) (xs:List Nat) (b m:Nat) (w:World) (base:Nat) (h:gB w base v xs) (hs:Sm xs) (hb:b<4294967296) (hm:m<4294967296) (hl:xs.length<=10000000000000) (hbase:base<=w.heap.size) :
  Calls Tryz.prog 161 #[v,.int .u32 (b:Nat),.int .u32 (m:Nat)] w fun e w'=>∃ v',e=.returned v'/\Grown w base v xs b m v' w':=by
 obtain ⟨i0,hi0,hz0,hz1,hz2⟩:=info_parts Tryz.info32;obtain ⟨ao,cap,ev,hc1,hc2,hao⟩:=h.open;unfold maxLen at hc2;have HS:=ab hs;have HAO:=ab hao;have HO:=ab h;subst ev;clear h hs hao;go_enter Tryz.func161,Tryz.ntmps161
 go_wp2;go_loopw [7,14] (fun cv iv wr=>∃ i c:Nat,i<=xs.length/\c<4294967296/\iv=.int .i64 i/\cv=.int .u64 c/\Hid (∃ mid:List Nat,mid.length=i/\Sm mid/\gB wr base (.slice ao xs.length cap) (mid++xs.drop i)/\w.grownBy wr (az (.slice ao xs.length cap))/\ak mid+4294967296^i*c=ak (xs.take i)*b+m)) (fun _ iv _=>xs.length-(intOf iv).toNat)
 case atStart=>exact ⟨0,m,by omega,hm,rfl,rfl,[],rfl,Sm.nil,HO.out,ae _ _,by simp [ak]⟩
 case round =>
  obtain ⟨i,c,hi,hc,rfl,rfl,HI⟩:=hrel;by_cases hlt:i<xs.length
  ·obtain ⟨g,rfl,hg1,hg2⟩:∃ g,ao=some ⟨g,0,none⟩/\base<=g/\g<w.heap.size:=by
    rcases HAO.out with e | e
    ·exfalso
     subst e;rcases HO.out.2 with ⟨_,e2⟩ | ⟨g,cap',cur,e2,_⟩
     ·omega
     ·simp at e2
    ·exact e
   obtain ⟨hcx,hfr,hstep⟩:=n6.at (w:=w) (wr:=wr) (base:=base) (g:=g) (cap:=cap) (xs:=xs) (b:=b) (m:=m) (i:=i) (c:=c) HI.out hlt;have hx:=HS.out.get i hlt;obtain ⟨x,ex⟩:∃ x,x=xs[i]:=⟨_,rfl⟩;rw [<- ex] at hcx hx;have HST:=ab (hstep x);have EX:=ab ex;have hp:=lC x b hx hb;have hp0:0<=(x:Int)*(b:Int):=Int.mul_nonneg (by omega) (by omega);clear hstep ex HI HAO;go_wp2;go_roundw
   case rel =>
    refine ⟨i+1,(c+x*b) / 4294967296,by omega,?_,by go_num,by rw [zC],HST.out _ EX.out (by rw [wK])⟩;have:x*b<=4294967295*4294967295:=Nat.mul_le_mul (by omega) (by omega);omega
   case measure=>simp [intOf];omega
  ·obtain rfl:i=xs.length:=by omega
   obtain ⟨mid,h1,h2,h3,h4,h5⟩:=HI.out;rw [List.drop_of_length_le (Nat.le_refl _),List.append_nil] at h3;rw [List.take_of_length_le (Nat.le_refl _)] at h5;by_cases hc0:c=0
   ·subst hc0;rw [Nat.mul_zero,Nat.add_zero] at h5;have HE:Hid (Grown w base (.slice ao xs.length cap) xs b m (.slice ao xs.length cap) wr):=⟨mid,h3,h2,h5,by omega,h4,fun tx hb0=>zD h1 h2 h5 tx hb0⟩;clear h1 h2 h3 h4 h5 HI HAO HO HS;go_wp2;go_ret;exact ⟨_,rfl,HE.out⟩
   ·have hc1':1<=c:=by omega
    obtain ⟨zc,ezc⟩:∃ z:Int,z=(c:Int):=⟨_,rfl⟩;have hzc1:0<zc:=by omega
    have hzc2:zc<4294967296:=by omega
    simp only [<- ezc];have EZC:=ab ezc;clear ezc hc1' hc;have H1:=ab h1;have H2:=ab h2;have H3:=ab h3;have H4:=ab h4;have H5:=ab h5;have HSZ:=ab h4.size;clear h1 h2 h3 h4 h5 HI HAO HO HS hc0;go_wp2_with (at_builtin;refine wpList_append_own _ rfl _ _ 89 rfl base 140 i0 (.int .u32 0) 1 4 Tryz.underlying89 hi0 hz0 hz1 hz2 rfl (by decide) _ xs.length (au mid).toList rfl ?c0 ⟨wr.heap.size,0,none⟩ 1 1 [.int .u32 zc] rfl rfl ?c1 ?c2 ?c3 ?c4 ?c5 ?_)
    case c0 =>
     have:=H3.out.alloc (Obj.cells #[Value.int IntKind.u32 zc] 140);unfold gB at this;rw [H1.out] at this;exact this
    case c1 =>
     intro j u hj;match j with
     | 0 =>
      simp only [List.getElem?_cons_zero,Option.some.injEq] at hj;subst hj;simp [Addr.add]
     | j+1=>simp at hj
    case c2 =>
     intro u hu;simp only [List.mem_singleton] at hu;subst hu;rfl
    case c3=>unfold maxLen;omega
    case c4=>omega
    case c5 =>
     have:=HSZ.out;simp;omega
    intro v' w2 hown hgr hnil;have HW:=ab hown;have HGR:=ab hgr;obtain ⟨ao',cap',rfl⟩:∃ ao' cap',v'=.slice ao' (xs.length+1) cap':=by
     rcases hown.2 with ⟨_,e⟩ | ⟨g,cap',cur,rfl,_⟩
     ·omega
     ·exact ⟨_,_,rfl⟩
    clear hown hgr hnil;go_wp2;go_ret;refine ⟨_,rfl,mid++[zc.toNat],?_,H2.out.append (Sm.cons (by omega) Sm.nil),?_,by simp [H1.out],?_,fun _ _=>kp _ _ (by omega)⟩
    ·have h1:=HW.out;have e1:(au mid).toList++[Value.int IntKind.u32 zc]=(au (mid++[zc.toNat])).toList:=by
      have e2:zc=((zc.toNat:Nat):Int):=by omega
      rw [e2];simp [au]
     rw [e1] at h1;unfold gB;rw [List.length_append,H1.out];exact h1
    ·rw [aO,H1.out,<- H5.out];have e2:c=zc.toNat:=by have:=EZC.out;omega
     rw [e2]
    ·refine aq (r1:=az (.slice ao xs.length cap)) (r2:=az (.slice ao xs.length cap)) H4.out ?_ (fun _ _ e=>e) (fun _ _ e=>e);have:=HGR.out;rw [nN] at this;exact aq (r1:=none) (World.grownBy_alloc wr _ none) this (fun _ _ e=>by cases e) (fun _ _ e=>e)
def kv (w wr:World) (base:Nat) (v:Value) (xs:List Nat) (d k r:Nat):Prop :=
 ∃ qs:List Nat,qs.length=xs.length-k/\Sm qs/\gB wr base v (xs.take k++qs)/\w.grownBy wr (az v)/\ak (xs.drop k)=ak qs*d+r
theorem kv.at {w wr:World} {base g cap:Nat} {xs:List Nat} {d j r:Nat} (h:kv w wr base (.slice (some ⟨g,0,none⟩) xs.length cap) xs d (j+1) r) (hj:j<xs.length) (hd:r<d) (hd2:d<4294967296) (sx:Sm xs) :
  wr.cell? ⟨g,j,none⟩=some (.int .u32 (xs[j]:Nat))/\wr.frozen? ⟨g,j,none⟩=false /\
   ∀ (x:Nat) (z:Int),x=xs[j]->z=(((r*4294967296+x) / d:Nat):Int)->kv w (wr.setCell ⟨g,j,none⟩ (.int .u32 z)) base (.slice (some ⟨g,0,none⟩) xs.length cap) xs d j ((r*4294967296+x) % d):=by
 obtain ⟨qs,h1,h2,h3,h4,h5⟩:=h;have hl:(xs.take (j+1)++qs).length=xs.length:=by rw [List.length_append,List.length_take,h1];omega
 have ht:(xs.take j).length=j:=by rw [List.length_take];omega
 rw [jx xs j hj] at h3 hl;have h3':=h3;rw [<- hl] at h3';obtain ⟨k1,k2,k3⟩:=h3'.at j (by rw [hl];exact hj);have e:(xs.take j++[xs[j]]++qs)[j]'(by rw [hl];exact hj)=xs[j]:=by
  rw [List.getElem_append_left (by rw [List.length_append,ht];simp),List.getElem_append_right (by omega)];simp [ht]
 rw [e] at k1;refine ⟨k1,k2,fun x z hx hz=>?_⟩;have h6:=k3 _ z hz;have hxb:x<4294967296:=by rw [hx];exact sx.get j hj
 have hq:(r*4294967296+x) / d<4294967296:=by
  rw [Nat.div_lt_iff_lt_mul (by omega)];have:(r+1)*4294967296<=d*4294967296:=Nat.mul_le_mul_right _ (by omega);rw [Nat.mul_comm 4294967296 d];omega
 have e2:(xs.take j++[xs[j]]++qs).set j ((r*4294967296+x) / d)=xs.take j++((r*4294967296+x) / d) :: qs:=by
  rw [List.append_assoc,List.set_append_right _ _ (by omega),ht,Nat.sub_self];rfl
 rw [e2,hl] at h6;refine ⟨((r*4294967296+x) / d) :: qs,by simp [h1];omega,Sm.cons hq h2,h6,eD h4 g j _ rfl,?_⟩;rw [List.drop_eq_getElem_cons hj,<- hx];simp only [ak,h5];have e:=Nat.div_add_mod (r*4294967296+x) d;rw [Nat.add_mul,Nat.mul_add,Nat.mul_assoc,Nat.mul_comm ((r*4294967296+x) / d) d];omega
theorem kB (v:Value) (xs:List Nat) (w:World) (base:Nat) (h:gB w base v xs) (hs:Sm xs) :
  Calls Tryz.prog 145 #[v] w fun e w'=>∃ v',e=.returned v'/\w'=w/\gB w base v' (aN xs)/\az v'=az v:=by
 rcases h.2 with ⟨rfl,h0⟩ | ⟨g,cap,cur,rfl,hb,hh,h1,h2,h3,h4⟩
 ·have:xs=[]:=List.eq_nil_of_length_eq_zero h0;subst this;refine (rk w).mono ?_;rintro e w' ⟨rfl,rfl⟩;exact ⟨_,rfl,rfl,oh _ _,rfl⟩
 ·refine (o8 g 0 cap xs w h1 h2 ?_).mono ?_
  ·intro i hi;rw [Nat.zero_add];simp only [World.cell?,hh];exact jw h4 i hi
  ·rintro e w' ⟨rfl,rfl⟩;have ht:=aY xs;refine ⟨_,rfl,rfl,⟨by simp [au],.inr ⟨g,cap,cur,rfl,hb,hh,by omega,h2,h3,?_⟩⟩,rfl⟩;apply List.ext_getElem?
   intro i;rw [List.getElem?_take];split
   ·rename_i hi;have hi':i<(aN xs).length:=by omega
    have:=jw h4 i (by omega);rw [Array.getElem?_toList,this];simp [au,hi',kP xs i hi']
   ·rename_i hi;rw [List.getElem?_eq_none];simp [au];omega
theorem zA (x:Nat) (w:World) (h1:x<4294967296) :
  Calls Tryz.prog 189 #[.int .u32 x] w fun e w'=>∃ v',e=.returned v'/\gN w' w.heap.size v' x 1/\w.grownBy w' none:=by
 go_enter Tryz.func189,Tryz.ntmps189
 go_wp2_with fail;have ha:ch (w.alloc (Obj.cells #[Value.int IntKind.u32 (x:Int)] 140)) w.heap.size [x]:=by
  unfold ch;show (w.heap.push _)[w.heap.size]? = _
  rw [Array.getElem?_push_size];rfl
 have hw:=ha.own (base:=w.heap.size) (Nat.le_refl _) (by unfold maxLen;simp);clear ha;refine (kB _ [x] _ w.heap.size hw (Sm.cons h1 Sm.nil)).mono ?_;rintro e w1 ⟨v',rfl,rfl,h2,h3⟩;clear hw;go_wp2;go_ret;refine ⟨v',rfl,⟨_,h2,(Sm.cons h1 Sm.nil).trimL,Tr.trimL _,?_,aY _⟩,ag (ae _ _) _⟩;rw [eN];simp only [ak];omega
def AR (w:World) (base:Nat) (v:Value) (xs:List Nat) (d:Nat) (v':Value) (w':World):Prop :=
 ∃ ys,gB w' base v' ys/\Sm ys/\Tr ys/\ak ys=ak xs / d/\ys.length<=xs.length/\w.grownBy w' (az v)/\az v'=az v
theorem pQ (v:Value) (xs:List Nat) (d:Nat) (w:World) (base:Nat) (h:gB w base v xs) (hs:Sm xs) (hd0:0<d) (hd:d<4294967296) (hl:xs.length<=10000000000000) :
  Calls Tryz.prog 111 #[v,.int .u32 (d:Nat)] w fun e w'=>∃ v' r,e=.returned (.tuple #[v',.int .u32 (r:Nat)])/\r=ak xs % d/\AR w base v xs d v' w':=by
 obtain ⟨ao,cap,ev,hc1,hc2,hao⟩:=h.open;unfold maxLen at hc2;have HS:=ab hs;have HAO:=ab hao;have HO:=ab h;subst ev;clear h hs hao;go_enter Tryz.func111,Tryz.ntmps111
 go_wp2;go_loopw [6,7] (fun rv iv wr=>∃ (z:Int) (r:Nat),-1<=z/\z<xs.length/\r<d/\iv=.int .i64 z/\rv=.int .u64 r/\Hid (kv w wr base (.slice ao xs.length cap) xs d (z+1).toNat r)) (fun _ iv _=>(intOf iv+1).toNat)
 case atStart=>exact ⟨(xs.length:Int)-1,0,by omega,by omega,by omega,rfl,rfl,[],by simp,Sm.nil,by
  rw [show ((xs.length:Int)-1+1).toNat=xs.length from by omega,List.append_nil,List.take_of_length_le (Nat.le_refl _)];exact HO.out,ae _ _,by
  rw [List.drop_of_length_le (by omega)];simp [ak]⟩
 case round =>
  obtain ⟨z,r,hz1,hz2,hr,rfl,rfl,HI⟩:=hrel;by_cases h0:z<0
  ·obtain ⟨qs,h1,h2,h3,h4,h5⟩:=HI.out;rw [show (z+1).toNat=0 from by omega] at h1 h3 h5;simp only [List.take_zero,List.nil_append,Nat.sub_zero,List.drop_zero] at h1 h3 h5;have H1:=ab h1;have H2:=ab h2;have H3:=ab h3;have H4:=ab h4;have H5:=ab h5;clear h1 h2 h3 h4 h5 HI HO HAO;go_wp2_with fail;refine (kB _ qs _ base H3.out H2.out).mono ?_;rintro e w2 ⟨v',rfl,rfl,k1,k2⟩;have K1:=ab k1;have K2:=ab k2;clear k1 k2;go_wp2;go_ret2
   refine ⟨v',r,rfl,?_,aN qs,K1.out,H2.out.trimL,Tr.trimL _,?_,?_,H4.out,K2.out⟩
   ·rw [H5.out,Nat.mul_comm,Nat.mul_add_mod,Nat.mod_eq_of_lt hr]
   ·rw [eN,H5.out,Nat.mul_comm,Nat.mul_add_div hd0,Nat.div_eq_of_lt hr,Nat.add_zero]
   ·have:=aY qs;have:=H1.out;omega
  ·obtain ⟨j,rfl⟩:∃ j:Nat,z=j:=⟨z.toNat,by omega⟩;have hjx:j<xs.length:=by omega
   obtain ⟨g,rfl,hg1,hg2⟩:∃ g,ao=some ⟨g,0,none⟩/\base<=g/\g<w.heap.size:=by
    rcases HAO.out with e | e
    ·exfalso
     subst e;rcases HO.out.2 with ⟨_,e2⟩ | ⟨g,cap',cur,e2,_⟩
     ·omega
     ·simp at e2
    ·exact e
   have HI':=HI.out;rw [show ((j:Int)+1).toNat=j+1 from by omega] at HI';obtain ⟨hcx,hfr,hstep⟩:=HI'.at hjx hr hd HS.out;have hx:=HS.out.get j hjx;obtain ⟨x,ex⟩:∃ x,x=xs[j]:=⟨_,rfl⟩;rw [<- ex] at hcx hx;have HST:=ab (hstep x);have EX:=ab ex;obtain ⟨m,hm⟩:∃ m,m=r*4294967296+x:=⟨_,rfl⟩;have hor:=jq r x (by omega) hx;rw [<- hm] at hor;have hmb:m<18446744073709551616:=by omega
   have hq:m / d<4294967296:=by
    rw [Nat.div_lt_iff_lt_mul (by omega)];have:(r+1)*4294967296<=d*4294967296:=Nat.mul_le_mul_right _ (by omega);rw [Nat.mul_comm 4294967296 d];omega
   have HQ:=ab hq;have HM:=ab hm;clear hstep ex HI HI' hq hm HAO HO;go_wp2;go_roundw
   case rel =>
    refine ⟨(j:Int)-1,m % d,by omega,by omega,Nat.mod_lt _ hd0,rfl,by rw [Int.natCast_emod],?_⟩;rw [show ((j:Int)-1+1).toNat=j from by omega,HM.out];refine HST.out _ EX.out ?_;have hq:=HQ.out;rw [<- HM.out,<- Int.natCast_ediv];generalize m / d=q at hq ⊢;rw [IntWalk.u64_in _ ⟨by omega,by omega⟩];omega
   case measure=>simp [intOf]
theorem jh (v:Value) (xs:List Nat) (w:World) (h:Ws w v xs) (hl:xs.length<=10000000000000) :
  Calls Tryz.prog 110 #[v] w fun e w'=>∃ v',e=.returned v'/\gB w' w.heap.size v' xs/\w.grownBy w' none:=by
 obtain ⟨i0,hi,hz0,hz1,hz2⟩:=info_parts Tryz.info32;rcases h.sh with ⟨rfl,rfl⟩ | ⟨b,off,cap,rfl,hb,hl',hm,hc⟩
 ·have hq:∀ W,(binOp .eql 89 (.slice none 0 0) (.slice none 0 0)).run Tryz.prog W=.ok (.bool true) W:=fun W=>Lib.run_eql_slice_nil W _ _ none 0 0 0 0 Tryz.underlying89
  go_enter Tryz.func110,Tryz.ntmps110
  go_wp2;go_ret;exact ⟨_,rfl,oh _ _,ae _ _⟩
 ·have HC:=ab hc;have HH:=ab h;clear hc h;unfold maxLen at hm;have hq:∀ W,(binOp .eql 89 (.slice (some ⟨b,off,none⟩) xs.length cap) (.slice none 0 0)).run Tryz.prog W=.ok (.bool false) W:=fun W=>Lib.run_eql_slice_nil W _ _ (some _) _ _ 0 0 Tryz.underlying89
  go_enter Tryz.func110,Tryz.ntmps110
  go_wp2_with (at_builtin;refine wpList_append_own _ rfl _ _ 89 rfl w.heap.size 140 i0 (.int .u32 0) 1 4 Tryz.underlying89 hi hz0 hz1 hz2 rfl (by decide) _ 0 [] rfl ?c0 ⟨b,off,none⟩ xs.length cap (au xs).toList rfl ?c1 ?c2 ?c3 ?c4 ?c5 ?c6 ?_)
  case c0=>exact World.ownsRow_made w #[] 0 (Nat.le_refl _) (by unfold maxLen;omega) (by simp)
  case c1=>simp [au]
  case c2 =>
   intro j u hj;obtain ⟨hj',hju⟩:=List.getElem?_eq_some_iff.1 hj;have hjl:j<xs.length:=by simpa [au] using hj'
   have:=aG HC j hjl;have h2:=(World.grownBy_alloc w (Obj.cells #[] 140) none).cell this (by simp);rw [show (⟨b,off,none⟩:Addr).add j=⟨b,off+j,none⟩ from by simp [Addr.add]];rw [show u=.int .u32 (xs[j]:Nat) from by rw [<- hju];simp [au]];exact h2
  case c3 =>
   intro u hu;simp only [au,List.mem_map] at hu;obtain ⟨x,_,rfl⟩:=hu;rfl
  case c4=>unfold maxLen;omega
  case c5=>omega
  case c6=>simp
  intro v' w1 hown hgr _;have HO:=ab hown;have HG:=ab hgr;obtain ⟨ao',n',cap',rfl⟩:∃ ao' n' cap',v'=.slice ao' n' cap':=by
   rcases hown.2 with ⟨e,_⟩ | ⟨g,cap',cur,rfl,_⟩
   ·exact ⟨_,_,_,e⟩
   ·exact ⟨_,_,_,rfl⟩
  clear hown hgr;go_wp2;go_ret;refine ⟨_,rfl,HO.out,?_⟩;exact aq (r1:=none) (World.grownBy_alloc w _ none) HG.out (fun _ _ e=>e) (fun b hb e=>by simp [Value.ownBlock] at e;omega)
def jN (w wr:World) (xs:List Nat) (s k c:Nat):Prop :=
 ∃ done:List Nat,done.length=k/\Sm done/\ch wr w.heap.size (done++c :: List.replicate (xs.length-k) 0)/\w.grownBy wr none/\ak done+4294967296^k*c=ak (xs.take k)*2^s
theorem jN.step {w wr:World} {xs:List Nat} {s k c:Nat} (h:jN w wr xs s k c) (hk:k<xs.length) (hs:s<32) (hc:c<2^s) (x:Nat) (hx:x=xs[k]) (z1 z2:Int)
  (hz1:z1=((c+x*2^s % 4294967296:Nat):Int)) (hz2:z2=((x*2^s / 4294967296:Nat):Int)) :
  jN w ((wr.setCell ⟨w.heap.size,k,none⟩ (.int .u32 z1)).setCell ⟨w.heap.size,k+1,none⟩ (.int .u32 z2)) xs s (k+1) (x*2^s / 4294967296):=by
 obtain ⟨done,h1,h2,h3,h4,h5⟩:=h;have hb:=(xe s c x hs hc).2;refine ⟨done++[c+x*2^s % 4294967296],by simp [h1],h2.append (Sm.cons hb Sm.nil),?_,ai (ai h4 _ _ (Nat.le_refl _)) _ _ (Nat.le_refl _),?_⟩
 ·have:=(h3.set k (c+x*2^s % 4294967296)).set (k+1) (x*2^s / 4294967296);rw [hz1,hz2];have e:((done++c :: List.replicate (xs.length-k) 0).set k (c+x*2^s % 4294967296)).set (k+1) (x*2^s / 4294967296)
    = (done++[c+x*2^s % 4294967296])++(x*2^s / 4294967296) :: List.replicate (xs.length-(k+1)) 0:=by
   obtain ⟨m,hm⟩:∃ m,xs.length-k=m+1:=⟨xs.length-k-1,by omega⟩;rw [hm,show xs.length-(k+1)=m from by omega];subst h1;rw [List.set_append_right _ _ (Nat.le_refl _),List.set_append_right _ _ (by omega)];simp [List.replicate_succ]
  rw [e] at this;exact this
 ·rw [aO,h1,ay xs k hk,<- hx,Nat.add_mul,<- h5,Nat.pow_succ,Nat.mul_add,Nat.mul_assoc (4294967296^k) x];have:=fz (4294967296^k) (x*2^s);omega
theorem CE (x s:Nat) (hx:x<4294967296) (hs:s<32):IntKind.u64.wrap ((x:Int)*2^s) / 4294967296 % 4294967296=((x*2^s / 4294967296:Nat):Int):=by
 have h:=(ki x s hx hs).2;rw [(ki x s hx hs).1];omega
theorem uQ (va:Value) (xs:List Nat) (s:Nat) (w:World) (ha:Ws w va xs) (hs:s<32) (hl:xs.length<=10000000000000) :
  Calls Tryz.prog 191 #[va,.int .i64 (s:Nat)] w fun e w'=>∃ us,e=.returned (.slice (some ⟨w.heap.size,0,none⟩) (xs.length+1) (xs.length+1))/\us.length=xs.length+1/\Sm us/\ch w' w.heap.size us/\ak us=ak xs*2^s/\w.grownBy w' none:=by
 obtain ⟨ao,ca,rfl,hca,hca',Ha⟩:=ha.open;unfold maxLen at hca';have HA:=ab Ha;have SA:=ab ha.sm;clear Ha ha;go_enter Tryz.func191,Tryz.ntmps191
 go_wp2_with (at_make;refine aD _ rfl _ _ 89 rfl Tryz.underlying89 Tryz.info32 _ _ _ _ (xs.length+1) rfl rfl (by omega) (by omega) (by omega) ?_)
 intro w1 harr hgr;have HR:=ab harr;have HG:=ab hgr;clear harr hgr;go_wp2;go_loopw [15] (fun i wr=>∃ k c:Nat,k<=xs.length/\i=.int .i64 k/\Hid (c<2^s)/\Hid (jN w wr xs s k c)) (fun i _=>xs.length-(intOf i).toNat)
 case atStart=>exact ⟨0,0,Nat.zero_le _,rfl,Nat.two_pow_pos s,[],rfl,Sm.nil,by
  have:=HR.out;rw [List.replicate_succ] at this;exact this,HG.out,by simp [ak]⟩
 case round =>
  obtain ⟨k,c,hk,rfl,HC,HI⟩:=hrel;by_cases hlt:k<xs.length
  ·obtain ⟨b,off,rfl,hbl,hcell⟩:=aG HA k hlt;have hx:=(aG SA).get k hlt;obtain ⟨x,ex⟩:∃ x,x=xs[k]:=⟨_,rfl⟩;rw [<- ex] at hcell hx;have EX:=ab ex;clear ex;obtain ⟨done,h1,h2,h3,h4,h5⟩:=HI.out;have hcx:wr.cell? ⟨b,off+k,none⟩=some (.int .u32 (x:Nat)):=h4.cell hcell (by simp);have hf1:wr.frozen? ⟨w.heap.size,k,none⟩=false:=h3.free k;have hf2:wr.frozen? ⟨w.heap.size,k+1,none⟩=false:=h3.free (k+1);have hc1:wr.cell? ⟨w.heap.size,k,none⟩=some (.int .u32 (c:Nat)):=by
    rw [h3.cell k (by simp [h1])];simp [h1]
   have hc2:wr.cell? ⟨w.heap.size,k+1,none⟩=some (.int .u32 ((0:Nat):Int)):=by
    rw [h3.cell (k+1) (by simp [h1];omega)];obtain ⟨m,hm⟩:∃ m,xs.length-k=m+1:=⟨xs.length-k-1,by omega⟩;simp [h1,hm,List.replicate_succ]
   clear h1 h2 h3 h4 h5 hcell;go_wp2;go_roundw
   case rel=>exact ⟨k+1,x*2^s / 4294967296,by omega,by go_num,BW x s hx,jN.step HI.out hlt hs HC.out x EX.out _ _ (xY c x s hx hs HC.out) (CE x s hx hs)⟩
   case measure=>simp [intOf];omega
  ·obtain rfl:k=xs.length:=by omega
   go_wp2;go_ret;obtain ⟨done,h1,h2,h3,h4,h5⟩:=HI.out;rw [Nat.sub_self,List.replicate_zero] at h3;have hc:=HC.out;have h1s:2^s<=2^31:=Nat.pow_le_pow_right (by decide) (by omega);refine ⟨done++[c],rfl,by simp [h1],h2.append (Sm.cons (by omega) Sm.nil),h3,?_,h4⟩;rw [aO,h1,h5,List.take_of_length_le (Nat.le_refl _)]
def yx (xs:List Nat) (s:Nat):List Nat:=(List.range xs.length).map fun i=>(xs.getD i 0+4294967296*xs.getD (i+1) 0) / 2^s % 4294967296
theorem eJ (xs:List Nat) (s:Nat):(yx xs s).length=xs.length:=by simp [yx]
theorem yy (xs:List Nat) (s i:Nat) (h:i<(yx xs s).length):(yx xs s)[i]=(xs.getD i 0+4294967296*xs.getD (i+1) 0) / 2^s % 4294967296:=by simp [yx]
theorem CO (xs:List Nat) (s:Nat):Sm (yx xs s):=fun x hx=>by
 simp only [yx,List.mem_map] at hx;obtain ⟨i,_,rfl⟩:=hx;exact Nat.mod_lt _ (by decide)
theorem CP (xs:List Nat) (s:Nat) (h:Sm xs) (hs:s<32) (k:Nat) (hk:k<=xs.length):ak ((yx xs s).take k)=ak xs / 2^s % 4294967296^k:=by
 induction k with
 | zero=>simp [ak,Nat.mod_one]
 | succ k ih =>
  have hk':k<xs.length:=by omega
  rw [ay _ k (by rw [eJ];exact hk'),ih (by omega),yy];have e:=pJ xs s k h hs hk';have e1:xs.getD k 0=xs[k]:=by simp [hk']
  rw [e1,<- e,Nat.pow_succ,Nat.mod_mul]
theorem rsh_val (xs:List Nat) (s:Nat) (h:Sm xs) (hs:s<32):ak (yx xs s)=ak xs / 2^s:=by
 have h1:=CP xs s h hs xs.length (Nat.le_refl _);rw [List.take_of_length_le (by rw [eJ];exact Nat.le_refl _)] at h1;have h2:=bD h;have h3:=Nat.div_le_self (ak xs) (2^s);rw [h1,Nat.mod_eq_of_lt (by omega)]
def oG (w wr:World) (xs:List Nat) (s k:Nat):Prop:=ch wr w.heap.size (List.replicate k 0++(yx xs s).drop k)/\w.grownBy wr none
theorem oG.step {w wr:World} {xs:List Nat} {s j:Nat} (h:oG w wr xs s (j+1)) (hj:j<xs.length) (x y:Nat) (hx:x=xs[j]) (hy:y=xs.getD (j+1) 0) (z:Int) (hz:z=(((y*4294967296+x) / 2^s % 4294967296:Nat):Int)) :
  oG w (wr.setCell ⟨w.heap.size,j,none⟩ (.int .u32 z)) xs s j:=by
 obtain ⟨h1,h2⟩:=h;refine ⟨?_,ai h2 _ _ (Nat.le_refl _)⟩;have:=h1.set j ((y*4294967296+x) / 2^s % 4294967296);rw [hz];have e:(List.replicate (j+1) 0++(yx xs s).drop (j+1)).set j ((y*4294967296+x) / 2^s % 4294967296)=List.replicate j 0++(yx xs s).drop j:=by
  rw [<- List.replicate_append_replicate (n:=j) (m:=1),List.append_assoc,List.set_append_right _ _ (by simp),List.drop_eq_getElem_cons (i:=j) (by rw [eJ];exact hj),yy];have e1:xs.getD j 0=x:=by rw [hx];simp [hj]
  rw [e1,<- hy,Nat.mul_comm y,Nat.add_comm (4294967296*y)];simp
 rw [e] at this;exact this
theorem zP (va:Value) (xs:List Nat) (s:Nat) (w:World) (ha:Ws w va xs) (hs:s<32) (hl:xs.length<=10000000000000) :
  Calls Tryz.prog 195 #[va,.int .i64 (s:Nat)] w fun e w'=>∃ v',e=.returned v'/\gN w' w.heap.size v' (ak xs / 2^s) xs.length/\w.grownBy w' none:=by
 obtain ⟨ao,ca,rfl,hca,hca',Ha⟩:=ha.open;unfold maxLen at hca';have HA:=ab Ha;have SA:=ab ha.sm;clear Ha ha;go_enter Tryz.func195,Tryz.ntmps195
 go_wp2_with (at_make;refine aD _ rfl _ _ 89 rfl Tryz.underlying89 Tryz.info32 _ _ _ _ xs.length rfl rfl (by omega) (by omega) (by omega) ?_)
 intro w1 harr hgr;have HR:=ab harr;have HG:=ab hgr;clear harr hgr;go_wp2;go_loopw [6,7] (fun av iv wr=>∃ (z:Int) (y:Nat),-1<=z/\z<xs.length/\y<4294967296/\iv=.int .i64 z/\av=.int .u64 y/\Hid (y=xs.getD (z+1).toNat 0)/\Hid (oG w wr xs s (z+1).toNat)) (fun _ iv _=>(intOf iv+1).toNat)
 case atStart =>
  have e:((xs.length:Int)-1+1).toNat=xs.length:=by omega
  refine ⟨(xs.length:Int)-1,0,by omega,by omega,by omega,rfl,rfl,?_,?_,HG.out⟩
  ·show 0=_
   rw [e];simp [List.getD]
  ·rw [e,List.drop_of_length_le (by rw [eJ];exact Nat.le_refl _),List.append_nil];exact HR.out
 case round =>
  obtain ⟨z,y,hz1,hz2,hy,rfl,rfl,EY,HI⟩:=hrel;by_cases h0:z<0
  ·go_wp2_with fail;obtain ⟨h3,h4⟩:=HI.out;rw [show (z+1).toNat=0 from by omega] at h3;simp only [List.replicate_zero,List.nil_append,List.drop_zero] at h3;have hw:=h3.own (base:=w.heap.size) (Nat.le_refl _) (by rw [eJ];unfold maxLen;omega);rw [eJ] at hw;clear h3;refine (kB _ (yx xs s) _ w.heap.size hw (CO xs s)).mono ?_;rintro e w2 ⟨v',rfl,rfl,k1,k2⟩;have K1:=ab k1;have K2:=ab k2;have H4:=ab h4;clear hw k1 k2 h4 HI EY;go_wp2;go_ret;refine ⟨v',rfl,⟨_,K1.out,(CO xs s).trimL,Tr.trimL _,?_,?_⟩,H4.out⟩
   ·rw [eN,rsh_val xs s SA.out hs]
   ·have:=aY (yx xs s);rw [eJ] at this;exact this
  ·obtain ⟨j,rfl⟩:∃ j:Nat,z=j:=⟨z.toNat,by omega⟩;have hjx:j<xs.length:=by omega
   have ej:((j:Int)+1).toNat=j+1:=by omega
   obtain ⟨b,off,rfl,hbl,hcell⟩:=aG HA j hjx;have hx:=(aG SA).get j hjx;obtain ⟨x,ex⟩:∃ x,x=xs[j]:=⟨_,rfl⟩;rw [<- ex] at hcell hx;have EX:=ab ex;have HI':=HI.out;have EY':=EY.out;rw [ej] at HI' EY';have hcx:wr.cell? ⟨b,off+j,none⟩=some (.int .u32 (x:Nat)):=HI'.2.cell hcell (by simp);have hfr:wr.frozen? ⟨w.heap.size,j,none⟩=false:=HI'.1.free j;obtain ⟨v0,hco⟩:∃ v,wr.cell? ⟨w.heap.size,j,none⟩=some v:=⟨_,HI'.1.cell j (by simp;omega)⟩;obtain ⟨m,hm⟩:∃ m,m=y*4294967296+x:=⟨_,rfl⟩;have hor:=jq y x hy hx;rw [<- hm] at hor;have hmb:m<18446744073709551616:=by omega
   have HM:=ab hm;have HJ:=ab HI';have EY2:=ab EY';have hcx2:∀ v,(wr.setCell ⟨w.heap.size,j,none⟩ v).cell? ⟨b,off+j,none⟩=some (.int .u32 (x:Nat)):=by
    intro v;rw [World.cell?_of_block (w:=wr) (a:=⟨b,off+j,none⟩) (heap_setCell_other _ _ _ _ (by show b≠w.heap.size;omega))];exact hcx
   clear hcell ex HI HI' EY EY' hm ej;go_wp2;go_roundw
   case rel =>
    refine ⟨(j:Int)-1,x,by omega,by omega,hx,rfl,rfl,?_,?_⟩
    ·show x=_
     rw [show ((j:Int)-1+1).toNat=j from by omega,EX.out];simp [hjx]
    ·rw [show ((j:Int)-1+1).toNat=j from by omega];refine oG.step HJ.out hjx x y EX.out EY2.out _ ?_;rw [mh,<- HM.out];omega
   case measure=>simp [intOf]
def lL (w wr:World) (xs ys:List Nat) (i:Nat):Prop :=
 ∃ done:List Nat,done.length=i+ys.length/\Sm done/\ch wr w.heap.size (done++List.replicate (xs.length-i) 0)/\w.grownBy wr none/\ak done=ak (xs.take i)*ak ys
def lh (w wr:World) (xs ys:List Nat) (i j x c:Nat):Prop :=
 ∃ done mid:List Nat,done.length=i+ys.length/\mid.length=j/\Sm done/\Sm mid/\ch wr w.heap.size (done.take i++mid++done.drop (i+j)++List.replicate (xs.length-i) 0)/\w.grownBy wr none /\
  ak done=ak (xs.take i)*ak ys/\ak mid+4294967296^j*c=ak ((done.drop i).take j)+x*ak (ys.take j)
theorem lL.inn {w wr:World} {xs ys:List Nat} {i:Nat} (h:lL w wr xs ys i) (x:Nat):lh w wr xs ys i 0 x 0:=by
 obtain ⟨done,h1,h2,h3,h4,h5⟩:=h;refine ⟨done,[],h1,rfl,h2,Sm.nil,?_,h4,h5,by simp [ak]⟩;rw [List.append_nil,Nat.add_zero,List.take_append_drop];exact h3
theorem lh.at {w wr:World} {xs ys:List Nat} {i j x c:Nat} (h:lh w wr xs ys i j x c) (hj:j<ys.length) :
  ∃ r,r<4294967296/\wr.cell? ⟨w.heap.size,i+j,none⟩=some (.int .u32 (r:Nat))/\wr.frozen? ⟨w.heap.size,i+j,none⟩=false /\
   ∀ (y:Nat) (z:Int),y=ys[j]->z=(((c+(x*y+r)) % 4294967296:Nat):Int)->lh w (wr.setCell ⟨w.heap.size,i+j,none⟩ (.int .u32 z)) xs ys i (j+1) x ((c+(x*y+r)) / 4294967296):=by
 obtain ⟨done,mid,h1,h1',h2,h2',h3,h4,h5,h6⟩:=h;have hd:i+j<done.length:=by omega
 have e:done.drop (i+j)=done[i+j] :: done.drop (i+j+1):=List.drop_eq_getElem_cons hd;have hli:(done.take i).length=i:=by rw [List.length_take];omega
 have hget:(done.take i++mid++done.drop (i+j)++List.replicate (xs.length-i) 0)[i+j]? = some done[i+j]:=by
  rw [List.append_assoc,List.getElem?_append_right (by simp [hli,h1']),e];have e3:i+j-(done.take i++mid).length=0:=by simp [hli,h1']
  rw [e3];rfl
 have hlt:i+j<(done.take i++mid++done.drop (i+j)++List.replicate (xs.length-i) 0).length:=(List.getElem?_eq_some_iff.1 hget).1;refine ⟨done[i+j],h2.get _ hd,?_,h3.free _,?_⟩
 ·rw [h3.cell (i+j) hlt,(List.getElem?_eq_some_iff.1 hget).2]
 ·intro y z hy hz;refine ⟨done,mid++[(c+(x*y+done[i+j])) % 4294967296],h1,by simp [h1'],h2,h2'.snoc _,?_,ai h4 _ _ (Nat.le_refl _),h5,?_⟩
  ·have:=h3.set (i+j) ((c+(x*y+done[i+j])) % 4294967296);rw [hz];have e2:(done.take i++mid++done.drop (i+j)++List.replicate (xs.length-i) 0).set (i+j) ((c+(x*y+done[i+j])) % 4294967296)
     = done.take i++(mid++[(c+(x*y+done[i+j])) % 4294967296])++done.drop (i+(j+1))++List.replicate (xs.length-i) 0:=by
    rw [e,List.append_assoc,List.set_append_right _ _ (by simp [hli,h1'])];have e3:i+j-(done.take i++mid).length=0:=by simp [hli,h1']
    rw [e3];simp [Nat.add_assoc]
   rw [e2] at this;exact this
  ·rw [aO,h1',Nat.pow_succ,Nat.add_assoc,fz,Nat.mul_add,<- Nat.add_assoc,h6,ay ys j hj,<- hy,
    ay (done.drop i) j (by rw [List.length_drop];omega),List.getElem_drop,Nat.mul_add (4294967296^j),Nat.mul_add x]
   rw [show x*(4294967296^j*y)=4294967296^j*(x*y) from by rw [Nat.mul_left_comm]];omega
theorem lh.out {w wr:World} {xs ys:List Nat} {i x c:Nat} (h:lh w wr xs ys i ys.length x c) (hi:i<xs.length) (hx:x=xs[i]) (hc:c<4294967296) (z:Int) (hz:z=(c:Int)) :
  wr.frozen? ⟨w.heap.size,i+ys.length,none⟩=false/\(∃ v,wr.cell? ⟨w.heap.size,i+ys.length,none⟩=some v) /\
  lL w (wr.setCell ⟨w.heap.size,i+ys.length,none⟩ (.int .u32 z)) xs ys (i+1):=by
 obtain ⟨done,mid,h1,h1',h2,h2',h3,h4,h5,h6⟩:=h;have hli:(done.take i).length=i:=by rw [List.length_take];omega
 have e0:done.drop (i+ys.length)=[]:=List.drop_of_length_le (by omega);rw [e0,List.append_nil] at h3;have hl:(done.take i++mid).length=i+ys.length:=by simp [hli,h1']
 refine ⟨h3.free _,⟨_,h3.cell (i+ys.length) (by simp [hli,h1'];omega)⟩,?_⟩;have:=h3.set (i+ys.length) c;rw [dR _ _ _ _ hl (by omega)] at this;rw [hz];refine ⟨done.take i++mid++[c],by simp [hli,h1'];omega,((h2.take _).append h2').append (Sm.cons hc Sm.nil),?_,ai h4 _ _ (Nat.le_refl _),?_⟩
 ·rw [show xs.length-(i+1)=xs.length-i-1 from by omega];exact this
 ·rw [aO,hl,bN,hli,Nat.pow_add,Nat.mul_assoc,Nat.add_assoc,<- Nat.mul_add,h6,show (done.drop i).take ys.length=done.drop i from List.take_of_length_le (by rw [List.length_drop];omega),show ys.take ys.length=ys from List.take_of_length_le (Nat.le_refl _),
   ay xs i hi,<- hx,Nat.add_mul,<- h5,Nat.mul_add,<- Nat.add_assoc]
  have e1:ak done=ak (done.take i)+4294967296^i*ak (done.drop i):=by
   have:=bN (done.take i) (done.drop i);rw [List.take_append_drop,hli] at this;exact this
  rw [e1,Nat.mul_assoc]
theorem sS (va vb:Value) (xs ys:List Nat) (w:World) (ha:Ws w va xs) (hb:Ws w vb ys) (hl:xs.length+ys.length<=10000000000000) :
  Calls Tryz.prog 138 #[va,vb] w fun e w'=>∃ v',e=.returned v'/\gN w' w.heap.size v' (ak xs*ak ys) (xs.length+ys.length)/\w.grownBy w' none:=by
 obtain ⟨ao,ca,rfl,hca,hca',Ha⟩:=ha.open;obtain ⟨bo,cb,rfl,hcb,hcb',Hb⟩:=hb.open;unfold maxLen at hca' hcb';have HA:=ab Ha;have HB:=ab Hb;have SA:=ab ha.sm;have SB:=ab hb.sm;clear Ha Hb ha hb;go_enter Tryz.func138,Tryz.ntmps138
 go_wp2_with (at_make;refine aD _ rfl _ _ 89 rfl Tryz.underlying89 Tryz.info32 _ _ _ _ (xs.length+ys.length) rfl rfl (by omega) (by omega) (by omega) ?_)
 intro w1 harr hgr;have HR:=ab harr;have HG:=ab hgr;clear harr hgr;go_wp2;go_loopw [19] (fun i wr=>∃ k:Nat,k<=xs.length/\i=.int .i64 k/\Hid (lL w wr xs ys k)) (fun i _=>xs.length-(intOf i).toNat)
 case atStart=>exact ⟨0,Nat.zero_le _,rfl,List.replicate ys.length 0,by simp,Sm.replicate _,by
  have:=HR.out;rw [Nat.add_comm,<- List.replicate_append_replicate] at this;exact this,HG.out,by simp [ak,iK]⟩
 case round =>
  obtain ⟨i,hk,rfl,HI⟩:=hrel;by_cases hlt:i<xs.length
  ·obtain ⟨b,off,rfl,hbl,hcell⟩:=aG HA i hlt;have hx:=(aG SA).get i hlt;obtain ⟨x,ex⟩:∃ x,x=xs[i]:=⟨_,rfl⟩;rw [<- ex] at hcell hx;have EX:=ab ex;have HC:=ab hcell;have hcx0:wr.cell? ⟨b,off+i,none⟩=some (.int .u32 (x:Nat)):=by
    obtain ⟨_,_,_,_,h4,_⟩:=HI.out;exact h4.cell hcell (by simp)
   clear ex hcell;go_wp2;clear hcx0;go_loopw [8,26] (fun cv jv wr=>∃ j c:Nat,j<=ys.length/\c<4294967296/\jv=.int .i64 j/\cv=.int .u64 c/\Hid (lh w wr xs ys i j x c)) (fun _ jv _=>ys.length-(intOf jv).toNat)
   case atStart=>exact ⟨0,0,Nat.zero_le _,by omega,rfl,rfl,lL.inn HI.out x⟩
   case round =>
    clear HI;obtain ⟨j,c,hj,hc,rfl,rfl,HJ⟩:=hrel;have hg:w.grownBy wr none:=by
     obtain ⟨_,_,_,_,_,_,_,h4,_,_⟩:=HJ.out;exact h4
    by_cases hlt2:j<ys.length
    ·obtain ⟨b2,off2,rfl,hbl2,hcell2⟩:=aG HB j hlt2;have hy:=(aG SB).get j hlt2;obtain ⟨y,ey⟩:∃ y,y=ys[j]:=⟨_,rfl⟩;rw [<- ey] at hcell2 hy;have hcy:wr.cell? ⟨b2,off2+j,none⟩=some (.int .u32 (y:Nat)):=hg.cell hcell2 (by simp);have hcx:wr.cell? ⟨b,off+i,none⟩=some (.int .u32 (x:Nat)):=hg.cell HC.out (by simp);obtain ⟨r,hr,hcr,hfr,hstep⟩:=HJ.out.at hlt2;have HS:=ab (hstep y);have EY:=ab ey;have hp:(x:Int)*(y:Int)<=18446744065119617025:=lC x y hx hy;have hp0:0<=(x:Int)*(y:Int):=Int.mul_nonneg (by omega) (by omega);clear hcell2 hstep ey hg;go_wp2;go_roundw
     case rel=>exact ⟨j+1,(c+(x*y+r)) / 4294967296,by omega,tz x y c r hx hy hc hr,by go_num,by rw [oN],HS.out _ EY.out (by rw [ns])⟩
     case measure=>simp [intOf];omega
    ·obtain rfl:j=ys.length:=by omega
     obtain ⟨hfr,⟨v0,hco⟩,hout⟩:=HJ.out.out hlt EX.out hc _ rfl;have HO:=ab hout;clear hout;go_wp2;go_roundw
     case rel=>exact ⟨i+1,by omega,by go_num,HO.out⟩
     case measure=>simp [intOf];omega
  ·obtain rfl:i=xs.length:=by omega
   go_wp2_with fail;obtain ⟨done,h1,h2,h3,h4,h5⟩:=HI.out;rw [Nat.sub_self,List.replicate_zero,List.append_nil] at h3;have hw:=h3.own (base:=w.heap.size) (Nat.le_refl _) (by rw [h1];unfold maxLen;omega);have H1:=ab h1;have H2:=ab h2;have H3:=ab h5;rw [h1] at hw;clear h1 h5 h3 h2;refine (kB _ done _ w.heap.size hw H2.out).mono ?_;rintro e w2 ⟨v',rfl,rfl,k1,k2⟩;clear hw;go_wp2;go_ret;refine ⟨v',rfl,⟨_,k1,H2.out.trimL,Tr.trimL _,?_,?_⟩,h4⟩
   ·rw [eN,H3.out,List.take_of_length_le (Nat.le_refl _)]
   ·have:=aY done;rw [H1.out] at this;exact this
theorem AE (va vb:Value) (m n L M:Nat) (w:World) (ha:aU w va m L) (hb:aU w vb n M) (hl:L+M<=10000000000000) :
  Calls Tryz.prog 138 #[va,vb] w fun e w'=>∃ v',e=.returned v'/\gN w' w.heap.size v' (m*n) (L+M)/\w.grownBy w' none:=by
 obtain ⟨xs,x1,x2,x3,x4⟩:=ha;obtain ⟨ys,y1,y2,y3,y4⟩:=hb;refine (sS va vb xs ys w x1 y1 (by omega)).mono ?_;rintro e w' ⟨v',rfl,k1,k2⟩;rw [x3,y3] at k1;exact ⟨v',rfl,k1.mono (by omega),k2⟩
theorem gJ (va vb:Value) (m n L M:Nat) (w:World) (ha:aU w va m L) (hb:aU w vb n M) (hl:L+M<=10000000000000) :
  Calls Tryz.prog 138 #[va,vb] w fun e w'=>∃ v',e=.returned v'/\aU w' v' (m*n) (L+M)/\w.grownBy w' none/\bA w v':=by
 refine (AE va vb m n L M w ha hb hl).mono ?_;rintro e w' ⟨v',rfl,k1,k2⟩;exact ⟨v',rfl,k1.num,k2,fun k hk=>(k1.fresh k hk).1⟩
end Go.Proofs.YthblidglcppakaaGreatDoor
