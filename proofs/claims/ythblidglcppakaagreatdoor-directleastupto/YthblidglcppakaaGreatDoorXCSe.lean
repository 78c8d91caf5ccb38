/- Contracts that the proof leans on. -/
import Derived.Test.YthblidglcppakaaGreatDoorXCSb
import Derived.Test.YthblidglcppakaaGreatDoorXCNa
import Derived.Test.YthblidglcppakaaGreatDoorXCFd
import Derived.Test.YthblidglcppakaaGreatDoorXCSc
namespace Go.Proofs.YthblidglcppakaaGreatDoor
open Go.RowKit
set_option linter.unusedVariables false
set_option linter.unusedSimpArgs false
set_option maxHeartbeats 8000000
set_option maxRecDepth 10000
abbrev sv (s:ByteArray):Value:=.string s
theorem Tryz.infoQ:(Tryz.prog.info? 32).map (fun i=>(i.zero,i.size,i.bytes))=some (some (sv ⟨#[]⟩),1,16):=by kernel_rfl
def cG (R:Nat->Rat) (i:Nat):List ByteArray:=(List.range i).map fun j=>⟨(cP (R j)).toArray⟩
theorem dt (R:Nat->Rat) (i:Nat):(cG R i).length=i:=by simp [cG]
theorem vE (R:Nat->Rat) (i:Nat):cG R (i+1)=cG R i++[⟨(cP (R i)).toArray⟩]:=by simp [cG,List.range_succ]
def TelR (W:World) (n:Nat) (R:Nat->Rat) (ov v:Value) (wr:World):Prop :=
 ∃ i:Nat,i<=n/\v=.int .i64 i/\cL sv 32 wr W.heap.size ov (cG R i)/\W.grownBy wr none
def AP (w:World) (n:Nat) (R:Nat->Rat) (e:Ending) (w':World):Prop:=∃ v,e=.returned v/\cL sv 32 w' w.heap.size v (cG R n)/\w.grownBy w' none
theorem tell_at (g n c:Nat) (R:Nat->Rat) (L:Nat) (w:World) (hr:aH w g n R L) (hn:n<=3000) (hc:n<=c) (hm:c<=maxLen) (hL:L<=100000000) (ht:eY w) :
  Calls Tryz.prog 21 #[.slice (some ⟨g,0,none⟩) n c] w fun e w'=>AP w n R e w':=by
 unfold maxLen at hm;have HR:=ab hr;have HT:=ab ht;clear hr ht;go_enter Tryz.func21,Tryz.ntmps21
 go_wp2;go_loopw [3,8] (fun ov v wr=>Hid (TelR w n R ov v wr)) (fun _ v _=>n-(intOf v).toNat)
 case atStart=>exact ⟨0,by omega,rfl,iU,ae _ _⟩
 case round =>
  obtain ⟨i,hi,rfl,l1,l2⟩:=hrel.out;obtain ⟨oa,oc,rfl⟩:=l1.shape;have L1:=ab l1;have L2:=ab l2;clear l1 l2 hrel;by_cases hlt:i<n
  ·obtain ⟨uo,ul,uc,do_,dl,dc,c0,c1,c2,c3,_⟩:=(HR.out.keep0 L2.out).at i hlt;have C3:=ab c3;clear c3;go_upto_region 5 with fail;obtain ⟨w2,hw2⟩:∃ w2,w2=wr.alloc (Obj.cells #[.bool (rB (R i)),.slice uo ul uc,.slice do_ dl dc] 91):=⟨_,rfl⟩;have G2:Hid (wr.grownBy w2 none):=by rw [hw2];exact ag (ae _ _) _
   have XC:Hid (w2.cell? ⟨wr.heap.size,0,none⟩=some (.bool (rB (R i)))/\w2.cell? ⟨wr.heap.size,1,none⟩=some (.slice uo ul uc)/\w2.cell? ⟨wr.heap.size,2,none⟩=some (.slice do_ dl dc)):=by
    have hg:(wr.alloc (Obj.cells #[.bool (rB (R i)),.slice uo ul uc,.slice do_ dl dc] 91)).grownBy w2 none:=by rw [<- hw2];exact ae _ _
    exact aJ hg
   rw [<- hw2];clear hw2 c0 c1 c2;obtain ⟨x0,x1,x2⟩:=XC.out;go_wp2_with fail;refine (Bx _ (R i) L _ (C3.out.keep0 G2.out) (by omega) (HT.out.keep0 (aa L2.out G2.out))).mono ?_;rintro e w3 ⟨rfl,g3⟩;have G3:=ab (aa G2.out g3);clear g3 x0 x1 x2;have hsz:w.heap.size<=w3.heap.size:=Nat.le_trans L2.out.size G3.out.size;go_wp2_with (at_builtin;refine dZ sv 32 (sv ⟨#[]⟩) 16 _ rfl _ _ 25 rfl w.heap.size Tryz.underlying25 Tryz.infoQ rfl _ (cG R i) rfl (L1.out.keep0 (ag G3.out _)) w3.heap.size ⟨(cP (R i)).toArray⟩ rfl (by go_simp) rfl (by rw [dt];omega) (by omega) (by simp;omega) ?_)
   intro ao cap w5 hown hgr;have HO:Hid (cL sv 32 w5 w.heap.size (.slice ao ((cG R i).length+1) cap) (cG R (i+1))):=by rw [vE];exact hown
   have HG:Hid (w.grownBy w5 none):=by
    refine aq (r:=none) (aa L2.out (ag G3.out _)) hgr (fun _ _ e=>e) (fun b hb e=>?_);have:=(L1.out.fresh b e.symm).1;omega
   clear hown hgr;go_wp2;go_roundw
   case rel=>exact ⟨i+1,by omega,by go_num,HO.out,HG.out⟩
   case measure=>simp [intOf];omega
  ·obtain rfl:i=n:=by omega
   go_wp2;go_ret;exact ⟨_,rfl,L1.out,L2.out⟩
def eP (w:World) (base:Nat) (v:Value) (ps:List aI):Prop:=w.ownsRow base 34 6 v ps.length (bh ps)
theorem eP.parts {w:World} {base:Nat} {v:Value} {ps:List aI} (h:eP w base v ps) (hz:∀ p∈ps,p.v.size<=600000000):aK w v ps:=by
 rcases h.2 with ⟨rfl,h0⟩ | ⟨g,cap,cur,rfl,hb,hh,h1,h2,h3,h4⟩
 ·have:ps=[]:=List.eq_nil_of_length_eq_zero h0;subst this;exact ⟨none,0,rfl,Nat.le_refl _,by unfold maxLen;omega,fun i hi=>by simp at hi⟩
 ·refine j9 (Array.getElem?_eq_some_iff.1 hh).1 rfl h1 h2 (fun i hi=>hz _ (List.getElem_mem hi)) (fun j hj=>?_);simp only [World.cell?,hh];rw [<- h4,List.getElem?_take,if_pos hj,Array.getElem?_toList];rfl
theorem Tryz.infoPart:(Tryz.prog.info? 34).map (fun i=>(i.zero,i.size,i.bytes))=some (some (.agg #[.int .i64 0,.int .i64 0,.int .i64 0,.int .i64 0,.int .i64 0,.string ⟨#[]⟩]),6,56):=by kernel_rfl
theorem qE (po:Option Addr) (pc:Nat) (ps:List aI) (w:World) (h:aK w (.slice po ps.length pc) ps) (hn:ps.length<=3000) :
  Calls Tryz.prog 80 #[.slice po ps.length pc] w fun e w'=>∃ v,e=.returned v/\eP w' w.heap.size v ps/\w.grownBy w' none:=by
 obtain ⟨i0,hi,hz0,hz1,hz2⟩:=info_parts Tryz.infoPart;have HP:=ab h;cases po with
 | none =>
  have h0:ps.length=0:=by
   obtain ⟨ao,cap,e,h1,h2,h3⟩:=h;simp only [Value.slice.injEq,true_and] at e;obtain ⟨rfl,rfl⟩:=e;rcases Nat.eq_zero_or_pos ps.length with h0 | h0
   ·exact h0
   ·obtain ⟨b,off,e,_⟩:=h3 0 h0;cases e
  have H0:=ab h0;have hp0:ps=[]:=List.eq_nil_of_length_eq_zero h0;subst hp0;clear h0;have hq:∀ W,(binOp .eql 22 (.slice none 0 pc) (.slice none 0 0)).run Tryz.prog W=.ok (.bool true) W:=fun W=>Lib.run_eql_slice_nil W _ _ none _ _ 0 0 Tryz.underlying22
  clear h;go_enter Tryz.func80,Tryz.ntmps80
  go_wp2;go_ret;exact ⟨_,rfl,World.ownsRow_nil _ _ _ _,ae _ _⟩
 | some ad =>
  have HC:=ab h.cells;obtain ⟨ao,cap,e,h1,h2,_⟩:=id h;simp only [Value.slice.injEq,true_and] at e;obtain ⟨rfl,rfl⟩:=e;unfold maxLen at h2;have hq:∀ W,(binOp .eql 22 (.slice (some ad) ps.length pc) (.slice none 0 0)).run Tryz.prog W=.ok (.bool false) W:=fun W=>Lib.run_eql_slice_nil W _ _ (some _) _ _ 0 0 Tryz.underlying22
  clear h;go_enter Tryz.func80,Tryz.ntmps80
  go_wp2_with (at_builtin;refine wpList_append_own _ rfl _ _ 22 rfl w.heap.size 34 i0 _ 6 56 Tryz.underlying22 hi hz0 hz1 hz2 rfl (by decide) _ 0 [] rfl ?c0 ad ps.length pc (bh ps) rfl ?c1 ?c2 ?c3 ?c4 ?c5 ?c6 ?_)
  case c0=>exact World.ownsRow_made w #[] 0 (Nat.le_refl _) (by unfold maxLen;omega) (by simp)
  case c1=>exact dG ps
  case c2 =>
   intro j u hj;exact (World.grownBy_alloc w (Obj.cells #[] 34) none).cell (HC.out j u hj) (by simp)
  case c3=>exact jV ps
  case c4=>unfold maxLen;omega
  case c5=>omega
  case c6=>simp
  intro v' w1 hown hgr hnn;have HG:Hid (w.grownBy w1 none):=aq (r1:=none) (World.grownBy_alloc w _ none) hgr (fun _ _ e=>e) (fun b hb e=>by simp [Value.ownBlock] at e;omega);have HO:Hid (eP w1 w.heap.size v' ps):=by
   unfold eP;first | exact hown | (rw [Nat.zero_add,List.nil_append] at hown;exact hown)
  obtain ⟨ao2,c2,rfl⟩:∃ ao2 c2,v'=.slice ao2 ps.length c2:=by
   rcases HO.out.2 with ⟨e,h0⟩ | ⟨g,cap',cur,e,_⟩
   ·exact ⟨none,0,by rw [e,h0]⟩
   ·exact ⟨_,cap',e⟩
  clear hown hgr hnn;go_wp2;go_ret;exact ⟨_,rfl,HO.out,HG.out⟩
def bw (p:aI):aI:=if p.kind=4∨p.kind=5 then { p with v:=⟨#[48]⟩ } else p
def dE (ps:List aI) (i:Nat):List aI:=ps.mapIdx fun j p=>if j<i then bw p else p
theorem bI (ps:List aI) (i:Nat):(dE ps i).length=ps.length:=by simp [dE]
theorem fT (ps:List aI) (i j:Nat) (h:j<ps.length):(dE ps i)[j]'(by rw [bI];exact h)=if j<i then bw ps[j] else ps[j]:=by simp [dE]
theorem sH (ps:List aI):dE ps 0=ps:=by
 apply List.ext_getElem
 ·rw [bI]
 ·intro j h1 h2;rw [fT ps 0 j h2,if_neg (by omega)]
theorem uP (ps:List aI):dE ps ps.length=ps.map bw:=by
 apply List.ext_getElem
 ·rw [bI,List.length_map]
 ·intro j h1 h2;rw [fT ps _ j (by simpa using h2),if_pos (by simpa using h2),List.getElem_map]
theorem nO (ps:List aI) (i:Nat) (h:i<ps.length):dE ps (i+1)=(dE ps i).set i (bw ps[i]):=by
 apply List.ext_getElem
 ·rw [List.length_set,bI,bI]
 ·intro j h1 h2;have hj:j<ps.length:=by rw [bI] at h1;exact h1
  rw [fT ps (i+1) j hj,List.getElem_set];by_cases e:i=j
  ·subst e;rw [if_pos (by omega),if_pos rfl]
  ·rw [if_neg e,fT ps i j hj];by_cases e2:j<i
   ·rw [if_pos e2,if_pos (by omega)]
   ·rw [if_neg e2,if_neg (by omega)]
theorem tB (qs:List aI) (i:Nat) (h:i<qs.length) (z:ByteArray):(bh qs).set (i*6+5) (.string z)=bh (qs.set i { qs[i] with v:=z }):=by
 apply List.ext_getElem?
 intro j;by_cases hj:j<qs.length*6
 ·have hi6:j / 6<qs.length:=by omega
  have ej:j=j / 6*6+j % 6:=by omega
  have hk:j % 6<6:=by omega
  have r1:=fR (qs.set i { qs[i] with v:=z }) (j / 6) (j % 6) (by rw [List.length_set];exact hi6) hk;have r2:=fR qs (j / 6) (j % 6) hi6 hk;rw [List.getElem_set] at r1;rw [List.getElem?_set];by_cases e:i*6+5=j
  ·have e1:i=j / 6:=by omega
   have e2:j % 6=5:=by omega
   rw [if_pos e,if_pos (by rw [dG];omega)];rw [ej,r1,if_pos e1,e2];rfl
  ·rw [if_neg e];rw [ej,r1,r2];by_cases e1:i=j / 6
   ·rw [if_pos e1];subst e1;have:j % 6<5:=by omega
    generalize j % 6=k at this;match k,this with
    | 0,_=>rfl
    | 1,_=>rfl
    | 2,_=>rfl
    | 3,_=>rfl
    | 4,_=>rfl
   ·rw [if_neg e1]
 ·rw [List.getElem?_eq_none (by rw [List.length_set,dG];omega),List.getElem?_eq_none (by rw [dG,List.length_set];omega)]
theorem own_set {w:World} {base:Nat} {e:TypeId} {size g n cap:Nat} {xs:List Value} (h:w.ownsRow base e size (.slice (some ⟨g,0,none⟩) n cap) n xs) (j:Nat) (hj:j<n*size) (u:Value) :
  (w.setCell ⟨g,j,none⟩ u).ownsRow base e size (.slice (some ⟨g,0,none⟩) n cap) n (xs.set j u):=by
 refine ⟨by rw [List.length_set];exact h.1,?_⟩;rcases h.2 with ⟨e1,_⟩ | ⟨g',cap',cur,e1,hb,hh,h1,h2,h3,h4⟩
 ·simp at e1
 ·simp only [Value.slice.injEq,Option.some.injEq,Addr.mk.injEq,and_true,true_and] at e1;obtain ⟨rfl,rfl⟩:=e1;refine .inr ⟨g,cap,cur.setIfInBounds j u,rfl,hb,heap_setCell_same w g j cur e u hh,h1,h2,by simp [h3],?_⟩;rw [<- h4];apply List.ext_getElem?
  intro i;rw [List.getElem?_take,List.getElem?_set,Array.getElem?_toList,List.getElem?_take];have hlen:j<(List.take (n*size) cur.toList).length:=by rw [h4,h.1];exact hj
  by_cases hi:i<n*size
  ·rw [if_pos hi,if_pos hi];by_cases ej:j=i
   ·subst ej;rw [if_pos rfl,if_pos hlen,Array.getElem?_setIfInBounds_self_of_lt (by simp at hlen;omega)]
   ·rw [if_neg ej,Array.getElem?_setIfInBounds_ne ej,Array.getElem?_toList]
  ·rw [if_neg hi,if_neg hi,if_neg (by omega)]
def bH (ps:List aI) (a b:Int):List aI:=ps.map bw++[⟨5,b,a,0,0,⟨#[49]⟩⟩]
def PushE (w:World) (n:Nat) (ps:List aI) (a b:Int) (e:Ending) (w':World):Prop :=
 ∃ po pc,e=.returned (.agg #[.int .i64 ((n:Nat):Int),.slice po (ps.length+1) pc])/\aK w' (.slice po (ps.length+1) pc) (bH ps a b)/\w.grownBy w' none
theorem xn {ps:List aI} (h:∀ p∈ps,p.v.size<=600000000) (a b:Int):∀ p∈bH ps a b,p.v.size<=600000000:=by
 intro p hp;unfold bH at hp;rcases List.mem_append.1 hp with hp | hp
 ·obtain ⟨q,hq,rfl⟩:=List.mem_map.1 hp;unfold bw;split
  ·show (1:Nat)<=_;decide
  ·exact h q hq
 ·simp only [List.mem_singleton] at hp;subst hp;show (1:Nat)<=_
  decide
theorem aK.sizes {w:World} {v:Value} {ps:List aI} (h:aK w v ps):∀ p∈ps,p.v.size<=600000000:=by
 intro p hp;obtain ⟨i,hi,rfl⟩:=List.mem_iff_getElem.1 hp;obtain ⟨_,_,_,_,_,h3⟩:=h;obtain ⟨_,_,_,_,_,_,_,_,_,_,h4⟩:=h3 i hi;exact h4
def PusR (W:World) (base:Nat) (v:Value) (ps:List aI) (iv:Value) (wr:World):Prop :=
 ∃ i:Nat,i<=ps.length/\iv=.int .i64 i/\eP wr base v (dE ps i)/\W.grownBy wr none
theorem eP.kept {w w':World} {base:Nat} {v:Value} {ps:List aI} {row:Option Nat} (h:eP w base v ps) (hg:w.grownBy w' row) (hne:v.ownBlock=none∨v.ownBlock≠row):eP w' base v ps:=World.ownsRow.kept h hg hne
theorem eP.keep0 {w w':World} {base:Nat} {v:Value} {ps:List aI} (h:eP w base v ps) (hg:w.grownBy w' none):eP w' base v ps:=h.kept hg (by cases hv:v.ownBlock<;>simp)
theorem eP.shape {w:World} {base:Nat} {v:Value} {ps:List aI} (h:eP w base v ps):∃ ao c,v=.slice ao ps.length c/\c<=maxLen:=by
 rcases h.2 with ⟨e,h0⟩ | ⟨g,cap',cur,e,_,_,_,h2,_⟩
 ·exact ⟨none,0,by rw [e,h0],by unfold maxLen;omega⟩
 ·exact ⟨_,cap',e,h2⟩
theorem Am (n:Nat) (po:Option Addr) (pc:Nat) (ps:List aI) (a b:Int) (w:World) (h:aK w (.slice po ps.length pc) ps) (hn:ps.length<=1000) :
  Calls Tryz.prog 43 #[.agg #[.int .i64 ((n:Nat):Int),.slice po ps.length pc],.int .i64 a,.int .i64 b] w fun e w'=>PushE w n ps a b e w':=by
 obtain ⟨i0,hi0,hz0,hz1,hz2⟩:=info_parts Tryz.infoPart;have HP:=ab h;have HSZ:=ab h.sizes;clear h;obtain ⟨W,hW⟩:∃ W,W=(w.alloc (Obj.cells #[.int .i64 ((n:Nat):Int),.slice po ps.length pc] 24)).alloc (Obj.cells #[.int .i64 0,.slice none 0 0] 24):=⟨_,rfl⟩;have GW:Hid (w.grownBy W none):=by rw [hW];exact ag (ag (ae _ _) _) _
 have HWS:Hid (W.heap.size=w.heap.size+2):=by show _=_;rw [hW];simp
 have CX:Hid (∀ wx,W.grownBy wx none->wx.cell? ⟨w.heap.size,0,none⟩=some (.int .i64 ((n:Nat):Int))/\wx.cell? ⟨w.heap.size,1,none⟩=some (.slice po ps.length pc)/\wx.cell? ⟨w.heap.size+1,0,none⟩=some (.int .i64 0)/\wx.cell? ⟨w.heap.size+1,1,none⟩=some (.slice none 0 0)/\wx.frozen? ⟨w.heap.size+1,0,none⟩=false/\wx.frozen? ⟨w.heap.size+1,1,none⟩=false):=by
  intro wx hg;have e:wx.heap[w.heap.size+1]? = some (Obj.cells #[.int .i64 0,.slice none 0 0] 24 (0,0)):=by
   rw [hg.block (w.heap.size+1) (by rw [HWS.out];omega) (by simp),hW];have:=heap_alloc_new (w.alloc (Obj.cells #[.int .i64 ((n:Nat):Int),.slice po ps.length pc] 24)) (Obj.cells #[.int .i64 0,.slice none 0 0] 24);simpa using this
  rw [hW] at hg;exact ⟨hg.cell (by go_simp) (by simp),hg.cell (by go_simp) (by simp),by simp [World.cell?,e],by simp [World.cell?,e],by simp [World.frozen?,e],by simp [World.frozen?,e]⟩
 obtain ⟨s0,s1,s2,s3,s4,s5⟩:=CX.out W (ae _ _);go_enter Tryz.func43,Tryz.ntmps43
 go_upto_region 1 with fail;rw [<- hW];clear hW;go_wp2_with fail;refine (qE po pc ps W (HP.out.keep GW.out) (by omega)).mono ?_;rintro e w1 ⟨v,rfl,o1,g1⟩;obtain ⟨ao,c,rfl,hc⟩:=o1.shape;have O1:=ab o1;have G1:=ab g1;have HC:=ab hc;unfold maxLen at hc;clear o1 g1 s0 s1 s2 s3 s4 s5;go_wp2;go_loopw [15] (fun iv wr=>Hid (PusR W W.heap.size (.slice ao ps.length c) ps iv wr)) (fun iv _=>ps.length-(intOf iv).toNat)
 case atStart=>exact ⟨0,by omega,rfl,by rw [sH];exact O1.out,G1.out⟩
 case round =>
  obtain ⟨i,hi,rfl,l1,l2⟩:=hrel.out;have L1:=ab l1;have L2:=ab l2;clear l1 l2 hrel;by_cases hlt:i<ps.length
  ·obtain ⟨g,rfl,hgb⟩:∃ g,ao=some ⟨g,0,none⟩/\W.heap.size<=g:=by
    rcases L1.out.2 with ⟨e,h0⟩ | ⟨g,cap',cur,e,hb,_⟩
    ·rw [bI] at h0;omega
    ·simp only [Value.slice.injEq] at e;exact ⟨g,e.1,hb⟩
   have hl:(dE ps i).length=ps.length:=bI ps i;obtain ⟨q,hq⟩:∃ q,q=ps[i]:=⟨_,rfl⟩;have hqi:(dE ps i)[i]'(by omega)=q:=by rw [fT ps i i hlt,if_neg (by omega),hq]
   have cl:∀ k u,k<6->(cE q)[k]? = some u->wr.cell? ⟨g,i*6+k,none⟩=some u:=by
    intro k u hk hu;have hcel:=World.ownsRow.cells L1.out (g:=g) rfl (i*6+k) u (by rw [fR _ i k (by omega) hk,hqi];exact hu);rw [show (⟨g,0,none⟩:Addr).add (i*6+k)=⟨g,i*6+k,none⟩ from by unfold Addr.add;split<;>simp_all] at hcel;exact hcel
   have k0:=cl 0 _ (by omega) rfl;have k1:=cl 1 _ (by omega) rfl;have k2:=cl 2 _ (by omega) rfl;have k3:=cl 3 _ (by omega) rfl;have k4:=cl 4 _ (by omega) rfl;have k5:=cl 5 _ (by omega) rfl;rw [Nat.add_zero] at k0;have kf:wr.frozen? ⟨g,i*6+5,none⟩=false:=by
    rcases L1.out.2 with ⟨e,_⟩ | ⟨g',cap',cur,e,hb,hh,_⟩
    ·simp at e
    ·simp only [Value.slice.injEq,Option.some.injEq,Addr.mk.injEq,and_true] at e;obtain ⟨rfl,_⟩:=e;simp [World.frozen?,hh]
   have HQ:=ab hq;have HQI:=ab hqi;clear cl hq hqi;go_upto_region 5 with fail;obtain ⟨w2,hw2⟩:∃ w2,w2=wr.alloc (Obj.cells #[.int .i64 q.kind,.int .i64 q.a,.int .i64 q.b,.int .i64 q.c,.int .i64 q.d,.string q.v] 34):=⟨_,rfl⟩;have G2:Hid (wr.grownBy w2 none):=by rw [hw2];exact ag (ae _ _) _
   have kk:w2.cell? ⟨wr.heap.size,0,none⟩=some (.int .i64 q.kind):=by rw [hw2];go_simp
   have kc:=G2.out.cell k5 (by simp);have kg:w2.frozen? ⟨g,i*6+5,none⟩=false:=by rw [World.frozen?_of_block (G2.out.block g (cV k5) (by simp))];exact kf
   rw [<- hw2];clear hw2 k0 k1 k2 k3 k4 k5 kf;have O2:=ab (L1.out.keep0 G2.out);by_cases hk:q.kind=4∨q.kind=5
   ·have HQU:Hid (eP (w2.setCell ⟨g,i*6+5,none⟩ (.string ⟨#[48]⟩)) W.heap.size (.slice (some ⟨g,0,none⟩) ps.length c) (dE ps (i+1))):=by
     show World.ownsRow _ _ _ _ _ _ _
     have h1:=O2.out;unfold eP at h1;rw [hl] at h1;have h2:=own_set h1 (i*6+5) (by omega) (.string ⟨#[48]⟩);rw [tB _ i (by omega) ⟨#[48]⟩,HQI.out] at h2;have e1:bw ps[i] = { q with v:=⟨#[48]⟩ }:=by rw [<- HQ.out];unfold bw;rw [if_pos hk]
     rw [bI,nO ps i hlt,e1];exact h2
    have GU:Hid (W.grownBy (w2.setCell ⟨g,i*6+5,none⟩ (.string ⟨#[48]⟩)) none):=ai (aa L2.out G2.out) _ _ hgb;by_cases hk4:q.kind=4
    ·rw [hk4] at kk;clear hk hk4;go_wp2;go_roundw
     case rel=>exact ⟨i+1,by omega,by go_num,HQU.out,GU.out⟩
     case measure=>simp [intOf];omega
    ·have hk5:q.kind=5:=by omega
     rw [hk5] at kk;clear hk hk4 hk5;go_wp2;go_roundw
     case rel=>exact ⟨i+1,by omega,by go_num,HQU.out,GU.out⟩
     case measure=>simp [intOf];omega
   ·have b4:(q.kind==4)=false:=beq_eq_false_iff_ne.2 (fun e=>hk (.inl e));have b5:(q.kind==5)=false:=beq_eq_false_iff_ne.2 (fun e=>hk (.inr e));have e1:Hid (dE ps (i+1)=dE ps i):=by
     show _=_
     have e2:bw ps[i]=q:=by rw [<- HQ.out];unfold bw;rw [if_neg hk]
     rw [nO ps i hlt,e2];apply List.ext_getElem
     ·rw [List.length_set]
     ·intro j h1 h2;rw [List.getElem_set];by_cases ej:i=j
      ·subst ej;rw [if_pos rfl,HQI.out]
      ·rw [if_neg ej]
    clear hk;go_wp2;go_roundw
    case rel=>exact ⟨i+1,by omega,by go_num,by rw [e1.out];exact O2.out,aa L2.out G2.out⟩
    case measure=>simp [intOf];omega
  ·obtain rfl:i=ps.length:=by omega
   have O2:Hid (eP wr W.heap.size (.slice ao ps.length c) (ps.map bw)):=by rw [<- uP];exact L1.out
   have HOL:Hid (World.ownsRow (wr.alloc (Obj.cells #[.int .i64 5,.int .i64 b,.int .i64 a,.int .i64 0,.int .i64 0,.string ⟨#[49]⟩] 34)) W.heap.size 34 6 (.slice ao ps.length c) ps.length (bh (ps.map bw))):=by
    have h1:=O2.out.keep0 (ag (ae wr none) (Obj.cells #[.int .i64 5,.int .i64 b,.int .i64 a,.int .i64 0,.int .i64 0,.string ⟨#[49]⟩] 34));unfold eP at h1;rw [List.length_map] at h1;exact h1
   have HCL:Hid (∀ j u,(cE ⟨5,b,a,0,0,⟨#[49]⟩⟩)[j]? = some u->(wr.alloc (Obj.cells #[.int .i64 5,.int .i64 b,.int .i64 a,.int .i64 0,.int .i64 0,.string ⟨#[49]⟩] 34)).cell? ((⟨wr.heap.size,0,none⟩:Addr).add j)=some u):=by
    intro j u hj;have hn:=heap_alloc_new wr (Obj.cells #[.int .i64 5,.int .i64 b,.int .i64 a,.int .i64 0,.int .i64 0,.string ⟨#[49]⟩] 34);rw [show (⟨wr.heap.size,0,none⟩:Addr).add j=⟨wr.heap.size,j,none⟩ from by simp [Addr.add];omega];simp only [World.cell?,hn];rw [<- hj];simp [cE]
   have HSW:Hid (W.heap.size<=wr.heap.size):=L2.out.size;clear L1;go_wp2_with (at_builtin;refine wpList_append_own _ rfl _ _ 22 rfl W.heap.size 34 i0 _ 6 56 Tryz.underlying22 hi0 hz0 hz1 hz2 rfl (by decide) (.slice ao ps.length c) ps.length (bh (ps.map bw)) rfl HOL.out ⟨wr.heap.size,0,none⟩ 1 1 (cE ⟨5,b,a,0,0,⟨#[49]⟩⟩) rfl rfl HCL.out ?c3 ?c4 ?c5 ?c6 ?_)
   case c3 =>
    intro u hu;exact jV [⟨5,b,a,0,0,⟨#[49]⟩⟩] u (by simpa [bh] using hu)
   case c4=>unfold maxLen;omega
   case c5=>omega
   case c6=>simp;exact Nat.le_succ_of_le HSW.out
   intro v' w5 hown hgr _;have O5:Hid (eP w5 W.heap.size v' (bH ps a b)):=by
    show World.ownsRow _ _ _ _ _ _ _
    have e1:(bH ps a b).length=ps.length+1:=by simp [bH]
    have e2:bh (bH ps a b)=bh (ps.map bw)++cE ⟨5,b,a,0,0,⟨#[49]⟩⟩:=by
     unfold bH;rw [jU];simp [bh]
    rw [e1,e2];exact hown
   have G5:Hid (W.grownBy w5 none):=by
    refine aq (r:=none) (aa L2.out (ag (ae wr none) _)) hgr (fun _ _ e=>e) (fun k hk e=>?_);have:=(World.ownsRow.lt HOL.out k e.symm).1;omega
   obtain ⟨ao5,c5,e5,hc5⟩:=O5.out.shape;have e6:(bH ps a b).length=ps.length+1:=by simp [bH]
   rw [e6] at e5;subst e5;clear hown hgr HOL HCL O2;obtain ⟨s0,s1,s2,s3,s4,s5⟩:=CX.out w5 G5.out;go_wp2;refine bodyPost_ret (v:=.agg #[.int .i64 ((n:Nat):Int),.slice ao5 (ps.length+1) c5]) (by simp [results,Tryz.results43,go_sem,s2,s3]) rfl ?_;refine ⟨ao5,c5,rfl,?_,ai (ai (aa GW.out G5.out) _ _ (Nat.le_add_right _ 1)) _ _ (Nat.le_add_right _ 1)⟩;refine eP.parts (base:=W.heap.size) ((O5.out.kept (de _ _ _ _) ?_).kept (de _ _ _ _) ?_) (xn HSZ.out a b)
   all_goals
    cases hv:(Value.slice ao5 (ps.length+1) c5).ownBlock with
    | none=>exact .inl rfl
    | some k =>
     right
     intro e;have:=(World.ownsRow.lt O5.out k hv).1;have:=Option.some.inj e;have:=HWS.out;omega
end Go.Proofs.YthblidglcppakaaGreatDoor
