/- Contracts that the proof leans on. -/
import Derived.Test.YtkhgaelnglndiaaGreatDoorXCSb
import Derived.Test.YtkhgaelnglndiaaGreatDoorXCNa
import Derived.Test.YtkhgaelnglndiaaGreatDoorXCFd
import Derived.Test.YtkhgaelnglndiaaGreatDoorXCSc
namespace Go.Proofs.YtkhgaelnglndiaaGreatDoor
open Go.RowKit
set_option linter.unusedVariables false
set_option linter.unusedSimpArgs false
set_option maxHeartbeats 8000000
set_option maxRecDepth 10000
abbrev sv (s:ByteArray):Value:=.string s
theorem Tryz.infoQ:(Tryz.prog.info? 45).map (fun i=>(i.zero,i.size,i.bytes))=some (some (sv ⟨#[]⟩),1,16):=by kernel_rfl
def textsL (R:Nat->Rat) (i:Nat):List ByteArray:=(List.range i).map fun j=>⟨(qtext (R j)).toArray⟩
theorem textsL_length (R:Nat->Rat) (i:Nat):(textsL R i).length=i:=by simp [textsL]
theorem textsL_succ (R:Nat->Rat) (i:Nat):textsL R (i+1)=textsL R i++[⟨(qtext (R i)).toArray⟩]:=by simp [textsL,List.range_succ]
def TelR (W:World) (n:Nat) (R:Nat->Rat) (ov v:Value) (wr:World):Prop :=
 ∃ i:Nat,i<=n/\v=.int .i64 i/\OwnG sv 45 wr W.heap.size ov (textsL R i)/\W.grownBy wr none
def STellE (w:World) (n:Nat) (R:Nat->Rat) (e:Ending) (w':World):Prop:=∃ v,e=.returned v/\OwnG sv 45 w' w.heap.size v (textsL R n)/\w.grownBy w' none
theorem tell_at (g n c:Nat) (R:Nat->Rat) (L:Nat) (w:World) (hr:FRow w g n R L) (hn:n<=3000) (hc:n<=c) (hm:c<=maxLen) (hL:L<=10000000) (ht:Tab10 w) :
  Calls Tryz.prog 25 #[.slice (some ⟨g,0,none⟩) n c] w fun e w'=>STellE w n R e w':=by
 unfold maxLen at hm;have HR:=hide hr;have HT:=hide ht;clear hr ht;go_enter Tryz.func25,Tryz.ntmps25
 go_wp2;go_loopw [3,8] (fun ov v wr=>Hid (TelR w n R ov v wr)) (fun _ v _=>n-(intOf v).toNat)
 case atStart=>exact ⟨0,by omega,rfl,ownG_nil,gr_refl _ _⟩
 case round =>
  obtain ⟨i,hi,rfl,l1,l2⟩:=hrel.out;obtain ⟨oa,oc,rfl⟩:=l1.shape;have L1:=hide l1;have L2:=hide l2;clear l1 l2 hrel;by_cases hlt:i<n
  ·obtain ⟨uo,ul,uc,do_,dl,dc,c0,c1,c2,c3,_⟩:=(HR.out.keep0 L2.out).at i hlt;have C3:=hide c3;clear c3;go_upto_region 5 with fail;obtain ⟨w2,hw2⟩:∃ w2,w2=wr.alloc (Obj.cells #[.bool (rB (R i)),.slice uo ul uc,.slice do_ dl dc] 70):=⟨_,rfl⟩;have G2:Hid (wr.grownBy w2 none):=by rw [hw2];exact gr_alloc (gr_refl _ _) _
   have XC:Hid (w2.cell? ⟨wr.heap.size,0,none⟩=some (.bool (rB (R i)))/\w2.cell? ⟨wr.heap.size,1,none⟩=some (.slice uo ul uc)/\w2.cell? ⟨wr.heap.size,2,none⟩=some (.slice do_ dl dc)):=by
    have hg:(wr.alloc (Obj.cells #[.bool (rB (R i)),.slice uo ul uc,.slice do_ dl dc] 70)).grownBy w2 none:=by rw [<- hw2];exact gr_refl _ _
    exact box_three hg
   rw [<- hw2];clear hw2 c0 c1 c2;obtain ⟨x0,x1,x2⟩:=XC.out;go_wp2_with fail;refine (fQ_at _ (R i) L _ (C3.out.keep0 G2.out) hL (HT.out.keep0 (gr_none L2.out G2.out))).mono ?_;rintro e w3 ⟨rfl,g3⟩;have G3:=hide (gr_none G2.out g3);clear g3 x0 x1 x2;have hsz:w.heap.size<=w3.heap.size:=Nat.le_trans L2.out.size G3.out.size;go_wp2_with (at_builtin;refine wpList_append_g sv 45 (sv ⟨#[]⟩) 16 _ rfl _ _ 26 rfl w.heap.size Tryz.underlying26 Tryz.infoQ rfl _ (textsL R i) rfl (L1.out.keep0 (gr_alloc G3.out _)) w3.heap.size ⟨(qtext (R i)).toArray⟩ rfl (by go_simp) rfl (by rw [textsL_length];omega) (by omega) (by simp;omega) ?_)
   intro ao cap w5 hown hgr;have HO:Hid (OwnG sv 45 w5 w.heap.size (.slice ao ((textsL R i).length+1) cap) (textsL R (i+1))):=by rw [textsL_succ];exact hown
   have HG:Hid (w.grownBy w5 none):=by
    refine gr_trans (r:=none) (gr_none L2.out (gr_alloc G3.out _)) hgr (fun _ _ e=>e) (fun b hb e=>?_);have:=(L1.out.fresh b e.symm).1;omega
   clear hown hgr;go_wp2;go_roundw
   case rel=>exact ⟨i+1,by omega,by go_num,HO.out,HG.out⟩
   case measure=>simp [intOf];omega
  ·obtain rfl:i=n:=by omega
   go_wp2;go_ret;exact ⟨_,rfl,L1.out,L2.out⟩
def OwnP (w:World) (base:Nat) (v:Value) (ps:List Prt):Prop:=w.ownsRow base 47 6 v ps.length (cellsPs ps)
theorem OwnP.parts {w:World} {base:Nat} {v:Value} {ps:List Prt} (h:OwnP w base v ps) (hz:∀ p∈ps,p.v.size<=600000000):PartsAt w v ps:=by
 rcases h.2 with ⟨rfl,h0⟩ | ⟨g,cap,cur,rfl,hb,hh,h1,h2,h3,h4⟩
 ·have:ps=[]:=List.eq_nil_of_length_eq_zero h0;subst this;exact ⟨none,0,rfl,Nat.le_refl _,by unfold maxLen;omega,fun i hi=>by simp at hi⟩
 ·refine parts_of_cells (Array.getElem?_eq_some_iff.1 hh).1 rfl h1 h2 (fun i hi=>hz _ (List.getElem_mem hi)) (fun j hj=>?_);simp only [World.cell?,hh];rw [<- h4,List.getElem?_take,if_pos hj,Array.getElem?_toList];rfl
theorem Tryz.infoPart:(Tryz.prog.info? 47).map (fun i=>(i.zero,i.size,i.bytes))=some (some (.agg #[.int .i64 0,.int .i64 0,.int .i64 0,.int .i64 0,.int .i64 0,.string ⟨#[]⟩]),6,56):=by kernel_rfl
theorem partsClone_at (po:Option Addr) (pc:Nat) (ps:List Prt) (w:World) (h:PartsAt w (.slice po ps.length pc) ps) (hn:ps.length<=3000) :
  Calls Tryz.prog 95 #[.slice po ps.length pc] w fun e w'=>∃ v,e=.returned v/\OwnP w' w.heap.size v ps/\w.grownBy w' none:=by
 obtain ⟨i0,hi,hz0,hz1,hz2⟩:=info_parts Tryz.infoPart;have HP:=hide h;cases po with
 | none =>
  have h0:ps.length=0:=by
   obtain ⟨ao,cap,e,h1,h2,h3⟩:=h;simp only [Value.slice.injEq,true_and] at e;obtain ⟨rfl,rfl⟩:=e;rcases Nat.eq_zero_or_pos ps.length with h0 | h0
   ·exact h0
   ·obtain ⟨b,off,e,_⟩:=h3 0 h0;cases e
  have H0:=hide h0;have hp0:ps=[]:=List.eq_nil_of_length_eq_zero h0;subst hp0;clear h0;have hq:∀ W,(binOp .eql 22 (.slice none 0 pc) (.slice none 0 0)).run Tryz.prog W=.ok (.bool true) W:=fun W=>Lib.run_eql_slice_nil W _ _ none _ _ 0 0 Tryz.underlying22
  clear h;go_enter Tryz.func95,Tryz.ntmps95
  go_wp2;go_ret;exact ⟨_,rfl,World.ownsRow_nil _ _ _ _,gr_refl _ _⟩
 | some ad =>
  have HC:=hide h.cells;obtain ⟨ao,cap,e,h1,h2,_⟩:=id h;simp only [Value.slice.injEq,true_and] at e;obtain ⟨rfl,rfl⟩:=e;unfold maxLen at h2;have hq:∀ W,(binOp .eql 22 (.slice (some ad) ps.length pc) (.slice none 0 0)).run Tryz.prog W=.ok (.bool false) W:=fun W=>Lib.run_eql_slice_nil W _ _ (some _) _ _ 0 0 Tryz.underlying22
  clear h;go_enter Tryz.func95,Tryz.ntmps95
  go_wp2_with (at_builtin;refine wpList_append_own _ rfl _ _ 22 rfl w.heap.size 47 i0 _ 6 56 Tryz.underlying22 hi hz0 hz1 hz2 rfl (by decide) _ 0 [] rfl ?c0 ad ps.length pc (cellsPs ps) rfl ?c1 ?c2 ?c3 ?c4 ?c5 ?c6 ?_)
  case c0=>exact World.ownsRow_made w #[] 0 (Nat.le_refl _) (by unfold maxLen;omega) (by simp)
  case c1=>exact cellsPs_length ps
  case c2 =>
   intro j u hj;exact (World.grownBy_alloc w (Obj.cells #[] 47) none).cell (HC.out j u hj) (by simp)
  case c3=>exact cellsPs_one ps
  case c4=>unfold maxLen;omega
  case c5=>omega
  case c6=>simp
  intro v' w1 hown hgr hnn;have HG:Hid (w.grownBy w1 none):=gr_trans (r1:=none) (World.grownBy_alloc w _ none) hgr (fun _ _ e=>e) (fun b hb e=>by simp [Value.ownBlock] at e;omega);have HO:Hid (OwnP w1 w.heap.size v' ps):=by
   unfold OwnP;first | exact hown | (rw [Nat.zero_add,List.nil_append] at hown;exact hown)
  obtain ⟨ao2,c2,rfl⟩:∃ ao2 c2,v'=.slice ao2 ps.length c2:=by
   rcases HO.out.2 with ⟨e,h0⟩ | ⟨g,cap',cur,e,_⟩
   ·exact ⟨none,0,by rw [e,h0]⟩
   ·exact ⟨_,cap',e⟩
  clear hown hgr hnn;go_wp2;go_ret;exact ⟨_,rfl,HO.out,HG.out⟩
def quietP (p:Prt):Prt:=if p.kind=4∨p.kind=5 then { p with v:=⟨#[48]⟩ } else p
def quietUp (ps:List Prt) (i:Nat):List Prt:=ps.mapIdx fun j p=>if j<i then quietP p else p
theorem quietUp_length (ps:List Prt) (i:Nat):(quietUp ps i).length=ps.length:=by simp [quietUp]
theorem quietUp_get (ps:List Prt) (i j:Nat) (h:j<ps.length):(quietUp ps i)[j]'(by rw [quietUp_length];exact h)=if j<i then quietP ps[j] else ps[j]:=by simp [quietUp]
theorem quietUp_zero (ps:List Prt):quietUp ps 0=ps:=by
 apply List.ext_getElem
 ·rw [quietUp_length]
 ·intro j h1 h2;rw [quietUp_get ps 0 j h2,if_neg (by omega)]
theorem quietUp_all (ps:List Prt):quietUp ps ps.length=ps.map quietP:=by
 apply List.ext_getElem
 ·rw [quietUp_length,List.length_map]
 ·intro j h1 h2;rw [quietUp_get ps _ j (by simpa using h2),if_pos (by simpa using h2),List.getElem_map]
theorem quietUp_set (ps:List Prt) (i:Nat) (h:i<ps.length):quietUp ps (i+1)=(quietUp ps i).set i (quietP ps[i]):=by
 apply List.ext_getElem
 ·rw [List.length_set,quietUp_length,quietUp_length]
 ·intro j h1 h2;have hj:j<ps.length:=by rw [quietUp_length] at h1;exact h1
  rw [quietUp_get ps (i+1) j hj,List.getElem_set];by_cases e:i=j
  ·subst e;rw [if_pos (by omega),if_pos rfl]
  ·rw [if_neg e,quietUp_get ps i j hj];by_cases e2:j<i
   ·rw [if_pos e2,if_pos (by omega)]
   ·rw [if_neg e2,if_neg (by omega)]
theorem cellsPs_set (qs:List Prt) (i:Nat) (h:i<qs.length) (z:ByteArray):(cellsPs qs).set (i*6+5) (.string z)=cellsPs (qs.set i { qs[i] with v:=z }):=by
 apply List.ext_getElem?
 intro j;by_cases hj:j<qs.length*6
 ·have hi6:j / 6<qs.length:=by omega
  have ej:j=j / 6*6+j % 6:=by omega
  have hk:j % 6<6:=by omega
  have r1:=cellsPs_get (qs.set i { qs[i] with v:=z }) (j / 6) (j % 6) (by rw [List.length_set];exact hi6) hk;have r2:=cellsPs_get qs (j / 6) (j % 6) hi6 hk;rw [List.getElem_set] at r1;rw [List.getElem?_set];by_cases e:i*6+5=j
  ·have e1:i=j / 6:=by omega
   have e2:j % 6=5:=by omega
   rw [if_pos e,if_pos (by rw [cellsPs_length];omega)];rw [ej,r1,if_pos e1,e2];rfl
  ·rw [if_neg e];rw [ej,r1,r2];by_cases e1:i=j / 6
   ·rw [if_pos e1];subst e1;have:j % 6<5:=by omega
    generalize j % 6=k at this;match k,this with
    | 0,_=>rfl
    | 1,_=>rfl
    | 2,_=>rfl
    | 3,_=>rfl
    | 4,_=>rfl
   ·rw [if_neg e1]
 ·rw [List.getElem?_eq_none (by rw [List.length_set,cellsPs_length];omega),List.getElem?_eq_none (by rw [cellsPs_length,List.length_set];omega)]
theorem own_set {w:World} {base:Nat} {e:TypeId} {size g n cap:Nat} {xs:List Value} (h:w.ownsRow base e size (.slice (some ⟨g,0,none⟩) n cap) n xs) (j:Nat) (hj:j<n*size) (u:Value) :
  (w.setCell ⟨g,j,none⟩ u).ownsRow base e size (.slice (some ⟨g,0,none⟩) n cap) n (xs.set j u):=by
 refine ⟨by rw [List.length_set];exact h.1,?_⟩;rcases h.2 with ⟨e1,_⟩ | ⟨g',cap',cur,e1,hb,hh,h1,h2,h3,h4⟩
 ·simp at e1
 ·simp only [Value.slice.injEq,Option.some.injEq,Addr.mk.injEq,and_true,true_and] at e1;obtain ⟨rfl,rfl⟩:=e1;refine .inr ⟨g,cap,cur.setIfInBounds j u,rfl,hb,heap_setCell_same w g j cur e u hh,h1,h2,by simp [h3],?_⟩;rw [<- h4];apply List.ext_getElem?
  intro i;rw [List.getElem?_take,List.getElem?_set,Array.getElem?_toList,List.getElem?_take];have hlen:j<(List.take (n*size) cur.toList).length:=by rw [h4,h.1];exact hj
  by_cases hi:i<n*size
  ·rw [if_pos hi,if_pos hi];by_cases ej:j=i
   ·subst ej;rw [if_pos rfl,if_pos hlen,Array.getElem?_setIfInBounds_self_of_lt (by simp at hlen;omega)]
   ·rw [if_neg ej,Array.getElem?_setIfInBounds_ne ej,Array.getElem?_toList]
  ·rw [if_neg hi,if_neg hi,if_neg (by omega)]
def pushPs (ps:List Prt) (a b:Int):List Prt:=ps.map quietP++[⟨5,b,a,0,0,⟨#[49]⟩⟩]
def PushE (w:World) (n:Nat) (ps:List Prt) (a b:Int) (e:Ending) (w':World):Prop :=
 ∃ po pc,e=.returned (.agg #[.int .i64 ((n:Nat):Int),.slice po (ps.length+1) pc])/\PartsAt w' (.slice po (ps.length+1) pc) (pushPs ps a b)/\w.grownBy w' none
theorem quiet_size {ps:List Prt} (h:∀ p∈ps,p.v.size<=600000000) (a b:Int):∀ p∈pushPs ps a b,p.v.size<=600000000:=by
 intro p hp;unfold pushPs at hp;rcases List.mem_append.1 hp with hp | hp
 ·obtain ⟨q,hq,rfl⟩:=List.mem_map.1 hp;unfold quietP;split
  ·show (1:Nat)<=_;decide
  ·exact h q hq
 ·simp only [List.mem_singleton] at hp;subst hp;show (1:Nat)<=_
  decide
theorem PartsAt.sizes {w:World} {v:Value} {ps:List Prt} (h:PartsAt w v ps):∀ p∈ps,p.v.size<=600000000:=by
 intro p hp;obtain ⟨i,hi,rfl⟩:=List.mem_iff_getElem.1 hp;obtain ⟨_,_,_,_,_,h3⟩:=h;obtain ⟨_,_,_,_,_,_,_,_,_,_,h4⟩:=h3 i hi;exact h4
def PusR (W:World) (base:Nat) (v:Value) (ps:List Prt) (iv:Value) (wr:World):Prop :=
 ∃ i:Nat,i<=ps.length/\iv=.int .i64 i/\OwnP wr base v (quietUp ps i)/\W.grownBy wr none
theorem OwnP.kept {w w':World} {base:Nat} {v:Value} {ps:List Prt} {row:Option Nat} (h:OwnP w base v ps) (hg:w.grownBy w' row) (hne:v.ownBlock=none∨v.ownBlock≠row):OwnP w' base v ps:=World.ownsRow.kept h hg hne
theorem OwnP.keep0 {w w':World} {base:Nat} {v:Value} {ps:List Prt} (h:OwnP w base v ps) (hg:w.grownBy w' none):OwnP w' base v ps:=h.kept hg (by cases hv:v.ownBlock<;>simp)
theorem OwnP.shape {w:World} {base:Nat} {v:Value} {ps:List Prt} (h:OwnP w base v ps):∃ ao c,v=.slice ao ps.length c/\c<=maxLen:=by
 rcases h.2 with ⟨e,h0⟩ | ⟨g,cap',cur,e,_,_,_,h2,_⟩
 ·exact ⟨none,0,by rw [e,h0],by unfold maxLen;omega⟩
 ·exact ⟨_,cap',e,h2⟩
theorem pushed_at (n:Nat) (po:Option Addr) (pc:Nat) (ps:List Prt) (a b:Int) (w:World) (h:PartsAt w (.slice po ps.length pc) ps) (hn:ps.length<=1000) :
  Calls Tryz.prog 50 #[.agg #[.int .i64 ((n:Nat):Int),.slice po ps.length pc],.int .i64 a,.int .i64 b] w fun e w'=>PushE w n ps a b e w':=by
 obtain ⟨i0,hi0,hz0,hz1,hz2⟩:=info_parts Tryz.infoPart;have HP:=hide h;have HSZ:=hide h.sizes;clear h;obtain ⟨W,hW⟩:∃ W,W=(w.alloc (Obj.cells #[.int .i64 ((n:Nat):Int),.slice po ps.length pc] 24)).alloc (Obj.cells #[.int .i64 0,.slice none 0 0] 24):=⟨_,rfl⟩;have GW:Hid (w.grownBy W none):=by rw [hW];exact gr_alloc (gr_alloc (gr_refl _ _) _) _
 have HWS:Hid (W.heap.size=w.heap.size+2):=by show _=_;rw [hW];simp
 have CX:Hid (∀ wx,W.grownBy wx none->wx.cell? ⟨w.heap.size,0,none⟩=some (.int .i64 ((n:Nat):Int))/\wx.cell? ⟨w.heap.size,1,none⟩=some (.slice po ps.length pc)/\wx.cell? ⟨w.heap.size+1,0,none⟩=some (.int .i64 0)/\wx.cell? ⟨w.heap.size+1,1,none⟩=some (.slice none 0 0)/\wx.frozen? ⟨w.heap.size+1,0,none⟩=false/\wx.frozen? ⟨w.heap.size+1,1,none⟩=false):=by
  intro wx hg;have e:wx.heap[w.heap.size+1]? = some (Obj.cells #[.int .i64 0,.slice none 0 0] 24 (0,0)):=by
   rw [hg.block (w.heap.size+1) (by rw [HWS.out];omega) (by simp),hW];have:=heap_alloc_new (w.alloc (Obj.cells #[.int .i64 ((n:Nat):Int),.slice po ps.length pc] 24)) (Obj.cells #[.int .i64 0,.slice none 0 0] 24);simpa using this
  rw [hW] at hg;exact ⟨hg.cell (by go_simp) (by simp),hg.cell (by go_simp) (by simp),by simp [World.cell?,e],by simp [World.cell?,e],by simp [World.frozen?,e],by simp [World.frozen?,e]⟩
 obtain ⟨s0,s1,s2,s3,s4,s5⟩:=CX.out W (gr_refl _ _);go_enter Tryz.func50,Tryz.ntmps50
 go_upto_region 1 with fail;rw [<- hW];clear hW;go_wp2_with fail;refine (partsClone_at po pc ps W (HP.out.keep GW.out) (by omega)).mono ?_;rintro e w1 ⟨v,rfl,o1,g1⟩;obtain ⟨ao,c,rfl,hc⟩:=o1.shape;have O1:=hide o1;have G1:=hide g1;have HC:=hide hc;unfold maxLen at hc;clear o1 g1 s0 s1 s2 s3 s4 s5;go_wp2;go_loopw [15] (fun iv wr=>Hid (PusR W W.heap.size (.slice ao ps.length c) ps iv wr)) (fun iv _=>ps.length-(intOf iv).toNat)
 case atStart=>exact ⟨0,by omega,rfl,by rw [quietUp_zero];exact O1.out,G1.out⟩
 case round =>
  obtain ⟨i,hi,rfl,l1,l2⟩:=hrel.out;have L1:=hide l1;have L2:=hide l2;clear l1 l2 hrel;by_cases hlt:i<ps.length
  ·obtain ⟨g,rfl,hgb⟩:∃ g,ao=some ⟨g,0,none⟩/\W.heap.size<=g:=by
    rcases L1.out.2 with ⟨e,h0⟩ | ⟨g,cap',cur,e,hb,_⟩
    ·rw [quietUp_length] at h0;omega
    ·simp only [Value.slice.injEq] at e;exact ⟨g,e.1,hb⟩
   have hl:(quietUp ps i).length=ps.length:=quietUp_length ps i;obtain ⟨q,hq⟩:∃ q,q=ps[i]:=⟨_,rfl⟩;have hqi:(quietUp ps i)[i]'(by omega)=q:=by rw [quietUp_get ps i i hlt,if_neg (by omega),hq]
   have cl:∀ k u,k<6->(cellsP q)[k]? = some u->wr.cell? ⟨g,i*6+k,none⟩=some u:=by
    intro k u hk hu;have hcel:=World.ownsRow.cells L1.out (g:=g) rfl (i*6+k) u (by rw [cellsPs_get _ i k (by omega) hk,hqi];exact hu);rw [show (⟨g,0,none⟩:Addr).add (i*6+k)=⟨g,i*6+k,none⟩ from by unfold Addr.add;split<;>simp_all] at hcel;exact hcel
   have k0:=cl 0 _ (by omega) rfl;have k1:=cl 1 _ (by omega) rfl;have k2:=cl 2 _ (by omega) rfl;have k3:=cl 3 _ (by omega) rfl;have k4:=cl 4 _ (by omega) rfl;have k5:=cl 5 _ (by omega) rfl;rw [Nat.add_zero] at k0;have kf:wr.frozen? ⟨g,i*6+5,none⟩=false:=by
    rcases L1.out.2 with ⟨e,_⟩ | ⟨g',cap',cur,e,hb,hh,_⟩
    ·simp at e
    ·simp only [Value.slice.injEq,Option.some.injEq,Addr.mk.injEq,and_true] at e;obtain ⟨rfl,_⟩:=e;simp [World.frozen?,hh]
   have HQ:=hide hq;have HQI:=hide hqi;clear cl hq hqi;go_upto_region 5 with fail;obtain ⟨w2,hw2⟩:∃ w2,w2=wr.alloc (Obj.cells #[.int .i64 q.kind,.int .i64 q.a,.int .i64 q.b,.int .i64 q.c,.int .i64 q.d,.string q.v] 47):=⟨_,rfl⟩;have G2:Hid (wr.grownBy w2 none):=by rw [hw2];exact gr_alloc (gr_refl _ _) _
   have kk:w2.cell? ⟨wr.heap.size,0,none⟩=some (.int .i64 q.kind):=by rw [hw2];go_simp
   have kc:=G2.out.cell k5 (by simp);have kg:w2.frozen? ⟨g,i*6+5,none⟩=false:=by rw [World.frozen?_of_block (G2.out.block g (cell_lt k5) (by simp))];exact kf
   rw [<- hw2];clear hw2 k0 k1 k2 k3 k4 k5 kf;have O2:=hide (L1.out.keep0 G2.out);by_cases hk:q.kind=4∨q.kind=5
   ·have HQU:Hid (OwnP (w2.setCell ⟨g,i*6+5,none⟩ (.string ⟨#[48]⟩)) W.heap.size (.slice (some ⟨g,0,none⟩) ps.length c) (quietUp ps (i+1))):=by
     show World.ownsRow _ _ _ _ _ _ _
     have h1:=O2.out;unfold OwnP at h1;rw [hl] at h1;have h2:=own_set h1 (i*6+5) (by omega) (.string ⟨#[48]⟩);rw [cellsPs_set _ i (by omega) ⟨#[48]⟩,HQI.out] at h2;have e1:quietP ps[i] = { q with v:=⟨#[48]⟩ }:=by rw [<- HQ.out];unfold quietP;rw [if_pos hk]
     rw [quietUp_length,quietUp_set ps i hlt,e1];exact h2
    have GU:Hid (W.grownBy (w2.setCell ⟨g,i*6+5,none⟩ (.string ⟨#[48]⟩)) none):=gr_set (gr_none L2.out G2.out) _ _ hgb;by_cases hk4:q.kind=4
    ·rw [hk4] at kk;clear hk hk4;go_wp2;go_roundw
     case rel=>exact ⟨i+1,by omega,by go_num,HQU.out,GU.out⟩
     case measure=>simp [intOf];omega
    ·have hk5:q.kind=5:=by omega
     rw [hk5] at kk;clear hk hk4 hk5;go_wp2;go_roundw
     case rel=>exact ⟨i+1,by omega,by go_num,HQU.out,GU.out⟩
     case measure=>simp [intOf];omega
   ·have b4:(q.kind==4)=false:=beq_eq_false_iff_ne.2 (fun e=>hk (.inl e));have b5:(q.kind==5)=false:=beq_eq_false_iff_ne.2 (fun e=>hk (.inr e));have e1:Hid (quietUp ps (i+1)=quietUp ps i):=by
     show _=_
     have e2:quietP ps[i]=q:=by rw [<- HQ.out];unfold quietP;rw [if_neg hk]
     rw [quietUp_set ps i hlt,e2];apply List.ext_getElem
     ·rw [List.length_set]
     ·intro j h1 h2;rw [List.getElem_set];by_cases ej:i=j
      ·subst ej;rw [if_pos rfl,HQI.out]
      ·rw [if_neg ej]
    clear hk;go_wp2;go_roundw
    case rel=>exact ⟨i+1,by omega,by go_num,by rw [e1.out];exact O2.out,gr_none L2.out G2.out⟩
    case measure=>simp [intOf];omega
  ·obtain rfl:i=ps.length:=by omega
   have O2:Hid (OwnP wr W.heap.size (.slice ao ps.length c) (ps.map quietP)):=by rw [<- quietUp_all];exact L1.out
   have HOL:Hid (World.ownsRow (wr.alloc (Obj.cells #[.int .i64 5,.int .i64 b,.int .i64 a,.int .i64 0,.int .i64 0,.string ⟨#[49]⟩] 47)) W.heap.size 47 6 (.slice ao ps.length c) ps.length (cellsPs (ps.map quietP))):=by
    have h1:=O2.out.keep0 (gr_alloc (gr_refl wr none) (Obj.cells #[.int .i64 5,.int .i64 b,.int .i64 a,.int .i64 0,.int .i64 0,.string ⟨#[49]⟩] 47));unfold OwnP at h1;rw [List.length_map] at h1;exact h1
   have HCL:Hid (∀ j u,(cellsP ⟨5,b,a,0,0,⟨#[49]⟩⟩)[j]? = some u->(wr.alloc (Obj.cells #[.int .i64 5,.int .i64 b,.int .i64 a,.int .i64 0,.int .i64 0,.string ⟨#[49]⟩] 47)).cell? ((⟨wr.heap.size,0,none⟩:Addr).add j)=some u):=by
    intro j u hj;have hn:=heap_alloc_new wr (Obj.cells #[.int .i64 5,.int .i64 b,.int .i64 a,.int .i64 0,.int .i64 0,.string ⟨#[49]⟩] 47);rw [show (⟨wr.heap.size,0,none⟩:Addr).add j=⟨wr.heap.size,j,none⟩ from by simp [Addr.add];omega];simp only [World.cell?,hn];rw [<- hj];simp [cellsP]
   have HSW:Hid (W.heap.size<=wr.heap.size):=L2.out.size;clear L1;go_wp2_with (at_builtin;refine wpList_append_own _ rfl _ _ 22 rfl W.heap.size 47 i0 _ 6 56 Tryz.underlying22 hi0 hz0 hz1 hz2 rfl (by decide) (.slice ao ps.length c) ps.length (cellsPs (ps.map quietP)) rfl HOL.out ⟨wr.heap.size,0,none⟩ 1 1 (cellsP ⟨5,b,a,0,0,⟨#[49]⟩⟩) rfl rfl HCL.out ?c3 ?c4 ?c5 ?c6 ?_)
   case c3 =>
    intro u hu;exact cellsPs_one [⟨5,b,a,0,0,⟨#[49]⟩⟩] u (by simpa [cellsPs] using hu)
   case c4=>unfold maxLen;omega
   case c5=>omega
   case c6=>simp;exact Nat.le_succ_of_le HSW.out
   intro v' w5 hown hgr _;have O5:Hid (OwnP w5 W.heap.size v' (pushPs ps a b)):=by
    show World.ownsRow _ _ _ _ _ _ _
    have e1:(pushPs ps a b).length=ps.length+1:=by simp [pushPs]
    have e2:cellsPs (pushPs ps a b)=cellsPs (ps.map quietP)++cellsP ⟨5,b,a,0,0,⟨#[49]⟩⟩:=by
     unfold pushPs;rw [cellsPs_append];simp [cellsPs]
    rw [e1,e2];exact hown
   have G5:Hid (W.grownBy w5 none):=by
    refine gr_trans (r:=none) (gr_none L2.out (gr_alloc (gr_refl wr none) _)) hgr (fun _ _ e=>e) (fun k hk e=>?_);have:=(World.ownsRow.lt HOL.out k e.symm).1;omega
   obtain ⟨ao5,c5,e5,hc5⟩:=O5.out.shape;have e6:(pushPs ps a b).length=ps.length+1:=by simp [pushPs]
   rw [e6] at e5;subst e5;clear hown hgr HOL HCL O2;obtain ⟨s0,s1,s2,s3,s4,s5⟩:=CX.out w5 G5.out;go_wp2;refine bodyPost_ret (v:=.agg #[.int .i64 ((n:Nat):Int),.slice ao5 (ps.length+1) c5]) (by simp [results,Tryz.results50,go_sem,s2,s3]) rfl ?_;refine ⟨ao5,c5,rfl,?_,gr_set (gr_set (gr_none GW.out G5.out) _ _ (Nat.le_add_right _ 1)) _ _ (Nat.le_add_right _ 1)⟩;refine OwnP.parts (base:=W.heap.size) ((O5.out.kept (grs_set _ _ _ _) ?_).kept (grs_set _ _ _ _) ?_) (quiet_size HSZ.out a b)
   all_goals
    cases hv:(Value.slice ao5 (ps.length+1) c5).ownBlock with
    | none=>exact .inl rfl
    | some k =>
     right
     intro e;have:=(World.ownsRow.lt O5.out k hv).1;have:=Option.some.inj e;have:=HWS.out;omega
end Go.Proofs.YtkhgaelnglndiaaGreatDoor
