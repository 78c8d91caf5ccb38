/- Contracts that the proof leans on. -/
import Derived.Test.YthblidglcppakaaGreatDoorProg
import Derived.RowKit
import Derived.Test.YthblidglcppakaaGreatDoorXMBase
import Derived.Laws.AppendOwnNone
import Derived.WalkKit
import Derived.Outline
import Derived.BigQuiet
import Derived.Deep.QuietTactic
import Derived.WalkSpells
import Derived.Laws.BitsAllLaws
import Derived.Laws.CopyOwn
namespace Go.Proofs.YthblidglcppakaaGreatDoor
open Go.RowKit
set_option linter.unusedVariables false
set_option linter.unusedSimpArgs false
set_option maxHeartbeats 8000000
set_option maxRecDepth 10000
theorem Dj (w:World):Calls Tryz.prog 91 #[.slice none 0 0] w fun e w'=>e=.returned (.slice none 0 0)/\w'=w:=by
 go_enter Tryz.func91,Tryz.ntmps91
 go_wp2;refine wp_loop_rounds 1 ?_;rw [rounds_succ];go_wp2;go_ret;exact ⟨rfl,rfl⟩
theorem AG (b off cap:Nat) (xs:List Nat) (w:World) (hm:xs.length<=cap) (hcap:cap<=maxLen)
  (hc:∀ i (h:i<xs.length),w.cell? ⟨b,off+i,none⟩=some (.int .u32 (xs[i]:Nat))) :
  Calls Tryz.prog 91 #[.slice (some ⟨b,off,none⟩) xs.length cap] w fun e w'=>e=.returned (.slice (some ⟨b,off,none⟩) (aN xs).length cap)/\w'=w:=by
 unfold maxLen at hcap;go_enter Tryz.func91,Tryz.ntmps91
 go_wp2;go_loop [3] (fun n=>∃ k:Nat,k<=xs.length/\n=.int .i64 k/\aN (xs.take k)=aN xs) (fun n=>(intOf n).toNat)
 case atStart=>exact ⟨xs.length,Nat.le_refl _,rfl,by simp⟩
 case round =>
  obtain ⟨k,hk,rfl,ht⟩:=hrel;have HT:Hid (aN (xs.take k)=aN xs):=ht;clear ht;by_cases h0:k=0
  ·subst h0;go_wp2;go_ret;refine ⟨?_,rfl⟩;rw [<- HT.out];rfl
  ·obtain ⟨j,rfl⟩:∃ j,k=j+1:=⟨k-1,by omega⟩;have hj:=hc j (by omega);have hjl:j<xs.length:=by omega
   by_cases hz:xs[j]=0
   ·have HZ:Hid (xs[j]=0):=hz;rw [hz] at hj;clear hz hc;go_wp2;go_round
    case rel=>exact ⟨j,by omega,by go_num,by rw [<- HT.out,jE xs j hjl HZ.out]⟩
    case measure=>simp [intOf]
   ·have HZ:Hid (xs[j]≠0):=hz;obtain ⟨x,hx⟩:∃ x,x=xs[j]:=⟨_,rfl⟩;rw [<- hx] at hj hz;have hz':(((x:Nat):Int)==0)=false:=beq_eq_false_iff_ne.2 (by omega);clear hx hz hc;go_wp2;go_ret;refine ⟨?_,rfl⟩;rw [<- HT.out,kq xs j hjl HZ.out];simp;omega
theorem yE (v:Value) (xs:List Nat) (w:World) (h:Ws w v xs) :
  Calls Tryz.prog 91 #[v] w fun e w'=>∃ v',e=.returned v'/\w'=w/\Ws w v' (aN xs)/\az v'=az v:=by
 rcases h.sh with ⟨rfl,rfl⟩ | ⟨b,off,cap,rfl,hb,hl,hm,hc⟩
 ·refine (Dj w).mono ?_;rintro e w' ⟨rfl,rfl⟩;exact ⟨_,rfl,rfl,Ws.nil _,rfl⟩
 ·refine (AG b off cap xs w hl hm hc).mono ?_;rintro e w' ⟨rfl,rfl⟩;refine ⟨_,rfl,rfl,⟨h.sm.trimL,.inr ⟨b,off,cap,rfl,hb,Nat.le_trans (aY xs) hl,hm,?_⟩⟩,rfl⟩;intro i hi;have:=aY xs;rw [hc i (by omega),kP xs i hi]
theorem dX (v:Value) (xs:List Nat) (w:World) (h:Ws w v xs) :
  Calls Tryz.prog 91 #[v] w fun e w'=>∃ v',e=.returned v'/\w'=w/\aU w v' (ak xs) xs.length/\az v'=az v:=by
 refine (yE v xs w h).mono ?_;rintro e w' ⟨v',rfl,rfl,h1,h2⟩;exact ⟨v',rfl,rfl,⟨_,h1,Tr.trimL _,eN _,aY _⟩,h2⟩
theorem yF (v:Value) (xs:List Nat) (w:World) (h:Ws w v xs) (hl:xs.length<=10737418240000) :
  Calls Tryz.prog 92 #[v] w fun e w'=>∃ v',e=.returned v'/\Ws w' v' xs/\w.grownBy w' none/\bA w v':=by
 obtain ⟨i0,hi,hz0,hz1,hz2⟩:=info_parts Tryz.info32;rcases h.sh with ⟨rfl,rfl⟩ | ⟨b,off,cap,rfl,hb,hl',hm,hc⟩
 ·go_enter Tryz.func92,Tryz.ntmps92
  go_wp2_with (at_builtin;refine wpList_append_own_none rfl _ _ 43 rfl w.heap.size 140 i0 1 Tryz.underlying43 hi _ 0 [] rfl (World.ownsRow_nil _ _ _ _) rfl ?_)
  go_ret;exact ⟨_,rfl,Ws.nil _,ae _ _,fun k hk=>by simp [az] at hk⟩
 ·go_enter Tryz.func92,Tryz.ntmps92
  have HC:=ab hc;clear hc;have hxl:xs.length+0<=maxLen:=by unfold maxLen;omega
  go_wp2_with (at_builtin;refine wpList_append_own _ rfl _ _ 43 rfl w.heap.size 140 i0 (.int .u32 0) 1 4 Tryz.underlying43 hi hz0 hz1 hz2 rfl (by decide) _ 0 [] rfl (World.ownsRow_nil _ _ _ _) ⟨b,off,none⟩ xs.length cap (au xs).toList rfl ?c1 ?c2 ?c3 ?c4 ?c5 ?c6 ?_)
  case c1=>simp [au]
  case c2 =>
   intro j u hj;obtain ⟨hj',hju⟩:=List.getElem?_eq_some_iff.1 hj;have hjl:j<xs.length:=by simpa [au] using hj'
   have:=aG HC j hjl;rw [show (⟨b,off,none⟩:Addr).add j=⟨b,off+j,none⟩ from by simp [Addr.add],this,<- hju];simp [au]
  case c3 =>
   intro u hu;simp only [au,List.mem_map] at hu;obtain ⟨x,_,rfl⟩:=hu;rfl
  case c4=>omega
  case c5=>omega
  case c6=>exact Nat.le_refl _
  intro v' w1 hown hgr _;go_wp2;go_ret;obtain ⟨hlen,hsh⟩:=hown;refine ⟨v',rfl,?_,?_,?_⟩
  ·rcases hsh with ⟨rfl,h0⟩ | ⟨g,cap',cur,rfl,hg,hh,hc1,hc2,hc3,ht⟩
   ·have:xs=[]:=by
     cases xs with
     | nil=>rfl
     | cons x r=>simp at h0
    subst this;exact Ws.nil _
   ·refine ⟨h.sm,.inr ⟨g,0,cap',by simp,(Array.getElem?_eq_some_iff.1 hh).1,by simpa using hc1,hc2,?_⟩⟩;intro i hi;have h2:cur.toList[i]? = some (.int .u32 (xs[i]:Nat)):=by
     have h3:(cur.toList.take (xs.length*1))[i]? = (au xs).toList[i]?:=by rw [ht]
     rw [List.getElem?_take,if_pos (by omega)] at h3;rw [h3];simp [au,hi]
    simp only [World.cell?,hh,Nat.zero_add];simpa using h2
  ·exact ⟨hgr.os,hgr.tape,hgr.output,hgr.size,fun k hk _=>hgr.block k hk (by simp [Value.ownBlock])⟩
  ·intro k hk;rcases hsh with ⟨rfl,h0⟩ | ⟨g,cap',cur,rfl,hg,hh,hc1,hc2,hc3,ht⟩
   ·simp [az] at hk
   ·simp [az] at hk;omega
theorem vJ (v:Value) (n L:Nat) (w:World) (h:aU w v n L) (hl:L<=10737418240000) :
  Calls Tryz.prog 92 #[v] w fun e w'=>∃ v',e=.returned v'/\aU w' v' n L/\w.grownBy w' none/\bA w v':=by
 obtain ⟨xs,h1,h2,h3,h4⟩:=h;refine (yF v xs w h1 (by omega)).mono ?_;rintro e w' ⟨v',rfl,k1,k2,k3⟩;exact ⟨v',rfl,⟨xs,k1,h2,h3,h4⟩,k2,k3⟩
theorem eO (x:Int) (w:World) (h0:0<=x) (h1:x<18446744073709551616) :
  Calls Tryz.prog 64 #[.int .u64 x] w fun e w'=>∃ v',e=.returned v'/\aU w' v' x.toNat 2/\w.grownBy w' none/\bA w v':=by
 go_enter Tryz.func64,Tryz.ntmps64
 go_wp2_with fail;have ha:ch (w.alloc (Obj.cells #[Value.int IntKind.u32 (x % 4294967296),Value.int IntKind.u32 (x / 4294967296)] 140)) w.heap.size [x.toNat % 4294967296,x.toNat / 4294967296]:=by
  unfold ch;show (w.heap.push _)[w.heap.size]? = _
  rw [Array.getElem?_push_size];have e1:(x % 4294967296)=((x.toNat % 4294967296:Nat):Int):=by omega
  have e2:(x / 4294967296)=((x.toNat / 4294967296:Nat):Int):=by omega
  rw [e1,e2];rfl
 have hw:=ha.ws (Sm.cons (by omega) (Sm.cons (by omega) Sm.nil)) (by unfold maxLen;simp);clear ha;refine (dX _ _ _ hw).mono ?_;rintro e w1 ⟨v',rfl,rfl,h1,h2⟩;clear hw;go_wp2;go_ret;refine ⟨v',rfl,?_,ag (ae _ _) _,?_⟩
 ·have e:ak [x.toNat % 4294967296,x.toNat / 4294967296]=x.toNat:=by simp only [ak];omega
  rw [e] at h1;exact h1
 ·intro k hk;rw [h2] at hk;simp [az] at hk;omega
def fw (w wr:World) (xs ys:List Nat) (k c:Nat):Prop :=
 ∃ done:List Nat,done.length=k/\Sm done/\ch wr w.heap.size (done++List.replicate (xs.length+1-k) 0)/\w.grownBy wr none/\ak done+4294967296^k*c=ak (xs.take k)+ak (ys.take k)
theorem fw.step {w wr:World} {xs ys:List Nat} {k c:Nat} (h:fw w wr xs ys k c) (hk:k<xs.length) (x y:Nat) (hx:x=xs[k]) (hy:y=ys.getD k 0) (z:Int) (hz:z=(((c+x+y) % 4294967296:Nat):Int)) :
  fw w (wr.setCell ⟨w.heap.size,k,none⟩ (.int .u32 z)) xs ys (k+1) ((c+x+y) / 4294967296):=by
 obtain ⟨done,h1,h2,h3,h4,h5⟩:=h;refine ⟨done++[(c+x+y) % 4294967296],by simp [h1],h2.snoc _,?_,ai h4 _ _ (Nat.le_refl _),?_⟩
 ·have:=h3.set k ((c+x+y) % 4294967296);rw [dR done k _ _ h1 (by omega)] at this;rw [hz,show xs.length+1-(k+1)=xs.length+1-k-1 from by omega];exact this
 ·rw [oL done k c x y _ _ h1 h5,ay xs k hk,qi ys k,hx,hy]
theorem fw.last {w wr:World} {xs ys:List Nat} {c:Nat} (h:fw w wr xs ys xs.length c) (hle:ys.length<=xs.length) (hc:c<=1) (hl:xs.length<=10000000000000) (z:Int) (hz:z=(c:Int)) :
  ∃ zs,zs.length=xs.length+1/\Ws (wr.setCell ⟨w.heap.size,xs.length,none⟩ (.int .u32 z)) (.slice (some ⟨w.heap.size,0,none⟩) (xs.length+1) (xs.length+1)) zs /\
   ak zs=ak xs+ak ys/\w.grownBy (wr.setCell ⟨w.heap.size,xs.length,none⟩ (.int .u32 z)) none:=by
 obtain ⟨done,h1,h2,h3,h4,h5⟩:=h;have:=h3.set xs.length c;rw [dR done _ _ _ h1 (by omega),show xs.length+1-xs.length-1=0 from by omega] at this;simp only [List.replicate_zero,List.append_nil] at this;subst hz;have hlen:(done++[c]).length=xs.length+1:=by simp [h1]
 refine ⟨done++[c],hlen,?_,?_,ai h4 _ _ (Nat.le_refl _)⟩
 ·have hw:=this.ws (h2.append (Sm.cons (by omega) Sm.nil)) (by rw [hlen];unfold maxLen;omega);rw [hlen] at hw;exact hw
 ·rw [aO,h1,h5,List.take_of_length_le (Nat.le_refl _),List.take_of_length_le hle]
theorem add_ws (va vb:Value) (xs ys:List Nat) (w:World) (ha:Ws w va xs) (hb:Ws w vb ys) (hl:xs.length<=10000000000000) (hle:ys.length<=xs.length) :
  Calls Tryz.prog 62 #[va,vb] w fun e w'=>∃ v',e=.returned v'/\aU w' v' (ak xs+ak ys) (xs.length+1)/\w.grownBy w' none/\bA w v':=by
 obtain ⟨ao,ca,rfl,hca,hca',Ha⟩:=ha.open;obtain ⟨bo,cb,rfl,hcb,hcb',Hb⟩:=hb.open;unfold maxLen at hca' hcb';have HA:=ab Ha;have HB:=ab Hb;have SA:=ab ha.sm;have SB:=ab hb.sm;clear Ha Hb ha hb;go_enter Tryz.func62,Tryz.ntmps62
 go_wp2_with (at_make;refine aD _ rfl _ _ 43 rfl Tryz.underlying43 Tryz.info32 _ _ _ _ (xs.length+1) rfl rfl (by omega) (by omega) (by omega) ?_)
 intro w1 harr hgr;have HR:=ab harr;have HG:=ab hgr;clear harr hgr;go_wp2;go_loopw [6,7] (fun cv i wr=>∃ k c:Nat,k<=xs.length/\c<=1/\i=.int .i64 k/\cv=.int .u64 c/\Hid (fw w wr xs ys k c)) (fun _ i _=>xs.length-(intOf i).toNat)
 case atStart=>exact ⟨0,0,Nat.zero_le _,by omega,rfl,rfl,[],rfl,Sm.nil,HR.out,HG.out,by simp [ak]⟩
 case round =>
  obtain ⟨k,c,hk,hc1,rfl,rfl,HI⟩:=hrel;by_cases hlt:k<xs.length
  ·obtain ⟨b,off,rfl,hbl,hcell⟩:=aG HA k hlt;have hx:=(aG SA).get k hlt;obtain ⟨x,ex⟩:∃ x,x=xs[k]:=⟨_,rfl⟩;rw [<- ex] at hcell hx;have EX:=ab ex;clear ex;have hcx:wr.cell? ⟨b,off+k,none⟩=some (.int .u32 (x:Nat)):=by
    obtain ⟨done,h1,h2,h3,h4,h5⟩:=HI.out;exact h4.cell hcell (by simp)
   have hfr:wr.frozen? ⟨w.heap.size,k,none⟩=false:=by
    obtain ⟨done,h1,h2,h3,h4,h5⟩:=HI.out;exact h3.free k
   have hco:∃ v,wr.cell? ⟨w.heap.size,k,none⟩=some v:=by
    obtain ⟨done,h1,h2,h3,h4,h5⟩:=HI.out;exact ⟨_,h3.cell k (by simp;omega)⟩
   obtain ⟨v0,hco⟩:=hco;clear hcell;by_cases hlt2:k<ys.length
   ·obtain ⟨b2,off2,rfl,hbl2,hcell2⟩:=aG HB k hlt2;have hy:=(aG SB).get k hlt2;obtain ⟨y,ey⟩:∃ y,y=ys[k]:=⟨_,rfl⟩;rw [<- ey] at hcell2 hy;have EY:=ab ey;clear ey;have hcy:wr.cell? ⟨b2,off2+k,none⟩=some (.int .u32 (y:Nat)):=by
     obtain ⟨done,h1,h2,h3,h4,h5⟩:=HI.out;exact h4.cell hcell2 (by simp)
    clear hcell2;go_wp2;go_roundw
    case rel=>exact ⟨k+1,(c+x+y) / 4294967296,by omega,by omega,by go_num,by go_num,fw.step HI.out hlt x y EX.out (by rw [EY.out];simp [hlt2]) _ (by omega)⟩
    case measure=>simp [intOf];omega
   ·go_wp2;go_roundw
    case rel=>exact ⟨k+1,(c+x+0) / 4294967296,by omega,by omega,by go_num,by go_num,fw.step HI.out hlt x 0 EX.out (by simp [List.getD,hlt2]) _ (by omega)⟩
    case measure=>simp [intOf];omega
  ·obtain rfl:k=xs.length:=by omega
   have hfr:wr.frozen? ⟨w.heap.size,xs.length,none⟩=false:=by
    obtain ⟨done,h1,h2,h3,h4,h5⟩:=HI.out;exact h3.free _
   have hco:∃ v,wr.cell? ⟨w.heap.size,xs.length,none⟩=some v:=by
    obtain ⟨done,h1,h2,h3,h4,h5⟩:=HI.out;exact ⟨_,h3.cell xs.length (by simp;omega)⟩
   obtain ⟨v0,hco⟩:=hco;go_wp2_with fail;obtain ⟨zs,z1,z2,z3,z4⟩:=fw.last HI.out hle hc1 hl (c:Int) rfl;have Z1:=ab z1;refine (dX _ zs _ z2).mono ?_;rintro e w2 ⟨v',rfl,rfl,h1,h2⟩;clear z1 z2;go_wp2;go_ret;refine ⟨v',rfl,?_,z4,?_⟩
   ·rw [z3,Z1.out] at h1;exact h1
   ·intro j hj;rw [h2] at hj;simp [az] at hj;omega
theorem ti (va vb:Value) (xs ys:List Nat) (w:World) (ha:Ws w va xs) (hb:Ws w vb ys) (hl:xs.length<=10000000000000) (hlt':ys.length<xs.length) :
  Calls Tryz.prog 62 #[vb,va] w fun e w'=>∃ v',e=.returned v'/\aU w' v' (ak xs+ak ys) (xs.length+1)/\w.grownBy w' none/\bA w v':=by
 obtain ⟨ao,ca,rfl,hca,hca',Ha⟩:=ha.open;obtain ⟨bo,cb,rfl,hcb,hcb',Hb⟩:=hb.open;unfold maxLen at hca' hcb';have HA:=ab Ha;have HB:=ab Hb;have SA:=ab ha.sm;have SB:=ab hb.sm;clear Ha Hb ha hb;go_enter Tryz.func62,Tryz.ntmps62
 go_wp2_with (at_make;refine aD _ rfl _ _ 43 rfl Tryz.underlying43 Tryz.info32 _ _ _ _ (xs.length+1) rfl rfl (by omega) (by omega) (by omega) ?_)
 intro w1 harr hgr;have HR:=ab harr;have HG:=ab hgr;clear harr hgr;go_wp2;go_loopw [6,7] (fun cv i wr=>∃ k c:Nat,k<=xs.length/\c<=1/\i=.int .i64 k/\cv=.int .u64 c/\Hid (fw w wr xs ys k c)) (fun _ i _=>xs.length-(intOf i).toNat)
 case atStart=>exact ⟨0,0,Nat.zero_le _,by omega,rfl,rfl,[],rfl,Sm.nil,HR.out,HG.out,by simp [ak]⟩
 case round =>
  obtain ⟨k,c,hk,hc1,rfl,rfl,HI⟩:=hrel;by_cases hlt:k<xs.length
  ·obtain ⟨b,off,rfl,hbl,hcell⟩:=aG HA k hlt;have hx:=(aG SA).get k hlt;obtain ⟨x,ex⟩:∃ x,x=xs[k]:=⟨_,rfl⟩;rw [<- ex] at hcell hx;have EX:=ab ex;clear ex;have hcx:wr.cell? ⟨b,off+k,none⟩=some (.int .u32 (x:Nat)):=by
    obtain ⟨done,h1,h2,h3,h4,h5⟩:=HI.out;exact h4.cell hcell (by simp)
   have hfr:wr.frozen? ⟨w.heap.size,k,none⟩=false:=by
    obtain ⟨done,h1,h2,h3,h4,h5⟩:=HI.out;exact h3.free k
   have hco:∃ v,wr.cell? ⟨w.heap.size,k,none⟩=some v:=by
    obtain ⟨done,h1,h2,h3,h4,h5⟩:=HI.out;exact ⟨_,h3.cell k (by simp;omega)⟩
   obtain ⟨v0,hco⟩:=hco;clear hcell;by_cases hlt2:k<ys.length
   ·obtain ⟨b2,off2,rfl,hbl2,hcell2⟩:=aG HB k hlt2;have hy:=(aG SB).get k hlt2;obtain ⟨y,ey⟩:∃ y,y=ys[k]:=⟨_,rfl⟩;rw [<- ey] at hcell2 hy;have EY:=ab ey;clear ey;have hcy:wr.cell? ⟨b2,off2+k,none⟩=some (.int .u32 (y:Nat)):=by
     obtain ⟨done,h1,h2,h3,h4,h5⟩:=HI.out;exact h4.cell hcell2 (by simp)
    clear hcell2;go_wp2;go_roundw
    case rel=>exact ⟨k+1,(c+x+y) / 4294967296,by omega,by omega,by go_num,by go_num,fw.step HI.out hlt x y EX.out (by rw [EY.out];simp [hlt2]) _ (by omega)⟩
    case measure=>simp [intOf];omega
   ·go_wp2;go_roundw
    case rel=>exact ⟨k+1,(c+x+0) / 4294967296,by omega,by omega,by go_num,by go_num,fw.step HI.out hlt x 0 EX.out (by simp [List.getD,hlt2]) _ (by omega)⟩
    case measure=>simp [intOf];omega
  ·obtain rfl:k=xs.length:=by omega
   have hfr:wr.frozen? ⟨w.heap.size,xs.length,none⟩=false:=by
    obtain ⟨done,h1,h2,h3,h4,h5⟩:=HI.out;exact h3.free _
   have hco:∃ v,wr.cell? ⟨w.heap.size,xs.length,none⟩=some v:=by
    obtain ⟨done,h1,h2,h3,h4,h5⟩:=HI.out;exact ⟨_,h3.cell xs.length (by simp;omega)⟩
   obtain ⟨v0,hco⟩:=hco;go_wp2_with fail;obtain ⟨zs,z1,z2,z3,z4⟩:=fw.last HI.out (Nat.le_of_lt hlt') hc1 hl (c:Int) rfl;have Z1:=ab z1;refine (dX _ zs _ z2).mono ?_;rintro e w2 ⟨v',rfl,rfl,h1,h2⟩;clear z1 z2;go_wp2;go_ret;refine ⟨v',rfl,?_,z4,?_⟩
   ·rw [z3,Z1.out] at h1;exact h1
   ·intro j hj;rw [h2] at hj;simp [az] at hj;omega
theorem xM (va vb:Value) (m n L M:Nat) (w:World) (ha:aU w va m L) (hb:aU w vb n M) (hl:L<=10000000000000) (hm:M<=10000000000000) :
  Calls Tryz.prog 62 #[va,vb] w fun e w'=>∃ v',e=.returned v'/\aU w' v' (m+n) (max L M+1)/\w.grownBy w' none/\bA w v':=by
 obtain ⟨xs,x1,x2,x3,x4⟩:=ha;obtain ⟨ys,y1,y2,y3,y4⟩:=hb;by_cases h:ys.length<=xs.length
 ·refine (add_ws va vb xs ys w x1 y1 (by omega) h).mono ?_;rintro e w' ⟨v',rfl,k1,k2,k3⟩;rw [x3,y3] at k1;exact ⟨v',rfl,k1.mono (by omega),k2,k3⟩
 ·refine (ti vb va ys xs w y1 x1 (by omega) (by omega)).mono ?_;rintro e w' ⟨v',rfl,k1,k2,k3⟩;rw [x3,y3,Nat.add_comm] at k1;exact ⟨v',rfl,k1.mono (by omega),k2,k3⟩
theorem oP (va vb:Value) (xs ys:List Nat) (w:World) (ha:Ws w va xs) (hb:Ws w vb ys) (tx:Tr xs) (ty:Tr ys) :
  Calls Tryz.prog 73 #[va,vb] w fun e w'=>e=.returned (.int .i64 (iG (ak xs) (ak ys)))/\∃ q,w'=w.drewN q:=by
 obtain ⟨ao,ca,rfl,hca,hca',Ha⟩:=ha.open;obtain ⟨bo,cb,rfl,hcb,hcb',Hb⟩:=hb.open;unfold maxLen at hca' hcb';have HA:=ab Ha;have HB:=ab Hb;have SA:=ab ha.sm;have SB:=ab hb.sm;have TX:=ab tx;have TY:=ab ty;clear Ha Hb ha hb tx ty;rcases Nat.lt_trichotomy xs.length ys.length with hl | hl | hl
 ·have hne:(((xs.length:Nat):Int) != ((ys.length:Nat):Int))=true:=by rw [bne_iff_ne];omega
  have E:=ab (pD (cw SA.out TY.out hl));go_enter Tryz.func73,Tryz.ntmps73
  go_wp2;go_ret;exact ⟨by rw [E.out];rfl,0,rfl⟩
 ·have hne:(((xs.length:Nat):Int) != ((ys.length:Nat):Int))=false:=by rw [bne_eq_false_iff_eq];omega
  have HL:=ab hl;have hl1:xs.length<=ys.length:=by omega
  have hl2:ys.length<=xs.length:=by omega
  clear hl;go_enter Tryz.func73,Tryz.ntmps73
  go_wp2;go_loopw [5] (fun i wr=>∃ (z:Int) (q:Nat),-1<=z/\z<xs.length/\i=.int .i64 z/\wr=w.drewN q/\Hid (xs.drop (z+1).toNat=ys.drop (z+1).toNat)) (fun i _=>(intOf i+1).toNat)
  case atStart=>exact ⟨(xs.length:Int)-1,0,by omega,by omega,rfl,rfl,by rw [List.drop_of_length_le (by omega),List.drop_of_length_le (by omega)];rfl⟩
  case round =>
   obtain ⟨z,q,hz1,hz2,rfl,rfl,HD⟩:=hrel;by_cases h0:z<0
   ·go_wp2;go_ret;refine ⟨?_,q,rfl⟩;have:=HD.out;rw [show (z+1).toNat=0 from by omega] at this;simp only [List.drop_zero] at this;rw [this,xf];rfl
   ·obtain ⟨j,rfl⟩:∃ j:Nat,z=j:=⟨z.toNat,by omega⟩;have hjx:j<xs.length:=by omega
    have hjy:j<ys.length:=by omega
    obtain ⟨b,off,rfl,hbl,hcell⟩:=aG HA j hjx;obtain ⟨b2,off2,rfl,hbl2,hcell2⟩:=aG HB j hjy;obtain ⟨x,ex⟩:∃ x,x=xs[j]:=⟨_,rfl⟩;obtain ⟨y,ey⟩:∃ y,y=ys[j]:=⟨_,rfl⟩;rw [<- ex] at hcell;rw [<- ey] at hcell2;have EX:=ab ex;have EY:=ab ey;clear ex ey;have HD':=HD.out;rw [show ((j:Int)+1).toNat=j+1 from by omega] at HD';have HE:=ab HD';clear HD' HD;rcases Nat.lt_trichotomy x y with hxy | hxy | hxy
    ·have hb1:(((x:Nat):Int) != ((y:Nat):Int))=true:=by rw [bne_iff_ne];omega
     go_wp2;go_quiet (fail)
     go_wp2;go_quiet (fail)
     go_wp2;go_ret;refine ⟨?_,_,by simp only [World.drewN_drewN];rfl⟩;rw [pD (fP xs ys j hjx hjy SA.out HE.out (by rw [<- EX.out,<- EY.out];exact hxy))];rfl
    ·have hb1:(((x:Nat):Int) != ((y:Nat):Int))=false:=by rw [bne_eq_false_iff_eq];omega
     have HXY:=ab hxy;clear hxy;go_wp2;go_quiet (fail)
     go_wp2;go_roundw
     case rel=>exact ⟨(j:Int)-1,_,by omega,by omega,by go_num,rfl,by
      rw [show ((j:Int)-1+1).toNat=j from by omega,List.drop_eq_getElem_cons hjx,List.drop_eq_getElem_cons hjy,HE.out,<- EX.out,<- EY.out,HXY.out];rfl⟩
     case measure=>simp [intOf]
    ·have hb1:(((x:Nat):Int) != ((y:Nat):Int))=true:=by rw [bne_iff_ne];omega
     have hb2:¬ ((x:Nat):Int)<((y:Nat):Int):=by omega
     go_wp2;go_quiet (fail)
     go_wp2;go_quiet (fail)
     go_wp2;go_ret;refine ⟨?_,_,by simp only [World.drewN_drewN];rfl⟩;rw [pC (fP ys xs j hjy hjx SB.out HE.out.symm (by rw [<- EX.out,<- EY.out];exact hxy))];rfl
 ·have hne:(((xs.length:Nat):Int) != ((ys.length:Nat):Int))=true:=by rw [bne_iff_ne];omega
  have E:=ab (pC (cw SB.out TX.out hl));go_enter Tryz.func73,Tryz.ntmps73
  go_wp2;go_ret;exact ⟨by rw [E.out];rfl,0,rfl⟩
theorem r9 (va vb:Value) (m n L M:Nat) (w:World) (ha:aU w va m L) (hb:aU w vb n M) :
  Calls Tryz.prog 73 #[va,vb] w fun e w'=>e=.returned (.int .i64 (iG m n))/\∃ q,w'=w.drewN q:=by
 obtain ⟨xs,x1,x2,x3,x4⟩:=ha;obtain ⟨ys,y1,y2,y3,y4⟩:=hb;rw [<- x3,<- y3];exact oP va vb xs ys w x1 y1 x2 y2
def oI (w wr:World) (xs ys:List Nat) (i:Nat):Prop :=
 ∃ done:List Nat,done.length=i+ys.length/\Sm done/\ch wr w.heap.size (done++List.replicate (xs.length-i) 0)/\w.grownBy wr none/\ak done=ak (xs.take i)*ak ys
def jL (w wr:World) (xs ys:List Nat) (i j x c:Nat):Prop :=
 ∃ done mid:List Nat,done.length=i+ys.length/\mid.length=j/\Sm done/\Sm mid/\ch wr w.heap.size (done.take i++mid++done.drop (i+j)++List.replicate (xs.length-i) 0)/\w.grownBy wr none /\
  ak done=ak (xs.take i)*ak ys/\ak mid+4294967296^j*c=ak ((done.drop i).take j)+x*ak (ys.take j)
theorem oI.inn {w wr:World} {xs ys:List Nat} {i:Nat} (h:oI w wr xs ys i) (x:Nat):jL w wr xs ys i 0 x 0:=by
 obtain ⟨done,h1,h2,h3,h4,h5⟩:=h;refine ⟨done,[],h1,rfl,h2,Sm.nil,?_,h4,h5,by simp [ak]⟩;rw [List.append_nil,Nat.add_zero,List.take_append_drop];exact h3
theorem jL.at {w wr:World} {xs ys:List Nat} {i j x c:Nat} (h:jL w wr xs ys i j x c) (hj:j<ys.length) :
  ∃ r,r<4294967296/\wr.cell? ⟨w.heap.size,i+j,none⟩=some (.int .u32 (r:Nat))/\wr.frozen? ⟨w.heap.size,i+j,none⟩=false /\
   ∀ (y:Nat) (z:Int),y=ys[j]->z=(((c+(x*y+r)) % 4294967296:Nat):Int)->jL w (wr.setCell ⟨w.heap.size,i+j,none⟩ (.int .u32 z)) xs ys i (j+1) x ((c+(x*y+r)) / 4294967296):=by
 obtain ⟨done,mid,h1,h1',h2,h2',h3,h4,h5,h6⟩:=h;have hd:i+j<done.length:=by omega
 have e:done.drop (i+j)=done[i+j] :: done.drop (i+j+1):=List.drop_eq_getElem_cons hd;have hli:(done.take i).length=i:=by rw [List.length_take];omega
 have hget:(done.take i++mid++done.drop (i+j)++List.replicate (xs.length-i) 0)[i+j]? = some done[i+j]:=by
  rw [List.append_assoc,List.getElem?_append_right (by simp [hli,h1']),e];have e3:i+j-(done.take i++mid).length=0:=by simp [hli,h1']
  rw [e3];rfl
 have hlt:i+j<(done.take i++mid++done.drop (i+j)++List.replicate (xs.length-i) 0).length:=(List.getElem?_eq_some_iff.1 hget).1;refine ⟨done[i+j],h2.get _ hd,?_,h3.free _,?_⟩
 ·rw [h3.cell (i+j) hlt,(List.getElem?_eq_some_iff.1 hget).2]
 ·intro y z hy hz;refine ⟨done,mid++[(c+(x*y+done[i+j])) % 4294967296],h1,by simp [h1'],h2,h2'.snoc _,?_,ai h4 _ _ (Nat.le_refl _),h5,?_⟩
  ·have:=h3.set (i+j) ((c+(x*y+done[i+j])) % 4294967296);rw [hz];have e2:(done.take i++mid++done.drop (i+j)++List.replicate (xs.length-i) 0).set (i+j) ((c+(x*y+done[i+j])) % 4294967296)
     = done.take i++(mid++[(c+(x*y+done[i+j])) % 4294967296])++done.drop (i+(j+1))++List.replicate (xs.length-i) 0:=by
    rw [e,List.append_assoc,List.set_append_right _ _ (by simp [hli,h1'])];have e3:i+j-(done.take i++mid).length=0:=by simp [hli,h1']
    rw [e3];simp [Nat.add_assoc]
   rw [e2] at this;exact this
  ·rw [aO,h1',Nat.pow_succ,Nat.add_assoc,fz,Nat.mul_add,<- Nat.add_assoc,h6,ay ys j hj,<- hy,
    ay (done.drop i) j (by rw [List.length_drop];omega),List.getElem_drop,Nat.mul_add (4294967296^j),Nat.mul_add x]
   rw [show x*(4294967296^j*y)=4294967296^j*(x*y) from by rw [Nat.mul_left_comm]];omega
theorem jL.out {w wr:World} {xs ys:List Nat} {i x c:Nat} (h:jL w wr xs ys i ys.length x c) (hi:i<xs.length) (hx:x=xs[i]) (hc:c<4294967296) (z:Int) (hz:z=(c:Int)) :
  wr.frozen? ⟨w.heap.size,i+ys.length,none⟩=false/\(∃ v,wr.cell? ⟨w.heap.size,i+ys.length,none⟩=some v) /\
  oI w (wr.setCell ⟨w.heap.size,i+ys.length,none⟩ (.int .u32 z)) xs ys (i+1):=by
 obtain ⟨done,mid,h1,h1',h2,h2',h3,h4,h5,h6⟩:=h;have hli:(done.take i).length=i:=by rw [List.length_take];omega
 have e0:done.drop (i+ys.length)=[]:=List.drop_of_length_le (by omega);rw [e0,List.append_nil] at h3;have hl:(done.take i++mid).length=i+ys.length:=by simp [hli,h1']
 refine ⟨h3.free _,⟨_,h3.cell (i+ys.length) (by simp [hli,h1'];omega)⟩,?_⟩;have:=h3.set (i+ys.length) c;rw [dR _ _ _ _ hl (by omega)] at this;rw [hz];refine ⟨done.take i++mid++[c],by simp [hli,h1'];omega,((h2.take _).append h2').append (Sm.cons hc Sm.nil),?_,ai h4 _ _ (Nat.le_refl _),?_⟩
 ·rw [show xs.length-(i+1)=xs.length-i-1 from by omega];exact this
 ·rw [aO,hl,bN,hli,Nat.pow_add,Nat.mul_assoc,Nat.add_assoc,<- Nat.mul_add,h6,show (done.drop i).take ys.length=done.drop i from List.take_of_length_le (by rw [List.length_drop];omega),show ys.take ys.length=ys from List.take_of_length_le (Nat.le_refl _),
   ay xs i hi,<- hx,Nat.add_mul,<- h5,Nat.mul_add,<- Nat.add_assoc]
  have e1:ak done=ak (done.take i)+4294967296^i*ak (done.drop i):=by
   have:=bN (done.take i) (done.drop i);rw [List.take_append_drop,hli] at this;exact this
  rw [e1,Nat.mul_assoc]
theorem jL.drewN {w wr:World} {xs ys:List Nat} {i j x c:Nat} (h:jL w wr xs ys i j x c) (q:Nat):jL w (wr.drewN q) xs ys i j x c:=by
 obtain ⟨done,mid,h1,h1',h2,h2',h3,h4,h5,h6⟩:=h;exact ⟨done,mid,h1,h1',h2,h2',h3.drewN q,ar h4 q,h5,h6⟩
theorem mul_ws (va vb:Value) (xs ys:List Nat) (w:World) (ha:Ws w va xs) (hb:Ws w vb ys) (hx0:0<xs.length) (hy0:0<ys.length) (hl:xs.length+ys.length<=10000000000000) :
  Calls Tryz.prog 63 #[va,vb] w fun e w'=>∃ v',e=.returned v'/\aU w' v' (ak xs*ak ys) (xs.length+ys.length)/\w.grownBy w' none/\bA w v':=by
 obtain ⟨ao,ca,rfl,hca,hca',Ha⟩:=ha.open;obtain ⟨bo,cb,rfl,hcb,hcb',Hb⟩:=hb.open;unfold maxLen at hca' hcb';have hne1:(((xs.length:Nat):Int)==0)=false:=beq_eq_false_iff_ne.2 (by omega);have hne2:(((ys.length:Nat):Int)==0)=false:=beq_eq_false_iff_ne.2 (by omega);have HA:=ab Ha;have HB:=ab Hb;have SA:=ab ha.sm;have SB:=ab hb.sm;clear Ha Hb ha hb;go_enter Tryz.func63,Tryz.ntmps63
 go_wp2_with (at_make;refine aD _ rfl _ _ 43 rfl Tryz.underlying43 Tryz.info32 _ _ _ _ (xs.length+ys.length) rfl rfl (by omega) (by omega) (by omega) ?_)
 intro w1 harr hgr;have HR:=ab harr;have HG:=ab hgr;clear harr hgr;go_wp2;go_loopw [6] (fun i wr=>∃ k:Nat,k<=xs.length/\i=.int .i64 k/\Hid (oI w wr xs ys k)) (fun i _=>xs.length-(intOf i).toNat)
 case atStart=>exact ⟨0,Nat.zero_le _,rfl,List.replicate ys.length 0,by simp,Sm.replicate _,by
  have:=HR.out;rw [Nat.add_comm,<- List.replicate_append_replicate] at this;exact this,HG.out,by simp [ak,iK]⟩
 case round =>
  obtain ⟨i,hk,rfl,HI⟩:=hrel;by_cases hlt:i<xs.length
  ·obtain ⟨b,off,rfl,hbl,hcell⟩:=aG HA i hlt;have hx:=(aG SA).get i hlt;obtain ⟨x,ex⟩:∃ x,x=xs[i]:=⟨_,rfl⟩;rw [<- ex] at hcell hx;have EX:=ab ex;have HC:=ab hcell;clear ex hcell;go_wp2;go_loopw [7,8] (fun cv jv wr=>∃ j c:Nat,j<=ys.length/\c<4294967296/\jv=.int .i64 j/\cv=.int .u64 c/\Hid (jL w wr xs ys i j x c)) (fun _ jv _=>ys.length-(intOf jv).toNat)
   case atStart=>exact ⟨0,0,Nat.zero_le _,by omega,rfl,rfl,oI.inn HI.out x⟩
   case round =>
    clear HI;obtain ⟨j,c,hj,hc,rfl,rfl,HJ⟩:=hrel;have hg:w.grownBy wr none:=by
     obtain ⟨_,_,_,_,_,_,_,h4,_,_⟩:=HJ.out;exact h4
    by_cases hlt2:j<ys.length
    ·obtain ⟨b2,off2,rfl,hbl2,hcell2⟩:=aG HB j hlt2;have hy:=(aG SB).get j hlt2;obtain ⟨y,ey⟩:∃ y,y=ys[j]:=⟨_,rfl⟩;rw [<- ey] at hcell2 hy;have hcy:wr.cell? ⟨b2,off2+j,none⟩=some (.int .u32 (y:Nat)):=hg.cell hcell2 (by simp);have hcx:wr.cell? ⟨b,off+i,none⟩=some (.int .u32 (x:Nat)):=hg.cell HC.out (by simp);obtain ⟨r,hr,hcr,hfr,hstep⟩:=HJ.out.at hlt2;have HS:=ab (hstep y);have EY:=ab ey;have hp:(x:Int)*(y:Int)<=18446744065119617025:=lC x y hx hy;have hp0:0<=(x:Int)*(y:Int):=Int.mul_nonneg (by omega) (by omega);clear hcell2 hstep ey hg;go_wp2;go_quiet (fail)
     go_wp2;go_roundw
     case rel=>exact ⟨j+1,(c+(x*y+r)) / 4294967296,by omega,tz x y c r hx hy hc hr,by go_num,by rw [oN],jL.drewN (HS.out _ EY.out (by rw [ns])) _⟩
     case measure=>simp [intOf];omega
    ·obtain rfl:j=ys.length:=by omega
     obtain ⟨hfr,⟨v0,hco⟩,hout⟩:=HJ.out.out hlt EX.out hc _ rfl;have HO:=ab hout;clear hout;go_wp2;go_roundw
     case rel=>exact ⟨i+1,by omega,by go_num,HO.out⟩
     case measure=>simp [intOf];omega
  ·obtain rfl:i=xs.length:=by omega
   go_wp2_with fail;obtain ⟨done,h1,h2,h3,h4,h5⟩:=HI.out;rw [Nat.sub_self,List.replicate_zero,List.append_nil] at h3;have hw:=h3.ws h2 (by rw [h1];unfold maxLen;omega);have H1:=ab h1;have H3:=ab h5;rw [h1] at hw;clear h1 h5 h3 h2;refine (dX _ done _ hw).mono ?_;rintro e w2 ⟨v',rfl,rfl,k1,k2⟩;clear hw;go_wp2;go_ret;refine ⟨v',rfl,?_,h4,?_⟩
   ·rw [H3.out,H1.out,List.take_of_length_le (Nat.le_refl _)] at k1;exact k1
   ·intro j hj;rw [k2] at hj;simp [az] at hj;omega
theorem Cb (va vb:Value) (xs ys:List Nat) (w:World) (ha:Ws w va xs) (hb:Ws w vb ys) (h0:xs.length=0∨ys.length=0) :
  Calls Tryz.prog 63 #[va,vb] w fun e w'=>e=.returned (.slice none 0 0)/\w'=w:=by
 obtain ⟨ao,ca,rfl,hca,hca',Ha⟩:=ha.open;obtain ⟨bo,cb,rfl,hcb,hcb',Hb⟩:=hb.open;clear Ha Hb ha hb;by_cases hx:xs.length=0
 ·have hne1:(((xs.length:Nat):Int)==0)=true:=beq_iff_eq.2 (by omega);clear h0 hx;go_enter Tryz.func63,Tryz.ntmps63
  go_wp2;go_ret;exact ⟨rfl,rfl⟩
 ·have hne1:(((xs.length:Nat):Int)==0)=false:=beq_eq_false_iff_ne.2 (by omega);have hne2:(((ys.length:Nat):Int)==0)=true:=beq_iff_eq.2 (by omega);clear h0 hx;go_enter Tryz.func63,Tryz.ntmps63
  go_wp2;go_ret;exact ⟨rfl,rfl⟩
theorem ye (va vb:Value) (m n L M:Nat) (w:World) (ha:aU w va m L) (hb:aU w vb n M) (hl:L+M<=10000000000000) :
  Calls Tryz.prog 63 #[va,vb] w fun e w'=>∃ v',e=.returned v'/\aU w' v' (m*n) (L+M)/\w.grownBy w' none/\bA w v':=by
 obtain ⟨xs,x1,x2,x3,x4⟩:=ha;obtain ⟨ys,y1,y2,y3,y4⟩:=hb;by_cases h:xs.length=0∨ys.length=0
 ·refine (Cb va vb xs ys w x1 y1 h).mono ?_;rintro e w' ⟨rfl,rfl⟩;refine ⟨_,rfl,⟨[],Ws.nil _,rfl,?_,by simp⟩,ae _ _,fun k hk=>by simp [az] at hk⟩;rcases h with h | h
  ·have:xs=[]:=List.eq_nil_of_length_eq_zero h;subst this;rw [<- x3];simp [ak]
  ·have:ys=[]:=List.eq_nil_of_length_eq_zero h;subst this;rw [<- y3];simp [ak]
 ·refine (mul_ws va vb xs ys w x1 y1 (by omega) (by omega) (by omega)).mono ?_;rintro e w' ⟨v',rfl,k1,k2,k3⟩;rw [x3,y3] at k1;exact ⟨v',rfl,k1.mono (by omega),k2,k3⟩
def jO (w wr:World) (xs:List Nat) (d k r:Nat):Prop :=
 ∃ qs:List Nat,qs.length=xs.length-k/\Sm qs/\ch wr w.heap.size (List.replicate k 0++qs)/\w.grownBy wr none/\ak (xs.drop k)=ak qs*d+r
theorem jO.step {w wr:World} {xs:List Nat} {d j r:Nat} (h:jO w wr xs d (j+1) r) (hj:j<xs.length) (hd:r<d) (hd2:d<4294967296) (x:Nat) (hx:x=xs[j]) (hxb:x<4294967296) (z:Int) (hz:z=(((r*4294967296+x) / d:Nat):Int)) :
  jO w (wr.setCell ⟨w.heap.size,j,none⟩ (.int .u32 z)) xs d j ((r*4294967296+x) % d):=by
 obtain ⟨qs,h1,h2,h3,h4,h5⟩:=h;have hq:(r*4294967296+x) / d<4294967296:=by
  rw [Nat.div_lt_iff_lt_mul (by omega)];have:(r+1)*4294967296<=d*4294967296:=Nat.mul_le_mul_right _ (by omega);rw [Nat.mul_comm 4294967296 d];omega
 refine ⟨((r*4294967296+x) / d) :: qs,by simp [h1];omega,Sm.cons hq h2,?_,ai h4 _ _ (Nat.le_refl _),?_⟩
 ·have:=h3.set j ((r*4294967296+x) / d);rw [hz];have e:(List.replicate (j+1) 0++qs).set j ((r*4294967296+x) / d)=List.replicate j 0++((r*4294967296+x) / d) :: qs:=by
   rw [<- List.replicate_append_replicate (n:=j) (m:=1),List.append_assoc,List.set_append_right _ _ (by simp)];simp
  rw [e] at this;exact this
 ·rw [List.drop_eq_getElem_cons hj,<- hx];simp only [ak,h5];have e:=Nat.div_add_mod (r*4294967296+x) d;rw [Nat.add_mul,Nat.mul_add,Nat.mul_assoc,Nat.mul_comm ((r*4294967296+x) / d) d];omega
theorem CV (va:Value) (xs:List Nat) (d:Nat) (w:World) (ha:Ws w va xs) (hd0:0<d) (hd:d<4294967296) (hl:xs.length<=10000000000000) :
  Calls Tryz.prog 123 #[va,.int .u32 (d:Nat)] w fun e w'=>∃ v' r,e=.returned (.tuple #[v',.int .u32 (r:Nat)])/\r=ak xs % d/\aU w' v' (ak xs / d) xs.length/\w.grownBy w' none/\bA w v':=by
 obtain ⟨ao,ca,rfl,hca,hca',Ha⟩:=ha.open;unfold maxLen at hca';have HA:=ab Ha;have SA:=ab ha.sm;clear Ha ha;go_enter Tryz.func123,Tryz.ntmps123
 go_wp2_with (at_make;refine aD _ rfl _ _ 43 rfl Tryz.underlying43 Tryz.info32 _ _ _ _ xs.length rfl rfl (by omega) (by omega) (by omega) ?_)
 intro w1 harr hgr;have HR:=ab harr;have HG:=ab hgr;clear harr hgr;go_wp2;go_loopw [7,8] (fun rv iv wr=>∃ (z:Int) (r:Nat),-1<=z/\z<xs.length/\r<d/\iv=.int .i64 z/\rv=.int .u64 r/\Hid (jO w wr xs d (z+1).toNat r)) (fun _ iv _=>(intOf iv+1).toNat)
 case atStart=>exact ⟨(xs.length:Int)-1,0,by omega,by omega,by omega,rfl,rfl,[],by simp,Sm.nil,by
  rw [show ((xs.length:Int)-1+1).toNat=xs.length from by omega,List.append_nil];exact HR.out,HG.out,by
  rw [List.drop_of_length_le (by omega)];simp [ak]⟩
 case round =>
  obtain ⟨z,r,hz1,hz2,hr,rfl,rfl,HI⟩:=hrel;by_cases h0:z<0
  ·go_wp2_with fail;obtain ⟨qs,h1,h2,h3,h4,h5⟩:=HI.out;rw [show (z+1).toNat=0 from by omega] at h1 h3 h5;simp only [List.replicate_zero,List.nil_append,Nat.sub_zero,List.drop_zero] at h1 h3 h5;have hw:=h3.ws h2 (by rw [h1];unfold maxLen;omega);rw [h1] at hw;have H1:=ab h1;have H5:=ab h5;clear h1 h5 h3 h2;refine (dX _ qs _ hw).mono ?_;rintro e w2 ⟨v',rfl,rfl,k1,k2⟩;clear hw;go_wp2;go_ret2
   refine ⟨v',r,rfl,?_,?_,h4,?_⟩
   ·rw [H5.out,Nat.mul_comm,Nat.mul_add_mod,Nat.mod_eq_of_lt hr]
   ·rw [H1.out] at k1;have e:ak xs / d=ak qs:=by
     rw [H5.out,Nat.mul_comm,Nat.mul_add_div hd0,Nat.div_eq_of_lt hr,Nat.add_zero]
    rw [e];exact k1
   ·intro j hj;rw [k2] at hj;simp [az] at hj;omega
  ·obtain ⟨j,rfl⟩:∃ j:Nat,z=j:=⟨z.toNat,by omega⟩;have hjx:j<xs.length:=by omega
   obtain ⟨b,off,rfl,hbl,hcell⟩:=aG HA j hjx;have hx:=(aG SA).get j hjx;obtain ⟨x,ex⟩:∃ x,x=xs[j]:=⟨_,rfl⟩;rw [<- ex] at hcell hx;have EX:=ab ex;clear ex;have HI':=HI.out;rw [show ((j:Int)+1).toNat=j+1 from by omega] at HI';have hcx:wr.cell? ⟨b,off+j,none⟩=some (.int .u32 (x:Nat)):=by
    obtain ⟨_,_,_,_,h4,_⟩:=HI';exact h4.cell hcell (by simp)
   have hfr:wr.frozen? ⟨w.heap.size,j,none⟩=false:=by
    obtain ⟨_,_,_,h3,h4,_⟩:=HI';exact h3.free j
   have hco:∃ v,wr.cell? ⟨w.heap.size,j,none⟩=some v:=by
    obtain ⟨_,_,_,h3,h4,_⟩:=HI';exact ⟨_,h3.cell j (by simp;omega)⟩
   obtain ⟨v0,hco⟩:=hco;have HJ:=ab HI';obtain ⟨m,hm⟩:∃ m,m=r*4294967296+x:=⟨_,rfl⟩;have hor:=jq r x (by omega) hx;rw [<- hm] at hor;have hmb:m<18446744073709551616:=by omega
   have hq:m / d<4294967296:=by
    rw [Nat.div_lt_iff_lt_mul (by omega)];have:(r+1)*4294967296<=d*4294967296:=Nat.mul_le_mul_right _ (by omega);rw [Nat.mul_comm 4294967296 d];omega
   have HQ:=ab hq;have HM:=ab hm;clear hcell HI HI' hq hm;go_wp2;go_roundw
   case rel =>
    refine ⟨(j:Int)-1,m % d,by omega,by omega,Nat.mod_lt _ hd0,rfl,by rw [Int.natCast_emod],?_⟩;rw [show ((j:Int)-1+1).toNat=j from by omega,HM.out];refine jO.step HJ.out hjx hr hd x EX.out hx _ ?_;have hq:=HQ.out;rw [<- HM.out,<- Int.natCast_ediv];generalize m / d=q at hq ⊢;rw [IntWalk.u64_in _ ⟨by omega,by omega⟩];omega
   case measure=>simp [intOf]
theorem iV (va:Value) (xs:List Nat) (w:World) (ha:Ws w va xs) (hl:xs.length<=2) :
  Calls Tryz.prog 122 #[va] w fun e w'=>e=.returned (.int .u64 (ak xs:Nat))/\w'=w:=by
 obtain ⟨ao,ca,rfl,hca,hca',Ha⟩:=ha.open;have SA:=ha.sm;clear ha hca';match xs,hl with
 | [],_ =>
  clear Ha;go_enter Tryz.func122,Tryz.ntmps122
  go_wp2;go_ret;exact ⟨rfl,rfl⟩
 | [x],_ =>
  obtain ⟨b,off,rfl,hb,hc⟩:=Ha 0 (by simp);simp only [Nat.add_zero,List.getElem_cons_zero] at hc;have hx:=SA x (by simp);clear Ha SA;go_enter Tryz.func122,Tryz.ntmps122
  go_wp2;go_ret;exact ⟨by simp [ak],rfl⟩
 | [x,y],_ =>
  obtain ⟨b,off,rfl,hb,hc⟩:=Ha 0 (by simp);obtain ⟨b',off',e,hb',hc'⟩:=Ha 1 (by simp);simp only [Option.some.injEq,Addr.mk.injEq,and_true] at e;obtain ⟨rfl,rfl⟩:=e;simp only [Nat.add_zero,List.getElem_cons_zero] at hc;simp only [List.getElem_cons_succ,List.getElem_cons_zero] at hc';have hx:=SA x (by simp);have hy:=SA y (by simp);have hor:=uE y x hy hx;clear Ha SA;go_enter Tryz.func122,Tryz.ntmps122
  go_wp2;go_ret;exact ⟨by simp [ak],rfl⟩
theorem zJ (va:Value) (xs:List Nat) (w:World) (ha:Ws w va xs) (hx0:0<xs.length) (t:Nat) (et:xs[xs.length-1]? = some t) (ht:0<t) (hl:xs.length<=10000000000000) :
  Calls Tryz.prog 124 #[va] w fun e w'=>(∃ n:Nat,e=.returned (.int .i64 (((xs.length:Int)-1)*32+n))/\1<=n/\n<=32/\2^(n-1)<=t/\t<2^n)/\w'=w:=by
 obtain ⟨ao,ca,rfl,hca,hca',Ha⟩:=ha.open;unfold maxLen at hca';have hne:(((xs.length:Nat):Int)==0)=false:=beq_eq_false_iff_ne.2 (by omega);obtain ⟨b,off,rfl,hb,hc⟩:=Ha (xs.length-1) (by omega);have htb:=ha.sm.get (xs.length-1) (by omega);clear Ha ha;obtain ⟨j,hj⟩:∃ j,xs.length=j+1:=⟨xs.length-1,by omega⟩;rw [List.getElem?_eq_getElem (by omega),Option.some.injEq] at et;rw [et] at hc htb;clear et;have hc':w.cell? ⟨b,off+j,none⟩=some (.int .u32 (t:Nat)):=by
  rw [show j=xs.length-1 from by omega];exact hc
 have HJ:=ab hj;clear hc;go_enter Tryz.func124,Tryz.ntmps124
 go_wp2;go_loop [3,4] (fun nv tv=>∃ k T:Nat,k<=32/\nv=.int .i64 k/\tv=.int .u32 (T:Nat)/\Hid (T=t / 2^k/\(k=0∨2^(k-1)<=t))) (fun _ tv=>(intOf tv).toNat)
 case atStart=>exact ⟨0,t,by omega,rfl,rfl,by simp,.inl rfl⟩
 case round =>
  obtain ⟨k,T,hk,rfl,rfl,HI⟩:=hrel;by_cases h0:T=0
  ·have hT:(((T:Nat):Int) != 0)=false:=by rw [bne_eq_false_iff_eq];omega
   have HT:=ab h0;clear h0;go_wp2;go_ret;refine ⟨⟨k,?_,?_,hk,?_,?_⟩,rfl⟩
   ·exact congrArg (fun z=>Ending.returned (Value.int .i64 z)) (by have:=HJ.out;omega)
   ·obtain ⟨h1,h2⟩:=HI.out;rcases h2 with rfl | h2
    ·rw [HT.out] at h1;simp at h1;omega
    ·have:k≠0:=by
      intro e;subst e;rw [HT.out] at h1;simp at h1;omega
     omega
   ·obtain ⟨h1,h2⟩:=HI.out;rcases h2 with rfl | h2
    ·simp;omega
    ·exact h2
   ·obtain ⟨h1,h2⟩:=HI.out;rw [HT.out] at h1;have:=Nat.div_eq_zero_iff.1 h1.symm;rcases this with h | h
    ·have:=Nat.two_pow_pos k;omega
    ·exact h
  ·have hT:(((T:Nat):Int) != 0)=true:=by rw [bne_iff_ne];omega
   have hpos:0<T:=by omega
   have hk32:k<32:=by
    obtain ⟨h1,h2⟩:=HI.out;rcases Nat.lt_or_ge k 32 with h | h
    ·exact h
    ·exfalso
     have e:k=32:=by omega
     subst e;rw [Nat.div_eq_of_lt (by omega)] at h1;omega
   go_wp2;go_round
   case rel =>
    refine ⟨k+1,T / 2,by omega,by go_num,by go_num,?_,.inr ?_⟩
    ·rw [HI.out.1,Nat.div_div_eq_div_mul,<- Nat.pow_succ]
    ·obtain ⟨h1,h2⟩:=HI.out;rw [Nat.add_sub_cancel];rw [h1] at hpos;exact (Nat.div_pos_iff.1 hpos).2
   case measure=>simp [intOf];omega
def lM (w wr:World) (xs:List Nat) (s k c:Nat):Prop :=
 ∃ done:List Nat,done.length=k/\Sm done/\ch wr w.heap.size (done++c :: List.replicate (xs.length-k) 0)/\w.grownBy wr none/\ak done+4294967296^k*c=ak (xs.take k)*2^s
theorem lM.step {w wr:World} {xs:List Nat} {s k c:Nat} (h:lM w wr xs s k c) (hk:k<xs.length) (hs:s<32) (hc:c<2^s) (x:Nat) (hx:x=xs[k]) (z1 z2:Int)
  (hz1:z1=((c+x*2^s % 4294967296:Nat):Int)) (hz2:z2=((x*2^s / 4294967296:Nat):Int)) :
  lM w ((wr.setCell ⟨w.heap.size,k,none⟩ (.int .u32 z1)).setCell ⟨w.heap.size,k+1,none⟩ (.int .u32 z2)) xs s (k+1) (x*2^s / 4294967296):=by
 obtain ⟨done,h1,h2,h3,h4,h5⟩:=h;have hb:=(xe s c x hs hc).2;refine ⟨done++[c+x*2^s % 4294967296],by simp [h1],h2.append (Sm.cons hb Sm.nil),?_,ai (ai h4 _ _ (Nat.le_refl _)) _ _ (Nat.le_refl _),?_⟩
 ·have:=(h3.set k (c+x*2^s % 4294967296)).set (k+1) (x*2^s / 4294967296);rw [hz1,hz2];have e:((done++c :: List.replicate (xs.length-k) 0).set k (c+x*2^s % 4294967296)).set (k+1) (x*2^s / 4294967296)
    = (done++[c+x*2^s % 4294967296])++(x*2^s / 4294967296) :: List.replicate (xs.length-(k+1)) 0:=by
   obtain ⟨m,hm⟩:∃ m,xs.length-k=m+1:=⟨xs.length-k-1,by omega⟩;rw [hm,show xs.length-(k+1)=m from by omega];subst h1;rw [List.set_append_right _ _ (Nat.le_refl _),List.set_append_right _ _ (by omega)];simp [List.replicate_succ]
  rw [e] at this;exact this
 ·rw [aO,h1,ay xs k hk,<- hx,Nat.add_mul,<- h5,Nat.pow_succ,Nat.mul_add,Nat.mul_assoc (4294967296^k) x];have:=fz (4294967296^k) (x*2^s);omega
theorem xX (va:Value) (xs:List Nat) (s:Nat) (w:World) (ha:Ws w va xs) (hs:s<32) (hx0:0<xs.length) (hl:xs.length<=10000000000000) :
  Calls Tryz.prog 125 #[va,.int .u64 (s:Nat)] w fun e w'=>∃ v',e=.returned v'/\aU w' v' (ak xs*2^s) (xs.length+1)/\w.grownBy w' none/\bA w v':=by
 obtain ⟨ao,ca,rfl,hca,hca',Ha⟩:=ha.open;unfold maxLen at hca';have hne:(((xs.length:Nat):Int)==0)=false:=beq_eq_false_iff_ne.2 (by omega);have HA:=ab Ha;have SA:=ab ha.sm;have hs1:((s:Nat):Int) / 32=0:=by omega
 have hs2:((s:Nat):Int) % 32=s:=by omega
 clear Ha ha;go_enter Tryz.func125,Tryz.ntmps125
 go_wp2_with (at_make;refine aD _ rfl _ _ 43 rfl Tryz.underlying43 Tryz.info32 _ _ _ _ (xs.length+1) rfl rfl (by omega) (by omega) (by omega) ?_)
 intro w1 harr hgr;have HR:=ab harr;have HG:=ab hgr;clear harr hgr;go_wp2;go_loopw [8] (fun i wr=>∃ k c:Nat,k<=xs.length/\i=.int .i64 k/\Hid (c<2^s)/\Hid (lM w wr xs s k c)) (fun i _=>xs.length-(intOf i).toNat)
 case atStart=>exact ⟨0,0,Nat.zero_le _,rfl,Nat.two_pow_pos s,[],rfl,Sm.nil,by
  have:=HR.out;rw [List.replicate_succ] at this;exact this,HG.out,by simp [ak]⟩
 case round =>
  obtain ⟨k,c,hk,rfl,HC,HI⟩:=hrel;by_cases hlt:k<xs.length
  ·obtain ⟨b,off,rfl,hbl,hcell⟩:=aG HA k hlt;have hx:=(aG SA).get k hlt;obtain ⟨x,ex⟩:∃ x,x=xs[k]:=⟨_,rfl⟩;rw [<- ex] at hcell hx;have EX:=ab ex;clear ex;obtain ⟨done,h1,h2,h3,h4,h5⟩:=HI.out;have hcx:wr.cell? ⟨b,off+k,none⟩=some (.int .u32 (x:Nat)):=h4.cell hcell (by simp);have hf1:wr.frozen? ⟨w.heap.size,k,none⟩=false:=h3.free k;have hf2:wr.frozen? ⟨w.heap.size,k+1,none⟩=false:=h3.free (k+1);have hc1:wr.cell? ⟨w.heap.size,k,none⟩=some (.int .u32 (c:Nat)):=by
    rw [h3.cell k (by simp [h1])];simp [h1]
   have hc2:wr.cell? ⟨w.heap.size,k+1,none⟩=some (.int .u32 ((0:Nat):Int)):=by
    rw [h3.cell (k+1) (by simp [h1];omega)];obtain ⟨m,hm⟩:∃ m,xs.length-k=m+1:=⟨xs.length-k-1,by omega⟩;simp [h1,hm,List.replicate_succ]
   clear h1 h2 h3 h4 h5 hcell;go_wp2;go_roundw
   case rel=>exact ⟨k+1,x*2^s / 4294967296,by omega,by go_num,BW x s hx,lM.step HI.out hlt hs HC.out x EX.out _ _ (xY c x s hx hs HC.out) (left_z2 x s hx hs)⟩
   case measure=>simp [intOf];omega
  ·obtain rfl:k=xs.length:=by omega
   go_wp2_with fail;obtain ⟨done,h1,h2,h3,h4,h5⟩:=HI.out;rw [Nat.sub_self,List.replicate_zero] at h3;have hc:=HC.out;have h1s:2^s<=2^31:=Nat.pow_le_pow_right (by decide) (by omega);have hlen:(done++[c]).length=xs.length+1:=by simp [h1]
   have hw:=h3.ws (h2.append (Sm.cons (by omega) Sm.nil)) (by rw [hlen];unfold maxLen;omega);rw [hlen] at hw;have HL:=ab hlen;have H1:=ab h1;have H5:=ab h5;clear h1 h5 h3 h2 hc h1s hlen;refine (dX _ (done++[c]) _ hw).mono ?_;rintro e w2 ⟨v',rfl,rfl,k1,k2⟩;clear hw;go_wp2;go_ret;refine ⟨v',rfl,?_,h4,?_⟩
   ·rw [HL.out,aO,H1.out,H5.out,List.take_of_length_le (Nat.le_refl _)] at k1;exact k1
   ·intro j hj;rw [k2] at hj;simp [az] at hj;omega
def iL (w wr:World) (xs:List Nat) (s k:Nat):Prop :=
 ∃ done:List Nat,done.length=k/\Sm done/\ch wr w.heap.size (done++List.replicate (xs.length-k) 0)/\w.grownBy wr none/\ak done=ak xs / 2^s % 4294967296^k
theorem iL.step {w wr:World} {xs:List Nat} {s k:Nat} (h:iL w wr xs s k) (hk:k<xs.length) (hs:s<32) (sx:Sm xs) (m:Nat) (hm:m=xs[k]+4294967296*xs.getD (k+1) 0) (z:Int) (hz:z=((m / 2^s % 4294967296:Nat):Int)) :
  iL w (wr.setCell ⟨w.heap.size,k,none⟩ (.int .u32 z)) xs s (k+1):=by
 obtain ⟨done,h1,h2,h3,h4,h5⟩:=h;refine ⟨done++[m / 2^s % 4294967296],by simp [h1],h2.snoc _,?_,ai h4 _ _ (Nat.le_refl _),?_⟩
 ·have:=h3.set k (m / 2^s % 4294967296);rw [dR done k _ _ h1 (by omega)] at this;rw [hz,show xs.length-(k+1)=xs.length-k-1 from by omega];exact this
 ·rw [aO,h1,h5,hm,<- pJ xs s k sx hs hk,Nat.pow_succ,Nat.mod_mul]
theorem CL (va:Value) (xs:List Nat) (s:Nat) (w:World) (ha:Ws w va xs) (hs:s<32) (hl:xs.length<=10000000000000) :
  Calls Tryz.prog 126 #[va,.int .u64 (s:Nat)] w fun e w'=>∃ v',e=.returned v'/\aU w' v' (ak xs / 2^s) xs.length/\w.grownBy w' none/\bA w v':=by
 obtain ⟨ao,ca,rfl,hca,hca',Ha⟩:=ha.open;unfold maxLen at hca';have HA:=ab Ha;have SA:=ab ha.sm;have hs1:((s:Nat):Int) / 32=0:=by omega
 have hs2:((s:Nat):Int) % 32=s:=by omega
 clear Ha ha;by_cases hx0:xs.length=0
 ·have e:xs=[]:=List.eq_nil_of_length_eq_zero hx0;subst e;go_enter Tryz.func126,Tryz.ntmps126
  go_wp2;go_ret;exact ⟨_,rfl,⟨[],Ws.nil _,rfl,by simp [ak],by simp⟩,ae _ _,fun k hk=>by simp [az] at hk⟩
 ·have hx1:0<xs.length:=by omega
  have hxn:¬ xs=[]:=by intro e;subst e;simp at hx1
  clear hx0;go_enter Tryz.func126,Tryz.ntmps126
  go_wp2_with (at_make;refine aD _ rfl _ _ 43 rfl Tryz.underlying43 Tryz.info32 _ _ _ _ xs.length rfl rfl (by omega) (by omega) (by omega) ?_)
  intro w1 harr hgr;have HR:=ab harr;have HG:=ab hgr;clear harr hgr;go_wp2;go_loopw [8] (fun i wr=>∃ k:Nat,k<=xs.length/\i=.int .i64 k/\Hid (iL w wr xs s k)) (fun i _=>xs.length-(intOf i).toNat)
  case atStart=>exact ⟨0,Nat.zero_le _,rfl,[],rfl,Sm.nil,HR.out,HG.out,by simp [ak,Nat.mod_one]⟩
  case round =>
   obtain ⟨k,hk,rfl,HI⟩:=hrel;by_cases hlt:k<xs.length
   ·obtain ⟨b,off,rfl,hbl,hcell⟩:=aG HA k hlt;have hx:=(aG SA).get k hlt;obtain ⟨x,ex⟩:∃ x,x=xs[k]:=⟨_,rfl⟩;rw [<- ex] at hcell hx;have EX:=ab ex;clear ex;obtain ⟨done,h1,h2,h3,h4,h5⟩:=HI.out;have hcx:wr.cell? ⟨b,off+k,none⟩=some (.int .u32 (x:Nat)):=h4.cell hcell (by simp);have hf1:wr.frozen? ⟨w.heap.size,k,none⟩=false:=h3.free k;have hco:∃ v,wr.cell? ⟨w.heap.size,k,none⟩=some v:=⟨_,h3.cell k (by simp [h1];omega)⟩;obtain ⟨v0,hco⟩:=hco;by_cases hlt2:k+1<xs.length
    ·obtain ⟨b',off',e',hbl',hcell'⟩:=aG HA (k+1) hlt2;simp only [Option.some.injEq,Addr.mk.injEq,and_true] at e';obtain ⟨rfl,rfl⟩:=e';have hy:=(aG SA).get (k+1) hlt2;obtain ⟨y,ey⟩:∃ y,y=xs[k+1]:=⟨_,rfl⟩;rw [<- ey] at hcell' hy;have EY:=ab ey;clear ey;have hcy:wr.cell? ⟨b,off+(k+1),none⟩=some (.int .u32 (y:Nat)):=h4.cell hcell' (by simp);have hor:=uE y x hy hx;obtain ⟨m,hm⟩:∃ m,m=x+4294967296*y:=⟨_,rfl⟩;rw [<- hm] at hor;have hmb:m<18446744073709551616:=by omega
     have HM:=ab hm;clear h1 h2 h3 h4 h5 hcell hcell' hm;go_wp2;go_roundw
     case rel=>exact ⟨k+1,by omega,by go_num,iL.step HI.out hlt hs SA.out m (by rw [HM.out,EX.out,EY.out];simp [hlt2]) _ (by rw [mh];omega)⟩
     case measure=>simp [intOf];omega
    ·clear h1 h2 h3 h4 h5 hcell;go_wp2;go_roundw
     case rel=>exact ⟨k+1,by omega,by go_num,iL.step HI.out hlt hs SA.out x (by rw [EX.out];simp [List.getD,hlt2]) _ (by rw [mh];omega)⟩
     case measure=>simp [intOf];omega
   ·obtain rfl:k=xs.length:=by omega
    go_wp2_with fail;obtain ⟨done,h1,h2,h3,h4,h5⟩:=HI.out;rw [Nat.sub_self,List.replicate_zero,List.append_nil] at h3;have hw:=h3.ws h2 (by rw [h1];unfold maxLen;omega);rw [h1] at hw;have H1:=ab h1;have H5:=ab h5;clear h1 h5 h3 h2;refine (dX _ done _ hw).mono ?_;rintro e w2 ⟨v',rfl,rfl,k1,k2⟩;clear hw;go_wp2;go_ret;refine ⟨v',rfl,?_,h4,?_⟩
    ·have hlt:=bD SA.out;have hle:=Nat.div_le_self (ak xs) (2^s);rw [H1.out,H5.out,Nat.mod_eq_of_lt (by omega)] at k1;exact k1
    ·intro j hj;rw [k2] at hj;simp [az] at hj;omega
def gO (w wr:World) (gu gq:Nat) (us qs vs:List Nat) (j g k c d:Nat):Prop :=
 ∃ mid:List Nat,mid.length=k/\Sm mid/\ch wr gu (us.take j++mid++us.drop (j+k))/\ch wr gq qs/\w.grownBy wr none/\ak mid+g*ak (vs.take k)=ak ((us.drop j).take k)+4294967296^k*(c+d)
theorem gO.step {w wr:World} {gu gq:Nat} {us qs vs:List Nat} {j g k c d:Nat} (h:gO w wr gu gq us qs vs j g k c d) (hk:k<vs.length) (hj:j+k<us.length) (hgu:w.heap.size<=gu) (hne:gq≠gu)
  (x e:Nat) (z:Int) (hz:z=(x:Int)) (hx:x<4294967296) (hs:x+(c+g*vs[k]) % 4294967296+d=us[j+k]+4294967296*e) :
  gO w (wr.setCell ⟨gu,j+k,none⟩ (.int .u32 z)) gu gq us qs vs j g (k+1) ((c+g*vs[k]) / 4294967296) e:=by
 obtain ⟨mid,h1,h2,h3,h4,h5,h6⟩:=h;refine ⟨mid++[x],by simp [h1],h2.append (Sm.cons hx Sm.nil),?_,?_,ai h5 _ _ hgu,?_⟩
 ·have:=h3.set (j+k) x;rw [iu us mid j k x h1 hj] at this;rw [hz];exact this
 ·unfold ch;rw [heap_setCell_other _ _ _ _ hne];exact h4
 ·rw [aO,h1,ay vs k hk,ay (us.drop j) k (by rw [List.length_drop];omega),List.getElem_drop,Nat.pow_succ];have e1:=Nat.mod_add_div (c+g*vs[k]) 4294967296;generalize (c+g*vs[k]) % 4294967296=lo at hs e1;generalize (c+g*vs[k]) / 4294967296=hi at e1 ⊢;generalize us[j+k]=u at hs ⊢;generalize vs[k]=v at e1 ⊢;generalize 4294967296^k=p at h6 ⊢;rw [Nat.mul_add g,Nat.mul_left_comm g p v];have e2:p*x+p*lo+p*d=p*u+p*(4294967296*e):=by
   rw [<- Nat.mul_add,<- Nat.mul_add,<- Nat.mul_add,hs]
  have e3:p*lo+p*(4294967296*hi)=p*c+p*(g*v):=by
   rw [<- Nat.mul_add,<- Nat.mul_add,e1]
  rw [Nat.mul_add p c d] at h6;rw [Nat.mul_assoc,Nat.mul_add 4294967296,Nat.mul_add p];omega
def cQ (w wr:World) (gu gq:Nat) (vs:List Nat) (N A k:Nat) (us qs:List Nat):Prop :=
 us.length=N/\qs.length+k+vs.length=N/\Sm us/\Sm qs/\ch wr gu us/\ch wr gq (List.replicate k 0++qs)/\w.grownBy wr none/\ak (us.drop k)<ak vs /\
  A=ak (us.take k)+4294967296^k*(ak qs*ak vs+ak (us.drop k))
theorem cQ.next {w wr wr':World} {gu gq:Nat} {vs:List Nat} {N A j:Nat} {us qs us2:List Nat} (h:cQ w wr gu gq vs N A (j+1) us qs) (hq:ak (us.drop j) / ak vs<4294967296)
  (h1:us2.length=N) (h2:us2.take j=us.take j) (h3:ak (us2.drop j)=ak (us.drop j) % ak vs) (h4:Sm us2) (a1:ch wr' gu us2) (a2:ch wr' gq (List.replicate (j+1) 0++qs)) (hg:w.grownBy wr' none)
  (hgq:w.heap.size<=gq) (hne:gq≠gu) (z:Int) (hz:z=((ak (us.drop j) / ak vs:Nat):Int)) :
  cQ w (wr'.setCell ⟨gq,j,none⟩ (.int .u32 z)) gu gq vs N A j us2 ((ak (us.drop j) / ak vs) :: qs):=by
 obtain ⟨i1,i2,i3,i4,i5,i6,i7,i8,i9⟩:=h;have hpos:0<ak vs:=by omega
 refine ⟨h1,by simp;omega,h4,Sm.cons hq i4,?_,?_,ai hg _ _ hgq,by rw [h3];exact Nat.mod_lt _ hpos,?_⟩
 ·unfold ch;rw [heap_setCell_other _ _ _ _ (fun e=>hne e.symm)];exact a1
 ·have:=a2.set j (ak (us.drop j) / ak vs);rw [hz];have e:(List.replicate (j+1) 0++qs).set j (ak (us.drop j) / ak vs)=List.replicate j 0++(ak (us.drop j) / ak vs) :: qs:=by
   rw [<- List.replicate_append_replicate (n:=j) (m:=1),List.append_assoc,List.set_append_right _ _ (by simp)];simp
  rw [e] at this;exact this
 ·have hjl:j<us.length:=by omega
  rw [i9,h2,h3,ay us j hjl,Nat.pow_succ];have e1:=cT us j;have e2:us.getD j 0=us[j]:=by simp [hjl]
  rw [e2] at e1;have e3:=Nat.div_add_mod (ak (us.drop j)) (ak vs);show _=ak (us.take j)+4294967296^j*((ak (us.drop j) / ak vs+4294967296*ak qs)*ak vs+ak (us.drop j) % ak vs)
  generalize ak (us.drop j)=D at e1 e3 ⊢;generalize ak (us.drop (j+1))=D1 at e1 ⊢;generalize D / ak vs=q at e3 ⊢;generalize D % ak vs=r at e3 ⊢;generalize us[j]=u at e1 ⊢;generalize ak vs=V at e3 ⊢;generalize ak qs=Q;generalize 4294967296^j=p;have e4:(q+4294967296*Q)*V+r=u+4294967296*(Q*V+D1):=by
   rw [Nat.add_mul,Nat.mul_comm q V,Nat.mul_assoc 4294967296 Q V,Nat.mul_add];omega
  rw [e4,Nat.mul_add p u,Nat.mul_assoc p];omega
theorem gO.top {w wr:World} {gu gq:Nat} {us qs vs:List Nat} {j g c d:Nat} (h:gO w wr gu gq us qs vs j g vs.length c d) (hj:j+vs.length<us.length) (hgu:w.heap.size<=gu) (hne:gq≠gu)
  (x e:Nat) (z:Int) (hz:z=(x:Int)) (hx:x<4294967296) (hs:x+c+d=us[j+vs.length]+4294967296*e) :
  ∃ W:List Nat,W.length=vs.length+1/\Sm W/\ch (wr.setCell ⟨gu,j+vs.length,none⟩ (.int .u32 z)) gu (us.take j++W++us.drop (j+(vs.length+1)))/\ch (wr.setCell ⟨gu,j+vs.length,none⟩ (.int .u32 z)) gq qs /\
   w.grownBy (wr.setCell ⟨gu,j+vs.length,none⟩ (.int .u32 z)) none/\ak W+g*ak vs=ak ((us.drop j).take (vs.length+1))+4294967296^(vs.length+1)*e/\W[vs.length]? = some x:=by
 obtain ⟨mid,h1,h2,h3,h4,h5,h6⟩:=h;refine ⟨mid++[x],by simp [h1],h2.append (Sm.cons hx Sm.nil),?_,?_,ai h5 _ _ hgu,?_,by rw [List.getElem?_append_right (by omega)];simp [h1]⟩
 ·have:=h3.set (j+vs.length) x;rw [iu us mid j vs.length x h1 hj] at this;rw [hz];exact this
 ·unfold ch;rw [heap_setCell_other _ _ _ _ hne];exact h4
 ·rw [List.take_of_length_le (Nat.le_refl vs.length)] at h6;rw [aO,h1,ay (us.drop j) vs.length (by rw [List.length_drop];omega),List.getElem_drop,Nat.pow_succ];generalize us[j+vs.length]=u at hs ⊢;generalize 4294967296^vs.length=p at h6 ⊢;have e2:p*x+p*c+p*d=p*u+p*(4294967296*e):=by
   rw [<- Nat.mul_add,<- Nat.mul_add,<- Nat.mul_add,hs]
  rw [Nat.mul_add p c d] at h6;rw [Nat.mul_assoc p];omega
def db (w wr:World) (gu gq:Nat) (us qs vs:List Nat) (j k c:Nat):Prop :=
 ∃ mid:List Nat,mid.length=k/\Sm mid/\ch wr gu (us.take j++mid++us.drop (j+k))/\ch wr gq qs/\w.grownBy wr none/\ak mid+4294967296^k*c=ak ((us.drop j).take k)+ak (vs.take k)
theorem db.step {w wr:World} {gu gq:Nat} {us qs vs:List Nat} {j k c:Nat} (h:db w wr gu gq us qs vs j k c) (hk:k<vs.length) (hj:j+k<us.length) (hgu:w.heap.size<=gu) (hne:gq≠gu)
  (z:Int) (hz:z=(((c+us[j+k]+vs[k]) % 4294967296:Nat):Int)) :
  db w (wr.setCell ⟨gu,j+k,none⟩ (.int .u32 z)) gu gq us qs vs j (k+1) ((c+us[j+k]+vs[k]) / 4294967296):=by
 obtain ⟨mid,h1,h2,h3,h4,h5,h6⟩:=h;refine ⟨mid++[(c+us[j+k]+vs[k]) % 4294967296],by simp [h1],h2.snoc _,?_,?_,ai h5 _ _ hgu,?_⟩
 ·have:=h3.set (j+k) ((c+us[j+k]+vs[k]) % 4294967296);rw [iu us mid j k _ h1 hj] at this;rw [hz];exact this
 ·unfold ch;rw [heap_setCell_other _ _ _ _ hne];exact h4
 ·rw [oL mid k c us[j+k] vs[k] _ _ h1 h6,ay vs k hk,ay (us.drop j) k (by rw [List.length_drop];omega),List.getElem_drop]
theorem db.drewN {w wr:World} {gu gq:Nat} {us qs vs:List Nat} {j k c:Nat} (h:db w wr gu gq us qs vs j k c) (q:Nat):db w (wr.drewN q) gu gq us qs vs j k c:=by
 obtain ⟨mid,h1,h2,h3,h4,h5,h6⟩:=h;exact ⟨mid,h1,h2,h3,h4,ar h5 q,h6⟩
theorem db.top {w wr:World} {gu gq:Nat} {us qs vs:List Nat} {j c x R:Nat} (h:db w wr gu gq us qs vs j vs.length c) (hj:j+vs.length<us.length) (hgu:w.heap.size<=gu) (hne:gq≠gu)
  (hx:us[j+vs.length]=x) (hW:ak ((us.drop j).take (vs.length+1))+ak vs=R+4294967296^(vs.length+1)) (hR:R<4294967296^vs.length) (z:Int) (hz:z=(((x+c) % 4294967296:Nat):Int)) :
  ∃ W:List Nat,W.length=vs.length+1/\Sm W/\ch (wr.setCell ⟨gu,j+vs.length,none⟩ (.int .u32 z)) gu (us.take j++W++us.drop (j+(vs.length+1)))/\ch (wr.setCell ⟨gu,j+vs.length,none⟩ (.int .u32 z)) gq qs /\
   w.grownBy (wr.setCell ⟨gu,j+vs.length,none⟩ (.int .u32 z)) none/\ak W=R:=by
 obtain ⟨mid,h1,h2,h3,h4,h5,h6⟩:=h;rw [List.take_of_length_le (Nat.le_refl vs.length)] at h6;rw [ay (us.drop j) vs.length (by rw [List.length_drop];omega),List.getElem_drop,hx,Nat.pow_succ] at hW;have hm:=bD h2;rw [h1] at hm;have hxc:x+c=4294967296/\ak mid=R:=by
  generalize 4294967296^vs.length=p at h6 hW hR hm;generalize ak ((us.drop j).take vs.length)=T at h6 hW;generalize ak vs=V at h6 hW;generalize ak mid=M at h6 hm ⊢;have e:M+p*(x+c)=R+p*4294967296:=by
   rw [Nat.mul_add];omega
  have hp:0<p:=by omega
  have e1:(M+p*(x+c)) / p=x+c:=by rw [Nat.add_mul_div_left _ _ hp,Nat.div_eq_of_lt hm,Nat.zero_add]
  have e2:(R+p*4294967296) / p=4294967296:=by rw [Nat.add_mul_div_left _ _ hp,Nat.div_eq_of_lt hR,Nat.zero_add]
  have e3:x+c=4294967296:=by rw [<- e1,e,e2]
  refine ⟨e3,?_⟩;rw [e3] at e;omega
 have hz0:(x+c) % 4294967296=0:=by rw [hxc.1]
 rw [hz0] at hz;refine ⟨mid++[0],by simp [h1],h2.append (Sm.cons (by decide) Sm.nil),?_,?_,ai h5 _ _ hgu,by rw [aO,Nat.mul_zero,Nat.add_zero];exact hxc.2⟩
 ·have:=h3.set (j+vs.length) 0;rw [iu us mid j vs.length 0 h1 hj] at this;rw [hz];exact this
 ·unfold ch;rw [heap_setCell_other _ _ _ _ hne];exact h4
theorem cQ.drewN {w wr:World} {gu gq:Nat} {vs:List Nat} {N A k:Nat} {us qs:List Nat} (h:cQ w wr gu gq vs N A k us qs) (q:Nat):cQ w (wr.drewN q) gu gq vs N A k us qs:=by
 obtain ⟨i1,i2,i3,i4,i5,i6,i7,i8,i9⟩:=h;exact ⟨i1,i2,i3,i4,i5,i6,ar i7 q,i8,i9⟩
theorem cQ.start {w wr:World} {gu gq:Nat} {vs al:List Nat} {N A:Nat} (sa:Sm al) (hN:al.length+1<=N) (hA:ak al=A) (hb:A<4294967296^(N-1)) (tt:Nat) (hv0:1<vs.length) (hvN:vs.length<N) (htt:vs[vs.length-1]? = some tt) (ht0:0<tt)
  (a1:ch wr gu (al++List.replicate (N-al.length) 0)) (a2:ch wr gq (List.replicate (N-vs.length) 0)) (hg:w.grownBy wr none) :
  cQ w wr gu gq vs N A (N-vs.length) (al++List.replicate (N-al.length) 0) []:=by
 have hl:(al++List.replicate (N-al.length) 0).length=N:=by simp;omega
 have su:Sm (al++List.replicate (N-al.length) 0):=sa.append (Sm.replicate _);have hval:ak (al++List.replicate (N-al.length) 0)=A:=by rw [bN,iK,hA];simp
 have hd:=kr _ (N-vs.length) su (by rw [hl];omega);have hvl:4294967296^(vs.length-1)<=ak vs:=by
  obtain ⟨h1,h2⟩:=List.getElem?_eq_some_iff.1 htt;have:=gL vs (vs.length-1) h1;rw [h2] at this;have b:4294967296^(vs.length-1)*1<=4294967296^(vs.length-1)*(tt+4294967296*ak (vs.drop (vs.length-1+1))):=Nat.mul_le_mul_left _ (by omega);omega
 refine ⟨hl,by simp;omega,su,Sm.nil,a1,by rw [List.append_nil];exact a2,hg,?_,?_⟩
 ·rw [<- hd,hval];have:A / 4294967296^(N-vs.length)<4294967296^(vs.length-1):=by
   rw [Nat.div_lt_iff_lt_mul (Nat.pow_pos (by decide)),<- Nat.pow_add,show vs.length-1+(N-vs.length)=N-1 from by omega];exact hb
  omega
 ·have e:=bN ((al++List.replicate (N-al.length) 0).take (N-vs.length)) ((al++List.replicate (N-al.length) 0).drop (N-vs.length));rw [List.take_append_drop,List.length_take,hl,show min (N-vs.length) N=N-vs.length from by omega,hval] at e;simp only [ak,Nat.zero_mul,Nat.zero_add];exact e
theorem copied {w wr:World} {gu:Nat} {al:List Nat} {N:Nat} (h:ch wr gu (List.replicate N 0)) (hg:w.grownBy wr none) (hgu:w.heap.size<=gu) :
  ch (wr.setRow gu ((au (List.replicate N 0)).toList.take 0++(au al).toList++(au (List.replicate N 0)).toList.drop (0+(au al).toList.length)).toArray) gu (al++List.replicate (N-al.length) 0) /\
  w.grownBy (wr.setRow gu ((au (List.replicate N 0)).toList.take 0++(au al).toList++(au (List.replicate N 0)).toList.drop (0+(au al).toList.length)).toArray) none/\wr.grownBy (wr.setRow gu ((au (List.replicate N 0)).toList.take 0++(au al).toList++(au (List.replicate N 0)).toList.drop (0+(au al).toList.length)).toArray) (some gu):=by
 have hsr:wr.grownBy (wr.setRow gu ((au (List.replicate N 0)).toList.take 0++(au al).toList++(au (List.replicate N 0)).toList.drop (0+(au al).toList.length)).toArray) (some gu):=⟨rfl,rfl,rfl,by simp [World.setRow],fun k _ hr=>setRow_other wr gu k _ (fun e=>hr (by rw [e]))⟩;refine ⟨?_,?_,hsr⟩
 ·unfold ch at h ⊢;rw [setRow_heap wr gu _ _ _ _ h];have e:((au (List.replicate N 0)).toList.take 0++(au al).toList++(au (List.replicate N 0)).toList.drop (0+(au al).toList.length)).toArray=au (al++List.replicate (N-al.length) 0):=by
   simp [au,List.map_append]
  rw [e]
 ·exact aq (r1:=none) (r2:=some gu) hg hsr (fun _ _ e=>e) (fun b hb e=>by cases e;omega)
def VC (vb voff:Nat) (vs:List Nat) (wr:World):Prop:=∀ i (h:i<vs.length),wr.cell? ⟨vb,voff+i,none⟩=some (.int .u32 (vs[i]:Nat))
theorem VC.set {vb voff:Nat} {vs:List Nat} {wr:World} (h:VC vb voff vs wr) (g i:Nat) (v:Value) (hne:vb≠g):VC vb voff vs (wr.setCell ⟨g,i,none⟩ v):=fun k hk=>by
 have e:(wr.setCell ⟨g,i,none⟩ v).heap[vb]? = wr.heap[vb]?:=heap_setCell_other _ _ _ _ hne;rw [World.cell?_of_block (w:=wr) (a:=⟨vb,voff+k,none⟩) e];exact h k hk
theorem VC.drewN {vb voff:Nat} {vs:List Nat} {wr:World} (h:VC vb voff vs wr) (q:Nat):VC vb voff vs (wr.drewN q):=h
theorem cQ.kd {w wr:World} {gu gq:Nat} {vs:List Nat} {N A j n:Nat} {us qs:List Nat} (h:cQ w wr gu gq vs N A (j+1) us qs) (sv:Sm vs) (hn:vs.length=n+2) (vt vn ua ub uc:Nat) (evt:vs[n+1]? = some vt) (evn:vs[n]? = some vn)
  (eua:us[j+(n+2)]? = some ua) (eub:us[j+(n+1)]? = some ub) (euc:us[j+n]? = some uc) (hvt:2147483648<=vt) :
  KD 4294967296 (ak (us.drop j)) (ak vs) (4294967296^n) vt vn (ak (vs.take n)) (ua*4294967296+ub) uc (ak (((us.drop j).take (vs.length+1)).take n)):=by
 obtain ⟨i1,i2,i3,i4,i5,i6,i7,i8,i9⟩:=h;obtain ⟨l1,e1⟩:=List.getElem?_eq_some_iff.1 evt;obtain ⟨l2,e2⟩:=List.getElem?_eq_some_iff.1 evn;obtain ⟨l3,e3⟩:=List.getElem?_eq_some_iff.1 eua;obtain ⟨l4,e4⟩:=List.getElem?_eq_some_iff.1 eub;obtain ⟨l5,e5⟩:=List.getElem?_eq_some_iff.1 euc;have hw:=mB (j:=j) sv i3 (by omega) i8;have hl:((us.drop j).take (vs.length+1)).length=n+3:=by rw [List.length_take,List.length_drop];omega
 have hk:=kd_of vs ((us.drop j).take (vs.length+1)) n hn hl sv ((i3.drop j).take _) (by rw [e1];exact hvt) (by rw [hw.1];exact hw.2.1);rw [hw.1] at hk;have g1:((us.drop j).take (vs.length+1))[n+2]=ua:=by rw [List.getElem_take,List.getElem_drop];exact e3
 have g2:((us.drop j).take (vs.length+1))[n+1]=ub:=by rw [List.getElem_take,List.getElem_drop];exact e4
 have g3:((us.drop j).take (vs.length+1))[n]=uc:=by rw [List.getElem_take,List.getElem_drop];exact e5
 rw [g1,g2,g3,e1,e2] at hk;exact hk
end Go.Proofs.YthblidglcppakaaGreatDoor
