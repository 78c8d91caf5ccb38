/- Contracts. -/
import Derived.Test.YtbomdfhdocaagaaGreatDoorXPa
import Derived.Laws.AppendOwnNone
import Derived.BigQuiet
import Derived.WalkSpells
import Derived.Laws.CopyOwn
import Derived.Deep.Light
import Derived.Deep.CutBlock
import Derived.Deep.DeepCutAuto
namespace Go.Proofs.YtbomdfhdocaagaaGreatDoor
open Go.RowKit
set_option linter.all false
set_option maxHeartbeats 8000000
set_option maxRecDepth 10000
variable {wr w:World} {vs us qs xs ys:List Nat} {j gu gq c k N:Nat}
def Ge (w:World):Calls Tryz.prog 161 #[.slice none 0 0] w fun e a=>e=.returned (.slice none 0 0)/\a=w:=by
 go_enter Tryz.func161,Tryz.ntmps161
 go_wp2;refine wp_loop_rounds 1 ?_;rw [rounds_succ];go_wp2;go_ret;exact ⟨rfl,rfl⟩
def Cx (b off cap:Nat) (xs:List Nat) (w:World) (t:xs.length<=cap) (d:cap<=maxLen)
  (hc:∀ i (h:i<xs.length),w.cell? ⟨b,off+i,none⟩=some (.int .u32 (xs[i]:Nat))) :
  Calls Tryz.prog 161 #[.slice (some ⟨b,off,none⟩) xs.length cap] w fun e s=>e=.returned (.slice (some ⟨b,off,none⟩) (aQ xs).length cap)/\s=w:=by
 unfold maxLen at d;go_enter Tryz.func161,Tryz.ntmps161
 go_wp2;go_loop [3] (fun n=>∃ k:Nat,k<=xs.length/\n=.int .i64 k/\aQ (xs.take k)=aQ xs) (fun n=>(intOf n).toNat)
 case atStart=>exact ⟨xs.length,zL,rfl,Z⟩
 case round =>
  obtain ⟨k,u,rfl,o⟩:=hrel;have g:Hid (aQ (xs.take k)=aQ xs):=o;clear o;by_cases q:k=0
  ·subst q;go_wp2;go_ret;refine ⟨?_,rfl⟩;rw [<- g];rfl
  ·obtain ⟨j,rfl⟩:∃ j,k=j+1:=⟨k-1,O⟩;have m:=hc j O;have f:j<xs.length:=O
   by_cases a:xs[j]=0
   ·have l:Hid (xs[j]=0):=a;rw [a] at m;clear a hc;go_wp2;go_round
    case rel=>exact ⟨j,O,zN,by rw [<- g,j9 xs j f l]⟩
    case measure=>simp [intOf]
   ·have l:Hid (xs[j]≠0):=a;obtain ⟨x,p⟩:=eX (xs[j]);rw [<- p] at m a;have r:(((x:Nat):Int)==0)=false:=zB O;clear p a hc;go_wp2;go_ret;refine ⟨?_,rfl⟩;rw [<- g,kQ xs j f l];simp;omega
def AK (v:Value) (xs:List Nat) (w:World) (h:Ws w v xs) :
  Calls Tryz.prog 161 #[v] w fun e w'=>∃ v',e=.returned v'/\w'=w/\Ws w v' (aQ xs)/\ar v'=ar v:=by
 rcases h.sh with ⟨rfl,rfl⟩ | ⟨b,off,cap,rfl,hb,a,d,hc⟩
 ·refine (Ge w).mono ?_;rintro e w' ⟨rfl,rfl⟩;exact ⟨_,rfl,rfl,Ws.nil _,rfl⟩
 ·refine (Cx b off cap xs w a d hc).mono ?_;rintro e w' ⟨rfl,rfl⟩;refine ⟨_,rfl,rfl,⟨h.sm.trimL,.inr ⟨b,off,cap,rfl,hb,Nat.le_trans (aZ xs) a,d,?_⟩⟩,rfl⟩;intro i hi;have:=aZ xs;rw [hc i O,lI xs i hi]
def eD (v:Value) (xs:List Nat) (w:World) (h:Ws w v xs) :
  Calls Tryz.prog 161 #[v] w fun e w'=>∃ v',e=.returned v'/\w'=w/\aT w v' (ai xs) xs.length/\ar v'=ar v:=by
 refine (AK v xs w h).mono ?_;rintro e w' ⟨v',rfl,rfl,a,b⟩;exact ⟨v',rfl,rfl,⟨_,a,Tr.trimL _,fh _,aZ _⟩,b⟩
def AL (v:Value) (xs:List Nat) (w:World) (h:Ws w v xs) (P:xs.length<=10737418240000) :
  Calls Tryz.prog 129 #[v] w fun e H=>∃ v',e=.returned v'/\Ws H v' xs/\w.grownBy H none/\bC w v':=by
 obtain ⟨D,hi,q,s,t⟩:=info_parts Tryz.info32;rcases h.sh with ⟨rfl,rfl⟩ | ⟨b,off,cap,rfl,hb,M,Q,hc⟩
 ·go_enter Tryz.func129,Tryz.ntmps129
  go_wp2_with (at_builtin;refine wpList_append_own_none rfl _ _ 94 rfl w.heap.size 174 D 1 Tryz.underlying94 hi _ 0 [] rfl (World.ownsRow_nil _ _ _ _) rfl ?_)
  go_ret;exact ⟨_,rfl,Ws.nil _,ae _ _,fun k hk=>by simp [ar] at hk⟩
 ·go_enter Tryz.func129,Tryz.ntmps129
  have I:=ab hc;clear hc;have J:xs.length+0<=maxLen:=by unfold maxLen;omega
  go_wp2_with (at_builtin;refine wpList_append_own _ rfl _ _ 94 rfl w.heap.size 174 D (.int .u32 0) 1 4 Tryz.underlying94 hi q s t rfl zD _ 0 [] rfl (World.ownsRow_nil _ _ _ _) ⟨b,off,none⟩ xs.length cap (aq xs).toList rfl ?c1 ?c2 ?c3 ?c4 ?c5 ?c6 ?_)
  case c1=>simp [aq]
  case c2 =>
   intro j u L;obtain ⟨y,z⟩:=zY L;have p:j<xs.length:=by simpa [aq] using y
   have:=aG I j p;rw [show (⟨b,off,none⟩:Addr).add j=⟨b,off+j,none⟩ from by simp [Addr.add],this,<- z];simp [aq]
  case c3 =>
   intro u C;simp only [aq,List.mem_map] at C;obtain ⟨x,_,rfl⟩:=C;rfl
  case c4=>omega
  case c5=>omega
  case c6=>exact zL
  intro v' w1 l a _;go_wp2;go_ret;obtain ⟨E,m⟩:=l;refine ⟨v',rfl,?_,?_,?_⟩
  ·rcases m with ⟨rfl,F⟩ | ⟨g,d,f,rfl,hg,hh,n,o,A,G⟩
   ·have:xs=[]:=by
     cases xs with
     | nil=>rfl
     | cons x r=>simp at F
    subst this;exact Ws.nil _
   ·refine ⟨h.sm,.inr ⟨g,0,d,Z,(zZ hh).1,by simpa using n,o,?_⟩⟩;intro i hi;have K:f.toList[i]? = some (.int .u32 (xs[i]:Nat)):=by
     have B:(f.toList.take (xs.length*1))[i]? = (aq xs).toList[i]?:=by rw [G]
     rw [List.getElem?_take,if_pos O] at B;rw [B];simp [aq,hi]
    simp only [World.cell?,hh,Nat.zero_add];simpa using K
  ·exact ⟨a.os,a.tape,a.output,a.size,fun k hk _=>a.block k hk (by simp [Value.ownBlock])⟩
  ·intro k hk;rcases m with ⟨rfl,F⟩ | ⟨g,d,f,rfl,hg,hh,n,o,A,G⟩
   ·simp [ar] at hk
   ·simp [ar] at hk;omega
def qP (v:Value) (n L:Nat) (w:World) (h:aT w v n L) (m:L<=10737418240000) :
  Calls Tryz.prog 129 #[v] w fun e w'=>∃ v',e=.returned v'/\aT w' v' n L/\w.grownBy w' none/\bC w v':=by
 obtain ⟨xs,a,b,d,f⟩:=h;refine (AL v xs w a O).mono ?_;rintro e w' ⟨v',rfl,g,i,l⟩;exact ⟨v',rfl,⟨xs,g,b,d,f⟩,i,l⟩
def fi (x:Int) (w:World) (l:0<=x) (a:x<18446744073709551616) :
  Calls Tryz.prog 114 #[.int .u64 x] w fun e f=>∃ v',e=.returned v'/\aT f v' x.toNat 2/\w.grownBy f none/\bC w v':=by
 go_enter Tryz.func114,Tryz.ntmps114
 go_wp2_with fail;have ha:bZ (w.alloc (Obj.cells #[Value.int IntKind.u32 (x % 4294967296),Value.int IntKind.u32 (x / 4294967296)] 174)) w.heap.size [x.toNat % 4294967296,x.toNat / 4294967296]:=by
  unfold bZ;show (w.heap.push _)[w.heap.size]? = _
  rw [Array.getElem?_push_size];have g:(x % 4294967296)=((x.toNat % 4294967296:Nat):Int):=O
  have h:(x / 4294967296)=((x.toNat / 4294967296:Nat):Int):=O
  rw [g,h];rfl
 have b:=ha.ws (Sm.cons O (Sm.cons O Sm.nil)) (by unfold maxLen;simp);clear ha;refine (eD _ _ _ b).mono ?_;rintro e w1 ⟨v',rfl,rfl,a,i⟩;clear b;go_wp2;go_ret;refine ⟨v',rfl,?_,ag (ae _ _) _,?_⟩
 ·have e:ai [x.toNat % 4294967296,x.toNat / 4294967296]=x.toNat:=by simp only [ai];omega
  rw [e] at a;exact a
 ·intro k d;rw [i] at d;simp [ar] at d;omega
def fJ (w wr:World) (xs ys:List Nat) (k c:Nat):Prop :=
 ∃ done:List Nat,done.length=k/\Sm done/\bZ wr w.heap.size (done++List.replicate (xs.length+1-k) 0)/\w.grownBy wr none/\ai done+4294967296^k*c=ai (xs.take k)+ai (ys.take k)
def fJ.step (h:fJ w wr xs ys k c) (b:k<xs.length) (x y:Nat) (d:x=xs[k]) (hy:y=ys.getD k 0) (z:Int) (hz:z=(((c+x+y) % 4294967296:Nat):Int)) :
  fJ w (wr.setCell ⟨w.heap.size,k,none⟩ (.int .u32 z)) xs ys (k+1) ((c+x+y) / 4294967296):=by
 obtain ⟨done,a,e,f,g,i⟩:=h;refine ⟨done++[(c+x+y) % 4294967296],by simp [a],e.snoc _,?_,ah g _ _ zL,?_⟩
 ·have:=f.set k ((c+x+y) % 4294967296);rw [dM done k _ _ a O] at this;rw [hz,show xs.length+1-(k+1)=xs.length+1-k-1 from O];exact this
 ·rw [pM done k c x y _ _ a i,au xs k b,qR ys k,d,hy]
def fJ.last (h:fJ w wr xs ys xs.length c) (b:ys.length<=xs.length) (hc:c<=1) (n:xs.length<=10000000000000) (z:Int) (f:z=(c:Int)) :
  ∃ zs,zs.length=xs.length+1/\Ws (wr.setCell ⟨w.heap.size,xs.length,none⟩ (.int .u32 z)) (.slice (some ⟨w.heap.size,0,none⟩) (xs.length+1) (xs.length+1)) zs /\
   ai zs=ai xs+ai ys/\w.grownBy (wr.setCell ⟨w.heap.size,xs.length,none⟩ (.int .u32 z)) none:=by
 obtain ⟨done,d,g,i,l,m⟩:=h;have:=i.set xs.length c;rw [dM done _ _ _ d O,show xs.length+1-xs.length-1=0 from O] at this;simp only [List.replicate_zero,List.append_nil] at this;subst f;have a:(done++[c]).length=xs.length+1:=by simp [d]
 refine ⟨done++[c],a,?_,?_,ah l _ _ zL⟩
 ·have e:=this.ws (g.append (Sm.cons O Sm.nil)) (by rw [a];unfold maxLen;omega);rw [a] at e;exact e
 ·rw [aR,d,m,zT zL,zT b]
def add_ws (D E:Value) (xs ys:List Nat) (w:World) (ha:Ws w D xs) (hb:Ws w E ys) (P:xs.length<=10000000000000) (z:ys.length<=xs.length) :
  Calls Tryz.prog 112 #[D,E] w fun e M=>∃ v',e=.returned v'/\aT M v' (ai xs+ai ys) (xs.length+1)/\w.grownBy M none/\bC w v':=by
 obtain ⟨ao,ca,rfl,hf,r,H⟩:=ha.open;obtain ⟨bo,cb,rfl,hm,s,I⟩:=hb.open;unfold maxLen at r s;have Q:=ab H;have R:=ab I;have S:=ab ha.sm;have T:=ab hb.sm;clear H I ha hb;go_enter Tryz.func112,Tryz.ntmps112
 go_wp2_with (at_make;refine aE _ rfl _ _ 94 rfl Tryz.underlying94 Tryz.info32 _ _ _ _ (xs.length+1) rfl rfl O O O ?_)
 intro w1 m q;have U:=ab m;have V:=ab q;clear m q;go_wp2;go_loopw [6,7] (fun cv i wr=>∃ k c:Nat,k<=xs.length/\c<=1/\i=.int .i64 k/\cv=.int .u64 c/\Hid (fJ w wr xs ys k c)) (fun _ i _=>xs.length-(intOf i).toNat)
 case atStart=>exact ⟨0,0,Nat.zero_le _,O,rfl,rfl,[],rfl,Sm.nil,U,V,by simp [ai]⟩
 case round =>
  obtain ⟨k,c,hk,B,rfl,rfl,h⟩:=hrel;by_cases hlt:k<xs.length
  ·obtain ⟨b,off,rfl,ho,d⟩:=aG Q k hlt;have W:=(aG S).get k hlt;obtain ⟨x,ex⟩:=eX (xs[k]);rw [<- ex] at d W;have F:=ab ex;clear ex;have X:wr.cell? ⟨b,off+k,none⟩=some (.int .u32 (x:Nat)):=by
    obtain ⟨done,n,o,l,p,t⟩:=h.out;exact p.cell d Z
   have A:wr.frozen? ⟨w.heap.size,k,none⟩=false:=by
    obtain ⟨done,n,o,l,p,t⟩:=h.out;exact l.free k
   have g:∃ v,wr.cell? ⟨w.heap.size,k,none⟩=some v:=by
    obtain ⟨done,n,o,l,p,t⟩:=h.out;exact ⟨_,l.cell k (by simp;omega)⟩
   obtain ⟨v0,g⟩:=g;clear d;by_cases f:k<ys.length
   ·obtain ⟨b2,u,rfl,J,a⟩:=aG R k f;have hy:=(aG T).get k f;obtain ⟨y,C⟩:=eX (ys[k]);rw [<- C] at a hy;have Y:=ab C;clear C;have he:wr.cell? ⟨b2,u+k,none⟩=some (.int .u32 (y:Nat)):=by
     obtain ⟨done,n,o,l,p,t⟩:=h.out;exact p.cell a Z
    clear a;go_wp2;go_roundw
    case rel=>exact ⟨k+1,(c+x+y) / 4294967296,O,O,zN,zN,fJ.step h hlt x y F (by rw [Y];simp [f]) _ O⟩
    case measure=>exact bH
   ·go_wp2;go_roundw
    case rel=>exact ⟨k+1,(c+x+0) / 4294967296,O,O,zN,zN,fJ.step h hlt x 0 F (by simp [List.getD,f]) _ O⟩
    case measure=>exact bH
  ·obtain rfl:k=xs.length:=O
   have A:wr.frozen? ⟨w.heap.size,xs.length,none⟩=false:=by
    obtain ⟨done,n,o,l,p,t⟩:=h.out;exact l.free _
   have g:∃ v,wr.cell? ⟨w.heap.size,xs.length,none⟩=some v:=by
    obtain ⟨done,n,o,l,p,t⟩:=h.out;exact ⟨_,l.cell xs.length (by simp;omega)⟩
   obtain ⟨v0,g⟩:=g;go_wp2_with fail;obtain ⟨zs,K,L,z3,z4⟩:=fJ.last h z B P (c:Int) rfl;have Z1:=ab K;refine (eD _ zs _ L).mono ?_;rintro e w2 ⟨v',rfl,rfl,n,o⟩;clear K L;go_wp2;go_ret;refine ⟨v',rfl,?_,z4,?_⟩
   ·rw [z3,Z1] at n;exact n
   ·intro j G;rw [o] at G;simp [ar] at G;omega
def uD (D E:Value) (xs ys:List Nat) (w:World) (ha:Ws w D xs) (hb:Ws w E ys) (P:xs.length<=10000000000000) (q:ys.length<xs.length) :
  Calls Tryz.prog 112 #[E,D] w fun e M=>∃ v',e=.returned v'/\aT M v' (ai xs+ai ys) (xs.length+1)/\w.grownBy M none/\bC w v':=by
 obtain ⟨ao,ca,rfl,hf,s,H⟩:=ha.open;obtain ⟨bo,cb,rfl,hm,t,I⟩:=hb.open;unfold maxLen at s t;have Q:=ab H;have R:=ab I;have S:=ab ha.sm;have T:=ab hb.sm;clear H I ha hb;go_enter Tryz.func112,Tryz.ntmps112
 go_wp2_with (at_make;refine aE _ rfl _ _ 94 rfl Tryz.underlying94 Tryz.info32 _ _ _ _ (xs.length+1) rfl rfl O O O ?_)
 intro w1 m r;have U:=ab m;have V:=ab r;clear m r;go_wp2;go_loopw [6,7] (fun cv i wr=>∃ k c:Nat,k<=xs.length/\c<=1/\i=.int .i64 k/\cv=.int .u64 c/\Hid (fJ w wr xs ys k c)) (fun _ i _=>xs.length-(intOf i).toNat)
 case atStart=>exact ⟨0,0,Nat.zero_le _,O,rfl,rfl,[],rfl,Sm.nil,U,V,by simp [ai]⟩
 case round =>
  obtain ⟨k,c,hk,B,rfl,rfl,h⟩:=hrel;by_cases hlt:k<xs.length
  ·obtain ⟨b,off,rfl,ho,d⟩:=aG Q k hlt;have W:=(aG S).get k hlt;obtain ⟨x,ex⟩:=eX (xs[k]);rw [<- ex] at d W;have F:=ab ex;clear ex;have X:wr.cell? ⟨b,off+k,none⟩=some (.int .u32 (x:Nat)):=by
    obtain ⟨done,n,o,l,p,u⟩:=h.out;exact p.cell d Z
   have A:wr.frozen? ⟨w.heap.size,k,none⟩=false:=by
    obtain ⟨done,n,o,l,p,u⟩:=h.out;exact l.free k
   have g:∃ v,wr.cell? ⟨w.heap.size,k,none⟩=some v:=by
    obtain ⟨done,n,o,l,p,u⟩:=h.out;exact ⟨_,l.cell k (by simp;omega)⟩
   obtain ⟨v0,g⟩:=g;clear d;by_cases f:k<ys.length
   ·obtain ⟨b2,z,rfl,J,a⟩:=aG R k f;have hy:=(aG T).get k f;obtain ⟨y,C⟩:=eX (ys[k]);rw [<- C] at a hy;have Y:=ab C;clear C;have he:wr.cell? ⟨b2,z+k,none⟩=some (.int .u32 (y:Nat)):=by
     obtain ⟨done,n,o,l,p,u⟩:=h.out;exact p.cell a Z
    clear a;go_wp2;go_roundw
    case rel=>exact ⟨k+1,(c+x+y) / 4294967296,O,O,zN,zN,fJ.step h hlt x y F (by rw [Y];simp [f]) _ O⟩
    case measure=>exact bH
   ·go_wp2;go_roundw
    case rel=>exact ⟨k+1,(c+x+0) / 4294967296,O,O,zN,zN,fJ.step h hlt x 0 F (by simp [List.getD,f]) _ O⟩
    case measure=>exact bH
  ·obtain rfl:k=xs.length:=O
   have A:wr.frozen? ⟨w.heap.size,xs.length,none⟩=false:=by
    obtain ⟨done,n,o,l,p,u⟩:=h.out;exact l.free _
   have g:∃ v,wr.cell? ⟨w.heap.size,xs.length,none⟩=some v:=by
    obtain ⟨done,n,o,l,p,u⟩:=h.out;exact ⟨_,l.cell xs.length (by simp;omega)⟩
   obtain ⟨v0,g⟩:=g;go_wp2_with fail;obtain ⟨zs,K,L,z3,z4⟩:=fJ.last h (Nat.le_of_lt q) B P (c:Int) rfl;have Z1:=ab K;refine (eD _ zs _ L).mono ?_;rintro e w2 ⟨v',rfl,rfl,n,o⟩;clear K L;go_wp2;go_ret;refine ⟨v',rfl,?_,z4,?_⟩
   ·rw [z3,Z1] at n;exact n
   ·intro j G;rw [o] at G;simp [ar] at G;omega
def zd (b d:Value) (m n L M:Nat) (w:World) (ha:aT w b m L) (hb:aT w d n M) (q:L<=10000000000000) (r:M<=10000000000000) :
  Calls Tryz.prog 112 #[b,d] w fun e w'=>∃ v',e=.returned v'/\aT w' v' (m+n) (max L M+1)/\w.grownBy w' none/\bC w v':=by
 obtain ⟨xs,i,s,l,t⟩:=ha;obtain ⟨ys,o,u,p,v⟩:=hb;by_cases h:ys.length<=xs.length
 ·refine (add_ws b d xs ys w i o O h).mono ?_;rintro e w' ⟨v',rfl,a,f,g⟩;rw [l,p] at a;exact ⟨v',rfl,a.mono O,f,g⟩
 ·refine (uD d b ys xs w o i O O).mono ?_;rintro e w' ⟨v',rfl,a,f,g⟩;rw [l,p,Nat.add_comm] at a;exact ⟨v',rfl,a.mono O,f,g⟩
def pQ (C D:Value) (xs ys:List Nat) (w:World) (ha:Ws w C xs) (hb:Ws w D ys) (F:Tr xs) (G:Tr ys) :
  Calls Tryz.prog 128 #[C,D] w fun e w'=>e=.returned (.int .i64 (gZ (ai xs) (ai ys)))/\∃ q,w'=w.drewN q:=by
 obtain ⟨ao,ca,rfl,W,p,J⟩:=ha.open;obtain ⟨bo,cb,rfl,X,r,K⟩:=hb.open;unfold maxLen at p r;have P:=ab J;have Q:=ab K;have H:=ab ha.sm;have I:=ab hb.sm;have R:=ab F;have S:=ab G;clear J K ha hb F G;rcases Nat.lt_trichotomy xs.length ys.length with m | m | m
 ·have n:(((xs.length:Nat):Int) != ((ys.length:Nat):Int))=true:=by rw [bne_iff_ne];omega
  have E:=ab (qp (cC H S m));go_enter Tryz.func128,Tryz.ntmps128
  go_wp2;go_ret;exact ⟨by rw [E];rfl,0,rfl⟩
 ·have n:(((xs.length:Nat):Int) != ((ys.length:Nat):Int))=false:=by rw [bne_eq_false_iff_eq];omega
  have HL:=ab m;have T:xs.length<=ys.length:=O
  have U:ys.length<=xs.length:=O
  clear m;go_enter Tryz.func128,Tryz.ntmps128
  go_wp2;go_loopw [5] (fun i wr=>∃ (z:Int) (q:Nat),-1<=z/\z<xs.length/\i=.int .i64 z/\wr=w.drewN q/\Hid (xs.drop (z+1).toNat=ys.drop (z+1).toNat)) (fun i _=>(intOf i+1).toNat)
  case atStart=>exact ⟨(xs.length:Int)-1,0,O,O,rfl,rfl,by rw [List.drop_of_length_le O,List.drop_of_length_le O];rfl⟩
  case round =>
   obtain ⟨z,q,Y,he,rfl,rfl,A⟩:=hrel;by_cases h0:z<0
   ·go_wp2;go_ret;refine ⟨?_,q,rfl⟩;have:=A.out;rw [show (z+1).toNat=0 from O] at this;simp only [List.drop_zero] at this;rw [this,tN];rfl
   ·obtain ⟨j,rfl⟩:∃ j:Nat,z=j:=⟨z.toNat,O⟩;have d:j<xs.length:=O
    have f:j<ys.length:=O
    obtain ⟨b,off,rfl,hf,l⟩:=aG P j d;obtain ⟨b2,L,rfl,M,g⟩:=aG Q j f;obtain ⟨x,ex⟩:=eX (xs[j]);obtain ⟨y,B⟩:=eX (ys[j]);rw [<- ex] at l;rw [<- B] at g;have s:=ab ex;have t:=ab B;clear ex B;have h:=A.out;rw [show ((j:Int)+1).toNat=j+1 from O] at h;have u:=ab h;clear h A;rcases Nat.lt_trichotomy x y with a | a | a
    ·have o:(((x:Nat):Int) != ((y:Nat):Int))=true:=by rw [bne_iff_ne];omega
     go_wp2;go_quiet (fail)
     go_wp2;go_quiet (fail)
     go_wp2;go_ret;refine ⟨?_,_,by simp only [World.drewN_drewN];rfl⟩;rw [qp (gE xs ys j d f H u (by rw [<- s,<- t];exact a))];rfl
    ·have o:(((x:Nat):Int) != ((y:Nat):Int))=false:=by rw [bne_eq_false_iff_eq];omega
     have v:=ab a;clear a;go_wp2;go_quiet (fail)
     go_wp2;go_roundw
     case rel=>exact ⟨(j:Int)-1,_,O,O,zN,rfl,by
      rw [show ((j:Int)-1+1).toNat=j from O,List.drop_eq_getElem_cons d,List.drop_eq_getElem_cons f,u,<- s,<- t,v];rfl⟩
     case measure=>simp [intOf]
    ·have o:(((x:Nat):Int) != ((y:Nat):Int))=true:=by rw [bne_iff_ne];omega
     have V:¬ ((x:Nat):Int)<((y:Nat):Int):=O
     go_wp2;go_quiet (fail)
     go_wp2;go_quiet (fail)
     go_wp2;go_ret;refine ⟨?_,_,by simp only [World.drewN_drewN];rfl⟩;rw [qn (gE ys xs j f d I u.symm (by rw [<- s,<- t];exact a))];rfl
 ·have n:(((xs.length:Nat):Int) != ((ys.length:Nat):Int))=true:=by rw [bne_iff_ne];omega
  have E:=ab (qn (cC I R m));go_enter Tryz.func128,Tryz.ntmps128
  go_wp2;go_ret;exact ⟨by rw [E];rfl,0,rfl⟩
def zh (a b:Value) (m n L M:Nat) (w:World) (ha:aT w a m L) (hb:aT w b n M) :
  Calls Tryz.prog 128 #[a,b] w fun e o=>e=.returned (.int .i64 (gZ m n))/\∃ q,o=w.drewN q:=by
 obtain ⟨xs,d,f,g,p⟩:=ha;obtain ⟨ys,h,i,l,r⟩:=hb;rw [<- g,<- l];exact pQ a b xs ys w d h f i
def pF (w wr:World) (xs ys:List Nat) (i:Nat):Prop :=
 ∃ done:List Nat,done.length=i+ys.length/\Sm done/\bZ wr w.heap.size (done++List.replicate (xs.length-i) 0)/\w.grownBy wr none/\ai done=ai (xs.take i)*ai ys
def kp (w wr:World) (xs ys:List Nat) (i j x c:Nat):Prop :=
 ∃ done mid:List Nat,done.length=i+ys.length/\mid.length=j/\Sm done/\Sm mid/\bZ wr w.heap.size (done.take i++mid++done.drop (i+j)++List.replicate (xs.length-i) 0)/\w.grownBy wr none /\
  ai done=ai (xs.take i)*ai ys/\ai mid+4294967296^j*c=ai ((done.drop i).take j)+x*ai (ys.take j)
def pF.inn {i:Nat} (h:pF w wr xs ys i) (x:Nat):kp w wr xs ys i 0 x 0:=by
 obtain ⟨done,a,b,d,e,f⟩:=h;refine ⟨done,[],a,rfl,b,Sm.nil,?_,e,f,by simp [ai]⟩;rw [List.append_nil,Nat.add_zero,List.take_append_drop];exact d
def kp.at {i x:Nat} (h:kp w wr xs ys i j x c) (o:j<ys.length) :
  ∃ r,r<4294967296/\wr.cell? ⟨w.heap.size,i+j,none⟩=some (.int .u32 (r:Nat))/\wr.frozen? ⟨w.heap.size,i+j,none⟩=false /\
   ∀ (y:Nat) (z:Int),y=ys[j]->z=(((c+(x*y+r)) % 4294967296:Nat):Int)->kp w (wr.setCell ⟨w.heap.size,i+j,none⟩ (.int .u32 z)) xs ys i (j+1) x ((c+(x*y+r)) / 4294967296):=by
 obtain ⟨done,a,s,b,n,l,m,t,u,v⟩:=h;have hd:i+j<done.length:=O
 have e:done.drop (i+j)=done[i+j] :: done.drop (i+j+1):=List.drop_eq_getElem_cons hd;have d:(done.take i).length=i:=by rw [List.length_take];omega
 have f:(done.take i++a++done.drop (i+j)++List.replicate (xs.length-i) 0)[i+j]? = some done[i+j]:=by
  rw [List.append_assoc,List.getElem?_append_right (by simp [d,b]),e];have g:i+j-(done.take i++a).length=0:=by simp [d,b]
  rw [g];rfl
 have hlt:i+j<(done.take i++a++done.drop (i+j)++List.replicate (xs.length-i) 0).length:=(zY f).1;refine ⟨done[i+j],n.get _ hd,?_,m.free _,?_⟩
 ·rw [m.cell (i+j) hlt,(zY f).2]
 ·intro y z hy q;refine ⟨done,a++[(c+(x*y+done[i+j])) % 4294967296],s,by simp [b],n,l.snoc _,?_,ah t _ _ zL,u,?_⟩
  ·have:=m.set (i+j) ((c+(x*y+done[i+j])) % 4294967296);rw [q];have p:(done.take i++a++done.drop (i+j)++List.replicate (xs.length-i) 0).set (i+j) ((c+(x*y+done[i+j])) % 4294967296)
     = done.take i++(a++[(c+(x*y+done[i+j])) % 4294967296])++done.drop (i+(j+1))++List.replicate (xs.length-i) 0:=by
    rw [e,List.append_assoc,List.set_append_right _ _ (by simp [d,b])];have g:i+j-(done.take i++a).length=0:=by simp [d,b]
    rw [g];simp [Nat.add_assoc]
   rw [p] at this;exact this
  ·rw [aR,b,Nat.pow_succ,Nat.add_assoc,fL,Nat.mul_add,<- Nat.add_assoc,v,au ys j o,<- hy,
    au (done.drop i) j (by rw [List.length_drop];omega),List.getElem_drop,Nat.mul_add (4294967296^j),Nat.mul_add x]
   rw [show x*(4294967296^j*y)=4294967296^j*(x*y) from by rw [Nat.mul_left_comm]];omega
def kp.out {i x:Nat} (h:kp w wr xs ys i ys.length x c) (hi:i<xs.length) (l:x=xs[i]) (hc:c<4294967296) (z:Int) (m:z=(c:Int)) :
  wr.frozen? ⟨w.heap.size,i+ys.length,none⟩=false/\(∃ v,wr.cell? ⟨w.heap.size,i+ys.length,none⟩=some v) /\
  pF w (wr.setCell ⟨w.heap.size,i+ys.length,none⟩ (.int .u32 z)) xs ys (i+1):=by
 obtain ⟨done,d,t,b,p,f,e,q,r,s⟩:=h;have a:(done.take i).length=i:=by rw [List.length_take];omega
 have n:done.drop (i+ys.length)=[]:=List.drop_of_length_le O;rw [n,List.append_nil] at e;have g:(done.take i++d).length=i+ys.length:=by simp [a,b]
 refine ⟨e.free _,⟨_,e.cell (i+ys.length) (by simp [a,b];omega)⟩,?_⟩;have:=e.set (i+ys.length) c;rw [dM _ _ _ _ g O] at this;rw [m];refine ⟨done.take i++d++[c],by simp [a,b];omega,((p.take _).append f).append (Sm.cons hc Sm.nil),?_,ah q _ _ zL,?_⟩
 ·rw [show xs.length-(i+1)=xs.length-i-1 from O];exact this
 ·rw [aR,g,bN,a,Nat.pow_add,Nat.mul_assoc,Nat.add_assoc,<- Nat.mul_add,s,show (done.drop i).take ys.length=done.drop i from zT (by rw [List.length_drop];omega),show ys.take ys.length=ys from zT zL,
   au xs i hi,<- l,Nat.add_mul,<- r,Nat.mul_add,<- Nat.add_assoc]
  have o:ai done=ai (done.take i)+4294967296^i*ai (done.drop i):=by
   have:=bN (done.take i) (done.drop i);rw [List.take_append_drop,a] at this;exact this
  rw [o,Nat.mul_assoc]
def kp.drewN {i x:Nat} (h:kp w wr xs ys i j x c) (q:Nat):kp w (wr.drewN q) xs ys i j x c:=by
 obtain ⟨done,a,e,b,f,d,g,l,m,n⟩:=h;exact ⟨done,a,e,b,f,d,g.drewN q,ak l q,m,n⟩
def mul_ws (E F:Value) (xs ys:List Nat) (w:World) (ha:Ws w E xs) (hb:Ws w F ys) (R:0<xs.length) (S:0<ys.length) (hl:xs.length+ys.length<=10000000000000) :
  Calls Tryz.prog 113 #[E,F] w fun e Q=>∃ v',e=.returned v'/\aT Q v' (ai xs*ai ys) (xs.length+ys.length)/\w.grownBy Q none/\bC w v':=by
 obtain ⟨ao,ca,rfl,ho,n,I⟩:=ha.open;obtain ⟨bo,cb,rfl,hq,o,J⟩:=hb.open;unfold maxLen at n o;have G:(((xs.length:Nat):Int)==0)=false:=zB O;have H:(((ys.length:Nat):Int)==0)=false:=zB O;have T:=ab I;have U:=ab J;have V:=ab ha.sm;have W:=ab hb.sm;clear I J ha hb;go_enter Tryz.func113,Tryz.ntmps113
 go_wp2_with (at_make;refine aE _ rfl _ _ 94 rfl Tryz.underlying94 Tryz.info32 _ _ _ _ (xs.length+ys.length) rfl rfl O O O ?_)
 intro w1 h m;have X:=ab h;have Y:=ab m;clear h m;go_wp2;go_loopw [6] (fun i wr=>∃ k:Nat,k<=xs.length/\i=.int .i64 k/\Hid (pF w wr xs ys k)) (fun i _=>xs.length-(intOf i).toNat)
 case atStart=>exact ⟨0,Nat.zero_le _,rfl,List.replicate ys.length 0,Z,Sm.replicate _,by
  have:=X.out;rw [Nat.add_comm,<- List.replicate_append_replicate] at this;exact this,Y,by simp [ai,iZ]⟩
 case round =>
  obtain ⟨i,hk,rfl,u⟩:=hrel;by_cases hlt:i<xs.length
  ·obtain ⟨b,off,rfl,hs,d⟩:=aG T i hlt;have s:=(aG V).get i hlt;obtain ⟨x,ex⟩:=eX (xs[i]);rw [<- ex] at d s;have EX:=ab ex;have HC:=ab d;clear ex d;go_wp2;go_loopw [7,8] (fun cv D wr=>∃ j c:Nat,j<=ys.length/\c<4294967296/\D=.int .i64 j/\cv=.int .u64 c/\Hid (kp w wr xs ys i j x c)) (fun _ D _=>ys.length-(intOf D).toNat)
   case atStart=>exact ⟨0,0,Nat.zero_le _,O,rfl,rfl,pF.inn u x⟩
   case round =>
    clear u;obtain ⟨j,c,hj,hc,rfl,rfl,v⟩:=hrel;have hg:w.grownBy wr none:=by
     obtain ⟨_,_,_,_,_,_,_,z,_,_⟩:=v.out;exact z
    by_cases f:j<ys.length
    ·obtain ⟨b2,p,rfl,K,a⟩:=aG U j f;have hy:=(aG W).get j f;obtain ⟨y,A⟩:=eX (ys[j]);rw [<- A] at a hy;have he:wr.cell? ⟨b2,p+j,none⟩=some (.int .u32 (y:Nat)):=hg.cell a Z;have hf:wr.cell? ⟨b,off+i,none⟩=some (.int .u32 (x:Nat)):=hg.cell HC Z;obtain ⟨r,hr,hu,B,g⟩:=v.out.at f;have HS:=ab (g y);have EY:=ab A;have hp:(x:Int)*(y:Int)<=18446744065119617025:=mb x y s hy;have hm:0<=(x:Int)*(y:Int):=Int.mul_nonneg O O;clear a g A hg;go_wp2;go_quiet (fail)
     go_wp2;go_roundw
     case rel=>exact ⟨j+1,(c+(x*y+r)) / 4294967296,O,uM x y c r s hy hc hr,zN,by rw [pO],kp.drewN (HS _ EY (by rw [nQ])) _⟩
     case measure=>exact bH
    ·obtain rfl:j=ys.length:=O
     obtain ⟨B,⟨v0,hv⟩,l⟩:=v.out.out hlt EX hc _ rfl;have HO:=ab l;clear l;go_wp2;go_roundw
     case rel=>exact ⟨i+1,O,zN,HO⟩
     case measure=>exact bH
  ·obtain rfl:i=xs.length:=O
   go_wp2_with fail;obtain ⟨done,q,L,C,z,M⟩:=u.out;rw [Nat.sub_self,List.replicate_zero,List.append_nil] at C;have t:=C.ws L (by rw [q];unfold maxLen;omega);have H1:=ab q;have H3:=ab M;rw [q] at t;clear q M C L;refine (eD _ done _ t).mono ?_;rintro e w2 ⟨v',rfl,rfl,P,k2⟩;clear t;go_wp2;go_ret;refine ⟨v',rfl,?_,z,?_⟩
   ·rw [H3,H1,zT zL] at P;exact P
   ·intro j hj;rw [k2] at hj;simp [ar] at hj;omega
def Ek (b d:Value) (xs ys:List Nat) (w:World) (ha:Ws w b xs) (hb:Ws w d ys) (f:xs.length=0∨ys.length=0) :
  Calls Tryz.prog 113 #[b,d] w fun e q=>e=.returned (.slice none 0 0)/\q=w:=by
 obtain ⟨r,s,rfl,m,i,n⟩:=ha.open;obtain ⟨bo,t,rfl,o,l,p⟩:=hb.open;clear n p ha hb;by_cases g:xs.length=0
 ·have a:(((xs.length:Nat):Int)==0)=true:=beq_iff_eq.2 O;clear f g;go_enter Tryz.func113,Tryz.ntmps113
  go_wp2;go_ret;exact ⟨rfl,rfl⟩
 ·have a:(((xs.length:Nat):Int)==0)=false:=zB O;have h:(((ys.length:Nat):Int)==0)=true:=beq_iff_eq.2 O;clear f g;go_enter Tryz.func113,Tryz.ntmps113
  go_wp2;go_ret;exact ⟨rfl,rfl⟩
def Ah (a b:Value) (m n L M:Nat) (w:World) (ha:aT w a m L) (hb:aT w b n M) (r:L+M<=10000000000000) :
  Calls Tryz.prog 113 #[a,b] w fun e w'=>∃ v',e=.returned v'/\aT w' v' (m*n) (L+M)/\w.grownBy w' none/\bC w v':=by
 obtain ⟨xs,d,s,f,t⟩:=ha;obtain ⟨ys,g,u,i,v⟩:=hb;by_cases h:xs.length=0∨ys.length=0
 ·refine (Ek a b xs ys w d g h).mono ?_;rintro e w' ⟨rfl,rfl⟩;refine ⟨_,rfl,⟨[],Ws.nil _,rfl,?_,Z⟩,ae _ _,fun k q=>by simp [ar] at q⟩;rcases h with h | h
  ·have:xs=[]:=List.eq_nil_of_length_eq_zero h;subst this;rw [<- f];simp [ai]
  ·have:ys=[]:=List.eq_nil_of_length_eq_zero h;subst this;rw [<- i];simp [ai]
 ·refine (mul_ws a b xs ys w d g O O O).mono ?_;rintro e w' ⟨v',rfl,l,o,p⟩;rw [f,i] at l;exact ⟨v',rfl,l.mono O,o,p⟩
def kr (w wr:World) (xs:List Nat) (d k r:Nat):Prop :=
 ∃ qs:List Nat,qs.length=xs.length-k/\Sm qs/\bZ wr w.heap.size (List.replicate k 0++qs)/\w.grownBy wr none/\ai (xs.drop k)=ai qs*d+r
def kr.step {d r:Nat} (h:kr w wr xs d (j+1) r) (a:j<xs.length) (hd:r<d) (b:d<4294967296) (x:Nat) (f:x=xs[j]) (g:x<4294967296) (z:Int) (hz:z=(((r*4294967296+x) / d:Nat):Int)) :
  kr w (wr.setCell ⟨w.heap.size,j,none⟩ (.int .u32 z)) xs d j ((r*4294967296+x) % d):=by
 obtain ⟨qs,l,o,p,q,s⟩:=h;have i:(r*4294967296+x) / d<4294967296:=by
  rw [Nat.div_lt_iff_lt_mul O];have:(r+1)*4294967296<=d*4294967296:=Nat.mul_le_mul_right _ O;rw [Nat.mul_comm 4294967296 d];omega
 refine ⟨((r*4294967296+x) / d) :: qs,by simp [l];omega,Sm.cons i o,?_,ah q _ _ zL,?_⟩
 ·have:=p.set j ((r*4294967296+x) / d);rw [hz];have e:(List.replicate (j+1) 0++qs).set j ((r*4294967296+x) / d)=List.replicate j 0++((r*4294967296+x) / d) :: qs:=by
   rw [<- List.replicate_append_replicate (n:=j) (m:=1),List.append_assoc,List.set_append_right _ _ Z];simp
  rw [e] at this;exact this
 ·rw [List.drop_eq_getElem_cons a,<- f];simp only [ai,s];have e:=Nat.div_add_mod (r*4294967296+x) d;rw [Nat.add_mul,Nat.mul_add,Nat.mul_assoc,Nat.mul_comm ((r*4294967296+x) / d) d];omega
def wQ (G:Value) (xs:List Nat) (d:Nat) (w:World) (ha:Ws w G xs) (n:0<d) (hd:d<4294967296) (hl:xs.length<=10000000000000) :
  Calls Tryz.prog 130 #[G,.int .u32 (d:Nat)] w fun e P=>∃ v' r,e=.returned (.tuple #[v',.int .u32 (r:Nat)])/\r=ai xs % d/\aT P v' (ai xs / d) xs.length/\w.grownBy P none/\bC w v':=by
 obtain ⟨ao,ca,rfl,hf,s,K⟩:=ha.open;unfold maxLen at s;have Q:=ab K;have R:=ab ha.sm;clear K ha;go_enter Tryz.func130,Tryz.ntmps130
 go_wp2_with (at_make;refine aE _ rfl _ _ 94 rfl Tryz.underlying94 Tryz.info32 _ _ _ _ xs.length rfl rfl O O O ?_)
 intro w1 g p;have S:=ab g;have T:=ab p;clear g p;go_wp2;go_loopw [7,8] (fun rv iv wr=>∃ (z:Int) (r:Nat),-1<=z/\z<xs.length/\r<d/\iv=.int .i64 z/\rv=.int .u64 r/\Hid (kr w wr xs d (z+1).toNat r)) (fun _ iv _=>(intOf iv+1).toNat)
 case atStart=>exact ⟨(xs.length:Int)-1,0,O,O,O,rfl,rfl,[],Z,Sm.nil,by
  rw [show ((xs.length:Int)-1+1).toNat=xs.length from O,List.append_nil];exact S,T,by
  rw [List.drop_of_length_le O];simp [ai]⟩
 case round =>
  obtain ⟨z,r,hk,ho,D,rfl,rfl,E⟩:=hrel;by_cases h0:z<0
  ·go_wp2_with fail;obtain ⟨qs,l,L,h,t,y⟩:=E.out;rw [show (z+1).toNat=0 from O] at l h y;simp only [List.replicate_zero,List.nil_append,Nat.sub_zero,List.drop_zero] at l h y;have A:=h.ws L (by rw [l];unfold maxLen;omega);rw [l] at A;have U:=ab l;have H:=ab y;clear l y h L;refine (eD _ qs _ A).mono ?_;rintro e w2 ⟨v',rfl,rfl,M,k2⟩;clear A;go_wp2;go_ret2
   refine ⟨v',r,rfl,?_,?_,t,?_⟩
   ·rw [H,Nat.mul_comm,Nat.mul_add_mod,Nat.mod_eq_of_lt D]
   ·rw [U] at M;have e:ai xs / d=ai qs:=by
     rw [H,Nat.mul_comm,Nat.mul_add_div n,Nat.div_eq_of_lt D,Nat.add_zero]
    rw [e];exact M
   ·intro j J;rw [k2] at J;simp [ar] at J;omega
  ·obtain ⟨j,rfl⟩:∃ j:Nat,z=j:=⟨z.toNat,O⟩;have i:j<xs.length:=O
   obtain ⟨b,off,rfl,hp,a⟩:=aG Q j i;have B:=(aG R).get j i;obtain ⟨x,ex⟩:=eX (xs[j]);rw [<- ex] at a B;have V:=ab ex;clear ex;have f:=E.out;rw [show ((j:Int)+1).toNat=j+1 from O] at f;have W:wr.cell? ⟨b,off+j,none⟩=some (.int .u32 (x:Nat)):=by
    obtain ⟨_,_,_,_,t,_⟩:=f;exact t.cell a Z
   have X:wr.frozen? ⟨w.heap.size,j,none⟩=false:=by
    obtain ⟨_,_,_,h,t,_⟩:=f;exact h.free j
   have o:∃ v,wr.cell? ⟨w.heap.size,j,none⟩=some v:=by
    obtain ⟨_,_,_,h,t,_⟩:=f;exact ⟨_,h.cell j (by simp;omega)⟩
   obtain ⟨v0,o⟩:=o;have Y:=ab f;obtain ⟨m,F⟩:=eX (r*4294967296+x);have C:=jQ r x O B;rw [<- F] at C;have he:m<18446744073709551616:=O
   have u:m / d<4294967296:=by
    rw [Nat.div_lt_iff_lt_mul O];have:(r+1)*4294967296<=d*4294967296:=Nat.mul_le_mul_right _ O;rw [Nat.mul_comm 4294967296 d];omega
   have HQ:=ab u;have I:=ab F;clear a E f u F;go_wp2;go_roundw
   case rel =>
    refine ⟨(j:Int)-1,m % d,O,O,Nat.mod_lt _ n,rfl,by rw [Int.natCast_emod],?_⟩;rw [show ((j:Int)-1+1).toNat=j from O,I];refine kr.step Y i D hd x V B _ ?_;have u:=HQ.out;rw [<- I,<- Int.natCast_ediv];generalize m / d=q at u ⊢;rw [IntWalk.u64_in _ ⟨O,O⟩];omega
   case measure=>simp [intOf]
def Cl (a:Value) (n L d:Nat) (w:World) (ha:aT w a n L) (b:0<d) (hd:d<4294967296) (o:L<=10000000000000) :
  Calls Tryz.prog 130 #[a,.int .u32 (d:Nat)] w fun e w'=>∃ v' r,e=.returned (.tuple #[v',.int .u32 (r:Nat)])/\r=n % d/\aT w' v' (n / d) L/\w.grownBy w' none/\bC w v':=by
 obtain ⟨xs,g,p,h,i⟩:=ha;refine (wQ a xs d w g b hd O).mono ?_;rintro e w' ⟨v',r,rfl,k0,f,l,m⟩;rw [h] at k0 f;exact ⟨v',r,rfl,k0,f.mono i,l,m⟩
def js (h:Value) (xs:List Nat) (w:World) (ha:Ws w h xs) (m:xs.length<=2) :
  Calls Tryz.prog 190 #[h] w fun e q=>e=.returned (.int .u64 (ai xs:Nat))/\q=w:=by
 obtain ⟨r,s,rfl,o,f,a⟩:=ha.open;have d:=ha.sm;clear ha f;match xs,m with
 | [],_ =>
  clear a;go_enter Tryz.func190,Tryz.ntmps190
  go_wp2;go_ret;exact ⟨rfl,rfl⟩
 | [x],_ =>
  obtain ⟨b,off,rfl,hb,hc⟩:=a 0 Z;simp only [Nat.add_zero,List.getElem_cons_zero] at hc;have i:=d x Z;clear a d;go_enter Tryz.func190,Tryz.ntmps190
  go_wp2;go_ret;exact ⟨by simp [ai],rfl⟩
 | [x,y],_ =>
  obtain ⟨b,off,rfl,hb,hc⟩:=a 0 Z;obtain ⟨b',l,e,p,g⟩:=a 1 Z;simp only [zI,Addr.mk.injEq,and_true] at e;obtain ⟨rfl,rfl⟩:=e;simp only [Nat.add_zero,List.getElem_cons_zero] at hc;simp only [List.getElem_cons_succ,List.getElem_cons_zero] at g;have i:=d x Z;have hy:=d y Z;have n:=vV y x hy i;clear a d;go_enter Tryz.func190,Tryz.ntmps190
  go_wp2;go_ret;exact ⟨by simp [ai],rfl⟩
def BG (q:Value) (xs:List Nat) (w:World) (ha:Ws w q xs) (v:0<xs.length) (t:Nat) (l:xs[xs.length-1]? = some t) (H:0<t) (I:xs.length<=10000000000000) :
  Calls Tryz.prog 191 #[q] w fun e F=>(∃ n:Nat,e=.returned (.int .i64 (((xs.length:Int)-1)*32+n))/\1<=n/\n<=32/\2^(n-1)<=t/\t<2^n)/\F=w:=by
 obtain ⟨J,K,rfl,C,i,u⟩:=ha.open;unfold maxLen at i;have x:(((xs.length:Nat):Int)==0)=false:=zB O;obtain ⟨b,off,rfl,hb,hc⟩:=u (xs.length-1) O;have m:=ha.sm.get (xs.length-1) O;clear u ha;obtain ⟨j,D⟩:∃ j,xs.length=j+1:=⟨xs.length-1,O⟩;rw [zX O,zI] at l;rw [l] at hc m;clear l;have y:w.cell? ⟨b,off+j,none⟩=some (.int .u32 (t:Nat)):=by
  rw [show j=xs.length-1 from O];exact hc
 have A:=ab D;clear hc;go_enter Tryz.func191,Tryz.ntmps191
 go_wp2;go_loop [3,4] (fun G p=>∃ k T:Nat,k<=32/\G=.int .i64 k/\p=.int .u32 (T:Nat)/\Hid (T=t / 2^k/\(k=0∨2^(k-1)<=t))) (fun _ p=>(intOf p).toNat)
 case atStart=>exact ⟨0,t,O,rfl,rfl,Z,.inl rfl⟩
 case round =>
  obtain ⟨k,T,E,rfl,rfl,g⟩:=hrel;by_cases r:T=0
  ·have B:(((T:Nat):Int) != 0)=false:=by rw [bne_eq_false_iff_eq];omega
   have o:=ab r;clear r;go_wp2;go_ret;refine ⟨⟨k,?_,?_,E,?_,?_⟩,rfl⟩
   ·exact congrArg (fun z=>Ending.returned (Value.int .i64 z)) (by have:=A.out;omega)
   ·obtain ⟨a,d⟩:=g.out;rcases d with rfl | d
    ·rw [o] at a;simp at a;omega
    ·have:k≠0:=by
      intro e;subst e;rw [o] at a;simp at a;omega
     omega
   ·obtain ⟨a,d⟩:=g.out;rcases d with rfl | d
    ·simp;omega
    ·exact d
   ·obtain ⟨a,d⟩:=g.out;rw [o] at a;have:=Nat.div_eq_zero_iff.1 a.symm;rcases this with h | h
    ·have:=Nat.two_pow_pos k;omega
    ·exact h
  ·have B:(((T:Nat):Int) != 0)=true:=by rw [bne_iff_ne];omega
   have f:0<T:=O
   have s:k<32:=by
    obtain ⟨a,d⟩:=g.out;rcases Nat.lt_or_ge k 32 with h | h
    ·exact h
    ·exfalso
     have e:k=32:=O
     subst e;rw [Nat.div_eq_of_lt O] at a;omega
   go_wp2;go_round
   case rel =>
    refine ⟨k+1,T / 2,O,zN,zN,?_,.inr ?_⟩
    ·rw [g.1,Nat.div_div_eq_div_mul,<- Nat.pow_succ]
    ·obtain ⟨a,d⟩:=g.out;rw [Nat.add_sub_cancel];rw [a] at f;exact (Nat.div_pos_iff.1 f).2
   case measure=>exact bH
def mv (w wr:World) (xs:List Nat) (s k c:Nat):Prop :=
 ∃ done:List Nat,done.length=k/\Sm done/\bZ wr w.heap.size (done++c :: List.replicate (xs.length-k) 0)/\w.grownBy wr none/\ai done+4294967296^k*c=ai (xs.take k)*2^s
def mv.step {s:Nat} (h:mv w wr xs s k c) (f:k<xs.length) (g:s<32) (hc:c<2^s) (x:Nat) (i:x=xs[k]) (b d:Int)
  (hz1:b=((c+x*2^s % 4294967296:Nat):Int)) (hz2:d=((x*2^s / 4294967296:Nat):Int)) :
  mv w ((wr.setCell ⟨w.heap.size,k,none⟩ (.int .u32 b)).setCell ⟨w.heap.size,k+1,none⟩ (.int .u32 d)) xs s (k+1) (x*2^s / 4294967296):=by
 obtain ⟨done,a,l,n,o,p⟩:=h;have hb:=(yA s c x g hc).2;refine ⟨done++[c+x*2^s % 4294967296],by simp [a],l.append (Sm.cons hb Sm.nil),?_,ah (ah o _ _ zL) _ _ zL,?_⟩
 ·have:=(n.set k (c+x*2^s % 4294967296)).set (k+1) (x*2^s / 4294967296);rw [hz1,hz2];have e:((done++c :: List.replicate (xs.length-k) 0).set k (c+x*2^s % 4294967296)).set (k+1) (x*2^s / 4294967296)
    = (done++[c+x*2^s % 4294967296])++(x*2^s / 4294967296) :: List.replicate (xs.length-(k+1)) 0:=by
   obtain ⟨m,q⟩:∃ m,xs.length-k=m+1:=⟨xs.length-k-1,O⟩;rw [q,show xs.length-(k+1)=m from O];subst a;rw [List.set_append_right _ _ zL,List.set_append_right _ _ O];simp [List.replicate_succ]
  rw [e] at this;exact this
 ·rw [aR,a,au xs k f,<- i,Nat.add_mul,<- p,Nat.pow_succ,Nat.mul_add,Nat.mul_assoc (4294967296^k) x];have:=fL (4294967296^k) (x*2^s);omega
def zV (A:Value) (xs:List Nat) (s:Nat) (w:World) (ha:Ws w A xs) (t:s<32) (F:0<xs.length) (hl:xs.length<=10000000000000) :
  Calls Tryz.prog 192 #[A,.int .u64 (s:Nat)] w fun e E=>∃ v',e=.returned v'/\aT E v' (ai xs*2^s) (xs.length+1)/\w.grownBy E none/\bC w v':=by
 obtain ⟨ao,ca,rfl,Y,n,C⟩:=ha.open;unfold maxLen at n;have G:(((xs.length:Nat):Int)==0)=false:=zB O;have H:=ab C;have I:=ab ha.sm;have J:((s:Nat):Int) / 32=0:=O
 have K:((s:Nat):Int) % 32=s:=O
 clear C ha;go_enter Tryz.func192,Tryz.ntmps192
 go_wp2_with (at_make;refine aE _ rfl _ _ 94 rfl Tryz.underlying94 Tryz.info32 _ _ _ _ (xs.length+1) rfl rfl O O O ?_)
 intro w1 h l;have L:=ab h;have M:=ab l;clear h l;go_wp2;go_loopw [8] (fun i wr=>∃ k c:Nat,k<=xs.length/\i=.int .i64 k/\Hid (c<2^s)/\Hid (mv w wr xs s k c)) (fun i _=>xs.length-(intOf i).toNat)
 case atStart=>exact ⟨0,0,Nat.zero_le _,rfl,Nat.two_pow_pos s,[],rfl,Sm.nil,by
  have:=L.out;rw [List.replicate_succ] at this;exact this,M,by simp [ai]⟩
 case round =>
  obtain ⟨k,c,hk,rfl,y,z⟩:=hrel;by_cases hlt:k<xs.length
  ·obtain ⟨b,off,rfl,he,a⟩:=aG H k hlt;have o:=(aG I).get k hlt;obtain ⟨x,ex⟩:=eX (xs[k]);rw [<- ex] at a o;have P:=ab ex;clear ex;obtain ⟨done,f,p,g,q,r⟩:=z.out;have Q:wr.cell? ⟨b,off+k,none⟩=some (.int .u32 (x:Nat)):=q.cell a Z;have R:wr.frozen? ⟨w.heap.size,k,none⟩=false:=g.free k;have S:wr.frozen? ⟨w.heap.size,k+1,none⟩=false:=g.free (k+1);have T:wr.cell? ⟨w.heap.size,k,none⟩=some (.int .u32 (c:Nat)):=by
    rw [g.cell k (by simp [f])];simp [f]
   have U:wr.cell? ⟨w.heap.size,k+1,none⟩=some (.int .u32 ((0:Nat):Int)):=by
    rw [g.cell (k+1) (by simp [f];omega)];obtain ⟨m,hm⟩:∃ m,xs.length-k=m+1:=⟨xs.length-k-1,O⟩;simp [f,hm,List.replicate_succ]
   clear f p g q r a;go_wp2;go_roundw
   case rel=>exact ⟨k+1,x*2^s / 4294967296,O,zN,Ee x s o,mv.step z hlt t y x P _ _ (Aa c x s o t y) (left_z2 x s o t)⟩
   case measure=>exact bH
  ·obtain rfl:k=xs.length:=O
   go_wp2_with fail;obtain ⟨done,f,p,g,q,r⟩:=z.out;rw [Nat.sub_self,List.replicate_zero] at g;have hc:=y.out;have u:2^s<=2^31:=Nat.pow_le_pow_right zD O;have d:(done++[c]).length=xs.length+1:=by simp [f]
   have v:=g.ws (p.append (Sm.cons O Sm.nil)) (by rw [d];unfold maxLen;omega);rw [d] at v;have V:=ab d;have W:=ab f;have X:=ab r;clear f r g p hc u d;refine (eD _ (done++[c]) _ v).mono ?_;rintro e w2 ⟨v',rfl,rfl,D,k2⟩;clear v;go_wp2;go_ret;refine ⟨v',rfl,?_,q,?_⟩
   ·rw [V,aR,W,X,zT zL] at D;exact D
   ·intro j B;rw [k2] at B;simp [ar] at B;omega
def jd (w wr:World) (xs:List Nat) (s k:Nat):Prop :=
 ∃ done:List Nat,done.length=k/\Sm done/\bZ wr w.heap.size (done++List.replicate (xs.length-k) 0)/\w.grownBy wr none/\ai done=ai xs / 2^s % 4294967296^k
def jd.step {s:Nat} (h:jd w wr xs s k) (b:k<xs.length) (d:s<32) (e:Sm xs) (m:Nat) (f:m=xs[k]+4294967296*xs.getD (k+1) 0) (z:Int) (g:z=((m / 2^s % 4294967296:Nat):Int)) :
  jd w (wr.setCell ⟨w.heap.size,k,none⟩ (.int .u32 z)) xs s (k+1):=by
 obtain ⟨done,a,i,l,n,o⟩:=h;refine ⟨done++[m / 2^s % 4294967296],by simp [a],i.snoc _,?_,ah n _ _ zL,?_⟩
 ·have:=l.set k (m / 2^s % 4294967296);rw [dM done k _ _ a O] at this;rw [g,show xs.length-(k+1)=xs.length-k-1 from O];exact this
 ·rw [aR,a,o,f,<- qy xs s k e d b,Nat.pow_succ,Nat.mod_mul]
def Fs (G:Value) (xs:List Nat) (s:Nat) (w:World) (ha:Ws w G xs) (H:s<32) (hl:xs.length<=10000000000000) :
  Calls Tryz.prog 193 #[G,.int .u64 (s:Nat)] w fun e T=>∃ v',e=.returned v'/\aT T v' (ai xs / 2^s) xs.length/\w.grownBy T none/\bC w v':=by
 obtain ⟨ao,ca,rfl,hr,t,M⟩:=ha.open;unfold maxLen at t;have I:=ab M;have o:=ab ha.sm;have U:((s:Nat):Int) / 32=0:=O
 have V:((s:Nat):Int) % 32=s:=O
 clear M ha;by_cases p:xs.length=0
 ·have e:xs=[]:=List.eq_nil_of_length_eq_zero p;subst e;go_enter Tryz.func193,Tryz.ntmps193
  go_wp2;go_ret;exact ⟨_,rfl,⟨[],Ws.nil _,rfl,by simp [ai],Z⟩,ae _ _,fun k hk=>by simp [ar] at hk⟩
 ·have B:0<xs.length:=O
  have W:¬ xs=[]:=by intro e;subst e;simp at B
  clear p;go_enter Tryz.func193,Tryz.ntmps193
  go_wp2_with (at_make;refine aE _ rfl _ _ 94 rfl Tryz.underlying94 Tryz.info32 _ _ _ _ xs.length rfl rfl O O O ?_)
  intro w1 g r;have X:=ab g;have Y:=ab r;clear g r;go_wp2;go_loopw [8] (fun i wr=>∃ k:Nat,k<=xs.length/\i=.int .i64 k/\Hid (jd w wr xs s k)) (fun i _=>xs.length-(intOf i).toNat)
  case atStart=>exact ⟨0,Nat.zero_le _,rfl,[],rfl,Sm.nil,X,Y,by simp [ai,Nat.mod_one]⟩
  case round =>
   obtain ⟨k,hk,rfl,A⟩:=hrel;by_cases hlt:k<xs.length
   ·obtain ⟨b,off,rfl,hu,a⟩:=aG I k hlt;have J:=(aG o).get k hlt;obtain ⟨x,ex⟩:=eX (xs[k]);rw [<- ex] at a J;have K:=ab ex;clear ex;obtain ⟨done,h,u,l,n,z⟩:=A.out;have he:wr.cell? ⟨b,off+k,none⟩=some (.int .u32 (x:Nat)):=n.cell a Z;have hf:wr.frozen? ⟨w.heap.size,k,none⟩=false:=l.free k;have q:∃ v,wr.cell? ⟨w.heap.size,k,none⟩=some v:=⟨_,l.cell k (by simp [h];omega)⟩;obtain ⟨v0,q⟩:=q;by_cases f:k+1<xs.length
    ·obtain ⟨b',P,Q,R,d⟩:=aG I (k+1) f;simp only [zI,Addr.mk.injEq,and_true] at Q;obtain ⟨rfl,rfl⟩:=Q;have hy:=(aG o).get (k+1) f;obtain ⟨y,E⟩:=eX (xs[k+1]);rw [<- E] at d hy;have EY:=ab E;clear E;have ho:wr.cell? ⟨b,off+(k+1),none⟩=some (.int .u32 (y:Nat)):=n.cell d Z;have C:=vV y x hy J;obtain ⟨m,F⟩:=eX (x+4294967296*y);rw [<- F] at C;have hp:m<18446744073709551616:=O
     have HM:=ab F;clear h u l n z a d F;go_wp2;go_roundw
     case rel=>exact ⟨k+1,O,zN,jd.step A hlt H o m (by rw [HM,K,EY];simp [f]) _ (by rw [mT];omega)⟩
     case measure=>exact bH
    ·clear h u l n z a;go_wp2;go_roundw
     case rel=>exact ⟨k+1,O,zN,jd.step A hlt H o x (by rw [K];simp [List.getD,f]) _ (by rw [mT];omega)⟩
     case measure=>exact bH
   ·obtain rfl:k=xs.length:=O
    go_wp2_with fail;obtain ⟨done,h,u,l,n,z⟩:=A.out;rw [Nat.sub_self,List.replicate_zero,List.append_nil] at l;have D:=l.ws u (by rw [h];unfold maxLen;omega);rw [h] at D;have H1:=ab h;have H5:=ab z;clear h z l u;refine (eD _ done _ D).mono ?_;rintro e w2 ⟨v',rfl,rfl,S,k2⟩;clear D;go_wp2;go_ret;refine ⟨v',rfl,?_,n,?_⟩
    ·have hlt:=bD o;have hq:=Nat.div_le_self (ai xs) (2^s);rw [H1,H5,Nat.mod_eq_of_lt O] at S;exact S
    ·intro j L;rw [k2] at L;simp [ar] at L;omega
def iw (w wr:World) (gu gq:Nat) (us qs vs:List Nat) (j g k c d:Nat):Prop :=
 ∃ mid:List Nat,mid.length=k/\Sm mid/\bZ wr gu (us.take j++mid++us.drop (j+k))/\bZ wr gq qs/\w.grownBy wr none/\ai mid+g*ai (vs.take k)=ai ((us.drop j).take k)+4294967296^k*(c+d)
def iw.step {g d:Nat} (h:iw w wr gu gq us qs vs j g k c d) (n:k<vs.length) (o:j+k<us.length) (f:w.heap.size<=gu) (i:gq≠gu)
  (x e:Nat) (z:Int) (hz:z=(x:Int)) (hx:x<4294967296) (hs:x+(c+g*vs[k]) % 4294967296+d=us[j+k]+4294967296*e) :
  iw w (wr.setCell ⟨gu,j+k,none⟩ (.int .u32 z)) gu gq us qs vs j g (k+1) ((c+g*vs[k]) / 4294967296) e:=by
 obtain ⟨a,l,q,r,s,t,m⟩:=h;refine ⟨a++[x],by simp [l],q.append (Sm.cons hx Sm.nil),?_,?_,ah t _ _ f,?_⟩
 ·have:=r.set (j+k) x;rw [iQ us a j k x l o] at this;rw [hz];exact this
 ·unfold bZ;rw [heap_setCell_other _ _ _ _ i];exact s
 ·rw [aR,l,au vs k n,au (us.drop j) k (by rw [List.length_drop];omega),List.getElem_drop,Nat.pow_succ];have b:=Nat.mod_add_div (c+g*vs[k]) 4294967296;generalize (c+g*vs[k]) % 4294967296=lo at hs b;generalize (c+g*vs[k]) / 4294967296=hi at b ⊢;generalize us[j+k]=u at hs ⊢;generalize vs[k]=v at b ⊢;generalize 4294967296^k=p at m ⊢;rw [Nat.mul_add g,Nat.mul_left_comm g p v];have y:p*x+p*lo+p*d=p*u+p*(4294967296*e):=by
   rw [<- Nat.mul_add,<- Nat.mul_add,<- Nat.mul_add,hs]
  have A:p*lo+p*(4294967296*hi)=p*c+p*(g*v):=by
   rw [<- Nat.mul_add,<- Nat.mul_add,b]
  rw [Nat.mul_add p c d] at m;rw [Nat.mul_assoc,Nat.mul_add 4294967296,Nat.mul_add p];omega
def cM (w wr:World) (gu gq:Nat) (vs:List Nat) (N A k:Nat) (us qs:List Nat):Prop :=
 us.length=N/\qs.length+k+vs.length=N/\Sm us/\Sm qs/\bZ wr gu us/\bZ wr gq (List.replicate k 0++qs)/\w.grownBy wr none/\ai (us.drop k)<ai vs /\
  A=ai (us.take k)+4294967296^k*(ai qs*ai vs+ai (us.drop k))
def cM.next {b:World} {A:Nat} {a:List Nat} (h:cM w wr gu gq vs N A (j+1) us qs) (l:ai (us.drop j) / ai vs<4294967296)
  (h1:a.length=N) (h2:a.take j=us.take j) (h3:ai (a.drop j)=ai (us.drop j) % ai vs) (h4:Sm a) (a1:bZ b gu a) (a2:bZ b gq (List.replicate (j+1) 0++qs)) (hg:w.grownBy b none)
  (hgq:w.heap.size<=gq) (hne:gq≠gu) (z:Int) (hz:z=((ai (us.drop j) / ai vs:Nat):Int)) :
  cM w (b.setCell ⟨gq,j,none⟩ (.int .u32 z)) gu gq vs N A j a ((ai (us.drop j) / ai vs) :: qs):=by
 obtain ⟨x,y,B,t,C,E,F,G,v⟩:=h;have d:0<ai vs:=O
 refine ⟨h1,by simp;omega,h4,Sm.cons l t,?_,?_,ah hg _ _ hgq,by rw [h3];exact Nat.mod_lt _ d,?_⟩
 ·unfold bZ;rw [heap_setCell_other _ _ _ _ (fun e=>hne e.symm)];exact a1
 ·have:=a2.set j (ai (us.drop j) / ai vs);rw [hz];have e:(List.replicate (j+1) 0++qs).set j (ai (us.drop j) / ai vs)=List.replicate j 0++(ai (us.drop j) / ai vs) :: qs:=by
   rw [<- List.replicate_append_replicate (n:=j) (m:=1),List.append_assoc,List.set_append_right _ _ Z];simp
  rw [e] at this;exact this
 ·have f:j<us.length:=O
  rw [v,h2,h3,au us j f,Nat.pow_succ];have g:=cP us j;have o:us.getD j 0=us[j]:=by simp [f]
  rw [o] at g;have i:=Nat.div_add_mod (ai (us.drop j)) (ai vs);show _=ai (us.take j)+4294967296^j*((ai (us.drop j) / ai vs+4294967296*ai qs)*ai vs+ai (us.drop j) % ai vs)
  generalize ai (us.drop j)=D at g i ⊢;generalize ai (us.drop (j+1))=D1 at g ⊢;generalize D / ai vs=q at i ⊢;generalize D % ai vs=r at i ⊢;generalize us[j]=u at g ⊢;generalize ai vs=V at i ⊢;generalize ai qs=Q;generalize 4294967296^j=p;have s:(q+4294967296*Q)*V+r=u+4294967296*(Q*V+D1):=by
   rw [Nat.add_mul,Nat.mul_comm q V,Nat.mul_assoc 4294967296 Q V,Nat.mul_add];omega
  rw [s,Nat.mul_add p u,Nat.mul_assoc p];omega
def iw.top {g d:Nat} (h:iw w wr gu gq us qs vs j g vs.length c d) (m:j+vs.length<us.length) (f:w.heap.size<=gu) (i:gq≠gu)
  (x e:Nat) (z:Int) (hz:z=(x:Int)) (hx:x<4294967296) (hs:x+c+d=us[j+vs.length]+4294967296*e) :
  ∃ W:List Nat,W.length=vs.length+1/\Sm W/\bZ (wr.setCell ⟨gu,j+vs.length,none⟩ (.int .u32 z)) gu (us.take j++W++us.drop (j+(vs.length+1)))/\bZ (wr.setCell ⟨gu,j+vs.length,none⟩ (.int .u32 z)) gq qs /\
   w.grownBy (wr.setCell ⟨gu,j+vs.length,none⟩ (.int .u32 z)) none/\ai W+g*ai vs=ai ((us.drop j).take (vs.length+1))+4294967296^(vs.length+1)*e/\W[vs.length]? = some x:=by
 obtain ⟨a,b,n,o,q,r,l⟩:=h;refine ⟨a++[x],by simp [b],n.append (Sm.cons hx Sm.nil),?_,?_,ah r _ _ f,?_,by rw [List.getElem?_append_right O];simp [b]⟩
 ·have:=o.set (j+vs.length) x;rw [iQ us a j vs.length x b m] at this;rw [hz];exact this
 ·unfold bZ;rw [heap_setCell_other _ _ _ _ i];exact q
 ·rw [zT (Nat.le_refl vs.length)] at l;rw [aR,b,au (us.drop j) vs.length (by rw [List.length_drop];omega),List.getElem_drop,Nat.pow_succ];generalize us[j+vs.length]=u at hs ⊢;generalize 4294967296^vs.length=p at l ⊢;have s:p*x+p*c+p*d=p*u+p*(4294967296*e):=by
   rw [<- Nat.mul_add,<- Nat.mul_add,<- Nat.mul_add,hs]
  rw [Nat.mul_add p c d] at l;rw [Nat.mul_assoc p];omega
def db (w wr:World) (gu gq:Nat) (us qs vs:List Nat) (j k c:Nat):Prop :=
 ∃ mid:List Nat,mid.length=k/\Sm mid/\bZ wr gu (us.take j++mid++us.drop (j+k))/\bZ wr gq qs/\w.grownBy wr none/\ai mid+4294967296^k*c=ai ((us.drop j).take k)+ai (vs.take k)
def db.step (h:db w wr gu gq us qs vs j k c) (f:k<vs.length) (g:j+k<us.length) (b:w.heap.size<=gu) (d:gq≠gu)
  (z:Int) (hz:z=(((c+us[j+k]+vs[k]) % 4294967296:Nat):Int)) :
  db w (wr.setCell ⟨gu,j+k,none⟩ (.int .u32 z)) gu gq us qs vs j (k+1) ((c+us[j+k]+vs[k]) / 4294967296):=by
 obtain ⟨a,e,i,l,m,n,o⟩:=h;refine ⟨a++[(c+us[j+k]+vs[k]) % 4294967296],by simp [e],i.snoc _,?_,?_,ah n _ _ b,?_⟩
 ·have:=l.set (j+k) ((c+us[j+k]+vs[k]) % 4294967296);rw [iQ us a j k _ e g] at this;rw [hz];exact this
 ·unfold bZ;rw [heap_setCell_other _ _ _ _ d];exact m
 ·rw [pM a k c us[j+k] vs[k] _ _ e o,au vs k f,au (us.drop j) k (by rw [List.length_drop];omega),List.getElem_drop]
def db.drewN (h:db w wr gu gq us qs vs j k c) (q:Nat):db w (wr.drewN q) gu gq us qs vs j k c:=by
 obtain ⟨a,b,d,e,f,g,i⟩:=h;exact ⟨a,b,d,e,f,ak g q,i⟩
def db.top {x R:Nat} (h:db w wr gu gq us qs vs j vs.length c) (r:j+vs.length<us.length) (g:w.heap.size<=gu) (i:gq≠gu)
  (hx:us[j+vs.length]=x) (hW:ai ((us.drop j).take (vs.length+1))+ai vs=R+4294967296^(vs.length+1)) (hR:R<4294967296^vs.length) (z:Int) (hz:z=(((x+c) % 4294967296:Nat):Int)) :
  ∃ W:List Nat,W.length=vs.length+1/\Sm W/\bZ (wr.setCell ⟨gu,j+vs.length,none⟩ (.int .u32 z)) gu (us.take j++W++us.drop (j+(vs.length+1)))/\bZ (wr.setCell ⟨gu,j+vs.length,none⟩ (.int .u32 z)) gq qs /\
   w.grownBy (wr.setCell ⟨gu,j+vs.length,none⟩ (.int .u32 z)) none/\ai W=R:=by
 obtain ⟨a,m,q,u,v,y,d⟩:=h;rw [zT (Nat.le_refl vs.length)] at d;rw [au (us.drop j) vs.length (by rw [List.length_drop];omega),List.getElem_drop,hx,Nat.pow_succ] at hW;have f:=bD q;rw [m] at f;have b:x+c=4294967296/\ai a=R:=by
  generalize 4294967296^vs.length=p at d hW hR f;generalize ai ((us.drop j).take vs.length)=T at d hW;generalize ai vs=V at d hW;generalize ai a=M at d f ⊢;have e:M+p*(x+c)=R+p*4294967296:=by
   rw [Nat.mul_add];omega
  have n:0<p:=O
  have s:(M+p*(x+c)) / p=x+c:=by rw [Nat.add_mul_div_left _ _ n,Nat.div_eq_of_lt f,Nat.zero_add]
  have t:(R+p*4294967296) / p=4294967296:=by rw [Nat.add_mul_div_left _ _ n,Nat.div_eq_of_lt hR,Nat.zero_add]
  have o:x+c=4294967296:=by rw [<- s,e,t]
  refine ⟨o,?_⟩;rw [o] at e;omega
 have l:(x+c) % 4294967296=0:=by rw [b.1]
 rw [l] at hz;refine ⟨a++[0],by simp [m],q.append (Sm.cons zD Sm.nil),?_,?_,ah y _ _ g,by rw [aR,Nat.mul_zero,Nat.add_zero];exact b.2⟩
 ·have:=u.set (j+vs.length) 0;rw [iQ us a j vs.length 0 m r] at this;rw [hz];exact this
 ·unfold bZ;rw [heap_setCell_other _ _ _ _ i];exact v
def cM.drewN {A:Nat} (h:cM w wr gu gq vs N A k us qs) (q:Nat):cM w (wr.drewN q) gu gq vs N A k us qs:=by
 obtain ⟨a,b,d,e,f,g,i,l,m⟩:=h;exact ⟨a,b,d,e,f,g,ak i q,l,m⟩
def cM.start {al:List Nat} {A:Nat} (h:Sm al) (r:al.length+1<=N) (i:ai al=A) (hb:A<4294967296^(N-1)) (tt:Nat) (l:1<vs.length) (m:vs.length<N) (d:vs[vs.length-1]? = some tt) (n:0<tt)
  (a1:bZ wr gu (al++List.replicate (N-al.length) 0)) (a2:bZ wr gq (List.replicate (N-vs.length) 0)) (hg:w.grownBy wr none) :
  cM w wr gu gq vs N A (N-vs.length) (al++List.replicate (N-al.length) 0) []:=by
 have f:(al++List.replicate (N-al.length) 0).length=N:=by simp;omega
 have g:Sm (al++List.replicate (N-al.length) 0):=h.append (Sm.replicate _);have a:ai (al++List.replicate (N-al.length) 0)=A:=by rw [bN,iZ,i];simp
 have hd:=kR _ (N-vs.length) g (by rw [f];omega);have o:4294967296^(vs.length-1)<=ai vs:=by
  obtain ⟨p,q⟩:=zY d;have:=im vs (vs.length-1) p;rw [q] at this;have b:4294967296^(vs.length-1)*1<=4294967296^(vs.length-1)*(tt+4294967296*ai (vs.drop (vs.length-1+1))):=Nat.mul_le_mul_left _ O;omega
 refine ⟨f,by simp;omega,g,Sm.nil,a1,by rw [List.append_nil];exact a2,hg,?_,?_⟩
 ·rw [<- hd,a];have:A / 4294967296^(N-vs.length)<4294967296^(vs.length-1):=by
   rw [Nat.div_lt_iff_lt_mul (Nat.pow_pos zD),<- Nat.pow_add,show vs.length-1+(N-vs.length)=N-1 from O];exact hb
  omega
 ·have e:=bN ((al++List.replicate (N-al.length) 0).take (N-vs.length)) ((al++List.replicate (N-al.length) 0).drop (N-vs.length));rw [List.take_append_drop,List.length_take,f,show min (N-vs.length) N=N-vs.length from O,a] at e;simp only [ai,Nat.zero_mul,Nat.zero_add];exact e
def copied {al:List Nat} (h:bZ wr gu (List.replicate N 0)) (hg:w.grownBy wr none) (d:w.heap.size<=gu) :
  bZ (wr.setRow gu ((aq (List.replicate N 0)).toList.take 0++(aq al).toList++(aq (List.replicate N 0)).toList.drop (0+(aq al).toList.length)).toArray) gu (al++List.replicate (N-al.length) 0) /\
  w.grownBy (wr.setRow gu ((aq (List.replicate N 0)).toList.take 0++(aq al).toList++(aq (List.replicate N 0)).toList.drop (0+(aq al).toList.length)).toArray) none/\wr.grownBy (wr.setRow gu ((aq (List.replicate N 0)).toList.take 0++(aq al).toList++(aq (List.replicate N 0)).toList.drop (0+(aq al).toList.length)).toArray) (some gu):=by
 have a:wr.grownBy (wr.setRow gu ((aq (List.replicate N 0)).toList.take 0++(aq al).toList++(aq (List.replicate N 0)).toList.drop (0+(aq al).toList.length)).toArray) (some gu):=⟨rfl,rfl,rfl,by simp [World.setRow],fun k _ f=>setRow_other wr gu k _ (fun e=>f (by rw [e]))⟩;refine ⟨?_,?_,a⟩
 ·unfold bZ at h ⊢;rw [setRow_heap wr gu _ _ _ _ h];have e:((aq (List.replicate N 0)).toList.take 0++(aq al).toList++(aq (List.replicate N 0)).toList.drop (0+(aq al).toList.length)).toArray=aq (al++List.replicate (N-al.length) 0):=by
   simp [aq,List.map_append]
  rw [e]
 ·exact aw (r1:=none) (r2:=some gu) hg a (fun _ _ e=>e) (fun b hb e=>by cases e;omega)
def VC (vb voff:Nat) (vs:List Nat) (wr:World):Prop:=∀ i (h:i<vs.length),wr.cell? ⟨vb,voff+i,none⟩=some (.int .u32 (vs[i]:Nat))
def VC.set {d b:Nat} (h:VC d b vs wr) (g i:Nat) (v:Value) (f:d≠g):VC d b vs (wr.setCell ⟨g,i,none⟩ v):=fun k l=>by
 have e:(wr.setCell ⟨g,i,none⟩ v).heap[d]? = wr.heap[d]?:=heap_setCell_other _ _ _ _ f;rw [World.cell?_of_block (w:=wr) (a:=⟨d,b+k,none⟩) e];exact h k l
def VC.drewN {b a:Nat} (h:VC b a vs wr) (q:Nat):VC b a vs (wr.drewN q):=h
def cM.kd {A n:Nat} (h:cM w wr gu gq vs N A (j+1) us qs) (sv:Sm vs) (hn:vs.length=n+2) (a m b d e:Nat) (f:vs[n+1]? = some a) (g:vs[n]? = some m)
  (eua:us[j+(n+2)]? = some b) (eub:us[j+(n+1)]? = some d) (euc:us[j+n]? = some e) (hvt:2147483648<=a) :
  KD 4294967296 (ai (us.drop j)) (ai vs) (4294967296^n) a m (ai (vs.take n)) (b*4294967296+d) e (ai (((us.drop j).take (vs.length+1)).take n)):=by
 obtain ⟨B,C,o,D,E,F,G,u,H⟩:=h;obtain ⟨I,p⟩:=zY f;obtain ⟨J,v⟩:=zY g;obtain ⟨K,x⟩:=zY eua;obtain ⟨L,y⟩:=zY eub;obtain ⟨M,z⟩:=zY euc;have i:=ni (j:=j) sv o O u;have q:((us.drop j).take (vs.length+1)).length=n+3:=by rw [List.length_take,List.length_drop];omega
 have l:=kd_of vs ((us.drop j).take (vs.length+1)) n hn q sv ((o.drop j).take _) (by rw [p];exact hvt) (by rw [i.1];exact i.2.1);rw [i.1] at l;have r:((us.drop j).take (vs.length+1))[n+2]=b:=by rw [List.getElem_take,List.getElem_drop];exact x
 have s:((us.drop j).take (vs.length+1))[n+1]=d:=by rw [List.getElem_take,List.getElem_drop];exact y
 have t:((us.drop j).take (vs.length+1))[n]=e:=by rw [List.getElem_take,List.getElem_drop];exact z
 rw [r,s,t,p,v] at l;exact l
def cW (n:Nat):Code->Option Code
 | .block m c=>if m=n then some (.block m c) else cW n c
 | .seq a b=>match cW n a with
  | some c=>some c
  | none=>cW n b
 | .loop c=>cW n c
 | .scope c=>cW n c
 | .cond _ a b=>match cW n a with
  | some c=>some c
  | none=>cW n b
 | _=>none
def vg (K:Act->World->Prop) (A:Exit->Act->World->Prop) (w:World) (gu N y j n U V P d e B hh i C l p:Nat)
  (kd:Hid (KD 4294967296 U V P d e B hh i C)) (hvt:d<4294967296) (hvn:e<4294967296) (huc:i<4294967296) (hcell:w.cell? ⟨gu,j+(n+2)-2,none⟩=some (.int .u32 i)) (hj:j+n+2<N) (hN:N<=10000000000000)
  (h0:Hid (l*d+p=hh/\U / V<=l)) (hg0:l<18446744073709551616) (hr0:p<4294967296)
  (c0 c1 c2 c3 c4 c5 c6 c7 c8 c9 c10 c11 c14 c15 c19 c22 c23 c24 c25 c26 c27 c28 c29 c30 c31 c32 c33 c34 c35 c36 c37 c38 c39 c40 c41 c42 c43 c44 c45 c46 c47 c48 c49 c50 c51 c52 c53 c54 c55 c56 c57 c58 c59 c60 c61 c62 c63 c64 c65 c66 c67 c68 c69 c70 c71 c72 c73 c74 c75 c76 c77 c78 c79 c80 c81 c82 c83 c84 c85 c86 c87 c88 c89 c90 c91 c92 c93 c94 c95 c96 c97 c98 c99 c100 c101 c102 c103 c104 c105 c106 c107 c108 c109 c110 c111 c112 c113 c114 c115 c116 c117 c118 c119 c120 c121 c122 c123 c124 c125 c126 c127 c128 c129 c130 c131 c132 c133 c134 c135 c136 c137 c138 c139 c140 c141 c142 c143 c144 c145 c146 c147 c148 c149 c150 c151 c152 c153 c154 c155 c156 c157 c158 c159 c160 c161 c162 c163 c164 c165 c166 c167 c168 c169 c170 c171 c172 c173 c174 c175 c176 c177 c178 c179 c180 c181 c182 c183 c184 c185 c186 c187 c188 c189 c190 c191 c192 c193 c194 c195 c196 c197 c198 c199 c200 c201 c202 c203 c204 c205 c206 c207 c208 c209 c210 c211 c212 c213 c214 c215 c216 c217 c218 c219 c220 c221 c222 c223 c224 c225 c226 c227 c228 c229 c230 c231 c232 c233 c234 c235 c236 c237 c238 c239 c240 c241 c242 c243 c244 c245 c246 c247 c248 c249 c250 c251 c252 c253 c254 c255 c256 c257 c258 c259 c260 c261 c262 c263 c264 c265 c266 c267 c268 c269 c270 c271 c272:Value)
  (hK:Hid (∀ (g:Nat) (gz:Int) (u21 u136 u137 u138 u139 u140 u141 u142 u143 u144 u145 u146 u147 u148 u149 u150 u151 u152 u153 u154 u155 u156 u157 u158 u159 u160 u161:Value),gz=(g:Int)->g<4294967296->U / V<=g->g<=U / V+1->K ⟨#[c0,c1,c2,c3,c4,c5,c6,c7,c8,c9,c10,c11,.slice (some ⟨gu,0,none⟩) N y,.int .i64 (n+2),c14,c15,.int .u64 d,.int .u64 e,.int .i64 j,c19,.int .u64 gz,u21,c22,c23,c24,c25,c26,c27,c28,c29,c30,c31,c32,c33,c34,c35,c36,c37,c38,c39,c40,c41,c42,c43,c44,c45,c46,c47,c48,c49,c50,c51,c52,c53,c54,c55,c56,c57,c58,c59,c60,c61,c62,c63,c64,c65,c66,c67,c68,c69,c70,c71,c72,c73,c74,c75,c76,c77,c78,c79,c80,c81,c82,c83,c84,c85,c86,c87,c88,c89,c90,c91,c92,c93,c94,c95,c96,c97,c98,c99,c100,c101,c102,c103,c104,c105,c106,c107,c108,c109,c110,c111,c112,c113,c114,c115,c116,c117,c118,c119,c120,c121,c122,c123,c124,c125,c126,c127,c128,c129,c130,c131,c132,c133,c134,c135,u136,u137,u138,u139,u140,u141,u142,u143,u144,u145,u146,u147,u148,u149,u150,u151,u152,u153,u154,u155,u156,u157,u158,u159,u160,u161,c162,c163,c164,c165,c166,c167,c168,c169,c170,c171,c172,c173,c174,c175,c176,c177,c178,c179,c180,c181,c182,c183,c184,c185,c186,c187,c188,c189,c190,c191,c192,c193,c194,c195,c196,c197,c198,c199,c200,c201,c202,c203,c204,c205,c206,c207,c208,c209,c210,c211,c212,c213,c214,c215,c216,c217,c218,c219,c220,c221,c222,c223,c224,c225,c226,c227,c228,c229,c230,c231,c232,c233,c234,c235,c236,c237,c238,c239,c240,c241,c242,c243,c244,c245,c246,c247,c248,c249,c250,c251,c252,c253,c254,c255,c256,c257,c258,c259,c260,c261,c262,c263,c264,c265,c266,c267,c268,c269,c270,c271,c272],[]⟩ w)) :
  Code.wp Tryz.prog ((Tryz.f163.body.bind (cW 2)).getD .skip) (Exit.then K A) ⟨#[c0,c1,c2,c3,c4,c5,c6,c7,c8,c9,c10,c11,.slice (some ⟨gu,0,none⟩) N y,.int .i64 (n+2),c14,c15,.int .u64 d,.int .u64 e,.int .i64 j,c19,.int .u64 l,.int .u64 p,c22,c23,c24,c25,c26,c27,c28,c29,c30,c31,c32,c33,c34,c35,c36,c37,c38,c39,c40,c41,c42,c43,c44,c45,c46,c47,c48,c49,c50,c51,c52,c53,c54,c55,c56,c57,c58,c59,c60,c61,c62,c63,c64,c65,c66,c67,c68,c69,c70,c71,c72,c73,c74,c75,c76,c77,c78,c79,c80,c81,c82,c83,c84,c85,c86,c87,c88,c89,c90,c91,c92,c93,c94,c95,c96,c97,c98,c99,c100,c101,c102,c103,c104,c105,c106,c107,c108,c109,c110,c111,c112,c113,c114,c115,c116,c117,c118,c119,c120,c121,c122,c123,c124,c125,c126,c127,c128,c129,c130,c131,c132,c133,c134,c135,c136,c137,c138,c139,c140,c141,c142,c143,c144,c145,c146,c147,c148,c149,c150,c151,c152,c153,c154,c155,c156,c157,c158,c159,c160,c161,c162,c163,c164,c165,c166,c167,c168,c169,c170,c171,c172,c173,c174,c175,c176,c177,c178,c179,c180,c181,c182,c183,c184,c185,c186,c187,c188,c189,c190,c191,c192,c193,c194,c195,c196,c197,c198,c199,c200,c201,c202,c203,c204,c205,c206,c207,c208,c209,c210,c211,c212,c213,c214,c215,c216,c217,c218,c219,c220,c221,c222,c223,c224,c225,c226,c227,c228,c229,c230,c231,c232,c233,c234,c235,c236,c237,c238,c239,c240,c241,c242,c243,c244,c245,c246,c247,c248,c249,c250,c251,c252,c253,c254,c255,c256,c257,c258,c259,c260,c261,c262,c263,c264,c265,c266,c267,c268,c269,c270,c271,c272],[]⟩ w:=by
 conv=>arg 2;whnf
 go_wp2;go_loop [20,21] (fun x G=>∃ g r:Nat,x=.int .u64 g/\G=.int .u64 r/\r<4294967296/\g<18446744073709551616/\Hid (g*d+r=hh/\U / V<=g)) (fun x _=>(intOf x).toNat)
 case atStart=>exact ⟨l,p,rfl,rfl,hr0,hg0,h0⟩
 case round =>
 clear h0 hg0 hr0;obtain ⟨g,r,rfl,rfl,F,hg,f⟩:=hrel;have s:=jQ r i F huc;obtain ⟨m,v⟩:=eX (r*4294967296+i);rw [<- v] at s;have z:=ab v;have D:m<18446744073709551616:=O
 clear v;by_cases o:4294967296<=g
 ·have h:=ab (kd.keep f.1 (.inl o));have a:1<=g:=O
  by_cases b:r+d<4294967296
  ·go_wp2;go_round
   case rel=>exact ⟨g-1,r+d,zN,zN,b,O,bT f.1 a,by have:=h.out;omega⟩
   case measure=>exact bH
  ·go_wp2;have hb:=kd.out.brk (bT f.1 a) (Nat.le_of_not_lt b);refine hK (g-1) _ _ _ _ _ _ _ _ _ _ _ _ _ _ _ _ _ _ _ _ _ _ _ _ _ _ _ _  ?_ hb.1 (by have:=h.out;omega) (kd.exit (bT f.1 a) hb.1 hb.2);omega
 ·have H:(g:Int)*(e:Int)<=18446744065119617025:=mb g e O hvn;have E:0<=(g:Int)*(e:Int):=Int.mul_nonneg O O;by_cases q:m<g*e
  ·have t:(m:Int)<(g:Int)*(e:Int):=by rw [<- Int.natCast_mul];omega
   have h:=ab (kd.keep f.1 (.inr (by rw [<- z];exact q)));have a:1<=g:=Nat.lt_of_le_of_lt (Nat.zero_le _) h;clear q;by_cases b:r+d<4294967296
   ·go_wp2;go_round
    case rel=>exact ⟨g-1,r+d,zN,zN,b,O,bT f.1 a,by have:=h.out;omega⟩
    case measure=>exact bH
   ·go_wp2;have hb:=kd.out.brk (bT f.1 a) (Nat.le_of_not_lt b);refine hK (g-1) _ _ _ _ _ _ _ _ _ _ _ _ _ _ _ _ _ _ _ _ _ _ _ _ _ _ _ _  ?_ hb.1 (by have:=h.out;omega) (kd.exit (bT f.1 a) hb.1 hb.2);omega
  ·have t:¬ (m:Int)<(g:Int)*(e:Int):=by rw [<- Int.natCast_mul];omega
   have u:=ab q;clear q;go_wp2;exact hK g _ _ _ _ _ _ _ _ _ _ _ _ _ _ _ _ _ _ _ _ _ _ _ _ _ _ _ _  rfl O f.2 (kd.exit f.1 O (by have:=u.out;rw [<- z];omega))
def A0 (g v c:Nat) (hg:g<4294967296) (a:v<4294967296) (hc:c<4294967296):(c+g*v) / 4294967296<4294967296:=by
 have:g*v<=4294967295*4294967295:=Nat.mul_le_mul O O;omega
def uN (g v c:Nat):(((c:Int)+(g:Int)*(v:Int)) / 4294967296)=(((c+g*v) / 4294967296:Nat):Int):=by
 rw [Int.natCast_ediv,Int.natCast_add,Int.natCast_mul];rfl
def Cq (K:Act->World->Prop) (L:Exit->Act->World->Prop) (w0 w:World) (gu gq f a l N F j n g:Nat) (us qs vs:List Nat)
  (hvl:vs.length=n+2) (hul:us.length=N) (hcv:n+2<=l) (hcv2:l<=9223372036854775807) (hg:g<4294967296) (hj:j+n+2<N) (hN:N<=10000000000000) (su:Hid (Sm us)) (sv:Hid (Sm vs))
  (hgu:w0.heap.size<=gu) (hne:gq≠gu) (hvb:f≠gu)
  (h0:Hid (iw w0 w gu gq us qs vs j g 0 0 0)) (v0:Hid (VC f a vs w))
  (c0 c1 c2 c3 c4 c5 c6 c7 c8 c9 c10 c14 c15 c16 c17 c19 c21 c25 c26 c27 c28 c29 c30 c31 c32 c33 c34 c35 c36 c37 c38 c39 c40 c41 c42 c43 c44 c45 c46 c47 c48 c49 c50 c51 c52 c53 c54 c55 c56 c57 c58 c59 c60 c61 c62 c63 c64 c65 c66 c67 c68 c69 c70 c71 c72 c73 c74 c75 c76 c77 c78 c79 c80 c81 c82 c83 c84 c85 c86 c87 c88 c89 c90 c91 c92 c93 c94 c95 c96 c97 c98 c99 c100 c101 c102 c103 c104 c105 c106 c107 c108 c109 c110 c111 c112 c113 c114 c115 c116 c117 c118 c119 c120 c121 c122 c123 c124 c125 c126 c127 c128 c129 c130 c131 c132 c133 c134 c135 c136 c137 c138 c139 c140 c141 c142 c143 c144 c145 c146 c147 c148 c149 c150 c151 c152 c153 c154 c155 c156 c157 c158 c159 c160 c161 c162 c163 c164 c165 c166 c167 c168 c169 c170 c171 c172 c173 c174 c175 c176 c177 c178 c179 c180 c181 c182 c183 c184 c185 c186 c187 c188 c189 c190 c191 c192 c193 c194 c195 c196 c197 c198 c199 c200 c201 c202 c203 c204 c205 c206 c207 c208 c209 c210 c211 c212 c213 c214 c215 c216 c217 c218 c219 c220 c221 c222 c223 c224 c225 c226 c227 c228 c229 c230 c231 c232 c233 c234 c235 c236 c237 c238 c239 c240 c241 c242 c243 c244 c245 c246 c247 c248 c249 c250 c251 c252 c253 c254 c255 c256 c257 c258 c259 c260 c261 c262 c263 c264 c265 c266 c267 c268 c269 c270 c271 c272:Value)
  (hK:Hid (∀ (wr:World) (c d:Nat) (cz dz:Int) (u24 u25 u162 u163 u164 u165 u166 u167 u168 u169 u170 u171 u172 u173 u174 u175 u176 u177 u178 u179 u180 u181 u182 u183 u184 u185 u186 u187 u188 u189 u190 u191 u192 u193 u194 u195 u196 u197 u198 u199:Value),cz=(c:Int)->dz=(d:Int)->c<4294967296->d<=1->iw w0 wr gu gq us qs vs j g (n+2) c d->VC f a vs wr->K ⟨#[c0,c1,c2,c3,c4,c5,c6,c7,c8,c9,c10,.slice (some ⟨f,a,none⟩) (n+2) l,.slice (some ⟨gu,0,none⟩) N F,.int .i64 (n+2),c14,c15,c16,c17,.int .i64 j,c19,.int .u64 g,c21,.int .u64 cz,.int .u64 dz,u24,u25,c26,c27,c28,c29,c30,c31,c32,c33,c34,c35,c36,c37,c38,c39,c40,c41,c42,c43,c44,c45,c46,c47,c48,c49,c50,c51,c52,c53,c54,c55,c56,c57,c58,c59,c60,c61,c62,c63,c64,c65,c66,c67,c68,c69,c70,c71,c72,c73,c74,c75,c76,c77,c78,c79,c80,c81,c82,c83,c84,c85,c86,c87,c88,c89,c90,c91,c92,c93,c94,c95,c96,c97,c98,c99,c100,c101,c102,c103,c104,c105,c106,c107,c108,c109,c110,c111,c112,c113,c114,c115,c116,c117,c118,c119,c120,c121,c122,c123,c124,c125,c126,c127,c128,c129,c130,c131,c132,c133,c134,c135,c136,c137,c138,c139,c140,c141,c142,c143,c144,c145,c146,c147,c148,c149,c150,c151,c152,c153,c154,c155,c156,c157,c158,c159,c160,c161,u162,u163,u164,u165,u166,u167,u168,u169,u170,u171,u172,u173,u174,u175,u176,u177,u178,u179,u180,u181,u182,u183,u184,u185,u186,u187,u188,u189,u190,u191,u192,u193,u194,u195,u196,u197,u198,u199,c200,c201,c202,c203,c204,c205,c206,c207,c208,c209,c210,c211,c212,c213,c214,c215,c216,c217,c218,c219,c220,c221,c222,c223,c224,c225,c226,c227,c228,c229,c230,c231,c232,c233,c234,c235,c236,c237,c238,c239,c240,c241,c242,c243,c244,c245,c246,c247,c248,c249,c250,c251,c252,c253,c254,c255,c256,c257,c258,c259,c260,c261,c262,c263,c264,c265,c266,c267,c268,c269,c270,c271,c272],[]⟩ wr)) :
  Code.wp Tryz.prog ((Tryz.f163.body.bind (cW 4)).getD .skip) (Exit.then K L) ⟨#[c0,c1,c2,c3,c4,c5,c6,c7,c8,c9,c10,.slice (some ⟨f,a,none⟩) (n+2) l,.slice (some ⟨gu,0,none⟩) N F,.int .i64 (n+2),c14,c15,c16,c17,.int .i64 j,c19,.int .u64 g,c21,.int .u64 0,.int .u64 0,.int .i64 0,c25,c26,c27,c28,c29,c30,c31,c32,c33,c34,c35,c36,c37,c38,c39,c40,c41,c42,c43,c44,c45,c46,c47,c48,c49,c50,c51,c52,c53,c54,c55,c56,c57,c58,c59,c60,c61,c62,c63,c64,c65,c66,c67,c68,c69,c70,c71,c72,c73,c74,c75,c76,c77,c78,c79,c80,c81,c82,c83,c84,c85,c86,c87,c88,c89,c90,c91,c92,c93,c94,c95,c96,c97,c98,c99,c100,c101,c102,c103,c104,c105,c106,c107,c108,c109,c110,c111,c112,c113,c114,c115,c116,c117,c118,c119,c120,c121,c122,c123,c124,c125,c126,c127,c128,c129,c130,c131,c132,c133,c134,c135,c136,c137,c138,c139,c140,c141,c142,c143,c144,c145,c146,c147,c148,c149,c150,c151,c152,c153,c154,c155,c156,c157,c158,c159,c160,c161,c162,c163,c164,c165,c166,c167,c168,c169,c170,c171,c172,c173,c174,c175,c176,c177,c178,c179,c180,c181,c182,c183,c184,c185,c186,c187,c188,c189,c190,c191,c192,c193,c194,c195,c196,c197,c198,c199,c200,c201,c202,c203,c204,c205,c206,c207,c208,c209,c210,c211,c212,c213,c214,c215,c216,c217,c218,c219,c220,c221,c222,c223,c224,c225,c226,c227,c228,c229,c230,c231,c232,c233,c234,c235,c236,c237,c238,c239,c240,c241,c242,c243,c244,c245,c246,c247,c248,c249,c250,c251,c252,c253,c254,c255,c256,c257,c258,c259,c260,c261,c262,c263,c264,c265,c266,c267,c268,c269,c270,c271,c272],[]⟩ w:=by
 conv=>arg 2;whnf
 have y:=ab hvl;have z:=ab hul;clear hvl hul;go_wp2;go_loopw [22,23,24] (fun l Y iv wr=>∃ k c d:Nat,k<=n+2/\c<4294967296/\d<=1/\l=.int .u64 c/\Y=.int .u64 d/\iv=.int .i64 k/\Hid (iw w0 wr gu gq us qs vs j g k c d)/\Hid (VC f a vs wr)) (fun _ _ iv _=>n+2-(intOf iv).toNat)
 case atStart=>exact ⟨0,0,0,Nat.zero_le _,O,O,rfl,rfl,rfl,h0,v0⟩
 case round =>
 clear h0 v0;obtain ⟨k,c,d,hk,hc,hd,rfl,rfl,rfl,m,B⟩:=hrel;by_cases hlt:k<n+2
 ·have h:k<vs.length:=by rw [y];exact hlt
  have b:j+k<us.length:=by rw [z];omega
  obtain ⟨v,o⟩:=eX (vs[k]);obtain ⟨u,p⟩:=eX (us[j+k]);have A:=sv.out.get k h;have G:=su.out.get (j+k) b;rw [<- o] at A;rw [<- p] at G;have c1:wr.cell? ⟨f,a+k,none⟩=some (.int .u32 (v:Nat)):=by rw [B k h,o]
  have c2:wr.cell? ⟨gu,k+j,none⟩=some (.int .u32 (u:Nat)):=by
   obtain ⟨i,C,S,D,U,V,W⟩:=m.out;have M:=jZ us i j k C O;rw [Nat.add_comm,D.cell (j+k) (by rw [M];exact b),(zY (nh us i j k C b)).2,p]
  have c3:wr.frozen? ⟨gu,k+j,none⟩=false:=by
   obtain ⟨i,C,S,D,U,V,W⟩:=m.out;exact D.free _
  have hp:(g:Int)*(v:Int)<=18446744065119617025:=mb g v hg A;have P:0<=(g:Int)*(v:Int):=Int.mul_nonneg O O;obtain ⟨T,x,e,X,t2,q,E,r,s,t⟩:=wZ u ((c+g*v) % 4294967296) d G (Nat.mod_lt _ zD) hd;have H:((((c+g*v) % 4294967296:Nat)):Int)=((c:Int)+(g:Int)*(v:Int)) % 4294967296:=by rw [Int.natCast_emod,Int.natCast_add,Int.natCast_mul];rfl
  rw [H] at X;have Q:=ab (And.intro q (And.intro E (And.intro r (And.intro s t))));have I:=ab o;have R:=ab p;clear q E r s t H o p;go_wp2;go_roundw
  case rel =>
   obtain ⟨q,E,r,s,t⟩:=Q.out;refine ⟨k+1,(c+g*v) / 4294967296,e,O,A0 g v c hg A hc,r,by rw [uN],by rw [<- q,Int.natCast_ediv];rfl,zN,?_,?_⟩
   ·have J:=iw.step m h b hgu hne x e ((T:Int) % 4294967296) O s (by rw [<- I,<- R];exact t);rw [<- I,Nat.add_comm j k] at J;exact J
   ·exact B.set _ _ _ hvb
  case measure=>exact bH
 ·obtain rfl:k=n+2:=O
  go_wp2;exact hK wr c d _ _ _ _ _ _ _ _ _ _ _ _ _ _ _ _ _ _ _ _ _ _ _ _ _ _ _ _ _ _ _ _ _ _ _ _ _ _ _ _ _ _  rfl rfl hc hd m B
def xF (K:Act->World->Prop) (z:Exit->Act->World->Prop) (w0 w:World) (gu gq d a g N s j n:Nat) (us qs vs:List Nat)
  (hvl:vs.length=n+2) (hul:us.length=N) (hcv:n+2<=g) (hcv2:g<=9223372036854775807) (hj:j+n+2<N) (hN:N<=10000000000000) (su:Hid (Sm us)) (sv:Hid (Sm vs))
  (hgu:w0.heap.size<=gu) (hne:gq≠gu) (hvb:d≠gu)
  (h0:Hid (db w0 w gu gq us qs vs j 0 0)) (v0:Hid (VC d a vs w))
  (c0 c1 c2 c3 c4 c5 c6 c7 c8 c9 c10 c14 c15 c16 c17 c19 c20 c21 c23 c24 c25 c26 c28 c29 c30 c31 c32 c33 c34 c35 c36 c37 c38 c39 c40 c41 c42 c43 c44 c45 c46 c47 c48 c49 c50 c51 c52 c53 c54 c55 c56 c57 c58 c59 c60 c61 c62 c63 c64 c65 c66 c67 c68 c69 c70 c71 c72 c73 c74 c75 c76 c77 c78 c79 c80 c81 c82 c83 c84 c85 c86 c87 c88 c89 c90 c91 c92 c93 c94 c95 c96 c97 c98 c99 c100 c101 c102 c103 c104 c105 c106 c107 c108 c109 c110 c111 c112 c113 c114 c115 c116 c117 c118 c119 c120 c121 c122 c123 c124 c125 c126 c127 c128 c129 c130 c131 c132 c133 c134 c135 c136 c137 c138 c139 c140 c141 c142 c143 c144 c145 c146 c147 c148 c149 c150 c151 c152 c153 c154 c155 c156 c157 c158 c159 c160 c161 c162 c163 c164 c165 c166 c167 c168 c169 c170 c171 c172 c173 c174 c175 c176 c177 c178 c179 c180 c181 c182 c183 c184 c185 c186 c187 c188 c189 c190 c191 c192 c193 c194 c195 c196 c197 c198 c199 c200 c201 c202 c203 c204 c205 c206 c207 c208 c209 c210 c211 c212 c213 c214 c215 c216 c217 c218 c219 c220 c221 c222 c223 c224 c225 c226 c227 c228 c229 c230 c231 c232 c233 c234 c235 c236 c237 c238 c239 c240 c241 c242 c243 c244 c245 c246 c247 c248 c249 c250 c251 c252 c253 c254 c255 c256 c257 c258 c259 c260 c261 c262 c263 c264 c265 c266 c267 c268 c269 c270 c271 c272:Value)
  (hK:Hid (∀ (wr:World) (c:Nat) (cz:Int) (u27 u223 u224 u225 u226 u227 u228 u229 u230 u231 u232 u233 u234 u235 u236 u237 u238 u239 u240 u241 u242 u243 u244 u245 u246 u247 u248 u249 u250 u251:Value),cz=(c:Int)->c<=1->db w0 wr gu gq us qs vs j (n+2) c->VC d a vs wr->K ⟨#[c0,c1,c2,c3,c4,c5,c6,c7,c8,c9,c10,.slice (some ⟨d,a,none⟩) (n+2) g,.slice (some ⟨gu,0,none⟩) N s,.int .i64 (n+2),c14,c15,c16,c17,.int .i64 j,c19,c20,c21,.int .u64 cz,c23,c24,c25,c26,u27,c28,c29,c30,c31,c32,c33,c34,c35,c36,c37,c38,c39,c40,c41,c42,c43,c44,c45,c46,c47,c48,c49,c50,c51,c52,c53,c54,c55,c56,c57,c58,c59,c60,c61,c62,c63,c64,c65,c66,c67,c68,c69,c70,c71,c72,c73,c74,c75,c76,c77,c78,c79,c80,c81,c82,c83,c84,c85,c86,c87,c88,c89,c90,c91,c92,c93,c94,c95,c96,c97,c98,c99,c100,c101,c102,c103,c104,c105,c106,c107,c108,c109,c110,c111,c112,c113,c114,c115,c116,c117,c118,c119,c120,c121,c122,c123,c124,c125,c126,c127,c128,c129,c130,c131,c132,c133,c134,c135,c136,c137,c138,c139,c140,c141,c142,c143,c144,c145,c146,c147,c148,c149,c150,c151,c152,c153,c154,c155,c156,c157,c158,c159,c160,c161,c162,c163,c164,c165,c166,c167,c168,c169,c170,c171,c172,c173,c174,c175,c176,c177,c178,c179,c180,c181,c182,c183,c184,c185,c186,c187,c188,c189,c190,c191,c192,c193,c194,c195,c196,c197,c198,c199,c200,c201,c202,c203,c204,c205,c206,c207,c208,c209,c210,c211,c212,c213,c214,c215,c216,c217,c218,c219,c220,c221,c222,u223,u224,u225,u226,u227,u228,u229,u230,u231,u232,u233,u234,u235,u236,u237,u238,u239,u240,u241,u242,u243,u244,u245,u246,u247,u248,u249,u250,u251,c252,c253,c254,c255,c256,c257,c258,c259,c260,c261,c262,c263,c264,c265,c266,c267,c268,c269,c270,c271,c272],[]⟩ wr)) :
  Code.wp Tryz.prog ((Tryz.f163.body.bind (cW 6)).getD .skip) (Exit.then K z) ⟨#[c0,c1,c2,c3,c4,c5,c6,c7,c8,c9,c10,.slice (some ⟨d,a,none⟩) (n+2) g,.slice (some ⟨gu,0,none⟩) N s,.int .i64 (n+2),c14,c15,c16,c17,.int .i64 j,c19,c20,c21,.int .u64 0,c23,c24,c25,c26,.int .i64 0,c28,c29,c30,c31,c32,c33,c34,c35,c36,c37,c38,c39,c40,c41,c42,c43,c44,c45,c46,c47,c48,c49,c50,c51,c52,c53,c54,c55,c56,c57,c58,c59,c60,c61,c62,c63,c64,c65,c66,c67,c68,c69,c70,c71,c72,c73,c74,c75,c76,c77,c78,c79,c80,c81,c82,c83,c84,c85,c86,c87,c88,c89,c90,c91,c92,c93,c94,c95,c96,c97,c98,c99,c100,c101,c102,c103,c104,c105,c106,c107,c108,c109,c110,c111,c112,c113,c114,c115,c116,c117,c118,c119,c120,c121,c122,c123,c124,c125,c126,c127,c128,c129,c130,c131,c132,c133,c134,c135,c136,c137,c138,c139,c140,c141,c142,c143,c144,c145,c146,c147,c148,c149,c150,c151,c152,c153,c154,c155,c156,c157,c158,c159,c160,c161,c162,c163,c164,c165,c166,c167,c168,c169,c170,c171,c172,c173,c174,c175,c176,c177,c178,c179,c180,c181,c182,c183,c184,c185,c186,c187,c188,c189,c190,c191,c192,c193,c194,c195,c196,c197,c198,c199,c200,c201,c202,c203,c204,c205,c206,c207,c208,c209,c210,c211,c212,c213,c214,c215,c216,c217,c218,c219,c220,c221,c222,c223,c224,c225,c226,c227,c228,c229,c230,c231,c232,c233,c234,c235,c236,c237,c238,c239,c240,c241,c242,c243,c244,c245,c246,c247,c248,c249,c250,c251,c252,c253,c254,c255,c256,c257,c258,c259,c260,c261,c262,c263,c264,c265,c266,c267,c268,c269,c270,c271,c272],[]⟩ w:=by
 conv=>arg 2;whnf
 have m:=ab hvl;have o:=ab hul;clear hvl hul;go_wp2;go_loopw [22,27] (fun g iv wr=>∃ k c:Nat,k<=n+2/\c<=1/\g=.int .u64 c/\iv=.int .i64 k/\Hid (db w0 wr gu gq us qs vs j k c)/\Hid (VC d a vs wr)) (fun _ iv _=>n+2-(intOf iv).toNat)
 case atStart=>exact ⟨0,0,Nat.zero_le _,O,rfl,rfl,h0,v0⟩
 case round =>
 clear h0 v0;obtain ⟨k,c,H,hc,rfl,rfl,h,p⟩:=hrel;by_cases hlt:k<n+2
 ·have e:k<vs.length:=by rw [m];exact hlt
  have b:j+k<us.length:=by rw [o];omega
  obtain ⟨v,i⟩:=eX (vs[k]);obtain ⟨u,l⟩:=eX (us[j+k]);have A:=sv.out.get k e;have B:=su.out.get (j+k) b;rw [<- i] at A;rw [<- l] at B;have c1:wr.cell? ⟨d,a+k,none⟩=some (.int .u32 (v:Nat)):=by rw [p k e,i]
  have c2:wr.cell? ⟨gu,k+j,none⟩=some (.int .u32 (u:Nat)):=by
   obtain ⟨f,q,D,r,E,F,G⟩:=h.out;have C:=jZ us f j k q O;rw [Nat.add_comm,r.cell (j+k) (by rw [C];exact b),(zY (nh us f j k q b)).2,l]
  have c3:wr.frozen? ⟨gu,k+j,none⟩=false:=by
   obtain ⟨f,q,D,r,E,F,G⟩:=h.out;exact r.free _
  have t:=ab i;have x:=ab l;clear i l;go_wp2;go_quiet (fail)
  go_wp2;go_roundw
  case rel =>
   refine ⟨k+1,(c+u+v) / 4294967296,O,O,zN,zN,?_,?_⟩
   ·have y:=db.step h e b hgu hne (((c:Int)+((u:Int)+(v:Int))) % 4294967296) (by rw [<- t,<- x];omega);rw [<- t,<- x,Nat.add_comm j k] at y;exact db.drewN y _
   ·exact VC.drewN (p.set _ _ _ hvb) _
  case measure=>exact bH
 ·obtain rfl:k=n+2:=O
  go_wp2;exact hK wr c _ _ _ _ _ _ _ _ _ _ _ _ _ _ _ _ _ _ _ _ _ _ _ _ _ _ _ _ _ _ _  rfl hc h p
def AO (us W D:List Nat) (j:Nat) (a:j<=us.length):(us.take j++W++D).take j=us.take j:=by
 have b:(us.take j).length=j:=by rw [List.length_take];omega
 rw [List.append_assoc,List.take_append_of_le_length O,zT O]
def pr (us W D:List Nat) (j:Nat) (a:j<=us.length):(us.take j++W++D).drop j=W++D:=by
 have b:(us.take j).length=j:=by rw [List.length_take];omega
 rw [List.append_assoc,List.drop_append_of_le_length O,List.drop_of_length_le O,List.nil_append]
def Gk (us W D:List Nat) (j k:Nat) (a:j<=us.length) (b:W.length=k):(us.take j++W++D).drop (j+k)=D:=by
 rw [<- List.drop_drop,pr us W D j a,List.drop_append_of_le_length O,List.drop_of_length_le O,List.nil_append]
def wl_get (us W D:List Nat) (j i:Nat) (a:j<=us.length) (hi:i<W.length):(us.take j++W++D)[j+i]? = W[i]?:=by
 rw [<- List.getElem?_drop,pr us W D j a,List.getElem?_append_left hi]
def cM.done {a:World} {A:Nat} {W:List Nat} (h:cM w wr gu gq vs N A (j+1) us qs) (sv:Sm vs) (e:j+vs.length<us.length) (f:ai (us.drop j) / ai vs<4294967296)
  (hW:W.length=vs.length+1) (sW:Sm W) (vW:ai W=ai (us.drop j) % ai vs) (a1:bZ a gu (us.take j++W++us.drop (j+(vs.length+1)))) (a2:bZ a gq (List.replicate (j+1) 0++qs)) (hg:w.grownBy a none)
  (hgq:w.heap.size<=gq) (hne:gq≠gu) (z:Int) (hz:z=((ai (us.drop j) / ai vs:Nat):Int)) :
  cM w (a.setCell ⟨gq,j,none⟩ (.int .u32 z)) gu gq vs N A j (us.take j++W++us.drop (j+(vs.length+1))) ((ai (us.drop j) / ai vs) :: qs):=by
 have g:=h;obtain ⟨l,m,d,n,o,p,q,i,r⟩:=g;have b:=(ni sv d e i).2.2;refine cM.next h f (by simp [hW];omega) (AO _ _ _ _ O) ?_ (((d.take _).append sW).append (d.drop _)) a1 a2 hg hgq hne z hz;rw [pr _ _ _ _ O,bN,b,vW];simp
def xG (a:bZ wr gu us) (b:bZ wr gq qs) (hg:w.grownBy wr none):db w wr gu gq us qs vs j 0 0 :=
 ⟨[],rfl,Sm.nil,by rw [List.append_nil,Nat.add_zero,List.take_append_drop];exact a,b,hg,by simp [ai]⟩
def Cr {g:Nat} (a:bZ wr gu us) (b:bZ wr gq qs) (hg:w.grownBy wr none):iw w wr gu gq us qs vs j g 0 0 0 :=
 ⟨[],rfl,Sm.nil,by rw [List.append_nil,Nat.add_zero,List.take_append_drop];exact a,b,hg,by simp [ai]⟩
def wM (K:Act->World->Prop) (Q':Exit->Act->World->Prop) (w wr:World) (gu gq F b X N M A j n i vn:Nat) (vs us qs:List Nat)
  (hD:cM w wr gu gq vs N A (j+1) us qs) (hV:Hid (VC F b vs wr)) (sv:Hid (Sm vs)) (hn:Hid (vs.length=n+2)) (evt:Hid (vs[n+1]? = some i)) (evn:Hid (vs[n]? = some vn)) (hvt31:2147483648<=i) (hvtb:i<4294967296) (hvnb:vn<4294967296)
  (hgu:w.heap.size<=gu) (hgq:w.heap.size<=gq) (hqu:gu<gq) (hvbu:F<gu) (hjN:j+n+2<N) (hjM:j<M) (hN:N<=10000000000000) (hM:M<=N) (hcv:n+2<=X) (hcv2:X<=9223372036854775807)
  (c0 c1 c2 c3 c4 c5 c6 c7 c8 c9 c10 c14 c19 c20 c21 c22 c23 c24 c25 c26 c27 c28 c29 c30 c31 c32 c33 c34 c35 c36 c37 c38 c39 c40 c41 c42 c43 c44 c45 c46 c47 c48 c49 c50 c51 c52 c53 c54 c55 c56 c57 c58 c59 c60 c61 c62 c63 c64 c65 c66 c67 c68 c69 c70 c71 c72 c73 c74 c75 c76 c77 c78 c79 c80 c81 c82 c83 c84 c85 c86 c87 c88 c89 c90 c91 c92 c93 c94 c95 c96 c97 c98 c99 c100 c101 c102 c103 c104 c105 c106 c107 c108 c109 c110 c111 c112 c113 c114 c115 c116 c117 c118 c119 c120 c121 c122 c123 c124 c125 c126 c127 c128 c129 c130 c131 c132 c133 c134 c135 c136 c137 c138 c139 c140 c141 c142 c143 c144 c145 c146 c147 c148 c149 c150 c151 c152 c153 c154 c155 c156 c157 c158 c159 c160 c161 c162 c163 c164 c165 c166 c167 c168 c169 c170 c171 c172 c173 c174 c175 c176 c177 c178 c179 c180 c181 c182 c183 c184 c185 c186 c187 c188 c189 c190 c191 c192 c193 c194 c195 c196 c197 c198 c199 c200 c201 c202 c203 c204 c205 c206 c207 c208 c209 c210 c211 c212 c213 c214 c215 c216 c217 c218 c219 c220 c221 c222 c223 c224 c225 c226 c227 c228 c229 c230 c231 c232 c233 c234 c235 c236 c237 c238 c239 c240 c241 c242 c243 c244 c245 c246 c247 c248 c249 c250 c251 c252 c253 c254 c255 c256 c257 c258 c259 c260 c261 c262 c263 c264 c265 c266 c267 c268 c269 c270 c271 c272:Value)
  (hK:Hid (∀ (wr':World) (us2 qs2:List Nat) (u19 u20 u21 u22 u23 u24 u25 u26 u27 u113 u114 u115 u116 u117 u118 u119 u120 u121 u122 u123 u124 u125 u126 u127 u128 u129 u130 u131 u132 u133 u134 u135 u136 u137 u138 u139 u140 u141 u142 u143 u144 u145 u146 u147 u148 u149 u150 u151 u152 u153 u154 u155 u156 u157 u158 u159 u160 u161 u162 u163 u164 u165 u166 u167 u168 u169 u170 u171 u172 u173 u174 u175 u176 u177 u178 u179 u180 u181 u182 u183 u184 u185 u186 u187 u188 u189 u190 u191 u192 u193 u194 u195 u196 u197 u198 u199 u200 u201 u202 u203 u204 u205 u206 u207 u208 u209 u210 u211 u212 u213 u214 u215 u216 u217 u218 u219 u220 u221 u222 u223 u224 u225 u226 u227 u228 u229 u230 u231 u232 u233 u234 u235 u236 u237 u238 u239 u240 u241 u242 u243 u244 u245 u246 u247 u248 u249 u250 u251 u252 u253 u254 u255 u256 u257 u258 u259 u260 u261 u262 u263 u264 u265 u266:Value),cM w wr' gu gq vs N A j us2 qs2->VC F b vs wr'->K ⟨#[c0,c1,c2,c3,c4,c5,c6,c7,c8,c9,c10,.slice (some ⟨F,b,none⟩) (n+2) X,.slice (some ⟨gu,0,none⟩) N N,.int .i64 (n+2),c14,.slice (some ⟨gq,0,none⟩) M M,.int .u64 i,.int .u64 vn,.int .i64 j,u19,u20,u21,u22,u23,u24,u25,u26,u27,c28,c29,c30,c31,c32,c33,c34,c35,c36,c37,c38,c39,c40,c41,c42,c43,c44,c45,c46,c47,c48,c49,c50,c51,c52,c53,c54,c55,c56,c57,c58,c59,c60,c61,c62,c63,c64,c65,c66,c67,c68,c69,c70,c71,c72,c73,c74,c75,c76,c77,c78,c79,c80,c81,c82,c83,c84,c85,c86,c87,c88,c89,c90,c91,c92,c93,c94,c95,c96,c97,c98,c99,c100,c101,c102,c103,c104,c105,c106,c107,c108,c109,c110,c111,c112,u113,u114,u115,u116,u117,u118,u119,u120,u121,u122,u123,u124,u125,u126,u127,u128,u129,u130,u131,u132,u133,u134,u135,u136,u137,u138,u139,u140,u141,u142,u143,u144,u145,u146,u147,u148,u149,u150,u151,u152,u153,u154,u155,u156,u157,u158,u159,u160,u161,u162,u163,u164,u165,u166,u167,u168,u169,u170,u171,u172,u173,u174,u175,u176,u177,u178,u179,u180,u181,u182,u183,u184,u185,u186,u187,u188,u189,u190,u191,u192,u193,u194,u195,u196,u197,u198,u199,u200,u201,u202,u203,u204,u205,u206,u207,u208,u209,u210,u211,u212,u213,u214,u215,u216,u217,u218,u219,u220,u221,u222,u223,u224,u225,u226,u227,u228,u229,u230,u231,u232,u233,u234,u235,u236,u237,u238,u239,u240,u241,u242,u243,u244,u245,u246,u247,u248,u249,u250,u251,u252,u253,u254,u255,u256,u257,u258,u259,u260,u261,u262,u263,u264,u265,u266,c267,c268,c269,c270,c271,c272],[]⟩ wr')) :
  Code.wp Tryz.prog ((Tryz.f163.body.bind (cW 1)).getD .skip) (Exit.then K Q') ⟨#[c0,c1,c2,c3,c4,c5,c6,c7,c8,c9,c10,.slice (some ⟨F,b,none⟩) (n+2) X,.slice (some ⟨gu,0,none⟩) N N,.int .i64 (n+2),c14,.slice (some ⟨gq,0,none⟩) M M,.int .u64 i,.int .u64 vn,.int .i64 j,c19,c20,c21,c22,c23,c24,c25,c26,c27,c28,c29,c30,c31,c32,c33,c34,c35,c36,c37,c38,c39,c40,c41,c42,c43,c44,c45,c46,c47,c48,c49,c50,c51,c52,c53,c54,c55,c56,c57,c58,c59,c60,c61,c62,c63,c64,c65,c66,c67,c68,c69,c70,c71,c72,c73,c74,c75,c76,c77,c78,c79,c80,c81,c82,c83,c84,c85,c86,c87,c88,c89,c90,c91,c92,c93,c94,c95,c96,c97,c98,c99,c100,c101,c102,c103,c104,c105,c106,c107,c108,c109,c110,c111,c112,c113,c114,c115,c116,c117,c118,c119,c120,c121,c122,c123,c124,c125,c126,c127,c128,c129,c130,c131,c132,c133,c134,c135,c136,c137,c138,c139,c140,c141,c142,c143,c144,c145,c146,c147,c148,c149,c150,c151,c152,c153,c154,c155,c156,c157,c158,c159,c160,c161,c162,c163,c164,c165,c166,c167,c168,c169,c170,c171,c172,c173,c174,c175,c176,c177,c178,c179,c180,c181,c182,c183,c184,c185,c186,c187,c188,c189,c190,c191,c192,c193,c194,c195,c196,c197,c198,c199,c200,c201,c202,c203,c204,c205,c206,c207,c208,c209,c210,c211,c212,c213,c214,c215,c216,c217,c218,c219,c220,c221,c222,c223,c224,c225,c226,c227,c228,c229,c230,c231,c232,c233,c234,c235,c236,c237,c238,c239,c240,c241,c242,c243,c244,c245,c246,c247,c248,c249,c250,c251,c252,c253,c254,c255,c256,c257,c258,c259,c260,c261,c262,c263,c264,c265,c266,c267,c268,c269,c270,c271,c272],[]⟩ wr:=by
 have ID:=ab hD;obtain ⟨i1,i2,i3,i4,i5,i6,i7,i8,i9⟩:=hD;obtain ⟨D,o⟩:∃ x,us[j+(n+2)]? = some x:=⟨_,zX O⟩;obtain ⟨p,r⟩:∃ x,us[j+(n+1)]? = some x:=⟨_,zX O⟩;obtain ⟨uc,s⟩:∃ x,us[j+n]? = some x:=⟨_,zX O⟩;have hC:wr.cell? ⟨gu,j+(n+2),none⟩=some (.int .u32 (D:Nat)):=by rw [i5.cell _ O,(zY o).2]
 have hE:wr.cell? ⟨gu,j+(n+1),none⟩=some (.int .u32 (p:Nat)):=by rw [i5.cell _ O,(zY r).2]
 have hf:wr.cell? ⟨gu,j+(n+2)-2,none⟩=some (.int .u32 (uc:Nat)):=by rw [show j+(n+2)-2=j+n from O,i5.cell _ O,(zY s).2]
 have CC:=ab hf;have hj:D<4294967296:=by have:=i3.get (j+(n+2)) O;rw [(zY o).2] at this;exact this
 have hF:p<4294967296:=by have:=i3.get (j+(n+1)) O;rw [(zY r).2] at this;exact this
 have hG:uc<4294967296:=by have:=i3.get (j+n) O;rw [(zY s).2] at this;exact this
 have hk:=jQ D p hj hF;obtain ⟨hh,S⟩:=eX (D*4294967296+p);rw [<- S] at hk;have hm:hh<18446744073709551616:=O
 have KK:=ab (cM.kd ID sv hn i vn D p uc evt evn o r s hvt31);rw [<- S] at KK;have G:hh / i<18446744073709551616:=Nat.lt_of_le_of_lt (Nat.div_le_self _ _) hm;have H:hh % i<4294967296:=Nat.lt_trans (Nat.mod_lt _ O) hvtb;obtain ⟨g0,t⟩:=eX (hh / i);obtain ⟨r0,u⟩:=eX (hh % i);have hH:((hh:Int) / (i:Int))=(g0:Int):=by rw [t,Int.natCast_ediv]
 have ho:Hid (((hh:Int) % (i:Int))=(r0:Int)):=by rw [u,Int.natCast_emod];rfl
 rw [<- t] at G;rw [<- u] at H;have E0:Hid (g0*i+r0=hh/\ai (us.drop j) / ai vs<=g0):=by
  rw [t,u,Nat.mul_comm];exact ⟨Nat.div_add_mod hh i,KK.init⟩
 have GB:=ab G;have RB:=ab H;have UL:=ab i1;have SU:=ab i3;have AU:=ab i5;have AQ:=ab i6;have GR:=ab i7;have hp:=ab o;have y:j+vs.length<us.length:=by rw [hn];omega
 have q:=ab y;clear i1 i2 i3 i4 i5 i6 i7 i8 i9 o r s S t u hf H y;conv=>arg 2;whnf
 go_wp2;go_quiet (fail)
 go_wp2;go_quiet (fail)
 go_upto_block 2 with fail
 rw [ho];refine vg _ _ _ gu N N j n (ai (us.drop j)) (ai vs) _ i vn _ hh uc _ g0 r0 KK hvtb hvnb hG ?cell O hN E0 GB RB _ _ _ _ _ _ _ _ _ _ _ _ _ _ _ _ _ _ _ _ _ _ _ _ _ _ _ _ _ _ _ _ _ _ _ _ _ _ _ _ _ _ _ _ _ _ _ _ _ _ _ _ _ _ _ _ _ _ _ _ _ _ _ _ _ _ _ _ _ _ _ _ _ _ _ _ _ _ _ _ _ _ _ _ _ _ _ _ _ _ _ _ _ _ _ _ _ _ _ _ _ _ _ _ _ _ _ _ _ _ _ _ _ _ _ _ _ _ _ _ _ _ _ _ _ _ _ _ _ _ _ _ _ _ _ _ _ _ _ _ _ _ _ _ _ _ _ _ _ _ _ _ _ _ _ _ _ _ _ _ _ _ _ _ _ _ _ _ _ _ _ _ _ _ _ _ _ _ _ _ _ _ _ _ _ _ _ _ _ _ _ _ _ _ _ _ _ _ _ _ _ _ _ _ _ _ _ _ _ _ _ _ _ _ _ _ _ _ _ _ _ _ _ _ _ _ _ _ _ _ _ _ _ _ _ _ _ _ _ _ _ _ _ _ _ _ _ _ _ _ _ _ _ _ _ _ _ _ _ _ _ _ _ _ _ _ (ab ?_)
 case cell=>exact CC
 clear E0 GB RB G hH ho CC hC hE hk hm evt evn hvt31 hvtb hvnb;intro g gz v21 v136 v137 v138 v139 v140 v141 v142 v143 v144 v145 v146 v147 v148 v149 v150 v151 v152 v153 v154 v155 v156 v157 v158 v159 v160 v161 hX hg z B;subst hX;have G1:=ab z;have G2:=ab B;clear z B;go_upto_block 4 with fail
 refine Cq _ _ w _ gu gq F b X N N j n g us (List.replicate (j+1) 0++qs) vs hn UL hcv hcv2 hg O hN SU sv hgu O O (ab ?s0) (ab ?v0) _ _ _ _ _ _ _ _ _ _ _ _ _ _ _ _ _ _ _ _ _ _ _ _ _ _ _ _ _ _ _ _ _ _ _ _ _ _ _ _ _ _ _ _ _ _ _ _ _ _ _ _ _ _ _ _ _ _ _ _ _ _ _ _ _ _ _ _ _ _ _ _ _ _ _ _ _ _ _ _ _ _ _ _ _ _ _ _ _ _ _ _ _ _ _ _ _ _ _ _ _ _ _ _ _ _ _ _ _ _ _ _ _ _ _ _ _ _ _ _ _ _ _ _ _ _ _ _ _ _ _ _ _ _ _ _ _ _ _ _ _ _ _ _ _ _ _ _ _ _ _ _ _ _ _ _ _ _ _ _ _ _ _ _ _ _ _ _ _ _ _ _ _ _ _ _ _ _ _ _ _ _ _ _ _ _ _ _ _ _ _ _ _ _ _ _ _ _ _ _ _ _ _ _ _ _ _ _ _ _ _ _ _ _ _ _ _ _ _ _ _ _ _ _ _ _ _ _ _ _ _ _ _ _ _ _ _ _ _ _ _ _ _ _ _ _ _ _ _ _ _ _ _ _ _ _ _ _ _ _ _ _ _ _ _ (ab ?_)
 case s0=>exact Cr AU AQ (ak GR _)
 case v0=>exact hV.drewN _
 clear AU AQ GR hV;intro Q c d cz dz v24 v25 v162 v163 v164 v165 v166 v167 v168 v169 v170 v171 v172 v173 v174 v175 v176 v177 v178 v179 v180 v181 v182 v183 v184 v185 v186 v187 v188 v189 v190 v191 v192 v193 v194 v195 v196 v197 v198 v199 hY ka hc hd hS hz;subst hY ka;have hI:Q.cell? ⟨gu,j+(n+2),none⟩=some (.int .u32 (D:Nat)):=by
  obtain ⟨l,U,h2,V,h4,h5,h6⟩:=hS;have f:j+(n+2)<us.length:=by rw [UL];omega
  have hl:=jZ us l j (n+2) U O;rw [V.cell (j+(n+2)) (by rw [hl];exact f),(zY (nh us l j (n+2) U f)).2,(zY hp).2]
 have hJ:Q.frozen? ⟨gu,j+(n+2),none⟩=false:=by
  obtain ⟨l,U,h2,V,h4,h5,h6⟩:=hS;exact V.free _
 obtain ⟨T,x,e,t1,t2,t3,t4,t5,t6,t7⟩:=wZ D c d hj hc hd;have f:j+vs.length<us.length:=q.out;have ST:=ab hS;rw [<- hn] at hS;obtain ⟨W,w1,w2,w3,w4,w5,w6,w7⟩:=iw.top hS f hgu O x e ((T:Int) % 4294967296) O t6 (by
  have:us[j+vs.length]=D:=by
   have h:=hp.out;rw [<- hn] at h;exact (zY h).2
  rw [this];exact t7)
 rw [hn] at w3 w4 w5;have hq:=(ni sv SU f (by obtain ⟨_,_,_,_,_,_,_,i8,_⟩:=ID.out;exact i8)).1;rw [hq] at w6;have I:=ab w1;have W2:=ab w2;have W3:=ab w3;have W4:=ab w4;have W5:=ab w5;have W6:=ab w6;have W7:=ab w7;have J:=ab hz;have T3:=ab t3;have hV0:0<ai vs:=KK.out.pos;have L:=ab hV0;have QL:=ab KK.q_lt;clear w1 w2 w3 w4 w5 w6 w7 hz hS t4 t5 t6 t7 hq hV0 f KK;by_cases he:e=0
 ·have hr:(((T:Int) / 9223372036854775808) != 0)=false:=by rw [bne_eq_false_iff_eq];omega
  obtain ⟨d1,d2⟩:=nX W6 he G1 L;have D1:=ab d1;have D2:=ab d2;have a2:=W4.out;have cq:∃ v,(Q.setCell ⟨gu,j+(n+2),none⟩ (.int .u32 ((T:Int) % 4294967296))).cell? ⟨gq,j,none⟩=some v:=⟨_,a2.cell j (by simp;omega)⟩;have hL:=a2.free j;obtain ⟨v0,cq⟩:=cq;clear d1 d2 a2 he t3;go_wp2_with fail;refine hK _ _ _ _ _ _ _ _ _ _ _ _ _ _ _ _ _ _ _ _ _ _ _ _ _ _ _ _ _ _ _ _ _ _ _ _ _ _ _ _ _ _ _ _ _ _ _ _ _ _ _ _ _ _ _ _ _ _ _ _ _ _ _ _ _ _ _ _ _ _ _ _ _ _ _ _ _ _ _ _ _ _ _ _ _ _ _ _ _ _ _ _ _ _ _ _ _ _ _ _ _ _ _ _ _ _ _ _ _ _ _ _ _ _ _ _ _ _ _ _ _ _ _ _ _ _ _ _ _ _ _ _ _ _ _ _ _ _ _ _ _ _ _ _ _ _ _ _ _ _ _ _ _ _ _ _ _ _ _ _ _ _ _ _ _ _ (cM.done ID sv q QL I W2 D2 (by rw [hn];exact W3) W4 W5 hgq O (g:Int) (by rw [D1])) ?_;exact VC.set (VC.set J _ _ _ O) _ _ _ O
 ·have hs:e=1:=O
  have hr:(((T:Int) / 9223372036854775808) != 0)=true:=by rw [bne_iff_ne];omega
  have P:=bD W2;rw [I] at P;obtain ⟨d1,d2,d3⟩:=pX W6 hs G1 G2 P L;have D1:=ab d1;have D3:=ab d3;have kb:1<=g:=d2;obtain ⟨a,E⟩:=eX (us.take j++W++us.drop (j+(vs.length+1)));have A3:=W3.out;rw [<- hn,<- E,hn] at A3;have hQ:=UL.out;have l3:a.length=N:=by rw [E];simp [I.out];have:=q.out;omega
  have s3:Sm a:=by rw [E];exact ((SU.take _).append W2).append (SU.drop _)
  have m:j<=us.length:=O
  have g3:a[j+(n+2)]? = some x:=by
   rw [E,wl_get us W _ j (n+2) m (by rw [I,hn];omega),<- hn];exact W7
  have k3:a.take j=us.take j:=by rw [E];exact AO _ _ _ _ m
  have k4:a.drop j=W++us.drop (j+(vs.length+1)):=by rw [E];exact pr _ _ _ _ m
  have k5:a.drop (j+(vs.length+1))=us.drop (j+(vs.length+1)):=by
   have:=Gk us W (us.drop (j+(vs.length+1))) j (vs.length+1) m I;rw [<- E] at this;exact this
  have hR:ai (us.drop j) % ai vs<4294967296^vs.length:=Nat.lt_trans (Nat.mod_lt _ L) (bD sv);have hT:=ab hR;have S3:=ab s3;have L3:=ab l3;have hu:=ab A3;have K3:=ab k3;have K4:=ab k4;have K5:=ab k5;have hv:=ab g3;clear d1 d2 d3 he hs t3 P E A3 hQ l3 s3 m g3 k3 k4 k5 hR G1 G2 W7 W6;go_upto_block 6 with fail
  refine xF _ _ w _ gu gq F b X N N j n a (List.replicate (j+1) 0++qs) vs hn L3 hcv hcv2 O hN S3 sv hgu O O (ab ?b0) (ab ?v1) _ _ _ _ _ _ _ _ _ _ _ _ _ _ _ _ _ _ _ _ _ _ _ _ _ _ _ _ _ _ _ _ _ _ _ _ _ _ _ _ _ _ _ _ _ _ _ _ _ _ _ _ _ _ _ _ _ _ _ _ _ _ _ _ _ _ _ _ _ _ _ _ _ _ _ _ _ _ _ _ _ _ _ _ _ _ _ _ _ _ _ _ _ _ _ _ _ _ _ _ _ _ _ _ _ _ _ _ _ _ _ _ _ _ _ _ _ _ _ _ _ _ _ _ _ _ _ _ _ _ _ _ _ _ _ _ _ _ _ _ _ _ _ _ _ _ _ _ _ _ _ _ _ _ _ _ _ _ _ _ _ _ _ _ _ _ _ _ _ _ _ _ _ _ _ _ _ _ _ _ _ _ _ _ _ _ _ _ _ _ _ _ _ _ _ _ _ _ _ _ _ _ _ _ _ _ _ _ _ _ _ _ _ _ _ _ _ _ _ _ _ _ _ _ _ _ _ _ _ _ _ _ _ _ _ _ _ _ _ _ _ _ _ _ _ _ _ _ _ _ _ _ _ _ _ _ _ _ _ _ _ _ _ _ _ _ _ (ab ?_)
  case b0=>exact xG hu W4 W5
  case v1=>exact VC.set J _ _ _ O
  intro R c4 kk v27 v223 v224 v225 v226 v227 v228 v229 v230 v231 v232 v233 v234 v235 v236 v237 v238 v239 v240 v241 v242 v243 v244 v245 v246 v247 v248 v249 v250 v251 hA kl hB C;subst hA;clear hu W4 W5 J W3 hI hJ hr t1;have kc:R.cell? ⟨gu,j+(n+2),none⟩=some (.int .u32 (x:Nat)):=by
   obtain ⟨l,U,h2,V,h4,h5,h6⟩:=hB;have f:j+(n+2)<a.length:=by rw [L3];omega
   have hl:=jZ a l j (n+2) U O;rw [V.cell (j+(n+2)) (by rw [hl];exact f),(zY (nh a l j (n+2) U f)).2,(zY hv).2]
  have kf:R.frozen? ⟨gu,j+(n+2),none⟩=false:=by
   obtain ⟨l,U,h2,V,h4,h5,h6⟩:=hB;exact V.free _
  have hw:j+vs.length<a.length:=by rw [L3,hn];omega
  have hx:a[j+vs.length]=x:=by
   have h:=hv.out;rw [<- hn] at h;exact (zY h).2
  have hy:ai ((a.drop j).take (vs.length+1))+ai vs=ai (us.drop j) % ai vs+4294967296^(vs.length+1):=by
   rw [K4,List.take_append_of_le_length (by rw [I];exact zL),zT (by rw [I];exact zL)];exact D3
  rw [<- hn] at hB;obtain ⟨Y,y1,y2,y3,y4,y5,y6⟩:=db.top hB hw hgu O hx hy hT (((x:Int)+(c4:Int)) % 4294967296) O;rw [K3,K5] at y3;have Y1:=ab y1;have Y2:=ab y2;have Y6:=ab y6;have hW:=ab C;rw [hn] at y3 y4 y5;have Y3:=ab y3;have Y4:=ab y4;have Y5:=ab y5;have cq:∃ v,(R.setCell ⟨gu,j+(n+2),none⟩ (.int .u32 (((x:Int)+(c4:Int)) % 4294967296))).cell? ⟨gq,j,none⟩=some v:=⟨_,y4.cell j (by simp;omega)⟩;have hL:=y4.free j;obtain ⟨v0,cq⟩:=cq;clear y1 y2 y3 y4 y5 y6 C hB hx hy;go_wp2_with fail;refine hK _ _ _ _ _ _ _ _ _ _ _ _ _ _ _ _ _ _ _ _ _ _ _ _ _ _ _ _ _ _ _ _ _ _ _ _ _ _ _ _ _ _ _ _ _ _ _ _ _ _ _ _ _ _ _ _ _ _ _ _ _ _ _ _ _ _ _ _ _ _ _ _ _ _ _ _ _ _ _ _ _ _ _ _ _ _ _ _ _ _ _ _ _ _ _ _ _ _ _ _ _ _ _ _ _ _ _ _ _ _ _ _ _ _ _ _ _ _ _ _ _ _ _ _ _ _ _ _ _ _ _ _ _ _ _ _ _ _ _ _ _ _ _ _ _ _ _ _ _ _ _ _ _ _ _ _ _ _ _ _ _ _ _ _ _ _ (cM.done ID sv q QL Y1 Y2 Y6 (by rw [hn];exact Y3) Y4 Y5 hgq O ((g:Int)-1) (by rw [D1];omega)) ?_;exact VC.set (VC.set hW _ _ _ O) _ _ _ O
def Dr (va l:Value) (xs ys:List Nat) (w:World) (ha:Ws w va xs) (hb:Ws w l ys) (tx:Tr xs) (ty:Tr ys) (hx:2<xs.length) (hy:1<ys.length) (Q:ai ys<=ai xs) (hl:xs.length<=9000000000000) (hK:ys.length<=xs.length) :
  Calls Tryz.prog 163 #[va,l] w fun e w'=>∃ q r,e=.returned (.tuple #[q,r])/\aT w' q (ai xs / ai ys) xs.length/\aT w' r (ai xs % ai ys) (xs.length+2)/\w.grownBy w' none/\bC w q/\bC w r:=by
 obtain ⟨ao,ca,ea,kb,B,Ha⟩:=ha.open;obtain ⟨bo,cb,eb,kc,C,Hb⟩:=hb.open;unfold maxLen at B C;have R:(((ys.length:Nat):Int)==0)=false:=zB O;have S:(((ys.length:Nat):Int)==1)=false:=zB O;have WA:=ab ha;have WB:=ab hb;have TX:=ab tx;have TY:=ab ty;have T:=ab Q;subst ea eb;clear Ha Hb ha hb tx ty Q;go_enter Tryz.func163,Tryz.ntmps163
 go_wp2_with fail;refine (pQ _ _ xs ys _ WA WB TX TY).mono ?_;rintro e w1 ⟨rfl,q1,rfl⟩;have U:=nH T;generalize gZ (ai xs) (ai ys)=o1 at U ⊢;go_wp2_with fail;obtain ⟨t,I,hq⟩:=yY TY (by intro e;rw [e] at hy;simp at hy);refine (BG _ ys _ (WB.keep0 (ak (ae _ _) _)) O t I hq O).mono ?_;rintro e w2 ⟨⟨n1,rfl,hr,hw,hz,hA⟩,rfl⟩;have HT:=ab (And.intro I (And.intro hz hA));clear I hz hA;go_wp2_with fail;obtain ⟨s,hs⟩:=eX (32-n1);have es:(32-((((ys.length:Nat):Int)-1)*32+(n1:Int)-1) % 32-1)=(s:Int):=O
 have g:s<32:=O
 have HS:=ab hs;simp only [es];clear es hs;refine (zV _ ys s _ (WB.keep0 (ak (ae _ _) _)) g O O).mono ?_;rintro e w3 ⟨vv,rfl,⟨vs,v1,v2,v3,v4⟩,g3,f3⟩;obtain ⟨D,tt,hB,kf⟩:=vR ys vs t n1 s HS hr hw WB.sm O HT.1 HT.2.1 HT.2.2 v1.sm v2 v3;obtain ⟨vo,cv,rfl,hC,hE,L⟩:=v1.open;have HV:=ab L;have VB:=ab v1.blk;have V1:=ab v1;have V2:=ab v2;have V3:=ab v3;have G3:=ab (aa (ak (ae w none) q1) g3);have VL:=ab D;have E:=ab hB;have hL:vs.length<=ys.length:=O
 have hM:ys.length<=vs.length:=O
 clear L v1 v2 v3 v4 g3 f3 D hB;unfold maxLen at hE;go_wp2_with (at_make;refine aE _ rfl _ _ 94 rfl Tryz.underlying94 Tryz.info32 _ _ _ _ (xs.length+2) rfl rfl O O O ?_)
 intro w4 b d;have HU:=ab b;have G4:=ab (aa G3 d);have V4:=ab (V1.keep0 d);have V:w.heap.size<=w3.heap.size:=G3.out.size;generalize w3.heap.size=gu at *;clear b d V1 G3 HV;go_wp2_with fail;refine (zV _ xs s _ (WA.keep0 G4) g O O).mono ?_;rintro e w5 ⟨uv,rfl,⟨al,u1,u2,u3,u4⟩,g5,f5⟩;have F:=ab (HU.keep g5 Z);have G5:=ab (aa G4 g5);have V5:=ab (V4.keep0 g5);have W:0<al.length:=by
  rcases zP al.length with h | h
  ·exfalso
   have e0:al=[]:=List.eq_nil_of_length_eq_zero h;rw [e0] at u3;have p1:=Nat.two_pow_pos s;have p2:=jz TX (by intro e;rw [e] at hx;simp at hx);have p3:0<4294967296^(xs.length-1):=Nat.pow_pos zD;have p4:0<ai xs*2^s:=Nat.mul_pos O p1;rw [<- u3] at p4;simp [ai] at p4
  ·exact h
 have G:=u4;have U1:=ab u1;have U3:=ab u3;obtain ⟨ua,cu,rfl,kk,hF,Hu⟩:=u1.open;obtain ⟨ub,o,rfl,kl,f⟩:=Hu 0 W;clear f;have X:=ab Hu;clear HU G4 V4 g5 u1 u2 u3 u4 Hu f5 hF;have m:=run_copy_row (P:=Tryz.prog) w5 94 94 3 174 gu 0 (xs.length+2) (xs.length+2) ⟨ub,o,none⟩ al.length cu (aq (List.replicate (xs.length+2) 0)) 174 (aq al).toList Tryz.underlying94 zK F
  (by show _=min _ _;simp [aq];omega) (by
   intro j v hj;obtain ⟨ko,kw⟩:=zY hj;have hN:j<al.length:=by simpa [aq] using ko
   obtain ⟨b',o',e',_,J⟩:=X.out j hN;simp only [zI,Addr.mk.injEq,and_true] at e';obtain ⟨rfl,rfl⟩:=e';rw [show (⟨ub,o,none⟩:Addr).add j=⟨ub,o+j,none⟩ from by simp [Addr.add],J,<- kw];simp [aq]) (by simp [aq];omega) (by
   intro u hu;simp only [aq,List.mem_map] at hu;obtain ⟨x,_,rfl⟩:=hu;rfl)
 obtain ⟨c1,c2,c3⟩:=copied (al:=al) F G5 V;generalize (w5.setRow gu ((aq (List.replicate (xs.length+2) 0)).toList.take 0++(aq al).toList++(aq (List.replicate (xs.length+2) 0)).toList.drop (0+(aq al).toList.length)).toArray)=w6 at m c1 c2 c3;generalize (goInt (aq al).toList.length)=gi at m;have V6:=ab (V5.keep c3 (fun k e h=>by cases e;exact absurd (VB _ h) (Nat.lt_irrefl _)));have U6:=ab c1;have G6:=ab c2;clear c1 c2 c3 F G5 V5 X;go_wp2_with (at_make;refine aE _ rfl _ _ 94 rfl Tryz.underlying94 Tryz.info32 _ _ _ _ (xs.length+2-vs.length) rfl rfl O O O ?_)
 intro w7 b d;have Q7:=ab b;have U7:=ab (U6.keep d Z);have G7:=ab (aa G6 d);have V7:=ab (V6.keep0 d);have hQ:w.heap.size<=w6.heap.size:=G6.out.size;have hR:gu<w6.heap.size:=U6.out.lt;generalize w6.heap.size=gq at *;clear b d U6 G6 V6 m;obtain ⟨n,hn⟩:∃ n,vs.length=n+2:=⟨vs.length-2,O⟩;obtain ⟨qa,qb,ev,_,_,L⟩:=V7.out.open;simp only [Value.slice.injEq,true_and] at ev;obtain ⟨rfl,rfl⟩:=ev;obtain ⟨l,a,rfl,qc,f⟩:=L 0 O;clear f;have Y:l<gu:=VB.out l rfl;have hv:∀ i (h:i<vs.length),w7.cell? ⟨l,a+i,none⟩=some (.int .u32 (vs[i]:Nat)):=by
  intro i h;obtain ⟨b',o',e',_,J⟩:=L i h;simp only [zI,Addr.mk.injEq,and_true] at e';obtain ⟨rfl,rfl⟩:=e';exact J
 have HV:Hid (VC l a vs w7):=ab hv;obtain ⟨vt,p⟩:∃ x,vs[n+1]? = some x:=⟨_,zX O⟩;obtain ⟨vn,y⟩:∃ x,vs[n]? = some x:=⟨_,zX O⟩;have kF:w7.cell? ⟨l,a+(n+1),none⟩=some (.int .u32 (vt:Nat)):=by rw [hv (n+1) O,(zY p).2]
 have kH:w7.cell? ⟨l,a+n,none⟩=some (.int .u32 (vn:Nat)):=by rw [hv n O,(zY y).2]
 have he:vt<4294967296:=by
  have:=V7.out.sm.get (n+1) O;rw [(zY p).2] at this;exact this
 have hf:vn<4294967296:=by
  have:=V7.out.sm.get n O;rw [(zY y).2] at this;exact this
 have H:2147483648<=vt:=by
  have:=E.out;rw [hn,show n+2-1=n+1 from O,p] at this;have e:=zJ this;omega
 have hS:=ab p;have hT:=ab y;have HN:=ab hn;have D0:=ab (cM.start (w:=w) (wr:=w7) (gu:=gu) (gq:=gq) (vs:=vs) (al:=al) (N:=xs.length+2) (A:=ai xs*2^s) U1.sm O U3 (norm_lt xs s WA.sm g) tt O O E O U7 Q7 G7);have kN:n+2<=xs.length:=O
 rw [hn];rw [hn] at hC;clear hv L p y hn hL hM kf E HT hr hw hq HS VL kl kk W G U1 U3 U7 Q7 G7 hK hy R S kb B kc C T;clear VB;go_wp2;go_quiet (fail)
 go_wp2;simp only [Int.natCast_add,Int.cast_ofNat_Int,Nat.add_sub_add_right];go_loopw [18] (fun jv wr=>∃ z:Int,-1<=z/\z+n+2<=xs.length+1/\jv=.int .i64 z/\Hid (VC l a vs wr)/\Hid (∃ us qs,cM w wr gu gq vs (xs.length+2) (ai xs*2^s) (z+1).toNat us qs)) (fun jv _=>(intOf jv+1).toNat)
 case atStart=>exact ⟨(xs.length:Int)+2-(n+2)-1,O,O,rfl,HV.drewN _,_,_,by
  rw [show ((xs.length:Int)+2-(n+2)-1+1).toNat=xs.length+2-vs.length from by rw [HN];omega];exact D0.drewN _⟩
 case round =>
  obtain ⟨z,qf,qo,rfl,K,HD⟩:=hrel;by_cases h0:z<0
  ·obtain ⟨us,qs,M⟩:=HD.out;rw [show (z+1).toNat=0 from O] at M;obtain ⟨i1,i2,i3,i4,i5,i6,i7,i8,i9⟩:=M;rw [List.replicate_zero,List.nil_append] at i6;simp only [List.take_zero,List.drop_zero,Nat.pow_zero,Nat.one_mul,ai,Nat.zero_add] at i8 i9;have ql:qs.length=xs.length-n:=by have:=HN.out;omega
   have wq:=i6.ws i4 (by unfold maxLen;omega);have wu:=i5.ws i3 (by unfold maxLen;omega);rw [ql] at wq;rw [i1] at wu;have WQ:=ab wq;have WU:=ab wu;have QL:=ab ql;have I1:=ab i1;have I8:=ab i8;have I9:=ab i9;have I7:=ab i7;clear i1 i2 i3 i4 i5 i6 i7 i8 i9 ql wq wu HD K;go_wp2_with fail;refine (eD _ qs _ WQ).mono ?_;rintro e w8 ⟨q',rfl,rfl,hG,hH⟩;go_wp2_with fail;refine (AK _ us _ WU).mono ?_;rintro e w8 ⟨u',rfl,rfl,hI,kz⟩;have tl:=aZ us;rw [I1] at tl;have N3:=ab hI;have N1:=ab hG;have N2:=ab hH;have TL:=ab tl;clear hG hH hI kz tl;go_wp2_with fail;refine (Fs _ (aQ us) s _ N3 g (by have:=TL.out;omega)).mono ?_;rintro e w9 ⟨r',rfl,hJ,g9,f9⟩;have N5:=ab hJ;have G9:=ab g9;have F9:=ab f9;clear hJ g9 f9;go_wp2;go_ret2
   obtain ⟨m1,m2⟩:=zn (ai xs) (ai ys) (2^s) (ai qs) (ai us) (Nat.two_pow_pos s) (by rw [<- V3];exact I8) (by rw [<- V3];exact I9);refine ⟨q',r',rfl,?_,?_,aa I7 G9,?_,?_⟩
   ·rw [<- m1];exact (N1.keep0 G9).mono (by rw [QL];omega)
   ·have h5:=N5.out;rw [fh,m2] at h5;exact h5.mono TL
   ·intro k hk;rw [N2] at hk;simp [ar] at hk;omega
   ·intro k hk;have h1:=F9.out k hk;have h2:=I7.out.size;omega
  ·obtain ⟨j,rfl⟩:∃ j:Nat,z=j:=⟨z.toNat,O⟩;obtain ⟨us,qs,M⟩:=HD.out;rw [show ((j:Int)+1).toNat=j+1 from O] at M;have hm:=ab M;clear M HD;go_upto_block 1 with fail
   refine wM _ _ w wr gu gq l a cv (xs.length+2) (xs.length-n) (ai xs*2^s) j n vt vn vs us qs hm K (ab V7.sm) HN hS hT H he hf V hQ hR Y O O O O hC O _ _ _ _ _ _ _ _ _ _ _ _ _ _ _ _ _ _ _ _ _ _ _ _ _ _ _ _ _ _ _ _ _ _ _ _ _ _ _ _ _ _ _ _ _ _ _ _ _ _ _ _ _ _ _ _ _ _ _ _ _ _ _ _ _ _ _ _ _ _ _ _ _ _ _ _ _ _ _ _ _ _ _ _ _ _ _ _ _ _ _ _ _ _ _ _ _ _ _ _ _ _ _ _ _ _ _ _ _ _ _ _ _ _ _ _ _ _ _ _ _ _ _ _ _ _ _ _ _ _ _ _ _ _ _ _ _ _ _ _ _ _ _ _ _ _ _ _ _ _ _ _ _ _ _ _ _ _ _ _ _ _ _ _ _ _ _ _ _ _ _ _ _ _ _ _ _ _ _ _ _ _ _ _ _ _ _ _ _ _ _ _ _ _ _ _ _ _ _ _ _ _ _ _ _ _ _ _ _ _ _ _ _ _ _ _ _ _ _ _ _ _ _ _ _ _ _ _ _ _ _ _ _ _ _ _ _ _ _ _ _ _ _ _ _ _ _ _ _ _ _ _ _ _ _ _ _ _ _ _ _ _ _ _ _ _ (ab ?_);intro kS hY ka v19 v20 v21 v22 v23 v24 v25 v26 v27 v113 v114 v115 v116 v117 v118 v119 v120 v121 v122 v123 v124 v125 v126 v127 v128 v129 v130 v131 v132 v133 v134 v135 v136 v137 v138 v139 v140 v141 v142 v143 v144 v145 v146 v147 v148 v149 v150 v151 v152 v153 v154 v155 v156 v157 v158 v159 v160 v161 v162 v163 v164 v165 v166 v167 v168 v169 v170 v171 v172 v173 v174 v175 v176 v177 v178 v179 v180 v181 v182 v183 v184 v185 v186 v187 v188 v189 v190 v191 v192 v193 v194 v195 v196 v197 v198 v199 v200 v201 v202 v203 v204 v205 v206 v207 v208 v209 v210 v211 v212 v213 v214 v215 v216 v217 v218 v219 v220 v221 v222 v223 v224 v225 v226 v227 v228 v229 v230 v231 v232 v233 v234 v235 v236 v237 v238 v239 v240 v241 v242 v243 v244 v245 v246 v247 v248 v249 v250 v251 v252 v253 v254 v255 v256 v257 v258 v259 v260 v261 v262 v263 v264 v265 v266 ho hp
   have hW:=ab ho;have hX:=ab hp;clear ho hp hm K;go_wp2;go_roundw
   case rel =>
    (repeat apply Exists.intro)
    exact ⟨⟨(j:Int)-1,O,O,zN,hX,hY,ka,by rw [show ((j:Int)-1+1).toNat=j from O];exact hW⟩,rfl⟩
   case measure=>simp [intOf]
end Go.Proofs.YtbomdfhdocaagaaGreatDoor
