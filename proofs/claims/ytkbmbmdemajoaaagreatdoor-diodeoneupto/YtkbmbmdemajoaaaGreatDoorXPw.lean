/- Contracts. -/
import Derived.Test.YtkbmbmdemajoaaaGreatDoorXPa
import Derived.Laws.AppendOwnNone
import Derived.BigQuiet
import Derived.WalkSpells
import Derived.Laws.CopyOwn
import Derived.Deep.Light
namespace Go.Proofs.YtkbmbmdemajoaaaGreatDoor
open Go.RowKit
set_option linter.unusedVariables false
set_option linter.unusedSimpArgs false
set_option maxHeartbeats 8000000
set_option maxRecDepth 10000
variable {wr w:World} {c j gu gq k:Nat} {vs xs us qs ys:List Nat}
theorem ED (w:World):Calls Tryz.prog 142 #[.slice none 0 0] w fun e a=>e=.returned (.slice none 0 0)/\a=w:=by
 go_enter Tryz.func142,Tryz.ntmps142
 go_wp2;refine wp_loop_rounds 1 ?_;rw [rounds_succ];go_wp2;go_ret;exact ⟨rfl,rfl⟩
theorem Bx (b off cap:Nat) (xs:List Nat) (w:World) (t:xs.length<=cap) (d:cap<=maxLen)
  (hc:∀ i (h:i<xs.length),w.cell? ⟨b,off+i,none⟩=some (.int .u32 (xs[i]:Nat))) :
  Calls Tryz.prog 142 #[.slice (some ⟨b,off,none⟩) xs.length cap] w fun e s=>e=.returned (.slice (some ⟨b,off,none⟩) (aN xs).length cap)/\s=w:=by
 unfold maxLen at d;go_enter Tryz.func142,Tryz.ntmps142
 go_wp2;go_loop [3] (fun n=>∃ k:Nat,k<=xs.length/\n=.int .i64 k/\aN (xs.take k)=aN xs) (fun n=>(intOf n).toNat)
 case atStart=>exact ⟨xs.length,zL,rfl,Z⟩
 case round =>
  obtain ⟨k,u,rfl,o⟩:=hrel;have g:Hid (aN (xs.take k)=aN xs):=o;clear o;by_cases q:k=0
  ·subst q;go_wp2;go_ret;refine ⟨?_,rfl⟩;rw [<- g];rfl
  ·obtain ⟨j,rfl⟩:∃ j,k=j+1:=⟨k-1,O⟩;have m:=hc j O;have f:j<xs.length:=O
   by_cases a:xs[j]=0
   ·have l:Hid (xs[j]=0):=a;rw [a] at m;clear a hc;go_wp2;go_round
    case rel=>exact ⟨j,O,zN,by rw [<- g,jN xs j f l]⟩
    case measure=>simp [intOf]
   ·have l:Hid (xs[j]≠0):=a;obtain ⟨x,p⟩:=eX (xs[j]);rw [<- p] at m a;have r:(((x:Nat):Int)==0)=false:=zB O;clear p a hc;go_wp2;go_ret;refine ⟨?_,rfl⟩;rw [<- g,kp xs j f l];simp;omega
theorem zH (v:Value) (xs:List Nat) (w:World) (h:Ws w v xs) :
  Calls Tryz.prog 142 #[v] w fun e w'=>∃ v',e=.returned v'/\w'=w/\Ws w v' (aN xs)/\ar v'=ar v:=by
 rcases h.sh with ⟨rfl,rfl⟩ | ⟨b,off,cap,rfl,hb,a,d,hc⟩
 ·refine (ED w).mono ?_;rintro e w' ⟨rfl,rfl⟩;exact ⟨_,rfl,rfl,Ws.nil _,rfl⟩
 ·refine (Bx b off cap xs w a d hc).mono ?_;rintro e w' ⟨rfl,rfl⟩;refine ⟨_,rfl,rfl,⟨h.sm.trimL,.inr ⟨b,off,cap,rfl,hb,Nat.le_trans (aU xs) a,d,?_⟩⟩,rfl⟩;intro i hi;have:=aU xs;rw [hc i O,kL xs i hi]
theorem dX (v:Value) (xs:List Nat) (w:World) (h:Ws w v xs) :
  Calls Tryz.prog 142 #[v] w fun e w'=>∃ v',e=.returned v'/\w'=w/\aQ w v' (ai xs) xs.length/\ar v'=ar v:=by
 refine (zH v xs w h).mono ?_;rintro e w' ⟨v',rfl,rfl,a,b⟩;exact ⟨v',rfl,rfl,⟨_,a,Tr.trimL _,eW _,aU _⟩,b⟩
theorem zM (v:Value) (xs:List Nat) (w:World) (h:Ws w v xs) (N:xs.length<=10737418240000) :
  Calls Tryz.prog 92 #[v] w fun e H=>∃ v',e=.returned v'/\Ws H v' xs/\w.grownBy H none/\bn w v':=by
 obtain ⟨D,hi,q,s,t⟩:=info_parts Tryz.info32;rcases h.sh with ⟨rfl,rfl⟩ | ⟨b,off,cap,rfl,hb,M,P,hc⟩
 ·go_enter Tryz.func92,Tryz.ntmps92
  go_wp2_with (at_builtin;refine wpList_append_own_none rfl _ _ 78 rfl w.heap.size 140 D 1 Tryz.underlying78 hi _ 0 [] rfl (World.ownsRow_nil _ _ _ _) rfl ?_)
  go_ret;exact ⟨_,rfl,Ws.nil _,ae _ _,fun k hk=>by simp [ar] at hk⟩
 ·go_enter Tryz.func92,Tryz.ntmps92
  have I:=ab hc;clear hc;have J:xs.length+0<=maxLen:=by unfold maxLen;omega
  go_wp2_with (at_builtin;refine wpList_append_own _ rfl _ _ 78 rfl w.heap.size 140 D (.int .u32 0) 1 4 Tryz.underlying78 hi q s t rfl zD _ 0 [] rfl (World.ownsRow_nil _ _ _ _) ⟨b,off,none⟩ xs.length cap (ak xs).toList rfl ?c1 ?c2 ?c3 ?c4 ?c5 ?c6 ?_)
  case c1=>simp [ak]
  case c2 =>
   intro j u L;obtain ⟨y,z⟩:=zY L;have p:j<xs.length:=by simpa [ak] using y
   have:=aF I j p;rw [show (⟨b,off,none⟩:Addr).add j=⟨b,off+j,none⟩ from by simp [Addr.add],this,<- z];simp [ak]
  case c3 =>
   intro u C;simp only [ak,List.mem_map] at C;obtain ⟨x,_,rfl⟩:=C;rfl
  case c4=>omega
  case c5=>omega
  case c6=>exact zL
  intro v' w1 l a _;go_wp2;go_ret;obtain ⟨E,m⟩:=l;refine ⟨v',rfl,?_,?_,?_⟩
  ·rcases m with ⟨rfl,F⟩ | ⟨g,d,f,rfl,hg,hh,n,o,A,G⟩
   ·have:xs=[]:=by
     cases xs with
     | nil=>rfl
     | cons x r=>simp at F
    subst this;exact Ws.nil _
   ·refine ⟨h.sm,.inr ⟨g,0,d,Z,(zZ hh).1,by simpa using n,o,?_⟩⟩;intro i hi;have K:f.toList[i]? = some (.int .u32 (xs[i]:Nat)):=by
     have B:(f.toList.take (xs.length*1))[i]? = (ak xs).toList[i]?:=by rw [G]
     rw [List.getElem?_take,if_pos O] at B;rw [B];simp [ak,hi]
    simp only [World.cell?,hh,Nat.zero_add];simpa using K
  ·exact ⟨a.os,a.tape,a.output,a.size,fun k hk _=>a.block k hk (by simp [Value.ownBlock])⟩
  ·intro k hk;rcases m with ⟨rfl,F⟩ | ⟨g,d,f,rfl,hg,hh,n,o,A,G⟩
   ·simp [ar] at hk
   ·simp [ar] at hk;omega
theorem qj (v:Value) (n L:Nat) (w:World) (h:aQ w v n L) (m:L<=10737418240000) :
  Calls Tryz.prog 92 #[v] w fun e w'=>∃ v',e=.returned v'/\aQ w' v' n L/\w.grownBy w' none/\bn w v':=by
 obtain ⟨xs,a,b,d,f⟩:=h;refine (zM v xs w a O).mono ?_;rintro e w' ⟨v',rfl,g,i,l⟩;exact ⟨v',rfl,⟨xs,g,b,d,f⟩,i,l⟩
theorem eY (x:Int) (w:World) (l:0<=x) (a:x<18446744073709551616) :
  Calls Tryz.prog 139 #[.int .u64 x] w fun e f=>∃ v',e=.returned v'/\aQ f v' x.toNat 2/\w.grownBy f none/\bn w v':=by
 go_enter Tryz.func139,Tryz.ntmps139
 go_wp2_with fail;have ha:bW (w.alloc (Obj.cells #[Value.int IntKind.u32 (x % 4294967296),Value.int IntKind.u32 (x / 4294967296)] 140)) w.heap.size [x.toNat % 4294967296,x.toNat / 4294967296]:=by
  unfold bW;show (w.heap.push _)[w.heap.size]? = _
  rw [Array.getElem?_push_size];have g:(x % 4294967296)=((x.toNat % 4294967296:Nat):Int):=O
  have h:(x / 4294967296)=((x.toNat / 4294967296:Nat):Int):=O
  rw [g,h];rfl
 have b:=ha.ws (Sm.cons O (Sm.cons O Sm.nil)) (by unfold maxLen;simp);clear ha;refine (dX _ _ _ b).mono ?_;rintro e w1 ⟨v',rfl,rfl,a,i⟩;clear b;go_wp2;go_ret;refine ⟨v',rfl,?_,ag (ae _ _) _,?_⟩
 ·have e:ai [x.toNat % 4294967296,x.toNat / 4294967296]=x.toNat:=by simp only [ai];omega
  rw [e] at a;exact a
 ·intro k d;rw [i] at d;simp [ar] at d;omega
def fA (w wr:World) (xs ys:List Nat) (k c:Nat):Prop :=
 ∃ done:List Nat,done.length=k/\Sm done/\bW wr w.heap.size (done++List.replicate (xs.length+1-k) 0)/\w.grownBy wr none/\ai done+4294967296^k*c=ai (xs.take k)+ai (ys.take k)
theorem fA.step (h:fA w wr xs ys k c) (b:k<xs.length) (x y:Nat) (d:x=xs[k]) (hy:y=ys.getD k 0) (z:Int) (hz:z=(((c+x+y) % 4294967296:Nat):Int)) :
  fA w (wr.setCell ⟨w.heap.size,k,none⟩ (.int .u32 z)) xs ys (k+1) ((c+x+y) / 4294967296):=by
 obtain ⟨done,a,e,f,g,i⟩:=h;refine ⟨done++[(c+x+y) % 4294967296],by simp [a],e.snoc _,?_,ah g _ _ zL,?_⟩
 ·have:=f.set k ((c+x+y) % 4294967296);rw [dH done k _ _ a O] at this;rw [hz,show xs.length+1-(k+1)=xs.length+1-k-1 from O];exact this
 ·rw [oP done k c x y _ _ a i,au xs k b,qk ys k,d,hy]
theorem fA.last (h:fA w wr xs ys xs.length c) (b:ys.length<=xs.length) (hc:c<=1) (n:xs.length<=10000000000000) (z:Int) (f:z=(c:Int)) :
  ∃ zs,zs.length=xs.length+1/\Ws (wr.setCell ⟨w.heap.size,xs.length,none⟩ (.int .u32 z)) (.slice (some ⟨w.heap.size,0,none⟩) (xs.length+1) (xs.length+1)) zs /\
   ai zs=ai xs+ai ys/\w.grownBy (wr.setCell ⟨w.heap.size,xs.length,none⟩ (.int .u32 z)) none:=by
 obtain ⟨done,d,g,i,l,m⟩:=h;have:=i.set xs.length c;rw [dH done _ _ _ d O,show xs.length+1-xs.length-1=0 from O] at this;simp only [List.replicate_zero,List.append_nil] at this;subst f;have a:(done++[c]).length=xs.length+1:=by simp [d]
 refine ⟨done++[c],a,?_,?_,ah l _ _ zL⟩
 ·have e:=this.ws (g.append (Sm.cons O Sm.nil)) (by rw [a];unfold maxLen;omega);rw [a] at e;exact e
 ·rw [aO,d,m,zT zL,zT b]
theorem add_ws (D E:Value) (xs ys:List Nat) (w:World) (ha:Ws w D xs) (hb:Ws w E ys) (N:xs.length<=10000000000000) (z:ys.length<=xs.length) :
  Calls Tryz.prog 137 #[D,E] w fun e M=>∃ v',e=.returned v'/\aQ M v' (ai xs+ai ys) (xs.length+1)/\w.grownBy M none/\bn w v':=by
 obtain ⟨ao,ca,rfl,he,r,H⟩:=ha.open;obtain ⟨bo,cb,rfl,hf,s,I⟩:=hb.open;unfold maxLen at r s;have P:=ab H;have Q:=ab I;have R:=ab ha.sm;have S:=ab hb.sm;clear H I ha hb;go_enter Tryz.func137,Tryz.ntmps137
 go_wp2_with (at_make;refine aC _ rfl _ _ 78 rfl Tryz.underlying78 Tryz.info32 _ _ _ _ (xs.length+1) rfl rfl O O O ?_)
 intro w1 m q;have T:=ab m;have U:=ab q;clear m q;go_wp2;go_loopw [6,7] (fun cv i wr=>∃ k c:Nat,k<=xs.length/\c<=1/\i=.int .i64 k/\cv=.int .u64 c/\Hid (fA w wr xs ys k c)) (fun _ i _=>xs.length-(intOf i).toNat)
 case atStart=>exact ⟨0,0,Nat.zero_le _,O,rfl,rfl,[],rfl,Sm.nil,T,U,by simp [ai]⟩
 case round =>
  obtain ⟨k,c,hk,B,rfl,rfl,h⟩:=hrel;by_cases hlt:k<xs.length
  ·obtain ⟨b,off,rfl,hm,d⟩:=aF P k hlt;have V:=(aF R).get k hlt;obtain ⟨x,ex⟩:=eX (xs[k]);rw [<- ex] at d V;have F:=ab ex;clear ex;have W:wr.cell? ⟨b,off+k,none⟩=some (.int .u32 (x:Nat)):=by
    obtain ⟨done,n,o,l,p,t⟩:=h.out;exact p.cell d Z
   have A:wr.frozen? ⟨w.heap.size,k,none⟩=false:=by
    obtain ⟨done,n,o,l,p,t⟩:=h.out;exact l.free k
   have g:∃ v,wr.cell? ⟨w.heap.size,k,none⟩=some v:=by
    obtain ⟨done,n,o,l,p,t⟩:=h.out;exact ⟨_,l.cell k (by simp;omega)⟩
   obtain ⟨v0,g⟩:=g;clear d;by_cases f:k<ys.length
   ·obtain ⟨b2,u,rfl,J,a⟩:=aF Q k f;have hy:=(aF S).get k f;obtain ⟨y,C⟩:=eX (ys[k]);rw [<- C] at a hy;have X:=ab C;clear C;have Y:wr.cell? ⟨b2,u+k,none⟩=some (.int .u32 (y:Nat)):=by
     obtain ⟨done,n,o,l,p,t⟩:=h.out;exact p.cell a Z
    clear a;go_wp2;go_roundw
    case rel=>exact ⟨k+1,(c+x+y) / 4294967296,O,O,zN,zN,fA.step h hlt x y F (by rw [X];simp [f]) _ O⟩
    case measure=>simp [intOf];omega
   ·go_wp2;go_roundw
    case rel=>exact ⟨k+1,(c+x+0) / 4294967296,O,O,zN,zN,fA.step h hlt x 0 F (by simp [List.getD,f]) _ O⟩
    case measure=>simp [intOf];omega
  ·obtain rfl:k=xs.length:=O
   have A:wr.frozen? ⟨w.heap.size,xs.length,none⟩=false:=by
    obtain ⟨done,n,o,l,p,t⟩:=h.out;exact l.free _
   have g:∃ v,wr.cell? ⟨w.heap.size,xs.length,none⟩=some v:=by
    obtain ⟨done,n,o,l,p,t⟩:=h.out;exact ⟨_,l.cell xs.length (by simp;omega)⟩
   obtain ⟨v0,g⟩:=g;go_wp2_with fail;obtain ⟨zs,K,L,z3,z4⟩:=fA.last h z B N (c:Int) rfl;have Z1:=ab K;refine (dX _ zs _ L).mono ?_;rintro e w2 ⟨v',rfl,rfl,n,o⟩;clear K L;go_wp2;go_ret;refine ⟨v',rfl,?_,z4,?_⟩
   ·rw [z3,Z1] at n;exact n
   ·intro j G;rw [o] at G;simp [ar] at G;omega
theorem tK (D E:Value) (xs ys:List Nat) (w:World) (ha:Ws w D xs) (hb:Ws w E ys) (N:xs.length<=10000000000000) (q:ys.length<xs.length) :
  Calls Tryz.prog 137 #[E,D] w fun e M=>∃ v',e=.returned v'/\aQ M v' (ai xs+ai ys) (xs.length+1)/\w.grownBy M none/\bn w v':=by
 obtain ⟨ao,ca,rfl,he,s,H⟩:=ha.open;obtain ⟨bo,cb,rfl,hf,t,I⟩:=hb.open;unfold maxLen at s t;have P:=ab H;have Q:=ab I;have R:=ab ha.sm;have S:=ab hb.sm;clear H I ha hb;go_enter Tryz.func137,Tryz.ntmps137
 go_wp2_with (at_make;refine aC _ rfl _ _ 78 rfl Tryz.underlying78 Tryz.info32 _ _ _ _ (xs.length+1) rfl rfl O O O ?_)
 intro w1 m r;have T:=ab m;have U:=ab r;clear m r;go_wp2;go_loopw [6,7] (fun cv i wr=>∃ k c:Nat,k<=xs.length/\c<=1/\i=.int .i64 k/\cv=.int .u64 c/\Hid (fA w wr xs ys k c)) (fun _ i _=>xs.length-(intOf i).toNat)
 case atStart=>exact ⟨0,0,Nat.zero_le _,O,rfl,rfl,[],rfl,Sm.nil,T,U,by simp [ai]⟩
 case round =>
  obtain ⟨k,c,hk,B,rfl,rfl,h⟩:=hrel;by_cases hlt:k<xs.length
  ·obtain ⟨b,off,rfl,hm,d⟩:=aF P k hlt;have V:=(aF R).get k hlt;obtain ⟨x,ex⟩:=eX (xs[k]);rw [<- ex] at d V;have F:=ab ex;clear ex;have W:wr.cell? ⟨b,off+k,none⟩=some (.int .u32 (x:Nat)):=by
    obtain ⟨done,n,o,l,p,u⟩:=h.out;exact p.cell d Z
   have A:wr.frozen? ⟨w.heap.size,k,none⟩=false:=by
    obtain ⟨done,n,o,l,p,u⟩:=h.out;exact l.free k
   have g:∃ v,wr.cell? ⟨w.heap.size,k,none⟩=some v:=by
    obtain ⟨done,n,o,l,p,u⟩:=h.out;exact ⟨_,l.cell k (by simp;omega)⟩
   obtain ⟨v0,g⟩:=g;clear d;by_cases f:k<ys.length
   ·obtain ⟨b2,z,rfl,J,a⟩:=aF Q k f;have hy:=(aF S).get k f;obtain ⟨y,C⟩:=eX (ys[k]);rw [<- C] at a hy;have X:=ab C;clear C;have Y:wr.cell? ⟨b2,z+k,none⟩=some (.int .u32 (y:Nat)):=by
     obtain ⟨done,n,o,l,p,u⟩:=h.out;exact p.cell a Z
    clear a;go_wp2;go_roundw
    case rel=>exact ⟨k+1,(c+x+y) / 4294967296,O,O,zN,zN,fA.step h hlt x y F (by rw [X];simp [f]) _ O⟩
    case measure=>simp [intOf];omega
   ·go_wp2;go_roundw
    case rel=>exact ⟨k+1,(c+x+0) / 4294967296,O,O,zN,zN,fA.step h hlt x 0 F (by simp [List.getD,f]) _ O⟩
    case measure=>simp [intOf];omega
  ·obtain rfl:k=xs.length:=O
   have A:wr.frozen? ⟨w.heap.size,xs.length,none⟩=false:=by
    obtain ⟨done,n,o,l,p,u⟩:=h.out;exact l.free _
   have g:∃ v,wr.cell? ⟨w.heap.size,xs.length,none⟩=some v:=by
    obtain ⟨done,n,o,l,p,u⟩:=h.out;exact ⟨_,l.cell xs.length (by simp;omega)⟩
   obtain ⟨v0,g⟩:=g;go_wp2_with fail;obtain ⟨zs,K,L,z3,z4⟩:=fA.last h (Nat.le_of_lt q) B N (c:Int) rfl;have Z1:=ab K;refine (dX _ zs _ L).mono ?_;rintro e w2 ⟨v',rfl,rfl,n,o⟩;clear K L;go_wp2;go_ret;refine ⟨v',rfl,?_,z4,?_⟩
   ·rw [z3,Z1] at n;exact n
   ·intro j G;rw [o] at G;simp [ar] at G;omega
theorem yp (b d:Value) (m n L M:Nat) (w:World) (ha:aQ w b m L) (hb:aQ w d n M) (q:L<=10000000000000) (r:M<=10000000000000) :
  Calls Tryz.prog 137 #[b,d] w fun e w'=>∃ v',e=.returned v'/\aQ w' v' (m+n) (max L M+1)/\w.grownBy w' none/\bn w v':=by
 obtain ⟨xs,i,s,l,t⟩:=ha;obtain ⟨ys,o,u,p,v⟩:=hb;by_cases h:ys.length<=xs.length
 ·refine (add_ws b d xs ys w i o O h).mono ?_;rintro e w' ⟨v',rfl,a,f,g⟩;rw [l,p] at a;exact ⟨v',rfl,a.mono O,f,g⟩
 ·refine (tK d b ys xs w o i O O).mono ?_;rintro e w' ⟨v',rfl,a,f,g⟩;rw [l,p,Nat.add_comm] at a;exact ⟨v',rfl,a.mono O,f,g⟩
theorem oT (C D:Value) (xs ys:List Nat) (w:World) (ha:Ws w C xs) (hb:Ws w D ys) (F:Tr xs) (G:Tr ys) :
  Calls Tryz.prog 90 #[C,D] w fun e w'=>e=.returned (.int .i64 (gG (ai xs) (ai ys)))/\∃ q,w'=w.drewN q:=by
 obtain ⟨ao,ca,rfl,V,p,J⟩:=ha.open;obtain ⟨bo,cb,rfl,W,r,K⟩:=hb.open;unfold maxLen at p r;have N:=ab J;have P:=ab K;have H:=ab ha.sm;have I:=ab hb.sm;have Q:=ab F;have R:=ab G;clear J K ha hb F G;rcases Nat.lt_trichotomy xs.length ys.length with m | m | m
 ·have n:(((xs.length:Nat):Int) != ((ys.length:Nat):Int))=true:=by rw [bne_iff_ne];omega
  have E:=ab (pG (cC H R m));go_enter Tryz.func90,Tryz.ntmps90
  go_wp2;go_ret;exact ⟨by rw [E];rfl,0,rfl⟩
 ·have n:(((xs.length:Nat):Int) != ((ys.length:Nat):Int))=false:=by rw [bne_eq_false_iff_eq];omega
  have HL:=ab m;have S:xs.length<=ys.length:=O
  have T:ys.length<=xs.length:=O
  clear m;go_enter Tryz.func90,Tryz.ntmps90
  go_wp2;go_loopw [5] (fun i wr=>∃ (z:Int) (q:Nat),-1<=z/\z<xs.length/\i=.int .i64 z/\wr=w.drewN q/\Hid (xs.drop (z+1).toNat=ys.drop (z+1).toNat)) (fun i _=>(intOf i+1).toNat)
  case atStart=>exact ⟨(xs.length:Int)-1,0,O,O,rfl,rfl,by rw [List.drop_of_length_le O,List.drop_of_length_le O];rfl⟩
  case round =>
   obtain ⟨z,q,X,Y,rfl,rfl,A⟩:=hrel;by_cases h0:z<0
   ·go_wp2;go_ret;refine ⟨?_,q,rfl⟩;have:=A.out;rw [show (z+1).toNat=0 from O] at this;simp only [List.drop_zero] at this;rw [this,sX];rfl
   ·obtain ⟨j,rfl⟩:∃ j:Nat,z=j:=⟨z.toNat,O⟩;have d:j<xs.length:=O
    have f:j<ys.length:=O
    obtain ⟨b,off,rfl,he,l⟩:=aF N j d;obtain ⟨b2,L,rfl,M,g⟩:=aF P j f;obtain ⟨x,ex⟩:=eX (xs[j]);obtain ⟨y,B⟩:=eX (ys[j]);rw [<- ex] at l;rw [<- B] at g;have s:=ab ex;have t:=ab B;clear ex B;have h:=A.out;rw [show ((j:Int)+1).toNat=j+1 from O] at h;have u:=ab h;clear h A;rcases Nat.lt_trichotomy x y with a | a | a
    ·have o:(((x:Nat):Int) != ((y:Nat):Int))=true:=by rw [bne_iff_ne];omega
     go_wp2;go_quiet (fail)
     go_wp2;go_quiet (fail)
     go_wp2;go_ret;refine ⟨?_,_,by simp only [World.drewN_drewN];rfl⟩;rw [pG (fQ xs ys j d f H u (by rw [<- s,<- t];exact a))];rfl
    ·have o:(((x:Nat):Int) != ((y:Nat):Int))=false:=by rw [bne_eq_false_iff_eq];omega
     have v:=ab a;clear a;go_wp2;go_quiet (fail)
     go_wp2;go_roundw
     case rel=>exact ⟨(j:Int)-1,_,O,O,zN,rfl,by
      rw [show ((j:Int)-1+1).toNat=j from O,List.drop_eq_getElem_cons d,List.drop_eq_getElem_cons f,u,<- s,<- t,v];rfl⟩
     case measure=>simp [intOf]
    ·have o:(((x:Nat):Int) != ((y:Nat):Int))=true:=by rw [bne_iff_ne];omega
     have U:¬ ((x:Nat):Int)<((y:Nat):Int):=O
     go_wp2;go_quiet (fail)
     go_wp2;go_quiet (fail)
     go_wp2;go_ret;refine ⟨?_,_,by simp only [World.drewN_drewN];rfl⟩;rw [pF (fQ ys xs j f d I u.symm (by rw [<- s,<- t];exact a))];rfl
 ·have n:(((xs.length:Nat):Int) != ((ys.length:Nat):Int))=true:=by rw [bne_iff_ne];omega
  have E:=ab (pF (cC I Q m));go_enter Tryz.func90,Tryz.ntmps90
  go_wp2;go_ret;exact ⟨by rw [E];rfl,0,rfl⟩
theorem yt (a b:Value) (m n L M:Nat) (w:World) (ha:aQ w a m L) (hb:aQ w b n M) :
  Calls Tryz.prog 90 #[a,b] w fun e o=>e=.returned (.int .i64 (gG m n))/\∃ q,o=w.drewN q:=by
 obtain ⟨xs,d,f,g,p⟩:=ha;obtain ⟨ys,h,i,l,r⟩:=hb;rw [<- g,<- l];exact oT a b xs ys w d h f i
def oK (w wr:World) (xs ys:List Nat) (i:Nat):Prop :=
 ∃ done:List Nat,done.length=i+ys.length/\Sm done/\bW wr w.heap.size (done++List.replicate (xs.length-i) 0)/\w.grownBy wr none/\ai done=ai (xs.take i)*ai ys
def jU (w wr:World) (xs ys:List Nat) (i j x c:Nat):Prop :=
 ∃ done mid:List Nat,done.length=i+ys.length/\mid.length=j/\Sm done/\Sm mid/\bW wr w.heap.size (done.take i++mid++done.drop (i+j)++List.replicate (xs.length-i) 0)/\w.grownBy wr none /\
  ai done=ai (xs.take i)*ai ys/\ai mid+4294967296^j*c=ai ((done.drop i).take j)+x*ai (ys.take j)
theorem oK.inn {i:Nat} (h:oK w wr xs ys i) (x:Nat):jU w wr xs ys i 0 x 0:=by
 obtain ⟨done,a,b,d,e,f⟩:=h;refine ⟨done,[],a,rfl,b,Sm.nil,?_,e,f,by simp [ai]⟩;rw [List.append_nil,Nat.add_zero,List.take_append_drop];exact d
theorem jU.at {i x:Nat} (h:jU w wr xs ys i j x c) (o:j<ys.length) :
  ∃ r,r<4294967296/\wr.cell? ⟨w.heap.size,i+j,none⟩=some (.int .u32 (r:Nat))/\wr.frozen? ⟨w.heap.size,i+j,none⟩=false /\
   ∀ (y:Nat) (z:Int),y=ys[j]->z=(((c+(x*y+r)) % 4294967296:Nat):Int)->jU w (wr.setCell ⟨w.heap.size,i+j,none⟩ (.int .u32 z)) xs ys i (j+1) x ((c+(x*y+r)) / 4294967296):=by
 obtain ⟨done,a,s,b,n,l,m,t,u,v⟩:=h;have hd:i+j<done.length:=O
 have e:done.drop (i+j)=done[i+j] :: done.drop (i+j+1):=List.drop_eq_getElem_cons hd;have d:(done.take i).length=i:=by rw [List.length_take];omega
 have f:(done.take i++a++done.drop (i+j)++List.replicate (xs.length-i) 0)[i+j]? = some done[i+j]:=by
  rw [List.append_assoc,List.getElem?_append_right (by simp [d,b]),e];have g:i+j-(done.take i++a).length=0:=by simp [d,b]
  rw [g];rfl
 have hlt:i+j<(done.take i++a++done.drop (i+j)++List.replicate (xs.length-i) 0).length:=(zY f).1;refine ⟨done[i+j],n.get _ hd,?_,m.free _,?_⟩
 ·rw [m.cell (i+j) hlt,(zY f).2]
 ·intro y z hy q;refine ⟨done,a++[(c+(x*y+done[i+j])) % 4294967296],s,by simp [b],n,l.snoc _,?_,ah t _ _ zL,u,?_⟩
  ·have:=m.set (i+j) ((c+(x*y+done[i+j])) % 4294967296);rw [q];have p:(done.take i++a++done.drop (i+j)++List.replicate (xs.length-i) 0).set (i+j) ((c+(x*y+done[i+j])) % 4294967296)
     = done.take i++(a++[(c+(x*y+done[i+j])) % 4294967296])++done.drop (i+(j+1))++List.replicate (xs.length-i) 0:=by
    rw [e,List.append_assoc,List.set_append_right _ _ (by simp [d,b])];have g:i+j-(done.take i++a).length=0:=by simp [d,b]
    rw [g];simp [Nat.add_assoc]
   rw [p] at this;exact this
  ·rw [aO,b,Nat.pow_succ,Nat.add_assoc,fC,Nat.mul_add,<- Nat.add_assoc,v,au ys j o,<- hy,
    au (done.drop i) j (by rw [List.length_drop];omega),List.getElem_drop,Nat.mul_add (4294967296^j),Nat.mul_add x]
   rw [show x*(4294967296^j*y)=4294967296^j*(x*y) from by rw [Nat.mul_left_comm]];omega
theorem jU.out {i x:Nat} (h:jU w wr xs ys i ys.length x c) (hi:i<xs.length) (l:x=xs[i]) (hc:c<4294967296) (z:Int) (m:z=(c:Int)) :
  wr.frozen? ⟨w.heap.size,i+ys.length,none⟩=false/\(∃ v,wr.cell? ⟨w.heap.size,i+ys.length,none⟩=some v) /\
  oK w (wr.setCell ⟨w.heap.size,i+ys.length,none⟩ (.int .u32 z)) xs ys (i+1):=by
 obtain ⟨done,d,t,b,p,f,e,q,r,s⟩:=h;have a:(done.take i).length=i:=by rw [List.length_take];omega
 have n:done.drop (i+ys.length)=[]:=List.drop_of_length_le O;rw [n,List.append_nil] at e;have g:(done.take i++d).length=i+ys.length:=by simp [a,b]
 refine ⟨e.free _,⟨_,e.cell (i+ys.length) (by simp [a,b];omega)⟩,?_⟩;have:=e.set (i+ys.length) c;rw [dH _ _ _ _ g O] at this;rw [m];refine ⟨done.take i++d++[c],by simp [a,b];omega,((p.take _).append f).append (Sm.cons hc Sm.nil),?_,ah q _ _ zL,?_⟩
 ·rw [show xs.length-(i+1)=xs.length-i-1 from O];exact this
 ·rw [aO,g,bN,a,Nat.pow_add,Nat.mul_assoc,Nat.add_assoc,<- Nat.mul_add,s,show (done.drop i).take ys.length=done.drop i from zT (by rw [List.length_drop];omega),show ys.take ys.length=ys from zT zL,
   au xs i hi,<- l,Nat.add_mul,<- r,Nat.mul_add,<- Nat.add_assoc]
  have o:ai done=ai (done.take i)+4294967296^i*ai (done.drop i):=by
   have:=bN (done.take i) (done.drop i);rw [List.take_append_drop,a] at this;exact this
  rw [o,Nat.mul_assoc]
theorem jU.drewN {i x:Nat} (h:jU w wr xs ys i j x c) (q:Nat):jU w (wr.drewN q) xs ys i j x c:=by
 obtain ⟨done,a,e,b,f,d,g,l,m,n⟩:=h;exact ⟨done,a,e,b,f,d,g.drewN q,aj l q,m,n⟩
theorem mul_ws (E F:Value) (xs ys:List Nat) (w:World) (ha:Ws w E xs) (hb:Ws w F ys) (Q:0<xs.length) (R:0<ys.length) (hl:xs.length+ys.length<=10000000000000) :
  Calls Tryz.prog 138 #[E,F] w fun e P=>∃ v',e=.returned v'/\aQ P v' (ai xs*ai ys) (xs.length+ys.length)/\w.grownBy P none/\bn w v':=by
 obtain ⟨ao,ca,rfl,ho,n,I⟩:=ha.open;obtain ⟨bo,cb,rfl,hq,o,J⟩:=hb.open;unfold maxLen at n o;have G:(((xs.length:Nat):Int)==0)=false:=zB O;have H:(((ys.length:Nat):Int)==0)=false:=zB O;have S:=ab I;have T:=ab J;have U:=ab ha.sm;have V:=ab hb.sm;clear I J ha hb;go_enter Tryz.func138,Tryz.ntmps138
 go_wp2_with (at_make;refine aC _ rfl _ _ 78 rfl Tryz.underlying78 Tryz.info32 _ _ _ _ (xs.length+ys.length) rfl rfl O O O ?_)
 intro w1 h m;have W:=ab h;have X:=ab m;clear h m;go_wp2;go_loopw [6] (fun i wr=>∃ k:Nat,k<=xs.length/\i=.int .i64 k/\Hid (oK w wr xs ys k)) (fun i _=>xs.length-(intOf i).toNat)
 case atStart=>exact ⟨0,Nat.zero_le _,rfl,List.replicate ys.length 0,Z,Sm.replicate _,by
  have:=W.out;rw [Nat.add_comm,<- List.replicate_append_replicate] at this;exact this,X,by simp [ai,iM]⟩
 case round =>
  obtain ⟨i,hk,rfl,u⟩:=hrel;by_cases hlt:i<xs.length
  ·obtain ⟨b,off,rfl,hs,d⟩:=aF S i hlt;have s:=(aF U).get i hlt;obtain ⟨x,ex⟩:=eX (xs[i]);rw [<- ex] at d s;have Y:=ab ex;have HC:=ab d;clear ex d;go_wp2;go_loopw [7,8] (fun cv D wr=>∃ j c:Nat,j<=ys.length/\c<4294967296/\D=.int .i64 j/\cv=.int .u64 c/\Hid (jU w wr xs ys i j x c)) (fun _ D _=>ys.length-(intOf D).toNat)
   case atStart=>exact ⟨0,0,Nat.zero_le _,O,rfl,rfl,oK.inn u x⟩
   case round =>
    clear u;obtain ⟨j,c,hj,hc,rfl,rfl,v⟩:=hrel;have hg:w.grownBy wr none:=by
     obtain ⟨_,_,_,_,_,_,_,z,_,_⟩:=v.out;exact z
    by_cases f:j<ys.length
    ·obtain ⟨b2,p,rfl,K,a⟩:=aF T j f;have hy:=(aF V).get j f;obtain ⟨y,A⟩:=eX (ys[j]);rw [<- A] at a hy;have he:wr.cell? ⟨b2,p+j,none⟩=some (.int .u32 (y:Nat)):=hg.cell a Z;have hf:wr.cell? ⟨b,off+i,none⟩=some (.int .u32 (x:Nat)):=hg.cell HC Z;obtain ⟨r,hr,hu,B,g⟩:=v.out.at f;have HS:=ab (g y);have EY:=ab A;have hp:(x:Int)*(y:Int)<=18446744065119617025:=lA x y s hy;have hm:0<=(x:Int)*(y:Int):=Int.mul_nonneg O O;clear a g A hg;go_wp2;go_quiet (fail)
     go_wp2;go_roundw
     case rel=>exact ⟨j+1,(c+(x*y+r)) / 4294967296,O,tT x y c r s hy hc hr,zN,by rw [oR],jU.drewN (HS _ EY (by rw [ni])) _⟩
     case measure=>simp [intOf];omega
    ·obtain rfl:j=ys.length:=O
     obtain ⟨B,⟨v0,hv⟩,l⟩:=v.out.out hlt Y hc _ rfl;have HO:=ab l;clear l;go_wp2;go_roundw
     case rel=>exact ⟨i+1,O,zN,HO⟩
     case measure=>simp [intOf];omega
  ·obtain rfl:i=xs.length:=O
   go_wp2_with fail;obtain ⟨done,q,L,C,z,M⟩:=u.out;rw [Nat.sub_self,List.replicate_zero,List.append_nil] at C;have t:=C.ws L (by rw [q];unfold maxLen;omega);have H1:=ab q;have H3:=ab M;rw [q] at t;clear q M C L;refine (dX _ done _ t).mono ?_;rintro e w2 ⟨v',rfl,rfl,N,k2⟩;clear t;go_wp2;go_ret;refine ⟨v',rfl,?_,z,?_⟩
   ·rw [H3,H1,zT zL] at N;exact N
   ·intro j hj;rw [k2] at hj;simp [ar] at hj;omega
theorem Dg (b d:Value) (xs ys:List Nat) (w:World) (ha:Ws w b xs) (hb:Ws w d ys) (f:xs.length=0∨ys.length=0) :
  Calls Tryz.prog 138 #[b,d] w fun e q=>e=.returned (.slice none 0 0)/\q=w:=by
 obtain ⟨r,s,rfl,m,i,n⟩:=ha.open;obtain ⟨bo,t,rfl,o,l,p⟩:=hb.open;clear n p ha hb;by_cases g:xs.length=0
 ·have a:(((xs.length:Nat):Int)==0)=true:=beq_iff_eq.2 O;clear f g;go_enter Tryz.func138,Tryz.ntmps138
  go_wp2;go_ret;exact ⟨rfl,rfl⟩
 ·have a:(((xs.length:Nat):Int)==0)=false:=zB O;have h:(((ys.length:Nat):Int)==0)=true:=beq_iff_eq.2 O;clear f g;go_enter Tryz.func138,Tryz.ntmps138
  go_wp2;go_ret;exact ⟨rfl,rfl⟩
theorem yU (a b:Value) (m n L M:Nat) (w:World) (ha:aQ w a m L) (hb:aQ w b n M) (r:L+M<=10000000000000) :
  Calls Tryz.prog 138 #[a,b] w fun e w'=>∃ v',e=.returned v'/\aQ w' v' (m*n) (L+M)/\w.grownBy w' none/\bn w v':=by
 obtain ⟨xs,d,s,f,t⟩:=ha;obtain ⟨ys,g,u,i,v⟩:=hb;by_cases h:xs.length=0∨ys.length=0
 ·refine (Dg a b xs ys w d g h).mono ?_;rintro e w' ⟨rfl,rfl⟩;refine ⟨_,rfl,⟨[],Ws.nil _,rfl,?_,Z⟩,ae _ _,fun k q=>by simp [ar] at q⟩;rcases h with h | h
  ·have:xs=[]:=List.eq_nil_of_length_eq_zero h;subst this;rw [<- f];simp [ai]
  ·have:ys=[]:=List.eq_nil_of_length_eq_zero h;subst this;rw [<- i];simp [ai]
 ·refine (mul_ws a b xs ys w d g O O O).mono ?_;rintro e w' ⟨v',rfl,l,o,p⟩;rw [f,i] at l;exact ⟨v',rfl,l.mono O,o,p⟩
def jW (w wr:World) (xs:List Nat) (d k r:Nat):Prop :=
 ∃ qs:List Nat,qs.length=xs.length-k/\Sm qs/\bW wr w.heap.size (List.replicate k 0++qs)/\w.grownBy wr none/\ai (xs.drop k)=ai qs*d+r
theorem jW.step {d r:Nat} (h:jW w wr xs d (j+1) r) (a:j<xs.length) (hd:r<d) (b:d<4294967296) (x:Nat) (f:x=xs[j]) (g:x<4294967296) (z:Int) (hz:z=(((r*4294967296+x) / d:Nat):Int)) :
  jW w (wr.setCell ⟨w.heap.size,j,none⟩ (.int .u32 z)) xs d j ((r*4294967296+x) % d):=by
 obtain ⟨qs,l,o,p,q,s⟩:=h;have i:(r*4294967296+x) / d<4294967296:=by
  rw [Nat.div_lt_iff_lt_mul O];have:(r+1)*4294967296<=d*4294967296:=Nat.mul_le_mul_right _ O;rw [Nat.mul_comm 4294967296 d];omega
 refine ⟨((r*4294967296+x) / d) :: qs,by simp [l];omega,Sm.cons i o,?_,ah q _ _ zL,?_⟩
 ·have:=p.set j ((r*4294967296+x) / d);rw [hz];have e:(List.replicate (j+1) 0++qs).set j ((r*4294967296+x) / d)=List.replicate j 0++((r*4294967296+x) / d) :: qs:=by
   rw [<- List.replicate_append_replicate (n:=j) (m:=1),List.append_assoc,List.set_append_right _ _ Z];simp
  rw [e] at this;exact this
 ·rw [List.drop_eq_getElem_cons a,<- f];simp only [ai,s];have e:=Nat.div_add_mod (r*4294967296+x) d;rw [Nat.add_mul,Nat.mul_add,Nat.mul_assoc,Nat.mul_comm ((r*4294967296+x) / d) d];omega
theorem vF (G:Value) (xs:List Nat) (d:Nat) (w:World) (ha:Ws w G xs) (n:0<d) (hd:d<4294967296) (hl:xs.length<=10000000000000) :
  Calls Tryz.prog 93 #[G,.int .u32 (d:Nat)] w fun e N=>∃ v' r,e=.returned (.tuple #[v',.int .u32 (r:Nat)])/\r=ai xs % d/\aQ N v' (ai xs / d) xs.length/\w.grownBy N none/\bn w v':=by
 obtain ⟨ao,ca,rfl,he,s,K⟩:=ha.open;unfold maxLen at s;have P:=ab K;have Q:=ab ha.sm;clear K ha;go_enter Tryz.func93,Tryz.ntmps93
 go_wp2_with (at_make;refine aC _ rfl _ _ 78 rfl Tryz.underlying78 Tryz.info32 _ _ _ _ xs.length rfl rfl O O O ?_)
 intro w1 g p;have R:=ab g;have S:=ab p;clear g p;go_wp2;go_loopw [7,8] (fun rv iv wr=>∃ (z:Int) (r:Nat),-1<=z/\z<xs.length/\r<d/\iv=.int .i64 z/\rv=.int .u64 r/\Hid (jW w wr xs d (z+1).toNat r)) (fun _ iv _=>(intOf iv+1).toNat)
 case atStart=>exact ⟨(xs.length:Int)-1,0,O,O,O,rfl,rfl,[],Z,Sm.nil,by
  rw [show ((xs.length:Int)-1+1).toNat=xs.length from O,List.append_nil];exact R,S,by
  rw [List.drop_of_length_le O];simp [ai]⟩
 case round =>
  obtain ⟨z,r,hf,hk,D,rfl,rfl,E⟩:=hrel;by_cases h0:z<0
  ·go_wp2_with fail;obtain ⟨qs,l,L,h,t,y⟩:=E.out;rw [show (z+1).toNat=0 from O] at l h y;simp only [List.replicate_zero,List.nil_append,Nat.sub_zero,List.drop_zero] at l h y;have A:=h.ws L (by rw [l];unfold maxLen;omega);rw [l] at A;have T:=ab l;have H:=ab y;clear l y h L;refine (dX _ qs _ A).mono ?_;rintro e w2 ⟨v',rfl,rfl,M,k2⟩;clear A;go_wp2;go_ret2
   refine ⟨v',r,rfl,?_,?_,t,?_⟩
   ·rw [H,Nat.mul_comm,Nat.mul_add_mod,Nat.mod_eq_of_lt D]
   ·rw [T] at M;have e:ai xs / d=ai qs:=by
     rw [H,Nat.mul_comm,Nat.mul_add_div n,Nat.div_eq_of_lt D,Nat.add_zero]
    rw [e];exact M
   ·intro j J;rw [k2] at J;simp [ar] at J;omega
  ·obtain ⟨j,rfl⟩:∃ j:Nat,z=j:=⟨z.toNat,O⟩;have i:j<xs.length:=O
   obtain ⟨b,off,rfl,ho,a⟩:=aF P j i;have B:=(aF Q).get j i;obtain ⟨x,ex⟩:=eX (xs[j]);rw [<- ex] at a B;have U:=ab ex;clear ex;have f:=E.out;rw [show ((j:Int)+1).toNat=j+1 from O] at f;have V:wr.cell? ⟨b,off+j,none⟩=some (.int .u32 (x:Nat)):=by
    obtain ⟨_,_,_,_,t,_⟩:=f;exact t.cell a Z
   have W:wr.frozen? ⟨w.heap.size,j,none⟩=false:=by
    obtain ⟨_,_,_,h,t,_⟩:=f;exact h.free j
   have o:∃ v,wr.cell? ⟨w.heap.size,j,none⟩=some v:=by
    obtain ⟨_,_,_,h,t,_⟩:=f;exact ⟨_,h.cell j (by simp;omega)⟩
   obtain ⟨v0,o⟩:=o;have X:=ab f;obtain ⟨m,F⟩:=eX (r*4294967296+x);have C:=jB r x O B;rw [<- F] at C;have Y:m<18446744073709551616:=O
   have u:m / d<4294967296:=by
    rw [Nat.div_lt_iff_lt_mul O];have:(r+1)*4294967296<=d*4294967296:=Nat.mul_le_mul_right _ O;rw [Nat.mul_comm 4294967296 d];omega
   have HQ:=ab u;have I:=ab F;clear a E f u F;go_wp2;go_roundw
   case rel =>
    refine ⟨(j:Int)-1,m % d,O,O,Nat.mod_lt _ n,rfl,by rw [Int.natCast_emod],?_⟩;rw [show ((j:Int)-1+1).toNat=j from O,I];refine jW.step X i D hd x U B _ ?_;have u:=HQ.out;rw [<- I,<- Int.natCast_ediv];generalize m / d=q at u ⊢;rw [IntWalk.u64_in _ ⟨O,O⟩];omega
   case measure=>simp [intOf]
theorem Bl (a:Value) (n L d:Nat) (w:World) (ha:aQ w a n L) (b:0<d) (hd:d<4294967296) (o:L<=10000000000000) :
  Calls Tryz.prog 93 #[a,.int .u32 (d:Nat)] w fun e w'=>∃ v' r,e=.returned (.tuple #[v',.int .u32 (r:Nat)])/\r=n % d/\aQ w' v' (n / d) L/\w.grownBy w' none/\bn w v':=by
 obtain ⟨xs,g,p,h,i⟩:=ha;refine (vF a xs d w g b hd O).mono ?_;rintro e w' ⟨v',r,rfl,k0,f,l,m⟩;rw [h] at k0 f;exact ⟨v',r,rfl,k0,f.mono i,l,m⟩
theorem jb (h:Value) (xs:List Nat) (w:World) (ha:Ws w h xs) (m:xs.length<=2) :
  Calls Tryz.prog 195 #[h] w fun e q=>e=.returned (.int .u64 (ai xs:Nat))/\q=w:=by
 obtain ⟨r,s,rfl,o,f,a⟩:=ha.open;have d:=ha.sm;clear ha f;match xs,m with
 | [],_ =>
  clear a;go_enter Tryz.func195,Tryz.ntmps195
  go_wp2;go_ret;exact ⟨rfl,rfl⟩
 | [x],_ =>
  obtain ⟨b,off,rfl,hb,hc⟩:=a 0 Z;simp only [Nat.add_zero,List.getElem_cons_zero] at hc;have i:=d x Z;clear a d;go_enter Tryz.func195,Tryz.ntmps195
  go_wp2;go_ret;exact ⟨by simp [ai],rfl⟩
 | [x,y],_ =>
  obtain ⟨b,off,rfl,hb,hc⟩:=a 0 Z;obtain ⟨b',l,e,p,g⟩:=a 1 Z;simp only [zI,Addr.mk.injEq,and_true] at e;obtain ⟨rfl,rfl⟩:=e;simp only [Nat.add_zero,List.getElem_cons_zero] at hc;simp only [List.getElem_cons_succ,List.getElem_cons_zero] at g;have i:=d x Z;have hy:=d y Z;have n:=uT y x hy i;clear a d;go_enter Tryz.func195,Tryz.ntmps195
  go_wp2;go_ret;exact ⟨by simp [ai],rfl⟩
theorem AL (q:Value) (xs:List Nat) (w:World) (ha:Ws w q xs) (v:0<xs.length) (t:Nat) (l:xs[xs.length-1]? = some t) (H:0<t) (I:xs.length<=10000000000000) :
  Calls Tryz.prog 196 #[q] w fun e F=>(∃ n:Nat,e=.returned (.int .i64 (((xs.length:Int)-1)*32+n))/\1<=n/\n<=32/\2^(n-1)<=t/\t<2^n)/\F=w:=by
 obtain ⟨J,K,rfl,C,i,u⟩:=ha.open;unfold maxLen at i;have x:(((xs.length:Nat):Int)==0)=false:=zB O;obtain ⟨b,off,rfl,hb,hc⟩:=u (xs.length-1) O;have m:=ha.sm.get (xs.length-1) O;clear u ha;obtain ⟨j,D⟩:∃ j,xs.length=j+1:=⟨xs.length-1,O⟩;rw [zX O,zI] at l;rw [l] at hc m;clear l;have y:w.cell? ⟨b,off+j,none⟩=some (.int .u32 (t:Nat)):=by
  rw [show j=xs.length-1 from O];exact hc
 have A:=ab D;clear hc;go_enter Tryz.func196,Tryz.ntmps196
 go_wp2;go_loop [3,4] (fun G p=>∃ k T:Nat,k<=32/\G=.int .i64 k/\p=.int .u32 (T:Nat)/\Hid (T=t / 2^k/\(k=0∨2^(k-1)<=t))) (fun _ p=>(intOf p).toNat)
 case atStart=>exact ⟨0,t,O,rfl,rfl,Z,.inl rfl⟩
 case round =>
  obtain ⟨k,T,E,rfl,rfl,g⟩:=hrel;by_cases r:T=0
  ·have B:(((T:Nat):Int) != 0)=false:=by rw [bne_eq_false_iff_eq];omega
   have o:=ab r;clear r;go_wp2;go_ret;refine ⟨⟨k,?_,?_,E,?_,?_⟩,rfl⟩
   ·exact congrArg (fun z=>Ending.returned (Value.int .i64 z)) (by have:=A.out;omega)
   ·obtain ⟨a,d⟩:=g.out;rcases d with rfl | d
    ·rw [o] at a;simp at a;omega
    ·have:k≠0:=by
      intro e;subst e;rw [o] at a;simp at a;omega
     omega
   ·obtain ⟨a,d⟩:=g.out;rcases d with rfl | d
    ·simp;omega
    ·exact d
   ·obtain ⟨a,d⟩:=g.out;rw [o] at a;have:=Nat.div_eq_zero_iff.1 a.symm;rcases this with h | h
    ·have:=Nat.two_pow_pos k;omega
    ·exact h
  ·have B:(((T:Nat):Int) != 0)=true:=by rw [bne_iff_ne];omega
   have f:0<T:=O
   have s:k<32:=by
    obtain ⟨a,d⟩:=g.out;rcases Nat.lt_or_ge k 32 with h | h
    ·exact h
    ·exfalso
     have e:k=32:=O
     subst e;rw [Nat.div_eq_of_lt O] at a;omega
   go_wp2;go_round
   case rel =>
    refine ⟨k+1,T / 2,O,zN,zN,?_,.inr ?_⟩
    ·rw [g.1,Nat.div_div_eq_div_mul,<- Nat.pow_succ]
    ·obtain ⟨a,d⟩:=g.out;rw [Nat.add_sub_cancel];rw [a] at f;exact (Nat.div_pos_iff.1 f).2
   case measure=>simp [intOf];omega
def lM (w wr:World) (xs:List Nat) (s k c:Nat):Prop :=
 ∃ done:List Nat,done.length=k/\Sm done/\bW wr w.heap.size (done++c :: List.replicate (xs.length-k) 0)/\w.grownBy wr none/\ai done+4294967296^k*c=ai (xs.take k)*2^s
theorem lM.step {s:Nat} (h:lM w wr xs s k c) (f:k<xs.length) (g:s<32) (hc:c<2^s) (x:Nat) (i:x=xs[k]) (b d:Int)
  (hz1:b=((c+x*2^s % 4294967296:Nat):Int)) (hz2:d=((x*2^s / 4294967296:Nat):Int)) :
  lM w ((wr.setCell ⟨w.heap.size,k,none⟩ (.int .u32 b)).setCell ⟨w.heap.size,k+1,none⟩ (.int .u32 d)) xs s (k+1) (x*2^s / 4294967296):=by
 obtain ⟨done,a,l,n,o,p⟩:=h;have hb:=(xL s c x g hc).2;refine ⟨done++[c+x*2^s % 4294967296],by simp [a],l.append (Sm.cons hb Sm.nil),?_,ah (ah o _ _ zL) _ _ zL,?_⟩
 ·have:=(n.set k (c+x*2^s % 4294967296)).set (k+1) (x*2^s / 4294967296);rw [hz1,hz2];have e:((done++c :: List.replicate (xs.length-k) 0).set k (c+x*2^s % 4294967296)).set (k+1) (x*2^s / 4294967296)
    = (done++[c+x*2^s % 4294967296])++(x*2^s / 4294967296) :: List.replicate (xs.length-(k+1)) 0:=by
   obtain ⟨m,q⟩:∃ m,xs.length-k=m+1:=⟨xs.length-k-1,O⟩;rw [q,show xs.length-(k+1)=m from O];subst a;rw [List.set_append_right _ _ zL,List.set_append_right _ _ O];simp [List.replicate_succ]
  rw [e] at this;exact this
 ·rw [aO,a,au xs k f,<- i,Nat.add_mul,<- p,Nat.pow_succ,Nat.mul_add,Nat.mul_assoc (4294967296^k) x];have:=fC (4294967296^k) (x*2^s);omega
theorem yM (A:Value) (xs:List Nat) (s:Nat) (w:World) (ha:Ws w A xs) (t:s<32) (F:0<xs.length) (hl:xs.length<=10000000000000) :
  Calls Tryz.prog 197 #[A,.int .u64 (s:Nat)] w fun e E=>∃ v',e=.returned v'/\aQ E v' (ai xs*2^s) (xs.length+1)/\w.grownBy E none/\bn w v':=by
 obtain ⟨ao,ca,rfl,X,n,C⟩:=ha.open;unfold maxLen at n;have G:(((xs.length:Nat):Int)==0)=false:=zB O;have H:=ab C;have I:=ab ha.sm;have J:((s:Nat):Int) / 32=0:=O
 have K:((s:Nat):Int) % 32=s:=O
 clear C ha;go_enter Tryz.func197,Tryz.ntmps197
 go_wp2_with (at_make;refine aC _ rfl _ _ 78 rfl Tryz.underlying78 Tryz.info32 _ _ _ _ (xs.length+1) rfl rfl O O O ?_)
 intro w1 h l;have L:=ab h;have M:=ab l;clear h l;go_wp2;go_loopw [8] (fun i wr=>∃ k c:Nat,k<=xs.length/\i=.int .i64 k/\Hid (c<2^s)/\Hid (lM w wr xs s k c)) (fun i _=>xs.length-(intOf i).toNat)
 case atStart=>exact ⟨0,0,Nat.zero_le _,rfl,Nat.two_pow_pos s,[],rfl,Sm.nil,by
  have:=L.out;rw [List.replicate_succ] at this;exact this,M,by simp [ai]⟩
 case round =>
  obtain ⟨k,c,hk,rfl,y,z⟩:=hrel;by_cases hlt:k<xs.length
  ·obtain ⟨b,off,rfl,Y,a⟩:=aF H k hlt;have o:=(aF I).get k hlt;obtain ⟨x,ex⟩:=eX (xs[k]);rw [<- ex] at a o;have N:=ab ex;clear ex;obtain ⟨done,f,p,g,q,r⟩:=z.out;have P:wr.cell? ⟨b,off+k,none⟩=some (.int .u32 (x:Nat)):=q.cell a Z;have Q:wr.frozen? ⟨w.heap.size,k,none⟩=false:=g.free k;have R:wr.frozen? ⟨w.heap.size,k+1,none⟩=false:=g.free (k+1);have S:wr.cell? ⟨w.heap.size,k,none⟩=some (.int .u32 (c:Nat)):=by
    rw [g.cell k (by simp [f])];simp [f]
   have T:wr.cell? ⟨w.heap.size,k+1,none⟩=some (.int .u32 ((0:Nat):Int)):=by
    rw [g.cell (k+1) (by simp [f];omega)];obtain ⟨m,hm⟩:∃ m,xs.length-k=m+1:=⟨xs.length-k-1,O⟩;simp [f,hm,List.replicate_succ]
   clear f p g q r a;go_wp2;go_roundw
   case rel=>exact ⟨k+1,x*2^s / 4294967296,O,zN,Db x s o,lM.step z hlt t y x N _ _ (yN c x s o t y) (left_z2 x s o t)⟩
   case measure=>simp [intOf];omega
  ·obtain rfl:k=xs.length:=O
   go_wp2_with fail;obtain ⟨done,f,p,g,q,r⟩:=z.out;rw [Nat.sub_self,List.replicate_zero] at g;have hc:=y.out;have u:2^s<=2^31:=Nat.pow_le_pow_right zD O;have d:(done++[c]).length=xs.length+1:=by simp [f]
   have v:=g.ws (p.append (Sm.cons O Sm.nil)) (by rw [d];unfold maxLen;omega);rw [d] at v;have U:=ab d;have V:=ab f;have W:=ab r;clear f r g p hc u d;refine (dX _ (done++[c]) _ v).mono ?_;rintro e w2 ⟨v',rfl,rfl,D,k2⟩;clear v;go_wp2;go_ret;refine ⟨v',rfl,?_,q,?_⟩
   ·rw [U,aO,V,W,zT zL] at D;exact D
   ·intro j B;rw [k2] at B;simp [ar] at B;omega
def iO (w wr:World) (xs:List Nat) (s k:Nat):Prop :=
 ∃ done:List Nat,done.length=k/\Sm done/\bW wr w.heap.size (done++List.replicate (xs.length-k) 0)/\w.grownBy wr none/\ai done=ai xs / 2^s % 4294967296^k
theorem iO.step {s:Nat} (h:iO w wr xs s k) (b:k<xs.length) (d:s<32) (e:Sm xs) (m:Nat) (f:m=xs[k]+4294967296*xs.getD (k+1) 0) (z:Int) (g:z=((m / 2^s % 4294967296:Nat):Int)) :
  iO w (wr.setCell ⟨w.heap.size,k,none⟩ (.int .u32 z)) xs s (k+1):=by
 obtain ⟨done,a,i,l,n,o⟩:=h;refine ⟨done++[m / 2^s % 4294967296],by simp [a],i.snoc _,?_,ah n _ _ zL,?_⟩
 ·have:=l.set k (m / 2^s % 4294967296);rw [dH done k _ _ a O] at this;rw [g,show xs.length-(k+1)=xs.length-k-1 from O];exact this
 ·rw [aO,a,o,f,<- pR xs s k e d b,Nat.pow_succ,Nat.mod_mul]
theorem Ec (G:Value) (xs:List Nat) (s:Nat) (w:World) (ha:Ws w G xs) (H:s<32) (hl:xs.length<=10000000000000) :
  Calls Tryz.prog 198 #[G,.int .u64 (s:Nat)] w fun e S=>∃ v',e=.returned v'/\aQ S v' (ai xs / 2^s) xs.length/\w.grownBy S none/\bn w v':=by
 obtain ⟨ao,ca,rfl,hq,t,M⟩:=ha.open;unfold maxLen at t;have I:=ab M;have o:=ab ha.sm;have T:((s:Nat):Int) / 32=0:=O
 have U:((s:Nat):Int) % 32=s:=O
 clear M ha;by_cases p:xs.length=0
 ·have e:xs=[]:=List.eq_nil_of_length_eq_zero p;subst e;go_enter Tryz.func198,Tryz.ntmps198
  go_wp2;go_ret;exact ⟨_,rfl,⟨[],Ws.nil _,rfl,by simp [ai],Z⟩,ae _ _,fun k hk=>by simp [ar] at hk⟩
 ·have B:0<xs.length:=O
  have V:¬ xs=[]:=by intro e;subst e;simp at B
  clear p;go_enter Tryz.func198,Tryz.ntmps198
  go_wp2_with (at_make;refine aC _ rfl _ _ 78 rfl Tryz.underlying78 Tryz.info32 _ _ _ _ xs.length rfl rfl O O O ?_)
  intro w1 g r;have W:=ab g;have X:=ab r;clear g r;go_wp2;go_loopw [8] (fun i wr=>∃ k:Nat,k<=xs.length/\i=.int .i64 k/\Hid (iO w wr xs s k)) (fun i _=>xs.length-(intOf i).toNat)
  case atStart=>exact ⟨0,Nat.zero_le _,rfl,[],rfl,Sm.nil,W,X,by simp [ai,Nat.mod_one]⟩
  case round =>
   obtain ⟨k,hk,rfl,A⟩:=hrel;by_cases hlt:k<xs.length
   ·obtain ⟨b,off,rfl,hr,a⟩:=aF I k hlt;have J:=(aF o).get k hlt;obtain ⟨x,ex⟩:=eX (xs[k]);rw [<- ex] at a J;have K:=ab ex;clear ex;obtain ⟨done,h,u,l,n,z⟩:=A.out;have Y:wr.cell? ⟨b,off+k,none⟩=some (.int .u32 (x:Nat)):=n.cell a Z;have he:wr.frozen? ⟨w.heap.size,k,none⟩=false:=l.free k;have q:∃ v,wr.cell? ⟨w.heap.size,k,none⟩=some v:=⟨_,l.cell k (by simp [h];omega)⟩;obtain ⟨v0,q⟩:=q;by_cases f:k+1<xs.length
    ·obtain ⟨b',N,P,Q,d⟩:=aF I (k+1) f;simp only [zI,Addr.mk.injEq,and_true] at P;obtain ⟨rfl,rfl⟩:=P;have hy:=(aF o).get (k+1) f;obtain ⟨y,E⟩:=eX (xs[k+1]);rw [<- E] at d hy;have EY:=ab E;clear E;have hf:wr.cell? ⟨b,off+(k+1),none⟩=some (.int .u32 (y:Nat)):=n.cell d Z;have C:=uT y x hy J;obtain ⟨m,F⟩:=eX (x+4294967296*y);rw [<- F] at C;have ho:m<18446744073709551616:=O
     have HM:=ab F;clear h u l n z a d F;go_wp2;go_roundw
     case rel=>exact ⟨k+1,O,zN,iO.step A hlt H o m (by rw [HM,K,EY];simp [f]) _ (by rw [mn];omega)⟩
     case measure=>simp [intOf];omega
    ·clear h u l n z a;go_wp2;go_roundw
     case rel=>exact ⟨k+1,O,zN,iO.step A hlt H o x (by rw [K];simp [List.getD,f]) _ (by rw [mn];omega)⟩
     case measure=>simp [intOf];omega
   ·obtain rfl:k=xs.length:=O
    go_wp2_with fail;obtain ⟨done,h,u,l,n,z⟩:=A.out;rw [Nat.sub_self,List.replicate_zero,List.append_nil] at l;have D:=l.ws u (by rw [h];unfold maxLen;omega);rw [h] at D;have H1:=ab h;have H5:=ab z;clear h z l u;refine (dX _ done _ D).mono ?_;rintro e w2 ⟨v',rfl,rfl,R,k2⟩;clear D;go_wp2;go_ret;refine ⟨v',rfl,?_,n,?_⟩
    ·have hlt:=bw o;have hp:=Nat.div_le_self (ai xs) (2^s);rw [H1,H5,Nat.mod_eq_of_lt O] at R;exact R
    ·intro j L;rw [k2] at L;simp [ar] at L;omega
def gQ (w wr:World) (gu gq:Nat) (us qs vs:List Nat) (j g k c d:Nat):Prop :=
 ∃ mid:List Nat,mid.length=k/\Sm mid/\bW wr gu (us.take j++mid++us.drop (j+k))/\bW wr gq qs/\w.grownBy wr none/\ai mid+g*ai (vs.take k)=ai ((us.drop j).take k)+4294967296^k*(c+d)
theorem gQ.step {g d:Nat} (h:gQ w wr gu gq us qs vs j g k c d) (n:k<vs.length) (o:j+k<us.length) (f:w.heap.size<=gu) (i:gq≠gu)
  (x e:Nat) (z:Int) (hz:z=(x:Int)) (hx:x<4294967296) (hs:x+(c+g*vs[k]) % 4294967296+d=us[j+k]+4294967296*e) :
  gQ w (wr.setCell ⟨gu,j+k,none⟩ (.int .u32 z)) gu gq us qs vs j g (k+1) ((c+g*vs[k]) / 4294967296) e:=by
 obtain ⟨a,l,q,r,s,t,m⟩:=h;refine ⟨a++[x],by simp [l],q.append (Sm.cons hx Sm.nil),?_,?_,ah t _ _ f,?_⟩
 ·have:=r.set (j+k) x;rw [iA us a j k x l o] at this;rw [hz];exact this
 ·unfold bW;rw [heap_setCell_other _ _ _ _ i];exact s
 ·rw [aO,l,au vs k n,au (us.drop j) k (by rw [List.length_drop];omega),List.getElem_drop,Nat.pow_succ];have b:=Nat.mod_add_div (c+g*vs[k]) 4294967296;generalize (c+g*vs[k]) % 4294967296=lo at hs b;generalize (c+g*vs[k]) / 4294967296=hi at b ⊢;generalize us[j+k]=u at hs ⊢;generalize vs[k]=v at b ⊢;generalize 4294967296^k=p at m ⊢;rw [Nat.mul_add g,Nat.mul_left_comm g p v];have y:p*x+p*lo+p*d=p*u+p*(4294967296*e):=by
   rw [<- Nat.mul_add,<- Nat.mul_add,<- Nat.mul_add,hs]
  have A:p*lo+p*(4294967296*hi)=p*c+p*(g*v):=by
   rw [<- Nat.mul_add,<- Nat.mul_add,b]
  rw [Nat.mul_add p c d] at m;rw [Nat.mul_assoc,Nat.mul_add 4294967296,Nat.mul_add p];omega
def cK (w wr:World) (gu gq:Nat) (vs:List Nat) (N A k:Nat) (us qs:List Nat):Prop :=
 us.length=N/\qs.length+k+vs.length=N/\Sm us/\Sm qs/\bW wr gu us/\bW wr gq (List.replicate k 0++qs)/\w.grownBy wr none/\ai (us.drop k)<ai vs /\
  A=ai (us.take k)+4294967296^k*(ai qs*ai vs+ai (us.drop k))
theorem cK.next {b:World} {N A:Nat} {a:List Nat} (h:cK w wr gu gq vs N A (j+1) us qs) (l:ai (us.drop j) / ai vs<4294967296)
  (h1:a.length=N) (h2:a.take j=us.take j) (h3:ai (a.drop j)=ai (us.drop j) % ai vs) (h4:Sm a) (a1:bW b gu a) (a2:bW b gq (List.replicate (j+1) 0++qs)) (hg:w.grownBy b none)
  (hgq:w.heap.size<=gq) (hne:gq≠gu) (z:Int) (hz:z=((ai (us.drop j) / ai vs:Nat):Int)) :
  cK w (b.setCell ⟨gq,j,none⟩ (.int .u32 z)) gu gq vs N A j a ((ai (us.drop j) / ai vs) :: qs):=by
 obtain ⟨x,y,B,t,C,E,F,G,v⟩:=h;have d:0<ai vs:=O
 refine ⟨h1,by simp;omega,h4,Sm.cons l t,?_,?_,ah hg _ _ hgq,by rw [h3];exact Nat.mod_lt _ d,?_⟩
 ·unfold bW;rw [heap_setCell_other _ _ _ _ (fun e=>hne e.symm)];exact a1
 ·have:=a2.set j (ai (us.drop j) / ai vs);rw [hz];have e:(List.replicate (j+1) 0++qs).set j (ai (us.drop j) / ai vs)=List.replicate j 0++(ai (us.drop j) / ai vs) :: qs:=by
   rw [<- List.replicate_append_replicate (n:=j) (m:=1),List.append_assoc,List.set_append_right _ _ Z];simp
  rw [e] at this;exact this
 ·have f:j<us.length:=O
  rw [v,h2,h3,au us j f,Nat.pow_succ];have g:=cN us j;have o:us.getD j 0=us[j]:=by simp [f]
  rw [o] at g;have i:=Nat.div_add_mod (ai (us.drop j)) (ai vs);show _=ai (us.take j)+4294967296^j*((ai (us.drop j) / ai vs+4294967296*ai qs)*ai vs+ai (us.drop j) % ai vs)
  generalize ai (us.drop j)=D at g i ⊢;generalize ai (us.drop (j+1))=D1 at g ⊢;generalize D / ai vs=q at i ⊢;generalize D % ai vs=r at i ⊢;generalize us[j]=u at g ⊢;generalize ai vs=V at i ⊢;generalize ai qs=Q;generalize 4294967296^j=p;have s:(q+4294967296*Q)*V+r=u+4294967296*(Q*V+D1):=by
   rw [Nat.add_mul,Nat.mul_comm q V,Nat.mul_assoc 4294967296 Q V,Nat.mul_add];omega
  rw [s,Nat.mul_add p u,Nat.mul_assoc p];omega
theorem gQ.top {g d:Nat} (h:gQ w wr gu gq us qs vs j g vs.length c d) (m:j+vs.length<us.length) (f:w.heap.size<=gu) (i:gq≠gu)
  (x e:Nat) (z:Int) (hz:z=(x:Int)) (hx:x<4294967296) (hs:x+c+d=us[j+vs.length]+4294967296*e) :
  ∃ W:List Nat,W.length=vs.length+1/\Sm W/\bW (wr.setCell ⟨gu,j+vs.length,none⟩ (.int .u32 z)) gu (us.take j++W++us.drop (j+(vs.length+1)))/\bW (wr.setCell ⟨gu,j+vs.length,none⟩ (.int .u32 z)) gq qs /\
   w.grownBy (wr.setCell ⟨gu,j+vs.length,none⟩ (.int .u32 z)) none/\ai W+g*ai vs=ai ((us.drop j).take (vs.length+1))+4294967296^(vs.length+1)*e/\W[vs.length]? = some x:=by
 obtain ⟨a,b,n,o,q,r,l⟩:=h;refine ⟨a++[x],by simp [b],n.append (Sm.cons hx Sm.nil),?_,?_,ah r _ _ f,?_,by rw [List.getElem?_append_right O];simp [b]⟩
 ·have:=o.set (j+vs.length) x;rw [iA us a j vs.length x b m] at this;rw [hz];exact this
 ·unfold bW;rw [heap_setCell_other _ _ _ _ i];exact q
 ·rw [zT (Nat.le_refl vs.length)] at l;rw [aO,b,au (us.drop j) vs.length (by rw [List.length_drop];omega),List.getElem_drop,Nat.pow_succ];generalize us[j+vs.length]=u at hs ⊢;generalize 4294967296^vs.length=p at l ⊢;have s:p*x+p*c+p*d=p*u+p*(4294967296*e):=by
   rw [<- Nat.mul_add,<- Nat.mul_add,<- Nat.mul_add,hs]
  rw [Nat.mul_add p c d] at l;rw [Nat.mul_assoc p];omega
def da (w wr:World) (gu gq:Nat) (us qs vs:List Nat) (j k c:Nat):Prop :=
 ∃ mid:List Nat,mid.length=k/\Sm mid/\bW wr gu (us.take j++mid++us.drop (j+k))/\bW wr gq qs/\w.grownBy wr none/\ai mid+4294967296^k*c=ai ((us.drop j).take k)+ai (vs.take k)
theorem da.step (h:da w wr gu gq us qs vs j k c) (f:k<vs.length) (g:j+k<us.length) (b:w.heap.size<=gu) (d:gq≠gu)
  (z:Int) (hz:z=(((c+us[j+k]+vs[k]) % 4294967296:Nat):Int)) :
  da w (wr.setCell ⟨gu,j+k,none⟩ (.int .u32 z)) gu gq us qs vs j (k+1) ((c+us[j+k]+vs[k]) / 4294967296):=by
 obtain ⟨a,e,i,l,m,n,o⟩:=h;refine ⟨a++[(c+us[j+k]+vs[k]) % 4294967296],by simp [e],i.snoc _,?_,?_,ah n _ _ b,?_⟩
 ·have:=l.set (j+k) ((c+us[j+k]+vs[k]) % 4294967296);rw [iA us a j k _ e g] at this;rw [hz];exact this
 ·unfold bW;rw [heap_setCell_other _ _ _ _ d];exact m
 ·rw [oP a k c us[j+k] vs[k] _ _ e o,au vs k f,au (us.drop j) k (by rw [List.length_drop];omega),List.getElem_drop]
theorem da.drewN (h:da w wr gu gq us qs vs j k c) (q:Nat):da w (wr.drewN q) gu gq us qs vs j k c:=by
 obtain ⟨a,b,d,e,f,g,i⟩:=h;exact ⟨a,b,d,e,f,aj g q,i⟩
theorem da.top {x R:Nat} (h:da w wr gu gq us qs vs j vs.length c) (r:j+vs.length<us.length) (g:w.heap.size<=gu) (i:gq≠gu)
  (hx:us[j+vs.length]=x) (hW:ai ((us.drop j).take (vs.length+1))+ai vs=R+4294967296^(vs.length+1)) (hR:R<4294967296^vs.length) (z:Int) (hz:z=(((x+c) % 4294967296:Nat):Int)) :
  ∃ W:List Nat,W.length=vs.length+1/\Sm W/\bW (wr.setCell ⟨gu,j+vs.length,none⟩ (.int .u32 z)) gu (us.take j++W++us.drop (j+(vs.length+1)))/\bW (wr.setCell ⟨gu,j+vs.length,none⟩ (.int .u32 z)) gq qs /\
   w.grownBy (wr.setCell ⟨gu,j+vs.length,none⟩ (.int .u32 z)) none/\ai W=R:=by
 obtain ⟨a,m,q,u,v,y,d⟩:=h;rw [zT (Nat.le_refl vs.length)] at d;rw [au (us.drop j) vs.length (by rw [List.length_drop];omega),List.getElem_drop,hx,Nat.pow_succ] at hW;have f:=bw q;rw [m] at f;have b:x+c=4294967296/\ai a=R:=by
  generalize 4294967296^vs.length=p at d hW hR f;generalize ai ((us.drop j).take vs.length)=T at d hW;generalize ai vs=V at d hW;generalize ai a=M at d f ⊢;have e:M+p*(x+c)=R+p*4294967296:=by
   rw [Nat.mul_add];omega
  have n:0<p:=O
  have s:(M+p*(x+c)) / p=x+c:=by rw [Nat.add_mul_div_left _ _ n,Nat.div_eq_of_lt f,Nat.zero_add]
  have t:(R+p*4294967296) / p=4294967296:=by rw [Nat.add_mul_div_left _ _ n,Nat.div_eq_of_lt hR,Nat.zero_add]
  have o:x+c=4294967296:=by rw [<- s,e,t]
  refine ⟨o,?_⟩;rw [o] at e;omega
 have l:(x+c) % 4294967296=0:=by rw [b.1]
 rw [l] at hz;refine ⟨a++[0],by simp [m],q.append (Sm.cons zD Sm.nil),?_,?_,ah y _ _ g,by rw [aO,Nat.mul_zero,Nat.add_zero];exact b.2⟩
 ·have:=u.set (j+vs.length) 0;rw [iA us a j vs.length 0 m r] at this;rw [hz];exact this
 ·unfold bW;rw [heap_setCell_other _ _ _ _ i];exact v
theorem cK.drewN {N A:Nat} (h:cK w wr gu gq vs N A k us qs) (q:Nat):cK w (wr.drewN q) gu gq vs N A k us qs:=by
 obtain ⟨a,b,d,e,f,g,i,l,m⟩:=h;exact ⟨a,b,d,e,f,g,aj i q,l,m⟩
theorem cK.start {al:List Nat} {N A:Nat} (h:Sm al) (r:al.length+1<=N) (i:ai al=A) (hb:A<4294967296^(N-1)) (tt:Nat) (l:1<vs.length) (m:vs.length<N) (d:vs[vs.length-1]? = some tt) (n:0<tt)
  (a1:bW wr gu (al++List.replicate (N-al.length) 0)) (a2:bW wr gq (List.replicate (N-vs.length) 0)) (hg:w.grownBy wr none) :
  cK w wr gu gq vs N A (N-vs.length) (al++List.replicate (N-al.length) 0) []:=by
 have f:(al++List.replicate (N-al.length) 0).length=N:=by simp;omega
 have g:Sm (al++List.replicate (N-al.length) 0):=h.append (Sm.replicate _);have a:ai (al++List.replicate (N-al.length) 0)=A:=by rw [bN,iM,i];simp
 have hd:=kq _ (N-vs.length) g (by rw [f];omega);have o:4294967296^(vs.length-1)<=ai vs:=by
  obtain ⟨p,q⟩:=zY d;have:=gN vs (vs.length-1) p;rw [q] at this;have b:4294967296^(vs.length-1)*1<=4294967296^(vs.length-1)*(tt+4294967296*ai (vs.drop (vs.length-1+1))):=Nat.mul_le_mul_left _ O;omega
 refine ⟨f,by simp;omega,g,Sm.nil,a1,by rw [List.append_nil];exact a2,hg,?_,?_⟩
 ·rw [<- hd,a];have:A / 4294967296^(N-vs.length)<4294967296^(vs.length-1):=by
   rw [Nat.div_lt_iff_lt_mul (Nat.pow_pos zD),<- Nat.pow_add,show vs.length-1+(N-vs.length)=N-1 from O];exact hb
  omega
 ·have e:=bN ((al++List.replicate (N-al.length) 0).take (N-vs.length)) ((al++List.replicate (N-al.length) 0).drop (N-vs.length));rw [List.take_append_drop,List.length_take,f,show min (N-vs.length) N=N-vs.length from O,a] at e;simp only [ai,Nat.zero_mul,Nat.zero_add];exact e
theorem copied {al:List Nat} {N:Nat} (h:bW wr gu (List.replicate N 0)) (hg:w.grownBy wr none) (d:w.heap.size<=gu) :
  bW (wr.setRow gu ((ak (List.replicate N 0)).toList.take 0++(ak al).toList++(ak (List.replicate N 0)).toList.drop (0+(ak al).toList.length)).toArray) gu (al++List.replicate (N-al.length) 0) /\
  w.grownBy (wr.setRow gu ((ak (List.replicate N 0)).toList.take 0++(ak al).toList++(ak (List.replicate N 0)).toList.drop (0+(ak al).toList.length)).toArray) none/\wr.grownBy (wr.setRow gu ((ak (List.replicate N 0)).toList.take 0++(ak al).toList++(ak (List.replicate N 0)).toList.drop (0+(ak al).toList.length)).toArray) (some gu):=by
 have a:wr.grownBy (wr.setRow gu ((ak (List.replicate N 0)).toList.take 0++(ak al).toList++(ak (List.replicate N 0)).toList.drop (0+(ak al).toList.length)).toArray) (some gu):=⟨rfl,rfl,rfl,by simp [World.setRow],fun k _ f=>setRow_other wr gu k _ (fun e=>f (by rw [e]))⟩;refine ⟨?_,?_,a⟩
 ·unfold bW at h ⊢;rw [setRow_heap wr gu _ _ _ _ h];have e:((ak (List.replicate N 0)).toList.take 0++(ak al).toList++(ak (List.replicate N 0)).toList.drop (0+(ak al).toList.length)).toArray=ak (al++List.replicate (N-al.length) 0):=by
   simp [ak,List.map_append]
  rw [e]
 ·exact aw (r1:=none) (r2:=some gu) hg a (fun _ _ e=>e) (fun b hb e=>by cases e;omega)
def VC (vb voff:Nat) (vs:List Nat) (wr:World):Prop:=∀ i (h:i<vs.length),wr.cell? ⟨vb,voff+i,none⟩=some (.int .u32 (vs[i]:Nat))
theorem VC.set {d b:Nat} (h:VC d b vs wr) (g i:Nat) (v:Value) (f:d≠g):VC d b vs (wr.setCell ⟨g,i,none⟩ v):=fun k l=>by
 have e:(wr.setCell ⟨g,i,none⟩ v).heap[d]? = wr.heap[d]?:=heap_setCell_other _ _ _ _ f;rw [World.cell?_of_block (w:=wr) (a:=⟨d,b+k,none⟩) e];exact h k l
theorem VC.drewN {b a:Nat} (h:VC b a vs wr) (q:Nat):VC b a vs (wr.drewN q):=h
theorem cK.kd {N A n:Nat} (h:cK w wr gu gq vs N A (j+1) us qs) (sv:Sm vs) (hn:vs.length=n+2) (a m b d e:Nat) (f:vs[n+1]? = some a) (g:vs[n]? = some m)
  (eua:us[j+(n+2)]? = some b) (eub:us[j+(n+1)]? = some d) (euc:us[j+n]? = some e) (hvt:2147483648<=a) :
  KD 4294967296 (ai (us.drop j)) (ai vs) (4294967296^n) a m (ai (vs.take n)) (b*4294967296+d) e (ai (((us.drop j).take (vs.length+1)).take n)):=by
 obtain ⟨B,C,o,D,E,F,G,u,H⟩:=h;obtain ⟨I,p⟩:=zY f;obtain ⟨J,v⟩:=zY g;obtain ⟨K,x⟩:=zY eua;obtain ⟨L,y⟩:=zY eub;obtain ⟨M,z⟩:=zY euc;have i:=mE (j:=j) sv o O u;have q:((us.drop j).take (vs.length+1)).length=n+3:=by rw [List.length_take,List.length_drop];omega
 have l:=kd_of vs ((us.drop j).take (vs.length+1)) n hn q sv ((o.drop j).take _) (by rw [p];exact hvt) (by rw [i.1];exact i.2.1);rw [i.1] at l;have r:((us.drop j).take (vs.length+1))[n+2]=b:=by rw [List.getElem_take,List.getElem_drop];exact x
 have s:((us.drop j).take (vs.length+1))[n+1]=d:=by rw [List.getElem_take,List.getElem_drop];exact y
 have t:((us.drop j).take (vs.length+1))[n]=e:=by rw [List.getElem_take,List.getElem_drop];exact z
 rw [r,s,t,p,v] at l;exact l
def cT (n:Nat):Code->Option Code
 | .block m c=>if m=n then some (.block m c) else cT n c
 | .seq a b=>match cT n a with
  | some c=>some c
  | none=>cT n b
 | .loop c=>cT n c
 | .scope c=>cT n c
 | .cond _ a b=>match cT n a with
  | some c=>some c
  | none=>cT n b
 | _=>none
theorem um (K:Act->World->Prop) (A:Exit->Act->World->Prop) (w:World) (gu N y j n U V P d e B hh i C l p:Nat)
  (kd:Hid (KD 4294967296 U V P d e B hh i C)) (hvt:d<4294967296) (hvn:e<4294967296) (huc:i<4294967296) (hcell:w.cell? ⟨gu,j+(n+2)-2,none⟩=some (.int .u32 i)) (hj:j+n+2<N) (hN:N<=10000000000000)
  (h0:Hid (l*d+p=hh/\U / V<=l)) (hg0:l<18446744073709551616) (hr0:p<4294967296)
  (c0 c1 c2 c3 c4 c5 c6 c7 c8 c9 c10 c11 c14 c15 c19 c22 c23 c24 c25 c26 c27 c28 c29 c30 c31 c32 c33 c34 c35 c36 c37 c38 c39 c40 c41 c42 c43 c44 c45 c46 c47 c48 c49 c50 c51 c52 c53 c54 c55 c56 c57 c58 c59 c60 c61 c62 c63 c64 c65 c66 c67 c68 c69 c70 c71 c72 c73 c74 c75 c76 c77 c78 c79 c80 c81 c82 c83 c84 c85 c86 c87 c88 c89 c90 c91 c92 c93 c94 c95 c96 c97 c98 c99 c100 c101 c102 c103 c104 c105 c106 c107 c108 c109 c110 c111 c112 c113 c114 c115 c116 c117 c118 c119 c120 c121 c122 c123 c124 c125 c126 c127 c128 c129 c130 c131 c132 c133 c134 c135 c136 c137 c138 c139 c140 c141 c142 c143 c144 c145 c146 c147 c148 c149 c150 c151 c152 c153 c154 c155 c156 c157 c158 c159 c160 c161 c162 c163 c164 c165 c166 c167 c168 c169 c170 c171 c172 c173 c174 c175 c176 c177 c178 c179 c180 c181 c182 c183 c184 c185 c186 c187 c188 c189 c190 c191 c192 c193 c194 c195 c196 c197 c198 c199 c200 c201 c202 c203 c204 c205 c206 c207 c208 c209 c210 c211 c212 c213 c214 c215 c216 c217 c218 c219 c220 c221 c222 c223 c224 c225 c226 c227 c228 c229 c230 c231 c232 c233 c234 c235 c236 c237 c238 c239 c240 c241 c242 c243 c244 c245 c246 c247 c248 c249 c250 c251 c252 c253 c254 c255 c256 c257 c258 c259 c260 c261 c262 c263 c264 c265 c266 c267 c268 c269 c270 c271 c272:Value)
  (hK:Hid (∀ (g:Nat) (gz:Int) (u21 u136 u137 u138 u139 u140 u141 u142 u143 u144 u145 u146 u147 u148 u149 u150 u151 u152 u153 u154 u155 u156 u157 u158 u159 u160 u161:Value),gz=(g:Int)->g<4294967296->U / V<=g->g<=U / V+1->K ⟨#[c0,c1,c2,c3,c4,c5,c6,c7,c8,c9,c10,c11,.slice (some ⟨gu,0,none⟩) N y,.int .i64 (n+2),c14,c15,.int .u64 d,.int .u64 e,.int .i64 j,c19,.int .u64 gz,u21,c22,c23,c24,c25,c26,c27,c28,c29,c30,c31,c32,c33,c34,c35,c36,c37,c38,c39,c40,c41,c42,c43,c44,c45,c46,c47,c48,c49,c50,c51,c52,c53,c54,c55,c56,c57,c58,c59,c60,c61,c62,c63,c64,c65,c66,c67,c68,c69,c70,c71,c72,c73,c74,c75,c76,c77,c78,c79,c80,c81,c82,c83,c84,c85,c86,c87,c88,c89,c90,c91,c92,c93,c94,c95,c96,c97,c98,c99,c100,c101,c102,c103,c104,c105,c106,c107,c108,c109,c110,c111,c112,c113,c114,c115,c116,c117,c118,c119,c120,c121,c122,c123,c124,c125,c126,c127,c128,c129,c130,c131,c132,c133,c134,c135,u136,u137,u138,u139,u140,u141,u142,u143,u144,u145,u146,u147,u148,u149,u150,u151,u152,u153,u154,u155,u156,u157,u158,u159,u160,u161,c162,c163,c164,c165,c166,c167,c168,c169,c170,c171,c172,c173,c174,c175,c176,c177,c178,c179,c180,c181,c182,c183,c184,c185,c186,c187,c188,c189,c190,c191,c192,c193,c194,c195,c196,c197,c198,c199,c200,c201,c202,c203,c204,c205,c206,c207,c208,c209,c210,c211,c212,c213,c214,c215,c216,c217,c218,c219,c220,c221,c222,c223,c224,c225,c226,c227,c228,c229,c230,c231,c232,c233,c234,c235,c236,c237,c238,c239,c240,c241,c242,c243,c244,c245,c246,c247,c248,c249,c250,c251,c252,c253,c254,c255,c256,c257,c258,c259,c260,c261,c262,c263,c264,c265,c266,c267,c268,c269,c270,c271,c272],[]⟩ w)) :
  Code.wp Tryz.prog ((Tryz.f171.body.bind (cT 2)).getD .skip) (Exit.then K A) ⟨#[c0,c1,c2,c3,c4,c5,c6,c7,c8,c9,c10,c11,.slice (some ⟨gu,0,none⟩) N y,.int .i64 (n+2),c14,c15,.int .u64 d,.int .u64 e,.int .i64 j,c19,.int .u64 l,.int .u64 p,c22,c23,c24,c25,c26,c27,c28,c29,c30,c31,c32,c33,c34,c35,c36,c37,c38,c39,c40,c41,c42,c43,c44,c45,c46,c47,c48,c49,c50,c51,c52,c53,c54,c55,c56,c57,c58,c59,c60,c61,c62,c63,c64,c65,c66,c67,c68,c69,c70,c71,c72,c73,c74,c75,c76,c77,c78,c79,c80,c81,c82,c83,c84,c85,c86,c87,c88,c89,c90,c91,c92,c93,c94,c95,c96,c97,c98,c99,c100,c101,c102,c103,c104,c105,c106,c107,c108,c109,c110,c111,c112,c113,c114,c115,c116,c117,c118,c119,c120,c121,c122,c123,c124,c125,c126,c127,c128,c129,c130,c131,c132,c133,c134,c135,c136,c137,c138,c139,c140,c141,c142,c143,c144,c145,c146,c147,c148,c149,c150,c151,c152,c153,c154,c155,c156,c157,c158,c159,c160,c161,c162,c163,c164,c165,c166,c167,c168,c169,c170,c171,c172,c173,c174,c175,c176,c177,c178,c179,c180,c181,c182,c183,c184,c185,c186,c187,c188,c189,c190,c191,c192,c193,c194,c195,c196,c197,c198,c199,c200,c201,c202,c203,c204,c205,c206,c207,c208,c209,c210,c211,c212,c213,c214,c215,c216,c217,c218,c219,c220,c221,c222,c223,c224,c225,c226,c227,c228,c229,c230,c231,c232,c233,c234,c235,c236,c237,c238,c239,c240,c241,c242,c243,c244,c245,c246,c247,c248,c249,c250,c251,c252,c253,c254,c255,c256,c257,c258,c259,c260,c261,c262,c263,c264,c265,c266,c267,c268,c269,c270,c271,c272],[]⟩ w:=by
 conv=>arg 2;whnf
 go_wp2;go_loop [20,21] (fun x G=>∃ g r:Nat,x=.int .u64 g/\G=.int .u64 r/\r<4294967296/\g<18446744073709551616/\Hid (g*d+r=hh/\U / V<=g)) (fun x _=>(intOf x).toNat)
 case atStart=>exact ⟨l,p,rfl,rfl,hr0,hg0,h0⟩
 case round =>
 clear h0 hg0 hr0;obtain ⟨g,r,rfl,rfl,F,hg,f⟩:=hrel;have s:=jB r i F huc;obtain ⟨m,v⟩:=eX (r*4294967296+i);rw [<- v] at s;have z:=ab v;have D:m<18446744073709551616:=O
 clear v;by_cases o:4294967296<=g
 ·have h:=ab (kd.keep f.1 (.inl o));have a:1<=g:=O
  by_cases b:r+d<4294967296
  ·go_wp2;go_round
   case rel=>exact ⟨g-1,r+d,zN,zN,b,O,bS f.1 a,by have:=h.out;omega⟩
   case measure=>simp [intOf];omega
  ·go_wp2;have hb:=kd.out.brk (bS f.1 a) (Nat.le_of_not_lt b);refine hK (g-1) _ _ _ _ _ _ _ _ _ _ _ _ _ _ _ _ _ _ _ _ _ _ _ _ _ _ _ _  ?_ hb.1 (by have:=h.out;omega) (kd.exit (bS f.1 a) hb.1 hb.2);omega
 ·have H:(g:Int)*(e:Int)<=18446744065119617025:=lA g e O hvn;have E:0<=(g:Int)*(e:Int):=Int.mul_nonneg O O;by_cases q:m<g*e
  ·have t:(m:Int)<(g:Int)*(e:Int):=by rw [<- Int.natCast_mul];omega
   have h:=ab (kd.keep f.1 (.inr (by rw [<- z];exact q)));have a:1<=g:=Nat.lt_of_le_of_lt (Nat.zero_le _) h;clear q;by_cases b:r+d<4294967296
   ·go_wp2;go_round
    case rel=>exact ⟨g-1,r+d,zN,zN,b,O,bS f.1 a,by have:=h.out;omega⟩
    case measure=>simp [intOf];omega
   ·go_wp2;have hb:=kd.out.brk (bS f.1 a) (Nat.le_of_not_lt b);refine hK (g-1) _ _ _ _ _ _ _ _ _ _ _ _ _ _ _ _ _ _ _ _ _ _ _ _ _ _ _ _  ?_ hb.1 (by have:=h.out;omega) (kd.exit (bS f.1 a) hb.1 hb.2);omega
  ·have t:¬ (m:Int)<(g:Int)*(e:Int):=by rw [<- Int.natCast_mul];omega
   have u:=ab q;clear q;go_wp2;exact hK g _ _ _ _ _ _ _ _ _ _ _ _ _ _ _ _ _ _ _ _ _ _ _ _ _ _ _ _  rfl O f.2 (kd.exit f.1 O (by have:=u.out;rw [<- z];omega))
end Go.Proofs.YtkbmbmdemajoaaaGreatDoor
