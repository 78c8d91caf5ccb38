/- Contracts. -/
import Derived.Test.YtkbmbmdemajoaaaGreatDoorXPa
import Derived.Laws.AppendOwnNone
import Derived.BigQuiet
import Derived.WalkSpells
import Derived.Test.YtkbmbmdemajoaaaGreatDoorXShelf
namespace Go.Proofs.YtkbmbmdemajoaaaGreatDoor
open Go.RowKit
set_option linter.unusedVariables false
set_option linter.unusedSimpArgs false
set_option maxHeartbeats 8000000
set_option maxRecDepth 10000
variable {w wr:World} {xs us vs:List Nat} {v:Value} {j g n gu c cap:Nat}
def lenOf:Value->Nat
 | .slice _ l _=>l
 | _=>0
theorem q8 (w:World):Calls Tryz.prog 117 #[.slice none 0 0] w fun e a=>e=.returned (.slice none 0 0)/\a=w:=by
 go_enter Tryz.func117,Tryz.ntmps117
 go_wp2;refine wp_loop_rounds 1 ?_;rw [rounds_succ];go_wp2;go_ret;exact ⟨rfl,rfl⟩
theorem pq (b off cap:Nat) (xs:List Nat) (w:World) (u:xs.length<=cap) (d:cap<=maxLen)
  (hc:∀ i (h:i<xs.length),w.cell? ⟨b,off+i,none⟩=some (.int .u32 (xs[i]:Nat))) :
  Calls Tryz.prog 117 #[.slice (some ⟨b,off,none⟩) xs.length cap] w fun e t=>e=.returned (.slice (some ⟨b,off,none⟩) (aN xs).length cap)/\t=w:=by
 unfold maxLen at d;go_enter Tryz.func117,Tryz.ntmps117
 go_wp2;go_loop [0] (fun n=>∃ k:Nat,k<=xs.length/\n=.slice (some ⟨b,off,none⟩) k cap/\aN (xs.take k)=aN xs) (fun n=>lenOf n)
 case atStart=>exact ⟨xs.length,zL,rfl,Z⟩
 case round =>
  obtain ⟨k,y,rfl,p⟩:=hrel;have l:Hid (aN (xs.take k)=aN xs):=p;clear p;by_cases r:k=0
  ·subst r;go_wp2;go_ret;refine ⟨?_,rfl⟩;rw [<- l];rfl
  ·obtain ⟨j,rfl⟩:∃ j,k=j+1:=⟨k-1,O⟩;have o:=hc j O;have f:j<xs.length:=O
   by_cases a:xs[j]=0
   ·have m:Hid (xs[j]=0):=a;rw [a] at o;clear a hc;go_wp2;go_round
    case rel=>exact ⟨j,O,Z,by rw [<- l,jN xs j f m]⟩
    case measure=>simp [lenOf]
   ·have m:Hid (xs[j]≠0):=a;obtain ⟨x,q⟩:=eX (xs[j]);rw [<- q] at o a;have s:(((x:Nat):Int)==0)=false:=zB O;clear q a hc;go_wp2;go_ret;refine ⟨?_,rfl⟩;rw [<- l,kp xs j f m];simp;omega
theorem CG (v:Value) (xs:List Nat) (w:World) (h:Ws w v xs) :
  Calls Tryz.prog 117 #[v] w fun e w'=>∃ v',e=.returned v'/\w'=w/\Ws w v' (aN xs)/\ar v'=ar v:=by
 rcases h.sh with ⟨rfl,rfl⟩ | ⟨b,off,cap,rfl,hb,a,d,hc⟩
 ·refine (q8 w).mono ?_;rintro e w' ⟨rfl,rfl⟩;exact ⟨_,rfl,rfl,Ws.nil _,rfl⟩
 ·refine (pq b off cap xs w a d hc).mono ?_;rintro e w' ⟨rfl,rfl⟩;refine ⟨_,rfl,rfl,⟨h.sm.trimL,.inr ⟨b,off,cap,rfl,hb,Nat.le_trans (aU xs) a,d,?_⟩⟩,rfl⟩;intro i hi;have:=aU xs;rw [hc i O,kL xs i hi]
theorem fE (v:Value) (xs:List Nat) (w:World) (h:Ws w v xs) :
  Calls Tryz.prog 117 #[v] w fun e w'=>∃ v',e=.returned v'/\w'=w/\aQ w v' (ai xs) xs.length/\ar v'=ar v:=by
 refine (CG v xs w h).mono ?_;rintro e w' ⟨v',rfl,rfl,a,b⟩;exact ⟨v',rfl,rfl,⟨_,a,Tr.trimL _,eW _,aU _⟩,b⟩
theorem qY (f:Value) (xs:List Nat) (w:World) (ha:Ws w f xs) :
  Calls Tryz.prog 153 #[f] w fun e i=>e=.returned (.bool (xs==[1]))/\i=w:=by
 obtain ⟨k,l,rfl,d,h,a⟩:=ha.open;clear ha;match xs,a with
 | [],_ =>
  go_enter Tryz.func153,Tryz.ntmps153
  go_wp2;go_ret;exact ⟨rfl,rfl⟩
 | [x],a =>
  obtain ⟨b,off,rfl,hb,hc⟩:=a 0 Z;simp only [Nat.add_zero,List.getElem_cons_zero] at hc;clear a;go_enter Tryz.func153,Tryz.ntmps153
  go_wp2;go_ret;refine ⟨?_,rfl⟩;show Ending.returned (.bool ((x:Int)==1))=_
  congr 2
  rw [Bool.eq_iff_iff];simp;omega
 | x :: y :: r,_ =>
  have hb:((((x :: y :: r).length:Nat):Int)==1)=false:=zB (by simp;omega);generalize hn:(x :: y :: r).length=n at hb d ⊢;go_enter Tryz.func153,Tryz.ntmps153
  go_wp2;go_ret;exact ⟨Z,rfl⟩
def jT (d:Int):Int:=if d<0 then -1 else if 0<d then 1 else 0
theorem lV (d:Int) (w:World) :
  Calls Tryz.prog 74 #[.int .i64 d] w fun e a=>e=.returned (.int .i64 (jT d))/\a=w:=by
 rcases Int.lt_trichotomy d 0 with h | h | h
 ·go_enter Tryz.func74,Tryz.ntmps74
  go_wp2;go_ret;exact ⟨by simp [jT,h],rfl⟩
 ·subst h;go_enter Tryz.func74,Tryz.ntmps74
  go_wp2;go_ret;exact ⟨by simp [jT],rfl⟩
 ·go_enter Tryz.func74,Tryz.ntmps74
  go_wp2;go_ret;exact ⟨by simp [jT,h];omega,rfl⟩
theorem fU (H I:Value) (xs ys:List Nat) (w:World) (ha:Ws w H xs) (hb:Ws w I ys) (J:Tr xs) (K:Tr ys) :
  Calls Tryz.prog 75 #[H,I] w fun e w'=>e=.returned (.int .i64 (gG (ai xs) (ai ys)))/\∃ q,w'=w.drewN q:=by
 obtain ⟨ao,ca,rfl,hj,o,Q⟩:=ha.open;obtain ⟨bo,cb,rfl,hk,p,R⟩:=hb.open;unfold maxLen at o p;have U:=ab Q;have V:=ab R;have L:=ab ha.sm;have M:=ab hb.sm;have W:=ab J;have X:=ab K;clear Q R ha hb J K;by_cases r:xs.length=ys.length
 ·have t:(((xs.length:Nat):Int) != ((ys.length:Nat):Int))=false:=by rw [bne_eq_false_iff_eq];omega
  have HL:=ab r;have Y:xs.length<=ys.length:=O
  have he:ys.length<=xs.length:=O
  clear r;go_enter Tryz.func75,Tryz.ntmps75
  go_wp2;go_loopw [5] (fun i wr=>∃ (z:Int) (q:Nat),-1<=z/\z<xs.length/\i=.int .i64 z/\wr=w.drewN q/\Hid (xs.drop (z+1).toNat=ys.drop (z+1).toNat)) (fun i _=>(intOf i+1).toNat)
  case atStart=>exact ⟨(xs.length:Int)-1,0,O,O,rfl,rfl,by rw [List.drop_of_length_le O,List.drop_of_length_le O];rfl⟩
  case round =>
   obtain ⟨z,q,hm,ho,rfl,rfl,F⟩:=hrel;by_cases h0:z<0
   ·go_wp2;go_ret;refine ⟨?_,q,rfl⟩;have:=F.out;rw [show (z+1).toNat=0 from O] at this;simp only [List.drop_zero] at this;rw [this,sX];rfl
   ·obtain ⟨j,rfl⟩:∃ j:Nat,z=j:=⟨z.toNat,O⟩;have d:j<xs.length:=O
    have f:j<ys.length:=O
    obtain ⟨b,off,rfl,hp,m⟩:=aF U j d;obtain ⟨b2,S,rfl,T,k⟩:=aF V j f;obtain ⟨x,ex⟩:=eX (xs[j]);obtain ⟨y,G⟩:=eX (ys[j]);rw [<- ex] at m;rw [<- G] at k;have u:=ab ex;have A:=ab G;clear ex G;have l:=F.out;rw [show ((j:Int)+1).toNat=j+1 from O] at l;have B:=ab l;clear l F;rcases Nat.lt_trichotomy x y with a | a | a
    ·go_wp2;go_quiet (fail)
     go_wp2;go_ret;refine ⟨?_,_,by simp only [World.drewN_drewN];rfl⟩;rw [pG (fQ xs ys j d f L B (by rw [<- u,<- A];exact a))];rfl
    ·have C:=ab a;have N:x<=y:=O
     have P:y<=x:=O
     clear a;go_wp2;go_quiet (fail)
     go_wp2;go_quiet (fail)
     go_wp2;go_roundw
     case rel=>exact ⟨(j:Int)-1,_,O,O,zN,by first | rfl | (simp only [World.drewN_drewN];rfl),by
      rw [show ((j:Int)-1+1).toNat=j from O,List.drop_eq_getElem_cons d,List.drop_eq_getElem_cons f,B,<- u,<- A,C];rfl⟩
     case measure=>simp [intOf]
    ·have hf:¬ ((x:Nat):Int)<((y:Nat):Int):=O
     go_wp2;go_quiet (fail)
     go_wp2;go_quiet (fail)
     go_wp2;go_ret;refine ⟨?_,_,by simp only [World.drewN_drewN];rfl⟩;rw [pF (fQ ys xs j f d M B.symm (by rw [<- u,<- A];exact a))];rfl
 ·have t:(((xs.length:Nat):Int) != ((ys.length:Nat):Int))=true:=by rw [bne_iff_ne];omega
  have E:Hid (jT ((xs.length:Int)-(ys.length:Int))=gG (ai xs) (ai ys)):=by
   rcases Nat.lt_or_ge xs.length ys.length with h | h
   ·show _=_
    rw [pG (cC L X h)];unfold jT;rw [if_pos O]
   ·show _=_
    rw [pF (cC M W O)];unfold jT;rw [if_neg O,if_pos O]
  clear r;go_enter Tryz.func75,Tryz.ntmps75
  go_wp2_with fail;refine (lV _ _).mono ?_;rintro e w1 ⟨rfl,rfl⟩;have D:=E.out;generalize jT ((xs.length:Int)-(ys.length:Int))=s at D ⊢;have E3:=ab D;clear E D;go_wp2;go_ret;exact ⟨by rw [E3];rfl,0,rfl⟩
theorem jt (a b:Value) (m n L M:Nat) (w:World) (ha:aQ w a m L) (hb:aQ w b n M) :
  Calls Tryz.prog 75 #[a,b] w fun e o=>e=.returned (.int .i64 (gG m n))/\∃ q,o=w.drewN q:=by
 obtain ⟨xs,d,f,h,p⟩:=ha;obtain ⟨ys,i,k,l,r⟩:=hb;rw [<- h,<- l];exact fU a b xs ys w d i f k
def gE (w:World) (base:Nat) (v:Value) (xs:List Nat):Prop:=w.ownsRow base 140 1 v xs.length (ak xs).toList
theorem oh (w:World) (base:Nat):gE w base (.slice none 0 0) []:=World.ownsRow_nil _ _ _ _
theorem jH {a:Array Value} (h:a.toList.take (xs.length*1)=(ak xs).toList) (i:Nat) (hi:i<xs.length):a[i]? = some (.int .u32 (xs[i]:Nat)):=by
 have b:(a.toList.take (xs.length*1))[i]? = (ak xs).toList[i]?:=by rw [h]
 rw [List.getElem?_take,if_pos O] at b;simpa [ak,hi] using b
theorem gE.ws {base:Nat} (h:gE w base v xs) (a:Sm xs):Ws w v xs:=by
 refine ⟨a,?_⟩;rcases h.2 with ⟨rfl,b⟩ | ⟨g,cap,d,rfl,hb,hh,e,f,l,k⟩
 ·exact .inl ⟨rfl,List.eq_nil_of_length_eq_zero b⟩
 ·refine .inr ⟨g,0,cap,rfl,(zZ hh).1,e,f,fun i hi=>?_⟩;rw [Nat.zero_add];simp only [World.cell?,hh];exact jH k i hi
theorem gE.fresh {base:Nat} (h:gE w base v xs):∀ k,ar v=some k->base<=k/\k<w.heap.size:=by
 intro k a;rcases h.2 with ⟨rfl,d⟩ | ⟨g,cap,b,rfl,hb,hh,e,f,i,l⟩
 ·simp [ar] at a
 ·simp [ar] at a;subst a;exact ⟨hb,(zZ hh).1⟩
theorem gE.open {base:Nat} (h:gE w base v xs):∃ ao cap,v=.slice ao xs.length cap/\xs.length<=cap/\cap<=maxLen /\
  (ao=none∨∃ g,ao=some ⟨g,0,none⟩/\base<=g/\g<w.heap.size):=by
 rcases h.2 with ⟨rfl,a⟩ | ⟨g,cap,b,rfl,hb,hh,d,e,f,i⟩
 ·exact ⟨none,0,by rw [a],O,by unfold maxLen;omega,.inl rfl⟩
 ·exact ⟨_,cap,rfl,d,e,.inr ⟨g,rfl,hb,(zZ hh).1⟩⟩
theorem gE.at {base:Nat} (h:gE w base (.slice (some ⟨g,0,none⟩) xs.length cap) xs) (i:Nat) (hi:i<xs.length) :
  w.cell? ⟨g,i,none⟩=some (.int .u32 (xs[i]:Nat))/\w.frozen? ⟨g,i,none⟩=false /\
   ∀ (x:Nat) (z:Int),z=(x:Int)->gE (w.setCell ⟨g,i,none⟩ (.int .u32 z)) base (.slice (some ⟨g,0,none⟩) xs.length cap) (xs.set i x):=by
 rcases h.2 with ⟨a,_⟩ | ⟨o,d,b,a,hb,hh,k,l,m,e⟩
 ·simp at a
 ·simp only [Value.slice.injEq,zI,Addr.mk.injEq,and_true,true_and] at a;obtain ⟨rfl,rfl⟩:=a;refine ⟨?_,?_,?_⟩
  ·simp only [World.cell?,hh];exact jH e i hi
  ·simp [World.frozen?,hh]
  ·intro x z f;refine ⟨by simp [ak],.inr ⟨g,cap,b.setIfInBounds i (.int .u32 z),Z,hb,?_,by simpa using k,l,by simpa using m,?_⟩⟩
   ·rw [heap_setCell_same w g i _ _ _ hh]
   ·subst f;rw [Array.toList_setIfInBounds,List.length_set,List.take_set,e];simp [ak,List.map_set]
theorem gE.keep {b:World} {base:Nat} {row:Option Nat} (h:gE w base v xs) (hg:w.grownBy b row) (a:∀ k,row=some k->ar v≠some k):gE b base v xs:=by
 refine World.ownsRow.kept h hg ?_;cases row with
 | none=>cases hv:v.ownBlock<;>simp
 | some k =>
  right
  intro e;refine a k rfl ?_;rw [<- e];cases v<;>rfl
theorem gE.keep0 {a:World} {base:Nat} (h:gE w base v xs) (hg:w.grownBy a none):gE a base v xs:=h.keep hg nofun
theorem gE.base {base base':Nat} (h:gE w base v xs) (hb:∀ k,ar v=some k->base'<=k):gE w base' v xs:=by
 refine ⟨h.1,?_⟩;rcases h.2 with b | ⟨g,cap,a,rfl,l,hh,d,e,f,i⟩
 ·exact .inl b
 ·exact .inr ⟨g,cap,a,rfl,hb g rfl,hh,d,e,f,i⟩
theorem bW.own {base:Nat} (h:bW w g xs) (hb:base<=g) (a:xs.length<=maxLen):gE w base (.slice (some ⟨g,0,none⟩) xs.length xs.length) xs :=
 ⟨by simp [ak],.inr ⟨g,xs.length,ak xs,rfl,hb,h,zL,a,by simp [ak],zT (by simp [ak])⟩⟩
theorem nC (v:Value):v.ownBlock=ar v:=by cases v<;>rfl
theorem jw {w1:World} {r:Option Nat} (h:w.grownBy w1 r) (g i:Nat) (v:Value) (a:r=some g):w.grownBy (w1.setCell ⟨g,i,none⟩ v) r :=
 aw (r2:=some g) h ⟨rfl,rfl,rfl,Z,fun k _ a=>heap_setCell_other _ _ _ _ (fun e=>a (by rw [e]))⟩ (fun _ _ e=>e) (fun b hb e=>by rw [a];exact e)
theorem EC {ys:List Nat} (d:Sm ys) (h:ys≠[]->4294967296^(ys.length-1)<=ai ys):Tr ys:=by
 by_cases hy:ys=[]
 ·subst hy;rfl
 ·have e:=h hy;have f:=eW ys;have b:=bw d.trimL;have l:=aU ys;rw [f] at b;have m:ys.length-1<(aN ys).length:=(Nat.pow_lt_pow_iff_right (a:=4294967296) zD).1 (Nat.lt_of_le_of_lt e b);have o:0<ys.length:=List.length_pos_iff.2 hy;have k:(aN ys).length=ys.length:=O
  unfold Tr;apply List.ext_getElem k;intro i hi _;exact kL ys i hi
def gP (w:World) (base:Nat) (v:Value) (n L:Nat):Prop:=∃ xs,gE w base v xs/\Sm xs/\Tr xs/\ai xs=n/\xs.length<=L
theorem gP.num {base:Nat} {L:Nat} (h:gP w base v n L):aQ w v n L:=by
 obtain ⟨xs,a,b,d,e,f⟩:=h;exact ⟨xs,a.ws b,d,e,f⟩
theorem gP.mono {base:Nat} {L L':Nat} (h:gP w base v n L) (a:L<=L'):gP w base v n L':=by
 obtain ⟨xs,b,d,e,f,i⟩:=h;exact ⟨xs,b,d,e,f,Nat.le_trans i a⟩
theorem gP.keep0 {a:World} {base:Nat} {L:Nat} (h:gP w base v n L) (hg:w.grownBy a none):gP a base v n L:=by
 obtain ⟨xs,b,d,e,f,i⟩:=h;exact ⟨xs,b.keep0 hg,d,e,f,i⟩
theorem gP.fresh {base:Nat} {L:Nat} (h:gP w base v n L):∀ k,ar v=some k->base<=k/\k<w.heap.size:=by
 obtain ⟨xs,a,b,d,e,f⟩:=h;exact a.fresh
theorem gP.base {base base':Nat} {L:Nat} (h:gP w base v n L) (hb:base'<=base):gP w base' v n L:=by
 obtain ⟨xs,a,b,d,e,f⟩:=h;exact ⟨xs,a.base (fun k i=>Nat.le_trans hb (a.fresh k i).1),b,d,e,f⟩
def nT (w wr:World) (base g cap:Nat) (xs:List Nat) (b m i c:Nat):Prop :=
 ∃ mid:List Nat,mid.length=i/\Sm mid/\gE wr base (.slice (some ⟨g,0,none⟩) xs.length cap) (mid++xs.drop i)/\w.grownBy wr (some g)/\ai mid+4294967296^i*c=ai (xs.take i)*b+m
theorem nT.at {base:Nat} {b m i:Nat} (h:nT w wr base g cap xs b m i c) (hi:i<xs.length) :
  wr.cell? ⟨g,i,none⟩=some (.int .u32 (xs[i]:Nat))/\wr.frozen? ⟨g,i,none⟩=false /\
   ∀ (x:Nat) (z:Int),x=xs[i]->z=(((c+x*b) % 4294967296:Nat):Int)->nT w (wr.setCell ⟨g,i,none⟩ (.int .u32 z)) base g cap xs b m (i+1) ((c+x*b) / 4294967296):=by
 obtain ⟨a,d,q,l,r,s⟩:=h;have f:(a++xs.drop i).length=xs.length:=by simp [d];omega
 rw [<- f] at l;obtain ⟨o,t,u⟩:=l.at i (by rw [f];exact hi);have e:(a++xs.drop i)[i]'(by rw [f];exact hi)=xs[i]:=by
  rw [List.getElem_append_right O];simp [d]
 rw [e] at o;refine ⟨o,t,fun x z y A=>?_⟩;have k:=u _ z A;have p:(a++xs.drop i).set i ((c+x*b) % 4294967296)=(a++[(c+x*b) % 4294967296])++xs.drop (i+1):=by
  rw [List.set_append_right _ _ O,d,Nat.sub_self,List.drop_eq_getElem_cons hi,List.set_cons_zero,List.append_assoc];rfl
 rw [p,f] at k;refine ⟨a++[(c+x*b) % 4294967296],by simp [d],q.snoc _,k,jw r g i _ rfl,?_⟩;rw [aO,d,Nat.pow_succ,Nat.add_assoc,fC,Nat.mul_add,<- Nat.add_assoc,s,au xs i hi,<- y,Nat.add_mul,Nat.mul_assoc];omega
theorem Aw (x y c:Nat):(((c:Int)+(x:Int)*(y:Int)) / 4294967296)=(((c+x*y) / 4294967296:Nat):Int):=by
 rw [Int.natCast_ediv,Int.natCast_add,Int.natCast_mul];rfl
theorem xi (x y c:Nat):(((c:Int)+(x:Int)*(y:Int)) % 4294967296)=(((c+x*y) % 4294967296:Nat):Int):=by
 rw [Int.natCast_emod,Int.natCast_add,Int.natCast_mul];rfl
def Grown (w:World) (base:Nat) (v:Value) (xs:List Nat) (b m:Nat) (v':Value) (w':World):Prop :=
 ∃ ys,gE w' base v' ys/\Sm ys/\ai ys=ai xs*b+m/\ys.length<=xs.length+1/\w.grownBy w' (ar v)/\(Tr xs->0<b->Tr ys)
theorem Ax {a:List Nat} {b m:Nat} (f:a.length=xs.length) (i:Sm a) (h:ai a=ai xs*b+m) (k:Tr xs) (hb:0<b):Tr a:=by
 refine EC i fun d=>?_
 have l:xs≠[]:=by
  intro e;subst e;exact d (List.eq_nil_of_length_eq_zero f)
 have o:=jh k l;rw [f,h];have:ai xs*1<=ai xs*b:=Nat.mul_le_mul_left _ hb;omega
theorem gE.alloc {base:Nat} (h:gE w base v xs) (o:Obj):gE (w.alloc o) base v xs:=World.ownsRow.alloc h o
theorem CL (v:Value) (xs:List Nat) (b m:Nat) (w:World) (base:Nat) (h:gE w base v xs) (Y:Sm xs) (hb:b<4294967296) (hm:m<4294967296) (hl:xs.length<=10000000000000) (I:base<=w.heap.size) :
  Calls Tryz.prog 147 #[v,.int .u32 (b:Nat),.int .u32 (m:Nat)] w fun e w'=>∃ v',e=.returned v'/\Grown w base v xs b m v' w':=by
 obtain ⟨i0,Q,R,S,T⟩:=info_parts Tryz.info32;obtain ⟨o,cap,ev,ho,U,A⟩:=h.open;unfold maxLen at U;have J:=ab Y;have l:=ab A;have G:=ab h;subst ev;clear h Y A;go_enter Tryz.func147,Tryz.ntmps147
 go_wp2;go_loopw [7,14] (fun cv iv wr=>∃ i c:Nat,i<=xs.length/\c<4294967296/\iv=.int .i64 i/\cv=.int .u64 c/\Hid (∃ mid:List Nat,mid.length=i/\Sm mid/\gE wr base (.slice o xs.length cap) (mid++xs.drop i)/\w.grownBy wr (ar (.slice o xs.length cap))/\ai mid+4294967296^i*c=ai (xs.take i)*b+m)) (fun _ iv _=>xs.length-(intOf iv).toNat)
 case atStart=>exact ⟨0,m,O,hm,rfl,rfl,[],rfl,Sm.nil,G,ae _ _,by simp [ai]⟩
 case round =>
  obtain ⟨i,c,hi,hc,rfl,rfl,B⟩:=hrel;by_cases hlt:i<xs.length
  ·obtain ⟨g,rfl,hq,hr⟩:∃ g,o=some ⟨g,0,none⟩/\base<=g/\g<w.heap.size:=by
    rcases l.out with e | e
    ·exfalso
     subst e;rcases G.out.2 with ⟨_,e2⟩ | ⟨g,a,V,e2,_⟩
     ·omega
     ·simp at e2
    ·exact e
   obtain ⟨W,hv,f⟩:=nT.at (w:=w) (wr:=wr) (base:=base) (g:=g) (cap:=cap) (xs:=xs) (b:=b) (m:=m) (i:=i) (c:=c) B hlt;have hx:=J.out.get i hlt;obtain ⟨x,ex⟩:=eX (xs[i]);rw [<- ex] at W hx;have K:=ab (f x);have EX:=ab ex;have hp:=lA x b hx hb;have hk:0<=(x:Int)*(b:Int):=Int.mul_nonneg O O;clear f ex B l;go_wp2;go_roundw
   case rel =>
    refine ⟨i+1,(c+x*b) / 4294967296,O,?_,zN,by rw [Aw],K _ EX (by rw [xi])⟩;have:x*b<=4294967295*4294967295:=Nat.mul_le_mul O O;omega
   case measure=>simp [intOf];omega
  ·obtain rfl:i=xs.length:=O
   obtain ⟨mid,h1,C,D,E,p⟩:=B.out;rw [List.drop_of_length_le zL,List.append_nil] at D;rw [zT zL] at p;by_cases r:c=0
   ·subst r;rw [Nat.mul_zero,Nat.add_zero] at p;have HE:Hid (Grown w base (.slice o xs.length cap) xs b m (.slice o xs.length cap) wr):=⟨mid,D,C,p,O,E,fun tx X=>Ax h1 C p tx X⟩;clear h1 C D E p B l G J;go_wp2;go_ret;exact ⟨_,rfl,HE⟩
   ·have s:1<=c:=O
    obtain ⟨k,q⟩:∃ z:Int,z=(c:Int):=⟨_,rfl⟩;have he:0<k:=O
    have hf:k<4294967296:=O
    simp only [<- q];have L:=ab q;clear q s hc;have H:=ab h1;have H2:=ab C;have H3:=ab D;have H4:=ab E;have H5:=ab p;have M:=ab E.size;clear h1 C D E p B l G J r;go_wp2_with (at_builtin;refine wpList_append_own _ rfl _ _ 79 rfl base 140 i0 (.int .u32 0) 1 4 Tryz.underlying79 Q R S T rfl zD _ xs.length (ak mid).toList rfl ?c0 ⟨wr.heap.size,0,none⟩ 1 1 [.int .u32 k] rfl rfl ?c1 ?c2 ?c3 ?c4 ?c5 ?_)
    case c0 =>
     have:=H3.out.alloc (Obj.cells #[Value.int IntKind.u32 k] 140);unfold gE at this;rw [H] at this;exact this
    case c1 =>
     intro j u P;match j with
     | 0 =>
      simp only [List.getElem?_cons_zero,zI] at P;subst P;simp [Addr.add]
     | j+1=>simp at P
    case c2 =>
     intro u hu;simp only [List.mem_singleton] at hu;subst hu;rfl
    case c3=>unfold maxLen;omega
    case c4=>omega
    case c5 =>
     have:=M.out;simp;omega
    intro v' w2 d t y;have HW:=ab d;have N:=ab t;obtain ⟨F,a,rfl⟩:∃ F a,v'=.slice F (xs.length+1) a:=by
     rcases d.2 with ⟨_,e⟩ | ⟨g,a,V,rfl,_⟩
     ·omega
     ·exact ⟨_,_,rfl⟩
    clear d t y;go_wp2;go_ret;refine ⟨_,rfl,mid++[k.toNat],?_,H2.append (Sm.cons O Sm.nil),?_,by simp [H.out],?_,fun _ _=>kn _ _ O⟩
    ·have h1:=HW.out;have e1:(ak mid).toList++[Value.int IntKind.u32 k]=(ak (mid++[k.toNat])).toList:=by
      have e2:k=((k.toNat:Nat):Int):=O
      rw [e2];simp [ak]
     rw [e1] at h1;unfold gE;rw [List.length_append,H];exact h1
    ·rw [aO,H,<- H5];have e2:c=k.toNat:=by have:=L.out;omega
     rw [e2]
    ·refine aw (r1:=ar (.slice o xs.length cap)) (r2:=ar (.slice o xs.length cap)) H4 ?_ (fun _ _ e=>e) (fun _ _ e=>e);have:=N.out;rw [nC] at this;exact aw (r1:=none) (World.grownBy_alloc wr _ none) this nofun (fun _ _ e=>e)
def kt (w wr:World) (base:Nat) (v:Value) (xs:List Nat) (d k r:Nat):Prop :=
 ∃ qs:List Nat,qs.length=xs.length-k/\Sm qs/\gE wr base v (xs.take k++qs)/\w.grownBy wr (ar v)/\ai (xs.drop k)=ai qs*d+r
theorem kt.at {base:Nat} {d r:Nat} (h:kt w wr base (.slice (some ⟨g,0,none⟩) xs.length cap) xs d (j+1) r) (a:j<xs.length) (hd:r<d) (q:d<4294967296) (s:Sm xs) :
  wr.cell? ⟨g,j,none⟩=some (.int .u32 (xs[j]:Nat))/\wr.frozen? ⟨g,j,none⟩=false /\
   ∀ (x:Nat) (z:Int),x=xs[j]->z=(((r*4294967296+x) / d:Nat):Int)->kt w (wr.setCell ⟨g,j,none⟩ (.int .u32 z)) base (.slice (some ⟨g,0,none⟩) xs.length cap) xs d j ((r*4294967296+x) % d):=by
 obtain ⟨qs,l,A,m,B,C⟩:=h;have b:(xs.take (j+1)++qs).length=xs.length:=by rw [List.length_append,List.length_take,l];omega
 have i:(xs.take j).length=j:=by rw [List.length_take];omega
 rw [jI xs j a] at m b;have f:=m;rw [<- b] at f;obtain ⟨o,D,E⟩:=f.at j (by rw [b];exact a);have e:(xs.take j++[xs[j]]++qs)[j]'(by rw [b];exact a)=xs[j]:=by
  rw [List.getElem_append_left (by rw [List.length_append,i];simp),List.getElem_append_right O];simp [i]
 rw [e] at o;refine ⟨o,D,fun x z p F=>?_⟩;have k:=E _ z F;have t:x<4294967296:=by rw [p];exact s.get j a
 have u:(r*4294967296+x) / d<4294967296:=by
  rw [Nat.div_lt_iff_lt_mul O];have:(r+1)*4294967296<=d*4294967296:=Nat.mul_le_mul_right _ O;rw [Nat.mul_comm 4294967296 d];omega
 have y:(xs.take j++[xs[j]]++qs).set j ((r*4294967296+x) / d)=xs.take j++((r*4294967296+x) / d) :: qs:=by
  rw [List.append_assoc,List.set_append_right _ _ O,i,Nat.sub_self];rfl
 rw [y,b] at k;refine ⟨((r*4294967296+x) / d) :: qs,by simp [l];omega,Sm.cons u A,k,jw B g j _ rfl,?_⟩;rw [List.drop_eq_getElem_cons a,<- p];simp only [ai,C];have e:=Nat.div_add_mod (r*4294967296+x) d;rw [Nat.add_mul,Nat.mul_add,Nat.mul_assoc,Nat.mul_comm ((r*4294967296+x) / d) d];omega
theorem ky (v:Value) (xs:List Nat) (w:World) (base:Nat) (h:gE w base v xs) (o:Sm xs) :
  Calls Tryz.prog 117 #[v] w fun e w'=>∃ v',e=.returned v'/\w'=w/\gE w base v' (aN xs)/\ar v'=ar v:=by
 rcases h.2 with ⟨rfl,k⟩ | ⟨g,cap,b,rfl,hb,hh,l,d,m,f⟩
 ·have:xs=[]:=List.eq_nil_of_length_eq_zero k;subst this;refine (q8 w).mono ?_;rintro e w' ⟨rfl,rfl⟩;exact ⟨_,rfl,rfl,oh _ _,rfl⟩
 ·refine (pq g 0 cap xs w l d ?_).mono ?_
  ·intro i hi;rw [Nat.zero_add];simp only [World.cell?,hh];exact jH f i hi
  ·rintro e w' ⟨rfl,rfl⟩;have p:=aU xs;refine ⟨_,rfl,rfl,⟨by simp [ak],.inr ⟨g,cap,b,rfl,hb,hh,O,d,m,?_⟩⟩,rfl⟩;apply List.ext_getElem?
   intro i;rw [List.getElem?_take];split
   ·rename_i hi;have a:i<(aN xs).length:=O
    have:=jH f i O;rw [Array.getElem?_toList,this];simp [ak,a,kL xs i a]
   ·rename_i hi;rw [List.getElem?_eq_none];simp [ak];omega
theorem Au (x:Nat) (w:World) (a:x<4294967296) :
  Calls Tryz.prog 173 #[.int .u32 x] w fun e d=>∃ v',e=.returned v'/\gP d w.heap.size v' x 1/\w.grownBy d none:=by
 go_enter Tryz.func173,Tryz.ntmps173
 go_wp2_with fail;have ha:bW (w.alloc (Obj.cells #[Value.int IntKind.u32 (x:Int)] 140)) w.heap.size [x]:=by
  unfold bW;show (w.heap.push _)[w.heap.size]? = _
  rw [Array.getElem?_push_size];rfl
 have b:=ha.own (base:=w.heap.size) zL (by unfold maxLen;simp);clear ha;refine (ky _ [x] _ w.heap.size b (Sm.cons a Sm.nil)).mono ?_;rintro e w1 ⟨v',rfl,rfl,f,h⟩;clear b;go_wp2;go_ret;refine ⟨v',rfl,⟨_,f,(Sm.cons a Sm.nil).trimL,Tr.trimL _,?_,aU _⟩,ag (ae _ _) _⟩;rw [eW];simp only [ai];omega
def BH (w:World) (base:Nat) (v:Value) (xs:List Nat) (d:Nat) (v':Value) (w':World):Prop :=
 ∃ ys,gE w' base v' ys/\Sm ys/\Tr ys/\ai ys=ai xs / d/\ys.length<=xs.length/\w.grownBy w' (ar v)/\ar v'=ar v
theorem pZ (v:Value) (xs:List Nat) (d:Nat) (w:World) (base:Nat) (h:gE w base v xs) (G:Sm xs) (i:0<d) (hd:d<4294967296) (hl:xs.length<=10000000000000) :
  Calls Tryz.prog 119 #[v,.int .u32 (d:Nat)] w fun e w'=>∃ v' r,e=.returned (.tuple #[v',.int .u32 (r:Nat)])/\r=ai xs % d/\BH w base v xs d v' w':=by
 obtain ⟨M,cap,ev,hf,C,l⟩:=h.open;unfold maxLen at C;have H:=ab G;have b:=ab l;have o:=ab h;subst ev;clear h G l;go_enter Tryz.func119,Tryz.ntmps119
 go_wp2;go_loopw [6,7] (fun rv iv wr=>∃ (z:Int) (r:Nat),-1<=z/\z<xs.length/\r<d/\iv=.int .i64 z/\rv=.int .u64 r/\Hid (kt w wr base (.slice M xs.length cap) xs d (z+1).toNat r)) (fun _ iv _=>(intOf iv+1).toNat)
 case atStart=>exact ⟨(xs.length:Int)-1,0,O,O,O,rfl,rfl,[],Z,Sm.nil,by
  rw [show ((xs.length:Int)-1+1).toNat=xs.length from O,List.append_nil,zT zL];exact o,ae _ _,by
  rw [List.drop_of_length_le O];simp [ai]⟩
 case round =>
  obtain ⟨z,r,hj,hk,D,rfl,rfl,s⟩:=hrel;by_cases h0:z<0
  ·obtain ⟨qs,t,N,u,P,y⟩:=s.out;rw [show (z+1).toNat=0 from O] at t u y;simp only [List.take_zero,List.nil_append,Nat.sub_zero,List.drop_zero] at t u y;have U:=ab t;have I:=ab N;have V:=ab u;have W:=ab P;have J:=ab y;clear t N u P y s o b;go_wp2_with fail;refine (ky _ qs _ base V I).mono ?_;rintro e w2 ⟨v',rfl,rfl,Q,R⟩;have X:=ab Q;have Y:=ab R;clear Q R;go_wp2;go_ret2
   refine ⟨v',r,rfl,?_,aN qs,X,I.out.trimL,Tr.trimL _,?_,?_,W,Y⟩
   ·rw [J,Nat.mul_comm,Nat.mul_add_mod,Nat.mod_eq_of_lt D]
   ·rw [eW,J,Nat.mul_comm,Nat.mul_add_div i,Nat.div_eq_of_lt D,Nat.add_zero]
   ·have:=aU qs;have:=U.out;omega
  ·obtain ⟨j,rfl⟩:∃ j:Nat,z=j:=⟨z.toNat,O⟩;have k:j<xs.length:=O
   obtain ⟨g,rfl,ho,hp⟩:∃ g,M=some ⟨g,0,none⟩/\base<=g/\g<w.heap.size:=by
    rcases b.out with e | e
    ·exfalso
     subst e;rcases o.out.2 with ⟨_,S⟩ | ⟨g,T,hu,S,_⟩
     ·omega
     ·simp at S
    ·exact e
   have f:=s.out;rw [show ((j:Int)+1).toNat=j+1 from O] at f;obtain ⟨E,hv,a⟩:=f.at k D hd H;have K:=H.out.get j k;obtain ⟨x,ex⟩:=eX (xs[j]);rw [<- ex] at E K;have A:=ab (a x);have EX:=ab ex;obtain ⟨m,F⟩:=eX (r*4294967296+x);have B:=jB r x O K;rw [<- F] at B;have he:m<18446744073709551616:=O
   have p:m / d<4294967296:=by
    rw [Nat.div_lt_iff_lt_mul O];have:(r+1)*4294967296<=d*4294967296:=Nat.mul_le_mul_right _ O;rw [Nat.mul_comm 4294967296 d];omega
   have HQ:=ab p;have L:=ab F;clear a ex s f p F b o;go_wp2;go_roundw
   case rel =>
    refine ⟨(j:Int)-1,m % d,O,O,Nat.mod_lt _ i,rfl,by rw [Int.natCast_emod],?_⟩;rw [show ((j:Int)-1+1).toNat=j from O,L];refine A _ EX ?_;have p:=HQ.out;rw [<- L,<- Int.natCast_ediv];generalize m / d=q at p ⊢;rw [IntWalk.u64_in _ ⟨O,O⟩];omega
   case measure=>simp [intOf]
theorem js (v:Value) (xs:List Nat) (w:World) (h:Ws w v xs) (I:xs.length<=10000000000000) :
  Calls Tryz.prog 118 #[v] w fun e t=>∃ v',e=.returned v'/\gE t w.heap.size v' xs/\w.grownBy t none:=by
 obtain ⟨E,hi,l,m,o⟩:=info_parts Tryz.info32;rcases h.sh with ⟨rfl,rfl⟩ | ⟨b,off,cap,rfl,hb,F,G,hc⟩
 ·have y:∀ W,(binOp .eql 79 (.slice none 0 0) (.slice none 0 0)).run Tryz.prog W=.ok (.bool true) W:=fun W=>Lib.run_eql_slice_nil W _ _ none 0 0 0 0 Tryz.underlying79
  go_enter Tryz.func118,Tryz.ntmps118
  go_wp2;go_ret;exact ⟨_,rfl,oh _ _,ae _ _⟩
 ·have z:=ab hc;have J:=ab h;clear hc h;unfold maxLen at G;have y:∀ W,(binOp .eql 79 (.slice (some ⟨b,off,none⟩) xs.length cap) (.slice none 0 0)).run Tryz.prog W=.ok (.bool false) W:=fun W=>Lib.run_eql_slice_nil W _ _ (some _) _ _ 0 0 Tryz.underlying79
  go_enter Tryz.func118,Tryz.ntmps118
  go_wp2_with (at_builtin;refine wpList_append_own _ rfl _ _ 79 rfl w.heap.size 140 E (.int .u32 0) 1 4 Tryz.underlying79 hi l m o rfl zD _ 0 [] rfl ?c0 ⟨b,off,none⟩ xs.length cap (ak xs).toList rfl ?c1 ?c2 ?c3 ?c4 ?c5 ?c6 ?_)
  case c0=>exact World.ownsRow_made w #[] 0 zL (by unfold maxLen;omega) Z
  case c1=>simp [ak]
  case c2 =>
   intro j u D;obtain ⟨p,q⟩:=zY D;have k:j<xs.length:=by simpa [ak] using p
   have:=aF z j k;have A:=(World.grownBy_alloc w (Obj.cells #[] 140) none).cell this Z;rw [show (⟨b,off,none⟩:Addr).add j=⟨b,off+j,none⟩ from by simp [Addr.add]];rw [show u=.int .u32 (xs[j]:Nat) from by rw [<- q];simp [ak]];exact A
  case c3 =>
   intro u r;simp only [ak,List.mem_map] at r;obtain ⟨x,_,rfl⟩:=r;rfl
  case c4=>unfold maxLen;omega
  case c5=>omega
  case c6=>simp
  intro v' w1 a f _;have B:=ab a;have C:=ab f;obtain ⟨i,s,d,rfl⟩:∃ i s d,v'=.slice i s d:=by
   rcases a.2 with ⟨e,_⟩ | ⟨g,d,H,rfl,_⟩
   ·exact ⟨_,_,_,e⟩
   ·exact ⟨_,_,_,rfl⟩
  clear a f;go_wp2;go_ret;refine ⟨_,rfl,B,?_⟩;exact aw (r1:=none) (World.grownBy_alloc w _ none) C (fun _ _ e=>e) (fun b hb e=>by simp [Value.ownBlock] at e;omega)
def jV (w wr:World) (xs:List Nat) (s k c:Nat):Prop :=
 ∃ done:List Nat,done.length=k/\Sm done/\bW wr w.heap.size (done++c :: List.replicate (xs.length-k) 0)/\w.grownBy wr none/\ai done+4294967296^k*c=ai (xs.take k)*2^s
theorem jV.step {s k:Nat} (h:jV w wr xs s k c) (f:k<xs.length) (i:s<32) (hc:c<2^s) (x:Nat) (l:x=xs[k]) (b d:Int)
  (hz1:b=((c+x*2^s % 4294967296:Nat):Int)) (hz2:d=((x*2^s / 4294967296:Nat):Int)) :
  jV w ((wr.setCell ⟨w.heap.size,k,none⟩ (.int .u32 b)).setCell ⟨w.heap.size,k+1,none⟩ (.int .u32 d)) xs s (k+1) (x*2^s / 4294967296):=by
 obtain ⟨done,a,o,p,q,r⟩:=h;have hb:=(xL s c x i hc).2;refine ⟨done++[c+x*2^s % 4294967296],by simp [a],o.append (Sm.cons hb Sm.nil),?_,ah (ah q _ _ zL) _ _ zL,?_⟩
 ·have:=(p.set k (c+x*2^s % 4294967296)).set (k+1) (x*2^s / 4294967296);rw [hz1,hz2];have e:((done++c :: List.replicate (xs.length-k) 0).set k (c+x*2^s % 4294967296)).set (k+1) (x*2^s / 4294967296)
    = (done++[c+x*2^s % 4294967296])++(x*2^s / 4294967296) :: List.replicate (xs.length-(k+1)) 0:=by
   obtain ⟨m,t⟩:∃ m,xs.length-k=m+1:=⟨xs.length-k-1,O⟩;rw [t,show xs.length-(k+1)=m from O];subst a;rw [List.set_append_right _ _ zL,List.set_append_right _ _ O];simp [List.replicate_succ]
  rw [e] at this;exact this
 ·rw [aO,a,au xs k f,<- l,Nat.add_mul,<- r,Nat.pow_succ,Nat.mul_add,Nat.mul_assoc (4294967296^k) x];have:=fC (4294967296^k) (x*2^s);omega
theorem DO (x s:Nat) (a:x<4294967296) (b:s<32):IntKind.u64.wrap ((x:Int)*2^s) / 4294967296 % 4294967296=((x*2^s / 4294967296:Nat):Int):=by
 have h:=(kj x s a b).2;rw [(kj x s a b).1];omega
theorem vj (A:Value) (xs:List Nat) (s:Nat) (w:World) (ha:Ws w A xs) (r:s<32) (S:xs.length<=10000000000000) :
  Calls Tryz.prog 175 #[A,.int .i64 (s:Nat)] w fun e C=>∃ us,e=.returned (.slice (some ⟨w.heap.size,0,none⟩) (xs.length+1) (xs.length+1))/\us.length=xs.length+1/\Sm us/\bW C w.heap.size us/\ai us=ai xs*2^s/\w.grownBy C none:=by
 obtain ⟨T,U,rfl,P,o,B⟩:=ha.open;unfold maxLen at o;have D:=ab B;have E:=ab ha.sm;clear B ha;go_enter Tryz.func175,Tryz.ntmps175
 go_wp2_with (at_make;refine aC _ rfl _ _ 79 rfl Tryz.underlying79 Tryz.info32 _ _ _ _ (xs.length+1) rfl rfl O O O ?_)
 intro w1 d l;have F:=ab d;have G:=ab l;clear d l;go_wp2;go_loopw [15] (fun i wr=>∃ k c:Nat,k<=xs.length/\i=.int .i64 k/\Hid (c<2^s)/\Hid (jV w wr xs s k c)) (fun i _=>xs.length-(intOf i).toNat)
 case atStart=>exact ⟨0,0,Nat.zero_le _,rfl,Nat.two_pow_pos s,[],rfl,Sm.nil,by
  have:=F.out;rw [List.replicate_succ] at this;exact this,G,by simp [ai]⟩
 case round =>
  obtain ⟨k,c,V,rfl,t,u⟩:=hrel;by_cases hlt:k<xs.length
  ·obtain ⟨b,off,rfl,Q,a⟩:=aF D k hlt;have p:=(aF E).get k hlt;obtain ⟨x,ex⟩:=eX (xs[k]);rw [<- ex] at a p;have H:=ab ex;clear ex;obtain ⟨done,f,y,h,q,z⟩:=u.out;have I:wr.cell? ⟨b,off+k,none⟩=some (.int .u32 (x:Nat)):=q.cell a Z;have J:wr.frozen? ⟨w.heap.size,k,none⟩=false:=h.free k;have K:wr.frozen? ⟨w.heap.size,k+1,none⟩=false:=h.free (k+1);have L:wr.cell? ⟨w.heap.size,k,none⟩=some (.int .u32 (c:Nat)):=by
    rw [h.cell k (by simp [f])];simp [f]
   have M:wr.cell? ⟨w.heap.size,k+1,none⟩=some (.int .u32 ((0:Nat):Int)):=by
    rw [h.cell (k+1) (by simp [f];omega)];obtain ⟨m,R⟩:∃ m,xs.length-k=m+1:=⟨xs.length-k-1,O⟩;simp [f,R,List.replicate_succ]
   clear f y h q z a;go_wp2;go_roundw
   case rel=>exact ⟨k+1,x*2^s / 4294967296,O,zN,Db x s p,jV.step u hlt r t x H _ _ (yN c x s p r t) (DO x s p r)⟩
   case measure=>simp [intOf];omega
  ·obtain rfl:k=xs.length:=O
   go_wp2;go_ret;obtain ⟨done,f,y,h,q,z⟩:=u.out;rw [Nat.sub_self,List.replicate_zero] at h;have hc:=t.out;have N:2^s<=2^31:=Nat.pow_le_pow_right zD O;refine ⟨done++[c],rfl,by simp [f],y.append (Sm.cons O Sm.nil),h,?_,q⟩;rw [aO,f,z,zT zL]
def zp (xs:List Nat) (s:Nat):List Nat:=(List.range xs.length).map fun i=>(xs.getD i 0+4294967296*xs.getD (i+1) 0) / 2^s % 4294967296
theorem eJ (xs:List Nat) (s:Nat):(zp xs s).length=xs.length:=by simp [zp]
theorem zq (xs:List Nat) (s i:Nat) (h:i<(zp xs s).length):(zp xs s)[i]=(xs.getD i 0+4294967296*xs.getD (i+1) 0) / 2^s % 4294967296:=by simp [zp]
theorem Ee (xs:List Nat) (s:Nat):Sm (zp xs s):=fun x a=>by
 simp only [zp,List.mem_map] at a;obtain ⟨i,_,rfl⟩:=a;exact Nat.mod_lt _ zD
theorem Ef (xs:List Nat) (s:Nat) (h:Sm xs) (b:s<32) (k:Nat) (f:k<=xs.length):ai ((zp xs s).take k)=ai xs / 2^s % 4294967296^k:=by
 induction k with
 | zero=>simp [ai,Nat.mod_one]
 | succ k ih =>
  have a:k<xs.length:=O
  rw [au _ k (by rw [eJ];exact a),ih O,zq];have e:=pR xs s k h b a;have d:xs.getD k 0=xs[k]:=by simp [a]
  rw [d,<- e,Nat.pow_succ,Nat.mod_mul]
theorem rsh_val (xs:List Nat) (s:Nat) (h:Sm xs) (b:s<32):ai (zp xs s)=ai xs / 2^s:=by
 have a:=Ef xs s h b xs.length zL;rw [zT (by rw [eJ];exact zL)] at a;have d:=bw h;have e:=Nat.div_le_self (ai xs) (2^s);rw [a,Nat.mod_eq_of_lt O]
def oI (w wr:World) (xs:List Nat) (s k:Nat):Prop:=bW wr w.heap.size (List.replicate k 0++(zp xs s).drop k)/\w.grownBy wr none
theorem oI.step {s:Nat} (h:oI w wr xs s (j+1)) (a:j<xs.length) (x y:Nat) (b:x=xs[j]) (hy:y=xs.getD (j+1) 0) (z:Int) (hz:z=(((y*4294967296+x) / 2^s % 4294967296:Nat):Int)) :
  oI w (wr.setCell ⟨w.heap.size,j,none⟩ (.int .u32 z)) xs s j:=by
 obtain ⟨f,k⟩:=h;refine ⟨?_,ah k _ _ zL⟩;have:=f.set j ((y*4294967296+x) / 2^s % 4294967296);rw [hz];have e:(List.replicate (j+1) 0++(zp xs s).drop (j+1)).set j ((y*4294967296+x) / 2^s % 4294967296)=List.replicate j 0++(zp xs s).drop j:=by
  rw [<- List.replicate_append_replicate (n:=j) (m:=1),List.append_assoc,List.set_append_right _ _ Z,List.drop_eq_getElem_cons (i:=j) (by rw [eJ];exact a),zq];have d:xs.getD j 0=x:=by rw [b];simp [a]
  rw [d,<- hy,Nat.mul_comm y,Nat.add_comm (4294967296*y)];simp
 rw [e] at this;exact this
theorem AM (E:Value) (xs:List Nat) (s:Nat) (w:World) (ha:Ws w E xs) (P:s<32) (hl:xs.length<=10000000000000) :
  Calls Tryz.prog 179 #[E,.int .i64 (s:Nat)] w fun e N=>∃ v',e=.returned v'/\gP N w.heap.size v' (ai xs / 2^s) xs.length/\w.grownBy N none:=by
 obtain ⟨ao,ca,rfl,he,o,J⟩:=ha.open;unfold maxLen at o;have Q:=ab J;have F:=ab ha.sm;clear J ha;go_enter Tryz.func179,Tryz.ntmps179
 go_wp2_with (at_make;refine aC _ rfl _ _ 79 rfl Tryz.underlying79 Tryz.info32 _ _ _ _ xs.length rfl rfl O O O ?_)
 intro w1 i l;have R:=ab i;have S:=ab l;clear i l;go_wp2;go_loopw [6,7] (fun av iv wr=>∃ (z:Int) (y:Nat),-1<=z/\z<xs.length/\y<4294967296/\iv=.int .i64 z/\av=.int .u64 y/\Hid (y=xs.getD (z+1).toNat 0)/\Hid (oI w wr xs s (z+1).toNat)) (fun _ iv _=>(intOf iv+1).toNat)
 case atStart =>
  have e:((xs.length:Int)-1+1).toNat=xs.length:=O
  refine ⟨(xs.length:Int)-1,0,O,O,O,rfl,rfl,?_,?_,S⟩
  ·show 0=_
   rw [e];simp [List.getD]
  ·rw [e,List.drop_of_length_le (by rw [eJ];exact zL),List.append_nil];exact R
 case round =>
  obtain ⟨z,y,hf,hj,hy,rfl,rfl,C,p⟩:=hrel;by_cases h0:z<0
  ·go_wp2_with fail;obtain ⟨q,K⟩:=p.out;rw [show (z+1).toNat=0 from O] at q;simp only [List.replicate_zero,List.nil_append,List.drop_zero] at q;have r:=q.own (base:=w.heap.size) zL (by rw [eJ];unfold maxLen;omega);rw [eJ] at r;clear q;refine (ky _ (zp xs s) _ w.heap.size r (Ee xs s)).mono ?_;rintro e w2 ⟨v',rfl,rfl,L,M⟩;have T:=ab L;have K2:=ab M;have U:=ab K;clear r L M K p C;go_wp2;go_ret;refine ⟨v',rfl,⟨_,T,(Ee xs s).trimL,Tr.trimL _,?_,?_⟩,U⟩
   ·rw [eW,rsh_val xs s F P]
   ·have:=aU (zp xs s);rw [eJ] at this;exact this
  ·obtain ⟨j,rfl⟩:∃ j:Nat,z=j:=⟨z.toNat,O⟩;have h:j<xs.length:=O
   have G:((j:Int)+1).toNat=j+1:=O
   obtain ⟨b,off,rfl,hk,d⟩:=aF Q j h;have t:=(aF F).get j h;obtain ⟨x,ex⟩:=eX (xs[j]);rw [<- ex] at d t;have H:=ab ex;have f:=p.out;have k:=C.out;rw [G] at f k;have u:wr.cell? ⟨b,off+j,none⟩=some (.int .u32 (x:Nat)):=f.2.cell d Z;have V:wr.frozen? ⟨w.heap.size,j,none⟩=false:=f.1.free j;obtain ⟨v0,ho⟩:∃ v,wr.cell? ⟨w.heap.size,j,none⟩=some v:=⟨_,f.1.cell j (by simp;omega)⟩;obtain ⟨m,D⟩:=eX (y*4294967296+x);have A:=jB y x hy t;rw [<- D] at A;have W:m<18446744073709551616:=O
   have X:=ab D;have Y:=ab f;have B:=ab k;have I:∀ v,(wr.setCell ⟨w.heap.size,j,none⟩ v).cell? ⟨b,off+j,none⟩=some (.int .u32 (x:Nat)):=by
    intro v;rw [World.cell?_of_block (w:=wr) (a:=⟨b,off+j,none⟩) (heap_setCell_other _ _ _ _ (by show b≠w.heap.size;omega))];exact u
   clear d ex p f C k D G;go_wp2;go_roundw
   case rel =>
    refine ⟨(j:Int)-1,x,O,O,t,rfl,rfl,?_,?_⟩
    ·show x=_
     rw [show ((j:Int)-1+1).toNat=j from O,H];simp [h]
    ·rw [show ((j:Int)-1+1).toNat=j from O];refine oI.step Y h x y H B _ ?_;rw [mn,<- X];omega
   case measure=>simp [intOf]
def GuessR (hh vt U V:Nat) (gv rv:Value):Prop:=∃ g r:Nat,gv=.int .u64 g/\rv=.int .u64 r/\r<4294967296/\g<18446744073709551616/\Hid (g*vt+r=hh/\U / V<=g)
def Guessed (U V:Nat) (w:World) (e:Ending) (w':World):Prop:=∃ g q:Nat,e=.returned (.int .u64 (g:Nat))/\g<4294967296/\U / V<=g/\g<=U / V+1/\w'=w.drewN q
theorem CM (S T:Value) (W vs:List Nat) (n:Nat) (w:World) (q:Ws w S W) (hy:Ws w T vs) (hn:vs.length=n+2) (I:W.length=n+3) (s:2147483648<=vs.getD (n+1) 0) (hlt:ai W<4294967296*ai vs) :
  Calls Tryz.prog 176 #[S,T] w fun e w'=>Guessed (ai W) (ai vs) w e w':=by
 have h:2147483648<=vs[n+1]:=by
  have e:vs.getD (n+1) 0=vs[n+1]:=by simp [List.getD,hn]
  omega
 have kd:=kd_of vs W n hn I hy.sm q.sm h hlt;obtain ⟨ao,ca,ea,K,C,F⟩:=q.open;obtain ⟨bo,cb,eb,L,D,M⟩:=hy.open;obtain ⟨b1,o1,rfl,hl,c1⟩:=F (n+2) O;obtain ⟨_,_,e2,_,c2⟩:=F (n+1) O;obtain ⟨_,_,e3,_,c3⟩:=F n O;simp only [zI,Addr.mk.injEq,and_true] at e2 e3;obtain ⟨rfl,rfl⟩:=e2;obtain ⟨rfl,rfl⟩:=e3;obtain ⟨b2,o2,rfl,hm,c4⟩:=M (n+1) O;obtain ⟨_,_,e5,_,c5⟩:=M n O;simp only [zI,Addr.mk.injEq,and_true] at e5;obtain ⟨rfl,rfl⟩:=e5;have U:=q.sm.get (n+2) O;have V:=q.sm.get (n+1) O;have X:=q.sm.get n O;have B4:=hy.sm.get (n+1) O;have Y:=hy.sm.get n O;generalize W[n+2]=ua at c1 kd U;generalize W[n+1]=ub at c2 kd V;generalize W[n]=uc at c3 kd X;generalize vs[n+1]=vt at c4 kd h B4;generalize vs[n]=vn at c5 kd Y;have KD:=ab kd;rw [I] at ea K;rw [hn] at eb L;subst ea eb;unfold maxLen at C D;have i:=jB ua ub U V;obtain ⟨hh,G⟩:=eX (ua*4294967296+ub);rw [<- G] at i;have k:=ab G;have hf:hh<18446744073709551616:=O
 have he:((vt:Int)==0)=false:=zB O;have l:hh / vt*vt+hh % vt=hh:=by rw [Nat.mul_comm];exact Nat.div_add_mod hh vt
 have u:=Nat.mod_lt hh (show 0<vt by omega);have x:hh / vt<=hh:=Nat.div_le_self _ _;obtain ⟨Q,E⟩:=eX (hh / vt);obtain ⟨R,H⟩:=eX (hh % vt);rw [<- E,<- H] at l;rw [<- H] at u;rw [<- E] at x;have o:(hh:Int) / (vt:Int)=(Q:Int):=by rw [E,Int.natCast_ediv]
 have p:(hh:Int) % (vt:Int)=(R:Int):=by rw [H,Int.natCast_emod]
 have y:(hh:Int).tdiv (vt:Int)=(Q:Int):=by rw [Int.tdiv_eq_ediv_of_nonneg O];exact o
 have z:(hh:Int).tmod (vt:Int)=(R:Int):=by rw [Int.tmod_eq_emod_of_nonneg O];exact p
 have b:ai W / ai vs<=Q:=by rw [E,G];exact kd.init
 have A:=ab (And.intro l b);clear F M q hy s hlt kd G E H l b hn I;go_enter Tryz.func176,Tryz.ntmps176
 go_wp2;go_quiet (fail)
 go_wp2;go_quiet (fail)
 go_wp2;go_quiet (fail)
 go_wp2;go_loop [9,10] (fun P rv=>GuessR hh vt (ai W) (ai vs) P rv) (fun P _=>(intOf P).toNat)
 case atStart=>exact ⟨Q,R,by first | rfl | rw [o] | rw [y],by first | rfl | rw [p] | rw [z],O,O,A⟩
 case round =>
  clear A o p y z u x i;obtain ⟨g,r,rfl,rfl,hr,hg,f⟩:=hrel;have i:=jB r uc hr X;obtain ⟨m,N⟩:=eX (r*4294967296+uc);rw [<- N] at i;have EM:=ab N;have hj:m<18446744073709551616:=O
  clear N;by_cases B:4294967296<=g
  ·have t:=ab (KD.keep (by rw [<- k];exact f.1) (.inl B));have a:1<=g:=O
   by_cases d:r+vt<4294967296
   ·go_wp2;go_round
    case rel=>exact ⟨g-1,r+vt,zN,zN,d,O,bS f.1 a,by have:=t.out;omega⟩
    case measure=>simp [intOf];omega
   ·go_wp2;go_ret;have hb:=KD.out.brk (by rw [<- k];exact bS f.1 a) (Nat.le_of_not_lt d);refine ⟨g-1,_,zN,hb.1,by have:=t.out;omega,KD.exit (by rw [<- k];exact bS f.1 a) hb.1 hb.2,by first | rfl | (simp only [World.drewN_drewN];rfl)⟩
  ·have hp:(g:Int)*(vn:Int)<=18446744065119617025:=lA g vn O Y;have hk:0<=(g:Int)*(vn:Int):=Int.mul_nonneg O O;by_cases s:m<g*vn
   ·have h:(m:Int)<(g:Int)*(vn:Int):=by rw [<- Int.natCast_mul];omega
    have t:=ab (KD.keep (by rw [<- k];exact f.1) (.inr (by rw [<- EM];exact s)));have a:1<=g:=Nat.lt_of_le_of_lt (Nat.zero_le _) t;clear s;by_cases d:r+vt<4294967296
    ·go_wp2;go_round
     case rel=>exact ⟨g-1,r+vt,zN,zN,d,O,bS f.1 a,by have:=t.out;omega⟩
     case measure=>simp [intOf];omega
    ·go_wp2;go_ret;have hb:=KD.out.brk (by rw [<- k];exact bS f.1 a) (Nat.le_of_not_lt d);refine ⟨g-1,_,zN,hb.1,by have:=t.out;omega,KD.exit (by rw [<- k];exact bS f.1 a) hb.1 hb.2,by first | rfl | (simp only [World.drewN_drewN];rfl)⟩
   ·have h:¬ (m:Int)<(g:Int)*(vn:Int):=by rw [<- Int.natCast_mul];omega
    have J:=ab s;clear s;go_wp2;go_ret;refine ⟨g,_,rfl,O,f.2,KD.exit (by rw [<- k];exact f.1) O (by have:=J.out;rw [<- EM];omega),by first | rfl | (simp only [World.drewN_drewN];rfl)⟩
def ji (w wr:World) (gu:Nat) (us vs:List Nat) (j g k c:Nat):Prop :=
 ∃ mid:List Nat,mid.length=k/\Sm mid/\bW wr gu (us.take j++mid++us.drop (j+k))/\w.grownBy wr (some gu)/\ai mid+g*ai (vs.take k)=ai ((us.drop j).take k)+4294967296^k*c
theorem mC {a:List Nat} {k:Nat} (b:bW wr gu (us.take j++a++us.drop (j+k))) (d:a.length=k) (e:j+k<us.length):wr.cell? ⟨gu,j+k,none⟩=some (.int .u32 (us[j+k]:Nat)):=by
 have hg:=mD us a j k d e;obtain ⟨f,h⟩:=zY hg;have:=b.cell (j+k) f;rw [h] at this;exact this
theorem ji.at {k:Nat} (h:ji w wr gu us vs j g k c) (m:k<vs.length) (l:j+k<us.length) :
  wr.cell? ⟨gu,j+k,none⟩=some (.int .u32 (us[j+k]:Nat))/\wr.frozen? ⟨gu,j+k,none⟩=false /\
  ∀ (x e v:Nat) (z:Int),z=(x:Int)->x<4294967296->v=vs[k]->x+(c+g*v) % 4294967296=us[j+k]+4294967296*e ->
   ji w (wr.setCell ⟨gu,j+k,none⟩ (.int .u32 z)) gu us vs j g (k+1) ((c+g*v) / 4294967296+e):=by
 obtain ⟨a,b,s,i,t,y⟩:=h;refine ⟨mC i b l,i.free _,?_⟩;intro x e v z o q r f;refine ⟨a++[x],by simp [b],s.append (Sm.cons q Sm.nil),?_,jw t gu _ _ rfl,?_⟩
 ·have:=i.set (j+k) x;rw [iA us a j k x b l] at this;rw [o];exact this
 ·rw [aO,b,au vs k m,au (us.drop j) k (by rw [List.length_drop];omega),List.getElem_drop,Nat.pow_succ,<- r];have d:=Nat.mod_add_div (c+g*v) 4294967296;generalize (c+g*v) % 4294967296=lo at f d;generalize (c+g*v) / 4294967296=hi at d ⊢;generalize us[j+k]=u at f ⊢;generalize 4294967296^k=p at y ⊢;rw [Nat.mul_add g,Nat.mul_left_comm g p v];have A:p*x+p*lo=p*u+p*(4294967296*e):=by
   rw [<- Nat.mul_add,<- Nat.mul_add,f]
  have B:p*lo+p*(4294967296*hi)=p*c+p*(g*v):=by
   rw [<- Nat.mul_add,<- Nat.mul_add,d]
  rw [Nat.mul_assoc,Nat.mul_add 4294967296,Nat.mul_add p];omega
theorem ji.top (h:ji w wr gu us vs j g vs.length c) (f:j+vs.length<us.length) :
  wr.cell? ⟨gu,j+vs.length,none⟩=some (.int .u32 (us[j+vs.length]:Nat))/\wr.frozen? ⟨gu,j+vs.length,none⟩=false /\
  ∀ (x e:Nat) (z:Int),z=(x:Int)->x<4294967296->x+c=us[j+vs.length]+4294967296*e ->
  ∃ W:List Nat,W.length=vs.length+1/\Sm W/\bW (wr.setCell ⟨gu,j+vs.length,none⟩ (.int .u32 z)) gu (us.take j++W++us.drop (j+(vs.length+1))) /\
   w.grownBy (wr.setCell ⟨gu,j+vs.length,none⟩ (.int .u32 z)) (some gu)/\ai W+g*ai vs=ai ((us.drop j).take (vs.length+1))+4294967296^(vs.length+1)*e/\W[vs.length]? = some x:=by
 obtain ⟨a,b,o,d,q,k⟩:=h;refine ⟨mC d b f,d.free _,?_⟩;intro x e z l m i;refine ⟨a++[x],by simp [b],o.append (Sm.cons m Sm.nil),?_,jw q gu _ _ rfl,?_,by rw [List.getElem?_append_right O];simp [b]⟩
 ·have:=d.set (j+vs.length) x;rw [iA us a j vs.length x b f] at this;rw [l];exact this
 ·rw [zT (Nat.le_refl vs.length)] at k;rw [aO,b,au (us.drop j) vs.length (by rw [List.length_drop];omega),List.getElem_drop,Nat.pow_succ];generalize us[j+vs.length]=u at i ⊢;generalize 4294967296^vs.length=p at k ⊢;have r:p*x+p*c=p*u+p*(4294967296*e):=by
   rw [<- Nat.mul_add,<- Nat.mul_add,i]
  rw [Nat.mul_assoc p];omega
def BJ (w w':World) (gu:Nat) (us vs:List Nat) (j g E:Nat):Prop :=
 ∃ W:List Nat,W.length=vs.length+1/\Sm W/\bW w' gu (us.take j++W++us.drop (j+(vs.length+1)))/\w.grownBy w' (some gu)/\ai W+g*ai vs=ai ((us.drop j).take (vs.length+1))+4294967296^(vs.length+1)*E
theorem qp (u lo:Nat) (b:u<4294967296) (a:lo<4294967296):∃ x:Nat,IntKind.u32.wrap ((u:Int)-(lo:Int))=(x:Int)/\x<4294967296/\x+lo=u+4294967296*(if u<lo then 1 else 0):=by
 rw [IntKind.wrap_u32];by_cases h:u<lo
 ·exact ⟨4294967296+u-lo,O,O,by rw [if_pos h];omega⟩
 ·exact ⟨u-lo,O,O,by rw [if_neg h];omega⟩
def TakeR (w:World) (gu:Nat) (us vs:List Nat) (j g:Nat) (cv iv:Value) (wr:World):Prop :=
 ∃ k c:Nat,k<=vs.length/\c<4294967296/\iv=.int .i64 k/\cv=.int .u64 c/\Hid (ji w wr gu us vs j g k c)
def TakeE (w:World) (gu:Nat) (us vs:List Nat) (j g:Nat) (e:Ending) (w':World):Prop:=∃ E:Nat,E<=1/\e=.returned (.bool (E==1))/\BJ w w' gu us vs j g E
theorem Bt (g v c:Nat) (hg:g<4294967296) (a:v<4294967296) (hc:c<4294967296):c+g*v<18446744069414584321:=by
 have:g*v<=4294967295*4294967295:=Nat.mul_le_mul O O;omega
theorem vV (gu j G:Nat) (us vs:List Nat) (H:Value) (g:Nat) (w:World) (ha:bW w gu us) (hy:Ws w H vs) (S:Sm us) (s:ar H≠some gu) (U:j+vs.length<us.length) (hg:g<4294967296) (hl:us.length<=10000000000001) (Y:vs.length+1<=G) (I:G<=maxLen) (he:0<vs.length) :
  Calls Tryz.prog 177 #[.slice (some ⟨gu,j,none⟩) (vs.length+1) G,H,.int .u64 (g:Nat)] w fun e w'=>TakeE w gu us vs j g e w':=by
 obtain ⟨bo,cb,eb,hr,C,X⟩:=hy.open;unfold maxLen at I C;have J:=ab X;have SB:=ab hy.sm;have V:=ab S;have HA:=ab ha;have hf:=ha.lt;subst eb;have K:=ab s;clear X hy S ha s;go_enter Tryz.func177,Tryz.ntmps177
 go_wp2;go_loopw [7,14] (fun cv iv wr=>TakeR w gu us vs j g cv iv wr) (fun _ iv _=>vs.length-(intOf iv).toNat)
 case atStart=>exact ⟨0,0,O,O,rfl,rfl,[],rfl,Sm.nil,by rw [List.append_nil,Nat.add_zero,List.take_append_drop];exact HA,ae _ _,by simp [ai]⟩
 case round =>
  obtain ⟨k,c,hk,hc,rfl,rfl,D⟩:=hrel;by_cases hlt:k<vs.length
  ·obtain ⟨b,off,rfl,hw,h⟩:=aF J k hlt;have L:=SB.out.get k hlt;have M:b≠gu:=by
    intro e;exact K (by rw [e];rfl)
   have t:j+k<us.length:=O
   obtain ⟨p,Q,i⟩:=D.out.at hlt t;have y:=V.out.get (j+k) t;have A:w.grownBy wr (some gu):=by obtain ⟨_,_,_,_,h4,_⟩:=D.out;exact h4
   have N:=A.cell h (by show some b≠some gu;intro e;exact M (by simpa using e));obtain ⟨v,R⟩:=eX (vs[k]);obtain ⟨u,q⟩:=eX (us[j+k]);rw [<- R] at N L;rw [<- q] at p y;have hp:=Bt g v c hg L hc;obtain ⟨T,F⟩:=eX (c+g*v);have hm:(c:Int)+(g:Int)*(v:Int)=(T:Int):=by rw [F,Int.natCast_add,Int.natCast_mul]
   have ho:(g:Int)*(v:Int)<=18446744065119617025:=lA g v hg L;have hq:0<=(g:Int)*(v:Int):=Int.mul_nonneg O O;rw [<- F] at hp;obtain ⟨x,l,r,a⟩:=qp u (T % 4294967296) y (Nat.mod_lt _ zD);have HX:=ab l;have B:Hid (∀ (e:Nat) (z:Int),z=(x:Int)->x+T % 4294967296=u+4294967296*e->ji w (wr.setCell ⟨gu,j+k,none⟩ (.int .u32 z)) gu us vs j g (k+1) (T / 4294967296+e)):=by
    intro e z P E;rw [F] at E ⊢;exact i x e v z P r R (by rw [<- q];exact E)
   clear i R q F D h l A J;by_cases f:u<T % 4294967296
   ·rw [if_pos f] at a;have d:=ab a;clear a;go_wp2;go_roundw
    case rel=>exact ⟨k+1,T / 4294967296+1,O,O,zN,zN,B 1 _ (by have:=d.out;omega) (by have:=d.out;omega)⟩
    case measure=>simp [intOf];omega
   ·rw [if_neg f] at a;have d:=ab a;clear a;go_wp2;go_roundw
    case rel=>exact ⟨k+1,T / 4294967296+0,O,O,zN,Z,B 0 _ (by have:=d.out;omega) (by have:=d.out;omega)⟩
    case measure=>simp [intOf];omega
  ·obtain rfl:k=vs.length:=O
   obtain ⟨p,Q,o⟩:=D.out.top U;have y:=V.out.get (j+vs.length) U;obtain ⟨u,q⟩:=eX (us[j+vs.length]);rw [<- q] at p y;obtain ⟨x,l,r,a⟩:=qp u c y hc;have m:Hid (∀ (e:Nat) (z:Int),z=(x:Int)->x+c=u+4294967296*e->BJ w (wr.setCell ⟨gu,j+vs.length,none⟩ (.int .u32 z)) gu us vs j g e):=by
    intro e z P E;obtain ⟨W,k1,k2,k3,k4,k5,_⟩:=o x e z P r (by rw [<- q];exact E);exact ⟨W,k1,k2,k3,k4,k5⟩
   clear o q l D J;by_cases f:u<c
   ·rw [if_pos f] at a;have d:=ab a;clear a;go_wp2;go_ret;exact ⟨1,O,rfl,m 1 _ (by have:=d.out;omega) d⟩
   ·rw [if_neg f] at a;have d:=ab a;clear a;go_wp2;go_ret;exact ⟨0,O,rfl,m 0 _ (by have:=d.out;omega) d⟩
def ks (w wr:World) (gu:Nat) (us vs:List Nat) (j k c:Nat):Prop :=
 ∃ mid:List Nat,mid.length=k/\Sm mid/\bW wr gu (us.take j++mid++us.drop (j+k))/\w.grownBy wr (some gu)/\ai mid+4294967296^k*c=ai ((us.drop j).take k)+ai (vs.take k)
theorem ks.at {k:Nat} (h:ks w wr gu us vs j k c) (f:k<vs.length) (e:j+k<us.length) :
  wr.cell? ⟨gu,j+k,none⟩=some (.int .u32 (us[j+k]:Nat))/\wr.frozen? ⟨gu,j+k,none⟩=false /\
  ∀ (z:Int),z=(((c+us[j+k]+vs[k]) % 4294967296:Nat):Int)->ks w (wr.setCell ⟨gu,j+k,none⟩ (.int .u32 z)) gu us vs j (k+1) ((c+us[j+k]+vs[k]) / 4294967296):=by
 obtain ⟨a,b,l,d,m,o⟩:=h;refine ⟨mC d b e,d.free _,?_⟩;intro z i;refine ⟨a++[(c+us[j+k]+vs[k]) % 4294967296],by simp [b],l.snoc _,?_,jw m gu _ _ rfl,?_⟩
 ·have:=d.set (j+k) ((c+us[j+k]+vs[k]) % 4294967296);rw [iA us a j k _ b e] at this;rw [i];exact this
 ·rw [oP a k c us[j+k] vs[k] _ _ b o,au vs k f,au (us.drop j) k (by rw [List.length_drop];omega),List.getElem_drop]
theorem ks.top {R:Nat} (h:ks w wr gu us vs j vs.length c) (o:j+vs.length<us.length)
  (hW:ai ((us.drop j).take (vs.length+1))+ai vs=R+4294967296^(vs.length+1)) (hR:R<4294967296^vs.length) :
  wr.cell? ⟨gu,j+vs.length,none⟩=some (.int .u32 (us[j+vs.length]:Nat))/\wr.frozen? ⟨gu,j+vs.length,none⟩=false /\
  ∀ z:Int,z=(((us[j+vs.length]+c) % 4294967296:Nat):Int) ->
  ∃ W:List Nat,W.length=vs.length+1/\Sm W/\bW (wr.setCell ⟨gu,j+vs.length,none⟩ (.int .u32 z)) gu (us.take j++W++us.drop (j+(vs.length+1)))/\w.grownBy (wr.setCell ⟨gu,j+vs.length,none⟩ (.int .u32 z)) (some gu)/\ai W=R:=by
 obtain ⟨a,i,s,m,y,d⟩:=h;refine ⟨mC m i o,m.free _,?_⟩;intro z l;rw [zT (Nat.le_refl vs.length)] at d;rw [au (us.drop j) vs.length (by rw [List.length_drop];omega),List.getElem_drop,Nat.pow_succ] at hW;have f:=bw s;rw [i] at f;generalize us[j+vs.length]=x at hW l;have b:x+c=4294967296/\ai a=R:=by
  generalize 4294967296^vs.length=p at d hW hR f;generalize ai ((us.drop j).take vs.length)=T at d hW;generalize ai vs=V at d hW;generalize ai a=M at d f ⊢;have e:M+p*(x+c)=R+p*4294967296:=by
   rw [Nat.mul_add];omega
  have q:0<p:=O
  have t:(M+p*(x+c)) / p=x+c:=by rw [Nat.add_mul_div_left _ _ q,Nat.div_eq_of_lt f,Nat.zero_add]
  have u:(R+p*4294967296) / p=4294967296:=by rw [Nat.add_mul_div_left _ _ q,Nat.div_eq_of_lt hR,Nat.zero_add]
  have r:x+c=4294967296:=by rw [<- t,e,u]
  refine ⟨r,?_⟩;rw [r] at e;omega
 have k:(x+c) % 4294967296=0:=by rw [b.1]
 rw [k] at l;refine ⟨a++[0],by simp [i],s.append (Sm.cons zD Sm.nil),?_,jw y gu _ _ rfl,by rw [aO,Nat.mul_zero,Nat.add_zero];exact b.2⟩;have:=m.set (j+vs.length) 0;rw [iA us a j vs.length 0 i o] at this;rw [l];exact this
def GiveR (w:World) (gu:Nat) (us vs:List Nat) (j:Nat) (cv iv:Value) (wr:World):Prop :=
 ∃ k c:Nat,k<=vs.length/\c<=1/\iv=.int .i64 k/\cv=.int .u64 c/\Hid (ks w wr gu us vs j k c)
def Given (w:World) (gu:Nat) (us vs:List Nat) (j R:Nat) (w':World):Prop :=
 ∃ W:List Nat,W.length=vs.length+1/\Sm W/\bW w' gu (us.take j++W++us.drop (j+(vs.length+1)))/\w.grownBy w' (some gu)/\ai W=R
theorem uk (gu j r R:Nat) (us vs:List Nat) (s:Value) (w:World) (ha:bW w gu us) (hy:Ws w s vs) (E:Sm us) (i:ar s≠some gu) (F:j+vs.length<us.length) (X:us.length<=10000000000001) (I:vs.length+1<=r) (t:r<=maxLen)
  (hW:ai ((us.drop j).take (vs.length+1))+ai vs=R+4294967296^(vs.length+1)) (hR:R<4294967296^vs.length) :
  Calls Tryz.prog 178 #[.slice (some ⟨gu,j,none⟩) (vs.length+1) r,s] w fun e V=>e=.returned (.tuple #[])/\Given w gu us vs j R V:=by
 obtain ⟨bo,Y,Q,S,p,H⟩:=hy.open;unfold maxLen at t p;have x:=ab H;have J:=ab hy.sm;have G:=ab E;have K:=ab ha;have L:=ab hW;have M:=ab hR;have N:=ha.lt;subst Q;have y:=ab i;clear H hy E ha i hW hR;go_enter Tryz.func178,Tryz.ntmps178
 go_wp2;go_loopw [4,9] (fun W iv wr=>GiveR w gu us vs j W iv wr) (fun _ iv _=>vs.length-(intOf iv).toNat)
 case atStart=>exact ⟨0,0,O,O,rfl,rfl,[],rfl,Sm.nil,by rw [List.append_nil,Nat.add_zero,List.take_append_drop];exact K,ae _ _,by simp [ai]⟩
 case round =>
  obtain ⟨k,c,hk,hc,rfl,rfl,q⟩:=hrel;by_cases hlt:k<vs.length
  ·obtain ⟨b,off,rfl,T,d⟩:=aF x k hlt;have P:=J.out.get k hlt;have z:b≠gu:=by
    intro e;exact y (by rw [e];rfl)
   have l:j+k<us.length:=O
   obtain ⟨h,D,a⟩:=q.out.at hlt l;have A:=G.out.get (j+k) l;have m:w.grownBy wr (some gu):=by obtain ⟨_,_,_,_,U,_⟩:=q.out;exact U
   have B:=m.cell d (by show some b≠some gu;intro e;exact z (by simpa using e));generalize vs[k]=v at B P a;generalize us[j+k]=u at h A a;have C:=ab a;clear a q d m x;go_wp2;go_roundw
   case rel=>exact ⟨k+1,(c+u+v) / 4294967296,O,O,zN,zN,C _ O⟩
   case measure=>simp [intOf];omega
  ·obtain rfl:k=vs.length:=O
   obtain ⟨h,D,f⟩:=q.out.top F L M;have A:=G.out.get (j+vs.length) F;generalize us[j+vs.length]=u at h A f;have o:=ab f;clear f q x;go_wp2;go_end0
   exact ⟨rfl,o _ O⟩
theorem aP (n:Nat):w.grownBy (w.drewN n) none:=aj (ae _ _) n
theorem gE.num {base:Nat} (h:gE w base v xs) (a:Sm xs) (b:Tr xs) (L:Nat) (d:xs.length<=L):aQ w v (ai xs) L:=⟨xs,h.ws a,b,rfl,d⟩
theorem gE.fr {w0:World} (h:gE w w0.heap.size v xs):bn w0 v:=fun k a=>(h.fresh k a).1
def gO (w:World) (X Y L:Nat) (e:Ending) (w':World):Prop:=∃ q r,e=.returned (.tuple #[q,r])/\aQ w' q (X / Y) L/\gP w' w.heap.size r (X % Y) L/\w.grownBy w' none/\bn w q
def Divided (w:World) (X Y L:Nat) (e:Ending) (w':World):Prop:=∃ q r,e=.returned (.tuple #[q,r])/\aQ w' q (X / Y) L/\aQ w' r (X % Y) L/\w.grownBy w' none/\bn w q/\bn w r
theorem ud (l m:Value) (xs ys:List Nat) (w:World) (ha:Ws w l xs) (hb:Ws w m ys) (o:Tr xs) (p:Tr ys) (hlt:ai xs<ai ys) (G:xs.length<=9000000000000) :
  Calls Tryz.prog 146 #[l,m] w fun e E=>gO w (ai xs) (ai ys) xs.length e E:=by
 obtain ⟨H,I,y,z,d,A⟩:=ha.open;obtain ⟨bo,J,B,C,f,D⟩:=hb.open;unfold maxLen at d f;have h:=ab ha;have s:=ab hb;have q:=ab o;have t:=ab p;have a:=ab hlt;subst y B;clear A D ha hb o p hlt;go_enter Tryz.func146,Tryz.ntmps146
 go_wp2_with fail;refine (fU _ _ xs ys _ h s q t).mono ?_;rintro e w1 ⟨rfl,q1,rfl⟩;have b:=sY a;generalize gG (ai xs) (ai ys)=o1 at b ⊢;go_wp2_with fail;refine (js _ xs _ (h.keep0 (aP _)) O).mono ?_;rintro e K ⟨L,rfl,i,r⟩;obtain ⟨M,rc,rfl,_,_,_⟩:=i.open;have u:=ab i;have x:=ab r;clear i r;go_wp2;go_ret2
 refine ⟨_,_,rfl,?_,?_,aa (aP _) x,fun k F=>by simp [ar] at F⟩
 ·rw [Nat.div_eq_of_lt a];exact ⟨[],Ws.nil _,rfl,rfl,Z⟩
 ·rw [Nat.mod_eq_of_lt a];exact ⟨xs,u,h.sm,q,rfl,zL⟩
theorem ph {d a f:World} {h i k:Value} {y r:Nat} (q:w.grownBy d none) (s:gE d w.heap.size h xs) (s1:BH d w.heap.size h xs y i a) (t:r=ai xs % y) (u:gP f a.heap.size k r 1) (l:a.grownBy f none) (x:0<xs.length) :
  gO w (ai xs) (ai [y]) xs.length (.returned (.tuple #[i,k])) f:=by
 obtain ⟨ys,p,z,A,B,C,D,E⟩:=s1;have m:ai [y]=y:=by simp [ai]
 have o:w.grownBy a none:=aw (r2:=ar h) q D (fun _ _ e=>e) (fun b hb e=>by have:=(s.fresh b e.symm).1;omega);refine ⟨i,k,rfl,?_,?_,aa o l,p.fr⟩
 ·rw [m,<- B];exact (p.num z A _ C).keep0 l
 ·rw [m,<- t];exact (u.base o.size).mono x
theorem wW (E F:Value) (xs:List Nat) (y:Nat) (w:World) (ha:Ws w E xs) (hb:Ws w F [y]) (G:Tr xs) (p:Tr [y]) (d:y<=ai xs) (hl:xs.length<=9000000000000) :
  Calls Tryz.prog 146 #[E,F] w fun e w'=>gO w (ai xs) (ai [y]) xs.length e w':=by
 obtain ⟨ao,ca,U,V,l,W⟩:=ha.open;obtain ⟨bo,cb,X,Y,m,I⟩:=hb.open;unfold maxLen at l m;obtain ⟨b,off,rfl,he,a⟩:=I 0 Z;simp only [Nat.add_zero,List.getElem_cons_zero] at a;have f:0<y:=by have:=p.pos;simp only [ai] at this;omega
 have i:y<4294967296:=hb.sm y Z;have q:0<xs.length:=by
  rcases zP xs.length with h | h
  ·have:xs=[]:=List.eq_nil_of_length_eq_zero h;rw [this] at d;simp [ai] at d;omega
  ·exact h
 have s:=ab ha;have L:=ab hb;have M:=ab G;have N:=ab p;have t:Hid (ai [y]<=ai xs):=by simp only [ai];exact d
 subst U X;clear W I ha hb G p d;go_enter Tryz.func146,Tryz.ntmps146
 go_wp2_with fail;refine (fU _ _ xs [y] _ s L M N).mono ?_;rintro e w1 ⟨rfl,q1,rfl⟩;have k:=mV t;generalize gG (ai xs) (ai [y])=o1 at k ⊢;go_wp2_with fail;go_region_with (first
  | (go_at_call 118;refine (js _ xs _ (s.keep0 (aP _)) O).mono ?_;rintro e w2 ⟨c',rfl,o,x⟩;have q0:=(aa (aP _) x).cell a Z)
  | (go_at_call 119;refine (pZ _ xs y _ w.heap.size (by first | exact o | exact o.drewN _) s.sm f i O).mono ?_;rintro e w3 ⟨q',r,rfl,z,s1⟩;have u:r<4294967296:=(by rw [z];exact Nat.lt_trans (Nat.mod_lt _ f) i);have P:=ab z;have H:=ab s1;have Q:=ab (aa (aP _) x);have R:=ab o;clear z s1 o x))
 all_goals
  obtain ⟨A,B,ql,rfl⟩:∃ A B ql,q'=.slice A ql B:=by
   obtain ⟨_,o1,_⟩:=H.out;obtain ⟨A,B,e,_⟩:=o1.open;exact ⟨_,_,_,e⟩
  go_wp2_with fail;refine (Au r _ u).mono ?_;rintro e w4 ⟨r',rfl,C,J⟩;obtain ⟨D,rc,K,rfl⟩:∃ D rc K,r'=.slice D K rc:=by
   obtain ⟨_,o1,_⟩:=C;obtain ⟨D,rc,e,_⟩:=o1.open;exact ⟨_,_,_,e⟩
  have S:=ab C;have T:=ab J;clear C J;go_wp2;go_ret2
  exact ph Q R H P S T q
theorem si:∀ (f x:Nat),0<x->x<2^f->1<=Lib.bitLenAux f x/\Lib.bitLenAux f x<=f/\2^(Lib.bitLenAux f x-1)<=x/\x<2^Lib.bitLenAux f x:=by
 intro f;induction f with
 | zero=>intro x k h;simp at h;omega
 | succ f ih =>
  intro x k h;rw [Lib.bitLenAux,if_neg O];by_cases i:x / 2=0
  ·have e:Lib.bitLenAux f (x / 2)=0:=by
    rw [i];cases f<;>simp [Lib.bitLenAux]
   rw [e];refine ⟨O,O,?_,?_⟩
   ·simp;omega
   ·simp;omega
  ·obtain ⟨a,b,c,d⟩:=ih (x / 2) O (by rw [Nat.pow_succ] at h;omega);generalize Lib.bitLenAux f (x / 2)=n at a b c d;refine ⟨O,O,?_,?_⟩
   ·obtain ⟨m,rfl⟩:∃ m,n=m+1:=⟨n-1,O⟩;rw [show 1+(m+1)-1=m+1 from O,Nat.pow_succ];rw [Nat.add_sub_cancel] at c;omega
   ·rw [Nat.add_comm,Nat.pow_succ];omega
theorem mI (x:Nat) (a:0<x) (h:x<4294967296):1<=Lib.bitLen x/\Lib.bitLen x<=32/\2^(Lib.bitLen x-1)<=x/\x<2^Lib.bitLen x:=by
 have e:Lib.bitLen x=Lib.bitLenAux 32 x:=Lib.bitLenAux_fuel 32 x O 64 O;rw [e];exact si 32 x a O
def dw (w wr:World) (gu gq:Nat) (vs:List Nat) (N A k:Nat) (us qs:List Nat):Prop :=
 us.length=N/\qs.length+k+vs.length=N/\Sm us/\Sm qs/\bW wr gu us/\bW wr gq (List.replicate k 0++qs)/\w.grownBy wr none/\ai (us.drop k)<ai vs /\
  A=ai (us.take k)+4294967296^k*(ai qs*ai vs+ai (us.drop k))
theorem dw.next {b:World} {gq:Nat} {N A:Nat} {qs a:List Nat} (h:dw w wr gu gq vs N A (j+1) us qs) (l:ai (us.drop j) / ai vs<4294967296)
  (h1:a.length=N) (h2:a.take j=us.take j) (h3:ai (a.drop j)=ai (us.drop j) % ai vs) (h4:Sm a) (a1:bW b gu a) (a2:bW b gq (List.replicate (j+1) 0++qs)) (hg:w.grownBy b none)
  (hgq:w.heap.size<=gq) (hne:gq≠gu) (z:Int) (hz:z=((ai (us.drop j) / ai vs:Nat):Int)) :
  dw w (b.setCell ⟨gq,j,none⟩ (.int .u32 z)) gu gq vs N A j a ((ai (us.drop j) / ai vs) :: qs):=by
 obtain ⟨y,B,C,t,E,F,G,H,x⟩:=h;have d:0<ai vs:=O
 refine ⟨h1,by simp;omega,h4,Sm.cons l t,?_,?_,ah hg _ _ hgq,by rw [h3];exact Nat.mod_lt _ d,?_⟩
 ·unfold bW;rw [heap_setCell_other _ _ _ _ (fun e=>hne e.symm)];exact a1
 ·have:=a2.set j (ai (us.drop j) / ai vs);rw [hz];have e:(List.replicate (j+1) 0++qs).set j (ai (us.drop j) / ai vs)=List.replicate j 0++(ai (us.drop j) / ai vs) :: qs:=by
   rw [<- List.replicate_append_replicate (n:=j) (m:=1),List.append_assoc,List.set_append_right _ _ Z];simp
  rw [e] at this;exact this
 ·have f:j<us.length:=O
  rw [x,h2,h3,au us j f,Nat.pow_succ];have i:=cN us j;have o:us.getD j 0=us[j]:=by simp [f]
  rw [o] at i;have k:=Nat.div_add_mod (ai (us.drop j)) (ai vs);show _=ai (us.take j)+4294967296^j*((ai (us.drop j) / ai vs+4294967296*ai qs)*ai vs+ai (us.drop j) % ai vs)
  generalize ai (us.drop j)=D at i k ⊢;generalize ai (us.drop (j+1))=D1 at i ⊢;generalize D / ai vs=q at k ⊢;generalize D % ai vs=r at k ⊢;generalize us[j]=u at i ⊢;generalize ai vs=V at k ⊢;generalize ai qs=Q;generalize 4294967296^j=p;have s:(q+4294967296*Q)*V+r=u+4294967296*(Q*V+D1):=by
   rw [Nat.add_mul,Nat.mul_comm q V,Nat.mul_assoc 4294967296 Q V,Nat.mul_add];omega
  rw [s,Nat.mul_add p u,Nat.mul_assoc p];omega
theorem dw.start {gq:Nat} {X s:Nat} (d:Sm us) (f:ai us=X*2^s) (h:X<4294967296^(us.length-1)) (q:s<32) (tt:Nat) (i:0<vs.length) (k:vs.length<us.length) (a:vs[vs.length-1]? = some tt) (l:2147483648<=tt)
  (a1:bW wr gu us) (a2:bW wr gq (List.replicate (us.length-vs.length) 0)) (hg:w.grownBy wr none) :
  dw w wr gu gq vs us.length (X*2^s) (us.length-vs.length) us []:=by
 have hd:=kq us (us.length-vs.length) d O;have m:4294967296^(vs.length-1)*2147483648<=ai vs:=by
  obtain ⟨h1,p⟩:=zY a;have:=gN vs (vs.length-1) h1;rw [p] at this;have b:4294967296^(vs.length-1)*2147483648<=4294967296^(vs.length-1)*(tt+4294967296*ai (vs.drop (vs.length-1+1))):=Nat.mul_le_mul_left _ O;omega
 refine ⟨rfl,by simp;omega,d,Sm.nil,a1,by rw [List.append_nil];exact a2,hg,?_,?_⟩
 ·rw [<- hd,f];have h1:2^s<=2^31:=Nat.pow_le_pow_right zD O;have o:X*2^s<4294967296^(us.length-1)*2147483648:=Nat.lt_of_lt_of_le (Nat.mul_lt_mul_of_pos_right h (Nat.two_pow_pos s)) (Nat.mul_le_mul_left _ h1);have:X*2^s / 4294967296^(us.length-vs.length)<4294967296^(vs.length-1)*2147483648:=by
   rw [Nat.div_lt_iff_lt_mul (Nat.pow_pos zD),Nat.mul_right_comm,<- Nat.pow_add,show vs.length-1+(us.length-vs.length)=us.length-1 from O];exact o
  omega
 ·have e:=bN (us.take (us.length-vs.length)) (us.drop (us.length-vs.length));rw [List.take_append_drop,List.length_take,show min (us.length-vs.length) us.length=us.length-vs.length from O,f] at e;simp only [ai,Nat.zero_mul,Nat.zero_add];exact e
theorem wh {W:List Nat} (d:W.length=n) (h:j+n<=us.length) (e:ai (us.drop (j+n))=0) :
  (us.take j++W++us.drop (j+n)).length=us.length/\(us.take j++W++us.drop (j+n)).take j=us.take j/\ai ((us.take j++W++us.drop (j+n)).drop j)=ai W/\((us.take j++W++us.drop (j+n)).drop j).take n=W /\
   (us.take j++W++us.drop (j+n)).drop (j+n)=us.drop (j+n):=by
 have f:(us.take j).length=j:=by rw [List.length_take];omega
 have a:(us.take j++W).length=j+n:=by rw [List.length_append,f,d]
 have b:(us.take j++W++us.drop (j+n)).drop j=W++us.drop (j+n):=by
  rw [List.append_assoc,List.drop_append_of_le_length O,List.drop_of_length_le O,List.nil_append]
 refine ⟨?_,?_,?_,?_,?_⟩
 ·rw [List.length_append,a,List.length_drop];omega
 ·rw [List.append_assoc,List.take_append_of_le_length O,zT O]
 ·rw [b,bN,e,Nat.mul_zero,Nat.add_zero]
 ·rw [b,List.take_append_of_le_length O,zT O]
 ·rw [List.drop_append_of_le_length O,List.drop_of_length_le O,List.nil_append]
theorem Ws.sub (h:bW w g us) (b:Sm us) (e:j+n<=us.length) (hc:n<=cap) (d:cap<=maxLen):Ws w (.slice (some ⟨g,j,none⟩) n cap) ((us.drop j).take n):=by
 have a:((us.drop j).take n).length=n:=by rw [List.length_take,List.length_drop];omega
 refine ⟨(b.drop j).take n,.inr ⟨g,j,cap,by rw [a],h.lt,O,d,fun i hi=>?_⟩⟩;rw [a] at hi;rw [h.cell (j+i) O];simp
theorem lX {w1 a:World} (h:w.grownBy w1 none) (k:w1.grownBy a (some g)) (hg:w.heap.size<=g):w.grownBy a none :=
 aw (r2:=some g) h k (fun _ _ e=>e) (fun b hb e=>by cases e;omega)
end Go.Proofs.YtkbmbmdemajoaaaGreatDoor
