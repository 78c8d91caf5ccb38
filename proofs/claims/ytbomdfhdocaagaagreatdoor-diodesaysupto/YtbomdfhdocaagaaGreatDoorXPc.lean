/- Contracts. -/
import Derived.Test.YtbomdfhdocaagaaGreatDoorXPa
import Derived.Laws.AppendOwnNone
import Derived.BigQuiet
import Derived.WalkSpells
import Derived.Test.YtbomdfhdocaagaaGreatDoorXShelf
namespace Go.Proofs.YtbomdfhdocaagaaGreatDoor
open Go.RowKit
set_option linter.all false
set_option maxHeartbeats 8000000
set_option maxRecDepth 10000
variable {w wr:World} {xs us vs ys qs:List Nat} {v:Value} {j g gu n c cap:Nat}
def lenOf:Value->Nat
 | .slice _ l _=>l
 | _=>0
def rR (w:World):Calls Tryz.prog 147 #[.slice none 0 0] w fun e a=>e=.returned (.slice none 0 0)/\a=w:=by
 go_enter Tryz.func147,Tryz.ntmps147
 go_wp2;refine wp_loop_rounds 1 ?_;rw [rounds_succ];go_wp2;go_ret;exact ⟨rfl,rfl⟩
def p7 (b off cap:Nat) (xs:List Nat) (w:World) (u:xs.length<=cap) (d:cap<=maxLen)
  (hc:∀ i (h:i<xs.length),w.cell? ⟨b,off+i,none⟩=some (.int .u32 (xs[i]:Nat))) :
  Calls Tryz.prog 147 #[.slice (some ⟨b,off,none⟩) xs.length cap] w fun e t=>e=.returned (.slice (some ⟨b,off,none⟩) (aQ xs).length cap)/\t=w:=by
 unfold maxLen at d;go_enter Tryz.func147,Tryz.ntmps147
 go_wp2;go_loop [0] (fun n=>∃ k:Nat,k<=xs.length/\n=.slice (some ⟨b,off,none⟩) k cap/\aQ (xs.take k)=aQ xs) (fun n=>lenOf n)
 case atStart=>exact ⟨xs.length,zL,rfl,Z⟩
 case round =>
  obtain ⟨k,y,rfl,p⟩:=hrel;have l:Hid (aQ (xs.take k)=aQ xs):=p;clear p;by_cases r:k=0
  ·subst r;go_wp2;go_ret;refine ⟨?_,rfl⟩;rw [<- l];rfl
  ·obtain ⟨j,rfl⟩:∃ j,k=j+1:=⟨k-1,O⟩;have o:=hc j O;have f:j<xs.length:=O
   by_cases a:xs[j]=0
   ·have m:Hid (xs[j]=0):=a;rw [a] at o;clear a hc;go_wp2;go_round
    case rel=>exact ⟨j,O,Z,by rw [<- l,j9 xs j f m]⟩
    case measure=>simp [lenOf]
   ·have m:Hid (xs[j]≠0):=a;obtain ⟨x,q⟩:=eX (xs[j]);rw [<- q] at o a;have s:(((x:Nat):Int)==0)=false:=zB O;clear q a hc;go_wp2;go_ret;refine ⟨?_,rfl⟩;rw [<- l,kQ xs j f m];simp;omega
def DI (v:Value) (xs:List Nat) (w:World) (h:Ws w v xs) :
  Calls Tryz.prog 147 #[v] w fun e w'=>∃ v',e=.returned v'/\w'=w/\Ws w v' (aQ xs)/\ar v'=ar v:=by
 rcases h.sh with ⟨rfl,rfl⟩ | ⟨b,off,cap,rfl,hb,a,d,hc⟩
 ·refine (rR w).mono ?_;rintro e w' ⟨rfl,rfl⟩;exact ⟨_,rfl,rfl,Ws.nil _,rfl⟩
 ·refine (p7 b off cap xs w a d hc).mono ?_;rintro e w' ⟨rfl,rfl⟩;refine ⟨_,rfl,rfl,⟨h.sm.trimL,.inr ⟨b,off,cap,rfl,hb,Nat.le_trans (aZ xs) a,d,?_⟩⟩,rfl⟩;intro i hi;have:=aZ xs;rw [hc i O,lI xs i hi]
def fN (v:Value) (xs:List Nat) (w:World) (h:Ws w v xs) :
  Calls Tryz.prog 147 #[v] w fun e w'=>∃ v',e=.returned v'/\w'=w/\aT w v' (ai xs) xs.length/\ar v'=ar v:=by
 refine (DI v xs w h).mono ?_;rintro e w' ⟨v',rfl,rfl,a,b⟩;exact ⟨v',rfl,rfl,⟨_,a,Tr.trimL _,fh _,aZ _⟩,b⟩
def rP (f:Value) (xs:List Nat) (w:World) (ha:Ws w f xs) :
  Calls Tryz.prog 175 #[f] w fun e i=>e=.returned (.bool (xs==[1]))/\i=w:=by
 obtain ⟨k,l,rfl,d,h,a⟩:=ha.open;clear ha;match xs,a with
 | [],_ =>
  go_enter Tryz.func175,Tryz.ntmps175
  go_wp2;go_ret;exact ⟨rfl,rfl⟩
 | [x],a =>
  obtain ⟨b,off,rfl,hb,hc⟩:=a 0 Z;simp only [Nat.add_zero,List.getElem_cons_zero] at hc;clear a;go_enter Tryz.func175,Tryz.ntmps175
  go_wp2;go_ret;refine ⟨?_,rfl⟩;show Ending.returned (.bool ((x:Int)==1))=_
  congr 2
  rw [Bool.eq_iff_iff];simp;omega
 | x :: y :: r,_ =>
  have hb:((((x :: y :: r).length:Nat):Int)==1)=false:=zB (by simp;omega);generalize hn:(x :: y :: r).length=n at hb d ⊢;go_enter Tryz.func175,Tryz.ntmps175
  go_wp2;go_ret;exact ⟨Z,rfl⟩
def ja (d:Int):Int:=if d<0 then -1 else if 0<d then 1 else 0
def mF (d:Int) (w:World) :
  Calls Tryz.prog 98 #[.int .i64 d] w fun e a=>e=.returned (.int .i64 (ja d))/\a=w:=by
 rcases Int.lt_trichotomy d 0 with h | h | h
 ·go_enter Tryz.func98,Tryz.ntmps98
  go_wp2;go_ret;exact ⟨by simp [ja,h],rfl⟩
 ·subst h;go_enter Tryz.func98,Tryz.ntmps98
  go_wp2;go_ret;exact ⟨by simp [ja],rfl⟩
 ·go_enter Tryz.func98,Tryz.ntmps98
  go_wp2;go_ret;exact ⟨by simp [ja,h];omega,rfl⟩
def gG (H I:Value) (xs ys:List Nat) (w:World) (ha:Ws w H xs) (hb:Ws w I ys) (J:Tr xs) (K:Tr ys) :
  Calls Tryz.prog 99 #[H,I] w fun e w'=>e=.returned (.int .i64 (gZ (ai xs) (ai ys)))/\∃ q,w'=w.drewN q:=by
 obtain ⟨ao,ca,rfl,hj,o,Q⟩:=ha.open;obtain ⟨bo,cb,rfl,hk,p,R⟩:=hb.open;unfold maxLen at o p;have U:=ab Q;have V:=ab R;have L:=ab ha.sm;have M:=ab hb.sm;have W:=ab J;have X:=ab K;clear Q R ha hb J K;by_cases r:xs.length=ys.length
 ·have t:(((xs.length:Nat):Int) != ((ys.length:Nat):Int))=false:=by rw [bne_eq_false_iff_eq];omega
  have HL:=ab r;have Y:xs.length<=ys.length:=O
  have he:ys.length<=xs.length:=O
  clear r;go_enter Tryz.func99,Tryz.ntmps99
  go_wp2;go_loopw [5] (fun i wr=>∃ (z:Int) (q:Nat),-1<=z/\z<xs.length/\i=.int .i64 z/\wr=w.drewN q/\Hid (xs.drop (z+1).toNat=ys.drop (z+1).toNat)) (fun i _=>(intOf i+1).toNat)
  case atStart=>exact ⟨(xs.length:Int)-1,0,O,O,rfl,rfl,by rw [List.drop_of_length_le O,List.drop_of_length_le O];rfl⟩
  case round =>
   obtain ⟨z,q,hm,ho,rfl,rfl,F⟩:=hrel;by_cases h0:z<0
   ·go_wp2;go_ret;refine ⟨?_,q,rfl⟩;have:=F.out;rw [show (z+1).toNat=0 from O] at this;simp only [List.drop_zero] at this;rw [this,tN];rfl
   ·obtain ⟨j,rfl⟩:∃ j:Nat,z=j:=⟨z.toNat,O⟩;have d:j<xs.length:=O
    have f:j<ys.length:=O
    obtain ⟨b,off,rfl,hp,m⟩:=aG U j d;obtain ⟨b2,S,rfl,T,k⟩:=aG V j f;obtain ⟨x,ex⟩:=eX (xs[j]);obtain ⟨y,G⟩:=eX (ys[j]);rw [<- ex] at m;rw [<- G] at k;have u:=ab ex;have A:=ab G;clear ex G;have l:=F.out;rw [show ((j:Int)+1).toNat=j+1 from O] at l;have B:=ab l;clear l F;rcases Nat.lt_trichotomy x y with a | a | a
    ·go_wp2;go_quiet (fail)
     go_wp2;go_ret;refine ⟨?_,_,by simp only [World.drewN_drewN];rfl⟩;rw [qp (gE xs ys j d f L B (by rw [<- u,<- A];exact a))];rfl
    ·have C:=ab a;have N:x<=y:=O
     have P:y<=x:=O
     clear a;go_wp2;go_quiet (fail)
     go_wp2;go_quiet (fail)
     go_wp2;go_roundw
     case rel=>exact ⟨(j:Int)-1,_,O,O,zN,by first | rfl | (simp only [World.drewN_drewN];rfl),by
      rw [show ((j:Int)-1+1).toNat=j from O,List.drop_eq_getElem_cons d,List.drop_eq_getElem_cons f,B,<- u,<- A,C];rfl⟩
     case measure=>simp [intOf]
    ·have hf:¬ ((x:Nat):Int)<((y:Nat):Int):=O
     go_wp2;go_quiet (fail)
     go_wp2;go_quiet (fail)
     go_wp2;go_ret;refine ⟨?_,_,by simp only [World.drewN_drewN];rfl⟩;rw [qn (gE ys xs j f d M B.symm (by rw [<- u,<- A];exact a))];rfl
 ·have t:(((xs.length:Nat):Int) != ((ys.length:Nat):Int))=true:=by rw [bne_iff_ne];omega
  have E:Hid (ja ((xs.length:Int)-(ys.length:Int))=gZ (ai xs) (ai ys)):=by
   rcases Nat.lt_or_ge xs.length ys.length with h | h
   ·show _=_
    rw [qp (cC L X h)];unfold ja;rw [if_pos O]
   ·show _=_
    rw [qn (cC M W O)];unfold ja;rw [if_neg O,if_pos O]
  clear r;go_enter Tryz.func99,Tryz.ntmps99
  go_wp2_with fail;refine (mF _ _).mono ?_;rintro e w1 ⟨rfl,rfl⟩;have D:=E.out;generalize ja ((xs.length:Int)-(ys.length:Int))=s at D ⊢;have E3:=ab D;clear E D;go_wp2;go_ret;exact ⟨by rw [E3];rfl,0,rfl⟩
def jJ (a b:Value) (m n L M:Nat) (w:World) (ha:aT w a m L) (hb:aT w b n M) :
  Calls Tryz.prog 99 #[a,b] w fun e o=>e=.returned (.int .i64 (gZ m n))/\∃ q,o=w.drewN q:=by
 obtain ⟨xs,d,f,h,p⟩:=ha;obtain ⟨ys,i,k,l,r⟩:=hb;rw [<- h,<- l];exact gG a b xs ys w d i f k
def gU (w:World) (base:Nat) (v:Value) (xs:List Nat):Prop:=w.ownsRow base 174 1 v xs.length (aq xs).toList
def oV (w:World) (base:Nat):gU w base (.slice none 0 0) []:=World.ownsRow_nil _ _ _ _
def jX {a:Array Value} (h:a.toList.take (xs.length*1)=(aq xs).toList) (i:Nat) (hi:i<xs.length):a[i]? = some (.int .u32 (xs[i]:Nat)):=by
 have b:(a.toList.take (xs.length*1))[i]? = (aq xs).toList[i]?:=by rw [h]
 rw [List.getElem?_take,if_pos O] at b;simpa [aq,hi] using b
def gU.ws {base:Nat} (h:gU w base v xs) (a:Sm xs):Ws w v xs:=by
 refine ⟨a,?_⟩;rcases h.2 with ⟨rfl,b⟩ | ⟨g,cap,d,rfl,hb,hh,e,f,l,k⟩
 ·exact .inl ⟨rfl,List.eq_nil_of_length_eq_zero b⟩
 ·refine .inr ⟨g,0,cap,rfl,(zZ hh).1,e,f,fun i hi=>?_⟩;rw [Nat.zero_add];simp only [World.cell?,hh];exact jX k i hi
def gU.fresh {base:Nat} (h:gU w base v xs):∀ k,ar v=some k->base<=k/\k<w.heap.size:=by
 intro k a;rcases h.2 with ⟨rfl,d⟩ | ⟨g,cap,b,rfl,hb,hh,e,f,i,l⟩
 ·simp [ar] at a
 ·simp [ar] at a;subst a;exact ⟨hb,(zZ hh).1⟩
def gU.open {base:Nat} (h:gU w base v xs):∃ ao cap,v=.slice ao xs.length cap/\xs.length<=cap/\cap<=maxLen /\
  (ao=none∨∃ g,ao=some ⟨g,0,none⟩/\base<=g/\g<w.heap.size):=by
 rcases h.2 with ⟨rfl,a⟩ | ⟨g,cap,b,rfl,hb,hh,d,e,f,i⟩
 ·exact ⟨none,0,by rw [a],O,by unfold maxLen;omega,.inl rfl⟩
 ·exact ⟨_,cap,rfl,d,e,.inr ⟨g,rfl,hb,(zZ hh).1⟩⟩
def gU.at {base:Nat} (h:gU w base (.slice (some ⟨g,0,none⟩) xs.length cap) xs) (i:Nat) (hi:i<xs.length) :
  w.cell? ⟨g,i,none⟩=some (.int .u32 (xs[i]:Nat))/\w.frozen? ⟨g,i,none⟩=false /\
   ∀ (x:Nat) (z:Int),z=(x:Int)->gU (w.setCell ⟨g,i,none⟩ (.int .u32 z)) base (.slice (some ⟨g,0,none⟩) xs.length cap) (xs.set i x):=by
 rcases h.2 with ⟨a,_⟩ | ⟨o,d,b,a,hb,hh,k,l,m,e⟩
 ·simp at a
 ·simp only [Value.slice.injEq,zI,Addr.mk.injEq,and_true,true_and] at a;obtain ⟨rfl,rfl⟩:=a;refine ⟨?_,?_,?_⟩
  ·simp only [World.cell?,hh];exact jX e i hi
  ·simp [World.frozen?,hh]
  ·intro x z f;refine ⟨by simp [aq],.inr ⟨g,cap,b.setIfInBounds i (.int .u32 z),Z,hb,?_,by simpa using k,l,by simpa using m,?_⟩⟩
   ·rw [heap_setCell_same w g i _ _ _ hh]
   ·subst f;rw [Array.toList_setIfInBounds,List.length_set,List.take_set,e];simp [aq,List.map_set]
def gU.keep {b:World} {base:Nat} {row:Option Nat} (h:gU w base v xs) (hg:w.grownBy b row) (a:∀ k,row=some k->ar v≠some k):gU b base v xs:=by
 refine World.ownsRow.kept h hg ?_;cases row with
 | none=>cases hv:v.ownBlock<;>simp
 | some k =>
  right
  intro e;refine a k rfl ?_;rw [<- e];cases v<;>rfl
def gU.keep0 {a:World} {base:Nat} (h:gU w base v xs) (hg:w.grownBy a none):gU a base v xs:=h.keep hg nofun
def gU.base {base base':Nat} (h:gU w base v xs) (hb:∀ k,ar v=some k->base'<=k):gU w base' v xs:=by
 refine ⟨h.1,?_⟩;rcases h.2 with b | ⟨g,cap,a,rfl,l,hh,d,e,f,i⟩
 ·exact .inl b
 ·exact .inr ⟨g,cap,a,rfl,hb g rfl,hh,d,e,f,i⟩
def bZ.own {base:Nat} (h:bZ w g xs) (hb:base<=g) (a:xs.length<=maxLen):gU w base (.slice (some ⟨g,0,none⟩) xs.length xs.length) xs :=
 ⟨by simp [aq],.inr ⟨g,xs.length,aq xs,rfl,hb,h,zL,a,by simp [aq],zT (by simp [aq])⟩⟩
def oq (v:Value):v.ownBlock=ar v:=by cases v<;>rfl
def ix {w1:World} {r:Option Nat} (h:w.grownBy w1 r) (g i:Nat) (v:Value) (a:r=some g):w.grownBy (w1.setCell ⟨g,i,none⟩ v) r :=
 aw (r2:=some g) h ⟨rfl,rfl,rfl,Z,fun k _ a=>heap_setCell_other _ _ _ _ (fun e=>a (by rw [e]))⟩ (fun _ _ e=>e) (fun b hb e=>by rw [a];exact e)
def Gd (d:Sm ys) (h:ys≠[]->4294967296^(ys.length-1)<=ai ys):Tr ys:=by
 by_cases hy:ys=[]
 ·subst hy;rfl
 ·have e:=h hy;have f:=fh ys;have b:=bD d.trimL;have l:=aZ ys;rw [f] at b;have m:ys.length-1<(aQ ys).length:=(Nat.pow_lt_pow_iff_right (a:=4294967296) zD).1 (Nat.lt_of_le_of_lt e b);have o:0<ys.length:=List.length_pos_iff.2 hy;have k:(aQ ys).length=ys.length:=O
  unfold Tr;apply List.ext_getElem k;intro i hi _;exact lI ys i hi
def ir (w:World) (base:Nat) (v:Value) (n L:Nat):Prop:=∃ xs,gU w base v xs/\Sm xs/\Tr xs/\ai xs=n/\xs.length<=L
def ir.num {base:Nat} {L:Nat} (h:ir w base v n L):aT w v n L:=by
 obtain ⟨xs,a,b,d,e,f⟩:=h;exact ⟨xs,a.ws b,d,e,f⟩
def ir.mono {base:Nat} {L L':Nat} (h:ir w base v n L) (a:L<=L'):ir w base v n L':=by
 obtain ⟨xs,b,d,e,f,i⟩:=h;exact ⟨xs,b,d,e,f,Nat.le_trans i a⟩
def ir.keep0 {a:World} {base:Nat} {L:Nat} (h:ir w base v n L) (hg:w.grownBy a none):ir a base v n L:=by
 obtain ⟨xs,b,d,e,f,i⟩:=h;exact ⟨xs,b.keep0 hg,d,e,f,i⟩
def ir.fresh {base:Nat} {L:Nat} (h:ir w base v n L):∀ k,ar v=some k->base<=k/\k<w.heap.size:=by
 obtain ⟨xs,a,b,d,e,f⟩:=h;exact a.fresh
def ir.base {base base':Nat} {L:Nat} (h:ir w base v n L) (hb:base'<=base):ir w base' v n L:=by
 obtain ⟨xs,a,b,d,e,f⟩:=h;exact ⟨xs,a.base (fun k i=>Nat.le_trans hb (a.fresh k i).1),b,d,e,f⟩
def oL (w wr:World) (base g cap:Nat) (xs:List Nat) (b m i c:Nat):Prop :=
 ∃ mid:List Nat,mid.length=i/\Sm mid/\gU wr base (.slice (some ⟨g,0,none⟩) xs.length cap) (mid++xs.drop i)/\w.grownBy wr (some g)/\ai mid+4294967296^i*c=ai (xs.take i)*b+m
def oL.at {base:Nat} {b m i:Nat} (h:oL w wr base g cap xs b m i c) (hi:i<xs.length) :
  wr.cell? ⟨g,i,none⟩=some (.int .u32 (xs[i]:Nat))/\wr.frozen? ⟨g,i,none⟩=false /\
   ∀ (x:Nat) (z:Int),x=xs[i]->z=(((c+x*b) % 4294967296:Nat):Int)->oL w (wr.setCell ⟨g,i,none⟩ (.int .u32 z)) base g cap xs b m (i+1) ((c+x*b) / 4294967296):=by
 obtain ⟨a,d,q,l,r,s⟩:=h;have f:(a++xs.drop i).length=xs.length:=by simp [d];omega
 rw [<- f] at l;obtain ⟨o,t,u⟩:=l.at i (by rw [f];exact hi);have e:(a++xs.drop i)[i]'(by rw [f];exact hi)=xs[i]:=by
  rw [List.getElem_append_right O];simp [d]
 rw [e] at o;refine ⟨o,t,fun x z y A=>?_⟩;have k:=u _ z A;have p:(a++xs.drop i).set i ((c+x*b) % 4294967296)=(a++[(c+x*b) % 4294967296])++xs.drop (i+1):=by
  rw [List.set_append_right _ _ O,d,Nat.sub_self,List.drop_eq_getElem_cons hi,List.set_cons_zero,List.append_assoc];rfl
 rw [p,f] at k;refine ⟨a++[(c+x*b) % 4294967296],by simp [d],q.snoc _,k,ix r g i _ rfl,?_⟩;rw [aR,d,Nat.pow_succ,Nat.add_assoc,fL,Nat.mul_add,<- Nat.add_assoc,s,au xs i hi,<- y,Nat.add_mul,Nat.mul_assoc];omega
def Bq (x y c:Nat):(((c:Int)+(x:Int)*(y:Int)) / 4294967296)=(((c+x*y) / 4294967296:Nat):Int):=by
 rw [Int.natCast_ediv,Int.natCast_add,Int.natCast_mul];rfl
def xU (x y c:Nat):(((c:Int)+(x:Int)*(y:Int)) % 4294967296)=(((c+x*y) % 4294967296:Nat):Int):=by
 rw [Int.natCast_emod,Int.natCast_add,Int.natCast_mul];rfl
def Grown (w:World) (base:Nat) (v:Value) (xs:List Nat) (b m:Nat) (v':Value) (w':World):Prop :=
 ∃ ys,gU w' base v' ys/\Sm ys/\ai ys=ai xs*b+m/\ys.length<=xs.length+1/\w.grownBy w' (ar v)/\(Tr xs->0<b->Tr ys)
def Br {a:List Nat} {b m:Nat} (f:a.length=xs.length) (i:Sm a) (h:ai a=ai xs*b+m) (k:Tr xs) (hb:0<b):Tr a:=by
 refine Gd i fun d=>?_
 have l:xs≠[]:=by
  intro e;subst e;exact d (List.eq_nil_of_length_eq_zero f)
 have o:=jz k l;rw [f,h];have:ai xs*1<=ai xs*b:=Nat.mul_le_mul_left _ hb;omega
def gU.alloc {base:Nat} (h:gU w base v xs) (o:Obj):gU (w.alloc o) base v xs:=World.ownsRow.alloc h o
def DP (v:Value) (xs:List Nat) (b m:Nat) (w:World) (base:Nat) (h:gU w base v xs) (Y:Sm xs) (hb:b<4294967296) (hm:m<4294967296) (hl:xs.length<=10000000000000) (I:base<=w.heap.size) :
  Calls Tryz.prog 168 #[v,.int .u32 (b:Nat),.int .u32 (m:Nat)] w fun e w'=>∃ v',e=.returned v'/\Grown w base v xs b m v' w':=by
 obtain ⟨i0,Q,R,S,T⟩:=info_parts Tryz.info32;obtain ⟨o,cap,ev,ho,U,A⟩:=h.open;unfold maxLen at U;have J:=ab Y;have l:=ab A;have G:=ab h;subst ev;clear h Y A;go_enter Tryz.func168,Tryz.ntmps168
 go_wp2;go_loopw [7,14] (fun cv iv wr=>∃ i c:Nat,i<=xs.length/\c<4294967296/\iv=.int .i64 i/\cv=.int .u64 c/\Hid (∃ mid:List Nat,mid.length=i/\Sm mid/\gU wr base (.slice o xs.length cap) (mid++xs.drop i)/\w.grownBy wr (ar (.slice o xs.length cap))/\ai mid+4294967296^i*c=ai (xs.take i)*b+m)) (fun _ iv _=>xs.length-(intOf iv).toNat)
 case atStart=>exact ⟨0,m,O,hm,rfl,rfl,[],rfl,Sm.nil,G,ae _ _,by simp [ai]⟩
 case round =>
  obtain ⟨i,c,hi,hc,rfl,rfl,B⟩:=hrel;by_cases hlt:i<xs.length
  ·obtain ⟨g,rfl,hq,hr⟩:∃ g,o=some ⟨g,0,none⟩/\base<=g/\g<w.heap.size:=by
    rcases l.out with e | e
    ·exfalso
     subst e;rcases G.out.2 with ⟨_,e2⟩ | ⟨g,a,V,e2,_⟩
     ·omega
     ·simp at e2
    ·exact e
   obtain ⟨W,hv,f⟩:=oL.at (w:=w) (wr:=wr) (base:=base) (g:=g) (cap:=cap) (xs:=xs) (b:=b) (m:=m) (i:=i) (c:=c) B hlt;have hx:=J.out.get i hlt;obtain ⟨x,ex⟩:=eX (xs[i]);rw [<- ex] at W hx;have K:=ab (f x);have EX:=ab ex;have hp:=mb x b hx hb;have hk:0<=(x:Int)*(b:Int):=Int.mul_nonneg O O;clear f ex B l;go_wp2;go_roundw
   case rel =>
    refine ⟨i+1,(c+x*b) / 4294967296,O,?_,zN,by rw [Bq],K _ EX (by rw [xU])⟩;have:x*b<=4294967295*4294967295:=Nat.mul_le_mul O O;omega
   case measure=>exact bH
  ·obtain rfl:i=xs.length:=O
   obtain ⟨mid,h1,C,D,E,p⟩:=B.out;rw [List.drop_of_length_le zL,List.append_nil] at D;rw [zT zL] at p;by_cases r:c=0
   ·subst r;rw [Nat.mul_zero,Nat.add_zero] at p;have HE:Hid (Grown w base (.slice o xs.length cap) xs b m (.slice o xs.length cap) wr):=⟨mid,D,C,p,O,E,fun tx X=>Br h1 C p tx X⟩;clear h1 C D E p B l G J;go_wp2;go_ret;exact ⟨_,rfl,HE⟩
   ·have s:1<=c:=O
    obtain ⟨k,q⟩:∃ z:Int,z=(c:Int):=⟨_,rfl⟩;have he:0<k:=O
    have hf:k<4294967296:=O
    simp only [<- q];have L:=ab q;clear q s hc;have H:=ab h1;have H2:=ab C;have H3:=ab D;have H4:=ab E;have H5:=ab p;have M:=ab E.size;clear h1 C D E p B l G J r;go_wp2_with (at_builtin;refine wpList_append_own _ rfl _ _ 103 rfl base 174 i0 (.int .u32 0) 1 4 Tryz.underlying103 Q R S T rfl zD _ xs.length (aq mid).toList rfl ?c0 ⟨wr.heap.size,0,none⟩ 1 1 [.int .u32 k] rfl rfl ?c1 ?c2 ?c3 ?c4 ?c5 ?_)
    case c0 =>
     have:=H3.out.alloc (Obj.cells #[Value.int IntKind.u32 k] 174);unfold gU at this;rw [H] at this;exact this
    case c1 =>
     intro j u P;match j with
     | 0 =>
      simp only [List.getElem?_cons_zero,zI] at P;subst P;simp [Addr.add]
     | j+1=>simp at P
    case c2 =>
     intro u hu;simp only [List.mem_singleton] at hu;subst hu;rfl
    case c3=>unfold maxLen;omega
    case c4=>omega
    case c5 =>
     have:=M.out;simp;omega
    intro v' w2 d t y;have HW:=ab d;have N:=ab t;obtain ⟨F,a,rfl⟩:∃ F a,v'=.slice F (xs.length+1) a:=by
     rcases d.2 with ⟨_,e⟩ | ⟨g,a,V,rfl,_⟩
     ·omega
     ·exact ⟨_,_,rfl⟩
    clear d t y;go_wp2;go_ret;refine ⟨_,rfl,mid++[k.toNat],?_,H2.append (Sm.cons O Sm.nil),?_,by simp [H.out],?_,fun _ _=>kP _ _ O⟩
    ·have h1:=HW.out;have e1:(aq mid).toList++[Value.int IntKind.u32 k]=(aq (mid++[k.toNat])).toList:=by
      have e2:k=((k.toNat:Nat):Int):=O
      rw [e2];simp [aq]
     rw [e1] at h1;unfold gU;rw [List.length_append,H];exact h1
    ·rw [aR,H,<- H5];have e2:c=k.toNat:=by have:=L.out;omega
     rw [e2]
    ·refine aw (r1:=ar (.slice o xs.length cap)) (r2:=ar (.slice o xs.length cap)) H4 ?_ (fun _ _ e=>e) (fun _ _ e=>e);have:=N.out;rw [oq] at this;exact aw (r1:=none) (World.grownBy_alloc wr _ none) this nofun (fun _ _ e=>e)
def kW (w wr:World) (base:Nat) (v:Value) (xs:List Nat) (d k r:Nat):Prop :=
 ∃ qs:List Nat,qs.length=xs.length-k/\Sm qs/\gU wr base v (xs.take k++qs)/\w.grownBy wr (ar v)/\ai (xs.drop k)=ai qs*d+r
def kW.at {base:Nat} {d r:Nat} (h:kW w wr base (.slice (some ⟨g,0,none⟩) xs.length cap) xs d (j+1) r) (a:j<xs.length) (hd:r<d) (q:d<4294967296) (s:Sm xs) :
  wr.cell? ⟨g,j,none⟩=some (.int .u32 (xs[j]:Nat))/\wr.frozen? ⟨g,j,none⟩=false /\
   ∀ (x:Nat) (z:Int),x=xs[j]->z=(((r*4294967296+x) / d:Nat):Int)->kW w (wr.setCell ⟨g,j,none⟩ (.int .u32 z)) base (.slice (some ⟨g,0,none⟩) xs.length cap) xs d j ((r*4294967296+x) % d):=by
 obtain ⟨qs,l,A,m,B,C⟩:=h;have b:(xs.take (j+1)++qs).length=xs.length:=by rw [List.length_append,List.length_take,l];omega
 have i:(xs.take j).length=j:=by rw [List.length_take];omega
 rw [jY xs j a] at m b;have f:=m;rw [<- b] at f;obtain ⟨o,D,E⟩:=f.at j (by rw [b];exact a);have e:(xs.take j++[xs[j]]++qs)[j]'(by rw [b];exact a)=xs[j]:=by
  rw [List.getElem_append_left (by rw [List.length_append,i];simp),List.getElem_append_right O];simp [i]
 rw [e] at o;refine ⟨o,D,fun x z p F=>?_⟩;have k:=E _ z F;have t:x<4294967296:=by rw [p];exact s.get j a
 have u:(r*4294967296+x) / d<4294967296:=by
  rw [Nat.div_lt_iff_lt_mul O];have:(r+1)*4294967296<=d*4294967296:=Nat.mul_le_mul_right _ O;rw [Nat.mul_comm 4294967296 d];omega
 have y:(xs.take j++[xs[j]]++qs).set j ((r*4294967296+x) / d)=xs.take j++((r*4294967296+x) / d) :: qs:=by
  rw [List.append_assoc,List.set_append_right _ _ O,i,Nat.sub_self];rfl
 rw [y,b] at k;refine ⟨((r*4294967296+x) / d) :: qs,by simp [l];omega,Sm.cons u A,k,ix B g j _ rfl,?_⟩;rw [List.drop_eq_getElem_cons a,<- p];simp only [ai,C];have e:=Nat.div_add_mod (r*4294967296+x) d;rw [Nat.add_mul,Nat.mul_add,Nat.mul_assoc,Nat.mul_comm ((r*4294967296+x) / d) d];omega
def lk (v:Value) (xs:List Nat) (w:World) (base:Nat) (h:gU w base v xs) (o:Sm xs) :
  Calls Tryz.prog 147 #[v] w fun e w'=>∃ v',e=.returned v'/\w'=w/\gU w base v' (aQ xs)/\ar v'=ar v:=by
 rcases h.2 with ⟨rfl,k⟩ | ⟨g,cap,b,rfl,hb,hh,l,d,m,f⟩
 ·have:xs=[]:=List.eq_nil_of_length_eq_zero k;subst this;refine (rR w).mono ?_;rintro e w' ⟨rfl,rfl⟩;exact ⟨_,rfl,rfl,oV _ _,rfl⟩
 ·refine (p7 g 0 cap xs w l d ?_).mono ?_
  ·intro i hi;rw [Nat.zero_add];simp only [World.cell?,hh];exact jX f i hi
  ·rintro e w' ⟨rfl,rfl⟩;have p:=aZ xs;refine ⟨_,rfl,rfl,⟨by simp [aq],.inr ⟨g,cap,b,rfl,hb,hh,O,d,m,?_⟩⟩,rfl⟩;apply List.ext_getElem?
   intro i;rw [List.getElem?_take];split
   ·rename_i hi;have a:i<(aQ xs).length:=O
    have:=jX f i O;rw [Array.getElem?_toList,this];simp [aq,a,lI xs i a]
   ·rename_i hi;rw [List.getElem?_eq_none];simp [aq];omega
def Bn (x:Nat) (w:World) (a:x<4294967296) :
  Calls Tryz.prog 194 #[.int .u32 x] w fun e d=>∃ v',e=.returned v'/\ir d w.heap.size v' x 1/\w.grownBy d none:=by
 go_enter Tryz.func194,Tryz.ntmps194
 go_wp2_with fail;have ha:bZ (w.alloc (Obj.cells #[Value.int IntKind.u32 (x:Int)] 174)) w.heap.size [x]:=by
  unfold bZ;show (w.heap.push _)[w.heap.size]? = _
  rw [Array.getElem?_push_size];rfl
 have b:=ha.own (base:=w.heap.size) zL (by unfold maxLen;simp);clear ha;refine (lk _ [x] _ w.heap.size b (Sm.cons a Sm.nil)).mono ?_;rintro e w1 ⟨v',rfl,rfl,f,h⟩;clear b;go_wp2;go_ret;refine ⟨v',rfl,⟨_,f,(Sm.cons a Sm.nil).trimL,Tr.trimL _,?_,aZ _⟩,ag (ae _ _) _⟩;rw [fh];simp only [ai];omega
def CO (w:World) (base:Nat) (v:Value) (xs:List Nat) (d:Nat) (v':Value) (w':World):Prop :=
 ∃ ys,gU w' base v' ys/\Sm ys/\Tr ys/\ai ys=ai xs / d/\ys.length<=xs.length/\w.grownBy w' (ar v)/\ar v'=ar v
def qG (v:Value) (xs:List Nat) (d:Nat) (w:World) (base:Nat) (h:gU w base v xs) (G:Sm xs) (i:0<d) (hd:d<4294967296) (hl:xs.length<=10000000000000) :
  Calls Tryz.prog 149 #[v,.int .u32 (d:Nat)] w fun e w'=>∃ v' r,e=.returned (.tuple #[v',.int .u32 (r:Nat)])/\r=ai xs % d/\CO w base v xs d v' w':=by
 obtain ⟨M,cap,ev,hf,C,l⟩:=h.open;unfold maxLen at C;have H:=ab G;have b:=ab l;have o:=ab h;subst ev;clear h G l;go_enter Tryz.func149,Tryz.ntmps149
 go_wp2;go_loopw [6,7] (fun rv iv wr=>∃ (z:Int) (r:Nat),-1<=z/\z<xs.length/\r<d/\iv=.int .i64 z/\rv=.int .u64 r/\Hid (kW w wr base (.slice M xs.length cap) xs d (z+1).toNat r)) (fun _ iv _=>(intOf iv+1).toNat)
 case atStart=>exact ⟨(xs.length:Int)-1,0,O,O,O,rfl,rfl,[],Z,Sm.nil,by
  rw [show ((xs.length:Int)-1+1).toNat=xs.length from O,List.append_nil,zT zL];exact o,ae _ _,by
  rw [List.drop_of_length_le O];simp [ai]⟩
 case round =>
  obtain ⟨z,r,hj,hk,D,rfl,rfl,s⟩:=hrel;by_cases h0:z<0
  ·obtain ⟨qs,t,N,u,P,y⟩:=s.out;rw [show (z+1).toNat=0 from O] at t u y;simp only [List.take_zero,List.nil_append,Nat.sub_zero,List.drop_zero] at t u y;have U:=ab t;have I:=ab N;have V:=ab u;have W:=ab P;have J:=ab y;clear t N u P y s o b;go_wp2_with fail;refine (lk _ qs _ base V I).mono ?_;rintro e w2 ⟨v',rfl,rfl,Q,R⟩;have X:=ab Q;have Y:=ab R;clear Q R;go_wp2;go_ret2
   refine ⟨v',r,rfl,?_,aQ qs,X,I.out.trimL,Tr.trimL _,?_,?_,W,Y⟩
   ·rw [J,Nat.mul_comm,Nat.mul_add_mod,Nat.mod_eq_of_lt D]
   ·rw [fh,J,Nat.mul_comm,Nat.mul_add_div i,Nat.div_eq_of_lt D,Nat.add_zero]
   ·have:=aZ qs;have:=U.out;omega
  ·obtain ⟨j,rfl⟩:∃ j:Nat,z=j:=⟨z.toNat,O⟩;have k:j<xs.length:=O
   obtain ⟨g,rfl,ho,hp⟩:∃ g,M=some ⟨g,0,none⟩/\base<=g/\g<w.heap.size:=by
    rcases b.out with e | e
    ·exfalso
     subst e;rcases o.out.2 with ⟨_,S⟩ | ⟨g,T,hu,S,_⟩
     ·omega
     ·simp at S
    ·exact e
   have f:=s.out;rw [show ((j:Int)+1).toNat=j+1 from O] at f;obtain ⟨E,hv,a⟩:=f.at k D hd H;have K:=H.out.get j k;obtain ⟨x,ex⟩:=eX (xs[j]);rw [<- ex] at E K;have A:=ab (a x);have EX:=ab ex;obtain ⟨m,F⟩:=eX (r*4294967296+x);have B:=jQ r x O K;rw [<- F] at B;have he:m<18446744073709551616:=O
   have p:m / d<4294967296:=by
    rw [Nat.div_lt_iff_lt_mul O];have:(r+1)*4294967296<=d*4294967296:=Nat.mul_le_mul_right _ O;rw [Nat.mul_comm 4294967296 d];omega
   have HQ:=ab p;have L:=ab F;clear a ex s f p F b o;go_wp2;go_roundw
   case rel =>
    refine ⟨(j:Int)-1,m % d,O,O,Nat.mod_lt _ i,rfl,by rw [Int.natCast_emod],?_⟩;rw [show ((j:Int)-1+1).toNat=j from O,L];refine A _ EX ?_;have p:=HQ.out;rw [<- L,<- Int.natCast_ediv];generalize m / d=q at p ⊢;rw [IntWalk.u64_in _ ⟨O,O⟩];omega
   case measure=>simp [intOf]
def jI (v:Value) (xs:List Nat) (w:World) (h:Ws w v xs) (I:xs.length<=10000000000000) :
  Calls Tryz.prog 148 #[v] w fun e t=>∃ v',e=.returned v'/\gU t w.heap.size v' xs/\w.grownBy t none:=by
 obtain ⟨E,hi,l,m,o⟩:=info_parts Tryz.info32;rcases h.sh with ⟨rfl,rfl⟩ | ⟨b,off,cap,rfl,hb,F,G,hc⟩
 ·have y:∀ W,(binOp .eql 103 (.slice none 0 0) (.slice none 0 0)).run Tryz.prog W=.ok (.bool true) W:=fun W=>Lib.run_eql_slice_nil W _ _ none 0 0 0 0 Tryz.underlying103
  go_enter Tryz.func148,Tryz.ntmps148
  go_wp2;go_ret;exact ⟨_,rfl,oV _ _,ae _ _⟩
 ·have z:=ab hc;have J:=ab h;clear hc h;unfold maxLen at G;have y:∀ W,(binOp .eql 103 (.slice (some ⟨b,off,none⟩) xs.length cap) (.slice none 0 0)).run Tryz.prog W=.ok (.bool false) W:=fun W=>Lib.run_eql_slice_nil W _ _ (some _) _ _ 0 0 Tryz.underlying103
  go_enter Tryz.func148,Tryz.ntmps148
  go_wp2_with (at_builtin;refine wpList_append_own _ rfl _ _ 103 rfl w.heap.size 174 E (.int .u32 0) 1 4 Tryz.underlying103 hi l m o rfl zD _ 0 [] rfl ?c0 ⟨b,off,none⟩ xs.length cap (aq xs).toList rfl ?c1 ?c2 ?c3 ?c4 ?c5 ?c6 ?_)
  case c0=>exact World.ownsRow_made w #[] 0 zL (by unfold maxLen;omega) Z
  case c1=>simp [aq]
  case c2 =>
   intro j u D;obtain ⟨p,q⟩:=zY D;have k:j<xs.length:=by simpa [aq] using p
   have:=aG z j k;have A:=(World.grownBy_alloc w (Obj.cells #[] 174) none).cell this Z;rw [show (⟨b,off,none⟩:Addr).add j=⟨b,off+j,none⟩ from by simp [Addr.add]];rw [show u=.int .u32 (xs[j]:Nat) from by rw [<- q];simp [aq]];exact A
  case c3 =>
   intro u r;simp only [aq,List.mem_map] at r;obtain ⟨x,_,rfl⟩:=r;rfl
  case c4=>unfold maxLen;omega
  case c5=>omega
  case c6=>simp
  intro v' w1 a f _;have B:=ab a;have C:=ab f;obtain ⟨i,s,d,rfl⟩:∃ i s d,v'=.slice i s d:=by
   rcases a.2 with ⟨e,_⟩ | ⟨g,d,H,rfl,_⟩
   ·exact ⟨_,_,_,e⟩
   ·exact ⟨_,_,_,rfl⟩
  clear a f;go_wp2;go_ret;refine ⟨_,rfl,B,?_⟩;exact aw (r1:=none) (World.grownBy_alloc w _ none) C (fun _ _ e=>e) (fun b hb e=>by simp [Value.ownBlock] at e;omega)
def kq (w wr:World) (xs:List Nat) (s k c:Nat):Prop :=
 ∃ done:List Nat,done.length=k/\Sm done/\bZ wr w.heap.size (done++c :: List.replicate (xs.length-k) 0)/\w.grownBy wr none/\ai done+4294967296^k*c=ai (xs.take k)*2^s
def kq.step {s k:Nat} (h:kq w wr xs s k c) (f:k<xs.length) (i:s<32) (hc:c<2^s) (x:Nat) (l:x=xs[k]) (b d:Int)
  (hz1:b=((c+x*2^s % 4294967296:Nat):Int)) (hz2:d=((x*2^s / 4294967296:Nat):Int)) :
  kq w ((wr.setCell ⟨w.heap.size,k,none⟩ (.int .u32 b)).setCell ⟨w.heap.size,k+1,none⟩ (.int .u32 d)) xs s (k+1) (x*2^s / 4294967296):=by
 obtain ⟨done,a,o,p,q,r⟩:=h;have hb:=(yA s c x i hc).2;refine ⟨done++[c+x*2^s % 4294967296],by simp [a],o.append (Sm.cons hb Sm.nil),?_,ah (ah q _ _ zL) _ _ zL,?_⟩
 ·have:=(p.set k (c+x*2^s % 4294967296)).set (k+1) (x*2^s / 4294967296);rw [hz1,hz2];have e:((done++c :: List.replicate (xs.length-k) 0).set k (c+x*2^s % 4294967296)).set (k+1) (x*2^s / 4294967296)
    = (done++[c+x*2^s % 4294967296])++(x*2^s / 4294967296) :: List.replicate (xs.length-(k+1)) 0:=by
   obtain ⟨m,t⟩:∃ m,xs.length-k=m+1:=⟨xs.length-k-1,O⟩;rw [t,show xs.length-(k+1)=m from O];subst a;rw [List.set_append_right _ _ zL,List.set_append_right _ _ O];simp [List.replicate_succ]
  rw [e] at this;exact this
 ·rw [aR,a,au xs k f,<- l,Nat.add_mul,<- r,Nat.pow_succ,Nat.mul_add,Nat.mul_assoc (4294967296^k) x];have:=fL (4294967296^k) (x*2^s);omega
def Fe (x s:Nat) (a:x<4294967296) (b:s<32):IntKind.u64.wrap ((x:Int)*2^s) / 4294967296 % 4294967296=((x*2^s / 4294967296:Nat):Int):=by
 have h:=(kL x s a b).2;rw [(kL x s a b).1];omega
def wE (A:Value) (xs:List Nat) (s:Nat) (w:World) (ha:Ws w A xs) (r:s<32) (S:xs.length<=10000000000000) :
  Calls Tryz.prog 196 #[A,.int .i64 (s:Nat)] w fun e C=>∃ us,e=.returned (.slice (some ⟨w.heap.size,0,none⟩) (xs.length+1) (xs.length+1))/\us.length=xs.length+1/\Sm us/\bZ C w.heap.size us/\ai us=ai xs*2^s/\w.grownBy C none:=by
 obtain ⟨T,U,rfl,P,o,B⟩:=ha.open;unfold maxLen at o;have D:=ab B;have E:=ab ha.sm;clear B ha;go_enter Tryz.func196,Tryz.ntmps196
 go_wp2_with (at_make;refine aE _ rfl _ _ 103 rfl Tryz.underlying103 Tryz.info32 _ _ _ _ (xs.length+1) rfl rfl O O O ?_)
 intro w1 d l;have F:=ab d;have G:=ab l;clear d l;go_wp2;go_loopw [15] (fun i wr=>∃ k c:Nat,k<=xs.length/\i=.int .i64 k/\Hid (c<2^s)/\Hid (kq w wr xs s k c)) (fun i _=>xs.length-(intOf i).toNat)
 case atStart=>exact ⟨0,0,Nat.zero_le _,rfl,Nat.two_pow_pos s,[],rfl,Sm.nil,by
  have:=F.out;rw [List.replicate_succ] at this;exact this,G,by simp [ai]⟩
 case round =>
  obtain ⟨k,c,V,rfl,t,u⟩:=hrel;by_cases hlt:k<xs.length
  ·obtain ⟨b,off,rfl,Q,a⟩:=aG D k hlt;have p:=(aG E).get k hlt;obtain ⟨x,ex⟩:=eX (xs[k]);rw [<- ex] at a p;have H:=ab ex;clear ex;obtain ⟨done,f,y,h,q,z⟩:=u.out;have I:wr.cell? ⟨b,off+k,none⟩=some (.int .u32 (x:Nat)):=q.cell a Z;have J:wr.frozen? ⟨w.heap.size,k,none⟩=false:=h.free k;have K:wr.frozen? ⟨w.heap.size,k+1,none⟩=false:=h.free (k+1);have L:wr.cell? ⟨w.heap.size,k,none⟩=some (.int .u32 (c:Nat)):=by
    rw [h.cell k (by simp [f])];simp [f]
   have M:wr.cell? ⟨w.heap.size,k+1,none⟩=some (.int .u32 ((0:Nat):Int)):=by
    rw [h.cell (k+1) (by simp [f];omega)];obtain ⟨m,R⟩:∃ m,xs.length-k=m+1:=⟨xs.length-k-1,O⟩;simp [f,R,List.replicate_succ]
   clear f y h q z a;go_wp2;go_roundw
   case rel=>exact ⟨k+1,x*2^s / 4294967296,O,zN,Ee x s p,kq.step u hlt r t x H _ _ (Aa c x s p r t) (Fe x s p r)⟩
   case measure=>exact bH
  ·obtain rfl:k=xs.length:=O
   go_wp2;go_ret;obtain ⟨done,f,y,h,q,z⟩:=u.out;rw [Nat.sub_self,List.replicate_zero] at h;have hc:=t.out;have N:2^s<=2^31:=Nat.pow_le_pow_right zD O;refine ⟨done++[c],rfl,by simp [f],y.append (Sm.cons O Sm.nil),h,?_,q⟩;rw [aR,f,z,zT zL]
def AA (xs:List Nat) (s:Nat):List Nat:=(List.range xs.length).map fun i=>(xs.getD i 0+4294967296*xs.getD (i+1) 0) / 2^s % 4294967296
def eY (xs:List Nat) (s:Nat):(AA xs s).length=xs.length:=by simp [AA]
def AB (xs:List Nat) (s i:Nat) (h:i<(AA xs s).length):(AA xs s)[i]=(xs.getD i 0+4294967296*xs.getD (i+1) 0) / 2^s % 4294967296:=by simp [AA]
def Fu (xs:List Nat) (s:Nat):Sm (AA xs s):=fun x a=>by
 simp only [AA,List.mem_map] at a;obtain ⟨i,_,rfl⟩:=a;exact Nat.mod_lt _ zD
def Fv (xs:List Nat) (s:Nat) (h:Sm xs) (b:s<32) (k:Nat) (f:k<=xs.length):ai ((AA xs s).take k)=ai xs / 2^s % 4294967296^k:=by
 induction k with
 | zero=>simp [ai,Nat.mod_one]
 | succ k ih =>
  have a:k<xs.length:=O
  rw [au _ k (by rw [eY];exact a),ih O,AB];have e:=qy xs s k h b a;have d:xs.getD k 0=xs[k]:=by simp [a]
  rw [d,<- e,Nat.pow_succ,Nat.mod_mul]
def rsh_val (xs:List Nat) (s:Nat) (h:Sm xs) (b:s<32):ai (AA xs s)=ai xs / 2^s:=by
 have a:=Fv xs s h b xs.length zL;rw [zT (by rw [eY];exact zL)] at a;have d:=bD h;have e:=Nat.div_le_self (ai xs) (2^s);rw [a,Nat.mod_eq_of_lt O]
def pD (w wr:World) (xs:List Nat) (s k:Nat):Prop:=bZ wr w.heap.size (List.replicate k 0++(AA xs s).drop k)/\w.grownBy wr none
def pD.step {s:Nat} (h:pD w wr xs s (j+1)) (a:j<xs.length) (x y:Nat) (b:x=xs[j]) (hy:y=xs.getD (j+1) 0) (z:Int) (hz:z=(((y*4294967296+x) / 2^s % 4294967296:Nat):Int)) :
  pD w (wr.setCell ⟨w.heap.size,j,none⟩ (.int .u32 z)) xs s j:=by
 obtain ⟨f,k⟩:=h;refine ⟨?_,ah k _ _ zL⟩;have:=f.set j ((y*4294967296+x) / 2^s % 4294967296);rw [hz];have e:(List.replicate (j+1) 0++(AA xs s).drop (j+1)).set j ((y*4294967296+x) / 2^s % 4294967296)=List.replicate j 0++(AA xs s).drop j:=by
  rw [<- List.replicate_append_replicate (n:=j) (m:=1),List.append_assoc,List.set_append_right _ _ Z,List.drop_eq_getElem_cons (i:=j) (by rw [eY];exact a),AB];have d:xs.getD j 0=x:=by rw [b];simp [a]
  rw [d,<- hy,Nat.mul_comm y,Nat.add_comm (4294967296*y)];simp
 rw [e] at this;exact this
def BH (E:Value) (xs:List Nat) (s:Nat) (w:World) (ha:Ws w E xs) (P:s<32) (hl:xs.length<=10000000000000) :
  Calls Tryz.prog 200 #[E,.int .i64 (s:Nat)] w fun e N=>∃ v',e=.returned v'/\ir N w.heap.size v' (ai xs / 2^s) xs.length/\w.grownBy N none:=by
 obtain ⟨ao,ca,rfl,he,o,J⟩:=ha.open;unfold maxLen at o;have Q:=ab J;have F:=ab ha.sm;clear J ha;go_enter Tryz.func200,Tryz.ntmps200
 go_wp2_with (at_make;refine aE _ rfl _ _ 103 rfl Tryz.underlying103 Tryz.info32 _ _ _ _ xs.length rfl rfl O O O ?_)
 intro w1 i l;have R:=ab i;have S:=ab l;clear i l;go_wp2;go_loopw [6,7] (fun av iv wr=>∃ (z:Int) (y:Nat),-1<=z/\z<xs.length/\y<4294967296/\iv=.int .i64 z/\av=.int .u64 y/\Hid (y=xs.getD (z+1).toNat 0)/\Hid (pD w wr xs s (z+1).toNat)) (fun _ iv _=>(intOf iv+1).toNat)
 case atStart =>
  have e:((xs.length:Int)-1+1).toNat=xs.length:=O
  refine ⟨(xs.length:Int)-1,0,O,O,O,rfl,rfl,?_,?_,S⟩
  ·show 0=_
   rw [e];simp [List.getD]
  ·rw [e,List.drop_of_length_le (by rw [eY];exact zL),List.append_nil];exact R
 case round =>
  obtain ⟨z,y,hf,hj,hy,rfl,rfl,C,p⟩:=hrel;by_cases h0:z<0
  ·go_wp2_with fail;obtain ⟨q,K⟩:=p.out;rw [show (z+1).toNat=0 from O] at q;simp only [List.replicate_zero,List.nil_append,List.drop_zero] at q;have r:=q.own (base:=w.heap.size) zL (by rw [eY];unfold maxLen;omega);rw [eY] at r;clear q;refine (lk _ (AA xs s) _ w.heap.size r (Fu xs s)).mono ?_;rintro e w2 ⟨v',rfl,rfl,L,M⟩;have T:=ab L;have K2:=ab M;have U:=ab K;clear r L M K p C;go_wp2;go_ret;refine ⟨v',rfl,⟨_,T,(Fu xs s).trimL,Tr.trimL _,?_,?_⟩,U⟩
   ·rw [fh,rsh_val xs s F P]
   ·have:=aZ (AA xs s);rw [eY] at this;exact this
  ·obtain ⟨j,rfl⟩:∃ j:Nat,z=j:=⟨z.toNat,O⟩;have h:j<xs.length:=O
   have G:((j:Int)+1).toNat=j+1:=O
   obtain ⟨b,off,rfl,hk,d⟩:=aG Q j h;have t:=(aG F).get j h;obtain ⟨x,ex⟩:=eX (xs[j]);rw [<- ex] at d t;have H:=ab ex;have f:=p.out;have k:=C.out;rw [G] at f k;have u:wr.cell? ⟨b,off+j,none⟩=some (.int .u32 (x:Nat)):=f.2.cell d Z;have V:wr.frozen? ⟨w.heap.size,j,none⟩=false:=f.1.free j;obtain ⟨v0,ho⟩:∃ v,wr.cell? ⟨w.heap.size,j,none⟩=some v:=⟨_,f.1.cell j (by simp;omega)⟩;obtain ⟨m,D⟩:=eX (y*4294967296+x);have A:=jQ y x hy t;rw [<- D] at A;have W:m<18446744073709551616:=O
   have X:=ab D;have Y:=ab f;have B:=ab k;have I:∀ v,(wr.setCell ⟨w.heap.size,j,none⟩ v).cell? ⟨b,off+j,none⟩=some (.int .u32 (x:Nat)):=by
    intro v;rw [World.cell?_of_block (w:=wr) (a:=⟨b,off+j,none⟩) (heap_setCell_other _ _ _ _ (by show b≠w.heap.size;omega))];exact u
   clear d ex p f C k D G;go_wp2;go_roundw
   case rel =>
    refine ⟨(j:Int)-1,x,O,O,t,rfl,rfl,?_,?_⟩
    ·show x=_
     rw [show ((j:Int)-1+1).toNat=j from O,H];simp [h]
    ·rw [show ((j:Int)-1+1).toNat=j from O];refine pD.step Y h x y H B _ ?_;rw [mT,<- X];omega
   case measure=>simp [intOf]
def GuessR (hh vt U V:Nat) (gv rv:Value):Prop:=∃ g r:Nat,gv=.int .u64 g/\rv=.int .u64 r/\r<4294967296/\g<18446744073709551616/\Hid (g*vt+r=hh/\U / V<=g)
def Guessed (U V:Nat) (w:World) (e:Ending) (w':World):Prop:=∃ g q:Nat,e=.returned (.int .u64 (g:Nat))/\g<4294967296/\U / V<=g/\g<=U / V+1/\w'=w.drewN q
def DQ (S T:Value) (W vs:List Nat) (n:Nat) (w:World) (q:Ws w S W) (hy:Ws w T vs) (hn:vs.length=n+2) (I:W.length=n+3) (s:2147483648<=vs.getD (n+1) 0) (hlt:ai W<4294967296*ai vs) :
  Calls Tryz.prog 197 #[S,T] w fun e w'=>Guessed (ai W) (ai vs) w e w':=by
 have h:2147483648<=vs[n+1]:=by
  have e:vs.getD (n+1) 0=vs[n+1]:=by simp [List.getD,hn]
  omega
 have kd:=kd_of vs W n hn I hy.sm q.sm h hlt;obtain ⟨ao,ca,ea,K,C,F⟩:=q.open;obtain ⟨bo,cb,eb,L,D,M⟩:=hy.open;obtain ⟨b1,o1,rfl,hl,c1⟩:=F (n+2) O;obtain ⟨_,_,e2,_,c2⟩:=F (n+1) O;obtain ⟨_,_,e3,_,c3⟩:=F n O;simp only [zI,Addr.mk.injEq,and_true] at e2 e3;obtain ⟨rfl,rfl⟩:=e2;obtain ⟨rfl,rfl⟩:=e3;obtain ⟨b2,o2,rfl,hm,c4⟩:=M (n+1) O;obtain ⟨_,_,e5,_,c5⟩:=M n O;simp only [zI,Addr.mk.injEq,and_true] at e5;obtain ⟨rfl,rfl⟩:=e5;have U:=q.sm.get (n+2) O;have V:=q.sm.get (n+1) O;have X:=q.sm.get n O;have B4:=hy.sm.get (n+1) O;have Y:=hy.sm.get n O;generalize W[n+2]=ua at c1 kd U;generalize W[n+1]=ub at c2 kd V;generalize W[n]=uc at c3 kd X;generalize vs[n+1]=vt at c4 kd h B4;generalize vs[n]=vn at c5 kd Y;have KD:=ab kd;rw [I] at ea K;rw [hn] at eb L;subst ea eb;unfold maxLen at C D;have i:=jQ ua ub U V;obtain ⟨hh,G⟩:=eX (ua*4294967296+ub);rw [<- G] at i;have k:=ab G;have hf:hh<18446744073709551616:=O
 have he:((vt:Int)==0)=false:=zB O;have l:hh / vt*vt+hh % vt=hh:=by rw [Nat.mul_comm];exact Nat.div_add_mod hh vt
 have u:=Nat.mod_lt hh (show 0<vt by omega);have x:hh / vt<=hh:=Nat.div_le_self _ _;obtain ⟨Q,E⟩:=eX (hh / vt);obtain ⟨R,H⟩:=eX (hh % vt);rw [<- E,<- H] at l;rw [<- H] at u;rw [<- E] at x;have o:(hh:Int) / (vt:Int)=(Q:Int):=by rw [E,Int.natCast_ediv]
 have p:(hh:Int) % (vt:Int)=(R:Int):=by rw [H,Int.natCast_emod]
 have y:(hh:Int).tdiv (vt:Int)=(Q:Int):=by rw [Int.tdiv_eq_ediv_of_nonneg O];exact o
 have z:(hh:Int).tmod (vt:Int)=(R:Int):=by rw [Int.tmod_eq_emod_of_nonneg O];exact p
 have b:ai W / ai vs<=Q:=by rw [E,G];exact kd.init
 have A:=ab (And.intro l b);clear F M q hy s hlt kd G E H l b hn I;go_enter Tryz.func197,Tryz.ntmps197
 go_wp2;go_quiet (fail)
 go_wp2;go_quiet (fail)
 go_wp2;go_quiet (fail)
 go_wp2;go_loop [9,10] (fun P rv=>GuessR hh vt (ai W) (ai vs) P rv) (fun P _=>(intOf P).toNat)
 case atStart=>exact ⟨Q,R,by first | rfl | rw [o] | rw [y],by first | rfl | rw [p] | rw [z],O,O,A⟩
 case round =>
  clear A o p y z u x i;obtain ⟨g,r,rfl,rfl,hr,hg,f⟩:=hrel;have i:=jQ r uc hr X;obtain ⟨m,N⟩:=eX (r*4294967296+uc);rw [<- N] at i;have EM:=ab N;have hj:m<18446744073709551616:=O
  clear N;by_cases B:4294967296<=g
  ·have t:=ab (KD.keep (by rw [<- k];exact f.1) (.inl B));have a:1<=g:=O
   by_cases d:r+vt<4294967296
   ·go_wp2;go_round
    case rel=>exact ⟨g-1,r+vt,zN,zN,d,O,bT f.1 a,by have:=t.out;omega⟩
    case measure=>exact bH
   ·go_wp2;go_ret;have hb:=KD.out.brk (by rw [<- k];exact bT f.1 a) (Nat.le_of_not_lt d);refine ⟨g-1,_,zN,hb.1,by have:=t.out;omega,KD.exit (by rw [<- k];exact bT f.1 a) hb.1 hb.2,by first | rfl | (simp only [World.drewN_drewN];rfl)⟩
  ·have hp:(g:Int)*(vn:Int)<=18446744065119617025:=mb g vn O Y;have hk:0<=(g:Int)*(vn:Int):=Int.mul_nonneg O O;by_cases s:m<g*vn
   ·have h:(m:Int)<(g:Int)*(vn:Int):=by rw [<- Int.natCast_mul];omega
    have t:=ab (KD.keep (by rw [<- k];exact f.1) (.inr (by rw [<- EM];exact s)));have a:1<=g:=Nat.lt_of_le_of_lt (Nat.zero_le _) t;clear s;by_cases d:r+vt<4294967296
    ·go_wp2;go_round
     case rel=>exact ⟨g-1,r+vt,zN,zN,d,O,bT f.1 a,by have:=t.out;omega⟩
     case measure=>exact bH
    ·go_wp2;go_ret;have hb:=KD.out.brk (by rw [<- k];exact bT f.1 a) (Nat.le_of_not_lt d);refine ⟨g-1,_,zN,hb.1,by have:=t.out;omega,KD.exit (by rw [<- k];exact bT f.1 a) hb.1 hb.2,by first | rfl | (simp only [World.drewN_drewN];rfl)⟩
   ·have h:¬ (m:Int)<(g:Int)*(vn:Int):=by rw [<- Int.natCast_mul];omega
    have J:=ab s;clear s;go_wp2;go_ret;refine ⟨g,_,rfl,O,f.2,KD.exit (by rw [<- k];exact f.1) O (by have:=J.out;rw [<- EM];omega),by first | rfl | (simp only [World.drewN_drewN];rfl)⟩
def jC (w wr:World) (gu:Nat) (us vs:List Nat) (j g k c:Nat):Prop :=
 ∃ mid:List Nat,mid.length=k/\Sm mid/\bZ wr gu (us.take j++mid++us.drop (j+k))/\w.grownBy wr (some gu)/\ai mid+g*ai (vs.take k)=ai ((us.drop j).take k)+4294967296^k*c
def nf {a:List Nat} {k:Nat} (b:bZ wr gu (us.take j++a++us.drop (j+k))) (d:a.length=k) (e:j+k<us.length):wr.cell? ⟨gu,j+k,none⟩=some (.int .u32 (us[j+k]:Nat)):=by
 have hg:=nh us a j k d e;obtain ⟨f,h⟩:=zY hg;have:=b.cell (j+k) f;rw [h] at this;exact this
def jC.at {k:Nat} (h:jC w wr gu us vs j g k c) (m:k<vs.length) (l:j+k<us.length) :
  wr.cell? ⟨gu,j+k,none⟩=some (.int .u32 (us[j+k]:Nat))/\wr.frozen? ⟨gu,j+k,none⟩=false /\
  ∀ (x e v:Nat) (z:Int),z=(x:Int)->x<4294967296->v=vs[k]->x+(c+g*v) % 4294967296=us[j+k]+4294967296*e ->
   jC w (wr.setCell ⟨gu,j+k,none⟩ (.int .u32 z)) gu us vs j g (k+1) ((c+g*v) / 4294967296+e):=by
 obtain ⟨a,b,s,i,t,y⟩:=h;refine ⟨nf i b l,i.free _,?_⟩;intro x e v z o q r f;refine ⟨a++[x],by simp [b],s.append (Sm.cons q Sm.nil),?_,ix t gu _ _ rfl,?_⟩
 ·have:=i.set (j+k) x;rw [iQ us a j k x b l] at this;rw [o];exact this
 ·rw [aR,b,au vs k m,au (us.drop j) k (by rw [List.length_drop];omega),List.getElem_drop,Nat.pow_succ,<- r];have d:=Nat.mod_add_div (c+g*v) 4294967296;generalize (c+g*v) % 4294967296=lo at f d;generalize (c+g*v) / 4294967296=hi at d ⊢;generalize us[j+k]=u at f ⊢;generalize 4294967296^k=p at y ⊢;rw [Nat.mul_add g,Nat.mul_left_comm g p v];have A:p*x+p*lo=p*u+p*(4294967296*e):=by
   rw [<- Nat.mul_add,<- Nat.mul_add,f]
  have B:p*lo+p*(4294967296*hi)=p*c+p*(g*v):=by
   rw [<- Nat.mul_add,<- Nat.mul_add,d]
  rw [Nat.mul_assoc,Nat.mul_add 4294967296,Nat.mul_add p];omega
def jC.top (h:jC w wr gu us vs j g vs.length c) (f:j+vs.length<us.length) :
  wr.cell? ⟨gu,j+vs.length,none⟩=some (.int .u32 (us[j+vs.length]:Nat))/\wr.frozen? ⟨gu,j+vs.length,none⟩=false /\
  ∀ (x e:Nat) (z:Int),z=(x:Int)->x<4294967296->x+c=us[j+vs.length]+4294967296*e ->
  ∃ W:List Nat,W.length=vs.length+1/\Sm W/\bZ (wr.setCell ⟨gu,j+vs.length,none⟩ (.int .u32 z)) gu (us.take j++W++us.drop (j+(vs.length+1))) /\
   w.grownBy (wr.setCell ⟨gu,j+vs.length,none⟩ (.int .u32 z)) (some gu)/\ai W+g*ai vs=ai ((us.drop j).take (vs.length+1))+4294967296^(vs.length+1)*e/\W[vs.length]? = some x:=by
 obtain ⟨a,b,o,d,q,k⟩:=h;refine ⟨nf d b f,d.free _,?_⟩;intro x e z l m i;refine ⟨a++[x],by simp [b],o.append (Sm.cons m Sm.nil),?_,ix q gu _ _ rfl,?_,by rw [List.getElem?_append_right O];simp [b]⟩
 ·have:=d.set (j+vs.length) x;rw [iQ us a j vs.length x b f] at this;rw [l];exact this
 ·rw [zT (Nat.le_refl vs.length)] at k;rw [aR,b,au (us.drop j) vs.length (by rw [List.length_drop];omega),List.getElem_drop,Nat.pow_succ];generalize us[j+vs.length]=u at i ⊢;generalize 4294967296^vs.length=p at k ⊢;have r:p*x+p*c=p*u+p*(4294967296*e):=by
   rw [<- Nat.mul_add,<- Nat.mul_add,i]
  rw [Nat.mul_assoc p];omega
def CP (w w':World) (gu:Nat) (us vs:List Nat) (j g E:Nat):Prop :=
 ∃ W:List Nat,W.length=vs.length+1/\Sm W/\bZ w' gu (us.take j++W++us.drop (j+(vs.length+1)))/\w.grownBy w' (some gu)/\ai W+g*ai vs=ai ((us.drop j).take (vs.length+1))+4294967296^(vs.length+1)*E
def qU (u lo:Nat) (b:u<4294967296) (a:lo<4294967296):∃ x:Nat,IntKind.u32.wrap ((u:Int)-(lo:Int))=(x:Int)/\x<4294967296/\x+lo=u+4294967296*(if u<lo then 1 else 0):=by
 rw [IntKind.wrap_u32];by_cases h:u<lo
 ·exact ⟨4294967296+u-lo,O,O,by rw [if_pos h];omega⟩
 ·exact ⟨u-lo,O,O,by rw [if_neg h];omega⟩
def TakeR (w:World) (gu:Nat) (us vs:List Nat) (j g:Nat) (cv iv:Value) (wr:World):Prop :=
 ∃ k c:Nat,k<=vs.length/\c<4294967296/\iv=.int .i64 k/\cv=.int .u64 c/\Hid (jC w wr gu us vs j g k c)
def TakeE (w:World) (gu:Nat) (us vs:List Nat) (j g:Nat) (e:Ending) (w':World):Prop:=∃ E:Nat,E<=1/\e=.returned (.bool (E==1))/\CP w w' gu us vs j g E
def Cu (g v c:Nat) (hg:g<4294967296) (a:v<4294967296) (hc:c<4294967296):c+g*v<18446744069414584321:=by
 have:g*v<=4294967295*4294967295:=Nat.mul_le_mul O O;omega
def xi (gu j G:Nat) (us vs:List Nat) (H:Value) (g:Nat) (w:World) (ha:bZ w gu us) (hy:Ws w H vs) (S:Sm us) (s:ar H≠some gu) (U:j+vs.length<us.length) (hg:g<4294967296) (hl:us.length<=10000000000001) (Y:vs.length+1<=G) (I:G<=maxLen) (he:0<vs.length) :
  Calls Tryz.prog 198 #[.slice (some ⟨gu,j,none⟩) (vs.length+1) G,H,.int .u64 (g:Nat)] w fun e w'=>TakeE w gu us vs j g e w':=by
 obtain ⟨bo,cb,eb,hr,C,X⟩:=hy.open;unfold maxLen at I C;have J:=ab X;have SB:=ab hy.sm;have V:=ab S;have HA:=ab ha;have hf:=ha.lt;subst eb;have K:=ab s;clear X hy S ha s;go_enter Tryz.func198,Tryz.ntmps198
 go_wp2;go_loopw [7,14] (fun cv iv wr=>TakeR w gu us vs j g cv iv wr) (fun _ iv _=>vs.length-(intOf iv).toNat)
 case atStart=>exact ⟨0,0,O,O,rfl,rfl,[],rfl,Sm.nil,by rw [List.append_nil,Nat.add_zero,List.take_append_drop];exact HA,ae _ _,by simp [ai]⟩
 case round =>
  obtain ⟨k,c,hk,hc,rfl,rfl,D⟩:=hrel;by_cases hlt:k<vs.length
  ·obtain ⟨b,off,rfl,hw,h⟩:=aG J k hlt;have L:=SB.out.get k hlt;have M:b≠gu:=by
    intro e;exact K (by rw [e];rfl)
   have t:j+k<us.length:=O
   obtain ⟨p,Q,i⟩:=D.out.at hlt t;have y:=V.out.get (j+k) t;have A:w.grownBy wr (some gu):=by obtain ⟨_,_,_,_,h4,_⟩:=D.out;exact h4
   have N:=A.cell h (by show some b≠some gu;intro e;exact M (by simpa using e));obtain ⟨v,R⟩:=eX (vs[k]);obtain ⟨u,q⟩:=eX (us[j+k]);rw [<- R] at N L;rw [<- q] at p y;have hp:=Cu g v c hg L hc;obtain ⟨T,F⟩:=eX (c+g*v);have hm:(c:Int)+(g:Int)*(v:Int)=(T:Int):=by rw [F,Int.natCast_add,Int.natCast_mul]
   have ho:(g:Int)*(v:Int)<=18446744065119617025:=mb g v hg L;have hq:0<=(g:Int)*(v:Int):=Int.mul_nonneg O O;rw [<- F] at hp;obtain ⟨x,l,r,a⟩:=qU u (T % 4294967296) y (Nat.mod_lt _ zD);have HX:=ab l;have B:Hid (∀ (e:Nat) (z:Int),z=(x:Int)->x+T % 4294967296=u+4294967296*e->jC w (wr.setCell ⟨gu,j+k,none⟩ (.int .u32 z)) gu us vs j g (k+1) (T / 4294967296+e)):=by
    intro e z P E;rw [F] at E ⊢;exact i x e v z P r R (by rw [<- q];exact E)
   clear i R q F D h l A J;by_cases f:u<T % 4294967296
   ·rw [if_pos f] at a;have d:=ab a;clear a;go_wp2;go_roundw
    case rel=>exact ⟨k+1,T / 4294967296+1,O,O,zN,zN,B 1 _ (by have:=d.out;omega) (by have:=d.out;omega)⟩
    case measure=>exact bH
   ·rw [if_neg f] at a;have d:=ab a;clear a;go_wp2;go_roundw
    case rel=>exact ⟨k+1,T / 4294967296+0,O,O,zN,Z,B 0 _ (by have:=d.out;omega) (by have:=d.out;omega)⟩
    case measure=>exact bH
  ·obtain rfl:k=vs.length:=O
   obtain ⟨p,Q,o⟩:=D.out.top U;have y:=V.out.get (j+vs.length) U;obtain ⟨u,q⟩:=eX (us[j+vs.length]);rw [<- q] at p y;obtain ⟨x,l,r,a⟩:=qU u c y hc;have m:Hid (∀ (e:Nat) (z:Int),z=(x:Int)->x+c=u+4294967296*e->CP w (wr.setCell ⟨gu,j+vs.length,none⟩ (.int .u32 z)) gu us vs j g e):=by
    intro e z P E;obtain ⟨W,k1,k2,k3,k4,k5,_⟩:=o x e z P r (by rw [<- q];exact E);exact ⟨W,k1,k2,k3,k4,k5⟩
   clear o q l D J;by_cases f:u<c
   ·rw [if_pos f] at a;have d:=ab a;clear a;go_wp2;go_ret;exact ⟨1,O,rfl,m 1 _ (by have:=d.out;omega) d⟩
   ·rw [if_neg f] at a;have d:=ab a;clear a;go_wp2;go_ret;exact ⟨0,O,rfl,m 0 _ (by have:=d.out;omega) d⟩
def kV (w wr:World) (gu:Nat) (us vs:List Nat) (j k c:Nat):Prop :=
 ∃ mid:List Nat,mid.length=k/\Sm mid/\bZ wr gu (us.take j++mid++us.drop (j+k))/\w.grownBy wr (some gu)/\ai mid+4294967296^k*c=ai ((us.drop j).take k)+ai (vs.take k)
def kV.at {k:Nat} (h:kV w wr gu us vs j k c) (f:k<vs.length) (e:j+k<us.length) :
  wr.cell? ⟨gu,j+k,none⟩=some (.int .u32 (us[j+k]:Nat))/\wr.frozen? ⟨gu,j+k,none⟩=false /\
  ∀ (z:Int),z=(((c+us[j+k]+vs[k]) % 4294967296:Nat):Int)->kV w (wr.setCell ⟨gu,j+k,none⟩ (.int .u32 z)) gu us vs j (k+1) ((c+us[j+k]+vs[k]) / 4294967296):=by
 obtain ⟨a,b,l,d,m,o⟩:=h;refine ⟨nf d b e,d.free _,?_⟩;intro z i;refine ⟨a++[(c+us[j+k]+vs[k]) % 4294967296],by simp [b],l.snoc _,?_,ix m gu _ _ rfl,?_⟩
 ·have:=d.set (j+k) ((c+us[j+k]+vs[k]) % 4294967296);rw [iQ us a j k _ b e] at this;rw [i];exact this
 ·rw [pM a k c us[j+k] vs[k] _ _ b o,au vs k f,au (us.drop j) k (by rw [List.length_drop];omega),List.getElem_drop]
def kV.top {R:Nat} (h:kV w wr gu us vs j vs.length c) (o:j+vs.length<us.length)
  (hW:ai ((us.drop j).take (vs.length+1))+ai vs=R+4294967296^(vs.length+1)) (hR:R<4294967296^vs.length) :
  wr.cell? ⟨gu,j+vs.length,none⟩=some (.int .u32 (us[j+vs.length]:Nat))/\wr.frozen? ⟨gu,j+vs.length,none⟩=false /\
  ∀ z:Int,z=(((us[j+vs.length]+c) % 4294967296:Nat):Int) ->
  ∃ W:List Nat,W.length=vs.length+1/\Sm W/\bZ (wr.setCell ⟨gu,j+vs.length,none⟩ (.int .u32 z)) gu (us.take j++W++us.drop (j+(vs.length+1)))/\w.grownBy (wr.setCell ⟨gu,j+vs.length,none⟩ (.int .u32 z)) (some gu)/\ai W=R:=by
 obtain ⟨a,i,s,m,y,d⟩:=h;refine ⟨nf m i o,m.free _,?_⟩;intro z l;rw [zT (Nat.le_refl vs.length)] at d;rw [au (us.drop j) vs.length (by rw [List.length_drop];omega),List.getElem_drop,Nat.pow_succ] at hW;have f:=bD s;rw [i] at f;generalize us[j+vs.length]=x at hW l;have b:x+c=4294967296/\ai a=R:=by
  generalize 4294967296^vs.length=p at d hW hR f;generalize ai ((us.drop j).take vs.length)=T at d hW;generalize ai vs=V at d hW;generalize ai a=M at d f ⊢;have e:M+p*(x+c)=R+p*4294967296:=by
   rw [Nat.mul_add];omega
  have q:0<p:=O
  have t:(M+p*(x+c)) / p=x+c:=by rw [Nat.add_mul_div_left _ _ q,Nat.div_eq_of_lt f,Nat.zero_add]
  have u:(R+p*4294967296) / p=4294967296:=by rw [Nat.add_mul_div_left _ _ q,Nat.div_eq_of_lt hR,Nat.zero_add]
  have r:x+c=4294967296:=by rw [<- t,e,u]
  refine ⟨r,?_⟩;rw [r] at e;omega
 have k:(x+c) % 4294967296=0:=by rw [b.1]
 rw [k] at l;refine ⟨a++[0],by simp [i],s.append (Sm.cons zD Sm.nil),?_,ix y gu _ _ rfl,by rw [aR,Nat.mul_zero,Nat.add_zero];exact b.2⟩;have:=m.set (j+vs.length) 0;rw [iQ us a j vs.length 0 i o] at this;rw [l];exact this
def GiveR (w:World) (gu:Nat) (us vs:List Nat) (j:Nat) (cv iv:Value) (wr:World):Prop :=
 ∃ k c:Nat,k<=vs.length/\c<=1/\iv=.int .i64 k/\cv=.int .u64 c/\Hid (kV w wr gu us vs j k c)
def Given (w:World) (gu:Nat) (us vs:List Nat) (j R:Nat) (w':World):Prop :=
 ∃ W:List Nat,W.length=vs.length+1/\Sm W/\bZ w' gu (us.take j++W++us.drop (j+(vs.length+1)))/\w.grownBy w' (some gu)/\ai W=R
def vf (gu j r R:Nat) (us vs:List Nat) (s:Value) (w:World) (ha:bZ w gu us) (hy:Ws w s vs) (E:Sm us) (i:ar s≠some gu) (F:j+vs.length<us.length) (X:us.length<=10000000000001) (I:vs.length+1<=r) (t:r<=maxLen)
  (hW:ai ((us.drop j).take (vs.length+1))+ai vs=R+4294967296^(vs.length+1)) (hR:R<4294967296^vs.length) :
  Calls Tryz.prog 199 #[.slice (some ⟨gu,j,none⟩) (vs.length+1) r,s] w fun e V=>e=.returned (.tuple #[])/\Given w gu us vs j R V:=by
 obtain ⟨bo,Y,Q,S,p,H⟩:=hy.open;unfold maxLen at t p;have x:=ab H;have J:=ab hy.sm;have G:=ab E;have K:=ab ha;have L:=ab hW;have M:=ab hR;have N:=ha.lt;subst Q;have y:=ab i;clear H hy E ha i hW hR;go_enter Tryz.func199,Tryz.ntmps199
 go_wp2;go_loopw [4,9] (fun W iv wr=>GiveR w gu us vs j W iv wr) (fun _ iv _=>vs.length-(intOf iv).toNat)
 case atStart=>exact ⟨0,0,O,O,rfl,rfl,[],rfl,Sm.nil,by rw [List.append_nil,Nat.add_zero,List.take_append_drop];exact K,ae _ _,by simp [ai]⟩
 case round =>
  obtain ⟨k,c,hk,hc,rfl,rfl,q⟩:=hrel;by_cases hlt:k<vs.length
  ·obtain ⟨b,off,rfl,T,d⟩:=aG x k hlt;have P:=J.out.get k hlt;have z:b≠gu:=by
    intro e;exact y (by rw [e];rfl)
   have l:j+k<us.length:=O
   obtain ⟨h,D,a⟩:=q.out.at hlt l;have A:=G.out.get (j+k) l;have m:w.grownBy wr (some gu):=by obtain ⟨_,_,_,_,U,_⟩:=q.out;exact U
   have B:=m.cell d (by show some b≠some gu;intro e;exact z (by simpa using e));generalize vs[k]=v at B P a;generalize us[j+k]=u at h A a;have C:=ab a;clear a q d m x;go_wp2;go_roundw
   case rel=>exact ⟨k+1,(c+u+v) / 4294967296,O,O,zN,zN,C _ O⟩
   case measure=>exact bH
  ·obtain rfl:k=vs.length:=O
   obtain ⟨h,D,f⟩:=q.out.top F L M;have A:=G.out.get (j+vs.length) F;generalize us[j+vs.length]=u at h A f;have o:=ab f;clear f q x;go_wp2;go_end0
   exact ⟨rfl,o _ O⟩
def aS (n:Nat):w.grownBy (w.drewN n) none:=ak (ae _ _) n
def gU.num {base:Nat} (h:gU w base v xs) (a:Sm xs) (b:Tr xs) (L:Nat) (d:xs.length<=L):aT w v (ai xs) L:=⟨xs,h.ws a,b,rfl,d⟩
def gU.fr {w0:World} (h:gU w w0.heap.size v xs):bC w0 v:=fun k a=>(h.fresh k a).1
def iq (w:World) (X Y L:Nat) (e:Ending) (w':World):Prop:=∃ q r,e=.returned (.tuple #[q,r])/\aT w' q (X / Y) L/\ir w' w.heap.size r (X % Y) L/\w.grownBy w' none/\bC w q
def Divided (w:World) (X Y L:Nat) (e:Ending) (w':World):Prop:=∃ q r,e=.returned (.tuple #[q,r])/\aT w' q (X / Y) L/\aT w' r (X % Y) L/\w.grownBy w' none/\bC w q/\bC w r
def uS (l m:Value) (xs ys:List Nat) (w:World) (ha:Ws w l xs) (hb:Ws w m ys) (o:Tr xs) (p:Tr ys) (hlt:ai xs<ai ys) (G:xs.length<=9000000000000) :
  Calls Tryz.prog 167 #[l,m] w fun e E=>iq w (ai xs) (ai ys) xs.length e E:=by
 obtain ⟨H,I,y,z,d,A⟩:=ha.open;obtain ⟨bo,J,B,C,f,D⟩:=hb.open;unfold maxLen at d f;have h:=ab ha;have s:=ab hb;have q:=ab o;have t:=ab p;have a:=ab hlt;subst y B;clear A D ha hb o p hlt;go_enter Tryz.func167,Tryz.ntmps167
 go_wp2_with fail;refine (gG _ _ xs ys _ h s q t).mono ?_;rintro e w1 ⟨rfl,q1,rfl⟩;have b:=tO a;generalize gZ (ai xs) (ai ys)=o1 at b ⊢;go_wp2_with fail;refine (jI _ xs _ (h.keep0 (aS _)) O).mono ?_;rintro e K ⟨L,rfl,i,r⟩;obtain ⟨M,rc,rfl,_,_,_⟩:=i.open;have u:=ab i;have x:=ab r;clear i r;go_wp2;go_ret2
 refine ⟨_,_,rfl,?_,?_,aa (aS _) x,fun k F=>by simp [ar] at F⟩
 ·rw [Nat.div_eq_of_lt a];exact ⟨[],Ws.nil _,rfl,rfl,Z⟩
 ·rw [Nat.mod_eq_of_lt a];exact ⟨xs,u,h.sm,q,rfl,zL⟩
def pZ {d a f:World} {h i k:Value} {y r:Nat} (q:w.grownBy d none) (s:gU d w.heap.size h xs) (s1:CO d w.heap.size h xs y i a) (t:r=ai xs % y) (u:ir f a.heap.size k r 1) (l:a.grownBy f none) (x:0<xs.length) :
  iq w (ai xs) (ai [y]) xs.length (.returned (.tuple #[i,k])) f:=by
 obtain ⟨ys,p,z,A,B,C,D,E⟩:=s1;have m:ai [y]=y:=by simp [ai]
 have o:w.grownBy a none:=aw (r2:=ar h) q D (fun _ _ e=>e) (fun b hb e=>by have:=(s.fresh b e.symm).1;omega);refine ⟨i,k,rfl,?_,?_,aa o l,p.fr⟩
 ·rw [m,<- B];exact (p.num z A _ C).keep0 l
 ·rw [m,<- t];exact (u.base o.size).mono x
def xN (E F:Value) (xs:List Nat) (y:Nat) (w:World) (ha:Ws w E xs) (hb:Ws w F [y]) (G:Tr xs) (p:Tr [y]) (d:y<=ai xs) (hl:xs.length<=9000000000000) :
  Calls Tryz.prog 167 #[E,F] w fun e w'=>iq w (ai xs) (ai [y]) xs.length e w':=by
 obtain ⟨ao,ca,U,V,l,W⟩:=ha.open;obtain ⟨bo,cb,X,Y,m,I⟩:=hb.open;unfold maxLen at l m;obtain ⟨b,off,rfl,he,a⟩:=I 0 Z;simp only [Nat.add_zero,List.getElem_cons_zero] at a;have f:0<y:=by have:=p.pos;simp only [ai] at this;omega
 have i:y<4294967296:=hb.sm y Z;have q:0<xs.length:=by
  rcases zP xs.length with h | h
  ·have:xs=[]:=List.eq_nil_of_length_eq_zero h;rw [this] at d;simp [ai] at d;omega
  ·exact h
 have s:=ab ha;have L:=ab hb;have M:=ab G;have N:=ab p;have t:Hid (ai [y]<=ai xs):=by simp only [ai];exact d
 subst U X;clear W I ha hb G p d;go_enter Tryz.func167,Tryz.ntmps167
 go_wp2_with fail;refine (gG _ _ xs [y] _ s L M N).mono ?_;rintro e w1 ⟨rfl,q1,rfl⟩;have k:=nH t;generalize gZ (ai xs) (ai [y])=o1 at k ⊢;go_wp2_with fail;go_region_with (first
  | (go_at_call 148;refine (jI _ xs _ (s.keep0 (aS _)) O).mono ?_;rintro e w2 ⟨c',rfl,o,x⟩;have q0:=(aa (aS _) x).cell a Z)
  | (go_at_call 149;refine (qG _ xs y _ w.heap.size (by first | exact o | exact o.drewN _) s.sm f i O).mono ?_;rintro e w3 ⟨q',r,rfl,z,s1⟩;have u:r<4294967296:=(by rw [z];exact Nat.lt_trans (Nat.mod_lt _ f) i);have P:=ab z;have H:=ab s1;have Q:=ab (aa (aS _) x);have R:=ab o;clear z s1 o x))
 all_goals
  obtain ⟨A,B,ql,rfl⟩:∃ A B ql,q'=.slice A ql B:=by
   obtain ⟨_,o1,_⟩:=H.out;obtain ⟨A,B,e,_⟩:=o1.open;exact ⟨_,_,_,e⟩
  go_wp2_with fail;refine (Bn r _ u).mono ?_;rintro e w4 ⟨r',rfl,C,J⟩;obtain ⟨D,rc,K,rfl⟩:∃ D rc K,r'=.slice D K rc:=by
   obtain ⟨_,o1,_⟩:=C;obtain ⟨D,rc,e,_⟩:=o1.open;exact ⟨_,_,_,e⟩
  have S:=ab C;have T:=ab J;clear C J;go_wp2;go_ret2
  exact pZ Q R H P S T q
def td:∀ (f x:Nat),0<x->x<2^f->1<=Lib.bitLenAux f x/\Lib.bitLenAux f x<=f/\2^(Lib.bitLenAux f x-1)<=x/\x<2^Lib.bitLenAux f x:=by
 intro f;induction f with
 | zero=>intro x k h;simp at h;omega
 | succ f ih =>
  intro x k h;rw [Lib.bitLenAux,if_neg O];by_cases i:x / 2=0
  ·have e:Lib.bitLenAux f (x / 2)=0:=by
    rw [i];cases f<;>simp [Lib.bitLenAux]
   rw [e];refine ⟨O,O,?_,?_⟩
   ·simp;omega
   ·simp;omega
  ·obtain ⟨a,b,c,d⟩:=ih (x / 2) O (by rw [Nat.pow_succ] at h;omega);generalize Lib.bitLenAux f (x / 2)=n at a b c d;refine ⟨O,O,?_,?_⟩
   ·obtain ⟨m,rfl⟩:∃ m,n=m+1:=⟨n-1,O⟩;rw [show 1+(m+1)-1=m+1 from O,Nat.pow_succ];rw [Nat.add_sub_cancel] at c;omega
   ·rw [Nat.add_comm,Nat.pow_succ];omega
def nm (x:Nat) (a:0<x) (h:x<4294967296):1<=Lib.bitLen x/\Lib.bitLen x<=32/\2^(Lib.bitLen x-1)<=x/\x<2^Lib.bitLen x:=by
 have e:Lib.bitLen x=Lib.bitLenAux 32 x:=Lib.bitLenAux_fuel 32 x O 64 O;rw [e];exact td 32 x a O
def dA (w wr:World) (gu gq:Nat) (vs:List Nat) (N A k:Nat) (us qs:List Nat):Prop :=
 us.length=N/\qs.length+k+vs.length=N/\Sm us/\Sm qs/\bZ wr gu us/\bZ wr gq (List.replicate k 0++qs)/\w.grownBy wr none/\ai (us.drop k)<ai vs /\
  A=ai (us.take k)+4294967296^k*(ai qs*ai vs+ai (us.drop k))
def dA.next {b:World} {gq:Nat} {N A:Nat} {a:List Nat} (h:dA w wr gu gq vs N A (j+1) us qs) (l:ai (us.drop j) / ai vs<4294967296)
  (h1:a.length=N) (h2:a.take j=us.take j) (h3:ai (a.drop j)=ai (us.drop j) % ai vs) (h4:Sm a) (a1:bZ b gu a) (a2:bZ b gq (List.replicate (j+1) 0++qs)) (hg:w.grownBy b none)
  (hgq:w.heap.size<=gq) (hne:gq≠gu) (z:Int) (hz:z=((ai (us.drop j) / ai vs:Nat):Int)) :
  dA w (b.setCell ⟨gq,j,none⟩ (.int .u32 z)) gu gq vs N A j a ((ai (us.drop j) / ai vs) :: qs):=by
 obtain ⟨y,B,C,t,E,F,G,H,x⟩:=h;have d:0<ai vs:=O
 refine ⟨h1,by simp;omega,h4,Sm.cons l t,?_,?_,ah hg _ _ hgq,by rw [h3];exact Nat.mod_lt _ d,?_⟩
 ·unfold bZ;rw [heap_setCell_other _ _ _ _ (fun e=>hne e.symm)];exact a1
 ·have:=a2.set j (ai (us.drop j) / ai vs);rw [hz];have e:(List.replicate (j+1) 0++qs).set j (ai (us.drop j) / ai vs)=List.replicate j 0++(ai (us.drop j) / ai vs) :: qs:=by
   rw [<- List.replicate_append_replicate (n:=j) (m:=1),List.append_assoc,List.set_append_right _ _ Z];simp
  rw [e] at this;exact this
 ·have f:j<us.length:=O
  rw [x,h2,h3,au us j f,Nat.pow_succ];have i:=cP us j;have o:us.getD j 0=us[j]:=by simp [f]
  rw [o] at i;have k:=Nat.div_add_mod (ai (us.drop j)) (ai vs);show _=ai (us.take j)+4294967296^j*((ai (us.drop j) / ai vs+4294967296*ai qs)*ai vs+ai (us.drop j) % ai vs)
  generalize ai (us.drop j)=D at i k ⊢;generalize ai (us.drop (j+1))=D1 at i ⊢;generalize D / ai vs=q at k ⊢;generalize D % ai vs=r at k ⊢;generalize us[j]=u at i ⊢;generalize ai vs=V at k ⊢;generalize ai qs=Q;generalize 4294967296^j=p;have s:(q+4294967296*Q)*V+r=u+4294967296*(Q*V+D1):=by
   rw [Nat.add_mul,Nat.mul_comm q V,Nat.mul_assoc 4294967296 Q V,Nat.mul_add];omega
  rw [s,Nat.mul_add p u,Nat.mul_assoc p];omega
def dA.start {gq:Nat} {X s:Nat} (d:Sm us) (f:ai us=X*2^s) (h:X<4294967296^(us.length-1)) (q:s<32) (tt:Nat) (i:0<vs.length) (k:vs.length<us.length) (a:vs[vs.length-1]? = some tt) (l:2147483648<=tt)
  (a1:bZ wr gu us) (a2:bZ wr gq (List.replicate (us.length-vs.length) 0)) (hg:w.grownBy wr none) :
  dA w wr gu gq vs us.length (X*2^s) (us.length-vs.length) us []:=by
 have hd:=kR us (us.length-vs.length) d O;have m:4294967296^(vs.length-1)*2147483648<=ai vs:=by
  obtain ⟨h1,p⟩:=zY a;have:=im vs (vs.length-1) h1;rw [p] at this;have b:4294967296^(vs.length-1)*2147483648<=4294967296^(vs.length-1)*(tt+4294967296*ai (vs.drop (vs.length-1+1))):=Nat.mul_le_mul_left _ O;omega
 refine ⟨rfl,by simp;omega,d,Sm.nil,a1,by rw [List.append_nil];exact a2,hg,?_,?_⟩
 ·rw [<- hd,f];have h1:2^s<=2^31:=Nat.pow_le_pow_right zD O;have o:X*2^s<4294967296^(us.length-1)*2147483648:=Nat.lt_of_lt_of_le (Nat.mul_lt_mul_of_pos_right h (Nat.two_pow_pos s)) (Nat.mul_le_mul_left _ h1);have:X*2^s / 4294967296^(us.length-vs.length)<4294967296^(vs.length-1)*2147483648:=by
   rw [Nat.div_lt_iff_lt_mul (Nat.pow_pos zD),Nat.mul_right_comm,<- Nat.pow_add,show vs.length-1+(us.length-vs.length)=us.length-1 from O];exact o
  omega
 ·have e:=bN (us.take (us.length-vs.length)) (us.drop (us.length-vs.length));rw [List.take_append_drop,List.length_take,show min (us.length-vs.length) us.length=us.length-vs.length from O,f] at e;simp only [ai,Nat.zero_mul,Nat.zero_add];exact e
def xn {W:List Nat} (d:W.length=n) (h:j+n<=us.length) (e:ai (us.drop (j+n))=0) :
  (us.take j++W++us.drop (j+n)).length=us.length/\(us.take j++W++us.drop (j+n)).take j=us.take j/\ai ((us.take j++W++us.drop (j+n)).drop j)=ai W/\((us.take j++W++us.drop (j+n)).drop j).take n=W /\
   (us.take j++W++us.drop (j+n)).drop (j+n)=us.drop (j+n):=by
 have f:(us.take j).length=j:=by rw [List.length_take];omega
 have a:(us.take j++W).length=j+n:=by rw [List.length_append,f,d]
 have b:(us.take j++W++us.drop (j+n)).drop j=W++us.drop (j+n):=by
  rw [List.append_assoc,List.drop_append_of_le_length O,List.drop_of_length_le O,List.nil_append]
 refine ⟨?_,?_,?_,?_,?_⟩
 ·rw [List.length_append,a,List.length_drop];omega
 ·rw [List.append_assoc,List.take_append_of_le_length O,zT O]
 ·rw [b,bN,e,Nat.mul_zero,Nat.add_zero]
 ·rw [b,List.take_append_of_le_length O,zT O]
 ·rw [List.drop_append_of_le_length O,List.drop_of_length_le O,List.nil_append]
def Ws.sub (h:bZ w g us) (b:Sm us) (e:j+n<=us.length) (hc:n<=cap) (d:cap<=maxLen):Ws w (.slice (some ⟨g,j,none⟩) n cap) ((us.drop j).take n):=by
 have a:((us.drop j).take n).length=n:=by rw [List.length_take,List.length_drop];omega
 refine ⟨(b.drop j).take n,.inr ⟨g,j,cap,by rw [a],h.lt,O,d,fun i hi=>?_⟩⟩;rw [a] at hi;rw [h.cell (j+i) O];simp
def mH {w1 a:World} (h:w.grownBy w1 none) (k:w1.grownBy a (some g)) (hg:w.heap.size<=g):w.grownBy a none :=
 aw (r2:=some g) h k (fun _ _ e=>e) (fun b hb e=>by cases e;omega)
def DivR (w:World) (gu gq:Nat) (dv:Value) (vs:List Nat) (N A:Nat) (iv:Value) (wr:World):Prop :=
 ∃ z:Int,-1<=z/\z+vs.length+1<=N/\iv=.int .i64 z/\Hid (Ws wr dv vs)/\Hid (∃ us qs,dA w wr gu gq vs N A (z+1).toNat us qs)
def dA.round {wt:World} {gq:Nat} {N A E:Nat} (h:dA w wr gu gq vs N A (j+1) us qs) (sv:Sm vs) (f:w.heap.size<=gu) (i:w.heap.size<=gq) (b:gq≠gu) (k:ai (us.drop j) / ai vs<=g) (o:g<=ai (us.drop j) / ai vs+1) (M:g<4294967296)
  (ht:CP wr wt gu us vs j g E) (hE:E<=1) :
  (E=0->∀ z:Int,z=(g:Int)->∃ us2 qs2,dA w (wt.setCell ⟨gq,j,none⟩ (.int .u32 z)) gu gq vs N A j us2 qs2) /\
  (E=1->1<=g/\∃ us1 R,bZ wt gu us1/\Sm us1/\us1.length=N/\ai ((us1.drop j).take (vs.length+1))+ai vs=R+4294967296^(vs.length+1)/\R<4294967296^vs.length /\
   (∀ wg,Given wt gu us1 vs j R wg->∀ z:Int,z=((g-1:Nat):Int)->∃ us2 qs2,dA w (wg.setCell ⟨gq,j,none⟩ (.int .u32 z)) gu gq vs N A j us2 qs2)):=by
 have hh:=h;obtain ⟨r,i2,m,i4,i5,P,B,Q,i9⟩:=h;have a:0<ai vs:=O
 obtain ⟨W,C,D,F,s,t⟩:=ht;obtain ⟨w1,S,G⟩:=ni (us:=us) (vs:=vs) (j:=j) sv m O Q;rw [w1] at t;obtain ⟨H,I,T,U,V⟩:=xn (us:=us) (W:=W) (j:=j) (n:=vs.length+1) C O G;have sm:Sm (us.take j++W++us.drop (j+(vs.length+1))):=((m.take j).append D).append (m.drop _);have d:ai (us.drop j) / ai vs<4294967296:=by rw [Nat.div_lt_iff_lt_mul a];exact S
 have y:bZ wt gq (List.replicate (j+1) 0++qs):=P.keep s (fun e=>b (by simpa using e));refine ⟨fun e z hz=>?_,fun e=>?_⟩
 ·obtain ⟨u,x⟩:=nX t e k a;exact ⟨_,_,hh.next d (H.trans r) I (T.trans x) sm F y (mH B s f) i b z (by rw [u];exact hz)⟩
 ·have l:=bD D;rw [C] at l;obtain ⟨u,x,X⟩:=pX t e k o l a;have hR:=Nat.mod_lt (ai (us.drop j)) a;have hV:=bD sv;refine ⟨x,_,ai (us.drop j) % ai vs,F,sm,H.trans r,by rw [U];exact X,O,?_⟩;intro wg q z hz;obtain ⟨J,Y,k2,K,L,k5⟩:=q;rw [I,V] at K;obtain ⟨f1,f2,f3,f4,f5⟩:=xn (us:=us) (W:=J) (j:=j) (n:=vs.length+1) Y O G;have p:Sm (us.take j++J++us.drop (j+(vs.length+1))):=((m.take j).append k2).append (m.drop _);exact ⟨_,_,hh.next d (f1.trans r) f2 (f3.trans k5) p K (y.keep L (fun e=>b (by simpa using e))) (mH (mH B s f) L f) i b z (by rw [u];exact hz)⟩
def xM {d a:World} {gq:Nat} {b e:Value} {s:Nat} (m:ai vs=ai ys*2^s) (hd:dA w d gu gq vs (xs.length+1) (ai xs*2^s) 0 us qs) (r:vs.length=ys.length) (f:ys.length<=xs.length) (h:w.heap.size<=gq)
  (n1:aT a b (ai qs) qs.length) (n2:ar b=some gq) (n5:ir a d.heap.size e (ai (us.take ys.length) / 2^s) ys.length) (g9:d.grownBy a none) (hv0:0<ys.length) (sv:Sm vs):iq w (ai xs) (ai ys) xs.length (.returned (.tuple #[b,e])) a:=by
 obtain ⟨y,z,A,B,C,D,o,l,p⟩:=hd;simp only [List.take_zero,List.drop_zero,Nat.pow_zero,Nat.one_mul,ai,Nat.zero_add] at l p;obtain ⟨u,x⟩:=zn (ai xs) (ai ys) (2^s) (ai qs) (ai us) (Nat.two_pow_pos s) (by rw [<- m];exact l) (by rw [<- m];exact p);have i:=bD sv;have t:=(rS us ys.length (ai vs) l (by rw [<- r];exact Nat.le_of_lt i) O).2;rw [t,x] at n5;refine ⟨b,e,rfl,by rw [<- u];exact n1.mono O,(n5.base o.size).mono f,aa o g9,fun k q=>?_⟩;rw [n2] at q;cases q
 exact h
def uT (va vb:Value) (xs ys:List Nat) (w:World) (ha:Ws w va xs) (hb:Ws w vb ys) (tx:Tr xs) (ty:Tr ys) (hy:1<ys.length) (he:ai ys<=ai xs) (hl:xs.length<=9000000000000) (hJ:ys.length<=xs.length) :
  Calls Tryz.prog 167 #[va,vb] w fun e w'=>iq w (ai xs) (ai ys) xs.length e w':=by
 obtain ⟨ao,ca,ea,ko,hB,Ha⟩:=ha.open;obtain ⟨bo,cb,eb,kw,hC,Hb⟩:=hb.open;unfold maxLen at hB hC;have ka:(((ys.length:Nat):Int)==1)=false:=zB O;obtain ⟨t,x,hW⟩:=yY ty (by intro e;rw [e] at hy;simp at hy);obtain ⟨b,off,rfl,kz,i⟩:=Hb (ys.length-1) O;rw [(zY x).2] at i;have hK:t<4294967296:=by
  have:=hb.sm.get (ys.length-1) O;rw [(zY x).2] at this;exact this
 obtain ⟨j1,j2,j3,j4⟩:=nm t hW hK;obtain ⟨s,hs⟩:=eX (32-Lib.bitLen t);have es:(32-(Lib.bitLen t:Int))=(s:Int):=O
 have l:s<32:=O
 have HT:=ab (And.intro x (And.intro j3 j4));have HJ:=ab (And.intro j1 j2);have HS:=ab hs;have ES:=ab es;have WA:=ab ha;have WB:=ab hb;have TX:=ab tx;have TY:=ab ty;have hf:=ab he;subst ea eb;clear Ha Hb ha hb tx ty he x j3 j4 j1 j2 hs es;go_enter Tryz.func167,Tryz.ntmps167
 go_wp2_with fail;refine (gG _ _ xs ys _ WA WB TX TY).mono ?_;rintro e w1 ⟨rfl,q1,rfl⟩;have hj:=nH hf;generalize gZ (ai xs) (ai ys)=o1 at hj ⊢;go_wp2_with fail;refine (Tryz.bits_LeadingZeros32 (t:Int) _ O O).mono ?_;rintro e w2 ⟨rfl,rfl⟩;rw [Int.toNat_natCast,ES];go_wp2_with fail;refine (wE _ xs s _ (WA.keep0 (aS _)) l O).mono ?_;rintro e w3 ⟨us,rfl,u1,u2,u3,u4,g3⟩;have G3:=ab (aa (aS _) g3);have hL:w.heap.size<=(w.drewN q1).heap.size:=zL;generalize (w.drewN q1).heap.size=gu at *;have U3:=ab u3;have U2:=ab u2;have U1:=ab u1;have U4:=ab u4;clear u1 u2 u3 u4 g3 ES;go_wp2_with fail;refine (wE _ ys s _ (WB.keep0 G3) l O).mono ?_;rintro e w4 ⟨vr,rfl,v1,v2,v3,v4,g4⟩;have kk:gu<w3.heap.size:=U3.out.lt;generalize w3.heap.size=gv at *;have G4:=ab (aa G3 g4);have hk:=ab (U3.keep g4 Z);have J:=v3.ws v2 (by rw [v1];unfold maxLen;omega);rw [v1] at J;have hm:=ab J;have V1:=ab v1;have V4:=ab v4;clear v1 v2 v3 v4 g4 J G3 U3;go_wp2_with fail;refine (fN _ vr _ hm).mono ?_;rintro e w5 ⟨dv,rfl,rfl,⟨vs,d1,d2,d3,d4⟩,d5⟩;have K:ai vs=ai ys*2^s:=by rw [d3];exact V4
 obtain ⟨G,tt,hF,o⟩:=vR ys vs t (Lib.bitLen t) s HS HJ.1 HJ.2 WB.sm O HT.1 HT.2.1 HT.2.2 d1.sm d2 K;have ho:ar dv=some gv:=by rw [d5];rfl
 obtain ⟨P,Q,rfl,kf,hH,S⟩:=d1.open;clear S;unfold maxLen at hH;have kb:vs.length<=ys.length:=O
 have kc:ys.length<=vs.length:=O
 have D1:=ab d1;have hp:=ab G;have hM:=ab K;have L:=ab hF;have f:=ab ho;clear d1 d2 d3 d4 d5 K G hF ho hm V1 V4 HT HJ HS;go_wp2_with (at_make;refine aE _ rfl _ _ 103 rfl Tryz.underlying103 Tryz.info32 _ _ _ _ (xs.length-ys.length+1) rfl rfl O O O ?_)
 intro w6 F u;have kl:gv<w5.heap.size:=by
  have:=D1.out.blk gv f;exact this
 generalize w5.heap.size=gq at *;have G6:=ab (aa G4 u);have U6:=ab (hk.keep u Z);have D6:=ab (D1.keep0 u);have Q6:=ab F;clear F u G4 hk D1;have hN:∃ n,vs.length=n+2:=⟨vs.length-2,O⟩;obtain ⟨n,hn⟩:=hN;have hq:2147483648<=vs.getD (n+1) 0:=by
  have:=L.out;rw [hn,show n+2-1=n+1 from O] at this;simp only [List.getD,this,Option.getD_some];exact o
 have D0:Hid (dA w w6 gu gq vs (xs.length+1) (ai xs*2^s) (xs.length-ys.length+1) us []):=by
  have h1:=dA.start (w:=w) (wr:=w6) (gu:=gu) (gq:=gq) (vs:=vs) (us:=us) (X:=ai xs) (s:=s) U2 U4 (by rw [U1,Nat.add_sub_cancel];exact bD WA.sm) l tt O (by have:=U1.out;omega) L o U6 (by rw [U1,show xs.length+1-vs.length=xs.length-ys.length+1 from O];exact Q6) G6;rw [U1,show xs.length+1-vs.length=xs.length-ys.length+1 from O] at h1;exact h1
 have HN:=ab hn;clear hn U1 U2 U4 U6 Q6 G6 o L hf;go_wp2;go_loopw [12] (fun iv wr=>DivR w gu gq (.slice P vs.length Q) vs (xs.length+1) (ai xs*2^s) iv wr) (fun iv _=>(intOf iv+1).toNat)
 case atStart=>exact ⟨(xs.length:Int)-ys.length,O,O,zN,D6,us,[],by rw [show ((xs.length:Int)-ys.length+1).toNat=xs.length-ys.length+1 from O];exact D0⟩
 case round =>
  clear D0 D6;obtain ⟨z,kF,kH,rfl,d,HD⟩:=hrel;by_cases h0:z<0
  ·obtain ⟨us,qs,T⟩:=HD.out;rw [show (z+1).toNat=0 from O] at T;have a:=ab T;clear HD T;have ql:qs.length=xs.length-ys.length+1:=by obtain ⟨H,i2,_⟩:=a.out;omega
   have wq:Ws wr (.slice (some ⟨gq,0,none⟩) (xs.length-ys.length+1) (xs.length-ys.length+1)) qs:=by
    obtain ⟨H,i2,y,i4,I,A,i7,i8,i9⟩:=a.out;rw [List.replicate_zero,List.nil_append] at A;have:=A.ws i4 (by unfold maxLen;omega);rw [ql] at this;exact this
   have wu:Ws wr (.slice (some ⟨gu,0,none⟩) ys.length (xs.length+1)) (us.take ys.length):=by
    obtain ⟨H,i2,y,i4,I,A,i7,i8,i9⟩:=a.out;have:=Ws.sub (n:=ys.length) (cap:=xs.length+1) (j:=0) I y O O (by unfold maxLen;omega);exact this
   have hu:(us.take ys.length).length=ys.length:=by
    obtain ⟨H,_⟩:=a.out;rw [List.length_take];omega
   have WQ:=ab wq;have WU:=ab wu;have QL:=ab ql;have hv:=ab hu;have SV:=ab d.sm;clear wq wu ql hu d i;go_wp2_with fail;go_region_with (first
    | (go_at_call 147;refine (fN _ qs _ (WQ.keep0 (aS _))).mono ?_;rintro e w8 ⟨q',rfl,rfl,n1,n2⟩)
    | (go_at_call 200;refine (BH _ (us.take ys.length) s _ (WU.keep0 (aS _)) l (by rw [hv];omega)).mono ?_;rintro e w9 ⟨r',rfl,n5,g9⟩))
   all_goals
    obtain ⟨qo,qc,ql,rfl⟩:∃ qo qc ql,q'=.slice qo ql qc:=by
     obtain ⟨_,o1,_⟩:=n1;obtain ⟨qo,qc,e,_⟩:=o1.open;exact ⟨_,_,_,e⟩
    obtain ⟨ro,rc,rl,rfl⟩:∃ ro rc rl,r'=.slice ro rl rc:=by
     obtain ⟨_,o1,_⟩:=n5;obtain ⟨ro,rc,e,_⟩:=o1.open;exact ⟨_,_,_,e⟩
    have N1:=ab (n1.keep0 g9);have N2:=ab n2;have N5:=ab n5;have G9:=ab g9;clear n1 n2 n5 g9;go_wp2;go_ret2
    refine xM hM a hp hJ O N1 N2 ?_ (aa (aS _) G9) O SV;have h5:=N5.out;rw [hv] at h5;exact h5
  ·obtain ⟨j,rfl⟩:∃ j:Nat,z=j:=⟨z.toNat,O⟩;obtain ⟨us,qs,T⟩:=HD.out;rw [show ((j:Int)+1).toNat=j+1 from O] at T;have a:=ab T;clear T HD i;go_wp2_with fail;rw [show j+vs.length+1-j=vs.length+1 from O];obtain ⟨H,i2,y,i4,I,A,i7,i8,i9⟩:=a.out;have hw:=ni (us:=us) (vs:=vs) (j:=j) d.sm y O i8;have C:=Ws.sub (n:=vs.length+1) (cap:=xs.length+1-j) (j:=j) I y O O (by unfold maxLen;omega);have I5:=ab I;have I3:=ab y;have I1:=ab H;have M:=ab hw;have D:=ab C;clear H i2 y i4 I A i7 i8 i9 hw C;refine (DQ _ _ ((us.drop j).take (vs.length+1)) vs n _ D d HN (by rw [List.length_take,List.length_drop];have:=HN.out;have:=I1.out;omega) hq (by rw [M.1];exact M.2.1)).mono ?_;intro e wa hG;obtain ⟨g,qa,rfl,hI,U,V,rfl⟩:=hG;rw [M.1] at U V;have hQ:=ab U;have hR:=ab V;clear U V D;go_wp2_with fail;refine (xi gu j (xs.length+1-j) us vs _ g _ (I5.keep (aS _) Z) (d.keep0 (aS _)) I3 (by rw [f];intro e;have:=zJ e;omega) (by have:=I1.out;omega) hI (by have:=I1.out;omega) O (by unfold maxLen;omega) O).mono ?_;intro e wt hT;obtain ⟨E,hE,rfl,B⟩:=hT;have q:=ab B;have hx:=dA.round (w:=w) (wr:=wr) (wt:=wt) a d.sm hL O O hQ hR hI (by obtain ⟨W,t1,t2,t3,Y,t5⟩:=B;exact ⟨W,t1,t2,t3,aw (r1:=none) (r2:=some gu) (aS _) Y nofun (fun _ _ e=>e),t5⟩) hE
   have r:=ab hx;have hvt:Hid (Ws wt (.slice P vs.length Q) vs):=by
    obtain ⟨W,t1,t2,t3,Y,t5⟩:=B;exact (d.keep0 (aS _)).keep Y (fun k e h=>by rw [f] at h;cases e;have:=zJ h;omega)
   clear B hx d;by_cases hz:E=0
   ·subst hz;have hA:=r.out.1 rfl;have N:=ab hA;obtain ⟨p,hX⟩:(∃ v,wt.cell? ⟨gq,j,none⟩=some v)/\wt.frozen? ⟨gq,j,none⟩=false:=by
     obtain ⟨H,i2,y,i4,I,A,i7,i8,i9⟩:=a.out;obtain ⟨W,t1,t2,t3,Y,t5⟩:=q.out;have a2:bZ wt gq (List.replicate (j+1) 0++qs):=(A.keep (aS _) Z).keep Y (fun e=>by have:=zJ e;omega);exact ⟨⟨_,a2.cell j (by simp;omega)⟩,a2.free j⟩
    obtain ⟨v0,p⟩:=p;clear hA r q;go_wp2;go_roundw
    case rel =>
     refine ⟨(j:Int)-1,O,O,zN,?_,?_⟩
     ·exact hvt.keep (row:=some gq) ⟨rfl,rfl,rfl,Z,fun k _ hr=>heap_setCell_other _ _ _ _ (fun e=>hr (by rw [e]))⟩ (fun k e h=>by rw [f] at h;cases e;have:=zJ h;omega)
     ·rw [show ((j:Int)-1+1).toNat=j from O];exact N _ O
    case measure=>simp [intOf]
   ·obtain rfl:E=1:=O
    clear hz;obtain ⟨kN,hY,R,r1,r2,r3,r4,r5,r6⟩:=r.out.2 rfl;have R1:=ab r1;have R2:=ab r2;have R3:=ab r3;have R4:=ab r4;have R5:=ab r5;have R6:=ab r6;clear r1 r2 r3 r4 r5 r6 r;go_wp2_with fail;refine (vf gu j (xs.length+1-j) R hY vs _ _ R1 hvt R2 (by rw [f];intro e;have:=zJ e;omega) (by have:=R3.out;omega) (by have:=R3.out;omega) O (by unfold maxLen;omega) R4 R5).mono ?_;rintro e wg ⟨rfl,m⟩;have N:=ab (R6 wg m);obtain ⟨p,hX⟩:(∃ v,wg.cell? ⟨gq,j,none⟩=some v)/\wg.frozen? ⟨gq,j,none⟩=false:=by
     obtain ⟨H,i2,y,i4,I,A,i7,i8,i9⟩:=a.out;obtain ⟨W,t1,t2,t3,Y,t5⟩:=q.out;obtain ⟨W2,k1,k2,k3,k4,k5⟩:=m;have a2:bZ wg gq (List.replicate (j+1) 0++qs):=((A.keep (aS _) Z).keep Y (fun e=>by have:=zJ e;omega)).keep k4 (fun e=>by have:=zJ e;omega);exact ⟨⟨_,a2.cell j (by simp;omega)⟩,a2.free j⟩
    obtain ⟨v0,p⟩:=p;have hS:Hid (Ws wg (.slice P vs.length Q) vs):=by
     obtain ⟨W2,k1,k2,k3,k4,k5⟩:=m;exact hvt.keep k4 (fun k e h=>by rw [f] at h;cases e;have:=zJ h;omega)
    clear m R6 q;go_wp2;go_roundw
    case rel =>
     refine ⟨(j:Int)-1,O,O,zN,?_,?_⟩
     ·exact hS.keep (row:=some gq) ⟨rfl,rfl,rfl,Z,fun k _ hr=>heap_setCell_other _ _ _ _ (fun e=>hr (by rw [e]))⟩ (fun k e h=>by rw [f] at h;cases e;have:=zJ h;omega)
     ·rw [show ((j:Int)-1+1).toNat=j from O];exact N _ O
    case measure=>simp [intOf]
def xO (a b:Value) (X Y L M:Nat) (w:World) (ha:aT w a X L) (hb:aT w b Y M) (hy:0<Y) (A:L<=9000000000000) :
  Calls Tryz.prog 167 #[a,b] w fun e w'=>iq w X Y L e w':=by
 obtain ⟨xs,l,o,u,p⟩:=ha;obtain ⟨ys,d,f,h,B⟩:=hb;have m:Calls Tryz.prog 167 #[a,b] w fun e w'=>iq w (ai xs) (ai ys) xs.length e w':=by
  by_cases i:ai xs<ai ys
  ·exact uS a b xs ys w l d o f i O
  ·by_cases k:1<ys.length
   ·exact uT a b xs ys w l d o f k O O (ma d.sm f l.sm O)
   ·match ys,d,f,h,i,k with
    | [],_,_,h,_,_=>simp [ai] at h;omega
    | [y],d,f,h,i,_=>exact xN a b xs y w l d o f (by simp [ai] at i;omega) O
    | _ :: _ :: _,_,_,_,_,k=>simp at k
 refine m.mono ?_;rintro e w' ⟨q,r,rfl,s,t,x,z⟩;rw [u,h] at s t;exact ⟨q,r,rfl,s.mono p,t.mono p,x,z⟩
def jF (a b:Value) (X Y L M:Nat) (w:World) (ha:aT w a X L) (hb:aT w b Y M) (hy:0<Y) (f:L<=9000000000000) :
  Calls Tryz.prog 167 #[a,b] w fun e w'=>Divided w X Y L e w':=by
 refine (xO a b X Y L M w ha hb hy f).mono ?_;rintro e w' ⟨q,r,rfl,h,d,i,l⟩;exact ⟨q,r,rfl,h,d.num,i,l,fun k m=>(d.fresh k m).1⟩
def pw (n k:Nat):Prop:=(n=0/\k=0)∨(1<=k/\2^(k-1)<=n/\n<2^k)
def Ap (k:Nat):4294967296^k=2^(32*k):=by rw [Nat.pow_mul]
def Gc {t:Nat} (e:Sm xs) (f:0<xs.length) (h:xs[xs.length-1]? = some t) (i:0<t):pw (ai xs) (32*(xs.length-1)+Lib.bitLen t):=by
 obtain ⟨hlt,b⟩:=zY h;have a:=e.get _ hlt;rw [b] at a;obtain ⟨p,q,m,o⟩:=nm t i a;have k:=au xs (xs.length-1) hlt;rw [zT O,b] at k;have d:=bD (e.take (xs.length-1));rw [List.length_take,show min (xs.length-1) xs.length=xs.length-1 from O] at d;refine .inr ⟨O,?_,?_⟩
 ·rw [show 32*(xs.length-1)+Lib.bitLen t-1=32*(xs.length-1)+(Lib.bitLen t-1) from O,Nat.pow_add,<- Ap];have:=Nat.mul_le_mul_left (4294967296^(xs.length-1)) m;omega
 ·rw [Nat.pow_add,<- Ap];have l:4294967296^(xs.length-1)*(t+1)<=4294967296^(xs.length-1)*2^Lib.bitLen t:=Nat.mul_le_mul_left _ o;rw [Nat.mul_add,Nat.mul_one] at l;omega
def CH (w:World) (n L:Nat) (e:Ending) (w':World):Prop:=∃ k:Nat,e=.returned (.int .i64 k)/\pw n k/\k<=32*L/\w'=w
def mx (r:Value) (n L:Nat) (w:World) (ha:aT w r n L) (J:L<=10000000000000) :
  Calls Tryz.prog 137 #[r] w fun e I=>CH w n L e I:=by
 obtain ⟨xs,f,o,i,B⟩:=ha;obtain ⟨M,N,rfl,C,h,p⟩:=f.open;unfold maxLen at h;by_cases l:xs.length=0
 ·have e:xs=[]:=List.eq_nil_of_length_eq_zero l;subst e;have m:Hid (CH w n L (.returned (.int .i64 ((0:Nat):Int))) w):=⟨0,rfl,.inl ⟨i.symm,rfl⟩,O,rfl⟩;clear f o i B p;go_enter Tryz.func137,Tryz.ntmps137
  go_wp2;go_ret;exact m
 ·obtain ⟨t,k,s⟩:=yY o (by intro e;rw [e] at l;simp at l);obtain ⟨b,off,rfl,hb,hc⟩:=p (xs.length-1) O;rw [(zY k).2] at hc;have d:=f.sm.get (xs.length-1) O;rw [(zY k).2] at d;obtain ⟨D,E,F,G⟩:=nm t s d;have a:=Gc f.sm O k s;have u:(((xs.length:Nat):Int)==0)=false:=zB O;obtain ⟨j,H⟩:∃ j,xs.length=j+1:=⟨xs.length-1,O⟩;have x:w.cell? ⟨b,off+j,none⟩=some (.int .u32 (t:Nat)):=by
   rw [show j=xs.length-1 from O];exact hc
  obtain ⟨K,q⟩:=eX (Lib.bitLen t);rw [<- q] at D E a;have m:Hid (CH w n L (.returned (.int .i64 ((32*(xs.length-1)+K:Nat):Int))) w):=⟨_,rfl,by rw [<- i];exact a,O,rfl⟩;have y:=ab H;have z:=ab q;clear f o i p hc k F G a q;go_enter Tryz.func137,Tryz.ntmps137
  go_wp2_with fail;refine (Tryz.bits_Len32 (t:Int) _ O O).mono ?_;rintro e P ⟨rfl,rfl⟩;rw [Int.toNat_natCast,<- z];go_wp2;go_ret;have:=m.out;have A:(((32*(xs.length-1)+K:Nat):Int))=32*(j:Int)+K:=by have:=y.out;omega
  rw [A] at this;exact this
def p9 (a b:Nat) (ha:a<9223372036854775808) (hb:b<9223372036854775808):bits .or .i64 (a:Int) (b:Int)=((a ||| b:Nat):Int):=by
 have d:a ||| b<2^63:=Nat.or_lt_two_pow O O
 show IntKind.i64.wrap ((BitVec.ofInt 64 (a:Int) ||| BitVec.ofInt 64 (b:Int)).toNat:Int)=_
 rw [BitVec.toNat_or,ofInt_u64 a O,ofInt_u64 b O];rw [IntWalk.i64_in _ ⟨O,O⟩]
def EI (r x:Nat) (a:r<2147483648) (b:x<4294967296):bits .or .i64 ((r:Int)*4294967296) (x:Int)=((r*4294967296+x:Nat):Int):=by
 have h:=p9 (r*4294967296) x O O;rw [Int.natCast_mul] at h;have e:(r*4294967296) ||| x=r*4294967296+x:=nat_join 32 _ _ O O
 rw [e] at h;exact h
def DH (xs:List Nat) (lo s:Nat) (b:Sm xs) (a:lo<xs.length) (f:s<32):ai xs / 2^(32*lo+s)=ai (xs.drop (lo+1))*2^(32-s)+xs[lo] / 2^s/\xs[lo] / 2^s<2^(32-s):=by
 have d:=b.get lo a;have p:2^s*2^(32-s)=4294967296:=by rw [<- Nat.pow_add,show s+(32-s)=32 from O]
 constructor
 ·rw [Nat.pow_add,<- Nat.div_div_eq_div_mul,<- Ap,kR xs lo b O,cP xs lo];have e:xs.getD lo 0=xs[lo]:=by simp [a]
  rw [e,<- p,Nat.mul_assoc,Nat.add_mul_div_left _ _ (Nat.two_pow_pos s),Nat.mul_comm (ai _),Nat.add_comm]
 ·rw [Nat.div_lt_iff_lt_mul (Nat.two_pow_pos s),Nat.mul_comm,p];exact d
def Bm (s x o V:Nat) (d:s<32) (hV:V=o*2^(32-s)+x / 2^s) (b:x / 2^s<2^(32-s)) (hb:V<4611686018427387904) :
  ∃ T p r:Nat,1<=T/\T<=32/\32-(s:Int)=(T:Int)/\(o:Int)*2^T=(p:Int)/\(x:Int) / 2^s=(r:Int)/\bits .or .i64 (p:Int) (r:Int)=(V:Int)/\p<=V/\r<=V/\V<4611686018427387904:=by
 have a:o*2^(32-s) % 2^(32-s)=0:=by rw [Nat.mul_mod_left]
 refine ⟨32-s,o*2^(32-s),x / 2^s,O,O,O,?_,mT x s,?_,?_,?_,hb⟩
 ·rw [Int.natCast_mul,Int.natCast_pow];rfl
 ·have j:=nat_join (32-s) _ _ a b;generalize o*2^(32-s)=p at *;generalize x / 2^s=r at *;clear b a;rw [p9 _ _ O O,j,hV]
 ·rw [hV];exact Nat.le_add_right _ _
 ·rw [hV];exact Nat.le_add_left _ _
def FromR (xs:List Nat) (lo:Nat) (ov iv:Value):Prop:=∃ (z:Int) (o:Nat),lo<=z/\z<xs.length/\iv=.int .i64 z/\ov=.int .i64 (o:Nat)/\Hid (o=ai (xs.drop (z+1).toNat))
def zt (xs:List Nat) (i j:Nat) (h:i<=j) (b:j<=xs.length) (a:Sm xs):ai (xs.drop j)<=ai (xs.drop i):=by
 have e:xs.drop j=(xs.drop i).drop (j-i):=by rw [List.drop_drop];congr 1;omega
 rw [e,<- kR (xs.drop i) (j-i) (a.drop i) (by rw [List.length_drop];omega)];exact Nat.div_le_self _ _
def iK (R:Value) (xs:List Nat) (a:Nat) (w:World) (ha:Ws w R xs) (hb:ai xs / 2^a<4611686018427387904) (S:a<=400000000000000) :
  Calls Tryz.prog 174 #[R,.int .i64 (a:Nat)] w fun e w'=>e=.returned (.int .i64 ((ai xs / 2^a:Nat):Int))/\∃ q,w'=w.drewN q:=by
 obtain ⟨ao,ca,rfl,hm,A,D⟩:=ha.open;unfold maxLen at A;obtain ⟨lo,B⟩:=eX (a / 32);obtain ⟨s,hs⟩:=eX (a % 32);have h:s<32:=O
 have i:a=32*lo+s:=O
 have U:((a:Nat):Int) / 32=(lo:Int):=O
 have W:((a:Nat):Int) % 32=(s:Int):=O
 have d1:((a:Nat):Int).tdiv 32=(lo:Int):=by rw [Int.tdiv_eq_ediv_of_nonneg O];exact U
 have d2:((a:Nat):Int).tmod 32=(s:Int):=by rw [Int.tmod_eq_emod_of_nonneg O];exact W
 by_cases F:lo<xs.length
 ·obtain ⟨f1,K⟩:=DH xs lo s ha.sm F h;rw [<- i] at f1;rw [f1];rw [f1] at hb;have G:=ab hb;have X:=ab D;have C:=ab ha.sm;have t:ai (xs.drop (lo+1))<2305843009213693952:=by
   have p:2<=2^(32-s):=by
    have:=Nat.pow_le_pow_right (n:=2) zD (show 1<=32-s by omega);omega
   have:=Nat.mul_le_mul_left (ai (xs.drop (lo+1))) p;generalize xs[lo] / 2^s=r at hb;omega
  have k:=ab t;obtain ⟨b,off,rfl,hp,m⟩:=D lo F;obtain ⟨x,ex⟩:=eX (xs[lo]);have hx:=ha.sm.get lo F;rw [<- ex] at m hx K ⊢;rw [<- ex] at G;have Y:=ab K;obtain ⟨V,hV⟩:=eX (ai (xs.drop (lo+1))*2^(32-s)+x / 2^s);rw [<- hV];have H:=ab hV;clear D ha hb f1 K B hs i t ex hV;go_enter Tryz.func174,Tryz.ntmps174
  go_wp2;clear U W d1 d2;go_loop [7,8] (fun ov iv=>Hid (FromR xs lo ov iv)) (fun _ iv=>(intOf iv).toNat-lo)
  case atStart=>exact ⟨(xs.length:Int)-1,0,O,O,zN,rfl,by rw [show ((xs.length:Int)-1+1).toNat=xs.length from O,List.drop_of_length_le zL];rfl⟩
  case round =>
   obtain ⟨z,o,hq,hr,rfl,rfl,E⟩:=hrel.out;clear hrel;obtain ⟨j,rfl⟩:∃ j:Nat,z=j:=⟨z.toNat,O⟩;have ho:o<2305843009213693952:=by
    have f:=E.out;rw [show ((j:Int)+1).toNat=j+1 from O] at f;have h2:=zt xs (lo+1) (j+1) O O C;have:=k.out;omega
   by_cases hj:lo<j
   ·obtain ⟨b',he,e,hu,L⟩:=X.out j O;simp only [zI,Addr.mk.injEq,and_true] at e;obtain ⟨rfl,rfl⟩:=e;obtain ⟨y,N⟩:=eX (xs[j]'O);have hy:=C.out.get j O;rw [<- N] at L hy;have d:o*4294967296+y=ai (xs.drop j):=by
     have f:=E.out;rw [show ((j:Int)+1).toNat=j+1 from O] at f;rw [cP xs j,<- f,show xs.getD j 0=y from by rw [N];simp [show j<xs.length from O]];omega
    have I:o<2147483648:=by
     have h2:=zt xs (lo+1) j O O C;have:=k.out;omega
    obtain ⟨P,hP⟩:∃ P:Nat,P=o*4294967296:=⟨_,rfl⟩;obtain ⟨M,Q⟩:∃ M:Nat,M=o*4294967296+y:=⟨_,rfl⟩;have J:(o:Int)*4294967296=(P:Int):=O
    have hf:P<9223372036854775808:=O
    have hk:M<9223372036854775808:=O
    have l:=ab (EI o y I hy);rw [<- Q] at l;rw [J] at l;rw [<- Q] at d;clear hP Q;have HS:=ab d;clear d N;go_wp2;go_round
    case rel=>exact ⟨(j:Int)-1,M,O,O,zN,congrArg (Value.int .i64) l,by rw [show ((j:Int)-1+1).toNat=j from O];exact HS⟩
    case measure=>exact bH
   ·obtain rfl:j=lo:=O
    have u:Hid (o=ai (xs.drop (j+1))):=by
     have f:=E.out;rw [show ((j:Int)+1).toNat=j+1 from O] at f;exact f
    obtain ⟨T,p,r,t1,t2,t3,t4,t5,t6,t7,t8,t9⟩:=Bm s x o V h (by rw [u];exact H) Y (by rw [H];exact G);have T6:=ab t6;clear G k E u H Y X C t6;go_wp2;go_quiet (fail)
    go_wp2;go_ret;exact ⟨congrArg (fun z=>Ending.returned (Value.int .i64 z)) T6,_,by first | rfl | (simp only [World.drewN_drewN];rfl)⟩
 ·have hz:ai xs / 2^a=0:=by
   apply Nat.div_eq_of_lt;have f:=bD ha.sm;rw [Ap] at f;exact Nat.lt_of_lt_of_le f (Nat.pow_le_pow_right zD O)
  rw [hz];clear D ha hb B hs i hz;go_enter Tryz.func174,Tryz.ntmps174
  go_wp2;go_ret;exact ⟨rfl,0,rfl⟩
def mr (w wr:World) (xs ys:List Nat) (a b:Int) (k:Nat) (c:Int):Prop :=
 ∃ done:List Nat,done.length=k/\Sm done/\bZ wr w.heap.size (done++List.replicate (xs.length-k) 0)/\w.grownBy wr none /\
  (ai done:Int)+(4294967296^k:Nat)*c=a*(ai (xs.take k):Nat)+b*(ai (ys.take k):Nat)
def cQ (ys:List Nat) (k:Nat):ai (ys.take (k+1))=ai (ys.take k)+4294967296^k*ys.getD k 0:=by
 by_cases h:k<ys.length
 ·rw [au ys k h];simp [h]
 ·rw [zT O,zT O];simp [List.getD,h]
def Dh (D p c a b X x Y y t:Int) (h:D+p*c=a*X+b*Y) (d:t=c+a*x+b*y):D+p*t=a*(X+p*x)+b*(Y+p*y):=by
 subst d;have e:a*(X+p*x)=a*X+p*(a*x):=by rw [Int.mul_add,Int.mul_left_comm]
 have f:b*(Y+p*y)=b*Y+p*(b*y):=by rw [Int.mul_add,Int.mul_left_comm]
 rw [e,f,Int.mul_add,Int.mul_add];omega
def mr.step {a b c:Int} {k:Nat} (h:mr w wr xs ys a b k c) (o:k<xs.length) (x y:Nat) (s:x=xs[k]) (hy:y=ys.getD k 0) (t z:Int) (u:t=c+a*x+b*y) (A:z=t % 4294967296) :
  mr w (wr.setCell ⟨w.heap.size,k,none⟩ (.int .u32 z)) xs ys a b (k+1) (t / 4294967296):=by
 obtain ⟨done,f,B,C,D,l⟩:=h;obtain ⟨r,E⟩:∃ r:Nat,(r:Int)=t % 4294967296:=⟨(t % 4294967296).toNat,O⟩;have d:r<4294967296:=O
 refine ⟨done++[r],by simp [f],B.append (Sm.cons d Sm.nil),?_,ah D _ _ zL,?_⟩
 ·have:=C.set k r;rw [A,<- E];have e:(done++List.replicate (xs.length-k) 0).set k r=(done++[r])++List.replicate (xs.length-(k+1)) 0:=by
   obtain ⟨m,F⟩:∃ m,xs.length-k=m+1:=⟨xs.length-k-1,O⟩;rw [F,show xs.length-(k+1)=m from O];subst f;rw [List.set_append_right _ _ zL];simp [List.replicate_succ]
  rw [e] at this;exact this
 ·rw [aR,f,au xs k o,<- s,cQ ys k,<- hy];rw [Int.natCast_add,Int.natCast_add,Int.natCast_add,Int.natCast_mul,Int.natCast_mul,Int.natCast_mul,Nat.pow_succ,Int.natCast_mul];generalize ((4294967296^k:Nat):Int)=p at l ⊢;have e:=Dh _ p c a b _ (x:Int) _ (y:Int) t l u;rw [<- e];have i:t=r+4294967296*(t / 4294967296):=O
  generalize t / 4294967296=q at i ⊢;rw [i,Int.mul_add,Int.mul_assoc];simp only [Int.add_assoc];rfl
def Aq (a:Int) (x:Nat) (b:-1073741824<a) (d:a<1073741824) (e:x<4294967296):-4611686014132420609<=a*(x:Int)/\a*(x:Int)<=4611686014132420609:=by
 have f:a*(x:Int)<=1073741823*(x:Int):=Int.mul_le_mul_of_nonneg_right O O;have h:-1073741823*(x:Int)<=a*(x:Int):=Int.mul_le_mul_of_nonneg_right O O;omega
def rD (w:World) (n L:Nat) (e:Ending) (w':World):Prop:=∃ v',e=.returned v'/\aT w' v' n L/\w.grownBy w' none/\bC w v'
def Di {a b c u:Int} (h:mr w wr xs ys a b xs.length c) (d:ys.length<=xs.length) (m:u=a*(ai xs:Nat)+b*(ai ys:Nat)) (p:0<=u) (q:u<(4294967296^xs.length:Nat)) :
  ∃ done:List Nat,done.length=xs.length/\Sm done/\bZ wr w.heap.size done/\w.grownBy wr none/\ai done=u.toNat:=by
 obtain ⟨done,f,i,k,o,l⟩:=h;rw [Nat.sub_self,List.replicate_zero,List.append_nil] at k;refine ⟨done,f,i,k,o,?_⟩;rw [zT zL,zT d,<- m] at l;have hd:=bD i;rw [f] at hd;have e:(0:Int)<(4294967296^xs.length:Nat):=by
  have:0<4294967296^xs.length:=Nat.pow_pos zD;omega
 generalize hP:(4294967296^xs.length:Nat)=P at *;have hc:c=0:=by
  rcases Int.lt_trichotomy c 0 with h | h | h
  ·have:=Int.mul_le_mul_of_nonneg_left (show c<=-1 by omega) (Int.le_of_lt e);omega
  ·exact h
  ·have:=Int.mul_le_mul_of_nonneg_left (show 1<=c by omega) (Int.le_of_lt e);omega
 rw [hc,Int.mul_zero] at l;omega
def CombR (w:World) (xs ys:List Nat) (a b:Int) (cv iv:Value) (wr:World):Prop:=∃ (k:Nat) (c:Int),k<=xs.length/\-2147483648<=c/\c<=2147483648/\iv=.int .i64 k/\cv=.int .i64 c/\mr w wr xs ys a b k c
def pR (J K:Value) (xs ys:List Nat) (a b u:Int) (w:World) (ha:Ws w J xs) (hb:Ws w K ys) (A:ys.length<=xs.length) (a1:-1073741824<a) (a2:a<1073741824) (b1:-1073741824<b) (b2:b<1073741824) (L:u=a*(ai xs:Nat)+b*(ai ys:Nat)) (h0:0<=u) (l:u<=(ai xs:Nat)) (hl:xs.length<=10000000000000) :
  Calls Tryz.prog 173 #[J,K,.int .i64 a,.int .i64 b] w fun e w'=>rD w u.toNat xs.length e w':=by
 obtain ⟨ao,ca,rfl,ho,p,R⟩:=ha.open;obtain ⟨bo,cb,rfl,hp,q,S⟩:=hb.open;unfold maxLen at p q;have HA:=ab R;have HB:=ab S;have M:=ab ha.sm;have SB:=ab hb.sm;have HU:=ab L;have H1:=ab l;clear R ha S hb L l;go_enter Tryz.func173,Tryz.ntmps173
 go_wp2_with (at_make;refine aE _ rfl _ _ 103 rfl Tryz.underlying103 Tryz.info32 _ _ _ _ xs.length rfl rfl O O O ?_)
 intro w1 i o;have HR:=ab i;have HG:=ab o;clear i o;go_wp2;go_loopw [10,18] (fun cv iv wr=>Hid (CombR w xs ys a b cv iv wr)) (fun _ iv _=>xs.length-(intOf iv).toNat)
 case atStart=>exact ⟨0,0,Nat.zero_le _,O,O,rfl,rfl,[],rfl,Sm.nil,by simpa using HR.out,HG,by simp [ai]⟩
 case round =>
  obtain ⟨k,c,hk,hq,hr,rfl,rfl,r⟩:=hrel.out;have t:=ab r;clear hrel r;by_cases hlt:k<xs.length
  ·obtain ⟨b',off,rfl,hs,f⟩:=aG HA k hlt;have N:=(aG M).get k hlt;obtain ⟨x,ex⟩:=eX (xs[k]);rw [<- ex] at f N;have P:=ab ex;clear ex;obtain ⟨done,l,h2,F,G,h5⟩:=t.out;have he:wr.cell? ⟨b',off+k,none⟩=some (.int .u32 (x:Nat)):=G.cell f Z;have hf:wr.frozen? ⟨w.heap.size,k,none⟩=false:=F.free k;obtain ⟨v0,hv⟩:∃ v,wr.cell? ⟨w.heap.size,k,none⟩=some v:=⟨_,F.cell k (by simp [l];omega)⟩;have B:=ab G;clear l h2 F G h5 f;obtain ⟨p1,p2⟩:=Aq a x a1 a2 N;by_cases h:k<ys.length
   ·obtain ⟨H,s,rfl,T,d⟩:=aG HB k h;have hy:=(aG SB).get k h;obtain ⟨y,I⟩:=eX (ys[k]);rw [<- I] at d hy;have C:Hid (y=ys.getD k 0):=by rw [I];show _=_;simp [h]
    have hm:wr.cell? ⟨H,s+k,none⟩=some (.int .u32 (y:Nat)):=B.out.cell d Z;clear I d;obtain ⟨p3,p4⟩:=Aq b y b1 b2 hy;go_wp2;go_roundw
    case rel=>exact ⟨k+1,(c+a*x+b*y) / 4294967296,O,O,O,zN,zN,t.step hlt x y P C _ _ rfl (by first | rfl | omega)⟩
    case measure=>exact bH
   ·have C:Hid ((0:Nat)=ys.getD k 0):=by show _=_;simp [List.getD,show ¬ k<ys.length from h]
    go_wp2;go_roundw
    case rel=>exact ⟨k+1,(c+a*x) / 4294967296,O,O,O,zN,zN,t.step hlt x 0 P C _ _ Z (by first | rfl | omega)⟩
    case measure=>exact bH
  ·obtain rfl:k=xs.length:=O
   have m:=bD M;have D:=H1.out;obtain ⟨done,z,U,V,W,X⟩:=Di t A HU h0 O;have E:=V.ws U (by rw [z];unfold maxLen;omega);rw [z] at E;have HW:=ab E;have E1:=ab z;have E4:=ab W;have E5:=ab X;clear z U V W X E m D;go_wp2_with fail;refine (fN _ done _ HW).mono ?_;rintro e w2 ⟨v',rfl,rfl,Y,k2⟩;have K1:=ab Y;have K2:=ab k2;clear Y k2;go_wp2;go_ret;refine ⟨v',rfl,?_,E4,?_⟩
   ·have:=K1.out;rw [E5,E1] at this;exact this
   ·intro j Q;rw [K2] at Q;simp [ar] at Q;omega
structure iT (X Y P H N:Int) (a b c d hi nx:Int):Prop where
 hh:hi=a*H+b*N
 hn:nx=c*H+d*N
 sg:(0<=a/\b<=0/\c<=0/\0<=d)∨(a<=0/\0<=b/\0<=c/\d<=0)
 ha:-1073741824<a/\a<1073741824
 hb:-1073741824<b/\b<1073741824
 hc:-1073741824<c/\c<1073741824
 hd:-1073741824<d/\d<1073741824
 ra:0<=hi+a
 rb:0<=hi+b
 rc:0<=nx+c
 rd:0<=nx+d
 le:nx<=hi
 top:hi<=H
 g:Int.gcd (a*X+b*Y) (c*X+d*Y)=Int.gcd X Y
 v0:0<=c*X+d*Y
 vu:c*X+d*Y<=a*X+b*Y
 u0:0<a*X+b*Y
 ux:a*X+b*Y<=X
 vy:c*X+d*Y<=Y
 ds:d≠0
 bs:(a=1/\b=0/\c=0/\d=1)∨(b≠0/\c*X+d*Y<Y)
def iT.start {X Y P H N:Int} (a:Y<=X) (d:0<Y) (e:0<=N) (b:N<=H):iT X Y P H N 1 0 0 1 H N:=by
 refine ⟨Z,Z,Z,zD,zD,zD,zD,O,O,O,O,b,O,Z,by simp;omega,by simp;omega,by simp;omega,Z,Z,zD,Z⟩
def fe {P x t c d:Int} (hP:0<P) (a:0<=x) (b:x<P) (e:0<=t) (f:t<P) (hc:c<=0) (hd:0<=d):c*P<=c*x+d*t/\c*x+d*t<=d*P:=by
 have h:c*P<=c*x:=Int.mul_le_mul_of_nonpos_left hc O;have i:0<=d*t:=Int.mul_nonneg hd e;have k:c*x<=0:=Int.mul_nonpos_of_nonpos_of_nonneg hc a;have l:d*t<=d*P:=Int.mul_le_mul_of_nonneg_left O hd;omega
def yZ {X Y P H N x t c d a:Int} (b:X=H*P+x) (e:Y=N*P+t) (hn:a=c*H+d*N):c*X+d*Y=a*P+(c*x+d*t):=by
 subst b e hn;simp only [Int.mul_add,Int.add_mul,Int.mul_assoc];omega
def DM (u v q:Int):Int.gcd v (u-q*v)=Int.gcd u v:=by
 rw [Int.gcd_comm u v];apply Nat.dvd_antisymm
 ·apply Int.dvd_gcd (Int.gcd_dvd_left ..) ;have a:((Int.gcd v (u-q*v):Nat):Int)∣v:=Int.gcd_dvd_left ..;have d:((Int.gcd v (u-q*v):Nat):Int)∣u-q*v:=Int.gcd_dvd_right ..;have e:=Int.dvd_add d (Int.dvd_mul_of_dvd_right a (b:=q));rwa [Int.sub_add_cancel] at e
 ·apply Int.dvd_gcd (Int.gcd_dvd_left ..);exact Int.dvd_sub (Int.gcd_dvd_right ..) (Int.dvd_mul_of_dvd_right (Int.gcd_dvd_left ..))
def iT.step {X Y P H N x t a b c d hi f q:Int} (h:iT X Y P H N a b c d hi f) (hP:0<P) (r:0<=x) (l:x<P) (s:0<=t) (m:t<P) (A:X=H*P+x) (B:Y=N*P+t) (R:Y<=X)
  (g1:f+c≠0) (g2:f+d≠0) (q1:q=(hi+a) / (f+c)) (q2:q=(hi+b) / (f+d))
  (hc':-1073741824<a-q*c/\a-q*c<1073741824) (hd':-1073741824<b-q*d/\b-q*d<1073741824) :
  iT X Y P H N c d (a-q*c) (b-q*d) f (hi-q*f)/\0<=hi-q*f/\hi-q*f<f/\0<=q/\q*f<=hi+1073741824:=by
 have J:0<f+c:=by have:=h.rc;omega
 have K:0<f+d:=by have:=h.rd;omega
 have q0:0<=q:=by rw [q1];exact Int.ediv_nonneg h.ra O
 have L:q*(f+c)+(hi+a) % (f+c)=hi+a:=by
  have:=Int.mul_ediv_add_emod (hi+a) (f+c);rw [<- q1,Int.mul_comm] at this;exact this
 have S:q*(f+d)+(hi+b) % (f+d)=hi+b:=by
  have:=Int.mul_ediv_add_emod (hi+b) (f+d);rw [<- q2,Int.mul_comm] at this;exact this
 have r1:=Int.emod_nonneg (hi+a) (Int.ne_of_gt J);have r2:=Int.emod_nonneg (hi+b) (Int.ne_of_gt K);have s1:=Int.emod_lt_of_pos (hi+a) J;have s2:=Int.emod_lt_of_pos (hi+b) K;rw [Int.mul_add] at L S;generalize (hi+a) % (f+c)=R1 at *;generalize (hi+b) % (f+d)=R2 at *
 -- the new remainders
 have eU:a*X+b*Y=hi*P+(a*x+b*t):=yZ A B h.hh;have M:c*X+d*Y=f*P+(c*x+d*t):=yZ A B h.hn;have Q:hi-q*f=(a-q*c)*H+(b-q*d)*N:=by
  have T:=h.hh;have U:=h.hn;rw [T,U];simp only [Int.mul_add,Int.sub_mul,Int.mul_assoc];omega
 have y:(a-q*c)*X+(b-q*d)*Y=(hi-q*f)*P+((a-q*c)*x+(b-q*d)*t):=yZ A B Q;have C:(a-q*c)*X+(b-q*d)*Y=(a*X+b*Y)-q*(c*X+d*Y):=by
  simp only [Int.mul_add,Int.sub_mul,Int.mul_assoc];omega
 have u:(0<=c/\d<=0/\a-q*c<=0/\0<=b-q*d)∨(c<=0/\0<=d/\0<=a-q*c/\b-q*d<=0):=by
  rcases h.sg with ⟨o,p,k,i⟩ | ⟨o,p,k,i⟩
  ·right
   have:=Int.mul_nonpos_of_nonneg_of_nonpos q0 k;have:=Int.mul_nonneg q0 i;omega
  ·left
   have:=Int.mul_nonneg q0 k;have:=Int.mul_nonpos_of_nonneg_of_nonpos q0 i;omega
 have z:0<=hi-q*f/\hi-q*f<f:=O
 have D:q*f<=hi+1073741824:=by
  have:=h.ha;have:=h.hb;rcases h.sg with ⟨o,p,k,i⟩ | ⟨o,p,k,i⟩
  ·have:=Int.mul_nonneg q0 i;omega
  ·have:=Int.mul_nonneg q0 k;omega
 -- v is above 0,v' isn't below 0,v' is below v
 have E:P<=(f+c)*P:=by
  have:=Int.mul_le_mul_of_nonneg_right (show 1<=f+c by omega) (Int.le_of_lt hP);omega
 have F:P<=(f+d)*P:=by
  have:=Int.mul_le_mul_of_nonneg_right (show 1<=f+d by omega) (Int.le_of_lt hP);omega
 have V:0<c*X+d*Y:=by
  rw [M];rcases h.sg with ⟨o,p,k,i⟩ | ⟨o,p,k,i⟩
  ·have:=(fe hP r l s m k i).1;rw [Int.add_mul] at E;omega
  ·have:=(fe hP s m r l i k).1;rw [Int.add_mul] at F;omega
 have W:0<=(hi-q*f+(a-q*c))*P:=Int.mul_nonneg O (Int.le_of_lt hP);have e2:0<=(hi-q*f+(b-q*d))*P:=Int.mul_nonneg O (Int.le_of_lt hP);have G:0<=(a-q*c)*X+(b-q*d)*Y:=by
  rw [y];rcases u with ⟨o,p,k,i⟩ | ⟨o,p,k,i⟩
  ·have:=(fe hP r l s m k i).1;rw [Int.add_mul] at W;omega
  ·have:=(fe hP s m r l i k).1;rw [Int.add_mul] at e2;omega
 have f1:P<=(f+c-(hi-q*f+(a-q*c)))*P:=by
  have:=Int.mul_le_mul_of_nonneg_right (show 1<=f+c-(hi-q*f+(a-q*c)) by omega) (Int.le_of_lt hP);omega
 have f2:P<=(f+d-(hi-q*f+(b-q*d)))*P:=by
  have:=Int.mul_le_mul_of_nonneg_right (show 1<=f+d-(hi-q*f+(b-q*d)) by omega) (Int.le_of_lt hP);omega
 have hlt:(a-q*c)*X+(b-q*d)*Y<c*X+d*Y:=by
  rw [y,M];rw [Int.sub_mul,Int.add_mul,Int.add_mul] at f1 f2;rcases u with ⟨o,p,k,i⟩ | ⟨o,p,k,i⟩
  ·have k1:=(fe hP s m r l p o).1;have k2:=(fe hP r l s m k i).2;omega
  ·have k1:=(fe hP r l s m o p).1;have k2:=(fe hP s m r l i k).2;omega
 have I:b-q*d≠0:=by
  have he:=h.ds;rcases h.bs with ⟨ea,eb,ec,ed⟩ | ⟨hj,_⟩
  ·subst ea eb ec ed;have hf:=h.le;have:q≠0:=by
    intro e;rw [e] at L;omega
   omega
  ·rcases h.sg with ⟨o,p,k,i⟩ | ⟨o,p,k,i⟩
   ·have:=Int.mul_nonneg q0 i;omega
   ·have:=Int.mul_nonpos_of_nonneg_of_nonpos q0 i;omega
 refine ⟨⟨h.hn,Q,?_,h.hc,h.hd,hc',hd',h.rc,h.rd,O,O,O,by have:=h.top;have:=h.le;omega,?_,G,Int.le_of_lt hlt,V,?_,?_,I,.inr ⟨h.ds,?_⟩⟩,z.1,z.2,q0,D⟩
 ·omega
 ·rw [C,DM];exact h.g
 ·have:=h.vy;omega
 ·have:=h.vy;omega
 ·have:=h.vy;omega
end Go.Proofs.YtbomdfhdocaagaaGreatDoor
