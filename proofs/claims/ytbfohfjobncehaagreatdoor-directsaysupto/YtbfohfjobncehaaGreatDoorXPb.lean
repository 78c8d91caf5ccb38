/- Contracts. -/
import Derived.Test.YtbfohfjobncehaaGreatDoorXPa
import Derived.Laws.AppendOwnNone
import Derived.BigQuiet
import Derived.WalkSpells
import Derived.Test.YtbfohfjobncehaaGreatDoorXShelf
namespace Go.Proofs.YtbfohfjobncehaaGreatDoor
open Go.RowKit
set_option linter.all false
set_option maxHeartbeats 8000000
set_option maxRecDepth 10000
variable {w wr:World} {xs us vs ys qs:List Nat} {v:Value} {j g gu n c cap:Nat}
def lenOf:Value->Nat
 | .slice _ l _=>l
 | _=>0
theorem rR (w:World):Calls Tryz.prog 110 #[.slice none 0 0] w fun e a=>e=.returned (.slice none 0 0)/\a=w:=by
 go_enter Tryz.func110,Tryz.ntmps110
 go_wp2;refine wp_loop_rounds 1 ?_;rw [rounds_succ];go_wp2;go_ret;exact ⟨rfl,rfl⟩
theorem qi (b off cap:Nat) (xs:List Nat) (w:World) (u:xs.length<=cap) (d:cap<=maxLen)
  (hc:∀ i (h:i<xs.length),w.cell? ⟨b,off+i,none⟩=some (.int .u32 (xs[i]:Nat))) :
  Calls Tryz.prog 110 #[.slice (some ⟨b,off,none⟩) xs.length cap] w fun e t=>e=.returned (.slice (some ⟨b,off,none⟩) (aR xs).length cap)/\t=w:=by
 unfold maxLen at d;go_enter Tryz.func110,Tryz.ntmps110
 go_wp2;go_loop [0] (fun n=>∃ k:Nat,k<=xs.length/\n=.slice (some ⟨b,off,none⟩) k cap/\aR (xs.take k)=aR xs) (fun n=>lenOf n)
 case atStart=>exact ⟨xs.length,zL,rfl,Z⟩
 case round =>
  obtain ⟨k,y,rfl,p⟩:=hrel;have l:Hid (aR (xs.take k)=aR xs):=p;clear p;by_cases r:k=0
  ·subst r;go_wp2;go_ret;refine ⟨?_,rfl⟩;rw [<- l];rfl
  ·obtain ⟨j,rfl⟩:∃ j,k=j+1:=⟨k-1,O⟩;have o:=hc j O;have f:j<xs.length:=O
   by_cases a:xs[j]=0
   ·have m:Hid (xs[j]=0):=a;rw [a] at o;clear a hc;go_wp2;go_round
    case rel=>exact ⟨j,O,Z,by rw [<- l,kh xs j f m]⟩
    case measure=>simp [lenOf]
   ·have m:Hid (xs[j]≠0):=a;obtain ⟨x,q⟩:=eX (xs[j]);rw [<- q] at o a;have s:(((x:Nat):Int)==0)=false:=zB O;clear q a hc;go_wp2;go_ret;refine ⟨?_,rfl⟩;rw [<- l,kX xs j f m];simp;omega
theorem Dd (v:Value) (xs:List Nat) (w:World) (h:Ws w v xs) :
  Calls Tryz.prog 110 #[v] w fun e w'=>∃ v',e=.returned v'/\w'=w/\Ws w v' (aR xs)/\au v'=au v:=by
 rcases h.sh with ⟨rfl,rfl⟩ | ⟨b,off,cap,rfl,hb,a,d,hc⟩
 ·refine (rR w).mono ?_;rintro e w' ⟨rfl,rfl⟩;exact ⟨_,rfl,rfl,Ws.nil _,rfl⟩
 ·refine (qi b off cap xs w a d hc).mono ?_;rintro e w' ⟨rfl,rfl⟩;refine ⟨_,rfl,rfl,⟨h.sm.trimL,.inr ⟨b,off,cap,rfl,hb,Nat.le_trans (aY xs) a,d,?_⟩⟩,rfl⟩;intro i hi;have:=aY xs;rw [hc i O,lL xs i hi]
theorem fN (v:Value) (xs:List Nat) (w:World) (h:Ws w v xs) :
  Calls Tryz.prog 110 #[v] w fun e w'=>∃ v',e=.returned v'/\w'=w/\aT w v' (ai xs) xs.length/\au v'=au v:=by
 refine (Dd v xs w h).mono ?_;rintro e w' ⟨v',rfl,rfl,a,b⟩;exact ⟨v',rfl,rfl,⟨_,a,Tr.trimL _,fm _,aY _⟩,b⟩
theorem rP (f:Value) (xs:List Nat) (w:World) (ha:Ws w f xs) :
  Calls Tryz.prog 109 #[f] w fun e i=>e=.returned (.bool (xs==[1]))/\i=w:=by
 obtain ⟨k,l,rfl,d,h,a⟩:=ha.open;clear ha;match xs,a with
 | [],_ =>
  go_enter Tryz.func109,Tryz.ntmps109
  go_wp2;go_ret;exact ⟨rfl,rfl⟩
 | [x],a =>
  obtain ⟨b,off,rfl,hb,hc⟩:=a 0 Z;simp only [Nat.add_zero,List.getElem_cons_zero] at hc;clear a;go_enter Tryz.func109,Tryz.ntmps109
  go_wp2;go_ret;refine ⟨?_,rfl⟩;show Ending.returned (.bool ((x:Int)==1))=_
  congr 2
  rw [Bool.eq_iff_iff];simp;omega
 | x :: y :: r,_ =>
  have hb:((((x :: y :: r).length:Nat):Int)==1)=false:=zB (by simp;omega);generalize hn:(x :: y :: r).length=n at hb d ⊢;go_enter Tryz.func109,Tryz.ntmps109
  go_wp2;go_ret;exact ⟨Z,rfl⟩
def oI (d:Int):Int:=if d<0 then -1 else if 0<d then 1 else 0
theorem uY (d:Int) (w:World) :
  Calls Tryz.prog 150 #[.int .i64 d] w fun e a=>e=.returned (.int .i64 (oI d))/\a=w:=by
 rcases Int.lt_trichotomy d 0 with h | h | h
 ·go_enter Tryz.func150,Tryz.ntmps150
  go_wp2;go_ret;exact ⟨by simp [oI,h],rfl⟩
 ·subst h;go_enter Tryz.func150,Tryz.ntmps150
  go_wp2;go_ret;exact ⟨by simp [oI],rfl⟩
 ·go_enter Tryz.func150,Tryz.ntmps150
  go_wp2;go_ret;exact ⟨by simp [oI,h];omega,rfl⟩
theorem gB (H I:Value) (xs ys:List Nat) (w:World) (ha:Ws w H xs) (hb:Ws w I ys) (J:Tr xs) (K:Tr ys) :
  Calls Tryz.prog 111 #[H,I] w fun e w'=>e=.returned (.int .i64 (jb (ai xs) (ai ys)))/\∃ q,w'=w.drewN q:=by
 obtain ⟨ao,ca,rfl,hj,o,Q⟩:=ha.open;obtain ⟨bo,cb,rfl,hk,p,R⟩:=hb.open;unfold maxLen at o p;have U:=aa Q;have V:=aa R;have L:=aa ha.sm;have M:=aa hb.sm;have W:=aa J;have X:=aa K;clear Q R ha hb J K;by_cases r:xs.length=ys.length
 ·have t:(((xs.length:Nat):Int) != ((ys.length:Nat):Int))=false:=by rw [bne_eq_false_iff_eq];omega
  have HL:=aa r;have Y:xs.length<=ys.length:=O
  have he:ys.length<=xs.length:=O
  clear r;go_enter Tryz.func111,Tryz.ntmps111
  go_wp2;go_loopw [5] (fun i wr=>∃ (z:Int) (q:Nat),-1<=z/\z<xs.length/\i=.int .i64 z/\wr=w.drewN q/\Hid (xs.drop (z+1).toNat=ys.drop (z+1).toNat)) (fun i _=>(intOf i+1).toNat)
  case atStart=>exact ⟨(xs.length:Int)-1,0,O,O,rfl,rfl,by rw [List.drop_of_length_le O,List.drop_of_length_le O];rfl⟩
  case round =>
   obtain ⟨z,q,hm,ho,rfl,rfl,F⟩:=hrel;by_cases h0:z<0
   ·go_wp2;go_ret;refine ⟨?_,q,rfl⟩;have:=F.out;rw [show (z+1).toNat=0 from O] at this;simp only [List.drop_zero] at this;rw [this,tG];rfl
   ·obtain ⟨j,rfl⟩:∃ j:Nat,z=j:=⟨z.toNat,O⟩;have d:j<xs.length:=O
    have f:j<ys.length:=O
    obtain ⟨b,off,rfl,hp,m⟩:=aG U j d;obtain ⟨b2,S,rfl,T,k⟩:=aG V j f;obtain ⟨x,ex⟩:=eX (xs[j]);obtain ⟨y,G⟩:=eX (ys[j]);rw [<- ex] at m;rw [<- G] at k;have u:=aa ex;have A:=aa G;clear ex G;have l:=F.out;rw [show ((j:Int)+1).toNat=j+1 from O] at l;have B:=aa l;clear l F;rcases Nat.lt_trichotomy x y with a | a | a
    ·go_wp2;go_quiet (fail)
     go_wp2;go_ret;refine ⟨?_,_,by simp only [World.drewN_drewN];rfl⟩;rw [qv (fZ xs ys j d f L B (by rw [<- u,<- A];exact a))];rfl
    ·have C:=aa a;have N:x<=y:=O
     have P:y<=x:=O
     clear a;go_wp2;go_quiet (fail)
     go_wp2;go_quiet (fail)
     go_wp2;go_roundw
     case rel=>exact ⟨(j:Int)-1,_,O,O,zN,by first | rfl | (simp only [World.drewN_drewN];rfl),by
      rw [show ((j:Int)-1+1).toNat=j from O,List.drop_eq_getElem_cons d,List.drop_eq_getElem_cons f,B,<- u,<- A,C];rfl⟩
     case measure=>simp [intOf]
    ·have hf:¬ ((x:Nat):Int)<((y:Nat):Int):=O
     go_wp2;go_quiet (fail)
     go_wp2;go_quiet (fail)
     go_wp2;go_ret;refine ⟨?_,_,by simp only [World.drewN_drewN];rfl⟩;rw [qu (fZ ys xs j f d M B.symm (by rw [<- u,<- A];exact a))];rfl
 ·have t:(((xs.length:Nat):Int) != ((ys.length:Nat):Int))=true:=by rw [bne_iff_ne];omega
  have E:Hid (oI ((xs.length:Int)-(ys.length:Int))=jb (ai xs) (ai ys)):=by
   rcases Nat.lt_or_ge xs.length ys.length with h | h
   ·show _=_
    rw [qv (cG L X h)];unfold oI;rw [if_pos O]
   ·show _=_
    rw [qu (cG M W O)];unfold oI;rw [if_neg O,if_pos O]
  clear r;go_enter Tryz.func111,Tryz.ntmps111
  go_wp2_with fail;refine (uY _ _).mono ?_;rintro e w1 ⟨rfl,rfl⟩;have D:=E.out;generalize oI ((xs.length:Int)-(ys.length:Int))=s at D ⊢;have E3:=aa D;clear E D;go_wp2;go_ret;exact ⟨by rw [E3];rfl,0,rfl⟩
theorem mP (a b:Value) (m n L M:Nat) (w:World) (ha:aT w a m L) (hb:aT w b n M) :
  Calls Tryz.prog 111 #[a,b] w fun e o=>e=.returned (.int .i64 (jb m n))/\∃ q,o=w.drewN q:=by
 obtain ⟨xs,d,f,h,p⟩:=ha;obtain ⟨ys,i,k,l,r⟩:=hb;rw [<- h,<- l];exact gB a b xs ys w d i f k
def gR (w:World) (base:Nat) (v:Value) (xs:List Nat):Prop:=w.ownsRow base 115 1 v xs.length (ak xs).toList
theorem o9 (w:World) (base:Nat):gR w base (.slice none 0 0) []:=World.ownsRow_nil _ _ _ _
theorem jX {a:Array Value} (h:a.toList.take (xs.length*1)=(ak xs).toList) (i:Nat) (hi:i<xs.length):a[i]? = some (.int .u32 (xs[i]:Nat)):=by
 have b:(a.toList.take (xs.length*1))[i]? = (ak xs).toList[i]?:=by rw [h]
 rw [List.getElem?_take,if_pos O] at b;simpa [ak,hi] using b
theorem gR.ws {base:Nat} (h:gR w base v xs) (a:Sm xs):Ws w v xs:=by
 refine ⟨a,?_⟩;rcases h.2 with ⟨rfl,b⟩ | ⟨g,cap,d,rfl,hb,hh,e,f,l,k⟩
 ·exact .inl ⟨rfl,List.eq_nil_of_length_eq_zero b⟩
 ·refine .inr ⟨g,0,cap,rfl,(zZ hh).1,e,f,fun i hi=>?_⟩;rw [Nat.zero_add];simp only [World.cell?,hh];exact jX k i hi
theorem gR.fresh {base:Nat} (h:gR w base v xs):∀ k,au v=some k->base<=k/\k<w.heap.size:=by
 intro k a;rcases h.2 with ⟨rfl,d⟩ | ⟨g,cap,b,rfl,hb,hh,e,f,i,l⟩
 ·simp [au] at a
 ·simp [au] at a;subst a;exact ⟨hb,(zZ hh).1⟩
theorem gR.open {base:Nat} (h:gR w base v xs):∃ ao cap,v=.slice ao xs.length cap/\xs.length<=cap/\cap<=maxLen /\
  (ao=none∨∃ g,ao=some ⟨g,0,none⟩/\base<=g/\g<w.heap.size):=by
 rcases h.2 with ⟨rfl,a⟩ | ⟨g,cap,b,rfl,hb,hh,d,e,f,i⟩
 ·exact ⟨none,0,by rw [a],O,by unfold maxLen;omega,.inl rfl⟩
 ·exact ⟨_,cap,rfl,d,e,.inr ⟨g,rfl,hb,(zZ hh).1⟩⟩
theorem gR.at {base:Nat} (h:gR w base (.slice (some ⟨g,0,none⟩) xs.length cap) xs) (i:Nat) (hi:i<xs.length) :
  w.cell? ⟨g,i,none⟩=some (.int .u32 (xs[i]:Nat))/\w.frozen? ⟨g,i,none⟩=false /\
   ∀ (x:Nat) (z:Int),z=(x:Int)->gR (w.setCell ⟨g,i,none⟩ (.int .u32 z)) base (.slice (some ⟨g,0,none⟩) xs.length cap) (xs.set i x):=by
 rcases h.2 with ⟨a,_⟩ | ⟨o,d,b,a,hb,hh,k,l,m,e⟩
 ·simp at a
 ·simp only [Value.slice.injEq,zI,Addr.mk.injEq,and_true,true_and] at a;obtain ⟨rfl,rfl⟩:=a;refine ⟨?_,?_,?_⟩
  ·simp only [World.cell?,hh];exact jX e i hi
  ·simp [World.frozen?,hh]
  ·intro x z f;refine ⟨by simp [ak],.inr ⟨g,cap,b.setIfInBounds i (.int .u32 z),Z,hb,?_,by simpa using k,l,by simpa using m,?_⟩⟩
   ·rw [heap_setCell_same w g i _ _ _ hh]
   ·subst f;rw [Array.toList_setIfInBounds,List.length_set,List.take_set,e];simp [ak,List.map_set]
theorem gR.keep {b:World} {base:Nat} {row:Option Nat} (h:gR w base v xs) (hg:w.grownBy b row) (a:∀ k,row=some k->au v≠some k):gR b base v xs:=by
 refine World.ownsRow.kept h hg ?_;cases row with
 | none=>cases hv:v.ownBlock<;>simp
 | some k =>
  right
  intro e;refine a k rfl ?_;rw [<- e];cases v<;>rfl
theorem gR.keep0 {a:World} {base:Nat} (h:gR w base v xs) (hg:w.grownBy a none):gR a base v xs:=h.keep hg nofun
theorem gR.base {base base':Nat} (h:gR w base v xs) (hb:∀ k,au v=some k->base'<=k):gR w base' v xs:=by
 refine ⟨h.1,?_⟩;rcases h.2 with b | ⟨g,cap,a,rfl,l,hh,d,e,f,i⟩
 ·exact .inl b
 ·exact .inr ⟨g,cap,a,rfl,hb g rfl,hh,d,e,f,i⟩
theorem ch.own {base:Nat} (h:ch w g xs) (hb:base<=g) (a:xs.length<=maxLen):gR w base (.slice (some ⟨g,0,none⟩) xs.length xs.length) xs :=
 ⟨by simp [ak],.inr ⟨g,xs.length,ak xs,rfl,hb,h,zL,a,by simp [ak],zT (by simp [ak])⟩⟩
theorem oB (v:Value):v.ownBlock=au v:=by cases v<;>rfl
theorem iw {w1:World} {r:Option Nat} (h:w.grownBy w1 r) (g i:Nat) (v:Value) (a:r=some g):w.grownBy (w1.setCell ⟨g,i,none⟩ v) r :=
 aj (r2:=some g) h ⟨rfl,rfl,rfl,Z,fun k _ a=>heap_setCell_other _ _ _ _ (fun e=>a (by rw [e]))⟩ (fun _ _ e=>e) (fun b hb e=>by rw [a];exact e)
theorem E6 (d:Sm ys) (h:ys≠[]->4294967296^(ys.length-1)<=ai ys):Tr ys:=by
 by_cases hy:ys=[]
 ·subst hy;rfl
 ·have e:=h hy;have f:=fm ys;have b:=bD d.trimL;have l:=aY ys;rw [f] at b;have m:ys.length-1<(aR ys).length:=(Nat.pow_lt_pow_iff_right (a:=4294967296) zD).1 (Nat.lt_of_le_of_lt e b);have o:0<ys.length:=List.length_pos_iff.2 hy;have k:(aR ys).length=ys.length:=O
  unfold Tr;apply List.ext_getElem k;intro i hi _;exact lL ys i hi
def ik (w:World) (base:Nat) (v:Value) (n L:Nat):Prop:=∃ xs,gR w base v xs/\Sm xs/\Tr xs/\ai xs=n/\xs.length<=L
theorem ik.num {base:Nat} {L:Nat} (h:ik w base v n L):aT w v n L:=by
 obtain ⟨xs,a,b,d,e,f⟩:=h;exact ⟨xs,a.ws b,d,e,f⟩
theorem ik.mono {base:Nat} {L L':Nat} (h:ik w base v n L) (a:L<=L'):ik w base v n L':=by
 obtain ⟨xs,b,d,e,f,i⟩:=h;exact ⟨xs,b,d,e,f,Nat.le_trans i a⟩
theorem ik.keep0 {a:World} {base:Nat} {L:Nat} (h:ik w base v n L) (hg:w.grownBy a none):ik a base v n L:=by
 obtain ⟨xs,b,d,e,f,i⟩:=h;exact ⟨xs,b.keep0 hg,d,e,f,i⟩
theorem ik.fresh {base:Nat} {L:Nat} (h:ik w base v n L):∀ k,au v=some k->base<=k/\k<w.heap.size:=by
 obtain ⟨xs,a,b,d,e,f⟩:=h;exact a.fresh
theorem ik.base {base base':Nat} {L:Nat} (h:ik w base v n L) (hb:base'<=base):ik w base' v n L:=by
 obtain ⟨xs,a,b,d,e,f⟩:=h;exact ⟨xs,a.base (fun k i=>Nat.le_trans hb (a.fresh k i).1),b,d,e,f⟩
def oT (w wr:World) (base g cap:Nat) (xs:List Nat) (b m i c:Nat):Prop :=
 ∃ mid:List Nat,mid.length=i/\Sm mid/\gR wr base (.slice (some ⟨g,0,none⟩) xs.length cap) (mid++xs.drop i)/\w.grownBy wr (some g)/\ai mid+4294967296^i*c=ai (xs.take i)*b+m
theorem oT.at {base:Nat} {b m i:Nat} (h:oT w wr base g cap xs b m i c) (hi:i<xs.length) :
  wr.cell? ⟨g,i,none⟩=some (.int .u32 (xs[i]:Nat))/\wr.frozen? ⟨g,i,none⟩=false /\
   ∀ (x:Nat) (z:Int),x=xs[i]->z=(((c+x*b) % 4294967296:Nat):Int)->oT w (wr.setCell ⟨g,i,none⟩ (.int .u32 z)) base g cap xs b m (i+1) ((c+x*b) / 4294967296):=by
 obtain ⟨a,d,p,l,q,r⟩:=h;have f:(a++xs.drop i).length=xs.length:=by simp [d];omega
 rw [<- f] at l;obtain ⟨k1,s,t⟩:=l.at i (by rw [f];exact hi);have e:(a++xs.drop i)[i]'(by rw [f];exact hi)=xs[i]:=by
  rw [List.getElem_append_right O];simp [d]
 rw [e] at k1;refine ⟨k1,s,fun x z u y=>?_⟩;have k:=t _ z y;have o:(a++xs.drop i).set i ((c+x*b) % 4294967296)=(a++[(c+x*b) % 4294967296])++xs.drop (i+1):=by
  rw [List.set_append_right _ _ O,d,Nat.sub_self,List.drop_eq_getElem_cons hi,List.set_cons_zero,List.append_assoc];rfl
 rw [o,f] at k;refine ⟨a++[(c+x*b) % 4294967296],by simp [d],p.snoc _,k,iw q g i _ rfl,?_⟩;rw [aS,d,Nat.pow_succ,Nat.add_assoc,fL,Nat.mul_add,<- Nat.add_assoc,r,aw xs i hi,<- u,Nat.add_mul,Nat.mul_assoc];omega
theorem Bj (x y c:Nat):(((c:Int)+(x:Int)*(y:Int)) / 4294967296)=(((c+x*y) / 4294967296:Nat):Int):=by
 rw [Int.natCast_ediv,Int.natCast_add,Int.natCast_mul];rfl
theorem xT (x y c:Nat):(((c:Int)+(x:Int)*(y:Int)) % 4294967296)=(((c+x*y) % 4294967296:Nat):Int):=by
 rw [Int.natCast_emod,Int.natCast_add,Int.natCast_mul];rfl
def Grown (w:World) (base:Nat) (v:Value) (xs:List Nat) (b m:Nat) (v':Value) (w':World):Prop :=
 ∃ ys,gR w' base v' ys/\Sm ys/\ai ys=ai xs*b+m/\ys.length<=xs.length+1/\w.grownBy w' (au v)/\(Tr xs->0<b->Tr ys)
theorem Bk {a:List Nat} {b m:Nat} (f:a.length=xs.length) (i:Sm a) (h:ai a=ai xs*b+m) (k:Tr xs) (hb:0<b):Tr a:=by
 refine E6 i fun d=>?_
 have l:xs≠[]:=by
  intro e;subst e;exact d (List.eq_nil_of_length_eq_zero f)
 have o:=jz k l;rw [f,h];have:ai xs*1<=ai xs*b:=Nat.mul_le_mul_left _ hb;omega
theorem gR.alloc {base:Nat} (h:gR w base v xs) (o:Obj):gR (w.alloc o) base v xs:=World.ownsRow.alloc h o
theorem Dj (v:Value) (xs:List Nat) (b m:Nat) (w:World) (base:Nat) (h:gR w base v xs) (Y:Sm xs) (hb:b<4294967296) (hm:m<4294967296) (hl:xs.length<=10000000000000) (I:base<=w.heap.size) :
  Calls Tryz.prog 197 #[v,.int .u32 (b:Nat),.int .u32 (m:Nat)] w fun e w'=>∃ v',e=.returned v'/\Grown w base v xs b m v' w':=by
 obtain ⟨i0,Q,R,S,T⟩:=info_parts Tryz.info32;obtain ⟨o,cap,ev,ho,U,A⟩:=h.open;unfold maxLen at U;have J:=aa Y;have l:=aa A;have G:=aa h;subst ev;clear h Y A;go_enter Tryz.func197,Tryz.ntmps197
 go_wp2;go_loopw [7,14] (fun cv iv wr=>∃ i c:Nat,i<=xs.length/\c<4294967296/\iv=.int .i64 i/\cv=.int .u64 c/\Hid (∃ mid:List Nat,mid.length=i/\Sm mid/\gR wr base (.slice o xs.length cap) (mid++xs.drop i)/\w.grownBy wr (au (.slice o xs.length cap))/\ai mid+4294967296^i*c=ai (xs.take i)*b+m)) (fun _ iv _=>xs.length-(intOf iv).toNat)
 case atStart=>exact ⟨0,m,O,hm,rfl,rfl,[],rfl,Sm.nil,G,ag _ _,by simp [ai]⟩
 case round =>
  obtain ⟨i,c,hi,hc,rfl,rfl,B⟩:=hrel;by_cases hlt:i<xs.length
  ·obtain ⟨g,rfl,hq,hr⟩:∃ g,o=some ⟨g,0,none⟩/\base<=g/\g<w.heap.size:=by
    rcases l.out with e | e
    ·exfalso
     subst e;rcases G.out.2 with ⟨_,e2⟩ | ⟨g,a,V,e2,_⟩
     ·omega
     ·simp at e2
    ·exact e
   obtain ⟨W,hv,f⟩:=oT.at (w:=w) (wr:=wr) (base:=base) (g:=g) (cap:=cap) (xs:=xs) (b:=b) (m:=m) (i:=i) (c:=c) B hlt;have hx:=J.out.get i hlt;obtain ⟨x,ex⟩:=eX (xs[i]);rw [<- ex] at W hx;have K:=aa (f x);have EX:=aa ex;have hp:=mq x b hx hb;have hk:0<=(x:Int)*(b:Int):=Int.mul_nonneg O O;clear f ex B l;go_wp2;go_roundw
   case rel =>
    refine ⟨i+1,(c+x*b) / 4294967296,O,?_,zN,by rw [Bj],K _ EX (by rw [xT])⟩;have:x*b<=4294967295*4294967295:=Nat.mul_le_mul O O;omega
   case measure=>exact bO
  ·obtain rfl:i=xs.length:=O
   obtain ⟨mid,h1,C,D,E,p⟩:=B.out;rw [List.drop_of_length_le zL,List.append_nil] at D;rw [zT zL] at p;by_cases r:c=0
   ·subst r;rw [Nat.mul_zero,Nat.add_zero] at p;have HE:Hid (Grown w base (.slice o xs.length cap) xs b m (.slice o xs.length cap) wr):=⟨mid,D,C,p,O,E,fun tx X=>Bk h1 C p tx X⟩;clear h1 C D E p B l G J;go_wp2;go_ret;exact ⟨_,rfl,HE⟩
   ·have s:1<=c:=O
    obtain ⟨k,q⟩:∃ z:Int,z=(c:Int):=⟨_,rfl⟩;have he:0<k:=O
    have hf:k<4294967296:=O
    simp only [<- q];have L:=aa q;clear q s hc;have H:=aa h1;have H2:=aa C;have H3:=aa D;have H4:=aa E;have H5:=aa p;have M:=aa E.size;clear h1 C D E p B l G J r;go_wp2_with (at_builtin;refine wpList_append_own _ rfl _ _ 83 rfl base 115 i0 (.int .u32 0) 1 4 Tryz.underlying83 Q R S T rfl zD _ xs.length (ak mid).toList rfl ?c0 ⟨wr.heap.size,0,none⟩ 1 1 [.int .u32 k] rfl rfl ?c1 ?c2 ?c3 ?c4 ?c5 ?_)
    case c0 =>
     have:=H3.out.alloc (Obj.cells #[Value.int IntKind.u32 k] 115);unfold gR at this;rw [H] at this;exact this
    case c1 =>
     intro j u P;match j with
     | 0 =>
      simp only [List.getElem?_cons_zero,zI] at P;subst P;simp [Addr.add]
     | j+1=>simp at P
    case c2 =>
     intro u hu;simp only [List.mem_singleton] at hu;subst hu;rfl
    case c3=>unfold maxLen;omega
    case c4=>omega
    case c5 =>
     have:=M.out;simp;omega
    intro v' w2 d t y;have HW:=aa d;have N:=aa t;obtain ⟨F,a,rfl⟩:∃ F a,v'=.slice F (xs.length+1) a:=by
     rcases d.2 with ⟨_,e⟩ | ⟨g,a,V,rfl,_⟩
     ·omega
     ·exact ⟨_,_,rfl⟩
    clear d t y;go_wp2;go_ret;refine ⟨_,rfl,mid++[k.toNat],?_,H2.append (Sm.cons O Sm.nil),?_,by simp [H.out],?_,fun _ _=>kW _ _ O⟩
    ·have h1:=HW.out;have e1:(ak mid).toList++[Value.int IntKind.u32 k]=(ak (mid++[k.toNat])).toList:=by
      have e2:k=((k.toNat:Nat):Int):=O
      rw [e2];simp [ak]
     rw [e1] at h1;unfold gR;rw [List.length_append,H];exact h1
    ·rw [aS,H,<- H5];have e2:c=k.toNat:=by have:=L.out;omega
     rw [e2]
    ·refine aj (r1:=au (.slice o xs.length cap)) (r2:=au (.slice o xs.length cap)) H4 ?_ (fun _ _ e=>e) (fun _ _ e=>e);have:=N.out;rw [oB] at this;exact aj (r1:=none) (World.grownBy_alloc wr _ none) this nofun (fun _ _ e=>e)
def ln (w wr:World) (base:Nat) (v:Value) (xs:List Nat) (d k r:Nat):Prop :=
 ∃ qs:List Nat,qs.length=xs.length-k/\Sm qs/\gR wr base v (xs.take k++qs)/\w.grownBy wr (au v)/\ai (xs.drop k)=ai qs*d+r
theorem ln.at {base:Nat} {d r:Nat} (h:ln w wr base (.slice (some ⟨g,0,none⟩) xs.length cap) xs d (j+1) r) (a:j<xs.length) (hd:r<d) (p:d<4294967296) (q:Sm xs) :
  wr.cell? ⟨g,j,none⟩=some (.int .u32 (xs[j]:Nat))/\wr.frozen? ⟨g,j,none⟩=false /\
   ∀ (x:Nat) (z:Int),x=xs[j]->z=(((r*4294967296+x) / d:Nat):Int)->ln w (wr.setCell ⟨g,j,none⟩ (.int .u32 z)) base (.slice (some ⟨g,0,none⟩) xs.length cap) xs d j ((r*4294967296+x) % d):=by
 obtain ⟨qs,l,y,m,A,B⟩:=h;have b:(xs.take (j+1)++qs).length=xs.length:=by rw [List.length_append,List.length_take,l];omega
 have i:(xs.take j).length=j:=by rw [List.length_take];omega
 rw [jY xs j a] at m b;have f:=m;rw [<- b] at f;obtain ⟨k1,C,D⟩:=f.at j (by rw [b];exact a);have e:(xs.take j++[xs[j]]++qs)[j]'(by rw [b];exact a)=xs[j]:=by
  rw [List.getElem_append_left (by rw [List.length_append,i];simp),List.getElem_append_right O];simp [i]
 rw [e] at k1;refine ⟨k1,C,fun x z o E=>?_⟩;have k:=D _ z E;have s:x<4294967296:=by rw [o];exact q.get j a
 have t:(r*4294967296+x) / d<4294967296:=by
  rw [Nat.div_lt_iff_lt_mul O];have:(r+1)*4294967296<=d*4294967296:=Nat.mul_le_mul_right _ O;rw [Nat.mul_comm 4294967296 d];omega
 have u:(xs.take j++[xs[j]]++qs).set j ((r*4294967296+x) / d)=xs.take j++((r*4294967296+x) / d) :: qs:=by
  rw [List.append_assoc,List.set_append_right _ _ O,i,Nat.sub_self];rfl
 rw [u,b] at k;refine ⟨((r*4294967296+x) / d) :: qs,by simp [l];omega,Sm.cons t y,k,iw A g j _ rfl,?_⟩;rw [List.drop_eq_getElem_cons a,<- o];simp only [ai,B];have e:=Nat.div_add_mod (r*4294967296+x) d;rw [Nat.add_mul,Nat.mul_add,Nat.mul_assoc,Nat.mul_comm ((r*4294967296+x) / d) d];omega
theorem lB (v:Value) (xs:List Nat) (w:World) (base:Nat) (h:gR w base v xs) (o:Sm xs) :
  Calls Tryz.prog 110 #[v] w fun e w'=>∃ v',e=.returned v'/\w'=w/\gR w base v' (aR xs)/\au v'=au v:=by
 rcases h.2 with ⟨rfl,k⟩ | ⟨g,cap,b,rfl,hb,hh,l,d,m,f⟩
 ·have:xs=[]:=List.eq_nil_of_length_eq_zero k;subst this;refine (rR w).mono ?_;rintro e w' ⟨rfl,rfl⟩;exact ⟨_,rfl,rfl,o9 _ _,rfl⟩
 ·refine (qi g 0 cap xs w l d ?_).mono ?_
  ·intro i hi;rw [Nat.zero_add];simp only [World.cell?,hh];exact jX f i hi
  ·rintro e w' ⟨rfl,rfl⟩;have p:=aY xs;refine ⟨_,rfl,rfl,⟨by simp [ak],.inr ⟨g,cap,b,rfl,hb,hh,O,d,m,?_⟩⟩,rfl⟩;apply List.ext_getElem?
   intro i;rw [List.getElem?_take];split
   ·rename_i hi;have a:i<(aR xs).length:=O
    have:=jX f i O;rw [Array.getElem?_toList,this];simp [ak,a,lL xs i a]
   ·rename_i hi;rw [List.getElem?_eq_none];simp [ak];omega
theorem Bg (x:Nat) (w:World) (a:x<4294967296) :
  Calls Tryz.prog 152 #[.int .u32 x] w fun e d=>∃ v',e=.returned v'/\ik d w.heap.size v' x 1/\w.grownBy d none:=by
 go_enter Tryz.func152,Tryz.ntmps152
 go_wp2_with fail;have ha:ch (w.alloc (Obj.cells #[Value.int IntKind.u32 (x:Int)] 115)) w.heap.size [x]:=by
  unfold ch;show (w.heap.push _)[w.heap.size]? = _
  rw [Array.getElem?_push_size];rfl
 have b:=ha.own (base:=w.heap.size) zL (by unfold maxLen;simp);clear ha;refine (lB _ [x] _ w.heap.size b (Sm.cons a Sm.nil)).mono ?_;rintro e w1 ⟨v',rfl,rfl,f,h⟩;clear b;go_wp2;go_ret;refine ⟨v',rfl,⟨_,f,(Sm.cons a Sm.nil).trimL,Tr.trimL _,?_,aY _⟩,ae (ag _ _) _⟩;rw [fm];simp only [ai];omega
def Co (w:World) (base:Nat) (v:Value) (xs:List Nat) (d:Nat) (v':Value) (w':World):Prop :=
 ∃ ys,gR w' base v' ys/\Sm ys/\Tr ys/\ai ys=ai xs / d/\ys.length<=xs.length/\w.grownBy w' (au v)/\au v'=au v
theorem qK (v:Value) (xs:List Nat) (d:Nat) (w:World) (base:Nat) (h:gR w base v xs) (G:Sm xs) (i:0<d) (hd:d<4294967296) (hl:xs.length<=10000000000000) :
  Calls Tryz.prog 118 #[v,.int .u32 (d:Nat)] w fun e w'=>∃ v' r,e=.returned (.tuple #[v',.int .u32 (r:Nat)])/\r=ai xs % d/\Co w base v xs d v' w':=by
 obtain ⟨M,cap,ev,hf,C,l⟩:=h.open;unfold maxLen at C;have H:=aa G;have b:=aa l;have o:=aa h;subst ev;clear h G l;go_enter Tryz.func118,Tryz.ntmps118
 go_wp2;go_loopw [6,7] (fun rv iv wr=>∃ (z:Int) (r:Nat),-1<=z/\z<xs.length/\r<d/\iv=.int .i64 z/\rv=.int .u64 r/\Hid (ln w wr base (.slice M xs.length cap) xs d (z+1).toNat r)) (fun _ iv _=>(intOf iv+1).toNat)
 case atStart=>exact ⟨(xs.length:Int)-1,0,O,O,O,rfl,rfl,[],Z,Sm.nil,by
  rw [show ((xs.length:Int)-1+1).toNat=xs.length from O,List.append_nil,zT zL];exact o,ag _ _,by
  rw [List.drop_of_length_le O];simp [ai]⟩
 case round =>
  obtain ⟨z,r,hj,hk,D,rfl,rfl,s⟩:=hrel;by_cases h0:z<0
  ·obtain ⟨qs,t,N,u,P,y⟩:=s.out;rw [show (z+1).toNat=0 from O] at t u y;simp only [List.take_zero,List.nil_append,Nat.sub_zero,List.drop_zero] at t u y;have T:=aa t;have I:=aa N;have U:=aa u;have V:=aa P;have J:=aa y;clear t N u P y s o b;go_wp2_with fail;refine (lB _ qs _ base U I).mono ?_;rintro e w2 ⟨v',rfl,rfl,k1,Q⟩;have W:=aa k1;have X:=aa Q;clear k1 Q;go_wp2;go_ret2
   refine ⟨v',r,rfl,?_,aR qs,W,I.out.trimL,Tr.trimL _,?_,?_,V,X⟩
   ·rw [J,Nat.mul_comm,Nat.mul_add_mod,Nat.mod_eq_of_lt D]
   ·rw [fm,J,Nat.mul_comm,Nat.mul_add_div i,Nat.div_eq_of_lt D,Nat.add_zero]
   ·have:=aY qs;have:=T.out;omega
  ·obtain ⟨j,rfl⟩:∃ j:Nat,z=j:=⟨z.toNat,O⟩;have k:j<xs.length:=O
   obtain ⟨g,rfl,ho,hp⟩:∃ g,M=some ⟨g,0,none⟩/\base<=g/\g<w.heap.size:=by
    rcases b.out with e | e
    ·exfalso
     subst e;rcases o.out.2 with ⟨_,R⟩ | ⟨g,S,hu,R,_⟩
     ·omega
     ·simp at R
    ·exact e
   have f:=s.out;rw [show ((j:Int)+1).toNat=j+1 from O] at f;obtain ⟨E,hv,a⟩:=f.at k D hd H;have K:=H.out.get j k;obtain ⟨x,ex⟩:=eX (xs[j]);rw [<- ex] at E K;have A:=aa (a x);have Y:=aa ex;obtain ⟨m,F⟩:=eX (r*4294967296+x);have B:=jO r x O K;rw [<- F] at B;have he:m<18446744073709551616:=O
   have p:m / d<4294967296:=by
    rw [Nat.div_lt_iff_lt_mul O];have:(r+1)*4294967296<=d*4294967296:=Nat.mul_le_mul_right _ O;rw [Nat.mul_comm 4294967296 d];omega
   have HQ:=aa p;have L:=aa F;clear a ex s f p F b o;go_wp2;go_roundw
   case rel =>
    refine ⟨(j:Int)-1,m % d,O,O,Nat.mod_lt _ i,rfl,by rw [Int.natCast_emod],?_⟩;rw [show ((j:Int)-1+1).toNat=j from O,L];refine A _ Y ?_;have p:=HQ.out;rw [<- L,<- Int.natCast_ediv];generalize m / d=q at p ⊢;rw [IntWalk.u64_in _ ⟨O,O⟩];omega
   case measure=>simp [intOf]
theorem jG (v:Value) (xs:List Nat) (w:World) (h:Ws w v xs) (I:xs.length<=10000000000000) :
  Calls Tryz.prog 117 #[v] w fun e t=>∃ v',e=.returned v'/\gR t w.heap.size v' xs/\w.grownBy t none:=by
 obtain ⟨E,hi,l,m,o⟩:=info_parts Tryz.info32;rcases h.sh with ⟨rfl,rfl⟩ | ⟨b,off,cap,rfl,hb,F,G,hc⟩
 ·have y:∀ W,(binOp .eql 83 (.slice none 0 0) (.slice none 0 0)).run Tryz.prog W=.ok (.bool true) W:=fun W=>Lib.run_eql_slice_nil W _ _ none 0 0 0 0 Tryz.underlying83
  go_enter Tryz.func117,Tryz.ntmps117
  go_wp2;go_ret;exact ⟨_,rfl,o9 _ _,ag _ _⟩
 ·have z:=aa hc;have J:=aa h;clear hc h;unfold maxLen at G;have y:∀ W,(binOp .eql 83 (.slice (some ⟨b,off,none⟩) xs.length cap) (.slice none 0 0)).run Tryz.prog W=.ok (.bool false) W:=fun W=>Lib.run_eql_slice_nil W _ _ (some _) _ _ 0 0 Tryz.underlying83
  go_enter Tryz.func117,Tryz.ntmps117
  go_wp2_with (at_builtin;refine wpList_append_own _ rfl _ _ 83 rfl w.heap.size 115 E (.int .u32 0) 1 4 Tryz.underlying83 hi l m o rfl zD _ 0 [] rfl ?c0 ⟨b,off,none⟩ xs.length cap (ak xs).toList rfl ?c1 ?c2 ?c3 ?c4 ?c5 ?c6 ?_)
  case c0=>exact World.ownsRow_made w #[] 0 zL (by unfold maxLen;omega) Z
  case c1=>simp [ak]
  case c2 =>
   intro j u D;obtain ⟨p,q⟩:=zY D;have k:j<xs.length:=by simpa [ak] using p
   have:=aG z j k;have A:=(World.grownBy_alloc w (Obj.cells #[] 115) none).cell this Z;rw [show (⟨b,off,none⟩:Addr).add j=⟨b,off+j,none⟩ from by simp [Addr.add]];rw [show u=.int .u32 (xs[j]:Nat) from by rw [<- q];simp [ak]];exact A
  case c3 =>
   intro u r;simp only [ak,List.mem_map] at r;obtain ⟨x,_,rfl⟩:=r;rfl
  case c4=>unfold maxLen;omega
  case c5=>omega
  case c6=>simp
  intro v' w1 a f _;have B:=aa a;have C:=aa f;obtain ⟨i,s,d,rfl⟩:∃ i s d,v'=.slice i s d:=by
   rcases a.2 with ⟨e,_⟩ | ⟨g,d,H,rfl,_⟩
   ·exact ⟨_,_,_,e⟩
   ·exact ⟨_,_,_,rfl⟩
  clear a f;go_wp2;go_ret;refine ⟨_,rfl,B,?_⟩;exact aj (r1:=none) (World.grownBy_alloc w _ none) C (fun _ _ e=>e) (fun b hb e=>by simp [Value.ownBlock] at e;omega)
def kB (w wr:World) (xs:List Nat) (s k c:Nat):Prop :=
 ∃ done:List Nat,done.length=k/\Sm done/\ch wr w.heap.size (done++c :: List.replicate (xs.length-k) 0)/\w.grownBy wr none/\ai done+4294967296^k*c=ai (xs.take k)*2^s
theorem kB.step {s k:Nat} (h:kB w wr xs s k c) (f:k<xs.length) (i:s<32) (hc:c<2^s) (x:Nat) (l:x=xs[k]) (b d:Int)
  (hz1:b=((c+x*2^s % 4294967296:Nat):Int)) (hz2:d=((x*2^s / 4294967296:Nat):Int)) :
  kB w ((wr.setCell ⟨w.heap.size,k,none⟩ (.int .u32 b)).setCell ⟨w.heap.size,k+1,none⟩ (.int .u32 d)) xs s (k+1) (x*2^s / 4294967296):=by
 obtain ⟨done,a,o,p,q,r⟩:=h;have hb:=(yy s c x i hc).2;refine ⟨done++[c+x*2^s % 4294967296],by simp [a],o.append (Sm.cons hb Sm.nil),?_,ah (ah q _ _ zL) _ _ zL,?_⟩
 ·have:=(p.set k (c+x*2^s % 4294967296)).set (k+1) (x*2^s / 4294967296);rw [hz1,hz2];have e:((done++c :: List.replicate (xs.length-k) 0).set k (c+x*2^s % 4294967296)).set (k+1) (x*2^s / 4294967296)
    = (done++[c+x*2^s % 4294967296])++(x*2^s / 4294967296) :: List.replicate (xs.length-(k+1)) 0:=by
   obtain ⟨m,t⟩:∃ m,xs.length-k=m+1:=⟨xs.length-k-1,O⟩;rw [t,show xs.length-(k+1)=m from O];subst a;rw [List.set_append_right _ _ zL,List.set_append_right _ _ O];simp [List.replicate_succ]
  rw [e] at this;exact this
 ·rw [aS,a,aw xs k f,<- l,Nat.add_mul,<- r,Nat.pow_succ,Nat.mul_add,Nat.mul_assoc (4294967296^k) x];have:=fL (4294967296^k) (x*2^s);omega
theorem DW (x s:Nat) (a:x<4294967296) (b:s<32):IntKind.u64.wrap ((x:Int)*2^s) / 4294967296 % 4294967296=((x*2^s / 4294967296:Nat):Int):=by
 have h:=(kU x s a b).2;rw [(kU x s a b).1];omega
theorem wC (A:Value) (xs:List Nat) (s:Nat) (w:World) (ha:Ws w A xs) (r:s<32) (S:xs.length<=10000000000000) :
  Calls Tryz.prog 154 #[A,.int .i64 (s:Nat)] w fun e C=>∃ us,e=.returned (.slice (some ⟨w.heap.size,0,none⟩) (xs.length+1) (xs.length+1))/\us.length=xs.length+1/\Sm us/\ch C w.heap.size us/\ai us=ai xs*2^s/\w.grownBy C none:=by
 obtain ⟨T,U,rfl,P,o,B⟩:=ha.open;unfold maxLen at o;have D:=aa B;have E:=aa ha.sm;clear B ha;go_enter Tryz.func154,Tryz.ntmps154
 go_wp2_with (at_make;refine aC _ rfl _ _ 83 rfl Tryz.underlying83 Tryz.info32 _ _ _ _ (xs.length+1) rfl rfl O O O ?_)
 intro w1 d l;have F:=aa d;have G:=aa l;clear d l;go_wp2;go_loopw [15] (fun i wr=>∃ k c:Nat,k<=xs.length/\i=.int .i64 k/\Hid (c<2^s)/\Hid (kB w wr xs s k c)) (fun i _=>xs.length-(intOf i).toNat)
 case atStart=>exact ⟨0,0,Nat.zero_le _,rfl,Nat.two_pow_pos s,[],rfl,Sm.nil,by
  have:=F.out;rw [List.replicate_succ] at this;exact this,G,by simp [ai]⟩
 case round =>
  obtain ⟨k,c,V,rfl,t,u⟩:=hrel;by_cases hlt:k<xs.length
  ·obtain ⟨b,off,rfl,Q,a⟩:=aG D k hlt;have p:=(aG E).get k hlt;obtain ⟨x,ex⟩:=eX (xs[k]);rw [<- ex] at a p;have H:=aa ex;clear ex;obtain ⟨done,f,y,h,q,z⟩:=u.out;have I:wr.cell? ⟨b,off+k,none⟩=some (.int .u32 (x:Nat)):=q.cell a Z;have J:wr.frozen? ⟨w.heap.size,k,none⟩=false:=h.free k;have K:wr.frozen? ⟨w.heap.size,k+1,none⟩=false:=h.free (k+1);have L:wr.cell? ⟨w.heap.size,k,none⟩=some (.int .u32 (c:Nat)):=by
    rw [h.cell k (by simp [f])];simp [f]
   have M:wr.cell? ⟨w.heap.size,k+1,none⟩=some (.int .u32 ((0:Nat):Int)):=by
    rw [h.cell (k+1) (by simp [f];omega)];obtain ⟨m,R⟩:∃ m,xs.length-k=m+1:=⟨xs.length-k-1,O⟩;simp [f,R,List.replicate_succ]
   clear f y h q z a;go_wp2;go_roundw
   case rel=>exact ⟨k+1,x*2^s / 4294967296,O,zN,Ds x s p,kB.step u hlt r t x H _ _ (zR c x s p r t) (DW x s p r)⟩
   case measure=>exact bO
  ·obtain rfl:k=xs.length:=O
   go_wp2;go_ret;obtain ⟨done,f,y,h,q,z⟩:=u.out;rw [Nat.sub_self,List.replicate_zero] at h;have hc:=t.out;have N:2^s<=2^31:=Nat.pow_le_pow_right zD O;refine ⟨done++[c],rfl,by simp [f],y.append (Sm.cons O Sm.nil),h,?_,q⟩;rw [aS,f,z,zT zL]
def Ap (xs:List Nat) (s:Nat):List Nat:=(List.range xs.length).map fun i=>(xs.getD i 0+4294967296*xs.getD (i+1) 0) / 2^s % 4294967296
theorem ff (xs:List Nat) (s:Nat):(Ap xs s).length=xs.length:=by simp [Ap]
theorem Aq (xs:List Nat) (s i:Nat) (h:i<(Ap xs s).length):(Ap xs s)[i]=(xs.getD i 0+4294967296*xs.getD (i+1) 0) / 2^s % 4294967296:=by simp [Ap]
theorem Em (xs:List Nat) (s:Nat):Sm (Ap xs s):=fun x a=>by
 simp only [Ap,List.mem_map] at a;obtain ⟨i,_,rfl⟩:=a;exact Nat.mod_lt _ zD
theorem En (xs:List Nat) (s:Nat) (h:Sm xs) (b:s<32) (k:Nat) (f:k<=xs.length):ai ((Ap xs s).take k)=ai xs / 2^s % 4294967296^k:=by
 induction k with
 | zero=>simp [ai,Nat.mod_one]
 | succ k ih =>
  have a:k<xs.length:=O
  rw [aw _ k (by rw [ff];exact a),ih O,Aq];have e:=qD xs s k h b a;have d:xs.getD k 0=xs[k]:=by simp [a]
  rw [d,<- e,Nat.pow_succ,Nat.mod_mul]
theorem rsh_val (xs:List Nat) (s:Nat) (h:Sm xs) (b:s<32):ai (Ap xs s)=ai xs / 2^s:=by
 have a:=En xs s h b xs.length zL;rw [zT (by rw [ff];exact zL)] at a;have d:=bD h;have e:=Nat.div_le_self (ai xs) (2^s);rw [a,Nat.mod_eq_of_lt O]
def pK (w wr:World) (xs:List Nat) (s k:Nat):Prop:=ch wr w.heap.size (List.replicate k 0++(Ap xs s).drop k)/\w.grownBy wr none
theorem pK.step {s:Nat} (h:pK w wr xs s (j+1)) (a:j<xs.length) (x y:Nat) (b:x=xs[j]) (hy:y=xs.getD (j+1) 0) (z:Int) (hz:z=(((y*4294967296+x) / 2^s % 4294967296:Nat):Int)) :
  pK w (wr.setCell ⟨w.heap.size,j,none⟩ (.int .u32 z)) xs s j:=by
 obtain ⟨f,k⟩:=h;refine ⟨?_,ah k _ _ zL⟩;have:=f.set j ((y*4294967296+x) / 2^s % 4294967296);rw [hz];have e:(List.replicate (j+1) 0++(Ap xs s).drop (j+1)).set j ((y*4294967296+x) / 2^s % 4294967296)=List.replicate j 0++(Ap xs s).drop j:=by
  rw [<- List.replicate_append_replicate (n:=j) (m:=1),List.append_assoc,List.set_append_right _ _ Z,List.drop_eq_getElem_cons (i:=j) (by rw [ff];exact a),Aq];have d:xs.getD j 0=x:=by rw [b];simp [a]
  rw [d,<- hy,Nat.mul_comm y,Nat.add_comm (4294967296*y)];simp
 rw [e] at this;exact this
theorem Bs (E:Value) (xs:List Nat) (s:Nat) (w:World) (ha:Ws w E xs) (N:s<32) (hl:xs.length<=10000000000000) :
  Calls Tryz.prog 158 #[E,.int .i64 (s:Nat)] w fun e M=>∃ v',e=.returned v'/\ik M w.heap.size v' (ai xs / 2^s) xs.length/\w.grownBy M none:=by
 obtain ⟨ao,ca,rfl,Y,o,J⟩:=ha.open;unfold maxLen at o;have P:=aa J;have F:=aa ha.sm;clear J ha;go_enter Tryz.func158,Tryz.ntmps158
 go_wp2_with (at_make;refine aC _ rfl _ _ 83 rfl Tryz.underlying83 Tryz.info32 _ _ _ _ xs.length rfl rfl O O O ?_)
 intro w1 i l;have Q:=aa i;have R:=aa l;clear i l;go_wp2;go_loopw [6,7] (fun av iv wr=>∃ (z:Int) (y:Nat),-1<=z/\z<xs.length/\y<4294967296/\iv=.int .i64 z/\av=.int .u64 y/\Hid (y=xs.getD (z+1).toNat 0)/\Hid (pK w wr xs s (z+1).toNat)) (fun _ iv _=>(intOf iv+1).toNat)
 case atStart =>
  have e:((xs.length:Int)-1+1).toNat=xs.length:=O
  refine ⟨(xs.length:Int)-1,0,O,O,O,rfl,rfl,?_,?_,R⟩
  ·show 0=_
   rw [e];simp [List.getD]
  ·rw [e,List.drop_of_length_le (by rw [ff];exact zL),List.append_nil];exact Q
 case round =>
  obtain ⟨z,y,he,hf,hy,rfl,rfl,C,p⟩:=hrel;by_cases h0:z<0
  ·go_wp2_with fail;obtain ⟨q,K⟩:=p.out;rw [show (z+1).toNat=0 from O] at q;simp only [List.replicate_zero,List.nil_append,List.drop_zero] at q;have r:=q.own (base:=w.heap.size) zL (by rw [ff];unfold maxLen;omega);rw [ff] at r;clear q;refine (lB _ (Ap xs s) _ w.heap.size r (Em xs s)).mono ?_;rintro e w2 ⟨v',rfl,rfl,k1,L⟩;have S:=aa k1;have K2:=aa L;have T:=aa K;clear r k1 L K p C;go_wp2;go_ret;refine ⟨v',rfl,⟨_,S,(Em xs s).trimL,Tr.trimL _,?_,?_⟩,T⟩
   ·rw [fm,rsh_val xs s F N]
   ·have:=aY (Ap xs s);rw [ff] at this;exact this
  ·obtain ⟨j,rfl⟩:∃ j:Nat,z=j:=⟨z.toNat,O⟩;have h:j<xs.length:=O
   have G:((j:Int)+1).toNat=j+1:=O
   obtain ⟨b,off,rfl,hj,d⟩:=aG P j h;have t:=(aG F).get j h;obtain ⟨x,ex⟩:=eX (xs[j]);rw [<- ex] at d t;have H:=aa ex;have f:=p.out;have k:=C.out;rw [G] at f k;have u:wr.cell? ⟨b,off+j,none⟩=some (.int .u32 (x:Nat)):=f.2.cell d Z;have U:wr.frozen? ⟨w.heap.size,j,none⟩=false:=f.1.free j;obtain ⟨v0,hk⟩:∃ v,wr.cell? ⟨w.heap.size,j,none⟩=some v:=⟨_,f.1.cell j (by simp;omega)⟩;obtain ⟨m,D⟩:=eX (y*4294967296+x);have A:=jO y x hy t;rw [<- D] at A;have V:m<18446744073709551616:=O
   have W:=aa D;have X:=aa f;have B:=aa k;have I:∀ v,(wr.setCell ⟨w.heap.size,j,none⟩ v).cell? ⟨b,off+j,none⟩=some (.int .u32 (x:Nat)):=by
    intro v;rw [World.cell?_of_block (w:=wr) (a:=⟨b,off+j,none⟩) (heap_setCell_other _ _ _ _ (by show b≠w.heap.size;omega))];exact u
   clear d ex p f C k D G;go_wp2;go_roundw
   case rel =>
    refine ⟨(j:Int)-1,x,O,O,t,rfl,rfl,?_,?_⟩
    ·show x=_
     rw [show ((j:Int)-1+1).toNat=j from O,H];simp [h]
    ·rw [show ((j:Int)-1+1).toNat=j from O];refine pK.step X h x y H B _ ?_;rw [m9,<- W];omega
   case measure=>simp [intOf]
def GuessR (hh vt U V:Nat) (gv rv:Value):Prop:=∃ g r:Nat,gv=.int .u64 g/\rv=.int .u64 r/\r<4294967296/\g<18446744073709551616/\Hid (g*vt+r=hh/\U / V<=g)
def Guessed (U V:Nat) (w:World) (e:Ending) (w':World):Prop:=∃ g q:Nat,e=.returned (.int .u64 (g:Nat))/\g<4294967296/\U / V<=g/\g<=U / V+1/\w'=w.drewN q
theorem Dk (S T:Value) (W vs:List Nat) (n:Nat) (w:World) (q:Ws w S W) (hy:Ws w T vs) (hn:vs.length=n+2) (I:W.length=n+3) (s:2147483648<=vs.getD (n+1) 0) (hlt:ai W<4294967296*ai vs) :
  Calls Tryz.prog 155 #[S,T] w fun e w'=>Guessed (ai W) (ai vs) w e w':=by
 have h:2147483648<=vs[n+1]:=by
  have e:vs.getD (n+1) 0=vs[n+1]:=by simp [List.getD,hn]
  omega
 have kd:=kd_of vs W n hn I hy.sm q.sm h hlt;obtain ⟨ao,ca,ea,K,C,F⟩:=q.open;obtain ⟨bo,cb,eb,L,D,M⟩:=hy.open;obtain ⟨b1,o1,rfl,hl,c1⟩:=F (n+2) O;obtain ⟨_,_,e2,_,c2⟩:=F (n+1) O;obtain ⟨_,_,e3,_,c3⟩:=F n O;simp only [zI,Addr.mk.injEq,and_true] at e2 e3;obtain ⟨rfl,rfl⟩:=e2;obtain ⟨rfl,rfl⟩:=e3;obtain ⟨b2,o2,rfl,hm,c4⟩:=M (n+1) O;obtain ⟨_,_,e5,_,c5⟩:=M n O;simp only [zI,Addr.mk.injEq,and_true] at e5;obtain ⟨rfl,rfl⟩:=e5;have U:=q.sm.get (n+2) O;have V:=q.sm.get (n+1) O;have X:=q.sm.get n O;have B4:=hy.sm.get (n+1) O;have Y:=hy.sm.get n O;generalize W[n+2]=ua at c1 kd U;generalize W[n+1]=ub at c2 kd V;generalize W[n]=uc at c3 kd X;generalize vs[n+1]=vt at c4 kd h B4;generalize vs[n]=vn at c5 kd Y;have KD:=aa kd;rw [I] at ea K;rw [hn] at eb L;subst ea eb;unfold maxLen at C D;have i:=jO ua ub U V;obtain ⟨hh,G⟩:=eX (ua*4294967296+ub);rw [<- G] at i;have k:=aa G;have hf:hh<18446744073709551616:=O
 have he:((vt:Int)==0)=false:=zB O;have l:hh / vt*vt+hh % vt=hh:=by rw [Nat.mul_comm];exact Nat.div_add_mod hh vt
 have u:=Nat.mod_lt hh (show 0<vt by omega);have x:hh / vt<=hh:=Nat.div_le_self _ _;obtain ⟨Q,E⟩:=eX (hh / vt);obtain ⟨R,H⟩:=eX (hh % vt);rw [<- E,<- H] at l;rw [<- H] at u;rw [<- E] at x;have o:(hh:Int) / (vt:Int)=(Q:Int):=by rw [E,Int.natCast_ediv]
 have p:(hh:Int) % (vt:Int)=(R:Int):=by rw [H,Int.natCast_emod]
 have y:(hh:Int).tdiv (vt:Int)=(Q:Int):=by rw [Int.tdiv_eq_ediv_of_nonneg O];exact o
 have z:(hh:Int).tmod (vt:Int)=(R:Int):=by rw [Int.tmod_eq_emod_of_nonneg O];exact p
 have b:ai W / ai vs<=Q:=by rw [E,G];exact kd.init
 have A:=aa (And.intro l b);clear F M q hy s hlt kd G E H l b hn I;go_enter Tryz.func155,Tryz.ntmps155
 go_wp2;go_quiet (fail)
 go_wp2;go_quiet (fail)
 go_wp2;go_quiet (fail)
 go_wp2;go_loop [9,10] (fun P rv=>GuessR hh vt (ai W) (ai vs) P rv) (fun P _=>(intOf P).toNat)
 case atStart=>exact ⟨Q,R,by first | rfl | rw [o] | rw [y],by first | rfl | rw [p] | rw [z],O,O,A⟩
 case round =>
  clear A o p y z u x i;obtain ⟨g,r,rfl,rfl,hr,hg,f⟩:=hrel;have i:=jO r uc hr X;obtain ⟨m,N⟩:=eX (r*4294967296+uc);rw [<- N] at i;have EM:=aa N;have hj:m<18446744073709551616:=O
  clear N;by_cases B:4294967296<=g
  ·have t:=aa (KD.keep (by rw [<- k];exact f.1) (.inl B));have a:1<=g:=O
   by_cases d:r+vt<4294967296
   ·go_wp2;go_round
    case rel=>exact ⟨g-1,r+vt,zN,zN,d,O,bT f.1 a,by have:=t.out;omega⟩
    case measure=>exact bO
   ·go_wp2;go_ret;have hb:=KD.out.brk (by rw [<- k];exact bT f.1 a) (Nat.le_of_not_lt d);refine ⟨g-1,_,zN,hb.1,by have:=t.out;omega,KD.exit (by rw [<- k];exact bT f.1 a) hb.1 hb.2,by first | rfl | (simp only [World.drewN_drewN];rfl)⟩
  ·have hp:(g:Int)*(vn:Int)<=18446744065119617025:=mq g vn O Y;have hk:0<=(g:Int)*(vn:Int):=Int.mul_nonneg O O;by_cases s:m<g*vn
   ·have h:(m:Int)<(g:Int)*(vn:Int):=by rw [<- Int.natCast_mul];omega
    have t:=aa (KD.keep (by rw [<- k];exact f.1) (.inr (by rw [<- EM];exact s)));have a:1<=g:=Nat.lt_of_le_of_lt (Nat.zero_le _) t;clear s;by_cases d:r+vt<4294967296
    ·go_wp2;go_round
     case rel=>exact ⟨g-1,r+vt,zN,zN,d,O,bT f.1 a,by have:=t.out;omega⟩
     case measure=>exact bO
    ·go_wp2;go_ret;have hb:=KD.out.brk (by rw [<- k];exact bT f.1 a) (Nat.le_of_not_lt d);refine ⟨g-1,_,zN,hb.1,by have:=t.out;omega,KD.exit (by rw [<- k];exact bT f.1 a) hb.1 hb.2,by first | rfl | (simp only [World.drewN_drewN];rfl)⟩
   ·have h:¬ (m:Int)<(g:Int)*(vn:Int):=by rw [<- Int.natCast_mul];omega
    have J:=aa s;clear s;go_wp2;go_ret;refine ⟨g,_,rfl,O,f.2,KD.exit (by rw [<- k];exact f.1) O (by have:=J.out;rw [<- EM];omega),by first | rfl | (simp only [World.drewN_drewN];rfl)⟩
def jB (w wr:World) (gu:Nat) (us vs:List Nat) (j g k c:Nat):Prop :=
 ∃ mid:List Nat,mid.length=k/\Sm mid/\ch wr gu (us.take j++mid++us.drop (j+k))/\w.grownBy wr (some gu)/\ai mid+g*ai (vs.take k)=ai ((us.drop j).take k)+4294967296^k*c
theorem nr {a:List Nat} {k:Nat} (b:ch wr gu (us.take j++a++us.drop (j+k))) (d:a.length=k) (e:j+k<us.length):wr.cell? ⟨gu,j+k,none⟩=some (.int .u32 (us[j+k]:Nat)):=by
 have hg:=ns us a j k d e;obtain ⟨f,h⟩:=zY hg;have:=b.cell (j+k) f;rw [h] at this;exact this
theorem jB.at {k:Nat} (h:jB w wr gu us vs j g k c) (m:k<vs.length) (l:j+k<us.length) :
  wr.cell? ⟨gu,j+k,none⟩=some (.int .u32 (us[j+k]:Nat))/\wr.frozen? ⟨gu,j+k,none⟩=false /\
  ∀ (x e v:Nat) (z:Int),z=(x:Int)->x<4294967296->v=vs[k]->x+(c+g*v) % 4294967296=us[j+k]+4294967296*e ->
   jB w (wr.setCell ⟨gu,j+k,none⟩ (.int .u32 z)) gu us vs j g (k+1) ((c+g*v) / 4294967296+e):=by
 obtain ⟨a,b,s,i,t,y⟩:=h;refine ⟨nr i b l,i.free _,?_⟩;intro x e v z o q r f;refine ⟨a++[x],by simp [b],s.append (Sm.cons q Sm.nil),?_,iw t gu _ _ rfl,?_⟩
 ·have:=i.set (j+k) x;rw [iQ us a j k x b l] at this;rw [o];exact this
 ·rw [aS,b,aw vs k m,aw (us.drop j) k (by rw [List.length_drop];omega),List.getElem_drop,Nat.pow_succ,<- r];have d:=Nat.mod_add_div (c+g*v) 4294967296;generalize (c+g*v) % 4294967296=lo at f d;generalize (c+g*v) / 4294967296=hi at d ⊢;generalize us[j+k]=u at f ⊢;generalize 4294967296^k=p at y ⊢;rw [Nat.mul_add g,Nat.mul_left_comm g p v];have A:p*x+p*lo=p*u+p*(4294967296*e):=by
   rw [<- Nat.mul_add,<- Nat.mul_add,f]
  have B:p*lo+p*(4294967296*hi)=p*c+p*(g*v):=by
   rw [<- Nat.mul_add,<- Nat.mul_add,d]
  rw [Nat.mul_assoc,Nat.mul_add 4294967296,Nat.mul_add p];omega
theorem jB.top (h:jB w wr gu us vs j g vs.length c) (f:j+vs.length<us.length) :
  wr.cell? ⟨gu,j+vs.length,none⟩=some (.int .u32 (us[j+vs.length]:Nat))/\wr.frozen? ⟨gu,j+vs.length,none⟩=false /\
  ∀ (x e:Nat) (z:Int),z=(x:Int)->x<4294967296->x+c=us[j+vs.length]+4294967296*e ->
  ∃ W:List Nat,W.length=vs.length+1/\Sm W/\ch (wr.setCell ⟨gu,j+vs.length,none⟩ (.int .u32 z)) gu (us.take j++W++us.drop (j+(vs.length+1))) /\
   w.grownBy (wr.setCell ⟨gu,j+vs.length,none⟩ (.int .u32 z)) (some gu)/\ai W+g*ai vs=ai ((us.drop j).take (vs.length+1))+4294967296^(vs.length+1)*e/\W[vs.length]? = some x:=by
 obtain ⟨a,b,o,d,q,k⟩:=h;refine ⟨nr d b f,d.free _,?_⟩;intro x e z l m i;refine ⟨a++[x],by simp [b],o.append (Sm.cons m Sm.nil),?_,iw q gu _ _ rfl,?_,by rw [List.getElem?_append_right O];simp [b]⟩
 ·have:=d.set (j+vs.length) x;rw [iQ us a j vs.length x b f] at this;rw [l];exact this
 ·rw [zT (Nat.le_refl vs.length)] at k;rw [aS,b,aw (us.drop j) vs.length (by rw [List.length_drop];omega),List.getElem_drop,Nat.pow_succ];generalize us[j+vs.length]=u at i ⊢;generalize 4294967296^vs.length=p at k ⊢;have r:p*x+p*c=p*u+p*(4294967296*e):=by
   rw [<- Nat.mul_add,<- Nat.mul_add,i]
  rw [Nat.mul_assoc p];omega
def Cp (w w':World) (gu:Nat) (us vs:List Nat) (j g E:Nat):Prop :=
 ∃ W:List Nat,W.length=vs.length+1/\Sm W/\ch w' gu (us.take j++W++us.drop (j+(vs.length+1)))/\w.grownBy w' (some gu)/\ai W+g*ai vs=ai ((us.drop j).take (vs.length+1))+4294967296^(vs.length+1)*E
theorem qY (u lo:Nat) (b:u<4294967296) (a:lo<4294967296):∃ x:Nat,IntKind.u32.wrap ((u:Int)-(lo:Int))=(x:Int)/\x<4294967296/\x+lo=u+4294967296*(if u<lo then 1 else 0):=by
 rw [IntKind.wrap_u32];by_cases h:u<lo
 ·exact ⟨4294967296+u-lo,O,O,by rw [if_pos h];omega⟩
 ·exact ⟨u-lo,O,O,by rw [if_neg h];omega⟩
def TakeR (w:World) (gu:Nat) (us vs:List Nat) (j g:Nat) (cv iv:Value) (wr:World):Prop :=
 ∃ k c:Nat,k<=vs.length/\c<4294967296/\iv=.int .i64 k/\cv=.int .u64 c/\Hid (jB w wr gu us vs j g k c)
def TakeE (w:World) (gu:Nat) (us vs:List Nat) (j g:Nat) (e:Ending) (w':World):Prop:=∃ E:Nat,E<=1/\e=.returned (.bool (E==1))/\Cp w w' gu us vs j g E
theorem Cc (g v c:Nat) (hg:g<4294967296) (a:v<4294967296) (hc:c<4294967296):c+g*v<18446744069414584321:=by
 have:g*v<=4294967295*4294967295:=Nat.mul_le_mul O O;omega
theorem xf (gu j G:Nat) (us vs:List Nat) (H:Value) (g:Nat) (w:World) (ha:ch w gu us) (hy:Ws w H vs) (S:Sm us) (s:au H≠some gu) (U:j+vs.length<us.length) (hg:g<4294967296) (hl:us.length<=10000000000001) (Y:vs.length+1<=G) (I:G<=maxLen) (he:0<vs.length) :
  Calls Tryz.prog 156 #[.slice (some ⟨gu,j,none⟩) (vs.length+1) G,H,.int .u64 (g:Nat)] w fun e w'=>TakeE w gu us vs j g e w':=by
 obtain ⟨bo,cb,eb,hr,C,X⟩:=hy.open;unfold maxLen at I C;have J:=aa X;have SB:=aa hy.sm;have V:=aa S;have HA:=aa ha;have hf:=ha.lt;subst eb;have K:=aa s;clear X hy S ha s;go_enter Tryz.func156,Tryz.ntmps156
 go_wp2;go_loopw [7,14] (fun cv iv wr=>TakeR w gu us vs j g cv iv wr) (fun _ iv _=>vs.length-(intOf iv).toNat)
 case atStart=>exact ⟨0,0,O,O,rfl,rfl,[],rfl,Sm.nil,by rw [List.append_nil,Nat.add_zero,List.take_append_drop];exact HA,ag _ _,by simp [ai]⟩
 case round =>
  obtain ⟨k,c,hk,hc,rfl,rfl,D⟩:=hrel;by_cases hlt:k<vs.length
  ·obtain ⟨b,off,rfl,hw,h⟩:=aG J k hlt;have L:=SB.out.get k hlt;have M:b≠gu:=by
    intro e;exact K (by rw [e];rfl)
   have t:j+k<us.length:=O
   obtain ⟨p,Q,i⟩:=D.out.at hlt t;have y:=V.out.get (j+k) t;have A:w.grownBy wr (some gu):=by obtain ⟨_,_,_,_,h4,_⟩:=D.out;exact h4
   have N:=A.cell h (by show some b≠some gu;intro e;exact M (by simpa using e));obtain ⟨v,R⟩:=eX (vs[k]);obtain ⟨u,q⟩:=eX (us[j+k]);rw [<- R] at N L;rw [<- q] at p y;have hp:=Cc g v c hg L hc;obtain ⟨T,F⟩:=eX (c+g*v);have hm:(c:Int)+(g:Int)*(v:Int)=(T:Int):=by rw [F,Int.natCast_add,Int.natCast_mul]
   have ho:(g:Int)*(v:Int)<=18446744065119617025:=mq g v hg L;have hq:0<=(g:Int)*(v:Int):=Int.mul_nonneg O O;rw [<- F] at hp;obtain ⟨x,l,r,a⟩:=qY u (T % 4294967296) y (Nat.mod_lt _ zD);have HX:=aa l;have B:Hid (∀ (e:Nat) (z:Int),z=(x:Int)->x+T % 4294967296=u+4294967296*e->jB w (wr.setCell ⟨gu,j+k,none⟩ (.int .u32 z)) gu us vs j g (k+1) (T / 4294967296+e)):=by
    intro e z P E;rw [F] at E ⊢;exact i x e v z P r R (by rw [<- q];exact E)
   clear i R q F D h l A J;by_cases f:u<T % 4294967296
   ·rw [if_pos f] at a;have d:=aa a;clear a;go_wp2;go_roundw
    case rel=>exact ⟨k+1,T / 4294967296+1,O,O,zN,zN,B 1 _ (by have:=d.out;omega) (by have:=d.out;omega)⟩
    case measure=>exact bO
   ·rw [if_neg f] at a;have d:=aa a;clear a;go_wp2;go_roundw
    case rel=>exact ⟨k+1,T / 4294967296+0,O,O,zN,Z,B 0 _ (by have:=d.out;omega) (by have:=d.out;omega)⟩
    case measure=>exact bO
  ·obtain rfl:k=vs.length:=O
   obtain ⟨p,Q,o⟩:=D.out.top U;have y:=V.out.get (j+vs.length) U;obtain ⟨u,q⟩:=eX (us[j+vs.length]);rw [<- q] at p y;obtain ⟨x,l,r,a⟩:=qY u c y hc;have m:Hid (∀ (e:Nat) (z:Int),z=(x:Int)->x+c=u+4294967296*e->Cp w (wr.setCell ⟨gu,j+vs.length,none⟩ (.int .u32 z)) gu us vs j g e):=by
    intro e z P E;obtain ⟨W,k1,k2,k3,k4,k5,_⟩:=o x e z P r (by rw [<- q];exact E);exact ⟨W,k1,k2,k3,k4,k5⟩
   clear o q l D J;by_cases f:u<c
   ·rw [if_pos f] at a;have d:=aa a;clear a;go_wp2;go_ret;exact ⟨1,O,rfl,m 1 _ (by have:=d.out;omega) d⟩
   ·rw [if_neg f] at a;have d:=aa a;clear a;go_wp2;go_ret;exact ⟨0,O,rfl,m 0 _ (by have:=d.out;omega) d⟩
def lk (w wr:World) (gu:Nat) (us vs:List Nat) (j k c:Nat):Prop :=
 ∃ mid:List Nat,mid.length=k/\Sm mid/\ch wr gu (us.take j++mid++us.drop (j+k))/\w.grownBy wr (some gu)/\ai mid+4294967296^k*c=ai ((us.drop j).take k)+ai (vs.take k)
theorem lk.at {k:Nat} (h:lk w wr gu us vs j k c) (f:k<vs.length) (e:j+k<us.length) :
  wr.cell? ⟨gu,j+k,none⟩=some (.int .u32 (us[j+k]:Nat))/\wr.frozen? ⟨gu,j+k,none⟩=false /\
  ∀ (z:Int),z=(((c+us[j+k]+vs[k]) % 4294967296:Nat):Int)->lk w (wr.setCell ⟨gu,j+k,none⟩ (.int .u32 z)) gu us vs j (k+1) ((c+us[j+k]+vs[k]) / 4294967296):=by
 obtain ⟨a,b,l,d,m,o⟩:=h;refine ⟨nr d b e,d.free _,?_⟩;intro z i;refine ⟨a++[(c+us[j+k]+vs[k]) % 4294967296],by simp [b],l.snoc _,?_,iw m gu _ _ rfl,?_⟩
 ·have:=d.set (j+k) ((c+us[j+k]+vs[k]) % 4294967296);rw [iQ us a j k _ b e] at this;rw [i];exact this
 ·rw [pU a k c us[j+k] vs[k] _ _ b o,aw vs k f,aw (us.drop j) k (by rw [List.length_drop];omega),List.getElem_drop]
theorem lk.top {R:Nat} (h:lk w wr gu us vs j vs.length c) (o:j+vs.length<us.length)
  (hW:ai ((us.drop j).take (vs.length+1))+ai vs=R+4294967296^(vs.length+1)) (hR:R<4294967296^vs.length) :
  wr.cell? ⟨gu,j+vs.length,none⟩=some (.int .u32 (us[j+vs.length]:Nat))/\wr.frozen? ⟨gu,j+vs.length,none⟩=false /\
  ∀ z:Int,z=(((us[j+vs.length]+c) % 4294967296:Nat):Int) ->
  ∃ W:List Nat,W.length=vs.length+1/\Sm W/\ch (wr.setCell ⟨gu,j+vs.length,none⟩ (.int .u32 z)) gu (us.take j++W++us.drop (j+(vs.length+1)))/\w.grownBy (wr.setCell ⟨gu,j+vs.length,none⟩ (.int .u32 z)) (some gu)/\ai W=R:=by
 obtain ⟨a,i,s,m,y,d⟩:=h;refine ⟨nr m i o,m.free _,?_⟩;intro z l;rw [zT (Nat.le_refl vs.length)] at d;rw [aw (us.drop j) vs.length (by rw [List.length_drop];omega),List.getElem_drop,Nat.pow_succ] at hW;have f:=bD s;rw [i] at f;generalize us[j+vs.length]=x at hW l;have b:x+c=4294967296/\ai a=R:=by
  generalize 4294967296^vs.length=p at d hW hR f;generalize ai ((us.drop j).take vs.length)=T at d hW;generalize ai vs=V at d hW;generalize ai a=M at d f ⊢;have e:M+p*(x+c)=R+p*4294967296:=by
   rw [Nat.mul_add];omega
  have q:0<p:=O
  have t:(M+p*(x+c)) / p=x+c:=by rw [Nat.add_mul_div_left _ _ q,Nat.div_eq_of_lt f,Nat.zero_add]
  have u:(R+p*4294967296) / p=4294967296:=by rw [Nat.add_mul_div_left _ _ q,Nat.div_eq_of_lt hR,Nat.zero_add]
  have r:x+c=4294967296:=by rw [<- t,e,u]
  refine ⟨r,?_⟩;rw [r] at e;omega
 have k:(x+c) % 4294967296=0:=by rw [b.1]
 rw [k] at l;refine ⟨a++[0],by simp [i],s.append (Sm.cons zD Sm.nil),?_,iw y gu _ _ rfl,by rw [aS,Nat.mul_zero,Nat.add_zero];exact b.2⟩;have:=m.set (j+vs.length) 0;rw [iQ us a j vs.length 0 i o] at this;rw [l];exact this
def GiveR (w:World) (gu:Nat) (us vs:List Nat) (j:Nat) (cv iv:Value) (wr:World):Prop :=
 ∃ k c:Nat,k<=vs.length/\c<=1/\iv=.int .i64 k/\cv=.int .u64 c/\Hid (lk w wr gu us vs j k c)
def Given (w:World) (gu:Nat) (us vs:List Nat) (j R:Nat) (w':World):Prop :=
 ∃ W:List Nat,W.length=vs.length+1/\Sm W/\ch w' gu (us.take j++W++us.drop (j+(vs.length+1)))/\w.grownBy w' (some gu)/\ai W=R
theorem uZ (gu j r R:Nat) (us vs:List Nat) (s:Value) (w:World) (ha:ch w gu us) (hy:Ws w s vs) (E:Sm us) (i:au s≠some gu) (F:j+vs.length<us.length) (X:us.length<=10000000000001) (I:vs.length+1<=r) (t:r<=maxLen)
  (hW:ai ((us.drop j).take (vs.length+1))+ai vs=R+4294967296^(vs.length+1)) (hR:R<4294967296^vs.length) :
  Calls Tryz.prog 157 #[.slice (some ⟨gu,j,none⟩) (vs.length+1) r,s] w fun e V=>e=.returned (.tuple #[])/\Given w gu us vs j R V:=by
 obtain ⟨Y,cb,Q,S,p,H⟩:=hy.open;unfold maxLen at t p;have x:=aa H;have J:=aa hy.sm;have G:=aa E;have K:=aa ha;have L:=aa hW;have M:=aa hR;have N:=ha.lt;subst Q;have y:=aa i;clear H hy E ha i hW hR;go_enter Tryz.func157,Tryz.ntmps157
 go_wp2;go_loopw [4,9] (fun W iv wr=>GiveR w gu us vs j W iv wr) (fun _ iv _=>vs.length-(intOf iv).toNat)
 case atStart=>exact ⟨0,0,O,O,rfl,rfl,[],rfl,Sm.nil,by rw [List.append_nil,Nat.add_zero,List.take_append_drop];exact K,ag _ _,by simp [ai]⟩
 case round =>
  obtain ⟨k,c,hk,hc,rfl,rfl,q⟩:=hrel;by_cases hlt:k<vs.length
  ·obtain ⟨b,off,rfl,T,d⟩:=aG x k hlt;have P:=J.out.get k hlt;have z:b≠gu:=by
    intro e;exact y (by rw [e];rfl)
   have l:j+k<us.length:=O
   obtain ⟨h,D,a⟩:=q.out.at hlt l;have A:=G.out.get (j+k) l;have m:w.grownBy wr (some gu):=by obtain ⟨_,_,_,_,U,_⟩:=q.out;exact U
   have B:=m.cell d (by show some b≠some gu;intro e;exact z (by simpa using e));generalize vs[k]=v at B P a;generalize us[j+k]=u at h A a;have C:=aa a;clear a q d m x;go_wp2;go_roundw
   case rel=>exact ⟨k+1,(c+u+v) / 4294967296,O,O,zN,zN,C _ O⟩
   case measure=>exact bO
  ·obtain rfl:k=vs.length:=O
   obtain ⟨h,D,f⟩:=q.out.top F L M;have A:=G.out.get (j+vs.length) F;generalize us[j+vs.length]=u at h A f;have o:=aa f;clear f q x;go_wp2;go_end0
   exact ⟨rfl,o _ O⟩
theorem bG (n:Nat):w.grownBy (w.drewN n) none:=ar (ag _ _) n
theorem gR.num {base:Nat} (h:gR w base v xs) (a:Sm xs) (b:Tr xs) (L:Nat) (d:xs.length<=L):aT w v (ai xs) L:=⟨xs,h.ws a,b,rfl,d⟩
theorem gR.fr {a:World} (h:gR w a.heap.size v xs):bB a v:=fun k b=>(h.fresh k b).1
def ij (w:World) (X Y L:Nat) (e:Ending) (w':World):Prop:=∃ q r,e=.returned (.tuple #[q,r])/\aT w' q (X / Y) L/\ik w' w.heap.size r (X % Y) L/\w.grownBy w' none/\bB w q
def Divided (w:World) (X Y L:Nat) (e:Ending) (w':World):Prop:=∃ q r,e=.returned (.tuple #[q,r])/\aT w' q (X / Y) L/\aT w' r (X % Y) L/\w.grownBy w' none/\bB w q/\bB w r
theorem uM (i l:Value) (xs ys:List Nat) (w:World) (ha:Ws w i xs) (hb:Ws w l ys) (m:Tr xs) (o:Tr ys) (hlt:ai xs<ai ys) (F:xs.length<=9000000000000) :
  Calls Tryz.prog 114 #[i,l] w fun e D=>ij w (ai xs) (ai ys) xs.length e D:=by
 obtain ⟨G,H,x,y,d,z⟩:=ha.open;obtain ⟨I,J,A,B,f,C⟩:=hb.open;unfold maxLen at d f;have h:=aa ha;have r:=aa hb;have p:=aa m;have s:=aa o;have a:=aa hlt;subst x A;clear z C ha hb m o hlt;go_enter Tryz.func114,Tryz.ntmps114
 go_wp2_with fail;refine (gB _ _ xs ys _ h r p s).mono ?_;rintro e w1 ⟨rfl,q1,rfl⟩;have b:=tH a;generalize jb (ai xs) (ai ys)=o1 at b ⊢;go_wp2_with fail;refine (jG _ xs _ (h.keep0 (bG _)) O).mono ?_;rintro e K ⟨L,rfl,k1,q⟩;obtain ⟨M,rc,rfl,_,_,_⟩:=k1.open;have t:=aa k1;have u:=aa q;clear k1 q;go_wp2;go_ret2
 refine ⟨_,_,rfl,?_,?_,ab (bG _) u,fun k E=>by simp [au] at E⟩
 ·rw [Nat.div_eq_of_lt a];exact ⟨[],Ws.nil _,rfl,rfl,Z⟩
 ·rw [Nat.mod_eq_of_lt a];exact ⟨xs,t,h.sm,p,rfl,zL⟩
theorem qg {d a f:World} {h i k:Value} {y r:Nat} (q:w.grownBy d none) (k1:gR d w.heap.size h xs) (s1:Co d w.heap.size h xs y i a) (s:r=ai xs % y) (t:ik f a.heap.size k r 1) (l:a.grownBy f none) (u:0<xs.length) :
  ij w (ai xs) (ai [y]) xs.length (.returned (.tuple #[i,k])) f:=by
 obtain ⟨ys,p,x,z,A,B,C,D⟩:=s1;have m:ai [y]=y:=by simp [ai]
 have o:w.grownBy a none:=aj (r2:=au h) q C (fun _ _ e=>e) (fun b hb e=>by have:=(k1.fresh b e.symm).1;omega);refine ⟨i,k,rfl,?_,?_,ab o l,p.fr⟩
 ·rw [m,<- A];exact (p.num x z _ B).keep0 l
 ·rw [m,<- s];exact (t.base o.size).mono u
theorem xL (D E:Value) (xs:List Nat) (y:Nat) (w:World) (ha:Ws w D xs) (hb:Ws w E [y]) (F:Tr xs) (o:Tr [y]) (d:y<=ai xs) (hl:xs.length<=9000000000000) :
  Calls Tryz.prog 114 #[D,E] w fun e w'=>ij w (ai xs) (ai [y]) xs.length e w':=by
 obtain ⟨ao,ca,U,V,l,W⟩:=ha.open;obtain ⟨bo,cb,X,Y,m,H⟩:=hb.open;unfold maxLen at l m;obtain ⟨b,off,rfl,he,a⟩:=H 0 Z;simp only [Nat.add_zero,List.getElem_cons_zero] at a;have f:0<y:=by have:=o.pos;simp only [ai] at this;omega
 have i:y<4294967296:=hb.sm y Z;have p:0<xs.length:=by
  rcases zP xs.length with h | h
  ·have:xs=[]:=List.eq_nil_of_length_eq_zero h;rw [this] at d;simp [ai] at d;omega
  ·exact h
 have q:=aa ha;have L:=aa hb;have M:=aa F;have N:=aa o;have s:Hid (ai [y]<=ai xs):=by simp only [ai];exact d
 subst U X;clear W H ha hb F o d;go_enter Tryz.func114,Tryz.ntmps114
 go_wp2_with fail;refine (gB _ _ xs [y] _ q L M N).mono ?_;rintro e w1 ⟨rfl,q1,rfl⟩;have k:=nM s;generalize jb (ai xs) (ai [y])=o1 at k ⊢;go_wp2_with fail;go_region_with (first
  | (go_at_call 117;refine (jG _ xs _ (q.keep0 (bG _)) O).mono ?_;rintro e w2 ⟨c',rfl,k1,u⟩;have q0:=(ab (bG _) u).cell a Z)
  | (go_at_call 118;refine (qK _ xs y _ w.heap.size (by first | exact k1 | exact k1.drewN _) q.sm f i O).mono ?_;rintro e w3 ⟨q',r,rfl,x,s1⟩;have t:r<4294967296:=(by rw [x];exact Nat.lt_trans (Nat.mod_lt _ f) i);have P:=aa x;have G:=aa s1;have Q:=aa (ab (bG _) u);have R:=aa k1;clear x s1 k1 u))
 all_goals
  obtain ⟨z,A,I,rfl⟩:∃ z A I,q'=.slice z I A:=by
   obtain ⟨_,o1,_⟩:=G.out;obtain ⟨z,A,e,_⟩:=o1.open;exact ⟨_,_,_,e⟩
  go_wp2_with fail;refine (Bg r _ t).mono ?_;rintro e w4 ⟨r',rfl,B,J⟩;obtain ⟨C,rc,K,rfl⟩:∃ C rc K,r'=.slice C K rc:=by
   obtain ⟨_,o1,_⟩:=B;obtain ⟨C,rc,e,_⟩:=o1.open;exact ⟨_,_,_,e⟩
  have S:=aa B;have T:=aa J;clear B J;go_wp2;go_ret2
  exact qg Q R G P S T p
theorem sX:∀ (f x:Nat),0<x->x<2^f->1<=Lib.bitLenAux f x/\Lib.bitLenAux f x<=f/\2^(Lib.bitLenAux f x-1)<=x/\x<2^Lib.bitLenAux f x:=by
 intro f;induction f with
 | zero=>intro x k h;simp at h;omega
 | succ f ih =>
  intro x k h;rw [Lib.bitLenAux,if_neg O];by_cases i:x / 2=0
  ·have e:Lib.bitLenAux f (x / 2)=0:=by
    rw [i];cases f<;>simp [Lib.bitLenAux]
   rw [e];refine ⟨O,O,?_,?_⟩
   ·simp;omega
   ·simp;omega
  ·obtain ⟨a,b,c,d⟩:=ih (x / 2) O (by rw [Nat.pow_succ] at h;omega);generalize Lib.bitLenAux f (x / 2)=n at a b c d;refine ⟨O,O,?_,?_⟩
   ·obtain ⟨m,rfl⟩:∃ m,n=m+1:=⟨n-1,O⟩;rw [show 1+(m+1)-1=m+1 from O,Nat.pow_succ];rw [Nat.add_sub_cancel] at c;omega
   ·rw [Nat.add_comm,Nat.pow_succ];omega
theorem nA (x:Nat) (a:0<x) (h:x<4294967296):1<=Lib.bitLen x/\Lib.bitLen x<=32/\2^(Lib.bitLen x-1)<=x/\x<2^Lib.bitLen x:=by
 have e:Lib.bitLen x=Lib.bitLenAux 32 x:=Lib.bitLenAux_fuel 32 x O 64 O;rw [e];exact sX 32 x a O
def dH (w wr:World) (gu gq:Nat) (vs:List Nat) (N A k:Nat) (us qs:List Nat):Prop :=
 us.length=N/\qs.length+k+vs.length=N/\Sm us/\Sm qs/\ch wr gu us/\ch wr gq (List.replicate k 0++qs)/\w.grownBy wr none/\ai (us.drop k)<ai vs /\
  A=ai (us.take k)+4294967296^k*(ai qs*ai vs+ai (us.drop k))
theorem dH.next {b:World} {gq:Nat} {N A:Nat} {a:List Nat} (h:dH w wr gu gq vs N A (j+1) us qs) (l:ai (us.drop j) / ai vs<4294967296)
  (h1:a.length=N) (h2:a.take j=us.take j) (h3:ai (a.drop j)=ai (us.drop j) % ai vs) (h4:Sm a) (a1:ch b gu a) (a2:ch b gq (List.replicate (j+1) 0++qs)) (hg:w.grownBy b none)
  (hgq:w.heap.size<=gq) (hne:gq≠gu) (z:Int) (hz:z=((ai (us.drop j) / ai vs:Nat):Int)) :
  dH w (b.setCell ⟨gq,j,none⟩ (.int .u32 z)) gu gq vs N A j a ((ai (us.drop j) / ai vs) :: qs):=by
 obtain ⟨y,B,C,t,E,F,G,H,x⟩:=h;have d:0<ai vs:=O
 refine ⟨h1,by simp;omega,h4,Sm.cons l t,?_,?_,ah hg _ _ hgq,by rw [h3];exact Nat.mod_lt _ d,?_⟩
 ·unfold ch;rw [heap_setCell_other _ _ _ _ (fun e=>hne e.symm)];exact a1
 ·have:=a2.set j (ai (us.drop j) / ai vs);rw [hz];have e:(List.replicate (j+1) 0++qs).set j (ai (us.drop j) / ai vs)=List.replicate j 0++(ai (us.drop j) / ai vs) :: qs:=by
   rw [<- List.replicate_append_replicate (n:=j) (m:=1),List.append_assoc,List.set_append_right _ _ Z];simp
  rw [e] at this;exact this
 ·have f:j<us.length:=O
  rw [x,h2,h3,aw us j f,Nat.pow_succ];have i:=cV us j;have o:us.getD j 0=us[j]:=by simp [f]
  rw [o] at i;have k:=Nat.div_add_mod (ai (us.drop j)) (ai vs);show _=ai (us.take j)+4294967296^j*((ai (us.drop j) / ai vs+4294967296*ai qs)*ai vs+ai (us.drop j) % ai vs)
  generalize ai (us.drop j)=D at i k ⊢;generalize ai (us.drop (j+1))=D1 at i ⊢;generalize D / ai vs=q at k ⊢;generalize D % ai vs=r at k ⊢;generalize us[j]=u at i ⊢;generalize ai vs=V at k ⊢;generalize ai qs=Q;generalize 4294967296^j=p;have s:(q+4294967296*Q)*V+r=u+4294967296*(Q*V+D1):=by
   rw [Nat.add_mul,Nat.mul_comm q V,Nat.mul_assoc 4294967296 Q V,Nat.mul_add];omega
  rw [s,Nat.mul_add p u,Nat.mul_assoc p];omega
theorem dH.start {gq:Nat} {X s:Nat} (d:Sm us) (f:ai us=X*2^s) (h:X<4294967296^(us.length-1)) (q:s<32) (tt:Nat) (i:0<vs.length) (k:vs.length<us.length) (a:vs[vs.length-1]? = some tt) (l:2147483648<=tt)
  (a1:ch wr gu us) (a2:ch wr gq (List.replicate (us.length-vs.length) 0)) (hg:w.grownBy wr none) :
  dH w wr gu gq vs us.length (X*2^s) (us.length-vs.length) us []:=by
 have hd:=kY us (us.length-vs.length) d O;have m:4294967296^(vs.length-1)*2147483648<=ai vs:=by
  obtain ⟨h1,p⟩:=zY a;have:=ig vs (vs.length-1) h1;rw [p] at this;have b:4294967296^(vs.length-1)*2147483648<=4294967296^(vs.length-1)*(tt+4294967296*ai (vs.drop (vs.length-1+1))):=Nat.mul_le_mul_left _ O;omega
 refine ⟨rfl,by simp;omega,d,Sm.nil,a1,by rw [List.append_nil];exact a2,hg,?_,?_⟩
 ·rw [<- hd,f];have h1:2^s<=2^31:=Nat.pow_le_pow_right zD O;have o:X*2^s<4294967296^(us.length-1)*2147483648:=Nat.lt_of_lt_of_le (Nat.mul_lt_mul_of_pos_right h (Nat.two_pow_pos s)) (Nat.mul_le_mul_left _ h1);have:X*2^s / 4294967296^(us.length-vs.length)<4294967296^(vs.length-1)*2147483648:=by
   rw [Nat.div_lt_iff_lt_mul (Nat.pow_pos zD),Nat.mul_right_comm,<- Nat.pow_add,show vs.length-1+(us.length-vs.length)=us.length-1 from O];exact o
  omega
 ·have e:=bL (us.take (us.length-vs.length)) (us.drop (us.length-vs.length));rw [List.take_append_drop,List.length_take,show min (us.length-vs.length) us.length=us.length-vs.length from O,f] at e;simp only [ai,Nat.zero_mul,Nat.zero_add];exact e
theorem xn {W:List Nat} (d:W.length=n) (h:j+n<=us.length) (e:ai (us.drop (j+n))=0) :
  (us.take j++W++us.drop (j+n)).length=us.length/\(us.take j++W++us.drop (j+n)).take j=us.take j/\ai ((us.take j++W++us.drop (j+n)).drop j)=ai W/\((us.take j++W++us.drop (j+n)).drop j).take n=W /\
   (us.take j++W++us.drop (j+n)).drop (j+n)=us.drop (j+n):=by
 have f:(us.take j).length=j:=by rw [List.length_take];omega
 have a:(us.take j++W).length=j+n:=by rw [List.length_append,f,d]
 have b:(us.take j++W++us.drop (j+n)).drop j=W++us.drop (j+n):=by
  rw [List.append_assoc,List.drop_append_of_le_length O,List.drop_of_length_le O,List.nil_append]
 refine ⟨?_,?_,?_,?_,?_⟩
 ·rw [List.length_append,a,List.length_drop];omega
 ·rw [List.append_assoc,List.take_append_of_le_length O,zT O]
 ·rw [b,bL,e,Nat.mul_zero,Nat.add_zero]
 ·rw [b,List.take_append_of_le_length O,zT O]
 ·rw [List.drop_append_of_le_length O,List.drop_of_length_le O,List.nil_append]
theorem Ws.sub (h:ch w g us) (b:Sm us) (e:j+n<=us.length) (hc:n<=cap) (d:cap<=maxLen):Ws w (.slice (some ⟨g,j,none⟩) n cap) ((us.drop j).take n):=by
 have a:((us.drop j).take n).length=n:=by rw [List.length_take,List.length_drop];omega
 refine ⟨(b.drop j).take n,.inr ⟨g,j,cap,by rw [a],h.lt,O,d,fun i hi=>?_⟩⟩;rw [a] at hi;rw [h.cell (j+i) O];simp
theorem mR {w1 a:World} (h:w.grownBy w1 none) (k:w1.grownBy a (some g)) (hg:w.heap.size<=g):w.grownBy a none :=
 aj (r2:=some g) h k (fun _ _ e=>e) (fun b hb e=>by cases e;omega)
def DivR (w:World) (gu gq:Nat) (dv:Value) (vs:List Nat) (N A:Nat) (iv:Value) (wr:World):Prop :=
 ∃ z:Int,-1<=z/\z+vs.length+1<=N/\iv=.int .i64 z/\Hid (Ws wr dv vs)/\Hid (∃ us qs,dH w wr gu gq vs N A (z+1).toNat us qs)
theorem dH.round {wt:World} {gq:Nat} {N A E:Nat} (h:dH w wr gu gq vs N A (j+1) us qs) (sv:Sm vs) (f:w.heap.size<=gu) (i:w.heap.size<=gq) (b:gq≠gu) (k:ai (us.drop j) / ai vs<=g) (o:g<=ai (us.drop j) / ai vs+1) (M:g<4294967296)
  (ht:Cp wr wt gu us vs j g E) (hE:E<=1) :
  (E=0->∀ z:Int,z=(g:Int)->∃ us2 qs2,dH w (wt.setCell ⟨gq,j,none⟩ (.int .u32 z)) gu gq vs N A j us2 qs2) /\
  (E=1->1<=g/\∃ us1 R,ch wt gu us1/\Sm us1/\us1.length=N/\ai ((us1.drop j).take (vs.length+1))+ai vs=R+4294967296^(vs.length+1)/\R<4294967296^vs.length /\
   (∀ wg,Given wt gu us1 vs j R wg->∀ z:Int,z=((g-1:Nat):Int)->∃ us2 qs2,dH w (wg.setCell ⟨gq,j,none⟩ (.int .u32 z)) gu gq vs N A j us2 qs2)):=by
 have hh:=h;obtain ⟨r,i2,m,i4,i5,P,B,Q,i9⟩:=h;have a:0<ai vs:=O
 obtain ⟨W,C,D,F,s,t⟩:=ht;obtain ⟨w1,S,G⟩:=nt (us:=us) (vs:=vs) (j:=j) sv m O Q;rw [w1] at t;obtain ⟨H,I,T,U,V⟩:=xn (us:=us) (W:=W) (j:=j) (n:=vs.length+1) C O G;have sm:Sm (us.take j++W++us.drop (j+(vs.length+1))):=((m.take j).append D).append (m.drop _);have d:ai (us.drop j) / ai vs<4294967296:=by rw [Nat.div_lt_iff_lt_mul a];exact S
 have y:ch wt gq (List.replicate (j+1) 0++qs):=P.keep s (fun e=>b (by simpa using e));refine ⟨fun e z hz=>?_,fun e=>?_⟩
 ·obtain ⟨u,x⟩:=og t e k a;exact ⟨_,_,hh.next d (H.trans r) I (T.trans x) sm F y (mR B s f) i b z (by rw [u];exact hz)⟩
 ·have l:=bD D;rw [C] at l;obtain ⟨u,x,X⟩:=qe t e k o l a;have hR:=Nat.mod_lt (ai (us.drop j)) a;have hV:=bD sv;refine ⟨x,_,ai (us.drop j) % ai vs,F,sm,H.trans r,by rw [U];exact X,O,?_⟩;intro wg q z hz;obtain ⟨J,k1,Y,K,L,k5⟩:=q;rw [I,V] at K;obtain ⟨f1,f2,f3,f4,f5⟩:=xn (us:=us) (W:=J) (j:=j) (n:=vs.length+1) k1 O G;have p:Sm (us.take j++J++us.drop (j+(vs.length+1))):=((m.take j).append Y).append (m.drop _);exact ⟨_,_,hh.next d (f1.trans r) f2 (f3.trans k5) p K (y.keep L (fun e=>b (by simpa using e))) (mR (mR B s f) L f) i b z (by rw [u];exact hz)⟩
theorem xK {d a:World} {gq:Nat} {b e:Value} {s:Nat} (m:ai vs=ai ys*2^s) (hd:dH w d gu gq vs (xs.length+1) (ai xs*2^s) 0 us qs) (r:vs.length=ys.length) (f:ys.length<=xs.length) (h:w.heap.size<=gq)
  (n1:aT a b (ai qs) qs.length) (n2:au b=some gq) (n5:ik a d.heap.size e (ai (us.take ys.length) / 2^s) ys.length) (g9:d.grownBy a none) (hv0:0<ys.length) (sv:Sm vs):ij w (ai xs) (ai ys) xs.length (.returned (.tuple #[b,e])) a:=by
 obtain ⟨y,z,A,B,C,D,o,l,p⟩:=hd;simp only [List.take_zero,List.drop_zero,Nat.pow_zero,Nat.one_mul,ai,Nat.zero_add] at l p;obtain ⟨u,x⟩:=zk (ai xs) (ai ys) (2^s) (ai qs) (ai us) (Nat.two_pow_pos s) (by rw [<- m];exact l) (by rw [<- m];exact p);have i:=bD sv;have t:=(rS us ys.length (ai vs) l (by rw [<- r];exact Nat.le_of_lt i) O).2;rw [t,x] at n5;refine ⟨b,e,rfl,by rw [<- u];exact n1.mono O,(n5.base o.size).mono f,ab o g9,fun k q=>?_⟩;rw [n2] at q;cases q
 exact h
theorem uN (va vb:Value) (xs ys:List Nat) (w:World) (ha:Ws w va xs) (hb:Ws w vb ys) (tx:Tr xs) (ty:Tr ys) (hy:1<ys.length) (he:ai ys<=ai xs) (hl:xs.length<=9000000000000) (hK:ys.length<=xs.length) :
  Calls Tryz.prog 114 #[va,vb] w fun e w'=>ij w (ai xs) (ai ys) xs.length e w':=by
 obtain ⟨ao,ca,ea,kl,hB,Ha⟩:=ha.open;obtain ⟨bo,cb,eb,kn,hC,Hb⟩:=hb.open;unfold maxLen at hB hC;have kb:(((ys.length:Nat):Int)==1)=false:=zB O;obtain ⟨t,x,hX⟩:=yX ty (by intro e;rw [e] at hy;simp at hy);obtain ⟨b,off,rfl,ko,i⟩:=Hb (ys.length-1) O;rw [(zY x).2] at i;have hL:t<4294967296:=by
  have:=hb.sm.get (ys.length-1) O;rw [(zY x).2] at this;exact this
 obtain ⟨j1,j2,j3,j4⟩:=nA t hX hL;obtain ⟨s,hs⟩:=eX (32-Lib.bitLen t);have es:(32-(Lib.bitLen t:Int))=(s:Int):=O
 have l:s<32:=O
 have HT:=aa (And.intro x (And.intro j3 j4));have HJ:=aa (And.intro j1 j2);have HS:=aa hs;have ES:=aa es;have WA:=aa ha;have WB:=aa hb;have TX:=aa tx;have TY:=aa ty;have hf:=aa he;subst ea eb;clear Ha Hb ha hb tx ty he x j3 j4 j1 j2 hs es;go_enter Tryz.func114,Tryz.ntmps114
 go_wp2_with fail;refine (gB _ _ xs ys _ WA WB TX TY).mono ?_;rintro e w1 ⟨rfl,q1,rfl⟩;have hj:=nM hf;generalize jb (ai xs) (ai ys)=o1 at hj ⊢;go_wp2_with fail;refine (Tryz.bits_LeadingZeros32 (t:Int) _ O O).mono ?_;rintro e w2 ⟨rfl,rfl⟩;rw [Int.toNat_natCast,ES];go_wp2_with fail;refine (wC _ xs s _ (WA.keep0 (bG _)) l O).mono ?_;rintro e w3 ⟨us,rfl,u1,u2,u3,u4,g3⟩;have G3:=aa (ab (bG _) g3);have hM:w.heap.size<=(w.drewN q1).heap.size:=zL;generalize (w.drewN q1).heap.size=gu at *;have U3:=aa u3;have U2:=aa u2;have U1:=aa u1;have U4:=aa u4;clear u1 u2 u3 u4 g3 ES;go_wp2_with fail;refine (wC _ ys s _ (WB.keep0 G3) l O).mono ?_;rintro e w4 ⟨vr,rfl,v1,v2,v3,v4,g4⟩;have kg:gu<w3.heap.size:=U3.out.lt;generalize w3.heap.size=gv at *;have G4:=aa (ab G3 g4);have hk:=aa (U3.keep g4 Z);have J:=v3.ws v2 (by rw [v1];unfold maxLen;omega);rw [v1] at J;have hm:=aa J;have V1:=aa v1;have V4:=aa v4;clear v1 v2 v3 v4 g4 J G3 U3;go_wp2_with fail;refine (fN _ vr _ hm).mono ?_;rintro e w5 ⟨dv,rfl,rfl,⟨vs,d1,d2,d3,d4⟩,d5⟩;have K:ai vs=ai ys*2^s:=by rw [d3];exact V4
 obtain ⟨G,tt,hF,o⟩:=vN ys vs t (Lib.bitLen t) s HS HJ.1 HJ.2 WB.sm O HT.1 HT.2.1 HT.2.2 d1.sm d2 K;have ho:au dv=some gv:=by rw [d5];rfl
 obtain ⟨P,Q,rfl,kf,hH,S⟩:=d1.open;clear S;unfold maxLen at hH;have kc:vs.length<=ys.length:=O
 have ke:ys.length<=vs.length:=O
 have D1:=aa d1;have hp:=aa G;have hN:=aa K;have L:=aa hF;have f:=aa ho;clear d1 d2 d3 d4 d5 K G hF ho hm V1 V4 HT HJ HS;go_wp2_with (at_make;refine aC _ rfl _ _ 83 rfl Tryz.underlying83 Tryz.info32 _ _ _ _ (xs.length-ys.length+1) rfl rfl O O O ?_)
 intro w6 F u;have kk:gv<w5.heap.size:=by
  have:=D1.out.blk gv f;exact this
 generalize w5.heap.size=gq at *;have G6:=aa (ab G4 u);have U6:=aa (hk.keep u Z);have D6:=aa (D1.keep0 u);have Q6:=aa F;clear F u G4 hk D1;have hQ:∃ n,vs.length=n+2:=⟨vs.length-2,O⟩;obtain ⟨n,hn⟩:=hQ;have hq:2147483648<=vs.getD (n+1) 0:=by
  have:=L.out;rw [hn,show n+2-1=n+1 from O] at this;simp only [List.getD,this,Option.getD_some];exact o
 have D0:Hid (dH w w6 gu gq vs (xs.length+1) (ai xs*2^s) (xs.length-ys.length+1) us []):=by
  have h1:=dH.start (w:=w) (wr:=w6) (gu:=gu) (gq:=gq) (vs:=vs) (us:=us) (X:=ai xs) (s:=s) U2 U4 (by rw [U1,Nat.add_sub_cancel];exact bD WA.sm) l tt O (by have:=U1.out;omega) L o U6 (by rw [U1,show xs.length+1-vs.length=xs.length-ys.length+1 from O];exact Q6) G6;rw [U1,show xs.length+1-vs.length=xs.length-ys.length+1 from O] at h1;exact h1
 have HN:=aa hn;clear hn U1 U2 U4 U6 Q6 G6 o L hf;go_wp2;go_loopw [12] (fun iv wr=>DivR w gu gq (.slice P vs.length Q) vs (xs.length+1) (ai xs*2^s) iv wr) (fun iv _=>(intOf iv+1).toNat)
 case atStart=>exact ⟨(xs.length:Int)-ys.length,O,O,zN,D6,us,[],by rw [show ((xs.length:Int)-ys.length+1).toNat=xs.length-ys.length+1 from O];exact D0⟩
 case round =>
  clear D0 D6;obtain ⟨z,ks,ku,rfl,d,HD⟩:=hrel;by_cases h0:z<0
  ·obtain ⟨us,qs,T⟩:=HD.out;rw [show (z+1).toNat=0 from O] at T;have a:=aa T;clear HD T;have ql:qs.length=xs.length-ys.length+1:=by obtain ⟨H,i2,_⟩:=a.out;omega
   have wq:Ws wr (.slice (some ⟨gq,0,none⟩) (xs.length-ys.length+1) (xs.length-ys.length+1)) qs:=by
    obtain ⟨H,i2,y,i4,I,A,i7,i8,i9⟩:=a.out;rw [List.replicate_zero,List.nil_append] at A;have:=A.ws i4 (by unfold maxLen;omega);rw [ql] at this;exact this
   have wu:Ws wr (.slice (some ⟨gu,0,none⟩) ys.length (xs.length+1)) (us.take ys.length):=by
    obtain ⟨H,i2,y,i4,I,A,i7,i8,i9⟩:=a.out;have:=Ws.sub (n:=ys.length) (cap:=xs.length+1) (j:=0) I y O O (by unfold maxLen;omega);exact this
   have hu:(us.take ys.length).length=ys.length:=by
    obtain ⟨H,_⟩:=a.out;rw [List.length_take];omega
   have WQ:=aa wq;have WU:=aa wu;have QL:=aa ql;have hv:=aa hu;have SV:=aa d.sm;clear wq wu ql hu d i;go_wp2_with fail;go_region_with (first
    | (go_at_call 110;refine (fN _ qs _ (WQ.keep0 (bG _))).mono ?_;rintro e w8 ⟨q',rfl,rfl,n1,n2⟩)
    | (go_at_call 158;refine (Bs _ (us.take ys.length) s _ (WU.keep0 (bG _)) l (by rw [hv];omega)).mono ?_;rintro e w9 ⟨r',rfl,n5,g9⟩))
   all_goals
    obtain ⟨qo,qc,ql,rfl⟩:∃ qo qc ql,q'=.slice qo ql qc:=by
     obtain ⟨_,o1,_⟩:=n1;obtain ⟨qo,qc,e,_⟩:=o1.open;exact ⟨_,_,_,e⟩
    obtain ⟨ro,rc,rl,rfl⟩:∃ ro rc rl,r'=.slice ro rl rc:=by
     obtain ⟨_,o1,_⟩:=n5;obtain ⟨ro,rc,e,_⟩:=o1.open;exact ⟨_,_,_,e⟩
    have N1:=aa (n1.keep0 g9);have N2:=aa n2;have N5:=aa n5;have G9:=aa g9;clear n1 n2 n5 g9;go_wp2;go_ret2
    refine xK hN a hp hK O N1 N2 ?_ (ab (bG _) G9) O SV;have h5:=N5.out;rw [hv] at h5;exact h5
  ·obtain ⟨j,rfl⟩:∃ j:Nat,z=j:=⟨z.toNat,O⟩;obtain ⟨us,qs,T⟩:=HD.out;rw [show ((j:Int)+1).toNat=j+1 from O] at T;have a:=aa T;clear T HD i;go_wp2_with fail;rw [show j+vs.length+1-j=vs.length+1 from O];obtain ⟨H,i2,y,i4,I,A,i7,i8,i9⟩:=a.out;have hw:=nt (us:=us) (vs:=vs) (j:=j) d.sm y O i8;have C:=Ws.sub (n:=vs.length+1) (cap:=xs.length+1-j) (j:=j) I y O O (by unfold maxLen;omega);have I5:=aa I;have I3:=aa y;have I1:=aa H;have M:=aa hw;have D:=aa C;clear H i2 y i4 I A i7 i8 i9 hw C;refine (Dk _ _ ((us.drop j).take (vs.length+1)) vs n _ D d HN (by rw [List.length_take,List.length_drop];have:=HN.out;have:=I1.out;omega) hq (by rw [M.1];exact M.2.1)).mono ?_;intro e wa hG;obtain ⟨g,qa,rfl,hI,U,V,rfl⟩:=hG;rw [M.1] at U V;have hR:=aa U;have hS:=aa V;clear U V D;go_wp2_with fail;refine (xf gu j (xs.length+1-j) us vs _ g _ (I5.keep (bG _) Z) (d.keep0 (bG _)) I3 (by rw [f];intro e;have:=zJ e;omega) (by have:=I1.out;omega) hI (by have:=I1.out;omega) O (by unfold maxLen;omega) O).mono ?_;intro e wt hT;obtain ⟨E,hE,rfl,B⟩:=hT;have q:=aa B;have hx:=dH.round (w:=w) (wr:=wr) (wt:=wt) a d.sm hM O O hR hS hI (by obtain ⟨W,t1,t2,t3,Y,t5⟩:=B;exact ⟨W,t1,t2,t3,aj (r1:=none) (r2:=some gu) (bG _) Y nofun (fun _ _ e=>e),t5⟩) hE
   have r:=aa hx;have hvt:Hid (Ws wt (.slice P vs.length Q) vs):=by
    obtain ⟨W,t1,t2,t3,Y,t5⟩:=B;exact (d.keep0 (bG _)).keep Y (fun k e h=>by rw [f] at h;cases e;have:=zJ h;omega)
   clear B hx d;by_cases hz:E=0
   ·subst hz;have hA:=r.out.1 rfl;have N:=aa hA;obtain ⟨p,hY⟩:(∃ v,wt.cell? ⟨gq,j,none⟩=some v)/\wt.frozen? ⟨gq,j,none⟩=false:=by
     obtain ⟨H,i2,y,i4,I,A,i7,i8,i9⟩:=a.out;obtain ⟨W,t1,t2,t3,Y,t5⟩:=q.out;have a2:ch wt gq (List.replicate (j+1) 0++qs):=(A.keep (bG _) Z).keep Y (fun e=>by have:=zJ e;omega);exact ⟨⟨_,a2.cell j (by simp;omega)⟩,a2.free j⟩
    obtain ⟨v0,p⟩:=p;clear hA r q;go_wp2;go_roundw
    case rel =>
     refine ⟨(j:Int)-1,O,O,zN,?_,?_⟩
     ·exact hvt.keep (row:=some gq) ⟨rfl,rfl,rfl,Z,fun k _ hr=>heap_setCell_other _ _ _ _ (fun e=>hr (by rw [e]))⟩ (fun k e h=>by rw [f] at h;cases e;have:=zJ h;omega)
     ·rw [show ((j:Int)-1+1).toNat=j from O];exact N _ O
    case measure=>simp [intOf]
   ·obtain rfl:E=1:=O
    clear hz;obtain ⟨kw,ka,R,r1,r2,r3,r4,r5,r6⟩:=r.out.2 rfl;have R1:=aa r1;have R2:=aa r2;have R3:=aa r3;have R4:=aa r4;have R5:=aa r5;have R6:=aa r6;clear r1 r2 r3 r4 r5 r6 r;go_wp2_with fail;refine (uZ gu j (xs.length+1-j) R ka vs _ _ R1 hvt R2 (by rw [f];intro e;have:=zJ e;omega) (by have:=R3.out;omega) (by have:=R3.out;omega) O (by unfold maxLen;omega) R4 R5).mono ?_;rintro e wg ⟨rfl,m⟩;have N:=aa (R6 wg m);obtain ⟨p,hY⟩:(∃ v,wg.cell? ⟨gq,j,none⟩=some v)/\wg.frozen? ⟨gq,j,none⟩=false:=by
     obtain ⟨H,i2,y,i4,I,A,i7,i8,i9⟩:=a.out;obtain ⟨W,t1,t2,t3,Y,t5⟩:=q.out;obtain ⟨W2,k1,k2,k3,k4,k5⟩:=m;have a2:ch wg gq (List.replicate (j+1) 0++qs):=((A.keep (bG _) Z).keep Y (fun e=>by have:=zJ e;omega)).keep k4 (fun e=>by have:=zJ e;omega);exact ⟨⟨_,a2.cell j (by simp;omega)⟩,a2.free j⟩
    obtain ⟨v0,p⟩:=p;have hW:Hid (Ws wg (.slice P vs.length Q) vs):=by
     obtain ⟨W2,k1,k2,k3,k4,k5⟩:=m;exact hvt.keep k4 (fun k e h=>by rw [f] at h;cases e;have:=zJ h;omega)
    clear m R6 q;go_wp2;go_roundw
    case rel =>
     refine ⟨(j:Int)-1,O,O,zN,?_,?_⟩
     ·exact hW.keep (row:=some gq) ⟨rfl,rfl,rfl,Z,fun k _ hr=>heap_setCell_other _ _ _ _ (fun e=>hr (by rw [e]))⟩ (fun k e h=>by rw [f] at h;cases e;have:=zJ h;omega)
     ·rw [show ((j:Int)-1+1).toNat=j from O];exact N _ O
    case measure=>simp [intOf]
theorem xM (a b:Value) (X Y L M:Nat) (w:World) (ha:aT w a X L) (hb:aT w b Y M) (hy:0<Y) (z:L<=9000000000000) :
  Calls Tryz.prog 114 #[a,b] w fun e w'=>ij w X Y L e w':=by
 obtain ⟨xs,l,o,t,p⟩:=ha;obtain ⟨ys,d,f,h,A⟩:=hb;have m:Calls Tryz.prog 114 #[a,b] w fun e w'=>ij w (ai xs) (ai ys) xs.length e w':=by
  by_cases i:ai xs<ai ys
  ·exact uM a b xs ys w l d o f i O
  ·by_cases k:1<ys.length
   ·exact uN a b xs ys w l d o f k O O (mj d.sm f l.sm O)
   ·match ys,d,f,h,i,k with
    | [],_,_,h,_,_=>simp [ai] at h;omega
    | [y],d,f,h,i,_=>exact xL a b xs y w l d o f (by simp [ai] at i;omega) O
    | _ :: _ :: _,_,_,_,_,k=>simp at k
 refine m.mono ?_;rintro e w' ⟨q,r,rfl,k1,s,u,x⟩;rw [t,h] at k1 s;exact ⟨q,r,rfl,k1.mono p,s.mono p,u,x⟩
theorem jF (a b:Value) (X Y L M:Nat) (w:World) (ha:aT w a X L) (hb:aT w b Y M) (hy:0<Y) (f:L<=9000000000000) :
  Calls Tryz.prog 114 #[a,b] w fun e w'=>Divided w X Y L e w':=by
 refine (xM a b X Y L M w ha hb hy f).mono ?_;rintro e w' ⟨q,r,rfl,k1,d,h,i⟩;exact ⟨q,r,rfl,k1,d.num,h,i,fun k l=>(d.fresh k l).1⟩
def pI (n k:Nat):Prop:=(n=0/\k=0)∨(1<=k/\2^(k-1)<=n/\n<2^k)
theorem Ak (k:Nat):4294967296^k=2^(32*k):=by rw [Nat.pow_mul]
theorem EW {t:Nat} (e:Sm xs) (f:0<xs.length) (h:xs[xs.length-1]? = some t) (i:0<t):pI (ai xs) (32*(xs.length-1)+Lib.bitLen t):=by
 obtain ⟨hlt,b⟩:=zY h;have a:=e.get _ hlt;rw [b] at a;obtain ⟨p,q,m,o⟩:=nA t i a;have k:=aw xs (xs.length-1) hlt;rw [zT O,b] at k;have d:=bD (e.take (xs.length-1));rw [List.length_take,show min (xs.length-1) xs.length=xs.length-1 from O] at d;refine .inr ⟨O,?_,?_⟩
 ·rw [show 32*(xs.length-1)+Lib.bitLen t-1=32*(xs.length-1)+(Lib.bitLen t-1) from O,Nat.pow_add,<- Ak];have:=Nat.mul_le_mul_left (4294967296^(xs.length-1)) m;omega
 ·rw [Nat.pow_add,<- Ak];have l:4294967296^(xs.length-1)*(t+1)<=4294967296^(xs.length-1)*2^Lib.bitLen t:=Nat.mul_le_mul_left _ o;rw [Nat.mul_add,Nat.mul_one] at l;omega
def Ck (w:World) (n L:Nat) (e:Ending) (w':World):Prop:=∃ k:Nat,e=.returned (.int .i64 k)/\pI n k/\k<=32*L/\w'=w
theorem mI (r:Value) (n L:Nat) (w:World) (ha:aT w r n L) (J:L<=10000000000000) :
  Calls Tryz.prog 112 #[r] w fun e I=>Ck w n L e I:=by
 obtain ⟨xs,f,o,i,B⟩:=ha;obtain ⟨M,N,rfl,C,h,p⟩:=f.open;unfold maxLen at h;by_cases l:xs.length=0
 ·have e:xs=[]:=List.eq_nil_of_length_eq_zero l;subst e;have m:Hid (Ck w n L (.returned (.int .i64 ((0:Nat):Int))) w):=⟨0,rfl,.inl ⟨i.symm,rfl⟩,O,rfl⟩;clear f o i B p;go_enter Tryz.func112,Tryz.ntmps112
  go_wp2;go_ret;exact m
 ·obtain ⟨t,k,s⟩:=yX o (by intro e;rw [e] at l;simp at l);obtain ⟨b,off,rfl,hb,hc⟩:=p (xs.length-1) O;rw [(zY k).2] at hc;have d:=f.sm.get (xs.length-1) O;rw [(zY k).2] at d;obtain ⟨D,E,F,G⟩:=nA t s d;have a:=EW f.sm O k s;have u:(((xs.length:Nat):Int)==0)=false:=zB O;obtain ⟨j,H⟩:∃ j,xs.length=j+1:=⟨xs.length-1,O⟩;have x:w.cell? ⟨b,off+j,none⟩=some (.int .u32 (t:Nat)):=by
   rw [show j=xs.length-1 from O];exact hc
  obtain ⟨K,q⟩:=eX (Lib.bitLen t);rw [<- q] at D E a;have m:Hid (Ck w n L (.returned (.int .i64 ((32*(xs.length-1)+K:Nat):Int))) w):=⟨_,rfl,by rw [<- i];exact a,O,rfl⟩;have y:=aa H;have z:=aa q;clear f o i p hc k F G a q;go_enter Tryz.func112,Tryz.ntmps112
  go_wp2_with fail;refine (Tryz.bits_Len32 (t:Int) _ O O).mono ?_;rintro e P ⟨rfl,rfl⟩;rw [Int.toNat_natCast,<- z];go_wp2;go_ret;have:=m.out;have A:(((32*(xs.length-1)+K:Nat):Int))=32*(j:Int)+K:=by have:=y.out;omega
  rw [A] at this;exact this
theorem qk (a b:Nat) (ha:a<9223372036854775808) (hb:b<9223372036854775808):bits .or .i64 (a:Int) (b:Int)=((a ||| b:Nat):Int):=by
 have d:a ||| b<2^63:=Nat.or_lt_two_pow O O
 show IntKind.i64.wrap ((BitVec.ofInt 64 (a:Int) ||| BitVec.ofInt 64 (b:Int)).toNat:Int)=_
 rw [BitVec.toNat_or,ofInt_u64 a O,ofInt_u64 b O];rw [IntWalk.i64_in _ ⟨O,O⟩]
theorem DJ (r x:Nat) (a:r<2147483648) (b:x<4294967296):bits .or .i64 ((r:Int)*4294967296) (x:Int)=((r*4294967296+x:Nat):Int):=by
 have h:=qk (r*4294967296) x O O;rw [Int.natCast_mul] at h;have e:(r*4294967296) ||| x=r*4294967296+x:=nat_join 32 _ _ O O
 rw [e] at h;exact h
theorem Dc (xs:List Nat) (lo s:Nat) (b:Sm xs) (a:lo<xs.length) (f:s<32):ai xs / 2^(32*lo+s)=ai (xs.drop (lo+1))*2^(32-s)+xs[lo] / 2^s/\xs[lo] / 2^s<2^(32-s):=by
 have d:=b.get lo a;have p:2^s*2^(32-s)=4294967296:=by rw [<- Nat.pow_add,show s+(32-s)=32 from O]
 constructor
 ·rw [Nat.pow_add,<- Nat.div_div_eq_div_mul,<- Ak,kY xs lo b O,cV xs lo];have e:xs.getD lo 0=xs[lo]:=by simp [a]
  rw [e,<- p,Nat.mul_assoc,Nat.add_mul_div_left _ _ (Nat.two_pow_pos s),Nat.mul_comm (ai _),Nat.add_comm]
 ·rw [Nat.div_lt_iff_lt_mul (Nat.two_pow_pos s),Nat.mul_comm,p];exact d
theorem Bf (s x o V:Nat) (d:s<32) (hV:V=o*2^(32-s)+x / 2^s) (b:x / 2^s<2^(32-s)) (hb:V<4611686018427387904) :
  ∃ T p r:Nat,1<=T/\T<=32/\32-(s:Int)=(T:Int)/\(o:Int)*2^T=(p:Int)/\(x:Int) / 2^s=(r:Int)/\bits .or .i64 (p:Int) (r:Int)=(V:Int)/\p<=V/\r<=V/\V<4611686018427387904:=by
 have a:o*2^(32-s) % 2^(32-s)=0:=by rw [Nat.mul_mod_left]
 refine ⟨32-s,o*2^(32-s),x / 2^s,O,O,O,?_,m9 x s,?_,?_,?_,hb⟩
 ·rw [Int.natCast_mul,Int.natCast_pow];rfl
 ·have j:=nat_join (32-s) _ _ a b;generalize o*2^(32-s)=p at *;generalize x / 2^s=r at *;clear b a;rw [qk _ _ O O,j,hV]
 ·rw [hV];exact Nat.le_add_right _ _
 ·rw [hV];exact Nat.le_add_left _ _
def FromR (xs:List Nat) (lo:Nat) (ov iv:Value):Prop:=∃ (z:Int) (o:Nat),lo<=z/\z<xs.length/\iv=.int .i64 z/\ov=.int .i64 (o:Nat)/\Hid (o=ai (xs.drop (z+1).toNat))
theorem zn (xs:List Nat) (i j:Nat) (h:i<=j) (b:j<=xs.length) (a:Sm xs):ai (xs.drop j)<=ai (xs.drop i):=by
 have e:xs.drop j=(xs.drop i).drop (j-i):=by rw [List.drop_drop];congr 1;omega
 rw [e,<- kY (xs.drop i) (j-i) (a.drop i) (by rw [List.length_drop];omega)];exact Nat.div_le_self _ _
theorem iI (R:Value) (xs:List Nat) (a:Nat) (w:World) (ha:Ws w R xs) (hb:ai xs / 2^a<4611686018427387904) (S:a<=400000000000000) :
  Calls Tryz.prog 116 #[R,.int .i64 (a:Nat)] w fun e w'=>e=.returned (.int .i64 ((ai xs / 2^a:Nat):Int))/\∃ q,w'=w.drewN q:=by
 obtain ⟨ao,ca,rfl,hm,A,D⟩:=ha.open;unfold maxLen at A;obtain ⟨lo,B⟩:=eX (a / 32);obtain ⟨s,hs⟩:=eX (a % 32);have h:s<32:=O
 have i:a=32*lo+s:=O
 have U:((a:Nat):Int) / 32=(lo:Int):=O
 have W:((a:Nat):Int) % 32=(s:Int):=O
 have d1:((a:Nat):Int).tdiv 32=(lo:Int):=by rw [Int.tdiv_eq_ediv_of_nonneg O];exact U
 have d2:((a:Nat):Int).tmod 32=(s:Int):=by rw [Int.tmod_eq_emod_of_nonneg O];exact W
 by_cases F:lo<xs.length
 ·obtain ⟨f1,K⟩:=Dc xs lo s ha.sm F h;rw [<- i] at f1;rw [f1];rw [f1] at hb;have G:=aa hb;have X:=aa D;have C:=aa ha.sm;have t:ai (xs.drop (lo+1))<2305843009213693952:=by
   have p:2<=2^(32-s):=by
    have:=Nat.pow_le_pow_right (n:=2) zD (show 1<=32-s by omega);omega
   have:=Nat.mul_le_mul_left (ai (xs.drop (lo+1))) p;generalize xs[lo] / 2^s=r at hb;omega
  have k:=aa t;obtain ⟨b,off,rfl,hp,m⟩:=D lo F;obtain ⟨x,ex⟩:=eX (xs[lo]);have hx:=ha.sm.get lo F;rw [<- ex] at m hx K ⊢;rw [<- ex] at G;have Y:=aa K;obtain ⟨V,hV⟩:=eX (ai (xs.drop (lo+1))*2^(32-s)+x / 2^s);rw [<- hV];have H:=aa hV;clear D ha hb f1 K B hs i t ex hV;go_enter Tryz.func116,Tryz.ntmps116
  go_wp2;clear U W d1 d2;go_loop [7,8] (fun ov iv=>Hid (FromR xs lo ov iv)) (fun _ iv=>(intOf iv).toNat-lo)
  case atStart=>exact ⟨(xs.length:Int)-1,0,O,O,zN,rfl,by rw [show ((xs.length:Int)-1+1).toNat=xs.length from O,List.drop_of_length_le zL];rfl⟩
  case round =>
   obtain ⟨z,o,hq,hr,rfl,rfl,E⟩:=hrel.out;clear hrel;obtain ⟨j,rfl⟩:∃ j:Nat,z=j:=⟨z.toNat,O⟩;have ho:o<2305843009213693952:=by
    have f:=E.out;rw [show ((j:Int)+1).toNat=j+1 from O] at f;have h2:=zn xs (lo+1) (j+1) O O C;have:=k.out;omega
   by_cases hj:lo<j
   ·obtain ⟨b',he,e,hu,L⟩:=X.out j O;simp only [zI,Addr.mk.injEq,and_true] at e;obtain ⟨rfl,rfl⟩:=e;obtain ⟨y,N⟩:=eX (xs[j]'O);have hy:=C.out.get j O;rw [<- N] at L hy;have d:o*4294967296+y=ai (xs.drop j):=by
     have f:=E.out;rw [show ((j:Int)+1).toNat=j+1 from O] at f;rw [cV xs j,<- f,show xs.getD j 0=y from by rw [N];simp [show j<xs.length from O]];omega
    have I:o<2147483648:=by
     have h2:=zn xs (lo+1) j O O C;have:=k.out;omega
    obtain ⟨P,hP⟩:∃ P:Nat,P=o*4294967296:=⟨_,rfl⟩;obtain ⟨M,Q⟩:∃ M:Nat,M=o*4294967296+y:=⟨_,rfl⟩;have J:(o:Int)*4294967296=(P:Int):=O
    have hf:P<9223372036854775808:=O
    have hk:M<9223372036854775808:=O
    have l:=aa (DJ o y I hy);rw [<- Q] at l;rw [J] at l;rw [<- Q] at d;clear hP Q;have HS:=aa d;clear d N;go_wp2;go_round
    case rel=>exact ⟨(j:Int)-1,M,O,O,zN,congrArg (Value.int .i64) l,by rw [show ((j:Int)-1+1).toNat=j from O];exact HS⟩
    case measure=>exact bO
   ·obtain rfl:j=lo:=O
    have u:Hid (o=ai (xs.drop (j+1))):=by
     have f:=E.out;rw [show ((j:Int)+1).toNat=j+1 from O] at f;exact f
    obtain ⟨T,p,r,t1,t2,t3,t4,t5,t6,t7,t8,t9⟩:=Bf s x o V h (by rw [u];exact H) Y (by rw [H];exact G);have T6:=aa t6;clear G k E u H Y X C t6;go_wp2;go_quiet (fail)
    go_wp2;go_ret;exact ⟨congrArg (fun z=>Ending.returned (Value.int .i64 z)) T6,_,by first | rfl | (simp only [World.drewN_drewN];rfl)⟩
 ·have hz:ai xs / 2^a=0:=by
   apply Nat.div_eq_of_lt;have f:=bD ha.sm;rw [Ak] at f;exact Nat.lt_of_lt_of_le f (Nat.pow_le_pow_right zD O)
  rw [hz];clear D ha hb B hs i hz;go_enter Tryz.func116,Tryz.ntmps116
  go_wp2;go_ret;exact ⟨rfl,0,rfl⟩
def mz (w wr:World) (xs ys:List Nat) (a b:Int) (k:Nat) (c:Int):Prop :=
 ∃ done:List Nat,done.length=k/\Sm done/\ch wr w.heap.size (done++List.replicate (xs.length-k) 0)/\w.grownBy wr none /\
  (ai done:Int)+(4294967296^k:Nat)*c=a*(ai (xs.take k):Nat)+b*(ai (ys.take k):Nat)
theorem cW (ys:List Nat) (k:Nat):ai (ys.take (k+1))=ai (ys.take k)+4294967296^k*ys.getD k 0:=by
 by_cases h:k<ys.length
 ·rw [aw ys k h];simp [h]
 ·rw [zT O,zT O];simp [List.getD,h]
theorem CI (D p c a b X x Y y t:Int) (h:D+p*c=a*X+b*Y) (d:t=c+a*x+b*y):D+p*t=a*(X+p*x)+b*(Y+p*y):=by
 subst d;have e:a*(X+p*x)=a*X+p*(a*x):=by rw [Int.mul_add,Int.mul_left_comm]
 have f:b*(Y+p*y)=b*Y+p*(b*y):=by rw [Int.mul_add,Int.mul_left_comm]
 rw [e,f,Int.mul_add,Int.mul_add];omega
theorem mz.step {a b c:Int} {k:Nat} (h:mz w wr xs ys a b k c) (o:k<xs.length) (x y:Nat) (s:x=xs[k]) (hy:y=ys.getD k 0) (t z:Int) (u:t=c+a*x+b*y) (A:z=t % 4294967296) :
  mz w (wr.setCell ⟨w.heap.size,k,none⟩ (.int .u32 z)) xs ys a b (k+1) (t / 4294967296):=by
 obtain ⟨done,f,B,C,D,l⟩:=h;obtain ⟨r,E⟩:∃ r:Nat,(r:Int)=t % 4294967296:=⟨(t % 4294967296).toNat,O⟩;have d:r<4294967296:=O
 refine ⟨done++[r],by simp [f],B.append (Sm.cons d Sm.nil),?_,ah D _ _ zL,?_⟩
 ·have:=C.set k r;rw [A,<- E];have e:(done++List.replicate (xs.length-k) 0).set k r=(done++[r])++List.replicate (xs.length-(k+1)) 0:=by
   obtain ⟨m,F⟩:∃ m,xs.length-k=m+1:=⟨xs.length-k-1,O⟩;rw [F,show xs.length-(k+1)=m from O];subst f;rw [List.set_append_right _ _ zL];simp [List.replicate_succ]
  rw [e] at this;exact this
 ·rw [aS,f,aw xs k o,<- s,cW ys k,<- hy];rw [Int.natCast_add,Int.natCast_add,Int.natCast_add,Int.natCast_mul,Int.natCast_mul,Int.natCast_mul,Nat.pow_succ,Int.natCast_mul];generalize ((4294967296^k:Nat):Int)=p at l ⊢;have e:=CI _ p c a b _ (x:Int) _ (y:Int) t l u;rw [<- e];have i:t=r+4294967296*(t / 4294967296):=O
  generalize t / 4294967296=q at i ⊢;rw [i,Int.mul_add,Int.mul_assoc];simp only [Int.add_assoc];rfl
theorem Al (a:Int) (x:Nat) (b:-1073741824<a) (d:a<1073741824) (e:x<4294967296):-4611686014132420609<=a*(x:Int)/\a*(x:Int)<=4611686014132420609:=by
 have k1:a*(x:Int)<=1073741823*(x:Int):=Int.mul_le_mul_of_nonneg_right O O;have f:-1073741823*(x:Int)<=a*(x:Int):=Int.mul_le_mul_of_nonneg_right O O;omega
def rF (w:World) (n L:Nat) (e:Ending) (w':World):Prop:=∃ v',e=.returned v'/\aT w' v' n L/\w.grownBy w' none/\bB w v'
theorem CJ {a b c u:Int} (h:mz w wr xs ys a b xs.length c) (d:ys.length<=xs.length) (l:u=a*(ai xs:Nat)+b*(ai ys:Nat)) (o:0<=u) (p:u<(4294967296^xs.length:Nat)) :
  ∃ done:List Nat,done.length=xs.length/\Sm done/\ch wr w.heap.size done/\w.grownBy wr none/\ai done=u.toNat:=by
 obtain ⟨done,k1,f,i,m,k⟩:=h;rw [Nat.sub_self,List.replicate_zero,List.append_nil] at i;refine ⟨done,k1,f,i,m,?_⟩;rw [zT zL,zT d,<- l] at k;have hd:=bD f;rw [k1] at hd;have e:(0:Int)<(4294967296^xs.length:Nat):=by
  have:0<4294967296^xs.length:=Nat.pow_pos zD;omega
 generalize hP:(4294967296^xs.length:Nat)=P at *;have hc:c=0:=by
  rcases Int.lt_trichotomy c 0 with h | h | h
  ·have:=Int.mul_le_mul_of_nonneg_left (show c<=-1 by omega) (Int.le_of_lt e);omega
  ·exact h
  ·have:=Int.mul_le_mul_of_nonneg_left (show 1<=c by omega) (Int.le_of_lt e);omega
 rw [hc,Int.mul_zero] at k;omega
def CombR (w:World) (xs ys:List Nat) (a b:Int) (cv iv:Value) (wr:World):Prop:=∃ (k:Nat) (c:Int),k<=xs.length/\-2147483648<=c/\c<=2147483648/\iv=.int .i64 k/\cv=.int .i64 c/\mz w wr xs ys a b k c
theorem pZ (J K:Value) (xs ys:List Nat) (a b u:Int) (w:World) (ha:Ws w J xs) (hb:Ws w K ys) (A:ys.length<=xs.length) (a1:-1073741824<a) (a2:a<1073741824) (b1:-1073741824<b) (b2:b<1073741824) (L:u=a*(ai xs:Nat)+b*(ai ys:Nat)) (h0:0<=u) (l:u<=(ai xs:Nat)) (hl:xs.length<=10000000000000) :
  Calls Tryz.prog 115 #[J,K,.int .i64 a,.int .i64 b] w fun e w'=>rF w u.toNat xs.length e w':=by
 obtain ⟨ao,ca,rfl,ho,p,R⟩:=ha.open;obtain ⟨bo,cb,rfl,hp,q,S⟩:=hb.open;unfold maxLen at p q;have HA:=aa R;have HB:=aa S;have M:=aa ha.sm;have SB:=aa hb.sm;have HU:=aa L;have H1:=aa l;clear R ha S hb L l;go_enter Tryz.func115,Tryz.ntmps115
 go_wp2_with (at_make;refine aC _ rfl _ _ 83 rfl Tryz.underlying83 Tryz.info32 _ _ _ _ xs.length rfl rfl O O O ?_)
 intro w1 i o;have HR:=aa i;have HG:=aa o;clear i o;go_wp2;go_loopw [10,18] (fun cv iv wr=>Hid (CombR w xs ys a b cv iv wr)) (fun _ iv _=>xs.length-(intOf iv).toNat)
 case atStart=>exact ⟨0,0,Nat.zero_le _,O,O,rfl,rfl,[],rfl,Sm.nil,by simpa using HR.out,HG,by simp [ai]⟩
 case round =>
  obtain ⟨k,c,hk,hq,hr,rfl,rfl,r⟩:=hrel.out;have t:=aa r;clear hrel r;by_cases hlt:k<xs.length
  ·obtain ⟨b',off,rfl,hs,f⟩:=aG HA k hlt;have N:=(aG M).get k hlt;obtain ⟨x,ex⟩:=eX (xs[k]);rw [<- ex] at f N;have P:=aa ex;clear ex;obtain ⟨done,l,h2,F,G,h5⟩:=t.out;have he:wr.cell? ⟨b',off+k,none⟩=some (.int .u32 (x:Nat)):=G.cell f Z;have hf:wr.frozen? ⟨w.heap.size,k,none⟩=false:=F.free k;obtain ⟨v0,hv⟩:∃ v,wr.cell? ⟨w.heap.size,k,none⟩=some v:=⟨_,F.cell k (by simp [l];omega)⟩;have B:=aa G;clear l h2 F G h5 f;obtain ⟨p1,p2⟩:=Al a x a1 a2 N;by_cases h:k<ys.length
   ·obtain ⟨H,s,rfl,T,d⟩:=aG HB k h;have hy:=(aG SB).get k h;obtain ⟨y,I⟩:=eX (ys[k]);rw [<- I] at d hy;have C:Hid (y=ys.getD k 0):=by rw [I];show _=_;simp [h]
    have hm:wr.cell? ⟨H,s+k,none⟩=some (.int .u32 (y:Nat)):=B.out.cell d Z;clear I d;obtain ⟨p3,p4⟩:=Al b y b1 b2 hy;go_wp2;go_roundw
    case rel=>exact ⟨k+1,(c+a*x+b*y) / 4294967296,O,O,O,zN,zN,t.step hlt x y P C _ _ rfl (by first | rfl | omega)⟩
    case measure=>exact bO
   ·have C:Hid ((0:Nat)=ys.getD k 0):=by show _=_;simp [List.getD,show ¬ k<ys.length from h]
    go_wp2;go_roundw
    case rel=>exact ⟨k+1,(c+a*x) / 4294967296,O,O,O,zN,zN,t.step hlt x 0 P C _ _ Z (by first | rfl | omega)⟩
    case measure=>exact bO
  ·obtain rfl:k=xs.length:=O
   have m:=bD M;have D:=H1.out;obtain ⟨done,z,U,V,W,X⟩:=CJ t A HU h0 O;have E:=V.ws U (by rw [z];unfold maxLen;omega);rw [z] at E;have HW:=aa E;have E1:=aa z;have E4:=aa W;have E5:=aa X;clear z U V W X E m D;go_wp2_with fail;refine (fN _ done _ HW).mono ?_;rintro e w2 ⟨v',rfl,rfl,k1,Y⟩;have K1:=aa k1;have K2:=aa Y;clear k1 Y;go_wp2;go_ret;refine ⟨v',rfl,?_,E4,?_⟩
   ·have:=K1.out;rw [E5,E1] at this;exact this
   ·intro j Q;rw [K2] at Q;simp [au] at Q;omega
structure iT (X Y P H N:Int) (a b c d hi nx:Int):Prop where
 hh:hi=a*H+b*N
 hn:nx=c*H+d*N
 sg:(0<=a/\b<=0/\c<=0/\0<=d)∨(a<=0/\0<=b/\0<=c/\d<=0)
 ha:-1073741824<a/\a<1073741824
 hb:-1073741824<b/\b<1073741824
 hc:-1073741824<c/\c<1073741824
 hd:-1073741824<d/\d<1073741824
 ra:0<=hi+a
 rb:0<=hi+b
 rc:0<=nx+c
 rd:0<=nx+d
 le:nx<=hi
 top:hi<=H
 g:Int.gcd (a*X+b*Y) (c*X+d*Y)=Int.gcd X Y
 v0:0<=c*X+d*Y
 vu:c*X+d*Y<=a*X+b*Y
 u0:0<a*X+b*Y
 ux:a*X+b*Y<=X
 vy:c*X+d*Y<=Y
 ds:d≠0
 bs:(a=1/\b=0/\c=0/\d=1)∨(b≠0/\c*X+d*Y<Y)
theorem iT.start {X Y P H N:Int} (a:Y<=X) (d:0<Y) (e:0<=N) (b:N<=H):iT X Y P H N 1 0 0 1 H N:=by
 refine ⟨Z,Z,Z,zD,zD,zD,zD,O,O,O,O,b,O,Z,by simp;omega,by simp;omega,by simp;omega,Z,Z,zD,Z⟩
theorem fi {P x t c d:Int} (hP:0<P) (a:0<=x) (b:x<P) (e:0<=t) (f:t<P) (hc:c<=0) (hd:0<=d):c*P<=c*x+d*t/\c*x+d*t<=d*P:=by
 have h:c*P<=c*x:=Int.mul_le_mul_of_nonpos_left hc O;have i:0<=d*t:=Int.mul_nonneg hd e;have k:c*x<=0:=Int.mul_nonpos_of_nonpos_of_nonneg hc a;have l:d*t<=d*P:=Int.mul_le_mul_of_nonneg_left O hd;omega
theorem yY {X Y P H N x t c d a:Int} (b:X=H*P+x) (e:Y=N*P+t) (hn:a=c*H+d*N):c*X+d*Y=a*P+(c*x+d*t):=by
 subst b e hn;simp only [Int.mul_add,Int.add_mul,Int.mul_assoc];omega
theorem Dg (u v q:Int):Int.gcd v (u-q*v)=Int.gcd u v:=by
 rw [Int.gcd_comm u v];apply Nat.dvd_antisymm
 ·apply Int.dvd_gcd (Int.gcd_dvd_left ..) ;have a:((Int.gcd v (u-q*v):Nat):Int)∣v:=Int.gcd_dvd_left ..;have d:((Int.gcd v (u-q*v):Nat):Int)∣u-q*v:=Int.gcd_dvd_right ..;have e:=Int.dvd_add d (Int.dvd_mul_of_dvd_right a (b:=q));rwa [Int.sub_add_cancel] at e
 ·apply Int.dvd_gcd (Int.gcd_dvd_left ..);exact Int.dvd_sub (Int.gcd_dvd_right ..) (Int.dvd_mul_of_dvd_right (Int.gcd_dvd_left ..))
theorem iT.step {X Y P H N x t a b c d hi f q:Int} (h:iT X Y P H N a b c d hi f) (hP:0<P) (r:0<=x) (l:x<P) (s:0<=t) (m:t<P) (A:X=H*P+x) (B:Y=N*P+t) (R:Y<=X)
  (g1:f+c≠0) (g2:f+d≠0) (q1:q=(hi+a) / (f+c)) (q2:q=(hi+b) / (f+d))
  (hc':-1073741824<a-q*c/\a-q*c<1073741824) (hd':-1073741824<b-q*d/\b-q*d<1073741824) :
  iT X Y P H N c d (a-q*c) (b-q*d) f (hi-q*f)/\0<=hi-q*f/\hi-q*f<f/\0<=q/\q*f<=hi+1073741824:=by
 have J:0<f+c:=by have:=h.rc;omega
 have K:0<f+d:=by have:=h.rd;omega
 have q0:0<=q:=by rw [q1];exact Int.ediv_nonneg h.ra O
 have L:q*(f+c)+(hi+a) % (f+c)=hi+a:=by
  have:=Int.mul_ediv_add_emod (hi+a) (f+c);rw [<- q1,Int.mul_comm] at this;exact this
 have S:q*(f+d)+(hi+b) % (f+d)=hi+b:=by
  have:=Int.mul_ediv_add_emod (hi+b) (f+d);rw [<- q2,Int.mul_comm] at this;exact this
 have r1:=Int.emod_nonneg (hi+a) (Int.ne_of_gt J);have r2:=Int.emod_nonneg (hi+b) (Int.ne_of_gt K);have s1:=Int.emod_lt_of_pos (hi+a) J;have s2:=Int.emod_lt_of_pos (hi+b) K;rw [Int.mul_add] at L S;generalize (hi+a) % (f+c)=R1 at *;generalize (hi+b) % (f+d)=R2 at *
 -- the new remainders
 have eU:a*X+b*Y=hi*P+(a*x+b*t):=yY A B h.hh;have M:c*X+d*Y=f*P+(c*x+d*t):=yY A B h.hn;have Q:hi-q*f=(a-q*c)*H+(b-q*d)*N:=by
  have T:=h.hh;have U:=h.hn;rw [T,U];simp only [Int.mul_add,Int.sub_mul,Int.mul_assoc];omega
 have y:(a-q*c)*X+(b-q*d)*Y=(hi-q*f)*P+((a-q*c)*x+(b-q*d)*t):=yY A B Q;have C:(a-q*c)*X+(b-q*d)*Y=(a*X+b*Y)-q*(c*X+d*Y):=by
  simp only [Int.mul_add,Int.sub_mul,Int.mul_assoc];omega
 have u:(0<=c/\d<=0/\a-q*c<=0/\0<=b-q*d)∨(c<=0/\0<=d/\0<=a-q*c/\b-q*d<=0):=by
  rcases h.sg with ⟨o,p,k,i⟩ | ⟨o,p,k,i⟩
  ·right
   have:=Int.mul_nonpos_of_nonneg_of_nonpos q0 k;have:=Int.mul_nonneg q0 i;omega
  ·left
   have:=Int.mul_nonneg q0 k;have:=Int.mul_nonpos_of_nonneg_of_nonpos q0 i;omega
 have z:0<=hi-q*f/\hi-q*f<f:=O
 have D:q*f<=hi+1073741824:=by
  have:=h.ha;have:=h.hb;rcases h.sg with ⟨o,p,k,i⟩ | ⟨o,p,k,i⟩
  ·have:=Int.mul_nonneg q0 i;omega
  ·have:=Int.mul_nonneg q0 k;omega
 -- v is above 0,v' isn't below 0,v' is below v
 have E:P<=(f+c)*P:=by
  have:=Int.mul_le_mul_of_nonneg_right (show 1<=f+c by omega) (Int.le_of_lt hP);omega
 have F:P<=(f+d)*P:=by
  have:=Int.mul_le_mul_of_nonneg_right (show 1<=f+d by omega) (Int.le_of_lt hP);omega
 have V:0<c*X+d*Y:=by
  rw [M];rcases h.sg with ⟨o,p,k,i⟩ | ⟨o,p,k,i⟩
  ·have:=(fi hP r l s m k i).1;rw [Int.add_mul] at E;omega
  ·have:=(fi hP s m r l i k).1;rw [Int.add_mul] at F;omega
 have W:0<=(hi-q*f+(a-q*c))*P:=Int.mul_nonneg O (Int.le_of_lt hP);have e2:0<=(hi-q*f+(b-q*d))*P:=Int.mul_nonneg O (Int.le_of_lt hP);have G:0<=(a-q*c)*X+(b-q*d)*Y:=by
  rw [y];rcases u with ⟨o,p,k,i⟩ | ⟨o,p,k,i⟩
  ·have:=(fi hP r l s m k i).1;rw [Int.add_mul] at W;omega
  ·have:=(fi hP s m r l i k).1;rw [Int.add_mul] at e2;omega
 have f1:P<=(f+c-(hi-q*f+(a-q*c)))*P:=by
  have:=Int.mul_le_mul_of_nonneg_right (show 1<=f+c-(hi-q*f+(a-q*c)) by omega) (Int.le_of_lt hP);omega
 have f2:P<=(f+d-(hi-q*f+(b-q*d)))*P:=by
  have:=Int.mul_le_mul_of_nonneg_right (show 1<=f+d-(hi-q*f+(b-q*d)) by omega) (Int.le_of_lt hP);omega
 have hlt:(a-q*c)*X+(b-q*d)*Y<c*X+d*Y:=by
  rw [y,M];rw [Int.sub_mul,Int.add_mul,Int.add_mul] at f1 f2;rcases u with ⟨o,p,k,i⟩ | ⟨o,p,k,i⟩
  ·have k1:=(fi hP s m r l p o).1;have k2:=(fi hP r l s m k i).2;omega
  ·have k1:=(fi hP r l s m o p).1;have k2:=(fi hP s m r l i k).2;omega
 have I:b-q*d≠0:=by
  have he:=h.ds;rcases h.bs with ⟨ea,eb,ec,ed⟩ | ⟨hj,_⟩
  ·subst ea eb ec ed;have hf:=h.le;have:q≠0:=by
    intro e;rw [e] at L;omega
   omega
  ·rcases h.sg with ⟨o,p,k,i⟩ | ⟨o,p,k,i⟩
   ·have:=Int.mul_nonneg q0 i;omega
   ·have:=Int.mul_nonpos_of_nonneg_of_nonpos q0 i;omega
 refine ⟨⟨h.hn,Q,?_,h.hc,h.hd,hc',hd',h.rc,h.rd,O,O,O,by have:=h.top;have:=h.le;omega,?_,G,Int.le_of_lt hlt,V,?_,?_,I,.inr ⟨h.ds,?_⟩⟩,z.1,z.2,q0,D⟩
 ·omega
 ·rw [C,Dg];exact h.g
 ·have:=h.vy;omega
 ·have:=h.vy;omega
 ·have:=h.vy;omega
end Go.Proofs.YtbfohfjobncehaaGreatDoor
