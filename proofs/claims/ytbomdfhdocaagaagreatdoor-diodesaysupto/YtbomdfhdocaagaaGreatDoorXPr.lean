/- Contracts. -/
import Derived.Test.YtbomdfhdocaagaaGreatDoorXPq
import Derived.Test.YtbomdfhdocaagaaGreatDoorXPe
namespace Go.Proofs.YtbomdfhdocaagaaGreatDoor
open Go.RowKit
set_option linter.all false
set_option maxHeartbeats 8000000
set_option maxRecDepth 10000
variable {w w' w1:World} {b off L:Nat} {v:Value}
def Dq (g i:Value) (xs ys:List Nat) (w:World) (ha:Ws w g xs) (hb:Ws w i ys) (j:Tr xs) (l:Tr ys) (hlt:ai xs<ai ys) (J:xs.length<=9000000000000) :
  Calls Tryz.prog 163 #[g,i] w fun e w'=>∃ q r,e=.returned (.tuple #[q,r])/\aT w' q 0 0/\aT w' r (ai xs) xs.length/\w.grownBy w' none/\bC w q/\bC w r:=by
 obtain ⟨K,M,B,C,c,D⟩:=ha.open;obtain ⟨bo,N,E,F,d,G⟩:=hb.open;unfold maxLen at c d;have hy:0<ys.length:=by
  rcases zP ys.length with h | h
  ·have:ys=[]:=List.eq_nil_of_length_eq_zero h;rw [this] at hlt;simp [ai] at hlt
  ·exact h
 have m:(((ys.length:Nat):Int)==0)=false:=zB O;have n:=ab ha;have u:=ab hb;have o:=ab j;have x:=ab l;have f:=ab hlt;subst B E;clear D G ha hb j l hlt;go_enter Tryz.func163,Tryz.ntmps163
 go_wp2_with fail;refine (pQ _ _ xs ys _ n u o x).mono ?_;rintro e w1 ⟨rfl,q1,rfl⟩;have a:=tO f;generalize gZ (ai xs) (ai ys)=o1 at a ⊢;go_wp2_with fail;refine (AL _ xs _ (n.keep0 (ak (ae _ _) _)) O).mono ?_;rintro e P ⟨H,rfl,p,s,t⟩;have y:=ab p;have z:=ab s;have A:=ab t;clear p s t;go_wp2;go_ret2
 exact ⟨_,H,rfl,⟨[],Ws.nil _,rfl,rfl,Z⟩,⟨xs,y,o,rfl,zL⟩,aa (ak (ae _ _) _) z,fun k I=>by simp [ar] at I,A⟩
def div_one (t u:Value) (xs:List Nat) (y:Nat) (w:World) (ha:Ws w t xs) (hb:Ws w u [y]) (x:Tr xs) (n:Tr [y]) (hx:2<xs.length) (c:y<=ai xs) (hl:xs.length<=9000000000000) :
  Calls Tryz.prog 163 #[t,u] w fun e w'=>∃ q r,e=.returned (.tuple #[q,r])/\aT w' q (ai xs / y) xs.length/\aT w' r (ai xs % y) 1/\w.grownBy w' none/\bC w q/\bC w r:=by
 obtain ⟨ao,ca,T,U,j,V⟩:=ha.open;obtain ⟨bo,cb,W,X,l,D⟩:=hb.open;unfold maxLen at j l;obtain ⟨b,off,rfl,Y,a⟩:=D 0 Z;simp only [Nat.add_zero,List.getElem_cons_zero] at a;have d:0<y:=by have:=n.pos;simp only [ai] at this;omega
 have f:y<4294967296:=hb.sm y Z;have z:=ab ha;have J:=ab hb;have K:=ab x;have M:=ab n;have o:Hid (ai [y]<=ai xs):=by simp only [ai];exact c
 subst T W;clear V D ha hb x n c;go_enter Tryz.func163,Tryz.ntmps163
 go_wp2_with fail;refine (pQ _ _ xs [y] _ z J K M).mono ?_;rintro e w1 ⟨rfl,q1,rfl⟩;have g:=nH o;generalize gZ (ai xs) (ai [y])=o1 at g ⊢;go_wp2_with fail;refine (wQ _ xs y _ (z.keep0 (ak (ae _ _) _)) d f O).mono ?_;rintro e m ⟨q',r,rfl,s,E,F,G⟩;have p:r<4294967296:=by rw [s];exact Nat.lt_trans (Nat.mod_lt _ d) f
 have N:=ab E;have A:=ab F;have P:=ab G;have Q:=ab s;clear E F G s;go_wp2_with fail;have i:bZ (m.alloc (Obj.cells #[Value.int IntKind.u32 (r:Nat)] 174)) m.heap.size [r]:=by
  unfold bZ;show (m.heap.push _)[m.heap.size]? = _
  rw [Array.getElem?_push_size];rfl
 have B:=i.ws (Sm.cons p Sm.nil) (by unfold maxLen;simp);clear i;refine (eD _ _ _ B).mono ?_;rintro e w3 ⟨r',rfl,rfl,H,I⟩;have R:=ab H;have S:=ab I;clear B H I;go_wp2;go_ret2
 refine ⟨q',r',rfl,N.keep0 (ag (ae _ _) _),?_,ag (aa (ak (ae _ _) _) A) _,P,?_⟩
 ·have h:=R.out;simp only [ai,Nat.mul_zero,Nat.add_zero,List.length_singleton] at h;rw [<- Q];exact h
 ·intro k C;rw [S] at C;have:=A.out.size;simp [ar] at C;simp at this;omega
def sL {c a:World} {v1 v2:Value} {k d e:Nat} (f:(w.drewN k).grownBy c none) (h:aT c v1 d 2) (f1:bC (w.drewN k) v1) (g:c.grownBy a none) (i:aT a v2 e 2) (j:bC c v2) :
  aT a v1 d 2/\aT a v2 e 2/\w.grownBy a none/\bC w v1/\bC w v2 :=
 ⟨h.keep0 g,i,aa (aa (ak (ae _ _) _) f) g,f1,fun k l=>Nat.le_trans f.size (j k l)⟩
def Bh (x y:Value) (xs ys:List Nat) (w:World) (ha:Ws w x xs) (hb:Ws w y ys) (z:Tr xs) (n:Tr ys) (A:xs.length<=2) (hy:0<ys.length) (o:ys.length<=2) (p:ai ys<=ai xs) :
  Calls Tryz.prog 163 #[x,y] w fun e w'=>∃ q r,e=.returned (.tuple #[q,r])/\aT w' q (ai xs / ai ys) 2/\aT w' r (ai xs % ai ys) 2/\w.grownBy w' none/\bC w q/\bC w r:=by
 obtain ⟨ao,ca,ea,he,d,Ha⟩:=ha.open;obtain ⟨bo,cb,eb,hf,f,Hb⟩:=hb.open;unfold maxLen at d f;have B:(((ys.length:Nat):Int)==0)=false:=zB O;have K:0<ai ys:=by
  have:=jz n (by intro e;rw [e] at hy;simp at hy);have p3:0<4294967296^(ys.length-1):=Nat.pow_pos zD;omega
 have a:ai xs<18446744073709551616:=by
  have h1:=bD ha.sm;have h2:4294967296^xs.length<=4294967296^2:=Nat.pow_le_pow_right zD A;omega
 have C:=ab ha;have D:=ab hb;have M:=ab z;have N:=ab n;have s:=ab p;subst ea eb;clear Ha Hb ha hb z n;go_enter Tryz.func163,Tryz.ntmps163
 go_wp2_with fail;refine (pQ _ _ xs ys _ C D M N).mono ?_;rintro e w1 ⟨rfl,q1,rfl⟩;have c:=nH s;generalize gZ (ai xs) (ai ys)=o1 at c ⊢;go_wp2_with fail;refine (js _ xs _ (C.keep0 (ak (ae _ _) _)) A).mono ?_;rintro e w2 ⟨rfl,rfl⟩;go_wp2_with fail;refine (js _ ys _ (D.keep0 (ak (ae _ _) _)) o).mono ?_;rintro e w3 ⟨rfl,rfl⟩;generalize hX:ai xs=X at *;generalize hY:ai ys=Y at *;have P:=ab hX;have Q:=ab hY;clear hX hY;have t:X / Y<18446744073709551616:=Nat.lt_of_le_of_lt (Nat.div_le_self _ _) a;have u:X % Y<18446744073709551616:=Nat.lt_of_le_of_lt (Nat.mod_le _ _) a;obtain ⟨j,k⟩:=eX (X / Y);obtain ⟨g,i⟩:=eX (X % Y);have R:((X:Int) / (Y:Int))=(j:Int):=by rw [k,Int.natCast_ediv]
 have S:((X:Int) % (Y:Int))=(g:Int):=by rw [i,Int.natCast_emod]
 have T:((X:Int).tmod (Y:Int))=(g:Int):=by rw [i,Int.tmod_eq_emod_of_nonneg O,Int.natCast_emod]
 rw [<- k] at t;rw [<- i] at u;have U:IntKind.u64.wrap (j:Int)=(j:Int):=IntWalk.u64_in _ ⟨O,O⟩;have V:IntKind.u64.wrap (g:Int)=(g:Int):=IntWalk.u64_in _ ⟨O,O⟩;have W:=ab k;have ER:=ab i;clear k i;go_wp2;go_region_with (first | (go_at_call_of 114 (Value.int .u64 (j:Int));refine (fi _ _ O O).mono ?_;rintro e w5 ⟨E,rfl,l,F,G⟩) | (go_at_call_of 114 (Value.int .u64 (g:Int));refine (fi _ _ O O).mono ?_;rintro e w6 ⟨H,rfl,m,I,J⟩))
 all_goals go_wp2
 all_goals go_ret2
 all_goals rw [Int.toNat_natCast] at l m
 all_goals rw [W] at l
 all_goals rw [ER] at m
 all_goals rw [P,Q]
 all_goals first
  | (have h:=sL F l G I m J;exact ⟨E,H,rfl,h.1,h.2.1,h.2.2.1,h.2.2.2.1,h.2.2.2.2⟩)
  | (have h:=sL I m J F l G;exact ⟨E,H,rfl,h.2.1,h.1,h.2.2.1,h.2.2.2.2,h.2.2.2.1⟩)
def fY (j k:Value) (m n L M:Nat) (w:World) (ha:aT w j m L) (hb:aT w k n M) (hn:0<n) (C:L<=9000000000000) (D:M<=9000000000000) :
  Calls Tryz.prog 163 #[j,k] w fun e w'=>∃ q r,e=.returned (.tuple #[q,r])/\aT w' q (m / n) (L+2)/\aT w' r (m % n) (L+2)/\w.grownBy w' none/\bC w q/\bC w r:=by
 obtain ⟨xs,o,t,p,E⟩:=ha;obtain ⟨ys,u,s,l,F⟩:=hb;have x:0<ys.length:=by
  rcases zP ys.length with h | h
  ·have:ys=[]:=List.eq_nil_of_length_eq_zero h;rw [this] at l;simp [ai] at l;omega
  ·exact h
 rcases Nat.lt_or_ge (ai xs) (ai ys) with hlt | d
 ·refine (Dq j k xs ys w o u t s hlt O).mono ?_;rintro e w' ⟨q,r,rfl,c,a,f,g,i⟩;rw [p] at a;rw [p,l] at hlt;refine ⟨q,r,rfl,?_,?_,f,g,i⟩
  ·rw [Nat.div_eq_of_lt hlt];exact c.mono O
  ·rw [Nat.mod_eq_of_lt hlt];exact a.mono O
 ·have z:ys.length<=xs.length:=by
   rcases Nat.lt_or_ge xs.length ys.length with h | h
   ·have:=cC o.sm s h;omega
   ·exact h
  by_cases A:xs.length<=2
  ·refine (Bh j k xs ys w o u t s A x O d).mono ?_;rintro e w' ⟨q,r,rfl,c,a,f,g,i⟩;rw [p,l] at c a;exact ⟨q,r,rfl,c.mono O,a.mono O,f,g,i⟩
  ·by_cases B:ys.length=1
   ·obtain ⟨y,rfl⟩:=List.length_eq_one_iff.1 B;have hy:y=n:=by rw [<- l];simp [ai]
    refine (div_one j k xs y w o u t s O (by simp only [ai] at d;omega) O).mono ?_;rintro e w' ⟨q,r,rfl,c,a,f,g,i⟩;rw [p,hy] at c a;exact ⟨q,r,rfl,c.mono O,a.mono O,f,g,i⟩
   ·refine (Dr j k xs ys w o u t s O O d O z).mono ?_;rintro e w' ⟨q,r,rfl,c,a,f,g,i⟩;rw [p,l] at c a;exact ⟨q,r,rfl,c.mono O,a.mono O,f,g,i⟩
def Ba (va vb:Value) (d a:List Nat) (w:World) (ha:Ws w va d) (hb:Ws w vb a) (M:Tr d) (N:Tr a) (P:0<ai d) (L:Nat) (Q:d.length<=L) (R:a.length<=L) (hl:L<=8000000000000) :
  Calls Tryz.prog 162 #[va,vb] w fun e w'=>∃ g,e=.returned g/\aT w' g (Nat.gcd (ai d) (ai a)) (L+2)/\w.grownBy w' none:=by
 obtain ⟨ao,ca,ea,hj,o,Ha⟩:=ha.open;obtain ⟨bo,cb,eb,hk,p,Hb⟩:=hb.open;obtain ⟨G,hG⟩:=eX (Nat.gcd (ai d) (ai a));rw [<- hG];have H0:Hid (∃ xs ys:List Nat,Ws w (.slice ao d.length ca) xs/\Ws w (.slice bo a.length cb) ys/\Tr xs/\Tr ys/\0<ai xs/\xs.length<=L/\ys.length<=L/\Nat.gcd (ai xs) (ai ys)=G/\w.grownBy w none/\ai ys=ai a) :=
  ⟨d,a,by rw [<- ea];exact ha,by rw [<- eb];exact hb,M,N,P,Q,R,hG.symm,ae _ _,rfl⟩
 subst ea eb;clear Ha Hb ha hb M N P Q R hG hj o hk p;go_enter Tryz.func162,Tryz.ntmps162
 go_wp2;go_loopg [0,1] (ai a) (fun k av bv wr=>Hid (∃ xs ys:List Nat,Ws wr av xs/\Ws wr bv ys/\Tr xs/\Tr ys/\0<ai xs/\xs.length<=L/\ys.length<=L/\Nat.gcd (ai xs) (ai ys)=G/\w.grownBy wr none/\ai ys=k))
 case atStart=>exact H0
 case round =>
  obtain ⟨xs,ys,h1,h2,h3,h4,h5,h6,h7,h8,h9,ho⟩:=hrel.out;obtain ⟨hv,hw,rfl,hj,o,_⟩:=h1.open;obtain ⟨hz,hA,rfl,hk,p,_⟩:=h2.open;unfold maxLen at o p;have H:=ab h1;have t:=ab h2;have H3:=ab h3;have I:=ab h4;have H5:=ab h5;have S:=ab h8;have T:=ab h9;have U:=ab ho;clear h1 h2 h3 h4 h5 h8 h9 ho hrel H0;by_cases hy:2<ys.length
  ·have n:0<ai ys:=by
    have:=jz I (by intro e;rw [e] at hy;simp at hy);have p3:0<4294967296^(ys.length-1):=Nat.pow_pos zD;omega
   have j:=ab n;clear n;go_wp2_with fail;refine (fY _ _ (ai xs) (ai ys) L L _ ⟨xs,H,H3,rfl,h6⟩ ⟨ys,t,I,rfl,h7⟩ j O O).mono ?_;rintro e w2 ⟨q,r,rfl,k1,⟨z,r1,r2,J,r4⟩,K,k4,k5⟩;have V:=ab r1;have R2:=ab r2;have R3:=ab J;have K3:=ab K;clear k1 r1 r2 J r4 K k4 k5;go_wp2;have hm:=Nat.mod_lt (ai xs) j;go_roundg (ai z)
   case measure=>rw [R3,<- U];exact hm
   case rel=>exact ⟨ys,z,t.keep0 K3,V,I,R2,j,h7,Nat.le_trans (ma V.sm R2 t.sm (by rw [R3];omega)) h7,by rw [R3,Nat.gcd_comm,<- Nat.gcd_rec,Nat.gcd_comm];exact S,aa T K3,rfl⟩
  ·by_cases f:ys.length=0
   ·have hq:(((ys.length:Nat):Int)==0)=true:=beq_iff_eq.2 O;have e0:ys=[]:=List.eq_nil_of_length_eq_zero f;have E0:=ab e0;clear e0 f;go_wp2;go_ret;refine ⟨_,rfl,⟨xs,H,H3,?_,O⟩,T⟩;have:=S.out;rw [E0] at this;simp only [ai,Nat.gcd_zero_right] at this;exact this
   ·have hq:(((ys.length:Nat):Int)==0)=false:=zB O;have i:ys.length<=2:=O
    by_cases hx:2<xs.length
    ·have n:0<ai ys:=by
      have:=jz I (by intro e;rw [e] at f;simp at f);have p3:0<4294967296^(ys.length-1):=Nat.pow_pos zD;omega
     have j:=ab n;clear n f hy;go_wp2_with fail;refine (fY _ _ (ai xs) (ai ys) L L _ ⟨xs,H,H3,rfl,h6⟩ ⟨ys,t,I,rfl,h7⟩ j O O).mono ?_;rintro e w2 ⟨q,r,rfl,k1,⟨z,r1,r2,J,r4⟩,K,k4,k5⟩;obtain ⟨hB,hC,rfl,hD,hp,_⟩:=r1.open;have hm:=Nat.mod_lt (ai xs) j;have rl:z.length<=2:=Nat.le_trans (ma r1.sm r2 t.sm (by rw [J];omega)) i;have V:=ab r1;have W:=ab (t.keep0 K);have TG:Hid (Nat.gcd (ai ys) (ai z)=G):=by rw [J,Nat.gcd_comm,<- Nat.gcd_rec,Nat.gcd_comm];exact S
     have hr:=ab (aa T K);clear k1 r1 r2 J r4 K k4 k5 hm hp H t H3 I H5 S T U j;have A:ai ys<18446744073709551616:=ph W.sm i;have l:ai z<18446744073709551616:=ph V.sm rl
     go_wp2_with fail;refine (js _ ys _ W i).mono ?_;rintro e w3 ⟨rfl,rfl⟩;go_wp2_with fail;refine (js _ z _ V rl).mono ?_;rintro e w3 ⟨rfl,rfl⟩;have c:=TG;generalize ai ys=X at A c ⊢;generalize ai z=Y at l c ⊢
     go_wp2;go_loopw [9,10] (fun xv F wv=>∃ x y q:Nat,x<18446744073709551616/\y<18446744073709551616/\xv=.int .u64 x/\F=.int .u64 y/\wv=w3.drewN q/\Hid (Nat.gcd x y=G)) (fun _ F _=>(intOf F).toNat)
     case atStart=>exact ⟨X,Y,0,A,l,rfl,rfl,rfl,c⟩
     case round =>
      clear A l c
      obtain ⟨x,y,q,hu,E,rfl,rfl,rfl,HG⟩:=hrel;by_cases m:y=0
      ·have B:=ab m;have he:y<=0:=O
       clear m;go_wp2_with fail;refine (fi _ _ O O).mono ?_;rintro e w5 ⟨g,rfl,a1,a2,a3⟩;have A1:=ab a1;have A2:=ab a2;clear a1 a2 a3;go_wp2;go_ret;refine ⟨g,rfl,?_,aa hr (aa (ak (ae _ _) _) A2)⟩;have h:=A1.out;have hg:=HG.out;rw [B,Nat.gcd_zero_right] at hg;rw [Int.toNat_natCast,hg] at h;exact h.mono O
      ·have f:1<=y:=O
       obtain ⟨u,s⟩:=eX (x % y);have C:((x:Int) % (y:Int))=(u:Int):=by rw [s,Int.natCast_emod]
       have D:((x:Int).tmod (y:Int))=(u:Int):=by rw [s,Int.tmod_eq_emod_of_nonneg O,Int.natCast_emod]
       have hs:u<y:=by rw [s];exact Nat.mod_lt _ O
       have EZ:=ab s;clear s m;go_wp2;go_quiet (fail)
       go_wp2;go_roundw
       case rel=>exact ⟨y,u,_,E,O,rfl,by first | rfl | rw [C] | rw [D],by first | rfl | (simp only [World.drewN_drewN];rfl),by rw [EZ,Nat.gcd_comm,<- Nat.gcd_rec,Nat.gcd_comm];exact HG⟩
       case measure=>exact bH
    ·have hf:xs.length<=2:=O
     clear f hy;have A:ai xs<18446744073709551616:=ph H.sm hf;have l:ai ys<18446744073709551616:=ph t.sm i
     go_wp2_with fail;refine (js _ xs _ H hf).mono ?_;rintro e w3 ⟨rfl,rfl⟩;go_wp2_with fail;refine (js _ ys _ t i).mono ?_;rintro e w3 ⟨rfl,rfl⟩;have c:=S;generalize ai xs=X at A c ⊢;generalize ai ys=Y at l c ⊢
     go_wp2;go_loopw [9,10] (fun xv F wv=>∃ x y q:Nat,x<18446744073709551616/\y<18446744073709551616/\xv=.int .u64 x/\F=.int .u64 y/\wv=w3.drewN q/\Hid (Nat.gcd x y=G)) (fun _ F _=>(intOf F).toNat)
     case atStart=>exact ⟨X,Y,0,A,l,rfl,rfl,rfl,c⟩
     case round =>
      clear A l c
      obtain ⟨x,y,q,hu,E,rfl,rfl,rfl,HG⟩:=hrel;by_cases m:y=0
      ·have B:=ab m;have he:y<=0:=O
       clear m;go_wp2_with fail;refine (fi _ _ O O).mono ?_;rintro e w5 ⟨g,rfl,a1,a2,a3⟩;have A1:=ab a1;have A2:=ab a2;clear a1 a2 a3;go_wp2;go_ret;refine ⟨g,rfl,?_,aa T (aa (ak (ae _ _) _) A2)⟩;have h:=A1.out;have hg:=HG.out;rw [B,Nat.gcd_zero_right] at hg;rw [Int.toNat_natCast,hg] at h;exact h.mono O
      ·have f:1<=y:=O
       obtain ⟨u,s⟩:=eX (x % y);have C:((x:Int) % (y:Int))=(u:Int):=by rw [s,Int.natCast_emod]
       have D:((x:Int).tmod (y:Int))=(u:Int):=by rw [s,Int.tmod_eq_emod_of_nonneg O,Int.natCast_emod]
       have hs:u<y:=by rw [s];exact Nat.mod_lt _ O
       have EZ:=ab s;clear s m;go_wp2;go_quiet (fail)
       go_wp2;go_roundw
       case rel=>exact ⟨y,u,_,E,O,rfl,by first | rfl | rw [C] | rw [D],by first | rfl | (simp only [World.drewN_drewN];rfl),by rw [EZ,Nat.gcd_comm,<- Nat.gcd_rec,Nat.gcd_comm];exact HG⟩
       case measure=>exact bH
def jE (a c:Value) (m n L M:Nat) (w:World) (ha:aT w a m L) (hb:aT w c n M) (o:0<m) (p:L<=8000000000000) (d:M<=8000000000000) :
  Calls Tryz.prog 162 #[a,c] w fun e w'=>∃ g,e=.returned g/\aT w' g (Nat.gcd m n) (max L M+2)/\w.grownBy w' none:=by
 obtain ⟨xs,f,h,i,q⟩:=ha;obtain ⟨ys,j,k,l,r⟩:=hb;rw [<- i,<- l];exact Ba a c xs ys w f j h k O (max L M) O O O
structure gO (w:World) (b off:Nat) (neg:Bool) (v:Value):Prop where
 c0:w.cell? ⟨b,off,none⟩=some (.bool neg)
 c1:w.cell? ⟨b,off+1,none⟩=some v
 f0:w.frozen? ⟨b,off,none⟩=false
 f1:w.frozen? ⟨b,off+1,none⟩=false
def eP {a:Addr} (h:w.cell? a=some v):a.block<w.heap.size:=by
 rcases Nat.lt_or_ge a.block w.heap.size with c | c
 ·exact c
 ·simp [World.cell?,Array.getElem?_eq_none c] at h
def gO.lt {neg:Bool} (h:gO w b off neg v):b<w.heap.size:=eP h.c0
structure gF (w w':World) (b off:Nat):Prop where
 gr:w.grownBy w' (some b)
 rest:∀ o,o≠off->o≠off+1->w'.cell? ⟨b,o,none⟩=w.cell? ⟨b,o,none⟩
 fr:∀ o,w'.frozen? ⟨b,o,none⟩=w.frozen? ⟨b,o,none⟩
def gF.of_gr (h:w.grownBy w' none) (b off:Nat) (hb:b<w.heap.size):gF w w' b off :=
 ⟨⟨h.os,h.tape,h.output,h.size,fun k a _=>h.block k a Z⟩,fun o _ _=>World.cell?_of_block (h.block b hb Z),fun o=>World.frozen?_of_block (h.block b hb Z)⟩
def gF.trans {a:World} (h:gF w w1 b off) (k:gF w1 a b off):gF w a b off :=
 ⟨aw h.gr k.gr (fun _ _ e=>e) (fun _ _ e=>e),fun o c d=>(k.rest o c d).trans (h.rest o c d),fun o=>(k.fr o).trans (h.fr o)⟩
def gF.set {o:Nat} (v:Value) (d:o=off∨o=off+1):gF w (w.setCell ⟨b,o,none⟩ v) b off:=by
 refine ⟨⟨rfl,rfl,rfl,Z,fun k _ c=>heap_setCell_other _ _ _ _ (fun e=>c (by rw [e]))⟩,fun a f g=>?_,fun a=>Z⟩;refine World.cell?_setCell_other w ⟨b,o,none⟩ ⟨b,a,none⟩ v ?_;intro e;simp only [Addr.mk.injEq,true_and,and_true] at e;omega
def gO.keep {f c:Nat} {neg:Bool} (h:gO w b off neg v) (d:gF w w' f c) (g:b≠f∨off+1<c∨c+1<off):gO w' b off neg v:=by
 by_cases hb:b=f
 ·subst hb;have i:off+1<c∨c+1<off:=by rcases g with h | h;exact absurd rfl h;exact h
  exact ⟨(d.rest off O O).trans h.c0,(d.rest (off+1) O O).trans h.c1,(d.fr off).trans h.f0,(d.fr (off+1)).trans h.f1⟩
 ·have e:w'.heap[b]? = w.heap[b]?:=d.gr.block b h.lt (fun e=>hb (zJ e));exact ⟨(World.cell?_of_block (a:=⟨b,off,none⟩) e).trans h.c0,(World.cell?_of_block (a:=⟨b,off+1,none⟩) e).trans h.c1,(World.frozen?_of_block (a:=⟨b,off,none⟩) e).trans h.f0,(World.frozen?_of_block (a:=⟨b,off+1,none⟩) e).trans h.f1⟩
def gO.keep0 {neg:Bool} (h:gO w b off neg v) (hg:w.grownBy w' none):gO w' b off neg v:=by
 have e:w'.heap[b]? = w.heap[b]?:=hg.block b h.lt Z;exact ⟨(World.cell?_of_block (a:=⟨b,off,none⟩) e).trans h.c0,(World.cell?_of_block (a:=⟨b,off+1,none⟩) e).trans h.c1,(World.frozen?_of_block (a:=⟨b,off,none⟩) e).trans h.f0,(World.frozen?_of_block (a:=⟨b,off+1,none⟩) e).trans h.f1⟩
def ay (w:World) (b off:Nat) (z:Int) (L:Nat):Prop :=
 ∃ neg v,gO w b off neg v/\aT w v z.natAbs L/\neg=decide (z<0)/\ar v≠some b
def dX (w w':World) (b off:Nat):Prop:=∀ v,w'.cell? ⟨b,off+1,none⟩=some v->bC w v
def dX.of (hc:w'.cell? ⟨b,off+1,none⟩=some v) (c:bC w1 v) (d:w.heap.size<=w1.heap.size):dX w w' b off:=fun u a=>by
 rw [hc] at a;have:=zJ a;subst this;intro k e;exact Nat.le_trans d (c k e)
def sg (neg:Bool) (n:Nat):Int:=if neg then -(n:Int) else n
def oA (x:Int) (neg:Bool) (h:neg=decide (x<0)):sg neg x.natAbs=x:=by
 subst h;unfold sg;by_cases a:x<0
 ·simp [a];omega
 ·simp [a];omega
def sg_not (x:Int) (neg:Bool) (h:neg=decide (x<0)):sg (!neg) x.natAbs = -x:=by
 subst h;unfold sg;by_cases a:x<0
 ·simp [a];omega
 ·simp [a];omega
def sg_mul (x y:Int) (a b:Bool) (ha:a=decide (x<0)) (hb:b=decide (y<0)):sg (a != b) (x.natAbs*y.natAbs)=x*y:=by
 have d:=oA x a ha;have e:=oA y b hb;rw [<- Int.natAbs_mul];generalize hm:(x*y).natAbs=m;have c:(m:Int)=(x.natAbs:Int)*(y.natAbs:Int):=by rw [<- hm,Int.natAbs_mul,Int.natCast_mul]
 rw [<- d,<- e];unfold sg;cases a<;>cases b<;>simp [c,Int.neg_mul,Int.mul_neg]
def gI (b off:Nat) (i:Bool) (v0:Value) (neg:Bool) (v:Value) (n L:Nat) (w:World) (f:gO w b off i v0) (hn:aT w v n L) (j:ar v≠some b) :
  Calls Tryz.prog 115 #[.pointer (some ⟨b,off,none⟩),.bool neg,v] w fun e w'=>e=.returned (.pointer (some ⟨b,off,none⟩))/\gF w w' b off/\ay w' b off (sg neg n) L/\w'.cell? ⟨b,off+1,none⟩=some v:=by
 obtain ⟨xs,q,u,x,z⟩:=hn;obtain ⟨a,c,rfl,A,l,_⟩:=q.open;unfold maxLen at l;have m:=ab f;have y:=ab q;have r:=ab u;have s:=ab x;have c0:=f.c0;have c1:=f.c1;have f0:=f.f0;have f1:=f.f1;have t:=ab j;clear f q u x j;have fin:∀ (nb:Bool),nb=(neg && decide (0<xs.length))->gF w ((w.setCell ⟨b,off+1,none⟩ (.slice a xs.length c)).setCell ⟨b,off,none⟩ (.bool nb)) b off/\ay ((w.setCell ⟨b,off+1,none⟩ (.slice a xs.length c)).setCell ⟨b,off,none⟩ (.bool nb)) b off (sg neg n) L/\((w.setCell ⟨b,off+1,none⟩ (.slice a xs.length c)).setCell ⟨b,off,none⟩ (.bool nb)).cell? ⟨b,off+1,none⟩=some (.slice a xs.length c):=by
  intro nb p;have hP:gF w ((w.setCell ⟨b,off+1,none⟩ (.slice a xs.length c)).setCell ⟨b,off,none⟩ (.bool nb)) b off:=(gF.set _ (.inr rfl)).trans (gF.set _ (.inl rfl));have hc:((w.setCell ⟨b,off+1,none⟩ (.slice a xs.length c)).setCell ⟨b,off,none⟩ (.bool nb)).cell? ⟨b,off+1,none⟩=some (.slice a xs.length c):=by
   rw [World.cell?_setCell_other _ _ _ _ Z];exact World.cell?_setCell_same _ _ _ m.c1
  refine ⟨hP,⟨nb,.slice a xs.length c,⟨?_,hc,?_,?_⟩,?_,?_,t⟩,hc⟩
  ·exact World.cell?_setCell_same _ _ _ (by rw [World.cell?_setCell_other _ _ _ _ Z];exact m.c0)
  ·rw [hP.fr];exact m.f0
  ·rw [hP.fr];exact m.f1
  ·have:(sg neg n).natAbs=n:=by unfold sg;split<;>omega
   rw [this];exact ⟨xs,y.keep hP.gr (fun k e h=>by cases e;exact t h),r,s,z⟩
  ·rw [p];have o:=s.out;by_cases g:xs.length=0
   ·have:xs=[]:=List.eq_nil_of_length_eq_zero g;rw [this] at o ⊢;simp only [ai] at o;subst o;cases neg<;>simp [sg]
   ·have B:0<n:=by
     have:=jz r (by intro e;rw [e] at g;simp at g);have C:0<4294967296^(xs.length-1):=Nat.pow_pos zD;omega
    cases neg
    ·simp [sg]
    ·simp only [sg,if_true,Bool.true_and];rw [decide_eq_true O,decide_eq_true O]
 have d:=ab fin;clear fin;cases neg
 ·go_enter Tryz.func115,Tryz.ntmps115
  go_wp2;go_ret;exact ⟨rfl,d _ Z⟩
 ·by_cases g:0<xs.length
  ·go_enter Tryz.func115,Tryz.ntmps115
   go_wp2;go_ret;exact ⟨rfl,d _ (by simp [g])⟩
  ·go_enter Tryz.func115,Tryz.ntmps115
   go_wp2;go_ret;exact ⟨rfl,d _ (by simp [g])⟩
def cw (h:w.grownBy w1 none) (a:gF w1 w' b off) (hb:w.heap.size<=b):w.grownBy w' none :=
 aw h a.gr (fun _ _ e=>e) (fun k c e=>by cases e;omega)
def az (k:Nat):w.grownBy (w.drewN k) none:=ak (ae _ _) k
def ay.keep {a c:Nat} {z:Int} (h:ay w b off z L) (f:gF w w' a c) (d:b≠a∨off+1<c∨c+1<off) (i:∀ v,w.cell? ⟨b,off+1,none⟩=some v->ar v≠some a):ay w' b off z L:=by
 obtain ⟨neg,v,g,j,l,m⟩:=h;exact ⟨neg,v,g.keep f d,j.keep f.gr (fun k e=>by cases e;exact i v g.c1),l,m⟩
def ay.keep0 {z:Int} (h:ay w b off z L) (hg:w.grownBy w' none):ay w' b off z L:=by
 obtain ⟨neg,v,a,c,d,e⟩:=h;exact ⟨neg,v,a.keep0 hg,c.keep0 hg,d,e⟩
def ay.lt {z:Int} (h:ay w b off z L):b<w.heap.size:=by
 obtain ⟨neg,v,a,c,d,e⟩:=h;exact a.lt
def ay.mono {L':Nat} {z:Int} (h:ay w b off z L) (a:L<=L'):ay w b off z L':=by
 obtain ⟨neg,v,c,d,e,f⟩:=h;exact ⟨neg,v,c,d.mono a,e,f⟩
def gH {w1:World} (h:bC w v) (hb:b<w.heap.size):ar v≠some b:=fun e=>by
 have:=h b e;omega
def fR (w:World):gO (w.alloc (.cells #[.bool false,.slice none 0 0] 96)) w.heap.size 0 false (.slice none 0 0) :=
 ⟨Z,Z,Z,Z⟩
def kK (b off:Nat) (a:Bool) (v0:Value) (x:Int) (w:World) (m:gO w b off a v0) (z:-9223372036854775808<=x) (A:x<=9223372036854775807) :
  Calls Tryz.prog 116 #[.pointer (some ⟨b,off,none⟩),.int .i64 x] w fun e w'=>e=.returned (.pointer (some ⟨b,off,none⟩))/\gF w w' b off/\ay w' b off x 2/\dX w w' b off:=by
 have s:=ab m;have hb:=m.lt;clear m;by_cases u:x<0
 ·have t:IntKind.u64.wrap (-IntKind.u64.wrap x) = -x:=by rw [IntKind.wrap_u64,IntKind.wrap_u64];omega
  go_enter Tryz.func116,Tryz.ntmps116
  go_wp2_with fail;refine (fi _ _ ?p1 ?p2).mono ?_
  case p1=>omega
  case p2=>omega
  rintro e w1 ⟨r,rfl,f,g,i⟩;have n:=ab f;have c:=ab g;have d:=ab i;clear f g i;go_wp2_with fail;refine (gI b off a v0 _ r _ 2 w1 (s.keep0 c) n (gH (w1:=w) d hb)).mono ?_;rintro e y ⟨rfl,j,k,l⟩;have o:=ab l;clear l;have p:=ab j;have q:=ab k;clear j k;go_wp2;go_ret;refine ⟨rfl,(gF.of_gr c b off hb).trans p,?_,dX.of o d zL⟩;have h:=q.out;rw [show (-x).toNat=x.natAbs from O,oA x true (by simp [u])] at h;exact h
 ·go_enter Tryz.func116,Tryz.ntmps116
  go_wp2_with fail;refine (fi _ _ O O).mono ?_;rintro e w1 ⟨r,rfl,f,g,i⟩;have n:=ab f;have c:=ab g;have d:=ab i;clear f g i;go_wp2_with fail;refine (gI b off a v0 _ r _ 2 w1 (s.keep0 c) n (gH (w1:=w) d hb)).mono ?_;rintro e y ⟨rfl,j,k,l⟩;have o:=ab l;clear l;have p:=ab j;have q:=ab k;clear j k;go_wp2;go_ret;refine ⟨rfl,(gF.of_gr c b off hb).trans p,?_,dX.of o d zL⟩;have h:=q.out;rw [show x.toNat=x.natAbs from O,oA x _ (by first | rfl | (simp;omega))] at h;exact h
def dJ (x:Int) (w:World) (f:-9223372036854775808<=x) (g:x<=9223372036854775807) :
  Calls Tryz.prog 71 #[.int .i64 x] w fun e w'=>e=.returned (.pointer (some ⟨w.heap.size,0,none⟩))/\w.grownBy w' none/\ay w' w.heap.size 0 x 2/\dX w w' w.heap.size 0:=by
 go_enter Tryz.func71,Tryz.ntmps71
 go_wp2_with fail;refine (kK w.heap.size 0 false (.slice none 0 0) x _ (fR w) f g).mono ?_;rintro e w1 ⟨rfl,a,c,d⟩;have h:=ab d;clear d;have i:=ab a;have j:=ab c;clear a c;go_wp2;go_ret;exact ⟨rfl,cw (ag (ae _ _) _) i zL,j,fun v l k m=>Nat.le_trans Z (h v l k m)⟩
def qF (b off g h:Nat) (a:Bool) (v0:Value) (x:Int) (L:Nat) (w:World) (d:gO w b off a v0) (m:ay w g h x L) (z:L<=10000000000000) :
  Calls Tryz.prog 83 #[.pointer (some ⟨b,off,none⟩),.pointer (some ⟨g,h,none⟩)] w fun e w'=>e=.returned (.pointer (some ⟨b,off,none⟩))/\gF w w' b off/\ay w' b off x L/\dX w w' b off:=by
 have n:=ab d;have hb:=d.lt;obtain ⟨neg,v,c,i,j,r⟩:=m;have o:=ab c;have c0:=c.c0;have c1:=c.c1;have p:=ab i;have q:=ab j;clear d c i j r;go_enter Tryz.func83,Tryz.ntmps83
 go_wp2;go_region_with (first | (go_at_call 129;refine (qP _ _ L _ (p.keep0 (az _)) O).mono ?_;rintro e w1 ⟨s,rfl,t,f,k⟩;have q0:=(o.keep0 (aa (az _) f)).c0) | (go_at_call 115;refine (gI b off a v0 neg s _ L w1 (n.keep0 (aa (az _) f)) t (gH (w1:=w) k hb)).mono ?_;rintro e A ⟨rfl,u,l,y⟩))
 all_goals go_wp2
 all_goals go_ret
 all_goals rw [oA x neg q] at l
 all_goals exact ⟨rfl,(gF.of_gr (aa (az _) f) b off hb).trans u,l,dX.of y k zL⟩
def nE (b off g h:Nat) (a:Bool) (v0:Value) (x:Int) (L:Nat) (w:World) (d:gO w b off a v0) (m:ay w g h x L) (z:L<=10000000000000) :
  Calls Tryz.prog 119 #[.pointer (some ⟨b,off,none⟩),.pointer (some ⟨g,h,none⟩)] w fun e w'=>e=.returned (.pointer (some ⟨b,off,none⟩))/\gF w w' b off/\ay w' b off (-x) L/\dX w w' b off:=by
 have n:=ab d;have hb:=d.lt;obtain ⟨neg,v,c,i,j,r⟩:=m;have o:=ab c;have c0:=c.c0;have c1:=c.c1;have p:=ab i;have q:=ab j;clear d c i j r;go_enter Tryz.func119,Tryz.ntmps119
 go_wp2;go_region_with (first | (go_at_call 129;refine (qP _ _ L _ (p.keep0 (az _)) O).mono ?_;rintro e w1 ⟨s,rfl,t,f,k⟩;have q0:=(o.keep0 (aa (az _) f)).c0) | (go_at_call 115;refine (gI b off a v0 (!neg) s _ L w1 (n.keep0 (aa (az _) f)) t (gH (w1:=w) k hb)).mono ?_;rintro e A ⟨rfl,u,l,y⟩))
 all_goals go_wp2
 all_goals go_ret
 all_goals rw [sg_not x neg q] at l
 all_goals exact ⟨rfl,(gF.of_gr (aa (az _) f) b off hb).trans u,l,dX.of y k zL⟩
def mul_at (b off g n h o:Nat) (f:Bool) (v0:Value) (x y:Int) (L M:Nat) (w:World) (s:gO w b off f v0) (F:ay w g n x L) (G:ay w h o y M) (T:L+M<=10000000000000) (i:g≠b) (j:h≠b) :
  Calls Tryz.prog 126 #[.pointer (some ⟨b,off,none⟩),.pointer (some ⟨g,n,none⟩),.pointer (some ⟨h,o,none⟩)] w fun e w'=>e=.returned (.pointer (some ⟨b,off,none⟩))/\gF w w' b off/\ay w' b off (x*y) (L+M)/\dX w w' b off:=by
 have H:=ab s;have hb:=s.lt;obtain ⟨neg,v,r,B,C,P⟩:=F;obtain ⟨a,u,d,k,l,A⟩:=G;have p:=ab r;have c0:=r.c0;have c1:=r.c1;have q:=ab d;have U:=d.c0;have V:=d.c1;have I:=ab B;have J:=ab C;have t:=ab k;have z:=ab l;clear s r B C P d k l A;go_enter Tryz.func126,Tryz.ntmps126
 go_wp2;go_region_held3 (fun w'=>w'.cell? ⟨g,n,none⟩=some (.bool neg)/\w'.cell? ⟨g,n+1,none⟩=some v/\w'.cell? ⟨h,o,none⟩=some (.bool a)/\w'.cell? ⟨h,o+1,none⟩=some u) (go_keep)
  (first | (go_at_call 113;refine (Ah _ _ _ _ L M _ (I.keep0 (az _)) (t.keep0 (az _)) O).mono ?_;rintro e w1 ⟨Q,rfl,R,c,D⟩;have q0:=(p.keep0 (aa (az _) c)).c0;have K:=(p.keep0 (aa (az _) c)).c1;have q1:=(q.keep0 (aa (az _) c)).c0;have N:=(q.keep0 (aa (az _) c)).c1) | (go_at_call 115;refine (gI b off f v0 (neg != a) Q _ (L+M) w1 (H.keep0 (aa (az _) c)) R (gH (w1:=w) D hb)).mono ?_;rintro e Y ⟨rfl,m,E,S⟩;have W:=((p.keep0 (aa (az _) c)).keep m (.inl i)).c0;have r1:=((p.keep0 (aa (az _) c)).keep m (.inl i)).c1;have r2:=((q.keep0 (aa (az _) c)).keep m (.inl j)).c0;have X:=((q.keep0 (aa (az _) c)).keep m (.inl j)).c1))
 all_goals go_wp2
 all_goals go_ret
 all_goals rw [sg_mul x y neg a J z] at E
 all_goals exact ⟨rfl,(gF.of_gr (aa (az _) c) b off hb).trans m,E,dX.of S D zL⟩
structure bE (w w':World) (b:Nat):Prop where
 gr:w.grownBy w' (some b)
 rest:b<w.heap.size->∀ o,4<=o->w'.cell? ⟨b,o,none⟩=w.cell? ⟨b,o,none⟩
def bE.of_put (h:gF w w' b off) (ho:off<=2:=by decide):bE w w' b:=⟨h.gr,fun _ o a=>h.rest o O O⟩
def bE.of_gr (h:w.grownBy w' none):bE w w' b:=⟨⟨h.os,h.tape,h.output,h.size,fun k a _=>h.block k a Z⟩,fun hb o _=>World.cell?_of_block (h.block b hb Z)⟩
def bE.trans {a:World} (h:bE w w1 b) (k:bE w1 a b):bE w a b:=⟨aw h.gr k.gr (fun _ _ e=>e) (fun _ _ e=>e),fun hb o c=>(k.rest (Nat.lt_of_lt_of_le hb h.gr.size) o c).trans (h.rest hb o c)⟩
def aF {n:Nat} (h:aT w v n L):∃ ao l ca,v=.slice ao l ca/\(l=0↔n=0)/\l<=L/\l<=ca/\ca<=9223372036854775807/\(l=1->∃ b off,ao=some ⟨b,off,none⟩/\w.cell? ⟨b,off,none⟩=some (.int .u32 (n:Nat)))/\(n=1->l=1):=by
 obtain ⟨xs,g,f,c,i⟩:=h;obtain ⟨ao,ca,rfl,h1,h2,h3⟩:=g.open;refine ⟨ao,xs.length,ca,rfl,?_,i,h1,by unfold maxLen at h2;omega,?_,?_⟩
 ·constructor
  ·intro h;have:xs=[]:=List.eq_nil_of_length_eq_zero h;rw [this] at c;simpa [ai] using c.symm
  ·intro h;rcases zP xs.length with a | a
   ·exact a
   ·have:=jz f (by intro e;rw [e] at a;simp at a);have j:0<4294967296^(xs.length-1):=Nat.pow_pos zD;omega
 ·intro h;obtain ⟨b,off,e,hb,hc⟩:=h3 0 O;refine ⟨b,off,e,?_⟩;obtain ⟨x,rfl⟩:=List.length_eq_one_iff.1 h;simp only [Nat.add_zero,List.getElem_cons_zero] at hc;rw [hc,<- c];simp [ai]
 ·intro h;have d:xs≠[]:=by intro e;rw [e] at c;simp [ai] at c;omega
  have h1:=jz f d;rw [c,h] at h1;have h2:xs.length-1=0:=by
   rcases zP (xs.length-1) with a | a
   ·exact a
   ·have:4294967296^1<=4294967296^(xs.length-1):=Nat.pow_le_pow_right zD a;omega
  have h3:0<xs.length:=by
   cases xs with
   | nil=>exact absurd rfl d
   | cons x r=>simp
  omega
def zw (x:Int) (y G:Nat) (f:G=Nat.gcd x.natAbs y) (i:x≠0) (hy:0<y):(x / (G:Nat)).natAbs=x.natAbs / G/\decide (x / (G:Nat)<0)=decide (x<0):=by
 have g:0<G:=by rw [f];exact Nat.gcd_pos_of_pos_right _ hy
 obtain ⟨k,d⟩:G∣x.natAbs:=by rw [f];exact Nat.gcd_dvd_left _ _
 have h:0<k:=by
  rcases zP k with e | e
  ·rw [e,Nat.mul_zero] at d;omega
  ·exact e
 have c:(G:Int)≠0:=O
 rw [d,Nat.mul_div_cancel_left k g];by_cases a:x<0
 ·have e:x=(G:Int)*(-(k:Int)):=by
   have:(x.natAbs:Int)=(G:Int)*(k:Int):=by rw [d,Int.natCast_mul]
   rw [Int.mul_neg];omega
  rw [e,Int.mul_ediv_cancel_left _ c];refine ⟨O,?_⟩;rw [<- e,decide_eq_true a];exact decide_eq_true O
 ·have e:x=(G:Int)*(k:Int):=by
   have:(x.natAbs:Int)=(G:Int)*(k:Int):=by rw [d,Int.natCast_mul]
   omega
  rw [e,Int.mul_ediv_cancel_left _ c];refine ⟨O,?_⟩;rw [<- e,decide_eq_false a];exact decide_eq_false O
def mL (b:Nat) (x:Int) (y G L M:Nat) (w w1 j a:World) (l:Bool) {o n:Value} (p q:Value) (r:G=Nat.gcd x.natAbs y) (s:x≠0) (hy:0<y) (m:l=decide (x<0))
  (g1:w.grownBy w1 none) (g2:w1.grownBy j none) (g3:j.grownBy a none) (t1:gO a b 0 l o) (t2:gO a b 2 false n) (n1:aT j p (x.natAbs / G) (L+2)) (n2:aT a q (y / G) (M+2)) (f1:bC w1 p) (f2:bC j q) (hb:b<w.heap.size) :
  bE w ((a.setCell ⟨b,1,none⟩ p).setCell ⟨b,3,none⟩ q) b/\ay ((a.setCell ⟨b,1,none⟩ p).setCell ⟨b,3,none⟩ q) b 0 (x / (G:Nat)) (L+2)/\ay ((a.setCell ⟨b,1,none⟩ p).setCell ⟨b,3,none⟩ q) b 2 (y / G:Nat) (M+2):=by
 obtain ⟨u,z⟩:=zw x y G r s hy;have g:gF a (a.setCell ⟨b,1,none⟩ p) b 0:=gF.set _ (.inr rfl);have i:gF (a.setCell ⟨b,1,none⟩ p) ((a.setCell ⟨b,1,none⟩ p).setCell ⟨b,3,none⟩ q) b 2:=gF.set _ (.inr rfl);have d:ar p≠some b:=fun e=>by have:=f1 b e;have:=g1.size;omega
 have f:ar q≠some b:=fun e=>by have:=f2 b e;have:=g1.size;have:=g2.size;omega
 have t:w.grownBy a none:=aa (aa g1 g2) g3;refine ⟨(bE.of_gr t).trans ((bE.of_put g).trans (bE.of_put i)),?_,?_⟩
 ·refine ⟨l,p,?_,?_,by rw [m,z],d⟩
  ·have c1:(a.setCell ⟨b,1,none⟩ p).cell? ⟨b,1,none⟩=some p:=World.cell?_setCell_same _ _ _ t1.c1;have c0:(a.setCell ⟨b,1,none⟩ p).cell? ⟨b,0,none⟩=some (.bool l):=by
    rw [World.cell?_setCell_other _ _ _ _ Z];exact t1.c0
   exact gO.keep ⟨c0,c1,(g.fr 0).trans t1.f0,(g.fr 1).trans t1.f1⟩ i (.inr (.inl O))
  ·rw [u];exact ((n1.keep0 g3).keep g.gr (fun k e h=>by cases e;exact d h)).keep i.gr (fun k e h=>by cases e;exact d h)
 ·refine ⟨false,q,?_,?_,(decide_eq_false (Int.not_lt.2 (Int.natCast_nonneg _))).symm,f⟩
  ·have c:gO (a.setCell ⟨b,1,none⟩ p) b 2 false n:=t2.keep g (.inr (.inr O));refine ⟨?_,World.cell?_setCell_same _ _ _ c.c1,(i.fr 2).trans c.f0,(i.fr 3).trans c.f1⟩;rw [World.cell?_setCell_other _ _ _ _ Z];exact c.c0
  ·rw [Int.natAbs_natCast];exact (n2.keep g.gr (fun k e h=>by cases e;exact f h)).keep i.gr (fun k e h=>by cases e;exact f h)
def Ep (b:Nat) (x:Int) (y L M:Nat) (w:World) (hA:ay w b 0 x L) (hB:ay w b 2 (y:Int) M) (hx:x≠0) (hy:0<y) (hL:L<=4000000000000) (hM:M<=4000000000000) :
  Calls Tryz.prog 117 #[.pointer (some ⟨b,0,none⟩)] w fun e w'=>e=.returned (.pointer (some ⟨b,0,none⟩))/\bE w w' b/\ay w' b 0 (x / (Nat.gcd x.natAbs y:Nat)) (L+2)/\ay w' b 2 (y / Nat.gcd x.natAbs y:Nat) (M+2):=by
 have HA:=ab hA;have HB:=ab hB;obtain ⟨na,va,a1,a2,a3,a4⟩:=hA;obtain ⟨nb,vb,b1,b2,b3,b4⟩:=hB;rw [Int.natAbs_natCast] at b2;have he:nb=false:=by rw [b3];simp
 subst he;have c0:=a1.c0;have c1:=a1.c1;have d0:=b1.c0;have d1:=b1.c1;obtain ⟨ao,la,ca,rfl,z1,z2,z3,z4,z5,z6⟩:=aF a2;obtain ⟨bo,lb,cb,rfl,y1,y2,y3,y4,y5,W⟩:=aF b2;have ho:((la:Int)==0)=false:=zB O;have hp:((lb:Int)==0)=false:=zB O;have Q:=ab a1;have Y:=ab a2;have A3:=ab a3;have A4:=ab a4;have B1:=ab b1;have B2:=ab b2;have B4:=ab b4;clear a1 a2 a3 a4 b1 b2 b3 b4 z1 z5 z6 y1;by_cases hf:y=1
 ·subst hf;have S:((lb:Int)==1)=true:=beq_iff_eq.2 (by have:=W rfl;omega);obtain ⟨i,c,rfl,hl⟩:=y5 (W rfl);have T:=W rfl;clear y5 W;go_enter Tryz.func117,Tryz.ntmps117
  go_wp2;go_ret;refine ⟨rfl,bE.of_gr (ae _ _),?_,?_⟩
  ·rw [Nat.gcd_one_right];simpa using HA.out.mono O
  ·rw [Nat.gcd_one_right];simpa using HB.out.mono O
 ·have U:Hid (0<x.natAbs):=by show 0<x.natAbs;omega
  have hj:∃ Gv:Nat,Gv=Nat.gcd x.natAbs y:=⟨_,rfl⟩;obtain ⟨G,hG⟩:=hj;rw [<- hG];have R:=ab hG;clear hG;have hk:((lb:Int)==1)=false∨(((lb:Int)==1)=true/\∃ i c,bo=some ⟨i,c,none⟩/\w.cell? ⟨i,c,none⟩=some (.int .u32 (y:Nat))/\(((y:Nat):Int)==1)=false/\1<=lb):=by
   by_cases h:lb=1
   ·obtain ⟨i,c,e1,e2⟩:=y5 h;exact .inr ⟨beq_iff_eq.2 O,i,c,e1,e2,zB O,O⟩
   ·exact .inl (zB O)
  clear y5 W;rcases hk with S | ⟨S,i,c,rfl,hl,hm,T⟩
  ·skip;go_enter Tryz.func117,Tryz.ntmps117
   go_wp2;go_region_held3 (fun w'=>w'.cell? ⟨b,1,none⟩=some (.slice ao la ca)/\w'.cell? ⟨b,3,none⟩=some (.slice bo lb cb)) (go_keep)
    (first | (go_at_call 162;refine (jE _ _ _ _ L M _ (Y.keep0 (az _)) (B2.keep0 (az _)) U O O).mono ?_;rintro e w1 ⟨g,rfl,D,E⟩;have q1:=(Q.keep0 (aa (az _) E)).c1;have q3:=(B1.keep0 (aa (az _) E)).c1))
   have k:=aa (az _) E;rw [<- R] at D;have n:0<G:=by rw [R];exact Nat.gcd_pos_of_pos_right _ hy
   obtain ⟨go,l,cg,rfl,X,m2,m3,m4,F,J⟩:=aF D;have e1:=Q.out.keep0 k;have e2:=B1.out.keep0 k;have f1:=e1.f1;have f3:=e2.f1;have E1:=ab e1;have E2:=ab e2;have V:=ab D;have A:=ab k;have N1:=ab (Y.keep0 k);have N2:=ab (B2.keep0 k);clear D E k e1 e2 c0 c1 d0 d1;by_cases f:G=1
   ·have o:=J f;have r:((l:Int)==1)=true:=beq_iff_eq.2 O;obtain ⟨m,a,rfl,K⟩:=F o;have H:(((G:Nat):Int)==1)=true:=beq_iff_eq.2 O;have s:=ab f;have t:1<=l:=O
    clear X F J o f;go_wp2;go_ret;refine ⟨rfl,bE.of_gr A,?_,?_⟩
    ·rw [s];simpa using (HA.keep0 A).mono O
    ·rw [s];simpa using (HB.keep0 A).mono O
   ·have u:((l:Int)==1)=false∨(((l:Int)==1)=true/\∃ m a,go=some ⟨m,a,none⟩/\w1.cell? ⟨m,a,none⟩=some (.int .u32 (G:Nat))/\(((G:Nat):Int)==1)=false/\1<=l):=by
     by_cases h:l=1
     ·obtain ⟨m,a,e1,e2⟩:=F h;exact .inr ⟨beq_iff_eq.2 O,m,a,e1,e2,zB O,O⟩
     ·exact .inl (zB O)
    clear X F J;rcases u with r | ⟨r,m,a,rfl,K,H,t⟩
    all_goals
     go_wp2_with fail;refine (fY _ _ _ _ L (max L M+2) _ N1 V n O O).mono ?_;rintro e w2 ⟨p,r1,rfl,j,N,d,z,P⟩;obtain ⟨po,lp,cp,rfl,_,_,_,_,_,_⟩:=aF j;have u1:=E1.out.keep0 d;have u2:=E2.out.keep0 d;have s1:=u1.c1;have s2:=u2.c1;have s3:=u1.f1;have s4:=u2.f1;have P1:=ab j;have I:=ab d;have P4:=ab z;clear j N d z P q1 q3 f1 f3;go_wp2_with fail;refine (fY _ _ _ _ M (max L M+2) _ (N2.keep0 I) (V.keep0 I) n O O).mono ?_;rintro e w3 ⟨q,r2,rfl,j,N,d,z,P⟩;obtain ⟨qo,lq,cq,rfl,_,_,_,_,_,_⟩:=aF j;have B:=u1.keep0 d;have C:=u2.keep0 d;have v1:=B.c1;have v2:=C.c1;have v3:=B.f1;have v4:=C.f1;have Q1:=ab j;have Q3:=ab d;have Q4:=ab z;have T1:=ab B;have T2:=ab C;clear j N d z P s1 s2 s3 s4 u1 u2 B C;go_wp2;go_ret;exact ⟨rfl,mL b x y G L M w w1 w2 w3 na (.slice po lp cp) (.slice qo lq cq) R hx hy A3 A I Q3 T1 T2 P1 Q1 P4 Q4 (Q.lt)⟩
  ·skip;go_enter Tryz.func117,Tryz.ntmps117
   go_wp2;go_region_held3 (fun w'=>w'.cell? ⟨b,1,none⟩=some (.slice ao la ca)/\w'.cell? ⟨b,3,none⟩=some (.slice (some ⟨i,c,none⟩) lb cb)) (go_keep)
    (first | (go_at_call 162;refine (jE _ _ _ _ L M _ (Y.keep0 (az _)) (B2.keep0 (az _)) U O O).mono ?_;rintro e w1 ⟨g,rfl,D,E⟩;have q1:=(Q.keep0 (aa (az _) E)).c1;have q3:=(B1.keep0 (aa (az _) E)).c1))
   have k:=aa (az _) E;rw [<- R] at D;have n:0<G:=by rw [R];exact Nat.gcd_pos_of_pos_right _ hy
   obtain ⟨go,l,cg,rfl,X,m2,m3,m4,F,J⟩:=aF D;have e1:=Q.out.keep0 k;have e2:=B1.out.keep0 k;have f1:=e1.f1;have f3:=e2.f1;have E1:=ab e1;have E2:=ab e2;have V:=ab D;have A:=ab k;have N1:=ab (Y.keep0 k);have N2:=ab (B2.keep0 k);clear D E k e1 e2 c0 c1 d0 d1;by_cases f:G=1
   ·have o:=J f;have r:((l:Int)==1)=true:=beq_iff_eq.2 O;obtain ⟨m,a,rfl,K⟩:=F o;have H:(((G:Nat):Int)==1)=true:=beq_iff_eq.2 O;have s:=ab f;have t:1<=l:=O
    clear X F J o f;go_wp2;go_ret;refine ⟨rfl,bE.of_gr A,?_,?_⟩
    ·rw [s];simpa using (HA.keep0 A).mono O
    ·rw [s];simpa using (HB.keep0 A).mono O
   ·have u:((l:Int)==1)=false∨(((l:Int)==1)=true/\∃ m a,go=some ⟨m,a,none⟩/\w1.cell? ⟨m,a,none⟩=some (.int .u32 (G:Nat))/\(((G:Nat):Int)==1)=false/\1<=l):=by
     by_cases h:l=1
     ·obtain ⟨m,a,e1,e2⟩:=F h;exact .inr ⟨beq_iff_eq.2 O,m,a,e1,e2,zB O,O⟩
     ·exact .inl (zB O)
    clear X F J;rcases u with r | ⟨r,m,a,rfl,K,H,t⟩
    all_goals
     go_wp2_with fail;refine (fY _ _ _ _ L (max L M+2) _ N1 V n O O).mono ?_;rintro e w2 ⟨p,r1,rfl,j,N,d,z,P⟩;obtain ⟨po,lp,cp,rfl,_,_,_,_,_,_⟩:=aF j;have u1:=E1.out.keep0 d;have u2:=E2.out.keep0 d;have s1:=u1.c1;have s2:=u2.c1;have s3:=u1.f1;have s4:=u2.f1;have P1:=ab j;have I:=ab d;have P4:=ab z;clear j N d z P q1 q3 f1 f3;go_wp2_with fail;refine (fY _ _ _ _ M (max L M+2) _ (N2.keep0 I) (V.keep0 I) n O O).mono ?_;rintro e w3 ⟨q,r2,rfl,j,N,d,z,P⟩;obtain ⟨qo,lq,cq,rfl,_,_,_,_,_,_⟩:=aF j;have B:=u1.keep0 d;have C:=u2.keep0 d;have v1:=B.c1;have v2:=C.c1;have v3:=B.f1;have v4:=C.f1;have Q1:=ab j;have Q3:=ab d;have Q4:=ab z;have T1:=ab B;have T2:=ab C;clear j N d z P s1 s2 s3 s4 u1 u2 B C;go_wp2;go_ret;exact ⟨rfl,mL b x y G L M w w1 w2 w3 na (.slice po lp cp) (.slice qo lq cq) R hx hy A3 A I Q3 T1 T2 P1 Q1 P4 Q4 (Q.lt)⟩
def BQ (b:Nat) (y L M:Nat) (w:World) (j:ay w b 0 0 L) (t:ay w b 2 (y:Int) M) (hy:0<y) :
  Calls Tryz.prog 117 #[.pointer (some ⟨b,0,none⟩)] w fun e w'=>e=.returned (.pointer (some ⟨b,0,none⟩))/\bE w w' b/\ay w' b 0 0 L/\ay w' b 2 1 2:=by
 have S:=ab j;obtain ⟨E,V,a,g,m,n⟩:=j;obtain ⟨F,W,c,i,o,G⟩:=t;rw [Int.natAbs_natCast] at i;have d:F=false:=by rw [o];simp
 subst d;have c0:=a.c0;have c1:=a.c1;have T:=c.c0;have U:=c.c1;obtain ⟨H,p,I,rfl,q,X,Y,z4,J,K⟩:=aF g;obtain ⟨bo,lb,N,rfl,P,y2,y3,y4,Q,R⟩:=aF i;have u:((p:Int)==0)=true:=beq_iff_eq.2 (by have:=q.2 rfl;omega);have x:((lb:Int)==0)=false:=zB O;have z:=ab a;have A:=ab g;have l:=ab n;have B:=ab m;have C:=ab c;clear a g m n c i o G q J K P Q R;go_enter Tryz.func117,Tryz.ntmps117
 go_wp2_with fail;refine (kK b 2 false (.slice bo lb N) 1 _ C O O).mono ?_;rintro e w1 ⟨rfl,r,s,_⟩;have f:=ab r;have D:=ab s;clear r s;go_wp2;go_ret;refine ⟨rfl,bE.of_put f,?_,D⟩;exact ⟨E,.slice H p I,z.keep f (.inr (.inl O)),A.keep f.gr (fun k e h=>by cases e;exact l h),B,l⟩
def bK (w:World) (b:Nat) (x:Int) (y L:Nat):Prop:=ay w b 0 x L/\ay w b 2 (y:Int) L/\0<y/\Nat.gcd x.natAbs y=1
def fF (x:Int) (y:Nat):Int:=x / (Nat.gcd x.natAbs y:Nat)
def fw (x:Int) (y:Nat):Nat:=y / Nat.gcd x.natAbs y
def Ac (x:Int) (y:Nat) (hy:0<y):Nat.gcd (fF x y).natAbs (fw x y)=1/\0<fw x y:=by
 have a:0<Nat.gcd x.natAbs y:=Nat.gcd_pos_of_pos_right _ hy;have hd:0<fw x y:=Nat.div_pos (Nat.le_of_dvd hy (Nat.gcd_dvd_right _ _)) a;refine ⟨?_,hd⟩;by_cases c:x=0
 ·subst c;unfold fF fw;simp only [Int.natAbs_zero,Nat.gcd_zero_left,Int.zero_ediv];exact Nat.div_self hy
 ·unfold fF fw;rw [(zw x y _ rfl c hy).1];rw [Nat.gcd_div (Nat.gcd_dvd_left _ _) (Nat.gcd_dvd_right _ _)];exact Nat.div_self a
def vQ (b:Nat) (x:Int) (y L:Nat) (w:World) (f:ay w b 0 x L) (g:ay w b 2 (y:Int) L) (hy:0<y) (h:L<=4000000000000) :
  Calls Tryz.prog 117 #[.pointer (some ⟨b,0,none⟩)] w fun e w'=>e=.returned (.pointer (some ⟨b,0,none⟩))/\bE w w' b/\bK w' b (fF x y) (fw x y) (L+2):=by
 have i:=Ac x y hy;by_cases j:x=0
 ·subst j;refine (BQ b y L L w f g hy).mono ?_;rintro e w' ⟨rfl,a,c,d⟩;have k:fF 0 y=0:=by simp [fF]
  have l:fw 0 y=1:=by unfold fw;simp only [Int.natAbs_zero,Nat.gcd_zero_left];exact Nat.div_self hy
  rw [k,l];exact ⟨rfl,a,c.mono O,d.mono O,O,Z⟩
 ·refine (Ep b x y L L w f g j hy h h).mono ?_;rintro e w' ⟨rfl,a,c,d⟩;exact ⟨rfl,a,c,d,i.2,i.1⟩
def DG (b:Nat) (x:Int) (y L:Nat) (w:World) (a c:Bool) (p q:Value) {n m:Bool} {v1 v2:Value} (g:gO w b 0 n v1) (o:gO w b 2 m v2) (r:aT w p x.natAbs L) (s:aT w q y L) (i:a=decide (x<0)) (j:c=decide ((y:Int)<0)) (f1:ar p≠some b) (l:ar q≠some b) :
  bE w ((((w.setCell ⟨b,0,none⟩ (.bool a)).setCell ⟨b,1,none⟩ p).setCell ⟨b,2,none⟩ (.bool c)).setCell ⟨b,3,none⟩ q) b /\
  ay ((((w.setCell ⟨b,0,none⟩ (.bool a)).setCell ⟨b,1,none⟩ p).setCell ⟨b,2,none⟩ (.bool c)).setCell ⟨b,3,none⟩ q) b 0 x L /\
  ay ((((w.setCell ⟨b,0,none⟩ (.bool a)).setCell ⟨b,1,none⟩ p).setCell ⟨b,2,none⟩ (.bool c)).setCell ⟨b,3,none⟩ q) b 2 (y:Int) L:=by
 have d:gF w ((w.setCell ⟨b,0,none⟩ (.bool a)).setCell ⟨b,1,none⟩ p) b 0:=(gF.set _ (.inl rfl)).trans (gF.set _ (.inr rfl));have f:gF ((w.setCell ⟨b,0,none⟩ (.bool a)).setCell ⟨b,1,none⟩ p) ((((w.setCell ⟨b,0,none⟩ (.bool a)).setCell ⟨b,1,none⟩ p).setCell ⟨b,2,none⟩ (.bool c)).setCell ⟨b,3,none⟩ q) b 2:=(gF.set _ (.inl rfl)).trans (gF.set _ (.inr rfl));have t:gO ((w.setCell ⟨b,0,none⟩ (.bool a)).setCell ⟨b,1,none⟩ p) b 0 a p:=by
  refine ⟨?_,?_,(d.fr 0).trans g.f0,(d.fr 1).trans g.f1⟩
  ·rw [World.cell?_setCell_other _ _ _ _ Z];exact World.cell?_setCell_same _ _ _ g.c0
  ·exact World.cell?_setCell_same _ _ _ (by rw [World.cell?_setCell_other _ _ _ _ Z];exact g.c1)
 have c2:gO ((w.setCell ⟨b,0,none⟩ (.bool a)).setCell ⟨b,1,none⟩ p) b 2 m v2:=o.keep d (.inr (.inr O));refine ⟨(bE.of_put d).trans (bE.of_put f),?_,?_⟩
 ·exact ⟨a,p,t.keep f (.inr (.inl O)),(r.keep d.gr (fun k e h=>by cases e;exact f1 h)).keep f.gr (fun k e h=>by cases e;exact f1 h),i,f1⟩
 ·refine ⟨c,q,⟨?_,?_,(f.fr 2).trans c2.f0,(f.fr 3).trans c2.f1⟩,?_,j,l⟩
  ·rw [World.cell?_setCell_other _ _ _ _ Z];exact World.cell?_setCell_same _ _ _ c2.c0
  ·exact World.cell?_setCell_same _ _ _ (by rw [World.cell?_setCell_other _ _ _ _ Z];exact c2.c1)
  ·rw [Int.natAbs_natCast];exact (s.keep d.gr (fun k e h=>by cases e;exact l h)).keep f.gr (fun k e h=>by cases e;exact l h)
def da (c r s t ob:Nat) (X Y:Bool) (v1 v2:Value) (x:Int) (y L:Nat) (w:World) (f:gO w c 0 X v1) (k:gO w c 2 Y v2) (F:ay w r s x L) (G:ay w t ob (y:Int) L) (hy:0<y) (hL:L<=4000000000000) :
  Calls Tryz.prog 72 #[.pointer (some ⟨c,0,none⟩),.pointer (some ⟨r,s,none⟩),.pointer (some ⟨t,ob,none⟩)] w fun e w'=>e=.returned (.pointer (some ⟨c,0,none⟩))/\bE w w' c/\bK w' c (fF x y) (fw x y) (L+2):=by
 have HA:=ab F;have HB:=ab G;have Z1:=ab f;have Z2:=ab k;have he:=f.lt;obtain ⟨nb,vb,g,h,o,p⟩:=G;rw [Int.natAbs_natCast] at h;obtain ⟨bo,lb,cb,rfl,y1,y2,y3,y4,y5,y6⟩:=aF h;have d1:=g.c1;have hf:((lb:Int)==0)=false:=zB O;clear g h o p y1 y5 y6 f k F;go_enter Tryz.func72,Tryz.ntmps72
 go_wp2_with fail;have u:=ag (ae w none) (.cells #[.bool false,.slice none 0 0] 96);refine (qF w.heap.size 0 r s false (.slice none 0 0) x L _ (fR w) (HA.keep0 u) O).mono ?_;rintro e w1 ⟨rfl,d,n,J⟩;have K4:=ab J;clear J;have l:=ab (cw u d zL);have H:=ab n;clear d n u d1;go_wp2_with fail;have z:=ag (ae w1 none) (.cells #[.bool false,.slice none 0 0] 96);refine (qF w1.heap.size 0 t ob false (.slice none 0 0) (y:Int) L _ (fR w1) ((HB.keep0 l).keep0 z) O).mono ?_;rintro e w2 ⟨rfl,d,K,M⟩;have K5:=ab M;clear M;have m:=ab (cw z d zL);have K3:=ab K;clear d K z;have A:w.heap.size<w1.heap.size:=H.out.lt;obtain ⟨na,va,q,D,N,P⟩:=H.out.keep0 m;obtain ⟨E,hj,g,h,o,p⟩:=K3.out;have i:=(Z1.keep0 l).keep0 m;have j:=(Z2.keep0 l).keep0 m;obtain ⟨Q,R,S,rfl,_,_,_,_,_,_⟩:=aF D;obtain ⟨T,U,V,rfl,_,_,_,_,_,_⟩:=aF h;have m0:=q.c0;have m1:=q.c1;have m2:=g.c0;have m3:=g.c1;have x0:=i.c0;have x1:=i.c1;have x2:=j.c0;have x3:=j.c1;have f0:=i.f0;have f1:=i.f1;have f2:=j.f0;have f3:=j.f1;have A1:=ab q;have A2:=ab D;have A3:=ab N;have A4:=ab P;have B1:=ab g;have I:=ab h;have B3:=ab o;have B4:=ab p;have B:=ab i;have C:=ab j;clear q D N P g h o p i j;simp only [Nat.zero_add] at m0 m1 m2 m3 x0 x1 x2 x3 f0 f1 f2 f3;have F1:Hid (ar (.slice Q R S)≠some c):=by
  intro e;have:=K4.out _ (by rw [<- A1.c1];exact (World.cell?_of_block (w:=w1) (a:=⟨w.heap.size,0+1,none⟩) (m.block _ A Z)).symm) c e;simp at this;omega
 have F2:Hid (ar (.slice T U V)≠some c):=by
  intro e;have:=K5.out _ B1.c1 c e;have h2:=l.out.size;simp at this;omega
 go_wp2_with fail;obtain ⟨r1,r2,W⟩:=DG c x y L w2 na E (.slice Q R S) (.slice T U V) B C A2 (by rw [Int.natAbs_natCast] at I;exact I) A3 B3 F1 F2;refine (vQ c x y L _ r2 W hy hL).mono ?_;rintro e w3 ⟨rfl,d,n⟩;have RR:=ab ((bE.of_gr (aa l m)).trans (r1.trans d));have KK:=ab n;clear r1 r2 W d n;go_wp2;go_ret;exact ⟨rfl,RR,KK⟩
def tq (b:Nat) (x:Int) (y L:Nat) (w:World) (h:bK w b x y L) :
  Calls Tryz.prog 80 #[.pointer (some ⟨b,0,none⟩)] w fun e w'=>e=.returned (.pointer (some ⟨b,2,none⟩))/\w'=w:=by
 obtain ⟨f,g,i,j⟩:=h;obtain ⟨q,r,c,a,k,l⟩:=g;rw [Int.natAbs_natCast] at a;obtain ⟨bo,lb,s,rfl,m,t,u,z,n,o⟩:=aF a;have p:=c.c1;have d:((lb:Int)==0)=false:=zB O;clear c a k l m n o f i j;go_enter Tryz.func80,Tryz.ntmps80
 go_wp2;go_ret;exact ⟨rfl,rfl⟩
def bK.keep0 {x:Int} {y:Nat} (h:bK w b x y L) (hg:w.grownBy w' none):bK w' b x y L :=
 ⟨h.1.keep0 hg,h.2.1.keep0 hg,h.2.2⟩
def bK.mono {L':Nat} {x:Int} {y:Nat} (h:bK w b x y L) (a:L<=L'):bK w b x y L':=⟨h.1.mono a,h.2.1.mono a,h.2.2⟩
def ln {r:Option Nat} (h:w.grownBy w1 r):w.grownBy w1.drew r:=⟨h.os,h.tape,h.output,h.size,h.block⟩
def kU (w wr:World) (xs ys:List Nat) (k c:Nat):Prop :=
 ∃ done:List Nat,done.length=k/\Sm done/\bZ wr w.heap.size (done++List.replicate (xs.length-k) 0)/\w.grownBy wr none/\ai done+ai (ys.take k)=ai (xs.take k)+4294967296^k*c
def kU.step {wr:World} {xs ys:List Nat} {k c:Nat} (h:kU w wr xs ys k c) (e:k<xs.length) (x y r a:Nat) (f:x=xs[k]) (hy:y=ys.getD k 0) (g:r<4294967296) (i:r+(c+y)=x+4294967296*a) (z:Int) (j:z=(r:Int)) :
  kU w (wr.setCell ⟨w.heap.size,k,none⟩ (.int .u32 z)) xs ys (k+1) a:=by
 obtain ⟨done,d,l,m,n,o⟩:=h;refine ⟨done++[r],by simp [d],l.append (Sm.cons g Sm.nil),?_,ah n _ _ zL,?_⟩
 ·have:=m.set k r;rw [dM done k _ _ d O] at this;rw [j,show xs.length-(k+1)=xs.length-k-1 from O];exact this
 ·rw [aR,d,cQ ys k,au xs k e,<- f,<- hy,Nat.pow_succ];exact jm _ _ _ _ y x r (c+y) c a o rfl i
def rE (x c y:Nat) (a:x<4294967296) (hc:c<=1) (hy:y<4294967296) :
  ∃ d1 d2 r c':Nat,IntKind.u64.wrap ((x:Int)-(c:Int))=(d1:Int)/\IntKind.u64.wrap ((d1:Int)-(y:Int))=(d2:Int)/\d1<18446744073709551616/\d2<18446744073709551616/\d2 % 4294967296=r/\d2 / 9223372036854775808=c'/\r<4294967296/\c'<=1/\r+(c+y)=x+4294967296*c':=by
 refine ⟨(((x:Int)-c) % 18446744073709551616).toNat,(((((x:Int)-c) % 18446744073709551616).toNat-(y:Int)) % 18446744073709551616).toNat,_,_,?_,?_,?_,?_,rfl,rfl,?_,?_,?_⟩
 ·rw [IntKind.wrap_u64];omega
 ·rw [IntKind.wrap_u64];omega
 ·omega
 ·omega
 ·omega
 ·omega
 ·omega
def bsub_ws (Q R:Value) (xs ys:List Nat) (w:World) (ha:Ws w Q xs) (hb:Ws w R ys) (hl:xs.length<=10000000000000) (s:ys.length<=xs.length) (o:ai ys<=ai xs) :
  Calls Tryz.prog 201 #[Q,R] w fun e w'=>∃ v',e=.returned v'/\aT w' v' (ai xs-ai ys) xs.length/\w.grownBy w' none/\bC w v':=by
 obtain ⟨ao,ca,rfl,ho,A,V⟩:=ha.open;obtain ⟨bo,cb,rfl,hp,B,W⟩:=hb.open;unfold maxLen at A B;have HA:=ab V;have HB:=ab W;have SA:=ab ha.sm;have SB:=ab hb.sm;have G:=ab o;clear V W ha hb o;go_enter Tryz.func201,Tryz.ntmps201
 go_wp2_with (at_make;refine aE _ rfl _ _ 94 rfl Tryz.underlying94 Tryz.info32 _ _ _ _ xs.length rfl rfl O O O ?_)
 intro w1 l z;have HR:=ab l;have HG:=ab z;clear l z;go_wp2;go_loopw [6,7] (fun cv i wr=>∃ k c:Nat,k<=xs.length/\c<=1/\i=.int .i64 k/\cv=.int .u64 c/\Hid (kU w wr xs ys k c)) (fun _ i _=>xs.length-(intOf i).toNat)
 case atStart=>exact ⟨0,0,Nat.zero_le _,O,rfl,rfl,[],rfl,Sm.nil,by simpa using HR.out,HG,by simp [ai]⟩
 case round =>
  obtain ⟨k,c,hk,C,rfl,rfl,p⟩:=hrel;by_cases hlt:k<xs.length
  ·obtain ⟨b,off,rfl,hq,d⟩:=aG HA k hlt;have H:=(aG SA).get k hlt;obtain ⟨x,ex⟩:=eX (xs[k]);rw [<- ex] at d H;have S:=ab ex;clear ex;have he:wr.cell? ⟨b,off+k,none⟩=some (.int .u32 (x:Nat)):=by
    obtain ⟨done,g,q,h,m,n⟩:=p.out;exact m.cell d Z
   have hf:wr.frozen? ⟨w.heap.size,k,none⟩=false:=by
    obtain ⟨done,g,q,h,m,n⟩:=p.out;exact h.free k
   have t:∃ v,wr.cell? ⟨w.heap.size,k,none⟩=some v:=by
    obtain ⟨done,g,q,h,m,n⟩:=p.out;exact ⟨_,h.cell k (by simp;omega)⟩
   obtain ⟨v0,t⟩:=t;clear d;by_cases f:k<ys.length
   ·obtain ⟨b2,D,rfl,X,a⟩:=aG HB k f;have hy:=(aG SB).get k f;obtain ⟨y,K⟩:=eX (ys[k]);rw [<- K] at a hy;have EY:=ab K;clear K;have hm:wr.cell? ⟨b2,D+k,none⟩=some (.int .u32 (y:Nat)):=by
     obtain ⟨done,g,q,h,m,n⟩:=p.out;exact m.cell a Z
    clear a;obtain ⟨Y,d2,r,E,e1,M,e3,e4,e5,e6,N,P,F⟩:=rE x c y H C hy;have I:=ab F;clear F;go_wp2;go_roundw
    case rel=>exact ⟨k+1,E,O,P,zN,by first | rfl | go_num | (congr 1;omega),kU.step p hlt x y r E S (by rw [EY];simp [f]) N I _ O⟩
    case measure=>exact bH
   ·obtain ⟨Y,d2,r,E,e1,M,e3,e4,e5,e6,N,P,F⟩:=rE x c 0 H C zD;have I:=ab F;have u:d2=Y:=by rw [IntKind.wrap_u64] at M;omega
    subst u;clear F M;go_wp2;go_roundw
    case rel=>exact ⟨k+1,E,O,P,zN,by first | rfl | go_num | (congr 1;omega),kU.step p hlt x 0 r E S (by simp [List.getD,f]) N I _ O⟩
    case measure=>exact bH
  ·obtain rfl:k=xs.length:=O
   obtain ⟨done,g,q,h,m,n⟩:=p.out;rw [Nat.sub_self,List.replicate_zero,List.append_nil] at h;have T:ai done=ai xs-ai ys:=by
    rw [zT zL,zT s] at n;have hd:=bD q;rw [g] at hd;have o:=G.out;have:c=0:=by
     rcases zP c with h0 | h0
     ·exact h0
     ·have e:c=1:=O
      rw [e,Nat.mul_one] at n;omega
    rw [this,Nat.mul_zero] at n;omega
   have J:=h.ws q (by rw [g];unfold maxLen;omega);rw [g] at J;have HW:=ab J;have HV:=ab T;have H1:=ab g;have H4:=ab m;clear J T g q h m n;go_wp2_with fail;refine (eD _ done _ HW).mono ?_;rintro e w2 ⟨v',rfl,rfl,k1,k2⟩;go_wp2;go_ret;refine ⟨v',rfl,?_,H4,?_⟩
   ·rw [HV,H1] at k1;exact k1
   ·intro j U;rw [k2] at U;simp [ar] at U;omega
def uI (a c:Value) (m n L M:Nat) (w:World) (ha:aT w a m L) (hb:aT w c n M) (i:n<=m) (q:L<=10000000000000) :
  Calls Tryz.prog 201 #[a,c] w fun e w'=>∃ v',e=.returned v'/\aT w' v' (m-n) L/\w.grownBy w' none/\bC w v':=by
 obtain ⟨xs,d,r,j,s⟩:=ha;obtain ⟨ys,f,k,l,t⟩:=hb;have h:=ma f.sm k d.sm O;refine (bsub_ws a c xs ys w d f O h O).mono ?_;rintro e w' ⟨v',rfl,g,o,p⟩;rw [j,l] at g;exact ⟨v',rfl,g.mono O,o,p⟩
def BSumE (w:World) (z:Int) (L:Nat) (e:Ending) (w':World):Prop:=∃ (neg:Bool) (v:Value) (k:Nat),e=.returned (.tuple #[.bool neg,v])/\aT w' v k L/\sg neg k=z/\w.grownBy w' none/\bC w v
def Am (m n:Nat):(0<=gZ m n)↔n<=m:=by
 unfold gZ;repeat' split
 all_goals omega
def ze (s t:Bool) (o p:Value) (m n L M:Nat) (w:World) (ha:aT w o m L) (hb:aT w p n M) (H:L<=9000000000000) (I:M<=9000000000000) :
  Calls Tryz.prog 169 #[.bool s,o,.bool t,p] w fun e w'=>BSumE w (sg s m+sg t n) (max L M+1) e w':=by
 have A:=ab ha;have B:=ab hb;clear ha hb;by_cases a:s=t
 ·subst a;have C:(s==s)=true:=Z
  go_enter Tryz.func169,Tryz.ntmps169
  go_wp2_with fail;refine (zd o p m n L M _ A B O O).mono ?_;rintro e w1 ⟨z,rfl,c,d,f⟩;have r:=ab c;have u:=ab d;have x:=ab f;clear c d f;go_wp2;go_ret2
  exact ⟨s,z,m+n,rfl,r,by unfold sg;cases s<;>simp<;>omega,u,x⟩
 ·have C:(s==t)=false:=zB a;have y:=ab a;clear a;go_enter Tryz.func169,Tryz.ntmps169
  go_wp2_with fail;refine (zh o p m n L M _ A B).mono ?_;rintro e w1 ⟨rfl,q,rfl⟩;have g:Hid (w.grownBy (w.drewN q) none):=az q;have i:=ab (A.keep0 g);have j:=ab (B.keep0 g);generalize w.drewN q=w1 at g i j ⊢;by_cases l:n<=m
  ·have D:(0:Int)<=gZ m n:=(Am m n).2 l;have E:decide ((0:Int)<=gZ m n)=true:=decide_eq_true D;go_wp2_with fail;refine (uI o p m n L M _ i j l O).mono ?_;rintro e G ⟨z,rfl,c,d,f⟩;have r:=ab (c.mono (show L<=max L M+1 by omega));have u:=ab d;have x:=ab f;clear c d f;go_wp2;go_ret2
   refine ⟨s,z,m-n,rfl,r,?_,aa g u,fun k F=>Nat.le_trans g.size (x k F)⟩;have:=y.out;unfold sg;cases s<;>cases t<;>simp_all<;>omega
  ·have D:¬ (0:Int)<=gZ m n:=fun h=>l ((Am m n).1 h)
   have E:decide ((0:Int)<=gZ m n)=false:=decide_eq_false D;go_wp2_with fail;refine (uI p o n m M L _ j i O O).mono ?_;rintro e G ⟨z,rfl,c,d,f⟩;have r:=ab (c.mono (show M<=max L M+1 by omega));have u:=ab d;have x:=ab f;clear c d f;go_wp2;go_ret2
   refine ⟨t,z,n-m,rfl,r,?_,aa g u,fun k F=>Nat.le_trans g.size (x k F)⟩;have:=y.out;unfold sg;cases s<;>cases t<;>simp_all<;>omega
def sg_notB (y:Int) (neg:Bool) (h:neg=decide (y<0)):sg (!neg) y.natAbs = -y:=by
 subst h;unfold sg;by_cases e:y<0<;>simp [e]<;>omega
def Bt (b off bx ox bY oY:Nat) (neg0:Bool) (v0:Value) (x y:Int) (L M:Nat) (w:World) (hB:gO w b off neg0 v0) (hX:ay w bx ox x L) (hY:ay w bY oY y M) (hL:L<=9000000000000) (hM:M<=9000000000000) (hnx:bx≠b) (hny:bY≠b) :
  Calls Tryz.prog 127 #[.pointer (some ⟨b,off,none⟩),.pointer (some ⟨bx,ox,none⟩),.pointer (some ⟨bY,oY,none⟩)] w fun e w'=>e=.returned (.pointer (some ⟨b,off,none⟩))/\gF w w' b off/\ay w' b off (x-y) (max L M+1)/\dX w w' b off:=by
 have HB:=ab hB;have hb:=hB.lt;obtain ⟨neg,v,h1,h2,h3,h4⟩:=hX;obtain ⟨neg',u,h1',h2',h3',h4'⟩:=hY;have HX:=ab h1;have c0:=h1.c0;have c1:=h1.c1;have HY:=ab h1';have d0:=h1'.c0;have d1:=h1'.c1;have H2:=ab h2;have H3:=ab h3;have H2':=ab h2';have H3':=ab h3';clear hB h1 h2 h3 h4 h1' h2' h3' h4';go_enter Tryz.func127,Tryz.ntmps127
 go_wp2;go_region_held3 (fun w'=>w'.cell? ⟨bx,ox,none⟩=some (.bool neg)/\w'.cell? ⟨bx,ox+1,none⟩=some v/\w'.cell? ⟨bY,oY,none⟩=some (.bool neg')/\w'.cell? ⟨bY,oY+1,none⟩=some u) (go_keep)
  (first | (go_at_call 169;refine (ze neg (!neg') _ _ _ _ L M _ (H2.keep0 (az _)) (H2'.keep0 (az _)) hL hM).mono ?_;rintro e w1 ⟨ng,v',kk,rfl,k1,kz,k2,k3⟩;have q0:=(HX.keep0 (aa (az _) k2)).c0;have q0':=(HX.keep0 (aa (az _) k2)).c1;have q1:=(HY.keep0 (aa (az _) k2)).c0;have q1':=(HY.keep0 (aa (az _) k2)).c1) | (go_at_call 115;refine (gI b off neg0 v0 ng v' _ (max L M+1) w1 (HB.keep0 (aa (az _) k2)) k1 (gH (w1:=w) k3 hb)).mono ?_;rintro e w2 ⟨rfl,a1,a2,a5⟩;have r0:=((HX.keep0 (aa (az _) k2)).keep a1 (.inl hnx)).c0;have r1:=((HX.keep0 (aa (az _) k2)).keep a1 (.inl hnx)).c1;have r2:=((HY.keep0 (aa (az _) k2)).keep a1 (.inl hny)).c0;have r3:=((HY.keep0 (aa (az _) k2)).keep a1 (.inl hny)).c1))
 all_goals go_wp2
 all_goals go_ret
 all_goals rw [kz,oA x neg H3,sg_notB y neg' H3',<- Int.sub_eq_add_neg] at a2
 all_goals exact ⟨rfl,(gF.of_gr (aa (az _) k2) b off hb).trans a1,a2,dX.of a5 k3 zL⟩
def Bs (b off g n h o:Nat) (f:Bool) (v0:Value) (x y:Int) (L M:Nat) (w:World) (s:gO w b off f v0) (F:ay w g n x L) (G:ay w h o y M) (H:L<=9000000000000) (I:M<=9000000000000) (i:g≠b) (j:h≠b) :
  Calls Tryz.prog 125 #[.pointer (some ⟨b,off,none⟩),.pointer (some ⟨g,n,none⟩),.pointer (some ⟨h,o,none⟩)] w fun e w'=>e=.returned (.pointer (some ⟨b,off,none⟩))/\gF w w' b off/\ay w' b off (x+y) (max L M+1)/\dX w w' b off:=by
 have J:=ab s;have hb:=s.lt;obtain ⟨neg,v,r,B,C,R⟩:=F;obtain ⟨a,u,d,k,l,A⟩:=G;have p:=ab r;have c0:=r.c0;have c1:=r.c1;have q:=ab d;have X:=d.c0;have Y:=d.c1;have K:=ab B;have N:=ab C;have t:=ab k;have z:=ab l;clear s r B C R d k l A;go_enter Tryz.func125,Tryz.ntmps125
 go_wp2;go_region_held3 (fun w'=>w'.cell? ⟨g,n,none⟩=some (.bool neg)/\w'.cell? ⟨g,n+1,none⟩=some v/\w'.cell? ⟨h,o,none⟩=some (.bool a)/\w'.cell? ⟨h,o+1,none⟩=some u) (go_keep)
  (first | (go_at_call 169;refine (ze neg a _ _ _ _ L M _ (K.keep0 (az _)) (t.keep0 (az _)) H I).mono ?_;rintro e w1 ⟨S,T,kk,rfl,U,V,c,D⟩;have q0:=(p.keep0 (aa (az _) c)).c0;have P:=(p.keep0 (aa (az _) c)).c1;have q1:=(q.keep0 (aa (az _) c)).c0;have Q:=(q.keep0 (aa (az _) c)).c1) | (go_at_call 115;refine (gI b off f v0 S T _ (max L M+1) w1 (J.keep0 (aa (az _) c)) U (gH (w1:=w) D hb)).mono ?_;rintro e w2 ⟨rfl,m,E,W⟩;have r0:=((p.keep0 (aa (az _) c)).keep m (.inl i)).c0;have r1:=((p.keep0 (aa (az _) c)).keep m (.inl i)).c1;have r2:=((q.keep0 (aa (az _) c)).keep m (.inl j)).c0;have r3:=((q.keep0 (aa (az _) c)).keep m (.inl j)).c1))
 all_goals go_wp2
 all_goals go_ret
 all_goals rw [V,oA x neg N,oA y a z] at E
 all_goals exact ⟨rfl,(gF.of_gr (aa (az _) c) b off hb).trans m,E,dX.of W D zL⟩
end Go.Proofs.YtbomdfhdocaagaaGreatDoor
