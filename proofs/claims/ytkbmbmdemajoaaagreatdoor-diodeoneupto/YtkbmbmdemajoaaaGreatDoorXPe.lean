/- Contracts. -/
import Derived.Test.YtkbmbmdemajoaaaGreatDoorXPd
namespace Go.Proofs.YtkbmbmdemajoaaaGreatDoor
open Go.RowKit
set_option linter.unusedVariables false
set_option linter.unusedSimpArgs false
set_option maxHeartbeats 8000000
set_option maxRecDepth 10000
variable {w w' W:World} {v:Value} {n L:Nat} {xs ys:List Nat}
theorem yX (a:Sm xs) (b:Tr xs):(xs==[1])=decide (ai xs=1):=by
 rw [Bool.eq_iff_iff];simp only [beq_iff_eq,decide_eq_true_eq];constructor
 ·intro e;rw [e];simp [ai]
 ·intro e;refine zO a (Sm.cons zD Sm.nil) b (by simp [Tr,aN]) ?_;rw [e];simp [ai]
theorem rh (v:Value) (L:Nat) (w:World) (h:aQ w v 1 L):Calls Tryz.prog 153 #[v] w fun e w'=>e=.returned (.bool true)/\w'=w:=by
 obtain ⟨xs,a,b,c,d⟩:=h;refine (qY v xs w a).mono ?_;rintro e w' ⟨rfl,rfl⟩;rw [yX a.sm b,c];exact ⟨rfl,rfl⟩
theorem uw (v:Value) (n L:Nat) (w:World) (h:aQ w v n L) (hn:n≠1):Calls Tryz.prog 153 #[v] w fun e w'=>e=.returned (.bool false)/\w'=w:=by
 obtain ⟨xs,a,b,c,d⟩:=h;refine (qY v xs w a).mono ?_;rintro e w' ⟨rfl,rfl⟩;rw [yX a.sm b,c];exact ⟨by simp [hn],rfl⟩
def FV (w:World) (v:Value) (neg:Bool) (n d L:Nat):Prop :=
 ∃ up down,v=.agg #[.bool neg,up,down]/\aQ w up n L/\((down=.slice none 0 0/\d=1)∨(aQ w down d L/\1<d))/\Nat.gcd n d=1/\(neg=true->0<n)
theorem FV.keep0 {neg:Bool} {d:Nat} (h:FV w v neg n d L) (hg:w.grownBy w' none):FV w' v neg n d L:=by
 obtain ⟨up,a,e,c,b,f,g⟩:=h;refine ⟨up,a,e,c.keep0 hg,?_,f,g⟩;rcases b with b | ⟨b,i⟩
 ·exact .inl b
 ·exact .inr ⟨b.keep0 hg,i⟩
def gw (w:World) (neg:Bool) (n d L:Nat) (e:Ending) (w':World):Prop:=∃ v,e=.returned v/\FV w' v neg n d L/\w.grownBy w' none
theorem uK (c:Bool) (u d:Value) (n m L:Nat) (w:World) (i:aQ w u n L) (hd:aQ w d m L) (j:n=0∨m=0) :
  Calls Tryz.prog 99 #[.bool c,u,d] w fun e w'=>gw w false 0 1 L e w':=by
 obtain ⟨r,g,s,rfl,u1,u2,u3⟩:=i.shape;obtain ⟨p,l,t,rfl,o,x,q⟩:=hd.shape;unfold maxLen at u3 q;have k:g=0∨l=0:=by
  rcases j with h | h
  ·exact .inl (u1.2 h)
  ·exact .inr (o.2 h)
 clear u1 o j i hd;have a:gw w false 0 1 L (.returned (.agg #[.bool false,.slice none 0 0,.slice none 0 0])) (w.alloc (Obj.cells #[Value.bool false,Value.slice none 0 0,Value.slice none 0 0] 81)) :=
  ⟨_,rfl,⟨_,_,rfl,⟨[],Ws.nil _,rfl,rfl,Z⟩,.inl ⟨rfl,rfl⟩,rfl,Z⟩,ag (ae _ _) _⟩
 have b:=ab a;clear a;by_cases f:g=0
 ·subst f;clear k;go_enter Tryz.func99,Tryz.ntmps99
  go_wp2;exact bodyPost_ret (v:=.agg #[.bool false,.slice none 0 0,.slice none 0 0]) (by simp [results,Tryz.results99,go_sem]) rfl b
 ·obtain rfl:l=0:=O
  have hb:(((g:Nat):Int)==0)=false:=zB O;clear k f;go_enter Tryz.func99,Tryz.ntmps99
  go_wp2;exact bodyPost_ret (v:=.agg #[.bool false,.slice none 0 0,.slice none 0 0]) (by simp [results,Tryz.results99,go_sem]) rfl b
def bP (w:World) (g:Nat):Prop:=∀ i (x:Nat),w.cell? ⟨g,i,none⟩≠some (.int .u32 (x:Nat))
theorem bC {b:Bool} (h:(w.alloc (Obj.cells #[.bool b,.slice none 0 0,.slice none 0 0] 81)).grownBy W none):bP W w.heap.size:=by
 have e:W.heap[w.heap.size]? = some (Obj.cells #[.bool b,.slice none 0 0,.slice none 0 0] 81 (0,0)):=by
  rw [h.block w.heap.size Z Z];exact heap_alloc_new w _
 intro i x;match i with
 | 0=>simp [World.cell?,e]
 | 1=>simp [World.cell?,e]
 | 2=>simp [World.cell?,e]
 | i+3=>simp [World.cell?,e]
theorem aQ.other {g:Nat} (h:aQ w v n L) (hg:bP w g) (c:w.grownBy w' (some g)):aQ w' v n L:=by
 obtain ⟨xs,d,j,l,m⟩:=h;refine ⟨xs,?_,j,l,m⟩;by_cases q:xs.length=0
 ·refine ⟨d.sm,?_⟩;rcases d.sh with h | ⟨b,off,cap,rfl,hb,o,p,hc⟩
  ·exact .inl h
  ·exact .inr ⟨b,off,cap,rfl,Nat.lt_of_lt_of_le hb c.size,o,p,fun i hi=>O⟩
 ·refine d.keep c ?_;intro k e f;cases e
  obtain ⟨r,cap,rfl,_,_,hc⟩:=d.open;obtain ⟨b,off,rfl,_,a⟩:=hc 0 O;simp [ar] at f;subst f;exact hg _ _ a
theorem aT {b:Value} {u:Value} (h:(w.alloc (Obj.cells #[b,u,v] 81)).grownBy W none) :
  W.cell? ⟨w.heap.size,0,none⟩=some b/\W.cell? ⟨w.heap.size,1,none⟩=some u/\W.cell? ⟨w.heap.size,2,none⟩=some v/\(∀ i,W.frozen? ⟨w.heap.size,i,none⟩=false):=by
 have e:W.heap[w.heap.size]? = some (Obj.cells #[b,u,v] 81 (0,0)):=by
  rw [h.block w.heap.size Z Z];exact heap_alloc_new w _
 refine ⟨?_,?_,?_,fun i=>?_⟩<;>simp [World.cell?,World.frozen?,e]
theorem rx {m:Nat} (h:n % m=0) (a:0<m):n / Nat.gcd n m=n / m/\m / Nat.gcd n m=1:=by
 rw [Nat.gcd_eq_right (Nat.dvd_of_mod_eq_zero h)];exact ⟨rfl,Nat.div_self a⟩
theorem Dd {m:Nat} (h:n % m≠0) (b:0<m):1<m / Nat.gcd n m:=by
 have hd:Nat.gcd n m∣m:=Nat.gcd_dvd_right n m;have d:0<Nat.gcd n m:=Nat.gcd_pos_of_pos_right _ b;have g:0<m / Nat.gcd n m:=Nat.div_pos (Nat.gcd_le_right _ b) d;rcases Nat.lt_or_ge 1 (m / Nat.gcd n m) with c | c
 ·exact c
 ·exfalso
  have e:m / Nat.gcd n m=1:=O
  have f:m=Nat.gcd n m:=by
   have:=Nat.div_mul_cancel hd;rw [e,Nat.one_mul] at this;exact this.symm
  have a:m∣n:=by rw [f];exact Nat.gcd_dvd_left n m
  exact h (Nat.mod_eq_zero_of_dvd a)
def OverE (w:World) (n L:Nat) (e:Ending) (w':World):Prop:=∃ v,e=.returned v/\aQ w' v n L/\w.grownBy w' none
theorem fO (x y:Value) (n G L:Nat) (w:World) (c:aQ w x n L) (hy:aQ w y G L) (j:0<G) (z:L<=8000000000000) :
  Calls Tryz.prog 104 #[x,y] w fun e w'=>OverE w (n / G) L e w':=by
 obtain ⟨B,C,D,rfl,u1,u2,u3⟩:=c.shape;obtain ⟨o,E,F,rfl,p,H,I⟩:=hy.shape;have g:=ab c;have d:=ab hy;clear c hy u1 p;by_cases b:G=1
 ·have a:=ab b;clear b;go_enter Tryz.func104,Tryz.ntmps104
  go_wp2_with fail;refine (rh _ L _ (by have:=d.out;rw [a] at this;exact this)).mono ?_;rintro e s ⟨rfl,rfl⟩;go_wp2;go_ret;exact ⟨_,rfl,by rw [a,Nat.div_one];exact g,ae _ _⟩
 ·have a:=ab b;clear b;go_enter Tryz.func104,Tryz.ntmps104
  go_wp2_with fail;refine (uw _ G L _ d a).mono ?_;rintro e s ⟨rfl,rfl⟩;go_wp2_with fail;refine (jn _ _ n G L L _ g d j O).mono ?_;intro e A m;obtain ⟨q,r,rfl,f,h,i,t,u⟩:=m;obtain ⟨J,ql,K,rfl,_,_,_⟩:=f.shape;obtain ⟨M,N,rc,rfl,_,_,_⟩:=h.shape;have k:=ab f;have l:=ab i;clear f h i t u;go_wp2;go_ret;exact ⟨_,rfl,k,l⟩
theorem bH {g:Nat} {a b c:Value} : w.grownBy (((w.setCell ⟨g,0,none⟩ a).setCell ⟨g,1,none⟩ b).setCell ⟨g,2,none⟩ c) (some g) :=
 jw (jw (jw (ae _ _) g 0 _ rfl) g 1 _ rfl) g 2 _ rfl
theorem pD {g d:Nat} {a:Bool} {u:Value} (hg:g=w.heap.size) (c:w.grownBy W none) (e:aQ W u n L) (f:(v=.slice none 0 0/\d=1)∨(aQ W v d L/\1<d)) (b:bP W g) (hc:Nat.gcd n d=1) (hn:0<n) :
  gw w a n d L (.returned (.agg #[.bool a,u,v])) (((W.setCell ⟨g,0,none⟩ (.bool a)).setCell ⟨g,1,none⟩ u).setCell ⟨g,2,none⟩ v):=by
 refine ⟨_,rfl,⟨u,v,rfl,e.other b bH,?_,hc,fun _=>hn⟩,?_⟩
 ·rcases f with h | ⟨h,i⟩
  ·exact .inl h
  ·exact .inr ⟨h.other b bH,i⟩
 ·subst hg;exact ah (ah (ah c _ _ zL) _ _ zL) _ _ zL
theorem xC (a:Bool) (u d:Value) (n m L:Nat) (w:World) (E:aQ w u n L) (hd:aQ w d m L) (hn:0<n) (x:0<m) (hl:L<=8000000000000) :
  Calls Tryz.prog 99 #[.bool a,u,d] w fun e w'=>gw w a (n / Nat.gcd n m) (m / Nat.gcd n m) L e w':=by
 obtain ⟨uo,T,uc,rfl,u1,u2,u3⟩:=E.shape;obtain ⟨hw,U,dc,rfl,d1,d2,d3⟩:=hd.shape;unfold maxLen at u3 d3;have hq:0<T:=by
  rcases zP T with h | h
  ·have:=u1.1 h;omega
  ·exact h
 have hr:0<U:=by
  rcases zP U with h | h
  ·have:=d1.1 h;omega
  ·exact h
 have hs:(((T:Nat):Int)==0)=false:=zB O;have hv:(((U:Nat):Int)==0)=false:=zB O;have HU:=ab E;have F:=ab hd;have k:Hid (0<n / Nat.gcd n m):=Nat.div_pos (Nat.gcd_le_left _ hn) (Nat.gcd_pos_of_pos_left _ hn);have c:Hid (Nat.gcd (n / Nat.gcd n m) (m / Nat.gcd n m)=1):=by
  show _=_
  rw [Nat.gcd_div (Nat.gcd_dvd_left n m) (Nat.gcd_dvd_right n m),Nat.div_self (Nat.gcd_pos_of_pos_left _ hn)]
 obtain ⟨A,V⟩:=eX (n / Nat.gcd n m);obtain ⟨B,X⟩:=eX (m / Nat.gcd n m);rw [<- V] at k c ⊢;rw [<- X] at c ⊢;have EA:=ab V;have H:=ab X;clear E hd u1 d1 V X;go_enter Tryz.func99,Tryz.ntmps99
 go_wp2_with fail;have g1:w.grownBy (w.alloc (Obj.cells #[Value.bool false,Value.slice none 0 0,Value.slice none 0 0] 81)) none:=ag (ae w none) _;have I:=ab g1;clear g1;refine (jn _ _ n m L L _ (HU.keep0 I) (F.keep0 I) x O).mono ?_;intro e w3 hD;obtain ⟨q,r,rfl,b,l,j,k4,k5⟩:=hD;obtain ⟨qo,ql,qc,rfl,_,_,_⟩:=b.shape;obtain ⟨ro,Y,rc,rfl,r1,r2,r3⟩:=l.shape;unfold maxLen at r3;have N1:=ab b;have N2:=ab l;have y:=ab j;have J:=ab (aa I y);clear b l j k4 k5;by_cases z:Y=0
 ·have f:Hid (n % m=0):=r1.1 z;have bb:(((Y:Nat):Int)==0)=true:=beq_iff_eq.2 O;clear z r1;obtain ⟨c0,c1,c2,i⟩:=aT y;have K:=i 0;have M:=i 1;have N:=i 2;clear i;go_wp2;refine bodyPost_ret (v:=.agg #[.bool a,.slice qo ql qc,.slice none 0 0]) (by simp [results,Tryz.results99,go_sem,c0,c1,c2]) rfl ?_;refine pD rfl J ?_ (.inl ⟨rfl,?_⟩) (bC y) c k
  ·rw [EA,(rx f x).1];exact N1
  ·rw [H,(rx f x).2]
 ·have f:Hid (n % m≠0):=fun e=>z (r1.2 e)
  have bb:(((Y:Nat):Int)==0)=false:=zB O;have P:Hid (1<B):=by show 1<B;rw [H];exact Dd f x
  clear z r1;obtain ⟨s,x1,x2,x3,x4⟩:=F.out.keep0 J;obtain ⟨t,y1,y2,y3,y4⟩:=N2.out;obtain ⟨G,D⟩:=eX (Nat.gcd n m);have o:Nat.gcd (ai s) (ai t)=G:=by rw [x3,y3,D,Nat.gcd_comm,<- Nat.gcd_rec,Nat.gcd_comm]
  have p:0<G:=by rw [D];exact Nat.gcd_pos_of_pos_left _ hn
  have CD:=ab (iT _ _ s t _ x1 y1 x2 y2 O L x4 y4 O);rw [o] at CD;have HG:=ab D;clear x1 x2 x3 x4 y1 y2 y3 y4 o D;go_wp2_with fail;refine CD.mono ?_;rintro e w4 ⟨g,rfl,b,l⟩;obtain ⟨go,gl,gc,rfl,_,_,_⟩:=b.shape;have K1:=ab b;have K2:=ab l;have Q:=ab (aa J K2);have R:=ab (aa y K2);clear b l;go_wp2_with fail;refine (fO _ _ n G L _ (HU.keep0 Q) K1 p O).mono ?_;rintro e w6 ⟨q1,rfl,b,j⟩;obtain ⟨he,hf,hj,rfl,_,_,_⟩:=b.shape;have M1:=ab b;have C:=ab j;clear b j;go_wp2_with fail;refine (fO _ _ m G L _ (F.keep0 (aa Q C)) (K1.keep0 C) p O).mono ?_;rintro e w7 ⟨q2,rfl,b,j⟩;obtain ⟨hk,ho,hp,rfl,_,_,_⟩:=b.shape;have P1:=ab b;have S:=ab j;clear b j;have K7:=ab (aa R (aa C S));have G7:=ab (aa Q (aa C S));obtain ⟨c0,c1,c2,i⟩:=aT K7;have K:=i 0;have M:=i 1;have N:=i 2;clear i;go_wp2;refine bodyPost_ret (v:=.agg #[.bool a,.slice he hf hj,.slice hk ho hp]) (by simp [results,Tryz.results99,go_sem,c0,c1,c2]) rfl ?_;refine pD rfl G7 ?_ (.inr ⟨?_,P⟩) (bC K7) c k
  ·rw [EA,<- HG];exact M1.keep0 S
  ·rw [H,<- HG];exact P1
def mM (c:UInt8):Bool:=48<=c.toNat && c.toNat<=57
def nP (l:List UInt8):Nat:=(l.takeWhile mM).length
theorem runD_le (l:List UInt8):nP l<=l.length:=by
 unfold nP;have:=(List.takeWhile_prefix mM (l:=l)).length_le;exact this
theorem kE (c:UInt8) (l:List UInt8):nP (c :: l)=if mM c then nP l+1 else 0:=by
 unfold nP;rw [List.takeWhile_cons];split<;>simp
theorem Ar (s:ByteArray) (k:Nat) (h:k<s.size):s.data.toList.drop k=s[k] :: s.data.toList.drop (k+1):=by
 rw [List.drop_eq_getElem_cons (by simpa using h)];rfl
def EndR (s:ByteArray) (E:Nat) (v:Value):Prop:=∃ k:Nat,k<=s.size/\v=.int .i64 k/\Hid (k+nP (s.data.toList.drop k)=E)
theorem sE (s:ByteArray) (k0:Nat) (w:World) (l:s.size<=10000000000000) (d:k0<=s.size) :
  Calls Tryz.prog 145 #[.string s,.int .i64 (k0:Nat)] w fun e w'=>e=.returned (.int .i64 ((k0+nP (s.data.toList.drop k0):Nat):Int))/\w'=w:=by
 obtain ⟨E,g⟩:∃ E,k0+nP (s.data.toList.drop k0)=E:=⟨_,rfl⟩;rw [g];have j:=ab g;clear g;go_enter Tryz.func145,Tryz.ntmps145
 go_wp2;go_loop [1] (fun v=>EndR s E v) (fun v=>s.size-(intOf v).toNat)
 case atStart=>exact ⟨k0,d,rfl,j⟩
 case round =>
  obtain ⟨k,m,rfl,c⟩:=hrel;by_cases hlt:k<s.size
  ·have hd:=Ar s k hlt;have a:=ab hd;clear hd;by_cases h:48<=s[k].toNat
   ·by_cases i:s[k].toNat<=57
    ·have b:(48:Int)<=(s[k].toNat:Int):=O
     have f:(s[k].toNat:Int)<=57:=O
     go_wp2;go_round
     case rel =>
      refine ⟨k+1,O,zN,?_⟩;have:=c.out;rw [a,kE,if_pos (by simp [mM,h,i])] at this;show _=_
      omega
     case measure=>simp [intOf];omega
    ·have b:(48:Int)<=(s[k].toNat:Int):=O
     have f:¬ (s[k].toNat:Int)<=57:=O
     go_wp2;go_ret;refine ⟨?_,rfl⟩;have:=c.out;rw [a,kE,if_neg (by simp [mM,i])] at this;rw [<- this];rfl
   ·have b:¬ (48:Int)<=(s[k].toNat:Int):=O
    go_wp2;go_ret;refine ⟨?_,rfl⟩;have:=c.out;rw [a,kE,if_neg (by simp [mM,h])] at this;rw [<- this];rfl
  ·obtain rfl:k=s.size:=O
   go_wp2;go_ret;refine ⟨?_,rfl⟩;have:=c.out;rw [List.drop_of_length_le Z] at this;rw [<- this];rfl
def cr (l:List UInt8):Bool:=!l.isEmpty && l.all mM
theorem Ej (l:List UInt8):(nP l=l.length)↔l.all mM=true:=by
 induction l with
 | nil=>simp [nP]
 | cons c r ih =>
  rw [kE];by_cases h:mM c
  ·simp [h,ih]
  ·simp [h]
theorem cl (s:ByteArray) (w:World) (m:s.size<=10000000000000) :
  Calls Tryz.prog 98 #[.string s] w fun e w'=>e=.returned (.bool (cr s.data.toList))/\w'=w:=by
 by_cases h:s.size=0
 ·have e:s=⟨#[]⟩:=by
   cases s with
   | mk d=>cases d with
    | mk l =>
     cases l with
     | nil=>rfl
     | cons a b=>simp [ByteArray.size] at h
  subst e;go_enter Tryz.func98,Tryz.ntmps98
  go_wp2;go_ret;exact ⟨rfl,rfl⟩
 ·have c:¬ s.toList=[]:=by
   intro e;apply h;rw [ByteArray.toList_eq] at e;rw [Lib.size_eq,e];rfl
  have f:Hid (cr s.data.toList=decide (nP s.data.toList=s.size)):=by
   show _=_
   rw [Bool.eq_iff_iff,decide_eq_true_eq];have:=Ej s.data.toList;rw [Array.length_toList] at this;rw [show s.size=s.data.size from rfl,this];unfold cr;have i:s.data.toList.isEmpty=false:=by
    cases hl:s.data.toList with
    | nil =>
     exfalso
     apply h;show s.data.size=0
     rw [<- Array.length_toList,hl];rfl
    | cons a b=>rfl
   simp [i]
  have g:=runD_le s.data.toList;rw [Array.length_toList,show s.data.size=s.size from rfl] at g;go_enter Tryz.func98,Tryz.ntmps98
  go_wp2_with fail;refine (sE s 0 _ m (Nat.zero_le _)).mono ?_;rintro e w1 ⟨rfl,rfl⟩;rw [Nat.zero_add,List.drop_zero];have j:=f.out;generalize nP s.data.toList=r at g j ⊢;have o:=ab j;have k:=ab c;clear j f c;go_wp2;go_ret;refine ⟨?_,rfl⟩;rw [o];show Ending.returned (.bool (!s.toList.isEmpty && ((r:Int)==(s.size:Int))))=_
  have i:s.toList.isEmpty=false:=by
   cases hl:s.toList with
   | nil=>exact absurd hl k
   | cons a b=>rfl
  rw [i];congr 2
  rw [Bool.eq_iff_iff];simp;omega
def aZ (l:List UInt8):Nat:=l.foldl (fun a c=>a*10+(c.toNat-48)) 0
theorem Ch (l:List UInt8) (a:Nat):l.foldl (fun a (c:UInt8)=>a*10+(c.toNat-48)) a=a*10^l.length+aZ l:=by
 unfold aZ;induction l generalizing a with
 | nil=>simp
 | cons c r ih =>
  rw [List.foldl_cons,ih,List.foldl_cons,ih (0*10+(c.toNat-48))];simp only [List.length_cons,Nat.pow_succ,Nat.zero_mul,Nat.zero_add,Nat.add_mul];rw [Nat.mul_assoc,Nat.mul_comm 10];omega
theorem lj (l r:List UInt8):aZ (l++r)=aZ l*10^r.length+aZ r:=by
 have:aZ (l++r)=r.foldl (fun a (c:UInt8)=>a*10+(c.toNat-48)) (aZ l):=by simp [aZ,List.foldl_append]
 rw [this,Ch]
theorem oX (l:List UInt8) (c:UInt8):aZ (l++[c])=aZ l*10+(c.toNat-48):=by simp [aZ]
theorem sC (l:List UInt8) (h:∀ c∈l,mM c=true):aZ l<10^l.length:=by
 have d:∀ (n:Nat) (l:List UInt8),l.length=n->(∀ c∈l,mM c=true)->aZ l<10^l.length:=by
  intro n;induction n with
  | zero=>intro l b _;have:l=[]:=List.eq_nil_of_length_eq_zero b;subst this;simp [aZ]
  | succ n ih =>
   intro l b h;have a:l≠[]:=by intro e;subst e;simp at b
   obtain ⟨F,p,rfl⟩:∃ F p,l=F++[p]:=⟨l.dropLast,l.getLast a,(List.dropLast_concat_getLast a).symm⟩;have g:=ih F (by simpa using b) (fun c hc=>h c (by simp [hc]));have f:=h p Z;unfold mM at f;rw [Bool.and_eq_true,decide_eq_true_eq,decide_eq_true_eq] at f;rw [oX,List.length_append,List.length_singleton,Nat.pow_succ];omega
 exact d l.length l rfl h
theorem rX (s:ByteArray) (k:Nat) (h:k<s.size):s.data.toList.take (k+1)=s.data.toList.take k++[s[k]]:=by
 rw [List.take_succ_eq_append_getElem (by simpa using h)];rfl
theorem kv (r:ByteArray) (i:Nat) (h:i<=r.size):(r.extract i r.size).data.toList=r.data.toList.drop i/\(r.extract i r.size).size=r.size-i:=by
 have e:(r.extract i r.size).data.toList=r.data.toList.drop i:=by
  rw [ByteArray.data_extract,Array.toList_extract];show List.take (r.data.size-i) _=_
  rw [zT Z]
 refine ⟨e,?_⟩;rw [Lib.size_eq,e,List.length_drop,Lib.size_eq]
theorem Bd (X D c i n:Nat) (l:List UInt8) (b:l.length=n) (hi:i<=n) (hc:c=aZ (l.take i)) (h:X*10^n+aZ l=D) (a:X=0∨i=9):(X*1000000000+c)*10^(n-i)+aZ (l.drop i)=D:=by
 have e:=lj (l.take i) (l.drop i);rw [List.take_append_drop,List.length_drop,b,<- hc] at e;rw [<- h,e,Nat.add_mul,<- Nat.add_assoc];congr 2
 rcases a with a | a
 ·rw [a];simp
 ·rw [Nat.mul_assoc];congr 1
  rw [show (1000000000:Nat)=10^9 from rfl,<- Nat.pow_add];congr 1
  omega
def ReadR (w:World) (D N:Nat) (dv ov:Value) (wr:World):Prop :=
 ∃ (r:ByteArray) (xs:List Nat),dv=.string r/\gE wr w.heap.size ov xs/\Sm xs/\Tr xs/\w.grownBy wr none/\xs.length+r.size<=N/\ai xs*10^r.size+aZ r.data.toList=D/\(∀ c∈r.data.toList,mM c=true)/\(ai xs=0∨r.size % 9=0)
def sizeOfS:Value->Nat
 | .string s=>s.size
 | _=>0
def ChunkR (r:ByteArray) (cv iv:Value) (k:Nat):Prop:=∃ i c:Nat,i<=k/\iv=.int .i64 i/\cv=.int .u32 c/\Hid (c=aZ (r.data.toList.take i))
theorem jD (s:ByteArray) (w:World) (hs:s.size<=7000000000000) (hd:∀ c∈s.data.toList,mM c=true) :
  Calls Tryz.prog 100 #[.string s] w fun e w'=>∃ v,e=.returned v/\aQ w' v (aZ s.data.toList) s.size/\w.grownBy w' none/\bn w v:=by
 have HD:=ab hd;clear hd;go_enter Tryz.func100,Tryz.ntmps100
 go_wp2;go_loopw [0,3] (fun N ov wr=>Hid (ReadR w (aZ s.data.toList) s.size N ov wr)) (fun N _ _=>sizeOfS N)
 case atStart=>exact ⟨s,[],rfl,oh _ _,Sm.nil,rfl,ae _ _,Z,by simp [ai],HD,.inl rfl⟩
 case round =>
  obtain ⟨r,xs,rfl,I,S,T,U,h5,h6,V,X⟩:=hrel.out;obtain ⟨ao,cap,ev,hj,hl,_⟩:=I.open;subst ev;have x:=ab I;have P:=ab S;have Q:=ab T;have A:=ab U;have R:=ab h6;have y:=ab V;have H8:=ab X;clear I S T U h6 V X hrel;by_cases hr:0<r.size
  ·obtain ⟨k,hk⟩:=eX ((r.size-1) % 9+1);have he:1<=k:=O
   have hf:k<=9:=O
   have m:k<=r.size:=O
   have j:(((r.size:Int)-1) % 9+1)=(k:Int):=O
   have g:(((r.size:Int)-1).tmod 9+1)=(k:Int):=by rw [Int.tmod_eq_emod_of_nonneg O];exact j
   have HK:=ab hk;clear hk;go_wp2;go_loop [5,16] (fun cv iv=>ChunkR r cv iv k) (fun _ iv=>k-(intOf iv).toNat)
   case atStart=>exact ⟨0,0,O,rfl,rfl,by simp [aZ,Hid]⟩
   case round =>
    obtain ⟨i,c,hi,rfl,rfl,z⟩:=hrel;by_cases hlt:i<k
    ·have o:i<r.size:=O
     have d:mM r[i]=true:=y.out _ (by
      have:r[i]=r.data.toList[i]'(by simpa using o):=rfl;rw [this];exact List.getElem_mem _)
     unfold mM at d;rw [Bool.and_eq_true,decide_eq_true_eq,decide_eq_true_eq] at d;obtain ⟨hm,ho⟩:=d;have B:c<=99999999:=by
      have C:=sC (r.data.toList.take i) (fun c hc=>y c (List.mem_of_mem_take hc));rw [<- z,List.length_take] at C;have D:10^min i r.data.toList.length<=10^8:=Nat.pow_le_pow_right zD O;omega
     have E:=ab (rX r i o);clear j g;go_wp2;go_round
     case rel =>
      refine ⟨i+1,c*10+(r[i].toNat-48),O,zN,zN,?_⟩;show _=_
      rw [E,oX,<- z]
     case measure=>simp [intOf];omega
    ·obtain rfl:i=k:=O
     have B:c<=999999999:=by
      have C:=sC (r.data.toList.take i) (fun c hc=>y c (List.mem_of_mem_take hc));rw [<- z,List.length_take] at C;have D:10^min i r.data.toList.length<=10^9:=Nat.pow_le_pow_right zD O;omega
     clear j g;go_wp2_with fail;refine (CL _ xs 1000000000 c _ w.heap.size x P O O O A.size).mono ?_;rintro e w2 ⟨v',rfl,a⟩;obtain ⟨J,K,Y,rfl⟩:∃ J K Y,v'=.slice J Y K:=by
      obtain ⟨_,M,_⟩:=a;obtain ⟨J,K,e,_⟩:=M.open;exact ⟨_,_,_,e⟩
     have F:=ab a;clear a;obtain ⟨t,u⟩:=kv r i m;have p:=ab t;have f:=ab u;clear t u;go_wp2;refine ⟨?_,?_⟩
     ·obtain ⟨ys,M,o2,o3,o4,o5,o6⟩:=F.out;have hk:=HK.out;refine ⟨r.extract i r.size,ys,rfl,M,o2,o6 Q zD,aw (r2:=ar (.slice ao xs.length cap)) A o5 (fun _ _ e=>e) (fun b hb e=>by have:=(x.fresh b e.symm).1;omega),?_,?_,?_,.inr ?_⟩
      ·rw [f];omega
      ·rw [f,p,o3];refine Bd (ai xs) _ c i r.size r.data.toList (by rw [Lib.size_eq]) m z R ?_;rcases H8.out with h | h
       ·exact .inl h
       ·right;omega
      ·rw [p];intro c hc;exact y c (List.mem_of_mem_drop hc)
      ·rw [f];omega
     ·show (r.extract i r.size).size<r.size
      rw [f];omega
  ·have l:r.size=0:=O
   have q:r.data.toList=[]:=List.eq_nil_of_length_eq_zero (by rw [<- Lib.size_eq];exact l);have G:=ab q;have H:=ab l;clear q l;go_wp2;go_ret;refine ⟨_,rfl,?_,A,x.fr⟩;have h6:=R.out;rw [H,G] at h6;have:ai xs=aZ s.data.toList:=by
    rw [<- h6];simp [aZ]
   rw [<- this];exact x.num P Q _ O
def aY (b:Bool) (n d:Nat):Bool×Nat×Nat:=if n=0∨d=0 then (false,0,1) else (b,n / Nat.gcd n d,d / Nat.gcd n d)
def fD (l:List UInt8):List UInt8:=if (Lib.cut l [47]).2.2 then (Lib.cut l [47]).2.1 else [49]
def iy (l:List UInt8):Bool×Nat×Nat :=
 if cr (Lib.cut (Lib.trimPrefix l [45]) [47]).1 && cr (fD (Lib.trimPrefix l [45])) then
  aY (Lib.hasPrefix l [45]) (aZ (Lib.cut (Lib.trimPrefix l [45]) [47]).1) (aZ (fD (Lib.trimPrefix l [45])))
 else (false,0,1)
theorem j6 (l a:List UInt8):(Lib.cut l a).1.length<=l.length/\(Lib.cut l a).2.1.length<=l.length:=by
 unfold Lib.cut;split
 ·simp only [List.length_take,List.length_drop];omega
 ·simp
theorem iL (l p:List UInt8):(Lib.trimPrefix l p).length<=l.length:=by
 unfold Lib.trimPrefix;split
 ·simp
 ·exact zL
theorem tp (l:List UInt8):(⟨l.toArray⟩:ByteArray).size=l.length:=by simp [ByteArray.size]
theorem dj {l:List UInt8} (h:cr l=true):∀ c∈l,mM c=true:=by
 unfold cr at h;rw [Bool.and_eq_true] at h;exact fun c hc=>List.all_eq_true.1 h.2 c hc
def OfE (w:World) (l:List UInt8) (L:Nat) (e:Ending) (w':World):Prop:=∃ v,e=.returned v/\FV w' v (iy l).1 (iy l).2.1 (iy l).2.2 L/\w.grownBy w' none
theorem mQ (a:Bool) (u d:Value) (n m L:Nat) (w:World) (b:aQ w u n L) (hd:aQ w d m L) (c:L<=8000000000000) :
  Calls Tryz.prog 99 #[.bool a,u,d] w fun e w'=>gw w (aY a n m).1 (aY a n m).2.1 (aY a n m).2.2 L e w':=by
 by_cases h:n=0∨m=0
 ·have e:aY a n m=(false,0,1):=by unfold aY;rw [if_pos h]
  rw [e];exact uK a u d n m L w b hd h
 ·have e:aY a n m=(a,n / Nat.gcd n m,m / Nat.gcd n m):=by unfold aY;rw [if_neg h]
  rw [e];exact xC a u d n m L w b hd O O c
theorem FV.other {neg:Bool} {d g:Nat} (h:FV w v neg n d L) (hg:bP w g) (a:w.grownBy w' (some g)):FV w' v neg n d L:=by
 obtain ⟨up,b,e,f,c,i,j⟩:=h;refine ⟨up,b,e,f.other hg a,?_,i,j⟩;rcases c with c | ⟨c,k⟩
 ·exact .inl c
 ·exact .inr ⟨c.other hg a,k⟩
theorem FV.shape {neg:Bool} {d:Nat} (h:FV w v neg n d L):∃ uo ul uc do_ dl dc,v=.agg #[.bool neg,.slice uo ul uc,.slice do_ dl dc]:=by
 obtain ⟨up,b,e,c,a,f,g⟩:=h;obtain ⟨uo,ul,uc,rfl,_⟩:=c.shape;rcases a with ⟨rfl,_⟩ | ⟨a,_⟩
 ·exact ⟨_,_,_,_,_,_,e⟩
 ·obtain ⟨do_,dl,dc,rfl,_⟩:=a.shape;exact ⟨_,_,_,_,_,_,e⟩
theorem oe {l:List UInt8} (h:iy l=(false,0,1)) (hg:w.grownBy w' none):OfE w l L (.returned (.agg #[.bool false,.slice none 0 0,.slice none 0 0])) w':=by
 refine ⟨_,rfl,?_,hg⟩;rw [h];exact ⟨_,_,rfl,⟨[],Ws.nil _,rfl,rfl,Z⟩,.inl ⟨rfl,rfl⟩,rfl,Z⟩
theorem uQ (s:ByteArray) (m:Int) (w:World) (hs:s.size<=600000000) (S:w.cell? ⟨1,0,none⟩=some (.int .i64 m)) :
  Calls Tryz.prog 59 #[.string s] w fun e w'=>OfE w s.data.toList (s.size+1) e w':=by
 have G:(w.alloc (Obj.cells #[Value.bool false,Value.slice none 0 0,Value.slice none 0 0] 81)).cell? ⟨1,0,none⟩=some (.int .i64 m) :=
  (World.grownBy_alloc w _ none).cell S Z
 have he:=ab G;clear S G;go_enter Tryz.func59,Tryz.ntmps59
 go_wp2_with fail;refine (Tryz.strings_CutPrefix s ⟨#[45]⟩ _).mono ?_;rintro e w1 ⟨rfl,rfl⟩;rw [show (⟨#[45]⟩:ByteArray).data.toList=[45] from rfl];obtain ⟨d,hd⟩:∃ d:ByteArray,d=⟨(Lib.trimPrefix s.data.toList [45]).toArray⟩:=⟨_,rfl⟩;rw [<- hd];have T:Hid (d.data.toList=Lib.trimPrefix s.data.toList [45]):=by rw [hd];rfl
 have hp:d.size<=s.size:=by rw [hd,tp,Lib.size_eq];exact iL _ _
 clear hd;obtain ⟨neg,p⟩:∃ b:Bool,b=Lib.hasPrefix s.data.toList [45]:=⟨_,rfl⟩;rw [<- p];have U:=ab p;clear p;go_wp2_with fail;refine (Tryz.strings_Cut d ⟨#[47]⟩ m _ O he).mono ?_;rintro e w2 ⟨rfl,q2,rfl⟩;rw [show (⟨#[47]⟩:ByteArray).data.toList=[47] from rfl];obtain ⟨up,D⟩:∃ u:ByteArray,u=⟨(Lib.cut d.data.toList [47]).1.toArray⟩:=⟨_,rfl⟩;obtain ⟨dn,E⟩:∃ u:ByteArray,u=⟨(Lib.cut d.data.toList [47]).2.1.toArray⟩:=⟨_,rfl⟩;obtain ⟨M,q⟩:∃ b:Bool,b=(Lib.cut d.data.toList [47]).2.2:=⟨_,rfl⟩;rw [<- D,<- E,<- q];have hf:Hid (up.data.toList=(Lib.cut d.data.toList [47]).1):=by rw [D];rfl
 have V:Hid (dn.data.toList=(Lib.cut d.data.toList [47]).2.1):=by rw [E];rfl
 have hq:up.size<=s.size:=by
  have:=(j6 d.data.toList [47]).1;rw [D,tp];rw [<- Lib.size_eq] at this;omega
 have ho:dn.size<=s.size:=by
  have:=(j6 d.data.toList [47]).2;rw [E,tp];rw [<- Lib.size_eq] at this;omega
 have X:=ab q;clear D E q;have o:Hid (∀ x:ByteArray,x.data.toList=(if M then dn.data.toList else [49])->iy s.data.toList=if cr up.data.toList && cr x.data.toList then aY neg (aZ up.data.toList) (aZ x.data.toList) else (false,0,1)):=by
  intro x hx;have e:fD (Lib.trimPrefix s.data.toList [45])=x.data.toList:=by
   unfold fD;rw [hx,<- T,X,V]
  unfold iy;rw [e,<- T,<- hf,<- U]
 have R:Hid (w.grownBy ((w.alloc (Obj.cells #[Value.bool false,Value.slice none 0 0,Value.slice none 0 0] 81)).drewN q2) none):=aj (ag (ae _ _) _) _;by_cases H:M=true
 ·subst H;have k:=ab (o dn Z);have I:dn.size<=s.size+1:=O
  by_cases ha:cr up.data.toList=true
  ·have h:=ab ha;clear ha;by_cases hb:cr (dn).data.toList=true
   ·have l:=ab hb;clear hb;go_wp2_with (first
     | (go_at_call_of 98 (Value.string up);refine (cl up _ O).mono ?_;rintro e r ⟨rfl,rfl⟩;rw [h])
     | (go_at_call_of 98 (Value.string dn);refine (cl dn _ O).mono ?_;rintro e r ⟨rfl,rfl⟩;rw [l]))
    refine (jD up _ O (dj h)).mono ?_;rintro e r ⟨uv,rfl,N,n2,n3⟩;have N1:=ab N;have Y:=ab n2;have N3:=ab n3;obtain ⟨uo,ul,uc,rfl,_,_,_⟩:=N.shape;clear N n2 n3;go_wp2_with fail;refine (jD (dn) _ O (dj l)).mono ?_;rintro e w4 ⟨dv,rfl,P,m2,m3⟩;have M1:=ab P;have J:=ab m2;have M3:=ab m3;obtain ⟨hm,dl,dc,rfl,_,_,_⟩:=P.shape;clear P m2 m3;go_wp2_with fail;refine (mQ neg _ _ _ _ (s.size+1) _ ((N1.keep0 J).mono O) (M1.mono I) O).mono ?_;intro e w5 hL;obtain ⟨v,rfl,f1,Q⟩:=hL;have K5:=ab (aa (aP q2) (aa Y (aa J Q)));have G5:=ab (aa R (aa Y (aa J Q)));have NW:=ab (bC K5);obtain ⟨t,y,z,A,B,C,ev⟩:=f1.shape;have F1:=ab f1;obtain ⟨c0,c1,c2,F⟩:=aT K5;have hj:=F 0;have hk:=F 1;have hl:=F 2;subst ev;have f:=k.out;rw [h,l] at f;simp only [Bool.and_self,if_true] at f;have g:=ab f;obtain ⟨i,j⟩:∃ b:Bool,b=(aY neg (aZ up.data.toList) (aZ (dn).data.toList)).1:=⟨_,rfl⟩;rw [<- j];have K:=ab j;clear f1 Q F k f j;go_wp2;refine bodyPost_ret (v:=.agg #[.bool i,.slice t y z,.slice A B C]) (by simp [results,Tryz.results59,go_sem,c0,c1,c2]) rfl ?_;refine ⟨_,rfl,?_,lX G5 bH zL⟩;rw [g];have:=F1.out.other NW (bH (a:=.bool i) (b:=.slice t y z) (c:=.slice A B C));rw [<- K] at this ⊢
    exact this
   ·have l:Hid (cr (dn).data.toList=false):=ab (by simpa using hb);clear hb;have f:=k.out;rw [h,l] at f;simp at f;have g:=ab f;clear f k;go_wp2_with (first
     | (go_at_call_of 98 (Value.string up);refine (cl up _ O).mono ?_;rintro e r ⟨rfl,rfl⟩;rw [h])
     | (go_at_call_of 98 (Value.string dn);refine (cl dn _ O).mono ?_;rintro e r ⟨rfl,rfl⟩;rw [l]))
    refine bodyPost_ret (v:=.agg #[.bool false,.slice none 0 0,.slice none 0 0]) (by simp [results,Tryz.results59,go_sem]) rfl ?_;exact oe g (lX R bH zL)
  ·have h:Hid (cr up.data.toList=false):=ab (by simpa using ha);clear ha;have f:=k.out;rw [h] at f;simp at f;have g:=ab f;clear f k;go_wp2_with (first
    | (go_at_call_of 98 (Value.string up);refine (cl up _ O).mono ?_;rintro e r ⟨rfl,rfl⟩;rw [h]))
   refine bodyPost_ret (v:=.agg #[.bool false,.slice none 0 0,.slice none 0 0]) (by simp [results,Tryz.results59,go_sem]) rfl ?_;exact oe g (lX R bH zL)
 ·obtain rfl:M=false:=by simpa using H
  clear H;have k:=ab (o (⟨#[49]⟩:ByteArray) (by rfl));have I:(⟨#[49]⟩:ByteArray).size<=s.size+1:=by have:(⟨#[49]⟩:ByteArray).size=1:=rfl;omega
  by_cases ha:cr up.data.toList=true
  ·have h:=ab ha;clear ha;by_cases hb:cr ((⟨#[49]⟩:ByteArray)).data.toList=true
   ·have l:=ab hb;clear hb;go_wp2_with (first
     | (go_at_call_of 98 (Value.string up);refine (cl up _ O).mono ?_;rintro e r ⟨rfl,rfl⟩;rw [h])
     | (go_at_call_of 98 (Value.string (⟨#[49]⟩:ByteArray));refine (cl (⟨#[49]⟩:ByteArray) _ O).mono ?_;rintro e r ⟨rfl,rfl⟩;rw [l]))
    refine (jD up _ O (dj h)).mono ?_;rintro e r ⟨uv,rfl,N,n2,n3⟩;have N1:=ab N;have Y:=ab n2;have N3:=ab n3;obtain ⟨uo,ul,uc,rfl,_,_,_⟩:=N.shape;clear N n2 n3;go_wp2_with fail;refine (jD ((⟨#[49]⟩:ByteArray)) _ O (dj l)).mono ?_;rintro e w4 ⟨dv,rfl,P,m2,m3⟩;have M1:=ab P;have J:=ab m2;have M3:=ab m3;obtain ⟨hm,dl,dc,rfl,_,_,_⟩:=P.shape;clear P m2 m3;go_wp2_with fail;refine (mQ neg _ _ _ _ (s.size+1) _ ((N1.keep0 J).mono O) (M1.mono I) O).mono ?_;intro e w5 hL;obtain ⟨v,rfl,f1,Q⟩:=hL;have K5:=ab (aa (aP q2) (aa Y (aa J Q)));have G5:=ab (aa R (aa Y (aa J Q)));have NW:=ab (bC K5);obtain ⟨t,y,z,A,B,C,ev⟩:=f1.shape;have F1:=ab f1;obtain ⟨c0,c1,c2,F⟩:=aT K5;have hj:=F 0;have hk:=F 1;have hl:=F 2;subst ev;have f:=k.out;rw [h,l] at f;simp only [Bool.and_self,if_true] at f;have g:=ab f;obtain ⟨i,j⟩:∃ b:Bool,b=(aY neg (aZ up.data.toList) (aZ ((⟨#[49]⟩:ByteArray)).data.toList)).1:=⟨_,rfl⟩;rw [<- j];have K:=ab j;clear f1 Q F k f j;go_wp2;refine bodyPost_ret (v:=.agg #[.bool i,.slice t y z,.slice A B C]) (by simp [results,Tryz.results59,go_sem,c0,c1,c2]) rfl ?_;refine ⟨_,rfl,?_,lX G5 bH zL⟩;rw [g];have:=F1.out.other NW (bH (a:=.bool i) (b:=.slice t y z) (c:=.slice A B C))
    rw [<- K] at this ⊢;exact this
   ·have l:Hid (cr ((⟨#[49]⟩:ByteArray)).data.toList=false):=ab (by simpa using hb);clear hb;have f:=k.out;rw [h,l] at f;simp at f;have g:=ab f;clear f k;go_wp2_with (first
     | (go_at_call_of 98 (Value.string up);refine (cl up _ O).mono ?_;rintro e r ⟨rfl,rfl⟩;rw [h])
     | (go_at_call_of 98 (Value.string (⟨#[49]⟩:ByteArray));refine (cl (⟨#[49]⟩:ByteArray) _ O).mono ?_;rintro e r ⟨rfl,rfl⟩;rw [l]))
    refine bodyPost_ret (v:=.agg #[.bool false,.slice none 0 0,.slice none 0 0]) (by simp [results,Tryz.results59,go_sem]) rfl ?_;exact oe g (lX R bH zL)
  ·have h:Hid (cr up.data.toList=false):=ab (by simpa using ha);clear ha;have f:=k.out;rw [h] at f;simp at f;have g:=ab f;clear f k;go_wp2_with (first
    | (go_at_call_of 98 (Value.string up);refine (cl up _ O).mono ?_;rintro e r ⟨rfl,rfl⟩;rw [h]))
   refine bodyPost_ret (v:=.agg #[.bool false,.slice none 0 0,.slice none 0 0]) (by simp [results,Tryz.results59,go_sem]) rfl ?_;exact oe g (lX R bH zL)
def lL (w wr:World) (xs ys:List Nat) (i:Nat):Prop :=
 ∃ done:List Nat,done.length=i+ys.length/\Sm done/\bW wr w.heap.size (done++List.replicate (xs.length-i) 0)/\w.grownBy wr none/\ai done=ai (xs.take i)*ai ys
def kW (w wr:World) (xs ys:List Nat) (i j x c:Nat):Prop :=
 ∃ done mid:List Nat,done.length=i+ys.length/\mid.length=j/\Sm done/\Sm mid/\bW wr w.heap.size (done.take i++mid++done.drop (i+j)++List.replicate (xs.length-i) 0)/\w.grownBy wr none /\
  ai done=ai (xs.take i)*ai ys/\ai mid+4294967296^j*c=ai ((done.drop i).take j)+x*ai (ys.take j)
theorem lL.inn {wr:World} {i:Nat} (h:lL w wr xs ys i) (x:Nat):kW w wr xs ys i 0 x 0:=by
 obtain ⟨done,a,b,c,d,e⟩:=h;refine ⟨done,[],a,rfl,b,Sm.nil,?_,d,e,by simp [ai]⟩;rw [List.append_nil,Nat.add_zero,List.take_append_drop];exact c
theorem kW.at {wr:World} {i j x c:Nat} (h:kW w wr xs ys i j x c) (o:j<ys.length) :
  ∃ r,r<4294967296/\wr.cell? ⟨w.heap.size,i+j,none⟩=some (.int .u32 (r:Nat))/\wr.frozen? ⟨w.heap.size,i+j,none⟩=false /\
   ∀ (y:Nat) (z:Int),y=ys[j]->z=(((c+(x*y+r)) % 4294967296:Nat):Int)->kW w (wr.setCell ⟨w.heap.size,i+j,none⟩ (.int .u32 z)) xs ys i (j+1) x ((c+(x*y+r)) / 4294967296):=by
 obtain ⟨done,a,s,b,m,k,l,t,u,A⟩:=h;have hd:i+j<done.length:=O
 have e:done.drop (i+j)=done[i+j] :: done.drop (i+j+1):=List.drop_eq_getElem_cons hd;have d:(done.take i).length=i:=by rw [List.length_take];omega
 have f:(done.take i++a++done.drop (i+j)++List.replicate (xs.length-i) 0)[i+j]? = some done[i+j]:=by
  rw [List.append_assoc,List.getElem?_append_right (by simp [d,b]),e];have g:i+j-(done.take i++a).length=0:=by simp [d,b]
  rw [g];rfl
 have hlt:i+j<(done.take i++a++done.drop (i+j)++List.replicate (xs.length-i) 0).length:=(zY f).1;refine ⟨done[i+j],m.get _ hd,?_,l.free _,?_⟩
 ·rw [l.cell (i+j) hlt,(zY f).2]
 ·intro y z hy q;refine ⟨done,a++[(c+(x*y+done[i+j])) % 4294967296],s,by simp [b],m,k.snoc _,?_,ah t _ _ zL,u,?_⟩
  ·have:=l.set (i+j) ((c+(x*y+done[i+j])) % 4294967296);rw [q];have p:(done.take i++a++done.drop (i+j)++List.replicate (xs.length-i) 0).set (i+j) ((c+(x*y+done[i+j])) % 4294967296)
     = done.take i++(a++[(c+(x*y+done[i+j])) % 4294967296])++done.drop (i+(j+1))++List.replicate (xs.length-i) 0:=by
    rw [e,List.append_assoc,List.set_append_right _ _ (by simp [d,b])];have g:i+j-(done.take i++a).length=0:=by simp [d,b]
    rw [g];simp [Nat.add_assoc]
   rw [p] at this;exact this
  ·rw [aO,b,Nat.pow_succ,Nat.add_assoc,fC,Nat.mul_add,<- Nat.add_assoc,A,au ys j o,<- hy,
    au (done.drop i) j (by rw [List.length_drop];omega),List.getElem_drop,Nat.mul_add (4294967296^j),Nat.mul_add x]
   rw [show x*(4294967296^j*y)=4294967296^j*(x*y) from by rw [Nat.mul_left_comm]];omega
theorem kW.out {wr:World} {i x c:Nat} (h:kW w wr xs ys i ys.length x c) (hi:i<xs.length) (j:x=xs[i]) (hc:c<4294967296) (z:Int) (k:z=(c:Int)) :
  wr.frozen? ⟨w.heap.size,i+ys.length,none⟩=false/\(∃ v,wr.cell? ⟨w.heap.size,i+ys.length,none⟩=some v) /\
  lL w (wr.setCell ⟨w.heap.size,i+ys.length,none⟩ (.int .u32 z)) xs ys (i+1):=by
 obtain ⟨done,d,s,b,o,f,e,p,q,r⟩:=h;have a:(done.take i).length=i:=by rw [List.length_take];omega
 have l:done.drop (i+ys.length)=[]:=List.drop_of_length_le O;rw [l,List.append_nil] at e;have g:(done.take i++d).length=i+ys.length:=by simp [a,b]
 refine ⟨e.free _,⟨_,e.cell (i+ys.length) (by simp [a,b];omega)⟩,?_⟩;have:=e.set (i+ys.length) c;rw [dH _ _ _ _ g O] at this;rw [k];refine ⟨done.take i++d++[c],by simp [a,b];omega,((o.take _).append f).append (Sm.cons hc Sm.nil),?_,ah p _ _ zL,?_⟩
 ·rw [show xs.length-(i+1)=xs.length-i-1 from O];exact this
 ·rw [aO,g,bN,a,Nat.pow_add,Nat.mul_assoc,Nat.add_assoc,<- Nat.mul_add,r,show (done.drop i).take ys.length=done.drop i from zT (by rw [List.length_drop];omega),show ys.take ys.length=ys from zT zL,
   au xs i hi,<- j,Nat.add_mul,<- q,Nat.mul_add,<- Nat.add_assoc]
  have m:ai done=ai (done.take i)+4294967296^i*ai (done.drop i):=by
   have:=bN (done.take i) (done.drop i);rw [List.take_append_drop,a] at this;exact this
  rw [m,Nat.mul_assoc]
theorem tB (H I:Value) (xs ys:List Nat) (w:World) (ha:Ws w H xs) (hb:Ws w I ys) (hl:xs.length+ys.length<=10000000000000) :
  Calls Tryz.prog 76 #[H,I] w fun e w'=>∃ v',e=.returned v'/\gP w' w.heap.size v' (ai xs*ai ys) (xs.length+ys.length)/\w.grownBy w' none:=by
 obtain ⟨ao,ca,rfl,ho,p,K⟩:=ha.open;obtain ⟨bo,cb,rfl,hq,q,M⟩:=hb.open;unfold maxLen at p q;have R:=ab K;have S:=ab M;have T:=ab ha.sm;have U:=ab hb.sm;clear K M ha hb;go_enter Tryz.func76,Tryz.ntmps76
 go_wp2_with (at_make;refine aC _ rfl _ _ 79 rfl Tryz.underlying79 Tryz.info32 _ _ _ _ (xs.length+ys.length) rfl rfl O O O ?_)
 intro w1 h o;have V:=ab h;have X:=ab o;clear h o;go_wp2;go_loopw [19] (fun i wr=>∃ k:Nat,k<=xs.length/\i=.int .i64 k/\Hid (lL w wr xs ys k)) (fun i _=>xs.length-(intOf i).toNat)
 case atStart=>exact ⟨0,Nat.zero_le _,rfl,List.replicate ys.length 0,Z,Sm.replicate _,by
  have:=V.out;rw [Nat.add_comm,<- List.replicate_append_replicate] at this;exact this,X,by simp [ai,iM]⟩
 case round =>
  obtain ⟨i,hk,rfl,u⟩:=hrel;by_cases hlt:i<xs.length
  ·obtain ⟨b,off,rfl,hs,a⟩:=aF R i hlt;have A:=(aF T).get i hlt;obtain ⟨x,ex⟩:=eX (xs[i]);rw [<- ex] at a A;have Y:=ab ex;have HC:=ab a;have m:wr.cell? ⟨b,off+i,none⟩=some (.int .u32 (x:Nat)):=by
    obtain ⟨_,_,_,_,s,_⟩:=u.out;exact s.cell a Z
   clear ex a;go_wp2;clear m;go_loopw [8,26] (fun cv G wr=>∃ j c:Nat,j<=ys.length/\c<4294967296/\G=.int .i64 j/\cv=.int .u64 c/\Hid (kW w wr xs ys i j x c)) (fun _ G _=>ys.length-(intOf G).toNat)
   case atStart=>exact ⟨0,0,Nat.zero_le _,O,rfl,rfl,lL.inn u x⟩
   case round =>
    clear u;obtain ⟨j,c,hj,hc,rfl,rfl,C⟩:=hrel;have hg:w.grownBy wr none:=by
     obtain ⟨_,_,_,_,_,_,_,s,_,_⟩:=C.out;exact s
    by_cases f:j<ys.length
    ·obtain ⟨b2,t,rfl,N,d⟩:=aF S j f;have hy:=(aF U).get j f;obtain ⟨y,D⟩:=eX (ys[j]);rw [<- D] at d hy;have he:wr.cell? ⟨b2,t+j,none⟩=some (.int .u32 (y:Nat)):=hg.cell d Z;have hf:wr.cell? ⟨b,off+i,none⟩=some (.int .u32 (x:Nat)):=hg.cell HC Z;obtain ⟨r,hr,hu,E,g⟩:=C.out.at f;have HS:=ab (g y);have EY:=ab D;have hp:(x:Int)*(y:Int)<=18446744065119617025:=lA x y A hy;have hm:0<=(x:Int)*(y:Int):=Int.mul_nonneg O O;clear d g D hg;go_wp2;go_roundw
     case rel=>exact ⟨j+1,(c+(x*y+r)) / 4294967296,O,tT x y c r A hy hc hr,zN,by rw [oR],HS _ EY (by rw [ni])⟩
     case measure=>simp [intOf];omega
    ·obtain rfl:j=ys.length:=O
     obtain ⟨E,⟨v0,hv⟩,l⟩:=C.out.out hlt Y hc _ rfl;have HO:=ab l;clear l;go_wp2;go_roundw
     case rel=>exact ⟨i+1,O,zN,HO⟩
     case measure=>simp [intOf];omega
  ·obtain rfl:i=xs.length:=O
   go_wp2_with fail;obtain ⟨done,z,P,F,s,Q⟩:=u.out;rw [Nat.sub_self,List.replicate_zero,List.append_nil] at F;have B:=F.own (base:=w.heap.size) zL (by rw [z];unfold maxLen;omega);have H1:=ab z;have J:=ab P;have H3:=ab Q;rw [z] at B;clear z Q F P;refine (ky _ done _ w.heap.size B J).mono ?_;rintro e w2 ⟨v',rfl,rfl,k1,k2⟩;clear B;go_wp2;go_ret;refine ⟨v',rfl,⟨_,k1,J.out.trimL,Tr.trimL _,?_,?_⟩,s⟩
   ·rw [eW,H3,zT zL]
   ·have:=aU done;rw [H1] at this;exact this
theorem Bv (a b:Value) (m n L M:Nat) (w:World) (ha:aQ w a m L) (hb:aQ w b n M) (j:L+M<=10000000000000) :
  Calls Tryz.prog 76 #[a,b] w fun e w'=>∃ v',e=.returned v'/\gP w' w.heap.size v' (m*n) (L+M)/\w.grownBy w' none:=by
 obtain ⟨xs,d,k,f,l⟩:=ha;obtain ⟨ys,g,o,h,p⟩:=hb;refine (tB a b xs ys w d g O).mono ?_;rintro e w' ⟨v',rfl,c,i⟩;rw [f,h] at c;exact ⟨v',rfl,c.mono O,i⟩
theorem eP (a b:Value) (m n L M:Nat) (w:World) (ha:aQ w a m L) (hb:aQ w b n M) (d:L+M<=10000000000000) :
  Calls Tryz.prog 76 #[a,b] w fun e w'=>∃ v',e=.returned v'/\aQ w' v' (m*n) (L+M)/\w.grownBy w' none/\bn w v':=by
 refine (Bv a b m n L M w ha hb d).mono ?_;rintro e w' ⟨v',rfl,c,f⟩;exact ⟨v',rfl,c.num,f,fun k g=>(c.fresh k g).1⟩
theorem AK (c:Tr xs) (h:ai xs<4294967296^L):xs.length<=L:=by
 by_cases b:xs=[]
 ·subst b;simp
 ·have d:=jh c b;have e:xs.length-1<L:=(Nat.pow_lt_pow_iff_right (a:=4294967296) zD).1 (Nat.lt_of_le_of_lt d h);have:0<xs.length:=List.length_pos_iff.2 b;omega
theorem aQ.tight {L':Nat} (h:aQ w v n L) (hn:n<4294967296^L'):aQ w v n L':=by
 obtain ⟨xs,c,a,b,d⟩:=h;exact ⟨xs,c,a,b,AK a (by rw [b];exact hn)⟩
theorem fM {w1 a:World} {r:Option Nat} (h:w.grownBy w1 none) (k:w1.grownBy a r) (hb:∀ b,r=some b->w.heap.size<=b):w.grownBy a none :=
 aw h k (fun _ _ e=>e) (fun b c e=>by have:=hb b e.symm;omega)
theorem aG {u x:Value} (h:(w.alloc (Obj.cells #[u,v,x] 81)).grownBy W none):W.cell? ⟨w.heap.size,0,none⟩=some u/\W.cell? ⟨w.heap.size,1,none⟩=some v/\W.cell? ⟨w.heap.size,2,none⟩=some x:=by
 have e:W.heap[w.heap.size]? = some (Obj.cells #[u,v,x] 81 (0,0)):=by
  rw [h.block w.heap.size Z Z];exact heap_alloc_new w _
 refine ⟨?_,?_,?_⟩<;>simp [World.cell?,e]
theorem yW (w:World):aQ (w.alloc (Obj.cells #[Value.int IntKind.u32 1] 140)) (.slice (some ⟨w.heap.size,0,none⟩) 1 1) 1 1:=by
 have ha:bW (w.alloc (Obj.cells #[Value.int IntKind.u32 1] 140)) w.heap.size [1]:=by
  unfold bW;show (w.heap.push _)[w.heap.size]? = _
  rw [Array.getElem?_push_size];rfl
 exact ⟨[1],ha.ws (Sm.cons zD Sm.nil) (by unfold maxLen;simp),by simp [Tr,aN],by simp [ai],Z⟩
def NumE (w:World) (n L:Nat) (e:Ending) (w':World):Prop:=∃ v,e=.returned v/\aQ w' v n L/\w.grownBy w' none
theorem fB (x:Value) (neg:Bool) (n d L:Nat) (w:World) (l:FV w x neg n d L) :
  Calls Tryz.prog 77 #[x] w fun e w'=>NumE w d (L+1) e w':=by
 obtain ⟨up,b,rfl,h1,a,c,f⟩:=l;obtain ⟨g,h,i,rfl,_⟩:=h1.shape;rcases a with ⟨rfl,rfl⟩ | ⟨a,hd⟩
 ·clear h1 c f;go_enter Tryz.func77,Tryz.ntmps77
  go_wp2;go_ret;have h1:=yW (w.alloc (Obj.cells #[.bool neg,.slice g h i,.slice none 0 0] 81));have m:(w.alloc (Obj.cells #[.bool neg,.slice g h i,.slice none 0 0] 81)).heap.size=w.heap.size+1:=Z
  rw [m] at h1;exact ⟨_,rfl,aQ.mono (L:=1) (L':=L+1) h1 (Nat.le_add_left 1 L),ag (ag (ae _ _) _) _⟩
 ·obtain ⟨p,j,r,rfl,k,s,q⟩:=a.shape;unfold maxLen at q;have hb:(((j:Nat):Int)==0)=false:=zB (by
   intro e;have:j=0:=O
   have:=k.1 this;omega)
  have o:=ab a;clear h1 a c f k;go_enter Tryz.func77,Tryz.ntmps77
  go_wp2;go_ret;exact ⟨_,rfl,(o.keep0 (ag (ae _ _) _)).mono O,ag (ae _ _) _⟩
theorem cI (a:Option Addr) (c d:Nat) (b:Bool) (w:World) :
  Calls Tryz.prog 101 #[.agg #[.bool b,.slice a c d,.slice none 0 0]] w fun e w'=>e=.returned (.bool true)/\w.grownBy w' none:=by
 go_enter Tryz.func101,Tryz.ntmps101
 go_wp2;go_ret;exact ⟨rfl,ag (ae _ _) _⟩
theorem fF (f c:Option Addr) (g i a d:Nat) (b:Bool) (w:World) (h:0<a) (k:a<=d) (j:d<=maxLen) :
  Calls Tryz.prog 101 #[.agg #[.bool b,.slice f g i,.slice c a d]] w fun e w'=>e=.returned (.bool false)/\w.grownBy w' none:=by
 unfold maxLen at j;have hb:(((a:Nat):Int)==0)=false:=zB O;go_enter Tryz.func101,Tryz.ntmps101
 go_wp2;go_ret;exact ⟨rfl,ag (ae _ _) _⟩
theorem nY (x y:Value) (n m L:Nat) (w:World) (a:aQ w x n L) (hy:aQ w y m L) (l:0<n∨0<m) (b:L<=8000000000000) :
  Calls Tryz.prog 103 #[x,y] w fun e w'=>GcdE w (Nat.gcd n m) L e w':=by
 obtain ⟨xs,c,d,f,g⟩:=a;obtain ⟨ys,h,i,j,k⟩:=hy;rw [<- f,<- j];exact iT x y xs ys w c h d i O L g k b
theorem xA (b:Bool) (k A B:Nat) (c:0<k):aY b (k*A) (k*B)=aY b A B:=by
 unfold aY;rw [Nat.gcd_mul_left];by_cases h:A=0∨B=0
 ·have a:k*A=0∨k*B=0:=by
   rcases h with h | h
   ·exact .inl (by rw [h,Nat.mul_zero])
   ·exact .inr (by rw [h,Nat.mul_zero])
  rw [if_pos h,if_pos a]
 ·have a:¬ (k*A=0∨k*B=0):=by
   intro a;rcases a with a | a <;> rcases Nat.mul_eq_zero.1 a with e | e
   ·omega
   ·exact h (.inl e)
   ·omega
   ·exact h (.inr e)
  rw [if_neg h,if_neg a,Nat.mul_div_mul_left _ _ c,Nat.mul_div_mul_left _ _ c]
theorem nA (b:Bool) (n m:Nat) (a:0<n) (c:0<m) (h:Nat.gcd n m=1):aY b n m=(b,n,m):=by
 unfold aY;rw [if_neg O,h,Nat.div_one,Nat.div_one]
theorem yu {a b k l:Nat} (h:Nat.gcd a b=1) (c:k∣a) (d:l∣b):Nat.Coprime (a / k) (b / l) :=
 Nat.Coprime.coprime_dvd_left (Nat.div_dvd_of_dvd c) (Nat.Coprime.coprime_dvd_right (Nat.div_dvd_of_dvd d) h)
theorem Ai {c a d b:Nat} (e:Nat.gcd c a=1) (f:Nat.gcd d b=1) (g:0<a) (h:0<b) :
  Nat.gcd (c / Nat.gcd c b*(d / Nat.gcd d a)) (a / Nat.gcd d a*(b / Nat.gcd c b))=1:=by
 have i:0<Nat.gcd c b:=Nat.gcd_pos_of_pos_right _ h;have j:0<Nat.gcd d a:=Nat.gcd_pos_of_pos_right _ g;have k:=yu e (Nat.gcd_dvd_left c b) (Nat.gcd_dvd_right d a);have l:Nat.Coprime (c / Nat.gcd c b) (b / Nat.gcd c b):=Nat.coprime_div_gcd_div_gcd i;have m:Nat.Coprime (d / Nat.gcd d a) (a / Nat.gcd d a):=Nat.coprime_div_gcd_div_gcd j;have o:=yu f (Nat.gcd_dvd_left d a) (Nat.gcd_dvd_right c b);exact Nat.Coprime.mul_left (Nat.Coprime.mul_right k l) (Nat.Coprime.mul_right m o)
theorem Aj (b:Bool) {d a e c:Nat} (f:0<a) (g:0<c) :
  aY b (d / Nat.gcd d c*(e / Nat.gcd e a)) (a / Nat.gcd e a*(c / Nat.gcd d c))=aY b (d*e) (a*c):=by
 have h:0<Nat.gcd d c:=Nat.gcd_pos_of_pos_right _ g;have i:0<Nat.gcd e a:=Nat.gcd_pos_of_pos_right _ f;rw [<- xA b (Nat.gcd d c*Nat.gcd e a) _ _ (Nat.mul_pos h i)];have j:=Nat.mul_div_cancel' (Nat.gcd_dvd_left d c);have k:=Nat.mul_div_cancel' (Nat.gcd_dvd_left e a);have l:=Nat.mul_div_cancel' (Nat.gcd_dvd_right d c);have m:=Nat.mul_div_cancel' (Nat.gcd_dvd_right e a);congr 1
 ·rw [Nat.mul_mul_mul_comm,j,k]
 ·rw [Nat.mul_comm (a / _),Nat.mul_mul_mul_comm,l,m,Nat.mul_comm]
theorem ku (a:Bool) (u d:Value) (n m L:Nat) (w:World) (i:aQ w u n L) (hd:aQ w d m L) (B:0<m) (hc:n=0∨Nat.gcd n m=1) :
  Calls Tryz.prog 105 #[.bool a,u,d] w fun e w'=>gw w (aY a n m).1 (aY a n m).2.1 (aY a n m).2.2 L e w':=by
 obtain ⟨y,f,z,rfl,u1,u2,u3⟩:=i.shape;obtain ⟨p,E,F,rfl,A,I,G⟩:=hd.shape;unfold maxLen at u3 G;have q:w.grownBy (w.alloc (Obj.cells #[Value.bool false,Value.slice none 0 0,Value.slice none 0 0] 81)) none:=ag (ae w none) _;have r:=ab q;clear q;by_cases j:n=0
 ·subst j;obtain rfl:f=0:=u1.2 rfl;have e:aY a 0 m=(false,0,1):=by unfold aY;rw [if_pos (.inl rfl)]
  rw [e];have c:gw w false 0 1 L (.returned (.agg #[.bool false,.slice none 0 0,.slice none 0 0])) (w.alloc (Obj.cells #[Value.bool false,Value.slice none 0 0,Value.slice none 0 0] 81)) :=
   ⟨_,rfl,⟨_,_,rfl,⟨[],Ws.nil _,rfl,rfl,Z⟩,.inl ⟨rfl,rfl⟩,rfl,Z⟩,ag (ae _ _) _⟩
  have g:=ab c;clear c i hd u1 A hc e;go_enter Tryz.func105,Tryz.ntmps105
  go_wp2;exact bodyPost_ret (v:=.agg #[.bool false,.slice none 0 0,.slice none 0 0]) (by simp [results,Tryz.results105,go_sem]) rfl g
 ·have C:0<f:=by
   rcases zP f with h | h
   ·exact absurd (u1.1 h) j
   ·exact h
  have D:(((f:Nat):Int)==0)=false:=zB O;have hg:Nat.gcd n m=1:=by
   rcases hc with h | h
   ·exact absurd h j
   ·exact h
  rw [nA a n m O B hg];have s:=ab i;have l:=ab hd;have t:=ab hg;have x:Hid (0<n):=by show 0<n;omega
  clear i hd u1 A hc hg j;by_cases k:m=1
  ·have b:=ab k;clear k;go_enter Tryz.func105,Tryz.ntmps105
   go_wp2_with fail;refine (rh _ L _ (by have:=l.out.keep0 r;rw [b] at this;exact this)).mono ?_;rintro e H ⟨rfl,rfl⟩;go_wp2;refine bodyPost_ret (v:=.agg #[.bool a,.slice y f z,.slice none 0 0]) (by simp [results,Tryz.results105,go_sem]) rfl ?_;exact ⟨_,rfl,⟨_,_,rfl,s.keep0 (ag (ae _ _) _),.inl ⟨rfl,b⟩,t,fun _=>x⟩,ag (ae _ _) _⟩
  ·have b:=ab k;have o:Hid (1<m):=by show 1<m;omega
   clear k;go_enter Tryz.func105,Tryz.ntmps105
   go_wp2_with fail;refine (uw _ m L _ (l.keep0 r) b).mono ?_;rintro e H ⟨rfl,rfl⟩;go_wp2;refine bodyPost_ret (v:=.agg #[.bool a,.slice y f z,.slice p E F]) (by simp [results,Tryz.results105,go_sem]) rfl ?_;exact ⟨_,rfl,⟨_,_,rfl,s.keep0 (ag (ae _ _) _),.inr ⟨l.keep0 (ag (ae _ _) _),o⟩,t,fun _=>x⟩,ag (ae _ _) _⟩
end Go.Proofs.YtkbmbmdemajoaaaGreatDoor
