/- Contracts. -/
import Derived.Test.YtbomdfhdocaagaaGreatDoorXPv
import Derived.Test.YtbomdfhdocaagaaGreatDoorXPn
import Derived.Test.YtbomdfhdocaagaaGreatDoorXPt
namespace Go.Proofs.YtbomdfhdocaagaaGreatDoor
open Go.RowKit
set_option linter.all false
set_option maxHeartbeats 8000000
set_option maxRecDepth 10000
variable {N:Nat} {ps:List aA} {q:Rat} {V I:Nat->Rat}
def AF (a:Bool) (p:aA):((bX a p).kind=6↔p.kind=6)/\((bX a p).kind=7↔p.kind=7):=by
 unfold bX;split
 ·rename_i h;constructor
  ·constructor
   ·intro e;exact absurd e Z
   ·intro e;omega
  ·constructor
   ·intro e;exact absurd e Z
   ·intro e;omega
 ·exact ⟨Iff.rfl,Iff.rfl⟩
def yL (N:Nat) (a:Nat->Bool) (ps:List aA) (K J O:Nat->Rat):aY N (bu a ps) K J O=aY N ps K J O:=by
 funext j
 unfold aY;split
 ·rw [dq];funext u
  unfold dw;split
  ·rw [du];cases hp:ps[u-N]? with
   | none=>rfl
   | some p =>
    obtain ⟨b,c,_⟩:=dt (a (u-N)) p;simp only [Option.map_some,iL,b,c]
  ·rfl
 ·unfold mg;rw [du,dq];cases hp:ps[j-N]? with
  | none=>rfl
  | some p =>
   obtain ⟨b,c,d,e,f⟩:=dt (a (j-N)) p;obtain ⟨g,h⟩:=AF (a (j-N)) p;simp only [Option.map_some,b,c,d,e,f,g,h]
def lin_0 (v:Rat):lW v 0:=⟨0,0,zD,zD,by simp [Rat.add_zero]⟩
def lin_1 (v:Rat):lW v 1:=⟨1,0,zD,zD,by simp [Rat.add_zero]⟩
def lin_m (v:Rat):lW v (-1):=⟨-1,0,zD,zD,by simp [Rat.add_zero]⟩
def lin_of {v:Rat} (h:q=0∨q=1∨q = -1):lW v q:=by
 rcases h with rfl | rfl | rfl
 ·exact lin_0 v
 ·exact lin_1 v
 ·exact lin_m v
def ref_lin {i:Nat} (hi:i<ps.length) (a:¬ ps[i].kind=6) (b:¬ ps[i].kind=7) (j:Nat):lW ps[i].q (aY N ps (dB ps) (dR ps) (d6 ps) (N+i) j):=by
 rw [oW hi a b];unfold dB dR d6;rw [zX hi];simp only;rw [dU];split
 ·exact vE _ _
 ·rw [dU];split
  ·exact vD _ _
  ·unfold cD;rcases tI ps[i].kind ps[i].q with e | e<;>rw [e]
   all_goals
    apply lin_of;repeat' split
    all_goals
     dsimp only
     first
      | (left;grind)
      | (right;left;grind)
      | (right;right;grind)
def qx (N:Nat) (ps:List aA) (i:∀ p∈ps,¬ p.kind=6/\¬ p.kind=7) (r:Nat):∃ D M:Nat,0<D/\(∀ j,(aY N ps (dB ps) (dR ps) (d6 ps) r j).den∣D)/\(∀ j,rN (aY N ps (dB ps) (dR ps) (d6 ps) r j)<=M)/\M*D<=4294967296^cS N ps r/\D<=4294967296^cS N ps r:=by
 by_cases hn:r<N
 ·have c:∀ j,(aY N ps (dB ps) (dR ps) (d6 ps) r j).den=1/\rN (aY N ps (dB ps) (dR ps) (d6 ps) r j)<=1:=by
   intro j;unfold aY;rw [if_pos hn];unfold dw;split
   ·split
    ·rename_i p n;unfold iL;by_cases e:p.a=((r+1:Nat):Int)<;>by_cases k:p.b=((r+1:Nat):Int)<;>simp only [e,k,if_true,if_false]<;>exact ⟨rfl,zD⟩
    ·exact ⟨rfl,zD⟩
   ·exact ⟨rfl,zD⟩
  exact ⟨1,1,zD,fun j=>by rw [(c j).1];exact Nat.dvd_refl _,fun j=>(c j).2,by rw [Nat.mul_one];exact Nat.one_le_pow _ _ zD,Nat.one_le_pow _ _ zD⟩
 ·have d:cS N ps r=match ps[r-N]? with | some p=>2*(p.v.size+1)+1 | none=>0:=by unfold cS;rw [if_neg hn];try rfl
  by_cases hi:r-N<ps.length
  ·rw [zX hi] at d;simp only at d;obtain ⟨l,m⟩:=i _ (List.getElem_mem hi);have f:=ref_lin (N:=N) hi l m;rw [show N+(r-N)=r by omega] at f;obtain ⟨f1,h⟩:=ps[r-N].fit;refine ⟨ps[r-N].q.den,ps[r-N].q.den+rN ps[r-N].q,Rat.den_pos _,fun j=>(iz (f j)).1,fun j=>(iz (f j)).2,?_,?_⟩
   ·rw [d];have e:(4294967296:Nat)^(2*(ps[r-N].v.size+1)+1)=(4294967296*4294967296^(ps[r-N].v.size+1))*4294967296^(ps[r-N].v.size+1):=by
     rw [Nat.pow_succ,Nat.two_mul,Nat.pow_add,Nat.mul_comm,Nat.mul_assoc]
    rw [e];exact Nat.mul_le_mul O (Nat.le_of_lt h)
   ·rw [d];exact Nat.le_trans (Nat.le_of_lt h) (Nat.pow_le_pow_right zD O)
  ·have g:∀ j,aY N ps (dB ps) (dR ps) (d6 ps) r j=0:=by
    intro j;unfold aY mg;rw [if_neg hn,List.getElem?_eq_none O]
   exact ⟨1,1,zD,fun j=>by rw [g];exact Nat.dvd_refl _,fun j=>by rw [g];decide,by rw [Nat.mul_one];exact Nat.one_le_pow _ _ zD,Nat.one_le_pow _ _ zD⟩
def ref_out (d:∀ p∈ps,¬ p.kind=6/\¬ p.kind=7) (c:∀ p∈ps,p.a<=N/\p.b<=N) (r j:Nat) (h:N+ps.length<j):aY N ps (dB ps) (dR ps) (d6 ps) r j=0:=by
 by_cases hn:r<N
 ·unfold aY;rw [if_pos hn];unfold dw;rw [if_neg (by omega)]
 ·by_cases hi:r-N<ps.length
  ·obtain ⟨f,g⟩:=d _ (List.getElem_mem hi);obtain ⟨i,k⟩:=c _ (List.getElem_mem hi);have e:=oW (N:=N) (K:=dB ps) (J:=dR ps) (O:=d6 ps) hi f g;rw [show N+(r-N)=r by omega] at e;rw [e,dU,if_neg (by omega),dU,if_neg (by omega)];unfold cD;rw [if_neg (by omega),if_neg (by omega)]
  ·unfold aY mg;rw [if_neg hn,List.getElem?_eq_none (by omega)]
def refA (N:Nat) (ps:List aA) (r j:Nat):Rat:=((jf (aY N ps (dB ps) (dR ps) (d6 ps) r) (N+ps.length+1):Nat):Rat)*aY N ps (dB ps) (dR ps) (d6 ps) r j
def refA_wh (d:∀ p∈ps,¬ p.kind=6/\¬ p.kind=7) (c:∀ p∈ps,p.a<=N/\p.b<=N) (r j:Nat):gY (4294967296^cS N ps r) (refA N ps r j):=by
 unfold refA;by_cases f:j<N+ps.length+1
 ·obtain ⟨D,M,g,h,i,k,l⟩:=qx N ps d r;have e:((jf (aY N ps (dB ps) (dR ps) (d6 ps) r) (N+ps.length+1):Nat):Rat)*aY N ps (dB ps) (dR ps) (d6 ps) r j=cj (aY N ps (dB ps) (dR ps) (d6 ps) r) (N+ps.length+1) j:=by unfold cj;exact Rat.mul_comm _ _
  rw [e];exact ⟨nP _ _ _ f,Nat.le_trans (kt _ D M g h i _ j).1 k⟩
 ·rw [ref_out d c r j O,Rat.mul_zero];exact ⟨rfl,Nat.zero_le _⟩
def refS_wh (a:∀ p∈ps,¬ p.kind=6/\¬ p.kind=7) (r:Nat):gY (4294967296^cS N ps r) ((jf (aY N ps (dB ps) (dR ps) (d6 ps) r) (N+ps.length+1):Nat):Rat):=by
 obtain ⟨D,M,b,c,d,e,f⟩:=qx N ps a r;have:=Nat.le_of_dvd b (uF _ D c (N+ps.length+1));exact ⟨Rat.den_natCast _,by unfold rN;rw [Rat.num_natCast,Int.natAbs_natCast];omega⟩
def refS_ne (r:Nat):((jf (aY N ps (dB ps) (dR ps) (d6 ps) r) (N+ps.length+1):Nat):Rat)≠0:=by
 have:=pN (aY N ps (dB ps) (dR ps) (d6 ps) r) (N+ps.length+1);intro h;have a:=congrArg Rat.num h;rw [Rat.num_natCast] at a;have:(jf (aY N ps (dB ps) (dR ps) (d6 ps) r) (N+ps.length+1):Int)=0:=a;omega
attribute [local simp] CL nk
def nj.keep0 {w a:World} {b:Nat} {T:TypeId} {x y z:Value} (h:nj w b T x y z) (g:w.grownBy a none):nj a b T x y z:=by
 have c:b<w.heap.size:=(zZ h).1;unfold nj at h ⊢;rw [g.block b c Z,h]
def mR {w:World} {a g:Nat} {L:Nat} {T:TypeId} {p:Option Addr} {y z:Value} (h:RV w a q L) (k:nj w g T (.pointer p) y z):a≠g:=by
 rintro rfl;obtain ⟨x,c⟩:=h.bool;rw [k.cells.1] at c;simp at c
def vp {q:aA} (h:q.kind=8) (a:q.q=0):bO (bX true q).kind (bX true q).q=1/\bP (bX true q).kind (bX true q).q=0/\bQ (bX true q).kind (bX true q).q=0:=by
 have e:bX true q = { q with kind:=4 }:=by unfold bX;rw [if_pos ⟨h,rfl⟩]
 have b:(bX true q).q=0:=by rw [e];exact a
 rw [b,e];exact ⟨by simp [bO],by simp [bP],by simp [bQ]⟩
def rX {q:aA} (h:q.kind=8) (a:q.q=0):bO (bX false q).kind (bX false q).q=0/\bP (bX false q).kind (bX false q).q=1/\bQ (bX false q).kind (bX false q).q=0:=by
 have e:bX false q=q:=by unfold bX;rw [if_neg Z]
 rw [e,h,a];exact ⟨by simp [bO],by simp [bP],by simp [bQ]⟩
def zg (w:World) (T:TypeId) (x y z:Value):nj (w.alloc (Obj.cells #[x,y,z] T)) w.heap.size T x y z:=heap_alloc_new _ _
def DU (q:aA) (i L:Nat) (on:Nat->Bool) (gb g M:Nat) (ml:Int) (w:World) (hq:CJ q) (h1:q.v.size<=1000000000) (h2:3*q.v.size+10<=M) (hM:M<=100000000000) (F:w.cell? ⟨2,0,none⟩=some (.int .i64 ml))
  (hb:w.cell? ⟨gb,0,none⟩=some (.slice (some ⟨g,0,none⟩) L L)) (hon:∀ j,j<L->w.cell? ⟨g,j,none⟩=some (.bool (on j))) (hi:i<L) (hL:L<=1000) :
  Calls Tryz.prog 29 #[.int .i64 (i:Nat),.agg #[.int .i64 q.kind,.int .i64 q.a,.int .i64 q.b,.int .i64 q.c,.int .i64 q.d,.string q.v],.pointer (some ⟨gb,0,none⟩)] w fun e w'=>∃ v,e=.returned v/\w.grownBy w' none/\TieV w' (bX (on i) q) M v:=by
 have HQ:=ab hq;have HB:=ab hb;have HO:=ab (hon i hi);have hj:=ab F;obtain ⟨bo,X⟩:=eX (on i);rw [<- X] at HO ⊢;clear hq hb hon F X;obtain ⟨gp,B⟩:=eX w.heap.size;obtain ⟨o,x⟩:=eX (w.heap.size+1);obtain ⟨W,E⟩:=eX ((w.alloc (Obj.cells #[.int .i64 q.kind,.int .i64 q.a,.int .i64 q.b,.int .i64 q.c,.int .i64 q.d,.string q.v] 55)).alloc (Obj.cells #[.pointer none,.pointer none,.pointer none] 68));have C:Hid (w.grownBy W none):=by rw [E];exact ag (ag (ae _ _) _) _
 have z:Hid (w.heap.size<=o):=by show _<=_;omega
 have hk:Hid (o<W.heap.size):=by show _<_;rw [E,x];simp
 have PB:Hid (nk W gp q):=by rw [B];exact ie w q 55 (by rw [E];exact ag (ae _ _) _)
 have D:Hid (nj W o 68 (.pointer none) (.pointer none) (.pointer none)):=by
  have hh:=zg (w.alloc (Obj.cells #[.int .i64 q.kind,.int .i64 q.a,.int .i64 q.b,.int .i64 q.c,.int .i64 q.d,.string q.v] 55)) 68 (.pointer none) (.pointer none) (.pointer none);rw [World.size_alloc,<- x,<- E] at hh;exact hh
 go_enter Tryz.func29,Tryz.ntmps29
 go_upto_region 1 with fail;rw [<- x,<- B,<- E];clear E x B;obtain ⟨b0,b1,b2,b3,b4,b5⟩:=PB.out;go_wp2_with fail;refine (Cm q M ml W h1 h2 hM (C.cell hj Z)).mono ?_;rintro e w5 ⟨v,ok,rfl,g5,Y,ht,hf⟩;have A:=ab g5;have OK:=ab Y;clear g5 Y b0 b1 b2 b3 b4 b5;cases ok with
 | true =>
  obtain ⟨a,b,c,rfl,r1,r2,r3⟩:=ht rfl;have R1:=ab r1;have R2:=ab r2;have R3:=ab r3;clear ht hf r1 r2 r3;go_upto_region 3 with fail;refine cG (fun wx=>w5.grownBy wx none/\nj wx w5.heap.size 68 (.pointer (some ⟨a,0,none⟩)) (.pointer (some ⟨b,0,none⟩)) (.pointer (some ⟨c,0,none⟩))) ⟨ag (ae _ _) _,zg ..⟩ ?_;rintro w6 ⟨g6,b6⟩;obtain ⟨gs,he⟩:=eX w5.heap.size;rw [<- he] at b6 ⊢;have hl:=A.out.size;have l1:=hk.out;have k:Hid (a≠o/\b≠o/\c≠o):=⟨mR R1 (D.keep0 A),mR R2 (D.keep0 A),mR R3 (D.keep0 A)⟩;clear he hl l1;have m:=D.out.keep0 (aa A g6);obtain ⟨c0,c1,c2,f0,f1,f2⟩:=m.cells;obtain ⟨x0,x1,x2,_⟩:=b6.cells;obtain ⟨y,f⟩:=m.setN (.inr rfl) (.inr rfl) (.inr rfl) (.pointer (some ⟨a,0,none⟩)) (.pointer (some ⟨b,0,none⟩)) (.pointer (some ⟨c,0,none⟩));have G:=ab (fZ (aa C (aa A g6)) f.1 (fun r e=>by cases e;exact z));have H:=ab ((R1.keep0 g6).keepW f.1 f.2 (fun e=>k.1 (zJ e)));have J:=ab ((R2.keep0 g6).keepW f.1 f.2 (fun e=>k.2.1 (zJ e)));have K:=ab ((R3.keep0 g6).keepW f.1 f.2 (fun e=>k.2.2 (zJ e)));obtain ⟨d0,d1,d2,_⟩:=y.cells;clear m b6 g6 y f;go_wp2;refine bodyPost_ret (v:=.agg #[.pointer (some ⟨a,0,none⟩),.pointer (some ⟨b,0,none⟩),.pointer (some ⟨c,0,none⟩)]) (by simp [results,Tryz.results29,go_sem,d0,d1,d2]) rfl ?_;have e:bX bo q=q:=by
   unfold bX;rw [if_neg];rintro ⟨h8,_⟩;have:=OK.out.1 Z;omega
  rw [e];exact ⟨_,rfl,G,a,b,c,rfl,H,J,K⟩
 | false =>
  have:=hf rfl;subst this;clear ht hf;have K8:Hid (q.kind=8/\q.q=0):=by
   have hn:¬ (q.kind=1∨q.kind=4∨q.kind=5):=fun h=>by have:=OK.out.2 h;cases this
   rcases HQ.out with h | h | h | h
   ·exact absurd (.inl h.1) hn
   ·exact absurd (.inr (.inl h)) hn
   ·exact absurd (.inr (.inr h)) hn
   ·exact h
  go_upto_region 4 with fail;refine cG (fun wx=>W.grownBy wx none) (ag A _) ?_;intro w6 g6;have G6:=ab g6;have k0:=(aa C g6).cell HB Z;have k1:=(aa C g6).cell HO Z;clear g6;cases bo with
  | true =>
   go_wp2_with fail;refine (fB 1 w6 O O).mono ?_;rintro e wa ⟨a,rfl,n,l,u⟩;have P:=ab (aa G6 l);have Q:Hid (RV wa a (1:Rat) 4):=.inl n;clear n l u k0 k1;go_wp2_with fail;refine (fB 0 wa O O).mono ?_;rintro e wb ⟨b,rfl,n,l,u⟩;have R:=ab (aa P l);have p:=ab (Q.keep0 l);have S:Hid (RV wb b (0:Rat) 4):=.inl n;clear n l u Q P;go_wp2_with fail;refine (fB 0 wb O O).mono ?_;rintro e wc ⟨c,rfl,n,l,u⟩;have T:=ab (aa R l);have s:=ab (p.keep0 l);have t:=ab (S.keep0 l);have U:Hid (RV wc c (0:Rat) 4):=.inl n;clear n l u p S R;have m:=D.out.keep0 T;have k:Hid (a≠o/\b≠o/\c≠o):=⟨mR s m,mR t m,mR U m⟩;obtain ⟨c0,c1,c2,f0,f1,f2⟩:=m.cells;obtain ⟨y,f⟩:=m.setN (.inr rfl) (.inr rfl) (.inr rfl) (.pointer (some ⟨a,0,none⟩)) (.pointer (some ⟨b,0,none⟩)) (.pointer (some ⟨c,0,none⟩));have G:=ab (fZ (aa C T) f.1 (fun r e=>by cases e;exact z));have H:=ab ((s.keepW f.1 f.2 (fun e=>k.1 (zJ e))).mono (by omega:4<=M));have J:=ab ((t.keepW f.1 f.2 (fun e=>k.2.1 (zJ e))).mono (by omega:4<=M));have K:=ab ((U.keepW f.1 f.2 (fun e=>k.2.2 (zJ e))).mono (by omega:4<=M));obtain ⟨d0,d1,d2,_⟩:=y.cells;clear m y f;go_wp2;refine bodyPost_ret (v:=.agg #[.pointer (some ⟨a,0,none⟩),.pointer (some ⟨b,0,none⟩),.pointer (some ⟨c,0,none⟩)]) (by simp [results,Tryz.results29,go_sem,d0,d1,d2]) rfl ?_
   obtain ⟨e1,e2,e3⟩:=vp K8.1 K8.2;exact ⟨_,rfl,G,a,b,c,rfl,by rw [e1];exact H,by rw [e2];exact J,by rw [e3];exact K⟩
  | false =>
   go_wp2_with fail;refine (fB 0 w6 O O).mono ?_;rintro e wa ⟨a,rfl,n,l,u⟩;have P:=ab (aa G6 l);have Q:Hid (RV wa a (0:Rat) 4):=.inl n;clear n l u k0 k1;go_wp2_with fail;refine (fB 1 wa O O).mono ?_;rintro e wb ⟨b,rfl,n,l,u⟩;have R:=ab (aa P l);have p:=ab (Q.keep0 l);have S:Hid (RV wb b (1:Rat) 4):=.inl n;clear n l u Q P;go_wp2_with fail;refine (fB 0 wb O O).mono ?_;rintro e wc ⟨c,rfl,n,l,u⟩;have T:=ab (aa R l);have s:=ab (p.keep0 l);have t:=ab (S.keep0 l);have U:Hid (RV wc c (0:Rat) 4):=.inl n;clear n l u p S R;have m:=D.out.keep0 T;have k:Hid (a≠o/\b≠o/\c≠o):=⟨mR s m,mR t m,mR U m⟩;obtain ⟨c0,c1,c2,f0,f1,f2⟩:=m.cells;obtain ⟨y,f⟩:=m.setN (.inr rfl) (.inr rfl) (.inr rfl) (.pointer (some ⟨a,0,none⟩)) (.pointer (some ⟨b,0,none⟩)) (.pointer (some ⟨c,0,none⟩));have G:=ab (fZ (aa C T) f.1 (fun r e=>by cases e;exact z));have H:=ab ((s.keepW f.1 f.2 (fun e=>k.1 (zJ e))).mono (by omega:4<=M));have J:=ab ((t.keepW f.1 f.2 (fun e=>k.2.1 (zJ e))).mono (by omega:4<=M));have K:=ab ((U.keepW f.1 f.2 (fun e=>k.2.2 (zJ e))).mono (by omega:4<=M));obtain ⟨d0,d1,d2,_⟩:=y.cells;clear m y f;go_wp2;refine bodyPost_ret (v:=.agg #[.pointer (some ⟨a,0,none⟩),.pointer (some ⟨b,0,none⟩),.pointer (some ⟨c,0,none⟩)]) (by simp [results,Tryz.results29,go_sem,d0,d1,d2]) rfl ?_
   obtain ⟨e1,e2,e3⟩:=rX K8.1 K8.2;exact ⟨_,rfl,G,a,b,c,rfl,by rw [e1];exact H,by rw [e2];exact J,by rw [e3];exact K⟩
open Go Go.RowKit
def Bw (ps:List aA) (k:Nat) (x:Value) (w:World) (h:uA ps k x w) :
  Calls Tryz.prog 12 #[x] w fun e a=>∃ gb,e=.returned (.func (.func 29) #[] #[.pointer (some ⟨gb,0,none⟩)])/\a.cell? ⟨gb,0,none⟩=some x/\w.grownBy a none:=by
 obtain ⟨g,rfl,_⟩:=h;go_enter Tryz.func12,Tryz.ntmps12
 go_wp2;go_ret;exact ⟨w.heap.size,rfl,zG,ag (ae _ _) _⟩
open Go Go.RowKit
def Cz (N:Nat) (V I:Nat->Rat) (k:Nat):Rat:=if k<N then V (k+1) else I (k-N)
def qQ (a:V 0=0) (j:Nat) (b:j<N+1):V j=dg (Cz N V I) j:=by
 unfold dg Cz;by_cases h:j=0
 ·rw [if_pos h,h,a]
 ·rw [if_neg h,if_pos O,show j-1+1=j by omega]
def sT (i:Nat):I i=(fun i=>Cz N V I (N+i)) i:=by
 unfold Cz;simp only;rw [if_neg O,Nat.add_sub_cancel_left]
def Gf (a:cH (N+1) ps) (h:bd (N+1) ps V I):Rk.uy (N+ps.length) (aY N ps (dB ps) (dR ps) (d6 ps)) (Cz N V I) :=
 (Ax a _).2 (h.congr a (fun j b=>qQ h.gnd j b) (fun i _=>sT i))
def Cb (N:Nat) (C:Option Addr) (D:Nat) (ps:List aA) (k:Nat) (x:Value) (u M E:Nat) (F:Int) (w:World) (X:aB w (.slice C ps.length D) ps) (n:cH (N+1) ps) (S:∀ p∈ps,CJ p) (Y:uA ps k x w) (G:w.cell? ⟨u,0,none⟩=some x)
  (hv:∀ p∈ps,p.v.size<=1000000000/\3*p.v.size+10<=M) (hM:4<=M) (hM2:M<=100000000000) (hE:iG (cS N ps) (N+ps.length)<E) (hE2:E<=100000000000) (hml:w.cell? ⟨2,0,none⟩=some (.int .i64 F)) :
  Calls Tryz.prog 11 #[.agg #[.int .i64 ((N:Int)+1),.slice C ps.length D],.func (.func 29) #[] #[.pointer (some ⟨u,0,none⟩)]] w fun e w' =>
   ∃ (vv iv:Value) (how:Int),e=.returned (.tuple #[vv,iv,.int .i64 how])/\w.grownBy w' none/\((how≠0/\vv=.slice none 0 0/\iv=.slice none 0 0/\pH (N+1) ps k)∨(how=0/\∃ V I,bd (N+1) (bu (iO ps k) ps) V I/\(∀ V' I',bd (N+1) (bu (iO ps k) ps) V' I'->(∀ j,j<N+1->V' j=V j)/\∀ i,i<ps.length->I' i=I i)/\gV w' vv (N+1) V (3*E+3*E+2)/\gV w' iv ps.length I (3*E+3*E+2))):=by
 obtain ⟨d,f⟩:=eX (bu (iO ps k) ps);have o:cH (N+1) d:=by rw [f];exact qz n _
 have m:d.length=ps.length:=by rw [f,dq]
 have T:∀ p∈d,¬ p.kind=6/\¬ p.kind=7:=by
  intro p l;obtain ⟨i,hi,rfl⟩:=List.getElem_of_mem l;have s:i<ps.length:=by rw [<- m];exact hi
  have e:d[i]=bX (iO ps k i) ps[i]:=by
   subst f;exact jx s hi
  rw [e];obtain ⟨h6,h7⟩:=AF (iO ps k i) ps[i];rw [h6,h7];rcases S _ (List.getElem_mem s) with h | h | h | h<;>omega
 have A:∀ p∈d,p.a<=N/\p.b<=N:=by
  intro p l;obtain ⟨xa,xb,xc,xd,ea,eb,_,_,h1,h2,_⟩:=o.ends p l;omega
 have H:∀ K J O,aY N d K J O=aY N ps K J O:=by
  intro K J O;rw [f];exact yL N _ ps K J O
 have eE:cS N d=cS N ps:=by rw [f];exact se N ps _
 obtain ⟨g,ex,hc⟩:=Y;refine (tU N 29 #[] #[.pointer (some ⟨u,0,none⟩)] C D ps (dB d) (dR d) (d6 d) M E (refA N d) (fun q=>((jf (aY N d (dB d) (dR d) (d6 d) q) (N+d.length+1):Nat):Rat)) (fun r=>4294967296^cS N d r) F w ?_ (by have:=n.hi;omega) (by have:=n.len;omega) (fun q=>refS_ne q) (fun r=>Nat.one_le_pow _ _ (by decide)) (fun r j=>refA_wh T A r j) (fun q=>refS_wh T q) ?_ (by omega) hE2 ?_).mono ?_
 ·intro wx hg;refine q8 N 29 #[] #[.pointer (some ⟨u,0,none⟩)] C D ps (dB d) (dR d) (d6 d) M F wx (enters_of Tryz.func29 (by kernel_rfl) rfl) (X.keep hg) (by have:=n.hi;omega) (by have:=n.len;omega) hM hM2 (fun p l=>?_) (fun p l=>?_) (fun i hi wy hy _ _=>?_) (hg.cell hml (by simp))
  ·obtain ⟨xa,xb,xc,xd,ea,eb,ec,ed,h1,h2,h3,h4⟩:=n.ends p l;omega
  ·have:=hv p l;omega
  ·have t:=aa hg hy;have s:i<d.length:=by rw [m];exact hi
   refine (DU ps[i] i ps.length (iO ps k) u g M F wy (S _ (List.getElem_mem hi)) (hv _ (List.getElem_mem hi)).1 (hv _ (List.getElem_mem hi)).2 hM2 (t.cell hml (by simp)) (by rw [<- ex];exact t.cell G (by simp)) (fun j R=>t.cell (hc j R) (by simp)) hi (by have:=n.len;omega)).mono ?_;rintro e w' ⟨v,rfl,Q,a,b,c,rfl,r1,r2,r3⟩;have L:d[i]? = some (bX (iO ps k i) ps[i]):=by rw [f,du,zX hi];rfl
   refine ⟨a,b,c,rfl,Q,?_,?_,?_⟩
   ·unfold dB;rw [L];exact r1
   ·unfold dR;rw [L];exact r2
   ·unfold d6;rw [L];exact r3
 ·rw [eE];exact Ag _ _ (by have:=n.hi;have:=n.len;omega) _ hE
 ·intro i hi j;unfold refA;rw [H]
 ·rintro e w' ⟨vv,iv,how,rfl,Q,h⟩;refine ⟨vv,iv,how,rfl,Q,?_⟩;have P:∀ y,Rk.uy (N+ps.length) (aY N ps (dB d) (dR d) (d6 d)) y->bd (N+1) (bu (iO ps k) ps) (dg y) (fun i=>y (N+i)):=fun y h=>by
   rw [<- f];refine (Ax o y).1 ?_;rw [H,m];exact h
  have U:∀ V I,bd (N+1) (bu (iO ps k) ps) V I->Rk.uy (N+ps.length) (aY N ps (dB d) (dR d) (d6 d)) (Cz N V I):=fun V I h=>by
   rw [<- f] at h;have:=Gf o h;rw [H,m] at this;exact this
  rcases h with ⟨rfl,rfl,rfl,hn⟩ | ⟨rfl,rfl,rfl,y,z,q,hy,hz,hq,B⟩ | ⟨rfl,y,hy,hu,p1,p2⟩
  ·exact .inl ⟨by decide,rfl,rfl,qm (.inl fun ⟨V,I,h⟩=>hn _ (U V I h))⟩
  ·refine .inl ⟨by decide,rfl,rfl,qm (.inr ⟨dg y,_,dg z,_,P y hy,P z hz,?_⟩)⟩;by_cases h:q<N
   ·refine .inl ⟨q+1,by omega,?_⟩;unfold dg;rw [if_neg (by omega),if_neg (by omega),Nat.add_sub_cancel];exact B
   ·refine .inr ⟨q-N,by omega,?_⟩;show y (N+(q-N))≠z (N+(q-N))
    rw [show N+(q-N)=q by omega];exact B
  ·refine .inr ⟨rfl,dg y,fun i=>y (N+i),P y hy,fun V' I' W=>?_,p1,p2⟩;have hz:=hu _ (U V' I' W);refine ⟨fun j R=>?_,fun i hi=>?_⟩
   ·rw [qQ W.gnd j R];unfold dg;split
    ·rfl
    ·exact hz _ (by omega)
   ·exact (sT (N:=N) (V:=V') (I:=I') i).trans (hz (N+i) (by omega))
open Go Go.RowKit
attribute [local simp] bL eJ dP CL nk
def sgn_nn (h:¬ ja q.num<0):0<=q:=by
 rw [<- Rat.num_nonneg];unfold ja at h;split at h
 ·omega
 ·omega
def sgn_np (h:¬ 0<ja q.num):q<=0:=by
 have d:q.num<=0:=by
  unfold ja at h;split at h
  ·omega
  ·split at h
   ·omega
   ·omega
 rcases Rat.le_total (a:=q) (b:=0) with c | c
 ·exact c
 ·have:=Rat.num_nonneg.2 c;have e:q.num=0:=O
  rw [Rat.num_eq_zero.1 e];exact Rat.le_refl
def sgn_lt (h:ja q.num<0):¬ 0<=q:=by
 intro a;have:=Rat.num_nonneg.2 a;unfold ja at h;split at h
 ·omega
 ·split at h<;>omega
def sgn_gt (h:0<ja q.num):¬ q<=0:=by
 intro c;have a:0<q.num:=by
  unfold ja at h;split at h
  ·omega
  ·split at h<;>omega
 have b:q=0:=Rat.le_antisymm c (Rat.num_nonneg.1 O);rw [b] at a;exact absurd a zD
def RFit (ps:List aA) (k:Nat) (V I:Nat->Rat) (i:Nat):Prop:=∀ h:i<ps.length,ps[i].kind=8->(iO ps k i=true->0<=I i)/\(iO ps k i=false->V ps[i].a.toNat-V ps[i].b.toNat<=0)
def RfR (W:World) (ps:List aA) (k:Nat) (V I:Nat->Rat) (iv:Value) (wr:World):Prop:=∃ i:Nat,i<=ps.length/\iv=.int .i64 i/\(∀ j,j<i->RFit ps k V I j)/\W.grownBy wr none
def Fb (N:Nat) (po:Option Addr) (pc:Nat) (ps:List aA) (k:Nat) (V I:Nat->Rat) (x vv iv:Value) (L:Nat) (w:World) (P:aB w (.slice po ps.length pc) ps) (hR:cH (N+1) ps) (hx:uA ps k x w) (hv:gV w vv (N+1) V L) (hi:gV w iv ps.length I L) (hD:2<=L) (hL:L<=1000000000000) :
  Calls Tryz.prog 13 #[.agg #[.int .i64 ((N:Int)+1),.slice po ps.length pc],x,vv,iv] w fun e f=>∃ b,e=.returned (.bool b)/\w.grownBy f none/\(b=true↔∀ i,i<ps.length->RFit ps k V I i):=by
 have hE:=hR.len;obtain ⟨o,rfl,he⟩:=hx;obtain ⟨hG,vc,rfl,hH,hq,k1⟩:=hv;obtain ⟨hI,ic,rfl,hJ,hr,k2⟩:=hi;have K1:=ab k1;have K2:=ab k2;have KO:=ab he;have HP:=ab P;have HR:=ab hR;unfold maxLen at hq hr;clear k1 k2 P hR he;obtain ⟨W,hW⟩:=eX (w.alloc (Obj.cells #[.int .i64 ((N:Int)+1),.slice po ps.length pc] 24));have U:Hid (w.grownBy W none):=by rw [hW];exact ag (ae _ _) _
 have NC:Hid (∀ wx,W.grownBy wx none->dP wx w.heap.size (.int .i64 ((N:Int)+1)) (.slice po ps.length pc)):=by
  intro wx hg;exact dP.k0 (w:=W) (by rw [hW];exact ⟨zG,zG⟩) hg
 obtain ⟨n0,n1⟩:=NC.out W (ae _ _);go_enter Tryz.func13,Tryz.ntmps13
 go_upto_region 1 with fail;rw [<- hW];clear hW;go_wp2;go_loopw [14] (fun iv wr=>Hid (RfR W ps k V I iv wr)) (fun iv _=>ps.length-(intOf iv).toNat)
 case atStart=>exact ⟨0,O,rfl,fun j h=>O,ae _ _⟩
 case round =>
  obtain ⟨i,hi,rfl,D,hg⟩:=hrel.out;have HF:=ab D;have C:=ab hg;clear D hg hrel n0 n1;by_cases hlt:i<ps.length
  ·obtain ⟨b,off,rfl,rc,hu⟩:=HP.out.row (aa U C) hlt;obtain ⟨m,n,xc,xd,ea,eb,ec,ed,ha,hb,hc,hd⟩:=HR.out.ends ps[i] (List.getElem_mem hlt);obtain ⟨p,P⟩:=eX (ps[i]);have t:=ab P;rw [<- P] at rc ea eb;have Q:=ab (And.intro ea eb);clear P hu ec ed hc hd ea eb;obtain ⟨r,s,R,rfl,a0,a1⟩:=K1.out m ha;obtain ⟨hM,hN,pb,ee,e0,e1⟩:=K1.out n hb;cases ee
   obtain ⟨S,oi,T,rfl,i0,i1⟩:=K2.out i hlt;have X:=aa U C;have A3:=ab (a1.keep0 X);have E3:=ab (e1.keep0 X);have I3:=ab (i1.keep0 X);obtain ⟨bo,J⟩:=eX (iO ps k i);have z:Hid (iO ps k i=bo):=J.symm;have o0:=KO.out i hlt;rw [<- J] at o0;clear J;go_upto_region 4 with fail;obtain ⟨l,M⟩:=eX wr.heap.size;obtain ⟨w4,B⟩:=eX (wr.alloc (Obj.cells #[.int .i64 p.kind,.int .i64 p.a,.int .i64 p.b,.int .i64 p.c,.int .i64 p.d,.string p.v] 55));have A:Hid (wr.grownBy w4 none):=by rw [B];exact ag (ae _ _) _
   have PB:Hid (nk w4 l p):=by rw [M];exact ie wr p 55 (by rw [B];exact ae _ _)
   rw [<- B,<- M];have S0:Hid (∀ f,w4.grownBy f none->f.cell? ⟨r,s+m,none⟩=some (.pointer (some ⟨R,0,none⟩))/\f.cell? ⟨r,s+n,none⟩=some (.pointer (some ⟨pb,0,none⟩))/\f.cell? ⟨S,oi+i,none⟩=some (.pointer (some ⟨T,0,none⟩))/\f.cell? ⟨o,i,none⟩=some (.bool bo)/\f.cell? ⟨l,0,none⟩=some (.int .i64 p.kind)/\f.cell? ⟨l,1,none⟩=some (.int .i64 m)/\f.cell? ⟨l,2,none⟩=some (.int .i64 n)):=by
    intro wx g;have g2:=aa X (aa A g);have pb:=PB.out.k0 g;rw [nk,Q.1,Q.2] at pb;exact ⟨g2.cell a0 Z,g2.cell e0 Z,g2.cell i0 Z,g2.cell o0 Z,pb.1,pb.2.1,pb.2.2.1⟩
   clear B M rc a0 a1 e0 e1 i0 i1 o0 PB X;have hw:(0:Int)<=((m:Nat):Int):=O
   have hy:((m:Nat):Int)<(N:Int)+1:=O
   have hz:(0:Int)<=((n:Nat):Int):=O
   have hA:((n:Nat):Int)<(N:Int)+1:=O
   have hB:(0:Int)<=((i:Nat):Int):=O
   have hC:((i:Nat):Int)<(ps.length:Int):=O
   by_cases F:p.kind=8
   ·rw [F] at S0;obtain ⟨sg,hl⟩:=eX (ja (I i).num);have G:=ab hl;obtain ⟨cm,hm⟩:=eX (ja (V m-V n).num);have H:=ab hm;have Y:=ab F;clear hl hm F;have s0:=S0.out w4 (ae _ _);cases bo with
    | true =>
     refine hd (fun f=>f.cell? ⟨r,s+m,none⟩=some (.pointer (some ⟨R,0,none⟩))/\f.cell? ⟨r,s+n,none⟩=some (.pointer (some ⟨pb,0,none⟩))/\f.cell? ⟨S,oi+i,none⟩=some (.pointer (some ⟨T,0,none⟩))/\f.cell? ⟨o,i,none⟩=some (.bool true)/\f.cell? ⟨l,0,none⟩=some (.int .i64 8)/\f.cell? ⟨l,1,none⟩=some (.int .i64 m)/\f.cell? ⟨l,2,none⟩=some (.int .i64 n)) (fun hHeld=>?_);refine tk 26 [(0,19,.pointer (some ⟨l,0,none⟩)),(1,20,.int .i64 8),(2,21,.bool true),(3,22,.bool true),(4,23,.slice (some ⟨o,0,none⟩) ps.length ps.length),(5,24,.int .i64 i),(6,25,.pointer (some ⟨o,i,none⟩)),(7,26,.bool true),(8,27,.bool true),(9,28,.slice (some ⟨S,oi,none⟩) ps.length ic),(10,29,.int .i64 i),(11,30,.pointer (some ⟨S,oi+i,none⟩)),(12,31,.pointer (some ⟨T,0,none⟩))] ?_;try simp only [zU]
     refine cX 25 13 (fun K E=>?_);simp only [ax,q4,q5,q6,q7];go_simp
     go_at_call 31
     refine (mU T (I i) L _ (I3.keep0 (aa A aC))).mono ?_;rintro e wa ⟨rfl,rfl⟩;rw [<- G];go_wp2_with fail;refine bk E (fun hHeld=>?_);clear E K;try simp only [zU]
     by_cases hs:sg<0
     ·refine tk 22 [(14,33,.bool true),(15,34,.bool true),(16,35,.bool true)] ?_;try simp only [zU]
      refine sk 2 [(17,36),(18,37),(19,38),(20,39),(21,40),(22,41),(23,42),(24,43),(25,44),(26,45),(27,46),(28,47),(29,48),(30,49),(31,50),(32,51),(33,52),(34,53),(35,54),(36,55)] ?_;try simp only [zU]
      refine tk 0 [(37,56,.bool true),(38,57,.bool true)] ?_;try simp only [zU]
      refine wpAnyH_done zK ?_ _;go_wp2;go_ret;exact ⟨false,rfl,aa U (aa C (aa A aC)),⟨fun h=>(by cases h),fun y=>absurd ((y i hlt hlt (by rw [<- t];exact Y)).1 z) (sgn_lt (by rw [<- G];exact hs))⟩⟩
     ·refine tk 16 [(14,33,.bool false),(15,34,.bool false),(16,35,.bool false),(17,36,.slice (some ⟨o,0,none⟩) ps.length ps.length),(18,37,.int .i64 i),(19,38,.pointer (some ⟨o,i,none⟩)),(20,39,.bool true),(21,40,.bool false),(22,41,.bool false)] ?_;try simp only [zU]
      refine sk 3 [(23,42),(24,43),(25,44),(26,45),(27,46),(28,47),(29,48),(30,49),(31,50),(32,51),(33,52),(34,53),(35,54)] ?_;try simp only [zU]
      refine tk 0 [(36,55,.bool false),(37,56,.bool false),(38,57,.bool false)] ?_;try simp only [zU]
      refine wpAnyH_done zK ?_ _;go_wp2;go_roundw
      case rel=>exact ⟨i+1,O,zN,fun j hj=>by
       by_cases u:j=i
       ·subst u;exact fun h F=>⟨fun _=>sgn_nn (by rw [<- G];exact hs),fun D=>by rw [z] at D;cases D⟩
       ·exact HF j O,aa C (aa A aC)⟩
      case measure=>exact bH
    | false =>
     refine hd (fun f=>f.cell? ⟨r,s+m,none⟩=some (.pointer (some ⟨R,0,none⟩))/\f.cell? ⟨r,s+n,none⟩=some (.pointer (some ⟨pb,0,none⟩))/\f.cell? ⟨S,oi+i,none⟩=some (.pointer (some ⟨T,0,none⟩))/\f.cell? ⟨o,i,none⟩=some (.bool false)/\f.cell? ⟨l,0,none⟩=some (.int .i64 8)/\f.cell? ⟨l,1,none⟩=some (.int .i64 m)/\f.cell? ⟨l,2,none⟩=some (.int .i64 n)) (fun hHeld=>?_);refine tk 30 [(0,19,.pointer (some ⟨l,0,none⟩)),(1,20,.int .i64 8),(2,21,.bool true),(3,22,.bool true),(4,23,.slice (some ⟨o,0,none⟩) ps.length ps.length),(5,24,.int .i64 i),(6,25,.pointer (some ⟨o,i,none⟩)),(7,26,.bool false),(8,27,.bool false)] ?_;try simp only [zU]
     refine sk 24 [(9,28),(10,29),(11,30),(12,31),(13,32),(14,33)] ?_;try simp only [zU]
     refine tk 6 [(15,34,.bool false),(16,35,.bool false),(17,36,.slice (some ⟨o,0,none⟩) ps.length ps.length),(18,37,.int .i64 i),(19,38,.pointer (some ⟨o,i,none⟩)),(20,39,.bool false),(21,40,.bool true),(22,41,.bool true),(23,42,.slice (some ⟨r,s,none⟩) (N+1) vc),(24,43,.pointer (some ⟨l,1,none⟩)),(25,44,.int .i64 m),(26,45,.pointer (some ⟨r,s+m,none⟩)),(27,46,.pointer (some ⟨R,0,none⟩)),(28,47,.slice (some ⟨r,s,none⟩) (N+1) vc),(29,48,.pointer (some ⟨l,2,none⟩)),(30,49,.int .i64 n),(31,50,.pointer (some ⟨r,s+n,none⟩)),(32,51,.pointer (some ⟨pb,0,none⟩))] ?_;try simp only [zU]
     refine cX 5 33 (fun K E=>?_);simp only [ax,q4,q5,q6,q7];go_simp
     go_at_call 32
     refine (Fd R pb (V m) (V n) L L _ ((A3.keep0 (aa A aC)).x O) ((E3.keep0 (aa A aC)).x O) O).mono ?_;rintro e wb ⟨ho,rfl,y1,y2,y3⟩;have GB:=ab (aa aC y2);have RD:Hid (RV wb ho (V m-V n) (L+L+3)):=.inl y1;clear y1 y2 y3 s0 hHeld;have s0:=S0.out wb GB;go_wp2_with fail;refine bk E (fun hHeld=>?_);clear E K;try simp only [zU]
     refine cX 4 34 (fun K E=>?_);simp only [ax,q4,q5,q6,q7];go_simp
     go_at_call 31
     refine (mU ho (V m-V n) _ _ (RD.keep0 (gx (ae _ _)))).mono ?_;rintro e wc ⟨rfl,rfl⟩;rw [<- H];go_wp2_with fail;refine bk E (fun hHeld=>?_);clear E K;try simp only [zU]
     by_cases hc:0<cm
     ·refine tk 0 [(35,54,.bool true),(36,55,.bool true),(37,56,.bool true),(38,57,.bool true)] ?_;try simp only [zU]
      refine wpAnyH_done zK ?_ _;go_wp2;go_ret;exact ⟨false,rfl,aa U (aa C (aa A (by first | exact GB | exact aa GB aC))),⟨fun h=>(by cases h),fun y=>absurd ((y i hlt hlt (by rw [<- t];exact Y)).2 z) (by rw [<- t,Q.1,Q.2,Int.toNat_natCast,Int.toNat_natCast];exact sgn_gt (by rw [<- H];exact hc))⟩⟩
     ·refine tk 0 [(35,54,.bool false),(36,55,.bool false),(37,56,.bool false),(38,57,.bool false)] ?_;try simp only [zU]
      refine wpAnyH_done zK ?_ _;go_wp2;go_roundw
      case rel=>exact ⟨i+1,O,zN,fun j hj=>by
       by_cases u:j=i
       ·subst u;exact fun h F=>⟨fun D=>(by rw [z] at D;cases D),fun _=>by rw [<- t,Q.1,Q.2,Int.toNat_natCast,Int.toNat_natCast];exact sgn_np (by rw [<- H];exact hc)⟩
       ·exact HF j O,aa C (aa A (by first | exact GB | exact aa GB aC))⟩
      case measure=>exact bH
   ·have hF:(p.kind==8)=false:=by simpa using F
    have s0:=S0.out w4 (ae _ _);refine hd (fun f=>f.cell? ⟨r,s+m,none⟩=some (.pointer (some ⟨R,0,none⟩))/\f.cell? ⟨r,s+n,none⟩=some (.pointer (some ⟨pb,0,none⟩))/\f.cell? ⟨S,oi+i,none⟩=some (.pointer (some ⟨T,0,none⟩))/\f.cell? ⟨o,i,none⟩=some (.bool bo)/\f.cell? ⟨l,0,none⟩=some (.int .i64 p.kind)/\f.cell? ⟨l,1,none⟩=some (.int .i64 m)/\f.cell? ⟨l,2,none⟩=some (.int .i64 n)) (fun hHeld=>?_);refine tk 35 [(0,19,.pointer (some ⟨l,0,none⟩)),(1,20,.int .i64 p.kind),(2,21,.bool false),(3,22,.bool false)] ?_;try simp only [zU]
    refine sk 1 [(4,23),(5,24),(6,25),(7,26),(8,27),(9,28),(10,29),(11,30),(12,31),(13,32),(14,33),(15,34),(16,35),(17,36),(18,37),(19,38),(20,39),(21,40),(22,41),(23,42),(24,43),(25,44),(26,45),(27,46),(28,47),(29,48),(30,49),(31,50),(32,51),(33,52),(34,53),(35,54),(36,55),(37,56)] ?_;try simp only [zU]
    refine tk 0 [(38,57,.bool false)] ?_;try simp only [zU]
    refine wpAnyH_done zK ?_ _;go_wp2;go_roundw
    case rel=>exact ⟨i+1,O,zN,fun j hj=>by
     by_cases u:j=i
     ·subst u;exact fun h hk=>absurd (by rw [t];exact hk) F
     ·exact HF j O,aa C (aa A aC)⟩
    case measure=>exact bH
  ·obtain rfl:ps.length=i:=O
   go_wp2;go_ret;exact ⟨true,rfl,aa U C,⟨fun _=>HF,fun _=>rfl⟩⟩
def Cs {n:Nat} {c:Nat->Bool} (h:bd n (bu c ps) V I) {i:Nat} (hi:i<ps.length) (f:ps[i].kind=8) (r:ps[i].q=0):if c i then V ps[i].a.toNat-V ps[i].b.toNat=0 else I i=0:=by
 have d:i<(bu c ps).length:=by rw [dq];exact hi
 have p:=h.part i d;rw [jx hi d] at p;obtain ⟨g,j,s,t,u⟩:=dt (c i) ps[i];cases ho:c i with
 | true =>
  rw [ho] at p g j;obtain ⟨k,m,o⟩:=vp f r;have l:cA (bX true ps[i]).kind (bX true ps[i]).q=0:=by
   have e:bX true ps[i] = { ps[i] with kind:=4 }:=by unfold bX;rw [if_pos ⟨f,rfl⟩]
   rw [e];simp [cA]
  rw [k,m,o,l,g,j] at p;show _=_
  grind
 | false =>
  rw [ho] at p g j;obtain ⟨k,m,o⟩:=rX f r;have l:cA (bX false ps[i]).kind (bX false ps[i]).q=0:=by
   have e:bX false ps[i]=ps[i]:=by unfold bX;rw [if_neg Z]
   rw [e,f];simp [cA]
  rw [k,m,o,l] at p;show _=_
  grind
def rTV_at (b:Nat) (q:Rat) (L K:Nat) (w:World) (h:RV w b q L) (c:bh K q) (a:K<=50000000) :
  Calls Tryz.prog 33 #[.pointer (some ⟨b,0,none⟩)] w fun e d=>e=.returned (.string ⟨(cE q).toArray⟩)/\w.grownBy d none:=by
 have k:=h.tightW c;clear h;rcases k with h | ⟨rfl,h⟩
 ·exact rT_at b q K w h a
 ·exact rT_nil b K w h a
def TelR (W:World) (n:Nat) (R:Nat->Rat) (ov v:Value) (wr:World):Prop :=
 ∃ i:Nat,i<=n/\v=.int .i64 i/\bM sv 50 wr W.heap.size ov (aL R i)/\W.grownBy wr none
def STellE (w:World) (n:Nat) (R:Nat->Rat) (e:Ending) (w':World):Prop:=∃ v,e=.returned v/\bM sv 50 w' w.heap.size v (aL R n)/\w.grownBy w' none
def gV.keep0 {w a:World} {v:Value} {n L:Nat} {R:Nat->Rat} (h:gV w v n R L) (g:w.grownBy a none):gV a v n R L:=by
 obtain ⟨d,cap,e,f,i,k⟩:=h;refine ⟨d,cap,e,f,i,fun j m=>?_⟩;obtain ⟨b,off,p,l,c,r⟩:=k j m;exact ⟨b,off,p,l,g.cell c Z,r.keep0 g⟩
def At (v:Value) (n:Nat) (Q:Nat->Rat) (L K:Nat) (w:World) (h:gV w v n Q L) (hn:n<=3000) (c:∀ k,k<n->bh K (Q k)) (C:K<=50000000) :
  Calls Tryz.prog 14 #[v] w fun e P=>STellE w n Q e P:=by
 obtain ⟨S,cap,rfl,hc,M,x⟩:=h;unfold maxLen at M;have D:=ab x;have E:=ab c;clear x c;go_enter Tryz.func14,Tryz.ntmps14
 go_wp2;go_loopw [3,8] (fun R v wr=>Hid (TelR w n Q R v wr)) (fun _ v _=>n-(intOf v).toNat)
 case atStart=>exact ⟨0,O,rfl,fA,ae _ _⟩
 case round =>
  obtain ⟨i,hi,rfl,t,y⟩:=hrel.out;obtain ⟨T,U,rfl⟩:=t.shape;have l:=ab t;have d:=ab y;clear t y hrel;by_cases hlt:i<n
  ·obtain ⟨g,off,p,rfl,c0,z⟩:=D.out i hlt;have c0:=d.out.cell c0 Z;have F:=ab (z.keep0 d);have c:=E.out i hlt;have m:=ab c;clear c z;go_wp2_with fail;refine (rTV_at _ (Q i) _ K _ F m C).mono ?_;rintro e A ⟨rfl,B⟩;have o:=ab B;clear B c0;have G:w.heap.size<=A.heap.size:=Nat.le_trans d.size o.size;go_wp2_with (at_builtin;refine ke sv 50 (sv ⟨#[]⟩) 16 _ rfl _ _ 31 rfl w.heap.size Tryz.underlying31 Tryz.infoQ rfl _ (aL Q i) rfl (l.keep0 (ag o _)) A.heap.size ⟨(cE (Q i)).toArray⟩ rfl zG rfl (by rw [aI];omega) O (by simp;omega) ?_)
   intro s f u a j;have H:Hid (bM sv 50 u w.heap.size (.slice s ((aL Q i).length+1) f) (aL Q (i+1))):=by rw [gN];exact a
   have J:Hid (w.grownBy u none):=by
    refine aw (r:=none) (aa d (ag o _)) j (fun _ _ e=>e) (fun b hb e=>?_);have:=(l.fresh b e.symm).1;omega
   clear a j;go_wp2;go_roundw
   case rel=>exact ⟨i+1,O,zN,H,J⟩
   case measure=>exact bH
  ·obtain rfl:i=n:=O
   go_wp2;go_ret;exact ⟨_,rfl,l,d⟩
end Go.Proofs.YtbomdfhdocaagaaGreatDoor
