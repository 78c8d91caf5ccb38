/- Contracts. -/
import Derived.Test.YtkbmbmdemajoaaaGreatDoorXPD
import Derived.Test.YtkbmbmdemajoaaaGreatDoorXPs
namespace Go.Proofs.YtkbmbmdemajoaaaGreatDoor
open Go.RowKit
set_option linter.unusedVariables false
set_option linter.unusedSimpArgs false
set_option maxHeartbeats 8000000
set_option maxRecDepth 10000
variable {ps:List aD} {V I:Nat->Rat}
theorem zu (a:Bool) (p:aD):((bK a p).kind=6↔p.kind=6)/\((bK a p).kind=7↔p.kind=7):=by
 unfold bK;split
 ·rename_i h;constructor
  ·constructor
   ·intro e;exact absurd e Z
   ·intro e;omega
  ·constructor
   ·intro e;exact absurd e Z
   ·intro e;omega
 ·exact ⟨Iff.rfl,Iff.rfl⟩
theorem xW (N:Nat) (a:Nat->Bool) (ps:List aD) (K J O:Nat->Rat):aW N (bh a ps) K J O=aW N ps K J O:=by
 funext j
 unfold aW;split
 ·rw [cJ];funext u
  unfold du;split
  ·rw [dt];cases hp:ps[u-N]? with
   | none=>rfl
   | some p =>
    obtain ⟨b,c,_⟩:=cV (a (u-N)) p;simp only [Option.map_some,iu,b,c]
  ·rfl
 ·unfold lD;rw [dt,cJ];cases hp:ps[j-N]? with
  | none=>rfl
  | some p =>
   obtain ⟨b,c,d,e,f⟩:=cV (a (j-N)) p;obtain ⟨g,h⟩:=zu (a (j-N)) p;simp only [Option.map_some,b,c,d,e,f,g,h]
theorem lin_0 (v:Rat):kY v 0:=⟨0,0,zD,zD,by simp [Rat.add_zero]⟩
theorem lin_1 (v:Rat):kY v 1:=⟨1,0,zD,zD,by simp [Rat.add_zero]⟩
theorem lin_m (v:Rat):kY v (-1):=⟨-1,0,zD,zD,by simp [Rat.add_zero]⟩
theorem lin_of {v q:Rat} (h:q=0∨q=1∨q = -1):kY v q:=by
 rcases h with rfl | rfl | rfl
 ·exact lin_0 v
 ·exact lin_1 v
 ·exact lin_m v
theorem ref_lin {N i:Nat} (hi:i<ps.length) (a:¬ ps[i].kind=6) (b:¬ ps[i].kind=7) (j:Nat):kY ps[i].q (aW N ps (dL ps) (ff ps) (fi ps) (N+i) j):=by
 rw [oq hi a b];unfold dL ff fi;rw [zX hi];simp only;rw [dN];split
 ·exact uE _ _
 ·rw [dN];split
  ·exact uD _ _
  ·unfold cE;rcases sQ ps[i].kind ps[i].q with e | e<;>rw [e]
   all_goals
    apply lin_of;repeat' split
    all_goals
     dsimp only
     first
      | (left;grind)
      | (right;left;grind)
      | (right;right;grind)
theorem pQ (N:Nat) (ps:List aD) (i:∀ p∈ps,¬ p.kind=6/\¬ p.kind=7) (r:Nat):∃ D M:Nat,0<D/\(∀ j,(aW N ps (dL ps) (ff ps) (fi ps) r j).den∣D)/\(∀ j,rN (aW N ps (dL ps) (ff ps) (fi ps) r j)<=M)/\M*D<=4294967296^cU N ps r/\D<=4294967296^cU N ps r:=by
 by_cases hn:r<N
 ·have c:∀ j,(aW N ps (dL ps) (ff ps) (fi ps) r j).den=1/\rN (aW N ps (dL ps) (ff ps) (fi ps) r j)<=1:=by
   intro j;unfold aW;rw [if_pos hn];unfold du;split
   ·split
    ·rename_i p n;unfold iu;by_cases e:p.a=((r+1:Nat):Int)<;>by_cases k:p.b=((r+1:Nat):Int)<;>simp only [e,k,if_true,if_false]<;>exact ⟨rfl,zD⟩
    ·exact ⟨rfl,zD⟩
   ·exact ⟨rfl,zD⟩
  exact ⟨1,1,zD,fun j=>by rw [(c j).1];exact Nat.dvd_refl _,fun j=>(c j).2,by rw [Nat.mul_one];exact Nat.one_le_pow _ _ zD,Nat.one_le_pow _ _ zD⟩
 ·have d:cU N ps r=match ps[r-N]? with | some p=>2*(p.v.size+1)+1 | none=>0:=by unfold cU;rw [if_neg hn];try rfl
  by_cases hi:r-N<ps.length
  ·rw [zX hi] at d;simp only at d;obtain ⟨l,m⟩:=i _ (List.getElem_mem hi);have f:=ref_lin (N:=N) hi l m;rw [show N+(r-N)=r by omega] at f;obtain ⟨f1,h⟩:=ps[r-N].fit;refine ⟨ps[r-N].q.den,ps[r-N].q.den+rN ps[r-N].q,Rat.den_pos _,fun j=>(gS (f j)).1,fun j=>(gS (f j)).2,?_,?_⟩
   ·rw [d];have e:(4294967296:Nat)^(2*(ps[r-N].v.size+1)+1)=(4294967296*4294967296^(ps[r-N].v.size+1))*4294967296^(ps[r-N].v.size+1):=by
     rw [Nat.pow_succ,Nat.two_mul,Nat.pow_add,Nat.mul_comm,Nat.mul_assoc]
    rw [e];exact Nat.mul_le_mul O (Nat.le_of_lt h)
   ·rw [d];exact Nat.le_trans (Nat.le_of_lt h) (Nat.pow_le_pow_right zD O)
  ·have g:∀ j,aW N ps (dL ps) (ff ps) (fi ps) r j=0:=by
    intro j;unfold aW lD;rw [if_neg hn,List.getElem?_eq_none O]
   exact ⟨1,1,zD,fun j=>by rw [g];exact Nat.dvd_refl _,fun j=>by rw [g];decide,by rw [Nat.mul_one];exact Nat.one_le_pow _ _ zD,Nat.one_le_pow _ _ zD⟩
theorem ref_out {N:Nat} (d:∀ p∈ps,¬ p.kind=6/\¬ p.kind=7) (c:∀ p∈ps,p.a<=N/\p.b<=N) (r j:Nat) (h:N+ps.length<j):aW N ps (dL ps) (ff ps) (fi ps) r j=0:=by
 by_cases hn:r<N
 ·unfold aW;rw [if_pos hn];unfold du;rw [if_neg (by omega)]
 ·by_cases hi:r-N<ps.length
  ·obtain ⟨f,g⟩:=d _ (List.getElem_mem hi);obtain ⟨i,k⟩:=c _ (List.getElem_mem hi);have e:=oq (N:=N) (K:=dL ps) (J:=ff ps) (O:=fi ps) hi f g;rw [show N+(r-N)=r by omega] at e;rw [e,dN,if_neg (by omega),dN,if_neg (by omega)];unfold cE;rw [if_neg (by omega),if_neg (by omega)]
  ·unfold aW lD;rw [if_neg hn,List.getElem?_eq_none (by omega)]
def refA (N:Nat) (ps:List aD) (r j:Nat):Rat:=((iR (aW N ps (dL ps) (ff ps) (fi ps) r) (N+ps.length+1):Nat):Rat)*aW N ps (dL ps) (ff ps) (fi ps) r j
theorem refA_wh {N:Nat} (d:∀ p∈ps,¬ p.kind=6/\¬ p.kind=7) (c:∀ p∈ps,p.a<=N/\p.b<=N) (r j:Nat):gF (4294967296^cU N ps r) (refA N ps r j):=by
 unfold refA;by_cases f:j<N+ps.length+1
 ·obtain ⟨D,M,g,h,i,k,l⟩:=pQ N ps d r;have e:((iR (aW N ps (dL ps) (ff ps) (fi ps) r) (N+ps.length+1):Nat):Rat)*aW N ps (dL ps) (ff ps) (fi ps) r j=cj (aW N ps (dL ps) (ff ps) (fi ps) r) (N+ps.length+1) j:=by unfold cj;exact Rat.mul_comm _ _
  rw [e];exact ⟨nh _ _ _ f,Nat.le_trans (jX _ D M g h i _ j).1 k⟩
 ·rw [ref_out d c r j O,Rat.mul_zero];exact ⟨rfl,Nat.zero_le _⟩
theorem refS_wh {N:Nat} (a:∀ p∈ps,¬ p.kind=6/\¬ p.kind=7) (r:Nat):gF (4294967296^cU N ps r) ((iR (aW N ps (dL ps) (ff ps) (fi ps) r) (N+ps.length+1):Nat):Rat):=by
 obtain ⟨D,M,b,c,d,e,f⟩:=pQ N ps a r;have:=Nat.le_of_dvd b (tM _ D c (N+ps.length+1));exact ⟨Rat.den_natCast _,by unfold rN;rw [Rat.num_natCast,Int.natAbs_natCast];omega⟩
theorem refS_ne {N:Nat} (r:Nat):((iR (aW N ps (dL ps) (ff ps) (fi ps) r) (N+ps.length+1):Nat):Rat)≠0:=by
 have:=oQ (aW N ps (dL ps) (ff ps) (fi ps) r) (N+ps.length+1);intro h;have a:=congrArg Rat.num h;rw [Rat.num_natCast] at a;have:(iR (aW N ps (dL ps) (ff ps) (fi ps) r) (N+ps.length+1):Int)=0:=a;omega
attribute [local simp] Pc6 nf
theorem mF.keep0 {w a:World} {b:Nat} {T:TypeId} {x y z:Value} (h:mF w b T x y z) (g:w.grownBy a none):mF a b T x y z:=by
 have c:b<w.heap.size:=(zZ h).1;unfold mF at h ⊢;rw [g.block b c Z,h]
theorem mi {w:World} {a g:Nat} {q:Rat} {L:Nat} {T:TypeId} {p:Option Addr} {y z:Value} (h:RV w a q L) (k:mF w g T (.pointer p) y z):a≠g:=by
 rintro rfl;obtain ⟨x,c⟩:=h.bool;rw [k.cells.1] at c;simp at c
theorem uy {q:aD} (h:q.kind=8) (a:q.q=0):bE (bK true q).kind (bK true q).q=1/\bF (bK true q).kind (bK true q).q=0/\bG (bK true q).kind (bK true q).q=0:=by
 have e:bK true q = { q with kind:=4 }:=by unfold bK;rw [if_pos ⟨h,rfl⟩]
 have b:(bK true q).q=0:=by rw [e];exact a
 rw [b,e];exact ⟨by simp [bE],by simp [bF],by simp [bG]⟩
theorem rk {q:aD} (h:q.kind=8) (a:q.q=0):bE (bK false q).kind (bK false q).q=0/\bF (bK false q).kind (bK false q).q=1/\bG (bK false q).kind (bK false q).q=0:=by
 have e:bK false q=q:=by unfold bK;rw [if_neg Z]
 rw [e,h,a];exact ⟨by simp [bE],by simp [bF],by simp [bG]⟩
theorem yr (w:World) (T:TypeId) (x y z:Value):mF (w.alloc (Obj.cells #[x,y,z] T)) w.heap.size T x y z:=heap_alloc_new _ _
theorem CQ (q:aD) (i L:Nat) (on:Nat->Bool) (gb g M:Nat) (ml:Int) (w:World) (hq:wJ q) (h1:q.v.size<=1000000000) (h2:3*q.v.size+10<=M) (hM:M<=100000000000) (F:w.cell? ⟨1,0,none⟩=some (.int .i64 ml))
  (hb:w.cell? ⟨gb,0,none⟩=some (.slice (some ⟨g,0,none⟩) L L)) (hon:∀ j,j<L->w.cell? ⟨g,j,none⟩=some (.bool (on j))) (hi:i<L) (hL:L<=1000) :
  Calls Tryz.prog 23 #[.int .i64 (i:Nat),.agg #[.int .i64 q.kind,.int .i64 q.a,.int .i64 q.b,.int .i64 q.c,.int .i64 q.d,.string q.v],.pointer (some ⟨gb,0,none⟩)] w fun e w'=>∃ v,e=.returned v/\w.grownBy w' none/\TieV w' (bK (on i) q) M v:=by
 have HQ:=ab hq;have HB:=ab hb;have HO:=ab (hon i hi);have he:=ab F;obtain ⟨bo,U⟩:=eX (on i);rw [<- U] at HO ⊢;clear hq hb hon F U;obtain ⟨gp,B⟩:=eX w.heap.size;obtain ⟨o,x⟩:=eX (w.heap.size+1);obtain ⟨W,E⟩:=eX ((w.alloc (Obj.cells #[.int .i64 q.kind,.int .i64 q.a,.int .i64 q.b,.int .i64 q.c,.int .i64 q.d,.string q.v] 45)).alloc (Obj.cells #[.pointer none,.pointer none,.pointer none] 70));have C:Hid (w.grownBy W none):=by rw [E];exact ag (ag (ae _ _) _) _
 have z:Hid (w.heap.size<=o):=by show _<=_;omega
 have hj:Hid (o<W.heap.size):=by show _<_;rw [E,x];simp
 have PB:Hid (nf W gp q):=by rw [B];exact gJ w q 45 (by rw [E];exact ag (ae _ _) _)
 have D:Hid (mF W o 70 (.pointer none) (.pointer none) (.pointer none)):=by
  have hh:=yr (w.alloc (Obj.cells #[.int .i64 q.kind,.int .i64 q.a,.int .i64 q.b,.int .i64 q.c,.int .i64 q.d,.string q.v] 45)) 70 (.pointer none) (.pointer none) (.pointer none);rw [World.size_alloc,<- x,<- E] at hh;exact hh
 go_enter Tryz.func23,Tryz.ntmps23
 go_upto_region 1 with fail;rw [<- x,<- B,<- E];clear E x B;obtain ⟨b0,b1,b2,b3,b4,b5⟩:=PB.out;go_wp2_with fail;refine (Bm q M ml W h1 h2 hM (C.cell he Z)).mono ?_;rintro e w5 ⟨v,ok,rfl,g5,X,ht,hf⟩;have A:=ab g5;have OK:=ab X;clear g5 X b0 b1 b2 b3 b4 b5;cases ok with
 | true =>
  obtain ⟨a,b,c,rfl,r1,r2,r3⟩:=ht rfl;have R1:=ab r1;have R2:=ab r2;have R3:=ab r3;clear ht hf r1 r2 r3;go_upto_region 3 with fail;refine dq (fun wx=>w5.grownBy wx none/\mF wx w5.heap.size 70 (.pointer (some ⟨a,0,none⟩)) (.pointer (some ⟨b,0,none⟩)) (.pointer (some ⟨c,0,none⟩))) ⟨ag (ae _ _) _,yr ..⟩ ?_;rintro w6 ⟨g6,b6⟩;obtain ⟨gs,Y⟩:=eX w5.heap.size;rw [<- Y] at b6 ⊢;have hk:=A.out.size;have l1:=hj.out;have k:Hid (a≠o/\b≠o/\c≠o):=⟨mi R1 (D.keep0 A),mi R2 (D.keep0 A),mi R3 (D.keep0 A)⟩;clear Y hk l1;have m:=D.out.keep0 (aa A g6);obtain ⟨c0,c1,c2,f0,f1,f2⟩:=m.cells;obtain ⟨x0,x1,x2,_⟩:=b6.cells;obtain ⟨y,f⟩:=m.setN (.inr rfl) (.inr rfl) (.inr rfl) (.pointer (some ⟨a,0,none⟩)) (.pointer (some ⟨b,0,none⟩)) (.pointer (some ⟨c,0,none⟩));have G:=ab (fM (aa C (aa A g6)) f.1 (fun r e=>by cases e;exact z));have H:=ab ((R1.keep0 g6).keepW f.1 f.2 (fun e=>k.1 (zJ e)));have J:=ab ((R2.keep0 g6).keepW f.1 f.2 (fun e=>k.2.1 (zJ e)));have K:=ab ((R3.keep0 g6).keepW f.1 f.2 (fun e=>k.2.2 (zJ e)));obtain ⟨d0,d1,d2,_⟩:=y.cells;clear m b6 g6 y f;go_wp2;refine bodyPost_ret (v:=.agg #[.pointer (some ⟨a,0,none⟩),.pointer (some ⟨b,0,none⟩),.pointer (some ⟨c,0,none⟩)]) (by simp [results,Tryz.results23,go_sem,d0,d1,d2]) rfl ?_;have e:bK bo q=q:=by
   unfold bK;rw [if_neg];rintro ⟨h8,_⟩;have:=OK.out.1 Z;omega
  rw [e];exact ⟨_,rfl,G,a,b,c,rfl,H,J,K⟩
 | false =>
  have:=hf rfl;subst this;clear ht hf;have K8:Hid (q.kind=8/\q.q=0):=by
   have hn:¬ (q.kind=1∨q.kind=4∨q.kind=5):=fun h=>by have:=OK.out.2 h;cases this
   rcases HQ.out with h | h | h | h
   ·exact absurd (.inl h.1) hn
   ·exact absurd (.inr (.inl h)) hn
   ·exact absurd (.inr (.inr h)) hn
   ·exact h
  go_upto_region 4 with fail;refine dq (fun wx=>W.grownBy wx none) (ag A _) ?_;intro w6 g6;have G6:=ab g6;have k0:=(aa C g6).cell HB Z;have k1:=(aa C g6).cell HO Z;clear g6;cases bo with
  | true =>
   go_wp2_with fail;refine (fm 1 w6 O O).mono ?_;rintro e wa ⟨a,rfl,n,l,u⟩;have N:=ab (aa G6 l);have P:Hid (RV wa a (1:Rat) 4):=.inl n;clear n l u k0 k1;go_wp2_with fail;refine (fm 0 wa O O).mono ?_;rintro e wb ⟨b,rfl,n,l,u⟩;have Q:=ab (aa N l);have p:=ab (P.keep0 l);have R:Hid (RV wb b (0:Rat) 4):=.inl n;clear n l u P N;go_wp2_with fail;refine (fm 0 wb O O).mono ?_;rintro e wc ⟨c,rfl,n,l,u⟩;have S:=ab (aa Q l);have s:=ab (p.keep0 l);have t:=ab (R.keep0 l);have T:Hid (RV wc c (0:Rat) 4):=.inl n;clear n l u p R Q;have m:=D.out.keep0 S;have k:Hid (a≠o/\b≠o/\c≠o):=⟨mi s m,mi t m,mi T m⟩;obtain ⟨c0,c1,c2,f0,f1,f2⟩:=m.cells;obtain ⟨y,f⟩:=m.setN (.inr rfl) (.inr rfl) (.inr rfl) (.pointer (some ⟨a,0,none⟩)) (.pointer (some ⟨b,0,none⟩)) (.pointer (some ⟨c,0,none⟩));have G:=ab (fM (aa C S) f.1 (fun r e=>by cases e;exact z));have H:=ab ((s.keepW f.1 f.2 (fun e=>k.1 (zJ e))).mono (by omega:4<=M));have J:=ab ((t.keepW f.1 f.2 (fun e=>k.2.1 (zJ e))).mono (by omega:4<=M));have K:=ab ((T.keepW f.1 f.2 (fun e=>k.2.2 (zJ e))).mono (by omega:4<=M));obtain ⟨d0,d1,d2,_⟩:=y.cells;clear m y f;go_wp2;refine bodyPost_ret (v:=.agg #[.pointer (some ⟨a,0,none⟩),.pointer (some ⟨b,0,none⟩),.pointer (some ⟨c,0,none⟩)]) (by simp [results,Tryz.results23,go_sem,d0,d1,d2]) rfl ?_
   obtain ⟨e1,e2,e3⟩:=uy K8.1 K8.2;exact ⟨_,rfl,G,a,b,c,rfl,by rw [e1];exact H,by rw [e2];exact J,by rw [e3];exact K⟩
  | false =>
   go_wp2_with fail;refine (fm 0 w6 O O).mono ?_;rintro e wa ⟨a,rfl,n,l,u⟩;have N:=ab (aa G6 l);have P:Hid (RV wa a (0:Rat) 4):=.inl n;clear n l u k0 k1;go_wp2_with fail;refine (fm 1 wa O O).mono ?_;rintro e wb ⟨b,rfl,n,l,u⟩;have Q:=ab (aa N l);have p:=ab (P.keep0 l);have R:Hid (RV wb b (1:Rat) 4):=.inl n;clear n l u P N;go_wp2_with fail;refine (fm 0 wb O O).mono ?_;rintro e wc ⟨c,rfl,n,l,u⟩;have S:=ab (aa Q l);have s:=ab (p.keep0 l);have t:=ab (R.keep0 l);have T:Hid (RV wc c (0:Rat) 4):=.inl n;clear n l u p R Q;have m:=D.out.keep0 S;have k:Hid (a≠o/\b≠o/\c≠o):=⟨mi s m,mi t m,mi T m⟩;obtain ⟨c0,c1,c2,f0,f1,f2⟩:=m.cells;obtain ⟨y,f⟩:=m.setN (.inr rfl) (.inr rfl) (.inr rfl) (.pointer (some ⟨a,0,none⟩)) (.pointer (some ⟨b,0,none⟩)) (.pointer (some ⟨c,0,none⟩));have G:=ab (fM (aa C S) f.1 (fun r e=>by cases e;exact z));have H:=ab ((s.keepW f.1 f.2 (fun e=>k.1 (zJ e))).mono (by omega:4<=M));have J:=ab ((t.keepW f.1 f.2 (fun e=>k.2.1 (zJ e))).mono (by omega:4<=M));have K:=ab ((T.keepW f.1 f.2 (fun e=>k.2.2 (zJ e))).mono (by omega:4<=M));obtain ⟨d0,d1,d2,_⟩:=y.cells;clear m y f;go_wp2;refine bodyPost_ret (v:=.agg #[.pointer (some ⟨a,0,none⟩),.pointer (some ⟨b,0,none⟩),.pointer (some ⟨c,0,none⟩)]) (by simp [results,Tryz.results23,go_sem,d0,d1,d2]) rfl ?_
   obtain ⟨e1,e2,e3⟩:=rk K8.1 K8.2;exact ⟨_,rfl,G,a,b,c,rfl,by rw [e1];exact H,by rw [e2];exact J,by rw [e3];exact K⟩
open Go Go.RowKit
theorem AD (ps:List aD) (k:Nat) (x:Value) (w:World) (h:wE ps k x w) :
  Calls Tryz.prog 9 #[x] w fun e a=>∃ gb,e=.returned (.func (.func 23) #[] #[.pointer (some ⟨gb,0,none⟩)])/\a.cell? ⟨gb,0,none⟩=some x/\w.grownBy a none:=by
 obtain ⟨g,rfl,_⟩:=h;go_enter Tryz.func9,Tryz.ntmps9
 go_wp2;go_ret;exact ⟨w.heap.size,rfl,zG,ag (ae _ _) _⟩
open Go Go.RowKit
theorem Ba (N:Nat) (A:Option Addr) (B:Nat) (ps:List aD) (k:Nat) (x:Value) (t M E:Nat) (C:Int) (w:World) (Q:aR w (.slice A ps.length B) ps) (n:cD (N+1) ps) (H:∀ p∈ps,wJ p) (R:wE ps k x w) (D:w.cell? ⟨t,0,none⟩=some x)
  (hv:∀ p∈ps,p.v.size<=1000000000/\3*p.v.size+10<=M) (hM:4<=M) (hM2:M<=100000000000) (hE:iq (cU N ps) (N+ps.length)<E) (hE2:E<=100000000000) (hml:w.cell? ⟨1,0,none⟩=some (.int .i64 C)) :
  Calls Tryz.prog 8 #[.agg #[.int .i64 ((N:Int)+1),.slice A ps.length B],.func (.func 23) #[] #[.pointer (some ⟨t,0,none⟩)]] w fun e w' =>
   ∃ (vv iv:Value) (how:Int),e=.returned (.tuple #[vv,iv,.int .i64 how])/\w.grownBy w' none/\(how=0∨how=1∨how=2)/\((how≠0/\vv=.slice none 0 0/\iv=.slice none 0 0)∨(how=0/\∃ V I,bD (N+1) (bh (iY ps k) ps) V I/\kP w' vv (N+1) V (3*E+3*E+2)/\kP w' iv ps.length I (3*E+3*E+2))):=by
 obtain ⟨d,l⟩:=eX (bh (iY ps k) ps);have u:cD (N+1) d:=by rw [l];exact pS n _
 have m:d.length=ps.length:=by rw [l,cJ]
 have L:∀ p∈d,¬ p.kind=6/\¬ p.kind=7:=by
  intro p f;obtain ⟨i,hi,rfl⟩:=List.getElem_of_mem f;have o:i<ps.length:=by rw [<- m];exact hi
  have e:d[i]=bK (iY ps k i) ps[i]:=by
   subst l;exact ie o hi
  rw [e];obtain ⟨U,W⟩:=zu (iY ps k i) ps[i];rw [U,W];rcases H _ (List.getElem_mem o) with h | h | h | h<;>omega
 have z:∀ p∈d,p.a<=N/\p.b<=N:=by
  intro p f;obtain ⟨X,Y,xc,xd,ea,eb,_,_,h1,h2,_⟩:=u.ends p f;omega
 have P:∀ K J O,aW N d K J O=aW N ps K J O:=by
  intro K J O;rw [l];exact xW N _ ps K J O
 have S:cU N d=cU N ps:=by rw [l];exact rz N ps _
 obtain ⟨g,ex,hc⟩:=R;refine (td N 23 #[] #[.pointer (some ⟨t,0,none⟩)] A B ps (dL d) (ff d) (fi d) M E (refA N d) (fun q=>((iR (aW N d (dL d) (ff d) (fi d) q) (N+d.length+1):Nat):Rat)) (fun r=>4294967296^cU N d r) C w ?_ (by have:=n.hi;omega) (by have:=n.len;omega) (fun q=>refS_ne q) (fun r=>Nat.one_le_pow _ _ (by decide)) (fun r j=>refA_wh L z r j) (fun q=>refS_wh L q) ?_ (by omega) hE2 ?_).mono ?_
 ·intro T hg;refine qx N 23 #[] #[.pointer (some ⟨t,0,none⟩)] A B ps (dL d) (ff d) (fi d) M C T (enters_of Tryz.func23 (by kernel_rfl) rfl) (Q.keep hg) (by have:=n.hi;omega) (by have:=n.len;omega) hM hM2 (fun p f=>?_) (fun p f=>?_) (fun i hi wy hy _ _=>?_) (hg.cell hml (by simp))
  ·obtain ⟨X,Y,xc,xd,ea,eb,ec,ed,h1,h2,h3,h4⟩:=n.ends p f;omega
  ·have:=hv p f;omega
  ·have s:=aa hg hy;have o:i<d.length:=by rw [m];exact hi
   refine (CQ ps[i] i ps.length (iY ps k) t g M C wy (H _ (List.getElem_mem hi)) (hv _ (List.getElem_mem hi)).1 (hv _ (List.getElem_mem hi)).2 hM2 (s.cell hml (by simp)) (by rw [<- ex];exact s.cell D (by simp)) (fun j hj=>s.cell (hc j hj) (by simp)) hi (by have:=n.len;omega)).mono ?_;rintro e w' ⟨v,rfl,G,a,b,c,rfl,r1,r2,r3⟩;have F:d[i]? = some (bK (iY ps k i) ps[i]):=by rw [l,dt,zX hi];rfl
   refine ⟨a,b,c,rfl,G,?_,?_,?_⟩
   ·unfold dL;rw [F];exact r1
   ·unfold ff;rw [F];exact r2
   ·unfold fi;rw [F];exact r3
 ·rw [S];exact yT _ _ (by have:=n.hi;have:=n.len;omega) _ hE
 ·intro i hi j;unfold refA;rw [P]
 ·rintro e w' ⟨vv,iv,how,rfl,G,h⟩;refine ⟨vv,iv,how,rfl,G,?_⟩;rcases h with ⟨rfl,rfl,rfl,_⟩ | ⟨rfl,rfl,rfl,_⟩ | ⟨rfl,y,hy,_,p1,p2⟩
  ·exact ⟨.inr (.inl rfl),.inl ⟨by decide,rfl,rfl⟩⟩
  ·exact ⟨.inr (.inr rfl),.inl ⟨by decide,rfl,rfl⟩⟩
  ·refine ⟨.inl rfl,.inr ⟨rfl,iz y,fun i=>y (N+i),?_,p1,p2⟩⟩;rw [<- l];refine (ref_net u y).1 ?_;rw [P,m];exact hy
open Go Go.RowKit
attribute [local simp] bX im dR Pc6 nf
theorem sgn_nn {q:Rat} (h:¬ jT q.num<0):0<=q:=by
 rw [<- Rat.num_nonneg];unfold jT at h;split at h
 ·omega
 ·omega
theorem sgn_np {q:Rat} (h:¬ 0<jT q.num):q<=0:=by
 have d:q.num<=0:=by
  unfold jT at h;split at h
  ·omega
  ·split at h
   ·omega
   ·omega
 rcases Rat.le_total (a:=q) (b:=0) with c | c
 ·exact c
 ·have:=Rat.num_nonneg.2 c;have e:q.num=0:=O
  rw [Rat.num_eq_zero.1 e];exact Rat.le_refl
def RFit (ps:List aD) (k:Nat) (V I:Nat->Rat) (i:Nat):Prop:=∀ h:i<ps.length,ps[i].kind=8->(iY ps k i=true->0<=I i)/\(iY ps k i=false->V ps[i].a.toNat-V ps[i].b.toNat<=0)
def RfR (W:World) (ps:List aD) (k:Nat) (V I:Nat->Rat) (iv:Value) (wr:World):Prop:=∃ i:Nat,i<=ps.length/\iv=.int .i64 i/\(∀ j,j<i->RFit ps k V I j)/\W.grownBy wr none
theorem DL (N:Nat) (po:Option Addr) (pc:Nat) (ps:List aD) (k:Nat) (V I:Nat->Rat) (x vv iv:Value) (L:Nat) (w:World) (E:aR w (.slice po ps.length pc) ps) (hR:cD (N+1) ps) (hx:wE ps k x w) (hv:kP w vv (N+1) V L) (hi:kP w iv ps.length I L) (hB:2<=L) (hL:L<=1000000000000) :
  Calls Tryz.prog 10 #[.agg #[.int .i64 ((N:Int)+1),.slice po ps.length pc],x,vv,iv] w fun e f=>∃ b,e=.returned (.bool b)/\w.grownBy f none/\(b=true->∀ i,i<ps.length->RFit ps k V I i):=by
 have hC:=hR.len;obtain ⟨o,rfl,U⟩:=hx;obtain ⟨hF,vc,rfl,hG,hm,k1⟩:=hv;obtain ⟨hH,ic,rfl,hI,ho,k2⟩:=hi;have K1:=ab k1;have K2:=ab k2;have KO:=ab U;have HP:=ab E;have HR:=ab hR;unfold maxLen at hm ho;clear k1 k2 E hR U;obtain ⟨W,hW⟩:=eX (w.alloc (Obj.cells #[.int .i64 ((N:Int)+1),.slice po ps.length pc] 24));have J:Hid (w.grownBy W none):=by rw [hW];exact ag (ae _ _) _
 have NC:Hid (∀ wx,W.grownBy wx none->dR wx w.heap.size (.int .i64 ((N:Int)+1)) (.slice po ps.length pc)):=by
  intro wx hg;exact dR.k0 (w:=W) (by rw [hW];exact ⟨zG,zG⟩) hg
 obtain ⟨n0,n1⟩:=NC.out W (ae _ _);go_enter Tryz.func10,Tryz.ntmps10
 go_upto_region 1 with fail;rw [<- hW];clear hW;go_wp2;go_loopw [14] (fun iv wr=>Hid (RfR W ps k V I iv wr)) (fun iv _=>ps.length-(intOf iv).toNat)
 case atStart=>exact ⟨0,O,rfl,fun j h=>O,ae _ _⟩
 case round =>
  obtain ⟨i,hi,rfl,z,hg⟩:=hrel.out;have HF:=ab z;have y:=ab hg;clear z hg hrel n0 n1;by_cases hlt:i<ps.length
  ·obtain ⟨b,off,rfl,rc,hq⟩:=HP.out.row (aa J y) hlt;obtain ⟨m,n,xc,xd,ea,eb,ec,ed,ha,hb,hc,hd⟩:=HR.out.ends ps[i] (List.getElem_mem hlt);obtain ⟨p,E⟩:=eX (ps[i]);have M:=ab E;rw [<- E] at rc ea eb;have EE:=ab (And.intro ea eb);clear E hq ec ed hc hd ea eb;obtain ⟨q,r,F,rfl,a0,a1⟩:=K1.out m ha;obtain ⟨hJ,hM,pb,ee,e0,e1⟩:=K1.out n hb;cases ee
   obtain ⟨G,oi,H,rfl,i0,i1⟩:=K2.out i hlt;have P:=aa J y;have A3:=ab (a1.keep0 P);have E3:=ab (e1.keep0 P);have I3:=ab (i1.keep0 P);obtain ⟨bo,C⟩:=eX (iY ps k i);have Q:Hid (iY ps k i=bo):=C.symm;have o0:=KO.out i hlt;rw [<- C] at o0;clear C;go_upto_region 4 with fail;obtain ⟨l,D⟩:=eX wr.heap.size;obtain ⟨X,u⟩:=eX (wr.alloc (Obj.cells #[.int .i64 p.kind,.int .i64 p.a,.int .i64 p.b,.int .i64 p.c,.int .i64 p.d,.string p.v] 45));have t:Hid (wr.grownBy X none):=by rw [u];exact ag (ae _ _) _
   have PB:Hid (nf X l p):=by rw [D];exact gJ wr p 45 (by rw [u];exact ae _ _)
   rw [<- u,<- D];have S0:Hid (∀ f,X.grownBy f none->f.cell? ⟨q,r+m,none⟩=some (.pointer (some ⟨F,0,none⟩))/\f.cell? ⟨q,r+n,none⟩=some (.pointer (some ⟨pb,0,none⟩))/\f.cell? ⟨G,oi+i,none⟩=some (.pointer (some ⟨H,0,none⟩))/\f.cell? ⟨o,i,none⟩=some (.bool bo)/\f.cell? ⟨l,0,none⟩=some (.int .i64 p.kind)/\f.cell? ⟨l,1,none⟩=some (.int .i64 m)/\f.cell? ⟨l,2,none⟩=some (.int .i64 n)):=by
    intro wx g;have g2:=aa P (aa t g);have pb:=PB.out.k0 g;rw [nf,EE.1,EE.2] at pb;exact ⟨g2.cell a0 Z,g2.cell e0 Z,g2.cell i0 Z,g2.cell o0 Z,pb.1,pb.2.1,pb.2.2.1⟩
   clear u D rc a0 a1 e0 e1 i0 i1 o0 PB P;have hr:(0:Int)<=((m:Nat):Int):=O
   have hu:((m:Nat):Int)<(N:Int)+1:=O
   have hw:(0:Int)<=((n:Nat):Int):=O
   have hy:((n:Nat):Int)<(N:Int)+1:=O
   have hz:(0:Int)<=((i:Nat):Int):=O
   have hA:((i:Nat):Int)<(ps.length:Int):=O
   by_cases B:p.kind=8
   ·rw [B] at S0;obtain ⟨sg,Y⟩:=eX (jT (I i).num);have R:=ab Y;obtain ⟨cm,he⟩:=eX (jT (V m-V n).num);have S:=ab he;have hD:=ab B;clear Y he B;have s0:=S0.out X (ae _ _);cases bo with
    | true =>
     refine hd (fun f=>f.cell? ⟨q,r+m,none⟩=some (.pointer (some ⟨F,0,none⟩))/\f.cell? ⟨q,r+n,none⟩=some (.pointer (some ⟨pb,0,none⟩))/\f.cell? ⟨G,oi+i,none⟩=some (.pointer (some ⟨H,0,none⟩))/\f.cell? ⟨o,i,none⟩=some (.bool true)/\f.cell? ⟨l,0,none⟩=some (.int .i64 8)/\f.cell? ⟨l,1,none⟩=some (.int .i64 m)/\f.cell? ⟨l,2,none⟩=some (.int .i64 n)) (fun hHeld=>?_);refine tk 26 [(0,19,.pointer (some ⟨l,0,none⟩)),(1,20,.int .i64 8),(2,21,.bool true),(3,22,.bool true),(4,23,.slice (some ⟨o,0,none⟩) ps.length ps.length),(5,24,.int .i64 i),(6,25,.pointer (some ⟨o,i,none⟩)),(7,26,.bool true),(8,27,.bool true),(9,28,.slice (some ⟨G,oi,none⟩) ps.length ic),(10,29,.int .i64 i),(11,30,.pointer (some ⟨G,oi+i,none⟩)),(12,31,.pointer (some ⟨H,0,none⟩))] ?_;try simp only [pA,pL,vA,vL,q0,q1,q2,q3]
     refine de 25 13 (fun K A=>?_);simp only [ax,q4,q5,q6,q7];go_simp
     go_at_call 25
     refine (mr H (I i) L _ (I3.keep0 (aa t aA))).mono ?_;rintro e wa ⟨rfl,rfl⟩;rw [<- R];go_wp2_with fail;refine bk A (fun hHeld=>?_);clear A K;try simp only [pA,pL,vA,vL,q0,q1,q2,q3]
     by_cases hs:sg<0
     ·refine tk 22 [(14,33,.bool true),(15,34,.bool true),(16,35,.bool true)] ?_;try simp only [pA,pL,vA,vL,q0,q1,q2,q3]
      refine sk 2 [(17,36),(18,37),(19,38),(20,39),(21,40),(22,41),(23,42),(24,43),(25,44),(26,45),(27,46),(28,47),(29,48),(30,49),(31,50),(32,51),(33,52),(34,53),(35,54),(36,55)] ?_;try simp only [pA,pL,vA,vL,q0,q1,q2,q3]
      refine tk 0 [(37,56,.bool true),(38,57,.bool true)] ?_;try simp only [pA,pL,vA,vL,q0,q1,q2,q3]
      refine wpAnyH_done zK ?_ _;go_wp2;go_ret;exact ⟨false,rfl,aa J (aa y (aa t aA)),fun h=>by cases h⟩
     ·refine tk 16 [(14,33,.bool false),(15,34,.bool false),(16,35,.bool false),(17,36,.slice (some ⟨o,0,none⟩) ps.length ps.length),(18,37,.int .i64 i),(19,38,.pointer (some ⟨o,i,none⟩)),(20,39,.bool true),(21,40,.bool false),(22,41,.bool false)] ?_;try simp only [pA,pL,vA,vL,q0,q1,q2,q3]
      refine sk 3 [(23,42),(24,43),(25,44),(26,45),(27,46),(28,47),(29,48),(30,49),(31,50),(32,51),(33,52),(34,53),(35,54)] ?_;try simp only [pA,pL,vA,vL,q0,q1,q2,q3]
      refine tk 0 [(36,55,.bool false),(37,56,.bool false),(38,57,.bool false)] ?_;try simp only [pA,pL,vA,vL,q0,q1,q2,q3]
      refine wpAnyH_done zK ?_ _;go_wp2;go_roundw
      case rel=>exact ⟨i+1,O,zN,fun j hj=>by
       by_cases s:j=i
       ·subst s;exact fun h B=>⟨fun _=>sgn_nn (by rw [<- R];exact hs),fun z=>by rw [Q] at z;cases z⟩
       ·exact HF j O,aa y (aa t aA)⟩
      case measure=>simp [intOf];omega
    | false =>
     refine hd (fun f=>f.cell? ⟨q,r+m,none⟩=some (.pointer (some ⟨F,0,none⟩))/\f.cell? ⟨q,r+n,none⟩=some (.pointer (some ⟨pb,0,none⟩))/\f.cell? ⟨G,oi+i,none⟩=some (.pointer (some ⟨H,0,none⟩))/\f.cell? ⟨o,i,none⟩=some (.bool false)/\f.cell? ⟨l,0,none⟩=some (.int .i64 8)/\f.cell? ⟨l,1,none⟩=some (.int .i64 m)/\f.cell? ⟨l,2,none⟩=some (.int .i64 n)) (fun hHeld=>?_);refine tk 30 [(0,19,.pointer (some ⟨l,0,none⟩)),(1,20,.int .i64 8),(2,21,.bool true),(3,22,.bool true),(4,23,.slice (some ⟨o,0,none⟩) ps.length ps.length),(5,24,.int .i64 i),(6,25,.pointer (some ⟨o,i,none⟩)),(7,26,.bool false),(8,27,.bool false)] ?_;try simp only [pA,pL,vA,vL,q0,q1,q2,q3]
     refine sk 24 [(9,28),(10,29),(11,30),(12,31),(13,32),(14,33)] ?_;try simp only [pA,pL,vA,vL,q0,q1,q2,q3]
     refine tk 6 [(15,34,.bool false),(16,35,.bool false),(17,36,.slice (some ⟨o,0,none⟩) ps.length ps.length),(18,37,.int .i64 i),(19,38,.pointer (some ⟨o,i,none⟩)),(20,39,.bool false),(21,40,.bool true),(22,41,.bool true),(23,42,.slice (some ⟨q,r,none⟩) (N+1) vc),(24,43,.pointer (some ⟨l,1,none⟩)),(25,44,.int .i64 m),(26,45,.pointer (some ⟨q,r+m,none⟩)),(27,46,.pointer (some ⟨F,0,none⟩)),(28,47,.slice (some ⟨q,r,none⟩) (N+1) vc),(29,48,.pointer (some ⟨l,2,none⟩)),(30,49,.int .i64 n),(31,50,.pointer (some ⟨q,r+n,none⟩)),(32,51,.pointer (some ⟨pb,0,none⟩))] ?_;try simp only [pA,pL,vA,vL,q0,q1,q2,q3]
     refine de 5 33 (fun K A=>?_);simp only [ax,q4,q5,q6,q7];go_simp
     go_at_call 26
     refine (DN F pb (V m) (V n) L L _ ((A3.keep0 (aa t aA)).x O) ((E3.keep0 (aa t aA)).x O) O).mono ?_;rintro e wb ⟨hl,rfl,y1,y2,y3⟩;have T:=ab (aa aA y2);have RD:Hid (RV wb hl (V m-V n) (L+L+3)):=.inl y1;clear y1 y2 y3 s0 hHeld;have s0:=S0.out wb T;go_wp2_with fail;refine bk A (fun hHeld=>?_);clear A K;try simp only [pA,pL,vA,vL,q0,q1,q2,q3]
     refine de 4 34 (fun K A=>?_);simp only [ax,q4,q5,q6,q7];go_simp
     go_at_call 25
     refine (mr hl (V m-V n) _ _ (RD.keep0 (gx (ae _ _)))).mono ?_;rintro e wc ⟨rfl,rfl⟩;rw [<- S];go_wp2_with fail;refine bk A (fun hHeld=>?_);clear A K;try simp only [pA,pL,vA,vL,q0,q1,q2,q3]
     by_cases hc:0<cm
     ·refine tk 0 [(35,54,.bool true),(36,55,.bool true),(37,56,.bool true),(38,57,.bool true)] ?_;try simp only [pA,pL,vA,vL,q0,q1,q2,q3]
      refine wpAnyH_done zK ?_ _;go_wp2;go_ret;exact ⟨false,rfl,aa J (aa y (aa t (by first | exact T | exact aa T aA))),fun h=>by cases h⟩
     ·refine tk 0 [(35,54,.bool false),(36,55,.bool false),(37,56,.bool false),(38,57,.bool false)] ?_;try simp only [pA,pL,vA,vL,q0,q1,q2,q3]
      refine wpAnyH_done zK ?_ _;go_wp2;go_roundw
      case rel=>exact ⟨i+1,O,zN,fun j hj=>by
       by_cases s:j=i
       ·subst s;exact fun h B=>⟨fun z=>(by rw [Q] at z;cases z),fun _=>by rw [<- M,EE.1,EE.2,Int.toNat_natCast,Int.toNat_natCast];exact sgn_np (by rw [<- S];exact hc)⟩
       ·exact HF j O,aa y (aa t (by first | exact T | exact aa T aA))⟩
      case measure=>simp [intOf];omega
   ·have hE:(p.kind==8)=false:=by simpa using B
    have s0:=S0.out X (ae _ _);refine hd (fun f=>f.cell? ⟨q,r+m,none⟩=some (.pointer (some ⟨F,0,none⟩))/\f.cell? ⟨q,r+n,none⟩=some (.pointer (some ⟨pb,0,none⟩))/\f.cell? ⟨G,oi+i,none⟩=some (.pointer (some ⟨H,0,none⟩))/\f.cell? ⟨o,i,none⟩=some (.bool bo)/\f.cell? ⟨l,0,none⟩=some (.int .i64 p.kind)/\f.cell? ⟨l,1,none⟩=some (.int .i64 m)/\f.cell? ⟨l,2,none⟩=some (.int .i64 n)) (fun hHeld=>?_);refine tk 35 [(0,19,.pointer (some ⟨l,0,none⟩)),(1,20,.int .i64 p.kind),(2,21,.bool false),(3,22,.bool false)] ?_;try simp only [pA,pL,vA,vL,q0,q1,q2,q3]
    refine sk 1 [(4,23),(5,24),(6,25),(7,26),(8,27),(9,28),(10,29),(11,30),(12,31),(13,32),(14,33),(15,34),(16,35),(17,36),(18,37),(19,38),(20,39),(21,40),(22,41),(23,42),(24,43),(25,44),(26,45),(27,46),(28,47),(29,48),(30,49),(31,50),(32,51),(33,52),(34,53),(35,54),(36,55),(37,56)] ?_;try simp only [pA,pL,vA,vL,q0,q1,q2,q3]
    refine tk 0 [(38,57,.bool false)] ?_;try simp only [pA,pL,vA,vL,q0,q1,q2,q3]
    refine wpAnyH_done zK ?_ _;go_wp2;go_roundw
    case rel=>exact ⟨i+1,O,zN,fun j hj=>by
     by_cases s:j=i
     ·subst s;exact fun h hk=>absurd (by rw [M];exact hk) B
     ·exact HF j O,aa y (aa t aA)⟩
    case measure=>simp [intOf];omega
  ·obtain rfl:ps.length=i:=O
   go_wp2;go_ret;exact ⟨true,rfl,aa J y,fun _=>HF⟩
theorem rT {n:Nat} {c:Nat->Bool} (h:bD n (bh c ps) V I) {i:Nat} (hi:i<ps.length) (f:ps[i].kind=8) (r:ps[i].q=0):if c i then V ps[i].a.toNat-V ps[i].b.toNat=0 else I i=0:=by
 have d:i<(bh c ps).length:=by rw [cJ];exact hi
 have p:=h.part i d;rw [ie hi d] at p;obtain ⟨g,j,s,t,u⟩:=cV (c i) ps[i];cases ho:c i with
 | true =>
  rw [ho] at p g j;obtain ⟨k,m,o⟩:=uy f r;have l:bM (bK true ps[i]).kind (bK true ps[i]).q=0:=by
   have e:bK true ps[i] = { ps[i] with kind:=4 }:=by unfold bK;rw [if_pos ⟨f,rfl⟩]
   rw [e];simp [bM]
  rw [k,m,o,l,g,j] at p;show _=_
  grind
 | false =>
  rw [ho] at p g j;obtain ⟨k,m,o⟩:=rk f r;have l:bM (bK false ps[i]).kind (bK false ps[i]).q=0:=by
   have e:bK false ps[i]=ps[i]:=by unfold bK;rw [if_neg Z]
   rw [e,f];simp [bM]
  rw [k,m,o,l] at p;show _=_
  grind
theorem xg {n k:Nat} (j:∀ p∈ps,wJ p) (d:bD n (bh (iY ps k) ps) V I) (f:∀ i,i<ps.length->RFit ps k V I i):Fit n ps (iY ps k) V I:=by
 have q0:∀ i (h:i<ps.length),ps[i].kind=8->ps[i].q=0:=by
  intro i h c;rcases j _ (List.getElem_mem h) with e | e | e | e
  ·omega
  ·omega
  ·omega
  ·exact e.2
 refine ⟨d,fun i h c=>?_,fun i h c=>?_⟩
 ·have p:=rT d h c (q0 i h c);obtain ⟨f1,g⟩:=f i h h c;cases ho:iY ps k i with
  | true=>exact f1 ho
  | false =>
   rw [ho] at p;have p:I i=0:=p;rw [p];exact Rat.le_refl
 ·have p:=rT d h c (q0 i h c);obtain ⟨f1,g⟩:=f i h h c;cases ho:iY ps k i with
  | false=>exact g ho
  | true =>
   rw [ho] at p;have p:V ps[i].a.toNat-V ps[i].b.toNat=0:=p;rw [p];exact Rat.le_refl
theorem Dz {n k b:Nat} {J:Nat->Rat} (d:cD n ps) (c:∀ p∈ps,wJ p) (h:BI n ps J k) (e:bD n (bh (iY ps b) ps) V I) (g:∀ i,i<ps.length->RFit ps b V I i) {i:Nat} (hi:i<ps.length) (j:ps[i].kind=1):I i=J i:=by
 obtain ⟨U,_,s,f,_⟩:=h;exact fit_one d c (xg c e g) ⟨s,fun i h a=>(f i h h a).1,fun i h a=>(f i h h a).2⟩ hi j
theorem rTV_at (b:Nat) (q:Rat) (L K:Nat) (w:World) (h:RV w b q L) (c:bg K q) (a:K<=50000000) :
  Calls Tryz.prog 11 #[.pointer (some ⟨b,0,none⟩)] w fun e d=>e=.returned (.string ⟨(bQ q).toArray⟩)/\w.grownBy d none:=by
 have k:=h.tightW c;clear h;rcases k with h | ⟨rfl,h⟩
 ·exact rT_at b q K w h a
 ·exact rT_nil b K w h a
end Go.Proofs.YtkbmbmdemajoaaaGreatDoor
