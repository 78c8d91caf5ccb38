/- Contracts. -/
import Derived.Test.YtbomdfhdocaagaaGreatDoorXPw
namespace Go.Proofs.YtbomdfhdocaagaaGreatDoor
open Go.RowKit
set_option linter.all false
set_option maxHeartbeats 8000000
set_option maxRecDepth 10000
attribute [local simp] CL nk
variable {ps:List aA} {w:World} {V I:Nat->Rat}
def Dd (f:Int) (K:Option Addr) (L:Nat) (ps:List aA) (w:World) (hb:kn w) (B:aB w (.slice K ps.length L) ps) (u:∀ i (h:i<ps.length),ps[i].v.size<=100000000) :
  Calls Tryz.prog 6 #[.agg #[.int .i64 f,.slice K ps.length L]] w fun e w'=>e=.returned (.agg #[.int .i64 (aM f ps).1,.int .i64 (aM f ps).2])/\w.grownBy w' none:=by
 have he:ps.length<=9223372036854775807:=by obtain ⟨_,_,_,h1,h2,_⟩:=id B;unfold maxLen at h2;omega
 have HB:=ab hb;have HP:=ab B;clear hb B;obtain ⟨C,Y⟩:=eX (aM f ps);have HC:=ab Y;rw [<- Y];clear Y;obtain ⟨W,P⟩:=eX ((w.alloc (Obj.cells #[.int .i64 f,.slice K ps.length L] 24)).alloc (Obj.cells #[.int .i64 0,.int .i64 0] 29));have x:Hid (w.grownBy W none):=by rw [P];exact ag (ag (ae _ _) _) _
 have D:Hid (∀ wr:World,W.grownBy wr none->wr.cell? ⟨w.heap.size+1,0,none⟩=some (.int .i64 0)/\wr.cell? ⟨w.heap.size+1,1,none⟩=some (.int .i64 0)/\(∀ i,wr.frozen? ⟨w.heap.size+1,i,none⟩=false)/\wr.cell? ⟨w.heap.size,0,none⟩=some (.int .i64 f)/\wr.cell? ⟨w.heap.size,1,none⟩=some (.slice K ps.length L)):=by
  intro wr hg;rw [P] at hg;have:=mQ hg;exact ⟨by simpa using this.1,by simpa using this.2.1,by simpa using this.2.2,hg.cell zG Z,hg.cell zG Z⟩
 go_enter Tryz.func6,Tryz.ntmps6
 go_upto_region 1 with fail;rw [<- P];clear P;have n0:=(D W (ae _ _)).2.2.2;go_wp2_with fail;refine (wH f _ ps W (HB.keep x) (HP.keep x) u).mono ?_;obtain ⟨t,E,hz⟩:∃ t E,fs f ps=(t,E):=⟨_,_,rfl⟩;unfold pB;rw [hz];rintro e w1 ⟨rfl,g1⟩;have F:=ab hz;clear hz;go_upto_region 2 with fail;obtain ⟨Q,l⟩:=eX (w1.alloc (Obj.cells #[.int .i64 t,.int .i64 E] 29));have y:Hid (W.grownBy Q none):=by rw [l];exact ag g1 _
 have s0:Q.cell? ⟨w1.heap.size,0,none⟩=some (.int .i64 t):=by rw [l];go_simp
 have s1:Q.cell? ⟨w1.heap.size,1,none⟩=some (.int .i64 E):=by rw [l];go_simp
 rw [<- l];obtain ⟨m,r1,n,n1⟩:=D.out Q y;have z:=n 0;have A:=n 1;clear g1 n0 l n;by_cases M:t=0
 ·have G:Hid (aU ps 0 0=C):=by rw [HC];unfold aM;rw [F];exact ab (if_pos M).symm
  subst M;go_upto_region 5 with fail;go_wp2;go_loopw [4,16] (fun cv iv wr=>Hid (DcR W ps cv iv wr)) (fun _ iv _=>ps.length-(intOf iv).toNat)
  case atStart=>exact ⟨0,0,O,O,rfl,rfl,rfl,y⟩
  case round =>
   obtain ⟨i,c,hi,hc,rfl,rfl,hs,hg⟩:=hrel.out;have HS:=ab hs;have N:=ab hg;clear hs hg hrel n1 m r1 z A s0 s1;have n1:=D.out wr N;have o:=n1.2.2.1 0;have q:=n1.2.2.1 1;by_cases hlt:i<ps.length
   ·obtain ⟨b,off,rfl,rc,u⟩:=HP.out.row (aa x N) hlt;have H:Hid (aU (ps[i] :: ps.drop (i+1)) i c=aU ps 0 0):=by rw [<- List.drop_eq_getElem_cons hlt];exact HS
    obtain ⟨p,B⟩:=eX (ps[i]);rw [<- B] at rc H;clear B u;have R:p.kind=2∨p.kind=3∨p.kind=6∨p.kind=7∨(p.kind=8/\¬ (p.kind=2∨p.kind=3∨p.kind=6∨p.kind=7))∨(¬ p.kind=8/\¬ (p.kind=2∨p.kind=3∨p.kind=6∨p.kind=7)):=O
    go_upto_region 8 with fail;obtain ⟨W4,s⟩:=eX (wr.alloc (Obj.cells #[.int .i64 p.kind,.int .i64 p.a,.int .i64 p.b,.int .i64 p.c,.int .i64 p.d,.string p.v] 55));have j:Hid (W.grownBy W4 none):=by rw [s];exact ag N _
    have pb:nk W4 wr.heap.size p:=ie wr p 55 (by rw [s];exact ae _ _);rw [<- s];clear s rc n1 o q;have n1:=D.out W4 j;have o:=n1.2.2.1 0;have q:=n1.2.2.1 1;obtain ⟨m,r1,_,m0,m1⟩:=n1;obtain ⟨b0,b1,b2,b3,b4,b5⟩:=pb;rcases R with g | g | g | g | ⟨g,hn⟩ | ⟨g,hn⟩
    case inl | inr.inl | inr.inr.inl | inr.inr.inr.inl =>
     have r:Hid (C=(3,(i:Int))):=by
      show _=_
      rw [<- G,<- H,aU,if_pos O]
     rw [g] at b0;go_wp2_with fail;refine (uz 3 i _).mono ?_;rintro e w5 ⟨rfl,J⟩;have k:=ab (aa j J);clear m r1 o q m0 m1;obtain ⟨m,r1,n,_⟩:=D.out w5 k;have z:=n 0;have A:=n 1;clear n J;go_wp2;refine bodyPost_ret (v:=.agg #[.int .i64 3,.int .i64 i]) (by simp [results,Tryz.results6,go_sem,m,r1]) rfl ⟨by rw [r],ah (ah (aa x k) _ _ Z) _ _ Z⟩
    ·by_cases h6:c=6
     ·have r:Hid (C=(2,(i:Int))):=by
       show _=_
       rw [<- G,<- H,aU,if_neg hn,if_pos g,if_pos O]
      rw [g] at b0;subst h6;go_wp2_with fail;refine (uz 2 i _).mono ?_;rintro e w5 ⟨rfl,J⟩;have k:=ab (aa j J);clear m r1 o q m0 m1;obtain ⟨m,r1,n,_⟩:=D.out w5 k;have z:=n 0;have A:=n 1;clear n J;go_wp2;refine bodyPost_ret (v:=.agg #[.int .i64 2,.int .i64 i]) (by simp [results,Tryz.results6,go_sem,m,r1]) rfl ⟨by rw [r],ah (ah (aa x k) _ _ Z) _ _ Z⟩
     ·have r:Hid (aU (ps.drop (i+1)) (i+1) (c+1)=aU ps 0 0):=by
       show _=_
       rw [<- H,aU,if_neg hn,if_pos g,if_neg O]
      have hf:¬ (6:Int)<(c:Int)+1:=O
      rw [g] at b0;go_wp2;go_roundw
      case rel=>exact ⟨i+1,c+1,O,O,zN,zN,r,j⟩
      case measure=>exact bH
    ·have r:Hid (aU (ps.drop (i+1)) (i+1) c=aU ps 0 0):=by
      show _=_
      rw [<- H,aU,if_neg hn,if_neg g]
     have S:¬ p.kind=2:=fun e=>hn (.inl e)
     have T:¬ p.kind=3:=fun e=>hn (.inr (.inl e))
     have U:¬ p.kind=6:=fun e=>hn (.inr (.inr (.inl e)))
     have X:¬ p.kind=7:=fun e=>hn (.inr (.inr (.inr e)))
     have e2:(p.kind==2)=false:=by simp [S]
     have e3:(p.kind==3)=false:=by simp [T]
     have e6:(p.kind==6)=false:=by simp [U]
     have e7:(p.kind==7)=false:=by simp [X]
     have e8:(p.kind==8)=false:=by simp [g]
     clear hn;go_wp2;go_roundw
     case rel=>exact ⟨i+1,c,O,O,rfl,zN,r,j⟩
     case measure=>exact bH
   ·obtain ⟨m,r1,_,m0,m1⟩:=n1;have r:Hid (C=(0,0)):=by
     show _=_
     rw [<- G,<- HS,List.drop_eq_nil_of_le O];rfl
    go_wp2;refine bodyPost_ret (v:=.agg #[.int .i64 0,.int .i64 0]) (by simp [results,Tryz.results6,go_sem,m,r1]) rfl ⟨by rw [r],ah (ah (aa x N) _ _ Z) _ _ Z⟩
 ·have G:Hid ((t,E)=C):=by rw [HC];unfold aM;rw [F];exact ab (if_neg M).symm
  have hd:(t != 0)=true:=by simpa using M
  go_wp2;refine bodyPost_ret (v:=.agg #[.int .i64 t,.int .i64 E]) (by simp [results,Tryz.results6,go_sem,m,r1]) rfl ⟨by rw [<- G],ah (ah (aa x y) _ _ Z) _ _ Z⟩
attribute [local simp] bL eJ dP CL nk
structure mw (w wx:World) (nodes:Int) (sl:Value) (ps:List aA) (g7 go:Nat):Prop where
 gr:w.grownBy wx none
 n3:fE wx w.heap.size 24 (.int .i64 nodes) sl
 n7:fE wx g7 24 (.int .i64 nodes) (.slice (some ⟨go,0,none⟩) ps.length (ps.length+3))
 own:aB wx (.slice (some ⟨go,0,none⟩) (ps.length+3) (ps.length+3)) (ps++[Mk,Mk,Mk])
def mw.keep {b c:World} {a:Int} {d:Value} {e f:Nat} (h:mw w b a d ps e f) (g:b.grownBy c none):mw w c a d ps e f :=
 ⟨aa h.gr g,h.n3.keep g Z,h.n7.keep g Z,h.own.keep g⟩
def mw.row {f i:World} {a:Int} {j:Value} {c d r:Nat} (h:mw w f a j ps c d) (g:f.grownBy i (some r)) (m:w.heap.size<r) (k:c≠r) (l:d≠r):mw w i a j ps c d :=
 ⟨aw (r:=none) h.gr g (fun _ _ e=>e) (fun b hb e=>by cases e;omega),h.n3.keep g (fun e=>by have:=zJ e;omega),h.n7.keep g (fun e=>k (zJ e)),h.own.keepRow g (fun e=>l e.symm)⟩
def aB.front {a:Option Addr} {n cap:Nat} {l:List aA} (h:aB w (.slice a n cap) (ps++l)):aB w (.slice a ps.length cap) ps:=by
 obtain ⟨c,b,e,d,f,g⟩:=h;simp only [Value.slice.injEq] at e;obtain ⟨rfl,_,rfl⟩:=e;rw [List.length_append] at d;refine ⟨_,_,rfl,O,f,fun i hi=>?_⟩;have:=g i (by rw [List.length_append];omega);rw [List.getElem_append_left hi] at this;exact this
def sQ {U:Nat->Rat} {n:Nat} (h:∀ j,j<n->V j=U j):aL V n=aL U n:=by
 induction n with
 | zero=>rfl
 | succ n ih=>rw [gN,gN,ih (fun j a=>h j O),h n O]
def RV.fit {b L:Nat} {q:Rat} (h:RV w b q L) (d:1<=L):bh L q:=by
 rcases h with h | ⟨rfl,_⟩
 ·obtain ⟨⟨_,_,_,a,_⟩,⟨_,_,_,c,_⟩,_⟩:=h;exact ⟨a.lt,by simpa using c.lt⟩
 ·exact ⟨Nat.pow_pos zD,Nat.one_lt_pow O zD⟩
def gV.fit {v:Value} {n L:Nat} {R:Nat->Rat} (h:gV w v n R L) (a:1<=L):∀ j,j<n->bh L (R j):=by
 obtain ⟨_,_,_,_,_,c⟩:=h;intro j b;obtain ⟨_,_,_,_,_,r⟩:=c j b;exact r.fit a
def uA.k0 {k:Nat} {x:Value} {A B:World} (h:uA ps k x A) (hg:A.grownBy B none):uA ps k x B:=by
 obtain ⟨g,e,hc⟩:=h;exact ⟨g,e,fun i hi=>hg.cell (hc i hi) Z⟩
def uA.row {k:Nat} {x:Value} {A B:World} {b:Nat} {u:Value} (h:uA ps k x A) (hg:A.grownBy B (some b)) (hb:A.cell? ⟨b,0,none⟩=some u) (a:∀ t,u≠.bool t):uA ps k x B:=by
 obtain ⟨g,e,hc⟩:=h;refine ⟨g,e,fun i hi=>hg.cell (hc i hi) ?_⟩;intro f;have c:=hc 0 O;have d:g=b:=zJ f;rw [d,hb] at c;exact a _ (zJ c)
def uX {n k:Nat} (f:∀ p∈ps,CJ p) (g:bd n (bu (iO ps k) ps) V I) (j:∀ i,i<ps.length->RFit ps k V I i):∀ i,i<ps.length->jA ps V I i:=by
 intro i hi d e;have l:ps[i].q=0:=by
  rcases f _ (List.getElem_mem d) with h | h | h | h
  ·omega
  ·omega
  ·omega
  ·exact h.2
 have c:=Cs g d e l;obtain ⟨a,b⟩:=j i hi d e;cases ho:iO ps k i with
 | true =>
  rw [ho,if_pos rfl] at c;exact ⟨a ho,by rw [c];exact Rat.le_refl⟩
 | false =>
  rw [ho] at c;simp only [Bool.false_eq_true,if_false] at c;exact ⟨by rw [c];exact Rat.le_refl,b ho⟩
def wK {k:Nat} (h:∀ i,i<ps.length->jA ps V I i):∀ i,i<ps.length->RFit ps k V I i:=fun i hi a b=>⟨fun _=>(h i hi a b).1,fun _=>(h i hi a b).2⟩
def lM (wx:World) (g4 g5:Nat) (s6:Value) (F1 F2:Int) (n1 n2:Nat) (V I:Nat->Rat) (xs:List Bool):Prop :=
 ∃ u v,fE wx g4 29 (.int .i64 F1) (.int .i64 F2)/\fE wx g5 33 u v/\iu sv wx u (aL V n1)/\iu sv wx v (aL I n2)/\iu bv wx s6 xs
def lM.keep {a b:World} {c d:Nat} {s6:Value} {e f:Int} {i j:Nat} {xs:List Bool} (h:lM a c d s6 e f i j V I xs) (g:a.grownBy b none):lM b c d s6 e f i j V I xs:=by
 obtain ⟨u,v,k,l,m,n,o⟩:=h;exact ⟨u,v,k.keep g Z,l.keep g Z,m.keep g,n.keep g,o.keep g⟩
def found {i o d:World} {c:Int} {r x f h:Value} {p j b a A B s t k:Nat} {C D:Int} {y z:Nat->Rat} {s6:Value} {xs:List Bool} (q:mw w i c r ps p j) (E:lM i b a s6 C D A B V I xs) (G:w.heap.size<j/\j<b) (H:b<a) (J:j<a) (K:p<b)
  (hx:uA ps k x i) (hl:ps.length<=16) (ga:i.grownBy o none) (gb:o.grownBy d none) (t1:bM sv 50 o i.heap.size f (aL y s)) (t2:bM sv 50 d o.heap.size h (aL z t)) :
  lM ((((d.setCell ⟨a,0,none⟩ f).setCell ⟨a,1,none⟩ h).setCell ⟨b,0,none⟩ (.int .i64 0)).setCell ⟨b,1,none⟩ (.int .i64 0)) b a x 0 0 s t y z (jP ps k (aX ps ps.length).length)/\mw w ((((d.setCell ⟨a,0,none⟩ f).setCell ⟨a,1,none⟩ h).setCell ⟨b,0,none⟩ (.int .i64 0)).setCell ⟨b,1,none⟩ (.int .i64 0)) c r ps p j:=by
 obtain ⟨u,v,b8,b9,r1,_⟩:=E;obtain ⟨_,_,rfl,_⟩:=r1;have g:=aa ga gb;have F:=b9.lt;have L:=ga.size;have b8:=b8.keep g Z;have b9:=b9.keep g Z;have q:=q.keep g;have l:d.grownBy ((d.setCell ⟨a,0,none⟩ f).setCell ⟨a,1,none⟩ h) (some a):=aj (aj (ae _ _));have m:((d.setCell ⟨a,0,none⟩ f).setCell ⟨a,1,none⟩ h).grownBy ((((d.setCell ⟨a,0,none⟩ f).setCell ⟨a,1,none⟩ h).setCell ⟨b,0,none⟩ (.int .i64 0)).setCell ⟨b,1,none⟩ (.int .i64 0)) (some b):=aj (aj (ae _ _));have n:=b8.keep l (fun e=>by have:=zJ e;omega);exact ⟨⟨f,h,(n.set0 _).set1 _,((b9.set0 _).set1 _).keep m (fun e=>by have:=zJ e;omega),(((t1.keep0 gb).keepB l F).keepB m O).row,((t2.keepB l O).keepB m O).row,(((hx.k0 g).row l b9.cells.1 nofun).row m n.cells.1 nofun).rowG hl⟩,
  (q.row l O O O).row m O O O⟩
def dio_any (a:Int) (q:Option Addr) (s:Nat) (ps:List aA) (L:Nat) (w:World) (hb:kn w) (ht:fG w) (hM:jB w) (hp:aB w (.slice q ps.length s) ps) (hy:∀ c,Value.slice q ps.length s=.slice none 0 c->c=0)
  (hl:ps.length<=100000000) (hsv:∀ i (h:i<ps.length),ps[i].v.size<=100000000)
  (hs:∀ p∈ps,p.v.size+2<=L) (hLs:∀ n,cH n ps->iG (cS n ps) (n+ps.length)<L) (hL:L<=8000000) (hL2:2<=L) :
  Calls Tryz.prog 3 #[.agg #[.int .i64 a,.slice q ps.length s]] w fun e w'=>e=.returned (.bool true)/\w.grownBy w' none:=by
 have HB:=ab hb;have HT:=ab ht;have HM:=ab hM;have HP:=ab hp;have kF:=ab hy;have ms:=ab hsv;have HS:=ab hs;have kH:=ab hLs;clear hb ht hM hp hy hsv hs hLs;obtain ⟨W,hW⟩:=eX (w.alloc (Obj.cells #[.int .i64 a,.slice q ps.length s] 24));have GW:Hid (w.grownBy W none):=by rw [hW];exact ag (ae _ _) _
 have NB:Hid (fE W w.heap.size 24 (.int .i64 a) (.slice q ps.length s)):=by rw [hW];exact cU _ _ _ _
 go_enter Tryz.func3,Tryz.ntmps3
 go_upto_region 1 with fail;have HW:Hid (W.heap.size=w.heap.size+1):=by rw [hW];exact World.size_alloc _ _
 rw [<- hW];clear hW;go_wp2_with fail;refine (Ed W (HB.keep GW) (HT.keep0 GW)).mono ?_;rintro e w1 ⟨rfl,g1⟩;have G1:=ab g1;obtain ⟨t,l,_⟩:=(NB.keep g1 Z).cells;clear g1;go_wp2_with fail;refine (own_at a _ ps w1 (HM.keep (aa GW G1)) (HP.keep (aa GW G1)) kF hl).mono ?_;rintro e w2 ⟨F,rfl,yv,jc,g2⟩;have PO:=ab yv;have mt:=ab jc;have G2:=ab (aa G1 g2);clear yv jc g2 t l;go_upto_region 4 with fail;refine cG (fun d=>w2.grownBy d none/\fE d w2.heap.size 24 (.int .i64 a) (.slice (some ⟨F,0,none⟩) ps.length (ps.length+3))) ⟨ag (ae _ _) _,cU w2 _ _ _⟩ ?_;rintro w3 ⟨g3,b7⟩;obtain ⟨G,jg⟩:=eX w2.heap.size;rw [<- jg] at b7 ⊢;have H7:Hid (F<G/\w.heap.size<F):=by
  have h1:=PO.out;have h2:=mt.out;have h3:=G1.out.size;have h4:W.heap.size=w.heap.size+1:=by
   have:=NB.out.lt;have:=GW.out.size;have:=HW.out;omega
  obtain ⟨_,_,e,_,_,hc⟩:=h1;obtain ⟨b,off,e2,hb,_⟩:=hc 0 Z;simp only [Value.slice.injEq] at e;rw [e.1.symm] at e2;cases e2
  show _/\_
  omega
 have SY:Hid (mw w w3 a (.slice q ps.length s) ps G F):=⟨aa GW (aa G2 g3),(NB.keep G2 Z).keep g3 Z,b7,PO.keep g3⟩;have Ha:Hid (G<w3.heap.size):=b7.lt;clear g3 b7 jg;obtain ⟨t,l,_⟩:=SY.out.n3.cells;go_wp2_with fail;refine (Dd a _ _ ps w3 (HB.keep SY.gr) (HP.keep SY.gr) ms).mono ?_;rintro e w4 ⟨rfl,g4⟩;obtain ⟨C,hC⟩:=eX (aM a ps);rw [<- hC];have HC:=ab hC;have kN:=ab (SY.keep g4);have Hb:=ab g4;clear g4 hC t l;go_upto_region 5 with fail;refine cG (fun d=>w4.grownBy d none/\fE d w4.heap.size 29 (.int .i64 C.1) (.int .i64 C.2)) ⟨ag (ae _ _) _,cU w4 _ _ _⟩ ?_;rintro w5 ⟨g5,A⟩;obtain ⟨Q,jk⟩:=eX w4.heap.size;have H8:Hid (G<Q):=by
  have h1:=Ha.out;have h2:=Hb.out.size;show _<_
  omega
 rw [<- jk] at A ⊢;have m:=ab (kN.keep g5);have B8:=ab A;clear g5 A jk SY kN;have S5:Hid (∀ d,w5.grownBy d none->dP d G (.int .i64 a) (.slice (some ⟨F,0,none⟩) ps.length (ps.length+3))/\dP d Q (.int .i64 C.1) (.int .i64 C.2)):=fun d g=>by
  have h1:=(m.n7.keep g Z).cells;have h2:=(B8.keep g Z).cells;exact ⟨⟨h1.1,h1.2.1⟩,h2.1,h2.2.1⟩
 have s5:=S5.out w5 (ae _ _);go_cut [24] (fun s24 d=>Hid (s24=.bool false/\w5.grownBy d none))
 case first =>
  refine hd (fun w'=>dP w' G (.int .i64 a) (.slice (some ⟨F,0,none⟩) ps.length (ps.length+3))/\dP w' Q (.int .i64 C.1) (.int .i64 C.2)) (fun hHeld=>?_);refine tk 3 [(0,21,.agg #[.int .i64 a,.slice (some ⟨F,0,none⟩) ps.length (ps.length+3)])] ?_;try simp only [zU]
  refine on2 2 1 2 (fun K T=>?zq) (fun K T=>?zp)
  case' zp =>
   have zM:=True.intro;simp only [ax,q4,q5,q6,q7];go_simp
   refine bk T (fun hHeld=>?_);clear T K;try simp only [zU]
   refine cX 1 1 (fun K T=>?_)
  all_goals
   simp only [ax,q4,q5,q6,q7];go_simp
   go_at_call 7
   refine (nq a _ _ ps _ (HB.keep (aa m.gr aC)) (m.own.front.keep aC)).mono ?_;rintro e B ⟨rfl,R⟩;rw [<- HC];have G6:Hid (w5.grownBy B none):=aa aC R;clear R hHeld s5;have s5:=S5.out B G6;go_wp2_with fail;refine bk T (fun hHeld=>?_);clear T K;try simp only [zU]
   first
    | (have:=zM;refine tk 0 [(3,24,.bool false)] ?_)
    | (refine tk 1 [(2,23,.agg #[.int .i64 C.1,.int .i64 C.2])] ?_;(try simp only [zU]);refine tk 0 [(3,24,.bool false)] ?_)
   try simp only [zU]
   refine wpAnyH_done zK ?_ _;go_wp2_with fail;go_meet
   exact ⟨rfl,G6⟩
 case rest =>
 obtain ⟨rfl,R⟩:=hcut.out;have z:=ab (m.keep R);have hB:=ab (B8.keep R Z);clear hcut R s5 S5 m B8;go_upto_region 8 with fail;refine cG (fun d=>wc.grownBy d none/\fE d wc.heap.size 33 (.slice none 0 0) (.slice none 0 0)) ⟨ag (ae _ _) _,cU wc _ _ _⟩ ?_;rintro w7 ⟨hS,H⟩;obtain ⟨g9,hT⟩:=eX wc.heap.size;rw [<- hT] at H ⊢;have H9:Hid (Q<g9):=by rw [hT];exact hB.lt
 have X:=ab (z.keep hS);have B8:=ab (hB.keep hS Z);have B9:=ab H;clear hS H hT z hB;obtain ⟨f0,f1,_⟩:=B8.out.cells;obtain ⟨t,l,_⟩:=X.out.n3.cells;go_upto_if 27 with fail
 go_cut [6] from 7 (fun s6 d=>Hid (∃ (F1 F2:Int) (l n2:Nat) (V I:Nat->Rat) (xs:List Bool),lM d Q g9 s6 F1 F2 l n2 V I xs/\mw w d a (.slice q ps.length s) ps G F/\DsP a ps F1 F2 l n2 V I xs))
 case first =>
  by_cases hc:C.1=0
  ·have hE:(aM a ps).1=0:=by rw [<- HC];exact hc
   obtain ⟨hR,hX,hz,hD,jl⟩:=kZ hE;obtain ⟨n,hn⟩:=eX a.toNat;rw [<- hn] at hX hR;have hf:Hid (a=(n:Int)/\n=a.toNat):=⟨hX,hn⟩;have HR:=ab hR;have HD:=ab hD;have kS:=ab jl;have Hc:=ab hE;clear hR hD jl hE hn hX;obtain ⟨D,hY⟩:=eX ((aX ps ps.length).length);have hF:=ab hY;have h6:=kS.out;rw [<- hY] at h6;obtain ⟨N,hN⟩:=eX (2^D);have qa:=ab hN;have Hv:N<=64:=by
    have h6:2^D<=2^6:=Nat.pow_le_pow_right O O;rw [hN];omega
   have hw:wrap64 (2^D:Int)=(N:Int):=by
    rw [show (2:Int)^D=(N:Int) by rw [hN];simp];unfold wrap64;omega
   clear hY hN;go_wp2_with fail;refine (uz 7 0 _).mono ?_;rintro e wa ⟨rfl,ga⟩;have qb:=ab (X.keep ga);have hG:=ab (B8.keep ga Z);have qc:=ab (B9.keep ga Z);clear ga f0 f1 t l X B8 B9;obtain ⟨f0,f1,ka,kb⟩:=hG.out.cells;go_upto_region 11 with fail;refine cG (fun d=>fE d Q 29 (.int .i64 7) (.int .i64 0)/\mw w d a (.slice q ps.length s) ps G F/\fE d g9 33 (.slice none 0 0) (.slice none 0 0))
    ⟨(hG.set0 _).set1 _,qb.row (aj (aj (ae _ _))) (by have:=H7.out;have:=H8.out;omega) (by have:=H8.out;omega) (by have:=H7.out;have:=H8.out;omega),qc.keep (aj (aj (ae _ (some Q)))) (fun e=>by have:=zJ e;have:=H9.out;omega)⟩ ?_
   rintro wb ⟨A,sy,H⟩;have qf:=ab sy;have ql:=ab A;have qo:=ab H;clear A sy H f0 f1 ka kb qb hG qc;go_wp2;go_loopw [6,7] (fun v6 v7 wr=>Hid (∃ (k:Nat) (F1:Int) (l n2:Nat) (V I:Nat->Rat) (xs:List Bool),v7=.int .i64 k/\k<=N/\lM wr Q g9 v6 F1 0 l n2 V I xs/\mw w wr a (.slice q ps.length s) ps G F/\DkP n ps k F1 l n2 V I xs)) (fun _ v7 _=>N-(intOf v7).toNat)
   case atStart=>exact ⟨0,7,0,0,fun _=>0,fun _=>0,[],rfl,Nat.zero_le _,⟨_,_,ql,qo,gL _,gL _,gL _⟩,qf,.inl ⟨rfl,rfl,rfl,rfl,fun j h=>O⟩⟩
   case round =>
    obtain ⟨k,F1,E,S,V,I,xs,rfl,hk,sf,sy,dk⟩:=hrel.out;have SF:=ab sf;have f:=ab sy;have DK:=ab dk;clear sf sy dk hrel qf ql qo;obtain ⟨t,l,_⟩:=f.out.n3.cells;rw [hf.1] at t;go_wp2_with fail;refine (Be n q s ps wr (HP.keep f.gr) O).mono ?_;rintro e w5 ⟨rfl,g5⟩;have hm:=ab (SF.keep g5);have m:=ab (f.keep g5);clear g5 t l SF f;rw [<- hF];obtain ⟨u_,v_,A,_⟩:=hm.out;obtain ⟨f0,f1,_⟩:=A.cells;obtain ⟨t,l,_⟩:=m.out.n3.cells;rw [hf.1] at t;clear A;have hH:Hid (∀ s6,lM w5 Q g9 s6 F1 0 E S V I xs->(k=N∨F1=0)->∃ (F1 F2:Int) (l n2:Nat) (V I:Nat->Rat) (xs:List Bool),lM w5 Q g9 s6 F1 F2 l n2 V I xs/\mw w w5 a (.slice q ps.length s) ps G F/\DsP a ps F1 F2 l n2 V I xs):=by
     intro s6 sf h;refine ⟨F1,0,E,S,V,I,xs,sf,m,.inr ⟨Hc,rfl,?_⟩⟩;rw [<- hf.2,<- hF,<- qa];rcases h with rfl | rfl
     ·exact DK
     ·rcases DK.out with ⟨h,_⟩ | h
      ·cases h
      ·exact .inr h
    by_cases hlt:k<N
    ·rcases DK.out with ⟨rfl,rfl,rfl,rfl,jo⟩ | ⟨rfl,_⟩
     ·have NO:=ab jo;clear jo hH;go_upto_region 14 with fail;go_wp2_with fail;refine (onOf_at n k q s ps w5 (HP.keep m.gr) hz O kS).mono ?_;rintro e B ⟨x,rfl,hx,R⟩;have HX:=ab hx;obtain ⟨hr,rfl,_⟩:=hx;have Hd:=ab (hm.keep R);have z:=ab (m.keep R);clear R t l f0 f1;obtain ⟨mm,jp⟩:=(HB.keep z.gr).2.1;have He:=ab jp;clear jp;have hI:Hid (∀ d,B.grownBy d none->d.cell? ⟨w.heap.size,0,none⟩=some (.int .i64 (n:Nat))/\d.cell? ⟨w.heap.size,1,none⟩=some (.slice q ps.length s)):=fun d g=>by
       have h:=(z.n3.keep g Z).cells;rw [hf.1] at h;exact ⟨h.1,h.2.1⟩
      obtain ⟨t,l⟩:=hI.out B (ae _ _);go_upto_region 15 with fail;refine hd (fun w'=>w'.cell? ⟨w.heap.size,0,none⟩=some (.int .i64 (n:Nat))/\w'.cell? ⟨w.heap.size,1,none⟩=some (.slice q ps.length s)) (fun hHeld=>?_);refine tk 9 [(0,45,.agg #[.int .i64 (n:Nat),.slice q ps.length s]),(1,46,.slice (some ⟨hr,0,none⟩) ps.length ps.length)] ?_;try simp only [zU]
      refine cX 8 2 (fun K T=>?_);simp only [ax,q4,q5,q6,q7];go_simp
      go_at_call 12
      refine (Bw ps k _ _ (HX.k0 aC)).mono ?_;rintro e w7 ⟨gb,rfl,mc,G⟩;have G7:Hid (B.grownBy w7 none):=aa aC G;have Hf:=ab mc;have s0:=hI.out w7 G7;clear G mc hHeld;go_wp2_with fail;refine bk T (fun hHeld=>?_);clear T K;try simp only [zU]
      refine cX 7 3 (fun K T=>?_);simp only [ax,q4,q5,q6,q7];go_simp
      go_at_call 11
      obtain ⟨M,kc⟩:∃ M,n=M+1:=⟨n-1,by have:=HR.out.lo;omega⟩;have P:=ab kc;have Y:cH (M+1) ps:=by rw [<- kc];exact HR
      have qq:iG (cS M ps) (M+ps.length)<L:=by
       have h:=kH.out (M+1) Y;rw [qK] at h ⊢;omega
      have en:((n:Nat):Int)=(M:Int)+1:=O
      have SV:=(Cb M q s ps k (.slice (some ⟨hr,0,none⟩) ps.length ps.length) gb (3*L+10) L mm w7 (HP.keep (aa z.gr G7)) Y HD (HX.k0 G7) Hf (fun p hp=>by have:=HS.out p hp;omega) O O qq O (G7.cell He Z));rw [<- en] at SV;clear en kc;refine SV.mono ?_;clear SV;rintro e w8 ⟨vv,iv,hu,rfl,md,hh⟩;have HH:=ab hh;have G8:=ab (aa G7 md);have s1:=hI.out w8 G8;have ho:=ab (Hd.keep G8);have hJ:=ab (z.keep G8);clear md hh s0 hHeld t l;go_wp2_with fail;refine bk T (fun hHeld=>?_);clear T K;try simp only [zU]
      refine tk 0 [(4,44,.tuple #[vv,iv,.int .i64 hu]),(5,49,vv),(6,50,iv),(7,51,.int .i64 hu),(8,9,vv),(9,10,iv),(10,11,.int .i64 hu)] ?_;try simp only [zU]
      refine wpAnyH_done zK ?_ _;obtain ⟨m0,m1⟩:=s1;rcases HH.out with ⟨Hp,rfl,rfl,ml⟩ | ⟨rfl,V2,I2,y,mo,p1,p2⟩
      ·have Hw:(hu==0)=false:=by simpa using Hp
       have NS:=ab ml;clear HH ml;go_wp2;go_roundw
       case rel =>
        refine ⟨k+1,7,0,0,V,I,[],zN,O,ho,hJ,.inl ⟨rfl,rfl,rfl,rfl,fun j hj=>?_⟩⟩;rcases Nat.lt_or_ge j k with h | h
        ·exact NO j h
        ·rw [show j=k by omega,P];exact NS
       case measure=>exact bH
      ·have SV:=ab y;have UQ:=ab mo;have P1:=ab p1;have P2:=ab p2;obtain ⟨ov,cv,rfl,_⟩:=p1;obtain ⟨oi,ci,rfl,_⟩:=p2;clear HH y mo;have en:((M:Int)+1)=((n:Nat):Int):=by have:=P.out;omega
       have FI:=Fb M q s ps k V2 I2 (.slice (some ⟨hr,0,none⟩) ps.length ps.length) (.slice ov (M+1) cv) (.slice oi ps.length ci) (3*L+3*L+2) w8 (HP.keep hJ.gr) Y (HX.k0 G8) P1 P2 O O;rw [en] at FI;have qs:=ab FI;clear en FI hHeld;go_wp2_with fail;refine qs.mono ?_;rintro e w9 ⟨b,rfl,o,hA⟩;have HF:=ab hA;have hQ:=ab (ho.keep o);have yc:=ab (hJ.keep o);have X9:=ab ((HX.k0 G8).k0 o);have yl:=ab (P1.keep0 o);have yn:=ab (P2.keep0 o);clear hA qs m0 m1 o;cases b with
       | false =>
        go_wp2;go_roundw
        case rel =>
         refine ⟨k+1,7,0,0,V,I,[],zN,O,hQ,yc,.inl ⟨rfl,rfl,rfl,rfl,fun j hj=>?_⟩⟩;rcases Nat.lt_or_ge j k with h | h
         ·exact NO j h
         ·rw [show j=k by omega,P];exact vO Y SV (fun mp=>by have:=HF.out.2 (wK mp);cases this)
        case measure=>exact bH
       | true =>
        have Hg:=ab (uX HD SV (HF.1 rfl));go_wp2_with fail;refine (At _ (M+1) V2 _ (3*L+3*L+2) _ yl (by have:=Y.hi;omega) (yl.fit O) O).mono ?_;rintro e wa ⟨ta,rfl,t1,ga⟩;obtain ⟨ra,rc,rfl⟩:=t1.shape;have T1:=ab t1;have GA:=ab ga;clear t1 ga;go_wp2_with fail;refine (At _ ps.length I2 _ (3*L+3*L+2) _ (yn.keep0 GA) O (yn.fit O) O).mono ?_;rintro e wb ⟨tb,rfl,t2,kf⟩;obtain ⟨rb,rd,rfl⟩:=t2.shape;have FD:=ab (found yc hQ (by have:=H7.out;have:=H8.out;omega) H9 (by have:=H7.out;have:=H8.out;have:=H9.out;omega) (by have:=H8.out;omega) (X9) hz GA kf T1 t2);obtain ⟨_,_,A,H,_⟩:=hQ.out.keep (aa GA kf);obtain ⟨f0,f1,ka,kb⟩:=A.cells;obtain ⟨a0,a1,Hq,Hr⟩:=H.cells;clear t2 kf A H;have z1:Q≠g9:=by have:=H9.out;omega
        have z2:g9≠Q:=by have:=H9.out;omega
        go_upto_region 13 with fail;refine cG (fun d=>lM d Q g9 (.slice (some ⟨hr,0,none⟩) ps.length ps.length) 0 0 (M+1) ps.length V2 I2 (jP ps k (aX ps ps.length).length)/\mw w d a (.slice q ps.length s) ps G F) FD ?_;rintro wd ⟨sf,sy⟩;have Hh:=ab sf;have Hi:=ab sy;clear sf sy f0 f1 ka kb a0 a1 Hq Hr FD;go_wp2;go_roundw
        case rel =>
         refine ⟨k+1,0,M+1,ps.length,V2,I2,_,zN,O,Hh,Hi,.inr ⟨rfl,P.symm,rfl,k,rfl,?_⟩⟩;rw [P];exact ⟨by rw [<- hF,<- qa];exact hlt,SV,Hg,fun j hj=>by rw [<- P];exact NO j hj,UQ⟩
        case measure=>exact bH
     ·go_wp2;go_meet
      exact hH _ hm Z
    ·have Hj:k=N:=O
     go_wp2;go_meet
     exact hH _ hm (.inl Hj)
  ·go_wp2;go_meet
   exact ⟨C.1,C.2,0,0,fun _=>0,fun _=>0,[],⟨_,_,B8,B9,gL _,gL _,gL _⟩,X,.inl ⟨by rw [<- HC];exact hc,by rw [<- HC],by rw [<- HC],rfl,rfl,rfl⟩⟩
 case rest =>
 obtain ⟨F1,F2,E,S,V,I,xs,sf,sy,ds⟩:=hcut.out;have SF:=ab sf;have SY:=ab sy;have DS:=ab ds;have Hx:Hid (g9<wc.heap.size):=by
  obtain ⟨_,_,_,H,_⟩:=sf;exact H.lt
 clear hcut sf sy ds t l f0 f1 X B8 B9;go_wp2;go_loopw [68] (fun v wr=>Hid (∃ i:Nat,i<=2/\v=.int .i64 i/\wc.grownBy wr none)) (fun v _=>2-(intOf v).toNat)
 case atStart=>exact ⟨0,O,rfl,ae _ _⟩
 case round =>
  obtain ⟨i,hi,rfl,hg⟩:=hrel.out;have GR:=ab hg;clear hg hrel;have f:=ab (SY.keep GR);by_cases hlt:i<2
  ·obtain ⟨t,l,_⟩:=f.out.n7.cells;go_wp2_with fail;refine (xK a (some ⟨F,0,none⟩) (ps.length+3) ps L wr (HB.keep f.gr) (HT.keep0 f.gr) f.own.front HS kH O hL2).mono ?_;rintro e B ⟨u,v,jv,c1,c2,m1,m2,U,J,ys,rfl,R,o1,o2,rj,⟨rm,fj⟩,y⟩;obtain ⟨rfl,rfl,rfl,rfl,rfl,ev,ei⟩:=DS.out.same y;rw [<- sQ ev] at o1;rw [<- sQ ei] at o2;obtain ⟨oa,oc,rfl⟩:=o1.shape;obtain ⟨ob,od,rfl⟩:=o2.shape;rw [aI] at o1 o2 ⊢;rw [aI];have O1:=ab o1;have O2:=ab o2;have RJ:=ab rj;have Hk:=ab rm;have FJ:=ab fj;have G6:=ab R;clear y o1 o2 rj rm fj R t l ev ei;go_upto_region 21 with fail;refine cG (fun d=>B.grownBy d none/\fE d B.heap.size 33 (.slice oa E oc) (.slice ob S od)/\fE d (B.heap.size+1) 29 (.int .i64 F1) (.int .i64 F2)) ?_ ?_
   ·refine ⟨ag (ag (ae _ _) _) _,(cU B _ _ _).keep (ag (ae _ none) _) Z,?_⟩;have h:=cU (B.alloc (Obj.cells #[.slice oa E oc,.slice ob S od] 33)) 29 (.int .i64 F1) (.int .i64 F2);rw [World.size_alloc] at h;exact h
   rintro w8 ⟨kk,hv,kl⟩;obtain ⟨Hs,ko⟩:=eX B.heap.size;rw [<- ko] at hv kl ⊢;have Hy:Hid (B.heap.size<=Hs):=Nat.le_of_eq ko.symm;clear ko;have Hl:=ab hv;have hq:=ab kk;have G8:=ab (aa G6 kk);have ho:=ab (SF.keep (aa GR G8));obtain ⟨ux,vx,A,H,r1,r2,r3⟩:=ho.out;have R1:=ab r1;have R2:=ab r2;have R3:=ab r3;obtain ⟨kw,kz,_⟩:=hv.cells;obtain ⟨Ht,Hu,_⟩:=kl.cells;obtain ⟨f0,f1,_⟩:=A.cells;obtain ⟨a0,a1,_⟩:=H.cells;clear hv kl kk A H r1 r2 r3;go_wp2_with fail;refine (yN _ _ _ _ (aL V E) (aL I S) w8 (O1.row.keep hq) (O2.row.keep hq) R1 R2 (by rw [aI];have:=DS.out.small;omega) (by rw [aI];have:=DS.out.small;omega)).mono ?_;rintro e wa ⟨rfl,ga⟩;have GA:=ab ga;clear ga kw kz Ht Hu f0 f1 a0 a1;go_wp2_with fail;refine (nt _ _ xs xs wa (RJ.keep (aa hq GA)) (R3.keep GA) (by have:=DS.out.small;omega) (by have:=DS.out.small;omega)).mono ?_;rintro e wb ⟨rfl,gb⟩;rw [show decide (xs=xs)=true by simp];have GB:=ab (aa GA gb);have yo:=ab (aa hq GB);clear gb;obtain ⟨kw,kz,_⟩:=(Hl.keep GB Z).cells;go_wp2_with fail;refine (FK _ wb (O1.room.keep yo (fun k e=>Z))).mono ?_;rintro e we ⟨rfl,ge,he⟩;have Hm:Hid (∀ k,(Value.slice oa E oc).ownBlock=some k->wr.heap.size<=k/\k<B.heap.size):=O1.out.fresh;have Hn:Hid (wr.grownBy we none):=aw (r:=none) (aa G8 GB) ge (fun _ _ e=>e) (fun b hb e=>by have:=(Hm b e.symm).1;omega)
   have RM:=ab (he _ _ (Hk.keep yo (fun k e=>Z)));clear ge he kw kz;go_wp2_with fail;refine (Cn _ we RM).mono ?_;rintro e wf ⟨rfl,gf,_⟩;have Ho:Hid (wr.grownBy wf none):=aw (r:=none) Hn gf (fun _ _ e=>e) (fun b hb e=>by have:=FJ.out b e.symm;omega);clear gf;go_wp2;go_roundw
   case rel=>exact ⟨i+1,O,zN,aa GR Ho⟩
   case measure=>exact bH
  ·obtain rfl:i=2:=O
   obtain ⟨t,l,_⟩:=f.out.n3.cells;obtain ⟨m0,m1,_⟩:=f.out.n7.cells;go_wp2_with fail;refine (kept_at a F _ ps wr (HM.keep f.gr) (HP.keep f.gr) f.own hl).mono ?_;rintro e w9 ⟨rfl,o⟩;have G9:=ab o;clear o t l m0 m1;go_wp2;go_ret;exact ⟨rfl,aa f.gr G9⟩
end Go.Proofs.YtbomdfhdocaagaaGreatDoor
