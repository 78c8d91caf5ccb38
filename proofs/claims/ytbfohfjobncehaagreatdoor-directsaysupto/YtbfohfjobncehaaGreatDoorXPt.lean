/- Contracts. -/
import Derived.Test.YtbfohfjobncehaaGreatDoorXPs
namespace Go.Proofs.YtbfohfjobncehaaGreatDoor
open Go.RowKit
set_option linter.all false
set_option maxHeartbeats 8000000
set_option maxRecDepth 10000
attribute [local simp] lu
variable {w:World} {V I:Nat->Rat}
structure Cl (W1 w:World) (gm n i ii:Nat) (bs cs:Nat->Nat) (R:Nat->Nat->Rat) (L:Nat) (ao:Option Addr) (oc:Nat):Prop where
 box:km w gm (.slice ao ii oc)
 own:da (eM n) 109 w (gm+1) (.slice ao ii oc) (cd bs cs ii)
 rws:gO w (gm+1) n i bs cs R L
 gr:W1.grownBy w none
 lo:W1.heap.size<=gm
 nil:ii=0->ao=none
section
variable {W1 w w':World} {gm n i ii L oc g:Nat} {bs cs:Nat->Nat} {R:Nat->Nat->Rat} {ao:Option Addr}
theorem Cl.keep0 (h:Cl W1 w gm n i ii bs cs R L ao oc) (k:w.grownBy w' none):Cl W1 w' gm n i ii bs cs R L ao oc :=
 ⟨h.box.keep k Z,h.own.keep0 k,h.rws.keep0 k,ab h.gr k,h.lo,h.nil⟩
end
structure ui (W1 w:World) (gm n i:Nat) (bs cs:Nat->Nat) (R:Nat->Nat->Rat) (L:Nat) (ao:Option Addr) (oc g q:Nat) (Q:Nat->Rat):Prop where
 box:km w gm (.slice ao (i+1) oc)
 own:da (eM n) 109 w (gm+1) (.slice ao (i+1) oc) (cd (cZ bs i g) (cZ cs i n) (i+1))
 rws:gO w (gm+1) n i bs cs R L
 gr:W1.grownBy w none
 lo:W1.heap.size<=gm
 hg:gm+1<=g
 hb:∀ j,j<i->bs j≠g
 row:dt w g n Q q
section
variable {W1 w w':World} {gm n i L oc g q:Nat} {bs cs:Nat->Nat} {R:Nat->Nat->Rat} {ao:Option Addr} {Q:Nat->Rat}
theorem ui.keep0 (h:ui W1 w gm n i bs cs R L ao oc g q Q) (k:w.grownBy w' none):ui W1 w' gm n i bs cs R L ao oc g q Q :=
 ⟨h.box.keep k Z,h.own.keep0 k,h.rws.keep0 k,ab h.gr k,h.lo,h.hg,h.hb,h.row.keep0 k⟩
theorem ui.put {b:Nat} {d:Nat->Rat} (h:ui W1 w gm n i bs cs R L ao oc g q Q) (hn:0<n) (f:dt w' g n d b) (k:aO w w' g):ui W1 w' gm n i bs cs R L ao oc g b d:=by
 have a:=h.row.noB hn;have l:=h.own.ne_prow (Nat.succ_pos i) h.row hn;have m:=h.hg;have o:=h.lo;exact ⟨h.box.keep k.1 (fun e=>by have:=zJ e;omega),h.own.keep k.1 (.inr (fun e=>l e.symm)),h.rws.keepB k.1 k.2 (fun j p e=>h.hb j p (zJ e)) a,aj h.gr k.1 (fun _ _ e=>e) (fun c hc e=>by cases e;omega),o,m,h.hb,f⟩
theorem ui.close (h:ui W1 w gm n i bs cs R L ao oc g q Q) (hn:n<=maxLen) (a:q<=L) (b:∀ k,k<n->Q k=R i k):Cl W1 w gm n (i+1) (i+1) (cZ bs i g) (cZ cs i n) R L ao oc :=
 ⟨h.box,h.own,h.rws.put h.hg zL hn ((h.row.congr b).mono a) h.hb,h.gr,h.lo,fun e=>O⟩
theorem ui.congr {a:Nat->Rat} (h:ui W1 w gm n i bs cs R L ao oc g q Q) (e:Q=a):ui W1 w gm n i bs cs R L ao oc g q a:=e▸h
end
def EoR (W1:World) (gm sz N:Nat) (R:Nat->Nat->Rat) (L:Nat) (v:Value) (wr:World):Prop :=
 ∃ (k oc:Nat) (ao:Option Addr) (bs cs:Nat->Nat),k<=N/\v=.int .i64 ((k:Int)+1)/\Cl W1 wr gm (sz+1) k k bs cs R L ao oc
def EiR (W1:World) (gm sz N k:Nat) (ps:List aD) (bs cs:Nat->Nat) (R:Nat->Nat->Rat) (L:Nat) (ao:Option Addr) (oc g:Nat) (v:Value) (wr:World):Prop :=
 ∃ i:Nat,i<=ps.length/\v=.int .i64 i/\ui W1 wr gm (sz+1) k bs cs R L ao oc g 4 (dN N ps (k+1) i)
def EpR (W1:World) (gm sz N P:Nat) (R:Nat->Nat->Rat) (L:Nat) (v:Value) (wr:World):Prop :=
 ∃ (i oc:Nat) (ao:Option Addr) (bs cs:Nat->Nat),i<=P/\v=.int .i64 i/\Cl W1 wr gm (sz+1) (N+i) (N+i) bs cs R L ao oc
theorem da.lower {α:Type} {f:α->Value} {t:TypeId} {base base':Nat} {v:Value} {xs:List α} (h:da f t w base v xs) (hb:base'<=base):da f t w base' v xs:=by
 refine ⟨⟨h.1.1,?_⟩,h.2⟩;rcases h.1.2 with b | ⟨g,cap,a,e,c,d⟩
 ·exact .inl b
 ·exact .inr ⟨g,cap,a,e,Nat.le_trans hb c,d⟩
theorem gO.lower {base base' n i L:Nat} {bs cs:Nat->Nat} {R:Nat->Nat->Rat} (h:gO w base n i bs cs R L) (hb:base'<=base):gO w base' n i bs cs R L:=⟨fun j a=>Nat.le_trans hb (h.low j a),h.cap,h.row,h.inj⟩
abbrev je (w:World) (b:Nat) (q:aD):Prop:=w.cell? ⟨b,0,none⟩=some (.int .i64 q.kind)/\w.cell? ⟨b,1,none⟩=some (.int .i64 q.a)/\w.cell? ⟨b,2,none⟩=some (.int .i64 q.b)/\w.cell? ⟨b,3,none⟩=some (.int .i64 q.c)/\w.cell? ⟨b,4,none⟩=some (.int .i64 q.d)/\w.cell? ⟨b,5,none⟩=some (.string q.v)
attribute [local simp] je
theorem je.k {a:World} {b:Nat} {q:aD} {r:Option Nat} (h:je w b q) (g:w.grownBy a r) (n:some b≠r):je a b q:=⟨g.cell h.1 n,g.cell h.2.1 n,g.cell h.2.2.1 n,g.cell h.2.2.2.1 n,g.cell h.2.2.2.2.1 n,g.cell h.2.2.2.2.2 n⟩
theorem rk (N tg:Nat) (tf tc:Array Value) (po:Option Addr) (pc:Nat) (s:List aD) (Kf Jf Of:Nat->Rat) (M:Nat) (ml:Int) (w:World) (et:∀ args wx,(callFunc tg args).run Tryz.prog wx=.ok (.enter tg args) wx) (hp:aA w (.slice po s.length pc) s)
  (hN:N<=100) (hP:s.length<=100) (hM:4<=M) (hM2:M<=100000000000) (hend:∀ p∈s,0<=p.a/\p.a<=N/\0<=p.b/\p.b<=N/\0<=p.c/\p.c<=N/\0<=p.d/\p.d<=N) (hval:∀ p∈s,p.v.size<=1000000000/\3*p.v.size+8<=M)
  (hti:∀ i (hi:i<s.length) wx,w.grownBy wx none->s[i].kind≠6->s[i].kind≠7->Calls Tryz.prog tg (tf++#[.int .i64 i,.agg #[.int .i64 s[i].kind,.int .i64 s[i].a,.int .i64 s[i].b,.int .i64 s[i].c,.int .i64 s[i].d,.string s[i].v]]++tc) wx fun e E=>∃ a b c,e=.returned (.agg #[.pointer (some ⟨a,0,none⟩),.pointer (some ⟨b,0,none⟩),.pointer (some ⟨c,0,none⟩)])/\wx.grownBy E none/\RV E a (Kf i) M/\RV E b (Jf i) M/\RV E c (Of i) M) (hml:w.cell? ⟨2,0,none⟩=some (.int .i64 ml)) :
  Calls Tryz.prog 29 #[.agg #[.int .i64 ((N:Int)+1),.slice po s.length pc],.func (.func tg) tf tc] w fun e E =>
   ∃ (v:Value) (bs cs:Nat->Nat),e=.returned (.tuple #[v,.int .i64 ((N+s.length:Nat):Int)])/\w.grownBy E none/\da (eM (N+s.length+1)) 109 E w.heap.size v (cd bs cs (N+s.length))
    /\ gO E w.heap.size (N+s.length+1) (N+s.length) bs cs (bC N s Kf Jf Of) (5*M+40):=by
 have HP:=aa hp;have qc:=aa hml;have kn:=aa hend;have ko:=aa hval;have qf:=aa hti;clear hp hml hend hval hti;obtain ⟨f,kN⟩:=eX (N+s.length);have qo:f<=200:=O
 obtain ⟨gn,hX⟩:=eX w.heap.size;obtain ⟨gs,hY⟩:=eX (w.heap.size+1);obtain ⟨gm,kf⟩:=eX (w.heap.size+1+1);obtain ⟨W1,hB⟩:=eX ((w.alloc (Obj.cells #[.int .i64 ((N:Int)+1),.slice po s.length pc] 24)).alloc (Obj.cells #[.int .i64 f] 3));have qs:IntKind.i64.wrap (N:Int)=(N:Int):=IntWalk.i64_in _ ⟨O,O⟩;have ks:IntKind.i64.wrap ((N:Int)+(s.length:Int))=(f:Int):=by rw [IntWalk.i64_in _ ⟨O,O⟩];omega
 go_enter Tryz.func29,Tryz.ntmps29
 go_upto_region 6 with fail;have hC:(N:Int)+(s.length:Int)=(f:Int):=O
 rw [hC];have he:=aa kN;have qq:=aa hC;have ya:=aa ks;clear kN hC ks;rw [<- kf,<- hY,<- hX,<- hB];obtain ⟨w2,hy⟩:=eX (W1.alloc (Obj.cells #[.slice none 0 0] 66));have hS:Hid (W1.heap.size=gm):=by show _=_;rw [hB,kf];simp
 have hD:Hid (w.grownBy W1 none):=by rw [hB];exact ae (ae (ag _ _) _) _
 have NC:Hid (∀ wx,W1.grownBy wx none->lu wx gn (.int .i64 ((N:Int)+1)) (.slice po s.length pc)/\wx.cell? ⟨gs,0,none⟩=some (.int .i64 f)):=by
  intro wx hg;rw [hB] at hg;rw [hX,hY];exact ⟨⟨hg.cell zG Z,hg.cell zG Z⟩,hg.cell zG Z⟩
 obtain ⟨R,hR⟩:=eX (bC N s Kf Jf Of);obtain ⟨L,hL⟩:=eX (5*M+40);have E0:Hid (Cl W1 w2 gm (f+1) 0 0 (fun _=>0) (fun _=>0) R L none 0):=by
  refine ⟨?_,mW,gO.nil ..,?_,Nat.le_of_eq hS,fun _=>rfl⟩
  ·unfold km;rw [hy,<- hS];exact heap_alloc_new W1 _
  ·rw [hy];exact ae (ag _ _) _
 have ku:Hid (gn<W1.heap.size/\gs<W1.heap.size):=by rw [hX,hY,hB];exact ⟨by simp;omega,Z⟩
 have kw:Hid (w.heap.size<=gm+1):=by show _<=_;omega
 rw [<- hy];have hE:=aa hR;have hF:=aa hL;clear hy hB hX hY kf hR hL;go_wp2;go_loopw [10] (fun v wr=>Hid (EoR W1 gm f N R L v wr)) (fun v _=>N+1-(intOf v).toNat)
 case atStart=>exact ⟨0,0,none,_,_,O,rfl,E0⟩
 case round =>
  obtain ⟨k,oc,ao,bs,cs,hk,rfl,e1⟩:=hrel.out;have E1:=aa e1;clear e1 hrel E0;have W:=NC.out wr E1.gr;by_cases ql:k<N
  ·go_wp2_with fail;refine (uX gs gm f k oc L ao bs cs R wr W.2 O E1.box E1.own E1.rws O E1.nil).mono ?_;rintro e w3 ⟨g,G,H,rfl,kS,f1,f2,f3,f4,f5,f6,f7,f8,f9⟩;have X3:Hid (ui W1 w3 gm (f+1) k bs cs R L G H g 4 (dN N s (k+1) 0)):=by
    rw [oA];exact aa ⟨f1,f2,f3,f8 W1 E1.gr E1.lo,E1.lo,f5,f6,f4⟩
   clear kS f1 f2 f3 f4 f5 f6 f7 f8 f9 W E1;have W:=NC.out w3 X3.gr;go_wp2;go_loopw [38] (fun v wr=>Hid (EiR W1 gm f N k s bs cs R L G H g v wr)) (fun v _=>s.length-(intOf v).toNat)
   case atStart=>exact ⟨0,O,rfl,X3⟩
   case round =>
    obtain ⟨i,hi,rfl,x1⟩:=hrel.out;have X1:=aa x1;clear x1 hrel X3 W;by_cases hlt:i<s.length
    ·obtain ⟨kg,kk,e0,_,_,hQ⟩:=HP.out;obtain ⟨b0,off,e1,hb,c0,c1,c2,c3,c4,c5,c6⟩:=hQ i hlt;have e2:po=kg:=by injection e0
     have e4:pc=kk:=by injection e0
     subst e2 e4;subst e1;have P:=ab hD X1.gr;obtain ⟨q,hq⟩:=eX (s[i]);rw [<- hq] at c0 c1 c2 c3 c4 c5 c6;have d0:=P.cell c0 Z;have d1:=P.cell c1 Z;have d2:=P.cell c2 Z;have d3:=P.cell c3 Z;have d4:=P.cell c4 Z;have d5:=P.cell c5 Z;have HQ:=aa hq;have W:=NC.out wr X1.gr;clear c0 c1 c2 c3 c4 c5 c6 hq hQ e0 P;go_upto_region 12 with fail;obtain ⟨gq,ho⟩:=eX wr.heap.size;obtain ⟨w7,hf⟩:=eX (wr.alloc (Obj.cells #[.int .i64 q.kind,.int .i64 q.a,.int .i64 q.b,.int .i64 q.c,.int .i64 q.d,.string q.v] 60));have G7:Hid (wr.grownBy w7 none):=by rw [hf];exact ae (ag _ _) _
     have PQ:Hid (w7.cell? ⟨gq,1,none⟩=some (.int .i64 q.a)/\w7.cell? ⟨gq,2,none⟩=some (.int .i64 q.b)):=by
      rw [hf,ho];exact ⟨zG,zG⟩
     rw [<- hf,<- ho];have X7:=aa (X1.keep0 G7);clear hf ho d0 d1 d2 d3 d4 d5 X1 W;have Y:=PQ.out;have W:=NC.out w7 X7.gr;have hG:(0:Int)<=(N:Int)+(i:Int):=O
     have hH:(N:Int)+(i:Int)<(f:Int)+1:=by have:=he.out;omega
     have hT:IntKind.i64.wrap ((N:Int)+(i:Int))=(N:Int)+(i:Int):=IntWalk.i64_in _ ⟨O,O⟩;have hx:N+i<f+1:=by have:=he.out;omega
     have hz:Hid (¬ gn=g):=by show ¬ _;have h1:=ku.out;have h2:=hS.out;have h3:=X7.out.hg;omega
     have NN:Hid (∀ (z:Int) wx,-9223372036854775808<=z->z<=9223372036854775807->Calls Tryz.prog 31 #[.int .i64 z] wx fun e E=>Ci wx (z:Rat) 4 e E):=fun z wx h1 h2=>gS z wx h1 h2
     by_cases ha:q.a=(k:Int)+1<;>by_cases hb:q.b=(k:Int)+1
     ·have hr:(q.a==(k:Int)+1)=true:=by simp [ha]
      have hs:(q.b==(k:Int)+1)=true:=by simp [hb]
      have hu:Hid (jj q (k+1)=0):=by
       show _=_
       unfold jj;rw [if_pos O,if_pos O];rfl
      clear ha hb;go_upto_region 17 with fail;clear hr hs Y;refine hd (fun E=>E.cell? ⟨gn,0,none⟩=some (.int .i64 ((N:Int)+1))) (fun hHeld=>?_);refine tk 3 [(0,55,.slice (some ⟨g,0,none⟩) (f+1) (f+1)),(1,56,.pointer (some ⟨gn,0,none⟩)),(2,57,.int .i64 ((N:Int)+1)),(3,58,.int .i64 N),(4,59,.int .i64 i),(5,60,.int .i64 ((N:Int)+(i:Int))),(6,61,.int .i64 0)] ?_;simp only [pA,pL,vA,vL,q0,q1,q2,q3];refine cQ 2 7 (fun K j=>?_);simp only [ax,q4,q5,q6,q7];go_simp
      go_at_call 31
      refine (NN 0 _ O O).mono ?_;rintro e m ⟨J,rfl,y,t,Q⟩;have GG:=gx (ag w7 none);have n:w7.grownBy m none:=ab GG t;have n1:=NC.out m (ab X7.gr n);have C:=aa y;clear y t Q GG;go_wp2_with fail;refine bk j (fun hHeld=>?_);clear j K;try simp only [pA,pL,vA,vL,q0,q1,q2,q3]
      refine tk 1 [(8,63,.pointer (some ⟨g,N+i,none⟩))] ?_;try simp only [pA,pL,vA,vL,q0,q1,q2,q3]
      refine cQ 0 9 (fun K j=>?_);simp only [ax,q4,q5,q6,q7];have T:=X7.out.keep0 n;obtain ⟨pz,z0,z1,zf⟩:=T.row.at (N+i) O;have U:=zf (N+i);obtain ⟨t1,S⟩:=T.row.set (N+i) O (.inl C:RV m J _ 4);have n2:=S.1.cell n1.1.1 (by simp;exact hz);go_simp
      refine bk j (fun hHeld=>?_);clear j K;refine wpAnyH_done zK ?_ _;have X9:Hid (ui W1 (m.setCell ⟨g,N+i,none⟩ (.pointer (some ⟨J,0,none⟩))) gm (f+1) k bs cs R L G H g 4 (dN N s (k+1) (i+1))):=(T.put O t1 S).congr (by rw [<- hu,HQ];exact iC N s (k+1) i hlt);clear t1 S z0 z1 zf U T hHeld n1 n2 W X7 C n;go_wp2;go_roundw
      case rel=>exact ⟨i+1,O,zN,X9⟩
      case measure=>exact bO
     ·have hr:(q.a==(k:Int)+1)=true:=by simp [ha]
      have hs:(q.b==(k:Int)+1)=false:=by exact zB hb
      have hu:Hid (jj q (k+1)=1):=by
       show _=_
       unfold jj;rw [if_pos O,if_neg O];rfl
      clear ha hb;go_upto_region 17 with fail;clear hr hs Y;refine hd (fun E=>E.cell? ⟨gn,0,none⟩=some (.int .i64 ((N:Int)+1))) (fun hHeld=>?_);refine tk 3 [(0,55,.slice (some ⟨g,0,none⟩) (f+1) (f+1)),(1,56,.pointer (some ⟨gn,0,none⟩)),(2,57,.int .i64 ((N:Int)+1)),(3,58,.int .i64 N),(4,59,.int .i64 i),(5,60,.int .i64 ((N:Int)+(i:Int))),(6,61,.int .i64 1)] ?_;simp only [pA,pL,vA,vL,q0,q1,q2,q3];refine cQ 2 7 (fun K j=>?_);simp only [ax,q4,q5,q6,q7];go_simp
      go_at_call 31
      refine (NN 1 _ O O).mono ?_;rintro e m ⟨J,rfl,y,t,Q⟩;have GG:=gx (ag w7 none);have n:w7.grownBy m none:=ab GG t;have n1:=NC.out m (ab X7.gr n);have C:=aa y;clear y t Q GG;go_wp2_with fail;refine bk j (fun hHeld=>?_);clear j K;try simp only [pA,pL,vA,vL,q0,q1,q2,q3]
      refine tk 1 [(8,63,.pointer (some ⟨g,N+i,none⟩))] ?_;try simp only [pA,pL,vA,vL,q0,q1,q2,q3]
      refine cQ 0 9 (fun K j=>?_);simp only [ax,q4,q5,q6,q7];have T:=X7.out.keep0 n;obtain ⟨pz,z0,z1,zf⟩:=T.row.at (N+i) O;have U:=zf (N+i);obtain ⟨t1,S⟩:=T.row.set (N+i) O (.inl C:RV m J _ 4);have n2:=S.1.cell n1.1.1 (by simp;exact hz);go_simp
      refine bk j (fun hHeld=>?_);clear j K;refine wpAnyH_done zK ?_ _;have X9:Hid (ui W1 (m.setCell ⟨g,N+i,none⟩ (.pointer (some ⟨J,0,none⟩))) gm (f+1) k bs cs R L G H g 4 (dN N s (k+1) (i+1))):=(T.put O t1 S).congr (by rw [<- hu,HQ];exact iC N s (k+1) i hlt);clear t1 S z0 z1 zf U T hHeld n1 n2 W X7 C n;go_wp2;go_roundw
      case rel=>exact ⟨i+1,O,zN,X9⟩
      case measure=>exact bO
     ·have hr:(q.a==(k:Int)+1)=false:=by exact zB ha
      have hs:(q.b==(k:Int)+1)=true:=by simp [hb]
      have hu:Hid (jj q (k+1)=(-1)):=by
       show _=_
       unfold jj;rw [if_neg O,if_pos O];rfl
      clear ha hb;go_upto_region 17 with fail;clear hr hs Y;refine hd (fun E=>E.cell? ⟨gn,0,none⟩=some (.int .i64 ((N:Int)+1))) (fun hHeld=>?_);refine tk 3 [(0,55,.slice (some ⟨g,0,none⟩) (f+1) (f+1)),(1,56,.pointer (some ⟨gn,0,none⟩)),(2,57,.int .i64 ((N:Int)+1)),(3,58,.int .i64 N),(4,59,.int .i64 i),(5,60,.int .i64 ((N:Int)+(i:Int))),(6,61,.int .i64 (-1))] ?_;simp only [pA,pL,vA,vL,q0,q1,q2,q3];refine cQ 2 7 (fun K j=>?_);simp only [ax,q4,q5,q6,q7];go_simp
      go_at_call 31
      refine (NN (-1) _ O O).mono ?_;rintro e m ⟨J,rfl,y,t,Q⟩;have GG:=gx (ag w7 none);have n:w7.grownBy m none:=ab GG t;have n1:=NC.out m (ab X7.gr n);have C:=aa y;clear y t Q GG;go_wp2_with fail;refine bk j (fun hHeld=>?_);clear j K;try simp only [pA,pL,vA,vL,q0,q1,q2,q3]
      refine tk 1 [(8,63,.pointer (some ⟨g,N+i,none⟩))] ?_;try simp only [pA,pL,vA,vL,q0,q1,q2,q3]
      refine cQ 0 9 (fun K j=>?_);simp only [ax,q4,q5,q6,q7];have T:=X7.out.keep0 n;obtain ⟨pz,z0,z1,zf⟩:=T.row.at (N+i) O;have U:=zf (N+i);obtain ⟨t1,S⟩:=T.row.set (N+i) O (.inl C:RV m J _ 4);have n2:=S.1.cell n1.1.1 (by simp;exact hz);go_simp
      refine bk j (fun hHeld=>?_);clear j K;refine wpAnyH_done zK ?_ _;have X9:Hid (ui W1 (m.setCell ⟨g,N+i,none⟩ (.pointer (some ⟨J,0,none⟩))) gm (f+1) k bs cs R L G H g 4 (dN N s (k+1) (i+1))):=(T.put O t1 S).congr (by rw [<- hu,HQ];exact iC N s (k+1) i hlt);clear t1 S z0 z1 zf U T hHeld n1 n2 W X7 C n;go_wp2;go_roundw
      case rel=>exact ⟨i+1,O,zN,X9⟩
      case measure=>exact bO
     ·have hr:(q.a==(k:Int)+1)=false:=by exact zB ha
      have hs:(q.b==(k:Int)+1)=false:=by exact zB hb
      have hu:Hid (jj q (k+1)=0):=by
       show _=_
       unfold jj;rw [if_neg O,if_neg O];rfl
      clear ha hb;go_upto_region 17 with fail;clear hr hs Y;refine hd (fun E=>E.cell? ⟨gn,0,none⟩=some (.int .i64 ((N:Int)+1))) (fun hHeld=>?_);refine tk 3 [(0,55,.slice (some ⟨g,0,none⟩) (f+1) (f+1)),(1,56,.pointer (some ⟨gn,0,none⟩)),(2,57,.int .i64 ((N:Int)+1)),(3,58,.int .i64 N),(4,59,.int .i64 i),(5,60,.int .i64 ((N:Int)+(i:Int))),(6,61,.int .i64 0)] ?_;simp only [pA,pL,vA,vL,q0,q1,q2,q3];refine cQ 2 7 (fun K j=>?_);simp only [ax,q4,q5,q6,q7];go_simp
      go_at_call 31
      refine (NN 0 _ O O).mono ?_;rintro e m ⟨J,rfl,y,t,Q⟩;have GG:=gx (ag w7 none);have n:w7.grownBy m none:=ab GG t;have n1:=NC.out m (ab X7.gr n);have C:=aa y;clear y t Q GG;go_wp2_with fail;refine bk j (fun hHeld=>?_);clear j K;try simp only [pA,pL,vA,vL,q0,q1,q2,q3]
      refine tk 1 [(8,63,.pointer (some ⟨g,N+i,none⟩))] ?_;try simp only [pA,pL,vA,vL,q0,q1,q2,q3]
      refine cQ 0 9 (fun K j=>?_);simp only [ax,q4,q5,q6,q7];have T:=X7.out.keep0 n;obtain ⟨pz,z0,z1,zf⟩:=T.row.at (N+i) O;have U:=zf (N+i);obtain ⟨t1,S⟩:=T.row.set (N+i) O (.inl C:RV m J _ 4);have n2:=S.1.cell n1.1.1 (by simp;exact hz);go_simp
      refine bk j (fun hHeld=>?_);clear j K;refine wpAnyH_done zK ?_ _;have X9:Hid (ui W1 (m.setCell ⟨g,N+i,none⟩ (.pointer (some ⟨J,0,none⟩))) gm (f+1) k bs cs R L G H g 4 (dN N s (k+1) (i+1))):=(T.put O t1 S).congr (by rw [<- hu,HQ];exact iC N s (k+1) i hlt);clear t1 S z0 z1 zf U T hHeld n1 n2 W X7 C n;go_wp2;go_roundw
      case rel=>exact ⟨i+1,O,zN,X9⟩
      case measure=>exact bO
    ·obtain rfl:i=s.length:=O
     have E2:Hid (Cl W1 wr gm (f+1) (k+1) (k+1) (cZ bs k g) (cZ cs k (f+1)) R L G H):=X1.out.close (by unfold maxLen;omega) (by rw [hF];omega) (fun u _=>by rw [hE];unfold bC;rw [if_pos ql]);have W:=NC.out wr X1.gr;clear X1;go_wp2;go_roundw
     case rel=>exact ⟨k+1,H,G,_,_,O,zN,E2⟩
     case measure=>exact bO
  ·obtain rfl:k=N:=O
   go_wp2;go_loopw [68] (fun v wr=>Hid (EpR W1 gm f k s.length R L v wr)) (fun v _=>s.length-(intOf v).toNat)
   case atStart=>exact ⟨0,oc,ao,bs,cs,O,rfl,E1⟩
   case round =>
    clear E1 W;obtain ⟨i,oc,ao,bs,cs,hi,rfl,e1⟩:=hrel.out;have E1:=aa e1;clear e1 hrel;have W:=NC.out wr E1.gr;by_cases hlt:i<s.length
    ·obtain ⟨kg,kk,e0,_,_,hQ⟩:=HP.out;obtain ⟨b0,off,e1,hb,c0,c1,c2,c3,c4,c5,c6⟩:=hQ i hlt;have e2:po=kg:=by injection e0
     have e4:pc=kk:=by injection e0
     subst e2 e4;subst e1;have P:=ab hD E1.gr;obtain ⟨q,hq⟩:=eX (s[i]);have F:Hid (0<=q.a/\q.a<=((f+1:Nat):Int)/\0<=q.b/\q.b<=((f+1:Nat):Int)/\0<=q.c/\q.c<=((f+1:Nat):Int)/\0<=q.d/\q.d<=((f+1:Nat):Int)):=by
      have h1:=kn.out q (by rw [hq];exact List.getElem_mem _);have h2:=he.out;show _/\_
      omega
     have ky:=aa (ko q (by rw [hq];exact List.getElem_mem _));have hW:Hid (∀ wx,wx.cell? ⟨2,0,none⟩=some (.int .i64 ml)->Calls Tryz.prog 27 #[.string q.v] wx fun e E=>∃ b,e=.returned (.pointer (some ⟨b,0,none⟩))/\wx.grownBy E none/\wx.heap.size<=b/\RV E b (dh q.v.data.toList) M):=fun wx h=>Am q.v M ml wx ky.1 ky.2 h
     have ML:Hid (∀ wx,W1.grownBy wx none->wx.cell? ⟨2,0,none⟩=some (.int .i64 ml)):=fun wx hg=>(ab hD hg).cell qc Z
     rw [<- hq] at c0 c1 c2 c3 c4 c5 c6;have d0:=P.cell c0 Z;have d1:=P.cell c1 Z;have d2:=P.cell c2 Z;have d3:=P.cell c3 Z;have d4:=P.cell c4 Z;have d5:=P.cell c5 Z;have HQ:=aa hq;clear c0 c1 c2 c3 c4 c5 c6 hq hQ e0 P;go_upto_region 22 with fail;obtain ⟨gq,ho⟩:=eX wr.heap.size;obtain ⟨w7,hf⟩:=eX (wr.alloc (Obj.cells #[.int .i64 q.kind,.int .i64 q.a,.int .i64 q.b,.int .i64 q.c,.int .i64 q.d,.string q.v] 60));have G7:Hid (wr.grownBy w7 none):=by rw [hf];exact ae (ag _ _) _
     have r:Hid (je w7 gq q):=by
      rw [hf,ho];exact ⟨zG,zG,zG,zG,zG,zG⟩
     have kz:Hid (gq<w7.heap.size):=by show _<_;rw [hf,ho];simp
     rw [<- hf,<- ho];have E7:=aa (E1.keep0 G7);clear hf ho d0 d1 d2 d3 d4 d5 E1 W;have W:=NC.out w7 E7.gr;go_wp2_with fail;refine (uX gs gm f (k+i) oc L ao bs cs R w7 W.2 O E7.box E7.own E7.rws O E7.nil).mono ?_;rintro e w3 ⟨g,G,H,rfl,kS,f1,f2,f3,f4,f5,f6,f7,f8,f9⟩;have hj:Hid (some gq≠some g):=fun e=>by have:=kz.out;have:=zJ e;omega
     have X:Hid (ui W1 w3 gm (f+1) (k+i) bs cs R L G H g 4 (fun _=>0)):=⟨f1,f2,f3,f8 W1 E7.gr E7.lo,E7.lo,f5,f6,f4⟩;have kF:Hid (je w3 gq q):=by
      have h1:(Value.slice ao (k+i) oc).ownBlock≠some gq:=by
       rcases zP (k+i) with e | e
       ·rw [E7.nil e];intro e2;cases e2
       ·intro e2;obtain ⟨a,l,c,hc⟩:=E7.out.own.first e e2;rw [r.1] at hc;cases hc
      have h2:gq≠gm:=fun e=>by
       have h3:=E7.out.box.cells.1;rw [<- e,r.1] at h3;cases h3
      have h3:=f9 gq kz h2 h1;have h4:∀ o v,w7.cell? ⟨gq,o,none⟩=some v->w3.cell? ⟨gq,o,none⟩=some v:=fun o v hv=>(World.cell?_of_block (a:=⟨gq,o,none⟩) h3).trans hv
      exact ⟨h4 _ _ r.1,h4 _ _ r.2.1,h4 _ _ r.2.2.1,h4 _ _ r.2.2.2.1,h4 _ _ r.2.2.2.2.1,h4 _ _ r.2.2.2.2.2⟩
     clear f1 f2 f3 f4 f5 f6 f7 f8 f9 W E7 r;have r:=kF;clear kF;obtain ⟨A,D⟩:=eX w3;subst D;have GG:A.grownBy A none:=ag _ _;by_cases h6:q.kind=6
     ·have b6:(q.kind==6)=true:=by simp [h6]
      have H6:=aa h6;clear h6;have Y:=r.out;go_upto_region 30 with fail;refine hd (fun E=>je E gq q) (fun hHeld=>?_);refine tk 2 [(0,112,.func (.func 60) #[] #[]),(1,113,.slice (some ⟨g,0,none⟩) (f+1) (f+1)),(2,114,.pointer (some ⟨gq,1,none⟩)),(3,115,.int .i64 q.a)] ?_;try simp only [pA,pL,vA,vL,q0,q1,q2,q3]
      refine cQ 1 4 (fun K j=>?_);simp only [ax,q4,q5,q6,q7];go_simp
      go_at_call 31
      refine (gS 1 _ O O).mono ?_;rintro e m ⟨J,rfl,y,t,Q⟩;have n:A.grownBy m none:=ab (gx GG) t;have k0:=r.out.k n Z;have C:Hid (RX m J (1:Rat) 4):=RQ.x y;have GG:=n;clear y t Q n;go_wp2_with fail;refine bk j (fun hHeld=>?_);clear j K;try simp only [pA,pL,vA,vL,q0,q1,q2,q3]
      refine cQ 0 5 (fun K j=>?_);simp only [ax,q4,q5,q6,q7];go_simp
      go_at_call 60
      refine (iK g (f+1) (f+1) _ _ 4 q.a J 1 _ (X.row.keep0 (gx GG)) (C.keep0 (gx (ag _ _))) (F.1) (F.2.1) zL (by unfold maxLen;omega) O O).mono ?_;rintro e m ⟨rfl,p1,B⟩;have XP:=(X.keep0 (gx GG)).put O p1 B;have k1:=(r.k (gx GG) Z).k B.1 hj;clear p1 B;go_wp2_with fail;refine bk j (fun hHeld=>?_);clear j K;try simp only [pA,pL,vA,vL,q0,q1,q2,q3]
      refine wpAnyH_done zK ?_ _;have X:=aa XP;have r:=aa k1;clear XP k0 hHeld C GG Y;obtain ⟨A,D⟩:=eX m;subst D;have GG:A.grownBy A none:=ag _ _;have Y:=r.out;go_upto_region 31 with fail;refine hd (fun E=>je E gq q) (fun hHeld=>?_);refine tk 2 [(0,118,.func (.func 60) #[] #[]),(1,119,.slice (some ⟨g,0,none⟩) (f+1) (f+1)),(2,120,.pointer (some ⟨gq,2,none⟩)),(3,121,.int .i64 q.b)] ?_;try simp only [pA,pL,vA,vL,q0,q1,q2,q3]
      refine cQ 1 4 (fun K j=>?_);simp only [ax,q4,q5,q6,q7];go_simp
      go_at_call 31
      refine (gS (-1) _ O O).mono ?_;rintro e m ⟨J,rfl,y,t,Q⟩;have n:A.grownBy m none:=ab (gx GG) t;have k0:=r.out.k n Z;have C:Hid (RX m J (-1:Rat) 4):=RQ.x y;have GG:=n;clear y t Q n;go_wp2_with fail;refine bk j (fun hHeld=>?_);clear j K;try simp only [pA,pL,vA,vL,q0,q1,q2,q3]
      refine cQ 0 5 (fun K j=>?_);simp only [ax,q4,q5,q6,q7];go_simp
      go_at_call 60
      refine (iK g (f+1) (f+1) _ _ 4 q.b J (-1) _ (X.row.keep0 (gx GG)) (C.keep0 (gx (ag _ _))) (F.2.2.1) (F.2.2.2.1) zL (by unfold maxLen;omega) O O).mono ?_;rintro e m ⟨rfl,p1,B⟩;have XP:=(X.keep0 (gx GG)).put O p1 B;have k1:=(r.k (gx GG) Z).k B.1 hj;clear p1 B;go_wp2_with fail;refine bk j (fun hHeld=>?_);clear j K;try simp only [pA,pL,vA,vL,q0,q1,q2,q3]
      refine wpAnyH_done zK ?_ _;have X:=aa XP;have r:=aa k1;clear XP k0 hHeld C GG Y;obtain ⟨A,D⟩:=eX m;subst D;have GG:A.grownBy A none:=ag _ _;have Y:=r.out;go_upto_region 32 with fail;refine hd (fun E=>je E gq q) (fun hHeld=>?_);refine tk 3 [(0,124,.func (.func 60) #[] #[]),(1,125,.slice (some ⟨g,0,none⟩) (f+1) (f+1)),(2,126,.pointer (some ⟨gq,3,none⟩)),(3,127,.int .i64 q.c),(4,128,.pointer (some ⟨gq,5,none⟩)),(5,129,.string q.v)] ?_;try simp only [pA,pL,vA,vL,q0,q1,q2,q3]
      refine cQ 2 6 (fun K j=>?_);simp only [ax,q4,q5,q6,q7];go_simp
      go_at_call 27
      refine (hW _ (ML _ (ab X.gr (gx GG)))).mono ?_;rintro e m ⟨J,rfl,t,Q,y⟩;have n:A.grownBy m none:=ab (gx GG) t;have k0:=r.out.k n Z;have C:Hid (RX m J (dh q.v.data.toList) M):=y.x O;have GG:=n;clear y t Q n;go_wp2_with fail;refine bk j (fun hHeld=>?_);clear j K;try simp only [pA,pL,vA,vL,q0,q1,q2,q3]
      refine cQ 1 7 (fun K j=>?_);simp only [ax,q4,q5,q6,q7];go_simp
      go_at_call 62
      refine (mY J _ M _ (C.keep0 (gx (ag _ _))) O).mono ?_;rintro e m ⟨bb,rfl,y,t,Q⟩;have n:A.grownBy m none:=ab (gx GG) t;have k0:=r.out.k n Z;have C:Hid (RX m bb (-(dh q.v.data.toList)) (M+2)):=RQ.x y;have GG:=n;clear y t Q n;go_wp2_with fail;refine bk j (fun hHeld=>?_);clear j K;try simp only [pA,pL,vA,vL,q0,q1,q2,q3]
      refine cQ 0 8 (fun K j=>?_);simp only [ax,q4,q5,q6,q7];go_simp
      go_at_call 60
      refine (iK g (f+1) (f+1) _ _ (M+2) q.c bb (-(dh q.v.data.toList)) _ (X.row.keep0 (gx GG)) (C.keep0 (gx (ag _ _))) (F.2.2.2.2.1) (F.2.2.2.2.2.1) zL (by unfold maxLen;omega) O O).mono ?_;rintro e m ⟨rfl,p1,B⟩;have XP:=(X.keep0 (gx GG)).put O p1 B;have k1:=(r.k (gx GG) Z).k B.1 hj;clear p1 B;go_wp2_with fail;refine bk j (fun hHeld=>?_);clear j K;try simp only [pA,pL,vA,vL,q0,q1,q2,q3]
      refine wpAnyH_done zK ?_ _;have X:=aa XP;have r:=aa k1;clear XP k0 hHeld C GG Y;obtain ⟨A,D⟩:=eX m;subst D;have GG:A.grownBy A none:=ag _ _;have Y:=r.out;go_upto_region 33 with fail;refine hd (fun E=>je E gq q) (fun hHeld=>?_);refine tk 2 [(0,133,.func (.func 60) #[] #[]),(1,134,.slice (some ⟨g,0,none⟩) (f+1) (f+1)),(2,135,.pointer (some ⟨gq,4,none⟩)),(3,136,.int .i64 q.d),(4,137,.pointer (some ⟨gq,5,none⟩)),(5,138,.string q.v)] ?_;try simp only [pA,pL,vA,vL,q0,q1,q2,q3]
      refine cQ 1 6 (fun K j=>?_);simp only [ax,q4,q5,q6,q7];go_simp
      go_at_call 27
      refine (hW _ (ML _ (ab X.gr (gx GG)))).mono ?_;rintro e m ⟨J,rfl,t,Q,y⟩;have n:A.grownBy m none:=ab (gx GG) t;have k0:=r.out.k n Z;have C:Hid (RX m J (dh q.v.data.toList) M):=y.x O;have GG:=n;clear y t Q n;go_wp2_with fail;refine bk j (fun hHeld=>?_);clear j K;try simp only [pA,pL,vA,vL,q0,q1,q2,q3]
      refine cQ 0 7 (fun K j=>?_);simp only [ax,q4,q5,q6,q7];go_simp
      go_at_call 60
      refine (iK g (f+1) (f+1) _ _ M q.d J (dh q.v.data.toList) _ (X.row.keep0 (gx GG)) (C.keep0 (gx (ag _ _))) (F.2.2.2.2.2.2.1) (F.2.2.2.2.2.2.2) zL (by unfold maxLen;omega) O O).mono ?_;rintro e m ⟨rfl,p1,B⟩;have XP:=(X.keep0 (gx GG)).put O p1 B;have k1:=(r.k (gx GG) Z).k B.1 hj;clear p1 B;go_wp2_with fail;refine bk j (fun hHeld=>?_);clear j K;try simp only [pA,pL,vA,vL,q0,q1,q2,q3]
      refine wpAnyH_done zK ?_ _;have X:=aa XP;have r:=aa k1;clear XP k0 hHeld C GG Y;obtain ⟨A,D⟩:=eX m;subst D;have GG:A.grownBy A none:=ag _ _;have E2:Hid (Cl W1 A gm (f+1) (k+i+1) (k+i+1) (cZ bs (k+i) g) (cZ cs (k+i) (f+1)) R L G H):=X.out.close (by unfold maxLen;omega) (by rw [hF];omega) (fun u _=>by rw [hE,pg hlt (by rw [<- HQ];exact H6),<- HQ]);clear X r GG;go_wp2;go_roundw
      case rel=>exact ⟨i+1,H,G,_,_,O,zN,E2⟩
      case measure=>exact bO
     ·have b6:(q.kind==6)=false:=zB h6;by_cases h7:q.kind=7
      ·have b7:(q.kind==7)=true:=by simp [h7]
       have H7:=aa h7;clear h7 h6;have hG:(0:Int)<=(k:Int)+(i:Int):=O
       have hH:(k:Int)+(i:Int)<(f:Int)+1:=by have:=he.out;omega
       have hT:IntKind.i64.wrap ((k:Int)+(i:Int))=(k:Int)+(i:Int):=IntWalk.i64_in _ ⟨O,O⟩;have hx:k+i<f+1:=by have:=he.out;omega
       have hz:Hid (¬ gn=g):=by show ¬ _;have h1:=ku.out;have h2:=hS.out;have h3:=X.out.hg;omega
       have W:=NC.out A X.gr;have Y:=r.out;go_upto_region 35 with fail;refine hd (fun E=>E.cell? ⟨gn,0,none⟩=some (.int .i64 ((k:Int)+1))) (fun hHeld=>?_);refine tk 3 [(0,143,.slice (some ⟨g,0,none⟩) (f+1) (f+1)),(1,144,.pointer (some ⟨gn,0,none⟩)),(2,145,.int .i64 ((k:Int)+1)),(3,146,.int .i64 k),(4,147,.int .i64 i),(5,148,.int .i64 ((k:Int)+(i:Int)))] ?_;try simp only [pA,pL,vA,vL,q0,q1,q2,q3]
       refine cQ 2 6 (fun K j=>?_);simp only [ax,q4,q5,q6,q7];go_simp
       go_at_call 31
       refine (gS 1 _ O O).mono ?_;rintro e m ⟨J,rfl,y,t,Q⟩;have n:A.grownBy m none:=ab (gx GG) t;have n1:=NC.out m (ab X.gr n);have C:Hid (RQ m J (1:Rat) 4):=y;clear y t Q;go_wp2_with fail;refine bk j (fun hHeld=>?_);clear j K;try simp only [pA,pL,vA,vL,q0,q1,q2,q3]
       refine tk 1 [(7,150,.pointer (some ⟨g,k+i,none⟩))] ?_;try simp only [pA,pL,vA,vL,q0,q1,q2,q3]
       refine cQ 0 8 (fun K j=>?_);simp only [ax,q4,q5,q6,q7];have T:=X.out.keep0 n;obtain ⟨pz,z0,z1,zf⟩:=T.row.at (k+i) O;have U:=zf (k+i);obtain ⟨t1,S⟩:=T.row.set (k+i) O (.inl C:RV m J _ 4);have n2:=S.1.cell n1.1.1 (by simp;exact hz);go_simp
       refine bk j (fun hHeld=>?_);clear j K;refine wpAnyH_done zK ?_ _;have X9:=aa (T.put O t1 S);have P9:=aa ((r.k n Z).k S.1 hj);obtain ⟨wb,qa⟩:=eX (m.setCell ⟨g,k+i,none⟩ (.pointer (some ⟨J,0,none⟩)));rw [<- qa] at X9 P9 ⊢;clear qa t1 S z0 z1 zf U T hHeld n1 n2 W Y X r C n GG hG hH hT hx;have X:=X9;have r:=P9;clear X9 P9;obtain ⟨A,D⟩:=eX wb;subst D;have GG:A.grownBy A none:=ag _ _;have Y:=r.out;go_upto_region 36 with fail;refine hd (fun E=>je E gq q) (fun hHeld=>?_);refine tk 3 [(0,151,.func (.func 60) #[] #[]),(1,152,.slice (some ⟨g,0,none⟩) (f+1) (f+1)),(2,153,.pointer (some ⟨gq,3,none⟩)),(3,154,.int .i64 q.c),(4,155,.pointer (some ⟨gq,5,none⟩)),(5,156,.string q.v)] ?_;try simp only [pA,pL,vA,vL,q0,q1,q2,q3]
       refine cQ 2 6 (fun K j=>?_);simp only [ax,q4,q5,q6,q7];go_simp
       go_at_call 27
       refine (hW _ (ML _ (ab X.gr (gx GG)))).mono ?_;rintro e m ⟨J,rfl,t,Q,y⟩;have n:A.grownBy m none:=ab (gx GG) t;have k0:=r.out.k n Z;have C:Hid (RX m J (dh q.v.data.toList) M):=y.x O;have GG:=n;clear y t Q n;go_wp2_with fail;refine bk j (fun hHeld=>?_);clear j K;try simp only [pA,pL,vA,vL,q0,q1,q2,q3]
       refine cQ 1 7 (fun K j=>?_);simp only [ax,q4,q5,q6,q7];go_simp
       go_at_call 62
       refine (mY J _ M _ (C.keep0 (gx (ag _ _))) O).mono ?_;rintro e m ⟨bb,rfl,y,t,Q⟩;have n:A.grownBy m none:=ab (gx GG) t;have k0:=r.out.k n Z;have C:Hid (RX m bb (-(dh q.v.data.toList)) (M+2)):=RQ.x y;have GG:=n;clear y t Q n;go_wp2_with fail;refine bk j (fun hHeld=>?_);clear j K;try simp only [pA,pL,vA,vL,q0,q1,q2,q3]
       refine cQ 0 8 (fun K j=>?_);simp only [ax,q4,q5,q6,q7];go_simp
       go_at_call 60
       refine (iK g (f+1) (f+1) _ _ (M+2) q.c bb (-(dh q.v.data.toList)) _ (X.row.keep0 (gx GG)) (C.keep0 (gx (ag _ _))) (F.2.2.2.2.1) (F.2.2.2.2.2.1) zL (by unfold maxLen;omega) O O).mono ?_;rintro e m ⟨rfl,p1,B⟩;have XP:=(X.keep0 (gx GG)).put O p1 B;have k1:=(r.k (gx GG) Z).k B.1 hj;clear p1 B;go_wp2_with fail;refine bk j (fun hHeld=>?_);clear j K;try simp only [pA,pL,vA,vL,q0,q1,q2,q3]
       refine wpAnyH_done zK ?_ _;have X:=aa XP;have r:=aa k1;clear XP k0 hHeld C GG Y;obtain ⟨A,D⟩:=eX m;subst D;have GG:A.grownBy A none:=ag _ _;have Y:=r.out;go_upto_region 37 with fail;refine hd (fun E=>je E gq q) (fun hHeld=>?_);refine tk 2 [(0,160,.func (.func 60) #[] #[]),(1,161,.slice (some ⟨g,0,none⟩) (f+1) (f+1)),(2,162,.pointer (some ⟨gq,4,none⟩)),(3,163,.int .i64 q.d),(4,164,.pointer (some ⟨gq,5,none⟩)),(5,165,.string q.v)] ?_;try simp only [pA,pL,vA,vL,q0,q1,q2,q3]
       refine cQ 1 6 (fun K j=>?_);simp only [ax,q4,q5,q6,q7];go_simp
       go_at_call 27
       refine (hW _ (ML _ (ab X.gr (gx GG)))).mono ?_;rintro e m ⟨J,rfl,t,Q,y⟩;have n:A.grownBy m none:=ab (gx GG) t;have k0:=r.out.k n Z;have C:Hid (RX m J (dh q.v.data.toList) M):=y.x O;have GG:=n;clear y t Q n;go_wp2_with fail;refine bk j (fun hHeld=>?_);clear j K;try simp only [pA,pL,vA,vL,q0,q1,q2,q3]
       refine cQ 0 7 (fun K j=>?_);simp only [ax,q4,q5,q6,q7];go_simp
       go_at_call 60
       refine (iK g (f+1) (f+1) _ _ M q.d J (dh q.v.data.toList) _ (X.row.keep0 (gx GG)) (C.keep0 (gx (ag _ _))) (F.2.2.2.2.2.2.1) (F.2.2.2.2.2.2.2) zL (by unfold maxLen;omega) O O).mono ?_;rintro e m ⟨rfl,p1,B⟩;have XP:=(X.keep0 (gx GG)).put O p1 B;have k1:=(r.k (gx GG) Z).k B.1 hj;clear p1 B;go_wp2_with fail;refine bk j (fun hHeld=>?_);clear j K;try simp only [pA,pL,vA,vL,q0,q1,q2,q3]
       refine wpAnyH_done zK ?_ _;have X:=aa XP;have r:=aa k1;clear XP k0 hHeld C GG Y;obtain ⟨A,D⟩:=eX m;subst D;have GG:A.grownBy A none:=ag _ _;have E2:Hid (Cl W1 A gm (f+1) (k+i+1) (k+i+1) (cZ bs (k+i) g) (cZ cs (k+i) (f+1)) R L G H):=X.out.close (by unfold maxLen;omega) (by rw [hF];omega) (fun u _=>by rw [hE,ph hlt (by rw [<- HQ];exact H7),<- HQ]);clear X r GG;go_wp2;go_roundw
       case rel=>exact ⟨i+1,H,G,_,_,O,zN,E2⟩
       case measure=>exact bO
      ·have b7:(q.kind==7)=false:=zB h7;have kb:=qf.out i hlt A (ab hD X.gr) (by rw [<- HQ];exact h6) (by rw [<- HQ];exact h7);rw [<- HQ,Array.append_assoc] at kb;have TI:=aa kb;have H6:=aa h6;have H7:=aa h7;clear kb h6 h7;have Y:=r.out;go_upto_region 25 with (go_at_fn tg;refine TI.mono ?_;rintro e m ⟨pk,pj,pp,rfl,t,y,Q,y4⟩)
       obtain ⟨gt,kl⟩:=eX m.heap.size;obtain ⟨wd,ka⟩:=eX (m.alloc (Obj.cells #[.pointer (some ⟨pk,0,none⟩),.pointer (some ⟨pj,0,none⟩),.pointer (some ⟨pp,0,none⟩)] 73));have hI:m.grownBy wd none:=by rw [ka];exact ae (ag _ _) _
       have GD:A.grownBy wd none:=ab t hI;have TC:Hid (cM wd gt (.pointer (some ⟨pk,0,none⟩)) (.pointer (some ⟨pj,0,none⟩)) (.pointer (some ⟨pp,0,none⟩))):=by rw [ka,kl];exact ⟨zG,zG,zG⟩
       have kc:Hid (some gt≠some g):=fun e=>by have h1:=X.out.row.lt;have h2:=t.size;have:=zJ e;omega
       rw [<- ka,<- kl];have TK:=aa (y.keep0 hI);have TJ:=aa (Q.keep0 hI);have TO:=aa (y4.keep0 hI);have XD:=aa (X.keep0 GD);have PD:=aa (r.k GD Z);clear ka kl y t Q y4 hI GD Y X r GG TI;have Y:=PD.out;have hA:=TC.out;go_wp2_with fail;refine (iK g (f+1) (f+1) _ _ M q.a pk (Kf i) wd XD.row (TK.x O) F.1 F.2.1 zL (by unfold maxLen;omega) O O).mono ?_;rintro e wb ⟨rfl,p1,B⟩;have hl:=XD.out.row.noB O;have X:=aa (XD.put O p1 B);have r:=aa (PD.k B.1 hj);have hm:=aa (TC.k B.1 kc);have kH:=aa (TK.keepW B.1 B.2 (TK.apart hl));have ke:=aa (TJ.keepW B.1 B.2 (TJ.apart hl));have hw:=aa (TO.keepW B.1 B.2 (TO.apart hl));clear p1 B hl Y hA XD PD TC TK TJ TO;obtain ⟨A,D⟩:=eX wb;subst D;have GG:A.grownBy A none:=ag _ _;have Y:=r.out;have hA:=hm.out;go_upto_region 26 with fail;refine hd (fun E=>je E gq q/\E.cell? ⟨gt,0,none⟩=some (.pointer (some ⟨pk,0,none⟩))) (fun hHeld=>?_);refine tk 2 [(0,88,.func (.func 60) #[] #[]),(1,89,.slice (some ⟨g,0,none⟩) (f+1) (f+1)),(2,90,.pointer (some ⟨gq,2,none⟩)),(3,91,.int .i64 q.b),(4,92,.pointer (some ⟨gt,0,none⟩)),(5,93,.pointer (some ⟨pk,0,none⟩))] ?_;try simp only [pA,pL,vA,vL,q0,q1,q2,q3]
       refine cQ 1 6 (fun K j=>?_);simp only [ax,q4,q5,q6,q7];go_simp
       go_at_call 62
       refine (mY pk _ M _ ((kH.x O).keep0 (gx GG)) O).mono ?_;rintro e m ⟨bb,rfl,y,t,Q⟩;have n:A.grownBy m none:=ab (gx GG) t;have k0:=r.out.k n Z;have k1:=hm.out.k n Z;have C:=aa (RQ.x y);have GG:=n;clear y t Q n;go_wp2_with fail;refine bk j (fun hHeld=>?_);clear j K;try simp only [pA,pL,vA,vL,q0,q1,q2,q3]
       refine cQ 0 7 (fun K j=>?_);simp only [ax,q4,q5,q6,q7];go_simp
       go_at_call 60
       refine (iK g (f+1) (f+1) _ _ (M+2) q.b bb (-(Kf i)) _ (X.row.keep0 (gx GG)) (C.keep0 (gx (ag _ _))) F.2.2.1 F.2.2.2.1 zL (by unfold maxLen;omega) O O).mono ?_;rintro e wb ⟨rfl,p1,B⟩;have T:=X.out.keep0 GG;have hl:=T.row.noB O;have XP:=T.put O p1 B;have k2:=(r.k GG Z).k B.1 hj;have k3:=(hm.k GG Z).k B.1 kc;have k4:=(ke.keep0 GG).keepW B.1 B.2 ((ke.keep0 GG).apart hl);have k5:=(hw.keep0 GG).keepW B.1 B.2 ((hw.keep0 GG).apart hl);clear p1 B hl T;go_wp2_with fail;refine bk j (fun hHeld=>?_);clear j K;try simp only [pA,pL,vA,vL,q0,q1,q2,q3]
       refine wpAnyH_done zK ?_ _;have X:=aa XP;have r:=aa k2;have TC:=aa k3;have TJ:=aa k4;have TO:=aa k5;clear XP k0 k1 k2 k3 k4 k5 hHeld C GG Y hA hm kH ke hw;obtain ⟨A,D⟩:=eX wb;subst D;have hG:(0:Int)<=(k:Int)+(i:Int):=O
       have hH:(k:Int)+(i:Int)<(f:Int)+1:=by have:=he.out;omega
       have hT:IntKind.i64.wrap ((k:Int)+(i:Int))=(k:Int)+(i:Int):=IntWalk.i64_in _ ⟨O,O⟩;have hx:k+i<f+1:=by have:=he.out;omega
       have W:=NC.out A X.gr;have hA:=TC.out;obtain ⟨pz,z0,z1,zf⟩:=X.out.row.at (k+i) O;have U:=zf (k+i);go_upto_region 28 with fail;obtain ⟨t1,S⟩:=X.out.row.set (k+i) O (TJ.mono O);have XB:=aa (X.put O t1 S);have hw:=aa (TO.keepW S.1 S.2 (TO.apart (X.row.noB O)));have hm:=aa (TC.k S.1 kc);obtain ⟨we,qb⟩:=eX (A.setCell ⟨g,k+i,none⟩ (.pointer (some ⟨pj,0,none⟩)));rw [<- qb] at XB hw hm ⊢;clear qb t1 S z0 z1 zf U W hA X r TC TJ TO hG hH hT hx;have W:=NC.out we XB.gr;have hA:=hm.out;obtain ⟨pz,z0,z1,zf⟩:=XB.out.row.at f O;have U:=zf f;have hG:(0:Int)<=(f:Int):=O
       have hH:(f:Int)<(f:Int)+1:=O
       obtain ⟨t1,S⟩:=XB.out.row.set f O (hw.mono O);have XC:=aa (XB.put O t1 S);have E2:Hid (Cl W1 (we.setCell ⟨g,f,none⟩ (.pointer (some ⟨pp,0,none⟩))) gm (f+1) (k+i+1) (k+i+1) (cZ bs (k+i) g) (cZ cs (k+i) (f+1)) R L G H):=XC.out.close (by unfold maxLen;omega) (by rw [hF];omega) (fun u _=>by rw [hE,pn hlt (by rw [<- HQ];exact H6) (by rw [<- HQ];exact H7),<- HQ,<- he]);clear t1 S XC XB hw hm z1 zf;go_wp2;go_roundw
       case rel=>exact ⟨i+1,H,G,_,_,O,zN,E2⟩
       case measure=>exact bO
    ·obtain rfl:i=s.length:=O
     have bx:=E1.out.box.cells.1;have n1:=W.2;go_upto_region 39 with fail;go_region
     go_wp2;go_ret2
     have E3:=E1.out;rw [<- he] at E3;rw [<- he,<- hE,<- hF];exact ⟨_,bs,cs,rfl,ab hD (ab E3.gr zE),(E3.own.keep0 zE).lower kw,(E3.rws.keep0 zE).lower kw⟩
theorem dr.tight {b m n L L':Nat} {bs cs:Nat->Nat} {R:Nat->Nat->Rat} (h:dr w b m n bs cs R L) (d:∀ i,i<m->∀ k,k<n->bh L' (R i k)):dr w b m n bs cs R L':=by
 refine ⟨h.top,h.cap,fun i hi=>?_,h.inj,h.off⟩;obtain ⟨a,e,hb,hc⟩:=h.row i hi;refine ⟨a,e,hb,fun k c=>?_⟩;obtain ⟨p,c0,c1⟩:=hc k c;exact ⟨p,c0,c1.tightW (d i hi k c)⟩
theorem yI (a:Option Addr) (b:Nat) (w:World):Calls Tryz.prog 30 #[.slice a 0 b,.int .i64 0] w fun e d=>e=.returned (.tuple #[.int .i64 0,.int .i64 0,.slice none 0 0])/\w.grownBy d none:=by
 go_enter Tryz.func30,Tryz.ntmps30
 go_wp2;go_loopw [4,5,7,8] (fun v4 v5 v7 v8 wr=>Hid (v4=.int .i64 0/\v5=.int .i64 0/\v7=.int .i64 0/\v8=.int .i64 0/\w.grownBy wr none)) (fun _ _ _ _ _=>0)
 case atStart=>exact ⟨rfl,rfl,rfl,rfl,ag _ _⟩
 case round =>
  obtain ⟨rfl,rfl,rfl,rfl,g⟩:=hrel.out;have G:=aa g;clear g hrel;go_wp2;go_loopw [6,13] (fun v6 v13 wr=>Hid (v6=.slice none 0 0/\v13=.int .i64 0/\w.grownBy wr none)) (fun _ _ _=>0)
  case atStart=>exact ⟨rfl,rfl,G⟩
  case round =>
   obtain ⟨rfl,rfl,g⟩:=hrel.out;have c:=aa g;clear g hrel;go_wp2;go_ret3
   exact ⟨rfl,c⟩
theorem vR {s base:Nat} (hb:base<=w.heap.size):mD (w.alloc (Obj.cells #[.pointer (some ⟨s,0,none⟩)] 37)) base (.slice (some ⟨w.heap.size,0,none⟩) 1 1) [s]:=by
 have hh:=heap_alloc_new w (Obj.cells #[.pointer (some ⟨s,0,none⟩)] 37);refine ⟨⟨rfl,.inr ⟨w.heap.size,1,#[.pointer (some ⟨s,0,none⟩)],rfl,hb,hh,zL,by unfold maxLen;decide,rfl,rfl⟩⟩,fun k b=>?_⟩;simp only [Value.ownBlock,zI] at b;subst b;refine AF.cells hh ?_;intro u a x;simp at a;subst a;intro e;cases e
def cX (w:World) (v:Value) (n:Nat) (R:Nat->Rat) (L:Nat):Prop :=
 ∃ ao cap,v=.slice ao n cap/\n<=cap/\cap<=maxLen/\∀ j,j<n->∃ g off p,ao=some ⟨g,off,none⟩/\w.cell? ⟨g,off+j,none⟩=some (.pointer (some ⟨p,0,none⟩))/\RV w p (R j) L
def RSolE (w:World) (N P:Nat) (m0:Nat->Nat->Rat) (L:Nat) (e:Ending) (w':World):Prop :=
 ∃ (vv iv:Value) (how:Int),e=.returned (.tuple #[vv,iv,.int .i64 how])/\w.grownBy w' none
  /\ ((how=1/\vv=.slice none 0 0/\iv=.slice none 0 0/\∀ y,¬ Rk.um (N+P) m0 y)
   ∨ (how=2/\vv=.slice none 0 0/\iv=.slice none 0 0/\∃ y z q,Rk.um (N+P) m0 y/\Rk.um (N+P) m0 z/\q<N+P/\y q≠z q)
   ∨ (how=0/\∃ y:Nat->Rat,Rk.um (N+P) m0 y/\(∀ z,Rk.um (N+P) m0 z->∀ i,i<N+P->z i=y i)/\cX w' vv (N+1) (fun j=>if j=0 then 0 else y (j-1)) L/\cX w' iv P (fun j=>y (N+j)) L))
theorem tR (N tg:Nat) (tf tc:Array Value) (po:Option Addr) (pc:Nat) (f:List aD) (Kf Jf Of:Nat->Rat) (M E:Nat) (A:Nat->Nat->Rat) (s:Nat->Rat) (b:Nat->Nat) (ml:Int) (w:World)
  (hEQ:∀ wx,w.grownBy wx none->Calls Tryz.prog 29 #[.agg #[.int .i64 ((N:Int)+1),.slice po f.length pc],.func (.func tg) tf tc] wx fun e H =>
   ∃ (v:Value) (bs cs:Nat->Nat),e=.returned (.tuple #[v,.int .i64 ((N+f.length:Nat):Int)])/\wx.grownBy H none/\da (eM (N+f.length+1)) 109 H wx.heap.size v (cd bs cs (N+f.length))
    /\ gO H wx.heap.size (N+f.length+1) (N+f.length) bs cs (bC N f Kf Jf Of) (5*M+40))
  (hN:N<=100) (hP:f.length<=100) (hs:∀ q,s q≠0) (hb:∀ r,1<=b r) (hA:∀ r j,gP (b r) (A r j)) (hw:∀ q,gP (b q) (s q)) (hE:dR (N+f.length) b<4294967296^E) (hE1:1<=E) (hE2:E<=100000000000)
  (hst:∀ i,i<N+f.length->∀ k,s i*bC N f Kf Jf Of i k=A i k) :
  Calls Tryz.prog 7 #[.agg #[.int .i64 ((N:Int)+1),.slice po f.length pc],.func (.func tg) tf tc] w fun e H=>RSolE w N f.length (bC N f Kf Jf Of) (3*E+3*E+2) e H:=by
 have hx:=aa hEQ;obtain ⟨X,hq⟩:=eX (bC N f Kf Jf Of);obtain ⟨n,hn⟩:=eX (N+f.length);rw [<- hq,<- hn] at hx hst;rw [<- hn] at hE;rw [<- hq];have hI:Hid (∀ i,i<n->∀ k,k<n+1->bh (3*E) (X i k)):=fun i hi k hk=>Rk.gj_fit (Rk.gj_start (fun _=>0) hst) hs hb hA hw hE i k hi O
 have RK:Hid (∀ (br cm:Nat) (bs0 cs0:Nat->Nat) (W0 wx:World),0<n->W0.grownBy wx none->W0.heap.size<=br->(∀ i,i<n->W0.heap.size<=bs0 i)->dr wx br n (n+1) bs0 cs0 X (3*E)->Calls Tryz.prog 30 #[.slice (some ⟨br,0,none⟩) n cm,.int .i64 n] wx fun e H=>RkE W0 n X (3*E) e H) :=
  fun br cm bs0 cs0 W0 wx h0 h1 h2 h3 h4=>BP n br cm E A s b X bs0 cs0 W0 wx h0 O hs hb hA hw hE hE1 hE2 hst h1 h2 h3 h4
 have Q:=aa hn;have ke:n<=200:=O
 clear hEQ hs hb hA hw hE hst hq hn;obtain ⟨W,hW⟩:=eX (w.alloc (Obj.cells #[.int .i64 ((N:Int)+1),.slice po f.length pc] 24));obtain ⟨J,hr⟩:=eX w.heap.size;have GW:Hid (w.grownBy W none):=by rw [hW];exact ae (ag _ _) _
 have NC:Hid (∀ wx,W.grownBy wx none->lu wx J (.int .i64 ((N:Int)+1)) (.slice po f.length pc)):=by
  intro wx hg;rw [hW] at hg;rw [hr];exact ⟨hg.cell zG Z,hg.cell zG Z⟩
 go_enter Tryz.func7,Tryz.ntmps7
 go_wp2_with fail;rw [<- hW,<- hr];clear hW hr;refine (hx W GW).mono ?_;rintro e w1 ⟨v,bs,cs,rfl,g1,o1,r1⟩;have G1:=aa g1;have O1:=aa o1;have R1:=aa r1;clear g1 o1 r1;obtain ⟨ao,oc,rfl⟩:=O1.out.1.shape;rw [bA];by_cases h0:0<n
 ·obtain ⟨br,cap,e,b1,b2,b3,pm⟩:=O1.out.pmat h0 O R1;simp only [Value.slice.injEq] at e;obtain ⟨rfl,_,rfl⟩:=e;have PM:=aa (pm.tight hI);have BR:=aa b1;have hL:=aa R1.low;clear pm b1 b2 b3 O1 R1;go_wp2_with fail;refine (RK br oc bs cs W w1 h0 G1 BR hL PM).mono ?_;rintro e P ⟨a,b2,xv,rfl,g2,hu⟩;have R:=aa g2;clear g2;rcases hu with ⟨h1,h2⟩ | ⟨h1,h2,h3⟩ | ⟨h1,h2,y,xs,h3,h4,h5,h6,h7⟩
  ·have H2:Hid (∀ y,¬ Rk.um (N+f.length) X y):=by rw [<- Q];exact aa h2
   clear h2;go_wp2;go_ret3
   exact ⟨_,_,1,rfl,ab GW R,.inl ⟨rfl,rfl,rfl,H2⟩⟩
  ·have H3:Hid (∃ y z q,Rk.um (N+f.length) X y/\Rk.um (N+f.length) X z/\q<N+f.length/\y q≠z q):=by rw [<- Q];exact aa h3
   subst h1;have kf:¬ a<a:=O
   clear h3;go_wp2;go_ret3
   exact ⟨_,_,2,rfl,ab GW R,.inr (.inl ⟨rfl,rfl,rfl,H3⟩)⟩
  ·have e1:=h1.symm;subst e1;have e2:=h2.symm;subst e2;obtain ⟨xo,G,rfl⟩:=h6.1.shape;obtain ⟨kF,kH,ex,hX,hH,hv⟩:=h6.1.row;simp only [Value.slice.injEq] at ex;obtain ⟨rfl,_,rfl⟩:=ex;rw [h5] at hX ⊢;obtain ⟨p,ob,rfl,hY,ka⟩:=hv 0 (by rw [h5];exact h0);have he:Hid (∀ j (h:j<xs.length),P.cell? ⟨p,ob+j,none⟩=some (pfV xs[j])):=by
    intro j h;obtain ⟨g,off,e,_,c⟩:=hv j h;simp only [zI,Addr.mk.injEq,and_true] at e;obtain ⟨rfl,rfl⟩:=e;exact c
   have H3:=aa h3;have H4:=aa h4;have H7:=aa h7;have t:=aa h5;have hM:=aa hH;have kg:N<=n:=by have:=Q.out;omega
   clear hY ka;clear h3 h4 h5 h6 h7 hH hv h1 h2;have n0:=NC.out P (ab R (ag _ _));have kk:(0:Int)<=(N:Int):=O
   have kl:(N:Int)<=(G:Int):=O
   have kn:(N:Int)<=(n:Int):=O
   have ko:(n:Int)<=(G:Int):=O
   have ks:IntKind.i64.wrap (N:Int)=(N:Int):=IntWalk.i64_in _ ⟨O,O⟩;have ku:¬ n<n:=O
   obtain ⟨ov,hov⟩:=eX (if G=N then ob else ob+N);have hz:=aa hov;clear hov;go_upto_region 7 with fail;refine hd (fun H=>H.cell? ⟨J,0,none⟩=some (.int .i64 ((N:Int)+1))) (fun hHeld=>?_);refine tk 7 [(2,35,.slice (some ⟨p,ob,none⟩) n G),(3,36,.pointer (some ⟨J,0,none⟩)),(4,37,.int .i64 ((N:Int)+1)),(5,38,.int .i64 N),(6,39,.slice (some ⟨p,ob,none⟩) N G),(8,41,.slice (some ⟨p,ob,none⟩) n G),(9,42,.pointer (some ⟨J,0,none⟩)),(10,43,.int .i64 ((N:Int)+1)),(11,44,.int .i64 N)] ?_;simp only [pA,pL,vA,vL,q0,q1,q2,q3];refine tk 6 [(12,45,.slice (some ⟨p,ov,none⟩) (n-N) (G-N))] ?_ (hy:=⟨⟨zK,fun w kS=>by (simp only [ax,List.getElem?_toArray,List.getElem?_cons_zero,List.getElem?_cons_succ,Option.getD_some];go_simp;rw [hz];split<;>rfl)⟩,trivial⟩);try simp only [pA,pL,vA,vL,q0,q1,q2,q3]
   refine cQ 5 0 (fun K o=>?_);simp only [ax,q4,q5,q6,q7];go_simp
   go_at_call 31
   refine (gS 0 _ O O).mono ?_;rintro e d ⟨l,rfl,y1,y2,y3⟩;have B:P.grownBy d none:=ab (gx (ag P none)) y2;have n1:=NC.out d (ab R B);have Y1:Hid (RV d l 0 4):=.inl y1;clear y1 y2 y3;go_wp2_with fail;refine bk o (fun hHeld=>?_);clear o K;try simp only [pA,pL,vA,vL,q0,q1,q2,q3]
   refine cQ 4 1 (fun K o=>?_);simp only [ax,q4,q5,q6,q7];go_simp
   refine bk o (fun hHeld=>?_);clear o K;try simp only [pA,pL,vA,vL,q0,q1,q2,q3]
   have m:d.grownBy (d.alloc (Obj.cells #[.pointer (some ⟨l,0,none⟩)] 37)) none:=ae (ag _ _) _;have OB:mD (d.alloc (Obj.cells #[.pointer (some ⟨l,0,none⟩)] 37)) d.heap.size (.slice (some ⟨d.heap.size,0,none⟩) 1 1) [l]:=vR zL;refine on1e 3 7 ⟨some 40,.call ⟨.builtin .append,#[.tmp 34,.tmp 39],#[31,31]⟩,31, "nets.go:473",#[⟨1,.data⟩,⟨6,.data⟩,⟨0,.chain⟩],none⟩ (fun K o=>?_);have hB:∀ j u,((xs.take N).map pfV)[j]? = some u->(d.alloc (Obj.cells #[.pointer (some ⟨l,0,none⟩)] 37)).cell? ((⟨p,ob,none⟩:Addr).add j)=some u:=by
    intro j u C;rw [List.getElem?_map,List.getElem?_take] at C;by_cases hC:j<N
    ·rw [if_pos hC,zX (by rw [t];omega)] at C;have h1:=(ab B m).cell (he j (by rw [t];omega)) Z;rw [show (⟨p,ob,none⟩:Addr).add j=⟨p,ob+j,none⟩ from by unfold Addr.add;split<;>simp_all,h1];simpa using C
    ·rw [if_neg hC] at C;cases C
   refine qN pfV 37 (.pointer none) 8 _ rfl _ _ 31 rfl d.heap.size Tryz.underlying31 Tryz.infoPR rfl (.slice (some ⟨d.heap.size,0,none⟩) 1 1) [l] rfl OB.1 ⟨p,ob,none⟩ N G (xs.take N) rfl (by rw [List.length_take,t];omega) hB (fun _=>rfl) (by simp;omega) zD Z ?_;intro hG Y w6 D F;rw [show [l].length+N=N+1 from by rw [List.length_singleton];omega] at D ⊢;have hQ:=cJ n1.1;have n6:w6.cell? ⟨J,0,none⟩=some (.int .i64 ((N:Int)+1)):=F.cell (m.cell n1.1 Z) (fun e=>by have h:J=d.heap.size:=zJ e;have h2:J<d.heap.size:=hQ;omega);have G6:Hid (P.grownBy w6 none):=aj (r:=none) (ab B m) F (fun _ _ e=>e) (fun b hb e=>by have h:b=d.heap.size:=zJ e;have h2:=B.size;omega);have hD:bM (d.alloc (Obj.cells #[.pointer (some ⟨l,0,none⟩)] 37)) d.heap.size:=by
    intro i x e;have hh:=heap_alloc_new d (Obj.cells #[.pointer (some ⟨l,0,none⟩)] 37);simp only [World.cell?,hh] at e;rcases i with _ | i
    ·simp at e
    ·simp at e
   have KV:∀ {b:Nat} {q:Rat} {L:Nat},RV d b q L->RV w6 b q L:=fun {b q L} h=>(h.keep0 m).keepV F hD (show b≠d.heap.size from fun e=>by have h2:=h.lt;omega)
   have hR:4<=3*E+3*E+2:=O
   have hf:Hid (cX w6 (.slice hG (N+1) Y) (N+1) (fun j=>if j=0 then 0 else y (j-1)) (3*E+3*E+2)):=by
    obtain ⟨ao,cap,e,r1,r2,r3⟩:=D.row;have hl:([l]++xs.take N).length=N+1:=by rw [List.length_append,List.length_take,t,List.length_singleton];omega
    rw [hl] at e r1;simp only [Value.slice.injEq,true_and] at e;obtain ⟨rfl,rfl⟩:=e;refine ⟨_,_,rfl,r1,r2,fun j C=>?_⟩;obtain ⟨g,off,e1,_,c⟩:=r3 j (by rw [hl];exact C);by_cases S:j=0
    ·subst S;exact ⟨g,off,l,e1,c,by show RV w6 l (if (0:Nat)=0 then 0 else y (0-1)) _;rw [if_pos rfl];exact (KV Y1).mono hR⟩
    ·have T:j-1<xs.length:=by rw [t];omega
     refine ⟨g,off,xs[j-1],e1,?_,by show RV w6 _ (if j=0 then 0 else y (j-1)) _;rw [if_neg S];exact KV ((H7 (j-1) T).keep0 B)⟩;rw [c,List.getElem_append_right (by rw [List.length_singleton];omega)];simp only [List.length_singleton,List.getElem_take];rfl
   have hm:Hid (cX w6 (.slice (some ⟨p,ov,none⟩) (n-N) (G-N)) f.length (fun j=>y (N+j)) (3*E+3*E+2)):=by
    have hS:n-N=f.length:=by have:=Q.out;omega
    have kw:=hM.out;refine ⟨_,_,by rw [hS],O,O,fun j C=>?_⟩;have hT:¬ G=N:=O
    have hov:ov=ob+N:=by rw [hz,if_neg hT]
    have T:N+j<xs.length:=by rw [t];omega
    refine ⟨p,ov,xs[N+j],rfl,?_,KV ((H7 (N+j) T).keep0 B)⟩;have c:=he.out (N+j) T;rw [hov,Nat.add_assoc];have c2:=(ab B m).cell c Z;exact F.cell c2 (fun e=>by have h1:p=d.heap.size:=zJ e;have h2:p<P.heap.size:=cJ c;have h3:=B.size;omega)
   clear D F KV hD OB hB m n1 H7 he;refine bk o (fun hHeld=>?_);clear o K;refine tk 0 [(13,4,.slice hG (N+1) Y),(14,5,.slice (some ⟨p,ov,none⟩) (n-N) (G-N)),(15,6,.int .i64 0)] ?_;try simp only [pA,pL,vA,vL,q0,q1,q2,q3]
   refine wpAnyH_done zK ?_ _;go_wp2;go_ret3
   exact ⟨_,_,0,rfl,ab GW (ab R G6),.inr (.inr ⟨rfl,y,by rw [<- Q];exact H3,by rw [<- Q];exact H4,hf,hm⟩)⟩
 ·have e0:n=0:=O
  subst e0;have ho:N=0:=by have:=Q.out;omega
  have hp:Hid (f.length=0):=by show _=_;have:=Q.out;omega
  have ky:IntKind.i64.wrap (0:Int)=0:=zD
  clear O1 R1;go_wp2_with fail;refine (yI ao oc w1).mono ?_;rintro e P ⟨rfl,g2⟩;have R:=aa (ab G1 g2);clear g2;have n0:=NC.out P R;have U:=aa ho;rw [ho] at n0;clear ho;have kz:=n0.1;go_upto_region 7 with fail;refine hd (fun H=>H.cell? ⟨J,0,none⟩=some (.int .i64 (((0:Nat):Int)+1))) (fun hHeld=>?_);refine tk 6 [(2,35,.slice none 0 0),(3,36,.pointer (some ⟨J,0,none⟩)),(4,37,.int .i64 (((0:Nat):Int)+1)),(5,38,.int .i64 0),(6,39,.slice none 0 0),(8,41,.slice none 0 0),(9,42,.pointer (some ⟨J,0,none⟩)),(10,43,.int .i64 (((0:Nat):Int)+1)),(11,44,.int .i64 0),(12,45,.slice none 0 0)] ?_;simp only [pA,pL,vA,vL,q0,q1,q2,q3];refine cQ 5 0 (fun K o=>?_);simp only [ax,q4,q5,q6,q7];go_simp
  go_at_call 31
  refine (gS 0 _ O O).mono ?_;rintro e d ⟨l,rfl,y1,y2,y3⟩;have B:P.grownBy d none:=ab (gx (ag P none)) y2;have n1:=NC.out d (ab R B);rw [U] at n1;have Y1:Hid (RV d l 0 4):=.inl y1;clear y1 y2 y3;go_wp2_with fail;refine bk o (fun hHeld=>?_);clear o K;try simp only [pA,pL,vA,vL,q0,q1,q2,q3]
  refine cQ 4 1 (fun K o=>?_);simp only [ax,q4,q5,q6,q7];go_simp
  refine bk o (fun hHeld=>?_);clear o K;try simp only [pA,pL,vA,vL,q0,q1,q2,q3]
  have m:d.grownBy (d.alloc (Obj.cells #[.pointer (some ⟨l,0,none⟩)] 37)) none:=ae (ag _ _) _;have OB:mD (d.alloc (Obj.cells #[.pointer (some ⟨l,0,none⟩)] 37)) d.heap.size (.slice (some ⟨d.heap.size,0,none⟩) 1 1) [l]:=vR zL;refine on1e 3 7 ⟨some 40,.call ⟨.builtin .append,#[.tmp 34,.tmp 39],#[31,31]⟩,31, "nets.go:473",#[⟨1,.data⟩,⟨6,.data⟩,⟨0,.chain⟩],none⟩ (fun K o=>?_);obtain ⟨ti,kb,_,_,_⟩:=info_parts Tryz.infoPR;refine nR rfl _ _ 31 rfl d.heap.size 37 ti 1 Tryz.underlying31 kb (.slice (some ⟨d.heap.size,0,none⟩) 1 1) 1 _ rfl OB.1 rfl ?_;refine bk o (fun hHeld=>?_);clear o K;refine tk 0 [(13,4,.slice (some ⟨d.heap.size,0,none⟩) 1 1),(14,5,.slice none 0 0),(15,6,.int .i64 0)] ?_;try simp only [pA,pL,vA,vL,q0,q1,q2,q3]
  refine wpAnyH_done zK ?_ _;have hf:Hid (cX (d.alloc (Obj.cells #[.pointer (some ⟨l,0,none⟩)] 37)) (.slice (some ⟨d.heap.size,0,none⟩) 1 1) (N+1) (fun j=>if j=0 then 0 else (0:Rat)) (3*E+3*E+2)):=by
   obtain ⟨kN,kc,e,r1,r2,r3⟩:=OB.1.row;simp only [Value.slice.injEq] at e;obtain ⟨rfl,_,rfl⟩:=e;refine ⟨_,_,by rw [U],by rw [U];exact zL,r2,fun j C=>?_⟩;have S:j=0:=by have:=U.out;omega
   subst S;obtain ⟨g,off,e1,_,c⟩:=r3 0 Z;refine ⟨g,off,l,e1,c,?_⟩;show RV _ l (if (0:Nat)=0 then 0 else 0) _
   rw [if_pos rfl];exact (Y1.keep0 m).mono O
  have hm:Hid (cX (d.alloc (Obj.cells #[.pointer (some ⟨l,0,none⟩)] 37)) (.slice none 0 0) f.length (fun j=>(0:Rat)) (3*E+3*E+2)):=⟨none,0,by rw [hp],by rw [hp];exact zL,by unfold maxLen;omega,fun j C=>by rw [hp] at C;omega⟩;have hF:Hid (Rk.um (N+f.length) X (fun _=>0)/\∀ z,Rk.um (N+f.length) X z->∀ i,i<N+f.length->z i=(fun _=>(0:Rat)) i):=by
   rw [<- Q];exact ⟨fun i hi=>O,fun z _ i hi=>O⟩
  have GF:Hid (w.grownBy (d.alloc (Obj.cells #[.pointer (some ⟨l,0,none⟩)] 37)) none):=ab GW (ab R (ab B m));clear OB m n1 n0 Y1 hHeld;go_wp2;go_ret3
  exact ⟨_,_,0,rfl,GF,.inr (.inr ⟨rfl,fun _=>0,hF.1,hF.2,hf,hm⟩)⟩
open Go Go.RowKit
def SdE (w:World) (n:Nat) (ps:List aD) (L:Nat) (e:Ending) (w':World):Prop :=
 ∃ (vv iv:Value) (how:Int),e=.returned (.tuple #[vv,iv,.int .i64 how])/\w.grownBy w' none
  /\ ((how=1/\vv=.slice none 0 0/\iv=.slice none 0 0/\¬ ∃ V I,aE n ps V I)
   ∨ (how=2/\vv=.slice none 0 0/\iv=.slice none 0 0/\∃ V I V' I',aE n ps V I/\aE n ps V' I'/\((∃ j,j<n/\V j≠V' j)∨∃ i,i<ps.length/\I i≠I' i))
   ∨ (how=0/\∃ V I,aE n ps V I/\(∀ V' I',aE n ps V' I'->(∀ j,j<n->V' j=V j)/\∀ i,i<ps.length->I' i=I i)/\cX w' vv n V L/\cX w' iv ps.length I L))
def Fa (N:Nat) (V I:Nat->Rat) (k:Nat):Rat:=if k<N then V (k+1) else I (k-N)
theorem qV {N:Nat} (a:V 0=0) (j:Nat) (b:j<N+1):V j=dJ (Fa N V I) j:=by
 unfold dJ Fa;by_cases h:j=0
 ·rw [if_pos h,h,a]
 ·rw [if_neg h,if_pos O,show j-1+1=j by omega]
theorem sO {N:Nat} (i:Nat):I i=(fun i=>Fa N V I (N+i)) i:=by
 unfold Fa;simp only;rw [if_neg O,Nat.add_sub_cancel_left]
theorem xm {N:Nat} {a:List aD} (b:bS (N+1) a) (h:aE (N+1) a V I):Rk.um (N+a.length) (bC N a (dE a) (dQ a) (dZ a)) (Fa N V I) :=
 (pq b _).2 (h.congr b (fun j c=>qV h.gnd j c) (fun i _=>sO i))
theorem mv (N:Nat) (n:Option Addr) (o:Nat) (f:List aD) (M E:Nat) (s:Int) (w:World) (C:aA w (.slice n f.length o) f) (g:bS (N+1) f) (D:∀ p∈f,p.kind=2∨p.kind=3∨p.kind=1∨p.kind=4∨p.kind=5∨p.kind=6∨p.kind=7)
  (hv:∀ p∈f,p.v.size<=1000000000/\3*p.v.size+10<=M) (hM:4<=M) (hM2:M<=100000000000) (hE:fD (cr N f) (N+f.length)<E) (hE2:E<=100000000000) (hml:w.cell? ⟨2,0,none⟩=some (.int .i64 s)) :
  Calls Tryz.prog 7 #[.agg #[.int .i64 ((N:Int)+1),.slice n f.length o],.func (.func 8) #[] #[]] w fun e w'=>SdE w (N+1) f (3*E+3*E+2) e w':=by
 have l:∀ p∈f,p.a<=N/\p.b<=N/\p.c<=N/\p.d<=N:=by
  intro p k;obtain ⟨G,H,J,K,L,P,Q,R,S,T,U,W⟩:=g.ends p k;omega
 refine (tR N 8 #[] #[] n o f (dE f) (dQ f) (dZ f) M E (refA N f) (fun q=>((jh (bC N f (dE f) (dQ f) (dZ f) q) (N+f.length+1):Nat):Rat)) (fun r=>4294967296^cr N f r) s w ?_ (by have:=g.hi;omega) (by have:=g.len;omega) (fun q=>refS_ne q) (fun r=>Nat.one_le_pow _ _ zD) (fun r j=>refA_wh l r j) (fun q=>refS_wh l q) ?_ O hE2 ?_).mono ?_
 ·intro F hg;refine rk N 8 #[] #[] n o f (dE f) (dQ f) (dZ f) M s F (enters_of Tryz.func8 zK rfl) (C.keep hg) (by have:=g.hi;omega) (by have:=g.len;omega) hM hM2 (fun p k=>?_) (fun p k=>?_) (fun i hi wy hy k6 k7=>?_) (hg.cell hml Z)
  ·obtain ⟨G,H,J,K,L,P,Q,R,S,T,U,W⟩:=g.ends p k;omega
  ·have:=hv p k;omega
  ·have t:=ab hg hy;refine (B0 f[i] i M s wy (by have:=D _ (List.getElem_mem hi);omega) (hv _ (List.getElem_mem hi)).1 (hv _ (List.getElem_mem hi)).2 hM2 (t.cell hml Z)).mono ?_;rintro e w' ⟨v,rfl,x,a,b,c,rfl,r1,r2,X⟩;have u:f[i]? = some f[i]:=zX hi;refine ⟨a,b,c,rfl,x,?_,?_,?_⟩
   ·unfold dE;rw [u];exact r1
   ·unfold dQ;rw [u];exact r2
   ·unfold dZ;rw [u];exact X
 ·exact tE _ _ (by have:=g.hi;have:=g.len;omega) _ hE
 ·intro i hi j;rfl
 ·rintro e w' ⟨Y,iv,A,rfl,x,h⟩;refine ⟨Y,iv,A,rfl,x,?_⟩;rcases h with ⟨rfl,rfl,rfl,hn⟩ | ⟨rfl,rfl,rfl,y,z,q,hy,hz,hq,m⟩ | ⟨rfl,y,hy,hu,p1,p2⟩
  ·exact .inl ⟨rfl,rfl,rfl,fun ⟨V,I,h⟩=>hn _ (xm g h)⟩
  ·refine .inr (.inl ⟨rfl,rfl,rfl,dJ y,_,dJ z,_,(pq g y).1 hy,(pq g z).1 hz,?_⟩);by_cases h:q<N
   ·refine .inl ⟨q+1,O,?_⟩;unfold dJ;rw [if_neg O,if_neg O,Nat.add_sub_cancel];exact m
   ·refine .inr ⟨q-N,O,?_⟩;show y (N+(q-N))≠z (N+(q-N))
    rw [show N+(q-N)=q by omega];exact m
  ·refine .inr (.inr ⟨rfl,dJ y,fun i=>y (N+i),(pq g y).1 hy,fun V' I' B=>?_,p1,p2⟩);have hz:=hu _ (xm g B);refine ⟨fun j hj=>?_,fun i hi=>?_⟩
   ·rw [qV B.gnd j hj];unfold dJ;split
    ·rfl
    ·exact hz _ O
   ·have:=hz (N+i) O;exact (sO (N:=N) (V:=V') (I:=I') i).trans this
end Go.Proofs.YtbfohfjobncehaaGreatDoor
