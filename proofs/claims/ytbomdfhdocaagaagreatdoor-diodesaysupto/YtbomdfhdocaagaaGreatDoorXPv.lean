/- Contracts. -/
import Derived.Test.YtbomdfhdocaagaaGreatDoorXPu
namespace Go.Proofs.YtbomdfhdocaagaaGreatDoor
open Go.RowKit
set_option linter.all false
set_option maxHeartbeats 8000000
set_option maxRecDepth 10000
attribute [local simp] dP
variable {w:World}
structure CK (W1 w:World) (gm n i ii:Nat) (bs cs:Nat->Nat) (R:Nat->Nat->Rat) (L:Nat) (ao:Option Addr) (oc:Nat):Prop where
 box:kg w gm (.slice ao ii oc)
 own:cV (eC n) 90 w (gm+1) (.slice ao ii oc) (bW bs cs ii)
 rws:gR w (gm+1) n i bs cs R L
 gr:W1.grownBy w none
 lo:W1.heap.size<=gm
 nil:ii=0->ao=none
section
variable {W1 w w':World} {gm n i ii L oc g:Nat} {bs cs:Nat->Nat} {R:Nat->Nat->Rat} {ao:Option Addr}
def CK.keep0 (h:CK W1 w gm n i ii bs cs R L ao oc) (k:w.grownBy w' none):CK W1 w' gm n i ii bs cs R L ao oc :=
 ⟨h.box.keep k Z,h.own.keep0 k,h.rws.keep0 k,aa h.gr k,h.lo,h.nil⟩
end
structure ur (W1 w:World) (gm n i:Nat) (bs cs:Nat->Nat) (R:Nat->Nat->Rat) (L:Nat) (ao:Option Addr) (oc g q:Nat) (Q:Nat->Rat):Prop where
 box:kg w gm (.slice ao (i+1) oc)
 own:cV (eC n) 90 w (gm+1) (.slice ao (i+1) oc) (bW (cT bs i g) (cT cs i n) (i+1))
 rws:gR w (gm+1) n i bs cs R L
 gr:W1.grownBy w none
 lo:W1.heap.size<=gm
 hg:gm+1<=g
 hb:∀ j,j<i->bs j≠g
 row:di w g n Q q
section
variable {W1 w w':World} {gm n i L oc g q:Nat} {bs cs:Nat->Nat} {R:Nat->Nat->Rat} {ao:Option Addr} {Q:Nat->Rat}
def ur.keep0 (h:ur W1 w gm n i bs cs R L ao oc g q Q) (k:w.grownBy w' none):ur W1 w' gm n i bs cs R L ao oc g q Q :=
 ⟨h.box.keep k Z,h.own.keep0 k,h.rws.keep0 k,aa h.gr k,h.lo,h.hg,h.hb,h.row.keep0 k⟩
def ur.put {b:Nat} {d:Nat->Rat} (h:ur W1 w gm n i bs cs R L ao oc g q Q) (hn:0<n) (f:di w' g n d b) (k:aK w w' g):ur W1 w' gm n i bs cs R L ao oc g b d:=by
 have a:=h.row.noB hn;have l:=h.own.ne_prow (Nat.succ_pos i) h.row hn;have m:=h.hg;have o:=h.lo;exact ⟨h.box.keep k.1 (fun e=>by have:=zJ e;omega),h.own.keep k.1 (.inr (fun e=>l e.symm)),h.rws.keepB k.1 k.2 (fun j p e=>h.hb j p (zJ e)) a,aw h.gr k.1 (fun _ _ e=>e) (fun c hc e=>by cases e;omega),o,m,h.hb,f⟩
def ur.close (h:ur W1 w gm n i bs cs R L ao oc g q Q) (hn:n<=maxLen) (a:q<=L) (b:∀ k,k<n->Q k=R i k):CK W1 w gm n (i+1) (i+1) (cT bs i g) (cT cs i n) R L ao oc :=
 ⟨h.box,h.own,h.rws.put h.hg zL hn ((h.row.congr b).mono a) h.hb,h.gr,h.lo,fun e=>O⟩
def ur.congr {a:Nat->Rat} (h:ur W1 w gm n i bs cs R L ao oc g q Q) (e:Q=a):ur W1 w gm n i bs cs R L ao oc g q a:=e▸h
end
def EoR (W1:World) (gm sz N:Nat) (R:Nat->Nat->Rat) (L:Nat) (v:Value) (wr:World):Prop :=
 ∃ (k oc:Nat) (ao:Option Addr) (bs cs:Nat->Nat),k<=N/\v=.int .i64 ((k:Int)+1)/\CK W1 wr gm (sz+1) k k bs cs R L ao oc
def EiR (W1:World) (gm sz N k:Nat) (ps:List aA) (bs cs:Nat->Nat) (R:Nat->Nat->Rat) (L:Nat) (ao:Option Addr) (oc g:Nat) (v:Value) (wr:World):Prop :=
 ∃ i:Nat,i<=ps.length/\v=.int .i64 i/\ur W1 wr gm (sz+1) k bs cs R L ao oc g 4 (dw N ps (k+1) i)
def EpR (W1:World) (gm sz N P:Nat) (R:Nat->Nat->Rat) (L:Nat) (v:Value) (wr:World):Prop :=
 ∃ (i oc:Nat) (ao:Option Addr) (bs cs:Nat->Nat),i<=P/\v=.int .i64 i/\CK W1 wr gm (sz+1) (N+i) (N+i) bs cs R L ao oc
def cV.lower {α:Type} {f:α->Value} {t:TypeId} {base base':Nat} {v:Value} {xs:List α} (h:cV f t w base v xs) (hb:base'<=base):cV f t w base' v xs:=by
 refine ⟨⟨h.1.1,?_⟩,h.2⟩;rcases h.1.2 with b | ⟨g,cap,a,e,c,d⟩
 ·exact .inl b
 ·exact .inr ⟨g,cap,a,e,Nat.le_trans hb c,d⟩
def gR.lower {base base' n i L:Nat} {bs cs:Nat->Nat} {R:Nat->Nat->Rat} (h:gR w base n i bs cs R L) (hb:base'<=base):gR w base' n i bs cs R L:=⟨fun j a=>Nat.le_trans hb (h.low j a),h.cap,h.row,h.inj⟩
abbrev jb (w:World) (b:Nat) (q:aA):Prop:=w.cell? ⟨b,0,none⟩=some (.int .i64 q.kind)/\w.cell? ⟨b,1,none⟩=some (.int .i64 q.a)/\w.cell? ⟨b,2,none⟩=some (.int .i64 q.b)/\w.cell? ⟨b,3,none⟩=some (.int .i64 q.c)/\w.cell? ⟨b,4,none⟩=some (.int .i64 q.d)/\w.cell? ⟨b,5,none⟩=some (.string q.v)
attribute [local simp] jb
def jb.k {a:World} {b:Nat} {q:aA} {r:Option Nat} (h:jb w b q) (g:w.grownBy a r) (n:some b≠r):jb a b q:=⟨g.cell h.1 n,g.cell h.2.1 n,g.cell h.2.2.1 n,g.cell h.2.2.2.1 n,g.cell h.2.2.2.2.1 n,g.cell h.2.2.2.2.2 n⟩
def q8 (N tg:Nat) (tf tc:Array Value) (po:Option Addr) (pc:Nat) (s:List aA) (Kf Jf Of:Nat->Rat) (M:Nat) (ml:Int) (w:World) (et:∀ args wx,(callFunc tg args).run Tryz.prog wx=.ok (.enter tg args) wx) (hp:aB w (.slice po s.length pc) s)
  (hN:N<=100) (hP:s.length<=100) (hM:4<=M) (hM2:M<=100000000000) (hend:∀ p∈s,0<=p.a/\p.a<=N/\0<=p.b/\p.b<=N/\0<=p.c/\p.c<=N/\0<=p.d/\p.d<=N) (hval:∀ p∈s,p.v.size<=1000000000/\3*p.v.size+8<=M)
  (hti:∀ i (hi:i<s.length) wx,w.grownBy wx none->s[i].kind≠6->s[i].kind≠7->Calls Tryz.prog tg (tf++#[.int .i64 i,.agg #[.int .i64 s[i].kind,.int .i64 s[i].a,.int .i64 s[i].b,.int .i64 s[i].c,.int .i64 s[i].d,.string s[i].v]]++tc) wx fun e E=>∃ a b c,e=.returned (.agg #[.pointer (some ⟨a,0,none⟩),.pointer (some ⟨b,0,none⟩),.pointer (some ⟨c,0,none⟩)])/\wx.grownBy E none/\RV E a (Kf i) M/\RV E b (Jf i) M/\RV E c (Of i) M) (hml:w.cell? ⟨2,0,none⟩=some (.int .i64 ml)) :
  Calls Tryz.prog 26 #[.agg #[.int .i64 ((N:Int)+1),.slice po s.length pc],.func (.func tg) tf tc] w fun e E =>
   ∃ (v:Value) (bs cs:Nat->Nat),e=.returned (.tuple #[v,.int .i64 ((N+s.length:Nat):Int)])/\w.grownBy E none/\cV (eC (N+s.length+1)) 90 E w.heap.size v (bW bs cs (N+s.length))
    /\ gR E w.heap.size (N+s.length+1) (N+s.length) bs cs (aY N s Kf Jf Of) (5*M+40):=by
 have HP:=ab hp;have qs:=ab hml;have kw:=ab hend;have kz:=ab hval;have yc:=ab hti;clear hp hml hend hval hti;obtain ⟨f,qf⟩:=eX (N+s.length);have yn:f<=200:=O
 obtain ⟨gn,hW⟩:=eX w.heap.size;obtain ⟨gs,hX⟩:=eX (w.heap.size+1);obtain ⟨gm,kf⟩:=eX (w.heap.size+1+1);obtain ⟨W,hB⟩:=eX ((w.alloc (Obj.cells #[.int .i64 ((N:Int)+1),.slice po s.length pc] 24)).alloc (Obj.cells #[.int .i64 f] 3));have yv:IntKind.i64.wrap (N:Int)=(N:Int):=IntWalk.i64_in _ ⟨O,O⟩;have kF:IntKind.i64.wrap ((N:Int)+(s.length:Int))=(f:Int):=by rw [IntWalk.i64_in _ ⟨O,O⟩];omega
 go_enter Tryz.func26,Tryz.ntmps26
 go_upto_region 6 with fail;have hC:(N:Int)+(s.length:Int)=(f:Int):=O
 rw [hC];have he:=ab qf;have yo:=ab hC;have jc:=ab kF;clear qf hC kF;rw [<- kf,<- hX,<- hW,<- hB];obtain ⟨w2,hy⟩:=eX (W.alloc (Obj.cells #[.slice none 0 0] 60));have hQ:Hid (W.heap.size=gm):=by show _=_;rw [hB,kf];simp
 have hD:Hid (w.grownBy W none):=by rw [hB];exact ag (ag (ae _ _) _) _
 have NC:Hid (∀ wx,W.grownBy wx none->dP wx gn (.int .i64 ((N:Int)+1)) (.slice po s.length pc)/\wx.cell? ⟨gs,0,none⟩=some (.int .i64 f)):=by
  intro wx hg;rw [hB] at hg;rw [hW,hX];exact ⟨⟨hg.cell zG Z,hg.cell zG Z⟩,hg.cell zG Z⟩
 obtain ⟨R,hR⟩:=eX (aY N s Kf Jf Of);obtain ⟨L,hL⟩:=eX (5*M+40);have E0:Hid (CK W w2 gm (f+1) 0 0 (fun _=>0) (fun _=>0) R L none 0):=by
  refine ⟨?_,mN,gR.nil ..,?_,Nat.le_of_eq hQ,fun _=>rfl⟩
  ·unfold kg;rw [hy,<- hQ];exact heap_alloc_new W _
  ·rw [hy];exact ag (ae _ _) _
 have kH:Hid (gn<W.heap.size/\gs<W.heap.size):=by rw [hW,hX,hB];exact ⟨by simp;omega,Z⟩
 have kN:Hid (w.heap.size<=gm+1):=by show _<=_;omega
 rw [<- hy];have hE:=ab hR;have hF:=ab hL;clear hy hB hW hX kf hR hL;go_wp2;go_loopw [10] (fun v wr=>Hid (EoR W gm f N R L v wr)) (fun v _=>N+1-(intOf v).toNat)
 case atStart=>exact ⟨0,0,none,_,_,O,rfl,E0⟩
 case round =>
  obtain ⟨k,oc,ao,bs,cs,hk,rfl,e1⟩:=hrel.out;have E1:=ab e1;clear e1 hrel E0;have U:=NC.out wr E1.gr;by_cases yl:k<N
  ·go_wp2_with fail;refine (uZ gs gm f k oc L ao bs cs R wr U.2 O E1.box E1.own E1.rws O E1.nil).mono ?_;rintro e w3 ⟨g,G,H,rfl,ql,f1,f2,f3,f4,f5,f6,f7,f8,f9⟩;have X3:Hid (ur W w3 gm (f+1) k bs cs R L G H g 4 (dw N s (k+1) 0)):=by
    rw [oh];exact ab ⟨f1,f2,f3,f8 W E1.gr E1.lo,E1.lo,f5,f6,f4⟩
   clear ql f1 f2 f3 f4 f5 f6 f7 f8 f9 U E1;have U:=NC.out w3 X3.gr;go_wp2;go_loopw [38] (fun v wr=>Hid (EiR W gm f N k s bs cs R L G H g v wr)) (fun v _=>s.length-(intOf v).toNat)
   case atStart=>exact ⟨0,O,rfl,X3⟩
   case round =>
    obtain ⟨i,hi,rfl,x1⟩:=hrel.out;have X1:=ab x1;clear x1 hrel X3 U;by_cases hlt:i<s.length
    ·obtain ⟨kk,kl,e0,_,_,hJ⟩:=HP.out;obtain ⟨b0,off,e1,hb,c0,c1,c2,c3,c4,c5,c6⟩:=hJ i hlt;have e2:po=kk:=by injection e0
     have e4:pc=kl:=by injection e0
     subst e2 e4;subst e1;have J:=aa hD X1.gr;obtain ⟨q,hq⟩:=eX (s[i]);rw [<- hq] at c0 c1 c2 c3 c4 c5 c6;have d0:=J.cell c0 Z;have d1:=J.cell c1 Z;have d2:=J.cell c2 Z;have d3:=J.cell c3 Z;have d4:=J.cell c4 Z;have d5:=J.cell c5 Z;have HQ:=ab hq;have U:=NC.out wr X1.gr;clear c0 c1 c2 c3 c4 c5 c6 hq hJ e0 J;go_upto_region 12 with fail;obtain ⟨gq,ho⟩:=eX wr.heap.size;obtain ⟨w7,hf⟩:=eX (wr.alloc (Obj.cells #[.int .i64 q.kind,.int .i64 q.a,.int .i64 q.b,.int .i64 q.c,.int .i64 q.d,.string q.v] 55));have G7:Hid (wr.grownBy w7 none):=by rw [hf];exact ag (ae _ _) _
     have PQ:Hid (w7.cell? ⟨gq,1,none⟩=some (.int .i64 q.a)/\w7.cell? ⟨gq,2,none⟩=some (.int .i64 q.b)):=by
      rw [hf,ho];exact ⟨zG,zG⟩
     rw [<- hf,<- ho];have X7:=ab (X1.keep0 G7);clear hf ho d0 d1 d2 d3 d4 d5 X1 U;have V:=PQ.out;have U:=NC.out w7 X7.gr;have hG:(0:Int)<=(N:Int)+(i:Int):=O
     have hH:(N:Int)+(i:Int)<(f:Int)+1:=by have:=he.out;omega
     have hS:IntKind.i64.wrap ((N:Int)+(i:Int))=(N:Int)+(i:Int):=IntWalk.i64_in _ ⟨O,O⟩;have hx:N+i<f+1:=by have:=he.out;omega
     have hz:Hid (¬ gn=g):=by show ¬ _;have h1:=kH.out;have h2:=hQ.out;have h3:=X7.out.hg;omega
     have NN:Hid (∀ (z:Int) wx,-9223372036854775808<=z->z<=9223372036854775807->Calls Tryz.prog 28 #[.int .i64 z] wx fun e E=>CM wx (z:Rat) 4 e E):=fun z wx h1 h2=>fB z wx h1 h2
     by_cases ha:q.a=(k:Int)+1<;>by_cases hb:q.b=(k:Int)+1
     ·have hr:(q.a==(k:Int)+1)=true:=by simp [ha]
      have hs:(q.b==(k:Int)+1)=true:=by simp [hb]
      have hu:Hid (iL q (k+1)=0):=by
       show _=_
       unfold iL;rw [if_pos O,if_pos O];rfl
      clear ha hb;go_upto_region 17 with fail;clear hr hs V;refine hd (fun E=>E.cell? ⟨gn,0,none⟩=some (.int .i64 ((N:Int)+1))) (fun hHeld=>?_);refine tk 3 [(0,55,.slice (some ⟨g,0,none⟩) (f+1) (f+1)),(1,56,.pointer (some ⟨gn,0,none⟩)),(2,57,.int .i64 ((N:Int)+1)),(3,58,.int .i64 N),(4,59,.int .i64 i),(5,60,.int .i64 ((N:Int)+(i:Int))),(6,61,.int .i64 0)] ?_;simp only [zU];refine cX 2 7 (fun K j=>?_);simp only [ax,q4,q5,q6,q7];go_simp
      go_at_call 28
      refine (NN 0 _ O O).mono ?_;rintro e m ⟨I,rfl,y,t,P⟩;have GG:=gx (ae w7 none);have n:w7.grownBy m none:=aa GG t;have n1:=NC.out m (aa X7.gr n);have C:=ab y;clear y t P GG;go_wp2_with fail;refine bk j (fun hHeld=>?_);clear j K;try simp only [zU]
      refine tk 1 [(8,63,.pointer (some ⟨g,N+i,none⟩))] ?_;try simp only [zU]
      refine cX 0 9 (fun K j=>?_);simp only [ax,q4,q5,q6,q7];have S:=X7.out.keep0 n;obtain ⟨pz,z0,z1,zf⟩:=S.row.at (N+i) O;have T:=zf (N+i);obtain ⟨t1,Q⟩:=S.row.set (N+i) O (.inl C:RV m I _ 4);have n2:=Q.1.cell n1.1.1 (by simp;exact hz);go_simp
      refine bk j (fun hHeld=>?_);clear j K;refine wpAnyH_done zK ?_ _;have X9:Hid (ur W (m.setCell ⟨g,N+i,none⟩ (.pointer (some ⟨I,0,none⟩))) gm (f+1) k bs cs R L G H g 4 (dw N s (k+1) (i+1))):=(S.put O t1 Q).congr (by rw [<- hu,HQ];exact iC N s (k+1) i hlt);clear t1 Q z0 z1 zf T S hHeld n1 n2 U X7 C n;go_wp2;go_roundw
      case rel=>exact ⟨i+1,O,zN,X9⟩
      case measure=>exact bH
     ·have hr:(q.a==(k:Int)+1)=true:=by simp [ha]
      have hs:(q.b==(k:Int)+1)=false:=by exact zB hb
      have hu:Hid (iL q (k+1)=1):=by
       show _=_
       unfold iL;rw [if_pos O,if_neg O];rfl
      clear ha hb;go_upto_region 17 with fail;clear hr hs V;refine hd (fun E=>E.cell? ⟨gn,0,none⟩=some (.int .i64 ((N:Int)+1))) (fun hHeld=>?_);refine tk 3 [(0,55,.slice (some ⟨g,0,none⟩) (f+1) (f+1)),(1,56,.pointer (some ⟨gn,0,none⟩)),(2,57,.int .i64 ((N:Int)+1)),(3,58,.int .i64 N),(4,59,.int .i64 i),(5,60,.int .i64 ((N:Int)+(i:Int))),(6,61,.int .i64 1)] ?_;simp only [zU];refine cX 2 7 (fun K j=>?_);simp only [ax,q4,q5,q6,q7];go_simp
      go_at_call 28
      refine (NN 1 _ O O).mono ?_;rintro e m ⟨I,rfl,y,t,P⟩;have GG:=gx (ae w7 none);have n:w7.grownBy m none:=aa GG t;have n1:=NC.out m (aa X7.gr n);have C:=ab y;clear y t P GG;go_wp2_with fail;refine bk j (fun hHeld=>?_);clear j K;try simp only [zU]
      refine tk 1 [(8,63,.pointer (some ⟨g,N+i,none⟩))] ?_;try simp only [zU]
      refine cX 0 9 (fun K j=>?_);simp only [ax,q4,q5,q6,q7];have S:=X7.out.keep0 n;obtain ⟨pz,z0,z1,zf⟩:=S.row.at (N+i) O;have T:=zf (N+i);obtain ⟨t1,Q⟩:=S.row.set (N+i) O (.inl C:RV m I _ 4);have n2:=Q.1.cell n1.1.1 (by simp;exact hz);go_simp
      refine bk j (fun hHeld=>?_);clear j K;refine wpAnyH_done zK ?_ _;have X9:Hid (ur W (m.setCell ⟨g,N+i,none⟩ (.pointer (some ⟨I,0,none⟩))) gm (f+1) k bs cs R L G H g 4 (dw N s (k+1) (i+1))):=(S.put O t1 Q).congr (by rw [<- hu,HQ];exact iC N s (k+1) i hlt);clear t1 Q z0 z1 zf T S hHeld n1 n2 U X7 C n;go_wp2;go_roundw
      case rel=>exact ⟨i+1,O,zN,X9⟩
      case measure=>exact bH
     ·have hr:(q.a==(k:Int)+1)=false:=by exact zB ha
      have hs:(q.b==(k:Int)+1)=true:=by simp [hb]
      have hu:Hid (iL q (k+1)=(-1)):=by
       show _=_
       unfold iL;rw [if_neg O,if_pos O];rfl
      clear ha hb;go_upto_region 17 with fail;clear hr hs V;refine hd (fun E=>E.cell? ⟨gn,0,none⟩=some (.int .i64 ((N:Int)+1))) (fun hHeld=>?_);refine tk 3 [(0,55,.slice (some ⟨g,0,none⟩) (f+1) (f+1)),(1,56,.pointer (some ⟨gn,0,none⟩)),(2,57,.int .i64 ((N:Int)+1)),(3,58,.int .i64 N),(4,59,.int .i64 i),(5,60,.int .i64 ((N:Int)+(i:Int))),(6,61,.int .i64 (-1))] ?_;simp only [zU];refine cX 2 7 (fun K j=>?_);simp only [ax,q4,q5,q6,q7];go_simp
      go_at_call 28
      refine (NN (-1) _ O O).mono ?_;rintro e m ⟨I,rfl,y,t,P⟩;have GG:=gx (ae w7 none);have n:w7.grownBy m none:=aa GG t;have n1:=NC.out m (aa X7.gr n);have C:=ab y;clear y t P GG;go_wp2_with fail;refine bk j (fun hHeld=>?_);clear j K;try simp only [zU]
      refine tk 1 [(8,63,.pointer (some ⟨g,N+i,none⟩))] ?_;try simp only [zU]
      refine cX 0 9 (fun K j=>?_);simp only [ax,q4,q5,q6,q7];have S:=X7.out.keep0 n;obtain ⟨pz,z0,z1,zf⟩:=S.row.at (N+i) O;have T:=zf (N+i);obtain ⟨t1,Q⟩:=S.row.set (N+i) O (.inl C:RV m I _ 4);have n2:=Q.1.cell n1.1.1 (by simp;exact hz);go_simp
      refine bk j (fun hHeld=>?_);clear j K;refine wpAnyH_done zK ?_ _;have X9:Hid (ur W (m.setCell ⟨g,N+i,none⟩ (.pointer (some ⟨I,0,none⟩))) gm (f+1) k bs cs R L G H g 4 (dw N s (k+1) (i+1))):=(S.put O t1 Q).congr (by rw [<- hu,HQ];exact iC N s (k+1) i hlt);clear t1 Q z0 z1 zf T S hHeld n1 n2 U X7 C n;go_wp2;go_roundw
      case rel=>exact ⟨i+1,O,zN,X9⟩
      case measure=>exact bH
     ·have hr:(q.a==(k:Int)+1)=false:=by exact zB ha
      have hs:(q.b==(k:Int)+1)=false:=by exact zB hb
      have hu:Hid (iL q (k+1)=0):=by
       show _=_
       unfold iL;rw [if_neg O,if_neg O];rfl
      clear ha hb;go_upto_region 17 with fail;clear hr hs V;refine hd (fun E=>E.cell? ⟨gn,0,none⟩=some (.int .i64 ((N:Int)+1))) (fun hHeld=>?_);refine tk 3 [(0,55,.slice (some ⟨g,0,none⟩) (f+1) (f+1)),(1,56,.pointer (some ⟨gn,0,none⟩)),(2,57,.int .i64 ((N:Int)+1)),(3,58,.int .i64 N),(4,59,.int .i64 i),(5,60,.int .i64 ((N:Int)+(i:Int))),(6,61,.int .i64 0)] ?_;simp only [zU];refine cX 2 7 (fun K j=>?_);simp only [ax,q4,q5,q6,q7];go_simp
      go_at_call 28
      refine (NN 0 _ O O).mono ?_;rintro e m ⟨I,rfl,y,t,P⟩;have GG:=gx (ae w7 none);have n:w7.grownBy m none:=aa GG t;have n1:=NC.out m (aa X7.gr n);have C:=ab y;clear y t P GG;go_wp2_with fail;refine bk j (fun hHeld=>?_);clear j K;try simp only [zU]
      refine tk 1 [(8,63,.pointer (some ⟨g,N+i,none⟩))] ?_;try simp only [zU]
      refine cX 0 9 (fun K j=>?_);simp only [ax,q4,q5,q6,q7];have S:=X7.out.keep0 n;obtain ⟨pz,z0,z1,zf⟩:=S.row.at (N+i) O;have T:=zf (N+i);obtain ⟨t1,Q⟩:=S.row.set (N+i) O (.inl C:RV m I _ 4);have n2:=Q.1.cell n1.1.1 (by simp;exact hz);go_simp
      refine bk j (fun hHeld=>?_);clear j K;refine wpAnyH_done zK ?_ _;have X9:Hid (ur W (m.setCell ⟨g,N+i,none⟩ (.pointer (some ⟨I,0,none⟩))) gm (f+1) k bs cs R L G H g 4 (dw N s (k+1) (i+1))):=(S.put O t1 Q).congr (by rw [<- hu,HQ];exact iC N s (k+1) i hlt);clear t1 Q z0 z1 zf T S hHeld n1 n2 U X7 C n;go_wp2;go_roundw
      case rel=>exact ⟨i+1,O,zN,X9⟩
      case measure=>exact bH
    ·obtain rfl:i=s.length:=O
     have E2:Hid (CK W wr gm (f+1) (k+1) (k+1) (cT bs k g) (cT cs k (f+1)) R L G H):=X1.out.close (by unfold maxLen;omega) (by rw [hF];omega) (fun u _=>by rw [hE];unfold aY;rw [if_pos yl]);have U:=NC.out wr X1.gr;clear X1;go_wp2;go_roundw
     case rel=>exact ⟨k+1,H,G,_,_,O,zN,E2⟩
     case measure=>exact bH
  ·obtain rfl:k=N:=O
   go_wp2;go_loopw [68] (fun v wr=>Hid (EpR W gm f k s.length R L v wr)) (fun v _=>s.length-(intOf v).toNat)
   case atStart=>exact ⟨0,oc,ao,bs,cs,O,rfl,E1⟩
   case round =>
    clear E1 U;obtain ⟨i,oc,ao,bs,cs,hi,rfl,e1⟩:=hrel.out;have E1:=ab e1;clear e1 hrel;have U:=NC.out wr E1.gr;by_cases hlt:i<s.length
    ·obtain ⟨kk,kl,e0,_,_,hJ⟩:=HP.out;obtain ⟨b0,off,e1,hb,c0,c1,c2,c3,c4,c5,c6⟩:=hJ i hlt;have e2:po=kk:=by injection e0
     have e4:pc=kl:=by injection e0
     subst e2 e4;subst e1;have J:=aa hD E1.gr;obtain ⟨q,hq⟩:=eX (s[i]);have F:Hid (0<=q.a/\q.a<=((f+1:Nat):Int)/\0<=q.b/\q.b<=((f+1:Nat):Int)/\0<=q.c/\q.c<=((f+1:Nat):Int)/\0<=q.d/\q.d<=((f+1:Nat):Int)):=by
      have h1:=kw.out q (by rw [hq];exact List.getElem_mem _);have h2:=he.out;show _/\_
      omega
     have kS:=ab (kz q (by rw [hq];exact List.getElem_mem _));have hT:Hid (∀ wx,wx.cell? ⟨2,0,none⟩=some (.int .i64 ml)->Calls Tryz.prog 40 #[.string q.v] wx fun e E=>∃ b,e=.returned (.pointer (some ⟨b,0,none⟩))/\wx.grownBy E none/\wx.heap.size<=b/\RV E b (fI q.v.data.toList) M):=fun wx h=>Ar q.v M ml wx kS.1 kS.2 h
     have ML:Hid (∀ wx,W.grownBy wx none->wx.cell? ⟨2,0,none⟩=some (.int .i64 ml)):=fun wx hg=>(aa hD hg).cell qs Z
     rw [<- hq] at c0 c1 c2 c3 c4 c5 c6;have d0:=J.cell c0 Z;have d1:=J.cell c1 Z;have d2:=J.cell c2 Z;have d3:=J.cell c3 Z;have d4:=J.cell c4 Z;have d5:=J.cell c5 Z;have HQ:=ab hq;clear c0 c1 c2 c3 c4 c5 c6 hq hJ e0 J;go_upto_region 22 with fail;obtain ⟨gq,ho⟩:=eX wr.heap.size;obtain ⟨w7,hf⟩:=eX (wr.alloc (Obj.cells #[.int .i64 q.kind,.int .i64 q.a,.int .i64 q.b,.int .i64 q.c,.int .i64 q.d,.string q.v] 55));have G7:Hid (wr.grownBy w7 none):=by rw [hf];exact ag (ae _ _) _
     have r:Hid (jb w7 gq q):=by
      rw [hf,ho];exact ⟨zG,zG,zG,zG,zG,zG⟩
     have qa:Hid (gq<w7.heap.size):=by show _<_;rw [hf,ho];simp
     rw [<- hf,<- ho];have E7:=ab (E1.keep0 G7);clear hf ho d0 d1 d2 d3 d4 d5 E1 U;have U:=NC.out w7 E7.gr;go_wp2_with fail;refine (uZ gs gm f (k+i) oc L ao bs cs R w7 U.2 O E7.box E7.own E7.rws O E7.nil).mono ?_;rintro e w3 ⟨g,G,H,rfl,ql,f1,f2,f3,f4,f5,f6,f7,f8,f9⟩;have hj:Hid (some gq≠some g):=fun e=>by have:=qa.out;have:=zJ e;omega
     have X:Hid (ur W w3 gm (f+1) (k+i) bs cs R L G H g 4 (fun _=>0)):=⟨f1,f2,f3,f8 W E7.gr E7.lo,E7.lo,f5,f6,f4⟩;have qb:Hid (jb w3 gq q):=by
      have h1:(Value.slice ao (k+i) oc).ownBlock≠some gq:=by
       rcases zP (k+i) with e | e
       ·rw [E7.nil e];intro e2;cases e2
       ·intro e2;obtain ⟨a,l,c,hc⟩:=E7.out.own.first e e2;rw [r.1] at hc;cases hc
      have h2:gq≠gm:=fun e=>by
       have h3:=E7.out.box.cells.1;rw [<- e,r.1] at h3;cases h3
      have h3:=f9 gq qa h2 h1;have h4:∀ o v,w7.cell? ⟨gq,o,none⟩=some v->w3.cell? ⟨gq,o,none⟩=some v:=fun o v hv=>(World.cell?_of_block (a:=⟨gq,o,none⟩) h3).trans hv
      exact ⟨h4 _ _ r.1,h4 _ _ r.2.1,h4 _ _ r.2.2.1,h4 _ _ r.2.2.2.1,h4 _ _ r.2.2.2.2.1,h4 _ _ r.2.2.2.2.2⟩
     clear f1 f2 f3 f4 f5 f6 f7 f8 f9 U E7 r;have r:=qb;clear qb;obtain ⟨A,D⟩:=eX w3;subst D;have GG:A.grownBy A none:=ae _ _;by_cases h6:q.kind=6
     ·have b6:(q.kind==6)=true:=by simp [h6]
      have H6:=ab h6;clear h6;have V:=r.out;go_upto_region 30 with fail;refine hd (fun E=>jb E gq q) (fun hHeld=>?_);refine tk 2 [(0,112,.func (.func 45) #[] #[]),(1,113,.slice (some ⟨g,0,none⟩) (f+1) (f+1)),(2,114,.pointer (some ⟨gq,1,none⟩)),(3,115,.int .i64 q.a)] ?_;try simp only [zU]
      refine cX 1 4 (fun K j=>?_);simp only [ax,q4,q5,q6,q7];go_simp
      go_at_call 28
      refine (fB 1 _ O O).mono ?_;rintro e m ⟨I,rfl,y,t,P⟩;have n:A.grownBy m none:=aa (gx GG) t;have k0:=r.out.k n Z;have C:Hid (RX m I (1:Rat) 4):=RQ.x y;have GG:=n;clear y t P n;go_wp2_with fail;refine bk j (fun hHeld=>?_);clear j K;try simp only [zU]
      refine cX 0 5 (fun K j=>?_);simp only [ax,q4,q5,q6,q7];go_simp
      go_at_call 45
      refine (iM g (f+1) (f+1) _ _ 4 q.a I 1 _ (X.row.keep0 (gx GG)) (C.keep0 (gx (ae _ _))) (F.1) (F.2.1) zL (by unfold maxLen;omega) O O).mono ?_;rintro e m ⟨rfl,Y,B⟩;have XP:=(X.keep0 (gx GG)).put O Y B;have k1:=(r.k (gx GG) Z).k B.1 hj;clear Y B;go_wp2_with fail;refine bk j (fun hHeld=>?_);clear j K;try simp only [zU]
      refine wpAnyH_done zK ?_ _;have X:=ab XP;have r:=ab k1;clear XP k0 hHeld C GG V;obtain ⟨A,D⟩:=eX m;subst D;have GG:A.grownBy A none:=ae _ _;have V:=r.out;go_upto_region 31 with fail;refine hd (fun E=>jb E gq q) (fun hHeld=>?_);refine tk 2 [(0,118,.func (.func 45) #[] #[]),(1,119,.slice (some ⟨g,0,none⟩) (f+1) (f+1)),(2,120,.pointer (some ⟨gq,2,none⟩)),(3,121,.int .i64 q.b)] ?_;try simp only [zU]
      refine cX 1 4 (fun K j=>?_);simp only [ax,q4,q5,q6,q7];go_simp
      go_at_call 28
      refine (fB (-1) _ O O).mono ?_;rintro e m ⟨I,rfl,y,t,P⟩;have n:A.grownBy m none:=aa (gx GG) t;have k0:=r.out.k n Z;have C:Hid (RX m I (-1:Rat) 4):=RQ.x y;have GG:=n;clear y t P n;go_wp2_with fail;refine bk j (fun hHeld=>?_);clear j K;try simp only [zU]
      refine cX 0 5 (fun K j=>?_);simp only [ax,q4,q5,q6,q7];go_simp
      go_at_call 45
      refine (iM g (f+1) (f+1) _ _ 4 q.b I (-1) _ (X.row.keep0 (gx GG)) (C.keep0 (gx (ae _ _))) (F.2.2.1) (F.2.2.2.1) zL (by unfold maxLen;omega) O O).mono ?_;rintro e m ⟨rfl,Y,B⟩;have XP:=(X.keep0 (gx GG)).put O Y B;have k1:=(r.k (gx GG) Z).k B.1 hj;clear Y B;go_wp2_with fail;refine bk j (fun hHeld=>?_);clear j K;try simp only [zU]
      refine wpAnyH_done zK ?_ _;have X:=ab XP;have r:=ab k1;clear XP k0 hHeld C GG V;obtain ⟨A,D⟩:=eX m;subst D;have GG:A.grownBy A none:=ae _ _;have V:=r.out;go_upto_region 32 with fail;refine hd (fun E=>jb E gq q) (fun hHeld=>?_);refine tk 3 [(0,124,.func (.func 45) #[] #[]),(1,125,.slice (some ⟨g,0,none⟩) (f+1) (f+1)),(2,126,.pointer (some ⟨gq,3,none⟩)),(3,127,.int .i64 q.c),(4,128,.pointer (some ⟨gq,5,none⟩)),(5,129,.string q.v)] ?_;try simp only [zU]
      refine cX 2 6 (fun K j=>?_);simp only [ax,q4,q5,q6,q7];go_simp
      go_at_call 40
      refine (hT _ (ML _ (aa X.gr (gx GG)))).mono ?_;rintro e m ⟨I,rfl,t,P,y⟩;have n:A.grownBy m none:=aa (gx GG) t;have k0:=r.out.k n Z;have C:Hid (RX m I (fI q.v.data.toList) M):=y.x O;have GG:=n;clear y t P n;go_wp2_with fail;refine bk j (fun hHeld=>?_);clear j K;try simp only [zU]
      refine cX 1 7 (fun K j=>?_);simp only [ax,q4,q5,q6,q7];go_simp
      go_at_call 47
      refine (mP I _ M _ (C.keep0 (gx (ae _ _))) O).mono ?_;rintro e m ⟨bb,rfl,y,t,P⟩;have n:A.grownBy m none:=aa (gx GG) t;have k0:=r.out.k n Z;have C:Hid (RX m bb (-(fI q.v.data.toList)) (M+2)):=RQ.x y;have GG:=n;clear y t P n;go_wp2_with fail;refine bk j (fun hHeld=>?_);clear j K;try simp only [zU]
      refine cX 0 8 (fun K j=>?_);simp only [ax,q4,q5,q6,q7];go_simp
      go_at_call 45
      refine (iM g (f+1) (f+1) _ _ (M+2) q.c bb (-(fI q.v.data.toList)) _ (X.row.keep0 (gx GG)) (C.keep0 (gx (ae _ _))) (F.2.2.2.2.1) (F.2.2.2.2.2.1) zL (by unfold maxLen;omega) O O).mono ?_;rintro e m ⟨rfl,Y,B⟩;have XP:=(X.keep0 (gx GG)).put O Y B;have k1:=(r.k (gx GG) Z).k B.1 hj;clear Y B;go_wp2_with fail;refine bk j (fun hHeld=>?_);clear j K;try simp only [zU]
      refine wpAnyH_done zK ?_ _;have X:=ab XP;have r:=ab k1;clear XP k0 hHeld C GG V;obtain ⟨A,D⟩:=eX m;subst D;have GG:A.grownBy A none:=ae _ _;have V:=r.out;go_upto_region 33 with fail;refine hd (fun E=>jb E gq q) (fun hHeld=>?_);refine tk 2 [(0,133,.func (.func 45) #[] #[]),(1,134,.slice (some ⟨g,0,none⟩) (f+1) (f+1)),(2,135,.pointer (some ⟨gq,4,none⟩)),(3,136,.int .i64 q.d),(4,137,.pointer (some ⟨gq,5,none⟩)),(5,138,.string q.v)] ?_;try simp only [zU]
      refine cX 1 6 (fun K j=>?_);simp only [ax,q4,q5,q6,q7];go_simp
      go_at_call 40
      refine (hT _ (ML _ (aa X.gr (gx GG)))).mono ?_;rintro e m ⟨I,rfl,t,P,y⟩;have n:A.grownBy m none:=aa (gx GG) t;have k0:=r.out.k n Z;have C:Hid (RX m I (fI q.v.data.toList) M):=y.x O;have GG:=n;clear y t P n;go_wp2_with fail;refine bk j (fun hHeld=>?_);clear j K;try simp only [zU]
      refine cX 0 7 (fun K j=>?_);simp only [ax,q4,q5,q6,q7];go_simp
      go_at_call 45
      refine (iM g (f+1) (f+1) _ _ M q.d I (fI q.v.data.toList) _ (X.row.keep0 (gx GG)) (C.keep0 (gx (ae _ _))) (F.2.2.2.2.2.2.1) (F.2.2.2.2.2.2.2) zL (by unfold maxLen;omega) O O).mono ?_;rintro e m ⟨rfl,Y,B⟩;have XP:=(X.keep0 (gx GG)).put O Y B;have k1:=(r.k (gx GG) Z).k B.1 hj;clear Y B;go_wp2_with fail;refine bk j (fun hHeld=>?_);clear j K;try simp only [zU]
      refine wpAnyH_done zK ?_ _;have X:=ab XP;have r:=ab k1;clear XP k0 hHeld C GG V;obtain ⟨A,D⟩:=eX m;subst D;have GG:A.grownBy A none:=ae _ _;have E2:Hid (CK W A gm (f+1) (k+i+1) (k+i+1) (cT bs (k+i) g) (cT cs (k+i) (f+1)) R L G H):=X.out.close (by unfold maxLen;omega) (by rw [hF];omega) (fun u _=>by rw [hE,Au hlt (by rw [<- HQ];exact H6),<- HQ]);clear X r GG;go_wp2;go_roundw
      case rel=>exact ⟨i+1,H,G,_,_,O,zN,E2⟩
      case measure=>exact bH
     ·have b6:(q.kind==6)=false:=zB h6;by_cases h7:q.kind=7
      ·have b7:(q.kind==7)=true:=by simp [h7]
       have H7:=ab h7;clear h7 h6;have hG:(0:Int)<=(k:Int)+(i:Int):=O
       have hH:(k:Int)+(i:Int)<(f:Int)+1:=by have:=he.out;omega
       have hS:IntKind.i64.wrap ((k:Int)+(i:Int))=(k:Int)+(i:Int):=IntWalk.i64_in _ ⟨O,O⟩;have hx:k+i<f+1:=by have:=he.out;omega
       have hz:Hid (¬ gn=g):=by show ¬ _;have h1:=kH.out;have h2:=hQ.out;have h3:=X.out.hg;omega
       have U:=NC.out A X.gr;have V:=r.out;go_upto_region 35 with fail;refine hd (fun E=>E.cell? ⟨gn,0,none⟩=some (.int .i64 ((k:Int)+1))) (fun hHeld=>?_);refine tk 3 [(0,143,.slice (some ⟨g,0,none⟩) (f+1) (f+1)),(1,144,.pointer (some ⟨gn,0,none⟩)),(2,145,.int .i64 ((k:Int)+1)),(3,146,.int .i64 k),(4,147,.int .i64 i),(5,148,.int .i64 ((k:Int)+(i:Int)))] ?_;try simp only [zU]
       refine cX 2 6 (fun K j=>?_);simp only [ax,q4,q5,q6,q7];go_simp
       go_at_call 28
       refine (fB 1 _ O O).mono ?_;rintro e m ⟨I,rfl,y,t,P⟩;have n:A.grownBy m none:=aa (gx GG) t;have n1:=NC.out m (aa X.gr n);have C:Hid (RQ m I (1:Rat) 4):=y;clear y t P;go_wp2_with fail;refine bk j (fun hHeld=>?_);clear j K;try simp only [zU]
       refine tk 1 [(7,150,.pointer (some ⟨g,k+i,none⟩))] ?_;try simp only [zU]
       refine cX 0 8 (fun K j=>?_);simp only [ax,q4,q5,q6,q7];have S:=X.out.keep0 n;obtain ⟨pz,z0,z1,zf⟩:=S.row.at (k+i) O;have T:=zf (k+i);obtain ⟨t1,Q⟩:=S.row.set (k+i) O (.inl C:RV m I _ 4);have n2:=Q.1.cell n1.1.1 (by simp;exact hz);go_simp
       refine bk j (fun hHeld=>?_);clear j K;refine wpAnyH_done zK ?_ _;have X9:=ab (S.put O t1 Q);have P9:=ab ((r.k n Z).k Q.1 hj);obtain ⟨wb,qo⟩:=eX (m.setCell ⟨g,k+i,none⟩ (.pointer (some ⟨I,0,none⟩)));rw [<- qo] at X9 P9 ⊢;clear qo t1 Q z0 z1 zf T S hHeld n1 n2 U V X r C n GG hG hH hS hx;have X:=X9;have r:=P9;clear X9 P9;obtain ⟨A,D⟩:=eX wb;subst D;have GG:A.grownBy A none:=ae _ _;have V:=r.out;go_upto_region 36 with fail;refine hd (fun E=>jb E gq q) (fun hHeld=>?_);refine tk 3 [(0,151,.func (.func 45) #[] #[]),(1,152,.slice (some ⟨g,0,none⟩) (f+1) (f+1)),(2,153,.pointer (some ⟨gq,3,none⟩)),(3,154,.int .i64 q.c),(4,155,.pointer (some ⟨gq,5,none⟩)),(5,156,.string q.v)] ?_;try simp only [zU]
       refine cX 2 6 (fun K j=>?_);simp only [ax,q4,q5,q6,q7];go_simp
       go_at_call 40
       refine (hT _ (ML _ (aa X.gr (gx GG)))).mono ?_;rintro e m ⟨I,rfl,t,P,y⟩;have n:A.grownBy m none:=aa (gx GG) t;have k0:=r.out.k n Z;have C:Hid (RX m I (fI q.v.data.toList) M):=y.x O;have GG:=n;clear y t P n;go_wp2_with fail;refine bk j (fun hHeld=>?_);clear j K;try simp only [zU]
       refine cX 1 7 (fun K j=>?_);simp only [ax,q4,q5,q6,q7];go_simp
       go_at_call 47
       refine (mP I _ M _ (C.keep0 (gx (ae _ _))) O).mono ?_;rintro e m ⟨bb,rfl,y,t,P⟩;have n:A.grownBy m none:=aa (gx GG) t;have k0:=r.out.k n Z;have C:Hid (RX m bb (-(fI q.v.data.toList)) (M+2)):=RQ.x y;have GG:=n;clear y t P n;go_wp2_with fail;refine bk j (fun hHeld=>?_);clear j K;try simp only [zU]
       refine cX 0 8 (fun K j=>?_);simp only [ax,q4,q5,q6,q7];go_simp
       go_at_call 45
       refine (iM g (f+1) (f+1) _ _ (M+2) q.c bb (-(fI q.v.data.toList)) _ (X.row.keep0 (gx GG)) (C.keep0 (gx (ae _ _))) (F.2.2.2.2.1) (F.2.2.2.2.2.1) zL (by unfold maxLen;omega) O O).mono ?_;rintro e m ⟨rfl,Y,B⟩;have XP:=(X.keep0 (gx GG)).put O Y B;have k1:=(r.k (gx GG) Z).k B.1 hj;clear Y B;go_wp2_with fail;refine bk j (fun hHeld=>?_);clear j K;try simp only [zU]
       refine wpAnyH_done zK ?_ _;have X:=ab XP;have r:=ab k1;clear XP k0 hHeld C GG V;obtain ⟨A,D⟩:=eX m;subst D;have GG:A.grownBy A none:=ae _ _;have V:=r.out;go_upto_region 37 with fail;refine hd (fun E=>jb E gq q) (fun hHeld=>?_);refine tk 2 [(0,160,.func (.func 45) #[] #[]),(1,161,.slice (some ⟨g,0,none⟩) (f+1) (f+1)),(2,162,.pointer (some ⟨gq,4,none⟩)),(3,163,.int .i64 q.d),(4,164,.pointer (some ⟨gq,5,none⟩)),(5,165,.string q.v)] ?_;try simp only [zU]
       refine cX 1 6 (fun K j=>?_);simp only [ax,q4,q5,q6,q7];go_simp
       go_at_call 40
       refine (hT _ (ML _ (aa X.gr (gx GG)))).mono ?_;rintro e m ⟨I,rfl,t,P,y⟩;have n:A.grownBy m none:=aa (gx GG) t;have k0:=r.out.k n Z;have C:Hid (RX m I (fI q.v.data.toList) M):=y.x O;have GG:=n;clear y t P n;go_wp2_with fail;refine bk j (fun hHeld=>?_);clear j K;try simp only [zU]
       refine cX 0 7 (fun K j=>?_);simp only [ax,q4,q5,q6,q7];go_simp
       go_at_call 45
       refine (iM g (f+1) (f+1) _ _ M q.d I (fI q.v.data.toList) _ (X.row.keep0 (gx GG)) (C.keep0 (gx (ae _ _))) (F.2.2.2.2.2.2.1) (F.2.2.2.2.2.2.2) zL (by unfold maxLen;omega) O O).mono ?_;rintro e m ⟨rfl,Y,B⟩;have XP:=(X.keep0 (gx GG)).put O Y B;have k1:=(r.k (gx GG) Z).k B.1 hj;clear Y B;go_wp2_with fail;refine bk j (fun hHeld=>?_);clear j K;try simp only [zU]
       refine wpAnyH_done zK ?_ _;have X:=ab XP;have r:=ab k1;clear XP k0 hHeld C GG V;obtain ⟨A,D⟩:=eX m;subst D;have GG:A.grownBy A none:=ae _ _;have E2:Hid (CK W A gm (f+1) (k+i+1) (k+i+1) (cT bs (k+i) g) (cT cs (k+i) (f+1)) R L G H):=X.out.close (by unfold maxLen;omega) (by rw [hF];omega) (fun u _=>by rw [hE,Av hlt (by rw [<- HQ];exact H7),<- HQ]);clear X r GG;go_wp2;go_roundw
       case rel=>exact ⟨i+1,H,G,_,_,O,zN,E2⟩
       case measure=>exact bH
      ·have b7:(q.kind==7)=false:=zB h7;have ka:=yc.out i hlt A (aa hD X.gr) (by rw [<- HQ];exact h6) (by rw [<- HQ];exact h7);rw [<- HQ,Array.append_assoc] at ka;have TI:=ab ka;have H6:=ab h6;have H7:=ab h7;clear ka h6 h7;have V:=r.out;go_upto_region 25 with (go_at_fn tg;refine TI.mono ?_;rintro e m ⟨pk,pj,pp,rfl,t,y,P,y4⟩)
       obtain ⟨gt,ko⟩:=eX m.heap.size;obtain ⟨wd,hY⟩:=eX (m.alloc (Obj.cells #[.pointer (some ⟨pk,0,none⟩),.pointer (some ⟨pj,0,none⟩),.pointer (some ⟨pp,0,none⟩)] 68));have hI:m.grownBy wd none:=by rw [hY];exact ag (ae _ _) _
       have GD:A.grownBy wd none:=aa t hI;have TC:Hid (bL wd gt (.pointer (some ⟨pk,0,none⟩)) (.pointer (some ⟨pj,0,none⟩)) (.pointer (some ⟨pp,0,none⟩))):=by rw [hY,ko];exact ⟨zG,zG,zG⟩
       have kb:Hid (some gt≠some g):=fun e=>by have h1:=X.out.row.lt;have h2:=t.size;have:=zJ e;omega
       rw [<- hY,<- ko];have TK:=ab (y.keep0 hI);have TJ:=ab (P.keep0 hI);have TO:=ab (y4.keep0 hI);have XD:=ab (X.keep0 GD);have PD:=ab (r.k GD Z);clear hY ko y t P y4 hI GD V X r GG TI;have V:=PD.out;have hA:=TC.out;go_wp2_with fail;refine (iM g (f+1) (f+1) _ _ M q.a pk (Kf i) wd XD.row (TK.x O) F.1 F.2.1 zL (by unfold maxLen;omega) O O).mono ?_;rintro e wb ⟨rfl,Y,B⟩;have hl:=XD.out.row.noB O;have X:=ab (XD.put O Y B);have r:=ab (PD.k B.1 hj);have hm:=ab (TC.k B.1 kb);have qc:=ab (TK.keepW B.1 B.2 (TK.apart hl));have kc:=ab (TJ.keepW B.1 B.2 (TJ.apart hl));have hw:=ab (TO.keepW B.1 B.2 (TO.apart hl));clear Y B hl V hA XD PD TC TK TJ TO;obtain ⟨A,D⟩:=eX wb;subst D;have GG:A.grownBy A none:=ae _ _;have V:=r.out;have hA:=hm.out;go_upto_region 26 with fail;refine hd (fun E=>jb E gq q/\E.cell? ⟨gt,0,none⟩=some (.pointer (some ⟨pk,0,none⟩))) (fun hHeld=>?_);refine tk 2 [(0,88,.func (.func 45) #[] #[]),(1,89,.slice (some ⟨g,0,none⟩) (f+1) (f+1)),(2,90,.pointer (some ⟨gq,2,none⟩)),(3,91,.int .i64 q.b),(4,92,.pointer (some ⟨gt,0,none⟩)),(5,93,.pointer (some ⟨pk,0,none⟩))] ?_;try simp only [zU]
       refine cX 1 6 (fun K j=>?_);simp only [ax,q4,q5,q6,q7];go_simp
       go_at_call 47
       refine (mP pk _ M _ ((qc.x O).keep0 (gx GG)) O).mono ?_;rintro e m ⟨bb,rfl,y,t,P⟩;have n:A.grownBy m none:=aa (gx GG) t;have k0:=r.out.k n Z;have k1:=hm.out.k n Z;have C:=ab (RQ.x y);have GG:=n;clear y t P n;go_wp2_with fail;refine bk j (fun hHeld=>?_);clear j K;try simp only [zU]
       refine cX 0 7 (fun K j=>?_);simp only [ax,q4,q5,q6,q7];go_simp
       go_at_call 45
       refine (iM g (f+1) (f+1) _ _ (M+2) q.b bb (-(Kf i)) _ (X.row.keep0 (gx GG)) (C.keep0 (gx (ae _ _))) F.2.2.1 F.2.2.2.1 zL (by unfold maxLen;omega) O O).mono ?_;rintro e wb ⟨rfl,Y,B⟩;have S:=X.out.keep0 GG;have hl:=S.row.noB O;have XP:=S.put O Y B;have k2:=(r.k GG Z).k B.1 hj;have k3:=(hm.k GG Z).k B.1 kb;have k4:=(kc.keep0 GG).keepW B.1 B.2 ((kc.keep0 GG).apart hl);have k5:=(hw.keep0 GG).keepW B.1 B.2 ((hw.keep0 GG).apart hl);clear Y B hl S;go_wp2_with fail;refine bk j (fun hHeld=>?_);clear j K;try simp only [zU]
       refine wpAnyH_done zK ?_ _;have X:=ab XP;have r:=ab k2;have TC:=ab k3;have TJ:=ab k4;have TO:=ab k5;clear XP k0 k1 k2 k3 k4 k5 hHeld C GG V hA hm qc kc hw;obtain ⟨A,D⟩:=eX wb;subst D;have hG:(0:Int)<=(k:Int)+(i:Int):=O
       have hH:(k:Int)+(i:Int)<(f:Int)+1:=by have:=he.out;omega
       have hS:IntKind.i64.wrap ((k:Int)+(i:Int))=(k:Int)+(i:Int):=IntWalk.i64_in _ ⟨O,O⟩;have hx:k+i<f+1:=by have:=he.out;omega
       have U:=NC.out A X.gr;have hA:=TC.out;obtain ⟨pz,z0,z1,zf⟩:=X.out.row.at (k+i) O;have T:=zf (k+i);go_upto_region 28 with fail;obtain ⟨t1,Q⟩:=X.out.row.set (k+i) O (TJ.mono O);have XB:=ab (X.put O t1 Q);have hw:=ab (TO.keepW Q.1 Q.2 (TO.apart (X.row.noB O)));have hm:=ab (TC.k Q.1 kb);obtain ⟨we,qq⟩:=eX (A.setCell ⟨g,k+i,none⟩ (.pointer (some ⟨pj,0,none⟩)));rw [<- qq] at XB hw hm ⊢;clear qq t1 Q z0 z1 zf T U hA X r TC TJ TO hG hH hS hx;have U:=NC.out we XB.gr;have hA:=hm.out;obtain ⟨pz,z0,z1,zf⟩:=XB.out.row.at f O;have T:=zf f;have hG:(0:Int)<=(f:Int):=O
       have hH:(f:Int)<(f:Int)+1:=O
       obtain ⟨t1,Q⟩:=XB.out.row.set f O (hw.mono O);have XC:=ab (XB.put O t1 Q);have E2:Hid (CK W (we.setCell ⟨g,f,none⟩ (.pointer (some ⟨pp,0,none⟩))) gm (f+1) (k+i+1) (k+i+1) (cT bs (k+i) g) (cT cs (k+i) (f+1)) R L G H):=XC.out.close (by unfold maxLen;omega) (by rw [hF];omega) (fun u _=>by rw [hE,oW hlt (by rw [<- HQ];exact H6) (by rw [<- HQ];exact H7),<- HQ,<- he]);clear t1 Q XC XB hw hm z1 zf;go_wp2;go_roundw
       case rel=>exact ⟨i+1,H,G,_,_,O,zN,E2⟩
       case measure=>exact bH
    ·obtain rfl:i=s.length:=O
     have bx:=E1.out.box.cells.1;have n1:=U.2;go_upto_region 39 with fail;go_region
     go_wp2;go_ret2
     have E3:=E1.out;rw [<- he] at E3;rw [<- he,<- hE,<- hF];exact ⟨_,bs,cs,rfl,aa hD (aa E3.gr zE),(E3.own.keep0 zE).lower kN,(E3.rws.keep0 zE).lower kN⟩
def dh.tight {b m n L L':Nat} {bs cs:Nat->Nat} {R:Nat->Nat->Rat} (h:dh w b m n bs cs R L) (d:∀ i,i<m->∀ k,k<n->bh L' (R i k)):dh w b m n bs cs R L':=by
 refine ⟨h.top,h.cap,fun i hi=>?_,h.inj,h.off⟩;obtain ⟨a,e,hb,hc⟩:=h.row i hi;refine ⟨a,e,hb,fun k c=>?_⟩;obtain ⟨p,c0,c1⟩:=hc k c;exact ⟨p,c0,c1.tightW (d i hi k c)⟩
def yH (a:Option Addr) (b:Nat) (w:World):Calls Tryz.prog 27 #[.slice a 0 b,.int .i64 0] w fun e d=>e=.returned (.tuple #[.int .i64 0,.int .i64 0,.slice none 0 0])/\w.grownBy d none:=by
 go_enter Tryz.func27,Tryz.ntmps27
 go_wp2;go_loopw [4,5,7,8] (fun v4 v5 v7 v8 wr=>Hid (v4=.int .i64 0/\v5=.int .i64 0/\v7=.int .i64 0/\v8=.int .i64 0/\w.grownBy wr none)) (fun _ _ _ _ _=>0)
 case atStart=>exact ⟨rfl,rfl,rfl,rfl,ae _ _⟩
 case round =>
  obtain ⟨rfl,rfl,rfl,rfl,g⟩:=hrel.out;have G:=ab g;clear g hrel;go_wp2;go_loopw [6,13] (fun v6 v13 wr=>Hid (v6=.slice none 0 0/\v13=.int .i64 0/\w.grownBy wr none)) (fun _ _ _=>0)
  case atStart=>exact ⟨rfl,rfl,G⟩
  case round =>
   obtain ⟨rfl,rfl,g⟩:=hrel.out;have c:=ab g;clear g hrel;go_wp2;go_ret3
   exact ⟨rfl,c⟩
def vX {s base:Nat} (hb:base<=w.heap.size):pI (w.alloc (Obj.cells #[.pointer (some ⟨s,0,none⟩)] 65)) base (.slice (some ⟨w.heap.size,0,none⟩) 1 1) [s]:=by
 have hh:=heap_alloc_new w (Obj.cells #[.pointer (some ⟨s,0,none⟩)] 65);refine ⟨⟨rfl,.inr ⟨w.heap.size,1,#[.pointer (some ⟨s,0,none⟩)],rfl,hb,hh,zL,by unfold maxLen;decide,rfl,rfl⟩⟩,fun k b=>?_⟩;simp only [Value.ownBlock,zI] at b;subst b;refine xB.cells hh ?_;intro u a x;simp at a;subst a;intro e;cases e
def gV (w:World) (v:Value) (n:Nat) (R:Nat->Rat) (L:Nat):Prop :=
 ∃ ao cap,v=.slice ao n cap/\n<=cap/\cap<=maxLen/\∀ j,j<n->∃ g off p,ao=some ⟨g,off,none⟩/\w.cell? ⟨g,off+j,none⟩=some (.pointer (some ⟨p,0,none⟩))/\RV w p (R j) L
def RSolE (w:World) (N P:Nat) (m0:Nat->Nat->Rat) (L:Nat) (e:Ending) (w':World):Prop :=
 ∃ (vv iv:Value) (how:Int),e=.returned (.tuple #[vv,iv,.int .i64 how])/\w.grownBy w' none
  /\ ((how=1/\vv=.slice none 0 0/\iv=.slice none 0 0/\∀ y,¬ Rk.uy (N+P) m0 y)
   ∨ (how=2/\vv=.slice none 0 0/\iv=.slice none 0 0/\∃ y z q,Rk.uy (N+P) m0 y/\Rk.uy (N+P) m0 z/\q<N+P/\y q≠z q)
   ∨ (how=0/\∃ y:Nat->Rat,Rk.uy (N+P) m0 y/\(∀ z,Rk.uy (N+P) m0 z->∀ i,i<N+P->z i=y i)/\gV w' vv (N+1) (fun j=>if j=0 then 0 else y (j-1)) L/\gV w' iv P (fun j=>y (N+j)) L))
def tU (N tg:Nat) (tf tc:Array Value) (po:Option Addr) (pc:Nat) (f:List aA) (Kf Jf Of:Nat->Rat) (M E:Nat) (A:Nat->Nat->Rat) (s:Nat->Rat) (b:Nat->Nat) (ml:Int) (w:World)
  (hEQ:∀ wx,w.grownBy wx none->Calls Tryz.prog 26 #[.agg #[.int .i64 ((N:Int)+1),.slice po f.length pc],.func (.func tg) tf tc] wx fun e H =>
   ∃ (v:Value) (bs cs:Nat->Nat),e=.returned (.tuple #[v,.int .i64 ((N+f.length:Nat):Int)])/\wx.grownBy H none/\cV (eC (N+f.length+1)) 90 H wx.heap.size v (bW bs cs (N+f.length))
    /\ gR H wx.heap.size (N+f.length+1) (N+f.length) bs cs (aY N f Kf Jf Of) (5*M+40))
  (hN:N<=100) (hP:f.length<=100) (hs:∀ q,s q≠0) (hb:∀ r,1<=b r) (hA:∀ r j,gY (b r) (A r j)) (hw:∀ q,gY (b q) (s q)) (hE:dS (N+f.length) b<4294967296^E) (hE1:1<=E) (hE2:E<=100000000000)
  (hst:∀ i,i<N+f.length->∀ k,s i*aY N f Kf Jf Of i k=A i k) :
  Calls Tryz.prog 11 #[.agg #[.int .i64 ((N:Int)+1),.slice po f.length pc],.func (.func tg) tf tc] w fun e H=>RSolE w N f.length (aY N f Kf Jf Of) (3*E+3*E+2) e H:=by
 have hu:=ab hEQ;obtain ⟨U,ho⟩:=eX (aY N f Kf Jf Of);obtain ⟨n,hn⟩:=eX (N+f.length);rw [<- ho,<- hn] at hu hst;rw [<- hn] at hE;rw [<- ho];have hG:Hid (∀ i,i<n->∀ k,k<n+1->bh (3*E) (U i k)):=fun i hi k hk=>Rk.gj_fit (Rk.gj_start (fun _=>0) hst) hs hb hA hw hE i k hi O
 have RK:Hid (∀ (br cm:Nat) (bs0 cs0:Nat->Nat) (W0 wx:World),0<n->W0.grownBy wx none->W0.heap.size<=br->(∀ i,i<n->W0.heap.size<=bs0 i)->dh wx br n (n+1) bs0 cs0 U (3*E)->Calls Tryz.prog 27 #[.slice (some ⟨br,0,none⟩) n cm,.int .i64 n] wx fun e H=>RkE W0 n U (3*E) e H) :=
  fun br cm bs0 cs0 W0 wx h0 h1 h2 h3 h4=>Cd n br cm E A s b U bs0 cs0 W0 wx h0 O hs hb hA hw hE hE1 hE2 hst h1 h2 h3 h4
 have P:=ab hn;have ka:n<=200:=O
 clear hEQ hs hb hA hw hE hst ho hn;obtain ⟨W,hW⟩:=eX (w.alloc (Obj.cells #[.int .i64 ((N:Int)+1),.slice po f.length pc] 24));obtain ⟨I,hp⟩:=eX w.heap.size;have GW:Hid (w.grownBy W none):=by rw [hW];exact ag (ae _ _) _
 have NC:Hid (∀ wx,W.grownBy wx none->dP wx I (.int .i64 ((N:Int)+1)) (.slice po f.length pc)):=by
  intro wx hg;rw [hW] at hg;rw [hp];exact ⟨hg.cell zG Z,hg.cell zG Z⟩
 go_enter Tryz.func11,Tryz.ntmps11
 go_wp2_with fail;rw [<- hW,<- hp];clear hW hp;refine (hu W GW).mono ?_;rintro e w1 ⟨v,bs,cs,rfl,g1,o1,r1⟩;have G1:=ab g1;have O1:=ab o1;have R1:=ab r1;clear g1 o1 r1;obtain ⟨ao,oc,rfl⟩:=O1.out.1.shape;rw [bB];by_cases h0:0<n
 ·obtain ⟨br,cap,e,b1,b2,b3,pm⟩:=O1.out.pmat h0 O R1;simp only [Value.slice.injEq] at e;obtain ⟨rfl,_,rfl⟩:=e;have PM:=ab (pm.tight hG);have BR:=ab b1;have hH:=ab R1.low;clear pm b1 b2 b3 O1 R1;go_wp2_with fail;refine (RK br oc bs cs W w1 h0 G1 BR hH PM).mono ?_;rintro e J ⟨a,b2,xv,rfl,g2,hq⟩;have Q:=ab g2;clear g2;rcases hq with ⟨h1,h2⟩ | ⟨h1,h2,h3⟩ | ⟨h1,h2,y,xs,h3,h4,h5,h6,h7⟩
  ·have H2:Hid (∀ y,¬ Rk.uy (N+f.length) U y):=by rw [<- P];exact ab h2
   clear h2;go_wp2;go_ret3
   exact ⟨_,_,1,rfl,aa GW Q,.inl ⟨rfl,rfl,rfl,H2⟩⟩
  ·have H3:Hid (∃ y z q,Rk.uy (N+f.length) U y/\Rk.uy (N+f.length) U z/\q<N+f.length/\y q≠z q):=by rw [<- P];exact ab h3
   subst h1;have kb:¬ a<a:=O
   clear h3;go_wp2;go_ret3
   exact ⟨_,_,2,rfl,aa GW Q,.inr (.inl ⟨rfl,rfl,rfl,H3⟩)⟩
  ·have e1:=h1.symm;subst e1;have e2:=h2.symm;subst e2;obtain ⟨xo,G,rfl⟩:=h6.1.shape;obtain ⟨kS,qa,ex,hR,hF,hr⟩:=h6.1.row;simp only [Value.slice.injEq] at ex;obtain ⟨rfl,_,rfl⟩:=ex;rw [h5] at hR ⊢;obtain ⟨p,ob,rfl,hS,hT⟩:=hr 0 (by rw [h5];exact h0);have X:Hid (∀ j (h:j<xs.length),J.cell? ⟨p,ob+j,none⟩=some (pfV xs[j])):=by
    intro j h;obtain ⟨g,off,e,_,c⟩:=hr j h;simp only [zI,Addr.mk.injEq,and_true] at e;obtain ⟨rfl,rfl⟩:=e;exact c
   have H3:=ab h3;have H4:=ab h4;have H7:=ab h7;have t:=ab h5;have hI:=ab hF;have kc:N<=n:=by have:=P.out;omega
   clear hS hT;clear h3 h4 h5 h6 h7 hF hr h1 h2;have n0:=NC.out J (aa Q (ae _ _));have kf:(0:Int)<=(N:Int):=O
   have kk:(N:Int)<=(G:Int):=O
   have kl:(N:Int)<=(n:Int):=O
   have ko:(n:Int)<=(G:Int):=O
   have kw:IntKind.i64.wrap (N:Int)=(N:Int):=IntWalk.i64_in _ ⟨O,O⟩;have kz:¬ n<n:=O
   obtain ⟨ov,hov⟩:=eX (if G=N then ob else ob+N);have hv:=ab hov;clear hov;go_upto_region 7 with fail;refine hd (fun H=>H.cell? ⟨I,0,none⟩=some (.int .i64 ((N:Int)+1))) (fun hHeld=>?_);refine tk 7 [(2,35,.slice (some ⟨p,ob,none⟩) n G),(3,36,.pointer (some ⟨I,0,none⟩)),(4,37,.int .i64 ((N:Int)+1)),(5,38,.int .i64 N),(6,39,.slice (some ⟨p,ob,none⟩) N G),(8,41,.slice (some ⟨p,ob,none⟩) n G),(9,42,.pointer (some ⟨I,0,none⟩)),(10,43,.int .i64 ((N:Int)+1)),(11,44,.int .i64 N)] ?_;simp only [zU];refine tk 6 [(12,45,.slice (some ⟨p,ov,none⟩) (n-N) (G-N))] ?_ (hy:=⟨⟨zK,fun w qc=>by (simp only [ax,List.getElem?_toArray,List.getElem?_cons_zero,List.getElem?_cons_succ,Option.getD_some];go_simp;rw [hv];split<;>rfl)⟩,trivial⟩);try simp only [zU]
   refine cX 5 0 (fun K o=>?_);simp only [ax,q4,q5,q6,q7];go_simp
   go_at_call 28
   refine (fB 0 _ O O).mono ?_;rintro e d ⟨l,rfl,y1,y2,y3⟩;have B:J.grownBy d none:=aa (gx (ae J none)) y2;have n1:=NC.out d (aa Q B);have Y1:Hid (RV d l 0 4):=.inl y1;clear y1 y2 y3;go_wp2_with fail;refine bk o (fun hHeld=>?_);clear o K;try simp only [zU]
   refine cX 4 1 (fun K o=>?_);simp only [ax,q4,q5,q6,q7];go_simp
   refine bk o (fun hHeld=>?_);clear o K;try simp only [zU]
   have m:d.grownBy (d.alloc (Obj.cells #[.pointer (some ⟨l,0,none⟩)] 65)) none:=ag (ae _ _) _;have OB:pI (d.alloc (Obj.cells #[.pointer (some ⟨l,0,none⟩)] 65)) d.heap.size (.slice (some ⟨d.heap.size,0,none⟩) 1 1) [l]:=vX zL;refine on1e 3 7 ⟨some 40,.call ⟨.builtin .append,#[.tmp 34,.tmp 39],#[38,38]⟩,38, "nets.go:473",#[⟨1,.data⟩,⟨6,.data⟩,⟨0,.chain⟩],none⟩ (fun K o=>?_);have hx:∀ j u,((xs.take N).map pfV)[j]? = some u->(d.alloc (Obj.cells #[.pointer (some ⟨l,0,none⟩)] 65)).cell? ((⟨p,ob,none⟩:Addr).add j)=some u:=by
    intro j u C;rw [List.getElem?_map,List.getElem?_take] at C;by_cases hz:j<N
    ·rw [if_pos hz,zX (by rw [t];omega)] at C;have h1:=(aa B m).cell (X j (by rw [t];omega)) Z;rw [show (⟨p,ob,none⟩:Addr).add j=⟨p,ob+j,none⟩ from by unfold Addr.add;split<;>simp_all,h1];simpa using C
    ·rw [if_neg hz] at C;cases C
   refine iF pfV 65 (.pointer none) 8 _ rfl _ _ 38 rfl d.heap.size Tryz.underlying38 Tryz.infoPR rfl (.slice (some ⟨d.heap.size,0,none⟩) 1 1) [l] rfl OB.1 ⟨p,ob,none⟩ N G (xs.take N) rfl (by rw [List.length_take,t];omega) hx (fun _=>rfl) (by simp;omega) zD Z ?_;intro hD V w6 D F;rw [show [l].length+N=N+1 from by rw [List.length_singleton];omega] at D ⊢;have hJ:=bS n1.1;have n6:w6.cell? ⟨I,0,none⟩=some (.int .i64 ((N:Int)+1)):=F.cell (m.cell n1.1 Z) (fun e=>by have h:I=d.heap.size:=zJ e;have h2:I<d.heap.size:=hJ;omega);have G6:Hid (J.grownBy w6 none):=aw (r:=none) (aa B m) F (fun _ _ e=>e) (fun b hb e=>by have h:b=d.heap.size:=zJ e;have h2:=B.size;omega);have hB:bR (d.alloc (Obj.cells #[.pointer (some ⟨l,0,none⟩)] 65)) d.heap.size:=by
    intro i x e;have hh:=heap_alloc_new d (Obj.cells #[.pointer (some ⟨l,0,none⟩)] 65);simp only [World.cell?,hh] at e;rcases i with _ | i
    ·simp at e
    ·simp at e
   have KV:∀ {b:Nat} {q:Rat} {L:Nat},RV d b q L->RV w6 b q L:=fun {b q L} h=>(h.keep0 m).keepV F hB (show b≠d.heap.size from fun e=>by have h2:=h.lt;omega)
   have hL:4<=3*E+3*E+2:=O
   have Y:Hid (gV w6 (.slice hD (N+1) V) (N+1) (fun j=>if j=0 then 0 else y (j-1)) (3*E+3*E+2)):=by
    obtain ⟨ao,cap,e,r1,r2,r3⟩:=D.row;have hl:([l]++xs.take N).length=N+1:=by rw [List.length_append,List.length_take,t,List.length_singleton];omega
    rw [hl] at e r1;simp only [Value.slice.injEq,true_and] at e;obtain ⟨rfl,rfl⟩:=e;refine ⟨_,_,rfl,r1,r2,fun j C=>?_⟩;obtain ⟨g,off,e1,_,c⟩:=r3 j (by rw [hl];exact C);by_cases R:j=0
    ·subst R;exact ⟨g,off,l,e1,c,by show RV w6 l (if (0:Nat)=0 then 0 else y (0-1)) _;rw [if_pos rfl];exact (KV Y1).mono hL⟩
    ·have S:j-1<xs.length:=by rw [t];omega
     refine ⟨g,off,xs[j-1],e1,?_,by show RV w6 _ (if j=0 then 0 else y (j-1)) _;rw [if_neg R];exact KV ((H7 (j-1) S).keep0 B)⟩;rw [c,List.getElem_append_right (by rw [List.length_singleton];omega)];simp only [List.length_singleton,List.getElem_take];rfl
   have he:Hid (gV w6 (.slice (some ⟨p,ov,none⟩) (n-N) (G-N)) f.length (fun j=>y (N+j)) (3*E+3*E+2)):=by
    have hM:n-N=f.length:=by have:=P.out;omega
    have kF:=hI.out;refine ⟨_,_,by rw [hM],O,O,fun j C=>?_⟩;have hQ:¬ G=N:=O
    have hov:ov=ob+N:=by rw [hv,if_neg hQ]
    have S:N+j<xs.length:=by rw [t];omega
    refine ⟨p,ov,xs[N+j],rfl,?_,KV ((H7 (N+j) S).keep0 B)⟩;have c:=X.out (N+j) S;rw [hov,Nat.add_assoc];have c2:=(aa B m).cell c Z;exact F.cell c2 (fun e=>by have h1:p=d.heap.size:=zJ e;have h2:p<J.heap.size:=bS c;have h3:=B.size;omega)
   clear D F KV hB OB hx m n1 H7 X;refine bk o (fun hHeld=>?_);clear o K;refine tk 0 [(13,4,.slice hD (N+1) V),(14,5,.slice (some ⟨p,ov,none⟩) (n-N) (G-N)),(15,6,.int .i64 0)] ?_;try simp only [zU]
   refine wpAnyH_done zK ?_ _;go_wp2;go_ret3
   exact ⟨_,_,0,rfl,aa GW (aa Q G6),.inr (.inr ⟨rfl,y,by rw [<- P];exact H3,by rw [<- P];exact H4,Y,he⟩)⟩
 ·have e0:n=0:=O
  subst e0;have hf:N=0:=by have:=P.out;omega
  have hm:Hid (f.length=0):=by show _=_;have:=P.out;omega
  have kH:IntKind.i64.wrap (0:Int)=0:=zD
  clear O1 R1;go_wp2_with fail;refine (yH ao oc w1).mono ?_;rintro e J ⟨rfl,g2⟩;have Q:=ab (aa G1 g2);clear g2;have n0:=NC.out J Q;have T:=ab hf;rw [hf] at n0;clear hf;have kN:=n0.1;go_upto_region 7 with fail;refine hd (fun H=>H.cell? ⟨I,0,none⟩=some (.int .i64 (((0:Nat):Int)+1))) (fun hHeld=>?_);refine tk 6 [(2,35,.slice none 0 0),(3,36,.pointer (some ⟨I,0,none⟩)),(4,37,.int .i64 (((0:Nat):Int)+1)),(5,38,.int .i64 0),(6,39,.slice none 0 0),(8,41,.slice none 0 0),(9,42,.pointer (some ⟨I,0,none⟩)),(10,43,.int .i64 (((0:Nat):Int)+1)),(11,44,.int .i64 0),(12,45,.slice none 0 0)] ?_;simp only [zU];refine cX 5 0 (fun K o=>?_);simp only [ax,q4,q5,q6,q7];go_simp
  go_at_call 28
  refine (fB 0 _ O O).mono ?_;rintro e d ⟨l,rfl,y1,y2,y3⟩;have B:J.grownBy d none:=aa (gx (ae J none)) y2;have n1:=NC.out d (aa Q B);rw [T] at n1;have Y1:Hid (RV d l 0 4):=.inl y1;clear y1 y2 y3;go_wp2_with fail;refine bk o (fun hHeld=>?_);clear o K;try simp only [zU]
  refine cX 4 1 (fun K o=>?_);simp only [ax,q4,q5,q6,q7];go_simp
  refine bk o (fun hHeld=>?_);clear o K;try simp only [zU]
  have m:d.grownBy (d.alloc (Obj.cells #[.pointer (some ⟨l,0,none⟩)] 65)) none:=ag (ae _ _) _;have OB:pI (d.alloc (Obj.cells #[.pointer (some ⟨l,0,none⟩)] 65)) d.heap.size (.slice (some ⟨d.heap.size,0,none⟩) 1 1) [l]:=vX zL;refine on1e 3 7 ⟨some 40,.call ⟨.builtin .append,#[.tmp 34,.tmp 39],#[38,38]⟩,38, "nets.go:473",#[⟨1,.data⟩,⟨6,.data⟩,⟨0,.chain⟩],none⟩ (fun K o=>?_);obtain ⟨ti,hX,_,_,_⟩:=info_parts Tryz.infoPR;refine nK rfl _ _ 38 rfl d.heap.size 65 ti 1 Tryz.underlying38 hX (.slice (some ⟨d.heap.size,0,none⟩) 1 1) 1 _ rfl OB.1 rfl ?_;refine bk o (fun hHeld=>?_);clear o K;refine tk 0 [(13,4,.slice (some ⟨d.heap.size,0,none⟩) 1 1),(14,5,.slice none 0 0),(15,6,.int .i64 0)] ?_;try simp only [zU]
  refine wpAnyH_done zK ?_ _;have Y:Hid (gV (d.alloc (Obj.cells #[.pointer (some ⟨l,0,none⟩)] 65)) (.slice (some ⟨d.heap.size,0,none⟩) 1 1) (N+1) (fun j=>if j=0 then 0 else (0:Rat)) (3*E+3*E+2)):=by
   obtain ⟨qb,hY,e,r1,r2,r3⟩:=OB.1.row;simp only [Value.slice.injEq] at e;obtain ⟨rfl,_,rfl⟩:=e;refine ⟨_,_,by rw [T],by rw [T];exact zL,r2,fun j C=>?_⟩;have R:j=0:=by have:=T.out;omega
   subst R;obtain ⟨g,off,e1,_,c⟩:=r3 0 Z;refine ⟨g,off,l,e1,c,?_⟩;show RV _ l (if (0:Nat)=0 then 0 else 0) _
   rw [if_pos rfl];exact (Y1.keep0 m).mono O
  have he:Hid (gV (d.alloc (Obj.cells #[.pointer (some ⟨l,0,none⟩)] 65)) (.slice none 0 0) f.length (fun j=>(0:Rat)) (3*E+3*E+2)):=⟨none,0,by rw [hm],by rw [hm];exact zL,by unfold maxLen;omega,fun j C=>by rw [hm] at C;omega⟩;have hC:Hid (Rk.uy (N+f.length) U (fun _=>0)/\∀ z,Rk.uy (N+f.length) U z->∀ i,i<N+f.length->z i=(fun _=>(0:Rat)) i):=by
   rw [<- P];exact ⟨fun i hi=>O,fun z _ i hi=>O⟩
  have GF:Hid (w.grownBy (d.alloc (Obj.cells #[.pointer (some ⟨l,0,none⟩)] 65)) none):=aa GW (aa Q (aa B m));clear OB m n1 n0 Y1 hHeld;go_wp2;go_ret3
  exact ⟨_,_,0,rfl,GF,.inr (.inr ⟨rfl,fun _=>0,hC.1,hC.2,Y,he⟩)⟩
end Go.Proofs.YtbomdfhdocaagaaGreatDoor
