/- Contracts. -/
import Derived.Test.YtkbmbmdemajoaaaGreatDoorXPr
namespace Go.Proofs.YtkbmbmdemajoaaaGreatDoor
open Go.RowKit
set_option linter.unusedVariables false
set_option linter.unusedSimpArgs false
set_option maxHeartbeats 8000000
set_option maxRecDepth 10000
attribute [local simp] iD bX im dR
variable {w A B:World} {k n L base:Nat} {ps:List aD} {v x:Value} {I R:Nat->Rat} {row:Option Nat}
def BoAt (w:World) (v:Value) (k:Nat) (on:Nat->Bool):Prop:=∃ ao cap,v=.slice ao k cap/\k<=cap/\cap<=maxLen/\∀ i,i<k->∃ g off,ao=some ⟨g,off,none⟩/\w.cell? ⟨g,off+i,none⟩=some (.bool (on i))
theorem bU.free {g cap:Nat} (h:bU w base (.slice (some ⟨g,0,none⟩) k cap) k R L) (j:Nat):w.frozen? ⟨g,j,none⟩=false:=by
 obtain ⟨xs,b,f,i⟩:=h;rcases b.2 with ⟨e,_⟩ | ⟨l,a,c,e,d,hg,_⟩
 ·simp at e
 ·simp only [Value.slice.injEq,zI,Addr.mk.injEq,true_and,and_true] at e;obtain ⟨rfl,rfl⟩:=e;simp [World.frozen?,hg]
theorem zn {b:Nat} {a:Array Value} {e:TypeId} (hb:w.heap[b]? = some (.cells a e (0,0))) {y:Value} (hc:a=#[x,y]) (d:∀ z:Nat,x≠.int .u32 (z:Nat)) (f:∀ z:Nat,y≠.int .u32 (z:Nat)) (u v:Value) :
  aI w ((w.setCell ⟨b,0,none⟩ u).setCell ⟨b,1,none⟩ v) b:=by
 subst hc;have g:=heap_setCell_same w b 0 _ e u hb;refine (aI.set hb (fun z c=>?_) u).trans (aI.set g (fun z c=>?_) v)
 ·simp at c;exact d z c
 ·simp at c;exact f z c
theorem di.keepB {a:World} {b:Nat} (h:di w base v n R L) (g:aI w a b) (hb:b<base):di a base v n R L:=by
 obtain ⟨d,c,e,f,i,j⟩:=h;refine ⟨d,c,e,f,i,fun p=>?_⟩;obtain ⟨k,l,m,o⟩:=j p;exact ⟨k,l,m,o.keep g.1 g.2 (fun e=>by have:=zJ e;omega)⟩
def AnJE (w:World) (n:Nat) (ps:List aD) (on:Nat->Bool) (L:Nat) (e:Ending) (w':World):Prop :=
 ∃ v1 v2 b,e=.returned (.tuple #[.agg #[v1,v2],.bool b])/\w.grownBy w' none
  /\ ((b=true/\∃ V I,di w' w.heap.size v1 n V L/\di w' w.heap.size v2 ps.length I L/\bD n (bh on ps) V I)
   ∨ (b=false/\v1=.slice none 0 0/\v2=.slice none 0 0/\((¬ ∃ V I,bD n (bh on ps) V I)∨∃ V I V' I',bD n (bh on ps) V I/\bD n (bh on ps) V' I'/\((∃ j,j<n/\V j≠V' j)∨∃ i,i<ps.length/\I i≠I' i))))
def AnJR (W:World) (base:Nat) (on:Nat->Bool) (ps:List aD) (L:Nat) (v8 iv:Value) (wr:World):Prop :=
 ∃ i:Nat,i<=ps.length/\iv=.int .i64 i/\bU wr base v8 ps.length (qA on ps i) L/\W.grownBy wr none
theorem ansJ_at (n:Nat) (po:Option Addr) (pc:Nat) (ps:List aD) (o:Nat->Bool) (jv:Value) (go gj gf gn base:Nat) (v:Value) (fb:Bool) (G d:Option Addr) (fl fc f l:Nat) (L:Nat) (w:World)
  (h1:w.cell? ⟨go,0,none⟩=some v) (h2:bU w base v ps.length (gI ps) L) (h3:ps.length=0->v=.slice none 0 0)
  (h4:kX w gj (.bool fb) (.slice G fl fc) (.slice d f l) (.bool false) (.slice none 0 0) (.slice none 0 0) (.bool false) (.slice none 0 0) (.slice none 0 0) (.bool false) (.slice none 0 0) (.slice none 0 0))
  (h5:FQ w (.agg #[.bool fb,.slice G fl fc,.slice d f l]) 1 L) (h6:bX w gf (.bool fb) (.slice G fl fc) (.slice d f l)/\iD w gf) (h7:dR w gn (.int .i64 (n:Nat)) (.slice po ps.length pc))
  (hp:aR w (.slice po ps.length pc) ps) (hR:cD n ps) (hj:BoAt w jv ps.length o) (hon:∀ i (h:i<ps.length),o i=true->ps[i].kind=8) (hq:∀ p∈ps,p.kind=8->p.q=0) (hLs:iq (cU n ps) (n+ps.length)<L) (hL:L<=49000000) :
  Calls Tryz.prog 34 #[jv,.pointer (some ⟨go,0,none⟩),.pointer (some ⟨gj,0,none⟩),.pointer (some ⟨gf,0,none⟩),.pointer (some ⟨gn,0,none⟩)] w fun e w'=>AnJE w n ps o L e w':=by
 obtain rfl:fb=rB 1:=FV.parts h5;have H:rB 1=false:=zD
 rw [H] at h4 h5 h6;have hy:=hR.len;have H1:=ab h1;have H2:=ab h2;have H4:=ab h4;have H5:=ab h5;have H6:=ab h6;have H7:=ab h7;have HP:=ab hp;have HR:=ab hR;have hl:=ab hon;have HQ:=ab hq;have hm:=ab hLs;obtain ⟨jo,jc,rfl,hB,hr,P⟩:=hj;have HJ:=ab P;unfold maxLen at hr;clear h1 h2 h4 h5 h6 h7 hp hR hon hq hLs P H;obtain ⟨W,Q⟩:=eX (w.alloc (Obj.cells #[.slice none 0 0,.slice none 0 0] 60));have C:Hid (w.grownBy W none):=by rw [Q];exact ag (ae _ _) _
 have J:Hid (W.heap.size=w.heap.size+1):=by show _=_;rw [Q];simp
 have BX:Hid (∀ wx,W.grownBy wx none->wx.heap[w.heap.size]? = some (Obj.cells #[.slice none 0 0,.slice none 0 0] 60 (0,0))):=by
  intro wx hg;rw [hg.block w.heap.size (by rw [J];omega) Z,Q];exact heap_alloc_new w _
 have c1:=C.out.cell H1 Z;go_enter Tryz.func34,Tryz.ntmps34
 go_upto_region 1 with fail;rw [<- Q];clear Q;go_wp2_with fail;refine (xD base v ps.length (gI ps) L W (H2.keep0 C) h3 O).mono ?_;rintro e w1 ⟨v8,rfl,E,T⟩;have O1:=ab (E.congr (fun j _=>AG o ps j));have G1:=ab T;obtain ⟨ao,ac,rfl⟩:=E.shape;clear E T c1;go_wp2;go_loopw [17] (fun iv wr=>Hid (AnJR W W.heap.size o ps L (.slice ao ps.length ac) iv wr)) (fun iv _=>ps.length-(intOf iv).toNat)
 case atStart=>exact ⟨0,O,rfl,O1,G1⟩
 case round =>
  obtain ⟨i,hi,rfl,E,T⟩:=hrel.out;have c:=ab E;have s:=ab T;clear E T hrel O1 G1;by_cases hlt:i<ps.length
  ·obtain ⟨jg,hx,rfl,U⟩:=HJ.out i hlt;have K:=(aa C s).cell U Z;clear U;obtain ⟨hC,hD,e,hE,hs,hu⟩:=c.out.lw;simp only [Value.slice.injEq,true_and] at e;obtain ⟨rfl,rfl⟩:=e;obtain ⟨gl,rfl,hF,o0,l0,c0,E,l1,c1,o2,l2,c2,o3,l3,c3,o4,l4,c4,o5,l5,c5,o6,l6,c6,o7,l7,c7,⟨x0,x1,x2,x3,x4,x5,x6,x7,x8,x9,hv,hw⟩,_⟩:=hu i hlt;unfold maxLen at hs;by_cases F:o i=true
   ·rw [F] at K;have h8:=hl.out i hlt F;have HE:Hid (∀ wx,wx=tm wr gl (i*12) [.bool false,.slice G fl fc,.slice d f l,.bool false,.slice none 0 0,.slice none 0 0,.bool false,.slice none 0 0,.slice none 0 0,.bool false,.slice none 0 0,.slice none 0 0]->bU wx W.heap.size (.slice (some ⟨gl,0,none⟩) ps.length ac) ps.length (qA o ps (i+1)) L/\W.grownBy wx none):=by
     rintro wx rfl;have GX:=aa C s;obtain ⟨a,b⟩:=c.out.put (S:=joiR) (ns (w:=wr) (qa:=1) (qf:=0) (ql:=0) (qs:=0) (H5.keep0 GX) (aX _ _) (aX _ _) (aX _ _)) hlt;exact ⟨a.congr (fun j _=>C5 hlt F h8 (HQ _ (List.getElem_mem hlt) h8) j),aw (r:=none) s b.1 (fun _ _ e=>e) (fun b hb e=>by have:=(c.fresh b e.symm).1;omega)⟩
    have f0:=c.out.free (i*12);have f1:=c.out.free (i*12+1);have f2:=c.out.free (i*12+2);have f3:=c.out.free (i*12+3);have f4:=c.out.free (i*12+4);have f5:=c.out.free (i*12+5);have f6:=c.out.free (i*12+6);have f7:=c.out.free (i*12+7);have f8:=c.out.free (i*12+8);have f9:=c.out.free (i*12+9);have hz:=c.out.free (i*12+10);have hA:=c.out.free (i*12+11);obtain ⟨⟨y0,y1,y2⟩,⟨y3,y4,y5⟩,⟨y6,y7,y8⟩,y9,hG,hH⟩:=H4.out.k0 (aa C s);clear F h8;go_wp2;go_roundw
    case rel=>exact ⟨i+1,O,zN,(HE _ rfl).1,(HE _ rfl).2⟩
    case measure=>simp [intOf];omega
   ·have D:o i=false:=by simpa using F
    rw [D] at K;have O2:=ab (c.congr (fun j _=>AF hlt D j));clear F x0 x1 x2 x3 x4 x5 x6 x7 x8 x9 hv hw D;go_wp2;go_roundw
    case rel=>exact ⟨i+1,O,zN,O2,s⟩
    case measure=>simp [intOf];omega
  ·obtain rfl:ps.length=i:=O
   have O2:=ab (c.congr (C0 o ps)).lw;have M:=ab (aa C s);obtain ⟨d0,d1⟩:=H6.out;have d0:=d0.k0 M;have d1:=d1.k0 M;have d2:=H7.out.k0 M;go_wp2_with fail;refine (Bi false G d fl fc f l n po pc ps o _ L wr (H5.keep0 M) (HP.keep M) HR O2 hm hL).mono ?_;have fin:Hid (∀ (w5:World) (v1 v2:Value),W.grownBy w5 none->aI w5 ((w5.setCell ⟨w.heap.size,0,none⟩ v1).setCell ⟨w.heap.size,1,none⟩ v2) w.heap.size/\w5.cell? ⟨w.heap.size,0,none⟩=some (.slice none 0 0)/\w5.cell? ⟨w.heap.size,1,none⟩=some (.slice none 0 0)/\w5.frozen? ⟨w.heap.size,0,none⟩=false/\w5.frozen? ⟨w.heap.size,1,none⟩=false):=by
    intro w5 v1 v2 g;have hb:=BX.out w5 g;exact ⟨zn hb rfl (fun z=>Z) (fun z=>Z) v1 v2,by simp [World.cell?,hb],by simp [World.cell?,hb],by simp [World.frozen?,hb],by simp [World.frozen?,hb]⟩
   have u:Hid (w.heap.size+1<=wr.heap.size):=by show _<=_;have:=s.out.size;have:=J.out;omega
   have m:Hid (∀ (w5:World) (v1 v2:Value),W.grownBy w5 none->w.grownBy ((w5.setCell ⟨w.heap.size,0,none⟩ v1).setCell ⟨w.heap.size,1,none⟩ v2) none):=fun w5 v1 v2 g=>aw (r:=none) (aa C g) (fin w5 v1 v2 g).1.1 (fun _ _ e=>e) (fun b hb e=>by have:=zJ e;omega)
   rintro e w5 (⟨v1,v2,V,I,rfl,r1,r2,s1,s2,y⟩ | ⟨rfl,s1,y⟩ | ⟨rfl,s1,y⟩)
   ·have t:=ab (aa s y);rw [cJ] at r2;have R1:=ab (r1.low (base':=w.heap.size+1) u);have R2:=ab (r2.low (base':=w.heap.size+1) u);obtain ⟨X,Y,rfl,_⟩:=id r1;obtain ⟨he,hf,rfl,_⟩:=id r2;have N:=ab s1;obtain ⟨_,z0,z1,z2,z3⟩:=fin.out w5 (.slice none 0 0) (.slice none 0 0) t;clear r1 r2 s1 s2 y d0 d1 d2;go_wp2;refine bodyPost_ret (v:=.tuple #[.agg #[.slice X n Y,.slice he ps.length hf],.bool true]) (by simp [results,Tryz.results34,go_sem,z0,z1]) rfl ?_;have hk:=(fin w5 (.slice X n Y) (.slice he ps.length hf) t).1;exact ⟨_,_,_,rfl,m _ _ _ t,.inl ⟨rfl,V,I,(R1.keepB hk O).low O,(R2.keepB hk O).low O,N⟩⟩
   ·have t:=ab (aa s y);have N:=ab s1;obtain ⟨_,z0,z1,z2,z3⟩:=fin.out w5 (.slice none 0 0) (.slice none 0 0) t;clear s1 y d0 d1 d2;go_wp2;refine bodyPost_ret (v:=.tuple #[.agg #[.slice none 0 0,.slice none 0 0],.bool false]) (by simp [results,Tryz.results34,go_sem,z0,z1]) rfl ?_;exact ⟨_,_,_,rfl,m _ _ _ t,.inr ⟨rfl,rfl,rfl,.inl N⟩⟩
   ·have t:=ab (aa s y);rw [cJ] at s1;have N:=ab s1;obtain ⟨_,z0,z1,z2,z3⟩:=fin.out w5 (.slice none 0 0) (.slice none 0 0) t;clear s1 y d0 d1 d2;go_wp2;refine bodyPost_ret (v:=.tuple #[.agg #[.slice none 0 0,.slice none 0 0],.bool false]) (by simp [results,Tryz.results34,go_sem,z0,z1]) rfl ?_;exact ⟨_,_,_,rfl,m _ _ _ t,.inr ⟨rfl,rfl,rfl,.inr N⟩⟩
attribute [local simp] bX im dR Pc6 nf
def mG (ps:List aD) (V I:Nat->Rat) (i:Nat):Prop:=∀ h:i<ps.length,ps[i].kind=8->0<=I i/\V ps[i].a.toNat-V ps[i].b.toNat<=0
def FitR (W:World) (ps:List aD) (V I:Nat->Rat) (iv:Value) (wr:World):Prop:=∃ i:Nat,i<=ps.length/\iv=.int .i64 i/\(∀ j,j<i->mG ps V I j)/\W.grownBy wr none
theorem vE (q:Rat):(q.num.sign<0)↔¬ 0<=q:=by
 rw [<- Rat.num_nonneg];rcases Int.lt_trichotomy q.num 0 with h | h | h
 ·rw [Int.sign_eq_neg_one_of_neg h];omega
 ·rw [h];simp
 ·rw [Int.sign_eq_one_of_pos h];omega
theorem tX (p q:Rat):(0<qu p q)↔¬ p-q<=0:=by
 unfold qu;by_cases h:p<q
 ·rw [if_pos h];constructor
  ·intro h;omega
  ·intro h2;exfalso;apply h2;grind
 ·rw [if_neg h];by_cases h2:q<p
  ·rw [if_pos h2];constructor
   ·intro _;grind
   ·intro _;omega
  ·rw [if_neg h2];constructor
   ·intro h;omega
   ·intro a;exfalso;apply a;grind
theorem Cf (n:Nat) (po:Option Addr) (pc:Nat) (ps:List aD) (V I:Nat->Rat) (v1 v2:Value) (b1 b2 L:Nat) (w:World) (h1:di w b1 v1 n V L) (h2:di w b2 v2 ps.length I L) (G:aR w (.slice po ps.length pc) ps) (hR:cD n ps) (hL:L<=100000000) :
  Calls Tryz.prog 18 #[.agg #[v1,v2],.agg #[.int .i64 (n:Nat),.slice po ps.length pc]] w fun e f=>∃ b,e=.returned (.bool b)/\w.grownBy f none/\(b=true↔∀ i,i<ps.length->mG ps V I i):=by
 have hz:=hR.lo;have hA:=hR.len;obtain ⟨hC,c1,rfl,hD,hm,k1⟩:=h1;obtain ⟨l,rfl,_,r1⟩:=k1 O;obtain ⟨U,N,rfl,hE,ho,k2⟩:=h2;have K1:=ab r1;have K2:=ab k2;have HP:=ab G;have HR:=ab hR;unfold maxLen at hm ho;clear k1 r1 k2 G hR;obtain ⟨W,X⟩:=eX ((w.alloc (Obj.cells #[.slice (some ⟨l,0,none⟩) n c1,.slice U ps.length N] 60)).alloc (Obj.cells #[.int .i64 (n:Nat),.slice po ps.length pc] 24));have P:Hid (w.grownBy W none):=by rw [X];exact ag (ag (ae _ _) _) _
 have NC:Hid (∀ wx,W.grownBy wx none->dR wx w.heap.size (.slice (some ⟨l,0,none⟩) n c1) (.slice U ps.length N)/\dR wx (w.heap.size+1) (.int .i64 (n:Nat)) (.slice po ps.length pc)):=by
  intro wx hg;exact ⟨dR.k0 (w:=W) (by rw [X];exact ⟨zG,zG⟩) hg,dR.k0 (w:=W) (by rw [X];exact ⟨zG,zG⟩) hg⟩
 obtain ⟨n0,n1⟩:=NC.out W (ae _ _);go_enter Tryz.func18,Tryz.ntmps18
 go_upto_region 1 with fail;rw [<- X];clear X;go_wp2;go_loopw [10] (fun iv wr=>Hid (FitR W ps V I iv wr)) (fun iv _=>ps.length-(intOf iv).toNat)
 case atStart=>exact ⟨0,O,rfl,fun j h=>O,ae _ _⟩
 case round =>
  obtain ⟨i,hi,rfl,hf,hg⟩:=hrel.out;have HF:=ab hf;have z:=ab hg;clear hf hg hrel n0 n1;by_cases hlt:i<ps.length
  ·obtain ⟨b,off,rfl,rc,hq⟩:=HP.out.row (aa P z) hlt;obtain ⟨m,o,Y,xd,ea,eb,ec,ed,ha,hb,hc,hd⟩:=HR.out.ends ps[i] (List.getElem_mem hlt);obtain ⟨p,G⟩:=eX (ps[i]);have s:=ab G;rw [<- G] at rc ea eb;have H:=ab (And.intro ea eb);clear G hq ec ed hc hd ea eb;obtain ⟨uo,ul,uc,vo,vl,vc,a0,a1,a2,a3,_⟩:=K1.out.at m ha;obtain ⟨xo,xl,Y,yo,yl,yc,e0,e1,e2,e3,_⟩:=K1.out.at o hb;have Q:=aa P z;have A3:=ab (a3.keep0 Q);have E3:=ab (e3.keep0 Q);obtain ⟨q,rfl,_,r2⟩:=K2.out O;obtain ⟨zo,zl,zc,qo,ql,qc,i0,i1,i2,i3,_⟩:=r2.at i hlt;have I3:=ab (i3.keep0 Q);go_upto_region 4 with fail;obtain ⟨r,F⟩:=eX wr.heap.size;obtain ⟨w4,y⟩:=eX (wr.alloc (Obj.cells #[.int .i64 p.kind,.int .i64 p.a,.int .i64 p.b,.int .i64 p.c,.int .i64 p.d,.string p.v] 45));have t:Hid (wr.grownBy w4 none):=by rw [y];exact ag (ae _ _) _
   have PB:Hid (nf w4 r p):=by rw [F];exact gJ wr p 45 (by rw [y];exact ae _ _)
   rw [<- y,<- F];have S:Hid (∀ wx,w4.grownBy wx none->wx.cell? ⟨l,m*3,none⟩=some (.bool (rB (V m)))/\wx.cell? ⟨l,m*3+1,none⟩=some (.slice uo ul uc)/\wx.cell? ⟨l,m*3+2,none⟩=some (.slice vo vl vc)/\wx.cell? ⟨l,o*3,none⟩=some (.bool (rB (V o)))/\wx.cell? ⟨l,o*3+1,none⟩=some (.slice xo xl Y)/\wx.cell? ⟨l,o*3+2,none⟩=some (.slice yo yl yc)
    /\ wx.cell? ⟨q,i*3,none⟩=some (.bool (rB (I i)))/\wx.cell? ⟨q,i*3+1,none⟩=some (.slice zo zl zc)/\wx.cell? ⟨q,i*3+2,none⟩=some (.slice qo ql qc)
    /\ wx.cell? ⟨r,0,none⟩=some (.int .i64 p.kind)/\wx.cell? ⟨r,1,none⟩=some (.int .i64 m)/\wx.cell? ⟨r,2,none⟩=some (.int .i64 o)/\wx.cell? ⟨w.heap.size,0,none⟩=some (.slice (some ⟨l,0,none⟩) n c1)/\wx.cell? ⟨w.heap.size,1,none⟩=some (.slice (some ⟨q,0,none⟩) ps.length N)):=by
    intro wx g;have u:=aa Q (aa t g);have pb:=PB.out.k0 g;have nn:=(NC wx (aa z (aa t g))).1;rw [nf,H.1,H.2] at pb;exact ⟨u.cell a0 Z,u.cell a1 Z,u.cell a2 Z,u.cell e0 Z,u.cell e1 Z,u.cell e2 Z,u.cell i0 Z,u.cell i1 Z,u.cell i2 Z,pb.1,pb.2.1,pb.2.2.1,nn.1,nn.2⟩
   clear y F rc a0 a1 a2 a3 e0 e1 e2 e3 i0 i1 i2 i3 r2 PB Q;have hr:(0:Int)<=((m:Nat):Int):=O
   have hu:((m:Nat):Int)<(n:Int):=O
   have hv:(0:Int)<=((o:Nat):Int):=O
   have hw:((o:Nat):Int)<(n:Int):=O
   have hx:(0:Int)<=((i:Nat):Int):=O
   have hy:((i:Nat):Int)<(ps.length:Int):=O
   by_cases J:p.kind=8
   ·rw [J] at S;obtain ⟨sg,he⟩:=eX ((I i).num.sign);have C:=ab he;obtain ⟨cm,hl⟩:=eX (qu (V m) (V o));have D:=ab hl;have T:=ab J;clear he hl J;have s0:=S.out w4 (ae _ _);refine hd (fun f=>f.cell? ⟨l,m*3,none⟩=some (.bool (rB (V m)))/\f.cell? ⟨l,m*3+1,none⟩=some (.slice uo ul uc)/\f.cell? ⟨l,m*3+2,none⟩=some (.slice vo vl vc)/\f.cell? ⟨l,o*3,none⟩=some (.bool (rB (V o)))/\f.cell? ⟨l,o*3+1,none⟩=some (.slice xo xl Y)/\f.cell? ⟨l,o*3+2,none⟩=some (.slice yo yl yc)/\f.cell? ⟨q,i*3,none⟩=some (.bool (rB (I i)))/\f.cell? ⟨q,i*3+1,none⟩=some (.slice zo zl zc)/\f.cell? ⟨q,i*3+2,none⟩=some (.slice qo ql qc)/\f.cell? ⟨r,0,none⟩=some (.int .i64 8)/\f.cell? ⟨r,1,none⟩=some (.int .i64 m)/\f.cell? ⟨r,2,none⟩=some (.int .i64 o)/\f.cell? ⟨w.heap.size,0,none⟩=some (.slice (some ⟨l,0,none⟩) n c1)/\f.cell? ⟨w.heap.size,1,none⟩=some (.slice (some ⟨q,0,none⟩) ps.length N)) (fun hHeld=>?_);refine tk 19 [(0,15,.pointer (some ⟨r,0,none⟩)),(1,16,.int .i64 8),(2,17,.bool true),(3,18,.bool true),(4,19,.pointer (some ⟨w.heap.size,1,none⟩)),(5,20,.slice (some ⟨q,0,none⟩) ps.length N),(6,21,.int .i64 i),(7,22,.pointer (some ⟨q,i*3,none⟩)),(8,23,.agg #[.bool (rB (I i)),.slice zo zl zc,.slice qo ql qc])] ?_;try simp only [pA,pL,vA,vL,q0,q1,q2,q3]
    refine de 18 9 (fun K hK=>?_);simp only [ax,q4,q5,q6,q7];go_simp
    go_at_call 38
    refine (iU _ (I i) L _ (I3.keep0 (aa t (gx (ae _ _))))).mono ?_;rintro e wa ⟨rfl,ga⟩;rw [<- C];have M:=ab (aa aA ga);clear ga s0 hHeld;have s0:=S.out wa M;go_wp2_with fail;refine bk hK (fun hHeld=>?_);clear hK K;by_cases hs:sg<0
    ·refine tk 16 [(10,25,.bool true),(11,26,.bool true)] ?_;try simp only [pA,pL,vA,vL,q0,q1,q2,q3]
     refine sk 2 [(12,27),(13,28),(14,29),(15,30),(16,31),(17,32),(18,33),(19,34),(20,35),(21,36),(22,37),(23,38),(24,39),(25,40)] ?_;refine tk 0 [(26,41,.bool true),(27,42,.bool true)] ?_;try simp only [pA,pL,vA,vL,q0,q1,q2,q3]
     refine wpAnyH_done zK ?_ _;go_wp2;go_ret;exact ⟨false,rfl,aa P (aa z (aa t (by first | exact M | exact aa M aA))),fun h=>absurd h Z,fun h=>absurd ((h i hlt) hlt (by rw [<- s];exact T)).1 ((vE _).1 (by rw [<- C];exact hs))⟩
    ·refine tk 4 [(10,25,.bool false),(11,26,.bool false),(12,27,.pointer (some ⟨w.heap.size,0,none⟩)),(13,28,.slice (some ⟨l,0,none⟩) n c1),(14,29,.pointer (some ⟨r,1,none⟩)),(15,30,.int .i64 m),(16,31,.pointer (some ⟨l,m*3,none⟩)),(17,32,.agg #[.bool (rB (V m)),.slice uo ul uc,.slice vo vl vc]),(18,33,.pointer (some ⟨w.heap.size,0,none⟩)),(19,34,.slice (some ⟨l,0,none⟩) n c1),(20,35,.pointer (some ⟨r,2,none⟩)),(21,36,.int .i64 o),(22,37,.pointer (some ⟨l,o*3,none⟩)),(23,38,.agg #[.bool (rB (V o)),.slice xo xl Y,.slice yo yl yc])] ?_;try simp only [pA,pL,vA,vL,q0,q1,q2,q3]
     refine de 3 24 (fun K hK=>?_);simp only [ax,q4,q5,q6,q7];go_simp
     go_at_call 39
     refine (uh _ _ (V m) (V o) L L _ (A3.keep0 (aa t M)) (E3.keep0 (aa t M)) O).mono ?_;rintro e wb ⟨rfl,gb⟩;rw [<- D];have GB:=ab (aa M gb);clear gb s0 hHeld;have s0:=S.out wb GB;go_wp2_with fail;refine bk hK (fun hHeld=>?_);clear hK K;by_cases hc:0<cm
     ·refine tk 0 [(25,40,.bool true),(26,41,.bool true),(27,42,.bool true)] ?_;try simp only [pA,pL,vA,vL,q0,q1,q2,q3]
      refine wpAnyH_done zK ?_ _;go_wp2;go_ret;exact ⟨false,rfl,aa P (aa z (aa t (by first | exact GB | exact aa GB aA))),fun h=>absurd h Z,fun h=>absurd (by have:=((h i hlt) hlt (by rw [<- s];exact T)).2;rw [<- s,H.1,H.2,Int.toNat_natCast,Int.toNat_natCast] at this;exact this) ((tX _ _).1 (by rw [<- D];exact hc))⟩
     ·refine tk 0 [(25,40,.bool false),(26,41,.bool false),(27,42,.bool false)] ?_;try simp only [pA,pL,vA,vL,q0,q1,q2,q3]
      refine wpAnyH_done zK ?_ _;go_wp2;go_roundw
      case rel=>exact ⟨i+1,O,zN,fun j hj=>by
       by_cases E:j=i
       ·subst E;exact fun h J=>⟨Decidable.not_not.1 (fun hh=>by have:=(vE _).2 hh;rw [<- C] at this;omega),by rw [<- s,H.1,H.2,Int.toNat_natCast,Int.toNat_natCast];exact Decidable.not_not.1 (fun hh=>by have:=(tX _ _).2 hh;rw [<- D] at this;omega)⟩
       ·exact HF j O,aa z (aa t GB)⟩
      case measure=>simp [intOf];omega
   ·have hB:(p.kind==8)=false:=by simpa using J
    have s0:=S.out w4 (ae _ _);refine hd (fun f=>f.cell? ⟨l,m*3,none⟩=some (.bool (rB (V m)))/\f.cell? ⟨l,m*3+1,none⟩=some (.slice uo ul uc)/\f.cell? ⟨l,m*3+2,none⟩=some (.slice vo vl vc)/\f.cell? ⟨l,o*3,none⟩=some (.bool (rB (V o)))/\f.cell? ⟨l,o*3+1,none⟩=some (.slice xo xl Y)/\f.cell? ⟨l,o*3+2,none⟩=some (.slice yo yl yc)/\f.cell? ⟨q,i*3,none⟩=some (.bool (rB (I i)))/\f.cell? ⟨q,i*3+1,none⟩=some (.slice zo zl zc)/\f.cell? ⟨q,i*3+2,none⟩=some (.slice qo ql qc)/\f.cell? ⟨r,0,none⟩=some (.int .i64 p.kind)/\f.cell? ⟨r,1,none⟩=some (.int .i64 m)/\f.cell? ⟨r,2,none⟩=some (.int .i64 o)/\f.cell? ⟨w.heap.size,0,none⟩=some (.slice (some ⟨l,0,none⟩) n c1)/\f.cell? ⟨w.heap.size,1,none⟩=some (.slice (some ⟨q,0,none⟩) ps.length N)) (fun hHeld=>?_);refine tk 24 [(0,15,.pointer (some ⟨r,0,none⟩)),(1,16,.int .i64 p.kind),(2,17,.bool false),(3,18,.bool false)] ?_;try simp only [pA,pL,vA,vL,q0,q1,q2,q3]
    refine sk 1 [(4,19),(5,20),(6,21),(7,22),(8,23),(9,24),(10,25),(11,26),(12,27),(13,28),(14,29),(15,30),(16,31),(17,32),(18,33),(19,34),(20,35),(21,36),(22,37),(23,38),(24,39),(25,40),(26,41)] ?_;refine tk 0 [(27,42,.bool false)] ?_;try simp only [pA,pL,vA,vL,q0,q1,q2,q3]
    refine wpAnyH_done zK ?_ _;go_wp2;go_roundw
    case rel=>exact ⟨i+1,O,zN,fun j hj=>by
     by_cases E:j=i
     ·subst E;exact fun h hk=>absurd (by rw [s];exact hk) J
     ·exact HF j O,aa z (aa t aA)⟩
    case measure=>simp [intOf];omega
  ·obtain rfl:ps.length=i:=O
   go_wp2;go_ret;exact ⟨true,rfl,aa P z,fun _=>HF,fun _=>rfl⟩
attribute [local simp] bX im dR
def fR (w:World) (b:Nat) (T:TypeId) (u v:Value):Prop:=w.heap[b]? = some (Obj.cells #[u,v] T (0,0))
section
variable {w w':World} {b:Nat} {T:TypeId} {u v:Value}
theorem fR.lt (h:fR w b T u v):b<w.heap.size:=(zZ h).1
theorem fR.keep {r:Option Nat} (h:fR w b T u v) (g:w.grownBy w' r) (a:some b≠r):fR w' b T u v:=by
 have c:=h.lt;unfold fR at h ⊢;rw [g.block b c a,h]
theorem fR.cells (h:fR w b T u v):w.cell? ⟨b,0,none⟩=some u/\w.cell? ⟨b,1,none⟩=some v/\w.frozen? ⟨b,0,none⟩=false/\w.frozen? ⟨b,1,none⟩=false:=by
 unfold fR at h;exact ⟨by simp [World.cell?,h],by simp [World.cell?,h],by simp [World.frozen?,h],by simp [World.frozen?,h]⟩
theorem fR.set0 (h:fR w b T u v) (x:Value):fR (w.setCell ⟨b,0,none⟩ x) b T x v:=by
 unfold fR at h ⊢;rw [heap_setCell_same w b 0 _ _ _ h];rfl
theorem fR.set1 (h:fR w b T u v) (x:Value):fR (w.setCell ⟨b,1,none⟩ x) b T u x:=by
 unfold fR at h ⊢;rw [heap_setCell_same w b 1 _ _ _ h];rfl
end
def TeR0 (W:World) (n:Nat) (V:Nat->Rat) (iv:Value) (wr:World):Prop:=∃ (i:Nat) (v:Value),i<=n/\iv=.int .i64 i/\fR wr W.heap.size 28 v (.slice none 0 0)/\cW sv 43 wr (W.heap.size+1) v (bB V i)/\W.grownBy wr none
def TeR1 (W:World) (u:Value) (n:Nat) (V:Nat->Rat) (iv:Value) (wr:World):Prop:=∃ (i:Nat) (v:Value),i<=n/\iv=.int .i64 i/\fR wr W.heap.size 28 u v/\cW sv 43 wr (W.heap.size+1) v (bB V i)/\W.grownBy wr none
theorem Cg (n k:Nat) (V I:Nat->Rat) (v1 v2:Value) (b1 b2 L:Nat) (w:World) (h1:di w b1 v1 n V L) (h2:di w b2 v2 k I L) (hn:n<=1000) (hk:k<=1000) (hL:L<=100000000) (ht:fT w) :
  Calls Tryz.prog 19 #[.agg #[v1,v2]] w fun e G=>∃ u v,e=.returned (.agg #[u,v])/\(∃ o c,u=.slice o n c)/\w.grownBy G none/\cW sv 43 G w.heap.size v (bB I k):=by
 obtain ⟨hm,c1,rfl,hF,hA,k1⟩:=h1;obtain ⟨ho,c2,rfl,hG,hB,k2⟩:=h2;have K1:=ab k1;have K2:=ab k2;have HT:=ab ht;unfold maxLen at hA hB;clear k1 k2 ht;obtain ⟨a,C⟩:=eX ((w.alloc (Obj.cells #[.slice hm n c1,.slice ho k c2] 60)).alloc (Obj.cells #[.slice none 0 0,.slice none 0 0] 28));have G0:Hid (w.grownBy a none):=by rw [C];exact ag (ag (ae _ _) _) _
 have NC:Hid (∀ wx,a.grownBy wx none->dR wx w.heap.size (.slice hm n c1) (.slice ho k c2)):=by
  intro wx hg;exact dR.k0 (w:=a) (by rw [C];exact ⟨zG,zG⟩) hg
 have RB:Hid (fR a (w.heap.size+1) 28 (.slice none 0 0) (.slice none 0 0)):=by
  have:=heap_alloc_new (w.alloc (Obj.cells #[.slice hm n c1,.slice ho k c2] 60)) (Obj.cells #[.slice none 0 0,.slice none 0 0] 28);rw [World.size_alloc,<- C] at this;exact this
 have hx:Hid (a.heap.size=w.heap.size+2):=by show _=_;rw [C];simp
 go_enter Tryz.func19,Tryz.ntmps19
 go_upto_region 1 with fail;rw [<- C];clear C;go_upto_region 2 with fail;obtain ⟨W,hW⟩:=eX a;obtain ⟨wb,Q⟩:=eX (a.alloc (Obj.cells #[.slice none 0 0,.slice none 0 0] 28));have B0:Hid (fR wb a.heap.size 28 (.slice none 0 0) (.slice none 0 0)):=by rw [Q];exact heap_alloc_new a _
 have GB:Hid (a.grownBy wb none):=by rw [Q];exact ag (ae _ _) _
 rw [<- Q];clear Q hW W;have n0:=NC.out wb GB;go_wp2;go_loopw [11] (fun iv wr=>Hid (TeR0 a n V iv wr)) (fun iv _=>n-(intOf iv).toNat)
 case atStart=>exact ⟨0,_,O,rfl,B0,me,GB⟩
 case round =>
  obtain ⟨i,v,hi,rfl,b1,o1,g1⟩:=hrel.out;have H:=ab b1;have q:=ab o1;have s:=ab g1;clear b1 o1 g1 hrel n0;have n0:=NC.out wr s;have t:=H.out.cells;by_cases hlt:i<n
  ·obtain ⟨g,rfl,_,fr⟩:=K1.out O;obtain ⟨S,T,U,h,X,Y,a0,a1,a2,a3,_⟩:=(fr.keep0 (aa G0 s)).at i hlt;have A3:=ab a3;clear a3 fr;go_upto_region 5 with fail;obtain ⟨gx,l⟩:=eX wr.heap.size;obtain ⟨w4,m⟩:=eX (wr.alloc (Obj.cells #[.bool (rB (V i)),.slice S T U,.slice h X Y] 81));have J:Hid (wr.grownBy w4 none):=by rw [m];exact ag (ae _ _) _
   have XC:Hid (bX w4 gx (.bool (rB (V i))) (.slice S T U) (.slice h X Y)):=by rw [m,l];exact ⟨zG,zG,zG⟩
   have he:Hid (wr.heap.size<=gx):=Nat.le_of_eq l.symm;have hy:Hid (a.heap.size<wr.heap.size):=H.out.lt;obtain ⟨D,E,rfl⟩:=q.out.shape;rw [aK] at q H;rw [<- m,<- l];clear m l a0 a1 a2 n0 t;have B4:=ab (H.keep J Z);have O4:=ab (q.keep0 J);have t:=B4.out.cells;have p:=XC.out;refine hdL (fun G=>G.cell? ⟨a.heap.size,0,none⟩=some (.slice D i E)/\G.cell? ⟨gx,0,none⟩=some (.bool (rB (V i)))/\G.cell? ⟨gx,1,none⟩=some (.slice S T U)/\G.cell? ⟨gx,2,none⟩=some (.slice h X Y)) (fun j=>j==7) (fun hHeld=>?_);refine tkL 5 [(0,15,.pointer (some ⟨a.heap.size,0,none⟩)),(1,16,.slice D i E),(2,17,.agg #[.bool (rB (V i)),.slice S T U,.slice h X Y])] ?_;try simp only [pA,pL,vA,vL,q0,q1,q2,q3]
   refine Dt 4 3 (fun K f=>?_);simp only [ax,q4,q5,q6,q7];go_simp
   go_at_call 40
   refine (fQ_at _ (V i) L _ (A3.keep0 (aa J aA)) O (HT.keep0 (aa G0 (aa s (aa J aA))))).mono ?_;rintro e F ⟨rfl,g5⟩;have N:=ab (aa aA g5);clear g5 hHeld t p;have B5:=ab (B4.keep N Z);have O5:=ab (O4.keep0 N);have X5:=ab (XC.k0 N);have p:=X5.out;have t:=B5.out.cells;have hf:Hid (a.heap.size<F.heap.size):=B5.out.lt;go_wp2_with fail;refine bkL f (fun hHeld=>?_);clear f K;try simp only [pA,pL,vA,vL,q0,q1,q2,q3]
   refine Dt 3 4 (fun K f=>?_);simp only [ax,q4,q5,q6,q7];go_simp
   refine bkL f (fun hHeld=>?_);clear f K;try simp only [pA,pL,vA,vL,q0,q1,q2,q3]
   refine Dt 2 5 (fun K f=>?_);refine ib sv 43 (sv ⟨#[]⟩) 16 _ rfl (.tmp 16) (.tmp 19) 26 rfl (a.heap.size+1) Tryz.underlying26 Tryz.infoQ rfl (.slice D i E) (bB V i) rfl (O5.keep0 (ag (ae _ _) _)) ⟨F.heap.size,0,none⟩ 1 1 [⟨(bQ (V i)).toArray⟩] rfl rfl (fun j u hj=>?_) (fun y=>rfl) (by rw [aK];omega) O (by have:=hf.out;simp;omega) ?_
   ·match j with
    | 0 =>
     simp only [List.map_cons,List.getElem?_cons_zero,zI] at hj;subst hj;simp [Addr.add,World.cell?_alloc_new,sv]
    | j+1=>simp at hj
   intro ao cap w6 d M;have HN:Hid (some a.heap.size≠(Value.slice D i E).ownBlock):=fun e=>by have:=(O5.fresh _ e.symm).1;omega
   have hl:Hid (some gx≠(Value.slice D i E).ownBlock):=fun e=>by have:=(q.fresh _ e.symm).2;have:=he.out;omega
   have P:(F.alloc (Obj.cells #[sv ⟨(bQ (V i)).toArray⟩] 43)).grownBy w6 (Value.slice D i E).ownBlock:=M;have B6:=ab ((B5.keep (ag (ae F none) _) Z).keep P HN);have O6:Hid (cW sv 43 w6 (a.heap.size+1) (.slice ao (i+1) cap) (bB V (i+1))):=by
    rw [nI];rw [aK] at d;exact d
   have X6:=ab ((X5.k0 (ag (ae F none) (Obj.cells #[sv ⟨(bQ (V i)).toArray⟩] 43))).k P hl);have G6:Hid (a.grownBy w6 none):=by
    refine aw (r:=none) (aa s (aa J (aa N (ag (ae F none) _)))) P (fun _ _ e=>e) (fun b hb e=>?_);have:=(O5.fresh b e.symm).1;omega
   clear d M P t p hHeld;obtain ⟨hs,hu,hC,hD⟩:=B6.out.cells;have p:=X6.out;rw [aK];refine bkL f (fun hHeld=>?_) (hS:=⟨by exact hs,p.1,p.2.1,p.2.2⟩);clear f K;try simp only [pA,pL,vA,vL,q0,q1,q2,q3]
   refine tkL 1 [(6,21,.pointer (some ⟨a.heap.size,0,none⟩))] ?_;try simp only [pA,pL,vA,vL,q0,q1,q2,q3]
   refine Dt 0 7 (fun K f=>?_);simp only [ax,q4,q5,q6,q7];go_simp
   refine bkT f ?_;clear f K;try simp only [pA,pL,vA,vL,q0,q1,q2,q3]
   refine endL ?_;clear hHeld p;go_wp2;go_roundw
   case rel=>exact ⟨i+1,_,O,zN,B6.set0 _,O6.keepB (aq (ae _ _)) (Nat.lt_succ_self _),ah G6 _ _ zL⟩
   case measure=>simp [intOf];omega
  ·obtain rfl:n=i:=O
   obtain ⟨hp,hq,rfl⟩:=q.out.shape;rw [aK] at H;clear q t;go_wp2;go_loopw [26] (fun iv wr=>Hid (TeR1 a (.slice hp n hq) k I iv wr)) (fun iv _=>k-(intOf iv).toNat)
   case atStart=>exact ⟨0,_,O,rfl,H,me,s⟩
   case round =>
    obtain ⟨i,v2,hi,rfl,b1,o1,g1⟩:=hrel.out;have H:=ab b1;have q:=ab o1;have s:=ab g1;clear b1 o1 g1 hrel n0;have n0:=NC.out wr s;have t:=H.out.cells;by_cases hlt:i<k
    ·obtain ⟨g,rfl,_,fr⟩:=K2.out O;obtain ⟨S,T,U,h,X,Y,a0,a1,a2,a3,_⟩:=(fr.keep0 (aa G0 s)).at i hlt;have A3:=ab a3;clear a3 fr;go_upto_region 10 with fail;obtain ⟨gx,l⟩:=eX wr.heap.size;obtain ⟨w4,m⟩:=eX (wr.alloc (Obj.cells #[.bool (rB (I i)),.slice S T U,.slice h X Y] 81));have J:Hid (wr.grownBy w4 none):=by rw [m];exact ag (ae _ _) _
     have XC:Hid (bX w4 gx (.bool (rB (I i))) (.slice S T U) (.slice h X Y)):=by rw [m,l];exact ⟨zG,zG,zG⟩
     have he:Hid (wr.heap.size<=gx):=Nat.le_of_eq l.symm;have hy:Hid (a.heap.size<wr.heap.size):=H.out.lt;obtain ⟨D,E,rfl⟩:=q.out.shape;rw [aK] at q H;rw [<- m,<- l];clear m l a0 a1 a2 n0 t;have B4:=ab (H.keep J Z);have O4:=ab (q.keep0 J);have t:=B4.out.cells;have p:=XC.out;refine hdL (fun G=>G.cell? ⟨a.heap.size,1,none⟩=some (.slice D i E)/\G.cell? ⟨gx,0,none⟩=some (.bool (rB (I i)))/\G.cell? ⟨gx,1,none⟩=some (.slice S T U)/\G.cell? ⟨gx,2,none⟩=some (.slice h X Y)) (fun j=>j==7) (fun hHeld=>?_);refine tkL 5 [(0,30,.pointer (some ⟨a.heap.size,1,none⟩)),(1,31,.slice D i E),(2,32,.agg #[.bool (rB (I i)),.slice S T U,.slice h X Y])] ?_;try simp only [pA,pL,vA,vL,q0,q1,q2,q3]
     refine Dt 4 3 (fun K f=>?_);simp only [ax,q4,q5,q6,q7];go_simp
     go_at_call 40
     refine (fQ_at _ (I i) L _ (A3.keep0 (aa J aA)) O (HT.keep0 (aa G0 (aa s (aa J aA))))).mono ?_;rintro e F ⟨rfl,g5⟩;have N:=ab (aa aA g5);clear g5 hHeld t p;have B5:=ab (B4.keep N Z);have O5:=ab (O4.keep0 N);have X5:=ab (XC.k0 N);have p:=X5.out;have t:=B5.out.cells;have hf:Hid (a.heap.size<F.heap.size):=B5.out.lt;go_wp2_with fail;refine bkL f (fun hHeld=>?_);clear f K;try simp only [pA,pL,vA,vL,q0,q1,q2,q3]
     refine Dt 3 4 (fun K f=>?_);simp only [ax,q4,q5,q6,q7];go_simp
     refine bkL f (fun hHeld=>?_);clear f K;try simp only [pA,pL,vA,vL,q0,q1,q2,q3]
     refine Dt 2 5 (fun K f=>?_);refine ib sv 43 (sv ⟨#[]⟩) 16 _ rfl (.tmp 31) (.tmp 34) 26 rfl (a.heap.size+1) Tryz.underlying26 Tryz.infoQ rfl (.slice D i E) (bB I i) rfl (O5.keep0 (ag (ae _ _) _)) ⟨F.heap.size,0,none⟩ 1 1 [⟨(bQ (I i)).toArray⟩] rfl rfl (fun j u hj=>?_) (fun y=>rfl) (by rw [aK];omega) O (by have:=hf.out;simp;omega) ?_
     ·match j with
      | 0 =>
       simp only [List.map_cons,List.getElem?_cons_zero,zI] at hj;subst hj;simp [Addr.add,World.cell?_alloc_new,sv]
      | j+1=>simp at hj
     intro ao cap w6 d M;have HN:Hid (some a.heap.size≠(Value.slice D i E).ownBlock):=fun e=>by have:=(O5.fresh _ e.symm).1;omega
     have hl:Hid (some gx≠(Value.slice D i E).ownBlock):=fun e=>by have:=(q.fresh _ e.symm).2;have:=he.out;omega
     have P:(F.alloc (Obj.cells #[sv ⟨(bQ (I i)).toArray⟩] 43)).grownBy w6 (Value.slice D i E).ownBlock:=M;have B6:=ab ((B5.keep (ag (ae F none) _) Z).keep P HN);have O6:Hid (cW sv 43 w6 (a.heap.size+1) (.slice ao (i+1) cap) (bB I (i+1))):=by
      rw [nI];rw [aK] at d;exact d
     have X6:=ab ((X5.k0 (ag (ae F none) (Obj.cells #[sv ⟨(bQ (I i)).toArray⟩] 43))).k P hl);have G6:Hid (a.grownBy w6 none):=by
      refine aw (r:=none) (aa s (aa J (aa N (ag (ae F none) _)))) P (fun _ _ e=>e) (fun b hb e=>?_);have:=(O5.fresh b e.symm).1;omega
     clear d M P t p hHeld;obtain ⟨hs,hu,hC,hD⟩:=B6.out.cells;have p:=X6.out;rw [aK];refine bkL f (fun hHeld=>?_) (hS:=⟨by exact hu,p.1,p.2.1,p.2.2⟩);clear f K;try simp only [pA,pL,vA,vL,q0,q1,q2,q3]
     refine tkL 1 [(6,36,.pointer (some ⟨a.heap.size,1,none⟩))] ?_;try simp only [pA,pL,vA,vL,q0,q1,q2,q3]
     refine Dt 0 7 (fun K f=>?_);simp only [ax,q4,q5,q6,q7];go_simp
     refine bkT f ?_;clear f K;try simp only [pA,pL,vA,vL,q0,q1,q2,q3]
     refine endL ?_;clear hHeld p;go_wp2;go_roundw
     case rel=>exact ⟨i+1,_,O,zN,B6.set1 _,O6.keepB (aq (ae _ _)) (Nat.lt_succ_self _),ah G6 _ _ zL⟩
     case measure=>simp [intOf];omega
    ·obtain rfl:k=i:=O
     obtain ⟨r0,r1,r2,r3⟩:=(RB.keep s Z).cells;obtain ⟨s0,s1,_⟩:=t;obtain ⟨hv,hw,rfl⟩:=q.out.shape;rw [aK] at q s1;have R2:Hid (∀ v1 v2:Value,aI wr ((wr.setCell ⟨w.heap.size+1,0,none⟩ v1).setCell ⟨w.heap.size+1,1,none⟩ v2) (w.heap.size+1)):=fun v1 v2=>zn (RB.keep s Z) rfl (fun z=>Z) (fun z=>Z) v1 v2
     go_wp2;refine bodyPost_ret (v:=.agg #[.slice hp n hq,.slice hv k hw]) (by simp [results,Tryz.results19,go_sem,s0,s1,r0,r1]) rfl ?_;have hr:=R2.out (.slice hp n hq) (.slice hv k hw);refine ⟨_,_,rfl,⟨_,_,rfl⟩,aw (r:=none) (aa G0 s) hr.1 (fun _ _ e=>e) (fun b hb e=>by have:=zJ e;omega),?_⟩;have hz:=hx.out;have o:=q.out.keepB hr.1 O;exact ⟨o.1,o.2.imp id (fun ⟨g,cap,hE,e,hb,r⟩=>⟨g,cap,hE,e,O,r⟩)⟩
open Go.RowKit Go.Lib
def QFit (q:Rat) (L:Nat):Prop:=rN q<4294967296^L/\q.den<4294967296^L
theorem FQ.fit {q:Rat} (h:FQ w v q L) (d:0<L):QFit q L:=by
 obtain ⟨up,a,e,b,c,f,g⟩:=h;refine ⟨kB b,?_⟩;rcases c with ⟨_,hd⟩ | ⟨hd,_⟩
 ·rw [hd];exact Nat.one_lt_pow O zD
 ·exact kB hd
open Go Go.RowKit
attribute [local simp] bX im dR
attribute [local go_sem] Oper.semAt_some
def wK (n:Nat) (ps:List aD) (k:Nat):Prop:=¬ ∃ V I,bD n (bh (iY ps k) ps) V I/\(∀ i,i<ps.length->mG ps V I i)/\∀ V' I',bD n (bh (iY ps k) ps) V' I'->(∀ j,j<n->V j=V' j)/\∀ i,i<ps.length->I i=I' i
theorem Dk (h:(¬ ∃ V I,bD n (bh (iY ps k) ps) V I)∨∃ V I V' I',bD n (bh (iY ps k) ps) V I/\bD n (bh (iY ps k) ps) V' I'/\((∃ j,j<n/\V j≠V' j)∨∃ i,i<ps.length/\I i≠I' i)):wK n ps k:=by
 rintro ⟨V,I,s,_,u⟩;rcases h with h | ⟨V1,I1,V2,I2,s1,s2,h⟩
 ·exact h ⟨V,I,s⟩
 ·obtain ⟨a1,b1⟩:=u _ _ s1;obtain ⟨a2,b2⟩:=u _ _ s2;rcases h with ⟨j,hj,h⟩ | ⟨i,hi,h⟩
  ·exact h ((a1 j hj).symm.trans (a2 j hj))
  ·exact h ((b1 i hi).symm.trans (b2 i hi))
theorem Dj (d:cD n ps) {V:Nat->Rat} (s:bD n (bh (iY ps k) ps) V I) (h:¬ ∀ i,i<ps.length->mG ps V I i):wK n ps k:=by
 rintro ⟨o,I',_,f,u⟩;obtain ⟨a,b⟩:=u _ _ s;refine h fun i hi c m=>?_
 obtain ⟨e,g,p,q,j,l,_,_,ha,hb,_⟩:=d.ends _ (List.getElem_mem c);have:=f i hi c m;rw [j,l] at this ⊢;rw [Int.toNat_natCast,Int.toNat_natCast] at this ⊢;rw [<- a e ha,<- a g hb,<- b i hi];exact this
theorem dU (h:wE ps k x A) (hg:A.grownBy B row) (a:∀ r,row=some r->∃ o:Obj,A.heap[r]? = some o/\o.isCells=false):wE ps k x B:=by
 obtain ⟨g,e,hc⟩:=h;refine ⟨g,e,fun i hi=>?_⟩;have c:=hc i hi;refine hg.cell c ?_;intro b;obtain ⟨o,d,hn⟩:=a _ b.symm;unfold World.cell? at c;simp only [d] at c;cases o<;>simp_all [Obj.isCells]
theorem sP {b:Nat} {u:Value} (h:wE ps k x A) (hg:A.grownBy B (some b)) (hb:A.cell? ⟨b,0,none⟩=some u) (a:∀ t,u≠.bool t):wE ps k x B:=by
 obtain ⟨g,e,hc⟩:=h;refine ⟨g,e,fun i hi=>hg.cell (hc i hi) ?_⟩;intro f;have d:g=b:=zJ f;have c:=hc 0 O;rw [d,hb] at c;exact a _ (zJ c)
theorem wE.bo {W:World} (h:wE ps k x W) (a:ps.length<=16):BoAt W x ps.length (iY ps k):=by
 obtain ⟨g,e,c⟩:=h;exact ⟨_,_,e,zL,by unfold maxLen;omega,fun i hi=>⟨g,0,rfl,by rw [Nat.zero_add];exact c i hi⟩⟩
theorem fR.oth {b b' i:Nat} {T:TypeId} {u:Value} (h:fR w b T u v) (x:Value) (hn:b≠b'):fR (w.setCell ⟨b',i,none⟩ x) b T u v:=h.keep (aq (ae w _)) (fun e=>hn (zJ e))
theorem lI.oth {b b' i:Nat} {T:TypeId} {u:Value} (h:lI w b T u) (x:Value) (hn:b≠b'):lI (w.setCell ⟨b',i,none⟩ x) b T u:=h.keep (aq (ae w _)) (fun e=>hn (zJ e))
theorem xh (h:w.grownBy A none) (k:A.grownBy B row) (a:∀ r,row=some r->w.heap.size<=r):w.grownBy B none:=fM h k a
theorem AZ {α:Type} {f:α->Value} {t:TypeId} {xs:List α} (h:cW f t A base v xs) (hg:A.grownBy B row) (g:∀ r,row=some r->∃ o:Obj,A.heap[r]? = some o/\o.isCells=false):cW f t B base v xs:=by
 refine h.keep hg ?_;cases hv:v.ownBlock with
 | none=>exact .inl rfl
 | some b =>
  right
  intro e;obtain ⟨o,c,hn⟩:=g _ e.symm;rcases h.2 with ⟨a,_⟩ | ⟨j,d,i,a,_,hh,_⟩
  ·rw [a] at hv;cases hv
  ·rw [a] at hv;cases hv
   rw [hh] at c;cases c
   cases hn
theorem cR (w:World) (T:TypeId) (u v:Value):fR (w.alloc (Obj.cells #[u,v] T)) w.heap.size T u v:=heap_alloc_new _ _
theorem sj (w:World) (T:TypeId) (v:Value):lI (w.alloc (Obj.cells #[v] T)) w.heap.size T v:=heap_alloc_new _ _
theorem tS {P:Program} {f:FuncId} {a:Func} {c:Code} {args:Array Value} {R:Ending->World->Prop} (n:Nat) (b:P.funcs[f]? = some a) (hb:a.body=some c)
  (h:c.wp P (bodyPostM Fence.wide n P a R) { tmps:=args++Array.replicate (a.ntmps-args.size) undef,defers:=[] } w):Calls P f args w R :=
 (callsIn_wide (n:=n)).1 (callsIn_of_wp_marks b hb trivial (wpIn_wide.2 h))
theorem Bg {M:Nat} (h:di w base v n R L) (d:0<L) (f:L<=M):∀ i,i<n->bg M (R i):=by
 obtain ⟨m,c,e,o,p,j⟩:=h;intro i hi;obtain ⟨g,_,_,fr⟩:=j O;obtain ⟨q,r,s,t,u,y,z,C,D,l,_⟩:=fr.at i hi;have a:=l.fit d;have b:(4294967296:Nat)^L<=4294967296^M:=Nat.pow_le_pow_right zD f;exact ⟨Nat.lt_of_lt_of_le a.1 b,Nat.lt_of_lt_of_le a.2 b⟩
def BI (n:Nat) (ps:List aD) (I:Nat->Rat) (k:Nat):Prop:=∃ V,k<2^(bu ps ps.length).length/\bD n (bh (iY ps k) ps) V I/\(∀ i,i<ps.length->mG ps V I i)/\(∀ j,j<k->wK n ps j)/\∀ i,i<ps.length->bg 49000000 (I i)
def DxE (w:World) (n:Nat) (ps:List aD) (e:Ending) (w':World):Prop :=
 ∃ u v jv c d,e=.returned (.tuple #[.agg #[u,v],jv,.agg #[.int .i64 c,.int .i64 d]])/\w.grownBy w' none/\(∃ o l c,u=.slice o l c)
  /\ ((c=0/\∃ I k,BI n ps I k/\wE ps k jv w'/\cW sv 43 w' w.heap.size v (bB I ps.length))
   ∨ (c=7/\v=.slice none 0 0/\∀ j,j<2^(bu ps ps.length).length->wK n ps j))
theorem m8.form {a:Value} {b:Option Addr} {c:Nat} (h:m8 w a n b c ps L):∃ go gj gf gn,a=.func (.func 34) #[] #[.pointer (some ⟨go,0,none⟩),.pointer (some ⟨gj,0,none⟩),.pointer (some ⟨gf,0,none⟩),.pointer (some ⟨gn,0,none⟩)]:=by
 obtain ⟨go,gj,gf,gn,_,_,_,_,_,_,_,_,_,e,_⟩:=h;exact ⟨go,gj,gf,gn,e⟩
theorem ansJ_of {a b gf c:Nat} {d:Option Addr} {f:Nat} (h:m8 w (.func (.func 34) #[] #[.pointer (some ⟨a,0,none⟩),.pointer (some ⟨b,0,none⟩),.pointer (some ⟨gf,0,none⟩),.pointer (some ⟨c,0,none⟩)]) n d f ps L)
  (jv:Value) (k:Nat) (hp:aR w (.slice d ps.length f) ps) (hR:cD n ps) (hj:BoAt w jv ps.length (iY ps k)) (hq:∀ p∈ps,p.kind=8->p.q=0) (hLs:iq (cU n ps) (n+ps.length)<L) (hL:L<=49000000) :
  Calls Tryz.prog 34 #[jv,.pointer (some ⟨a,0,none⟩),.pointer (some ⟨b,0,none⟩),.pointer (some ⟨gf,0,none⟩),.pointer (some ⟨c,0,none⟩)] w fun e H=>AnJE w n ps (iY ps k) L e H:=by
 obtain ⟨m,o,r,s,base,v,t,u,g,fl,fc,j,l,e,y,z,C,D,E,F,G⟩:=h;simp at e;obtain ⟨rfl,rfl,rfl,rfl⟩:=e;refine ansJ_at n d f ps (iY ps k) jv a b gf c base v t u g fl fc j l L w y z C D E F G hp hR hj (fun i h hi=>?_) hq hLs hL;unfold iY at hi;rw [Bool.and_eq_true,decide_eq_true_eq,zX h] at hi;simpa using hi.1
theorem pw (h:A.grownBy B none):KeepsOthers A B:=KeepsOthers.of_grownBy h nofun
def IxD (w:World) (n:Nat) (ps:List aD) (W:World):Prop:=w.grownBy W none/\∃ u v jv I k,(∃ o l c,u=.slice o l c)/\fR W (w.heap.size+1) 28 u v/\lI W (w.heap.size+1+1) 29 jv/\fR W (w.heap.size+1+1+1) 32 (.int .i64 0) (.int .i64 0)/\BI n ps I k/\wE ps k jv W/\cW sv 43 W w.heap.size v (bB I ps.length)
theorem IxD.other {m:Nat} (h:IxD w n ps A) (hg:A.grownBy B row) (l:w.heap.size<=m) (d:∀ r,row=some r->m<=r/\∃ o:Obj,A.heap[r]? = some o/\o.isCells=false):IxD w n ps B:=by
 obtain ⟨p,u,v,q,I,k,s,f,g,i,t,y,C⟩:=h;have a:∀ b (c:Array Value) T z,A.heap[b]? = some (Obj.cells c T z)->some b≠row:=by
  intro b c T z hb e;obtain ⟨_,o,j,hn⟩:=d _ e.symm;rw [hb] at j;cases j
  cases hn
 exact ⟨xh p hg fun r e=>Nat.le_trans l (d r e).1,u,v,q,I,k,s,f.keep hg (a _ _ _ _ f),g.keep hg (a _ _ _ _ g),i.keep hg (a _ _ _ _ i),t,dU y hg (fun r e=>(d r e).2),AZ C hg fun r e=>(d r e).2⟩
theorem qO (n:Nat) (f:Option Addr) (m:Nat) (ps:List aD) (L:Nat) (w:World) (hb:lJ w) (ht:fT w) (hp:aR w (.slice f ps.length m) ps) (hc:(bL (n:Int) ps).1=0)
  (hs:∀ p∈ps,p.v.size+2<=L) (hLs:iq (cU n ps) (n+ps.length)<L) (hL:L<=49000000) (hL2:2<=L) :
  Calls Tryz.prog 5 #[.agg #[.int .i64 (n:Nat),.slice f ps.length m]] w fun e w'=>DxE w n ps e w':=by
 obtain ⟨hR,kc,hl,hD,hx⟩:=qS hc;clear kc;rw [Int.toNat_natCast] at hR;have N:=qv hc;have hq:∀ p∈ps,p.kind=8->p.q=0:=by
  intro p hp h8;rcases hD p hp with h | h | h | h
  ·omega
  ·omega
  ·omega
  ·exact h.2
 have HB:=ab hb;have HT:=ab ht;have HP:=ab hp;have HC:=ab N;have HS:=ab hs;have hM:=ab hLs;have HR:=ab hR;have HQ:=ab hq;have hN:=ab hx;clear hb ht hp N hs hLs hR hD hq hx hc;obtain ⟨W,hW⟩:=eX ((((w.alloc (Obj.cells #[.int .i64 (n:Nat),.slice f ps.length m] 24)).alloc (Obj.cells #[.slice none 0 0,.slice none 0 0] 28)).alloc (Obj.cells #[.slice none 0 0] 29)).alloc (Obj.cells #[.int .i64 0,.int .i64 0] 32));have z:Hid (w.grownBy W none):=by rw [hW];exact ag (ag (ag (ag (ae _ _) _) _) _) _
 refine tS 5 Tryz.func5 rfl ?_;simp only [Tryz.ntmps5,List.size_toArray,List.length_cons,List.length_nil,Nat.reduceAdd,Nat.reduceSub,Array.replicate_succ,Array.replicate_zero,List.push_toArray,List.append_toArray,List.nil_append,List.cons_append];go_upto_region 1 with fail;rw [<- hW];have S:Hid (∀ wx,W.grownBy wx none->dR wx w.heap.size (.int .i64 (n:Nat)) (.slice f ps.length m)):=by
  intro wx hg;exact dR.k0 (w:=W) (by rw [hW];exact ⟨zG,zG⟩) hg
 have NA:Hid (fR W (w.heap.size+1) 28 (.slice none 0 0) (.slice none 0 0)):=by
  have h:=cR (w.alloc (Obj.cells #[.int .i64 (n:Nat),.slice f ps.length m] 24)) 28 (.slice none 0 0) (.slice none 0 0);rw [World.size_alloc] at h;rw [hW];exact h.keep (ag (ag (ae _ none) _) _) Z
 have NB:Hid (lI W (w.heap.size+1+1) 29 (.slice none 0 0)):=by
  have h:=sj ((w.alloc (Obj.cells #[.int .i64 (n:Nat),.slice f ps.length m] 24)).alloc (Obj.cells #[.slice none 0 0,.slice none 0 0] 28)) 29 (.slice none 0 0);rw [World.size_alloc,World.size_alloc] at h;rw [hW];exact h.keep (ag (ae _ none) _) Z
 have NF:Hid (fR W (w.heap.size+1+1+1) 32 (.int .i64 0) (.int .i64 0)):=by
  have h:=cR (((w.alloc (Obj.cells #[.int .i64 (n:Nat),.slice f ps.length m] 24)).alloc (Obj.cells #[.slice none 0 0,.slice none 0 0] 28)).alloc (Obj.cells #[.slice none 0 0] 29)) 32 (.int .i64 0) (.int .i64 0);rw [World.size_alloc,World.size_alloc,World.size_alloc] at h;rw [hW];exact h
 have SW:W.heap.size=w.heap.size+4:=by rw [hW];simp
 clear hW;have hf:=ab SW;clear SW;obtain ⟨Y,n1⟩:=S.out W (ae _ _);go_wp2_with fail;refine (qN (n:Int) f m ps W (HB.keep z) (HP.keep z)).mono ?_;rintro e w1 ⟨rfl,g1⟩;rw [HC];have G1:=ab g1;obtain ⟨n2,n3⟩:=S.out w1 g1;clear g1 Y n1;go_upto_region 4 with fail;refine dq (fun wx=>W.grownBy wx none) (ag G1 _) ?_;intro w2 g2;have G2:=ab g2;clear n2 n3;obtain ⟨Y,n1⟩:=S.out w2 g2;obtain ⟨mm,hy⟩:=(HB.keep (aa z g2)).2.1;clear g2 G1;go_wp2_with fail;refine (wO n f m ps mm L w2 hy (HP.keep (aa z G2)) O HQ HS O hL2).mono ?_;rintro e w3 ⟨fv,rfl,a3,g3⟩;have A3:=ab a3;have G3:=ab (aa G2 g3);obtain ⟨go,gj,gf,hz,ef⟩:=a3.form;clear a3;subst ef;clear g3 hy Y n1 G2;have sf:∀ (n:Nat) (c:Array Value) (a:Addr) (wx:World),(store a (.func (.func n) #[] c)).run Tryz.prog wx=stored Tryz.prog wx a (.func (.func n) #[] c) .plain:=fun n c a wx=>run_store _ _ _ _ _ rfl
 go_upto_region 5 with fail;clear sf;obtain ⟨fv,he⟩:=eX (Value.func (.func 34) #[] #[.pointer (some ⟨go,0,none⟩),.pointer (some ⟨gj,0,none⟩),.pointer (some ⟨gf,0,none⟩),.pointer (some ⟨hz,0,none⟩)]);refine dq (fun wx=>W.grownBy wx none/\m8 wx fv n f m ps L/\lI wx w3.heap.size 53 fv) ?_ ?_
 ·rw [he];exact ⟨ag G3 _,A3.keep0 (ag (ae _ _) _),sj _ _ _⟩
 rintro w4 ⟨g4,a4,b4⟩;have S4:Hid (W.heap.size<=w3.heap.size):=G3.out.size;obtain ⟨b6,hC⟩:=eX w3.heap.size;rw [<- hC] at b4 S4 ⊢;have G4:=ab g4;have A4:=ab a4;have B4:=ab b4;have hm:=ab he;clear g4 a4 b4 A3 G3 hC he;obtain ⟨Y,n1⟩:=S.out w4 G4;go_wp2_with fail;refine (Bo n f m ps w4 (HP.keep (aa z G4)) O).mono ?_;rintro e w5 ⟨ko,rfl,⟨gd,gn,vd,rfl,d1,d2,d3⟩,g5⟩;have t:=ab (aa G4 g5);have A5:=ab (A4.keep0 g5);have B5:=ab (B4.keep g5 Z);have S5:Hid (b6<w5.heap.size):=B5.out.lt;have D1:=ab d1;have D2:=ab d2;have D3:=ab d3;clear g5 d1 d2 d3 A4 B4 G4 Y n1;go_wp2_with fail;refine wpIn_wide.1 (?_:Code.wpIn Fence.wide 5 ..);refine Bb (gf:=37) (lb:=#[.pointer (some ⟨gd,0,none⟩),.pointer (some ⟨gn,0,none⟩)]) rfl O rfl trivial ?enters (wE ps) (fun k x A B row h hg hr=>dU h hg hr) (2^(bu ps ps.length).length) w5.heap.size zL ?seq
  (fun k wx=>w5.grownBy wx none/\∀ j,j<k->wK n ps j) (IxD w n ps)
  (fun k A B row h hg hr=>⟨xh h.1 hg hr,h.2⟩) (fun A B row h hg hr=>h.other hg ?ge hr) ⟨ae _ _,fun j h=>O⟩
  (fun x=>{ tmps:=#[.agg #[.int .i64 (n:Nat),.slice f ps.length m],.pointer (some ⟨w.heap.size,0,none⟩),.pointer (some ⟨w.heap.size+1,0,none⟩),.pointer (some ⟨w.heap.size+1+1,0,none⟩),.pointer (some ⟨w.heap.size+1+1+1,0,none⟩),.pointer (some ⟨w1.heap.size,0,none⟩),.pointer (some ⟨b6,0,none⟩),x,undef,undef,.agg #[.int .i64 (n:Nat),.slice f ps.length m],.agg #[.int .i64 0,.int .i64 0],.pointer (some ⟨w1.heap.size,0,none⟩),.int .i64 0,.bool false,undef,undef,.agg #[.int .i64 (n:Nat),.slice f ps.length m],.func (.func 34) #[] #[.pointer (some ⟨go,0,none⟩),.pointer (some ⟨gj,0,none⟩),.pointer (some ⟨gf,0,none⟩),.pointer (some ⟨hz,0,none⟩)],.agg #[.int .i64 (n:Nat),.slice f ps.length m],.func (.func 37) #[] #[.pointer (some ⟨gd,0,none⟩),.pointer (some ⟨gn,0,none⟩)],x,undef,undef,undef,undef,undef,undef,undef,undef,undef,undef,undef,undef,undef,undef,undef,undef,undef,undef],defers:=[] }) ?assign ?body ?done ?stop
 case enters =>
  intro args wx;exact enters_of Tryz.func37 zK rfl args wx
 case ge=>exact Nat.le_trans z.size t.size
 case seq =>
  intro l J Jx H kb hJ hY h0;exact callsIn_wide.2 (vN l _ n gd gn f m ps _ J Jx w5 H D1 D2 D3 hN hl kb hJ hY h0)
 case assign =>
  rintro l k x H K ⟨g,rfl,_⟩ hK;gi_wp2
  exact hK
 case body =>
  rintro l k x H ⟨gx,o⟩ hd hk;obtain ⟨Y,n1⟩:=S.out H (aa t gx);have BO:=ab (hd.bo hl);have hQ:=ab hd;have d:=ab gx;have NO:=ab o;obtain ⟨g,rfl,_⟩:=hd;have A6:=ab (A5.keep0 gx);have ho:=(lI.cells (B5.keep gx Z)).1;rw [hm] at ho;clear gx o A5 B5;rw [hm] at A6;gi_wp2
  refine ⟨trivial,(CallsIn.inRound l (callsIn_wide.2 (ansJ_of A6 _ k (HP.keep (aa z (aa t d))) HR BO HQ hM hL))).mono ?_⟩;rintro e C ⟨v1,v2,b,rfl,g7,hb⟩;have G7:=ab g7;obtain ⟨n2,n3⟩:=S.out C (aa t (aa d g7));clear Y n1 ho g7 A6 BO;rcases hb with ⟨rfl,V,I,r1,r2,Q⟩ | ⟨rfl,rfl,rfl,o⟩
  ·have hv:=ab Q;have FT:Hid (∀ i,i<ps.length->bg 49000000 (I i)):=fun i hi=>Bg r2 O hL i hi
   have R1:=ab r1;have R2:=ab r2;obtain ⟨o1,c1,rfl,_⟩:=r1;obtain ⟨o2,c2,rfl,_⟩:=r2;clear Q;obtain ⟨M,y⟩:=eX (Obj.cells #[.slice o1 n c1,.slice o2 ps.length c2] 60);have p8:=S.out (C.alloc M) (ag (aa t (aa d G7)) _);rw [y] at p8;obtain ⟨p0,p1⟩:=p8;gi_wp2
   rw [<- y];have B8:Hid (fR (C.alloc M) C.heap.size 60 (.slice o1 n c1) (.slice o2 ps.length c2)):=by rw [y];exact cR _ _ _ _
   have P:=ab (ag G7 M);have E:=ab (R1.keep0 (ag (ae C none) M));have F:=ab (R2.keep0 (ag (ae C none) M));have S8:Hid (C.heap.size<(C.alloc M).heap.size):=by show _<_;simp
   clear p0 p1 n2 n3 R1 R2 y;obtain ⟨b8,hE⟩:=eX C.heap.size;have T:=ab (aa d P);obtain ⟨w8,hG⟩:=eX (C.alloc M);rw [<- hG] at B8 P E F S8 T ⊢;rw [<- hE] at B8 S8 ⊢;clear hG hE;refine ⟨trivial,(CallsIn.inRound l (callsIn_wide.2 (Cf n f m ps V I _ _ _ _ L w8 E F (HP.keep (aa z (aa t T))) HR O))).mono ?_⟩;rintro e w9 ⟨b,rfl,g9,hb⟩;have hw:=ab hb;have G9:=ab (aa P g9);have U:=ab (aa d G9);obtain ⟨q0,q1,_⟩:=fR.cells (B8.keep g9 Z);have hS:=ab (E.keep0 g9);have hT:=ab (F.keep0 g9);clear hb g9 E F P T B8;cases b with
   | false =>
    gi_wp2
    exact ⟨pw G9,(lW G9).mono d.size,U,fun j hj=>by
     rcases Nat.lt_or_ge j k with h | h
     ·exact NO j h
     ·have e:j=k:=O
      rw [e];exact Dj HR hv (fun h=>by have:=hw.out.2 h;cases this)⟩
   | true =>
    gi_wp2
    refine ⟨trivial,(CallsIn.inRound l (callsIn_wide.2 (Cg n ps.length V I _ _ _ _ L w9 hS hT (by have:=HR.out.hi;omega) O O (HT.keep0 (aa z (aa t U)))))).mono ?_⟩;rintro e hH ⟨_,v,rfl,⟨ua,uc,rfl⟩,hI,ov⟩;have G:=ab (aa G9 hI);have OV:=ab ov;obtain ⟨oa,oc,rfl⟩:=ov.shape;have X:=aa t (aa d G);have XA:=ab (NA.keep X Z);have XB:=ab (NB.keep X Z);have XF:=ab (NF.keep X Z);obtain ⟨a0,a1,a2,a3⟩:=XA.out.cells;obtain ⟨f0,f1,f2,f3⟩:=XF.out.cells;obtain ⟨t0,t1⟩:=XB.out.cells;clear X hI ov q0 q1;gi_wp2
    have X:=aa z (aa t (aa d G));have l1:w.heap.size<=hH.heap.size:=X.size;have hX:=pw G;have l9:w.heap.size+4<=w9.heap.size:=by
     have h1:=hf.out;have h2:=t.out.size;have h3:=U.out.size;omega
    have k1:w.heap.size<=w.heap.size+1:=O
    have k2:w.heap.size<=w.heap.size+1+1:=O
    have k3:w.heap.size<=w.heap.size+1+1+1:=O
    have ov:=((((OV.keepB (aq (g:=w.heap.size+1) (i:=0) (v:=.slice ua n uc) (ae _ _)) O).keepB (aq (g:=w.heap.size+1) (i:=1) (v:=.slice oa (bB I ps.length).length oc) (ae _ _)) O).keepB (aq (g:=w.heap.size+1+1) (i:=0) (v:=.slice (some ⟨g,0,none⟩) ps.length ps.length) (ae _ _)) O).keepB (aq (g:=w.heap.size+1+1+1) (i:=0) (v:=.int .i64 0) (ae _ _)) O).keepB (aq (g:=w.heap.size+1+1+1) (i:=1) (v:=.int .i64 0) (ae _ _)) O;refine ⟨(((((hX.trans (KeepsOthers.setCell _ _ _)).trans (KeepsOthers.setCell _ _ _)).trans (KeepsOthers.setCell _ _ _)).trans (KeepsOthers.setCell _ _ _)).trans (KeepsOthers.setCell _ _ _)),ah (ah (ah (ah (ah X _ _ k1) _ _ k1) _ _ k2) _ _ k3) _ _ k3,.slice ua n uc,.slice oa (bB I ps.length).length oc,.slice (some ⟨g,0,none⟩) ps.length ps.length,I,k,⟨_,_,_,rfl⟩,?_,?_,?_,⟨V,hk,hv,hw.1 Z,NO,FT⟩,?_,ov.1,ov.2.imp id (fun ⟨g,cap,kk,e,hb,r⟩=>⟨g,cap,kk,e,O,r⟩)⟩
    ·exact ((((XA.set0 _).set1 _).oth _ O).oth _ O).oth _ O
    ·exact ((((XB.oth _ O).oth _ O).set _).1.oth _ O).oth _ O
    ·exact ((((XF.oth _ O).oth _ O).oth _ O).set0 _).set1 _
    ·have d0:=dU hQ G nofun;have d1:=sP d0 (aq (i:=1) (v:=.slice oa (bB I ps.length).length oc) (aq (i:=0) (v:=.slice ua n uc) (ae hH (some (w.heap.size+1))))) XA.cells.1 nofun;have d2:=sP d1 (aq (i:=0) (v:=.slice (some ⟨g,0,none⟩) ps.length ps.length) (ae _ (some (w.heap.size+1+1)))) (lI.cells ((XB.oth (i:=0) (b':=w.heap.size+1) (.slice ua n uc) O).oth (i:=1) (b':=w.heap.size+1) (.slice oa (bB I ps.length).length oc) O)).1 nofun;exact sP d2 (aq (aq (ae _ (some (w.heap.size+1+1+1))))) (fR.cells (((XF.oth (i:=0) (b':=w.heap.size+1) (.slice ua n uc) O).oth (i:=1) (b':=w.heap.size+1) (.slice oa (bB I ps.length).length oc) O).oth (i:=0) (b':=w.heap.size+1+1) (.slice (some ⟨g,0,none⟩) ps.length ps.length) O)).1 nofun
  ·have ka:=ab (Dk o);clear o;gi_wp2
   refine ⟨trivial,?_⟩;gi_wp2
   obtain ⟨M,y⟩:=eX (Obj.cells #[.slice none 0 0,.slice none 0 0] 60);rw [<- y];have P:=ag G7 M;exact ⟨pw P,(lW P).mono d.size,aa d P,fun j hj=>by
    rcases Nat.lt_or_ge j k with h | h
    ·exact NO j h
    ·have:j=k:=O
     rw [this];exact ka⟩
 case done =>
  rintro D H hD ⟨gx,o⟩ s;have d:=ab (aa t gx);have NO:=ab o;have DF:=ab s;obtain ⟨a0,a1,a2,a3⟩:=fR.cells (NA.keep d Z);obtain ⟨f0,f1,f2,f3⟩:=fR.cells (NF.keep d Z);obtain ⟨t0,t1⟩:=lI.cells (NB.keep d Z);clear gx o s;go_wp2;have k1:w.heap.size<=w.heap.size+1:=O
  have k2:w.heap.size<=w.heap.size+1+1:=O
  have k3:w.heap.size<=w.heap.size+1+1+1:=O
  have kl:w.heap.size+4<=D:=by
   have h1:=hf.out;have h2:=t.out.size;omega
  have hA:=((((((NA.keep d Z).set0 (.slice none 0 0)).set1 (.slice none 0 0)).oth (i:=0) (b':=w.heap.size+1+1) (.slice none 0 0) O).oth (i:=0) (b':=w.heap.size+1+1+1) (.int .i64 7) O).oth (i:=1) (b':=w.heap.size+1+1+1) (.int .i64 0) O);have hB:=((((((NB.keep d Z).oth (i:=0) (b':=w.heap.size+1) (.slice none 0 0) O).oth (i:=1) (b':=w.heap.size+1) (.slice none 0 0) O).set (.slice none 0 0)).1.oth (i:=0) (b':=w.heap.size+1+1+1) (.int .i64 7) O).oth (i:=1) (b':=w.heap.size+1+1+1) (.int .i64 0) O);have hF:=((((((NF.keep d Z).oth (i:=0) (b':=w.heap.size+1) (.slice none 0 0) O).oth (i:=1) (b':=w.heap.size+1) (.slice none 0 0) O).oth (i:=0) (b':=w.heap.size+1+1) (.slice none 0 0) O).set0 (.int .i64 7)).set1 (.int .i64 0));have hW:=ah (ah (ah (ah (ah (aa z d) ⟨w.heap.size+1,0,none⟩ (.slice none 0 0) k1) ⟨w.heap.size+1,1,none⟩ (.slice none 0 0) k1) ⟨w.heap.size+1+1,0,none⟩ (.slice none 0 0) k2) ⟨w.heap.size+1+1+1,0,none⟩ (.int .i64 7) k3) ⟨w.heap.size+1+1+1,1,none⟩ (.int .i64 0) k3;have hK:=(((((KeepsOthers.setCell H ⟨w.heap.size+1,0,none⟩ (.slice none 0 0)).trans (KeepsOthers.setCell _ ⟨w.heap.size+1,1,none⟩ (.slice none 0 0))).trans (KeepsOthers.setCell _ ⟨w.heap.size+1+1,0,none⟩ (.slice none 0 0))).trans (KeepsOthers.setCell _ ⟨w.heap.size+1+1+1,0,none⟩ (.int .i64 7))).trans (KeepsOthers.setCell _ ⟨w.heap.size+1+1+1,1,none⟩ (.int .i64 0))).same _ _ DF rfl
  generalize (((((H.setCell ⟨w.heap.size+1,0,none⟩ (.slice none 0 0)).setCell ⟨w.heap.size+1,1,none⟩ (.slice none 0 0)).setCell ⟨w.heap.size+1+1,0,none⟩ (.slice none 0 0)).setCell ⟨w.heap.size+1+1+1,0,none⟩ (.int .i64 7)).setCell ⟨w.heap.size+1+1+1,1,none⟩ (.int .i64 0))=W6 at hA hB hF hW hK ⊢;have hg:=grownBy_putObj' W6 D (Obj.deferred none);refine ⟨Z,.inl ⟨_,_,rfl,run_takeDeferred hK,?_⟩⟩;obtain ⟨a0,a1,_⟩:=fR.cells (hA.keep hg (fun e=>by have:=zJ e;omega));obtain ⟨t0,_⟩:=lI.cells (hB.keep hg (fun e=>by have:=zJ e;omega));obtain ⟨f0,f1,_⟩:=fR.cells (hF.keep hg (fun e=>by have:=zJ e;omega));exact ⟨.tuple #[.agg #[.slice none 0 0,.slice none 0 0],.slice none 0 0,.agg #[.int .i64 7,.int .i64 0]],by simp [results,Tryz.results5,go_sem,a0,a1,f0,f1,t0],_,_,_,7,0,rfl,xh hW hg (fun r e=>by cases e;omega),⟨_,_,_,rfl⟩,.inr ⟨rfl,rfl,NO⟩⟩
 case stop =>
  rintro D H hD kf s;refine wpIn_wide.2 ?_;go_wp2;have hg:=grownBy_putObj' H D (Obj.deferred none);obtain ⟨hg,u,v,jv,I,k,hu,h1,h2,h3,h4,h6,h5⟩:=kf.other hg (Nat.le_trans (Nat.le_trans z.size t.size) hD) (fun r e=>by cases e;exact ⟨zL,_,s,rfl⟩);refine ⟨Z,.inl ⟨_,_,rfl,run_takeDeferred s,?_⟩⟩;obtain ⟨a0,a1,_⟩:=h1.cells;obtain ⟨f0,f1,_⟩:=h3.cells;obtain ⟨t0,_⟩:=h2.cells;exact ⟨.tuple #[.agg #[u,v],jv,.agg #[.int .i64 0,.int .i64 0]],by simp [results,Tryz.results5,go_sem,a0,a1,f0,f1,t0],u,v,jv,0,0,rfl,hg,hu,.inl ⟨rfl,I,k,h4,h6,h5⟩⟩
def fN (a b:Int):List aD:=[⟨4,1,0,0,0,⟨#[49]⟩⟩,⟨8,a,b,0,0,⟨#[]⟩⟩,⟨1,2,0,0,0,⟨#[49]⟩⟩]
theorem ofR_1:fy [49]=1:=by unfold fy;decide +kernel
theorem ofR_0:fy []=0:=by unfold fy;decide +kernel
theorem C6 (a b:Int) (f:Nat->Bool) (V I:Nat->Rat):bD 3 (bh f (fN a b)) V I↔V 0=0/\(I 0+iQ ⟨8,a,b,0,0,⟨#[]⟩⟩ 1*I 1=0)/\(iQ ⟨8,a,b,0,0,⟨#[]⟩⟩ 2*I 1+I 2=0)/\V 1-V 0=1/\(if f 1 then V a.toNat-V b.toNat=0 else I 1=0)/\V 2-V 0-I 2=0:=by
 have o:∀ r,dC (bh f (fN a b)) 0 r=iQ ⟨4,1,0,0,0,⟨#[49]⟩⟩ r:=fun r=>by rw [jf];rfl
 have s:∀ r,dC (bh f (fN a b)) 1 r=iQ ⟨8,a,b,0,0,⟨#[]⟩⟩ r:=fun r=>by rw [jf];rfl
 have t:∀ r,dC (bh f (fN a b)) 2 r=iQ ⟨1,2,0,0,0,⟨#[49]⟩⟩ r:=fun r=>by rw [jf];rfl
 have u:(bh f (fN a b)).length=3:=by rw [cJ];rfl
 have J:iQ ⟨4,1,0,0,0,⟨#[49]⟩⟩ 1=1:=by decide +kernel
 have K:iQ ⟨4,1,0,0,0,⟨#[49]⟩⟩ 2=0:=by decide +kernel
 have M:iQ ⟨1,2,0,0,0,⟨#[49]⟩⟩ 1=0:=by decide +kernel
 have N:iQ ⟨1,2,0,0,0,⟨#[49]⟩⟩ 2=1:=by decide +kernel
 have y:cA (fun i=>dC (bh f (fN a b)) i 1*I i) 3=I 0+iQ ⟨8,a,b,0,0,⟨#[]⟩⟩ 1*I 1:=by
  unfold cA cA cA cA;rw [o,s,t,J,M];grind
 have z:cA (fun i=>dC (bh f (fN a b)) i 2*I i) 3=iQ ⟨8,a,b,0,0,⟨#[]⟩⟩ 2*I 1+I 2:=by
  unfold cA cA cA cA;rw [o,s,t,K,N];grind
 have s0:(bh f (fN a b))[0]? = some ⟨4,1,0,0,0,⟨#[49]⟩⟩:=by rw [dt];rfl
 have s2:(bh f (fN a b))[2]? = some ⟨1,2,0,0,0,⟨#[49]⟩⟩:=by rw [dt];rfl
 have s1:(bh f (fN a b))[1]? = some (bK (f 1) ⟨8,a,b,0,0,⟨#[]⟩⟩):=by rw [dt];rfl
 have get:∀ {i:Nat} {p:aD} (h:i<(bh f (fN a b)).length),(bh f (fN a b))[i]? = some p->(bh f (fN a b))[i]=p:=by
  intro i p h e;rw [zX h] at e;exact zJ e
 have q1:(⟨4,1,0,0,0,⟨#[49]⟩⟩:aD).q=1:=ofR_1;have q2:(⟨1,2,0,0,0,⟨#[49]⟩⟩:aD).q=1:=ofR_1;have C:∀ x:aD,x=⟨4,1,0,0,0,⟨#[49]⟩⟩->((bE x.kind x.q*(V x.a.toNat-V x.b.toNat)+bM x.kind x.q*(V x.c.toNat-V x.d.toNat)+bF x.kind x.q*I 0=bG x.kind x.q)↔V 1-V 0=1):=by
  rintro x rfl;rw [q1];simp [bE,bM,bF,bG];grind
 have D:∀ x:aD,x=⟨1,2,0,0,0,⟨#[49]⟩⟩->((bE x.kind x.q*(V x.a.toNat-V x.b.toNat)+bM x.kind x.q*(V x.c.toNat-V x.d.toNat)+bF x.kind x.q*I 2=bG x.kind x.q)↔V 2-V 0-I 2=0):=by
  rintro x rfl;rw [q2];simp [bE,bM,bF,bG];grind
 have E:∀ x:aD,x=bK (f 1) ⟨8,a,b,0,0,⟨#[]⟩⟩->((bE x.kind x.q*(V x.a.toNat-V x.b.toNat)+bM x.kind x.q*(V x.c.toNat-V x.d.toNat)+bF x.kind x.q*I 1=bG x.kind x.q)↔(if f 1 then V a.toNat-V b.toNat=0 else I 1=0)):=by
  have q0:(⟨8,a,b,0,0,⟨#[]⟩⟩:aD).q=0:=ofR_0;have q4:(⟨4,a,b,0,0,⟨#[]⟩⟩:aD).q=0:=ofR_0;rintro x rfl;cases f 1 with
  | true =>
   have e:bK true ⟨8,a,b,0,0,⟨#[]⟩⟩=⟨4,a,b,0,0,⟨#[]⟩⟩:=rfl;rw [e,q4];simp [bE,bM,bF,bG];grind
  | false =>
   have e:bK false ⟨8,a,b,0,0,⟨#[]⟩⟩=⟨8,a,b,0,0,⟨#[]⟩⟩:=rfl;rw [e,q0];simp [bE,bM,bF,bG];grind
 constructor
 ·rintro ⟨l,hn,m⟩;have g:=hn 1 O O;have j:=hn 2 O O;rw [u] at g j;rw [y] at g;rw [z] at j;have F:0<(bh f (fN a b)).length:=O
  have G:1<(bh f (fN a b)).length:=O
  have H:2<(bh f (fN a b)).length:=O
  exact ⟨l,g,j,(C _ (get F s0)).1 (m 0 F),(E _ (get G s1)).1 (m 1 G),(D _ (get H s2)).1 (m 2 H)⟩
 ·rintro ⟨l,g,j,P,Q,S⟩;refine ⟨l,fun r T U=>?_,fun i hi=>?_⟩
  ·rw [u];have:r=1∨r=2:=O
   rcases this with rfl | rfl
   ·rw [y];exact g
   ·rw [z];exact j
  ·have:i=0∨i=1∨i=2:=O
   rcases this with rfl | rfl | rfl
   ·exact (C _ (get hi s0)).2 P
   ·exact (E _ (get hi s1)).2 Q
   ·exact (D _ (get hi s2)).2 S
theorem sS (a b:Int):(bu (fN a b) (fN a b).length).length=1:=rfl
theorem ld_d1 (a b:Int):(bu (fN a b) 1).length=0:=rfl
theorem sT (a b:Int):iY (fN a b) 0 1=false:=by
 unfold iY;rw [ld_d1];simp
theorem xz (a b:Int):iY (fN a b) 1 1=true:=by
 unfold iY;rw [ld_d1];simp [fN]
theorem n8 (a:Nat->Bool) (V I:Nat->Rat):bD 3 (bh a (fN 1 2)) V I↔V 0=0/\V 1=1/\I 0+I 1=0/\I 2=I 1/\V 2=I 2/\(if a 1 then V 1=V 2 else I 1=0):=by
 rw [C6];have b:iQ ⟨8,1,2,0,0,⟨#[]⟩⟩ 1=1:=by decide +kernel
 have c:iQ ⟨8,1,2,0,0,⟨#[]⟩⟩ 2 = -1:=by decide +kernel
 rw [b,c];show _/\_/\_/\_/\(if a 1 then V 1-V 2=0 else I 1=0)/\_↔_
 cases a 1<;>simp<;>grind
theorem sR (a:Nat->Bool) (V I:Nat->Rat):bD 3 (bh a (fN 2 1)) V I↔V 0=0/\V 1=1/\I 0-I 1=0/\I 2+I 1=0/\V 2=I 2/\(if a 1 then V 2=V 1 else I 1=0):=by
 rw [C6];have b:iQ ⟨8,2,1,0,0,⟨#[]⟩⟩ 1 = -1:=by decide +kernel
 have c:iQ ⟨8,2,1,0,0,⟨#[]⟩⟩ 2=1:=by decide +kernel
 rw [b,c];show _/\_/\_/\_/\(if a 1 then V 2-V 1=0 else I 1=0)/\_↔_
 cases a 1<;>simp<;>grind
theorem xy {a b:Int} {V:Nat->Rat} : (∀ i,i<(fN a b).length->mG (fN a b) V I i)↔0<=I 1/\V a.toNat-V b.toNat<=0:=by
 constructor
 ·intro h;exact h 1 (by show 1<3;omega) (by show 1<3;omega) rfl
 ·intro h i hi d h8;have c:i<3:=hi;have:i=0∨i=1∨i=2:=O
  rcases this with rfl | rfl | rfl
  ·have h8:(4:Int)=8:=h8;omega
  ·exact h
  ·have h8:(1:Int)=8:=h8;omega
theorem ld1_one (h:BI 3 (fN 1 2) I k):k=1/\I 0 = -1/\I 1=1/\I 2=1:=by
 obtain ⟨V,c,a,hf,_⟩:=h;rw [sS] at c;have hf:=xy.1 hf;have b:V 1-V 2<=0:=hf.2;have:k=0∨k=1:=O
 rcases this with rfl | rfl
 ·obtain ⟨d,e,f,g,i,h5⟩:=(n8 _ _ _).1 a;rw [sT] at h5;have h5:I 1=0:=h5;exfalso
  grind
 ·obtain ⟨d,e,f,g,i,h5⟩:=(n8 _ _ _).1 a;rw [xz] at h5;have h5:V 1=V 2:=h5;exact ⟨rfl,by grind,by grind,by grind⟩
theorem ld1_not:¬ wK 3 (fN 1 2) 1:=by
 intro h;refine h ⟨fun j=>if j=0 then 0 else 1,fun i=>if i=0 then -1 else 1,(n8 _ _ _).2 ?_,xy.2 ?_,?_⟩
 ·rw [xz];exact ⟨rfl,rfl,by decide +kernel,rfl,rfl,rfl⟩
 ·exact ⟨by decide +kernel,by decide +kernel⟩
 ·intro V' I' hs;obtain ⟨h0,h1,h2,h3,h4,h5⟩:=(n8 _ _ _).1 hs;rw [xz] at h5;have h5:V' 1=V' 2:=h5;constructor
  ·intro j hj;have:j=0∨j=1∨j=2:=O
   rcases this with rfl | rfl | rfl
   ·show (0:Rat)=_;grind
   ·show (1:Rat)=_;grind
   ·show (1:Rat)=_;grind
  ·intro j hj;have hj:j<3:=hj;have:j=0∨j=1∨j=2:=O
   rcases this with rfl | rfl | rfl
   ·show (-1:Rat)=_;grind
   ·show (1:Rat)=_;grind
   ·show (1:Rat)=_;grind
theorem yL:¬ wK 3 (fN 2 1) 0:=by
 intro h;refine h ⟨fun j=>if j=1 then 1 else 0,fun i=>0,(sR _ _ _).2 ?_,xy.2 ?_,?_⟩
 ·rw [sT];exact ⟨rfl,rfl,by decide +kernel,by decide +kernel,rfl,rfl⟩
 ·exact ⟨by decide +kernel,by decide +kernel⟩
 ·intro V' I' hs;obtain ⟨h0,h1,h2,h3,h4,h5⟩:=(sR _ _ _).1 hs;rw [sT] at h5;have h5:I' 1=0:=h5;constructor
  ·intro j hj;have:j=0∨j=1∨j=2:=O
   rcases this with rfl | rfl | rfl
   ·show (0:Rat)=_;grind
   ·show (1:Rat)=_;grind
   ·show (0:Rat)=_;grind
  ·intro j hj;have hj:j<3:=hj;have:j=0∨j=1∨j=2:=O
   rcases this with rfl | rfl | rfl
   ·show (0:Rat)=_;grind
   ·show (0:Rat)=_;grind
   ·show (0:Rat)=_;grind
theorem ld2_one (h:BI 3 (fN 2 1) I k):k=0/\I 0=0/\I 1=0/\I 2=0:=by
 obtain ⟨V,b,c,d,a,_⟩:=h;rw [sS] at b;have:k=0∨k=1:=O
 rcases this with rfl | rfl
 ·obtain ⟨e,f,g,i,j,h5⟩:=(sR _ _ _).1 c;rw [sT] at h5;have h5:I 1=0:=h5;exact ⟨rfl,by grind,by grind,by grind⟩
 ·exact absurd (a 0 O) yL
end Go.Proofs.YtkbmbmdemajoaaaGreatDoor
