/- Contracts. -/
import Derived.Test.YtbfohfjobncehaaGreatDoorXPv
import Derived.Test.YtbfohfjobncehaaGreatDoorXPy
namespace Go.Proofs.YtbfohfjobncehaaGreatDoor
open Go.RowKit
set_option linter.all false
set_option maxHeartbeats 8000000
set_option maxRecDepth 10000
variable {w:World} {ps:List aD}
structure mG (w wx:World) (nodes:Int) (sl:Value) (ps:List aD) (g7 go:Nat):Prop where
 gr:w.grownBy wx none
 n3:gV wx w.heap.size 24 (.int .i64 nodes) sl
 n7:gV wx g7 24 (.int .i64 nodes) (.slice (some ⟨go,0,none⟩) ps.length (ps.length+3))
 own:aA wx (.slice (some ⟨go,0,none⟩) (ps.length+3) (ps.length+3)) (ps++[Mk,Mk,Mk])
theorem mG.keep {b c:World} {a:Int} {d:Value} {e f:Nat} (h:mG w b a d ps e f) (g:b.grownBy c none):mG w c a d ps e f :=
 ⟨ab h.gr g,h.n3.keep g Z,h.n7.keep g Z,h.own.keep g⟩
theorem mG.row {f i:World} {a:Int} {j:Value} {c d r:Nat} (h:mG w f a j ps c d) (g:f.grownBy i (some r)) (m:w.heap.size<r) (k:c≠r) (l:d≠r):mG w i a j ps c d :=
 ⟨aj (r:=none) h.gr g (fun _ _ e=>e) (fun b hb e=>by cases e;omega),h.n3.keep g (fun e=>by have:=zJ e;omega),h.n7.keep g (fun e=>k (zJ e)),h.own.keepRow g (fun e=>l e.symm)⟩
theorem gV.any {b i:Nat} {T:TypeId} {x y:Int} {u:Value} (h:gV w b T (.int .i64 x) (.int .i64 y)) (c:w.cell? ⟨b,i,none⟩=some u):∃ z,u=.int .i64 z:=by
 unfold gV at h;rcases i with _ | _ | i<;>simp [World.cell?,h] at c
 ·exact ⟨x,c.symm⟩
 ·exact ⟨y,c.symm⟩
theorem gV.setB {b:Nat} {T:TypeId} {x y:Int} (h:gV w b T (.int .i64 x) (.int .i64 y)) (u v:Int) :
  gV ((w.setCell ⟨b,0,none⟩ (.int .i64 u)).setCell ⟨b,1,none⟩ (.int .i64 v)) b T (.int .i64 u) (.int .i64 v)/\w.grownBy ((w.setCell ⟨b,0,none⟩ (.int .i64 u)).setCell ⟨b,1,none⟩ (.int .i64 v)) (some b)/\aN w ((w.setCell ⟨b,0,none⟩ (.int .i64 u)).setCell ⟨b,1,none⟩ (.int .i64 v)) :=
 ⟨(h.set0 _).set1 _,aq (aq (ag _ _)),(aN.set h Z _).trans (aN.set (h.set0 (.int .i64 u)) Z _)⟩
theorem cX.box {a:World} {v:Value} {n L b:Nat} {R:Nat->Rat} {T:TypeId} {x y:Int} (h:cX w v n R L) (f:gV w b T (.int .i64 x) (.int .i64 y)) (g:w.grownBy a (some b)) (k:aN w a):cX a v n R L:=by
 obtain ⟨i,cap,e,l,m,o⟩:=h;refine ⟨i,cap,e,l,m,fun j A=>?_⟩;obtain ⟨q,off,p,s,c,r⟩:=o j A;refine ⟨q,off,p,s,g.cell c ?_,r.keepW g k ?_⟩
 ·intro e;cases e
  obtain ⟨z,d⟩:=f.any c;cases d
 ·intro e;cases e
  obtain ⟨t,u⟩:=r.bool;obtain ⟨z,d⟩:=f.any u;cases d
theorem cX.cellAt {a:Option Addr} {n cap i L:Nat} {R:Nat->Rat} (h:cX w (.slice a n cap) n R L) (hi:i<n):∃ g off p,a=some ⟨g,off,none⟩/\w.cell? ⟨g,off+i,none⟩=some (.pointer (some ⟨p,0,none⟩))/\RV w p (R i) L:=by
 obtain ⟨c,b,e,_,_,d⟩:=h;simp only [Value.slice.injEq] at e;obtain ⟨rfl,_,rfl⟩:=e;exact d i hi
theorem aA.front {a:Option Addr} {n cap:Nat} {l:List aD} (h:aA w (.slice a n cap) (ps++l)):aA w (.slice a ps.length cap) ps:=by
 obtain ⟨c,b,e,d,f,g⟩:=h;simp only [Value.slice.injEq] at e;obtain ⟨rfl,_,rfl⟩:=e;rw [List.length_append] at d;refine ⟨_,_,rfl,O,f,fun i hi=>?_⟩;have:=g i (by rw [List.length_append];omega);rw [List.getElem_append_left hi] at this;exact this
theorem nU {V U:Nat->Rat} {n:Nat} (h:∀ j,j<n->V j=U j):aL V n=aL U n:=by
 induction n with
 | zero=>rfl
 | succ n ih=>rw [gJ,gJ,ih (fun j a=>h j O),h n O]
theorem kp.pow {a:Int} {c1 c2:Int} {d b:Nat} {V I U J:Nat->Rat} (h:kp a ps c1 c2 d b V I) (e:∀ j,j<d->V j=U j) (f:∀ i,i<b->I i=J i) (k:Nat) (c:k<b):q8 ps V I k=q8 ps U J k:=by
 rcases h with ⟨_,_,_,_,rfl⟩ | ⟨hc,_,(⟨_,rfl,rfl,_⟩ | ⟨_,_,rfl,_⟩ | ⟨_,_,rfl,_⟩)⟩
 ·omega
 ·obtain ⟨g,_⟩:=eK hc;obtain ⟨l,m,_,_,n,o,_,_,p,q,_⟩:=g.ends ps[k] (List.getElem_mem c);unfold Go.Proofs.YtbfohfjobncehaaGreatDoor.q8 acr;rw [zX c];simp only [n,o,Int.toNat_natCast];rw [e l p,e m q,f k c]
 ·omega
 ·omega
theorem Es (d:Int) (po:Option Addr) (pc:Nat) (ps:List aD) (a b:Int) (w:World) (hb:lM w) (ht:fh w) (hM:jA w) (hp:aA w (.slice po ps.length pc) ps) (yv:∀ c,Value.slice po ps.length pc=.slice none 0 c->c=0)
  (hsz:dG ps<=1100000) (hl:ps.length<=100000000) (hsv:∀ i (h:i<ps.length),ps[i].v.size<=100000000) :
  Calls Tryz.prog 3 #[.agg #[.int .i64 d,.slice po ps.length pc],.int .i64 a,.int .i64 b] w fun e w'=>e=.returned (.bool true)/\w.grownBy w' none:=by
 have HB:=aa hb;have HT:=aa ht;have HM:=aa hM;have HP:=aa hp;have Hw:=aa yv;have qf:=aa hsv;have kc:=aa hsz;clear hb ht hM hp yv hsv hsz;obtain ⟨W,hW⟩:=eX (w.alloc (Obj.cells #[.int .i64 d,.slice po ps.length pc] 24));have GW:Hid (w.grownBy W none):=by rw [hW];exact ae (ag _ _) _
 have NB:Hid (gV W w.heap.size 24 (.int .i64 d) (.slice po ps.length pc)):=by rw [hW];exact jD _ _ _ _
 go_enter Tryz.func3,Tryz.ntmps3
 go_upto_region 1 with fail;have HW:Hid (W.heap.size=w.heap.size+1):=by rw [hW];exact World.size_alloc _ _
 rw [<- hW];clear hW;go_wp2_with fail;refine (xN W (HB.keep GW) (HT.keep0 GW)).mono ?_;rintro e w1 ⟨rfl,g1⟩;have G1:=aa g1;obtain ⟨M,F,_⟩:=(NB.keep g1 Z).cells;clear g1;go_wp2_with fail;refine (own_at d _ ps w1 (HM.keep (ab GW G1)) (HP.keep (ab GW G1)) Hw hl).mono ?_;rintro e w2 ⟨go,rfl,yn,Kh,g2⟩;have PO:=aa yn;have Ku:=aa Kh;have G2:=aa (ab G1 g2);clear yn Kh g2 M F;go_upto_region 4 with fail;refine eO (fun wx=>w2.grownBy wx none/\gV wx w2.heap.size 24 (.int .i64 d) (.slice (some ⟨go,0,none⟩) ps.length (ps.length+3))) ⟨ae (ag _ _) _,jD w2 _ _ _⟩ ?_;rintro w3 ⟨g3,b7⟩;obtain ⟨g7,Ki⟩:=eX w2.heap.size;rw [<- Ki] at b7 ⊢;have H7:Hid (go<g7/\w.heap.size<go):=by
  have h1:=PO.out;have h2:=Ku.out;have h3:=G1.out.size;have h4:W.heap.size=w.heap.size+1:=by
   have:=NB.out.lt;have:=GW.out.size;have:=HW.out;omega
  obtain ⟨_,_,e,_,_,hc⟩:=h1;obtain ⟨b,off,e2,hb,_⟩:=hc 0 Z;simp only [Value.slice.injEq] at e;rw [e.1.symm] at e2;cases e2
  show _/\_
  omega
 have l:Hid (mG w w3 d (.slice po ps.length pc) ps g7 go):=⟨ab GW (ab G2 g3),(NB.keep G2 Z).keep g3 Z,b7,PO.keep g3⟩;have Kv:Hid (g7<w3.heap.size):=b7.lt;clear g3 b7 Ki;obtain ⟨M,F,_⟩:=l.out.n3.cells;go_wp2_with fail;refine (oF d _ ps w3 (HB.keep l.gr) (HP.keep l.gr) qf).mono ?_;rintro e w4 ⟨rfl,g4⟩;obtain ⟨C,hC⟩:=eX (aM false d ps);rw [<- hC];have HC:=aa hC;have Hx:=aa (l.keep g4);have Kw:=aa g4;clear g4 hC M F;go_upto_region 6 with fail;refine eO (fun wx=>w4.grownBy wx none/\gV wx w4.heap.size 29 (.int .i64 C.1) (.int .i64 C.2)) ⟨ae (ag _ _) _,jD w4 _ _ _⟩ ?_;rintro w5 ⟨g5,b8⟩;obtain ⟨g8,Kj⟩:=eX w4.heap.size;have H8:Hid (g7<g8):=by
  have h1:=Kv.out;have h2:=Kw.out.size;show _<_
  omega
 rw [<- Kj] at b8 ⊢;have ke:=aa (Hx.keep g5);have S:=aa b8;clear g5 b8 Kj l Hx;obtain ⟨M,F,_⟩:=ke.out.n3.cells;obtain ⟨f0,f1,_⟩:=S.out.cells;obtain ⟨E,hE⟩:∃ E:Nat,E=2300000:=⟨_,rfl⟩;have T:=aa hE;clear hE;go_upto_if 39 with fail
 go_cut [9,10] (fun s9 s10 wx=>Hid (∃ (F1 F2:Int) (F n2:Nat) (V I:Nat->Rat),kp d ps F1 F2 F n2 V I/\cX wx s9 F V (3*E+3*E+2)/\cX wx s10 n2 I (3*E+3*E+2)/\gV wx g8 29 (.int .i64 F1) (.int .i64 F2)/\mG w wx d (.slice po ps.length pc) ps g7 go))
 case first =>
  by_cases hc:C.1=0
  ·obtain ⟨hR,hw,hL,hF⟩:=eK (by rw [<- HC];exact hc);have he:Hid ((aM false d ps).1=0):=by show _=_;rw [<- HC];exact hc
   obtain ⟨N,hN⟩:∃ N:Nat,d=(N:Int)+1:=⟨d.toNat-1,by have:=hR.lo;omega⟩;have kf:d.toNat=N+1:=O
   rw [kf] at hR;have HN:=aa hN;have HR:=aa hR;have HK:Hid (∀ p∈ps,p.kind=2∨p.kind=3∨p.kind=1∨p.kind=4∨p.kind=5∨p.kind=6∨p.kind=7):=fun p z=>by
    have h1:=(hF p z).k1;have h2:=(hF p z).k7;omega
   have HV:Hid (∀ p∈ps,p.v.size<=1000000000/\3*p.v.size+10<=400000000):=fun p z=>by
    obtain ⟨i,hi,rfl⟩:=List.getElem_of_mem z;have:=qf.out i hi;omega
   clear hR hN kf hw hF;have Hy:(C.1==0)=true:=by simpa using hc
   clear hc;obtain ⟨hk,⟨ml,kn⟩,_⟩:=HB.out.keep ke.gr;have SV:=mv N po pc ps 400000000 E ml w5 (HP.keep ke.gr) HR HK HV zD zD (by rw [jy];have:=HR.out.hi;have:=kc.out;have:=T.out;omega) (by have:=T.out;omega) kn;rw [<- HN] at SV;have hY:=aa SV;clear SV hk kn;go_wp2_with fail;refine hY.mono ?_;rintro e X kS;obtain ⟨vv,iv,Y,o,f,V,I,rfl,Q,hsol,p1,p2⟩:=kS.says (by have:=HN.out;rw [show ((N+1:Nat):Int)=d by omega];exact he);rw [show ((N+1:Nat):Int)=d by have:=HN.out;omega] at hsol;have G:=aa hsol;have P1:=aa p1;have P2:=aa p2;obtain ⟨_,_,rfl,_⟩:=p1;obtain ⟨_,_,rfl,_⟩:=p2;have hz:=aa (ke.keep Q);have hG:=aa (S.keep Q Z);clear kS Q hsol M F f0 f1;go_wp2_with fail;refine (sA Y X).mono ?_;rintro e w7 ⟨rfl,hy⟩;have ql:=aa (hz.keep hy);have hQ:=aa (hG.keep hy Z);have qo:=aa (P1.keep0 hy);have Kx:=aa (P2.keep0 hy);obtain ⟨f0,f1,s,t⟩:=hQ.out.cells;clear hy P1 P2 hG hz;have SB:=aa (hQ.setB (oM Y) 0);go_wp2_with fail;go_meet
   case rel =>
    obtain ⟨h1,h2,h3⟩:=SB.out;have k7:=H7.out;have k8:=H8.out;exact ⟨oM Y,0,o,f,V,I,G,qo.box hQ h2 h3,Kx.box hQ h2 h3,h1,ql.row h2 O O O⟩
  ·have Hy:(C.1==0)=false:=by simpa using hc
   go_wp2_with fail;go_meet
   case rel =>
    exact ⟨C.1,C.2,0,0,fun _=>0,fun _=>0,.inl ⟨by rw [<- HC];exact hc,by rw [<- HC],by rw [<- HC],rfl,rfl⟩,fQ _ _ _,fQ _ _ _,S,ke⟩
 case rest =>
  obtain ⟨F1,F2,o,f,V,I,hsol,p1,p2,b8,sy⟩:=hcut.out;clear hcut M F f0 f1 S ke;obtain ⟨va,vc,rfl,_⟩:=id p1;obtain ⟨ia,ic,rfl,_⟩:=id p2;have G:=aa hsol;have P1:=aa p1;have P2:=aa p2;have S:=aa b8;have l:=aa sy;clear hsol p1 p2 b8 sy;obtain ⟨f0,f1,s,t⟩:=S.out.cells;obtain ⟨M,F,_⟩:=l.out.n3.cells;go_upto_if 50 with fail
  go_cut [12] (fun s12 wx=>Hid (cX wx (.slice va o vc) o V (3*E+3*E+2)/\cX wx (.slice ia f ic) f I (3*E+3*E+2)/\cX wx s12 f (q8 ps V I) (60*E)/\gV wx g8 29 (.int .i64 F1) (.int .i64 F2)/\mG w wx d (.slice po ps.length pc) ps g7 go))
  case first =>
   by_cases hc:F1=0
   ·subst hc;obtain ⟨qa,rfl,e1,rfl,_⟩:=G.out.one;obtain ⟨hR,hw,hL,_⟩:=eK qa;rw [<- e1] at hR hw;have HR:=aa hR;have Ky:=aa hw;have P:=aa hL;clear hR hw hL qa e1;have AC:=xD o po pc ps V (.slice va o vc) (3*E+3*E+2) wc (HP.keep l.gr) HR P1 O (by have:=T.out;omega);rw [<- Ky] at AC;have Hz:=aa AC;clear AC;go_wp2_with fail;refine Hz.mono ?_;rintro e X ⟨v,rfl,Q,oa⟩;have hz:=aa (l.keep Q);have hG:=aa (S.keep Q Z);have Kz:=aa (P1.keep0 Q);have HA:=aa (P2.keep0 Q);have PA:=aa oa.row;obtain ⟨xa,xc,rfl,_⟩:=id oa.row;have G6:=aa Q;clear Q oa M F f0 f1 s t Hz;go_wp2_with fail;go_loopw [12,55] (fun ov v wr=>Hid (∃ i:Nat,i<=ps.length/\v=.int .i64 i/\rg wr X.heap.size ov i (q8 ps V I) (60*E)/\X.grownBy wr none)) (fun _ v _=>ps.length-(intOf v).toNat)
    case atStart=>exact ⟨0,O,rfl,⟨[],rfl,⟨gE,fun k e=>by cases e⟩,fun j h=>by simp at h⟩,ag _ _⟩
    case round =>
     obtain ⟨i,hi,rfl,ho,hg⟩:=hrel.out;obtain ⟨xs,Hp,ox,hx⟩:=ho;obtain ⟨xo,Kk,rfl⟩:=ox.1.shape;have GR:=aa hg;have OX:=aa ox;have HX:=aa hx;have qq:=aa Hp;rw [Hp] at OX ⊢;clear hg hrel ox hx Hp;by_cases hlt:i<ps.length
     ·obtain ⟨ga,oa,pa,ea,a0,a1⟩:=(PA.keep0 GR).cellAt hlt;obtain ⟨gi,oi,pi,ei,i0,i1⟩:=(HA.keep0 GR).cellAt hlt;subst ea ei;have A1:=aa a1;have I1:=aa i1;clear a1 i1;go_wp2_with fail;refine (BN pa pi _ _ _ _ wr (A1.x O) (I1.x O) (by have:=T.out;omega)).mono ?_;rintro e wa ⟨bq,rfl,y1,y2,y3⟩;have GA:=aa y2;have Y1:Hid (RV wa bq (q8 ps V I i) (60*E)):=RV.mono (.inl y1) (by have:=T.out;omega);have KA:Hid (wr.heap.size<=bq):=y3;clear y1 y2 y3 a0 i0;have ky:Hid (wr.grownBy (wa.alloc (Obj.cells #[.pointer (some ⟨bq,0,none⟩)] 37)) none):=ab GA (ae (ag _ _) _);go_wp2_with (at_builtin;refine dC pfV 37 (.pointer none) 8 _ rfl _ _ 31 rfl X.heap.size Tryz.underlying31 Tryz.infoPR rfl (fun x=>by intro e;cases e) (fun u x=>by intro e;cases e) (.slice xo i Kk) xs rfl (OX.keep0 ky) wa.heap.size bq rfl (by go_simp;rfl) rfl (by rw [qq];have:=P.out;omega) zD (by have:=GR.out.size;have:=GA.out.size;simp;omega) ?_)
      intro Ql Qf w8 ms Ho Kg;have Hb:Hid (∀ k,(Value.slice xo i Kk).ownBlock=some k->X.heap.size<=k/\k<wr.heap.size):=OX.out.1.fresh;have G8:Hid (X.grownBy w8 none):=aj (r:=none) (ab GR ky) Ho (fun _ _ e=>e) (fun b hb e=>by have:=(Hb b e.symm).1;omega);have OR:=rg.push (R:=q8 ps V I) qq (OX.keep0 ky) (fun j h=>(HX j h).keep0 ky) (Y1.keep0 (ae (ag _ _) _)) (fun e=>by have:=(Hb bq e.symm).2;have:=KA.out;omega) Ho Kg ms;rw [qq] at OR ⊢;have KB:=aa OR;clear ms Ho Kg OX HX Y1 OR ky Hb;have Qd:=P.out;go_wp2;go_roundw
      case rel=>exact ⟨i+1,O,zN,KB,G8⟩
      case measure=>exact bO
     ·obtain rfl:i=ps.length:=O
      go_wp2_with fail;go_meet
      case rel=>exact ⟨Kz.keep0 GR,HA.keep0 GR,rg.row ⟨xs,qq,OX,HX⟩,hG.keep GR Z,hz.keep GR⟩
   ·have Hy:(F1==0)=false:=by simpa using hc
    have h2:f=0:=by
     rcases G.out with ⟨_,_,_,_,h⟩ | ⟨_,_,(⟨h,_⟩ | ⟨_,_,h,_⟩ | ⟨_,_,h,_⟩)⟩
     ·exact h
     ·exact absurd h hc
     ·exact h
     ·exact h
    subst h2;go_wp2_with fail;go_meet
    case rel=>exact ⟨P1,P2,fQ _ _ _,S,l⟩
  case rest =>
   have hh:=hcut.out;clear hcut M F f0 f1 s t P1 P2 S l;obtain ⟨p1,p2,p3,b8,sy⟩:=hh;obtain ⟨wa,Qm,rfl,_⟩:=id p3;have P1:=aa p1;have P2:=aa p2;have P3:=aa p3;have S:=aa b8;have l:=aa sy;clear p1 p2 p3 b8 sy;have Hc:Hid (∀ n,bS n ps->fD (cr n ps) (n+ps.length)<E):=fun n hn=>by
    rw [jy];have:=hn.hi;have:=hn.len;have:=kc.out;have:=T.out;omega
   go_wp2;go_loopw [70] (fun v wr=>Hid (∃ i:Nat,i<=2/\v=.int .i64 i/\wc.grownBy wr none)) (fun v _=>2-(intOf v).toNat)
   case atStart=>exact ⟨0,O,rfl,ag _ _⟩
   case round =>
    obtain ⟨i,hi,rfl,hg⟩:=hrel.out;have GR:=aa hg;clear hg hrel;by_cases hlt:i<2
    ·have hf:=aa (l.keep GR);have kg:=aa (S.keep GR Z);obtain ⟨M,F,_⟩:=hf.out.n7.cells;go_wp2_with fail;refine (sH d (some ⟨go,0,none⟩) (ps.length+3) ps E wr (HB.keep hf.gr) (HT.keep0 hf.gr) hf.own.front Hc (by have:=T.out;omega) (by have:=T.out;omega)).mono ?_;rintro e X ⟨c1,c2,m1,m2,U,J,vv,iv,rfl,o1,o2,hsol,Q,q1,q2⟩;obtain ⟨rfl,rfl,rfl,rfl,ev,ei⟩:=G.out.same hsol;rw [<- nU ev] at o1;rw [<- nU ei] at o2;obtain ⟨oa,oc,rfl⟩:=o1.shape;obtain ⟨ob,od,rfl⟩:=o2.shape;have O1:=aa o1;have O2:=aa o2;have QV:Hid (∀ k,k<o->bh E (V k)):=fun k hk=>by rw [ev k hk];exact q1 k hk
     have QI:Hid (∀ k,k<f->bh E (I k)):=fun k hk=>by rw [ei k hk];exact q2 k hk
     have G6:=aa Q;clear hsol q1 q2 o1 o2 Q M F ev ei;go_upto_region 20 with fail;refine eO (fun wx=>X.grownBy wx none/\gV wx X.heap.size 41 (.slice oa (aL V o).length oc) (.slice ob (aL I f).length od)/\gV wx (X.heap.size+1) 29 (.int .i64 F1) (.int .i64 F2)) ?_ ?_
     ·refine ⟨ae (ae (ag _ _) _) _,(jD X _ _ _).keep (ae (ag _ none) _) Z,?_⟩;have h:=jD (X.alloc (Obj.cells #[.slice oa (aL V o).length oc,.slice ob (aL I f).length od] 41)) 29 (.int .i64 F1) (.int .i64 F2);rw [World.size_alloc] at h;exact h
     rintro w8 ⟨hX,Hq,Hr⟩;obtain ⟨hH,Hs⟩:=eX X.heap.size;rw [<- Hs] at Hq Hr ⊢;have KC:Hid (X.heap.size<=hH):=Nat.le_of_eq Hs.symm;clear Hs;have HF:=aa Hq;have KE:=aa Hr;have hT:=aa hX;have G8:=aa (ab G6 hX);clear Hq Hr hX;have S0:Hid (∀ wx,w8.grownBy wx none->(wx.cell? ⟨hH+1,0,none⟩=some (.int .i64 F1)/\wx.cell? ⟨hH+1,1,none⟩=some (.int .i64 F2))/\(wx.cell? ⟨g8,0,none⟩=some (.int .i64 F1)/\wx.cell? ⟨g8,1,none⟩=some (.int .i64 F2))/\wx.cell? ⟨hH,0,none⟩=some (.slice oa (aL V o).length oc)/\wx.cell? ⟨hH,1,none⟩=some (.slice ob (aL I f).length od)):=by
      intro wx g;have h1:=(HF.keep g Z).cells;have h2:=(KE.keep g Z).cells;have h3:=(kg.keep (ab G8 g) Z).cells;exact ⟨⟨h2.1,h2.2.1⟩,⟨h3.1,h3.2.1⟩,h1.1,h1.2.1⟩
     have s0:=S0.out w8 (ag _ _);refine hd (fun wx=>(wx.cell? ⟨hH+1,0,none⟩=some (.int .i64 F1)/\wx.cell? ⟨hH+1,1,none⟩=some (.int .i64 F2))/\(wx.cell? ⟨g8,0,none⟩=some (.int .i64 F1)/\wx.cell? ⟨g8,1,none⟩=some (.int .i64 F2))/\wx.cell? ⟨hH,0,none⟩=some (.slice oa (aL V o).length oc)/\wx.cell? ⟨hH,1,none⟩=some (.slice ob (aL I f).length od)) (fun hHeld=>?_);refine tk 6 [(0,77,.agg #[.int .i64 F1,.int .i64 F2]),(1,78,.agg #[.int .i64 F1,.int .i64 F2]),(2,79,.bool false),(3,80,.bool false),(4,81,.agg #[.slice oa (aL V o).length oc,.slice ob (aL I f).length od]),(5,82,.slice va o vc),(7,84,.slice ia f ic)] ?_;try simp only [pA,pL,vA,vL,q0,q1,q2,q3]
     refine cQ 5 6 (fun K hK=>?_);simp only [ax,q4,q5,q6,q7];go_simp
     go_at_call 14
     refine (tP _ o V _ E _ (P1.keep0 (ab GR (ab G8 aX))) (by have:=G.out.small;omega) QV (by have:=T.out;omega)).mono ?_;rintro e wa ⟨ta,rfl,t1,ga⟩;obtain ⟨ra,rc,rfl⟩:=t1.shape;have T1:=aa t1;have GA:=aa (ab aX ga);clear s0 hHeld t1 ga;have s0:=S0.out wa GA;go_wp2_with fail;refine bk hK (fun hHeld=>?_);clear hK K;try simp only [pA,pL,vA,vL,q0,q1,q2,q3]
     refine cQ 4 8 (fun K hK=>?_);simp only [ax,q4,q5,q6,q7];go_simp
     go_at_call 14
     refine (tP _ f I _ E _ (P2.keep0 (ab GR (ab G8 GA))) (by have:=G.out.small;omega) QI (by have:=T.out;omega)).mono ?_;rintro e wb ⟨tb,rfl,t2,gb⟩;obtain ⟨rb,rd,rfl⟩:=t2.shape;have T2:=aa t2;have GB:=aa (ab GA gb);have KF:=aa gb;clear s0 hHeld t2 gb;have s0:=S0.out wb GB;go_wp2_with fail;refine bk hK (fun hHeld=>?_);clear hK K;try simp only [pA,pL,vA,vL,q0,q1,q2,q3]
     refine tk 3 [(9,86,.agg #[.slice ra (aL V o).length rc,.slice rb (aL I f).length rd])] ?_;try simp only [pA,pL,vA,vL,q0,q1,q2,q3]
     refine cQ 2 10 (fun K hK=>?_);simp only [ax,q4,q5,q6,q7];go_simp
     go_at_call 13
     refine (yN _ _ _ _ (aL V o) (aL I f) wb (O1.row.keep (ab hT GB)) (O2.row.keep (ab hT GB)) (T1.row.keep KF) T2.row (by rw [bd];have:=G.out.small;omega) (by rw [bd];have:=G.out.small;omega)).mono ?_;rintro e wd ⟨rfl,gd⟩;have GD:=aa (ab GB gd);clear s0 hHeld gd;have s0:=S0.out wd GD;go_wp2_with fail;refine bk hK (fun hHeld=>?_);clear hK K;try simp only [pA,pL,vA,vL,q0,q1,q2,q3]
     refine tk 0 [(11,88,.bool false),(12,89,.bool false)] ?_;try simp only [pA,pL,vA,vL,q0,q1,q2,q3]
     refine wpAnyH_done zK ?_ _;go_wp2_with fail;refine (wS _ wd (O1.room.keep (ab hT GD) (fun k e=>Z))).mono ?_;rintro e we ⟨rfl,ge,qb⟩;have HG:Hid (∀ k,(Value.slice oa (aL V o).length oc).ownBlock=some k->wr.heap.size<=k/\k<X.heap.size):=O1.out.fresh;have KG:Hid (∀ k,(Value.slice ob (aL I f).length od).ownBlock=some k->wr.heap.size<=k/\k<X.heap.size):=O2.out.fresh;have KH:Hid (wr.grownBy we none):=aj (r:=none) (ab G8 GD) ge (fun _ _ e=>e) (fun b hb e=>by have:=(HG b e.symm).1;omega);have jc:=(HF.keep GD Z).keep ge (fun e=>by have:=(HG hH e.symm).2;have:=KC.out;omega);have RM:=aa (qb _ (O2.room.keep (ab hT GD) (fun k e=>Z)));clear s0 hHeld ge qb;obtain ⟨_,a1,_⟩:=jc.cells;clear jc;go_wp2_with fail;refine (wS _ we RM).mono ?_;rintro e wf ⟨rfl,gf,_⟩;have KI:Hid (wr.grownBy wf none):=aj (r:=none) KH gf (fun _ _ e=>e) (fun b hb e=>by have:=(KG b e.symm).1;omega);clear gf a1;go_wp2;go_roundw
     case rel=>exact ⟨i+1,O,zN,ab GR KI⟩
     case measure=>exact bO
    ·obtain rfl:i=2:=O
     have hf:=aa (l.keep GR);obtain ⟨M,F,_⟩:=hf.out.n7.cells;have kg:=aa (S.keep GR Z);have HH:=aa (P3.keep0 GR);go_wp2_with fail;refine (DO d (some ⟨go,0,none⟩) (ps.length+3) ps E wr (HB.keep hf.gr) (HT.keep0 hf.gr) hf.own.front Hc (by have:=T.out;omega) (by have:=T.out;omega)).mono ?_;rintro e X ⟨c1,c2,m1,m2,U,J,vv,rfl,o1,hsol,Q,q1⟩;obtain ⟨rfl,rfl,rfl,rfl,ev,ei⟩:=G.out.same hsol;have Hd:∀ k,k<f->q8 ps V I k=q8 ps U J k:=G.out.pow ev ei;rw [<- nU Hd] at o1;obtain ⟨oa,oc,rfl⟩:=o1.shape;have O1:=aa o1;have QP:Hid (∀ k,k<f->bh (3*E+3) (q8 ps V I k)):=fun k hk=>by rw [Hd k hk];exact q1 k hk
     have G6:=aa Q;clear hsol q1 o1 Q M F ev ei Hd;go_upto_region 26 with fail;refine eO (fun wx=>X.grownBy wx none/\gV wx X.heap.size 29 (.int .i64 F1) (.int .i64 F2)) ⟨ae (ag _ _) _,jD X _ _ _⟩ ?_;rintro w8 ⟨hX,m⟩;obtain ⟨ko,Kl⟩:=eX X.heap.size;rw [<- Kl] at m ⊢;have H:=aa m;have hT:=aa hX;have G8:=aa (ab G6 hX);have hS:Hid (g8<ko):=by
      have h1:=kg.out.lt;have h2:=G6.out.size;show _<_
      omega
     clear m hX Kl;obtain ⟨e0,e1,_⟩:=H.out.cells;obtain ⟨f0,f1,_⟩:=(kg.keep G8 Z).cells;go_wp2_with fail;refine (tP _ f (q8 ps V I) (60*E) (3*E+3) _ (HH.keep0 G8) (by have:=G.out.small;omega) QP (by have:=T.out;omega)).mono ?_;rintro e wa ⟨ta,rfl,t1,ga⟩;obtain ⟨ra,rc,rfl⟩:=t1.shape;have T1:=aa t1;have GA:=aa ga;clear t1 ga e0 e1 f0 f1;go_wp2_with fail;refine (jm _ _ (aL (q8 ps V I) f) (aL (q8 ps V I) f) wa (O1.row.keep (ab hT GA)) T1.row (by rw [bd];have:=G.out.small;omega) (by rw [bd];have:=G.out.small;omega)).mono ?_;rintro e wb ⟨rfl,gb⟩;rw [show decide (aL (q8 ps V I) f=aL (q8 ps V I) f)=true by simp];have GB:=aa (ab G8 (ab GA gb));have kz:=aa (hf.keep GB);have HI:=aa (kg.keep GB Z);have jl:=aa (H.keep (ab GA gb) Z);clear gb GA T1 O1 HH QP P1 P2 P3 l S GR G6 G8 hT kg hf H GB;obtain ⟨M,F,_⟩:=kz.out.n3.cells;go_wp2_with fail;refine (oF d _ ps wb (HB.keep kz.gr) (HP.keep kz.gr) qf).mono ?_;rintro e wd ⟨rfl,gd⟩;rw [<- HC];have HJ:=aa (kz.keep gd);have He:=aa (HI.keep gd Z);have jo:=aa (jl.keep gd Z);clear gd M F kz HI jl;obtain ⟨f0,f1,s,t⟩:=He.out.cells;have SB:=aa (He.setB C.1 C.2);go_upto_region 29 with fail;refine eO (fun wx=>gV wx g8 29 (.int .i64 C.1) (.int .i64 C.2)/\mG w wx d (.slice po ps.length pc) ps g7 go/\gV wx ko 29 (.int .i64 F1) (.int .i64 F2)) ⟨SB.1,HJ.row SB.2.1 (by have:=H7.out;have:=H8.out;omega) (by have:=H8.out;omega) (by have:=H7.out;have:=H8.out;omega),jo.keep SB.2.1 (fun e=>by have:=zJ e;have:=hS.out;omega)⟩ ?_
     clear SB He HJ jo f0 f1 s t;rintro we ⟨b8,sy,m⟩;have S:=aa b8;have l:=aa sy;have H:=aa m;clear b8 sy m;go_upto_region 30 with fail;refine eO (fun wx=>we.grownBy wx none/\gV wx we.heap.size 3 (.int .i64 a) (.int .i64 b)) ⟨ae (ag _ _) _,jD we _ _ _⟩ ?_;rintro wf ⟨gf,bs⟩;obtain ⟨gs,Km⟩:=eX we.heap.size;rw [<- Km] at bs ⊢;have HL:Hid (g8<gs):=by
      have:=S.out.lt;show _<_
      omega
     have HQ:=aa (S.keep gf Z);have HY:=aa (l.keep gf);have jp:=aa (H.keep gf Z);have BS:=aa bs;clear gf bs Km S l H;go_loopw [118] (fun v wr=>Hid (∃ i:Nat,i<=2/\v=.int .i64 i/\gV wr g8 29 (.int .i64 (mH d ps.length C a b i).1) (.int .i64 (mH d ps.length C a b i).2)/\mG w wr d (.slice po ps.length pc) ps g7 go/\gV wr ko 29 (.int .i64 F1) (.int .i64 F2)/\gV wr gs 3 (.int .i64 a) (.int .i64 b))) (fun v _=>2-(intOf v).toNat)
     case atStart=>exact ⟨0,O,rfl,HQ,HY,jp,BS⟩
     case round =>
      obtain ⟨i,hi,rfl,b8,sy,m,bs⟩:=hrel.out;have hm:=aa b8;have hr:=aa sy;have hv:=aa m;have kk:=aa bs;clear hrel b8 sy m bs HQ HY jp BS;by_cases hlt:i<2
      ·obtain ⟨x,hx⟩:=eX (if i=0 then a else b);obtain ⟨D,hD⟩:=eX (mH d ps.length C a b i);rw [<- hD] at hm;have cx:wr.cell? ⟨gs,i,none⟩=some (.int .i64 x):=by
        have h:=kk.out.cells;rcases i with _ | _ | i
        ·rw [hx,if_pos rfl];exact h.1
        ·rw [hx,if_neg O];exact h.2.1
        ·omega
       have qs:Hid (mH d ps.length C a b (i+1)=lP d ps.length D x i):=by
        show _=_
        rcases i with _ | _ | i
        ·rw [hD,hx,if_pos rfl];rfl
        ·rw [hD,hx,if_neg O];rfl
        ·omega
       clear hx hD;obtain ⟨f0,f1,s,t⟩:=hm.out.cells;obtain ⟨M,F,_⟩:=hr.out.n3.cells;by_cases h0:D.1=0
       ·by_cases yc:x<0
        ·have KJ:decide (x<0)=true:=by simpa using yc
         have kF:(D.1==0)=true:=by simpa using h0
         go_wp2_with fail;refine (sR 4 ((ps.length:Int)+i) _).mono ?_;rintro e wq ⟨rfl,gq⟩;have Hf:=aa (hr.keep gq);have kH:=aa (hm.keep gq Z);have kN:=aa (hv.keep gq Z);have Hg:=aa (kk.keep gq Z);have Hh:=aa (kH.setB 4 ((ps.length:Int)+i));clear gq M F f0 f1 s t cx;obtain ⟨f0,f1,s,t⟩:=kH.out.cells;go_wp2;go_roundw
         case rel =>
          obtain ⟨k1,k2,k3⟩:=Hh.out;have j7:=H7.out;have j8:=H8.out;have KK:=hS.out;have js:=HL.out;have en:mH d ps.length C a b (i+1)=(4,(ps.length:Int)+i):=by rw [qs];unfold lP;rw [if_pos ⟨h0,.inl yc⟩]
          exact ⟨i+1,O,zN,by rw [en];exact k1,Hf.row k2 O O O,kN.keep k2 (fun e=>by have:=zJ e;omega),Hg.keep k2 (fun e=>by have:=zJ e;omega)⟩
         case measure=>exact bO
        ·have KJ:decide (x<0)=false:=by simpa using yc
         by_cases yl:d<=x
         ·have KL:decide (d<=x)=true:=by simpa using yl
          have kF:(D.1==0)=true:=by simpa using h0
          go_wp2_with fail;refine (sR 4 ((ps.length:Int)+i) _).mono ?_;rintro e wq ⟨rfl,gq⟩;have Hf:=aa (hr.keep gq);have kH:=aa (hm.keep gq Z);have kN:=aa (hv.keep gq Z);have Hg:=aa (kk.keep gq Z);have Hh:=aa (kH.setB 4 ((ps.length:Int)+i));clear gq M F f0 f1 s t cx;obtain ⟨f0,f1,s,t⟩:=kH.out.cells;go_wp2;go_roundw
          case rel =>
           obtain ⟨k1,k2,k3⟩:=Hh.out;have j7:=H7.out;have j8:=H8.out;have KK:=hS.out;have js:=HL.out;have en:mH d ps.length C a b (i+1)=(4,(ps.length:Int)+i):=by rw [qs];unfold lP;rw [if_pos ⟨h0,.inr yl⟩]
           exact ⟨i+1,O,zN,by rw [en];exact k1,Hf.row k2 O O O,kN.keep k2 (fun e=>by have:=zJ e;omega),Hg.keep k2 (fun e=>by have:=zJ e;omega)⟩
          case measure=>exact bO
         ·have KL:decide (d<=x)=false:=by simpa using yl
          have kF:(D.1==0)=true:=by simpa using h0
          go_wp2;go_roundw
          case rel=>exact ⟨i+1,O,zN,by rw [qs];unfold lP;rw [if_neg (fun h=>h.2.elim yc yl)];exact hm,hr,hv,kk⟩
          case measure=>exact bO
       ·have kF:(D.1==0)=false:=by simpa using h0
        go_wp2;go_roundw
        case rel=>exact ⟨i+1,O,zN,by rw [qs];unfold lP;rw [if_neg (fun h=>h0 h.1)];exact hm,hr,hv,kk⟩
        case measure=>exact bO
      ·obtain rfl:i=2:=O
       obtain ⟨D,hD⟩:=eX (mH d ps.length C a b 2);rw [<- hD] at hm;have HD:=aa hD;clear hD;obtain ⟨f0,f1,s,t⟩:=hm.out.cells;obtain ⟨M,F,_⟩:=hr.out.n3.cells;go_upto_if 145 with fail
       go_cut [21,22] (fun s21 s22 wx=>Hid (∃ (s1 s2:ByteArray) (D1 D2:Int),s21=.string s1/\s22=.string s2/\pS d ps a b s1 s2 D1 D2/\gV wx g8 29 (.int .i64 D1) (.int .i64 D2)/\mG w wx d (.slice po ps.length pc) ps g7 go/\gV wx ko 29 (.int .i64 F1) (.int .i64 F2)))
       case first =>
        by_cases h0:D.1=0
        ·have he:Hid ((aM false d ps).1=0/\(cH d.toNat ps.length a b).1=0):=by
          have hd:=HD.out;by_cases hc:(aM false d ps).1=0
          ·obtain ⟨_,hw,_⟩:=eK hc;rw [HC,nZ hc,hw,uA] at hd;exact ⟨hc,by rw [<- hd];exact h0⟩
          ·rw [HC,uz hc] at hd;exact absurd (by rw [<- hd];exact h0) hc
         obtain ⟨qa,qc⟩:=he.out;obtain ⟨hR,hw,hL,hF⟩:=eK qa;obtain ⟨ha,hb,_⟩:=tp qc;obtain ⟨N,hN⟩:∃ N:Nat,d=(N:Int)+1:=⟨d.toNat-1,by have:=hR.lo;omega⟩;have kf:d.toNat=N+1:=O
         rw [kf] at hR ha hb;have HN:=aa hN;have Ka:=aa kf;have HR:=aa hR;have Hi:=aa (And.intro ha hb);have P:=aa hL;have HK:Hid (∀ p∈ps,p.kind=2∨p.kind=3∨p.kind=1∨p.kind=4∨p.kind=5∨p.kind=6∨p.kind=7):=fun p z=>by
          have h1:=(hF p z).k1;have h2:=(hF p z).k7;omega
         have HV:Hid (∀ p∈ps,p.v.size<=1000000000/\3*p.v.size+10<=400000000):=fun p z=>by
          obtain ⟨i,hi,rfl⟩:=List.getElem_of_mem z;have:=qf.out i hi;omega
         have kF:(D.1==0)=true:=by simpa using h0
         clear qa qc hR hw hL hF ha hb hN kf h0 HD;obtain ⟨hk,⟨ml,kn⟩,_⟩:=HB.out.keep hr.gr;have Qh:=aa kn;have SV:=mv N po pc ps 400000000 E ml wr (HP.keep hr.gr) HR HK HV zD zD (by rw [jy];have:=HR.out.hi;have:=P.out;have:=kc.out;have:=T.out;omega) (by have:=T.out;omega) kn;rw [<- HN] at SV;have hY:=aa SV;clear SV hk kn;go_wp2_with fail;refine hY.mono ?_;rintro e X kS;obtain ⟨vv,iv,Y,Kn,Qn,VA,IA,rfl,Q,hsol,p1,p2⟩:=kS.says (by have:=HN.out;rw [show ((N+1:Nat):Int)=d by omega];exact he.1);rw [show ((N+1:Nat):Int)=d by have:=HN.out;omega] at hsol;have jv:=aa hsol;have P1:=aa p1;obtain ⟨KT,Ht,rfl,_⟩:=p1;obtain ⟨_,_,rfl,_⟩:=p2;have hz:=aa (hr.keep Q);have hG:=aa (hm.keep Q Z);have hI:=aa (hv.keep Q Z);clear kS Q hsol M F f0 f1 s t hY;go_wp2_with fail;refine (sA Y X).mono ?_;rintro e w7 ⟨rfl,hy⟩;have ql:=aa (hz.keep hy);have hQ:=aa (hG.keep hy Z);have mc:=aa (hI.keep hy Z);have qo:=aa (P1.keep0 hy);obtain ⟨f0,f1,s,t⟩:=hQ.out.cells;clear hy P1 hG hz hI;have SB:=aa (hQ.setB (oM Y) 0);go_upto_region 39 with fail;refine eO (fun wx=>gV wx g8 29 (.int .i64 (oM Y)) (.int .i64 0)/\mG w wx d (.slice po ps.length pc) ps g7 go/\gV wx ko 29 (.int .i64 F1) (.int .i64 F2)/\cX wx (.slice KT Kn Ht) Kn VA (3*E+3*E+2)) ⟨SB.1,ql.row SB.2.1 (by have:=H7.out;have:=H8.out;omega) (by have:=H8.out;omega) (by have:=H7.out;have:=H8.out;omega),mc.keep SB.2.1 (fun e=>by have:=zJ e;have:=hS.out;omega),qo.box hQ SB.2.1 SB.2.2⟩ ?_
         clear SB hQ ql mc qo f0 f1 s t;rintro w8 ⟨b8,sy,m,p1⟩;have S:=aa b8;have l:=aa sy;have H:=aa m;have P1:=aa p1;clear b8 sy m p1;obtain ⟨f0,f1,_⟩:=S.out.cells;obtain ⟨M,F,_⟩:=l.out.n3.cells;by_cases kl:oM Y=0
         ·have KM:(oM Y==0)=true:=by simpa using kl
          have hsol:=jv.out;rw [kl] at hsol;obtain ⟨_,_,e1,e2,hs,hu⟩:=hsol.one;rw [Ka] at e1 hs hu;subst e1 e2;have HS:=aa hs;have HU:=aa hu;have Hj:=aa (uV hs hu);have Hk:=aa (qC HR (by have:=P.out;omega) (a:=a) (b:=b) Hi.1 Hi.2);have KN:=aa kl;clear hsol hs hu kl;have PU:=yG (N+1) po pc ps a b w8 (HP.keep l.gr) (by have:=P.out;omega);rw [show ((N+1:Nat):Int)=d by have:=HN.out;omega] at PU;have Kb:=aa PU;clear PU;go_wp2_with fail;refine Kb.mono ?_;rintro e w9 ⟨v9,rfl,ow,g9⟩;obtain ⟨yn,KU,rfl,_⟩:=ow.shape;have PP:=aa (ow.parts (fun p z=>by
           unfold aW at z;rcases List.mem_append.1 z with h | h
           ·obtain ⟨q,hq,rfl⟩:=List.mem_map.1 h;have h1:=(HV q hq).2;unfold aH;split
            ·show (⟨#[48]⟩:ByteArray).size<=600000000;decide
            ·omega
           ·rw [List.mem_singleton.1 h];show (⟨#[49]⟩:ByteArray).size<=600000000;decide))
          have Hl:=aa (l.keep g9);have Kc:=aa (S.keep g9 Z);have md:=aa (H.keep g9 Z);have Hm:=aa (P1.keep0 g9);clear ow g9 M F f0 f1 Kb l S H P1;have KP:Hid (∀ p∈aW ps a b,(p.kind=2∨p.kind=3∨p.kind=1∨p.kind=4∨p.kind=5∨p.kind=6∨p.kind=7)/\p.v.size<=1000000000/\3*p.v.size+10<=400000000):=fun p z=>by
           unfold aW at z;rcases List.mem_append.1 z with h | h
           ·obtain ⟨q,hq,rfl⟩:=List.mem_map.1 h;have h1:=HV.out q hq;have h2:=HK.out q hq;refine ⟨by rw [(jQ q).1];exact h2,?_⟩;unfold aH;split
            ·show (⟨#[48]⟩:ByteArray).size<=1000000000/\3*(⟨#[48]⟩:ByteArray).size+10<=400000000;decide
            ·exact h1
           ·rw [List.mem_singleton.1 h];refine ⟨.inr (.inr (.inr (.inr (.inl rfl)))),?_⟩;show (⟨#[49]⟩:ByteArray).size<=1000000000/\3*(⟨#[49]⟩:ByteArray).size+10<=400000000;decide
          have FP:Hid (∀ n,n<=8->fD (cr n (aW ps a b)) (n+(aW ps a b).length)<E):=fun n hn=>by
           have h1:=nS n ps a b;have:=P.out;have:=kc.out;have:=T.out;rw [kQ];omega
          obtain ⟨hk,⟨KV,mt⟩,_⟩:=HB.out.keep Hl.gr;have SV:=mv N yn KU (aW ps a b) 400000000 E KV w9 PP Hk (fun p h=>(KP p h).1) (fun p h=>(KP p h).2) zD zD (FP N (by have:=HR.out.hi;omega)) (by have:=T.out;omega) mt;rw [show (N:Int)+1=((N+1:Nat):Int) by omega] at SV;have mm:=aa SV;clear SV hk mt;go_wp2_with fail;refine mm.mono ?_;rintro e Ko ⟨Qo,Qp,Qg,rfl,kw,h3⟩;obtain ⟨A0,I0,ks,ku⟩:=gU Hk (mh Hj a b);rcases h3 with ⟨_,_,_,hn⟩ | ⟨_,_,_,A,B,A',B',hA,hB,hd⟩ | ⟨rfl,U,J,Hu,Kp,p3,p4⟩
          ·exact absurd ⟨A0,I0,ks⟩ hn
          ·exfalso
           obtain ⟨a1,a2⟩:=ku A B hA;obtain ⟨b1,b2⟩:=ku A' B' hB;rcases hd with ⟨j,hj,Hv⟩ | ⟨i,hi,Hv⟩
           ·exact Hv ((a1 j hj).trans (b1 j hj).symm)
           ·exact Hv ((a2 i hi).trans (b2 i hi).symm)
          clear ks ku A0 I0;obtain ⟨Qq,Kq,rfl,_⟩:=id p3;obtain ⟨_,_,rfl,_⟩:=p4;have FV:=aa (uU HR Hj (L:=E) (by rw [jy];have:=HR.out.hi;have:=P.out;have:=kc.out;have:=T.out;omega) HS).1;have FU:=aa (uU Hk (mh Hj a b) (L:=E) (FP (N+1) HR.hi) Hu).1;have KQ:=aa Hu;have Kd:=aa Kp;have Ke:=aa (Hl.keep kw);have Kf:=aa (Kc.keep kw Z);have Hn:=aa (md.keep kw Z);obtain ⟨⟨KW,KX⟩,⟨KY,Qa⟩⟩:=Hi.out;obtain ⟨ya,rfl⟩:∃ y:Nat,a=(y:Int):=⟨a.toNat,O⟩;obtain ⟨yb,rfl⟩:∃ y:Nat,b=(y:Int):=⟨b.toNat,O⟩;have ka:ya<N+1:=O
          have kb:yb<N+1:=O
          obtain ⟨gv,ov,pa,e1,a0,a1⟩:=(Hm.keep0 kw).cellAt ka;obtain ⟨_,_,pb,e2,b0,b1⟩:=(Hm.keep0 kw).cellAt kb;obtain ⟨gu,ou,yo,e3,c0,c1⟩:=p3.cellAt ka;obtain ⟨_,_,pd,e4,d0,d1⟩:=p3.cellAt kb;subst e1 e3;cases e2
          cases e4
          have A1:=aa a1;have B1:=aa b1;have C1:=aa c1;have D1:=aa d1;have mo:=aa ka;have mp:=aa kb;have S0:Hid (∀ w',Ko.grownBy w' none->w'.cell? ⟨gv,ov+ya,none⟩=some (.pointer (some ⟨pa,0,none⟩))/\w'.cell? ⟨gv,ov+yb,none⟩=some (.pointer (some ⟨pb,0,none⟩))/\w'.cell? ⟨gu,ou+ya,none⟩=some (.pointer (some ⟨yo,0,none⟩))/\w'.cell? ⟨gu,ou+yb,none⟩=some (.pointer (some ⟨pd,0,none⟩))):=fun w' g=>⟨g.cell a0 Z,g.cell b0 Z,g.cell c0 Z,g.cell d0 Z⟩
          have s0:=S0.out Ko (ag _ _);have Qi:(0:Int)<=((ya:Nat):Int):=O
          have Qe:((ya:Nat):Int)<(N:Int)+1:=O
          have Qj:(0:Int)<=((yb:Nat):Int):=O
          have Qk:((yb:Nat):Int)<(N:Int)+1:=O
          clear a0 a1 b0 b1 c0 c1 d0 d1 Hu Kp kw p3 KW KX KY Qa ka kb Hl Kc md Hm mm;go_upto_region 41 with fail;refine hd (fun w'=>w'.cell? ⟨gv,ov+ya,none⟩=some (.pointer (some ⟨pa,0,none⟩))/\w'.cell? ⟨gv,ov+yb,none⟩=some (.pointer (some ⟨pb,0,none⟩))/\w'.cell? ⟨gu,ou+ya,none⟩=some (.pointer (some ⟨yo,0,none⟩))/\w'.cell? ⟨gu,ou+yb,none⟩=some (.pointer (some ⟨pd,0,none⟩))) (fun hHeld=>?_);refine tk 6 [(0,166,.slice (some ⟨gv,ov,none⟩) (N+1) Ht),(1,167,.int .i64 ya),(2,168,.pointer (some ⟨gv,ov+ya,none⟩)),(3,169,.pointer (some ⟨pa,0,none⟩)),(4,170,.slice (some ⟨gv,ov,none⟩) (N+1) Ht),(5,171,.int .i64 yb),(6,172,.pointer (some ⟨gv,ov+yb,none⟩)),(7,173,.pointer (some ⟨pb,0,none⟩)),(10,176,.slice (some ⟨gu,ou,none⟩) (N+1) Kq),(11,177,.int .i64 ya),(12,178,.pointer (some ⟨gu,ou+ya,none⟩)),(13,179,.pointer (some ⟨yo,0,none⟩)),(14,180,.slice (some ⟨gu,ou,none⟩) (N+1) Kq),(15,181,.int .i64 yb),(16,182,.pointer (some ⟨gu,ou+yb,none⟩)),(17,183,.pointer (some ⟨pd,0,none⟩))] ?_;try simp only [pA,pL,vA,vL,q0,q1,q2,q3]
          refine cQ 5 8 (fun K hK=>?_);simp only [ax,q4,q5,q6,q7];go_simp
          go_at_call 21
          refine (wB pa pb (VA ya) (VA yb) _ _ _ ((A1.keep0 aX).x O) ((B1.keep0 aX).x O) (by have:=T.out;omega)).mono ?_;rintro e wa ⟨bq,rfl,y1,y2,y3⟩;have GA:=aa (ab aX y2);have Y1:Hid (RV wa bq (VA ya-VA yb) _):=.inl y1;clear y1 y2 y3 s0 hHeld;have s0:=S0.out wa GA;go_wp2_with fail;refine bk hK (fun hHeld=>?_);clear hK K;try simp only [pA,pL,vA,vL,q0,q1,q2,q3]
          refine cQ 4 9 (fun K hK=>?_);simp only [ax,q4,q5,q6,q7];go_simp
          go_at_call 20
          refine (yH bq _ _ (2*E+1) wa Y1 (mE.sub (FV ya mo) (FV yb mp)) (by have:=T.out;omega)).mono ?_;rintro e wb ⟨rfl,gb⟩;have GB:=aa (ab GA gb);clear gb s0 hHeld Y1 GA;have s0:=S0.out wb GB;go_wp2_with fail;refine bk hK (fun hHeld=>?_);clear hK K;try simp only [pA,pL,vA,vL,q0,q1,q2,q3]
          refine cQ 3 18 (fun K hK=>?_);simp only [ax,q4,q5,q6,q7];go_simp
          go_at_call 21
          refine (wB yo pd (U ya) (U yb) _ _ _ ((C1.keep0 GB).x O) ((D1.keep0 GB).x O) (by have:=T.out;omega)).mono ?_;rintro e wd ⟨Kr,rfl,y1,y2,y3⟩;have GD:=aa (ab GB y2);have Y2:Hid (RV wd Kr (U ya-U yb) _):=.inl y1;clear y1 y2 y3 s0 hHeld;have s0:=S0.out wd GD;go_wp2_with fail;refine bk hK (fun hHeld=>?_);clear hK K;try simp only [pA,pL,vA,vL,q0,q1,q2,q3]
          refine cQ 2 19 (fun K hK=>?_);simp only [ax,q4,q5,q6,q7];go_simp
          go_at_call 20
          refine (yH Kr _ _ (2*E+1) wd Y2 (mE.sub (FU ya mo) (FU yb mp)) (by have:=T.out;omega)).mono ?_;rintro e Ks ⟨rfl,ge⟩;have GE:=aa (ab GD ge);clear ge s0 hHeld Y2 GD GB;have s0:=S0.out Ks GE;go_wp2_with fail;refine bk hK (fun hHeld=>?_);clear hK K;try simp only [pA,pL,vA,vL,q0,q1,q2,q3]
          refine tk 0 [(20,21,.string ⟨(bZ (VA ya-VA yb)).toArray⟩),(21,22,.string ⟨(bZ (U ya-U yb)).toArray⟩)] ?_;try simp only [pA,pL,vA,vL,q0,q1,q2,q3]
          refine wpAnyH_done zK ?_ _;clear s0 hHeld;have SP:Hid (pS d ps (ya:Int) (yb:Int) ⟨(bZ (VA ya-VA yb)).toArray⟩ ⟨(bZ (U ya-U yb)).toArray⟩ 0 0):=by
           refine .inr (.inr (.inr ⟨he.1,he.2,rfl,rfl,VA,IA,U,J,?_⟩));rw [Ka,Int.toNat_natCast,Int.toNat_natCast];exact ⟨HS,HU,KQ,fun V' I' h=>⟨(Kd V' I' h).1,fun i hi=>(Kd V' I' h).2 i (by rw [kQ];exact hi)⟩,rfl,rfl⟩
          have KR:Hid (gV Ks g8 29 (.int .i64 0) (.int .i64 0)):=by
           have h:=Kf.out.keep GE Z;rw [KN] at h;exact h
          go_wp2_with fail;go_meet
          case rel=>exact ⟨_,_,0,0,rfl,rfl,SP,KR,Ke.keep GE,Hn.keep GE Z⟩
         ·have KM:(oM Y==0)=false:=by simpa using kl
          have SP:Hid (pS d ps a b ⟨#[]⟩ ⟨#[]⟩ (oM Y) 0):=by
           rcases jv.out with ⟨h,_⟩ | ⟨_,_,(⟨h,_⟩ | ⟨h,_,_,hn⟩ | ⟨h,_,_,hd⟩)⟩
           ·exact absurd he.1 h
           ·exact absurd h kl
           ·exact .inr (.inr (.inl ⟨he.1,he.2,rfl,rfl,rfl,.inl ⟨h,hn⟩⟩))
           ·exact .inr (.inr (.inl ⟨he.1,he.2,rfl,rfl,rfl,.inr ⟨h,hd⟩⟩))
          go_wp2_with fail;go_meet
          case rel=>exact ⟨_,_,oM Y,0,rfl,rfl,SP,S,l,H⟩
        ·have kF:(D.1==0)=false:=by simpa using h0
         have SP:Hid (pS d ps a b ⟨#[]⟩ ⟨#[]⟩ D.1 D.2):=by
          have hd:=HD.out;by_cases hc:(aM false d ps).1=0
          ·obtain ⟨_,hw,_⟩:=eK hc;have KS:=nZ hc;rw [HC,KS,hw,uA] at hd;rw [hd];exact .inr (.inl ⟨hc,by rw [<- hd];exact h0,rfl,rfl,rfl,rfl⟩)
          ·rw [HC,uz hc] at hd;rw [hd];exact .inl ⟨hc,rfl,rfl,rfl,rfl⟩
         go_wp2_with fail;go_meet
         case rel=>exact ⟨_,_,D.1,D.2,rfl,rfl,SP,hm,hr,hv⟩
       case rest =>
        obtain ⟨s1,s2,D1,D2,rfl,rfl,Kt,b8,sy,m⟩:=hcut.out;have SP:=aa Kt;have S:=aa b8;have l:=aa sy;have H:=aa m;clear hcut M F f0 f1 s t Kt b8 sy m hm hr hv kk;obtain ⟨M,F,_⟩:=l.out.n7.cells;go_wp2_with fail;refine (Ar d (some ⟨go,0,none⟩) (ps.length+3) ps a b E wc (HB.keep l.gr) (HT.keep0 l.gr) l.own.front Hc (fun n hn=>by
         have h1:=nS n ps a b;have:=hn.hi;have:=hn.len;have:=kc.out;have:=T.out;omega) (by have:=T.out;omega) (by have:=T.out;omega)).mono ?_
        rintro e X ⟨t1,t2,d1,d2,rfl,Q,Ha⟩;obtain ⟨rfl,rfl,rfl,rfl⟩:=SP.out.same Ha;have hz:=aa (l.keep Q);have hG:=aa (S.keep Q Z);have hI:=aa (H.keep Q Z);clear Ha Q M F l S H;obtain ⟨e0,e1,Qb,Qc⟩:=hI.out.cells;have SB:=aa (hI.setB D1 D2);go_upto_region 43 with fail;refine eO (fun wx=>gV wx g8 29 (.int .i64 D1) (.int .i64 D2)/\mG w wx d (.slice po ps.length pc) ps g7 go/\gV wx ko 29 (.int .i64 D1) (.int .i64 D2)) ⟨hG.keep SB.2.1 (fun e=>by have:=zJ e;have:=hS.out;omega),hz.row SB.2.1 (by have:=H7.out;have:=H8.out;have:=hS.out;omega) (by have:=H8.out;have:=hS.out;omega) (by have:=H7.out;have:=H8.out;have:=hS.out;omega),SB.1⟩ ?_;rintro w8 ⟨b8,sy,m⟩;have l:=aa sy;clear SB hG hz hI e0 e1 Qb Qc sy;obtain ⟨f0,f1,_⟩:=b8.cells;obtain ⟨e0,e1,_⟩:=m.cells;obtain ⟨M,F,_⟩:=l.out.n3.cells;obtain ⟨m0,m1,_⟩:=l.out.n7.cells;clear b8 m;go_wp2_with fail;refine (kept_at d go _ ps w8 (HM.keep l.gr) (HP.keep l.gr) l.own hl).mono ?_;rintro e w9 ⟨rfl,g9⟩;have G9:=aa g9;clear g9 f0 f1 e0 e1 M F m0 m1;go_wp2;go_ret;exact ⟨rfl,ab l.gr G9⟩
end Go.Proofs.YtbfohfjobncehaaGreatDoor
