/- Contracts. -/
import Derived.Test.YtbfohfjobncehaaGreatDoorXHand
import Derived.Test.YtbfohfjobncehaaGreatDoorXPm
namespace Go.Proofs.YtbfohfjobncehaaGreatDoor
open Go.RowKit
set_option linter.all false
set_option maxHeartbeats 8000000
set_option maxRecDepth 10000
variable {w w':World} {L m n b i br base bo k:Nat} {R W:Nat->Nat->Rat} {bs cs o:Nat->Nat} {d q:Rat} {v:Value} {cur:Array Value} {perm order:List Nat} {uo:Option Addr}
def fE (R:Nat->Rat) (q:Rat) (i:Nat):Nat->Rat:=fun j=>if j<i then R j*q else R j
theorem xi (R:Nat->Rat) (q:Rat) (i j:Nat):aQ (fE R q i) i (R i*q) j=fE R q (i+1) j:=by
 unfold aQ fE;by_cases h:j=i
 ·rw [if_pos h,if_pos O,h]
 ·rw [if_neg h];by_cases a:j<i
  ·rw [if_pos a,if_pos O]
  ·rw [if_neg a,if_neg O]
theorem ue (R:Nat->Rat) (q:Rat) (i j:Nat) (h:R i=0):fE R q i j=fE R q (i+1) j:=by
 unfold fE;by_cases a:j<i
 ·rw [if_pos a,if_pos O]
 ·rw [if_neg a];by_cases c:j=i
  ·subst c;rw [if_pos O,h,Rat.zero_mul]
  ·rw [if_neg O]
def aO (w w':World) (b:Nat):Prop:=w.grownBy w' (some b)/\aN w w'
theorem aO.refl (w:World) (b:Nat):aO w w b:=⟨ag _ _,aN.refl _⟩
theorem aO.trans {w1 a:World} (h:aO w w1 b) (k:aO w1 a b):aO w a b:=⟨aj h.1 k.1 (fun _ _ e=>e) (fun _ _ e=>e),h.2.trans k.2⟩
theorem aO.of_gr (h:w.grownBy w' none):aO w w' b:=⟨aj h (ag _ none) nofun nofun,aN.of_gr h⟩
theorem aO.gr {w1 a:World} (h:aO w w1 b) (k:w1.grownBy a none):aO w a b:=h.trans (aO.of_gr k)
def TimR (W:World) (b n:Nat) (R:Nat->Rat) (q:Rat) (L:Nat) (v:Value) (wr:World):Prop :=
 ∃ i:Nat,i<=n/\v=.int .i64 i/\aI wr b n (fE R q i) L/\aO W wr b
theorem nm (Y:Bool) (fu fd:Value) (b n cap:Nat) (R:Nat->Rat) (q:Rat) (yv:Value) (L:Nat) (w:World) (z:aI w b n R L) (hy:FQ w yv q L) (hn:n<=cap) (hc:cap<=maxLen) (hL:L<=100000000)
  (hfit:∀ i,i<n->bh L (R i*q)) :
  Calls Tryz.prog 219 #[kq Y fu fd,.slice (some ⟨b,0,none⟩) n cap,yv] w
   fun e w'=>e=.returned (.tuple #[])/\aI w' b n (fun i=>R i*q) L/\aO w w' b:=by
 unfold maxLen at hc;have HR:=aa z;have HY:=aa hy;have HF:=aa hfit;have he:=z.lt;obtain ⟨yo,yl,yc,zo,zl,zc,rfl⟩:=hy.shape;clear z hy hfit;obtain ⟨W,r⟩:=eX ((w.alloc (Obj.cells #[.bool Y,fu,fd,.func (.func 129) #[] #[],.func (.func 107) #[] #[],.func (.func 67) #[] #[],.func (.func 38) #[] #[],.func (.func 130) #[] #[],.func (.func 131) #[] #[],.func (.func 132) #[] #[],.func (.func 133) #[] #[]] 128)).alloc (Obj.cells #[.bool (rB q),.slice yo yl yc,.slice zo zl zc] 85));have A:Hid (w.grownBy W none):=by rw [r];exact ae (ae (ag _ _) _) _
 have a:Hid (∀ wx,W.grownBy wx (some b)->wx.cell? ⟨w.heap.size,8,none⟩=some (.func (.func 131) #[] #[])/\wx.cell? ⟨w.heap.size,6,none⟩=some (.func (.func 38) #[] #[])/\wx.cell? ⟨w.heap.size+1,0,none⟩=some (.bool (rB q))/\wx.cell? ⟨w.heap.size+1,1,none⟩=some (.slice yo yl yc)/\wx.cell? ⟨w.heap.size+1,2,none⟩=some (.slice zo zl zc)):=by
  intro wx hg;rw [r] at hg;have n1:some w.heap.size≠some b:=fun e=>by have:=zJ e;omega
  have B:some (w.heap.size+1)≠some b:=fun e=>by have:=zJ e;omega
  exact ⟨hg.cell zG n1,hg.cell zG n1,hg.cell zG B,hg.cell zG B,hg.cell zG B⟩
 have hf:Hid (w.heap.size+1<W.heap.size):=by show _<_;rw [r];simp
 go_enter Tryz.func219,Tryz.ntmps219
 go_wp2;rw [<- r];clear r;go_loopw [10] (fun v wr=>Hid (TimR W b n R q L v wr)) (fun v _=>n-(intOf v).toNat)
 case atStart=>exact ⟨0,O,rfl,(HR.keep0 A).congr (fun i _=>by unfold fE;rw [if_neg O]),aO.refl _ _⟩
 case round =>
  obtain ⟨i,hi,rfl,l1,l2⟩:=hrel.out;have t:=aa l1;have g:=aa l2;clear l1 l2 hrel;by_cases hlt:i<n
  ·obtain ⟨uo,ul,uc,s,dl,dc,c0,c1,c2,c3,cf⟩:=t.out.at i hlt;have h:fE R q i i=R i:=by unfold fE;rw [if_neg O]
   rw [h] at c0 c3;have C3:=aa c3;obtain ⟨F,G,H,I,J⟩:=a.out wr g.1;clear c3 cf h;go_upto_region 4 with fail;obtain ⟨u,f⟩:=eX (wr.alloc (Obj.cells #[.bool (rB (R i)),.slice uo ul uc,.slice s dl dc] 85));have C:Hid (wr.grownBy u none):=by rw [f];exact ae (ag _ _) _
   have XC:Hid (∀ wx,u.grownBy wx none->wx.cell? ⟨wr.heap.size,0,none⟩=some (.bool (rB (R i)))/\wx.cell? ⟨wr.heap.size,1,none⟩=some (.slice uo ul uc)/\wx.cell? ⟨wr.heap.size,2,none⟩=some (.slice s dl dc)):=by
    intro wx hg;rw [f] at hg;exact aJ hg
   rw [<- f];clear f F G H I J c0 c1 c2;obtain ⟨x0,x1,x2⟩:=XC.out u (ag _ _);have D:=aa (g.gr C);obtain ⟨F,G,H,I,J⟩:=a.out u D.1;go_wp2_with fail;refine (bn _ (R i) L _ (C3.keep0 C)).mono ?_;rintro e w3 ⟨rfl,x⟩;obtain ⟨K,M,N⟩:=XC.out w3 x;have l:=aa (ab C x);clear x0 x1 x2 F G H I J;by_cases p:R i=0
   ·have c:decide (R i=0)=true:=decide_eq_true p;rw [c];have HZ:=aa p;clear p c x;go_wp2;go_roundw
    case rel=>exact ⟨i+1,O,zN,(t.keep0 l).congr (fun j _=>ue R q i j HZ),g.gr l⟩
    case measure=>exact bO
   ·have c:decide (R i=0)=false:=decide_eq_false p;rw [c];clear p c x;have E:=aa (g.gr l);obtain ⟨P,Q,S,T,U⟩:=a.out w3 E.1;go_wp2_with fail;refine (fj _ _ (R i) q L L _ (C3.keep0 l) (HY.kept ((aN.of_gr A).trans E.2)) O).mono ?_;rintro e w4 ⟨v4,rfl,V,X⟩;have F4:=aa (aI.keep0 (t.keep0 l) X);obtain ⟨ao,al,ac,bo,bl,bc,rfl⟩:=V.shape;have P1:=aa (V.tight (HF i hlt));have L4:=aa (E.gr X);obtain ⟨_,_,_,_,_,_,d0,d1,d2,_,y⟩:=F4.out.at i hlt;have hk:=y (i*3);have hl:=y (i*3+1);have hm:=y (i*3+2);clear V X y P Q S T U K M N;go_wp2;go_roundw
    case rel =>
     obtain ⟨r1,r2,r3⟩:=F4.out.set i hlt P1;exact ⟨i+1,O,zN,r1.congr (fun j _=>xi R q i j),L4.trans ⟨r2,r3⟩⟩
    case measure=>exact bO
  ·obtain rfl:i=n:=O
   go_wp2;go_end0
   exact ⟨rfl,t.congr (fun j hj=>by unfold fE;rw [if_pos hj]),(aO.of_gr A).trans g⟩
theorem FQ.fits (h:FQ w v q L) (f:1<=L):bh L q:=by
 obtain ⟨up,c,e,g,a,j,l⟩:=h;refine ⟨g.lt,?_⟩;rcases a with ⟨_,a⟩ | ⟨a,_⟩
 ·rw [a];exact Nat.lt_of_lt_of_le (by decide:1<4294967296^1) (Nat.pow_le_pow_right zD f)
 ·exact a.lt
theorem bh.neg (h:bh L q):bh L (-q):=by
 obtain ⟨e,a,c⟩:=DI q;unfold bh;rw [a,c];exact h
def ug (x:Rat):Rat:=if x=0 then -1 else 1
theorem FV.parts {u d:Value} {b neg:Bool} (h:FV w (.agg #[.bool b,u,d]) neg n m L):b=neg:=by
 obtain ⟨_,_,e,_⟩:=h;simp only [Value.agg.injEq,Array.mk.injEq,List.cons.injEq,and_true,Value.bool.injEq] at e;exact e.1
theorem vk (t:Bool) (u c:Option Addr) (fl fc f g:Nat) (b n cap k:Nat) (R:Nat->Rat) (d:Rat) (lv:Value) (L:Nat) (w:World) (E:aI w b n R L) (hy:FQ w lv d L) (I:FQ w (.agg #[.bool t,.slice u fl fc,.slice c f g]) 1 L)
  (hk:k<n) (hn:n<=cap) (hc:cap<=maxLen) (hL1:1<=L) (hL:L<=100000000) :
  Calls Tryz.prog 204 #[(kq t (.slice u fl fc) (.slice c f g)),.slice (some ⟨b,0,none⟩) n cap,.int .i64 (k:Nat),lv] w
   fun e w'=>e=.returned (.tuple #[])/\aI w' b n (fun i=>ug (R k+d)*R i) L/\aO w w' b:=by
 have J:=aa E;have HY:=aa hy;have H1:=aa I;have HC:=aa hc;unfold maxLen at hc;have hm:=E.lt;obtain ⟨lo,S,lc,y,z,A,rfl⟩:=hy.shape;obtain ⟨uo,ul,uc,vo,vl,vc,c0,c1,c2,c3,_⟩:=E.at k hk;have C3:=aa c3;have C:Hid (∀ i,i<n->bh L (R i*(0-1))):=by
  intro i hi;obtain ⟨_,_,_,_,_,_,_,_,_,h,_⟩:=J.out.at i hi;have e:R i*(0-1) = -(R i):=by grind
  rw [e];exact (h.fits hL1).neg
 have K:Hid (bh L (0-1)):=by
  have e:(0:Rat)-1 = -1:=by grind
  rw [e];exact (I.fits hL1).neg
 clear E hy I c3;obtain ⟨W,H⟩:=eX ((w.alloc (Obj.cells #[.bool t,.slice u fl fc,.slice c f g,.func (.func 129) #[] #[],.func (.func 107) #[] #[],.func (.func 67) #[] #[],.func (.func 38) #[] #[],.func (.func 130) #[] #[],.func (.func 131) #[] #[],.func (.func 132) #[] #[],.func (.func 133) #[] #[]] 128)).alloc (Obj.cells #[.bool (rB d),.slice lo S lc,.slice y z A] 85));have r:Hid (w.grownBy W none):=by rw [H];exact ae (ae (ag _ _) _) _
 have a:Hid (∀ wx,W.grownBy wx none->wx.cell? ⟨w.heap.size,3,none⟩=some (.func (.func 129) #[] #[])/\wx.cell? ⟨w.heap.size,4,none⟩=some (.func (.func 107) #[] #[])/\wx.cell? ⟨w.heap.size,5,none⟩=some (.func (.func 67) #[] #[])/\wx.cell? ⟨w.heap.size,6,none⟩=some (.func (.func 38) #[] #[])/\wx.cell? ⟨w.heap.size,7,none⟩=some (.func (.func 130) #[] #[])/\wx.cell? ⟨w.heap.size,8,none⟩=some (.func (.func 131) #[] #[])/\wx.cell? ⟨w.heap.size,9,none⟩=some (.func (.func 132) #[] #[])/\wx.cell? ⟨w.heap.size,10,none⟩=some (.func (.func 133) #[] #[])/\wx.cell? ⟨w.heap.size,0,none⟩=some (.bool t)/\wx.cell? ⟨w.heap.size,1,none⟩=some (.slice u fl fc)/\wx.cell? ⟨w.heap.size,2,none⟩=some (.slice c f g)/\wx.cell? ⟨w.heap.size+1,0,none⟩=some (.bool (rB d))/\wx.cell? ⟨w.heap.size+1,1,none⟩=some (.slice lo S lc)/\wx.cell? ⟨w.heap.size+1,2,none⟩=some (.slice y z A)/\wx.cell? ⟨b,k*3,none⟩=some (.bool (rB (R k)))/\wx.cell? ⟨b,k*3+1,none⟩=some (.slice uo ul uc)/\wx.cell? ⟨b,k*3+2,none⟩=some (.slice vo vl vc)):=by
  intro wx hg;have x:=ab r hg;rw [H] at hg;exact ⟨hg.cell zG Z,hg.cell zG Z,hg.cell zG Z,hg.cell zG Z,hg.cell zG Z,hg.cell zG Z,hg.cell zG Z,hg.cell zG Z,hg.cell zG Z,hg.cell zG Z,hg.cell zG Z,hg.cell zG Z,hg.cell zG Z,hg.cell zG Z,x.cell c0 Z,x.cell c1 Z,x.cell c2 Z⟩
 obtain ⟨s0,s1,s2,s3,s4,s5,s6,s7,s8,s9,s10,s11,s12,s13,s14,s15,s16⟩:=a.out W (ag _ _);have GG:W.grownBy W none:=ag _ _;go_enter Tryz.func204,Tryz.ntmps204
 go_upto_region 1 with fail;rw [<- H];clear H c0 c1 c2;go_cut [19] (fun s19 wx=>Hid (s19=.bool (decide (R k+d=0))/\W.grownBy wx none))
 case first =>
  go_region_held3 (fun w'=>w'.cell? ⟨w.heap.size,3,none⟩=some (.func (.func 129) #[] #[])/\w'.cell? ⟨w.heap.size,4,none⟩=some (.func (.func 107) #[] #[])/\w'.cell? ⟨w.heap.size,5,none⟩=some (.func (.func 67) #[] #[])/\w'.cell? ⟨w.heap.size,6,none⟩=some (.func (.func 38) #[] #[])/\w'.cell? ⟨w.heap.size,7,none⟩=some (.func (.func 130) #[] #[])/\w'.cell? ⟨w.heap.size,8,none⟩=some (.func (.func 131) #[] #[])/\w'.cell? ⟨w.heap.size,9,none⟩=some (.func (.func 132) #[] #[])/\w'.cell? ⟨w.heap.size,10,none⟩=some (.func (.func 133) #[] #[])/\w'.cell? ⟨w.heap.size,0,none⟩=some (.bool t)/\w'.cell? ⟨w.heap.size,1,none⟩=some (.slice u fl fc)/\w'.cell? ⟨w.heap.size,2,none⟩=some (.slice c f g)/\w'.cell? ⟨w.heap.size+1,0,none⟩=some (.bool (rB d))/\w'.cell? ⟨w.heap.size+1,1,none⟩=some (.slice lo S lc)/\w'.cell? ⟨w.heap.size+1,2,none⟩=some (.slice y z A)/\w'.cell? ⟨b,k*3,none⟩=some (.bool (rB (R k)))/\w'.cell? ⟨b,k*3+1,none⟩=some (.slice uo ul uc)/\w'.cell? ⟨b,k*3+2,none⟩=some (.slice vo vl vc)) (go_keep)
   (first | (go_at_call 107;refine (mX _ _ (R k) d L L _ (C3.keep0 (ab r zF)) (HY.keep0 (ab r zF)) O).mono ?_;rintro e D ⟨va,rfl,pa,T⟩;obtain ⟨ao,al,ac,bo,bl,bc,rfl⟩:=pa.shape;have GG:W.grownBy D none:=ab zF T;obtain ⟨a0,a1,a2,a3,a4,a5,a6,a7,a8,a9,U,V,X,Y,ho,hp,hq⟩:=a.out D GG) | (go_at_call 131;refine (bn _ (R k+d) (L+L+2) _ (pa.keep0 zQ)).mono ?_;rintro e wx ⟨rfl,gx⟩;have GG:W.grownBy wx none:=ab zF gx;obtain ⟨x0,x1,x2,x3,x4,x5,x6,x7,x8,x9,he,hf,hj,hl,hs,hu,hv⟩:=a.out wx GG))
  all_goals (go_wp2_with fail;go_meet;exact ⟨rfl,zF⟩)
 case rest =>
  obtain ⟨rfl,g2⟩:=hcut.out;have F:=aa g2;clear hcut s0 s1 s2 s3 s4 s5 s6 s7 s8 s9 s10 s11 s12 s13 s14 s15 s16 g2 GG;by_cases B:R k+d=0
  ·have j:decide (R k+d=0)=true:=decide_eq_true B;rw [j];have M:Hid (ug (R k+d) = -1):=by show _=_;unfold ug;rw [if_pos B]
   clear B j;go_upto_region 3 with fail;obtain ⟨p,s⟩:=eX (wc.alloc (Obj.cells #[.bool false,.slice none 0 0,.slice none 0 0] 85));have G3:Hid (wc.grownBy p none):=by rw [s];exact ae (ag _ _) _
   have ZC:Hid (∀ wx,p.grownBy wx none->wx.cell? ⟨wc.heap.size,0,none⟩=some (.bool false)/\wx.cell? ⟨wc.heap.size,1,none⟩=some (.slice none 0 0)/\wx.cell? ⟨wc.heap.size,2,none⟩=some (.slice none 0 0)):=by
    intro wx hg;rw [s] at hg;exact aJ hg
   rw [<- s];clear s;have GG:p.grownBy p none:=ag _ _;have G:Hid (W.grownBy p none):=ab F G3;have N:Hid (∀ wx,p.grownBy wx (some b)->wx.cell? ⟨w.heap.size,3,none⟩=some (.func (.func 129) #[] #[])/\wx.cell? ⟨w.heap.size,4,none⟩=some (.func (.func 107) #[] #[])/\wx.cell? ⟨w.heap.size,5,none⟩=some (.func (.func 67) #[] #[])/\wx.cell? ⟨w.heap.size,6,none⟩=some (.func (.func 38) #[] #[])/\wx.cell? ⟨w.heap.size,7,none⟩=some (.func (.func 130) #[] #[])/\wx.cell? ⟨w.heap.size,8,none⟩=some (.func (.func 131) #[] #[])/\wx.cell? ⟨w.heap.size,9,none⟩=some (.func (.func 132) #[] #[])/\wx.cell? ⟨w.heap.size,10,none⟩=some (.func (.func 133) #[] #[])/\wx.cell? ⟨w.heap.size,0,none⟩=some (.bool t)/\wx.cell? ⟨w.heap.size,1,none⟩=some (.slice u fl fc)/\wx.cell? ⟨w.heap.size,2,none⟩=some (.slice c f g)/\wx.cell? ⟨wc.heap.size,0,none⟩=some (.bool false)/\wx.cell? ⟨wc.heap.size,1,none⟩=some (.slice none 0 0)/\wx.cell? ⟨wc.heap.size,2,none⟩=some (.slice none 0 0)):=by
    intro wx hg;obtain ⟨z0,z1,z2⟩:=ZC.out p GG;obtain ⟨s0,s1,s2,s3,s4,s5,s6,s7,s8,s9,s10,s11,s12,s13,s14,s15,s16⟩:=a.out p G;have l:some w.heap.size≠some b:=fun e=>by have:=zJ e;omega
    have P:some wc.heap.size≠some b:=fun e=>by have:=zJ e;have:=(ab r F).size;omega
    exact ⟨hg.cell s0 l,hg.cell s1 l,hg.cell s2 l,hg.cell s3 l,hg.cell s4 l,hg.cell s5 l,hg.cell s6 l,hg.cell s7 l,hg.cell s8 l,hg.cell s9 l,hg.cell s10 l,hg.cell z0 P,hg.cell z1 P,hg.cell z2 P⟩
   obtain ⟨s0,s1,s2,s3,s4,s5,s6,s7,s8,s9,s10,s11,s12,s13⟩:=N.out p (ag _ _);have hZ:FQ p (.agg #[.bool false,.slice none 0 0,.slice none 0 0]) 0 L:=by
    have e1:rB 0=false:=rfl;have e2:rN 0=0:=rfl;have e3:(0:Rat).den=1:=rfl;unfold FQ;rw [e1,e2,e3];exact ⟨_,_,rfl,⟨[],Ws.nil _,rfl,rfl,Z⟩,.inl ⟨rfl,rfl⟩,rfl,Z⟩
   have HZ:=aa hZ;clear hZ;go_region_held3 (fun w'=>w'.cell? ⟨w.heap.size,3,none⟩=some (.func (.func 129) #[] #[])/\w'.cell? ⟨w.heap.size,4,none⟩=some (.func (.func 107) #[] #[])/\w'.cell? ⟨w.heap.size,5,none⟩=some (.func (.func 67) #[] #[])/\w'.cell? ⟨w.heap.size,6,none⟩=some (.func (.func 38) #[] #[])/\w'.cell? ⟨w.heap.size,7,none⟩=some (.func (.func 130) #[] #[])/\w'.cell? ⟨w.heap.size,8,none⟩=some (.func (.func 131) #[] #[])/\w'.cell? ⟨w.heap.size,9,none⟩=some (.func (.func 132) #[] #[])/\w'.cell? ⟨w.heap.size,10,none⟩=some (.func (.func 133) #[] #[])/\w'.cell? ⟨w.heap.size,0,none⟩=some (.bool t)/\w'.cell? ⟨w.heap.size,1,none⟩=some (.slice u fl fc)/\w'.cell? ⟨w.heap.size,2,none⟩=some (.slice c f g)/\w'.cell? ⟨wc.heap.size,0,none⟩=some (.bool false)/\w'.cell? ⟨wc.heap.size,1,none⟩=some (.slice none 0 0)/\w'.cell? ⟨wc.heap.size,2,none⟩=some (.slice none 0 0)) (go_keep)
    (first | (go_at_call 67;refine (dD _ _ 0 1 L L _ (HZ.keep0 zF) (H1.keep0 (ab r (ab G zF))) O).mono ?_;rintro e D ⟨va,rfl,pa,T⟩;have pa:=pa.tight (L':=L) K;obtain ⟨ao,al,ac,bo,bl,bc,rfl⟩:=pa.shape;have GG:p.grownBy D none:=ab zF T;obtain ⟨a0,a1,a2,a3,a4,a5,a6,a7,a8,a9,U,V,X,Y⟩:=N.out D (aO.of_gr (b:=b) GG).1) | (go_at_call 219;refine (nm _ _ _ b n cap R (0-1) _ L _ (J.keep0 (ab r (ab G zF))) (pa.keep0 zQ) hn HC hL C).mono ?_;rintro e wx ⟨rfl,fx,gx⟩;have RX:=(aO.of_gr (b:=b) (ab r (ab G zF))).trans gx;obtain ⟨x0,x1,x2,x3,x4,x5,x6,x7,x8,x9,he,hf,hj,hl⟩:=N.out wx ((aO.of_gr (b:=b) zF).trans gx).1))
   all_goals
    have FX:=aa fx;have Q:=aa RX;clear fx gx RX;go_wp2;go_end0
    refine ⟨rfl,FX.congr (fun i _=>?_),Q⟩;rw [M];grind
  ·have j:decide (R k+d=0)=false:=decide_eq_false B;rw [j];have M:Hid (ug (R k+d)=1):=by show _=_;unfold ug;rw [if_neg B]
   clear B j;go_wp2;go_end0
   refine ⟨rfl,(J.keep0 (ab r F)).congr (fun i _=>?_),aO.of_gr (ab r F)⟩;rw [M,Rat.one_mul]
def kV (R P:Nat->Rat) (k:Nat) (d:Rat):Nat->Rat:=fun i=>(P k*R i-R k*P i) / d
def fR (R P:Nat->Rat) (k:Nat) (d:Rat) (i:Nat):Nat->Rat:=fun j=>if j<i then kV R P k d j else R j
theorem yV (R P:Nat->Rat) (k:Nat) (d:Rat) (i j:Nat):aQ (fR R P k d i) i (kV R P k d i) j=fR R P k d (i+1) j:=by
 unfold aQ fR;by_cases h:j=i
 ·rw [if_pos h,if_pos O,h]
 ·rw [if_neg h];by_cases a:j<i
  ·rw [if_pos a,if_pos O]
  ·rw [if_neg a,if_neg O]
theorem yT {R P:Nat->Rat} (h:R i=0) (a:R k=0∨P i=0):kV R P k d i=R i:=by
 unfold kV;rcases a with a | a<;>rw [h,a]<;>grind
theorem xg {R P:Nat->Rat} (h:kV R P k d i=R i) (j:Nat):fR R P k d i j=fR R P k d (i+1) j:=by
 unfold fR;by_cases a:j<i
 ·rw [if_pos a,if_pos O]
 ·rw [if_neg a];by_cases c:j=i
  ·subst c;rw [if_pos O,h]
  ·rw [if_neg O]
def TakR (W:World) (b n:Nat) (R P:Nat->Rat) (k:Nat) (d:Rat) (L:Nat) (v:Value) (wr:World):Prop :=
 ∃ i:Nat,i<=n/\v=.int .i64 i/\aI wr b n (fR R P k d i) L/\aO W wr b
theorem sN (W:World) (c f g h j l:Value):W.grownBy ((W.alloc (Obj.cells #[c,f,g] 85)).alloc (Obj.cells #[h,j,l] 85)).drew none/\cM ((W.alloc (Obj.cells #[c,f,g] 85)).alloc (Obj.cells #[h,j,l] 85)).drew W.heap.size c f g/\cM ((W.alloc (Obj.cells #[c,f,g] 85)).alloc (Obj.cells #[h,j,l] 85)).drew (W.heap.size+1) h j l:=by
 have a:=aJ (w:=W) (ar (ae (ag (W.alloc (Obj.cells #[c,f,g] 85)) none) (Obj.cells #[h,j,l] 85)) 1);have b:=aJ (w:=W.alloc (Obj.cells #[c,f,g] 85)) (ar (ag ((W.alloc (Obj.cells #[c,f,g] 85)).alloc (Obj.cells #[h,j,l] 85)) none) 1);have e:(W.alloc (Obj.cells #[c,f,g] 85)).heap.size=W.heap.size+1:=Z
 rw [e] at b;exact ⟨ar (ae (ae (ag _ _) _) _) 1,a,b⟩
attribute [local simp] gY cM fT
theorem yU (fb:Bool) (fo hC:Option Addr) (fl fc hD hE:Nat) (b z n cap S k:Nat) (R P:Nat->Rat) (d:Rat) (lv:Value) (L:Nat) (w:World) (hr:aI w b n R L) (hp:aI w z n P L) (kg:b≠z) (hy:FQ w lv d L)
  (hk:k<n) (hn:n<=cap) (hc:cap<=maxLen) (hn2:n<=S) (hc2:S<=maxLen) (hL1:1<=L) (hL:L<=50000000) (hd:d≠0) (hfit:∀ i,i<n->bh L (kV R P k d i)) :
  Calls Tryz.prog 205 #[(kq fb (.slice fo fl fc) (.slice hC hD hE)),.slice (some ⟨b,0,none⟩) n cap,.slice (some ⟨z,0,none⟩) n S,.int .i64 (k:Nat),lv] w
   fun e w'=>e=.returned (.tuple #[])/\aI w' b n (kV R P k d) L/\aO w w' b:=by
 have HR:=aa hr;have HP:=aa hp;have HY:=aa hy;have HD:=aa hd;have HF:=aa hfit;unfold maxLen at hc hc2;have kH:=hr.lt;have kF:=hp.lt;obtain ⟨lo,U,lc,l,p,s,rfl⟩:=hy.shape;obtain ⟨t,u,x,a,c,f,c0,c1,c2,c3,_⟩:=hr.at k hk;obtain ⟨uo,A,B,C,D,E,e0,e1,e2,e3,_⟩:=hp.at k hk;have C3:=aa c3;have E3:=aa e3;clear hr hp hy c3 e3 hd hfit;obtain ⟨W,hW⟩:=eX ((w.alloc (Obj.cells #[.bool fb,.slice fo fl fc,.slice hC hD hE,.func (.func 129) #[] #[],.func (.func 107) #[] #[],.func (.func 67) #[] #[],.func (.func 38) #[] #[],.func (.func 130) #[] #[],.func (.func 131) #[] #[],.func (.func 132) #[] #[],.func (.func 133) #[] #[]] 128)).alloc (Obj.cells #[.bool (rB d),.slice lo U lc,.slice l p s] 85));have GW:Hid (w.grownBy W none):=by rw [hW];exact ae (ae (ag _ _) _) _
 have kk:Hid (W.heap.size=w.heap.size+2):=by show _=_;rw [hW];simp
 have Y:Hid (gY W (w.heap.size)/\cM W (w.heap.size+1) (.bool (rB d)) (.slice lo U lc) (.slice l p s)):=by
  have h2:=aJ (ag W none |> fun h=>by rw (occs:=.pos [1]) [hW] at h;exact h);rw [show ∀ o,(w.alloc o).heap.size=w.heap.size+1 from fun _=>by simp] at h2;exact ⟨(mg fb fo hC fl fc hD hE (by rw [hW];exact ae (ag _ _) _)).1,h2⟩
 have r:=(show fT w b k _ _ _ from ⟨c0,c1,c2⟩).k0 GW;have q:=(show fT w z k _ _ _ from ⟨e0,e1,e2⟩).k0 GW;clear c0 c1 c2 e0 e1 e2;go_enter Tryz.func205,Tryz.ntmps205
 go_upto_region 1 with fail;rw [<- hW];clear hW;have hI:=kk.out;have hM:¬ b=W.heap.size:=O
 have hN:¬ z=W.heap.size:=O
 have hQ:¬ W.heap.size=b:=O
 have hR:¬ W.heap.size=z:=O
 have kl:W.heap.size+1≠b:=O
 have kn:W.heap.size+1≠z:=O
 go_cut [10,11] (fun s10 s11 wx=>Hid (∃ gp gr,s10=.pointer (some ⟨gp,0,none⟩)/\s11=.pointer (some ⟨gr,0,none⟩)/\W.heap.size<=gp/\W.heap.size<=gr/\W.grownBy wx none/\cM wx (gp) (.bool (rB (P k))) (.slice uo A B) (.slice C D E)/\cM wx (gr) (.bool (rB (R k))) (.slice t u x) (.slice a c f)))
 case first =>
  go_region_held3 (fun w'=>fT w' b k (.bool (rB (R k))) (.slice t u x) (.slice a c f)/\fT w' z k (.bool (rB (P k))) (.slice uo A B) (.slice C D E)) (go_keep) (fail)
  all_goals (go_wp2_with fail;go_meet;first
   | (have T:=sN W (.bool (rB (P k))) (.slice uo A B) (.slice C D E) (.bool (rB (R k))) (.slice t u x) (.slice a c f);rw [hI] at T;exact ⟨_,_,rfl,rfl,O,O,T.1,T.2.1,T.2.2⟩)
   | (have T:=sN W (.bool (rB (R k))) (.slice t u x) (.slice a c f) (.bool (rB (P k))) (.slice uo A B) (.slice C D E);rw [hI] at T;exact ⟨_,_,rfl,rfl,O,O,T.1,T.2.2,T.2.1⟩))
 case rest =>
  obtain ⟨gp,gr,rfl,rfl,yv,hgr,g1,h1⟩:=hcut.out;have G1:=aa (ab GW g1);have I:Hid (∀ wx,wc.grownBy wx (some b)->gY wx (w.heap.size)/\cM wx (w.heap.size+1) (.bool (rB d)) (.slice lo U lc) (.slice l p s)/\cM wx (gp) (.bool (rB (P k))) (.slice uo A B) (.slice C D E)/\cM wx (gr) (.bool (rB (R k))) (.slice t u x) (.slice a c f)):=by
   intro wx hg;exact ⟨(Y.1.k0 g1).k hg (fun e=>by have:=zJ e;omega),(Y.2.k0 g1).k hg (fun e=>by have:=zJ e;omega),h1.1.k hg (fun e=>by have:=zJ e;omega),h1.2.k hg (fun e=>by have:=zJ e;omega)⟩
  have g:Hid (∀ wx,wc.grownBy wx none->gY wx (w.heap.size)/\cM wx (w.heap.size+1) (.bool (rB d)) (.slice lo U lc) (.slice l p s)/\cM wx (gp) (.bool (rB (P k))) (.slice uo A B) (.slice C D E)/\cM wx (gr) (.bool (rB (R k))) (.slice t u x) (.slice a c f)):=fun wx hg=>I wx (aO.of_gr hg).1
  have hS:=aa (HR.keep0 G1);have hT:=aa (HP.keep0 G1);have hF:=aa (HY.keep0 G1);have hu:=aa (C3.keep0 G1);have hG:=aa (E3.keep0 G1);have ko:Hid (w.heap.size+2<=wc.heap.size):=by show _<=_;have:=g1.size;omega
  have kN:Hid (gp<wc.heap.size/\gr<wc.heap.size):=⟨cJ h1.1.1,cJ h1.2.1⟩;have GG:wc.grownBy wc none:=ag _ _;have s0:=g.out wc GG;clear hcut h1 g1 r q Y hM hN hQ hR kl kn;go_wp2;go_cut [35] (fun s35 wx=>Hid (s35=.bool (decide (R k=0) && decide (P k-d=0))/\wc.grownBy wx none))
  case first =>
   by_cases h0:R k=0
   ·have hf:decide (R k=0)=true:=decide_eq_true h0;have hl:=aa hf;clear hf h0;go_region_held3 (fun w'=>gY w' (w.heap.size)/\cM w' (w.heap.size+1) (.bool (rB d)) (.slice lo U lc) (.slice l p s)/\cM w' (gp) (.bool (rB (P k))) (.slice uo A B) (.slice C D E)/\cM w' (gr) (.bool (rB (R k))) (.slice t u x) (.slice a c f)) (go_keep)
     (first | (go_at_call_of 131 (Value.agg #[.bool (rB (R k)),.slice t u x,.slice a c f]);refine (bn _ (R k) L _ (hu.keep0 (gx GG))).mono ?_;rintro e wa ⟨rfl,X⟩;rw [hl];have GG:=ab (gx GG) X;have ha:=g.out wa GG) | (go_at_call 67;refine (dD _ _ (P k) d L L _ (hG.keep0 (gx GG)) (hF.keep0 (gx GG)) O).mono ?_;rintro e wm ⟨vm,rfl,pm,gm⟩;obtain ⟨mo,ml,mc,kc,ke,kf,rfl⟩:=pm.shape;have GG:=ab (gx GG) gm;have hm:=g.out wm GG) | (go_at_call_of 131 (Value.agg #[.bool (rB (P k-d)),.slice mo ml mc,.slice kc ke kf]);refine (bn _ (P k-d) (L+L+2) _ (pm.keep0 zQ)).mono ?_;rintro e wz ⟨rfl,gz⟩;have GG:=ab (gx GG) gz;have hz:=g.out wz GG))
    all_goals (go_wp2_with fail;go_meet;exact ⟨by rw [hl,Bool.true_and],(gx GG)⟩)
   ·have hf:decide (R k=0)=false:=decide_eq_false h0;have hl:=aa hf;clear hf h0;refine hd (fun w'=>gY w' (w.heap.size)/\cM w' (w.heap.size+1) (.bool (rB d)) (.slice lo U lc) (.slice l p s)/\cM w' (gp) (.bool (rB (P k))) (.slice uo A B) (.slice C D E)/\cM w' (gr) (.bool (rB (R k))) (.slice t u x) (.slice a c f)) (fun hHeld=>?_);refine tk 11 [(0,22,.pointer (some ⟨w.heap.size,8,none⟩)),(1,23,.func (.func 131) #[] #[]),(2,24,Value.agg #[.bool (rB (R k)),.slice t u x,.slice a c f])] ?_;try simp only [pA,pL,vA,vL,q0,q1,q2,q3]
    refine cQ 10 3 (fun K y=>?_);simp only [ax,q4,q5,q6,q7];go_simp
    go_at_call_of 131 (Value.agg #[.bool (rB (R k)),.slice t u x,.slice a c f])
    refine (bn _ (R k) L _ (hu.keep0 (gx GG))).mono ?_;rintro e wa ⟨rfl,X⟩;rw [hl];have GG:=ab (gx GG) X;have ha:=g.out wa GG;go_wp2_with fail;refine bk y (fun hHeld=>?_);clear y K;refine tk 9 [(4,26,.bool false)] ?_;refine sk 1 [(5,27),(6,28),(7,29),(8,30),(9,31),(10,32),(11,33),(12,34)] ?_;try simp only [pA,pL,vA,vL,q0,q1,q2,q3]
    refine tk 0 [(13,35,.bool false)] ?_;try simp only [pA,pL,vA,vL,q0,q1,q2,q3]
    refine wpAnyH_done zK ?_ _
    (go_wp2_with fail;go_meet;exact ⟨by rw [hl,Bool.false_and],(gx GG)⟩)
  case rest =>
   obtain ⟨rfl,g2⟩:=hcut.out;have G2:=aa g2;clear hcut g2 GG s0;have hw:Hid (∀ wx,wc.grownBy wx (some b)->gY wx (w.heap.size)/\cM wx (w.heap.size+1) (.bool (rB d)) (.slice lo U lc) (.slice l p s)/\cM wx (gp) (.bool (rB (P k))) (.slice uo A B) (.slice C D E)/\cM wx (gr) (.bool (rB (R k))) (.slice t u x) (.slice a c f)):=fun wx hg=>I wx (aj (r:=some b) G2 hg nofun (fun _ _ e=>e))
   have hX:=aa (hS.keep0 G2);have ks:=aa (hT.keep0 G2);have ku:=aa (hF.keep0 G2);have hH:=aa (hu.keep0 G2);have kw:=aa (hG.keep0 G2);have hY:=aa (ab G1 G2);have ka:w.heap.size+2<=wc.heap.size:=Nat.le_trans ko G2.size;clear hS hT hF hu hG I g HR HP HY C3 E3;by_cases V:R k=0/\P k-d=0
   ·have hb:(decide (R k=0) && decide (P k-d=0))=true:=by simp [V]
    rw [hb];have HS:=aa V;clear V hb;go_wp2;refine bodyPost_ret (v:=.tuple #[]) (by simp [results,Tryz.results205,go_sem]) rfl ?_;refine ⟨rfl,hX.congr (fun i _=>?_),aO.of_gr hY⟩;obtain ⟨h1,h2⟩:=HS.out;have ky:P k=d:=by grind
    have hd:=HD.out;unfold kV;have e:d*R i-0*P i=R i*d:=by grind
    rw [h1,ky,e,Rat.mul_div_cancel hd]
   ·have hb:(decide (R k=0) && decide (P k-d=0))=false:=by
     rw [Bool.and_eq_false_iff];by_cases h1:R k=0
     ·right;exact decide_eq_false (fun h2=>V ⟨h1,h2⟩)
     ·left;exact decide_eq_false h1
    rw [hb];clear V hb;go_wp2;go_loopw [38] (fun v wr=>Hid (TakR wc b n R P k d L v wr)) (fun v _=>n-(intOf v).toNat)
    case atStart=>exact ⟨0,O,rfl,hX.congr (fun i _=>by unfold fR;rw [if_neg O]),aO.refl _ _⟩
    case round =>
     obtain ⟨i,hi,rfl,l1,l2⟩:=hrel.out;have L1:=aa l1;have L2:=aa l2;clear l1 l2 hrel;by_cases hlt:i<n
     ·have kb:fR R P k d i i=R i:=by unfold fR;rw [if_neg O]
      obtain ⟨M,N,Q,F,G,H,c0,c1,c2,c3,_⟩:=L1.out.at i hlt;rw [kb] at c0 c3;obtain ⟨po,pl,pc,qo,ql,qc,e0,e1,e2,e3,_⟩:=(ks.keep L2.1 L2.2 (fun e=>kg (zJ e).symm)).at i hlt;have X3:=aa c3;have Q3:=aa e3;clear c3 e3 kb;go_upto_region 6 with fail;obtain ⟨w2,hB⟩:=eX (wr.alloc (Obj.cells #[.bool (rB (R i)),.slice M N Q,.slice F G H] 85));have G3:Hid (wr.grownBy w2 none):=by rw [hB];exact ae (ag _ _) _
      have CX:Hid (∀ wx,w2.grownBy wx none->(gY wx (w.heap.size)/\cM wx (w.heap.size+1) (.bool (rB d)) (.slice lo U lc) (.slice l p s)/\cM wx (gp) (.bool (rB (P k))) (.slice uo A B) (.slice C D E)/\cM wx (gr) (.bool (rB (R k))) (.slice t u x) (.slice a c f))/\cM wx (wr.heap.size) (.bool (rB (R i))) (.slice M N Q) (.slice F G H)/\fT wx z i (.bool (rB (P i))) (.slice po pl pc) (.slice qo ql qc)):=by
       intro wx hg;have hgr:=ab G3 hg;have s0:=hw.out wx (L2.gr hgr).1;rw [hB] at hg;exact ⟨s0,aJ hg,(show fT _ _ _ _ _ _ from ⟨e0,e1,e2⟩).k0 hgr⟩
      have RB:Hid (∀ wx,w2.grownBy wx none->aI wx b n (fR R P k d i) L/\fT wx b i (.bool (rB (R i))) (.slice M N Q) (.slice F G H)):=by
       intro wx hg;have hgr:=ab G3 hg;exact ⟨L1.keep0 hgr,(show fT _ _ _ _ _ _ from ⟨c0,c1,c2⟩).k0 hgr⟩
      rw [<- hB];clear hB c0 c1 c2 e0 e1 e2;have kS:w.heap.size+2<=wr.heap.size:=Nat.le_trans ka L2.1.size;have X2:=aa (X3.keep0 G3);have Q2:=aa (Q3.keep0 G3);have KL:=aa ((L2.gr G3).2);have GG:w2.grownBy w2 none:=ag _ _;have s0:=CX.out w2 GG;go_cut [61] (fun s61 wx=>Hid (s61=.bool (decide (R i=0) && (decide (R k=0) || decide (P i=0)))/\w2.grownBy wx none))
      case first =>
       by_cases hx:R i=0
       ·have J:Hid (decide (R i=0)=true):=decide_eq_true hx;clear hx;by_cases hA:R k=0
        ·have ho:Hid (decide (R k=0)=true):=decide_eq_true hA;clear hA;refine hd (fun w'=>(gY w' (w.heap.size)/\cM w' (w.heap.size+1) (.bool (rB d)) (.slice lo U lc) (.slice l p s)/\cM w' (gp) (.bool (rB (P k))) (.slice uo A B) (.slice C D E)/\cM w' (gr) (.bool (rB (R k))) (.slice t u x) (.slice a c f))/\cM w' (wr.heap.size) (.bool (rB (R i))) (.slice M N Q) (.slice F G H)/\fT w' z i (.bool (rB (P i))) (.slice po pl pc) (.slice qo ql qc)) (fun hHeld=>?_);refine tk 16 [(0,43,.pointer (some ⟨w.heap.size,8,none⟩)),(1,44,.func (.func 131) #[] #[]),(2,45,Value.agg #[.bool (rB (R i)),.slice M N Q,.slice F G H])] ?_;try simp only [pA,pL,vA,vL,q0,q1,q2,q3]
         refine cQ 15 3 (fun K y=>?_);simp only [ax,q4,q5,q6,q7];go_simp
         go_at_call_of 131 (Value.agg #[.bool (rB (R i)),.slice M N Q,.slice F G H])
         refine (bn _ (R i) L _ (X2.keep0 (gx GG))).mono ?_;rintro e wa ⟨rfl,X⟩;rw [J];have GG:=ab (gx GG) X;have ha:=CX.out wa GG;go_wp2_with fail;refine bk y (fun hHeld=>?_);clear y K;refine tk 11 [(4,47,.bool true),(5,48,.pointer (some ⟨w.heap.size,8,none⟩)),(6,49,.func (.func 131) #[] #[]),(7,50,Value.agg #[.bool (rB (R k)),.slice t u x,.slice a c f])] ?_;try simp only [pA,pL,vA,vL,q0,q1,q2,q3]
         refine cQ 10 8 (fun K y=>?_);simp only [ax,q4,q5,q6,q7];go_simp
         go_at_call_of 131 (Value.agg #[.bool (rB (R k)),.slice t u x,.slice a c f])
         refine (bn _ (R k) L _ ((hH.kept KL).keep0 (gx GG))).mono ?_;rintro e wz ⟨rfl,gz⟩;rw [ho];have GG:=ab (gx GG) gz;have hz:=CX.out wz GG;go_wp2_with fail;refine bk y (fun hHeld=>?_);clear y K;refine tk 9 [(9,52,.bool true)] ?_;refine sk 2 [(10,53),(11,54),(12,55),(13,56),(14,57),(15,58),(16,59)] ?_;try simp only [pA,pL,vA,vL,q0,q1,q2,q3]
         refine tk 0 [(17,60,.bool true),(18,61,.bool true)] ?_;try simp only [pA,pL,vA,vL,q0,q1,q2,q3]
         refine wpAnyH_done zK ?_ _
         (go_wp2_with fail;go_meet;exact ⟨by rw [J,ho,Bool.true_and,Bool.true_or],(gx GG)⟩)
        ·have ho:Hid (decide (R k=0)=false):=decide_eq_false hA;clear hA;refine hd (fun w'=>(gY w' (w.heap.size)/\cM w' (w.heap.size+1) (.bool (rB d)) (.slice lo U lc) (.slice l p s)/\cM w' (gp) (.bool (rB (P k))) (.slice uo A B) (.slice C D E)/\cM w' (gr) (.bool (rB (R k))) (.slice t u x) (.slice a c f))/\cM w' (wr.heap.size) (.bool (rB (R i))) (.slice M N Q) (.slice F G H)/\fT w' z i (.bool (rB (P i))) (.slice po pl pc) (.slice qo ql qc)) (fun hHeld=>?_);refine tk 16 [(0,43,.pointer (some ⟨w.heap.size,8,none⟩)),(1,44,.func (.func 131) #[] #[]),(2,45,Value.agg #[.bool (rB (R i)),.slice M N Q,.slice F G H])] ?_;try simp only [pA,pL,vA,vL,q0,q1,q2,q3]
         refine cQ 15 3 (fun K y=>?_);simp only [ax,q4,q5,q6,q7];go_simp
         go_at_call_of 131 (Value.agg #[.bool (rB (R i)),.slice M N Q,.slice F G H])
         refine (bn _ (R i) L _ (X2.keep0 (gx GG))).mono ?_;rintro e wa ⟨rfl,X⟩;rw [J];have GG:=ab (gx GG) X;have ha:=CX.out wa GG;go_wp2_with fail;refine bk y (fun hHeld=>?_);clear y K;refine tk 11 [(4,47,.bool true),(5,48,.pointer (some ⟨w.heap.size,8,none⟩)),(6,49,.func (.func 131) #[] #[]),(7,50,Value.agg #[.bool (rB (R k)),.slice t u x,.slice a c f])] ?_;try simp only [pA,pL,vA,vL,q0,q1,q2,q3]
         refine cQ 10 8 (fun K y=>?_);simp only [ax,q4,q5,q6,q7];go_simp
         go_at_call_of 131 (Value.agg #[.bool (rB (R k)),.slice t u x,.slice a c f])
         refine (bn _ (R k) L _ ((hH.kept KL).keep0 (gx GG))).mono ?_;rintro e wz ⟨rfl,gz⟩;rw [ho];have GG:=ab (gx GG) gz;have hz:=CX.out wz GG;go_wp2_with fail;refine bk y (fun hHeld=>?_);clear y K;refine tk 3 [(9,52,.bool false),(10,53,.pointer (some ⟨w.heap.size,8,none⟩)),(11,54,.func (.func 131) #[] #[]),(12,55,.slice (some ⟨z,0,none⟩) n S),(13,56,.int .i64 (i:Nat)),(14,57,.pointer (some ⟨z,i*3,none⟩)),(15,58,Value.agg #[.bool (rB (P i)),.slice po pl pc,.slice qo ql qc])] ?_;try simp only [pA,pL,vA,vL,q0,q1,q2,q3]
         refine cQ 2 16 (fun K y=>?_);simp only [ax,q4,q5,q6,q7];go_simp
         go_at_call_of 131 (Value.agg #[.bool (rB (P i)),.slice po pl pc,.slice qo ql qc])
         refine (bn _ (P i) L _ (Q2.keep0 (gx GG))).mono ?_;rintro e wv ⟨rfl,gv⟩;have GG:=ab (gx GG) gv;have hv:=CX.out wv GG;go_wp2_with fail;refine bk y (fun hHeld=>?_);clear y K;refine tk 0 [(17,60,.bool (decide (P i=0))),(18,61,.bool (decide (P i=0)))] ?_;try simp only [pA,pL,vA,vL,q0,q1,q2,q3]
         refine wpAnyH_done zK ?_ _
         (go_wp2_with fail;go_meet;exact ⟨by rw [J,ho,Bool.true_and,Bool.false_or],(gx GG)⟩)
       ·have J:Hid (decide (R i=0)=false):=decide_eq_false hx;clear hx;refine hd (fun w'=>(gY w' (w.heap.size)/\cM w' (w.heap.size+1) (.bool (rB d)) (.slice lo U lc) (.slice l p s)/\cM w' (gp) (.bool (rB (P k))) (.slice uo A B) (.slice C D E)/\cM w' (gr) (.bool (rB (R k))) (.slice t u x) (.slice a c f))/\cM w' (wr.heap.size) (.bool (rB (R i))) (.slice M N Q) (.slice F G H)/\fT w' z i (.bool (rB (P i))) (.slice po pl pc) (.slice qo ql qc)) (fun hHeld=>?_);refine tk 16 [(0,43,.pointer (some ⟨w.heap.size,8,none⟩)),(1,44,.func (.func 131) #[] #[]),(2,45,Value.agg #[.bool (rB (R i)),.slice M N Q,.slice F G H])] ?_;try simp only [pA,pL,vA,vL,q0,q1,q2,q3]
        refine cQ 15 3 (fun K y=>?_);simp only [ax,q4,q5,q6,q7];go_simp
        go_at_call_of 131 (Value.agg #[.bool (rB (R i)),.slice M N Q,.slice F G H])
        refine (bn _ (R i) L _ (X2.keep0 (gx GG))).mono ?_;rintro e wa ⟨rfl,X⟩;rw [J];have GG:=ab (gx GG) X;have ha:=CX.out wa GG;go_wp2_with fail;refine bk y (fun hHeld=>?_);clear y K;refine tk 14 [(4,47,.bool false)] ?_;refine sk 1 [(5,48),(6,49),(7,50),(8,51),(9,52),(10,53),(11,54),(12,55),(13,56),(14,57),(15,58),(16,59),(17,60)] ?_;try simp only [pA,pL,vA,vL,q0,q1,q2,q3]
        refine tk 0 [(18,61,.bool false)] ?_;try simp only [pA,pL,vA,vL,q0,q1,q2,q3]
        refine wpAnyH_done zK ?_ _
        (go_wp2_with fail;go_meet;exact ⟨by rw [J,Bool.false_and],(gx GG)⟩)
      case rest =>
       obtain ⟨rfl,g4⟩:=hcut.out;have G4:=aa g4;clear hcut g4 GG s0;by_cases V:R i=0/\(R k=0∨P i=0)
       ·have hb:(decide (R i=0) && (decide (R k=0) || decide (P i=0)))=true:=by
         obtain ⟨h1,h2⟩:=V;rw [decide_eq_true h1,Bool.true_and,Bool.or_eq_true];rcases h2 with h2 | h2
         ·left;exact decide_eq_true h2
         ·right;exact decide_eq_true h2
        rw [hb];have HS:=aa V;clear V hb;go_wp2;go_roundw
        case rel=>exact ⟨i+1,O,zN,(L1.keep0 (ab G3 G4)).congr (fun j _=>xg (yT HS.1 HS.2) j),L2.gr (ab G3 G4)⟩
        case measure=>exact bO
       ·have hb:(decide (R i=0) && (decide (R k=0) || decide (P i=0)))=false:=by
         rw [Bool.and_eq_false_iff];by_cases h1:R i=0
         ·right
          rw [Bool.or_eq_false_iff];exact ⟨decide_eq_false (fun h=>V ⟨h1,.inl h⟩),decide_eq_false (fun h=>V ⟨h1,.inr h⟩)⟩
         ·left;exact decide_eq_false h1
        rw [hb];clear V hb;have X4:=aa (X2.keep0 G4);have Q4:=aa (Q2.keep0 G4);have K4:=aa (KL.trans (aN.of_gr G4));have hq:Hid (∀ wx,wc.grownBy wx none->(gY wx (w.heap.size)/\cM wx (w.heap.size+1) (.bool (rB d)) (.slice lo U lc) (.slice l p s)/\cM wx (gp) (.bool (rB (P k))) (.slice uo A B) (.slice C D E)/\cM wx (gr) (.bool (rB (R k))) (.slice t u x) (.slice a c f))/\cM wx (wr.heap.size) (.bool (rB (R i))) (.slice M N Q) (.slice F G H)/\fT wx z i (.bool (rB (P i))) (.slice po pl pc) (.slice qo ql qc)):=fun wx hg=>CX wx (ab G4 hg)
        have kz:Hid (∀ wx,wc.grownBy wx none->aI wx b n (fR R P k d i) L/\fT wx b i (.bool (rB (R i))) (.slice M N Q) (.slice F G H)):=fun wx hg=>RB wx (ab G4 hg)
        have qa:b≠w.heap.size:=O
        have qb:b≠w.heap.size+1:=O
        have qf:b≠gp:=O
        have qq:b≠gr:=O
        have qs:b≠wr.heap.size:=O
        have GG:wc.grownBy wc none:=ag _ _;have s0:=hq.out wc GG;go_wp2;go_region_held3 (fun w'=>(gY w' (w.heap.size)/\cM w' (w.heap.size+1) (.bool (rB d)) (.slice lo U lc) (.slice l p s)/\cM w' (gp) (.bool (rB (P k))) (.slice uo A B) (.slice C D E)/\cM w' (gr) (.bool (rB (R k))) (.slice t u x) (.slice a c f))/\cM w' (wr.heap.size) (.bool (rB (R i))) (.slice M N Q) (.slice F G H)/\fT w' z i (.bool (rB (P i))) (.slice po pl pc) (.slice qo ql qc)) (go_keep)
         (first | (go_at_call_of 38 (Value.agg #[.bool (rB (P k)),.slice uo A B,.slice C D E]);refine (fj _ _ (P k) (R i) L L _ ((kw.kept K4).keep0 (gx GG)) (X4.keep0 (gx GG)) O).mono ?_;rintro e wa ⟨va,rfl,pa,X⟩;obtain ⟨ao,al,ac,jc,jl,jo,rfl⟩:=pa.shape;(try have pe:=pe.keep0 (ab zQ X));have GG:=ab (gx GG) X;have ha:=hq.out wa GG) | (go_at_call_of 38 (Value.agg #[.bool (rB (R k)),.slice t u x,.slice a c f]);refine (fj _ _ (R k) (P i) L L _ ((hH.kept K4).keep0 (gx GG)) (Q4.keep0 (gx GG)) O).mono ?_;rintro e we ⟨ve,rfl,pe,ge⟩;obtain ⟨eo,el,ec,jp,js,jv,rfl⟩:=pe.shape;(try have pa:=pa.keep0 (ab zQ ge));have GG:=ab (gx GG) ge;have he:=hq.out we GG) | (go_at_call 67;refine (dD _ _ (P k*R i) (R k*P i) (L+L+1) (L+L+1) _ (pa.keep0 zQ) (pe.keep0 zQ) O).mono ?_;rintro e wm ⟨vm,rfl,pm,gm⟩;obtain ⟨mo,ml,mc,kc,ke,kf,rfl⟩:=pm.shape;have GG:=ab (gx GG) gm;have hm:=hq.out wm GG) | (go_at_call 130;refine (qy _ _ (P k*R i-R k*P i) d (L+L+1+(L+L+1)+2) L _ (pm.keep0 zQ) ((ku.kept K4).keep0 (gx GG)) HD O).mono ?_;rintro e wy ⟨vy,rfl,py,gy⟩;obtain ⟨F,G,H,md,mm,mp,rfl⟩:=py.shape;have GG:=ab (gx GG) gy;have hy:=hq.out wy GG;have py:=py.tight (L':=L) (HF i hlt);obtain ⟨fr,t0⟩:=kz.out wy GG;obtain ⟨_,_,_,_,_,_,_,_,_,_,tf⟩:=fr.at i hlt;have ya:=tf (i*3);have yb:=tf (i*3+1);have yn:=tf (i*3+2);clear tf))
        all_goals
         have FR:=aa fr;have PY:=aa py;have GF:=aa (ab (ab G3 G4) GG);clear fr py GG;go_wp2;go_roundw
         case rel =>
          obtain ⟨r1,r2,r3⟩:=FR.out.set i hlt PY;exact ⟨i+1,O,zN,r1.congr (fun j _=>yV R P k d i j),(L2.gr GF).trans ⟨r2,r3⟩⟩
         case measure=>exact bO
     ·obtain rfl:i=n:=O
      go_wp2;go_end0
      exact ⟨rfl,L1.congr (fun j hj=>by unfold fR;rw [if_pos hj]),(aO.of_gr hY).trans L2⟩
structure bU (w:World) (br m n:Nat) (bs cs:Nat->Nat) (R:Nat->Nat->Rat) (L:Nat):Prop where
 top:∃ cur e,w.heap[br]? = some (.cells cur e (0,0))/\∀ i,i<m->cur[i]? = some (.slice (some ⟨bs i,0,none⟩) n (cs i))
 cap:∀ i,i<m->n<=cs i/\cs i<=maxLen
 row:∀ i,i<m->aI w (bs i) n (R i) L
 inj:∀ i j,i<m->j<m->bs i=bs j->i=j
 off:∀ i,i<m->bs i≠br
theorem bU.lt (h:bU w br m n bs cs R L):br<w.heap.size:=by
 obtain ⟨cur,e,hb,_⟩:=h.top;exact (zZ hb).1
theorem bU.cell (h:bU w br m n bs cs R L) (i:Nat) (hi:i<m) :
  w.cell? ⟨br,i,none⟩=some (.slice (some ⟨bs i,0,none⟩) n (cs i))/\∀ k,w.frozen? ⟨br,k,none⟩=false:=by
 obtain ⟨cur,e,hb,hc⟩:=h.top;exact ⟨by simp only [World.cell?,hb];exact hc i hi,fun k=>by simp [World.frozen?,hb]⟩
theorem bU.keep0 (h:bU w br m n bs cs R L) (g:w.grownBy w' none):bU w' br m n bs cs R L:=by
 have a:=h.lt;obtain ⟨cur,e,hb,hc⟩:=h.top;exact ⟨⟨cur,e,by rw [g.block br a Z];exact hb,hc⟩,h.cap,fun i hi=>(h.row i hi).keep0 g,h.inj,h.off⟩
theorem bU.congr {R':Nat->Nat->Rat} (h:bU w br m n bs cs R L) (e:∀ i,i<m->∀ j,j<n->R i j=R' i j):bU w br m n bs cs R' L :=
 ⟨h.top,h.cap,fun i hi=>(h.row i hi).congr (e i hi),h.inj,h.off⟩
theorem bU.step (h:bU w br m n bs cs R L) (hi:i<m) {Q:Nat->Rat} (f:aI w' (bs i) n Q L) (g:aO w w' (bs i)) :
  bU w' br m n bs cs (fun j=>if j=i then Q else R j) L:=by
 have l:=h.lt;obtain ⟨cur,e,hb,hc⟩:=h.top;refine ⟨⟨cur,e,by rw [g.1.block br l (fun e=>h.off i hi (zJ e).symm)];exact hb,hc⟩,h.cap,fun j c=>?_,h.inj,h.off⟩;by_cases a:j=i
 ·subst a;simp only [if_true];exact f
 ·simp only [if_neg a];exact (h.row j c).keep g.1 g.2 (fun e=>a (h.inj j i c hi (zJ e)))
theorem bU.keepR (h:bU w br m n bs cs R L) (g:aO w w' b) (a:br≠b) (c:∀ i,i<m->bs i≠b):bU w' br m n bs cs R L:=by
 have f:=h.lt;obtain ⟨cur,e,hb,hc⟩:=h.top;exact ⟨⟨cur,e,by rw [g.1.block br f (fun e=>a (zJ e))];exact hb,hc⟩,h.cap,fun i hi=>(h.row i hi).keep g.1 g.2 (fun e=>c i hi (zJ e)),h.inj,h.off⟩
theorem aI.mono {L':Nat} {R:Nat->Rat} (h:aI w b n R L) (a:L<=L'):aI w b n R L':=by
 obtain ⟨cur,e,hb,hc⟩:=h;refine ⟨cur,e,hb,fun i hi=>?_⟩;obtain ⟨u,d,c0,c1,c2,c3⟩:=hc i hi;exact ⟨u,d,c0,c1,c2,c3.mono a⟩
def StuckE (w:World) (m done:Nat) (R:Nat->Nat->Rat) (e:Ending) (w':World):Prop :=
 ∃ c:Int,e=.returned (.int .i64 c)/\((c=7/\∃ i,done<=i/\i<m/\R i m≠0)∨(c=8/\∀ i,done<=i->i<m->R i m=0))/\w.grownBy w' none
def StkR (W:World) (m done:Nat) (R:Nat->Nat->Rat) (v:Value) (wr:World):Prop :=
 ∃ i:Nat,done+i<=m/\v=.int .i64 i/\(∀ j,done<=j->j<done+i->R j m=0)/\W.grownBy wr none
theorem Ey (B:Bool) (C g:Option Addr) (fl fc h l:Nat) (br m cap done:Nat) (bs cs:Nat->Nat) (R:Nat->Nat->Rat) (L:Nat) (w:World) (u:bU w br m (m+1) bs cs R L) (hd:done<=m) (hm:m<=1000) (hc:m<=cap) (x:cap<=maxLen) :
  Calls Tryz.prog 203 #[(kq B (.slice C fl fc) (.slice g h l)),.slice (some ⟨br,done,none⟩) (m-done) (cap-done)] w fun e w'=>StuckE w m done R e w':=by
 unfold maxLen at x;have D:=aa u;have he:=u.lt;clear u;obtain ⟨W,s⟩:=eX (w.alloc (Obj.cells #[.bool B,.slice C fl fc,.slice g h l,.func (.func 129) #[] #[],.func (.func 107) #[] #[],.func (.func 67) #[] #[],.func (.func 38) #[] #[],.func (.func 130) #[] #[],.func (.func 131) #[] #[],.func (.func 132) #[] #[],.func (.func 133) #[] #[]] 128));have y:Hid (w.grownBy W none):=by rw [s];exact ae (ag _ _) _
 have FC:Hid (∀ wx,W.grownBy wx none->wx.cell? ⟨w.heap.size,8,none⟩=some (.func (.func 131) #[] #[])):=by
  intro wx hg;rw [s] at hg;exact hg.cell zG Z
 have E:=aa (D.keep0 y);go_enter Tryz.func203,Tryz.ntmps203
 go_wp2;rw [<- s];clear s;go_loopw [9] (fun v wr=>Hid (StkR W m done R v wr)) (fun v _=>m-done-(intOf v).toNat)
 case atStart=>exact ⟨0,O,rfl,fun j t h2=>O,ag _ _⟩
 case round =>
  obtain ⟨i,hi,rfl,Q,S⟩:=hrel.out;have F:=aa Q;have c:=aa S;clear Q S hrel;by_cases hlt:done+i<m
  ·have p:i<m-done:=O
   have z:=(D.cap (done+i) hlt);obtain ⟨T,r⟩:=z;unfold maxLen at r;have ct:=((E.keep0 c).cell (done+i) hlt).1;obtain ⟨uo,U,V,X,Y,vc,c0,c1,c2,c3,_⟩:=((E.keep0 c).row (done+i) hlt).at m O;have C3:=aa c3;have G:Hid (∀ wx,wr.grownBy wx none->wx.cell? ⟨w.heap.size,8,none⟩=some (.func (.func 131) #[] #[])/\wx.cell? ⟨bs (done+i),m*3,none⟩=some (.bool (rB (R (done+i) m)))/\wx.cell? ⟨bs (done+i),m*3+1,none⟩=some (.slice uo U V)/\wx.cell? ⟨bs (done+i),m*3+2,none⟩=some (.slice X Y vc)):=by
    intro wx hg;exact ⟨FC wx (ab c hg),hg.cell c0 Z,hg.cell c1 Z,hg.cell c2 Z⟩
   clear c0 c1 c2 c3;have GG:wr.grownBy wr none:=ag _ _;have H:IntKind.i64.wrap (((m+1:Nat):Int)-1)=(m:Int):=by rw [IntWalk.i64_in _ ⟨O,O⟩];omega
   have I:IntKind.i64.wrap ((m:Int)+1-1)=(m:Int):=by rw [IntWalk.i64_in _ ⟨O,O⟩];omega
   have J:IntKind.i64.wrap (m:Int)=(m:Int):=IntWalk.i64_in _ ⟨O,O⟩;have K:(0:Int)<=(m:Int):=O
   have M:(m:Int)<(m:Int)+1:=O
   obtain ⟨s0,s1,s2,s3⟩:=G.out wr GG;go_wp2;go_cut [22] (fun s22 wx=>Hid (s22=.bool (!(decide (R (done+i) m=0)))/\wr.grownBy wx none))
   case first =>
    go_region_held3 (fun w'=>w'.cell? ⟨w.heap.size,8,none⟩=some (.func (.func 131) #[] #[])/\w'.cell? ⟨bs (done+i),m*3,none⟩=some (.bool (rB (R (done+i) m)))/\w'.cell? ⟨bs (done+i),m*3+1,none⟩=some (.slice uo U V)/\w'.cell? ⟨bs (done+i),m*3+2,none⟩=some (.slice X Y vc)) (go_keep)
     (first | (go_at_call 131;refine (bn _ (R (done+i) m) L _ (C3.keep0 zF)).mono ?_;rintro e wa ⟨rfl,ga⟩;have GG:wr.grownBy wa none:=ab zF ga;obtain ⟨a0,a1,a2,a3⟩:=G.out wa GG))
    all_goals (go_wp2_with fail;go_meet;exact ⟨rfl,zF⟩)
   case rest =>
    obtain ⟨rfl,g2⟩:=hcut.out;have N:=aa g2;clear hcut g2 GG s0 s1 s2 s3;by_cases f:R (done+i) m=0
    ·have a:(!(decide (R (done+i) m=0)))=false:=by simp [f]
     rw [a];have A:=aa f;clear f a;go_wp2;go_roundw
     case rel =>
      refine ⟨i+1,O,zN,fun j t h2=>?_,ab c N⟩;by_cases hj:j=done+i
      ·rw [hj];exact A
      ·exact F j t O
     case measure=>exact bO
    ·have a:(!(decide (R (done+i) m=0)))=true:=by simp [f]
     rw [a];have A:=aa f;clear f a;go_wp2;refine bodyPost_ret (v:=.int .i64 7) (by simp [results,Tryz.results203,go_sem]) rfl ?_;exact ⟨7,rfl,.inl ⟨rfl,done+i,O,hlt,A⟩,ab y (ab c N)⟩
  ·have p:i=m-done:=O
   have P:¬ (i<m-done):=O
   go_wp2;refine bodyPost_ret (v:=.int .i64 8) (by simp [results,Tryz.results203,go_sem]) rfl ?_;exact ⟨8,rfl,.inr ⟨rfl,fun j t h2=>F j t O⟩,ab y c⟩
theorem bN (w:World) (L:Nat):FQ w (.agg #[.bool (rB 0),.slice none 0 0,.slice none 0 0]) 0 L:=by
 have a:rN 0=0:=rfl;have c:(0:Rat).den=1:=rfl;unfold FQ;rw [a,c];exact ⟨_,_,rfl,⟨[],Ws.nil _,rfl,rfl,Z⟩,.inl ⟨rfl,rfl⟩,rfl,zD⟩
theorem Tryz.infoF:(Tryz.prog.info? 85).map (fun i=>(i.zero,i.size,i.bytes))=some (some (.agg #[.bool false,.slice none 0 0,.slice none 0 0]),3,56):=zK
theorem lY {P:Program} (w:World) {p:Array Oper} {rest:List Oper} {o:Oper} {a:Act} {Q:Exit->Act->World->Prop}
  (hg:o.guard=none) (l c:Operand) (t:TypeId) (hop:o.op=Op.makeSlice t l c)
  (h1:P.underlying t=some (.slice 85)) (hinfo:(P.info? 85).map (fun i=>(i.zero,i.size,i.bytes))=some (some (.agg #[.bool false,.slice none 0 0,.slice none 0 0]),3,56))
  (kl kc:IntKind) (L C:Int) (n:Nat) (hl:a.eval l=.int kl L) (hc:a.eval c=.int kc C) (hL:L=(n:Int)) (hC:C=(n:Int)) (b2:n<=1000000)
  (hK:∀ w',aI w' w.heap.size n (fun _=>0) 0->w.grownBy w' none->wpList P p Q rest (a.put o.dst (.slice (some ⟨w.heap.size,0,none⟩) n n)) w') :
  wpList P p Q (o :: rest) a w:=by
 obtain ⟨i,hi,u,x,y⟩:=info_parts hinfo;refine wpList_make_full w hg l c t hop w.heap.size 85 i _ 3 h1 hi u x kl kc L C n hl hc hL hC (by rw [y];omega) (by unfold maxLen;omega) zL ?_;intro w' r s;refine hK w' ?_ s;obtain ⟨_,h⟩:=r;rcases h with ⟨h,_⟩ | ⟨g,cap,cur,h,_,hh,_,_,z,A⟩
 ·simp at h
 ·simp only [Value.slice.injEq,zI,Addr.mk.injEq,and_true,true_and] at h;obtain ⟨rfl,rfl⟩:=h;have f:cur=madeCells (Value.agg #[.bool false,.slice none 0 0,.slice none 0 0]).cells (n*3):=by
   apply Array.ext';rw [<- A,zT (by simp [z])]
  refine ⟨cur,_,hh,fun j B=>⟨.slice none 0 0,.slice none 0 0,?_,?_,?_,bN _ _⟩⟩
  ·rw [f];have e:j*3 % 3=0:=O
   simp only [madeCells,Value.cells,Array.getElem?_map];rw [Array.getElem?_eq_getElem (by simp;omega)];simp [e];rfl
  ·rw [f];have e:(j*3+1) % 3=1:=O
   simp only [madeCells,Value.cells,Array.getElem?_map];rw [Array.getElem?_eq_getElem (by simp;omega)];simp [e]
  ·rw [f];have e:(j*3+2) % 3=2:=O
   simp only [madeCells,Value.cells,Array.getElem?_map];rw [Array.getElem?_eq_getElem (by simp;omega)];simp [e]
theorem np {a:Option Addr} {c e f g:Nat} (h:FQ w (.agg #[.bool (rB q),.slice uo c e,.slice a f g]) q L) :
  aI (w.alloc (Obj.cells #[.bool (rB q),.slice uo c e,.slice a f g] 85)) w.heap.size 1 (fun _=>q) L:=by
 refine ⟨_,_,heap_alloc_new w _,fun i hi=>?_⟩;obtain rfl:i=0:=O
 exact ⟨_,_,rfl,rfl,rfl,h.keep0 (ae (ag _ _) _)⟩
theorem pE {a:World} {c:Option Addr} {f g j l:Nat} (hg:(w.alloc (Obj.cells #[.bool false,.slice none 0 0,.slice none 0 0] 85)).grownBy a none)
  (h:FQ a (.agg #[.bool (rB q),.slice uo f g,.slice c j l]) q L) :
  aI (((a.setCell ⟨w.heap.size,0,none⟩ (.bool (rB q))).setCell ⟨w.heap.size,1,none⟩ (.slice uo f g)).setCell ⟨w.heap.size,2,none⟩ (.slice c j l)) w.heap.size 1 (fun _=>q) L:=by
 have e:a.heap[w.heap.size]? = some (Obj.cells #[.bool false,.slice none 0 0,.slice none 0 0] 85 (0,0)):=by
  rw [hg.block w.heap.size Z Z];exact heap_alloc_new w _
 have p:aI a w.heap.size 1 (fun _=>0) L:=⟨_,_,e,fun i hi=>by
  obtain rfl:i=0:=O
  exact ⟨_,_,rfl,rfl,rfl,bN _ _⟩⟩
 have:=(p.set 0 O h).1;simp only [Nat.zero_mul,Nat.zero_add] at this;exact this.congr (fun i hi=>by
  obtain rfl:i=0:=O
  simp [aQ])
theorem aI.var (h:aI w b 1 (fun _=>q) L) :
  ∃ uo ul uc do_ dl dc,w.cell? ⟨b,0,none⟩=some (.bool (rB q))/\w.cell? ⟨b,1,none⟩=some (.slice uo ul uc)/\w.cell? ⟨b,2,none⟩=some (.slice do_ dl dc)
   /\ FQ w (.agg #[.bool (rB q),.slice uo ul uc,.slice do_ dl dc]) q L/\∀ k,w.frozen? ⟨b,k,none⟩=false:=by
 obtain ⟨a,b,c,d,e,f,g,j,l,p,r⟩:=h.at 0 O;exact ⟨a,b,c,d,e,f,by simpa using g,by simpa using j,by simpa using l,p,r⟩
theorem aI.varset {L':Nat} {p:Rat} (h:aI w b 1 (fun _=>p) L') {a:Option Addr} {c f g j:Nat} (l:FQ w (.agg #[.bool (rB q),.slice uo c f,.slice a g j]) q L) (r:L'<=L) :
  aI (((w.setCell ⟨b,0,none⟩ (.bool (rB q))).setCell ⟨b,1,none⟩ (.slice uo c f)).setCell ⟨b,2,none⟩ (.slice a g j)) b 1 (fun _=>q) L:=by
 have s:aI w b 1 (fun _=>p) L:=by
  obtain ⟨cur,e,hb,hc⟩:=h;refine ⟨cur,e,hb,fun i hi=>?_⟩;obtain ⟨u,d,c0,c1,c2,c3⟩:=hc i hi;exact ⟨u,d,c0,c1,c2,c3.mono r⟩
 have:=(s.set 0 O l).1;simp only [Nat.zero_mul,Nat.zero_add] at this;exact this.congr (fun i hi=>by
  obtain rfl:i=0:=O
  simp [aQ])
def cN (w:World) (bo m:Nat) (o:Nat->Nat):Prop:=∃ cur e,w.heap[bo]? = some (.cells cur e (0,0))/\∀ i,i<m->cur[i]? = some (.int .i64 ((o i:Nat):Int))
theorem cN.lt (h:cN w bo m o):bo<w.heap.size:=by
 obtain ⟨cur,e,hb,_⟩:=h;exact (zZ hb).1
theorem cN.keep {r:Option Nat} (h:cN w bo m o) (g:w.grownBy w' r) (a:some bo≠r):cN w' bo m o:=by
 have c:=h.lt;obtain ⟨cur,e,hb,hc⟩:=h;exact ⟨cur,e,by rw [g.block bo c a];exact hb,hc⟩
theorem cN.at (h:cN w bo m o) (i:Nat) (hi:i<m):w.cell? ⟨bo,i,none⟩=some (.int .i64 ((o i:Nat):Int)):=by
 obtain ⟨cur,e,hb,hc⟩:=h;simp only [World.cell?,hb];exact hc i hi
theorem aI.cells {R:Nat->Rat} (h:aI w b n R L):∃ xs:List Value,xs.length=n*3/\(∀ j u,xs[j]? = some u->w.cell? ⟨b,j,none⟩=some u)/\(∀ u∈xs,u.oneCell'=true)
  /\ ∀ (w':World) (g:Nat) (cur':Array Value) (e:TypeId),aN w w'->w'.heap[g]? = some (.cells cur' e (0,0))->cur'.toList.take (n*3)=xs->aI w' g n R L:=by
 obtain ⟨cur,e,hb,hc⟩:=h;have y:n*3<=cur.size:=by
  rcases zP n with F | F
  ·omega
  ·obtain ⟨u,d,_,_,c2,_⟩:=hc (n-1) O;have:=(zZ c2).1;omega
 refine ⟨cur.toList.take (n*3),by simp;omega,?_,?_,?_⟩
 ·intro j u f;rw [List.getElem?_take] at f;split at f
  ·simp only [World.cell?,hb];rw [<- Array.getElem?_toList];exact f
  ·cases f
 ·intro u A;obtain ⟨j,f,t⟩:=List.mem_iff_getElem.1 A;have z:j<n*3:=by simp at f;omega
  have c:cur[j]? = some u:=by
   rw [<- Array.getElem?_toList,zX (by simp;omega)];rw [List.getElem_take] at t;rw [t]
  obtain ⟨a,d,c0,c1,c2,c3⟩:=hc (j / 3) O;obtain ⟨uo,H,I,G,J,K,x⟩:=c3.shape;simp only [Value.agg.injEq,Array.mk.injEq,List.cons.injEq,and_true,true_and] at x;obtain ⟨rfl,rfl⟩:=x;have l:j=j / 3*3∨j=j / 3*3+1∨j=j / 3*3+2:=O
  rcases l with r | r | r
  ·rw [r,c0] at c;rw [<- zJ c];rfl
  ·rw [r,c1] at c;rw [<- zJ c];rfl
  ·rw [r,c2] at c;rw [<- zJ c];rfl
 ·intro w' g cur' B C hg D;refine ⟨cur',B,hg,fun i hi=>?_⟩;obtain ⟨u,d,c0,c1,c2,c3⟩:=hc i hi;have p:∀ j v,j<n*3->cur[j]? = some v->cur'[j]? = some v:=by
   intro j v f E;have s:(cur'.toList.take (n*3))[j]? = (cur.toList.take (n*3))[j]?:=by rw [D]
   rw [List.getElem?_take,List.getElem?_take,if_pos f,if_pos f,Array.getElem?_toList,Array.getElem?_toList,E] at s;exact s
  exact ⟨u,d,p _ _ O c0,p _ _ O c1,p _ _ O c2,c3.kept C⟩
theorem wJ (b n cap:Nat) (R:Nat->Rat) (L:Nat) (w:World) (h:aI w b n R L) (V:0<n) (hn:n<=3000) (hc:n<=cap) (E:cap<=maxLen) :
  Calls Tryz.prog 172 #[.slice (some ⟨b,0,none⟩) n cap] w
   fun e w'=>∃ g c,e=.returned (.slice (some ⟨g,0,none⟩) n c)/\w.heap.size<=g/\n<=c/\c<=maxLen/\aI w' g n R L/\w.grownBy w' none:=by
 obtain ⟨T,hi,z,A,B⟩:=info_parts Tryz.infoF;obtain ⟨xs,U,F,G,H⟩:=h.cells;have I:=aa F;have J:=aa G;have K:=aa H;have t:=E;unfold maxLen at t;clear h F G H E;have X:∀ W,(binOp .eql 76 (.slice (some ⟨b,0,none⟩) n cap) (.slice none 0 0)).run Tryz.prog W=.ok (.bool false) W:=fun W=>Lib.run_eql_slice_nil W _ _ (some _) _ _ 0 0 Tryz.underlying76
 go_enter Tryz.func172,Tryz.ntmps172
 go_wp2_with (at_builtin;refine wpList_append_own _ rfl _ _ 76 rfl w.heap.size 85 T _ 3 56 Tryz.underlying76 hi z A B rfl zD _ 0 [] rfl ?c0 ⟨b,0,none⟩ n cap xs rfl ?c1 ?c2 ?c3 ?c4 ?c5 ?c6 ?_)
 case c0=>exact World.ownsRow_made w #[] 0 zL (by unfold maxLen;omega) Z
 case c1=>exact U
 case c2 =>
  intro j u Q;have x:=(World.grownBy_alloc w (Obj.cells #[] 85) none).cell (I j u Q) Z;rw [show (⟨b,0,none⟩:Addr).add j=⟨b,j,none⟩ from by simp [Addr.add];omega];exact x
 case c3=>exact J
 case c4=>unfold maxLen;omega
 case c5=>omega
 case c6=>simp
 intro S w1 f p y;have a:w.grownBy w1 none:=aj (r1:=none) (World.grownBy_alloc w _ none) p (fun _ _ e=>e) (fun b hb e=>by simp [Value.ownBlock] at e;omega);have M:=aa a;obtain ⟨g,c,rfl,hg,C,r,l⟩:∃ g c,S=.slice (some ⟨g,0,none⟩) n c/\w.heap.size<=g/\n<=c/\c<=maxLen/\aI w1 g n R L:=by
  rcases f.2 with ⟨e,Y⟩ | ⟨g,s,cur,e,hb,hh,h1,x,h3,D⟩
  ·omega
  ·refine ⟨g,s,by first | exact e | (rw [e,Nat.zero_add]),hb,O,x,K w1 g cur _ (aN.of_gr a) hh ?_⟩;first | exact D | (rw [Nat.zero_add] at D;exact D)
 have N:=aa l;have P:=aa r;clear f p a y l r;go_wp2;go_ret;exact ⟨g,c,rfl,hg,C,P,N,M⟩
def AF (w:World) (k:Nat):Prop:=∀ i f (x:Nat),w.cell? ⟨k,i,f⟩≠some (.int .u32 (x:Nat))
def oL (w:World) (v:Value):Prop:=∀ k,v.ownBlock=some k->AF w k
theorem oL.nil (w:World):oL w (.slice none 0 0):=fun k e=>by simp [Value.ownBlock] at e
theorem AF.cells {e:TypeId} (hb:w.heap[k]? = some (.cells cur e (0,0))) (h:∀ u∈cur.toList,∀ x:Nat,u≠.int .u32 (x:Nat)):AF w k:=by
 intro i f x hc;cases f with
 | none =>
  simp only [World.cell?,hb] at hc;have a:cur.toList[i]? = some (.int .u32 (x:Nat)):=by rw [Array.getElem?_toList];exact hc
  exact h _ (List.mem_of_getElem? a) x rfl
 | some g=>simp [World.cell?,hb] at hc
theorem AF.all {e:TypeId} (hb:w.heap[k]? = some (.cells cur e (0,0))) (h:AF w k):∀ u∈cur.toList,∀ x:Nat,u≠.int .u32 (x:Nat):=by
 intro u a x c;obtain ⟨i,hi⟩:=List.mem_iff_getElem?.1 a;refine h i none x ?_;simp only [World.cell?,hb];rw [<- c,<- Array.getElem?_toList];exact hi
theorem AF.keep {r:Option Nat} (h:AF w k) (a:k<w.heap.size) (g:w.grownBy w' r) (c:some k≠r):AF w' k:=by
 intro i f x e;rw [World.cell?_of_block (g.block k a c)] at e;exact h i f x e
theorem rE (z:Array Value) (n:Nat) (h:z.size=1):∀ u∈(Builtin.zeroCells z n).toList,u=z[0]!:=by
 intro u a;unfold Builtin.zeroCells at a;simp only [Array.toList_map,List.mem_map] at a;obtain ⟨i,_,rfl⟩:=a;rw [h,Nat.mod_one]
theorem lV {P:Program} (w:World) (base:Nat) (t D e:TypeId) (i:TypeInfo) (z:Value) (p:Nat) (J:P.underlying t=some (.slice e)) (hi:P.info? e=some i) (M:i.zero=some z)
  (hsize:i.size=1) (hby:i.bytes=p) (hzs:z.cells.size=1) (hz1:∀ x:Nat,z.cells[0]!≠.int .u32 (x:Nat))
  (v:Value) (n:Nat) (xs:List Value) (hown:w.ownsRow base e 1 v n xs) (hnw:oL w v) (hxs:∀ u∈xs,∀ x:Nat,u≠.int .u32 (x:Nat))
  (a:Addr) (c:Nat) (y:Value) (hy:w.cell? a=some y) (h1:y.oneCell'=true) (hyw:∀ x:Nat,y≠.int .u32 (x:Nat))
  (h63:n+1<=maxLen) (hbytes:(n+1)*p<=140737488355328) (hbase:base<=w.heap.size) :
  ∃ v' w',(Builtin.append_ #[t,t] D #[v,.slice (some a) 1 c]).run P w=.ok v' w'/\w'.ownsRow base e 1 v' (n+1) (xs++[y])/\w.grownBy w' v.ownBlock/\oL w' v'/\aN w w':=by
 have l:∀ j u,[y][j]? = some u->w.cell? (a.add j)=some u:=by
  intro j u T;match j with
  | 0 =>
   simp only [List.getElem?_cons_zero,zI] at T;subst T;simpa [Addr.add] using hy
  | j+1=>simp at T
 have E:∀ u∈[y],u.oneCell'=true:=by
  intro u h;simp only [List.mem_singleton] at h;subst h;exact h1
 obtain ⟨v',w',B,h2,U,_⟩:=run_append_own (P:=P) w base t D e i z 1 p J hi M hsize hby hzs zD v n xs hown a 1 c [y] rfl l E h63 hbytes hbase;refine ⟨v',w',B,h2,U,?_⟩;have K:n+1<=9223372036854775807:=by simp only [maxLen] at h63;omega
 have fresh:∀ cur:Array Value,(∀ u∈cur.toList,∀ x:Nat,u≠.int .u32 (x:Nat))->∀ c2,w'=w.drew.alloc (.cells cur e)->v'=.slice (some ⟨w.heap.size,0,none⟩) (n+1) c2->oL w' v'/\aN w w':=by
  intro cur hc c2 ew ev;have N:w.grownBy w' none:=by rw [ew];exact ⟨rfl,rfl,rfl,Z,fun k hk _=>heap_alloc_old w.drew _ hk⟩
  refine ⟨fun k C=>?_,aN.of_gr N⟩;rw [ev] at C;simp only [Value.ownBlock,zI] at C;subst C;exact AF.cells (by rw [ew];exact heap_alloc_new w.drew _) hc
 have F:∀ k,∀ u∈(Builtin.zeroCells z.cells k).toList,∀ x:Nat,u≠.int .u32 (x:Nat):=by
  intro k u h x;rw [rE z.cells k hzs u h];exact hz1 x
 rcases hown.2 with ⟨rfl,rfl⟩ | ⟨g,cap,cur,rfl,he,hg,hf,hl,V,X⟩
 ·have r:=run_append_nil (P:=P) w t D e i z J hi M a 1 c [y] (by rw [hsize];rfl) l O O (by rw [hby];omega);rw [r] at B;injection B with e1 e2
  refine fresh _ ?_ _ e2.symm e1.symm;intro u h;simp only [Array.toList_append,List.mem_append,List.mem_singleton] at h;rcases h with h | h
  ·subst h;exact hyw
  ·exact F _ u h
 ·by_cases s:n+1<=cap
  ·have G:n*i.size + [y].length<=cur.size:=by rw [hsize,V];simp;exact s
   have r:=run_append_room (P:=P) w t D e i J hi g n cap cur hg a 1 c [y] (by rw [hsize];rfl) l E s G;rw [r] at B;injection B with e1 e2
   have Q:=hnw g rfl;have H:=setRow_heap w g cur ((cur.toList.take (n*i.size)++[y]++cur.toList.drop (n*i.size + [y].length)).toArray) e _ hg;refine ⟨fun k C=>?_,⟨U.size,fun Y x ex=>?_⟩⟩
   ·rw [<- e1] at C;simp only [Value.ownBlock,zI] at C;subst C;rw [<- e2];refine AF.cells H ?_;intro u h x;simp only [List.mem_append,List.mem_singleton] at h;rcases h with (h | h) | h
    ·exact Q.all hg u (List.mem_of_mem_take h) x
    ·subst h;exact hyw x
    ·exact Q.all hg u (List.mem_of_mem_drop h) x
   ·have S:Y.block≠g:=fun I=>by
     obtain ⟨b,i,f⟩:=Y;simp only at I;subst I;exact Q i f x ex
    rw [World.cell?_of_block (U.block Y.block (cJ ex) (fun I=>S (by simp only [Value.ownBlock,zI] at I;exact I)))];exact ex
  ·have A:∀ j u,xs[j]? = some u->w.cell? ((⟨g,0,none⟩:Addr).add j)=some u:=hown.cells (g:=g) rfl;have r:=run_append_grow (P:=P) w t D e i z J hi M ⟨g,0,none⟩ n cap xs (by rw [hsize];exact hown.1) A a 1 c [y] (by rw [hsize];rfl) l O O (growslice_fits O (by rw [hby];exact hbytes));rw [r] at B;injection B with e1 e2
   refine fresh _ ?_ _ e2.symm e1.symm;intro u h;simp only [Array.toList_append,List.mem_append,List.mem_singleton] at h;rcases h with (h | h) | h
   ·exact hxs u h
   ·subst h;exact hyw
   ·exact F _ u h
def da {α:Type} (f:α->Value) (t:TypeId) (w:World) (base:Nat) (v:Value) (xs:List α):Prop:=bV f t w base v xs/\oL w v
theorem mW {α:Type} {f:α->Value} {t:TypeId} : da f t w base (.slice none 0 0) []:=⟨gE,oL.nil _⟩
theorem da.keep {α:Type} {f:α->Value} {t:TypeId} {xs:List α} {row:Option Nat} (h:da f t w base v xs) (hg:w.grownBy w' row) (a:v.ownBlock=none∨v.ownBlock≠row):da f t w' base v xs:=by
 refine ⟨h.1.keep hg a,fun k c=>(h.2 k c).keep (h.1.fresh k c).2 hg ?_⟩;rcases a with hn | hn
 ·rw [hn] at c;cases c
 ·rw [<- c];exact hn
theorem da.keep0 {α:Type} {f:α->Value} {t:TypeId} {xs:List α} (h:da f t w base v xs) (hg:w.grownBy w' none):da f t w' base v xs:=h.keep hg (by cases hv:v.ownBlock<;>simp)
theorem dC {P:Program} {α:Type} (f:α->Value) (e:TypeId) (j:Value) (c:Nat) (W:World) {g:Array Oper} {rest:List Oper} {o:Oper} {a:Act} {Q:Exit->Act->World->Prop}
  (hg:o.guard=none) (s x:Operand) (t:TypeId) (ho:o.op=.call { callee:=.builtin .append,args:=#[s,x],argTypes:=#[t,t] }) (base:Nat)
  (h1:P.underlying t=some (.slice e)) (hinfo:(P.info? e).map (fun i=>(i.zero,i.size,i.bytes))=some (some j,1,c)) (hcz:j.cells.size=1) (hz1:∀ x:Nat,j.cells[0]!≠.int .u32 (x:Nat)) (hf:∀ u (x:Nat),f u≠.int .u32 (x:Nat))
  (v:Value) (xs:List α) (hs:a.eval s=v) (hown:da f e W base v xs) (b:Nat) (y:α) (hx:a.eval x=.slice (some ⟨b,0,none⟩) 1 1) (hc:W.cell? ⟨b,0,none⟩=some (f y)) (h1c:(f y).oneCell'=true)
  (hlen:xs.length<=1000000) (hby:c<=24) (hbase:base<=W.heap.size)
  (hK:∀ ao cap w',da f e w' base (.slice ao (xs.length+1) cap) (xs++[y])->W.grownBy w' v.ownBlock->aN W w'->wpList P g Q rest (a.put o.dst (.slice ao (xs.length+1) cap)) w'):wpList P g Q (o :: rest) a W:=by
 obtain ⟨i,hi,p,r,z⟩:=info_parts hinfo;have h:(xs.length+1)*c<=140737488355328:=by
  have:(xs.length+1)*c<=(1000000+1)*24:=Nat.mul_le_mul O hby;omega
 obtain ⟨D,w',E,F,G,B,H⟩:=lV (P:=P) W base t o.type e i j c h1 hi p r z hcz hz1 v xs.length (xs.map f) hown.1 hown.2
  (fun u J x=>by obtain ⟨I,_,rfl⟩:=List.mem_map.1 J;exact hf I x) ⟨b,0,none⟩ 1 (f y) hc h1c (hf y) (by unfold maxLen;omega) h hbase
 have l:bV f e w' base D (xs++[y]):=by
  unfold bV;rw [List.length_append,List.map_append];exact F
 obtain ⟨ao,cap,C⟩:=l.shape;rw [List.length_append,List.length_singleton] at C;refine wpList_plain hg fun _ A=>?_
 unfold Oper.wp execOp;simp only [ho,resolve,invoke,builtin,Sem.run_bind,Sem.run_pure,Result.andThen_ok,List.map_toArray,List.map_cons,List.map_nil,hs,hx,E];rw [C] at l B ⊢;exact A _ _ (hK ao cap w' ⟨l,B⟩ G H)
theorem bR (w:World) (b i:Nat) (v:Value):w.grownBy (w.setCell ⟨b,i,none⟩ v) (some b) :=
 ⟨rfl,rfl,rfl,Z,fun k _ a=>heap_setCell_other _ _ k _ (fun e=>a (by rw [e]))⟩
theorem aO.set {e:TypeId} (hb:w.heap[b]? = some (.cells cur e (0,0))) (hi:∀ x:Nat,cur[i]?≠some (.int .u32 (x:Nat))) (v:Value):aO w (w.setCell ⟨b,i,none⟩ v) b:=⟨bR _ _ _ _,aN.set hb hi v⟩
theorem tU {e:TypeId} (hb:w.heap[br]? = some (.cells cur e (0,0))) {a:Nat} {x y:Value} (h:cur[a]? = some x) (j:cur[b]? = some y) (t:∀ z:Nat,x≠.int .u32 (z:Nat)) (p:∀ z:Nat,y≠.int .u32 (z:Nat)) :
  ∃ cur',((w.setCell ⟨br,a,none⟩ y).setCell ⟨br,b,none⟩ x).heap[br]? = some (.cells cur' e (0,0))/\(∀ i,cur'[i]? = cur[aP a b i]?)/\aO w ((w.setCell ⟨br,a,none⟩ y).setCell ⟨br,b,none⟩ x) br:=by
 have r:=(zZ h).1;have u:=(zZ j).1;have s:=heap_setCell_same w br a cur e y hb;have A:=heap_setCell_same (w.setCell ⟨br,a,none⟩ y) br b (cur.setIfInBounds a y) e x s;refine ⟨(cur.setIfInBounds a y).setIfInBounds b x,A,fun i=>?_,(aO.set hb (fun z c=>?_) y).trans (aO.set s (fun z c=>?_) x)⟩
 ·unfold aP;by_cases f:i=b
  ·subst f;rw [if_pos rfl,Array.getElem?_setIfInBounds_self_of_lt (by simpa using u),h]
  ·rw [if_neg f,Array.getElem?_setIfInBounds_ne (fun g=>f g.symm)];by_cases l:i=a
   ·subst l;rw [if_pos rfl,Array.getElem?_setIfInBounds_self_of_lt r,j]
   ·rw [if_neg l,Array.getElem?_setIfInBounds_ne (fun g=>l g.symm)]
 ·rw [h] at c;exact t z (zJ c)
 ·by_cases f:b=a
  ·subst f;rw [Array.getElem?_setIfInBounds_self_of_lt r] at c;exact p z (zJ c)
  ·rw [Array.getElem?_setIfInBounds_ne (fun g=>f g.symm),j] at c;exact p z (zJ c)
theorem bU.swap (h:bU w br m n bs cs R L) {a:Nat} (ha:a<m) (hb:b<m) :
  bU ((w.setCell ⟨br,a,none⟩ (.slice (some ⟨bs b,0,none⟩) n (cs b))).setCell ⟨br,b,none⟩ (.slice (some ⟨bs a,0,none⟩) n (cs a))) br m n (fun i=>bs (aP a b i)) (fun i=>cs (aP a b i)) (fun i=>R (aP a b i)) L
  /\ aO w ((w.setCell ⟨br,a,none⟩ (.slice (some ⟨bs b,0,none⟩) n (cs b))).setCell ⟨br,b,none⟩ (.slice (some ⟨bs a,0,none⟩) n (cs a))) br:=by
 obtain ⟨cur,e,hh,hc⟩:=h.top;obtain ⟨c,p,r,f⟩:=tU hh (hc a ha) (hc b hb) (fun z=>Z) (fun z=>Z);generalize (w.setCell ⟨br,a,none⟩ (.slice (some ⟨bs b,0,none⟩) n (cs b))).setCell ⟨br,b,none⟩ (.slice (some ⟨bs a,0,none⟩) n (cs a))=w' at p f ⊢;have lt:∀ i,i<m->aP a b i<m:=fun i hi=>dA ha hb hi
 refine ⟨⟨⟨c,e,p,fun i hi=>?_⟩,fun i hi=>h.cap _ (lt i hi),fun i hi=>(h.row _ (lt i hi)).keep f.1 f.2 (fun g=>h.off _ (lt i hi) (zJ g)),fun i j hi s g=>?_,fun i hi=>h.off _ (lt i hi)⟩,f⟩
 ·rw [r i];exact hc _ (lt i hi)
 ·have:=h.inj _ _ (lt i hi) (lt j s) g;have l:aP a b (aP a b i)=aP a b (aP a b j):=by rw [this]
  rw [fg,fg] at l;exact l
theorem cN.swap (h:cN w bo m o) {a:Nat} (ha:a<m) (hb:b<m) :
  cN ((w.setCell ⟨bo,a,none⟩ (.int .i64 ((o b:Nat):Int))).setCell ⟨bo,b,none⟩ (.int .i64 ((o a:Nat):Int))) bo m (fun i=>o (aP a b i))
  /\ aO w ((w.setCell ⟨bo,a,none⟩ (.int .i64 ((o b:Nat):Int))).setCell ⟨bo,b,none⟩ (.int .i64 ((o a:Nat):Int))) bo:=by
 obtain ⟨cur,e,hh,hc⟩:=h;obtain ⟨c,f,g,j⟩:=tU hh (hc a ha) (hc b hb) (fun z=>Z) (fun z=>Z);refine ⟨⟨c,e,f,fun i hi=>?_⟩,j⟩;rw [g i];exact hc _ (dA ha hb hi)
theorem aI.ne_int {R:Nat->Rat} {x:Int} (h:aI w b n R L) (hn:0<n) (hc:w.cell? ⟨bo,0,none⟩=some (.int .i64 x)):b≠bo:=by
 intro e;obtain ⟨_,_,_,_,_,_,c0,_⟩:=h.at 0 hn;rw [e,Nat.zero_mul,hc] at c0;simp at c0
theorem aI.ne_slice {R:Nat->Rat} {x:Option Addr} {l c:Nat} (h:aI w b n R L) (hn:0<n) (hc:w.cell? ⟨bo,0,none⟩=some (.slice x l c)):b≠bo:=by
 intro e;obtain ⟨_,_,_,_,_,_,c0,_⟩:=h.at 0 hn;rw [e,Nat.zero_mul,hc] at c0;simp at c0
theorem bU.ne_int {x:Int} (h:bU w br m n bs cs R L) (a:0<m) (hn:0<n) (hc:w.cell? ⟨bo,0,none⟩=some (.int .i64 x)):br≠bo/\∀ i,i<m->bs i≠bo:=by
 refine ⟨fun e=>?_,fun i hi=>(h.row i hi).ne_int hn hc⟩;have:=(h.cell 0 a).1;rw [e,hc] at this;simp at this
theorem cN.froz (h:cN w bo m o) (k:Nat):w.frozen? ⟨bo,k,none⟩=false:=by
 obtain ⟨cur,e,hb,hc⟩:=h;simp [World.frozen?,hb]
def eM (n:Nat) (p:Nat×Nat):Value:=.slice (some ⟨p.1,0,none⟩) n p.2
def cd (bs cs:Nat->Nat) (i:Nat):List (Nat×Nat):=(List.range i).map (fun j=>(bs j,cs j))
def cZ (f:Nat->Nat) (i g:Nat):Nat->Nat:=fun j=>if j=i then g else f j
theorem bA (bs cs:Nat->Nat) (i:Nat):(cd bs cs i).length=i:=by simp [cd]
theorem sD (bs cs:Nat->Nat) (i g c:Nat):cd bs cs i++[(g,c)]=cd (cZ bs i g) (cZ cs i c) (i+1):=by
 unfold cd;rw [List.range_succ,List.map_append];congr 1
 ·refine List.map_congr_left (fun j a=>?_);have:j≠i:=by have:=List.mem_range.1 a;omega
  simp [cZ,this]
 ·simp [cZ]
theorem Tryz.infoRow:(Tryz.prog.info? 76).map (fun i=>(i.zero,i.size,i.bytes))=some (some (.slice none 0 0),1,24):=zK
structure sT (w:World) (base n i:Nat) (bs cs:Nat->Nat) (R:Nat->Nat->Rat) (L:Nat):Prop where
 low:∀ j,j<i->base<=bs j
 cap:∀ j,j<i->n<=cs j/\cs j<=maxLen
 row:∀ j,j<i->aI w (bs j) n (R j) L
 inj:∀ j k,j<i->k<i->bs j=bs k->j=k
theorem sT.nil (w:World) (base n:Nat) (bs cs:Nat->Nat) (R:Nat->Nat->Rat) (L:Nat):sT w base n 0 bs cs R L:=⟨fun j h=>O,fun j h=>O,fun j h=>O,fun j k h=>O⟩
theorem sT.keep0 (h:sT w base n i bs cs R L) (g:w.grownBy w' none):sT w' base n i bs cs R L:=⟨h.low,h.cap,fun j a=>(h.row j a).keep0 g,h.inj⟩
theorem sT.keepB (h:sT w base n i bs cs R L) (g:aO w w' b) (hb:∀ j,j<i->bs j≠b):sT w' base n i bs cs R L:=⟨h.low,h.cap,fun j a=>(h.row j a).keep g.1 g.2 (fun e=>hb j a (zJ e)),h.inj⟩
theorem sT.put {g c:Nat} (h:sT w base n i bs cs R L) (r:base<=g) (s:n<=c) (t:c<=maxLen) (u:aI w g n (R i) L) (l:∀ j,j<i->bs j≠g):sT w base n (i+1) (cZ bs i g) (cZ cs i c) R L:=by
 refine ⟨fun j f=>?_,fun j f=>?_,fun j f=>?_,fun j k f x e=>?_⟩
 ·unfold cZ;split
  ·exact r
  ·exact h.low j O
 ·unfold cZ;split
  ·exact ⟨s,t⟩
  ·exact h.cap j O
 ·unfold cZ;split
  ·rename_i e;rw [e];exact u
  ·exact h.row j O
 ·unfold cZ at e;by_cases p:j=i
  ·rw [if_pos p] at e;by_cases a:k=i
   ·omega
   ·rw [if_neg a] at e;exact absurd e.symm (l k O)
  ·rw [if_neg p] at e;by_cases a:k=i
   ·rw [if_pos a] at e;exact absurd e (l j O)
   ·rw [if_neg a] at e;exact h.inj j k O O e
theorem da.ne_row {t:TypeId} {Q:Nat->Rat} (h:da (eM n) t w base v (cd bs cs i)) (hi:0<i) (l:aI w b k Q L) (p:0<k):some b≠v.ownBlock:=by
 intro e;obtain ⟨s,cap,rfl,_,_,r⟩:=h.1.row;obtain ⟨u,off,f,_,c⟩:=r 0 (by rw [bA];exact hi);rw [f] at e;simp only [Value.ownBlock,zI] at e;rcases h.1.2 with ⟨a,_⟩ | ⟨g,j,cur,a,_⟩
 ·rw [f] at a;simp at a
 ·rw [f] at a;simp only [Value.slice.injEq,zI,Addr.mk.injEq] at a;rw [a.1.2.1,Nat.zero_add] at c;exact l.ne_slice p c e
theorem da.mat {t:TypeId} (h:da (eM n) t w base v (cd bs cs m)) (r:0<m) (hn:0<n) (a:sT w base n m bs cs R L) :
  ∃ br cap,v=.slice (some ⟨br,0,none⟩) m cap/\base<=br/\m<=cap/\cap<=maxLen/\bU w br m n bs cs R L:=by
 have c:=fun j (hj:j<m)=>h.ne_row r (a.row j hj) hn
 rcases h.1.2 with ⟨_,s⟩ | ⟨g,cap,cur,e,hb,hh,l,u,y,p⟩
 ·rw [bA] at s;omega
 ·rw [bA] at e l p;refine ⟨g,cap,e,hb,l,u,⟨⟨cur,t,hh,fun i hi=>?_⟩,a.cap,a.row,a.inj,fun i hi x=>c i hi (by rw [e,x];rfl)⟩⟩;have f:(cur.toList.take (m*1))[i]? = ((cd bs cs m).map (eM n))[i]?:=by rw [p]
  rw [List.getElem?_take,if_pos O,Array.getElem?_toList] at f;rw [f];simp [cd,eM,hi]
theorem iW {w1:World} {g c:Nat} {v1:Value} {t:TypeId} (h:da (eM n) t w base v (cd bs cs i)) (hn:0<n) (a:sT w base n i bs cs R L)
  (h2:n<=c) (h3:c<=maxLen) (h4:aI w g n (R i) L) (h1:base<=g) (h5:∀ j,j<i->bs j≠g) (hv:v.ownBlock≠some g) (hg:w.grownBy w1 v.ownBlock) (hk:aN w w1) (ho:da (eM n) t w1 base v1 (cd bs cs i++[(g,c)])) :
  da (eM n) t w1 base v1 (cd (cZ bs i g) (cZ cs i c) (i+1))/\sT w1 base n (i+1) (cZ bs i g) (cZ cs i c) R L:=by
 rw [sD] at ho;refine ⟨ho,sT.put ⟨a.low,a.cap,fun j f=>(a.row j f).keep hg hk (h.ne_row O (a.row j f) hn),a.inj⟩ h1 h2 h3 (h4.keep hg hk (fun e=>hv e.symm)) h5⟩
def dL (R:Nat->Nat->Rat) (o:Nat->Nat) (Y:Nat->Rat) (d:Rat) (m t:Nat):Nat->Rat
 | 0=>d*R t m
 | i+1=>dL R o Y d m t i-R t (o (t+1+i))*Y (o (t+1+i))
section
variable {P:Program} {ops:Array Oper} {Q:Exit->Act->World->Prop} {md:Region.Mode} {S:World->Prop}
theorem on2 {N:Nat} {l:Array Bool} {a:Act} (m i j:Nat)
  (h:∀ K':Act->World->Prop,Shut (∀ a w,S w->(S w->wpAnyH P md ops Q S m (l.setIfInBounds i true) a w)->K' a w)->if Region.wanted (ax ops i) (yielded ops a.tmps)=true then Oper.wp P (ax ops i) a w K' Q else K' (a.put (ax ops i).dst undef) w)
  (h2:∀ K':Act->World->Prop,Shut (∀ a w,S w->(S w->wpAnyH P md ops Q S m (l.setIfInBounds j true) a w)->K' a w)->if Region.wanted (ax ops j) (yielded ops a.tmps)=true then Oper.wp P (ax ops j) a w K' Q else K' (a.put (ax ops j).dst undef) w)
  (hr:Region.ready md ops l=[i,j]:=by kernel_rfl) (hm:N=m+1:=by kernel_rfl) (ho:(ops[i]?).isSome=true:=by kernel_rfl) (ho2:(ops[j]?).isSome=true:=by kernel_rfl):wpAnyH P md ops Q S N l a w :=
 hm▸wpAnyH_ready hr (List.cons_ne_nil _ _) (AllReadyH.cons (dP ho) h (AllReadyH.cons (dP ho2) h2 AllReadyH.nil))
end
theorem DZ (a b:Rat):a=a-0*b:=by grind
structure Cj (R:Nat->Nat->Rat) (o ip:Nat->Nat) (Y:Nat->Rat) (d:Rat) (m L LS:Nat):Prop where
 ot:∀ t,t<m->o t<m/\ip (o t)=t
 oj:∀ j,j<m->ip j<m/\o (ip j)=j
 sum:∀ t,t<m->∀ i,t+1+i<=m->bh LS (dL R o Y d m t i)
 piv:∀ t,t<m->R t (o t)≠0/\dL R o Y d m t (m-(t+1)) / R t (o t)=Y (o t)
 ys:∀ j,j<m->bh L (Y j)
 xs:∀ j,j<m->bh L (Y j / d)
def ru (ip:Nat->Nat) (Y:Nat->Rat) (q:Nat):Nat->Rat:=fun j=>if q<=ip j then Y j else 0
def oh (Y:Nat->Rat) (d:Rat) (i:Nat):Nat->Rat:=fun j=>if j<i then Y j / d else Y j
theorem A8 (Y:Nat->Rat) (d:Rat) (i j:Nat):aQ (oh Y d i) i (Y i / d) j=oh Y d (i+1) j:=by
 unfold aQ oh;by_cases h:j=i
 ·rw [if_pos h,if_pos O,h]
 ·rw [if_neg h];by_cases a:j<i
  ·rw [if_pos a,if_pos O]
  ·rw [if_neg a,if_neg O]
theorem gd {a:World} {c:World} (h:a.grownBy c none:=by first | exact bG _ | exact aX | exact ag _ _ | exact ae (bG _) _ | exact ae aX _ | exact ar (ae (ag _ _) _) 1 | exact ar (ae (ag _ _) _) _):a.grownBy c none:=h
theorem gk {a c:World} (g:w.grownBy a none) (h:a.grownBy c none:=by exact gd):w.grownBy c none:=ab g h
theorem DK {a:Nat->Nat} {Y:Nat->Rat} {f:Nat} (h:Cj R o a Y d m L f) (t:Nat) (g:t<m) (j:Nat) (l:j<m) :
  aQ (ru a Y (t+1)) (o t) (Y (o t)) j=ru a Y t j:=by
 unfold aQ ru;by_cases e:j=o t
 ·rw [if_pos e,e,(h.ot t g).2,if_pos O]
 ·rw [if_neg e];have hn:a j≠t:=fun p=>e (by rw [<- (h.oj j l).2,p])
  by_cases c:t+1<=a j
  ·rw [if_pos c,if_pos O]
  ·rw [if_neg c,if_neg O]
def BakR (W:World) (go m:Nat) (ip:Nat->Nat) (Y:Nat->Rat) (L:Nat) (v:Value) (wr:World):Prop :=
 ∃ q:Nat,q<=m/\v=.int .i64 ((q:Int)-1)/\aI wr go m (ru ip Y q) L/\aO W wr go
def InnR (W:World) (gs:Nat) (R:Nat->Nat->Rat) (o:Nat->Nat) (Y:Nat->Rat) (d:Rat) (m t LS:Nat) (v:Value) (wr:World):Prop :=
 ∃ i:Nat,t+1+i<=m/\v=.int .i64 i/\aI wr gs 1 (fun _=>dL R o Y d m t i) LS/\W.grownBy wr none
def LasR (W:World) (go m:Nat) (Y:Nat->Rat) (d:Rat) (L:Nat) (v:Value) (wr:World):Prop :=
 ∃ i:Nat,i<=m/\v=.int .i64 i/\aI wr go m (oh Y d i) L/\aO W wr go
def BackE (w:World) (m:Nat) (X:Nat->Rat) (L:Nat) (e:Ending) (w':World):Prop:=∃ g,e=.returned (.slice (some ⟨g,0,none⟩) m m)/\w.heap.size<=g/\aI w' g m X L/\w.grownBy w' none
attribute [local simp] gY cM fT
theorem Bi (fb:Bool) (fo V:Option Addr) (fl fc X he:Nat) (br bo m cap co:Nat) (bs cs:Nat->Nat) (R:Nat->Nat->Rat) (o ip:Nat->Nat) (Y:Nat->Rat) (d:Rat) (lv:Value) (L z:Nat) (w:World)
  (hM:bU w br m (m+1) bs cs R L) (hO:cN w bo m o) (hy:FQ w lv d L) (hH:Cj R o ip Y d m L z) (hd:d≠0) (hm:m<=1000) (hc:m<=cap) (hc2:cap<=maxLen) (hco:m<=co) (hco2:co<=maxLen) (hL1:1<=L) (hL:L<=300000000) (hLS:L+L+1<=z) (hLS2:z<=100000000) :
  Calls Tryz.prog 206 #[(kq fb (.slice fo fl fc) (.slice V X he)),.slice (some ⟨br,0,none⟩) m cap,.slice (some ⟨bo,0,none⟩) m co,lv] w fun e w'=>BackE w m (fun j=>Y j / d) L e w':=by
 unfold maxLen at hc2 hco2;have HM:=aa hM;have HO:=aa hO;have HY:=aa hy;have C:=aa hH;have HD:=aa hd;have Hb:=hM.lt;have Hc:=hO.lt;obtain ⟨lo,I,lc,g,l,p,rfl⟩:=hy.shape;have P:Hid (∀ i,i<m->bs i<w.heap.size):=fun i hi=>(hM.row i hi).lt
 clear hM hO hy hH hd;obtain ⟨W,hW⟩:=eX ((w.alloc (Obj.cells #[.bool fb,.slice fo fl fc,.slice V X he,.func (.func 129) #[] #[],.func (.func 107) #[] #[],.func (.func 67) #[] #[],.func (.func 38) #[] #[],.func (.func 130) #[] #[],.func (.func 131) #[] #[],.func (.func 132) #[] #[],.func (.func 133) #[] #[]] 128)).alloc (Obj.cells #[.bool (rB d),.slice lo I lc,.slice g l p] 85));have GW:Hid (w.grownBy W none):=by rw [hW];exact ae (ae (ag _ _) _) _
 have hB:Hid (W.heap.size=w.heap.size+2):=by show _=_;rw [hW];simp
 have D:Hid (gY W w.heap.size/\cM W (w.heap.size+1) (.bool (rB d)) (.slice lo I lc) (.slice g l p)):=by
  have h2:=aJ (ag W none |> fun h=>by rw (occs:=.pos [1]) [hW] at h;exact h);rw [show ∀ o,(w.alloc o).heap.size=w.heap.size+1 from fun _=>by simp] at h2;exact ⟨(mg fb fo V fl fc X he (by rw [hW];exact ae (ag _ _) _)).1,h2⟩
 go_enter Tryz.func206,Tryz.ntmps206
 go_upto_region 1 with fail;rw [<- hW];clear hW;go_wp2_with (at_make;refine lY _ rfl _ _ 76 rfl Tryz.underlying76 Tryz.infoF _ _ _ _ m rfl rfl O O O ?_)
 intro w1 hw hx;generalize hgo:W.heap.size=go at hw;have f:Hid (go=w.heap.size+2):=by show _=_;rw [<- hgo];exact hB
 have F1:=aa hw;have G1:=aa hx;have s:Hid (∀ wx,w1.grownBy wx (some go)->gY wx w.heap.size/\cM wx (w.heap.size+1) (.bool (rB d)) (.slice lo I lc) (.slice g l p)):=by
  intro wx hg;exact ⟨(D.1.k0 G1).k hg (fun e=>by have:=zJ e;have:=f.out;omega),(D.2.k0 G1).k hg (fun e=>by have:=zJ e;have:=f.out;omega)⟩
 have GA:=aa (ab GW hx);have hC:Hid (w.heap.size+2<=w1.heap.size):=by show _<=_;have:=G1.out.size;have:=hB.out;omega
 have M1:=aa (HM.keep0 GA);have O1:=aa (HO.keep GA Z);have Y1:=aa (HY.keep0 GA);have hD:IntKind.i64.wrap ((m:Int)-1)=(m:Int)-1:=IntWalk.i64_in _ ⟨O,O⟩;clear hw hx hgo HM HO HY D;go_wp2;go_loopw [10] (fun v wr=>Hid (BakR w1 go m ip Y L v wr)) (fun v _=>(intOf v+1).toNat)
 case atStart =>
  refine ⟨m,zL,by first | rfl | (rw [hD]),?_,aO.refl _ _⟩;refine (F1.mono (Nat.zero_le _)).congr (fun j hj=>?_);unfold ru;rw [if_neg (by have:=(C.oj j hj).1;omega)]
 case round =>
  obtain ⟨q,hq,rfl,l1,l2⟩:=hrel.out;have L1:=aa l1;have M:=aa l2;clear l1 l2 hrel F1;by_cases hE:q=0
  ·subst hE;rw [show ((0:Nat):Int)-1 = -1 from rfl];go_wp2;go_loopw [92] (fun v wx=>Hid (LasR w1 go m Y d L v wx)) (fun v _=>m-(intOf v).toNat)
   case atStart=>exact ⟨0,O,rfl,L1.congr (fun j _=>by unfold ru oh;rw [if_pos O,if_neg O]),M⟩
   case round =>
    obtain ⟨i,hi,rfl,l1,l2⟩:=hrel.out;have K1:=aa l1;have y:=aa l2;clear l1 l2 hrel L1 M;by_cases hlt:i<m
    ·obtain ⟨uo,ul,uc,hS,dl,dc,c0,c1,c2,c3,_⟩:=K1.out.at i hlt;have hF:oh Y d i i=Y i:=by unfold oh;rw [if_neg O]
     rw [hF] at c0 c3;have C3:=aa c3;clear c3 hF;go_upto_region 17 with fail;obtain ⟨w2,Q⟩:=eX (wr.alloc (Obj.cells #[.bool (rB (Y i)),.slice uo ul uc,.slice hS dl dc] 85));have G2:Hid (wr.grownBy w2 none):=by rw [Q];exact ae (ag _ _) _
     have XC:Hid (∀ wx,w2.grownBy wx none->cM wx wr.heap.size (.bool (rB (Y i))) (.slice uo ul uc) (.slice hS dl dc)):=by
      intro wx hg;rw [Q] at hg;exact aJ hg
     rw [<- Q];clear Q c0 c1 c2;have x0:=XC.out w2 (ag _ _);have hk:=aa (y.gr G2);have s0:=s.out w2 hk.1;go_wp2_with fail;refine (qy _ _ (Y i) d L L _ (C3.keep0 G2) (Y1.kept hk.2) HD O).mono ?_;rintro e w4 ⟨v4,rfl,p1,p2⟩;have F4:=aa ((K1.keep0 G2).keep0 p2);have P1:=aa (p1.tight (C.xs i hlt));obtain ⟨ao,al,ac,A,bl,bc,rfl⟩:=p1.shape;have L4:=aa (hk.gr p2);obtain ⟨_,_,_,_,_,_,d0,d1,d2,_,df⟩:=F4.out.at i hlt;have Hd:=df (i*3);have He:=df (i*3+1);have Hf:=df (i*3+2);clear p1 p2 df x0 s0;go_wp2;go_roundw
     case rel =>
      obtain ⟨r1,r2,r3⟩:=F4.out.set i hlt P1;exact ⟨i+1,O,zN,r1.congr (fun j _=>A8 Y d i j),L4.trans ⟨r2,r3⟩⟩
     case measure=>exact bO
    ·obtain rfl:i=m:=O
     go_wp2;refine bodyPost_ret (v:=.slice (some ⟨go,0,none⟩) i i) (by simp [results,Tryz.results206,go_sem]) rfl ?_;refine ⟨go,rfl,by have:=f.out;omega,K1.congr (fun j hj=>by unfold oh;rw [if_pos hj]),?_⟩;exact aj (r:=none) GA y.1 (fun _ _ e=>e) (fun b hb e=>by have:=zJ e;have:=f.out;omega)
  ·obtain ⟨t,rfl⟩:∃ t,q=t+1:=⟨q-1,O⟩;have hG:((t+1:Nat):Int)-1=(t:Int):=O
   rw [hG];have a:t<m:=O
   clear hE hG;have MM:=aa (M1.keepR M (by have:=f.out;omega) (fun i hi=>by have:=P.out i hi;have:=f.out;omega));have OO:=aa (O1.keep M.1 (fun e=>by have:=zJ e;have:=f.out;omega));have YY:=aa (Y1.kept M.2);have ct:=(MM.cell t a).1;obtain ⟨mt,hT⟩:=MM.out.cap t a;unfold maxLen at hT;obtain ⟨xo,xl,xc,yo,yl,yc,c0,c1,c2,c3,_⟩:=(MM.row t a).at m O;have X3:=aa c3;have kf:=aa (C.sum t a 0 O);have N:Hid (∀ wx,wr.grownBy wx none->gY wx w.heap.size/\cM wx (w.heap.size+1) (.bool (rB d)) (.slice lo I lc) (.slice g l p)/\fT wx (bs t) m (.bool (rB (R t m))) (.slice xo xl xc) (.slice yo yl yc)):=by
    intro wx hg;have s0:=s.out wx (M.gr hg).1;exact ⟨s0.1,s0.2,(show fT _ _ _ _ _ _ from ⟨c0,c1,c2⟩).k0 hg⟩
   clear c0 c1 c2 c3;have GG:wr.grownBy wr none:=ag _ _;have s0:=N.out wr GG;have yb:w.heap.size+2<=wr.heap.size:=by have:=hC.out;have:=M.out.1.size;omega
   have Hg:wr.heap.size≠w.heap.size:=O
   have Hh:wr.heap.size≠w.heap.size+1:=O
   have Hi:wr.heap.size≠bs t:=by have:=P.out t a;omega
   have yn:(0:Int)<=(m:Int):=O
   have yv:(m:Int)<(m:Int)+1:=O
   go_wp2;go_cut [12] (fun s12 wx=>Hid (∃ gs,s12=.pointer (some ⟨gs,0,none⟩)/\wr.heap.size<=gs/\aI wx gs 1 (fun _=>dL R o Y d m t 0) z/\wr.grownBy wx none))
   case first =>
    go_region_held3 (fun w'=>gY w' w.heap.size/\cM w' (w.heap.size+1) (.bool (rB d)) (.slice lo I lc) (.slice g l p)/\fT w' (bs t) m (.bool (rB (R t m))) (.slice xo xl xc) (.slice yo yl yc)) (go_keep)
     (first | (go_at_call 38;refine (fj _ _ d (R t m) L L _ (YY.keep0 (gk GG)) (X3.keep0 (gk GG)) O).mono ?_;rintro e wx ⟨vx,rfl,px,gv⟩;have px:=px.mono (show L+L+1<=z by omega);obtain ⟨po,pl,pc,qo,ql,qc,rfl⟩:=px.shape;have GG:wr.grownBy wx none:=ab (gk GG) gv;have x0:=N.out wx GG;(try (have gy:=ab (ar (ag (wr.alloc (Obj.cells #[.bool false,.slice none 0 0,.slice none 0 0] 85)) none) 1) gv;obtain ⟨Hs,Ht,Hu,S⟩:=aV gy;have jp:=S 0;have js:=S 1;have jv:=S 2;clear S))))
    all_goals (go_wp2_with fail;go_meet;first
     | exact ⟨_,rfl,GG.size,np (px.keep0 (by exact gd)),ae (gx GG) _⟩
     | exact ⟨_,rfl,zL,pE gy px,ah (ah (ah GG _ _ zL) _ _ zL) _ _ zL⟩)
   case rest =>
    obtain ⟨gs,rfl,hA,f2,g2⟩:=hcut.out;have F2:=aa f2;have G2:=aa g2;clear hcut f2 g2 GG s0;have kg:IntKind.i64.wrap ((t:Int)+1)=(t:Int)+1:=IntWalk.i64_in _ ⟨O,O⟩;have kk:(0:Int)<=(t:Int)+1:=O
    have kn:(t:Int)+1<=(m:Int):=O
    clear N X3 kf ct;go_upto_region 7 with fail;go_cut [43,44,45] (fun s43 s44 s45 wx=>Hid (∃ off c,s43=.slice (some ⟨bo,off,none⟩) (m-(t+1)) c/\m-(t+1)<=c/\c<=9223372036854775807/\(t+1<m->off=t+1)/\s44=.int .i64 ((m-(t+1):Nat):Int)/\s45=.int .i64 0/\aI wx gs 1 (fun _=>dL R o Y d m t 0) z/\wr.grownBy wx none))
    case first =>
     by_cases E:co=t+1
     ·have Hj:(co=t+1)=True:=eq_true E;have hI:=aa E;clear E;go_wp2
      all_goals (go_meet;exact ⟨_,_,rfl,by have:=hI.out;omega,O,fun h=>absurd h (by have:=hI.out;omega),rfl,rfl,F2,G2⟩)
     ·have Hk:(co=t+1)=False:=eq_false E;clear E;go_wp2
      all_goals (go_meet;exact ⟨_,_,rfl,O,O,fun _=>rfl,rfl,rfl,F2,G2⟩)
    case rest =>
     obtain ⟨off,c,rfl,Hv,Ha,hX,rfl,rfl,f3,g3⟩:=hcut.out;have F3:=aa f3;have G3:=aa g3;have F:Hid (w.heap.size+2<=gs/\gs≠go):=⟨O,by have:=L1.out.lt;omega⟩;clear hcut f3 g3 F2 G2 kg kk kn;go_wp2;go_loopw [45] (fun v wx=>Hid (InnR wr gs R o Y d m t z v wx)) (fun v _=>m-(intOf v).toNat)
     case atStart=>exact ⟨0,O,rfl,F3,G3⟩
     case round =>
      obtain ⟨i,hi,rfl,k1,k2⟩:=hrel.out;have K1:=aa k1;have y:=aa k2;clear k1 k2 hrel F3 G3;obtain ⟨so,sl,sc,T,tl,tc,hY,ka,kb,S3,ya⟩:=K1.out.var;have SQ:=aa S3;have hp:Hid (∀ wx,wr.grownBy wx none->aI wx gs 1 (fun _=>dL R o Y d m t i) z/\cM wx gs (.bool (rB (dL R o Y d m t i))) (.slice so sl sc) (.slice T tl tc)/\∀ k,wx.frozen? ⟨gs,k,none⟩=false):=by
       intro wx hg;have hr:=K1.out.keep0 hg;obtain ⟨_,_,_,_,_,_,_,_,_,_,hf⟩:=hr.var;exact ⟨hr,(show cM _ _ _ _ _ from ⟨hY,ka,kb⟩).k0 hg,hf⟩
      clear hY ka kb S3 ya;by_cases hlt:t+1+i<m
      ·obtain rfl:off=t+1:=hX O;obtain ⟨u,hu⟩:=eX (o (t+1+i));have ks:u<m:=by rw [hu];exact (C.ot _ hlt).1
       have ku:ip u=t+1+i:=by rw [hu];exact (C.ot _ hlt).2
       have oc:=(OO.keep y Z).at (t+1+i) hlt;rw [<- hu] at oc;have kw:Hid (bh z (dL R o Y d m t i-R t u*Y u)):=by rw [hu];exact C.sum t a (i+1) O
       have hN:Hid (dL R o Y d m t (i+1)=dL R o Y d m t i-R t u*Y u):=by show _=_;rw [hu];rfl
       obtain ⟨ao,al,ac,A,bl,bc,c0,c1,c2,c3,_⟩:=((MM.row t a).keep0 y).at u O;obtain ⟨jo,jl,jc,ko,kl,kc,e0,e1,e2,e3,_⟩:=(L1.keep0 y).at u ks;have hQ:ru ip Y (t+1) u=Y u:=by unfold ru;rw [if_pos O]
       rw [hQ] at e0 e3;have C3:=aa c3;have E3:=aa e3;have N:Hid (∀ wx,wr.grownBy wx none->gY wx w.heap.size/\cM wx (w.heap.size+1) (.bool (rB d)) (.slice lo I lc) (.slice g l p)/\fT wx (bs t) u (.bool (rB (R t u))) (.slice ao al ac) (.slice A bl bc)/\fT wx go u (.bool (rB (Y u))) (.slice jo jl jc) (.slice ko kl kc)):=by
        intro wx hg;have s0:=s.out wx (M.gr (ab y hg)).1;exact ⟨s0.1,s0.2,(show fT _ _ _ _ _ _ from ⟨c0,c1,c2⟩).k0 hg,(show fT _ _ _ _ _ _ from ⟨e0,e1,e2⟩).k0 hg⟩
       clear c0 c1 c2 c3 e0 e1 e2 e3 hu hQ ku;have GG:wr.grownBy wr none:=ag _ _;have s0:=N.out wr GG;have Hl:i<m-(t+1):=O
       have md:u<m+1:=O
       have mm:(u:Int)<(m:Int)+1:=O
       have mp:(0:Int)<=(u:Int):=O
       have ms:(u:Int)<(m:Int):=O
       go_wp2;go_cut [56] (fun s56 wx=>Hid (s56=.bool (!(decide (R t u=0)))/\wr.grownBy wx none))
       case first =>
        go_region_held3 (fun w'=>gY w' w.heap.size/\cM w' (w.heap.size+1) (.bool (rB d)) (.slice lo I lc) (.slice g l p)/\fT w' (bs t) u (.bool (rB (R t u))) (.slice ao al ac) (.slice A bl bc)/\fT w' go u (.bool (rB (Y u))) (.slice jo jl jc) (.slice ko kl kc)) (go_keep)
         (first | (go_at_call 131;refine (bn _ (R t u) L _ (C3.keep0 (gx GG))).mono ?_;rintro e wa ⟨rfl,ga⟩;have GG:wr.grownBy wa none:=ab (gx GG) ga;have a0:=N.out wa GG))
        all_goals (go_wp2_with fail;go_meet;exact ⟨rfl,(gx GG)⟩)
       case rest =>
        obtain ⟨rfl,g4⟩:=hcut.out;have U:=aa g4;clear hcut g4 GG s0;by_cases hz:R t u=0
        ·have G:(!(decide (R t u=0)))=false:=by simp [hz]
         rw [G];have HZ:=aa hz;clear hz G;go_wp2;go_roundw
         case rel =>
          refine ⟨i+1,O,zN,(hp _ U).1.congr (fun _ _=>?_),ab y U⟩;rw [hN,HZ];exact DZ _ _
         case measure=>exact bO
        ·have G:(!(decide (R t u=0)))=true:=by simp [hz]
         rw [G];clear hz G;have hs:Hid (∀ wx,wc.grownBy wx none->gY wx w.heap.size/\cM wx (w.heap.size+1) (.bool (rB d)) (.slice lo I lc) (.slice g l p)/\fT wx (bs t) u (.bool (rB (R t u))) (.slice ao al ac) (.slice A bl bc)/\fT wx go u (.bool (rB (Y u))) (.slice jo jl jc) (.slice ko kl kc)):=fun wx hg=>N wx (ab U hg)
         have H:Hid (∀ wx,wc.grownBy wx none->aI wx gs 1 (fun _=>dL R o Y d m t i) z/\cM wx gs (.bool (rB (dL R o Y d m t i))) (.slice so sl sc) (.slice T tl tc)/\∀ k,wx.frozen? ⟨gs,k,none⟩=false):=fun wx hg=>hp wx (ab U hg)
         have ky:gs≠w.heap.size:=by have:=F.out.1;omega
         have kz:gs≠w.heap.size+1:=by have:=F.out.1;omega
         have kF:gs≠bs t:=by have:=F.out.1;have:=P.out t a;omega
         have kH:gs≠go:=F.out.2;have GG:wc.grownBy wc none:=ag _ _;have s0:=hs.out wc GG;obtain ⟨sr,t0,B⟩:=H.out wc GG;clear sr B;go_wp2;refine hd (fun w'=>gY w' w.heap.size/\cM w' (w.heap.size+1) (.bool (rB d)) (.slice lo I lc) (.slice g l p)/\fT w' (bs t) u (.bool (rB (R t u))) (.slice ao al ac) (.slice A bl bc)/\fT w' go u (.bool (rB (Y u))) (.slice jo jl jc) (.slice ko kl kc)) (fun hHeld=>?_);refine tk 4 [(0,57,.pointer (some ⟨w.heap.size,5,none⟩)),(1,58,.func (.func 67) #[] #[]),(3,60,.pointer (some ⟨w.heap.size,6,none⟩)),(4,61,.func (.func 38) #[] #[]),(5,62,.slice (some ⟨bs t,0,none⟩) (m+1) (cs t)),(6,63,.int .i64 (u:Nat)),(7,64,.pointer (some ⟨bs t,u*3,none⟩)),(8,65,Value.agg #[.bool (rB (R t u)),.slice ao al ac,.slice A bl bc]),(9,66,.slice (some ⟨go,0,none⟩) m m),(10,67,.int .i64 (u:Nat)),(11,68,.pointer (some ⟨go,u*3,none⟩)),(12,69,Value.agg #[.bool (rB (Y u)),.slice jo jl jc,.slice ko kl kc])] ?_;try simp only [pA,pL,vA,vL,q0,q1,q2,q3]
         refine on2 3 2 13 (fun K x=>?zp) (fun K x=>?zq)
         case' zp =>
          have zM:=True.intro;simp only [ax,q4,q5,q6,q7];go_simp
          refine bk x (fun hHeld=>?_);clear x K;try simp only [pA,pL,vA,vL,q0,q1,q2,q3]
          refine cQ 2 13 (fun K x=>?_)
         all_goals
          simp only [ax,q4,q5,q6,q7];go_simp
          go_at_call 38
          refine (fj _ _ (R t u) (Y u) L L _ (C3.keep0 (ab U (gx GG))) (E3.keep0 (ab U (gx GG))) O).mono ?_;rintro e wa ⟨va,rfl,pa,ga⟩;obtain ⟨po,pl,pc,qo,ql,qc,rfl⟩:=pa.shape;have GG:wc.grownBy wa none:=ab (gx GG) ga;have a0:=hs.out wa GG;obtain ⟨sr,ta,B⟩:=H.out wa GG;clear sr B;go_wp2_with fail;refine bk x (fun hHeld=>?_);clear x K;try simp only [pA,pL,vA,vL,q0,q1,q2,q3]
          first
           | (have:=zM;refine cQ 1 14 (fun K x=>?_))
           | (refine cQ 2 2 (fun K x=>?_);simp only [ax,q4,q5,q6,q7];go_simp;refine bk x (fun hHeld=>?_);clear x K;(try simp only [pA,pL,vA,vL,q0,q1,q2,q3]);refine cQ 1 14 (fun K x=>?_))
          simp only [ax,q4,q5,q6,q7];go_simp
          go_at_call 67
          refine (dD _ _ (dL R o Y d m t i) (R t u*Y u) z (L+L+1) _ (SQ.keep0 (ab U (gx GG))) (pa.keep0 (by exact gd)) O).mono ?_;rintro e wm ⟨vm,rfl,pm,gm⟩;have pm:=pm.tight (L':=z) kw;obtain ⟨mo,ml,mc,no,nl,nc,rfl⟩:=pm.shape;have GG:wc.grownBy wm none:=ab (gx GG) gm;have b0:=hs.out wm GG;obtain ⟨sr,tb,B⟩:=H.out wm GG;have kN:=B 0;have kS:=B 1;have qa:=B 2;clear B;go_wp2_with fail;refine bk x (fun hHeld=>?_);clear x K;try simp only [pA,pL,vA,vL,q0,q1,q2,q3]
          refine cQ 0 15 (fun K x=>?_);simp only [ax,q4,q5,q6,q7];go_simp
          refine bk x (fun hHeld=>?_);clear x K;refine wpAnyH_done zK ?_ _;have SR:=aa sr;have PM:=aa pm;have GF:=aa (ab y (ab U GG));clear sr pm GG;go_wp2;go_roundw
          case rel =>
           refine ⟨i+1,O,zN,?_,ah (ah (ah GF _ _ hA) _ _ hA) _ _ hA⟩;rw [hN];exact SR.varset PM zL
          case measure=>exact bO
      ·obtain rfl:i=m-(t+1):=O
       obtain ⟨J,_⟩:=C.out.ot t a;obtain ⟨v,hv⟩:=eX (o t);have oc:=(OO.keep y Z).at t a;rw [<- hv] at oc J;obtain ⟨eo,el,ec,ho,hl,ke,c0,c1,c2,c3,_⟩:=((MM.row t a).keep0 y).at v O;obtain ⟨jo,jl,jc,ko,kl,kc,e0,e1,e2,e3,ef⟩:=(L1.keep0 y).at v J;have C3:=aa c3;have qb:Hid (R t v≠0):=by rw [hv];exact (C.piv t a).1
       have qf:Hid (dL R o Y d m t (m-(t+1)) / R t v=Y v):=by show _=_;rw [hv];exact (C.piv t a).2
       have qq:Hid (bh L (Y v)):=C.out.ys v J;have HV:=aa hv;have N:Hid (∀ wx,wr.grownBy wx none->gY wx w.heap.size/\cM wx (w.heap.size+1) (.bool (rB d)) (.slice lo I lc) (.slice g l p)/\fT wx (bs t) v (.bool (rB (R t v))) (.slice eo el ec) (.slice ho hl ke)/\cM wx gs (.bool (rB (dL R o Y d m t (m-(t+1))))) (.slice so sl sc) (.slice T tl tc)/\wx.cell? ⟨bo,t,none⟩=some (.int .i64 ((v:Nat):Int))):=by
        intro wx hg;have s0:=s.out wx (M.gr (ab y hg)).1;exact ⟨s0.1,s0.2,(show fT _ _ _ _ _ _ from ⟨c0,c1,c2⟩).k0 hg,(hp wx hg).2.1,hg.cell oc Z⟩
       have qs:Hid (∀ wx,wr.grownBy wx none->aI wx go m (ru ip Y (t+1)) L/\fT wx go v (.bool (rB (ru ip Y (t+1) v))) (.slice jo jl jc) (.slice ko kl kc)/\∀ k,wx.frozen? ⟨go,k,none⟩=false):=by
        intro wx hg;have hr:=(L1.keep0 y).keep0 hg;obtain ⟨_,_,_,_,_,_,_,_,_,_,hf⟩:=hr.at v J;exact ⟨hr,(show fT _ _ _ _ _ _ from ⟨e0,e1,e2⟩).k0 hg,hf⟩
       clear c0 c1 c2 c3 e0 e1 e2 e3 ef hv oc;have GG:wr.grownBy wr none:=ag _ _;have s0:=N.out wr GG;have ky:go≠w.heap.size:=by have:=f.out;omega
       have kz:go≠w.heap.size+1:=by have:=f.out;omega
       have kF:go≠bs t:=by have:=f.out;have:=P.out t a;omega
       have kH:go≠gs:=fun e=>F.2 e.symm
       have Hm:go≠bo:=by have:=f.out;omega
       have Hn:(v:Int)<(m:Int)+1:=O
       have Ho:(0:Int)<=(v:Int):=O
       have Hp:(v:Int)<(m:Int):=O
       have Hq:(t:Int)<(m:Int):=O
       have Hr:(0:Int)<=(t:Int):=O
       have hR:IntKind.i64.wrap ((t:Int)-1)=(t:Int)-1:=IntWalk.i64_in _ ⟨O,O⟩;go_wp2;go_region_held3 (fun w'=>gY w' w.heap.size/\cM w' (w.heap.size+1) (.bool (rB d)) (.slice lo I lc) (.slice g l p)/\fT w' (bs t) v (.bool (rB (R t v))) (.slice eo el ec) (.slice ho hl ke)/\cM w' gs (.bool (rB (dL R o Y d m t (m-(t+1))))) (.slice so sl sc) (.slice T tl tc)/\w'.cell? ⟨bo,t,none⟩=some (.int .i64 ((v:Nat):Int))) (go_keep)
        (first | (go_at_call 130;refine (qy _ _ (dL R o Y d m t (m-(t+1))) (R t v) z L _ (SQ.keep0 (gx GG)) (C3.keep0 (gx GG)) qb O).mono ?_;rintro e wy ⟨vy,rfl,py,gy⟩;rw [qf] at py;have py:=py.tight (L':=L) qq;obtain ⟨mo,ml,mc,no,nl,nc,rfl⟩:=py.shape;have GG:wr.grownBy wy none:=ab (gx GG) gy;have b0:=N.out wy GG;obtain ⟨fr,t0,B⟩:=qs.out wy GG;have kN:=B (v*3);have kS:=B (v*3+1);have qa:=B (v*3+2);clear B))
       all_goals
        have FR:=aa fr;have PY:=aa py;have GF:=aa (ab y GG);clear fr py GG;go_wp2;go_roundw
        case rel =>
         obtain ⟨r1,r2,r3⟩:=FR.out.set v J PY;refine ⟨t,O,by first | rfl | (rw [hR]),r1.congr (fun j hj=>?_),(M.gr GF).trans ⟨r2,r3⟩⟩;rw [HV];exact DK C t a j hj
        case measure=>simp [intOf]<;>omega
theorem tr {M:Nat} (a:M<4294967296^L) (c:1<=L) (h:gP M q):bh L q:=by
 refine ⟨Nat.lt_of_le_of_lt h.2 a,?_⟩;rw [h.1];exact Nat.lt_of_lt_of_le (by decide:1<4294967296^1) (Nat.pow_le_pow_right zD c)
theorem quo_wh {M:Nat} {a c:Rat} (ha:gP M a) (hc:gP M c) (l:c≠0):rN (a / c)<=M/\(a / c).den<=M:=by
 have f:rN c≠0:=q_ne l;have e:=DT a c;rw [ha.1,hc.1,Nat.mul_one,Nat.mul_one] at e;by_cases g:rN a=0
 ·rw [DU g,Rat.div_def,Rat.zero_mul];have p:=hc.2;exact ⟨Nat.zero_le _,by show 1<=M;omega⟩
 ·obtain ⟨_,h,j⟩:=vI (rB a != rB c) (rN a) (rN c) g f;rw [e] at h j;refine ⟨?_,?_⟩
  ·unfold rN;rw [h];exact Nat.le_trans (Nat.div_le_self _ _) ha.2
  ·rw [j];exact Nat.le_trans (Nat.div_le_self _ _) hc.2
theorem kM {M:Nat} {a c:Rat} (e:M<4294967296^L) (ha:gP M a) (hc:gP M c) (f:c≠0):bh L (a / c):=by
 obtain ⟨g,h⟩:=quo_wh ha hc f;exact ⟨Nat.lt_of_le_of_lt g e,Nat.lt_of_le_of_lt h e⟩
theorem AK (R:Nat->Nat->Rat) (o:Nat->Nat) (Y:Nat->Rat) (d:Rat) (m t:Nat) (l:List Nat) (a:∀ i,i<l.length->l.getD i 0=o (t+1+i)):∀ k,k<=l.length ->
  dL R o Y d m t k=d*R t m-cE (fun v=>R t v*Y v) (l.take k):=by
 intro k;induction k with
 | zero =>
  intro _;rw [List.take_zero];show d*R t m=d*R t m-(0:Rat)
  grind
 | succ k ih =>
  intro f;show dL R o Y d m t k-R t (o (t+1+k))*Y (o (t+1+k))=_
  rw [ih O,List.take_add_one,zX O];have e:=a k O;rw [zW,zX O] at e;have c:l[k]=o (t+1+k):=e;rw [wX];show _=d*R t m-(cE (fun v=>R t v*Y v) (l.take k)+(R t l[k]*Y l[k]+(0:Rat)))
  rw [c];grind
theorem Cw {Y:Nat->Rat} {M:Nat} (a:∀ t,t<m->∀ j,gP M (R t j)) (g:∀ t,t<m->gP M (Y (o t))) (hd:gP M d) (t:Nat) (c:t<m):∀ i,t+1+i<=m ->
  gP ((i+1)*(M*M)) (dL R o Y d m t i):=by
 intro i;induction i with
 | zero =>
  intro _;have:=bE.mul _ _ _ _ hd (a t c m);rw [Nat.zero_add,Nat.one_mul];exact this
 | succ i ih =>
  intro hi;have h:=ih O;have l:=bE.neg _ _ (bE.mul _ _ _ _ (a t c (o (t+1+i))) (g (t+1+i) O));have f:=bE.add _ _ _ _ h l;have e:(i+1)*(M*M)+M*M=(i+1+1)*(M*M):=by rw [Nat.add_mul (i+1) 1,Nat.one_mul]
  rw [e] at f;show gP _ (dL R o Y d m t i-R t (o (t+1+i))*Y (o (t+1+i)))
  rw [Rat.sub_eq_add_neg];exact f
theorem back_of {b:Nat->Nat} {s:Rat} (h:St W m m perm order R d s) (E:0<m) (hb:∀ r,1<=b r) (C:∀ r j,gP (b r) (W r j))
  (hR:∀ t,t<m->∀ j,gP (dR m b) (R t j)) (L LS:Nat) (hL1:1<=L) (hM:dR m b<4294967296^L) (hLS1:1<=LS) (hS:(m+1)*(dR m b*dR m b)<4294967296^LS) :
  ∃ (y:Nat->Rat) (ip:Nat->Nat),mF W m y/\(∀ z,mF W m z->∀ j,j<m->z j=y j)/\Cj R (fun t=>order.getD t 0) ip (fun j=>d*y j) d m L LS/\∀ j,d*y j / d=y j:=by
 obtain ⟨y,hy,g,H,A⟩:=As bE h hb C;have hd:=Aw bE h E hb C;have u:d≠0:=h.dn;have F:=h.ol;have a:∀ j,∃ t,j<m->t<m/\order.getD t 0=j:=by
  intro j;by_cases c:j<m
  ·obtain ⟨t,ht,e⟩:=fB (h.om j c);exact ⟨t,fun _=>⟨O,e⟩⟩
  ·exact ⟨0,fun h=>absurd h c⟩
 obtain ⟨ip,l⟩:∃ ip:Nat->Nat,∀ j,j<m->ip j<m/\order.getD (ip j) 0=j:=⟨fun j=>Classical.choose (a j),fun j=>Classical.choose_spec (a j)⟩;have hlt:∀ t,t<m->order.getD t 0<m:=fun t ht=>h.ob _ (dg order t O)
 have x:∀ j,d*y j / d=y j:=by
  intro j;rw [Rat.mul_comm,Rat.mul_div_cancel u]
 have f:∀ j,j<m->gP (dR m b) (d*y j):=by
  intro j c;obtain ⟨p,B⟩:=l j c;have:=H (ip j) p;rw [B] at this;exact this
 refine ⟨y,ip,hy,g,⟨?_,l,?_,?_,?_,?_⟩,x⟩
 ·intro t ht;refine ⟨hlt t ht,?_⟩;obtain ⟨p,B⟩:=l _ (hlt t ht);exact h.oi _ _ p ht B
 ·intro t ht i hi;refine tr (Nat.lt_of_le_of_lt ?_ hS) hLS1 (Cw hR (fun t ht=>f _ (hlt t ht)) hd t ht i hi);exact Nat.mul_le_mul O zL
 ·intro t ht;obtain ⟨p,B⟩:=A t ht;refine ⟨p,?_⟩;have D:(order.drop (t+1)).length=m-(t+1):=by rw [List.length_drop];omega
  have e:=AK R (fun t=>order.getD t 0) (fun j=>d*y j) d m t (order.drop (t+1)) (fun i _=>by
   rw [zW,List.getElem?_drop,<- zW]) (m-(t+1)) O
  rw [zT O] at e;have G:dL R (fun t=>order.getD t 0) (fun j=>d*y j) d m t (m-(t+1))=d*y (order.getD t 0)*R t (order.getD t 0):=by rw [e];exact B
  rw [G,Rat.mul_div_cancel p]
 ·intro j c;exact tr hM hL1 (f j c)
 ·intro j c;exact kM hM (f j c) hd u
def fI (R:Nat->Nat->Rat) (k done:Nat) (u d:Rat) (i:Nat):Nat->Nat->Rat:=fun t =>
 if t=done then (fun j=>u*R done j) else if done<t/\t<done+1+i then kV (R t) (fun j=>u*R done j) k d else R t
theorem turn_sg (x:Rat):ug x=1∨ug x = -1:=by
 unfold ug;split
 ·exact .inr rfl
 ·exact .inl rfl
theorem sg_ne {u x:Rat} (h:u=1∨u = -1) (a:x≠0):u*x≠0:=by
 rcases h with rfl | rfl
 ·rwa [Rat.one_mul]
 ·intro e;apply a;grind
theorem gZ (R:Nat->Nat->Rat) (k done:Nat) (u d:Rat) (i j:Nat):fI R k done u d i done j=u*R done j:=by
 unfold fI;rw [if_pos rfl]
theorem xR (R:Nat->Nat->Rat) (k done:Nat) (u d:Rat) (t j:Nat):(if t=done then (fun j=>u*R done j) else R t) j=fI R k done u d 0 t j:=by
 unfold fI;by_cases e:t=done
 ·rw [if_pos e,if_pos e]
 ·rw [if_neg e,if_neg e,if_neg O]
theorem xP (R:Nat->Nat->Rat) (k done:Nat) (u d:Rat) (i:Nat):fI R k done u d i (done+1+i)=R (done+1+i):=by
 unfold fI;rw [if_neg O,if_neg O]
theorem xQ (R:Nat->Nat->Rat) (k done:Nat) (u d:Rat) (i t j:Nat) :
  (if t=done+1+i then kV (R (done+1+i)) (fun j=>u*R done j) k d else fI R k done u d i t) j=fI R k done u d (i+1) t j:=by
 unfold fI;by_cases e:t=done+1+i
 ·rw [if_pos e,if_neg O,if_pos O,e]
 ·rw [if_neg e];by_cases a:t=done
  ·rw [if_pos a,if_pos a]
  ·rw [if_neg a,if_neg a];by_cases c:done<t/\t<done+1+i
   ·rw [if_pos c,if_pos O]
   ·rw [if_neg c,if_neg O]
theorem nD {done:Nat} {s u:Rat} (h:St W m done perm order R d s) (hd:done<m) (a:u=1∨u = -1) (hn:R done (order.getD done 0)≠0) :
  St W m (done+1) perm order (fI R (order.getD done 0) done u d (m-(done+1))) (u*R done (order.getD done 0)) (u*s):=by
 refine st_step h hd a (fun t e j=>?_) (fun j=>gZ ..) (gZ _ _ _ _ _ _ _).symm (sg_ne a hn) (fun i hi c j=>?_)
 ·unfold fI;rw [if_neg O,if_neg O]
 ·rw [gZ];unfold fI;rw [if_neg O,if_pos O];rfl
theorem elim_wh {done:Nat} {b:Nat->Nat} {s u:Rat} (h:St W m done perm order R d s) (hd:done<m) (a:u=1∨u = -1) (hb:∀ r,1<=b r) (c:∀ r j,gP (b r) (W r j))
  (hR:∀ t,t<done->∀ j,gP (dR m b) (R t j)) (k i t:Nat) (ht:t<done+1) (j:Nat):gP (dR m b) (fI R k done u d i t j):=by
 by_cases e:t=done
 ·rw [e,gZ];exact wK bE a (st_wh bE h hb c done zL hd j)
 ·unfold fI;rw [if_neg e,if_neg O];exact hR t O j
theorem CT {done:Nat} {b:Nat->Nat} {s u:Rat} (h:St W m done perm order R d s) (hd:done<m) (a:u=1∨u = -1) (hn:R done (order.getD done 0)≠0) (hb:∀ r,1<=b r) (c:∀ r j,gP (b r) (W r j))
  (hL1:1<=L) (hM:dR m b<4294967296^L) (t:Nat) (ht:done<t) (ht2:t<m) (j:Nat):bh L (kV (R t) (fun j=>u*R done j) (order.getD done 0) d j):=by
 have:=st_wh bE (nD h hd a hn) hb c t O ht2 j;unfold fI at this;rw [if_neg O,if_pos O] at this;exact tr hM hL1 this
def nq (R:Nat->Nat->Rat) (n:Nat):Nat->Nat->Rat:=fun r j=>if j<n then cA (R r) n j else 0
theorem iu (x:Nat->Rat) {R S:Nat->Rat} : ∀ n,(∀ j,j<n->R j=S j)->cK n x R=cK n x S:=by
 intro n;induction n with
 | zero=>intro _;rfl
 | succ n ih=>intro h;unfold cK;rw [ih (fun j a=>h j O),h n O]
theorem Bb (x R:Nat->Rat) (c:Rat):∀ n,cK n x (fun j=>R j*c)=cK n x R*c:=by
 intro n;induction n with
 | zero=>unfold cK;grind
 | succ n ih=>unfold cK;rw [ih];grind
theorem iO (R:Nat->Nat->Rat) (m:Nat) (x:Nat->Rat):mF (nq R (m+1)) m x↔mF R m x:=by
 have a:∀ r,cK (m+1) x (nq R (m+1) r)=cK (m+1) x (R r)*((jh (R r) (m+1):Nat):Rat):=by
  intro r;rw [<- Bb];exact iu x (m+1) (fun j s=>by unfold nq;rw [if_pos s];rfl)
 have c:∀ r,((jh (R r) (m+1):Nat):Rat)≠0:=by
  intro r e;have:=pV (R r) (m+1);have p:((jh (R r) (m+1):Nat):Rat)=((0:Nat):Rat):=e;rw [Rat.natCast_inj] at p;omega
 constructor
 ·rintro ⟨f,g⟩;refine ⟨f,fun r l=>?_⟩;have:=g r l;rw [a r] at this;rcases Rat.mul_eq_zero.1 this with h | h
  ·exact h
  ·exact absurd h (c r)
 ·rintro ⟨f,g⟩;refine ⟨f,fun r l=>?_⟩;rw [a r,g r l,Rat.zero_mul]
end Go.Proofs.YtbfohfjobncehaaGreatDoor
