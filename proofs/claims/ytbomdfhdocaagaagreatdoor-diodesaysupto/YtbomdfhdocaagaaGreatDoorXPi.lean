/- Contracts. -/
import Derived.Test.YtbomdfhdocaagaaGreatDoorXHand
import Derived.Test.YtbomdfhdocaagaaGreatDoorXPb
namespace Go.Proofs.YtbomdfhdocaagaaGreatDoor
open Go.RowKit
set_option linter.all false
set_option maxHeartbeats 8000000
set_option maxRecDepth 10000
variable {w w':World} {L n m b i br base bo k:Nat} {R:Nat->Nat->Rat} {bs cs o:Nat->Nat} {q:Rat} {v:Value} {P:Program} {cur:Array Value} {Q:Exit->Act->World->Prop} {uo:Option Addr} {r:Option Nat}
def fD (R:Nat->Rat) (q:Rat) (i:Nat):Nat->Rat:=fun j=>if j<i then R j*q else R j
def xk (R:Nat->Rat) (q:Rat) (i j:Nat):aN (fD R q i) i (R i*q) j=fD R q (i+1) j:=by
 unfold aN fD;by_cases h:j=i
 ·rw [if_pos h,if_pos O,h]
 ·rw [if_neg h];by_cases a:j<i
  ·rw [if_pos a,if_pos O]
  ·rw [if_neg a,if_neg O]
def ui (R:Nat->Rat) (q:Rat) (i j:Nat) (h:R i=0):fD R q i j=fD R q (i+1) j:=by
 unfold fD;by_cases a:j<i
 ·rw [if_pos a,if_pos O]
 ·rw [if_neg a];by_cases c:j=i
  ·subst c;rw [if_pos O,h,Rat.zero_mul]
  ·rw [if_neg O]
def aK (w w':World) (b:Nat):Prop:=w.grownBy w' (some b)/\aO w w'
def aK.refl (w:World) (b:Nat):aK w w b:=⟨ae _ _,aO.refl _⟩
def aK.trans {w1 a:World} (h:aK w w1 b) (k:aK w1 a b):aK w a b:=⟨aw h.1 k.1 (fun _ _ e=>e) (fun _ _ e=>e),h.2.trans k.2⟩
def aK.of_gr (h:w.grownBy w' none):aK w w' b:=⟨aw h (ae _ none) nofun nofun,aO.of_gr h⟩
def aK.gr {w1 a:World} (h:aK w w1 b) (k:w1.grownBy a none):aK w a b:=h.trans (aK.of_gr k)
def TimR (W:World) (b n:Nat) (R:Nat->Rat) (q:Rat) (L:Nat) (v:Value) (wr:World):Prop :=
 ∃ i:Nat,i<=n/\v=.int .i64 i/\aJ wr b n (fD R q i) L/\aK W wr b
def m8 (fb:Bool) (fu fd:Value) (b n cap:Nat) (R:Nat->Rat) (q:Rat) (yv:Value) (L:Nat) (w:World) (z:aJ w b n R L) (hy:FQ w yv q L) (hn:n<=cap) (hc:cap<=maxLen) (hL:L<=100000000)
  (hfit:∀ i,i<n->bh L (R i*q)) :
  Calls Tryz.prog 177 #[kh fb fu fd,.slice (some ⟨b,0,none⟩) n cap,yv] w
   fun e w'=>e=.returned (.tuple #[])/\aJ w' b n (fun i=>R i*q) L/\aK w w' b:=by
 unfold maxLen at hc;have HR:=ab z;have HY:=ab hy;have HF:=ab hfit;have he:=z.lt;obtain ⟨yo,yl,yc,zo,zl,zc,rfl⟩:=hy.shape;clear z hy hfit;obtain ⟨W,p⟩:=eX ((w.alloc (Obj.cells #[.bool fb,fu,fd,.func (.func 84) #[] #[],.func (.func 85) #[] #[],.func (.func 86) #[] #[],.func (.func 87) #[] #[],.func (.func 88) #[] #[],.func (.func 89) #[] #[],.func (.func 90) #[] #[],.func (.func 91) #[] #[]] 111)).alloc (Obj.cells #[.bool (rB q),.slice yo yl yc,.slice zo zl zc] 105));have A:Hid (w.grownBy W none):=by rw [p];exact ag (ag (ae _ _) _) _
 have a:Hid (∀ wx,W.grownBy wx (some b)->wx.cell? ⟨w.heap.size,8,none⟩=some (.func (.func 89) #[] #[])/\wx.cell? ⟨w.heap.size,6,none⟩=some (.func (.func 87) #[] #[])/\wx.cell? ⟨w.heap.size+1,0,none⟩=some (.bool (rB q))/\wx.cell? ⟨w.heap.size+1,1,none⟩=some (.slice yo yl yc)/\wx.cell? ⟨w.heap.size+1,2,none⟩=some (.slice zo zl zc)):=by
  intro wx hg;rw [p] at hg;have n1:some w.heap.size≠some b:=fun e=>by have:=zJ e;omega
  have B:some (w.heap.size+1)≠some b:=fun e=>by have:=zJ e;omega
  exact ⟨hg.cell zG n1,hg.cell zG n1,hg.cell zG B,hg.cell zG B,hg.cell zG B⟩
 have hf:Hid (w.heap.size+1<W.heap.size):=by show _<_;rw [p];simp
 go_enter Tryz.func177,Tryz.ntmps177
 go_wp2;rw [<- p];clear p;go_loopw [10] (fun v wr=>Hid (TimR W b n R q L v wr)) (fun v _=>n-(intOf v).toNat)
 case atStart=>exact ⟨0,O,rfl,(HR.keep0 A).congr (fun i _=>by unfold fD;rw [if_neg O]),aK.refl _ _⟩
 case round =>
  obtain ⟨i,hi,rfl,l1,l2⟩:=hrel.out;have t:=ab l1;have f:=ab l2;clear l1 l2 hrel;by_cases hlt:i<n
  ·obtain ⟨uo,ul,uc,s,dl,dc,c0,c1,c2,c3,cf⟩:=t.out.at i hlt;have g:fD R q i i=R i:=by unfold fD;rw [if_neg O]
   rw [g] at c0 c3;have C3:=ab c3;obtain ⟨F,G,H,I,J⟩:=a.out wr f.1;clear c3 cf g;go_upto_region 4 with fail;obtain ⟨u,d⟩:=eX (wr.alloc (Obj.cells #[.bool (rB (R i)),.slice uo ul uc,.slice s dl dc] 105));have C:Hid (wr.grownBy u none):=by rw [d];exact ag (ae _ _) _
   have XC:Hid (∀ wx,u.grownBy wx none->wx.cell? ⟨wr.heap.size,0,none⟩=some (.bool (rB (R i)))/\wx.cell? ⟨wr.heap.size,1,none⟩=some (.slice uo ul uc)/\wx.cell? ⟨wr.heap.size,2,none⟩=some (.slice s dl dc)):=by
    intro wx hg;rw [d] at hg;exact aH hg
   rw [<- d];clear d F G H I J c0 c1 c2;obtain ⟨x0,x1,x2⟩:=XC.out u (ae _ _);have D:=ab (f.gr C);obtain ⟨F,G,H,I,J⟩:=a.out u D.1;go_wp2_with fail;refine (bA _ (R i) L _ (C3.keep0 C)).mono ?_;rintro e w3 ⟨rfl,x⟩;obtain ⟨K,M,N⟩:=XC.out w3 x;have h:=ab (aa C x);clear x0 x1 x2 F G H I J;by_cases l:R i=0
   ·have c:decide (R i=0)=true:=decide_eq_true l;rw [c];have HZ:=ab l;clear l c x;go_wp2;go_roundw
    case rel=>exact ⟨i+1,O,zN,(t.keep0 h).congr (fun j _=>ui R q i j HZ),f.gr h⟩
    case measure=>exact bH
   ·have c:decide (R i=0)=false:=decide_eq_false l;rw [c];clear l c x;have E:=ab (f.gr h);obtain ⟨S,T,U,V,X⟩:=a.out w3 E.1;go_wp2_with fail;refine (fS _ _ (R i) q L L _ (C3.keep0 h) (HY.kept ((aO.of_gr A).trans E.2)) O).mono ?_;rintro e w4 ⟨v4,rfl,Y,p2⟩;have F4:=ab (aJ.keep0 (t.keep0 h) p2);obtain ⟨ao,al,ac,bo,bl,bc,rfl⟩:=Y.shape;have P1:=ab (Y.tight (HF i hlt));have L4:=ab (E.gr p2);obtain ⟨_,_,_,_,_,_,d0,d1,d2,_,y⟩:=F4.out.at i hlt;have hk:=y (i*3);have hl:=y (i*3+1);have hm:=y (i*3+2);clear Y p2 y S T U V X K M N;go_wp2;go_roundw
    case rel =>
     obtain ⟨r1,r2,r3⟩:=F4.out.set i hlt P1;exact ⟨i+1,O,zN,r1.congr (fun j _=>xk R q i j),L4.trans ⟨r2,r3⟩⟩
    case measure=>exact bH
  ·obtain rfl:i=n:=O
   go_wp2;go_end0
   exact ⟨rfl,t.congr (fun j hj=>by unfold fD;rw [if_pos hj]),(aK.of_gr A).trans f⟩
def FQ.fits (h:FQ w v q L) (d:1<=L):bh L q:=by
 obtain ⟨up,c,e,f,a,g,j⟩:=h;refine ⟨f.lt,?_⟩;rcases a with ⟨_,a⟩ | ⟨a,_⟩
 ·rw [a];exact Nat.lt_of_lt_of_le (by decide:1<4294967296^1) (Nat.pow_le_pow_right zD d)
 ·exact a.lt
def bh.neg (h:bh L q):bh L (-q):=by
 obtain ⟨d,a,c⟩:=ED q;unfold bh;rw [a,c];exact h
def uk (x:Rat):Rat:=if x=0 then -1 else 1
def FV.parts {u d:Value} {b neg:Bool} (h:FV w (.agg #[.bool b,u,d]) neg n m L):b=neg:=by
 obtain ⟨_,_,e,_⟩:=h;simp only [Value.agg.injEq,Array.mk.injEq,List.cons.injEq,and_true,Value.bool.injEq] at e;exact e.1
def vw (u:Bool) (x c:Option Addr) (fl fc f g:Nat) (b n cap k:Nat) (R:Nat->Rat) (d:Rat) (lv:Value) (L:Nat) (w:World) (F:aJ w b n R L) (hy:FQ w lv d L) (J:FQ w (.agg #[.bool u,.slice x fl fc,.slice c f g]) 1 L)
  (hk:k<n) (hn:n<=cap) (hc:cap<=maxLen) (hL1:1<=L) (hL:L<=100000000) :
  Calls Tryz.prog 144 #[(kh u (.slice x fl fc) (.slice c f g)),.slice (some ⟨b,0,none⟩) n cap,.int .i64 (k:Nat),lv] w
   fun e w'=>e=.returned (.tuple #[])/\aJ w' b n (fun i=>uk (R k+d)*R i) L/\aK w w' b:=by
 have K:=ab F;have HY:=ab hy;have H1:=ab J;have HC:=ab hc;unfold maxLen at hc;have hq:=F.lt;obtain ⟨lo,V,lc,z,A,B,rfl⟩:=hy.shape;obtain ⟨uo,ul,uc,vo,vl,vc,c0,c1,c2,c3,_⟩:=F.at k hk;have C3:=ab c3;have D:Hid (∀ i,i<n->bh L (R i*(0-1))):=by
  intro i hi;obtain ⟨_,_,_,_,_,_,_,_,_,h,_⟩:=K.out.at i hi;have e:R i*(0-1) = -(R i):=by grind
  rw [e];exact (h.fits hL1).neg
 have M:Hid (bh L (0-1)):=by
  have e:(0:Rat)-1 = -1:=by grind
  rw [e];exact (J.fits hL1).neg
 clear F hy J c3;obtain ⟨W,I⟩:=eX ((w.alloc (Obj.cells #[.bool u,.slice x fl fc,.slice c f g,.func (.func 84) #[] #[],.func (.func 85) #[] #[],.func (.func 86) #[] #[],.func (.func 87) #[] #[],.func (.func 88) #[] #[],.func (.func 89) #[] #[],.func (.func 90) #[] #[],.func (.func 91) #[] #[]] 111)).alloc (Obj.cells #[.bool (rB d),.slice lo V lc,.slice z A B] 105));have s:Hid (w.grownBy W none):=by rw [I];exact ag (ag (ae _ _) _) _
 have a:Hid (∀ wx,W.grownBy wx none->wx.cell? ⟨w.heap.size,3,none⟩=some (.func (.func 84) #[] #[])/\wx.cell? ⟨w.heap.size,4,none⟩=some (.func (.func 85) #[] #[])/\wx.cell? ⟨w.heap.size,5,none⟩=some (.func (.func 86) #[] #[])/\wx.cell? ⟨w.heap.size,6,none⟩=some (.func (.func 87) #[] #[])/\wx.cell? ⟨w.heap.size,7,none⟩=some (.func (.func 88) #[] #[])/\wx.cell? ⟨w.heap.size,8,none⟩=some (.func (.func 89) #[] #[])/\wx.cell? ⟨w.heap.size,9,none⟩=some (.func (.func 90) #[] #[])/\wx.cell? ⟨w.heap.size,10,none⟩=some (.func (.func 91) #[] #[])/\wx.cell? ⟨w.heap.size,0,none⟩=some (.bool u)/\wx.cell? ⟨w.heap.size,1,none⟩=some (.slice x fl fc)/\wx.cell? ⟨w.heap.size,2,none⟩=some (.slice c f g)/\wx.cell? ⟨w.heap.size+1,0,none⟩=some (.bool (rB d))/\wx.cell? ⟨w.heap.size+1,1,none⟩=some (.slice lo V lc)/\wx.cell? ⟨w.heap.size+1,2,none⟩=some (.slice z A B)/\wx.cell? ⟨b,k*3,none⟩=some (.bool (rB (R k)))/\wx.cell? ⟨b,k*3+1,none⟩=some (.slice uo ul uc)/\wx.cell? ⟨b,k*3+2,none⟩=some (.slice vo vl vc)):=by
  intro wx hg;have y:=aa s hg;rw [I] at hg;exact ⟨hg.cell zG Z,hg.cell zG Z,hg.cell zG Z,hg.cell zG Z,hg.cell zG Z,hg.cell zG Z,hg.cell zG Z,hg.cell zG Z,hg.cell zG Z,hg.cell zG Z,hg.cell zG Z,hg.cell zG Z,hg.cell zG Z,hg.cell zG Z,y.cell c0 Z,y.cell c1 Z,y.cell c2 Z⟩
 obtain ⟨s0,s1,s2,s3,s4,s5,s6,s7,s8,s9,s10,s11,s12,s13,s14,s15,s16⟩:=a.out W (ae _ _);have GG:W.grownBy W none:=ae _ _;go_enter Tryz.func144,Tryz.ntmps144
 go_upto_region 1 with fail;rw [<- I];clear I c0 c1 c2;go_cut [19] (fun s19 wx=>Hid (s19=.bool (decide (R k+d=0))/\W.grownBy wx none))
 case first =>
  go_region_held3 (fun w'=>w'.cell? ⟨w.heap.size,3,none⟩=some (.func (.func 84) #[] #[])/\w'.cell? ⟨w.heap.size,4,none⟩=some (.func (.func 85) #[] #[])/\w'.cell? ⟨w.heap.size,5,none⟩=some (.func (.func 86) #[] #[])/\w'.cell? ⟨w.heap.size,6,none⟩=some (.func (.func 87) #[] #[])/\w'.cell? ⟨w.heap.size,7,none⟩=some (.func (.func 88) #[] #[])/\w'.cell? ⟨w.heap.size,8,none⟩=some (.func (.func 89) #[] #[])/\w'.cell? ⟨w.heap.size,9,none⟩=some (.func (.func 90) #[] #[])/\w'.cell? ⟨w.heap.size,10,none⟩=some (.func (.func 91) #[] #[])/\w'.cell? ⟨w.heap.size,0,none⟩=some (.bool u)/\w'.cell? ⟨w.heap.size,1,none⟩=some (.slice x fl fc)/\w'.cell? ⟨w.heap.size,2,none⟩=some (.slice c f g)/\w'.cell? ⟨w.heap.size+1,0,none⟩=some (.bool (rB d))/\w'.cell? ⟨w.heap.size+1,1,none⟩=some (.slice lo V lc)/\w'.cell? ⟨w.heap.size+1,2,none⟩=some (.slice z A B)/\w'.cell? ⟨b,k*3,none⟩=some (.bool (rB (R k)))/\w'.cell? ⟨b,k*3+1,none⟩=some (.slice uo ul uc)/\w'.cell? ⟨b,k*3+2,none⟩=some (.slice vo vl vc)) (go_keep)
   (first | (go_at_call 85;refine (mO _ _ (R k) d L L _ (C3.keep0 (aa s zF)) (HY.keep0 (aa s zF)) O).mono ?_;rintro e E ⟨va,rfl,pa,X⟩;obtain ⟨ao,al,ac,bo,bl,bc,rfl⟩:=pa.shape;have GG:W.grownBy E none:=aa zF X;obtain ⟨a0,a1,a2,a3,a4,a5,a6,a7,a8,a9,Y,he,hf,hj,hs,hu,hv⟩:=a.out E GG) | (go_at_call 89;refine (bA _ (R k+d) (L+L+2) _ (pa.keep0 zQ)).mono ?_;rintro e wx ⟨rfl,gx⟩;have GG:W.grownBy wx none:=aa zF gx;obtain ⟨x0,x1,x2,x3,x4,x5,x6,x7,x8,x9,hl,hm,ho,hp,hw,hx,hA⟩:=a.out wx GG))
  all_goals (go_wp2_with fail;go_meet;exact ⟨rfl,zF⟩)
 case rest =>
  obtain ⟨rfl,g2⟩:=hcut.out;have G:=ab g2;clear hcut s0 s1 s2 s3 s4 s5 s6 s7 s8 s9 s10 s11 s12 s13 s14 s15 s16 g2 GG;by_cases C:R k+d=0
  ·have j:decide (R k+d=0)=true:=decide_eq_true C;rw [j];have N:Hid (uk (R k+d) = -1):=by show _=_;unfold uk;rw [if_pos C]
   clear C j;go_upto_region 3 with fail;obtain ⟨p,t⟩:=eX (wc.alloc (Obj.cells #[.bool false,.slice none 0 0,.slice none 0 0] 105));have G3:Hid (wc.grownBy p none):=by rw [t];exact ag (ae _ _) _
   have ZC:Hid (∀ wx,p.grownBy wx none->wx.cell? ⟨wc.heap.size,0,none⟩=some (.bool false)/\wx.cell? ⟨wc.heap.size,1,none⟩=some (.slice none 0 0)/\wx.cell? ⟨wc.heap.size,2,none⟩=some (.slice none 0 0)):=by
    intro wx hg;rw [t] at hg;exact aH hg
   rw [<- t];clear t;have GG:p.grownBy p none:=ae _ _;have H:Hid (W.grownBy p none):=aa G G3;have S:Hid (∀ wx,p.grownBy wx (some b)->wx.cell? ⟨w.heap.size,3,none⟩=some (.func (.func 84) #[] #[])/\wx.cell? ⟨w.heap.size,4,none⟩=some (.func (.func 85) #[] #[])/\wx.cell? ⟨w.heap.size,5,none⟩=some (.func (.func 86) #[] #[])/\wx.cell? ⟨w.heap.size,6,none⟩=some (.func (.func 87) #[] #[])/\wx.cell? ⟨w.heap.size,7,none⟩=some (.func (.func 88) #[] #[])/\wx.cell? ⟨w.heap.size,8,none⟩=some (.func (.func 89) #[] #[])/\wx.cell? ⟨w.heap.size,9,none⟩=some (.func (.func 90) #[] #[])/\wx.cell? ⟨w.heap.size,10,none⟩=some (.func (.func 91) #[] #[])/\wx.cell? ⟨w.heap.size,0,none⟩=some (.bool u)/\wx.cell? ⟨w.heap.size,1,none⟩=some (.slice x fl fc)/\wx.cell? ⟨w.heap.size,2,none⟩=some (.slice c f g)/\wx.cell? ⟨wc.heap.size,0,none⟩=some (.bool false)/\wx.cell? ⟨wc.heap.size,1,none⟩=some (.slice none 0 0)/\wx.cell? ⟨wc.heap.size,2,none⟩=some (.slice none 0 0)):=by
    intro wx hg;obtain ⟨z0,z1,z2⟩:=ZC.out p GG;obtain ⟨s0,s1,s2,s3,s4,s5,s6,s7,s8,s9,s10,s11,s12,s13,s14,s15,s16⟩:=a.out p H;have l:some w.heap.size≠some b:=fun e=>by have:=zJ e;omega
    have T:some wc.heap.size≠some b:=fun e=>by have:=zJ e;have:=(aa s G).size;omega
    exact ⟨hg.cell s0 l,hg.cell s1 l,hg.cell s2 l,hg.cell s3 l,hg.cell s4 l,hg.cell s5 l,hg.cell s6 l,hg.cell s7 l,hg.cell s8 l,hg.cell s9 l,hg.cell s10 l,hg.cell z0 T,hg.cell z1 T,hg.cell z2 T⟩
   obtain ⟨s0,s1,s2,s3,s4,s5,s6,s7,s8,s9,s10,s11,s12,s13⟩:=S.out p (ae _ _);have hZ:FQ p (.agg #[.bool false,.slice none 0 0,.slice none 0 0]) 0 L:=by
    have e1:rB 0=false:=rfl;have e2:rN 0=0:=rfl;have e3:(0:Rat).den=1:=rfl;unfold FQ;rw [e1,e2,e3];exact ⟨_,_,rfl,⟨[],Ws.nil _,rfl,rfl,Z⟩,.inl ⟨rfl,rfl⟩,rfl,Z⟩
   have HZ:=ab hZ;clear hZ;go_region_held3 (fun w'=>w'.cell? ⟨w.heap.size,3,none⟩=some (.func (.func 84) #[] #[])/\w'.cell? ⟨w.heap.size,4,none⟩=some (.func (.func 85) #[] #[])/\w'.cell? ⟨w.heap.size,5,none⟩=some (.func (.func 86) #[] #[])/\w'.cell? ⟨w.heap.size,6,none⟩=some (.func (.func 87) #[] #[])/\w'.cell? ⟨w.heap.size,7,none⟩=some (.func (.func 88) #[] #[])/\w'.cell? ⟨w.heap.size,8,none⟩=some (.func (.func 89) #[] #[])/\w'.cell? ⟨w.heap.size,9,none⟩=some (.func (.func 90) #[] #[])/\w'.cell? ⟨w.heap.size,10,none⟩=some (.func (.func 91) #[] #[])/\w'.cell? ⟨w.heap.size,0,none⟩=some (.bool u)/\w'.cell? ⟨w.heap.size,1,none⟩=some (.slice x fl fc)/\w'.cell? ⟨w.heap.size,2,none⟩=some (.slice c f g)/\w'.cell? ⟨wc.heap.size,0,none⟩=some (.bool false)/\w'.cell? ⟨wc.heap.size,1,none⟩=some (.slice none 0 0)/\w'.cell? ⟨wc.heap.size,2,none⟩=some (.slice none 0 0)) (go_keep)
    (first | (go_at_call 86;refine (dK _ _ 0 1 L L _ (HZ.keep0 zF) (H1.keep0 (aa s (aa H zF))) O).mono ?_;rintro e E ⟨va,rfl,pa,X⟩;have pa:=pa.tight (L':=L) M;obtain ⟨ao,al,ac,bo,bl,bc,rfl⟩:=pa.shape;have GG:p.grownBy E none:=aa zF X;obtain ⟨a0,a1,a2,a3,a4,a5,a6,a7,a8,a9,Y,he,hf,hj⟩:=S.out E (aK.of_gr (b:=b) GG).1) | (go_at_call 177;refine (m8 _ _ _ b n cap R (0-1) _ L _ (K.keep0 (aa s (aa H zF))) (pa.keep0 zQ) hn HC hL D).mono ?_;rintro e wx ⟨rfl,fx,gx⟩;have RX:=(aK.of_gr (b:=b) (aa s (aa H zF))).trans gx;obtain ⟨x0,x1,x2,x3,x4,x5,x6,x7,x8,x9,hl,hm,ho,hp⟩:=S.out wx ((aK.of_gr (b:=b) zF).trans gx).1))
   all_goals
    have FX:=ab fx;have U:=ab RX;clear fx gx RX;go_wp2;go_end0
    refine ⟨rfl,FX.congr (fun i _=>?_),U⟩;rw [N];grind
  ·have j:decide (R k+d=0)=false:=decide_eq_false C;rw [j];have N:Hid (uk (R k+d)=1):=by show _=_;unfold uk;rw [if_neg C]
   clear C j;go_wp2;go_end0
   refine ⟨rfl,(K.keep0 (aa s G)).congr (fun i _=>?_),aK.of_gr (aa s G)⟩;rw [N,Rat.one_mul]
def kO (R P:Nat->Rat) (k:Nat) (d:Rat):Nat->Rat:=fun i=>(P k*R i-R k*P i) / d
def fT (R P:Nat->Rat) (k:Nat) (d:Rat) (i:Nat):Nat->Rat:=fun j=>if j<i then kO R P k d j else R j
def yW (R P:Nat->Rat) (k:Nat) (d:Rat) (i j:Nat):aN (fT R P k d i) i (kO R P k d i) j=fT R P k d (i+1) j:=by
 unfold aN fT;by_cases h:j=i
 ·rw [if_pos h,if_pos O,h]
 ·rw [if_neg h];by_cases a:j<i
  ·rw [if_pos a,if_pos O]
  ·rw [if_neg a,if_neg O]
def yU {R P:Nat->Rat} {d:Rat} (h:R i=0) (a:R k=0∨P i=0):kO R P k d i=R i:=by
 unfold kO;rcases a with a | a<;>rw [h,a]<;>grind
def xj {R P:Nat->Rat} {d:Rat} (h:kO R P k d i=R i) (j:Nat):fT R P k d i j=fT R P k d (i+1) j:=by
 unfold fT;by_cases a:j<i
 ·rw [if_pos a,if_pos O]
 ·rw [if_neg a];by_cases c:j=i
  ·subst c;rw [if_pos O,h]
  ·rw [if_neg O]
def TakR (W:World) (b n:Nat) (R P:Nat->Rat) (k:Nat) (d:Rat) (L:Nat) (v:Value) (wr:World):Prop :=
 ∃ i:Nat,i<=n/\v=.int .i64 i/\aJ wr b n (fT R P k d i) L/\aK W wr b
def sS (W:World) (c d f g h j:Value):W.grownBy ((W.alloc (Obj.cells #[c,d,f] 105)).alloc (Obj.cells #[g,h,j] 105)).drew none/\bL ((W.alloc (Obj.cells #[c,d,f] 105)).alloc (Obj.cells #[g,h,j] 105)).drew W.heap.size c d f/\bL ((W.alloc (Obj.cells #[c,d,f] 105)).alloc (Obj.cells #[g,h,j] 105)).drew (W.heap.size+1) g h j:=by
 have a:=aH (w:=W) (ak (ag (ae (W.alloc (Obj.cells #[c,d,f] 105)) none) (Obj.cells #[g,h,j] 105)) 1);have b:=aH (w:=W.alloc (Obj.cells #[c,d,f] 105)) (ak (ae ((W.alloc (Obj.cells #[c,d,f] 105)).alloc (Obj.cells #[g,h,j] 105)) none) 1);have e:(W.alloc (Obj.cells #[c,d,f] 105)).heap.size=W.heap.size+1:=Z
 rw [e] at b;exact ⟨ak (ag (ag (ae _ _) _) _) 1,a,b⟩
attribute [local simp] fU bL eJ
def yV (fb:Bool) (fo hD:Option Addr) (fl fc hE hF:Nat) (b z n cap U k:Nat) (R P:Nat->Rat) (d:Rat) (lv:Value) (L:Nat) (w:World) (hr:aJ w b n R L) (hp:aJ w z n P L) (kl:b≠z) (hy:FQ w lv d L)
  (hk:k<n) (hn:n<=cap) (hc:cap<=maxLen) (hn2:n<=U) (hc2:U<=maxLen) (hL1:1<=L) (hL:L<=50000000) (hd:d≠0) (hfit:∀ i,i<n->bh L (kO R P k d i)) :
  Calls Tryz.prog 145 #[(kh fb (.slice fo fl fc) (.slice hD hE hF)),.slice (some ⟨b,0,none⟩) n cap,.slice (some ⟨z,0,none⟩) n U,.int .i64 (k:Nat),lv] w
   fun e w'=>e=.returned (.tuple #[])/\aJ w' b n (kO R P k d) L/\aK w w' b:=by
 have HR:=ab hr;have HP:=ab hp;have HY:=ab hy;have HD:=ab hd;have HF:=ab hfit;unfold maxLen at hc hc2;have qq:=hr.lt;have qf:=hp.lt;obtain ⟨lo,V,lc,l,p,s,rfl⟩:=hy.shape;obtain ⟨t,u,x,a,c,f,c0,c1,c2,c3,_⟩:=hr.at k hk;obtain ⟨uo,A,B,C,D,E,e0,e1,e2,e3,_⟩:=hp.at k hk;have C3:=ab c3;have E3:=ab e3;clear hr hp hy c3 e3 hd hfit;obtain ⟨W,hW⟩:=eX ((w.alloc (Obj.cells #[.bool fb,.slice fo fl fc,.slice hD hE hF,.func (.func 84) #[] #[],.func (.func 85) #[] #[],.func (.func 86) #[] #[],.func (.func 87) #[] #[],.func (.func 88) #[] #[],.func (.func 89) #[] #[],.func (.func 90) #[] #[],.func (.func 91) #[] #[]] 111)).alloc (Obj.cells #[.bool (rB d),.slice lo V lc,.slice l p s] 105));have GW:Hid (w.grownBy W none):=by rw [hW];exact ag (ag (ae _ _) _) _
 have ko:Hid (W.heap.size=w.heap.size+2):=by show _=_;rw [hW];simp
 have hf:Hid (fU W (w.heap.size)/\bL W (w.heap.size+1) (.bool (rB d)) (.slice lo V lc) (.slice l p s)):=by
  have h2:=aH (ae W none |> fun h=>by rw (occs:=.pos [1]) [hW] at h;exact h);rw [show ∀ o,(w.alloc o).heap.size=w.heap.size+1 from fun _=>by simp] at h2;exact ⟨(kC fb fo hD fl fc hE hF (by rw [hW];exact ag (ae _ _) _)).1,h2⟩
 have r:=(show eJ w b k _ _ _ from ⟨c0,c1,c2⟩).k0 GW;have q:=(show eJ w z k _ _ _ from ⟨e0,e1,e2⟩).k0 GW;clear c0 c1 c2 e0 e1 e2;go_enter Tryz.func145,Tryz.ntmps145
 go_upto_region 1 with fail;rw [<- hW];clear hW;have hJ:=ko.out;have hM:¬ b=W.heap.size:=O
 have hN:¬ z=W.heap.size:=O
 have hQ:¬ W.heap.size=b:=O
 have hR:¬ W.heap.size=z:=O
 have kw:W.heap.size+1≠b:=O
 have kz:W.heap.size+1≠z:=O
 go_cut [10,11] (fun s10 s11 wx=>Hid (∃ gp gr,s10=.pointer (some ⟨gp,0,none⟩)/\s11=.pointer (some ⟨gr,0,none⟩)/\W.heap.size<=gp/\W.heap.size<=gr/\W.grownBy wx none/\bL wx (gp) (.bool (rB (P k))) (.slice uo A B) (.slice C D E)/\bL wx (gr) (.bool (rB (R k))) (.slice t u x) (.slice a c f)))
 case first =>
  go_region_held3 (fun w'=>eJ w' b k (.bool (rB (R k))) (.slice t u x) (.slice a c f)/\eJ w' z k (.bool (rB (P k))) (.slice uo A B) (.slice C D E)) (go_keep) (fail)
  all_goals (go_wp2_with fail;go_meet;first
   | (have T:=sS W (.bool (rB (P k))) (.slice uo A B) (.slice C D E) (.bool (rB (R k))) (.slice t u x) (.slice a c f);rw [hJ] at T;exact ⟨_,_,rfl,rfl,O,O,T.1,T.2.1,T.2.2⟩)
   | (have T:=sS W (.bool (rB (R k))) (.slice t u x) (.slice a c f) (.bool (rB (P k))) (.slice uo A B) (.slice C D E);rw [hJ] at T;exact ⟨_,_,rfl,rfl,O,O,T.1,T.2.2,T.2.1⟩))
 case rest =>
  obtain ⟨gp,gr,rfl,rfl,md,hgr,g1,h1⟩:=hcut.out;have G1:=ab (aa GW g1);have I:Hid (∀ wx,wc.grownBy wx (some b)->fU wx (w.heap.size)/\bL wx (w.heap.size+1) (.bool (rB d)) (.slice lo V lc) (.slice l p s)/\bL wx (gp) (.bool (rB (P k))) (.slice uo A B) (.slice C D E)/\bL wx (gr) (.bool (rB (R k))) (.slice t u x) (.slice a c f)):=by
   intro wx hg;exact ⟨(hf.1.k0 g1).k hg (fun e=>by have:=zJ e;omega),(hf.2.k0 g1).k hg (fun e=>by have:=zJ e;omega),h1.1.k hg (fun e=>by have:=zJ e;omega),h1.2.k hg (fun e=>by have:=zJ e;omega)⟩
  have g:Hid (∀ wx,wc.grownBy wx none->fU wx (w.heap.size)/\bL wx (w.heap.size+1) (.bool (rB d)) (.slice lo V lc) (.slice l p s)/\bL wx (gp) (.bool (rB (P k))) (.slice uo A B) (.slice C D E)/\bL wx (gr) (.bool (rB (R k))) (.slice t u x) (.slice a c f)):=fun wx hg=>I wx (aK.of_gr hg).1
  have hS:=ab (HR.keep0 G1);have hT:=ab (HP.keep0 G1);have hG:=ab (HY.keep0 G1);have hw:=ab (C3.keep0 G1);have hH:=ab (E3.keep0 G1);have kF:Hid (w.heap.size+2<=wc.heap.size):=by show _<=_;have:=g1.size;omega
  have qs:Hid (gp<wc.heap.size/\gr<wc.heap.size):=⟨bS h1.1.1,bS h1.2.1⟩;have GG:wc.grownBy wc none:=ae _ _;have s0:=g.out wc GG;clear hcut h1 g1 r q hf hM hN hQ hR kw kz;go_wp2;go_cut [35] (fun s35 wx=>Hid (s35=.bool (decide (R k=0) && decide (P k-d=0))/\wc.grownBy wx none))
  case first =>
   by_cases h0:R k=0
   ·have hl:decide (R k=0)=true:=decide_eq_true h0;have ho:=ab hl;clear hl h0;go_region_held3 (fun w'=>fU w' (w.heap.size)/\bL w' (w.heap.size+1) (.bool (rB d)) (.slice lo V lc) (.slice l p s)/\bL w' (gp) (.bool (rB (P k))) (.slice uo A B) (.slice C D E)/\bL w' (gr) (.bool (rB (R k))) (.slice t u x) (.slice a c f)) (go_keep)
     (first | (go_at_call_of 89 (Value.agg #[.bool (rB (R k)),.slice t u x,.slice a c f]);refine (bA _ (R k) L _ (hw.keep0 (gx GG))).mono ?_;rintro e wa ⟨rfl,Y⟩;rw [ho];have GG:=aa (gx GG) Y;have ha:=g.out wa GG) | (go_at_call 86;refine (dK _ _ (P k) d L L _ (hH.keep0 (gx GG)) (hG.keep0 (gx GG)) O).mono ?_;rintro e wm ⟨vm,rfl,pm,gm⟩;obtain ⟨mo,ml,mc,kc,kf,kk,rfl⟩:=pm.shape;have GG:=aa (gx GG) gm;have hm:=g.out wm GG) | (go_at_call_of 89 (Value.agg #[.bool (rB (P k-d)),.slice mo ml mc,.slice kc kf kk]);refine (bA _ (P k-d) (L+L+2) _ (pm.keep0 zQ)).mono ?_;rintro e wz ⟨rfl,gz⟩;have GG:=aa (gx GG) gz;have hz:=g.out wz GG))
    all_goals (go_wp2_with fail;go_meet;exact ⟨by rw [ho,Bool.true_and],(gx GG)⟩)
   ·have hl:decide (R k=0)=false:=decide_eq_false h0;have ho:=ab hl;clear hl h0;refine hd (fun w'=>fU w' (w.heap.size)/\bL w' (w.heap.size+1) (.bool (rB d)) (.slice lo V lc) (.slice l p s)/\bL w' (gp) (.bool (rB (P k))) (.slice uo A B) (.slice C D E)/\bL w' (gr) (.bool (rB (R k))) (.slice t u x) (.slice a c f)) (fun hHeld=>?_);refine tk 11 [(0,22,.pointer (some ⟨w.heap.size,8,none⟩)),(1,23,.func (.func 89) #[] #[]),(2,24,Value.agg #[.bool (rB (R k)),.slice t u x,.slice a c f])] ?_;try simp only [zU]
    refine cX 10 3 (fun K y=>?_);simp only [ax,q4,q5,q6,q7];go_simp
    go_at_call_of 89 (Value.agg #[.bool (rB (R k)),.slice t u x,.slice a c f])
    refine (bA _ (R k) L _ (hw.keep0 (gx GG))).mono ?_;rintro e wa ⟨rfl,Y⟩;rw [ho];have GG:=aa (gx GG) Y;have ha:=g.out wa GG;go_wp2_with fail;refine bk y (fun hHeld=>?_);clear y K;refine tk 9 [(4,26,.bool false)] ?_;refine sk 1 [(5,27),(6,28),(7,29),(8,30),(9,31),(10,32),(11,33),(12,34)] ?_;try simp only [zU]
    refine tk 0 [(13,35,.bool false)] ?_;try simp only [zU]
    refine wpAnyH_done zK ?_ _
    (go_wp2_with fail;go_meet;exact ⟨by rw [ho,Bool.false_and],(gx GG)⟩)
  case rest =>
   obtain ⟨rfl,g2⟩:=hcut.out;have G2:=ab g2;clear hcut g2 GG s0;have hx:Hid (∀ wx,wc.grownBy wx (some b)->fU wx (w.heap.size)/\bL wx (w.heap.size+1) (.bool (rB d)) (.slice lo V lc) (.slice l p s)/\bL wx (gp) (.bool (rB (P k))) (.slice uo A B) (.slice C D E)/\bL wx (gr) (.bool (rB (R k))) (.slice t u x) (.slice a c f)):=fun wx hg=>I wx (aw (r:=some b) G2 hg nofun (fun _ _ e=>e))
   have hX:=ab (hS.keep0 G2);have kH:=ab (hT.keep0 G2);have kN:=ab (hG.keep0 G2);have hI:=ab (hw.keep0 G2);have kS:=ab (hH.keep0 G2);have hY:=ab (aa G1 G2);have ka:w.heap.size+2<=wc.heap.size:=Nat.le_trans kF G2.size;clear hS hT hG hw hH I g HR HP HY C3 E3;by_cases X:R k=0/\P k-d=0
   ·have hb:(decide (R k=0) && decide (P k-d=0))=true:=by simp [X]
    rw [hb];have HS:=ab X;clear X hb;go_wp2;refine bodyPost_ret (v:=.tuple #[]) (by simp [results,Tryz.results145,go_sem]) rfl ?_;refine ⟨rfl,hX.congr (fun i _=>?_),aK.of_gr hY⟩;obtain ⟨h1,h2⟩:=HS.out;have qa:P k=d:=by grind
    have hd:=HD.out;unfold kO;have e:d*R i-0*P i=R i*d:=by grind
    rw [h1,qa,e,Rat.mul_div_cancel hd]
   ·have hb:(decide (R k=0) && decide (P k-d=0))=false:=by
     rw [Bool.and_eq_false_iff];by_cases h1:R k=0
     ·right;exact decide_eq_false (fun h2=>X ⟨h1,h2⟩)
     ·left;exact decide_eq_false h1
    rw [hb];clear X hb;go_wp2;go_loopw [38] (fun v wr=>Hid (TakR wc b n R P k d L v wr)) (fun v _=>n-(intOf v).toNat)
    case atStart=>exact ⟨0,O,rfl,hX.congr (fun i _=>by unfold fT;rw [if_neg O]),aK.refl _ _⟩
    case round =>
     obtain ⟨i,hi,rfl,l1,l2⟩:=hrel.out;have L1:=ab l1;have L2:=ab l2;clear l1 l2 hrel;by_cases hlt:i<n
     ·have kb:fT R P k d i i=R i:=by unfold fT;rw [if_neg O]
      obtain ⟨M,N,S,F,G,H,c0,c1,c2,c3,_⟩:=L1.out.at i hlt;rw [kb] at c0 c3;obtain ⟨po,pl,pc,qo,ql,qc,e0,e1,e2,e3,_⟩:=(kH.keep L2.1 L2.2 (fun e=>kl (zJ e).symm)).at i hlt;have X3:=ab c3;have Q3:=ab e3;clear c3 e3 kb;go_upto_region 6 with fail;obtain ⟨w2,hC⟩:=eX (wr.alloc (Obj.cells #[.bool (rB (R i)),.slice M N S,.slice F G H] 105));have G3:Hid (wr.grownBy w2 none):=by rw [hC];exact ag (ae _ _) _
      have CX:Hid (∀ wx,w2.grownBy wx none->(fU wx (w.heap.size)/\bL wx (w.heap.size+1) (.bool (rB d)) (.slice lo V lc) (.slice l p s)/\bL wx (gp) (.bool (rB (P k))) (.slice uo A B) (.slice C D E)/\bL wx (gr) (.bool (rB (R k))) (.slice t u x) (.slice a c f))/\bL wx (wr.heap.size) (.bool (rB (R i))) (.slice M N S) (.slice F G H)/\eJ wx z i (.bool (rB (P i))) (.slice po pl pc) (.slice qo ql qc)):=by
       intro wx hg;have hgr:=aa G3 hg;have s0:=hx.out wx (L2.gr hgr).1;rw [hC] at hg;exact ⟨s0,aH hg,(show eJ _ _ _ _ _ _ from ⟨e0,e1,e2⟩).k0 hgr⟩
      have RB:Hid (∀ wx,w2.grownBy wx none->aJ wx b n (fT R P k d i) L/\eJ wx b i (.bool (rB (R i))) (.slice M N S) (.slice F G H)):=by
       intro wx hg;have hgr:=aa G3 hg;exact ⟨L1.keep0 hgr,(show eJ _ _ _ _ _ _ from ⟨c0,c1,c2⟩).k0 hgr⟩
      rw [<- hC];clear hC c0 c1 c2 e0 e1 e2;have yn:w.heap.size+2<=wr.heap.size:=Nat.le_trans ka L2.1.size;have X2:=ab (X3.keep0 G3);have Q2:=ab (Q3.keep0 G3);have KL:=ab ((L2.gr G3).2);have GG:w2.grownBy w2 none:=ae _ _;have s0:=CX.out w2 GG;go_cut [61] (fun s61 wx=>Hid (s61=.bool (decide (R i=0) && (decide (R k=0) || decide (P i=0)))/\w2.grownBy wx none))
      case first =>
       by_cases hA:R i=0
       ·have J:Hid (decide (R i=0)=true):=decide_eq_true hA;clear hA;by_cases hB:R k=0
        ·have hq:Hid (decide (R k=0)=true):=decide_eq_true hB;clear hB;refine hd (fun w'=>(fU w' (w.heap.size)/\bL w' (w.heap.size+1) (.bool (rB d)) (.slice lo V lc) (.slice l p s)/\bL w' (gp) (.bool (rB (P k))) (.slice uo A B) (.slice C D E)/\bL w' (gr) (.bool (rB (R k))) (.slice t u x) (.slice a c f))/\bL w' (wr.heap.size) (.bool (rB (R i))) (.slice M N S) (.slice F G H)/\eJ w' z i (.bool (rB (P i))) (.slice po pl pc) (.slice qo ql qc)) (fun hHeld=>?_);refine tk 16 [(0,43,.pointer (some ⟨w.heap.size,8,none⟩)),(1,44,.func (.func 89) #[] #[]),(2,45,Value.agg #[.bool (rB (R i)),.slice M N S,.slice F G H])] ?_;try simp only [zU]
         refine cX 15 3 (fun K y=>?_);simp only [ax,q4,q5,q6,q7];go_simp
         go_at_call_of 89 (Value.agg #[.bool (rB (R i)),.slice M N S,.slice F G H])
         refine (bA _ (R i) L _ (X2.keep0 (gx GG))).mono ?_;rintro e wa ⟨rfl,Y⟩;rw [J];have GG:=aa (gx GG) Y;have ha:=CX.out wa GG;go_wp2_with fail;refine bk y (fun hHeld=>?_);clear y K;refine tk 11 [(4,47,.bool true),(5,48,.pointer (some ⟨w.heap.size,8,none⟩)),(6,49,.func (.func 89) #[] #[]),(7,50,Value.agg #[.bool (rB (R k)),.slice t u x,.slice a c f])] ?_;try simp only [zU]
         refine cX 10 8 (fun K y=>?_);simp only [ax,q4,q5,q6,q7];go_simp
         go_at_call_of 89 (Value.agg #[.bool (rB (R k)),.slice t u x,.slice a c f])
         refine (bA _ (R k) L _ ((hI.kept KL).keep0 (gx GG))).mono ?_;rintro e wz ⟨rfl,gz⟩;rw [hq];have GG:=aa (gx GG) gz;have hz:=CX.out wz GG;go_wp2_with fail;refine bk y (fun hHeld=>?_);clear y K;refine tk 9 [(9,52,.bool true)] ?_;refine sk 2 [(10,53),(11,54),(12,55),(13,56),(14,57),(15,58),(16,59)] ?_;try simp only [zU]
         refine tk 0 [(17,60,.bool true),(18,61,.bool true)] ?_;try simp only [zU]
         refine wpAnyH_done zK ?_ _
         (go_wp2_with fail;go_meet;exact ⟨by rw [J,hq,Bool.true_and,Bool.true_or],(gx GG)⟩)
        ·have hq:Hid (decide (R k=0)=false):=decide_eq_false hB;clear hB;refine hd (fun w'=>(fU w' (w.heap.size)/\bL w' (w.heap.size+1) (.bool (rB d)) (.slice lo V lc) (.slice l p s)/\bL w' (gp) (.bool (rB (P k))) (.slice uo A B) (.slice C D E)/\bL w' (gr) (.bool (rB (R k))) (.slice t u x) (.slice a c f))/\bL w' (wr.heap.size) (.bool (rB (R i))) (.slice M N S) (.slice F G H)/\eJ w' z i (.bool (rB (P i))) (.slice po pl pc) (.slice qo ql qc)) (fun hHeld=>?_);refine tk 16 [(0,43,.pointer (some ⟨w.heap.size,8,none⟩)),(1,44,.func (.func 89) #[] #[]),(2,45,Value.agg #[.bool (rB (R i)),.slice M N S,.slice F G H])] ?_;try simp only [zU]
         refine cX 15 3 (fun K y=>?_);simp only [ax,q4,q5,q6,q7];go_simp
         go_at_call_of 89 (Value.agg #[.bool (rB (R i)),.slice M N S,.slice F G H])
         refine (bA _ (R i) L _ (X2.keep0 (gx GG))).mono ?_;rintro e wa ⟨rfl,Y⟩;rw [J];have GG:=aa (gx GG) Y;have ha:=CX.out wa GG;go_wp2_with fail;refine bk y (fun hHeld=>?_);clear y K;refine tk 11 [(4,47,.bool true),(5,48,.pointer (some ⟨w.heap.size,8,none⟩)),(6,49,.func (.func 89) #[] #[]),(7,50,Value.agg #[.bool (rB (R k)),.slice t u x,.slice a c f])] ?_;try simp only [zU]
         refine cX 10 8 (fun K y=>?_);simp only [ax,q4,q5,q6,q7];go_simp
         go_at_call_of 89 (Value.agg #[.bool (rB (R k)),.slice t u x,.slice a c f])
         refine (bA _ (R k) L _ ((hI.kept KL).keep0 (gx GG))).mono ?_;rintro e wz ⟨rfl,gz⟩;rw [hq];have GG:=aa (gx GG) gz;have hz:=CX.out wz GG;go_wp2_with fail;refine bk y (fun hHeld=>?_);clear y K;refine tk 3 [(9,52,.bool false),(10,53,.pointer (some ⟨w.heap.size,8,none⟩)),(11,54,.func (.func 89) #[] #[]),(12,55,.slice (some ⟨z,0,none⟩) n U),(13,56,.int .i64 (i:Nat)),(14,57,.pointer (some ⟨z,i*3,none⟩)),(15,58,Value.agg #[.bool (rB (P i)),.slice po pl pc,.slice qo ql qc])] ?_;try simp only [zU]
         refine cX 2 16 (fun K y=>?_);simp only [ax,q4,q5,q6,q7];go_simp
         go_at_call_of 89 (Value.agg #[.bool (rB (P i)),.slice po pl pc,.slice qo ql qc])
         refine (bA _ (P i) L _ (Q2.keep0 (gx GG))).mono ?_;rintro e wv ⟨rfl,gv⟩;have GG:=aa (gx GG) gv;have hv:=CX.out wv GG;go_wp2_with fail;refine bk y (fun hHeld=>?_);clear y K;refine tk 0 [(17,60,.bool (decide (P i=0))),(18,61,.bool (decide (P i=0)))] ?_;try simp only [zU]
         refine wpAnyH_done zK ?_ _
         (go_wp2_with fail;go_meet;exact ⟨by rw [J,hq,Bool.true_and,Bool.false_or],(gx GG)⟩)
       ·have J:Hid (decide (R i=0)=false):=decide_eq_false hA;clear hA;refine hd (fun w'=>(fU w' (w.heap.size)/\bL w' (w.heap.size+1) (.bool (rB d)) (.slice lo V lc) (.slice l p s)/\bL w' (gp) (.bool (rB (P k))) (.slice uo A B) (.slice C D E)/\bL w' (gr) (.bool (rB (R k))) (.slice t u x) (.slice a c f))/\bL w' (wr.heap.size) (.bool (rB (R i))) (.slice M N S) (.slice F G H)/\eJ w' z i (.bool (rB (P i))) (.slice po pl pc) (.slice qo ql qc)) (fun hHeld=>?_);refine tk 16 [(0,43,.pointer (some ⟨w.heap.size,8,none⟩)),(1,44,.func (.func 89) #[] #[]),(2,45,Value.agg #[.bool (rB (R i)),.slice M N S,.slice F G H])] ?_;try simp only [zU]
        refine cX 15 3 (fun K y=>?_);simp only [ax,q4,q5,q6,q7];go_simp
        go_at_call_of 89 (Value.agg #[.bool (rB (R i)),.slice M N S,.slice F G H])
        refine (bA _ (R i) L _ (X2.keep0 (gx GG))).mono ?_;rintro e wa ⟨rfl,Y⟩;rw [J];have GG:=aa (gx GG) Y;have ha:=CX.out wa GG;go_wp2_with fail;refine bk y (fun hHeld=>?_);clear y K;refine tk 14 [(4,47,.bool false)] ?_;refine sk 1 [(5,48),(6,49),(7,50),(8,51),(9,52),(10,53),(11,54),(12,55),(13,56),(14,57),(15,58),(16,59),(17,60)] ?_;try simp only [zU]
        refine tk 0 [(18,61,.bool false)] ?_;try simp only [zU]
        refine wpAnyH_done zK ?_ _
        (go_wp2_with fail;go_meet;exact ⟨by rw [J,Bool.false_and],(gx GG)⟩)
      case rest =>
       obtain ⟨rfl,g4⟩:=hcut.out;have G4:=ab g4;clear hcut g4 GG s0;by_cases X:R i=0/\(R k=0∨P i=0)
       ·have hb:(decide (R i=0) && (decide (R k=0) || decide (P i=0)))=true:=by
         obtain ⟨h1,h2⟩:=X;rw [decide_eq_true h1,Bool.true_and,Bool.or_eq_true];rcases h2 with h2 | h2
         ·left;exact decide_eq_true h2
         ·right;exact decide_eq_true h2
        rw [hb];have HS:=ab X;clear X hb;go_wp2;go_roundw
        case rel=>exact ⟨i+1,O,zN,(L1.keep0 (aa G3 G4)).congr (fun j _=>xj (yU HS.1 HS.2) j),L2.gr (aa G3 G4)⟩
        case measure=>exact bH
       ·have hb:(decide (R i=0) && (decide (R k=0) || decide (P i=0)))=false:=by
         rw [Bool.and_eq_false_iff];by_cases h1:R i=0
         ·right
          rw [Bool.or_eq_false_iff];exact ⟨decide_eq_false (fun h=>X ⟨h1,.inl h⟩),decide_eq_false (fun h=>X ⟨h1,.inr h⟩)⟩
         ·left;exact decide_eq_false h1
        rw [hb];clear X hb;have X4:=ab (X2.keep0 G4);have Q4:=ab (Q2.keep0 G4);have K4:=ab (KL.trans (aO.of_gr G4));have hu:Hid (∀ wx,wc.grownBy wx none->(fU wx (w.heap.size)/\bL wx (w.heap.size+1) (.bool (rB d)) (.slice lo V lc) (.slice l p s)/\bL wx (gp) (.bool (rB (P k))) (.slice uo A B) (.slice C D E)/\bL wx (gr) (.bool (rB (R k))) (.slice t u x) (.slice a c f))/\bL wx (wr.heap.size) (.bool (rB (R i))) (.slice M N S) (.slice F G H)/\eJ wx z i (.bool (rB (P i))) (.slice po pl pc) (.slice qo ql qc)):=fun wx hg=>CX wx (aa G4 hg)
        have qb:Hid (∀ wx,wc.grownBy wx none->aJ wx b n (fT R P k d i) L/\eJ wx b i (.bool (rB (R i))) (.slice M N S) (.slice F G H)):=fun wx hg=>RB wx (aa G4 hg)
        have yv:b≠w.heap.size:=O
        have jc:b≠w.heap.size+1:=O
        have jg:b≠gp:=O
        have jk:b≠gr:=O
        have jl:b≠wr.heap.size:=O
        have GG:wc.grownBy wc none:=ae _ _;have s0:=hu.out wc GG;go_wp2;go_region_held3 (fun w'=>(fU w' (w.heap.size)/\bL w' (w.heap.size+1) (.bool (rB d)) (.slice lo V lc) (.slice l p s)/\bL w' (gp) (.bool (rB (P k))) (.slice uo A B) (.slice C D E)/\bL w' (gr) (.bool (rB (R k))) (.slice t u x) (.slice a c f))/\bL w' (wr.heap.size) (.bool (rB (R i))) (.slice M N S) (.slice F G H)/\eJ w' z i (.bool (rB (P i))) (.slice po pl pc) (.slice qo ql qc)) (go_keep)
         (first | (go_at_call_of 87 (Value.agg #[.bool (rB (P k)),.slice uo A B,.slice C D E]);refine (fS _ _ (P k) (R i) L L _ ((kS.kept K4).keep0 (gx GG)) (X4.keep0 (gx GG)) O).mono ?_;rintro e wa ⟨va,rfl,pa,Y⟩;obtain ⟨ao,al,ac,mm,mp,ms,rfl⟩:=pa.shape;(try have pe:=pe.keep0 (aa zQ Y));have GG:=aa (gx GG) Y;have ha:=hu.out wa GG) | (go_at_call_of 87 (Value.agg #[.bool (rB (R k)),.slice t u x,.slice a c f]);refine (fS _ _ (R k) (P i) L L _ ((hI.kept K4).keep0 (gx GG)) (Q4.keep0 (gx GG)) O).mono ?_;rintro e we ⟨ve,rfl,pe,ge⟩;obtain ⟨eo,el,ec,mt,Ha,Hb,rfl⟩:=pe.shape;(try have pa:=pa.keep0 (aa zQ ge));have GG:=aa (gx GG) ge;have he:=hu.out we GG) | (go_at_call 86;refine (dK _ _ (P k*R i) (R k*P i) (L+L+1) (L+L+1) _ (pa.keep0 zQ) (pe.keep0 zQ) O).mono ?_;rintro e wm ⟨vm,rfl,pm,gm⟩;obtain ⟨mo,ml,mc,kc,kf,kk,rfl⟩:=pm.shape;have GG:=aa (gx GG) gm;have hm:=hu.out wm GG) | (go_at_call 88;refine (qu _ _ (P k*R i-R k*P i) d (L+L+1+(L+L+1)+2) L _ (pm.keep0 zQ) ((kN.kept K4).keep0 (gx GG)) HD O).mono ?_;rintro e wy ⟨vy,rfl,py,gy⟩;obtain ⟨F,G,H,Hc,Hd,He,rfl⟩:=py.shape;have GG:=aa (gx GG) gy;have hy:=hu.out wy GG;have py:=py.tight (L':=L) (HF i hlt);obtain ⟨fr,t0⟩:=qb.out wy GG;obtain ⟨_,_,_,_,_,_,_,_,_,_,tf⟩:=fr.at i hlt;have jo:=tf (i*3);have jp:=tf (i*3+1);have jv:=tf (i*3+2);clear tf))
        all_goals
         have FR:=ab fr;have PY:=ab py;have GF:=ab (aa (aa G3 G4) GG);clear fr py GG;go_wp2;go_roundw
         case rel =>
          obtain ⟨r1,r2,r3⟩:=FR.out.set i hlt PY;exact ⟨i+1,O,zN,r1.congr (fun j _=>yW R P k d i j),(L2.gr GF).trans ⟨r2,r3⟩⟩
         case measure=>exact bH
     ·obtain rfl:i=n:=O
      go_wp2;go_end0
      exact ⟨rfl,L1.congr (fun j hj=>by unfold fT;rw [if_pos hj]),(aK.of_gr hY).trans L2⟩
structure bU (w:World) (br m n:Nat) (bs cs:Nat->Nat) (R:Nat->Nat->Rat) (L:Nat):Prop where
 top:∃ cur e,w.heap[br]? = some (.cells cur e (0,0))/\∀ i,i<m->cur[i]? = some (.slice (some ⟨bs i,0,none⟩) n (cs i))
 cap:∀ i,i<m->n<=cs i/\cs i<=maxLen
 row:∀ i,i<m->aJ w (bs i) n (R i) L
 inj:∀ i j,i<m->j<m->bs i=bs j->i=j
 off:∀ i,i<m->bs i≠br
def bU.lt (h:bU w br m n bs cs R L):br<w.heap.size:=by
 obtain ⟨cur,e,hb,_⟩:=h.top;exact (zZ hb).1
def bU.cell (h:bU w br m n bs cs R L) (i:Nat) (hi:i<m) :
  w.cell? ⟨br,i,none⟩=some (.slice (some ⟨bs i,0,none⟩) n (cs i))/\∀ k,w.frozen? ⟨br,k,none⟩=false:=by
 obtain ⟨cur,e,hb,hc⟩:=h.top;exact ⟨by simp only [World.cell?,hb];exact hc i hi,fun k=>by simp [World.frozen?,hb]⟩
def bU.keep0 (h:bU w br m n bs cs R L) (g:w.grownBy w' none):bU w' br m n bs cs R L:=by
 have a:=h.lt;obtain ⟨cur,e,hb,hc⟩:=h.top;exact ⟨⟨cur,e,by rw [g.block br a Z];exact hb,hc⟩,h.cap,fun i hi=>(h.row i hi).keep0 g,h.inj,h.off⟩
def bU.congr {R':Nat->Nat->Rat} (h:bU w br m n bs cs R L) (e:∀ i,i<m->∀ j,j<n->R i j=R' i j):bU w br m n bs cs R' L :=
 ⟨h.top,h.cap,fun i hi=>(h.row i hi).congr (e i hi),h.inj,h.off⟩
def bU.step (h:bU w br m n bs cs R L) (hi:i<m) {Q:Nat->Rat} (d:aJ w' (bs i) n Q L) (g:aK w w' (bs i)) :
  bU w' br m n bs cs (fun j=>if j=i then Q else R j) L:=by
 have f:=h.lt;obtain ⟨cur,e,hb,hc⟩:=h.top;refine ⟨⟨cur,e,by rw [g.1.block br f (fun e=>h.off i hi (zJ e).symm)];exact hb,hc⟩,h.cap,fun j c=>?_,h.inj,h.off⟩;by_cases a:j=i
 ·subst a;simp only [if_true];exact d
 ·simp only [if_neg a];exact (h.row j c).keep g.1 g.2 (fun e=>a (h.inj j i c hi (zJ e)))
def bU.keepR (h:bU w br m n bs cs R L) (g:aK w w' b) (a:br≠b) (c:∀ i,i<m->bs i≠b):bU w' br m n bs cs R L:=by
 have d:=h.lt;obtain ⟨cur,e,hb,hc⟩:=h.top;exact ⟨⟨cur,e,by rw [g.1.block br d (fun e=>a (zJ e))];exact hb,hc⟩,h.cap,fun i hi=>(h.row i hi).keep g.1 g.2 (fun e=>c i hi (zJ e)),h.inj,h.off⟩
def aJ.mono {L':Nat} {R:Nat->Rat} (h:aJ w b n R L) (a:L<=L'):aJ w b n R L':=by
 obtain ⟨cur,e,hb,hc⟩:=h;refine ⟨cur,e,hb,fun i hi=>?_⟩;obtain ⟨u,d,c0,c1,c2,c3⟩:=hc i hi;exact ⟨u,d,c0,c1,c2,c3.mono a⟩
def StuckE (w:World) (m done:Nat) (R:Nat->Nat->Rat) (e:Ending) (w':World):Prop :=
 ∃ c:Int,e=.returned (.int .i64 c)/\((c=7/\∃ i,done<=i/\i<m/\R i m≠0)∨(c=8/\∀ i,done<=i->i<m->R i m=0))/\w.grownBy w' none
def StkR (W:World) (m done:Nat) (R:Nat->Nat->Rat) (v:Value) (wr:World):Prop :=
 ∃ i:Nat,done+i<=m/\v=.int .i64 i/\(∀ j,done<=j->j<done+i->R j m=0)/\W.grownBy wr none
def FO (B:Bool) (C f:Option Addr) (fl fc g h:Nat) (br m cap done:Nat) (bs cs:Nat->Nat) (R:Nat->Nat->Rat) (L:Nat) (w:World) (u:bU w br m (m+1) bs cs R L) (hd:done<=m) (hm:m<=1000) (hc:m<=cap) (x:cap<=maxLen) :
  Calls Tryz.prog 143 #[(kh B (.slice C fl fc) (.slice f g h)),.slice (some ⟨br,done,none⟩) (m-done) (cap-done)] w fun e w'=>StuckE w m done R e w':=by
 unfold maxLen at x;have D:=ab u;have he:=u.lt;clear u;obtain ⟨W,s⟩:=eX (w.alloc (Obj.cells #[.bool B,.slice C fl fc,.slice f g h,.func (.func 84) #[] #[],.func (.func 85) #[] #[],.func (.func 86) #[] #[],.func (.func 87) #[] #[],.func (.func 88) #[] #[],.func (.func 89) #[] #[],.func (.func 90) #[] #[],.func (.func 91) #[] #[]] 111));have y:Hid (w.grownBy W none):=by rw [s];exact ag (ae _ _) _
 have FC:Hid (∀ wx,W.grownBy wx none->wx.cell? ⟨w.heap.size,8,none⟩=some (.func (.func 89) #[] #[])):=by
  intro wx hg;rw [s] at hg;exact hg.cell zG Z
 have E:=ab (D.keep0 y);go_enter Tryz.func143,Tryz.ntmps143
 go_wp2;rw [<- s];clear s;go_loopw [9] (fun v wr=>Hid (StkR W m done R v wr)) (fun v _=>m-done-(intOf v).toNat)
 case atStart=>exact ⟨0,O,rfl,fun j t h2=>O,ae _ _⟩
 case round =>
  obtain ⟨i,hi,rfl,T,U⟩:=hrel.out;have F:=ab T;have c:=ab U;clear T U hrel;by_cases hlt:done+i<m
  ·have l:i<m-done:=O
   have z:=(D.cap (done+i) hlt);obtain ⟨V,p⟩:=z;unfold maxLen at p;have ct:=((E.keep0 c).cell (done+i) hlt).1;obtain ⟨uo,X,Y,vo,vl,vc,c0,c1,c2,c3,_⟩:=((E.keep0 c).row (done+i) hlt).at m O;have C3:=ab c3;have G:Hid (∀ wx,wr.grownBy wx none->wx.cell? ⟨w.heap.size,8,none⟩=some (.func (.func 89) #[] #[])/\wx.cell? ⟨bs (done+i),m*3,none⟩=some (.bool (rB (R (done+i) m)))/\wx.cell? ⟨bs (done+i),m*3+1,none⟩=some (.slice uo X Y)/\wx.cell? ⟨bs (done+i),m*3+2,none⟩=some (.slice vo vl vc)):=by
    intro wx hg;exact ⟨FC wx (aa c hg),hg.cell c0 Z,hg.cell c1 Z,hg.cell c2 Z⟩
   clear c0 c1 c2 c3;have GG:wr.grownBy wr none:=ae _ _;have H:IntKind.i64.wrap (((m+1:Nat):Int)-1)=(m:Int):=by rw [IntWalk.i64_in _ ⟨O,O⟩];omega
   have I:IntKind.i64.wrap ((m:Int)+1-1)=(m:Int):=by rw [IntWalk.i64_in _ ⟨O,O⟩];omega
   have J:IntKind.i64.wrap (m:Int)=(m:Int):=IntWalk.i64_in _ ⟨O,O⟩;have K:(0:Int)<=(m:Int):=O
   have M:(m:Int)<(m:Int)+1:=O
   obtain ⟨s0,s1,s2,s3⟩:=G.out wr GG;go_wp2;go_cut [22] (fun s22 wx=>Hid (s22=.bool (!(decide (R (done+i) m=0)))/\wr.grownBy wx none))
   case first =>
    go_region_held3 (fun w'=>w'.cell? ⟨w.heap.size,8,none⟩=some (.func (.func 89) #[] #[])/\w'.cell? ⟨bs (done+i),m*3,none⟩=some (.bool (rB (R (done+i) m)))/\w'.cell? ⟨bs (done+i),m*3+1,none⟩=some (.slice uo X Y)/\w'.cell? ⟨bs (done+i),m*3+2,none⟩=some (.slice vo vl vc)) (go_keep)
     (first | (go_at_call 89;refine (bA _ (R (done+i) m) L _ (C3.keep0 zF)).mono ?_;rintro e wa ⟨rfl,ga⟩;have GG:wr.grownBy wa none:=aa zF ga;obtain ⟨a0,a1,a2,a3⟩:=G.out wa GG))
    all_goals (go_wp2_with fail;go_meet;exact ⟨rfl,zF⟩)
   case rest =>
    obtain ⟨rfl,g2⟩:=hcut.out;have N:=ab g2;clear hcut g2 GG s0 s1 s2 s3;by_cases d:R (done+i) m=0
    ·have a:(!(decide (R (done+i) m=0)))=false:=by simp [d]
     rw [a];have A:=ab d;clear d a;go_wp2;go_roundw
     case rel =>
      refine ⟨i+1,O,zN,fun j t h2=>?_,aa c N⟩;by_cases hj:j=done+i
      ·rw [hj];exact A
      ·exact F j t O
     case measure=>exact bH
    ·have a:(!(decide (R (done+i) m=0)))=true:=by simp [d]
     rw [a];have A:=ab d;clear d a;go_wp2;refine bodyPost_ret (v:=.int .i64 7) (by simp [results,Tryz.results143,go_sem]) rfl ?_;exact ⟨7,rfl,.inl ⟨rfl,done+i,O,hlt,A⟩,aa y (aa c N)⟩
  ·have l:i=m-done:=O
   have S:¬ (i<m-done):=O
   go_wp2;refine bodyPost_ret (v:=.int .i64 8) (by simp [results,Tryz.results143,go_sem]) rfl ?_;exact ⟨8,rfl,.inr ⟨rfl,fun j t h2=>F j t O⟩,aa y c⟩
def bj (w:World) (L:Nat):FQ w (.agg #[.bool (rB 0),.slice none 0 0,.slice none 0 0]) 0 L:=by
 have a:rN 0=0:=rfl;have c:(0:Rat).den=1:=rfl;unfold FQ;rw [a,c];exact ⟨_,_,rfl,⟨[],Ws.nil _,rfl,rfl,Z⟩,.inl ⟨rfl,rfl⟩,rfl,zD⟩
def Tryz.infoF:(Tryz.prog.info? 105).map (fun i=>(i.zero,i.size,i.bytes))=some (some (.agg #[.bool false,.slice none 0 0,.slice none 0 0]),3,56):=zK
def lR {P:Program} (w:World) {f:Array Oper} {rest:List Oper} {o:Oper} {a:Act} {Q:Exit->Act->World->Prop}
  (hg:o.guard=none) (l c:Operand) (t:TypeId) (hop:o.op=Op.makeSlice t l c)
  (h1:P.underlying t=some (.slice 105)) (hinfo:(P.info? 105).map (fun i=>(i.zero,i.size,i.bytes))=some (some (.agg #[.bool false,.slice none 0 0,.slice none 0 0]),3,56))
  (kl kc:IntKind) (L C:Int) (n:Nat) (hl:a.eval l=.int kl L) (hc:a.eval c=.int kc C) (hL:L=(n:Int)) (hC:C=(n:Int)) (b2:n<=1000000)
  (hK:∀ w',aJ w' w.heap.size n (fun _=>0) 0->w.grownBy w' none->wpList P f Q rest (a.put o.dst (.slice (some ⟨w.heap.size,0,none⟩) n n)) w') :
  wpList P f Q (o :: rest) a w:=by
 obtain ⟨i,hi,u,x,y⟩:=info_parts hinfo;refine wpList_make_full w hg l c t hop w.heap.size 105 i _ 3 h1 hi u x kl kc L C n hl hc hL hC (by rw [y];omega) (by unfold maxLen;omega) zL ?_;intro w' p s;refine hK w' ?_ s;obtain ⟨_,h⟩:=p;rcases h with ⟨h,_⟩ | ⟨g,cap,cur,h,_,hh,_,_,z,A⟩
 ·simp at h
 ·simp only [Value.slice.injEq,zI,Addr.mk.injEq,and_true,true_and] at h;obtain ⟨rfl,rfl⟩:=h;have d:cur=madeCells (Value.agg #[.bool false,.slice none 0 0,.slice none 0 0]).cells (n*3):=by
   apply Array.ext';rw [<- A,zT (by simp [z])]
  refine ⟨cur,_,hh,fun j B=>⟨.slice none 0 0,.slice none 0 0,?_,?_,?_,bj _ _⟩⟩
  ·rw [d];have e:j*3 % 3=0:=O
   simp only [madeCells,Value.cells,Array.getElem?_map];rw [Array.getElem?_eq_getElem (by simp;omega)];simp [e];rfl
  ·rw [d];have e:(j*3+1) % 3=1:=O
   simp only [madeCells,Value.cells,Array.getElem?_map];rw [Array.getElem?_eq_getElem (by simp;omega)];simp [e]
  ·rw [d];have e:(j*3+2) % 3=2:=O
   simp only [madeCells,Value.cells,Array.getElem?_map];rw [Array.getElem?_eq_getElem (by simp;omega)];simp [e]
def m9 {a:Option Addr} {c d e f:Nat} (h:FQ w (.agg #[.bool (rB q),.slice uo c d,.slice a e f]) q L) :
  aJ (w.alloc (Obj.cells #[.bool (rB q),.slice uo c d,.slice a e f] 105)) w.heap.size 1 (fun _=>q) L:=by
 refine ⟨_,_,heap_alloc_new w _,fun i hi=>?_⟩;obtain rfl:i=0:=O
 exact ⟨_,_,rfl,rfl,rfl,h.keep0 (ag (ae _ _) _)⟩
def pn {a:World} {c:Option Addr} {d f g j:Nat} (hg:(w.alloc (Obj.cells #[.bool false,.slice none 0 0,.slice none 0 0] 105)).grownBy a none)
  (h:FQ a (.agg #[.bool (rB q),.slice uo d f,.slice c g j]) q L) :
  aJ (((a.setCell ⟨w.heap.size,0,none⟩ (.bool (rB q))).setCell ⟨w.heap.size,1,none⟩ (.slice uo d f)).setCell ⟨w.heap.size,2,none⟩ (.slice c g j)) w.heap.size 1 (fun _=>q) L:=by
 have e:a.heap[w.heap.size]? = some (Obj.cells #[.bool false,.slice none 0 0,.slice none 0 0] 105 (0,0)):=by
  rw [hg.block w.heap.size Z Z];exact heap_alloc_new w _
 have l:aJ a w.heap.size 1 (fun _=>0) L:=⟨_,_,e,fun i hi=>by
  obtain rfl:i=0:=O
  exact ⟨_,_,rfl,rfl,rfl,bj _ _⟩⟩
 have:=(l.set 0 O h).1;simp only [Nat.zero_mul,Nat.zero_add] at this;exact this.congr (fun i hi=>by
  obtain rfl:i=0:=O
  simp [aN])
def aJ.var (h:aJ w b 1 (fun _=>q) L) :
  ∃ uo ul uc do_ dl dc,w.cell? ⟨b,0,none⟩=some (.bool (rB q))/\w.cell? ⟨b,1,none⟩=some (.slice uo ul uc)/\w.cell? ⟨b,2,none⟩=some (.slice do_ dl dc)
   /\ FQ w (.agg #[.bool (rB q),.slice uo ul uc,.slice do_ dl dc]) q L/\∀ k,w.frozen? ⟨b,k,none⟩=false:=by
 obtain ⟨a,b,c,d,e,f,g,j,l,p,s⟩:=h.at 0 O;exact ⟨a,b,c,d,e,f,by simpa using g,by simpa using j,by simpa using l,p,s⟩
def aJ.varset {L':Nat} {p:Rat} (h:aJ w b 1 (fun _=>p) L') {a:Option Addr} {c f g j:Nat} (l:FQ w (.agg #[.bool (rB q),.slice uo c f,.slice a g j]) q L) (s:L'<=L) :
  aJ (((w.setCell ⟨b,0,none⟩ (.bool (rB q))).setCell ⟨b,1,none⟩ (.slice uo c f)).setCell ⟨b,2,none⟩ (.slice a g j)) b 1 (fun _=>q) L:=by
 have t:aJ w b 1 (fun _=>p) L:=by
  obtain ⟨cur,e,hb,hc⟩:=h;refine ⟨cur,e,hb,fun i hi=>?_⟩;obtain ⟨u,d,c0,c1,c2,c3⟩:=hc i hi;exact ⟨u,d,c0,c1,c2,c3.mono s⟩
 have:=(t.set 0 O l).1;simp only [Nat.zero_mul,Nat.zero_add] at this;exact this.congr (fun i hi=>by
  obtain rfl:i=0:=O
  simp [aN])
def cJ (w:World) (bo m:Nat) (o:Nat->Nat):Prop:=∃ cur e,w.heap[bo]? = some (.cells cur e (0,0))/\∀ i,i<m->cur[i]? = some (.int .i64 ((o i:Nat):Int))
def cJ.lt (h:cJ w bo m o):bo<w.heap.size:=by
 obtain ⟨cur,e,hb,_⟩:=h;exact (zZ hb).1
def cJ.keep (h:cJ w bo m o) (g:w.grownBy w' r) (a:some bo≠r):cJ w' bo m o:=by
 have c:=h.lt;obtain ⟨cur,e,hb,hc⟩:=h;exact ⟨cur,e,by rw [g.block bo c a];exact hb,hc⟩
def cJ.at (h:cJ w bo m o) (i:Nat) (hi:i<m):w.cell? ⟨bo,i,none⟩=some (.int .i64 ((o i:Nat):Int)):=by
 obtain ⟨cur,e,hb,hc⟩:=h;simp only [World.cell?,hb];exact hc i hi
def aJ.cells {R:Nat->Rat} (h:aJ w b n R L):∃ xs:List Value,xs.length=n*3/\(∀ j u,xs[j]? = some u->w.cell? ⟨b,j,none⟩=some u)/\(∀ u∈xs,u.oneCell'=true)
  /\ ∀ (w':World) (g:Nat) (cur':Array Value) (e:TypeId),aO w w'->w'.heap[g]? = some (.cells cur' e (0,0))->cur'.toList.take (n*3)=xs->aJ w' g n R L:=by
 obtain ⟨cur,e,hb,hc⟩:=h;have z:n*3<=cur.size:=by
  rcases zP n with G | G
  ·omega
  ·obtain ⟨u,d,_,_,c2,_⟩:=hc (n-1) O;have:=(zZ c2).1;omega
 refine ⟨cur.toList.take (n*3),by simp;omega,?_,?_,?_⟩
 ·intro j u f;rw [List.getElem?_take] at f;split at f
  ·simp only [World.cell?,hb];rw [<- Array.getElem?_toList];exact f
  ·cases f
 ·intro u B;obtain ⟨j,f,x⟩:=List.mem_iff_getElem.1 B;have A:j<n*3:=by simp at f;omega
  have c:cur[j]? = some u:=by
   rw [<- Array.getElem?_toList,zX (by simp;omega)];rw [List.getElem_take] at x;rw [x]
  obtain ⟨a,d,c0,c1,c2,c3⟩:=hc (j / 3) O;obtain ⟨uo,I,J,H,K,M,y⟩:=c3.shape;simp only [Value.agg.injEq,Array.mk.injEq,List.cons.injEq,and_true,true_and] at y;obtain ⟨rfl,rfl⟩:=y;have l:j=j / 3*3∨j=j / 3*3+1∨j=j / 3*3+2:=O
  rcases l with s | s | s
  ·rw [s,c0] at c;rw [<- zJ c];rfl
  ·rw [s,c1] at c;rw [<- zJ c];rfl
  ·rw [s,c2] at c;rw [<- zJ c];rfl
 ·intro w' g cur' C D hg E;refine ⟨cur',C,hg,fun i hi=>?_⟩;obtain ⟨u,d,c0,c1,c2,c3⟩:=hc i hi;have p:∀ j v,j<n*3->cur[j]? = some v->cur'[j]? = some v:=by
   intro j v f F;have t:(cur'.toList.take (n*3))[j]? = (cur.toList.take (n*3))[j]?:=by rw [E]
   rw [List.getElem?_take,List.getElem?_take,if_pos f,if_pos f,Array.getElem?_toList,Array.getElem?_toList,F] at t;exact t
  exact ⟨u,d,p _ _ O c0,p _ _ O c1,p _ _ O c2,c3.kept D⟩
def wN (b n cap:Nat) (R:Nat->Rat) (L:Nat) (w:World) (h:aJ w b n R L) (Y:0<n) (hn:n<=3000) (hc:n<=cap) (E:cap<=maxLen) :
  Calls Tryz.prog 97 #[.slice (some ⟨b,0,none⟩) n cap] w
   fun e w'=>∃ g c,e=.returned (.slice (some ⟨g,0,none⟩) n c)/\w.heap.size<=g/\n<=c/\c<=maxLen/\aJ w' g n R L/\w.grownBy w' none:=by
 obtain ⟨V,hi,z,A,B⟩:=info_parts Tryz.infoF;obtain ⟨xs,X,F,G,H⟩:=h.cells;have I:=ab F;have J:=ab G;have K:=ab H;have t:=E;unfold maxLen at t;clear h F G H E;have hq:∀ W,(binOp .eql 79 (.slice (some ⟨b,0,none⟩) n cap) (.slice none 0 0)).run Tryz.prog W=.ok (.bool false) W:=fun W=>Lib.run_eql_slice_nil W _ _ (some _) _ _ 0 0 Tryz.underlying79
 go_enter Tryz.func97,Tryz.ntmps97
 go_wp2_with (at_builtin;refine wpList_append_own _ rfl _ _ 79 rfl w.heap.size 105 V _ 3 56 Tryz.underlying79 hi z A B rfl zD _ 0 [] rfl ?c0 ⟨b,0,none⟩ n cap xs rfl ?c1 ?c2 ?c3 ?c4 ?c5 ?c6 ?_)
 case c0=>exact World.ownsRow_made w #[] 0 zL (by unfold maxLen;omega) Z
 case c1=>exact X
 case c2 =>
  intro j u T;have x:=(World.grownBy_alloc w (Obj.cells #[] 105) none).cell (I j u T) Z;rw [show (⟨b,0,none⟩:Addr).add j=⟨b,j,none⟩ from by simp [Addr.add];omega];exact x
 case c3=>exact J
 case c4=>unfold maxLen;omega
 case c5=>omega
 case c6=>simp
 intro U w1 d l y;have a:w.grownBy w1 none:=aw (r1:=none) (World.grownBy_alloc w _ none) l (fun _ _ e=>e) (fun b hb e=>by simp [Value.ownBlock] at e;omega);have M:=ab a;obtain ⟨g,c,rfl,hg,C,p,f⟩:∃ g c,U=.slice (some ⟨g,0,none⟩) n c/\w.heap.size<=g/\n<=c/\c<=maxLen/\aJ w1 g n R L:=by
  rcases d.2 with ⟨e,he⟩ | ⟨g,s,cur,e,hb,hh,h1,x,h3,D⟩
  ·omega
  ·refine ⟨g,s,by first | exact e | (rw [e,Nat.zero_add]),hb,O,x,K w1 g cur _ (aO.of_gr a) hh ?_⟩;first | exact D | (rw [Nat.zero_add] at D;exact D)
 have N:=ab f;have S:=ab p;clear d l a y f p;go_wp2;go_ret;exact ⟨g,c,rfl,hg,C,S,N,M⟩
def xB (w:World) (k:Nat):Prop:=∀ i f (x:Nat),w.cell? ⟨k,i,f⟩≠some (.int .u32 (x:Nat))
def oE (w:World) (v:Value):Prop:=∀ k,v.ownBlock=some k->xB w k
def oE.nil (w:World):oE w (.slice none 0 0):=fun k e=>by simp [Value.ownBlock] at e
def xB.cells {e:TypeId} (hb:w.heap[k]? = some (.cells cur e (0,0))) (h:∀ u∈cur.toList,∀ x:Nat,u≠.int .u32 (x:Nat)):xB w k:=by
 intro i f x hc;cases f with
 | none =>
  simp only [World.cell?,hb] at hc;have a:cur.toList[i]? = some (.int .u32 (x:Nat)):=by rw [Array.getElem?_toList];exact hc
  exact h _ (List.mem_of_getElem? a) x rfl
 | some g=>simp [World.cell?,hb] at hc
def xB.all {e:TypeId} (hb:w.heap[k]? = some (.cells cur e (0,0))) (h:xB w k):∀ u∈cur.toList,∀ x:Nat,u≠.int .u32 (x:Nat):=by
 intro u a x c;obtain ⟨i,hi⟩:=List.mem_iff_getElem?.1 a;refine h i none x ?_;simp only [World.cell?,hb];rw [<- c,<- Array.getElem?_toList];exact hi
def xB.keep (h:xB w k) (a:k<w.heap.size) (g:w.grownBy w' r) (c:some k≠r):xB w' k:=by
 intro i f x e;rw [World.cell?_of_block (g.block k a c)] at e;exact h i f x e
def rC (z:Array Value) (n:Nat) (h:z.size=1):∀ u∈(Builtin.zeroCells z n).toList,u=z[0]!:=by
 intro u a;unfold Builtin.zeroCells at a;simp only [Array.toList_map,List.mem_map] at a;obtain ⟨i,_,rfl⟩:=a;rw [h,Nat.mod_one]
def lP (w:World) (base:Nat) (t D e:TypeId) (i:TypeInfo) (z:Value) (l:Nat) (J:P.underlying t=some (.slice e)) (hi:P.info? e=some i) (M:i.zero=some z)
  (hsize:i.size=1) (hby:i.bytes=l) (hzs:z.cells.size=1) (hz1:∀ x:Nat,z.cells[0]!≠.int .u32 (x:Nat))
  (v:Value) (n:Nat) (xs:List Value) (hown:w.ownsRow base e 1 v n xs) (hnw:oE w v) (hxs:∀ u∈xs,∀ x:Nat,u≠.int .u32 (x:Nat))
  (a:Addr) (c:Nat) (y:Value) (hy:w.cell? a=some y) (h1:y.oneCell'=true) (hyw:∀ x:Nat,y≠.int .u32 (x:Nat))
  (h63:n+1<=maxLen) (hbytes:(n+1)*l<=140737488355328) (hbase:base<=w.heap.size) :
  ∃ v' w',(Builtin.append_ #[t,t] D #[v,.slice (some a) 1 c]).run P w=.ok v' w'/\w'.ownsRow base e 1 v' (n+1) (xs++[y])/\w.grownBy w' v.ownBlock/\oE w' v'/\aO w w':=by
 have h:∀ j u,[y][j]? = some u->w.cell? (a.add j)=some u:=by
  intro j u U;match j with
  | 0 =>
   simp only [List.getElem?_cons_zero,zI] at U;subst U;simpa [Addr.add] using hy
  | j+1=>simp at U
 have E:∀ u∈[y],u.oneCell'=true:=by
  intro u d;simp only [List.mem_singleton] at d;subst d;exact h1
 obtain ⟨v',w',B,h2,V,_⟩:=run_append_own (P:=P) w base t D e i z 1 l J hi M hsize hby hzs zD v n xs hown a 1 c [y] rfl h E h63 hbytes hbase;refine ⟨v',w',B,h2,V,?_⟩;have K:n+1<=9223372036854775807:=by simp only [maxLen] at h63;omega
 have fresh:∀ cur:Array Value,(∀ u∈cur.toList,∀ x:Nat,u≠.int .u32 (x:Nat))->∀ c2,w'=w.drew.alloc (.cells cur e)->v'=.slice (some ⟨w.heap.size,0,none⟩) (n+1) c2->oE w' v'/\aO w w':=by
  intro cur hc c2 ew ev;have N:w.grownBy w' none:=by rw [ew];exact ⟨rfl,rfl,rfl,Z,fun k hk _=>heap_alloc_old w.drew _ hk⟩
  refine ⟨fun k C=>?_,aO.of_gr N⟩;rw [ev] at C;simp only [Value.ownBlock,zI] at C;subst C;exact xB.cells (by rw [ew];exact heap_alloc_new w.drew _) hc
 have F:∀ k,∀ u∈(Builtin.zeroCells z.cells k).toList,∀ x:Nat,u≠.int .u32 (x:Nat):=by
  intro k u d x;rw [rC z.cells k hzs u d];exact hz1 x
 rcases hown.2 with ⟨rfl,rfl⟩ | ⟨g,cap,cur,rfl,he,hg,hf,hl,W,X⟩
 ·have p:=run_append_nil (P:=P) w t D e i z J hi M a 1 c [y] (by rw [hsize];rfl) h O O (by rw [hby];omega);rw [p] at B;injection B with e1 e2
  refine fresh _ ?_ _ e2.symm e1.symm;intro u d;simp only [Array.toList_append,List.mem_append,List.mem_singleton] at d;rcases d with d | d
  ·subst d;exact hyw
  ·exact F _ u d
 ·by_cases s:n+1<=cap
  ·have G:n*i.size + [y].length<=cur.size:=by rw [hsize,W];simp;exact s
   have p:=run_append_room (P:=P) w t D e i J hi g n cap cur hg a 1 c [y] (by rw [hsize];rfl) h E s G;rw [p] at B;injection B with e1 e2
   have S:=hnw g rfl;have H:=setRow_heap w g cur ((cur.toList.take (n*i.size)++[y]++cur.toList.drop (n*i.size + [y].length)).toArray) e _ hg;refine ⟨fun k C=>?_,⟨V.size,fun Y x ex=>?_⟩⟩
   ·rw [<- e1] at C;simp only [Value.ownBlock,zI] at C;subst C;rw [<- e2];refine xB.cells H ?_;intro u d x;simp only [List.mem_append,List.mem_singleton] at d;rcases d with (d | d) | d
    ·exact S.all hg u (List.mem_of_mem_take d) x
    ·subst d;exact hyw x
    ·exact S.all hg u (List.mem_of_mem_drop d) x
   ·have T:Y.block≠g:=fun I=>by
     obtain ⟨b,i,f⟩:=Y;simp only at I;subst I;exact S i f x ex
    rw [World.cell?_of_block (V.block Y.block (bS ex) (fun I=>T (by simp only [Value.ownBlock,zI] at I;exact I)))];exact ex
  ·have A:∀ j u,xs[j]? = some u->w.cell? ((⟨g,0,none⟩:Addr).add j)=some u:=hown.cells (g:=g) rfl;have p:=run_append_grow (P:=P) w t D e i z J hi M ⟨g,0,none⟩ n cap xs (by rw [hsize];exact hown.1) A a 1 c [y] (by rw [hsize];rfl) h O O (growslice_fits O (by rw [hby];exact hbytes));rw [p] at B;injection B with e1 e2
   refine fresh _ ?_ _ e2.symm e1.symm;intro u d;simp only [Array.toList_append,List.mem_append,List.mem_singleton] at d;rcases d with (d | d) | d
   ·exact hxs u d
   ·subst d;exact hyw
   ·exact F _ u d
def cV {α:Type} (f:α->Value) (t:TypeId) (w:World) (base:Nat) (v:Value) (xs:List α):Prop:=bM f t w base v xs/\oE w v
def mN {α:Type} {f:α->Value} {t:TypeId} : cV f t w base (.slice none 0 0) []:=⟨fA,oE.nil _⟩
def cV.keep {α:Type} {f:α->Value} {t:TypeId} {xs:List α} {row:Option Nat} (h:cV f t w base v xs) (hg:w.grownBy w' row) (a:v.ownBlock=none∨v.ownBlock≠row):cV f t w' base v xs:=by
 refine ⟨h.1.keep hg a,fun k c=>(h.2 k c).keep (h.1.fresh k c).2 hg ?_⟩;rcases a with hn | hn
 ·rw [hn] at c;cases c
 ·rw [<- c];exact hn
def cV.keep0 {α:Type} {f:α->Value} {t:TypeId} {xs:List α} (h:cV f t w base v xs) (hg:w.grownBy w' none):cV f t w' base v xs:=h.keep hg (by cases hv:v.ownBlock<;>simp)
def eN {P:Program} {α:Type} (f:α->Value) (e:TypeId) (h:Value) (c:Nat) (W:World) {d:Array Oper} {rest:List Oper} {o:Oper} {a:Act} {Q:Exit->Act->World->Prop}
  (hg:o.guard=none) (s x:Operand) (t:TypeId) (ho:o.op=.call { callee:=.builtin .append,args:=#[s,x],argTypes:=#[t,t] }) (base:Nat)
  (h1:P.underlying t=some (.slice e)) (hinfo:(P.info? e).map (fun i=>(i.zero,i.size,i.bytes))=some (some h,1,c)) (hcz:h.cells.size=1) (hz1:∀ x:Nat,h.cells[0]!≠.int .u32 (x:Nat)) (hf:∀ u (x:Nat),f u≠.int .u32 (x:Nat))
  (v:Value) (xs:List α) (hs:a.eval s=v) (hown:cV f e W base v xs) (b:Nat) (y:α) (hx:a.eval x=.slice (some ⟨b,0,none⟩) 1 1) (hc:W.cell? ⟨b,0,none⟩=some (f y)) (h1c:(f y).oneCell'=true)
  (hlen:xs.length<=1000000) (hby:c<=24) (hbase:base<=W.heap.size)
  (hK:∀ ao cap w',cV f e w' base (.slice ao (xs.length+1) cap) (xs++[y])->W.grownBy w' v.ownBlock->aO W w'->wpList P d Q rest (a.put o.dst (.slice ao (xs.length+1) cap)) w'):wpList P d Q (o :: rest) a W:=by
 obtain ⟨i,hi,l,p,z⟩:=info_parts hinfo;have g:(xs.length+1)*c<=140737488355328:=by
  have:(xs.length+1)*c<=(1000000+1)*24:=Nat.mul_le_mul O hby;omega
 obtain ⟨D,w',E,F,G,B,H⟩:=lP (P:=P) W base t o.type e i h c h1 hi l p z hcz hz1 v xs.length (xs.map f) hown.1 hown.2
  (fun u J x=>by obtain ⟨I,_,rfl⟩:=List.mem_map.1 J;exact hf I x) ⟨b,0,none⟩ 1 (f y) hc h1c (hf y) (by unfold maxLen;omega) g hbase
 have j:bM f e w' base D (xs++[y]):=by
  unfold bM;rw [List.length_append,List.map_append];exact F
 obtain ⟨ao,cap,C⟩:=j.shape;rw [List.length_append,List.length_singleton] at C;refine wpList_plain hg fun _ A=>?_
 unfold Oper.wp execOp;simp only [ho,resolve,invoke,builtin,Sem.run_bind,Sem.run_pure,Result.andThen_ok,List.map_toArray,List.map_cons,List.map_nil,hs,hx,E];rw [C] at j B ⊢;exact A _ _ (hK ao cap w' ⟨j,B⟩ G H)
def tF (w:World) (b i:Nat) (v:Value):w.grownBy (w.setCell ⟨b,i,none⟩ v) (some b) :=
 ⟨rfl,rfl,rfl,Z,fun k _ a=>heap_setCell_other _ _ k _ (fun e=>a (by rw [e]))⟩
def aK.set {e:TypeId} (hb:w.heap[b]? = some (.cells cur e (0,0))) (hi:∀ x:Nat,cur[i]?≠some (.int .u32 (x:Nat))) (v:Value):aK w (w.setCell ⟨b,i,none⟩ v) b:=⟨tF _ _ _ _,aO.set hb hi v⟩
def tY {e:TypeId} (hb:w.heap[br]? = some (.cells cur e (0,0))) {a:Nat} {x y:Value} (g:cur[a]? = some x) (h:cur[b]? = some y) (t:∀ z:Nat,x≠.int .u32 (z:Nat)) (l:∀ z:Nat,y≠.int .u32 (z:Nat)) :
  ∃ cur',((w.setCell ⟨br,a,none⟩ y).setCell ⟨br,b,none⟩ x).heap[br]? = some (.cells cur' e (0,0))/\(∀ i,cur'[i]? = cur[aP a b i]?)/\aK w ((w.setCell ⟨br,a,none⟩ y).setCell ⟨br,b,none⟩ x) br:=by
 have p:=(zZ g).1;have lb:=(zZ h).1;have s:=heap_setCell_same w br a cur e y hb;have u:=heap_setCell_same (w.setCell ⟨br,a,none⟩ y) br b (cur.setIfInBounds a y) e x s;refine ⟨(cur.setIfInBounds a y).setIfInBounds b x,u,fun i=>?_,(aK.set hb (fun z c=>?_) y).trans (aK.set s (fun z c=>?_) x)⟩
 ·unfold aP;by_cases d:i=b
  ·subst d;rw [if_pos rfl,Array.getElem?_setIfInBounds_self_of_lt (by simpa using lb),g]
  ·rw [if_neg d,Array.getElem?_setIfInBounds_ne (fun f=>d f.symm)];by_cases j:i=a
   ·subst j;rw [if_pos rfl,Array.getElem?_setIfInBounds_self_of_lt p,h]
   ·rw [if_neg j,Array.getElem?_setIfInBounds_ne (fun f=>j f.symm)]
 ·rw [g] at c;exact t z (zJ c)
 ·by_cases d:b=a
  ·subst d;rw [Array.getElem?_setIfInBounds_self_of_lt p] at c;exact l z (zJ c)
  ·rw [Array.getElem?_setIfInBounds_ne (fun f=>d f.symm),h] at c;exact l z (zJ c)
def bU.swap (h:bU w br m n bs cs R L) {a:Nat} (ha:a<m) (hb:b<m) :
  bU ((w.setCell ⟨br,a,none⟩ (.slice (some ⟨bs b,0,none⟩) n (cs b))).setCell ⟨br,b,none⟩ (.slice (some ⟨bs a,0,none⟩) n (cs a))) br m n (fun i=>bs (aP a b i)) (fun i=>cs (aP a b i)) (fun i=>R (aP a b i)) L
  /\ aK w ((w.setCell ⟨br,a,none⟩ (.slice (some ⟨bs b,0,none⟩) n (cs b))).setCell ⟨br,b,none⟩ (.slice (some ⟨bs a,0,none⟩) n (cs a))) br:=by
 obtain ⟨cur,e,hh,hc⟩:=h.top;obtain ⟨c,l,p,d⟩:=tY hh (hc a ha) (hc b hb) (fun z=>Z) (fun z=>Z);generalize (w.setCell ⟨br,a,none⟩ (.slice (some ⟨bs b,0,none⟩) n (cs b))).setCell ⟨br,b,none⟩ (.slice (some ⟨bs a,0,none⟩) n (cs a))=w' at l d ⊢;have lt:∀ i,i<m->aP a b i<m:=fun i hi=>dr ha hb hi
 refine ⟨⟨⟨c,e,l,fun i hi=>?_⟩,fun i hi=>h.cap _ (lt i hi),fun i hi=>(h.row _ (lt i hi)).keep d.1 d.2 (fun f=>h.off _ (lt i hi) (zJ f)),fun i j hi s f=>?_,fun i hi=>h.off _ (lt i hi)⟩,d⟩
 ·rw [p i];exact hc _ (lt i hi)
 ·have:=h.inj _ _ (lt i hi) (lt j s) f;have g:aP a b (aP a b i)=aP a b (aP a b j):=by rw [this]
  rw [eZ,eZ] at g;exact g
def cJ.swap (h:cJ w bo m o) {a:Nat} (ha:a<m) (hb:b<m) :
  cJ ((w.setCell ⟨bo,a,none⟩ (.int .i64 ((o b:Nat):Int))).setCell ⟨bo,b,none⟩ (.int .i64 ((o a:Nat):Int))) bo m (fun i=>o (aP a b i))
  /\ aK w ((w.setCell ⟨bo,a,none⟩ (.int .i64 ((o b:Nat):Int))).setCell ⟨bo,b,none⟩ (.int .i64 ((o a:Nat):Int))) bo:=by
 obtain ⟨cur,e,hh,hc⟩:=h;obtain ⟨c,d,f,g⟩:=tY hh (hc a ha) (hc b hb) (fun z=>Z) (fun z=>Z);refine ⟨⟨c,e,d,fun i hi=>?_⟩,g⟩;rw [f i];exact hc _ (dr ha hb hi)
def aJ.ne_int {R:Nat->Rat} {x:Int} (h:aJ w b n R L) (hn:0<n) (hc:w.cell? ⟨bo,0,none⟩=some (.int .i64 x)):b≠bo:=by
 intro e;obtain ⟨_,_,_,_,_,_,c0,_⟩:=h.at 0 hn;rw [e,Nat.zero_mul,hc] at c0;simp at c0
def aJ.ne_slice {R:Nat->Rat} {x:Option Addr} {l c:Nat} (h:aJ w b n R L) (hn:0<n) (hc:w.cell? ⟨bo,0,none⟩=some (.slice x l c)):b≠bo:=by
 intro e;obtain ⟨_,_,_,_,_,_,c0,_⟩:=h.at 0 hn;rw [e,Nat.zero_mul,hc] at c0;simp at c0
def bU.ne_int {x:Int} (h:bU w br m n bs cs R L) (a:0<m) (hn:0<n) (hc:w.cell? ⟨bo,0,none⟩=some (.int .i64 x)):br≠bo/\∀ i,i<m->bs i≠bo:=by
 refine ⟨fun e=>?_,fun i hi=>(h.row i hi).ne_int hn hc⟩;have:=(h.cell 0 a).1;rw [e,hc] at this;simp at this
def cJ.froz (h:cJ w bo m o) (k:Nat):w.frozen? ⟨bo,k,none⟩=false:=by
 obtain ⟨cur,e,hb,hc⟩:=h;simp [World.frozen?,hb]
abbrev CL (w:World) (g o:Nat) (p:aA):Prop:=w.cell? ⟨g,o,none⟩=some (.int .i64 p.kind)/\w.cell? ⟨g,o+1,none⟩=some (.int .i64 p.a)/\w.cell? ⟨g,o+2,none⟩=some (.int .i64 p.b)/\w.cell? ⟨g,o+3,none⟩=some (.int .i64 p.c)/\w.cell? ⟨g,o+4,none⟩=some (.int .i64 p.d)/\w.cell? ⟨g,o+5,none⟩=some (.string p.v)
abbrev nk (w:World) (g:Nat) (p:aA):Prop:=w.cell? ⟨g,0,none⟩=some (.int .i64 p.kind)/\w.cell? ⟨g,1,none⟩=some (.int .i64 p.a)/\w.cell? ⟨g,2,none⟩=some (.int .i64 p.b)/\w.cell? ⟨g,3,none⟩=some (.int .i64 p.c)/\w.cell? ⟨g,4,none⟩=some (.int .i64 p.d)/\w.cell? ⟨g,5,none⟩=some (.string p.v)
def nk.k0 {g:Nat} {p:aA} (h:nk w g p) (k:w.grownBy w' none):nk w' g p:=⟨k.cell h.1 Z,k.cell h.2.1 Z,k.cell h.2.2.1 Z,k.cell h.2.2.2.1 Z,k.cell h.2.2.2.2.1 Z,k.cell h.2.2.2.2.2 Z⟩
def ie (w:World) (p:aA) (T:TypeId) (k:(w.alloc (Obj.cells #[.int .i64 p.kind,.int .i64 p.a,.int .i64 p.b,.int .i64 p.c,.int .i64 p.d,.string p.v] T)).grownBy w' none):nk w' w.heap.size p:=nk.k0 (w:=w.alloc _) ⟨zG,zG,zG,zG,zG,zG⟩ k
def aB.row {c:Option Addr} {d:Nat} {a:List aA} (h:aB w (.slice c a.length d) a) (k:w.grownBy w' none) (hi:i<a.length):∃ b off,c=some ⟨b,off,none⟩/\CL w' b (off+i*6) a[i]/\a[i].v.size<=600000000:=by
 obtain ⟨l,cap,e,p,s,f⟩:=h.keep k;simp only [Value.slice.injEq,true_and] at e;obtain ⟨rfl,rfl⟩:=e;obtain ⟨b,off,g,hb,c0,c1,c2,c3,c4,c5,j⟩:=f i hi;exact ⟨b,off,g,⟨c0,c1,c2,c3,c4,c5⟩,j⟩
def cG {c:Code} {a:Act} {W:World} (F:World->Prop) (h:F W) (k:∀ wx,F wx->Code.wp P c Q a wx):Code.wp P c Q a W:=k _ h
def mq (w:World) (b:Nat) (T:TypeId) (v:Value):Prop:=w.heap[b]? = some (Obj.cells #[v] T (0,0))
section
variable {w w':World} {b:Nat} {T:TypeId} {v:Value}
def mq.lt (h:mq w b T v):b<w.heap.size:=(zZ h).1
def mq.keep (h:mq w b T v) (g:w.grownBy w' r) (a:some b≠r):mq w' b T v:=by
 have c:=h.lt;unfold mq at h ⊢;rw [g.block b c a,h]
def mq.cells (h:mq w b T v):w.cell? ⟨b,0,none⟩=some v/\w.frozen? ⟨b,0,none⟩=false:=by
 unfold mq at h;exact ⟨by simp [World.cell?,h],by simp [World.frozen?,h]⟩
def mq.set {a:Option Addr} {l c:Nat} (h:mq w b T (.slice a l c)) (x:Value):mq (w.setCell ⟨b,0,none⟩ x) b T x/\aK w (w.setCell ⟨b,0,none⟩ x) b:=by
 unfold mq at h ⊢;exact ⟨by rw [heap_setCell_same w b 0 _ _ _ h];rfl,aK.set h (fun y e=>by simp at e) _⟩
end
def eC (n:Nat) (p:Nat×Nat):Value:=.slice (some ⟨p.1,0,none⟩) n p.2
def bW (bs cs:Nat->Nat) (i:Nat):List (Nat×Nat):=(List.range i).map (fun j=>(bs j,cs j))
def cT (f:Nat->Nat) (i g:Nat):Nat->Nat:=fun j=>if j=i then g else f j
def bB (bs cs:Nat->Nat) (i:Nat):(bW bs cs i).length=i:=by simp [bW]
def sI (bs cs:Nat->Nat) (i g c:Nat):bW bs cs i++[(g,c)]=bW (cT bs i g) (cT cs i c) (i+1):=by
 unfold bW;rw [List.range_succ,List.map_append];congr 1
 ·refine List.map_congr_left (fun j a=>?_);have:j≠i:=by have:=List.mem_range.1 a;omega
  simp [cT,this]
 ·simp [cT]
def Tryz.infoRow:(Tryz.prog.info? 79).map (fun i=>(i.zero,i.size,i.bytes))=some (some (.slice none 0 0),1,24):=zK
structure sX (w:World) (base n i:Nat) (bs cs:Nat->Nat) (R:Nat->Nat->Rat) (L:Nat):Prop where
 low:∀ j,j<i->base<=bs j
 cap:∀ j,j<i->n<=cs j/\cs j<=maxLen
 row:∀ j,j<i->aJ w (bs j) n (R j) L
 inj:∀ j k,j<i->k<i->bs j=bs k->j=k
def sX.nil (w:World) (base n:Nat) (bs cs:Nat->Nat) (R:Nat->Nat->Rat) (L:Nat):sX w base n 0 bs cs R L:=⟨fun j h=>O,fun j h=>O,fun j h=>O,fun j k h=>O⟩
def sX.keep0 (h:sX w base n i bs cs R L) (g:w.grownBy w' none):sX w' base n i bs cs R L:=⟨h.low,h.cap,fun j a=>(h.row j a).keep0 g,h.inj⟩
def sX.keepB (h:sX w base n i bs cs R L) (g:aK w w' b) (hb:∀ j,j<i->bs j≠b):sX w' base n i bs cs R L:=⟨h.low,h.cap,fun j a=>(h.row j a).keep g.1 g.2 (fun e=>hb j a (zJ e)),h.inj⟩
def sX.put {g c:Nat} (h:sX w base n i bs cs R L) (p:base<=g) (s:n<=c) (t:c<=maxLen) (u:aJ w g n (R i) L) (f:∀ j,j<i->bs j≠g):sX w base n (i+1) (cT bs i g) (cT cs i c) R L:=by
 refine ⟨fun j d=>?_,fun j d=>?_,fun j d=>?_,fun j k d x e=>?_⟩
 ·unfold cT;split
  ·exact p
  ·exact h.low j O
 ·unfold cT;split
  ·exact ⟨s,t⟩
  ·exact h.cap j O
 ·unfold cT;split
  ·rename_i e;rw [e];exact u
  ·exact h.row j O
 ·unfold cT at e;by_cases l:j=i
  ·rw [if_pos l] at e;by_cases a:k=i
   ·omega
   ·rw [if_neg a] at e;exact absurd e.symm (f k O)
  ·rw [if_neg l] at e;by_cases a:k=i
   ·rw [if_pos a] at e;exact absurd e (f j O)
   ·rw [if_neg a] at e;exact h.inj j k O O e
def cV.ne_row {t:TypeId} {Q:Nat->Rat} (h:cV (eC n) t w base v (bW bs cs i)) (hi:0<i) (j:aJ w b k Q L) (l:0<k):some b≠v.ownBlock:=by
 intro e;obtain ⟨s,cap,rfl,_,_,p⟩:=h.1.row;obtain ⟨u,off,d,_,c⟩:=p 0 (by rw [bB];exact hi);rw [d] at e;simp only [Value.ownBlock,zI] at e;rcases h.1.2 with ⟨a,_⟩ | ⟨g,f,cur,a,_⟩
 ·rw [d] at a;simp at a
 ·rw [d] at a;simp only [Value.slice.injEq,zI,Addr.mk.injEq] at a;rw [a.1.2.1,Nat.zero_add] at c;exact j.ne_slice l c e
def cV.mat {t:TypeId} (h:cV (eC n) t w base v (bW bs cs m)) (p:0<m) (hn:0<n) (a:sX w base n m bs cs R L) :
  ∃ br cap,v=.slice (some ⟨br,0,none⟩) m cap/\base<=br/\m<=cap/\cap<=maxLen/\bU w br m n bs cs R L:=by
 have c:=fun j (hj:j<m)=>h.ne_row p (a.row j hj) hn
 rcases h.1.2 with ⟨_,s⟩ | ⟨g,cap,cur,e,hb,hh,f,u,y,l⟩
 ·rw [bB] at s;omega
 ·rw [bB] at e f l;refine ⟨g,cap,e,hb,f,u,⟨⟨cur,t,hh,fun i hi=>?_⟩,a.cap,a.row,a.inj,fun i hi x=>c i hi (by rw [e,x];rfl)⟩⟩;have d:(cur.toList.take (m*1))[i]? = ((bW bs cs m).map (eC n))[i]?:=by rw [l]
  rw [List.getElem?_take,if_pos O,Array.getElem?_toList] at d;rw [d];simp [bW,eC,hi]
def iW {w1:World} {g c:Nat} {v1:Value} {t:TypeId} (h:cV (eC n) t w base v (bW bs cs i)) (hn:0<n) (a:sX w base n i bs cs R L)
  (h2:n<=c) (h3:c<=maxLen) (h4:aJ w g n (R i) L) (h1:base<=g) (h5:∀ j,j<i->bs j≠g) (hv:v.ownBlock≠some g) (hg:w.grownBy w1 v.ownBlock) (hk:aO w w1) (ho:cV (eC n) t w1 base v1 (bW bs cs i++[(g,c)])) :
  cV (eC n) t w1 base v1 (bW (cT bs i g) (cT cs i c) (i+1))/\sX w1 base n (i+1) (cT bs i g) (cT cs i c) R L:=by
 rw [sI] at ho;refine ⟨ho,sX.put ⟨a.low,a.cap,fun j d=>(a.row j d).keep hg hk (h.ne_row O (a.row j d) hn),a.inj⟩ h1 h2 h3 (h4.keep hg hk (fun e=>hv e.symm)) h5⟩
def dD (R:Nat->Nat->Rat) (o:Nat->Nat) (Y:Nat->Rat) (d:Rat) (m t:Nat):Nat->Rat
 | 0=>d*R t m
 | i+1=>dD R o Y d m t i-R t (o (t+1+i))*Y (o (t+1+i))
section
variable {P:Program} {ops:Array Oper} {Q:Exit->Act->World->Prop} {md:Region.Mode} {S:World->Prop}
def on2 {N:Nat} {l:Array Bool} {a:Act} (m i j:Nat)
  (h:∀ K':Act->World->Prop,Shut (∀ a w,S w->(S w->wpAnyH P md ops Q S m (l.setIfInBounds i true) a w)->K' a w)->if Region.wanted (ax ops i) (yielded ops a.tmps)=true then Oper.wp P (ax ops i) a w K' Q else K' (a.put (ax ops i).dst undef) w)
  (h2:∀ K':Act->World->Prop,Shut (∀ a w,S w->(S w->wpAnyH P md ops Q S m (l.setIfInBounds j true) a w)->K' a w)->if Region.wanted (ax ops j) (yielded ops a.tmps)=true then Oper.wp P (ax ops j) a w K' Q else K' (a.put (ax ops j).dst undef) w)
  (hr:Region.ready md ops l=[i,j]:=by kernel_rfl) (hm:N=m+1:=by kernel_rfl) (ho:(ops[i]?).isSome=true:=by kernel_rfl) (ho2:(ops[j]?).isSome=true:=by kernel_rfl):wpAnyH P md ops Q S N l a w :=
 hm▸wpAnyH_ready hr (List.cons_ne_nil _ _) (AllReadyH.cons (dG ho) h (AllReadyH.cons (dG ho2) h2 AllReadyH.nil))
end
def Ff (a b:Rat):a=a-0*b:=by grind
structure CG (R:Nat->Nat->Rat) (o ip:Nat->Nat) (Y:Nat->Rat) (d:Rat) (m L LS:Nat):Prop where
 ot:∀ t,t<m->o t<m/\ip (o t)=t
 oj:∀ j,j<m->ip j<m/\o (ip j)=j
 sum:∀ t,t<m->∀ i,t+1+i<=m->bh LS (dD R o Y d m t i)
 piv:∀ t,t<m->R t (o t)≠0/\dD R o Y d m t (m-(t+1)) / R t (o t)=Y (o t)
 ys:∀ j,j<m->bh L (Y j)
 xs:∀ j,j<m->bh L (Y j / d)
def rq (ip:Nat->Nat) (Y:Nat->Rat) (q:Nat):Nat->Rat:=fun j=>if q<=ip j then Y j else 0
def nY (Y:Nat->Rat) (d:Rat) (i:Nat):Nat->Rat:=fun j=>if j<i then Y j / d else Y j
def Bg (Y:Nat->Rat) (d:Rat) (i j:Nat):aN (nY Y d i) i (Y i / d) j=nY Y d (i+1) j:=by
 unfold aN nY;by_cases h:j=i
 ·rw [if_pos h,if_pos O,h]
 ·rw [if_neg h];by_cases a:j<i
  ·rw [if_pos a,if_pos O]
  ·rw [if_neg a,if_neg O]
def gd {a:World} {c:World} (h:a.grownBy c none:=by first | exact aS _ | exact aC | exact ae _ _ | exact ag (aS _) _ | exact ag aC _ | exact ak (ag (ae _ _) _) 1 | exact ak (ag (ae _ _) _) _):a.grownBy c none:=h
def gk {a c:World} (g:w.grownBy a none) (h:a.grownBy c none:=by exact gd):w.grownBy c none:=aa g h
def EJ {a:Nat->Nat} {Y:Nat->Rat} {d:Rat} {f:Nat} (h:CG R o a Y d m L f) (t:Nat) (g:t<m) (j:Nat) (l:j<m) :
  aN (rq a Y (t+1)) (o t) (Y (o t)) j=rq a Y t j:=by
 unfold aN rq;by_cases e:j=o t
 ·rw [if_pos e,e,(h.ot t g).2,if_pos O]
 ·rw [if_neg e];have hn:a j≠t:=fun p=>e (by rw [<- (h.oj j l).2,p])
  by_cases c:t+1<=a j
  ·rw [if_pos c,if_pos O]
  ·rw [if_neg c,if_neg O]
def BakR (W:World) (go m:Nat) (ip:Nat->Nat) (Y:Nat->Rat) (L:Nat) (v:Value) (wr:World):Prop :=
 ∃ q:Nat,q<=m/\v=.int .i64 ((q:Int)-1)/\aJ wr go m (rq ip Y q) L/\aK W wr go
def InnR (W:World) (gs:Nat) (R:Nat->Nat->Rat) (o:Nat->Nat) (Y:Nat->Rat) (d:Rat) (m t LS:Nat) (v:Value) (wr:World):Prop :=
 ∃ i:Nat,t+1+i<=m/\v=.int .i64 i/\aJ wr gs 1 (fun _=>dD R o Y d m t i) LS/\W.grownBy wr none
def LasR (W:World) (go m:Nat) (Y:Nat->Rat) (d:Rat) (L:Nat) (v:Value) (wr:World):Prop :=
 ∃ i:Nat,i<=m/\v=.int .i64 i/\aJ wr go m (nY Y d i) L/\aK W wr go
def BackE (w:World) (m:Nat) (X:Nat->Rat) (L:Nat) (e:Ending) (w':World):Prop:=∃ g,e=.returned (.slice (some ⟨g,0,none⟩) m m)/\w.heap.size<=g/\aJ w' g m X L/\w.grownBy w' none
attribute [local simp] fU bL eJ
def Bp (fb:Bool) (fo he:Option Addr) (fl fc hk hp:Nat) (br bo m cap co:Nat) (bs cs:Nat->Nat) (R:Nat->Nat->Rat) (o ip:Nat->Nat) (Y:Nat->Rat) (d:Rat) (lv:Value) (L z:Nat) (w:World)
  (hM:bU w br m (m+1) bs cs R L) (hO:cJ w bo m o) (hy:FQ w lv d L) (hH:CG R o ip Y d m L z) (hd:d≠0) (hm:m<=1000) (hc:m<=cap) (hc2:cap<=maxLen) (hco:m<=co) (hco2:co<=maxLen) (hL1:1<=L) (hL:L<=300000000) (hLS:L+L+1<=z) (hLS2:z<=100000000) :
  Calls Tryz.prog 146 #[(kh fb (.slice fo fl fc) (.slice he hk hp)),.slice (some ⟨br,0,none⟩) m cap,.slice (some ⟨bo,0,none⟩) m co,lv] w fun e w'=>BackE w m (fun j=>Y j / d) L e w':=by
 unfold maxLen at hc2 hco2;have HM:=ab hM;have HO:=ab hO;have HY:=ab hy;have C:=ab hH;have HD:=ab hd;have Hj:=hM.lt;have Hk:=hO.lt;obtain ⟨lo,I,lc,g,l,p,rfl⟩:=hy.shape;have S:Hid (∀ i,i<m->bs i<w.heap.size):=fun i hi=>(hM.row i hi).lt
 clear hM hO hy hH hd;obtain ⟨W,hW⟩:=eX ((w.alloc (Obj.cells #[.bool fb,.slice fo fl fc,.slice he hk hp,.func (.func 84) #[] #[],.func (.func 85) #[] #[],.func (.func 86) #[] #[],.func (.func 87) #[] #[],.func (.func 88) #[] #[],.func (.func 89) #[] #[],.func (.func 90) #[] #[],.func (.func 91) #[] #[]] 111)).alloc (Obj.cells #[.bool (rB d),.slice lo I lc,.slice g l p] 105));have GW:Hid (w.grownBy W none):=by rw [hW];exact ag (ag (ae _ _) _) _
 have hD:Hid (W.heap.size=w.heap.size+2):=by show _=_;rw [hW];simp
 have D:Hid (fU W w.heap.size/\bL W (w.heap.size+1) (.bool (rB d)) (.slice lo I lc) (.slice g l p)):=by
  have h2:=aH (ae W none |> fun h=>by rw (occs:=.pos [1]) [hW] at h;exact h);rw [show ∀ o,(w.alloc o).heap.size=w.heap.size+1 from fun _=>by simp] at h2;exact ⟨(kC fb fo he fl fc hk hp (by rw [hW];exact ag (ae _ _) _)).1,h2⟩
 go_enter Tryz.func146,Tryz.ntmps146
 go_upto_region 1 with fail;rw [<- hW];clear hW;go_wp2_with (at_make;refine lR _ rfl _ _ 79 rfl Tryz.underlying79 Tryz.infoF _ _ _ _ m rfl rfl O O O ?_)
 intro w1 hA hB;generalize hgo:W.heap.size=go at hA;have f:Hid (go=w.heap.size+2):=by show _=_;rw [<- hgo];exact hD
 have F1:=ab hA;have G1:=ab hB;have s:Hid (∀ wx,w1.grownBy wx (some go)->fU wx w.heap.size/\bL wx (w.heap.size+1) (.bool (rB d)) (.slice lo I lc) (.slice g l p)):=by
  intro wx hg;exact ⟨(D.1.k0 G1).k hg (fun e=>by have:=zJ e;have:=f.out;omega),(D.2.k0 G1).k hg (fun e=>by have:=zJ e;have:=f.out;omega)⟩
 have GA:=ab (aa GW hB);have hE:Hid (w.heap.size+2<=w1.heap.size):=by show _<=_;have:=G1.out.size;have:=hD.out;omega
 have M1:=ab (HM.keep0 GA);have O1:=ab (HO.keep GA Z);have Y1:=ab (HY.keep0 GA);have hF:IntKind.i64.wrap ((m:Int)-1)=(m:Int)-1:=IntWalk.i64_in _ ⟨O,O⟩;clear hA hB hgo HM HO HY D;go_wp2;go_loopw [10] (fun v wr=>Hid (BakR w1 go m ip Y L v wr)) (fun v _=>(intOf v+1).toNat)
 case atStart =>
  refine ⟨m,zL,by first | rfl | (rw [hF]),?_,aK.refl _ _⟩;refine (F1.mono (Nat.zero_le _)).congr (fun j hj=>?_);unfold rq;rw [if_neg (by have:=(C.oj j hj).1;omega)]
 case round =>
  obtain ⟨q,hq,rfl,l1,l2⟩:=hrel.out;have L1:=ab l1;have M:=ab l2;clear l1 l2 hrel F1;by_cases hG:q=0
  ·subst hG;rw [show ((0:Nat):Int)-1 = -1 from rfl];go_wp2;go_loopw [92] (fun v wx=>Hid (LasR w1 go m Y d L v wx)) (fun v _=>m-(intOf v).toNat)
   case atStart=>exact ⟨0,O,rfl,L1.congr (fun j _=>by unfold rq nY;rw [if_pos O,if_neg O]),M⟩
   case round =>
    obtain ⟨i,hi,rfl,l1,l2⟩:=hrel.out;have K1:=ab l1;have y:=ab l2;clear l1 l2 hrel L1 M;by_cases hlt:i<m
    ·obtain ⟨uo,ul,uc,hT,dl,dc,c0,c1,c2,c3,_⟩:=K1.out.at i hlt;have hI:nY Y d i i=Y i:=by unfold nY;rw [if_neg O]
     rw [hI] at c0 c3;have C3:=ab c3;clear c3 hI;go_upto_region 17 with fail;obtain ⟨w2,T⟩:=eX (wr.alloc (Obj.cells #[.bool (rB (Y i)),.slice uo ul uc,.slice hT dl dc] 105));have G2:Hid (wr.grownBy w2 none):=by rw [T];exact ag (ae _ _) _
     have XC:Hid (∀ wx,w2.grownBy wx none->bL wx wr.heap.size (.bool (rB (Y i))) (.slice uo ul uc) (.slice hT dl dc)):=by
      intro wx hg;rw [T] at hg;exact aH hg
     rw [<- T];clear T c0 c1 c2;have x0:=XC.out w2 (ae _ _);have hs:=ab (y.gr G2);have s0:=s.out w2 hs.1;go_wp2_with fail;refine (qu _ _ (Y i) d L L _ (C3.keep0 G2) (Y1.kept hs.2) HD O).mono ?_;rintro e w4 ⟨v4,rfl,p1,p2⟩;have F4:=ab ((K1.keep0 G2).keep0 p2);have P1:=ab (p1.tight (C.xs i hlt));obtain ⟨ao,al,ac,A,bl,bc,rfl⟩:=p1.shape;have L4:=ab (hs.gr p2);obtain ⟨_,_,_,_,_,_,d0,d1,d2,_,df⟩:=F4.out.at i hlt;have Hl:=df (i*3);have Hm:=df (i*3+1);have Hn:=df (i*3+2);clear p1 p2 df x0 s0;go_wp2;go_roundw
     case rel =>
      obtain ⟨r1,r2,r3⟩:=F4.out.set i hlt P1;exact ⟨i+1,O,zN,r1.congr (fun j _=>Bg Y d i j),L4.trans ⟨r2,r3⟩⟩
     case measure=>exact bH
    ·obtain rfl:i=m:=O
     go_wp2;refine bodyPost_ret (v:=.slice (some ⟨go,0,none⟩) i i) (by simp [results,Tryz.results146,go_sem]) rfl ?_;refine ⟨go,rfl,by have:=f.out;omega,K1.congr (fun j hj=>by unfold nY;rw [if_pos hj]),?_⟩;exact aw (r:=none) GA y.1 (fun _ _ e=>e) (fun b hb e=>by have:=zJ e;have:=f.out;omega)
  ·obtain ⟨t,rfl⟩:∃ t,q=t+1:=⟨q-1,O⟩;have hJ:((t+1:Nat):Int)-1=(t:Int):=O
   rw [hJ];have a:t<m:=O
   clear hG hJ;have MM:=ab (M1.keepR M (by have:=f.out;omega) (fun i hi=>by have:=S.out i hi;have:=f.out;omega));have OO:=ab (O1.keep M.1 (fun e=>by have:=zJ e;have:=f.out;omega));have YY:=ab (Y1.kept M.2);have ct:=(MM.cell t a).1;obtain ⟨Hh,hX⟩:=MM.out.cap t a;unfold maxLen at hX;obtain ⟨xo,xl,xc,yo,yl,yc,c0,c1,c2,c3,_⟩:=(MM.row t a).at m O;have X3:=ab c3;have kw:=ab (C.sum t a 0 O);have N:Hid (∀ wx,wr.grownBy wx none->fU wx w.heap.size/\bL wx (w.heap.size+1) (.bool (rB d)) (.slice lo I lc) (.slice g l p)/\eJ wx (bs t) m (.bool (rB (R t m))) (.slice xo xl xc) (.slice yo yl yc)):=by
    intro wx hg;have s0:=s.out wx (M.gr hg).1;exact ⟨s0.1,s0.2,(show eJ _ _ _ _ _ _ from ⟨c0,c1,c2⟩).k0 hg⟩
   clear c0 c1 c2 c3;have GG:wr.grownBy wr none:=ae _ _;have s0:=N.out wr GG;have mp:w.heap.size+2<=wr.heap.size:=by have:=hE.out;have:=M.out.1.size;omega
   have Ho:wr.heap.size≠w.heap.size:=O
   have Hp:wr.heap.size≠w.heap.size+1:=O
   have Hq:wr.heap.size≠bs t:=by have:=S.out t a;omega
   have ms:(0:Int)<=(m:Int):=O
   have mt:(m:Int)<(m:Int)+1:=O
   go_wp2;go_cut [12] (fun s12 wx=>Hid (∃ gs,s12=.pointer (some ⟨gs,0,none⟩)/\wr.heap.size<=gs/\aJ wx gs 1 (fun _=>dD R o Y d m t 0) z/\wr.grownBy wx none))
   case first =>
    go_region_held3 (fun w'=>fU w' w.heap.size/\bL w' (w.heap.size+1) (.bool (rB d)) (.slice lo I lc) (.slice g l p)/\eJ w' (bs t) m (.bool (rB (R t m))) (.slice xo xl xc) (.slice yo yl yc)) (go_keep)
     (first | (go_at_call 87;refine (fS _ _ d (R t m) L L _ (YY.keep0 (gk GG)) (X3.keep0 (gk GG)) O).mono ?_;rintro e wx ⟨vx,rfl,px,gv⟩;have px:=px.mono (show L+L+1<=z by omega);obtain ⟨po,pl,pc,qo,ql,qc,rfl⟩:=px.shape;have GG:wr.grownBy wx none:=aa (gk GG) gv;have x0:=N.out wx GG;(try (have gy:=aa (ak (ae (wr.alloc (Obj.cells #[.bool false,.slice none 0 0,.slice none 0 0] 105)) none) 1) gv;obtain ⟨HA,HB,HC,U⟩:=aW gy;have Ha:=U 0;have Hb:=U 1;have Hc:=U 2;clear U))))
    all_goals (go_wp2_with fail;go_meet;first
     | exact ⟨_,rfl,GG.size,m9 (px.keep0 (by exact gd)),ag (gx GG) _⟩
     | exact ⟨_,rfl,zL,pn gy px,ah (ah (ah GG _ _ zL) _ _ zL) _ _ zL⟩)
   case rest =>
    obtain ⟨gs,rfl,hC,f2,g2⟩:=hcut.out;have F2:=ab f2;have G2:=ab g2;clear hcut f2 g2 GG s0;have kz:IntKind.i64.wrap ((t:Int)+1)=(t:Int)+1:=IntWalk.i64_in _ ⟨O,O⟩;have kF:(0:Int)<=(t:Int)+1:=O
    have kH:(t:Int)+1<=(m:Int):=O
    clear N X3 kw ct;go_upto_region 7 with fail;go_cut [43,44,45] (fun s43 s44 s45 wx=>Hid (∃ off c,s43=.slice (some ⟨bo,off,none⟩) (m-(t+1)) c/\m-(t+1)<=c/\c<=9223372036854775807/\(t+1<m->off=t+1)/\s44=.int .i64 ((m-(t+1):Nat):Int)/\s45=.int .i64 0/\aJ wx gs 1 (fun _=>dD R o Y d m t 0) z/\wr.grownBy wx none))
    case first =>
     by_cases E:co=t+1
     ·have Hr:(co=t+1)=True:=eq_true E;have hN:=ab E;clear E;go_wp2
      all_goals (go_meet;exact ⟨_,_,rfl,by have:=hN.out;omega,O,fun h=>absurd h (by have:=hN.out;omega),rfl,rfl,F2,G2⟩)
     ·have Hs:(co=t+1)=False:=eq_false E;clear E;go_wp2
      all_goals (go_meet;exact ⟨_,_,rfl,O,O,fun _=>rfl,rfl,rfl,F2,G2⟩)
    case rest =>
     obtain ⟨off,c,rfl,HE,Hi,hY,rfl,rfl,f3,g3⟩:=hcut.out;have F3:=ab f3;have G3:=ab g3;have F:Hid (w.heap.size+2<=gs/\gs≠go):=⟨O,by have:=L1.out.lt;omega⟩;clear hcut f3 g3 F2 G2 kz kF kH;go_wp2;go_loopw [45] (fun v wx=>Hid (InnR wr gs R o Y d m t z v wx)) (fun v _=>m-(intOf v).toNat)
     case atStart=>exact ⟨0,O,rfl,F3,G3⟩
     case round =>
      obtain ⟨i,hi,rfl,k1,k2⟩:=hrel.out;have K1:=ab k1;have y:=ab k2;clear k1 k2 hrel F3 G3;obtain ⟨so,sl,sc,V,tl,tc,ka,kb,kf,S3,mm⟩:=K1.out.var;have SQ:=ab S3;have hw:Hid (∀ wx,wr.grownBy wx none->aJ wx gs 1 (fun _=>dD R o Y d m t i) z/\bL wx gs (.bool (rB (dD R o Y d m t i))) (.slice so sl sc) (.slice V tl tc)/\∀ k,wx.frozen? ⟨gs,k,none⟩=false):=by
       intro wx hg;have hr:=K1.out.keep0 hg;obtain ⟨_,_,_,_,_,_,_,_,_,_,hf⟩:=hr.var;exact ⟨hr,(show bL _ _ _ _ _ from ⟨ka,kb,kf⟩).k0 hg,hf⟩
      clear ka kb kf S3 mm;by_cases hlt:t+1+i<m
      ·obtain rfl:off=t+1:=hY O;obtain ⟨u,hu⟩:=eX (o (t+1+i));have kN:u<m:=by rw [hu];exact (C.ot _ hlt).1
       have kS:ip u=t+1+i:=by rw [hu];exact (C.ot _ hlt).2
       have oc:=(OO.keep y Z).at (t+1+i) hlt;rw [<- hu] at oc;have qa:Hid (bh z (dD R o Y d m t i-R t u*Y u)):=by rw [hu];exact C.sum t a (i+1) O
       have hQ:Hid (dD R o Y d m t (i+1)=dD R o Y d m t i-R t u*Y u):=by show _=_;rw [hu];rfl
       obtain ⟨ao,al,ac,A,bl,bc,c0,c1,c2,c3,_⟩:=((MM.row t a).keep0 y).at u O;obtain ⟨jo,jl,jc,ko,kl,kc,e0,e1,e2,e3,_⟩:=(L1.keep0 y).at u kN;have hR:rq ip Y (t+1) u=Y u:=by unfold rq;rw [if_pos O]
       rw [hR] at e0 e3;have C3:=ab c3;have E3:=ab e3;have N:Hid (∀ wx,wr.grownBy wx none->fU wx w.heap.size/\bL wx (w.heap.size+1) (.bool (rB d)) (.slice lo I lc) (.slice g l p)/\eJ wx (bs t) u (.bool (rB (R t u))) (.slice ao al ac) (.slice A bl bc)/\eJ wx go u (.bool (rB (Y u))) (.slice jo jl jc) (.slice ko kl kc)):=by
        intro wx hg;have s0:=s.out wx (M.gr (aa y hg)).1;exact ⟨s0.1,s0.2,(show eJ _ _ _ _ _ _ from ⟨c0,c1,c2⟩).k0 hg,(show eJ _ _ _ _ _ _ from ⟨e0,e1,e2⟩).k0 hg⟩
       clear c0 c1 c2 c3 e0 e1 e2 e3 hu hR kS;have GG:wr.grownBy wr none:=ae _ _;have s0:=N.out wr GG;have Ht:i<m-(t+1):=O
       have Hd:u<m+1:=O
       have He:(u:Int)<(m:Int)+1:=O
       have Hf:(0:Int)<=(u:Int):=O
       have Hg:(u:Int)<(m:Int):=O
       go_wp2;go_cut [56] (fun s56 wx=>Hid (s56=.bool (!(decide (R t u=0)))/\wr.grownBy wx none))
       case first =>
        go_region_held3 (fun w'=>fU w' w.heap.size/\bL w' (w.heap.size+1) (.bool (rB d)) (.slice lo I lc) (.slice g l p)/\eJ w' (bs t) u (.bool (rB (R t u))) (.slice ao al ac) (.slice A bl bc)/\eJ w' go u (.bool (rB (Y u))) (.slice jo jl jc) (.slice ko kl kc)) (go_keep)
         (first | (go_at_call 89;refine (bA _ (R t u) L _ (C3.keep0 (gx GG))).mono ?_;rintro e wa ⟨rfl,ga⟩;have GG:wr.grownBy wa none:=aa (gx GG) ga;have a0:=N.out wa GG))
        all_goals (go_wp2_with fail;go_meet;exact ⟨rfl,(gx GG)⟩)
       case rest =>
        obtain ⟨rfl,g4⟩:=hcut.out;have X:=ab g4;clear hcut g4 GG s0;by_cases hz:R t u=0
        ·have G:(!(decide (R t u=0)))=false:=by simp [hz]
         rw [G];have HZ:=ab hz;clear hz G;go_wp2;go_roundw
         case rel =>
          refine ⟨i+1,O,zN,(hw _ X).1.congr (fun _ _=>?_),aa y X⟩;rw [hQ,HZ];exact Ff _ _
         case measure=>exact bH
        ·have G:(!(decide (R t u=0)))=true:=by simp [hz]
         rw [G];clear hz G;have hx:Hid (∀ wx,wc.grownBy wx none->fU wx w.heap.size/\bL wx (w.heap.size+1) (.bool (rB d)) (.slice lo I lc) (.slice g l p)/\eJ wx (bs t) u (.bool (rB (R t u))) (.slice ao al ac) (.slice A bl bc)/\eJ wx go u (.bool (rB (Y u))) (.slice jo jl jc) (.slice ko kl kc)):=fun wx hg=>N wx (aa X hg)
         have H:Hid (∀ wx,wc.grownBy wx none->aJ wx gs 1 (fun _=>dD R o Y d m t i) z/\bL wx gs (.bool (rB (dD R o Y d m t i))) (.slice so sl sc) (.slice V tl tc)/\∀ k,wx.frozen? ⟨gs,k,none⟩=false):=fun wx hg=>hw wx (aa X hg)
         have qb:gs≠w.heap.size:=by have:=F.out.1;omega
         have qf:gs≠w.heap.size+1:=by have:=F.out.1;omega
         have qq:gs≠bs t:=by have:=F.out.1;have:=S.out t a;omega
         have qs:gs≠go:=F.out.2;have GG:wc.grownBy wc none:=ae _ _;have s0:=hx.out wc GG;obtain ⟨sr,t0,B⟩:=H.out wc GG;clear sr B;go_wp2;refine hd (fun w'=>fU w' w.heap.size/\bL w' (w.heap.size+1) (.bool (rB d)) (.slice lo I lc) (.slice g l p)/\eJ w' (bs t) u (.bool (rB (R t u))) (.slice ao al ac) (.slice A bl bc)/\eJ w' go u (.bool (rB (Y u))) (.slice jo jl jc) (.slice ko kl kc)) (fun hHeld=>?_);refine tk 4 [(0,57,.pointer (some ⟨w.heap.size,5,none⟩)),(1,58,.func (.func 86) #[] #[]),(3,60,.pointer (some ⟨w.heap.size,6,none⟩)),(4,61,.func (.func 87) #[] #[]),(5,62,.slice (some ⟨bs t,0,none⟩) (m+1) (cs t)),(6,63,.int .i64 (u:Nat)),(7,64,.pointer (some ⟨bs t,u*3,none⟩)),(8,65,Value.agg #[.bool (rB (R t u)),.slice ao al ac,.slice A bl bc]),(9,66,.slice (some ⟨go,0,none⟩) m m),(10,67,.int .i64 (u:Nat)),(11,68,.pointer (some ⟨go,u*3,none⟩)),(12,69,Value.agg #[.bool (rB (Y u)),.slice jo jl jc,.slice ko kl kc])] ?_;try simp only [zU]
         refine on2 3 2 13 (fun K x=>?zp) (fun K x=>?zq)
         case' zp =>
          have zM:=True.intro;simp only [ax,q4,q5,q6,q7];go_simp
          refine bk x (fun hHeld=>?_);clear x K;try simp only [zU]
          refine cX 2 13 (fun K x=>?_)
         all_goals
          simp only [ax,q4,q5,q6,q7];go_simp
          go_at_call 87
          refine (fS _ _ (R t u) (Y u) L L _ (C3.keep0 (aa X (gx GG))) (E3.keep0 (aa X (gx GG))) O).mono ?_;rintro e wa ⟨va,rfl,pa,ga⟩;obtain ⟨po,pl,pc,qo,ql,qc,rfl⟩:=pa.shape;have GG:wc.grownBy wa none:=aa (gx GG) ga;have a0:=hx.out wa GG;obtain ⟨sr,ta,B⟩:=H.out wa GG;clear sr B;go_wp2_with fail;refine bk x (fun hHeld=>?_);clear x K;try simp only [zU]
          first
           | (have:=zM;refine cX 1 14 (fun K x=>?_))
           | (refine cX 2 2 (fun K x=>?_);simp only [ax,q4,q5,q6,q7];go_simp;refine bk x (fun hHeld=>?_);clear x K;(try simp only [zU]);refine cX 1 14 (fun K x=>?_))
          simp only [ax,q4,q5,q6,q7];go_simp
          go_at_call 86
          refine (dK _ _ (dD R o Y d m t i) (R t u*Y u) z (L+L+1) _ (SQ.keep0 (aa X (gx GG))) (pa.keep0 (by exact gd)) O).mono ?_;rintro e wm ⟨vm,rfl,pm,gm⟩;have pm:=pm.tight (L':=z) qa;obtain ⟨mo,ml,mc,no,nl,nc,rfl⟩:=pm.shape;have GG:wc.grownBy wm none:=aa (gx GG) gm;have b0:=hx.out wm GG;obtain ⟨sr,tb,B⟩:=H.out wm GG;have yn:=B 0;have yv:=B 1;have jg:=B 2;clear B;go_wp2_with fail;refine bk x (fun hHeld=>?_);clear x K;try simp only [zU]
          refine cX 0 15 (fun K x=>?_);simp only [ax,q4,q5,q6,q7];go_simp
          refine bk x (fun hHeld=>?_);clear x K;refine wpAnyH_done zK ?_ _;have SR:=ab sr;have PM:=ab pm;have GF:=ab (aa y (aa X GG));clear sr pm GG;go_wp2;go_roundw
          case rel =>
           refine ⟨i+1,O,zN,?_,ah (ah (ah GF _ _ hC) _ _ hC) _ _ hC⟩;rw [hQ];exact SR.varset PM zL
          case measure=>exact bH
      ·obtain rfl:i=m-(t+1):=O
       obtain ⟨J,_⟩:=C.out.ot t a;obtain ⟨v,hv⟩:=eX (o t);have oc:=(OO.keep y Z).at t a;rw [<- hv] at oc J;obtain ⟨eo,el,ec,ho,hl,kk,c0,c1,c2,c3,_⟩:=((MM.row t a).keep0 y).at v O;obtain ⟨jo,jl,jc,ko,kl,kc,e0,e1,e2,e3,ef⟩:=(L1.keep0 y).at v J;have C3:=ab c3;have jk:Hid (R t v≠0):=by rw [hv];exact (C.piv t a).1
       have jp:Hid (dD R o Y d m t (m-(t+1)) / R t v=Y v):=by show _=_;rw [hv];exact (C.piv t a).2
       have jv:Hid (bh L (Y v)):=C.out.ys v J;have HV:=ab hv;have N:Hid (∀ wx,wr.grownBy wx none->fU wx w.heap.size/\bL wx (w.heap.size+1) (.bool (rB d)) (.slice lo I lc) (.slice g l p)/\eJ wx (bs t) v (.bool (rB (R t v))) (.slice eo el ec) (.slice ho hl kk)/\bL wx gs (.bool (rB (dD R o Y d m t (m-(t+1))))) (.slice so sl sc) (.slice V tl tc)/\wx.cell? ⟨bo,t,none⟩=some (.int .i64 ((v:Nat):Int))):=by
        intro wx hg;have s0:=s.out wx (M.gr (aa y hg)).1;exact ⟨s0.1,s0.2,(show eJ _ _ _ _ _ _ from ⟨c0,c1,c2⟩).k0 hg,(hw wx hg).2.1,hg.cell oc Z⟩
       have md:Hid (∀ wx,wr.grownBy wx none->aJ wx go m (rq ip Y (t+1)) L/\eJ wx go v (.bool (rB (rq ip Y (t+1) v))) (.slice jo jl jc) (.slice ko kl kc)/\∀ k,wx.frozen? ⟨go,k,none⟩=false):=by
        intro wx hg;have hr:=(L1.keep0 y).keep0 hg;obtain ⟨_,_,_,_,_,_,_,_,_,_,hf⟩:=hr.at v J;exact ⟨hr,(show eJ _ _ _ _ _ _ from ⟨e0,e1,e2⟩).k0 hg,hf⟩
       clear c0 c1 c2 c3 e0 e1 e2 e3 ef hv oc;have GG:wr.grownBy wr none:=ae _ _;have s0:=N.out wr GG;have qb:go≠w.heap.size:=by have:=f.out;omega
       have qf:go≠w.heap.size+1:=by have:=f.out;omega
       have qq:go≠bs t:=by have:=f.out;have:=S.out t a;omega
       have qs:go≠gs:=fun e=>F.2 e.symm
       have Hu:go≠bo:=by have:=f.out;omega
       have Hv:(v:Int)<(m:Int)+1:=O
       have Hw:(0:Int)<=(v:Int):=O
       have Hx:(v:Int)<(m:Int):=O
       have Hy:(t:Int)<(m:Int):=O
       have Hz:(0:Int)<=(t:Int):=O
       have hS:IntKind.i64.wrap ((t:Int)-1)=(t:Int)-1:=IntWalk.i64_in _ ⟨O,O⟩;go_wp2;go_region_held3 (fun w'=>fU w' w.heap.size/\bL w' (w.heap.size+1) (.bool (rB d)) (.slice lo I lc) (.slice g l p)/\eJ w' (bs t) v (.bool (rB (R t v))) (.slice eo el ec) (.slice ho hl kk)/\bL w' gs (.bool (rB (dD R o Y d m t (m-(t+1))))) (.slice so sl sc) (.slice V tl tc)/\w'.cell? ⟨bo,t,none⟩=some (.int .i64 ((v:Nat):Int))) (go_keep)
        (first | (go_at_call 88;refine (qu _ _ (dD R o Y d m t (m-(t+1))) (R t v) z L _ (SQ.keep0 (gx GG)) (C3.keep0 (gx GG)) jk O).mono ?_;rintro e wy ⟨vy,rfl,py,gy⟩;rw [jp] at py;have py:=py.tight (L':=L) jv;obtain ⟨mo,ml,mc,no,nl,nc,rfl⟩:=py.shape;have GG:wr.grownBy wy none:=aa (gx GG) gy;have b0:=N.out wy GG;obtain ⟨fr,t0,B⟩:=md.out wy GG;have yn:=B (v*3);have yv:=B (v*3+1);have jg:=B (v*3+2);clear B))
       all_goals
        have FR:=ab fr;have PY:=ab py;have GF:=ab (aa y GG);clear fr py GG;go_wp2;go_roundw
        case rel =>
         obtain ⟨r1,r2,r3⟩:=FR.out.set v J PY;refine ⟨t,O,by first | rfl | (rw [hS]),r1.congr (fun j hj=>?_),(M.gr GF).trans ⟨r2,r3⟩⟩;rw [HV];exact EJ C t a j hj
        case measure=>simp [intOf]<;>omega
def tB {M:Nat} (a:M<4294967296^L) (c:1<=L) (h:gY M q):bh L q:=by
 refine ⟨Nat.lt_of_le_of_lt h.2 a,?_⟩;rw [h.1];exact Nat.lt_of_lt_of_le (by decide:1<4294967296^1) (Nat.pow_le_pow_right zD c)
def quo_wh {M:Nat} {a c:Rat} (ha:gY M a) (hc:gY M c) (j:c≠0):rN (a / c)<=M/\(a / c).den<=M:=by
 have d:rN c≠0:=q_ne j;have e:=E6 a c;rw [ha.1,hc.1,Nat.mul_one,Nat.mul_one] at e;by_cases f:rN a=0
 ·rw [E8 f,Rat.div_def,Rat.zero_mul];have l:=hc.2;exact ⟨Nat.zero_le _,by show 1<=M;omega⟩
 ·obtain ⟨_,g,h⟩:=vM (rB a != rB c) (rN a) (rN c) f d;rw [e] at g h;refine ⟨?_,?_⟩
  ·unfold rN;rw [g];exact Nat.le_trans (Nat.div_le_self _ _) ha.2
  ·rw [h];exact Nat.le_trans (Nat.div_le_self _ _) hc.2
def mE {M:Nat} {a c:Rat} (d:M<4294967296^L) (ha:gY M a) (hc:gY M c) (e:c≠0):bh L (a / c):=by
 obtain ⟨f,g⟩:=quo_wh ha hc e;exact ⟨Nat.lt_of_le_of_lt f d,Nat.lt_of_le_of_lt g d⟩
def AV (R:Nat->Nat->Rat) (o:Nat->Nat) (Y:Nat->Rat) (d:Rat) (m t:Nat) (l:List Nat) (a:∀ i,i<l.length->l.getD i 0=o (t+1+i)):∀ k,k<=l.length ->
  dD R o Y d m t k=d*R t m-cB (fun v=>R t v*Y v) (l.take k):=by
 intro k;induction k with
 | zero =>
  intro _;rw [List.take_zero];show d*R t m=d*R t m-(0:Rat)
  grind
 | succ k ih =>
  intro f;show dD R o Y d m t k-R t (o (t+1+k))*Y (o (t+1+k))=_
  rw [ih O,List.take_add_one,zX O];have e:=a k O;rw [zW,zX O] at e;have c:l[k]=o (t+1+k):=e;rw [xe];show _=d*R t m-(cB (fun v=>R t v*Y v) (l.take k)+(R t l[k]*Y l[k]+(0:Rat)))
  rw [c];grind
def CW {Y:Nat->Rat} {d:Rat} {M:Nat} (a:∀ t,t<m->∀ j,gY M (R t j)) (g:∀ t,t<m->gY M (Y (o t))) (hd:gY M d) (t:Nat) (c:t<m):∀ i,t+1+i<=m ->
  gY ((i+1)*(M*M)) (dD R o Y d m t i):=by
 intro i;induction i with
 | zero =>
  intro _;have:=bJ.mul _ _ _ _ hd (a t c m);rw [Nat.zero_add,Nat.one_mul];exact this
 | succ i ih =>
  intro hi;have h:=ih O;have l:=bJ.neg _ _ (bJ.mul _ _ _ _ (a t c (o (t+1+i))) (g (t+1+i) O));have f:=bJ.add _ _ _ _ h l;have e:(i+1)*(M*M)+M*M=(i+1+1)*(M*M):=by rw [Nat.add_mul (i+1) 1,Nat.one_mul]
  rw [e] at f;show gY _ (dD R o Y d m t i-R t (o (t+1+i))*Y (o (t+1+i)))
  rw [Rat.sub_eq_add_neg];exact f
def back_of {W:Nat->Nat->Rat} {b:Nat->Nat} {x a:List Nat} {d s:Rat} (h:St W m m x a R d s) (G:0<m) (hb:∀ r,1<=b r) (E:∀ r j,gY (b r) (W r j))
  (hR:∀ t,t<m->∀ j,gY (dS m b) (R t j)) (L LS:Nat) (hL1:1<=L) (hM:dS m b<4294967296^L) (hLS1:1<=LS) (hS:(m+1)*(dS m b*dS m b)<4294967296^LS) :
  ∃ (y:Nat->Rat) (ip:Nat->Nat),oF W m y/\(∀ z,oF W m z->∀ j,j<m->z j=y j)/\CG R (fun t=>a.getD t 0) ip (fun j=>d*y j) d m L LS/\∀ j,d*y j / d=y j:=by
 obtain ⟨y,hy,l,J,C⟩:=st_full bJ h hb E;have hd:=st_wh_d bJ h G hb E;have A:d≠0:=h.dn;have H:=h.ol;have c:∀ j,∃ t,j<m->t<m/\a.getD t 0=j:=by
  intro j;by_cases f:j<m
  ·obtain ⟨t,ht,e⟩:=fy (h.om j f);exact ⟨t,fun _=>⟨O,e⟩⟩
  ·exact ⟨0,fun h=>absurd h f⟩
 obtain ⟨ip,p⟩:∃ ip:Nat->Nat,∀ j,j<m->ip j<m/\a.getD (ip j) 0=j:=⟨fun j=>Classical.choose (c j),fun j=>Classical.choose_spec (c j)⟩;have hlt:∀ t,t<m->a.getD t 0<m:=fun t ht=>h.ob _ (dp a t O)
 have B:∀ j,d*y j / d=y j:=by
  intro j;rw [Rat.mul_comm,Rat.mul_div_cancel A]
 have g:∀ j,j<m->gY (dS m b) (d*y j):=by
  intro j f;obtain ⟨u,D⟩:=p j f;have:=J (ip j) u;rw [D] at this;exact this
 refine ⟨y,ip,hy,l,⟨?_,p,?_,?_,?_,?_⟩,B⟩
 ·intro t ht;refine ⟨hlt t ht,?_⟩;obtain ⟨u,D⟩:=p _ (hlt t ht);exact h.oi _ _ u ht D
 ·intro t ht i hi;refine tB (Nat.lt_of_le_of_lt ?_ hS) hLS1 (CW hR (fun t ht=>g _ (hlt t ht)) hd t ht i hi);exact Nat.mul_le_mul O zL
 ·intro t ht;obtain ⟨u,D⟩:=C t ht;refine ⟨u,?_⟩;have F:(a.drop (t+1)).length=m-(t+1):=by rw [List.length_drop];omega
  have e:=AV R (fun t=>a.getD t 0) (fun j=>d*y j) d m t (a.drop (t+1)) (fun i _=>by
   rw [zW,List.getElem?_drop,<- zW]) (m-(t+1)) O
  rw [zT O] at e;have I:dD R (fun t=>a.getD t 0) (fun j=>d*y j) d m t (m-(t+1))=d*y (a.getD t 0)*R t (a.getD t 0):=by rw [e];exact D
  rw [I,Rat.mul_div_cancel u]
 ·intro j f;exact tB hM hL1 (g j f)
 ·intro j f;exact mE hM (g j f) hd A
end Go.Proofs.YtbomdfhdocaagaaGreatDoor
