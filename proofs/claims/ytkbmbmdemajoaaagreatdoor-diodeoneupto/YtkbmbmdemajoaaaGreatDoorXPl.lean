/- Contracts. -/
import Derived.Test.YtkbmbmdemajoaaaGreatDoorXHand
import Derived.Test.YtkbmbmdemajoaaaGreatDoorXPb
namespace Go.Proofs.YtkbmbmdemajoaaaGreatDoor
open Go.RowKit
set_option linter.unusedVariables false
set_option linter.unusedSimpArgs false
set_option maxHeartbeats 8000000
set_option maxRecDepth 10000
variable {w w':World} {L b m n br bo:Nat} {bs cs o:Nat->Nat} {R:Nat->Nat->Rat} {q:Rat} {cur:Array Value} {uo:Option Addr}
def fs (R:Nat->Rat) (q:Rat) (i:Nat):Nat->Rat:=fun j=>if j<i then R j*q else R j
theorem vY (R:Nat->Rat) (q:Rat) (i j:Nat):aJ (fs R q i) i (R i*q) j=fs R q (i+1) j:=by
 unfold aJ fs;by_cases h:j=i
 ·rw [if_pos h,if_pos O,h]
 ·rw [if_neg h];by_cases a:j<i
  ·rw [if_pos a,if_pos O]
  ·rw [if_neg a,if_neg O]
theorem tA (R:Nat->Rat) (q:Rat) (i j:Nat) (h:R i=0):fs R q i j=fs R q (i+1) j:=by
 unfold fs;by_cases a:j<i
 ·rw [if_pos a,if_pos O]
 ·rw [if_neg a];by_cases c:j=i
  ·subst c;rw [if_pos O,h,Rat.zero_mul]
  ·rw [if_neg O]
def aI (w w':World) (b:Nat):Prop:=w.grownBy w' (some b)/\aL w w'
theorem aI.refl (w:World) (b:Nat):aI w w b:=⟨ae _ _,aL.refl _⟩
theorem aI.trans {w1 a:World} (h:aI w w1 b) (k:aI w1 a b):aI w a b:=⟨aw h.1 k.1 (fun _ _ e=>e) (fun _ _ e=>e),h.2.trans k.2⟩
theorem aI.of_gr (h:w.grownBy w' none):aI w w' b:=⟨aw h (ae _ none) nofun nofun,aL.of_gr h⟩
theorem aI.gr {w1 a:World} (h:aI w w1 b) (k:w1.grownBy a none):aI w a b:=h.trans (aI.of_gr k)
def TimR (W:World) (b n:Nat) (R:Nat->Rat) (q:Rat) (L:Nat) (v:Value) (wr:World):Prop :=
 ∃ i:Nat,i<=n/\v=.int .i64 i/\aH wr b n (fs R q i) L/\aI W wr b
theorem mA (X:Bool) (Y fd:Value) (b n cap:Nat) (R:Nat->Rat) (q:Rat) (yv:Value) (L:Nat) (w:World) (x:aH w b n R L) (hy:FQ w yv q L) (hn:n<=cap) (hc:cap<=maxLen) (hL:L<=100000000)
  (hfit:∀ i,i<n->bg L (R i*q)) :
  Calls Tryz.prog 155 #[jP X Y fd,.slice (some ⟨b,0,none⟩) n cap,yv] w
   fun e w'=>e=.returned (.tuple #[])/\aH w' b n (fun i=>R i*q) L/\aI w w' b:=by
 unfold maxLen at hc;have HR:=ab x;have HY:=ab hy;have HF:=ab hfit;have he:=x.lt;obtain ⟨yo,yl,yc,zo,zl,zc,rfl⟩:=hy.shape;clear x hy hfit;obtain ⟨W,l⟩:=eX ((w.alloc (Obj.cells #[.bool X,Y,fd,.func (.func 60) #[] #[],.func (.func 61) #[] #[],.func (.func 62) #[] #[],.func (.func 63) #[] #[],.func (.func 64) #[] #[],.func (.func 65) #[] #[],.func (.func 66) #[] #[],.func (.func 67) #[] #[]] 87)).alloc (Obj.cells #[.bool (rB q),.slice yo yl yc,.slice zo zl zc] 81));have y:Hid (w.grownBy W none):=by rw [l];exact ag (ag (ae _ _) _) _
 have a:Hid (∀ wx,W.grownBy wx (some b)->wx.cell? ⟨w.heap.size,8,none⟩=some (.func (.func 65) #[] #[])/\wx.cell? ⟨w.heap.size,6,none⟩=some (.func (.func 63) #[] #[])/\wx.cell? ⟨w.heap.size+1,0,none⟩=some (.bool (rB q))/\wx.cell? ⟨w.heap.size+1,1,none⟩=some (.slice yo yl yc)/\wx.cell? ⟨w.heap.size+1,2,none⟩=some (.slice zo zl zc)):=by
  intro wx hg;rw [l] at hg;have n1:some w.heap.size≠some b:=fun e=>by have:=zJ e;omega
  have z:some (w.heap.size+1)≠some b:=fun e=>by have:=zJ e;omega
  exact ⟨hg.cell zG n1,hg.cell zG n1,hg.cell zG z,hg.cell zG z,hg.cell zG z⟩
 have hf:Hid (w.heap.size+1<W.heap.size):=by show _<_;rw [l];simp
 go_enter Tryz.func155,Tryz.ntmps155
 go_wp2;rw [<- l];clear l;go_loopw [10] (fun v wr=>Hid (TimR W b n R q L v wr)) (fun v _=>n-(intOf v).toNat)
 case atStart=>exact ⟨0,O,rfl,(HR.keep0 y).congr (fun i _=>by unfold fs;rw [if_neg O]),aI.refl _ _⟩
 case round =>
  obtain ⟨i,hi,rfl,l1,l2⟩:=hrel.out;have r:=ab l1;have f:=ab l2;clear l1 l2 hrel;by_cases hlt:i<n
  ·obtain ⟨uo,ul,uc,p,dl,dc,c0,c1,c2,D,cf⟩:=r.out.at i hlt;have g:fs R q i i=R i:=by unfold fs;rw [if_neg O]
   rw [g] at c0 D;have C3:=ab D;obtain ⟨E,F,G,H,I⟩:=a.out wr f.1;clear D cf g;go_upto_region 4 with fail;obtain ⟨s,d⟩:=eX (wr.alloc (Obj.cells #[.bool (rB (R i)),.slice uo ul uc,.slice p dl dc] 81));have A:Hid (wr.grownBy s none):=by rw [d];exact ag (ae _ _) _
   have XC:Hid (∀ wx,s.grownBy wx none->wx.cell? ⟨wr.heap.size,0,none⟩=some (.bool (rB (R i)))/\wx.cell? ⟨wr.heap.size,1,none⟩=some (.slice uo ul uc)/\wx.cell? ⟨wr.heap.size,2,none⟩=some (.slice p dl dc)):=by
    intro wx hg;rw [d] at hg;exact aG hg
   rw [<- d];clear d E F G H I c0 c1 c2;obtain ⟨x0,x1,x2⟩:=XC.out s (ae _ _);have B:=ab (f.gr A);obtain ⟨E,F,G,H,I⟩:=a.out s B.1;go_wp2_with fail;refine (bd _ (R i) L _ (C3.keep0 A)).mono ?_;rintro e w3 ⟨rfl,t⟩;obtain ⟨J,K,M⟩:=XC.out w3 t;have h:=ab (aa A t);clear x0 x1 x2 E F G H I;by_cases k:R i=0
   ·have c:decide (R i=0)=true:=decide_eq_true k;rw [c];have HZ:=ab k;clear k c t;go_wp2;go_roundw
    case rel=>exact ⟨i+1,O,zN,(r.keep0 h).congr (fun j _=>tA R q i j HZ),f.gr h⟩
    case measure=>simp [intOf];omega
   ·have c:decide (R i=0)=false:=decide_eq_false k;rw [c];clear k c t;have C:=ab (f.gr h);obtain ⟨N,P,Q,S,T⟩:=a.out w3 C.1;go_wp2_with fail;refine (eN _ _ (R i) q L L _ (C3.keep0 h) (HY.kept ((aL.of_gr y).trans C.2)) O).mono ?_;rintro e w4 ⟨v4,rfl,U,V⟩;have F4:=ab (aH.keep0 (r.keep0 h) V);obtain ⟨ao,al,ac,bo,bl,bc,rfl⟩:=U.shape;have P1:=ab (U.tight (HF i hlt));have L4:=ab (C.gr V);obtain ⟨_,_,_,_,_,_,d0,d1,d2,_,u⟩:=F4.out.at i hlt;have hk:=u (i*3);have hl:=u (i*3+1);have hm:=u (i*3+2);clear U V u N P Q S T J K M;go_wp2;go_roundw
    case rel =>
     obtain ⟨r1,r2,r3⟩:=F4.out.set i hlt P1;exact ⟨i+1,O,zN,r1.congr (fun j _=>vY R q i j),L4.trans ⟨r2,r3⟩⟩
    case measure=>simp [intOf];omega
  ·obtain rfl:i=n:=O
   go_wp2;go_end0
   exact ⟨rfl,r.congr (fun j hj=>by unfold fs;rw [if_pos hj]),(aI.of_gr y).trans f⟩
theorem FQ.fits {v:Value} (h:FQ w v q L) (d:1<=L):bg L q:=by
 obtain ⟨up,c,e,f,a,g,i⟩:=h;refine ⟨f.lt,?_⟩;rcases a with ⟨_,a⟩ | ⟨a,_⟩
 ·rw [a];exact Nat.lt_of_lt_of_le (by decide:1<4294967296^1) (Nat.pow_le_pow_right zD d)
 ·exact a.lt
theorem bg.neg (h:bg L q):bg L (-q):=by
 obtain ⟨d,a,c⟩:=DA q;unfold bg;rw [a,c];exact h
def tC (x:Rat):Rat:=if x=0 then -1 else 1
theorem FV.parts {u d:Value} {b neg:Bool} (h:FV w (.agg #[.bool b,u,d]) neg n m L):b=neg:=by
 obtain ⟨_,_,e,_⟩:=h;simp only [Value.agg.injEq,Array.mk.injEq,List.cons.injEq,and_true,Value.bool.injEq] at e;exact e.1
theorem uz (t:Bool) (u c:Option Addr) (fl fc f g:Nat) (b n cap k:Nat) (R:Nat->Rat) (d:Rat) (lv:Value) (L:Nat) (w:World) (D:aH w b n R L) (hy:FQ w lv d L) (H:FQ w (.agg #[.bool t,.slice u fl fc,.slice c f g]) 1 L)
  (hk:k<n) (hn:n<=cap) (hc:cap<=maxLen) (hL1:1<=L) (hL:L<=100000000) :
  Calls Tryz.prog 114 #[(jP t (.slice u fl fc) (.slice c f g)),.slice (some ⟨b,0,none⟩) n cap,.int .i64 (k:Nat),lv] w
   fun e w'=>e=.returned (.tuple #[])/\aH w' b n (fun i=>tC (R k+d)*R i) L/\aI w w' b:=by
 have I:=ab D;have HY:=ab hy;have H1:=ab H;have HC:=ab hc;unfold maxLen at hc;have hl:=D.lt;obtain ⟨lo,Q,lc,x,y,z,rfl⟩:=hy.shape;obtain ⟨uo,ul,uc,vo,vl,vc,c0,c1,c2,c3,_⟩:=D.at k hk;have C3:=ab c3;have B:Hid (∀ i,i<n->bg L (R i*(0-1))):=by
  intro i hi;obtain ⟨_,_,_,_,_,_,_,_,_,h,_⟩:=I.out.at i hi;have e:R i*(0-1) = -(R i):=by grind
  rw [e];exact (h.fits hL1).neg
 have J:Hid (bg L (0-1)):=by
  have e:(0:Rat)-1 = -1:=by grind
  rw [e];exact (H.fits hL1).neg
 clear D hy H c3;obtain ⟨W,G⟩:=eX ((w.alloc (Obj.cells #[.bool t,.slice u fl fc,.slice c f g,.func (.func 60) #[] #[],.func (.func 61) #[] #[],.func (.func 62) #[] #[],.func (.func 63) #[] #[],.func (.func 64) #[] #[],.func (.func 65) #[] #[],.func (.func 66) #[] #[],.func (.func 67) #[] #[]] 87)).alloc (Obj.cells #[.bool (rB d),.slice lo Q lc,.slice x y z] 81));have r:Hid (w.grownBy W none):=by rw [G];exact ag (ag (ae _ _) _) _
 have a:Hid (∀ wx,W.grownBy wx none->wx.cell? ⟨w.heap.size,3,none⟩=some (.func (.func 60) #[] #[])/\wx.cell? ⟨w.heap.size,4,none⟩=some (.func (.func 61) #[] #[])/\wx.cell? ⟨w.heap.size,5,none⟩=some (.func (.func 62) #[] #[])/\wx.cell? ⟨w.heap.size,6,none⟩=some (.func (.func 63) #[] #[])/\wx.cell? ⟨w.heap.size,7,none⟩=some (.func (.func 64) #[] #[])/\wx.cell? ⟨w.heap.size,8,none⟩=some (.func (.func 65) #[] #[])/\wx.cell? ⟨w.heap.size,9,none⟩=some (.func (.func 66) #[] #[])/\wx.cell? ⟨w.heap.size,10,none⟩=some (.func (.func 67) #[] #[])/\wx.cell? ⟨w.heap.size,0,none⟩=some (.bool t)/\wx.cell? ⟨w.heap.size,1,none⟩=some (.slice u fl fc)/\wx.cell? ⟨w.heap.size,2,none⟩=some (.slice c f g)/\wx.cell? ⟨w.heap.size+1,0,none⟩=some (.bool (rB d))/\wx.cell? ⟨w.heap.size+1,1,none⟩=some (.slice lo Q lc)/\wx.cell? ⟨w.heap.size+1,2,none⟩=some (.slice x y z)/\wx.cell? ⟨b,k*3,none⟩=some (.bool (rB (R k)))/\wx.cell? ⟨b,k*3+1,none⟩=some (.slice uo ul uc)/\wx.cell? ⟨b,k*3+2,none⟩=some (.slice vo vl vc)):=by
  intro wx hg;have v:=aa r hg;rw [G] at hg;exact ⟨hg.cell zG Z,hg.cell zG Z,hg.cell zG Z,hg.cell zG Z,hg.cell zG Z,hg.cell zG Z,hg.cell zG Z,hg.cell zG Z,hg.cell zG Z,hg.cell zG Z,hg.cell zG Z,hg.cell zG Z,hg.cell zG Z,hg.cell zG Z,v.cell c0 Z,v.cell c1 Z,v.cell c2 Z⟩
 obtain ⟨s0,s1,s2,s3,s4,s5,s6,s7,s8,s9,s10,s11,s12,s13,s14,s15,s16⟩:=a.out W (ae _ _);have GG:W.grownBy W none:=ae _ _;go_enter Tryz.func114,Tryz.ntmps114
 go_upto_region 1 with fail;rw [<- G];clear G c0 c1 c2;go_cut [19] (fun s19 wx=>Hid (s19=.bool (decide (R k+d=0))/\W.grownBy wx none))
 case first =>
  go_region_held3 (fun w'=>w'.cell? ⟨w.heap.size,3,none⟩=some (.func (.func 60) #[] #[])/\w'.cell? ⟨w.heap.size,4,none⟩=some (.func (.func 61) #[] #[])/\w'.cell? ⟨w.heap.size,5,none⟩=some (.func (.func 62) #[] #[])/\w'.cell? ⟨w.heap.size,6,none⟩=some (.func (.func 63) #[] #[])/\w'.cell? ⟨w.heap.size,7,none⟩=some (.func (.func 64) #[] #[])/\w'.cell? ⟨w.heap.size,8,none⟩=some (.func (.func 65) #[] #[])/\w'.cell? ⟨w.heap.size,9,none⟩=some (.func (.func 66) #[] #[])/\w'.cell? ⟨w.heap.size,10,none⟩=some (.func (.func 67) #[] #[])/\w'.cell? ⟨w.heap.size,0,none⟩=some (.bool t)/\w'.cell? ⟨w.heap.size,1,none⟩=some (.slice u fl fc)/\w'.cell? ⟨w.heap.size,2,none⟩=some (.slice c f g)/\w'.cell? ⟨w.heap.size+1,0,none⟩=some (.bool (rB d))/\w'.cell? ⟨w.heap.size+1,1,none⟩=some (.slice lo Q lc)/\w'.cell? ⟨w.heap.size+1,2,none⟩=some (.slice x y z)/\w'.cell? ⟨b,k*3,none⟩=some (.bool (rB (R k)))/\w'.cell? ⟨b,k*3+1,none⟩=some (.slice uo ul uc)/\w'.cell? ⟨b,k*3+2,none⟩=some (.slice vo vl vc)) (go_keep)
   (first | (go_at_call 61;refine (mg _ _ (R k) d L L _ (C3.keep0 (aa r zF)) (HY.keep0 (aa r zF)) O).mono ?_;rintro e C ⟨va,rfl,pa,S⟩;obtain ⟨ao,al,ac,bo,bl,bc,rfl⟩:=pa.shape;have GG:W.grownBy C none:=aa zF S;obtain ⟨a0,a1,a2,a3,a4,a5,a6,a7,a8,a9,T,U,V,X,hm,ho,hp⟩:=a.out C GG) | (go_at_call 65;refine (bd _ (R k+d) (L+L+2) _ (pa.keep0 kw)).mono ?_;rintro e wx ⟨rfl,gx⟩;have GG:W.grownBy wx none:=aa zF gx;obtain ⟨x0,x1,x2,x3,x4,x5,x6,x7,x8,x9,Y,he,hf,hj,hq,hs,hu⟩:=a.out wx GG))
  all_goals (go_wp2_with fail;go_meet;exact ⟨rfl,zF⟩)
 case rest =>
  obtain ⟨rfl,g2⟩:=hcut.out;have E:=ab g2;clear hcut s0 s1 s2 s3 s4 s5 s6 s7 s8 s9 s10 s11 s12 s13 s14 s15 s16 g2 GG;by_cases A:R k+d=0
  ·have j:decide (R k+d=0)=true:=decide_eq_true A;rw [j];have K:Hid (tC (R k+d) = -1):=by show _=_;unfold tC;rw [if_pos A]
   clear A j;go_upto_region 3 with fail;obtain ⟨p,s⟩:=eX (wc.alloc (Obj.cells #[.bool false,.slice none 0 0,.slice none 0 0] 81));have G3:Hid (wc.grownBy p none):=by rw [s];exact ag (ae _ _) _
   have ZC:Hid (∀ wx,p.grownBy wx none->wx.cell? ⟨wc.heap.size,0,none⟩=some (.bool false)/\wx.cell? ⟨wc.heap.size,1,none⟩=some (.slice none 0 0)/\wx.cell? ⟨wc.heap.size,2,none⟩=some (.slice none 0 0)):=by
    intro wx hg;rw [s] at hg;exact aG hg
   rw [<- s];clear s;have GG:p.grownBy p none:=ae _ _;have F:Hid (W.grownBy p none):=aa E G3;have M:Hid (∀ wx,p.grownBy wx (some b)->wx.cell? ⟨w.heap.size,3,none⟩=some (.func (.func 60) #[] #[])/\wx.cell? ⟨w.heap.size,4,none⟩=some (.func (.func 61) #[] #[])/\wx.cell? ⟨w.heap.size,5,none⟩=some (.func (.func 62) #[] #[])/\wx.cell? ⟨w.heap.size,6,none⟩=some (.func (.func 63) #[] #[])/\wx.cell? ⟨w.heap.size,7,none⟩=some (.func (.func 64) #[] #[])/\wx.cell? ⟨w.heap.size,8,none⟩=some (.func (.func 65) #[] #[])/\wx.cell? ⟨w.heap.size,9,none⟩=some (.func (.func 66) #[] #[])/\wx.cell? ⟨w.heap.size,10,none⟩=some (.func (.func 67) #[] #[])/\wx.cell? ⟨w.heap.size,0,none⟩=some (.bool t)/\wx.cell? ⟨w.heap.size,1,none⟩=some (.slice u fl fc)/\wx.cell? ⟨w.heap.size,2,none⟩=some (.slice c f g)/\wx.cell? ⟨wc.heap.size,0,none⟩=some (.bool false)/\wx.cell? ⟨wc.heap.size,1,none⟩=some (.slice none 0 0)/\wx.cell? ⟨wc.heap.size,2,none⟩=some (.slice none 0 0)):=by
    intro wx hg;obtain ⟨z0,z1,z2⟩:=ZC.out p GG;obtain ⟨s0,s1,s2,s3,s4,s5,s6,s7,s8,s9,s10,s11,s12,s13,s14,s15,s16⟩:=a.out p F;have l:some w.heap.size≠some b:=fun e=>by have:=zJ e;omega
    have N:some wc.heap.size≠some b:=fun e=>by have:=zJ e;have:=(aa r E).size;omega
    exact ⟨hg.cell s0 l,hg.cell s1 l,hg.cell s2 l,hg.cell s3 l,hg.cell s4 l,hg.cell s5 l,hg.cell s6 l,hg.cell s7 l,hg.cell s8 l,hg.cell s9 l,hg.cell s10 l,hg.cell z0 N,hg.cell z1 N,hg.cell z2 N⟩
   obtain ⟨s0,s1,s2,s3,s4,s5,s6,s7,s8,s9,s10,s11,s12,s13⟩:=M.out p (ae _ _);have hZ:FQ p (.agg #[.bool false,.slice none 0 0,.slice none 0 0]) 0 L:=by
    have e1:rB 0=false:=rfl;have e2:rN 0=0:=rfl;have e3:(0:Rat).den=1:=rfl;unfold FQ;rw [e1,e2,e3];exact ⟨_,_,rfl,⟨[],Ws.nil _,rfl,rfl,Z⟩,.inl ⟨rfl,rfl⟩,rfl,Z⟩
   have HZ:=ab hZ;clear hZ;go_region_held3 (fun w'=>w'.cell? ⟨w.heap.size,3,none⟩=some (.func (.func 60) #[] #[])/\w'.cell? ⟨w.heap.size,4,none⟩=some (.func (.func 61) #[] #[])/\w'.cell? ⟨w.heap.size,5,none⟩=some (.func (.func 62) #[] #[])/\w'.cell? ⟨w.heap.size,6,none⟩=some (.func (.func 63) #[] #[])/\w'.cell? ⟨w.heap.size,7,none⟩=some (.func (.func 64) #[] #[])/\w'.cell? ⟨w.heap.size,8,none⟩=some (.func (.func 65) #[] #[])/\w'.cell? ⟨w.heap.size,9,none⟩=some (.func (.func 66) #[] #[])/\w'.cell? ⟨w.heap.size,10,none⟩=some (.func (.func 67) #[] #[])/\w'.cell? ⟨w.heap.size,0,none⟩=some (.bool t)/\w'.cell? ⟨w.heap.size,1,none⟩=some (.slice u fl fc)/\w'.cell? ⟨w.heap.size,2,none⟩=some (.slice c f g)/\w'.cell? ⟨wc.heap.size,0,none⟩=some (.bool false)/\w'.cell? ⟨wc.heap.size,1,none⟩=some (.slice none 0 0)/\w'.cell? ⟨wc.heap.size,2,none⟩=some (.slice none 0 0)) (go_keep)
    (first | (go_at_call 62;refine (dr _ _ 0 1 L L _ (HZ.keep0 zF) (H1.keep0 (aa r (aa F zF))) O).mono ?_;rintro e C ⟨va,rfl,pa,S⟩;have pa:=pa.tight (L':=L) J;obtain ⟨ao,al,ac,bo,bl,bc,rfl⟩:=pa.shape;have GG:p.grownBy C none:=aa zF S;obtain ⟨a0,a1,a2,a3,a4,a5,a6,a7,a8,a9,T,U,V,X⟩:=M.out C (aI.of_gr (b:=b) GG).1) | (go_at_call 155;refine (mA _ _ _ b n cap R (0-1) _ L _ (I.keep0 (aa r (aa F zF))) (pa.keep0 kw) hn HC hL B).mono ?_;rintro e wx ⟨rfl,fx,gx⟩;have RX:=(aI.of_gr (b:=b) (aa r (aa F zF))).trans gx;obtain ⟨x0,x1,x2,x3,x4,x5,x6,x7,x8,x9,Y,he,hf,hj⟩:=M.out wx ((aI.of_gr (b:=b) zF).trans gx).1))
   all_goals
    have FX:=ab fx;have P:=ab RX;clear fx gx RX;go_wp2;go_end0
    refine ⟨rfl,FX.congr (fun i _=>?_),P⟩;rw [K];grind
  ·have j:decide (R k+d=0)=false:=decide_eq_false A;rw [j];have K:Hid (tC (R k+d)=1):=by show _=_;unfold tC;rw [if_neg A]
   clear A j;go_wp2;go_end0
   refine ⟨rfl,(I.keep0 (aa r E)).congr (fun i _=>?_),aI.of_gr (aa r E)⟩;rw [K,Rat.one_mul]
def km (R P:Nat->Rat) (k:Nat) (d:Rat):Nat->Rat:=fun i=>(P k*R i-R k*P i) / d
def fJ (R P:Nat->Rat) (k:Nat) (d:Rat) (i:Nat):Nat->Rat:=fun j=>if j<i then km R P k d j else R j
theorem yg (R P:Nat->Rat) (k:Nat) (d:Rat) (i j:Nat):aJ (fJ R P k d i) i (km R P k d i) j=fJ R P k d (i+1) j:=by
 unfold aJ fJ;by_cases h:j=i
 ·rw [if_pos h,if_pos O,h]
 ·rw [if_neg h];by_cases a:j<i
  ·rw [if_pos a,if_pos O]
  ·rw [if_neg a,if_neg O]
theorem ye {R P:Nat->Rat} {k i:Nat} {d:Rat} (h:R i=0) (a:R k=0∨P i=0):km R P k d i=R i:=by
 unfold km;rcases a with a | a<;>rw [h,a]<;>grind
theorem vX {R P:Nat->Rat} {k i:Nat} {d:Rat} (h:km R P k d i=R i) (j:Nat):fJ R P k d i j=fJ R P k d (i+1) j:=by
 unfold fJ;by_cases a:j<i
 ·rw [if_pos a,if_pos O]
 ·rw [if_neg a];by_cases c:j=i
  ·subst c;rw [if_pos O,h]
  ·rw [if_neg O]
def TakR (W:World) (b n:Nat) (R P:Nat->Rat) (k:Nat) (d:Rat) (L:Nat) (v:Value) (wr:World):Prop :=
 ∃ i:Nat,i<=n/\v=.int .i64 i/\aH wr b n (fJ R P k d i) L/\aI W wr b
theorem rZ (W:World) (c d f g h i:Value):W.grownBy ((W.alloc (Obj.cells #[c,d,f] 81)).alloc (Obj.cells #[g,h,i] 81)).drew none/\bX ((W.alloc (Obj.cells #[c,d,f] 81)).alloc (Obj.cells #[g,h,i] 81)).drew W.heap.size c d f/\bX ((W.alloc (Obj.cells #[c,d,f] 81)).alloc (Obj.cells #[g,h,i] 81)).drew (W.heap.size+1) g h i:=by
 have a:=aG (w:=W) (aj (ag (ae (W.alloc (Obj.cells #[c,d,f] 81)) none) (Obj.cells #[g,h,i] 81)) 1);have b:=aG (w:=W.alloc (Obj.cells #[c,d,f] 81)) (aj (ae ((W.alloc (Obj.cells #[c,d,f] 81)).alloc (Obj.cells #[g,h,i] 81)) none) 1);have e:(W.alloc (Obj.cells #[c,d,f] 81)).heap.size=W.heap.size+1:=Z
 rw [e] at b;exact ⟨aj (ag (ag (ae _ _) _) _) 1,a,b⟩
attribute [local simp] iD bX im
theorem yf (fb:Bool) (fo hC:Option Addr) (fl fc hD hE:Nat) (b z n cap S k:Nat) (R P:Nat->Rat) (d:Rat) (lv:Value) (L:Nat) (w:World) (hr:aH w b n R L) (hp:aH w z n P L) (kk:b≠z) (hy:FQ w lv d L)
  (hk:k<n) (hn:n<=cap) (hc:cap<=maxLen) (hn2:n<=S) (hc2:S<=maxLen) (hL1:1<=L) (hL:L<=50000000) (hd:d≠0) (hfit:∀ i,i<n->bg L (km R P k d i)) :
  Calls Tryz.prog 115 #[(jP fb (.slice fo fl fc) (.slice hC hD hE)),.slice (some ⟨b,0,none⟩) n cap,.slice (some ⟨z,0,none⟩) n S,.int .i64 (k:Nat),lv] w
   fun e w'=>e=.returned (.tuple #[])/\aH w' b n (km R P k d) L/\aI w w' b:=by
 have HR:=ab hr;have HP:=ab hp;have HY:=ab hy;have HD:=ab hd;have HF:=ab hfit;unfold maxLen at hc hc2;have qs:=hr.lt;have qq:=hp.lt;obtain ⟨lo,U,lc,l,p,s,rfl⟩:=hy.shape;obtain ⟨t,u,x,a,c,f,c0,c1,c2,c3,_⟩:=hr.at k hk;obtain ⟨uo,A,B,C,D,E,e0,e1,e2,e3,_⟩:=hp.at k hk;have C3:=ab c3;have E3:=ab e3;clear hr hp hy c3 e3 hd hfit;obtain ⟨W,hW⟩:=eX ((w.alloc (Obj.cells #[.bool fb,.slice fo fl fc,.slice hC hD hE,.func (.func 60) #[] #[],.func (.func 61) #[] #[],.func (.func 62) #[] #[],.func (.func 63) #[] #[],.func (.func 64) #[] #[],.func (.func 65) #[] #[],.func (.func 66) #[] #[],.func (.func 67) #[] #[]] 87)).alloc (Obj.cells #[.bool (rB d),.slice lo U lc,.slice l p s] 81));have GW:Hid (w.grownBy W none):=by rw [hW];exact ag (ag (ae _ _) _) _
 have kl:Hid (W.heap.size=w.heap.size+2):=by show _=_;rw [hW];simp
 have Y:Hid (iD W (w.heap.size)/\bX W (w.heap.size+1) (.bool (rB d)) (.slice lo U lc) (.slice l p s)):=by
  have h2:=aG (ae W none |> fun h=>by rw (occs:=.pos [1]) [hW] at h;exact h);rw [show ∀ o,(w.alloc o).heap.size=w.heap.size+1 from fun _=>by simp] at h2;exact ⟨(ln fb fo hC fl fc hD hE (by rw [hW];exact ag (ae _ _) _)).1,h2⟩
 have r:=(show im w b k _ _ _ from ⟨c0,c1,c2⟩).k0 GW;have q:=(show im w z k _ _ _ from ⟨e0,e1,e2⟩).k0 GW;clear c0 c1 c2 e0 e1 e2;go_enter Tryz.func115,Tryz.ntmps115
 go_upto_region 1 with fail;rw [<- hW];clear hW;have hI:=kl.out;have hJ:¬ b=W.heap.size:=O
 have hM:¬ z=W.heap.size:=O
 have hN:¬ W.heap.size=b:=O
 have hQ:¬ W.heap.size=z:=O
 have ko:W.heap.size+1≠b:=O
 have kz:W.heap.size+1≠z:=O
 go_cut [10,11] (fun s10 s11 wx=>Hid (∃ gp gr,s10=.pointer (some ⟨gp,0,none⟩)/\s11=.pointer (some ⟨gr,0,none⟩)/\W.heap.size<=gp/\W.heap.size<=gr/\W.grownBy wx none/\bX wx (gp) (.bool (rB (P k))) (.slice uo A B) (.slice C D E)/\bX wx (gr) (.bool (rB (R k))) (.slice t u x) (.slice a c f)))
 case first =>
  go_region_held3 (fun w'=>im w' b k (.bool (rB (R k))) (.slice t u x) (.slice a c f)/\im w' z k (.bool (rB (P k))) (.slice uo A B) (.slice C D E)) (go_keep) (fail)
  all_goals (go_wp2_with fail;go_meet;first
   | (have T:=rZ W (.bool (rB (P k))) (.slice uo A B) (.slice C D E) (.bool (rB (R k))) (.slice t u x) (.slice a c f);rw [hI] at T;exact ⟨_,_,rfl,rfl,O,O,T.1,T.2.1,T.2.2⟩)
   | (have T:=rZ W (.bool (rB (R k))) (.slice t u x) (.slice a c f) (.bool (rB (P k))) (.slice uo A B) (.slice C D E);rw [hI] at T;exact ⟨_,_,rfl,rfl,O,O,T.1,T.2.2,T.2.1⟩))
 case rest =>
  obtain ⟨gp,gr,rfl,rfl,mm,hgr,g1,h1⟩:=hcut.out;have G1:=ab (aa GW g1);have I:Hid (∀ wx,wc.grownBy wx (some b)->iD wx (w.heap.size)/\bX wx (w.heap.size+1) (.bool (rB d)) (.slice lo U lc) (.slice l p s)/\bX wx (gp) (.bool (rB (P k))) (.slice uo A B) (.slice C D E)/\bX wx (gr) (.bool (rB (R k))) (.slice t u x) (.slice a c f)):=by
   intro wx hg;exact ⟨(Y.1.k0 g1).k hg (fun e=>by have:=zJ e;omega),(Y.2.k0 g1).k hg (fun e=>by have:=zJ e;omega),h1.1.k hg (fun e=>by have:=zJ e;omega),h1.2.k hg (fun e=>by have:=zJ e;omega)⟩
  have g:Hid (∀ wx,wc.grownBy wx none->iD wx (w.heap.size)/\bX wx (w.heap.size+1) (.bool (rB d)) (.slice lo U lc) (.slice l p s)/\bX wx (gp) (.bool (rB (P k))) (.slice uo A B) (.slice C D E)/\bX wx (gr) (.bool (rB (R k))) (.slice t u x) (.slice a c f)):=fun wx hg=>I wx (aI.of_gr hg).1
  have hR:=ab (HR.keep0 G1);have hS:=ab (HP.keep0 G1);have hF:=ab (HY.keep0 G1);have hu:=ab (C3.keep0 G1);have hG:=ab (E3.keep0 G1);have kF:Hid (w.heap.size+2<=wc.heap.size):=by show _<=_;have:=g1.size;omega
  have yn:Hid (gp<wc.heap.size/\gr<wc.heap.size):=⟨bZ h1.1.1,bZ h1.2.1⟩;have GG:wc.grownBy wc none:=ae _ _;have s0:=g.out wc GG;clear hcut h1 g1 r q Y hJ hM hN hQ ko kz;go_wp2;go_cut [35] (fun s35 wx=>Hid (s35=.bool (decide (R k=0) && decide (P k-d=0))/\wc.grownBy wx none))
  case first =>
   by_cases h0:R k=0
   ·have hf:decide (R k=0)=true:=decide_eq_true h0;have hl:=ab hf;clear hf h0;go_region_held3 (fun w'=>iD w' (w.heap.size)/\bX w' (w.heap.size+1) (.bool (rB d)) (.slice lo U lc) (.slice l p s)/\bX w' (gp) (.bool (rB (P k))) (.slice uo A B) (.slice C D E)/\bX w' (gr) (.bool (rB (R k))) (.slice t u x) (.slice a c f)) (go_keep)
     (first | (go_at_call_of 65 (Value.agg #[.bool (rB (R k)),.slice t u x,.slice a c f]);refine (bd _ (R k) L _ (hu.keep0 (gx GG))).mono ?_;rintro e wa ⟨rfl,X⟩;rw [hl];have GG:=aa (gx GG) X;have ha:=g.out wa GG) | (go_at_call 62;refine (dr _ _ (P k) d L L _ (hG.keep0 (gx GG)) (hF.keep0 (gx GG)) O).mono ?_;rintro e wm ⟨vm,rfl,pm,gm⟩;obtain ⟨mo,ml,mc,kb,kc,kf,rfl⟩:=pm.shape;have GG:=aa (gx GG) gm;have hm:=g.out wm GG) | (go_at_call_of 65 (Value.agg #[.bool (rB (P k-d)),.slice mo ml mc,.slice kb kc kf]);refine (bd _ (P k-d) (L+L+2) _ (pm.keep0 kw)).mono ?_;rintro e wz ⟨rfl,gz⟩;have GG:=aa (gx GG) gz;have hz:=g.out wz GG))
    all_goals (go_wp2_with fail;go_meet;exact ⟨by rw [hl,Bool.true_and],(gx GG)⟩)
   ·have hf:decide (R k=0)=false:=decide_eq_false h0;have hl:=ab hf;clear hf h0;refine hd (fun w'=>iD w' (w.heap.size)/\bX w' (w.heap.size+1) (.bool (rB d)) (.slice lo U lc) (.slice l p s)/\bX w' (gp) (.bool (rB (P k))) (.slice uo A B) (.slice C D E)/\bX w' (gr) (.bool (rB (R k))) (.slice t u x) (.slice a c f)) (fun hHeld=>?_);refine tk 11 [(0,22,.pointer (some ⟨w.heap.size,8,none⟩)),(1,23,.func (.func 65) #[] #[]),(2,24,Value.agg #[.bool (rB (R k)),.slice t u x,.slice a c f])] ?_;try simp only [pA,pL,vA,vL,q0,q1,q2,q3]
    refine de 10 3 (fun K y=>?_);simp only [ax,q4,q5,q6,q7];go_simp
    go_at_call_of 65 (Value.agg #[.bool (rB (R k)),.slice t u x,.slice a c f])
    refine (bd _ (R k) L _ (hu.keep0 (gx GG))).mono ?_;rintro e wa ⟨rfl,X⟩;rw [hl];have GG:=aa (gx GG) X;have ha:=g.out wa GG;go_wp2_with fail;refine bk y (fun hHeld=>?_);clear y K;refine tk 9 [(4,26,.bool false)] ?_;refine sk 1 [(5,27),(6,28),(7,29),(8,30),(9,31),(10,32),(11,33),(12,34)] ?_;try simp only [pA,pL,vA,vL,q0,q1,q2,q3]
    refine tk 0 [(13,35,.bool false)] ?_;try simp only [pA,pL,vA,vL,q0,q1,q2,q3]
    refine wpAnyH_done zK ?_ _
    (go_wp2_with fail;go_meet;exact ⟨by rw [hl,Bool.false_and],(gx GG)⟩)
  case rest =>
   obtain ⟨rfl,g2⟩:=hcut.out;have G2:=ab g2;clear hcut g2 GG s0;have hw:Hid (∀ wx,wc.grownBy wx (some b)->iD wx (w.heap.size)/\bX wx (w.heap.size+1) (.bool (rB d)) (.slice lo U lc) (.slice l p s)/\bX wx (gp) (.bool (rB (P k))) (.slice uo A B) (.slice C D E)/\bX wx (gr) (.bool (rB (R k))) (.slice t u x) (.slice a c f)):=fun wx hg=>I wx (aw (r:=some b) G2 hg nofun (fun _ _ e=>e))
   have hT:=ab (hR.keep0 G2);have kH:=ab (hS.keep0 G2);have kN:=ab (hF.keep0 G2);have hH:=ab (hu.keep0 G2);have qa:=ab (hG.keep0 G2);have hX:=ab (aa G1 G2);have hY:w.heap.size+2<=wc.heap.size:=Nat.le_trans kF G2.size;clear hR hS hF hu hG I g HR HP HY C3 E3;by_cases V:R k=0/\P k-d=0
   ·have hb:(decide (R k=0) && decide (P k-d=0))=true:=by simp [V]
    rw [hb];have HS:=ab V;clear V hb;go_wp2;refine bodyPost_ret (v:=.tuple #[]) (by simp [results,Tryz.results115,go_sem]) rfl ?_;refine ⟨rfl,hT.congr (fun i _=>?_),aI.of_gr hX⟩;obtain ⟨h1,h2⟩:=HS.out;have qb:P k=d:=by grind
    have hd:=HD.out;unfold km;have e:d*R i-0*P i=R i*d:=by grind
    rw [h1,qb,e,Rat.mul_div_cancel hd]
   ·have hb:(decide (R k=0) && decide (P k-d=0))=false:=by
     rw [Bool.and_eq_false_iff];by_cases h1:R k=0
     ·right;exact decide_eq_false (fun h2=>V ⟨h1,h2⟩)
     ·left;exact decide_eq_false h1
    rw [hb];clear V hb;go_wp2;go_loopw [38] (fun v wr=>Hid (TakR wc b n R P k d L v wr)) (fun v _=>n-(intOf v).toNat)
    case atStart=>exact ⟨0,O,rfl,hT.congr (fun i _=>by unfold fJ;rw [if_neg O]),aI.refl _ _⟩
    case round =>
     obtain ⟨i,hi,rfl,l1,l2⟩:=hrel.out;have L1:=ab l1;have L2:=ab l2;clear l1 l2 hrel;by_cases hlt:i<n
     ·have ka:fJ R P k d i i=R i:=by unfold fJ;rw [if_neg O]
      obtain ⟨M,N,Q,F,G,H,c0,c1,c2,c3,_⟩:=L1.out.at i hlt;rw [ka] at c0 c3;obtain ⟨po,pl,pc,qo,ql,qc,e0,e1,e2,e3,_⟩:=(kH.keep L2.1 L2.2 (fun e=>kk (zJ e).symm)).at i hlt;have X3:=ab c3;have Q3:=ab e3;clear c3 e3 ka;go_upto_region 6 with fail;obtain ⟨w2,hB⟩:=eX (wr.alloc (Obj.cells #[.bool (rB (R i)),.slice M N Q,.slice F G H] 81));have G3:Hid (wr.grownBy w2 none):=by rw [hB];exact ag (ae _ _) _
      have CX:Hid (∀ wx,w2.grownBy wx none->(iD wx (w.heap.size)/\bX wx (w.heap.size+1) (.bool (rB d)) (.slice lo U lc) (.slice l p s)/\bX wx (gp) (.bool (rB (P k))) (.slice uo A B) (.slice C D E)/\bX wx (gr) (.bool (rB (R k))) (.slice t u x) (.slice a c f))/\bX wx (wr.heap.size) (.bool (rB (R i))) (.slice M N Q) (.slice F G H)/\im wx z i (.bool (rB (P i))) (.slice po pl pc) (.slice qo ql qc)):=by
       intro wx hg;have hgr:=aa G3 hg;have s0:=hw.out wx (L2.gr hgr).1;rw [hB] at hg;exact ⟨s0,aG hg,(show im _ _ _ _ _ _ from ⟨e0,e1,e2⟩).k0 hgr⟩
      have RB:Hid (∀ wx,w2.grownBy wx none->aH wx b n (fJ R P k d i) L/\im wx b i (.bool (rB (R i))) (.slice M N Q) (.slice F G H)):=by
       intro wx hg;have hgr:=aa G3 hg;exact ⟨L1.keep0 hgr,(show im _ _ _ _ _ _ from ⟨c0,c1,c2⟩).k0 hgr⟩
      rw [<- hB];clear hB c0 c1 c2 e0 e1 e2;have yv:w.heap.size+2<=wr.heap.size:=Nat.le_trans hY L2.1.size;have X2:=ab (X3.keep0 G3);have Q2:=ab (Q3.keep0 G3);have KL:=ab ((L2.gr G3).2);have GG:w2.grownBy w2 none:=ae _ _;have s0:=CX.out w2 GG;go_cut [61] (fun s61 wx=>Hid (s61=.bool (decide (R i=0) && (decide (R k=0) || decide (P i=0)))/\w2.grownBy wx none))
      case first =>
       by_cases hx:R i=0
       ·have J:Hid (decide (R i=0)=true):=decide_eq_true hx;clear hx;by_cases hA:R k=0
        ·have ho:Hid (decide (R k=0)=true):=decide_eq_true hA;clear hA;refine hd (fun w'=>(iD w' (w.heap.size)/\bX w' (w.heap.size+1) (.bool (rB d)) (.slice lo U lc) (.slice l p s)/\bX w' (gp) (.bool (rB (P k))) (.slice uo A B) (.slice C D E)/\bX w' (gr) (.bool (rB (R k))) (.slice t u x) (.slice a c f))/\bX w' (wr.heap.size) (.bool (rB (R i))) (.slice M N Q) (.slice F G H)/\im w' z i (.bool (rB (P i))) (.slice po pl pc) (.slice qo ql qc)) (fun hHeld=>?_);refine tk 16 [(0,43,.pointer (some ⟨w.heap.size,8,none⟩)),(1,44,.func (.func 65) #[] #[]),(2,45,Value.agg #[.bool (rB (R i)),.slice M N Q,.slice F G H])] ?_;try simp only [pA,pL,vA,vL,q0,q1,q2,q3]
         refine de 15 3 (fun K y=>?_);simp only [ax,q4,q5,q6,q7];go_simp
         go_at_call_of 65 (Value.agg #[.bool (rB (R i)),.slice M N Q,.slice F G H])
         refine (bd _ (R i) L _ (X2.keep0 (gx GG))).mono ?_;rintro e wa ⟨rfl,X⟩;rw [J];have GG:=aa (gx GG) X;have ha:=CX.out wa GG;go_wp2_with fail;refine bk y (fun hHeld=>?_);clear y K;refine tk 11 [(4,47,.bool true),(5,48,.pointer (some ⟨w.heap.size,8,none⟩)),(6,49,.func (.func 65) #[] #[]),(7,50,Value.agg #[.bool (rB (R k)),.slice t u x,.slice a c f])] ?_;try simp only [pA,pL,vA,vL,q0,q1,q2,q3]
         refine de 10 8 (fun K y=>?_);simp only [ax,q4,q5,q6,q7];go_simp
         go_at_call_of 65 (Value.agg #[.bool (rB (R k)),.slice t u x,.slice a c f])
         refine (bd _ (R k) L _ ((hH.kept KL).keep0 (gx GG))).mono ?_;rintro e wz ⟨rfl,gz⟩;rw [ho];have GG:=aa (gx GG) gz;have hz:=CX.out wz GG;go_wp2_with fail;refine bk y (fun hHeld=>?_);clear y K;refine tk 9 [(9,52,.bool true)] ?_;refine sk 2 [(10,53),(11,54),(12,55),(13,56),(14,57),(15,58),(16,59)] ?_;try simp only [pA,pL,vA,vL,q0,q1,q2,q3]
         refine tk 0 [(17,60,.bool true),(18,61,.bool true)] ?_;try simp only [pA,pL,vA,vL,q0,q1,q2,q3]
         refine wpAnyH_done zK ?_ _
         (go_wp2_with fail;go_meet;exact ⟨by rw [J,ho,Bool.true_and,Bool.true_or],(gx GG)⟩)
        ·have ho:Hid (decide (R k=0)=false):=decide_eq_false hA;clear hA;refine hd (fun w'=>(iD w' (w.heap.size)/\bX w' (w.heap.size+1) (.bool (rB d)) (.slice lo U lc) (.slice l p s)/\bX w' (gp) (.bool (rB (P k))) (.slice uo A B) (.slice C D E)/\bX w' (gr) (.bool (rB (R k))) (.slice t u x) (.slice a c f))/\bX w' (wr.heap.size) (.bool (rB (R i))) (.slice M N Q) (.slice F G H)/\im w' z i (.bool (rB (P i))) (.slice po pl pc) (.slice qo ql qc)) (fun hHeld=>?_);refine tk 16 [(0,43,.pointer (some ⟨w.heap.size,8,none⟩)),(1,44,.func (.func 65) #[] #[]),(2,45,Value.agg #[.bool (rB (R i)),.slice M N Q,.slice F G H])] ?_;try simp only [pA,pL,vA,vL,q0,q1,q2,q3]
         refine de 15 3 (fun K y=>?_);simp only [ax,q4,q5,q6,q7];go_simp
         go_at_call_of 65 (Value.agg #[.bool (rB (R i)),.slice M N Q,.slice F G H])
         refine (bd _ (R i) L _ (X2.keep0 (gx GG))).mono ?_;rintro e wa ⟨rfl,X⟩;rw [J];have GG:=aa (gx GG) X;have ha:=CX.out wa GG;go_wp2_with fail;refine bk y (fun hHeld=>?_);clear y K;refine tk 11 [(4,47,.bool true),(5,48,.pointer (some ⟨w.heap.size,8,none⟩)),(6,49,.func (.func 65) #[] #[]),(7,50,Value.agg #[.bool (rB (R k)),.slice t u x,.slice a c f])] ?_;try simp only [pA,pL,vA,vL,q0,q1,q2,q3]
         refine de 10 8 (fun K y=>?_);simp only [ax,q4,q5,q6,q7];go_simp
         go_at_call_of 65 (Value.agg #[.bool (rB (R k)),.slice t u x,.slice a c f])
         refine (bd _ (R k) L _ ((hH.kept KL).keep0 (gx GG))).mono ?_;rintro e wz ⟨rfl,gz⟩;rw [ho];have GG:=aa (gx GG) gz;have hz:=CX.out wz GG;go_wp2_with fail;refine bk y (fun hHeld=>?_);clear y K;refine tk 3 [(9,52,.bool false),(10,53,.pointer (some ⟨w.heap.size,8,none⟩)),(11,54,.func (.func 65) #[] #[]),(12,55,.slice (some ⟨z,0,none⟩) n S),(13,56,.int .i64 (i:Nat)),(14,57,.pointer (some ⟨z,i*3,none⟩)),(15,58,Value.agg #[.bool (rB (P i)),.slice po pl pc,.slice qo ql qc])] ?_;try simp only [pA,pL,vA,vL,q0,q1,q2,q3]
         refine de 2 16 (fun K y=>?_);simp only [ax,q4,q5,q6,q7];go_simp
         go_at_call_of 65 (Value.agg #[.bool (rB (P i)),.slice po pl pc,.slice qo ql qc])
         refine (bd _ (P i) L _ (Q2.keep0 (gx GG))).mono ?_;rintro e wv ⟨rfl,gv⟩;have GG:=aa (gx GG) gv;have hv:=CX.out wv GG;go_wp2_with fail;refine bk y (fun hHeld=>?_);clear y K;refine tk 0 [(17,60,.bool (decide (P i=0))),(18,61,.bool (decide (P i=0)))] ?_;try simp only [pA,pL,vA,vL,q0,q1,q2,q3]
         refine wpAnyH_done zK ?_ _
         (go_wp2_with fail;go_meet;exact ⟨by rw [J,ho,Bool.true_and,Bool.false_or],(gx GG)⟩)
       ·have J:Hid (decide (R i=0)=false):=decide_eq_false hx;clear hx;refine hd (fun w'=>(iD w' (w.heap.size)/\bX w' (w.heap.size+1) (.bool (rB d)) (.slice lo U lc) (.slice l p s)/\bX w' (gp) (.bool (rB (P k))) (.slice uo A B) (.slice C D E)/\bX w' (gr) (.bool (rB (R k))) (.slice t u x) (.slice a c f))/\bX w' (wr.heap.size) (.bool (rB (R i))) (.slice M N Q) (.slice F G H)/\im w' z i (.bool (rB (P i))) (.slice po pl pc) (.slice qo ql qc)) (fun hHeld=>?_);refine tk 16 [(0,43,.pointer (some ⟨w.heap.size,8,none⟩)),(1,44,.func (.func 65) #[] #[]),(2,45,Value.agg #[.bool (rB (R i)),.slice M N Q,.slice F G H])] ?_;try simp only [pA,pL,vA,vL,q0,q1,q2,q3]
        refine de 15 3 (fun K y=>?_);simp only [ax,q4,q5,q6,q7];go_simp
        go_at_call_of 65 (Value.agg #[.bool (rB (R i)),.slice M N Q,.slice F G H])
        refine (bd _ (R i) L _ (X2.keep0 (gx GG))).mono ?_;rintro e wa ⟨rfl,X⟩;rw [J];have GG:=aa (gx GG) X;have ha:=CX.out wa GG;go_wp2_with fail;refine bk y (fun hHeld=>?_);clear y K;refine tk 14 [(4,47,.bool false)] ?_;refine sk 1 [(5,48),(6,49),(7,50),(8,51),(9,52),(10,53),(11,54),(12,55),(13,56),(14,57),(15,58),(16,59),(17,60)] ?_;try simp only [pA,pL,vA,vL,q0,q1,q2,q3]
        refine tk 0 [(18,61,.bool false)] ?_;try simp only [pA,pL,vA,vL,q0,q1,q2,q3]
        refine wpAnyH_done zK ?_ _
        (go_wp2_with fail;go_meet;exact ⟨by rw [J,Bool.false_and],(gx GG)⟩)
      case rest =>
       obtain ⟨rfl,g4⟩:=hcut.out;have G4:=ab g4;clear hcut g4 GG s0;by_cases V:R i=0/\(R k=0∨P i=0)
       ·have hb:(decide (R i=0) && (decide (R k=0) || decide (P i=0)))=true:=by
         obtain ⟨h1,h2⟩:=V;rw [decide_eq_true h1,Bool.true_and,Bool.or_eq_true];rcases h2 with h2 | h2
         ·left;exact decide_eq_true h2
         ·right;exact decide_eq_true h2
        rw [hb];have HS:=ab V;clear V hb;go_wp2;go_roundw
        case rel=>exact ⟨i+1,O,zN,(L1.keep0 (aa G3 G4)).congr (fun j _=>vX (ye HS.1 HS.2) j),L2.gr (aa G3 G4)⟩
        case measure=>simp [intOf];omega
       ·have hb:(decide (R i=0) && (decide (R k=0) || decide (P i=0)))=false:=by
         rw [Bool.and_eq_false_iff];by_cases h1:R i=0
         ·right
          rw [Bool.or_eq_false_iff];exact ⟨decide_eq_false (fun h=>V ⟨h1,.inl h⟩),decide_eq_false (fun h=>V ⟨h1,.inr h⟩)⟩
         ·left;exact decide_eq_false h1
        rw [hb];clear V hb;have X4:=ab (X2.keep0 G4);have Q4:=ab (Q2.keep0 G4);have K4:=ab (KL.trans (aL.of_gr G4));have hq:Hid (∀ wx,wc.grownBy wx none->(iD wx (w.heap.size)/\bX wx (w.heap.size+1) (.bool (rB d)) (.slice lo U lc) (.slice l p s)/\bX wx (gp) (.bool (rB (P k))) (.slice uo A B) (.slice C D E)/\bX wx (gr) (.bool (rB (R k))) (.slice t u x) (.slice a c f))/\bX wx (wr.heap.size) (.bool (rB (R i))) (.slice M N Q) (.slice F G H)/\im wx z i (.bool (rB (P i))) (.slice po pl pc) (.slice qo ql qc)):=fun wx hg=>CX wx (aa G4 hg)
        have qf:Hid (∀ wx,wc.grownBy wx none->aH wx b n (fJ R P k d i) L/\im wx b i (.bool (rB (R i))) (.slice M N Q) (.slice F G H)):=fun wx hg=>RB wx (aa G4 hg)
        have jc:b≠w.heap.size:=O
        have jg:b≠w.heap.size+1:=O
        have jk:b≠gp:=O
        have jl:b≠gr:=O
        have jo:b≠wr.heap.size:=O
        have GG:wc.grownBy wc none:=ae _ _;have s0:=hq.out wc GG;go_wp2;go_region_held3 (fun w'=>(iD w' (w.heap.size)/\bX w' (w.heap.size+1) (.bool (rB d)) (.slice lo U lc) (.slice l p s)/\bX w' (gp) (.bool (rB (P k))) (.slice uo A B) (.slice C D E)/\bX w' (gr) (.bool (rB (R k))) (.slice t u x) (.slice a c f))/\bX w' (wr.heap.size) (.bool (rB (R i))) (.slice M N Q) (.slice F G H)/\im w' z i (.bool (rB (P i))) (.slice po pl pc) (.slice qo ql qc)) (go_keep)
         (first | (go_at_call_of 63 (Value.agg #[.bool (rB (P k)),.slice uo A B,.slice C D E]);refine (eN _ _ (P k) (R i) L L _ ((qa.kept K4).keep0 (gx GG)) (X4.keep0 (gx GG)) O).mono ?_;rintro e wa ⟨va,rfl,pa,X⟩;obtain ⟨ao,al,ac,mp,ms,mt,rfl⟩:=pa.shape;(try have pe:=pe.keep0 (aa kw X));have GG:=aa (gx GG) X;have ha:=hq.out wa GG) | (go_at_call_of 63 (Value.agg #[.bool (rB (R k)),.slice t u x,.slice a c f]);refine (eN _ _ (R k) (P i) L L _ ((hH.kept K4).keep0 (gx GG)) (Q4.keep0 (gx GG)) O).mono ?_;rintro e we ⟨ve,rfl,pe,ge⟩;obtain ⟨eo,el,ec,Ha,Hb,Hc,rfl⟩:=pe.shape;(try have pa:=pa.keep0 (aa kw ge));have GG:=aa (gx GG) ge;have he:=hq.out we GG) | (go_at_call 62;refine (dr _ _ (P k*R i) (R k*P i) (L+L+1) (L+L+1) _ (pa.keep0 kw) (pe.keep0 kw) O).mono ?_;rintro e wm ⟨vm,rfl,pm,gm⟩;obtain ⟨mo,ml,mc,kb,kc,kf,rfl⟩:=pm.shape;have GG:=aa (gx GG) gm;have hm:=hq.out wm GG) | (go_at_call 64;refine (pK _ _ (P k*R i-R k*P i) d (L+L+1+(L+L+1)+2) L _ (pm.keep0 kw) ((kN.kept K4).keep0 (gx GG)) HD O).mono ?_;rintro e wy ⟨vy,rfl,py,gy⟩;obtain ⟨F,G,H,Hd,He,Hf,rfl⟩:=py.shape;have GG:=aa (gx GG) gy;have hy:=hq.out wy GG;have py:=py.tight (L':=L) (HF i hlt);obtain ⟨fr,t0⟩:=qf.out wy GG;obtain ⟨_,_,_,_,_,_,_,_,_,_,tf⟩:=fr.at i hlt;have jp:=tf (i*3);have jv:=tf (i*3+1);have md:=tf (i*3+2);clear tf))
        all_goals
         have FR:=ab fr;have PY:=ab py;have GF:=ab (aa (aa G3 G4) GG);clear fr py GG;go_wp2;go_roundw
         case rel =>
          obtain ⟨r1,r2,r3⟩:=FR.out.set i hlt PY;exact ⟨i+1,O,zN,r1.congr (fun j _=>yg R P k d i j),(L2.gr GF).trans ⟨r2,r3⟩⟩
         case measure=>simp [intOf];omega
     ·obtain rfl:i=n:=O
      go_wp2;go_end0
      exact ⟨rfl,L1.congr (fun j hj=>by unfold fJ;rw [if_pos hj]),(aI.of_gr hX).trans L2⟩
structure bT (w:World) (br m n:Nat) (bs cs:Nat->Nat) (R:Nat->Nat->Rat) (L:Nat):Prop where
 top:∃ cur e,w.heap[br]? = some (.cells cur e (0,0))/\∀ i,i<m->cur[i]? = some (.slice (some ⟨bs i,0,none⟩) n (cs i))
 cap:∀ i,i<m->n<=cs i/\cs i<=maxLen
 row:∀ i,i<m->aH w (bs i) n (R i) L
 inj:∀ i j,i<m->j<m->bs i=bs j->i=j
 off:∀ i,i<m->bs i≠br
theorem bT.lt (h:bT w br m n bs cs R L):br<w.heap.size:=by
 obtain ⟨cur,e,hb,_⟩:=h.top;exact (zZ hb).1
theorem bT.cell (h:bT w br m n bs cs R L) (i:Nat) (hi:i<m) :
  w.cell? ⟨br,i,none⟩=some (.slice (some ⟨bs i,0,none⟩) n (cs i))/\∀ k,w.frozen? ⟨br,k,none⟩=false:=by
 obtain ⟨cur,e,hb,hc⟩:=h.top;exact ⟨by simp only [World.cell?,hb];exact hc i hi,fun k=>by simp [World.frozen?,hb]⟩
theorem bT.keep0 (h:bT w br m n bs cs R L) (g:w.grownBy w' none):bT w' br m n bs cs R L:=by
 have a:=h.lt;obtain ⟨cur,e,hb,hc⟩:=h.top;exact ⟨⟨cur,e,by rw [g.block br a Z];exact hb,hc⟩,h.cap,fun i hi=>(h.row i hi).keep0 g,h.inj,h.off⟩
theorem bT.congr {R':Nat->Nat->Rat} (h:bT w br m n bs cs R L) (e:∀ i,i<m->∀ j,j<n->R i j=R' i j):bT w br m n bs cs R' L :=
 ⟨h.top,h.cap,fun i hi=>(h.row i hi).congr (e i hi),h.inj,h.off⟩
theorem bT.step (h:bT w br m n bs cs R L) {i:Nat} (hi:i<m) {Q:Nat->Rat} (d:aH w' (bs i) n Q L) (g:aI w w' (bs i)) :
  bT w' br m n bs cs (fun j=>if j=i then Q else R j) L:=by
 have f:=h.lt;obtain ⟨cur,e,hb,hc⟩:=h.top;refine ⟨⟨cur,e,by rw [g.1.block br f (fun e=>h.off i hi (zJ e).symm)];exact hb,hc⟩,h.cap,fun j c=>?_,h.inj,h.off⟩;by_cases a:j=i
 ·subst a;simp only [if_true];exact d
 ·simp only [if_neg a];exact (h.row j c).keep g.1 g.2 (fun e=>a (h.inj j i c hi (zJ e)))
theorem bT.keepR (h:bT w br m n bs cs R L) (g:aI w w' b) (a:br≠b) (c:∀ i,i<m->bs i≠b):bT w' br m n bs cs R L:=by
 have d:=h.lt;obtain ⟨cur,e,hb,hc⟩:=h.top;exact ⟨⟨cur,e,by rw [g.1.block br d (fun e=>a (zJ e))];exact hb,hc⟩,h.cap,fun i hi=>(h.row i hi).keep g.1 g.2 (fun e=>c i hi (zJ e)),h.inj,h.off⟩
theorem aH.mono {L':Nat} {R:Nat->Rat} (h:aH w b n R L) (a:L<=L'):aH w b n R L':=by
 obtain ⟨cur,e,hb,hc⟩:=h;refine ⟨cur,e,hb,fun i hi=>?_⟩;obtain ⟨u,d,c0,c1,c,f⟩:=hc i hi;exact ⟨u,d,c0,c1,c,f.mono a⟩
def StuckE (w:World) (m done:Nat) (R:Nat->Nat->Rat) (e:Ending) (w':World):Prop :=
 ∃ c:Int,e=.returned (.int .i64 c)/\((c=7/\∃ i,done<=i/\i<m/\R i m≠0)∨(c=8/\∀ i,done<=i->i<m->R i m=0))/\w.grownBy w' none
def StkR (W:World) (m done:Nat) (R:Nat->Nat->Rat) (v:Value) (wr:World):Prop :=
 ∃ i:Nat,done+i<=m/\v=.int .i64 i/\(∀ j,done<=j->j<done+i->R j m=0)/\W.grownBy wr none
theorem Ep (z:Bool) (A f:Option Addr) (fl fc g h:Nat) (br m cap done:Nat) (bs cs:Nat->Nat) (R:Nat->Nat->Rat) (L:Nat) (w:World) (s:bT w br m (m+1) bs cs R L) (hd:done<=m) (hm:m<=1000) (hc:m<=cap) (t:cap<=maxLen) :
  Calls Tryz.prog 113 #[(jP z (.slice A fl fc) (.slice f g h)),.slice (some ⟨br,done,none⟩) (m-done) (cap-done)] w fun e w'=>StuckE w m done R e w':=by
 unfold maxLen at t;have B:=ab s;have he:=s.lt;clear s;obtain ⟨W,p⟩:=eX (w.alloc (Obj.cells #[.bool z,.slice A fl fc,.slice f g h,.func (.func 60) #[] #[],.func (.func 61) #[] #[],.func (.func 62) #[] #[],.func (.func 63) #[] #[],.func (.func 64) #[] #[],.func (.func 65) #[] #[],.func (.func 66) #[] #[],.func (.func 67) #[] #[]] 87));have u:Hid (w.grownBy W none):=by rw [p];exact ag (ae _ _) _
 have FC:Hid (∀ wx,W.grownBy wx none->wx.cell? ⟨w.heap.size,8,none⟩=some (.func (.func 65) #[] #[])):=by
  intro wx hg;rw [p] at hg;exact hg.cell zG Z
 have C:=ab (B.keep0 u);go_enter Tryz.func113,Tryz.ntmps113
 go_wp2;rw [<- p];clear p;go_loopw [9] (fun v wr=>Hid (StkR W m done R v wr)) (fun v _=>m-done-(intOf v).toNat)
 case atStart=>exact ⟨0,O,rfl,fun j r h2=>O,ae _ _⟩
 case round =>
  obtain ⟨i,hi,rfl,N,P⟩:=hrel.out;have D:=ab N;have c:=ab P;clear N P hrel;by_cases hlt:done+i<m
  ·have k:i<m-done:=O
   have x:=(B.cap (done+i) hlt);obtain ⟨Q,l⟩:=x;unfold maxLen at l;have ct:=((C.keep0 c).cell (done+i) hlt).1;obtain ⟨uo,S,T,U,V,X,c0,c1,Y,c3,_⟩:=((C.keep0 c).row (done+i) hlt).at m O;have C3:=ab c3;have E:Hid (∀ wx,wr.grownBy wx none->wx.cell? ⟨w.heap.size,8,none⟩=some (.func (.func 65) #[] #[])/\wx.cell? ⟨bs (done+i),m*3,none⟩=some (.bool (rB (R (done+i) m)))/\wx.cell? ⟨bs (done+i),m*3+1,none⟩=some (.slice uo S T)/\wx.cell? ⟨bs (done+i),m*3+2,none⟩=some (.slice U V X)):=by
    intro wx hg;exact ⟨FC wx (aa c hg),hg.cell c0 Z,hg.cell c1 Z,hg.cell Y Z⟩
   clear c0 c1 Y c3;have GG:wr.grownBy wr none:=ae _ _;have F:IntKind.i64.wrap (((m+1:Nat):Int)-1)=(m:Int):=by rw [IntWalk.i64_in _ ⟨O,O⟩];omega
   have G:IntKind.i64.wrap ((m:Int)+1-1)=(m:Int):=by rw [IntWalk.i64_in _ ⟨O,O⟩];omega
   have H:IntKind.i64.wrap (m:Int)=(m:Int):=IntWalk.i64_in _ ⟨O,O⟩;have I:(0:Int)<=(m:Int):=O
   have J:(m:Int)<(m:Int)+1:=O
   obtain ⟨s0,s1,s2,s3⟩:=E.out wr GG;go_wp2;go_cut [22] (fun s22 wx=>Hid (s22=.bool (!(decide (R (done+i) m=0)))/\wr.grownBy wx none))
   case first =>
    go_region_held3 (fun w'=>w'.cell? ⟨w.heap.size,8,none⟩=some (.func (.func 65) #[] #[])/\w'.cell? ⟨bs (done+i),m*3,none⟩=some (.bool (rB (R (done+i) m)))/\w'.cell? ⟨bs (done+i),m*3+1,none⟩=some (.slice uo S T)/\w'.cell? ⟨bs (done+i),m*3+2,none⟩=some (.slice U V X)) (go_keep)
     (first | (go_at_call 65;refine (bd _ (R (done+i) m) L _ (C3.keep0 zF)).mono ?_;rintro e wa ⟨rfl,ga⟩;have GG:wr.grownBy wa none:=aa zF ga;obtain ⟨a0,a1,a2,a3⟩:=E.out wa GG))
    all_goals (go_wp2_with fail;go_meet;exact ⟨rfl,zF⟩)
   case rest =>
    obtain ⟨rfl,g2⟩:=hcut.out;have K:=ab g2;clear hcut g2 GG s0 s1 s2 s3;by_cases d:R (done+i) m=0
    ·have a:(!(decide (R (done+i) m=0)))=false:=by simp [d]
     rw [a];have y:=ab d;clear d a;go_wp2;go_roundw
     case rel =>
      refine ⟨i+1,O,zN,fun j r h2=>?_,aa c K⟩;by_cases hj:j=done+i
      ·rw [hj];exact y
      ·exact D j r O
     case measure=>simp [intOf];omega
    ·have a:(!(decide (R (done+i) m=0)))=true:=by simp [d]
     rw [a];have y:=ab d;clear d a;go_wp2;refine bodyPost_ret (v:=.int .i64 7) (by simp [results,Tryz.results113,go_sem]) rfl ?_;exact ⟨7,rfl,.inl ⟨rfl,done+i,O,hlt,y⟩,aa u (aa c K)⟩
  ·have k:i=m-done:=O
   have M:¬ (i<m-done):=O
   go_wp2;refine bodyPost_ret (v:=.int .i64 8) (by simp [results,Tryz.results113,go_sem]) rfl ?_;exact ⟨8,rfl,.inr ⟨rfl,fun j r h2=>D j r O⟩,aa u c⟩
theorem aX (w:World) (L:Nat):FQ w (.agg #[.bool (rB 0),.slice none 0 0,.slice none 0 0]) 0 L:=by
 have a:rN 0=0:=rfl;have c:(0:Rat).den=1:=rfl;unfold FQ;rw [a,c];exact ⟨_,_,rfl,⟨[],Ws.nil _,rfl,rfl,Z⟩,.inl ⟨rfl,rfl⟩,rfl,zD⟩
theorem Tryz.infoF:(Tryz.prog.info? 81).map (fun i=>(i.zero,i.size,i.bytes))=some (some (.agg #[.bool false,.slice none 0 0,.slice none 0 0]),3,56):=zK
theorem kT {P:Program} (w:World) {f:Array Oper} {rest:List Oper} {o:Oper} {a:Act} {Q:Exit->Act->World->Prop}
  (hg:o.guard=none) (l c:Operand) (t:TypeId) (hop:o.op=Op.makeSlice t l c)
  (h1:P.underlying t=some (.slice 81)) (hinfo:(P.info? 81).map (fun i=>(i.zero,i.size,i.bytes))=some (some (.agg #[.bool false,.slice none 0 0,.slice none 0 0]),3,56))
  (kl kc:IntKind) (L C:Int) (n:Nat) (hl:a.eval l=.int kl L) (hc:a.eval c=.int kc C) (hL:L=(n:Int)) (hC:C=(n:Int)) (b2:n<=1000000)
  (hK:∀ w',aH w' w.heap.size n (fun _=>0) 0->w.grownBy w' none->wpList P f Q rest (a.put o.dst (.slice (some ⟨w.heap.size,0,none⟩) n n)) w') :
  wpList P f Q (o :: rest) a w:=by
 obtain ⟨i,hi,r,s,u⟩:=info_parts hinfo;refine wpList_make_full w hg l c t hop w.heap.size 81 i _ 3 h1 hi r s kl kc L C n hl hc hL hC (by rw [u];omega) (by unfold maxLen;omega) zL ?_;intro w' k p;refine hK w' ?_ p;obtain ⟨_,h⟩:=k;rcases h with ⟨h,_⟩ | ⟨g,cap,cur,h,_,hh,_,_,v,x⟩
 ·simp at h
 ·simp only [Value.slice.injEq,zI,Addr.mk.injEq,and_true,true_and] at h;obtain ⟨rfl,rfl⟩:=h;have d:cur=madeCells (Value.agg #[.bool false,.slice none 0 0,.slice none 0 0]).cells (n*3):=by
   apply Array.ext';rw [<- x,zT (by simp [v])]
  refine ⟨cur,_,hh,fun j y=>⟨.slice none 0 0,.slice none 0 0,?_,?_,?_,aX _ _⟩⟩
  ·rw [d];have e:j*3 % 3=0:=O
   simp only [madeCells,Value.cells,Array.getElem?_map];rw [Array.getElem?_eq_getElem (by simp;omega)];simp [e];rfl
  ·rw [d];have e:(j*3+1) % 3=1:=O
   simp only [madeCells,Value.cells,Array.getElem?_map];rw [Array.getElem?_eq_getElem (by simp;omega)];simp [e]
  ·rw [d];have e:(j*3+2) % 3=2:=O
   simp only [madeCells,Value.cells,Array.getElem?_map];rw [Array.getElem?_eq_getElem (by simp;omega)];simp [e]
theorem mB {a:Option Addr} {c d e f:Nat} (h:FQ w (.agg #[.bool (rB q),.slice uo c d,.slice a e f]) q L) :
  aH (w.alloc (Obj.cells #[.bool (rB q),.slice uo c d,.slice a e f] 81)) w.heap.size 1 (fun _=>q) L:=by
 refine ⟨_,_,heap_alloc_new w _,fun i hi=>?_⟩;obtain rfl:i=0:=O
 exact ⟨_,_,rfl,rfl,rfl,h.keep0 (ag (ae _ _) _)⟩
theorem oC {a:World} {c:Option Addr} {d f g j:Nat} (hg:(w.alloc (Obj.cells #[.bool false,.slice none 0 0,.slice none 0 0] 81)).grownBy a none)
  (h:FQ a (.agg #[.bool (rB q),.slice uo d f,.slice c g j]) q L) :
  aH (((a.setCell ⟨w.heap.size,0,none⟩ (.bool (rB q))).setCell ⟨w.heap.size,1,none⟩ (.slice uo d f)).setCell ⟨w.heap.size,2,none⟩ (.slice c g j)) w.heap.size 1 (fun _=>q) L:=by
 have e:a.heap[w.heap.size]? = some (Obj.cells #[.bool false,.slice none 0 0,.slice none 0 0] 81 (0,0)):=by
  rw [hg.block w.heap.size Z Z];exact heap_alloc_new w _
 have k:aH a w.heap.size 1 (fun _=>0) L:=⟨_,_,e,fun i hi=>by
  obtain rfl:i=0:=O
  exact ⟨_,_,rfl,rfl,rfl,aX _ _⟩⟩
 have:=(k.set 0 O h).1;simp only [Nat.zero_mul,Nat.zero_add] at this;exact this.congr (fun i hi=>by
  obtain rfl:i=0:=O
  simp [aJ])
theorem aH.var (h:aH w b 1 (fun _=>q) L) :
  ∃ uo ul uc do_ dl dc,w.cell? ⟨b,0,none⟩=some (.bool (rB q))/\w.cell? ⟨b,1,none⟩=some (.slice uo ul uc)/\w.cell? ⟨b,2,none⟩=some (.slice do_ dl dc)
   /\ FQ w (.agg #[.bool (rB q),.slice uo ul uc,.slice do_ dl dc]) q L/\∀ k,w.frozen? ⟨b,k,none⟩=false:=by
 obtain ⟨a,b,c,d,e,f,g,i,j,l,p⟩:=h.at 0 O;exact ⟨a,b,c,d,e,f,by simpa using g,by simpa using i,by simpa using j,l,p⟩
theorem aH.varset {L':Nat} {p:Rat} (h:aH w b 1 (fun _=>p) L') {a:Option Addr} {c f g j:Nat} (k:FQ w (.agg #[.bool (rB q),.slice uo c f,.slice a g j]) q L) (l:L'<=L) :
  aH (((w.setCell ⟨b,0,none⟩ (.bool (rB q))).setCell ⟨b,1,none⟩ (.slice uo c f)).setCell ⟨b,2,none⟩ (.slice a g j)) b 1 (fun _=>q) L:=by
 have r:aH w b 1 (fun _=>p) L:=by
  obtain ⟨cur,e,hb,hc⟩:=h;refine ⟨cur,e,hb,fun i hi=>?_⟩;obtain ⟨u,d,c0,c1,s,t⟩:=hc i hi;exact ⟨u,d,c0,c1,s,t.mono l⟩
 have:=(r.set 0 O k).1;simp only [Nat.zero_mul,Nat.zero_add] at this;exact this.congr (fun i hi=>by
  obtain rfl:i=0:=O
  simp [aJ])
def cH (w:World) (bo m:Nat) (o:Nat->Nat):Prop:=∃ cur e,w.heap[bo]? = some (.cells cur e (0,0))/\∀ i,i<m->cur[i]? = some (.int .i64 ((o i:Nat):Int))
theorem cH.lt (h:cH w bo m o):bo<w.heap.size:=by
 obtain ⟨cur,e,hb,_⟩:=h;exact (zZ hb).1
theorem cH.keep {r:Option Nat} (h:cH w bo m o) (g:w.grownBy w' r) (a:some bo≠r):cH w' bo m o:=by
 have c:=h.lt;obtain ⟨cur,e,hb,hc⟩:=h;exact ⟨cur,e,by rw [g.block bo c a];exact hb,hc⟩
theorem cH.at (h:cH w bo m o) (i:Nat) (hi:i<m):w.cell? ⟨bo,i,none⟩=some (.int .i64 ((o i:Nat):Int)):=by
 obtain ⟨cur,e,hb,hc⟩:=h;simp only [World.cell?,hb];exact hc i hi
theorem aH.cells {R:Nat->Rat} (h:aH w b n R L):∃ xs:List Value,xs.length=n*3/\(∀ j u,xs[j]? = some u->w.cell? ⟨b,j,none⟩=some u)/\(∀ u∈xs,u.oneCell'=true)
  /\ ∀ (w':World) (g:Nat) (cur':Array Value) (e:TypeId),aL w w'->w'.heap[g]? = some (.cells cur' e (0,0))->cur'.toList.take (n*3)=xs->aH w' g n R L:=by
 obtain ⟨cur,e,hb,hc⟩:=h;have z:n*3<=cur.size:=by
  rcases zP n with G | G
  ·omega
  ·obtain ⟨u,d,_,_,p,_⟩:=hc (n-1) O;have:=(zZ p).1;omega
 refine ⟨cur.toList.take (n*3),by simp;omega,?_,?_,?_⟩
 ·intro j u f;rw [List.getElem?_take] at f;split at f
  ·simp only [World.cell?,hb];rw [<- Array.getElem?_toList];exact f
  ·cases f
 ·intro u B;obtain ⟨j,f,x⟩:=List.mem_iff_getElem.1 B;have A:j<n*3:=by simp at f;omega
  have c:cur[j]? = some u:=by
   rw [<- Array.getElem?_toList,zX (by simp;omega)];rw [List.getElem_take] at x;rw [x]
  obtain ⟨a,d,c0,c1,p,s⟩:=hc (j / 3) O;obtain ⟨uo,I,J,H,K,M,y⟩:=s.shape;simp only [Value.agg.injEq,Array.mk.injEq,List.cons.injEq,and_true,true_and] at y;obtain ⟨rfl,rfl⟩:=y;have k:j=j / 3*3∨j=j / 3*3+1∨j=j / 3*3+2:=O
  rcases k with r | r | r
  ·rw [r,c0] at c;rw [<- zJ c];rfl
  ·rw [r,c1] at c;rw [<- zJ c];rfl
  ·rw [r,p] at c;rw [<- zJ c];rfl
 ·intro w' g cur' C D hg E;refine ⟨cur',C,hg,fun i hi=>?_⟩;obtain ⟨u,d,c0,c1,p,s⟩:=hc i hi;have l:∀ j v,j<n*3->cur[j]? = some v->cur'[j]? = some v:=by
   intro j v f F;have t:(cur'.toList.take (n*3))[j]? = (cur.toList.take (n*3))[j]?:=by rw [E]
   rw [List.getElem?_take,List.getElem?_take,if_pos f,if_pos f,Array.getElem?_toList,Array.getElem?_toList,F] at t;exact t
  exact ⟨u,d,l _ _ O c0,l _ _ O c1,l _ _ O p,s.kept D⟩
theorem vC (b n cap:Nat) (R:Nat->Rat) (L:Nat) (w:World) (h:aH w b n R L) (Q:0<n) (hn:n<=3000) (hc:n<=cap) (A:cap<=maxLen) :
  Calls Tryz.prog 73 #[.slice (some ⟨b,0,none⟩) n cap] w
   fun e w'=>∃ g c,e=.returned (.slice (some ⟨g,0,none⟩) n c)/\w.heap.size<=g/\n<=c/\c<=maxLen/\aH w' g n R L/\w.grownBy w' none:=by
 obtain ⟨N,hi,t,v,x⟩:=info_parts Tryz.infoF;obtain ⟨xs,P,B,C,D⟩:=h.cells;have E:=ab B;have F:=ab C;have G:=ab D;have p:=A;unfold maxLen at p;clear h B C D A;have S:∀ W,(binOp .eql 58 (.slice (some ⟨b,0,none⟩) n cap) (.slice none 0 0)).run Tryz.prog W=.ok (.bool false) W:=fun W=>Lib.run_eql_slice_nil W _ _ (some _) _ _ 0 0 Tryz.underlying58
 go_enter Tryz.func73,Tryz.ntmps73
 go_wp2_with (at_builtin;refine wpList_append_own _ rfl _ _ 58 rfl w.heap.size 81 N _ 3 56 Tryz.underlying58 hi t v x rfl zD _ 0 [] rfl ?c0 ⟨b,0,none⟩ n cap xs rfl ?c1 ?c2 ?c3 ?c4 ?c5 ?c6 ?_)
 case c0=>exact World.ownsRow_made w #[] 0 zL (by unfold maxLen;omega) Z
 case c1=>exact P
 case c2 =>
  intro j u K;have r:=(World.grownBy_alloc w (Obj.cells #[] 81) none).cell (E j u K) Z;rw [show (⟨b,0,none⟩:Addr).add j=⟨b,j,none⟩ from by simp [Addr.add];omega];exact r
 case c3=>exact F
 case c4=>unfold maxLen;omega
 case c5=>omega
 case c6=>simp
 intro M w1 d i s;have a:w.grownBy w1 none:=aw (r1:=none) (World.grownBy_alloc w _ none) i (fun _ _ e=>e) (fun b hb e=>by simp [Value.ownBlock] at e;omega);have H:=ab a;obtain ⟨g,c,rfl,hg,y,k,f⟩:∃ g c,M=.slice (some ⟨g,0,none⟩) n c/\w.heap.size<=g/\n<=c/\c<=maxLen/\aH w1 g n R L:=by
  rcases d.2 with ⟨e,T⟩ | ⟨g,l,cur,e,hb,hh,U,r,V,z⟩
  ·omega
  ·refine ⟨g,l,by first | exact e | (rw [e,Nat.zero_add]),hb,O,r,G w1 g cur _ (aL.of_gr a) hh ?_⟩;first | exact z | (rw [Nat.zero_add] at z;exact z)
 have I:=ab f;have J:=ab k;clear d i a s f k;go_wp2;go_ret;exact ⟨g,c,rfl,hg,y,J,I,H⟩
def wL (w:World) (k:Nat):Prop:=∀ i f (x:Nat),w.cell? ⟨k,i,f⟩≠some (.int .u32 (x:Nat))
def nL (w:World) (v:Value):Prop:=∀ k,v.ownBlock=some k->wL w k
theorem nL.nil (w:World):nL w (.slice none 0 0):=fun k e=>by simp [Value.ownBlock] at e
theorem wL.cells {k:Nat} {e:TypeId} (hb:w.heap[k]? = some (.cells cur e (0,0))) (h:∀ u∈cur.toList,∀ x:Nat,u≠.int .u32 (x:Nat)):wL w k:=by
 intro i f x hc;cases f with
 | none =>
  simp only [World.cell?,hb] at hc;have a:cur.toList[i]? = some (.int .u32 (x:Nat)):=by rw [Array.getElem?_toList];exact hc
  exact h _ (List.mem_of_getElem? a) x rfl
 | some g=>simp [World.cell?,hb] at hc
theorem wL.all {k:Nat} {e:TypeId} (hb:w.heap[k]? = some (.cells cur e (0,0))) (h:wL w k):∀ u∈cur.toList,∀ x:Nat,u≠.int .u32 (x:Nat):=by
 intro u a x c;obtain ⟨i,hi⟩:=List.mem_iff_getElem?.1 a;refine h i none x ?_;simp only [World.cell?,hb];rw [<- c,<- Array.getElem?_toList];exact hi
theorem wL.keep {k:Nat} {r:Option Nat} (h:wL w k) (a:k<w.heap.size) (g:w.grownBy w' r) (c:some k≠r):wL w' k:=by
 intro i f x e;rw [World.cell?_of_block (g.block k a c)] at e;exact h i f x e
theorem qJ (z:Array Value) (n:Nat) (h:z.size=1):∀ u∈(Builtin.zeroCells z n).toList,u=z[0]!:=by
 intro u a;unfold Builtin.zeroCells at a;simp only [Array.toList_map,List.mem_map] at a;obtain ⟨i,_,rfl⟩:=a;rw [h,Nat.mod_one]
theorem kS {P:Program} (w:World) (base:Nat) (t C e:TypeId) (i:TypeInfo) (z:Value) (l:Nat) (I:P.underlying t=some (.slice e)) (hi:P.info? e=some i) (K:i.zero=some z)
  (hsize:i.size=1) (hby:i.bytes=l) (hzs:z.cells.size=1) (hz1:∀ x:Nat,z.cells[0]!≠.int .u32 (x:Nat))
  (v:Value) (n:Nat) (xs:List Value) (hown:w.ownsRow base e 1 v n xs) (hnw:nL w v) (hxs:∀ u∈xs,∀ x:Nat,u≠.int .u32 (x:Nat))
  (a:Addr) (c:Nat) (y:Value) (hy:w.cell? a=some y) (h1:y.oneCell'=true) (hyw:∀ x:Nat,y≠.int .u32 (x:Nat))
  (h63:n+1<=maxLen) (hbytes:(n+1)*l<=140737488355328) (hbase:base<=w.heap.size) :
  ∃ v' w',(Builtin.append_ #[t,t] C #[v,.slice (some a) 1 c]).run P w=.ok v' w'/\w'.ownsRow base e 1 v' (n+1) (xs++[y])/\w.grownBy w' v.ownBlock/\nL w' v'/\aL w w':=by
 have h:∀ j u,[y][j]? = some u->w.cell? (a.add j)=some u:=by
  intro j u S;match j with
  | 0 =>
   simp only [List.getElem?_cons_zero,zI] at S;subst S;simpa [Addr.add] using hy
  | j+1=>simp at S
 have D:∀ u∈[y],u.oneCell'=true:=by
  intro u d;simp only [List.mem_singleton] at d;subst d;exact h1
 obtain ⟨v',w',A,h2,T,_⟩:=run_append_own (P:=P) w base t C e i z 1 l I hi K hsize hby hzs zD v n xs hown a 1 c [y] rfl h D h63 hbytes hbase;refine ⟨v',w',A,h2,T,?_⟩;have J:n+1<=9223372036854775807:=by simp only [maxLen] at h63;omega
 have fresh:∀ cur:Array Value,(∀ u∈cur.toList,∀ x:Nat,u≠.int .u32 (x:Nat))->∀ c2,w'=w.drew.alloc (.cells cur e)->v'=.slice (some ⟨w.heap.size,0,none⟩) (n+1) c2->nL w' v'/\aL w w':=by
  intro cur hc c2 X Y;have M:w.grownBy w' none:=by rw [X];exact ⟨rfl,rfl,rfl,Z,fun k hk _=>heap_alloc_old w.drew _ hk⟩
  refine ⟨fun k B=>?_,aL.of_gr M⟩;rw [Y] at B;simp only [Value.ownBlock,zI] at B;subst B;exact wL.cells (by rw [X];exact heap_alloc_new w.drew _) hc
 have E:∀ k,∀ u∈(Builtin.zeroCells z.cells k).toList,∀ x:Nat,u≠.int .u32 (x:Nat):=by
  intro k u d x;rw [qJ z.cells k hzs u d];exact hz1 x
 rcases hown.2 with ⟨rfl,rfl⟩ | ⟨g,cap,cur,rfl,he,hg,hf,hl,U,V⟩
 ·have p:=run_append_nil (P:=P) w t C e i z I hi K a 1 c [y] (by rw [hsize];rfl) h O O (by rw [hby];omega);rw [p] at A;injection A with e1 e2
  refine fresh _ ?_ _ e2.symm e1.symm;intro u d;simp only [Array.toList_append,List.mem_append,List.mem_singleton] at d;rcases d with d | d
  ·subst d;exact hyw
  ·exact E _ u d
 ·by_cases r:n+1<=cap
  ·have F:n*i.size + [y].length<=cur.size:=by rw [hsize,U];simp;exact r
   have p:=run_append_room (P:=P) w t C e i I hi g n cap cur hg a 1 c [y] (by rw [hsize];rfl) h D r F;rw [p] at A;injection A with e1 e2
   have N:=hnw g rfl;have G:=setRow_heap w g cur ((cur.toList.take (n*i.size)++[y]++cur.toList.drop (n*i.size + [y].length)).toArray) e _ hg;refine ⟨fun k B=>?_,⟨T.size,fun W x ex=>?_⟩⟩
   ·rw [<- e1] at B;simp only [Value.ownBlock,zI] at B;subst B;rw [<- e2];refine wL.cells G ?_;intro u d x;simp only [List.mem_append,List.mem_singleton] at d;rcases d with (d | d) | d
    ·exact N.all hg u (List.mem_of_mem_take d) x
    ·subst d;exact hyw x
    ·exact N.all hg u (List.mem_of_mem_drop d) x
   ·have Q:W.block≠g:=fun H=>by
     obtain ⟨b,i,f⟩:=W;simp only at H;subst H;exact N i f x ex
    rw [World.cell?_of_block (T.block W.block (bZ ex) (fun H=>Q (by simp only [Value.ownBlock,zI] at H;exact H)))];exact ex
  ·have s:∀ j u,xs[j]? = some u->w.cell? ((⟨g,0,none⟩:Addr).add j)=some u:=hown.cells (g:=g) rfl;have p:=run_append_grow (P:=P) w t C e i z I hi K ⟨g,0,none⟩ n cap xs (by rw [hsize];exact hown.1) s a 1 c [y] (by rw [hsize];rfl) h O O (growslice_fits O (by rw [hby];exact hbytes));rw [p] at A;injection A with e1 e2
   refine fresh _ ?_ _ e2.symm e1.symm;intro u d;simp only [Array.toList_append,List.mem_append,List.mem_singleton] at d;rcases d with (d | d) | d
   ·exact hxs u d
   ·subst d;exact hyw
   ·exact E _ u d
def cS {α:Type} (f:α->Value) (t:TypeId) (w:World) (base:Nat) (v:Value) (xs:List α):Prop:=cW f t w base v xs/\nL w v
theorem mf {α:Type} {f:α->Value} {t:TypeId} {base:Nat} : cS f t w base (.slice none 0 0) []:=⟨me,nL.nil _⟩
theorem cS.keep {α:Type} {f:α->Value} {t:TypeId} {base:Nat} {v:Value} {xs:List α} {row:Option Nat} (h:cS f t w base v xs) (hg:w.grownBy w' row) (a:v.ownBlock=none∨v.ownBlock≠row):cS f t w' base v xs:=by
 refine ⟨h.1.keep hg a,fun k c=>(h.2 k c).keep (h.1.fresh k c).2 hg ?_⟩;rcases a with hn | hn
 ·rw [hn] at c;cases c
 ·rw [<- c];exact hn
theorem cS.keep0 {α:Type} {f:α->Value} {t:TypeId} {base:Nat} {v:Value} {xs:List α} (h:cS f t w base v xs) (hg:w.grownBy w' none):cS f t w' base v xs:=h.keep hg (by cases hv:v.ownBlock<;>simp)
theorem d6 {P:Program} {α:Type} (f:α->Value) (e:TypeId) (h:Value) (c:Nat) (W:World) {d:Array Oper} {rest:List Oper} {o:Oper} {a:Act} {Q:Exit->Act->World->Prop}
  (hg:o.guard=none) (s x:Operand) (t:TypeId) (ho:o.op=.call { callee:=.builtin .append,args:=#[s,x],argTypes:=#[t,t] }) (base:Nat)
  (h1:P.underlying t=some (.slice e)) (hinfo:(P.info? e).map (fun i=>(i.zero,i.size,i.bytes))=some (some h,1,c)) (hcz:h.cells.size=1) (hz1:∀ x:Nat,h.cells[0]!≠.int .u32 (x:Nat)) (hf:∀ u (x:Nat),f u≠.int .u32 (x:Nat))
  (v:Value) (xs:List α) (hs:a.eval s=v) (hown:cS f e W base v xs) (b:Nat) (y:α) (hx:a.eval x=.slice (some ⟨b,0,none⟩) 1 1) (hc:W.cell? ⟨b,0,none⟩=some (f y)) (h1c:(f y).oneCell'=true)
  (hlen:xs.length<=1000000) (hby:c<=24) (hbase:base<=W.heap.size)
  (hK:∀ ao cap w',cS f e w' base (.slice ao (xs.length+1) cap) (xs++[y])->W.grownBy w' v.ownBlock->aL W w'->wpList P d Q rest (a.put o.dst (.slice ao (xs.length+1) cap)) w'):wpList P d Q (o :: rest) a W:=by
 obtain ⟨i,hi,k,l,p⟩:=info_parts hinfo;have g:(xs.length+1)*c<=140737488355328:=by
  have:(xs.length+1)*c<=(1000000+1)*24:=Nat.mul_le_mul O hby;omega
 obtain ⟨B,w',C,D,E,z,F⟩:=kS (P:=P) W base t o.type e i h c h1 hi k l p hcz hz1 v xs.length (xs.map f) hown.1 hown.2
  (fun u H x=>by obtain ⟨G,_,rfl⟩:=List.mem_map.1 H;exact hf G x) ⟨b,0,none⟩ 1 (f y) hc h1c (hf y) (by unfold maxLen;omega) g hbase
 have j:cW f e w' base B (xs++[y]):=by
  unfold cW;rw [List.length_append,List.map_append];exact D
 obtain ⟨ao,cap,A⟩:=j.shape;rw [List.length_append,List.length_singleton] at A;refine wpList_plain hg fun _ r=>?_
 unfold Oper.wp execOp;simp only [ho,resolve,invoke,builtin,Sem.run_bind,Sem.run_pure,Result.andThen_ok,List.map_toArray,List.map_cons,List.map_nil,hs,hx,C];rw [A] at j z ⊢;exact r _ _ (hK ao cap w' ⟨j,z⟩ E F)
theorem sO (w:World) (b i:Nat) (v:Value):w.grownBy (w.setCell ⟨b,i,none⟩ v) (some b) :=
 ⟨rfl,rfl,rfl,Z,fun k _ a=>heap_setCell_other _ _ k _ (fun e=>a (by rw [e]))⟩
theorem aI.set {i:Nat} {e:TypeId} (hb:w.heap[b]? = some (.cells cur e (0,0))) (hi:∀ x:Nat,cur[i]?≠some (.int .u32 (x:Nat))) (v:Value):aI w (w.setCell ⟨b,i,none⟩ v) b:=⟨sO _ _ _ _,aL.set hb hi v⟩
theorem tn {e:TypeId} (hb:w.heap[br]? = some (.cells cur e (0,0))) {a:Nat} {x y:Value} (g:cur[a]? = some x) (h:cur[b]? = some y) (r:∀ z:Nat,x≠.int .u32 (z:Nat)) (k:∀ z:Nat,y≠.int .u32 (z:Nat)) :
  ∃ cur',((w.setCell ⟨br,a,none⟩ y).setCell ⟨br,b,none⟩ x).heap[br]? = some (.cells cur' e (0,0))/\(∀ i,cur'[i]? = cur[aM a b i]?)/\aI w ((w.setCell ⟨br,a,none⟩ y).setCell ⟨br,b,none⟩ x) br:=by
 have l:=(zZ g).1;have lb:=(zZ h).1;have p:=heap_setCell_same w br a cur e y hb;have s:=heap_setCell_same (w.setCell ⟨br,a,none⟩ y) br b (cur.setIfInBounds a y) e x p;refine ⟨(cur.setIfInBounds a y).setIfInBounds b x,s,fun i=>?_,(aI.set hb (fun z c=>?_) y).trans (aI.set p (fun z c=>?_) x)⟩
 ·unfold aM;by_cases d:i=b
  ·subst d;rw [if_pos rfl,Array.getElem?_setIfInBounds_self_of_lt (by simpa using lb),g]
  ·rw [if_neg d,Array.getElem?_setIfInBounds_ne (fun f=>d f.symm)];by_cases j:i=a
   ·subst j;rw [if_pos rfl,Array.getElem?_setIfInBounds_self_of_lt l,h]
   ·rw [if_neg j,Array.getElem?_setIfInBounds_ne (fun f=>j f.symm)]
 ·rw [g] at c;exact r z (zJ c)
 ·by_cases d:b=a
  ·subst d;rw [Array.getElem?_setIfInBounds_self_of_lt l] at c;exact k z (zJ c)
  ·rw [Array.getElem?_setIfInBounds_ne (fun f=>d f.symm),h] at c;exact k z (zJ c)
theorem bT.swap (h:bT w br m n bs cs R L) {a:Nat} (ha:a<m) (hb:b<m) :
  bT ((w.setCell ⟨br,a,none⟩ (.slice (some ⟨bs b,0,none⟩) n (cs b))).setCell ⟨br,b,none⟩ (.slice (some ⟨bs a,0,none⟩) n (cs a))) br m n (fun i=>bs (aM a b i)) (fun i=>cs (aM a b i)) (fun i=>R (aM a b i)) L
  /\ aI w ((w.setCell ⟨br,a,none⟩ (.slice (some ⟨bs b,0,none⟩) n (cs b))).setCell ⟨br,b,none⟩ (.slice (some ⟨bs a,0,none⟩) n (cs a))) br:=by
 obtain ⟨cur,e,hh,hc⟩:=h.top;obtain ⟨c,k,l,d⟩:=tn hh (hc a ha) (hc b hb) (fun z=>Z) (fun z=>Z);generalize (w.setCell ⟨br,a,none⟩ (.slice (some ⟨bs b,0,none⟩) n (cs b))).setCell ⟨br,b,none⟩ (.slice (some ⟨bs a,0,none⟩) n (cs a))=w' at k d ⊢;have lt:∀ i,i<m->aM a b i<m:=fun i hi=>dp ha hb hi
 refine ⟨⟨⟨c,e,k,fun i hi=>?_⟩,fun i hi=>h.cap _ (lt i hi),fun i hi=>(h.row _ (lt i hi)).keep d.1 d.2 (fun f=>h.off _ (lt i hi) (zJ f)),fun i j hi p f=>?_,fun i hi=>h.off _ (lt i hi)⟩,d⟩
 ·rw [l i];exact hc _ (lt i hi)
 ·have:=h.inj _ _ (lt i hi) (lt j p) f;have g:aM a b (aM a b i)=aM a b (aM a b j):=by rw [this]
  rw [eK,eK] at g;exact g
theorem cH.swap (h:cH w bo m o) {a:Nat} (ha:a<m) (hb:b<m) :
  cH ((w.setCell ⟨bo,a,none⟩ (.int .i64 ((o b:Nat):Int))).setCell ⟨bo,b,none⟩ (.int .i64 ((o a:Nat):Int))) bo m (fun i=>o (aM a b i))
  /\ aI w ((w.setCell ⟨bo,a,none⟩ (.int .i64 ((o b:Nat):Int))).setCell ⟨bo,b,none⟩ (.int .i64 ((o a:Nat):Int))) bo:=by
 obtain ⟨cur,e,hh,hc⟩:=h;obtain ⟨c,d,f,g⟩:=tn hh (hc a ha) (hc b hb) (fun z=>Z) (fun z=>Z);refine ⟨⟨c,e,d,fun i hi=>?_⟩,g⟩;rw [f i];exact hc _ (dp ha hb hi)
theorem aH.ne_int {R:Nat->Rat} {x:Int} (h:aH w b n R L) (hn:0<n) (hc:w.cell? ⟨bo,0,none⟩=some (.int .i64 x)):b≠bo:=by
 intro e;obtain ⟨_,_,_,_,_,_,c0,_⟩:=h.at 0 hn;rw [e,Nat.zero_mul,hc] at c0;simp at c0
theorem aH.ne_slice {R:Nat->Rat} {x:Option Addr} {l c:Nat} (h:aH w b n R L) (hn:0<n) (hc:w.cell? ⟨bo,0,none⟩=some (.slice x l c)):b≠bo:=by
 intro e;obtain ⟨_,_,_,_,_,_,c0,_⟩:=h.at 0 hn;rw [e,Nat.zero_mul,hc] at c0;simp at c0
theorem bT.ne_int {x:Int} (h:bT w br m n bs cs R L) (a:0<m) (hn:0<n) (hc:w.cell? ⟨bo,0,none⟩=some (.int .i64 x)):br≠bo/\∀ i,i<m->bs i≠bo:=by
 refine ⟨fun e=>?_,fun i hi=>(h.row i hi).ne_int hn hc⟩;have:=(h.cell 0 a).1;rw [e,hc] at this;simp at this
theorem cH.froz (h:cH w bo m o) (k:Nat):w.frozen? ⟨bo,k,none⟩=false:=by
 obtain ⟨cur,e,hb,hc⟩:=h;simp [World.frozen?,hb]
end Go.Proofs.YtkbmbmdemajoaaaGreatDoor
