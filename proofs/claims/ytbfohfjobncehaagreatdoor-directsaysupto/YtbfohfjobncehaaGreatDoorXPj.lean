/- Contracts. -/
import Derived.Test.YtbfohfjobncehaaGreatDoorXPi
namespace Go.Proofs.YtbfohfjobncehaaGreatDoor
open Go.RowKit
set_option linter.all false
set_option maxHeartbeats 8000000
set_option maxRecDepth 10000
variable {w w':World} {L n base m:Nat} {R:Nat->Rat} {v:Value} {o:Nat->Nat} {xs:List Value}
theorem cN.keep0 {a:Nat} (h:cN w a m o) (g:w.grownBy w' none):cN w' a m o:=h.keep g Z
def CouR (W:World) (m done g1 g2:Nat) (v:Value) (wr:World):Prop :=
 ∃ (i:Nat) (xs ys:List Int),done<=i/\i<=m/\v=.int .i64 i/\xs.length=m/\ys.length=m/\q9 wr g1 xs/\q9 wr g2 ys/\W.grownBy wr none
def TwoE (w:World) (m:Nat) (e:Ending) (w':World):Prop :=
 ∃ g1 g2 xs ys,e=.returned (.tuple #[.slice (some ⟨g1,0,none⟩) m m,.slice (some ⟨g2,0,none⟩) m m])/\w.heap.size<=g1/\w.heap.size<=g2/\xs.length=m/\ys.length=m/\q9 w' g1 xs/\q9 w' g2 ys/\w.grownBy w' none
theorem p6 (fb:Bool) (fo fo2:Option Addr) (fl fc fl2 fc2:Nat) (br bo m n cap co done:Nat) (bs cs:Nat->Nat) (R:Nat->Nat->Rat) (o:Nat->Nat) (L:Nat) (w:World)
  (hM:bU w br m n bs cs R L) (hO:cN w bo m o) (ho:∀ k,k<m->o k<n) (hd:done<m) (hm:m<=1000) (hn:n<=2000) (hc:m<=cap) (hc2:cap<=maxLen) (hco:m<=co) (hco2:co<=maxLen) :
  Calls Tryz.prog 220 #[(kq fb (.slice fo fl fc) (.slice fo2 fl2 fc2)),.slice (some ⟨br,0,none⟩) m cap,.slice (some ⟨bo,0,none⟩) m co,.int .i64 ((done:Nat):Int)] w fun e w'=>TwoE w m e w':=by
 unfold maxLen at hc2 hco2;have HM:=aa hM;have HO:=aa hO;have HOO:=aa ho;clear hM hO ho;obtain ⟨W,hW⟩:=eX (w.alloc (Obj.cells #[.bool fb,.slice fo fl fc,.slice fo2 fl2 fc2,.func (.func 129) #[] #[],.func (.func 107) #[] #[],.func (.func 67) #[] #[],.func (.func 38) #[] #[],.func (.func 130) #[] #[],.func (.func 131) #[] #[],.func (.func 132) #[] #[],.func (.func 133) #[] #[]] 128));have GW:Hid (w.grownBy W none):=by rw [hW];exact ae (ag _ _) _
 have HWS:Hid (W.heap.size=w.heap.size+1):=by show _=_;rw [hW];simp
 have BASE:Hid (∀ wx,W.grownBy wx none->wx.cell? ⟨w.heap.size,8,none⟩=some (.func (.func 131) #[] #[])):=by
  intro wx hg;rw [hW] at hg;exact hg.cell zG Z
 go_enter Tryz.func220,Tryz.ntmps220
 go_upto_region 1 with fail;rw [<- hW];clear hW;go_wp2_with fail;refine (sB W.heap.size m _ zG O hm).mono ?_;rintro e w1 ⟨g1,xs1,rfl,q1,q2,q3,q4⟩;have G1:=aa (ab (ae (ag W none) _) q4);have A1:=aa q3;have HQ1:Hid (W.heap.size<g1):=by show _<_;simp at q1;omega
 clear q1 q3 q4;go_wp2_with fail;refine (sB w1.heap.size m _ zG O hm).mono ?_;rintro e w2 ⟨g2,xs2,rfl,p1,p2,p3,p4⟩;have G2:=aa (ab G1.out (ab (ae (ag w1 none) _) p4));have A1':=aa (A1.out.keep0 (ab (ae (ag w1 none) _) p4));have A2:=aa p3;have HQ2:Hid (W.heap.size<g2/\g1≠g2):=by
  show _/\_
  have h1:=A1.out.lt;have h2:=G1.out.size;have:=HQ1.out;simp at p1;exact ⟨O,O⟩
 clear p1 p3 p4 A1 G1;go_wp2;go_loopw [10] (fun v wr=>Hid (CouR W m done g1 g2 v wr)) (fun v _=>m-(intOf v).toNat)
 case atStart=>exact ⟨done,xs1,xs2,O,O,rfl,q2,p2,A1'.out,A2.out,G2.out⟩
 case round =>
  obtain ⟨i,xs,ys,hi0,hi,rfl,hx,hy,l1,l2,l3⟩:=hrel.out;have L1:=aa l1;have L2:=aa l2;have L3:=aa l3;clear l1 l2 l3 hrel A1' A2 G2;by_cases hlt:i<m
  ·go_wp2;go_loopw [11] (fun v wx=>Hid (CouR W m done g1 g2 v wx)) (fun v _=>m-(intOf v).toNat)
   case atStart=>exact ⟨done,xs,ys,O,O,rfl,hx,hy,L1.out,L2.out,L3.out⟩
   case round =>
    obtain ⟨k,zs,ts,hk0,hk,rfl,hz,ht,l1,l2,l3⟩:=hrel.out;have K1:=aa l1;have K2:=aa l2;have K3:=aa l3;clear l1 l2 l3 hrel;by_cases hkm:k<m
    ·have MM:=aa ((HM.out.keep0 GW.out).keep0 K3.out);have OO:=aa ((HO.out.keep0 GW.out).keep0 K3.out);have ci:=(MM.out.cell i hlt).1;have ck:=OO.out.at k hkm;have hokn:=HOO.out k hkm;obtain ⟨hcc1,hcc2⟩:=MM.out.cap i hlt;unfold maxLen at hcc2;obtain ⟨xo,xl,xc,yo,yl,yc,c0,c1,c2,c3,_⟩:=(MM.out.row i hlt).at (o k) hokn;have X3:=aa c3;have CX:Hid (∀ wx,wr.grownBy wx none->wx.cell? ⟨w.heap.size,8,none⟩=some (.func (.func 131) #[] #[])/\wx.cell? ⟨br,i,none⟩=some (.slice (some ⟨bs i,0,none⟩) n (cs i))/\wx.cell? ⟨bo,k,none⟩=some (.int .i64 ((o k:Nat):Int))/\wx.cell? ⟨bs i,o k*3,none⟩=some (.bool (rB (R i (o k))))/\wx.cell? ⟨bs i,o k*3+1,none⟩=some (.slice xo xl xc)/\wx.cell? ⟨bs i,o k*3+2,none⟩=some (.slice yo yl yc)):=by
      intro wx hg;exact ⟨BASE.out wx (ab K3.out hg),hg.cell ci Z,hg.cell ck Z,hg.cell c0 Z,hg.cell c1 Z,hg.cell c2 Z⟩
     clear c0 c1 c2 c3 ci ck;have GG:wr.grownBy wr none:=ag _ _;obtain ⟨s0,s1,s2,s3,s4,s5⟩:=CX.out wr GG;have hok1:(0:Int)<=((o k:Nat):Int):=O
     have hok2:((o k:Nat):Int)<(n:Int):=O
     have hk1:(0:Int)<=(k:Int):=O
     have hi1:(0:Int)<=(i:Int):=O
     have hk2:(k:Int)<(m:Int):=O
     have hi2:(i:Int)<(m:Int):=O
     go_wp2;go_cut [47] (fun s47 wx=>Hid (s47=.bool (!(decide (R i (o k)=0)))/\wr.grownBy wx none))
     case first =>
      go_region_held3 (fun w'=>w'.cell? ⟨w.heap.size,8,none⟩=some (.func (.func 131) #[] #[])/\w'.cell? ⟨br,i,none⟩=some (.slice (some ⟨bs i,0,none⟩) n (cs i))/\w'.cell? ⟨bo,k,none⟩=some (.int .i64 ((o k:Nat):Int))/\w'.cell? ⟨bs i,o k*3,none⟩=some (.bool (rB (R i (o k))))/\w'.cell? ⟨bs i,o k*3+1,none⟩=some (.slice xo xl xc)/\w'.cell? ⟨bs i,o k*3+2,none⟩=some (.slice yo yl yc)) (go_keep)
       (first | (go_at_call 131;refine (bn _ (R i (o k)) L _ (X3.out.keep0 zF)).mono ?_;rintro e wa ⟨rfl,ga⟩;have GG:wr.grownBy wa none:=ab zF ga;obtain ⟨a0,a1,a2,a3,a4,a5⟩:=CX.out wa GG))
      all_goals (go_wp2_with fail;go_meet;exact ⟨rfl,zF⟩)
     case rest =>
      obtain ⟨rfl,g4⟩:=hcut.out;have G4:=aa g4;clear hcut g4 GG s0 s1 s2 s3 s4 s5 CX X3;by_cases hzz:R i (o k)=0
      ·have hzd:(!(decide (R i (o k)=0)))=false:=by simp [hzz]
       rw [hzd];clear hzz hzd;go_wp2;go_roundw
       case rel=>exact ⟨k+1,zs,ts,O,O,zN,hz,ht,K1.out.keep0 G4.out,K2.out.keep0 G4.out,ab K3.out G4.out⟩
       case measure=>exact bO
      ·have hzd:(!(decide (R i (o k)=0)))=true:=by simp [hzz]
       rw [hzd];clear hzz hzd;have N1:=aa (K1.out.keep0 G4.out);have N2:=aa (K2.out.keep0 G4.out);have N3:=aa (ab K3.out G4.out);have e1:=N1.out.cell i O;have e1f:=N1.out.free i;have e2:=N2.out.cell k O;have e2f:=N2.out.free k;have hg12:g2≠g1:=fun e=>HQ2.out.2 e.symm
       go_wp2;go_roundw
       case rel =>
        refine ⟨k+1,zs.set i (wrap64 (zs[i]+1)),ts.set k (wrap64 (ts[k]+1)),O,O,zN,by simp [hz],by simp [ht],?_,?_,?_⟩
        ·exact (N1.out.set i _ _ rfl).keep (bR _ _ _ _) (fun e=>HQ2.out.2 (zJ e))
        ·exact (N2.out.keep (bR _ _ _ _) (fun e=>HQ2.out.2 (zJ e).symm)).set k _ _ rfl
        ·exact ah (ah N3.out _ _ (Nat.le_of_lt HQ1.out)) _ _ (Nat.le_of_lt HQ2.out.1)
       case measure=>exact bO
    ·obtain rfl:k=m:=O
     go_wp2;go_roundw
     case rel=>exact ⟨i+1,zs,ts,O,O,zN,hz,ht,K1.out,K2.out,K3.out⟩
     case measure=>exact bO
  ·obtain rfl:i=m:=O
   have HQ1':Hid (w.heap.size<=g1/\w.heap.size<=g2):=by show _/\_;have:=HQ1.out;have:=HQ2.out.1;have:=HWS.out;exact ⟨O,O⟩
   go_wp2;go_ret2
   exact ⟨g1,g2,xs,ys,rfl,HQ1'.out.1,HQ1'.out.2,hx,hy,L1.out,L2.out,ab GW.out L3.out⟩
def PW (w w':World) (b1 b2:Nat):Prop:=∃ w1,aO w w1 b1/\aO w1 w' b2
theorem PW.gr {W:World} {a c:Nat} (h:PW w w' a c) (g:W.grownBy w none) (f:W.heap.size<=a) (i:W.heap.size<=c):W.grownBy w' none:=by
 obtain ⟨w1,k1,d⟩:=h;exact aj (r:=none) (aj (r:=none) g k1.1 (fun _ _ e=>e) (fun b hb e=>by have:=zJ e;omega)) d.1 (fun _ _ e=>e) (fun b hb e=>by have:=zJ e;omega)
theorem PW.row {a c b:Nat} (h:PW w w' a c) (f:aI w b n R L) (g:b≠a) (i:b≠c):aI w' b n R L:=by
 obtain ⟨w1,k1,d⟩:=h;exact (f.keep k1.1 k1.2 (fun e=>g (zJ e))).keep d.1 d.2 (fun e=>i (zJ e))
theorem lS {b i j:Nat} {a:Array Value} {e:TypeId} (hb:w.heap[b]? = some (.cells a e (0,0))) (c:j<a.size) (v:Value):∃ u,(w.setCell ⟨b,i,none⟩ v).cell? ⟨b,j,none⟩=some u:=by
 have:=heap_setCell_same w b i a e v hb;simp only [World.cell?,this];exact ⟨_,Array.getElem?_eq_getElem (by simpa using c)⟩
theorem bU.set_some {a:Nat} {bs cs:Nat->Nat} {R:Nat->Nat->Rat} (h:bU w a m n bs cs R L) {i j:Nat} (b:j<m) (v:Value):∃ u,(w.setCell ⟨a,i,none⟩ v).cell? ⟨a,j,none⟩=some u:=by
 obtain ⟨c,e,hb,hc⟩:=h.top;exact lS hb (zZ (hc j b)).1 v
theorem cN.set_some {a:Nat} (h:cN w a m o) {i j:Nat} (b:j<m) (v:Value):∃ u,(w.setCell ⟨a,i,none⟩ v).cell? ⟨a,j,none⟩=some u:=by
 obtain ⟨c,e,hb,hc⟩:=h;exact lS hb (zZ (hc j b)).1 v
def Chos (m done:Nat) (R:Nat->Nat->Rat) (o:Nat->Nat) (a b:Int) (f:Bool):Prop :=
 f=true->∃ x y:Nat,a=(x:Int)/\b=(y:Int)/\done<=x/\x<m/\done<=y/\y<m/\R x (o y)≠0
def PivR (W:World) (m done:Nat) (R:Nat->Nat->Rat) (o:Nat->Nat) (v11 v12 v13 v14 v15 v:Value) (wr:World):Prop :=
 ∃ (i:Nat) (a b s t:Int) (f:Bool),done<=i/\i<=m/\v=.int .i64 i/\v11=.int .i64 a/\v12=.int .i64 b/\v13=.int .i64 s/\v14=.int .i64 t/\v15=.bool f/\Chos m done R o a b f
  /\ (f=false->∀ x,done<=x->x<i->∀ y,done<=y->y<m->R x (o y)=0)/\W.grownBy wr none
def PinR (W:World) (m done i:Nat) (R:Nat->Nat->Rat) (o:Nat->Nat) (v11 v12 v13 v14 v15 v:Value) (wr:World):Prop :=
 ∃ (k:Nat) (a b s t:Int) (f:Bool),done<=k/\k<=m/\v=.int .i64 k/\v11=.int .i64 a/\v12=.int .i64 b/\v13=.int .i64 s/\v14=.int .i64 t/\v15=.bool f/\Chos m done R o a b f
  /\ (f=false->∀ x,done<=x->x<i->∀ y,done<=y->y<m->R x (o y)=0)/\(f=false->∀ y,done<=y->y<k->R i (o y)=0)/\W.grownBy wr none
def PivE (w:World) (br bo m n done:Nat) (bs cs:Nat->Nat) (R:Nat->Nat->Rat) (o:Nat->Nat) (L:Nat) (e:Ending) (w':World):Prop :=
 (∃ a b,done<=a/\a<m/\done<=b/\b<m/\R a (o b)≠0/\e=.returned (.bool true)/\bU w' br m n (fun i=>bs (aP done a i)) (fun i=>cs (aP done a i)) (fun i=>R (aP done a i)) L/\cN w' bo m (fun i=>o (aP done b i))/\PW w w' br bo)
 ∨ (e=.returned (.bool false)/\(∀ i,done<=i->i<m->∀ k,done<=k->k<m->R i (o k)=0)/\w.grownBy w' none)
theorem rh (fb:Bool) (fo r:Option Addr) (fl fc u z:Nat) (l p m n cap co done:Nat) (bs cs:Nat->Nat) (R:Nat->Nat->Rat) (o:Nat->Nat) (L:Nat) (w:World)
  (hM:bU w l m n bs cs R L) (hO:cN w p m o) (ho:∀ k,k<m->o k<n) (hd:done<m) (hm:m<=1000) (hn:n<=2000) (hc:m<=cap) (hc2:cap<=maxLen) (hco:m<=co) (hco2:co<=maxLen) (hL:L<=100000000) :
  Calls Tryz.prog 202 #[(kq fb (.slice fo fl fc) (.slice r u z)),.slice (some ⟨l,0,none⟩) m cap,.slice (some ⟨p,0,none⟩) m co,.int .i64 ((done:Nat):Int)] w fun e w'=>PivE w l p m n done bs cs R o L e w':=by
 have hB:=aa hc2;have U:=aa hco2;unfold maxLen at hc2 hco2;have HM:=aa hM;have HO:=aa hO;have V:=aa ho;have kg:=hM.lt;have kk:=hO.lt;have hC:Hid (0<n):=by show _<_;have:=ho done hd;omega
 have J:=aa (hM.ne_int O hC (hO.at 0 O));clear hM hO ho;obtain ⟨W,hW⟩:=eX (w.alloc (Obj.cells #[.bool fb,.slice fo fl fc,.slice r u z,.func (.func 129) #[] #[],.func (.func 107) #[] #[],.func (.func 67) #[] #[],.func (.func 38) #[] #[],.func (.func 130) #[] #[],.func (.func 131) #[] #[],.func (.func 132) #[] #[],.func (.func 133) #[] #[]] 128));have GW:Hid (w.grownBy W none):=by rw [hW];exact ae (ag _ _) _
 have ks:Hid (W.heap.size=w.heap.size+1):=by show _=_;rw [hW];simp
 have D:Hid (∀ wx,W.grownBy wx none->wx.cell? ⟨w.heap.size,0,none⟩=some (.bool fb)/\wx.cell? ⟨w.heap.size,1,none⟩=some (.slice fo fl fc)/\wx.cell? ⟨w.heap.size,2,none⟩=some (.slice r u z)/\wx.cell? ⟨w.heap.size,3,none⟩=some (.func (.func 129) #[] #[])/\wx.cell? ⟨w.heap.size,4,none⟩=some (.func (.func 107) #[] #[])/\wx.cell? ⟨w.heap.size,5,none⟩=some (.func (.func 67) #[] #[])/\wx.cell? ⟨w.heap.size,6,none⟩=some (.func (.func 38) #[] #[])/\wx.cell? ⟨w.heap.size,7,none⟩=some (.func (.func 130) #[] #[])/\wx.cell? ⟨w.heap.size,8,none⟩=some (.func (.func 131) #[] #[])/\wx.cell? ⟨w.heap.size,9,none⟩=some (.func (.func 132) #[] #[])/\wx.cell? ⟨w.heap.size,10,none⟩=some (.func (.func 133) #[] #[])):=by
  intro wx hg;rw [hW] at hg;exact ⟨hg.cell zG Z,hg.cell zG Z,hg.cell zG Z,hg.cell zG Z,hg.cell zG Z,hg.cell zG Z,hg.cell zG Z,hg.cell zG Z,hg.cell zG Z,hg.cell zG Z,hg.cell zG Z⟩
 obtain ⟨s0,s1,s2,s3,s4,s5,s6,s7,s8,s9,s10⟩:=D.out W (ag _ _);go_enter Tryz.func202,Tryz.ntmps202
 go_upto_region 1 with fail;rw [<- hW];clear hW;go_wp2_with fail;refine (p6 fb fo r fl fc u z l p m n cap co done bs cs R o L W (HM.keep0 GW) (HO.keep0 GW) V hd hm hn hc hB hco U).mono ?_;rintro e W1 ⟨g1,g2,xs,ys,rfl,q1,q2,q3,q4,q5,q6,q7⟩;have A1:=aa q5;have A2:=aa q6;have G1:=aa q7;have GA:=aa (ab GW q7);clear q1 q2 q5 q6 q7 s0 s1 s2 s3 s4 s5 s6 s7 s8 s9 s10;have M1:=aa (HM.keep0 GA);have O1:=aa (HO.keep0 GA);go_wp2;go_loopw [11,12,13,14,15,16] (fun v11 v12 v13 v14 v15 v wr=>Hid (PivR W1 m done R o v11 v12 v13 v14 v15 v wr)) (fun _ _ _ _ _ v _=>m-(intOf v).toNat)
 case atStart=>exact ⟨done,0,0,0,0,false,O,O,rfl,rfl,rfl,rfl,rfl,rfl,nofun,(fun _ x h1 h2=>O),ag _ _⟩
 case round =>
  obtain ⟨i,a,b,s,t,f,hX,hi,rfl,rfl,rfl,rfl,rfl,rfl,l1,l2,l3⟩:=hrel.out;have E:=aa l1;have F:=aa l2;have A:=aa l3;clear l1 l2 l3 hrel;by_cases hlt:i<m
  ·go_wp2;go_loopw [11,12,13,14,15,17] (fun v11 v12 v13 v14 v15 v wx=>Hid (PinR W1 m done i R o v11 v12 v13 v14 v15 v wx)) (fun _ _ _ _ _ v _=>m-(intOf v).toNat)
   case atStart=>exact ⟨done,a,b,s,t,f,O,O,rfl,rfl,rfl,rfl,rfl,rfl,E,F,(fun _ y h1 h2=>O),A⟩
   case round =>
    clear E F A;obtain ⟨k,a,b,s,t,f,hY,hk,rfl,rfl,rfl,rfl,rfl,rfl,l1,l2,l3,l4⟩:=hrel.out;have E:=aa l1;have F:=aa l2;have A:=aa l3;have G:=aa l4;clear l1 l2 l3 l4 hrel;by_cases K:k<m
    ·have d:=aa (M1.keep0 G);have OO:=aa (O1.keep0 G);have ci:=(d.cell i hlt).1;have ck:=OO.out.at k K;have X:=V.out k K;obtain ⟨ko,hs⟩:=d.out.cap i hlt;unfold maxLen at hs;obtain ⟨q,hq⟩:=eX (R i (o k));have HQ:=aa hq;obtain ⟨xo,xl,xc,yo,yl,yc,c0,c1,c2,c3,_⟩:=(d.row i hlt).at (o k) X;rw [<- hq] at c0 c3;have X3:=aa c3;have M:Hid (wr.cell? ⟨g1,i,none⟩=some (.int .i64 (xs[i]'O))/\wr.cell? ⟨g2,k,none⟩=some (.int .i64 (ys[k]'O))):=⟨(A1.keep0 G).cell i O,(A2.keep0 G).cell k O⟩;obtain ⟨hu,H⟩:=eX (xs[i]'O);obtain ⟨hv,I⟩:=eX (ys[k]'O);rw [<- H,<- I] at M;have CX:Hid (∀ wx,wr.grownBy wx none->wx.cell? ⟨l,i,none⟩=some (.slice (some ⟨bs i,0,none⟩) n (cs i))/\wx.cell? ⟨p,k,none⟩=some (.int .i64 ((o k:Nat):Int))/\wx.cell? ⟨bs i,o k*3,none⟩=some (.bool (rB q))/\wx.cell? ⟨bs i,o k*3+1,none⟩=some (.slice xo xl xc)/\wx.cell? ⟨bs i,o k*3+2,none⟩=some (.slice yo yl yc)):=by
      intro wx hg;exact ⟨hg.cell ci Z,hg.cell ck Z,hg.cell c0 Z,hg.cell c1 Z,hg.cell c2 Z⟩
     clear c0 c1 c2 c3 ci ck hq H I;have GG:wr.grownBy wr none:=ag _ _;obtain ⟨s0,s1,s2,s3,s4⟩:=CX.out wr GG;have kl:(0:Int)<=((o k:Nat):Int):=O
     have kn:((o k:Nat):Int)<(n:Int):=O
     have ku:(0:Int)<=(k:Int):=O
     have kw:(0:Int)<=(i:Int):=O
     have ky:(k:Int)<(m:Int):=O
     have kz:(i:Int)<(m:Int):=O
     have Y:l<wr.heap.size:=d.out.lt;have he:p<wr.heap.size:=OO.out.lt;have hl:bs i<wr.heap.size:=(d.row i hlt).lt;have hD:wr.heap.size≠l:=O
     have hE:wr.heap.size≠p:=O
     have hF:wr.heap.size≠bs i:=O
     go_wp2;go_cut [18] (fun s18 wx=>Hid (∃ gs,s18=.pointer (some ⟨gs,0,none⟩)/\wr.heap.size<=gs/\aI wx gs 1 (fun _=>q) L/\wr.grownBy wx none))
     case first =>
      go_region_held3 (fun w'=>w'.cell? ⟨l,i,none⟩=some (.slice (some ⟨bs i,0,none⟩) n (cs i))/\w'.cell? ⟨p,k,none⟩=some (.int .i64 ((o k:Nat):Int))/\w'.cell? ⟨bs i,o k*3,none⟩=some (.bool (rB q))/\w'.cell? ⟨bs i,o k*3+1,none⟩=some (.slice xo xl xc)/\w'.cell? ⟨bs i,o k*3+2,none⟩=some (.slice yo yl yc)) (go_keep) (fail)
      all_goals (go_wp2_with fail;go_meet;exact ⟨_,rfl,zL,(np X3).keep0 aX,ar (ae (ag _ _) _) 1⟩)
     case rest =>
      obtain ⟨gs,rfl,qc,f2,hw⟩:=hcut.out;have F2:=aa f2;have G2:=aa hw;obtain ⟨so,sl,sc,hx,tl,tc,d0,d1,d2,d3,_⟩:=f2.var;have D3:=aa d3;clear hcut s0 s1 s2 s3 s4 f2 hw GG CX X3 hD hE hF Y he hl;have CY:Hid (∀ wx,wc.grownBy wx none->wx.cell? ⟨w.heap.size,8,none⟩=some (.func (.func 131) #[] #[])/\wx.cell? ⟨w.heap.size,10,none⟩=some (.func (.func 133) #[] #[])/\wx.cell? ⟨gs,0,none⟩=some (.bool (rB q))/\wx.cell? ⟨gs,1,none⟩=some (.slice so sl sc)/\wx.cell? ⟨gs,2,none⟩=some (.slice hx tl tc)/\wx.cell? ⟨g1,i,none⟩=some (.int .i64 hu)/\wx.cell? ⟨g2,k,none⟩=some (.int .i64 hv)):=by
       intro wx hg;obtain ⟨b0,b1,b2,b3,b4,b5,b6,b7,b8,b9,kb⟩:=D.out wx (ab G1 (ab G (ab G2 hg)));exact ⟨b8,kb,hg.cell d0 Z,hg.cell d1 Z,hg.cell d2 Z,hg.cell (G2.cell M.1 Z) Z,hg.cell (G2.cell M.2 Z) Z⟩
      clear d0 d1 d2 d3;obtain ⟨s0,s1,s2,s3,s4,s5,s6⟩:=CY.out wc (ag _ _);go_wp2_with fail;refine (bn _ q L _ D3).mono ?_;rintro e w3 ⟨rfl,g3⟩;have G3:=aa g3;clear g3 s0 s1 s2 s3 s4 s5 s6;by_cases S:q=0
      ·have g:decide (q=0)=true:=decide_eq_true S;rw [g];have HZ:=aa S;clear S g;go_wp2;go_roundw
       case rel =>
        refine ⟨k+1,a,b,s,t,f,O,O,zN,rfl,rfl,rfl,rfl,rfl,E,F,fun e y h1 h2=>?_,ab G (ab G2 G3)⟩;by_cases e2:y=k
        ·rw [e2,<- HQ];exact HZ
        ·exact A e y h1 O
       case measure=>exact bO
      ·have g:decide (q=0)=false:=decide_eq_false S;rw [g];have HZ:=aa S;clear S g;have GG:w3.grownBy w3 none:=ag _ _;obtain ⟨s0,s1,s2,s3,s4,s5,s6⟩:=CY.out w3 G3;go_wp2_with fail;go_cut [19,20] (fun s19 s20 wx=>Hid (∃ s' t':Int,s19=.int .i64 s'/\s20=.int .i64 t'/\w3.grownBy wx none))
       case first =>
        go_region_held3 (fun w'=>w'.cell? ⟨w.heap.size,8,none⟩=some (.func (.func 131) #[] #[])/\w'.cell? ⟨w.heap.size,10,none⟩=some (.func (.func 133) #[] #[])/\w'.cell? ⟨gs,0,none⟩=some (.bool (rB q))/\w'.cell? ⟨gs,1,none⟩=some (.slice so sl sc)/\w'.cell? ⟨gs,2,none⟩=some (.slice hx tl tc)/\w'.cell? ⟨g1,i,none⟩=some (.int .i64 hu)/\w'.cell? ⟨g2,k,none⟩=some (.int .i64 hv)) (go_keep)
         (first | (go_at_call 133;refine (C5 _ _ _ _ L _ (D3.keep0 (ab G3 zF)) O).mono ?_;rintro e wa ⟨ka,rfl,qf,ga⟩;have GG:w3.grownBy wa none:=ab zF ga;obtain ⟨a0,a1,a2,a3,a4,a5,a6⟩:=CY.out wa (ab G3 GG)))
        all_goals (go_wp2_with fail;go_meet;exact ⟨_,_,rfl,rfl,zF⟩)
       case rest =>
        obtain ⟨s',t',rfl,rfl,g5⟩:=hcut.out;have G5:=aa (ab G (ab G2 (ab G3 g5)));clear hcut s0 s1 s2 s3 s4 s5 s6 GG g5;have hp:Hid (∃ x y:Nat,(i:Int)=(x:Int)/\(k:Int)=(y:Int)/\done<=x/\x<m/\done<=y/\y<m/\R x (o y)≠0):=⟨i,k,rfl,rfl,hX,hlt,hY,K,by rw [<- HQ];exact HZ⟩;go_upto_region 13 with fail;go_cut [86] (fun s86 wx=>Hid (∃ c:Bool,s86=.bool c/\(f=false->c=true)/\W1.grownBy wx none))
        case first =>
         cases f with
         | false =>
          go_wp2
          all_goals (go_meet;exact ⟨true,rfl,fun _=>rfl,G5⟩)
         | true =>
          by_cases h1:s'<s
          ·have hG:decide (s'<s)=true:=decide_eq_true h1;go_wp2
           all_goals (go_meet;exact ⟨true,by first | rfl | simp,nofun,G5⟩)
          ·have hG:decide (s'<s)=false:=decide_eq_false h1;by_cases h2:s'=s
           ·have hH:(s'==s)=true:=beq_iff_eq.2 h2;subst h2;go_wp2
            all_goals (go_meet;exact ⟨_,rfl,nofun,G5⟩)
           ·have hH:(s'==s)=false:=zB h2;go_wp2
            all_goals (go_meet;exact ⟨_,rfl,nofun,G5⟩)
        case rest =>
         obtain ⟨c,rfl,hy,g6⟩:=hcut.out;have G6:=aa g6;have hI:=aa hy;clear hcut g6 hy;cases c with
         | true =>
          go_wp2;go_roundw
          case rel=>exact ⟨k+1,(i:Int),(k:Int),s',t',true,O,O,zN,rfl,rfl,rfl,rfl,rfl,fun _=>hp,nofun,nofun,G6⟩
          case measure=>exact bO
         | false =>
          have hr:f=true:=by
           cases hf:f with
           | true=>rfl
           | false=>exact absurd (hI hf) zD
          have hK:=aa hr;clear hr;go_wp2;go_roundw
          case rel=>exact ⟨k+1,a,b,s,t,f,O,O,zN,rfl,rfl,rfl,rfl,rfl,E,F,(fun e=>by rw [hK] at e;cases e),G6⟩
          case measure=>exact bO
    ·obtain rfl:k=m:=O
     go_wp2;go_roundw
     case rel =>
      refine ⟨i+1,a,b,s,t,f,O,O,zN,rfl,rfl,rfl,rfl,rfl,E,fun e x h1 h2 y h3 h4=>?_,G⟩;by_cases e2:x=i
      ·rw [e2];exact A e y h3 h4
      ·exact F e x h1 O y h3 h4
     case measure=>exact bO
  ·obtain rfl:i=m:=O
   cases f with
   | false =>
    go_wp2;go_ret;exact .inr ⟨rfl,fun x h1 h2 y h3 h4=>F (by first | rfl | trivial) x h1 h2 y h3 h4,ab GA A⟩
   | true =>
    obtain ⟨x,y,rfl,rfl,kc,h,ke,B,hA⟩:=E.out (by first | rfl | trivial);have hN:=aa hA;have d:=aa (M1.keep0 A);have OO:=aa (O1.keep0 A);have m1:=(d.cell x h).1;have m2:=(d.cell done hd).1;have hQ:=(d.cell done hd).2 done;have hR:=(d.cell done hd).2 x;have kF:(0:Int)<=(x:Int):=O
    have kH:(x:Int)<(i:Int):=O
    have kN:(0:Int)<=(y:Int):=O
    have kS:(y:Int)<(i:Int):=O
    have qa:(0:Int)<=(done:Int):=O
    have qb:(done:Int)<(i:Int):=O
    obtain ⟨u1,kf⟩:=d.out.set_some (i:=done) h (.slice (some ⟨bs x,0,none⟩) n (cs x));clear hA E F;go_wp2;go_region
    obtain ⟨w5,N⟩:=eX ((wr.setCell ⟨l,done,none⟩ (.slice (some ⟨bs x,0,none⟩) n (cs x))).setCell ⟨l,x,none⟩ (.slice (some ⟨bs done,0,none⟩) n (cs done)));obtain ⟨P,C⟩:=d.out.swap hd h;rw [<- N] at P C;have M5:=aa P;have R5:=aa C;have T:=aa (OO.keep C.1 (fun e=>J.1 (zJ e).symm));rw [<- N];clear N P C m1 m2 hQ hR kf u1;have o1:=T.out.at y B;have o2:=T.out.at done hd;have hS:=T.out.froz done;have hT:=T.out.froz y;obtain ⟨u2,hu2⟩:=T.out.set_some (i:=done) B (.int .i64 ((o y:Nat):Int));go_wp2;go_region
    obtain ⟨w6,Q⟩:=eX ((w5.setCell ⟨p,done,none⟩ (.int .i64 ((o y:Nat):Int))).setCell ⟨p,y,none⟩ (.int .i64 ((o done:Nat):Int)));obtain ⟨P,C⟩:=T.out.swap hd B;rw [<- Q] at P C;have O6:=aa P;have M6:=aa (M5.keepR C J.1 (fun j hj=>J.2 _ (dA hd h hj)));have R6:=aa C;rw [<- Q];clear Q P C o1 o2 hS hT hu2 u2;go_wp2;go_ret;refine .inl ⟨x,y,kc,h,ke,B,hN,rfl,?_,?_,w5,(aO.of_gr (ab GA A)).trans R5,?_⟩
    ·exact M6.keep0 (ab aX aX)
    ·exact O6.keep0 (ab aX aX)
    ·exact R6.gr (ab aX aX)
theorem AM (R:Nat->Rat) (i j:Nat) (h:(((cA R i i).den:Nat):Rat)-1=0):cA R i j=cA R (i+1) j:=by
 rw [jC,show (((cA R i i).den:Nat):Rat)=1 from by grind,Rat.mul_one]
theorem Da {q:Rat} (a:1<=L) (h:bh L q):bh L ((q.den:Nat):Rat):=by
 refine ⟨?_,?_⟩
 ·show ((q.den:Nat):Rat).num.natAbs<_
  rw [Rat.num_natCast,Int.natAbs_natCast];exact h.2
 ·rw [Rat.den_natCast];exact Nat.lt_of_lt_of_le (by decide:1<4294967296^1) (Nat.pow_le_pow_right zD a)
def WhoR (W:World) (base m n:Nat) (R:Nat->Nat->Rat) (L:Nat) (v5 v12:Value) (wr:World):Prop :=
 ∃ (i:Nat) (bs cs:Nat->Nat),i<=m/\v12=.int .i64 i/\da (eM n) 76 wr base v5 (cd bs cs i)/\sT wr base n i bs cs (fun j=>cA (R j) n) L/\W.grownBy wr none
def WinR (W:World) (g n:Nat) (R:Nat->Rat) (L:Nat) (v:Value) (wr:World):Prop :=
 ∃ k:Nat,k<=n/\v=.int .i64 k/\aI wr g n (cA R k) L/\aO W wr g
def WholeE (w:World) (m n:Nat) (R:Nat->Nat->Rat) (L:Nat) (e:Ending) (w':World):Prop :=
 ∃ br cap bs cs,e=.returned (.slice (some ⟨br,0,none⟩) m cap)/\w.heap.size<=br/\m<=cap/\cap<=maxLen/\(∀ i,i<m->w.heap.size<=bs i)/\bU w' br m n bs cs (fun j=>cA (R j) n) L/\w.grownBy w' none
theorem uh (B:Bool) (C d:Option Addr) (fl fc f h:Nat) (br m n cap:Nat) (bs cs:Nat->Nat) (R:Nat->Nat->Rat) (L:Nat) (w:World)
  (hM:bU w br m n bs cs R L) (h1:FQ w (.agg #[.bool B,.slice C fl fc,.slice d f h]) 1 L) (hm0:0<m) (hm:m<=1000) (hn0:0<n) (hn:n<=1000) (hc:m<=cap) (hc2:cap<=maxLen) (hL1:1<=L) (hL:L<=50000000)
  (hfit:∀ i,i<m->∀ k,k<=n->∀ j,j<n->bh L (cA (R i) k j)) :
  Calls Tryz.prog 201 #[(kq B (.slice C fl fc) (.slice d f h)),.slice (some ⟨br,0,none⟩) m cap] w fun e w'=>WholeE w m n R L e w':=by
 unfold maxLen at hc2;have HM:=aa hM;have H1:=aa h1;have HF:=aa hfit;clear hM h1 hfit;obtain ⟨W,X⟩:=eX (w.alloc (Obj.cells #[.bool B,.slice C fl fc,.slice d f h,.func (.func 129) #[] #[],.func (.func 107) #[] #[],.func (.func 67) #[] #[],.func (.func 38) #[] #[],.func (.func 130) #[] #[],.func (.func 131) #[] #[],.func (.func 132) #[] #[],.func (.func 133) #[] #[]] 128));have GW:Hid (w.grownBy W none):=by rw [X];exact ae (ag _ _) _
 have y:Hid (W.heap.size=w.heap.size+1):=by show _=_;rw [X];simp
 have I:Hid (∀ wx g,W.heap.size<=g->W.grownBy wx (some g)->wx.cell? ⟨w.heap.size,3,none⟩=some (.func (.func 129) #[] #[])/\wx.cell? ⟨w.heap.size,4,none⟩=some (.func (.func 107) #[] #[])/\wx.cell? ⟨w.heap.size,5,none⟩=some (.func (.func 67) #[] #[])/\wx.cell? ⟨w.heap.size,6,none⟩=some (.func (.func 38) #[] #[])/\wx.cell? ⟨w.heap.size,7,none⟩=some (.func (.func 130) #[] #[])/\wx.cell? ⟨w.heap.size,8,none⟩=some (.func (.func 131) #[] #[])/\wx.cell? ⟨w.heap.size,9,none⟩=some (.func (.func 132) #[] #[])/\wx.cell? ⟨w.heap.size,10,none⟩=some (.func (.func 133) #[] #[])/\wx.cell? ⟨w.heap.size,0,none⟩=some (.bool B)/\wx.cell? ⟨w.heap.size,1,none⟩=some (.slice C fl fc)/\wx.cell? ⟨w.heap.size,2,none⟩=some (.slice d f h)):=by
  intro wx g hq hg;have hF:=y.out;rw [X] at hg;have p:some w.heap.size≠some g:=fun e=>by have:=zJ e;omega
  exact ⟨hg.cell zG p,hg.cell zG p,hg.cell zG p,hg.cell zG p,hg.cell zG p,hg.cell zG p,hg.cell zG p,hg.cell zG p,hg.cell zG p,hg.cell zG p,hg.cell zG p⟩
 go_enter Tryz.func201,Tryz.ntmps201
 go_upto_region 2 with fail;rw [<- X];clear X;go_wp2;go_loopw [5,12] (fun v5 v12 wr=>Hid (WhoR W W.heap.size m n R L v5 v12 wr)) (fun _ v _=>m-(intOf v).toNat)
 case atStart=>exact ⟨0,fun _=>0,fun _=>0,O,rfl,mW,sT.nil ..,ag _ _⟩
 case round =>
  obtain ⟨i,bt,ct,hi,rfl,l1,l2,l3⟩:=hrel.out;obtain ⟨oa,oc,rfl⟩:=l1.1.shape;rw [bA] at l1 ⊢;have L1:=aa l1;have J:=aa l2;have K:=aa l3;clear l1 l2 l3 hrel;by_cases hlt:i<m
  ·have MM:=aa ((HM.keep0 GW).keep0 K);have ci:=(MM.cell i hlt).1;obtain ⟨Y,E⟩:=MM.out.cap i hlt;have M:=aa E;unfold maxLen at E;go_wp2_with fail;refine (wJ (bs i) n (cs i) (R i) L _ (MM.row i hlt) hn0 O Y M).mono ?_;rintro e w1 ⟨g,c,rfl,hr,he,hf,f1,g1⟩;have F1:=aa f1;have G1:=aa (ab K g1);have N:=aa hf;have K1:=aa (L1.keep0 g1);have K2:=aa (J.keep0 g1);have P:Hid ((Value.slice oa i oc).ownBlock≠some g):=fun e=>by have:=(L1.1.fresh g e).2;omega
   have Q:Hid (∀ j,j<i->bt j≠g):=fun j hj e=>by have:=(J.row j hj).lt;omega
   have z:Hid (W.heap.size<=g):=by show _<=_;have:=K.out.size;omega
   unfold maxLen at hf;clear f1 g1 L1 J K MM ci M hr;go_wp2;go_loopw [20] (fun v wx=>Hid (WinR w1 g n (R i) L v wx)) (fun v _=>n-(intOf v).toNat)
   case atStart=>exact ⟨0,O,rfl,F1.congr (fun j _=>(xH _ j).symm),aO.refl _ _⟩
   case round =>
    obtain ⟨k,hk,rfl,k1,k2⟩:=hrel.out;have I1:=aa k1;have D:=aa k2;clear k1 k2 hrel F1;have ho:Hid (∀ wx,aO w1 wx g->W.grownBy wx (some g)):=fun wx hx=>aj (r:=some g) G1 hx.1 nofun (fun _ _ e=>e)
    by_cases S:k<n
    ·obtain ⟨xo,xl,xc,yo,yl,yc,c0,c1,c2,c3,_⟩:=I1.out.at k S;have X3:=aa c3;have CX:Hid (∀ wx,wr.grownBy wx none->wx.cell? ⟨w.heap.size,3,none⟩=some (.func (.func 129) #[] #[])/\wx.cell? ⟨w.heap.size,4,none⟩=some (.func (.func 107) #[] #[])/\wx.cell? ⟨w.heap.size,5,none⟩=some (.func (.func 67) #[] #[])/\wx.cell? ⟨w.heap.size,6,none⟩=some (.func (.func 38) #[] #[])/\wx.cell? ⟨w.heap.size,7,none⟩=some (.func (.func 130) #[] #[])/\wx.cell? ⟨w.heap.size,8,none⟩=some (.func (.func 131) #[] #[])/\wx.cell? ⟨w.heap.size,9,none⟩=some (.func (.func 132) #[] #[])/\wx.cell? ⟨w.heap.size,10,none⟩=some (.func (.func 133) #[] #[])/\wx.cell? ⟨w.heap.size,0,none⟩=some (.bool B)/\wx.cell? ⟨w.heap.size,1,none⟩=some (.slice C fl fc)/\wx.cell? ⟨w.heap.size,2,none⟩=some (.slice d f h)/\wx.cell? ⟨g,k*3,none⟩=some (.bool (rB (cA (R i) k k)))/\wx.cell? ⟨g,k*3+1,none⟩=some (.slice xo xl xc)/\wx.cell? ⟨g,k*3+2,none⟩=some (.slice yo yl yc)):=by
      intro wx hg;obtain ⟨s0,s1,s2,s3,s4,s5,s6,s7,s8,s9,s10⟩:=I.out wx g z (ho wx (D.gr hg));exact ⟨s0,s1,s2,s3,s4,s5,s6,s7,s8,s9,s10,hg.cell c0 Z,hg.cell c1 Z,hg.cell c2 Z⟩
     clear c0 c1 c2 c3;have HD:Hid (bh L (((cA (R i) k k).den:Nat):Rat)):=Da hL1 (HF i hlt k O k S);have T:Hid (aI wr g n (cA (R i) k) L):=I1.out;have GG:wr.grownBy wr none:=ag _ _;obtain ⟨s0,s1,s2,s3,s4,s5,s6,s7,s8,s9,s10,s11,s12,s13⟩:=CX.out wr GG;have hy:g<wr.heap.size:=I1.out.lt;have hA:w.heap.size<wr.heap.size:=by have:=z.out;have:=y.out;omega
     have hG:wr.heap.size≠w.heap.size:=O
     have hH:wr.heap.size≠g:=O
     obtain ⟨a,t⟩:∃ a:Rat,a=(((cA (R i) k k).den:Nat):Rat):=⟨_,rfl⟩;have l:=aa t;have hI:Hid (bh L a):=by rw [t];exact HD
     clear t;go_upto_region 9 with fail;go_cut [9] (fun s9 wx=>Hid (∃ gs,s9=.pointer (some ⟨gs,0,none⟩)/\wr.heap.size<=gs/\aI wx gs 1 (fun _=>a) L/\wr.grownBy wx none))
     case first =>
      go_region_held3 (fun w'=>w'.cell? ⟨w.heap.size,3,none⟩=some (.func (.func 129) #[] #[])/\w'.cell? ⟨w.heap.size,4,none⟩=some (.func (.func 107) #[] #[])/\w'.cell? ⟨w.heap.size,5,none⟩=some (.func (.func 67) #[] #[])/\w'.cell? ⟨w.heap.size,6,none⟩=some (.func (.func 38) #[] #[])/\w'.cell? ⟨w.heap.size,7,none⟩=some (.func (.func 130) #[] #[])/\w'.cell? ⟨w.heap.size,8,none⟩=some (.func (.func 131) #[] #[])/\w'.cell? ⟨w.heap.size,9,none⟩=some (.func (.func 132) #[] #[])/\w'.cell? ⟨w.heap.size,10,none⟩=some (.func (.func 133) #[] #[])/\w'.cell? ⟨w.heap.size,0,none⟩=some (.bool B)/\w'.cell? ⟨w.heap.size,1,none⟩=some (.slice C fl fc)/\w'.cell? ⟨w.heap.size,2,none⟩=some (.slice d f h)/\w'.cell? ⟨g,k*3,none⟩=some (.bool (rB (cA (R i) k k)))/\w'.cell? ⟨g,k*3+1,none⟩=some (.slice xo xl xc)/\w'.cell? ⟨g,k*3+2,none⟩=some (.slice yo yl yc)) (go_keep)
       (first | (go_at_call 132;refine (qBar_at _ (cA (R i) k k) L _ (X3.keep0 (ab GG (by first | exact bG _ | exact aX | exact ag _ _ | exact ae (bG _) _ | exact ae aX _ | exact ar (ae (ag _ _) _) 1 | exact ar (ae (ag _ _) _) _)))).mono ?_;rintro e wx ⟨vx,rfl,px,gx⟩;have px:=px.tight (L':=L) HD;rw [<- l] at px;obtain ⟨po,pl,pc,qo,ql,qc,rfl⟩:=px.shape;have GG:wr.grownBy wx none:=ab (ab GG (by first | exact bG _ | exact aX | exact ag _ _ | exact ae (bG _) _ | exact ae aX _ | exact ar (ae (ag _ _) _) 1 | exact ar (ae (ag _ _) _) _)) gx;obtain ⟨x0,x1,x2,x3,x4,x5,x6,x7,x8,x9,hs,hu,hv,hw⟩:=CX.out wx GG;(try (have gy:=ab (ar (ag (wr.alloc (Obj.cells #[.bool false,.slice none 0 0,.slice none 0 0] 85)) none) 1) gx;obtain ⟨hK,hN,hQ,A⟩:=aV gy;have hB:=A 0;have hC:=A 1;have hD:=A 2;clear A))))
      all_goals (go_wp2_with fail;go_meet;first
       | exact ⟨_,rfl,GG.size,np (px.keep0 zQ),ae zF _⟩
       | exact ⟨_,rfl,zL,pE gy px,ah (ah (ah GG _ _ zL) _ _ zL) _ _ zL⟩)
     case rest =>
      obtain ⟨gs,rfl,hq,f2,g2⟩:=hcut.out;have F2:=aa f2;have G:=aa g2;obtain ⟨so,sl,sc,hl,tl,tc,d0,d1,d2,d3,_⟩:=f2.var;have D3:=aa d3;clear hcut s0 s1 s2 s3 s4 s5 s6 s7 s8 s9 s10 s11 s12 s13 f2 g2 GG;have CY:Hid (∀ wx,wc.grownBy wx none->wx.cell? ⟨w.heap.size,3,none⟩=some (.func (.func 129) #[] #[])/\wx.cell? ⟨w.heap.size,4,none⟩=some (.func (.func 107) #[] #[])/\wx.cell? ⟨w.heap.size,5,none⟩=some (.func (.func 67) #[] #[])/\wx.cell? ⟨w.heap.size,6,none⟩=some (.func (.func 38) #[] #[])/\wx.cell? ⟨w.heap.size,7,none⟩=some (.func (.func 130) #[] #[])/\wx.cell? ⟨w.heap.size,8,none⟩=some (.func (.func 131) #[] #[])/\wx.cell? ⟨w.heap.size,9,none⟩=some (.func (.func 132) #[] #[])/\wx.cell? ⟨w.heap.size,10,none⟩=some (.func (.func 133) #[] #[])/\wx.cell? ⟨w.heap.size,0,none⟩=some (.bool B)/\wx.cell? ⟨w.heap.size,1,none⟩=some (.slice C fl fc)/\wx.cell? ⟨w.heap.size,2,none⟩=some (.slice d f h)/\wx.cell? ⟨gs,0,none⟩=some (.bool (rB a))/\wx.cell? ⟨gs,1,none⟩=some (.slice so sl sc)/\wx.cell? ⟨gs,2,none⟩=some (.slice hl tl tc)):=by
       intro wx hg;obtain ⟨s0,s1,s2,s3,s4,s5,s6,s7,s8,s9,s10,s11,s12,s13⟩:=CX.out wx (ab G hg);exact ⟨s0,s1,s2,s3,s4,s5,s6,s7,s8,s9,s10,hg.cell d0 Z,hg.cell d1 Z,hg.cell d2 Z⟩
      clear d0 d1 d2 d3;have GG:wc.grownBy wc none:=ag _ _;obtain ⟨s0,s1,s2,s3,s4,s5,s6,s7,s8,s9,s10,s11,s12,s13⟩:=CY.out wc GG;go_wp2_with fail;go_cut [39] (fun s39 wx=>Hid (s39=.bool (!(decide (a-1=0)))/\wc.grownBy wx none))
      case first =>
       go_region_held3 (fun w'=>w'.cell? ⟨w.heap.size,3,none⟩=some (.func (.func 129) #[] #[])/\w'.cell? ⟨w.heap.size,4,none⟩=some (.func (.func 107) #[] #[])/\w'.cell? ⟨w.heap.size,5,none⟩=some (.func (.func 67) #[] #[])/\w'.cell? ⟨w.heap.size,6,none⟩=some (.func (.func 38) #[] #[])/\w'.cell? ⟨w.heap.size,7,none⟩=some (.func (.func 130) #[] #[])/\w'.cell? ⟨w.heap.size,8,none⟩=some (.func (.func 131) #[] #[])/\w'.cell? ⟨w.heap.size,9,none⟩=some (.func (.func 132) #[] #[])/\w'.cell? ⟨w.heap.size,10,none⟩=some (.func (.func 133) #[] #[])/\w'.cell? ⟨w.heap.size,0,none⟩=some (.bool B)/\w'.cell? ⟨w.heap.size,1,none⟩=some (.slice C fl fc)/\w'.cell? ⟨w.heap.size,2,none⟩=some (.slice d f h)/\w'.cell? ⟨gs,0,none⟩=some (.bool (rB a))/\w'.cell? ⟨gs,1,none⟩=some (.slice so sl sc)/\w'.cell? ⟨gs,2,none⟩=some (.slice hl tl tc)) (go_keep)
        (first | (go_at_call 67;refine (dD _ _ a 1 L L _ (D3.keep0 zF) (H1.kept ((aN.of_gr GW).trans ((aN.of_gr G1).trans (D.2.trans (aN.of_gr (ab G zF)))))) O).mono ?_;rintro e wa ⟨va,rfl,pa,ga⟩;obtain ⟨ao,al,ac,bo,bl,bc,rfl⟩:=pa.shape;have GG:wc.grownBy wa none:=ab zF ga;obtain ⟨a0,a1,a2,a3,a4,a5,a6,a7,a8,a9,hR,hS,hT,hX⟩:=CY.out wa GG) | (go_at_call 131;refine (bn _ (a-1) (L+L+2) _ (pa.keep0 zQ)).mono ?_;rintro e wx ⟨rfl,gx⟩;have GG:wc.grownBy wx none:=ab zF gx;obtain ⟨x0,x1,x2,x3,x4,x5,x6,x7,x8,x9,hs,hu,hv,hw⟩:=CY.out wx GG))
       all_goals (go_wp2_with fail;go_meet;exact ⟨rfl,zF⟩)
      case rest =>
       obtain ⟨rfl,g4⟩:=hcut.out;have H:=aa g4;clear hcut s0 s1 s2 s3 s4 s5 s6 s7 s8 s9 s10 s11 s12 s13 g4 GG;by_cases U:a-1=0
       ·have q:(!(decide (a-1=0)))=false:=by simp [U]
        rw [q];have HZ:=aa U;clear U q;go_wp2;go_roundw
        case rel =>
         refine ⟨k+1,O,zN,((T.keep0 G).keep0 H).congr (fun j _=>AM _ _ _ ?_),(D.gr G).gr H⟩;rw [<- l];exact HZ
        case measure=>exact bO
       ·have q:(!(decide (a-1=0)))=true:=by simp [U]
        rw [q];clear U q;obtain ⟨s0,s1,s2,s3,s4,s5,s6,s7,s8,s9,s10,s11,s12,s13⟩:=CY.out _ H;go_wp2_with fail;refine (nm _ _ _ g n c (cA (R i) k) a _ L _ ((T.keep0 G).keep0 H) (D3.keep0 H) he N O (fun j hj=>by rw [l,<- jC];exact HF i hlt (k+1) O j hj)).mono ?_;rintro e w5 ⟨rfl,f5,r5⟩;have F5:=aa f5;have R5:=aa (((D.gr G).gr H).trans r5);clear f5 r5 s0 s1 s2 s3 s4 s5 s6 s7 s8 s9 s10 s11 s12 s13;go_wp2;go_roundw
        case rel=>exact ⟨k+1,O,zN,F5.congr (fun j _=>by rw [l,<- jC]),R5⟩
        case measure=>exact bO
    ·obtain rfl:k=n:=O
     have O1:=aa (K1.keep D.1 (.inr P));have O2:=aa (K2.keepB D Q);have hp:Hid (W.heap.size<=wr.heap.size):=Nat.le_trans G1.size D.1.size;go_wp2_with (at_builtin;refine dC (eM k) 76 (.slice none 0 0) 24 _ rfl _ _ 213 rfl W.heap.size Tryz.underlying213 Tryz.infoRow rfl (fun x=>by simp [Value.cells]) (fun u x=>by simp [eM]) (.slice oa i oc) (cd bt ct i) rfl (O1.keep0 (ae (ag _ _) _)) wr.heap.size (g,c) rfl (by go_simp;rfl) rfl (by rw [bA];omega) O (by simp;exact Nat.le_succ_of_le hp) ?_)
     intro ao hE w5 s F V;rw [bA] at s ⊢;have RA:=aa (iW (O1.keep0 (ae (ag wr none) _)) hn0 (O2.keep0 (ae (ag wr none) _)) he N (I1.keep0 (ae (ag wr none) _)) z Q P F V s);have HG:Hid (W.grownBy w5 none):=by
      refine aj (r:=none) (aj (r:=none) G1 (aj (r:=some g) D.1 (ae (ag wr none) _) (fun _ _ e=>e) nofun) (fun _ _ e=>e) (fun b hb e=>?_)) F (fun _ _ e=>e) (fun b hb e=>?_)
      ·have:=zJ e;have:=z.out;omega
      ·have:=(O1.1.fresh b e.symm).1;omega
     clear s F V;go_wp2;go_roundw
     case rel=>exact ⟨i+1,cZ bt i g,cZ ct i c,O,zN,RA.1,RA.2,HG⟩
     case measure=>exact bO
  ·obtain rfl:i=m:=O
   obtain ⟨b2,c2,e2,q1,q2,q3,q4⟩:=L1.out.mat hm0 hn0 J;simp only [Value.slice.injEq,true_and] at e2;obtain ⟨rfl,rfl⟩:=e2;have Q3:=aa q3;have Q4:=aa q4;clear q3 q4;go_wp2;go_ret;exact ⟨b2,_,bt,ct,rfl,by have:=y.out;omega,q2,Q3,fun j hj=>by have:=J.out.low j hj;have:=y.out;omega,Q4,ab GW K⟩
theorem cN.of_labs {g:Nat} {l:Nat->Nat} (h:q9 w g (lQ m l)):cN w g m l:=by
 refine ⟨_,_,h,fun i hi=>?_⟩;simp [lQ,hi]
theorem cN.congr {g:Nat} {b:Nat->Nat} (h:cN w g m o) (e:∀ i,i<m->o i=b i):cN w g m b:=by
 obtain ⟨a,t,hb,hc⟩:=h;exact ⟨a,t,hb,fun i hi=>by rw [<- e i hi];exact hc i hi⟩
structure sQ (W w:World) (br2 bo gl m:Nat) (bs cs:Nat->Nat) (order:List Nat) (R:Nat->Nat->Rat) (d:Rat) (L:Nat):Prop where
 mat:bU w br2 m (m+1) bs cs R L
 ord:cN w bo m (fun i=>order.getD i 0)
 var:aI w gl 1 (fun _=>d) L
 gr:W.grownBy w none
section
variable {W w w':World} {br2 bo gl m:Nat} {bs cs:Nat->Nat} {order:List Nat} {R:Nat->Nat->Rat} {d:Rat} {L:Nat}
theorem sQ.keep0 (h:sQ W w br2 bo gl m bs cs order R d L) (g:w.grownBy w' none):sQ W w' br2 bo gl m bs cs order R d L:=⟨h.mat.keep0 g,h.ord.keep0 g,h.var.keep0 g,ab h.gr g⟩
theorem sQ.congr {R':Nat->Nat->Rat} (h:sQ W w br2 bo gl m bs cs order R d L) (e:∀ i,i<m->∀ j,j<m+1->R i j=R' i j):sQ W w br2 bo gl m bs cs order R' d L:=⟨h.mat.congr e,h.ord,h.var,h.gr⟩
theorem sQ.neo (h:sQ W w br2 bo gl m bs cs order R d L) (a:0<m):br2≠bo/\∀ i,i<m->bs i≠bo:=h.mat.ne_int a O (h.ord.at 0 a)
theorem sQ.row (h:sQ W w br2 bo gl m bs cs order R d L) (hb:∀ i,i<m->W.heap.size<=bs i/\bs i≠gl) {i:Nat} (hi:i<m) {Q:Nat->Rat} (a:aI w' (bs i) (m+1) Q L) (g:aO w w' (bs i)):sQ W w' br2 bo gl m bs cs order (fun j=>if j=i then Q else R j) d L :=
 ⟨h.mat.step hi a g,h.ord.keep g.1 (fun e=>(h.neo O).2 i hi (zJ e).symm),h.var.keep g.1 g.2 (fun e=>(hb i hi).2 (zJ e).symm),aj (r:=none) h.gr g.1 (fun _ _ e=>e) (fun b c e=>by have:=zJ e;have:=(hb i hi).1;omega)⟩
theorem sQ.last {p:Rat} (h:sQ W w br2 bo gl m bs cs order R d L) (hb:∀ i,i<m->W.heap.size<=bs i/\bs i≠gl) (f:W.heap.size<=gl) (a:br2<gl) (j:bo<gl) (c:aI w' gl 1 (fun _=>p) L) (g:aO w w' gl):sQ W w' br2 bo gl m bs cs order R p L :=
 ⟨h.mat.keepR g O (fun i hi=>(hb i hi).2),h.ord.keep g.1 (fun e=>by have:=zJ e;omega),c,aj (r:=none) h.gr g.1 (fun _ _ e=>e) (fun b a e=>by have:=zJ e;omega)⟩
end
theorem aI.varset2 {b:Nat} {p q:Rat} (h:aI w b 1 (fun _=>p) L) {c a:Option Addr} {d e f g:Nat} (i:FQ w (.agg #[.bool (rB q),.slice c d e,.slice a f g]) q L) :
  aI (((w.setCell ⟨b,0,none⟩ (.bool (rB q))).setCell ⟨b,1,none⟩ (.slice c d e)).setCell ⟨b,2,none⟩ (.slice a f g)) b 1 (fun _=>q) L
  /\ aO w (((w.setCell ⟨b,0,none⟩ (.bool (rB q))).setCell ⟨b,1,none⟩ (.slice c d e)).setCell ⟨b,2,none⟩ (.slice a f g)) b:=by
 have:=(h.set 0 O i);simp only [Nat.zero_mul,Nat.zero_add] at this;exact ⟨h.varset i zL,this.2⟩
theorem iP (a b:Nat):aP a b a=b:=by
 unfold aP;by_cases e:a=b
 ·rw [if_pos e,e]
 ·rw [if_neg e,if_pos rfl]
def RowsE (w:World) (m:Nat) (R:Nat->Nat->Rat) (L:Nat) (e:Ending) (w':World):Prop :=
 (∃ g X,e=.returned (.tuple #[.slice (some ⟨g,0,none⟩) m m,.int .i64 0])/\w.heap.size<=g/\aI w' g m X L/\w.grownBy w' none/\mF R m X/\∀ z,mF R m z->∀ j,j<m->z j=X j)
 ∨ (e=.returned (.tuple #[.slice none 0 0,.int .i64 7])/\w.grownBy w' none/\¬ ∃ x,mF R m x)
 ∨ (e=.returned (.tuple #[.slice none 0 0,.int .i64 8])/\w.grownBy w' none/\∃ x y:Nat->Rat,mF R m x/\mF R m y/\∃ j,j<m/\x j≠y j)
def OrdR (W:World) (g m:Nat) (v:Value) (wr:World):Prop:=∃ k:Nat,k<=m/\v=.int .i64 k/\q9 wr g (lQ m fun x=>if x<k then x else 0)/\W.grownBy wr none
def RowR (W:World) (br2 bo gl m:Nat) (Wm:Nat->Nat->Rat) (b:Nat->Nat) (L:Nat) (v:Value) (wr:World):Prop :=
 ∃ (done:Nat) (bs cs:Nat->Nat) (perm order:List Nat) (R:Nat->Nat->Rat) (d s:Rat),done<=m/\v=.int .i64 done/\St Wm m done perm order R d s/\(∀ t,t<done->∀ j,gP (dR m b) (R t j))
  /\ (∀ i,i<m->W.heap.size<=bs i/\bs i≠gl)/\sQ W wr br2 bo gl m bs cs order (R) (d) L
def ElmR (W:World) (br2 bo gl m done:Nat) (bs cs:Nat->Nat) (order:List Nat) (R:Nat->Nat->Rat) (u d:Rat) (L:Nat) (v:Value) (wr:World):Prop :=
 ∃ i:Nat,done+1+i<=m/\v=.int .i64 i/\sQ W wr br2 bo gl m bs cs order (fI R (order.getD done 0) done u d i) (d) L
theorem rows_at (J:Bool) (K q:Option Addr) (fl fc A B:Nat) (br m cap:Nat) (hN hQ:Nat->Nat) (N:Nat->Nat->Rat) (L LS:Nat) (b:Nat->Nat) (w:World)
  (hM:bU w br m (m+1) hN hQ N L) (h1:FQ w (.agg #[.bool J,.slice K fl fc,.slice q A B]) 1 L) (hm0:0<m) (hm:m<=900) (hc:m<=cap) (hc2:cap<=maxLen) (hL1:1<=L) (hL:L<=300000000)
  (hfit:∀ i,i<m->∀ k,k<=m+1->∀ j,j<m+1->bh L (cA (N i) k j)) (hb:∀ r,1<=b r) (hB:∀ r j,gP (b r) (nq N (m+1) r j)) (hMo:dR m b<4294967296^L) (hS:(m+1)*(dR m b*dR m b)<4294967296^LS) (hLS:L+L+1<=LS) (hLS2:LS<=100000000) :
  Calls Tryz.prog 171 #[(kq J (.slice K fl fc) (.slice q A B)),.slice (some ⟨br,0,none⟩) m cap] w fun e w'=>RowsE w m N L e w':=by
 have HM:=aa hM;have H1:=aa h1;have HF:=aa hfit;have HB:=aa hb;have hD:=aa hB;have hR:=aa hMo;have HS:=aa hS;have qf:=aa hc2;clear hM h1 hfit hb hB hMo hS hc2;obtain ⟨W,hW⟩:=eX (w.alloc (Obj.cells #[.bool J,.slice K fl fc,.slice q A B,.func (.func 129) #[] #[],.func (.func 107) #[] #[],.func (.func 67) #[] #[],.func (.func 38) #[] #[],.func (.func 130) #[] #[],.func (.func 131) #[] #[],.func (.func 132) #[] #[],.func (.func 133) #[] #[]] 128));have GW:Hid (w.grownBy W none):=by rw [hW];exact ae (ag _ _) _
 have hT:Hid (W.heap.size=w.heap.size+1):=by show _=_;rw [hW];simp
 have E:Hid (∀ wx,W.grownBy wx none->wx.cell? ⟨w.heap.size,0,none⟩=some (.bool J)/\wx.cell? ⟨w.heap.size,1,none⟩=some (.slice K fl fc)/\wx.cell? ⟨w.heap.size,2,none⟩=some (.slice q A B)/\wx.cell? ⟨w.heap.size,3,none⟩=some (.func (.func 129) #[] #[])/\wx.cell? ⟨w.heap.size,4,none⟩=some (.func (.func 107) #[] #[])/\wx.cell? ⟨w.heap.size,5,none⟩=some (.func (.func 67) #[] #[])/\wx.cell? ⟨w.heap.size,6,none⟩=some (.func (.func 38) #[] #[])/\wx.cell? ⟨w.heap.size,7,none⟩=some (.func (.func 130) #[] #[])/\wx.cell? ⟨w.heap.size,8,none⟩=some (.func (.func 131) #[] #[])/\wx.cell? ⟨w.heap.size,9,none⟩=some (.func (.func 132) #[] #[])/\wx.cell? ⟨w.heap.size,10,none⟩=some (.func (.func 133) #[] #[])):=by
  intro wx hg;rw [hW] at hg;exact ⟨hg.cell zG Z,hg.cell zG Z,hg.cell zG Z,hg.cell zG Z,hg.cell zG Z,hg.cell zG Z,hg.cell zG Z,hg.cell zG Z,hg.cell zG Z,hg.cell zG Z,hg.cell zG Z⟩
 obtain ⟨s0,s1,s2,s3,s4,s5,s6,s7,s8,s9,s10⟩:=E.out W (ag _ _);go_enter Tryz.func171,Tryz.ntmps171
 go_upto_region 1 with fail;rw [<- hW];clear hW;go_wp2_with fail;refine (uh J K q fl fc A B br m (m+1) cap hN hQ N L W (HM.keep0 GW) (H1.keep0 GW) hm0 O O O hc qf hL1 O HF).mono ?_;rintro e w1 ⟨l,C,ko,js,rfl,k1,k2,k3,kl,k4,k5⟩;have M1:=aa (k4.congr (R':=nq N (m+1)) (fun i hi j hj=>by unfold nq;rw [if_pos hj]));have G1:=aa k5;have hE:=aa k3;have ql:=aa kl;have qo:=aa k1;unfold maxLen at k3;clear k1 kl k4 k5 s0 s1 s2 s3 s4 s5 s6 s7 s8 s9 s10;go_wp2_with (at_make;refine ja iv 3 0 8 _ rfl _ _ 51 rfl Tryz.underlying51 Tryz.infoInt rfl _ _ _ _ m rfl rfl O O O O ?_)
 intro w2 hv kn;have A2:=aa hv;have G2:=aa kn;obtain ⟨H,hl⟩:=eX w1.heap.size;rw [<- hl] at A2 ⊢;have qq:=aa hl;have hX:Hid (W.heap.size<=H):=by show _<=_;rw [hl];exact G1.size
 clear hv kn hl;go_wp2;go_loopw [20] (fun v wr=>Hid (OrdR w1 H m v wr)) (fun v _=>m-(intOf v).toNat)
 case atStart =>
  refine ⟨0,O,rfl,?_,G2⟩;have e:lQ m (fun x=>if x<0 then x else 0)=List.replicate m 0:=by
   apply List.ext_getElem
   ·simp [lQ]
   ·intro i h1 h2;simp [lQ]
  rw [e];exact A2
 case round =>
  obtain ⟨k,hk,rfl,l1,l2⟩:=hrel.out;by_cases hlt:k<m
  ·have Hd:=l1.free k;obtain ⟨v0,Hk⟩:∃ v,wr.cell? ⟨H,k,none⟩=some v:=⟨_,l1.cell k (by rw [vp];exact hlt)⟩;have L1:=aa l1;have L2:=aa l2;clear l1 l2 hrel;go_wp2;go_roundw
   case rel =>
    refine ⟨k+1,O,zN,?_,ah L2 _ _ (by rw [<- qq];exact zL)⟩;have:=L1.out.set k ((k:Nat):Int) (.int .i64 (k:Nat)) rfl;rw [Dm m _ k k hlt] at this;rw [xZ m (fun x=>if x<k+1 then x else 0) (fun x=>if x=k then k else if x<k then x else 0)]
    ·exact this
    ·intro x hx;by_cases e:x=k
     ·subst e;simp
     ·by_cases e2:x<k
      ·rw [if_pos O,if_neg e,if_pos e2]
      ·rw [if_neg O,if_neg e,if_neg e2]
   case measure=>exact bO
  ·obtain rfl:m=k:=O
   have O3:Hid (cN wr H m (fun i=>(List.range m).getD i 0)):=(cN.of_labs l1).congr (fun i hi=>by rw [if_pos hi,jR m i hi]);have M3:=aa (M1.keep0 l2);have G3:=aa (ab G1 l2);obtain ⟨w3,jv⟩:=eX wr;clear l1 l2 hrel A2 G2 M1 G1;obtain ⟨s0,s1,s2,s3,s4,s5,s6,s7,s8,s9,s10⟩:=E.out wr G3;go_upto_region 9 with fail;obtain ⟨w4,ho⟩:=eX (wr.alloc (Obj.cells #[.bool J,.slice K fl fc,.slice q A B] 85));have hf:Hid (wr.grownBy w4 none):=by rw [ho];exact ae (ag _ _) _
   have hY:Hid (J=rB 1):=FV.parts H1;have F4:Hid (aI w4 wr.heap.size 1 (fun _=>1) L):=by
    rw [ho,hY];refine np ?_;rw [<- hY];exact H1.keep0 (ab GW G3)
   obtain ⟨D,hq⟩:=eX wr.heap.size;rw [<- ho,<- hq];rw [<- hq] at F4;have O4:=aa (O3.keep0 hf);have M4:=aa (M3.keep0 hf);have G4:=aa (ab G3 hf);have P:Hid (W.heap.size<=D/\l<D/\H<D/\∀ i,i<m->ko i<D):=by
    rw [hq];exact ⟨G3.size,M3.lt,O3.lt,fun i hi=>(M3.row i hi).lt⟩
   clear ho hq jv w3 O3 M3 G3 hf s0 s1 s2 s3 s4 s5 s6 s7 s8 s9 s10;go_wp2;go_loopw [32] (fun v wr=>Hid (RowR W l H D m (nq N (m+1)) b L v wr)) (fun v _=>m-(intOf v).toNat)
   case atStart=>exact ⟨0,ko,js,_,_,_,1,1,O,rfl,wT _ _,fun t ht=>O,fun i hi=>⟨ql i hi,fun e=>by have:=P.out.2.2.2 i hi;omega⟩,⟨M4,O4,F4,G4⟩⟩
   case round =>
    clear M4 O4 F4 G4;obtain ⟨done,bs,cs,he,f,R,d,s,Hl,rfl,l1,l2,l3,⟨l4,l5,l6,l7⟩⟩:=hrel.out;have M:=aa l1;have S2:=aa l2;have S3:=aa l3;have M1:=aa l4;have O1:=aa l5;have F1:=aa l6;have G1:=aa l7;clear l1 l2 l3 l4 l5 l6 l7 hrel;obtain ⟨s0,s1,s2,s3,s4,s5,s6,s7,s8,s9,s10⟩:=E.out wr G1;by_cases hlt:done<m
    ·have hF:Hid (∀ i,i<m->f.getD i 0<m):=fun i hi=>M.ob _ (dg f i (by rw [M.ol];exact hi))
     go_wp2_with fail;refine (rh J K q fl fc A B l H m (m+1) C m done bs cs R (fun i=>f.getD i 0) L wr M1 O1 (fun i hi=>by have:=hF.out i hi;omega) hlt O O k2 hE zL (by unfold maxLen;omega) O).mono ?_;rintro e w5 (⟨a,c,ks,ku,mc,md,kw,rfl,m5,o5,p5⟩ | ⟨rfl,ky,g5⟩)
     ·have ka:Hid (∃ (bs' cs':Nat->Nat) (perm' order':List Nat) (R':Nat->Nat->Rat),St (nq N (m+1)) m done perm' order' R' d s/\(∀ t,t<done->∀ j,gP (dR m b) (R' t j))/\(∀ i,i<m->W.heap.size<=bs' i/\bs' i≠D)/\R' done (order'.getD done 0)≠0/\sQ W w5 l H D m bs' cs' order' R' d L):=by
       have ol:=M.out.ol;refine ⟨_,_,_,_,_,Av M hlt ks ku mc md,fun t ht j=>?_,fun i hi=>S3 _ (dA hlt ku hi),?_,⟨m5,o5.congr (fun i hi=>(cF f done c i O O).symm),p5.row F1 (by have:=P.out.2.1;omega) (by have:=P.out.2.2.1;omega),p5.gr G1 qo hX⟩⟩
       ·show gP _ (R (aP done a t) j)
        rw [lI (Nat.le_refl done) ks ht];exact S2 t ht j
       ·show R (aP done a done) ((dB f done c).getD done 0)≠0
        rw [cF f done c done O O,iP,iP];exact kw
      have kb:=hF;clear m5 o5 p5 kw M S2 S3 M1 O1 F1 G1 hF kb s0 s1 s2 s3 s4 s5 s6 s7 s8 s9 s10;clear bs cs he f R;obtain ⟨bs,cs,he,f,R,t1,t2,t3,t4,t5⟩:=ka.out;have M:=aa t1;have S2:=aa t2;have S3:=aa t3;have kc:=aa t4;have E5:=aa t5;have hom:f.getD done 0<m:=t1.ob _ (dg f done (by rw [t1.ol];exact hlt));obtain ⟨lo,ll,lc,Q,S,T,c0,c1,c2,c3,_⟩:=t5.var.var;have D3:=aa c3;obtain ⟨u,hu⟩:=eX (ug (R done (f.getD done 0)+d));have HU:=aa hu;have hG:Hid (u=1∨u = -1):=by rw [hu];exact turn_sg _
      have rd:=(t5.mat.cell done hlt).1;have od:=t5.ord.at done hlt;obtain ⟨hw,hA⟩:=t5.mat.cap done hlt;have hs:=aa hA;unfold maxLen at hA;have I:Hid (bs done≠w.heap.size/\bs done≠l/\bs done≠H/\bs done≠D):=⟨by have:=(t3 done hlt).1;have:=hT.out;omega,t5.mat.off done hlt,(t5.neo hm0).2 done hlt,(t3 done hlt).2⟩;have CX:Hid (∀ wx,w5.grownBy wx (some (bs done))->wx.cell? ⟨w.heap.size,0,none⟩=some (.bool J)/\wx.cell? ⟨w.heap.size,1,none⟩=some (.slice K fl fc)/\wx.cell? ⟨w.heap.size,2,none⟩=some (.slice q A B)/\wx.cell? ⟨w.heap.size,3,none⟩=some (.func (.func 129) #[] #[])/\wx.cell? ⟨w.heap.size,4,none⟩=some (.func (.func 107) #[] #[])/\wx.cell? ⟨w.heap.size,5,none⟩=some (.func (.func 67) #[] #[])/\wx.cell? ⟨w.heap.size,6,none⟩=some (.func (.func 38) #[] #[])/\wx.cell? ⟨w.heap.size,7,none⟩=some (.func (.func 130) #[] #[])/\wx.cell? ⟨w.heap.size,8,none⟩=some (.func (.func 131) #[] #[])/\wx.cell? ⟨w.heap.size,9,none⟩=some (.func (.func 132) #[] #[])/\wx.cell? ⟨w.heap.size,10,none⟩=some (.func (.func 133) #[] #[])/\wx.cell? ⟨l,done,none⟩=some (.slice (some ⟨bs (done),0,none⟩) (m+1) (cs (done)))/\wx.cell? ⟨H,done,none⟩=some (.int .i64 ((f.getD done 0:Nat):Int))/\wx.cell? ⟨D,0,none⟩=some (.bool (rB d))/\wx.cell? ⟨D,1,none⟩=some (.slice lo ll lc)/\wx.cell? ⟨D,2,none⟩=some (.slice Q S T)):=by
       intro wx hg;have F:some w.heap.size≠some (bs done):=fun e=>I.1 (zJ e).symm
       have n2:some l≠some (bs done):=fun e=>I.2.1 (zJ e).symm
       have n3:some H≠some (bs done):=fun e=>I.2.2.1 (zJ e).symm
       have n4:some D≠some (bs done):=fun e=>I.2.2.2 (zJ e).symm
       obtain ⟨b0,b1,b2,b3,b4,b5,b6,b7,b8,b9,hK⟩:=E.out w5 E5.gr;exact ⟨hg.cell b0 F,hg.cell b1 F,hg.cell b2 F,hg.cell b3 F,hg.cell b4 F,hg.cell b5 F,hg.cell b6 F,hg.cell b7 F,hg.cell b8 F,hg.cell b9 F,hg.cell hK F,hg.cell rd n2,hg.cell od n3,hg.cell c0 n4,hg.cell c1 n4,hg.cell c2 n4⟩
      clear t1 t2 t3 t4 t5 ka c0 c1 c2 c3 rd od hu;have GG:w5.grownBy w5 none:=ag _ _;obtain ⟨s0,s1,s2,s3,s4,s5,s6,s7,s8,s9,s10,s11,s12,s13,s14,s15⟩:=CX.out w5 (ag _ _);have U:f.getD done 0<m+1:=O
      have hH:(0:Int)<=(done:Int):=O
      have hI:(done:Int)<(m:Int):=O
      obtain ⟨kk,hr⟩:=eX (f.getD done 0);go_wp2_with fail;go_cut [56] (fun s56 wx=>Hid (sQ W wx l H D m bs cs f (fI R (f.getD done 0) done u d 0) d L))
      case first =>
       go_region_held3 (fun w'=>w'.cell? ⟨w.heap.size,0,none⟩=some (.bool J)/\w'.cell? ⟨w.heap.size,1,none⟩=some (.slice K fl fc)/\w'.cell? ⟨w.heap.size,2,none⟩=some (.slice q A B)/\w'.cell? ⟨w.heap.size,3,none⟩=some (.func (.func 129) #[] #[])/\w'.cell? ⟨w.heap.size,4,none⟩=some (.func (.func 107) #[] #[])/\w'.cell? ⟨w.heap.size,5,none⟩=some (.func (.func 67) #[] #[])/\w'.cell? ⟨w.heap.size,6,none⟩=some (.func (.func 38) #[] #[])/\w'.cell? ⟨w.heap.size,7,none⟩=some (.func (.func 130) #[] #[])/\w'.cell? ⟨w.heap.size,8,none⟩=some (.func (.func 131) #[] #[])/\w'.cell? ⟨w.heap.size,9,none⟩=some (.func (.func 132) #[] #[])/\w'.cell? ⟨w.heap.size,10,none⟩=some (.func (.func 133) #[] #[])/\w'.cell? ⟨l,done,none⟩=some (.slice (some ⟨bs (done),0,none⟩) (m+1) (cs (done)))/\w'.cell? ⟨H,done,none⟩=some (.int .i64 ((f.getD done 0:Nat):Int))/\w'.cell? ⟨D,0,none⟩=some (.bool (rB d))/\w'.cell? ⟨D,1,none⟩=some (.slice lo ll lc)/\w'.cell? ⟨D,2,none⟩=some (.slice Q S T)) (go_keep)
        (first | (go_at_call 204;refine (vk J K q fl fc A B (bs done) (m+1) (cs done) (f.getD done 0) (R done) d _ L _ ((E5.mat.row done hlt).keep0 zF) (D3.keep0 zF) (H1.keep0 (ab (ab GW E5.gr) zF)) U hw hs hL1 O).mono ?_;rintro e wa ⟨rfl,fa,ra⟩;rw [<- HU] at fa;have KS:=aa (((E5.keep0 zF).row S3 hlt fa ra).congr (fun t ht j hj=>xR R (f.getD done 0) done u d t j));obtain ⟨a0,a1,a2,a3,a4,a5,a6,a7,a8,a9,kz,ml,mm,mo,mp,ms⟩:=CX.out wa ((aO.of_gr (b:=bs done) zF).trans ra).1;clear fa ra GG))
       all_goals (go_wp2_with fail;go_meet;exact KS.keep0 zE)
      case rest =>
       have K1:=aa hcut;clear hcut s0 s1 s2 s3 s4 s5 s6 s7 s8 s9 s10 s11 s12 s13 s14 s15 GG CX D3 hr kk;have qs:IntKind.i64.wrap ((done:Int)+1)=(done:Int)+1:=IntWalk.i64_in _ ⟨O,O⟩;have ya:(0:Int)<=(done:Int)+1:=O
       have yb:(done:Int)+1<=(C:Int):=O
       have yc:(done:Int)+1<=(m:Int):=O
       go_upto_region 15 with fail;go_cut [60,61,62] (fun s60 s61 s62 wx=>Hid (∃ off c,s60=.slice (some ⟨l,off,none⟩) (m-(done+1)) c/\m-(done+1)<=c/\c<=9223372036854775807/\(done+1<m->off=done+1)/\s61=.int .i64 ((m-(done+1):Nat):Int)/\s62=.int .i64 0/\sQ W wx l H D m bs cs f (fI R (f.getD done 0) done u d 0) d L))
       case first =>
        by_cases Y:C=done+1
        ·have He:(C=done+1)=True:=eq_true Y;have ke:=aa Y;clear Y;go_wp2
         all_goals (go_meet;exact ⟨_,_,rfl,by have:=ke.out;omega,O,fun h=>absurd h (by have:=ke.out;omega),rfl,rfl,K1⟩)
        ·have yl:(C=done+1)=False:=eq_false Y;clear Y;go_wp2
         all_goals (go_meet;exact ⟨_,_,rfl,O,O,fun _=>rfl,rfl,rfl,K1⟩)
       case rest =>
        obtain ⟨off,c,rfl,Hm,Hc,kF,rfl,rfl,e3⟩:=hcut.out;have K2:=aa e3;clear hcut e3 K1 qs ya yb yc;go_wp2;go_loopw [62] (fun v wx=>Hid (ElmR W l H D m done bs cs f R u d L v wx)) (fun v _=>m-(intOf v).toNat)
        case atStart=>exact ⟨0,O,rfl,K2⟩
        case round =>
         obtain ⟨i,hi,rfl,e4⟩:=hrel.out;have K3:=aa e4;obtain ⟨lo,ll,lc,Q,S,T,c0,c1,c2,c3,cf⟩:=e4.var.var;have D3:=aa c3;have rd:=(e4.mat.cell done hlt).1;have od:=e4.ord.at done hlt;by_cases G:done+1+i<m
         ·obtain rfl:off=done+1:=kF O;have ri:=(e4.mat.cell (done+1+i) G).1;obtain ⟨kH,hC⟩:=e4.mat.cap (done+1+i) G;have kf:=aa hC;unfold maxLen at hC;have I:Hid (bs (done+1+i)≠w.heap.size/\bs (done+1+i)≠l/\bs (done+1+i)≠H/\bs (done+1+i)≠D):=⟨by have:=(S3 _ G).1;have:=hT.out;omega,e4.mat.off _ G,(e4.neo hm0).2 _ G,(S3 _ G).2⟩;have CX:Hid (∀ wx,wr.grownBy wx (some (bs (done+1+i)))->wx.cell? ⟨w.heap.size,0,none⟩=some (.bool J)/\wx.cell? ⟨w.heap.size,1,none⟩=some (.slice K fl fc)/\wx.cell? ⟨w.heap.size,2,none⟩=some (.slice q A B)/\wx.cell? ⟨w.heap.size,3,none⟩=some (.func (.func 129) #[] #[])/\wx.cell? ⟨w.heap.size,4,none⟩=some (.func (.func 107) #[] #[])/\wx.cell? ⟨w.heap.size,5,none⟩=some (.func (.func 67) #[] #[])/\wx.cell? ⟨w.heap.size,6,none⟩=some (.func (.func 38) #[] #[])/\wx.cell? ⟨w.heap.size,7,none⟩=some (.func (.func 130) #[] #[])/\wx.cell? ⟨w.heap.size,8,none⟩=some (.func (.func 131) #[] #[])/\wx.cell? ⟨w.heap.size,9,none⟩=some (.func (.func 132) #[] #[])/\wx.cell? ⟨w.heap.size,10,none⟩=some (.func (.func 133) #[] #[])/\wx.cell? ⟨l,done,none⟩=some (.slice (some ⟨bs (done),0,none⟩) (m+1) (cs (done)))/\wx.cell? ⟨H,done,none⟩=some (.int .i64 ((f.getD done 0:Nat):Int))/\wx.cell? ⟨D,0,none⟩=some (.bool (rB d))/\wx.cell? ⟨D,1,none⟩=some (.slice lo ll lc)/\wx.cell? ⟨D,2,none⟩=some (.slice Q S T)):=by
           intro wx hg;have F:some w.heap.size≠some (bs (done+1+i)):=fun e=>I.1 (zJ e).symm
           have n2:some l≠some (bs (done+1+i)):=fun e=>I.2.1 (zJ e).symm
           have n3:some H≠some (bs (done+1+i)):=fun e=>I.2.2.1 (zJ e).symm
           have n4:some D≠some (bs (done+1+i)):=fun e=>I.2.2.2 (zJ e).symm
           obtain ⟨b0,b1,b2,b3,b4,b5,b6,b7,b8,b9,hK⟩:=E.out wr K3.gr;exact ⟨hg.cell b0 F,hg.cell b1 F,hg.cell b2 F,hg.cell b3 F,hg.cell b4 F,hg.cell b5 F,hg.cell b6 F,hg.cell b7 F,hg.cell b8 F,hg.cell b9 F,hg.cell hK F,hg.cell rd n2,hg.cell od n3,hg.cell c0 n4,hg.cell c1 n4,hg.cell c2 n4⟩
          clear e4 c0 c1 c2 c3 cf rd od hrel K2;have GG:wr.grownBy wr none:=ag _ _;obtain ⟨s0,s1,s2,s3,s4,s5,s6,s7,s8,s9,s10,s11,s12,s13,s14,s15⟩:=CX.out wr (ag _ _);have Hf:i<m-(done+1):=O
          have yn:Hid (aI wr (bs (done+1+i)) (m+1) (R (done+1+i)) L):=by have h:=K3.out.mat.row _ G;rw [xP] at h;exact h
          have yo:Hid (aI wr (bs done) (m+1) (fun j=>u*R done j) L):=(K3.mat.row done hlt).congr (fun j _=>gZ ..);have yv:Hid (bs (done+1+i)≠bs done):=fun e=>by have:=K3.out.mat.inj _ _ G hlt e;omega
          go_wp2_with fail;go_region_held3 (fun w'=>w'.cell? ⟨w.heap.size,0,none⟩=some (.bool J)/\w'.cell? ⟨w.heap.size,1,none⟩=some (.slice K fl fc)/\w'.cell? ⟨w.heap.size,2,none⟩=some (.slice q A B)/\w'.cell? ⟨w.heap.size,3,none⟩=some (.func (.func 129) #[] #[])/\w'.cell? ⟨w.heap.size,4,none⟩=some (.func (.func 107) #[] #[])/\w'.cell? ⟨w.heap.size,5,none⟩=some (.func (.func 67) #[] #[])/\w'.cell? ⟨w.heap.size,6,none⟩=some (.func (.func 38) #[] #[])/\w'.cell? ⟨w.heap.size,7,none⟩=some (.func (.func 130) #[] #[])/\w'.cell? ⟨w.heap.size,8,none⟩=some (.func (.func 131) #[] #[])/\w'.cell? ⟨w.heap.size,9,none⟩=some (.func (.func 132) #[] #[])/\w'.cell? ⟨w.heap.size,10,none⟩=some (.func (.func 133) #[] #[])/\w'.cell? ⟨l,done,none⟩=some (.slice (some ⟨bs (done),0,none⟩) (m+1) (cs (done)))/\w'.cell? ⟨H,done,none⟩=some (.int .i64 ((f.getD done 0:Nat):Int))/\w'.cell? ⟨D,0,none⟩=some (.bool (rB d))/\w'.cell? ⟨D,1,none⟩=some (.slice lo ll lc)/\w'.cell? ⟨D,2,none⟩=some (.slice Q S T)) (go_keep)
           (first | (go_at_call 205;refine (yU J K q fl fc A B (bs (done+1+i)) (bs done) (m+1) (cs (done+1+i)) (cs done) (f.getD done 0) (R (done+1+i)) (fun j=>u*R done j) d _ L _ (yn.keep0 zF) (yo.keep0 zF) yv (D3.keep0 zF) U kH kf hw hs hL1 O M.dn (fun j _=>CT M hlt hG kc HB hD hL1 hR _ O G j)).mono ?_;rintro e wa ⟨rfl,fa,ra⟩;have KS:=aa (((K3.keep0 zF).row S3 G fa ra).congr (fun t ht j hj=>xQ R (f.getD done 0) done u d i t j));obtain ⟨a0,a1,a2,a3,a4,a5,a6,a7,a8,a9,kz,ml,mm,mo,mp,ms⟩:=CX.out wa ((aO.of_gr (b:=bs (done+1+i)) zF).trans ra).1;clear fa ra GG))
          all_goals
           go_wp2;go_roundw
           case rel=>exact ⟨i+1,O,zN,KS.keep0 zE⟩
           case measure=>exact bO
         ·obtain rfl:i=m-(done+1):=O
          obtain ⟨p,hp⟩:=eX (u*R done (f.getD done 0));obtain ⟨po,pl,pc,Hn,Ho,Hp,e0,e1,e2,e3,_⟩:=(e4.mat.row done hlt).at (f.getD done 0) U;rw [gZ,<- hp] at e0 e3;have P3:=aa e3;have HP:=aa hp;have Hg:=cf 0;have Hh:=cf 1;have Hi:=cf 2;clear e4 e3 hp hrel K2 c3 cf;have hH:(0:Int)<=((f.getD done 0:Nat):Int):=O
          have hI:((f.getD done 0:Nat):Int)<(m:Int)+1:=O
          obtain ⟨kk,hr⟩:=eX (f.getD done 0);rw [<- hr] at od e0 e1 e2 hH hI;clear hr;go_wp2;have V:=aa (K3.var.varset2 P3);have K4:=aa (K3.last S3 P.1 P.2.1 P.2.2.1 V.1 V.2);go_region
          all_goals
           go_wp2;go_roundw
           case rel =>
            refine ⟨done+1,bs,cs,he,f,_,p,u*s,O,zN,?_,fun t ht j=>elim_wh M hlt hG HB hD S2 _ _ t ht j,S3,K4.keep0 (by first | exact aX | exact ag _ _ | exact bG _)⟩;rw [HP];exact nD M hlt hG kc
           case measure=>exact bO
     ·have M5:=aa (M1.keep0 g5);have G5:=aa (ab G1 g5);have kg:=aa ky;clear g5 ky s0 s1 s2 s3 s4 s5 s6 s7 s8 s9 s10;obtain ⟨s0,s1,s2,s3,s4,s5,s6,s7,s8,s9,s10⟩:=E.out w5 G5;have hH:(0:Int)<=(done:Int):=O
      have hI:(done:Int)<=(C:Int):=O
      have Hj:(done:Int)<=(m:Int):=O
      have yl:(C=done)=False:=eq_false O;have GG:w5.grownBy w5 none:=ag _ _;go_wp2_with fail;go_region_held3 (fun w'=>w'.cell? ⟨w.heap.size,0,none⟩=some (.bool J)/\w'.cell? ⟨w.heap.size,1,none⟩=some (.slice K fl fc)/\w'.cell? ⟨w.heap.size,2,none⟩=some (.slice q A B)/\w'.cell? ⟨w.heap.size,3,none⟩=some (.func (.func 129) #[] #[])/\w'.cell? ⟨w.heap.size,4,none⟩=some (.func (.func 107) #[] #[])/\w'.cell? ⟨w.heap.size,5,none⟩=some (.func (.func 67) #[] #[])/\w'.cell? ⟨w.heap.size,6,none⟩=some (.func (.func 38) #[] #[])/\w'.cell? ⟨w.heap.size,7,none⟩=some (.func (.func 130) #[] #[])/\w'.cell? ⟨w.heap.size,8,none⟩=some (.func (.func 131) #[] #[])/\w'.cell? ⟨w.heap.size,9,none⟩=some (.func (.func 132) #[] #[])/\w'.cell? ⟨w.heap.size,10,none⟩=some (.func (.func 133) #[] #[])) (go_keep)
       (first | (go_at_call 203;refine (Ey J K q fl fc A B l m C done bs cs R L _ (M5.keep0 zF) O O k2 hE).mono ?_;rintro e wa ⟨ca,rfl,kN,ga⟩;have jc:=aa kN;clear kN;have GG:w5.grownBy wa none:=ab zF ga;obtain ⟨a0,a1,a2,a3,a4,a5,a6,a7,a8,a9,kz⟩:=E.out wa (ab G5 GG)))
      all_goals
       go_wp2;go_ret2
       rcases jc.out with ⟨e7,i,mt,Ha,hn⟩ | ⟨e8,hn⟩
       ·refine .inr (.inl ⟨by rw [e7];rfl,ab (ab GW G5) zF,?_⟩);rintro ⟨x,hx⟩;exact Au M kg mt Ha hn ⟨x,(iO N m x).2 hx⟩
       ·refine .inr (.inr ⟨by rw [e8];rfl,ab (ab GW G5) zF,?_⟩);obtain ⟨x,y,hx,hy,Hb⟩:=At M hlt kg hn;exact ⟨x,y,(iO N m x).1 hx,(iO N m y).1 hy,Hb⟩
    ·obtain rfl:done=m:=O
     obtain ⟨lo,ll,lc,Q,S,T,c0,c1,c2,c3,_⟩:=F1.out.var;obtain ⟨X,ip,kS,qa,qb,qc⟩:=back_of M hm0 HB hD S2 L LS hL1 hR O HS;have D3:=aa c3;clear c3;go_wp2_with fail;refine (Bi J K q fl fc A B l H done C done bs cs R (fun i=>f.getD i 0) ip (fun j=>d*X j) d _ L LS wr M1 O1 D3 qb M.dn O k2 hE zL (by unfold maxLen;omega) hL1 hL hLS hLS2).mono ?_;rintro e w5 ⟨g,rfl,q1,q2,q3⟩;have Q2:=aa q2;have Q3:=aa q3;have jl:=aa kS;have jo:=aa qa;have jp:=aa qc;clear q2 q3 kS qa qb qc s0 s1 s2 s3 s4 s5 s6 s7 s8 s9 s10 c0 c1 c2;go_wp2;go_ret2
     refine .inl ⟨g,X,rfl,?_,Q2.congr (fun j _=>jp j),ab (ab GW G1) Q3,(iO N done X).1 jl,fun z hz j hj=>jo z ((iO N done z).2 hz) j hj⟩;have:=(ab GW G1).size;omega
def bW (w:World) (base:Nat) (v:Value) (n:Nat) (R:Nat->Rat) (L:Nat):Prop :=
 ∃ ao c,v=.slice ao n c/\n<=c/\c<=maxLen/\(0<n->∃ g,ao=some ⟨g,0,none⟩/\base<=g/\aI w g n R L)
theorem bW.keep0 (h:bW w base v n R L) (g:w.grownBy w' none):bW w' base v n R L:=by
 obtain ⟨a,c,e,d,f,i⟩:=h;refine ⟨a,c,e,d,f,fun p=>?_⟩;obtain ⟨b,j,k,l⟩:=i p;exact ⟨b,j,k,l.keep0 g⟩
theorem aI.piece {b:Nat} (h:aI w b n R L) (o k:Nat) (y:o+k<=n):∃ xs:List Value,xs.length=k*3/\(∀ j u,xs[j]? = some u->w.cell? ⟨b,o*3+j,none⟩=some u)/\(∀ u∈xs,u.oneCell'=true)
  /\ ∀ (w':World) (g:Nat) (cur':Array Value) (e:TypeId),aN w w'->w'.heap[g]? = some (.cells cur' e (0,0))->cur'.toList.take (k*3)=xs->aI w' g k (fun i=>R (o+i)) L:=by
 obtain ⟨f,e,hb,hc⟩:=h;have z:(o+k)*3<=f.size:=by
  rcases zP (o+k) with F | F
  ·omega
  ·obtain ⟨u,d,_,_,c2,_⟩:=hc (o+k-1) O;have:=(zZ c2).1;omega
 have l:∀ j,j<k*3->((f.toList.drop (o*3)).take (k*3))[j]? = f[o*3+j]?:=by
  intro j c;rw [List.getElem?_take,if_pos c,List.getElem?_drop,Array.getElem?_toList]
 refine ⟨(f.toList.drop (o*3)).take (k*3),by simp;omega,?_,?_,?_⟩
 ·intro j u c;have p:j<k*3:=by
   have:=(zY c).1;simp at this;omega
  rw [l j p] at c;simp only [World.cell?,hb];exact c
 ·intro u A;obtain ⟨j,c⟩:=List.mem_iff_getElem?.1 A;have p:j<k*3:=by
   have:=(zY c).1;simp at this;omega
  rw [l j p] at c;obtain ⟨a,d,c0,c1,c2,c3⟩:=hc (o+j / 3) O;obtain ⟨H,I,J,G,K,M,x⟩:=c3.shape;simp only [Value.agg.injEq,Array.mk.injEq,List.cons.injEq,and_true,true_and] at x;obtain ⟨rfl,rfl⟩:=x;have q:o*3+j=(o+j / 3)*3∨o*3+j=(o+j / 3)*3+1∨o*3+j=(o+j / 3)*3+2:=O
  rcases q with s | s | s
  ·rw [s,c0] at c;rw [<- zJ c];rfl
  ·rw [s,c1] at c;rw [<- zJ c];rfl
  ·rw [s,c2] at c;rw [<- zJ c];rfl
 ·intro w' g cur' B C hg D;refine ⟨cur',B,hg,fun i hi=>?_⟩;obtain ⟨u,d,c0,c1,c2,c3⟩:=hc (o+i) O;have r:∀ j v,j<k*3->f[o*3+j]? = some v->cur'[j]? = some v:=by
   intro j v c E;have t:(cur'.toList.take (k*3))[j]? = ((f.toList.drop (o*3)).take (k*3))[j]?:=by rw [D]
   rw [l j c,List.getElem?_take,if_pos c,Array.getElem?_toList,E] at t;exact t
  refine ⟨u,d,r _ _ O ?_,r _ _ O ?_,r _ _ O ?_,c3.kept C⟩
  ·rw [show o*3+i*3=(o+i)*3 by omega];exact c0
  ·rw [show o*3+(i*3+1)=(o+i)*3+1 by omega];exact c1
  ·rw [show o*3+(i*3+2)=(o+i)*3+2 by omega];exact c2
theorem jT (b off n cap:Nat) (R:Nat->Rat) (L:Nat) (w:World) (xs:List Value) (B:xs.length=n*3) (z:∀ j u,xs[j]? = some u->w.cell? ⟨b,off+j,none⟩=some u) (A:∀ u∈xs,u.oneCell'=true)
  (x4:∀ (w':World) (g:Nat) (cur':Array Value) (e:TypeId),aN w w'->w'.heap[g]? = some (.cells cur' e (0,0))->cur'.toList.take (n*3)=xs->aI w' g n R L) (hn:n<=3000) (hc:n<=cap) (hm:cap<=maxLen) :
  Calls Tryz.prog 172 #[.slice (some ⟨b,off,none⟩) n cap] w
   fun e w'=>∃ v,e=.returned v/\bW w' w.heap.size v n R L/\w.grownBy w' none:=by
 obtain ⟨I,hi,q,r,s⟩:=info_parts Tryz.infoF;have C:=aa z;have D:=aa A;have E:=aa x4;have i:=hm;unfold maxLen at i;clear z A x4 hm;have J:∀ W,(binOp .eql 76 (.slice (some ⟨b,off,none⟩) n cap) (.slice none 0 0)).run Tryz.prog W=.ok (.bool false) W:=fun W=>Lib.run_eql_slice_nil W _ _ (some _) _ _ 0 0 Tryz.underlying76
 go_enter Tryz.func172,Tryz.ntmps172
 go_wp2_with (at_builtin;refine wpList_append_own _ rfl _ _ 76 rfl w.heap.size 85 I _ 3 56 Tryz.underlying76 hi q r s rfl zD _ 0 [] rfl ?c0 ⟨b,off,none⟩ n cap xs rfl ?c1 ?c2 ?c3 ?c4 ?c5 ?c6 ?_)
 case c0=>exact World.ownsRow_made w #[] 0 zL (by unfold maxLen;omega) Z
 case c1=>exact B
 case c2 =>
  intro j u G;have k:=(World.grownBy_alloc w (Obj.cells #[] 85) none).cell (C j u G) Z;rw [show (⟨b,off,none⟩:Addr).add j=⟨b,off+j,none⟩ from by simp [Addr.add]];exact k
 case c3=>exact D
 case c4=>unfold maxLen;omega
 case c5=>omega
 case c6=>simp
 intro H w1 d f p;have a:w.grownBy w1 none:=aj (r1:=none) (World.grownBy_alloc w _ none) f (fun _ _ e=>e) (fun b hb e=>by simp [Value.ownBlock] at e;omega);have F:=aa a;have l:Hid (bW w1 w.heap.size H n R L):=by
  rcases d.2 with ⟨e,K⟩ | ⟨g,h,t,e,hb,hh,M,k,N,x⟩
  ·exact ⟨none,0,by rw [e];congr 1;omega,O,by unfold maxLen;omega,fun Q=>O⟩
  ·refine ⟨_,h,by first | exact e | (rw [e,Nat.zero_add]),O,k,fun _=>⟨g,rfl,hb,E w1 g t _ (aN.of_gr a) hh ?_⟩⟩;first | exact x | (rw [Nat.zero_add] at x;exact x)
 obtain ⟨P,c,y,_⟩:=l.out;rw [y];rw [y] at l;clear d f a p y;go_wp2;go_ret;exact ⟨_,rfl,l,F⟩
theorem qH {P:Program} (w:World) (base:Nat) (t A e:TypeId) (i:TypeInfo) (z:Value) (h l:Nat) (F:P.underlying t=some (.slice e)) (hi:P.info? e=some i) (H:i.zero=some z)
  (hsize:i.size=h) (hby:i.bytes=l) (hzs:z.cells.size=h) (hs0:0<h) (hz1:∀ j (x:Nat),j<h->z.cells[j]!≠.int .u32 (x:Nat))
  (v:Value) (n:Nat) (xs:List Value) (hown:w.ownsRow base e h v n xs) (hnw:oL w v) (hxs:∀ u∈xs,∀ x:Nat,u≠.int .u32 (x:Nat))
  (a:Addr) (m c:Nat) (news:List Value) (hl:news.length=m*h) (hm:0<m) (hnews:∀ j u,news[j]? = some u->w.cell? (a.add j)=some u) (h1':∀ u∈news,u.oneCell'=true) (hyw:∀ u∈news,∀ x:Nat,u≠.int .u32 (x:Nat))
  (h63:n+m<=maxLen) (hbytes:(n+m)*l<=140737488355328) (hbase:base<=w.heap.size) :
  ∃ v' w',(Builtin.append_ #[t,t] A #[v,.slice (some a) m c]).run P w=.ok v' w'/\w'.ownsRow base e h v' (n+m) (xs++news)/\w.grownBy w' v.ownBlock/\oL w' v'/\aN w w':=by
 obtain ⟨v',w',s,V,M,_⟩:=run_append_own (P:=P) w base t A e i z h l F hi H hsize hby hzs hs0 v n xs hown a m c news hl hnews h1' h63 hbytes hbase;refine ⟨v',w',s,V,M,?_⟩;have G:n+m<=9223372036854775807:=by simp only [maxLen] at h63;omega
 have fresh:∀ cur:Array Value,(∀ u∈cur.toList,∀ x:Nat,u≠.int .u32 (x:Nat))->∀ c2,w'=w.drew.alloc (.cells cur e)->v'=.slice (some ⟨w.heap.size,0,none⟩) (n+m) c2->oL w' v'/\aN w w':=by
  intro cur hc c2 T U;have I:w.grownBy w' none:=by rw [T];exact ⟨rfl,rfl,rfl,Z,fun k hk _=>heap_alloc_old w.drew _ hk⟩
  refine ⟨fun k y=>?_,aN.of_gr I⟩;rw [U] at y;simp only [Value.ownBlock,zI] at y;subst y;exact AF.cells (by rw [T];exact heap_alloc_new w.drew _) hc
 have B:∀ k,∀ u∈(Builtin.zeroCells z.cells k).toList,∀ x:Nat,u≠.int .u32 (x:Nat):=by
  intro k u d x;unfold Builtin.zeroCells at d;simp only [Array.toList_map,List.mem_map] at d;obtain ⟨j,_,rfl⟩:=d;rw [hzs];exact hz1 _ x (Nat.mod_lt _ hs0)
 rcases hown.2 with ⟨rfl,rfl⟩ | ⟨g,cap,cur,rfl,W,hg,X,Y,N,Q⟩
 ·have p:=run_append_nil (P:=P) w t A e i z F hi H a m c news (by rw [hsize];exact hl) hnews hm O (by rw [hby];rw [Nat.zero_add] at hbytes;omega);rw [p] at s;injection s with e1 e2
  refine fresh _ ?_ (grownCap w m 0 e) e2.symm (by rw [Nat.zero_add];exact e1.symm);intro u d;simp only [Array.toList_append,List.mem_append] at d;rcases d with d | d
  ·exact hyw u (by simpa using d)
  ·exact B _ u d
 ·by_cases q:n+m<=cap
  ·have C:n*i.size+news.length<=cur.size:=by
    rw [hsize,N,hl,<- Nat.add_mul];exact Nat.mul_le_mul_right _ q
   have p:=run_append_room (P:=P) w t A e i F hi g n cap cur hg a m c news (by rw [hsize];exact hl) hnews h1' q C;rw [p] at s;injection s with e1 e2
   have J:=hnw g rfl;have D:=setRow_heap w g cur ((cur.toList.take (n*i.size)++news++cur.toList.drop (n*i.size+news.length)).toArray) e _ hg;refine ⟨fun k y=>?_,⟨M.size,fun S x ex=>?_⟩⟩
   ·rw [<- e1] at y;simp only [Value.ownBlock,zI] at y;subst y;rw [<- e2];refine AF.cells D ?_;intro u d x;simp only [List.mem_append] at d;rcases d with (d | d) | d
    ·exact J.all hg u (List.mem_of_mem_take d) x
    ·exact hyw u d x
    ·exact J.all hg u (List.mem_of_mem_drop d) x
   ·have K:S.block≠g:=fun E=>by
     obtain ⟨b,i,f⟩:=S;simp only at E;subst E;exact J i f x ex
    rw [World.cell?_of_block (M.block S.block (cJ ex) (fun E=>K (by simp only [Value.ownBlock,zI] at E;exact E)))];exact ex
  ·have r:∀ j u,xs[j]? = some u->w.cell? ((⟨g,0,none⟩:Addr).add j)=some u:=hown.cells (g:=g) rfl;have p:=run_append_grow (P:=P) w t A e i z F hi H ⟨g,0,none⟩ n cap xs (by rw [hsize];exact hown.1) r a m c news (by rw [hsize];exact hl) hnews O O (growslice_fits O (by rw [hby];exact hbytes));rw [p] at s;injection s with e1 e2
   refine fresh _ ?_ _ e2.symm e1.symm;intro u d;simp only [Array.toList_append,List.mem_append] at d;rcases d with (d | d) | d
   ·exact hxs u (by simpa using d)
   ·exact hyw u (by simpa using d)
   ·exact B _ u d
def fK (w:World) (xs:List Value) (n:Nat) (R:Nat->Rat) (L:Nat):Prop :=
 xs.length=n*3/\∀ i,i<n->∃ uo ul uc do_ dl dc,xs[i*3]? = some (.bool (rB (R i)))/\xs[i*3+1]? = some (.slice uo ul uc)/\xs[i*3+2]? = some (.slice do_ dl dc)/\FQ w (.agg #[.bool (rB (R i)),.slice uo ul uc,.slice do_ dl dc]) (R i) L
theorem fK.kept (h:fK w xs n R L) (k:aN w w'):fK w' xs n R L:=by
 refine ⟨h.1,fun i hi=>?_⟩;obtain ⟨b,c,d,a,e,f,c0,c1,c2,c3⟩:=h.2 i hi;exact ⟨b,c,d,a,e,f,c0,c1,c2,c3.kept k⟩
theorem fK.mem (h:fK w xs n R L):∀ u∈xs,u.oneCell'=true/\∀ x:Nat,u≠.int .u32 (x:Nat):=by
 intro u d;obtain ⟨j,b⟩:=List.mem_iff_getElem?.1 d;have c:j<n*3:=by have:=(zY b).1;rw [h.1] at this;exact this
 obtain ⟨g,i,k,f,l,p,c0,c1,c2,c3⟩:=h.2 (j / 3) O;have a:j=j / 3*3∨j=j / 3*3+1∨j=j / 3*3+2:=O
 rcases a with e | e | e
 ·rw [e,c0] at b;rw [<- zJ b];exact ⟨rfl,fun x e=>by cases e⟩
 ·rw [e,c1] at b;rw [<- zJ b];exact ⟨rfl,fun x e=>by cases e⟩
 ·rw [e,c2] at b;rw [<- zJ b];exact ⟨rfl,fun x e=>by cases e⟩
theorem fK.append {ys:List Value} {S:Nat->Rat} (h:fK w xs n R L) (k:fK w ys m S L):fK w (xs++ys) (n+m) (fun i=>if i<n then R i else S (i-n)) L:=by
 refine ⟨by rw [List.length_append,h.1,k.1,Nat.add_mul],fun i hi=>?_⟩;by_cases hn:i<n
 ·simp only [if_pos hn];obtain ⟨b,c,d,a,e,f,c0,c1,c2,c3⟩:=h.2 i hn;have:=h.1;exact ⟨b,c,d,a,e,f,by rw [List.getElem?_append_left O];exact c0,by rw [List.getElem?_append_left O];exact c1,by rw [List.getElem?_append_left O];exact c2,c3⟩
 ·simp only [if_neg hn];obtain ⟨b,c,d,a,e,f,c0,c1,c2,c3⟩:=k.2 (i-n) O;have:=h.1;exact ⟨b,c,d,a,e,f,by rw [List.getElem?_append_right O,show i*3-xs.length=(i-n)*3 by omega];exact c0,by rw [List.getElem?_append_right O,show i*3+1-xs.length=(i-n)*3+1 by omega];exact c1,by rw [List.getElem?_append_right O,show i*3+2-xs.length=(i-n)*3+2 by omega];exact c2,c3⟩
def LwAt (w:World) (v:Value) (k:Nat) (R:Nat->Rat) (L:Nat):Prop :=
 ∃ ao cap,v=.slice ao k cap/\k<=cap/\cap<=maxLen/\∀ i,i<k->∃ g,ao=some ⟨g,0,none⟩/\g<w.heap.size/\∃ o0 l0 c0 o1 l1 c1 o2 l2 c2 o3 l3 c3 o4 l4 c4 o5 l5 c5 o6 l6 c6 o7 l7 c7,(w.cell? ⟨g,i*12,none⟩=some (.bool (rB (R (i*4))))/\w.cell? ⟨g,i*12+1,none⟩=some (.slice o0 l0 c0)/\w.cell? ⟨g,i*12+2,none⟩=some (.slice o1 l1 c1)/\w.cell? ⟨g,i*12+3,none⟩=some (.bool (rB (R (i*4+1))))/\w.cell? ⟨g,i*12+4,none⟩=some (.slice o2 l2 c2)/\w.cell? ⟨g,i*12+5,none⟩=some (.slice o3 l3 c3)/\w.cell? ⟨g,i*12+6,none⟩=some (.bool (rB (R (i*4+2))))/\w.cell? ⟨g,i*12+7,none⟩=some (.slice o4 l4 c4)/\w.cell? ⟨g,i*12+8,none⟩=some (.slice o5 l5 c5)/\w.cell? ⟨g,i*12+9,none⟩=some (.bool (rB (R (i*4+3))))/\w.cell? ⟨g,i*12+10,none⟩=some (.slice o6 l6 c6)/\w.cell? ⟨g,i*12+11,none⟩=some (.slice o7 l7 c7))/\FQ w (.agg #[.bool (rB (R (i*4))),.slice o0 l0 c0,.slice o1 l1 c1]) (R (i*4)) L/\FQ w (.agg #[.bool (rB (R (i*4+1))),.slice o2 l2 c2,.slice o3 l3 c3]) (R (i*4+1)) L/\FQ w (.agg #[.bool (rB (R (i*4+2))),.slice o4 l4 c4,.slice o5 l5 c5]) (R (i*4+2)) L/\FQ w (.agg #[.bool (rB (R (i*4+3))),.slice o6 l6 c6,.slice o7 l7 c7]) (R (i*4+3)) L
def fH (w:World) (base:Nat) (v:Value) (k:Nat) (R:Nat->Rat) (L:Nat):Prop :=
 ∃ xs,w.ownsRow base 182 12 v k xs/\oL w v/\fK w xs (k*4) R L
theorem BD : fH w base (.slice none 0 0) 0 R L:=⟨[],⟨rfl,.inl ⟨rfl,rfl⟩⟩,oL.nil _,rfl,fun i h=>O⟩
theorem fH.shape {k:Nat} (h:fH w base v k R L):∃ ao c,v=.slice ao k c:=by
 obtain ⟨xs,a,d,e⟩:=h;rcases a.2 with ⟨rfl,rfl⟩ | ⟨g,cap,b,rfl,_⟩
 ·exact ⟨_,_,rfl⟩
 ·exact ⟨_,_,rfl⟩
theorem fH.fresh {k:Nat} (h:fH w base v k R L) (b:Nat) (hb:v.ownBlock=some b):base<=b/\b<w.heap.size:=by
 obtain ⟨xs,d,l,p⟩:=h;rcases d.2 with ⟨rfl,rfl⟩ | ⟨g,cap,e,rfl,a,hg,f,i,j,c⟩
 ·simp [Value.ownBlock] at hb
 ·simp only [Value.ownBlock,zI] at hb;subst hb;exact ⟨a,(zZ hg).1⟩
theorem fH.keep0 {k:Nat} (h:fH w base v k R L) (hg:w.grownBy w' none):fH w' base v k R L:=by
 have d:=h.fresh;obtain ⟨xs,e,i,j⟩:=h;refine ⟨xs,⟨e.1,?_⟩,fun k f=>(i k f).keep (d k f).2 hg Z,j.kept (aN.of_gr hg)⟩;rcases e.2 with h | ⟨g,cap,a,rfl,b,c,rest⟩
 ·exact .inl h
 ·exact .inr ⟨g,cap,a,rfl,b,by rw [hg.block g (d g rfl).2 Z];exact c,rest⟩
theorem fH.congr {k:Nat} {R':Nat->Rat} (h:fH w base v k R L) (e:∀ i,i<k*4->R i=R' i):fH w base v k R' L:=by
 obtain ⟨xs,b,c,a⟩:=h;refine ⟨xs,b,c,a.1,fun i hi=>?_⟩;rw [<- e i hi];exact a.2 i hi
theorem fH.lw {k:Nat} (h:fH w base v k R L):LwAt w v k R L:=by
 obtain ⟨xs,G,h2,c⟩:=h;rcases G.2 with ⟨rfl,rfl⟩ | ⟨g,cap,H,rfl,I,hg,d,e,J,b⟩
 ·exact ⟨none,0,rfl,zL,by unfold maxLen;omega,fun i h=>O⟩
 ·refine ⟨_,cap,rfl,d,e,fun i hi=>⟨g,rfl,(zZ hg).1,?_⟩⟩;have a:∀ j v,j<k*12->xs[j]? = some v->w.cell? ⟨g,j,none⟩=some v:=by
   intro j v F f;rw [<- b,List.getElem?_take,if_pos F,Array.getElem?_toList] at f;simp only [World.cell?,hg];exact f
  obtain ⟨K,M,c0,N,P,c1,l,p,q,Q⟩:=c.2 (i*4) O;obtain ⟨S,T,c2,U,V,c3,r,s,t,W⟩:=c.2 (i*4+1) O;obtain ⟨X,Y,c4,o5,l5,c5,u,x,y,d3⟩:=c.2 (i*4+2) O;obtain ⟨o6,l6,c6,o7,l7,c7,z,A,B,e3⟩:=c.2 (i*4+3) O;have C:i*4*3=i*12:=O
  have D:(i*4+1)*3=i*12+3:=O
  have E:(i*4+2)*3=i*12+6:=O
  have m3:(i*4+3)*3=i*12+9:=O
  rw [C] at l p q;rw [D] at r s t;rw [E] at u x y;rw [m3] at z A B;exact ⟨K,M,c0,N,P,c1,S,T,c2,U,V,c3,X,Y,c4,o5,l5,c5,o6,l6,c6,o7,l7,c7,⟨a _ _ O l,a _ _ O p,a _ _ O q,a _ _ O r,a _ _ O s,a _ _ O t,a _ _ O u,a _ _ O x,a _ _ O y,a _ _ O z,a _ _ O A,a _ _ O B⟩,Q,W,d3,e3⟩
def ym (R:Nat->Rat) (k:Nat) (a f l s:Rat):Nat->Rat:=fun i=>if i<k*4 then R i else if i=k*4 then a else if i=k*4+1 then f else if i=k*4+2 then l else s
theorem nV {P:Program} (W:World) {d:Array Oper} {rest:List Oper} {o:Oper} {a:Act} {Q:Exit->Act->World->Prop}
  (hg:o.guard=none) (s x:Operand) (t:TypeId) (ho:o.op=.call { callee:=.builtin .append,args:=#[s,x],argTypes:=#[t,t] }) (base:Nat)
  (h1:P.underlying t=some (.slice 182)) (hinfo:(P.info? 182).map (fun i=>(i.zero,i.size,i.bytes))=some (some (.agg #[.bool false,.slice none 0 0,.slice none 0 0,.bool false,.slice none 0 0,.slice none 0 0,.bool false,.slice none 0 0,.slice none 0 0,.bool false,.slice none 0 0,.slice none 0 0]),12,224))
  (v:Value) (k:Nat) (R:Nat->Rat) (L:Nat) (hs:a.eval s=v) (hown:fH W base v k R L) (b c:Nat) (hx:a.eval x=.slice (some ⟨b,0,none⟩) 1 c) (qa qf ql qs:Rat) (ys:List Value)
  (hy:∀ j u,ys[j]? = some u->W.cell? ⟨b,j,none⟩=some u) (hc:fK W ys 4 (fun i=>if i=0 then qa else if i=1 then qf else if i=2 then ql else qs) L)
  (hlen:k+1<=1000000) (hbase:base<=W.heap.size)
  (hK:∀ ao cap w',fH w' base (.slice ao (k+1) cap) (k+1) (ym R k qa qf ql qs) L->W.grownBy w' v.ownBlock->aN W w'->wpList P d Q rest (a.put o.dst (.slice ao (k+1) cap)) w'):wpList P d Q (o :: rest) a W:=by
 obtain ⟨i,hi,l,p,q⟩:=info_parts hinfo;obtain ⟨xs,E,F,z⟩:=hown;obtain ⟨G,w',H,h2,I,J,r⟩:=qH (P:=P) W base t o.type 182 i _ 12 224 h1 hi l p q rfl zD
  (fun j x A=>by
   have hc:j=0∨j=1∨j=2∨j=3∨j=4∨j=5∨j=6∨j=7∨j=8∨j=9∨j=10∨j=11:=O
   rcases hc with rfl | rfl | rfl | rfl | rfl | rfl | rfl | rfl | rfl | rfl | rfl | rfl<;>(intro e;cases e))
  v k xs E F (fun u f=>(z.mem u f).2) ⟨b,0,none⟩ 1 c ys hc.1 zD (fun j u A=>by rw [show (⟨b,0,none⟩:Addr).add j=⟨b,j,none⟩ from by unfold Addr.add;by_cases h:j=0<;>simp [h]];exact hy j u A) (fun u f=>(hc.mem u f).1) (fun u f=>(hc.mem u f).2) (by unfold maxLen;omega) O hbase
 have B:=(z.kept r).append (hc.kept r);have e:(fun i=>if i<k*4 then R i else (fun i=>if i=0 then qa else if i=1 then qf else if i=2 then ql else qs) (i-k*4))=ym R k qa qf ql qs:=by
  funext i
  unfold ym;by_cases h:i<k*4
  ·rw [if_pos h,if_pos h]
  ·rw [if_neg h,if_neg h];have C:i-k*4=0↔i=k*4:=O
   have h1:i-k*4=1↔i=k*4+1:=O
   have h2:i-k*4=2↔i=k*4+2:=O
   simp only [C,h1,h2]
 have D:fK w' (xs++ys) (k*4+4) (ym R k qa qf ql qs) L:=e▸B;have g:fH w' base G (k+1) (ym R k qa qf ql qs) L:=⟨_,h2,J,by rw [show (k+1)*4=k*4+4 by omega];exact D⟩;obtain ⟨ao,cap,K⟩:=g.shape;refine wpList_plain hg fun _ y=>?_
 unfold Oper.wp execOp;simp only [ho,resolve,invoke,builtin,Sem.run_bind,Sem.run_pure,Result.andThen_ok,List.map_toArray,List.map_cons,List.map_nil,hs,hx,H];rw [K] at g ⊢;exact y _ _ (hK ao cap w' g I r)
attribute [local simp] gY cM fT lu
def kR (n:Nat) (ps:List aD) (R:Nat->Rat):Nat->Nat->Rat:=fun r =>
 if r=0 then aQ (fun _=>0) 0 1 else if r<n then eJ n ps r else match ps[r-n]? with
  | some p=>lU n (r-n) (n+ps.length+1) p.a.toNat p.b.toNat p.c.toNat p.d.toNat (R ((r-n)*4)) (R ((r-n)*4+1)) (R ((r-n)*4+2)) (R ((r-n)*4+3))
  | none=>fun _=>0
theorem yM {e:List aD} (R:Nat->Rat) {i f g h j:Nat} (hn:1<=n) (hi:i<e.length) (k:e[i].a=(f:Int)) (l:e[i].b=(g:Int)) (p:e[i].c=(h:Int)) (q:e[i].d=(j:Int)) :
  lU n i (n+e.length+1) f g h j (R (i*4)) (R (i*4+1)) (R (i*4+2)) (R (i*4+3))=kR n e R (n+i):=by
 unfold kR;rw [if_neg O,if_neg O,show n+i-n=i by omega,zX hi];show _=lU n i (n+e.length+1) e[i].a.toNat e[i].b.toNat e[i].c.toNat e[i].d.toNat _ _ _ _
 rw [k,l,p,q];rfl
theorem yt (f:Bool) (g a:Option Addr) (fl fc b c:Nat) (n j:Nat) (h:Option Addr) (i:Nat) (d:List aD) (Q:Nat->Rat) (L:Nat) (w:World) (l:FQ w (.agg #[.bool f,.slice g fl fc,.slice a b c]) 1 L) (p:aA w (.slice h d.length i) d)
  (hj:j<n) (hn:n<=1000) (hk:d.length<=1000) (hL1:1<=L) (hL:L<=100000000) :
  Calls Tryz.prog 169 #[(kq f (.slice g fl fc) (.slice a b c)),.agg #[.int .i64 ((n:Nat):Int),.slice h d.length i],.int .i64 ((j:Nat):Int)] w fun e w'=>pO w (n+d.length+1) (kR n d Q j) L e w':=by
 by_cases k:j=0
 ·subst k;have:=tF f g a fl fc b c n d.length h i L w l hn hk;unfold kR;rw [if_pos rfl];exact this
 ·have:=yu f g a fl fc b c n j _ d L w l p hj k hn hk hL1 hL;unfold kR;rw [if_neg k,if_pos hj];exact this
theorem bW.low {base':Nat} (h:bW w base v n R L) (hb:base'<=base):bW w base' v n R L:=by
 obtain ⟨a,c,e,d,f,g⟩:=h;refine ⟨a,c,e,d,f,fun l=>?_⟩;obtain ⟨b,i,j,k⟩:=g l;exact ⟨b,i,Nat.le_trans hb j,k⟩
theorem mK (g k n cap:Nat) (X:Nat->Rat) (L:Nat) (w:World) (h:aI w g k X L) (c:n<=k) (hn:n<=3000) (hc:n<=cap) (d:cap<=maxLen) :
  Calls Tryz.prog 172 #[.slice (some ⟨g,0,none⟩) n cap] w fun e w'=>∃ v,e=.returned v/\bW w' w.heap.size v n X L/\w.grownBy w' none:=by
 obtain ⟨xs,f,l,p,q⟩:=h.piece 0 n O;refine jT g 0 n cap X L w xs f (fun j u r=>?_) p (fun w' b a e s t x=>(q w' b a e s t x).congr (fun i _=>by rw [Nat.zero_add])) hn hc d;have:=l j u r;rw [Nat.zero_mul] at this;exact this
theorem sZ (g k n l cap:Nat) (X:Nat->Rat) (L:Nat) (w:World) (h:aI w g k X L) (a:n+l<=k) (hn:l<=3000) (hc:l<=cap) (b:cap<=maxLen) :
  Calls Tryz.prog 172 #[.slice (some ⟨g,n*3,none⟩) l cap] w fun e w'=>∃ v,e=.returned v/\bW w' w.heap.size v l (fun i=>X (n+i)) L/\w.grownBy w' none:=by
 obtain ⟨xs,c,d,f,j⟩:=h.piece n l a;exact jT g (n*3) l cap _ L w xs c d f j hn hc b
theorem sY (b off:Nat) (X:Nat->Rat) (L:Nat) (w:World) :
  Calls Tryz.prog 172 #[.slice (some ⟨b,off,none⟩) 0 0] w fun e w'=>∃ v,e=.returned v/\bW w' w.heap.size v 0 X L/\w.grownBy w' none :=
 jT b off 0 0 X L w [] rfl (fun j u h=>by simp at h) (fun u h=>by simp at h) (fun w' g a e d c f=>⟨a,e,c,fun i hi=>O⟩) O O (by unfold maxLen;omega)
def RulE (w:World) (n k:Nat) (M:Nat->Nat->Rat) (L:Nat) (e:Ending) (w':World):Prop :=
 (∃ v1 v2 X,e=.returned (.tuple #[v1,v2,.int .i64 0])/\bW w' w.heap.size v1 n X L/\bW w' w.heap.size v2 k (fun i=>X (n+i)) L/\mF M (n+k) X/\(∀ z,mF M (n+k) z->∀ j,j<n+k->z j=X j)/\w.grownBy w' none)
 ∨ (e=.returned (.tuple #[.slice none 0 0,.slice none 0 0,.int .i64 7])/\(¬ ∃ x,mF M (n+k) x)/\w.grownBy w' none)
 ∨ (e=.returned (.tuple #[.slice none 0 0,.slice none 0 0,.int .i64 8])/\(∃ x y:Nat->Rat,mF M (n+k) x/\mF M (n+k) y/\∃ j,j<n+k/\x j≠y j)/\w.grownBy w' none)
def RulR (W:World) (base k lo m:Nat) (M:Nat->Nat->Rat) (L:Nat) (v9 v:Value) (wr:World):Prop :=
 ∃ (i:Nat) (bs cs:Nat->Nat),i<=k/\v=.int .i64 i/\da (eM (m+1)) 76 wr base v9 (cd bs cs (lo+i))/\sT wr base (m+1) (lo+i) bs cs M L/\W.grownBy wr none
theorem Eo (U:Bool) (V l:Option Addr) (fl fc p q:Nat) (n:Nat) (po:Option Addr) (pc:Nat) (a:List aD) (lv:Value) (R:Nat->Rat) (E:Nat->Nat) (L:Nat) (w:World)
  (h1:FQ w (.agg #[.bool U,.slice V fl fc,.slice l p q]) 1 L) (hp:aA w (.slice po a.length pc) a) (hR:bS n a) (hl:LwAt w lv a.length R L)
  (hP:∀ i,i<a.length->∀ xa xb xc xd,bh L (0+R (i*4))/\bh L (aQ (fun _=>0) xa (0+R (i*4)) xb-R (i*4))/\bh L (aQ (aQ (fun _=>0) xa (0+R (i*4))) xb (aQ (fun _=>0) xa (0+R (i*4)) xb-R (i*4)) xc+R (i*4+2))
   /\ bh L (aQ (aQ (aQ (fun _=>0) xa (0+R (i*4))) xb (aQ (fun _=>0) xa (0+R (i*4)) xb-R (i*4))) xc (aQ (aQ (fun _=>0) xa (0+R (i*4))) xb (aQ (fun _=>0) xa (0+R (i*4)) xb-R (i*4)) xc+R (i*4+2)) xd-R (i*4+2)))
  (hfit:∀ r,r<n+a.length->∀ k j,bh L (cA (kR n a R r) k j)) (hwh:∀ k r j,gP (4294967296^E r) (nq (kR n a R) k r j)) (hLs:fD E (n+a.length)<L) (hL:L<=49000000) :
  Calls Tryz.prog 136 #[(kq U (.slice V fl fc) (.slice l p q)),.agg #[.int .i64 ((n:Nat):Int),.slice po a.length pc],lv] w fun e w'=>RulE w n a.length (kR n a R) L e w':=by
 have H1:=aa h1;have HP:=aa hp;have HR:=aa hR;have K:=aa hP;have hA:=aa hfit;have hB:=aa hwh;have hC:=aa hLs;have hD:=hR.lo;have kg:=hR.hi;have kk:=hR.len;have hr:1<=L:=O
 obtain ⟨kz,ke,rfl,kF,hT,hw⟩:=hl;have hE:=aa hw;obtain ⟨M,hM⟩:=eX (kR n a R);have HM:=aa hM;obtain ⟨m,hm⟩:=eX (n+a.length);have N:=aa hm;have kc:m<=28:=O
 have kl:n<=m:=O
 rw [<- hM];unfold maxLen at hT;clear h1 hp hR hP hfit hwh hLs hw hm hM;obtain ⟨W,hW⟩:=eX ((w.alloc (Obj.cells #[.bool U,.slice V fl fc,.slice l p q,.func (.func 129) #[] #[],.func (.func 107) #[] #[],.func (.func 67) #[] #[],.func (.func 38) #[] #[],.func (.func 130) #[] #[],.func (.func 131) #[] #[],.func (.func 132) #[] #[],.func (.func 133) #[] #[]] 128)).alloc (Obj.cells #[.int .i64 ((n:Nat):Int),.slice po a.length pc] 24));have I:Hid (w.grownBy W none):=by rw [hW];exact ae (ae (ag _ _) _) _
 have kn:Hid (W.heap.size=w.heap.size+2):=by show _=_;rw [hW];simp
 have d:Hid (∀ wx,W.grownBy wx none->gY wx (w.heap.size)/\cM wx (w.heap.size) (.bool U) (.slice V fl fc) (.slice l p q)/\lu wx (w.heap.size+1) (.int .i64 ((n:Nat):Int)) (.slice po a.length pc)):=by
  intro wx hg;obtain ⟨f1,f2⟩:=mg U V l fl fc p q (w:=W) (by rw [hW];exact ae (ag _ _) _);exact ⟨f1.k0 hg,f2.k0 hg,lu.k0 (w:=W) (by rw [hW];exact ⟨zG,zG⟩) hg⟩
 have s0:=d.out W (ag _ _);go_enter Tryz.func136,Tryz.ntmps136
 go_upto_region 2 with fail;rw [<- hW];clear hW;go_wp2;go_loopw [9,16] (fun v9 v wr=>Hid (RulR W W.heap.size n 0 m M L v9 v wr)) (fun _ v _=>n-(intOf v).toNat)
 case atStart=>exact ⟨0,fun _=>0,fun _=>0,O,rfl,mW,sT.nil ..,ag _ _⟩
 case round =>
  obtain ⟨i,Q,ct,hi,rfl,A,J,S⟩:=hrel.out;rw [Nat.zero_add] at A J;obtain ⟨oa,oc,rfl⟩:=A.1.shape;rw [bA] at A ⊢;have D:=aa A;have F:=aa J;have h:=aa S;clear A J S hrel s0;by_cases hlt:i<n
  ·have s0:=d.out wr h;go_wp2_with fail;refine (yt U V l fl fc p q n i po pc a R L _ (H1.keep0 (ab I h)) (HP.keep (ab I h)) hlt O O hr O).mono ?_;rintro e w1 ⟨g,rfl,T,f1,g1⟩;rw [<- N] at f1 ⊢;rw [<- HM] at f1;have F1:=aa f1;have G1:=aa (ab h g1);have O1:=aa (D.keep0 g1);have O2:=aa (F.keep0 g1);have hf:Hid ((Value.slice oa i oc).ownBlock≠some g):=fun e=>by have:=(D.1.fresh g e).2;omega
   have hk:Hid (∀ j,j<i->Q j≠g):=fun j hj e=>by have:=(F.row j hj).lt;omega
   have ho:Hid (W.heap.size<=g):=by show _<=_;have:=h.out.size;omega
   have hq:Hid (W.heap.size<=w1.heap.size):=G1.out.size;clear f1 g1 s0 D F;go_wp2_with (at_builtin;refine dC (eM (m+1)) 76 (.slice none 0 0) 24 _ rfl _ _ 213 rfl W.heap.size Tryz.underlying213 Tryz.infoRow rfl (fun x=>by simp [Value.cells]) (fun u x=>by simp [eM]) (.slice oa (i) oc) (cd Q ct (i)) rfl (O1.keep0 (ae (ag _ _) _)) w1.heap.size (g,m+1) rfl (by go_simp;rfl) rfl (by rw [bA];omega) O (by simp;have:=hq.out;omega) ?_)
   intro ao hv P f t H;rw [bA] at f ⊢;have RA:=aa (iW (O1.keep0 (ae (ag w1 none) _)) O (O2.keep0 (ae (ag w1 none) _)) zL (by unfold maxLen;omega) (F1.keep0 (ae (ag w1 none) _)) ho hk hf t H f);have HG:Hid (W.grownBy P none):=by
    refine aj (r:=none) (ab G1 (ae (ag w1 none) _)) t (fun _ _ e=>e) (fun b hb e=>?_);have:=(O1.1.fresh b e.symm).1;omega
   clear f t H;go_wp2;go_roundw
   case rel=>exact ⟨i+1,cZ Q i g,cZ ct i (m+1),O,zN,by rw [Nat.zero_add];exact RA.1,by rw [Nat.zero_add];exact RA.2,HG⟩
   case measure=>exact bO
  ·obtain rfl:n=i:=O
   have s0:=d.out wr h;go_wp2;go_loopw [9,29] (fun v9 v wr=>Hid (RulR W W.heap.size a.length n m M L v9 v wr)) (fun _ v _=>a.length-(intOf v).toNat)
   case atStart=>exact ⟨0,Q,ct,O,rfl,D,F,h⟩
   case round =>
    clear D F h s0;obtain ⟨i,Q,ct,hi,rfl,A,J,S⟩:=hrel.out;obtain ⟨oa,oc,rfl⟩:=A.1.shape;rw [bA] at A ⊢;have D:=aa A;have F:=aa J;have h:=aa S;clear A J S hrel;by_cases hlt:i<a.length
    ·obtain ⟨gl,rfl,kH,o0,l0,c0,o1,A,c1,o2,J,c2,o3,S,c3,o4,l4,c4,o5,l5,c5,o6,l6,c6,o7,l7,c7,cc,f0,f1,f2,f3⟩:=hE.out i hlt;obtain ⟨x0,x1,x2,x3,x4,x5,x6,x7,x8,x9,hx,hy⟩:=cc;have B:=ab I h;have y0:=B.cell x0 Z;have y1:=B.cell x1 Z;have y2:=B.cell x2 Z;have y3:=B.cell x3 Z;have y4:=B.cell x4 Z;have y5:=B.cell x5 Z;have y6:=B.cell x6 Z;have y7:=B.cell x7 Z;have y8:=B.cell x8 Z;have y9:=B.cell x9 Z;have hF:=B.cell hx Z;have hG:=B.cell hy Z;have K0:=aa f0;have K1:=aa f1;have K2:=aa f2;have K3:=aa f3;clear x0 x1 x2 x3 x4 x5 x6 x7 x8 x9 hx hy f0 f1 f2 f3 B;obtain ⟨xa,xb,xc,xd,ea,eb,ec,ed,ha,hb,hc,hd⟩:=HR.out.ends a[i] (List.getElem_mem hlt);have Y:=aa (And.intro ea (And.intro eb (And.intro ec ed)));clear ea eb ec ed;have s0:=d.out wr h;go_upto_region 10 with fail;obtain ⟨y,c⟩:=eX (wr.alloc (Obj.cells #[.bool (rB (R (i*4))),.slice o0 l0 c0,.slice o1 A c1,.bool (rB (R (i*4+1))),.slice o2 J c2,.slice o3 S c3,.bool (rB (R (i*4+2))),.slice o4 l4 c4,.slice o5 l5 c5,.bool (rB (R (i*4+3))),.slice o6 l6 c6,.slice o7 l7 c7] 182));have G2:Hid (wr.grownBy y none):=by rw [c];exact ae (ag _ _) _
     have z0:y.cell? ⟨wr.heap.size,0,none⟩=some (.bool (rB (R (i*4)))):=by rw [c];go_simp
     have z1:y.cell? ⟨wr.heap.size,1,none⟩=some (.slice o0 l0 c0):=by rw [c];go_simp
     have z2:y.cell? ⟨wr.heap.size,2,none⟩=some (.slice o1 A c1):=by rw [c];go_simp
     have z3:y.cell? ⟨wr.heap.size,3,none⟩=some (.bool (rB (R (i*4+1)))):=by rw [c];go_simp
     have z4:y.cell? ⟨wr.heap.size,4,none⟩=some (.slice o2 J c2):=by rw [c];go_simp
     have z5:y.cell? ⟨wr.heap.size,5,none⟩=some (.slice o3 S c3):=by rw [c];go_simp
     have z6:y.cell? ⟨wr.heap.size,6,none⟩=some (.bool (rB (R (i*4+2)))):=by rw [c];go_simp
     have z7:y.cell? ⟨wr.heap.size,7,none⟩=some (.slice o4 l4 c4):=by rw [c];go_simp
     have z8:y.cell? ⟨wr.heap.size,8,none⟩=some (.slice o5 l5 c5):=by rw [c];go_simp
     have z9:y.cell? ⟨wr.heap.size,9,none⟩=some (.bool (rB (R (i*4+3)))):=by rw [c];go_simp
     have hH:y.cell? ⟨wr.heap.size,10,none⟩=some (.slice o6 l6 c6):=by rw [c];go_simp
     have hI:y.cell? ⟨wr.heap.size,11,none⟩=some (.slice o7 l7 c7):=by rw [c];go_simp
     rw [<- c];clear c s0 y0 y1 y2 y3 y4 y5 y6 y7 y8 y9 hF hG;have G3:=aa (ab h G2);have GA:=aa (ab I G3);have s0:=d.out y G3;go_wp2_with fail;refine (yz U V l fl fc p q n i xa xb xc xd (.slice po a.length pc) a (R (i*4)) (R (i*4+1)) (R (i*4+2)) (R (i*4+3)) o0 o4 o6 o2 o1 o5 o7 o3 l0 c0 A c1 l4 c4 l5 c5 l6 c6 l7 c7 J c2 S c3 L y (HP.keep GA) hlt Y.1 Y.2.1 Y.2.2.1 Y.2.2.2 ha hb hc hd (K0.keep0 GA) (K1.keep0 GA) (K2.keep0 GA) (K3.keep0 GA) O O O (K i hlt xa xb xc xd).1 (K i hlt xa xb xc xd).2.1 (K i hlt xa xb xc xd).2.2.1 (K i hlt xa xb xc xd).2.2.2).mono ?_;rintro e w3 ⟨g,rfl,T,f1,g1⟩;rw [yM R hD hlt Y.1 Y.2.1 Y.2.2.1 Y.2.2.2,<- HM,<- N] at f1;rw [<- N];have F1:=aa f1;have G1:=aa (ab G3 g1);have GR:=ab G2 g1;have O1:=aa (D.keep0 GR);have O2:=aa (F.keep0 GR);have ko:wr.heap.size<=g:=Nat.le_trans G2.size T;have hf:Hid ((Value.slice oa (n+i) oc).ownBlock≠some g):=fun e=>by have:=(D.1.fresh g e).2;omega
     have hk:Hid (∀ j,j<n+i->Q j≠g):=fun j hj e=>by have:=(F.row j hj).lt;omega
     have ho:Hid (W.heap.size<=g):=by show _<=_;have:=h.out.size;omega
     have hq:Hid (W.heap.size<=w3.heap.size):=G1.out.size;clear f1 g1 GR s0 D F z0 z1 z2 z3 z4 z5 z6 z7 z8 z9 hH hI;go_wp2_with (at_builtin;refine dC (eM (m+1)) 76 (.slice none 0 0) 24 _ rfl _ _ 213 rfl W.heap.size Tryz.underlying213 Tryz.infoRow rfl (fun x=>by simp [Value.cells]) (fun u x=>by simp [eM]) (.slice oa (n+i) oc) (cd Q ct (n+i)) rfl (O1.keep0 (ae (ag _ _) _)) w3.heap.size (g,m+1) rfl (by go_simp;rfl) rfl (by rw [bA];omega) O (by simp;have:=hq.out;omega) ?_)
     intro ao hv P f t H;rw [bA] at f ⊢;have RA:=aa (iW (O1.keep0 (ae (ag w3 none) _)) O (O2.keep0 (ae (ag w3 none) _)) zL (by unfold maxLen;omega) (F1.keep0 (ae (ag w3 none) _)) ho hk hf t H f);have HG:Hid (W.grownBy P none):=by
      refine aj (r:=none) (ab G1 (ae (ag w3 none) _)) t (fun _ _ e=>e) (fun b hb e=>?_);have:=(O1.1.fresh b e.symm).1;omega
     clear f t H;go_wp2;go_roundw
     case rel=>exact ⟨i+1,cZ Q (n+i) g,cZ ct (n+i) (m+1),O,zN,RA.1,RA.2,HG⟩
     case measure=>exact bO
    ·obtain rfl:a.length=i:=O
     obtain ⟨br,kf,e2,q1,q2,q3,q4⟩:=D.out.mat O O F;rw [N] at q4;simp only [Value.slice.injEq,true_and] at e2;obtain ⟨rfl,rfl⟩:=e2;have Q3:=aa q3;have Q4:=aa q4;have hs:=tE (n+a.length) L O E hC;have he:=aa hs;clear q3 q4 hs D F;have s0:=d.out wr h;go_wp2_with fail;refine (rows_at U V l fl fc p q br (n+a.length) oc Q ct M L (2*L+1) (fun r=>4294967296^E r) wr Q4 (H1.keep0 (ab I h)) O O q2 Q3 hr O (fun i hi k _ j _=>by rw [HM];exact hA i hi k j) (fun r=>Nat.one_le_pow _ _ zD) (fun r j=>by rw [HM];exact hB _ r j) he (most_sq _ L _ O he) O O).mono ?_;rintro e P (⟨g,X,rfl,T,fX,gX,s,hz⟩ | ⟨rfl,gX,s⟩ | ⟨rfl,gX,s⟩)
     ·have FX:=aa fX;have G5:=aa (ab h gX);have C:=aa s;have hu:=aa hz;clear fX gX s hz s0 T;have s11:=(d P G5).2.2.1;have CN:Hid (∀ wx,P.grownBy wx none->wx.cell? ⟨w.heap.size+1,0,none⟩=some (.int .i64 ((n:Nat):Int))):=fun wx hg=>hg.cell s11 Z
      have GG:P.grownBy P none:=ag _ _;have ks:(0:Int)<=(n:Int):=O
      have ku:(n:Int)<=((n:Int)+(a.length:Int)):=O
      have z:Hid (w.heap.size<=P.heap.size):=(ab I G5).size;by_cases hK:a.length=0
      ·have hN:=aa hK;have kw:(n+a.length=n)=True:=eq_true O;go_wp2_with fail;go_region_held3 (fun w'=>w'.cell? ⟨w.heap.size+1,0,none⟩=some (.int .i64 ((n:Nat):Int))) (go_keep)
        (first | (go_at_call_of 172 (Value.slice (some ⟨g,0,none⟩) n n);refine (mK g (n+a.length) n _ X L _ (FX.keep0 (gx GG)) O O O (by unfold maxLen;omega)).mono ?_;rintro e wa ⟨va,rfl,pa,ga⟩;have pa:=pa.low (Nat.le_trans z GG.size);obtain ⟨hX,hY,rfl,_⟩:=id pa;have G:=ab zQ ga;(try have pb:=pb.keep0 G);clear G;have GG:=ab (gx GG) ga;have hQ:=CN.out wa GG) | (go_at_call 172;refine (sY g _ (fun i=>X (n+i)) L _).mono ?_;rintro e wb ⟨vb,rfl,pb,gb⟩;have pb:=pb.low (Nat.le_trans z GG.size);obtain ⟨ka,kb,rfl,_⟩:=id pb;have G:=ab zQ gb;(try have pa:=pa.keep0 G);clear G;have GG:=ab (gx GG) gb;have hS:=CN.out wb GG))
       all_goals
        have PA:=aa pa;have PB:=aa pb;have GF:=aa GG;clear pa pb GG;go_wp2;go_ret3
        exact .inl ⟨_,_,X,rfl,PA.keep0 zE,(by rw [hN];exact PB.keep0 zE),C,hu,ab (ab I G5) (by first | exact GF | exact ab GF aX)⟩
      ·have ky:(n+a.length=n)=False:=eq_false O;go_wp2_with fail;go_region_held3 (fun w'=>w'.cell? ⟨w.heap.size+1,0,none⟩=some (.int .i64 ((n:Nat):Int))) (go_keep)
        (first | (go_at_call_of 172 (Value.slice (some ⟨g,0,none⟩) n (n+a.length));refine (mK g (n+a.length) n _ X L _ (FX.keep0 (gx GG)) O O O (by unfold maxLen;omega)).mono ?_;rintro e wa ⟨va,rfl,pa,ga⟩;have pa:=pa.low (Nat.le_trans z GG.size);obtain ⟨hX,hY,rfl,_⟩:=id pa;have G:=ab zQ ga;(try have pb:=pb.keep0 G);clear G;have GG:=ab (gx GG) ga;have hQ:=CN.out wa GG) | (go_at_call 172;refine (sZ g (n+a.length) n a.length _ X L _ (FX.keep0 (gx GG)) O O O (by unfold maxLen;omega)).mono ?_;rintro e wb ⟨vb,rfl,pb,gb⟩;have pb:=pb.low (Nat.le_trans z GG.size);obtain ⟨ka,kb,rfl,_⟩:=id pb;have G:=ab zQ gb;(try have pa:=pa.keep0 G);clear G;have GG:=ab (gx GG) gb;have hS:=CN.out wb GG))
       all_goals
        have PA:=aa pa;have PB:=aa pb;have GF:=aa GG;clear pa pb GG;go_wp2;go_ret3
        exact .inl ⟨_,_,X,rfl,PA.keep0 zE,PB.keep0 zE,C,hu,ab (ab I G5) (by first | exact GF | exact ab GF aX)⟩
     ·have G5:=aa (ab h gX);have C:=aa s;clear gX s s0;go_wp2;go_ret3
      exact .inr (.inl ⟨rfl,C,ab I G5⟩)
     ·have G5:=aa (ab h gX);have C:=aa s;clear gX s s0;go_wp2;go_ret3
      exact .inr (.inr ⟨rfl,C,ab I G5⟩)
end Go.Proofs.YtbfohfjobncehaaGreatDoor
