/- Contracts. -/
import Derived.Test.YtbomdfhdocaagaaGreatDoorXPj
namespace Go.Proofs.YtbomdfhdocaagaaGreatDoor
open Go.RowKit
set_option linter.all false
set_option maxHeartbeats 8000000
set_option maxRecDepth 10000
variable {w w':World} {L n base i m:Nat} {R:Nat->Rat} {v:Value} {ps:List aA} {o:Nat->Nat} {xs:List Value}
def cJ.keep0 {bo:Nat} (h:cJ w bo m o) (g:w.grownBy w' none):cJ w' bo m o:=h.keep g Z
def CouR (W:World) (m done g1 g2:Nat) (v:Value) (wr:World):Prop :=
 ∃ (i:Nat) (xs ys:List Int),done<=i/\i<=m/\v=.int .i64 i/\xs.length=m/\ys.length=m/\qV wr g1 xs/\qV wr g2 ys/\W.grownBy wr none
def TwoE (w:World) (m:Nat) (e:Ending) (w':World):Prop :=
 ∃ g1 g2 xs ys,e=.returned (.tuple #[.slice (some ⟨g1,0,none⟩) m m,.slice (some ⟨g2,0,none⟩) m m])/\w.heap.size<=g1/\w.heap.size<=g2/\xs.length=m/\ys.length=m/\qV w' g1 xs/\qV w' g2 ys/\w.grownBy w' none
def pS (fb:Bool) (fo fo2:Option Addr) (fl fc fl2 fc2:Nat) (br bo m n cap co done:Nat) (bs cs:Nat->Nat) (R:Nat->Nat->Rat) (o:Nat->Nat) (L:Nat) (w:World)
  (hM:bU w br m n bs cs R L) (hO:cJ w bo m o) (ho:∀ k,k<m->o k<n) (hd:done<m) (hm:m<=1000) (hn:n<=2000) (hc:m<=cap) (hc2:cap<=maxLen) (hco:m<=co) (hco2:co<=maxLen) :
  Calls Tryz.prog 178 #[(kh fb (.slice fo fl fc) (.slice fo2 fl2 fc2)),.slice (some ⟨br,0,none⟩) m cap,.slice (some ⟨bo,0,none⟩) m co,.int .i64 ((done:Nat):Int)] w fun e w'=>TwoE w m e w':=by
 unfold maxLen at hc2 hco2;have HM:=ab hM;have HO:=ab hO;have HOO:=ab ho;clear hM hO ho;obtain ⟨W,hW⟩:=eX (w.alloc (Obj.cells #[.bool fb,.slice fo fl fc,.slice fo2 fl2 fc2,.func (.func 84) #[] #[],.func (.func 85) #[] #[],.func (.func 86) #[] #[],.func (.func 87) #[] #[],.func (.func 88) #[] #[],.func (.func 89) #[] #[],.func (.func 90) #[] #[],.func (.func 91) #[] #[]] 111));have GW:Hid (w.grownBy W none):=by rw [hW];exact ag (ae _ _) _
 have HWS:Hid (W.heap.size=w.heap.size+1):=by show _=_;rw [hW];simp
 have BASE:Hid (∀ wx,W.grownBy wx none->wx.cell? ⟨w.heap.size,8,none⟩=some (.func (.func 89) #[] #[])):=by
  intro wx hg;rw [hW] at hg;exact hg.cell zG Z
 go_enter Tryz.func178,Tryz.ntmps178
 go_upto_region 1 with fail;rw [<- hW];clear hW;go_wp2_with fail;refine (sF W.heap.size m _ zG O hm).mono ?_;rintro e w1 ⟨g1,xs1,rfl,q1,q2,q3,q4⟩;have G1:=ab (aa (ag (ae W none) _) q4);have A1:=ab q3;have HQ1:Hid (W.heap.size<g1):=by show _<_;simp at q1;omega
 clear q1 q3 q4;go_wp2_with fail;refine (sF w1.heap.size m _ zG O hm).mono ?_;rintro e w2 ⟨g2,xs2,rfl,p1,p2,p3,p4⟩;have G2:=ab (aa G1.out (aa (ag (ae w1 none) _) p4));have A1':=ab (A1.out.keep0 (aa (ag (ae w1 none) _) p4));have A2:=ab p3;have HQ2:Hid (W.heap.size<g2/\g1≠g2):=by
  show _/\_
  have h1:=A1.out.lt;have h2:=G1.out.size;have:=HQ1.out;simp at p1;exact ⟨O,O⟩
 clear p1 p3 p4 A1 G1;go_wp2;go_loopw [10] (fun v wr=>Hid (CouR W m done g1 g2 v wr)) (fun v _=>m-(intOf v).toNat)
 case atStart=>exact ⟨done,xs1,xs2,O,O,rfl,q2,p2,A1'.out,A2.out,G2.out⟩
 case round =>
  obtain ⟨i,xs,ys,hi0,hi,rfl,hx,hy,l1,l2,l3⟩:=hrel.out;have L1:=ab l1;have L2:=ab l2;have L3:=ab l3;clear l1 l2 l3 hrel A1' A2 G2;by_cases hlt:i<m
  ·go_wp2;go_loopw [11] (fun v wx=>Hid (CouR W m done g1 g2 v wx)) (fun v _=>m-(intOf v).toNat)
   case atStart=>exact ⟨done,xs,ys,O,O,rfl,hx,hy,L1.out,L2.out,L3.out⟩
   case round =>
    obtain ⟨k,zs,ts,hk0,hk,rfl,hz,ht,l1,l2,l3⟩:=hrel.out;have K1:=ab l1;have K2:=ab l2;have K3:=ab l3;clear l1 l2 l3 hrel;by_cases hkm:k<m
    ·have MM:=ab ((HM.out.keep0 GW.out).keep0 K3.out);have OO:=ab ((HO.out.keep0 GW.out).keep0 K3.out);have ci:=(MM.out.cell i hlt).1;have ck:=OO.out.at k hkm;have hokn:=HOO.out k hkm;obtain ⟨hcc1,hcc2⟩:=MM.out.cap i hlt;unfold maxLen at hcc2;obtain ⟨xo,xl,xc,yo,yl,yc,c0,c1,c2,c3,_⟩:=(MM.out.row i hlt).at (o k) hokn;have X3:=ab c3;have CX:Hid (∀ wx,wr.grownBy wx none->wx.cell? ⟨w.heap.size,8,none⟩=some (.func (.func 89) #[] #[])/\wx.cell? ⟨br,i,none⟩=some (.slice (some ⟨bs i,0,none⟩) n (cs i))/\wx.cell? ⟨bo,k,none⟩=some (.int .i64 ((o k:Nat):Int))/\wx.cell? ⟨bs i,o k*3,none⟩=some (.bool (rB (R i (o k))))/\wx.cell? ⟨bs i,o k*3+1,none⟩=some (.slice xo xl xc)/\wx.cell? ⟨bs i,o k*3+2,none⟩=some (.slice yo yl yc)):=by
      intro wx hg;exact ⟨BASE.out wx (aa K3.out hg),hg.cell ci Z,hg.cell ck Z,hg.cell c0 Z,hg.cell c1 Z,hg.cell c2 Z⟩
     clear c0 c1 c2 c3 ci ck;have GG:wr.grownBy wr none:=ae _ _;obtain ⟨s0,s1,s2,s3,s4,s5⟩:=CX.out wr GG;have hok1:(0:Int)<=((o k:Nat):Int):=O
     have hok2:((o k:Nat):Int)<(n:Int):=O
     have hk1:(0:Int)<=(k:Int):=O
     have hi1:(0:Int)<=(i:Int):=O
     have hk2:(k:Int)<(m:Int):=O
     have hi2:(i:Int)<(m:Int):=O
     go_wp2;go_cut [47] (fun s47 wx=>Hid (s47=.bool (!(decide (R i (o k)=0)))/\wr.grownBy wx none))
     case first =>
      go_region_held3 (fun w'=>w'.cell? ⟨w.heap.size,8,none⟩=some (.func (.func 89) #[] #[])/\w'.cell? ⟨br,i,none⟩=some (.slice (some ⟨bs i,0,none⟩) n (cs i))/\w'.cell? ⟨bo,k,none⟩=some (.int .i64 ((o k:Nat):Int))/\w'.cell? ⟨bs i,o k*3,none⟩=some (.bool (rB (R i (o k))))/\w'.cell? ⟨bs i,o k*3+1,none⟩=some (.slice xo xl xc)/\w'.cell? ⟨bs i,o k*3+2,none⟩=some (.slice yo yl yc)) (go_keep)
       (first | (go_at_call 89;refine (bA _ (R i (o k)) L _ (X3.out.keep0 zF)).mono ?_;rintro e wa ⟨rfl,ga⟩;have GG:wr.grownBy wa none:=aa zF ga;obtain ⟨a0,a1,a2,a3,a4,a5⟩:=CX.out wa GG))
      all_goals (go_wp2_with fail;go_meet;exact ⟨rfl,zF⟩)
     case rest =>
      obtain ⟨rfl,g4⟩:=hcut.out;have G4:=ab g4;clear hcut g4 GG s0 s1 s2 s3 s4 s5 CX X3;by_cases hzz:R i (o k)=0
      ·have hzd:(!(decide (R i (o k)=0)))=false:=by simp [hzz]
       rw [hzd];clear hzz hzd;go_wp2;go_roundw
       case rel=>exact ⟨k+1,zs,ts,O,O,zN,hz,ht,K1.out.keep0 G4.out,K2.out.keep0 G4.out,aa K3.out G4.out⟩
       case measure=>exact bH
      ·have hzd:(!(decide (R i (o k)=0)))=true:=by simp [hzz]
       rw [hzd];clear hzz hzd;have N1:=ab (K1.out.keep0 G4.out);have N2:=ab (K2.out.keep0 G4.out);have N3:=ab (aa K3.out G4.out);have e1:=N1.out.cell i O;have e1f:=N1.out.free i;have e2:=N2.out.cell k O;have e2f:=N2.out.free k;have hg12:g2≠g1:=fun e=>HQ2.out.2 e.symm
       go_wp2;go_roundw
       case rel =>
        refine ⟨k+1,zs.set i (wrap64 (zs[i]+1)),ts.set k (wrap64 (ts[k]+1)),O,O,zN,by simp [hz],by simp [ht],?_,?_,?_⟩
        ·exact (N1.out.set i _ _ rfl).keep (tF _ _ _ _) (fun e=>HQ2.out.2 (zJ e))
        ·exact (N2.out.keep (tF _ _ _ _) (fun e=>HQ2.out.2 (zJ e).symm)).set k _ _ rfl
        ·exact ah (ah N3.out _ _ (Nat.le_of_lt HQ1.out)) _ _ (Nat.le_of_lt HQ2.out.1)
       case measure=>exact bH
    ·obtain rfl:k=m:=O
     go_wp2;go_roundw
     case rel=>exact ⟨i+1,zs,ts,O,O,zN,hz,ht,K1.out,K2.out,K3.out⟩
     case measure=>exact bH
  ·obtain rfl:i=m:=O
   have HQ1':Hid (w.heap.size<=g1/\w.heap.size<=g2):=by show _/\_;have:=HQ1.out;have:=HQ2.out.1;have:=HWS.out;exact ⟨O,O⟩
   go_wp2;go_ret2
   exact ⟨g1,g2,xs,ys,rfl,HQ1'.out.1,HQ1'.out.2,hx,hy,L1.out,L2.out,aa GW.out L3.out⟩
def PW (w w':World) (b1 b2:Nat):Prop:=∃ w1,aK w w1 b1/\aK w1 w' b2
def PW.gr {W:World} {a c:Nat} (h:PW w w' a c) (g:W.grownBy w none) (j:W.heap.size<=a) (k:W.heap.size<=c):W.grownBy w' none:=by
 obtain ⟨w1,d,f⟩:=h;exact aw (r:=none) (aw (r:=none) g d.1 (fun _ _ e=>e) (fun b hb e=>by have:=zJ e;omega)) f.1 (fun _ _ e=>e) (fun b hb e=>by have:=zJ e;omega)
def PW.row {a c b:Nat} (h:PW w w' a c) (g:aJ w b n R L) (j:b≠a) (k:b≠c):aJ w' b n R L:=by
 obtain ⟨w1,d,f⟩:=h;exact (g.keep d.1 d.2 (fun e=>j (zJ e))).keep f.1 f.2 (fun e=>k (zJ e))
def lN {b j:Nat} {a:Array Value} {e:TypeId} (hb:w.heap[b]? = some (.cells a e (0,0))) (c:j<a.size) (v:Value):∃ u,(w.setCell ⟨b,i,none⟩ v).cell? ⟨b,j,none⟩=some u:=by
 have:=heap_setCell_same w b i a e v hb;simp only [World.cell?,this];exact ⟨_,Array.getElem?_eq_getElem (by simpa using c)⟩
def bU.set_some {a:Nat} {bs cs:Nat->Nat} {R:Nat->Nat->Rat} (h:bU w a m n bs cs R L) {j:Nat} (b:j<m) (v:Value):∃ u,(w.setCell ⟨a,i,none⟩ v).cell? ⟨a,j,none⟩=some u:=by
 obtain ⟨c,e,hb,hc⟩:=h.top;exact lN hb (zZ (hc j b)).1 v
def cJ.set_some {bo:Nat} (h:cJ w bo m o) {j:Nat} (a:j<m) (v:Value):∃ u,(w.setCell ⟨bo,i,none⟩ v).cell? ⟨bo,j,none⟩=some u:=by
 obtain ⟨b,e,hb,hc⟩:=h;exact lN hb (zZ (hc j a)).1 v
def Chos (m done:Nat) (R:Nat->Nat->Rat) (o:Nat->Nat) (a b:Int) (f:Bool):Prop :=
 f=true->∃ x y:Nat,a=(x:Int)/\b=(y:Int)/\done<=x/\x<m/\done<=y/\y<m/\R x (o y)≠0
def PivR (W:World) (m done:Nat) (R:Nat->Nat->Rat) (o:Nat->Nat) (v11 v12 v13 v14 v15 v:Value) (wr:World):Prop :=
 ∃ (i:Nat) (a b s t:Int) (f:Bool),done<=i/\i<=m/\v=.int .i64 i/\v11=.int .i64 a/\v12=.int .i64 b/\v13=.int .i64 s/\v14=.int .i64 t/\v15=.bool f/\Chos m done R o a b f
  /\ (f=false->∀ x,done<=x->x<i->∀ y,done<=y->y<m->R x (o y)=0)/\W.grownBy wr none
def PinR (W:World) (m done i:Nat) (R:Nat->Nat->Rat) (o:Nat->Nat) (v11 v12 v13 v14 v15 v:Value) (wr:World):Prop :=
 ∃ (k:Nat) (a b s t:Int) (f:Bool),done<=k/\k<=m/\v=.int .i64 k/\v11=.int .i64 a/\v12=.int .i64 b/\v13=.int .i64 s/\v14=.int .i64 t/\v15=.bool f/\Chos m done R o a b f
  /\ (f=false->∀ x,done<=x->x<i->∀ y,done<=y->y<m->R x (o y)=0)/\(f=false->∀ y,done<=y->y<k->R i (o y)=0)/\W.grownBy wr none
def PivE (w:World) (br bo m n done:Nat) (bs cs:Nat->Nat) (R:Nat->Nat->Rat) (o:Nat->Nat) (L:Nat) (e:Ending) (w':World):Prop :=
 (∃ a b,done<=a/\a<m/\done<=b/\b<m/\R a (o b)≠0/\e=.returned (.bool true)/\bU w' br m n (fun i=>bs (aP done a i)) (fun i=>cs (aP done a i)) (fun i=>R (aP done a i)) L/\cJ w' bo m (fun i=>o (aP done b i))/\PW w w' br bo)
 ∨ (e=.returned (.bool false)/\(∀ i,done<=i->i<m->∀ k,done<=k->k<m->R i (o k)=0)/\w.grownBy w' none)
def qW (fb:Bool) (fo p:Option Addr) (fl fc r u:Nat) (l bo m n cap co done:Nat) (bs cs:Nat->Nat) (R:Nat->Nat->Rat) (o:Nat->Nat) (L:Nat) (w:World)
  (hM:bU w l m n bs cs R L) (hO:cJ w bo m o) (ho:∀ k,k<m->o k<n) (hd:done<m) (hm:m<=1000) (hn:n<=2000) (hc:m<=cap) (hc2:cap<=maxLen) (hco:m<=co) (hco2:co<=maxLen) (hL:L<=100000000) :
  Calls Tryz.prog 142 #[(kh fb (.slice fo fl fc) (.slice p r u)),.slice (some ⟨l,0,none⟩) m cap,.slice (some ⟨bo,0,none⟩) m co,.int .i64 ((done:Nat):Int)] w fun e w'=>PivE w l bo m n done bs cs R o L e w':=by
 have hA:=ab hc2;have T:=ab hco2;unfold maxLen at hc2 hco2;have HM:=ab hM;have HO:=ab hO;have U:=ab ho;have kf:=hM.lt;have kk:=hO.lt;have hB:Hid (0<n):=by show _<_;have:=ho done hd;omega
 have I:=ab (hM.ne_int O hB (hO.at 0 O));clear hM hO ho;obtain ⟨W,hW⟩:=eX (w.alloc (Obj.cells #[.bool fb,.slice fo fl fc,.slice p r u,.func (.func 84) #[] #[],.func (.func 85) #[] #[],.func (.func 86) #[] #[],.func (.func 87) #[] #[],.func (.func 88) #[] #[],.func (.func 89) #[] #[],.func (.func 90) #[] #[],.func (.func 91) #[] #[]] 111));have GW:Hid (w.grownBy W none):=by rw [hW];exact ag (ae _ _) _
 have kz:Hid (W.heap.size=w.heap.size+1):=by show _=_;rw [hW];simp
 have C:Hid (∀ wx,W.grownBy wx none->wx.cell? ⟨w.heap.size,0,none⟩=some (.bool fb)/\wx.cell? ⟨w.heap.size,1,none⟩=some (.slice fo fl fc)/\wx.cell? ⟨w.heap.size,2,none⟩=some (.slice p r u)/\wx.cell? ⟨w.heap.size,3,none⟩=some (.func (.func 84) #[] #[])/\wx.cell? ⟨w.heap.size,4,none⟩=some (.func (.func 85) #[] #[])/\wx.cell? ⟨w.heap.size,5,none⟩=some (.func (.func 86) #[] #[])/\wx.cell? ⟨w.heap.size,6,none⟩=some (.func (.func 87) #[] #[])/\wx.cell? ⟨w.heap.size,7,none⟩=some (.func (.func 88) #[] #[])/\wx.cell? ⟨w.heap.size,8,none⟩=some (.func (.func 89) #[] #[])/\wx.cell? ⟨w.heap.size,9,none⟩=some (.func (.func 90) #[] #[])/\wx.cell? ⟨w.heap.size,10,none⟩=some (.func (.func 91) #[] #[])):=by
  intro wx hg;rw [hW] at hg;exact ⟨hg.cell zG Z,hg.cell zG Z,hg.cell zG Z,hg.cell zG Z,hg.cell zG Z,hg.cell zG Z,hg.cell zG Z,hg.cell zG Z,hg.cell zG Z,hg.cell zG Z,hg.cell zG Z⟩
 obtain ⟨s0,s1,s2,s3,s4,s5,s6,s7,s8,s9,s10⟩:=C.out W (ae _ _);go_enter Tryz.func142,Tryz.ntmps142
 go_upto_region 1 with fail;rw [<- hW];clear hW;go_wp2_with fail;refine (pS fb fo p fl fc r u l bo m n cap co done bs cs R o L W (HM.keep0 GW) (HO.keep0 GW) U hd hm hn hc hA hco T).mono ?_;rintro e W1 ⟨g1,g2,xs,ys,rfl,q1,q2,q3,q4,q5,q6,q7⟩;have A1:=ab q5;have A2:=ab q6;have G1:=ab q7;have GA:=ab (aa GW q7);clear q1 q2 q5 q6 q7 s0 s1 s2 s3 s4 s5 s6 s7 s8 s9 s10;have M1:=ab (HM.keep0 GA);have O1:=ab (HO.keep0 GA);go_wp2;go_loopw [11,12,13,14,15,16] (fun v11 v12 v13 v14 v15 v wr=>Hid (PivR W1 m done R o v11 v12 v13 v14 v15 v wr)) (fun _ _ _ _ _ v _=>m-(intOf v).toNat)
 case atStart=>exact ⟨done,0,0,0,0,false,O,O,rfl,rfl,rfl,rfl,rfl,rfl,nofun,(fun _ x h1 h2=>O),ae _ _⟩
 case round =>
  obtain ⟨i,a,b,s,t,f,hS,hi,rfl,rfl,rfl,rfl,rfl,rfl,l1,l2,l3⟩:=hrel.out;have D:=ab l1;have E:=ab l2;have z:=ab l3;clear l1 l2 l3 hrel;by_cases hlt:i<m
  ·go_wp2;go_loopw [11,12,13,14,15,17] (fun v11 v12 v13 v14 v15 v wx=>Hid (PinR W1 m done i R o v11 v12 v13 v14 v15 v wx)) (fun _ _ _ _ _ v _=>m-(intOf v).toNat)
   case atStart=>exact ⟨done,a,b,s,t,f,O,O,rfl,rfl,rfl,rfl,rfl,rfl,D,E,(fun _ y h1 h2=>O),z⟩
   case round =>
    clear D E z;obtain ⟨k,a,b,s,t,f,hT,hk,rfl,rfl,rfl,rfl,rfl,rfl,l1,l2,l3,l4⟩:=hrel.out;have D:=ab l1;have E:=ab l2;have z:=ab l3;have F:=ab l4;clear l1 l2 l3 l4 hrel;by_cases J:k<m
    ·have d:=ab (M1.keep0 F);have OO:=ab (O1.keep0 F);have ci:=(d.cell i hlt).1;have ck:=OO.out.at k J;have V:=U.out k J;obtain ⟨kw,hr⟩:=d.out.cap i hlt;unfold maxLen at hr;obtain ⟨q,hq⟩:=eX (R i (o k));have HQ:=ab hq;obtain ⟨xo,xl,xc,yo,yl,yc,c0,c1,c2,c3,_⟩:=(d.row i hlt).at (o k) V;rw [<- hq] at c0 c3;have X3:=ab c3;have K:Hid (wr.cell? ⟨g1,i,none⟩=some (.int .i64 (xs[i]'O))/\wr.cell? ⟨g2,k,none⟩=some (.int .i64 (ys[k]'O))):=⟨(A1.keep0 F).cell i O,(A2.keep0 F).cell k O⟩;obtain ⟨hs,G⟩:=eX (xs[i]'O);obtain ⟨hu,H⟩:=eX (ys[k]'O);rw [<- G,<- H] at K;have CX:Hid (∀ wx,wr.grownBy wx none->wx.cell? ⟨l,i,none⟩=some (.slice (some ⟨bs i,0,none⟩) n (cs i))/\wx.cell? ⟨bo,k,none⟩=some (.int .i64 ((o k:Nat):Int))/\wx.cell? ⟨bs i,o k*3,none⟩=some (.bool (rB q))/\wx.cell? ⟨bs i,o k*3+1,none⟩=some (.slice xo xl xc)/\wx.cell? ⟨bs i,o k*3+2,none⟩=some (.slice yo yl yc)):=by
      intro wx hg;exact ⟨hg.cell ci Z,hg.cell ck Z,hg.cell c0 Z,hg.cell c1 Z,hg.cell c2 Z⟩
     clear c0 c1 c2 c3 ci ck hq G H;have GG:wr.grownBy wr none:=ae _ _;obtain ⟨s0,s1,s2,s3,s4⟩:=CX.out wr GG;have kl:(0:Int)<=((o k:Nat):Int):=O
     have ko:((o k:Nat):Int)<(n:Int):=O
     have kF:(0:Int)<=(k:Int):=O
     have kH:(0:Int)<=(i:Int):=O
     have kN:(k:Int)<(m:Int):=O
     have kS:(i:Int)<(m:Int):=O
     have X:l<wr.heap.size:=d.out.lt;have Y:bo<wr.heap.size:=OO.out.lt;have he:bs i<wr.heap.size:=(d.row i hlt).lt;have hC:wr.heap.size≠l:=O
     have hD:wr.heap.size≠bo:=O
     have hE:wr.heap.size≠bs i:=O
     go_wp2;go_cut [18] (fun s18 wx=>Hid (∃ gs,s18=.pointer (some ⟨gs,0,none⟩)/\wr.heap.size<=gs/\aJ wx gs 1 (fun _=>q) L/\wr.grownBy wx none))
     case first =>
      go_region_held3 (fun w'=>w'.cell? ⟨l,i,none⟩=some (.slice (some ⟨bs i,0,none⟩) n (cs i))/\w'.cell? ⟨bo,k,none⟩=some (.int .i64 ((o k:Nat):Int))/\w'.cell? ⟨bs i,o k*3,none⟩=some (.bool (rB q))/\w'.cell? ⟨bs i,o k*3+1,none⟩=some (.slice xo xl xc)/\w'.cell? ⟨bs i,o k*3+2,none⟩=some (.slice yo yl yc)) (go_keep) (fail)
      all_goals (go_wp2_with fail;go_meet;exact ⟨_,rfl,zL,(m9 X3).keep0 aC,ak (ag (ae _ _) _) 1⟩)
     case rest =>
      obtain ⟨gs,rfl,qq,f2,hv⟩:=hcut.out;have F2:=ab f2;have G2:=ab hv;obtain ⟨so,sl,sc,hw,tl,tc,d0,d1,d2,d3,_⟩:=f2.var;have D3:=ab d3;clear hcut s0 s1 s2 s3 s4 f2 hv GG CX X3 hC hD hE X Y he;have CY:Hid (∀ wx,wc.grownBy wx none->wx.cell? ⟨w.heap.size,8,none⟩=some (.func (.func 89) #[] #[])/\wx.cell? ⟨w.heap.size,10,none⟩=some (.func (.func 91) #[] #[])/\wx.cell? ⟨gs,0,none⟩=some (.bool (rB q))/\wx.cell? ⟨gs,1,none⟩=some (.slice so sl sc)/\wx.cell? ⟨gs,2,none⟩=some (.slice hw tl tc)/\wx.cell? ⟨g1,i,none⟩=some (.int .i64 hs)/\wx.cell? ⟨g2,k,none⟩=some (.int .i64 hu)):=by
       intro wx hg;obtain ⟨b0,b1,b2,b3,b4,b5,b6,b7,b8,b9,hX⟩:=C.out wx (aa G1 (aa F (aa G2 hg)));exact ⟨b8,hX,hg.cell d0 Z,hg.cell d1 Z,hg.cell d2 Z,hg.cell (G2.cell K.1 Z) Z,hg.cell (G2.cell K.2 Z) Z⟩
      clear d0 d1 d2 d3;obtain ⟨s0,s1,s2,s3,s4,s5,s6⟩:=CY.out wc (ae _ _);go_wp2_with fail;refine (bA _ q L _ D3).mono ?_;rintro e w3 ⟨rfl,g3⟩;have G3:=ab g3;clear g3 s0 s1 s2 s3 s4 s5 s6;by_cases Q:q=0
      ·have g:decide (q=0)=true:=decide_eq_true Q;rw [g];have HZ:=ab Q;clear Q g;go_wp2;go_roundw
       case rel =>
        refine ⟨k+1,a,b,s,t,f,O,O,zN,rfl,rfl,rfl,rfl,rfl,D,E,fun e y h1 h2=>?_,aa F (aa G2 G3)⟩;by_cases e2:y=k
        ·rw [e2,<- HQ];exact HZ
        ·exact z e y h1 O
       case measure=>exact bH
      ·have g:decide (q=0)=false:=decide_eq_false Q;rw [g];have HZ:=ab Q;clear Q g;have GG:w3.grownBy w3 none:=ae _ _;obtain ⟨s0,s1,s2,s3,s4,s5,s6⟩:=CY.out w3 G3;go_wp2_with fail;go_cut [19,20] (fun s19 s20 wx=>Hid (∃ s' t':Int,s19=.int .i64 s'/\s20=.int .i64 t'/\w3.grownBy wx none))
       case first =>
        go_region_held3 (fun w'=>w'.cell? ⟨w.heap.size,8,none⟩=some (.func (.func 89) #[] #[])/\w'.cell? ⟨w.heap.size,10,none⟩=some (.func (.func 91) #[] #[])/\w'.cell? ⟨gs,0,none⟩=some (.bool (rB q))/\w'.cell? ⟨gs,1,none⟩=some (.slice so sl sc)/\w'.cell? ⟨gs,2,none⟩=some (.slice hw tl tc)/\w'.cell? ⟨g1,i,none⟩=some (.int .i64 hs)/\w'.cell? ⟨g2,k,none⟩=some (.int .i64 hu)) (go_keep)
         (first | (go_at_call 91;refine (DC _ _ _ _ L _ (D3.keep0 (aa G3 zF)) O).mono ?_;rintro e wa ⟨ka,rfl,qs,ga⟩;have GG:w3.grownBy wa none:=aa zF ga;obtain ⟨a0,a1,a2,a3,a4,a5,a6⟩:=CY.out wa (aa G3 GG)))
        all_goals (go_wp2_with fail;go_meet;exact ⟨_,_,rfl,rfl,zF⟩)
       case rest =>
        obtain ⟨s',t',rfl,rfl,g5⟩:=hcut.out;have G5:=ab (aa F (aa G2 (aa G3 g5)));clear hcut s0 s1 s2 s3 s4 s5 s6 GG g5;have hl:Hid (∃ x y:Nat,(i:Int)=(x:Int)/\(k:Int)=(y:Int)/\done<=x/\x<m/\done<=y/\y<m/\R x (o y)≠0):=⟨i,k,rfl,rfl,hS,hlt,hT,J,by rw [<- HQ];exact HZ⟩;go_upto_region 13 with fail;go_cut [86] (fun s86 wx=>Hid (∃ c:Bool,s86=.bool c/\(f=false->c=true)/\W1.grownBy wx none))
        case first =>
         cases f with
         | false =>
          go_wp2
          all_goals (go_meet;exact ⟨true,rfl,fun _=>rfl,G5⟩)
         | true =>
          by_cases h1:s'<s
          ·have hF:decide (s'<s)=true:=decide_eq_true h1;go_wp2
           all_goals (go_meet;exact ⟨true,by first | rfl | simp,nofun,G5⟩)
          ·have hF:decide (s'<s)=false:=decide_eq_false h1;by_cases h2:s'=s
           ·have hG:(s'==s)=true:=beq_iff_eq.2 h2;subst h2;go_wp2
            all_goals (go_meet;exact ⟨_,rfl,nofun,G5⟩)
           ·have hG:(s'==s)=false:=zB h2;go_wp2
            all_goals (go_meet;exact ⟨_,rfl,nofun,G5⟩)
        case rest =>
         obtain ⟨c,rfl,hx,g6⟩:=hcut.out;have G6:=ab g6;have hH:=ab hx;clear hcut g6 hx;cases c with
         | true =>
          go_wp2;go_roundw
          case rel=>exact ⟨k+1,(i:Int),(k:Int),s',t',true,O,O,zN,rfl,rfl,rfl,rfl,rfl,fun _=>hl,nofun,nofun,G6⟩
          case measure=>exact bH
         | false =>
          have hp:f=true:=by
           cases hf:f with
           | true=>rfl
           | false=>exact absurd (hH hf) zD
          have hI:=ab hp;clear hp;go_wp2;go_roundw
          case rel=>exact ⟨k+1,a,b,s,t,f,O,O,zN,rfl,rfl,rfl,rfl,rfl,D,E,(fun e=>by rw [hI] at e;cases e),G6⟩
          case measure=>exact bH
    ·obtain rfl:k=m:=O
     go_wp2;go_roundw
     case rel =>
      refine ⟨i+1,a,b,s,t,f,O,O,zN,rfl,rfl,rfl,rfl,rfl,D,fun e x h1 h2 y h3 h4=>?_,F⟩;by_cases e2:x=i
      ·rw [e2];exact z e y h3 h4
      ·exact E e x h1 O y h3 h4
     case measure=>exact bH
  ·obtain rfl:i=m:=O
   cases f with
   | false =>
    go_wp2;go_ret;exact .inr ⟨rfl,fun x h1 h2 y h3 h4=>E (by first | rfl | trivial) x h1 h2 y h3 h4,aa GA z⟩
   | true =>
    obtain ⟨x,y,rfl,rfl,hY,h,kb,A,hy⟩:=D.out (by first | rfl | trivial);have hJ:=ab hy;have d:=ab (M1.keep0 z);have OO:=ab (O1.keep0 z);have m1:=(d.cell x h).1;have m2:=(d.cell done hd).1;have hK:=(d.cell done hd).2 done;have hN:=(d.cell done hd).2 x;have qa:(0:Int)<=(x:Int):=O
    have qb:(x:Int)<(i:Int):=O
    have qc:(0:Int)<=(y:Int):=O
    have qf:(y:Int)<(i:Int):=O
    have ql:(0:Int)<=(done:Int):=O
    have qo:(done:Int)<(i:Int):=O
    obtain ⟨u1,kc⟩:=d.out.set_some (i:=done) h (.slice (some ⟨bs x,0,none⟩) n (cs x));clear hy D E;go_wp2;go_region
    obtain ⟨w5,M⟩:=eX ((wr.setCell ⟨l,done,none⟩ (.slice (some ⟨bs x,0,none⟩) n (cs x))).setCell ⟨l,x,none⟩ (.slice (some ⟨bs done,0,none⟩) n (cs done)));obtain ⟨N,B⟩:=d.out.swap hd h;rw [<- M] at N B;have M5:=ab N;have R5:=ab B;have S:=ab (OO.keep B.1 (fun e=>I.1 (zJ e).symm));rw [<- M];clear M N B m1 m2 hK hN kc u1;have o1:=S.out.at y A;have o2:=S.out.at done hd;have hQ:=S.out.froz done;have hR:=S.out.froz y;obtain ⟨u2,hu2⟩:=S.out.set_some (i:=done) A (.int .i64 ((o y:Nat):Int));go_wp2;go_region
    obtain ⟨w6,P⟩:=eX ((w5.setCell ⟨bo,done,none⟩ (.int .i64 ((o y:Nat):Int))).setCell ⟨bo,y,none⟩ (.int .i64 ((o done:Nat):Int)));obtain ⟨N,B⟩:=S.out.swap hd A;rw [<- P] at N B;have O6:=ab N;have M6:=ab (M5.keepR B I.1 (fun j hj=>I.2 _ (dr hd h hj)));have R6:=ab B;rw [<- P];clear P N B o1 o2 hQ hR hu2 u2;go_wp2;go_ret;refine .inl ⟨x,y,hY,h,kb,A,hJ,rfl,?_,?_,w5,(aK.of_gr (aa GA z)).trans R5,?_⟩
    ·exact M6.keep0 (aa aC aC)
    ·exact O6.keep0 (aa aC aC)
    ·exact R6.gr (aa aC aC)
def AX (R:Nat->Rat) (i j:Nat) (h:(((cj R i i).den:Nat):Rat)-1=0):cj R i j=cj R (i+1) j:=by
 rw [jD,show (((cj R i i).den:Nat):Rat)=1 from by grind,Rat.mul_one]
def DE {q:Rat} (a:1<=L) (h:bh L q):bh L ((q.den:Nat):Rat):=by
 refine ⟨?_,?_⟩
 ·show ((q.den:Nat):Rat).num.natAbs<_
  rw [Rat.num_natCast,Int.natAbs_natCast];exact h.2
 ·rw [Rat.den_natCast];exact Nat.lt_of_lt_of_le (by decide:1<4294967296^1) (Nat.pow_le_pow_right zD a)
def WhoR (W:World) (base m n:Nat) (R:Nat->Nat->Rat) (L:Nat) (v5 v12:Value) (wr:World):Prop :=
 ∃ (i:Nat) (bs cs:Nat->Nat),i<=m/\v12=.int .i64 i/\cV (eC n) 79 wr base v5 (bW bs cs i)/\sX wr base n i bs cs (fun j=>cj (R j) n) L/\W.grownBy wr none
def WinR (W:World) (g n:Nat) (R:Nat->Rat) (L:Nat) (v:Value) (wr:World):Prop :=
 ∃ k:Nat,k<=n/\v=.int .i64 k/\aJ wr g n (cj R k) L/\aK W wr g
def WholeE (w:World) (m n:Nat) (R:Nat->Nat->Rat) (L:Nat) (e:Ending) (w':World):Prop :=
 ∃ br cap bs cs,e=.returned (.slice (some ⟨br,0,none⟩) m cap)/\w.heap.size<=br/\m<=cap/\cap<=maxLen/\(∀ i,i<m->w.heap.size<=bs i)/\bU w' br m n bs cs (fun j=>cj (R j) n) L/\w.grownBy w' none
def um (B:Bool) (C d:Option Addr) (fl fc f h:Nat) (br m n cap:Nat) (bs cs:Nat->Nat) (R:Nat->Nat->Rat) (L:Nat) (w:World)
  (hM:bU w br m n bs cs R L) (h1:FQ w (.agg #[.bool B,.slice C fl fc,.slice d f h]) 1 L) (hm0:0<m) (hm:m<=1000) (hn0:0<n) (hn:n<=1000) (hc:m<=cap) (hc2:cap<=maxLen) (hL1:1<=L) (hL:L<=50000000)
  (hfit:∀ i,i<m->∀ k,k<=n->∀ j,j<n->bh L (cj (R i) k j)) :
  Calls Tryz.prog 141 #[(kh B (.slice C fl fc) (.slice d f h)),.slice (some ⟨br,0,none⟩) m cap] w fun e w'=>WholeE w m n R L e w':=by
 unfold maxLen at hc2;have HM:=ab hM;have H1:=ab h1;have HF:=ab hfit;clear hM h1 hfit;obtain ⟨W,X⟩:=eX (w.alloc (Obj.cells #[.bool B,.slice C fl fc,.slice d f h,.func (.func 84) #[] #[],.func (.func 85) #[] #[],.func (.func 86) #[] #[],.func (.func 87) #[] #[],.func (.func 88) #[] #[],.func (.func 89) #[] #[],.func (.func 90) #[] #[],.func (.func 91) #[] #[]] 111));have GW:Hid (w.grownBy W none):=by rw [X];exact ag (ae _ _) _
 have y:Hid (W.heap.size=w.heap.size+1):=by show _=_;rw [X];simp
 have I:Hid (∀ wx g,W.heap.size<=g->W.grownBy wx (some g)->wx.cell? ⟨w.heap.size,3,none⟩=some (.func (.func 84) #[] #[])/\wx.cell? ⟨w.heap.size,4,none⟩=some (.func (.func 85) #[] #[])/\wx.cell? ⟨w.heap.size,5,none⟩=some (.func (.func 86) #[] #[])/\wx.cell? ⟨w.heap.size,6,none⟩=some (.func (.func 87) #[] #[])/\wx.cell? ⟨w.heap.size,7,none⟩=some (.func (.func 88) #[] #[])/\wx.cell? ⟨w.heap.size,8,none⟩=some (.func (.func 89) #[] #[])/\wx.cell? ⟨w.heap.size,9,none⟩=some (.func (.func 90) #[] #[])/\wx.cell? ⟨w.heap.size,10,none⟩=some (.func (.func 91) #[] #[])/\wx.cell? ⟨w.heap.size,0,none⟩=some (.bool B)/\wx.cell? ⟨w.heap.size,1,none⟩=some (.slice C fl fc)/\wx.cell? ⟨w.heap.size,2,none⟩=some (.slice d f h)):=by
  intro wx g hq hg;have hF:=y.out;rw [X] at hg;have p:some w.heap.size≠some g:=fun e=>by have:=zJ e;omega
  exact ⟨hg.cell zG p,hg.cell zG p,hg.cell zG p,hg.cell zG p,hg.cell zG p,hg.cell zG p,hg.cell zG p,hg.cell zG p,hg.cell zG p,hg.cell zG p,hg.cell zG p⟩
 go_enter Tryz.func141,Tryz.ntmps141
 go_upto_region 2 with fail;rw [<- X];clear X;go_wp2;go_loopw [5,12] (fun v5 v12 wr=>Hid (WhoR W W.heap.size m n R L v5 v12 wr)) (fun _ v _=>m-(intOf v).toNat)
 case atStart=>exact ⟨0,fun _=>0,fun _=>0,O,rfl,mN,sX.nil ..,ae _ _⟩
 case round =>
  obtain ⟨i,bt,ct,hi,rfl,l1,l2,l3⟩:=hrel.out;obtain ⟨oa,oc,rfl⟩:=l1.1.shape;rw [bB] at l1 ⊢;have L1:=ab l1;have J:=ab l2;have K:=ab l3;clear l1 l2 l3 hrel;by_cases hlt:i<m
  ·have MM:=ab ((HM.keep0 GW).keep0 K);have ci:=(MM.cell i hlt).1;obtain ⟨Y,E⟩:=MM.out.cap i hlt;have M:=ab E;unfold maxLen at E;go_wp2_with fail;refine (wN (bs i) n (cs i) (R i) L _ (MM.row i hlt) hn0 O Y M).mono ?_;rintro e w1 ⟨g,c,rfl,hr,he,hf,f1,g1⟩;have F1:=ab f1;have G1:=ab (aa K g1);have N:=ab hf;have K1:=ab (L1.keep0 g1);have K2:=ab (J.keep0 g1);have P:Hid ((Value.slice oa i oc).ownBlock≠some g):=fun e=>by have:=(L1.1.fresh g e).2;omega
   have Q:Hid (∀ j,j<i->bt j≠g):=fun j hj e=>by have:=(J.row j hj).lt;omega
   have z:Hid (W.heap.size<=g):=by show _<=_;have:=K.out.size;omega
   unfold maxLen at hf;clear f1 g1 L1 J K MM ci M hr;go_wp2;go_loopw [20] (fun v wx=>Hid (WinR w1 g n (R i) L v wx)) (fun v _=>n-(intOf v).toNat)
   case atStart=>exact ⟨0,O,rfl,F1.congr (fun j _=>(xH _ j).symm),aK.refl _ _⟩
   case round =>
    obtain ⟨k,hk,rfl,k1,k2⟩:=hrel.out;have I1:=ab k1;have D:=ab k2;clear k1 k2 hrel F1;have ho:Hid (∀ wx,aK w1 wx g->W.grownBy wx (some g)):=fun wx hx=>aw (r:=some g) G1 hx.1 nofun (fun _ _ e=>e)
    by_cases S:k<n
    ·obtain ⟨xo,xl,xc,yo,yl,yc,c0,c1,c2,c3,_⟩:=I1.out.at k S;have X3:=ab c3;have CX:Hid (∀ wx,wr.grownBy wx none->wx.cell? ⟨w.heap.size,3,none⟩=some (.func (.func 84) #[] #[])/\wx.cell? ⟨w.heap.size,4,none⟩=some (.func (.func 85) #[] #[])/\wx.cell? ⟨w.heap.size,5,none⟩=some (.func (.func 86) #[] #[])/\wx.cell? ⟨w.heap.size,6,none⟩=some (.func (.func 87) #[] #[])/\wx.cell? ⟨w.heap.size,7,none⟩=some (.func (.func 88) #[] #[])/\wx.cell? ⟨w.heap.size,8,none⟩=some (.func (.func 89) #[] #[])/\wx.cell? ⟨w.heap.size,9,none⟩=some (.func (.func 90) #[] #[])/\wx.cell? ⟨w.heap.size,10,none⟩=some (.func (.func 91) #[] #[])/\wx.cell? ⟨w.heap.size,0,none⟩=some (.bool B)/\wx.cell? ⟨w.heap.size,1,none⟩=some (.slice C fl fc)/\wx.cell? ⟨w.heap.size,2,none⟩=some (.slice d f h)/\wx.cell? ⟨g,k*3,none⟩=some (.bool (rB (cj (R i) k k)))/\wx.cell? ⟨g,k*3+1,none⟩=some (.slice xo xl xc)/\wx.cell? ⟨g,k*3+2,none⟩=some (.slice yo yl yc)):=by
      intro wx hg;obtain ⟨s0,s1,s2,s3,s4,s5,s6,s7,s8,s9,s10⟩:=I.out wx g z (ho wx (D.gr hg));exact ⟨s0,s1,s2,s3,s4,s5,s6,s7,s8,s9,s10,hg.cell c0 Z,hg.cell c1 Z,hg.cell c2 Z⟩
     clear c0 c1 c2 c3;have HD:Hid (bh L (((cj (R i) k k).den:Nat):Rat)):=DE hL1 (HF i hlt k O k S);have T:Hid (aJ wr g n (cj (R i) k) L):=I1.out;have GG:wr.grownBy wr none:=ae _ _;obtain ⟨s0,s1,s2,s3,s4,s5,s6,s7,s8,s9,s10,s11,s12,s13⟩:=CX.out wr GG;have hy:g<wr.heap.size:=I1.out.lt;have hA:w.heap.size<wr.heap.size:=by have:=z.out;have:=y.out;omega
     have hG:wr.heap.size≠w.heap.size:=O
     have hH:wr.heap.size≠g:=O
     obtain ⟨a,t⟩:∃ a:Rat,a=(((cj (R i) k k).den:Nat):Rat):=⟨_,rfl⟩;have l:=ab t;have hI:Hid (bh L a):=by rw [t];exact HD
     clear t;go_upto_region 9 with fail;go_cut [9] (fun s9 wx=>Hid (∃ gs,s9=.pointer (some ⟨gs,0,none⟩)/\wr.heap.size<=gs/\aJ wx gs 1 (fun _=>a) L/\wr.grownBy wx none))
     case first =>
      go_region_held3 (fun w'=>w'.cell? ⟨w.heap.size,3,none⟩=some (.func (.func 84) #[] #[])/\w'.cell? ⟨w.heap.size,4,none⟩=some (.func (.func 85) #[] #[])/\w'.cell? ⟨w.heap.size,5,none⟩=some (.func (.func 86) #[] #[])/\w'.cell? ⟨w.heap.size,6,none⟩=some (.func (.func 87) #[] #[])/\w'.cell? ⟨w.heap.size,7,none⟩=some (.func (.func 88) #[] #[])/\w'.cell? ⟨w.heap.size,8,none⟩=some (.func (.func 89) #[] #[])/\w'.cell? ⟨w.heap.size,9,none⟩=some (.func (.func 90) #[] #[])/\w'.cell? ⟨w.heap.size,10,none⟩=some (.func (.func 91) #[] #[])/\w'.cell? ⟨w.heap.size,0,none⟩=some (.bool B)/\w'.cell? ⟨w.heap.size,1,none⟩=some (.slice C fl fc)/\w'.cell? ⟨w.heap.size,2,none⟩=some (.slice d f h)/\w'.cell? ⟨g,k*3,none⟩=some (.bool (rB (cj (R i) k k)))/\w'.cell? ⟨g,k*3+1,none⟩=some (.slice xo xl xc)/\w'.cell? ⟨g,k*3+2,none⟩=some (.slice yo yl yc)) (go_keep)
       (first | (go_at_call 90;refine (qBar_at _ (cj (R i) k k) L _ (X3.keep0 (aa GG (by first | exact aS _ | exact aC | exact ae _ _ | exact ag (aS _) _ | exact ag aC _ | exact ak (ag (ae _ _) _) 1 | exact ak (ag (ae _ _) _) _)))).mono ?_;rintro e wx ⟨vx,rfl,px,gx⟩;have px:=px.tight (L':=L) HD;rw [<- l] at px;obtain ⟨po,pl,pc,qo,ql,qc,rfl⟩:=px.shape;have GG:wr.grownBy wx none:=aa (aa GG (by first | exact aS _ | exact aC | exact ae _ _ | exact ag (aS _) _ | exact ag aC _ | exact ak (ag (ae _ _) _) 1 | exact ak (ag (ae _ _) _) _)) gx;obtain ⟨x0,x1,x2,x3,x4,x5,x6,x7,x8,x9,hs,hu,hv,hw⟩:=CX.out wx GG;(try (have gy:=aa (ak (ae (wr.alloc (Obj.cells #[.bool false,.slice none 0 0,.slice none 0 0] 105)) none) 1) gx;obtain ⟨hJ,hK,hN,A⟩:=aW gy;have hB:=A 0;have hC:=A 1;have hD:=A 2;clear A))))
      all_goals (go_wp2_with fail;go_meet;first
       | exact ⟨_,rfl,GG.size,m9 (px.keep0 zQ),ag zF _⟩
       | exact ⟨_,rfl,zL,pn gy px,ah (ah (ah GG _ _ zL) _ _ zL) _ _ zL⟩)
     case rest =>
      obtain ⟨gs,rfl,hq,f2,g2⟩:=hcut.out;have F2:=ab f2;have G:=ab g2;obtain ⟨so,sl,sc,hl,tl,tc,d0,d1,d2,d3,_⟩:=f2.var;have D3:=ab d3;clear hcut s0 s1 s2 s3 s4 s5 s6 s7 s8 s9 s10 s11 s12 s13 f2 g2 GG;have CY:Hid (∀ wx,wc.grownBy wx none->wx.cell? ⟨w.heap.size,3,none⟩=some (.func (.func 84) #[] #[])/\wx.cell? ⟨w.heap.size,4,none⟩=some (.func (.func 85) #[] #[])/\wx.cell? ⟨w.heap.size,5,none⟩=some (.func (.func 86) #[] #[])/\wx.cell? ⟨w.heap.size,6,none⟩=some (.func (.func 87) #[] #[])/\wx.cell? ⟨w.heap.size,7,none⟩=some (.func (.func 88) #[] #[])/\wx.cell? ⟨w.heap.size,8,none⟩=some (.func (.func 89) #[] #[])/\wx.cell? ⟨w.heap.size,9,none⟩=some (.func (.func 90) #[] #[])/\wx.cell? ⟨w.heap.size,10,none⟩=some (.func (.func 91) #[] #[])/\wx.cell? ⟨w.heap.size,0,none⟩=some (.bool B)/\wx.cell? ⟨w.heap.size,1,none⟩=some (.slice C fl fc)/\wx.cell? ⟨w.heap.size,2,none⟩=some (.slice d f h)/\wx.cell? ⟨gs,0,none⟩=some (.bool (rB a))/\wx.cell? ⟨gs,1,none⟩=some (.slice so sl sc)/\wx.cell? ⟨gs,2,none⟩=some (.slice hl tl tc)):=by
       intro wx hg;obtain ⟨s0,s1,s2,s3,s4,s5,s6,s7,s8,s9,s10,s11,s12,s13⟩:=CX.out wx (aa G hg);exact ⟨s0,s1,s2,s3,s4,s5,s6,s7,s8,s9,s10,hg.cell d0 Z,hg.cell d1 Z,hg.cell d2 Z⟩
      clear d0 d1 d2 d3;have GG:wc.grownBy wc none:=ae _ _;obtain ⟨s0,s1,s2,s3,s4,s5,s6,s7,s8,s9,s10,s11,s12,s13⟩:=CY.out wc GG;go_wp2_with fail;go_cut [39] (fun s39 wx=>Hid (s39=.bool (!(decide (a-1=0)))/\wc.grownBy wx none))
      case first =>
       go_region_held3 (fun w'=>w'.cell? ⟨w.heap.size,3,none⟩=some (.func (.func 84) #[] #[])/\w'.cell? ⟨w.heap.size,4,none⟩=some (.func (.func 85) #[] #[])/\w'.cell? ⟨w.heap.size,5,none⟩=some (.func (.func 86) #[] #[])/\w'.cell? ⟨w.heap.size,6,none⟩=some (.func (.func 87) #[] #[])/\w'.cell? ⟨w.heap.size,7,none⟩=some (.func (.func 88) #[] #[])/\w'.cell? ⟨w.heap.size,8,none⟩=some (.func (.func 89) #[] #[])/\w'.cell? ⟨w.heap.size,9,none⟩=some (.func (.func 90) #[] #[])/\w'.cell? ⟨w.heap.size,10,none⟩=some (.func (.func 91) #[] #[])/\w'.cell? ⟨w.heap.size,0,none⟩=some (.bool B)/\w'.cell? ⟨w.heap.size,1,none⟩=some (.slice C fl fc)/\w'.cell? ⟨w.heap.size,2,none⟩=some (.slice d f h)/\w'.cell? ⟨gs,0,none⟩=some (.bool (rB a))/\w'.cell? ⟨gs,1,none⟩=some (.slice so sl sc)/\w'.cell? ⟨gs,2,none⟩=some (.slice hl tl tc)) (go_keep)
        (first | (go_at_call 86;refine (dK _ _ a 1 L L _ (D3.keep0 zF) (H1.kept ((aO.of_gr GW).trans ((aO.of_gr G1).trans (D.2.trans (aO.of_gr (aa G zF)))))) O).mono ?_;rintro e wa ⟨va,rfl,pa,ga⟩;obtain ⟨ao,al,ac,bo,bl,bc,rfl⟩:=pa.shape;have GG:wc.grownBy wa none:=aa zF ga;obtain ⟨a0,a1,a2,a3,a4,a5,a6,a7,a8,a9,hQ,hR,hS,hT⟩:=CY.out wa GG) | (go_at_call 89;refine (bA _ (a-1) (L+L+2) _ (pa.keep0 zQ)).mono ?_;rintro e wx ⟨rfl,gx⟩;have GG:wc.grownBy wx none:=aa zF gx;obtain ⟨x0,x1,x2,x3,x4,x5,x6,x7,x8,x9,hs,hu,hv,hw⟩:=CY.out wx GG))
       all_goals (go_wp2_with fail;go_meet;exact ⟨rfl,zF⟩)
      case rest =>
       obtain ⟨rfl,g4⟩:=hcut.out;have H:=ab g4;clear hcut s0 s1 s2 s3 s4 s5 s6 s7 s8 s9 s10 s11 s12 s13 g4 GG;by_cases U:a-1=0
       ·have q:(!(decide (a-1=0)))=false:=by simp [U]
        rw [q];have HZ:=ab U;clear U q;go_wp2;go_roundw
        case rel =>
         refine ⟨k+1,O,zN,((T.keep0 G).keep0 H).congr (fun j _=>AX _ _ _ ?_),(D.gr G).gr H⟩;rw [<- l];exact HZ
        case measure=>exact bH
       ·have q:(!(decide (a-1=0)))=true:=by simp [U]
        rw [q];clear U q;obtain ⟨s0,s1,s2,s3,s4,s5,s6,s7,s8,s9,s10,s11,s12,s13⟩:=CY.out _ H;go_wp2_with fail;refine (m8 _ _ _ g n c (cj (R i) k) a _ L _ ((T.keep0 G).keep0 H) (D3.keep0 H) he N O (fun j hj=>by rw [l,<- jD];exact HF i hlt (k+1) O j hj)).mono ?_;rintro e w5 ⟨rfl,f5,r5⟩;have F5:=ab f5;have R5:=ab (((D.gr G).gr H).trans r5);clear f5 r5 s0 s1 s2 s3 s4 s5 s6 s7 s8 s9 s10 s11 s12 s13;go_wp2;go_roundw
        case rel=>exact ⟨k+1,O,zN,F5.congr (fun j _=>by rw [l,<- jD]),R5⟩
        case measure=>exact bH
    ·obtain rfl:k=n:=O
     have O1:=ab (K1.keep D.1 (.inr P));have O2:=ab (K2.keepB D Q);have hp:Hid (W.heap.size<=wr.heap.size):=Nat.le_trans G1.size D.1.size;go_wp2_with (at_builtin;refine eN (eC k) 79 (.slice none 0 0) 24 _ rfl _ _ 141 rfl W.heap.size Tryz.underlying141 Tryz.infoRow rfl (fun x=>by simp [Value.cells]) (fun u x=>by simp [eC]) (.slice oa i oc) (bW bt ct i) rfl (O1.keep0 (ag (ae _ _) _)) wr.heap.size (g,c) rfl (by go_simp;rfl) rfl (by rw [bB];omega) O (by simp;exact Nat.le_succ_of_le hp) ?_)
     intro ao hE w5 s F V;rw [bB] at s ⊢;have RA:=ab (iW (O1.keep0 (ag (ae wr none) _)) hn0 (O2.keep0 (ag (ae wr none) _)) he N (I1.keep0 (ag (ae wr none) _)) z Q P F V s);have HG:Hid (W.grownBy w5 none):=by
      refine aw (r:=none) (aw (r:=none) G1 (aw (r:=some g) D.1 (ag (ae wr none) _) (fun _ _ e=>e) nofun) (fun _ _ e=>e) (fun b hb e=>?_)) F (fun _ _ e=>e) (fun b hb e=>?_)
      ·have:=zJ e;have:=z.out;omega
      ·have:=(O1.1.fresh b e.symm).1;omega
     clear s F V;go_wp2;go_roundw
     case rel=>exact ⟨i+1,cT bt i g,cT ct i c,O,zN,RA.1,RA.2,HG⟩
     case measure=>exact bH
  ·obtain rfl:i=m:=O
   obtain ⟨b2,c2,e2,q1,q2,q3,q4⟩:=L1.out.mat hm0 hn0 J;simp only [Value.slice.injEq,true_and] at e2;obtain ⟨rfl,rfl⟩:=e2;have Q3:=ab q3;have Q4:=ab q4;clear q3 q4;go_wp2;go_ret;exact ⟨b2,_,bt,ct,rfl,by have:=y.out;omega,q2,Q3,fun j hj=>by have:=J.out.low j hj;have:=y.out;omega,Q4,aa GW K⟩
def cJ.of_labs {g:Nat} {l:Nat->Nat} (h:qV w g (lL m l)):cJ w g m l:=by
 refine ⟨_,_,h,fun i hi=>?_⟩;simp [lL,hi]
def cJ.congr {g:Nat} {b:Nat->Nat} (h:cJ w g m o) (e:∀ i,i<m->o i=b i):cJ w g m b:=by
 obtain ⟨a,t,hb,hc⟩:=h;exact ⟨a,t,hb,fun i hi=>by rw [<- e i hi];exact hc i hi⟩
structure sU (W w:World) (br2 bo gl m:Nat) (bs cs:Nat->Nat) (order:List Nat) (R:Nat->Nat->Rat) (d:Rat) (L:Nat):Prop where
 mat:bU w br2 m (m+1) bs cs R L
 ord:cJ w bo m (fun i=>order.getD i 0)
 var:aJ w gl 1 (fun _=>d) L
 gr:W.grownBy w none
section
variable {W w w':World} {br2 bo gl m:Nat} {bs cs:Nat->Nat} {order:List Nat} {R:Nat->Nat->Rat} {d:Rat} {L:Nat}
def sU.keep0 (h:sU W w br2 bo gl m bs cs order R d L) (g:w.grownBy w' none):sU W w' br2 bo gl m bs cs order R d L:=⟨h.mat.keep0 g,h.ord.keep0 g,h.var.keep0 g,aa h.gr g⟩
def sU.congr {R':Nat->Nat->Rat} (h:sU W w br2 bo gl m bs cs order R d L) (e:∀ i,i<m->∀ j,j<m+1->R i j=R' i j):sU W w br2 bo gl m bs cs order R' d L:=⟨h.mat.congr e,h.ord,h.var,h.gr⟩
def sU.neo (h:sU W w br2 bo gl m bs cs order R d L) (a:0<m):br2≠bo/\∀ i,i<m->bs i≠bo:=h.mat.ne_int a O (h.ord.at 0 a)
def sU.row (h:sU W w br2 bo gl m bs cs order R d L) (hb:∀ i,i<m->W.heap.size<=bs i/\bs i≠gl) (hi:i<m) {Q:Nat->Rat} (a:aJ w' (bs i) (m+1) Q L) (g:aK w w' (bs i)):sU W w' br2 bo gl m bs cs order (fun j=>if j=i then Q else R j) d L :=
 ⟨h.mat.step hi a g,h.ord.keep g.1 (fun e=>(h.neo O).2 i hi (zJ e).symm),h.var.keep g.1 g.2 (fun e=>(hb i hi).2 (zJ e).symm),aw (r:=none) h.gr g.1 (fun _ _ e=>e) (fun b c e=>by have:=zJ e;have:=(hb i hi).1;omega)⟩
def sU.last {p:Rat} (h:sU W w br2 bo gl m bs cs order R d L) (hb:∀ i,i<m->W.heap.size<=bs i/\bs i≠gl) (f:W.heap.size<=gl) (a:br2<gl) (j:bo<gl) (c:aJ w' gl 1 (fun _=>p) L) (g:aK w w' gl):sU W w' br2 bo gl m bs cs order R p L :=
 ⟨h.mat.keepR g O (fun i hi=>(hb i hi).2),h.ord.keep g.1 (fun e=>by have:=zJ e;omega),c,aw (r:=none) h.gr g.1 (fun _ _ e=>e) (fun b a e=>by have:=zJ e;omega)⟩
end
def aJ.varset2 {b:Nat} {p q:Rat} (h:aJ w b 1 (fun _=>p) L) {c a:Option Addr} {d e f g:Nat} (j:FQ w (.agg #[.bool (rB q),.slice c d e,.slice a f g]) q L) :
  aJ (((w.setCell ⟨b,0,none⟩ (.bool (rB q))).setCell ⟨b,1,none⟩ (.slice c d e)).setCell ⟨b,2,none⟩ (.slice a f g)) b 1 (fun _=>q) L
  /\ aK w (((w.setCell ⟨b,0,none⟩ (.bool (rB q))).setCell ⟨b,1,none⟩ (.slice c d e)).setCell ⟨b,2,none⟩ (.slice a f g)) b:=by
 have:=(h.set 0 O j);simp only [Nat.zero_mul,Nat.zero_add] at this;exact ⟨h.varset j zL,this.2⟩
def oB (a b:Nat):aP a b a=b:=by
 unfold aP;by_cases e:a=b
 ·rw [if_pos e,e]
 ·rw [if_neg e,if_pos rfl]
def RowsE (w:World) (m:Nat) (R:Nat->Nat->Rat) (L:Nat) (e:Ending) (w':World):Prop :=
 (∃ g X,e=.returned (.tuple #[.slice (some ⟨g,0,none⟩) m m,.int .i64 0])/\w.heap.size<=g/\aJ w' g m X L/\w.grownBy w' none/\oF R m X/\∀ z,oF R m z->∀ j,j<m->z j=X j)
 ∨ (e=.returned (.tuple #[.slice none 0 0,.int .i64 7])/\w.grownBy w' none/\¬ ∃ x,oF R m x)
 ∨ (e=.returned (.tuple #[.slice none 0 0,.int .i64 8])/\w.grownBy w' none/\∃ x y:Nat->Rat,oF R m x/\oF R m y/\∃ j,j<m/\x j≠y j)
def OrdR (W:World) (g m:Nat) (v:Value) (wr:World):Prop:=∃ k:Nat,k<=m/\v=.int .i64 k/\qV wr g (lL m fun x=>if x<k then x else 0)/\W.grownBy wr none
def RowR (W:World) (br2 bo gl m:Nat) (Wm:Nat->Nat->Rat) (b:Nat->Nat) (L:Nat) (v:Value) (wr:World):Prop :=
 ∃ (done:Nat) (bs cs:Nat->Nat) (perm order:List Nat) (R:Nat->Nat->Rat) (d s:Rat),done<=m/\v=.int .i64 done/\St Wm m done perm order R d s/\(∀ t,t<done->∀ j,gY (dS m b) (R t j))
  /\ (∀ i,i<m->W.heap.size<=bs i/\bs i≠gl)/\sU W wr br2 bo gl m bs cs order (R) (d) L
def ElmR (W:World) (br2 bo gl m done:Nat) (bs cs:Nat->Nat) (order:List Nat) (R:Nat->Nat->Rat) (u d:Rat) (L:Nat) (v:Value) (wr:World):Prop :=
 ∃ i:Nat,done+1+i<=m/\v=.int .i64 i/\sU W wr br2 bo gl m bs cs order (fH R (order.getD done 0) done u d i) (d) L
def rows_at (I:Bool) (J q:Option Addr) (fl fc A B:Nat) (br m cap:Nat) (hJ hK:Nat->Nat) (M:Nat->Nat->Rat) (L LS:Nat) (b:Nat->Nat) (w:World)
  (hM:bU w br m (m+1) hJ hK M L) (h1:FQ w (.agg #[.bool I,.slice J fl fc,.slice q A B]) 1 L) (hm0:0<m) (hm:m<=900) (hc:m<=cap) (hc2:cap<=maxLen) (hL1:1<=L) (hL:L<=300000000)
  (hfit:∀ i,i<m->∀ k,k<=m+1->∀ j,j<m+1->bh L (cj (M i) k j)) (hb:∀ r,1<=b r) (hB:∀ r j,gY (b r) (qS M (m+1) r j)) (hMo:dS m b<4294967296^L) (hS:(m+1)*(dS m b*dS m b)<4294967296^LS) (hLS:L+L+1<=LS) (hLS2:LS<=100000000) :
  Calls Tryz.prog 96 #[(kh I (.slice J fl fc) (.slice q A B)),.slice (some ⟨br,0,none⟩) m cap] w fun e w'=>RowsE w m M L e w':=by
 have HM:=ab hM;have H1:=ab h1;have HF:=ab hfit;have HB:=ab hb;have hC:=ab hB;have hN:=ab hMo;have HS:=ab hS;have qs:=ab hc2;clear hM h1 hfit hb hB hMo hS hc2;obtain ⟨W,hW⟩:=eX (w.alloc (Obj.cells #[.bool I,.slice J fl fc,.slice q A B,.func (.func 84) #[] #[],.func (.func 85) #[] #[],.func (.func 86) #[] #[],.func (.func 87) #[] #[],.func (.func 88) #[] #[],.func (.func 89) #[] #[],.func (.func 90) #[] #[],.func (.func 91) #[] #[]] 111));have GW:Hid (w.grownBy W none):=by rw [hW];exact ag (ae _ _) _
 have hQ:Hid (W.heap.size=w.heap.size+1):=by show _=_;rw [hW];simp
 have E:Hid (∀ wx,W.grownBy wx none->wx.cell? ⟨w.heap.size,0,none⟩=some (.bool I)/\wx.cell? ⟨w.heap.size,1,none⟩=some (.slice J fl fc)/\wx.cell? ⟨w.heap.size,2,none⟩=some (.slice q A B)/\wx.cell? ⟨w.heap.size,3,none⟩=some (.func (.func 84) #[] #[])/\wx.cell? ⟨w.heap.size,4,none⟩=some (.func (.func 85) #[] #[])/\wx.cell? ⟨w.heap.size,5,none⟩=some (.func (.func 86) #[] #[])/\wx.cell? ⟨w.heap.size,6,none⟩=some (.func (.func 87) #[] #[])/\wx.cell? ⟨w.heap.size,7,none⟩=some (.func (.func 88) #[] #[])/\wx.cell? ⟨w.heap.size,8,none⟩=some (.func (.func 89) #[] #[])/\wx.cell? ⟨w.heap.size,9,none⟩=some (.func (.func 90) #[] #[])/\wx.cell? ⟨w.heap.size,10,none⟩=some (.func (.func 91) #[] #[])):=by
  intro wx hg;rw [hW] at hg;exact ⟨hg.cell zG Z,hg.cell zG Z,hg.cell zG Z,hg.cell zG Z,hg.cell zG Z,hg.cell zG Z,hg.cell zG Z,hg.cell zG Z,hg.cell zG Z,hg.cell zG Z,hg.cell zG Z⟩
 obtain ⟨s0,s1,s2,s3,s4,s5,s6,s7,s8,s9,s10⟩:=E.out W (ae _ _);go_enter Tryz.func96,Tryz.ntmps96
 go_upto_region 1 with fail;rw [<- hW];clear hW;go_wp2_with fail;refine (um I J q fl fc A B br m (m+1) cap hJ hK M L W (HM.keep0 GW) (H1.keep0 GW) hm0 O O O hc qs hL1 O HF).mono ?_;rintro e w1 ⟨l,C,kw,mm,rfl,k1,k2,k3,kl,k4,k5⟩;have M1:=ab (k4.congr (R':=qS M (m+1)) (fun i hi j hj=>by unfold qS;rw [if_pos hj]));have G1:=ab k5;have hD:=ab k3;have yc:=ab kl;have yl:=ab k1;unfold maxLen at k3;clear k1 kl k4 k5 s0 s1 s2 s3 s4 s5 s6 s7 s8 s9 s10;go_wp2_with (at_make;refine eI iv 3 0 8 _ rfl _ _ 121 rfl Tryz.underlying121 Tryz.infoInt rfl _ _ _ _ m rfl rfl O O O O ?_)
 intro w2 hs ko;have A2:=ab hs;have G2:=ab ko;obtain ⟨bo,hf⟩:=eX w1.heap.size;rw [<- hf] at A2 ⊢;have yn:=ab hf;have hR:Hid (W.heap.size<=bo):=by show _<=_;rw [hf];exact G1.size
 clear hs ko hf;go_wp2;go_loopw [20] (fun v wr=>Hid (OrdR w1 bo m v wr)) (fun v _=>m-(intOf v).toNat)
 case atStart =>
  refine ⟨0,O,rfl,?_,G2⟩;have e:lL m (fun x=>if x<0 then x else 0)=List.replicate m 0:=by
   apply List.ext_getElem
   ·simp [lL]
   ·intro i h1 h2;simp [lL]
  rw [e];exact A2
 case round =>
  obtain ⟨k,hk,rfl,l1,l2⟩:=hrel.out;by_cases hlt:k<m
  ·have Hi:=l1.free k;obtain ⟨v0,Hq⟩:∃ v,wr.cell? ⟨bo,k,none⟩=some v:=⟨_,l1.cell k (by rw [vz];exact hlt)⟩;have L1:=ab l1;have L2:=ab l2;clear l1 l2 hrel;go_wp2;go_roundw
   case rel =>
    refine ⟨k+1,O,zN,?_,ah L2 _ _ (by rw [<- yn];exact zL)⟩;have:=L1.out.set k ((k:Nat):Int) (.int .i64 (k:Nat)) rfl;rw [DV m _ k k hlt] at this;rw [ya m (fun x=>if x<k+1 then x else 0) (fun x=>if x=k then k else if x<k then x else 0)]
    ·exact this
    ·intro x hx;by_cases e:x=k
     ·subst e;simp
     ·by_cases e2:x<k
      ·rw [if_pos O,if_neg e,if_pos e2]
      ·rw [if_neg O,if_neg e,if_neg e2]
   case measure=>exact bH
  ·obtain rfl:m=k:=O
   have O3:Hid (cJ wr bo m (fun i=>(List.range m).getD i 0)):=(cJ.of_labs l1).congr (fun i hi=>by rw [if_pos hi,jR m i hi]);have M3:=ab (M1.keep0 l2);have G3:=ab (aa G1 l2);obtain ⟨w3,mo⟩:=eX wr;clear l1 l2 hrel A2 G2 M1 G1;obtain ⟨s0,s1,s2,s3,s4,s5,s6,s7,s8,s9,s10⟩:=E.out wr G3;go_upto_region 9 with fail;obtain ⟨w4,hl⟩:=eX (wr.alloc (Obj.cells #[.bool I,.slice J fl fc,.slice q A B] 105));have he:Hid (wr.grownBy w4 none):=by rw [hl];exact ag (ae _ _) _
   have hT:Hid (I=rB 1):=FV.parts H1;have F4:Hid (aJ w4 wr.heap.size 1 (fun _=>1) L):=by
    rw [hl,hT];refine m9 ?_;rw [<- hT];exact H1.keep0 (aa GW G3)
   obtain ⟨D,ho⟩:=eX wr.heap.size;rw [<- hl,<- ho];rw [<- ho] at F4;have O4:=ab (O3.keep0 he);have M4:=ab (M3.keep0 he);have G4:=ab (aa G3 he);have N:Hid (W.heap.size<=D/\l<D/\bo<D/\∀ i,i<m->kw i<D):=by
    rw [ho];exact ⟨G3.size,M3.lt,O3.lt,fun i hi=>(M3.row i hi).lt⟩
   clear hl ho mo w3 O3 M3 G3 he s0 s1 s2 s3 s4 s5 s6 s7 s8 s9 s10;go_wp2;go_loopw [32] (fun v wr=>Hid (RowR W l bo D m (qS M (m+1)) b L v wr)) (fun v _=>m-(intOf v).toNat)
   case atStart=>exact ⟨0,kw,mm,_,_,_,1,1,O,rfl,FL _ _,fun t ht=>O,fun i hi=>⟨yc i hi,fun e=>by have:=N.out.2.2.2 i hi;omega⟩,⟨M4,O4,F4,G4⟩⟩
   case round =>
    clear M4 O4 F4 G4;obtain ⟨done,bs,cs,Y,f,R,d,s,Hr,rfl,l1,l2,l3,⟨l4,l5,l6,l7⟩⟩:=hrel.out;have K:=ab l1;have S2:=ab l2;have S3:=ab l3;have M1:=ab l4;have O1:=ab l5;have F1:=ab l6;have G1:=ab l7;clear l1 l2 l3 l4 l5 l6 l7 hrel;obtain ⟨s0,s1,s2,s3,s4,s5,s6,s7,s8,s9,s10⟩:=E.out wr G1;by_cases hlt:done<m
    ·have hE:Hid (∀ i,i<m->f.getD i 0<m):=fun i hi=>K.ob _ (dp f i (by rw [K.ol];exact hi))
     go_wp2_with fail;refine (qW I J q fl fc A B l bo m (m+1) C m done bs cs R (fun i=>f.getD i 0) L wr M1 O1 (fun i hi=>by have:=hE.out i hi;omega) hlt O O k2 hD zL (by unfold maxLen;omega) O).mono ?_;rintro e w5 (⟨a,c,kz,kF,mp,ms,kH,rfl,m5,o5,p5⟩ | ⟨rfl,kN,g5⟩)
     ·have hX:Hid (∃ (bs' cs':Nat->Nat) (perm' order':List Nat) (R':Nat->Nat->Rat),St (qS M (m+1)) m done perm' order' R' d s/\(∀ t,t<done->∀ j,gY (dS m b) (R' t j))/\(∀ i,i<m->W.heap.size<=bs' i/\bs' i≠D)/\R' done (order'.getD done 0)≠0/\sU W w5 l bo D m bs' cs' order' R' d L):=by
       have ol:=K.out.ol;refine ⟨_,_,_,_,_,st_swap K hlt kz kF mp ms,fun t ht j=>?_,fun i hi=>S3 _ (dr hlt kF hi),?_,⟨m5,o5.congr (fun i hi=>(cI f done c i O O).symm),p5.row F1 (by have:=N.out.2.1;omega) (by have:=N.out.2.2.1;omega),p5.gr G1 yl hR⟩⟩
       ·show gY _ (R (aP done a t) j)
        rw [lF (Nat.le_refl done) kz ht];exact S2 t ht j
       ·show R (aP done a done) ((dH f done c).getD done 0)≠0
        rw [cI f done c done O O,oB,oB];exact kH
      have hY:=hE;clear m5 o5 p5 kH K S2 S3 M1 O1 F1 G1 hE hY s0 s1 s2 s3 s4 s5 s6 s7 s8 s9 s10;clear bs cs Y f R;obtain ⟨bs,cs,Y,f,R,t1,t2,t3,t4,t5⟩:=hX.out;have K:=ab t1;have S2:=ab t2;have S3:=ab t3;have ka:=ab t4;have E5:=ab t5;have Hj:f.getD done 0<m:=t1.ob _ (dp f done (by rw [t1.ol];exact hlt));obtain ⟨lo,ll,lc,P,Q,S,c0,c1,c2,c3,_⟩:=t5.var.var;have D3:=ab c3;obtain ⟨u,hu⟩:=eX (uk (R done (f.getD done 0)+d));have HU:=ab hu;have hF:Hid (u=1∨u = -1):=by rw [hu];exact turn_sg _
      have rd:=(t5.mat.cell done hlt).1;have od:=t5.ord.at done hlt;obtain ⟨hv,hw⟩:=t5.mat.cap done hlt;have hr:=ab hw;unfold maxLen at hw;have H:Hid (bs done≠w.heap.size/\bs done≠l/\bs done≠bo/\bs done≠D):=⟨by have:=(t3 done hlt).1;have:=hQ.out;omega,t5.mat.off done hlt,(t5.neo hm0).2 done hlt,(t3 done hlt).2⟩;have CX:Hid (∀ wx,w5.grownBy wx (some (bs done))->wx.cell? ⟨w.heap.size,0,none⟩=some (.bool I)/\wx.cell? ⟨w.heap.size,1,none⟩=some (.slice J fl fc)/\wx.cell? ⟨w.heap.size,2,none⟩=some (.slice q A B)/\wx.cell? ⟨w.heap.size,3,none⟩=some (.func (.func 84) #[] #[])/\wx.cell? ⟨w.heap.size,4,none⟩=some (.func (.func 85) #[] #[])/\wx.cell? ⟨w.heap.size,5,none⟩=some (.func (.func 86) #[] #[])/\wx.cell? ⟨w.heap.size,6,none⟩=some (.func (.func 87) #[] #[])/\wx.cell? ⟨w.heap.size,7,none⟩=some (.func (.func 88) #[] #[])/\wx.cell? ⟨w.heap.size,8,none⟩=some (.func (.func 89) #[] #[])/\wx.cell? ⟨w.heap.size,9,none⟩=some (.func (.func 90) #[] #[])/\wx.cell? ⟨w.heap.size,10,none⟩=some (.func (.func 91) #[] #[])/\wx.cell? ⟨l,done,none⟩=some (.slice (some ⟨bs (done),0,none⟩) (m+1) (cs (done)))/\wx.cell? ⟨bo,done,none⟩=some (.int .i64 ((f.getD done 0:Nat):Int))/\wx.cell? ⟨D,0,none⟩=some (.bool (rB d))/\wx.cell? ⟨D,1,none⟩=some (.slice lo ll lc)/\wx.cell? ⟨D,2,none⟩=some (.slice P Q S)):=by
       intro wx hg;have F:some w.heap.size≠some (bs done):=fun e=>H.1 (zJ e).symm
       have n2:some l≠some (bs done):=fun e=>H.2.1 (zJ e).symm
       have n3:some bo≠some (bs done):=fun e=>H.2.2.1 (zJ e).symm
       have n4:some D≠some (bs done):=fun e=>H.2.2.2 (zJ e).symm
       obtain ⟨b0,b1,b2,b3,b4,b5,b6,b7,b8,b9,hI⟩:=E.out w5 E5.gr;exact ⟨hg.cell b0 F,hg.cell b1 F,hg.cell b2 F,hg.cell b3 F,hg.cell b4 F,hg.cell b5 F,hg.cell b6 F,hg.cell b7 F,hg.cell b8 F,hg.cell b9 F,hg.cell hI F,hg.cell rd n2,hg.cell od n3,hg.cell c0 n4,hg.cell c1 n4,hg.cell c2 n4⟩
      clear t1 t2 t3 t4 t5 hX c0 c1 c2 c3 rd od hu;have GG:w5.grownBy w5 none:=ae _ _;obtain ⟨s0,s1,s2,s3,s4,s5,s6,s7,s8,s9,s10,s11,s12,s13,s14,s15⟩:=CX.out w5 (ae _ _);have T:f.getD done 0<m+1:=O
      have hG:(0:Int)<=(done:Int):=O
      have hH:(done:Int)<(m:Int):=O
      obtain ⟨kk,hq⟩:=eX (f.getD done 0);go_wp2_with fail;go_cut [56] (fun s56 wx=>Hid (sU W wx l bo D m bs cs f (fH R (f.getD done 0) done u d 0) d L))
      case first =>
       go_region_held3 (fun w'=>w'.cell? ⟨w.heap.size,0,none⟩=some (.bool I)/\w'.cell? ⟨w.heap.size,1,none⟩=some (.slice J fl fc)/\w'.cell? ⟨w.heap.size,2,none⟩=some (.slice q A B)/\w'.cell? ⟨w.heap.size,3,none⟩=some (.func (.func 84) #[] #[])/\w'.cell? ⟨w.heap.size,4,none⟩=some (.func (.func 85) #[] #[])/\w'.cell? ⟨w.heap.size,5,none⟩=some (.func (.func 86) #[] #[])/\w'.cell? ⟨w.heap.size,6,none⟩=some (.func (.func 87) #[] #[])/\w'.cell? ⟨w.heap.size,7,none⟩=some (.func (.func 88) #[] #[])/\w'.cell? ⟨w.heap.size,8,none⟩=some (.func (.func 89) #[] #[])/\w'.cell? ⟨w.heap.size,9,none⟩=some (.func (.func 90) #[] #[])/\w'.cell? ⟨w.heap.size,10,none⟩=some (.func (.func 91) #[] #[])/\w'.cell? ⟨l,done,none⟩=some (.slice (some ⟨bs (done),0,none⟩) (m+1) (cs (done)))/\w'.cell? ⟨bo,done,none⟩=some (.int .i64 ((f.getD done 0:Nat):Int))/\w'.cell? ⟨D,0,none⟩=some (.bool (rB d))/\w'.cell? ⟨D,1,none⟩=some (.slice lo ll lc)/\w'.cell? ⟨D,2,none⟩=some (.slice P Q S)) (go_keep)
        (first | (go_at_call 144;refine (vw I J q fl fc A B (bs done) (m+1) (cs done) (f.getD done 0) (R done) d _ L _ ((E5.mat.row done hlt).keep0 zF) (D3.keep0 zF) (H1.keep0 (aa (aa GW E5.gr) zF)) T hv hr hL1 O).mono ?_;rintro e wa ⟨rfl,fa,ra⟩;rw [<- HU] at fa;have KS:=ab (((E5.keep0 zF).row S3 hlt fa ra).congr (fun t ht j hj=>xS R (f.getD done 0) done u d t j));obtain ⟨a0,a1,a2,a3,a4,a5,a6,a7,a8,a9,kS,mt,Ha,Hb,Hc,Hd⟩:=CX.out wa ((aK.of_gr (b:=bs done) zF).trans ra).1;clear fa ra GG))
       all_goals (go_wp2_with fail;go_meet;exact KS.keep0 zE)
      case rest =>
       have K1:=ab hcut;clear hcut s0 s1 s2 s3 s4 s5 s6 s7 s8 s9 s10 s11 s12 s13 s14 s15 GG CX D3 hq kk;have yo:IntKind.i64.wrap ((done:Int)+1)=(done:Int)+1:=IntWalk.i64_in _ ⟨O,O⟩;have yv:(0:Int)<=(done:Int)+1:=O
       have jc:(done:Int)+1<=(C:Int):=O
       have jg:(done:Int)+1<=(m:Int):=O
       go_upto_region 15 with fail;go_cut [60,61,62] (fun s60 s61 s62 wx=>Hid (∃ off c,s60=.slice (some ⟨l,off,none⟩) (m-(done+1)) c/\m-(done+1)<=c/\c<=9223372036854775807/\(done+1<m->off=done+1)/\s61=.int .i64 ((m-(done+1):Nat):Int)/\s62=.int .i64 0/\sU W wx l bo D m bs cs f (fH R (f.getD done 0) done u d 0) d L))
       case first =>
        by_cases U:C=done+1
        ·have Hk:(C=done+1)=True:=eq_true U;have kb:=ab U;clear U;go_wp2
         all_goals (go_meet;exact ⟨_,_,rfl,by have:=kb.out;omega,O,fun h=>absurd h (by have:=kb.out;omega),rfl,rfl,K1⟩)
        ·have jk:(C=done+1)=False:=eq_false U;clear U;go_wp2
         all_goals (go_meet;exact ⟨_,_,rfl,O,O,fun _=>rfl,rfl,rfl,K1⟩)
       case rest =>
        obtain ⟨off,c,rfl,Hs,Hh,qa,rfl,rfl,e3⟩:=hcut.out;have K2:=ab e3;clear hcut e3 K1 yo yv jc jg;go_wp2;go_loopw [62] (fun v wx=>Hid (ElmR W l bo D m done bs cs f R u d L v wx)) (fun v _=>m-(intOf v).toNat)
        case atStart=>exact ⟨0,O,rfl,K2⟩
        case round =>
         obtain ⟨i,hi,rfl,e4⟩:=hrel.out;have K3:=ab e4;obtain ⟨lo,ll,lc,P,Q,S,c0,c1,c2,c3,cf⟩:=e4.var.var;have D3:=ab c3;have rd:=(e4.mat.cell done hlt).1;have od:=e4.ord.at done hlt;by_cases G:done+1+i<m
         ·obtain rfl:off=done+1:=qa O;have ri:=(e4.mat.cell (done+1+i) G).1;obtain ⟨qb,hA⟩:=e4.mat.cap (done+1+i) G;have kc:=ab hA;unfold maxLen at hA;have H:Hid (bs (done+1+i)≠w.heap.size/\bs (done+1+i)≠l/\bs (done+1+i)≠bo/\bs (done+1+i)≠D):=⟨by have:=(S3 _ G).1;have:=hQ.out;omega,e4.mat.off _ G,(e4.neo hm0).2 _ G,(S3 _ G).2⟩;have CX:Hid (∀ wx,wr.grownBy wx (some (bs (done+1+i)))->wx.cell? ⟨w.heap.size,0,none⟩=some (.bool I)/\wx.cell? ⟨w.heap.size,1,none⟩=some (.slice J fl fc)/\wx.cell? ⟨w.heap.size,2,none⟩=some (.slice q A B)/\wx.cell? ⟨w.heap.size,3,none⟩=some (.func (.func 84) #[] #[])/\wx.cell? ⟨w.heap.size,4,none⟩=some (.func (.func 85) #[] #[])/\wx.cell? ⟨w.heap.size,5,none⟩=some (.func (.func 86) #[] #[])/\wx.cell? ⟨w.heap.size,6,none⟩=some (.func (.func 87) #[] #[])/\wx.cell? ⟨w.heap.size,7,none⟩=some (.func (.func 88) #[] #[])/\wx.cell? ⟨w.heap.size,8,none⟩=some (.func (.func 89) #[] #[])/\wx.cell? ⟨w.heap.size,9,none⟩=some (.func (.func 90) #[] #[])/\wx.cell? ⟨w.heap.size,10,none⟩=some (.func (.func 91) #[] #[])/\wx.cell? ⟨l,done,none⟩=some (.slice (some ⟨bs (done),0,none⟩) (m+1) (cs (done)))/\wx.cell? ⟨bo,done,none⟩=some (.int .i64 ((f.getD done 0:Nat):Int))/\wx.cell? ⟨D,0,none⟩=some (.bool (rB d))/\wx.cell? ⟨D,1,none⟩=some (.slice lo ll lc)/\wx.cell? ⟨D,2,none⟩=some (.slice P Q S)):=by
           intro wx hg;have F:some w.heap.size≠some (bs (done+1+i)):=fun e=>H.1 (zJ e).symm
           have n2:some l≠some (bs (done+1+i)):=fun e=>H.2.1 (zJ e).symm
           have n3:some bo≠some (bs (done+1+i)):=fun e=>H.2.2.1 (zJ e).symm
           have n4:some D≠some (bs (done+1+i)):=fun e=>H.2.2.2 (zJ e).symm
           obtain ⟨b0,b1,b2,b3,b4,b5,b6,b7,b8,b9,hI⟩:=E.out wr K3.gr;exact ⟨hg.cell b0 F,hg.cell b1 F,hg.cell b2 F,hg.cell b3 F,hg.cell b4 F,hg.cell b5 F,hg.cell b6 F,hg.cell b7 F,hg.cell b8 F,hg.cell b9 F,hg.cell hI F,hg.cell rd n2,hg.cell od n3,hg.cell c0 n4,hg.cell c1 n4,hg.cell c2 n4⟩
          clear e4 c0 c1 c2 c3 cf rd od hrel K2;have GG:wr.grownBy wr none:=ae _ _;obtain ⟨s0,s1,s2,s3,s4,s5,s6,s7,s8,s9,s10,s11,s12,s13,s14,s15⟩:=CX.out wr (ae _ _);have Hl:i<m-(done+1):=O
          have jl:Hid (aJ wr (bs (done+1+i)) (m+1) (R (done+1+i)) L):=by have h:=K3.out.mat.row _ G;rw [xQ] at h;exact h
          have jo:Hid (aJ wr (bs done) (m+1) (fun j=>u*R done j) L):=(K3.mat.row done hlt).congr (fun j _=>ig ..);have jp:Hid (bs (done+1+i)≠bs done):=fun e=>by have:=K3.out.mat.inj _ _ G hlt e;omega
          go_wp2_with fail;go_region_held3 (fun w'=>w'.cell? ⟨w.heap.size,0,none⟩=some (.bool I)/\w'.cell? ⟨w.heap.size,1,none⟩=some (.slice J fl fc)/\w'.cell? ⟨w.heap.size,2,none⟩=some (.slice q A B)/\w'.cell? ⟨w.heap.size,3,none⟩=some (.func (.func 84) #[] #[])/\w'.cell? ⟨w.heap.size,4,none⟩=some (.func (.func 85) #[] #[])/\w'.cell? ⟨w.heap.size,5,none⟩=some (.func (.func 86) #[] #[])/\w'.cell? ⟨w.heap.size,6,none⟩=some (.func (.func 87) #[] #[])/\w'.cell? ⟨w.heap.size,7,none⟩=some (.func (.func 88) #[] #[])/\w'.cell? ⟨w.heap.size,8,none⟩=some (.func (.func 89) #[] #[])/\w'.cell? ⟨w.heap.size,9,none⟩=some (.func (.func 90) #[] #[])/\w'.cell? ⟨w.heap.size,10,none⟩=some (.func (.func 91) #[] #[])/\w'.cell? ⟨l,done,none⟩=some (.slice (some ⟨bs (done),0,none⟩) (m+1) (cs (done)))/\w'.cell? ⟨bo,done,none⟩=some (.int .i64 ((f.getD done 0:Nat):Int))/\w'.cell? ⟨D,0,none⟩=some (.bool (rB d))/\w'.cell? ⟨D,1,none⟩=some (.slice lo ll lc)/\w'.cell? ⟨D,2,none⟩=some (.slice P Q S)) (go_keep)
           (first | (go_at_call 145;refine (yV I J q fl fc A B (bs (done+1+i)) (bs done) (m+1) (cs (done+1+i)) (cs done) (f.getD done 0) (R (done+1+i)) (fun j=>u*R done j) d _ L _ (jl.keep0 zF) (jo.keep0 zF) jp (D3.keep0 zF) T qb kc hv hr hL1 O K.dn (fun j _=>Dx K hlt hF ka HB hC hL1 hN _ O G j)).mono ?_;rintro e wa ⟨rfl,fa,ra⟩;have KS:=ab (((K3.keep0 zF).row S3 G fa ra).congr (fun t ht j hj=>xR R (f.getD done 0) done u d i t j));obtain ⟨a0,a1,a2,a3,a4,a5,a6,a7,a8,a9,kS,mt,Ha,Hb,Hc,Hd⟩:=CX.out wa ((aK.of_gr (b:=bs (done+1+i)) zF).trans ra).1;clear fa ra GG))
          all_goals
           go_wp2;go_roundw
           case rel=>exact ⟨i+1,O,zN,KS.keep0 zE⟩
           case measure=>exact bH
         ·obtain rfl:i=m-(done+1):=O
          obtain ⟨p,hp⟩:=eX (u*R done (f.getD done 0));obtain ⟨po,pl,pc,Ht,Hu,Hv,e0,e1,e2,e3,_⟩:=(e4.mat.row done hlt).at (f.getD done 0) T;rw [ig,<- hp] at e0 e3;have P3:=ab e3;have HP:=ab hp;have Hm:=cf 0;have Hn:=cf 1;have Ho:=cf 2;clear e4 e3 hp hrel K2 c3 cf;have hG:(0:Int)<=((f.getD done 0:Nat):Int):=O
          have hH:((f.getD done 0:Nat):Int)<(m:Int)+1:=O
          obtain ⟨kk,hq⟩:=eX (f.getD done 0);rw [<- hq] at od e0 e1 e2 hG hH;clear hq;go_wp2;have V:=ab (K3.var.varset2 P3);have K4:=ab (K3.last S3 N.1 N.2.1 N.2.2.1 V.1 V.2);go_region
          all_goals
           go_wp2;go_roundw
           case rel =>
            refine ⟨done+1,bs,cs,Y,f,_,p,u*s,O,zN,?_,fun t ht j=>elim_wh K hlt hF HB hC S2 _ _ t ht j,S3,K4.keep0 (by first | exact aC | exact ae _ _ | exact aS _)⟩;rw [HP];exact rM K hlt hF ka
           case measure=>exact bH
     ·have M5:=ab (M1.keep0 g5);have G5:=ab (aa G1 g5);have kf:=ab kN;clear g5 kN s0 s1 s2 s3 s4 s5 s6 s7 s8 s9 s10;obtain ⟨s0,s1,s2,s3,s4,s5,s6,s7,s8,s9,s10⟩:=E.out w5 G5;have hG:(0:Int)<=(done:Int):=O
      have hH:(done:Int)<=(C:Int):=O
      have Hp:(done:Int)<=(m:Int):=O
      have jk:(C=done)=False:=eq_false O;have GG:w5.grownBy w5 none:=ae _ _;go_wp2_with fail;go_region_held3 (fun w'=>w'.cell? ⟨w.heap.size,0,none⟩=some (.bool I)/\w'.cell? ⟨w.heap.size,1,none⟩=some (.slice J fl fc)/\w'.cell? ⟨w.heap.size,2,none⟩=some (.slice q A B)/\w'.cell? ⟨w.heap.size,3,none⟩=some (.func (.func 84) #[] #[])/\w'.cell? ⟨w.heap.size,4,none⟩=some (.func (.func 85) #[] #[])/\w'.cell? ⟨w.heap.size,5,none⟩=some (.func (.func 86) #[] #[])/\w'.cell? ⟨w.heap.size,6,none⟩=some (.func (.func 87) #[] #[])/\w'.cell? ⟨w.heap.size,7,none⟩=some (.func (.func 88) #[] #[])/\w'.cell? ⟨w.heap.size,8,none⟩=some (.func (.func 89) #[] #[])/\w'.cell? ⟨w.heap.size,9,none⟩=some (.func (.func 90) #[] #[])/\w'.cell? ⟨w.heap.size,10,none⟩=some (.func (.func 91) #[] #[])) (go_keep)
       (first | (go_at_call 143;refine (FO I J q fl fc A B l m C done bs cs R L _ (M5.keep0 zF) O O k2 hD).mono ?_;rintro e wa ⟨ca,rfl,qc,ga⟩;have jv:=ab qc;clear qc;have GG:w5.grownBy wa none:=aa zF ga;obtain ⟨a0,a1,a2,a3,a4,a5,a6,a7,a8,a9,kS⟩:=E.out wa (aa G5 GG)))
      all_goals
       go_wp2;go_ret2
       rcases jv.out with ⟨e7,i,He,Hf,hn⟩ | ⟨e8,hn⟩
       ·refine .inr (.inl ⟨by rw [e7];rfl,aa (aa GW G5) zF,?_⟩);rintro ⟨x,hx⟩;exact st_none K kf He Hf hn ⟨x,(mW M m x).2 hx⟩
       ·refine .inr (.inr ⟨by rw [e8];rfl,aa (aa GW G5) zF,?_⟩);obtain ⟨x,y,hx,hy,Hg⟩:=st_many K hlt kf hn;exact ⟨x,y,(mW M m x).1 hx,(mW M m y).1 hy,Hg⟩
    ·obtain rfl:done=m:=O
     obtain ⟨lo,ll,lc,P,Q,S,c0,c1,c2,c3,_⟩:=F1.out.var;obtain ⟨X,ip,qf,ql,qo,qq⟩:=back_of K hm0 HB hC S2 L LS hL1 hN O HS;have D3:=ab c3;clear c3;go_wp2_with fail;refine (Bp I J q fl fc A B l bo done C done bs cs R (fun i=>f.getD i 0) ip (fun j=>d*X j) d _ L LS wr M1 O1 D3 qo K.dn O k2 hD zL (by unfold maxLen;omega) hL1 hL hLS hLS2).mono ?_;rintro e w5 ⟨g,rfl,q1,q2,q3⟩;have Q2:=ab q2;have Q3:=ab q3;have mc:=ab qf;have md:=ab ql;have ml:=ab qq;clear q2 q3 qf ql qo qq s0 s1 s2 s3 s4 s5 s6 s7 s8 s9 s10 c0 c1 c2;go_wp2;go_ret2
     refine .inl ⟨g,X,rfl,?_,Q2.congr (fun j _=>ml j),aa (aa GW G1) Q3,(mW M done X).1 mc,fun z hz j hj=>md z ((mW M done z).2 hz) j hj⟩;have:=(aa GW G1).size;omega
def dj (w:World) (base:Nat) (v:Value) (n:Nat) (R:Nat->Rat) (L:Nat):Prop :=
 ∃ ao c,v=.slice ao n c/\n<=c/\c<=maxLen/\(0<n->∃ g,ao=some ⟨g,0,none⟩/\base<=g/\aJ w g n R L)
def dj.keep0 (h:dj w base v n R L) (g:w.grownBy w' none):dj w' base v n R L:=by
 obtain ⟨a,c,e,d,f,j⟩:=h;refine ⟨a,c,e,d,f,fun q=>?_⟩;obtain ⟨b,k,l,p⟩:=j q;exact ⟨b,k,l,p.keep0 g⟩
def aJ.piece {b:Nat} (h:aJ w b n R L) (o k:Nat) (y:o+k<=n):∃ xs:List Value,xs.length=k*3/\(∀ j u,xs[j]? = some u->w.cell? ⟨b,o*3+j,none⟩=some u)/\(∀ u∈xs,u.oneCell'=true)
  /\ ∀ (w':World) (g:Nat) (cur':Array Value) (e:TypeId),aO w w'->w'.heap[g]? = some (.cells cur' e (0,0))->cur'.toList.take (k*3)=xs->aJ w' g k (fun i=>R (o+i)) L:=by
 obtain ⟨f,e,hb,hc⟩:=h;have z:(o+k)*3<=f.size:=by
  rcases zP (o+k) with F | F
  ·omega
  ·obtain ⟨u,d,_,_,c2,_⟩:=hc (o+k-1) O;have:=(zZ c2).1;omega
 have l:∀ j,j<k*3->((f.toList.drop (o*3)).take (k*3))[j]? = f[o*3+j]?:=by
  intro j c;rw [List.getElem?_take,if_pos c,List.getElem?_drop,Array.getElem?_toList]
 refine ⟨(f.toList.drop (o*3)).take (k*3),by simp;omega,?_,?_,?_⟩
 ·intro j u c;have p:j<k*3:=by
   have:=(zY c).1;simp at this;omega
  rw [l j p] at c;simp only [World.cell?,hb];exact c
 ·intro u A;obtain ⟨j,c⟩:=List.mem_iff_getElem?.1 A;have p:j<k*3:=by
   have:=(zY c).1;simp at this;omega
  rw [l j p] at c;obtain ⟨a,d,c0,c1,c2,c3⟩:=hc (o+j / 3) O;obtain ⟨H,I,J,G,K,M,x⟩:=c3.shape;simp only [Value.agg.injEq,Array.mk.injEq,List.cons.injEq,and_true,true_and] at x;obtain ⟨rfl,rfl⟩:=x;have q:o*3+j=(o+j / 3)*3∨o*3+j=(o+j / 3)*3+1∨o*3+j=(o+j / 3)*3+2:=O
  rcases q with s | s | s
  ·rw [s,c0] at c;rw [<- zJ c];rfl
  ·rw [s,c1] at c;rw [<- zJ c];rfl
  ·rw [s,c2] at c;rw [<- zJ c];rfl
 ·intro w' g cur' B C hg D;refine ⟨cur',B,hg,fun i hi=>?_⟩;obtain ⟨u,d,c0,c1,c2,c3⟩:=hc (o+i) O;have r:∀ j v,j<k*3->f[o*3+j]? = some v->cur'[j]? = some v:=by
   intro j v c E;have t:(cur'.toList.take (k*3))[j]? = ((f.toList.drop (o*3)).take (k*3))[j]?:=by rw [D]
   rw [l j c,List.getElem?_take,if_pos c,Array.getElem?_toList,E] at t;exact t
  refine ⟨u,d,r _ _ O ?_,r _ _ O ?_,r _ _ O ?_,c3.kept C⟩
  ·rw [show o*3+i*3=(o+i)*3 by omega];exact c0
  ·rw [show o*3+(i*3+1)=(o+i)*3+1 by omega];exact c1
  ·rw [show o*3+(i*3+2)=(o+i)*3+2 by omega];exact c2
def jT (b off n cap:Nat) (R:Nat->Rat) (L:Nat) (w:World) (xs:List Value) (C:xs.length=n*3) (A:∀ j u,xs[j]? = some u->w.cell? ⟨b,off+j,none⟩=some u) (B:∀ u∈xs,u.oneCell'=true)
  (x4:∀ (w':World) (g:Nat) (cur':Array Value) (e:TypeId),aO w w'->w'.heap[g]? = some (.cells cur' e (0,0))->cur'.toList.take (n*3)=xs->aJ w' g n R L) (hn:n<=3000) (hc:n<=cap) (hm:cap<=maxLen) :
  Calls Tryz.prog 97 #[.slice (some ⟨b,off,none⟩) n cap] w
   fun e w'=>∃ v,e=.returned v/\dj w' w.heap.size v n R L/\w.grownBy w' none:=by
 obtain ⟨J,hi,r,s,t⟩:=info_parts Tryz.infoF;have D:=ab A;have E:=ab B;have F:=ab x4;have k:=hm;unfold maxLen at k;clear A B x4 hm;have K:∀ W,(binOp .eql 79 (.slice (some ⟨b,off,none⟩) n cap) (.slice none 0 0)).run Tryz.prog W=.ok (.bool false) W:=fun W=>Lib.run_eql_slice_nil W _ _ (some _) _ _ 0 0 Tryz.underlying79
 go_enter Tryz.func97,Tryz.ntmps97
 go_wp2_with (at_builtin;refine wpList_append_own _ rfl _ _ 79 rfl w.heap.size 105 J _ 3 56 Tryz.underlying79 hi r s t rfl zD _ 0 [] rfl ?c0 ⟨b,off,none⟩ n cap xs rfl ?c1 ?c2 ?c3 ?c4 ?c5 ?c6 ?_)
 case c0=>exact World.ownsRow_made w #[] 0 zL (by unfold maxLen;omega) Z
 case c1=>exact C
 case c2 =>
  intro j u H;have l:=(World.grownBy_alloc w (Obj.cells #[] 105) none).cell (D j u H) Z;rw [show (⟨b,off,none⟩:Addr).add j=⟨b,off+j,none⟩ from by simp [Addr.add]];exact l
 case c3=>exact E
 case c4=>unfold maxLen;omega
 case c5=>omega
 case c6=>simp
 intro I w1 d f q;have a:w.grownBy w1 none:=aw (r1:=none) (World.grownBy_alloc w _ none) f (fun _ _ e=>e) (fun b hb e=>by simp [Value.ownBlock] at e;omega);have G:=ab a;have p:Hid (dj w1 w.heap.size I n R L):=by
  rcases d.2 with ⟨e,M⟩ | ⟨g,h,x,e,hb,hh,N,l,P,y⟩
  ·exact ⟨none,0,by rw [e];congr 1;omega,O,by unfold maxLen;omega,fun S=>O⟩
  ·refine ⟨_,h,by first | exact e | (rw [e,Nat.zero_add]),O,l,fun _=>⟨g,rfl,hb,F w1 g x _ (aO.of_gr a) hh ?_⟩⟩;first | exact y | (rw [Nat.zero_add] at y;exact y)
 obtain ⟨Q,c,z,_⟩:=p.out;rw [z];rw [z] at p;clear d f a q z;go_wp2;go_ret;exact ⟨_,rfl,p,G⟩
def kJ {P:Program} (w:World) (base:Nat) (t A e:TypeId) (i:TypeInfo) (z:Value) (h l:Nat) (F:P.underlying t=some (.slice e)) (hi:P.info? e=some i) (H:i.zero=some z)
  (hsize:i.size=h) (hby:i.bytes=l) (hzs:z.cells.size=h) (hs0:0<h) (hz1:∀ j (x:Nat),j<h->z.cells[j]!≠.int .u32 (x:Nat))
  (v:Value) (n:Nat) (xs:List Value) (hown:w.ownsRow base e h v n xs) (hnw:oE w v) (hxs:∀ u∈xs,∀ x:Nat,u≠.int .u32 (x:Nat))
  (a:Addr) (m c:Nat) (news:List Value) (hl:news.length=m*h) (hm:0<m) (hnews:∀ j u,news[j]? = some u->w.cell? (a.add j)=some u) (h1':∀ u∈news,u.oneCell'=true) (hyw:∀ u∈news,∀ x:Nat,u≠.int .u32 (x:Nat))
  (h63:n+m<=maxLen) (hbytes:(n+m)*l<=140737488355328) (hbase:base<=w.heap.size) :
  ∃ v' w',(Builtin.append_ #[t,t] A #[v,.slice (some a) m c]).run P w=.ok v' w'/\w'.ownsRow base e h v' (n+m) (xs++news)/\w.grownBy w' v.ownBlock/\oE w' v'/\aO w w':=by
 obtain ⟨v',w',s,V,M,_⟩:=run_append_own (P:=P) w base t A e i z h l F hi H hsize hby hzs hs0 v n xs hown a m c news hl hnews h1' h63 hbytes hbase;refine ⟨v',w',s,V,M,?_⟩;have G:n+m<=9223372036854775807:=by simp only [maxLen] at h63;omega
 have fresh:∀ cur:Array Value,(∀ u∈cur.toList,∀ x:Nat,u≠.int .u32 (x:Nat))->∀ c2,w'=w.drew.alloc (.cells cur e)->v'=.slice (some ⟨w.heap.size,0,none⟩) (n+m) c2->oE w' v'/\aO w w':=by
  intro cur hc c2 T U;have I:w.grownBy w' none:=by rw [T];exact ⟨rfl,rfl,rfl,Z,fun k hk _=>heap_alloc_old w.drew _ hk⟩
  refine ⟨fun k y=>?_,aO.of_gr I⟩;rw [U] at y;simp only [Value.ownBlock,zI] at y;subst y;exact xB.cells (by rw [T];exact heap_alloc_new w.drew _) hc
 have B:∀ k,∀ u∈(Builtin.zeroCells z.cells k).toList,∀ x:Nat,u≠.int .u32 (x:Nat):=by
  intro k u d x;unfold Builtin.zeroCells at d;simp only [Array.toList_map,List.mem_map] at d;obtain ⟨j,_,rfl⟩:=d;rw [hzs];exact hz1 _ x (Nat.mod_lt _ hs0)
 rcases hown.2 with ⟨rfl,rfl⟩ | ⟨g,cap,cur,rfl,W,hg,X,Y,N,Q⟩
 ·have p:=run_append_nil (P:=P) w t A e i z F hi H a m c news (by rw [hsize];exact hl) hnews hm O (by rw [hby];rw [Nat.zero_add] at hbytes;omega);rw [p] at s;injection s with e1 e2
  refine fresh _ ?_ (grownCap w m 0 e) e2.symm (by rw [Nat.zero_add];exact e1.symm);intro u d;simp only [Array.toList_append,List.mem_append] at d;rcases d with d | d
  ·exact hyw u (by simpa using d)
  ·exact B _ u d
 ·by_cases q:n+m<=cap
  ·have C:n*i.size+news.length<=cur.size:=by
    rw [hsize,N,hl,<- Nat.add_mul];exact Nat.mul_le_mul_right _ q
   have p:=run_append_room (P:=P) w t A e i F hi g n cap cur hg a m c news (by rw [hsize];exact hl) hnews h1' q C;rw [p] at s;injection s with e1 e2
   have J:=hnw g rfl;have D:=setRow_heap w g cur ((cur.toList.take (n*i.size)++news++cur.toList.drop (n*i.size+news.length)).toArray) e _ hg;refine ⟨fun k y=>?_,⟨M.size,fun S x ex=>?_⟩⟩
   ·rw [<- e1] at y;simp only [Value.ownBlock,zI] at y;subst y;rw [<- e2];refine xB.cells D ?_;intro u d x;simp only [List.mem_append] at d;rcases d with (d | d) | d
    ·exact J.all hg u (List.mem_of_mem_take d) x
    ·exact hyw u d x
    ·exact J.all hg u (List.mem_of_mem_drop d) x
   ·have K:S.block≠g:=fun E=>by
     obtain ⟨b,i,f⟩:=S;simp only at E;subst E;exact J i f x ex
    rw [World.cell?_of_block (M.block S.block (bS ex) (fun E=>K (by simp only [Value.ownBlock,zI] at E;exact E)))];exact ex
  ·have r:∀ j u,xs[j]? = some u->w.cell? ((⟨g,0,none⟩:Addr).add j)=some u:=hown.cells (g:=g) rfl;have p:=run_append_grow (P:=P) w t A e i z F hi H ⟨g,0,none⟩ n cap xs (by rw [hsize];exact hown.1) r a m c news (by rw [hsize];exact hl) hnews O O (growslice_fits O (by rw [hby];exact hbytes));rw [p] at s;injection s with e1 e2
   refine fresh _ ?_ _ e2.symm e1.symm;intro u d;simp only [Array.toList_append,List.mem_append] at d;rcases d with (d | d) | d
   ·exact hxs u (by simpa using d)
   ·exact hyw u (by simpa using d)
   ·exact B _ u d
def fp (w:World) (xs:List Value) (n:Nat) (R:Nat->Rat) (L:Nat):Prop :=
 xs.length=n*3/\∀ i,i<n->∃ uo ul uc do_ dl dc,xs[i*3]? = some (.bool (rB (R i)))/\xs[i*3+1]? = some (.slice uo ul uc)/\xs[i*3+2]? = some (.slice do_ dl dc)/\FQ w (.agg #[.bool (rB (R i)),.slice uo ul uc,.slice do_ dl dc]) (R i) L
def fp.kept (h:fp w xs n R L) (k:aO w w'):fp w' xs n R L:=by
 refine ⟨h.1,fun i hi=>?_⟩;obtain ⟨b,c,d,a,e,f,c0,c1,c2,c3⟩:=h.2 i hi;exact ⟨b,c,d,a,e,f,c0,c1,c2,c3.kept k⟩
def fp.mem (h:fp w xs n R L):∀ u∈xs,u.oneCell'=true/\∀ x:Nat,u≠.int .u32 (x:Nat):=by
 intro u d;obtain ⟨j,b⟩:=List.mem_iff_getElem?.1 d;have c:j<n*3:=by have:=(zY b).1;rw [h.1] at this;exact this
 obtain ⟨g,k,l,f,p,q,c0,c1,c2,c3⟩:=h.2 (j / 3) O;have a:j=j / 3*3∨j=j / 3*3+1∨j=j / 3*3+2:=O
 rcases a with e | e | e
 ·rw [e,c0] at b;rw [<- zJ b];exact ⟨rfl,fun x e=>by cases e⟩
 ·rw [e,c1] at b;rw [<- zJ b];exact ⟨rfl,fun x e=>by cases e⟩
 ·rw [e,c2] at b;rw [<- zJ b];exact ⟨rfl,fun x e=>by cases e⟩
def fp.append {ys:List Value} {S:Nat->Rat} (h:fp w xs n R L) (k:fp w ys m S L):fp w (xs++ys) (n+m) (fun i=>if i<n then R i else S (i-n)) L:=by
 refine ⟨by rw [List.length_append,h.1,k.1,Nat.add_mul],fun i hi=>?_⟩;by_cases hn:i<n
 ·simp only [if_pos hn];obtain ⟨b,c,d,a,e,f,c0,c1,c2,c3⟩:=h.2 i hn;have:=h.1;exact ⟨b,c,d,a,e,f,by rw [List.getElem?_append_left O];exact c0,by rw [List.getElem?_append_left O];exact c1,by rw [List.getElem?_append_left O];exact c2,c3⟩
 ·simp only [if_neg hn];obtain ⟨b,c,d,a,e,f,c0,c1,c2,c3⟩:=k.2 (i-n) O;have:=h.1;exact ⟨b,c,d,a,e,f,by rw [List.getElem?_append_right O,show i*3-xs.length=(i-n)*3 by omega];exact c0,by rw [List.getElem?_append_right O,show i*3+1-xs.length=(i-n)*3+1 by omega];exact c1,by rw [List.getElem?_append_right O,show i*3+2-xs.length=(i-n)*3+2 by omega];exact c2,c3⟩
def LwAt (w:World) (v:Value) (k:Nat) (R:Nat->Rat) (L:Nat):Prop :=
 ∃ ao cap,v=.slice ao k cap/\k<=cap/\cap<=maxLen/\∀ i,i<k->∃ g,ao=some ⟨g,0,none⟩/\g<w.heap.size/\∃ o0 l0 c0 o1 l1 c1 o2 l2 c2 o3 l3 c3 o4 l4 c4 o5 l5 c5 o6 l6 c6 o7 l7 c7,(w.cell? ⟨g,i*12,none⟩=some (.bool (rB (R (i*4))))/\w.cell? ⟨g,i*12+1,none⟩=some (.slice o0 l0 c0)/\w.cell? ⟨g,i*12+2,none⟩=some (.slice o1 l1 c1)/\w.cell? ⟨g,i*12+3,none⟩=some (.bool (rB (R (i*4+1))))/\w.cell? ⟨g,i*12+4,none⟩=some (.slice o2 l2 c2)/\w.cell? ⟨g,i*12+5,none⟩=some (.slice o3 l3 c3)/\w.cell? ⟨g,i*12+6,none⟩=some (.bool (rB (R (i*4+2))))/\w.cell? ⟨g,i*12+7,none⟩=some (.slice o4 l4 c4)/\w.cell? ⟨g,i*12+8,none⟩=some (.slice o5 l5 c5)/\w.cell? ⟨g,i*12+9,none⟩=some (.bool (rB (R (i*4+3))))/\w.cell? ⟨g,i*12+10,none⟩=some (.slice o6 l6 c6)/\w.cell? ⟨g,i*12+11,none⟩=some (.slice o7 l7 c7))/\FQ w (.agg #[.bool (rB (R (i*4))),.slice o0 l0 c0,.slice o1 l1 c1]) (R (i*4)) L/\FQ w (.agg #[.bool (rB (R (i*4+1))),.slice o2 l2 c2,.slice o3 l3 c3]) (R (i*4+1)) L/\FQ w (.agg #[.bool (rB (R (i*4+2))),.slice o4 l4 c4,.slice o5 l5 c5]) (R (i*4+2)) L/\FQ w (.agg #[.bool (rB (R (i*4+3))),.slice o6 l6 c6,.slice o7 l7 c7]) (R (i*4+3)) L
def bV (w:World) (base:Nat) (v:Value) (k:Nat) (R:Nat->Rat) (L:Nat):Prop :=
 ∃ xs,w.ownsRow base 116 12 v k xs/\oE w v/\fp w xs (k*4) R L
def si : bV w base (.slice none 0 0) 0 R L:=⟨[],⟨rfl,.inl ⟨rfl,rfl⟩⟩,oE.nil _,rfl,fun i h=>O⟩
def bV.shape {k:Nat} (h:bV w base v k R L):∃ ao c,v=.slice ao k c:=by
 obtain ⟨xs,a,d,e⟩:=h;rcases a.2 with ⟨rfl,rfl⟩ | ⟨g,cap,b,rfl,_⟩
 ·exact ⟨_,_,rfl⟩
 ·exact ⟨_,_,rfl⟩
def bV.fresh {k:Nat} (h:bV w base v k R L) (b:Nat) (hb:v.ownBlock=some b):base<=b/\b<w.heap.size:=by
 obtain ⟨xs,d,p,q⟩:=h;rcases d.2 with ⟨rfl,rfl⟩ | ⟨g,cap,e,rfl,a,hg,f,j,l,c⟩
 ·simp [Value.ownBlock] at hb
 ·simp only [Value.ownBlock,zI] at hb;subst hb;exact ⟨a,(zZ hg).1⟩
def bV.keep0 {k:Nat} (h:bV w base v k R L) (hg:w.grownBy w' none):bV w' base v k R L:=by
 have d:=h.fresh;obtain ⟨xs,e,j,l⟩:=h;refine ⟨xs,⟨e.1,?_⟩,fun k f=>(j k f).keep (d k f).2 hg Z,l.kept (aO.of_gr hg)⟩;rcases e.2 with h | ⟨g,cap,a,rfl,b,c,rest⟩
 ·exact .inl h
 ·exact .inr ⟨g,cap,a,rfl,b,by rw [hg.block g (d g rfl).2 Z];exact c,rest⟩
def bV.congr {k:Nat} {R':Nat->Rat} (h:bV w base v k R L) (e:∀ i,i<k*4->R i=R' i):bV w base v k R' L:=by
 obtain ⟨xs,b,c,a⟩:=h;refine ⟨xs,b,c,a.1,fun i hi=>?_⟩;rw [<- e i hi];exact a.2 i hi
def bV.lw {k:Nat} (h:bV w base v k R L):LwAt w v k R L:=by
 obtain ⟨xs,G,h2,c⟩:=h;rcases G.2 with ⟨rfl,rfl⟩ | ⟨g,cap,H,rfl,I,hg,d,e,J,b⟩
 ·exact ⟨none,0,rfl,zL,by unfold maxLen;omega,fun i h=>O⟩
 ·refine ⟨_,cap,rfl,d,e,fun i hi=>⟨g,rfl,(zZ hg).1,?_⟩⟩;have a:∀ j v,j<k*12->xs[j]? = some v->w.cell? ⟨g,j,none⟩=some v:=by
   intro j v F f;rw [<- b,List.getElem?_take,if_pos F,Array.getElem?_toList] at f;simp only [World.cell?,hg];exact f
  obtain ⟨K,M,c0,N,P,c1,l,p,q,Q⟩:=c.2 (i*4) O;obtain ⟨S,T,c2,U,V,c3,r,s,t,W⟩:=c.2 (i*4+1) O;obtain ⟨X,Y,c4,o5,l5,c5,u,x,y,d3⟩:=c.2 (i*4+2) O;obtain ⟨o6,l6,c6,o7,l7,c7,z,A,B,e3⟩:=c.2 (i*4+3) O;have C:i*4*3=i*12:=O
  have D:(i*4+1)*3=i*12+3:=O
  have E:(i*4+2)*3=i*12+6:=O
  have m3:(i*4+3)*3=i*12+9:=O
  rw [C] at l p q;rw [D] at r s t;rw [E] at u x y;rw [m3] at z A B;exact ⟨K,M,c0,N,P,c1,S,T,c2,U,V,c3,X,Y,c4,o5,l5,c5,o6,l6,c6,o7,l7,c7,⟨a _ _ O l,a _ _ O p,a _ _ O q,a _ _ O r,a _ _ O s,a _ _ O t,a _ _ O u,a _ _ O x,a _ _ O y,a _ _ O z,a _ _ O A,a _ _ O B⟩,Q,W,d3,e3⟩
def yq (R:Nat->Rat) (k:Nat) (a f l s:Rat):Nat->Rat:=fun i=>if i<k*4 then R i else if i=k*4 then a else if i=k*4+1 then f else if i=k*4+2 then l else s
def nM {P:Program} (W:World) {d:Array Oper} {rest:List Oper} {o:Oper} {a:Act} {Q:Exit->Act->World->Prop}
  (hg:o.guard=none) (s x:Operand) (t:TypeId) (ho:o.op=.call { callee:=.builtin .append,args:=#[s,x],argTypes:=#[t,t] }) (base:Nat)
  (h1:P.underlying t=some (.slice 116)) (hinfo:(P.info? 116).map (fun i=>(i.zero,i.size,i.bytes))=some (some (.agg #[.bool false,.slice none 0 0,.slice none 0 0,.bool false,.slice none 0 0,.slice none 0 0,.bool false,.slice none 0 0,.slice none 0 0,.bool false,.slice none 0 0,.slice none 0 0]),12,224))
  (v:Value) (k:Nat) (R:Nat->Rat) (L:Nat) (hs:a.eval s=v) (hown:bV W base v k R L) (b c:Nat) (hx:a.eval x=.slice (some ⟨b,0,none⟩) 1 c) (qa qf ql qs:Rat) (ys:List Value)
  (hy:∀ j u,ys[j]? = some u->W.cell? ⟨b,j,none⟩=some u) (hc:fp W ys 4 (fun i=>if i=0 then qa else if i=1 then qf else if i=2 then ql else qs) L)
  (hlen:k+1<=1000000) (hbase:base<=W.heap.size)
  (hK:∀ ao cap w',bV w' base (.slice ao (k+1) cap) (k+1) (yq R k qa qf ql qs) L->W.grownBy w' v.ownBlock->aO W w'->wpList P d Q rest (a.put o.dst (.slice ao (k+1) cap)) w'):wpList P d Q (o :: rest) a W:=by
 obtain ⟨i,hi,l,p,q⟩:=info_parts hinfo;obtain ⟨xs,E,F,z⟩:=hown;obtain ⟨G,w',H,h2,I,J,r⟩:=kJ (P:=P) W base t o.type 116 i _ 12 224 h1 hi l p q rfl zD
  (fun j x A=>by
   have hc:j=0∨j=1∨j=2∨j=3∨j=4∨j=5∨j=6∨j=7∨j=8∨j=9∨j=10∨j=11:=O
   rcases hc with rfl | rfl | rfl | rfl | rfl | rfl | rfl | rfl | rfl | rfl | rfl | rfl<;>(intro e;cases e))
  v k xs E F (fun u f=>(z.mem u f).2) ⟨b,0,none⟩ 1 c ys hc.1 zD (fun j u A=>by rw [show (⟨b,0,none⟩:Addr).add j=⟨b,j,none⟩ from by unfold Addr.add;by_cases h:j=0<;>simp [h]];exact hy j u A) (fun u f=>(hc.mem u f).1) (fun u f=>(hc.mem u f).2) (by unfold maxLen;omega) O hbase
 have B:=(z.kept r).append (hc.kept r);have e:(fun i=>if i<k*4 then R i else (fun i=>if i=0 then qa else if i=1 then qf else if i=2 then ql else qs) (i-k*4))=yq R k qa qf ql qs:=by
  funext i
  unfold yq;by_cases h:i<k*4
  ·rw [if_pos h,if_pos h]
  ·rw [if_neg h,if_neg h];have C:i-k*4=0↔i=k*4:=O
   have h1:i-k*4=1↔i=k*4+1:=O
   have h2:i-k*4=2↔i=k*4+2:=O
   simp only [C,h1,h2]
 have D:fp w' (xs++ys) (k*4+4) (yq R k qa qf ql qs) L:=e▸B;have g:bV w' base G (k+1) (yq R k qa qf ql qs) L:=⟨_,h2,J,by rw [show (k+1)*4=k*4+4 by omega];exact D⟩;obtain ⟨ao,cap,K⟩:=g.shape;refine wpList_plain hg fun _ y=>?_
 unfold Oper.wp execOp;simp only [ho,resolve,invoke,builtin,Sem.run_bind,Sem.run_pure,Result.andThen_ok,List.map_toArray,List.map_cons,List.map_nil,hs,hx,H];rw [K] at g ⊢;exact y _ _ (hK ao cap w' g I r)
attribute [local simp] fU bL eJ dP
def iD (n:Nat) (ps:List aA) (R:Nat->Rat):Nat->Nat->Rat:=fun r =>
 if r=0 then aN (fun _=>0) 0 1 else if r<n then dO n ps r else match ps[r-n]? with
  | some p=>lO n (r-n) (n+ps.length+1) p.a.toNat p.b.toNat p.c.toNat p.d.toNat (R ((r-n)*4)) (R ((r-n)*4+1)) (R ((r-n)*4+2)) (R ((r-n)*4+3))
  | none=>fun _=>0
def yM (R:Nat->Rat) {e f g h:Nat} (hn:1<=n) (hi:i<ps.length) (j:ps[i].a=(e:Int)) (k:ps[i].b=(f:Int)) (l:ps[i].c=(g:Int)) (p:ps[i].d=(h:Int)) :
  lO n i (n+ps.length+1) e f g h (R (i*4)) (R (i*4+1)) (R (i*4+2)) (R (i*4+3))=iD n ps R (n+i):=by
 unfold iD;rw [if_neg O,if_neg O,show n+i-n=i by omega,zX hi];show _=lO n i (n+ps.length+1) ps[i].a.toNat ps[i].b.toNat ps[i].c.toNat ps[i].d.toNat _ _ _ _
 rw [j,k,l,p];rfl
def yw (d:Bool) (f a:Option Addr) (fl fc b c:Nat) (n j:Nat) (g:Option Addr) (h:Nat) (ps:List aA) (Q:Nat->Rat) (L:Nat) (w:World) (l:FQ w (.agg #[.bool d,.slice f fl fc,.slice a b c]) 1 L) (p:aB w (.slice g ps.length h) ps)
  (hj:j<n) (hn:n<=1000) (hk:ps.length<=1000) (hL1:1<=L) (hL:L<=100000000) :
  Calls Tryz.prog 94 #[(kh d (.slice f fl fc) (.slice a b c)),.agg #[.int .i64 ((n:Nat):Int),.slice g ps.length h],.int .i64 ((j:Nat):Int)] w fun e w'=>pG w (n+ps.length+1) (iD n ps Q j) L e w':=by
 by_cases k:j=0
 ·subst k;have:=tM d f a fl fc b c n ps.length g h L w l hn hk;unfold iD;rw [if_pos rfl];exact this
 ·have:=yx d f a fl fc b c n j _ ps L w l p hj k hn hk hL1 hL;unfold iD;rw [if_neg k,if_pos hj];exact this
def dj.low {base':Nat} (h:dj w base v n R L) (hb:base'<=base):dj w base' v n R L:=by
 obtain ⟨a,c,e,d,f,g⟩:=h;refine ⟨a,c,e,d,f,fun p=>?_⟩;obtain ⟨b,j,k,l⟩:=g p;exact ⟨b,j,Nat.le_trans hb k,l⟩
def mz (g k n cap:Nat) (X:Nat->Rat) (L:Nat) (w:World) (h:aJ w g k X L) (c:n<=k) (hn:n<=3000) (hc:n<=cap) (d:cap<=maxLen) :
  Calls Tryz.prog 97 #[.slice (some ⟨g,0,none⟩) n cap] w fun e w'=>∃ v,e=.returned v/\dj w' w.heap.size v n X L/\w.grownBy w' none:=by
 obtain ⟨xs,f,l,p,q⟩:=h.piece 0 n O;refine jT g 0 n cap X L w xs f (fun j u r=>?_) p (fun w' b a e s t x=>(q w' b a e s t x).congr (fun i _=>by rw [Nat.zero_add])) hn hc d;have:=l j u r;rw [Nat.zero_mul] at this;exact this
def tj (g k n l cap:Nat) (X:Nat->Rat) (L:Nat) (w:World) (h:aJ w g k X L) (a:n+l<=k) (hn:l<=3000) (hc:l<=cap) (b:cap<=maxLen) :
  Calls Tryz.prog 97 #[.slice (some ⟨g,n*3,none⟩) l cap] w fun e w'=>∃ v,e=.returned v/\dj w' w.heap.size v l (fun i=>X (n+i)) L/\w.grownBy w' none:=by
 obtain ⟨xs,c,d,f,j⟩:=h.piece n l a;exact jT g (n*3) l cap _ L w xs c d f j hn hc b
def th (b off:Nat) (X:Nat->Rat) (L:Nat) (w:World) :
  Calls Tryz.prog 97 #[.slice (some ⟨b,off,none⟩) 0 0] w fun e w'=>∃ v,e=.returned v/\dj w' w.heap.size v 0 X L/\w.grownBy w' none :=
 jT b off 0 0 X L w [] rfl (fun j u h=>by simp at h) (fun u h=>by simp at h) (fun w' g a e d c f=>⟨a,e,c,fun i hi=>O⟩) O O (by unfold maxLen;omega)
def RulE (w:World) (n k:Nat) (M:Nat->Nat->Rat) (L:Nat) (e:Ending) (w':World):Prop :=
 (∃ v1 v2 X,e=.returned (.tuple #[v1,v2,.int .i64 0])/\dj w' w.heap.size v1 n X L/\dj w' w.heap.size v2 k (fun i=>X (n+i)) L/\oF M (n+k) X/\(∀ z,oF M (n+k) z->∀ j,j<n+k->z j=X j)/\w.grownBy w' none)
 ∨ (e=.returned (.tuple #[.slice none 0 0,.slice none 0 0,.int .i64 7])/\(¬ ∃ x,oF M (n+k) x)/\w.grownBy w' none)
 ∨ (e=.returned (.tuple #[.slice none 0 0,.slice none 0 0,.int .i64 8])/\(∃ x y:Nat->Rat,oF M (n+k) x/\oF M (n+k) y/\∃ j,j<n+k/\x j≠y j)/\w.grownBy w' none)
def RulR (W:World) (base k lo m:Nat) (M:Nat->Nat->Rat) (L:Nat) (v9 v:Value) (wr:World):Prop :=
 ∃ (i:Nat) (bs cs:Nat->Nat),i<=k/\v=.int .i64 i/\cV (eC (m+1)) 79 wr base v9 (bW bs cs (lo+i))/\sX wr base (m+1) (lo+i) bs cs M L/\W.grownBy wr none
def Fy (T:Bool) (U h:Option Addr) (fl fc l p:Nat) (n:Nat) (po:Option Addr) (pc:Nat) (ps:List aA) (lv:Value) (R:Nat->Rat) (E:Nat->Nat) (L:Nat) (w:World)
  (h1:FQ w (.agg #[.bool T,.slice U fl fc,.slice h l p]) 1 L) (hp:aB w (.slice po ps.length pc) ps) (hR:cH n ps) (hl:LwAt w lv ps.length R L)
  (hP:∀ i,i<ps.length->∀ xa xb xc xd,bh L (0+R (i*4))/\bh L (aN (fun _=>0) xa (0+R (i*4)) xb-R (i*4))/\bh L (aN (aN (fun _=>0) xa (0+R (i*4))) xb (aN (fun _=>0) xa (0+R (i*4)) xb-R (i*4)) xc+R (i*4+2))
   /\ bh L (aN (aN (aN (fun _=>0) xa (0+R (i*4))) xb (aN (fun _=>0) xa (0+R (i*4)) xb-R (i*4))) xc (aN (aN (fun _=>0) xa (0+R (i*4))) xb (aN (fun _=>0) xa (0+R (i*4)) xb-R (i*4)) xc+R (i*4+2)) xd-R (i*4+2)))
  (hfit:∀ r,r<n+ps.length->∀ k j,bh L (cj (iD n ps R r) k j)) (hwh:∀ k r j,gY (4294967296^E r) (qS (iD n ps R) k r j)) (hLs:iG E (n+ps.length)<L) (hL:L<=49000000) :
  Calls Tryz.prog 61 #[(kh T (.slice U fl fc) (.slice h l p)),.agg #[.int .i64 ((n:Nat):Int),.slice po ps.length pc],lv] w fun e w'=>RulE w n ps.length (iD n ps R) L e w':=by
 have H1:=ab h1;have HP:=ab hp;have HR:=ab hR;have J:=ab hP;have hz:=ab hfit;have hA:=ab hwh;have hB:=ab hLs;have hC:=hR.lo;have kf:=hR.hi;have kk:=hR.len;have hq:1<=L:=O
 obtain ⟨kS,kb,rfl,qa,hQ,hv⟩:=hl;have hD:=ab hv;obtain ⟨M,hM⟩:=eX (iD n ps R);have HM:=ab hM;obtain ⟨m,hm⟩:=eX (n+ps.length);have K:=ab hm;have ka:m<=28:=O
 have kl:n<=m:=O
 rw [<- hM];unfold maxLen at hQ;clear h1 hp hR hP hfit hwh hLs hv hm hM;obtain ⟨W,hW⟩:=eX ((w.alloc (Obj.cells #[.bool T,.slice U fl fc,.slice h l p,.func (.func 84) #[] #[],.func (.func 85) #[] #[],.func (.func 86) #[] #[],.func (.func 87) #[] #[],.func (.func 88) #[] #[],.func (.func 89) #[] #[],.func (.func 90) #[] #[],.func (.func 91) #[] #[]] 111)).alloc (Obj.cells #[.int .i64 ((n:Nat):Int),.slice po ps.length pc] 24));have H:Hid (w.grownBy W none):=by rw [hW];exact ag (ag (ae _ _) _) _
 have ko:Hid (W.heap.size=w.heap.size+2):=by show _=_;rw [hW];simp
 have c:Hid (∀ wx,W.grownBy wx none->fU wx (w.heap.size)/\bL wx (w.heap.size) (.bool T) (.slice U fl fc) (.slice h l p)/\dP wx (w.heap.size+1) (.int .i64 ((n:Nat):Int)) (.slice po ps.length pc)):=by
  intro wx hg;obtain ⟨f1,f2⟩:=kC T U h fl fc l p (w:=W) (by rw [hW];exact ag (ae _ _) _);exact ⟨f1.k0 hg,f2.k0 hg,dP.k0 (w:=W) (by rw [hW];exact ⟨zG,zG⟩) hg⟩
 have s0:=c.out W (ae _ _);go_enter Tryz.func61,Tryz.ntmps61
 go_upto_region 2 with fail;rw [<- hW];clear hW;go_wp2;go_loopw [9,16] (fun v9 v wr=>Hid (RulR W W.heap.size n 0 m M L v9 v wr)) (fun _ v _=>n-(intOf v).toNat)
 case atStart=>exact ⟨0,fun _=>0,fun _=>0,O,rfl,mN,sX.nil ..,ae _ _⟩
 case round =>
  obtain ⟨i,P,ct,hi,rfl,z,I,Q⟩:=hrel.out;rw [Nat.zero_add] at z I;obtain ⟨oa,oc,rfl⟩:=z.1.shape;rw [bB] at z ⊢;have C:=ab z;have D:=ab I;have f:=ab Q;clear z I Q hrel s0;by_cases hlt:i<n
  ·have s0:=c.out wr f;go_wp2_with fail;refine (yw T U h fl fc l p n i po pc ps R L _ (H1.keep0 (aa H f)) (HP.keep (aa H f)) hlt O O hq O).mono ?_;rintro e w1 ⟨g,rfl,S,f1,g1⟩;rw [<- K] at f1 ⊢;rw [<- HM] at f1;have F1:=ab f1;have G1:=ab (aa f g1);have O1:=ab (C.keep0 g1);have O2:=ab (D.keep0 g1);have he:Hid ((Value.slice oa i oc).ownBlock≠some g):=fun e=>by have:=(C.1.fresh g e).2;omega
   have hf:Hid (∀ j,j<i->P j≠g):=fun j hj e=>by have:=(D.row j hj).lt;omega
   have hk:Hid (W.heap.size<=g):=by show _<=_;have:=f.out.size;omega
   have ho:Hid (W.heap.size<=w1.heap.size):=G1.out.size;clear f1 g1 s0 C D;go_wp2_with (at_builtin;refine eN (eC (m+1)) 79 (.slice none 0 0) 24 _ rfl _ _ 141 rfl W.heap.size Tryz.underlying141 Tryz.infoRow rfl (fun x=>by simp [Value.cells]) (fun u x=>by simp [eC]) (.slice oa (i) oc) (bW P ct (i)) rfl (O1.keep0 (ag (ae _ _) _)) w1.heap.size (g,m+1) rfl (by go_simp;rfl) rfl (by rw [bB];omega) O (by simp;have:=ho.out;omega) ?_)
   intro ao hu N d s G;rw [bB] at d ⊢;have RA:=ab (iW (O1.keep0 (ag (ae w1 none) _)) O (O2.keep0 (ag (ae w1 none) _)) zL (by unfold maxLen;omega) (F1.keep0 (ag (ae w1 none) _)) hk hf he s G d);have HG:Hid (W.grownBy N none):=by
    refine aw (r:=none) (aa G1 (ag (ae w1 none) _)) s (fun _ _ e=>e) (fun b hb e=>?_);have:=(O1.1.fresh b e.symm).1;omega
   clear d s G;go_wp2;go_roundw
   case rel=>exact ⟨i+1,cT P i g,cT ct i (m+1),O,zN,by rw [Nat.zero_add];exact RA.1,by rw [Nat.zero_add];exact RA.2,HG⟩
   case measure=>exact bH
  ·obtain rfl:n=i:=O
   have s0:=c.out wr f;go_wp2;go_loopw [9,29] (fun v9 v wr=>Hid (RulR W W.heap.size ps.length n m M L v9 v wr)) (fun _ v _=>ps.length-(intOf v).toNat)
   case atStart=>exact ⟨0,P,ct,O,rfl,C,D,f⟩
   case round =>
    clear C D f s0;obtain ⟨i,P,ct,hi,rfl,z,I,Q⟩:=hrel.out;obtain ⟨oa,oc,rfl⟩:=z.1.shape;rw [bB] at z ⊢;have C:=ab z;have D:=ab I;have f:=ab Q;clear z I Q hrel;by_cases hlt:i<ps.length
    ·obtain ⟨gl,rfl,qb,o0,l0,c0,o1,z,c1,o2,I,c2,o3,Q,c3,o4,l4,c4,o5,l5,c5,o6,l6,c6,o7,l7,c7,cc,f0,f1,f2,f3⟩:=hD.out i hlt;obtain ⟨x0,x1,x2,x3,x4,x5,x6,x7,x8,x9,hw,hx⟩:=cc;have A:=aa H f;have y0:=A.cell x0 Z;have y1:=A.cell x1 Z;have y2:=A.cell x2 Z;have y3:=A.cell x3 Z;have y4:=A.cell x4 Z;have y5:=A.cell x5 Z;have y6:=A.cell x6 Z;have y7:=A.cell x7 Z;have y8:=A.cell x8 Z;have y9:=A.cell x9 Z;have hE:=A.cell hw Z;have hF:=A.cell hx Z;have K0:=ab f0;have K1:=ab f1;have K2:=ab f2;have K3:=ab f3;clear x0 x1 x2 x3 x4 x5 x6 x7 x8 x9 hw hx f0 f1 f2 f3 A;obtain ⟨xa,xb,xc,xd,ea,eb,ec,ed,ha,hb,hc,hd⟩:=HR.out.ends ps[i] (List.getElem_mem hlt);have V:=ab (And.intro ea (And.intro eb (And.intro ec ed)));clear ea eb ec ed;have s0:=c.out wr f;go_upto_region 10 with fail;obtain ⟨t,a⟩:=eX (wr.alloc (Obj.cells #[.bool (rB (R (i*4))),.slice o0 l0 c0,.slice o1 z c1,.bool (rB (R (i*4+1))),.slice o2 I c2,.slice o3 Q c3,.bool (rB (R (i*4+2))),.slice o4 l4 c4,.slice o5 l5 c5,.bool (rB (R (i*4+3))),.slice o6 l6 c6,.slice o7 l7 c7] 116));have G2:Hid (wr.grownBy t none):=by rw [a];exact ag (ae _ _) _
     have z0:t.cell? ⟨wr.heap.size,0,none⟩=some (.bool (rB (R (i*4)))):=by rw [a];go_simp
     have z1:t.cell? ⟨wr.heap.size,1,none⟩=some (.slice o0 l0 c0):=by rw [a];go_simp
     have z2:t.cell? ⟨wr.heap.size,2,none⟩=some (.slice o1 z c1):=by rw [a];go_simp
     have z3:t.cell? ⟨wr.heap.size,3,none⟩=some (.bool (rB (R (i*4+1)))):=by rw [a];go_simp
     have z4:t.cell? ⟨wr.heap.size,4,none⟩=some (.slice o2 I c2):=by rw [a];go_simp
     have z5:t.cell? ⟨wr.heap.size,5,none⟩=some (.slice o3 Q c3):=by rw [a];go_simp
     have z6:t.cell? ⟨wr.heap.size,6,none⟩=some (.bool (rB (R (i*4+2)))):=by rw [a];go_simp
     have z7:t.cell? ⟨wr.heap.size,7,none⟩=some (.slice o4 l4 c4):=by rw [a];go_simp
     have z8:t.cell? ⟨wr.heap.size,8,none⟩=some (.slice o5 l5 c5):=by rw [a];go_simp
     have z9:t.cell? ⟨wr.heap.size,9,none⟩=some (.bool (rB (R (i*4+3)))):=by rw [a];go_simp
     have hG:t.cell? ⟨wr.heap.size,10,none⟩=some (.slice o6 l6 c6):=by rw [a];go_simp
     have hH:t.cell? ⟨wr.heap.size,11,none⟩=some (.slice o7 l7 c7):=by rw [a];go_simp
     rw [<- a];clear a s0 y0 y1 y2 y3 y4 y5 y6 y7 y8 y9 hE hF;have G3:=ab (aa f G2);have GA:=ab (aa H G3);have s0:=c.out t G3;go_wp2_with fail;refine (yB T U h fl fc l p n i xa xb xc xd (.slice po ps.length pc) ps (R (i*4)) (R (i*4+1)) (R (i*4+2)) (R (i*4+3)) o0 o4 o6 o2 o1 o5 o7 o3 l0 c0 z c1 l4 c4 l5 c5 l6 c6 l7 c7 I c2 Q c3 L t (HP.keep GA) hlt V.1 V.2.1 V.2.2.1 V.2.2.2 ha hb hc hd (K0.keep0 GA) (K1.keep0 GA) (K2.keep0 GA) (K3.keep0 GA) O O O (J i hlt xa xb xc xd).1 (J i hlt xa xb xc xd).2.1 (J i hlt xa xb xc xd).2.2.1 (J i hlt xa xb xc xd).2.2.2).mono ?_;rintro e w3 ⟨g,rfl,S,f1,g1⟩;rw [yM R hC hlt V.1 V.2.1 V.2.2.1 V.2.2.2,<- HM,<- K] at f1;rw [<- K];have F1:=ab f1;have G1:=ab (aa G3 g1);have GR:=aa G2 g1;have O1:=ab (C.keep0 GR);have O2:=ab (D.keep0 GR);have kw:wr.heap.size<=g:=Nat.le_trans G2.size S;have he:Hid ((Value.slice oa (n+i) oc).ownBlock≠some g):=fun e=>by have:=(C.1.fresh g e).2;omega
     have hf:Hid (∀ j,j<n+i->P j≠g):=fun j hj e=>by have:=(D.row j hj).lt;omega
     have hk:Hid (W.heap.size<=g):=by show _<=_;have:=f.out.size;omega
     have ho:Hid (W.heap.size<=w3.heap.size):=G1.out.size;clear f1 g1 GR s0 C D z0 z1 z2 z3 z4 z5 z6 z7 z8 z9 hG hH;go_wp2_with (at_builtin;refine eN (eC (m+1)) 79 (.slice none 0 0) 24 _ rfl _ _ 141 rfl W.heap.size Tryz.underlying141 Tryz.infoRow rfl (fun x=>by simp [Value.cells]) (fun u x=>by simp [eC]) (.slice oa (n+i) oc) (bW P ct (n+i)) rfl (O1.keep0 (ag (ae _ _) _)) w3.heap.size (g,m+1) rfl (by go_simp;rfl) rfl (by rw [bB];omega) O (by simp;have:=ho.out;omega) ?_)
     intro ao hu N d s G;rw [bB] at d ⊢;have RA:=ab (iW (O1.keep0 (ag (ae w3 none) _)) O (O2.keep0 (ag (ae w3 none) _)) zL (by unfold maxLen;omega) (F1.keep0 (ag (ae w3 none) _)) hk hf he s G d);have HG:Hid (W.grownBy N none):=by
      refine aw (r:=none) (aa G1 (ag (ae w3 none) _)) s (fun _ _ e=>e) (fun b hb e=>?_);have:=(O1.1.fresh b e.symm).1;omega
     clear d s G;go_wp2;go_roundw
     case rel=>exact ⟨i+1,cT P (n+i) g,cT ct (n+i) (m+1),O,zN,RA.1,RA.2,HG⟩
     case measure=>exact bH
    ·obtain rfl:ps.length=i:=O
     obtain ⟨br,kc,e2,q1,q2,q3,q4⟩:=C.out.mat O O D;rw [K] at q4;simp only [Value.slice.injEq,true_and] at e2;obtain ⟨rfl,rfl⟩:=e2;have Q3:=ab q3;have Q4:=ab q4;have hr:=Ag (n+ps.length) L O E hB;have Y:=ab hr;clear q3 q4 hr C D;have s0:=c.out wr f;go_wp2_with fail;refine (rows_at T U h fl fc l p br (n+ps.length) oc P ct M L (2*L+1) (fun r=>4294967296^E r) wr Q4 (H1.keep0 (aa H f)) O O q2 Q3 hq O (fun i hi k _ j _=>by rw [HM];exact hz i hi k j) (fun r=>Nat.one_le_pow _ _ zD) (fun r j=>by rw [HM];exact hA _ r j) Y (most_sq _ L _ O Y) O O).mono ?_;rintro e N (⟨g,X,rfl,S,fX,gX,q,hy⟩ | ⟨rfl,gX,q⟩ | ⟨rfl,gX,q⟩)
     ·have FX:=ab fX;have G5:=ab (aa f gX);have B:=ab q;have hs:=ab hy;clear fX gX q hy s0 S;have s11:=(c N G5).2.2.1;have CN:Hid (∀ wx,N.grownBy wx none->wx.cell? ⟨w.heap.size+1,0,none⟩=some (.int .i64 ((n:Nat):Int))):=fun wx hg=>hg.cell s11 Z
      have GG:N.grownBy N none:=ae _ _;have kz:(0:Int)<=(n:Int):=O
      have kF:(n:Int)<=((n:Int)+(ps.length:Int)):=O
      have y:Hid (w.heap.size<=N.heap.size):=(aa H G5).size;by_cases hI:ps.length=0
      ·have hJ:=ab hI;have kH:(n+ps.length=n)=True:=eq_true O;go_wp2_with fail;go_region_held3 (fun w'=>w'.cell? ⟨w.heap.size+1,0,none⟩=some (.int .i64 ((n:Nat):Int))) (go_keep)
        (first | (go_at_call_of 97 (Value.slice (some ⟨g,0,none⟩) n n);refine (mz g (n+ps.length) n _ X L _ (FX.keep0 (gx GG)) O O O (by unfold maxLen;omega)).mono ?_;rintro e wa ⟨va,rfl,pa,ga⟩;have pa:=pa.low (Nat.le_trans y GG.size);obtain ⟨hS,hT,rfl,_⟩:=id pa;have F:=aa zQ ga;(try have pb:=pb.keep0 F);clear F;have GG:=aa (gx GG) ga;have hK:=CN.out wa GG) | (go_at_call 97;refine (th g _ (fun i=>X (n+i)) L _).mono ?_;rintro e wb ⟨vb,rfl,pb,gb⟩;have pb:=pb.low (Nat.le_trans y GG.size);obtain ⟨hX,hY,rfl,_⟩:=id pb;have F:=aa zQ gb;(try have pa:=pa.keep0 F);clear F;have GG:=aa (gx GG) gb;have hN:=CN.out wb GG))
       all_goals
        have PA:=ab pa;have PB:=ab pb;have GF:=ab GG;clear pa pb GG;go_wp2;go_ret3
        exact .inl ⟨_,_,X,rfl,PA.keep0 zE,(by rw [hJ];exact PB.keep0 zE),B,hs,aa (aa H G5) (by first | exact GF | exact aa GF aC)⟩
      ·have kN:(n+ps.length=n)=False:=eq_false O;go_wp2_with fail;go_region_held3 (fun w'=>w'.cell? ⟨w.heap.size+1,0,none⟩=some (.int .i64 ((n:Nat):Int))) (go_keep)
        (first | (go_at_call_of 97 (Value.slice (some ⟨g,0,none⟩) n (n+ps.length));refine (mz g (n+ps.length) n _ X L _ (FX.keep0 (gx GG)) O O O (by unfold maxLen;omega)).mono ?_;rintro e wa ⟨va,rfl,pa,ga⟩;have pa:=pa.low (Nat.le_trans y GG.size);obtain ⟨hS,hT,rfl,_⟩:=id pa;have F:=aa zQ ga;(try have pb:=pb.keep0 F);clear F;have GG:=aa (gx GG) ga;have hK:=CN.out wa GG) | (go_at_call 97;refine (tj g (n+ps.length) n ps.length _ X L _ (FX.keep0 (gx GG)) O O O (by unfold maxLen;omega)).mono ?_;rintro e wb ⟨vb,rfl,pb,gb⟩;have pb:=pb.low (Nat.le_trans y GG.size);obtain ⟨hX,hY,rfl,_⟩:=id pb;have F:=aa zQ gb;(try have pa:=pa.keep0 F);clear F;have GG:=aa (gx GG) gb;have hN:=CN.out wb GG))
       all_goals
        have PA:=ab pa;have PB:=ab pb;have GF:=ab GG;clear pa pb GG;go_wp2;go_ret3
        exact .inl ⟨_,_,X,rfl,PA.keep0 zE,PB.keep0 zE,B,hs,aa (aa H G5) (by first | exact GF | exact aa GF aC)⟩
     ·have G5:=ab (aa f gX);have B:=ab q;clear gX q s0;go_wp2;go_ret3
      exact .inr (.inl ⟨rfl,B,aa H G5⟩)
     ·have G5:=ab (aa f gX);have B:=ab q;clear gX q s0;go_wp2;go_ret3
      exact .inr (.inr ⟨rfl,B,aa H G5⟩)
attribute [local simp] fU bL eJ dP
def yT (f g:Nat->Rat):∀ k,(∀ i,i<k->f i=g i)->jy f k=jy g k:=by
 intro k;induction k with
 | zero=>intro _;rfl
 | succ k ih=>intro h;rw [lE,lE,ih (fun i hi=>h i O),h k O]
def bd.congr (a:cH n ps) {V I b c:Nat->Rat} (h:bd n ps V I) (hV:∀ j,j<n->V j=b j) (d:∀ i,i<ps.length->I i=c i):bd n ps b c:=by
 have e:=a.lo;refine ⟨by rw [<- hV 0 O];exact h.gnd,fun r p hn=>?_,fun i hi=>?_⟩
 ·rw [<- h.node r p hn];exact yT _ _ _ (fun i hi=>by rw [d i hi])
 ·obtain ⟨q,s,t,u,f,g,k,l,ha,hb,hc,hd⟩:=a.ends ps[i] (List.getElem_mem hi);have:=h.part i hi;rw [d i hi,hV _ (by rw [f];simpa using ha),hV _ (by rw [g];simpa using hb),hV _ (by rw [k];simpa using hc),hV _ (by rw [l];simpa using hd)] at this;exact this
def qH (b:cH n ps) {V I:Nat->Rat} (h:bd n ps V I):∃ x,oF (kG n ps) (n+ps.length) x/\(∀ j,j<n->x j=V j)/\∀ i,i<ps.length->x (n+i)=I i:=by
 have c:∀ j,j<n->(fun j=>if j<n then V j else if j<n+ps.length then I (j-n) else -1:Nat->Rat) j=V j:=fun j a=>by simp only;rw [if_pos a]
 have d:∀ i,i<ps.length->(fun j=>if j<n then V j else if j<n+ps.length then I (j-n) else -1:Nat->Rat) (n+i)=I i:=fun i hi=>by simp only;rw [if_neg O,if_pos O,show n+i-n=i by omega]
 refine ⟨fun j=>if j<n then V j else if j<n+ps.length then I (j-n) else -1,(pf b _).2 ⟨?_,?_⟩,c,d⟩
 ·rw [if_neg O,if_neg O]
 ·exact h.congr b (fun j a=>(c j a).symm) (fun i hi=>(d i hi).symm)
def ib (ps:List aA):Nat->Rat:=fun j=>match ps[j / 4]? with
 | some p=>if j % 4=0 then bO p.kind p.q else if j % 4=1 then bP p.kind p.q else if j % 4=2 then cA p.kind p.q else bQ p.kind p.q
 | none=>0
def oQ (hi:i<ps.length):ib ps (i*4)=bO ps[i].kind ps[i].q/\ib ps (i*4+1)=bP ps[i].kind ps[i].q/\ib ps (i*4+2)=cA ps[i].kind ps[i].q/\ib ps (i*4+3)=bQ ps[i].kind ps[i].q:=by
 unfold ib;have a:i*4 / 4=i:=O
 have b:(i*4+1) / 4=i:=O
 have c:(i*4+2) / 4=i:=O
 have d:(i*4+3) / 4=i:=O
 have e:i*4 % 4=0:=O
 have f:(i*4+1) % 4=1:=O
 have g:(i*4+2) % 4=2:=O
 have h:(i*4+3) % 4=3:=O
 simp only [a,b,c,d,e,f,g,h,zX hi];exact ⟨rfl,rfl,rfl,rfl⟩
def Ei (hi:i<ps.length) (j:Nat) (e:j<(i+1)*4):yq (ib ps) i (bO ps[i].kind ps[i].q) (bP ps[i].kind ps[i].q) (cA ps[i].kind ps[i].q) (bQ ps[i].kind ps[i].q) j=ib ps j:=by
 obtain ⟨a,b,c,d⟩:=oQ hi;unfold yq;by_cases h:j<i*4
 ·rw [if_pos h]
 ·rw [if_neg h];have hc:j=i*4∨j=i*4+1∨j=i*4+2∨j=i*4+3:=O
  rcases hc with rfl | rfl | rfl | rfl
  ·rw [if_pos rfl,a]
  ·rw [if_neg O,if_pos rfl,b]
  ·rw [if_neg O,if_neg O,if_pos rfl,c]
  ·rw [if_neg O,if_neg O,if_neg O,d]
def Fx (n:Nat) (ps:List aA):iD n ps (ib ps)=kG n ps:=by
 funext r
 unfold iD kG;by_cases a:r=0
 ·rw [if_pos a,if_pos a]
 ·rw [if_neg a,if_neg a];by_cases b:r<n
  ·rw [if_pos b,if_pos b]
  ·rw [if_neg b,if_neg b];by_cases c:r-n<ps.length
   ·obtain ⟨d,e,f,g⟩:=oQ c;rw [zX c];simp only [d,e,f,g];rfl
   ·rw [List.getElem?_eq_none O]
def n8 {qa qf ql qs:Rat} {a b c d e f g h:Option Addr} {j c0 k c1 l c2 p c3 q c4 r c5 s t u x:Nat} (y:FQ w (.agg #[.bool (rB qa),.slice a j c0,.slice b k c1]) qa L) (z:FQ w (.agg #[.bool (rB qf),.slice c l c2,.slice d p c3]) qf L) (A:FQ w (.agg #[.bool (rB ql),.slice e q c4,.slice f r c5]) ql L) (B:FQ w (.agg #[.bool (rB qs),.slice g s t,.slice h u x]) qs L) :
  fp w [.bool (rB qa),.slice a j c0,.slice b k c1,.bool (rB qf),.slice c l c2,.slice d p c3,.bool (rB ql),.slice e q c4,.slice f r c5,.bool (rB qs),.slice g s t,.slice h u x] 4 (fun i=>if i=0 then qa else if i=1 then qf else if i=2 then ql else qs) L:=by
 refine ⟨rfl,fun i hi=>?_⟩;have hc:i=0∨i=1∨i=2∨i=3:=O
 rcases hc with rfl | rfl | rfl | rfl
 ·exact ⟨_,_,_,_,_,_,rfl,rfl,rfl,y⟩
 ·exact ⟨_,_,_,_,_,_,rfl,rfl,rfl,z⟩
 ·exact ⟨_,_,_,_,_,_,rfl,rfl,rfl,A⟩
 ·exact ⟨_,_,_,_,_,_,rfl,rfl,rfl,B⟩
def A9 (w:World) (ys:List Value) (T:TypeId) (j:Nat) (u:Value) (h:ys[j]? = some u):(w.alloc (Obj.cells ys.toArray T)).cell? ⟨w.heap.size,j,none⟩=some u:=by
 simp only [World.cell?,heap_alloc_new];rw [List.getElem?_toArray];exact h
def Tryz.infoLaw:(Tryz.prog.info? 116).map (fun i=>(i.zero,i.size,i.bytes))=some (some (.agg #[.bool false,.slice none 0 0,.slice none 0 0,.bool false,.slice none 0 0,.slice none 0 0,.bool false,.slice none 0 0,.slice none 0 0,.bool false,.slice none 0 0,.slice none 0 0]),12,224):=zK
def NetE (w:World) (n:Nat) (ps:List aA) (L:Nat) (e:Ending) (w':World):Prop :=
 (∃ v1 v2 V I,e=.returned (.tuple #[v1,v2,.int .i64 0])/\dj w' w.heap.size v1 n V L/\dj w' w.heap.size v2 ps.length I L/\bd n ps V I/\(∀ V' I',bd n ps V' I'->(∀ j,j<n->V' j=V j)/\∀ i,i<ps.length->I' i=I i)/\w.grownBy w' none)
 ∨ (e=.returned (.tuple #[.slice none 0 0,.slice none 0 0,.int .i64 7])/\(¬ ∃ V I,bd n ps V I)/\w.grownBy w' none)
 ∨ (e=.returned (.tuple #[.slice none 0 0,.slice none 0 0,.int .i64 8])/\(∃ V I V' I',bd n ps V I/\bd n ps V' I'/\((∃ j,j<n/\V j≠V' j)∨∃ i,i<ps.length/\I i≠I' i))/\w.grownBy w' none)
end Go.Proofs.YtbomdfhdocaagaaGreatDoor
