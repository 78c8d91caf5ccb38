/- Contracts. -/
import Derived.Test.YtkbmbmdemajoaaaGreatDoorXPo
namespace Go.Proofs.YtkbmbmdemajoaaaGreatDoor
open Go.RowKit
set_option linter.unusedVariables false
set_option linter.unusedSimpArgs false
set_option maxHeartbeats 8000000
set_option maxRecDepth 10000
variable {w:World} {L:Nat} {R:Nat->Rat}
def PW (w w':World) (b1 b2:Nat):Prop:=∃ w1,aI w w1 b1/\aI w1 w' b2
theorem PW.gr {W a:World} {c d:Nat} (h:PW w a c d) (g:W.grownBy w none) (j:W.heap.size<=c) (k:W.heap.size<=d):W.grownBy a none:=by
 obtain ⟨w1,f,i⟩:=h;exact aw (r:=none) (aw (r:=none) g f.1 (fun _ _ e=>e) (fun b hb e=>by have:=zJ e;omega)) i.1 (fun _ _ e=>e) (fun b hb e=>by have:=zJ e;omega)
theorem PW.row {a:World} {c d b n:Nat} (h:PW w a c d) (i:aH w b n R L) (j:b≠c) (k:b≠d):aH a b n R L:=by
 obtain ⟨w1,f,g⟩:=h;exact (i.keep f.1 f.2 (fun e=>j (zJ e))).keep g.1 g.2 (fun e=>k (zJ e))
theorem kQ {b i j:Nat} {a:Array Value} {e:TypeId} (hb:w.heap[b]? = some (.cells a e (0,0))) (c:j<a.size) (v:Value):∃ u,(w.setCell ⟨b,i,none⟩ v).cell? ⟨b,j,none⟩=some u:=by
 have:=heap_setCell_same w b i a e v hb;simp only [World.cell?,this];exact ⟨_,Array.getElem?_eq_getElem (by simpa using c)⟩
theorem bT.set_some {a m n:Nat} {bs cs:Nat->Nat} {R:Nat->Nat->Rat} (h:bT w a m n bs cs R L) {i j:Nat} (b:j<m) (v:Value):∃ u,(w.setCell ⟨a,i,none⟩ v).cell? ⟨a,j,none⟩=some u:=by
 obtain ⟨c,e,hb,hc⟩:=h.top;exact kQ hb (zZ (hc j b)).1 v
theorem cH.set_some {bo m:Nat} {o:Nat->Nat} (h:cH w bo m o) {i j:Nat} (a:j<m) (v:Value):∃ u,(w.setCell ⟨bo,i,none⟩ v).cell? ⟨bo,j,none⟩=some u:=by
 obtain ⟨b,e,hb,hc⟩:=h;exact kQ hb (zZ (hc j a)).1 v
def Chos (m done:Nat) (R:Nat->Nat->Rat) (o:Nat->Nat) (a b:Int) (f:Bool):Prop :=
 f=true->∃ x y:Nat,a=(x:Int)/\b=(y:Int)/\done<=x/\x<m/\done<=y/\y<m/\R x (o y)≠0
def PivR (W:World) (m done:Nat) (R:Nat->Nat->Rat) (o:Nat->Nat) (v11 v12 v13 v14 v15 v:Value) (wr:World):Prop :=
 ∃ (i:Nat) (a b s t:Int) (f:Bool),done<=i/\i<=m/\v=.int .i64 i/\v11=.int .i64 a/\v12=.int .i64 b/\v13=.int .i64 s/\v14=.int .i64 t/\v15=.bool f/\Chos m done R o a b f
  /\ (f=false->∀ x,done<=x->x<i->∀ y,done<=y->y<m->R x (o y)=0)/\W.grownBy wr none
def PinR (W:World) (m done i:Nat) (R:Nat->Nat->Rat) (o:Nat->Nat) (v11 v12 v13 v14 v15 v:Value) (wr:World):Prop :=
 ∃ (k:Nat) (a b s t:Int) (f:Bool),done<=k/\k<=m/\v=.int .i64 k/\v11=.int .i64 a/\v12=.int .i64 b/\v13=.int .i64 s/\v14=.int .i64 t/\v15=.bool f/\Chos m done R o a b f
  /\ (f=false->∀ x,done<=x->x<i->∀ y,done<=y->y<m->R x (o y)=0)/\(f=false->∀ y,done<=y->y<k->R i (o y)=0)/\W.grownBy wr none
def PivE (w:World) (br bo m n done:Nat) (bs cs:Nat->Nat) (R:Nat->Nat->Rat) (o:Nat->Nat) (L:Nat) (e:Ending) (w':World):Prop :=
 (∃ a b,done<=a/\a<m/\done<=b/\b<m/\R a (o b)≠0/\e=.returned (.bool true)/\bT w' br m n (fun i=>bs (aM done a i)) (fun i=>cs (aM done a i)) (fun i=>R (aM done a i)) L/\cH w' bo m (fun i=>o (aM done b i))/\PW w w' br bo)
 ∨ (e=.returned (.bool false)/\(∀ i,done<=i->i<m->∀ k,done<=k->k<m->R i (o k)=0)/\w.grownBy w' none)
theorem qt (fb:Bool) (fo r:Option Addr) (fl fc u z:Nat) (p bo m n cap co done:Nat) (bs cs:Nat->Nat) (R:Nat->Nat->Rat) (o:Nat->Nat) (L:Nat) (w:World)
  (hM:bT w p m n bs cs R L) (hO:cH w bo m o) (ho:∀ k,k<m->o k<n) (hd:done<m) (hm:m<=1000) (hn:n<=2000) (hc:m<=cap) (hc2:cap<=maxLen) (hco:m<=co) (hco2:co<=maxLen) (hL:L<=100000000) :
  Calls Tryz.prog 112 #[(jP fb (.slice fo fl fc) (.slice r u z)),.slice (some ⟨p,0,none⟩) m cap,.slice (some ⟨bo,0,none⟩) m co,.int .i64 ((done:Nat):Int)] w fun e d=>PivE w p bo m n done bs cs R o L e d:=by
 have hB:=ab hc2;have U:=ab hco2;unfold maxLen at hc2 hco2;have HM:=ab hM;have HO:=ab hO;have V:=ab ho;have kk:=hM.lt;have kl:=hO.lt;have hC:Hid (0<n):=by show _<_;have:=ho done hd;omega
 have J:=ab (hM.ne_int O hC (hO.at 0 O));clear hM hO ho;obtain ⟨W,hW⟩:=eX (w.alloc (Obj.cells #[.bool fb,.slice fo fl fc,.slice r u z,.func (.func 60) #[] #[],.func (.func 61) #[] #[],.func (.func 62) #[] #[],.func (.func 63) #[] #[],.func (.func 64) #[] #[],.func (.func 65) #[] #[],.func (.func 66) #[] #[],.func (.func 67) #[] #[]] 87));have GW:Hid (w.grownBy W none):=by rw [hW];exact ag (ae _ _) _
 have kH:Hid (W.heap.size=w.heap.size+1):=by show _=_;rw [hW];simp
 have D:Hid (∀ wx,W.grownBy wx none->wx.cell? ⟨w.heap.size,0,none⟩=some (.bool fb)/\wx.cell? ⟨w.heap.size,1,none⟩=some (.slice fo fl fc)/\wx.cell? ⟨w.heap.size,2,none⟩=some (.slice r u z)/\wx.cell? ⟨w.heap.size,3,none⟩=some (.func (.func 60) #[] #[])/\wx.cell? ⟨w.heap.size,4,none⟩=some (.func (.func 61) #[] #[])/\wx.cell? ⟨w.heap.size,5,none⟩=some (.func (.func 62) #[] #[])/\wx.cell? ⟨w.heap.size,6,none⟩=some (.func (.func 63) #[] #[])/\wx.cell? ⟨w.heap.size,7,none⟩=some (.func (.func 64) #[] #[])/\wx.cell? ⟨w.heap.size,8,none⟩=some (.func (.func 65) #[] #[])/\wx.cell? ⟨w.heap.size,9,none⟩=some (.func (.func 66) #[] #[])/\wx.cell? ⟨w.heap.size,10,none⟩=some (.func (.func 67) #[] #[])):=by
  intro wx hg;rw [hW] at hg;exact ⟨hg.cell zG Z,hg.cell zG Z,hg.cell zG Z,hg.cell zG Z,hg.cell zG Z,hg.cell zG Z,hg.cell zG Z,hg.cell zG Z,hg.cell zG Z,hg.cell zG Z,hg.cell zG Z⟩
 obtain ⟨s0,s1,s2,s3,s4,s5,s6,s7,s8,s9,s10⟩:=D.out W (ae _ _);go_enter Tryz.func112,Tryz.ntmps112
 go_upto_region 1 with fail;rw [<- hW];clear hW;go_wp2_with fail;refine (oV fb fo r fl fc u z p bo m n cap co done bs cs R o L W (HM.keep0 GW) (HO.keep0 GW) V hd hm hn hc hB hco U).mono ?_;rintro e W1 ⟨g1,g2,xs,ys,rfl,q1,q2,q3,q4,q5,q6,q7⟩;have A1:=ab q5;have A2:=ab q6;have G1:=ab q7;have GA:=ab (aa GW q7);clear q1 q2 q5 q6 q7 s0 s1 s2 s3 s4 s5 s6 s7 s8 s9 s10;have M1:=ab (HM.keep0 GA);have O1:=ab (HO.keep0 GA);go_wp2;go_loopw [11,12,13,14,15,16] (fun v11 v12 v13 v14 v15 v wr=>Hid (PivR W1 m done R o v11 v12 v13 v14 v15 v wr)) (fun _ _ _ _ _ v _=>m-(intOf v).toNat)
 case atStart=>exact ⟨done,0,0,0,0,false,O,O,rfl,rfl,rfl,rfl,rfl,rfl,nofun,(fun _ x h1 h2=>O),ae _ _⟩
 case round =>
  obtain ⟨i,a,b,s,t,f,hT,hi,rfl,rfl,rfl,rfl,rfl,rfl,l1,l2,l3⟩:=hrel.out;have E:=ab l1;have F:=ab l2;have A:=ab l3;clear l1 l2 l3 hrel;by_cases hlt:i<m
  ·go_wp2;go_loopw [11,12,13,14,15,17] (fun v11 v12 v13 v14 v15 v wx=>Hid (PinR W1 m done i R o v11 v12 v13 v14 v15 v wx)) (fun _ _ _ _ _ v _=>m-(intOf v).toNat)
   case atStart=>exact ⟨done,a,b,s,t,f,O,O,rfl,rfl,rfl,rfl,rfl,rfl,E,F,(fun _ y h1 h2=>O),A⟩
   case round =>
    clear E F A;obtain ⟨k,a,b,s,t,f,hX,hk,rfl,rfl,rfl,rfl,rfl,rfl,l1,l2,l3,l4⟩:=hrel.out;have E:=ab l1;have F:=ab l2;have A:=ab l3;have G:=ab l4;clear l1 l2 l3 l4 hrel;by_cases K:k<m
    ·have g:=ab (M1.keep0 G);have OO:=ab (O1.keep0 G);have ci:=(g.cell i hlt).1;have ck:=OO.out.at k K;have X:=V.out k K;obtain ⟨kF,hs⟩:=g.out.cap i hlt;unfold maxLen at hs;obtain ⟨q,hq⟩:=eX (R i (o k));have HQ:=ab hq;obtain ⟨xo,xl,xc,yo,yl,yc,c0,c1,c2,c3,_⟩:=(g.row i hlt).at (o k) X;rw [<- hq] at c0 c3;have X3:=ab c3;have M:Hid (wr.cell? ⟨g1,i,none⟩=some (.int .i64 (xs[i]'O))/\wr.cell? ⟨g2,k,none⟩=some (.int .i64 (ys[k]'O))):=⟨(A1.keep0 G).cell i O,(A2.keep0 G).cell k O⟩;obtain ⟨hu,H⟩:=eX (xs[i]'O);obtain ⟨hv,I⟩:=eX (ys[k]'O);rw [<- H,<- I] at M;have CX:Hid (∀ wx,wr.grownBy wx none->wx.cell? ⟨p,i,none⟩=some (.slice (some ⟨bs i,0,none⟩) n (cs i))/\wx.cell? ⟨bo,k,none⟩=some (.int .i64 ((o k:Nat):Int))/\wx.cell? ⟨bs i,o k*3,none⟩=some (.bool (rB q))/\wx.cell? ⟨bs i,o k*3+1,none⟩=some (.slice xo xl xc)/\wx.cell? ⟨bs i,o k*3+2,none⟩=some (.slice yo yl yc)):=by
      intro wx hg;exact ⟨hg.cell ci Z,hg.cell ck Z,hg.cell c0 Z,hg.cell c1 Z,hg.cell c2 Z⟩
     clear c0 c1 c2 c3 ci ck hq H I;have GG:wr.grownBy wr none:=ae _ _;obtain ⟨s0,s1,s2,s3,s4⟩:=CX.out wr GG;have ko:(0:Int)<=((o k:Nat):Int):=O
     have kz:((o k:Nat):Int)<(n:Int):=O
     have kN:(0:Int)<=(k:Int):=O
     have qa:(0:Int)<=(i:Int):=O
     have qb:(k:Int)<(m:Int):=O
     have qc:(i:Int)<(m:Int):=O
     have Y:p<wr.heap.size:=g.out.lt;have he:bo<wr.heap.size:=OO.out.lt;have hl:bs i<wr.heap.size:=(g.row i hlt).lt;have hD:wr.heap.size≠p:=O
     have hE:wr.heap.size≠bo:=O
     have hF:wr.heap.size≠bs i:=O
     go_wp2;go_cut [18] (fun s18 wx=>Hid (∃ gs,s18=.pointer (some ⟨gs,0,none⟩)/\wr.heap.size<=gs/\aH wx gs 1 (fun _=>q) L/\wr.grownBy wx none))
     case first =>
      go_region_held3 (fun d=>d.cell? ⟨p,i,none⟩=some (.slice (some ⟨bs i,0,none⟩) n (cs i))/\d.cell? ⟨bo,k,none⟩=some (.int .i64 ((o k:Nat):Int))/\d.cell? ⟨bs i,o k*3,none⟩=some (.bool (rB q))/\d.cell? ⟨bs i,o k*3+1,none⟩=some (.slice xo xl xc)/\d.cell? ⟨bs i,o k*3+2,none⟩=some (.slice yo yl yc)) (go_keep) (fail)
      all_goals (go_wp2_with fail;go_meet;exact ⟨_,rfl,zL,(mB X3).keep0 aA,aj (ag (ae _ _) _) 1⟩)
     case rest =>
      obtain ⟨gs,rfl,yv,f2,hw⟩:=hcut.out;have F2:=ab f2;have G2:=ab hw;obtain ⟨so,sl,sc,hx,tl,tc,d0,d1,d2,d3,_⟩:=f2.var;have D3:=ab d3;clear hcut s0 s1 s2 s3 s4 f2 hw GG CX X3 hD hE hF Y he hl;have CY:Hid (∀ wx,wc.grownBy wx none->wx.cell? ⟨w.heap.size,8,none⟩=some (.func (.func 65) #[] #[])/\wx.cell? ⟨w.heap.size,10,none⟩=some (.func (.func 67) #[] #[])/\wx.cell? ⟨gs,0,none⟩=some (.bool (rB q))/\wx.cell? ⟨gs,1,none⟩=some (.slice so sl sc)/\wx.cell? ⟨gs,2,none⟩=some (.slice hx tl tc)/\wx.cell? ⟨g1,i,none⟩=some (.int .i64 hu)/\wx.cell? ⟨g2,k,none⟩=some (.int .i64 hv)):=by
       intro wx hg;obtain ⟨b0,b1,b2,b3,b4,b5,b6,b7,b8,b9,hY⟩:=D.out wx (aa G1 (aa G (aa G2 hg)));exact ⟨b8,hY,hg.cell d0 Z,hg.cell d1 Z,hg.cell d2 Z,hg.cell (G2.cell M.1 Z) Z,hg.cell (G2.cell M.2 Z) Z⟩
      clear d0 d1 d2 d3;obtain ⟨s0,s1,s2,s3,s4,s5,s6⟩:=CY.out wc (ae _ _);go_wp2_with fail;refine (bd _ q L _ D3).mono ?_;rintro e w3 ⟨rfl,g3⟩;have G3:=ab g3;clear g3 s0 s1 s2 s3 s4 s5 s6;by_cases S:q=0
      ·have h:decide (q=0)=true:=decide_eq_true S;rw [h];have HZ:=ab S;clear S h;go_wp2;go_roundw
       case rel =>
        refine ⟨k+1,a,b,s,t,f,O,O,zN,rfl,rfl,rfl,rfl,rfl,E,F,fun e y h1 h2=>?_,aa G (aa G2 G3)⟩;by_cases e2:y=k
        ·rw [e2,<- HQ];exact HZ
        ·exact A e y h1 O
       case measure=>simp [intOf];omega
      ·have h:decide (q=0)=false:=decide_eq_false S;rw [h];have HZ:=ab S;clear S h;have GG:w3.grownBy w3 none:=ae _ _;obtain ⟨s0,s1,s2,s3,s4,s5,s6⟩:=CY.out w3 G3;go_wp2_with fail;go_cut [19,20] (fun s19 s20 wx=>Hid (∃ s' t':Int,s19=.int .i64 s'/\s20=.int .i64 t'/\w3.grownBy wx none))
       case first =>
        go_region_held3 (fun d=>d.cell? ⟨w.heap.size,8,none⟩=some (.func (.func 65) #[] #[])/\d.cell? ⟨w.heap.size,10,none⟩=some (.func (.func 67) #[] #[])/\d.cell? ⟨gs,0,none⟩=some (.bool (rB q))/\d.cell? ⟨gs,1,none⟩=some (.slice so sl sc)/\d.cell? ⟨gs,2,none⟩=some (.slice hx tl tc)/\d.cell? ⟨g1,i,none⟩=some (.int .i64 hu)/\d.cell? ⟨g2,k,none⟩=some (.int .i64 hv)) (go_keep)
         (first | (go_at_call 67;refine (Cx _ _ _ _ L _ (D3.keep0 (aa G3 zF)) O).mono ?_;rintro e wa ⟨ka,rfl,jc,ga⟩;have GG:w3.grownBy wa none:=aa zF ga;obtain ⟨a0,a1,a2,a3,a4,a5,a6⟩:=CY.out wa (aa G3 GG)))
        all_goals (go_wp2_with fail;go_meet;exact ⟨_,_,rfl,rfl,zF⟩)
       case rest =>
        obtain ⟨s',t',rfl,rfl,g5⟩:=hcut.out;have G5:=ab (aa G (aa G2 (aa G3 g5)));clear hcut s0 s1 s2 s3 s4 s5 s6 GG g5;have hp:Hid (∃ x y:Nat,(i:Int)=(x:Int)/\(k:Int)=(y:Int)/\done<=x/\x<m/\done<=y/\y<m/\R x (o y)≠0):=⟨i,k,rfl,rfl,hT,hlt,hX,K,by rw [<- HQ];exact HZ⟩;go_upto_region 13 with fail;go_cut [86] (fun s86 wx=>Hid (∃ c:Bool,s86=.bool c/\(f=false->c=true)/\W1.grownBy wx none))
        case first =>
         cases f with
         | false =>
          go_wp2
          all_goals (go_meet;exact ⟨true,rfl,fun _=>rfl,G5⟩)
         | true =>
          by_cases h1:s'<s
          ·have hG:decide (s'<s)=true:=decide_eq_true h1;go_wp2
           all_goals (go_meet;exact ⟨true,by first | rfl | simp,nofun,G5⟩)
          ·have hG:decide (s'<s)=false:=decide_eq_false h1;by_cases h2:s'=s
           ·have hH:(s'==s)=true:=beq_iff_eq.2 h2;subst h2;go_wp2
            all_goals (go_meet;exact ⟨_,rfl,nofun,G5⟩)
           ·have hH:(s'==s)=false:=zB h2;go_wp2
            all_goals (go_meet;exact ⟨_,rfl,nofun,G5⟩)
        case rest =>
         obtain ⟨c,rfl,hy,g6⟩:=hcut.out;have G6:=ab g6;have hI:=ab hy;clear hcut g6 hy;cases c with
         | true =>
          go_wp2;go_roundw
          case rel=>exact ⟨k+1,(i:Int),(k:Int),s',t',true,O,O,zN,rfl,rfl,rfl,rfl,rfl,fun _=>hp,nofun,nofun,G6⟩
          case measure=>simp [intOf];omega
         | false =>
          have hr:f=true:=by
           cases hf:f with
           | true=>rfl
           | false=>exact absurd (hI hf) zD
          have hJ:=ab hr;clear hr;go_wp2;go_roundw
          case rel=>exact ⟨k+1,a,b,s,t,f,O,O,zN,rfl,rfl,rfl,rfl,rfl,E,F,(fun e=>by rw [hJ] at e;cases e),G6⟩
          case measure=>simp [intOf];omega
    ·obtain rfl:k=m:=O
     go_wp2;go_roundw
     case rel =>
      refine ⟨i+1,a,b,s,t,f,O,O,zN,rfl,rfl,rfl,rfl,rfl,E,fun e x h1 h2 y h3 h4=>?_,G⟩;by_cases e2:x=i
      ·rw [e2];exact A e y h3 h4
      ·exact F e x h1 O y h3 h4
     case measure=>simp [intOf];omega
  ·obtain rfl:i=m:=O
   cases f with
   | false =>
    go_wp2;go_ret;exact .inr ⟨rfl,fun x h1 h2 y h3 h4=>F (by first | rfl | trivial) x h1 h2 y h3 h4,aa GA A⟩
   | true =>
    obtain ⟨x,y,rfl,rfl,kb,l,kc,B,hA⟩:=E.out (by first | rfl | trivial);have hK:=ab hA;have g:=ab (M1.keep0 A);have OO:=ab (O1.keep0 A);have m1:=(g.cell x l).1;have m2:=(g.cell done hd).1;have hN:=(g.cell done hd).2 done;have hQ:=(g.cell done hd).2 x;have qf:(0:Int)<=(x:Int):=O
    have ql:(x:Int)<(i:Int):=O
    have qo:(0:Int)<=(y:Int):=O
    have qq:(y:Int)<(i:Int):=O
    have qs:(0:Int)<=(done:Int):=O
    have yn:(done:Int)<(i:Int):=O
    obtain ⟨u1,kf⟩:=g.out.set_some (i:=done) l (.slice (some ⟨bs x,0,none⟩) n (cs x));clear hA E F;go_wp2;go_region
    obtain ⟨w5,N⟩:=eX ((wr.setCell ⟨p,done,none⟩ (.slice (some ⟨bs x,0,none⟩) n (cs x))).setCell ⟨p,x,none⟩ (.slice (some ⟨bs done,0,none⟩) n (cs done)));obtain ⟨P,C⟩:=g.out.swap hd l;rw [<- N] at P C;have M5:=ab P;have R5:=ab C;have T:=ab (OO.keep C.1 (fun e=>J.1 (zJ e).symm));rw [<- N];clear N P C m1 m2 hN hQ kf u1;have o1:=T.out.at y B;have o2:=T.out.at done hd;have hR:=T.out.froz done;have hS:=T.out.froz y;obtain ⟨u2,hu2⟩:=T.out.set_some (i:=done) B (.int .i64 ((o y:Nat):Int));go_wp2;go_region
    obtain ⟨w6,Q⟩:=eX ((w5.setCell ⟨bo,done,none⟩ (.int .i64 ((o y:Nat):Int))).setCell ⟨bo,y,none⟩ (.int .i64 ((o done:Nat):Int)));obtain ⟨P,C⟩:=T.out.swap hd B;rw [<- Q] at P C;have O6:=ab P;have M6:=ab (M5.keepR C J.1 (fun j hj=>J.2 _ (dp hd l hj)));have R6:=ab C;rw [<- Q];clear Q P C o1 o2 hR hS hu2 u2;go_wp2;go_ret;refine .inl ⟨x,y,kb,l,kc,B,hK,rfl,?_,?_,w5,(aI.of_gr (aa GA A)).trans R5,?_⟩
    ·exact M6.keep0 (aa aA aA)
    ·exact O6.keep0 (aa aA aA)
    ·exact R6.gr (aa aA aA)
theorem Ab (R:Nat->Rat) (i j:Nat) (h:(((cj R i i).den:Nat):Rat)-1=0):cj R i j=cj R (i+1) j:=by
 rw [jj,show (((cj R i i).den:Nat):Rat)=1 from by grind,Rat.mul_one]
theorem Cz {q:Rat} (a:1<=L) (h:bg L q):bg L ((q.den:Nat):Rat):=by
 refine ⟨?_,?_⟩
 ·show ((q.den:Nat):Rat).num.natAbs<_
  rw [Rat.num_natCast,Int.natAbs_natCast];exact h.2
 ·rw [Rat.den_natCast];exact Nat.lt_of_lt_of_le (by decide:1<4294967296^1) (Nat.pow_le_pow_right zD a)
def WhoR (W:World) (base m n:Nat) (R:Nat->Nat->Rat) (L:Nat) (v5 v12:Value) (wr:World):Prop :=
 ∃ (i:Nat) (bs cs:Nat->Nat),i<=m/\v12=.int .i64 i/\cS (dW n) 58 wr base v5 (bV bs cs i)/\sd wr base n i bs cs (fun j=>cj (R j) n) L/\W.grownBy wr none
def WinR (W:World) (g n:Nat) (R:Nat->Rat) (L:Nat) (v:Value) (wr:World):Prop :=
 ∃ k:Nat,k<=n/\v=.int .i64 k/\aH wr g n (cj R k) L/\aI W wr g
def WholeE (w:World) (m n:Nat) (R:Nat->Nat->Rat) (L:Nat) (e:Ending) (w':World):Prop :=
 ∃ br cap bs cs,e=.returned (.slice (some ⟨br,0,none⟩) m cap)/\w.heap.size<=br/\m<=cap/\cap<=maxLen/\(∀ i,i<m->w.heap.size<=bs i)/\bT w' br m n bs cs (fun j=>cj (R j) n) L/\w.grownBy w' none
theorem tD (B:Bool) (C f:Option Addr) (fl fc h l:Nat) (br m n cap:Nat) (bs cs:Nat->Nat) (R:Nat->Nat->Rat) (L:Nat) (w:World)
  (hM:bT w br m n bs cs R L) (h1:FQ w (.agg #[.bool B,.slice C fl fc,.slice f h l]) 1 L) (hm0:0<m) (hm:m<=1000) (hn0:0<n) (hn:n<=1000) (hc:m<=cap) (hc2:cap<=maxLen) (hL1:1<=L) (hL:L<=50000000)
  (hfit:∀ i,i<m->∀ k,k<=n->∀ j,j<n->bg L (cj (R i) k j)) :
  Calls Tryz.prog 111 #[(jP B (.slice C fl fc) (.slice f h l)),.slice (some ⟨br,0,none⟩) m cap] w fun e a=>WholeE w m n R L e a:=by
 unfold maxLen at hc2;have HM:=ab hM;have H1:=ab h1;have HF:=ab hfit;clear hM h1 hfit;obtain ⟨W,X⟩:=eX (w.alloc (Obj.cells #[.bool B,.slice C fl fc,.slice f h l,.func (.func 60) #[] #[],.func (.func 61) #[] #[],.func (.func 62) #[] #[],.func (.func 63) #[] #[],.func (.func 64) #[] #[],.func (.func 65) #[] #[],.func (.func 66) #[] #[],.func (.func 67) #[] #[]] 87));have GW:Hid (w.grownBy W none):=by rw [X];exact ag (ae _ _) _
 have y:Hid (W.heap.size=w.heap.size+1):=by show _=_;rw [X];simp
 have I:Hid (∀ wx g,W.heap.size<=g->W.grownBy wx (some g)->wx.cell? ⟨w.heap.size,3,none⟩=some (.func (.func 60) #[] #[])/\wx.cell? ⟨w.heap.size,4,none⟩=some (.func (.func 61) #[] #[])/\wx.cell? ⟨w.heap.size,5,none⟩=some (.func (.func 62) #[] #[])/\wx.cell? ⟨w.heap.size,6,none⟩=some (.func (.func 63) #[] #[])/\wx.cell? ⟨w.heap.size,7,none⟩=some (.func (.func 64) #[] #[])/\wx.cell? ⟨w.heap.size,8,none⟩=some (.func (.func 65) #[] #[])/\wx.cell? ⟨w.heap.size,9,none⟩=some (.func (.func 66) #[] #[])/\wx.cell? ⟨w.heap.size,10,none⟩=some (.func (.func 67) #[] #[])/\wx.cell? ⟨w.heap.size,0,none⟩=some (.bool B)/\wx.cell? ⟨w.heap.size,1,none⟩=some (.slice C fl fc)/\wx.cell? ⟨w.heap.size,2,none⟩=some (.slice f h l)):=by
  intro wx g hq hg;have hF:=y.out;rw [X] at hg;have p:some w.heap.size≠some g:=fun e=>by have:=zJ e;omega
  exact ⟨hg.cell zG p,hg.cell zG p,hg.cell zG p,hg.cell zG p,hg.cell zG p,hg.cell zG p,hg.cell zG p,hg.cell zG p,hg.cell zG p,hg.cell zG p,hg.cell zG p⟩
 go_enter Tryz.func111,Tryz.ntmps111
 go_upto_region 2 with fail;rw [<- X];clear X;go_wp2;go_loopw [5,12] (fun v5 v12 wr=>Hid (WhoR W W.heap.size m n R L v5 v12 wr)) (fun _ v _=>m-(intOf v).toNat)
 case atStart=>exact ⟨0,fun _=>0,fun _=>0,O,rfl,mf,sd.nil ..,ae _ _⟩
 case round =>
  obtain ⟨i,bt,ct,hi,rfl,l1,l2,l3⟩:=hrel.out;obtain ⟨oa,oc,rfl⟩:=l1.1.shape;rw [bj] at l1 ⊢;have L1:=ab l1;have J:=ab l2;have K:=ab l3;clear l1 l2 l3 hrel;by_cases hlt:i<m
  ·have MM:=ab ((HM.keep0 GW).keep0 K);have ci:=(MM.cell i hlt).1;obtain ⟨Y,E⟩:=MM.out.cap i hlt;have M:=ab E;unfold maxLen at E;go_wp2_with fail;refine (vC (bs i) n (cs i) (R i) L _ (MM.row i hlt) hn0 O Y M).mono ?_;rintro e w1 ⟨g,c,rfl,hr,he,hf,f1,g1⟩;have F1:=ab f1;have G1:=ab (aa K g1);have N:=ab hf;have K1:=ab (L1.keep0 g1);have K2:=ab (J.keep0 g1);have P:Hid ((Value.slice oa i oc).ownBlock≠some g):=fun e=>by have:=(L1.1.fresh g e).2;omega
   have Q:Hid (∀ j,j<i->bt j≠g):=fun j hj e=>by have:=(J.row j hj).lt;omega
   have z:Hid (W.heap.size<=g):=by show _<=_;have:=K.out.size;omega
   unfold maxLen at hf;clear f1 g1 L1 J K MM ci M hr;go_wp2;go_loopw [20] (fun v wx=>Hid (WinR w1 g n (R i) L v wx)) (fun v _=>n-(intOf v).toNat)
   case atStart=>exact ⟨0,O,rfl,F1.congr (fun j _=>(wR _ j).symm),aI.refl _ _⟩
   case round =>
    obtain ⟨k,hk,rfl,k1,k2⟩:=hrel.out;have I1:=ab k1;have D:=ab k2;clear k1 k2 hrel F1;have ho:Hid (∀ wx,aI w1 wx g->W.grownBy wx (some g)):=fun wx hx=>aw (r:=some g) G1 hx.1 nofun (fun _ _ e=>e)
    by_cases S:k<n
    ·obtain ⟨xo,xl,xc,yo,yl,yc,c0,c1,c2,c3,_⟩:=I1.out.at k S;have X3:=ab c3;have CX:Hid (∀ wx,wr.grownBy wx none->wx.cell? ⟨w.heap.size,3,none⟩=some (.func (.func 60) #[] #[])/\wx.cell? ⟨w.heap.size,4,none⟩=some (.func (.func 61) #[] #[])/\wx.cell? ⟨w.heap.size,5,none⟩=some (.func (.func 62) #[] #[])/\wx.cell? ⟨w.heap.size,6,none⟩=some (.func (.func 63) #[] #[])/\wx.cell? ⟨w.heap.size,7,none⟩=some (.func (.func 64) #[] #[])/\wx.cell? ⟨w.heap.size,8,none⟩=some (.func (.func 65) #[] #[])/\wx.cell? ⟨w.heap.size,9,none⟩=some (.func (.func 66) #[] #[])/\wx.cell? ⟨w.heap.size,10,none⟩=some (.func (.func 67) #[] #[])/\wx.cell? ⟨w.heap.size,0,none⟩=some (.bool B)/\wx.cell? ⟨w.heap.size,1,none⟩=some (.slice C fl fc)/\wx.cell? ⟨w.heap.size,2,none⟩=some (.slice f h l)/\wx.cell? ⟨g,k*3,none⟩=some (.bool (rB (cj (R i) k k)))/\wx.cell? ⟨g,k*3+1,none⟩=some (.slice xo xl xc)/\wx.cell? ⟨g,k*3+2,none⟩=some (.slice yo yl yc)):=by
      intro wx hg;obtain ⟨s0,s1,s2,s3,s4,s5,s6,s7,s8,s9,s10⟩:=I.out wx g z (ho wx (D.gr hg));exact ⟨s0,s1,s2,s3,s4,s5,s6,s7,s8,s9,s10,hg.cell c0 Z,hg.cell c1 Z,hg.cell c2 Z⟩
     clear c0 c1 c2 c3;have HD:Hid (bg L (((cj (R i) k k).den:Nat):Rat)):=Cz hL1 (HF i hlt k O k S);have T:Hid (aH wr g n (cj (R i) k) L):=I1.out;have GG:wr.grownBy wr none:=ae _ _;obtain ⟨s0,s1,s2,s3,s4,s5,s6,s7,s8,s9,s10,s11,s12,s13⟩:=CX.out wr GG;have hy:g<wr.heap.size:=I1.out.lt;have hA:w.heap.size<wr.heap.size:=by have:=z.out;have:=y.out;omega
     have hG:wr.heap.size≠w.heap.size:=O
     have hH:wr.heap.size≠g:=O
     obtain ⟨d,t⟩:∃ d:Rat,d=(((cj (R i) k k).den:Nat):Rat):=⟨_,rfl⟩;have o:=ab t;have hI:Hid (bg L d):=by rw [t];exact HD
     clear t;go_upto_region 9 with fail;go_cut [9] (fun s9 wx=>Hid (∃ gs,s9=.pointer (some ⟨gs,0,none⟩)/\wr.heap.size<=gs/\aH wx gs 1 (fun _=>d) L/\wr.grownBy wx none))
     case first =>
      go_region_held3 (fun a=>a.cell? ⟨w.heap.size,3,none⟩=some (.func (.func 60) #[] #[])/\a.cell? ⟨w.heap.size,4,none⟩=some (.func (.func 61) #[] #[])/\a.cell? ⟨w.heap.size,5,none⟩=some (.func (.func 62) #[] #[])/\a.cell? ⟨w.heap.size,6,none⟩=some (.func (.func 63) #[] #[])/\a.cell? ⟨w.heap.size,7,none⟩=some (.func (.func 64) #[] #[])/\a.cell? ⟨w.heap.size,8,none⟩=some (.func (.func 65) #[] #[])/\a.cell? ⟨w.heap.size,9,none⟩=some (.func (.func 66) #[] #[])/\a.cell? ⟨w.heap.size,10,none⟩=some (.func (.func 67) #[] #[])/\a.cell? ⟨w.heap.size,0,none⟩=some (.bool B)/\a.cell? ⟨w.heap.size,1,none⟩=some (.slice C fl fc)/\a.cell? ⟨w.heap.size,2,none⟩=some (.slice f h l)/\a.cell? ⟨g,k*3,none⟩=some (.bool (rB (cj (R i) k k)))/\a.cell? ⟨g,k*3+1,none⟩=some (.slice xo xl xc)/\a.cell? ⟨g,k*3+2,none⟩=some (.slice yo yl yc)) (go_keep)
       (first | (go_at_call 66;refine (qBar_at _ (cj (R i) k k) L _ (X3.keep0 (aa GG (by first | exact aP _ | exact aA | exact ae _ _ | exact ag (aP _) _ | exact ag aA _ | exact aj (ag (ae _ _) _) 1 | exact aj (ag (ae _ _) _) _)))).mono ?_;rintro e wx ⟨vx,rfl,px,gx⟩;have px:=px.tight (L':=L) HD;rw [<- o] at px;obtain ⟨po,pl,pc,qo,ql,qc,rfl⟩:=px.shape;have GG:wr.grownBy wx none:=aa (aa GG (by first | exact aP _ | exact aA | exact ae _ _ | exact ag (aP _) _ | exact ag aA _ | exact aj (ag (ae _ _) _) 1 | exact aj (ag (ae _ _) _) _)) gx;obtain ⟨x0,x1,x2,x3,x4,x5,x6,x7,x8,x9,hs,hu,hv,hw⟩:=CX.out wx GG;(try (have gy:=aa (aj (ae (wr.alloc (Obj.cells #[.bool false,.slice none 0 0,.slice none 0 0] 81)) none) 1) gx;obtain ⟨hJ,hK,hN,A⟩:=aT gy;have hB:=A 0;have hC:=A 1;have hD:=A 2;clear A))))
      all_goals (go_wp2_with fail;go_meet;first
       | exact ⟨_,rfl,GG.size,mB (px.keep0 kw),ag zF _⟩
       | exact ⟨_,rfl,zL,oC gy px,ah (ah (ah GG _ _ zL) _ _ zL) _ _ zL⟩)
     case rest =>
      obtain ⟨gs,rfl,hq,f2,g2⟩:=hcut.out;have F2:=ab f2;have G:=ab g2;obtain ⟨so,sl,sc,hl,tl,tc,d0,d1,d2,d3,_⟩:=f2.var;have D3:=ab d3;clear hcut s0 s1 s2 s3 s4 s5 s6 s7 s8 s9 s10 s11 s12 s13 f2 g2 GG;have CY:Hid (∀ wx,wc.grownBy wx none->wx.cell? ⟨w.heap.size,3,none⟩=some (.func (.func 60) #[] #[])/\wx.cell? ⟨w.heap.size,4,none⟩=some (.func (.func 61) #[] #[])/\wx.cell? ⟨w.heap.size,5,none⟩=some (.func (.func 62) #[] #[])/\wx.cell? ⟨w.heap.size,6,none⟩=some (.func (.func 63) #[] #[])/\wx.cell? ⟨w.heap.size,7,none⟩=some (.func (.func 64) #[] #[])/\wx.cell? ⟨w.heap.size,8,none⟩=some (.func (.func 65) #[] #[])/\wx.cell? ⟨w.heap.size,9,none⟩=some (.func (.func 66) #[] #[])/\wx.cell? ⟨w.heap.size,10,none⟩=some (.func (.func 67) #[] #[])/\wx.cell? ⟨w.heap.size,0,none⟩=some (.bool B)/\wx.cell? ⟨w.heap.size,1,none⟩=some (.slice C fl fc)/\wx.cell? ⟨w.heap.size,2,none⟩=some (.slice f h l)/\wx.cell? ⟨gs,0,none⟩=some (.bool (rB d))/\wx.cell? ⟨gs,1,none⟩=some (.slice so sl sc)/\wx.cell? ⟨gs,2,none⟩=some (.slice hl tl tc)):=by
       intro wx hg;obtain ⟨s0,s1,s2,s3,s4,s5,s6,s7,s8,s9,s10,s11,s12,s13⟩:=CX.out wx (aa G hg);exact ⟨s0,s1,s2,s3,s4,s5,s6,s7,s8,s9,s10,hg.cell d0 Z,hg.cell d1 Z,hg.cell d2 Z⟩
      clear d0 d1 d2 d3;have GG:wc.grownBy wc none:=ae _ _;obtain ⟨s0,s1,s2,s3,s4,s5,s6,s7,s8,s9,s10,s11,s12,s13⟩:=CY.out wc GG;go_wp2_with fail;go_cut [39] (fun s39 wx=>Hid (s39=.bool (!(decide (d-1=0)))/\wc.grownBy wx none))
      case first =>
       go_region_held3 (fun a=>a.cell? ⟨w.heap.size,3,none⟩=some (.func (.func 60) #[] #[])/\a.cell? ⟨w.heap.size,4,none⟩=some (.func (.func 61) #[] #[])/\a.cell? ⟨w.heap.size,5,none⟩=some (.func (.func 62) #[] #[])/\a.cell? ⟨w.heap.size,6,none⟩=some (.func (.func 63) #[] #[])/\a.cell? ⟨w.heap.size,7,none⟩=some (.func (.func 64) #[] #[])/\a.cell? ⟨w.heap.size,8,none⟩=some (.func (.func 65) #[] #[])/\a.cell? ⟨w.heap.size,9,none⟩=some (.func (.func 66) #[] #[])/\a.cell? ⟨w.heap.size,10,none⟩=some (.func (.func 67) #[] #[])/\a.cell? ⟨w.heap.size,0,none⟩=some (.bool B)/\a.cell? ⟨w.heap.size,1,none⟩=some (.slice C fl fc)/\a.cell? ⟨w.heap.size,2,none⟩=some (.slice f h l)/\a.cell? ⟨gs,0,none⟩=some (.bool (rB d))/\a.cell? ⟨gs,1,none⟩=some (.slice so sl sc)/\a.cell? ⟨gs,2,none⟩=some (.slice hl tl tc)) (go_keep)
        (first | (go_at_call 62;refine (dr _ _ d 1 L L _ (D3.keep0 zF) (H1.kept ((aL.of_gr GW).trans ((aL.of_gr G1).trans (D.2.trans (aL.of_gr (aa G zF)))))) O).mono ?_;rintro e wa ⟨va,rfl,pa,ga⟩;obtain ⟨ao,al,ac,bo,bl,bc,rfl⟩:=pa.shape;have GG:wc.grownBy wa none:=aa zF ga;obtain ⟨a0,a1,a2,a3,a4,a5,a6,a7,a8,a9,hQ,hR,hS,hT⟩:=CY.out wa GG) | (go_at_call 65;refine (bd _ (d-1) (L+L+2) _ (pa.keep0 kw)).mono ?_;rintro e wx ⟨rfl,gx⟩;have GG:wc.grownBy wx none:=aa zF gx;obtain ⟨x0,x1,x2,x3,x4,x5,x6,x7,x8,x9,hs,hu,hv,hw⟩:=CY.out wx GG))
       all_goals (go_wp2_with fail;go_meet;exact ⟨rfl,zF⟩)
      case rest =>
       obtain ⟨rfl,g4⟩:=hcut.out;have H:=ab g4;clear hcut s0 s1 s2 s3 s4 s5 s6 s7 s8 s9 s10 s11 s12 s13 g4 GG;by_cases U:d-1=0
       ·have q:(!(decide (d-1=0)))=false:=by simp [U]
        rw [q];have HZ:=ab U;clear U q;go_wp2;go_roundw
        case rel =>
         refine ⟨k+1,O,zN,((T.keep0 G).keep0 H).congr (fun j _=>Ab _ _ _ ?_),(D.gr G).gr H⟩;rw [<- o];exact HZ
        case measure=>simp [intOf];omega
       ·have q:(!(decide (d-1=0)))=true:=by simp [U]
        rw [q];clear U q;obtain ⟨s0,s1,s2,s3,s4,s5,s6,s7,s8,s9,s10,s11,s12,s13⟩:=CY.out _ H;go_wp2_with fail;refine (mA _ _ _ g n c (cj (R i) k) d _ L _ ((T.keep0 G).keep0 H) (D3.keep0 H) he N O (fun j hj=>by rw [o,<- jj];exact HF i hlt (k+1) O j hj)).mono ?_;rintro e w5 ⟨rfl,f5,r5⟩;have F5:=ab f5;have R5:=ab (((D.gr G).gr H).trans r5);clear f5 r5 s0 s1 s2 s3 s4 s5 s6 s7 s8 s9 s10 s11 s12 s13;go_wp2;go_roundw
        case rel=>exact ⟨k+1,O,zN,F5.congr (fun j _=>by rw [o,<- jj]),R5⟩
        case measure=>simp [intOf];omega
    ·obtain rfl:k=n:=O
     have O1:=ab (K1.keep D.1 (.inr P));have O2:=ab (K2.keepB D Q);have hp:Hid (W.heap.size<=wr.heap.size):=Nat.le_trans G1.size D.1.size;go_wp2_with (at_builtin;refine d6 (dW k) 58 (.slice none 0 0) 24 _ rfl _ _ 119 rfl W.heap.size Tryz.underlying119 Tryz.infoRow rfl (fun x=>by simp [Value.cells]) (fun u x=>by simp [dW]) (.slice oa i oc) (bV bt ct i) rfl (O1.keep0 (ag (ae _ _) _)) wr.heap.size (g,c) rfl (by go_simp;rfl) rfl (by rw [bj];omega) O (by simp;exact Nat.le_succ_of_le hp) ?_)
     intro ao hE w5 s F V;rw [bj] at s ⊢;have RA:=ab (iJ (O1.keep0 (ag (ae wr none) _)) hn0 (O2.keep0 (ag (ae wr none) _)) he N (I1.keep0 (ag (ae wr none) _)) z Q P F V s);have HG:Hid (W.grownBy w5 none):=by
      refine aw (r:=none) (aw (r:=none) G1 (aw (r:=some g) D.1 (ag (ae wr none) _) (fun _ _ e=>e) nofun) (fun _ _ e=>e) (fun b hb e=>?_)) F (fun _ _ e=>e) (fun b hb e=>?_)
      ·have:=zJ e;have:=z.out;omega
      ·have:=(O1.1.fresh b e.symm).1;omega
     clear s F V;go_wp2;go_roundw
     case rel=>exact ⟨i+1,cQ bt i g,cQ ct i c,O,zN,RA.1,RA.2,HG⟩
     case measure=>simp [intOf];omega
  ·obtain rfl:i=m:=O
   obtain ⟨b2,c2,e2,q1,q2,q3,q4⟩:=L1.out.mat hm0 hn0 J;simp only [Value.slice.injEq,true_and] at e2;obtain ⟨rfl,rfl⟩:=e2;have Q3:=ab q3;have Q4:=ab q4;clear q3 q4;go_wp2;go_ret;exact ⟨b2,_,bt,ct,rfl,by have:=y.out;omega,q2,Q3,fun j hj=>by have:=J.out.low j hj;have:=y.out;omega,Q4,aa GW K⟩
theorem cH.of_labs {g m:Nat} {l:Nat->Nat} (h:qr w g (kO m l)):cH w g m l:=by
 refine ⟨_,_,h,fun i hi=>?_⟩;simp [kO,hi]
theorem cH.congr {g m:Nat} {o b:Nat->Nat} (h:cH w g m o) (e:∀ i,i<m->o i=b i):cH w g m b:=by
 obtain ⟨a,t,hb,hc⟩:=h;exact ⟨a,t,hb,fun i hi=>by rw [<- e i hi];exact hc i hi⟩
structure r9 (W w:World) (br2 bo gl m:Nat) (bs cs:Nat->Nat) (order:List Nat) (R:Nat->Nat->Rat) (d:Rat) (L:Nat):Prop where
 mat:bT w br2 m (m+1) bs cs R L
 ord:cH w bo m (fun i=>order.getD i 0)
 var:aH w gl 1 (fun _=>d) L
 gr:W.grownBy w none
section
variable {W w w':World} {br2 bo gl m:Nat} {bs cs:Nat->Nat} {order:List Nat} {R:Nat->Nat->Rat} {d:Rat} {L:Nat}
theorem r9.keep0 (h:r9 W w br2 bo gl m bs cs order R d L) (g:w.grownBy w' none):r9 W w' br2 bo gl m bs cs order R d L:=⟨h.mat.keep0 g,h.ord.keep0 g,h.var.keep0 g,aa h.gr g⟩
theorem r9.congr {R':Nat->Nat->Rat} (h:r9 W w br2 bo gl m bs cs order R d L) (e:∀ i,i<m->∀ j,j<m+1->R i j=R' i j):r9 W w br2 bo gl m bs cs order R' d L:=⟨h.mat.congr e,h.ord,h.var,h.gr⟩
theorem r9.neo (h:r9 W w br2 bo gl m bs cs order R d L) (a:0<m):br2≠bo/\∀ i,i<m->bs i≠bo:=h.mat.ne_int a O (h.ord.at 0 a)
theorem r9.row (h:r9 W w br2 bo gl m bs cs order R d L) (hb:∀ i,i<m->W.heap.size<=bs i/\bs i≠gl) {i:Nat} (hi:i<m) {Q:Nat->Rat} (a:aH w' (bs i) (m+1) Q L) (g:aI w w' (bs i)):r9 W w' br2 bo gl m bs cs order (fun j=>if j=i then Q else R j) d L :=
 ⟨h.mat.step hi a g,h.ord.keep g.1 (fun e=>(h.neo O).2 i hi (zJ e).symm),h.var.keep g.1 g.2 (fun e=>(hb i hi).2 (zJ e).symm),aw (r:=none) h.gr g.1 (fun _ _ e=>e) (fun b c e=>by have:=zJ e;have:=(hb i hi).1;omega)⟩
theorem r9.last {p:Rat} (h:r9 W w br2 bo gl m bs cs order R d L) (hb:∀ i,i<m->W.heap.size<=bs i/\bs i≠gl) (f:W.heap.size<=gl) (a:br2<gl) (j:bo<gl) (c:aH w' gl 1 (fun _=>p) L) (g:aI w w' gl):r9 W w' br2 bo gl m bs cs order R p L :=
 ⟨h.mat.keepR g O (fun i hi=>(hb i hi).2),h.ord.keep g.1 (fun e=>by have:=zJ e;omega),c,aw (r:=none) h.gr g.1 (fun _ _ e=>e) (fun b a e=>by have:=zJ e;omega)⟩
end
theorem aH.varset2 {b:Nat} {p q:Rat} (h:aH w b 1 (fun _=>p) L) {c a:Option Addr} {d e f g:Nat} (i:FQ w (.agg #[.bool (rB q),.slice c d e,.slice a f g]) q L) :
  aH (((w.setCell ⟨b,0,none⟩ (.bool (rB q))).setCell ⟨b,1,none⟩ (.slice c d e)).setCell ⟨b,2,none⟩ (.slice a f g)) b 1 (fun _=>q) L
  /\ aI w (((w.setCell ⟨b,0,none⟩ (.bool (rB q))).setCell ⟨b,1,none⟩ (.slice c d e)).setCell ⟨b,2,none⟩ (.slice a f g)) b:=by
 have:=(h.set 0 O i);simp only [Nat.zero_mul,Nat.zero_add] at this;exact ⟨h.varset i zL,this.2⟩
theorem nH (a b:Nat):aM a b a=b:=by
 unfold aM;by_cases e:a=b
 ·rw [if_pos e,e]
 ·rw [if_neg e,if_pos rfl]
def RowsE (w:World) (m:Nat) (R:Nat->Nat->Rat) (L:Nat) (e:Ending) (w':World):Prop :=
 (∃ g X,e=.returned (.tuple #[.slice (some ⟨g,0,none⟩) m m,.int .i64 0])/\w.heap.size<=g/\aH w' g m X L/\w.grownBy w' none/\nM R m X/\∀ z,nM R m z->∀ j,j<m->z j=X j)
 ∨ (e=.returned (.tuple #[.slice none 0 0,.int .i64 7])/\w.grownBy w' none/\¬ ∃ x,nM R m x)
 ∨ (e=.returned (.tuple #[.slice none 0 0,.int .i64 8])/\w.grownBy w' none/\∃ x y:Nat->Rat,nM R m x/\nM R m y/\∃ j,j<m/\x j≠y j)
def OrdR (W:World) (g m:Nat) (v:Value) (wr:World):Prop:=∃ k:Nat,k<=m/\v=.int .i64 k/\qr wr g (kO m fun x=>if x<k then x else 0)/\W.grownBy wr none
def RowR (W:World) (br2 bo gl m:Nat) (Wm:Nat->Nat->Rat) (b:Nat->Nat) (L:Nat) (v:Value) (wr:World):Prop :=
 ∃ (done:Nat) (bs cs:Nat->Nat) (perm order:List Nat) (R:Nat->Nat->Rat) (d s:Rat),done<=m/\v=.int .i64 done/\St Wm m done perm order R d s/\(∀ t,t<done->∀ j,gF (dM m b) (R t j))
  /\ (∀ i,i<m->W.heap.size<=bs i/\bs i≠gl)/\r9 W wr br2 bo gl m bs cs order (R) (d) L
def ElmR (W:World) (br2 bo gl m done:Nat) (bs cs:Nat->Nat) (order:List Nat) (R:Nat->Nat->Rat) (u d:Rat) (L:Nat) (v:Value) (wr:World):Prop :=
 ∃ i:Nat,done+1+i<=m/\v=.int .i64 i/\r9 W wr br2 bo gl m bs cs order (fw R (order.getD done 0) done u d i) (d) L
theorem rows_at (H:Bool) (I o:Option Addr) (fl fc q A:Nat) (br m cap:Nat) (hJ hK:Nat->Nat) (K:Nat->Nat->Rat) (L LS:Nat) (b:Nat->Nat) (w:World)
  (hM:bT w br m (m+1) hJ hK K L) (h1:FQ w (.agg #[.bool H,.slice I fl fc,.slice o q A]) 1 L) (hm0:0<m) (hm:m<=900) (hc:m<=cap) (hc2:cap<=maxLen) (hL1:1<=L) (hL:L<=300000000)
  (hfit:∀ i,i<m->∀ k,k<=m+1->∀ j,j<m+1->bg L (cj (K i) k j)) (hb:∀ r,1<=b r) (hB:∀ r j,gF (b r) (qm K (m+1) r j)) (hMo:dM m b<4294967296^L) (hS:(m+1)*(dM m b*dM m b)<4294967296^LS) (hLS:L+L+1<=LS) (hLS2:LS<=100000000) :
  Calls Tryz.prog 72 #[(jP H (.slice I fl fc) (.slice o q A)),.slice (some ⟨br,0,none⟩) m cap] w fun e l=>RowsE w m K L e l:=by
 have HM:=ab hM;have H1:=ab h1;have HF:=ab hfit;have HB:=ab hb;have hC:=ab hB;have hN:=ab hMo;have HS:=ab hS;have yl:=ab hc2;clear hM h1 hfit hb hB hMo hS hc2;obtain ⟨W,hW⟩:=eX (w.alloc (Obj.cells #[.bool H,.slice I fl fc,.slice o q A,.func (.func 60) #[] #[],.func (.func 61) #[] #[],.func (.func 62) #[] #[],.func (.func 63) #[] #[],.func (.func 64) #[] #[],.func (.func 65) #[] #[],.func (.func 66) #[] #[],.func (.func 67) #[] #[]] 87));have GW:Hid (w.grownBy W none):=by rw [hW];exact ag (ae _ _) _
 have hQ:Hid (W.heap.size=w.heap.size+1):=by show _=_;rw [hW];simp
 have D:Hid (∀ wx,W.grownBy wx none->wx.cell? ⟨w.heap.size,0,none⟩=some (.bool H)/\wx.cell? ⟨w.heap.size,1,none⟩=some (.slice I fl fc)/\wx.cell? ⟨w.heap.size,2,none⟩=some (.slice o q A)/\wx.cell? ⟨w.heap.size,3,none⟩=some (.func (.func 60) #[] #[])/\wx.cell? ⟨w.heap.size,4,none⟩=some (.func (.func 61) #[] #[])/\wx.cell? ⟨w.heap.size,5,none⟩=some (.func (.func 62) #[] #[])/\wx.cell? ⟨w.heap.size,6,none⟩=some (.func (.func 63) #[] #[])/\wx.cell? ⟨w.heap.size,7,none⟩=some (.func (.func 64) #[] #[])/\wx.cell? ⟨w.heap.size,8,none⟩=some (.func (.func 65) #[] #[])/\wx.cell? ⟨w.heap.size,9,none⟩=some (.func (.func 66) #[] #[])/\wx.cell? ⟨w.heap.size,10,none⟩=some (.func (.func 67) #[] #[])):=by
  intro wx hg;rw [hW] at hg;exact ⟨hg.cell zG Z,hg.cell zG Z,hg.cell zG Z,hg.cell zG Z,hg.cell zG Z,hg.cell zG Z,hg.cell zG Z,hg.cell zG Z,hg.cell zG Z,hg.cell zG Z,hg.cell zG Z⟩
 obtain ⟨s0,s1,s2,s3,s4,s5,s6,s7,s8,s9,s10⟩:=D.out W (ae _ _);go_enter Tryz.func72,Tryz.ntmps72
 go_upto_region 1 with fail;rw [<- hW];clear hW;go_wp2_with fail;refine (tD H I o fl fc q A br m (m+1) cap hJ hK K L W (HM.keep0 GW) (H1.keep0 GW) hm0 O O O hc yl hL1 O HF).mono ?_;rintro e w1 ⟨n,B,kz,mp,rfl,k1,k2,k3,kl,k4,k5⟩;have M1:=ab (k4.congr (R':=qm K (m+1)) (fun i hi j hj=>by unfold qm;rw [if_pos hj]));have G1:=ab k5;have hD:=ab k3;have yn:=ab kl;have yo:=ab k1;unfold maxLen at k3;clear k1 kl k4 k5 s0 s1 s2 s3 s4 s5 s6 s7 s8 s9 s10;go_wp2_with (at_make;refine dY iv 3 0 8 _ rfl _ _ 97 rfl Tryz.underlying97 Tryz.infoInt rfl _ _ _ _ m rfl rfl O O O O ?_)
 intro w2 hs ko;have A2:=ab hs;have G2:=ab ko;obtain ⟨bo,hf⟩:=eX w1.heap.size;rw [<- hf] at A2 ⊢;have yv:=ab hf;have hR:Hid (W.heap.size<=bo):=by show _<=_;rw [hf];exact G1.size
 clear hs ko hf;go_wp2;go_loopw [20] (fun v wr=>Hid (OrdR w1 bo m v wr)) (fun v _=>m-(intOf v).toNat)
 case atStart =>
  refine ⟨0,O,rfl,?_,G2⟩;have e:kO m (fun x=>if x<0 then x else 0)=List.replicate m 0:=by
   apply List.ext_getElem
   ·simp [kO]
   ·intro i h1 h2;simp [kO]
  rw [e];exact A2
 case round =>
  obtain ⟨k,hk,rfl,l1,l2⟩:=hrel.out;by_cases hlt:k<m
  ·have Hk:=l1.free k;obtain ⟨v0,Hs⟩:∃ v,wr.cell? ⟨bo,k,none⟩=some v:=⟨_,l1.cell k (by rw [uA];exact hlt)⟩;have L1:=ab l1;have L2:=ab l2;clear l1 l2 hrel;go_wp2;go_roundw
   case rel =>
    refine ⟨k+1,O,zN,?_,ah L2 _ _ (by rw [<- yv];exact zL)⟩;have:=L1.out.set k ((k:Nat):Int) (.int .i64 (k:Nat)) rfl;rw [CR m _ k k hlt] at this;rw [xq m (fun x=>if x<k+1 then x else 0) (fun x=>if x=k then k else if x<k then x else 0)]
    ·exact this
    ·intro x hx;by_cases e:x=k
     ·subst e;simp
     ·by_cases e2:x<k
      ·rw [if_pos O,if_neg e,if_pos e2]
      ·rw [if_neg O,if_neg e,if_neg e2]
   case measure=>simp [intOf];omega
  ·obtain rfl:m=k:=O
   have O3:Hid (cH wr bo m (fun i=>(List.range m).getD i 0)):=(cH.of_labs l1).congr (fun i hi=>by rw [if_pos hi,jC m i hi]);have M3:=ab (M1.keep0 l2);have G3:=ab (aa G1 l2);obtain ⟨w3,ms⟩:=eX wr;clear l1 l2 hrel A2 G2 M1 G1;obtain ⟨s0,s1,s2,s3,s4,s5,s6,s7,s8,s9,s10⟩:=D.out wr G3;go_upto_region 9 with fail;obtain ⟨w4,hl⟩:=eX (wr.alloc (Obj.cells #[.bool H,.slice I fl fc,.slice o q A] 81));have he:Hid (wr.grownBy w4 none):=by rw [hl];exact ag (ae _ _) _
   have hT:Hid (H=rB 1):=FV.parts H1;have F4:Hid (aH w4 wr.heap.size 1 (fun _=>1) L):=by
    rw [hl,hT];refine mB ?_;rw [<- hT];exact H1.keep0 (aa GW G3)
   obtain ⟨C,ho⟩:=eX wr.heap.size;rw [<- hl,<- ho];rw [<- ho] at F4;have O4:=ab (O3.keep0 he);have M4:=ab (M3.keep0 he);have G4:=ab (aa G3 he);have M:Hid (W.heap.size<=C/\n<C/\bo<C/\∀ i,i<m->kz i<C):=by
    rw [ho];exact ⟨G3.size,M3.lt,O3.lt,fun i hi=>(M3.row i hi).lt⟩
   clear hl ho ms w3 O3 M3 G3 he s0 s1 s2 s3 s4 s5 s6 s7 s8 s9 s10;go_wp2;go_loopw [32] (fun v wr=>Hid (RowR W n bo C m (qm K (m+1)) b L v wr)) (fun v _=>m-(intOf v).toNat)
   case atStart=>exact ⟨0,kz,mp,_,_,_,1,1,O,rfl,Eo _ _,fun t ht=>O,fun i hi=>⟨yn i hi,fun e=>by have:=M.out.2.2.2 i hi;omega⟩,⟨M4,O4,F4,G4⟩⟩
   case round =>
    clear M4 O4 F4 G4;obtain ⟨done,bs,cs,U,f,R,d,s,Ht,rfl,l1,l2,l3,⟨l4,l5,l6,l7⟩⟩:=hrel.out;have J:=ab l1;have S2:=ab l2;have S3:=ab l3;have M1:=ab l4;have O1:=ab l5;have F1:=ab l6;have G1:=ab l7;clear l1 l2 l3 l4 l5 l6 l7 hrel;obtain ⟨s0,s1,s2,s3,s4,s5,s6,s7,s8,s9,s10⟩:=D.out wr G1;by_cases hlt:done<m
    ·have hE:Hid (∀ i,i<m->f.getD i 0<m):=fun i hi=>J.ob _ (dm f i (by rw [J.ol];exact hi))
     go_wp2_with fail;refine (qt H I o fl fc q A n bo m (m+1) B m done bs cs R (fun i=>f.getD i 0) L wr M1 O1 (fun i hi=>by have:=hE.out i hi;omega) hlt O O k2 hD zL (by unfold maxLen;omega) O).mono ?_;rintro e Y (⟨a,c,kF,kH,mt,Ha,kN,rfl,m5,o5,p5⟩ | ⟨rfl,qa,g5⟩)
     ·have hX:Hid (∃ (bs' cs':Nat->Nat) (perm' order':List Nat) (R':Nat->Nat->Rat),St (qm K (m+1)) m done perm' order' R' d s/\(∀ t,t<done->∀ j,gF (dM m b) (R' t j))/\(∀ i,i<m->W.heap.size<=bs' i/\bs' i≠C)/\R' done (order'.getD done 0)≠0/\r9 W Y n bo C m bs' cs' order' R' d L):=by
       have ol:=J.out.ol;refine ⟨_,_,_,_,_,st_swap J hlt kF kH mt Ha,fun t ht j=>?_,fun i hi=>S3 _ (dp hlt kH hi),?_,⟨m5,o5.congr (fun i hi=>(cG f done c i O O).symm),p5.row F1 (by have:=M.out.2.1;omega) (by have:=M.out.2.2.1;omega),p5.gr G1 yo hR⟩⟩
       ·show gF _ (R (aM done a t) j)
        rw [kI (Nat.le_refl done) kF ht];exact S2 t ht j
       ·show R (aM done a done) ((dE f done c).getD done 0)≠0
        rw [cG f done c done O O,nH,nH];exact kN
      have hY:=hE;clear m5 o5 p5 kN J S2 S3 M1 O1 F1 G1 hE hY s0 s1 s2 s3 s4 s5 s6 s7 s8 s9 s10;clear bs cs U f R;obtain ⟨bs,cs,U,f,R,t1,t2,t3,t4,t5⟩:=hX.out;have J:=ab t1;have S2:=ab t2;have S3:=ab t3;have ka:=ab t4;have E5:=ab t5;have Hl:f.getD done 0<m:=t1.ob _ (dm f done (by rw [t1.ol];exact hlt));obtain ⟨lo,ll,lc,N,P,Q,c0,c1,c2,c3,_⟩:=t5.var.var;have D3:=ab c3;obtain ⟨u,hu⟩:=eX (tC (R done (f.getD done 0)+d));have HU:=ab hu;have hF:Hid (u=1∨u = -1):=by rw [hu];exact turn_sg _
      have rd:=(t5.mat.cell done hlt).1;have od:=t5.ord.at done hlt;obtain ⟨hv,hw⟩:=t5.mat.cap done hlt;have hr:=ab hw;unfold maxLen at hw;have G:Hid (bs done≠w.heap.size/\bs done≠n/\bs done≠bo/\bs done≠C):=⟨by have:=(t3 done hlt).1;have:=hQ.out;omega,t5.mat.off done hlt,(t5.neo hm0).2 done hlt,(t3 done hlt).2⟩;have CX:Hid (∀ wx,Y.grownBy wx (some (bs done))->wx.cell? ⟨w.heap.size,0,none⟩=some (.bool H)/\wx.cell? ⟨w.heap.size,1,none⟩=some (.slice I fl fc)/\wx.cell? ⟨w.heap.size,2,none⟩=some (.slice o q A)/\wx.cell? ⟨w.heap.size,3,none⟩=some (.func (.func 60) #[] #[])/\wx.cell? ⟨w.heap.size,4,none⟩=some (.func (.func 61) #[] #[])/\wx.cell? ⟨w.heap.size,5,none⟩=some (.func (.func 62) #[] #[])/\wx.cell? ⟨w.heap.size,6,none⟩=some (.func (.func 63) #[] #[])/\wx.cell? ⟨w.heap.size,7,none⟩=some (.func (.func 64) #[] #[])/\wx.cell? ⟨w.heap.size,8,none⟩=some (.func (.func 65) #[] #[])/\wx.cell? ⟨w.heap.size,9,none⟩=some (.func (.func 66) #[] #[])/\wx.cell? ⟨w.heap.size,10,none⟩=some (.func (.func 67) #[] #[])/\wx.cell? ⟨n,done,none⟩=some (.slice (some ⟨bs (done),0,none⟩) (m+1) (cs (done)))/\wx.cell? ⟨bo,done,none⟩=some (.int .i64 ((f.getD done 0:Nat):Int))/\wx.cell? ⟨C,0,none⟩=some (.bool (rB d))/\wx.cell? ⟨C,1,none⟩=some (.slice lo ll lc)/\wx.cell? ⟨C,2,none⟩=some (.slice N P Q)):=by
       intro wx hg;have E:some w.heap.size≠some (bs done):=fun e=>G.1 (zJ e).symm
       have n2:some n≠some (bs done):=fun e=>G.2.1 (zJ e).symm
       have n3:some bo≠some (bs done):=fun e=>G.2.2.1 (zJ e).symm
       have n4:some C≠some (bs done):=fun e=>G.2.2.2 (zJ e).symm
       obtain ⟨b0,b1,b2,b3,b4,b5,b6,b7,b8,b9,hI⟩:=D.out Y E5.gr;exact ⟨hg.cell b0 E,hg.cell b1 E,hg.cell b2 E,hg.cell b3 E,hg.cell b4 E,hg.cell b5 E,hg.cell b6 E,hg.cell b7 E,hg.cell b8 E,hg.cell b9 E,hg.cell hI E,hg.cell rd n2,hg.cell od n3,hg.cell c0 n4,hg.cell c1 n4,hg.cell c2 n4⟩
      clear t1 t2 t3 t4 t5 hX c0 c1 c2 c3 rd od hu;have GG:Y.grownBy Y none:=ae _ _;obtain ⟨s0,s1,s2,s3,s4,s5,s6,s7,s8,s9,s10,s11,s12,s13,s14,s15⟩:=CX.out Y (ae _ _);have S:f.getD done 0<m+1:=O
      have hG:(0:Int)<=(done:Int):=O
      have hH:(done:Int)<(m:Int):=O
      obtain ⟨kk,hq⟩:=eX (f.getD done 0);go_wp2_with fail;go_cut [56] (fun s56 wx=>Hid (r9 W wx n bo C m bs cs f (fw R (f.getD done 0) done u d 0) d L))
      case first =>
       go_region_held3 (fun l=>l.cell? ⟨w.heap.size,0,none⟩=some (.bool H)/\l.cell? ⟨w.heap.size,1,none⟩=some (.slice I fl fc)/\l.cell? ⟨w.heap.size,2,none⟩=some (.slice o q A)/\l.cell? ⟨w.heap.size,3,none⟩=some (.func (.func 60) #[] #[])/\l.cell? ⟨w.heap.size,4,none⟩=some (.func (.func 61) #[] #[])/\l.cell? ⟨w.heap.size,5,none⟩=some (.func (.func 62) #[] #[])/\l.cell? ⟨w.heap.size,6,none⟩=some (.func (.func 63) #[] #[])/\l.cell? ⟨w.heap.size,7,none⟩=some (.func (.func 64) #[] #[])/\l.cell? ⟨w.heap.size,8,none⟩=some (.func (.func 65) #[] #[])/\l.cell? ⟨w.heap.size,9,none⟩=some (.func (.func 66) #[] #[])/\l.cell? ⟨w.heap.size,10,none⟩=some (.func (.func 67) #[] #[])/\l.cell? ⟨n,done,none⟩=some (.slice (some ⟨bs (done),0,none⟩) (m+1) (cs (done)))/\l.cell? ⟨bo,done,none⟩=some (.int .i64 ((f.getD done 0:Nat):Int))/\l.cell? ⟨C,0,none⟩=some (.bool (rB d))/\l.cell? ⟨C,1,none⟩=some (.slice lo ll lc)/\l.cell? ⟨C,2,none⟩=some (.slice N P Q)) (go_keep)
        (first | (go_at_call 114;refine (uz H I o fl fc q A (bs done) (m+1) (cs done) (f.getD done 0) (R done) d _ L _ ((E5.mat.row done hlt).keep0 zF) (D3.keep0 zF) (H1.keep0 (aa (aa GW E5.gr) zF)) S hv hr hL1 O).mono ?_;rintro e wa ⟨rfl,fa,ra⟩;rw [<- HU] at fa;have KS:=ab (((E5.keep0 zF).row S3 hlt fa ra).congr (fun t ht j hj=>xf R (f.getD done 0) done u d t j));obtain ⟨a0,a1,a2,a3,a4,a5,a6,a7,a8,a9,qb,Hb,Hc,Hd,He,Hf⟩:=CX.out wa ((aI.of_gr (b:=bs done) zF).trans ra).1;clear fa ra GG))
       all_goals (go_wp2_with fail;go_meet;exact KS.keep0 zE)
      case rest =>
       have K1:=ab hcut;clear hcut s0 s1 s2 s3 s4 s5 s6 s7 s8 s9 s10 s11 s12 s13 s14 s15 GG CX D3 hq kk;have jc:IntKind.i64.wrap ((done:Int)+1)=(done:Int)+1:=IntWalk.i64_in _ ⟨O,O⟩;have jg:(0:Int)<=(done:Int)+1:=O
       have jk:(done:Int)+1<=(B:Int):=O
       have jl:(done:Int)+1<=(m:Int):=O
       go_upto_region 15 with fail;go_cut [60,61,62] (fun s60 s61 s62 wx=>Hid (∃ off c,s60=.slice (some ⟨n,off,none⟩) (m-(done+1)) c/\m-(done+1)<=c/\c<=9223372036854775807/\(done+1<m->off=done+1)/\s61=.int .i64 ((m-(done+1):Nat):Int)/\s62=.int .i64 0/\r9 W wx n bo C m bs cs f (fw R (f.getD done 0) done u d 0) d L))
       case first =>
        by_cases T:B=done+1
        ·have Hm:(B=done+1)=True:=eq_true T;have kb:=ab T;clear T;go_wp2
         all_goals (go_meet;exact ⟨_,_,rfl,by have:=kb.out;omega,O,fun h=>absurd h (by have:=kb.out;omega),rfl,rfl,K1⟩)
        ·have jo:(B=done+1)=False:=eq_false T;clear T;go_wp2
         all_goals (go_meet;exact ⟨_,_,rfl,O,O,fun _=>rfl,rfl,rfl,K1⟩)
       case rest =>
        obtain ⟨off,c,rfl,Hu,Hj,qc,rfl,rfl,e3⟩:=hcut.out;have K2:=ab e3;clear hcut e3 K1 jc jg jk jl;go_wp2;go_loopw [62] (fun v wx=>Hid (ElmR W n bo C m done bs cs f R u d L v wx)) (fun v _=>m-(intOf v).toNat)
        case atStart=>exact ⟨0,O,rfl,K2⟩
        case round =>
         obtain ⟨i,hi,rfl,e4⟩:=hrel.out;have K3:=ab e4;obtain ⟨lo,ll,lc,N,P,Q,c0,c1,c2,c3,cf⟩:=e4.var.var;have D3:=ab c3;have rd:=(e4.mat.cell done hlt).1;have od:=e4.ord.at done hlt;by_cases F:done+1+i<m
         ·obtain rfl:off=done+1:=qc O;have ri:=(e4.mat.cell (done+1+i) F).1;obtain ⟨qf,hA⟩:=e4.mat.cap (done+1+i) F;have kc:=ab hA;unfold maxLen at hA;have G:Hid (bs (done+1+i)≠w.heap.size/\bs (done+1+i)≠n/\bs (done+1+i)≠bo/\bs (done+1+i)≠C):=⟨by have:=(S3 _ F).1;have:=hQ.out;omega,e4.mat.off _ F,(e4.neo hm0).2 _ F,(S3 _ F).2⟩;have CX:Hid (∀ wx,wr.grownBy wx (some (bs (done+1+i)))->wx.cell? ⟨w.heap.size,0,none⟩=some (.bool H)/\wx.cell? ⟨w.heap.size,1,none⟩=some (.slice I fl fc)/\wx.cell? ⟨w.heap.size,2,none⟩=some (.slice o q A)/\wx.cell? ⟨w.heap.size,3,none⟩=some (.func (.func 60) #[] #[])/\wx.cell? ⟨w.heap.size,4,none⟩=some (.func (.func 61) #[] #[])/\wx.cell? ⟨w.heap.size,5,none⟩=some (.func (.func 62) #[] #[])/\wx.cell? ⟨w.heap.size,6,none⟩=some (.func (.func 63) #[] #[])/\wx.cell? ⟨w.heap.size,7,none⟩=some (.func (.func 64) #[] #[])/\wx.cell? ⟨w.heap.size,8,none⟩=some (.func (.func 65) #[] #[])/\wx.cell? ⟨w.heap.size,9,none⟩=some (.func (.func 66) #[] #[])/\wx.cell? ⟨w.heap.size,10,none⟩=some (.func (.func 67) #[] #[])/\wx.cell? ⟨n,done,none⟩=some (.slice (some ⟨bs (done),0,none⟩) (m+1) (cs (done)))/\wx.cell? ⟨bo,done,none⟩=some (.int .i64 ((f.getD done 0:Nat):Int))/\wx.cell? ⟨C,0,none⟩=some (.bool (rB d))/\wx.cell? ⟨C,1,none⟩=some (.slice lo ll lc)/\wx.cell? ⟨C,2,none⟩=some (.slice N P Q)):=by
           intro wx hg;have E:some w.heap.size≠some (bs (done+1+i)):=fun e=>G.1 (zJ e).symm
           have n2:some n≠some (bs (done+1+i)):=fun e=>G.2.1 (zJ e).symm
           have n3:some bo≠some (bs (done+1+i)):=fun e=>G.2.2.1 (zJ e).symm
           have n4:some C≠some (bs (done+1+i)):=fun e=>G.2.2.2 (zJ e).symm
           obtain ⟨b0,b1,b2,b3,b4,b5,b6,b7,b8,b9,hI⟩:=D.out wr K3.gr;exact ⟨hg.cell b0 E,hg.cell b1 E,hg.cell b2 E,hg.cell b3 E,hg.cell b4 E,hg.cell b5 E,hg.cell b6 E,hg.cell b7 E,hg.cell b8 E,hg.cell b9 E,hg.cell hI E,hg.cell rd n2,hg.cell od n3,hg.cell c0 n4,hg.cell c1 n4,hg.cell c2 n4⟩
          clear e4 c0 c1 c2 c3 cf rd od hrel K2;have GG:wr.grownBy wr none:=ae _ _;obtain ⟨s0,s1,s2,s3,s4,s5,s6,s7,s8,s9,s10,s11,s12,s13,s14,s15⟩:=CX.out wr (ae _ _);have Hn:i<m-(done+1):=O
          have jp:Hid (aH wr (bs (done+1+i)) (m+1) (R (done+1+i)) L):=by have h:=K3.out.mat.row _ F;rw [wZ] at h;exact h
          have jv:Hid (aH wr (bs done) (m+1) (fun j=>u*R done j) L):=(K3.mat.row done hlt).congr (fun j _=>gL ..);have mc:Hid (bs (done+1+i)≠bs done):=fun e=>by have:=K3.out.mat.inj _ _ F hlt e;omega
          go_wp2_with fail;go_region_held3 (fun l=>l.cell? ⟨w.heap.size,0,none⟩=some (.bool H)/\l.cell? ⟨w.heap.size,1,none⟩=some (.slice I fl fc)/\l.cell? ⟨w.heap.size,2,none⟩=some (.slice o q A)/\l.cell? ⟨w.heap.size,3,none⟩=some (.func (.func 60) #[] #[])/\l.cell? ⟨w.heap.size,4,none⟩=some (.func (.func 61) #[] #[])/\l.cell? ⟨w.heap.size,5,none⟩=some (.func (.func 62) #[] #[])/\l.cell? ⟨w.heap.size,6,none⟩=some (.func (.func 63) #[] #[])/\l.cell? ⟨w.heap.size,7,none⟩=some (.func (.func 64) #[] #[])/\l.cell? ⟨w.heap.size,8,none⟩=some (.func (.func 65) #[] #[])/\l.cell? ⟨w.heap.size,9,none⟩=some (.func (.func 66) #[] #[])/\l.cell? ⟨w.heap.size,10,none⟩=some (.func (.func 67) #[] #[])/\l.cell? ⟨n,done,none⟩=some (.slice (some ⟨bs (done),0,none⟩) (m+1) (cs (done)))/\l.cell? ⟨bo,done,none⟩=some (.int .i64 ((f.getD done 0:Nat):Int))/\l.cell? ⟨C,0,none⟩=some (.bool (rB d))/\l.cell? ⟨C,1,none⟩=some (.slice lo ll lc)/\l.cell? ⟨C,2,none⟩=some (.slice N P Q)) (go_keep)
           (first | (go_at_call 115;refine (yf H I o fl fc q A (bs (done+1+i)) (bs done) (m+1) (cs (done+1+i)) (cs done) (f.getD done 0) (R (done+1+i)) (fun j=>u*R done j) d _ L _ (jp.keep0 zF) (jv.keep0 zF) mc (D3.keep0 zF) S qf kc hv hr hL1 O J.dn (fun j _=>Cs J hlt hF ka HB hC hL1 hN _ O F j)).mono ?_;rintro e wa ⟨rfl,fa,ra⟩;have KS:=ab (((K3.keep0 zF).row S3 F fa ra).congr (fun t ht j hj=>xe R (f.getD done 0) done u d i t j));obtain ⟨a0,a1,a2,a3,a4,a5,a6,a7,a8,a9,qb,Hb,Hc,Hd,He,Hf⟩:=CX.out wa ((aI.of_gr (b:=bs (done+1+i)) zF).trans ra).1;clear fa ra GG))
          all_goals
           go_wp2;go_roundw
           case rel=>exact ⟨i+1,O,zN,KS.keep0 zE⟩
           case measure=>simp [intOf];omega
         ·obtain rfl:i=m-(done+1):=O
          obtain ⟨p,hp⟩:=eX (u*R done (f.getD done 0));obtain ⟨po,pl,pc,Hv,Hw,Hx,e0,e1,e2,e3,_⟩:=(e4.mat.row done hlt).at (f.getD done 0) S;rw [gL,<- hp] at e0 e3;have P3:=ab e3;have HP:=ab hp;have Ho:=cf 0;have Hp:=cf 1;have Hq:=cf 2;clear e4 e3 hp hrel K2 c3 cf;have hG:(0:Int)<=((f.getD done 0:Nat):Int):=O
          have hH:((f.getD done 0:Nat):Int)<(m:Int)+1:=O
          obtain ⟨kk,hq⟩:=eX (f.getD done 0);rw [<- hq] at od e0 e1 e2 hG hH;clear hq;go_wp2;have V:=ab (K3.var.varset2 P3);have K4:=ab (K3.last S3 M.1 M.2.1 M.2.2.1 V.1 V.2);go_region
          all_goals
           go_wp2;go_roundw
           case rel =>
            refine ⟨done+1,bs,cs,U,f,_,p,u*s,O,zN,?_,fun t ht j=>elim_wh J hlt hF HB hC S2 _ _ t ht j,S3,K4.keep0 (by first | exact aA | exact ae _ _ | exact aP _)⟩;rw [HP];exact qU J hlt hF ka
           case measure=>simp [intOf];omega
     ·have M5:=ab (M1.keep0 g5);have G5:=ab (aa G1 g5);have kf:=ab qa;clear g5 qa s0 s1 s2 s3 s4 s5 s6 s7 s8 s9 s10;obtain ⟨s0,s1,s2,s3,s4,s5,s6,s7,s8,s9,s10⟩:=D.out Y G5;have hG:(0:Int)<=(done:Int):=O
      have hH:(done:Int)<=(B:Int):=O
      have Hr:(done:Int)<=(m:Int):=O
      have jo:(B=done)=False:=eq_false O;have GG:Y.grownBy Y none:=ae _ _;go_wp2_with fail;go_region_held3 (fun l=>l.cell? ⟨w.heap.size,0,none⟩=some (.bool H)/\l.cell? ⟨w.heap.size,1,none⟩=some (.slice I fl fc)/\l.cell? ⟨w.heap.size,2,none⟩=some (.slice o q A)/\l.cell? ⟨w.heap.size,3,none⟩=some (.func (.func 60) #[] #[])/\l.cell? ⟨w.heap.size,4,none⟩=some (.func (.func 61) #[] #[])/\l.cell? ⟨w.heap.size,5,none⟩=some (.func (.func 62) #[] #[])/\l.cell? ⟨w.heap.size,6,none⟩=some (.func (.func 63) #[] #[])/\l.cell? ⟨w.heap.size,7,none⟩=some (.func (.func 64) #[] #[])/\l.cell? ⟨w.heap.size,8,none⟩=some (.func (.func 65) #[] #[])/\l.cell? ⟨w.heap.size,9,none⟩=some (.func (.func 66) #[] #[])/\l.cell? ⟨w.heap.size,10,none⟩=some (.func (.func 67) #[] #[])) (go_keep)
       (first | (go_at_call 113;refine (Ep H I o fl fc q A n m B done bs cs R L _ (M5.keep0 zF) O O k2 hD).mono ?_;rintro e wa ⟨ca,rfl,ql,ga⟩;have md:=ab ql;clear ql;have GG:Y.grownBy wa none:=aa zF ga;obtain ⟨a0,a1,a2,a3,a4,a5,a6,a7,a8,a9,qb⟩:=D.out wa (aa G5 GG)))
      all_goals
       go_wp2;go_ret2
       rcases md.out with ⟨e7,i,Hg,Hh,hn⟩ | ⟨e8,hn⟩
       ·refine .inr (.inl ⟨by rw [e7];rfl,aa (aa GW G5) zF,?_⟩);rintro ⟨x,hx⟩;exact st_none J kf Hg Hh hn ⟨x,(mv K m x).2 hx⟩
       ·refine .inr (.inr ⟨by rw [e8];rfl,aa (aa GW G5) zF,?_⟩);obtain ⟨x,y,hx,hy,Hi⟩:=st_many J hlt kf hn;exact ⟨x,y,(mv K m x).1 hx,(mv K m y).1 hy,Hi⟩
    ·obtain rfl:done=m:=O
     obtain ⟨lo,ll,lc,N,P,Q,c0,c1,c2,c3,_⟩:=F1.out.var;obtain ⟨X,ip,qo,qq,qs,yc⟩:=back_of J hm0 HB hC S2 L LS hL1 hN O HS;have D3:=ab c3;clear c3;go_wp2_with fail;refine (Av H I o fl fc q A n bo done B done bs cs R (fun i=>f.getD i 0) ip (fun j=>d*X j) d _ L LS wr M1 O1 D3 qs J.dn O k2 hD zL (by unfold maxLen;omega) hL1 hL hLS hLS2).mono ?_;rintro e Y ⟨g,rfl,q1,q2,q3⟩;have Q2:=ab q2;have Q3:=ab q3;have ml:=ab qo;have mm:=ab qq;have mo:=ab yc;clear q2 q3 qo qq qs yc s0 s1 s2 s3 s4 s5 s6 s7 s8 s9 s10 c0 c1 c2;go_wp2;go_ret2
     refine .inl ⟨g,X,rfl,?_,Q2.congr (fun j _=>mo j),aa (aa GW G1) Q3,(mv K done X).1 ml,fun z hz j hj=>mm z ((mv K done z).2 hz) j hj⟩;have:=(aa GW G1).size;omega
def di (w:World) (base:Nat) (v:Value) (n:Nat) (R:Nat->Rat) (L:Nat):Prop :=
 ∃ ao c,v=.slice ao n c/\n<=c/\c<=maxLen/\(0<n->∃ g,ao=some ⟨g,0,none⟩/\base<=g/\aH w g n R L)
theorem di.keep0 {a:World} {base:Nat} {v:Value} {n:Nat} (h:di w base v n R L) (g:w.grownBy a none):di a base v n R L:=by
 obtain ⟨d,c,e,f,i,j⟩:=h;refine ⟨d,c,e,f,i,fun o=>?_⟩;obtain ⟨b,k,l,m⟩:=j o;exact ⟨b,k,l,m.keep0 g⟩
theorem aH.piece {b n:Nat} (h:aH w b n R L) (o k:Nat) (z:o+k<=n):∃ xs:List Value,xs.length=k*3/\(∀ j u,xs[j]? = some u->w.cell? ⟨b,o*3+j,none⟩=some u)/\(∀ u∈xs,u.oneCell'=true)
  /\ ∀ (w':World) (g:Nat) (cur':Array Value) (e:TypeId),aL w w'->w'.heap[g]? = some (.cells cur' e (0,0))->cur'.toList.take (k*3)=xs->aH w' g k (fun i=>R (o+i)) L:=by
 obtain ⟨f,e,hb,hc⟩:=h;have A:(o+k)*3<=f.size:=by
  rcases zP (o+k) with G | G
  ·omega
  ·obtain ⟨u,d,_,_,r,_⟩:=hc (o+k-1) O;have:=(zZ r).1;omega
 have l:∀ j,j<k*3->((f.toList.drop (o*3)).take (k*3))[j]? = f[o*3+j]?:=by
  intro j c;rw [List.getElem?_take,if_pos c,List.getElem?_drop,Array.getElem?_toList]
 refine ⟨(f.toList.drop (o*3)).take (k*3),by simp;omega,?_,?_,?_⟩
 ·intro j u c;have m:j<k*3:=by
   have:=(zY c).1;simp at this;omega
  rw [l j m] at c;simp only [World.cell?,hb];exact c
 ·intro u B;obtain ⟨j,c⟩:=List.mem_iff_getElem?.1 B;have m:j<k*3:=by
   have:=(zY c).1;simp at this;omega
  rw [l j m] at c;obtain ⟨a,d,c0,c1,r,t⟩:=hc (o+j / 3) O;obtain ⟨I,J,K,H,M,N,y⟩:=t.shape;simp only [Value.agg.injEq,Array.mk.injEq,List.cons.injEq,and_true,true_and] at y;obtain ⟨rfl,rfl⟩:=y;have p:o*3+j=(o+j / 3)*3∨o*3+j=(o+j / 3)*3+1∨o*3+j=(o+j / 3)*3+2:=O
  rcases p with s | s | s
  ·rw [s,c0] at c;rw [<- zJ c];rfl
  ·rw [s,c1] at c;rw [<- zJ c];rfl
  ·rw [s,r] at c;rw [<- zJ c];rfl
 ·intro w' g cur' C D hg E;refine ⟨cur',C,hg,fun i hi=>?_⟩;obtain ⟨u,d,c0,c1,r,t⟩:=hc (o+i) O;have q:∀ j v,j<k*3->f[o*3+j]? = some v->cur'[j]? = some v:=by
   intro j v c F;have x:(cur'.toList.take (k*3))[j]? = ((f.toList.drop (o*3)).take (k*3))[j]?:=by rw [E]
   rw [l j c,List.getElem?_take,if_pos c,Array.getElem?_toList,F] at x;exact x
  refine ⟨u,d,q _ _ O ?_,q _ _ O ?_,q _ _ O ?_,t.kept D⟩
  ·rw [show o*3+i*3=(o+i)*3 by omega];exact c0
  ·rw [show o*3+(i*3+1)=(o+i)*3+1 by omega];exact c1
  ·rw [show o*3+(i*3+2)=(o+i)*3+2 by omega];exact r
theorem jE (b off n cap:Nat) (R:Nat->Rat) (L:Nat) (w:World) (xs:List Value) (z:xs.length=n*3) (x:∀ j u,xs[j]? = some u->w.cell? ⟨b,off+j,none⟩=some u) (y:∀ u∈xs,u.oneCell'=true)
  (x4:∀ (w':World) (g:Nat) (cur':Array Value) (e:TypeId),aL w w'->w'.heap[g]? = some (.cells cur' e (0,0))->cur'.toList.take (n*3)=xs->aH w' g n R L) (hn:n<=3000) (hc:n<=cap) (hm:cap<=maxLen) :
  Calls Tryz.prog 73 #[.slice (some ⟨b,off,none⟩) n cap] w
   fun e w'=>∃ v,e=.returned v/\di w' w.heap.size v n R L/\w.grownBy w' none:=by
 obtain ⟨G,hi,o,p,q⟩:=info_parts Tryz.infoF;have A:=ab x;have B:=ab y;have C:=ab x4;have i:=hm;unfold maxLen at i;clear x y x4 hm;have H:∀ W,(binOp .eql 58 (.slice (some ⟨b,off,none⟩) n cap) (.slice none 0 0)).run Tryz.prog W=.ok (.bool false) W:=fun W=>Lib.run_eql_slice_nil W _ _ (some _) _ _ 0 0 Tryz.underlying58
 go_enter Tryz.func73,Tryz.ntmps73
 go_wp2_with (at_builtin;refine wpList_append_own _ rfl _ _ 58 rfl w.heap.size 81 G _ 3 56 Tryz.underlying58 hi o p q rfl zD _ 0 [] rfl ?c0 ⟨b,off,none⟩ n cap xs rfl ?c1 ?c2 ?c3 ?c4 ?c5 ?c6 ?_)
 case c0=>exact World.ownsRow_made w #[] 0 zL (by unfold maxLen;omega) Z
 case c1=>exact z
 case c2 =>
  intro j u E;have k:=(World.grownBy_alloc w (Obj.cells #[] 81) none).cell (A j u E) Z;rw [show (⟨b,off,none⟩:Addr).add j=⟨b,off+j,none⟩ from by simp [Addr.add]];exact k
 case c3=>exact B
 case c4=>unfold maxLen;omega
 case c5=>omega
 case c6=>simp
 intro F w1 d f m;have a:w.grownBy w1 none:=aw (r1:=none) (World.grownBy_alloc w _ none) f (fun _ _ e=>e) (fun b hb e=>by simp [Value.ownBlock] at e;omega);have D:=ab a;have l:Hid (di w1 w.heap.size F n R L):=by
  rcases d.2 with ⟨e,I⟩ | ⟨g,h,r,e,hb,hh,J,k,K,s⟩
  ·exact ⟨none,0,by rw [e];congr 1;omega,O,by unfold maxLen;omega,fun N=>O⟩
  ·refine ⟨_,h,by first | exact e | (rw [e,Nat.zero_add]),O,k,fun _=>⟨g,rfl,hb,C w1 g r _ (aL.of_gr a) hh ?_⟩⟩;first | exact s | (rw [Nat.zero_add] at s;exact s)
 obtain ⟨M,c,t,_⟩:=l.out;rw [t];rw [t] at l;clear d f a m t;go_wp2;go_ret;exact ⟨_,rfl,l,D⟩
end Go.Proofs.YtkbmbmdemajoaaaGreatDoor
