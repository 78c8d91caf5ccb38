/- Contracts that the proof leans on. -/
import Derived.Test.YtgilmecjbjoonabGreatDoorCCSb
import Derived.Test.YtgilmecjbjoonabGreatDoorCCNa
namespace Go.Proofs.YtgilmecjbjoonabGreatDoor
open Go.RowKit
set_option linter.unusedVariables false
set_option linter.unusedSimpArgs false
set_option maxHeartbeats 8000000
set_option maxRecDepth 10000
def lk (w:World) (k:Nat) (R:Nat->Rat) (L:Nat) (e:Ending) (w':World):Prop:=∃ g,e=.returned (.slice (some ⟨g,0,none⟩) k k)/\w.heap.size<=g/\aK w' g k R L/\w.grownBy w' none
theorem je (n k:Nat) (po:Option Addr) (pc:Nat) (w:World) (hn:n<=1000) (hk:k<=1000) :
  Calls Tryz.prog 196 #[.agg #[.int .i64 ((n:Nat):Int),.slice po k pc]] w fun e w'=>lk w (n+k+1) (fun _=>0) 0 e w':=by
 have h1:IntKind.i64.wrap ((n:Int)+(k:Int))=(n:Int)+(k:Int):=IntWalk.i64_in _ ⟨by omega,by omega⟩;have h2:IntKind.i64.wrap ((n:Int)+(k:Int)+1)=(n:Int)+(k:Int)+1:=IntWalk.i64_in _ ⟨by omega,by omega⟩;go_enter Tryz.func196,Tryz.ntmps196
 go_wp2_with (at_make;refine jW _ rfl _ _ 92 rfl Tryz.underlying92 Tryz.infoF _ _ _ _ (n+k+1) rfl rfl (by omega) (by omega) (by omega) ?_)
 intro w1 hf1 hg1;have F1:=ab hf1;have G1:=ab hg1;clear hf1 hg1;go_wp2;go_ret;refine ⟨_,rfl,by simp,F1.out,aa (ag (ae _ _) _) G1.out⟩
def lN (p:aU) (j:Nat):Rat:=(if p.a=(j:Int) then 0+1 else 0)-(if p.b=(j:Int) then 1 else 0)
def dN (n:Nat) (ps:List aU) (j:Nat):Nat->Rat:=fun x=>if x<n then 0 else match ps[x-n]? with | some p=>lN p j | none=>0
def dJ (n:Nat) (ps:List aU) (j i:Nat):Nat->Rat:=fun x=>if x<n+i then dN n ps j x else 0
theorem iw (n:Nat) (ps:List aU) (j i:Nat) (hi:i<ps.length) (x:Nat):bq (dJ n ps j i) (n+i) (lN ps[i] j) x=dJ n ps j (i+1) x:=by
 unfold bq dJ;by_cases h:x=n+i
 ·rw [if_pos h,if_pos (by omega),h];unfold dN;rw [if_neg (by omega),show n+i-n=i by omega,List.getElem?_eq_getElem hi]
 ·rw [if_neg h];by_cases h2:x<n+i
  ·rw [if_pos h2,if_pos (by omega)]
  ·rw [if_neg h2,if_neg (by omega)]
theorem put_put (R:Nat->Rat) (k:Nat) (a b:Rat) (x:Nat):bq (bq R k a) k b x=bq R k b x:=by
 unfold bq;by_cases h:x=k
 ·rw [if_pos h,if_pos h]
 ·rw [if_neg h,if_neg h,if_neg h]
theorem rG (n:Nat) (ps:List aU) (j i:Nat) (hi:i<ps.length) (h:lN ps[i] j=0) (x:Nat):dJ n ps j i x=dJ n ps j (i+1) x:=by
 rw [<- iw n ps j i hi x,h];unfold bq dJ;by_cases h:x=n+i
 ·rw [if_pos h,if_neg (by omega)]
 ·rw [if_neg h]
theorem xN {p:aU} {j:Nat} (h1:p.a=(j:Int)) (h2:p.b=(j:Int)):lN p j=0+1-1:=by unfold lN;rw [if_pos h1,if_pos h2]
theorem xM {p:aU} {j:Nat} (h1:p.a=(j:Int)) (h2:¬ p.b=(j:Int)):lN p j=0+1:=by unfold lN;rw [if_pos h1,if_neg h2];grind
theorem xL {p:aU} {j:Nat} (h1:¬ p.a=(j:Int)) (h2:p.b=(j:Int)):lN p j=0-1:=by unfold lN;rw [if_neg h1,if_pos h2]
theorem xK {p:aU} {j:Nat} (h1:¬ p.a=(j:Int)) (h2:¬ p.b=(j:Int)):lN p j=0:=by unfold lN;rw [if_neg h1,if_neg h2];grind
def NodR (W:World) (g n:Nat) (ps:List aU) (j L:Nat) (v:Value) (wr:World):Prop :=
 ∃ i:Nat,i<=ps.length/\v=.int .i64 i/\aK wr g (n+ps.length+1) (dJ n ps j i) L/\aW W wr g
theorem tP (fb:Bool) (fo fo2:Option Addr) (fl fc fl2 fc2:Nat) (n j:Nat) (pv:Value) (ps:List aU) (L:Nat) (w:World) (h1:FQ w (.agg #[.bool fb,.slice fo fl fc,.slice fo2 fl2 fc2]) 1 L) (hp:aV w pv ps)
  (hj:j<n) (hj0:j≠0) (hn:n<=1000) (hk:ps.length<=1000) (hL1:1<=L) (hL:L<=100000000) :
  Calls Tryz.prog 160 #[(iP fb (.slice fo fl fc) (.slice fo2 fl2 fc2)),.agg #[.int .i64 ((n:Nat):Int),pv],.int .i64 ((j:Nat):Int)] w fun e w'=>lk w (n+ps.length+1) (dN n ps j) L e w':=by
 have H1:=ab h1;have HP:=ab hp;obtain ⟨ao,cap,rfl,hp1,hp2,hp3⟩:=hp;have HPC:=ab hp3;have F01:Hid (bN L (0+1)):=by
  have e:(0:Rat)+1=1:=by grind
  rw [e];exact h1.fits hL1
 have F00:Hid (bN L (0+1-1)):=by
  have e:(0:Rat)+1-1=0:=by grind
  rw [e];exact (bI w L).fits hL1
 have F0m:Hid (bN L (0-1)):=by
  have e:(0:Rat)-1 = -1:=by grind
  rw [e];exact (h1.fits hL1).neg
 unfold maxLen at hp2;clear h1 hp3;obtain ⟨W,hW⟩:∃ W,W=(w.alloc (Obj.cells #[.bool fb,.slice fo fl fc,.slice fo2 fl2 fc2,.func (.func 153) #[] #[],.func (.func 132) #[] #[],.func (.func 88) #[] #[],.func (.func 53) #[] #[],.func (.func 154) #[] #[],.func (.func 155) #[] #[],.func (.func 156) #[] #[],.func (.func 157) #[] #[]] 145)).alloc (Obj.cells #[.int .i64 ((n:Nat):Int),.slice ao ps.length cap] 24):=⟨_,rfl⟩;have GW:Hid (w.grownBy W none):=by rw [hW];exact ag (ag (ae _ _) _) _
 have HWS:Hid (W.heap.size=w.heap.size+2):=by show _=_;rw [hW];simp
 have BASE:Hid (∀ wx g,W.heap.size<=g->W.grownBy wx (some g)->wx.cell? ⟨w.heap.size,4,none⟩=some (.func (.func 132) #[] #[])/\wx.cell? ⟨w.heap.size,5,none⟩=some (.func (.func 88) #[] #[])/\wx.cell? ⟨w.heap.size,0,none⟩=some (.bool fb)/\wx.cell? ⟨w.heap.size,1,none⟩=some (.slice fo fl fc)/\wx.cell? ⟨w.heap.size,2,none⟩=some (.slice fo2 fl2 fc2)/\wx.cell? ⟨w.heap.size+1,0,none⟩=some (.int .i64 ((n:Nat):Int))/\wx.cell? ⟨w.heap.size+1,1,none⟩=some (.slice ao ps.length cap)):=by
  intro wx g hgs hg;have hsz:=HWS.out;rw [hW] at hg;have n1:some w.heap.size≠some g:=fun e=>by have:=Option.some.inj e;omega
  have n2:some (w.heap.size+1)≠some g:=fun e=>by have:=Option.some.inj e;omega
  exact ⟨hg.cell (by go_simp) n1,hg.cell (by go_simp) n1,hg.cell (by go_simp) n1,hg.cell (by go_simp) n1,hg.cell (by go_simp) n1,hg.cell (by go_simp) n2,hg.cell (by go_simp) n2⟩
 obtain ⟨s0,s1,s2,s3,s4,s5,s6⟩:=BASE.out W W.heap.size (Nat.le_refl _) (ae _ _);go_enter Tryz.func160,Tryz.ntmps160
 go_upto_region 1 with fail;rw [<- hW];clear hW;go_wp2_with fail;refine (je n ps.length ao cap W hn hk).mono ?_;rintro e w1 ⟨g,rfl,hg1,hf1,hgr1⟩;have F1:=ab hf1;have G1:=ab hgr1;have hgg:w.heap.size+2<=g:=by have:=HWS.out;omega
 have CELLS:Hid (∀ wx,aW w1 wx g->wx.cell? ⟨w.heap.size,4,none⟩=some (.func (.func 132) #[] #[])/\wx.cell? ⟨w.heap.size,5,none⟩=some (.func (.func 88) #[] #[])/\wx.cell? ⟨w.heap.size,0,none⟩=some (.bool fb)/\wx.cell? ⟨w.heap.size,1,none⟩=some (.slice fo fl fc)/\wx.cell? ⟨w.heap.size,2,none⟩=some (.slice fo2 fl2 fc2)/\wx.cell? ⟨w.heap.size+1,0,none⟩=some (.int .i64 ((n:Nat):Int))/\wx.cell? ⟨w.heap.size+1,1,none⟩=some (.slice ao ps.length cap)):=fun wx hx=>BASE.out wx g hg1 (au (r:=some g) G1.out hx.1 (fun _ _ e=>by cases e) (fun _ _ e=>e))
 have GA:=ab (aa GW.out hgr1);have hjb:(((j:Nat):Int)==0)=false:=beq_eq_false_iff_ne.2 (by omega);have HSZ1:Hid (w.heap.size+2<=w1.heap.size):=by show _<=_;have:=HWS.out;have:=hgr1.size;omega
 clear hf1 hgr1 s0 s1 s2 s3 s4 s5 s6;obtain ⟨s0,s1,s2,s3,s4,s5,s6⟩:=CELLS.out w1 (aW.refl _ _);go_wp2;go_loopw [23] (fun v wr=>Hid (NodR w1 g n ps j L v wr)) (fun v _=>ps.length-(intOf v).toNat)
 case atStart=>exact ⟨0,by omega,rfl,(F1.out.mono (Nat.zero_le _)).congr (fun x _=>by unfold dJ dN;by_cases h:x<n+0<;>simp_all),aW.refl _ _⟩
 case round =>
  obtain ⟨i,hi,rfl,l1,l2⟩:=hrel.out;have L1:=ab l1;have L2:=ab l2;clear l1 l2 hrel F1 s0 s1 s2 s3 s4 s5 s6;by_cases hlt:i<ps.length
  ·obtain ⟨b,off,rfl,hb,c0,c1,c2,c3,c4,c5,c6⟩:=HPC.out i hlt;obtain ⟨p,hpe⟩:∃ p,p=ps[i]:=⟨_,rfl⟩;rw [<- hpe] at c0 c1 c2 c3 c4 c5 c6;have HPE:=ab hpe;have hbg:some b≠some g:=fun e=>by have:=Option.some.inj e;omega
   have q0:=L2.out.1.cell (GA.out.cell c0 (by simp)) hbg;have q1:=L2.out.1.cell (GA.out.cell c1 (by simp)) hbg;have q2:=L2.out.1.cell (GA.out.cell c2 (by simp)) hbg;have q3:=L2.out.1.cell (GA.out.cell c3 (by simp)) hbg;have q4:=L2.out.1.cell (GA.out.cell c4 (by simp)) hbg;have q5:=L2.out.1.cell (GA.out.cell c5 (by simp)) hbg;clear c0 c1 c2 c3 c4 c5 c6 hpe;obtain ⟨s0,s1,s2,s3,s4,s5,s6⟩:=CELLS.out wr L2.out;have hszr:w.heap.size+2<=wr.heap.size:=Nat.le_trans HSZ1.out L2.out.1.size;have hgr:g<wr.heap.size:=L1.out.lt;go_upto_region 8 with fail;obtain ⟨w2,hw2⟩:∃ w2,w2=wr.alloc (Obj.cells #[.int .i64 p.kind,.int .i64 p.a,.int .i64 p.b,.int .i64 p.c,.int .i64 p.d,.string p.v] 66):=⟨_,rfl⟩;have G2:Hid (wr.grownBy w2 none):=by rw [hw2];exact ag (ae _ _) _
   have PX2:Hid (∀ wx,aW w2 wx g->wx.cell? ⟨wr.heap.size,1,none⟩=some (.int .i64 p.a)/\wx.cell? ⟨wr.heap.size,2,none⟩=some (.int .i64 p.b)):=by
    intro wx hx;have hx1:=hx.1;rw [hw2] at hx1;have n1:some wr.heap.size≠some g:=fun e=>by have:=Option.some.inj e;omega
    exact ⟨hx1.cell (by go_simp) n1,hx1.cell (by go_simp) n1⟩
   rw [<- hw2];clear hw2 q0 q1 q2 q3 q4 q5 s0 s1 s2 s3 s4 s5 s6;have F2:=ab (L1.out.keep0 G2.out);have R2:=ab (L2.out.gr G2.out);have hni:n+i<n+ps.length+1:=by omega
   have hwn:IntKind.i64.wrap ((n:Int)+(i:Int))=(n:Int)+(i:Int):=IntWalk.i64_in _ ⟨by omega,by omega⟩;have hni1:(0:Int)<=(n:Int)+(i:Int):=by omega
   have hni2:(n:Int)+(i:Int)<(n:Int)+(ps.length:Int)+1:=by omega
   have ng1:g≠w.heap.size:=by omega
   have ng2:g≠w.heap.size+1:=by omega
   have ng3:g≠wr.heap.size:=by omega
   have hz2:dJ n ps j i (n+i)=0:=by unfold dJ;rw [if_neg (by omega)]
   have HZ2:=ab hz2;clear hz2;have S2:=CELLS.out w2 R2.out;obtain ⟨s0,s1,s2,s3,s4,s5,s6⟩:=S2;obtain ⟨t1,t2⟩:=PX2.out w2 (aW.refl _ _);by_cases hA:p.a=(j:Int)
   ·have hAb:(p.a==(j:Int))=true:=beq_iff_eq.2 hA;have HA:=ab hA;clear hA;obtain ⟨uoa,ula,uca,voa,vla,vca,r0,r1,r2,r3,rf⟩:=F2.out.at (n+i) hni;rw [HZ2.out] at r0 r3;have X3a:=ab r3;have H1a:=ab (H1.out.kept ((bm.of_gr GA.out).trans R2.out.2));have CXa:Hid (∀ wx,w2.grownBy wx none->wx.cell? ⟨w.heap.size,4,none⟩=some (.func (.func 132) #[] #[])/\wx.cell? ⟨w.heap.size,5,none⟩=some (.func (.func 88) #[] #[])/\wx.cell? ⟨w.heap.size,0,none⟩=some (.bool fb)/\wx.cell? ⟨w.heap.size,1,none⟩=some (.slice fo fl fc)/\wx.cell? ⟨w.heap.size,2,none⟩=some (.slice fo2 fl2 fc2)/\wx.cell? ⟨w.heap.size+1,0,none⟩=some (.int .i64 ((n:Nat):Int))/\wx.cell? ⟨w.heap.size+1,1,none⟩=some (.slice (some ⟨b,off,none⟩) ps.length cap)/\wx.cell? ⟨wr.heap.size,1,none⟩=some (.int .i64 p.a)/\wx.cell? ⟨wr.heap.size,2,none⟩=some (.int .i64 p.b)):=by
     intro wx hg;obtain ⟨z0,z1,z2,z3,z4,z5,z6⟩:=CELLS.out wx (R2.out.gr hg);obtain ⟨t1,t2⟩:=PX2.out wx (aW.of_gr hg);exact ⟨z0,z1,z2,z3,z4,z5,z6,t1,t2⟩
    have ROWa:Hid (∀ wx,w2.grownBy wx none->aK wx g (n+ps.length+1) (dJ n ps j i) L/\wx.cell? ⟨g,(n+i)*3,none⟩=some (.bool (rB (0)))/\wx.cell? ⟨g,(n+i)*3+1,none⟩=some (.slice uoa ula uca)/\wx.cell? ⟨g,(n+i)*3+2,none⟩=some (.slice voa vla vca)/\∀ k,wx.frozen? ⟨g,k,none⟩=false):=by
     intro wx hg;have hr:=F2.out.keep0 hg;obtain ⟨_,_,_,_,_,_,_,_,_,_,hf⟩:=hr.at (n+i) hni;exact ⟨hr,hg.cell r0 (by simp),hg.cell r1 (by simp),hg.cell r2 (by simp),hf⟩
    clear r0 r1 r2 r3 rf;have GG:w2.grownBy w2 none:=ae _ _;obtain ⟨s0,s1,s2,s3,s4,s5,s6,t1,t2⟩:=CXa.out w2 GG;obtain ⟨fr,r0,r1,r2,rf⟩:=ROWa.out w2 GG;clear fr rf;go_wp2;refine wp_region_held_drew (S:=(fun w'=>w'.cell? ⟨w.heap.size,4,none⟩=some (.func (.func 132) #[] #[])/\w'.cell? ⟨w.heap.size,5,none⟩=some (.func (.func 88) #[] #[])/\w'.cell? ⟨w.heap.size,0,none⟩=some (.bool fb)/\w'.cell? ⟨w.heap.size,1,none⟩=some (.slice fo fl fc)/\w'.cell? ⟨w.heap.size,2,none⟩=some (.slice fo2 fl2 fc2)/\w'.cell? ⟨w.heap.size+1,0,none⟩=some (.int .i64 ((n:Nat):Int))/\w'.cell? ⟨w.heap.size+1,1,none⟩=some (.slice (some ⟨b,off,none⟩) ps.length cap)/\w'.cell? ⟨wr.heap.size,1,none⟩=some (.int .i64 p.a)/\w'.cell? ⟨wr.heap.size,2,none⟩=some (.int .i64 p.b))) (by kernel_rfl) ?zs2y (fun hHeld=>?zr2y)
    case zs2y=>((try dsimp only);go_keep)
    case zr2y =>
     refine wpAnyH_take (i:=0) (oi:=⟨some 36,.move (.tmp 7),92, "net.go:66",#[],none⟩) (v:=.slice (some ⟨g,0,none⟩) (n+ps.length+1) (n+ps.length+1)) rfl (by kernel_rfl) (by kernel_rfl) (by kernel_rfl) (fun _ _ _ h=>h) (Or.inl ⟨by rfl,?zy2y1⟩) (by assumption) ?zr2y1
     case zy2y1=>(intro w hSw;(try dsimp only at hSw);go_simp)
     case zr2y1 =>
      (try simp only [Act.put,aA,aC,aB])
      refine wpAnyH_take (i:=1) (oi:=⟨some 37,.move (.tmp 10),3, "net.go:66",#[],none⟩) (v:=.int .i64 ((n:Int)+(i:Int))) rfl (by kernel_rfl) (by kernel_rfl) (by kernel_rfl) (fun _ _ _ h=>h) (Or.inl ⟨by rfl,?zy2y2⟩) (by assumption) ?zr2y2
      case zy2y2=>(intro w hSw;(try dsimp only at hSw);go_simp)
      case zr2y2 =>
       (try simp only [Act.put,aA,aC,aB])
       refine wpAnyH_take (i:=2) (oi:=⟨some 38,.fieldAddr 145 (.tmp 3) 2,0, "net.go:66",#[],none⟩) (v:=.pointer (some ⟨w.heap.size,4,none⟩)) rfl (by kernel_rfl) (by kernel_rfl) (by kernel_rfl) (fun _ _ _ h=>h) (Or.inl ⟨by rfl,?zy2y3⟩) (by assumption) ?zr2y3
       case zy2y3=>(intro w hSw;(try dsimp only at hSw);go_simp)
       case zr2y3 =>
        (try simp only [Act.put,aA,aC,aB])
        refine wpAnyH_take (i:=3) (oi:=⟨some 39,.load 141 (.tmp 38),141, "net.go:66",#[⟨2,.data⟩],none⟩) (v:=.func (.func 132) #[] #[]) rfl (by kernel_rfl) (by kernel_rfl) (by kernel_rfl) (fun _ _ _ h=>h) (Or.inl ⟨by rfl,?zy2y4⟩) (by assumption) ?zr2y4
        case zy2y4=>(intro w hSw;(try dsimp only at hSw);go_simp)
        case zr2y4 =>
         (try simp only [Act.put,aA,aC,aB])
         refine wpAnyH_take (i:=4) (oi:=⟨some 40,.move (.tmp 7),92, "net.go:66",#[],none⟩) (v:=.slice (some ⟨g,0,none⟩) (n+ps.length+1) (n+ps.length+1)) rfl (by kernel_rfl) (by kernel_rfl) (by kernel_rfl) (fun _ _ _ h=>h) (Or.inl ⟨by rfl,?zy2y5⟩) (by assumption) ?zr2y5
         case zy2y5=>(intro w hSw;(try dsimp only at hSw);go_simp)
         case zr2y5 =>
          (try simp only [Act.put,aA,aC,aB])
          refine wpAnyH_take (i:=5) (oi:=⟨some 41,.move (.tmp 10),3, "net.go:66",#[],none⟩) (v:=.int .i64 ((n:Int)+(i:Int))) rfl (by kernel_rfl) (by kernel_rfl) (by kernel_rfl) (fun _ _ _ h=>h) (Or.inl ⟨by rfl,?zy2y6⟩) (by assumption) ?zr2y6
          case zy2y6=>(intro w hSw;(try dsimp only at hSw);go_simp)
          case zr2y6 =>
           (try simp only [Act.put,aA,aC,aB])
           refine wpAnyH_take (i:=6) (oi:=⟨some 42,.indexAddr 92 (.tmp 40) (.tmp 41),0, "net.go:66",#[⟨4,.data⟩,⟨5,.data⟩],none⟩) (v:=.pointer (some ⟨g,(n+i)*3,none⟩)) rfl (by kernel_rfl) (by kernel_rfl) (by kernel_rfl) (fun _ _ _ h=>h) (Or.inl ⟨by rfl,?zy2y7⟩) (by assumption) ?zr2y7
           case zy2y7=>(intro w hSw;(try dsimp only at hSw);go_simp)
           case zr2y7 =>
            (try simp only [Act.put,aA,aC,aB])
            refine wpAnyH_take (i:=8) (oi:=⟨some 44,.fieldAddr 145 (.tmp 3) 0,0, "net.go:66",#[],none⟩) (v:=.pointer (some ⟨w.heap.size,0,none⟩)) rfl (by kernel_rfl) (by kernel_rfl) (by kernel_rfl) (fun _ _ _ h=>h) (Or.inl ⟨by rfl,?zy2y8⟩) (by assumption) ?zr2y8
            case zy2y8=>(intro w hSw;(try dsimp only at hSw);go_simp)
            case zr2y8 =>
             (try simp only [Act.put,aA,aC,aB])
             refine wpAnyH_take (i:=9) (oi:=⟨some 45,.load 100 (.tmp 44),100, "net.go:66",#[⟨8,.data⟩],none⟩) (v:=Value.agg #[.bool fb,.slice fo fl fc,.slice fo2 fl2 fc2]) rfl (by kernel_rfl) (by kernel_rfl) (by kernel_rfl) (fun _ _ _ h=>h) (Or.inl ⟨by rfl,?zy2y9⟩) (by assumption) ?zr2y9
             case zy2y9=>(intro w hSw;(try dsimp only at hSw);go_simp)
             case zr2y9 =>
              (try simp only [Act.put,aA,aC,aB])
              refine wpAnyH_ready (rs:=[7]) (by kernel_rfl) (by simp) ?_;refine AllReadyH.cons (o:=⟨some 43,.load 100 (.tmp 42),100, "net.go:66",#[⟨6,.data⟩],none⟩) rfl (fun K hK=>?_) AllReadyH.nil;go_simp
              refine hK.out _ _ ?zs2y10 (fun hHeld=>?zr2y10)
              case zs2y10=>((try dsimp only);go_keep)
              case zr2y10 =>
               clear hK K
               (try simp only [Act.put,aA,aC,aB])
               refine wpAnyH_ready (rs:=[10]) (by kernel_rfl) (by simp) ?_;refine AllReadyH.cons (o:=⟨some 46,.call ⟨.value (.tmp 39),#[.tmp 43,.tmp 45],#[100,100]⟩,100, "net.go:66",#[⟨3,.data⟩,⟨7,.data⟩,⟨9,.data⟩],none⟩) rfl (fun K hK=>?_) AllReadyH.nil;go_simp
               go_at_call 132
               refine (kO _ _ (0) 1 L L _ (X3a.out.keep0 (by first | exact aa GG (aj _) | exact aa GG ah | exact GG)) (H1a.out.keep0 (by first | exact aa GG (aj _) | exact aa GG ah | exact GG)) (by omega)).mono ?_;rintro e wam ⟨vm,rfl,pm,gm⟩;have pm:=pm.tight (L':=L) F01.out;obtain ⟨moa,mla,mca,noa,nla,nca,rfl⟩:=pm.shape;have GG:w2.grownBy wam none:=aa (by first | exact aa GG (aj _) | exact aa GG ah | exact GG) gm;obtain ⟨b0,b1,b2,b3,b4,b5,b6,b8,b9⟩:=CXa.out wam GG;obtain ⟨fr,d0,d1,d2,df⟩:=ROWa.out wam GG;have df0:=df ((n+i)*3);have df1:=df ((n+i)*3+1);have df2:=df ((n+i)*3+2);clear df;go_wp2_with fail;refine hK.out _ _ ?zs2y11 (fun hHeld=>?zr2y11)
               case zs2y11=>((try dsimp only);go_keep)
               case zr2y11 =>
                clear hK K
                (try simp only [Act.put,aA,aC,aB])
                refine wpAnyH_take (i:=11) (oi:=⟨some 47,.indexAddr 92 (.tmp 36) (.tmp 37),0, "net.go:66",#[⟨0,.data⟩,⟨1,.data⟩,⟨0,.phase⟩,⟨1,.phase⟩,⟨2,.phase⟩,⟨3,.phase⟩,⟨4,.phase⟩,⟨5,.phase⟩,⟨6,.phase⟩,⟨7,.phase⟩,⟨8,.phase⟩,⟨9,.phase⟩,⟨10,.phase⟩],none⟩) (v:=.pointer (some ⟨g,(n+i)*3,none⟩)) rfl (by kernel_rfl) (by kernel_rfl) (by kernel_rfl) (fun _ _ _ h=>h) (Or.inl ⟨by rfl,?zy2y12⟩) (by assumption) ?zr2y12
                case zy2y12=>(intro w hSw;(try dsimp only at hSw);go_simp)
                case zr2y12 =>
                 (try simp only [Act.put,aA,aC,aB])
                 refine wpAnyH_ready (rs:=[12]) (by kernel_rfl) (by simp) ?_;refine AllReadyH.cons (o:=⟨none,.store 100 (.tmp 47) (.tmp 46),0, "net.go:66",#[⟨11,.data⟩,⟨10,.data⟩,⟨10,.chain⟩,⟨0,.phase⟩,⟨1,.phase⟩,⟨2,.phase⟩,⟨3,.phase⟩,⟨4,.phase⟩,⟨5,.phase⟩,⟨6,.phase⟩,⟨7,.phase⟩,⟨8,.phase⟩,⟨9,.phase⟩,⟨10,.phase⟩],none⟩) rfl (fun K hK=>?_) AllReadyH.nil;go_simp
                 refine hK.out _ _ ?zs2y13 (fun hHeld=>?zr2y13)
                 case zs2y13=>((try dsimp only);go_keep)
                 case zr2y13 =>
                  clear hK K
                  (try simp only [Act.put,aA,aC,aB])
                  refine wpAnyH_done (by kernel_rfl) ?_ _;have FR:=ab fr;have PM:=ab pm;have GF:=ab GG;clear fr pm GG;obtain ⟨w3,hw3⟩:∃ w3,w3=((wam.setCell ⟨g,(n+i)*3,none⟩ (.bool (rB (0+1)))).setCell ⟨g,(n+i)*3+1,none⟩ (.slice moa mla mca)).setCell ⟨g,(n+i)*3+2,none⟩ (.slice noa nla nca):=⟨_,rfl⟩;obtain ⟨y1,y2,y3⟩:=FR.out.set (n+i) hni PM.out;rw [<- hw3] at y1 y2 y3;rw [<- hw3];have F3:=ab y1;have R3:=ab ((R2.out.gr GF.out).trans ⟨y2,y3⟩);have PX3:Hid (∀ wx,aW w3 wx g->wx.cell? ⟨wr.heap.size,1,none⟩=some (.int .i64 p.a)/\wx.cell? ⟨wr.heap.size,2,none⟩=some (.int .i64 p.b)):=fun wx hx=>PX2.out wx (((aW.of_gr GF.out).trans ⟨y2,y3⟩).trans hx)
                  have HZ3:Hid (bq (dJ n ps j i) (n+i) (0+1) (n+i)=0+1):=by show _=_;unfold bq;rw [if_pos rfl]
                  clear hw3 y1 y2 y3 FR PM b0 b1 b2 b3 b4 b5 b6 b8 b9 d0 d1 d2 df0 df1 df2;obtain ⟨s0,s1,s2,s3,s4,s5,s6⟩:=CELLS.out w3 R3.out;obtain ⟨t1,t2⟩:=PX3.out w3 (aW.refl _ _);by_cases hB:p.b=(j:Int)
                  ·have hBb:(p.b==(j:Int))=true:=beq_iff_eq.2 hB;have HB:=ab hB;clear hB;obtain ⟨uob,ulb,ucb,vob,vlb,vcb,r0,r1,r2,r3,rf⟩:=F3.out.at (n+i) hni;rw [HZ3.out] at r0 r3;have X3b:=ab r3;have H1b:=ab (H1.out.kept ((bm.of_gr GA.out).trans R3.out.2));have CXb:Hid (∀ wx,w3.grownBy wx none->wx.cell? ⟨w.heap.size,4,none⟩=some (.func (.func 132) #[] #[])/\wx.cell? ⟨w.heap.size,5,none⟩=some (.func (.func 88) #[] #[])/\wx.cell? ⟨w.heap.size,0,none⟩=some (.bool fb)/\wx.cell? ⟨w.heap.size,1,none⟩=some (.slice fo fl fc)/\wx.cell? ⟨w.heap.size,2,none⟩=some (.slice fo2 fl2 fc2)/\wx.cell? ⟨w.heap.size+1,0,none⟩=some (.int .i64 ((n:Nat):Int))/\wx.cell? ⟨w.heap.size+1,1,none⟩=some (.slice (some ⟨b,off,none⟩) ps.length cap)/\wx.cell? ⟨wr.heap.size,1,none⟩=some (.int .i64 p.a)/\wx.cell? ⟨wr.heap.size,2,none⟩=some (.int .i64 p.b)):=by
                    intro wx hg;obtain ⟨z0,z1,z2,z3,z4,z5,z6⟩:=CELLS.out wx (R3.out.gr hg);obtain ⟨t1,t2⟩:=PX3.out wx (aW.of_gr hg);exact ⟨z0,z1,z2,z3,z4,z5,z6,t1,t2⟩
                   have ROWb:Hid (∀ wx,w3.grownBy wx none->aK wx g (n+ps.length+1) (bq (dJ n ps j i) (n+i) (0+1)) L/\wx.cell? ⟨g,(n+i)*3,none⟩=some (.bool (rB (0+1)))/\wx.cell? ⟨g,(n+i)*3+1,none⟩=some (.slice uob ulb ucb)/\wx.cell? ⟨g,(n+i)*3+2,none⟩=some (.slice vob vlb vcb)/\∀ k,wx.frozen? ⟨g,k,none⟩=false):=by
                    intro wx hg;have hr:=F3.out.keep0 hg;obtain ⟨_,_,_,_,_,_,_,_,_,_,hf⟩:=hr.at (n+i) hni;exact ⟨hr,hg.cell r0 (by simp),hg.cell r1 (by simp),hg.cell r2 (by simp),hf⟩
                   clear r0 r1 r2 r3 rf;have GG:w3.grownBy w3 none:=ae _ _;obtain ⟨s0,s1,s2,s3,s4,s5,s6,t1,t2⟩:=CXb.out w3 GG;obtain ⟨fr,r0,r1,r2,rf⟩:=ROWb.out w3 GG;clear fr rf;go_wp2;refine wp_region_held_drew (S:=(fun w'=>w'.cell? ⟨w.heap.size,4,none⟩=some (.func (.func 132) #[] #[])/\w'.cell? ⟨w.heap.size,5,none⟩=some (.func (.func 88) #[] #[])/\w'.cell? ⟨w.heap.size,0,none⟩=some (.bool fb)/\w'.cell? ⟨w.heap.size,1,none⟩=some (.slice fo fl fc)/\w'.cell? ⟨w.heap.size,2,none⟩=some (.slice fo2 fl2 fc2)/\w'.cell? ⟨w.heap.size+1,0,none⟩=some (.int .i64 ((n:Nat):Int))/\w'.cell? ⟨w.heap.size+1,1,none⟩=some (.slice (some ⟨b,off,none⟩) ps.length cap)/\w'.cell? ⟨wr.heap.size,1,none⟩=some (.int .i64 p.a)/\w'.cell? ⟨wr.heap.size,2,none⟩=some (.int .i64 p.b))) (by kernel_rfl) ?zs1y (fun hHeld=>?zr1y)
                   case zs1y=>((try dsimp only);go_keep)
                   case zr1y =>
                    refine wpAnyH_take (i:=0) (oi:=⟨some 52,.move (.tmp 7),92, "net.go:69",#[],none⟩) (v:=.slice (some ⟨g,0,none⟩) (n+ps.length+1) (n+ps.length+1)) rfl (by kernel_rfl) (by kernel_rfl) (by kernel_rfl) (fun _ _ _ h=>h) (Or.inl ⟨by rfl,?zy1y1⟩) (by assumption) ?zr1y1
                    case zy1y1=>(intro w hSw;(try dsimp only at hSw);go_simp)
                    case zr1y1 =>
                     (try simp only [Act.put,aA,aC,aB])
                     refine wpAnyH_take (i:=1) (oi:=⟨some 53,.move (.tmp 10),3, "net.go:69",#[],none⟩) (v:=.int .i64 ((n:Int)+(i:Int))) rfl (by kernel_rfl) (by kernel_rfl) (by kernel_rfl) (fun _ _ _ h=>h) (Or.inl ⟨by rfl,?zy1y2⟩) (by assumption) ?zr1y2
                     case zy1y2=>(intro w hSw;(try dsimp only at hSw);go_simp)
                     case zr1y2 =>
                      (try simp only [Act.put,aA,aC,aB])
                      refine wpAnyH_take (i:=2) (oi:=⟨some 54,.fieldAddr 145 (.tmp 3) 3,0, "net.go:69",#[],none⟩) (v:=.pointer (some ⟨w.heap.size,5,none⟩)) rfl (by kernel_rfl) (by kernel_rfl) (by kernel_rfl) (fun _ _ _ h=>h) (Or.inl ⟨by rfl,?zy1y3⟩) (by assumption) ?zr1y3
                      case zy1y3=>(intro w hSw;(try dsimp only at hSw);go_simp)
                      case zr1y3 =>
                       (try simp only [Act.put,aA,aC,aB])
                       refine wpAnyH_take (i:=3) (oi:=⟨some 55,.load 141 (.tmp 54),141, "net.go:69",#[⟨2,.data⟩],none⟩) (v:=.func (.func 88) #[] #[]) rfl (by kernel_rfl) (by kernel_rfl) (by kernel_rfl) (fun _ _ _ h=>h) (Or.inl ⟨by rfl,?zy1y4⟩) (by assumption) ?zr1y4
                       case zy1y4=>(intro w hSw;(try dsimp only at hSw);go_simp)
                       case zr1y4 =>
                        (try simp only [Act.put,aA,aC,aB])
                        refine wpAnyH_take (i:=4) (oi:=⟨some 56,.move (.tmp 7),92, "net.go:69",#[],none⟩) (v:=.slice (some ⟨g,0,none⟩) (n+ps.length+1) (n+ps.length+1)) rfl (by kernel_rfl) (by kernel_rfl) (by kernel_rfl) (fun _ _ _ h=>h) (Or.inl ⟨by rfl,?zy1y5⟩) (by assumption) ?zr1y5
                        case zy1y5=>(intro w hSw;(try dsimp only at hSw);go_simp)
                        case zr1y5 =>
                         (try simp only [Act.put,aA,aC,aB])
                         refine wpAnyH_take (i:=5) (oi:=⟨some 57,.move (.tmp 10),3, "net.go:69",#[],none⟩) (v:=.int .i64 ((n:Int)+(i:Int))) rfl (by kernel_rfl) (by kernel_rfl) (by kernel_rfl) (fun _ _ _ h=>h) (Or.inl ⟨by rfl,?zy1y6⟩) (by assumption) ?zr1y6
                         case zy1y6=>(intro w hSw;(try dsimp only at hSw);go_simp)
                         case zr1y6 =>
                          (try simp only [Act.put,aA,aC,aB])
                          refine wpAnyH_take (i:=6) (oi:=⟨some 58,.indexAddr 92 (.tmp 56) (.tmp 57),0, "net.go:69",#[⟨4,.data⟩,⟨5,.data⟩],none⟩) (v:=.pointer (some ⟨g,(n+i)*3,none⟩)) rfl (by kernel_rfl) (by kernel_rfl) (by kernel_rfl) (fun _ _ _ h=>h) (Or.inl ⟨by rfl,?zy1y7⟩) (by assumption) ?zr1y7
                          case zy1y7=>(intro w hSw;(try dsimp only at hSw);go_simp)
                          case zr1y7 =>
                           (try simp only [Act.put,aA,aC,aB])
                           refine wpAnyH_take (i:=8) (oi:=⟨some 60,.fieldAddr 145 (.tmp 3) 0,0, "net.go:69",#[],none⟩) (v:=.pointer (some ⟨w.heap.size,0,none⟩)) rfl (by kernel_rfl) (by kernel_rfl) (by kernel_rfl) (fun _ _ _ h=>h) (Or.inl ⟨by rfl,?zy1y8⟩) (by assumption) ?zr1y8
                           case zy1y8=>(intro w hSw;(try dsimp only at hSw);go_simp)
                           case zr1y8 =>
                            (try simp only [Act.put,aA,aC,aB])
                            refine wpAnyH_take (i:=9) (oi:=⟨some 61,.load 100 (.tmp 60),100, "net.go:69",#[⟨8,.data⟩],none⟩) (v:=Value.agg #[.bool fb,.slice fo fl fc,.slice fo2 fl2 fc2]) rfl (by kernel_rfl) (by kernel_rfl) (by kernel_rfl) (fun _ _ _ h=>h) (Or.inl ⟨by rfl,?zy1y9⟩) (by assumption) ?zr1y9
                            case zy1y9=>(intro w hSw;(try dsimp only at hSw);go_simp)
                            case zr1y9 =>
                             (try simp only [Act.put,aA,aC,aB])
                             refine wpAnyH_ready (rs:=[7]) (by kernel_rfl) (by simp) ?_;refine AllReadyH.cons (o:=⟨some 59,.load 100 (.tmp 58),100, "net.go:69",#[⟨6,.data⟩],none⟩) rfl (fun K hK=>?_) AllReadyH.nil;go_simp
                             refine hK.out _ _ ?zs1y10 (fun hHeld=>?zr1y10)
                             case zs1y10=>((try dsimp only);go_keep)
                             case zr1y10 =>
                              clear hK K
                              (try simp only [Act.put,aA,aC,aB])
                              refine wpAnyH_ready (rs:=[10]) (by kernel_rfl) (by simp) ?_;refine AllReadyH.cons (o:=⟨some 62,.call ⟨.value (.tmp 55),#[.tmp 59,.tmp 61],#[100,100]⟩,100, "net.go:69",#[⟨3,.data⟩,⟨7,.data⟩,⟨9,.data⟩],none⟩) rfl (fun K hK=>?_) AllReadyH.nil;go_simp
                              go_at_call 88
                              refine (cN _ _ (0+1) 1 L L _ (X3b.out.keep0 (by first | exact aa GG (aj _) | exact aa GG ah | exact GG)) (H1b.out.keep0 (by first | exact aa GG (aj _) | exact aa GG ah | exact GG)) (by omega)).mono ?_;rintro e wbm ⟨vm,rfl,pm,gm⟩;have pm:=pm.tight (L':=L) F00.out;obtain ⟨mob,mlb,mcb,nob,nlb,ncb,rfl⟩:=pm.shape;have GG:w3.grownBy wbm none:=aa (by first | exact aa GG (aj _) | exact aa GG ah | exact GG) gm;obtain ⟨b0,b1,b2,b3,b4,b5,b6,b8,b9⟩:=CXb.out wbm GG;obtain ⟨fr,d0,d1,d2,df⟩:=ROWb.out wbm GG;have df0:=df ((n+i)*3);have df1:=df ((n+i)*3+1);have df2:=df ((n+i)*3+2);clear df;go_wp2_with fail;refine hK.out _ _ ?zs1y11 (fun hHeld=>?zr1y11)
                              case zs1y11=>((try dsimp only);go_keep)
                              case zr1y11 =>
                               clear hK K
                               (try simp only [Act.put,aA,aC,aB])
                               refine wpAnyH_take (i:=11) (oi:=⟨some 63,.indexAddr 92 (.tmp 52) (.tmp 53),0, "net.go:69",#[⟨0,.data⟩,⟨1,.data⟩,⟨0,.phase⟩,⟨1,.phase⟩,⟨2,.phase⟩,⟨3,.phase⟩,⟨4,.phase⟩,⟨5,.phase⟩,⟨6,.phase⟩,⟨7,.phase⟩,⟨8,.phase⟩,⟨9,.phase⟩,⟨10,.phase⟩],none⟩) (v:=.pointer (some ⟨g,(n+i)*3,none⟩)) rfl (by kernel_rfl) (by kernel_rfl) (by kernel_rfl) (fun _ _ _ h=>h) (Or.inl ⟨by rfl,?zy1y12⟩) (by assumption) ?zr1y12
                               case zy1y12=>(intro w hSw;(try dsimp only at hSw);go_simp)
                               case zr1y12 =>
                                (try simp only [Act.put,aA,aC,aB])
                                refine wpAnyH_ready (rs:=[12]) (by kernel_rfl) (by simp) ?_;refine AllReadyH.cons (o:=⟨none,.store 100 (.tmp 63) (.tmp 62),0, "net.go:69",#[⟨11,.data⟩,⟨10,.data⟩,⟨10,.chain⟩,⟨0,.phase⟩,⟨1,.phase⟩,⟨2,.phase⟩,⟨3,.phase⟩,⟨4,.phase⟩,⟨5,.phase⟩,⟨6,.phase⟩,⟨7,.phase⟩,⟨8,.phase⟩,⟨9,.phase⟩,⟨10,.phase⟩],none⟩) rfl (fun K hK=>?_) AllReadyH.nil;go_simp
                                refine hK.out _ _ ?zs1y13 (fun hHeld=>?zr1y13)
                                case zs1y13=>((try dsimp only);go_keep)
                                case zr1y13 =>
                                 clear hK K
                                 (try simp only [Act.put,aA,aC,aB])
                                 refine wpAnyH_done (by kernel_rfl) ?_ _;have FR:=ab fr;have PM:=ab pm;have GF:=ab GG;clear fr pm GG;go_wp2;go_roundw
                                 case rel =>
                                  obtain ⟨y1,y2,y3⟩:=FR.out.set (n+i) hni PM.out;refine ⟨i+1,by omega,by go_num,y1.congr (fun x _=>?_),(R3.out.gr GF.out).trans ⟨y2,y3⟩⟩;rw [put_put];rw [<- iw n ps j i hlt x,<- HPE.out,xN HA.out HB.out]
                                 case measure=>simp [intOf];omega
                  ·have hBb:(p.b==(j:Int))=false:=beq_eq_false_iff_ne.2 hB;have HB:=ab hB;clear hB;go_wp2;go_roundw
                   case rel=>exact ⟨i+1,by omega,by go_num,F3.out.congr (fun x _=>by rw [<- iw n ps j i hlt x,<- HPE.out,xM HA.out HB.out]),R3.out⟩
                   case measure=>simp [intOf];omega
   ·have hAb:(p.a==(j:Int))=false:=beq_eq_false_iff_ne.2 hA;have HA:=ab hA;clear hA;by_cases hB:p.b=(j:Int)
    ·have hBb:(p.b==(j:Int))=true:=beq_iff_eq.2 hB;have HB:=ab hB;clear hB;obtain ⟨uoc,ulc,ucc,voc,vlc,vcc,r0,r1,r2,r3,rf⟩:=F2.out.at (n+i) hni;rw [HZ2.out] at r0 r3;have X3c:=ab r3;have H1c:=ab (H1.out.kept ((bm.of_gr GA.out).trans R2.out.2));have CXc:Hid (∀ wx,w2.grownBy wx none->wx.cell? ⟨w.heap.size,4,none⟩=some (.func (.func 132) #[] #[])/\wx.cell? ⟨w.heap.size,5,none⟩=some (.func (.func 88) #[] #[])/\wx.cell? ⟨w.heap.size,0,none⟩=some (.bool fb)/\wx.cell? ⟨w.heap.size,1,none⟩=some (.slice fo fl fc)/\wx.cell? ⟨w.heap.size,2,none⟩=some (.slice fo2 fl2 fc2)/\wx.cell? ⟨w.heap.size+1,0,none⟩=some (.int .i64 ((n:Nat):Int))/\wx.cell? ⟨w.heap.size+1,1,none⟩=some (.slice (some ⟨b,off,none⟩) ps.length cap)/\wx.cell? ⟨wr.heap.size,1,none⟩=some (.int .i64 p.a)/\wx.cell? ⟨wr.heap.size,2,none⟩=some (.int .i64 p.b)):=by
      intro wx hg;obtain ⟨z0,z1,z2,z3,z4,z5,z6⟩:=CELLS.out wx (R2.out.gr hg);obtain ⟨t1,t2⟩:=PX2.out wx (aW.of_gr hg);exact ⟨z0,z1,z2,z3,z4,z5,z6,t1,t2⟩
     have ROWc:Hid (∀ wx,w2.grownBy wx none->aK wx g (n+ps.length+1) (dJ n ps j i) L/\wx.cell? ⟨g,(n+i)*3,none⟩=some (.bool (rB (0)))/\wx.cell? ⟨g,(n+i)*3+1,none⟩=some (.slice uoc ulc ucc)/\wx.cell? ⟨g,(n+i)*3+2,none⟩=some (.slice voc vlc vcc)/\∀ k,wx.frozen? ⟨g,k,none⟩=false):=by
      intro wx hg;have hr:=F2.out.keep0 hg;obtain ⟨_,_,_,_,_,_,_,_,_,_,hf⟩:=hr.at (n+i) hni;exact ⟨hr,hg.cell r0 (by simp),hg.cell r1 (by simp),hg.cell r2 (by simp),hf⟩
     clear r0 r1 r2 r3 rf;have GG:w2.grownBy w2 none:=ae _ _;obtain ⟨s0,s1,s2,s3,s4,s5,s6,t1,t2⟩:=CXc.out w2 GG;obtain ⟨fr,r0,r1,r2,rf⟩:=ROWc.out w2 GG;clear fr rf;go_wp2;refine wp_region_held_drew (S:=(fun w'=>w'.cell? ⟨w.heap.size,4,none⟩=some (.func (.func 132) #[] #[])/\w'.cell? ⟨w.heap.size,5,none⟩=some (.func (.func 88) #[] #[])/\w'.cell? ⟨w.heap.size,0,none⟩=some (.bool fb)/\w'.cell? ⟨w.heap.size,1,none⟩=some (.slice fo fl fc)/\w'.cell? ⟨w.heap.size,2,none⟩=some (.slice fo2 fl2 fc2)/\w'.cell? ⟨w.heap.size+1,0,none⟩=some (.int .i64 ((n:Nat):Int))/\w'.cell? ⟨w.heap.size+1,1,none⟩=some (.slice (some ⟨b,off,none⟩) ps.length cap)/\w'.cell? ⟨wr.heap.size,1,none⟩=some (.int .i64 p.a)/\w'.cell? ⟨wr.heap.size,2,none⟩=some (.int .i64 p.b))) (by kernel_rfl) ?zs3y (fun hHeld=>?zr3y)
     case zs3y=>((try dsimp only);go_keep)
     case zr3y =>
      refine wpAnyH_take (i:=0) (oi:=⟨some 52,.move (.tmp 7),92, "net.go:69",#[],none⟩) (v:=.slice (some ⟨g,0,none⟩) (n+ps.length+1) (n+ps.length+1)) rfl (by kernel_rfl) (by kernel_rfl) (by kernel_rfl) (fun _ _ _ h=>h) (Or.inl ⟨by rfl,?zy3y1⟩) (by assumption) ?zr3y1
      case zy3y1=>(intro w hSw;(try dsimp only at hSw);go_simp)
      case zr3y1 =>
       (try simp only [Act.put,aA,aC,aB])
       refine wpAnyH_take (i:=1) (oi:=⟨some 53,.move (.tmp 10),3, "net.go:69",#[],none⟩) (v:=.int .i64 ((n:Int)+(i:Int))) rfl (by kernel_rfl) (by kernel_rfl) (by kernel_rfl) (fun _ _ _ h=>h) (Or.inl ⟨by rfl,?zy3y2⟩) (by assumption) ?zr3y2
       case zy3y2=>(intro w hSw;(try dsimp only at hSw);go_simp)
       case zr3y2 =>
        (try simp only [Act.put,aA,aC,aB])
        refine wpAnyH_take (i:=2) (oi:=⟨some 54,.fieldAddr 145 (.tmp 3) 3,0, "net.go:69",#[],none⟩) (v:=.pointer (some ⟨w.heap.size,5,none⟩)) rfl (by kernel_rfl) (by kernel_rfl) (by kernel_rfl) (fun _ _ _ h=>h) (Or.inl ⟨by rfl,?zy3y3⟩) (by assumption) ?zr3y3
        case zy3y3=>(intro w hSw;(try dsimp only at hSw);go_simp)
        case zr3y3 =>
         (try simp only [Act.put,aA,aC,aB])
         refine wpAnyH_take (i:=3) (oi:=⟨some 55,.load 141 (.tmp 54),141, "net.go:69",#[⟨2,.data⟩],none⟩) (v:=.func (.func 88) #[] #[]) rfl (by kernel_rfl) (by kernel_rfl) (by kernel_rfl) (fun _ _ _ h=>h) (Or.inl ⟨by rfl,?zy3y4⟩) (by assumption) ?zr3y4
         case zy3y4=>(intro w hSw;(try dsimp only at hSw);go_simp)
         case zr3y4 =>
          (try simp only [Act.put,aA,aC,aB])
          refine wpAnyH_take (i:=4) (oi:=⟨some 56,.move (.tmp 7),92, "net.go:69",#[],none⟩) (v:=.slice (some ⟨g,0,none⟩) (n+ps.length+1) (n+ps.length+1)) rfl (by kernel_rfl) (by kernel_rfl) (by kernel_rfl) (fun _ _ _ h=>h) (Or.inl ⟨by rfl,?zy3y5⟩) (by assumption) ?zr3y5
          case zy3y5=>(intro w hSw;(try dsimp only at hSw);go_simp)
          case zr3y5 =>
           (try simp only [Act.put,aA,aC,aB])
           refine wpAnyH_take (i:=5) (oi:=⟨some 57,.move (.tmp 10),3, "net.go:69",#[],none⟩) (v:=.int .i64 ((n:Int)+(i:Int))) rfl (by kernel_rfl) (by kernel_rfl) (by kernel_rfl) (fun _ _ _ h=>h) (Or.inl ⟨by rfl,?zy3y6⟩) (by assumption) ?zr3y6
           case zy3y6=>(intro w hSw;(try dsimp only at hSw);go_simp)
           case zr3y6 =>
            (try simp only [Act.put,aA,aC,aB])
            refine wpAnyH_take (i:=6) (oi:=⟨some 58,.indexAddr 92 (.tmp 56) (.tmp 57),0, "net.go:69",#[⟨4,.data⟩,⟨5,.data⟩],none⟩) (v:=.pointer (some ⟨g,(n+i)*3,none⟩)) rfl (by kernel_rfl) (by kernel_rfl) (by kernel_rfl) (fun _ _ _ h=>h) (Or.inl ⟨by rfl,?zy3y7⟩) (by assumption) ?zr3y7
            case zy3y7=>(intro w hSw;(try dsimp only at hSw);go_simp)
            case zr3y7 =>
             (try simp only [Act.put,aA,aC,aB])
             refine wpAnyH_take (i:=8) (oi:=⟨some 60,.fieldAddr 145 (.tmp 3) 0,0, "net.go:69",#[],none⟩) (v:=.pointer (some ⟨w.heap.size,0,none⟩)) rfl (by kernel_rfl) (by kernel_rfl) (by kernel_rfl) (fun _ _ _ h=>h) (Or.inl ⟨by rfl,?zy3y8⟩) (by assumption) ?zr3y8
             case zy3y8=>(intro w hSw;(try dsimp only at hSw);go_simp)
             case zr3y8 =>
              (try simp only [Act.put,aA,aC,aB])
              refine wpAnyH_take (i:=9) (oi:=⟨some 61,.load 100 (.tmp 60),100, "net.go:69",#[⟨8,.data⟩],none⟩) (v:=Value.agg #[.bool fb,.slice fo fl fc,.slice fo2 fl2 fc2]) rfl (by kernel_rfl) (by kernel_rfl) (by kernel_rfl) (fun _ _ _ h=>h) (Or.inl ⟨by rfl,?zy3y9⟩) (by assumption) ?zr3y9
              case zy3y9=>(intro w hSw;(try dsimp only at hSw);go_simp)
              case zr3y9 =>
               (try simp only [Act.put,aA,aC,aB])
               refine wpAnyH_ready (rs:=[7]) (by kernel_rfl) (by simp) ?_;refine AllReadyH.cons (o:=⟨some 59,.load 100 (.tmp 58),100, "net.go:69",#[⟨6,.data⟩],none⟩) rfl (fun K hK=>?_) AllReadyH.nil;go_simp
               refine hK.out _ _ ?zs3y10 (fun hHeld=>?zr3y10)
               case zs3y10=>((try dsimp only);go_keep)
               case zr3y10 =>
                clear hK K
                (try simp only [Act.put,aA,aC,aB])
                refine wpAnyH_ready (rs:=[10]) (by kernel_rfl) (by simp) ?_;refine AllReadyH.cons (o:=⟨some 62,.call ⟨.value (.tmp 55),#[.tmp 59,.tmp 61],#[100,100]⟩,100, "net.go:69",#[⟨3,.data⟩,⟨7,.data⟩,⟨9,.data⟩],none⟩) rfl (fun K hK=>?_) AllReadyH.nil;go_simp
                go_at_call 88
                refine (cN _ _ (0) 1 L L _ (X3c.out.keep0 (by first | exact aa GG (aj _) | exact aa GG ah | exact GG)) (H1c.out.keep0 (by first | exact aa GG (aj _) | exact aa GG ah | exact GG)) (by omega)).mono ?_;rintro e wcm ⟨vm,rfl,pm,gm⟩;have pm:=pm.tight (L':=L) F0m.out;obtain ⟨moc,mlc,mcc,noc,nlc,ncc,rfl⟩:=pm.shape;have GG:w2.grownBy wcm none:=aa (by first | exact aa GG (aj _) | exact aa GG ah | exact GG) gm;obtain ⟨b0,b1,b2,b3,b4,b5,b6,b8,b9⟩:=CXc.out wcm GG;obtain ⟨fr,d0,d1,d2,df⟩:=ROWc.out wcm GG;have df0:=df ((n+i)*3);have df1:=df ((n+i)*3+1);have df2:=df ((n+i)*3+2);clear df;go_wp2_with fail;refine hK.out _ _ ?zs3y11 (fun hHeld=>?zr3y11)
                case zs3y11=>((try dsimp only);go_keep)
                case zr3y11 =>
                 clear hK K
                 (try simp only [Act.put,aA,aC,aB])
                 refine wpAnyH_take (i:=11) (oi:=⟨some 63,.indexAddr 92 (.tmp 52) (.tmp 53),0, "net.go:69",#[⟨0,.data⟩,⟨1,.data⟩,⟨0,.phase⟩,⟨1,.phase⟩,⟨2,.phase⟩,⟨3,.phase⟩,⟨4,.phase⟩,⟨5,.phase⟩,⟨6,.phase⟩,⟨7,.phase⟩,⟨8,.phase⟩,⟨9,.phase⟩,⟨10,.phase⟩],none⟩) (v:=.pointer (some ⟨g,(n+i)*3,none⟩)) rfl (by kernel_rfl) (by kernel_rfl) (by kernel_rfl) (fun _ _ _ h=>h) (Or.inl ⟨by rfl,?zy3y12⟩) (by assumption) ?zr3y12
                 case zy3y12=>(intro w hSw;(try dsimp only at hSw);go_simp)
                 case zr3y12 =>
                  (try simp only [Act.put,aA,aC,aB])
                  refine wpAnyH_ready (rs:=[12]) (by kernel_rfl) (by simp) ?_;refine AllReadyH.cons (o:=⟨none,.store 100 (.tmp 63) (.tmp 62),0, "net.go:69",#[⟨11,.data⟩,⟨10,.data⟩,⟨10,.chain⟩,⟨0,.phase⟩,⟨1,.phase⟩,⟨2,.phase⟩,⟨3,.phase⟩,⟨4,.phase⟩,⟨5,.phase⟩,⟨6,.phase⟩,⟨7,.phase⟩,⟨8,.phase⟩,⟨9,.phase⟩,⟨10,.phase⟩],none⟩) rfl (fun K hK=>?_) AllReadyH.nil;go_simp
                  refine hK.out _ _ ?zs3y13 (fun hHeld=>?zr3y13)
                  case zs3y13=>((try dsimp only);go_keep)
                  case zr3y13 =>
                   clear hK K
                   (try simp only [Act.put,aA,aC,aB])
                   refine wpAnyH_done (by kernel_rfl) ?_ _;have FR:=ab fr;have PM:=ab pm;have GF:=ab GG;clear fr pm GG;go_wp2;go_roundw
                   case rel =>
                    obtain ⟨y1,y2,y3⟩:=FR.out.set (n+i) hni PM.out;refine ⟨i+1,by omega,by go_num,y1.congr (fun x _=>?_),(R2.out.gr GF.out).trans ⟨y2,y3⟩⟩;rw [<- iw n ps j i hlt x,<- HPE.out,xL HA.out HB.out]
                   case measure=>simp [intOf];omega
    ·have hBb:(p.b==(j:Int))=false:=beq_eq_false_iff_ne.2 hB;have HB:=ab hB;clear hB;go_wp2;go_roundw
     case rel=>exact ⟨i+1,by omega,by go_num,F2.out.congr (fun x _=>rG n ps j i hlt (by rw [<- HPE.out];exact xK HA.out HB.out) x),R2.out⟩
     case measure=>simp [intOf];omega
  ·obtain rfl:i=ps.length:=by omega
   obtain ⟨s0,s1,s2,s3,s4,s5,s6⟩:=CELLS.out wr L2.out;go_wp2;refine bodyPost_ret (v:=.slice (some ⟨g,0,none⟩) (n+ps.length+1) (n+ps.length+1)) (by simp [results,Tryz.results160,go_sem]) rfl ?_;refine ⟨g,rfl,by omega,L1.out.congr (fun x hx=>?_),au (r:=none) GA.out L2.out.1 (fun _ _ e=>e) (fun b hb e=>by have:=Option.some.inj e;omega)⟩;unfold dJ;by_cases h:x<n+ps.length
   ·rw [if_pos h]
   ·rw [if_neg h];unfold dN;rw [if_neg (by omega),List.getElem?_eq_none (by omega)]
theorem qk (fb:Bool) (fo fo2:Option Addr) (fl fc fl2 fc2:Nat) (n k:Nat) (ao:Option Addr) (cap:Nat) (L:Nat) (w:World) (h1:FQ w (.agg #[.bool fb,.slice fo fl fc,.slice fo2 fl2 fc2]) 1 L) (hn:n<=1000) (hk:k<=1000) :
  Calls Tryz.prog 160 #[(iP fb (.slice fo fl fc) (.slice fo2 fl2 fc2)),.agg #[.int .i64 ((n:Nat):Int),.slice ao k cap],.int .i64 0] w fun e w'=>lk w (n+k+1) (bq (fun _=>0) 0 1) L e w':=by
 have H1:=ab h1;have HFB:Hid (fb=rB 1):=FV.parts h1;clear h1;obtain ⟨W,hW⟩:∃ W,W=(w.alloc (Obj.cells #[.bool fb,.slice fo fl fc,.slice fo2 fl2 fc2,.func (.func 153) #[] #[],.func (.func 132) #[] #[],.func (.func 88) #[] #[],.func (.func 53) #[] #[],.func (.func 154) #[] #[],.func (.func 155) #[] #[],.func (.func 156) #[] #[],.func (.func 157) #[] #[]] 145)).alloc (Obj.cells #[.int .i64 ((n:Nat):Int),.slice ao k cap] 24):=⟨_,rfl⟩;have GW:Hid (w.grownBy W none):=by rw [hW];exact ag (ag (ae _ _) _) _
 have HWS:Hid (W.heap.size=w.heap.size+2):=by show _=_;rw [hW];simp
 have BASE:Hid (∀ wx,W.grownBy wx none->wx.cell? ⟨w.heap.size,0,none⟩=some (.bool fb)/\wx.cell? ⟨w.heap.size,1,none⟩=some (.slice fo fl fc)/\wx.cell? ⟨w.heap.size,2,none⟩=some (.slice fo2 fl2 fc2)/\wx.cell? ⟨w.heap.size+1,0,none⟩=some (.int .i64 ((n:Nat):Int))/\wx.cell? ⟨w.heap.size+1,1,none⟩=some (.slice ao k cap)):=by
  intro wx hg;rw [hW] at hg;exact ⟨hg.cell (by go_simp) (by simp),hg.cell (by go_simp) (by simp),hg.cell (by go_simp) (by simp),hg.cell (by go_simp) (by simp),hg.cell (by go_simp) (by simp)⟩
 obtain ⟨s0,s1,s2,s3,s4⟩:=BASE.out W (ae _ _);go_enter Tryz.func160,Tryz.ntmps160
 go_upto_region 1 with fail;rw [<- hW];clear hW;go_wp2_with fail;refine (je n k ao cap W hn hk).mono ?_;rintro e w1 ⟨g,rfl,hg1,hf1,hgr1⟩;obtain ⟨t0,t1,t2,t3,t4⟩:=BASE.out w1 hgr1;have F1:=ab (hf1.mono (Nat.zero_le L));have G1:=ab (aa GW.out hgr1);obtain ⟨uo,ul,uc,vo,vl,vc,d0,d1,d2,_,df⟩:=hf1.at 0 (by omega);simp only [Nat.zero_mul,Nat.zero_add] at d0 d1 d2;have df0:=df 0;have df1:=df 1;have df2:=df 2;have hk0:(0:Int)<(n:Int)+(k:Int)+1:=by omega
 clear hf1 hgr1 df s0 s1 s2 s3 s4;go_wp2;refine bodyPost_ret (v:=.slice (some ⟨g,0,none⟩) (n+k+1) (n+k+1)) (by simp [results,Tryz.results160,go_sem]) rfl ?_;have hq:=H1.out.keep0 G1.out;rw [HFB.out] at hq;have hs:=F1.out.set 0 (by omega) hq;simp only [Nat.zero_mul,Nat.zero_add] at hs;rw [HFB.out];exact ⟨g,rfl,by have:=HWS.out;omega,hs.1,au (r:=none) G1.out hs.2.1 (fun _ _ e=>e) (fun b hb e=>by have:=Option.some.inj e;have:=HWS.out;omega)⟩
end Go.Proofs.YtgilmecjbjoonabGreatDoor
