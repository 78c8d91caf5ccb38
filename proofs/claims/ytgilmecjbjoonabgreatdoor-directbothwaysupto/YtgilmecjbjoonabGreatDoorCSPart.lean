/- Contracts that the proof leans on. -/
import Derived.Test.YtgilmecjbjoonabGreatDoorCSNode
namespace Go.Proofs.YtgilmecjbjoonabGreatDoor
open Go.RowKit
set_option linter.unusedVariables false
set_option linter.unusedSimpArgs false
set_option maxHeartbeats 8000000
set_option maxRecDepth 10000
theorem pz (bf bv g K k:Nat) (R:Nat->Rat) (q:Rat) (xv:Value) (L:Nat) (w:World) (hf:w.cell? ⟨bf,4,none⟩=some (.func (.func 132) #[] #[])) (hv:w.cell? ⟨bv,0,none⟩=some (.slice (some ⟨g,0,none⟩) K K)) (hr:aK w g K R L) (hy:FQ w xv q L)
  (hk:k<K) (hK:K<=3000) (hbf:g≠bf) (hbv:g≠bv) (hL:L<=100000000) (hfit:bN L (R k+q)) :
  Calls Tryz.prog 197 #[.int .i64 ((k:Nat):Int),xv,.pointer (some ⟨bf,0,none⟩),.pointer (some ⟨bv,0,none⟩)] w
   fun e w'=>e=.returned (.tuple #[])/\aK w' g K (bq R k (R k+q)) L/\aW w w' g:=by
 have HR:=ab hr;have HY:=ab hy;have HF:=ab hfit;have hgl:=hr.lt;have hbl:=cP hf;have hvl:=cP hv;simp only at hbl hvl;obtain ⟨xo,xl,xc,yo,yl,yc,rfl⟩:=hy.shape;obtain ⟨uo,ul,uc,vo,vl,vc,r0,r1,r2,r3,_⟩:=hr.at k hk;have X3:=ab r3;clear hr hy hfit r3;obtain ⟨W,hW⟩:∃ W,W=w.alloc (Obj.cells #[.bool (rB q),.slice xo xl xc,.slice yo yl yc] 100):=⟨_,rfl⟩;have GW:Hid (w.grownBy W none):=by rw [hW];exact ag (ae _ _) _
 have CX:Hid (∀ wx,W.grownBy wx none->wx.cell? ⟨bf,4,none⟩=some (.func (.func 132) #[] #[])/\wx.cell? ⟨bv,0,none⟩=some (.slice (some ⟨g,0,none⟩) K K)/\wx.cell? ⟨w.heap.size,0,none⟩=some (.bool (rB q))/\wx.cell? ⟨w.heap.size,1,none⟩=some (.slice xo xl xc)/\wx.cell? ⟨w.heap.size,2,none⟩=some (.slice yo yl yc)):=by
  intro wx hg;have hg2:=aa GW.out hg;rw [hW] at hg;obtain ⟨a0,a1,a2⟩:=aM hg;exact ⟨hg2.cell hf (by simp),hg2.cell hv (by simp),a0,a1,a2⟩
 have ROW:Hid (∀ wx,W.grownBy wx none->aK wx g K R L/\wx.cell? ⟨g,k*3,none⟩=some (.bool (rB (R k)))/\wx.cell? ⟨g,k*3+1,none⟩=some (.slice uo ul uc)/\wx.cell? ⟨g,k*3+2,none⟩=some (.slice vo vl vc)/\∀ k,wx.frozen? ⟨g,k,none⟩=false):=by
  intro wx hg;have hg2:=aa GW.out hg;have hr:=HR.out.keep0 hg2;obtain ⟨_,_,_,_,_,_,_,_,_,_,hf⟩:=hr.at k hk;exact ⟨hr,hg2.cell r0 (by simp),hg2.cell r1 (by simp),hg2.cell r2 (by simp),hf⟩
 clear hf hv r0 r1 r2;have ng1:g≠w.heap.size:=by omega
 have hk1:((k:Nat):Int)<(K:Int):=by omega
 have hk2:(0:Int)<=((k:Nat):Int):=by omega
 have GG:W.grownBy W none:=ae _ _;obtain ⟨s0,s1,s2,s3,s4⟩:=CX.out W GG;obtain ⟨fr,r0,r1,r2,rf⟩:=ROW.out W GG;clear fr rf;go_enter Tryz.func197,Tryz.ntmps197
 go_wp2;rw [<- hW];clear hW;refine wp_region_held_drew (S:=(fun w'=>w'.cell? ⟨bf,4,none⟩=some (.func (.func 132) #[] #[])/\w'.cell? ⟨bv,0,none⟩=some (.slice (some ⟨g,0,none⟩) K K)/\w'.cell? ⟨w.heap.size,0,none⟩=some (.bool (rB q))/\w'.cell? ⟨w.heap.size,1,none⟩=some (.slice xo xl xc)/\w'.cell? ⟨w.heap.size,2,none⟩=some (.slice yo yl yc))) (by kernel_rfl) ?zs1y (fun hHeld=>?zr1y)
 case zs1y=>((try dsimp only);go_keep)
 case zr1y =>
  refine wpAnyH_take (i:=0) (oi:=⟨some 6,.load 92 (.tmp 3),92, "net.go:79",#[],none⟩) (v:=.slice (some ⟨g,0,none⟩) K K) rfl (by kernel_rfl) (by kernel_rfl) (by kernel_rfl) (fun _ _ _ h=>h) (Or.inl ⟨by rfl,?zy1y1⟩) (by assumption) ?zr1y1
  case zy1y1=>(intro w hSw;(try dsimp only at hSw);go_simp)
  case zr1y1 =>
   (try simp only [Act.put,aA,aC,aB])
   refine wpAnyH_take (i:=1) (oi:=⟨some 7,.move (.tmp 0),3, "net.go:79",#[],none⟩) (v:=.int .i64 ((k:Nat):Int)) rfl (by kernel_rfl) (by kernel_rfl) (by kernel_rfl) (fun _ _ _ h=>h) (Or.inl ⟨by rfl,?zy1y2⟩) (by assumption) ?zr1y2
   case zy1y2=>(intro w hSw;(try dsimp only at hSw);go_simp)
   case zr1y2 =>
    (try simp only [Act.put,aA,aC,aB])
    refine wpAnyH_take (i:=2) (oi:=⟨some 8,.fieldAddr 145 (.tmp 2) 2,0, "net.go:79",#[],none⟩) (v:=.pointer (some ⟨bf,4,none⟩)) rfl (by kernel_rfl) (by kernel_rfl) (by kernel_rfl) (fun _ _ _ h=>h) (Or.inl ⟨by rfl,?zy1y3⟩) (by assumption) ?zr1y3
    case zy1y3=>(intro w hSw;(try dsimp only at hSw);go_simp)
    case zr1y3 =>
     (try simp only [Act.put,aA,aC,aB])
     refine wpAnyH_take (i:=3) (oi:=⟨some 9,.load 141 (.tmp 8),141, "net.go:79",#[⟨2,.data⟩],none⟩) (v:=.func (.func 132) #[] #[]) rfl (by kernel_rfl) (by kernel_rfl) (by kernel_rfl) (fun _ _ _ h=>h) (Or.inl ⟨by rfl,?zy1y4⟩) (by assumption) ?zr1y4
     case zy1y4=>(intro w hSw;(try dsimp only at hSw);go_simp)
     case zr1y4 =>
      (try simp only [Act.put,aA,aC,aB])
      refine wpAnyH_take (i:=4) (oi:=⟨some 10,.load 92 (.tmp 3),92, "net.go:79",#[],none⟩) (v:=.slice (some ⟨g,0,none⟩) K K) rfl (by kernel_rfl) (by kernel_rfl) (by kernel_rfl) (fun _ _ _ h=>h) (Or.inl ⟨by rfl,?zy1y5⟩) (by assumption) ?zr1y5
      case zy1y5=>(intro w hSw;(try dsimp only at hSw);go_simp)
      case zr1y5 =>
       (try simp only [Act.put,aA,aC,aB])
       refine wpAnyH_take (i:=5) (oi:=⟨some 11,.move (.tmp 0),3, "net.go:79",#[],none⟩) (v:=.int .i64 ((k:Nat):Int)) rfl (by kernel_rfl) (by kernel_rfl) (by kernel_rfl) (fun _ _ _ h=>h) (Or.inl ⟨by rfl,?zy1y6⟩) (by assumption) ?zr1y6
       case zy1y6=>(intro w hSw;(try dsimp only at hSw);go_simp)
       case zr1y6 =>
        (try simp only [Act.put,aA,aC,aB])
        refine wpAnyH_take (i:=6) (oi:=⟨some 12,.indexAddr 92 (.tmp 10) (.tmp 11),0, "net.go:79",#[⟨4,.data⟩,⟨5,.data⟩],none⟩) (v:=.pointer (some ⟨g,k*3,none⟩)) rfl (by kernel_rfl) (by kernel_rfl) (by kernel_rfl) (fun _ _ _ h=>h) (Or.inl ⟨by rfl,?zy1y7⟩) (by assumption) ?zr1y7
        case zy1y7=>(intro w hSw;(try dsimp only at hSw);go_simp)
        case zr1y7 =>
         (try simp only [Act.put,aA,aC,aB])
         refine wpAnyH_take (i:=8) (oi:=⟨some 14,.load 100 (.tmp 5),100, "net.go:79",#[],none⟩) (v:=Value.agg #[.bool (rB q),.slice xo xl xc,.slice yo yl yc]) rfl (by kernel_rfl) (by kernel_rfl) (by kernel_rfl) (fun _ _ _ h=>h) (Or.inl ⟨by rfl,?zy1y8⟩) (by assumption) ?zr1y8
         case zy1y8=>(intro w hSw;(try dsimp only at hSw);go_simp)
         case zr1y8 =>
          (try simp only [Act.put,aA,aC,aB])
          refine wpAnyH_ready (rs:=[7]) (by kernel_rfl) (by simp) ?_;refine AllReadyH.cons (o:=⟨some 13,.load 100 (.tmp 12),100, "net.go:79",#[⟨6,.data⟩],none⟩) rfl (fun K hK=>?_) AllReadyH.nil;go_simp
          refine hK.out _ _ ?zs1y9 (fun hHeld=>?zr1y9)
          case zs1y9=>((try dsimp only);go_keep)
          case zr1y9 =>
           clear hK K
           (try simp only [Act.put,aA,aC,aB])
           refine wpAnyH_ready (rs:=[9]) (by kernel_rfl) (by simp) ?_;refine AllReadyH.cons (o:=⟨some 15,.call ⟨.value (.tmp 9),#[.tmp 13,.tmp 14],#[100,100]⟩,100, "net.go:79",#[⟨3,.data⟩,⟨7,.data⟩,⟨8,.data⟩],none⟩) rfl (fun K hK=>?_) AllReadyH.nil;go_simp
           go_at_call 132
           refine (kO _ _ (R k) q L L _ (X3.out.keep0 (aa GW.out (by first | exact aa GG (aj _) | exact aa GG ah | exact GG))) (HY.out.keep0 (aa GW.out (by first | exact aa GG (aj _) | exact aa GG ah | exact GG))) (by omega)).mono ?_;rintro e wm ⟨vm,rfl,pm,gm⟩;have pm:=pm.tight (L':=L) HF.out;obtain ⟨mo,ml,mc,no,nl,nc,rfl⟩:=pm.shape;have GG:W.grownBy wm none:=aa (by first | exact aa GG (aj _) | exact aa GG ah | exact GG) gm;obtain ⟨b0,b1,b2,b3,b4⟩:=CX.out wm GG;obtain ⟨fr,d0,d1,d2,df⟩:=ROW.out wm GG;have df0:=df (k*3);have df1:=df (k*3+1);have df2:=df (k*3+2);clear df;go_wp2_with fail;refine hK.out _ _ ?zs1y10 (fun hHeld=>?zr1y10)
           case zs1y10=>((try dsimp only);go_keep)
           case zr1y10 =>
            clear hK K
            (try simp only [Act.put,aA,aC,aB])
            refine wpAnyH_take (i:=10) (oi:=⟨some 16,.indexAddr 92 (.tmp 6) (.tmp 7),0, "net.go:79",#[⟨0,.data⟩,⟨1,.data⟩,⟨0,.phase⟩,⟨1,.phase⟩,⟨2,.phase⟩,⟨3,.phase⟩,⟨4,.phase⟩,⟨5,.phase⟩,⟨6,.phase⟩,⟨7,.phase⟩,⟨8,.phase⟩,⟨9,.phase⟩],none⟩) (v:=.pointer (some ⟨g,k*3,none⟩)) rfl (by kernel_rfl) (by kernel_rfl) (by kernel_rfl) (fun _ _ _ h=>h) (Or.inl ⟨by rfl,?zy1y11⟩) (by assumption) ?zr1y11
            case zy1y11=>(intro w hSw;(try dsimp only at hSw);go_simp)
            case zr1y11 =>
             (try simp only [Act.put,aA,aC,aB])
             refine wpAnyH_ready (rs:=[11]) (by kernel_rfl) (by simp) ?_;refine AllReadyH.cons (o:=⟨none,.store 100 (.tmp 16) (.tmp 15),0, "net.go:79",#[⟨10,.data⟩,⟨9,.data⟩,⟨9,.chain⟩,⟨0,.phase⟩,⟨1,.phase⟩,⟨2,.phase⟩,⟨3,.phase⟩,⟨4,.phase⟩,⟨5,.phase⟩,⟨6,.phase⟩,⟨7,.phase⟩,⟨8,.phase⟩,⟨9,.phase⟩],none⟩) rfl (fun K hK=>?_) AllReadyH.nil;go_simp
             refine hK.out _ _ ?zs1y12 (fun hHeld=>?zr1y12)
             case zs1y12=>((try dsimp only);go_keep)
             case zr1y12 =>
              clear hK K
              (try simp only [Act.put,aA,aC,aB])
              refine wpAnyH_done (by kernel_rfl) ?_ _;have FR:=ab fr;have PM:=ab pm;have GF:=ab GG;clear fr pm GG;go_wp2;go_end0
              obtain ⟨y1,y2,y3⟩:=FR.out.set k hk PM.out;exact ⟨rfl,y1,(aW.of_gr (aa GW.out GF.out)).trans ⟨y2,y3⟩⟩
theorem nT (bf bv g K k:Nat) (R:Nat->Rat) (q:Rat) (xv:Value) (L:Nat) (w:World) (hf:w.cell? ⟨bf,5,none⟩=some (.func (.func 88) #[] #[])) (hv:w.cell? ⟨bv,0,none⟩=some (.slice (some ⟨g,0,none⟩) K K)) (hr:aK w g K R L) (hy:FQ w xv q L)
  (hk:k<K) (hK:K<=3000) (hbf:g≠bf) (hbv:g≠bv) (hL:L<=100000000) (hfit:bN L (R k-q)) :
  Calls Tryz.prog 198 #[.int .i64 ((k:Nat):Int),xv,.pointer (some ⟨bf,0,none⟩),.pointer (some ⟨bv,0,none⟩)] w
   fun e w'=>e=.returned (.tuple #[])/\aK w' g K (bq R k (R k-q)) L/\aW w w' g:=by
 have HR:=ab hr;have HY:=ab hy;have HF:=ab hfit;have hgl:=hr.lt;have hbl:=cP hf;have hvl:=cP hv;simp only at hbl hvl;obtain ⟨xo,xl,xc,yo,yl,yc,rfl⟩:=hy.shape;obtain ⟨uo,ul,uc,vo,vl,vc,r0,r1,r2,r3,_⟩:=hr.at k hk;have X3:=ab r3;clear hr hy hfit r3;obtain ⟨W,hW⟩:∃ W,W=w.alloc (Obj.cells #[.bool (rB q),.slice xo xl xc,.slice yo yl yc] 100):=⟨_,rfl⟩;have GW:Hid (w.grownBy W none):=by rw [hW];exact ag (ae _ _) _
 have CX:Hid (∀ wx,W.grownBy wx none->wx.cell? ⟨bf,5,none⟩=some (.func (.func 88) #[] #[])/\wx.cell? ⟨bv,0,none⟩=some (.slice (some ⟨g,0,none⟩) K K)/\wx.cell? ⟨w.heap.size,0,none⟩=some (.bool (rB q))/\wx.cell? ⟨w.heap.size,1,none⟩=some (.slice xo xl xc)/\wx.cell? ⟨w.heap.size,2,none⟩=some (.slice yo yl yc)):=by
  intro wx hg;have hg2:=aa GW.out hg;rw [hW] at hg;obtain ⟨a0,a1,a2⟩:=aM hg;exact ⟨hg2.cell hf (by simp),hg2.cell hv (by simp),a0,a1,a2⟩
 have ROW:Hid (∀ wx,W.grownBy wx none->aK wx g K R L/\wx.cell? ⟨g,k*3,none⟩=some (.bool (rB (R k)))/\wx.cell? ⟨g,k*3+1,none⟩=some (.slice uo ul uc)/\wx.cell? ⟨g,k*3+2,none⟩=some (.slice vo vl vc)/\∀ k,wx.frozen? ⟨g,k,none⟩=false):=by
  intro wx hg;have hg2:=aa GW.out hg;have hr:=HR.out.keep0 hg2;obtain ⟨_,_,_,_,_,_,_,_,_,_,hf⟩:=hr.at k hk;exact ⟨hr,hg2.cell r0 (by simp),hg2.cell r1 (by simp),hg2.cell r2 (by simp),hf⟩
 clear hf hv r0 r1 r2;have ng1:g≠w.heap.size:=by omega
 have hk1:((k:Nat):Int)<(K:Int):=by omega
 have hk2:(0:Int)<=((k:Nat):Int):=by omega
 have GG:W.grownBy W none:=ae _ _;obtain ⟨s0,s1,s2,s3,s4⟩:=CX.out W GG;obtain ⟨fr,r0,r1,r2,rf⟩:=ROW.out W GG;clear fr rf;go_enter Tryz.func198,Tryz.ntmps198
 go_wp2;rw [<- hW];clear hW;refine wp_region_held_drew (S:=(fun w'=>w'.cell? ⟨bf,5,none⟩=some (.func (.func 88) #[] #[])/\w'.cell? ⟨bv,0,none⟩=some (.slice (some ⟨g,0,none⟩) K K)/\w'.cell? ⟨w.heap.size,0,none⟩=some (.bool (rB q))/\w'.cell? ⟨w.heap.size,1,none⟩=some (.slice xo xl xc)/\w'.cell? ⟨w.heap.size,2,none⟩=some (.slice yo yl yc))) (by kernel_rfl) ?zs2y (fun hHeld=>?zr2y)
 case zs2y=>((try dsimp only);go_keep)
 case zr2y =>
  refine wpAnyH_take (i:=0) (oi:=⟨some 6,.load 92 (.tmp 3),92, "net.go:80",#[],none⟩) (v:=.slice (some ⟨g,0,none⟩) K K) rfl (by kernel_rfl) (by kernel_rfl) (by kernel_rfl) (fun _ _ _ h=>h) (Or.inl ⟨by rfl,?zy2y1⟩) (by assumption) ?zr2y1
  case zy2y1=>(intro w hSw;(try dsimp only at hSw);go_simp)
  case zr2y1 =>
   (try simp only [Act.put,aA,aC,aB])
   refine wpAnyH_take (i:=1) (oi:=⟨some 7,.move (.tmp 0),3, "net.go:80",#[],none⟩) (v:=.int .i64 ((k:Nat):Int)) rfl (by kernel_rfl) (by kernel_rfl) (by kernel_rfl) (fun _ _ _ h=>h) (Or.inl ⟨by rfl,?zy2y2⟩) (by assumption) ?zr2y2
   case zy2y2=>(intro w hSw;(try dsimp only at hSw);go_simp)
   case zr2y2 =>
    (try simp only [Act.put,aA,aC,aB])
    refine wpAnyH_take (i:=2) (oi:=⟨some 8,.fieldAddr 145 (.tmp 2) 3,0, "net.go:80",#[],none⟩) (v:=.pointer (some ⟨bf,5,none⟩)) rfl (by kernel_rfl) (by kernel_rfl) (by kernel_rfl) (fun _ _ _ h=>h) (Or.inl ⟨by rfl,?zy2y3⟩) (by assumption) ?zr2y3
    case zy2y3=>(intro w hSw;(try dsimp only at hSw);go_simp)
    case zr2y3 =>
     (try simp only [Act.put,aA,aC,aB])
     refine wpAnyH_take (i:=3) (oi:=⟨some 9,.load 141 (.tmp 8),141, "net.go:80",#[⟨2,.data⟩],none⟩) (v:=.func (.func 88) #[] #[]) rfl (by kernel_rfl) (by kernel_rfl) (by kernel_rfl) (fun _ _ _ h=>h) (Or.inl ⟨by rfl,?zy2y4⟩) (by assumption) ?zr2y4
     case zy2y4=>(intro w hSw;(try dsimp only at hSw);go_simp)
     case zr2y4 =>
      (try simp only [Act.put,aA,aC,aB])
      refine wpAnyH_take (i:=4) (oi:=⟨some 10,.load 92 (.tmp 3),92, "net.go:80",#[],none⟩) (v:=.slice (some ⟨g,0,none⟩) K K) rfl (by kernel_rfl) (by kernel_rfl) (by kernel_rfl) (fun _ _ _ h=>h) (Or.inl ⟨by rfl,?zy2y5⟩) (by assumption) ?zr2y5
      case zy2y5=>(intro w hSw;(try dsimp only at hSw);go_simp)
      case zr2y5 =>
       (try simp only [Act.put,aA,aC,aB])
       refine wpAnyH_take (i:=5) (oi:=⟨some 11,.move (.tmp 0),3, "net.go:80",#[],none⟩) (v:=.int .i64 ((k:Nat):Int)) rfl (by kernel_rfl) (by kernel_rfl) (by kernel_rfl) (fun _ _ _ h=>h) (Or.inl ⟨by rfl,?zy2y6⟩) (by assumption) ?zr2y6
       case zy2y6=>(intro w hSw;(try dsimp only at hSw);go_simp)
       case zr2y6 =>
        (try simp only [Act.put,aA,aC,aB])
        refine wpAnyH_take (i:=6) (oi:=⟨some 12,.indexAddr 92 (.tmp 10) (.tmp 11),0, "net.go:80",#[⟨4,.data⟩,⟨5,.data⟩],none⟩) (v:=.pointer (some ⟨g,k*3,none⟩)) rfl (by kernel_rfl) (by kernel_rfl) (by kernel_rfl) (fun _ _ _ h=>h) (Or.inl ⟨by rfl,?zy2y7⟩) (by assumption) ?zr2y7
        case zy2y7=>(intro w hSw;(try dsimp only at hSw);go_simp)
        case zr2y7 =>
         (try simp only [Act.put,aA,aC,aB])
         refine wpAnyH_take (i:=8) (oi:=⟨some 14,.load 100 (.tmp 5),100, "net.go:80",#[],none⟩) (v:=Value.agg #[.bool (rB q),.slice xo xl xc,.slice yo yl yc]) rfl (by kernel_rfl) (by kernel_rfl) (by kernel_rfl) (fun _ _ _ h=>h) (Or.inl ⟨by rfl,?zy2y8⟩) (by assumption) ?zr2y8
         case zy2y8=>(intro w hSw;(try dsimp only at hSw);go_simp)
         case zr2y8 =>
          (try simp only [Act.put,aA,aC,aB])
          refine wpAnyH_ready (rs:=[7]) (by kernel_rfl) (by simp) ?_;refine AllReadyH.cons (o:=⟨some 13,.load 100 (.tmp 12),100, "net.go:80",#[⟨6,.data⟩],none⟩) rfl (fun K hK=>?_) AllReadyH.nil;go_simp
          refine hK.out _ _ ?zs2y9 (fun hHeld=>?zr2y9)
          case zs2y9=>((try dsimp only);go_keep)
          case zr2y9 =>
           clear hK K
           (try simp only [Act.put,aA,aC,aB])
           refine wpAnyH_ready (rs:=[9]) (by kernel_rfl) (by simp) ?_;refine AllReadyH.cons (o:=⟨some 15,.call ⟨.value (.tmp 9),#[.tmp 13,.tmp 14],#[100,100]⟩,100, "net.go:80",#[⟨3,.data⟩,⟨7,.data⟩,⟨8,.data⟩],none⟩) rfl (fun K hK=>?_) AllReadyH.nil;go_simp
           go_at_call 88
           refine (cN _ _ (R k) q L L _ (X3.out.keep0 (aa GW.out (by first | exact aa GG (aj _) | exact aa GG ah | exact GG))) (HY.out.keep0 (aa GW.out (by first | exact aa GG (aj _) | exact aa GG ah | exact GG))) (by omega)).mono ?_;rintro e wm ⟨vm,rfl,pm,gm⟩;have pm:=pm.tight (L':=L) HF.out;obtain ⟨mo,ml,mc,no,nl,nc,rfl⟩:=pm.shape;have GG:W.grownBy wm none:=aa (by first | exact aa GG (aj _) | exact aa GG ah | exact GG) gm;obtain ⟨b0,b1,b2,b3,b4⟩:=CX.out wm GG;obtain ⟨fr,d0,d1,d2,df⟩:=ROW.out wm GG;have df0:=df (k*3);have df1:=df (k*3+1);have df2:=df (k*3+2);clear df;go_wp2_with fail;refine hK.out _ _ ?zs2y10 (fun hHeld=>?zr2y10)
           case zs2y10=>((try dsimp only);go_keep)
           case zr2y10 =>
            clear hK K
            (try simp only [Act.put,aA,aC,aB])
            refine wpAnyH_take (i:=10) (oi:=⟨some 16,.indexAddr 92 (.tmp 6) (.tmp 7),0, "net.go:80",#[⟨0,.data⟩,⟨1,.data⟩,⟨0,.phase⟩,⟨1,.phase⟩,⟨2,.phase⟩,⟨3,.phase⟩,⟨4,.phase⟩,⟨5,.phase⟩,⟨6,.phase⟩,⟨7,.phase⟩,⟨8,.phase⟩,⟨9,.phase⟩],none⟩) (v:=.pointer (some ⟨g,k*3,none⟩)) rfl (by kernel_rfl) (by kernel_rfl) (by kernel_rfl) (fun _ _ _ h=>h) (Or.inl ⟨by rfl,?zy2y11⟩) (by assumption) ?zr2y11
            case zy2y11=>(intro w hSw;(try dsimp only at hSw);go_simp)
            case zr2y11 =>
             (try simp only [Act.put,aA,aC,aB])
             refine wpAnyH_ready (rs:=[11]) (by kernel_rfl) (by simp) ?_;refine AllReadyH.cons (o:=⟨none,.store 100 (.tmp 16) (.tmp 15),0, "net.go:80",#[⟨10,.data⟩,⟨9,.data⟩,⟨9,.chain⟩,⟨0,.phase⟩,⟨1,.phase⟩,⟨2,.phase⟩,⟨3,.phase⟩,⟨4,.phase⟩,⟨5,.phase⟩,⟨6,.phase⟩,⟨7,.phase⟩,⟨8,.phase⟩,⟨9,.phase⟩],none⟩) rfl (fun K hK=>?_) AllReadyH.nil;go_simp
             refine hK.out _ _ ?zs2y12 (fun hHeld=>?zr2y12)
             case zs2y12=>((try dsimp only);go_keep)
             case zr2y12 =>
              clear hK K
              (try simp only [Act.put,aA,aC,aB])
              refine wpAnyH_done (by kernel_rfl) ?_ _;have FR:=ab fr;have PM:=ab pm;have GF:=ab GG;clear fr pm GG;go_wp2;go_end0
              obtain ⟨y1,y2,y3⟩:=FR.out.set k hk PM.out;exact ⟨rfl,y1,(aW.of_gr (aa GW.out GF.out)).trans ⟨y2,y3⟩⟩
def kL (n i K xa xb xc xd:Nat) (qa qf ql qs:Rat):Nat->Rat :=
 bq (bq (bq (bq (bq (bq (fun _=>0) xa (0+qa)) xb (bq (fun _=>0) xa (0+qa) xb-qa)) xc (bq (bq (fun _=>0) xa (0+qa)) xb (bq (fun _=>0) xa (0+qa) xb-qa) xc+ql)) xd (bq (bq (bq (fun _=>0) xa (0+qa)) xb (bq (fun _=>0) xa (0+qa) xb-qa)) xc (bq (bq (fun _=>0) xa (0+qa)) xb (bq (fun _=>0) xa (0+qa) xb-qa) xc+ql) xd-ql)) (n+i) qf) (K-1) qs
theorem tT (fb:Bool) (fo fo2:Option Addr) (fl fc fl2 fc2:Nat) (n i xa xb xc xd:Nat) (pv:Value) (ps:List aU) (qa qf ql qs:Rat) (ko lo so wo ko2 lo2 so2 wo2:Option Addr) (kl kc kl2 kc2 ll lc ll2 lc2 sl sc sl2 sc2 wl wc wl2 wc2:Nat) (L:Nat) (w:World) (hp:aV w pv ps) (hi:i<ps.length)
  (ea:ps[i].a=(xa:Int)) (eb:ps[i].b=(xb:Int)) (ec:ps[i].c=(xc:Int)) (ed:ps[i].d=(xd:Int)) (ha:xa<n) (hb:xb<n) (hc:xc<n) (hd:xd<n)
  (hav:FQ w (.agg #[.bool (rB qa),.slice ko kl kc,.slice ko2 kl2 kc2]) qa L) (hfv:FQ w (.agg #[.bool (rB qf),.slice wo wl wc,.slice wo2 wl2 wc2]) qf L) (hlv:FQ w (.agg #[.bool (rB ql),.slice lo ll lc,.slice lo2 ll2 lc2]) ql L) (hsv:FQ w (.agg #[.bool (rB qs),.slice so sl sc,.slice so2 sl2 sc2]) qs L) (hn:n<=1000) (hk:ps.length<=1000) (hL:L<=100000000)
  (h1:bN L (0+qa)) (h2:bN L (bq (fun _=>0) xa (0+qa) xb-qa)) (h3:bN L (bq (bq (fun _=>0) xa (0+qa)) xb (bq (fun _=>0) xa (0+qa) xb-qa) xc+ql))
  (h4:bN L (bq (bq (bq (fun _=>0) xa (0+qa)) xb (bq (fun _=>0) xa (0+qa) xb-qa)) xc (bq (bq (fun _=>0) xa (0+qa)) xb (bq (fun _=>0) xa (0+qa) xb-qa) xc+ql) xd-ql)) :
  Calls Tryz.prog 161 #[(iP fb (.slice fo fl fc) (.slice fo2 fl2 fc2)),.agg #[.int .i64 ((n:Nat):Int),pv],.int .i64 ((i:Nat):Int),.agg #[.bool (rB qa),.slice ko kl kc,.slice ko2 kl2 kc2,.bool (rB qf),.slice wo wl wc,.slice wo2 wl2 wc2,.bool (rB ql),.slice lo ll lc,.slice lo2 ll2 lc2,.bool (rB qs),.slice so sl sc,.slice so2 sl2 sc2]] w
   fun e w'=>lk w (n+ps.length+1) (kL n i (n+ps.length+1) xa xb xc xd qa qf ql qs) L e w':=by
 have HP:=ab hp;obtain ⟨ao,cap,rfl,hp1,hp2,hp3⟩:=hp;unfold maxLen at hp2;obtain ⟨b,off,rfl,hbw,c0,c1,c2,c3,c4,c5,c6⟩:=hp3 i hi;rw [ea] at c1;rw [eb] at c2;rw [ec] at c3;rw [ed] at c4;have HA:=ab hav;have HF:=ab hfv;have HL:=ab hlv;have HS:=ab hsv;have T1:=ab h1;have T2:=ab h2;have T3:=ab h3;have T4:=ab h4;clear hp3 hav hfv hlv hsv h1 h2 h3 h4 ea eb ec ed;obtain ⟨kd,hkd⟩:∃ kd,kd=ps[i].kind:=⟨_,rfl⟩;obtain ⟨vv,hvv⟩:∃ vv,vv=ps[i].v:=⟨_,rfl⟩;rw [<- hkd] at c0;rw [<- hvv] at c5;clear hkd hvv c6;obtain ⟨W,hW⟩:∃ W,W=((w.alloc (Obj.cells #[.bool fb,.slice fo fl fc,.slice fo2 fl2 fc2,.func (.func 153) #[] #[],.func (.func 132) #[] #[],.func (.func 88) #[] #[],.func (.func 53) #[] #[],.func (.func 154) #[] #[],.func (.func 155) #[] #[],.func (.func 156) #[] #[],.func (.func 157) #[] #[]] 145)).alloc (Obj.cells #[.int .i64 ((n:Nat):Int),.slice (some ⟨b,off,none⟩) ps.length cap] 24)).alloc (Obj.cells #[.bool (rB qa),.slice ko kl kc,.slice ko2 kl2 kc2,.bool (rB qf),.slice wo wl wc,.slice wo2 wl2 wc2,.bool (rB ql),.slice lo ll lc,.slice lo2 ll2 lc2,.bool (rB qs),.slice so sl sc,.slice so2 sl2 sc2] 206):=⟨_,rfl⟩;have GW:Hid (w.grownBy W none):=by rw [hW];exact ag (ag (ag (ae _ _) _) _) _
 have HWS:Hid (W.heap.size=w.heap.size+3):=by show _=_;rw [hW];simp
 have BASE:Hid (∀ wx g,W.heap.size<=g->W.grownBy wx (some g)->(wx.cell? ⟨w.heap.size,4,none⟩=some (.func (.func 132) #[] #[])/\wx.cell? ⟨w.heap.size,5,none⟩=some (.func (.func 88) #[] #[])/\wx.cell? ⟨w.heap.size+1,0,none⟩=some (.int .i64 ((n:Nat):Int))/\wx.cell? ⟨w.heap.size+1+1,0,none⟩=some (.bool (rB qa))/\wx.cell? ⟨w.heap.size+1+1,1,none⟩=some (.slice ko kl kc)/\wx.cell? ⟨w.heap.size+1+1,2,none⟩=some (.slice ko2 kl2 kc2)/\wx.cell? ⟨w.heap.size+1+1,3,none⟩=some (.bool (rB qf))/\wx.cell? ⟨w.heap.size+1+1,4,none⟩=some (.slice wo wl wc)/\wx.cell? ⟨w.heap.size+1+1,5,none⟩=some (.slice wo2 wl2 wc2)/\wx.cell? ⟨w.heap.size+1+1,6,none⟩=some (.bool (rB ql))/\wx.cell? ⟨w.heap.size+1+1,7,none⟩=some (.slice lo ll lc)/\wx.cell? ⟨w.heap.size+1+1,8,none⟩=some (.slice lo2 ll2 lc2)/\wx.cell? ⟨w.heap.size+1+1,9,none⟩=some (.bool (rB qs))/\wx.cell? ⟨w.heap.size+1+1,10,none⟩=some (.slice so sl sc)/\wx.cell? ⟨w.heap.size+1+1,11,none⟩=some (.slice so2 sl2 sc2))/\wx.cell? ⟨w.heap.size+1,1,none⟩=some (.slice (some ⟨b,off,none⟩) ps.length cap)):=by
  intro wx g hgs hg;have hsz:=HWS.out;rw [hW] at hg;have n1:some w.heap.size≠some g:=fun e=>by have:=Option.some.inj e;omega
  have n2:some (w.heap.size+1)≠some g:=fun e=>by have:=Option.some.inj e;omega
  have n3:some (w.heap.size+1+1)≠some g:=fun e=>by have:=Option.some.inj e;omega
  exact ⟨⟨hg.cell (by go_simp) n1,hg.cell (by go_simp) n1,hg.cell (by go_simp) n2,hg.cell (by go_simp) n3,hg.cell (by go_simp) n3,hg.cell (by go_simp) n3,hg.cell (by go_simp) n3,hg.cell (by go_simp) n3,hg.cell (by go_simp) n3,hg.cell (by go_simp) n3,hg.cell (by go_simp) n3,hg.cell (by go_simp) n3,hg.cell (by go_simp) n3,hg.cell (by go_simp) n3,hg.cell (by go_simp) n3⟩,hg.cell (by go_simp) n2⟩
 obtain ⟨⟨s0,s1,s2,s3,s4,s5,s6,s7,s8,s9,s10,s11,s12,s13,s14⟩,s15⟩:=BASE.out W W.heap.size (Nat.le_refl _) (ae _ _);go_enter Tryz.func161,Tryz.ntmps161
 go_upto_region 1 with fail;rw [<- hW];clear hW;go_wp2_with fail;refine (je n ps.length (some ⟨b,off,none⟩) cap W hn hk).mono ?_;rintro e w1 ⟨g,rfl,hg1,hf1,hgr1⟩;have F1:=ab (hf1.mono (Nat.zero_le L));have G1:=ab hgr1;have GA:=ab (aa GW.out hgr1);have hgg:w.heap.size+3<=g:=by have:=HWS.out;omega
 have hg1s:g<w1.heap.size:=hf1.lt;have hw1s:w.heap.size+3<=w1.heap.size:=by omega
 clear hf1 hgr1 s0 s1 s2 s3 s4 s5 s6 s7 s8 s9 s10 s11 s12 s13 s14 s15;obtain ⟨⟨s0,s1,s2,s3,s4,s5,s6,s7,s8,s9,s10,s11,s12,s13,s14⟩,s15⟩:=BASE.out w1 g hg1 (aW.of_gr G1.out).1;go_upto_region 2 with fail;obtain ⟨w2,hw2⟩:∃ w2,w2=w1.alloc (Obj.cells #[.slice (some ⟨g,0,none⟩) (n+ps.length+1) (n+ps.length+1)] 92):=⟨_,rfl⟩;have G2:Hid (w1.grownBy w2 none):=by rw [hw2];exact ag (ae _ _) _
 have HW2S:Hid (w2.heap.size=w1.heap.size+1):=by show _=_;rw [hw2];simp
 have V2:Hid (w2.cell? ⟨w1.heap.size,0,none⟩=some (.slice (some ⟨g,0,none⟩) (n+ps.length+1) (n+ps.length+1))):=by show _=_;rw [hw2];go_simp
 rw [<- hw2];clear hw2 s0 s1 s2 s3 s4 s5 s6 s7 s8 s9 s10 s11 s12 s13 s14 s15;generalize hbv:w1.heap.size=bv at *;have GA2:=ab (aa GA.out G2.out);obtain ⟨⟨s0,s1,s2,s3,s4,s5,s6,s7,s8,s9,s10,s11,s12,s13,s14⟩,s15⟩:=BASE.out w2 g hg1 (aW.of_gr (aa G1.out G2.out)).1;have p0:=GA2.out.cell c0 (by simp);have p1:=GA2.out.cell c1 (by simp);have p2:=GA2.out.cell c2 (by simp);have p3:=GA2.out.cell c3 (by simp);have p4:=GA2.out.cell c4 (by simp);have p5:=GA2.out.cell c5 (by simp);clear c0 c1 c2 c3 c4 c5;go_upto_region 3 with fail;obtain ⟨w3,hw3⟩:∃ w3,w3=w2.alloc (Obj.cells #[.int .i64 kd,.int .i64 ((xa:Nat):Int),.int .i64 ((xb:Nat):Int),.int .i64 ((xc:Nat):Int),.int .i64 ((xd:Nat):Int),.string vv] 66):=⟨_,rfl⟩;have G3:Hid (w2.grownBy w3 none):=by rw [hw3];exact ag (ae _ _) _
 have PC:Hid (∀ wx,w3.grownBy wx (some g)->wx.cell? ⟨w2.heap.size,1,none⟩=some (.int .i64 ((xa:Nat):Int))/\wx.cell? ⟨w2.heap.size,2,none⟩=some (.int .i64 ((xb:Nat):Int))/\wx.cell? ⟨w2.heap.size,3,none⟩=some (.int .i64 ((xc:Nat):Int))/\wx.cell? ⟨w2.heap.size,4,none⟩=some (.int .i64 ((xd:Nat):Int))):=by
  intro wx hg;rw [hw3] at hg;have n1:some w2.heap.size≠some g:=fun e=>by have:=Option.some.inj e;have:=HW2S.out;omega
  exact ⟨hg.cell (by go_simp) n1,hg.cell (by go_simp) n1,hg.cell (by go_simp) n1,hg.cell (by go_simp) n1⟩
 rw [<- hw3];clear hw3 s0 s1 s2 s3 s4 s5 s6 s7 s8 s9 s10 s11 s12 s13 s14 s15 p0 p1 p2 p3 p4 p5;generalize w2.heap.size=bp at *;have GB:=ab (aa G2.out G3.out);have CELLS:Hid (∀ wx,aW w3 wx g->(wx.cell? ⟨w.heap.size,4,none⟩=some (.func (.func 132) #[] #[])/\wx.cell? ⟨w.heap.size,5,none⟩=some (.func (.func 88) #[] #[])/\wx.cell? ⟨w.heap.size+1,0,none⟩=some (.int .i64 ((n:Nat):Int))/\wx.cell? ⟨w.heap.size+1+1,0,none⟩=some (.bool (rB qa))/\wx.cell? ⟨w.heap.size+1+1,1,none⟩=some (.slice ko kl kc)/\wx.cell? ⟨w.heap.size+1+1,2,none⟩=some (.slice ko2 kl2 kc2)/\wx.cell? ⟨w.heap.size+1+1,3,none⟩=some (.bool (rB qf))/\wx.cell? ⟨w.heap.size+1+1,4,none⟩=some (.slice wo wl wc)/\wx.cell? ⟨w.heap.size+1+1,5,none⟩=some (.slice wo2 wl2 wc2)/\wx.cell? ⟨w.heap.size+1+1,6,none⟩=some (.bool (rB ql))/\wx.cell? ⟨w.heap.size+1+1,7,none⟩=some (.slice lo ll lc)/\wx.cell? ⟨w.heap.size+1+1,8,none⟩=some (.slice lo2 ll2 lc2)/\wx.cell? ⟨w.heap.size+1+1,9,none⟩=some (.bool (rB qs))/\wx.cell? ⟨w.heap.size+1+1,10,none⟩=some (.slice so sl sc)/\wx.cell? ⟨w.heap.size+1+1,11,none⟩=some (.slice so2 sl2 sc2))/\wx.cell? ⟨bv,0,none⟩=some (.slice (some ⟨g,0,none⟩) (n+ps.length+1) (n+ps.length+1))/\wx.cell? ⟨bp,1,none⟩=some (.int .i64 ((xa:Nat):Int))/\wx.cell? ⟨bp,2,none⟩=some (.int .i64 ((xb:Nat):Int))/\wx.cell? ⟨bp,3,none⟩=some (.int .i64 ((xc:Nat):Int))/\wx.cell? ⟨bp,4,none⟩=some (.int .i64 ((xd:Nat):Int))):=by
  intro wx hx;have n1:some bv≠some g:=fun e=>by have:=Option.some.inj e;omega
  exact ⟨(BASE.out wx g hg1 (au (r:=some g) (aa G1.out GB.out) hx.1 (fun _ _ e=>by cases e) (fun _ _ e=>e))).1,hx.1.cell (G3.out.cell V2.out (by simp)) n1,PC.out wx hx.1⟩
 have F3:=ab (F1.out.keep0 GB.out);have R3:=ab (aW.refl w3 g);have Z3:=ab (bm.of_gr (aa GA.out GB.out));obtain ⟨⟨s0,s1,s2,s3,s4,s5,s6,s7,s8,s9,s10,s11,s12,s13,s14⟩,u0,u1,u2,u3,u4⟩:=CELLS.out w3 R3.out;go_wp2_with fail;refine (pz w.heap.size bv g (n+ps.length+1) xa (fun _=>0) qa _ L _ (by first | exact s0 | exact s1) u0 F3.out (HA.out.kept Z3.out) (by omega) (by omega) (by omega) (by omega) hL T1.out).mono ?_;rintro e w4 ⟨rfl,f4,g4⟩;have F4:=ab f4;have R4:=ab (R3.out.trans g4);have Z4:=ab (Z3.out.trans g4.2);clear f4 g4 s0 s1 s2 s3 s4 s5 s6 s7 s8 s9 s10 s11 s12 s13 s14 u0 u1 u2 u3 u4;obtain ⟨⟨s0,s1,s2,s3,s4,s5,s6,s7,s8,s9,s10,s11,s12,s13,s14⟩,u0,u1,u2,u3,u4⟩:=CELLS.out w4 R4.out;go_wp2_with fail;refine (nT w.heap.size bv g (n+ps.length+1) xb (bq (fun _=>0) xa (0+qa)) qa _ L _ (by first | exact s0 | exact s1) u0 F4.out (HA.out.kept Z4.out) (by omega) (by omega) (by omega) (by omega) hL T2.out).mono ?_;rintro e w5 ⟨rfl,f5,g5⟩;have F5:=ab f5;have R5:=ab (R4.out.trans g5);have Z5:=ab (Z4.out.trans g5.2);clear f5 g5 s0 s1 s2 s3 s4 s5 s6 s7 s8 s9 s10 s11 s12 s13 s14 u0 u1 u2 u3 u4;obtain ⟨⟨s0,s1,s2,s3,s4,s5,s6,s7,s8,s9,s10,s11,s12,s13,s14⟩,u0,u1,u2,u3,u4⟩:=CELLS.out w5 R5.out;go_wp2_with fail;refine (pz w.heap.size bv g (n+ps.length+1) xc (bq (bq (fun _=>0) xa (0+qa)) xb ((bq (fun _=>0) xa (0+qa)) xb-qa)) ql _ L _ (by first | exact s0 | exact s1) u0 F5.out (HL.out.kept Z5.out) (by omega) (by omega) (by omega) (by omega) hL T3.out).mono ?_
 rintro e w6 ⟨rfl,f6,g6⟩;have F6:=ab f6;have R6:=ab (R5.out.trans g6);have Z6:=ab (Z5.out.trans g6.2);clear f6 g6 s0 s1 s2 s3 s4 s5 s6 s7 s8 s9 s10 s11 s12 s13 s14 u0 u1 u2 u3 u4;obtain ⟨⟨s0,s1,s2,s3,s4,s5,s6,s7,s8,s9,s10,s11,s12,s13,s14⟩,u0,u1,u2,u3,u4⟩:=CELLS.out w6 R6.out;go_wp2_with fail;refine (nT w.heap.size bv g (n+ps.length+1) xd (bq (bq (bq (fun _=>0) xa (0+qa)) xb ((bq (fun _=>0) xa (0+qa)) xb-qa)) xc ((bq (bq (fun _=>0) xa (0+qa)) xb ((bq (fun _=>0) xa (0+qa)) xb-qa)) xc+ql)) ql _ L _ (by first | exact s0 | exact s1) u0 F6.out (HL.out.kept Z6.out) (by omega) (by omega) (by omega) (by omega) hL T4.out).mono ?_;rintro e w7 ⟨rfl,f7,g7⟩;have F7:=ab f7;have R7:=ab (R6.out.trans g7);have Z7:=ab (Z6.out.trans g7.2);clear f7 g7 s0 s1 s2 s3 s4 s5 s6 s7 s8 s9 s10 s11 s12 s13 s14 u0 u1 u2 u3 u4;obtain ⟨⟨s0,s1,s2,s3,s4,s5,s6,s7,s8,s9,s10,s11,s12,s13,s14⟩,u0,u1,u2,u3,u4⟩:=CELLS.out w7 R7.out;have hwn:IntKind.i64.wrap ((n:Int)+(i:Int))=(n:Int)+(i:Int):=IntWalk.i64_in _ ⟨by omega,by omega⟩;have hni1:(0:Int)<=(n:Int)+(i:Int):=by omega
 have hni2:(n:Int)+(i:Int)<(n:Int)+(ps.length:Int)+1:=by omega
 have hni:n+i<n+ps.length+1:=by omega
 obtain ⟨_,_,_,_,_,_,d0,d1,d2,_,df⟩:=F7.out.at (n+i) hni;have df0:=df ((n+i)*3);have df1:=df ((n+i)*3+1);have df2:=df ((n+i)*3+2);clear df;go_upto_region 10 with fail;obtain ⟨w8,hw8⟩:∃ w8,w8=((w7.setCell ⟨g,(n+i)*3,none⟩ (.bool (rB qf))).setCell ⟨g,(n+i)*3+1,none⟩ (.slice wo wl wc)).setCell ⟨g,(n+i)*3+2,none⟩ (.slice wo2 wl2 wc2):=⟨_,rfl⟩;obtain ⟨y1,y2,y3⟩:=F7.out.set (n+i) hni (HF.out.kept Z7.out);rw [<- hw8] at y1 y2 y3;rw [<- hw8];have F8:=ab y1;have R8:=ab (R7.out.trans ⟨y2,y3⟩);have Z8:=ab (Z7.out.trans y3);clear hw8 y1 y2 y3 d0 d1 d2 df0 df1 df2 s0 s1 s2 s3 s4 s5 s6 s7 s8 s9 s10 s11 s12 s13 s14 u0 u1 u2 u3 u4;obtain ⟨⟨s0,s1,s2,s3,s4,s5,s6,s7,s8,s9,s10,s11,s12,s13,s14⟩,u0,u1,u2,u3,u4⟩:=CELLS.out w8 R8.out;obtain ⟨_,_,_,_,_,_,d0,d1,d2,_,df⟩:=F8.out.at (n+ps.length) (by omega);have df0:=df ((n+ps.length)*3);have df1:=df ((n+ps.length)*3+1);have df2:=df ((n+ps.length)*3+2);clear df;have hwl1:IntKind.i64.wrap ((n:Int)+(ps.length:Int))=(n:Int)+(ps.length:Int):=IntWalk.i64_in _ ⟨by omega,by omega⟩;have hwl2:IntKind.i64.wrap ((n:Int)+(ps.length:Int)+1-1)=(n:Int)+(ps.length:Int):=by rw [IntWalk.i64_in _ ⟨by omega,by omega⟩];omega
 have hnl1:(0:Int)<=(n:Int)+(ps.length:Int):=by omega
 have hnl2:(n:Int)+(ps.length:Int)<(n:Int)+(ps.length:Int)+1:=by omega
 go_upto_region 11 with fail;obtain ⟨w9,hw9⟩:∃ w9,w9=((w8.setCell ⟨g,(n+ps.length)*3,none⟩ (.bool (rB qs))).setCell ⟨g,(n+ps.length)*3+1,none⟩ (.slice so sl sc)).setCell ⟨g,(n+ps.length)*3+2,none⟩ (.slice so2 sl2 sc2):=⟨_,rfl⟩;obtain ⟨y1,y2,y3⟩:=F8.out.set (n+ps.length) (by omega) (HS.out.kept Z8.out);rw [<- hw9] at y1 y2 y3;rw [<- hw9];have F9:=ab y1;have R9:=ab (R8.out.trans ⟨y2,y3⟩);clear hw9 y1 y2 y3 d0 d1 d2 df0 df1 df2 s0 s1 s2 s3 s4 s5 s6 s7 s8 s9 s10 s11 s12 s13 s14 u0 u1 u2 u3 u4;obtain ⟨⟨s0,s1,s2,s3,s4,s5,s6,s7,s8,s9,s10,s11,s12,s13,s14⟩,u0,u1,u2,u3,u4⟩:=CELLS.out w9 R9.out;go_wp2;refine bodyPost_ret (v:=.slice (some ⟨g,0,none⟩) (n+ps.length+1) (n+ps.length+1)) (by simp [results,Tryz.results161,go_sem]) rfl ?_;exact ⟨g,rfl,by omega,F9.out,au (r:=none) (aa GA.out GB.out) R9.out.1 (fun _ _ e=>e) (fun b hb e=>by have:=Option.some.inj e;omega)⟩
end Go.Proofs.YtgilmecjbjoonabGreatDoor
