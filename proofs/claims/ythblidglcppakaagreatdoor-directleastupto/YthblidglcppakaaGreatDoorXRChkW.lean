/- Contracts that the proof leans on. -/
import Derived.Test.YthblidglcppakaaGreatDoorXCLa
import Derived.Test.YthblidglcppakaaGreatDoorXCNb
import Derived.Test.YthblidglcppakaaGreatDoorXCT
namespace Go.Proofs.YthblidglcppakaaGreatDoor
open Go.RowKit
set_option linter.unusedVariables false
set_option linter.unusedSimpArgs false
set_option maxHeartbeats 8000000
set_option maxRecDepth 10000
theorem AO (c i:Int) (w:World):Calls Tryz.prog 17 #[.int .i64 c,.int .i64 i] w fun e w'=>e=.returned (.agg #[.int .i64 c,.int .i64 i])/\w.grownBy w' none:=by
 go_enter Tryz.func17,Tryz.ntmps17
 go_wp2
 all_goals exact bodyPost_ret (v:=.agg #[.int .i64 c,.int .i64 i]) (by simp [results,Tryz.results17,go_sem]) rfl ⟨rfl,by repeat (first | exact ae _ _ | refine ag ?_ _ | refine ar ?_ _ | (refine ai ?_ _ _ (by simp)))⟩
theorem sw (x nodes:Int) (g:Nat) (w:World) (hc:w.cell? ⟨g,0,none⟩=some (.int .i64 nodes)) :
  Calls Tryz.prog 18 #[.int .i64 x,.pointer (some ⟨g,0,none⟩)] w fun e w'=>e=.returned (.bool (fL x nodes))/\w'=w:=by
 by_cases h:0<=x
 ·go_enter Tryz.func18,Tryz.ntmps18
  go_wp2;go_ret;refine ⟨?_,rfl⟩;unfold fL;rw [show decide (0<=x)=true from by simpa using h];simp
 ·go_enter Tryz.func18,Tryz.ntmps18
  go_wp2;go_ret;refine ⟨?_,rfl⟩;unfold fL;rw [show decide (0<=x)=false from by simpa using h];rfl
def CkwR (W:World) (n:Nat) (iv:Value) (wr:World):Prop:=∃ i:Nat,i<=n/\iv=.int .i64 i/\W.grownBy wr none
theorem xr (nodes:Int) (po:Option Addr) (pcap:Nat) (ps:List aI) (dio:Bool) (m:Int) (w:World) (hml:w.cell? ⟨1,0,none⟩=some (.int .i64 m)) (hp:aK w (.slice po ps.length pcap) ps) :
  Calls Tryz.prog 5 #[.agg #[.int .i64 nodes,.slice po ps.length pcap],.bool dio] w fun e w'=>∃ c1 c2:Int,e=.returned (.agg #[.int .i64 c1,.int .i64 c2])/\w.grownBy w' none/\(c1=0->ps.length<=16):=by
 obtain ⟨ao,cap,e,h1,h2,h3⟩:=hp;simp only [Value.slice.injEq,true_and] at e;obtain ⟨rfl,rfl⟩:=e;unfold maxLen at h2;have HP:=ab h3;have HML:=ab hml;clear h3 hml;obtain ⟨W,hW⟩:∃ W,W=(w.alloc (Obj.cells #[.int .i64 nodes,.slice po ps.length pcap] 24)).alloc (Obj.cells #[.int .i64 0,.int .i64 0] 29):=⟨_,rfl⟩;have gW:Hid (w.grownBy W none):=by rw [hW];exact ag (ag (ae _ _) _) _
 have rW:Hid (∀ wr:World,W.grownBy wr none->wr.cell? ⟨w.heap.size+1,0,none⟩=some (.int .i64 0)/\wr.cell? ⟨w.heap.size+1,1,none⟩=some (.int .i64 0)/\(∀ i,wr.frozen? ⟨w.heap.size+1,i,none⟩=false)/\wr.cell? ⟨w.heap.size,0,none⟩=some (.int .i64 nodes)/\wr.cell? ⟨w.heap.size,1,none⟩=some (.slice po ps.length pcap)):=by
  intro wr hg;rw [hW] at hg;have:=gG hg;exact ⟨by simpa using this.1,by simpa using this.2.1,by simpa using this.2.2,hg.cell (by go_simp) (by simp),hg.cell (by go_simp) (by simp)⟩
 go_enter Tryz.func5,Tryz.ntmps5
 go_upto_region 1 with fail;rw [<- hW];clear hW;obtain ⟨_,_,_,n0,n1⟩:=rW.out W (ae _ _);go_cut [22] (fun s22 wx=>Hid ((∃ b:Bool,s22=.bool b/\(b=false->ps.length<=16))/\W=wx))
 case first =>
  cases h1:decide (nodes<1)<;>cases h2:decide (8<nodes)<;>(go_wp2_with fail;go_meet;exact ⟨⟨_,rfl,fun hb=>by simp at hb;try omega⟩,rfl⟩)
 case rest =>
  obtain ⟨⟨b22,rfl,h16⟩,rfl⟩:=hcut.out;cases b22
  case true =>
   go_wp2_with fail;refine (AO 2 0 _).mono ?_;rintro e w1 ⟨rfl,f1⟩;obtain ⟨r0,r1,rf,_⟩:=rW.out w1 f1;have rf0:=rf 0;have rf1:=rf 1;have F1:=ab f1;clear rf f1;go_wp2;exact bodyPost_ret (v:=.agg #[.int .i64 2,.int .i64 0]) (by simp [results,Tryz.results5,go_sem,r0,r1]) rfl ⟨_,_,rfl,ai (ai (aa gW.out F1.out) _ _ (by simp)) _ _ (by simp),fun h=>absurd h (by decide)⟩
  case false =>
   have H16:=ab (h16 rfl);clear h16 hcut;go_wp2;go_loopw [27] (fun iv wr=>Hid (CkwR W ps.length iv wr)) (fun iv _=>ps.length-(intOf iv).toNat)
   case atStart=>exact ⟨0,by omega,rfl,ae _ _⟩
   case round =>
    obtain ⟨i,hi,rfl,hgr⟩:=hrel.out;have HGR:=ab hgr;clear hgr hrel n0 n1;by_cases hlt:i<ps.length
    ·obtain ⟨b,off,rfl,hb,c0,c1,c2,c3,c4,c5,c6⟩:=HP.out i hlt;have hgg:=aa gW.out HGR.out;have q0:=hgg.cell c0 (by simp);have q1:=hgg.cell c1 (by simp);have q2:=hgg.cell c2 (by simp);have q3:=hgg.cell c3 (by simp);have q4:=hgg.cell c4 (by simp);have q5:=hgg.cell c5 (by simp);generalize ps[i]=p at q0 q1 q2 q3 q4 q5 c6;obtain ⟨k,pa,pb,pc,pd,v⟩:=p;simp only at q0 q1 q2 q3 q4 q5 c6;obtain ⟨gp,hgp⟩:∃ gp,gp=wr.heap.size:=⟨_,rfl⟩;obtain ⟨W2,hW2⟩:∃ W2,W2=wr.alloc (Obj.cells #[.int .i64 k,.int .i64 pa,.int .i64 pb,.int .i64 pc,.int .i64 pd,.string v] 34):=⟨_,rfl⟩;have GW2:Hid (W.grownBy W2 none):=by rw [hW2];exact ag HGR.out _
     have PW:Hid (∀ wx:World,W2.grownBy wx none->wx.cell? ⟨gp,0,none⟩=some (.int .i64 k)/\wx.cell? ⟨gp,1,none⟩=some (.int .i64 pa)/\wx.cell? ⟨gp,2,none⟩=some (.int .i64 pb)/\wx.cell? ⟨gp,3,none⟩=some (.int .i64 pc)/\wx.cell? ⟨gp,4,none⟩=some (.int .i64 pd)/\wx.cell? ⟨gp,5,none⟩=some (.string v)/\wx.cell? ⟨w.heap.size,0,none⟩=some (.int .i64 nodes)):=by
      intro wx hg;have h0:=(rW.out wx (aa GW2.out hg)).2.2.2.1;rw [hW2] at hg;rw [hgp];exact ⟨hg.cell (by go_simp) (by simp),hg.cell (by go_simp) (by simp),hg.cell (by go_simp) (by simp),hg.cell (by go_simp) (by simp),hg.cell (by go_simp) (by simp),hg.cell (by go_simp) (by simp),h0⟩
     clear c0 c1 c2 c3 c4 c5 hgg;go_upto_region 6 with fail;rw [<- hW2,<- hgp];clear hW2 hgp q0 q1 q2 q3 q4 q5;obtain ⟨p0,p1,p2,p3,p4,p5,n0⟩:=PW.out W2 (ae _ _);go_cut [7] from 28 to 126 (fun s7 wx=>(∃ b:Bool,s7=.bool b)/\W2=wx)
     case first =>
      cases h1:(k==6)<;>(go_wp2_with fail;go_meet;exact ⟨⟨_,rfl⟩,rfl⟩)
     case rest =>
      obtain ⟨⟨lead,rfl⟩,rfl⟩:=hcut;go_upto_region 8 with fail;go_cut [57] from 28 to 126 (fun s57 wx=>(∃ b:Bool,s57=.bool b)/\W2=wx)
      case first =>
       cases h1:decide (k<1)<;>cases h2:decide (8<k)<;>cases h3:(k==8)<;>(go_wp2_with fail;go_meet;exact ⟨⟨_,rfl⟩,rfl⟩)
      case rest =>
       obtain ⟨⟨b57,rfl⟩,rfl⟩:=hcut;cases b57
       case true =>
        go_wp2_with fail;refine (AO 3 _ _).mono ?_;rintro e w1 ⟨rfl,f1⟩;obtain ⟨r0,r1,rf,_⟩:=rW.out w1 (aa GW2.out f1);have rf0:=rf 0;have rf1:=rf 1;have F1:=ab f1;clear rf f1;go_wp2;exact bodyPost_ret (v:=.agg #[.int .i64 3,.int .i64 i]) (by simp [results,Tryz.results5,go_sem,r0,r1]) rfl ⟨_,_,rfl,ai (ai (aa (aa gW.out GW2.out) F1.out) _ _ (by simp)) _ _ (by simp),fun h=>absurd h (by decide)⟩
       case false =>
        go_upto_region 10 with fail;go_cut [87] from 28 to 126 (fun s87 wx=>(∃ b:Bool,s87=.bool b)/\W2=wx)
        case first =>
         go_wp2_with fail;refine (sw pa nodes _ _ n0).mono ?_;rintro e _ ⟨rfl,rfl⟩;cases fL pa nodes
         case false=>go_wp2_with fail;go_meet;exact ⟨⟨_,rfl⟩,rfl⟩
         case true =>
          go_wp2_with fail;refine (sw pb nodes _ _ n0).mono ?_;rintro e _ ⟨rfl,rfl⟩;cases fL pb nodes
          case false=>go_wp2_with fail;go_meet;exact ⟨⟨_,rfl⟩,rfl⟩
          case true =>
           cases lead
           case false=>go_wp2_with fail;go_meet;exact ⟨⟨_,rfl⟩,rfl⟩
           case true =>
            go_wp2_with fail;refine (sw pc nodes _ _ n0).mono ?_;rintro e _ ⟨rfl,rfl⟩;cases fL pc nodes
            case false=>go_wp2_with fail;go_meet;exact ⟨⟨_,rfl⟩,rfl⟩
            case true =>
             go_wp2_with fail;refine (sw pd nodes _ _ n0).mono ?_;rintro e _ ⟨rfl,rfl⟩;go_wp2_with fail;go_meet;exact ⟨⟨_,rfl⟩,rfl⟩
        case rest =>
         obtain ⟨⟨b87,rfl⟩,rfl⟩:=hcut;cases b87
         case true =>
          go_wp2_with fail;refine (AO 4 _ _).mono ?_;rintro e w1 ⟨rfl,f1⟩;obtain ⟨r0,r1,rf,_⟩:=rW.out w1 (aa GW2.out f1);have rf0:=rf 0;have rf1:=rf 1;have F1:=ab f1;clear rf f1;go_wp2;exact bodyPost_ret (v:=.agg #[.int .i64 4,.int .i64 i]) (by simp [results,Tryz.results5,go_sem,r0,r1]) rfl ⟨_,_,rfl,ai (ai (aa (aa gW.out GW2.out) F1.out) _ _ (by simp)) _ _ (by simp),fun h=>absurd h (by decide)⟩
         case false =>
          go_upto_region 12 with fail;go_cut [99] from 28 to 126 (fun s99 wx=>Hid ((∃ b:Bool,s99=.bool b)/\W2.grownBy wx none))
          case first =>
           cases h4:decide (k<4)
           case false=>go_wp2_with fail;go_meet;exact ⟨⟨_,rfl⟩,ae _ _⟩
           case true =>
            have ml2:=(aa gW.out GW2.out).cell HML.out (by simp);go_wp2_with fail;refine (rOf_at v m _ (by omega) ml2).mono ?_;rintro e w1 ⟨b1,rfl,g1,x1⟩;have G1:=ab g1;have X1:Hid (RV w1 b1 (dN v.data.toList) (3*v.size+8)):=x1;clear g1 x1 ml2;go_wp2_with fail;refine (CU b1 _ _ w1 X1.out).mono ?_;rintro e _ ⟨rfl,rfl⟩;go_wp2_with fail;go_meet;exact ⟨⟨_,rfl⟩,G1.out⟩
          case rest =>
           obtain ⟨⟨b99,rfl⟩,g99⟩:=hcut.out;have G99:=ab (aa GW2.out g99);clear p0 p1 p2 p3 p4 p5 n0;obtain ⟨p0,p1,p2,p3,p4,p5,n0⟩:=PW.out _ g99;clear g99 hcut;cases b99
           case true =>
            go_wp2_with fail;refine (AO 5 _ _).mono ?_;rintro e w1 ⟨rfl,f1⟩;obtain ⟨r0,r1,rf,_⟩:=rW.out w1 (aa G99.out f1);have rf0:=rf 0;have rf1:=rf 1;have F1:=ab f1;clear rf f1;go_wp2;exact bodyPost_ret (v:=.agg #[.int .i64 5,.int .i64 i]) (by simp [results,Tryz.results5,go_sem,r0,r1]) rfl ⟨_,_,rfl,ai (ai (aa (aa gW.out G99.out) F1.out) _ _ (by simp)) _ _ (by simp),fun h=>absurd h (by decide)⟩
           case false =>
            go_upto_region 14 with fail;go_cut [123] from 28 to 126 (fun s123 wx=>(∃ b:Bool,s123=.bool b)/\wc=wx)
            case first =>
             cases lead<;>cases h5:(pc != 0)<;>cases h6:(pd != 0)<;>cases h7:(k==8)<;>(go_wp2_with fail;go_meet;exact ⟨⟨_,rfl⟩,rfl⟩)
            case rest =>
             obtain ⟨⟨b123,rfl⟩,rfl⟩:=hcut;cases b123
             case true =>
              go_wp2_with fail;refine (AO 6 _ _).mono ?_;rintro e w1 ⟨rfl,f1⟩;obtain ⟨r0,r1,rf,_⟩:=rW.out w1 (aa G99.out f1);have rf0:=rf 0;have rf1:=rf 1;have F1:=ab f1;clear rf f1;go_wp2;exact bodyPost_ret (v:=.agg #[.int .i64 6,.int .i64 i]) (by simp [results,Tryz.results5,go_sem,r0,r1]) rfl ⟨_,_,rfl,ai (ai (aa (aa gW.out G99.out) F1.out) _ _ (by simp)) _ _ (by simp),fun h=>absurd h (by decide)⟩
             case false =>
              go_wp2;go_roundw
              case rel=>exact ⟨i+1,by omega,by go_num,G99.out⟩
              case measure=>simp [intOf];omega
    ·obtain rfl:i=ps.length:=by omega
     obtain ⟨r0,r1,rf,_⟩:=rW.out wr HGR.out;have rf0:=rf 0;have rf1:=rf 1;clear rf;go_wp2;exact bodyPost_ret (v:=.agg #[.int .i64 0,.int .i64 0]) (by simp [results,Tryz.results5,go_sem,r0,r1]) rfl ⟨_,_,rfl,ai (ai (aa gW.out HGR.out) _ _ (by simp)) _ _ (by simp),fun _=>H16.out⟩
end Go.Proofs.YthblidglcppakaaGreatDoor
