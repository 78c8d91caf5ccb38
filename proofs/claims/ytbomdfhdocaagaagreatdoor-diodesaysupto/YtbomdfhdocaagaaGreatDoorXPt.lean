/- Contracts. -/
import Derived.Test.YtbomdfhdocaagaaGreatDoorXPs
import Derived.Test.YtbomdfhdocaagaaGreatDoorXPo
import Derived.Test.YtbomdfhdocaagaaGreatDoorXPf
import Derived.Deep.AppendLies
namespace Go.Proofs.YtbomdfhdocaagaaGreatDoor
open Go.RowKit
set_option linter.all false
set_option maxHeartbeats 8000000
set_option maxRecDepth 10000
variable {w:World} {g n base cap:Nat}
def uz (c i:Int) (w:World):Calls Tryz.prog 8 #[.int .i64 c,.int .i64 i] w fun e a=>e=.returned (.agg #[.int .i64 c,.int .i64 i])/\w.grownBy a none:=by
 go_enter Tryz.func8,Tryz.ntmps8
 go_wp2
 all_goals exact bodyPost_ret (v:=.agg #[.int .i64 c,.int .i64 i]) (by simp [results,Tryz.results8,go_sem]) rfl ⟨rfl,by repeat (first | exact ae _ _ | refine ag ?_ _ | refine ak ?_ _ | (refine ah ?_ _ _ Z))⟩
def tH (x a:Int) (g:Nat) (w:World) (hc:w.cell? ⟨g,0,none⟩=some (.int .i64 a)) :
  Calls Tryz.prog 39 #[.int .i64 x,.pointer (some ⟨g,0,none⟩)] w fun e b=>e=.returned (.bool (ft x a))/\b=w:=by
 by_cases h:0<=x
 ·go_enter Tryz.func39,Tryz.ntmps39
  go_wp2;go_ret;refine ⟨?_,rfl⟩;unfold ft;rw [show decide (0<=x)=true from by simpa using h];simp
 ·go_enter Tryz.func39,Tryz.ntmps39
  go_wp2;go_ret;refine ⟨?_,rfl⟩;unfold ft;rw [show decide (0<=x)=false from by simpa using h];rfl
def FE (v:ByteArray):decide (ja (sg (ij v.data.toList).1 (ij v.data.toList).2.1)<=0)=decide (kM v<=0):=by
 unfold kM lQ ja sg;generalize (ij v.data.toList).1=neg;generalize (ij v.data.toList).2.1=n;cases neg
 ·by_cases hn:n=0
  ·subst hn;simp
  ·have a:0<n:=O
   have b:¬ ((n:Int)<0):=O
   simp [hn,a,b]
 ·by_cases hn:n=0
  ·subst hn;simp
  ·have:0<n:=O
   simp [this]
def wd_all (k d pb b c:Int) (v:ByteArray) (a:Int):dI ⟨k,d,pb,b,c,v⟩ a=if (decide (k<1) || decide (8<k))=true then 3 else if (!(ft d a) || !(ft pb a) || ((k==6 || k==7) && !(ft b a && ft c a)))=true then 4 else if (decide (k<4) && decide (kM v<=0))=true then 5 else if (!(k==6 || k==7) && (b != 0 || c != 0) || ((k==8) && !v.toList.isEmpty))=true then 6 else 0:=by
 by_cases e:(k=1∨k=2∨k=3∨k=4∨k=5∨k=6∨k=7∨k=8)
 ·rcases e with rfl | rfl | rfl | rfl | rfl | rfl | rfl | rfl<;>simp [dI,kT,lK,fP,eK,Lib.toList_data]
 ·rw [if_pos (by simp;omega)];unfold dI;rw [if_pos (by show k<1∨9<=k;omega)]
def RChkR (W:World) (nodes:Int) (ps:List aA) (C:Int×Int) (iv:Value) (wr:World):Prop:=∃ i:Nat,i<=ps.length/\iv=.int .i64 i/\cK nodes (ps.drop i) i=C/\W.grownBy wr none
def wH (a:Int) (pv:Value) (f:List aA) (w:World) (hb:kn w) (hp:aB w pv f) (U:∀ i (h:i<f.length),f[i].v.size<=100000000) :
  Calls Tryz.prog 24 #[.agg #[.int .i64 a,pv],.bool true] w fun e w'=>pB w a f e w':=by
 obtain ⟨po,I,rfl,_⟩:=id hp;obtain ⟨_,⟨m,he⟩,_⟩:=hb;have hm:=ab U;clear U;obtain ⟨ao,cap,e,S,h2,h3⟩:=hp;simp only [Value.slice.injEq,true_and] at e;obtain ⟨rfl,rfl⟩:=e;unfold maxLen at h2;have HP:=ab h3;have ho:=ab he;obtain ⟨C,hC⟩:=eX (cK a f 0);have V:=ab hC;clear h3 he hC;obtain ⟨W,hW⟩:=eX ((w.alloc (Obj.cells #[.int .i64 a,.slice po f.length I] 24)).alloc (Obj.cells #[.int .i64 0,.int .i64 0] 29));have G:Hid (w.grownBy W none):=by rw [hW];exact ag (ag (ae _ _) _) _
 have H:Hid (∀ wr:World,W.grownBy wr none->wr.cell? ⟨w.heap.size+1,0,none⟩=some (.int .i64 0)/\wr.cell? ⟨w.heap.size+1,1,none⟩=some (.int .i64 0)/\(∀ i,wr.frozen? ⟨w.heap.size+1,i,none⟩=false)/\wr.cell? ⟨w.heap.size,0,none⟩=some (.int .i64 a)/\wr.cell? ⟨w.heap.size,1,none⟩=some (.slice po f.length I)):=by
  intro wr hg;rw [hW] at hg;have:=mQ hg;exact ⟨by simpa using this.1,by simpa using this.2.1,by simpa using this.2.2,hg.cell zG Z,hg.cell zG Z⟩
 go_enter Tryz.func24,Tryz.ntmps24
 go_upto_region 1 with fail;rw [<- hW];clear hW;obtain ⟨_,_,_,J,n1⟩:=H.out W (ae _ _);go_cut [22] (fun s22 wx=>Hid (s22=.bool (decide (a<1) || decide (8<a) || decide ((16:Int)<(f.length:Int)))/\W=wx))
 case first =>
  cases S:decide (a<1)<;>cases h2:decide (8<a)<;>(go_wp2_with fail;go_meet;exact ⟨by rw [S,h2];rfl,rfl⟩)
 case rest =>
  obtain ⟨rfl,rfl⟩:=hcut.out;obtain ⟨hu,M⟩:=eX (decide (a<1) || decide (8<a) || decide ((16:Int)<(f.length:Int)));rw [<- M];have X:=ab M;clear M hcut;cases hu
  case true =>
   go_wp2_with fail;refine (uz 2 0 _).mono ?_;rintro e w1 ⟨rfl,f1⟩;obtain ⟨x,r1,c,_⟩:=H.out w1 f1;have q:=c 0;have r:=c 1;have A:=ab f1;clear c f1;go_wp2;exact bodyPost_ret (v:=.agg #[.int .i64 2,.int .i64 0]) (by simp [results,Tryz.results24,go_sem,x,r1]) rfl ⟨by unfold fs;rw [if_pos (by have:=X.out;simp at this;omega)],ah (ah (aa G A) _ _ Z) _ _ Z⟩
  case false =>
   have s:Hid (fs a f=C/\f.length<=16):=by
    have h:=X.out;simp at h;exact ⟨by unfold fs;rw [if_neg O];exact V.symm,O⟩
   go_wp2;go_loopw [27] (fun iv wr=>Hid (RChkR W a f C iv wr)) (fun iv _=>f.length-(intOf iv).toNat)
   case atStart=>exact ⟨0,O,rfl,V.symm,ae _ _⟩
   case round =>
    obtain ⟨i,hi,rfl,hF,hf⟩:=hrel.out;have HF:=ab hF;clear hF;have B:=ab hf;clear hf hrel J n1;by_cases hlt:i<f.length
    ·obtain ⟨b,off,rfl,hb,c0,c1,c2,c3,c4,c5,c6⟩:=HP.out i hlt;have j:=aa G B;have q0:=j.cell c0 Z;have q1:=j.cell c1 Z;have q2:=j.cell c2 Z;have q3:=j.cell c3 Z;have q4:=j.cell c4 Z;have q5:=j.cell c5 Z;have L:f.drop i=f[i] :: f.drop (i+1):=List.drop_eq_getElem_cons hlt;have D:=hm.out i hlt;generalize f[i]=p at q0 q1 q2 q3 q4 q5 c6 L D;obtain ⟨k,E,pb,o,y,v⟩:=p;simp only at q0 q1 q2 q3 q4 q5 c6 D;have t:Hid (C=if dI ⟨k,E,pb,o,y,v⟩ a=0 then cK a (f.drop (i+1)) (i+1) else (dI ⟨k,E,pb,o,y,v⟩ a,(i:Int))):=by
      have h:=HF.out;rw [L,cK] at h;exact h.symm
     have d:=ab (wd_all k E pb o y v a);have hq:=ab D;clear L D HF;obtain ⟨T,N⟩:=eX wr.heap.size;obtain ⟨P,F⟩:=eX (wr.alloc (Obj.cells #[.int .i64 k,.int .i64 E,.int .i64 pb,.int .i64 o,.int .i64 y,.string v] 55));have l:Hid (W.grownBy P none):=by rw [F];exact ag B _
     have PW:Hid (∀ wx:World,P.grownBy wx none->wx.cell? ⟨T,0,none⟩=some (.int .i64 k)/\wx.cell? ⟨T,1,none⟩=some (.int .i64 E)/\wx.cell? ⟨T,2,none⟩=some (.int .i64 pb)/\wx.cell? ⟨T,3,none⟩=some (.int .i64 o)/\wx.cell? ⟨T,4,none⟩=some (.int .i64 y)/\wx.cell? ⟨T,5,none⟩=some (.string v)/\wx.cell? ⟨w.heap.size,0,none⟩=some (.int .i64 a)):=by
      intro wx hg;have h0:=(H wx (aa l hg)).2.2.2.1;rw [F] at hg;rw [N];exact ⟨hg.cell zG Z,hg.cell zG Z,hg.cell zG Z,hg.cell zG Z,hg.cell zG Z,hg.cell zG Z,h0⟩
     clear c0 c1 c2 c3 c4 c5 j;go_upto_region 6 with fail;rw [<- F,<- N];clear F N q0 q1 q2 q3 q4 q5;obtain ⟨p0,p1,p2,p3,p4,p5,J⟩:=PW.out P (ae _ _);go_cut [7] from 28 to 126 (fun s7 wx=>s7=.bool (k==6 || k==7)/\P=wx)
     case first =>
      cases S:(k==6)<;>(go_wp2_with fail;go_meet;exact ⟨by rw [S];rfl,rfl⟩)
     case rest =>
      obtain ⟨rfl,rfl⟩:=hcut;obtain ⟨lead,z⟩:=eX (k==6 || k==7);rw [<- z] at d ⊢;clear z;go_upto_region 8 with fail;go_cut [57] from 28 to 126 (fun s57 wx=>s57=.bool (decide (k<1) || decide (8<k))/\P=wx)
      case first =>
       cases S:decide (k<1)<;>cases h2:decide (8<k)<;>cases h3:(k==8)<;>(go_wp2_with fail;go_meet;exact ⟨by rw [S,h2];rfl,rfl⟩)
      case rest =>
       obtain ⟨rfl,rfl⟩:=hcut;obtain ⟨hv,Q⟩:=eX (decide (k<1) || decide (8<k));rw [<- Q] at d ⊢;have hy:=ab Q;clear Q;cases hv
       case true =>
        go_wp2_with fail;refine (uz 3 _ _).mono ?_;rintro e w1 ⟨rfl,f1⟩;obtain ⟨x,r1,c,_⟩:=H.out w1 (aa l f1);have q:=c 0;have r:=c 1;have A:=ab f1;clear c f1;go_wp2;exact bodyPost_ret (v:=.agg #[.int .i64 3,.int .i64 i]) (by simp [results,Tryz.results24,go_sem,x,r1]) rfl ⟨by rw [s.1,t,d];rfl,ah (ah (aa (aa G l) A) _ _ Z) _ _ Z⟩
       case false =>
        go_upto_region 10 with fail;go_cut [87] from 28 to 126 (fun s87 wx=>s87=.bool (!(ft E a) || !(ft pb a) || (lead && !(ft o a && ft y a)))/\P=wx)
        case first =>
         go_wp2_with fail;refine (tH E a _ _ J).mono ?_;rintro e _ ⟨rfl,rfl⟩;cases hA:ft E a
         case false=>go_wp2_with fail;go_meet;exact ⟨by simp [*],rfl⟩
         case true =>
          go_wp2_with fail;refine (tH pb a _ _ J).mono ?_;rintro e _ ⟨rfl,rfl⟩;cases hB:ft pb a
          case false=>go_wp2_with fail;go_meet;exact ⟨by simp [*],rfl⟩
          case true =>
           cases lead
           case false=>go_wp2_with fail;go_meet;exact ⟨by simp [*],rfl⟩
           case true =>
            go_wp2_with fail;refine (tH o a _ _ J).mono ?_;rintro e _ ⟨rfl,rfl⟩;cases hCc:ft o a
            case false=>go_wp2_with fail;go_meet;exact ⟨by simp [*],rfl⟩
            case true =>
             go_wp2_with fail;refine (tH y a _ _ J).mono ?_;rintro e _ ⟨rfl,rfl⟩;go_wp2_with fail;go_meet;exact ⟨by simp [*],rfl⟩
        case rest =>
         obtain ⟨rfl,rfl⟩:=hcut;obtain ⟨hw,hj⟩:=eX (!(ft E a) || !(ft pb a) || (lead && !(ft o a && ft y a)));rw [<- hj] at d ⊢;clear hj;cases hw
         case true =>
          go_wp2_with fail;refine (uz 4 _ _).mono ?_;rintro e w1 ⟨rfl,f1⟩;obtain ⟨x,r1,c,_⟩:=H.out w1 (aa l f1);have q:=c 0;have r:=c 1;have A:=ab f1;clear c f1;go_wp2;exact bodyPost_ret (v:=.agg #[.int .i64 4,.int .i64 i]) (by simp [results,Tryz.results24,go_sem,x,r1]) rfl ⟨by rw [s.1,t,d];rfl,ah (ah (aa (aa G l) A) _ _ Z) _ _ Z⟩
         case false =>
          go_upto_region 12 with fail;go_cut [99] from 28 to 126 (fun s99 wx=>Hid (s99=.bool (decide (k<4) && decide (kM v<=0))/\P.grownBy wx none))
          case first =>
           cases h4:decide (k<4)
           case false=>go_wp2_with fail;go_meet;exact ⟨by rw [h4];rfl,ae _ _⟩
           case true =>
            have Y:=(aa G l).cell ho Z;have hr:=hq.out;go_wp2_with fail;refine (wI v m _ O Y).mono ?_;intro e w1 hE;obtain ⟨nb,rfl,g1,_,i3,_⟩:=hE;have G1:=ab g1;have I3:=ab i3;clear g1 i3 Y hr;go_wp2_with fail;refine (mh nb _ _ _ I3).mono ?_;rintro e wx ⟨rfl,rfl⟩;have hs:=FE v;go_wp2_with fail;go_meet;exact ⟨by rw [h4,Bool.true_and,<- hs],G1⟩
          case rest =>
           obtain ⟨rfl,R⟩:=hcut.out;obtain ⟨hx,hk⟩:=eX (decide (k<4) && decide (kM v<=0));rw [<- hk] at d ⊢;clear hk;have u:=ab (aa l R);clear p0 p1 p2 p3 p4 p5 J;obtain ⟨p0,p1,p2,p3,p4,p5,J⟩:=PW.out _ R;clear R hcut;cases hx
           case true =>
            go_wp2_with fail;refine (uz 5 _ _).mono ?_;rintro e w1 ⟨rfl,f1⟩;obtain ⟨x,r1,c,_⟩:=H.out w1 (aa u f1);have q:=c 0;have r:=c 1;have A:=ab f1;clear c f1;go_wp2;exact bodyPost_ret (v:=.agg #[.int .i64 5,.int .i64 i]) (by simp [results,Tryz.results24,go_sem,x,r1]) rfl ⟨by rw [s.1,t,d];rfl,ah (ah (aa (aa G u) A) _ _ Z) _ _ Z⟩
           case false =>
            go_upto_region 14 with fail;go_cut [123] from 28 to 126 (fun s123 wx=>s123=.bool (!lead && (o != 0 || y != 0) || ((k==8) && !v.toList.isEmpty))/\wc=wx)
            case first =>
             cases lead<;>cases h5:(o != 0)<;>cases h6:(y != 0)<;>cases h7:(k==8)<;>cases h8:v.toList.isEmpty<;>(go_wp2_with fail;go_meet;exact ⟨by rw [h5,h6,h7,h8];rfl,rfl⟩)
            case rest =>
             obtain ⟨rfl,rfl⟩:=hcut;obtain ⟨hl,K⟩:=eX (!lead && (o != 0 || y != 0) || ((k==8) && !v.toList.isEmpty));rw [<- K] at d ⊢;clear K;cases hl
             case true =>
              go_wp2_with fail;refine (uz 6 _ _).mono ?_;rintro e w1 ⟨rfl,f1⟩;obtain ⟨x,r1,c,_⟩:=H.out w1 (aa u f1);have q:=c 0;have r:=c 1;have A:=ab f1;clear c f1;go_wp2;exact bodyPost_ret (v:=.agg #[.int .i64 6,.int .i64 i]) (by simp [results,Tryz.results24,go_sem,x,r1]) rfl ⟨by rw [s.1,t,d];rfl,ah (ah (aa (aa G u) A) _ _ Z) _ _ Z⟩
             case false =>
              go_wp2;go_roundw
              case rel=>exact ⟨i+1,O,zN,by rw [t,d];rfl,u⟩
              case measure=>exact bH
    ·obtain rfl:i=f.length:=O
     obtain ⟨x,r1,c,_⟩:=H.out wr B;have q:=c 0;have r:=c 1;clear c;go_wp2;exact bodyPost_ret (v:=.agg #[.int .i64 0,.int .i64 0]) (by simp [results,Tryz.results24,go_sem,x,r1]) rfl ⟨by rw [s.1,<- HF,List.drop_of_length_le zL];rfl,ah (ah (aa G B) _ _ Z) _ _ Z⟩
def dZ (z:Int):List UInt8:=if z<0 then 45 :: Lib.decDigits z.natAbs else Lib.decDigits z.natAbs
def dgB (r:Nat):UInt8:=UInt8.ofNat (48+r)
def byte_of (r:Nat) (h:r<10):(48+(r:Int))=((dgB r).toNat:Int):=by
 unfold dgB;rw [UInt8.toNat_ofNat'];omega
def xA (n m:Nat) (acc:List UInt8):Prop:=(m≠0->Lib.decDigits n=Lib.decDigits m++acc.reverse)/\(m=0->Lib.decDigits n=acc.reverse)
def xA.step {m:Nat} {a:List UInt8} (h:xA n m a) (d:m≠0):xA n (m / 10) (a++[dgB (m % 10)]):=by
 have b:=h.1 d;unfold xA dgB;rw [List.reverse_append,List.reverse_singleton];refine ⟨fun e=>?_,fun e=>?_⟩
 ·rw [b,pV O,List.append_assoc]
 ·have c:m<10:=O
  rw [b,Lib.decDigits_one c,Nat.mod_eq_of_lt c]
def rV (z:Int):0<(dZ z).length:=by
 have:=Lib.nDigits_pos z.natAbs;rw [<- Lib.decDigits_length] at this;unfold dZ;split
 ·simp
 ·omega
def SwpR (w:World) (g c:Nat) (l:List UInt8) (i:Nat) (wr:World):Prop:=eO wr w.heap.size (.slice (some ⟨g,0,none⟩) l.length c) (dN l i)/\w.grownBy wr none
def eO.swap {c i j:Nat} {l:List UInt8} (h:eO w base (.slice (some ⟨g,0,none⟩) l.length c) (dN l i)) (hi:i+i+1<l.length) (k:j=l.length-1-i) :
  ∃ x y:UInt8,w.cell? ⟨g,i,none⟩=some (.int .u8 (x.toNat:Nat))/\w.cell? ⟨g,j,none⟩=some (.int .u8 (y.toNat:Nat))/\w.frozen? ⟨g,i,none⟩=false/\w.frozen? ⟨g,j,none⟩=false /\
   eO ((w.setCell ⟨g,i,none⟩ (.int .u8 (y.toNat:Nat))).setCell ⟨g,j,none⟩ (.int .u8 (x.toNat:Nat))) base (.slice (some ⟨g,0,none⟩) l.length c) (dN l (i+1)):=by
 have d:i<(dN l i).length:=by rw [cF];omega
 have a:j<(dN l i).length:=by rw [cF];omega
 rw [<- cF l i] at h;obtain ⟨o,p,q⟩:=h.at i d;obtain ⟨r,s,t⟩:=h.at j a;have ex:(dN l i)[i]=l.getD i 0:=by rw [lH,if_neg O]
 have m:(dN l i)[j]=l.getD j 0:=by rw [lH,if_neg O]
 refine ⟨(dN l i)[i],(dN l i)[j],o,r,p,s,?_⟩;have f:=q (dN l i)[j] _ rfl;rw [show (dN l i).length=((dN l i).set i (dN l i)[j]).length from by simp] at f;obtain ⟨_,_,c3⟩:=f.at j (by simpa using a);have b:=c3 (dN l i)[i] _ rfl;rw [show ((dN l i).set i (dN l i)[j]).length=l.length from by simp [cF]] at b;have e:=FY l i hi;rw [<- k] at e;rw [m,ex] at b ⊢;rw [e] at b;exact b
def TxtR (w:World) (n L:Nat) (k:Nat) (bv av:Value) (wr:World):Prop :=
 ∃ (m:Nat) (acc:List UInt8),eO wr w.heap.size bv acc/\aT wr av m L/\xA n m acc/\w.grownBy wr none/\m=k
def xA.len {m:Nat} {a:List UInt8} (h:xA n m a):a.length<=Lib.nDigits n:=by
 rw [<- Lib.decDigits_length];by_cases b:m=0
 ·rw [h.2 b];simp
 ·rw [h.1 b];simp
def rJ {L:Nat} (a:0<L) (h:n<4294967296^L):Lib.nDigits n<=10*L:=by
 refine me O (Nat.lt_of_lt_of_le h ?_);rw [Nat.pow_mul];exact Nat.pow_le_pow_left zD L
def Es {v:Value} {L:Nat} (h:aT w v n L):n<4294967296^L:=by
 obtain ⟨xs,a,d,b,c⟩:=h;have:=bD a.sm;rw [b] at this;exact Nat.lt_of_lt_of_le this (Nat.pow_le_pow_right zD c)
def xW (bx ox:Nat) (z:Int) (L:Nat) (w:World) (h:ay w bx ox z L) (hL:L<=50000000) :
  Calls Tryz.prog 82 #[.pointer (some ⟨bx,ox,none⟩),.int .i64 10] w fun e w'=>e=.returned (.string ⟨(dZ z).toArray⟩)/\w.grownBy w' none:=by
 obtain ⟨neg,v,h1,h2,h3,h4⟩:=h;obtain ⟨ao,l,ca,rfl,X,_,hH,hI,_,_⟩:=aF h2;have c0:=h1.c0;have c1:=h1.c1;have hu:∀ W,(binOp .eql 100 (.pointer (some ⟨bx,ox,none⟩)) (.pointer none)).run Tryz.prog W=.ok (.bool false) W:=fun W=>zK
 by_cases hz:z=0
 ·have f:l=0:=X.2 O;subst f hz;clear X h1 h2 h3 h4;go_enter Tryz.func82,Tryz.ntmps82
  go_wp2;go_ret;refine ⟨?_,ae _ _⟩;rw [show dZ 0=[48] from by simp [dZ,Lib.decDigits_one]];rfl
 ·have f:0<l:=by
   rcases zP l with e | e
   ·have:=X.1 e;omega
   ·exact e
  have hC:((l:Int)==0)=false:=by simp;omega
  obtain ⟨n,hn⟩:=eX z.natAbs;have hD:0<n:=O
  rw [<- hn] at h2;have HB:=ab h1;have HN:=ab h2;have H3:=ab h3;have J:=ab hn;clear X h1 h2 h3 h4 hn;go_enter Tryz.func82,Tryz.ntmps82
  go_wp2_with fail;refine (qP _ n L _ HN O).mono ?_;rintro e w1 ⟨av,rfl,Y,a2,a3⟩;obtain ⟨hJ,l1,hK,rfl,hq,_,hx,hy,_,_⟩:=aF Y;have A1:=ab Y;have A2:=ab a2;have hE:Lib.nDigits n<=10*L:=by
   have hlt:=Es Y;refine rJ ?_ hlt;rcases zP L with e | e
   ·subst e;simp at hlt;omega
   ·exact e
  clear Y a2 a3 hq c0 c1;go_wp2;go_loopg [5,6] n (fun k bv av wr=>Hid (TxtR w n L k bv av wr))
  case atStart=>exact ⟨n,[],eO.nil _ _,A1,⟨fun _=>Z,fun e=>O⟩,A2,rfl⟩
  case round =>
   obtain ⟨k,a,r1,r2,r3,r4,rfl⟩:=hrel.out;have hv:=r3.len;obtain ⟨bo,bc,rfl,hA,hB⟩:=r1.shape;obtain ⟨hM,l2,hN,rfl,B,_,hQ,hR,_,_⟩:=aF r2;have G:=ab r1;have R2:=ab r2;have R3:=ab r3;have H:=ab r4;clear r1 r2 r3 r4 hrel;by_cases V:k=0
   ·obtain rfl:l2=0:=B.2 V;subst V;have HD:=ab (R3.2 rfl);clear B;have K:=HB.out.keep0 H;have c0:=K.c0;clear K;by_cases q:neg=true
    ·subst q;have d:=G.out.alloc (Obj.cells #[Value.int IntKind.u8 45] 5);have c:(wr.alloc (Obj.cells #[Value.int IntKind.u8 45] 5)).cell? ⟨wr.heap.size,0,none⟩=some (.int .u8 45):=Z
     have HC:=ab c;have HO:=ab d;have s:w.heap.size<=(wr.alloc (Obj.cells #[Value.int IntKind.u8 45] 5)).heap.size:=by have:=H.out.size;simp;omega
     have C:=ab s;clear c d s;go_wp2_with (at_builtin;refine iH _ rfl _ _ rfl w.heap.size _ a rfl wr.heap.size _ 45 rfl rfl HC HO O C ?_)
     intro hp w3 I P;have p:=ab I;have G3:=ab (DO (aa H (ag (ae _ _) _)) P (fun b e=>(G.fresh b e).1));clear I P;obtain ⟨m,f⟩:=eX (a++[45]);have t:Hid (m.reverse=dZ z):=by
      show _=_
      rw [f];rw [List.reverse_append,<- HD,J];have D:z<0:=by simpa using H3.out.symm
      simp [dZ,D]
     have u:0<m.length:=by
      have h1:=congrArg List.length t;rw [List.length_reverse] at h1;have h2:=rV z;omega
     have he:m.length<=10*L+1:=by rw [f];simp;omega
     rw [<- f] at p;clear f;obtain ⟨gb,cb,rfl,Q,R,S,T⟩:=p.out.open u;go_wp2;go_loopw [8,9] (fun iv jv w5=>∃ i:Nat,i+i<=m.length+1/\iv=.int .i64 (i:Int)/\jv=.int .i64 ((m.length:Int)-1-i)/\Hid (SwpR w gb cb m i w5)) (fun iv _ _=>m.length-(intOf iv).toNat)
     case atStart=>exact ⟨0,O,rfl,zN,by rw [SwpR,xh];exact ⟨p,G3⟩⟩
     case round =>
      obtain ⟨i,hi,rfl,rfl,o⟩:=hrel;by_cases hlt:i+i+1<m.length
      ·obtain ⟨j,hj⟩:=eX (m.length-1-i);have A:((m.length:Int)-1-i)=(j:Int):=O
       obtain ⟨x,y,x1,y1,x2,y2,U⟩:=o.out.1.swap hlt hj;have ST:=ab U;have E:=ab o.2;have HJ:=ab hj;have hf:i<j:=O
       have hm:j<m.length:=O
       have ho:i<m.length:=O
       rw [A];clear U hj A o p;go_wp2;go_roundw
       case rel =>
        have hj:=HJ.out;exact ⟨i+1,O,zN,zN,ST,ah (ah E _ _ (by simp;omega)) _ _ (by simp;omega)⟩
       case measure=>exact bH
      ·have F:=o.out.1.string (by rw [cF];exact u);rw [AJ m i O,t] at F;have E:=ab o.2;clear o p;go_wp2;go_ret;exact ⟨rfl,E⟩
    ·obtain rfl:neg=false:=by simpa using q
     clear q;have p:=ab G;have G3:=ab H;have t:Hid (a.reverse=dZ z):=by
      show _=_
      rw [<- HD,J];have D:¬ z<0:=by simpa using H3.out.symm
      simp [dZ,D]
     have u:0<a.length:=by
      have h1:=congrArg List.length t;rw [List.length_reverse] at h1;have h2:=rV z;omega
     have he:a.length<=10*L+1:=O
     obtain ⟨gb,cb,eb,Q,R,S,T⟩:=p.out.open u;simp only [Value.slice.injEq,true_and] at eb;obtain ⟨rfl,rfl⟩:=eb;have hw:bc=bc:=rfl;go_wp2;go_loopw [8,9] (fun iv jv w5=>∃ i:Nat,i+i<=a.length+1/\iv=.int .i64 (i:Int)/\jv=.int .i64 ((a.length:Int)-1-i)/\Hid (SwpR w gb bc a i w5)) (fun iv _ _=>a.length-(intOf iv).toNat)
     case atStart=>exact ⟨0,O,rfl,zN,by rw [SwpR,xh];exact ⟨p,G3⟩⟩
     case round =>
      obtain ⟨i,hi,rfl,rfl,o⟩:=hrel;by_cases hlt:i+i+1<a.length
      ·obtain ⟨j,hj⟩:=eX (a.length-1-i);have A:((a.length:Int)-1-i)=(j:Int):=O
       obtain ⟨x,y,x1,y1,x2,y2,U⟩:=o.out.1.swap hlt hj;have ST:=ab U;have E:=ab o.2;have HJ:=ab hj;have hf:i<j:=O
       have hm:j<a.length:=O
       have ho:i<a.length:=O
       rw [A];clear U hj A o p;go_wp2;go_roundw
       case rel =>
        have hj:=HJ.out;exact ⟨i+1,O,zN,zN,ST,ah (ah E _ _ (by simp;omega)) _ _ (by simp;omega)⟩
       case measure=>exact bH
      ·have F:=o.out.1.string (by rw [cF];exact u);rw [AJ a i O,t] at F;have E:=ab o.2;clear o p;go_wp2;go_ret;exact ⟨rfl,E⟩
   ·have hF:0<l2:=by
     rcases zP l2 with e | e
     ·exact absurd (B.1 e) V
     ·exact e
    clear B;go_wp2_with fail;refine (Cl _ k L 10 _ R2 O O O).mono ?_;rintro e w2 ⟨v',r,rfl,hr,s1,s2,s3⟩;obtain ⟨hS,l3,hT,rfl,hs,_,hW,hX,_,_⟩:=aF s1;have M:r<10:=O
    have HR:=ab hr;have S1:=ab s1;have S2:=ab s2;have S3:=ab s3;clear hr s1 s2 s3 hs;have hG:(r:Int)<10:=O
    have N:(48+(r:Int))=((dgB r).toNat:Int):=byte_of r M;have c:(w2.alloc (Obj.cells #[Value.int IntKind.u8 (48+(r:Int))] 5)).cell? ⟨w2.heap.size,0,none⟩=some (.int .u8 (48+(r:Int))):=Z
    have d:=(G.keep0 S2).alloc (Obj.cells #[Value.int IntKind.u8 (48+(r:Int))] 5);have s:w.heap.size<=(w2.alloc (Obj.cells #[Value.int IntKind.u8 (48+(r:Int))] 5)).heap.size:=by have:=H.out.size;have:=S2.out.size;simp;omega
    have HU:=ab N;have HC:=ab c;have HO:=ab d;have C:=ab s;clear N c d s;go_wp2_with (at_builtin;refine iH _ rfl _ _ rfl w.heap.size _ a rfl w2.heap.size _ (dgB r) HU rfl HC HO O C ?_)
    intro hp w3 I P;obtain ⟨hY,ka,rfl,_,_⟩:=I.shape;have p:=ab I;have O2:=ab P;clear I P;go_wp2;go_roundg (k / 10)
    case measure=>omega
    case rel =>
     refine ⟨k / 10,_,p,?_,?_,?_,rfl⟩
     ·refine (S1.keep0 (ag (ae _ _) _)).keep O2 ?_;intro j e h2;have h3:=S3.out j h2;have h4:=(G.fresh j e).2;omega
     ·rw [HR];exact R3.step V
     ·exact DO (aa H (aa S2 (ag (ae _ _) _))) O2 (fun b e=>(G.fresh b e).1)
def rT (f h i j:Nat) (x y L M:Nat) (w:World) (m:ay w f h (x:Int) L) (o:ay w i j (y:Int) M) :
  Calls Tryz.prog 81 #[.pointer (some ⟨f,h,none⟩),.pointer (some ⟨i,j,none⟩)] w fun e z=>e=.returned (.int .i64 (gZ x y))/\w.grownBy z none:=by
 obtain ⟨s,C,c,a,k,t⟩:=m;obtain ⟨u,vy,d,b,l,v⟩:=o;have ex:s=false:=by rw [k];exact decide_eq_false O
 have p:u=false:=by rw [l];exact decide_eq_false O
 subst ex p;rw [Int.natAbs_natCast] at a b;obtain ⟨D,E,F,rfl,_,_,_,_,_,_⟩:=aF a;obtain ⟨G,H,I,rfl,_,_,_,_,_,_⟩:=aF b;have q:=ab a;have r:=ab b;have c0:=c.c0;have c1:=c.c1;have A:=d.c0;have B:=d.c1;clear c a k t d b l v;go_enter Tryz.func81,Tryz.ntmps81
 go_wp2;go_quiet (fail)
 go_wp2;go_region_with (go_at_call 128;refine (zh _ _ x y L M _ (q.keep0 (by first | exact ae _ _ | (refine ak ?_ _;first | exact ae _ _ | exact ak (ae _ _) _))) (r.keep0 (by first | exact ae _ _ | (refine ak ?_ _;first | exact ae _ _ | exact ak (ae _ _) _)))).mono ?_;rintro e J ⟨rfl,K,rfl⟩)
 all_goals
  go_wp2;go_ret;exact ⟨rfl,by repeat (first | exact ae _ _ | refine ak ?_ _)⟩
def ord_one (n:Nat) (h:0<n):(gZ n 1==0)=decide (n=1):=by
 unfold gZ;by_cases e:n=1
 ·subst e;rfl
 ·rw [if_neg O,if_neg e];simp [e]
def DT (b:Nat) (q:Rat) (L:Nat) (w:World) (h:RQ w b q L) :
  Calls Tryz.prog 53 #[.pointer (some ⟨b,0,none⟩)] w fun e p=>e=.returned (.bool (decide (q.den=1)))/\w.grownBy p none:=by
 have H:=ab h;clear h;go_enter Tryz.func53,Tryz.ntmps53
 go_wp2_with fail;refine (tq b _ _ L _ H).mono ?_;rintro e w1 ⟨rfl,a⟩;rw [a];clear a;go_wp2_with fail;refine (dJ 1 _ O O).mono ?_;rintro e r ⟨rfl,f,i,o⟩;have d:=ab f;have k:=ab i;clear f i o;go_wp2_with fail;refine (rT b 2 w.heap.size 0 q.den 1 L 2 _ (H.2.1.keep0 d) k).mono ?_;rintro e s ⟨rfl,j⟩;have l:=ab (aa d j);have c:=ord_one q.den q.den_pos;clear j;generalize gZ q.den 1=oo at c ⊢;have m:=ab c;clear c;go_wp2;go_ret;refine ⟨?_,l⟩;rw [<- m];rfl
def Dm (b:Nat) (q:Rat) (L:Nat) (w:World) (h:RQ w b q L) (o:L<=400000000) :
  Calls Tryz.prog 56 #[.pointer (some ⟨b,0,none⟩)] w fun e k=>∃ c,e=.returned (.pointer (some ⟨c,0,none⟩))/\ay k c 0 (q.den:Int) L/\w.grownBy k none:=by
 have H:=ab h;clear h;go_enter Tryz.func56,Tryz.ntmps56
 go_wp2_with fail;have d:=ag (ae w none) (.cells #[.bool false,.slice none 0 0] 96);have f:=ab (H.keep0 d);refine (tq b _ _ L _ f).mono ?_;rintro e w1 ⟨rfl,a⟩;rw [a];clear a;go_wp2_with fail;refine (qF w.heap.size 0 b 2 false (.slice none 0 0) (q.den:Int) L _ (fR w) f.2.1 O).mono ?_;rintro e p ⟨rfl,i,j,m⟩;have G:=ab (cw d i zL);have l:=ab j;clear i j m d;go_wp2;go_ret;exact ⟨_,rfl,l,G⟩
def ia (b o:Nat) (z:Int) (L:Nat) (w:World) (h:ay w b o z L) (c:L<=50000000) :
  Calls Tryz.prog 55 #[.pointer (some ⟨b,o,none⟩)] w fun e d=>e=.returned (.string ⟨(dZ z).toArray⟩)/\w.grownBy d none:=by
 have H:=ab h;clear h;go_enter Tryz.func55,Tryz.ntmps55
 go_wp2_with fail;refine (xW b o z L _ H c).mono ?_;rintro e w1 ⟨rfl,a⟩;have G:=ab a;clear a;go_wp2;go_ret;exact ⟨rfl,G⟩
def Er (b:Nat) (q:Rat) (L:Nat) (w:World) (h:RQ w b q L) :
  Calls Tryz.prog 54 #[.pointer (some ⟨b,0,none⟩)] w fun e c=>e=.returned (.pointer (some ⟨b,0,none⟩))/\c=w:=by
 obtain ⟨d,v1,a,_⟩:=h.1;have c0:=a.c0;clear a h;go_enter Tryz.func54,Tryz.ntmps54
 go_wp2;go_ret;exact ⟨rfl,rfl⟩
def Bv (n:Nat):dZ (n:Int)=Lib.decDigits n:=by
 unfold dZ;rw [if_neg O,Int.natAbs_natCast]
def wC (q:Rat):cE q=dZ q.num++(if q.den=1 then [] else [47]++dZ (q.den:Int)):=by
 rw [Bv];unfold cE dZ rB rN;by_cases h:q.num<0
 ·simp [h]
 ·simp [h]
def nB {b o:Nat} {z:Int} {L:Nat} (h:ay w b o z L) (d:L<=50000000):(dZ z).length<=500000002:=by
 obtain ⟨_,_,_,c,_⟩:=h;have a:=Es c;have f:(Lib.decDigits z.natAbs).length<=500000001:=by
  rw [Lib.decDigits_length];rcases zP L with e | e
  ·subst e;have:z.natAbs=0:=by simpa using a
   rw [this,Lib.nDigits_small zD];omega
  ·have:=rJ e a;omega
 unfold dZ;split
 ·simp;omega
 ·omega
def rT_at (b:Nat) (q:Rat) (L:Nat) (w:World) (h:RQ w b q L) (t:L<=50000000) :
  Calls Tryz.prog 33 #[.pointer (some ⟨b,0,none⟩)] w fun e I=>e=.returned (.string ⟨(cE q).toArray⟩)/\w.grownBy I none:=by
 have H:=ab h;have o:=nB h.1 t;have p:=nB h.2.1 t;obtain ⟨A,l⟩:=eX (dZ q.num);obtain ⟨B,m⟩:=eX (dZ (q.den:Int));have k:Hid (cE q=A++(if q.den=1 then [] else [47]++B)):=by show _=_;rw [l,m];exact wC q
 rw [<- l] at o;rw [<- m] at p;have u:=ab l;have y:=ab m;clear h l m;go_enter Tryz.func33,Tryz.ntmps33
 go_wp2_with fail;refine (DT b q L _ H).mono ?_;rintro e w1 ⟨rfl,s⟩;have v:=ab s;have j:=ab (H.keep0 s);clear s;by_cases hd:q.den=1
 ·rw [decide_eq_true hd];have a:=k.out;rw [if_pos hd,List.append_nil] at a;have f:=ab a;clear a k hd;go_wp2_with fail;refine (Er b q L _ j).mono ?_;rintro e F ⟨rfl,d⟩;rw [d];clear d;go_wp2_with fail;refine (ia b 0 q.num L _ j.1 O).mono ?_;rintro e G ⟨rfl,i⟩;have r:=ab (aa v i);clear i;rw [<- u];go_wp2;go_ret;rw [f];exact ⟨rfl,r⟩
 ·rw [decide_eq_false hd];have a:=k.out;rw [if_neg hd] at a;have f:=ab a;clear a k hd;go_wp2_with fail;refine (Er b q L _ j).mono ?_;rintro e F ⟨rfl,d⟩;rw [d];clear d;go_wp2_with fail;refine (ia b 0 q.num L _ j.1 O).mono ?_;rintro e G ⟨rfl,i⟩;have r:=ab (aa v i);have z:=ab (j.keep0 i);clear i;rw [<- u];go_wp2_with fail;refine (Dm b q L _ z O).mono ?_;rintro e J ⟨c,rfl,c1,c2⟩;have C:=ab c1;have D:=ab (aa r c2);clear c1 c2;go_wp2_with fail;refine (ia c 0 (q.den:Int) L _ C O).mono ?_;rintro e K ⟨rfl,x⟩;have E:=ab (aa D x);clear x;rw [<- y];go_wp2;go_ret;rw [f];refine ⟨?_,E⟩;first | rfl | (simp;apply ByteArray.ext;simp [ByteArray.data_append])
def Bu (b L:Nat) (w:World) (h:pJ w b L) :
  Calls Tryz.prog 53 #[.pointer (some ⟨b,0,none⟩)] w fun e t=>e=.returned (.bool true)/\w.grownBy t none:=by
 have H:=ab h;clear h;have a:(gZ 1 1==0)=true:=by rw [tN];rfl
 go_enter Tryz.func53,Tryz.ntmps53
 go_wp2_with fail;refine (zj b L _ H).mono ?_;rintro e w1 ⟨rfl,d,f,q⟩;have l:=ab d;have m:Hid (ay w1 w.heap.size 0 ((1:Nat):Int) 2):=f;clear d f q;go_wp2_with fail;refine (dJ 1 _ O O).mono ?_;rintro e r ⟨rfl,i,j,s⟩;have c:=ab i;have o:Hid (ay r w1.heap.size 0 ((1:Nat):Int) 2):=j;clear i j s;go_wp2_with fail;refine (rT w.heap.size 0 w1.heap.size 0 1 1 2 2 _ (m.keep0 c) o).mono ?_;rintro e u ⟨rfl,k⟩;have p:=ab (aa l (aa c k));clear k;generalize gZ 1 1=oo at a ⊢;go_wp2;go_ret;exact ⟨by first | rfl | rw [a],p⟩
def BS (b L:Nat) (w:World) (h:pJ w b L) :
  Calls Tryz.prog 54 #[.pointer (some ⟨b,0,none⟩)] w fun e c=>e=.returned (.pointer (some ⟨b,0,none⟩))/\c=w:=by
 obtain ⟨d,v1,a,_⟩:=h.1;have c0:=a.c0;clear a h;go_enter Tryz.func54,Tryz.ntmps54
 go_wp2;go_ret;exact ⟨rfl,rfl⟩
def rT_nil (b L:Nat) (w:World) (h:pJ w b L) (k:L<=50000000) :
  Calls Tryz.prog 33 #[.pointer (some ⟨b,0,none⟩)] w fun e q=>e=.returned (.string ⟨(cE 0).toArray⟩)/\w.grownBy q none:=by
 have H:=ab h;clear h;have l:Hid (cE 0=dZ 0):=by show _=_;rw [wC,if_pos (by rfl),List.append_nil];rfl
 rw [l];have c:=nB H.1 k;obtain ⟨A,d⟩:=eX (dZ 0);rw [<- d] at c ⊢;have m:=ab d;clear d;go_enter Tryz.func33,Tryz.ntmps33
 go_wp2_with fail;refine (Bu b L _ H).mono ?_;rintro e w1 ⟨rfl,f⟩;have o:=ab f;have i:=ab (H.keep0 f);clear f;go_wp2_with fail;refine (BS b L _ i).mono ?_;rintro e r ⟨rfl,a⟩;rw [a];clear a;go_wp2_with fail;refine (ia b 0 0 L _ i.1 O).mono ?_;rintro e s ⟨rfl,j⟩;have p:=ab (aa o j);clear j;rw [<- m];go_wp2;go_ret;exact ⟨rfl,p⟩
def jw {P:Program} {d:Array Oper} {o:Oper} {a:Act} {w:World} {K:Act->World->Prop} {Q:Exit->Act->World->Prop} {E:Prop}
  (hgd:o.guard=none) (s x:Operand) (t:TypeId) (ho:o.op=Op.call { callee:=Callee.builtin Builtin.append,args:=#[s,x],argTypes:=#[t,t] })
  (base:Nat) (e:TypeId) (i:TypeInfo) (size:Nat) (ht:P.underlying t=some (.slice e)) (hi:P.info? e=some i) (hsize:i.size=size)
  (g n cap:Nat) (xs:List Value) (hs:a.eval s=.slice (some ⟨g,0,none⟩) n cap) (hown:w.ownsRow base e size (.slice (some ⟨g,0,none⟩) n cap) n xs)
  (src:Value) (m:Nat) (news:List Value) (hx:a.eval x=src) (hsrc:(src=.slice none 0 0/\m=0)∨∃ ad c,src=.slice (some ad) m c/\∀ j u,news[j]? = some u->w.cell? (ad.add j)=some u)
  (hl:news.length=m*size) (h1:∀ u∈news,u.oneCell'=true) (hroom:n+m<=cap)
  (h:∀ w',w'.ownsRow base e size (.slice (some ⟨g,0,none⟩) (n+m) cap) (n+m) (xs++news)->w.grownBy w' (some g)->K (a.put o.dst (.slice (some ⟨g,0,none⟩) (n+m) cap)) w') :
  if Region.wanted o (yielded d a.tmps)=true then Oper.wp P o a w K Q else E:=by
 have l:Region.wanted o (yielded d a.tmps)=true:=by simp [Region.wanted,hgd]
 rw [if_pos l];rcases hsrc with ⟨rfl,rfl⟩ | ⟨ad,c,rfl,b⟩
 ·have f:=run_append_owned_none (P:=P) w base t o.type e i size ht hi _ n xs hown;have k:news=[]:=List.eq_nil_of_length_eq_zero (by simpa using hl);subst k;unfold Oper.wp execOp;simp only [ho,resolve,invoke,builtin,Sem.run_bind,Sem.run_pure,Result.andThen_ok,List.map_toArray,List.map_cons,List.map_nil,hs,hx,f];refine h w ?_ ⟨rfl,rfl,rfl,zL,fun _ _ _=>rfl⟩;rw [List.append_nil];exact hown
 ·obtain ⟨w',f,p,q⟩:=run_append_fits (P:=P) w base t o.type e i size ht hi hsize g n cap xs hown ad m c news hl b h1 hroom;unfold Oper.wp execOp;simp only [ho,resolve,invoke,builtin,Sem.run_bind,Sem.run_pure,Result.andThen_ok,List.map_toArray,List.map_cons,List.map_nil,hs,hx,f];exact h w' p q
def tP {b:Array Value} {e:TypeId} {a:Nat} (h:w.heap[g]? = some (.cells b e (0,0))) (hb:base<=g) (c:cap<=maxLen) (d:b.size=cap*a) :
  w.ownsRow base e a (.slice (some ⟨g,0,none⟩) 0 cap) 0 [] :=
 ⟨Z,.inr ⟨g,cap,b,rfl,hb,h,Nat.zero_le _,c,d,Z⟩⟩
def BU {d:World} {e:TypeId} {a:Nat} {xs:List Value} {row:Option Nat} (h:w.ownsRow base e a (.slice (some ⟨g,0,none⟩) n cap) n xs) (hg:w.grownBy d row) (j:some g≠row):d.ownsRow base e a (.slice (some ⟨g,0,none⟩) n cap) n xs:=by
 refine ⟨h.1,?_⟩;rcases h.2 with ⟨b,_⟩ | ⟨q,f,c,b,k,i,l,m,o,p⟩
 ·simp at b
 ·simp only [Value.slice.injEq,zI,Addr.mk.injEq,and_true,true_and] at b;obtain ⟨rfl,rfl⟩:=b;exact .inr ⟨g,cap,c,rfl,k,by rw [hg.block g (zZ i).1 j];exact i,l,m,o,p⟩
def LendE (w:World) (ps:List aA) (mk:aA) (e:Ending) (w':World):Prop :=
 ∃ g,e=.returned (.slice (some ⟨g,0,none⟩) ps.length (ps.length+3))/\aB w' (.slice (some ⟨g,0,none⟩) (ps.length+3) (ps.length+3)) (ps++[mk,mk,mk])/\w.heap.size<=g/\w.grownBy w' none
def Ef {W:World} {a:List aA} {mk:aA} (h:W.ownsRow w.heap.size 55 6 (.slice (some ⟨g,0,none⟩) (a.length+3) (a.length+3)) (a.length+3) (bG a++bG [mk,mk,mk])) (hg:w.grownBy W none) (hn:a.length<=100000000) (l:∀ i (h:i<a.length),a[i].v.size<=600000000) (f:mk.v.size<=600000000) :
  LendE w a mk (.returned (.slice (some ⟨g,0,none⟩) a.length (a.length+3))) W:=by
 have b:=fun j (hj:j<(a.length+3)*6)=>World.ownsRow.cellAt h j hj
 rcases h.2 with ⟨e,_⟩ | ⟨s,k,m,e,o,q,t,r,u,x⟩
 ·simp at e
 ·simp only [Value.slice.injEq,zI,Addr.mk.injEq,and_true,true_and] at e;obtain ⟨rfl,rfl⟩:=e;refine ⟨g,rfl,kI (zZ q).1 Z zL r ?_ ?_,o,hg⟩
  ·intro i hi;have d:∀ p∈a++[mk,mk,mk],p.v.size<=600000000:=by
    intro p c;rcases List.mem_append.1 c with c | c
    ·obtain ⟨i,hi,rfl⟩:=List.getElem_of_mem c;exact l i hi
    ·simp only [List.mem_cons,List.not_mem_nil,or_false,or_self] at c;subst c;exact f
   exact d _ (List.getElem_mem hi)
  ·intro j hj;rw [b j hj,pP]
def Tryz.infoPart:(Tryz.prog.info? 55).map (fun i=>(i.zero,i.size,i.bytes))=some (some (.agg #[.int .i64 0,.int .i64 0,.int .i64 0,.int .i64 0,.int .i64 0,.string ⟨#[]⟩]),6,56):=zK
def push1 {h:Array Obj} {a b:Obj} : ((h.push a).push b)[h.size+1]? = some b:=by
 rw [Array.getElem?_push,if_pos Z]
def gr_tail {w1 a:World} {r:Option Nat} (h:w.grownBy w1 none) (k:w1.grownBy a r):w.grownBy a r:=aw h k nofun (fun _ _ e=>e)
def DN {w1:World} (h:w.grownBy w1 (some g)) (hg:w.heap.size<=g):w.grownBy w1 none:=⟨h.os,h.tape,h.output,h.size,fun k a _=>h.block k a (by intro e;have:=zJ e;omega)⟩
def ldS:List (Nat×Bool):=[(0,false),(0,true),(1,false),(1,true),(2,false),(2,true),(3,true),(4,true)]
def ldL:Nat×Bool->Array Bool | (k,z)=>#[true,true,true,decide (1<=k),true,decide (2<=k),true,true,true,z,decide (3<=k),decide (4<=k)]
def ldM:Nat×Bool->Nat | (k,z)=>(4-k)+(if z then 0 else 1)
def ldD:Nat×Bool->List Nat | (k,z)=>(if k=0 then [3] else [])++(if k=1 then [5] else [])++(if z then [] else [9])++(if k=2/\z then [10] else [])++(if k=3 then [11] else [])
def ldX:Nat×Bool->Nat->Nat×Bool | (k,z),i=>if i=9 then (k,true) else (k+1,z)
def lnN (ps:List aA) (k:Nat):Nat:=if k=1 then 0 else if k=2 then ps.length else ps.length+3
def ldC (ps l:List aA) (k:Nat):List Value:=if k=1 then [] else if k=2 then bG ps else bG ps++bG l
def ld_end {k:Nat} {z:Bool} (a:(k,z)∈ldS) (b:ldD (k,z)=[]):k=4/\z=true:=by
 revert b
 simp only [ldS,List.mem_cons,Prod.mk.injEq,List.not_mem_nil,or_false] at a;rcases a with ⟨rfl,rfl⟩ | ⟨rfl,rfl⟩ | ⟨rfl,rfl⟩ | ⟨rfl,rfl⟩ | ⟨rfl,rfl⟩ | ⟨rfl,rfl⟩ | ⟨rfl,rfl⟩ | ⟨rfl,rfl⟩<;>decide
def ld_mem {k i:Nat} {z:Bool} (a:(k,z)∈ldS) (h:i∈ldD (k,z)):(i=3/\k=0)∨(i=5/\k=1)∨(i=9/\z=false)∨(i=10/\k=2/\z=true)∨(i=11/\k=3/\z=true):=by
 simp only [ldS,List.mem_cons,Prod.mk.injEq,List.not_mem_nil,or_false] at a;rcases a with ⟨rfl,rfl⟩ | ⟨rfl,rfl⟩ | ⟨rfl,rfl⟩ | ⟨rfl,rfl⟩ | ⟨rfl,rfl⟩ | ⟨rfl,rfl⟩ | ⟨rfl,rfl⟩ | ⟨rfl,rfl⟩<;>simp [ldD] at h<;>first | (subst h;decide) | (rcases h with h | h<;>subst h<;>decide)
def sZ {o:Obj} (h:w.heap[g]? = some o):g<w.heap.size:=(zZ h).1
def AT {o x:Obj} (h:w.heap[g]? = some o):(w.alloc x).heap[g]? = some o:=by
 rw [(ag (ae w none) x).block g (sZ h) Z];exact h
def zx {W w1:World} (h:W.grownBy w none) (k:w.grownBy w1 (some g)) (hg:W.heap.size<=g):W.grownBy w1 none:=DN (gr_tail h k) hg
def own_ltL {a m:Nat} {e:TypeId} {xs:List Value} (h:w.ownsRow base e a (.slice (some ⟨g,0,none⟩) n cap) m xs):g<w.heap.size:=(World.ownsRow.lt h _ rfl).2
def lend_at (pv:Value) (b:List aA) (mk:aA) (w:World) (hp:aB w pv b) (B:∀ c,pv=.slice none 0 c->c=0) (hn:b.length<=100000000) (I:mk.v.size<=600000000) :
  Calls Tryz.prog 23 #[pv,mk.val] w fun e w'=>LendE w b mk e w':=by
 obtain ⟨C,cap,t,h1,h2,V⟩:=hp;have HP:Hid (aB w pv b):=⟨C,cap,t,h1,h2,V⟩;have HZ:Hid (∀ i (h:i<b.length),b[i].v.size<=600000000):=fun i h=>by obtain ⟨_,_,_,_,_,_,_,_,_,_,c6⟩:=V i h;exact c6
 have J:Hid (∀ wx,w.grownBy wx none->(pv=.slice none 0 0/\b.length=0)∨∃ ad c,pv=.slice (some ad) b.length c/\∀ j u,(bG b)[j]? = some u->wx.cell? (ad.add j)=some u):=by
  intro wx hg;cases C with
  | none =>
   left
   have h0:b.length=0:=by
    rcases zP b.length with h | h
    ·exact h
    ·obtain ⟨_,_,e,_⟩:=V 0 h;cases e
   rw [h0] at t;have:=B cap t;subst this;exact ⟨t,h0⟩
  | some a =>
   right
   refine ⟨a,cap,t,?_⟩;have:=HP.out.keep hg;rw [t] at this;exact this.cells
 obtain ⟨ii,E,hj,F,hl⟩:=info_parts Tryz.infoPart;obtain ⟨mc,G⟩:=eX (madeCells (Value.agg #[.int .i64 0,.int .i64 0,.int .i64 0,.int .i64 0,.int .i64 0,.string ⟨#[]⟩]).cells ((b.length+3)*6));have L:mc.size=(b.length+3)*6:=by rw [G,size_madeCells]
 have M:∀ wx:World,(Instr.makeSlice 22 (.int .i64 0) (.int .i64 ((b.length:Int)+3))).run Tryz.prog wx=.ok (.slice (some ⟨wx.heap.size,0,none⟩) 0 (b.length+3)) (wx.alloc (.cells mc 55)):=by
  intro wx;have:=run_make (P:=Tryz.prog) wx 22 55 ii _ Tryz.underlying22 E hj .i64 .i64 0 ((b.length:Int)+3) O O (by rw [hl];omega) O;rw [this,F,G];have e:((b.length:Int)+3).toNat=b.length+3:=O
  rw [e];rfl
 have hm:∀ wx:World,(Instr.makeSlice 22 (.int .i64 0) (.int .i64 (IntKind.i64.wrap ((b.length:Int)+3)))).run Tryz.prog wx=.ok (.slice (some ⟨wx.heap.size,0,none⟩) 0 (b.length+3)) (wx.alloc (.cells mc 55)):=by
  intro wx;rw [IntWalk.i64_in _ ⟨O,O⟩];exact M wx
 have HL:Hid ((bG b).length=b.length*6):=ku b;have Y:=ab L;obtain ⟨d,f,l,m3,m,o⟩:=mk;have hf:=ab I;subst t;clear h1 h2 V G L I B;simp only [aA.val];go_enter Tryz.func23,Tryz.ntmps23
 go_upto_region 1 with fail;obtain ⟨W,H⟩:=eX (w.alloc (Obj.cells #[.int .i64 d,.int .i64 f,.int .i64 l,.int .i64 m3,.int .i64 m,.string o] 55));have BX:Hid (∀ (wx:World) (r:Option Nat),W.grownBy wx r->some w.heap.size≠r->wx.cell? ⟨w.heap.size,0,none⟩=some (.int .i64 d)/\wx.cell? ⟨w.heap.size,1,none⟩=some (.int .i64 f)/\wx.cell? ⟨w.heap.size,2,none⟩=some (.int .i64 l)/\wx.cell? ⟨w.heap.size,3,none⟩=some (.int .i64 m3)/\wx.cell? ⟨w.heap.size,4,none⟩=some (.int .i64 m)/\wx.cell? ⟨w.heap.size,5,none⟩=some (.string o)):=by
  intro wx r hg hr;have e:wx.heap[w.heap.size]? = some (Obj.cells #[.int .i64 d,.int .i64 f,.int .i64 l,.int .i64 m3,.int .i64 m,.string o] 55 (0,0)):=by
   rw [hg.block w.heap.size (by rw [H];simp) hr,H];exact heap_alloc_new w _
  refine ⟨?_,?_,?_,?_,?_,?_⟩<;>simp [World.cell?,e]
 have GW:Hid (w.grownBy W none):=by rw [H];exact ag (ae _ _) _
 have N:Hid (W.heap.size=w.heap.size+1):=by rw [H];exact World.size_alloc _ _
 rw [<- H];clear H;have s0:=BX.out W none (ae _ _) Z;refine hd (fun wx=>wx.cell? ⟨w.heap.size,0,none⟩=some (.int .i64 d)/\wx.cell? ⟨w.heap.size,1,none⟩=some (.int .i64 f)/\wx.cell? ⟨w.heap.size,2,none⟩=some (.int .i64 l)/\wx.cell? ⟨w.heap.size,3,none⟩=some (.int .i64 m3)/\wx.cell? ⟨w.heap.size,4,none⟩=some (.int .i64 m)/\wx.cell? ⟨w.heap.size,5,none⟩=some (.string o)) (fun hHeld=>?_);refine tk 5 [(0,6,.slice C b.length cap),(1,7,.int .i64 b.length),(2,8,.int .i64 (IntKind.i64.wrap ((b.length:Int)+3))),(4,10,.slice C b.length cap),(6,12,.agg #[.int .i64 d,.int .i64 f,.int .i64 l,.int .i64 m3,.int .i64 m,.string o]),(7,13,.agg #[.int .i64 d,.int .i64 f,.int .i64 l,.int .i64 m3,.int .i64 m,.string o]),(8,14,.agg #[.int .i64 d,.int .i64 f,.int .i64 l,.int .i64 m3,.int .i64 m,.string o])] ?_;try simp only [zU]
 refine wk ldS ldL ldM ldD ldX (fun s a wx=>s∈ldS/\∃ gm gb:Nat,a=⟨#[.slice C b.length cap,(.agg #[.int .i64 d,.int .i64 f,.int .i64 l,.int .i64 m3,.int .i64 m,.string o]),undef,.pointer (some ⟨w.heap.size,0,none⟩),.slice none 0 0,if 4<=s.1 then .slice (some ⟨gm,0,none⟩) (b.length+3) (b.length+3) else undef,.slice C b.length cap,.int .i64 b.length,.int .i64 (IntKind.i64.wrap ((b.length:Int)+3)),if 1<=s.1 then .slice (some ⟨gm,0,none⟩) 0 (b.length+3) else undef,.slice C b.length cap,if 2<=s.1 then .slice (some ⟨gm,0,none⟩) b.length (b.length+3) else undef,(.agg #[.int .i64 d,.int .i64 f,.int .i64 l,.int .i64 m3,.int .i64 m,.string o]),(.agg #[.int .i64 d,.int .i64 f,.int .i64 l,.int .i64 m3,.int .i64 m,.string o]),(.agg #[.int .i64 d,.int .i64 f,.int .i64 l,.int .i64 m3,.int .i64 m,.string o]),if s.2 then .slice (some ⟨gb,0,none⟩) 3 3 else undef,if 3<=s.1 then .slice (some ⟨gm,0,none⟩) (b.length+3) (b.length+3) else undef,undef,undef,undef,undef],[]⟩
   /\ W.grownBy wx none/\(1<=s.1->W.heap.size<=gm/\wx.ownsRow w.heap.size 55 6 (.slice (some ⟨gm,0,none⟩) (lnN b s.1) (b.length+3)) (lnN b s.1) (ldC b [(⟨d,f,l,m3,m,o⟩:aA),(⟨d,f,l,m3,m,o⟩:aA),(⟨d,f,l,m3,m,o⟩:aA)] s.1))/\(s.2=true->W.heap.size<=gb/\wx.heap[gb]? = some (.cells (bG [(⟨d,f,l,m3,m,o⟩:aA),(⟨d,f,l,m3,m,o⟩:aA),(⟨d,f,l,m3,m,o⟩:aA)]).toArray 55 (0,0)))/\(1<=s.1->s.2=true->gm≠gb)) (0,false) ⟨zD,0,0,rfl,aC,⟨fun h=>absurd h zD,fun h=>(by cases h),fun h=>absurd h zD⟩⟩ ?_ (hS:=fun s a wx h=>BX wx none h.2.choose_spec.choose_spec.2.1 Z)
 clear hHeld s0;rintro ⟨k,z⟩ a wx ⟨Q,gm,gb,rfl,hg,ho,hb,R⟩;have p:=ab hg;have q:=ab ho;have x:=ab hb;have y:=ab R;clear hg ho hb R;have D:Hid (wx.heap.size≠w.heap.size/\W.heap.size<=wx.heap.size):=by
  have h1:=p.out.size;have h2:=N.out;exact ⟨O,h1⟩
 refine ⟨fun he=>?_,fun i hi K T=>?_⟩
 ·obtain ⟨rfl,rfl⟩:=ld_end Q he;obtain ⟨o1,o2⟩:=q.out zD;have HO:=ab o2;clear o1 o2 Q he;simp only [lnN,ldC] at HO;simp only [Nat.reduceLeDiff,if_true];go_wp2;go_ret;exact Ef HO (aa GW p) hn HZ hf
 ·rcases ld_mem Q hi with ⟨rfl,rfl⟩ | ⟨rfl,rfl⟩ | ⟨rfl,rfl⟩ | ⟨rfl,rfl,rfl⟩ | ⟨rfl,rfl,rfl⟩
  ·simp only [ax,q4,q5,q6,q7];go_simp
   refine T _ _ ⟨?_,wx.heap.size,gb,?_,ag p _,fun _=>⟨D.2,?_⟩,fun A=>?_,fun _ A=>?_⟩
   ·cases z<;>decide
   ·cases z<;>rfl
   ·exact tP (heap_alloc_new wx _) (by have:=D.out;have:=N.out;omega) (by unfold maxLen;omega) Y
   ·exact ⟨(x A).1,AT (x A).2⟩
   ·have:=sZ (x A).2;omega
  ·obtain ⟨S,k2⟩:=q.out (Nat.le_refl 1);refine jw (by rfl) (.tmp 9) (.tmp 10) 22 (by rfl) w.heap.size 55 ii 6 Tryz.underlying22 E F gm 0 (b.length+3) [] (by rfl) k2 (.slice C b.length cap) b.length (bG b) (by rfl) (J _ (aa GW p)) HL (nS b) O (fun w4 X U=>?_);rw [Nat.zero_add,List.nil_append] at X;rw [Nat.zero_add];refine T _ _ ⟨?_,gm,gb,?_,zx p U S,fun _=>⟨S,X⟩,fun A=>?_,fun _ A=>y (Nat.le_refl 1) A⟩
   ·cases z<;>decide
   ·cases z<;>rfl
   ·obtain ⟨h1,h2⟩:=x.out A;exact ⟨h1,by rw [U.block gb (sZ h2) (by intro e;exact y (Nat.le_refl 1) A (zJ e).symm)];exact h2⟩
  ·simp only [ax,q4,q5,q6,q7];go_simp
   have hk:k=0∨k=1∨k=2:=by
    simp only [ldS,List.mem_cons,Prod.mk.injEq,List.not_mem_nil,or_false] at Q;rcases Q with ⟨rfl,h⟩ | ⟨rfl,h⟩ | ⟨rfl,h⟩ | ⟨rfl,h⟩ | ⟨rfl,h⟩ | ⟨rfl,h⟩ | ⟨rfl,h⟩ | ⟨rfl,h⟩<;>first | (cases h;done) | simp
   refine T _ _ ⟨?_,gm,wx.heap.size,?_,ag p _,fun h=>⟨(q h).1,BU (q h).2 (ag (ae _ none) _) Z⟩,fun _=>⟨D.2,heap_alloc_new wx _⟩,fun h _ e=>?_⟩
   ·rcases hk with rfl | rfl | rfl<;>decide
   ·rcases hk with rfl | rfl | rfl<;>rfl
   ·have:=own_ltL (q h).2;omega
  ·obtain ⟨S,k2⟩:=q.out zD;obtain ⟨h1,h2⟩:=x.out rfl;refine jw (by rfl) (.tmp 11) (.tmp 15) 22 (by rfl) w.heap.size 55 ii 6 Tryz.underlying22 E F gm b.length (b.length+3) (bG b) (by rfl) k2 (.slice (some ⟨gb,0,none⟩) 3 3) 3 (bG [(⟨d,f,l,m3,m,o⟩:aA),(⟨d,f,l,m3,m,o⟩:aA),(⟨d,f,l,m3,m,o⟩:aA)]) (by rfl) (.inr ⟨_,3,rfl,World.news_of_block h2⟩) rfl (nS _) O (fun w4 X U=>?_);refine T _ _ ⟨zD,gm,gb,rfl,zx p U S,fun _=>⟨S,X⟩,fun _=>⟨h1,?_⟩,fun _ _=>y zD rfl⟩;rw [U.block gb (sZ h2) (by intro e;exact y zD rfl (zJ e).symm)];exact h2
  ·simp only [ax,q4,q5,q6,q7];go_simp
   exact T _ _ ⟨zD,gm,gb,rfl,p,fun _=>q zD,fun _=>x rfl,fun _ _=>y zD rfl⟩
def aB.keepRow {d:World} {r:Nat} {f:List aA} (h:aB w (.slice (some ⟨g,0,none⟩) n cap) f) (hg:w.grownBy d (some r)) (q:r≠g):aB d (.slice (some ⟨g,0,none⟩) n cap) f:=by
 obtain ⟨k,c,e,l,m,o⟩:=h;refine ⟨k,c,e,l,m,fun i hi=>?_⟩;obtain ⟨b,off,j,hb,c0,c1,c2,c3,c4,c5,p⟩:=o i hi;simp only [Value.slice.injEq] at e;obtain ⟨e,_,_⟩:=e;rw [j] at e;simp only [zI,Addr.mk.injEq,and_true] at e;have a:some b≠some r:=by intro x;have:=zJ x;omega
 exact ⟨b,off,j,Nat.lt_of_lt_of_le hb hg.size,hg.cell c0 a,hg.cell c1 a,hg.cell c2 a,hg.cell c3 a,hg.cell c4 a,hg.cell c5 a,p⟩
def Mk:aA:=⟨-9,0,0,0,0,⟨#[109,97,114,107]⟩⟩
structure jB (w:World):Prop where
 c0:w.cell? ⟨0,0,none⟩=some (.int .i64 (-9))
 c1:w.cell? ⟨0,1,none⟩=some (.int .i64 0)
 c2:w.cell? ⟨0,2,none⟩=some (.int .i64 0)
 c3:w.cell? ⟨0,3,none⟩=some (.int .i64 0)
 c4:w.cell? ⟨0,4,none⟩=some (.int .i64 0)
 c5:w.cell? ⟨0,5,none⟩=some (.string ⟨#[109,97,114,107]⟩)
def jB.keep {a:World} (h:jB w) (hg:w.grownBy a none):jB a :=
 ⟨hg.cell h.c0 Z,hg.cell h.c1 Z,hg.cell h.c2 Z,hg.cell h.c3 Z,hg.cell h.c4 Z,hg.cell h.c5 Z⟩
def jB.lt (h:jB w):0<w.heap.size:=by
 rcases Nat.lt_or_ge 0 w.heap.size with a | a
 ·exact a
 ·exfalso
  have b:=h.c0;simp [World.cell?,Array.getElem?_eq_none a] at b
def OwnE (w:World) (nodes:Int) (ps:List aA) (e:Ending) (w':World):Prop :=
 ∃ g,e=.returned (.agg #[.int .i64 nodes,.slice (some ⟨g,0,none⟩) ps.length (ps.length+3)])/\aB w' (.slice (some ⟨g,0,none⟩) (ps.length+3) (ps.length+3)) (ps++[Mk,Mk,Mk])/\w.heap.size<=g/\w.grownBy w' none
def own_at (a:Int) (pv:Value) (d:List aA) (w:World) (s:jB w) (t:aB w pv d) (k:∀ c,pv=.slice none 0 c->c=0) (hn:d.length<=100000000) :
  Calls Tryz.prog 5 #[.agg #[.int .i64 a,pv]] w fun e f=>OwnE w a d e f:=by
 have B:=ab t;have q:=ab s;have m:=ab k;obtain ⟨p,cap,rfl,P,Q,M⟩:=t;clear M s k;obtain ⟨W,l⟩:=eX ((w.alloc (Obj.cells #[.int .i64 a,.slice p d.length cap] 24)).alloc (Obj.cells #[.int .i64 0,.slice none 0 0] 24));have o:Hid (w.grownBy W none):=by rw [l];exact ag (ag (ae _ _) _) _
 have b:Hid (∀ wx,W.grownBy wx none->wx.cell? ⟨w.heap.size,0,none⟩=some (.int .i64 a)/\wx.cell? ⟨w.heap.size,1,none⟩=some (.slice p d.length cap)/\wx.cell? ⟨w.heap.size+1,0,none⟩=some (.int .i64 0)/\wx.cell? ⟨w.heap.size+1,1,none⟩=some (.slice none 0 0)/\∀ i,wx.frozen? ⟨w.heap.size+1,i,none⟩=false):=by
  intro wx hg;have C:wx.heap[w.heap.size]? = some (Obj.cells #[.int .i64 a,.slice p d.length cap] 24 (0,0)):=by
   rw [hg.block w.heap.size (by rw [l];simp;omega) Z,l];show ((w.heap.push _).push _)[w.heap.size]? = _
   rw [Array.getElem?_push_lt Z,Array.getElem_push_eq]
  have D:wx.heap[w.heap.size+1]? = some (Obj.cells #[.int .i64 0,.slice none 0 0] 24 (0,0)):=by
   rw [hg.block (w.heap.size+1) (by rw [l];simp) Z,l];exact push1
  refine ⟨?_,?_,?_,?_,fun i=>?_⟩<;>simp [World.cell?,World.frozen?,C,D]
 obtain ⟨R,S,T,r1,N⟩:=b.out W (ae _ _);obtain ⟨k0,U,V,X,Y,k5⟩:=q.out.keep o;have r:Hid (W.heap.size=w.heap.size+2):=by show _=_;rw [l];simp
 have hlt:0<w.heap.size:=q.out.lt;have u:¬ w.heap.size+1=0:=O
 have x:¬ 0=w.heap.size+1:=O
 clear N;go_enter Tryz.func5,Tryz.ntmps5
 go_wp2;rw [<- l];clear l;go_region_held3 (fun f=>f.cell? ⟨w.heap.size,0,none⟩=some (.int .i64 a)/\f.cell? ⟨w.heap.size,1,none⟩=some (.slice p d.length cap)/\f.cell? ⟨0,0,none⟩=some (.int .i64 (-9))/\f.cell? ⟨0,1,none⟩=some (.int .i64 0)/\f.cell? ⟨0,2,none⟩=some (.int .i64 0)/\f.cell? ⟨0,3,none⟩=some (.int .i64 0)/\f.cell? ⟨0,4,none⟩=some (.int .i64 0)/\f.cell? ⟨0,5,none⟩=some (.string ⟨#[109,97,114,107]⟩)) (go_keep)
  (first | (go_at_call 23;refine (lend_at _ d Mk _ (B.keep (aa o (ln (ae _ _)))) m hn zD).mono ?_;rintro e j ⟨g,rfl,y,z,A⟩;have h:W.grownBy j none:=aa (ln (ae _ _)) A;have s0:=(b j h).1;have s1:=(b j h).2.1;have E:=(b j h).2.2.1;have F:=(b j h).2.2.2.1;have G:=(b j h).2.2.2.2 0;have H:=(b j h).2.2.2.2 1;obtain ⟨q0,q1,q2,q3,q4,q5⟩:=q.out.keep (aa o h)))
 have I:=ab y;have J:=ab (aa o h);have K:w.heap.size+2<=g:=by have:=r.out;have:W.heap.size<=g:=z;omega
 clear y z A h;go_wp2;refine bodyPost_ret (v:=.agg #[.int .i64 a,.slice (some ⟨g,0,none⟩) d.length (d.length+3)]) (by simp [results,Tryz.results5,go_sem,E,F]) rfl ?_;have L:j.grownBy ((j.setCell ⟨w.heap.size+1,0,none⟩ (.int .i64 a)).setCell ⟨w.heap.size+1,1,none⟩ (.slice (some ⟨g,0,none⟩) d.length (d.length+3))) (some (w.heap.size+1)):=ix (ix (ae _ _) _ _ _ rfl) _ _ _ rfl;exact ⟨g,rfl,I.keepRow L O,O,ah (ah J _ _ Z) _ _ Z⟩
def sn (a b c d e:Int) (v:ByteArray) (W:World):(binOp .neq 55 (.agg #[.int .i64 a,.int .i64 b,.int .i64 c,.int .i64 d,.int .i64 e,.string v]) (.agg #[.int .i64 a,.int .i64 b,.int .i64 c,.int .i64 d,.int .i64 e,.string v])).run Tryz.prog W=.ok (.bool false) W:=by
 go_simp
def qJ (n i:Nat) (h:i<n+3):n+3-(intOf (Value.int IntKind.i64 ((i:Int)+1))).toNat<n+3-(intOf (Value.int IntKind.i64 (i:Int))).toNat:=by
 simp only [intOf];omega
def StillR (w:World) (n:Nat) (v:Value) (wr:World):Prop:=∃ i:Nat,i<=n+3/\v=.int .i64 i/\w.grownBy wr none
def FM (g:Nat) (pv:Value) (f:List aA) (w:World) (C:aB w pv f) (R:aB w (.slice (some ⟨g,0,none⟩) (f.length+3) (f.length+3)) (f++[Mk,Mk,Mk])) (hn:f.length<=100000000) :
  Calls Tryz.prog 38 #[.slice (some ⟨g,0,none⟩) f.length (f.length+3),pv,Mk.val] w fun e w'=>e=.returned (.bool true)/\w.grownBy w' none:=by
 have HP:=ab C;have HO:=ab R;obtain ⟨ao,cap,rfl,h1,h2,h3⟩:=C;unfold maxLen at h2;have S:Hid (∀ i (h:i<(f++[Mk,Mk,Mk]).length),w.cell? ⟨g,i*6,none⟩=some (.int .i64 (f++[Mk,Mk,Mk])[i].kind)/\w.cell? ⟨g,i*6+1,none⟩=some (.int .i64 (f++[Mk,Mk,Mk])[i].a)/\w.cell? ⟨g,i*6+2,none⟩=some (.int .i64 (f++[Mk,Mk,Mk])[i].b)/\w.cell? ⟨g,i*6+3,none⟩=some (.int .i64 (f++[Mk,Mk,Mk])[i].c)/\w.cell? ⟨g,i*6+4,none⟩=some (.int .i64 (f++[Mk,Mk,Mk])[i].d)/\w.cell? ⟨g,i*6+5,none⟩=some (.string (f++[Mk,Mk,Mk])[i].v)):=by
  intro i hi;obtain ⟨hj,c',e,_,_,k3⟩:=R;obtain ⟨b,off,J,hb,c0,c1,c2,c3,c4,c5,c6⟩:=k3 i hi;simp only [Value.slice.injEq] at e;obtain ⟨e,_,_⟩:=e;rw [J] at e;simp only [zI,Addr.mk.injEq,and_true] at e;obtain ⟨rfl,rfl⟩:=e;simp only [Nat.zero_add] at c0 c1 c2 c3 c4 c5;exact ⟨c0,c1,c2,c3,c4,c5⟩
 have r:=ab h3;clear h3 R;have t:Mk.val=.agg #[.int .i64 (-9),.int .i64 0,.int .i64 0,.int .i64 0,.int .i64 0,.string ⟨#[109,97,114,107]⟩]:=rfl;rw [t];clear t;have X:Hid (∀ wx,(w.alloc (Obj.cells #[.int .i64 (-9),.int .i64 0,.int .i64 0,.int .i64 0,.int .i64 0,.string ⟨#[109,97,114,107]⟩] 55)).grownBy wx none->wx.cell? ⟨w.heap.size,0,none⟩=some (.int .i64 (-9))/\wx.cell? ⟨w.heap.size,1,none⟩=some (.int .i64 0)/\wx.cell? ⟨w.heap.size,2,none⟩=some (.int .i64 0)/\wx.cell? ⟨w.heap.size,3,none⟩=some (.int .i64 0)/\wx.cell? ⟨w.heap.size,4,none⟩=some (.int .i64 0)/\wx.cell? ⟨w.heap.size,5,none⟩=some (.string ⟨#[109,97,114,107]⟩)):=by
  intro wx hg;have e:wx.heap[w.heap.size]? = some (Obj.cells #[.int .i64 (-9),.int .i64 0,.int .i64 0,.int .i64 0,.int .i64 0,.string ⟨#[109,97,114,107]⟩] 55 (0,0)):=by
   rw [hg.block w.heap.size Z Z];exact heap_alloc_new w _
  refine ⟨?_,?_,?_,?_,?_,?_⟩<;>simp [World.cell?,e]
 obtain ⟨W,z⟩:=eX (w.alloc (Obj.cells #[.int .i64 (-9),.int .i64 0,.int .i64 0,.int .i64 0,.int .i64 0,.string ⟨#[109,97,114,107]⟩] 55));have Y:Hid (w.grownBy W none):=by rw [z];exact ag (ae _ _) _
 have T:Hid (w.heap.size<W.heap.size):=by show _<_;rw [z];simp
 rw [<- z] at X;go_enter Tryz.func38,Tryz.ntmps38
 go_wp2;rw [<- z];clear z;go_loopw [17] (fun v wr=>Hid (StillR W f.length v wr)) (fun v _=>f.length+3-(intOf v).toNat)
 case atStart=>exact ⟨0,O,rfl,ae _ _⟩
 case round =>
  obtain ⟨i,hi,rfl,A⟩:=hrel.out;have q:=ab A;clear hrel A;by_cases hlt:i<f.length+3
  ·have U:i<(f++[Mk,Mk,Mk]).length:=by simp;omega
   obtain ⟨c0,c1,c2,c3,c4,c5⟩:=S.out i U;have m:=aa Y q;have D:=m.cell c0 Z;have E:=m.cell c1 Z;have F:=m.cell c2 Z;have G:=m.cell c3 Z;have H:=m.cell c4 Z;have I:=m.cell c5 Z;obtain ⟨m0,m1,m2,m3,m4,m5⟩:=X.out wr q;clear c0 c1 c2 c3 c4 c5;by_cases u:i<f.length
   ·have x:(f++[Mk,Mk,Mk])[i]=f[i]:=List.getElem_append_left u;rw [x] at D E F G H I;obtain ⟨b,off,rfl,hb,e0,e1,J,e3,e4,e5,e6⟩:=r.out i u;have f0:=m.cell e0 Z;have f1:=m.cell e1 Z;have f2:=m.cell J Z;have f3:=m.cell e3 Z;have f4:=m.cell e4 Z;have f5:=m.cell e5 Z;obtain ⟨K,L,M,N,P,Q,B⟩:∃ a b c d e v,f[i]=⟨a,b,c,d,e,v⟩:=⟨_,_,_,_,_,_,rfl⟩;rw [B] at D E F G H I f0 f1 f2 f3 f4 f5;have s:=sn K L M N P Q;have he:b<wr.heap.size:=Nat.lt_of_lt_of_le hb m.size;have hd:decide (f.length<=i)=false:=decide_eq_false O;clear e0 e1 J e3 e4 e5 e6 x B m r S;obtain ⟨l,j⟩:=eX (wr.alloc (Obj.cells #[.int .i64 K,.int .i64 L,.int .i64 M,.int .i64 N,.int .i64 P,.string Q] 55));have k:wr.grownBy l none:=by rw [j];exact ag (ae _ _) _
    have o:l.heap[wr.heap.size]? = some (Obj.cells #[.int .i64 K,.int .i64 L,.int .i64 M,.int .i64 N,.int .i64 P,.string Q] 55 (0,0)):=by rw [j];exact heap_alloc_new wr _
    have x0:l.cell? ⟨wr.heap.size,0,none⟩=some (.int .i64 K):=by simp [World.cell?,o]
    have x1:l.cell? ⟨wr.heap.size,1,none⟩=some (.int .i64 L):=by simp [World.cell?,o]
    have x2:l.cell? ⟨wr.heap.size,2,none⟩=some (.int .i64 M):=by simp [World.cell?,o]
    have x3:l.cell? ⟨wr.heap.size,3,none⟩=some (.int .i64 N):=by simp [World.cell?,o]
    have x4:l.cell? ⟨wr.heap.size,4,none⟩=some (.int .i64 P):=by simp [World.cell?,o]
    have x5:l.cell? ⟨wr.heap.size,5,none⟩=some (.string Q):=by simp [World.cell?,o]
    have y0:=k.cell f0 Z;have y1:=k.cell f1 Z;have y2:=k.cell f2 Z;have y3:=k.cell f3 Z;have y4:=k.cell f4 Z;have y5:=k.cell f5 Z;have V:=ab (aa q k);clear o k;go_wp2;rw [<- j];clear j;go_quiet (fail)
    go_wp2;refine ⟨⟨i+1,hlt,congrArg (Value.int .i64) (Int.natCast_add i 1).symm,ak V _⟩,?_⟩;exact qJ f.length i hlt
   ·have x:(f++[Mk,Mk,Mk])[i]=Mk:=by
     rw [List.getElem_append_right O];have hk:i-f.length<3:=O
     have y:∀ p∈[Mk,Mk,Mk],p=Mk:=by intro p C;simpa using C
     exact y _ (List.getElem_mem _)
    rw [x] at D E F G H I;simp only [Mk] at D E F G H I;have s:=sn (-9) 0 0 0 0 ⟨#[109,97,114,107]⟩;have hd:decide (f.length<=i)=true:=decide_eq_true O;have hf:w.heap.size<wr.heap.size:=Nat.lt_of_lt_of_le (by have:=T.out;omega) q.size;clear x m r S;obtain ⟨l,j⟩:=eX (wr.alloc (Obj.cells #[.int .i64 (-9),.int .i64 0,.int .i64 0,.int .i64 0,.int .i64 0,.string ⟨#[109,97,114,107]⟩] 55));have k:wr.grownBy l none:=by rw [j];exact ag (ae _ _) _
    have o:l.heap[wr.heap.size]? = some (Obj.cells #[.int .i64 (-9),.int .i64 0,.int .i64 0,.int .i64 0,.int .i64 0,.string ⟨#[109,97,114,107]⟩] 55 (0,0)):=by rw [j];exact heap_alloc_new wr _
    have x0:l.cell? ⟨wr.heap.size,0,none⟩=some (.int .i64 (-9)):=by simp [World.cell?,o]
    have x1:l.cell? ⟨wr.heap.size,1,none⟩=some (.int .i64 0):=by simp [World.cell?,o]
    have x2:l.cell? ⟨wr.heap.size,2,none⟩=some (.int .i64 0):=by simp [World.cell?,o]
    have x3:l.cell? ⟨wr.heap.size,3,none⟩=some (.int .i64 0):=by simp [World.cell?,o]
    have x4:l.cell? ⟨wr.heap.size,4,none⟩=some (.int .i64 0):=by simp [World.cell?,o]
    have x5:l.cell? ⟨wr.heap.size,5,none⟩=some (.string ⟨#[109,97,114,107]⟩):=by simp [World.cell?,o]
    have y0:=k.cell m0 Z;have y1:=k.cell m1 Z;have y2:=k.cell m2 Z;have y3:=k.cell m3 Z;have y4:=k.cell m4 Z;have y5:=k.cell m5 Z;have V:=ab (aa q k);clear o k;go_wp2;rw [<- j];clear j;go_quiet (fail)
    go_wp2;refine ⟨⟨i+1,hlt,congrArg (Value.int .i64) (Int.natCast_add i 1).symm,ak V _⟩,?_⟩;exact qJ f.length i hlt
  ·obtain rfl:i=f.length+3:=O
   go_wp2;go_ret;exact ⟨rfl,aa Y q⟩
def kept_at (a:Int) (g:Nat) (pv:Value) (b:List aA) (w:World) (j:jB w) (l:aB w pv b) (m:aB w (.slice (some ⟨g,0,none⟩) (b.length+3) (b.length+3)) (b++[Mk,Mk,Mk])) (hn:b.length<=100000000) :
  Calls Tryz.prog 20 #[.agg #[.int .i64 a,.slice (some ⟨g,0,none⟩) b.length (b.length+3)],.agg #[.int .i64 a,pv]] w fun e s=>e=.returned (.bool true)/\w.grownBy s none:=by
 have o:=ab l;have p:=ab m;have q:=ab j;obtain ⟨c,cap,rfl,v,x,r⟩:=l;clear r m j;obtain ⟨W,d⟩:=eX ((w.alloc (Obj.cells #[.int .i64 a,.slice (some ⟨g,0,none⟩) b.length (b.length+3)] 24)).alloc (Obj.cells #[.int .i64 a,.slice c b.length cap] 24));have f:Hid (w.grownBy W none):=by rw [d];exact ag (ag (ae _ _) _) _
 have h:W.heap[w.heap.size]? = some (Obj.cells #[.int .i64 a,.slice (some ⟨g,0,none⟩) b.length (b.length+3)] 24 (0,0)):=by
  rw [d];show ((w.heap.push _).push _)[w.heap.size]? = _
  rw [Array.getElem?_push_lt Z,Array.getElem_push_eq]
 have i:W.heap[w.heap.size+1]? = some (Obj.cells #[.int .i64 a,.slice c b.length cap] 24 (0,0)):=by
  rw [d];exact push1
 have t:W.cell? ⟨w.heap.size,0,none⟩=some (.int .i64 a):=by simp [World.cell?,h]
 have u:W.cell? ⟨w.heap.size,1,none⟩=some (.slice (some ⟨g,0,none⟩) b.length (b.length+3)):=by simp [World.cell?,h]
 have c0:W.cell? ⟨w.heap.size+1,0,none⟩=some (.int .i64 a):=by simp [World.cell?,i]
 have c1:W.cell? ⟨w.heap.size+1,1,none⟩=some (.slice c b.length cap):=by simp [World.cell?,i]
 obtain ⟨k0,y,z,A,B,C⟩:=q.out.keep (ag (ag (ae w none) (Obj.cells #[.int .i64 a,.slice (some ⟨g,0,none⟩) b.length (b.length+3)] 24)) (Obj.cells #[.int .i64 a,.slice c b.length cap] 24));clear h i;go_enter Tryz.func20,Tryz.ntmps20
 go_wp2_with fail;rw [<- d];refine (FM g _ b W (o.keep f) (p.keep f) hn).mono ?_;rintro e D ⟨rfl,k⟩;have K:=ab (aa f k);clear k;go_wp2;go_ret;exact ⟨rfl,K⟩
end Go.Proofs.YtbomdfhdocaagaaGreatDoor
