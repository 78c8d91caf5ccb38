/- Contracts that the proof leans on. -/
import Derived.Test.YtcoeancbjafooaaGreatDoorXCBd
import Derived.Test.YtcoeancbjafooaaGreatDoorXCNb
namespace Go.Proofs.YtcoeancbjafooaaGreatDoor
open Go.RowKit
set_option linter.unusedVariables false
set_option linter.unusedSimpArgs false
set_option maxHeartbeats 8000000
set_option maxRecDepth 10000
theorem Ci {k:Int} {dio:Bool} (k1:¬ k<1) (k8:¬ 8<k) (k9:¬ (k=8/\dio=false)):(k=1∨k=2∨k=3)∨(k=4∨k=5)∨k=6∨k=7∨(k=8/\dio=true):=by
 by_cases h:k=8
 ·have:dio=true:=by cases dio;exact absurd ⟨h,rfl⟩ k9;rfl
  exact .inr (.inr (.inr (.inr ⟨h,this⟩)))
 ·omega
section
variable {k pa pb pc pd:Int} {v:ByteArray} {nodes:Int} {dio:Bool}
theorem tV (h:k<1∨8<k∨(k=8/\dio=false)):aC dio ⟨k,pa,pb,pc,pd,v⟩ nodes=3:=by
 unfold aC;split
 ·rfl
 ·unfold iQ;rename_i hn;rw [if_pos];rcases h with h | h | h
  ·exact .inl h
  ·exact .inr (by show (9:Int)<=k;omega)
  ·exact absurd h hn
theorem gZ (hk:(k=1∨k=2∨k=3)∨(k=4∨k=5)∨k=6∨k=7∨(k=8/\dio=true)):aC dio ⟨k,pa,pb,pc,pd,v⟩ nodes=da k.toNat pa pb pc pd v nodes:=by
 unfold aC;rw [if_neg (by
  rintro ⟨h1,h2⟩;simp only at h1;rcases hk with h | h | h | h | ⟨h,h3⟩
  ·omega
  ·omega
  ·omega
  ·omega
  ·rw [h2] at h3;exact absurd h3 (by simp))]
 unfold iQ;rw [if_neg (by show ¬ (k<1∨9<=k);rcases hk with h | h | h | h | ⟨h,_⟩<;>omega)]
theorem dX (hk:(k=1∨k=2∨k=3)∨(k=4∨k=5)∨k=6∨k=7∨(k=8/\dio=true)) (h:(!(cJ pa nodes) || !(cJ pb nodes) || (ee k.toNat && !(cJ pc nodes && cJ pd nodes)))=true):aC dio ⟨k,pa,pb,pc,pd,v⟩ nodes=4:=by
 rw [gZ hk];unfold da;rw [if_pos h]
theorem DJ (hk:(k=1∨k=2∨k=3)∨(k=4∨k=5)∨k=6∨k=7∨(k=8/\dio=true)) (hk':k=1∨k=2∨k=3:=by assumption) (hA:cJ pa nodes=true) (hB:cJ pb nodes=true) (hS:iu v<=0):aC dio ⟨k,pa,pb,pc,pd,v⟩ nodes=5:=by
 rw [gZ hk];rcases hk' with rfl | rfl | rfl<;>simp [da,ee,cE,hA,hB,hS]
theorem zu (hk:(k=1∨k=2∨k=3)∨(k=4∨k=5)∨k=6∨k=7∨(k=8/\dio=true)) (hk':k=1∨k=2∨k=3:=by assumption) (hA:cJ pa nodes=true) (hB:cJ pb nodes=true) (hS:¬ iu v<=0) (h:pc≠0∨pd≠0):aC dio ⟨k,pa,pb,pc,pd,v⟩ nodes=6:=by
 rw [gZ hk];rcases hk' with rfl | rfl | rfl<;>simp [da,ee,cE,hA,hB,hS]<;>(intro e1 e2;rcases h with h | h;exact absurd e1 h;exact absurd e2 h)
theorem wd_fine (hk:(k=1∨k=2∨k=3)∨(k=4∨k=5)∨k=6∨k=7∨(k=8/\dio=true)) (hk':k=1∨k=2∨k=3:=by assumption) (hA:cJ pa nodes=true) (hB:cJ pb nodes=true) (hS:¬ iu v<=0) (hc:pc=0) (hd:pd=0):aC dio ⟨k,pa,pb,pc,pd,v⟩ nodes=0:=by
 rw [gZ hk];subst hc hd;rcases hk' with rfl | rfl | rfl<;>simp [da,ee,cE,cw,hA,hB,hS]
theorem DK (hk:(k=1∨k=2∨k=3)∨(k=4∨k=5)∨k=6∨k=7∨(k=8/\dio=true)) (hk':k=4∨k=5:=by assumption) (hA:cJ pa nodes=true) (hB:cJ pb nodes=true) (hc:pc=0) (hd:pd=0):aC dio ⟨k,pa,pb,pc,pd,v⟩ nodes=0:=by
 rw [gZ hk];subst hc hd;rcases hk' with rfl | rfl<;>simp [da,ee,cE,cw,hA,hB]
theorem wM (hk:(k=1∨k=2∨k=3)∨(k=4∨k=5)∨k=6∨k=7∨(k=8/\dio=true)) (hk':k=4∨k=5:=by assumption) (hA:cJ pa nodes=true) (hB:cJ pb nodes=true) (h:pc≠0∨pd≠0):aC dio ⟨k,pa,pb,pc,pd,v⟩ nodes=6:=by
 rw [gZ hk];rcases hk' with rfl | rfl<;>simp [da,ee,cE,cw,hA,hB]<;>(intro e1;rcases h with h | h;exact absurd e1 h;exact h)
theorem jJ (hk:k=6∨k=7) (h:cJ pc nodes=false∨cJ pd nodes=false):aC dio ⟨k,pa,pb,pc,pd,v⟩ nodes=4:=by
 have h2:(cJ pc nodes && cJ pd nodes)=false:=by rcases h with h | h<;>simp [h]
 rcases hk with rfl | rfl
 ·exact dX (.inr (.inr (.inl rfl))) (by rw [h2];simp [ee])
 ·exact dX (.inr (.inr (.inr (.inl rfl)))) (by rw [h2];simp [ee])
theorem sV (hk:k=6∨k=7) (hA:cJ pa nodes=true) (hB:cJ pb nodes=true) (hC:cJ pc nodes=true) (hD:cJ pd nodes=true):aC dio ⟨k,pa,pb,pc,pd,v⟩ nodes=0:=by
 rcases hk with rfl | rfl
 ·rw [gZ (.inr (.inr (.inl rfl)))];simp [da,ee,cE,cw,hA,hB,hC,hD]
 ·rw [gZ (.inr (.inr (.inr (.inl rfl))))];simp [da,ee,cE,cw,hA,hB,hC,hD]
theorem wd8_ok (hA:cJ pa nodes=true) (hB:cJ pb nodes=true):aC true ⟨8,pa,pb,0,0,⟨#[]⟩⟩ nodes=0:=by
 rw [gZ (.inr (.inr (.inr (.inr ⟨rfl,rfl⟩))))];simp [da,ee,cE,cw,hA,hB]
theorem wd8_val (hA:cJ pa nodes=true) (hB:cJ pb nodes=true) (hv:¬ v.data.toList=[]):aC true ⟨8,pa,pb,0,0,v⟩ nodes=6:=by
 have hv':v.data.toList.isEmpty=false:=by
  cases hl:v.data.toList with
  | nil=>exact absurd hl hv
  | cons a r=>rfl
 rw [gZ (.inr (.inr (.inr (.inr ⟨rfl,rfl⟩))))];unfold da;rw [hv',hA,hB];simp [ee,cE,cw]
theorem wL (hA:cJ pa nodes=true) (hB:cJ pb nodes=true) (h:pc≠0∨pd≠0):aC true ⟨8,pa,pb,pc,pd,v⟩ nodes=6:=by
 have h2:(pc != 0 || pd != 0)=true:=by rcases h with h | h<;>simp [h]
 rw [gZ (.inr (.inr (.inr (.inr ⟨rfl,rfl⟩))))];unfold da;rw [h2,hA,hB];simp [ee,cE,cw]
end
theorem mN (v:ByteArray):decide (nA (sg (fm v.data.toList).1 (fm v.data.toList).2.1)<=0)=decide (iu v<=0):=by
 unfold iu kE nA sg;generalize (fm v.data.toList).1=neg;generalize (fm v.data.toList).2.1=n;cases neg
 ·by_cases hn:n=0
  ·subst hn;simp
  ·have h1:0<n:=by omega
   have h2:¬ ((n:Int)<0):=by omega
   simp [hn,h1,h2]
 ·by_cases hn:n=0
  ·subst hn;simp
  ·have:0<n:=by omega
   simp [this]
theorem uP {v:ByteArray} (h:¬ v.data.toList=[]):v.toList.isEmpty=false:=by
 rw [Lib.toList_data];cases hl:v.data.toList with
 | nil=>exact absurd hl h
 | cons a r=>rfl
theorem ff (c i:Int) (w:World):Calls Tryz.prog 63 #[.int .i64 c,.int .i64 i] w fun e w'=>e=.returned (.agg #[.int .i64 c,.int .i64 i])/\w.grownBy w' none:=by
 go_enter Tryz.func63,Tryz.ntmps63
 go_wp2
 all_goals exact bodyPost_ret (v:=.agg #[.int .i64 c,.int .i64 i]) (by simp [results,Tryz.results63,go_sem]) rfl ⟨rfl,by repeat (first | exact ae _ _ | refine ag ?_ _ | refine au ?_ _ | (refine ah ?_ _ _ (by simp)))⟩
theorem aK (x nodes:Int) (g:Nat) (w:World) (hc:w.cell? ⟨g,0,none⟩=some (.int .i64 nodes)) :
  Calls Tryz.prog 64 #[.int .i64 x,.pointer (some ⟨g,0,none⟩)] w fun e w'=>e=.returned (.bool (cJ x nodes))/\w'=w:=by
 by_cases h:0<=x
 ·go_enter Tryz.func64,Tryz.ntmps64
  go_wp2;go_ret;refine ⟨?_,rfl⟩;unfold cJ;rw [show decide (0<=x)=true from by simpa using h];simp
 ·go_enter Tryz.func64,Tryz.ntmps64
  go_wp2;go_ret;refine ⟨?_,rfl⟩;unfold cJ;rw [show decide (0<=x)=false from by simpa using h];rfl
def RChkR (W:World) (dio:Bool) (nodes:Int) (ps:List aO) (C:Int×Int) (iv:Value) (wr:World):Prop:=∃ i:Nat,i<=ps.length/\iv=.int .i64 i/\aA dio nodes (ps.drop i) i=C/\W.grownBy wr none
theorem rt (nodes:Int) (o:Option Addr) (l cap:Nat) (dio:Bool) (w:World) (h:nodes<1∨8<nodes∨16<l) :
  Calls Tryz.prog 29 #[.agg #[.int .i64 nodes,.slice o l cap],.bool dio] w fun e w'=>e=.returned (.agg #[.int .i64 2,.int .i64 0])/\w.grownBy w' none:=by
 by_cases h1:nodes<1
 ·clear h;go_enter Tryz.func29,Tryz.ntmps29
  go_wp2_with fail;refine (ff 2 0 _).mono ?_;rintro e w1 ⟨rfl,f1⟩;have hrr:w1.cell? ⟨w.heap.size+1,0,none⟩=some (.int .i64 0)/\w1.cell? ⟨w.heap.size+1,1,none⟩=some (.int .i64 0)/\(∀ i,w1.frozen? ⟨w.heap.size+1,i,none⟩=false):=by
   have:=lj f1;simpa using this
  obtain ⟨r0,r1,rf⟩:=hrr;have rf0:=rf 0;have rf1:=rf 1;have F1:=ab f1;clear rf f1;go_wp2;exact bodyPost_ret (v:=.agg #[.int .i64 2,.int .i64 0]) (by simp [results,Tryz.results29,go_sem,r0,r1]) rfl ⟨rfl,ah (ah (aa (ag (ag (ae _ _) _) _) F1.out) _ _ (by simp)) _ _ (by simp)⟩
 ·by_cases h2:8<nodes
  ·clear h;go_enter Tryz.func29,Tryz.ntmps29
   go_wp2_with fail;refine (ff 2 0 _).mono ?_;rintro e w1 ⟨rfl,f1⟩;have hrr:w1.cell? ⟨w.heap.size+1,0,none⟩=some (.int .i64 0)/\w1.cell? ⟨w.heap.size+1,1,none⟩=some (.int .i64 0)/\(∀ i,w1.frozen? ⟨w.heap.size+1,i,none⟩=false):=by
    have:=lj f1;simpa using this
   obtain ⟨r0,r1,rf⟩:=hrr;have rf0:=rf 0;have rf1:=rf 1;have F1:=ab f1;clear rf f1;go_wp2;exact bodyPost_ret (v:=.agg #[.int .i64 2,.int .i64 0]) (by simp [results,Tryz.results29,go_sem,r0,r1]) rfl ⟨rfl,ah (ah (aa (ag (ag (ae _ _) _) _) F1.out) _ _ (by simp)) _ _ (by simp)⟩
  ·have h3:16<l:=by omega
   have h1':decide (nodes<1)=false:=by simpa using h1
   have h2':decide (8<nodes)=false:=by simpa using h2
   clear h;go_enter Tryz.func29,Tryz.ntmps29
   go_wp2_with fail;refine (ff 2 0 _).mono ?_;rintro e w1 ⟨rfl,f1⟩;have hrr:w1.cell? ⟨w.heap.size+1,0,none⟩=some (.int .i64 0)/\w1.cell? ⟨w.heap.size+1,1,none⟩=some (.int .i64 0)/\(∀ i,w1.frozen? ⟨w.heap.size+1,i,none⟩=false):=by
    have:=lj f1;simpa using this
   obtain ⟨r0,r1,rf⟩:=hrr;have rf0:=rf 0;have rf1:=rf 1;have F1:=ab f1;clear rf f1;go_wp2;exact bodyPost_ret (v:=.agg #[.int .i64 2,.int .i64 0]) (by simp [results,Tryz.results29,go_sem,r0,r1]) rfl ⟨rfl,ah (ah (aa (ag (ag (ae _ _) _) _) F1.out) _ _ (by simp)) _ _ (by simp)⟩
theorem vP (nodes:Int) (pv:Value) (ps:List aO) (dio:Bool) (w:World) (hb:ji w) (hp:aT w pv ps) (hsz:∀ i (h:i<ps.length),ps[i].v.size<=100000000) :
  Calls Tryz.prog 29 #[.agg #[.int .i64 nodes,pv],.bool dio] w fun e w'=>sX dio w nodes ps e w':=by
 obtain ⟨ao,cap,rfl,h1,h2,h3⟩:=hp;unfold maxLen at h2;by_cases hm:nodes<1∨8<nodes∨16<ps.length
 ·refine (rt nodes ao ps.length cap dio w hm).mono ?_;rintro e w' ⟨rfl,hw⟩;refine ⟨?_,hw⟩;unfold aQ;rw [if_pos hm]
 ·have hn1:decide (nodes<1)=false:=by simp;omega
  have hn2:decide (8<nodes)=false:=by simp;omega
  have hn3:decide ((16:Int)<(ps.length:Int))=false:=by simp;omega
  have hl16:ps.length<=16:=by omega
  have HP:=ab h3;have HSZ:=ab hsz;obtain ⟨_,⟨ml,hml⟩,_⟩:=hb;have HML:=ab hml;obtain ⟨C,hC⟩:∃ C,aA dio nodes ps 0=C:=⟨_,rfl⟩;have HCK:Hid (aQ dio nodes ps=C):=by
   show _=_
   unfold aQ;rw [if_neg hm,hC]
  have HC0:=ab hC;clear h3 hml hm hC hsz;go_enter Tryz.func29,Tryz.ntmps29
  go_wp2;obtain ⟨W,hW⟩:∃ W,W=(w.alloc (Obj.cells #[.int .i64 nodes,.slice ao ps.length cap] 24)).alloc (Obj.cells #[.int .i64 0,.int .i64 0] 32):=⟨_,rfl⟩;have gW:Hid (w.grownBy W none):=by rw [hW];exact ag (ag (ae _ _) _) _
  have rW:Hid (∀ wr:World,W.grownBy wr none->wr.cell? ⟨w.heap.size+1,0,none⟩=some (.int .i64 0)/\wr.cell? ⟨w.heap.size+1,1,none⟩=some (.int .i64 0)/\(∀ i,wr.frozen? ⟨w.heap.size+1,i,none⟩=false)/\wr.cell? ⟨w.heap.size,0,none⟩=some (.int .i64 nodes)):=by
   intro wr hg;rw [hW] at hg;have:=lj hg;exact ⟨by simpa using this.1,by simpa using this.2.1,by simpa using this.2.2,hg.cell (by go_simp) (by simp)⟩
  simp only [<- hW];clear hW hn1 hn2 hn3;go_loopw [27] (fun iv wr=>Hid (RChkR W dio nodes ps C iv wr)) (fun iv _=>ps.length-(intOf iv).toNat)
  case atStart=>exact ⟨0,by omega,rfl,HC0.out,ae _ _⟩
  case round =>
   obtain ⟨i,hi,rfl,hF,hgr⟩:=hrel.out;have HF:=ab hF;have HGR:=ab hgr;clear hF hgr hrel;by_cases hlt:i<ps.length
   ·obtain ⟨b,off,rfl,hb,c0,c1,c2,c3,c4,c5,c6⟩:=HP.out i hlt;have hgg:=(aa gW.out HGR.out);have q0:=hgg.cell c0 (by simp);have q1:=hgg.cell c1 (by simp);have q2:=hgg.cell c2 (by simp);have q3:=hgg.cell c3 (by simp);have q4:=hgg.cell c4 (by simp);have q5:=hgg.cell c5 (by simp);have hvz:=HSZ.out i hlt;have hd:ps.drop i=ps[i] :: ps.drop (i+1):=List.drop_eq_getElem_cons hlt;have HD:=ab hd;have HML2:=ab (hgg.cell HML.out (by simp));generalize ps[i]=p at q0 q1 q2 q3 q4 q5 hvz HD;obtain ⟨k,pa,pb,pc,pd,v⟩:=p;simp only at q0 q1 q2 q3 q4 q5 hvz;obtain ⟨W2,hW2⟩:∃ W2,W2=wr.alloc (Obj.cells #[.int .i64 k,.int .i64 pa,.int .i64 pb,.int .i64 pc,.int .i64 pd,.string v] 47):=⟨_,rfl⟩;have GW2:Hid (W.grownBy W2 none):=by rw [hW2];exact ag HGR.out _
    have hls:wr.heap.size<W2.heap.size:=by rw [hW2];simp
    have PW:Hid (∀ wx:World,W2.grownBy wx none->wx.cell? ⟨wr.heap.size,0,none⟩=some (.int .i64 k)/\wx.cell? ⟨wr.heap.size,1,none⟩=some (.int .i64 pa)/\wx.cell? ⟨wr.heap.size,2,none⟩=some (.int .i64 pb)/\wx.cell? ⟨wr.heap.size,3,none⟩=some (.int .i64 pc)/\wx.cell? ⟨wr.heap.size,4,none⟩=some (.int .i64 pd)/\wx.cell? ⟨wr.heap.size,5,none⟩=some (.string v)):=by
     intro wx hg;rw [hW2] at hg;exact ⟨hg.cell (by go_simp) (by simp),hg.cell (by go_simp) (by simp),hg.cell (by go_simp) (by simp),hg.cell (by go_simp) (by simp),hg.cell (by go_simp) (by simp),hg.cell (by go_simp) (by simp)⟩
    have HML3:Hid (W2.cell? ⟨1,0,none⟩=some (.int .i64 ml)):=by rw [hW2];exact (ag (ae wr none) _).cell HML2.out (by simp)
    have HW2:=ab hW2;clear c0 c1 c2 c3 c4 c5 hd hgg hW2;by_cases k1:k<1
    ·have kk1:decide (k<1)=true:=by simpa using k1
     have e6:(k==6)=false:=by simp;omega
     have e7:(k==7)=false:=by simp;omega
     obtain ⟨pp0,pp1,pp2,pp3,pp4,pp5⟩:=PW.out W2 (ae _ _);have n0:=(rW.out W2 GW2.out).2.2.2;go_wp2_with fail;simp only [<- HW2.out];refine (ff 3 i _).mono ?_;rintro e w4 ⟨rfl,f4⟩;have GW4:=ab (aa GW2.out f4);obtain ⟨r0,r1,rf,_⟩:=rW.out w4 GW4.out;have rf0:=rf 0;have rf1:=rf 1;clear rf f4;go_wp2;refine bodyPost_ret (v:=.agg #[.int .i64 3,.int .i64 (i:Nat)]) (by simp [results,Tryz.results29,go_sem,r0,r1]) rfl ?_;have hf:=HF.out;have hwr:aC dio ⟨k,pa,pb,pc,pd,v⟩ nodes=3:=tV (.inl k1);rw [HD.out,aA,hwr,if_neg (by decide)] at hf;exact ⟨by rw [HCK.out,<- hf],ah (ah (aa gW.out GW4.out) _ _ (by simp)) _ _ (by simp)⟩
    have kk1:decide (k<1)=false:=by simpa using k1
    by_cases k8:8<k
    ·have kk8:decide (8<k)=true:=by simpa using k8
     have e6:(k==6)=false:=by simp;omega
     have e7:(k==7)=false:=by simp;omega
     obtain ⟨pp0,pp1,pp2,pp3,pp4,pp5⟩:=PW.out W2 (ae _ _);have n0:=(rW.out W2 GW2.out).2.2.2;go_wp2_with fail;simp only [<- HW2.out];refine (ff 3 i _).mono ?_;rintro e w4 ⟨rfl,f4⟩;have GW4:=ab (aa GW2.out f4);obtain ⟨r0,r1,rf,_⟩:=rW.out w4 GW4.out;have rf0:=rf 0;have rf1:=rf 1;clear rf f4;go_wp2;refine bodyPost_ret (v:=.agg #[.int .i64 3,.int .i64 (i:Nat)]) (by simp [results,Tryz.results29,go_sem,r0,r1]) rfl ?_;have hf:=HF.out;have hwr:aC dio ⟨k,pa,pb,pc,pd,v⟩ nodes=3:=tV (.inr (.inl k8));rw [HD.out,aA,hwr,if_neg (by decide)] at hf;exact ⟨by rw [HCK.out,<- hf],ah (ah (aa gW.out GW4.out) _ _ (by simp)) _ _ (by simp)⟩
    have kk8:decide (8<k)=false:=by simpa using k8
    by_cases k9:k=8/\dio=false
    ·obtain ⟨rfl,rfl⟩:=k9;obtain ⟨pp0,pp1,pp2,pp3,pp4,pp5⟩:=PW.out W2 (ae _ _);have n0:=(rW.out W2 GW2.out).2.2.2;go_wp2_with fail;simp only [<- HW2.out];refine (ff 3 i _).mono ?_;rintro e w4 ⟨rfl,f4⟩;have GW4:=ab (aa GW2.out f4);obtain ⟨r0,r1,rf,_⟩:=rW.out w4 GW4.out;have rf0:=rf 0;have rf1:=rf 1;clear rf f4;go_wp2;refine bodyPost_ret (v:=.agg #[.int .i64 3,.int .i64 (i:Nat)]) (by simp [results,Tryz.results29,go_sem,r0,r1]) rfl ?_;have hf:=HF.out;have hwr:aC false ⟨8,pa,pb,pc,pd,v⟩ nodes=3:=tV (.inr (.inr ⟨rfl,rfl⟩));rw [HD.out,aA,hwr,if_neg (by decide)] at hf;exact ⟨by rw [HCK.out,<- hf],ah (ah (aa gW.out GW4.out) _ _ (by simp)) _ _ (by simp)⟩
    have hkk:(k=1∨k=2∨k=3)∨(k=4∨k=5)∨k=6∨k=7∨(k=8/\dio=true):=Ci k1 k8 k9;clear k9;rcases hkk with hk | hk | rfl | rfl | ⟨rfl,rfl⟩
    ·skip;cases hA:cJ pa nodes with
     | false =>
      have e6:(k==6)=false:=by simp;omega
      have e7:(k==7)=false:=by simp;omega
      have e8:(k==8)=false:=by simp;omega
      have l4:decide (k<4)=true:=by simp;omega
      obtain ⟨pp0,pp1,pp2,pp3,pp4,pp5⟩:=PW.out W2 (ae _ _);have n0:=(rW.out W2 GW2.out).2.2.2;go_wp2_with fail;simp only [<- HW2.out];refine (aK pa nodes w.heap.size _ n0).mono ?_;rintro e wx ⟨rfl,rfl⟩;rw [hA];go_wp2_with fail;refine (ff 4 i _).mono ?_;rintro e w4 ⟨rfl,f4⟩;have GW4:=ab (aa GW2.out f4);obtain ⟨r0,r1,rf,_⟩:=rW.out w4 GW4.out;have rf0:=rf 0;have rf1:=rf 1;clear rf f4;go_wp2;refine bodyPost_ret (v:=.agg #[.int .i64 4,.int .i64 (i:Nat)]) (by simp [results,Tryz.results29,go_sem,r0,r1]) rfl ?_;have hf:=HF.out;have hwr:aC dio ⟨k,pa,pb,pc,pd,v⟩ nodes=4:=dX (.inl hk) (by simp [hA]);rw [HD.out,aA,hwr,if_neg (by decide)] at hf;exact ⟨by rw [HCK.out,<- hf],ah (ah (aa gW.out GW4.out) _ _ (by simp)) _ _ (by simp)⟩
     | true =>
      cases hB:cJ pb nodes with
      | false =>
       have e6:(k==6)=false:=by simp;omega
       have e7:(k==7)=false:=by simp;omega
       have e8:(k==8)=false:=by simp;omega
       have l4:decide (k<4)=true:=by simp;omega
       obtain ⟨pp0,pp1,pp2,pp3,pp4,pp5⟩:=PW.out W2 (ae _ _);have n0:=(rW.out W2 GW2.out).2.2.2;go_wp2_with fail;simp only [<- HW2.out];refine (aK pa nodes w.heap.size _ n0).mono ?_;rintro e wx ⟨rfl,rfl⟩;rw [hA];go_wp2_with fail;refine (aK pb nodes w.heap.size _ n0).mono ?_;rintro e wx ⟨rfl,rfl⟩;rw [hB];go_wp2_with fail;refine (ff 4 i _).mono ?_;rintro e w4 ⟨rfl,f4⟩;have GW4:=ab (aa GW2.out f4);obtain ⟨r0,r1,rf,_⟩:=rW.out w4 GW4.out;have rf0:=rf 0;have rf1:=rf 1;clear rf f4;go_wp2;refine bodyPost_ret (v:=.agg #[.int .i64 4,.int .i64 (i:Nat)]) (by simp [results,Tryz.results29,go_sem,r0,r1]) rfl ?_;have hf:=HF.out;have hwr:aC dio ⟨k,pa,pb,pc,pd,v⟩ nodes=4:=dX (.inl hk) (by simp [hB]);rw [HD.out,aA,hwr,if_neg (by decide)] at hf;exact ⟨by rw [HCK.out,<- hf],ah (ah (aa gW.out GW4.out) _ _ (by simp)) _ _ (by simp)⟩
      | true =>
       by_cases hS:iu v<=0
       ·have e6:(k==6)=false:=by simp;omega
        have e7:(k==7)=false:=by simp;omega
        have e8:(k==8)=false:=by simp;omega
        have l4:decide (k<4)=true:=by simp;omega
        obtain ⟨pp0,pp1,pp2,pp3,pp4,pp5⟩:=PW.out W2 (ae _ _);have n0:=(rW.out W2 GW2.out).2.2.2;go_wp2_with fail;simp only [<- HW2.out];refine (aK pa nodes w.heap.size _ n0).mono ?_;rintro e wx ⟨rfl,rfl⟩;rw [hA];go_wp2_with fail;refine (aK pb nodes w.heap.size _ n0).mono ?_;rintro e wx ⟨rfl,rfl⟩;rw [hB];go_wp2_with fail;refine (kA v ml _ hvz HML3.out).mono ?_;intro e w3 hE;obtain ⟨nb,rfl,g3,_,i3,_⟩:=hE;have I3:=ab i3;have G3:=ab g3;have GW3:=ab (aa GW2.out g3);obtain ⟨pp0,pp1,pp2,pp3,pp4,pp5⟩:=PW.out w3 g3;have n0:=(rW.out w3 GW3.out).2.2.2;clear g3 i3;go_wp2_with fail;refine (fB nb _ _ _ I3.out).mono ?_;rintro e wx ⟨rfl,rfl⟩;obtain ⟨sz,hszq⟩:∃ sz,sz=nA (sg (fm v.data.toList).1 (fm v.data.toList).2.1):=⟨_,rfl⟩;rw [<- hszq];have hdec:decide (sz<=0)=true:=by rw [hszq];exact (mN v).trans (by simpa using hS)
        clear hszq;go_wp2_with fail;refine (ff 5 i _).mono ?_;rintro e w4 ⟨rfl,f4⟩;have GW4:=ab (aa GW3.out f4);obtain ⟨r0,r1,rf,_⟩:=rW.out w4 GW4.out;have rf0:=rf 0;have rf1:=rf 1;clear rf f4;go_wp2;refine bodyPost_ret (v:=.agg #[.int .i64 5,.int .i64 (i:Nat)]) (by simp [results,Tryz.results29,go_sem,r0,r1]) rfl ?_;have hf:=HF.out;have hwr:aC dio ⟨k,pa,pb,pc,pd,v⟩ nodes=5:=DJ (.inl hk) hk hA hB hS;rw [HD.out,aA,hwr,if_neg (by decide)] at hf;exact ⟨by rw [HCK.out,<- hf],ah (ah (aa gW.out GW4.out) _ _ (by simp)) _ _ (by simp)⟩
       ·by_cases hc:pc=0
        ·by_cases hd:pd=0
         ·subst hc hd;have e6:(k==6)=false:=by simp;omega
          have e7:(k==7)=false:=by simp;omega
          have e8:(k==8)=false:=by simp;omega
          have l4:decide (k<4)=true:=by simp;omega
          obtain ⟨pp0,pp1,pp2,pp3,pp4,pp5⟩:=PW.out W2 (ae _ _);have n0:=(rW.out W2 GW2.out).2.2.2;go_wp2_with fail;simp only [<- HW2.out];refine (aK pa nodes w.heap.size _ n0).mono ?_;rintro e wx ⟨rfl,rfl⟩;rw [hA];go_wp2_with fail;refine (aK pb nodes w.heap.size _ n0).mono ?_;rintro e wx ⟨rfl,rfl⟩;rw [hB];go_wp2_with fail;refine (kA v ml _ hvz HML3.out).mono ?_;intro e w3 hE;obtain ⟨nb,rfl,g3,_,i3,_⟩:=hE;have I3:=ab i3;have G3:=ab g3;have GW3:=ab (aa GW2.out g3);obtain ⟨pp0,pp1,pp2,pp3,pp4,pp5⟩:=PW.out w3 g3;have n0:=(rW.out w3 GW3.out).2.2.2;clear g3 i3;go_wp2_with fail;refine (fB nb _ _ _ I3.out).mono ?_;rintro e wx ⟨rfl,rfl⟩;obtain ⟨sz,hszq⟩:∃ sz,sz=nA (sg (fm v.data.toList).1 (fm v.data.toList).2.1):=⟨_,rfl⟩;rw [<- hszq];have hdec:decide (sz<=0)=false:=by rw [hszq];exact (mN v).trans (by simpa using hS)
          clear hszq;go_wp2;go_roundw
          case rel =>
           refine ⟨i+1,by omega,by go_num,?_,GW3.out⟩;have hf:=HF.out;have hwr:aC dio ⟨k,pa,pb,0,0,v⟩ nodes=0:=wd_fine (.inl hk) hk hA hB (by omega) rfl rfl;rw [HD.out,aA,if_pos hwr] at hf;exact hf
          case measure=>simp [intOf];omega
         ·have hdn:(pd==0)=false:=by simpa using hd
          subst hc;have e6:(k==6)=false:=by simp;omega
          have e7:(k==7)=false:=by simp;omega
          have e8:(k==8)=false:=by simp;omega
          have l4:decide (k<4)=true:=by simp;omega
          obtain ⟨pp0,pp1,pp2,pp3,pp4,pp5⟩:=PW.out W2 (ae _ _);have n0:=(rW.out W2 GW2.out).2.2.2;go_wp2_with fail;simp only [<- HW2.out];refine (aK pa nodes w.heap.size _ n0).mono ?_;rintro e wx ⟨rfl,rfl⟩;rw [hA];go_wp2_with fail;refine (aK pb nodes w.heap.size _ n0).mono ?_;rintro e wx ⟨rfl,rfl⟩;rw [hB];go_wp2_with fail;refine (kA v ml _ hvz HML3.out).mono ?_;intro e w3 hE;obtain ⟨nb,rfl,g3,_,i3,_⟩:=hE;have I3:=ab i3;have G3:=ab g3;have GW3:=ab (aa GW2.out g3);obtain ⟨pp0,pp1,pp2,pp3,pp4,pp5⟩:=PW.out w3 g3;have n0:=(rW.out w3 GW3.out).2.2.2;clear g3 i3;go_wp2_with fail;refine (fB nb _ _ _ I3.out).mono ?_;rintro e wx ⟨rfl,rfl⟩;obtain ⟨sz,hszq⟩:∃ sz,sz=nA (sg (fm v.data.toList).1 (fm v.data.toList).2.1):=⟨_,rfl⟩;rw [<- hszq];have hdec:decide (sz<=0)=false:=by rw [hszq];exact (mN v).trans (by simpa using hS)
          clear hszq;go_wp2_with fail;refine (ff 6 i _).mono ?_;rintro e w4 ⟨rfl,f4⟩;have GW4:=ab (aa GW3.out f4);obtain ⟨r0,r1,rf,_⟩:=rW.out w4 GW4.out;have rf0:=rf 0;have rf1:=rf 1;clear rf f4;go_wp2;refine bodyPost_ret (v:=.agg #[.int .i64 6,.int .i64 (i:Nat)]) (by simp [results,Tryz.results29,go_sem,r0,r1]) rfl ?_;have hf:=HF.out;have hwr:aC dio ⟨k,pa,pb,0,pd,v⟩ nodes=6:=zu (.inl hk) hk hA hB (by omega) (.inr hd);rw [HD.out,aA,hwr,if_neg (by decide)] at hf;exact ⟨by rw [HCK.out,<- hf],ah (ah (aa gW.out GW4.out) _ _ (by simp)) _ _ (by simp)⟩
        ·have hcn:(pc==0)=false:=by simpa using hc
         have e6:(k==6)=false:=by simp;omega
         have e7:(k==7)=false:=by simp;omega
         have e8:(k==8)=false:=by simp;omega
         have l4:decide (k<4)=true:=by simp;omega
         obtain ⟨pp0,pp1,pp2,pp3,pp4,pp5⟩:=PW.out W2 (ae _ _);have n0:=(rW.out W2 GW2.out).2.2.2;go_wp2_with fail;simp only [<- HW2.out];refine (aK pa nodes w.heap.size _ n0).mono ?_;rintro e wx ⟨rfl,rfl⟩;rw [hA];go_wp2_with fail;refine (aK pb nodes w.heap.size _ n0).mono ?_;rintro e wx ⟨rfl,rfl⟩;rw [hB];go_wp2_with fail;refine (kA v ml _ hvz HML3.out).mono ?_;intro e w3 hE;obtain ⟨nb,rfl,g3,_,i3,_⟩:=hE;have I3:=ab i3;have G3:=ab g3;have GW3:=ab (aa GW2.out g3);obtain ⟨pp0,pp1,pp2,pp3,pp4,pp5⟩:=PW.out w3 g3;have n0:=(rW.out w3 GW3.out).2.2.2;clear g3 i3;go_wp2_with fail;refine (fB nb _ _ _ I3.out).mono ?_;rintro e wx ⟨rfl,rfl⟩;obtain ⟨sz,hszq⟩:∃ sz,sz=nA (sg (fm v.data.toList).1 (fm v.data.toList).2.1):=⟨_,rfl⟩;rw [<- hszq];have hdec:decide (sz<=0)=false:=by rw [hszq];exact (mN v).trans (by simpa using hS)
         clear hszq;go_wp2_with fail;refine (ff 6 i _).mono ?_;rintro e w4 ⟨rfl,f4⟩;have GW4:=ab (aa GW3.out f4);obtain ⟨r0,r1,rf,_⟩:=rW.out w4 GW4.out;have rf0:=rf 0;have rf1:=rf 1;clear rf f4;go_wp2;refine bodyPost_ret (v:=.agg #[.int .i64 6,.int .i64 (i:Nat)]) (by simp [results,Tryz.results29,go_sem,r0,r1]) rfl ?_;have hf:=HF.out;have hwr:aC dio ⟨k,pa,pb,pc,pd,v⟩ nodes=6:=zu (.inl hk) hk hA hB (by omega) (.inl hc);rw [HD.out,aA,hwr,if_neg (by decide)] at hf;exact ⟨by rw [HCK.out,<- hf],ah (ah (aa gW.out GW4.out) _ _ (by simp)) _ _ (by simp)⟩
    ·skip;cases hA:cJ pa nodes with
     | false =>
      have e6:(k==6)=false:=by simp;omega
      have e7:(k==7)=false:=by simp;omega
      have e8:(k==8)=false:=by simp;omega
      have l4:decide (k<4)=false:=by simp;omega
      obtain ⟨pp0,pp1,pp2,pp3,pp4,pp5⟩:=PW.out W2 (ae _ _);have n0:=(rW.out W2 GW2.out).2.2.2;go_wp2_with fail;simp only [<- HW2.out];refine (aK pa nodes w.heap.size _ n0).mono ?_;rintro e wx ⟨rfl,rfl⟩;rw [hA];go_wp2_with fail;refine (ff 4 i _).mono ?_;rintro e w4 ⟨rfl,f4⟩;have GW4:=ab (aa GW2.out f4);obtain ⟨r0,r1,rf,_⟩:=rW.out w4 GW4.out;have rf0:=rf 0;have rf1:=rf 1;clear rf f4;go_wp2;refine bodyPost_ret (v:=.agg #[.int .i64 4,.int .i64 (i:Nat)]) (by simp [results,Tryz.results29,go_sem,r0,r1]) rfl ?_;have hf:=HF.out;have hwr:aC dio ⟨k,pa,pb,pc,pd,v⟩ nodes=4:=dX (.inr (.inl hk)) (by simp [hA]);rw [HD.out,aA,hwr,if_neg (by decide)] at hf;exact ⟨by rw [HCK.out,<- hf],ah (ah (aa gW.out GW4.out) _ _ (by simp)) _ _ (by simp)⟩
     | true =>
      cases hB:cJ pb nodes with
      | false =>
       have e6:(k==6)=false:=by simp;omega
       have e7:(k==7)=false:=by simp;omega
       have e8:(k==8)=false:=by simp;omega
       have l4:decide (k<4)=false:=by simp;omega
       obtain ⟨pp0,pp1,pp2,pp3,pp4,pp5⟩:=PW.out W2 (ae _ _);have n0:=(rW.out W2 GW2.out).2.2.2;go_wp2_with fail;simp only [<- HW2.out];refine (aK pa nodes w.heap.size _ n0).mono ?_;rintro e wx ⟨rfl,rfl⟩;rw [hA];go_wp2_with fail;refine (aK pb nodes w.heap.size _ n0).mono ?_;rintro e wx ⟨rfl,rfl⟩;rw [hB];go_wp2_with fail;refine (ff 4 i _).mono ?_;rintro e w4 ⟨rfl,f4⟩;have GW4:=ab (aa GW2.out f4);obtain ⟨r0,r1,rf,_⟩:=rW.out w4 GW4.out;have rf0:=rf 0;have rf1:=rf 1;clear rf f4;go_wp2;refine bodyPost_ret (v:=.agg #[.int .i64 4,.int .i64 (i:Nat)]) (by simp [results,Tryz.results29,go_sem,r0,r1]) rfl ?_;have hf:=HF.out;have hwr:aC dio ⟨k,pa,pb,pc,pd,v⟩ nodes=4:=dX (.inr (.inl hk)) (by simp [hB]);rw [HD.out,aA,hwr,if_neg (by decide)] at hf;exact ⟨by rw [HCK.out,<- hf],ah (ah (aa gW.out GW4.out) _ _ (by simp)) _ _ (by simp)⟩
      | true =>
       by_cases hc:pc=0
       ·by_cases hd:pd=0
        ·subst hc hd;have e6:(k==6)=false:=by simp;omega
         have e7:(k==7)=false:=by simp;omega
         have e8:(k==8)=false:=by simp;omega
         have l4:decide (k<4)=false:=by simp;omega
         obtain ⟨pp0,pp1,pp2,pp3,pp4,pp5⟩:=PW.out W2 (ae _ _);have n0:=(rW.out W2 GW2.out).2.2.2;go_wp2_with fail;simp only [<- HW2.out];refine (aK pa nodes w.heap.size _ n0).mono ?_;rintro e wx ⟨rfl,rfl⟩;rw [hA];go_wp2_with fail;refine (aK pb nodes w.heap.size _ n0).mono ?_;rintro e wx ⟨rfl,rfl⟩;rw [hB];go_wp2;go_roundw
         case rel =>
          refine ⟨i+1,by omega,by go_num,?_,GW2.out⟩;have hf:=HF.out;have hwr:aC dio ⟨k,pa,pb,0,0,v⟩ nodes=0:=DK (.inr (.inl hk)) hk hA hB rfl rfl;rw [HD.out,aA,if_pos hwr] at hf;exact hf
         case measure=>simp [intOf];omega
        ·have hdn:(pd==0)=false:=by simpa using hd
         subst hc;have e6:(k==6)=false:=by simp;omega
         have e7:(k==7)=false:=by simp;omega
         have e8:(k==8)=false:=by simp;omega
         have l4:decide (k<4)=false:=by simp;omega
         obtain ⟨pp0,pp1,pp2,pp3,pp4,pp5⟩:=PW.out W2 (ae _ _);have n0:=(rW.out W2 GW2.out).2.2.2;go_wp2_with fail;simp only [<- HW2.out];refine (aK pa nodes w.heap.size _ n0).mono ?_;rintro e wx ⟨rfl,rfl⟩;rw [hA];go_wp2_with fail;refine (aK pb nodes w.heap.size _ n0).mono ?_;rintro e wx ⟨rfl,rfl⟩;rw [hB];go_wp2_with fail;refine (ff 6 i _).mono ?_;rintro e w4 ⟨rfl,f4⟩;have GW4:=ab (aa GW2.out f4);obtain ⟨r0,r1,rf,_⟩:=rW.out w4 GW4.out;have rf0:=rf 0;have rf1:=rf 1;clear rf f4;go_wp2;refine bodyPost_ret (v:=.agg #[.int .i64 6,.int .i64 (i:Nat)]) (by simp [results,Tryz.results29,go_sem,r0,r1]) rfl ?_;have hf:=HF.out;have hwr:aC dio ⟨k,pa,pb,0,pd,v⟩ nodes=6:=wM (.inr (.inl hk)) hk hA hB (.inr hd);rw [HD.out,aA,hwr,if_neg (by decide)] at hf;exact ⟨by rw [HCK.out,<- hf],ah (ah (aa gW.out GW4.out) _ _ (by simp)) _ _ (by simp)⟩
       ·have hcn:(pc==0)=false:=by simpa using hc
        have e6:(k==6)=false:=by simp;omega
        have e7:(k==7)=false:=by simp;omega
        have e8:(k==8)=false:=by simp;omega
        have l4:decide (k<4)=false:=by simp;omega
        obtain ⟨pp0,pp1,pp2,pp3,pp4,pp5⟩:=PW.out W2 (ae _ _);have n0:=(rW.out W2 GW2.out).2.2.2;go_wp2_with fail;simp only [<- HW2.out];refine (aK pa nodes w.heap.size _ n0).mono ?_;rintro e wx ⟨rfl,rfl⟩;rw [hA];go_wp2_with fail;refine (aK pb nodes w.heap.size _ n0).mono ?_;rintro e wx ⟨rfl,rfl⟩;rw [hB];go_wp2_with fail;refine (ff 6 i _).mono ?_;rintro e w4 ⟨rfl,f4⟩;have GW4:=ab (aa GW2.out f4);obtain ⟨r0,r1,rf,_⟩:=rW.out w4 GW4.out;have rf0:=rf 0;have rf1:=rf 1;clear rf f4;go_wp2;refine bodyPost_ret (v:=.agg #[.int .i64 6,.int .i64 (i:Nat)]) (by simp [results,Tryz.results29,go_sem,r0,r1]) rfl ?_;have hf:=HF.out;have hwr:aC dio ⟨k,pa,pb,pc,pd,v⟩ nodes=6:=wM (.inr (.inl hk)) hk hA hB (.inl hc);rw [HD.out,aA,hwr,if_neg (by decide)] at hf;exact ⟨by rw [HCK.out,<- hf],ah (ah (aa gW.out GW4.out) _ _ (by simp)) _ _ (by simp)⟩
    ·skip;cases hA:cJ pa nodes with
     | false =>
      obtain ⟨pp0,pp1,pp2,pp3,pp4,pp5⟩:=PW.out W2 (ae _ _);have n0:=(rW.out W2 GW2.out).2.2.2;go_wp2_with fail;simp only [<- HW2.out];refine (aK pa nodes w.heap.size _ n0).mono ?_;rintro e wx ⟨rfl,rfl⟩;rw [hA];go_wp2_with fail;refine (ff 4 i _).mono ?_;rintro e w4 ⟨rfl,f4⟩;have GW4:=ab (aa GW2.out f4);obtain ⟨r0,r1,rf,_⟩:=rW.out w4 GW4.out;have rf0:=rf 0;have rf1:=rf 1;clear rf f4;go_wp2;refine bodyPost_ret (v:=.agg #[.int .i64 4,.int .i64 (i:Nat)]) (by simp [results,Tryz.results29,go_sem,r0,r1]) rfl ?_;have hf:=HF.out;have hwr:aC dio ⟨6,pa,pb,pc,pd,v⟩ nodes=4:=dX (.inr (.inr (.inl rfl))) (by simp [hA]);rw [HD.out,aA,hwr,if_neg (by decide)] at hf;exact ⟨by rw [HCK.out,<- hf],ah (ah (aa gW.out GW4.out) _ _ (by simp)) _ _ (by simp)⟩
     | true =>
      cases hB:cJ pb nodes with
      | false =>
       obtain ⟨pp0,pp1,pp2,pp3,pp4,pp5⟩:=PW.out W2 (ae _ _);have n0:=(rW.out W2 GW2.out).2.2.2;go_wp2_with fail;simp only [<- HW2.out];refine (aK pa nodes w.heap.size _ n0).mono ?_;rintro e wx ⟨rfl,rfl⟩;rw [hA];go_wp2_with fail;refine (aK pb nodes w.heap.size _ n0).mono ?_;rintro e wx ⟨rfl,rfl⟩;rw [hB];go_wp2_with fail;refine (ff 4 i _).mono ?_;rintro e w4 ⟨rfl,f4⟩;have GW4:=ab (aa GW2.out f4);obtain ⟨r0,r1,rf,_⟩:=rW.out w4 GW4.out;have rf0:=rf 0;have rf1:=rf 1;clear rf f4;go_wp2;refine bodyPost_ret (v:=.agg #[.int .i64 4,.int .i64 (i:Nat)]) (by simp [results,Tryz.results29,go_sem,r0,r1]) rfl ?_;have hf:=HF.out;have hwr:aC dio ⟨6,pa,pb,pc,pd,v⟩ nodes=4:=dX (.inr (.inr (.inl rfl))) (by simp [hB]);rw [HD.out,aA,hwr,if_neg (by decide)] at hf;exact ⟨by rw [HCK.out,<- hf],ah (ah (aa gW.out GW4.out) _ _ (by simp)) _ _ (by simp)⟩
      | true =>
       cases hC:cJ pc nodes with
       | false =>
        obtain ⟨pp0,pp1,pp2,pp3,pp4,pp5⟩:=PW.out W2 (ae _ _);have n0:=(rW.out W2 GW2.out).2.2.2;go_wp2_with fail;simp only [<- HW2.out];refine (aK pa nodes w.heap.size _ n0).mono ?_;rintro e wx ⟨rfl,rfl⟩;rw [hA];go_wp2_with fail;refine (aK pb nodes w.heap.size _ n0).mono ?_;rintro e wx ⟨rfl,rfl⟩;rw [hB];go_wp2_with fail;refine (aK pc nodes w.heap.size _ n0).mono ?_;rintro e wx ⟨rfl,rfl⟩;rw [hC];go_wp2_with fail;refine (ff 4 i _).mono ?_;rintro e w4 ⟨rfl,f4⟩;have GW4:=ab (aa GW2.out f4);obtain ⟨r0,r1,rf,_⟩:=rW.out w4 GW4.out;have rf0:=rf 0;have rf1:=rf 1;clear rf f4;go_wp2;refine bodyPost_ret (v:=.agg #[.int .i64 4,.int .i64 (i:Nat)]) (by simp [results,Tryz.results29,go_sem,r0,r1]) rfl ?_;have hf:=HF.out;have hwr:aC dio ⟨6,pa,pb,pc,pd,v⟩ nodes=4:=jJ (.inl rfl) (.inl hC);rw [HD.out,aA,hwr,if_neg (by decide)] at hf;exact ⟨by rw [HCK.out,<- hf],ah (ah (aa gW.out GW4.out) _ _ (by simp)) _ _ (by simp)⟩
       | true =>
        cases hD:cJ pd nodes with
        | false =>
         obtain ⟨pp0,pp1,pp2,pp3,pp4,pp5⟩:=PW.out W2 (ae _ _);have n0:=(rW.out W2 GW2.out).2.2.2;go_wp2_with fail;simp only [<- HW2.out];refine (aK pa nodes w.heap.size _ n0).mono ?_;rintro e wx ⟨rfl,rfl⟩;rw [hA];go_wp2_with fail;refine (aK pb nodes w.heap.size _ n0).mono ?_;rintro e wx ⟨rfl,rfl⟩;rw [hB];go_wp2_with fail;refine (aK pc nodes w.heap.size _ n0).mono ?_;rintro e wx ⟨rfl,rfl⟩;rw [hC];go_wp2_with fail;refine (aK pd nodes w.heap.size _ n0).mono ?_;rintro e wx ⟨rfl,rfl⟩;rw [hD];go_wp2_with fail;refine (ff 4 i _).mono ?_;rintro e w4 ⟨rfl,f4⟩;have GW4:=ab (aa GW2.out f4);obtain ⟨r0,r1,rf,_⟩:=rW.out w4 GW4.out;have rf0:=rf 0;have rf1:=rf 1;clear rf f4;go_wp2;refine bodyPost_ret (v:=.agg #[.int .i64 4,.int .i64 (i:Nat)]) (by simp [results,Tryz.results29,go_sem,r0,r1]) rfl ?_;have hf:=HF.out;have hwr:aC dio ⟨6,pa,pb,pc,pd,v⟩ nodes=4:=jJ (.inl rfl) (.inr hD);rw [HD.out,aA,hwr,if_neg (by decide)] at hf;exact ⟨by rw [HCK.out,<- hf],ah (ah (aa gW.out GW4.out) _ _ (by simp)) _ _ (by simp)⟩
        | true =>
         obtain ⟨pp0,pp1,pp2,pp3,pp4,pp5⟩:=PW.out W2 (ae _ _);have n0:=(rW.out W2 GW2.out).2.2.2;go_wp2_with fail;simp only [<- HW2.out];refine (aK pa nodes w.heap.size _ n0).mono ?_;rintro e wx ⟨rfl,rfl⟩;rw [hA];go_wp2_with fail;refine (aK pb nodes w.heap.size _ n0).mono ?_;rintro e wx ⟨rfl,rfl⟩;rw [hB];go_wp2_with fail;refine (aK pc nodes w.heap.size _ n0).mono ?_;rintro e wx ⟨rfl,rfl⟩;rw [hC];go_wp2_with fail;refine (aK pd nodes w.heap.size _ n0).mono ?_;rintro e wx ⟨rfl,rfl⟩;rw [hD];go_wp2;go_roundw
         case rel =>
          refine ⟨i+1,by omega,by go_num,?_,GW2.out⟩;have hf:=HF.out;have hwr:aC dio ⟨6,pa,pb,pc,pd,v⟩ nodes=0:=sV (.inl rfl) hA hB hC hD;rw [HD.out,aA,if_pos hwr] at hf;exact hf
         case measure=>simp [intOf];omega
    ·skip;cases hA:cJ pa nodes with
     | false =>
      obtain ⟨pp0,pp1,pp2,pp3,pp4,pp5⟩:=PW.out W2 (ae _ _);have n0:=(rW.out W2 GW2.out).2.2.2;go_wp2_with fail;simp only [<- HW2.out];refine (aK pa nodes w.heap.size _ n0).mono ?_;rintro e wx ⟨rfl,rfl⟩;rw [hA];go_wp2_with fail;refine (ff 4 i _).mono ?_;rintro e w4 ⟨rfl,f4⟩;have GW4:=ab (aa GW2.out f4);obtain ⟨r0,r1,rf,_⟩:=rW.out w4 GW4.out;have rf0:=rf 0;have rf1:=rf 1;clear rf f4;go_wp2;refine bodyPost_ret (v:=.agg #[.int .i64 4,.int .i64 (i:Nat)]) (by simp [results,Tryz.results29,go_sem,r0,r1]) rfl ?_;have hf:=HF.out;have hwr:aC dio ⟨7,pa,pb,pc,pd,v⟩ nodes=4:=dX (.inr (.inr (.inr (.inl rfl)))) (by simp [hA]);rw [HD.out,aA,hwr,if_neg (by decide)] at hf;exact ⟨by rw [HCK.out,<- hf],ah (ah (aa gW.out GW4.out) _ _ (by simp)) _ _ (by simp)⟩
     | true =>
      cases hB:cJ pb nodes with
      | false =>
       obtain ⟨pp0,pp1,pp2,pp3,pp4,pp5⟩:=PW.out W2 (ae _ _);have n0:=(rW.out W2 GW2.out).2.2.2;go_wp2_with fail;simp only [<- HW2.out];refine (aK pa nodes w.heap.size _ n0).mono ?_;rintro e wx ⟨rfl,rfl⟩;rw [hA];go_wp2_with fail;refine (aK pb nodes w.heap.size _ n0).mono ?_;rintro e wx ⟨rfl,rfl⟩;rw [hB];go_wp2_with fail;refine (ff 4 i _).mono ?_;rintro e w4 ⟨rfl,f4⟩;have GW4:=ab (aa GW2.out f4);obtain ⟨r0,r1,rf,_⟩:=rW.out w4 GW4.out;have rf0:=rf 0;have rf1:=rf 1;clear rf f4;go_wp2;refine bodyPost_ret (v:=.agg #[.int .i64 4,.int .i64 (i:Nat)]) (by simp [results,Tryz.results29,go_sem,r0,r1]) rfl ?_;have hf:=HF.out;have hwr:aC dio ⟨7,pa,pb,pc,pd,v⟩ nodes=4:=dX (.inr (.inr (.inr (.inl rfl)))) (by simp [hB]);rw [HD.out,aA,hwr,if_neg (by decide)] at hf;exact ⟨by rw [HCK.out,<- hf],ah (ah (aa gW.out GW4.out) _ _ (by simp)) _ _ (by simp)⟩
      | true =>
       cases hC:cJ pc nodes with
       | false =>
        obtain ⟨pp0,pp1,pp2,pp3,pp4,pp5⟩:=PW.out W2 (ae _ _);have n0:=(rW.out W2 GW2.out).2.2.2;go_wp2_with fail;simp only [<- HW2.out];refine (aK pa nodes w.heap.size _ n0).mono ?_;rintro e wx ⟨rfl,rfl⟩;rw [hA];go_wp2_with fail;refine (aK pb nodes w.heap.size _ n0).mono ?_;rintro e wx ⟨rfl,rfl⟩;rw [hB];go_wp2_with fail;refine (aK pc nodes w.heap.size _ n0).mono ?_;rintro e wx ⟨rfl,rfl⟩;rw [hC];go_wp2_with fail;refine (ff 4 i _).mono ?_;rintro e w4 ⟨rfl,f4⟩;have GW4:=ab (aa GW2.out f4);obtain ⟨r0,r1,rf,_⟩:=rW.out w4 GW4.out;have rf0:=rf 0;have rf1:=rf 1;clear rf f4;go_wp2;refine bodyPost_ret (v:=.agg #[.int .i64 4,.int .i64 (i:Nat)]) (by simp [results,Tryz.results29,go_sem,r0,r1]) rfl ?_;have hf:=HF.out;have hwr:aC dio ⟨7,pa,pb,pc,pd,v⟩ nodes=4:=jJ (.inr rfl) (.inl hC);rw [HD.out,aA,hwr,if_neg (by decide)] at hf;exact ⟨by rw [HCK.out,<- hf],ah (ah (aa gW.out GW4.out) _ _ (by simp)) _ _ (by simp)⟩
       | true =>
        cases hD:cJ pd nodes with
        | false =>
         obtain ⟨pp0,pp1,pp2,pp3,pp4,pp5⟩:=PW.out W2 (ae _ _);have n0:=(rW.out W2 GW2.out).2.2.2;go_wp2_with fail;simp only [<- HW2.out];refine (aK pa nodes w.heap.size _ n0).mono ?_;rintro e wx ⟨rfl,rfl⟩;rw [hA];go_wp2_with fail;refine (aK pb nodes w.heap.size _ n0).mono ?_;rintro e wx ⟨rfl,rfl⟩;rw [hB];go_wp2_with fail;refine (aK pc nodes w.heap.size _ n0).mono ?_;rintro e wx ⟨rfl,rfl⟩;rw [hC];go_wp2_with fail;refine (aK pd nodes w.heap.size _ n0).mono ?_;rintro e wx ⟨rfl,rfl⟩;rw [hD];go_wp2_with fail;refine (ff 4 i _).mono ?_;rintro e w4 ⟨rfl,f4⟩;have GW4:=ab (aa GW2.out f4);obtain ⟨r0,r1,rf,_⟩:=rW.out w4 GW4.out;have rf0:=rf 0;have rf1:=rf 1;clear rf f4;go_wp2;refine bodyPost_ret (v:=.agg #[.int .i64 4,.int .i64 (i:Nat)]) (by simp [results,Tryz.results29,go_sem,r0,r1]) rfl ?_;have hf:=HF.out;have hwr:aC dio ⟨7,pa,pb,pc,pd,v⟩ nodes=4:=jJ (.inr rfl) (.inr hD);rw [HD.out,aA,hwr,if_neg (by decide)] at hf;exact ⟨by rw [HCK.out,<- hf],ah (ah (aa gW.out GW4.out) _ _ (by simp)) _ _ (by simp)⟩
        | true =>
         obtain ⟨pp0,pp1,pp2,pp3,pp4,pp5⟩:=PW.out W2 (ae _ _);have n0:=(rW.out W2 GW2.out).2.2.2;go_wp2_with fail;simp only [<- HW2.out];refine (aK pa nodes w.heap.size _ n0).mono ?_;rintro e wx ⟨rfl,rfl⟩;rw [hA];go_wp2_with fail;refine (aK pb nodes w.heap.size _ n0).mono ?_;rintro e wx ⟨rfl,rfl⟩;rw [hB];go_wp2_with fail;refine (aK pc nodes w.heap.size _ n0).mono ?_;rintro e wx ⟨rfl,rfl⟩;rw [hC];go_wp2_with fail;refine (aK pd nodes w.heap.size _ n0).mono ?_;rintro e wx ⟨rfl,rfl⟩;rw [hD];go_wp2;go_roundw
         case rel =>
          refine ⟨i+1,by omega,by go_num,?_,GW2.out⟩;have hf:=HF.out;have hwr:aC dio ⟨7,pa,pb,pc,pd,v⟩ nodes=0:=sV (.inr rfl) hA hB hC hD;rw [HD.out,aA,if_pos hwr] at hf;exact hf
         case measure=>simp [intOf];omega
    ·skip;cases hA:cJ pa nodes with
     | false =>
      obtain ⟨pp0,pp1,pp2,pp3,pp4,pp5⟩:=PW.out W2 (ae _ _);have n0:=(rW.out W2 GW2.out).2.2.2;go_wp2_with fail;simp only [<- HW2.out];refine (aK pa nodes w.heap.size _ n0).mono ?_;rintro e wx ⟨rfl,rfl⟩;rw [hA];go_wp2_with fail;refine (ff 4 i _).mono ?_;rintro e w4 ⟨rfl,f4⟩;have GW4:=ab (aa GW2.out f4);obtain ⟨r0,r1,rf,_⟩:=rW.out w4 GW4.out;have rf0:=rf 0;have rf1:=rf 1;clear rf f4;go_wp2;refine bodyPost_ret (v:=.agg #[.int .i64 4,.int .i64 (i:Nat)]) (by simp [results,Tryz.results29,go_sem,r0,r1]) rfl ?_;have hf:=HF.out;have hwr:aC true ⟨8,pa,pb,pc,pd,v⟩ nodes=4:=dX (.inr (.inr (.inr (.inr ⟨rfl,rfl⟩)))) (by simp [hA]);rw [HD.out,aA,hwr,if_neg (by decide)] at hf;exact ⟨by rw [HCK.out,<- hf],ah (ah (aa gW.out GW4.out) _ _ (by simp)) _ _ (by simp)⟩
     | true =>
      cases hB:cJ pb nodes with
      | false =>
       obtain ⟨pp0,pp1,pp2,pp3,pp4,pp5⟩:=PW.out W2 (ae _ _);have n0:=(rW.out W2 GW2.out).2.2.2;go_wp2_with fail;simp only [<- HW2.out];refine (aK pa nodes w.heap.size _ n0).mono ?_;rintro e wx ⟨rfl,rfl⟩;rw [hA];go_wp2_with fail;refine (aK pb nodes w.heap.size _ n0).mono ?_;rintro e wx ⟨rfl,rfl⟩;rw [hB];go_wp2_with fail;refine (ff 4 i _).mono ?_;rintro e w4 ⟨rfl,f4⟩;have GW4:=ab (aa GW2.out f4);obtain ⟨r0,r1,rf,_⟩:=rW.out w4 GW4.out;have rf0:=rf 0;have rf1:=rf 1;clear rf f4;go_wp2;refine bodyPost_ret (v:=.agg #[.int .i64 4,.int .i64 (i:Nat)]) (by simp [results,Tryz.results29,go_sem,r0,r1]) rfl ?_;have hf:=HF.out;have hwr:aC true ⟨8,pa,pb,pc,pd,v⟩ nodes=4:=dX (.inr (.inr (.inr (.inr ⟨rfl,rfl⟩)))) (by simp [hB]);rw [HD.out,aA,hwr,if_neg (by decide)] at hf;exact ⟨by rw [HCK.out,<- hf],ah (ah (aa gW.out GW4.out) _ _ (by simp)) _ _ (by simp)⟩
      | true =>
       by_cases hc:pc=0
       ·by_cases hd:pd=0
        ·by_cases hv:v.data.toList=[]
         ·obtain rfl:v=⟨#[]⟩:=by rw [<- Lib.mk_data v,hv]
          subst hc hd;obtain ⟨pp0,pp1,pp2,pp3,pp4,pp5⟩:=PW.out W2 (ae _ _);have n0:=(rW.out W2 GW2.out).2.2.2;go_wp2_with fail;simp only [<- HW2.out];refine (aK pa nodes w.heap.size _ n0).mono ?_;rintro e wx ⟨rfl,rfl⟩;rw [hA];go_wp2_with fail;refine (aK pb nodes w.heap.size _ n0).mono ?_;rintro e wx ⟨rfl,rfl⟩;rw [hB];go_wp2;go_roundw
          case rel =>
           refine ⟨i+1,by omega,by go_num,?_,GW2.out⟩;have hf:=HF.out;have hwr:aC true ⟨8,pa,pb,0,0,⟨#[]⟩⟩ nodes=0:=wd8_ok hA hB;rw [HD.out,aA,if_pos hwr] at hf;exact hf
          case measure=>simp [intOf];omega
         ·have hve:=uP hv;subst hc hd;obtain ⟨pp0,pp1,pp2,pp3,pp4,pp5⟩:=PW.out W2 (ae _ _);have n0:=(rW.out W2 GW2.out).2.2.2;go_wp2_with fail;simp only [<- HW2.out];refine (aK pa nodes w.heap.size _ n0).mono ?_;rintro e wx ⟨rfl,rfl⟩;rw [hA];go_wp2_with fail;refine (aK pb nodes w.heap.size _ n0).mono ?_;rintro e wx ⟨rfl,rfl⟩;rw [hB];go_wp2_with fail;refine (ff 6 i _).mono ?_;rintro e w4 ⟨rfl,f4⟩;have GW4:=ab (aa GW2.out f4);obtain ⟨r0,r1,rf,_⟩:=rW.out w4 GW4.out;have rf0:=rf 0;have rf1:=rf 1;clear rf f4;go_wp2;refine bodyPost_ret (v:=.agg #[.int .i64 6,.int .i64 (i:Nat)]) (by simp [results,Tryz.results29,go_sem,r0,r1]) rfl ?_;have hf:=HF.out;have hwr:aC true ⟨8,pa,pb,0,0,v⟩ nodes=6:=wd8_val hA hB hv;rw [HD.out,aA,hwr,if_neg (by decide)] at hf;exact ⟨by rw [HCK.out,<- hf],ah (ah (aa gW.out GW4.out) _ _ (by simp)) _ _ (by simp)⟩
        ·have hdn:(pd==0)=false:=by simpa using hd
         subst hc;obtain ⟨pp0,pp1,pp2,pp3,pp4,pp5⟩:=PW.out W2 (ae _ _);have n0:=(rW.out W2 GW2.out).2.2.2;go_wp2_with fail;simp only [<- HW2.out];refine (aK pa nodes w.heap.size _ n0).mono ?_;rintro e wx ⟨rfl,rfl⟩;rw [hA];go_wp2_with fail;refine (aK pb nodes w.heap.size _ n0).mono ?_;rintro e wx ⟨rfl,rfl⟩;rw [hB];go_wp2_with fail;refine (ff 6 i _).mono ?_;rintro e w4 ⟨rfl,f4⟩;have GW4:=ab (aa GW2.out f4);obtain ⟨r0,r1,rf,_⟩:=rW.out w4 GW4.out;have rf0:=rf 0;have rf1:=rf 1;clear rf f4;go_wp2;refine bodyPost_ret (v:=.agg #[.int .i64 6,.int .i64 (i:Nat)]) (by simp [results,Tryz.results29,go_sem,r0,r1]) rfl ?_;have hf:=HF.out;have hwr:aC true ⟨8,pa,pb,0,pd,v⟩ nodes=6:=wL hA hB (.inr hd);rw [HD.out,aA,hwr,if_neg (by decide)] at hf;exact ⟨by rw [HCK.out,<- hf],ah (ah (aa gW.out GW4.out) _ _ (by simp)) _ _ (by simp)⟩
       ·have hcn:(pc==0)=false:=by simpa using hc
        obtain ⟨pp0,pp1,pp2,pp3,pp4,pp5⟩:=PW.out W2 (ae _ _);have n0:=(rW.out W2 GW2.out).2.2.2;go_wp2_with fail;simp only [<- HW2.out];refine (aK pa nodes w.heap.size _ n0).mono ?_;rintro e wx ⟨rfl,rfl⟩;rw [hA];go_wp2_with fail;refine (aK pb nodes w.heap.size _ n0).mono ?_;rintro e wx ⟨rfl,rfl⟩;rw [hB];go_wp2_with fail;refine (ff 6 i _).mono ?_;rintro e w4 ⟨rfl,f4⟩;have GW4:=ab (aa GW2.out f4);obtain ⟨r0,r1,rf,_⟩:=rW.out w4 GW4.out;have rf0:=rf 0;have rf1:=rf 1;clear rf f4;go_wp2;refine bodyPost_ret (v:=.agg #[.int .i64 6,.int .i64 (i:Nat)]) (by simp [results,Tryz.results29,go_sem,r0,r1]) rfl ?_;have hf:=HF.out;have hwr:aC true ⟨8,pa,pb,pc,pd,v⟩ nodes=6:=wL hA hB (.inl hc);rw [HD.out,aA,hwr,if_neg (by decide)] at hf;exact ⟨by rw [HCK.out,<- hf],ah (ah (aa gW.out GW4.out) _ _ (by simp)) _ _ (by simp)⟩
   ·have hdn:ps.drop i=[]:=List.drop_of_length_le (by omega);have HDN:=ab hdn;obtain ⟨r0,r1,rf,_⟩:=rW.out wr HGR.out;have rf0:=rf 0;have rf1:=rf 1;clear hdn HP rf;go_wp2;refine bodyPost_ret (v:=.agg #[.int .i64 0,.int .i64 0]) (by simp [results,Tryz.results29,go_sem,r0,r1]) rfl ?_;have hf:=HF.out;rw [HDN.out,aA] at hf;refine ⟨?_,?_⟩
    ·rw [HCK.out,<- hf]
    ·exact ah (ah (aa gW.out HGR.out) _ _ (by simp)) _ _ (by simp)
end Go.Proofs.YtcoeancbjafooaaGreatDoor
