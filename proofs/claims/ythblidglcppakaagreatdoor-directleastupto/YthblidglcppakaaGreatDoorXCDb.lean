/- Contracts that the proof leans on. -/
import Derived.Test.YthblidglcppakaaGreatDoorXCDa
import Derived.Test.YthblidglcppakaaGreatDoorXCSb
import Derived.Test.YthblidglcppakaaGreatDoorXCSe
namespace Go.Proofs.YthblidglcppakaaGreatDoor
open Go.RowKit
set_option linter.unusedVariables false
set_option linter.unusedSimpArgs false
set_option maxHeartbeats 8000000
set_option maxRecDepth 10000
def eW (w:World) (b:Nat) (x y:Int):Prop:=w.heap[b]? = some (Obj.cells #[.int .i64 x,.int .i64 y] 29 (0,0))
theorem eW.lt {w:World} {b:Nat} {x y:Int} (h:eW w b x y):b<w.heap.size:=(Array.getElem?_eq_some_iff.1 h).1
theorem eW.keep0 {w w':World} {b:Nat} {x y:Int} (h:eW w b x y) (g:w.grownBy w' none):eW w' b x y:=by
 have hl:=h.lt;unfold eW at h ⊢;rw [g.block b hl (by simp)];exact h
theorem eW.cells {w:World} {b:Nat} {x y:Int} (h:eW w b x y):w.cell? ⟨b,0,none⟩=some (.int .i64 x)/\w.cell? ⟨b,1,none⟩=some (.int .i64 y)/\w.frozen? ⟨b,0,none⟩=false/\w.frozen? ⟨b,1,none⟩=false:=by
 unfold eW at h;refine ⟨?_,?_,?_,?_⟩<;>simp [World.cell?,World.frozen?,h]
theorem eW.set {w:World} {b:Nat} {x y:Int} (h:eW w b x y) (u v:Int):eW ((w.setCell ⟨b,0,none⟩ (.int .i64 u)).setCell ⟨b,1,none⟩ (.int .i64 v)) b u v/\aX w ((w.setCell ⟨b,0,none⟩ (.int .i64 u)).setCell ⟨b,1,none⟩ (.int .i64 v)) b:=by
 refine ⟨?_,dP h rfl (fun z=>by simp) (fun z=>by simp) _ _⟩;unfold eW at h ⊢;have h1:=heap_setCell_same w b 0 _ _ (.int .i64 u) h;have h2:=heap_setCell_same (w.setCell ⟨b,0,none⟩ (.int .i64 u)) b 1 _ _ (.int .i64 v) h1;rw [h2];simp
def SeenE (w:World) (nodes:Int) (ps:List aI) (a b:Int) (e:Ending) (w':World):Prop :=
 ∃ (s1 s2:ByteArray) (c1 c2:Int),e=.returned (.tuple #[.string s1,.string s2,.agg #[.int .i64 c1,.int .i64 c2]])/\w.grownBy w' none /\
  (((bj false nodes ps).1≠0/\s1=⟨#[]⟩/\s2=⟨#[]⟩/\c1=(bj false nodes ps).1/\c2=(bj false nodes ps).2)
  ∨ ((bj false nodes ps).1=0/\(dH nodes.toNat ps.length a b).1≠0/\s1=⟨#[]⟩/\s2=⟨#[]⟩/\c1=(dH nodes.toNat ps.length a b).1/\c2=(dH nodes.toNat ps.length a b).2)
  ∨ ((bj false nodes ps).1=0/\(dH nodes.toNat ps.length a b).1=0/\c2=0/\s1=⟨#[]⟩/\s2=⟨#[]⟩/\((c1=7/\¬ ∃ V I,aM nodes.toNat ps V I)∨(c1=8/\∃ V I V' I',aM nodes.toNat ps V I/\aM nodes.toNat ps V' I'/\((∃ j,j<nodes.toNat/\V j≠V' j)∨∃ i,i<ps.length/\I i≠I' i))))
  ∨ ((bj false nodes ps).1=0/\(dH nodes.toNat ps.length a b).1=0/\c1=0/\c2=0/\∃ V I U J,aM nodes.toNat ps V I/\(∀ V' I',aM nodes.toNat ps V' I'->(∀ j,j<nodes.toNat->V' j=V j)/\∀ i,i<ps.length->I' i=I i)
    /\ aM nodes.toNat (bH ps a b) U J/\(∀ V' I',aM nodes.toNat (bH ps a b) V' I'->(∀ j,j<nodes.toNat->V' j=U j)/\∀ i,i<ps.length+1->I' i=J i)
    /\ s1=⟨(cP (V a.toNat-V b.toNat)).toArray⟩/\s2=⟨(cP (U a.toNat-U b.toNat)).toArray⟩))
theorem ends_ok {n k:Nat} {a b:Int} (h:(dH n k a b).1=0):(0<=a/\a<(n:Int))/\(0<=b/\b<(n:Int))/\(dH n k a b).2=0:=by
 unfold dH at h ⊢;split at h
 ·have h':(4:Int)=0:=h;omega
 ·rename_i h1;split at h
  ·have h':(4:Int)=0:=h;omega
  ·rename_i h2;rw [if_neg h1,if_neg h2];exact ⟨by omega,by omega,rfl⟩
theorem seen_at (nodes:Int) (po:Option Addr) (pc:Nat) (ps:List aI) (a b:Int) (L:Nat) (w:World) (hb:ia w) (ht:eY w) (hp:aK w (.slice po ps.length pc) ps) (hLs:∀ n,cm n ps->gw (dI n ps) (n+ps.length)<L) (hLp:∀ n,cm n ps->gw (dI n (bH ps a b)) (n+(ps.length+1))<L) (hL2:2<=L) (hL:L<=4000000) :
  Calls Tryz.prog 15 #[.agg #[.int .i64 nodes,.slice po ps.length pc],.int .i64 a,.int .i64 b] w fun e w'=>SeenE w nodes ps a b e w':=by
 have HB:=ab hb;have HT:=ab ht;have HP:=ab hp;have HLS:=ab hLs;have HLP:=ab hLp;obtain ⟨_,⟨mm,hmm⟩,_⟩:=id hb;have HMM:=ab hmm;clear hb ht hp hLs hLp hmm;obtain ⟨gF,hgF⟩:∃ gF,gF=w.heap.size+1:=⟨_,rfl⟩;obtain ⟨W,hW⟩:∃ W,W=(w.alloc (Obj.cells #[.int .i64 nodes,.slice po ps.length pc] 24)).alloc (Obj.cells #[.int .i64 0,.int .i64 0] 29):=⟨_,rfl⟩;have GW:Hid (w.grownBy W none):=by rw [hW];exact ag (ag (ae _ _) _) _
 have HWS:Hid (W.heap.size=w.heap.size+2):=by show _=_;rw [hW];simp
 have NC:Hid (∀ wx,W.grownBy wx (some gF)->wx.cell? ⟨w.heap.size,0,none⟩=some (.int .i64 nodes)/\wx.cell? ⟨w.heap.size,1,none⟩=some (.slice po ps.length pc)):=by
  intro wx hg;rw [hW] at hg;have n1:some w.heap.size≠some gF:=fun e=>by have:=Option.some.inj e;omega
  exact ⟨hg.cell (by go_simp) n1,hg.cell (by go_simp) n1⟩
 have F0:Hid (eW W gF 0 0):=by
  show eW _ _ _ _
  unfold eW;rw [hgF,hW];have:=heap_alloc_new (w.alloc (Obj.cells #[.int .i64 nodes,.slice po ps.length pc] 24)) (Obj.cells #[.int .i64 0,.int .i64 0] 29);simpa using this
 have HGF:=ab hgF;obtain ⟨n0,n1⟩:=NC.out W (ae _ _);go_enter Tryz.func15,Tryz.ntmps15
 go_upto_region 1 with fail;rw [<- hW];try rw [<- hgF]
 clear hW hgF;go_wp2_with fail;refine (qL nodes _ ps W (HB.out.keep GW.out) (HP.out.keep GW.out)).mono ?_;rintro e w1 ⟨rfl,g1⟩;obtain ⟨C1,hC1⟩:∃ C1,C1=(bj false nodes ps).1:=⟨_,rfl⟩;obtain ⟨C2,hC2⟩:∃ C2,C2=(bj false nodes ps).2:=⟨_,rfl⟩;rw [<- hC1,<- hC2];have HC1:=ab hC1;have HC2:=ab hC2;have G1:=ab g1;have F1:=ab (F0.out.keep0 g1);obtain ⟨c0,c1,c2,c3⟩:=F1.out.cells;clear g1 hC1 hC2 n0 n1;go_upto_region 2 with fail;have GB:Hid (∀ wx,W.grownBy wx (some gF)->w.grownBy wx none):=fun wx hg=>aq (r:=none) GW.out hg (fun _ _ e=>e) (fun k hk e=>by have:=Option.some.inj e;have:=HGF.out;omega)
 obtain ⟨f2,r2⟩:=F1.out.set C1 C2;obtain ⟨w2,hw2⟩:∃ w2,w2=(w1.setCell ⟨gF,0,none⟩ (.int .i64 C1)).setCell ⟨gF,1,none⟩ (.int .i64 C2):=⟨_,rfl⟩;rw [<- hw2] at f2 r2 ⊢;have F2:=ab f2;have G2:Hid (W.grownBy w2 (some gF)):=aq (r:=some gF) G1.out r2.1 (fun _ _ e=>by cases e) (fun _ _ e=>e);clear f2 r2 hw2 c0 c1 c2 c3 F1;obtain ⟨c0,c1,c2,c3⟩:=F2.out.cells;have SZ2:Hid (W.heap.size<=w2.heap.size):=G2.out.size;by_cases h0:C1=0
 ·have hcz:(bj false nodes ps).1=0:=by rw [<- HC1.out];exact h0
  obtain ⟨r1,r2,r3,_⟩:=mg hcz;obtain ⟨n,rfl⟩:∃ n:Nat,nodes=(n:Int):=⟨_,r2⟩;rw [Int.toNat_natCast] at r1;have HR:=ab r1;have HCZ:=ab hcz;subst h0;clear r1 r2 hcz;obtain ⟨n0,n1⟩:=NC.out w2 G2.out;go_wp2_with fail;refine (ends_at n ps.length po pc a b w2 (by omega)).mono ?_;rintro e w3 ⟨rfl,g3⟩;obtain ⟨E1,hE1⟩:∃ E1,E1=(dH n ps.length a b).1:=⟨_,rfl⟩;obtain ⟨E2,hE2⟩:∃ E2,E2=(dH n ps.length a b).2:=⟨_,rfl⟩;rw [<- hE1,<- hE2];have HE1:=ab hE1;have HE2:=ab hE2;have F3:=ab (F2.out.keep0 g3);have G3:Hid (W.grownBy w3 (some gF)):=aq (r:=some gF) G2.out g3 (fun _ _ e=>e) (fun _ _ e=>by cases e);clear g3 hE1 hE2 n0 n1 c0 c1 c2 c3 F2 G2;obtain ⟨c0,c1,c2,c3⟩:=F3.out.cells;go_upto_region 5 with fail;obtain ⟨f4,r4⟩:=F3.out.set E1 E2;obtain ⟨w4,hw4⟩:∃ w4,w4=(w3.setCell ⟨gF,0,none⟩ (.int .i64 E1)).setCell ⟨gF,1,none⟩ (.int .i64 E2):=⟨_,rfl⟩;rw [<- hw4] at f4 r4 ⊢;have F4:=ab f4;have G4:Hid (W.grownBy w4 (some gF)):=aq (r:=some gF) G3.out r4.1 (fun _ _ e=>e) (fun _ _ e=>e);clear f4 r4 hw4 c0 c1 c2 c3 F3;obtain ⟨c0,c1,c2,c3⟩:=F4.out.cells;by_cases he0:E1=0
  ·have hez:(dH n ps.length a b).1=0:=by rw [<- HE1.out];exact he0
   obtain ⟨q1,q2,q3⟩:=ends_ok hez;obtain ⟨i,rfl⟩:∃ i:Nat,a=(i:Int):=⟨a.toNat,by omega⟩;obtain ⟨j,rfl⟩:∃ j:Nat,b=(j:Int):=⟨b.toNat,by omega⟩;have hin:i<n:=by omega
   have hjn:j<n:=by omega
   have HEZ:=ab hez;have HQ:=ab (xu HR.out (by omega) q1 q2);subst he0;clear hez q1 q2 q3;obtain ⟨n0,n1⟩:=NC.out w4 G4.out;have SZ4:Hid (gF<w4.heap.size):=F4.out.lt;go_wp2_with fail;refine (jS n po pc ps mm L w4 ((GB.out w4 G4.out).cell HMM.out (by simp)) (HP.out.keep (GB.out w4 G4.out)) HR.out (HLS.out n HR.out) hL2 (by omega)).mono ?_;rintro e w5 (⟨v1,v2,V,I,rfl,p1,p2,p3,p4,p5⟩ | ⟨rfl,p3,p5⟩ | ⟨rfl,p3,p5⟩)
   ·obtain ⟨ao1,cc1,rfl,hc1,hc2,hr1⟩:=id p1;obtain ⟨ao2,cc2,rfl,hd1,hd2,_⟩:=id p2;have hn0:0<n:=by omega
    obtain ⟨g1,rfl,hg1,fr1⟩:=hr1 hn0;have P3:=ab p3;have P4:=ab p4;have HFX:=ab (wI (BB p3 p4) (i:Int) (j:Int));have F5:=ab ((F4.out.keep0 p5).keep0 (ag (ae _ none) (Obj.cells #[.slice (some ⟨g1,0,none⟩) n cc1,.slice ao2 ps.length cc2] 62)));have G5:Hid (W.grownBy (w5.alloc (Obj.cells #[.slice (some ⟨g1,0,none⟩) n cc1,.slice ao2 ps.length cc2] 62)) (some gF)):=aq (r:=some gF) G4.out (aa p5 (ag (ae _ none) _)) (fun _ _ e=>e) (fun _ _ e=>by cases e);clear n0 n1 c0 c1 c2 c3;obtain ⟨c0,c1,c2,c3⟩:=F5.out.cells;have nzF:gF≠w5.heap.size:=by have:=F4.out.lt;have:=p5.size;omega
    go_upto_region 8 with fail;obtain ⟨f6,r6⟩:=F5.out.set 0 0;obtain ⟨w6,hw6⟩:∃ w6,w6=((w5.alloc (Obj.cells #[.slice (some ⟨g1,0,none⟩) n cc1,.slice ao2 ps.length cc2] 62)).setCell ⟨gF,0,none⟩ (.int .i64 0)).setCell ⟨gF,1,none⟩ (.int .i64 0):=⟨_,rfl⟩;rw [<- hw6] at f6 r6 ⊢;have F6:=ab f6;have R6:=ab r6;have G6:Hid (W.grownBy w6 (some gF)):=aq (r:=some gF) G5.out r6.1 (fun _ _ e=>e) (fun _ _ e=>e);clear f6 r6 hw6 c0 c1 c2 c3;obtain ⟨c0,c1,c2,c3⟩:=F6.out.cells;have FV1:Hid (aH w6 g1 n V L):=(fr1.keep0 (ag (ae _ none) _)).keep R6.out.1 R6.out.2 (fun e=>by have:=Option.some.inj e;have:=SZ4.out;omega);have HC2':=ab hc2;have CA:Hid (w6.cell? ⟨w5.heap.size,0,none⟩=some (.slice (some ⟨g1,0,none⟩) n cc1)/\w6.cell? ⟨w5.heap.size,1,none⟩=some (.slice ao2 ps.length cc2)):=by
     have n1:some w5.heap.size≠some gF:=fun e=>nzF (Option.some.inj e).symm
     exact ⟨R6.out.1.cell (by go_simp) n1,R6.out.1.cell (by go_simp) n1⟩
    obtain ⟨ga,hga⟩:∃ ga,ga=w5.heap.size:=⟨_,rfl⟩;rw [<- hga] at CA ⊢;have HGA:Hid (ga≠gF/\ga<w6.heap.size):=⟨by rw [hga];exact fun e=>nzF e.symm,cV CA.out.1⟩;clear p1 p2 p3 p4 p5 hr1 fr1 F5 G5 R6 hga nzF;unfold maxLen at hc2 hd2;obtain ⟨n0,n1⟩:=NC.out w6 G6.out;go_wp2_with fail;refine (Am n po pc ps (i:Int) (j:Int) w6 (HP.out.keep (GB.out w6 G6.out)) (by omega)).mono ?_;rintro e w7 ⟨qo,qc,rfl,q1,g7⟩;have Q1:=ab q1;have G7:=ab g7;have hpl:(bH ps (i:Int) (j:Int)).length=ps.length+1:=by simp [bH]
    have HPL:=ab hpl;clear q1 g7 hpl n0 n1 c0 c1 c2 c3;go_wp2_with fail;rw [<- HPL.out];refine (jS n qo qc (bH ps (i:Int) (j:Int)) mm L w7 ((aa (GB.out w6 G6.out) G7.out).cell HMM.out (by simp)) (by rw [HPL.out];exact Q1.out) HQ.out (by rw [HPL.out];exact HLP.out n HR.out) hL2 (by omega)).mono ?_;rintro e w8 (⟨u1,u2,U,J,rfl,p1,p2,p3,p4,p5⟩ | ⟨rfl,p3,p5⟩ | ⟨rfl,p3,p5⟩)
    ·obtain ⟨ao3,cc3,rfl,hc3,hc4,hr2⟩:=id p1;obtain ⟨ao4,cc4,rfl,hd3,hd4,_⟩:=id p2;obtain ⟨g2,rfl,hg2,fr2⟩:=hr2 hn0;have U3:=ab p3;have U4:=ab p4;have HC4':=ab hc4;have G8:=ab (aa G7.out p5);rw [HPL.out];clear p1 p2 p3 p4 p5 hr2;unfold maxLen at hc4 hd4;go_upto_region 11 with fail;obtain ⟨w9,hw9⟩:∃ w9,w9=(w8.alloc (Obj.cells #[.slice (some ⟨g2,0,none⟩) n cc3,.slice ao4 (ps.length+1) cc4] 62)).alloc (Obj.cells #[.int .i64 0,.int .i64 0] 29):=⟨_,rfl⟩;obtain ⟨gb,hgb⟩:∃ gb,gb=w8.heap.size:=⟨_,rfl⟩;have G89:Hid (w8.grownBy w9 none):=by rw [hw9];exact ag (ag (ae _ _) _) _
     have G9:Hid (w6.grownBy w9 none):=aa G8.out G89.out;have CB:Hid (w9.cell? ⟨gb,0,none⟩=some (.slice (some ⟨g2,0,none⟩) n cc3)/\w9.cell? ⟨gb,1,none⟩=some (.slice ao4 (ps.length+1) cc4)):=by
      rw [hw9,hgb];exact ⟨by go_simp,by go_simp⟩
     have FU9:Hid (aH w9 g2 n U L):=fr2.keep0 G89.out;have FV9:Hid (aH w9 g1 n V L):=FV1.out.keep0 G9.out;have F9:Hid (eW w9 gF 0 0):=F6.out.keep0 G9.out;have GA:Hid (w.grownBy w9 none):=aa (GB.out w6 G6.out) G9.out;have CZ:Hid (∀ wx,w9.grownBy wx none->wx.cell? ⟨ga,0,none⟩=some (.slice (some ⟨g1,0,none⟩) n cc1)/\wx.cell? ⟨ga,1,none⟩=some (.slice ao2 ps.length cc2)/\wx.cell? ⟨gb,0,none⟩=some (.slice (some ⟨g2,0,none⟩) n cc3)/\wx.cell? ⟨gb,1,none⟩=some (.slice ao4 (ps.length+1) cc4)):=by
      intro wx hg;exact ⟨hg.cell (G9.out.cell CA.out.1 (by simp)) (by simp),hg.cell (G9.out.cell CA.out.2 (by simp)) (by simp),hg.cell CB.out.1 (by simp),hg.cell CB.out.2 (by simp)⟩
     have CF:Hid (∀ wx,w9.grownBy wx none->wx.cell? ⟨gF,0,none⟩=some (.int .i64 0)/\wx.cell? ⟨gF,1,none⟩=some (.int .i64 0)/\wx.frozen? ⟨gF,0,none⟩=false/\wx.frozen? ⟨gF,1,none⟩=false):=fun wx hg=>(F9.out.keep0 hg).cells
     have nzb:gF≠gb:=by rw [hgb];have:=(F6.out.keep0 G8.out).lt;omega
     have nza:gF≠ga:=fun e=>HGA.out.1 e.symm
     rw [<- hw9];try rw [<- hgb]
     clear hw9 hgb fr2;have GG:w9.grownBy w9 none:=ae _ _;obtain ⟨s0,s1,s2,s3⟩:=CZ.out w9 GG;obtain ⟨y0,y1,y2,y3⟩:=CF.out w9 GG;go_region_held3 (fun w'=>w'.cell? ⟨ga,0,none⟩=some (.slice (some ⟨g1,0,none⟩) n cc1)/\w'.cell? ⟨ga,1,none⟩=some (.slice ao2 ps.length cc2)/\w'.cell? ⟨gb,0,none⟩=some (.slice (some ⟨g2,0,none⟩) n cc3)/\w'.cell? ⟨gb,1,none⟩=some (.slice ao4 (ps.length+1) cc4)) (go_keep)
      (first | (go_at_call_of 44 (Value.agg #[.slice (some ⟨g1,0,none⟩) n cc1,.slice ao2 ps.length cc2]);refine (oM g1 n cc1 ao2 ps.length cc2 V i j L _ (FV9.out.keep0 (by first | exact aa GG (aj _) | exact aa GG ah | exact GG)) hin hjn hc1 HC2'.out (by omega)).mono ?_;rintro e wa ⟨va,rfl,pa,ga⟩;obtain ⟨xao,xal,xac,xao2,xal2,xac2,rfl⟩:=pa.shape;have KP:=aa (by first | exact aj _ | exact ah | exact ae _ _) ga;(try have pb:=pb.keep0 KP);clear KP;have GG:w9.grownBy wa none:=aa (by first | exact aa GG (aj _) | exact aa GG ah | exact GG) ga;obtain ⟨za0,za1,za2,za3⟩:=CZ.out wa GG) | (go_at_call 44;refine (oM g2 n cc3 ao4 (ps.length+1) cc4 U i j L _ (FU9.out.keep0 (by first | exact aa GG (aj _) | exact aa GG ah | exact GG)) hin hjn hc3 HC4'.out (by omega)).mono ?_;rintro e wb ⟨vb,rfl,pb,gb⟩;obtain ⟨xbo,xbl,xbc,xbo2,xbl2,xbc2,rfl⟩:=pb.shape;have KP:=aa (by first | exact aj _ | exact ah | exact ae _ _) gb;(try have pa:=pa.keep0 KP);clear KP;have GG:w9.grownBy wb none:=aa (by first | exact aa GG (aj _) | exact aa GG ah | exact GG) gb;obtain ⟨zb0,zb1,zb2,zb3⟩:=CZ.out wb GG) | (go_at_call_of 45 (Value.agg #[.bool (rB (V i-V j)),.slice xao xal xac,.slice xao2 xal2 xac2]);refine (Bx _ (V i-V j) (L+L+2) _ (pa.keep0 (by first | exact aj _ | exact ah | exact ae _ _)) (by omega) (HT.out.keep0 (aa GA.out (by first | exact aa GG (aj _) | exact aa GG ah | exact GG)))).mono ?_;rintro e wc ⟨rfl,gc⟩;have KP:=aa (by first | exact aj _ | exact ah | exact ae _ _) gc;(try have pb:=pb.keep0 KP);clear KP;have GG:w9.grownBy wc none:=aa (by first | exact aa GG (aj _) | exact aa GG ah | exact GG) gc;obtain ⟨zc0,zc1,zc2,zc3⟩:=CZ.out wc GG;obtain ⟨yc0,yc1,yc2,yc3⟩:=CF.out wc GG) | (go_at_call_of 45 (Value.agg #[.bool (rB (U i-U j)),.slice xbo xbl xbc,.slice xbo2 xbl2 xbc2]);refine (Bx _ (U i-U j) (L+L+2) _ (pb.keep0 (by first | exact aj _ | exact ah | exact ae _ _)) (by omega) (HT.out.keep0 (aa GA.out (by first | exact aa GG (aj _) | exact aa GG ah | exact GG)))).mono ?_;rintro e wd ⟨rfl,gd⟩;have KP:=aa (by first | exact aj _ | exact ah | exact ae _ _) gd;(try have pa:=pa.keep0 KP);clear KP;have GG:w9.grownBy wd none:=aa (by first | exact aa GG (aj _) | exact aa GG ah | exact GG) gd;obtain ⟨zd0,zd1,zd2,zd3⟩:=CZ.out wd GG;obtain ⟨yd0,yd1,yd2,yd3⟩:=CF.out wd GG))
     all_goals
      have GF:=ab GG;have gg:=(F9.out.keep0 GG).set 0 0;have GS:=ab gg;clear GG gg;go_wp2;refine bodyPost_ret (v:=.tuple #[.string ⟨(cP (V i-V j)).toArray⟩,.string ⟨(cP (U i-U j)).toArray⟩,.agg #[.int .i64 0,.int .i64 0]]) (by simp [results,Tryz.results15,go_sem,y0,y1,yc0,yc1,yd0,yd1]) rfl ?_;refine ⟨_,_,_,_,rfl,(aq (r:=none) (aa GA.out GF.out) (by first | exact GS.out.2.1 | exact ar GS.out.2.1 1) (fun _ _ e=>e) (fun k hk e=>by have:=Option.some.inj e;have:=HGF.out;omega)),.inr (.inr (.inr ⟨HCZ.out,?_,rfl,rfl,V,I,U,J,?_⟩))⟩
      ·rw [Int.toNat_natCast];exact HEZ.out
      ·simp only [Int.toNat_natCast];refine ⟨P3.out,P4.out,U3.out,?_,by first | rfl | trivial,by first | rfl | trivial⟩;have:=U4.out;rw [HPL.out] at this;exact this
    ·exfalso
     obtain ⟨V',I',h1,_⟩:=me HQ.out HFX.out;exact p3 ⟨V',I',h1⟩
    ·exfalso
     obtain ⟨V',I',h1,h2⟩:=me HQ.out HFX.out;obtain ⟨A,B,A',B',k1,k2,k3⟩:=p3;have e1:=h2 _ _ k1;have e2:=h2 _ _ k2;rcases k3 with ⟨t,ht,hne⟩ | ⟨t,ht,hne⟩
     ·exact hne (by rw [e1.1 t ht,e2.1 t ht])
     ·exact hne (by rw [e1.2 t ht,e2.2 t ht])
   ·have P3:=ab p3;have F5:=ab ((F4.out.keep0 p5).keep0 (ag (ae _ none) (Obj.cells #[.slice none 0 0,.slice none 0 0] 62)));have G5:Hid (W.grownBy (w5.alloc (Obj.cells #[.slice none 0 0,.slice none 0 0] 62)) (some gF)):=aq (r:=some gF) G4.out (aa p5 (ag (ae _ none) _)) (fun _ _ e=>e) (fun _ _ e=>by cases e);clear n0 n1 c0 c1 c2 c3;obtain ⟨c0,c1,c2,c3⟩:=F5.out.cells;have nzF:gF≠w5.heap.size:=by have:=F4.out.lt;have:=p5.size;omega
    go_upto_region 8 with fail;obtain ⟨f6,r6⟩:=F5.out.set 7 0;obtain ⟨w6,hw6⟩:∃ w6,w6=((w5.alloc (Obj.cells #[.slice none 0 0,.slice none 0 0] 62)).setCell ⟨gF,0,none⟩ (.int .i64 7)).setCell ⟨gF,1,none⟩ (.int .i64 0):=⟨_,rfl⟩;rw [<- hw6] at f6 r6 ⊢;have F6:=ab f6;have R6:=ab r6;have G6:Hid (W.grownBy w6 (some gF)):=aq (r:=some gF) G5.out r6.1 (fun _ _ e=>e) (fun _ _ e=>e);clear f6 r6 hw6 c0 c1 c2 c3;obtain ⟨c0,c1,c2,c3⟩:=F6.out.cells;clear p3 p5;go_wp2;go_region
    all_goals
     go_wp2;refine bodyPost_ret (v:=.tuple #[.string ⟨#[]⟩,.string ⟨#[]⟩,.agg #[.int .i64 7,.int .i64 0]]) (by simp [results,Tryz.results15,go_sem,c0,c1]) rfl ?_;have gg:=F6.out.set 7 0;exact ⟨_,_,_,_,rfl,(aq (r:=none) (GB.out w6 G6.out) (by first | exact gg.2.1 | exact ar gg.2.1 1 | exact aq (r2:=none) gg.2.1 ah (fun _ _ e=>e) (fun _ _ e=>by cases e)) (fun _ _ e=>e) (fun k hk e=>by have:=Option.some.inj e;have:=HGF.out;omega)),.inr (.inr (.inl ⟨HCZ.out,by rw [Int.toNat_natCast];exact HEZ.out,rfl,rfl,rfl,.inl ⟨rfl,by rw [Int.toNat_natCast];exact P3.out⟩⟩))⟩
   ·have P3:=ab p3;have F5:=ab ((F4.out.keep0 p5).keep0 (ag (ae _ none) (Obj.cells #[.slice none 0 0,.slice none 0 0] 62)));have G5:Hid (W.grownBy (w5.alloc (Obj.cells #[.slice none 0 0,.slice none 0 0] 62)) (some gF)):=aq (r:=some gF) G4.out (aa p5 (ag (ae _ none) _)) (fun _ _ e=>e) (fun _ _ e=>by cases e);clear n0 n1 c0 c1 c2 c3;obtain ⟨c0,c1,c2,c3⟩:=F5.out.cells;have nzF:gF≠w5.heap.size:=by have:=F4.out.lt;have:=p5.size;omega
    go_upto_region 8 with fail;obtain ⟨f6,r6⟩:=F5.out.set 8 0;obtain ⟨w6,hw6⟩:∃ w6,w6=((w5.alloc (Obj.cells #[.slice none 0 0,.slice none 0 0] 62)).setCell ⟨gF,0,none⟩ (.int .i64 8)).setCell ⟨gF,1,none⟩ (.int .i64 0):=⟨_,rfl⟩;rw [<- hw6] at f6 r6 ⊢;have F6:=ab f6;have R6:=ab r6;have G6:Hid (W.grownBy w6 (some gF)):=aq (r:=some gF) G5.out r6.1 (fun _ _ e=>e) (fun _ _ e=>e);clear f6 r6 hw6 c0 c1 c2 c3;obtain ⟨c0,c1,c2,c3⟩:=F6.out.cells;clear p3 p5;go_wp2;go_region
    all_goals
     go_wp2;refine bodyPost_ret (v:=.tuple #[.string ⟨#[]⟩,.string ⟨#[]⟩,.agg #[.int .i64 8,.int .i64 0]]) (by simp [results,Tryz.results15,go_sem,c0,c1]) rfl ?_;have gg:=F6.out.set 8 0;exact ⟨_,_,_,_,rfl,(aq (r:=none) (GB.out w6 G6.out) (by first | exact gg.2.1 | exact ar gg.2.1 1 | exact aq (r2:=none) gg.2.1 ah (fun _ _ e=>e) (fun _ _ e=>by cases e)) (fun _ _ e=>e) (fun k hk e=>by have:=Option.some.inj e;have:=HGF.out;omega)),.inr (.inr (.inl ⟨HCZ.out,by rw [Int.toNat_natCast];exact HEZ.out,rfl,rfl,rfl,.inr ⟨rfl,by rw [Int.toNat_natCast];exact P3.out⟩⟩))⟩
  ·have hne:(E1 != 0)=true:=by simp [he0]
   have hneq:(E1==0)=false:=by simp [he0]
   have H0:=ab he0;go_wp2;go_region
   all_goals
    go_wp2;refine bodyPost_ret (v:=.tuple #[.string ⟨#[]⟩,.string ⟨#[]⟩,.agg #[.int .i64 E1,.int .i64 E2]]) (by simp [results,Tryz.results15,go_sem,c0,c1]) rfl ?_;have gg:=F4.out.set E1 E2;refine ⟨_,_,_,_,rfl,(aq (r:=none) (GB.out w4 G4.out) (by first | exact gg.2.1 | exact ar gg.2.1 1 | exact aq (r2:=none) gg.2.1 ah (fun _ _ e=>e) (fun _ _ e=>by cases e)) (fun _ _ e=>e) (fun k hk e=>by have:=Option.some.inj e;have:=HGF.out;omega)),.inr (.inl ⟨HCZ.out,by rw [Int.toNat_natCast,<- HE1.out];exact H0.out,rfl,rfl,by rw [Int.toNat_natCast,<- HE1.out],by rw [Int.toNat_natCast,<- HE2.out]⟩)⟩
 ·have hne:(C1 != 0)=true:=by simp [h0]
  have hneq:(C1==0)=false:=by simp [h0]
  have H0:=ab h0;go_wp2;go_region
  all_goals
   go_wp2;refine bodyPost_ret (v:=.tuple #[.string ⟨#[]⟩,.string ⟨#[]⟩,.agg #[.int .i64 C1,.int .i64 C2]]) (by simp [results,Tryz.results15,go_sem,c0,c1]) rfl ?_;have gg:=F2.out.set C1 C2;refine ⟨_,_,_,_,rfl,(aq (r:=none) (GB.out w2 G2.out) (by first | exact gg.2.1 | exact ar gg.2.1 1 | exact aq (r2:=none) gg.2.1 ah (fun _ _ e=>e) (fun _ _ e=>by cases e)) (fun _ _ e=>e) (fun k hk e=>by have:=Option.some.inj e;have:=HGF.out;omega)),.inl ⟨by rw [<- HC1.out];exact H0.out,rfl,rfl,by rw [<- HC1.out],by rw [<- HC2.out]⟩⟩
def kU:List aI:=[⟨4,1,0,0,0,⟨#[49,48]⟩⟩,⟨1,1,2,0,0,⟨#[50]⟩⟩,⟨1,2,0,0,0,⟨#[51]⟩⟩]
theorem ofR_two:dN [50]=2:=by unfold dN;decide +kernel
theorem Ae:dN [51]=3:=by unfold dN;decide +kernel
theorem rA:bj false 3 kU=(0,0):=by decide +kernel
def V0:Nat->Rat:=fun j=>if j=1 then 10 else if j=2 then 6 else 0
def I0:Nat->Rat:=fun i=>if i=0 then -2 else 2
def U0:Nat->Rat:=fun j=>if j=2 then 6 / 5 else 0
def J0:Nat->Rat:=fun i=>if i=0 then 3 / 5 else if i=1 then -(3 / 5) else if i=2 then 2 / 5 else 1
theorem ps0_hom (V I:Nat->Rat) (h:jM 3 kU V I):(∀ j,j<3->V j=0)/\∀ i,i<3->I i=0:=by
 have g:=h.gnd;have n1:bC (fun i=>cW kU i 1*I i) 3=0:=h.node 1 (by omega) (by omega);have n2:bC (fun i=>cW kU i 2*I i) 3=0:=h.node 2 (by omega) (by omega);have p0:=h.part 0 (by decide);have p1:=h.part 1 (by decide);have p2:=h.part 2 (by decide);have a01:cW kU 0 1=1:=by decide +kernel
 have a11:cW kU 1 1=1:=by decide +kernel
 have a21:cW kU 2 1=0:=by decide +kernel
 have a02:cW kU 0 2=0:=by decide +kernel
 have a12:cW kU 1 2 = -1:=by decide +kernel
 have a22:cW kU 2 2=1:=by decide +kernel
 rw [aP,aP,aP,a01,a11,a21] at n1;rw [aP,aP,aP,a02,a12,a22] at n2;have z1:bC (fun i=>cW kU i 1*I i) 0=0:=rfl;have z2:bC (fun i=>cW kU i 2*I i) 0=0:=rfl;rw [z1] at n1;rw [z2] at n2;have q1:(1:Rat)*(V 1-V 0)+0*(V 0-V 0)+0*I 0=0:=p0;have q2:(1:Rat)*(V 1-V 2)+0*(V 0-V 0)+(0-dN [50])*I 1=0:=p1;have q3:(1:Rat)*(V 2-V 0)+0*(V 0-V 0)+(0-dN [51])*I 2=0:=p2;rw [ofR_two] at q2;rw [Ae] at q3;have e1:I 1=0:=by grind
 have e0:I 0=0:=by grind
 have e2:I 2=0:=by grind
 have f1:V 1=0:=by grind
 have f2:V 2=0:=by grind
 refine ⟨fun j hj=>?_,fun i hi=>?_⟩
 ·match j,hj with
  | 0,_=>exact g
  | 1,_=>exact f1
  | 2,_=>exact f2
 ·match i,hi with
  | 0,_=>exact e0
  | 1,_=>exact e1
  | 2,_=>exact e2
theorem sG:aM 3 kU V0 I0:=by
 refine ⟨rfl,fun r h0 hn=>?_,fun i hi=>?_⟩
 ·have:r=1∨r=2:=by omega
  rcases this with rfl | rfl<;>decide +kernel
 ·have hi3:i<3:=hi;match i,hi3 with
  | 0,_=>exact (by decide +kernel:dg 4 (dN [49,48])*(V0 1-V0 0)+dh 4 (dN [49,48])*(V0 0-V0 0)+dp 4 (dN [49,48])*I0 0=dV 4 (dN [49,48]))
  | 1,_=>exact (by decide +kernel:dg 1 (dN [50])*(V0 1-V0 2)+dh 1 (dN [50])*(V0 0-V0 0)+dp 1 (dN [50])*I0 1=dV 1 (dN [50]))
  | 2,_=>exact (by decide +kernel:dg 1 (dN [51])*(V0 2-V0 0)+dh 1 (dN [51])*(V0 0-V0 0)+dp 1 (dN [51])*I0 2=dV 1 (dN [51]))
theorem Cs:bH kU 2 0=[⟨4,1,0,0,0,⟨#[48]⟩⟩,⟨1,1,2,0,0,⟨#[50]⟩⟩,⟨1,2,0,0,0,⟨#[51]⟩⟩,⟨5,0,2,0,0,⟨#[49]⟩⟩]:=rfl
theorem uL:aM 3 (bH kU 2 0) U0 J0:=by
 rw [Cs];refine ⟨rfl,fun r h0 hn=>?_,fun i hi=>?_⟩
 ·have:r=1∨r=2:=by omega
  rcases this with rfl | rfl<;>decide +kernel
 ·have hi3:i<4:=hi;match i,hi3 with
  | 0,_=>exact (by decide +kernel:dg 4 (dN [48])*(U0 1-U0 0)+dh 4 (dN [48])*(U0 0-U0 0)+dp 4 (dN [48])*J0 0=dV 4 (dN [48]))
  | 1,_=>exact (by decide +kernel:dg 1 (dN [50])*(U0 1-U0 2)+dh 1 (dN [50])*(U0 0-U0 0)+dp 1 (dN [50])*J0 1=dV 1 (dN [50]))
  | 2,_=>exact (by decide +kernel:dg 1 (dN [51])*(U0 2-U0 0)+dh 1 (dN [51])*(U0 0-U0 0)+dp 1 (dN [51])*J0 2=dV 1 (dN [51]))
  | 3,_=>exact (by decide +kernel:dg 5 (dN [49])*(U0 0-U0 2)+dh 5 (dN [49])*(U0 0-U0 0)+dp 5 (dN [49])*J0 3=dV 5 (dN [49]))
theorem jr:∀ V' I',aM 3 kU V' I'->(∀ j,j<3->V' j=V0 j)/\∀ i,i<3->I' i=I0 i:=by
 intro V' I' h;obtain ⟨h1,h2⟩:=ps0_hom _ _ (h.sub sG);refine ⟨fun j hj=>?_,fun i hi=>?_⟩
 ·have:V' j-V0 j=0:=h1 j hj;grind
 ·have:I' i-I0 i=0:=h2 i hi;grind
theorem Cu {c1 c2:Int} {n1 n2:Nat} {V I:Nat->Rat} (h:ta 3 kU c1 c2 n1 n2 V I):c1=0/\c2=0/\cG V n1=[⟨#[48]⟩,⟨#[49,48]⟩,⟨#[54]⟩]/\cG I n2=[⟨#[45,50]⟩,⟨#[50]⟩,⟨#[50]⟩]:=by
 rcases h with ⟨h,_⟩ | ⟨_,h2,(⟨rfl,h3,h4,h5,h6⟩ | ⟨_,_,_,h5⟩ | ⟨_,_,_,h5⟩)⟩
 ·exact absurd (by rw [rA]) h
 ·obtain ⟨k1,k2⟩:=jr V I h5;have e1:n1=3:=h3;have e2:n2=3:=h4;refine ⟨rfl,h2,?_,?_⟩
  ·rw [e1];have:cG V 3=cG V0 3:=List.map_congr_left (fun j hj=>by rw [k1 j (List.mem_range.1 hj)]);rw [this];decide +kernel
  ·rw [e2];have:cG I 3=cG I0 3:=List.map_congr_left (fun j hj=>by rw [k2 j (List.mem_range.1 hj)]);rw [this];decide +kernel
 ·exact absurd ⟨_,_,sG⟩ h5
 ·exfalso
  obtain ⟨A,B,A',B',k1,k2,k3⟩:=h5;have e1:=jr _ _ k1;have e2:=jr _ _ k2;rcases k3 with ⟨t,ht,hne⟩ | ⟨t,ht,hne⟩
  ·exact hne (by rw [e1.1 t ht,e2.1 t ht])
  ·exact hne (by rw [e1.2 t ht,e2.2 t ht])
theorem yU {x y:ByteArray} (h:x.toList=y.toList):x=y:=by
 rw [ByteArray.toList_eq,ByteArray.toList_eq] at h;cases x
 cases y
 congr 1
 exact Array.ext' h
def EquR (W:World) (xs ys:List ByteArray) (v:Value) (wr:World):Prop:=∃ i:Nat,i<=xs.length/\v=.int .i64 i/\(∀ j,j<i->xs[j]? = ys[j]?)/\W.grownBy wr none
theorem q8 (v1 v2:Value) (xs ys:List ByteArray) (w:World) (h1:ee sv w v1 xs) (h2:ee sv w v2 ys) (hl:xs.length<=100000) (hl2:ys.length<=100000) :
  Calls Tryz.prog 16 #[v1,v2] w fun e w'=>e=.returned (.bool (decide (xs=ys)))/\w.grownBy w' none:=by
 obtain ⟨ao,cap,rfl,a1,a2,a3⟩:=h1;obtain ⟨bo,cap2,rfl,b1,b2,b3⟩:=h2;unfold maxLen at a2 b2;have A3:=ab a3;have B3:=ab b3;clear a3 b3;by_cases hlen:xs.length=ys.length
 ·have HLEN:=ab hlen;have hneq:(((xs.length:Nat):Int)==((ys.length:Nat):Int))=true:=by rw [hlen];simp
  rw [<- hlen];have hcc:xs.length<=cap2:=by omega
  clear hlen hneq;go_enter Tryz.func16,Tryz.ntmps16
  go_wp2;go_loopw [13] (fun v wr=>Hid (EquR w xs ys v wr)) (fun v _=>xs.length-(intOf v).toNat)
  case atStart=>exact ⟨0,by omega,rfl,fun j hj=>by omega,ae _ _⟩
  case round =>
   obtain ⟨i,hi,rfl,l1,l2⟩:=hrel.out;have L1:=ab l1;have L2:=ab l2;clear l1 l2 hrel;by_cases hlt:i<xs.length
   ·have hlt2:i<ys.length:=by have:=HLEN.out;omega
    obtain ⟨b,off,rfl,hb,ca⟩:=A3.out i hlt;obtain ⟨b',off',rfl,hb',cb⟩:=B3.out i hlt2;obtain ⟨x,hx⟩:∃ x,x=xs[i]:=⟨_,rfl⟩;obtain ⟨y,hy⟩:∃ y,y=ys[i]:=⟨_,rfl⟩;rw [<- hx] at ca;rw [<- hy] at cb;have c1:=L2.out.cell ca (by simp);have c2:=L2.out.cell cb (by simp);have HX:=ab hx;have HY:=ab hy;have hi1:(0:Int)<=(i:Int):=by omega
    have hi2:(i:Int)<(xs.length:Int):=by omega
    clear ca cb hx hy;by_cases hxy:x=y
    ·subst hxy;go_wp2;go_region
     all_goals
      go_wp2;go_roundw
      case rel =>
       refine ⟨i+1,by omega,by go_num,fun j hj=>?_,by first | exact aa L2.out ah | exact aa L2.out (aj _) | exact L2.out⟩;by_cases e:j=i
       ·subst e;rw [List.getElem?_eq_getElem hlt,List.getElem?_eq_getElem hlt2,<- HX.out,<- HY.out]
       ·exact L1.out j (by omega)
      case measure=>simp [intOf];omega
    ·have hne:(x.toList==y.toList)=false:=beq_eq_false_iff_ne.2 (fun e=>hxy (yU e));have HXY:=ab hxy;go_wp2;go_region
     all_goals
      go_wp2;go_ret;refine ⟨?_,by first | exact aa L2.out ah | exact aa L2.out (aj _) | exact L2.out⟩;have:xs≠ys:=by
       intro e;apply HXY.out;rw [HX.out,HY.out];subst e;rfl
      rw [decide_eq_false this];rfl
   ·obtain rfl:i=xs.length:=by omega
    go_wp2;go_ret;refine ⟨?_,L2.out⟩;have:xs=ys:=by
     apply List.ext_getElem?
     intro j;by_cases hj:j<xs.length
     ·exact L1.out j hj
     ·rw [List.getElem?_eq_none (by omega),List.getElem?_eq_none (by have:=HLEN.out;omega)]
    rw [decide_eq_true this];rfl
 ·have hneq:(((xs.length:Nat):Int)==((ys.length:Nat):Int))=false:=by
   apply beq_eq_false_iff_ne.2;omega
  have hne:xs≠ys:=fun e=>hlen (by rw [e])
  rw [decide_eq_false hne];clear hlen hne;go_enter Tryz.func16,Tryz.ntmps16
  go_wp2;go_ret;exact ⟨rfl,ae _ _⟩
theorem pK (w:World) (t:TypeId) (x y z:ByteArray):ee sv (w.alloc (Obj.cells #[.string x,.string y,.string z] t)) (.slice (some ⟨w.heap.size,0,none⟩) 3 3) [x,y,z]:=by
 refine ⟨_,3,rfl,Nat.le_refl 3,by unfold maxLen;omega,fun i hi=>⟨w.heap.size,0,rfl,by simp,?_⟩⟩;have hn:=heap_alloc_new w (Obj.cells #[.string x,.string y,.string z] t);have hi3:i<3:=hi;simp only [World.cell?,hn,Nat.zero_add];match i,hi3 with
 | 0,_=>rfl
 | 1,_=>rfl
 | 2,_=>rfl
theorem ly (k a b:Int) (s:ByteArray) (w:World) :
  Calls Tryz.prog 14 #[.int .i64 k,.int .i64 a,.int .i64 b,.string s] w fun e w'=>e=.returned (.agg #[.int .i64 k,.int .i64 a,.int .i64 b,.int .i64 0,.int .i64 0,.string s])/\w.grownBy w' none:=by
 go_enter Tryz.func14,Tryz.ntmps14
 go_wp2;refine bodyPost_ret (v:=.agg #[.int .i64 k,.int .i64 a,.int .i64 b,.int .i64 0,.int .i64 0,.string s]) (by simp [results,Tryz.results14,go_sem]) rfl ?_;exact ⟨rfl,ag (ae _ _) _⟩
def cS (ps:List aI):Nat:=(ps.map fun p=>p.v.size).sum
theorem pY (n:Nat) (ps:List aI):gw (dI n ps) (n+ps.length)=n+4*ps.length+2*cS ps:=by
 have h0:∀ k,k<=n->gw (dI n ps) k=k:=by
  intro k;induction k with
  | zero=>intro _;rfl
  | succ k ih =>
   intro hk;unfold gw;have e:dI n ps k=0:=by unfold dI;rw [if_pos (by omega)]
   rw [ih (by omega),e]
 have h1:∀ k,k<=ps.length->gw (dI n ps) (n+k)=n+4*k+2*cS (ps.take k):=by
  intro k;induction k with
  | zero=>intro _;rw [Nat.add_zero,h0 n (Nat.le_refl _)];simp [cS]
  | succ k ih =>
   intro hk;show gw (dI n ps) (n+k)+(1+dI n ps (n+k))=_
   have e:dI n ps (n+k)=2*(ps[k].v.size+1)+1:=by
    unfold dI;rw [if_neg (by omega),show n+k-n=k by omega,List.getElem?_eq_getElem (by omega)]
   have e2:cS (ps.take (k+1))=cS (ps.take k)+ps[k].v.size:=by
    unfold cS;rw [List.take_succ_eq_append_getElem (by omega),List.map_append,List.sum_append];simp
   rw [ih (by omega),e,e2];omega
 have:=h1 ps.length (Nat.le_refl _);rw [List.take_length] at this;exact this
theorem vG (ps:List aI) (a b:Int):cS (bH ps a b)<=cS ps+ps.length+1:=by
 unfold bH cS;rw [List.map_append,List.sum_append];have:∀ qs:List aI,((qs.map bw).map fun p=>p.v.size).sum<=(qs.map fun p=>p.v.size).sum+qs.length:=by
  intro qs;induction qs with
  | nil=>simp
  | cons q r ih =>
   have hq:(bw q).v.size<=q.v.size+1:=by
    unfold bw;split
    ·show (1:Nat)<=_;omega
    ·omega
   simp only [List.map_cons,List.sum_cons,List.length_cons];omega
 have h1:=this ps;have h2:(([⟨5,b,a,0,0,⟨#[49]⟩⟩]:List aI).map fun p=>p.v.size).sum=1:=rfl;omega
theorem uM (ps:List aI) (a b:Int):(bH ps a b).length=ps.length+1:=by simp [bH]
theorem Az (n:Nat) (ps:List aI) (a b:Int):gw (dI n (bH ps a b)) (n+(ps.length+1))<=n+6*(ps.length+1)+2*cS ps:=by
 have h:=pY n (bH ps a b);rw [uM] at h;have:=vG ps a b;omega
theorem Ct {w w':World} {e:Ending} (h:SeenE w 3 kU 2 0 e w'):e=.returned (.tuple #[.string ⟨#[54]⟩,.string ⟨#[54,47,53]⟩,.agg #[.int .i64 0,.int .i64 0]])/\w.grownBy w' none:=by
 obtain ⟨s1,s2,c1,c2,rfl,g,hc⟩:=h;refine ⟨?_,g⟩;rcases hc with ⟨h,_⟩ | ⟨_,h,_⟩ | ⟨_,_,_,_,_,(⟨_,h⟩ | ⟨_,h⟩)⟩ | ⟨_,_,rfl,rfl,V,I,U,J,k1,k2,k3,k4,rfl,rfl⟩
 ·exact absurd (by rw [rA]) h
 ·exact absurd (by decide) h
 ·exact absurd ⟨_,_,sG⟩ h
 ·exfalso
  obtain ⟨A,B,A',B',k1,k2,k3⟩:=h;have e1:=jr _ _ k1;have e2:=jr _ _ k2;rcases k3 with ⟨t,ht,hne⟩ | ⟨t,ht,hne⟩
  ·exact hne (by rw [e1.1 t ht,e2.1 t ht])
  ·exact hne (by rw [e1.2 t ht,e2.2 t ht])
 ·have v2:V 2=V0 2:=(jr V I k1).1 2 (by decide);have v0:V 0=V0 0:=(jr V I k1).1 0 (by decide);have u2:U0 2=U 2:=(k4 U0 J0 uL).1 2 (by decide);have u0:U0 0=U 0:=(k4 U0 J0 uL).1 0 (by decide);have e1:V (2:Int).toNat-V (0:Int).toNat=V0 2-V0 0:=by show V 2-V 0=_;rw [v2,v0]
  have e2:U (2:Int).toNat-U (0:Int).toNat=U0 2-U0 0:=by show U 2-U 0=_;rw [u2,u0]
  rw [e1,e2];have q1:(cP (V0 2-V0 0)).toArray=#[54]:=by decide +kernel
  have q2:(cP (U0 2-U0 0)).toArray=#[54,47,53]:=by decide +kernel
  rw [q1,q2]
theorem wD (w:World) (hb:ia w) (ht:eY w):Calls Tryz.prog 4 #[] w fun e w'=>e=.returned (.bool true)/\w.grownBy w' none:=by
 have HB:=ab hb;have HT:=ab ht;clear hb ht;go_enter Tryz.func4,Tryz.ntmps4
 go_wp2_with fail;refine (ly 4 1 0 _ _).mono ?_;rintro e w1 ⟨rfl,g1⟩;have G1:=ab g1;clear g1;go_wp2_with fail;refine (ly 1 1 2 _ _).mono ?_;rintro e w2 ⟨rfl,g2⟩;have G2:=ab (aa G1.out g2);clear g2 G1;go_wp2_with fail;refine (ly 1 2 0 _ _).mono ?_;rintro e w3 ⟨rfl,g3⟩;have G3:=ab (aa G2.out g3);clear g3 G2;go_upto_region 2 with fail;obtain ⟨gp,hgp⟩:∃ gp,gp=w3.heap.size:=⟨_,rfl⟩;obtain ⟨gn,hgn⟩:∃ gn,gn=w3.heap.size+1:=⟨_,rfl⟩;obtain ⟨w4,hw4⟩:∃ w4,w4=(w3.alloc (Obj.cells #[.int .i64 4,.int .i64 1,.int .i64 0,.int .i64 0,.int .i64 0,.string ⟨#[49,48]⟩,.int .i64 1,.int .i64 1,.int .i64 2,.int .i64 0,.int .i64 0,.string ⟨#[50]⟩,.int .i64 1,.int .i64 2,.int .i64 0,.int .i64 0,.int .i64 0,.string ⟨#[51]⟩] 34)).alloc (Obj.cells #[.int .i64 3,.slice (some ⟨w3.heap.size,0,none⟩) 3 3] 24):=⟨_,rfl⟩;have G4:Hid (w.grownBy w4 none):=by rw [hw4];exact aa G3.out (ag (ag (ae _ _) _) _)
 have NC:Hid (∀ wx,w4.grownBy wx none->wx.cell? ⟨gn,0,none⟩=some (.int .i64 3)/\wx.cell? ⟨gn,1,none⟩=some (.slice (some ⟨gp,0,none⟩) 3 3)):=by
  intro wx hg;rw [hw4] at hg;rw [hgn,hgp];exact ⟨hg.cell (by go_simp) (by simp),hg.cell (by go_simp) (by simp)⟩
 have PA:Hid (aK w4 (.slice (some ⟨gp,0,none⟩) 3 3) kU):=by
  have hh:w4.heap[gp]? = some (Obj.cells (bh kU).toArray 34 (0,0)):=by
   rw [hw4,hgp,heap_alloc_old _ _ (by simp)];exact heap_alloc_new w3 _
  refine j9 (Array.getElem?_eq_some_iff.1 hh).1 rfl (by decide) (by unfold maxLen;omega) (fun i hi=>?_) (fun j hj=>?_)
  ·have hi3:i<3:=hi;match i,hi3 with
   | 0,_=>exact (by decide:(2:Nat)<=600000000)
   | 1,_=>exact (by decide:(1:Nat)<=600000000)
   | 2,_=>exact (by decide:(1:Nat)<=600000000)
  ·simp only [World.cell?,hh];rw [List.getElem?_toArray];rfl
 rw [<- hw4];try rw [<- hgn]
 try rw [<- hgp]
 clear hw4 hgn hgp;have HLS:Hid (∀ n,cm n kU->gw (dI n kU) (n+kU.length)<4000000):=by
  intro n hR;rw [pY];have:=hR.hi;have e:cS kU=4:=rfl;have e2:kU.length=3:=rfl;omega
 have HLP:Hid (∀ n,cm n kU->gw (dI n (bH kU 2 0)) (n+(kU.length+1))<4000000):=by
  intro n hR;have h:=Az n kU 2 0;have:=hR.hi;have e:cS kU=4:=rfl;have e2:kU.length=3:=rfl;omega
 obtain ⟨n0,n1⟩:=NC.out w4 (ae _ _);go_wp2_with fail;refine (CW 3 (some ⟨gp,0,none⟩) 3 kU 4000000 w4 (HB.out.keep G4.out) (HT.out.keep0 G4.out) PA.out HLS.out (by decide) (by decide)).mono ?_;rintro e w5 ⟨c1,c2,m1,m2,V,I,vv,iv,rfl,o1,o2,sp,g5⟩;obtain ⟨rfl,rfl,t1,t2⟩:=Cu sp;rw [t1] at o1;rw [t2] at o2;obtain ⟨a1,k1,rfl⟩:=o1.shape;obtain ⟨a2,k2,rfl⟩:=o2.shape;have O1:=ab o1.row;have O2:=ab o2.row;have G5:=ab g5;simp only [List.length_cons,List.length_nil,Nat.zero_add,Nat.reduceAdd] at O1 O2 ⊢;clear o1 o2 sp g5 t1 t2 n0 n1;go_upto_region 3 with fail;obtain ⟨ga,hga⟩:∃ ga,ga=w5.heap.size:=⟨_,rfl⟩;obtain ⟨gf,hgf⟩:∃ gf,gf=w5.heap.size+1:=⟨_,rfl⟩;obtain ⟨w6,hw6⟩:∃ w6,w6=(w5.alloc (Obj.cells #[.slice a1 3 k1,.slice a2 3 k2] 36)).alloc (Obj.cells #[.int .i64 0,.int .i64 0] 29):=⟨_,rfl⟩;have G56:Hid (w5.grownBy w6 none):=by rw [hw6];exact ag (ag (ae _ _) _) _
 have AC:Hid (∀ wx,w6.grownBy wx none->wx.cell? ⟨ga,0,none⟩=some (.slice a1 3 k1)/\wx.cell? ⟨ga,1,none⟩=some (.slice a2 3 k2)/\wx.cell? ⟨gf,0,none⟩=some (.int .i64 0)):=by
  intro wx hg;rw [hw6] at hg;rw [hga,hgf];exact ⟨hg.cell (by go_simp) (by simp),hg.cell (by go_simp) (by simp),hg.cell (by go_simp) (by simp)⟩
 have G46:Hid (w4.grownBy w6 none):=aa G5.out G56.out;have G6:Hid (w.grownBy w6 none):=aa G4.out G46.out;rw [<- hw6];try rw [<- hgf]
 try rw [<- hga]
 clear hw6 hga hgf;obtain ⟨n0,n1⟩:=NC.out w6 G46.out;go_wp2_with fail;refine (seen_at 3 (some ⟨gp,0,none⟩) 3 kU 2 0 4000000 w6 (HB.out.keep G6.out) (HT.out.keep0 G6.out) (PA.out.keep G46.out) HLS.out HLP.out (by decide) (by decide)).mono ?_;intro e w7 hse;obtain ⟨rfl,g7⟩:=Ct hse;have G7:=ab g7;clear hse g7 n0 n1;go_upto_region 4 with fail;obtain ⟨g8,hg8⟩:∃ g8,g8=w7.heap.size:=⟨_,rfl⟩;obtain ⟨w8,hw8⟩:∃ w8,w8=w7.alloc (Obj.cells #[.int .i64 0,.int .i64 0] 29):=⟨_,rfl⟩;have G78:Hid (w7.grownBy w8 none):=by rw [hw8];exact ag (ae _ _) _
 have BC:Hid (∀ wx,w8.grownBy wx none->wx.cell? ⟨g8,0,none⟩=some (.int .i64 0)):=by
  intro wx hg;rw [hw8] at hg;rw [hg8];exact hg.cell (by go_simp) (by simp)
 have G68:Hid (w6.grownBy w8 none):=aa G7.out G78.out;rw [<- hw8];try rw [<- hg8]
 clear hw8 hg8;obtain ⟨b0,b1,b2⟩:=AC.out w8 G68.out;have b3:=BC.out w8 (ae _ _);go_wp2_with fail;refine (q8 _ _ [⟨#[48]⟩,⟨#[49,48]⟩,⟨#[54]⟩] [⟨#[48]⟩,⟨#[49,48]⟩,⟨#[54]⟩] _ (O1.out.keep (aa G56.out (aa G68.out (ag (ae _ _) _)))) (pK w8 _ _ _ _) (by decide) (by decide)).mono ?_;rintro e w9 ⟨rfl,g9⟩;rw [decide_eq_true rfl];have G9:=ab (aa (ag (ae w8 none) _) g9);clear g9 b0 b1 b2 b3;obtain ⟨b0,b1,b2⟩:=AC.out w9 (aa G68.out G9.out);have b3:=BC.out w9 G9.out;go_wp2_with fail;refine (q8 _ _ [⟨#[45,50]⟩,⟨#[50]⟩,⟨#[50]⟩] [⟨#[45,50]⟩,⟨#[50]⟩,⟨#[50]⟩] _ (O2.out.keep (aa G56.out (aa G68.out (aa G9.out (ag (ae _ _) _))))) (pK w9 _ _ _ _) (by decide) (by decide)).mono ?_;rintro e w10 ⟨rfl,g10⟩;rw [decide_eq_true rfl];have G10:=ab (aa G9.out (aa (ag (ae w9 none) _) g10));clear g10 b0 b1 b2 b3;go_wp2;go_ret;exact ⟨rfl,aa G6.out (aa G68.out G10.out)⟩
end Go.Proofs.YthblidglcppakaaGreatDoor
