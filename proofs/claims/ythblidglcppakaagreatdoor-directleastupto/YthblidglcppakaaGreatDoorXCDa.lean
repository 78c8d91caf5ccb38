/- Contracts that the proof leans on. -/
import Derived.Test.YthblidglcppakaaGreatDoorXCSn
import Derived.Test.YthblidglcppakaaGreatDoorXCSb
import Derived.Test.YthblidglcppakaaGreatDoorXCNb
import Derived.Test.YthblidglcppakaaGreatDoorXCFd
import Derived.Test.YthblidglcppakaaGreatDoorXCSe
namespace Go.Proofs.YthblidglcppakaaGreatDoor
open Go.RowKit
set_option linter.unusedVariables false
set_option linter.unusedSimpArgs false
set_option maxHeartbeats 8000000
set_option maxRecDepth 10000
theorem o9 (w:World) (a b c:Obj):(((w.alloc a).alloc b).alloc c).heap[w.heap.size+1]? = some b/\(((w.alloc a).alloc b).alloc c).heap[w.heap.size+2]? = some c:=by
 have s1:(w.alloc a).heap.size=w.heap.size+1:=by simp
 have s2:((w.alloc a).alloc b).heap.size=w.heap.size+2:=by simp
 have h1:=heap_alloc_new (w.alloc a) b;rw [s1] at h1;have h2:=heap_alloc_new ((w.alloc a).alloc b) c;rw [s2] at h2;exact ⟨by rw [heap_alloc_old _ _ (by rw [s2];omega)];exact h1,h2⟩
theorem dP {w:World} {b:Nat} {cur:Array Value} {e:TypeId} (hb:w.heap[b]? = some (.cells cur e (0,0))) {x y:Value} (hc:cur=#[x,y]) (nx:∀ z:Nat,x≠.int .u32 (z:Nat)) (ny:∀ z:Nat,y≠.int .u32 (z:Nat)) (u v:Value) :
  aX w ((w.setCell ⟨b,0,none⟩ u).setCell ⟨b,1,none⟩ v) b:=by
 subst hc;have h1:=heap_setCell_same w b 0 _ e u hb;refine (aX.set hb (fun z ez=>?_) u).trans (aX.set h1 (fun z ez=>?_) v)
 ·simp at ez;exact nx z ez
 ·simp at ez;exact ny z ez
theorem bZ.keepB {w w':World} {base b:Nat} {v:Value} {n:Nat} {R:Nat->Rat} {L:Nat} (h:bZ w base v n R L) (g:aX w w' b) (hb:b<base):bZ w' base v n R L:=by
 obtain ⟨ao,c,e,h1,h2,h3⟩:=h;refine ⟨ao,c,e,h1,h2,fun h0=>?_⟩;obtain ⟨k,e1,e2,e3⟩:=h3 h0;exact ⟨k,e1,e2,e3.keep g.1 g.2 (fun e=>by have:=Option.some.inj e;omega)⟩
def LawsE (fb:Bool) (fo fo2:Option Addr) (fl fc fl2 fc2:Nat) (w:World) (e:Ending) (w':World):Prop :=
 ∃ bf bop bs bz:Nat,e=.returned (.func (.func 107) #[] #[.pointer (some ⟨bf,0,none⟩),.pointer (some ⟨bop,0,none⟩),.pointer (some ⟨bs,0,none⟩)])/\(w'.cell? ⟨bf,0,none⟩=some (.bool fb)/\w'.cell? ⟨bf,1,none⟩=some (.slice fo fl fc)/\w'.cell? ⟨bf,2,none⟩=some (.slice fo2 fl2 fc2)/\w'.cell? ⟨bf,3,none⟩=some (.func (.func 99) #[] #[])/\w'.cell? ⟨bf,4,none⟩=some (.func (.func 100) #[] #[])/\w'.cell? ⟨bf,5,none⟩=some (.func (.func 81) #[] #[])/\w'.cell? ⟨bf,6,none⟩=some (.func (.func 101) #[] #[])/\w'.cell? ⟨bf,7,none⟩=some (.func (.func 102) #[] #[])/\w'.cell? ⟨bf,8,none⟩=some (.func (.func 103) #[] #[])/\w'.cell? ⟨bf,9,none⟩=some (.func (.func 104) #[] #[])/\w'.cell? ⟨bf,10,none⟩=some (.func (.func 105) #[] #[]))/\w'.cell? ⟨bop,0,none⟩=some (.func (.func 106) #[] #[.pointer (some ⟨bf,0,none⟩),.pointer (some ⟨bz,0,none⟩)])/\(w'.cell? ⟨bs,0,none⟩=some (.bool false)/\w'.cell? ⟨bs,1,none⟩=some (.slice none 0 0)/\w'.cell? ⟨bs,2,none⟩=some (.slice none 0 0))/\(w'.cell? ⟨bz,0,none⟩=some (.bool false)/\w'.cell? ⟨bz,1,none⟩=some (.slice none 0 0)/\w'.cell? ⟨bz,2,none⟩=some (.slice none 0 0))/\w.grownBy w' none
theorem laws_at (fb:Bool) (fo fo2:Option Addr) (fl fc fl2 fc2:Nat) (w:World) :
  Calls Tryz.prog 78 #[(jI fb (.slice fo fl fc) (.slice fo2 fl2 fc2)),.agg #[.bool false,.slice none 0 0,.slice none 0 0]] w fun e w'=>LawsE fb fo fo2 fl fc fl2 fc2 w e w':=by
 obtain ⟨W,hW⟩:∃ W,W=((w.alloc (Obj.cells #[.bool fb,.slice fo fl fc,.slice fo2 fl2 fc2,.func (.func 99) #[] #[],.func (.func 100) #[] #[],.func (.func 81) #[] #[],.func (.func 101) #[] #[],.func (.func 102) #[] #[],.func (.func 103) #[] #[],.func (.func 104) #[] #[],.func (.func 105) #[] #[]] 126)).alloc (Obj.cells #[.bool false,.slice none 0 0,.slice none 0 0] 91)).alloc (Obj.cells #[.bool false,.slice none 0 0,.slice none 0 0] 91):=⟨_,rfl⟩;have GW:Hid (w.grownBy W none):=by rw [hW];exact ag (ag (ag (ae _ _) _) _) _
 have HWS:Hid (W.heap.size=w.heap.size+3):=by show _=_;rw [hW];simp
 have CX:Hid (∀ wx,W.grownBy wx none->(wx.cell? ⟨w.heap.size,0,none⟩=some (.bool fb)/\wx.cell? ⟨w.heap.size,1,none⟩=some (.slice fo fl fc)/\wx.cell? ⟨w.heap.size,2,none⟩=some (.slice fo2 fl2 fc2)/\wx.cell? ⟨w.heap.size,3,none⟩=some (.func (.func 99) #[] #[])/\wx.cell? ⟨w.heap.size,4,none⟩=some (.func (.func 100) #[] #[])/\wx.cell? ⟨w.heap.size,5,none⟩=some (.func (.func 81) #[] #[])/\wx.cell? ⟨w.heap.size,6,none⟩=some (.func (.func 101) #[] #[])/\wx.cell? ⟨w.heap.size,7,none⟩=some (.func (.func 102) #[] #[])/\wx.cell? ⟨w.heap.size,8,none⟩=some (.func (.func 103) #[] #[])/\wx.cell? ⟨w.heap.size,9,none⟩=some (.func (.func 104) #[] #[])/\wx.cell? ⟨w.heap.size,10,none⟩=some (.func (.func 105) #[] #[]))/\(wx.cell? ⟨w.heap.size+1,0,none⟩=some (.bool false)/\wx.cell? ⟨w.heap.size+1,1,none⟩=some (.slice none 0 0)/\wx.cell? ⟨w.heap.size+1,2,none⟩=some (.slice none 0 0))/\(wx.cell? ⟨w.heap.size+2,0,none⟩=some (.bool false)/\wx.cell? ⟨w.heap.size+2,1,none⟩=some (.slice none 0 0)/\wx.cell? ⟨w.heap.size+2,2,none⟩=some (.slice none 0 0))):=by
  intro wx hg;rw [hW] at hg;exact ⟨⟨hg.cell (by go_simp) (by simp),hg.cell (by go_simp) (by simp),hg.cell (by go_simp) (by simp),hg.cell (by go_simp) (by simp),hg.cell (by go_simp) (by simp),hg.cell (by go_simp) (by simp),hg.cell (by go_simp) (by simp),hg.cell (by go_simp) (by simp),hg.cell (by go_simp) (by simp),hg.cell (by go_simp) (by simp),hg.cell (by go_simp) (by simp)⟩,⟨hg.cell (by go_simp) (by simp),hg.cell (by go_simp) (by simp),hg.cell (by go_simp) (by simp)⟩,⟨hg.cell (by go_simp) (by simp),hg.cell (by go_simp) (by simp),hg.cell (by go_simp) (by simp)⟩⟩
 have sf:∀ (n:Nat) (c:Array Value) (a:Addr) (wx:World),(store a (.func (.func n) #[] c)).run Tryz.prog wx=stored Tryz.prog wx a (.func (.func n) #[] c) .plain:=fun n c a wx=>run_store _ _ _ _ _ rfl
 go_enter Tryz.func78,Tryz.ntmps78
 go_upto_region 2 with fail;rw [<- hW];clear hW;have hz:W.heap.size=w.heap.size+3:=HWS.out;go_wp2;go_ret;refine ⟨w.heap.size,w.heap.size+3,w.heap.size+1,w.heap.size+1+1,rfl,(CX.out _ (ag (ae _ _) _)).1,?_,(CX.out _ (ag (ae _ _) _)).2.1,(CX.out _ (ag (ae _ _) _)).2.2,aa GW.out (ag (ae _ _) _)⟩;rw [<- hz];have hn:=heap_alloc_new W (Obj.cells #[Value.func (.func 106) #[] #[.pointer (some ⟨w.heap.size,0,none⟩),.pointer (some ⟨w.heap.size+1+1,0,none⟩)]] 121);simp only [World.cell?,hn];rfl
def AnsE (w:World) (n:Nat) (ps:List aI) (L:Nat) (e:Ending) (w':World):Prop :=
 (∃ v1 v2 V I,e=.returned (.tuple #[.agg #[v1,v2],.agg #[.int .i64 0,.int .i64 0]])/\bZ w' w.heap.size v1 n V L/\bZ w' w.heap.size v2 ps.length I L/\aM n ps V I/\(∀ V' I',aM n ps V' I'->(∀ j,j<n->V' j=V j)/\∀ i,i<ps.length->I' i=I i)/\w.grownBy w' none)
 ∨ (e=.returned (.tuple #[.agg #[.slice none 0 0,.slice none 0 0],.agg #[.int .i64 7,.int .i64 0]])/\(¬ ∃ V I,aM n ps V I)/\w.grownBy w' none)
 ∨ (e=.returned (.tuple #[.agg #[.slice none 0 0,.slice none 0 0],.agg #[.int .i64 8,.int .i64 0]])/\(∃ V I V' I',aM n ps V I/\aM n ps V' I'/\((∃ j,j<n/\V j≠V' j)∨∃ i,i<ps.length/\I i≠I' i))/\w.grownBy w' none)
theorem jS (n:Nat) (po:Option Addr) (pc:Nat) (ps:List aI) (mm:Int) (L:Nat) (w:World) (hml:w.cell? ⟨1,0,none⟩=some (.int .i64 mm)) (hp:aK w (.slice po ps.length pc) ps) (hR:cm n ps) (hLs:gw (dI n ps) (n+ps.length)<L) (hL2:2<=L) (hL:L<=49000000) :
  Calls Tryz.prog 42 #[.agg #[.int .i64 ((n:Nat):Int),.slice po ps.length pc]] w fun e w'=>AnsE w n ps L e w':=by
 have HML:=ab hml;have HP:=ab hp;have HR:=ab hR;have HLS:=ab hLs;clear hml hp hR hLs;obtain ⟨W,hW⟩:∃ W,W=((w.alloc (Obj.cells #[.int .i64 ((n:Nat):Int),.slice po ps.length pc] 24)).alloc (Obj.cells #[.slice none 0 0,.slice none 0 0] 62)).alloc (Obj.cells #[.int .i64 0,.int .i64 0] 29):=⟨_,rfl⟩;have GW:Hid (w.grownBy W none):=by rw [hW];exact ag (ag (ag (ae _ _) _) _) _
 have HWS:Hid (W.heap.size=w.heap.size+3):=by show _=_;rw [hW];simp
 have CX:Hid (∀ wx,W.grownBy wx none->wx.cell? ⟨w.heap.size,0,none⟩=some (.int .i64 ((n:Nat):Int))/\wx.cell? ⟨w.heap.size,1,none⟩=some (.slice po ps.length pc)/\wx.cell? ⟨w.heap.size+1,0,none⟩=some (.slice none 0 0)/\wx.cell? ⟨w.heap.size+1,1,none⟩=some (.slice none 0 0)/\wx.cell? ⟨w.heap.size+2,0,none⟩=some (.int .i64 0)/\wx.cell? ⟨w.heap.size+2,1,none⟩=some (.int .i64 0)):=by
  intro wx hg;rw [hW] at hg;exact ⟨hg.cell (by go_simp) (by simp),hg.cell (by go_simp) (by simp),hg.cell (by go_simp) (by simp),hg.cell (by go_simp) (by simp),hg.cell (by go_simp) (by simp),hg.cell (by go_simp) (by simp)⟩
 have BL:Hid (∀ wx,W.grownBy wx none->wx.heap[w.heap.size+1]? = some (Obj.cells #[.slice none 0 0,.slice none 0 0] 62 (0,0))/\wx.heap[w.heap.size+2]? = some (Obj.cells #[.int .i64 0,.int .i64 0] 29 (0,0))):=by
  intro wx hg;rw [hg.block (w.heap.size+1) (by rw [HWS.out];omega) (by simp),hg.block (w.heap.size+2) (by rw [HWS.out];omega) (by simp),hW];exact o9 w _ _ _
 have sf:∀ (n:Nat) (a:Addr) (wx:World),(store a (.func (.func n) #[] #[])).run Tryz.prog wx=stored Tryz.prog wx a (.func (.func n) #[] #[]) .plain:=fun n a wx=>run_store _ _ _ _ _ rfl
 go_enter Tryz.func42,Tryz.ntmps42
 go_upto_region 1 with fail;rw [<- hW];clear hW;go_wp2_with fail;refine (sq mm _ (GW.out.cell HML.out (by simp))).mono ?_;rintro e w1 ⟨fo,fl,fc,fo2,fl2,fc2,rfl,k1,k2⟩;have K1:=ab (k1.mono hL2);have G1:=ab k2;clear k1 k2;go_upto_region 2 with fail;obtain ⟨w2,hw2⟩:∃ w2,w2=w1.alloc (Obj.cells #[.bool false,.slice fo fl fc,.slice fo2 fl2 fc2,.func (.func 99) #[] #[],.func (.func 100) #[] #[],.func (.func 81) #[] #[],.func (.func 101) #[] #[],.func (.func 102) #[] #[],.func (.func 103) #[] #[],.func (.func 104) #[] #[],.func (.func 105) #[] #[]] 126):=⟨_,rfl⟩;have G2:Hid (w1.grownBy w2 none):=by rw [hw2];exact ag (ae _ _) _
 have FC:Hid (∀ wx,w2.grownBy wx none->wx.cell? ⟨w1.heap.size,0,none⟩=some (.bool false)/\wx.cell? ⟨w1.heap.size,1,none⟩=some (.slice fo fl fc)/\wx.cell? ⟨w1.heap.size,2,none⟩=some (.slice fo2 fl2 fc2)/\wx.cell? ⟨w1.heap.size,3,none⟩=some (.func (.func 99) #[] #[])/\wx.cell? ⟨w1.heap.size,4,none⟩=some (.func (.func 100) #[] #[])/\wx.cell? ⟨w1.heap.size,5,none⟩=some (.func (.func 81) #[] #[])/\wx.cell? ⟨w1.heap.size,6,none⟩=some (.func (.func 101) #[] #[])/\wx.cell? ⟨w1.heap.size,7,none⟩=some (.func (.func 102) #[] #[])/\wx.cell? ⟨w1.heap.size,8,none⟩=some (.func (.func 103) #[] #[])/\wx.cell? ⟨w1.heap.size,9,none⟩=some (.func (.func 104) #[] #[])/\wx.cell? ⟨w1.heap.size,10,none⟩=some (.func (.func 105) #[] #[])):=by
  intro wx hg;rw [hw2] at hg;exact ⟨hg.cell (by go_simp) (by simp),hg.cell (by go_simp) (by simp),hg.cell (by go_simp) (by simp),hg.cell (by go_simp) (by simp),hg.cell (by go_simp) (by simp),hg.cell (by go_simp) (by simp),hg.cell (by go_simp) (by simp),hg.cell (by go_simp) (by simp),hg.cell (by go_simp) (by simp),hg.cell (by go_simp) (by simp),hg.cell (by go_simp) (by simp)⟩
 rw [<- hw2];clear hw2;obtain ⟨s0,s1,s2,s3,s4,s5,s6,s7,s8,s9,s10⟩:=FC.out w2 (ae _ _);go_wp2_with fail;refine (laws_at false fo fo2 fl fc fl2 fc2 _).mono ?_;rintro e w3 ⟨bf,bop,bs,bz,rfl,c1,c2,c3,c4,g3⟩;have G3:=ab g3;have C1:=ab c1;have C2:=ab c2;have C3:=ab c3;have C4:=ab c4;clear c1 c2 c3 c4 s0 s1 s2 s3 s4 s5 s6 s7 s8 s9 s10;have GA:=ab (aa G1.out (aa G2.out g3));clear g3;obtain ⟨s0,s1,s2,s3,s4,s5,s6,s7,s8,s9,s10⟩:=FC.out w3 G3.out;obtain ⟨t0,t1,t2,t3,t4,t5⟩:=CX.out w3 GA.out;go_wp2_with fail;refine (net_at false fo fo2 fl fc fl2 fc2 n po pc ps bf bop bs bz mm L w3 ((aa GW.out GA.out).cell HML.out (by simp)) (K1.out.keep0 (aa G2.out G3.out)) (HP.out.keep (aa GW.out GA.out)) HR.out ⟨⟨C1.out.1,C1.out.2.1,C1.out.2.2.1⟩,C1.out.2.2.2⟩ C2.out C3.out C4.out HLS.out hL).mono ?_;rintro e w4 (⟨v1,v2,V,I,rfl,p1,p2,p3,p4,p5⟩ | ⟨rfl,p3,p5⟩ | ⟨rfl,p3,p5⟩)
 ·have G4:=ab (aa GA.out p5);have hlw:w.heap.size+3<=w3.heap.size:=by have:=GA.out.size;have:=HWS.out;omega
  have P1:=ab (p1.low (base':=w.heap.size+3) hlw);have P2:=ab (p2.low (base':=w.heap.size+3) hlw);obtain ⟨ao1,cc1,rfl,_⟩:=id p1;obtain ⟨ao2,cc2,rfl,_⟩:=id p2;have P3:=ab p3;have P4:=ab p4;clear p1 p2 p3 p4 p5 s0 s1 s2 s3 s4 s5 s6 s7 s8 s9 s10 t0 t1 t2 t3 t4 t5;obtain ⟨a0,a1,a2,a3,a4,a5⟩:=CX.out w4 G4.out;obtain ⟨b1,b2⟩:=BL.out w4 G4.out;have f1:∀ k,w4.frozen? ⟨w.heap.size+1,k,none⟩=false:=fun k=>by simp [World.frozen?,b1]
  have f2:∀ k,w4.frozen? ⟨w.heap.size+2,k,none⟩=false:=fun k=>by simp [World.frozen?,b2]
  have f10:=f1 0;have f11:=f1 1;have f20:=f2 0;have f21:=f2 1;have R1:=ab (dP b1 rfl (fun z=>by simp) (fun z=>by simp) (.slice ao1 n cc1) (.slice ao2 ps.length cc2));have hb2:((w4.setCell ⟨w.heap.size+1,0,none⟩ (.slice ao1 n cc1)).setCell ⟨w.heap.size+1,1,none⟩ (.slice ao2 ps.length cc2)).heap[w.heap.size+2]? = some (Obj.cells #[.int .i64 0,.int .i64 0] 29 (0,0)):=by
   rw [heap_setCell_other _ _ _ _ (by simp),heap_setCell_other _ _ _ _ (by simp)];exact b2
  have R2:=ab (dP hb2 rfl (fun z=>by simp) (fun z=>by simp) (.int .i64 0) (.int .i64 0));clear f1 f2 b1 b2 hb2;go_wp2;refine bodyPost_ret (v:=.tuple #[.agg #[.slice ao1 n cc1,.slice ao2 ps.length cc2],.agg #[.int .i64 0,.int .i64 0]]) (by simp [results,Tryz.results42,go_sem,a2,a3,a4,a5]) rfl ?_;exact .inl ⟨_,_,V,I,rfl,((P1.out.keepB R1.out (by omega)).keepB R2.out (by omega)).low (by omega),((P2.out.keepB R1.out (by omega)).keepB R2.out (by omega)).low (by omega),P3.out,P4.out,aq (r:=none) (aq (r:=none) (aa GW.out G4.out) R1.out.1 (fun _ _ e=>e) (fun b hb e=>by have:=Option.some.inj e;omega)) R2.out.1 (fun _ _ e=>e) (fun b hb e=>by have:=Option.some.inj e;omega)⟩
 ·have G4:=ab (aa GA.out p5);have P3:=ab p3;clear p3 p5 s0 s1 s2 s3 s4 s5 s6 s7 s8 s9 s10 t0 t1 t2 t3 t4 t5;obtain ⟨a0,a1,a2,a3,a4,a5⟩:=CX.out w4 G4.out;obtain ⟨b1,b2⟩:=BL.out w4 G4.out;have f1:∀ k,w4.frozen? ⟨w.heap.size+1,k,none⟩=false:=fun k=>by simp [World.frozen?,b1]
  have f2:∀ k,w4.frozen? ⟨w.heap.size+2,k,none⟩=false:=fun k=>by simp [World.frozen?,b2]
  have f10:=f1 0;have f11:=f1 1;have f20:=f2 0;have f21:=f2 1;have R1:=ab (dP b1 rfl (fun z=>by simp) (fun z=>by simp) (.slice none 0 0) (.slice none 0 0));have hb2:((w4.setCell ⟨w.heap.size+1,0,none⟩ (.slice none 0 0)).setCell ⟨w.heap.size+1,1,none⟩ (.slice none 0 0)).heap[w.heap.size+2]? = some (Obj.cells #[.int .i64 0,.int .i64 0] 29 (0,0)):=by
   rw [heap_setCell_other _ _ _ _ (by simp),heap_setCell_other _ _ _ _ (by simp)];exact b2
  have R2:=ab (dP hb2 rfl (fun z=>by simp) (fun z=>by simp) (.int .i64 7) (.int .i64 0));clear f1 f2 b1 b2 hb2;go_wp2;refine bodyPost_ret (v:=.tuple #[.agg #[.slice none 0 0,.slice none 0 0],.agg #[.int .i64 7,.int .i64 0]]) (by simp [results,Tryz.results42,go_sem,a2,a3,a4,a5]) rfl ?_;exact .inr (.inl ⟨rfl,P3.out,aq (r:=none) (aq (r:=none) (aa GW.out G4.out) R1.out.1 (fun _ _ e=>e) (fun b hb e=>by have:=Option.some.inj e;omega)) R2.out.1 (fun _ _ e=>e) (fun b hb e=>by have:=Option.some.inj e;omega)⟩)
 ·have G4:=ab (aa GA.out p5);have P3:=ab p3;clear p3 p5 s0 s1 s2 s3 s4 s5 s6 s7 s8 s9 s10 t0 t1 t2 t3 t4 t5;obtain ⟨a0,a1,a2,a3,a4,a5⟩:=CX.out w4 G4.out;obtain ⟨b1,b2⟩:=BL.out w4 G4.out;have f1:∀ k,w4.frozen? ⟨w.heap.size+1,k,none⟩=false:=fun k=>by simp [World.frozen?,b1]
  have f2:∀ k,w4.frozen? ⟨w.heap.size+2,k,none⟩=false:=fun k=>by simp [World.frozen?,b2]
  have f10:=f1 0;have f11:=f1 1;have f20:=f2 0;have f21:=f2 1;have R1:=ab (dP b1 rfl (fun z=>by simp) (fun z=>by simp) (.slice none 0 0) (.slice none 0 0));have hb2:((w4.setCell ⟨w.heap.size+1,0,none⟩ (.slice none 0 0)).setCell ⟨w.heap.size+1,1,none⟩ (.slice none 0 0)).heap[w.heap.size+2]? = some (Obj.cells #[.int .i64 0,.int .i64 0] 29 (0,0)):=by
   rw [heap_setCell_other _ _ _ _ (by simp),heap_setCell_other _ _ _ _ (by simp)];exact b2
  have R2:=ab (dP hb2 rfl (fun z=>by simp) (fun z=>by simp) (.int .i64 8) (.int .i64 0));clear f1 f2 b1 b2 hb2;go_wp2;refine bodyPost_ret (v:=.tuple #[.agg #[.slice none 0 0,.slice none 0 0],.agg #[.int .i64 8,.int .i64 0]]) (by simp [results,Tryz.results42,go_sem,a2,a3,a4,a5]) rfl ?_;exact .inr (.inr ⟨rfl,P3.out,aq (r:=none) (aq (r:=none) (aa GW.out G4.out) R1.out.1 (fun _ _ e=>e) (fun b hb e=>by have:=Option.some.inj e;omega)) R2.out.1 (fun _ _ e=>e) (fun b hb e=>by have:=Option.some.inj e;omega)⟩)
theorem rg {dio:Bool} {nodes:Int} {ps:List aI} {i:Nat} (h:(bS dio nodes ps i).1=0):∀ p∈ps,dA dio p nodes=0:=by
 induction ps generalizing i with
 | nil=>intro p hp;simp at hp
 | cons q r ih =>
  intro p hp;by_cases hq:dA dio q nodes=0
  ·rw [bS,if_pos hq] at h;rcases List.mem_cons.1 hp with rfl | hp
   ·exact hq
   ·exact ih h p hp
  ·rw [bS,if_neg hq] at h;exact absurd h hq
structure xL (p:aI) (nodes:Int):Prop where
 k1:1<=p.kind
 k7:p.kind<=7
 a:fL p.a nodes=true
 b:fL p.b nodes=true
 led:(p.kind=6∨p.kind=7)->fL p.c nodes=true/\fL p.d nodes=true
 own:¬ (p.kind=6∨p.kind=7)->p.c=0/\p.d=0
 pos:p.kind<=3->0<pR p.v
theorem fine_of {p:aI} {nodes:Int} (h:dA false p nodes=0):xL p nodes:=by
 unfold dA at h;split at h
 ·exact absurd h (by decide)
 ·rename_i h8;unfold di at h;split at h
  ·exact absurd h (by decide)
  ·rename_i hk;have hk1:1<=p.kind:=by omega
   have hk8:p.kind≠8:=fun e=>h8 ⟨e,rfl⟩
   have hk7:p.kind<=7:=by omega
   have led:jJ p.kind.toNat=true↔(p.kind=6∨p.kind=7):=by
    unfold jJ;simp only [Bool.or_eq_true,beq_iff_eq];omega
   have abv:p.kind<=3->fC p.kind.toNat=true:=by
    intro h3;have:p.kind=1∨p.kind=2∨p.kind=3:=by omega
    rcases this with e | e | e<;>rw [e]<;>rfl
   unfold ks at h;split at h
   ·exact absurd h (by decide)
   ·rename_i h1;split at h
    ·exact absurd h (by decide)
    ·rename_i h2;split at h
     ·exact absurd h (by decide)
     ·rename_i h3;simp only [Bool.or_eq_true,Bool.and_eq_true,Bool.not_eq_true',not_or,not_and,Bool.not_eq_false,decide_eq_true_eq,bne_iff_ne,ne_eq,Decidable.not_not] at h1 h2 h3;refine ⟨hk1,hk7,h1.1.1,h1.1.2,fun hl=>?_,fun hl=>?_,fun h3'=>?_⟩
      ·exact h1.2 (led.2 hl)
      ·have hf:jJ p.kind.toNat=false:=by
        cases hx:jJ p.kind.toNat with
        | false=>rfl
        | true=>exact absurd (led.1 hx) hl
       have:=h3.1 hf;omega
      ·have:=h2 (abv h3');omega
theorem mg {nodes:Int} {ps:List aI} (h:(bj false nodes ps).1=0):cm nodes.toNat ps/\nodes=(nodes.toNat:Int)/\ps.length<=16/\∀ p∈ps,xL p nodes:=by
 unfold bj at h;by_cases hm:nodes<1∨8<nodes∨16<ps.length
 ·rw [if_pos hm] at h;exact absurd h (by decide)
 ·rw [if_neg hm] at h;have hall:=fun p hp=>fine_of (rg h p hp)
  refine ⟨⟨by omega,by omega,by omega,fun p hp=>?_⟩,by omega,by omega,hall⟩;have hf:=hall p hp;have key:∀ x,fL x nodes=true->0<=x/\x<nodes:=by
   intro x hx;unfold fL at hx;rw [Bool.and_eq_true,decide_eq_true_eq,decide_eq_true_eq] at hx;exact hx
  have h1:=key _ hf.a;have h2:=key _ hf.b;have hcd:(0<=p.c/\p.c<nodes)/\(0<=p.d/\p.d<nodes):=by
   by_cases hl:p.kind=6∨p.kind=7
   ·obtain ⟨hc,hd⟩:=hf.led hl;exact ⟨key _ hc,key _ hd⟩
   ·obtain ⟨hc,hd⟩:=hf.own hl;omega
  exact ⟨p.a.toNat,p.b.toNat,p.c.toNat,p.d.toNat,by omega,by omega,by omega,by omega,by omega,by omega,by omega,by omega⟩
def ChkdE (w:World) (nodes:Int) (ps:List aI) (L:Nat) (e:Ending) (w':World):Prop :=
 ((bj false nodes ps).1≠0/\e=.returned (.tuple #[.agg #[.slice none 0 0,.slice none 0 0],.agg #[.int .i64 (bj false nodes ps).1,.int .i64 (bj false nodes ps).2]])/\w.grownBy w' none)
 ∨ ((bj false nodes ps).1=0/\AnsE w nodes.toNat ps L e w')
theorem v8 (nodes:Int) (po:Option Addr) (pc:Nat) (ps:List aI) (L:Nat) (w:World) (hb:ia w) (hp:aK w (.slice po ps.length pc) ps) (hLs:∀ n,cm n ps->gw (dI n ps) (n+ps.length)<L) (hL2:2<=L) (hL:L<=49000000) :
  Calls Tryz.prog 20 #[.agg #[.int .i64 nodes,.slice po ps.length pc]] w fun e w'=>ChkdE w nodes ps L e w':=by
 have HB:=ab hb;have HP:=ab hp;have HLS:=ab hLs;clear hb hp hLs;obtain ⟨W,hW⟩:∃ W,W=((w.alloc (Obj.cells #[.int .i64 nodes,.slice po ps.length pc] 24)).alloc (Obj.cells #[.slice none 0 0,.slice none 0 0] 62)).alloc (Obj.cells #[.int .i64 0,.int .i64 0] 29):=⟨_,rfl⟩;have GW:Hid (w.grownBy W none):=by rw [hW];exact ag (ag (ag (ae _ _) _) _) _
 have HWS:Hid (W.heap.size=w.heap.size+3):=by show _=_;rw [hW];simp
 have CX:Hid (∀ wx,W.grownBy wx none->wx.cell? ⟨w.heap.size,0,none⟩=some (.int .i64 nodes)/\wx.cell? ⟨w.heap.size,1,none⟩=some (.slice po ps.length pc)/\wx.cell? ⟨w.heap.size+1,0,none⟩=some (.slice none 0 0)/\wx.cell? ⟨w.heap.size+1,1,none⟩=some (.slice none 0 0)/\wx.cell? ⟨w.heap.size+2,0,none⟩=some (.int .i64 0)/\wx.cell? ⟨w.heap.size+2,1,none⟩=some (.int .i64 0)):=by
  intro wx hg;rw [hW] at hg;exact ⟨hg.cell (by go_simp) (by simp),hg.cell (by go_simp) (by simp),hg.cell (by go_simp) (by simp),hg.cell (by go_simp) (by simp),hg.cell (by go_simp) (by simp),hg.cell (by go_simp) (by simp)⟩
 have BL:Hid (∀ wx,W.grownBy wx none->wx.heap[w.heap.size+1]? = some (Obj.cells #[.slice none 0 0,.slice none 0 0] 62 (0,0))/\wx.heap[w.heap.size+2]? = some (Obj.cells #[.int .i64 0,.int .i64 0] 29 (0,0))):=by
  intro wx hg;rw [hg.block (w.heap.size+1) (by rw [HWS.out];omega) (by simp),hg.block (w.heap.size+2) (by rw [HWS.out];omega) (by simp),hW];exact o9 w _ _ _
 have FZ:Hid (∀ wx,W.grownBy wx none->(wx.frozen? ⟨w.heap.size+1,0,none⟩=false/\wx.frozen? ⟨w.heap.size+1,1,none⟩=false/\wx.frozen? ⟨w.heap.size+2,0,none⟩=false/\wx.frozen? ⟨w.heap.size+2,1,none⟩=false)):=by
  intro wx hg;obtain ⟨b1,b2⟩:=BL.out wx hg;refine ⟨?_,?_,?_,?_⟩<;>simp [World.frozen?,b1,b2]
 obtain ⟨a0,a1,a2,a3,a4,a5⟩:=CX.out W (ae _ _);go_enter Tryz.func20,Tryz.ntmps20
 go_upto_region 1 with fail;rw [<- hW];clear hW;go_wp2_with fail;refine (qL nodes _ ps W (HB.out.keep GW.out) (HP.out.keep GW.out)).mono ?_;rintro e w1 ⟨rfl,g1⟩;obtain ⟨C1,hC1⟩:∃ C1,C1=(bj false nodes ps).1:=⟨_,rfl⟩;obtain ⟨C2,hC2⟩:∃ C2,C2=(bj false nodes ps).2:=⟨_,rfl⟩;rw [<- hC1,<- hC2];have HC1:=ab hC1;have HC2:=ab hC2;have G1:=ab g1;clear g1 hC1 hC2 a0 a1 a2 a3 a4 a5;go_upto_region 2 with fail;obtain ⟨w2,hw2⟩:∃ w2,w2=w1.alloc (Obj.cells #[.int .i64 C1,.int .i64 C2] 29):=⟨_,rfl⟩;have G2:Hid (W.grownBy w2 none):=by rw [hw2];exact ag G1.out _
 have FC:Hid (∀ wx,w2.grownBy wx none->wx.cell? ⟨w1.heap.size,0,none⟩=some (.int .i64 C1)/\wx.cell? ⟨w1.heap.size,1,none⟩=some (.int .i64 C2)):=by
  intro wx hg;rw [hw2] at hg;exact ⟨hg.cell (by go_simp) (by simp),hg.cell (by go_simp) (by simp)⟩
 rw [<- hw2];clear hw2;obtain ⟨c0,c1⟩:=FC.out w2 (ae _ _);have hsz:w.heap.size+3<=w1.heap.size:=by have:=G1.out.size;have:=HWS.out;omega
 by_cases h0:C1=0
 ·have hcz:(bj false nodes ps).1=0:=by rw [<- HC1.out];exact h0
  obtain ⟨r1,r2,r3,r4⟩:=mg hcz;have R1:=ab r1;have R2:=ab r2;have HCZ:=ab hcz;have hne:(C1 != 0)=false:=by simp [h0]
  have hneq:(C1==0)=true:=by simp [h0]
  subst h0;obtain ⟨a0,a1,a2,a3,a4,a5⟩:=CX.out w2 G2.out;obtain ⟨_,⟨mm,hmm⟩,_⟩:=HB.out;have HMM:=ab hmm;clear r1 r2 r3 r4 hcz hmm;go_wp2_with fail;rw [R2.out];refine (jS nodes.toNat po pc ps mm L w2 ((aa GW.out G2.out).cell HMM.out (by simp)) (HP.out.keep (aa GW.out G2.out)) R1.out (HLS.out _ R1.out) hL2 hL).mono ?_;rintro e w4 (⟨v1,v2,V,I,rfl,p1,p2,p3,p4,p5⟩ | ⟨rfl,p3,p5⟩ | ⟨rfl,p3,p5⟩)
  ·have G4:=ab (aa G2.out p5);have hlw:w.heap.size+3<=w2.heap.size:=by have:=G2.out.size;have:=HWS.out;omega
   have P1:=ab (p1.low (base':=w.heap.size+3) hlw);have P2:=ab (p2.low (base':=w.heap.size+3) hlw);obtain ⟨ao1,cc1,rfl,_⟩:=id p1;obtain ⟨ao2,cc2,rfl,_⟩:=id p2;have P3:=ab p3;have P4:=ab p4;clear p1 p2 p3 p4 p5 a0 a1 a2 a3 a4 a5 c0 c1;obtain ⟨a0,a1,a2,a3,a4,a5⟩:=CX.out w4 G4.out;obtain ⟨f0,f1,f2,f3⟩:=FZ.out w4 G4.out;obtain ⟨b1,b2⟩:=BL.out w4 G4.out;have T1:=ab (dP b1 rfl (fun z=>by simp) (fun z=>by simp) (.slice ao1 nodes.toNat cc1) (.slice ao2 ps.length cc2));have hb2:((w4.setCell ⟨w.heap.size+1,0,none⟩ (.slice ao1 nodes.toNat cc1)).setCell ⟨w.heap.size+1,1,none⟩ (.slice ao2 ps.length cc2)).heap[w.heap.size+2]? = some (Obj.cells #[.int .i64 0,.int .i64 0] 29 (0,0)):=by
    rw [heap_setCell_other _ _ _ _ (by simp),heap_setCell_other _ _ _ _ (by simp)];exact b2
   have T2:=ab (dP hb2 rfl (fun z=>by simp) (fun z=>by simp) (.int .i64 0) (.int .i64 0));clear b1 b2 hb2;go_wp2;refine bodyPost_ret (v:=.tuple #[.agg #[.slice ao1 nodes.toNat cc1,.slice ao2 ps.length cc2],.agg #[.int .i64 0,.int .i64 0]]) (by simp [results,Tryz.results20,go_sem,a2,a3,a4,a5]) rfl ?_;exact .inr ⟨HCZ.out,.inl ⟨_,_,V,I,rfl,((P1.out.keepB T1.out (by omega)).keepB T2.out (by omega)).low (by omega),((P2.out.keepB T1.out (by omega)).keepB T2.out (by omega)).low (by omega),P3.out,P4.out,aq (r:=none) (aq (r:=none) (aa GW.out G4.out) T1.out.1 (fun _ _ e=>e) (fun b hb e=>by have:=Option.some.inj e;omega)) T2.out.1 (fun _ _ e=>e) (fun b hb e=>by have:=Option.some.inj e;omega)⟩⟩
  ·have G4:=ab (aa G2.out p5);have P3:=ab p3;clear p3 p5 a0 a1 a2 a3 a4 a5 c0 c1;obtain ⟨a0,a1,a2,a3,a4,a5⟩:=CX.out w4 G4.out;obtain ⟨f0,f1,f2,f3⟩:=FZ.out w4 G4.out;obtain ⟨b1,b2⟩:=BL.out w4 G4.out;have T1:=ab (dP b1 rfl (fun z=>by simp) (fun z=>by simp) (.slice none 0 0) (.slice none 0 0));have hb2:((w4.setCell ⟨w.heap.size+1,0,none⟩ (.slice none 0 0)).setCell ⟨w.heap.size+1,1,none⟩ (.slice none 0 0)).heap[w.heap.size+2]? = some (Obj.cells #[.int .i64 0,.int .i64 0] 29 (0,0)):=by
    rw [heap_setCell_other _ _ _ _ (by simp),heap_setCell_other _ _ _ _ (by simp)];exact b2
   have T2:=ab (dP hb2 rfl (fun z=>by simp) (fun z=>by simp) (.int .i64 7) (.int .i64 0));clear b1 b2 hb2;go_wp2;refine bodyPost_ret (v:=.tuple #[.agg #[.slice none 0 0,.slice none 0 0],.agg #[.int .i64 7,.int .i64 0]]) (by simp [results,Tryz.results20,go_sem,a2,a3,a4,a5]) rfl ?_;exact .inr ⟨HCZ.out,.inr (.inl ⟨rfl,P3.out,aq (r:=none) (aq (r:=none) (aa GW.out G4.out) T1.out.1 (fun _ _ e=>e) (fun b hb e=>by have:=Option.some.inj e;omega)) T2.out.1 (fun _ _ e=>e) (fun b hb e=>by have:=Option.some.inj e;omega)⟩)⟩
  ·have G4:=ab (aa G2.out p5);have P3:=ab p3;clear p3 p5 a0 a1 a2 a3 a4 a5 c0 c1;obtain ⟨a0,a1,a2,a3,a4,a5⟩:=CX.out w4 G4.out;obtain ⟨f0,f1,f2,f3⟩:=FZ.out w4 G4.out;obtain ⟨b1,b2⟩:=BL.out w4 G4.out;have T1:=ab (dP b1 rfl (fun z=>by simp) (fun z=>by simp) (.slice none 0 0) (.slice none 0 0));have hb2:((w4.setCell ⟨w.heap.size+1,0,none⟩ (.slice none 0 0)).setCell ⟨w.heap.size+1,1,none⟩ (.slice none 0 0)).heap[w.heap.size+2]? = some (Obj.cells #[.int .i64 0,.int .i64 0] 29 (0,0)):=by
    rw [heap_setCell_other _ _ _ _ (by simp),heap_setCell_other _ _ _ _ (by simp)];exact b2
   have T2:=ab (dP hb2 rfl (fun z=>by simp) (fun z=>by simp) (.int .i64 8) (.int .i64 0));clear b1 b2 hb2;go_wp2;refine bodyPost_ret (v:=.tuple #[.agg #[.slice none 0 0,.slice none 0 0],.agg #[.int .i64 8,.int .i64 0]]) (by simp [results,Tryz.results20,go_sem,a2,a3,a4,a5]) rfl ?_;exact .inr ⟨HCZ.out,.inr (.inr ⟨rfl,P3.out,aq (r:=none) (aq (r:=none) (aa GW.out G4.out) T1.out.1 (fun _ _ e=>e) (fun b hb e=>by have:=Option.some.inj e;omega)) T2.out.1 (fun _ _ e=>e) (fun b hb e=>by have:=Option.some.inj e;omega)⟩)⟩
 ·have hne:(C1 != 0)=true:=by simp [h0]
  have hneq:(C1==0)=false:=by simp [h0]
  have H0:=ab h0;obtain ⟨a0,a1,a2,a3,a4,a5⟩:=CX.out w2 G2.out;obtain ⟨f0,f1,f2,f3⟩:=FZ.out w2 G2.out;go_wp2;go_region
  all_goals
   go_wp2;refine bodyPost_ret (v:=.tuple #[.agg #[.slice none 0 0,.slice none 0 0],.agg #[.int .i64 C1,.int .i64 C2]]) (by simp [results,Tryz.results20,go_sem,a2,a3,a4,a5]) rfl ?_;refine .inl ⟨by rw [<- HC1.out];exact H0.out,by rw [<- HC1.out,<- HC2.out],?_⟩;exact ar (ai (ai (ai (ai (aa GW.out G2.out) _ _ (Nat.le_add_right _ 1)) _ _ (Nat.le_add_right _ 1)) _ _ (Nat.le_add_right _ 2)) _ _ (Nat.le_add_right _ 2)) 1
theorem cL.low {α:Type} {f:α->Value} {t:TypeId} {w:World} {base base':Nat} {v:Value} {xs:List α} (h:cL f t w base v xs) (hb:base'<=base):cL f t w base' v xs:=by
 refine ⟨h.1,?_⟩;rcases h.2 with h2 | ⟨g,cap,cur,e,h3,h4⟩
 ·exact .inl h2
 ·exact .inr ⟨g,cap,cur,e,Nat.le_trans hb h3,h4⟩
theorem vD (ao:Option Addr) (c:Nat) (w:World) :
  Calls Tryz.prog 21 #[.slice ao 0 c] w fun e w'=>e=.returned (.slice none 0 0)/\w.grownBy w' none:=by
 go_enter Tryz.func21,Tryz.ntmps21
 go_wp2;go_loopw [3,8] (fun ov v wr=>Hid (ov=.slice none 0 0/\v=.int .i64 0/\w.grownBy wr none)) (fun _ _ _=>0)
 case atStart=>exact ⟨rfl,rfl,ae _ _⟩
 case round =>
  obtain ⟨rfl,rfl,l3⟩:=hrel.out;have L3:=ab l3;clear l3 hrel;go_wp2;go_ret;exact ⟨rfl,L3.out⟩
theorem qe (base:Nat) (v:Value) (n:Nat) (R:Nat->Rat) (L:Nat) (w:World) (h:bZ w base v n R L) (hn:n<=3000) (hL:L<=49000000) (ht:eY w) :
  Calls Tryz.prog 21 #[v] w fun e w'=>AP w n R e w':=by
 obtain ⟨ao,c,rfl,h1,h2,h3⟩:=h;rcases Nat.eq_zero_or_pos n with h0 | h0
 ·subst h0;refine (vD ao c w).mono ?_;rintro e w' ⟨rfl,g⟩;exact ⟨_,rfl,iU,g⟩
 ·obtain ⟨g,rfl,_,hr⟩:=h3 h0;exact tell_at g n c R L w hr hn h1 h2 (by omega) ht
theorem bZ.nil (w:World) (base:Nat) (R:Nat->Rat) (L:Nat):bZ w base (.slice none 0 0) 0 R L:=⟨none,0,rfl,Nat.le_refl _,by unfold maxLen;omega,fun h=>by omega⟩
def ta (nodes:Int) (ps:List aI) (c1 c2:Int) (n1 n2:Nat) (V I:Nat->Rat):Prop :=
 ((bj false nodes ps).1≠0/\c1=(bj false nodes ps).1/\c2=(bj false nodes ps).2/\n1=0/\n2=0)
 ∨ ((bj false nodes ps).1=0/\c2=0/\((c1=0/\n1=nodes.toNat/\n2=ps.length/\aM nodes.toNat ps V I/\(∀ V' I',aM nodes.toNat ps V' I'->(∀ j,j<nodes.toNat->V' j=V j)/\∀ i,i<ps.length->I' i=I i))
  ∨ (c1=7/\n1=0/\n2=0/\¬ ∃ V I,aM nodes.toNat ps V I)
  ∨ (c1=8/\n1=0/\n2=0/\∃ V I V' I',aM nodes.toNat ps V I/\aM nodes.toNat ps V' I'/\((∃ j,j<nodes.toNat/\V j≠V' j)∨∃ i,i<ps.length/\I i≠I' i))))
theorem Be {w w':World} {nodes:Int} {ps:List aI} {L:Nat} {e:Ending} (h:ChkdE w nodes ps L e w') :
  ∃ (ao1:Option Addr) (n1 cc1:Nat) (ao2:Option Addr) (n2 cc2:Nat) (c1 c2:Int) (V I:Nat->Rat),e=.returned (.tuple #[.agg #[.slice ao1 n1 cc1,.slice ao2 n2 cc2],.agg #[.int .i64 c1,.int .i64 c2]])
   /\ bZ w' w.heap.size (.slice ao1 n1 cc1) n1 V L/\bZ w' w.heap.size (.slice ao2 n2 cc2) n2 I L/\ta nodes ps c1 c2 n1 n2 V I/\w.grownBy w' none:=by
 rcases h with ⟨h1,rfl,h3⟩ | ⟨h1,(⟨v1,v2,V,I,rfl,p1,p2,p3,p4,p5⟩ | ⟨rfl,p3,p5⟩ | ⟨rfl,p3,p5⟩)⟩
 ·exact ⟨none,0,0,none,0,0,_,_,fun _=>0,fun _=>0,rfl,bZ.nil _ _ _ _,bZ.nil _ _ _ _,.inl ⟨h1,rfl,rfl,rfl,rfl⟩,h3⟩
 ·obtain ⟨ao1,cc1,rfl,_⟩:=id p1;obtain ⟨ao2,cc2,rfl,_⟩:=id p2;exact ⟨ao1,_,cc1,ao2,_,cc2,_,_,V,I,rfl,p1,p2,.inr ⟨h1,rfl,.inl ⟨rfl,rfl,rfl,p3,p4⟩⟩,p5⟩
 ·exact ⟨none,0,0,none,0,0,_,_,fun _=>0,fun _=>0,rfl,bZ.nil _ _ _ _,bZ.nil _ _ _ _,.inr ⟨h1,rfl,.inr (.inl ⟨rfl,rfl,rfl,p3⟩)⟩,p5⟩
 ·exact ⟨none,0,0,none,0,0,_,_,fun _=>0,fun _=>0,rfl,bZ.nil _ _ _ _,bZ.nil _ _ _ _,.inr ⟨h1,rfl,.inr (.inr ⟨rfl,rfl,rfl,p3⟩)⟩,p5⟩
theorem ta.small {nodes:Int} {ps:List aI} {c1 c2:Int} {n1 n2:Nat} {V I:Nat->Rat} (h:ta nodes ps c1 c2 n1 n2 V I):n1<=8/\n2<=16:=by
 rcases h with ⟨_,_,_,rfl,rfl⟩ | ⟨h0,_,(⟨_,rfl,rfl,_⟩ | ⟨_,rfl,rfl,_⟩ | ⟨_,rfl,rfl,_⟩)⟩
 ·omega
 ·obtain ⟨r1,r2,r3,_⟩:=mg h0;have:=r1.hi;omega
 ·omega
 ·omega
theorem bZ.fit {w:World} {base:Nat} {v:Value} {n:Nat} {R:Nat->Rat} {L:Nat} (h:bZ w base v n R L) (hL:0<L):∀ j,j<n->yJ (R j) L:=by
 intro j hj;obtain ⟨ao,c,e,h1,h2,h3⟩:=h;obtain ⟨g,_,_,cur,ty,_,hr⟩:=h3 (by omega);obtain ⟨u,d,_,_,_,hq⟩:=hr j hj;exact hq.fit hL
def SolveF (w:World) (nodes:Int) (ps:List aI) (L:Nat) (e:Ending) (w':World):Prop :=
 ∃ (c1 c2:Int) (n1 n2:Nat) (V I:Nat->Rat) (vv iv:Value),e=.returned (.tuple #[.agg #[vv,iv],.agg #[.int .i64 c1,.int .i64 c2]])/\cL sv 32 w' w.heap.size vv (cG V n1)/\cL sv 32 w' w.heap.size iv (cG I n2)/\ta nodes ps c1 c2 n1 n2 V I/\w.grownBy w' none/\(∀ j,j<n1->yJ (V j) L)/\∀ i,i<n2->yJ (I i) L
def SolveE (w:World) (nodes:Int) (ps:List aI) (e:Ending) (w':World):Prop :=
 ∃ (c1 c2:Int) (n1 n2:Nat) (V I:Nat->Rat) (vv iv:Value),e=.returned (.tuple #[.agg #[vv,iv],.agg #[.int .i64 c1,.int .i64 c2]])/\cL sv 32 w' w.heap.size vv (cG V n1)/\cL sv 32 w' w.heap.size iv (cG I n2)/\ta nodes ps c1 c2 n1 n2 V I/\w.grownBy w' none
theorem rH (nodes:Int) (po:Option Addr) (pc:Nat) (ps:List aI) (L:Nat) (w:World) (hb:ia w) (ht:eY w) (hp:aK w (.slice po ps.length pc) ps) (hLs:∀ n,cm n ps->gw (dI n ps) (n+ps.length)<L) (hL2:2<=L) (hL:L<=49000000) :
  Calls Tryz.prog 6 #[.agg #[.int .i64 nodes,.slice po ps.length pc]] w fun e w'=>SolveF w nodes ps L e w':=by
 have HB:=ab hb;have HT:=ab ht;have HP:=ab hp;have HLS:=ab hLs;clear hb ht hp hLs;obtain ⟨W,hW⟩:∃ W,W=((w.alloc (Obj.cells #[.int .i64 nodes,.slice po ps.length pc] 24)).alloc (Obj.cells #[.slice none 0 0,.slice none 0 0] 36)).alloc (Obj.cells #[.int .i64 0,.int .i64 0] 29):=⟨_,rfl⟩;have GW:Hid (w.grownBy W none):=by rw [hW];exact ag (ag (ag (ae _ _) _) _) _
 have HWS:Hid (W.heap.size=w.heap.size+3):=by show _=_;rw [hW];simp
 have NC:Hid (W.cell? ⟨w.heap.size,0,none⟩=some (.int .i64 nodes)/\W.cell? ⟨w.heap.size,1,none⟩=some (.slice po ps.length pc)):=by
  rw [hW];exact ⟨by go_simp,by go_simp⟩
 have BL:Hid (∀ wx,W.grownBy wx none->wx.heap[w.heap.size+1]? = some (Obj.cells #[.slice none 0 0,.slice none 0 0] 36 (0,0))/\wx.heap[w.heap.size+2]? = some (Obj.cells #[.int .i64 0,.int .i64 0] 29 (0,0))):=by
  intro wx hg;rw [hg.block (w.heap.size+1) (by rw [HWS.out];omega) (by simp),hg.block (w.heap.size+2) (by rw [HWS.out];omega) (by simp),hW];exact o9 w _ _ _
 obtain ⟨a0,a1⟩:=NC.out;go_enter Tryz.func6,Tryz.ntmps6
 go_upto_region 1 with fail;rw [<- hW];clear hW;go_wp2_with fail;refine (v8 nodes po pc ps L W (HB.out.keep GW.out) (HP.out.keep GW.out) HLS.out hL2 (by omega)).mono ?_;intro e w1 hce;obtain ⟨ao1,n1,cc1,ao2,n2,cc2,c1,c2,V,I,rfl,p1,p2,p3,g1⟩:=Be hce;have P1:=ab p1;have P2:=ab p2;have P3:=ab p3;have hn:=p3.small;have hn1:=hn.1;have hn2:=hn.2;have G1:=ab g1;clear p1 p2 p3 g1 hce hn a0 a1;go_upto_region 2 with fail;obtain ⟨w3,hw3⟩:∃ w3,w3=(w1.alloc (Obj.cells #[.slice ao1 n1 cc1,.slice ao2 n2 cc2] 62)).alloc (Obj.cells #[.int .i64 c1,.int .i64 c2] 29):=⟨_,rfl⟩;have G3:Hid (w1.grownBy w3 none):=by rw [hw3];exact ag (ag (ae _ _) _) _
 obtain ⟨ga,hga⟩:∃ ga,ga=w1.heap.size:=⟨_,rfl⟩;obtain ⟨gf,hgf⟩:∃ gf,gf=w1.heap.size+1:=⟨_,rfl⟩;have CX:Hid (∀ wx,w3.grownBy wx none->wx.cell? ⟨ga,0,none⟩=some (.slice ao1 n1 cc1)/\wx.cell? ⟨ga,1,none⟩=some (.slice ao2 n2 cc2)/\wx.cell? ⟨gf,0,none⟩=some (.int .i64 c1)/\wx.cell? ⟨gf,1,none⟩=some (.int .i64 c2)):=by
  intro wx hg;rw [hw3] at hg;rw [hga,hgf];exact ⟨hg.cell (by go_simp) (by simp),hg.cell (by go_simp) (by simp),hg.cell (by go_simp) (by simp),hg.cell (by go_simp) (by simp)⟩
 have GR:Hid (W.grownBy w3 none):=aa G1.out G3.out;have GA:Hid (w.grownBy w3 none):=aa GW.out GR.out;have HSZ:Hid (w.heap.size+3<=w3.heap.size):=by show _<=_;have:=GR.out.size;have:=HWS.out;omega
 have RX:Hid (∀ wx,w3.grownBy wx none->(wx.cell? ⟨w.heap.size+1,0,none⟩=some (.slice none 0 0)/\wx.cell? ⟨w.heap.size+1,1,none⟩=some (.slice none 0 0)/\wx.cell? ⟨w.heap.size+2,0,none⟩=some (.int .i64 0)/\wx.cell? ⟨w.heap.size+2,1,none⟩=some (.int .i64 0))/\(wx.frozen? ⟨w.heap.size+1,0,none⟩=false/\wx.frozen? ⟨w.heap.size+1,1,none⟩=false/\wx.frozen? ⟨w.heap.size+2,0,none⟩=false/\wx.frozen? ⟨w.heap.size+2,1,none⟩=false)):=by
  intro wx hg;obtain ⟨b1,b2⟩:=BL.out wx (aa GR.out hg);refine ⟨⟨?_,?_,?_,?_⟩,?_,?_,?_,?_⟩<;>simp [World.cell?,World.frozen?,b1,b2]
 have nz1:w.heap.size+1≠ga:=by rw [hga];have:=G1.out.size;have:=HWS.out;omega
 have nz2:w.heap.size+1≠gf:=by rw [hgf];have:=G1.out.size;have:=HWS.out;omega
 have nz3:w.heap.size+2≠ga:=by rw [hga];have:=G1.out.size;have:=HWS.out;omega
 have nz4:w.heap.size+2≠gf:=by rw [hgf];have:=G1.out.size;have:=HWS.out;omega
 rw [<- hw3];try rw [<- hgf]
 try rw [<- hga]
 have P1':=ab (P1.out.keep0 G3.out);have P2':=ab (P2.out.keep0 G3.out);clear hw3 hga hgf;have GG:w3.grownBy w3 none:=ae _ _;obtain ⟨s0,s1,s2,s3⟩:=CX.out w3 GG;obtain ⟨⟨y0,y1,y2,y3⟩,⟨q0,q1,q2,q3⟩⟩:=RX.out w3 GG;go_region_held3 (fun w'=>w'.cell? ⟨ga,0,none⟩=some (.slice ao1 n1 cc1)/\w'.cell? ⟨ga,1,none⟩=some (.slice ao2 n2 cc2)/\w'.cell? ⟨gf,0,none⟩=some (.int .i64 c1)/\w'.cell? ⟨gf,1,none⟩=some (.int .i64 c2)) (go_keep)
  (first | (go_at_call_of 21 (Value.slice ao1 n1 cc1);refine (qe _ _ _ V L _ (P1'.out.keep0 (by first | exact aa GG (aj _) | exact aa GG ah | exact GG)) (by omega) hL (HT.out.keep0 (aa GA.out (by first | exact aa GG (aj _) | exact aa GG ah | exact GG)))).mono ?_;rintro e wa ⟨va,rfl,pa,ga⟩;obtain ⟨voa,vca,rfl⟩:=pa.shape;have pa:=pa.low (base':=w.heap.size+3) (Nat.le_trans HSZ.out GG.size);rw [dt] at pa ⊢;have KP:=aa (by first | exact aj _ | exact ah | exact ae _ _) ga;(try have pb:=pb.keep0 KP);clear KP;have GG:w3.grownBy wa none:=aa (by first | exact aa GG (aj _) | exact aa GG ah | exact GG) ga;obtain ⟨za0,za1,za2,za3⟩:=CX.out wa GG;obtain ⟨⟨ya0,ya1,ya2,ya3⟩,⟨qa0,qa1,qa2,qa3⟩⟩:=RX.out wa GG) | (go_at_call_of 21 (Value.slice ao2 n2 cc2);refine (qe _ _ _ I L _ (P2'.out.keep0 (by first | exact aa GG (aj _) | exact aa GG ah | exact GG)) (by omega) hL (HT.out.keep0 (aa GA.out (by first | exact aa GG (aj _) | exact aa GG ah | exact GG)))).mono ?_;rintro e wb ⟨vb,rfl,pb,gb⟩;obtain ⟨vob,vcb,rfl⟩:=pb.shape;have pb:=pb.low (base':=w.heap.size+3) (Nat.le_trans HSZ.out GG.size);rw [dt] at pb ⊢;have KP:=aa (by first | exact aj _ | exact ah | exact ae _ _) gb;(try have pa:=pa.keep0 KP);clear KP;have GG:w3.grownBy wb none:=aa (by first | exact aa GG (aj _) | exact aa GG ah | exact GG) gb;obtain ⟨zb0,zb1,zb2,zb3⟩:=CX.out wb GG;obtain ⟨⟨yb0,yb1,yb2,yb3⟩,⟨qb0,qb1,qb2,qb3⟩⟩:=RX.out wb GG))
 all_goals
  have PA:=ab pa;have PB:=ab pb;have GF:=ab GG;clear pa pb GG;go_wp2;refine bodyPost_ret (v:=.tuple #[.agg #[.slice voa n1 vca,.slice vob n2 vcb],.agg #[.int .i64 c1,.int .i64 c2]]) (by simp [results,Tryz.results6,go_sem,ya0,ya1,ya2,ya3,yb0,yb1,yb2,yb3]) rfl ?_;exact ⟨c1,c2,n1,n2,V,I,_,_,rfl,((((PA.out.keepB (de _ _ _ _) (by omega)).keepB (de _ _ _ _) (by omega)).keepB (de _ _ _ _) (by omega)).keepB (de _ _ _ _) (by omega)).low (by omega),((((PB.out.keepB (de _ _ _ _) (by omega)).keepB (de _ _ _ _) (by omega)).keepB (de _ _ _ _) (by omega)).keepB (de _ _ _ _) (by omega)).low (by omega),P3.out,ai (ai (ai (ai (aa GA.out GF.out) _ _ (Nat.le_add_right _ 1)) _ _ (Nat.le_add_right _ 1)) _ _ (Nat.le_add_right _ 2)) _ _ (Nat.le_add_right _ 2),P1.out.fit (by omega),P2.out.fit (by omega)⟩
theorem CW (nodes:Int) (po:Option Addr) (pc:Nat) (ps:List aI) (L:Nat) (w:World) (hb:ia w) (ht:eY w) (hp:aK w (.slice po ps.length pc) ps) (hLs:∀ n,cm n ps->gw (dI n ps) (n+ps.length)<L) (hL2:2<=L) (hL:L<=49000000) :
  Calls Tryz.prog 6 #[.agg #[.int .i64 nodes,.slice po ps.length pc]] w fun e w'=>SolveE w nodes ps e w':=by
 refine (rH nodes po pc ps L w hb ht hp hLs hL2 hL).mono ?_;rintro e w' ⟨c1,c2,n1,n2,V,I,vv,iv,h1,h2,h3,h4,h5,_⟩;exact ⟨c1,c2,n1,n2,V,I,vv,iv,h1,h2,h3,h4,h5⟩
theorem Br (W:Nat->Nat->Rat) (m:Nat):∃ done perm order R d s,St W m done perm order R d s/\(done=m∨(done<m/\∀ i,done<=i->i<m->∀ k,done<=k->k<m->R i (order.getD k 0)=0)):=by
 have key:∀ k done,m-done=k->∀ perm order R d s,St W m done perm order R d s->∃ done perm order R d s,St W m done perm order R d s/\(done=m∨(done<m/\∀ i,done<=i->i<m->∀ k,done<=k->k<m->R i (order.getD k 0)=0)):=by
  intro k;induction k with
  | zero =>
   intro done hk perm order R d s h;exact ⟨done,perm,order,R,d,s,h,.inl (by have:=h.le;omega)⟩
  | succ k ih =>
   intro done hk perm order R d s h;by_cases hz:∀ i,done<=i->i<m->∀ k,done<=k->k<m->R i (order.getD k 0)=0
   ·exact ⟨done,perm,order,R,d,s,h,.inr ⟨by omega,hz⟩⟩
   ·have hex:∃ a c,done<=a/\a<m/\done<=c/\c<m/\R a (order.getD c 0)≠0:=by
     apply Classical.byContradiction;intro hno;apply hz;intro i h1 h2 c h3 h4;apply Classical.byContradiction;intro hne;exact hno ⟨i,c,h1,h2,h3,h4,hne⟩
    obtain ⟨a,c,ha1,ha2,hc1,hc2,hne⟩:=hex;have hlt:done<m:=by omega
    have ol:=h.ol;have h2:=yA h hlt ha1 ha2 hc1 hc2;have hp:(fun i=>R (bT done a i)) done ((gY order done c).getD done 0)≠0:=by
     show R (bT done a done) ((gY order done c).getD done 0)≠0
     rw [dq order done c done (by omega) (by omega),ir,ir];exact hne
    exact ih (done+1) (by omega) _ _ _ _ _ (mM h2 hlt (u:=1) (.inl rfl) hp)
 exact key m 0 (by omega) _ _ _ _ _ (vh W m)
theorem dot_sub (x y R:Nat->Rat):∀ n,cX n (fun j=>x j-y j) R=cX n x R-cX n y R:=by
 intro n;induction n with
 | zero=>unfold cX;grind
 | succ n ih=>unfold cX;rw [ih];grind
theorem lin_one (W:Nat->Nat->Rat) (m:Nat) (hu:∀ x:Nat->Rat,x m=0->(∀ r,r<m->cX (m+1) x (W r)=0)->∀ j,j<m->x j=0) :
  ∃ y,mD W m y/\∀ z,mD W m z->∀ j,j<m->z j=y j:=by
 obtain ⟨done,perm,order,R,d,s,h,hd⟩:=Br W m;have hmn:m∉order.take done:=fun hm=>by
  have:=h.ob m (List.mem_of_mem_take hm);omega
 have hfull:done=m:=by
  rcases hd with hd | ⟨hd,hz⟩
  ·exact hd
  ·exfalso
   have hol:=h.ol;obtain ⟨x,hx,hE⟩:=oy h (fun j=>if j=m then 0 else 1);have ho:order.getD done 0∉order.take done:=fun hm=>by
    obtain ⟨t,ht,ht2,e⟩:=kZ hm;have:=h.oi t done (by omega) hd e;omega
   have hlt:order.getD done 0<m:=h.ob _ (dm order _ (by omega));have hxm:x m=0:=by rw [hx m hmn,if_pos rfl]
   have hall:∀ r,r<m->cX (m+1) x (W r)=0:=by
    refine (mZ h x).2 (fun i hi=>?_);by_cases hi2:i<done
    ·exact hE i hi2
    ·have e:cX (m+1) x (R i)=cX m x (R i)+R i m*x m:=rfl;rw [e,hxm];have e2:cX m x (R i)=0:=by
      rw [<- lT x m];exact gQ x m (fun j hj=>pX h hz i (by omega) hi j hj)
     rw [e2];grind
   have:=hu x hxm hall _ hlt;rw [hx _ ho,if_neg (by omega)] at this;exact absurd this (by decide)
 subst hfull;obtain ⟨x,hx,hE⟩:=oy h (fun _=>-1);have hs:mD W done x:=⟨hx done hmn,(mZ h x).2 hE⟩;refine ⟨x,hs,fun z hz j hj=>?_⟩;have:=hu (fun j=>z j-x j) (by show z done-x done=0;rw [hz.1,hs.1];grind) (fun r hr=>by rw [dot_sub,hz.2 r hr,hs.2 r hr];grind) j hj;have e:z j-x j=0:=this;grind
structure jM (n:Nat) (ps:List aI) (V I:Nat->Rat):Prop where
 gnd:V 0=0
 node:∀ r,0<r->r<n->bC (fun i=>cW ps i r*I i) ps.length=0
 part:∀ i (h:i<ps.length),dg ps[i].kind ps[i].q*(V ps[i].a.toNat-V ps[i].b.toNat)+dh ps[i].kind ps[i].q*(V ps[i].c.toNat-V ps[i].d.toNat)+dp ps[i].kind ps[i].q*I i=0
theorem mu (f g:Nat->Rat):∀ k,bC (fun i=>f i+g i) k=bC f k+bC g k:=by
 intro k;induction k with
 | zero=>show (0:Rat)=0+0;grind
 | succ k ih=>rw [aP,aP,aP,ih];grind
theorem mv (c:Rat) (f:Nat->Rat):∀ k,bC (fun i=>c*f i) k=c*bC f k:=by
 intro k;induction k with
 | zero=>show (0:Rat)=c*0;grind
 | succ k ih=>rw [aP,aP,ih];grind
theorem rK (f:Nat->Rat) (k:Nat) (h:∀ i,i<k->f i=0):bC f k=0:=by
 induction k with
 | zero=>rfl
 | succ k ih=>rw [aP,ih (fun i hi=>h i (by omega)),h k (by omega)];grind
theorem aM.add {n:Nat} {ps:List aI} {V I V' I':Nat->Rat} (h:aM n ps V I) (k:jM n ps V' I'):aM n ps (fun j=>V j+V' j) (fun i=>I i+I' i):=by
 refine ⟨by show V 0+V' 0=0;rw [h.gnd,k.gnd];grind,fun r h0 hn=>?_,fun i hi=>?_⟩
 ·have e:bC (fun i=>cW ps i r*(I i+I' i)) ps.length=bC (fun i=>cW ps i r*I i+cW ps i r*I' i) ps.length:=dK _ _ _ (fun i _=>by grind);show bC (fun i=>cW ps i r*(I i+I' i)) ps.length=0
  rw [e,mu,h.node r h0 hn,k.node r h0 hn];grind
 ·have h1:=h.part i hi;have h2:=k.part i hi;grind
theorem aM.sub {n:Nat} {ps:List aI} {V I V' I':Nat->Rat} (h:aM n ps V I) (k:aM n ps V' I'):jM n ps (fun j=>V j-V' j) (fun i=>I i-I' i):=by
 refine ⟨by show V 0-V' 0=0;rw [h.gnd,k.gnd];grind,fun r h0 hn=>?_,fun i hi=>?_⟩
 ·have e:bC (fun i=>cW ps i r*(I i-I' i)) ps.length=bC (fun i=>cW ps i r*I i + -1*(cW ps i r*I' i)) ps.length:=dK _ _ _ (fun i _=>by grind);show bC (fun i=>cW ps i r*(I i-I' i)) ps.length=0
  rw [e,mu,mv,h.node r h0 hn,k.node r h0 hn];grind
 ·have h1:=h.part i hi;have h2:=k.part i hi;grind
def nf (n:Nat) (ps:List aI):Prop:=∀ V I,jM n ps V I->(∀ j,j<n->V j=0)/\∀ i,i<ps.length->I i=0
theorem BB {n:Nat} {ps:List aI} {V I:Nat->Rat} (h:aM n ps V I) (hu:∀ V' I',aM n ps V' I'->(∀ j,j<n->V' j=V j)/\∀ i,i<ps.length->I' i=I i):nf n ps:=by
 intro V' I' k;obtain ⟨h1,h2⟩:=hu _ _ (h.add k);refine ⟨fun j hj=>?_,fun i hi=>?_⟩
 ·have:V j+V' j=V j:=h1 j hj;grind
 ·have:I i+I' i=I i:=h2 i hi;grind
theorem me {n:Nat} {ps:List aI} (hR:cm n ps) (h:nf n ps):∃ V I,aM n ps V I/\∀ V' I',aM n ps V' I'->(∀ j,j<n->V' j=V j)/\∀ i,i<ps.length->I' i=I i:=by
 obtain ⟨y,hy,hz⟩:=lin_one (iR n ps) (n+ps.length) (fun x hx hrows j hj=>by
  have hlo:=hR.lo
  -- x is what an answer could have besides: from rows to laws
  have e:∀ z:Nat->Rat,z (n+ps.length) = -1->(∀ r,r<n+ps.length->cX (n+ps.length+1) z (iR n ps r)=0)->aM n ps z (fun i=>z (n+i)):=fun z h1 h2=>((kL hR z).1 ⟨h1,h2⟩).2
  have hom:jM n ps x (fun i=>x (n+i)):=by
   refine ⟨?_,fun r h0 hn=>?_,fun i hi=>?_⟩
   ·have:=hrows 0 (by omega);unfold iR at this;rw [if_pos rfl,ik,lT,if_pos (by omega)] at this;grind
   ·have:=hrows r (by omega);unfold iR at this;rw [if_neg (by omega),if_pos hn,tQ] at this;exact this
   ·have:=hrows (n+i) (by omega);obtain ⟨xa,xb,xc,xd,ea,eb,ec,ed,ha,hb,hc,hd⟩:=hR.ends ps[i] (List.getElem_mem hi);unfold iR at this;rw [if_neg (by omega),if_neg (by omega),show n+i-n=i by omega,List.getElem?_eq_getElem hi] at this;have d:=tR x n ps.length i ps[i].a.toNat ps[i].b.toNat ps[i].c.toNat ps[i].d.toNat (dg ps[i].kind ps[i].q) (dp ps[i].kind ps[i].q) (dh ps[i].kind ps[i].q) (dV ps[i].kind ps[i].q) hi (by rw [ea];simpa using ha) (by rw [eb];simpa using hb) (by rw [ec];simpa using hc) (by rw [ed];simpa using hd);have d2:cX (n+ps.length+1) x (prow n ps.length i ps[i])=0:=this;unfold prow at d2;rw [d,hx] at d2;grind
  obtain ⟨h1,h2⟩:=h _ _ hom;by_cases hjn:j<n
  ·exact h1 j hjn
  ·have:x (n+(j-n))=0:=h2 (j-n) (by omega);rw [show n+(j-n)=j by omega] at this;exact this)
 refine ⟨y,fun i=>y (n+i),((kL hR y).1 hy).2,fun V' I' hh=>?_⟩;obtain ⟨x,hx1,hx2,hx3⟩:=lH hR hh;exact ⟨fun j hj=>by rw [<- hx2 j hj];exact hz x hx1 j (by omega),fun i hi=>by rw [<- hx3 i hi];exact hz x hx1 (n+i) (by omega)⟩
theorem lE (p:aI):(bw p).kind=p.kind/\(bw p).a=p.a/\(bw p).b=p.b/\(bw p).c=p.c/\(bw p).d=p.d:=by
 unfold bw;split<;>exact ⟨rfl,rfl,rfl,rfl,rfl⟩
theorem Ao (p:aI):dg (bw p).kind (bw p).q=dg p.kind p.q/\dh (bw p).kind (bw p).q=dh p.kind p.q/\dp (bw p).kind (bw p).q=dp p.kind p.q:=by
 by_cases h:p.kind=4∨p.kind=5
 ·rw [(lE p).1];rcases h with h | h<;>rw [h]<;>exact ⟨rfl,rfl,rfl⟩
 ·have e:bw p=p:=by unfold bw;rw [if_neg h]
  rw [e];exact ⟨rfl,rfl,rfl⟩
structure sX (ps qs:List aI):Prop where
 len:qs.length=ps.length
 at_:∀ i (h:i<ps.length) (h':i<qs.length),qs[i].a=ps[i].a/\qs[i].b=ps[i].b/\qs[i].c=ps[i].c/\qs[i].d=ps[i].d/\dg qs[i].kind qs[i].q=dg ps[i].kind ps[i].q/\dh qs[i].kind qs[i].q=dh ps[i].kind ps[i].q/\dp qs[i].kind qs[i].q=dp ps[i].kind ps[i].q
theorem amp_of {p q:aI} (ha:q.a=p.a) (hb:q.b=p.b) (r:Nat):qQ q r=qQ p r:=by unfold qQ;rw [ha,hb]
theorem sX.hom {n:Nat} {ps qs:List aI} (h:sX ps qs) {V I:Nat->Rat} (k:jM n qs V I):jM n ps V I:=by
 refine ⟨k.gnd,fun r h0 hn=>?_,fun i hi=>?_⟩
 ·have:=k.node r h0 hn;rw [h.len] at this;rw [<- this];refine dK _ _ _ (fun i hi=>?_);have hq:i<qs.length:=by rw [h.len];exact hi
  obtain ⟨ha,hb,_⟩:=h.at_ i hi hq;unfold cW;rw [List.getElem?_eq_getElem hi,List.getElem?_eq_getElem hq];show qQ ps[i] r*I i=qQ qs[i] r*I i
  rw [amp_of ha hb]
 ·have hq:i<qs.length:=by rw [h.len];exact hi
  obtain ⟨ha,hb,hc,hd,l1,l2,l3⟩:=h.at_ i hi hq;have:=k.part i hq;rw [ha,hb,hc,hd,l1,l2,l3] at this;exact this
theorem sX.fixed {n:Nat} {ps qs:List aI} (h:sX ps qs) (k:nf n ps):nf n qs:=by
 intro V I hh;obtain ⟨h1,h2⟩:=k V I (h.hom hh);exact ⟨h1,fun i hi=>h2 i (by rw [<- h.len];exact hi)⟩
theorem tj (ps:List aI):sX ps (ps.map bw):=by
 refine ⟨by simp,fun i h h'=>?_⟩;rw [List.getElem_map];obtain ⟨_,ha,hb,hc,hd⟩:=lE ps[i];obtain ⟨l1,l2,l3⟩:=Ao ps[i];exact ⟨ha,hb,hc,hd,l1,l2,l3⟩
theorem wJ {n:Nat} {ps:List aI} {p:aI} (hA:dg p.kind p.q=0) (hL:dh p.kind p.q=0) (hF:dp p.kind p.q=1) (h:nf n ps):nf n (ps++[p]):=by
 intro V I k;have hlen:(ps++[p]).length=ps.length+1:=by simp
 have e0:(ps++[p])[ps.length]'(by omega)=p:=by simp
 have hI:I ps.length=0:=by
  have:=k.part ps.length (by omega);rw [e0,hA,hL,hF] at this;grind
 have hom:jM n ps V I:=by
  refine ⟨k.gnd,fun r h0 hn=>?_,fun i hi=>?_⟩
  ·have:=k.node r h0 hn;rw [hlen,aP,hI] at this;have e:bC (fun i=>cW (ps++[p]) i r*I i) ps.length=bC (fun i=>cW ps i r*I i) ps.length:=dK _ _ _ (fun i hi=>by unfold cW;rw [List.getElem?_append_left hi]);rw [e] at this;grind
  ·have:=k.part i (by omega);have e:(ps++[p])[i]'(by omega)=ps[i]:=List.getElem_append_left hi;rw [e] at this;exact this
 obtain ⟨h1,h2⟩:=h V I hom;refine ⟨h1,fun i hi=>?_⟩;by_cases e:i=ps.length
 ·rw [e];exact hI
 ·exact h2 i (by omega)
theorem wI {n:Nat} {ps:List aI} (h:nf n ps) (a b:Int):nf n (bH ps a b):=wJ rfl rfl rfl ((tj ps).fixed h)
theorem xu {n:Nat} {ps:List aI} (h:cm n ps) (hl:ps.length<=19) {a b:Int} (ha:0<=a/\a<(n:Int)) (hb:0<=b/\b<(n:Int)):cm n (bH ps a b):=by
 refine ⟨h.lo,h.hi,by unfold bH;simp;omega,fun p hp=>?_⟩;unfold bH at hp;rcases List.mem_append.1 hp with hp | hp
 ·obtain ⟨q,hq,rfl⟩:=List.mem_map.1 hp;obtain ⟨_,ea,eb,ec,ed⟩:=lE q;rw [ea,eb,ec,ed];exact h.ends q hq
 ·simp only [List.mem_singleton] at hp;subst hp;have:=h.lo;exact ⟨b.toNat,a.toNat,0,0,by show b=_;omega,by show a=_;omega,rfl,rfl,by omega,by omega,by omega,by omega⟩
end Go.Proofs.YthblidglcppakaaGreatDoor
