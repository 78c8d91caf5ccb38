/- Contracts. -/
import Derived.Test.YtkbmbmdemajoaaaGreatDoorXPn
import Derived.Laws.CopyOwn
namespace Go.Proofs.YtkbmbmdemajoaaaGreatDoor
open Go.RowKit
set_option linter.unusedVariables false
set_option linter.unusedSimpArgs false
set_option maxHeartbeats 8000000
set_option maxRecDepth 10000
def bE (k:Int) (v:Rat):Rat:=if k=1 then 1 else if k=2 then 1 else if k=3 then 0 else if k=4 then 1 else if k=6 then 1 else 0
def bF (k:Int) (v:Rat):Rat:=if k=1 then 0-v else if k=2 then 0 else if k=3 then 1 else if k=4 then 0 else if k=6 then 0 else 1
def bM (k:Int) (v:Rat):Rat:=if k=6 then 0-v else if k=7 then 0-v else 0
def bG (k:Int) (v:Rat):Rat:=if k=1 then 0 else if k=2 then 0 else if k=3 then 0 else if k=4 then v else if k=6 then 0 else if k=7 then 0 else v
def LawE (w:World) (qa qf ql qs:Rat) (L:Nat) (e:Ending) (w':World):Prop :=
 ∃ u1 d1 u2 d2 u3 d3 u4 d4:Value,e=.returned (.agg #[.bool (rB qa),u1,d1,.bool (rB qf),u2,d2,.bool (rB ql),u3,d3,.bool (rB qs),u4,d4])
  /\ FQ w' (.agg #[.bool (rB qa),u1,d1]) qa L/\FQ w' (.agg #[.bool (rB qf),u2,d2]) qf L/\FQ w' (.agg #[.bool (rB ql),u3,d3]) ql L/\FQ w' (.agg #[.bool (rB qs),u4,d4]) qs L/\w.grownBy w' none
theorem qZ {L:Nat} (a:1<=L) (v:Rat):bg L (0*v):=by
 rw [Rat.zero_mul];exact (aX (default:World) L).fits a
theorem jx {w a c:World} {g L:Nat} {qa qf ql qs:Rat} {u1 d u2 e u3 f u4 h:Value} (b:bP a g) (gr:a.grownBy c (some g)) (i:w.grownBy c none)
  (h1:FQ a (.agg #[.bool (rB qa),u1,d]) qa L) (h2:FQ a (.agg #[.bool (rB qf),u2,e]) qf L) (h3:FQ a (.agg #[.bool (rB ql),u3,f]) ql L) (h4:FQ a (.agg #[.bool (rB qs),u4,h]) qs L) :
  LawE w qa qf ql qs L (.returned (.agg #[.bool (rB qa),u1,d,.bool (rB qf),u2,e,.bool (rB ql),u3,f,.bool (rB qs),u4,h])) c :=
 ⟨_,_,_,_,_,_,_,_,rfl,FV.other h1 b gr,FV.other h2 b gr,FV.other h3 b gr,FV.other h4 b gr,i⟩
theorem law_at (fb:Bool) (K m:Option Addr) (fl fc n o:Nat) (p:aD) (h A bs H:Nat) (mm:Int) (L:Nat) (w:World) (hu:w.cell? ⟨1,0,none⟩=some (.int .i64 mm))
  (hF:w.cell? ⟨h,0,none⟩=some (.bool fb)/\w.cell? ⟨h,1,none⟩=some (.slice K fl fc)/\w.cell? ⟨h,2,none⟩=some (.slice m n o)/\w.cell? ⟨h,3,none⟩=some (.func (.func 60) #[] #[])/\w.cell? ⟨h,4,none⟩=some (.func (.func 61) #[] #[])/\w.cell? ⟨h,5,none⟩=some (.func (.func 62) #[] #[])/\w.cell? ⟨h,6,none⟩=some (.func (.func 63) #[] #[])/\w.cell? ⟨h,7,none⟩=some (.func (.func 64) #[] #[])/\w.cell? ⟨h,8,none⟩=some (.func (.func 65) #[] #[])/\w.cell? ⟨h,9,none⟩=some (.func (.func 66) #[] #[])/\w.cell? ⟨h,10,none⟩=some (.func (.func 67) #[] #[])) (h1:FQ w (.agg #[.bool fb,.slice K fl fc,.slice m n o]) 1 L)
  (hop:w.cell? ⟨A,0,none⟩=some (.func (.func 68) #[] #[.pointer (some ⟨h,0,none⟩),.pointer (some ⟨H,0,none⟩)])) (hs:w.cell? ⟨bs,0,none⟩=some (.bool false)/\w.cell? ⟨bs,1,none⟩=some (.slice none 0 0)/\w.cell? ⟨bs,2,none⟩=some (.slice none 0 0)) (hz:w.cell? ⟨H,0,none⟩=some (.bool false)/\w.cell? ⟨H,1,none⟩=some (.slice none 0 0)/\w.cell? ⟨H,2,none⟩=some (.slice none 0 0)) (hsz:p.v.size+1<=L) (hL:L<=100000000) :
  Calls Tryz.prog 69 #[p.val,.pointer (some ⟨h,0,none⟩),.pointer (some ⟨A,0,none⟩),.pointer (some ⟨bs,0,none⟩)] w
   fun e f=>LawE w (bE p.kind (fy p.v.data.toList)) (bF p.kind (fy p.v.data.toList)) (bM p.kind (fy p.v.data.toList)) (bG p.kind (fy p.v.data.toList)) L e f:=by
 have hw:=ab hu;obtain rfl:fb=rB 1:=FV.parts h1;have HF:=ab hF;have H1:=ab h1;have hx:=ab hop;have HS:=ab hs;have HZ:=ab hz;have M:1<=L:=O
 have lf:h<w.heap.size:=bZ hF.1;have lo:A<w.heap.size:=bZ hop;have ls:bs<w.heap.size:=bZ hs.1;have lz:H<w.heap.size:=bZ hz.1;obtain ⟨v,hv⟩:=eX (fy p.v.data.toList);rw [<- hv];have HV:=ab hv;clear hu hF h1 hop hs hz hv;unfold aD.val;obtain ⟨W,hW⟩:=eX ((w.alloc (Obj.cells #[.int .i64 p.kind,.int .i64 p.a,.int .i64 p.b,.int .i64 p.c,.int .i64 p.d,.string p.v] 45)).alloc (Obj.cells #[.bool false,.slice none 0 0,.slice none 0 0,.bool false,.slice none 0 0,.slice none 0 0,.bool false,.slice none 0 0,.slice none 0 0,.bool false,.slice none 0 0,.slice none 0 0] 92));have I:Hid (w.grownBy W none):=by rw [hW];exact ag (ag (ae _ _) _) _
 have N:Hid (W.heap.size=w.heap.size+2):=by show _=_;rw [hW];simp
 have BL:Hid (∀ wx,W.grownBy wx none->wx.heap[w.heap.size+1]? = some (Obj.cells #[.bool false,.slice none 0 0,.slice none 0 0,.bool false,.slice none 0 0,.slice none 0 0,.bool false,.slice none 0 0,.slice none 0 0,.bool false,.slice none 0 0,.slice none 0 0] 92 (0,0))):=by
  intro wx hg;rw [hg.block (w.heap.size+1) (by rw [N];omega) Z,hW];have:=heap_alloc_new (w.alloc (Obj.cells #[.int .i64 p.kind,.int .i64 p.a,.int .i64 p.b,.int .i64 p.c,.int .i64 p.d,.string p.v] 45)) (Obj.cells #[.bool false,.slice none 0 0,.slice none 0 0,.bool false,.slice none 0 0,.slice none 0 0,.bool false,.slice none 0 0,.slice none 0 0,.bool false,.slice none 0 0,.slice none 0 0] 92);simpa using this
 have G5:Hid (∀ wx,W.grownBy wx none->(wx.cell? ⟨w.heap.size+1,0,none⟩=some (.bool false)/\wx.cell? ⟨w.heap.size+1,1,none⟩=some (.slice none 0 0)/\wx.cell? ⟨w.heap.size+1,2,none⟩=some (.slice none 0 0)/\wx.cell? ⟨w.heap.size+1,3,none⟩=some (.bool false)/\wx.cell? ⟨w.heap.size+1,4,none⟩=some (.slice none 0 0)/\wx.cell? ⟨w.heap.size+1,5,none⟩=some (.slice none 0 0)/\wx.cell? ⟨w.heap.size+1,6,none⟩=some (.bool false)/\wx.cell? ⟨w.heap.size+1,7,none⟩=some (.slice none 0 0)/\wx.cell? ⟨w.heap.size+1,8,none⟩=some (.slice none 0 0)/\wx.cell? ⟨w.heap.size+1,9,none⟩=some (.bool false)/\wx.cell? ⟨w.heap.size+1,10,none⟩=some (.slice none 0 0)/\wx.cell? ⟨w.heap.size+1,11,none⟩=some (.slice none 0 0))/\(wx.frozen? ⟨w.heap.size+1,0,none⟩=false/\wx.frozen? ⟨w.heap.size+1,1,none⟩=false/\wx.frozen? ⟨w.heap.size+1,2,none⟩=false/\wx.frozen? ⟨w.heap.size+1,3,none⟩=false/\wx.frozen? ⟨w.heap.size+1,4,none⟩=false/\wx.frozen? ⟨w.heap.size+1,5,none⟩=false/\wx.frozen? ⟨w.heap.size+1,6,none⟩=false/\wx.frozen? ⟨w.heap.size+1,7,none⟩=false/\wx.frozen? ⟨w.heap.size+1,8,none⟩=false/\wx.frozen? ⟨w.heap.size+1,9,none⟩=false/\wx.frozen? ⟨w.heap.size+1,10,none⟩=false/\wx.frozen? ⟨w.heap.size+1,11,none⟩=false)):=by
  intro wx hg;have hy:=BL.out wx hg;refine ⟨⟨?_,?_,?_,?_,?_,?_,?_,?_,?_,?_,?_,?_⟩,⟨?_,?_,?_,?_,?_,?_,?_,?_,?_,?_,?_,?_⟩⟩<;>simp [World.cell?,World.frozen?,hy]
 have NW:Hid (∀ wx,W.grownBy wx none->bP wx (w.heap.size+1)):=by
  intro wx hg i x;simp only [World.cell?,BL.out wx hg];rcases i with _ | _ | _ | _ | _ | _ | _ | _ | _ | _ | _ | _ | i<;>simp
 have PC:Hid (∀ wx,W.grownBy wx none->wx.cell? ⟨w.heap.size,0,none⟩=some (.int .i64 p.kind)/\wx.cell? ⟨w.heap.size,5,none⟩=some (.string p.v)):=by
  intro wx hg;rw [hW] at hg;exact ⟨hg.cell zG Z,hg.cell zG Z⟩
 have CX:Hid (∀ wx,W.grownBy wx none->wx.cell? ⟨h,3,none⟩=some (.func (.func 60) #[] #[])/\wx.cell? ⟨w.heap.size,5,none⟩=some (.string p.v)):=fun wx hg=>⟨hg.cell (I.cell HF.2.2.2.1 Z) Z,(PC wx hg).2⟩
 have GG:W.grownBy W none:=ae _ _;obtain ⟨s0,s1⟩:=CX.out W GG;have hA:W.heap.size≠h:=by have:=N.out;omega
 have hB:W.heap.size≠w.heap.size:=by have:=N.out;omega
 go_enter Tryz.func69,Tryz.ntmps69
 go_upto_region 1 with fail;rw [<- hW];clear hW;go_cut [6] (fun s6 wx=>Hid (∃ gs,s6=.pointer (some ⟨gs,0,none⟩)/\W.heap.size<=gs/\aH wx gs 1 (fun _=>v) L/\W.grownBy wx none))
 case first =>
  go_region_held3 (fun f=>f.cell? ⟨h,3,none⟩=some (.func (.func 60) #[] #[])/\f.cell? ⟨w.heap.size,5,none⟩=some (.string p.v)) (go_keep)
   (first | (go_at_call 59;refine (DH p.v mm _ O ((aa GG (by first | exact aP _ | exact aA | exact ae _ _ | exact ag (aP _) _ | exact ag aA _ | exact aj (ag (ae _ _) _) 1 | exact aj (ag (ae _ _) _) _)).cell (I.cell hw Z) Z)).mono ?_;rintro e wa ⟨va,rfl,pa,ga⟩;rw [<- HV] at pa;have pa:=pa.mono hsz;obtain ⟨ao,al,ac,bo,bl,bc,rfl⟩:=pa.shape;have GG:W.grownBy wa none:=aa (aa GG (by first | exact aP _ | exact aA | exact ae _ _ | exact ag (aP _) _ | exact ag aA _ | exact aj (ag (ae _ _) _) 1 | exact aj (ag (ae _ _) _) _)) ga;obtain ⟨a0,a1⟩:=CX.out wa GG;have hE:wa.heap.size≠h:=(by have:=GG.size;have:=N.out;omega);have hG:wa.heap.size≠w.heap.size:=(by have:=GG.size;have:=N.out;omega);(try (have gy:=aa (aj (ae (W.alloc (Obj.cells #[.bool false,.slice none 0 0,.slice none 0 0] 81)) none) 1) ga;obtain ⟨hp,hq,hr,j⟩:=aT gy;have hj:=j 0;have hk:=j 1;have hl:=j 2;clear j))) | (go_at_call 60;refine (ofId_at _ v L _ (pa.keep0 (by first | exact aP _ | exact aA | exact ae _ _ | exact ag (aP _) _ | exact ag aA _ | exact aj (ag (ae _ _) _) 1 | exact ag (ae _ _) _))).mono ?_;rintro e wx ⟨vx,rfl,B,gx⟩;obtain ⟨po,pl,pc,qo,ql,qc,rfl⟩:=B.shape;have hm:=GG;have GG:W.grownBy wx none:=aa (aa hm (by first | exact aP _ | exact aA | exact ae _ _ | exact ag (aP _) _ | exact ag aA _ | exact aj (ag (ae _ _) _) 1 | exact ag (ae _ _) _)) gx;obtain ⟨x0,x1⟩:=CX.out wx GG;(try first | (have gy:=aa gy gx;obtain ⟨hp,hq,hr,j⟩:=aT gy;have hj:=j 0;have hk:=j 1;have hl:=j 2;clear j) | (have gz:=aa (aj (ae (wa.alloc (Obj.cells #[.bool false,.slice none 0 0,.slice none 0 0] 81)) none) 1) gx;obtain ⟨hp,hq,hr,j⟩:=aT gz;have hj:=j 0;have hk:=j 1;have hl:=j 2;clear j) | (have gz:=aa (ae (wa.alloc (Obj.cells #[.bool false,.slice none 0 0,.slice none 0 0] 81)) none) gx;obtain ⟨hp,hq,hr,j⟩:=aT gz;have hj:=j 0;have hk:=j 1;have hl:=j 2;clear j))))
  all_goals (go_wp2_with fail;go_meet;first
   | exact ⟨_,rfl,GG.size,mB (B.keep0 kw),ag zF _⟩
   | exact ⟨_,rfl,zL,oC gy B,ah (ah (ah GG _ _ zL) _ _ zL) _ _ zL⟩
   | exact ⟨_,rfl,hm.size,oC gz B,ah (ah (ah GG _ _ hm.size) _ _ hm.size) _ _ hm.size⟩)
 case rest =>
  obtain ⟨gs,rfl,hS,f2,g2⟩:=hcut.out;have q:=ab g2;obtain ⟨so,sl,sc,J,tl,tc,d0,d1,d2,d3,_⟩:=f2.var;have D3:=ab d3;have CY:Hid (∀ wx,wc.grownBy wx none->wx.cell? ⟨h,0,none⟩=some (.bool (rB 1))/\wx.cell? ⟨h,1,none⟩=some (.slice K fl fc)/\wx.cell? ⟨h,2,none⟩=some (.slice m n o)/\wx.cell? ⟨h,6,none⟩=some (.func (.func 63) #[] #[])/\wx.cell? ⟨A,0,none⟩=some (.func (.func 68) #[] #[.pointer (some ⟨h,0,none⟩),.pointer (some ⟨H,0,none⟩)])/\wx.cell? ⟨bs,0,none⟩=some (.bool false)/\wx.cell? ⟨bs,1,none⟩=some (.slice none 0 0)/\wx.cell? ⟨bs,2,none⟩=some (.slice none 0 0)/\wx.cell? ⟨gs,0,none⟩=some (.bool (rB v))/\wx.cell? ⟨gs,1,none⟩=some (.slice so sl sc)/\wx.cell? ⟨gs,2,none⟩=some (.slice J tl tc)):=by
   intro wx hg;have P:=aa I (aa q hg);exact ⟨P.cell HF.1 Z,P.cell HF.2.1 Z,P.cell HF.2.2.1 Z,P.cell HF.2.2.2.2.2.2.1 Z,P.cell hx Z,P.cell HS.1 Z,P.cell HS.2.1 Z,P.cell HS.2.2 Z,hg.cell d0 Z,hg.cell d1 Z,hg.cell d2 Z⟩
  have C:Hid (∀ wx,wc.grownBy wx none->wx.cell? ⟨h,5,none⟩=some (.func (.func 62) #[] #[])/\wx.cell? ⟨H,0,none⟩=some (.bool false)/\wx.cell? ⟨H,1,none⟩=some (.slice none 0 0)/\wx.cell? ⟨H,2,none⟩=some (.slice none 0 0)):=by
   intro wx hg;have P:=aa I (aa q hg);exact ⟨P.cell HF.2.2.2.2.2.1 Z,P.cell HZ.1 Z,P.cell HZ.2.1 Z,P.cell HZ.2.2 Z⟩
  have kc:=(PC wc q).1;clear hcut f2 g2 GG d0 d1 d2 d3 s0 s1 CX;have GG:wc.grownBy wc none:=ae _ _;obtain ⟨s0,s1,s2,s3,s4,s5,s6,s7,s8,s9,s10⟩:=CY.out wc GG;have hA:w.heap.size+1≠h:=O
  have hB:w.heap.size+1≠A:=O
  have hH:w.heap.size+1≠bs:=O
  have hI:w.heap.size+1≠gs:=by have:=N.out;omega
  by_cases k:p.kind=1
  ·have D:bE p.kind v=1:=by unfold bE;simp [k]
   have E:bF p.kind v=0-v:=by unfold bF;simp [k]
   have F:bM p.kind v=0:=by unfold bM;simp [k]
   have G:bG p.kind v=0:=by unfold bG;simp [k]
   rw [k] at kc;clear k;have Q:=ab D;have R:=ab E;have S:=ab F;have T:=ab G;clear D E F G;go_wp2_with fail;go_region_held3 (fun f=>f.cell? ⟨h,0,none⟩=some (.bool (rB 1))/\f.cell? ⟨h,1,none⟩=some (.slice K fl fc)/\f.cell? ⟨h,2,none⟩=some (.slice m n o)/\f.cell? ⟨h,6,none⟩=some (.func (.func 63) #[] #[])/\f.cell? ⟨A,0,none⟩=some (.func (.func 68) #[] #[.pointer (some ⟨h,0,none⟩),.pointer (some ⟨H,0,none⟩)])/\f.cell? ⟨bs,0,none⟩=some (.bool false)/\f.cell? ⟨bs,1,none⟩=some (.slice none 0 0)/\f.cell? ⟨bs,2,none⟩=some (.slice none 0 0)/\f.cell? ⟨gs,0,none⟩=some (.bool (rB v))/\f.cell? ⟨gs,1,none⟩=some (.slice so sl sc)/\f.cell? ⟨gs,2,none⟩=some (.slice J tl tc)) (go_keep)
    (first | (go_at_call 68;refine (ja _ (v) h H L _ (D3.keep0 zF) (C _ zF).1 (C _ zF).2.1 (C _ zF).2.2.1 (C _ zF).2.2.2 M hL).mono ?_;rintro e wx ⟨vx,rfl,B,gx⟩;obtain ⟨ao,al,ac,bo,bl,bc,rfl⟩:=B.shape;have GG:wc.grownBy wx none:=aa zF gx;obtain ⟨x0,x1,x2,x3,x4,x5,x6,x7,x8,x9,ho⟩:=CY.out wx GG;obtain ⟨⟨c0,c1,U,V,X,Y,c6,c7,c8,c9,u,y⟩,⟨f0,f1,f2,f3,f4,f5,f6,f7,f8,f9,he,hf⟩⟩:=G5.out wx (aa q GG)))
   all_goals
    go_wp2;refine bodyPost_ret (v:=.agg #[.bool (rB 1),.slice K fl fc,.slice m n o,.bool (rB (0-v)),.slice ao al ac,.slice bo bl bc,.bool false,.slice none 0 0,.slice none 0 0,.bool false,.slice none 0 0,.slice none 0 0]) (by simp [results,Tryz.results69,go_sem,c0,c1,U,V,X,Y,c6,c7,c8,c9,u,y]) rfl ?_;rw [Q,R,S,T];exact jx (g:=w.heap.size+1) (NW _ (aa q zF)) (aq (aq (aq (aq (aq (aq (aq (aq (aq (aq (aq (aq (ae _ _))))))))))))) (zS (zS (zS (zS (zS (zS (zS (zS (zS (zS (zS (zS (aa I (aa q zF)))))))))))))) (H1.keep0 (aa I (aa q zF))) (B) (aX _ _) (aX _ _)
  ·skip;by_cases l:p.kind=2
   ·have D:bE p.kind v=1:=by unfold bE;simp [l]
    have E:bF p.kind v=0:=by unfold bF;simp [l]
    have F:bM p.kind v=0:=by unfold bM;simp [l]
    have G:bG p.kind v=0:=by unfold bG;simp [l]
    rw [l] at kc;clear k l;have Q:=ab D;have R:=ab E;have S:=ab F;have T:=ab G;clear D E F G;go_wp2_with fail;go_region_held3 (fun f=>f.cell? ⟨h,0,none⟩=some (.bool (rB 1))/\f.cell? ⟨h,1,none⟩=some (.slice K fl fc)/\f.cell? ⟨h,2,none⟩=some (.slice m n o)/\f.cell? ⟨h,6,none⟩=some (.func (.func 63) #[] #[])/\f.cell? ⟨A,0,none⟩=some (.func (.func 68) #[] #[.pointer (some ⟨h,0,none⟩),.pointer (some ⟨H,0,none⟩)])/\f.cell? ⟨bs,0,none⟩=some (.bool false)/\f.cell? ⟨bs,1,none⟩=some (.slice none 0 0)/\f.cell? ⟨bs,2,none⟩=some (.slice none 0 0)/\f.cell? ⟨gs,0,none⟩=some (.bool (rB v))/\f.cell? ⟨gs,1,none⟩=some (.slice so sl sc)/\f.cell? ⟨gs,2,none⟩=some (.slice J tl tc)) (go_keep)
     (first | (go_at_call 63;refine (eN _ _ 0 v L L _ (aX _ _) (D3.keep0 zF) O).mono ?_;rintro e wa ⟨va,rfl,pa,ga⟩;have pa:=pa.tight (qZ M v);rw [Rat.zero_mul] at pa;obtain ⟨po,pl,pc,qo,hC,qc,rfl⟩:=pa.shape;have GG:wc.grownBy wa none:=aa zF ga;obtain ⟨a0,a1,a2,a3,a4,a5,a6,a7,a8,a9,hD⟩:=CY.out wa GG) | (go_at_call 68;refine (ja _ (0) h H L _ (pa.keep0 kw) (C _ zF).1 (C _ zF).2.1 (C _ zF).2.2.1 (C _ zF).2.2.2 M hL).mono ?_;rintro e wx ⟨vx,rfl,B,gx⟩;rw [show (0:Rat)-0=0 from by grind] at B;obtain ⟨ao,al,ac,bo,bl,bc,rfl⟩:=B.shape;have GG:wc.grownBy wx none:=aa zF gx;obtain ⟨x0,x1,x2,x3,x4,x5,x6,x7,x8,x9,ho⟩:=CY.out wx GG;obtain ⟨⟨c0,c1,U,V,X,Y,c6,c7,c8,c9,u,y⟩,⟨f0,f1,f2,f3,f4,f5,f6,f7,f8,f9,he,hf⟩⟩:=G5.out wx (aa q GG)))
    all_goals
     go_wp2;refine bodyPost_ret (v:=.agg #[.bool (rB 1),.slice K fl fc,.slice m n o,.bool (rB (0)),.slice ao al ac,.slice bo bl bc,.bool false,.slice none 0 0,.slice none 0 0,.bool false,.slice none 0 0,.slice none 0 0]) (by simp [results,Tryz.results69,go_sem,c0,c1,U,V,X,Y,c6,c7,c8,c9,u,y]) rfl ?_;rw [Q,R,S,T];exact jx (g:=w.heap.size+1) (NW _ (aa q zF)) (aq (aq (aq (aq (aq (aq (aq (aq (aq (aq (aq (aq (ae _ _))))))))))))) (zS (zS (zS (zS (zS (zS (zS (zS (zS (zS (zS (zS (aa I (aa q zF)))))))))))))) (H1.keep0 (aa I (aa q zF))) (B) (aX _ _) (aX _ _)
   ·skip;by_cases r:p.kind=3
    ·have D:bE p.kind v=0:=by unfold bE;simp [r]
     have E:bF p.kind v=1:=by unfold bF;simp [r]
     have F:bM p.kind v=0:=by unfold bM;simp [r]
     have G:bG p.kind v=0:=by unfold bG;simp [r]
     rw [r] at kc;clear k l r;have Q:=ab D;have R:=ab E;have S:=ab F;have T:=ab G;clear D E F G;go_wp2_with fail;go_region_held3 (fun f=>f.cell? ⟨h,0,none⟩=some (.bool (rB 1))/\f.cell? ⟨h,1,none⟩=some (.slice K fl fc)/\f.cell? ⟨h,2,none⟩=some (.slice m n o)/\f.cell? ⟨h,6,none⟩=some (.func (.func 63) #[] #[])/\f.cell? ⟨A,0,none⟩=some (.func (.func 68) #[] #[.pointer (some ⟨h,0,none⟩),.pointer (some ⟨H,0,none⟩)])/\f.cell? ⟨bs,0,none⟩=some (.bool false)/\f.cell? ⟨bs,1,none⟩=some (.slice none 0 0)/\f.cell? ⟨bs,2,none⟩=some (.slice none 0 0)/\f.cell? ⟨gs,0,none⟩=some (.bool (rB v))/\f.cell? ⟨gs,1,none⟩=some (.slice so sl sc)/\f.cell? ⟨gs,2,none⟩=some (.slice J tl tc)) (go_keep)
      (first | (go_at_call 63;refine (eN _ _ 0 v L L _ (aX _ _) (D3.keep0 zF) O).mono ?_;rintro e wa ⟨va,rfl,pa,ga⟩;have pa:=pa.tight (qZ M v);rw [Rat.zero_mul] at pa;obtain ⟨po,pl,pc,qo,hC,qc,rfl⟩:=pa.shape;have GG:wc.grownBy wa none:=aa zF ga;obtain ⟨a0,a1,a2,a3,a4,a5,a6,a7,a8,a9,hD⟩:=CY.out wa GG) | (go_at_call 68;refine (ja _ (0) h H L _ (pa.keep0 kw) (C _ zF).1 (C _ zF).2.1 (C _ zF).2.2.1 (C _ zF).2.2.2 M hL).mono ?_;rintro e wx ⟨vx,rfl,B,gx⟩;rw [show (0:Rat)-0=0 from by grind] at B;obtain ⟨ao,al,ac,bo,bl,bc,rfl⟩:=B.shape;have GG:wc.grownBy wx none:=aa zF gx;obtain ⟨x0,x1,x2,x3,x4,x5,x6,x7,x8,x9,ho⟩:=CY.out wx GG;obtain ⟨⟨c0,c1,U,V,X,Y,c6,c7,c8,c9,u,y⟩,⟨f0,f1,f2,f3,f4,f5,f6,f7,f8,f9,he,hf⟩⟩:=G5.out wx (aa q GG)))
     all_goals
      go_wp2;refine bodyPost_ret (v:=.agg #[.bool (rB (0)),.slice ao al ac,.slice bo bl bc,.bool (rB 1),.slice K fl fc,.slice m n o,.bool false,.slice none 0 0,.slice none 0 0,.bool false,.slice none 0 0,.slice none 0 0]) (by simp [results,Tryz.results69,go_sem,c0,c1,U,V,X,Y,c6,c7,c8,c9,u,y]) rfl ?_;rw [Q,R,S,T];exact jx (g:=w.heap.size+1) (NW _ (aa q zF)) (aq (aq (aq (aq (aq (aq (aq (aq (aq (aq (aq (aq (ae _ _))))))))))))) (zS (zS (zS (zS (zS (zS (zS (zS (zS (zS (zS (zS (aa I (aa q zF)))))))))))))) (B) (H1.keep0 (aa I (aa q zF))) (aX _ _) (aX _ _)
    ·skip;by_cases s:p.kind=4
     ·have D:bE p.kind v=1:=by unfold bE;simp [s]
      have E:bF p.kind v=0:=by unfold bF;simp [s]
      have F:bM p.kind v=0:=by unfold bM;simp [s]
      have G:bG p.kind v=v:=by unfold bG;simp [s]
      rw [s] at kc;clear k l r s;have Q:=ab D;have R:=ab E;have S:=ab F;have T:=ab G;clear D E F G;obtain ⟨⟨c0,c1,U,V,X,Y,c6,c7,c8,c9,u,y⟩,⟨f0,f1,f2,f3,f4,f5,f6,f7,f8,f9,he,hf⟩⟩:=G5.out wc q;go_wp2;refine bodyPost_ret (v:=.agg #[.bool (rB 1),.slice K fl fc,.slice m n o,.bool false,.slice none 0 0,.slice none 0 0,.bool false,.slice none 0 0,.slice none 0 0,.bool (rB v),.slice so sl sc,.slice J tl tc]) (by simp [results,Tryz.results69,go_sem,c0,c1,U,V,X,Y,c6,c7,c8,c9,u,y]) rfl ?_;rw [Q,R,S,T];exact jx (g:=w.heap.size+1) (NW _ (aa q zF)) (aq (aq (aq (aq (aq (aq (aq (aq (aq (aq (aq (aq (ae _ _))))))))))))) (zS (zS (zS (zS (zS (zS (zS (zS (zS (zS (zS (zS (aa I (aa q zF)))))))))))))) (H1.keep0 (aa I (aa q zF))) (aX _ _) (aX _ _) (D3.keep0 zF)
     ·skip;by_cases t:p.kind=6
      ·have D:bE p.kind v=1:=by unfold bE;simp [t]
       have E:bF p.kind v=0:=by unfold bF;simp [t]
       have F:bM p.kind v=0-v:=by unfold bM;simp [t]
       have G:bG p.kind v=0:=by unfold bG;simp [t]
       rw [t] at kc;clear k l r s t;have Q:=ab D;have R:=ab E;have S:=ab F;have T:=ab G;clear D E F G;go_wp2_with fail;go_region_held3 (fun f=>f.cell? ⟨h,0,none⟩=some (.bool (rB 1))/\f.cell? ⟨h,1,none⟩=some (.slice K fl fc)/\f.cell? ⟨h,2,none⟩=some (.slice m n o)/\f.cell? ⟨h,6,none⟩=some (.func (.func 63) #[] #[])/\f.cell? ⟨A,0,none⟩=some (.func (.func 68) #[] #[.pointer (some ⟨h,0,none⟩),.pointer (some ⟨H,0,none⟩)])/\f.cell? ⟨bs,0,none⟩=some (.bool false)/\f.cell? ⟨bs,1,none⟩=some (.slice none 0 0)/\f.cell? ⟨bs,2,none⟩=some (.slice none 0 0)/\f.cell? ⟨gs,0,none⟩=some (.bool (rB v))/\f.cell? ⟨gs,1,none⟩=some (.slice so sl sc)/\f.cell? ⟨gs,2,none⟩=some (.slice J tl tc)) (go_keep)
        (first | (go_at_call 68;refine (ja _ (v) h H L _ (D3.keep0 zF) (C _ zF).1 (C _ zF).2.1 (C _ zF).2.2.1 (C _ zF).2.2.2 M hL).mono ?_;rintro e wx ⟨vx,rfl,B,gx⟩;obtain ⟨ao,al,ac,bo,bl,bc,rfl⟩:=B.shape;have GG:wc.grownBy wx none:=aa zF gx;obtain ⟨x0,x1,x2,x3,x4,x5,x6,x7,x8,x9,ho⟩:=CY.out wx GG;obtain ⟨⟨c0,c1,U,V,X,Y,c6,c7,c8,c9,u,y⟩,⟨f0,f1,f2,f3,f4,f5,f6,f7,f8,f9,he,hf⟩⟩:=G5.out wx (aa q GG)))
       all_goals
        go_wp2;refine bodyPost_ret (v:=.agg #[.bool (rB 1),.slice K fl fc,.slice m n o,.bool false,.slice none 0 0,.slice none 0 0,.bool (rB (0-v)),.slice ao al ac,.slice bo bl bc,.bool false,.slice none 0 0,.slice none 0 0]) (by simp [results,Tryz.results69,go_sem,c0,c1,U,V,X,Y,c6,c7,c8,c9,u,y]) rfl ?_;rw [Q,R,S,T];exact jx (g:=w.heap.size+1) (NW _ (aa q zF)) (aq (aq (aq (aq (aq (aq (aq (aq (aq (aq (aq (aq (ae _ _))))))))))))) (zS (zS (zS (zS (zS (zS (zS (zS (zS (zS (zS (zS (aa I (aa q zF)))))))))))))) (H1.keep0 (aa I (aa q zF))) (aX _ _) (B) (aX _ _)
      ·skip;by_cases z:p.kind=7
       ·have D:bE p.kind v=0:=by unfold bE;simp [z]
        have E:bF p.kind v=1:=by unfold bF;simp [z]
        have F:bM p.kind v=0-v:=by unfold bM;simp [z]
        have G:bG p.kind v=0:=by unfold bG;simp [z]
        rw [z] at kc;clear k l r s t z;have Q:=ab D;have R:=ab E;have S:=ab F;have T:=ab G;clear D E F G;go_wp2_with fail;go_region_held3 (fun f=>f.cell? ⟨h,0,none⟩=some (.bool (rB 1))/\f.cell? ⟨h,1,none⟩=some (.slice K fl fc)/\f.cell? ⟨h,2,none⟩=some (.slice m n o)/\f.cell? ⟨h,6,none⟩=some (.func (.func 63) #[] #[])/\f.cell? ⟨A,0,none⟩=some (.func (.func 68) #[] #[.pointer (some ⟨h,0,none⟩),.pointer (some ⟨H,0,none⟩)])/\f.cell? ⟨bs,0,none⟩=some (.bool false)/\f.cell? ⟨bs,1,none⟩=some (.slice none 0 0)/\f.cell? ⟨bs,2,none⟩=some (.slice none 0 0)/\f.cell? ⟨gs,0,none⟩=some (.bool (rB v))/\f.cell? ⟨gs,1,none⟩=some (.slice so sl sc)/\f.cell? ⟨gs,2,none⟩=some (.slice J tl tc)) (go_keep)
         (first | (go_at_call 68;refine (ja _ (v) h H L _ (D3.keep0 zF) (C _ zF).1 (C _ zF).2.1 (C _ zF).2.2.1 (C _ zF).2.2.2 M hL).mono ?_;rintro e wx ⟨vx,rfl,B,gx⟩;obtain ⟨ao,al,ac,bo,bl,bc,rfl⟩:=B.shape;have GG:wc.grownBy wx none:=aa zF gx;obtain ⟨x0,x1,x2,x3,x4,x5,x6,x7,x8,x9,ho⟩:=CY.out wx GG;obtain ⟨⟨c0,c1,U,V,X,Y,c6,c7,c8,c9,u,y⟩,⟨f0,f1,f2,f3,f4,f5,f6,f7,f8,f9,he,hf⟩⟩:=G5.out wx (aa q GG)))
        all_goals
         go_wp2;refine bodyPost_ret (v:=.agg #[.bool false,.slice none 0 0,.slice none 0 0,.bool (rB 1),.slice K fl fc,.slice m n o,.bool (rB (0-v)),.slice ao al ac,.slice bo bl bc,.bool false,.slice none 0 0,.slice none 0 0]) (by simp [results,Tryz.results69,go_sem,c0,c1,U,V,X,Y,c6,c7,c8,c9,u,y]) rfl ?_;rw [Q,R,S,T];exact jx (g:=w.heap.size+1) (NW _ (aa q zF)) (aq (aq (aq (aq (aq (aq (aq (aq (aq (aq (aq (aq (ae _ _))))))))))))) (zS (zS (zS (zS (zS (zS (zS (zS (zS (zS (zS (zS (aa I (aa q zF)))))))))))))) (aX _ _) (H1.keep0 (aa I (aa q zF))) (B) (aX _ _)
       ·skip;have D:bE p.kind v=0:=by unfold bE;simp [k,l,r,s,t,z]
        have E:bF p.kind v=1:=by unfold bF;simp [k,l,r,s,t,z]
        have F:bM p.kind v=0:=by unfold bM;simp [k,l,r,s,t,z]
        have G:bG p.kind v=v:=by unfold bG;simp [k,l,r,s,t,z]
        have hJ:(p.kind==1)=false:=zB k;have hK:(p.kind==2)=false:=zB l;have hM:(p.kind==3)=false:=zB r;have hN:(p.kind==4)=false:=zB s;have hQ:(p.kind==6)=false:=zB t;have hR:(p.kind==7)=false:=zB z;clear k l r s t z;have Q:=ab D;have R:=ab E;have S:=ab F;have T:=ab G;clear D E F G;obtain ⟨⟨c0,c1,U,V,X,Y,c6,c7,c8,c9,u,y⟩,⟨f0,f1,f2,f3,f4,f5,f6,f7,f8,f9,he,hf⟩⟩:=G5.out wc q;go_wp2;refine bodyPost_ret (v:=.agg #[.bool false,.slice none 0 0,.slice none 0 0,.bool (rB 1),.slice K fl fc,.slice m n o,.bool false,.slice none 0 0,.slice none 0 0,.bool (rB v),.slice so sl sc,.slice J tl tc]) (by simp [results,Tryz.results69,go_sem,c0,c1,U,V,X,Y,c6,c7,c8,c9,u,y]) rfl ?_;rw [Q,R,S,T];exact jx (g:=w.heap.size+1) (NW _ (aa q zF)) (aq (aq (aq (aq (aq (aq (aq (aq (aq (aq (aq (aq (ae _ _))))))))))))) (zS (zS (zS (zS (zS (zS (zS (zS (zS (zS (zS (zS (aa I (aa q zF)))))))))))))) (aX _ _) (H1.keep0 (aa I (aa q zF))) (aX _ _) (D3.keep0 zF)
def aD.q (p:aD):Rat:=fy p.v.data.toList
def prow (n k i:Nat) (p:aD):Nat->Rat:=kR n i (n+k+1) p.a.toNat p.b.toNat p.c.toNat p.d.toNat (bE p.kind p.q) (bF p.kind p.q) (bM p.kind p.q) (bG p.kind p.q)
def kg (n:Nat) (ps:List aD):Nat->Nat->Rat:=fun r =>
 if r=0 then aJ (fun _=>0) 0 1 else if r<n then dJ n ps r else match ps[r-n]? with | some p=>prow n ps.length (r-n) p | none=>fun _=>0
def cU (n:Nat) (ps:List aD):Nat->Nat:=fun r=>if r<n then 0 else match ps[r-n]? with | some p=>2*(p.v.size+1)+1 | none=>0
structure cD (n:Nat) (ps:List aD):Prop where
 lo:1<=n
 hi:n<=8
 len:ps.length<=20
 ends:∀ p∈ps,∃ xa xb xc xd:Nat,p.a=(xa:Int)/\p.b=(xb:Int)/\p.c=(xc:Int)/\p.d=(xd:Int)/\xa<n/\xb<n/\xc<n/\xd<n
theorem sQ (k:Int) (v:Rat):bE k v=0∨bE k v=1:=by
 unfold bE;repeat' split
 all_goals first | exact .inr rfl | exact .inl rfl
theorem yI (k:Int) (v:Rat):bM k v=0∨bM k v = -v:=by
 unfold bM;repeat' split
 all_goals first | exact .inl rfl | (right;grind)
theorem uD (k:Int) (v:Rat):kY v (bF k v):=by
 unfold bF;repeat' split
 all_goals first | exact ⟨0,-1,zD,zD,by grind⟩ | exact ⟨0,0,zD,zD,by grind⟩ | exact ⟨1,0,zD,zD,by grind⟩
theorem uE (k:Int) (v:Rat):kY v (bG k v):=by
 unfold bG;repeat' split
 all_goals first | exact ⟨0,0,zD,zD,by grind⟩ | exact ⟨0,1,zD,zD,by grind⟩
theorem pC {v q:Rat} (a b c d:Prop) [Decidable a] [Decidable b] [Decidable c] [Decidable d] {x y:Rat} (hx:x=0∨x=1) (hy:y=0∨y = -v)
  (h:q=(if a then x else 0)-(if b then x else 0)+(if c then y else 0)-(if d then y else 0)):kY v q:=by
 subst h;rcases hx with rfl | rfl<;>rcases hy with rfl | rfl<;>by_cases ha:a<;>by_cases hb:b<;>by_cases hc:c<;>by_cases hd:d <;>
  simp only [ha,hb,hc,hd,if_true,if_false] <;>
  first
   | exact ⟨0,0,zD,zD,by grind⟩
   | exact ⟨1,0,zD,zD,by grind⟩
   | exact ⟨-1,0,zD,zD,by grind⟩
   | exact ⟨0,1,zD,zD,by grind⟩
   | exact ⟨0,-1,zD,zD,by grind⟩
   | exact ⟨1,1,zD,zD,by grind⟩
   | exact ⟨1,-1,zD,zD,by grind⟩
   | exact ⟨-1,1,zD,zD,by grind⟩
   | exact ⟨-1,-1,zD,zD,by grind⟩
def qw (xa xb xc xd:Nat) (x y:Rat) (j:Nat):Rat:=(if j=xa then x else 0)-(if j=xb then x else 0)+(if j=xc then y else 0)-(if j=xd then y else 0)
theorem dN (R:Nat->Rat) (k:Nat) (q:Rat) (j:Nat):aJ R k q j=if j=k then q else R j:=rfl
theorem Cu (a:Nat) (x:Rat) (j:Nat):aJ (fun _=>0) a (0+x) j=if j=a then x else 0:=by
 rw [dN,Rat.zero_add]
theorem Cv (b a:Nat) (x:Rat) (j:Nat):aJ (aJ (fun _=>0) b (0+x)) a (aJ (fun _=>0) b (0+x) a-x) j=(if j=b then x else 0)-(if j=a then x else 0):=by
 rw [dN,Cu,Cu];by_cases e:j=a
 ·rw [if_pos e,if_pos e,e]
 ·rw [if_neg e,if_neg e];grind
theorem Cw (a b c:Nat) (x y:Rat) (j:Nat):aJ (aJ (aJ (fun _=>0) a (0+x)) b (aJ (fun _=>0) a (0+x) b-x)) c (aJ (aJ (fun _=>0) a (0+x)) b (aJ (fun _=>0) a (0+x) b-x) c+y) j
  = (if j=a then x else 0)-(if j=b then x else 0)+(if j=c then y else 0):=by
 rw [dN,Cv,Cv];by_cases e:j=c
 ·rw [if_pos e,if_pos e,e]
 ·rw [if_neg e,if_neg e];grind
theorem ends4 (a b c d:Nat) (x y:Rat) (j:Nat):aJ (aJ (aJ (aJ (fun _=>0) a (0+x)) b (aJ (fun _=>0) a (0+x) b-x)) c (aJ (aJ (fun _=>0) a (0+x)) b (aJ (fun _=>0) a (0+x) b-x) c+y)) d (aJ (aJ (aJ (fun _=>0) a (0+x)) b (aJ (fun _=>0) a (0+x) b-x)) c (aJ (aJ (fun _=>0) a (0+x)) b (aJ (fun _=>0) a (0+x) b-x) c+y) d-y) j
  = qw a b c d x y j:=by
 unfold qw;rw [dN,Cw,Cw];by_cases e:j=d
 ·rw [if_pos e,if_pos e,e]
 ·rw [if_neg e,if_neg e];grind
theorem uV (n i K a b c d:Nat) (qa qf ql qs:Rat) (j:Nat):kR n i K a b c d qa qf ql qs j=if j=K-1 then qs else if j=n+i then qf else qw a b c d qa ql j:=by
 unfold kR;rw [dN,dN,ends4]
theorem A7 {n i K a b c d:Nat} {qa qf ql qs v:Rat} (ha:qa=0∨qa=1) (e:ql=0∨ql = -v) (f:kY v qf) (g:kY v qs) (j:Nat):kY v (kR n i K a b c d qa qf ql qs j):=by
 rw [uV];split
 ·exact g
 ·split
  ·exact f
  ·exact pC (j=a) (j=b) (j=c) (j=d) ha e rfl
theorem uZ (n k i:Nat) (p:aD) (j:Nat):kY p.q (prow n k i p j):=A7 (sQ _ _) (yI _ _) (uD _ _) (uE _ _) j
theorem bg.mono {L L':Nat} {q:Rat} (h:bg L q) (a:L<=L'):bg L' q:=by
 have:=Nat.pow_le_pow_right (n:=4294967296) zD a;exact ⟨Nat.lt_of_lt_of_le h.1 this,Nat.lt_of_lt_of_le h.2 this⟩
theorem Dc {T:Nat} {v q:Rat} (h:kY v q) (a:bg T v):bg (T+1) q:=by
 obtain ⟨b,e⟩:=gS h;have c:(4294967296:Nat)^(T+1)=4294967296^T*4294967296:=Nat.pow_succ _ _;have d:0<(4294967296:Nat)^T:=Nat.pow_pos zD;have:=a.1;have:=a.2;have:=Nat.le_of_dvd (Rat.den_pos v) b;exact ⟨O,O⟩
theorem A8 {L T a b d e:Nat} {qa ql v:Rat} (ha:qa=0∨qa=1) (f:ql=0∨ql = -v) (g:bg T v) (i:T+1<=L) :
  bg L (0+qa)/\bg L (aJ (fun _=>0) a (0+qa) b-qa)/\bg L (aJ (aJ (fun _=>0) a (0+qa)) b (aJ (fun _=>0) a (0+qa) b-qa) d+ql)
  /\ bg L (aJ (aJ (aJ (fun _=>0) a (0+qa)) b (aJ (fun _=>0) a (0+qa) b-qa)) d (aJ (aJ (fun _=>0) a (0+qa)) b (aJ (fun _=>0) a (0+qa) b-qa) d+ql) e-ql):=by
 have c:∀ q,kY v q->bg L q:=fun q h=>(Dc h g).mono i
 refine ⟨c _ ?_,c _ ?_,c _ ?_,c _ ?_⟩
 ·exact pC True False False False ha f (by simp only [if_true,if_false];grind)
 ·exact pC (b=a) True False False ha f (by rw [Cu];simp only [if_true,if_false];grind)
 ·exact pC (d=a) (d=b) True False ha f (by rw [Cv];simp only [if_true,if_false];grind)
 ·exact pC (e=a) (e=b) (e=d) True ha f (by rw [Cw];simp only [if_true])
theorem ofR_fit (l:List UInt8):bg (l.length+1) (fy l):=by
 have b:∀ k,k<=l.length+1->(10:Nat)^k<=4294967296^(l.length+1):=fun k p =>
  Nat.le_trans (Nat.pow_le_pow_left (by decide:10<=4294967296) k) (Nat.pow_le_pow_right zD p)
 have d:1<(4294967296:Nat)^(l.length+1):=Nat.lt_of_lt_of_le (by decide:1<4294967296^1) (Nat.pow_le_pow_right zD O);have g:bg (l.length+1) 0:=⟨by show 0<_;omega,by show 1<_;exact d⟩;unfold fy;split
 ·rename_i h;simp only [Bool.and_eq_true] at h;obtain ⟨n,o⟩:=h;have a:∀ m:List UInt8,cr m=true->∀ c∈m,mM c=true:=by
   intro m f;unfold cr at f;simp only [Bool.and_eq_true,List.all_eq_true] at f;exact f.2
  have q:=sC _ (a _ n);have r:=sC _ (a _ o);have i:=(j6 (Lib.trimPrefix l [45]) [47]).1;have j:(fD (Lib.trimPrefix l [45])).length<=l.length+1:=by
   unfold fD;have:=(j6 (Lib.trimPrefix l [45]) [47]).2;have:=iL l [45];split
   ·omega
   ·simp
  have s:=iL l [45];have t:=b _ (Nat.le_trans i O);have u:=b _ j;by_cases hd:aZ (fD (Lib.trimPrefix l [45]))=0
  ·rw [hd,Rat.mkRat_zero];exact g
  ·refine ⟨?_,?_⟩
   ·unfold rN;rw [Rat.num_mkRat,if_neg hd];refine Nat.lt_of_le_of_lt (Int.natAbs_ediv_le_natAbs _ _) ?_;have e:(fP (Lib.hasPrefix l [45]) (aZ (Lib.cut (Lib.trimPrefix l [45]) [47]).1)).natAbs=aZ (Lib.cut (Lib.trimPrefix l [45]) [47]).1:=by
     unfold fP;split<;>simp
    rw [e];omega
   ·rw [Rat.den_mkRat,if_neg hd];exact Nat.lt_of_le_of_lt (Nat.div_le_self _ _) O
 ·exact g
theorem aD.fit (p:aD):bg (p.v.size+1) p.q:=by
 have:=ofR_fit p.v.data.toList;have e:p.v.data.toList.length=p.v.size:=Array.length_toList;rw [e] at this;exact this
theorem pE (n:Nat) (c:List aD) (r:Nat):∃ D N:Nat,0<D/\(∀ j,(kg n c r j).den∣D)/\(∀ j,rN (kg n c r j)<=N)/\N*D<=4294967296^cU n c r/\D<=4294967296^cU n c r:=by
 unfold kg;by_cases i:r=0
 ·rw [if_pos i];refine ⟨1,1,zD,fun j=>?_,fun j=>?_,by rw [Nat.mul_one];exact Nat.one_le_pow _ _ zD,Nat.one_le_pow _ _ zD⟩
  ·rw [dN];split<;>exact Nat.dvd_refl _
  ·rw [dN];split<;>decide
 ·rw [if_neg i];by_cases hn:r<n
  ·rw [if_pos hn];have e:∀ j,(dJ n c r j).den=1/\rN (dJ n c r j)<=1:=by
    intro j;unfold dJ;split
    ·exact ⟨rfl,zD⟩
    ·split
     ·rename_i p k;have f:iQ p r=0∨iQ p r=1∨iQ p r = -1:=by
       by_cases d:p.a=(r:Int)<;>by_cases g:p.b=(r:Int)
       ·rw [BS d g];left;grind
       ·rw [BQ d g];right;left;grind
       ·rw [BP d g];right;right;grind
       ·rw [BN d g];left;rfl
      rcases f with f | f | f<;>rw [f]
      ·exact ⟨rfl,zD⟩
      ·exact ⟨rfl,zD⟩
      ·exact ⟨rfl,zD⟩
     ·exact ⟨rfl,zD⟩
   refine ⟨1,1,zD,fun j=>by rw [(e j).1];exact Nat.dvd_refl _,fun j=>(e j).2,by rw [Nat.mul_one];exact Nat.one_le_pow _ _ zD,Nat.one_le_pow _ _ zD⟩
  ·rw [if_neg hn];have h:cU n c r=match c[r-n]? with | some p=>2*(p.v.size+1)+1 | none=>0:=by unfold cU;rw [if_neg hn];try rfl
   cases k:c[r-n]? with
   | none =>
    refine ⟨1,1,zD,fun j=>Nat.dvd_refl _,fun j=>by show 0<=1;decide,by rw [Nat.mul_one];exact Nat.one_le_pow _ _ zD,Nat.one_le_pow _ _ zD⟩
   | some p =>
    rw [k] at h;simp only at h;obtain ⟨f1,l⟩:=p.fit;refine ⟨p.q.den,p.q.den+rN p.q,Rat.den_pos _,fun j=>(gS (uZ n c.length (r-n) p j)).1,fun j=>(gS (uZ n c.length (r-n) p j)).2,?_,?_⟩
    ·rw [h];have d:(4294967296:Nat)^(2*(p.v.size+1)+1)=(4294967296*4294967296^(p.v.size+1))*4294967296^(p.v.size+1):=by
      rw [Nat.pow_succ,Nat.two_mul,Nat.pow_add,Nat.mul_comm,Nat.mul_assoc]
     rw [d];exact Nat.mul_le_mul O (Nat.le_of_lt l)
    ·rw [h];exact Nat.le_trans (Nat.le_of_lt l) (Nat.pow_le_pow_right zD O)
theorem zv (e:Nat->Nat):∀ m r,r<m->1+e r<=iq e m:=by
 intro m;induction m with
 | zero=>intro r h;omega
 | succ m ih =>
  intro r h;unfold iq;by_cases a:r=m
  ·subst a;omega
  ·have:=ih r O;omega
theorem net_fit (n:Nat) (a:List aD) (m L:Nat) (f:iq (cU n a) m<L) (r:Nat) (b:r<m) (k j:Nat):bg L (cj (kg n a r) k j):=by
 obtain ⟨D,N,c,d,e,g,h⟩:=pE n a r;obtain ⟨i,l⟩:=jX _ D N c d e k j;have hlt:4294967296^cU n a r<4294967296^L:=Nat.pow_lt_pow_right zD (by have:=zv (cU n a) m r b;omega);exact ⟨O,O⟩
theorem net_wh (n:Nat) (a:List aD) (k r j:Nat):gF (4294967296^cU n a r) (qm (kg n a) k r j):=by
 unfold qm;split
 ·rename_i b;obtain ⟨D,N,c,d,e,f,g⟩:=pE n a r;exact ⟨nh _ _ _ b,Nat.le_trans (jX _ D N c d e k j).1 f⟩
 ·exact ⟨rfl,Nat.zero_le _⟩
def cA (f:Nat->Rat):Nat->Rat
 | 0=>0
 | i+1=>cA f i+f i
theorem bR (f:Nat->Rat) (k:Nat):cA f (k+1)=cA f k+f k:=rfl
theorem jr (x R:Nat->Rat) (k:Nat) (q:Rat):∀ n,cX n x (aJ R k q)=cX n x R+(if k<n then (q-R k)*x k else 0):=by
 intro n;induction n with
 | zero=>unfold cX;rw [if_neg O];grind
 | succ n ih =>
  unfold cX;rw [ih,dN];by_cases e:n=k
  ·subst e;rw [if_pos rfl,if_neg O,if_pos O];grind
  ·rw [if_neg e];by_cases a:k<n
   ·rw [if_pos a,if_pos O];grind
   ·rw [if_neg a,if_neg O];grind
theorem sH (x:Nat->Rat):∀ n,cX n x (fun _=>0)=0:=by
 intro n;induction n with
 | zero=>rfl
 | succ n ih=>unfold cX;rw [ih];grind
theorem dot_end (x:Nat->Rat) (a b c d:Nat) (p q:Rat) (n:Nat) (ha:a<n) (hb:b<n) (hc:c<n) (hd:d<n):cX n x (qw a b c d p q)=p*(x a-x b)+q*(x c-x d):=by
 have e:cX n x (qw a b c d p q)=cX n x (aJ (aJ (aJ (aJ (fun _=>0) a (0+p)) b (aJ (fun _=>0) a (0+p) b-p)) c (aJ (aJ (fun _=>0) a (0+p)) b (aJ (fun _=>0) a (0+p) b-p) c+q)) d (aJ (aJ (aJ (fun _=>0) a (0+p)) b (aJ (fun _=>0) a (0+p) b-p)) c (aJ (aJ (fun _=>0) a (0+p)) b (aJ (fun _=>0) a (0+p) b-p) c+q) d-q)) :=
  jq x n (fun j _=>(ends4 a b c d p q j).symm)
 rw [e,jr,jr,jr,jr,sH,if_pos ha,if_pos hb,if_pos hc,if_pos hd];generalize aJ (aJ (aJ (fun _=>0) a (0+p)) b (aJ (fun _=>0) a (0+p) b-p)) c (aJ (aJ (fun _=>0) a (0+p)) b (aJ (fun _=>0) a (0+p) b-p) c+q) d=A;generalize aJ (aJ (fun _=>0) a (0+p)) b (aJ (fun _=>0) a (0+p) b-p) c=B;generalize aJ (fun _=>0) a (0+p) b=C;grind
theorem Cq (x:Nat->Rat) (n k i a b c d:Nat) (qa qf ql qs:Rat) (hi:i<k) (ha:a<n) (hb:b<n) (hc:c<n) (hd:d<n) :
  cX (n+k+1) x (kR n i (n+k+1) a b c d qa qf ql qs)=qa*(x a-x b)+ql*(x c-x d)+qf*x (n+i)+qs*x (n+k):=by
 have e:cX (n+k+1) x (kR n i (n+k+1) a b c d qa qf ql qs)=cX (n+k+1) x (aJ (aJ (qw a b c d qa ql) (n+i) qf) (n+k) qs) :=
  jq x _ (fun j _=>by rw [uV,dN,dN];rfl)
 rw [e,jr,jr,dot_end x a b c d qa ql _ O O O O,if_pos O,if_pos O,dN,if_neg O];have f:qw a b c d qa ql (n+i)=0:=by
  unfold qw;rw [if_neg O,if_neg O,if_neg O,if_neg O];grind
 have g:qw a b c d qa ql (n+k)=0:=by
  unfold qw;rw [if_neg O,if_neg O,if_neg O,if_neg O];grind
 rw [f,g];grind
def dC (ps:List aD) (i r:Nat):Rat:=match ps[i]? with | some p=>iQ p r | none=>0
theorem Cp (x:Nat->Rat) (n:Nat) (a:List aD) (r:Nat):cX (n+a.length+1) x (dJ n a r)=cA (fun i=>dC a i r*x (n+i)) a.length:=by
 have b:∀ k,k<=a.length->cX (n+k) x (dJ n a r)=cA (fun i=>dC a i r*x (n+i)) k:=by
  intro k;induction k with
  | zero =>
   intro _;show cX n x (dJ n a r)=0
   rw [<- sH x n];exact jq x n (fun j c=>by unfold dJ;rw [if_pos c])
  | succ k ih =>
   intro d;show cX (n+k) x (dJ n a r)+dJ n a r (n+k)*x (n+k)=_
   rw [ih O,bR];congr 1
   unfold dJ;rw [if_neg O,show n+k-n=k by omega];rfl
 show cX (n+a.length) x (dJ n a r)+dJ n a r (n+a.length)*x (n+a.length)=_
 rw [b _ zL];have z:dJ n a r (n+a.length)=0:=by
  unfold dJ;rw [if_neg O,show n+a.length-n=a.length by omega,List.getElem?_eq_none zL]
 rw [z];grind
structure bD (n:Nat) (ps:List aD) (V I:Nat->Rat):Prop where
 gnd:V 0=0
 node:∀ r,0<r->r<n->cA (fun i=>dC ps i r*I i) ps.length=0
 part:∀ i (h:i<ps.length),bE ps[i].kind ps[i].q*(V ps[i].a.toNat-V ps[i].b.toNat)+bM ps[i].kind ps[i].q*(V ps[i].c.toNat-V ps[i].d.toNat)+bF ps[i].kind ps[i].q*I i=bG ps[i].kind ps[i].q
theorem oz {n:Nat} {e:List aD} (h:cD n e) (x:Nat->Rat):nM (kg n e) (n+e.length) x↔x (n+e.length) = -1/\bD n e x (fun i=>x (n+i)):=by
 have o:=h.lo;have j:cX (n+e.length+1) x (kg n e 0)=x 0:=by
  unfold kg;rw [if_pos rfl,jr,sH,if_pos O];grind
 have k:∀ r,0<r->r<n->cX (n+e.length+1) x (kg n e r)=cA (fun i=>dC e i r*x (n+i)) e.length:=by
  intro r m hn;unfold kg;rw [if_neg O,if_pos hn];exact Cp x n e r
 have l:∀ i (hi:i<e.length),cX (n+e.length+1) x (kg n e (n+i))=bE e[i].kind e[i].q*(x e[i].a.toNat-x e[i].b.toNat)+bM e[i].kind e[i].q*(x e[i].c.toNat-x e[i].d.toNat)+bF e[i].kind e[i].q*x (n+i)+bG e[i].kind e[i].q*x (n+e.length):=by
  intro i hi;obtain ⟨w,y,z,A,s,t,u,v,ha,hb,hc,hd⟩:=h.ends e[i] (List.getElem_mem hi);unfold kg;rw [if_neg O,if_neg O,show n+i-n=i by omega,zX hi];exact Cq x n e.length i _ _ _ _ _ _ _ _ hi (by rw [s];simpa using ha) (by rw [t];simpa using hb) (by rw [u];simpa using hc) (by rw [v];simpa using hd)
 constructor
 ·rintro ⟨g,f⟩;refine ⟨g,⟨?_,fun r m hn=>?_,fun i hi=>?_⟩⟩
  ·rw [<- j];exact f 0 O
  ·rw [<- k r m hn];exact f r O
  ·have:=f (n+i) O;rw [l i hi,g] at this;grind
 ·rintro ⟨g,f⟩;refine ⟨g,fun r B=>?_⟩;by_cases p:r=0
  ·subst p;rw [j];exact f.gnd
  ·by_cases rn:r<n
   ·rw [k r O rn];exact f.node r O rn
   ·obtain ⟨i,rfl⟩:∃ i,r=n+i:=⟨r-n,O⟩;have hi:i<e.length:=O
    have:=f.part i hi;rw [l i hi,g];grind
theorem p7 {α β:Type} (f:α->β) (l cs:List α) (o:Nat):splice (l.map f) o (cs.map f)=(splice l o cs).map f:=by
 simp [splice,List.map_take,List.map_drop,List.map_append]
theorem Below.gr {w a:World} (h:Below w.heap.size w a):w.grownBy a none:=⟨h.os,h.tape,h.output,h.size,fun k b _=>h.block k b⟩
def RepR (w:World) (g c:Nat) (v:Value) (wr:World):Prop:=∃ (k:Nat) (xs:List Int),1<=k/\k<=c/\v=.int .i64 k/\xs.length=c/\qr wr g xs/\Below w.heap.size w wr
theorem rI (b c:Nat) (w:World) (hb:w.cell? ⟨b,0,none⟩=some (.int .i64 (-1))) (h0:0<c) (h1:c<=1000) :
  Calls Tryz.prog 180 #[.slice (some ⟨b,0,none⟩) 1 1,.int .i64 ((c:Nat):Int)] w
   fun e R=>∃ g xs,e=.returned (.slice (some ⟨g,0,none⟩) c c)/\w.heap.size<=g/\xs.length=c/\qr R g xs/\w.grownBy R none:=by
 have S:=ab hb;clear hb;go_enter Tryz.func180,Tryz.ntmps180
 go_wp2_with fail;refine (Tryz.bits_Mul 1 c zD O _).mono ?_;rintro e w1 ⟨rfl,L⟩;rw [L];clear L w1;rw [show 1*c / 18446744073709551616=0 from O,show 1*c % 18446744073709551616=c from O];have T:¬ ((9223372036854775807:Int)<(c:Int)):=O
 go_wp2_with (at_make;refine dY iv 3 0 8 _ rfl _ _ 97 rfl Tryz.underlying97 Tryz.infoInt rfl _ _ _ _ c rfl rfl O O O O ?_)
 intro t i p;have F:=ab i;have r:=ab p;have u:=ab (p.cell S Z);have U:w.heap.size<=w.heap.size:=zL;clear i p;have y:Hid (∀ j v,[iv (-1)][j]? = some v->t.cell? ((⟨b,0,none⟩:Addr).add j)=some v):=by
  intro j v a;match j with
  | 0=>simp only [List.getElem?_cons_zero,zI] at a;subst a;simpa [Addr.add] using u.out
  | j+1=>simp at a
 have z:Hid (∀ v∈[iv (-1)],v.oneCell'=true):=by intro v E;simp only [List.mem_singleton] at E;subst E;rfl
 have A:Hid (Below w.heap.size w t):=⟨r.os,r.tape,r.out.output,r.size,fun k hk=>r.block k hk Z⟩;have h:=run_copy_row (P:=Tryz.prog) t 97 97 3 3 w.heap.size 0 c c ⟨b,0,none⟩ 1 1 ((List.replicate c 0).map iv).toArray 3 [iv (-1)] Tryz.underlying97 zK F (by show 1=min 1 c;omega) y (by simp;omega) z;have d:=setRow_heap t w.heap.size _ ((((List.replicate c 0).map iv).toArray.toList.take 0++[iv (-1)]++((List.replicate c 0).map iv).toArray.toList.drop (0 + [iv (-1)].length)).toArray) 3 _ F;have l:Below w.heap.size w (t.setRow w.heap.size ((((List.replicate c 0).map iv).toArray.toList.take 0++[iv (-1)]++((List.replicate c 0).map iv).toArray.toList.drop (0 + [iv (-1)].length)).toArray)):=below_setRow A zL _;generalize (t.setRow w.heap.size ((((List.replicate c 0).map iv).toArray.toList.take 0++[iv (-1)]++((List.replicate c 0).map iv).toArray.toList.drop (0 + [iv (-1)].length)).toArray))=w3 at h d l;rw [show goInt [iv (-1)].length=.int .i64 1 from rfl] at h;have J:Hid (qr w3 w.heap.size (splice (List.replicate c 0) 0 [-1])):=by
  have e:((List.replicate c 0).map iv).toArray.toList.take 0++[iv (-1)]++((List.replicate c 0).map iv).toArray.toList.drop (0 + [iv (-1)].length)=(splice (List.replicate c 0) 0 [-1]).map iv:=by
   rw [<- p7];simp [splice]
  rw [e] at d;exact d
 have K:=ab l;clear d l F r u y z A;go_wp2;go_loopw [8] (fun v wr=>Hid (RepR w w.heap.size c v wr)) (fun v _=>c-(intOf v).toNat)
 case atStart=>exact ⟨1,_,O,O,rfl,by rw [length_splice _ _ _ (by simp;omega)];simp,J,K⟩
 case round =>
  obtain ⟨k,xs,hf,hk,rfl,M,N,Q⟩:=hrel.out;have G:=ab N;have s:=ab Q;clear N Q hrel J K;by_cases hlt:k<c
  ·have V:(0:Int)<=(k:Int):=O
   have W:(k:Int)<=(c:Int):=O
   have X:(c=k)=False:=eq_false O;have m:Hid (∀ j v,((xs.take (min k (c-k))).map iv)[j]? = some v->wr.cell? ((⟨w.heap.size,0,none⟩:Addr).add j)=some v):=by
    intro j v a;rw [List.getElem?_map,List.getElem?_take] at a;split at a
    ·rename_i he;rw [zX O] at a;simp only [Option.map_some,zI] at a;rw [<- a,show (⟨w.heap.size,0,none⟩:Addr).add j=⟨w.heap.size,j,none⟩ from by simp [Addr.add];omega];exact G.cell j O
    ·cases a
   have n:Hid (∀ v∈(xs.take (min k (c-k))).map iv,v.oneCell'=true):=by
    intro v E;obtain ⟨x,_,rfl⟩:=List.mem_map.1 E;rfl
   have f:Hid (((xs.take (min k (c-k))).map iv).length=Nat.min k (c-k)):=by
    show _=min _ _
    rw [List.length_map,List.length_take];omega
   have o:Hid (k+((xs.take (min k (c-k))).map iv).length<=(xs.map iv).length):=by
    show _<=_
    rw [List.length_map,List.length_take,List.length_map];omega
   obtain ⟨cs,q⟩:=eX ((xs.take (min k (c-k))).map iv);rw [<- q] at m n f o;have B:=ab q;clear q;go_wp2_with fail;go_region_law (refine step_copy_splice rfl (.tmp 41) (.tmp 44) 97 97 rfl 3 Tryz.underlying97 zK (some ⟨w.heap.size,k,none⟩) (some ⟨w.heap.size,0,none⟩) (c-k) (c-k) k c (by simp [Act.eval,Act.put]) (by simp [Act.eval,Act.put]) w.heap.size k (xs.map iv) 3 G cs f (fun _=>⟨rfl,_,rfl,m⟩) o n w.heap.size w ⟨s.os,s.tape,s.out.output,s.size,s.block⟩ zL ?_;intro w4 C D)
   all_goals
    have H:cs.length=min k (c-k):=f.out;have Y:Hid (∃ ys:List Int,ys.length=c/\qr w4 w.heap.size ys):=by
     refine ⟨splice xs k (xs.take (min k (c-k))),?_,?_⟩
     ·rw [length_splice _ _ _ (by rw [List.length_take];omega),M]
     ·have:=C.out;rw [B,p7] at this;exact this
    have B4:=ab D;have I:IntKind.i64.wrap ((k:Int)+(cs.length:Int))=(k:Int)+((min k (c-k):Nat):Int):=by rw [<- H];exact IntWalk.i64_in _ ⟨O,O⟩
    clear C D m n f o B;simp only [List.getElem_toArray,List.getElem_cons_succ,List.getElem_cons_zero,Act.put,setA,setZ,setS,I];go_wp2;go_roundw
    case rel =>
     obtain ⟨ys,y1,y2⟩:=Y.out;exact ⟨k+min k (c-k),ys,O,O,rfl,y1,y2,B4⟩
    case measure=>simp [intOf];omega
  ·obtain rfl:k=c:=O
   go_wp2;go_ret;exact ⟨_,xs,rfl,zL,M,G,Below.gr s⟩
theorem cH.keep0 {w a:World} {bo m:Nat} {o:Nat->Nat} (h:cH w bo m o) (g:w.grownBy a none):cH a bo m o:=h.keep g Z
def CouR (W:World) (m done g1 g2:Nat) (v:Value) (wr:World):Prop :=
 ∃ (i:Nat) (xs ys:List Int),done<=i/\i<=m/\v=.int .i64 i/\xs.length=m/\ys.length=m/\qr wr g1 xs/\qr wr g2 ys/\W.grownBy wr none
def TwoE (w:World) (m:Nat) (e:Ending) (w':World):Prop :=
 ∃ g1 g2 xs ys,e=.returned (.tuple #[.slice (some ⟨g1,0,none⟩) m m,.slice (some ⟨g2,0,none⟩) m m])/\w.heap.size<=g1/\w.heap.size<=g2/\xs.length=m/\ys.length=m/\qr w' g1 xs/\qr w' g2 ys/\w.grownBy w' none
theorem oV (fb:Bool) (fo fo2:Option Addr) (fl fc fl2 fc2:Nat) (br bo m n cap co done:Nat) (bs cs:Nat->Nat) (R:Nat->Nat->Rat) (o:Nat->Nat) (L:Nat) (w:World)
  (hM:bT w br m n bs cs R L) (hO:cH w bo m o) (ho:∀ k,k<m->o k<n) (hd:done<m) (hm:m<=1000) (hn:n<=2000) (hc:m<=cap) (hc2:cap<=maxLen) (hco:m<=co) (hco2:co<=maxLen) :
  Calls Tryz.prog 156 #[(jP fb (.slice fo fl fc) (.slice fo2 fl2 fc2)),.slice (some ⟨br,0,none⟩) m cap,.slice (some ⟨bo,0,none⟩) m co,.int .i64 ((done:Nat):Int)] w fun e w'=>TwoE w m e w':=by
 unfold maxLen at hc2 hco2;have HM:=ab hM;have HO:=ab hO;have HOO:=ab ho;clear hM hO ho;obtain ⟨W,hW⟩:=eX (w.alloc (Obj.cells #[.bool fb,.slice fo fl fc,.slice fo2 fl2 fc2,.func (.func 60) #[] #[],.func (.func 61) #[] #[],.func (.func 62) #[] #[],.func (.func 63) #[] #[],.func (.func 64) #[] #[],.func (.func 65) #[] #[],.func (.func 66) #[] #[],.func (.func 67) #[] #[]] 87));have GW:Hid (w.grownBy W none):=by rw [hW];exact ag (ae _ _) _
 have HWS:Hid (W.heap.size=w.heap.size+1):=by show _=_;rw [hW];simp
 have BASE:Hid (∀ wx,W.grownBy wx none->wx.cell? ⟨w.heap.size,8,none⟩=some (.func (.func 65) #[] #[])):=by
  intro wx hg;rw [hW] at hg;exact hg.cell zG Z
 go_enter Tryz.func156,Tryz.ntmps156
 go_upto_region 1 with fail;rw [<- hW];clear hW;go_wp2_with fail;refine (rI W.heap.size m _ zG O hm).mono ?_;rintro e w1 ⟨g1,xs1,rfl,q1,q2,q3,q4⟩;have G1:=ab (aa (ag (ae W none) _) q4);have A1:=ab q3;have HQ1:Hid (W.heap.size<g1):=by show _<_;simp at q1;omega
 clear q1 q3 q4;go_wp2_with fail;refine (rI w1.heap.size m _ zG O hm).mono ?_;rintro e w2 ⟨g2,xs2,rfl,p1,p2,p3,p4⟩;have G2:=ab (aa G1.out (aa (ag (ae w1 none) _) p4));have A1':=ab (A1.out.keep0 (aa (ag (ae w1 none) _) p4));have A2:=ab p3;have HQ2:Hid (W.heap.size<g2/\g1≠g2):=by
  show _/\_
  have h1:=A1.out.lt;have h2:=G1.out.size;have:=HQ1.out;simp at p1;exact ⟨O,O⟩
 clear p1 p3 p4 A1 G1;go_wp2;go_loopw [10] (fun v wr=>Hid (CouR W m done g1 g2 v wr)) (fun v _=>m-(intOf v).toNat)
 case atStart=>exact ⟨done,xs1,xs2,O,O,rfl,q2,p2,A1'.out,A2.out,G2.out⟩
 case round =>
  obtain ⟨i,xs,ys,hi0,hi,rfl,hx,hy,l1,l2,l3⟩:=hrel.out;have L1:=ab l1;have L2:=ab l2;have L3:=ab l3;clear l1 l2 l3 hrel A1' A2 G2;by_cases hlt:i<m
  ·go_wp2;go_loopw [11] (fun v wx=>Hid (CouR W m done g1 g2 v wx)) (fun v _=>m-(intOf v).toNat)
   case atStart=>exact ⟨done,xs,ys,O,O,rfl,hx,hy,L1.out,L2.out,L3.out⟩
   case round =>
    obtain ⟨k,zs,ts,hk0,hk,rfl,hz,ht,l1,l2,l3⟩:=hrel.out;have K1:=ab l1;have K2:=ab l2;have K3:=ab l3;clear l1 l2 l3 hrel;by_cases hkm:k<m
    ·have MM:=ab ((HM.out.keep0 GW.out).keep0 K3.out);have OO:=ab ((HO.out.keep0 GW.out).keep0 K3.out);have ci:=(MM.out.cell i hlt).1;have ck:=OO.out.at k hkm;have hokn:=HOO.out k hkm;obtain ⟨hcc1,hcc2⟩:=MM.out.cap i hlt;unfold maxLen at hcc2;obtain ⟨xo,xl,xc,yo,yl,yc,c0,c1,c2,c3,_⟩:=(MM.out.row i hlt).at (o k) hokn;have X3:=ab c3;have CX:Hid (∀ wx,wr.grownBy wx none->wx.cell? ⟨w.heap.size,8,none⟩=some (.func (.func 65) #[] #[])/\wx.cell? ⟨br,i,none⟩=some (.slice (some ⟨bs i,0,none⟩) n (cs i))/\wx.cell? ⟨bo,k,none⟩=some (.int .i64 ((o k:Nat):Int))/\wx.cell? ⟨bs i,o k*3,none⟩=some (.bool (rB (R i (o k))))/\wx.cell? ⟨bs i,o k*3+1,none⟩=some (.slice xo xl xc)/\wx.cell? ⟨bs i,o k*3+2,none⟩=some (.slice yo yl yc)):=by
      intro wx hg;exact ⟨BASE.out wx (aa K3.out hg),hg.cell ci Z,hg.cell ck Z,hg.cell c0 Z,hg.cell c1 Z,hg.cell c2 Z⟩
     clear c0 c1 c2 c3 ci ck;have GG:wr.grownBy wr none:=ae _ _;obtain ⟨s0,s1,s2,s3,s4,s5⟩:=CX.out wr GG;have hok1:(0:Int)<=((o k:Nat):Int):=O
     have hok2:((o k:Nat):Int)<(n:Int):=O
     have hk1:(0:Int)<=(k:Int):=O
     have hi1:(0:Int)<=(i:Int):=O
     have hk2:(k:Int)<(m:Int):=O
     have hi2:(i:Int)<(m:Int):=O
     go_wp2;go_cut [47] (fun s47 wx=>Hid (s47=.bool (!(decide (R i (o k)=0)))/\wr.grownBy wx none))
     case first =>
      go_region_held3 (fun w'=>w'.cell? ⟨w.heap.size,8,none⟩=some (.func (.func 65) #[] #[])/\w'.cell? ⟨br,i,none⟩=some (.slice (some ⟨bs i,0,none⟩) n (cs i))/\w'.cell? ⟨bo,k,none⟩=some (.int .i64 ((o k:Nat):Int))/\w'.cell? ⟨bs i,o k*3,none⟩=some (.bool (rB (R i (o k))))/\w'.cell? ⟨bs i,o k*3+1,none⟩=some (.slice xo xl xc)/\w'.cell? ⟨bs i,o k*3+2,none⟩=some (.slice yo yl yc)) (go_keep)
       (first | (go_at_call 65;refine (bd _ (R i (o k)) L _ (X3.out.keep0 zF)).mono ?_;rintro e wa ⟨rfl,ga⟩;have GG:wr.grownBy wa none:=aa zF ga;obtain ⟨a0,a1,a2,a3,a4,a5⟩:=CX.out wa GG))
      all_goals (go_wp2_with fail;go_meet;exact ⟨rfl,zF⟩)
     case rest =>
      obtain ⟨rfl,g4⟩:=hcut.out;have G4:=ab g4;clear hcut g4 GG s0 s1 s2 s3 s4 s5 CX X3;by_cases hzz:R i (o k)=0
      ·have hzd:(!(decide (R i (o k)=0)))=false:=by simp [hzz]
       rw [hzd];clear hzz hzd;go_wp2;go_roundw
       case rel=>exact ⟨k+1,zs,ts,O,O,zN,hz,ht,K1.out.keep0 G4.out,K2.out.keep0 G4.out,aa K3.out G4.out⟩
       case measure=>simp [intOf];omega
      ·have hzd:(!(decide (R i (o k)=0)))=true:=by simp [hzz]
       rw [hzd];clear hzz hzd;have N1:=ab (K1.out.keep0 G4.out);have N2:=ab (K2.out.keep0 G4.out);have N3:=ab (aa K3.out G4.out);have e1:=N1.out.cell i O;have e1f:=N1.out.free i;have e2:=N2.out.cell k O;have e2f:=N2.out.free k;have hg12:g2≠g1:=fun e=>HQ2.out.2 e.symm
       go_wp2;go_roundw
       case rel =>
        refine ⟨k+1,zs.set i (wrap64 (zs[i]+1)),ts.set k (wrap64 (ts[k]+1)),O,O,zN,by simp [hz],by simp [ht],?_,?_,?_⟩
        ·exact (N1.out.set i _ _ rfl).keep (sO _ _ _ _) (fun e=>HQ2.out.2 (zJ e))
        ·exact (N2.out.keep (sO _ _ _ _) (fun e=>HQ2.out.2 (zJ e).symm)).set k _ _ rfl
        ·exact ah (ah N3.out _ _ (Nat.le_of_lt HQ1.out)) _ _ (Nat.le_of_lt HQ2.out.1)
       case measure=>simp [intOf];omega
    ·obtain rfl:k=m:=O
     go_wp2;go_roundw
     case rel=>exact ⟨i+1,zs,ts,O,O,zN,hz,ht,K1.out,K2.out,K3.out⟩
     case measure=>simp [intOf];omega
  ·obtain rfl:i=m:=O
   have HQ1':Hid (w.heap.size<=g1/\w.heap.size<=g2):=by show _/\_;have:=HQ1.out;have:=HQ2.out.1;have:=HWS.out;exact ⟨O,O⟩
   go_wp2;go_ret2
   exact ⟨g1,g2,xs,ys,rfl,HQ1'.out.1,HQ1'.out.2,hx,hy,L1.out,L2.out,aa GW.out L3.out⟩
end Go.Proofs.YtkbmbmdemajoaaaGreatDoor
