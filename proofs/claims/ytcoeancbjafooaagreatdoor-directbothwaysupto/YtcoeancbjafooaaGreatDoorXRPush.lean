/- Contracts that the proof leans on. -/
import Derived.Test.YtcoeancbjafooaaGreatDoorXRQuiet
namespace Go.Proofs.YtcoeancbjafooaaGreatDoor
open Go.RowKit
set_option linter.unusedVariables false
set_option linter.unusedSimpArgs false
set_option maxHeartbeats 8000000
set_option maxRecDepth 10000
theorem qw (n:Nat) (po:Option Addr) (pc:Nat) (ps:List aO) (a b:Int) (w:World) (h:aT w (.slice po ps.length pc) ps) (hn:ps.length<=1000) :
  Calls Tryz.prog 30 #[.agg #[.int .i64 ((n:Nat):Int),.slice po ps.length pc],.int .i64 a,.int .i64 b] w fun e w'=>Bm w n (aI ps a b) e w':=by
 have HP:=ab h;clear h;obtain ⟨W,hW⟩:∃ W,W=(w.alloc (Obj.cells #[.int .i64 ((n:Nat):Int),.slice po ps.length pc] 24)).alloc (Obj.cells #[.int .i64 0,.slice none 0 0] 24):=⟨_,rfl⟩;have GW:Hid (w.grownBy W none):=by rw [hW];exact ag (ag (ae _ _) _) _
 have HWS:Hid (W.heap.size=w.heap.size+2):=by show _=_;rw [hW];simp
 have NB:Hid (∀ wx,W.grownBy wx none->wx.cell? ⟨w.heap.size,0,none⟩=some (.int .i64 ((n:Nat):Int))/\wx.cell? ⟨w.heap.size,1,none⟩=some (.slice po ps.length pc)/\gI wx (w.heap.size+1) (.int .i64 0) (.slice none 0 0)):=by
  intro wx hg;have e:wx.heap[w.heap.size+1]? = some (Obj.cells #[.int .i64 0,.slice none 0 0] 24 (0,0)):=by
   rw [hg.block (w.heap.size+1) (by rw [HWS.out];omega) (by simp),hW];have:=heap_alloc_new (w.alloc (Obj.cells #[.int .i64 ((n:Nat):Int),.slice po ps.length pc] 24)) (Obj.cells #[.int .i64 0,.slice none 0 0] 24);simpa using this
  rw [hW] at hg;exact ⟨hg.cell (by go_simp) (by simp),hg.cell (by go_simp) (by simp),e⟩
 obtain ⟨s0,s1,s2⟩:=NB.out W (ae _ _);clear s2;go_enter Tryz.func30,Tryz.ntmps30
 go_upto_region 1 with fail;rw [<- hW];clear hW;go_wp2_with fail;refine (lh n po pc ps W (HP.out.keep GW.out) hn).mono ?_;rintro e w1 ⟨v,rfl,o1,g1⟩;obtain ⟨vo,vc,rfl,hvc⟩:=o1.shape;have hml:(ps.map ax).length=ps.length:=List.length_map _;rw [hml] at o1 ⊢;have O1:=ab o1;have G1:=ab g1;have HML:=ab hml;clear o1 g1 hml s0 s1;go_upto_region 2 with fail;obtain ⟨gm,hgm⟩:∃ gm,gm=w1.heap.size:=⟨_,rfl⟩;obtain ⟨w2,hw2⟩:∃ w2,w2=w1.alloc (Obj.cells #[.int .i64 ((n:Nat):Int),.slice vo ps.length vc] 24):=⟨_,rfl⟩;have G12:Hid (w1.grownBy w2 none):=by rw [hw2];exact ag (ae _ _) _
 have G2:Hid (W.grownBy w2 none):=aa G1.out G12.out;have B2:Hid (gI w2 gm (.int .i64 ((n:Nat):Int)) (.slice vo ps.length vc)):=by rw [hw2,hgm];exact heap_alloc_new w1 _
 have O2:=ab (O1.out.keep0 G12.out);have HNG:Hid ((Value.slice vo ps.length vc).ownBlock=none∨(Value.slice vo ps.length vc).ownBlock≠some gm):=by
  cases hv:(Value.slice vo ps.length vc).ownBlock with
  | none=>exact .inl rfl
  | some k =>
   right
   intro e;have:=(World.ownsRow.lt O1.out k hv).2;have:=Option.some.inj e;omega
 have HGM:Hid (w.heap.size+2<=gm):=by show _<=_;rw [hgm];have:=G1.out.size;have:=HWS.out;omega
 have HSZ2:Hid (W.heap.size<=w2.heap.size):=G2.out.size;rw [<- hw2,<- hgm];clear hw2 hgm O1;obtain ⟨m0,m1,m2,m3⟩:=B2.out.cells;have HCL:Hid (∀ j u,(bJ ⟨5,b,a,0,0,⟨#[49]⟩⟩)[j]? = some u->(w2.alloc (Obj.cells #[.int .i64 5,.int .i64 b,.int .i64 a,.int .i64 0,.int .i64 0,.string ⟨#[49]⟩] 47)).cell? ((⟨w2.heap.size,0,none⟩:Addr).add j)=some u):=by
  intro j u hj;have hn:=heap_alloc_new w2 (Obj.cells #[.int .i64 5,.int .i64 b,.int .i64 a,.int .i64 0,.int .i64 0,.string ⟨#[49]⟩] 47);rw [show (⟨w2.heap.size,0,none⟩:Addr).add j=⟨w2.heap.size,j,none⟩ from by unfold Addr.add;split<;>simp_all];simp only [World.cell?,hn];rw [<- hj];simp [bJ]
 go_wp2_with (at_builtin;refine dq _ rfl _ _ 22 rfl W.heap.size Tryz.underlying22 Tryz.infoPart (.slice vo ps.length vc) (ps.map ax) rfl (O2.out.keep0 (ag (ae _ _) _)) w2.heap.size ⟨5,b,a,0,0,⟨#[49]⟩⟩ rfl HCL.out (by rw [HML.out];omega) (by simp;have:=HSZ2.out;omega) ?_)
 intro ao cap5 w5 hown hgr;try rw [HML.out] at hown
 try rw [HML.out]
 have O5:Hid (cD w5 W.heap.size (.slice ao (ps.length+1) cap5) (aI ps a b)):=hown;have hne5:some gm≠(Value.slice vo ps.length vc).ownBlock:=by
  rcases HNG.out with e | e
  ·rw [e];simp
  ·exact fun e2=>e e2.symm
 have B5:=ab ((B2.out.keep (ag (ae w2 none) (Obj.cells #[.int .i64 5,.int .i64 b,.int .i64 a,.int .i64 0,.int .i64 0,.string ⟨#[49]⟩] 47)) (by simp)).keep hgr hne5);have G5:Hid (W.grownBy w5 none):=by
  refine ar (r:=none) (aa G2.out (ag (ae w2 none) _)) hgr (fun _ _ e=>e) (fun k hk e=>?_);have:=(World.ownsRow.lt O2.out k e.symm).1;omega
 have HN5:Hid ((Value.slice ao (ps.length+1) cap5).ownBlock=none∨(Value.slice ao (ps.length+1) cap5).ownBlock≠some gm):=by
  cases hv:(Value.slice ao (ps.length+1) cap5).ownBlock with
  | none=>exact .inl rfl
  | some k =>
   right
   intro e;obtain rfl:=Option.some.inj e
   -- the block of the slice holds parts,the block of the net doesn't
   rcases O5.out.2 with ⟨e1,_⟩ | ⟨g,cap',cur,e1,_,hh,_⟩
   ·rw [e1] at hv;simp [Value.ownBlock] at hv
   ·rw [e1] at hv;simp only [Value.ownBlock,Option.some.injEq] at hv;subst hv;have hb:=B5.out;unfold gI at hb;rw [hh] at hb;simp at hb
 clear hown hgr hne5 m0 m1 m2 m3;obtain ⟨m0,m1,m2,m3⟩:=B5.out.cells;obtain ⟨_,_,rb⟩:=NB.out w5 G5.out;obtain ⟨r0,r1,r2,r3⟩:=rb.cells;have nzg:gm≠w.heap.size+1:=by have:=HGM.out;omega
 have nzg2:w.heap.size+1≠gm:=by have:=HGM.out;omega
 clear rb;go_wp2;refine bodyPost_ret (v:=.agg #[.int .i64 ((n:Nat):Int),.slice ao (ps.length+1) cap5]) (by simp [results,Tryz.results30,go_sem,r0,r1,nzg,nzg2]) rfl ?_;refine ⟨_,rfl,((((O5.out.kept (bD _ _ _ _) HN5.out).kept (bD _ _ _ _) (O5.out.ne (by have:=HWS.out;omega))).kept (bD _ _ _ _) (O5.out.ne (by have:=HWS.out;omega))).low (by have:=HWS.out;omega)),ah (ah (ah (aa GW.out G5.out) _ _ (show w.heap.size<=gm by have:=HGM.out;omega)) _ _ (Nat.le_add_right _ 1)) _ _ (Nat.le_add_right _ 1)⟩
end Go.Proofs.YtcoeancbjafooaaGreatDoor
