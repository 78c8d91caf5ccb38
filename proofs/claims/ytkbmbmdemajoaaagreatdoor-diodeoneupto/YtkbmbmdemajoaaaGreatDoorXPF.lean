/- Contracts. -/
import Derived.Test.YtkbmbmdemajoaaaGreatDoorXPt
import Derived.Test.YtkbmbmdemajoaaaGreatDoorXPE
import Derived.Test.YtkbmbmdemajoaaaGreatDoorCards
import Derived.Test.YtkbmbmdemajoaaaGreatDoorTie
import Derived.Deep.DeepHandedRow
import Derived.Lib.LaidU8
import Derived.Lib.SmallJoins
namespace Go.Proofs.YtkbmbmdemajoaaaGreatDoor
open Go.RowKit
set_option linter.unusedVariables false
set_option linter.unusedSimpArgs false
set_option maxHeartbeats 8000000
set_option maxRecDepth 10000
attribute [local simp] bX im dR Pc6 nf
variable {cs:List Value}
theorem Bu {w:World} {base n cap:Nat} {a:Option Addr} {V:Nat->Rat} (h:cW sv 43 w base (.slice a n cap) (bB V n)) (i:0<n):∃ g off,a=some ⟨g,off,none⟩/\∀ j,j<n->w.cell? ⟨g,off+j,none⟩=some (.string ⟨(bQ (V j)).toArray⟩):=by
 obtain ⟨l,c,e,_,_,d⟩:=h.row;injection e with e1 e2 e3
 subst e1;obtain ⟨b,off,rfl,_,_⟩:=d 0 (by rw [aK];exact i);refine ⟨b,off,rfl,fun j o=>?_⟩;obtain ⟨b',f,m,_,hc⟩:=d j (by rw [aK];exact o);have k:=zJ m;injection k with e6 e7
 subst e6 e7;rw [hc];simp [bB,sv]
theorem one_any (m:Int) (u:Option Addr) (y:Nat) (l:List aD) (L:Nat) (w:World) (hb:lJ w) (ht:fT w) (P:aR w (.slice u l.length y) l)
  (hs:∀ p∈l,p.v.size+2<=L) (hLs:∀ n,cD n l->iq (cU n l) (n+l.length)<L) (hL:L<=49000000) (hL2:2<=L) :
  Calls Tryz.prog 3 #[.agg #[.int .i64 m,.slice u l.length y]] w fun e r=>e=.returned (.bool true)/\w.grownBy r none:=by
 have HB:=ab hb;have HT:=ab ht;have S:=ab P;have HS:=ab hs;have hq:=ab hLs;clear hb ht P hs hLs;obtain ⟨W,hW⟩:=eX (w.alloc (Obj.cells #[.int .i64 m,.slice u l.length y] 24));have s:Hid (w.grownBy W none):=by rw [hW];exact ag (ae _ _) _
 have T:Hid (∀ wx,W.grownBy wx none->dR wx w.heap.size (.int .i64 m) (.slice u l.length y)):=by
  intro wx hg;exact dR.k0 (w:=W) (by rw [hW];exact ⟨zG,zG⟩) hg
 go_enter Tryz.func3,Tryz.ntmps3
 go_upto_region 1 with fail;rw [<- hW];clear hW;go_wp2_with fail;refine (Da W (HB.keep s) (HT.keep0 s)).mono ?_;rintro e w1 ⟨rfl,g1⟩;have U:=ab g1;obtain ⟨z,A⟩:=T.out w1 g1;clear g1;by_cases hc:(bL m l).1=0
 ·obtain ⟨hR,hH,hl,hD,hI⟩:=qS hc;obtain ⟨n,hn⟩:=eX m.toNat;rw [<- hn] at hH hR;subst hH;have HR:=ab hR;have HD:=ab hD;have hr:=ab hI;have HC:=ab hc;clear hR hD hI hc hn;go_wp2_with fail;refine (qO n u y l L w1 (HB.keep (aa s U)) (HT.keep0 (aa s U)) (S.keep (aa s U)) HC HS (hq n HR) hL hL2).mono ?_;rintro e o ⟨_,v,jv,c,d,rfl,g2,⟨uo,ul,uc,rfl⟩,t⟩;have G2:=ab (aa U g2);clear g2 z A;rcases t with ⟨rfl,J,k0,hS,G,hO⟩ | ⟨rfl,rfl,yl⟩
  ·have hu:=ab hS;have HO:=ab hO;obtain ⟨gj,rfl,_⟩:=G;obtain ⟨oa,oc,rfl⟩:=hO.shape;clear hS hO;go_upto_region 4 with fail;refine dq (fun wx=>o.grownBy wx none/\fR wx o.heap.size 28 (.slice uo ul uc) (.slice oa (bB J l.length).length oc)/\fR wx (o.heap.size+1) 32 (.int .i64 0) (.int .i64 d)) ?_ ?_
   ·refine ⟨ag (ag (ae _ _) _) _,(cR o _ _ _).keep (ag (ae _ none) _) Z,?_⟩;have h:=cR (o.alloc (Obj.cells #[.slice uo ul uc,.slice oa (bB J l.length).length oc] 28)) 32 (.int .i64 0) (.int .i64 d);rw [World.size_alloc] at h;exact h
   rintro w3 ⟨g3,B,E⟩;obtain ⟨ba,q⟩:=eX o.heap.size;rw [<- q] at B E ⊢;clear q;have BA:=ab B;have Q:=ab (aa G2 g3);have ka:=ab (HO.keep0 g3);obtain ⟨c0,c1,_⟩:=B.cells;obtain ⟨f0,_⟩:=E.cells;obtain ⟨z,A⟩:=T.out w3 Q;clear g3 B E HO;have hy:=aK J l.length;rw [hy] at c1 BA ⊢;clear hy;obtain ⟨D,he⟩:=eX ((bu l l.length).length);have kb:=ab he;have h6:=hr.out;rw [<- he] at h6;obtain ⟨N,hN⟩:=eX (2^D);have qs:=ab hN;have qf:N<=64:=by
    have h6:2^D<=2^6:=Nat.pow_le_pow_right O O;rw [hN];omega
   have hw:wrap64 (2^D:Int)=(N:Int):=by
    rw [show (2:Int)^D=(N:Int) by rw [hN];simp];unfold wrap64;omega
   clear he hN;go_upto_region 9 with fail;go_loopw [6] (fun iv wr=>Hid (∃ k:Nat,iv=.int .i64 k/\k<=N/\w3.grownBy wr none)) (fun iv _=>N-(intOf iv).toNat)
   case atStart=>exact ⟨0,rfl,Nat.zero_le _,ae _ _⟩
   case round =>
    obtain ⟨k,rfl,hk,hg⟩:=hrel.out;have GR:=ab (aa Q hg);have kc:=ab hg;clear hg hrel z A;obtain ⟨z,A⟩:=T.out wr GR;go_wp2_with fail;refine (Al n u y l wr (S.keep (aa s GR)) O).mono ?_;rintro e w5 ⟨rfl,g5⟩;have G5:=ab (aa GR g5);have kf:=ab (aa kc g5);clear g5 z A;rw [<- kb];obtain ⟨z,A⟩:=T.out w5 G5;by_cases hlt:k<N
    ·go_upto_region 11 with fail;go_wp2_with fail;refine (onOf_at n k u y l w5 (S.keep (aa s G5)) hl O hr).mono ?_;rintro e w6 ⟨x,rfl,hx,g6⟩;have HX:=ab hx;obtain ⟨hf,rfl,_⟩:=hx;have G6:=ab (aa G5 g6);have kk:=ab (aa kf g6);clear g6 z A;obtain ⟨z,A⟩:=T.out w6 G6;go_upto_region 12 with fail;have kl:=(HB.keep (aa s G6)).2.1;obtain ⟨mm,hJ⟩:=kl;have ko:=ab hJ;clear hJ;have hz:Hid (∀ wx,w6.grownBy wx none->wx.cell? ⟨w.heap.size,0,none⟩=some (.int .i64 (n:Nat))/\wx.cell? ⟨w.heap.size,1,none⟩=some (.slice u l.length y)):=fun wx g=>T wx (aa G6 g)
     refine hd (fun r=>r.cell? ⟨w.heap.size,0,none⟩=some (.int .i64 (n:Nat))/\r.cell? ⟨w.heap.size,1,none⟩=some (.slice u l.length y)) (fun hHeld=>?_);refine tk 9 [(0,46,.agg #[.int .i64 (n:Nat),.slice u l.length y]),(1,47,.slice (some ⟨hf,0,none⟩) l.length l.length)] ?_;try simp only [pA,pL,vA,vL,q0,q1,q2,q3]
     refine de 8 2 (fun K G=>?_);simp only [ax,q4,q5,q6,q7];go_simp
     go_at_call 9
     refine (AD l k _ _ (dU HX aA nofun)).mono ?_;rintro e w7 ⟨gb,rfl,hM,g7⟩;have G7:=ab (aa aA g7);have kz:=ab hM;have s0:=hz.out w7 G7;clear g7 hM hHeld;go_wp2_with fail;refine bk G (fun hHeld=>?_);clear G K;try simp only [pA,pL,vA,vL,q0,q1,q2,q3]
     refine de 7 3 (fun K G=>?_);simp only [ax,q4,q5,q6,q7];go_simp
     go_at_call 8
     obtain ⟨F,hm⟩:∃ F,n=F+1:=⟨n-1,by have:=HR.out.lo;omega⟩;have hA:=ab hm;have X:cD (F+1) l:=by rw [<- hm];exact HR
     have hB:iq (cU F l) (F+l.length)<L:=by
      have h:=hq.out (F+1) X;rw [p9] at h ⊢;omega
     have en:((n:Nat):Int)=(F:Int)+1:=O
     have SV:=(Ba F u y l k (.slice (some ⟨hf,0,none⟩) l.length l.length) gb (3*L+10) L mm w7 (S.keep (aa s (aa G6 G7))) X HD (dU HX G7 nofun) kz (fun p P=>by have:=HS.out p P;omega) O O hB O (G7.cell ko Z));rw [<- en] at SV;clear en hm;refine SV.mono ?_;clear SV;rintro e w8 ⟨vv,iv,H,rfl,g8,hQ,hT⟩;have Y:=ab (And.intro hQ hT);have G8:=ab (aa G7 g8);have s1:=hz.out w8 G8;clear g8 hQ hT s0 hHeld z A;go_wp2_with fail;refine bk G (fun hHeld=>?_);clear G K;try simp only [pA,pL,vA,vL,q0,q1,q2,q3]
     refine tk 0 [(4,45,.tuple #[vv,iv,.int .i64 H]),(5,50,vv),(6,51,iv),(7,52,.int .i64 H),(8,8,vv),(9,9,iv),(10,10,.int .i64 H)] ?_;try simp only [pA,pL,vA,vL,q0,q1,q2,q3]
     refine wpAnyH_done zK ?_ _;have hC:=ab (aa kk G8);obtain ⟨h3,⟨hne,rfl,rfl⟩ | ⟨rfl,V,I,t,p1,p2⟩⟩:=Y.out
     ·have yc:(H==0)=false:=by simpa using hne
      clear h3 Y;go_wp2;go_roundw
      case rel=>exact ⟨k+1,zN,O,hC⟩
      case measure=>simp [intOf];omega
     ·have SV:=ab t;have P1:=ab p1;have P2:=ab p2;obtain ⟨ov,cv,rfl,_⟩:=p1;obtain ⟨oi,ci,rfl,_⟩:=p2;clear h3 Y t;obtain ⟨m0,m1⟩:=s1;have en:((F:Int)+1)=((n:Nat):Int):=by have:=hA.out;omega
      have FI:=DL F u y l k V I (.slice (some ⟨hf,0,none⟩) l.length l.length) (.slice ov (F+1) cv) (.slice oi l.length ci) (3*L+3*L+2) w8 (S.keep (aa s (aa G6 G8))) X (dU HX G8 nofun) P1 P2 O O;rw [en] at FI;have hE:=ab FI;clear en FI hHeld;go_wp2_with fail;refine hE.mono ?_;rintro e w9 ⟨b,rfl,g9,R⟩;have HF:=ab R;have G9:=ab (aa hC g9);clear R hE m0 m1;cases b with
      | false =>
       go_wp2;go_roundw
       case rel=>exact ⟨k+1,zN,O,G9⟩
       case measure=>simp [intOf];omega
      | true =>
       obtain ⟨z,A⟩:=T.out w9 (aa Q G9);have kF:=ab g9;clear g9;go_upto_region 15 with fail;go_loopw [66] (fun iv qc=>Hid (∃ i:Nat,iv=.int .i64 i/\i<=l.length/\w9.grownBy qc none)) (fun iv _=>l.length-(intOf iv).toNat)
       case atStart=>exact ⟨0,rfl,Nat.zero_le _,ae _ _⟩
       case round =>
        obtain ⟨i,rfl,hi,hg⟩:=hrel.out;have GI:=ab hg;clear hg hrel z A;by_cases C:i<l.length
        ·obtain ⟨b,off,rfl,rc,qa⟩:=S.out.row (aa s (aa Q (aa G9 GI))) C;obtain ⟨p,P⟩:=eX (l[i]);have kH:=ab P;rw [<- P] at rc;clear P qa;go_upto_region 17 with fail;obtain ⟨gp,ho⟩:=eX wr.heap.size;obtain ⟨w4,M⟩:=eX (wr.alloc (Obj.cells #[.int .i64 p.kind,.int .i64 p.a,.int .i64 p.b,.int .i64 p.c,.int .i64 p.d,.string p.v] 45));have G4:Hid (wr.grownBy w4 none):=by rw [M];exact ag (ae _ _) _
         have PB:Hid (nf w4 gp p):=by rw [ho];exact gJ wr p 45 (by rw [M];exact ae _ _)
         rw [<- M,<- ho];clear M ho rc;have z0:=PB.out.1;by_cases h1:p.kind=1
         ·have hF:I i=J i:=Dz HR HD hu (by rw [hA];exact SV) (fun j hj=>HF trivial j hj) C (by rw [<- kH];exact h1);obtain ⟨yn,qq,e7,_,qb,hX⟩:=P2.out;simp only [Value.slice.injEq] at e7;obtain ⟨rfl,-,rfl⟩:=e7;obtain ⟨ga,oo,pa,rfl,ca,hv⟩:=hX i C;have hO:=ka.out;rw [aK] at hO;obtain ⟨gt,ot,rfl,ht⟩:=Bu hO O;have tc:=ht i C;rw [hF] at hv;have hG:bg 49000000 (J i):=by
           obtain ⟨_,_,_,_,_,f⟩:=hu.out;exact f i C
          have GX:=ab (aa kF GI);have S0:Hid (∀ r,w4.grownBy r none->r.cell? ⟨ga,oo+i,none⟩=some (.pointer (some ⟨pa,0,none⟩))/\r.cell? ⟨gp,0,none⟩=some (.int .i64 p.kind)/\r.cell? ⟨ba,1,none⟩=some (.slice (some ⟨gt,ot,none⟩) l.length oc)/\r.cell? ⟨gt,ot+i,none⟩=some (.string ⟨(bQ (J i)).toArray⟩)):=by
           intro wx g;have g8:=aa GX (aa G4 g);have g3:=aa G9 (aa GI (aa G4 g));exact ⟨g8.cell ca Z,(PB.k0 g).1,(BA.keep g3 Z).cells.2.1,g3.cell tc Z⟩
          rw [h1] at S0;have HV:=ab hv;have kN:=ab hG;have ql:(0:Int)<=((i:Nat):Int):=O
          have qo:((i:Nat):Int)<(l.length:Int):=O
          clear z0 PB hO ht tc ca h1 hF hv hX hG qb;have s0:=S0.out w4 (ae _ _);refine hd (fun r=>r.cell? ⟨ga,oo+i,none⟩=some (.pointer (some ⟨pa,0,none⟩))/\r.cell? ⟨gp,0,none⟩=some (.int .i64 1)/\r.cell? ⟨ba,1,none⟩=some (.slice (some ⟨gt,ot,none⟩) l.length oc)/\r.cell? ⟨gt,ot+i,none⟩=some (.string ⟨(bQ (J i)).toArray⟩)) (fun hHeld=>?_);refine tk 3 [(0,71,.pointer (some ⟨gp,0,none⟩)),(1,72,.int .i64 1),(2,73,.bool true),(3,74,.bool true),(4,75,.slice (some ⟨ga,oo,none⟩) l.length ci),(5,76,.int .i64 i),(6,77,.pointer (some ⟨ga,oo+i,none⟩)),(7,78,.pointer (some ⟨pa,0,none⟩)),(9,80,.pointer (some ⟨ba,1,none⟩)),(10,81,.slice (some ⟨gt,ot,none⟩) l.length oc),(11,82,.int .i64 i),(12,83,.pointer (some ⟨gt,ot+i,none⟩)),(13,84,.string ⟨(bQ (J i)).toArray⟩)] ?_;try simp only [pA,pL,vA,vL,q0,q1,q2,q3]
          refine de 2 8 (fun K G=>?_);simp only [ax,q4,q5,q6,q7];go_simp
          go_at_call 11
          refine (rTV_at pa (J i) _ 49000000 _ (HV.keep0 (aa GX (aa G4 aA))) kN O).mono ?_;rintro e wa ⟨rfl,hY⟩;have GA:=ab (aa aA hY);clear s0 hHeld hY;have s0:=S0.out wa GA;go_wp2_with fail;refine bk G (fun hHeld=>?_);clear G K;try simp only [pA,pL,vA,vL,q0,q1,q2,q3]
          refine tk 0 [(14,85,.bool false),(15,86,.bool false)] ?_;try simp only [pA,pL,vA,vL,q0,q1,q2,q3]
          refine wpAnyH_done zK ?_ _;go_wp2;go_roundw
          case rel=>exact ⟨i+1,zN,O,aa GI (aa G4 GA)⟩
          case measure=>simp [intOf];omega
         ·have hne:(p.kind==1)=false:=by simpa using h1
          refine hd (fun r=>r.cell? ⟨gp,0,none⟩=some (.int .i64 p.kind)) (fun hHeld=>?_);refine tk 12 [(0,71,.pointer (some ⟨gp,0,none⟩)),(1,72,.int .i64 p.kind),(2,73,.bool false),(3,74,.bool false)] ?_;try simp only [pA,pL,vA,vL,q0,q1,q2,q3]
          refine sk 1 [(4,75),(5,76),(6,77),(7,78),(8,79),(9,80),(10,81),(11,82),(12,83),(13,84),(14,85)] ?_;refine tk 0 [(15,86,.bool false)] ?_;try simp only [pA,pL,vA,vL,q0,q1,q2,q3]
          refine wpAnyH_done zK ?_ _;go_wp2;go_roundw
          case rel=>exact ⟨i+1,zN,O,aa GI (aa G4 aA)⟩
          case measure=>simp [intOf];omega
        ·go_wp2;go_roundw
         case rel=>exact ⟨k+1,zN,O,aa G9 GI⟩
         case measure=>simp [intOf];omega
    ·go_wp2;go_ret;exact ⟨rfl,aa s G5⟩
  ·go_upto_region 4 with fail;refine dq (fun wx=>o.grownBy wx none/\fR wx o.heap.size 28 (.slice uo ul uc) (.slice none 0 0)/\fR wx (o.heap.size+1) 32 (.int .i64 7) (.int .i64 d)) ?_ ?_
   ·refine ⟨ag (ag (ae _ _) _) _,(cR o _ _ _).keep (ag (ae _ none) _) Z,?_⟩;have h:=cR (o.alloc (Obj.cells #[.slice uo ul uc,.slice none 0 0] 28)) 32 (.int .i64 7) (.int .i64 d);rw [World.size_alloc] at h;exact h
   rintro w3 ⟨g3,B,E⟩;obtain ⟨ba,q⟩:=eX o.heap.size;rw [<- q] at B E ⊢;clear q;have Q:=ab (aa G2 g3);obtain ⟨c0,c1,_⟩:=B.cells;obtain ⟨f0,_⟩:=E.cells;clear g3 B E;go_wp2;go_ret;exact ⟨rfl,aa s Q⟩
 ·go_wp2_with fail;refine (wU m u y l w1 (HB.keep (aa s U)) (S.keep (aa s U)) hc).mono ?_;rintro e o ⟨c,d,rfl,g2,hne⟩;have G2:=ab g2;clear g2 z A hc;go_upto_region 4 with fail;refine dq (fun wx=>o.grownBy wx none/\fR wx o.heap.size 28 (.slice none 0 0) (.slice none 0 0)/\fR wx (o.heap.size+1) 32 (.int .i64 c) (.int .i64 d)) ?_ ?_
  ·refine ⟨ag (ag (ae _ _) _) _,(cR o _ _ _).keep (ag (ae _ none) _) Z,?_⟩;have h:=cR (o.alloc (Obj.cells #[.slice none 0 0,.slice none 0 0] 28)) 32 (.int .i64 c) (.int .i64 d);rw [World.size_alloc] at h;exact h
  rintro w3 ⟨g3,B,E⟩;obtain ⟨ba,q⟩:=eX o.heap.size;rw [<- q] at B E ⊢;clear q;have Q:=ab (aa G2 g3);obtain ⟨c0,c1,_⟩:=B.cells;obtain ⟨f0,_⟩:=E.cells;clear g3 B E;go_wp2;go_ret;exact ⟨rfl,aa s (aa U Q)⟩
theorem nJ {H:Type} : ∀ (ps:List aD) (ds:List (DataW H)),ps.length=ds.length->(∀ i (h:i<ps.length) (h2:i<ds.length),ps[i].v.size<=Rows.uptoBulk ds[i])->dO ps<=Rows.uptoBulkAll ds
 | [],[],_,_=>by simp [dO]
 | p :: ps,d :: ds,h,hk=>by
  have a:=nJ ps ds (by simpa using h) (fun i hi h2=>hk (i+1) (by simpa using hi) (by simpa using h2));have h2:p.v.size<=Rows.uptoBulk d:=hk 0 Z Z;unfold dO at a ⊢;simp only [List.map_cons,List.sum_cons,Rows.uptoBulkAll];omega
 | [],d :: ds,h,_=>by simp at h
 | p :: ps,[],h,_=>by simp at h
open Go.ChangeShapes Go.WideShapes Go.ChangeAt Go.RowKit Go.Joins Go.Deep
theorem ownK:ownKnob Tryz.prog.godebug=none:=zK
theorem CS:laidOutB Tryz.prog=true:=zK
theorem gTab:Tryz.prog.globalNamed "voltaic/net.kinds" = some 0:=zK
theorem CI:(Tryz.prog.globals[0]?).map (·.type)=some 146:=zK
theorem BY:Tryz.prog.cellsOf 146=45:=zK
theorem Ae:Tryz.prog.cellsOf 145=5:=zK
theorem Af:Tryz.prog.cellsOf 45=6:=zK
theorem BV:Tryz.prog.cellsOf 24=2:=zK
theorem tW:Tryz.prog.cellsOf 9=1:=zK
theorem cellsQ:Tryz.prog.cellsOf 43=1:=zK
theorem mJ:Tryz.prog.cellsOf 4=1:=zK
theorem jY:Tryz.prog.cellsOf 3=1:=zK
theorem gPow:Tryz.prog.globalNamed "internal/strconv.uint64pow10" = some 2:=zK
theorem CH:(Tryz.prog.globals[2]?).map (·.type)=some 242:=zK
theorem BZ:Tryz.prog.cellsOf 164=1:=zK
theorem BW:Tryz.prog.cellsOf 242=20:=zK
section
variable {H:Type} {enc:TypeId×Value->H} {w:World} {base:Nat} {spare:Nat->Bool} {held:Bool}
theorem gY {i:Nat} {v:Value} (h:(cs.drop i).take 1=[v]):cs[i]? = some v:=by
 have:=congrArg (·[0]?) h;simpa [List.getElem?_take,List.getElem?_drop] using this
theorem xN {f:Nat} {x:DataW H×List MemPlace} (h:DataW.trod enc Tryz.prog w base spare held f 45 cs=some x) :
  ∃ p:aD,cs[0]? = some (.int .i64 p.kind)/\cs[1]? = some (.int .i64 p.a)/\cs[2]? = some (.int .i64 p.b)/\cs[3]? = some (.int .i64 p.c)/\cs[4]? = some (.int .i64 p.d)/\cs[5]? = some (.string p.v)/\∃ r:List (DataW H),x.1=.agg r/\.lit (.string p.v.data.toList)∈r:=by
 obtain ⟨xs,n,_,o,I,g,e⟩:=DataW.trod_struct Tryz.underlying45 h;have i:xs.length=6:=g;have f0:=e 0 _ rfl;change DataW.trod enc Tryz.prog w base spare held n 3 ((cs.drop 0).take (Tryz.prog.cellsOf 3))=_ at f0
 rw [jY,zX O] at f0;have f1:=e 1 _ rfl;change DataW.trod enc Tryz.prog w base spare held n 3 ((cs.drop 1).take (Tryz.prog.cellsOf 3))=_ at f1
 rw [jY,zX O] at f1;have j:=e 2 _ rfl;change DataW.trod enc Tryz.prog w base spare held n 3 ((cs.drop 2).take (Tryz.prog.cellsOf 3))=_ at j
 rw [jY,zX O] at j;have k:=e 3 _ rfl;change DataW.trod enc Tryz.prog w base spare held n 3 ((cs.drop 3).take (Tryz.prog.cellsOf 3))=_ at k
 rw [jY,zX O] at k;have l:=e 4 _ rfl;change DataW.trod enc Tryz.prog w base spare held n 3 ((cs.drop 4).take (Tryz.prog.cellsOf 3))=_ at l
 rw [jY,zX O] at l;have m:=e 5 _ rfl;change DataW.trod enc Tryz.prog w base spare held n 43 ((cs.drop 5).take (Tryz.prog.cellsOf 43))=_ at m
 rw [cellsQ,zX O] at m;obtain ⟨q,t,_,_⟩:=DataW.trod_int Tryz.underlying3 f0;obtain ⟨u,y,_,_⟩:=DataW.trod_int Tryz.underlying3 f1;obtain ⟨z,A,_,_⟩:=DataW.trod_int Tryz.underlying3 j;obtain ⟨B,C,_,_⟩:=DataW.trod_int Tryz.underlying3 k;obtain ⟨D,E,_,_⟩:=DataW.trod_int Tryz.underlying3 l;obtain ⟨s,F,G,_⟩:=DataW.trod_string Tryz.underlying43 m;refine ⟨⟨q,u,z,B,D,s⟩,gY t,gY y,gY A,gY C,gY E,gY F,xs.map (·.1),by rw [o],?_⟩;have:xs[5].1∈xs.map (·.1):=List.mem_map.2 ⟨xs[5],List.getElem_mem _,rfl⟩;rw [G] at this;exact this
theorem xn {b:Nat} {x:DataW H×List MemPlace} {o p:DataW H} {v a l:Bool} (h:DataW.trod enc Tryz.prog w base spare held b 145 cs=some x) (hd:x.1=.agg [o,p,.lit (.bool v),.lit (.bool a),.lit (.bool l)]) :
  ∃ s u:ByteArray,cs[0]? = some (.string s)/\cs[1]? = some (.string u)/\cs[2]? = some (.bool v)/\cs[3]? = some (.bool a)/\cs[4]? = some (.bool l):=by
 obtain ⟨xs,n,_,q,E,c,d⟩:=DataW.trod_struct Tryz.underlying145 h;have e:xs.length=5:=c;have f0:=d 0 _ rfl;change DataW.trod enc Tryz.prog w base spare held n 9 ((cs.drop 0).take (Tryz.prog.cellsOf 9))=_ at f0
 rw [tW,zX O] at f0;have f1:=d 1 _ rfl;change DataW.trod enc Tryz.prog w base spare held n 9 ((cs.drop 1).take (Tryz.prog.cellsOf 9))=_ at f1
 rw [tW,zX O] at f1;have f:=d 2 _ rfl;change DataW.trod enc Tryz.prog w base spare held n 4 ((cs.drop 2).take (Tryz.prog.cellsOf 4))=_ at f
 rw [mJ,zX O] at f;have g:=d 3 _ rfl;change DataW.trod enc Tryz.prog w base spare held n 4 ((cs.drop 3).take (Tryz.prog.cellsOf 4))=_ at g
 rw [mJ,zX O] at g;have i:=d 4 _ rfl;change DataW.trod enc Tryz.prog w base spare held n 4 ((cs.drop 4).take (Tryz.prog.cellsOf 4))=_ at i
 rw [mJ,zX O] at i;obtain ⟨s,r,_,_⟩:=DataW.trod_string Tryz.underlying9 f0;obtain ⟨u,t,_,_⟩:=DataW.trod_string Tryz.underlying9 f1;obtain ⟨F,y,z⟩:=DataW.trod_bool Tryz.underlying4 f;obtain ⟨G,A,B⟩:=DataW.trod_bool Tryz.underlying4 g;obtain ⟨I,C,D⟩:=DataW.trod_bool Tryz.underlying4 i;have j:xs.map (·.1)=[o,p,.lit (.bool v),.lit (.bool a),.lit (.bool l)]:=by
  rw [q] at hd;simpa using hd
 have k:=congrArg (·[2]?) j;have m3:=congrArg (·[3]?) j;have m:=congrArg (·[4]?) j;simp only [List.getElem?_map,zX (show 2<xs.length by omega),zX (show 3<xs.length by omega),zX (show 4<xs.length by omega),z,B,D] at k m3 m;simp at k m3 m;subst k m3 m;exact ⟨s,u,gY r,gY t,gY y,gY A,gY C⟩
end
theorem xp {W:World} (h:Lib.VarReads Tryz.prog W "voltaic/net.kinds" Rows.laid_voltaic_net_kinds):fK W:=by
 obtain ⟨F,G,cs,n,p,f,g,d,hd⟩:=h;obtain rfl:=zJ (gTab.symm.trans f);obtain rfl:=zJ (CI.symm.trans g);obtain ⟨xs,m,_,y,o,q,z⟩:=DataW.trod_array Tryz.underlying146 hd;have r:xs.map (·.1)=(match (Rows.laid_voltaic_net_kinds:DataW Unit) with | .agg l=>l | _=>[]):=by
  have:=congrArg Prod.fst y;simp only [Rows.laid_voltaic_net_kinds] at this ⊢;simpa using this.symm
 have a:∀ i,W.cell? ⟨0,i,none⟩=cs[i]?:=fun i=>World.var?_cell gTab d i
 have e:cs.size=45:=by rw [BY] at o;simpa using o
 have hlt:0<W.heap.size:=World.block_lt_of_cell? W ⟨0,0,none⟩ (u:=cs[0]) (by rw [a];simp [e]);refine ⟨hlt,fun k D E=>?_⟩;have t:k<9:=O
 have c:=z k t;rw [Ae,zX O] at c;have b:∃ d0 d1,(xs[k]'O).1=.agg [d0,d1,.lit (.bool (fh k)),.lit (.bool (gB k)),.lit (.bool (lu k))]:=by
  have mk:=congrArg (·[k]?) r;simp only [List.getElem?_map,zX (show k<xs.length by omega),Option.map_some] at mk;have w:k=1∨k=2∨k=3∨k=4∨k=5∨k=6∨k=7∨k=8:=O
  rcases w with rfl | rfl | rfl | rfl | rfl | rfl | rfl | rfl<;>exact ⟨_,_,zJ mk⟩
 obtain ⟨d0,d1,b⟩:=b;obtain ⟨s,u,c0,c1,A,B,C⟩:=xn c b;have get:∀ j v,j<5->((cs.toList.drop (k*5)).take 5)[j]? = some v->W.cell? ⟨0,k*5+j,none⟩=some v:=by
  intro j v x h;rw [a];rw [List.getElem?_take,if_pos x,List.getElem?_drop] at h;simpa using h
 exact ⟨s,u,get 0 _ O c0,get 1 _ O c1,get 2 _ O A,get 3 _ O B,get 4 _ O C⟩
theorem Ew {W:World} (h:Lib.VarReads Tryz.prog W "internal/strconv.uint64pow10" Rows.laid_internal_strconv_uint64pow10):fT W:=by
 obtain ⟨g,t,cs,d,p,hg,c,a,hd⟩:=h;obtain rfl:=zJ (gPow.symm.trans hg);obtain rfl:=zJ (CH.symm.trans c);have e:(Rows.laid_internal_strconv_uint64pow10:DataW Unit)=Lib.tabData .u64 Lib.pow10Tab:=zK
 rw [e] at hd;have b:=Lib.cells_of_tab Tryz.underlying242 Tryz.underlying164 BZ BW hd;unfold fT Lib.TabIs;rw [a,<- b]
theorem uI {α:Type} {P:Nat->α->Prop} : ∀ n:Nat,(∀ i,i<n->∃ x,P i x)->∃ xs:List α,xs.length=n/\∀ i (h:i<xs.length),P i xs[i]:=by
 intro n;induction n with
 | zero=>intro _;exact ⟨[],rfl,fun i h=>by simp at h⟩
 | succ n ih =>
  intro h;obtain ⟨xs,a,b⟩:=ih (fun i hi=>h i O);obtain ⟨x,c⟩:=h n O;refine ⟨xs++[x],by simp [a],fun i hi=>?_⟩;by_cases hlt:i<xs.length
  ·rw [List.getElem_append_left hlt];exact b i hlt
  ·have:i=n:=by simp at hi;omega
   subst this;rw [List.getElem_append_right O];simpa [a] using c
theorem tQ {H:Type} {d:DataW H} {l:List (DataW H)} (h:d∈l):Rows.uptoBulk d<=Rows.uptoBulkAll l:=by
 induction l with
 | nil=>cases h
 | cons x r ih =>
  simp only [Rows.uptoBulkAll];rcases List.mem_cons.1 h with rfl | h
  ·omega
  ·have:=ih h;omega
theorem add_add (b off i j:Nat) (h:0<i+j∨True):((⟨b,off,none⟩:Addr).add i).add j=⟨b,off+i+j,none⟩:=by
 unfold Addr.add;by_cases hi:i=0<;>by_cases a:j=0<;>simp [hi,a]
theorem xO {H:Type} {enc:TypeId×Value->H} {W:World} {m:Nat} {c1:Value} {l:DataW H×List MemPlace} (s:DataW.trod enc Tryz.prog W 0 (fun _=>true) true m 22 [c1]=some l) (t:Rows.uptoBulk l.1<=1048576) :
  ∃ ps,aR W c1 ps/\(∀ c,c1=.slice none 0 c->c=0)/\dO ps<=Rows.uptoBulk l.1/\∀ i (h:i<ps.length),ps[i].v.size<=100000000:=by
 rcases open_slice Tryz.underlying22 s with ⟨k,_⟩ | ⟨a,len,cap,J,Q,D,R,k,hb,S,K,w,z,x⟩
 ·obtain rfl:c1=.slice none 0 0:=by simpa using k
  exact ⟨[],⟨none,0,rfl,Z,by unfold maxLen;omega,fun i h=>by simp at h⟩,fun c e=>by cases e;rfl,by simp [dO],fun i h=>by simp at h⟩
 ·obtain rfl:c1=.slice (some a) len cap:=by simpa using k
  have E:len<=J:=by rw [w];split<;>omega
  obtain ⟨b,off,f⟩:=a;have u:∀ i,i<len->∃ p:aD,W.cell? (((⟨b,off,f⟩:Addr).add (i*6)).add 0)=some (.int .i64 p.kind)/\W.cell? (((⟨b,off,f⟩:Addr).add (i*6)).add 1)=some (.int .i64 p.a)/\W.cell? (((⟨b,off,f⟩:Addr).add (i*6)).add 2)=some (.int .i64 p.b)/\W.cell? (((⟨b,off,f⟩:Addr).add (i*6)).add 3)=some (.int .i64 p.c)/\W.cell? (((⟨b,off,f⟩:Addr).add (i*6)).add 4)=some (.int .i64 p.d)/\W.cell? (((⟨b,off,f⟩:Addr).add (i*6)).add 5)=some (.string p.v)/\(p.v.size<=100000000/\p.v.size<=Rows.uptoBulk (D i)):=by
   intro i hi;obtain ⟨L,A,B⟩:=x i O;rw [Af] at A;obtain ⟨_,C,hc⟩:=World.cells?_some A;obtain ⟨p,q0,q1,q2,q3,q4,q5,r,M,o⟩:=xN B;refine ⟨p,(hc 0 O).trans q0,(hc 1 O).trans q1,(hc 2 O).trans q2,(hc 3 O).trans q3,(hc 4 O).trans q4,(hc 5 O).trans q5,?_⟩;have F:=tQ o;have n:D i=.agg r:=M;have y:Rows.uptoBulk (D i)<=Rows.uptoBulkAll ((List.range len).map D):=tQ (List.mem_map.2 ⟨i,List.mem_range.2 hi,rfl⟩);have G:Rows.uptoBulkAll ((List.range len).map D)<=Rows.uptoBulk l.1:=by
    rw [z];simp only [Rows.uptoBulk];omega
   rw [n] at y;simp only [Rows.uptoBulk] at F y;have e:p.v.size=p.v.data.toList.length:=Lib.size_eq _;refine ⟨O,?_⟩;rw [n];simp only [Rows.uptoBulk];omega
  obtain ⟨ps,q,hP⟩:=uI len u;refine ⟨ps,⟨some ⟨b,off,f⟩,cap,by rw [q],O,K,fun i hi=>?_⟩,fun c e=>by simp at e,?_,fun i hi=>(hP i hi).2.2.2.2.2.2.1⟩;rotate_left
  ·have G:Rows.uptoBulkAll ((List.range len).map D)<=Rows.uptoBulk l.1:=by
    rw [z];simp only [Rows.uptoBulk];omega
   have P:=nJ ps ((List.range len).map D) (by simp [q]) (fun i hi B=>by
    have:=(hP i hi).2.2.2.2.2.2.2;simpa using this)
   omega
  obtain ⟨q0,q1,q2,q3,q4,q5,q6⟩:=hP i hi;have g:f=none:=by
   obtain ⟨N,_⟩:=hP 0 O;have:=World.cell?_spot N;simpa [Addr.add] using this
  subst g;have I:∀ j,((⟨b,off,none⟩:Addr).add (i*6)).add j=⟨b,off+i*6+j,none⟩:=fun j=>add_add b off (i*6) j (.inr trivial)
  rw [I] at q0 q1 q2 q3 q4 q5;exact ⟨b,off,rfl,World.block_lt_of_cell? W _ q0,q0,q1,q2,q3,q4,q5,O⟩
end Go.Proofs.YtkbmbmdemajoaaaGreatDoor
