/- Contracts that the proof leans on. -/
import Derived.Test.YtkhgaelnglndiaaGreatDoorXNetZ
import Derived.Test.YtkhgaelnglndiaaGreatDoorXNetF
import Derived.Test.YtkhgaelnglndiaaGreatDoorXCLa
import Derived.Test.YtkhgaelnglndiaaGreatDoorXRQuoX
import Derived.Test.YtkhgaelnglndiaaGreatDoorXRCmpX
import Derived.Test.YtkhgaelnglndiaaGreatDoorXCDb
import Derived.Test.YtkhgaelnglndiaaGreatDoorXRQuiet
import Derived.Test.YtkhgaelnglndiaaGreatDoorXSumV
import Derived.Deep.RegionHeld3
namespace Go.Proofs.YtkhgaelnglndiaaGreatDoor
open Go.RowKit
set_option linter.unusedVariables false
set_option linter.unusedSimpArgs false
set_option maxHeartbeats 8000000
set_option maxRecDepth 10000
theorem rOfU_at (q:Rat) (K:Nat) (m:Int) (w:World) (hK:2<=K) (hf:QFit q K) (hl:K<=4900000) (hml:w.cell? ⟨1,0,none⟩=some (.int .i64 m)) :
  Calls Tryz.prog 13 #[.string ⟨(qtext q).toArray⟩] w fun e w'=>∃ b,e=.returned (.pointer (some ⟨b,0,none⟩))/\w.grownBy w' none/\RX w' b q K:=by
 have hlen:=qtext_len hf (by omega);refine (rOf_at ⟨(qtext q).toArray⟩ m w (by show (qtext q).toArray.size<=_;simp;omega) hml).mono ?_;rintro e w' ⟨b,rfl,g,h⟩;refine ⟨b,rfl,g,?_⟩;have e0:ofR (⟨(qtext q).toArray⟩:ByteArray).data.toList=q:=ofR_qtext q;rw [e0] at h;rcases h with h | ⟨h0,h⟩
 ·have h':RQ w' b q K:=⟨h.1.tight hf.1,h.2.1.tight hf.2,h.2.2⟩;exact h'.x
 ·subst h0;have h':RNil w' b K:=⟨h.1.tight hf.1,h.2.tight hf.1⟩;exact h'.x hK
theorem rOfA_at (r:ByteArray) (m:Int) (w:World) (hs:r.size<=100000000) (hml:w.cell? ⟨1,0,none⟩=some (.int .i64 m)) :
  Calls Tryz.prog 13 #[.string r] w fun e w'=>∃ b,e=.returned (.pointer (some ⟨b,0,none⟩))/\w.grownBy w' none/\RX w' b (ofR r.data.toList) (3*r.size+8):=by
 refine (rOf_at r m w hs hml).mono ?_;rintro e w' ⟨b,rfl,g,h⟩;refine ⟨b,rfl,g,?_⟩;rcases h with h | ⟨h0,h⟩
 ·exact h.x
 ·rw [h0];exact h.x (by omega)
theorem first_more {nodes:Int} {p:Prt} (hp:wrongD false p nodes=0):∀ (ps:List Prt) (k:Nat),(∀ q∈ps,wrongD false q nodes=0)->firstBadD false nodes (ps++[p]) k=(0,0):=by
 intro ps;induction ps with
 | nil =>
  intro k _;show firstBadD false nodes [p] k=(0,0)
  rw [firstBadD,if_pos hp];rfl
 | cons q r ih =>
  intro k h;show firstBadD false nodes (q :: (r++[p])) k=(0,0)
  rw [firstBadD,if_pos (h q (by simp))];exact ih (k+1) (fun x hx=>h x (by simp [hx]))
theorem sgn_pos {z:Int} (h:¬ sgn z<=0):0<z:=by
 unfold sgn at h;split at h
 ·omega
 ·split at h
  ·assumption
  ·omega
theorem sgn_zero {z:Int} : sgn z=0↔z=0:=by
 unfold sgn;split
 ·omega
 ·split<;>omega
theorem check_more {n:Nat} {ps:List Prt} {a b:Int} {r:ByteArray} (h:(checkD false (n:Int) ps).1=0) (hl:ps.length<16) (ha:0<=a/\a<(n:Int)) (hb:0<=b/\b<(n:Int)) (hr:0<(ofR r.data.toList).num):(checkD false (n:Int) (moreP ps a b r)).1=0:=by
 have hs:0<signV r:=by
  unfold signV;rw [ofQ_R];have e1:rB (ofR r.data.toList)=false:=by unfold rB;exact decide_eq_false (by omega)
  have e2:rN (ofR r.data.toList)≠0:=by unfold rN;omega
  show 0<signQ (rB (ofR r.data.toList)) (rN (ofR r.data.toList))
  unfold signQ;rw [e1,if_neg (by simp),if_neg e2];decide
 have hia:isN a (n:Int)=true:=by unfold isN;rw [decide_eq_true ha.1,decide_eq_true ha.2];rfl
 have hib:isN b (n:Int)=true:=by unfold isN;rw [decide_eq_true hb.1,decide_eq_true hb.2];rfl
 have hw:wrongD false ⟨1,a,b,0,0,r⟩ (n:Int)=0:=by
  unfold wrongD wrongP;simp only;rw [if_neg (by omega),if_neg (by omega)];unfold wrongK;have d1:decide (signV r<=0)=false:=decide_eq_false (by omega);rw [hia,hib,d1];rfl
 unfold checkD at h ⊢;by_cases hm:(n:Int)<1∨8<(n:Int)∨16<ps.length
 ·rw [if_pos hm] at h;exact absurd h (by decide)
 ·rw [if_neg hm] at h;rw [if_neg (by rw [more_length];omega)];unfold moreP;rw [first_more hw ps 0 (firstD_ok h)]
theorem own_fits (ps:List Prt) (h:totalV ps<=1100000):∀ n,RightN n ps->sumE (netE n ps) (n+ps.length)<2300000:=by
 intro n hn;have h1:=sumE_net n ps;have h2:=hn.hi;have h3:=hn.len;omega
theorem more_total (ps:List Prt) (a b:Int) (r:ByteArray):totalV (moreP ps a b r)=totalV ps+r.size:=by
 simp [totalV,moreP]
theorem push_fits' (ps:List Prt) (a b:Int) (h:totalV ps<=1100000):∀ n,RightN n ps->sumE (netE n (pushPs ps a b)) (n+(ps.length+1))<2300000:=by
 intro n hn;have h1:=sumE_push n ps a b;have h2:=hn.hi;have h3:=hn.len;omega
theorem FltAt.noW {w:World} {b:Nat} {x y:Int} (h:FltAt w b x y):NoWords w b:=by
 intro i z e;unfold FltAt at h;simp only [World.cell?,h] at e;match i,e with
 | 0,e=>simp at e
 | 1,e=>simp at e
 | i+2,e=>simp at e
theorem FltAt.keepR {w w':World} {b k:Nat} {x y:Int} (h:FltAt w b x y) (g:w.grownBy w' (some k)) (hne:b≠k):FltAt w' b x y:=by
 have hl:=h.lt;unfold FltAt at h ⊢;rw [g.block b hl (fun e=>hne (Option.some.inj e))];exact h
theorem OwnP.nilbox (w:World):OwnP (w.alloc (Obj.cells #[] 47)) w.heap.size (.slice (some ⟨w.heap.size,0,none⟩) 0 0) []:=World.ownsRow_made w #[] 0 (Nat.le_refl _) (by unfold maxLen;omega) (by simp)
theorem wpList_append_none {P:Program} (W:World) {ops:Array Oper} {rest:List Oper} {o:Oper} {a:Act} {Q:Exit->Act->World->Prop}
  (hg:o.guard=none) (s x:Operand) (t:TypeId) (ho:o.op=.call { callee:=.builtin .append,args:=#[s,x],argTypes:=#[t,t] })
  (e:TypeId) (i:TypeInfo) (h1:P.underlying t=some (.slice e)) (hi:P.info? e=some i) (ad:Addr) (c pc:Nat) (hs:a.eval s=.slice (some ad) 0 c) (hx:a.eval x=.slice none 0 pc)
  (hK:wpList P ops Q rest (a.put o.dst (.slice (some ad) 0 c)) W):wpList P ops Q (o :: rest) a W:=by
 have hr:(Builtin.append_ #[t,t] o.type #[.slice (some ad) 0 c,.slice none 0 pc]).run P W=.ok (.slice (some ad) 0 c) W:=by
  simp [Builtin.append_,run_underlying h1,sizeOf,typeInfo,hi,Builtin.lenOf,Builtin.firstCells,storeCells]
 refine wpList_plain hg fun _ hK2=>?_
 unfold Oper.wp execOp;simp only [ho,resolve,invoke,builtin,Sem.run_bind,Sem.run_pure,Result.andThen_ok,List.map_toArray,List.map_cons,List.map_nil,hs,hx,hr];exact hK2 _ _ hK
theorem wpList_append_parts {P:Program} (W:World) {ops:Array Oper} {rest:List Oper} {o:Oper} {a:Act} {Q:Exit->Act->World->Prop}
  (hg:o.guard=none) (s x:Operand) (t:TypeId) (ho:o.op=.call { callee:=.builtin .append,args:=#[s,x],argTypes:=#[t,t] }) (base:Nat)
  (h1:P.underlying t=some (.slice 47)) (hinfo:(P.info? 47).map (fun i=>(i.zero,i.size,i.bytes))=some (some (.agg #[.int .i64 0,.int .i64 0,.int .i64 0,.int .i64 0,.int .i64 0,.string ⟨#[]⟩]),6,56))
  (g:Nat) (hs:a.eval s=.slice (some ⟨g,0,none⟩) 0 0) (hown:OwnP W base (.slice (some ⟨g,0,none⟩) 0 0) []) (po:Option Addr) (pc:Nat) (ps:List Prt) (hx:a.eval x=.slice po ps.length pc) (hp:PartsAt W (.slice po ps.length pc) ps)
  (hlen:ps.length<=100000) (hbase:base<=W.heap.size)
  (hK:∀ ao cap w',OwnP w' base (.slice ao ps.length cap) ps->W.grownBy w' (some g)->wpList P ops Q rest (a.put o.dst (.slice ao ps.length cap)) w'):wpList P ops Q (o :: rest) a W:=by
 obtain ⟨i0,hi0,hz0,hz1,hz2⟩:=info_parts hinfo;cases po with
 | none =>
  have h0:ps=[]:=by
   obtain ⟨ao,cap,e,h1,h2,h3⟩:=hp;simp only [Value.slice.injEq] at e;obtain ⟨e1,_,_⟩:=e;subst e1;rcases Nat.eq_zero_or_pos ps.length with h0 | h0
   ·exact List.eq_nil_of_length_eq_zero h0
   ·obtain ⟨b,off,e,_⟩:=h3 0 h0;cases e
  subst h0;exact wpList_append_none W hg s x t ho _ i0 h1 hi0 ⟨g,0,none⟩ 0 pc hs hx (hK _ _ _ hown (gr_trans (gr_refl W none) (gr_refl W none) (fun _ _ e=>by cases e) (fun _ _ e=>by cases e)))
 | some ad =>
  refine wpList_append_own W hg s x t ho base _ i0 _ 6 56 h1 hi0 hz0 hz1 hz2 rfl (by decide) _ 0 [] hs hown ad ps.length pc (cellsPs ps) hx (cellsPs_length ps) hp.cells (cellsPs_one ps) (by unfold maxLen;omega) (by omega) hbase ?_;intro v' w' h2 h3 _;have h4:OwnP w' base v' ps:=by
   unfold OwnP;first | exact h2 | (rw [Nat.zero_add,List.nil_append] at h2;exact h2)
  obtain ⟨ao,cap,e,_⟩:=h4.shape;subst e;exact hK ao cap w' h4 h3
theorem thev_any (nodes:Int) (po:Option Addr) (pc:Nat) (ps:List Prt) (a b:Int) (r:ByteArray) (w:World) (hb:Base w) (ht:Tab10 w) (hp:PartsAt w (.slice po ps.length pc) ps) (hsz:totalV ps+r.size<=1100000) (hsv:∀ i (h:i<ps.length),ps[i].v.size<=100000000) :
  Calls Tryz.prog 4 #[.agg #[.int .i64 nodes,.slice po ps.length pc],.int .i64 a,.int .i64 b,.string r] w fun e w'=>e=.returned (.bool true)/\w.grownBy w' none:=by
 have HB:=hide hb;have HT:=hide ht;have HP:=hide hp;have HSV:=hide hsv;have HSZ:=hide hsz;have hrs:r.size<=1100000:=by omega
 clear hb ht hp hsv hsz;obtain ⟨W,hW⟩:∃ W,W=w.alloc (Obj.cells #[.int .i64 nodes,.slice po ps.length pc] 24):=⟨_,rfl⟩;obtain ⟨gn,hgn⟩:∃ gn,gn=w.heap.size:=⟨_,rfl⟩;have GW:Hid (w.grownBy W none):=by rw [hW];exact gr_alloc (gr_refl _ _) _
 have NC:Hid (∀ wx,W.grownBy wx none->wx.cell? ⟨gn,0,none⟩=some (.int .i64 nodes)/\wx.cell? ⟨gn,1,none⟩=some (.slice po ps.length pc)):=by
  intro wx hg;rw [hW] at hg;rw [hgn];exact ⟨hg.cell (by go_simp) (by simp),hg.cell (by go_simp) (by simp)⟩
 go_enter Tryz.func4,Tryz.ntmps4
 go_wp2_with fail;rw [<- hW,<- hgn];clear hW hgn;refine (divides_at W (HB.out.keep GW.out) (HT.out.keep0 GW.out)).mono ?_;rintro e w1 ⟨rfl,g1⟩;obtain ⟨n0,n1⟩:=NC.out w1 g1;have G1:=hide g1;clear g1;go_wp2_with fail;refine (seen_at nodes po pc ps a b 2300000 w1 (HB.out.keep (gr_none GW.out G1.out)) (HT.out.keep0 (gr_none GW.out G1.out)) (HP.out.keep (gr_none GW.out G1.out)) (own_fits ps (by have:=HSZ.out;omega)) (push_fits' ps a b (by have:=HSZ.out;omega)) (by decide) (by decide)).mono ?_;rintro e sx ⟨S1,S2,c1,c2,rfl,g2,hcase⟩;have HC:=hide hcase;have G2:=hide (gr_none G1.out g2);clear g2 hcase n0 n1;go_upto_region 4 with fail;obtain ⟨bf,hbf⟩:∃ bf,bf=sx.heap.size:=⟨_,rfl⟩;obtain ⟨wa,hwa⟩:∃ wa,wa=sx.alloc (Obj.cells #[.int .i64 c1,.int .i64 c2] 32):=⟨_,rfl⟩;have FA:Hid (FltAt wa bf c1 c2):=by rw [hwa,hbf];exact heap_alloc_new sx _
 have G3:Hid (W.grownBy wa none):=by rw [hwa];exact gr_alloc G2.out _
 have HBF:Hid (W.heap.size<=bf):=by rw [hbf];exact G2.out.size
 rw [<- hwa];try rw [<- hbf]
 clear hwa hbf;obtain ⟨f0,f1,f2,f3⟩:=FA.out.cells;obtain ⟨n0,n1⟩:=NC.out wa G3.out;have GWa:=hide (gr_none GW.out G3.out);by_cases hx:c1≠0
 ·have hxd:(c1 != 0)=true:=by simp [hx]
  go_wp2;go_ret;exact ⟨rfl,GWa.out⟩
 replace hx:c1=0:=Classical.not_not.1 hx;subst hx;have h4:(checkD false nodes ps).1=0/\(endsR nodes.toNat ps.length a b).1=0/\c2=0/\∃ V I U J,NetSol nodes.toNat ps V I/\(∀ V' I',NetSol nodes.toNat ps V' I'->(∀ j,j<nodes.toNat->V' j=V j)/\∀ i,i<ps.length->I' i=I i)
    /\ NetSol nodes.toNat (pushPs ps a b) U J/\S1=⟨(qtext (V a.toNat-V b.toNat)).toArray⟩/\S2=⟨(qtext (U a.toNat-U b.toNat)).toArray⟩:=by
  rcases HC.out with ⟨h0,_,_,h1,_⟩ | ⟨_,h0,_,_,h1,_⟩ | ⟨_,_,_,_,_,(⟨h1,_⟩ | ⟨h1,_⟩)⟩ | ⟨h0,h1,_,h2,V,I,U,J,k1,k2,k3,_,k5,k6⟩
  ·exact absurd h1.symm h0
  ·exact absurd h1.symm h0
  ·exact absurd h1 (by decide)
  ·exact absurd h1 (by decide)
  ·exact ⟨h0,h1,h2,V,I,U,J,k1,k2,k3,k5,k6⟩
 obtain ⟨hck,hen,rfl,V,I,U,J,hV,huV,hU,hS1,hS2⟩:=h4;obtain ⟨hRN,hnn,hle,hfine⟩:=right_of hck;obtain ⟨n,hn⟩:∃ n,n=nodes.toNat:=⟨_,rfl⟩;rw [<- hn] at hRN hnn hen hV huV hU;subst hnn;obtain ⟨ha,hb,_⟩:=ends_ok hen;have hFX:Fixed n ps:=fixed_of hV huV;have HKIND:Hid (∀ p∈ps,1<=p.kind/\p.kind<=7):=fun p hp=>⟨(hfine p hp).k1,(hfine p hp).k7⟩
 have han:a.toNat<n:=by omega
 have hbn:b.toNat<n:=by omega
 have fV:=(fix_fits hRN hFX (own_fits ps (by have:=HSZ.out;omega) n hRN) hV).1;have fU:=(fix_fits (right_push hRN (by omega) ha hb) (fixed_push hFX a b) (by rw [push_length];exact push_fits' ps a b (by have:=HSZ.out;omega) n hRN) hU).1;have f1d:=(fV _ han).sub (fV _ hbn);have f2d:=(fU _ han).sub (fU _ hbn);have OF1:Hid (∀ m wx,wx.cell? ⟨1,0,none⟩=some (.int .i64 m)->Calls Tryz.prog 13 #[.string S1] wx fun e w'=>∃ bb,e=.returned (.pointer (some ⟨bb,0,none⟩))/\wx.grownBy w' none/\RX w' bb (V a.toNat-V b.toNat) 4600001):=by
  intro m wx h;rw [hS1];exact rOfU_at _ 4600001 m wx (by decide) f1d (by decide) h
 have OF2:Hid (∀ m wx,wx.cell? ⟨1,0,none⟩=some (.int .i64 m)->Calls Tryz.prog 13 #[.string S2] wx fun e w'=>∃ bb,e=.returned (.pointer (some ⟨bb,0,none⟩))/\wx.grownBy w' none/\RX w' bb (U a.toNat-U b.toNat) 4600001):=by
  intro m wx h;rw [hS2];exact rOfU_at _ 4600001 m wx (by decide) f2d (by decide) h
 obtain ⟨ml,hml⟩:=HB.out.2.1;have ML:Hid (∀ wx,W.grownBy wx none->wx.cell? ⟨1,0,none⟩=some (.int .i64 ml)):=fun wx hg=>(gr_none GW.out hg).cell hml (by simp)
 have HCK:=hide hck;have HRN:=hide hRN;have HV:=hide hV;have HU:=hide hU;have HFX:=hide hFX;have Ha:=hide ha;have Hb:=hide hb;have hn8:n<=8:=hRN.hi;clear hck hen hRN hV huV hU hFX ha hb hn hS1 hS2 fV fU f1d f2d hml hfine HC;obtain ⟨q,hq⟩:∃ q,q=ofR r.data.toList:=⟨_,rfl⟩;have OFR:Hid (∀ m wx,wx.cell? ⟨1,0,none⟩=some (.int .i64 m)->Calls Tryz.prog 13 #[.string r] wx fun e w'=>∃ b,e=.returned (.pointer (some ⟨b,0,none⟩))/\wx.grownBy w' none/\RX w' b q 3300008):=by
  intro m wx h;rw [hq];refine (rOfA_at r m wx (by omega) h).mono ?_;rintro e w' ⟨b,rfl,g,x⟩;exact ⟨b,rfl,g,x.mono (by omega)⟩
 have HQ:=hide hq;clear hq;go_wp2_with fail;refine (OFR.out ml _ (ML.out _ G3.out)).mono ?_;rintro e w2 ⟨b2,rfl,g2,x2⟩;have X2:=hide x2;have G4:=hide (gr_none G3.out g2);have FB:=hide (FA.out.keep0 g2);clear x2 g2 f0 f1 f2 f3 n0 n1;go_wp2_with fail;refine (ratSign_at b2 q.num 3300008 w2 X2.out.1).mono ?_;rintro e w3 ⟨rfl,hw3⟩;obtain rfl:=hw3.symm;clear hw3;obtain ⟨z,hz⟩:∃ z,z=sgn q.num:=⟨_,rfl⟩;rw [<- hz];have HZ:=hide hz;clear hz;obtain ⟨f0,f1,f2,f3⟩:=FB.out.cells;obtain ⟨n0,n1⟩:=NC.out w2 G4.out;by_cases hz0':z<=0
 ·have hzd:decide (z<=0)=true:=decide_eq_true hz0';go_wp2
  all_goals (try (exfalso;omega))
  go_ret;exact ⟨rfl,gr_none GW.out G4.out⟩
 have hzd:decide (z<=0)=false:=decide_eq_false hz0';have HNUM:Hid (0<q.num):=sgn_pos (by rw [<- HZ.out];exact hz0');by_cases hlen:16<=ps.length
 ·have h16:decide ((16:Int)<=(ps.length:Int))=true:=decide_eq_true (by omega);go_wp2
  all_goals (try (exfalso;omega))
  go_ret;exact ⟨rfl,gr_none GW.out G4.out⟩
 have h16:decide ((16:Int)<=(ps.length:Int))=false:=decide_eq_false (by omega);go_upto_region 6 with fail
 all_goals (try (exfalso;omega))
 clear h16 hzd;go_wp2_with fail;refine (rQuiet_at n po pc ps w2 (HP.out.keep (gr_none GW.out G4.out)) (by omega)).mono ?_;rintro e w4 ⟨v4,rfl,o4,g4⟩;obtain ⟨vo4,vc4,rfl,_⟩:=o4.shape;rw [List.length_map];have G5:=hide (gr_none G4.out g4);have FC:=hide (FB.out.keep0 g4);clear o4 g4 f0 f1 f2 f3 n0 n1;go_upto_region 7 with fail;obtain ⟨bm,hbm⟩:∃ bm,bm=w4.heap.size:=⟨_,rfl⟩;obtain ⟨w5,hw5⟩:∃ w5,w5=w4.alloc (Obj.cells #[.int .i64 (n:Int),.slice vo4 ps.length vc4] 24):=⟨_,rfl⟩;have B5:Hid (BoxN w5 bm (.int .i64 (n:Int)) (.slice vo4 ps.length vc4)):=by rw [hw5,hbm];exact heap_alloc_new w4 _
 have G6:Hid (W.grownBy w5 none):=by rw [hw5];exact gr_alloc G5.out _
 have FD:Hid (FltAt w5 bf 0 0):=by rw [hw5];exact FC.out.keep0 (gr_alloc (gr_refl _ _) _)
 have HBFM:Hid (bf<bm):=by rw [hbm];exact FC.out.lt
 have HBM:Hid (bm<w5.heap.size/\W.heap.size<=bm):=⟨B5.out.lt,by rw [hbm];exact G5.out.size⟩;rw [<- hw5];try rw [<- hbm]
 clear hw5 hbm;obtain ⟨n0,n1⟩:=NC.out w5 G6.out;obtain ⟨m0,m1,m2,m3⟩:=B5.out.cells;obtain ⟨vx,hvx⟩:∃ vx,vx=Value.slice vo4 ps.length vc4:=⟨_,rfl⟩;rw [<- hvx] at m1;have B5':Hid (BoxN w5 bm (.int .i64 (n:Int)) vx):=by rw [hvx];exact B5.out
 clear hvx B5;obtain ⟨we,hwe⟩:∃ we,we=w5.alloc (Obj.cells #[] 47):=⟨_,rfl⟩;have GE:Hid (w5.grownBy we none):=by rw [hwe];exact gr_alloc (gr_refl _ _) _
 have OE:Hid (OwnP we w5.heap.size (.slice (some ⟨w5.heap.size,0,none⟩) 0 0) []):=by rw [hwe];exact OwnP.nilbox w5
 have n1e:(w5.alloc (Obj.cells #[] 47)).cell? ⟨gn,1,none⟩=some (.slice po ps.length pc):=(gr_alloc (gr_refl w5 none) _).cell n1 (by simp);have PE:=hide (HP.out.keep (gr_none GW.out (gr_none G6.out GE.out)));obtain ⟨ao0,cap0,e00,hpl,hpm,_⟩:=id HP.out;have hpc:ps.length<=pc/\pc<=maxLen:=by
  simp only [Value.slice.injEq] at e00;obtain ⟨_,_,rfl⟩:=e00;exact ⟨hpl,hpm⟩
 have hpc1:=hpc.1;have hpc2:=hpc.2;unfold maxLen at hpc2;clear e00 hpl hpm hpc;go_wp2_with (at_builtin;rw [<- hwe];refine wpList_append_parts _ rfl _ _ 22 rfl w5.heap.size Tryz.underlying22 Tryz.infoPart w5.heap.size rfl OE.out po pc ps rfl PE.out (by omega) GE.out.size ?_)
 intro ao6 c6 w6 hown hgr;try rw [<- hwe] at hgr
 have HG6:Hid (w5.grownBy w6 none):=gr_trans (r1:=none) GE.out hgr (fun _ _ e=>e) (fun b hb e=>by have:=Option.some.inj e;omega);have HO6:=hide hown;clear hown hgr n1e hwe;have HBFL:bf<w5.heap.size:=FD.out.lt;have HBML:=HBM.out.1;have B6:=hide (B5'.out.keep HG6.out (by simp));have F6:=hide (FD.out.keep0 HG6.out);have GA6:=hide (gr_none G6.out HG6.out);clear m0 m1 m2 m3 n0 n1;go_wp2_with fail;refine (lawPart_at 1 a b r w6).mono ?_;rintro e w7 ⟨rfl,g7⟩;have G67:=hide g7;have O7:=hide (HO6.out.keep0 g7);have B7:=hide (B6.out.keep g7 (by simp));have F7:=hide (F6.out.keep0 g7);have GA7:=hide (gr_none GA6.out g7);have HS7:w5.heap.size<=w7.heap.size:=Nat.le_trans HG6.out.size g7.size;clear g7;obtain ⟨m0,m1,m2,m3⟩:=B7.out.cells;have HCL:Hid (∀ j u,(cellsP ⟨1,a,b,0,0,r⟩)[j]? = some u->(w7.alloc (Obj.cells #[.int .i64 1,.int .i64 a,.int .i64 b,.int .i64 0,.int .i64 0,.string r] 47)).cell? ((⟨w7.heap.size,0,none⟩:Addr).add j)=some u):=by
  intro j u hj;have hn:=heap_alloc_new w7 (Obj.cells #[.int .i64 1,.int .i64 a,.int .i64 b,.int .i64 0,.int .i64 0,.string r] 47);rw [show (⟨w7.heap.size,0,none⟩:Addr).add j=⟨w7.heap.size,j,none⟩ from by unfold Addr.add;split<;>simp_all];simp only [World.cell?,hn];rw [<- hj];simp [cellsP]
 go_wp2_with (at_builtin;refine wpList_append_p _ rfl _ _ 22 rfl w5.heap.size Tryz.underlying22 Tryz.infoPart (.slice ao6 ps.length c6) ps rfl (O7.out.keep0 (gr_alloc (gr_refl _ _) _)) w7.heap.size ⟨1,a,b,0,0,r⟩ rfl HCL.out (by omega) (by simp;omega) ?_)
 intro ao8 cap8 w8 hown8 hgr8;have O8:Hid (OwnP w8 w5.heap.size (.slice ao8 (ps.length+1) cap8) (moreP ps a b r)):=hown8;have G78:=gr_alloc (gr_refl w7 none) (Obj.cells #[.int .i64 1,.int .i64 a,.int .i64 b,.int .i64 0,.int .i64 0,.string r] 47);have hne8:∀ k,k<w5.heap.size->some k≠(Value.slice ao6 ps.length c6).ownBlock:=by
  intro k hk e;have:=(World.ownsRow.lt O7.out k e.symm).1;omega
 have B8:=hide ((B7.out.keep G78 (by simp)).keep hgr8 (hne8 bm HBML));have F8:Hid (FltAt w8 bf 0 0):=by
  have h1:=F7.out.keep0 G78;have hl:=h1.lt;unfold FltAt at h1;show w8.heap[bf]? = _
  rw [hgr8.block bf hl (hne8 bf HBFL)];exact h1
 have GA8:Hid (W.grownBy w8 none):=by
  refine gr_trans (r:=none) (gr_none GA7.out G78) hgr8 (fun _ _ e=>e) (fun k hk e=>?_);exact absurd e (hne8 k (Nat.lt_of_lt_of_le hk (Nat.le_trans HBM.out.2 (Nat.le_of_lt HBML))))
 have HN8:Hid ((Value.slice ao8 (ps.length+1) cap8).ownBlock=none∨(Value.slice ao8 (ps.length+1) cap8).ownBlock≠some bm):=O8.out.ne HBML;clear hown8 hgr8 G78 hne8 m0 m1 m2 m3;obtain ⟨m0,m1,m2,m3⟩:=B8.out.cells;go_upto_region 8 with fail;obtain ⟨w9,hw9⟩:∃ w9,w9=w8.setCell ⟨bm,1,none⟩ (.slice ao8 (ps.length+1) cap8):=⟨_,rfl⟩;have GS9:Hid (w8.grownBy w9 (some bm)):=by rw [hw9];exact grs_set _ _ _ _
 have B9:Hid (BoxN w9 bm (.int .i64 (n:Int)) (.slice ao8 (ps.length+1) cap8)):=by rw [hw9];exact B8.out.set1 _
 have O9:=hide (O8.out.kept GS9.out HN8.out);have F9:=hide (F8.out.keepR GS9.out (by have:=HBFM.out;omega));have GA9:Hid (W.grownBy w9 none):=by rw [hw9];exact gr_set GA8.out _ _ HBM.out.2
 rw [<- hw9];clear hw9 m0 m1 m2 m3;go_wp2_with fail;refine (OF2.out ml _ (ML.out _ GA9.out)).mono ?_;rintro e w10 ⟨b10,rfl,g10,x10⟩;have X10:=hide x10;have G10:=hide g10;clear x10 g10;go_wp2_with fail;refine (OFR.out ml _ (ML.out _ (gr_none GA9.out G10.out))).mono ?_;rintro e w11 ⟨b11,rfl,g11,x11⟩;have X11:=hide x11;have X10':=hide (X10.out.keep0 g11);have G11:=hide (gr_none G10.out g11);clear x11 g11;go_wp2_with fail;refine (rAddS_at b10 b11 _ _ 4600001 3300008 w11 X10'.out X11.out (by decide)).mono ?_;rintro e w12 ⟨b12,rfl,r12,g12,l12⟩;have R12:=hide r12;have G12:=hide (gr_none G11.out g12);have GA12:=hide (gr_none GA9.out G12.out);have GW12:=hide (gr_none GW.out GA12.out);have B12:=hide (B9.out.keep G12.out (by simp));have F12:=hide (F9.out.keep0 G12.out);have O12:=hide (O9.out.keep0 G12.out);have HB12:Hid (bf<w9.heap.size/\w9.heap.size<=b12):=⟨F9.out.lt,Nat.le_trans G11.out.size l12⟩;obtain ⟨qs,hqs⟩:∃ qs,qs=U a.toNat-U b.toNat+q:=⟨_,rfl⟩;rw [<- hqs] at R12;have HQS:=hide hqs;clear r12 g12 l12 hqs X10 X11 X10' G10 G11;obtain ⟨m0,m1,m2,m3⟩:=B12.out.cells;have PP12:Hid (PartsAt w12 (.slice ao8 (ps.length+1) cap8) (moreP ps a b r)):=O12.out.parts (by
  intro p hp;unfold moreP at hp;rcases List.mem_append.1 hp with hp | hp
  ·obtain ⟨i,hi,rfl⟩:=List.mem_iff_getElem.1 hp;have:=HSV.out i hi;omega
  ·rw [List.mem_singleton.1 hp];show r.size<=_
   omega)
 have SV:=solveF_at (n:Int) ao8 cap8 (moreP ps a b r) 2300000 w12 (HB.out.keep GW12.out) (HT.out.keep0 GW12.out) (by rw [more_length];exact PP12.out) (own_fits _ (by rw [more_total];exact HSZ.out)) (by decide) (by decide);rw [more_length] at SV;have SVH:=hide SV;clear SV;go_wp2_with fail;refine SVH.out.mono ?_;rintro e s9 ⟨fy,ffy,ny,my,Vy,Iy,vvy,ivy,rfl,r1,r2,r3,r4,r5,r6⟩;obtain ⟨aoy,acy,rfl⟩:=r1.shape;obtain ⟨boy,bcy,rfl⟩:=r2.shape;rw [textsL_length] at r1 r2 ⊢;rw [textsL_length];have R2y:=hide r2;have R3y:=hide r3;have R6y:=hide r6;have GS:=hide r4;have F13:=hide ((F12.out.keep0 r4).keep0 (gr_alloc (gr_refl s9 none) (Obj.cells #[.slice aoy ny acy,.slice boy my bcy] 29)));have hnb:bf≠s9.heap.size:=by have:=(F12.out.keep0 r4).lt;omega
 clear r1 r2 r3 r4 r5 r6 m0 m1 m2 m3 SVH;obtain ⟨f0,f1,f2,f3⟩:=F13.out.cells;go_upto_region 10 with fail;obtain ⟨f14,r14⟩:=F13.out.set fy ffy;obtain ⟨ba,hba⟩:∃ ba,ba=s9.heap.size:=⟨_,rfl⟩;obtain ⟨w13,hw13⟩:∃ w13,w13=s9.alloc (Obj.cells #[.slice aoy ny acy,.slice boy my bcy] 29):=⟨_,rfl⟩;have GS13:Hid (s9.grownBy w13 none):=by rw [hw13];exact gr_alloc (gr_refl _ _) _
 have CA:Hid (w13.cell? ⟨ba,0,none⟩=some (.slice aoy ny acy)/\w13.cell? ⟨ba,1,none⟩=some (.slice boy my bcy)):=by
  rw [hw13,hba];exact ⟨by go_simp,by go_simp⟩
 rw [<- hw13] at f14 r14 F13;obtain ⟨w14,hw14⟩:∃ w14,w14=(w13.setCell ⟨bf,0,none⟩ (.int .i64 fy)).setCell ⟨bf,1,none⟩ (.int .i64 ffy):=⟨_,rfl⟩;rw [<- hw14] at f14 r14;rw [<- hba] at hnb;have F14:=hide f14;have R14:=hide r14.1;have GA14:Hid (W.grownBy w14 none):=by
  rw [hw14];exact gr_set (gr_set (gr_none GA12.out (gr_none GS.out GS13.out)) _ _ HBF.out) _ _ HBF.out
 rw [<- hw13];rw [<- hw14];try rw [<- hba]
 clear hw13 hw14 hba f14 r14 f0 f1 f2 f3;have G1213:=hide (gr_none GS.out GS13.out);have HW13:Hid (∀ (t:Addr) (v:Value),t.block≠bf->w13.cell? t=some v->w14.cell? t=some v):=fun t v hne hc=>R14.out.cell hc (fun e=>hne (Option.some.inj e))
 have C14:Hid (w14.cell? ⟨ba,0,none⟩=some (.slice aoy ny acy)/\w14.cell? ⟨ba,1,none⟩=some (.slice boy my bcy)):=⟨HW13.out _ _ (fun e=>hnb e.symm) CA.out.1,HW13.out _ _ (fun e=>hnb e.symm) CA.out.2⟩;have B13:=B12.out.keep G1213.out (by simp);have CM:Hid (w14.cell? ⟨bm,0,none⟩=some (.int .i64 (n:Int))/\w14.cell? ⟨bm,1,none⟩=some (.slice ao8 (ps.length+1) cap8)):=⟨HW13.out _ _ (fun e=>by have:=HBFM.out;have e':bm=bf:=e;omega) B13.cells.1,HW13.out _ _ (fun e=>by have:=HBFM.out;have e':bm=bf:=e;omega) B13.cells.2.1⟩;have RS:Hid (RV w14 b12 qs 7900012):=RV.keepV (.inl (R12.out.keep0 G1213.out)) R14.out F13.out.noW (by have:=HB12.out;omega);clear B13;obtain ⟨f0,f1,f2,f3⟩:=F14.out.cells;obtain ⟨y0,y1⟩:=C14.out;obtain ⟨m0,m1⟩:=CM.out;obtain ⟨n0,n1⟩:=NC.out w14 GA14.out;go_wp2_with fail;refine (ratSign_at b12 qs.num 7900012 w14 (RS.out.x (by decide)).1).mono ?_;rintro e w15 ⟨rfl,hw15⟩;obtain rfl:=hw15.symm;clear hw15;obtain ⟨z2,hz2'⟩:∃ z2,z2=sgn qs.num:=⟨_,rfl⟩;rw [<- hz2'];have HZ2:=hide hz2';clear hz2';by_cases hq0:qs=0
 ·have hzz:z2=0:=by rw [HZ2.out,hq0];rfl
  subst hzz;have hfy:fy≠0:=by
   intro e;subst e;obtain ⟨_,_,_,_,hs,hu⟩:=R3y.out.one;rw [Int.toNat_natCast] at hs hu;have hom:=thev_hom HKIND.out HU.out r (by rw [<- HQ.out,<- HQS.out];exact hq0);have:=(hu _ _ (hs.add hom)).2 ps.length (by rw [more_length];omega);simp only [if_true] at this;grind
  have hfd:(fy != 0)=true:=by simp [hfy]
  clear hq0 hfy;go_wp2;go_ret;exact ⟨rfl,gr_none GW.out GA14.out⟩
 ·have hzz:z2≠0:=by
   rw [HZ2.out];intro e;exact hq0 (Rat.num_eq_zero.1 (sgn_zero.1 e))
  have hzd:(z2==0)=false:=beq_eq_false_iff_ne.2 hzz;have hsne:U a.toNat-U b.toNat+ofR r.data.toList≠0:=by rw [<- HQ.out,<- HQS.out];exact hq0
  have hfix:=thev_fixed HKIND.out HFX.out han hbn HU.out r hsne;obtain ⟨e1,e2,e3,e4,hs⟩:=R3y.out.fixed (check_more HCK.out (by omega) Ha.out Hb.out (by rw [<- HQ.out];exact HNUM.out)) (by rw [Int.toNat_natCast];exact hfix);rw [Int.toNat_natCast] at e3 hs;rw [more_length] at e4;subst e1 e2;obtain rfl:my=ps.length+1:=e4;have hcc:(V a.toNat-V b.toNat) / qs*(U a.toNat-U b.toNat+ofR r.data.toList)=V a.toNat-V b.toNat:=by
   rw [<- HQ.out,<- HQS.out,Rat.div_def,Rat.mul_assoc,Rat.inv_mul_cancel _ hq0,Rat.mul_one]
  have hts:=thev_sol HKIND.out HV.out HU.out r _ hcc;have hiy:Iy ps.length=(V a.toNat-V b.toNat) / qs:=by
   have h0:=(hfix _ _ (hs.sub hts)).2 ps.length (by rw [more_length];omega);simp only [if_true] at h0;grind
  have HIY:=hide hiy;obtain ⟨gy,oy,rfl,ty⟩:=text_cell R2y.out (by omega);have hgy:gy≠bf:=by
   have:=(R2y.out.fresh gy rfl).1;have:=F12.out.lt;omega
  have TY:=hide (HW13.out _ _ hgy (GS13.out.cell (ty ps.length (by omega)) (by simp)));have FY:=hide (R6y.out ps.length (by omega));have OFY:Hid (∀ wx,wx.cell? ⟨1,0,none⟩=some (.int .i64 ml)->Calls Tryz.prog 13 #[.string ⟨(qtext (Iy ps.length)).toArray⟩] wx fun e w'=>∃ bb,e=.returned (.pointer (some ⟨bb,0,none⟩))/\wx.grownBy w' none/\RX w' bb (Iy ps.length) 2300000):=fun wx h=>rOfU_at _ 2300000 ml wx (by decide) FY.out (by decide) h
  have y2:=TY.out;generalize (⟨(qtext (Iy ps.length)).toArray⟩:ByteArray)=TX at y2 OFY;have HQ0:=hide hq0;have hll:(((ps.length+1:Nat):Int)==((ps.length+1:Nat):Int))=true:=by simp
  clear TY ty hgy hiy hcc hts hs hfix hsne hzz hq0 R3y HV HU HFX e3 y0;go_wp2_with fail;refine (OFY.out _ (ML.out _ GA14.out)).mono ?_;rintro e w16 ⟨b16,rfl,g16,x16⟩;have X16:=hide x16;have G16:=hide g16;clear x16 g16 f0 f1 f2 f3 y1 y2 m0 m1 n0 n1;go_wp2_with fail;refine (OF1.out ml _ (ML.out _ (gr_none GA14.out G16.out))).mono ?_;rintro e w17 ⟨b17,rfl,g17,x17⟩;have X17:=hide x17;have G17:=hide (gr_none G16.out g17);have X16':=hide (X16.out.keep0 g17);clear x17 g17;go_wp2_with fail;refine (rQuoSX_at b17 b12 _ _ 4600001 7900012 w17 X17.out ((RS.out.x (by decide)).keep0 G17.out) HQ0.out (by decide)).mono ?_;rintro e w18 ⟨b18,rfl,r18,g18,_⟩;have R18:=hide r18;have G18:=hide (gr_none G17.out g18);have X16'':=hide (X16'.out.keep0 g18);clear r18 g18;go_wp2_with fail;refine (ratCmpX_at b16 b18 _ _ _ _ w18 X16''.out R18.out.x (by decide)).mono ?_;rintro e w19 ⟨rfl,g19⟩;have G19:=hide (gr_none G18.out g19);clear g19;have hz:(ordX (Iy ps.length) ((V a.toNat-V b.toNat) / qs)==0)=true:=by rw [beq_iff_eq,ordX_zero];exact HIY.out
  go_wp2;go_ret;exact ⟨rfl,gr_none GW.out (gr_none GA14.out G19.out)⟩
end Go.Proofs.YtkhgaelnglndiaaGreatDoor
