/- Contracts. -/
import Derived.Test.YtkbmbmdemajoaaaGreatDoorXPB
import Derived.Test.YtkbmbmdemajoaaaGreatDoorXPq
import Derived.Test.YtkbmbmdemajoaaaGreatDoorXPA
namespace Go.Proofs.YtkbmbmdemajoaaaGreatDoor
open Go.RowKit
set_option linter.unusedVariables false
set_option linter.unusedSimpArgs false
set_option maxHeartbeats 8000000
set_option maxRecDepth 10000
variable {w:World} {v:Value} {xs:List (Option Nat)}
theorem mr (b:Nat) (q:Rat) (L:Nat) (w:World) (h:RV w b q L):Calls Tryz.prog 25 #[.pointer (some ⟨b,0,none⟩)] w fun e a=>e=.returned (.int .i64 (jT q.num))/\a=w:=by
 rcases h with h | ⟨rfl,h⟩
 ·exact pO b q.num L w h.1
 ·exact pO b 0 L w h.1
theorem mj {q:Rat} : jT q.num=0↔q=0:=by
 unfold jT;constructor
 ·intro h;apply Rat.num_eq_zero.1;split at h
  ·cases h
  ·split at h
   ·cases h
   ·omega
 ·intro h;rw [h];rfl
def pfV (b:Nat):Value:=.pointer (some ⟨b,0,none⟩)
abbrev oM (w:World) (base:Nat) (v:Value) (xs:List Nat):Prop:=cS pfV 47 w base v xs
theorem oM.noB {base:Nat} {xs:List Nat} (h:oM w base v xs) (d:0<xs.length):ym w v.ownBlock:=by
 intro k a;rcases h.1.2 with ⟨rfl,e⟩ | ⟨g,cap,b,rfl,hb,hh,e,i,j,f⟩
 ·simp [Value.ownBlock] at a
 ·simp only [Value.ownBlock,zI] at a;subst a;have c:(b.toList.take (xs.length*1))[0]? = (xs.map pfV)[0]?:=by rw [f]
  rw [List.getElem?_take,if_pos O,List.getElem?_map,zX d,Array.getElem?_toList] at c;refine ⟨pfV xs[0],?_,fun x=>by simp [pfV]⟩;simp only [World.cell?,hh];simpa using c
theorem oM.low {base base':Nat} {xs:List Nat} (h:oM w base v xs) (hb:base'<=base):oM w base' v xs:=by
 refine ⟨⟨h.1.1,?_⟩,h.2⟩;rcases h.1.2 with b | ⟨g,cap,a,e,c,d⟩
 ·exact .inl b
 ·exact .inr ⟨g,cap,a,e,Nat.le_trans hb c,d⟩
def RkO (W0:World) (n:Nat) (A:Nat->Nat->Rat) (s:Nat->Rat) (m0:Nat->Nat->Rat) (br L:Nat) (v4 v5 v7 v8:Value) (wr:World):Prop :=
 ∃ (r c a:Nat) (P:Nat->Nat) (perm:List Nat) (m:Nat->Nat->Rat) (bs cs:Nat->Nat),v4=.int .i64 a/\v5=.int .i64 r/\v7=.int .i64 r/\v8=.int .i64 c/\a=Rk.lc n P r/\Rk.Gj n A s m r c P perm/\(∀ y,Rk.tH n m y↔Rk.tH n m0 y)
  /\ dg wr br n (n+1) bs cs m L/\W0.grownBy wr none/\∀ i,i<n->W0.heap.size<=bs i
def RkL (W1:World) (m:Nat->Nat->Rat) (n r c:Nat) (v:Value) (wr:World):Prop:=∃ p,r<=p/\p<=n/\v=.int .i64 (p:Nat)/\(∀ i,r<=i->i<p->m i c=0)/\wr=W1
def RkI (W0:World) (n br L:Nat) (bs cs:Nat->Nat) (m1:Nat->Nat->Rat) (r c:Nat) (v:Value) (wr:World):Prop:=∃ i,i<=n/\v=.int .i64 (i:Nat)/\dg wr br n (n+1) bs cs (Rk.wF m1 r c i) L/\W0.grownBy wr none
def RkK (W0:World) (n br L:Nat) (bs cs:Nat->Nat) (m1:Nat->Nat->Rat) (r c i fq:Nat) (v:Value) (wr:World):Prop :=
 ∃ k,c<=k/\k<=n+1/\v=.int .i64 (k:Nat)/\dg wr br n (n+1) bs cs (Rk.AV m1 r c i k) L/\RV wr fq (Rk.fc m1 r c i) (L+L+2)/\W0.grownBy wr none
def RkX (W2:World) (n:Nat) (m:Nat->Nat->Rat) (L:Nat) (v v13:Value) (wr:World):Prop :=
 ∃ (i:Nat) (xs:List Nat),i<=n/\v13=.int .i64 i/\xs.length=i/\oM wr W2.heap.size v xs/\(∀ j (h:j<xs.length),RV wr xs[j] (m j n / m j j) (L+L+2))/\W2.grownBy wr none
def RkE (W0:World) (n:Nat) (m0:Nat->Nat->Rat) (L:Nat) (e:Ending) (w':World):Prop :=
 ∃ (a b:Nat) (v:Value),e=.returned (.tuple #[.int .i64 a,.int .i64 b,v])/\W0.grownBy w' none
  /\ ((a<b/\∀ y,¬ Rk.tH n m0 y)∨(a=b/\a<n/\∃ y z q,Rk.tH n m0 y/\Rk.tH n m0 z/\q<n/\y q≠z q)
   ∨ (a=n/\b=n/\∃ (y:Nat->Rat) (xs:List Nat),Rk.tH n m0 y/\(∀ z,Rk.tH n m0 z->∀ i,i<n->z i=y i)/\xs.length=n/\oM w' W0.heap.size v xs/\∀ j (h:j<xs.length),RV w' xs[j] (y j) (L+L+2)))
theorem yF {a d:World} {b:Nat} (h:a.grownBy w none) (k:w.grownBy d (some b)) (hb:a.heap.size<=b):a.grownBy d none:=aw h k (fun _ _ e=>e) (fun c hc e=>by cases e;omega)
theorem dg.set_some {a m n L:Nat} {bs cs:Nat->Nat} {R:Nat->Nat->Rat} (h:dg w a m n bs cs R L) {i j:Nat} (c:j<m) (v:Value):∃ u,(w.setCell ⟨a,i,none⟩ v).cell? ⟨a,j,none⟩=some u:=by
 obtain ⟨b,e,hb,hc⟩:=h.top;have:=heap_setCell_same w a i b e v hb;simp only [World.cell?,this];exact ⟨_,Array.getElem?_eq_getElem (by simpa using (zZ (hc j c)).1)⟩
theorem Bc (n o cm E:Nat) (A:Nat->Nat->Rat) (s:Nat->Rat) (b:Nat->Nat) (m0:Nat->Nat->Rat) (hC hJ:Nat->Nat) (V w:World) (hn:0<n) (jo:n<=1000) (hs:∀ q,s q≠0) (hb:∀ r,1<=b r) (hA:∀ r j,gF (b r) (A r j)) (hw:∀ q,gF (b q) (s q))
  (hE:dM n b<4294967296^E) (hE1:1<=E) (hE2:E<=100000000000) (hst:∀ i,i<n->∀ k,s i*m0 i k=A i k) (hg:V.grownBy w none) (hbr:V.heap.size<=o) (hbs:∀ i,i<n->V.heap.size<=hC i) (hm:dg w o n (n+1) hC hJ m0 (3*E)) :
  Calls Tryz.prog 21 #[.slice (some ⟨o,0,none⟩) n cm,.int .i64 n] w fun e w'=>RkE V n m0 (3*E) e w':=by
 have hM:Hid (∀ {m:Nat->Nat->Rat} {r c:Nat} {P:Nat->Nat} {perm:List Nat},Rk.Gj n A s m r c P perm->∀ i k,i<n->k<=n->bg (3*E) (m i k)):=fun h i k hi hk=>Rk.gj_fit h hs hb hA hw hE i k hi hk
 have HS:=ab hs;obtain ⟨L,hL⟩:=eX (3*E);rw [<- hL] at hM hm ⊢;have jp:3<=L:=O
 have jv:L<=300000000000:=O
 have HM:=ab hm;have HG:=ab hg;have hN:=ab hbs;have hQ:=ab hst;clear hs hb hA hw hE hL hm hg hbs hst;go_enter Tryz.func21,Tryz.ntmps21
 go_wp2;go_loopw [4,5,7,8] (fun v4 v5 v7 v8 wr=>Hid (RkO V n A s m0 o L v4 v5 v7 v8 wr)) (fun _ _ _ v8 _=>n+1-(intOf v8).toNat)
 case atStart=>exact ⟨0,0,0,fun _=>0,List.range n,m0,hC,hJ,rfl,rfl,rfl,rfl,rfl,Rk.gj_start _ hQ,fun _=>Iff.rfl,HM,HG,hN⟩
 case round =>
  obtain ⟨r,c,a,P,perm,m,bs,cs,rfl,rfl,rfl,rfl,ha,g,an,pm,gr,b1⟩:=hrel.out;have J:=ab ha;have kN:a<=r:=by rw [ha];exact Rk.lc_le n P r
  have G:=ab g;have AN:=ab an;have N:=ab pm;have GR:=ab gr;have B1:=ab b1;have mc:r<=n:=g.red.rn;have yn:c<=n+1:=g.red.cn;clear ha g an pm gr b1 hrel HM HG hN hQ;obtain ⟨S,hl⟩:=eX wr;subst hl;by_cases D:c<=n/\r<n
  ·obtain ⟨hc,hr⟩:=D;go_wp2;go_loopw [9] (fun v wr=>Hid (RkL S m n r c v wr)) (fun v _=>n-(intOf v).toNat)
   case atStart=>exact ⟨r,zL,O,rfl,fun i h1 h2=>O,rfl⟩
   case round =>
    obtain ⟨p,hG,mt,rfl,hz,rfl⟩:=hrel.out;have HZ:=ab hz;clear hz hrel;obtain ⟨S,hl⟩:=eX wr;subst hl;have md:(0:Int)<=(c:Int):=O
    have yo:(c:Int)<(n:Int)+1:=O
    by_cases F:p<n
    ·obtain ⟨ct,cf⟩:=N.out.cell p F;obtain ⟨q,c0,c1,_⟩:=(N.row p F).at c O;have C1:=ab c1;have ml:(0:Int)<=(p:Int):=O
     have yv:(p:Int)<(n:Int):=O
     clear c1;go_wp2_with fail;refine (mr q _ _ _ C1).mono ?_;rintro e w' ⟨rfl,rfl⟩;obtain ⟨S,hl⟩:=eX w';subst hl;by_cases Q:m p c=0
     ·have C:jT (m p c).num=0:=mj.2 Q;rw [C];have qc:Hid (∀ i,r<=i->i<p+1->m i c=0):=by
       intro i h1 h2;by_cases e:i=p
       ·rw [e];exact Q
       ·exact HZ i h1 O
      clear Q C HZ;go_wp2;go_roundw
      case rel=>exact ⟨p+1,O,O,zN,qc,rfl⟩
      case measure=>simp [intOf];omega
     ·have C:(jT (m p c).num==0)=false:=by
       rw [beq_eq_false_iff_ne];exact fun e=>Q (mj.1 e)
      obtain ⟨sg,H⟩:=eX (jT (m p c).num);rw [<- H] at C ⊢;have H0:=ab Q;have hR:(((p:Nat):Int)==((n:Nat):Int))=false:=by rw [beq_eq_false_iff_ne];omega
      obtain ⟨rt,rf⟩:=N.out.cell r hr;have qf:=cf p;have ql:=cf r;have mm:(0:Int)<=(r:Int):=O
      have jc:(r:Int)<(n:Int):=O
      obtain ⟨u1,yl⟩:=N.out.set_some (i:=r) F (.slice (some ⟨bs p,0,none⟩) (n+1) (cs p));clear Q H c0 cf rf HZ C1;go_upto_region 9 with fail;go_region
      obtain ⟨t1,t2⟩:=N.out.swap hr F;obtain ⟨w5,hu⟩:=eX ((S.setCell ⟨o,r,none⟩ (.slice (some ⟨bs p,0,none⟩) (n+1) (cs p))).setCell ⟨o,p,none⟩ (.slice (some ⟨bs r,0,none⟩) (n+1) (cs r)));obtain ⟨B,M⟩:=eX (Rk.dI m r p);obtain ⟨d,ho⟩:∃ f:Nat->Nat,f=fun i=>bs (aM r p i):=⟨_,rfl⟩
      obtain ⟨l,hB⟩:∃ f:Nat->Nat,f=fun i=>cs (aM r p i):=⟨_,rfl⟩
      rw [<- hu,<- ho,<- hB] at t1;rw [<- hu] at t2;have M5:Hid (dg w5 o n (n+1) d l B L):=by
       show dg ..
       rw [M,show Rk.dI m r p=fun i=>m (aM r p i) from funext (Rk.swp_I m r p)];exact t1
      have hS:Hid (V.grownBy w5 none):=yF GR t2.1 hbr;have B5:Hid (∀ i,i<n->V.heap.size<=d i):=by
       intro i hi;rw [ho];exact B1 _ (dp hr F hi)
      have hT:Hid (B r c≠0):=by rw [M,Rk.swp_r];exact H0
      have hv:Hid (∀ k,k<c->B r k=0):=by rw [M];exact Rk.col_low G hG F
      have GN:Hid (Rk.Gj n A s (Rk.dD B r (Rk.fc B r c)) (r+1) (c+1) (fun j=>if j=r then c else P j) (dE perm r p)):=by rw [M];exact Rk.gj_col HS G hc hG F H0
      have hW:Hid (∀ y,Rk.tH n (Rk.dD B r (Rk.fc B r c)) y↔Rk.tH n m0 y):=by
       intro y;rw [M];exact (Rk.ans_col G hG F _ y).trans (AN y)
      have FN:Hid (∀ i k,i<n->k<=n->bg L (Rk.dD B r (Rk.fc B r c) i k)):=hM.out GN;rw [<- hu];clear hu M ho hB t1 t2 qf ql u1 yl ct rt N GR B1 G AN H0 C hR;go_wp2;go_loopw [63] (fun v wr=>Hid (RkI V n o L d l B r c v wr)) (fun v _=>n-(intOf v).toNat)
      case atStart=>exact ⟨0,O,rfl,by rw [Rk.mxr_zero];exact M5.keep0 zE,aa hS zE⟩
      case round =>
       obtain ⟨i,hi,rfl,k1,k2⟩:=hrel.out;have R:=ab k1;have K2:=ab k2;clear k1 k2 hrel M5 hS;obtain ⟨w7,hH⟩:=eX wr;subst hH;by_cases t:i<n
       ·have qo:(0:Int)<=(i:Int):=O
        have hX:(i:Int)<(n:Int):=O
        by_cases W:i=r
        ·have hY:(((i:Nat):Int)==((r:Nat):Int))=true:=by simp [W]
         have KS:Hid (dg w7 o n (n+1) d l (Rk.wF B r c (i+1)) L):=by rw [Rk.mxr_same (.inl W)];exact R
         clear W R;go_wp2;go_roundw
         case rel=>exact ⟨i+1,O,zN,KS,K2⟩
         case measure=>simp [intOf];omega
        ·have hY:(((i:Nat):Int)==((r:Nat):Int))=false:=by rw [beq_eq_false_iff_ne];omega
         have ka:=ab W;clear W;obtain ⟨it,_⟩:=R.out.cell i t;obtain ⟨qa,c0,c1,_⟩:=(R.row i t).at c O;rw [Rk.mxr_i] at c1;have C1:=ab c1;clear c1;go_wp2_with fail;refine (mr qa _ _ _ C1).mono ?_;rintro e w' ⟨rfl,rfl⟩;obtain ⟨w7,hH⟩:=eX w';subst hH;by_cases Q:B i c=0
         ·have C:jT (B i c).num=0:=mj.2 Q;have KS:Hid (dg w7 o n (n+1) d l (Rk.wF B r c (i+1)) L):=by rw [Rk.mxr_same (.inr Q)];exact R
          rw [C];clear Q C R C1;go_wp2;go_roundw
          case rel=>exact ⟨i+1,O,zN,KS,K2⟩
          case measure=>simp [intOf];omega
         ·have C:(jT (B i c).num==0)=false:=by
           rw [beq_eq_false_iff_ne];exact fun e=>Q (mj.1 e)
          obtain ⟨Ha,H⟩:=eX (jT (B i c).num);rw [<- H] at C ⊢;obtain ⟨rt,_⟩:=R.out.cell r hr;obtain ⟨qb,d0,d1,_⟩:=(R.row r hr).at c O;rw [Rk.mxr_r] at d1;have D1:=ab d1;have CX:Hid (∀ wx,w7.grownBy wx none->wx.cell? ⟨o,i,none⟩=some (.slice (some ⟨d i,0,none⟩) (n+1) (l i))/\wx.cell? ⟨d i,c,none⟩=some (.pointer (some ⟨qa,0,none⟩))/\wx.cell? ⟨o,r,none⟩=some (.slice (some ⟨d r,0,none⟩) (n+1) (l r))/\wx.cell? ⟨d r,c,none⟩=some (.pointer (some ⟨qb,0,none⟩))) :=
           fun wx hg=>⟨hg.cell it Z,hg.cell c0 Z,hg.cell rt Z,hg.cell d0 Z⟩
          clear Q H it c0 rt d0 d1;have GG:w7.grownBy w7 none:=ae _ _;have s0:=CX.out w7 GG;go_upto_region 14 with fail;go_region_held3 (fun w'=>w'.cell? ⟨o,i,none⟩=some (.slice (some ⟨d i,0,none⟩) (n+1) (l i))/\w'.cell? ⟨d i,c,none⟩=some (.pointer (some ⟨qa,0,none⟩))/\w'.cell? ⟨o,r,none⟩=some (.slice (some ⟨d r,0,none⟩) (n+1) (l r))/\w'.cell? ⟨d r,c,none⟩=some (.pointer (some ⟨qb,0,none⟩))) (go_keep)
           (first | (go_at_call 46;refine (vi qa qb _ _ L L _ ((C1.x O).keep0 (gx GG)) ((D1.x O).keep0 (gx GG)) hT O).mono ?_;rintro e T ⟨fq,rfl,y1,U,y3⟩;have GG:=aa (gx GG) U;have k0:=CX.out T GG;have Y1:=ab y1;clear y1 U y3))
          all_goals
           have K8:Hid (dg T o n (n+1) d l (Rk.AV B r c i c) L):=(R.keep0 GG).congr (fun x _ y _=>Rk.mxk_start hv x y);have G8:Hid (V.grownBy T none):=aa K2 GG;clear s0 k0 R K2 CX C1 D1 GG;go_wp2;go_loopw [12] (fun v wr=>Hid (RkK V n o L d l B r c i fq v wr)) (fun v _=>n+1-(intOf v).toNat)
           case atStart=>exact ⟨c,zL,O,rfl,K8.keep0 zE,.inl (Y1.keep0 zE),aa G8 zE⟩
           case round =>
            obtain ⟨k,Hb,Hc,rfl,l1,l2,l3⟩:=hrel.out;have L1:=ab l1;have L2:=ab l2;have L3:=ab l3;clear l1 l2 l3 hrel;by_cases kb:k<=n
            ·obtain ⟨it,_⟩:=L1.out.cell i t;obtain ⟨rt,_⟩:=L1.out.cell r hr;obtain ⟨pa,c0,c1,cf⟩:=(L1.row i t).at k O;obtain ⟨pb,d0,d1,_⟩:=(L1.row r hr).at k O;rw [Rk.mxk_i] at c1;rw [Rk.mxk_r ka] at d1;have C1:=ab c1;have D1:=ab d1;have mo:(0:Int)<=(k:Int):=O
             have jg:(k:Int)<(n:Int)+1:=O
             have CF:Hid (∀ wx,wr.grownBy wx none->wx.frozen? ⟨d i,k,none⟩=false):=fun wx hg=>((L1.keep0 hg).row i t |>.at k O).elim fun _ h=>h.2.2 k
             have CX:Hid (∀ wx,wr.grownBy wx none->wx.cell? ⟨o,i,none⟩=some (.slice (some ⟨d i,0,none⟩) (n+1) (l i))/\wx.cell? ⟨d i,k,none⟩=some (.pointer (some ⟨pa,0,none⟩))/\wx.cell? ⟨o,r,none⟩=some (.slice (some ⟨d r,0,none⟩) (n+1) (l r))/\wx.cell? ⟨d r,k,none⟩=some (.pointer (some ⟨pb,0,none⟩))) :=
              fun wx hg=>⟨hg.cell it Z,hg.cell c0 Z,hg.cell rt Z,hg.cell d0 Z⟩
             clear it rt c0 d0 c1 d1 cf;have GG:wr.grownBy wr none:=ae _ _;have s0:=CX.out wr GG;have MC:Hid (∀ wx,wr.grownBy wx none->Calls Tryz.prog 48 #[.pointer (some ⟨fq,0,none⟩),.pointer (some ⟨pb,0,none⟩)] wx fun e w'=>BG wx (Rk.fc B r c i*B r k) (L+L+2+L+2) e w'):=fun wx hg=>DM fq pb _ _ (L+L+2) L wx ((L2.x O).keep0 hg) ((D1.x O).keep0 hg) O
             have SC:Hid (∀ wx bm,wr.grownBy wx none->RQ wx bm (Rk.fc B r c i*B r k) (L+L+2+L+2)->Calls Tryz.prog 47 #[.pointer (some ⟨pa,0,none⟩),.pointer (some ⟨bm,0,none⟩)] wx fun e w'=>BG wx (B i k-Rk.fc B r c i*B r k) (L+(L+L+2+L+2)+3) e w'):=fun wx bm hg hq=>zg pa bm _ _ L (L+L+2+L+2) wx ((C1.x O).keep0 hg) hq.x O
             go_upto_region 18 with fail;refine hdL (fun w'=>w'.cell? ⟨o,i,none⟩=some (.slice (some ⟨d i,0,none⟩) (n+1) (l i))/\w'.cell? ⟨d i,k,none⟩=some (.pointer (some ⟨pa,0,none⟩))/\w'.cell? ⟨o,r,none⟩=some (.slice (some ⟨d r,0,none⟩) (n+1) (l r))/\w'.cell? ⟨d r,k,none⟩=some (.pointer (some ⟨pb,0,none⟩))) (fun j=>j==23) (fun hHeld=>?_);refine tkL 4 [(0,101,.slice (some ⟨o,0,none⟩) n cm),(1,102,.int .i64 i),(2,103,.pointer (some ⟨o,i,none⟩)),(3,104,.slice (some ⟨d i,0,none⟩) (n+1) (l i)),(4,105,.int .i64 k),(5,106,.slice (some ⟨o,0,none⟩) n cm),(6,107,.int .i64 i),(7,108,.pointer (some ⟨o,i,none⟩)),(8,109,.slice (some ⟨d i,0,none⟩) (n+1) (l i)),(9,110,.int .i64 k),(10,111,.pointer (some ⟨d i,k,none⟩)),(11,112,.pointer (some ⟨pa,0,none⟩)),(12,113,.pointer (some ⟨fq,0,none⟩)),(13,114,.slice (some ⟨o,0,none⟩) n cm),(14,115,.int .i64 r),(15,116,.pointer (some ⟨o,r,none⟩)),(16,117,.slice (some ⟨d r,0,none⟩) (n+1) (l r)),(17,118,.int .i64 k),(18,119,.pointer (some ⟨d r,k,none⟩)),(19,120,.pointer (some ⟨pb,0,none⟩))] ?_;simp only [pA,pL,vA,vL,q0,q1,q2,q3];refine Dt 3 20 (fun K I=>?_);simp only [ax,q4,q5,q6,q7];go_simp
             go_at_call 48
             refine (MC _ (gx GG)).mono ?_;rintro e T ⟨ba,rfl,y1,U,y3⟩;have GG:=aa (gx GG) U;have k0:=CX.out T GG;have Y1:=ab y1;clear y1 U y3;go_wp2_with fail;refine bkL I (fun hHeld=>?_);clear I K;try simp only [pA,pL,vA,vL,q0,q1,q2,q3]
             refine Dt 2 21 (fun K I=>?_);simp only [ax,q4,q5,q6,q7];go_simp
             go_at_call 47
             refine (SC _ ba (gx GG) (Y1.keep0 (gx (ae _ _)))).mono ?_;rintro e wb ⟨bb,rfl,y1,U,y3⟩;have GG:=aa (gx GG) U;have k1:=CX.out wb GG;have Y2:=ab y1;clear y1 U y3;go_wp2_with fail;refine bkL I (fun hHeld=>?_);clear I K;try simp only [pA,pL,vA,vL,q0,q1,q2,q3]
             refine tkL 1 [(22,123,.pointer (some ⟨d i,k,none⟩))] ?_;simp only [pA,pL,vA,vL,q0,q1,q2,q3];refine Dt 0 23 (fun K I=>?_);simp only [ax,q4,q5,q6,q7];have cf:=CF.out wb GG;go_simp
             refine bkT I ?_;clear I K;refine endL ?_;have NL:Hid (RV wb bb (Rk.dD B r (Rk.fc B r c) i k) L):=by
              have h1:=FN.out i k t kb;rw [Rk.less_at ka.out] at h1 ⊢;exact ab (RV.tightW (.inl Y2) h1)
             have MK:=L1.out.keep0 GG;have kc:=(MK.row i t).noB O;obtain ⟨t1,t2⟩:=(MK.row i t).set k O NL;have MS:Hid (dg (wb.setCell ⟨d i,k,none⟩ (.pointer (some ⟨bb,0,none⟩))) o n (n+1) d l (Rk.AV B r c i (k+1)) L):=by
              show dg ..
              rw [Rk.mxk_put];exact MK.step O t t1 t2
             have LS:Hid (RV (wb.setCell ⟨d i,k,none⟩ (.pointer (some ⟨bb,0,none⟩))) fq (Rk.fc B r c i) (L+L+2)):=(L2.keep0 GG).keepW t2.1 t2.2 ((L2.keep0 GG).apart kc);have GS:Hid (V.grownBy (wb.setCell ⟨d i,k,none⟩ (.pointer (some ⟨bb,0,none⟩))) none):=yF (aa L3 GG) t2.1 (B5 i t);obtain ⟨w9,kH⟩:=eX (wb.setCell ⟨d i,k,none⟩ (.pointer (some ⟨bb,0,none⟩)));rw [<- kH] at MS LS GS ⊢;clear kH t1 t2 kc MK NL L1 L2 L3 MC SC CX CF C1 D1 Y1 Y2 k0 k1 s0 cf hHeld GG;go_wp2;go_roundw
             case rel=>exact ⟨k+1,O,O,zN,MS,LS,GS⟩
             case measure=>simp [intOf];omega
            ·obtain rfl:k=n+1:=O
             have KS:Hid (dg wr o n (n+1) d l (Rk.wF B r c (i+1)) L):=L1.out.congr (fun x _ y hy=>Rk.mxk_end x y hy);clear L1 L2;go_wp2;go_roundw
             case rel=>exact ⟨i+1,O,zN,KS,L3⟩
             case measure=>simp [intOf];omega
       ·obtain rfl:i=n:=O
        have KF:Hid (dg w7 o i (i+1) d l (Rk.dD B r (Rk.fc B r c)) L):=R.out.congr (fun x hx y _=>by rw [Rk.mxr_end hx]);have kf:=ab (Rk.lc_col (n:=i) (r:=r) (P:=P) hc);clear R FN hT hv;by_cases kk:c<i
        ·have X:Hid (a+1=Rk.lc i (fun j=>if j=r then c else P j) (r+1)):=by show _=_;rw [kf,if_pos kk,J]
         go_wp2;go_roundw
         case rel=>exact ⟨r+1,c+1,a+1,_,_,_,d,l,zN,zN,zN,zN,X,GN,hW,KF,K2,B5⟩
         case measure=>simp [intOf];omega
        ·have X:Hid (a=Rk.lc i (fun j=>if j=r then c else P j) (r+1)):=by show _=_;rw [kf,if_neg kk,J];rfl
         go_wp2;go_roundw
         case rel=>exact ⟨r+1,c+1,a,_,_,_,d,l,rfl,zN,zN,zN,X,GN,hW,KF,K2,B5⟩
         case measure=>simp [intOf];omega
    ·obtain rfl:p=n:=O
     have qq:=ab (Rk.gj_skip G hc (fun i h1 h2=>HZ i h1 h2));have hR:(((p:Nat):Int)==((p:Nat):Int))=true:=Z
     clear G HZ;go_wp2;go_roundw
     case rel=>exact ⟨r,c+1,a,P,perm,m,bs,cs,rfl,rfl,rfl,zN,J,qq,AN,N,GR,B1⟩
     case measure=>simp [intOf];omega
  ·have kl:=Rk.gj_end G D;rcases kl with ⟨h1,h2⟩ | ⟨h1,h2,h3⟩ | ⟨h1,h2,h3,h4,h5⟩
   ·rw [<- J] at h1;have ko:(((a:Nat):Int)==((n:Nat):Int))=false:=by rw [beq_eq_false_iff_ne];omega
    have H2:Hid (∀ y,¬ Rk.tH n m0 y):=fun y hy=>h2 y ((AN y).2 hy)
    clear h2 G;by_cases hc:c<=n
    ·have hr:¬ r<n:=fun h=>D ⟨hc,h⟩
     clear D;go_wp2;go_ret3
     exact ⟨a,r,_,rfl,GR,.inl ⟨h1,H2⟩⟩
    ·clear D;go_wp2;go_ret3
     exact ⟨a,r,_,rfl,GR,.inl ⟨h1,H2⟩⟩
   ·rw [<- J] at h1;have ko:(((a:Nat):Int)==((n:Nat):Int))=false:=by rw [beq_eq_false_iff_ne];omega
    have H3:Hid (∃ y z q,Rk.tH n m0 y/\Rk.tH n m0 z/\q<n/\y q≠z q):=by
     obtain ⟨y,z,q,e1,e2,e3,e4⟩:=h3;exact ⟨y,z,q,(AN y).1 e1,(AN z).1 e2,e3,e4⟩
    have hc:¬ c<=n:=fun h=>D ⟨h,h2⟩
    have H1:=ab h1;have qs:a<n:=O
    clear h1 h3 G D;go_wp2;go_ret3
    exact ⟨a,r,_,rfl,GR,.inr (.inl ⟨H1,qs,H3⟩)⟩
   ·rw [<- J] at h1;have e1:n=r:=h2.symm;subst e1;have e2:n=a:=h1.symm;subst e2;have ko:(((n:Nat):Int)==((n:Nat):Int))=true:=Z
    have H3:=ab ((AN _).1 h3);have H4:Hid (∀ z,Rk.tH n m0 z->∀ i,i<n->z i=m i n / m i i):=fun z hz=>h4 z ((AN z).2 hz)
    have H5:=ab h5;have mp:¬ n<n:=O
    clear h1 h2 h3 h4 h5 G AN J kN;by_cases hc:c<=n
    all_goals
     clear D;go_wp2;go_loopw [6,13] (fun v6 v13 wr=>Hid (RkX S n m L v6 v13 wr)) (fun _ v13 _=>n-(intOf v13).toNat)
     case atStart=>exact ⟨0,[],O,rfl,rfl,mf,fun j h=>by simp at h,ae _ _⟩
     case round =>
      obtain ⟨i,xs,hi,rfl,hI,ox,hx,g5⟩:=hrel.out;obtain ⟨xo,xc,rfl⟩:=ox.1.shape;have Y:=ab hI;have OX:=ab ox;have HX:=ab hx;have G5:=ab g5;rw [hI] at OX ⊢;clear hI ox hx g5 hrel;by_cases t:i<n
      ·have qo:(0:Int)<=(i:Int):=O
       have hX:(i:Int)<(n:Int):=O
       have jk:(i:Int)<(n:Int)+1:=O
       have ms:(0:Int)<=(n:Int):=O
       have jl:(n:Int)<(n:Int)+1:=O
       obtain ⟨it,_⟩:=N.out.cell i t;obtain ⟨pa,c0,c1,_⟩:=(N.row i t).at n O;obtain ⟨pb,d0,d1,_⟩:=(N.row i t).at i O;have QC:Hid (∀ wx,S.grownBy wx none->Calls Tryz.prog 46 #[.pointer (some ⟨pa,0,none⟩),.pointer (some ⟨pb,0,none⟩)] wx fun e w'=>BG wx (m i n / m i i) (L+L+2) e w'):=fun wx hg=>vi pa pb _ _ L L wx ((c1.x O).keep0 hg) ((d1.x O).keep0 hg) (H5 i t) O
       have CZ:Hid (∀ wx ro,S.grownBy wx ro->(∀ k,ro=some k->S.heap.size<=k)->wx.cell? ⟨o,i,none⟩=some (.slice (some ⟨bs i,0,none⟩) (n+1) (cs i))/\wx.cell? ⟨bs i,n,none⟩=some (.pointer (some ⟨pa,0,none⟩))/\wx.cell? ⟨bs i,i,none⟩=some (.pointer (some ⟨pb,0,none⟩))):=by
        intro wx ro hg hk;have k1:=N.out.lt;have k2:=(N.row i t).lt;exact ⟨hg.cell it (fun e=>by have:=hk o e.symm;omega),hg.cell c0 (fun e=>by have:=hk (bs i) e.symm;omega),hg.cell d0 (fun e=>by have:=hk (bs i) e.symm;omega)⟩
       clear it c0 c1 d0 d1;have GG:S.grownBy wr none:=G5.out;have s0:=CZ.out wr none GG nofun;go_upto_region 28 with fail;refine hd (fun w'=>w'.cell? ⟨o,i,none⟩=some (.slice (some ⟨bs i,0,none⟩) (n+1) (cs i))/\w'.cell? ⟨bs i,n,none⟩=some (.pointer (some ⟨pa,0,none⟩))/\w'.cell? ⟨bs i,i,none⟩=some (.pointer (some ⟨pb,0,none⟩))) (fun hHeld=>?_);refine tk 4 [(0,147,.slice xo i xc),(1,148,.slice (some ⟨o,0,none⟩) n cm),(2,149,.int .i64 i),(3,150,.pointer (some ⟨o,i,none⟩)),(4,151,.slice (some ⟨bs i,0,none⟩) (n+1) (cs i)),(5,152,.int .i64 n),(6,153,.pointer (some ⟨bs i,n,none⟩)),(7,154,.pointer (some ⟨pa,0,none⟩)),(8,155,.slice (some ⟨o,0,none⟩) n cm),(9,156,.int .i64 i),(10,157,.pointer (some ⟨o,i,none⟩)),(11,158,.slice (some ⟨bs i,0,none⟩) (n+1) (cs i)),(12,159,.int .i64 i),(13,160,.pointer (some ⟨bs i,i,none⟩)),(14,161,.pointer (some ⟨pb,0,none⟩))] ?_;simp only [pA,pL,vA,vL,q0,q1,q2,q3];refine de 3 15 (fun K I=>?_);simp only [ax,q4,q5,q6,q7];go_simp
       go_at_call 46
       refine (QC _ (gx GG)).mono ?_;rintro e T ⟨bq,rfl,y1,U,y3⟩;have kz:Hid (wr.heap.size<=bq):=Nat.le_trans (show wr.heap.size<=_ from (by first | exact (aA (w:=wr)).size | exact (aP (w:=wr) _).size | exact zL)) y3;have GW:wr.grownBy T none:=aa (gx (ae wr none)) U;have GG:=aa (gx GG) U;have k0:=CZ.out T none GG nofun;have Y1:=ab y1;clear y1 U y3;go_wp2_with fail;refine bk I (fun hHeld=>?_);clear I K;try simp only [pA,pL,vA,vL,q0,q1,q2,q3]
       refine de 2 16 (fun K I=>?_);simp only [ax,q4,q5,q6,q7];go_simp
       refine bk I (fun hHeld=>?_);clear I K;try simp only [pA,pL,vA,vL,q0,q1,q2,q3]
       refine on1e 1 17 ⟨some 164,.call ⟨.builtin .append,#[.tmp 147,.tmp 163],#[37,37]⟩,37, "nets.go:394",#[⟨0,.data⟩,⟨16,.data⟩,⟨15,.chain⟩],none⟩ (fun K I=>?_);have hD:Hid (oM (T.alloc (Obj.cells #[.pointer (some ⟨bq,0,none⟩)] 47)) S.heap.size (.slice xo i xc) xs):=OX.out.keep0 (aa GW (by first | exact ag (ae _ _) _ | exact aj (ag (ae _ _) _) 1 | exact ag aA _ | exact ag (aP _) _));refine qE pfV 47 (.pointer none) 8 _ rfl _ _ 37 rfl S.heap.size Tryz.underlying37 Tryz.infoPR rfl (fun x=>by intro e;cases e) (fun u x=>by intro e;cases e) (.slice xo i xc) xs rfl hD T.heap.size bq rfl (by go_simp;rfl) rfl (by rw [Y];omega) zD (by simp;exact Nat.le_succ_of_le GG.size) ?_;intro yc kF w6 he hf hF;have hp:wr.grownBy (T.alloc (Obj.cells #[.pointer (some ⟨bq,0,none⟩)] 47)) none:=aa GW (ag (ae _ _) _);have G6:Hid (S.grownBy w6 none):=aw (r:=none) (aa G5 hp) hf (fun _ _ e=>e) (fun b hb e=>by have:=(OX.1.fresh b e.symm).1;omega);have z6:=CZ.out w6 _ (aw (r:=(Value.slice xo i xc).ownBlock) (aa G5 hp) hf nofun (fun _ _ e=>e)) (fun k e=>(OX.1.fresh k e).1);have X6:Hid (∀ j (h:j<(xs++[bq]).length),RV w6 (xs++[bq])[j] (m j n / m j j) (L+L+2)):=by
        intro j h;by_cases hj:j<xs.length
        ·rw [List.getElem_append_left hj];have h1:=(HX j hj).keep0 hp;exact h1.keepW hf hF (h1.apart (hD.noB O))
        ·have ej:j=xs.length:=by simp at h;omega
         have ei:j=i:=by rw [ej];exact Y
         subst ei;rw [List.getElem_append_right O];simp only [ej,Nat.sub_self,List.getElem_cons_zero];have h1:RV (T.alloc (Obj.cells #[.pointer (some ⟨bq,0,none⟩)] 47)) bq (m j n / m j j) (L+L+2):=.inl (Y1.keep0 (ag (ae _ _) _));rw [ej] at h1;refine h1.keepW hf hF (fun e=>?_);have h2:=(OX.1.fresh bq e.symm).2;have h3:=kz.out;omega
       rw [Y] at he ⊢;have OW:=ab he;clear he hf hF hp s0 k0 OX HX hD Y1;refine bk I (fun hHeld=>?_);clear I K;refine tk 0 [(18,6,.slice yc (i+1) kF)] ?_;try simp only [pA,pL,vA,vL,q0,q1,q2,q3]
       refine wpAnyH_done zK ?_ _;clear hHeld z6 GG GW CZ QC kz;go_wp2;go_roundw
       case rel=>exact ⟨i+1,xs++[bq],O,zN,by rw [List.length_append,Y];rfl,OW,X6,G6⟩
       case measure=>simp [intOf];omega
      ·obtain rfl:i=n:=O
       go_wp2;go_ret3
       exact ⟨i,i,_,rfl,aa GR G5,.inr (.inr ⟨rfl,rfl,fun k=>m k i / m k k,xs,H3,H4,Y,by have:=OX.out.low GR.size;exact this,fun j h=>HX j h⟩)⟩
def jO (w:World) (b:Nat) (v:Value):Prop:=w.heap[b]? = some (Obj.cells #[v] 63 (0,0))
theorem jO.lt {b:Nat} (h:jO w b v):b<w.heap.size:=(zZ h).1
theorem jO.keep {a:World} {b:Nat} {r:Option Nat} (h:jO w b v) (g:w.grownBy a r) (c:some b≠r):jO a b v:=by
 have d:=h.lt;unfold jO at h ⊢;rw [g.block b d c,h]
theorem jO.cells {b:Nat} (h:jO w b v):w.cell? ⟨b,0,none⟩=some v/\w.frozen? ⟨b,0,none⟩=false:=by
 unfold jO at h;exact ⟨by simp [World.cell?,h],by simp [World.frozen?,h]⟩
theorem jO.set {b:Nat} {a:Option Addr} {l c:Nat} (h:jO w b (.slice a l c)) (x:Value):jO (w.setCell ⟨b,0,none⟩ x) b x/\aI w (w.setCell ⟨b,0,none⟩ x) b:=by
 unfold jO at h ⊢;exact ⟨by rw [heap_setCell_same w b 0 _ _ _ h];rfl,aI.set h (fun y e=>by simp at e) _⟩
def FzR (w:World) (g n:Nat) (v:Value) (wr:World):Prop :=
 ∃ (i:Nat) (xs:List (Option Nat)),i<=n/\v=.int .i64 i/\xs.length=n/\eZ pv 47 wr g xs/\(∀ k,k<i->∃ p,xs[k]? = some (some p)/\RV wr p 0 4)/\w.grownBy wr none
theorem eZ.rowW {g:Nat} (h:eZ pv 47 w g xs) (i:Nat) (z:Value):aI w (w.setCell ⟨g,i,none⟩ z) g:=by
 refine aI.set h (fun x e=>?_) z;rw [List.getElem?_toArray,List.getElem?_map] at e;cases hx:xs[i]? with
 | none=>rw [hx] at e;cases e
 | some u =>
  rw [hx] at e;cases u<;>cases e
theorem eZ.noBp {g:Nat} (h:eZ pv 47 w g xs) (a:0<xs.length):ym w (some g):=by
 intro k e;obtain rfl:=zJ e;refine ⟨_,h.cell 0 a,fun x e=>?_⟩;cases hu:xs[0] with
 | none=>rw [hu] at e;cases e
 | some u=>rw [hu] at e;cases e
theorem eZ.prow {g n:Nat} (h:eZ pv 47 w g xs) (a:∀ k,k<n->∃ p,xs[k]? = some (some p)/\RV w p 0 4):dh w g n (fun _=>0) 4:=by
 refine ⟨_,_,h,fun i hi=>?_⟩;obtain ⟨p,b,c⟩:=a i hi;refine ⟨p,?_,c⟩;rw [List.getElem?_toArray,List.getElem?_map,b];rfl
theorem pJ {w1:World} {base n i L g c:Nat} {bs cs:Nat->Nat} {v1:Value} {t:TypeId} {R:Nat->Nat->Rat} (h:cS (dW n) t w base v (bV bs cs i)) (hn:0<n) (b:gA w base n i bs cs R L)
  (h4:dh w g n (fun _=>0) 4) (hv:v.ownBlock≠some g) (hg:w.grownBy w1 v.ownBlock) (hk:aL w w1) (h0:i=0->v.ownBlock=none) (ho:cS (dW n) t w1 base v1 (bV bs cs i++[(g,c)])) :
  cS (dW n) t w1 base v1 (bV (cQ bs i g) (cQ cs i c) (i+1))/\gA w1 base n i bs cs R L/\dh w1 g n (fun _=>0) 4:=by
 rw [rK] at ho;have a:ym w v.ownBlock:=by
  rcases zP i with e | e
  ·rw [h0 e];exact ym.none w
  ·exact h.noB e
 exact ⟨ho,b.keepB hg hk (fun j d=>h.ne_prow O (b.row j d) hn) a,h4.keep hg hk (fun e=>hv e.symm) a⟩
def FreshE (w:World) (oa:Option Addr) (oc gm n i:Nat) (bs cs:Nat->Nat) (R:Nat->Nat->Rat) (L:Nat) (e:Ending) (w':World):Prop :=
 ∃ (g:Nat) (ao:Option Addr) (cap:Nat),e=.returned (.slice (some ⟨g,0,none⟩) n n)/\w.heap.size<=g/\jO w' gm (.slice ao (i+1) cap)/\cS (dW n) 100 w' (gm+1) (.slice ao (i+1) cap) (bV (cQ bs i g) (cQ cs i n) (i+1))
  /\ gA w' (gm+1) n i bs cs R L/\dh w' g n (fun _=>0) 4/\gm+1<=g/\(∀ j,j<i->bs j≠g)/\w'.heap.size≥w.heap.size/\(∀ (W:World),W.grownBy w none->W.heap.size<=gm->W.grownBy w' none)
  /\ ∀ k,k<w.heap.size->k≠gm->(Value.slice oa i oc).ownBlock≠some k->w'.heap[k]? = w.heap[k]?
theorem Tryz.infoRowP:(Tryz.prog.info? 100).map (fun i=>(i.zero,i.size,i.bytes))=some (some (.slice none 0 0),1,24):=zK
theorem uj (gs d c i z L:Nat) (y:Option Addr) (bs cs:Nat->Nat) (R:Nat->Nat->Rat) (w:World) (hs:w.cell? ⟨gs,0,none⟩=some (.int .i64 c)) (hz:c<=100000) (hb:jO w d (.slice y i z))
  (ho:cS (dW (c+1)) 100 w (d+1) (.slice y i z) (bV bs cs i)) (hr:gA w (d+1) (c+1) i bs cs R L) (hi:i<=1000) (h0:i=0->y=none) :
  Calls Tryz.prog 41 #[.pointer (some ⟨gs,0,none⟩),.pointer (some ⟨d,0,none⟩)] w fun e w'=>FreshE w y z d (c+1) i bs cs R L e w':=by
 have X:=ab hb;have Y:=ab ho;have HR:=ab hr;clear hb ho hr;go_enter Tryz.func41,Tryz.ntmps41
 have hw:IntKind.i64.wrap ((c:Int)+1)=(c:Int)+1:=IntWalk.i64_in _ ⟨O,O⟩;go_wp2_with (at_make;refine dY pv 47 none 8 _ rfl _ _ 100 rfl Tryz.underlying100 Tryz.infoPR rfl _ _ _ _ (c+1) rfl rfl O O O O ?_)
 intro w1 ha g1;obtain ⟨g,hg⟩:=eX w.heap.size;rw [<- hg] at ha ⊢;have HA:=ab ha;have G1:=ab g1;have n:Hid (w.heap.size<=g):=Nat.le_of_eq hg.symm;have hu:Hid (g=w.heap.size):=hg;clear ha g1 hg hs;have H0:Hid (i=0->(Value.slice y i z).ownBlock=none):=fun e=>by rw [h0 e];rfl
 clear h0;go_wp2;go_loopw [10] (fun v wr=>Hid (FzR w g (c+1) v wr)) (fun v _=>c+1-(intOf v).toNat)
 case atStart=>exact ⟨0,_,O,rfl,Z,HA,fun k h=>O,G1⟩
 case round =>
  obtain ⟨k,xs,hk,rfl,N,ha,hp,g2⟩:=hrel.out;have P:=ab ha;have Q:=ab hp;have A:=ab g2;have o:=ab N;clear ha hp g2 N hrel HA G1;by_cases hlt:k<c+1
  ·have hx:(0:Int)<=(k:Int):=O
   have hq:(k:Int)<(c:Int)+1:=O
   go_wp2_with fail;refine (fm 0 wr O O).mono ?_;rintro e w2 ⟨q,rfl,y1,V,y3⟩;have e0:((0:Int):Rat)=0:=rfl;rw [e0] at y1;have E:=P.out.keep0 V;have c1:=E.cell k (by rw [o];exact hlt);have c2:=E.free k;have H:=E.set k (some q) (.pointer (some ⟨q,0,none⟩)) rfl;have m:=E.rowW k (.pointer (some ⟨q,0,none⟩));have no:=E.noBp (by rw [o];omega);have P3:Hid (∀ j,j<k+1->∃ p,(xs.set k (some q))[j]? = some (some p)/\RV (w2.setCell ⟨g,k,none⟩ (.pointer (some ⟨q,0,none⟩))) p 0 4):=by
    intro j U;by_cases e:j=k
    ·subst e;have C:RV w2 q 0 4:=.inl y1;exact ⟨q,by rw [List.getElem?_set_self (by rw [o];exact hlt)],C.keepW m.1 m.2 (C.apart no)⟩
    ·obtain ⟨p,C,h2⟩:=Q.out j O;have S:=h2.keep0 V;exact ⟨p,by rw [List.getElem?_set_ne (Ne.symm e)];exact C,S.keepW m.1 m.2 (S.apart no)⟩
   have A4:=ab H;have G3:=ab (aa A V);clear H m no E y1 V y3 e0 P Q;go_wp2;go_roundw
   case rel=>exact ⟨k+1,xs.set k (some q),O,zN,by rw [List.length_set];exact o,A4,P3,ah G3 _ _ n⟩
   case measure=>simp [intOf];omega
  ·obtain rfl:k=c+1:=O
   have PR:Hid (dh wr g (c+1) (fun _=>0) 4):=P.out.prow Q;have T:=ab (X.keep A Z);have I:=ab (Y.keep0 A);have R2:=ab (HR.keep0 A);have he:Hid ((Value.slice y i z).ownBlock≠some g):=fun e=>by have:=(Y.1.fresh g e).2;have:=n.out;omega
   have hf:Hid (∀ j,j<i->bs j≠g):=fun j U e=>by have:=(HR.row j U).lt;have:=n.out;omega
   have J:Hid (d+1<=g):=by have:=X.out.lt;have:=n.out;show _<=_;omega
   obtain ⟨m0,m1⟩:=T.out.cells;clear P Q X Y HR o hlt;go_wp2_with (at_builtin;refine d6 (dW (c+1)) 100 (.slice none 0 0) 24 _ rfl _ _ 63 rfl (d+1) Tryz.underlying63 Tryz.infoRowP rfl (fun x=>by simp [Value.cells]) (fun u x=>by simp [dW]) (.slice y i z) (bV bs cs i) rfl (I.keep0 (ag (ae _ _) _)) wr.heap.size (g,c+1) rfl (by go_simp;rfl) rfl (by rw [bj];omega) O (by simp;have:=T.out.lt;omega) ?_)
   intro t a G s l M;rw [bj] at s ⊢;have f:=ag (ae wr none) (Obj.cells #[.slice (some ⟨g,0,none⟩) (c+1) (c+1)] 100);have F:=ab (pJ (I.keep0 f) O (R2.keep0 f) (PR.keep0 f) he l M H0 s);have K:some d≠(Value.slice y i z).ownBlock:=fun e=>by have:=(I.1.fresh d e.symm).1;omega
   have B5:=(T.keep f Z).keep l K;obtain ⟨n0,n1⟩:=B5.cells;obtain ⟨H,m⟩:=B5.set (.slice t (i+1) a);have B:(Value.slice t (i+1) a).ownBlock=none∨(Value.slice t (i+1) a).ownBlock≠some d:=by
    cases hv:(Value.slice t (i+1) a).ownBlock with
    | none=>exact .inl rfl
    | some k =>
     right
     intro e;have:=(F.1.1.fresh k hv).1;have:=zJ e;omega
   have B6:=ab H;have O6:=ab (F.1.keep m.1 B);have D:ym G (some d):=fun k e=>by
    obtain rfl:=zJ e;exact ⟨_,n0,fun x=>Z⟩
   have R6:Hid (gA (G.setCell ⟨d,0,none⟩ (.slice t (i+1) a)) (d+1) (c+1) i bs cs R L):=F.out.2.1.keepB m.1 m.2 (fun j U e=>by have:=F.out.2.1.low j U;have:=zJ e;omega) D;have P6:Hid (dh (G.setCell ⟨d,0,none⟩ (.slice t (i+1) a)) g (c+1) (fun _=>0) 4):=F.out.2.2.keep m.1 m.2 (fun e=>by have:=J.out;have:=zJ e;omega) D;have GF:Hid (∀ (W:World),W.grownBy w none->W.heap.size<=d->W.grownBy (G.setCell ⟨d,0,none⟩ (.slice t (i+1) a)) none):=by
    intro W h hl;refine ah (aw (r:=none) (aa (aa h A) f) l (fun _ _ e=>e) (fun b hb e=>?_)) _ _ hl;have:=(I.1.fresh b e.symm).1;omega
   have GK:Hid (∀ k,k<w.heap.size->k≠d->(Value.slice y i z).ownBlock≠some k->(G.setCell ⟨d,0,none⟩ (.slice t (i+1) a)).heap[k]? = w.heap[k]?):=by
    intro k C h2 S;have h4:=Nat.lt_of_lt_of_le C A.size;rw [heap_setCell_other _ _ k _ h2,l.block k (Nat.lt_of_lt_of_le h4 f.size) (fun e=>S e.symm),f.block k h4 Z,A.block k C Z]
   have hm:Hid ((G.setCell ⟨d,0,none⟩ (.slice t (i+1) a)).heap.size≥w.heap.size):=by
    exact Nat.le_trans A.size (Nat.le_trans f.size (Nat.le_trans l.size Z))
   clear s l M f F K B5 H m B D m0 m1 I R2 T PR;go_wp2;go_ret;exact ⟨g,t,a,rfl,n,B6,O6,R6,P6,J,hf,hm,GF,GK⟩
end Go.Proofs.YtkbmbmdemajoaaaGreatDoor
