/- Contracts that the proof leans on. -/
import Derived.Test.YthblidglcppakaaGreatDoorXSBack
import Derived.Test.YthblidglcppakaaGreatDoorXMMat
import Derived.Test.YthblidglcppakaaGreatDoorXCSb
import Derived.Test.YthblidglcppakaaGreatDoorXCNa
import Derived.Laws.AppendOwn
import Derived.Test.YthblidglcppakaaGreatDoorXShelf
import Derived.Laws.CopyOwn
namespace Go.Proofs.YthblidglcppakaaGreatDoor
open Go.RowKit
set_option linter.unusedVariables false
set_option linter.unusedSimpArgs false
set_option maxHeartbeats 8000000
set_option maxRecDepth 10000
theorem sn {L M:Nat} {q:Rat} (hM:M<4294967296^L) (hL:1<=L) (h:mF M q):bM L q:=by
 refine ⟨Nat.lt_of_le_of_lt h.2 hM,?_⟩;rw [h.1];exact Nat.lt_of_lt_of_le (by decide:1<4294967296^1) (Nat.pow_le_pow_right (by decide) hL)
theorem quo_wh {M:Nat} {a c:Rat} (ha:mF M a) (hc:mF M c) (h0:c≠0):rN (a / c)<=M/\(a / c).den<=M:=by
 have hcn:rN c≠0:=q_ne h0;have e:=q_div a c;rw [ha.1,hc.1,Nat.mul_one,Nat.mul_one] at e;by_cases hz:rN a=0
 ·rw [Cw hz,Rat.div_def,Rat.zero_mul];have hM:=hc.2;exact ⟨Nat.zero_le _,by show 1<=M;omega⟩
 ·obtain ⟨_,h2,h3⟩:=uq (rB a != rB c) (rN a) (rN c) hz hcn;rw [e] at h2 h3;refine ⟨?_,?_⟩
  ·unfold rN;rw [h2];exact Nat.le_trans (Nat.div_le_self _ _) ha.2
  ·rw [h3];exact Nat.le_trans (Nat.div_le_self _ _) hc.2
theorem BA {L M:Nat} {a c:Rat} (hM:M<4294967296^L) (ha:mF M a) (hc:mF M c) (h0:c≠0):bM L (a / c):=by
 obtain ⟨h1,h2⟩:=quo_wh ha hc h0;exact ⟨Nat.lt_of_le_of_lt h1 hM,Nat.lt_of_le_of_lt h2 hM⟩
theorem yR (R:Nat->Nat->Rat) (o:Nat->Nat) (Y:Nat->Rat) (d:Rat) (m t:Nat) (l:List Nat) (hl:∀ i,i<l.length->l.getD i 0=o (t+1+i)):∀ k,k<=l.length ->
  dD R o Y d m t k=d*R t m-cB (fun v=>R t v*Y v) (l.take k):=by
 intro k;induction k with
 | zero =>
  intro _;rw [List.take_zero];show d*R t m=d*R t m-(0:Rat)
  grind
 | succ k ih =>
  intro hk;show dD R o Y d m t k-R t (o (t+1+k))*Y (o (t+1+k))=_
  rw [ih (by omega),List.take_add_one,List.getElem?_eq_getElem (by omega)];have e:=hl k (by omega);rw [List.getD_eq_getElem?_getD,List.getElem?_eq_getElem (by omega)] at e;have e2:l[k]=o (t+1+k):=e;rw [vk];show _=d*R t m-(cB (fun v=>R t v*Y v) (l.take k)+(R t l[k]*Y l[k]+(0:Rat)))
  rw [e2];grind
theorem A6 {R:Nat->Nat->Rat} {o:Nat->Nat} {Y:Nat->Rat} {d:Rat} {m M:Nat} (hR:∀ t,t<m->∀ j,mF M (R t j)) (hY:∀ t,t<m->mF M (Y (o t))) (hd:mF M d) (t:Nat) (ht:t<m):∀ i,t+1+i<=m ->
  mF ((i+1)*(M*M)) (dD R o Y d m t i):=by
 intro i;induction i with
 | zero =>
  intro _;have:=fj.mul _ _ _ _ hd (hR t ht m);rw [Nat.zero_add,Nat.one_mul];exact this
 | succ i ih =>
  intro hi;have h1:=ih (by omega);have h2:=fj.neg _ _ (fj.mul _ _ _ _ (hR t ht (o (t+1+i))) (hY (t+1+i) (by omega)));have h3:=fj.add _ _ _ _ h1 h2;have e:(i+1)*(M*M)+M*M=(i+1+1)*(M*M):=by rw [Nat.add_mul (i+1) 1,Nat.one_mul]
  rw [e] at h3;show mF _ (dD R o Y d m t i-R t (o (t+1+i))*Y (o (t+1+i)))
  rw [Rat.sub_eq_add_neg];exact h3
theorem back_of {W:Nat->Nat->Rat} {m:Nat} {b:Nat->Nat} {perm order:List Nat} {R:Nat->Nat->Rat} {d s:Rat} (h:St W m m perm order R d s) (hm:0<m) (hb:∀ r,1<=b r) (hB:∀ r j,mF (b r) (W r j))
  (hR:∀ t,t<m->∀ j,mF (gE m b) (R t j)) (L LS:Nat) (hL1:1<=L) (hM:gE m b<4294967296^L) (hLS1:1<=LS) (hS:(m+1)*(gE m b*gE m b)<4294967296^LS) :
  ∃ (y:Nat->Rat) (ip:Nat->Nat),mD W m y/\(∀ z,mD W m z->∀ j,j<m->z j=y j)/\AK R (fun t=>order.getD t 0) ip (fun j=>d*y j) d m L LS/\∀ j,d*y j / d=y j:=by
 obtain ⟨y,hy,huniq,hw,hrow⟩:=st_full fj h hb hB;have hd:=st_wh_d fj h hm hb hB;have hdn:d≠0:=h.dn;have hol:=h.ol;have hidx:∀ j,∃ t,j<m->t<m/\order.getD t 0=j:=by
  intro j;by_cases hj:j<m
  ·obtain ⟨t,ht,e⟩:=ff (h.om j hj);exact ⟨t,fun _=>⟨by omega,e⟩⟩
  ·exact ⟨0,fun h=>absurd h hj⟩
 obtain ⟨ip,hip⟩:∃ ip:Nat->Nat,∀ j,j<m->ip j<m/\order.getD (ip j) 0=j:=⟨fun j=>Classical.choose (hidx j),fun j=>Classical.choose_spec (hidx j)⟩;have hlt:∀ t,t<m->order.getD t 0<m:=fun t ht=>h.ob _ (dm order t (by omega))
 have hdiv:∀ j,d*y j / d=y j:=by
  intro j;rw [Rat.mul_comm,Rat.mul_div_cancel hdn]
 have hYw:∀ j,j<m->mF (gE m b) (d*y j):=by
  intro j hj;obtain ⟨h1,h2⟩:=hip j hj;have:=hw (ip j) h1;rw [h2] at this;exact this
 refine ⟨y,ip,hy,huniq,⟨?_,hip,?_,?_,?_,?_⟩,hdiv⟩
 ·intro t ht;refine ⟨hlt t ht,?_⟩;obtain ⟨h1,h2⟩:=hip _ (hlt t ht);exact h.oi _ _ h1 ht h2
 ·intro t ht i hi;refine sn (Nat.lt_of_le_of_lt ?_ hS) hLS1 (A6 hR (fun t ht=>hYw _ (hlt t ht)) hd t ht i hi);exact Nat.mul_le_mul (by omega) (Nat.le_refl _)
 ·intro t ht;obtain ⟨h1,h2⟩:=hrow t ht;refine ⟨h1,?_⟩;have hlen:(order.drop (t+1)).length=m-(t+1):=by rw [List.length_drop];omega
  have e:=yR R (fun t=>order.getD t 0) (fun j=>d*y j) d m t (order.drop (t+1)) (fun i _=>by
   rw [List.getD_eq_getElem?_getD,List.getElem?_drop,<- List.getD_eq_getElem?_getD]) (m-(t+1)) (by omega)
  rw [List.take_of_length_le (by omega)] at e;have h3:dD R (fun t=>order.getD t 0) (fun j=>d*y j) d m t (m-(t+1))=d*y (order.getD t 0)*R t (order.getD t 0):=by rw [e];exact h2
  rw [h3,Rat.mul_div_cancel h1]
 ·intro j hj;exact sn hM hL1 (hYw j hj)
 ·intro j hj;exact BA hM (hYw j hj) hd hdn
theorem aH.cells {w:World} {b n L:Nat} {R:Nat->Rat} (h:aH w b n R L):∃ xs:List Value,xs.length=n*3/\(∀ j u,xs[j]? = some u->w.cell? ⟨b,j,none⟩=some u)/\(∀ u∈xs,u.oneCell'=true)
  /\ ∀ (w':World) (g:Nat) (cur':Array Value) (e:TypeId),aW w w'->w'.heap[g]? = some (.cells cur' e (0,0))->cur'.toList.take (n*3)=xs->aH w' g n R L:=by
 obtain ⟨cur,e,hb,hc⟩:=h;have hsz:n*3<=cur.size:=by
  rcases Nat.eq_zero_or_pos n with h0 | h0
  ·omega
  ·obtain ⟨u,d,_,_,c2,_⟩:=hc (n-1) (by omega);have:=(Array.getElem?_eq_some_iff.1 c2).1;omega
 refine ⟨cur.toList.take (n*3),by simp;omega,?_,?_,?_⟩
 ·intro j u hj;rw [List.getElem?_take] at hj;split at hj
  ·simp only [World.cell?,hb];rw [<- Array.getElem?_toList];exact hj
  ·cases hj
 ·intro u hu;obtain ⟨j,hj,e1⟩:=List.mem_iff_getElem.1 hu;have hj3:j<n*3:=by simp at hj;omega
  have hjc:cur[j]? = some u:=by
   rw [<- Array.getElem?_toList,List.getElem?_eq_getElem (by simp;omega)];rw [List.getElem_take] at e1;rw [e1]
  obtain ⟨a,d,c0,c1,c2,c3⟩:=hc (j / 3) (by omega);obtain ⟨uo,ul,uc,do_,dl,dc,hs⟩:=c3.shape;simp only [Value.agg.injEq,Array.mk.injEq,List.cons.injEq,and_true,true_and] at hs;obtain ⟨rfl,rfl⟩:=hs;have hcase:j=j / 3*3∨j=j / 3*3+1∨j=j / 3*3+2:=by omega
  rcases hcase with e2 | e2 | e2
  ·rw [e2,c0] at hjc;rw [<- Option.some.inj hjc];rfl
  ·rw [e2,c1] at hjc;rw [<- Option.some.inj hjc];rfl
  ·rw [e2,c2] at hjc;rw [<- Option.some.inj hjc];rfl
 ·intro w' g cur' e' hk hg ht;refine ⟨cur',e',hg,fun i hi=>?_⟩;obtain ⟨u,d,c0,c1,c2,c3⟩:=hc i hi;have key:∀ j v,j<n*3->cur[j]? = some v->cur'[j]? = some v:=by
   intro j v hj hv;have h1:(cur'.toList.take (n*3))[j]? = (cur.toList.take (n*3))[j]?:=by rw [ht]
   rw [List.getElem?_take,List.getElem?_take,if_pos hj,if_pos hj,Array.getElem?_toList,Array.getElem?_toList,hv] at h1;exact h1
  exact ⟨u,d,key _ _ (by omega) c0,key _ _ (by omega) c1,key _ _ (by omega) c2,c3.kept hk⟩
theorem uU (b n cap:Nat) (R:Nat->Rat) (L:Nat) (w:World) (h:aH w b n R L) (h0:0<n) (hn:n<=3000) (hc:n<=cap) (hm:cap<=maxLen) :
  Calls Tryz.prog 144 #[.slice (some ⟨b,0,none⟩) n cap] w
   fun e w'=>∃ g c,e=.returned (.slice (some ⟨g,0,none⟩) n c)/\w.heap.size<=g/\n<=c/\c<=maxLen/\aH w' g n R L/\w.grownBy w' none:=by
 obtain ⟨i0,hi,hz0,hz1,hz2⟩:=info_parts Tryz.infoF;obtain ⟨xs,x1,x2,x3,x4⟩:=h.cells;have X2:=ab x2;have X3:=ab x3;have X4:=ab x4;have hm':=hm;unfold maxLen at hm';clear h x2 x3 x4 hm;have hq:∀ W,(binOp .eql 60 (.slice (some ⟨b,0,none⟩) n cap) (.slice none 0 0)).run Tryz.prog W=.ok (.bool false) W:=fun W=>Lib.run_eql_slice_nil W _ _ (some _) _ _ 0 0 Tryz.underlying60
 go_enter Tryz.func144,Tryz.ntmps144
 go_wp2_with (at_builtin;refine wpList_append_own _ rfl _ _ 60 rfl w.heap.size 91 i0 _ 3 56 Tryz.underlying60 hi hz0 hz1 hz2 rfl (by decide) _ 0 [] rfl ?c0 ⟨b,0,none⟩ n cap xs rfl ?c1 ?c2 ?c3 ?c4 ?c5 ?c6 ?_)
 case c0=>exact World.ownsRow_made w #[] 0 (Nat.le_refl _) (by unfold maxLen;omega) (by simp)
 case c1=>exact x1
 case c2 =>
  intro j u hj;have h2:=(World.grownBy_alloc w (Obj.cells #[] 91) none).cell (X2.out j u hj) (by simp);rw [show (⟨b,0,none⟩:Addr).add j=⟨b,j,none⟩ from by simp [Addr.add];omega];exact h2
 case c3=>exact X3.out
 case c4=>unfold maxLen;omega
 case c5=>omega
 case c6=>simp
 intro v' w1 hown hgr hnn;have hgr2:w.grownBy w1 none:=aq (r1:=none) (World.grownBy_alloc w _ none) hgr (fun _ _ e=>e) (fun b hb e=>by simp [Value.ownBlock] at e;omega);have HG:=ab hgr2;obtain ⟨g,c,rfl,hg,hnc,hcm,hrow⟩:∃ g c,v'=.slice (some ⟨g,0,none⟩) n c/\w.heap.size<=g/\n<=c/\c<=maxLen/\aH w1 g n R L:=by
  rcases hown.2 with ⟨e,he⟩ | ⟨g,cap',cur,e,hb,hh,h1,h2,h3,h4⟩
  ·omega
  ·refine ⟨g,cap',by first | exact e | (rw [e,Nat.zero_add]),hb,by omega,h2,X4.out w1 g cur _ (aW.of_gr hgr2) hh ?_⟩;first | exact h4 | (rw [Nat.zero_add] at h4;exact h4)
 have HR:=ab hrow;have HC:=ab hcm;clear hown hgr hgr2 hnn hrow hcm;go_wp2;go_ret;exact ⟨g,c,rfl,hg,hnc,HC.out,HR.out,HG.out⟩
def bZ (w:World) (base:Nat) (v:Value) (n:Nat) (R:Nat->Rat) (L:Nat):Prop :=
 ∃ ao c,v=.slice ao n c/\n<=c/\c<=maxLen/\(0<n->∃ g,ao=some ⟨g,0,none⟩/\base<=g/\aH w g n R L)
theorem bZ.keep0 {w w':World} {base:Nat} {v:Value} {n:Nat} {R:Nat->Rat} {L:Nat} (h:bZ w base v n R L) (g:w.grownBy w' none):bZ w' base v n R L:=by
 obtain ⟨ao,c,e,h1,h2,h3⟩:=h;refine ⟨ao,c,e,h1,h2,fun h0=>?_⟩;obtain ⟨b,e1,e2,e3⟩:=h3 h0;exact ⟨b,e1,e2,e3.keep0 g⟩
theorem aH.piece {w:World} {b n L:Nat} {R:Nat->Rat} (h:aH w b n R L) (o k:Nat) (hok:o+k<=n):∃ xs:List Value,xs.length=k*3/\(∀ j u,xs[j]? = some u->w.cell? ⟨b,o*3+j,none⟩=some u)/\(∀ u∈xs,u.oneCell'=true)
  /\ ∀ (w':World) (g:Nat) (cur':Array Value) (e:TypeId),aW w w'->w'.heap[g]? = some (.cells cur' e (0,0))->cur'.toList.take (k*3)=xs->aH w' g k (fun i=>R (o+i)) L:=by
 obtain ⟨cur,e,hb,hc⟩:=h;have hsz:(o+k)*3<=cur.size:=by
  rcases Nat.eq_zero_or_pos (o+k) with h0 | h0
  ·omega
  ·obtain ⟨u,d,_,_,c2,_⟩:=hc (o+k-1) (by omega);have:=(Array.getElem?_eq_some_iff.1 c2).1;omega
 have hget:∀ j,j<k*3->((cur.toList.drop (o*3)).take (k*3))[j]? = cur[o*3+j]?:=by
  intro j hj;rw [List.getElem?_take,if_pos hj,List.getElem?_drop,Array.getElem?_toList]
 refine ⟨(cur.toList.drop (o*3)).take (k*3),by simp;omega,?_,?_,?_⟩
 ·intro j u hj;have hjk:j<k*3:=by
   have:=(List.getElem?_eq_some_iff.1 hj).1;simp at this;omega
  rw [hget j hjk] at hj;simp only [World.cell?,hb];exact hj
 ·intro u hu;obtain ⟨j,hj⟩:=List.mem_iff_getElem?.1 hu;have hjk:j<k*3:=by
   have:=(List.getElem?_eq_some_iff.1 hj).1;simp at this;omega
  rw [hget j hjk] at hj;obtain ⟨a,d,c0,c1,c2,c3⟩:=hc (o+j / 3) (by omega);obtain ⟨uo,ul,uc,do_,dl,dc,hs⟩:=c3.shape;simp only [Value.agg.injEq,Array.mk.injEq,List.cons.injEq,and_true,true_and] at hs;obtain ⟨rfl,rfl⟩:=hs;have hcase:o*3+j=(o+j / 3)*3∨o*3+j=(o+j / 3)*3+1∨o*3+j=(o+j / 3)*3+2:=by omega
  rcases hcase with e2 | e2 | e2
  ·rw [e2,c0] at hj;rw [<- Option.some.inj hj];rfl
  ·rw [e2,c1] at hj;rw [<- Option.some.inj hj];rfl
  ·rw [e2,c2] at hj;rw [<- Option.some.inj hj];rfl
 ·intro w' g cur' e' hk hg ht;refine ⟨cur',e',hg,fun i hi=>?_⟩;obtain ⟨u,d,c0,c1,c2,c3⟩:=hc (o+i) (by omega);have key:∀ j v,j<k*3->cur[o*3+j]? = some v->cur'[j]? = some v:=by
   intro j v hj hv;have h1:(cur'.toList.take (k*3))[j]? = ((cur.toList.drop (o*3)).take (k*3))[j]?:=by rw [ht]
   rw [hget j hj,List.getElem?_take,if_pos hj,Array.getElem?_toList,hv] at h1;exact h1
  refine ⟨u,d,key _ _ (by omega) ?_,key _ _ (by omega) ?_,key _ _ (by omega) ?_,c3.kept hk⟩
  ·rw [show o*3+i*3=(o+i)*3 by omega];exact c0
  ·rw [show o*3+(i*3+1)=(o+i)*3+1 by omega];exact c1
  ·rw [show o*3+(i*3+2)=(o+i)*3+2 by omega];exact c2
theorem ju (b off n cap:Nat) (R:Nat->Rat) (L:Nat) (w:World) (xs:List Value) (x1:xs.length=n*3) (x2:∀ j u,xs[j]? = some u->w.cell? ⟨b,off+j,none⟩=some u) (x3:∀ u∈xs,u.oneCell'=true)
  (x4:∀ (w':World) (g:Nat) (cur':Array Value) (e:TypeId),aW w w'->w'.heap[g]? = some (.cells cur' e (0,0))->cur'.toList.take (n*3)=xs->aH w' g n R L) (hn:n<=3000) (hc:n<=cap) (hm:cap<=maxLen) :
  Calls Tryz.prog 144 #[.slice (some ⟨b,off,none⟩) n cap] w
   fun e w'=>∃ v,e=.returned v/\bZ w' w.heap.size v n R L/\w.grownBy w' none:=by
 obtain ⟨i0,hi,hz0,hz1,hz2⟩:=info_parts Tryz.infoF;have X2:=ab x2;have X3:=ab x3;have X4:=ab x4;have hm':=hm;unfold maxLen at hm';clear x2 x3 x4 hm;have hq:∀ W,(binOp .eql 60 (.slice (some ⟨b,off,none⟩) n cap) (.slice none 0 0)).run Tryz.prog W=.ok (.bool false) W:=fun W=>Lib.run_eql_slice_nil W _ _ (some _) _ _ 0 0 Tryz.underlying60
 go_enter Tryz.func144,Tryz.ntmps144
 go_wp2_with (at_builtin;refine wpList_append_own _ rfl _ _ 60 rfl w.heap.size 91 i0 _ 3 56 Tryz.underlying60 hi hz0 hz1 hz2 rfl (by decide) _ 0 [] rfl ?c0 ⟨b,off,none⟩ n cap xs rfl ?c1 ?c2 ?c3 ?c4 ?c5 ?c6 ?_)
 case c0=>exact World.ownsRow_made w #[] 0 (Nat.le_refl _) (by unfold maxLen;omega) (by simp)
 case c1=>exact x1
 case c2 =>
  intro j u hj;have h2:=(World.grownBy_alloc w (Obj.cells #[] 91) none).cell (X2.out j u hj) (by simp);rw [show (⟨b,off,none⟩:Addr).add j=⟨b,off+j,none⟩ from by simp [Addr.add]];exact h2
 case c3=>exact X3.out
 case c4=>unfold maxLen;omega
 case c5=>omega
 case c6=>simp
 intro v' w1 hown hgr hnn;have hgr2:w.grownBy w1 none:=aq (r1:=none) (World.grownBy_alloc w _ none) hgr (fun _ _ e=>e) (fun b hb e=>by simp [Value.ownBlock] at e;omega);have HG:=ab hgr2;have HR:Hid (bZ w1 w.heap.size v' n R L):=by
  rcases hown.2 with ⟨e,he⟩ | ⟨g,cap',cur,e,hb,hh,h1,h2,h3,h4⟩
  ·exact ⟨none,0,by rw [e];congr 1;omega,by omega,by unfold maxLen;omega,fun h0=>by omega⟩
  ·refine ⟨_,cap',by first | exact e | (rw [e,Nat.zero_add]),by omega,h2,fun _=>⟨g,rfl,hb,X4.out w1 g cur _ (aW.of_gr hgr2) hh ?_⟩⟩;first | exact h4 | (rw [Nat.zero_add] at h4;exact h4)
 obtain ⟨ao,c,ev,_⟩:=HR.out;rw [ev];rw [ev] at HR;clear hown hgr hgr2 hnn ev;go_wp2;go_ret;exact ⟨_,rfl,HR.out,HG.out⟩
def AJ (w:World) (k:Nat):Prop:=∀ i f (x:Nat),w.cell? ⟨k,i,f⟩≠some (.int .u32 (x:Nat))
def nS (w:World) (v:Value):Prop:=∀ k,v.ownBlock=some k->AJ w k
theorem nS.nil (w:World):nS w (.slice none 0 0):=fun k e=>by simp [Value.ownBlock] at e
theorem AJ.cells {w:World} {k:Nat} {cur:Array Value} {e:TypeId} (hb:w.heap[k]? = some (.cells cur e (0,0))) (h:∀ u∈cur.toList,∀ x:Nat,u≠.int .u32 (x:Nat)):AJ w k:=by
 intro i f x hc;cases f with
 | none =>
  simp only [World.cell?,hb] at hc;have hc':cur.toList[i]? = some (.int .u32 (x:Nat)):=by rw [Array.getElem?_toList];exact hc
  exact h _ (List.mem_of_getElem? hc') x rfl
 | some g=>simp [World.cell?,hb] at hc
theorem AJ.all {w:World} {k:Nat} {cur:Array Value} {e:TypeId} (hb:w.heap[k]? = some (.cells cur e (0,0))) (h:AJ w k):∀ u∈cur.toList,∀ x:Nat,u≠.int .u32 (x:Nat):=by
 intro u hu x e2;obtain ⟨i,hi⟩:=List.mem_iff_getElem?.1 hu;refine h i none x ?_;simp only [World.cell?,hb];rw [<- e2,<- Array.getElem?_toList];exact hi
theorem AJ.keep {w w':World} {k:Nat} {r:Option Nat} (h:AJ w k) (hk:k<w.heap.size) (g:w.grownBy w' r) (hr:some k≠r):AJ w' k:=by
 intro i f x e;rw [World.cell?_of_block (g.block k hk hr)] at e;exact h i f x e
theorem qJ (z:Array Value) (n:Nat) (h:z.size=1):∀ u∈(Builtin.zeroCells z n).toList,u=z[0]!:=by
 intro u hu;unfold Builtin.zeroCells at hu;simp only [Array.toList_map,List.mem_map] at hu;obtain ⟨i,_,rfl⟩:=hu;rw [h,Nat.mod_one]
theorem qF {P:Program} (w:World) (base:Nat) (t ty e:TypeId) (i:TypeInfo) (z:Value) (bytes:Nat) (ht:P.underlying t=some (.slice e)) (hi:P.info? e=some i) (hz:i.zero=some z)
  (hsize:i.size=1) (hby:i.bytes=bytes) (hzs:z.cells.size=1) (hz1:∀ x:Nat,z.cells[0]!≠.int .u32 (x:Nat))
  (v:Value) (n:Nat) (xs:List Value) (hown:w.ownsRow base e 1 v n xs) (hnw:nS w v) (hxs:∀ u∈xs,∀ x:Nat,u≠.int .u32 (x:Nat))
  (a:Addr) (c:Nat) (y:Value) (hy:w.cell? a=some y) (h1:y.oneCell'=true) (hyw:∀ x:Nat,y≠.int .u32 (x:Nat))
  (h63:n+1<=maxLen) (hbytes:(n+1)*bytes<=140737488355328) (hbase:base<=w.heap.size) :
  ∃ v' w',(Builtin.append_ #[t,t] ty #[v,.slice (some a) 1 c]).run P w=.ok v' w'/\w'.ownsRow base e 1 v' (n+1) (xs++[y])/\w.grownBy w' v.ownBlock/\nS w' v'/\aW w w':=by
 have hnews:∀ j u,[y][j]? = some u->w.cell? (a.add j)=some u:=by
  intro j u hj;match j with
  | 0 =>
   simp only [List.getElem?_cons_zero,Option.some.injEq] at hj;subst hj;simpa [Addr.add] using hy
  | j+1=>simp at hj
 have h1':∀ u∈[y],u.oneCell'=true:=by
  intro u hu;simp only [List.mem_singleton] at hu;subst hu;exact h1
 obtain ⟨v',w',hr,h2,h3,_⟩:=run_append_own (P:=P) w base t ty e i z 1 bytes ht hi hz hsize hby hzs (by decide) v n xs hown a 1 c [y] rfl hnews h1' h63 hbytes hbase;refine ⟨v',w',hr,h2,h3,?_⟩;have hsmall:n+1<=9223372036854775807:=by simp only [maxLen] at h63;omega
 have fresh:∀ cur:Array Value,(∀ u∈cur.toList,∀ x:Nat,u≠.int .u32 (x:Nat))->∀ c2,w'=w.drew.alloc (.cells cur e)->v'=.slice (some ⟨w.heap.size,0,none⟩) (n+1) c2->nS w' v'/\aW w w':=by
  intro cur hc c2 ew ev;have hgr:w.grownBy w' none:=by rw [ew];exact ⟨rfl,rfl,rfl,by simp,fun k hk _=>heap_alloc_old w.drew _ hk⟩
  refine ⟨fun k ek=>?_,aW.of_gr hgr⟩;rw [ev] at ek;simp only [Value.ownBlock,Option.some.injEq] at ek;subst ek;exact AJ.cells (by rw [ew];exact heap_alloc_new w.drew _) hc
 have hzc:∀ k,∀ u∈(Builtin.zeroCells z.cells k).toList,∀ x:Nat,u≠.int .u32 (x:Nat):=by
  intro k u hu x;rw [qJ z.cells k hzs u hu];exact hz1 x
 rcases hown.2 with ⟨rfl,rfl⟩ | ⟨g,cap,cur,rfl,hbg,hg,hnc,hcm,hcs,htake⟩
 ·have hr2:=run_append_nil (P:=P) w t ty e i z ht hi hz a 1 c [y] (by rw [hsize];rfl) hnews (by omega) (by omega) (by rw [hby];omega);rw [hr2] at hr;injection hr with e1 e2
  refine fresh _ ?_ _ e2.symm e1.symm;intro u hu;simp only [Array.toList_append,List.mem_append,List.mem_singleton] at hu;rcases hu with hu | hu
  ·subst hu;exact hyw
  ·exact hzc _ u hu
 ·by_cases hroom:n+1<=cap
  ·have hfit:n*i.size + [y].length<=cur.size:=by rw [hsize,hcs];simp;exact hroom
   have hr2:=run_append_room (P:=P) w t ty e i ht hi g n cap cur hg a 1 c [y] (by rw [hsize];rfl) hnews h1' hroom hfit;rw [hr2] at hr;injection hr with e1 e2
   have hw:=hnw g rfl;have hnew:=setRow_heap w g cur ((cur.toList.take (n*i.size)++[y]++cur.toList.drop (n*i.size + [y].length)).toArray) e _ hg;refine ⟨fun k ek=>?_,⟨h3.size,fun ad x ex=>?_⟩⟩
   ·rw [<- e1] at ek;simp only [Value.ownBlock,Option.some.injEq] at ek;subst ek;rw [<- e2];refine AJ.cells hnew ?_;intro u hu x;simp only [List.mem_append,List.mem_singleton] at hu;rcases hu with (hu | hu) | hu
    ·exact hw.all hg u (List.mem_of_mem_take hu) x
    ·subst hu;exact hyw x
    ·exact hw.all hg u (List.mem_of_mem_drop hu) x
   ·have hne:ad.block≠g:=fun e3=>by
     obtain ⟨b,i,f⟩:=ad;simp only at e3;subst e3;exact hw i f x ex
    rw [World.cell?_of_block (h3.block ad.block (cV ex) (fun e3=>hne (by simp only [Value.ownBlock,Option.some.injEq] at e3;exact e3)))];exact ex
  ·have holds:∀ j u,xs[j]? = some u->w.cell? ((⟨g,0,none⟩:Addr).add j)=some u:=hown.cells (g:=g) rfl;have hr2:=run_append_grow (P:=P) w t ty e i z ht hi hz ⟨g,0,none⟩ n cap xs (by rw [hsize];exact hown.1) holds a 1 c [y] (by rw [hsize];rfl) hnews (by omega) (by omega) (growslice_fits (by omega) (by rw [hby];exact hbytes));rw [hr2] at hr;injection hr with e1 e2
   refine fresh _ ?_ _ e2.symm e1.symm;intro u hu;simp only [Array.toList_append,List.mem_append,List.mem_singleton] at hu;rcases hu with (hu | hu) | hu
   ·exact hxs u hu
   ·subst hu;exact hyw
   ·exact hzc _ u hu
def jH {α:Type} (f:α->Value) (t:TypeId) (w:World) (base:Nat) (v:Value) (xs:List α):Prop:=cL f t w base v xs/\nS w v
theorem uG {α:Type} {f:α->Value} {t:TypeId} {w:World} {base:Nat} : jH f t w base (.slice none 0 0) []:=⟨iU,nS.nil _⟩
theorem jH.keep {α:Type} {f:α->Value} {t:TypeId} {w w':World} {base:Nat} {v:Value} {xs:List α} {row:Option Nat} (h:jH f t w base v xs) (hg:w.grownBy w' row) (hne:v.ownBlock=none∨v.ownBlock≠row):jH f t w' base v xs:=by
 refine ⟨h.1.keep hg hne,fun k ek=>(h.2 k ek).keep (h.1.fresh k ek).2 hg ?_⟩;rcases hne with hn | hn
 ·rw [hn] at ek;cases ek
 ·rw [<- ek];exact hn
theorem jH.keep0 {α:Type} {f:α->Value} {t:TypeId} {w w':World} {base:Nat} {v:Value} {xs:List α} (h:jH f t w base v xs) (hg:w.grownBy w' none):jH f t w' base v xs:=h.keep hg (by cases hv:v.ownBlock<;>simp)
theorem gA {P:Program} {α:Type} (f:α->Value) (e:TypeId) (z0:Value) (by_:Nat) (W:World) {ops:Array Oper} {rest:List Oper} {o:Oper} {a:Act} {Q:Exit->Act->World->Prop}
  (hg:o.guard=none) (s x:Operand) (t:TypeId) (ho:o.op=.call { callee:=.builtin .append,args:=#[s,x],argTypes:=#[t,t] }) (base:Nat)
  (h1:P.underlying t=some (.slice e)) (hinfo:(P.info? e).map (fun i=>(i.zero,i.size,i.bytes))=some (some z0,1,by_)) (hcz:z0.cells.size=1) (hz1:∀ x:Nat,z0.cells[0]!≠.int .u32 (x:Nat)) (hf:∀ u (x:Nat),f u≠.int .u32 (x:Nat))
  (v:Value) (xs:List α) (hs:a.eval s=v) (hown:jH f e W base v xs) (b:Nat) (y:α) (hx:a.eval x=.slice (some ⟨b,0,none⟩) 1 1) (hc:W.cell? ⟨b,0,none⟩=some (f y)) (h1c:(f y).oneCell'=true)
  (hlen:xs.length<=1000000) (hby:by_<=24) (hbase:base<=W.heap.size)
  (hK:∀ ao cap w',jH f e w' base (.slice ao (xs.length+1) cap) (xs++[y])->W.grownBy w' v.ownBlock->aW W w'->wpList P ops Q rest (a.put o.dst (.slice ao (xs.length+1) cap)) w'):wpList P ops Q (o :: rest) a W:=by
 obtain ⟨i,hi,hz0,hsz,hz2⟩:=info_parts hinfo;have hby2:(xs.length+1)*by_<=140737488355328:=by
  have:(xs.length+1)*by_<=(1000000+1)*24:=Nat.mul_le_mul (by omega) hby;omega
 obtain ⟨v',w',hr,h2,h3,h4,h5⟩:=qF (P:=P) W base t o.type e i z0 by_ h1 hi hz0 hsz hz2 hcz hz1 v xs.length (xs.map f) hown.1 hown.2
  (fun u hu x=>by obtain ⟨u',_,rfl⟩:=List.mem_map.1 hu;exact hf u' x) ⟨b,0,none⟩ 1 (f y) hc h1c (hf y) (by unfold maxLen;omega) hby2 hbase
 have h6:cL f e w' base v' (xs++[y]):=by
  unfold cL;rw [List.length_append,List.map_append];exact h2
 obtain ⟨ao,cap,ev⟩:=h6.shape;rw [List.length_append,List.length_singleton] at ev;refine wpList_plain hg fun _ hK2=>?_
 unfold Oper.wp execOp;simp only [ho,resolve,invoke,builtin,Sem.run_bind,Sem.run_pure,Result.andThen_ok,List.map_toArray,List.map_cons,List.map_nil,hs,hx,hr];rw [ev] at h6 h4 ⊢;exact hK2 _ _ (hK ao cap w' ⟨h6,h4⟩ h3 h5)
theorem de (w:World) (b i:Nat) (v:Value):w.grownBy (w.setCell ⟨b,i,none⟩ v) (some b) :=
 ⟨rfl,rfl,rfl,by simp,fun k _ hr=>heap_setCell_other _ _ k _ (fun e=>hr (by rw [e]))⟩
theorem aX.set {w:World} {b i:Nat} {cur:Array Value} {e:TypeId} (hb:w.heap[b]? = some (.cells cur e (0,0))) (hi:∀ x:Nat,cur[i]?≠some (.int .u32 (x:Nat))) (v:Value):aX w (w.setCell ⟨b,i,none⟩ v) b:=⟨de _ _ _ _,aW.set hb hi v⟩
theorem yz {w:World} {br:Nat} {cur:Array Value} {e:TypeId} (hb:w.heap[br]? = some (.cells cur e (0,0))) {a b:Nat} {x y:Value} (ca:cur[a]? = some x) (cb:cur[b]? = some y) (nx:∀ z:Nat,x≠.int .u32 (z:Nat)) (ny:∀ z:Nat,y≠.int .u32 (z:Nat)) :
  ∃ cur',((w.setCell ⟨br,a,none⟩ y).setCell ⟨br,b,none⟩ x).heap[br]? = some (.cells cur' e (0,0))/\(∀ i,cur'[i]? = cur[bT a b i]?)/\aX w ((w.setCell ⟨br,a,none⟩ y).setCell ⟨br,b,none⟩ x) br:=by
 have la:=(Array.getElem?_eq_some_iff.1 ca).1;have lb:=(Array.getElem?_eq_some_iff.1 cb).1;have h1:=heap_setCell_same w br a cur e y hb;have h2:=heap_setCell_same (w.setCell ⟨br,a,none⟩ y) br b (cur.setIfInBounds a y) e x h1;refine ⟨(cur.setIfInBounds a y).setIfInBounds b x,h2,fun i=>?_,(aX.set hb (fun z ez=>?_) y).trans (aX.set h1 (fun z ez=>?_) x)⟩
 ·unfold bT;by_cases e1:i=b
  ·subst e1;rw [if_pos rfl,Array.getElem?_setIfInBounds_self_of_lt (by simpa using lb),ca]
  ·rw [if_neg e1,Array.getElem?_setIfInBounds_ne (fun e2=>e1 e2.symm)];by_cases e3:i=a
   ·subst e3;rw [if_pos rfl,Array.getElem?_setIfInBounds_self_of_lt la,cb]
   ·rw [if_neg e3,Array.getElem?_setIfInBounds_ne (fun e2=>e3 e2.symm)]
 ·rw [ca] at ez;exact nx z (Option.some.inj ez)
 ·by_cases e1:b=a
  ·subst e1;rw [Array.getElem?_setIfInBounds_self_of_lt la] at ez;exact ny z (Option.some.inj ez)
  ·rw [Array.getElem?_setIfInBounds_ne (fun e2=>e1 e2.symm),cb] at ez;exact ny z (Option.some.inj ez)
theorem bX.swap {w:World} {br m n L:Nat} {bs cs:Nat->Nat} {R:Nat->Nat->Rat} (h:bX w br m n bs cs R L) {a b:Nat} (ha:a<m) (hb:b<m) :
  bX ((w.setCell ⟨br,a,none⟩ (.slice (some ⟨bs b,0,none⟩) n (cs b))).setCell ⟨br,b,none⟩ (.slice (some ⟨bs a,0,none⟩) n (cs a))) br m n (fun i=>bs (bT a b i)) (fun i=>cs (bT a b i)) (fun i=>R (bT a b i)) L
  /\ aX w ((w.setCell ⟨br,a,none⟩ (.slice (some ⟨bs b,0,none⟩) n (cs b))).setCell ⟨br,b,none⟩ (.slice (some ⟨bs a,0,none⟩) n (cs a))) br:=by
 obtain ⟨cur,e,hh,hc⟩:=h.top;obtain ⟨cur',h1,h2,h3⟩:=yz hh (hc a ha) (hc b hb) (fun z=>by simp) (fun z=>by simp);generalize (w.setCell ⟨br,a,none⟩ (.slice (some ⟨bs b,0,none⟩) n (cs b))).setCell ⟨br,b,none⟩ (.slice (some ⟨bs a,0,none⟩) n (cs a))=w' at h1 h3 ⊢;have lt:∀ i,i<m->bT a b i<m:=fun i hi=>fh ha hb hi
 refine ⟨⟨⟨cur',e,h1,fun i hi=>?_⟩,fun i hi=>h.cap _ (lt i hi),fun i hi=>(h.row _ (lt i hi)).keep h3.1 h3.2 (fun e2=>h.off _ (lt i hi) (Option.some.inj e2)),fun i j hi hj e2=>?_,fun i hi=>h.off _ (lt i hi)⟩,h3⟩
 ·rw [h2 i];exact hc _ (lt i hi)
 ·have:=h.inj _ _ (lt i hi) (lt j hj) e2;have e3:bT a b (bT a b i)=bT a b (bT a b j):=by rw [this]
  rw [gV,gV] at e3;exact e3
theorem cK.swap {w:World} {bo m:Nat} {o:Nat->Nat} (h:cK w bo m o) {a b:Nat} (ha:a<m) (hb:b<m) :
  cK ((w.setCell ⟨bo,a,none⟩ (.int .i64 ((o b:Nat):Int))).setCell ⟨bo,b,none⟩ (.int .i64 ((o a:Nat):Int))) bo m (fun i=>o (bT a b i))
  /\ aX w ((w.setCell ⟨bo,a,none⟩ (.int .i64 ((o b:Nat):Int))).setCell ⟨bo,b,none⟩ (.int .i64 ((o a:Nat):Int))) bo:=by
 obtain ⟨cur,e,hh,hc⟩:=h;obtain ⟨cur',h1,h2,h3⟩:=yz hh (hc a ha) (hc b hb) (fun z=>by simp) (fun z=>by simp);refine ⟨⟨cur',e,h1,fun i hi=>?_⟩,h3⟩;rw [h2 i];exact hc _ (fh ha hb hi)
theorem aH.ne_int {w:World} {b n L bo:Nat} {R:Nat->Rat} {x:Int} (h:aH w b n R L) (hn:0<n) (hc:w.cell? ⟨bo,0,none⟩=some (.int .i64 x)):b≠bo:=by
 intro e;obtain ⟨_,_,_,_,_,_,c0,_⟩:=h.at 0 hn;rw [e,Nat.zero_mul,hc] at c0;simp at c0
theorem aH.ne_slice {w:World} {b n L bo:Nat} {R:Nat->Rat} {x:Option Addr} {l c:Nat} (h:aH w b n R L) (hn:0<n) (hc:w.cell? ⟨bo,0,none⟩=some (.slice x l c)):b≠bo:=by
 intro e;obtain ⟨_,_,_,_,_,_,c0,_⟩:=h.at 0 hn;rw [e,Nat.zero_mul,hc] at c0;simp at c0
theorem bX.ne_int {w:World} {br m n L bo:Nat} {bs cs:Nat->Nat} {R:Nat->Nat->Rat} {x:Int} (h:bX w br m n bs cs R L) (hm:0<m) (hn:0<n) (hc:w.cell? ⟨bo,0,none⟩=some (.int .i64 x)):br≠bo/\∀ i,i<m->bs i≠bo:=by
 refine ⟨fun e=>?_,fun i hi=>(h.row i hi).ne_int hn hc⟩;have:=(h.cell 0 hm).1;rw [e,hc] at this;simp at this
theorem cK.froz {w:World} {bo m:Nat} {o:Nat->Nat} (h:cK w bo m o) (k:Nat):w.frozen? ⟨bo,k,none⟩=false:=by
 obtain ⟨cur,e,hb,hc⟩:=h;simp [World.frozen?,hb]
def lF (n:Nat) (p:Nat×Nat):Value:=.slice (some ⟨p.1,0,none⟩) n p.2
def fV (bs cs:Nat->Nat) (i:Nat):List (Nat×Nat):=(List.range i).map (fun j=>(bs j,cs j))
def iX (f:Nat->Nat) (i g:Nat):Nat->Nat:=fun j=>if j=i then g else f j
theorem cJ (bs cs:Nat->Nat) (i:Nat):(fV bs cs i).length=i:=by simp [fV]
theorem As (bs cs:Nat->Nat) (i g c:Nat):fV bs cs i++[(g,c)]=fV (iX bs i g) (iX cs i c) (i+1):=by
 unfold fV;rw [List.range_succ,List.map_append];congr 1
 ·refine List.map_congr_left (fun j hj=>?_);have:j≠i:=by have:=List.mem_range.1 hj;omega
  simp [iX,this]
 ·simp [iX]
theorem Tryz.infoRow:(Tryz.prog.info? 60).map (fun i=>(i.zero,i.size,i.bytes))=some (some (.slice none 0 0),1,24):=by kernel_rfl
structure rU (w:World) (base n i:Nat) (bs cs:Nat->Nat) (R:Nat->Nat->Rat) (L:Nat):Prop where
 low:∀ j,j<i->base<=bs j
 cap:∀ j,j<i->n<=cs j/\cs j<=maxLen
 row:∀ j,j<i->aH w (bs j) n (R j) L
 inj:∀ j k,j<i->k<i->bs j=bs k->j=k
theorem rU.nil (w:World) (base n:Nat) (bs cs:Nat->Nat) (R:Nat->Nat->Rat) (L:Nat):rU w base n 0 bs cs R L:=⟨fun j h=>by omega,fun j h=>by omega,fun j h=>by omega,fun j k h=>by omega⟩
theorem rU.keep0 {w w':World} {base n i L:Nat} {bs cs:Nat->Nat} {R:Nat->Nat->Rat} (h:rU w base n i bs cs R L) (g:w.grownBy w' none):rU w' base n i bs cs R L:=⟨h.low,h.cap,fun j hj=>(h.row j hj).keep0 g,h.inj⟩
theorem rU.keepB {w w':World} {base n i L b:Nat} {bs cs:Nat->Nat} {R:Nat->Nat->Rat} (h:rU w base n i bs cs R L) (g:aX w w' b) (hb:∀ j,j<i->bs j≠b):rU w' base n i bs cs R L:=⟨h.low,h.cap,fun j hj=>(h.row j hj).keep g.1 g.2 (fun e=>hb j hj (Option.some.inj e)),h.inj⟩
theorem rU.put {w:World} {base n i L g c:Nat} {bs cs:Nat->Nat} {R:Nat->Nat->Rat} (h:rU w base n i bs cs R L) (h1:base<=g) (h2:n<=c) (h3:c<=maxLen) (h4:aH w g n (R i) L) (h5:∀ j,j<i->bs j≠g):rU w base n (i+1) (iX bs i g) (iX cs i c) R L:=by
 refine ⟨fun j hj=>?_,fun j hj=>?_,fun j hj=>?_,fun j k hj hk e=>?_⟩
 ·unfold iX;split
  ·exact h1
  ·exact h.low j (by omega)
 ·unfold iX;split
  ·exact ⟨h2,h3⟩
  ·exact h.cap j (by omega)
 ·unfold iX;split
  ·rename_i e;rw [e];exact h4
  ·exact h.row j (by omega)
 ·unfold iX at e;by_cases e1:j=i
  ·rw [if_pos e1] at e;by_cases e2:k=i
   ·omega
   ·rw [if_neg e2] at e;exact absurd e.symm (h5 k (by omega))
  ·rw [if_neg e1] at e;by_cases e2:k=i
   ·rw [if_pos e2] at e;exact absurd e (h5 j (by omega))
   ·rw [if_neg e2] at e;exact h.inj j k (by omega) (by omega) e
theorem jH.ne_row {w:World} {base n i b k L:Nat} {bs cs:Nat->Nat} {v:Value} {t:TypeId} {Q:Nat->Rat} (h:jH (lF n) t w base v (fV bs cs i)) (hi:0<i) (hr:aH w b k Q L) (hk:0<k):some b≠v.ownBlock:=by
 intro e;obtain ⟨ao,cap,rfl,_,_,h3⟩:=h.1.row;obtain ⟨b2,off,e2,_,c⟩:=h3 0 (by rw [cJ];exact hi);rw [e2] at e;simp only [Value.ownBlock,Option.some.injEq] at e;rcases h.1.2 with ⟨e3,_⟩ | ⟨g,cap2,cur,e3,_⟩
 ·rw [e2] at e3;simp at e3
 ·rw [e2] at e3;simp only [Value.slice.injEq,Option.some.injEq,Addr.mk.injEq] at e3;rw [e3.1.2.1,Nat.zero_add] at c;exact hr.ne_slice hk c e
theorem jH.mat {w:World} {base n m L:Nat} {bs cs:Nat->Nat} {v:Value} {t:TypeId} {R:Nat->Nat->Rat} (h:jH (lF n) t w base v (fV bs cs m)) (hm:0<m) (hn:0<n) (hr:rU w base n m bs cs R L) :
  ∃ br cap,v=.slice (some ⟨br,0,none⟩) m cap/\base<=br/\m<=cap/\cap<=maxLen/\bX w br m n bs cs R L:=by
 have hne:=fun j (hj:j<m)=>h.ne_row hm (hr.row j hj) hn
 rcases h.1.2 with ⟨_,h0⟩ | ⟨g,cap,cur,e,hb,hh,h1,h2,h3,h4⟩
 ·rw [cJ] at h0;omega
 ·rw [cJ] at e h1 h4;refine ⟨g,cap,e,hb,h1,h2,⟨⟨cur,t,hh,fun i hi=>?_⟩,hr.cap,hr.row,hr.inj,fun i hi e2=>hne i hi (by rw [e,e2];rfl)⟩⟩;have h5:(cur.toList.take (m*1))[i]? = ((fV bs cs m).map (lF n))[i]?:=by rw [h4]
  rw [List.getElem?_take,if_pos (by omega),Array.getElem?_toList] at h5;rw [h5];simp [fV,lF,hi]
theorem iH {w w1:World} {base n i L g c:Nat} {bs cs:Nat->Nat} {v v1:Value} {t:TypeId} {R:Nat->Nat->Rat} (h:jH (lF n) t w base v (fV bs cs i)) (hn:0<n) (hr:rU w base n i bs cs R L)
  (h2:n<=c) (h3:c<=maxLen) (h4:aH w g n (R i) L) (h1:base<=g) (h5:∀ j,j<i->bs j≠g) (hv:v.ownBlock≠some g) (hg:w.grownBy w1 v.ownBlock) (hk:aW w w1) (ho:jH (lF n) t w1 base v1 (fV bs cs i++[(g,c)])) :
  jH (lF n) t w1 base v1 (fV (iX bs i g) (iX cs i c) (i+1))/\rU w1 base n (i+1) (iX bs i g) (iX cs i c) R L:=by
 rw [As] at ho;refine ⟨ho,rU.put ⟨hr.low,hr.cap,fun j hj=>(hr.row j hj).keep hg hk (h.ne_row (by omega) (hr.row j hj) hn),hr.inj⟩ h1 h2 h3 (h4.keep hg hk (fun e=>hv e.symm)) h5⟩
theorem pW {α β:Type} (f:α->β) (l cs:List α) (o:Nat):splice (l.map f) o (cs.map f)=(splice l o cs).map f:=by
 simp [splice,List.map_take,List.map_drop,List.map_append]
theorem Below.gr {w w':World} (h:Below w.heap.size w w'):w.grownBy w' none:=⟨h.os,h.tape,h.output,h.size,fun k hk _=>h.block k hk⟩
def RepR (w:World) (g c:Nat) (v:Value) (wr:World):Prop:=∃ (k:Nat) (xs:List Int),1<=k/\k<=c/\v=.int .i64 k/\xs.length=c/\d6 wr g xs/\Below w.heap.size w wr
theorem rD (b c:Nat) (w:World) (hb:w.cell? ⟨b,0,none⟩=some (.int .i64 (-1))) (h0:0<c) (h1:c<=1000) :
  Calls Tryz.prog 204 #[.slice (some ⟨b,0,none⟩) 1 1,.int .i64 ((c:Nat):Int)] w
   fun e w'=>∃ g xs,e=.returned (.slice (some ⟨g,0,none⟩) c c)/\w.heap.size<=g/\xs.length=c/\d6 w' g xs/\w.grownBy w' none:=by
 have HB:=ab hb;clear hb;go_enter Tryz.func204,Tryz.ntmps204
 go_wp2_with fail;refine (Tryz.bits_Mul 1 c (by decide) (by omega) _).mono ?_;rintro e w1 ⟨rfl,hw⟩;rw [hw];clear hw w1;rw [show 1*c / 18446744073709551616=0 from by omega,show 1*c % 18446744073709551616=c from by omega];have hcc:¬ ((9223372036854775807:Int)<(c:Int)):=by omega
 go_wp2_with (at_make;refine du iv 3 0 8 _ rfl _ _ 31 rfl Tryz.underlying31 Tryz.infoInt rfl _ _ _ _ c rfl rfl (by omega) (by omega) (by omega) (by omega) ?_)
 intro w2 harr hgr;have HR:=ab harr;have HG:=ab hgr;have HB2:=ab (hgr.cell HB.out (by simp));have hgs:w.heap.size<=w.heap.size:=Nat.le_refl _;clear harr hgr;have HC1:Hid (∀ j v,[iv (-1)][j]? = some v->w2.cell? ((⟨b,0,none⟩:Addr).add j)=some v):=by
  intro j v hj;match j with
  | 0=>simp only [List.getElem?_cons_zero,Option.some.injEq] at hj;subst hj;simpa [Addr.add] using HB2.out
  | j+1=>simp at hj
 have HC2:Hid (∀ v∈[iv (-1)],v.oneCell'=true):=by intro v hv;simp only [List.mem_singleton] at hv;subst hv;rfl
 have HC3:Hid (Below w.heap.size w w2):=⟨HG.out.os,HG.out.tape,HG.out.output,HG.out.size,fun k hk=>HG.out.block k hk (by simp)⟩;have hrun:=run_copy_row (P:=Tryz.prog) w2 31 31 3 3 w.heap.size 0 c c ⟨b,0,none⟩ 1 1 ((List.replicate c 0).map iv).toArray 3 [iv (-1)] Tryz.underlying31 (by kernel_rfl) HR.out (by show 1=min 1 c;omega) HC1.out (by simp;omega) HC2.out;have hg3:=setRow_heap w2 w.heap.size _ ((((List.replicate c 0).map iv).toArray.toList.take 0++[iv (-1)]++((List.replicate c 0).map iv).toArray.toList.drop (0 + [iv (-1)].length)).toArray) 3 _ HR.out;have hb3:Below w.heap.size w (w2.setRow w.heap.size ((((List.replicate c 0).map iv).toArray.toList.take 0++[iv (-1)]++((List.replicate c 0).map iv).toArray.toList.drop (0 + [iv (-1)].length)).toArray)):=below_setRow HC3.out (Nat.le_refl _) _;generalize (w2.setRow w.heap.size ((((List.replicate c 0).map iv).toArray.toList.take 0++[iv (-1)]++((List.replicate c 0).map iv).toArray.toList.drop (0 + [iv (-1)].length)).toArray))=w3 at hrun hg3 hb3;rw [show goInt [iv (-1)].length=.int .i64 1 from rfl] at hrun;have H3:Hid (d6 w3 w.heap.size (splice (List.replicate c 0) 0 [-1])):=by
  have e:((List.replicate c 0).map iv).toArray.toList.take 0++[iv (-1)]++((List.replicate c 0).map iv).toArray.toList.drop (0 + [iv (-1)].length)=(splice (List.replicate c 0) 0 [-1]).map iv:=by
   rw [<- pW];simp [splice]
  rw [e] at hg3;exact hg3
 have B3:=ab hb3;clear hg3 hb3 HR HG HB2 HC1 HC2 HC3;go_wp2;go_loopw [8] (fun v wr=>Hid (RepR w w.heap.size c v wr)) (fun v _=>c-(intOf v).toNat)
 case atStart=>exact ⟨1,_,by omega,by omega,rfl,by rw [length_splice _ _ _ (by simp;omega)];simp,H3.out,B3.out⟩
 case round =>
  obtain ⟨k,xs,hk0,hk,rfl,hx,l1,l2⟩:=hrel.out;have L1:=ab l1;have L2:=ab l2;clear l1 l2 hrel H3 B3;by_cases hlt:k<c
  ·have hk1:(0:Int)<=(k:Int):=by omega
   have hk2:(k:Int)<=(c:Int):=by omega
   have hkF:(c=k)=False:=eq_false (by omega);have HD1:Hid (∀ j v,((xs.take (min k (c-k))).map iv)[j]? = some v->wr.cell? ((⟨w.heap.size,0,none⟩:Addr).add j)=some v):=by
    intro j v hj;rw [List.getElem?_map,List.getElem?_take] at hj;split at hj
    ·rename_i hjk;rw [List.getElem?_eq_getElem (by omega)] at hj;simp only [Option.map_some,Option.some.injEq] at hj;rw [<- hj,show (⟨w.heap.size,0,none⟩:Addr).add j=⟨w.heap.size,j,none⟩ from by simp [Addr.add];omega];exact L1.out.cell j (by omega)
    ·cases hj
   have HD2:Hid (∀ v∈(xs.take (min k (c-k))).map iv,v.oneCell'=true):=by
    intro v hv;obtain ⟨x,_,rfl⟩:=List.mem_map.1 hv;rfl
   have HD3:Hid (((xs.take (min k (c-k))).map iv).length=Nat.min k (c-k)):=by
    show _=min _ _
    rw [List.length_map,List.length_take];omega
   have HD4:Hid (k+((xs.take (min k (c-k))).map iv).length<=(xs.map iv).length):=by
    show _<=_
    rw [List.length_map,List.length_take,List.length_map];omega
   obtain ⟨cs,hcs⟩:∃ cs,cs=(xs.take (min k (c-k))).map iv:=⟨_,rfl⟩;rw [<- hcs] at HD1 HD2 HD3 HD4;have HCS:=ab hcs;clear hcs;go_wp2_with fail;go_region_law (refine step_copy_splice rfl (.tmp 41) (.tmp 44) 31 31 rfl 3 Tryz.underlying31 (by kernel_rfl) (some ⟨w.heap.size,k,none⟩) (some ⟨w.heap.size,0,none⟩) (c-k) (c-k) k c (by simp [Act.eval,Act.put]) (by simp [Act.eval,Act.put]) w.heap.size k (xs.map iv) 3 L1.out cs HD3.out (fun _=>⟨rfl,_,rfl,HD1.out⟩) HD4.out HD2.out w.heap.size w ⟨L2.out.os,L2.out.tape,L2.out.output,L2.out.size,L2.out.block⟩ (Nat.le_refl _) ?_;intro w4 hg4 hb4)
   all_goals
    have hcl:cs.length=min k (c-k):=HD3.out;have H4:Hid (∃ ys:List Int,ys.length=c/\d6 w4 w.heap.size ys):=by
     refine ⟨splice xs k (xs.take (min k (c-k))),?_,?_⟩
     ·rw [length_splice _ _ _ (by rw [List.length_take];omega),hx]
     ·have:=hg4.out;rw [HCS.out,pW] at this;exact this
    have B4:=ab hb4;have hwr:IntKind.i64.wrap ((k:Int)+(cs.length:Int))=(k:Int)+((min k (c-k):Nat):Int):=by rw [<- hcl];exact IntWalk.i64_in _ ⟨by omega,by omega⟩
    clear hg4 hb4 HD1 HD2 HD3 HD4 HCS;simp only [List.getElem_toArray,List.getElem_cons_succ,List.getElem_cons_zero,Act.put,ib,ig,ie,hwr];go_wp2;go_roundw
    case rel =>
     obtain ⟨ys,y1,y2⟩:=H4.out;exact ⟨k+min k (c-k),ys,by omega,by omega,rfl,y1,y2,B4.out⟩
    case measure=>simp [intOf];omega
  ·obtain rfl:k=c:=by omega
   go_wp2;go_ret;exact ⟨_,xs,rfl,Nat.le_refl _,hx,L1.out,Below.gr L2.out⟩
def fs (R:Nat->Nat->Rat) (k done:Nat) (u d:Rat) (i:Nat):Nat->Nat->Rat:=fun t =>
 if t=done then (fun j=>u*R done j) else if done<t/\t<done+1+i then km (R t) (fun j=>u*R done j) k d else R t
theorem turn_sg (x:Rat):sT x=1∨sT x = -1:=by
 unfold sT;split
 ·exact .inr rfl
 ·exact .inl rfl
theorem sg_ne {u x:Rat} (h:u=1∨u = -1) (hx:x≠0):u*x≠0:=by
 rcases h with rfl | rfl
 ·rwa [Rat.one_mul]
 ·intro e;apply hx;grind
theorem gI (R:Nat->Nat->Rat) (k done:Nat) (u d:Rat) (i j:Nat):fs R k done u d i done j=u*R done j:=by
 unfold fs;rw [if_pos rfl]
theorem wH (R:Nat->Nat->Rat) (k done:Nat) (u d:Rat) (t j:Nat):(if t=done then (fun j=>u*R done j) else R t) j=fs R k done u d 0 t j:=by
 unfold fs;by_cases e:t=done
 ·rw [if_pos e,if_pos e]
 ·rw [if_neg e,if_neg e,if_neg (by omega)]
theorem wF (R:Nat->Nat->Rat) (k done:Nat) (u d:Rat) (i:Nat):fs R k done u d i (done+1+i)=R (done+1+i):=by
 unfold fs;rw [if_neg (by omega),if_neg (by omega)]
theorem wG (R:Nat->Nat->Rat) (k done:Nat) (u d:Rat) (i t j:Nat) :
  (if t=done+1+i then km (R (done+1+i)) (fun j=>u*R done j) k d else fs R k done u d i t) j=fs R k done u d (i+1) t j:=by
 unfold fs;by_cases e:t=done+1+i
 ·rw [if_pos e,if_neg (by omega),if_pos (by omega),e]
 ·rw [if_neg e];by_cases e1:t=done
  ·rw [if_pos e1,if_pos e1]
  ·rw [if_neg e1,if_neg e1];by_cases e2:done<t/\t<done+1+i
   ·rw [if_pos e2,if_pos (by omega)]
   ·rw [if_neg e2,if_neg (by omega)]
theorem mM {W:Nat->Nat->Rat} {m done:Nat} {perm order:List Nat} {R:Nat->Nat->Rat} {d s u:Rat} (h:St W m done perm order R d s) (hd:done<m) (hu:u=1∨u = -1) (hn:R done (order.getD done 0)≠0) :
  St W m (done+1) perm order (fs R (order.getD done 0) done u d (m-(done+1))) (u*R done (order.getD done 0)) (u*s):=by
 refine st_step h hd hu (fun t ht j=>?_) (fun j=>gI _ _ _ _ _ _ _) (gI _ _ _ _ _ _ _).symm (sg_ne hu hn) (fun i hi hi2 j=>?_)
 ·unfold fs;rw [if_neg (by omega),if_neg (by omega)]
 ·rw [gI];unfold fs;rw [if_neg (by omega),if_pos (by omega)];rfl
theorem elim_wh {W:Nat->Nat->Rat} {m done:Nat} {b:Nat->Nat} {perm order:List Nat} {R:Nat->Nat->Rat} {d s u:Rat} (h:St W m done perm order R d s) (hd:done<m) (hu:u=1∨u = -1) (hb:∀ r,1<=b r) (hB:∀ r j,mF (b r) (W r j))
  (hR:∀ t,t<done->∀ j,mF (gE m b) (R t j)) (k i t:Nat) (ht:t<done+1) (j:Nat):mF (gE m b) (fs R k done u d i t j):=by
 by_cases e:t=done
 ·rw [e,gI];exact uW fj hu (st_wh fj h hb hB done (Nat.le_refl _) hd j)
 ·unfold fs;rw [if_neg e,if_neg (by omega)];exact hR t (by omega) j
theorem Bs {W:Nat->Nat->Rat} {m done L:Nat} {b:Nat->Nat} {perm order:List Nat} {R:Nat->Nat->Rat} {d s u:Rat} (h:St W m done perm order R d s) (hd:done<m) (hu:u=1∨u = -1) (hn:R done (order.getD done 0)≠0) (hb:∀ r,1<=b r) (hB:∀ r j,mF (b r) (W r j))
  (hL1:1<=L) (hM:gE m b<4294967296^L) (t:Nat) (ht:done<t) (ht2:t<m) (j:Nat):bM L (km (R t) (fun j=>u*R done j) (order.getD done 0) d j):=by
 have:=st_wh fj (mM h hd hu hn) hb hB t (by omega) ht2 j;unfold fs at this;rw [if_neg (by omega),if_pos (by omega)] at this;exact sn hM hL1 this
def qj (R:Nat->Nat->Rat) (n:Nat):Nat->Nat->Rat:=fun r j=>if j<n then cD (R r) n j else 0
theorem gQ (x:Nat->Rat) {R S:Nat->Rat} : ∀ n,(∀ j,j<n->R j=S j)->cX n x R=cX n x S:=by
 intro n;induction n with
 | zero=>intro _;rfl
 | succ n ih=>intro h;unfold cX;rw [ih (fun j hj=>h j (by omega)),h n (by omega)]
theorem zv (x R:Nat->Rat) (c:Rat):∀ n,cX n x (fun j=>R j*c)=cX n x R*c:=by
 intro n;induction n with
 | zero=>unfold cX;grind
 | succ n ih=>unfold cX;rw [ih];grind
theorem mn (R:Nat->Nat->Rat) (m:Nat) (x:Nat->Rat):mD (qj R (m+1)) m x↔mD R m x:=by
 have key:∀ r,cX (m+1) x (qj R (m+1) r)=cX (m+1) x (R r)*((lN (R r) (m+1):Nat):Rat):=by
  intro r;rw [<- zv];exact gQ x (m+1) (fun j hj=>by unfold qj;rw [if_pos hj];rfl)
 have hne:∀ r,((lN (R r) (m+1):Nat):Rat)≠0:=by
  intro r e;have:=tp (R r) (m+1);have e2:((lN (R r) (m+1):Nat):Rat)=((0:Nat):Rat):=e;rw [Rat.natCast_inj] at e2;omega
 constructor
 ·rintro ⟨h1,h2⟩;refine ⟨h1,fun r hr=>?_⟩;have:=h2 r hr;rw [key r] at this;rcases Rat.mul_eq_zero.1 this with h | h
  ·exact h
  ·exact absurd h (hne r)
 ·rintro ⟨h1,h2⟩;refine ⟨h1,fun r hr=>?_⟩;rw [key r,h2 r hr,Rat.zero_mul]
end Go.Proofs.YthblidglcppakaaGreatDoor
