/- Contracts that the proof leans on. -/
import Derived.Test.YthblidglcppakaaGreatDoorXCLo
import Derived.Test.YthblidglcppakaaGreatDoorXCNz
import Derived.Test.YthblidglcppakaaGreatDoorXCSe
import Derived.Test.YthblidglcppakaaGreatDoorXCDb
import Derived.Test.YthblidglcppakaaGreatDoorXSumV
import Derived.Test.YthblidglcppakaaGreatDoorXRMulX
import Derived.Test.YthblidglcppakaaGreatDoorXCBh
import Derived.Test.YthblidglcppakaaGreatDoorXCDa
import Derived.Test.YthblidglcppakaaGreatDoorXCLa
namespace Go.Proofs.YthblidglcppakaaGreatDoor
open Go.RowKit
set_option linter.unusedVariables false
set_option linter.unusedSimpArgs false
set_option maxHeartbeats 8000000
set_option maxRecDepth 10000
def lR:List Int->List Pr->(Nat->Rat)->Rat
 | c :: cs,p :: ps,s=>(c:Rat)*(s p.1-s p.2)+lR cs ps s
 | _,_,_=>0
def kY (V:Nat->Rat):Nat->Nat
 | 0=>1
 | n+1=>kY V n*(V n).den
theorem zp (V:Nat->Rat) (n:Nat):0<kY V n:=by
 induction n with
 | zero=>exact Nat.one_pos
 | succ n ih=>exact Nat.mul_pos ih (Rat.den_pos _)
theorem qX (V:Nat->Rat):∀ n j,j<n->(V j).den∣kY V n
 | 0,j,h=>by omega
 | n+1,j,h=>by
  by_cases e:j=n
  ·rw [e];exact Nat.dvd_mul_left _ _
  ·exact Nat.dvd_trans (qX V n j (by omega)) (Nat.dvd_mul_right _ _)
theorem den_num (q:Rat):q*((q.den:Nat):Rat)=(q.num:Rat):=by
 have h:q=(q.num:Rat) / ((q.den:Nat):Rat):=(Rat.mkRat_self q).symm.trans (Rat.mkRat_eq_div _ _);have hd:((q.den:Nat):Rat)≠0:=by
  intro e;have:=Rat.den_pos q;have:(q.den:Nat)=0:=by exact_mod_cast e
  omega
 generalize q.num=a at h ⊢;generalize ((q.den:Nat):Rat)=b at h hd ⊢;rw [h,Rat.div_mul_cancel hd]
theorem Ab {q:Rat} {D:Nat} (h:q.den∣D):∃ z:Int,q*(D:Rat)=(z:Rat):=by
 obtain ⟨k,rfl⟩:=h;refine ⟨q.num*(k:Int),?_⟩;have h1:q*(q.den:Rat)=(q.num:Rat):=den_num q;rw [Rat.natCast_mul,<- Rat.mul_assoc,h1,Rat.intCast_mul];rfl
theorem wi (c:List Int) (E:List Pr) (V:Nat->Rat) (n:Nat) (hE:∀ p∈E,p.1<n/\p.2<n) (h:∀ s:Nat->Int,cr c E s=0):lR c E V=0:=by
 have hD:=zp V n;have hD2:(kY V n:Rat)≠0:=by
  intro e;have:(kY V n:Nat)=0:=by exact_mod_cast e
  omega
 have hs:∃ s:Nat->Int,∀ j,j<n->V j*(kY V n:Rat)=(s j:Rat):=by
  have:∀ j,∃ z:Int,j<n->V j*(kY V n:Rat)=(z:Rat):=by
   intro j;by_cases hj:j<n
   ·obtain ⟨z,hz⟩:=Ab (qX V n j hj);exact ⟨z,fun _=>hz⟩
   ·exact ⟨0,fun h=>absurd h hj⟩
  exact ⟨fun j=>(this j).choose,fun j hj=>(this j).choose_spec hj⟩
 obtain ⟨s,hs⟩:=hs;have key:∀ (c:List Int) (E:List Pr),(∀ p∈E,p.1<n/\p.2<n)->lR c E V*(kY V n:Rat)=((cr c E s:Int):Rat):=by
  intro c;induction c with
  | nil=>intro E _;cases E<;>simp [lR,cr,Rat.zero_mul]
  | cons a c ih =>
   intro E hE;cases E with
   | nil=>simp [lR,cr,Rat.zero_mul]
   | cons p E =>
    have h1:=hE p (by simp);have h2:=ih E (fun q hq=>hE q (by simp [hq]));have e1:=hs p.1 h1.1;have e2:=hs p.2 h1.2;show ((a:Rat)*(V p.1-V p.2)+lR c E V)*(kY V n:Rat)=((a*(s p.1-s p.2)+cr c E s:Int):Rat)
    rw [Rat.intCast_add,Rat.intCast_mul,Rat.intCast_sub,<- h2,<- e1,<- e2];grind
 have h0:=key c E hE;rw [h s] at h0;have h3:lR c E V*(kY V n:Rat)=0:=by rw [h0];rfl
 rcases Rat.mul_eq_zero.1 h3 with h | h
 ·exact h
 ·exact absurd h hD2
theorem pZ (f:Nat->Rat):∀ k,bC f (k+1)=f 0+bC (fun i=>f (i+1)) k
 | 0=>by rw [aP];show (0:Rat)+f 0=f 0+0;grind
 | k+1=>by rw [aP,pZ f k,aP];grind
theorem qV:∀ (c:List Int) (E:List Pr) (V:Nat->Rat),c.length=E.length->lR c E V=bC (fun i=>((c.getD i 0:Int):Rat)*(V (E.getD i (0,0)).1-V (E.getD i (0,0)).2)) E.length
 | [],[],V,_=>rfl
 | a :: c,p :: E,V,h=>by
  have ih:=qV c E V (by simpa using h);show (a:Rat)*(V p.1-V p.2)+lR c E V=bC _ (E.length+1)
  rw [pZ,ih];rfl
theorem uk {n:Nat} {ps:List aI} (hR:cm n ps) (V:Nat->Rat) (l:List Int) (hl:l∈bK ps.length (aE (aS ps)) (bE (aS ps) (aE (aS ps))) ps.length) :
  l.length=ps.length/\bC (fun i=>((l.getD i 0:Int):Rat)*acr ps V i) ps.length=0:=by
 have hlen:(aS ps).length=ps.length:=by simp [aS]
 unfold bK at hl;simp only [List.mem_map,List.mem_filter,List.mem_range] at hl;obtain ⟨x,⟨hx,hnt⟩,rfl⟩:=hl;have hx2:x∉aE (aS ps):=by simpa using hnt
 have hll:(dY ps.length x (aE (aS ps)) (bE (aS ps) (aE (aS ps)))).length=ps.length:=by
  unfold dY;rw [List.length_set,cI]
 refine ⟨hll,?_⟩;have hE:∀ p∈aS ps,p.1<n/\p.2<n:=by
  intro p hp;simp only [aS,List.mem_map] at hp;obtain ⟨q,hq,rfl⟩:=hp;obtain ⟨xa,xb,xc,xd,ea,eb,_,_,ha,hb,_⟩:=hR.ends q hq;rw [ea,eb];exact ⟨by simpa using ha,by simpa using hb⟩
 have hz:=wi (dY ps.length x (aE (aS ps)) (bE (aS ps) (aE (aS ps)))) (aS ps) V n hE (fun s=>by
  have:=zL (aS ps) x (by rw [hlen];exact hx) hx2 s;rw [hlen] at this;exact this)
 rw [qV _ _ _ (by rw [hll,hlen]),hlen] at hz;have hs:bC (fun i=>(((dY ps.length x (aE (aS ps)) (bE (aS ps) (aE (aS ps)))).getD i 0:Int):Rat)*acr ps V i) ps.length=bC (fun i=>(((dY ps.length x (aE (aS ps)) (bE (aS ps) (aE (aS ps)))).getD i 0:Int):Rat)*(V ((aS ps).getD i (0,0)).1-V ((aS ps).getD i (0,0)).2)) ps.length:=by
  refine dK _ _ _ (fun i hi=>?_);rw [acr_get hi];have e:(aS ps).getD i (0,0)=(ps[i].a.toNat,ps[i].b.toNat):=by
   rw [List.getD_eq_getElem?_getD,List.getElem?_eq_getElem (by rw [hlen];exact hi)];simp [aS]
  rw [e]
 rw [hs];exact hz
def kQ (w:World) (b:Nat) (u v:Value):Prop:=w.heap[b]? = some (Obj.cells #[u,v] 24 (0,0))
theorem kQ.lt {w:World} {b:Nat} {u v:Value} (h:kQ w b u v):b<w.heap.size:=(Array.getElem?_eq_some_iff.1 h).1
theorem kQ.keep {w w':World} {b:Nat} {u v:Value} {r:Option Nat} (h:kQ w b u v) (g:w.grownBy w' r) (hr:some b≠r):kQ w' b u v:=by
 have hl:=h.lt;unfold kQ at h ⊢;rw [g.block b hl hr];exact h
theorem kQ.cells {w:World} {b:Nat} {u v:Value} (h:kQ w b u v):w.cell? ⟨b,0,none⟩=some u/\w.cell? ⟨b,1,none⟩=some v/\w.frozen? ⟨b,0,none⟩=false/\w.frozen? ⟨b,1,none⟩=false:=by
 unfold kQ at h;refine ⟨?_,?_,?_,?_⟩<;>simp [World.cell?,World.frozen?,h]
theorem kQ.set1 {w:World} {b:Nat} {u v:Value} (h:kQ w b u v) (x:Value):kQ (w.setCell ⟨b,1,none⟩ x) b u x:=by
 unfold kQ at h ⊢;rw [heap_setCell_same w b 1 _ _ x h];simp
theorem eP.ne {w:World} {base b:Nat} {v:Value} {ps:List aI} (h:eP w base v ps) (hb:b<base):v.ownBlock=none∨v.ownBlock≠some b:=by
 cases hv:v.ownBlock with
 | none=>exact .inl rfl
 | some k =>
  right
  intro e;have:=(World.ownsRow.lt h k hv).1;have:=Option.some.inj e;omega
theorem nZ {P:Program} (W:World) {ops:Array Oper} {rest:List Oper} {o:Oper} {a:Act} {Q:Exit->Act->World->Prop}
  (hg:o.guard=none) (s x:Operand) (t:TypeId) (ho:o.op=.call { callee:=.builtin .append,args:=#[s,x],argTypes:=#[t,t] }) (base:Nat)
  (h1:P.underlying t=some (.slice 34)) (hinfo:(P.info? 34).map (fun i=>(i.zero,i.size,i.bytes))=some (some (.agg #[.int .i64 0,.int .i64 0,.int .i64 0,.int .i64 0,.int .i64 0,.string ⟨#[]⟩]),6,56))
  (v:Value) (qs:List aI) (hs:a.eval s=v) (hown:eP W base v qs) (b:Nat) (p:aI) (hx:a.eval x=.slice (some ⟨b,0,none⟩) 1 1) (hc:∀ j u,(cE p)[j]? = some u->W.cell? ((⟨b,0,none⟩:Addr).add j)=some u)
  (hlen:qs.length<=100000) (hbase:base<=W.heap.size)
  (hK:∀ ao cap w',eP w' base (.slice ao (qs.length+1) cap) (qs++[p])->W.grownBy w' v.ownBlock->wpList P ops Q rest (a.put o.dst (.slice ao (qs.length+1) cap)) w'):wpList P ops Q (o :: rest) a W:=by
 obtain ⟨i0,hi0,hz0,hz1,hz2⟩:=info_parts hinfo;refine wpList_append_own W hg s x t ho base _ i0 _ 6 56 h1 hi0 hz0 hz1 hz2 rfl (by decide) v qs.length (bh qs) hs hown ⟨b,0,none⟩ 1 1 (cE p) hx rfl hc ?_ (by unfold maxLen;omega) (by omega) hbase ?_
 ·intro u hu;exact jV [p] u (by simpa [bh] using hu)
 ·intro v' w' hown' hgr _;have h2:eP w' base v' (qs++[p]):=by
   show World.ownsRow _ _ _ _ _ _ _
   have e2:bh (qs++[p])=bh qs++cE p:=by
    rw [jU];simp [bh]
   rw [List.length_append,e2];exact hown'
  obtain ⟨ao,cap,ev,_⟩:=h2.shape;rw [List.length_append,List.length_singleton] at ev;subst ev;exact hK ao cap w' h2 hgr
theorem v7 {nodes:Int} {ps:List aI} (h:(bj false nodes ps).1=0):bV nodes ps=(0,0):=by
 have key:∀ (ps:List aI) (k:Nat),(∀ p∈ps,dA false p nodes=0)->bS true nodes ps k=(0,0):=by
  intro ps;induction ps with
  | nil=>intro k _;rfl
  | cons p r ih =>
   intro k hp;have h1:=hp p (by simp);have h2:dA true p nodes=0:=by
    unfold dA at h1 ⊢;by_cases h8:p.kind=8
    ·rw [if_pos ⟨h8,rfl⟩] at h1;exact absurd h1 (by decide)
    ·rw [if_neg (by simp [h8])] at h1;rw [if_neg (by simp [h8])];exact h1
   rw [bS,if_pos h2];exact ih (k+1) (fun q hq=>hp q (by simp [hq]))
 rw [<- tD];unfold bj at h ⊢;by_cases hm:nodes<1∨8<nodes∨16<ps.length
 ·rw [if_pos hm] at h;exact absurd h (by decide)
 ·rw [if_neg hm] at h ⊢;exact key ps 0 (fun p hp=>rg h p hp)
theorem CU (b:Nat) (q:Rat) (L:Nat) (w:World) (h:RV w b q L):Calls Tryz.prog 19 #[.pointer (some ⟨b,0,none⟩)] w fun e w'=>e=.returned (.int .i64 (vT q.num))/\w'=w:=by
 rcases h with h | ⟨rfl,h⟩
 ·exact pH b q.num L w h.1
 ·exact pH b 0 L w h.1
theorem yd {l:List Int} {i:Nat} {v x:Int} (h:x∈l.set i v):x∈l∨x=v:=List.mem_or_eq_of_mem_set h
theorem uj (m part:Nat) (T:List Nat) (css:List (List Int)) (hc:∀ i (h:i<css.length),∀ x∈css[i],-1<=x/\x<=1):∀ i,∀ x∈cO m part T css i,-1<=x/\x<=1:=by
 intro i;induction i with
 | zero =>
  intro x hx;have:=List.eq_of_mem_replicate hx;omega
 | succ i ih =>
  intro x hx;rcases yd hx with h | h
  ·exact ih x h
  ·have hy:∀ l:List Int,(∀ x∈l,-1<=x/\x<=1)->-1<=l.getD part 0/\l.getD part 0<=1:=by
    intro l hl;rw [List.getD_eq_getElem?_getD];by_cases e:part<l.length
    ·rw [List.getElem?_eq_getElem e];exact hl _ (List.getElem_mem e)
    ·rw [List.getElem?_eq_none (by omega)];exact ⟨by decide,by decide⟩
   have h2:-1<=(css.getD i []).getD part 0/\(css.getD i []).getD part 0<=1:=by
    apply hy;rw [List.getD_eq_getElem?_getD];by_cases e:i<css.length
    ·rw [List.getElem?_eq_getElem e];exact hc i e
    ·rw [List.getElem?_eq_none (by omega)];intro x hx;cases hx
   omega
theorem loop_bd (E:List Pr) (m:Nat) (T:List Nat) (k:Nat) (l:List Int) (hl:l∈bK m T (bE E T) k):∀ x∈l,-1<=x/\x<=1:=by
 unfold bK at hl;obtain ⟨i,_,rfl⟩:=List.mem_map.1 hl;intro x hx;rcases yd hx with h | h
 ·exact uj _ _ _ _ (fun i h=>(mK E T i h).2) _ x h
 ·omega
theorem pI {a b c d:Rat} (h1:a<=b) (h2:c<=d):a+c<=b+d:=Rat.le_trans (Rat.add_le_add_right.2 h1) (Rat.add_le_add_left.2 h2)
theorem yB {f g:Nat->Rat} : ∀ k,(∀ i,i<k->f i<=g i)->bC f k<=bC g k
 | 0,_=>Rat.le_refl
 | k+1,h=>by
  rw [aP,aP];exact pI (yB k (fun i hi=>h i (by omega))) (h k (by omega))
theorem rat_sq (a:Rat):0<=a*a:=by
 rcases (Rat.le_total:(0:Rat)<=a∨a<=0) with h | h
 ·exact Rat.mul_nonneg h h
 ·have e:a*a=(-a)*(-a):=by grind
  rw [e];have h2:0<=-a:=by
   have:=Rat.neg_le_neg h;simpa using this
  exact Rat.mul_nonneg h2 h2
theorem thomson {R I d:Nat->Rat} {r:Nat} (hR:∀ k,k<r->0<=R k) (h0:bC (fun k=>R k*I k*d k) r=0) :
  bC (fun k=>R k*(I k*I k)) r<=bC (fun k=>R k*((I k+d k)*(I k+d k))) r:=by
 have h1:bC (fun k=>R k*(I k*I k)+2*(R k*I k*d k)) r<=bC (fun k=>R k*((I k+d k)*(I k+d k))) r:=by
  refine yB r (fun k hk=>?_);have h2:=Rat.mul_nonneg (hR k hk) (rat_sq (d k));have e:R k*((I k+d k)*(I k+d k))=R k*(I k*I k)+2*(R k*I k*d k)+R k*(d k*d k):=by grind
  show R k*(I k*I k)+2*(R k*I k*d k)<=R k*((I k+d k)*(I k+d k))
  rw [e];have h3:=pI (Rat.le_refl (a:=R k*(I k*I k)+2*(R k*I k*d k))) h2;rw [Rat.add_zero] at h3;exact h3
 rw [mu,mv,h0,Rat.mul_zero,Rat.add_zero] at h1;exact h1
def dO (ps:List aI) (i:Nat):List Nat:=(List.range i).filter fun j=>decide ((ps[j]?.map aI.kind)=some 1)
def cA (ps:List aI) (i:Nat):List aI:=(dO ps i).filterMap fun j=>ps[j]?
theorem kI (ps:List aI) (i:Nat) (h:i<ps.length):dO ps (i+1)=if ps[i].kind=1 then dO ps i++[i] else dO ps i:=by
 unfold dO;rw [List.range_succ,List.filter_append];by_cases e:ps[i].kind=1
 ·rw [if_pos e];simp [List.getElem?_eq_getElem h,e]
 ·rw [if_neg e];simp [List.getElem?_eq_getElem h,e]
theorem mY (ps:List aI) (i:Nat) (h:i<ps.length):cA ps (i+1)=if ps[i].kind=1 then cA ps i++[ps[i]] else cA ps i:=by
 unfold cA;rw [kI ps i h];by_cases e:ps[i].kind=1
 ·rw [if_pos e,if_pos e,List.filterMap_append];simp [List.getElem?_eq_getElem h]
 ·rw [if_neg e,if_neg e]
theorem CJ {ps:List aI} {i x:Nat} (h:x∈dO ps i) (hi:i<=ps.length):∃ hx:x<ps.length,ps[x].kind=1:=by
 unfold dO at h;obtain ⟨h1,h2⟩:=List.mem_filter.1 h;have hx:x<ps.length:=by have:=List.mem_range.1 h1;omega
 refine ⟨hx,?_⟩;simpa [List.getElem?_eq_getElem hx] using h2
theorem fg (ps:List aI):∀ i,i<=ps.length->(cA ps i).length=(dO ps i).length/\(dO ps i).length<=i/\∀ k x:Nat,(dO ps i)[k]? = some x->(cA ps i)[k]? = ps[x]?:=by
 intro i;induction i with
 | zero =>
  intro _;exact ⟨rfl,by simp [dO],fun k x h=>by simp [dO] at h⟩
 | succ i ih =>
  intro hi;obtain ⟨h1,h2,h3⟩:=ih (by omega);rw [kI ps i (by omega),mY ps i (by omega)];by_cases e:ps[i].kind=1
  ·rw [if_pos e,if_pos e];refine ⟨by simp [h1],by simp;omega,fun k x hk=>?_⟩;by_cases ek:k<(dO ps i).length
   ·rw [List.getElem?_append_left ek] at hk;rw [List.getElem?_append_left (by omega)];exact h3 k x hk
   ·rw [List.getElem?_append_right (by omega)] at hk;rw [List.getElem?_append_right (by omega),h1];by_cases ek2:k=(dO ps i).length
    ·rw [ek2,Nat.sub_self] at hk ⊢;simp at hk;subst hk;simp [List.getElem?_eq_getElem (show i<ps.length by omega)]
    ·rw [List.getElem?_eq_none (by simp;omega)] at hk;cases hk
  ·rw [if_neg e,if_neg e];exact ⟨h1,by omega,h3⟩
theorem kJ {ps:List aI} {k:Nat} (hk:k<(dO ps ps.length).length) (hk':k<(cA ps ps.length).length):∃ hx:(dO ps ps.length)[k]<ps.length,(cA ps ps.length)[k]=ps[(dO ps ps.length)[k]]/\ps[(dO ps ps.length)[k]].kind=1:=by
 obtain ⟨hx,hk1⟩:=CJ (List.getElem_mem hk) (Nat.le_refl _);refine ⟨hx,?_,hk1⟩;have:=(fg ps ps.length (Nat.le_refl _)).2.2 k _ (List.getElem?_eq_getElem hk);rw [List.getElem?_eq_getElem hk',List.getElem?_eq_getElem hx] at this;exact Option.some.inj this
theorem rE {n:Nat} {ps:List aI} (h:cm n ps) (hl:ps.length<=16):cm n (cA ps ps.length):=by
 obtain ⟨h1,h2,h3⟩:=fg ps ps.length (Nat.le_refl _);refine ⟨h.lo,h.hi,by omega,fun p hp=>?_⟩;obtain ⟨k,hk,rfl⟩:=List.mem_iff_getElem.1 hp;obtain ⟨hx,e,_⟩:=kJ (k:=k) (by omega) hk;rw [e];exact h.ends _ (List.getElem_mem hx)
theorem res_law {n:Nat} {ps:List aI} {V I:Nat->Rat} (h:aM n ps V I) (k:Nat) (hk:k<(dO ps ps.length).length) (hk':k<(cA ps ps.length).length) :
  acr (cA ps ps.length) V k=(cA ps ps.length)[k].q*I (dO ps ps.length)[k]:=by
 obtain ⟨hx,e,hk1⟩:=kJ hk hk';have hp:=h.part _ hx;rw [hk1] at hp;unfold acr;rw [List.getElem?_eq_getElem hk'];show V (cA ps ps.length)[k].a.toNat-V (cA ps ps.length)[k].b.toNat=_
 rw [e];simp only [dg,dh,dp,dV] at hp;grind
def l9 (vs:List ByteArray) (j:Nat):Rat:=match vs[j]? with | some v=>dN v.data.toList | none=>0
theorem Ca (vs:List ByteArray) (j:Nat) (h:j<vs.length):l9 vs j=dN vs[j].data.toList:=by
 unfold l9;rw [List.getElem?_eq_getElem h]
theorem wV (vs:List ByteArray) (j:Nat) (h:¬ j<vs.length):l9 vs j=0:=by
 unfold l9;rw [List.getElem?_eq_none (by omega)]
def mG (LL:List (List Int)) (vs:List ByteArray) (k j:Nat):Rat:=bC (fun i=>(((LL.getD i []).getD k 0:Int):Rat)*l9 vs i) j
theorem qM (LL:List (List Int)) (vs:List ByteArray) (k j:Nat):mG LL vs k (j+1)=mG LL vs k j+(((LL.getD j []).getD k 0:Int):Rat)*l9 vs j:=rfl
def mb (ps:List aI) (k:Nat):Rat:=match (cA ps ps.length)[k]? with | some p=>p.q | none=>0
def ft (ps:List aI) (I:Nat->Rat) (k:Nat):Rat:=I ((dO ps ps.length).getD k 0)
abbrev bJ (ps:List aI):List (List Int):=bK (cA ps ps.length).length (aE (aS (cA ps ps.length))) (bE (aS (cA ps ps.length)) (aE (aS (cA ps ps.length)))) (cA ps ps.length).length
theorem q_above {v:ByteArray} (h:0<pR v):0<=dN v.data.toList:=by
 unfold pR at h;rw [Ch] at h;unfold mj rB at h;by_cases hn:(dN v.data.toList).num<0
 ·simp [hn] at h
 ·exact Rat.num_nonneg.1 (by omega)
theorem Ar {nodes:Int} {ps:List aI} (h:∀ p∈ps,xL p nodes) (k:Nat):0<=mb ps k:=by
 unfold mb;obtain ⟨h1,h2,h3⟩:=fg ps ps.length (Nat.le_refl _);by_cases hk:k<(cA ps ps.length).length
 ·obtain ⟨hx,e,hk1⟩:=kJ (k:=k) (by omega) hk;rw [List.getElem?_eq_getElem hk];show 0<=((cA ps ps.length)[k]).q
  rw [e];exact q_above ((h _ (List.getElem_mem hx)).pos (by omega))
 ·rw [List.getElem?_eq_none (by omega)];exact Rat.le_refl
theorem CK {n:Nat} {ps:List aI} (hR:cm n ps) (hl:ps.length<=16) {V I:Nat->Rat} (h:aM n ps V I) (vs:List ByteArray) (J:Nat) (hJ:J<=(bJ ps).length) :
  bC (fun k=>mb ps k*ft ps I k*mG (bJ ps) vs k J) (cA ps ps.length).length=0:=by
 obtain ⟨h1,h2,h3⟩:=fg ps ps.length (Nat.le_refl _);have hQ:=rE hR hl;have e1:∀ k,k<(cA ps ps.length).length->mb ps k*ft ps I k=acr (cA ps ps.length) V k:=by
  intro k hk;rw [res_law h k (by omega) hk];unfold mb ft;rw [List.getElem?_eq_getElem hk,List.getD_eq_getElem?_getD,List.getElem?_eq_getElem (by omega)];rfl
 have e2:bC (fun k=>mb ps k*ft ps I k*mG (bJ ps) vs k J) (cA ps ps.length).length
   = bC (fun k=>bC (fun i=>l9 vs i*((((bJ ps).getD i []).getD k 0:Int)*acr (cA ps ps.length) V k)) J) (cA ps ps.length).length:=by
  refine dK _ _ _ (fun k hk=>?_);rw [e1 k hk];unfold mG;rw [<- mv];exact dK _ _ _ (fun i _=>by grind)
 rw [e2,AA];refine rK _ _ (fun i hi=>?_);rw [mv];have hm:(bJ ps).getD i []∈bJ ps:=by
  rw [List.getD_eq_getElem?_getD,List.getElem?_eq_getElem (by omega)];exact List.getElem_mem _
 rw [(uk hQ V _ hm).2,Rat.mul_zero]
theorem BV {n:Nat} {nodes:Int} {ps:List aI} (hR:cm n ps) (hl:ps.length<=16) (hF:∀ p∈ps,xL p nodes) {V I:Nat->Rat} (h:aM n ps V I) (vs:List ByteArray) :
  bC (fun k=>mb ps k*(ft ps I k*ft ps I k)) (cA ps ps.length).length<=bC (fun k=>mb ps k*((ft ps I k+mG (bJ ps) vs k (bJ ps).length)*(ft ps I k+mG (bJ ps) vs k (bJ ps).length))) (cA ps ps.length).length :=
 thomson (fun k _=>Ar hF k) (CK hR hl h vs _ (Nat.le_refl _))
theorem za {nodes:Int} {ps:List aI} (h:(bj false nodes ps).1=0):bV nodes (cA ps ps.length)=(0,0):=by
 have h0:(bV nodes ps).1=0:=by rw [v7 h]
 have key:∀ (qs:List aI) (k:Nat),(∀ p∈qs,di p nodes=0)->cd nodes qs k=(0,0):=by
  intro qs;induction qs with
  | nil=>intro k _;rfl
  | cons p r ih =>
   intro k hp;rw [cd,if_pos (hp p (by simp))];exact ih (k+1) (fun q hq=>hp q (by simp [hq]))
 obtain ⟨h1,h2,h3⟩:=fg ps ps.length (Nat.le_refl _);unfold bV at h0 ⊢;by_cases hm:nodes<1∨8<nodes∨16<ps.length
 ·rw [if_pos hm] at h0;exact absurd h0 (by decide)
 ·rw [if_neg hm] at h0;rw [if_neg (by omega)];refine key _ 0 (fun p hp=>?_);obtain ⟨k,hk,rfl⟩:=List.mem_iff_getElem.1 hp;obtain ⟨hx,e,_⟩:=kJ (k:=k) (by omega) hk;rw [e];exact tU h0 _ (List.getElem_mem hx)
def LpsA (w:World) (nodes:Int) (ps:List aI) (e:Ending) (w':World):Prop :=
 ∃ (v:Value) (c1 c2:Int),e=.returned (.tuple #[v,.agg #[.int .i64 c1,.int .i64 c2]])/\w.grownBy w' none
  /\ (∃ ao l cap,v=.slice ao l cap)/\(bV nodes ps=(0,0)->c1=0/\c2=0/\oK w' v (bK ps.length (aE (aS ps)) (bE (aS ps) (aE (aS ps))) ps.length))
theorem zM (nodes:Int) (pv:Value) (ps:List aI) (w:World) (hb:ia w) (hp:aK w pv ps) :
  Calls Tryz.prog 7 #[.agg #[.int .i64 nodes,pv]] w fun e w'=>LpsA w nodes ps e w':=by
 by_cases hc:(bV nodes ps).1=0
 ·obtain ⟨hG,hC⟩:=good_of hc;refine (BY nodes pv ps _ w hb hp hG hC).mono ?_;rintro e w' ⟨v,rfl,h1,h2⟩;refine ⟨v,0,0,rfl,h2,?_,fun _=>⟨rfl,rfl,h1⟩⟩;obtain ⟨vals,⟨ao,cap,ev,_⟩,_⟩:=h1;exact ⟨ao,_,cap,ev⟩
 ·refine (zN nodes pv ps w hb hp hc).mono ?_;rintro e w' ⟨rfl,h2⟩;exact ⟨_,_,_,rfl,h2,⟨_,_,_,rfl⟩,fun h=>absurd (by rw [h]) hc⟩
theorem Cz (q:Rat) (K:Nat) (m:Int) (w:World) (hK:2<=K) (hf:yJ q K) (hl:K<=40000000) (hml:w.cell? ⟨1,0,none⟩=some (.int .i64 m)) :
  Calls Tryz.prog 8 #[.string ⟨(cP q).toArray⟩] w fun e w'=>∃ b,e=.returned (.pointer (some ⟨b,0,none⟩))/\w.grownBy w' none/\w.heap.size<=b/\RV w' b q K:=by
 have hlen:=An hf (by omega);refine (sI ⟨(cP q).toArray⟩ m w (by show (cP q).toArray.size<=_;simp;omega) hml).mono ?_;rintro e w' ⟨b,rfl,g,g2,h⟩;refine ⟨b,rfl,g,g2,?_⟩;have e0:dN (⟨(cP q).toArray⟩:ByteArray).data.toList=q:=Ad q;rw [e0] at h;rcases h with h | ⟨h0,h⟩
 ·exact .inl ⟨h.1.tight hf.1,h.2.1.tight hf.2,h.2.2⟩
 ·subst h0;exact .inr ⟨rfl,h.1.tight hf.1,h.2.tight hf.1⟩
theorem yq (v:ByteArray) (K:Nat) (m:Int) (w:World) (hv:v.size<=1000000000) (hK:3*v.size+8<=K) (hml:w.cell? ⟨1,0,none⟩=some (.int .i64 m)) :
  Calls Tryz.prog 8 #[.string v] w fun e w'=>∃ b,e=.returned (.pointer (some ⟨b,0,none⟩))/\w.grownBy w' none/\w.heap.size<=b/\RV w' b (dN v.data.toList) K:=by
 refine (sI v m w hv hml).mono ?_;rintro e w' ⟨b,rfl,g,g2,h⟩;exact ⟨b,rfl,g,g2,RV.mono (L:=3*v.size+8) h hK⟩
theorem bB.both {w w':World} {bx bz K M:Nat} {p q:Rat} (r:bB w w' bx) (hx:RV w bx p K) (vx:nT w bx) (hz:RV w bz q M) (vz:nT w bz) (hne:bz≠bx):RV w' bz q M/\nT w' bx/\nT w' bz :=
 ⟨hz.keepV r.gr (hx.noW vx) hne,fun o h4=>(r.rest hx.lt o h4).trans (vx o h4),vz.keep hz.lt r.gr (fun e=>hne (Option.some.inj e))⟩
theorem bB.other {w w':World} {bx b K M:Nat} {p q:Rat} (r:bB w w' bx) (hx:RV w bx p K) (vx:nT w bx) (hz:RV w b q M) (hne:b≠bx):RV w' b q M:=hz.keepV r.gr (hx.noW vx) hne
end Go.Proofs.YthblidglcppakaaGreatDoor
