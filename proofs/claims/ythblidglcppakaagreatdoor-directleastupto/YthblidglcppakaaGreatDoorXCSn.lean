/- Contracts that the proof leans on. -/
import Derived.Test.YthblidglcppakaaGreatDoorXCSc
import Derived.Laws.AppendOwn
import Derived.Test.YthblidglcppakaaGreatDoorXCNc
import Derived.Test.YthblidglcppakaaGreatDoorXSSolve
import Derived.Test.YthblidglcppakaaGreatDoorXSNode
import Derived.Test.YthblidglcppakaaGreatDoorXSLawF
namespace Go.Proofs.YthblidglcppakaaGreatDoor
open Go.RowKit
set_option linter.unusedVariables false
set_option linter.unusedSimpArgs false
set_option maxHeartbeats 8000000
set_option maxRecDepth 10000
theorem pO {P:Program} (w:World) (base:Nat) (t ty e:TypeId) (i:TypeInfo) (z:Value) (size bytes:Nat) (ht:P.underlying t=some (.slice e)) (hi:P.info? e=some i) (hz:i.zero=some z)
  (hsize:i.size=size) (hby:i.bytes=bytes) (hzs:z.cells.size=size) (hs0:0<size) (hz1:∀ j (x:Nat),j<size->z.cells[j]!≠.int .u32 (x:Nat))
  (v:Value) (n:Nat) (xs:List Value) (hown:w.ownsRow base e size v n xs) (hnw:nS w v) (hxs:∀ u∈xs,∀ x:Nat,u≠.int .u32 (x:Nat))
  (a:Addr) (m c:Nat) (news:List Value) (hl:news.length=m*size) (hm:0<m) (hnews:∀ j u,news[j]? = some u->w.cell? (a.add j)=some u) (h1':∀ u∈news,u.oneCell'=true) (hyw:∀ u∈news,∀ x:Nat,u≠.int .u32 (x:Nat))
  (h63:n+m<=maxLen) (hbytes:(n+m)*bytes<=140737488355328) (hbase:base<=w.heap.size) :
  ∃ v' w',(Builtin.append_ #[t,t] ty #[v,.slice (some a) m c]).run P w=.ok v' w'/\w'.ownsRow base e size v' (n+m) (xs++news)/\w.grownBy w' v.ownBlock/\nS w' v'/\aW w w':=by
 obtain ⟨v',w',hr,h2,h3,_⟩:=run_append_own (P:=P) w base t ty e i z size bytes ht hi hz hsize hby hzs hs0 v n xs hown a m c news hl hnews h1' h63 hbytes hbase;refine ⟨v',w',hr,h2,h3,?_⟩;have hsmall:n+m<=9223372036854775807:=by simp only [maxLen] at h63;omega
 have fresh:∀ cur:Array Value,(∀ u∈cur.toList,∀ x:Nat,u≠.int .u32 (x:Nat))->∀ c2,w'=w.drew.alloc (.cells cur e)->v'=.slice (some ⟨w.heap.size,0,none⟩) (n+m) c2->nS w' v'/\aW w w':=by
  intro cur hc c2 ew ev;have hgr:w.grownBy w' none:=by rw [ew];exact ⟨rfl,rfl,rfl,by simp,fun k hk _=>heap_alloc_old w.drew _ hk⟩
  refine ⟨fun k ek=>?_,aW.of_gr hgr⟩;rw [ev] at ek;simp only [Value.ownBlock,Option.some.injEq] at ek;subst ek;exact AJ.cells (by rw [ew];exact heap_alloc_new w.drew _) hc
 have hzc:∀ k,∀ u∈(Builtin.zeroCells z.cells k).toList,∀ x:Nat,u≠.int .u32 (x:Nat):=by
  intro k u hu x;unfold Builtin.zeroCells at hu;simp only [Array.toList_map,List.mem_map] at hu;obtain ⟨j,_,rfl⟩:=hu;rw [hzs];exact hz1 _ x (Nat.mod_lt _ hs0)
 rcases hown.2 with ⟨rfl,rfl⟩ | ⟨g,cap,cur,rfl,hbg,hg,hnc,hcm,hcs,htake⟩
 ·have hr2:=run_append_nil (P:=P) w t ty e i z ht hi hz a m c news (by rw [hsize];exact hl) hnews hm (by omega) (by rw [hby];rw [Nat.zero_add] at hbytes;omega);rw [hr2] at hr;injection hr with e1 e2
  refine fresh _ ?_ (grownCap w m 0 e) e2.symm (by rw [Nat.zero_add];exact e1.symm);intro u hu;simp only [Array.toList_append,List.mem_append] at hu;rcases hu with hu | hu
  ·exact hyw u (by simpa using hu)
  ·exact hzc _ u hu
 ·by_cases hroom:n+m<=cap
  ·have hfit:n*i.size+news.length<=cur.size:=by
    rw [hsize,hcs,hl,<- Nat.add_mul];exact Nat.mul_le_mul_right _ hroom
   have hr2:=run_append_room (P:=P) w t ty e i ht hi g n cap cur hg a m c news (by rw [hsize];exact hl) hnews h1' hroom hfit;rw [hr2] at hr;injection hr with e1 e2
   have hw:=hnw g rfl;have hnew:=setRow_heap w g cur ((cur.toList.take (n*i.size)++news++cur.toList.drop (n*i.size+news.length)).toArray) e _ hg;refine ⟨fun k ek=>?_,⟨h3.size,fun ad x ex=>?_⟩⟩
   ·rw [<- e1] at ek;simp only [Value.ownBlock,Option.some.injEq] at ek;subst ek;rw [<- e2];refine AJ.cells hnew ?_;intro u hu x;simp only [List.mem_append] at hu;rcases hu with (hu | hu) | hu
    ·exact hw.all hg u (List.mem_of_mem_take hu) x
    ·exact hyw u hu x
    ·exact hw.all hg u (List.mem_of_mem_drop hu) x
   ·have hne:ad.block≠g:=fun e3=>by
     obtain ⟨b,i,f⟩:=ad;simp only at e3;subst e3;exact hw i f x ex
    rw [World.cell?_of_block (h3.block ad.block (cV ex) (fun e3=>hne (by simp only [Value.ownBlock,Option.some.injEq] at e3;exact e3)))];exact ex
  ·have holds:∀ j u,xs[j]? = some u->w.cell? ((⟨g,0,none⟩:Addr).add j)=some u:=hown.cells (g:=g) rfl;have hr2:=run_append_grow (P:=P) w t ty e i z ht hi hz ⟨g,0,none⟩ n cap xs (by rw [hsize];exact hown.1) holds a m c news (by rw [hsize];exact hl) hnews (by omega) (by omega) (growslice_fits (by omega) (by rw [hby];exact hbytes));rw [hr2] at hr;injection hr with e1 e2
   refine fresh _ ?_ _ e2.symm e1.symm;intro u hu;simp only [Array.toList_append,List.mem_append] at hu;rcases hu with (hu | hu) | hu
   ·exact hxs u (by simpa using hu)
   ·exact hyw u (by simpa using hu)
   ·exact hzc _ u hu
def fy (w:World) (xs:List Value) (n:Nat) (R:Nat->Rat) (L:Nat):Prop :=
 xs.length=n*3/\∀ i,i<n->∃ uo ul uc do_ dl dc,xs[i*3]? = some (.bool (rB (R i)))/\xs[i*3+1]? = some (.slice uo ul uc)/\xs[i*3+2]? = some (.slice do_ dl dc)/\FQ w (.agg #[.bool (rB (R i)),.slice uo ul uc,.slice do_ dl dc]) (R i) L
theorem fy.kept {w w':World} {xs:List Value} {n:Nat} {R:Nat->Rat} {L:Nat} (h:fy w xs n R L) (k:aW w w'):fy w' xs n R L:=by
 refine ⟨h.1,fun i hi=>?_⟩;obtain ⟨uo,ul,uc,do_,dl,dc,c0,c1,c2,c3⟩:=h.2 i hi;exact ⟨uo,ul,uc,do_,dl,dc,c0,c1,c2,c3.kept k⟩
theorem fy.mem {w:World} {xs:List Value} {n:Nat} {R:Nat->Rat} {L:Nat} (h:fy w xs n R L):∀ u∈xs,u.oneCell'=true/\∀ x:Nat,u≠.int .u32 (x:Nat):=by
 intro u hu;obtain ⟨j,hj⟩:=List.mem_iff_getElem?.1 hu;have hjl:j<n*3:=by have:=(List.getElem?_eq_some_iff.1 hj).1;rw [h.1] at this;exact this
 obtain ⟨uo,ul,uc,do_,dl,dc,c0,c1,c2,c3⟩:=h.2 (j / 3) (by omega);have hcase:j=j / 3*3∨j=j / 3*3+1∨j=j / 3*3+2:=by omega
 rcases hcase with e | e | e
 ·rw [e,c0] at hj;rw [<- Option.some.inj hj];exact ⟨rfl,fun x e=>by cases e⟩
 ·rw [e,c1] at hj;rw [<- Option.some.inj hj];exact ⟨rfl,fun x e=>by cases e⟩
 ·rw [e,c2] at hj;rw [<- Option.some.inj hj];exact ⟨rfl,fun x e=>by cases e⟩
theorem fy.append {w:World} {xs ys:List Value} {n m:Nat} {R S:Nat->Rat} {L:Nat} (h:fy w xs n R L) (k:fy w ys m S L):fy w (xs++ys) (n+m) (fun i=>if i<n then R i else S (i-n)) L:=by
 refine ⟨by rw [List.length_append,h.1,k.1,Nat.add_mul],fun i hi=>?_⟩;by_cases hn:i<n
 ·simp only [if_pos hn];obtain ⟨uo,ul,uc,do_,dl,dc,c0,c1,c2,c3⟩:=h.2 i hn;have:=h.1;exact ⟨uo,ul,uc,do_,dl,dc,by rw [List.getElem?_append_left (by omega)];exact c0,by rw [List.getElem?_append_left (by omega)];exact c1,by rw [List.getElem?_append_left (by omega)];exact c2,c3⟩
 ·simp only [if_neg hn];obtain ⟨uo,ul,uc,do_,dl,dc,c0,c1,c2,c3⟩:=k.2 (i-n) (by omega);have:=h.1;exact ⟨uo,ul,uc,do_,dl,dc,by rw [List.getElem?_append_right (by omega),show i*3-xs.length=(i-n)*3 by omega];exact c0,by rw [List.getElem?_append_right (by omega),show i*3+1-xs.length=(i-n)*3+1 by omega];exact c1,by rw [List.getElem?_append_right (by omega),show i*3+2-xs.length=(i-n)*3+2 by omega];exact c2,c3⟩
def LwAt (w:World) (v:Value) (k:Nat) (R:Nat->Rat) (L:Nat):Prop :=
 ∃ ao cap,v=.slice ao k cap/\k<=cap/\cap<=maxLen/\∀ i,i<k->∃ g,ao=some ⟨g,0,none⟩/\g<w.heap.size/\∃ o0 l0 c0 o1 l1 c1 o2 l2 c2 o3 l3 c3 o4 l4 c4 o5 l5 c5 o6 l6 c6 o7 l7 c7,(w.cell? ⟨g,i*12,none⟩=some (.bool (rB (R (i*4))))/\w.cell? ⟨g,i*12+1,none⟩=some (.slice o0 l0 c0)/\w.cell? ⟨g,i*12+2,none⟩=some (.slice o1 l1 c1)/\w.cell? ⟨g,i*12+3,none⟩=some (.bool (rB (R (i*4+1))))/\w.cell? ⟨g,i*12+4,none⟩=some (.slice o2 l2 c2)/\w.cell? ⟨g,i*12+5,none⟩=some (.slice o3 l3 c3)/\w.cell? ⟨g,i*12+6,none⟩=some (.bool (rB (R (i*4+2))))/\w.cell? ⟨g,i*12+7,none⟩=some (.slice o4 l4 c4)/\w.cell? ⟨g,i*12+8,none⟩=some (.slice o5 l5 c5)/\w.cell? ⟨g,i*12+9,none⟩=some (.bool (rB (R (i*4+3))))/\w.cell? ⟨g,i*12+10,none⟩=some (.slice o6 l6 c6)/\w.cell? ⟨g,i*12+11,none⟩=some (.slice o7 l7 c7))/\FQ w (.agg #[.bool (rB (R (i*4))),.slice o0 l0 c0,.slice o1 l1 c1]) (R (i*4)) L/\FQ w (.agg #[.bool (rB (R (i*4+1))),.slice o2 l2 c2,.slice o3 l3 c3]) (R (i*4+1)) L/\FQ w (.agg #[.bool (rB (R (i*4+2))),.slice o4 l4 c4,.slice o5 l5 c5]) (R (i*4+2)) L/\FQ w (.agg #[.bool (rB (R (i*4+3))),.slice o6 l6 c6,.slice o7 l7 c7]) (R (i*4+3)) L
def fq (w:World) (base:Nat) (v:Value) (k:Nat) (R:Nat->Rat) (L:Nat):Prop :=
 ∃ xs,w.ownsRow base 151 12 v k xs/\nS w v/\fy w xs (k*4) R L
theorem Af {w:World} {base:Nat} {R:Nat->Rat} {L:Nat} : fq w base (.slice none 0 0) 0 R L:=⟨[],⟨rfl,.inl ⟨rfl,rfl⟩⟩,nS.nil _,rfl,fun i h=>by omega⟩
theorem fq.shape {w:World} {base:Nat} {v:Value} {k:Nat} {R:Nat->Rat} {L:Nat} (h:fq w base v k R L):∃ ao c,v=.slice ao k c:=by
 obtain ⟨xs,h1,h2,h3⟩:=h;rcases h1.2 with ⟨rfl,rfl⟩ | ⟨g,cap,cur,rfl,_⟩
 ·exact ⟨_,_,rfl⟩
 ·exact ⟨_,_,rfl⟩
theorem fq.fresh {w:World} {base:Nat} {v:Value} {k:Nat} {R:Nat->Rat} {L:Nat} (h:fq w base v k R L) (b:Nat) (hb:v.ownBlock=some b):base<=b/\b<w.heap.size:=by
 obtain ⟨xs,h1,h2,h3⟩:=h;rcases h1.2 with ⟨rfl,rfl⟩ | ⟨g,cap,cur,rfl,hbg,hg,hnc,hcm,hcs,htake⟩
 ·simp [Value.ownBlock] at hb
 ·simp only [Value.ownBlock,Option.some.injEq] at hb;subst hb;exact ⟨hbg,(Array.getElem?_eq_some_iff.1 hg).1⟩
theorem fq.keep0 {w w':World} {base:Nat} {v:Value} {k:Nat} {R:Nat->Rat} {L:Nat} (h:fq w base v k R L) (hg:w.grownBy w' none):fq w' base v k R L:=by
 have hf:=h.fresh;obtain ⟨xs,h1,h2,h3⟩:=h;refine ⟨xs,⟨h1.1,?_⟩,fun k ek=>(h2 k ek).keep (hf k ek).2 hg (by simp),h3.kept (aW.of_gr hg)⟩;rcases h1.2 with h | ⟨g,cap,cur,rfl,hbg,hgg,rest⟩
 ·exact .inl h
 ·exact .inr ⟨g,cap,cur,rfl,hbg,by rw [hg.block g (hf g rfl).2 (by simp)];exact hgg,rest⟩
theorem fq.congr {w:World} {base:Nat} {v:Value} {k:Nat} {R R':Nat->Rat} {L:Nat} (h:fq w base v k R L) (e:∀ i,i<k*4->R i=R' i):fq w base v k R' L:=by
 obtain ⟨xs,h1,h2,h3⟩:=h;refine ⟨xs,h1,h2,h3.1,fun i hi=>?_⟩;rw [<- e i hi];exact h3.2 i hi
theorem fq.lw {w:World} {base:Nat} {v:Value} {k:Nat} {R:Nat->Rat} {L:Nat} (h:fq w base v k R L):LwAt w v k R L:=by
 obtain ⟨xs,h1,h2,h3⟩:=h;rcases h1.2 with ⟨rfl,rfl⟩ | ⟨g,cap,cur,rfl,hbg,hg,hnc,hcm,hcs,htake⟩
 ·exact ⟨none,0,rfl,Nat.le_refl _,by unfold maxLen;omega,fun i h=>by omega⟩
 ·refine ⟨_,cap,rfl,hnc,hcm,fun i hi=>⟨g,rfl,(Array.getElem?_eq_some_iff.1 hg).1,?_⟩⟩;have key:∀ j v,j<k*12->xs[j]? = some v->w.cell? ⟨g,j,none⟩=some v:=by
   intro j v hj hv;rw [<- htake,List.getElem?_take,if_pos hj,Array.getElem?_toList] at hv;simp only [World.cell?,hg];exact hv
  obtain ⟨o0,l0,c0,o1,l1,c1,a0,a1,a2,a3⟩:=h3.2 (i*4) (by omega);obtain ⟨o2,l2,c2,o3,l3,c3,b0,b1,b2,b3⟩:=h3.2 (i*4+1) (by omega);obtain ⟨o4,l4,c4,o5,l5,c5,d0,d1,d2,d3⟩:=h3.2 (i*4+2) (by omega);obtain ⟨o6,l6,c6,o7,l7,c7,e0,e1,e2,e3⟩:=h3.2 (i*4+3) (by omega);have m0:i*4*3=i*12:=by omega
  have m1:(i*4+1)*3=i*12+3:=by omega
  have m2:(i*4+2)*3=i*12+6:=by omega
  have m3:(i*4+3)*3=i*12+9:=by omega
  rw [m0] at a0 a1 a2;rw [m1] at b0 b1 b2;rw [m2] at d0 d1 d2;rw [m3] at e0 e1 e2;exact ⟨o0,l0,c0,o1,l1,c1,o2,l2,c2,o3,l3,c3,o4,l4,c4,o5,l5,c5,o6,l6,c6,o7,l7,c7,⟨key _ _ (by omega) a0,key _ _ (by omega) a1,key _ _ (by omega) a2,key _ _ (by omega) b0,key _ _ (by omega) b1,key _ _ (by omega) b2,key _ _ (by omega) d0,key _ _ (by omega) d1,key _ _ (by omega) d2,key _ _ (by omega) e0,key _ _ (by omega) e1,key _ _ (by omega) e2⟩,a3,b3,d3,e3⟩
def wT (R:Nat->Rat) (k:Nat) (a f l s:Rat):Nat->Rat:=fun i=>if i<k*4 then R i else if i=k*4 then a else if i=k*4+1 then f else if i=k*4+2 then l else s
theorem m9 {P:Program} (W:World) {ops:Array Oper} {rest:List Oper} {o:Oper} {a:Act} {Q:Exit->Act->World->Prop}
  (hg:o.guard=none) (s x:Operand) (t:TypeId) (ho:o.op=.call { callee:=.builtin .append,args:=#[s,x],argTypes:=#[t,t] }) (base:Nat)
  (h1:P.underlying t=some (.slice 151)) (hinfo:(P.info? 151).map (fun i=>(i.zero,i.size,i.bytes))=some (some (.agg #[.bool false,.slice none 0 0,.slice none 0 0,.bool false,.slice none 0 0,.slice none 0 0,.bool false,.slice none 0 0,.slice none 0 0,.bool false,.slice none 0 0,.slice none 0 0]),12,224))
  (v:Value) (k:Nat) (R:Nat->Rat) (L:Nat) (hs:a.eval s=v) (hown:fq W base v k R L) (b c:Nat) (hx:a.eval x=.slice (some ⟨b,0,none⟩) 1 c) (qa qf ql qs:Rat) (ys:List Value)
  (hy:∀ j u,ys[j]? = some u->W.cell? ⟨b,j,none⟩=some u) (hc:fy W ys 4 (fun i=>if i=0 then qa else if i=1 then qf else if i=2 then ql else qs) L)
  (hlen:k+1<=1000000) (hbase:base<=W.heap.size)
  (hK:∀ ao cap w',fq w' base (.slice ao (k+1) cap) (k+1) (wT R k qa qf ql qs) L->W.grownBy w' v.ownBlock->aW W w'->wpList P ops Q rest (a.put o.dst (.slice ao (k+1) cap)) w'):wpList P ops Q (o :: rest) a W:=by
 obtain ⟨i,hi,hz0,hsz,hz2⟩:=info_parts hinfo;obtain ⟨xs,o1,o2,o3⟩:=hown;obtain ⟨v',w',hr,h2,h3,h4,h5⟩:=pO (P:=P) W base t o.type 151 i _ 12 224 h1 hi hz0 hsz hz2 rfl (by decide)
  (fun j x hj=>by
   have hc:j=0∨j=1∨j=2∨j=3∨j=4∨j=5∨j=6∨j=7∨j=8∨j=9∨j=10∨j=11:=by omega
   rcases hc with rfl | rfl | rfl | rfl | rfl | rfl | rfl | rfl | rfl | rfl | rfl | rfl<;>(intro e;cases e))
  v k xs o1 o2 (fun u hu=>(o3.mem u hu).2) ⟨b,0,none⟩ 1 c ys hc.1 (by decide) (fun j u hj=>by rw [show (⟨b,0,none⟩:Addr).add j=⟨b,j,none⟩ from by unfold Addr.add;by_cases h:j=0<;>simp [h]];exact hy j u hj) (fun u hu=>(hc.mem u hu).1) (fun u hu=>(hc.mem u hu).2) (by unfold maxLen;omega) (by omega) hbase
 have h7:=(o3.kept h5).append (hc.kept h5);have e:(fun i=>if i<k*4 then R i else (fun i=>if i=0 then qa else if i=1 then qf else if i=2 then ql else qs) (i-k*4))=wT R k qa qf ql qs:=by
  funext i
  unfold wT;by_cases h:i<k*4
  ·rw [if_pos h,if_pos h]
  ·rw [if_neg h,if_neg h];have h0:i-k*4=0↔i=k*4:=by omega
   have h1:i-k*4=1↔i=k*4+1:=by omega
   have h2:i-k*4=2↔i=k*4+2:=by omega
   simp only [h0,h1,h2]
 have h8:fy w' (xs++ys) (k*4+4) (wT R k qa qf ql qs) L:=e▸h7;have h6:fq w' base v' (k+1) (wT R k qa qf ql qs) L:=⟨_,h2,h4,by rw [show (k+1)*4=k*4+4 by omega];exact h8⟩;obtain ⟨ao,cap,ev⟩:=h6.shape;refine wpList_plain hg fun _ hK2=>?_
 unfold Oper.wp execOp;simp only [ho,resolve,invoke,builtin,Sem.run_bind,Sem.run_pure,Result.andThen_ok,List.map_toArray,List.map_cons,List.map_nil,hs,hx,hr];rw [ev] at h6 ⊢;exact hK2 _ _ (hK ao cap w' h6 h3 h5)
attribute [local simp] jG dC kV lJ
def ke (n:Nat) (ps:List aI) (R:Nat->Rat):Nat->Nat->Rat:=fun r =>
 if r=0 then bg (fun _=>0) 0 1 else if r<n then dW n ps r else match ps[r-n]? with
  | some p=>k9 n (r-n) (n+ps.length+1) p.a.toNat p.b.toNat p.c.toNat p.d.toNat (R ((r-n)*4)) (R ((r-n)*4+1)) (R ((r-n)*4+2)) (R ((r-n)*4+3))
  | none=>fun _=>0
theorem xw {n:Nat} {ps:List aI} (R:Nat->Rat) {i xa xb xc xd:Nat} (hn:1<=n) (hi:i<ps.length) (ea:ps[i].a=(xa:Int)) (eb:ps[i].b=(xb:Int)) (ec:ps[i].c=(xc:Int)) (ed:ps[i].d=(xd:Int)) :
  k9 n i (n+ps.length+1) xa xb xc xd (R (i*4)) (R (i*4+1)) (R (i*4+2)) (R (i*4+3))=ke n ps R (n+i):=by
 unfold ke;rw [if_neg (by omega),if_neg (by omega),show n+i-n=i by omega,List.getElem?_eq_getElem hi];show _=k9 n i (n+ps.length+1) ps[i].a.toNat ps[i].b.toNat ps[i].c.toNat ps[i].d.toNat _ _ _ _
 rw [ea,eb,ec,ed];rfl
theorem wX (fb:Bool) (fo fo2:Option Addr) (fl fc fl2 fc2:Nat) (n j:Nat) (po:Option Addr) (pc:Nat) (ps:List aI) (Q:Nat->Rat) (L:Nat) (w:World) (h1:FQ w (.agg #[.bool fb,.slice fo fl fc,.slice fo2 fl2 fc2]) 1 L) (hp:aK w (.slice po ps.length pc) ps)
  (hj:j<n) (hn:n<=1000) (hk:ps.length<=1000) (hL1:1<=L) (hL:L<=100000000) :
  Calls Tryz.prog 141 #[(jI fb (.slice fo fl fc) (.slice fo2 fl2 fc2)),.agg #[.int .i64 ((n:Nat):Int),.slice po ps.length pc],.int .i64 ((j:Nat):Int)] w fun e w'=>oJ w (n+ps.length+1) (ke n ps Q j) L e w':=by
 by_cases h0:j=0
 ·subst h0;have:=sA fb fo fo2 fl fc fl2 fc2 n ps.length po pc L w h1 hn hk;unfold ke;rw [if_pos rfl];exact this
 ·have:=wY fb fo fo2 fl fc fl2 fc2 n j _ ps L w h1 hp hj h0 hn hk hL1 hL;unfold ke;rw [if_neg h0,if_pos hj];exact this
theorem bZ.low {w:World} {base base':Nat} {v:Value} {n:Nat} {R:Nat->Rat} {L:Nat} (h:bZ w base v n R L) (hb:base'<=base):bZ w base' v n R L:=by
 obtain ⟨ao,c,e,h1,h2,h3⟩:=h;refine ⟨ao,c,e,h1,h2,fun h0=>?_⟩;obtain ⟨b,e1,e2,e3⟩:=h3 h0;exact ⟨b,e1,Nat.le_trans hb e2,e3⟩
theorem lQ (g k n cap:Nat) (X:Nat->Rat) (L:Nat) (w:World) (h:aH w g k X L) (hnk:n<=k) (hn:n<=3000) (hc:n<=cap) (hm:cap<=maxLen) :
  Calls Tryz.prog 144 #[.slice (some ⟨g,0,none⟩) n cap] w fun e w'=>∃ v,e=.returned v/\bZ w' w.heap.size v n X L/\w.grownBy w' none:=by
 obtain ⟨xs,x1,x2,x3,x4⟩:=h.piece 0 n (by omega);refine ju g 0 n cap X L w xs x1 (fun j u hj=>?_) x3 (fun w' b cur e h1 h2 h3=>(x4 w' b cur e h1 h2 h3).congr (fun i _=>by rw [Nat.zero_add])) hn hc hm;have:=x2 j u hj;rw [Nat.zero_mul] at this;exact this
theorem rZ (g k n l cap:Nat) (X:Nat->Rat) (L:Nat) (w:World) (h:aH w g k X L) (hnk:n+l<=k) (hn:l<=3000) (hc:l<=cap) (hm:cap<=maxLen) :
  Calls Tryz.prog 144 #[.slice (some ⟨g,n*3,none⟩) l cap] w fun e w'=>∃ v,e=.returned v/\bZ w' w.heap.size v l (fun i=>X (n+i)) L/\w.grownBy w' none:=by
 obtain ⟨xs,x1,x2,x3,x4⟩:=h.piece n l hnk;exact ju g (n*3) l cap _ L w xs x1 x2 x3 x4 hn hc hm
theorem rY (b off:Nat) (X:Nat->Rat) (L:Nat) (w:World) :
  Calls Tryz.prog 144 #[.slice (some ⟨b,off,none⟩) 0 0] w fun e w'=>∃ v,e=.returned v/\bZ w' w.heap.size v 0 X L/\w.grownBy w' none :=
 ju b off 0 0 X L w [] rfl (fun j u h=>by simp at h) (fun u h=>by simp at h) (fun w' g cur e h1 h2 h3=>⟨cur,e,h2,fun i hi=>by omega⟩) (by omega) (by omega) (by unfold maxLen;omega)
def RulE (w:World) (n k:Nat) (M:Nat->Nat->Rat) (L:Nat) (e:Ending) (w':World):Prop :=
 (∃ v1 v2 X,e=.returned (.tuple #[v1,v2,.int .i64 0])/\bZ w' w.heap.size v1 n X L/\bZ w' w.heap.size v2 k (fun i=>X (n+i)) L/\mD M (n+k) X/\(∀ z,mD M (n+k) z->∀ j,j<n+k->z j=X j)/\w.grownBy w' none)
 ∨ (e=.returned (.tuple #[.slice none 0 0,.slice none 0 0,.int .i64 7])/\(¬ ∃ x,mD M (n+k) x)/\w.grownBy w' none)
 ∨ (e=.returned (.tuple #[.slice none 0 0,.slice none 0 0,.int .i64 8])/\(∃ x y:Nat->Rat,mD M (n+k) x/\mD M (n+k) y/\∃ j,j<n+k/\x j≠y j)/\w.grownBy w' none)
def RulR (W:World) (base k lo m:Nat) (M:Nat->Nat->Rat) (L:Nat) (v9 v:Value) (wr:World):Prop :=
 ∃ (i:Nat) (bs cs:Nat->Nat),i<=k/\v=.int .i64 i/\jH (lF (m+1)) 60 wr base v9 (fV bs cs (lo+i))/\rU wr base (m+1) (lo+i) bs cs M L/\W.grownBy wr none
theorem CQ (fb:Bool) (fo fo2:Option Addr) (fl fc fl2 fc2:Nat) (n:Nat) (po:Option Addr) (pc:Nat) (ps:List aI) (lv:Value) (R:Nat->Rat) (E:Nat->Nat) (L:Nat) (w:World)
  (h1:FQ w (.agg #[.bool fb,.slice fo fl fc,.slice fo2 fl2 fc2]) 1 L) (hp:aK w (.slice po ps.length pc) ps) (hR:cm n ps) (hl:LwAt w lv ps.length R L)
  (hP:∀ i,i<ps.length->∀ xa xb xc xd,bM L (0+R (i*4))/\bM L (bg (fun _=>0) xa (0+R (i*4)) xb-R (i*4))/\bM L (bg (bg (fun _=>0) xa (0+R (i*4))) xb (bg (fun _=>0) xa (0+R (i*4)) xb-R (i*4)) xc+R (i*4+2))
   /\ bM L (bg (bg (bg (fun _=>0) xa (0+R (i*4))) xb (bg (fun _=>0) xa (0+R (i*4)) xb-R (i*4))) xc (bg (bg (fun _=>0) xa (0+R (i*4))) xb (bg (fun _=>0) xa (0+R (i*4)) xb-R (i*4)) xc+R (i*4+2)) xd-R (i*4+2)))
  (hfit:∀ r,r<n+ps.length->∀ k j,bM L (cD (ke n ps R r) k j)) (hwh:∀ k r j,mF (4294967296^E r) (qj (ke n ps R) k r j)) (hLs:gw E (n+ps.length)<L) (hL:L<=49000000) :
  Calls Tryz.prog 108 #[(jI fb (.slice fo fl fc) (.slice fo2 fl2 fc2)),.agg #[.int .i64 ((n:Nat):Int),.slice po ps.length pc],lv] w fun e w'=>RulE w n ps.length (ke n ps R) L e w':=by
 have H1:=ab h1;have HP:=ab hp;have HR:=ab hR;have HPP:=ab hP;have HFI:=ab hfit;have HWH:=ab hwh;have HLS:=ab hLs;have hlo:=hR.lo;have hhi:=hR.hi;have hle:=hR.len;have hL1:1<=L:=by omega
 obtain ⟨lo_,lcap,rfl,hk1,hk2,hl3⟩:=hl;have HLC:=ab hl3;obtain ⟨M,hM⟩:∃ M,M=ke n ps R:=⟨_,rfl⟩;have HM:=ab hM;obtain ⟨m,hm⟩:∃ m,m=n+ps.length:=⟨_,rfl⟩;have HMM:=ab hm;have hm28:m<=28:=by omega
 have hmn:n<=m:=by omega
 rw [<- hM];unfold maxLen at hk2;clear h1 hp hR hP hfit hwh hLs hl3 hm hM;obtain ⟨W,hW⟩:∃ W,W=(w.alloc (Obj.cells #[.bool fb,.slice fo fl fc,.slice fo2 fl2 fc2,.func (.func 99) #[] #[],.func (.func 100) #[] #[],.func (.func 81) #[] #[],.func (.func 101) #[] #[],.func (.func 102) #[] #[],.func (.func 103) #[] #[],.func (.func 104) #[] #[],.func (.func 105) #[] #[]] 126)).alloc (Obj.cells #[.int .i64 ((n:Nat):Int),.slice po ps.length pc] 24):=⟨_,rfl⟩;have GW:Hid (w.grownBy W none):=by rw [hW];exact ag (ag (ae _ _) _) _
 have HWS:Hid (W.heap.size=w.heap.size+2):=by show _=_;rw [hW];simp
 have BASE:Hid (∀ wx,W.grownBy wx none->jG wx (w.heap.size)/\dC wx (w.heap.size) (.bool fb) (.slice fo fl fc) (.slice fo2 fl2 fc2)/\lJ wx (w.heap.size+1) (.int .i64 ((n:Nat):Int)) (.slice po ps.length pc)):=by
  intro wx hg;obtain ⟨f1,f2⟩:=mN fb fo fo2 fl fc fl2 fc2 (w:=W) (by rw [hW];exact ag (ae _ _) _);exact ⟨f1.k0 hg,f2.k0 hg,lJ.k0 (w:=W) (by rw [hW];exact ⟨by go_simp,by go_simp⟩) hg⟩
 have s0:=BASE.out W (ae _ _);go_enter Tryz.func108,Tryz.ntmps108
 go_upto_region 2 with fail;rw [<- hW];clear hW;go_wp2;go_loopw [9,16] (fun v9 v wr=>Hid (RulR W W.heap.size n 0 m M L v9 v wr)) (fun _ v _=>n-(intOf v).toNat)
 case atStart=>exact ⟨0,fun _=>0,fun _=>0,by omega,rfl,uG,rU.nil _ _ _ _ _ _ _,ae _ _⟩
 case round =>
  obtain ⟨i,bt,ct,hi,rfl,l1,l2,l3⟩:=hrel.out;rw [Nat.zero_add] at l1 l2;obtain ⟨oa,oc,rfl⟩:=l1.1.shape;rw [cJ] at l1 ⊢;have L1:=ab l1;have L2:=ab l2;have L3:=ab l3;clear l1 l2 l3 hrel s0;by_cases hlt:i<n
  ·have s0:=BASE.out wr L3.out;go_wp2_with fail;refine (wX fb fo fo2 fl fc fl2 fc2 n i po pc ps R L _ (H1.out.keep0 (aa GW.out L3.out)) (HP.out.keep (aa GW.out L3.out)) hlt (by omega) (by omega) hL1 (by omega)).mono ?_;rintro e w1 ⟨g,rfl,hg1,f1,g1⟩;rw [<- HMM.out] at f1 ⊢;rw [<- HM.out] at f1;have F1:=ab f1;have G1:=ab (aa L3.out g1);have O1:=ab (L1.out.keep0 g1);have O2:=ab (L2.out.keep0 g1);have HNE:Hid ((Value.slice oa i oc).ownBlock≠some g):=fun e=>by have:=(L1.out.1.fresh g e).2;omega
   have HNB:Hid (∀ j,j<i->bt j≠g):=fun j hj e=>by have:=(L2.out.row j hj).lt;omega
   have HGW:Hid (W.heap.size<=g):=by show _<=_;have:=L3.out.size;omega
   have HSZ:Hid (W.heap.size<=w1.heap.size):=G1.out.size;clear f1 g1 s0 L1 L2;go_wp2_with (at_builtin;refine gA (lF (m+1)) 60 (.slice none 0 0) 24 _ rfl _ _ 186 rfl W.heap.size Tryz.underlying186 Tryz.infoRow rfl (fun x=>by simp [Value.cells]) (fun u x=>by simp [lF]) (.slice oa (i) oc) (fV bt ct (i)) rfl (O1.out.keep0 (ag (ae _ _) _)) w1.heap.size (g,m+1) rfl (by go_simp;rfl) rfl (by rw [cJ];omega) (by omega) (by simp;have:=HSZ.out;omega) ?_)
   intro ao cap5 w5 hown hgr hkk;rw [cJ] at hown ⊢;have RA:=ab (iH (O1.out.keep0 (ag (ae w1 none) _)) (by omega) (O2.out.keep0 (ag (ae w1 none) _)) (Nat.le_refl _) (by unfold maxLen;omega) (F1.out.keep0 (ag (ae w1 none) _)) HGW.out HNB.out HNE.out hgr hkk hown);have HG:Hid (W.grownBy w5 none):=by
    refine aq (r:=none) (aa G1.out (ag (ae w1 none) _)) hgr (fun _ _ e=>e) (fun b hb e=>?_);have:=(O1.out.1.fresh b e.symm).1;omega
   clear hown hgr hkk;go_wp2;go_roundw
   case rel=>exact ⟨i+1,iX bt i g,iX ct i (m+1),by omega,by go_num,by rw [Nat.zero_add];exact RA.out.1,by rw [Nat.zero_add];exact RA.out.2,HG.out⟩
   case measure=>simp [intOf];omega
  ·obtain rfl:n=i:=by omega
   have s0:=BASE.out wr L3.out;go_wp2;go_loopw [9,29] (fun v9 v wr=>Hid (RulR W W.heap.size ps.length n m M L v9 v wr)) (fun _ v _=>ps.length-(intOf v).toNat)
   case atStart=>exact ⟨0,bt,ct,by omega,rfl,L1.out,L2.out,L3.out⟩
   case round =>
    clear L1 L2 L3 s0;obtain ⟨i,bt,ct,hi,rfl,l1,l2,l3⟩:=hrel.out;obtain ⟨oa,oc,rfl⟩:=l1.1.shape;rw [cJ] at l1 ⊢;have L1:=ab l1;have L2:=ab l2;have L3:=ab l3;clear l1 l2 l3 hrel;by_cases hlt:i<ps.length
    ·obtain ⟨gl,rfl,hgl,o0,l0,c0,o1,l1,c1,o2,l2,c2,o3,l3,c3,o4,l4,c4,o5,l5,c5,o6,l6,c6,o7,l7,c7,cc,f0,f1,f2,f3⟩:=HLC.out i hlt;obtain ⟨x0,x1,x2,x3,x4,x5,x6,x7,x8,x9,x10,x11⟩:=cc;have g0:=aa GW.out L3.out;have y0:=g0.cell x0 (by simp);have y1:=g0.cell x1 (by simp);have y2:=g0.cell x2 (by simp);have y3:=g0.cell x3 (by simp);have y4:=g0.cell x4 (by simp);have y5:=g0.cell x5 (by simp);have y6:=g0.cell x6 (by simp);have y7:=g0.cell x7 (by simp);have y8:=g0.cell x8 (by simp);have y9:=g0.cell x9 (by simp);have y10:=g0.cell x10 (by simp);have y11:=g0.cell x11 (by simp);have K0:=ab f0;have K1:=ab f1;have K2:=ab f2;have K3:=ab f3;clear x0 x1 x2 x3 x4 x5 x6 x7 x8 x9 x10 x11 f0 f1 f2 f3 g0;obtain ⟨xa,xb,xc,xd,ea,eb,ec,ed,ha,hb,hc,hd⟩:=HR.out.ends ps[i] (List.getElem_mem hlt);have EE:=ab (And.intro ea (And.intro eb (And.intro ec ed)));clear ea eb ec ed;have s0:=BASE.out wr L3.out;go_upto_region 10 with fail;obtain ⟨w2,hw2⟩:∃ w2,w2=wr.alloc (Obj.cells #[.bool (rB (R (i*4))),.slice o0 l0 c0,.slice o1 l1 c1,.bool (rB (R (i*4+1))),.slice o2 l2 c2,.slice o3 l3 c3,.bool (rB (R (i*4+2))),.slice o4 l4 c4,.slice o5 l5 c5,.bool (rB (R (i*4+3))),.slice o6 l6 c6,.slice o7 l7 c7] 151):=⟨_,rfl⟩;have G2:Hid (wr.grownBy w2 none):=by rw [hw2];exact ag (ae _ _) _
     have z0:w2.cell? ⟨wr.heap.size,0,none⟩=some (.bool (rB (R (i*4)))):=by rw [hw2];go_simp
     have z1:w2.cell? ⟨wr.heap.size,1,none⟩=some (.slice o0 l0 c0):=by rw [hw2];go_simp
     have z2:w2.cell? ⟨wr.heap.size,2,none⟩=some (.slice o1 l1 c1):=by rw [hw2];go_simp
     have z3:w2.cell? ⟨wr.heap.size,3,none⟩=some (.bool (rB (R (i*4+1)))):=by rw [hw2];go_simp
     have z4:w2.cell? ⟨wr.heap.size,4,none⟩=some (.slice o2 l2 c2):=by rw [hw2];go_simp
     have z5:w2.cell? ⟨wr.heap.size,5,none⟩=some (.slice o3 l3 c3):=by rw [hw2];go_simp
     have z6:w2.cell? ⟨wr.heap.size,6,none⟩=some (.bool (rB (R (i*4+2)))):=by rw [hw2];go_simp
     have z7:w2.cell? ⟨wr.heap.size,7,none⟩=some (.slice o4 l4 c4):=by rw [hw2];go_simp
     have z8:w2.cell? ⟨wr.heap.size,8,none⟩=some (.slice o5 l5 c5):=by rw [hw2];go_simp
     have z9:w2.cell? ⟨wr.heap.size,9,none⟩=some (.bool (rB (R (i*4+3)))):=by rw [hw2];go_simp
     have z10:w2.cell? ⟨wr.heap.size,10,none⟩=some (.slice o6 l6 c6):=by rw [hw2];go_simp
     have z11:w2.cell? ⟨wr.heap.size,11,none⟩=some (.slice o7 l7 c7):=by rw [hw2];go_simp
     rw [<- hw2];clear hw2 s0 y0 y1 y2 y3 y4 y5 y6 y7 y8 y9 y10 y11;have G3:=ab (aa L3.out G2.out);have GA:=ab (aa GW.out G3.out);have s0:=BASE.out w2 G3.out;go_wp2_with fail;refine (xg fb fo fo2 fl fc fl2 fc2 n i xa xb xc xd (.slice po ps.length pc) ps (R (i*4)) (R (i*4+1)) (R (i*4+2)) (R (i*4+3)) o0 o4 o6 o2 o1 o5 o7 o3 l0 c0 l1 c1 l4 c4 l5 c5 l6 c6 l7 c7 l2 c2 l3 c3 L w2 (HP.out.keep GA.out) hlt EE.out.1 EE.out.2.1 EE.out.2.2.1 EE.out.2.2.2 ha hb hc hd (K0.out.keep0 GA.out) (K1.out.keep0 GA.out) (K2.out.keep0 GA.out) (K3.out.keep0 GA.out) (by omega) (by omega) (by omega) (HPP.out i hlt xa xb xc xd).1 (HPP.out i hlt xa xb xc xd).2.1 (HPP.out i hlt xa xb xc xd).2.2.1 (HPP.out i hlt xa xb xc xd).2.2.2).mono ?_;rintro e w3 ⟨g,rfl,hg1,f1,g1⟩;rw [xw R hlo hlt EE.out.1 EE.out.2.1 EE.out.2.2.1 EE.out.2.2.2,<- HM.out,<- HMM.out] at f1;rw [<- HMM.out];have F1:=ab f1;have G1:=ab (aa G3.out g1);have GR:=aa G2.out g1;have O1:=ab (L1.out.keep0 GR);have O2:=ab (L2.out.keep0 GR);have hwl:wr.heap.size<=g:=Nat.le_trans G2.out.size hg1;have HNE:Hid ((Value.slice oa (n+i) oc).ownBlock≠some g):=fun e=>by have:=(L1.out.1.fresh g e).2;omega
     have HNB:Hid (∀ j,j<n+i->bt j≠g):=fun j hj e=>by have:=(L2.out.row j hj).lt;omega
     have HGW:Hid (W.heap.size<=g):=by show _<=_;have:=L3.out.size;omega
     have HSZ:Hid (W.heap.size<=w3.heap.size):=G1.out.size;clear f1 g1 GR s0 L1 L2 z0 z1 z2 z3 z4 z5 z6 z7 z8 z9 z10 z11;go_wp2_with (at_builtin;refine gA (lF (m+1)) 60 (.slice none 0 0) 24 _ rfl _ _ 186 rfl W.heap.size Tryz.underlying186 Tryz.infoRow rfl (fun x=>by simp [Value.cells]) (fun u x=>by simp [lF]) (.slice oa (n+i) oc) (fV bt ct (n+i)) rfl (O1.out.keep0 (ag (ae _ _) _)) w3.heap.size (g,m+1) rfl (by go_simp;rfl) rfl (by rw [cJ];omega) (by omega) (by simp;have:=HSZ.out;omega) ?_)
     intro ao cap5 w5 hown hgr hkk;rw [cJ] at hown ⊢;have RA:=ab (iH (O1.out.keep0 (ag (ae w3 none) _)) (by omega) (O2.out.keep0 (ag (ae w3 none) _)) (Nat.le_refl _) (by unfold maxLen;omega) (F1.out.keep0 (ag (ae w3 none) _)) HGW.out HNB.out HNE.out hgr hkk hown);have HG:Hid (W.grownBy w5 none):=by
      refine aq (r:=none) (aa G1.out (ag (ae w3 none) _)) hgr (fun _ _ e=>e) (fun b hb e=>?_);have:=(O1.out.1.fresh b e.symm).1;omega
     clear hown hgr hkk;go_wp2;go_roundw
     case rel=>exact ⟨i+1,iX bt (n+i) g,iX ct (n+i) (m+1),by omega,by go_num,RA.out.1,RA.out.2,HG.out⟩
     case measure=>simp [intOf];omega
    ·obtain rfl:ps.length=i:=by omega
     obtain ⟨br,cap2,e2,q1,q2,q3,q4⟩:=L1.out.mat (by omega) (by omega) L2.out;rw [HMM.out] at q4;simp only [Value.slice.injEq,true_and] at e2;obtain ⟨rfl,rfl⟩:=e2;have Q3:=ab q3;have Q4:=ab q4;have HMO:=most_lt (n+ps.length) L (by omega) E HLS.out;have HMO2:=ab HMO;clear q3 q4 HMO L1 L2;have s0:=BASE.out wr L3.out;go_wp2_with fail;refine (rows_at fb fo fo2 fl fc fl2 fc2 br (n+ps.length) oc bt ct M L (2*L+1) (fun r=>4294967296^E r) wr Q4.out (H1.out.keep0 (aa GW.out L3.out)) (by omega) (by omega) q2 Q3.out hL1 (by omega) (fun i hi k _ j _=>by rw [HM.out];exact HFI.out i hi k j) (fun r=>Nat.one_le_pow _ _ (by decide)) (fun r j=>by rw [HM.out];exact HWH.out _ r j) HMO2.out (most_sq _ L _ (by omega) HMO2.out) (by omega) (by omega)).mono ?_;rintro e w5 (⟨g,X,rfl,hg1,fX,gX,hs1,hs2⟩ | ⟨rfl,gX,hs1⟩ | ⟨rfl,gX,hs1⟩)
     ·have FX:=ab fX;have G5:=ab (aa L3.out gX);have HS1:=ab hs1;have HS2:=ab hs2;clear fX gX hs1 hs2 s0 hg1;have s11:=(BASE.out w5 G5.out).2.2.1;have CN:Hid (∀ wx,w5.grownBy wx none->wx.cell? ⟨w.heap.size+1,0,none⟩=some (.int .i64 ((n:Nat):Int))):=fun wx hg=>hg.cell s11 (by simp)
      have GG:w5.grownBy w5 none:=ae _ _;have hn0:(0:Int)<=(n:Int):=by omega
      have hn1:(n:Int)<=((n:Int)+(ps.length:Int)):=by omega
      have HSZ5:Hid (w.heap.size<=w5.heap.size):=(aa GW.out G5.out).size;by_cases hk0:ps.length=0
      ·have HK0:=ab hk0;have hcT:(n+ps.length=n)=True:=eq_true (by omega);go_wp2_with fail;go_region_held3 (fun w'=>w'.cell? ⟨w.heap.size+1,0,none⟩=some (.int .i64 ((n:Nat):Int))) (go_keep)
        (first | (go_at_call_of 144 (Value.slice (some ⟨g,0,none⟩) n n);refine (lQ g (n+ps.length) n _ X L _ (FX.out.keep0 (gx GG)) (by omega) (by omega) (by omega) (by unfold maxLen;omega)).mono ?_;rintro e wa ⟨va,rfl,pa,ga⟩;have pa:=pa.low (Nat.le_trans HSZ5.out GG.size);obtain ⟨aoa,cca,rfl,_⟩:=id pa;have KP:=aa (by first | exact aj _ | exact ah | exact ae _ _) ga;(try have pb:=pb.keep0 KP);clear KP;have GG:=aa (gx GG) ga;have cna:=CN.out wa GG) | (go_at_call 144;refine (rY g _ (fun i=>X (n+i)) L _).mono ?_;rintro e wb ⟨vb,rfl,pb,gb⟩;have pb:=pb.low (Nat.le_trans HSZ5.out GG.size);obtain ⟨aob,ccb,rfl,_⟩:=id pb;have KP:=aa (by first | exact aj _ | exact ah | exact ae _ _) gb;(try have pa:=pa.keep0 KP);clear KP;have GG:=aa (gx GG) gb;have cnb:=CN.out wb GG))
       all_goals
        have PA:=ab pa;have PB:=ab pb;have GF:=ab GG;clear pa pb GG;go_wp2;go_ret3
        exact .inl ⟨_,_,X,rfl,PA.out.keep0 (by first | exact ae _ _ | exact ah | exact aj _),(by rw [HK0.out];exact PB.out.keep0 (by first | exact ae _ _ | exact ah | exact aj _)),HS1.out,HS2.out,aa (aa GW.out G5.out) (by first | exact GF.out | exact aa GF.out ah)⟩
      ·have hcF:(n+ps.length=n)=False:=eq_false (by omega);go_wp2_with fail;go_region_held3 (fun w'=>w'.cell? ⟨w.heap.size+1,0,none⟩=some (.int .i64 ((n:Nat):Int))) (go_keep)
        (first | (go_at_call_of 144 (Value.slice (some ⟨g,0,none⟩) n (n+ps.length));refine (lQ g (n+ps.length) n _ X L _ (FX.out.keep0 (gx GG)) (by omega) (by omega) (by omega) (by unfold maxLen;omega)).mono ?_;rintro e wa ⟨va,rfl,pa,ga⟩;have pa:=pa.low (Nat.le_trans HSZ5.out GG.size);obtain ⟨aoa,cca,rfl,_⟩:=id pa;have KP:=aa (by first | exact aj _ | exact ah | exact ae _ _) ga;(try have pb:=pb.keep0 KP);clear KP;have GG:=aa (gx GG) ga;have cna:=CN.out wa GG) | (go_at_call 144;refine (rZ g (n+ps.length) n ps.length _ X L _ (FX.out.keep0 (gx GG)) (by omega) (by omega) (by omega) (by unfold maxLen;omega)).mono ?_;rintro e wb ⟨vb,rfl,pb,gb⟩;have pb:=pb.low (Nat.le_trans HSZ5.out GG.size);obtain ⟨aob,ccb,rfl,_⟩:=id pb;have KP:=aa (by first | exact aj _ | exact ah | exact ae _ _) gb;(try have pa:=pa.keep0 KP);clear KP;have GG:=aa (gx GG) gb;have cnb:=CN.out wb GG))
       all_goals
        have PA:=ab pa;have PB:=ab pb;have GF:=ab GG;clear pa pb GG;go_wp2;go_ret3
        exact .inl ⟨_,_,X,rfl,PA.out.keep0 (by first | exact ae _ _ | exact ah | exact aj _),PB.out.keep0 (by first | exact ae _ _ | exact ah | exact aj _),HS1.out,HS2.out,aa (aa GW.out G5.out) (by first | exact GF.out | exact aa GF.out ah)⟩
     ·have G5:=ab (aa L3.out gX);have HS1:=ab hs1;clear gX hs1 s0;go_wp2;go_ret3
      exact .inr (.inl ⟨rfl,HS1.out,aa GW.out G5.out⟩)
     ·have G5:=ab (aa L3.out gX);have HS1:=ab hs1;clear gX hs1 s0;go_wp2;go_ret3
      exact .inr (.inr ⟨rfl,HS1.out,aa GW.out G5.out⟩)
attribute [local simp] jG dC kV lJ
theorem dK (f g:Nat->Rat):∀ k,(∀ i,i<k->f i=g i)->bC f k=bC g k:=by
 intro k;induction k with
 | zero=>intro _;rfl
 | succ k ih=>intro h;rw [aP,aP,ih (fun i hi=>h i (by omega)),h k (by omega)]
theorem aM.congr {n:Nat} {ps:List aI} (hR:cm n ps) {V I V2 I2:Nat->Rat} (h:aM n ps V I) (hV:∀ j,j<n->V j=V2 j) (hI:∀ i,i<ps.length->I i=I2 i):aM n ps V2 I2:=by
 have hlo:=hR.lo;refine ⟨by rw [<- hV 0 (by omega)];exact h.gnd,fun r h0 hn=>?_,fun i hi=>?_⟩
 ·rw [<- h.node r h0 hn];exact dK _ _ _ (fun i hi=>by rw [hI i hi])
 ·obtain ⟨xa,xb,xc,xd,ea,eb,ec,ed,ha,hb,hc,hd⟩:=hR.ends ps[i] (List.getElem_mem hi);have:=h.part i hi;rw [hI i hi,hV _ (by rw [ea];simpa using ha),hV _ (by rw [eb];simpa using hb),hV _ (by rw [ec];simpa using hc),hV _ (by rw [ed];simpa using hd)] at this;exact this
theorem lH {n:Nat} {ps:List aI} (hR:cm n ps) {V I:Nat->Rat} (h:aM n ps V I):∃ x,mD (iR n ps) (n+ps.length) x/\(∀ j,j<n->x j=V j)/\∀ i,i<ps.length->x (n+i)=I i:=by
 have e1:∀ j,j<n->(fun j=>if j<n then V j else if j<n+ps.length then I (j-n) else -1:Nat->Rat) j=V j:=fun j hj=>by simp only;rw [if_pos hj]
 have e2:∀ i,i<ps.length->(fun j=>if j<n then V j else if j<n+ps.length then I (j-n) else -1:Nat->Rat) (n+i)=I i:=fun i hi=>by simp only;rw [if_neg (by omega),if_pos (by omega),show n+i-n=i by omega]
 refine ⟨fun j=>if j<n then V j else if j<n+ps.length then I (j-n) else -1,(kL hR _).2 ⟨?_,?_⟩,e1,e2⟩
 ·rw [if_neg (by omega),if_neg (by omega)]
 ·exact h.congr hR (fun j hj=>(e1 j hj).symm) (fun i hi=>(e2 i hi).symm)
def nU (ps:List aI):Nat->Rat:=fun j=>match ps[j / 4]? with
 | some p=>if j % 4=0 then dg p.kind p.q else if j % 4=1 then dp p.kind p.q else if j % 4=2 then dh p.kind p.q else dV p.kind p.q
 | none=>0
theorem sz {ps:List aI} {i:Nat} (hi:i<ps.length):nU ps (i*4)=dg ps[i].kind ps[i].q/\nU ps (i*4+1)=dp ps[i].kind ps[i].q/\nU ps (i*4+2)=dh ps[i].kind ps[i].q/\nU ps (i*4+3)=dV ps[i].kind ps[i].q:=by
 unfold nU;have h0:i*4 / 4=i:=by omega
 have h1:(i*4+1) / 4=i:=by omega
 have h2:(i*4+2) / 4=i:=by omega
 have h3:(i*4+3) / 4=i:=by omega
 have g0:i*4 % 4=0:=by omega
 have g1:(i*4+1) % 4=1:=by omega
 have g2:(i*4+2) % 4=2:=by omega
 have g3:(i*4+3) % 4=3:=by omega
 simp only [h0,h1,h2,h3,g0,g1,g2,g3,List.getElem?_eq_getElem hi];exact ⟨rfl,rfl,rfl,rfl⟩
theorem B8 {ps:List aI} {i:Nat} (hi:i<ps.length) (j:Nat) (hj:j<(i+1)*4):wT (nU ps) i (dg ps[i].kind ps[i].q) (dp ps[i].kind ps[i].q) (dh ps[i].kind ps[i].q) (dV ps[i].kind ps[i].q) j=nU ps j:=by
 obtain ⟨a0,a1,a2,a3⟩:=sz hi;unfold wT;by_cases h:j<i*4
 ·rw [if_pos h]
 ·rw [if_neg h];have hc:j=i*4∨j=i*4+1∨j=i*4+2∨j=i*4+3:=by omega
  rcases hc with rfl | rfl | rfl | rfl
  ·rw [if_pos rfl,a0]
  ·rw [if_neg (by omega),if_pos rfl,a1]
  ·rw [if_neg (by omega),if_neg (by omega),if_pos rfl,a2]
  ·rw [if_neg (by omega),if_neg (by omega),if_neg (by omega),a3]
theorem pN (n:Nat) (ps:List aI):ke n ps (nU ps)=iR n ps:=by
 funext r
 unfold ke iR;by_cases h0:r=0
 ·rw [if_pos h0,if_pos h0]
 ·rw [if_neg h0,if_neg h0];by_cases h1:r<n
  ·rw [if_pos h1,if_pos h1]
  ·rw [if_neg h1,if_neg h1];by_cases h2:r-n<ps.length
   ·obtain ⟨a0,a1,a2,a3⟩:=sz h2;rw [List.getElem?_eq_getElem h2];simp only [a0,a1,a2,a3];rfl
   ·rw [List.getElem?_eq_none (by omega)]
theorem tT {w:World} {qa qf ql qs:Rat} {L:Nat} {o0 o1 o2 o3 o4 o5 o6 o7:Option Addr} {l0 c0 l1 c1 l2 c2 l3 c3 l4 c4 l5 c5 l6 c6 l7 c7:Nat} (k1:FQ w (.agg #[.bool (rB qa),.slice o0 l0 c0,.slice o1 l1 c1]) qa L) (k2:FQ w (.agg #[.bool (rB qf),.slice o2 l2 c2,.slice o3 l3 c3]) qf L) (k3:FQ w (.agg #[.bool (rB ql),.slice o4 l4 c4,.slice o5 l5 c5]) ql L) (k4:FQ w (.agg #[.bool (rB qs),.slice o6 l6 c6,.slice o7 l7 c7]) qs L) :
  fy w [.bool (rB qa),.slice o0 l0 c0,.slice o1 l1 c1,.bool (rB qf),.slice o2 l2 c2,.slice o3 l3 c3,.bool (rB ql),.slice o4 l4 c4,.slice o5 l5 c5,.bool (rB qs),.slice o6 l6 c6,.slice o7 l7 c7] 4 (fun i=>if i=0 then qa else if i=1 then qf else if i=2 then ql else qs) L:=by
 refine ⟨rfl,fun i hi=>?_⟩;have hc:i=0∨i=1∨i=2∨i=3:=by omega
 rcases hc with rfl | rfl | rfl | rfl
 ·exact ⟨_,_,_,_,_,_,rfl,rfl,rfl,k1⟩
 ·exact ⟨_,_,_,_,_,_,rfl,rfl,rfl,k2⟩
 ·exact ⟨_,_,_,_,_,_,rfl,rfl,rfl,k3⟩
 ·exact ⟨_,_,_,_,_,_,rfl,rfl,rfl,k4⟩
theorem yY (w:World) (ys:List Value) (T:TypeId) (j:Nat) (u:Value) (h:ys[j]? = some u):(w.alloc (Obj.cells ys.toArray T)).cell? ⟨w.heap.size,j,none⟩=some u:=by
 simp only [World.cell?,heap_alloc_new];rw [List.getElem?_toArray];exact h
theorem Tryz.infoLaw:(Tryz.prog.info? 151).map (fun i=>(i.zero,i.size,i.bytes))=some (some (.agg #[.bool false,.slice none 0 0,.slice none 0 0,.bool false,.slice none 0 0,.slice none 0 0,.bool false,.slice none 0 0,.slice none 0 0,.bool false,.slice none 0 0,.slice none 0 0]),12,224):=by kernel_rfl
def NetE (w:World) (n:Nat) (ps:List aI) (L:Nat) (e:Ending) (w':World):Prop :=
 (∃ v1 v2 V I,e=.returned (.tuple #[v1,v2,.int .i64 0])/\bZ w' w.heap.size v1 n V L/\bZ w' w.heap.size v2 ps.length I L/\aM n ps V I/\(∀ V' I',aM n ps V' I'->(∀ j,j<n->V' j=V j)/\∀ i,i<ps.length->I' i=I i)/\w.grownBy w' none)
 ∨ (e=.returned (.tuple #[.slice none 0 0,.slice none 0 0,.int .i64 7])/\(¬ ∃ V I,aM n ps V I)/\w.grownBy w' none)
 ∨ (e=.returned (.tuple #[.slice none 0 0,.slice none 0 0,.int .i64 8])/\(∃ V I V' I',aM n ps V I/\aM n ps V' I'/\((∃ j,j<n/\V j≠V' j)∨∃ i,i<ps.length/\I i≠I' i))/\w.grownBy w' none)
def NetL (W:World) (base:Nat) (ps:List aI) (L:Nat) (v9 v:Value) (wr:World):Prop:=∃ i:Nat,i<=ps.length/\v=.int .i64 i/\fq wr base v9 i (nU ps) L/\W.grownBy wr none
theorem net_at (fb:Bool) (fo fo2:Option Addr) (fl fc fl2 fc2:Nat) (n:Nat) (po:Option Addr) (pc:Nat) (ps:List aI) (bf bop bs bz:Nat) (mm:Int) (L:Nat) (w:World) (hml:w.cell? ⟨1,0,none⟩=some (.int .i64 mm))
  (h1:FQ w (.agg #[.bool fb,.slice fo fl fc,.slice fo2 fl2 fc2]) 1 L) (hp:aK w (.slice po ps.length pc) ps) (hR:cm n ps) (hF:dC w bf (.bool fb) (.slice fo fl fc) (.slice fo2 fl2 fc2)/\jG w bf)
  (hop:w.cell? ⟨bop,0,none⟩=some (.func (.func 106) #[] #[.pointer (some ⟨bf,0,none⟩),.pointer (some ⟨bz,0,none⟩)])) (hs:dC w bs (.bool false) (.slice none 0 0) (.slice none 0 0)) (hz:dC w bz (.bool false) (.slice none 0 0) (.slice none 0 0)) (hLs:gw (dI n ps) (n+ps.length)<L) (hL:L<=49000000) :
  Calls Tryz.prog 79 #[(jI fb (.slice fo fl fc) (.slice fo2 fl2 fc2)),.agg #[.int .i64 ((n:Nat):Int),.slice po ps.length pc],.func (.func 107) #[] #[.pointer (some ⟨bf,0,none⟩),.pointer (some ⟨bop,0,none⟩),.pointer (some ⟨bs,0,none⟩)]] w fun e w'=>NetE w n ps L e w':=by
 have HML:=ab hml;have H1:=ab h1;have HP:=ab hp;have HR:=ab hR;have HF:=ab hF;have HOP:=ab hop;have HS:=ab hs;have HZ:=ab hz;have HLS:=ab hLs;have hlo:=hR.lo;have hhi:=hR.hi;have hle:=hR.len;obtain ⟨ao_,cap_,ep,hp1,hp2,hp3⟩:=hp;simp only [Value.slice.injEq,true_and] at ep;obtain ⟨rfl,rfl⟩:=ep;have HPC:=ab hp3;unfold maxLen at hp2;clear hml h1 hR hF hop hs hz hLs hp3;obtain ⟨W,hW⟩:∃ W,W=(w.alloc (Obj.cells #[.bool fb,.slice fo fl fc,.slice fo2 fl2 fc2,.func (.func 99) #[] #[],.func (.func 100) #[] #[],.func (.func 81) #[] #[],.func (.func 101) #[] #[],.func (.func 102) #[] #[],.func (.func 103) #[] #[],.func (.func 104) #[] #[],.func (.func 105) #[] #[]] 126)).alloc (Obj.cells #[.int .i64 ((n:Nat):Int),.slice po ps.length pc] 24):=⟨_,rfl⟩;have GW:Hid (w.grownBy W none):=by rw [hW];exact ag (ag (ae _ _) _) _
 have BASE:Hid (∀ wx,W.grownBy wx none->jG wx (w.heap.size)/\dC wx (w.heap.size) (.bool fb) (.slice fo fl fc) (.slice fo2 fl2 fc2)/\lJ wx (w.heap.size+1) (.int .i64 ((n:Nat):Int)) (.slice po ps.length pc)):=by
  intro wx hg;obtain ⟨f1,f2⟩:=mN fb fo fo2 fl fc fl2 fc2 (w:=W) (by rw [hW];exact ag (ae _ _) _);exact ⟨f1.k0 hg,f2.k0 hg,lJ.k0 (w:=W) (by rw [hW];exact ⟨by go_simp,by go_simp⟩) hg⟩
 have s0:=BASE.out W (ae _ _);go_enter Tryz.func79,Tryz.ntmps79
 go_upto_region 2 with fail;rw [<- hW];clear hW;go_wp2;go_loopw [9,15] (fun v9 v wr=>Hid (NetL W W.heap.size ps L v9 v wr)) (fun _ v _=>ps.length-(intOf v).toNat)
 case atStart=>exact ⟨0,by omega,rfl,Af,ae _ _⟩
 case round =>
  obtain ⟨i,hi,rfl,l1,l3⟩:=hrel.out;obtain ⟨oa,oc,rfl⟩:=l1.shape;have L1:=ab l1;have L3:=ab l3;clear l1 l3 hrel s0;by_cases hlt:i<ps.length
  ·obtain ⟨b,off,rfl,hb,c0,c1,c2,c3,c4,c5,c6⟩:=HPC.out i hlt;obtain ⟨p,hpe⟩:∃ p,p=ps[i]:=⟨_,rfl⟩;rw [<- hpe] at c0 c1 c2 c3 c4 c5 c6;have HPE:=ab hpe;have hsz:p.v.size+2<=L:=by
    have h1:=sN (dI n ps) (n+ps.length) (n+i) (by omega);have h2:dI n ps (n+i)=2*(p.v.size+1)+1:=by
     unfold dI;rw [if_neg (by omega),show n+i-n=i by omega,List.getElem?_eq_getElem hlt,hpe]
    have h3:=HLS.out;omega
   have g0:=aa GW.out L3.out;have q0:=g0.cell c0 (by simp);have q1:=g0.cell c1 (by simp);have q2:=g0.cell c2 (by simp);have q3:=g0.cell c3 (by simp);have q4:=g0.cell c4 (by simp);have q5:=g0.cell c5 (by simp);clear c0 c1 c2 c3 c4 c5 hpe g0;have s0:=BASE.out wr L3.out;go_upto_region 5 with fail;obtain ⟨w2,hw2⟩:∃ w2,w2=wr.alloc (Obj.cells #[.int .i64 p.kind,.int .i64 p.a,.int .i64 p.b,.int .i64 p.c,.int .i64 p.d,.string p.v] 34):=⟨_,rfl⟩;have G2:Hid (wr.grownBy w2 none):=by rw [hw2];exact ag (ae _ _) _
   have z0:w2.cell? ⟨wr.heap.size,0,none⟩=some (.int .i64 p.kind):=by rw [hw2];go_simp
   have z1:w2.cell? ⟨wr.heap.size,1,none⟩=some (.int .i64 p.a):=by rw [hw2];go_simp
   have z2:w2.cell? ⟨wr.heap.size,2,none⟩=some (.int .i64 p.b):=by rw [hw2];go_simp
   have z3:w2.cell? ⟨wr.heap.size,3,none⟩=some (.int .i64 p.c):=by rw [hw2];go_simp
   have z4:w2.cell? ⟨wr.heap.size,4,none⟩=some (.int .i64 p.d):=by rw [hw2];go_simp
   have z5:w2.cell? ⟨wr.heap.size,5,none⟩=some (.string p.v):=by rw [hw2];go_simp
   rw [<- hw2];clear hw2 s0 q0 q1 q2 q3 q4 q5;have G3:=ab (aa L3.out G2.out);have GA:=aa GW.out G3.out;go_wp2_with fail;refine (law_at fb fo fo2 fl fc fl2 fc2 p bf bop bs bz mm L w2 (GA.cell HML.out (by simp)) ⟨GA.cell HF.out.1.1 (by simp),GA.cell HF.out.1.2.1 (by simp),GA.cell HF.out.1.2.2 (by simp),HF.out.2.k0 GA⟩ (H1.out.keep0 GA) (GA.cell HOP.out (by simp)) (HS.out.k0 GA) (HZ.out.k0 GA) (by omega) (by omega)).mono ?_;rintro e w3 ⟨u1,d1,u2,d2,u3,d3,u4,d4,rfl,k1,k2,k3,k4,g1⟩;obtain ⟨o0,l0,c0,o1,l1,c1,e1⟩:=k1.shape;obtain ⟨o2,l2,c2,o3,l3,c3,e2⟩:=k2.shape;obtain ⟨o4,l4,c4,o5,l5,c5,e3⟩:=k3.shape;obtain ⟨o6,l6,c6_,o7,l7,c7,e4⟩:=k4.shape;simp only [Value.agg.injEq,Array.mk.injEq,List.cons.injEq,and_true,true_and] at e1 e2 e3 e4;obtain ⟨rfl,rfl⟩:=e1;obtain ⟨rfl,rfl⟩:=e2;obtain ⟨rfl,rfl⟩:=e3;obtain ⟨rfl,rfl⟩:=e4;have KC:=ab (tT k1 k2 k3 k4);have G4:=ab (aa G3.out g1);have O1:=ab (L1.out.keep0 (aa G2.out g1));have HSZ:Hid (W.heap.size<=w3.heap.size):=G4.out.size;clear k1 k2 k3 k4 g1 GA z0 z1 z2 z3 z4 z5 L1;go_wp2_with (at_builtin;refine m9 _ rfl _ _ 152 rfl W.heap.size Tryz.underlying152 Tryz.infoLaw (.slice oa i oc) i (nU ps) L rfl (O1.out.keep0 (ag (ae _ _) _)) w3.heap.size 1 rfl _ _ _ _ _ (yY _ _ _) (KC.out.kept (aW.of_gr (ag (ae _ _) _))) (by omega) (by simp;have:=HSZ.out;omega) ?_)
   intro ao cap5 w5 hown hgr hkk;have RA:Hid (fq w5 W.heap.size (.slice ao (i+1) cap5) (i+1) (nU ps) L):=hown.congr (fun j hj=>by
    have:=B8 hlt j hj;rw [<- HPE.out] at this;exact this)
   have HG:Hid (W.grownBy w5 none):=by
    refine aq (r:=none) (aa G4.out (ag (ae w3 none) _)) hgr (fun _ _ e=>e) (fun b hb e=>?_);have:=(O1.out.fresh b e.symm).1;omega
   clear hown hgr hkk;go_wp2;go_roundw
   case rel=>exact ⟨i+1,by omega,by go_num,RA.out,HG.out⟩
   case measure=>simp [intOf];omega
  ·obtain rfl:ps.length=i:=by omega
   have s0:=BASE.out wr L3.out;have G0:=ab (aa GW.out L3.out);go_wp2_with fail;refine (CQ fb fo fo2 fl fc fl2 fc2 n po pc ps (.slice oa ps.length oc) (nU ps) (dI n ps) L wr (H1.out.keep0 G0.out) (HP.out.keep G0.out) HR.out L1.out.lw (fun i hi xa xb xc xd=>?_) (fun r hr k j=>by rw [pN];exact net_fit n ps _ L HLS.out r hr k j) (fun k r j=>by rw [pN];exact net_wh n ps k r j) HLS.out hL).mono ?_
   ·obtain ⟨a0,a1,a2,a3⟩:=sz hi;rw [a0,a2];have h1:=sN (dI n ps) (n+ps.length) (n+i) (by omega);have h2:dI n ps (n+i)=2*(ps[i].v.size+1)+1:=by
     unfold dI;rw [if_neg (by omega),show n+i-n=i by omega,List.getElem?_eq_getElem hi]
    have h3:=HLS.out;exact Ai (xV _ _) (xW _ _) ps[i].fit (by omega)
   rw [pN];rintro e w5 (⟨v1,v2,X,rfl,r1,r2,hs1,hs2,gX⟩ | ⟨rfl,hs1,gX⟩ | ⟨rfl,hs1,gX⟩)
   ·have R1:=ab (r1.low G0.out.size);have R2:=ab (r2.low G0.out.size);have HS1:=ab hs1;have HS2:=ab hs2;have G5:=ab (aa G0.out gX);obtain ⟨ao1,cc1,rfl,_⟩:=id r1;obtain ⟨ao2,cc2,rfl,_⟩:=id r2;clear r1 r2 hs1 hs2 gX s0;go_wp2;go_ret3
    refine .inl ⟨_,_,X,fun i=>X (n+i),rfl,R1.out,R2.out,((kL HR.out X).1 HS1.out).2,fun V2 I2 hh=>?_,G5.out⟩;obtain ⟨x,hx1,hx2,hx3⟩:=lH HR.out hh;exact ⟨fun j hj=>by rw [<- hx2 j hj];exact HS2.out x hx1 j (by omega),fun i hi=>by rw [<- hx3 i hi];exact HS2.out x hx1 (n+i) (by omega)⟩
   ·have HS1:=ab hs1;have G5:=ab (aa G0.out gX);clear hs1 gX s0;go_wp2;go_ret3
    refine .inr (.inl ⟨rfl,?_,G5.out⟩);rintro ⟨V,I,hh⟩;obtain ⟨x,hx,_⟩:=lH HR.out hh;exact HS1.out ⟨x,hx⟩
   ·have HS1:=ab hs1;have G5:=ab (aa G0.out gX);clear hs1 gX s0;go_wp2;go_ret3
    refine .inr (.inr ⟨rfl,?_,G5.out⟩);obtain ⟨x,y,hx,hy,j,hj,hne⟩:=HS1.out;refine ⟨_,_,_,_,((kL HR.out x).1 hx).2,((kL HR.out y).1 hy).2,?_⟩;by_cases hjn:j<n
    ·exact .inl ⟨j,hjn,hne⟩
    ·exact .inr ⟨j-n,by omega,by show x (n+(j-n))≠y (n+(j-n));rw [show n+(j-n)=j by omega];exact hne⟩
end Go.Proofs.YthblidglcppakaaGreatDoor
