/- Contracts. -/
import Derived.Test.YtbomdfhdocaagaaGreatDoorXPm
namespace Go.Proofs.YtbomdfhdocaagaaGreatDoor
open Go.RowKit
set_option linter.all false
set_option maxHeartbeats 8000000
set_option maxRecDepth 10000
open Go Go.RowKit
attribute [local simp] bL eJ dP
attribute [local go_sem] Oper.semAt_some
variable {ps:List aA} {w A B:World} {k n base:Nat} {I V:Nat->Rat} {v x:Value} {row:Option Nat} {xs:List Bool}
def pH (n:Nat) (ps:List aA) (k:Nat):Prop:=¬ ∃ V I,bd n (bu (iO ps k) ps) V I/\(∀ i,i<ps.length->jA ps V I i)/\∀ V' I',bd n (bu (iO ps k) ps) V' I'->(∀ j,j<n->V j=V' j)/\∀ i,i<ps.length->I i=I' i
def qm (h:(¬ ∃ V I,bd n (bu (iO ps k) ps) V I)∨∃ V I V' I',bd n (bu (iO ps k) ps) V I/\bd n (bu (iO ps k) ps) V' I'/\((∃ j,j<n/\V j≠V' j)∨∃ i,i<ps.length/\I i≠I' i)):pH n ps k:=by
 rintro ⟨V,I,s,_,u⟩;rcases h with h | ⟨V1,I1,V2,I2,s1,s2,h⟩
 ·exact h ⟨V,I,s⟩
 ·obtain ⟨a1,b1⟩:=u _ _ s1;obtain ⟨a2,b2⟩:=u _ _ s2;rcases h with ⟨j,hj,h⟩ | ⟨i,hi,h⟩
  ·exact h ((a1 j hj).symm.trans (a2 j hj))
  ·exact h ((b1 i hi).symm.trans (b2 i hi))
def vO (d:cH n ps) (s:bd n (bu (iO ps k) ps) V I) (h:¬ ∀ i,i<ps.length->jA ps V I i):pH n ps k:=by
 rintro ⟨o,I',_,f,u⟩;obtain ⟨a,b⟩:=u _ _ s;refine h fun i hi c m=>?_
 obtain ⟨e,g,p,q,j,l,_,_,ha,hb,_⟩:=d.ends _ (List.getElem_mem c);have:=f i hi c m;rw [j,l] at this ⊢;rw [Int.toNat_natCast,Int.toNat_natCast] at this ⊢;rw [<- a e ha,<- a g hb,<- b i hi];exact this
def uA.bo {W:World} (h:uA ps k x W) (a:ps.length<=16):BoAt W x ps.length (iO ps k):=by
 obtain ⟨g,e,c⟩:=h;exact ⟨_,_,e,zL,by unfold maxLen;omega,fun i hi=>⟨g,0,rfl,by rw [Nat.zero_add];exact c i hi⟩⟩
def fE.oth {b b' i:Nat} {T:TypeId} {u:Value} (h:fE w b T u v) (x:Value) (hn:b≠b'):fE (w.setCell ⟨b',i,none⟩ x) b T u v:=h.keep (aj (ae w _)) (fun e=>hn (zJ e))
def mq.oth {b b' i:Nat} {T:TypeId} {u:Value} (h:mq w b T u) (x:Value) (hn:b≠b'):mq (w.setCell ⟨b',i,none⟩ x) b T u:=h.keep (aj (ae w _)) (fun e=>hn (zJ e))
def xT (h:w.grownBy A none) (k:A.grownBy B row) (a:∀ r,row=some r->w.heap.size<=r):w.grownBy B none:=fZ h k a
def sj {α:Type} {f:α->Value} {t:TypeId} {xs:List α} (h:bM f t A base v xs) (hg:A.grownBy B row) (g:∀ r,row=some r->∃ o:Obj,A.heap[r]? = some o/\o.isCells=false):bM f t B base v xs:=by
 refine h.keep hg ?_;cases hv:v.ownBlock with
 | none=>exact .inl rfl
 | some b =>
  right
  intro e;obtain ⟨o,c,hn⟩:=g _ e.symm;rcases h.2 with ⟨a,_⟩ | ⟨j,d,i,a,_,hh,_⟩
  ·rw [a] at hv;cases hv
  ·rw [a] at hv;cases hv
   rw [hh] at c;cases c
   cases hn
def cU (w:World) (T:TypeId) (u v:Value):fE (w.alloc (Obj.cells #[u,v] T)) w.heap.size T u v:=heap_alloc_new _ _
def te (w:World) (T:TypeId) (v:Value):mq (w.alloc (Obj.cells #[v] T)) w.heap.size T v:=heap_alloc_new _ _
def uL {P:Program} {f:FuncId} {a:Func} {c:Code} {args:Array Value} {R:Ending->World->Prop} (n:Nat) (b:P.funcs[f]? = some a) (hb:a.body=some c)
  (h:c.wp P (bodyPostM Fence.wide n P a R) { tmps:=args++Array.replicate (a.ntmps-args.size) undef,defers:=[] } w):Calls P f args w R :=
 (callsIn_wide (n:=n)).1 (callsIn_of_wp_marks b hb trivial (wpIn_wide.2 h))
def sH {R:Nat->Rat} {L M:Nat} (h:dj w base v n R L) (d:0<L) (f:L<=M):∀ i,i<n->bh M (R i):=by
 obtain ⟨m,c,e,o,p,j⟩:=h;intro i hi;obtain ⟨g,_,_,fr⟩:=j O;obtain ⟨q,r,s,t,u,y,z,C,D,l,_⟩:=fr.at i hi;have a:=l.fit d;have b:(4294967296:Nat)^L<=4294967296^M:=Nat.pow_le_pow_right zD f;exact ⟨Nat.lt_of_lt_of_le a.1 b,Nat.lt_of_lt_of_le a.2 b⟩
def SolV (n:Nat) (ps:List aA) (V I:Nat->Rat) (k:Nat):Prop:=k<2^(aX ps ps.length).length/\bd n (bu (iO ps k) ps) V I/\(∀ i,i<ps.length->jA ps V I i)/\(∀ j,j<k->pH n ps j)/\(∀ i,i<ps.length->bh 49000000 (I i))/\(∀ j,j<n->bh 49000000 (V j))/\∀ V' I',bd n (bu (iO ps k) ps) V' I'->(∀ j,j<n->V' j=V j)/\∀ i,i<ps.length->I' i=I i
def SolK (n:Nat) (ps:List aA) (I:Nat->Rat) (k:Nat):Prop:=∃ V,SolV n ps V I k
def DxE (w:World) (n:Nat) (ps:List aA) (e:Ending) (w':World):Prop :=
 ∃ u v jv c,e=.returned (.tuple #[.agg #[u,v],jv,.agg #[.int .i64 c,.int .i64 0]])/\w.grownBy w' none
  /\ ((c=0/\∃ V I k,SolV n ps V I k/\uu w.heap.size ps k jv w'/\bM sv 50 w' w.heap.size u (aL V n)/\bM sv 50 w' w.heap.size v (aL I ps.length))
   ∨ (c=7/\u=.slice none 0 0/\v=.slice none 0 0/\jv=.slice none 0 0/\∀ j,j<2^(aX ps ps.length).length->pH n ps j))
def bM.lw {α:Type} {f:α->Value} {t:TypeId} {base':Nat} {xs:List α} (h:bM f t w base v xs) (hb:base'<=base):bM f t w base' v xs:=⟨h.1,h.2.imp id (fun ⟨g,cap,a,e,hb,r⟩=>⟨g,cap,a,e,O,r⟩)⟩
def nN.form {a:Value} {b:Option Addr} {c:Nat} {L:Nat} (h:nN w a n b c ps L):∃ go gj gf gn,a=.func (.func 59) #[] #[.pointer (some ⟨go,0,none⟩),.pointer (some ⟨gj,0,none⟩),.pointer (some ⟨gf,0,none⟩),.pointer (some ⟨gn,0,none⟩)]:=by
 obtain ⟨go,gj,gf,gn,_,_,_,_,_,_,_,_,_,e,_⟩:=h;exact ⟨go,gj,gf,gn,e⟩
def ansJ_of {a b gf c:Nat} {d:Option Addr} {f:Nat} {L:Nat} (h:nN w (.func (.func 59) #[] #[.pointer (some ⟨a,0,none⟩),.pointer (some ⟨b,0,none⟩),.pointer (some ⟨gf,0,none⟩),.pointer (some ⟨c,0,none⟩)]) n d f ps L)
  (jv:Value) (k:Nat) (hp:aB w (.slice d ps.length f) ps) (hR:cH n ps) (hj:BoAt w jv ps.length (iO ps k)) (hq:∀ p∈ps,p.kind=8->p.q=0) (hLs:iG (cS n ps) (n+ps.length)<L) (hL:L<=49000000) :
  Calls Tryz.prog 59 #[jv,.pointer (some ⟨a,0,none⟩),.pointer (some ⟨b,0,none⟩),.pointer (some ⟨gf,0,none⟩),.pointer (some ⟨c,0,none⟩)] w fun e H=>AnJE w n ps (iO ps k) L e H:=by
 obtain ⟨m,o,r,s,base,v,t,u,g,fl,fc,j,l,e,y,z,C,D,E,F,G⟩:=h;simp at e;obtain ⟨rfl,rfl,rfl,rfl⟩:=e;refine ansJ_at n d f ps (iO ps k) jv a b gf c base v t u g fl fc j l L w y z C D E F G hp hR hj (fun i h hi=>?_) hq hLs hL;unfold iO at hi;rw [Bool.and_eq_true,decide_eq_true_eq,zX h] at hi;simpa using hi.1
def qe (h:A.grownBy B none):KeepsOthers A B:=KeepsOthers.of_grownBy h nofun
def IxD (w:World) (n:Nat) (ps:List aA) (W:World):Prop:=w.grownBy W none/\∃ u v jv V I k,fE W (w.heap.size+1) 33 u v/\mq W (w.heap.size+1+1) 34 jv/\fE W (w.heap.size+1+1+1) 29 (.int .i64 0) (.int .i64 0)/\SolV n ps V I k/\uu w.heap.size ps k jv W/\bM sv 50 W w.heap.size u (aL V n)/\bM sv 50 W w.heap.size v (aL I ps.length)
def IxD.other {m:Nat} (h:IxD w n ps A) (hg:A.grownBy B row) (l:w.heap.size<=m) (d:∀ r,row=some r->m<=r/\∃ o:Obj,A.heap[r]? = some o/\o.isCells=false):IxD w n ps B:=by
 obtain ⟨p,u,v,q,V,I,k,f,g,i,s,t,y,C⟩:=h;have a:∀ b (c:Array Value) T z,A.heap[b]? = some (Obj.cells c T z)->some b≠row:=by
  intro b c T z hb e;obtain ⟨_,o,j,hn⟩:=d _ e.symm;rw [hb] at j;cases j
  cases hn
 exact ⟨xT p hg fun r e=>Nat.le_trans l (d r e).1,u,v,q,V,I,k,f.keep hg (a _ _ _ _ f),g.keep hg (a _ _ _ _ g),i.keep hg (a _ _ _ _ i),s,t.keep hg (fun r e=>(d r e).2),sj y hg (fun r e=>(d r e).2),sj C hg fun r e=>(d r e).2⟩
def rH (n:Nat) (f:Option Addr) (m:Nat) (ps:List aA) (L:Nat) (w:World) (hb:kn w) (ht:fG w) (hp:aB w (.slice f ps.length m) ps) (hc:(aM (n:Int) ps).1=0)
  (hs:∀ p∈ps,p.v.size+2<=L) (hLs:iG (cS n ps) (n+ps.length)<L) (hL:L<=49000000) (hL2:2<=L) :
  Calls Tryz.prog 15 #[.agg #[.int .i64 (n:Nat),.slice f ps.length m]] w fun e w'=>DxE w n ps e w':=by
 obtain ⟨hR,kc,hl,hD,hw⟩:=kZ hc;clear kc;rw [Int.toNat_natCast] at hR;have P:=qY hc;have hq:∀ p∈ps,p.kind=8->p.q=0:=by
  intro p hp h8;rcases hD p hp with h | h | h | h
  ·omega
  ·omega
  ·omega
  ·exact h.2
 have HB:=ab hb;have HT:=ab ht;have HP:=ab hp;have HC:=ab P;have HS:=ab hs;have hI:=ab hLs;have HR:=ab hR;have HQ:=ab hq;have hM:=ab hw;clear hb ht hp P hs hLs hR hD hq hw hc;obtain ⟨W,hW⟩:=eX ((((w.alloc (Obj.cells #[.int .i64 (n:Nat),.slice f ps.length m] 24)).alloc (Obj.cells #[.slice none 0 0,.slice none 0 0] 33)).alloc (Obj.cells #[.slice none 0 0] 34)).alloc (Obj.cells #[.int .i64 0,.int .i64 0] 29));have C:Hid (w.grownBy W none):=by rw [hW];exact ag (ag (ag (ag (ae _ _) _) _) _) _
 refine uL 5 Tryz.func15 rfl ?_;simp only [Tryz.ntmps15,List.size_toArray,List.length_cons,List.length_nil,Nat.reduceAdd,Nat.reduceSub,Array.replicate_succ,Array.replicate_zero,List.push_toArray,List.append_toArray,List.nil_append,List.cons_append];go_upto_region 1 with fail;rw [<- hW];have T:Hid (∀ wx,W.grownBy wx none->dP wx w.heap.size (.int .i64 (n:Nat)) (.slice f ps.length m)):=by
  intro wx hg;exact dP.k0 (w:=W) (by rw [hW];exact ⟨zG,zG⟩) hg
 have NA:Hid (fE W (w.heap.size+1) 33 (.slice none 0 0) (.slice none 0 0)):=by
  have h:=cU (w.alloc (Obj.cells #[.int .i64 (n:Nat),.slice f ps.length m] 24)) 33 (.slice none 0 0) (.slice none 0 0);rw [World.size_alloc] at h;rw [hW];exact h.keep (ag (ag (ae _ none) _) _) Z
 have NB:Hid (mq W (w.heap.size+1+1) 34 (.slice none 0 0)):=by
  have h:=te ((w.alloc (Obj.cells #[.int .i64 (n:Nat),.slice f ps.length m] 24)).alloc (Obj.cells #[.slice none 0 0,.slice none 0 0] 33)) 34 (.slice none 0 0);rw [World.size_alloc,World.size_alloc] at h;rw [hW];exact h.keep (ag (ae _ none) _) Z
 have NF:Hid (fE W (w.heap.size+1+1+1) 29 (.int .i64 0) (.int .i64 0)):=by
  have h:=cU (((w.alloc (Obj.cells #[.int .i64 (n:Nat),.slice f ps.length m] 24)).alloc (Obj.cells #[.slice none 0 0,.slice none 0 0] 33)).alloc (Obj.cells #[.slice none 0 0] 34)) 29 (.int .i64 0) (.int .i64 0);rw [World.size_alloc,World.size_alloc,World.size_alloc] at h;rw [hW];exact h
 have SW:W.heap.size=w.heap.size+4:=by rw [hW];simp
 clear hW;have U:=ab SW;clear SW;obtain ⟨n0,n1⟩:=T.out W (ae _ _);go_wp2_with fail;refine (nq (n:Int) f m ps W (HB.keep C) (HP.keep C)).mono ?_;rintro e w1 ⟨rfl,g1⟩;rw [HC];have G1:=ab g1;obtain ⟨n2,n3⟩:=T.out w1 g1;clear g1 n0 n1;go_upto_region 4 with fail;refine cG (fun wx=>W.grownBy wx none) (ag G1 _) ?_;intro w2 g2;have G2:=ab g2;clear n2 n3;obtain ⟨n0,n1⟩:=T.out w2 g2;obtain ⟨mm,hx⟩:=(HB.keep (aa C g2)).2.1;clear g2 G1;go_wp2_with fail;refine (xE n f m ps mm L w2 hx (HP.keep (aa C G2)) O HQ HS O hL2).mono ?_;rintro e w3 ⟨fv,rfl,a3,g3⟩;have A3:=ab a3;have G3:=ab (aa G2 g3);obtain ⟨go,gj,gf,hy,ef⟩:=a3.form;clear a3;subst ef;clear g3 hx n0 n1 G2;have sf:∀ (n:Nat) (c:Array Value) (a:Addr) (wx:World),(store a (.func (.func n) #[] c)).run Tryz.prog wx=stored Tryz.prog wx a (.func (.func n) #[] c) .plain:=fun n c a wx=>run_store _ _ _ _ _ rfl
 go_upto_region 5 with fail;clear sf;obtain ⟨fv,he⟩:=eX (Value.func (.func 59) #[] #[.pointer (some ⟨go,0,none⟩),.pointer (some ⟨gj,0,none⟩),.pointer (some ⟨gf,0,none⟩),.pointer (some ⟨hy,0,none⟩)]);refine cG (fun wx=>W.grownBy wx none/\nN wx fv n f m ps L/\mq wx w3.heap.size 74 fv) ?_ ?_
 ·rw [he];exact ⟨ag G3 _,A3.keep0 (ag (ae _ _) _),te _ _ _⟩
 rintro w4 ⟨g4,a4,b4⟩;have S4:Hid (W.heap.size<=w3.heap.size):=G3.out.size;obtain ⟨b6,hz⟩:=eX w3.heap.size;rw [<- hz] at b4 S4 ⊢;have G4:=ab g4;have A4:=ab a4;have B4:=ab b4;have hm:=ab he;clear g4 a4 b4 A3 G3 hz he;obtain ⟨n0,n1⟩:=T.out w4 G4;go_wp2_with fail;refine (Cp n f m ps w4 (HP.keep (aa C G4)) O).mono ?_;rintro e w5 ⟨kl,rfl,⟨gd,gn,vd,rfl,d1,d2,d3⟩,g5⟩;have y:=ab (aa G4 g5);have A5:=ab (A4.keep0 g5);have B5:=ab (B4.keep g5 Z);have S5:Hid (b6<w5.heap.size):=B5.out.lt;have D1:=ab d1;have D2:=ab d2;have D3:=ab d3;clear g5 d1 d2 d3 A4 B4 G4 n0 n1;go_wp2_with fail;refine wpIn_wide.1 (?_:Code.wpIn Fence.wide 5 ..);refine Cc (gf:=62) (lb:=#[.pointer (some ⟨gd,0,none⟩),.pointer (some ⟨gn,0,none⟩)]) rfl O rfl trivial ?enters (uu w5.heap.size ps) (fun k x A B row h hg hr=>h.keep hg hr) (2^(aX ps ps.length).length) w5.heap.size zL ?seq
  (fun k wx=>w5.grownBy wx none/\∀ j,j<k->pH n ps j) (IxD w n ps)
  (fun k A B row h hg hr=>⟨xT h.1 hg hr,h.2⟩) (fun A B row h hg hr=>h.other hg ?ge hr) ⟨ae _ _,fun j h=>O⟩
  (fun x=>{ tmps:=#[.agg #[.int .i64 (n:Nat),.slice f ps.length m],.pointer (some ⟨w.heap.size,0,none⟩),.pointer (some ⟨w.heap.size+1,0,none⟩),.pointer (some ⟨w.heap.size+1+1,0,none⟩),.pointer (some ⟨w.heap.size+1+1+1,0,none⟩),.pointer (some ⟨w1.heap.size,0,none⟩),.pointer (some ⟨b6,0,none⟩),x,undef,undef,.agg #[.int .i64 (n:Nat),.slice f ps.length m],.agg #[.int .i64 0,.int .i64 0],.pointer (some ⟨w1.heap.size,0,none⟩),.int .i64 0,.bool false,undef,undef,.agg #[.int .i64 (n:Nat),.slice f ps.length m],.func (.func 59) #[] #[.pointer (some ⟨go,0,none⟩),.pointer (some ⟨gj,0,none⟩),.pointer (some ⟨gf,0,none⟩),.pointer (some ⟨hy,0,none⟩)],.agg #[.int .i64 (n:Nat),.slice f ps.length m],.func (.func 62) #[] #[.pointer (some ⟨gd,0,none⟩),.pointer (some ⟨gn,0,none⟩)],x,undef,undef,undef,undef,undef,undef,undef,undef,undef,undef,undef,undef,undef,undef,undef,undef,undef,undef],defers:=[] }) ?assign ?body ?done ?stop
 case enters =>
  intro args wx;exact enters_of Tryz.func62 zK rfl args wx
 case ge=>exact Nat.le_trans C.size y.size
 case seq =>
  intro l J Jx M kb hJ hY h0;exact callsIn_wide.2 (wX l _ n gd gn f m ps _ J Jx w5 M D1 D2 D3 hM hl kb hJ hY h0)
 case assign =>
  rintro l k x M K ⟨g,_,rfl,_⟩ hK;gi_wp2
  exact hK
 case body =>
  rintro l k x M ⟨gx,s⟩ hd hk;obtain ⟨n0,n1⟩:=T.out M (aa y gx);have BO:=ab (hd.hd.bo hl);have hN:=ab hd;have d:=ab gx;have NO:=ab s;obtain ⟨g,_,rfl,_⟩:=hd;have A6:=ab (A5.keep0 gx);have ho:=(mq.cells (B5.keep gx Z)).1;rw [hm] at ho;clear gx s A5 B5;rw [hm] at A6;gi_wp2
  refine ⟨trivial,(CallsIn.inRound l (callsIn_wide.2 (ansJ_of A6 _ k (HP.keep (aa C (aa y d))) HR BO HQ hI hL))).mono ?_⟩;rintro e E ⟨v1,v2,b,rfl,g7,hb⟩;have G7:=ab g7;obtain ⟨n2,n3⟩:=T.out E (aa y (aa d g7));clear n0 n1 ho g7 A6 BO;rcases hb with ⟨rfl,V,I,r1,r2,S,hC⟩ | ⟨rfl,rfl,rfl,s⟩
  ·have hu:=ab S;have UQ:=ab hC;have hQ:Hid (∀ j,j<n->bh 49000000 (V j)):=fun j hj=>sH r1 O hL j hj
   have FT:Hid (∀ i,i<ps.length->bh 49000000 (I i)):=fun i hi=>sH r2 O hL i hi
   have R1:=ab r1;have R2:=ab r2;obtain ⟨o1,c1,rfl,_⟩:=r1;obtain ⟨o2,c2,rfl,_⟩:=r2;clear S hC;obtain ⟨N,z⟩:=eX (Obj.cells #[.slice o1 n c1,.slice o2 ps.length c2] 81);have p8:=T.out (E.alloc N) (ag (aa y (aa d G7)) _);rw [z] at p8;obtain ⟨p0,p1⟩:=p8;gi_wp2
   rw [<- z];have B8:Hid (fE (E.alloc N) E.heap.size 81 (.slice o1 n c1) (.slice o2 ps.length c2)):=by rw [z];exact cU _ _ _ _
   have Q:=ab (ag G7 N);have F:=ab (R1.keep0 (ag (ae E none) N));have G:=ab (R2.keep0 (ag (ae E none) N));have S8:Hid (E.heap.size<(E.alloc N).heap.size):=by show _<_;simp
   clear p0 p1 n2 n3 R1 R2 z;obtain ⟨b8,hE⟩:=eX E.heap.size;have X:=ab (aa d Q);obtain ⟨w8,hG⟩:=eX (E.alloc N);rw [<- hG] at B8 Q F G S8 X ⊢;rw [<- hE] at B8 S8 ⊢;clear hG hE;refine ⟨trivial,(CallsIn.inRound l (callsIn_wide.2 (Dj n f m ps V I _ _ _ _ L w8 F G (HP.keep (aa C (aa y X))) HR O))).mono ?_⟩;rintro e w9 ⟨b,rfl,g9,hb⟩;have hv:=ab hb;have G9:=ab (aa Q g9);have Y:=ab (aa d G9);obtain ⟨q0,q1,_⟩:=fE.cells (B8.keep g9 Z);have hS:=ab (F.keep0 g9);have hT:=ab (G.keep0 g9);clear hb g9 F G Q X B8;cases b with
   | false =>
    gi_wp2
    exact ⟨qe G9,(mG G9).mono d.size,Y,fun j hj=>by
     rcases Nat.lt_or_ge j k with h | h
     ·exact NO j h
     ·have e:j=k:=O
      rw [e];exact vO HR hu (fun h=>by have:=hv.out.2 h;cases this)⟩
   | true =>
    gi_wp2
    refine ⟨trivial,(CallsIn.inRound l (callsIn_wide.2 (Dk n ps.length V I _ _ _ _ L w9 hS hT (by have:=HR.out.hi;omega) O O (HT.keep0 (aa C (aa y Y)))))).mono ?_⟩;rintro e hf ⟨_,v,rfl,⟨ua,uc,rfl⟩,hH,ou,ov⟩;have H:=ab (aa G9 hH);have OV:=ab ov;have OU:=ab ou;obtain ⟨oa,oc,rfl⟩:=ov.shape;have gW:=aa y (aa d H);have XA:=ab (NA.keep gW Z);have XB:=ab (NB.keep gW Z);have XF:=ab (NF.keep gW Z);obtain ⟨a0,a1,a2,a3⟩:=XA.out.cells;obtain ⟨f0,f1,f2,f3⟩:=XF.out.cells;obtain ⟨t0,t1⟩:=XB.out.cells;clear gW hH ov ou q0 q1;gi_wp2
    have gW:=aa C (aa y (aa d H));have l1:w.heap.size<=hf.heap.size:=gW.size;have hX:=qe H;have l9:w.heap.size+4<=w9.heap.size:=by
     have h1:=U.out;have h2:=y.out.size;have h3:=Y.out.size;omega
    have k1:w.heap.size<=w.heap.size+1:=O
    have k2:w.heap.size<=w.heap.size+1+1:=O
    have k3:w.heap.size<=w.heap.size+1+1+1:=O
    have R:=fun (v0:Value) (xs:List ByteArray) (o:bM sv 50 hf w9.heap.size v0 xs)=>(((((o.keepB (aj (g:=w.heap.size+1) (i:=0) (v:=.slice ua n uc) (ae _ _)) O).keepB (aj (g:=w.heap.size+1) (i:=1) (v:=.slice oa (aL I ps.length).length oc) (ae _ _)) O).keepB (aj (g:=w.heap.size+1+1) (i:=0) (v:=.slice (some ⟨g,0,none⟩) ps.length ps.length) (ae _ _)) O).keepB (aj (g:=w.heap.size+1+1+1) (i:=0) (v:=.int .i64 0) (ae _ _)) O).keepB (aj (g:=w.heap.size+1+1+1) (i:=1) (v:=.int .i64 0) (ae _ _)) O).lw (base':=w.heap.size) O
    refine ⟨(((((hX.trans (KeepsOthers.setCell _ _ _)).trans (KeepsOthers.setCell _ _ _)).trans (KeepsOthers.setCell _ _ _)).trans (KeepsOthers.setCell _ _ _)).trans (KeepsOthers.setCell _ _ _)),ah (ah (ah (ah (ah gW _ _ k1) _ _ k1) _ _ k2) _ _ k3) _ _ k3,.slice ua n uc,.slice oa (aL I ps.length).length oc,.slice (some ⟨g,0,none⟩) ps.length ps.length,V,I,k,?_,?_,?_,⟨hk,hu,hv.1 Z,NO,FT,hQ,UQ⟩,?_,R _ _ OU,R _ _ OV⟩
    ·exact ((((XA.set0 _).set1 _).oth _ O).oth _ O).oth _ O
    ·exact ((((XB.oth _ O).oth _ O).set _).1.oth _ O).oth _ O
    ·exact ((((XF.oth _ O).oth _ O).oth _ O).set0 _).set1 _
    ·have s5:w.heap.size+4<=w5.heap.size:=Nat.le_trans (Nat.le_of_eq U.symm) y.size;exact ((((hN.keep H nofun).row (aj (i:=1) (v:=.slice oa (aL I ps.length).length oc) (aj (i:=0) (v:=.slice ua n uc) (ae hf (some (w.heap.size+1))))) O).row (aj (i:=0) (v:=.slice (some ⟨g,0,none⟩) ps.length ps.length) (ae _ (some (w.heap.size+1+1)))) O).row (aj (aj (ae _ (some (w.heap.size+1+1+1))))) O).low O
  ·have ka:=ab (qm s);clear s;gi_wp2
   refine ⟨trivial,?_⟩;gi_wp2
   obtain ⟨N,z⟩:=eX (Obj.cells #[.slice none 0 0,.slice none 0 0] 81);rw [<- z];have Q:=ag G7 N;exact ⟨qe Q,(mG Q).mono d.size,aa d Q,fun j hj=>by
    rcases Nat.lt_or_ge j k with h | h
    ·exact NO j h
    ·have:j=k:=O
     rw [this];exact ka⟩
 case done =>
  rintro D M hD ⟨gx,s⟩ t;have d:=ab (aa y gx);have NO:=ab s;have DF:=ab t;obtain ⟨a0,a1,a2,a3⟩:=fE.cells (NA.keep d Z);obtain ⟨f0,f1,f2,f3⟩:=fE.cells (NF.keep d Z);obtain ⟨t0,t1⟩:=mq.cells (NB.keep d Z);clear gx s t;go_wp2;have k1:w.heap.size<=w.heap.size+1:=O
  have k2:w.heap.size<=w.heap.size+1+1:=O
  have k3:w.heap.size<=w.heap.size+1+1+1:=O
  have kk:w.heap.size+4<=D:=by
   have h1:=U.out;have h2:=y.out.size;omega
  have hA:=((((((NA.keep d Z).set0 (.slice none 0 0)).set1 (.slice none 0 0)).oth (i:=0) (b':=w.heap.size+1+1) (.slice none 0 0) O).oth (i:=0) (b':=w.heap.size+1+1+1) (.int .i64 7) O).oth (i:=1) (b':=w.heap.size+1+1+1) (.int .i64 0) O);have hB:=((((((NB.keep d Z).oth (i:=0) (b':=w.heap.size+1) (.slice none 0 0) O).oth (i:=1) (b':=w.heap.size+1) (.slice none 0 0) O).set (.slice none 0 0)).1.oth (i:=0) (b':=w.heap.size+1+1+1) (.int .i64 7) O).oth (i:=1) (b':=w.heap.size+1+1+1) (.int .i64 0) O);have hF:=((((((NF.keep d Z).oth (i:=0) (b':=w.heap.size+1) (.slice none 0 0) O).oth (i:=1) (b':=w.heap.size+1) (.slice none 0 0) O).oth (i:=0) (b':=w.heap.size+1+1) (.slice none 0 0) O).set0 (.int .i64 7)).set1 (.int .i64 0));have hW:=ah (ah (ah (ah (ah (aa C d) ⟨w.heap.size+1,0,none⟩ (.slice none 0 0) k1) ⟨w.heap.size+1,1,none⟩ (.slice none 0 0) k1) ⟨w.heap.size+1+1,0,none⟩ (.slice none 0 0) k2) ⟨w.heap.size+1+1+1,0,none⟩ (.int .i64 7) k3) ⟨w.heap.size+1+1+1,1,none⟩ (.int .i64 0) k3;have hK:=(((((KeepsOthers.setCell M ⟨w.heap.size+1,0,none⟩ (.slice none 0 0)).trans (KeepsOthers.setCell _ ⟨w.heap.size+1,1,none⟩ (.slice none 0 0))).trans (KeepsOthers.setCell _ ⟨w.heap.size+1+1,0,none⟩ (.slice none 0 0))).trans (KeepsOthers.setCell _ ⟨w.heap.size+1+1+1,0,none⟩ (.int .i64 7))).trans (KeepsOthers.setCell _ ⟨w.heap.size+1+1+1,1,none⟩ (.int .i64 0))).same _ _ DF rfl
  generalize (((((M.setCell ⟨w.heap.size+1,0,none⟩ (.slice none 0 0)).setCell ⟨w.heap.size+1,1,none⟩ (.slice none 0 0)).setCell ⟨w.heap.size+1+1,0,none⟩ (.slice none 0 0)).setCell ⟨w.heap.size+1+1+1,0,none⟩ (.int .i64 7)).setCell ⟨w.heap.size+1+1+1,1,none⟩ (.int .i64 0))=W6 at hA hB hF hW hK ⊢;have hg:=grownBy_putObj' W6 D (Obj.deferred none);refine ⟨Z,.inl ⟨_,_,rfl,run_takeDeferred hK,?_⟩⟩;obtain ⟨a0,a1,_⟩:=fE.cells (hA.keep hg (fun e=>by have:=zJ e;omega));obtain ⟨t0,_⟩:=mq.cells (hB.keep hg (fun e=>by have:=zJ e;omega));obtain ⟨f0,f1,_⟩:=fE.cells (hF.keep hg (fun e=>by have:=zJ e;omega));exact ⟨.tuple #[.agg #[.slice none 0 0,.slice none 0 0],.slice none 0 0,.agg #[.int .i64 7,.int .i64 0]],by simp [results,Tryz.results15,go_sem,a0,a1,f0,f1,t0],_,_,_,7,rfl,xT hW hg (fun r e=>by cases e;omega),.inr ⟨rfl,rfl,rfl,rfl,NO⟩⟩
 case stop =>
  rintro D M hD kf t;refine wpIn_wide.2 ?_;go_wp2;have hg:=grownBy_putObj' M D (Obj.deferred none);obtain ⟨hg,u,v,jv,V,I,k,h1,h2,h3,h4,h6,h7,h5⟩:=kf.other hg (Nat.le_trans (Nat.le_trans C.size y.size) hD) (fun r e=>by cases e;exact ⟨zL,_,t,rfl⟩);refine ⟨Z,.inl ⟨_,_,rfl,run_takeDeferred t,?_⟩⟩;obtain ⟨a0,a1,_⟩:=h1.cells;obtain ⟨f0,f1,_⟩:=h3.cells;obtain ⟨t0,_⟩:=h2.cells;exact ⟨.tuple #[.agg #[u,v],jv,.agg #[.int .i64 0,.int .i64 0]],by simp [results,Tryz.results15,go_sem,a0,a1,f0,f1,t0],u,v,jv,0,rfl,hg,.inl ⟨rfl,V,I,k,h4,h6,h7,h5⟩⟩
open Go Go.RowKit
attribute [local simp] bL eJ dP
def xL (a:Int) (b:Option Addr) (f:Nat) (ps:List aA) (w:World) (hb:kn w) (C:aB w (.slice b ps.length f) ps) (hc:(aM a ps).1≠0) :
  Calls Tryz.prog 15 #[.agg #[.int .i64 a,.slice b ps.length f]] w fun e w'=>e=.returned (.tuple #[.agg #[.slice none 0 0,.slice none 0 0],.slice none 0 0,.agg #[.int .i64 (aM a ps).1,.int .i64 (aM a ps).2]])/\w.grownBy w' none:=by
 have L:=ab hb;have M:=ab C;obtain ⟨c,d,g⟩:∃ c d,aM a ps=(c,d):=⟨_,_,rfl⟩;have N:=ab g;rw [g] at hc ⊢;have hc:¬ c=0:=hc;clear hb C g;obtain ⟨W,hW⟩:=eX ((((w.alloc (Obj.cells #[.int .i64 a,.slice b ps.length f] 24)).alloc (Obj.cells #[.slice none 0 0,.slice none 0 0] 33)).alloc (Obj.cells #[.slice none 0 0] 34)).alloc (Obj.cells #[.int .i64 0,.int .i64 0] 29));have q:Hid (w.grownBy W none):=by rw [hW];exact ag (ag (ag (ag (ae _ _) _) _) _) _
 go_enter Tryz.func15,Tryz.ntmps15
 go_upto_region 1 with fail;rw [<- hW];have D:Hid (∀ wx,W.grownBy wx none->dP wx w.heap.size (.int .i64 a) (.slice b ps.length f)):=by
  intro wx hg;exact dP.k0 (w:=W) (by rw [hW];exact ⟨zG,zG⟩) hg
 have P:Hid (fE W (w.heap.size+1) 33 (.slice none 0 0) (.slice none 0 0)):=by
  have h:=cU (w.alloc (Obj.cells #[.int .i64 a,.slice b ps.length f] 24)) 33 (.slice none 0 0) (.slice none 0 0);rw [World.size_alloc] at h;rw [hW];exact h.keep (ag (ag (ae _ none) _) _) Z
 have Q:Hid (mq W (w.heap.size+1+1) 34 (.slice none 0 0)):=by
  have h:=te ((w.alloc (Obj.cells #[.int .i64 a,.slice b ps.length f] 24)).alloc (Obj.cells #[.slice none 0 0,.slice none 0 0] 33)) 34 (.slice none 0 0);rw [World.size_alloc,World.size_alloc] at h;rw [hW];exact h.keep (ag (ae _ none) _) Z
 have R:Hid (fE W (w.heap.size+1+1+1) 29 (.int .i64 0) (.int .i64 0)):=by
  have h:=cU (((w.alloc (Obj.cells #[.int .i64 a,.slice b ps.length f] 24)).alloc (Obj.cells #[.slice none 0 0,.slice none 0 0] 33)).alloc (Obj.cells #[.slice none 0 0] 34)) 29 (.int .i64 0) (.int .i64 0);rw [World.size_alloc,World.size_alloc,World.size_alloc] at h;rw [hW];exact h
 have l:Hid (W.heap.size=w.heap.size+4):=by show _=_;rw [hW];simp
 clear hW;obtain ⟨n0,n1⟩:=D.out W (ae _ _);go_wp2_with fail;refine (nq a b f ps W (L.keep q) (M.keep q)).mono ?_;rintro e w1 ⟨rfl,s⟩;rw [N];have m:=ab s;obtain ⟨n2,n3⟩:=D.out w1 s;clear s n0 n1;go_upto_region 3 with fail;refine cG (fun wx=>W.grownBy wx none/\fE wx w1.heap.size 29 (.int .i64 c) (.int .i64 d)/\fE wx (w.heap.size+1) 33 (.slice none 0 0) (.slice none 0 0)/\mq wx (w.heap.size+1+1) 34 (.slice none 0 0)/\fE wx (w.heap.size+1+1+1) 29 (.int .i64 0) (.int .i64 0)) ⟨ag m _,cU _ _ _ _,P.keep (ag m _) Z,Q.keep (ag m _) Z,R.keep (ag m _) Z⟩ ?_;rintro w2 ⟨G,t,u,y,z⟩;have S:=ab G;have T:=ab t;have U:=ab u;have X:=ab y;have Y:=ab z;obtain ⟨e0,e1,e2,e3⟩:=t.cells;obtain ⟨H,J,a2,a3⟩:=u.cells;obtain ⟨K,t1⟩:=y.cells;obtain ⟨f0,f1,f2,f3⟩:=z.cells;clear n2 n3 G t u y z;obtain ⟨j,p⟩:=eX w1.heap.size;have o:=m.out.size;have r:=l.out;rw [<- p] at o e0 e1 e2 e3 T ⊢;have m1:¬ j=w.heap.size+1:=O
 have m2:¬ j=w.heap.size+1+1:=O
 have m3:¬ j=w.heap.size+1+1+1:=O
 have m4:¬ w.heap.size+1=j:=O
 have m5:¬ w.heap.size+1+1=j:=O
 have m6:¬ w.heap.size+1+1+1=j:=O
 clear p o r l;go_region
 all_goals
  go_wp2;have E:w.heap.size<=w.heap.size+1:=O
  have k2:w.heap.size<=w.heap.size+1+1:=O
  have F:w.heap.size<=w.heap.size+1+1+1:=O
  have hA:=(((((U.set0 (.slice none 0 0)).set1 (.slice none 0 0)).oth (i:=0) (b':=w.heap.size+1+1) (.slice none 0 0) O).oth (i:=0) (b':=w.heap.size+1+1+1) (.int .i64 c) O).oth (i:=1) (b':=w.heap.size+1+1+1) (.int .i64 d) O).keep aC Z;have hB:=(((((X.oth (i:=0) (b':=w.heap.size+1) (.slice none 0 0) O).oth (i:=1) (b':=w.heap.size+1) (.slice none 0 0) O).set (.slice none 0 0)).1.oth (i:=0) (b':=w.heap.size+1+1+1) (.int .i64 c) O).oth (i:=1) (b':=w.heap.size+1+1+1) (.int .i64 d) O).keep aC Z;have hF:=(((((Y.oth (i:=0) (b':=w.heap.size+1) (.slice none 0 0) O).oth (i:=1) (b':=w.heap.size+1) (.slice none 0 0) O).oth (i:=0) (b':=w.heap.size+1+1) (.slice none 0 0) O).set0 (.int .i64 c)).set1 (.int .i64 d)).keep aC Z;have hW:=ak (ah (ah (ah (ah (ah (aa q S) ⟨w.heap.size+1,0,none⟩ (.slice none 0 0) E) ⟨w.heap.size+1,1,none⟩ (.slice none 0 0) E) ⟨w.heap.size+1+1,0,none⟩ (.slice none 0 0) k2) ⟨w.heap.size+1+1+1,0,none⟩ (.int .i64 c) F) ⟨w.heap.size+1+1+1,1,none⟩ (.int .i64 d) F) 1;obtain ⟨H,J,_⟩:=hA.cells;obtain ⟨K,_⟩:=hB.cells;obtain ⟨f0,f1,_⟩:=hF.cells;exact bodyPost_ret (v:=.tuple #[.agg #[.slice none 0 0,.slice none 0 0],.slice none 0 0,.agg #[.int .i64 c,.int .i64 d]]) (by simp [results,Tryz.results15,go_sem,H,J,f0,f1,K]) rfl ⟨rfl,hW⟩
open Go Go.RowKit
attribute [local simp] bL eJ dP CL nk
def DiR (W:World) (ps:List aA) (cv iv:Value) (wr:World):Prop:=∃ i:Nat,i<=ps.length/\cv=.int .i64 (aX ps i).length/\iv=.int .i64 i/\W.grownBy wr none
def Be (n:Nat) (m:Option Addr) (o:Nat) (ps:List aA) (w:World) (l:aB w (.slice m ps.length o) ps) (hn:ps.length<=1000) :
  Calls Tryz.prog 9 #[.agg #[.int .i64 (n:Nat),.slice m ps.length o]] w fun e L=>e=.returned (.int .i64 (aX ps ps.length).length)/\w.grownBy L none:=by
 have D:=ab l;clear l;obtain ⟨W,s⟩:=eX (w.alloc (Obj.cells #[.int .i64 (n:Nat),.slice m ps.length o] 24));have u:Hid (w.grownBy W none):=by rw [s];exact ag (ae _ _) _
 have E:Hid (∀ wx,W.grownBy wx none->dP wx w.heap.size (.int .i64 (n:Nat)) (.slice m ps.length o)):=by
  intro wx hg;exact dP.k0 (w:=W) (by rw [s];exact ⟨zG,zG⟩) hg
 go_enter Tryz.func9,Tryz.ntmps9
 go_upto_region 1 with fail;rw [<- s];clear s;have F:=E.out W (ae _ _);go_wp2;go_loopw [3,9] (fun M iv wr=>Hid (DiR W ps M iv wr)) (fun _ iv _=>ps.length-(intOf iv).toNat)
 case atStart=>exact ⟨0,O,rfl,rfl,ae _ _⟩
 case round =>
  obtain ⟨i,hi,rfl,rfl,z⟩:=hrel.out;have q:=ab z;clear z hrel F;have G:=pY ps i;by_cases hlt:i<ps.length
  ·obtain ⟨b,off,rfl,rc,t⟩:=D.out.row (aa u q) hlt;have g:=ab (ns ps i hlt);obtain ⟨p,l⟩:=eX (ps[i]);rw [<- l] at rc g;clear l t;go_upto_region 5 with fail;obtain ⟨J,j⟩:=eX wr.heap.size;obtain ⟨C,f⟩:=eX (wr.alloc (Obj.cells #[.int .i64 p.kind,.int .i64 p.a,.int .i64 p.b,.int .i64 p.c,.int .i64 p.d,.string p.v] 55));have y:Hid (wr.grownBy C none):=by rw [f];exact ag (ae _ _) _
   have H:Hid (nk C J p):=by rw [j];exact ie wr p 55 (by rw [f];exact ae _ _)
   rw [<- f,<- j];clear f j rc;obtain ⟨K,N,P,Q,R,S⟩:=H.out;by_cases r:p.kind=8
   ·have h:Hid ((aX ps (i+1)).length=(aX ps i).length+1):=by show _=_;rw [g,if_pos r];simp
    rw [r] at K;clear r;go_wp2;go_roundw
    case rel=>exact ⟨i+1,O,by rw [h];go_num,zN,aa q y⟩
    case measure=>exact bH
   ·have h:Hid ((aX ps (i+1)).length=(aX ps i).length):=by show _=_;rw [g,if_neg r]
    go_wp2;go_roundw
    case rel=>exact ⟨i+1,O,by rw [h],zN,aa q y⟩
    case measure=>exact bH
  ·obtain rfl:ps.length=i:=O
   go_wp2;go_ret;exact ⟨rfl,aa u q⟩
def vT (ps:List aA) (k i:Nat):List Bool:=(List.range ps.length).map fun j=>decide (j<i) && iO ps k j
def oU (ps:List aA) (k i:Nat):(vT ps k i).length=ps.length:=by simp [vT]
def Ez (ps:List aA) (k:Nat):List.replicate ps.length false=vT ps k 0:=by
 apply List.ext_getElem
 ·simp [vT]
 ·intro i a b;simp [vT]
def onU_set {i:Nat} (hi:i<ps.length) (b:ps[i].kind=8):(vT ps k i).set i (Nat.testBit k (aX ps i).length)=vT ps k (i+1):=by
 apply List.ext_getElem
 ·simp [vT]
 ·intro j d a;rw [List.getElem_set];have c:j<ps.length:=by rw [oU] at a;exact a
  simp only [vT,List.getElem_map,List.getElem_range];by_cases e:i=j
  ·subst e;rw [if_pos rfl];simp [iO,zX hi,b]
  ·rw [if_neg e];have:decide (j<i)=decide (j<i+1):=by rw [decide_eq_decide];omega
   rw [this]
def Ey {i:Nat} (hi:i<ps.length) (a:ps[i].kind≠8):vT ps k i=vT ps k (i+1):=by
 apply List.ext_getElem
 ·simp [vT]
 ·intro j b c;simp only [vT,List.getElem_map,List.getElem_range];by_cases e:j=i
  ·subst e;simp [iO,zX hi,a]
  ·have:decide (j<i)=decide (j<i+1):=by rw [decide_eq_decide];omega
   rw [this]
def onU_all {i:Nat} (hi:i<ps.length):(vT ps k ps.length)[i]'(by rw [oU];exact hi)=iO ps k i:=by simp [vT,hi]
def OnR (W:World) (ps:List aA) (g k:Nat) (bv_ iv:Value) (wr:World):Prop:=∃ i:Nat,i<=ps.length/\bv_=.int .i64 (aX ps i).length/\iv=.int .i64 i/\CE wr g (vT ps k i)/\W.grownBy wr none
def onOf_at (n k:Nat) (z:Option Addr) (C:Nat) (ps:List aA) (w:World) (q:aB w (.slice z ps.length C) ps) (hn:ps.length<=16) (hk:k<=64) (T:(aX ps ps.length).length<=6) :
  Calls Tryz.prog 10 #[.agg #[.int .i64 (n:Nat),.slice z ps.length C],.int .i64 (k:Nat)] w fun e S=>∃ x,e=.returned x/\uA ps k x S/\w.grownBy S none:=by
 have U:=ab q;clear q;obtain ⟨W,E⟩:=eX (w.alloc (Obj.cells #[.int .i64 (n:Nat),.slice z ps.length C] 24));have M:Hid (w.grownBy W none):=by rw [E];exact ag (ae _ _) _
 have F:Hid (∀ wx,W.grownBy wx none->dP wx w.heap.size (.int .i64 (n:Nat)) (.slice z ps.length C)):=by
  intro wx hg;exact dP.k0 (w:=W) (by rw [E];exact ⟨zG,zG⟩) hg
 go_enter Tryz.func10,Tryz.ntmps10
 go_upto_region 1 with fail;rw [<- E];clear E;have r:=F.out W (ae _ _);go_wp2_with (at_make;refine eI bv 4 false 1 _ rfl _ _ 34 rfl Tryz.underlying34 Tryz.infoBool rfl _ _ _ _ ps.length rfl rfl rfl rfl O O ?_)
 intro w1 ha y;obtain ⟨g,hg⟩:=eX W.heap.size;rw [<- hg] at ha ⊢;have X:Hid (CE w1 g (vT ps k 0)):=by rw [<- Ez];exact ha
 have N:=ab y;have G:Hid (W.heap.size<=g):=Nat.le_of_eq hg.symm;clear ha y hg r;have r:=F.out w1 N;go_wp2;go_loopw [6,16] (fun cv iv wr=>Hid (OnR W ps g k cv iv wr)) (fun _ iv _=>ps.length-(intOf iv).toNat)
 case atStart=>exact ⟨0,O,rfl,rfl,X,N⟩
 case round =>
  obtain ⟨i,hi,rfl,rfl,Q,y⟩:=hrel.out;have P:=ab Q;have s:=ab y;clear y Q hrel r;have r:=F.out wr s;have H:=pY ps i;by_cases hlt:i<ps.length
  ·obtain ⟨b,off,rfl,rc,K⟩:=U.out.row (aa M s) hlt;have m:=ab (ns ps i hlt);have t:=ab (fun h8=>onU_set (k:=k) hlt h8);have u:=ab (fun h8=>Ey (k:=k) hlt h8);obtain ⟨p,q⟩:=eX (ps[i]);rw [<- q] at rc m t u;clear q K;go_upto_region 6 with fail;obtain ⟨gp,o⟩:=eX wr.heap.size;obtain ⟨L,l⟩:=eX (wr.alloc (Obj.cells #[.int .i64 p.kind,.int .i64 p.a,.int .i64 p.b,.int .i64 p.c,.int .i64 p.d,.string p.v] 55));have J:Hid (wr.grownBy L none):=by rw [l];exact ag (ae _ _) _
   have Y:Hid (nk L gp p):=by rw [o];exact ie wr p 55 (by rw [l];exact ae _ _)
   rw [<- l,<- o];clear l o rc r;obtain ⟨b0,b1,b2,b3,b4,b5⟩:=Y.out;have D:=ab (P.keep0 J);by_cases h8:p.kind=8
   ·have f:Hid ((aX ps (i+1)).length=(aX ps i).length+1):=by show _=_;rw [m,if_pos h8];simp
    have h:=ab (t h8);rw [h8] at b0;clear h8;obtain ⟨j,R⟩:=eX ((aX ps i).length);rw [<- R] at f h H ⊢;clear R;obtain ⟨v0,hf⟩:∃ v,World.cell? L ⟨g,i,none⟩=some v:=⟨_,D.cell i (by rw [oU];exact hlt)⟩;have he:=D.out.free i;go_wp2;go_roundw
    case rel =>
     refine ⟨i+1,O,by rw [f];go_num,zN,?_,ah (aa s J) _ _ G⟩;have:=D.out.set i (Nat.testBit k j) (.bool (Nat.testBit k j)) rfl;rw [h,<- uH,<- uG] at this;exact this
    case measure=>exact bH
   ·have f:Hid ((aX ps (i+1)).length=(aX ps i).length):=by show _=_;rw [m,if_neg h8]
    have h:=ab (u h8);go_wp2;go_roundw
    case rel=>exact ⟨i+1,O,by rw [f],zN,by rw [<- h];exact D,aa s J⟩
    case measure=>exact bH
  ·obtain rfl:ps.length=i:=O
   go_wp2;go_ret;refine ⟨_,rfl,⟨g,rfl,fun i hi=>?_⟩,aa M s⟩;rw [P.cell i (by rw [oU];exact hi),onU_all hi]
def AZ {x y:ByteArray} (h:x.toList=y.toList):x=y:=by
 rw [ByteArray.toList_eq,ByteArray.toList_eq] at h;cases x
 cases y
 congr 1
 exact Array.ext' h
def EquR (W:World) (xs ys:List ByteArray) (v:Value) (wr:World):Prop:=∃ i:Nat,i<=xs.length/\v=.int .i64 i/\(∀ j,j<i->xs[j]? = ys[j]?)/\W.grownBy wr none
def lj (v1 v2:Value) (xs ys:List ByteArray) (w:World) (G:iu sv w v1 xs) (H:iu sv w v2 ys) (U:xs.length<=100000) (J:ys.length<=100000) :
  Calls Tryz.prog 22 #[v1,v2] w fun e T=>e=.returned (.bool (decide (xs=ys)))/\w.grownBy T none:=by
 obtain ⟨W,cap,rfl,X,Q,z⟩:=G;obtain ⟨bo,m,rfl,Y,R,C⟩:=H;unfold maxLen at Q R;have K:=ab z;have L:=ab C;clear z C;by_cases a:xs.length=ys.length
 ·have d:=ab a;have f:(((xs.length:Nat):Int)==((ys.length:Nat):Int))=true:=by rw [a];simp
  rw [<- a];have M:xs.length<=m:=O
  clear a f;go_enter Tryz.func22,Tryz.ntmps22
  go_wp2;go_loopw [13] (fun v wr=>Hid (EquR w xs ys v wr)) (fun v _=>xs.length-(intOf v).toNat)
  case atStart=>exact ⟨0,O,rfl,fun j hj=>O,ae _ _⟩
  case round =>
   obtain ⟨i,hi,rfl,D,E⟩:=hrel.out;have s:=ab D;have c:=ab E;clear D E hrel;by_cases hlt:i<xs.length
   ·have g:i<ys.length:=by have:=d.out;omega
    obtain ⟨b,off,rfl,hb,p⟩:=K.out i hlt;obtain ⟨b',F,rfl,S,q⟩:=L.out i g;obtain ⟨x,r⟩:=eX (xs[i]);obtain ⟨y,hy⟩:=eX (ys[i]);rw [<- r] at p;rw [<- hy] at q;have c1:=c.out.cell p Z;have c2:=c.out.cell q Z;have t:=ab r;have u:=ab hy;have N:(0:Int)<=(i:Int):=O
    have P:(i:Int)<(xs.length:Int):=O
    clear p q r hy;by_cases h:x=y
    ·subst h;go_wp2;go_region
     all_goals
      go_wp2;go_roundw
      case rel =>
       refine ⟨i+1,O,zN,fun j hj=>?_,by first | exact aa c aC | exact aa c (aS _) | exact c⟩;by_cases e:j=i
       ·subst e;rw [zX hlt,zX g,<- t,<- u]
       ·exact s j O
      case measure=>exact bH
    ·have l:(x.toList==y.toList)=false:=zB (fun e=>h (AZ e));have o:=ab h;go_wp2;go_region
     all_goals
      go_wp2;go_ret;refine ⟨?_,by first | exact aa c aC | exact aa c (aS _) | exact c⟩;have:xs≠ys:=by
       intro e;apply o;rw [t,u];subst e;rfl
      rw [decide_eq_false this];rfl
   ·obtain rfl:i=xs.length:=O
    go_wp2;go_ret;refine ⟨?_,c⟩;have:xs=ys:=by
     apply List.ext_getElem?
     intro j;by_cases hj:j<xs.length
     ·exact s j hj
     ·rw [List.getElem?_eq_none O,List.getElem?_eq_none (by have:=d.out;omega)]
    rw [decide_eq_true this];rfl
 ·have f:(((xs.length:Nat):Int)==((ys.length:Nat):Int))=false:=by
   apply zB;omega
  have l:xs≠ys:=fun e=>a (by rw [e])
  rw [decide_eq_false l];clear a l;go_enter Tryz.func22,Tryz.ntmps22
  go_wp2;go_ret;exact ⟨rfl,ae _ _⟩
def EquBR (W:World) (xs ys:List Bool) (v:Value) (wr:World):Prop:=∃ i:Nat,i<=xs.length/\v=.int .i64 i/\(∀ j,j<i->xs[j]? = ys[j]?)/\W.grownBy wr none
def nt (v1 v2:Value) (xs ys:List Bool) (w:World) (H:iu bv w v1 xs) (J:iu bv w v2 ys) (W:xs.length<=100000) (K:ys.length<=100000) :
  Calls Tryz.prog 17 #[v1,v2] w fun e U=>e=.returned (.bool (decide (xs=ys)))/\w.grownBy U none:=by
 obtain ⟨X,cap,rfl,Y,R,C⟩:=H;obtain ⟨bo,m,rfl,b1,S,D⟩:=J;unfold maxLen at R S;have L:=ab C;have M:=ab D;clear C D;by_cases a:xs.length=ys.length
 ·have f:=ab a;have g:(((xs.length:Nat):Int)==((ys.length:Nat):Int))=true:=by rw [a];simp
  rw [<- a];have N:xs.length<=m:=O
  clear a g;go_enter Tryz.func17,Tryz.ntmps17
  go_wp2;go_loopw [13] (fun v wr=>Hid (EquBR w xs ys v wr)) (fun v _=>xs.length-(intOf v).toNat)
  case atStart=>exact ⟨0,O,rfl,fun j hj=>O,ae _ _⟩
  case round =>
   obtain ⟨i,hi,rfl,E,F⟩:=hrel.out;have s:=ab E;have c:=ab F;clear E F hrel;by_cases hlt:i<xs.length
   ·have h:i<ys.length:=by have:=f.out;omega
    obtain ⟨b,off,rfl,hb,p⟩:=L.out i hlt;obtain ⟨b',G,rfl,T,q⟩:=M.out i h;obtain ⟨x,r⟩:=eX (xs[i]);obtain ⟨y,hy⟩:=eX (ys[i]);rw [<- r] at p;rw [<- hy] at q;have c1:=c.out.cell p Z;have c2:=c.out.cell q Z;have t:=ab r;have u:=ab hy;have P:(0:Int)<=(i:Int):=O
    have Q:(i:Int)<(xs.length:Int):=O
    clear p q r hy;by_cases l:x=y
    ·subst l;go_wp2;go_region
     all_goals
      go_wp2;go_roundw
      case rel =>
       refine ⟨i+1,O,zN,fun j hj=>?_,by first | exact aa c aC | exact aa c (aS _) | exact c⟩;by_cases e:j=i
       ·subst e;rw [zX hlt,zX h,<- t,<- u]
       ·exact s j O
      case measure=>exact bH
    ·have d:(x==y)=false:=zB l;have z:(x != y)=true:=by simp [bne,d]
     have o:=ab l;go_wp2;go_region
     all_goals
      go_wp2;go_ret;refine ⟨?_,by first | exact aa c aC | exact aa c (aS _) | exact c⟩;have:xs≠ys:=by
       intro e;apply o;rw [t,u];subst e;rfl
      rw [decide_eq_false this];rfl
   ·obtain rfl:i=xs.length:=O
    go_wp2;go_ret;refine ⟨?_,c⟩;have:xs=ys:=by
     apply List.ext_getElem?
     intro j;by_cases hj:j<xs.length
     ·exact s j hj
     ·rw [List.getElem?_eq_none O,List.getElem?_eq_none (by have:=f.out;omega)]
    rw [decide_eq_true this];rfl
 ·have g:(((xs.length:Nat):Int)==((ys.length:Nat):Int))=false:=by
   apply zB;omega
  have d:xs≠ys:=fun e=>a (by rw [e])
  rw [decide_eq_false d];clear a d;go_enter Tryz.func17,Tryz.ntmps17
  go_wp2;go_ret;exact ⟨rfl,ae _ _⟩
def qB (w:World) (t:TypeId) (x y z:ByteArray):iu sv (w.alloc (Obj.cells #[.string x,.string y,.string z] t)) (.slice (some ⟨w.heap.size,0,none⟩) 3 3) [x,y,z]:=by
 refine ⟨_,3,rfl,Nat.le_refl 3,by unfold maxLen;omega,fun i hi=>⟨w.heap.size,0,rfl,Z,?_⟩⟩;have hn:=heap_alloc_new w (Obj.cells #[.string x,.string y,.string z] t);have a:i<3:=hi;simp only [World.cell?,hn,Nat.zero_add];match i,a with
 | 0,_=>rfl
 | 1,_=>rfl
 | 2,_=>rfl
def fQ (k a b:Int) (s:ByteArray) (w:World) :
  Calls Tryz.prog 21 #[.int .i64 k,.int .i64 a,.int .i64 b,.string s] w fun e c=>e=.returned (.agg #[.int .i64 k,.int .i64 a,.int .i64 b,.int .i64 0,.int .i64 0,.string s])/\w.grownBy c none:=by
 go_enter Tryz.func21,Tryz.ntmps21
 go_wp2;refine bodyPost_ret (v:=.agg #[.int .i64 k,.int .i64 a,.int .i64 b,.int .i64 0,.int .i64 0,.string s]) (by simp [results,Tryz.results21,go_sem]) rfl ?_;exact ⟨rfl,ag (ae _ _) _⟩
def dV (ps:List aA):Nat:=(ps.map fun p=>p.v.size).sum
def qK (n:Nat) (ps:List aA):iG (cS n ps) (n+ps.length)=n+4*ps.length+2*dV ps:=by
 have a:∀ k,k<=n->iG (cS n ps) k=k:=by
  intro k;induction k with
  | zero=>intro _;rfl
  | succ k ih =>
   intro d;unfold iG;have e:cS n ps k=0:=by unfold cS;rw [if_pos O]
   rw [ih O,e]
 have b:∀ k,k<=ps.length->iG (cS n ps) (n+k)=n+4*k+2*dV (ps.take k):=by
  intro k;induction k with
  | zero=>intro _;rw [Nat.add_zero,a n zL];simp [dV]
  | succ k ih =>
   intro d;show iG (cS n ps) (n+k)+(1+cS n ps (n+k))=_
   have e:cS n ps (n+k)=2*(ps[k].v.size+1)+1:=by
    unfold cS;rw [if_neg O,show n+k-n=k by omega,zX O]
   have c:dV (ps.take (k+1))=dV (ps.take k)+ps[k].v.size:=by
    unfold dV;rw [List.take_succ_eq_append_getElem O,List.map_append,List.sum_append];simp
   rw [ih O,e,c];omega
 have:=b ps.length zL;rw [List.take_length] at this;exact this
def yN (u1 u2 v1 v2:Value) (xs ys:List ByteArray) (w:World) (d:iu sv w u1 xs) (f:iu sv w u2 ys) (g:iu sv w v1 xs) (h:iu sv w v2 ys) (p:xs.length<=100000) (a:ys.length<=100000) :
  Calls Tryz.prog 16 #[.agg #[u1,u2],.agg #[v1,v2]] w fun e K=>e=.returned (.bool true)/\w.grownBy K none:=by
 obtain ⟨r,c1,rfl,_⟩:=id d;obtain ⟨s,c2,rfl,_⟩:=id f;obtain ⟨t,u,rfl,_⟩:=id g;obtain ⟨y,z,rfl,_⟩:=id h;have E:=ab d;have F:=ab f;have G:=ab g;have H:=ab h;clear d f g h;obtain ⟨W,c⟩:=eX ((w.alloc (Obj.cells #[.slice r xs.length c1,.slice s ys.length c2] 33)).alloc (Obj.cells #[.slice t xs.length u,.slice y ys.length z] 33));have b:Hid (w.grownBy W none):=by rw [c];exact ag (ag (ae _ _) _) _
 have q:Hid (∀ wx,W.grownBy wx none->wx.cell? ⟨w.heap.size,0,none⟩=some (.slice r xs.length c1)/\wx.cell? ⟨w.heap.size,1,none⟩=some (.slice s ys.length c2)/\wx.cell? ⟨w.heap.size+1,0,none⟩=some (.slice t xs.length u)/\wx.cell? ⟨w.heap.size+1,1,none⟩=some (.slice y ys.length z)):=by
  intro wx hg;rw [c] at hg;exact ⟨hg.cell zG Z,hg.cell zG Z,hg.cell zG Z,hg.cell zG Z⟩
 go_enter Tryz.func16,Tryz.ntmps16
 go_upto_region 1 with fail;rw [<- c];clear c;obtain ⟨j,l,m,n3⟩:=q.out W (ae _ _);go_wp2_with fail;refine (lj _ _ xs xs W (E.keep b) (G.keep b) p p).mono ?_;rintro e C ⟨rfl,o⟩;have i:=ab o;rw [show decide (xs=xs)=true by simp];clear j l m n3;obtain ⟨j,l,m,n3⟩:=q.out C o;clear o;go_wp2_with fail;refine (lj _ _ ys ys C (F.keep (aa b i)) (H.keep (aa b i)) a a).mono ?_;rintro e L ⟨rfl,D⟩;have J:=ab D;rw [show decide (ys=ys)=true by simp];clear j l m n3 D;go_wp2;go_ret;exact ⟨rfl,aa b (aa i J)⟩
def j5 (t:TypeId) (w:World) (v:Value):Prop:=v=.slice none 0 0∨∃ g n cap cur,v=.slice (some ⟨g,0,none⟩) n cap/\w.heap[g]? = some (.cells cur t (0,0))/\cur.size=cap/\n<=cap/\cap<=maxLen
def bM.room {xs:List ByteArray} (h:bM sv 50 w base v xs):j5 50 w v:=by
 rcases h.2 with ⟨e,_⟩ | ⟨g,cap,a,e,i,b,c,d,f,j⟩
 ·exact .inl e
 ·exact .inr ⟨g,_,cap,a,e,b,by rw [f,Nat.mul_one],c,d⟩
def j5.keep {t:TypeId} {c:World} {r:Option Nat} (h:j5 t w v) (g:w.grownBy c r) (e:∀ k,v.ownBlock=some k->some k≠r):j5 t c v:=by
 rcases h with h | ⟨b,n,cap,a,rfl,d,f,i,j⟩
 ·exact .inl h
 ·exact .inr ⟨b,n,cap,a,rfl,by rw [g.block b (zZ d).1 (e b rfl)];exact d,f,i,j⟩
def jU {g:Nat} {t:TypeId} : ∀ (vs:List Value) (o:Nat) (w:World) (cur:Array Value),w.heap[g]? = some (.cells cur t (0,0))->w.grownBy (w.setCells g o vs) (some g)/\∃ cur',(w.setCells g o vs).heap[g]? = some (.cells cur' t (0,0))/\cur'.size=cur.size
 | [],o,w,cur,h=>⟨ae w (some g),cur,h,rfl⟩
 | v :: r,o,w,cur,h=>by
  have a:(w.setCell ⟨g,o,none⟩ v).heap[g]? = some (.cells (cur.setIfInBounds o v) t (0,0)):=heap_setCell_same w g o _ _ _ h;obtain ⟨b,cur',c,d⟩:=jU r (o+1) _ _ a;refine ⟨aw (r:=some g) (aj (ae w _)) b (fun _ _ e=>e) (fun _ _ e=>e),cur',c,?_⟩;rw [d,Array.size_setIfInBounds]
def zeroQ (w:World):(zeroValue 50).run Tryz.prog w=.ok (.string ⟨#[]⟩) w:=zK
def FK (v:Value) (w:World) (h:j5 50 w v):Calls Tryz.prog 18 #[v] w fun e u=>e=.returned (.tuple #[])/\w.grownBy u v.ownBlock/\∀ t2 v2,j5 t2 w v2->j5 t2 u v2:=by
 rcases h with rfl | ⟨g,n,cap,c,rfl,d,J,K,E⟩
 ·have a:∀ ty,(Builtin.clear_ #[31] ty #[.slice none 0 0]).run Tryz.prog w=.ok (.tuple #[]) w:=fun ty=>by
   simp [Builtin.clear_,run_underlying Tryz.underlying31]
  go_enter Tryz.func18,Tryz.ntmps18
  go_wp2_with (simp only [a])
  go_end0
  exact ⟨rfl,ae _ _,fun _ _ h=>h⟩
 ·unfold maxLen at E;by_cases y:cap=0
  ·subst y;obtain rfl:n=0:=O
   have a:∀ ty,(Builtin.clear_ #[31] ty #[.slice (some ⟨g,0,none⟩) 0 0]).run Tryz.prog w=.ok (.tuple #[]) w:=fun ty=>by
    simp [Builtin.clear_,run_underlying Tryz.underlying31]
   go_enter Tryz.func18,Tryz.ntmps18
   go_wp2_with (simp only [a])
   go_end0
   exact ⟨rfl,ae _ _,fun _ _ h=>h⟩
  ·have a:∀ ty,(Builtin.clear_ #[31] ty #[.slice (some ⟨g,0,none⟩) cap cap]).run Tryz.prog w=.ok (.tuple #[]) (w.setCells g 0 (List.replicate cap (.string ⟨#[]⟩))) :=
    fun ty=>Lib.run_clear_slice w 31 50 ty (.string ⟨#[]⟩) Tryz.underlying31 zeroQ rfl rfl g 0 cap cap O (fun j H=>by simp [World.cell?,d];omega) (fun j H=>by simp [World.frozen?,d])
   obtain ⟨p,q⟩:∃ p,p=w.setCells g 0 (List.replicate cap (.string ⟨#[]⟩)):=⟨_,rfl⟩;obtain ⟨i,f,l,s⟩:=jU (List.replicate cap (.string ⟨#[]⟩)) 0 w c d;rw [<- q] at i l a;have m:=ab i;have z:=ab l;have C:=ab s;have D:=ab d;clear i l s d q;go_enter Tryz.func18,Tryz.ntmps18
   go_wp2_with (simp only [a])
   go_end0
   refine ⟨rfl,m,fun t2 v2 r=>?_⟩;rcases r with r | ⟨b,t,c2,u2,rfl,q1,q2,q3,q4⟩
   ·exact .inl r
   ·by_cases e:b=g
    ·subst e;have o:=D.out;rw [q1] at o;obtain ⟨F,G⟩:u2=c/\t2=50:=by simpa using o
     exact .inr ⟨b,t,c2,f,rfl,by rw [G];exact z,by rw [C,<- F];exact q2,q3,q4⟩
    ·exact .inr ⟨b,t,c2,u2,rfl,by rw [m.block b (zZ q1).1 (fun h=>e (zJ h))];exact q1,q2,q3,q4⟩
def zeroB (w:World):(zeroValue 4).run Tryz.prog w=.ok (.bool false) w:=zK
def Cn (v:Value) (w:World) (h:j5 4 w v):Calls Tryz.prog 19 #[v] w fun e u=>e=.returned (.tuple #[])/\w.grownBy u v.ownBlock/\∀ t2 v2,j5 t2 w v2->j5 t2 u v2:=by
 rcases h with rfl | ⟨g,n,cap,c,rfl,d,J,K,E⟩
 ·have a:∀ ty,(Builtin.clear_ #[34] ty #[.slice none 0 0]).run Tryz.prog w=.ok (.tuple #[]) w:=fun ty=>by
   simp [Builtin.clear_,run_underlying Tryz.underlying34]
  go_enter Tryz.func19,Tryz.ntmps19
  go_wp2_with (simp only [a])
  go_end0
  exact ⟨rfl,ae _ _,fun _ _ h=>h⟩
 ·unfold maxLen at E;by_cases y:cap=0
  ·subst y;obtain rfl:n=0:=O
   have a:∀ ty,(Builtin.clear_ #[34] ty #[.slice (some ⟨g,0,none⟩) 0 0]).run Tryz.prog w=.ok (.tuple #[]) w:=fun ty=>by
    simp [Builtin.clear_,run_underlying Tryz.underlying34]
   go_enter Tryz.func19,Tryz.ntmps19
   go_wp2_with (simp only [a])
   go_end0
   exact ⟨rfl,ae _ _,fun _ _ h=>h⟩
  ·have a:∀ ty,(Builtin.clear_ #[34] ty #[.slice (some ⟨g,0,none⟩) cap cap]).run Tryz.prog w=.ok (.tuple #[]) (w.setCells g 0 (List.replicate cap (.bool false))) :=
    fun ty=>Lib.run_clear_slice w 34 4 ty (.bool false) Tryz.underlying34 zeroB rfl rfl g 0 cap cap O (fun j H=>by simp [World.cell?,d];omega) (fun j H=>by simp [World.frozen?,d])
   obtain ⟨p,q⟩:∃ p,p=w.setCells g 0 (List.replicate cap (.bool false)):=⟨_,rfl⟩;obtain ⟨i,f,l,s⟩:=jU (List.replicate cap (.bool false)) 0 w c d;rw [<- q] at i l a;have m:=ab i;have z:=ab l;have C:=ab s;have D:=ab d;clear i l s d q;go_enter Tryz.func19,Tryz.ntmps19
   go_wp2_with (simp only [a])
   go_end0
   refine ⟨rfl,m,fun t2 v2 r=>?_⟩;rcases r with r | ⟨b,t,c2,u2,rfl,q1,q2,q3,q4⟩
   ·exact .inl r
   ·by_cases e:b=g
    ·subst e;have o:=D.out;rw [q1] at o;obtain ⟨F,G⟩:u2=c/\t2=4:=by simpa using o
     exact .inr ⟨b,t,c2,f,rfl,by rw [G];exact z,by rw [C,<- F];exact q2,q3,q4⟩
    ·exact .inr ⟨b,t,c2,u2,rfl,by rw [m.block b (zZ q1).1 (fun h=>e (zJ h))];exact q1,q2,q3,q4⟩
open Go Go.RowKit
structure SolU (n:Nat) (ps:List aA) (V I:Nat->Rat) (k:Nat):Prop where
 lt:k<2^(aX ps ps.length).length
 sol:bd n (bu (iO ps k) ps) V I
 fits:∀ i,i<ps.length->jA ps V I i
 none:∀ j,j<k->pH n ps j
 only:∀ V' I',bd n (bu (iO ps k) ps) V' I'->(∀ j,j<n->V' j=V j)/\∀ i,i<ps.length->I' i=I i
def SolU.not (h:SolU n ps V I k):¬ pH n ps k:=fun hn =>
 hn ⟨V,I,h.sol,h.fits,fun a I' s=>⟨fun j b=>((h.only a I' s).1 j b).symm,fun i hi=>((h.only a I' s).2 i hi).symm⟩⟩
def DkP (n:Nat) (ps:List aA) (k:Nat) (F1:Int) (n1 n2:Nat) (V I:Nat->Rat) (xs:List Bool):Prop :=
 (F1=7/\n1=0/\n2=0/\xs=[]/\∀ j,j<k->pH n ps j)∨(F1=0/\n1=n/\n2=ps.length/\∃ k0,xs=jP ps k0 (aX ps ps.length).length/\SolU n ps V I k0)
def DsP (nodes:Int) (ps:List aA) (F1 F2:Int) (n1 n2:Nat) (V I:Nat->Rat) (xs:List Bool):Prop :=
 ((aM nodes ps).1≠0/\F1=(aM nodes ps).1/\F2=(aM nodes ps).2/\n1=0/\n2=0/\xs=[])∨((aM nodes ps).1=0/\F2=0/\DkP nodes.toNat ps (2^(aX ps ps.length).length) F1 n1 n2 V I xs)
def DkP.same {g l:Int} {c d m o:Nat} {U J:Nat->Rat} {ys:List Bool} (h:DkP n ps (2^(aX ps ps.length).length) g c d V I xs) (q:DkP n ps (2^(aX ps ps.length).length) l m o U J ys) :
  g=l/\c=m/\d=o/\xs=ys/\(∀ j,j<c->V j=U j)/\∀ i,i<d->I i=J i:=by
 rcases h with ⟨rfl,rfl,rfl,rfl,a⟩ | ⟨rfl,rfl,rfl,k,rfl,s⟩<;>rcases q with ⟨rfl,rfl,rfl,rfl,b⟩ | ⟨rfl,rfl,rfl,p,rfl,t⟩
 ·exact ⟨rfl,rfl,rfl,rfl,fun j f=>O,fun j f=>O⟩
 ·exact absurd (a _ t.lt) t.not
 ·exact absurd (b _ s.lt) s.not
 ·rcases Nat.lt_trichotomy k p with e | rfl | e
  ·exact absurd (t.none k e) s.not
  ·exact ⟨rfl,rfl,rfl,rfl,fun j f=>((s.only U J t.sol).1 j f).symm,fun i hi=>((s.only U J t.sol).2 i hi).symm⟩
  ·exact absurd (s.none p e) t.not
def DsP.same {a:Int} {f g l m:Int} {b d o p:Nat} {U J:Nat->Rat} {ys:List Bool} (h:DsP a ps f g b d V I xs) (q:DsP a ps l m o p U J ys) :
  f=l/\g=m/\b=o/\d=p/\xs=ys/\(∀ j,j<b->V j=U j)/\∀ i,i<d->I i=J i:=by
 rcases h with ⟨c,rfl,rfl,rfl,rfl,rfl⟩ | ⟨c,rfl,k⟩<;>rcases q with ⟨e,rfl,rfl,rfl,rfl,rfl⟩ | ⟨e,rfl,s⟩
 ·exact ⟨rfl,rfl,rfl,rfl,rfl,fun j t=>O,fun j t=>O⟩
 ·exact absurd e c
 ·exact absurd c e
 ·obtain ⟨rfl,r⟩:=k.same s;exact ⟨rfl,rfl,r⟩
def DsP.small {a:Int} {e f:Int} {b d:Nat} (h:DsP a ps e f b d V I xs):b<=100/\d<=100/\xs.length<=100:=by
 rcases h with ⟨_,_,_,rfl,rfl,rfl⟩ | ⟨c,_,⟨_,rfl,rfl,rfl,_⟩ | ⟨_,rfl,rfl,k,rfl,_⟩⟩
 ·simp
 ·simp
 ·obtain ⟨g,_,i,_⟩:=kZ c;have:=g.hi;rw [iP];omega
def gL {α:Type} {f:α->Value} (w:World):iu f w (.slice none 0 0) []:=⟨none,0,rfl,zL,by unfold maxLen;omega,fun i hi=>absurd hi (Nat.not_lt_zero _)⟩
def uA.rowG (h:uA ps k x w) (b:ps.length<=16):iu bv w x (jP ps k (aX ps ps.length).length):=by
 obtain ⟨g,rfl,c⟩:=h;refine ⟨some ⟨g,0,none⟩,ps.length,by rw [iP],by rw [iP];exact zL,by unfold maxLen;omega,fun i hi=>⟨g,0,rfl,?_⟩⟩;rw [iP] at hi;have a:=c i hi;refine ⟨bS a,?_⟩;rw [Nat.zero_add,a];simp only [jP,List.getElem_map,List.getElem_range];rw [Ak ps k i hi]
def uu.room (h:uu base ps k x w) (a:ps.length<=16):j5 4 w x/\∀ b,x.ownBlock=some b->base<=b:=by
 obtain ⟨g,hb,rfl,ha⟩:=h;exact ⟨.inr ⟨g,_,_,_,rfl,ha,by simp [iP],zL,by unfold maxLen;omega⟩,fun b e=>by cases e;exact hb⟩
def xK (a:Int) (f:Option Addr) (h:Nat) (ps:List aA) (L:Nat) (w:World) (hb:kn w) (q:fG w) (j:aB w (.slice f ps.length h) ps)
  (hs:∀ p∈ps,p.v.size+2<=L) (hLs:∀ n,cH n ps->iG (cS n ps) (n+ps.length)<L) (hL:L<=49000000) (hL2:2<=L) :
  Calls Tryz.prog 15 #[.agg #[.int .i64 a,.slice f ps.length h]] w fun e w' =>
   ∃ u v jv F1 F2 n1 n2 V I xs,e=.returned (.tuple #[.agg #[u,v],jv,.agg #[.int .i64 F1,.int .i64 F2]])/\w.grownBy w' none/\bM sv 50 w' w.heap.size u (aL V n1)/\bM sv 50 w' w.heap.size v (aL I n2)
    /\ iu bv w' jv xs/\(j5 4 w' jv/\∀ b,jv.ownBlock=some b->w.heap.size<=b)/\DsP a ps F1 F2 n1 n2 V I xs:=by
 by_cases hc:(aM a ps).1=0
 ·obtain ⟨l,d,m,_⟩:=kZ hc;obtain ⟨n,hn⟩:=eX a.toNat;rw [<- hn] at d l;subst d;refine (rH n f h ps L w hb q j hc hs (hLs n l) hL hL2).mono ?_;rintro e w' ⟨u,v,jv,c,rfl,g,⟨rfl,V,I,k,⟨s1,s2,s3,s4,_,_,s7⟩,o,r,s⟩ | ⟨rfl,rfl,rfl,rfl,i⟩⟩
  ·exact ⟨u,v,jv,0,0,n,ps.length,V,I,_,rfl,g,r,s,o.hd.rowG m,o.room m,.inr ⟨hc,rfl,.inr ⟨rfl,hn,rfl,k,rfl,by rw [<- hn];exact ⟨s1,s2,s3,s4,s7⟩⟩⟩⟩
  ·exact ⟨_,_,_,7,0,0,0,fun _=>0,fun _=>0,_,rfl,g,fA,fA,gL _,⟨.inl rfl,fun b e=>by cases e⟩,.inr ⟨hc,rfl,.inl ⟨rfl,rfl,rfl,rfl,by rw [<- hn];exact i⟩⟩⟩
 ·refine (xL a f h ps w hb j hc).mono ?_;rintro e w' ⟨rfl,g⟩;exact ⟨_,_,_,_,_,0,0,fun _=>0,fun _=>0,_,rfl,g,fA,fA,gL _,⟨.inl rfl,fun b e=>by cases e⟩,.inl ⟨hc,rfl,rfl,rfl,rfl,rfl⟩⟩
def gh (a b:Int):List aA:=[⟨4,1,0,0,0,⟨#[49]⟩⟩,⟨8,a,b,0,0,⟨#[]⟩⟩,⟨1,2,0,0,0,⟨#[49]⟩⟩]
def ofR_1:fI [49]=1:=by unfold fI;decide +kernel
def ofR_0:fI []=0:=by unfold fI;decide +kernel
def Ec (a b:Int) (f:Nat->Bool) (V I:Nat->Rat):bd 3 (bu f (gh a b)) V I↔V 0=0/\(I 0+ks ⟨8,a,b,0,0,⟨#[]⟩⟩ 1*I 1=0)/\(ks ⟨8,a,b,0,0,⟨#[]⟩⟩ 2*I 1+I 2=0)/\V 1-V 0=1/\(if f 1 then V a.toNat-V b.toNat=0 else I 1=0)/\V 2-V 0-I 2=0:=by
 have o:∀ r,iJ (bu f (gh a b)) 0 r=ks ⟨4,1,0,0,0,⟨#[49]⟩⟩ r:=fun r=>by rw [m7];rfl
 have s:∀ r,iJ (bu f (gh a b)) 1 r=ks ⟨8,a,b,0,0,⟨#[]⟩⟩ r:=fun r=>by rw [m7];rfl
 have t:∀ r,iJ (bu f (gh a b)) 2 r=ks ⟨1,2,0,0,0,⟨#[49]⟩⟩ r:=fun r=>by rw [m7];rfl
 have u:(bu f (gh a b)).length=3:=by rw [dq];rfl
 have J:ks ⟨4,1,0,0,0,⟨#[49]⟩⟩ 1=1:=by decide +kernel
 have K:ks ⟨4,1,0,0,0,⟨#[49]⟩⟩ 2=0:=by decide +kernel
 have L:ks ⟨1,2,0,0,0,⟨#[49]⟩⟩ 1=0:=by decide +kernel
 have M:ks ⟨1,2,0,0,0,⟨#[49]⟩⟩ 2=1:=by decide +kernel
 have y:jy (fun i=>iJ (bu f (gh a b)) i 1*I i) 3=I 0+ks ⟨8,a,b,0,0,⟨#[]⟩⟩ 1*I 1:=by
  unfold jy jy jy jy;rw [o,s,t,J,L];grind
 have z:jy (fun i=>iJ (bu f (gh a b)) i 2*I i) 3=ks ⟨8,a,b,0,0,⟨#[]⟩⟩ 2*I 1+I 2:=by
  unfold jy jy jy jy;rw [o,s,t,K,M];grind
 have s0:(bu f (gh a b))[0]? = some ⟨4,1,0,0,0,⟨#[49]⟩⟩:=by rw [du];rfl
 have s2:(bu f (gh a b))[2]? = some ⟨1,2,0,0,0,⟨#[49]⟩⟩:=by rw [du];rfl
 have s1:(bu f (gh a b))[1]? = some (bX (f 1) ⟨8,a,b,0,0,⟨#[]⟩⟩):=by rw [du];rfl
 have get:∀ {i:Nat} {p:aA} (h:i<(bu f (gh a b)).length),(bu f (gh a b))[i]? = some p->(bu f (gh a b))[i]=p:=by
  intro i p h e;rw [zX h] at e;exact zJ e
 have q1:(⟨4,1,0,0,0,⟨#[49]⟩⟩:aA).q=1:=ofR_1;have q2:(⟨1,2,0,0,0,⟨#[49]⟩⟩:aA).q=1:=ofR_1;have C:∀ x:aA,x=⟨4,1,0,0,0,⟨#[49]⟩⟩->((bO x.kind x.q*(V x.a.toNat-V x.b.toNat)+cA x.kind x.q*(V x.c.toNat-V x.d.toNat)+bP x.kind x.q*I 0=bQ x.kind x.q)↔V 1-V 0=1):=by
  rintro x rfl;rw [q1];simp [bO,cA,bP,bQ];grind
 have D:∀ x:aA,x=⟨1,2,0,0,0,⟨#[49]⟩⟩->((bO x.kind x.q*(V x.a.toNat-V x.b.toNat)+cA x.kind x.q*(V x.c.toNat-V x.d.toNat)+bP x.kind x.q*I 2=bQ x.kind x.q)↔V 2-V 0-I 2=0):=by
  rintro x rfl;rw [q2];simp [bO,cA,bP,bQ];grind
 have E:∀ x:aA,x=bX (f 1) ⟨8,a,b,0,0,⟨#[]⟩⟩->((bO x.kind x.q*(V x.a.toNat-V x.b.toNat)+cA x.kind x.q*(V x.c.toNat-V x.d.toNat)+bP x.kind x.q*I 1=bQ x.kind x.q)↔(if f 1 then V a.toNat-V b.toNat=0 else I 1=0)):=by
  have q0:(⟨8,a,b,0,0,⟨#[]⟩⟩:aA).q=0:=ofR_0;have q4:(⟨4,a,b,0,0,⟨#[]⟩⟩:aA).q=0:=ofR_0;rintro x rfl;cases f 1 with
  | true =>
   have e:bX true ⟨8,a,b,0,0,⟨#[]⟩⟩=⟨4,a,b,0,0,⟨#[]⟩⟩:=rfl;rw [e,q4];simp [bO,cA,bP,bQ];grind
  | false =>
   have e:bX false ⟨8,a,b,0,0,⟨#[]⟩⟩=⟨8,a,b,0,0,⟨#[]⟩⟩:=rfl;rw [e,q0];simp [bO,cA,bP,bQ];grind
 constructor
 ·rintro ⟨l,hn,m⟩;have g:=hn 1 O O;have j:=hn 2 O O;rw [u] at g j;rw [y] at g;rw [z] at j;have F:0<(bu f (gh a b)).length:=O
  have G:1<(bu f (gh a b)).length:=O
  have H:2<(bu f (gh a b)).length:=O
  exact ⟨l,g,j,(C _ (get F s0)).1 (m 0 F),(E _ (get G s1)).1 (m 1 G),(D _ (get H s2)).1 (m 2 H)⟩
 ·rintro ⟨l,g,j,N,P,Q⟩;refine ⟨l,fun r R S=>?_,fun i hi=>?_⟩
  ·rw [u];have:r=1∨r=2:=O
   rcases this with rfl | rfl
   ·rw [y];exact g
   ·rw [z];exact j
  ·have:i=0∨i=1∨i=2:=O
   rcases this with rfl | rfl | rfl
   ·exact (C _ (get hi s0)).2 N
   ·exact (E _ (get hi s1)).2 P
   ·exact (D _ (get hi s2)).2 Q
def tK (a b:Int):(aX (gh a b) (gh a b).length).length=1:=rfl
def ld_d1 (a b:Int):(aX (gh a b) 1).length=0:=rfl
def tL (a b:Int):iO (gh a b) 0 1=false:=by
 unfold iO;rw [ld_d1];simp
def yi (a b:Int):iO (gh a b) 1 1=true:=by
 unfold iO;rw [ld_d1];simp [gh]
def oR (a:Nat->Bool) (V I:Nat->Rat):bd 3 (bu a (gh 1 2)) V I↔V 0=0/\V 1=1/\I 0+I 1=0/\I 2=I 1/\V 2=I 2/\(if a 1 then V 1=V 2 else I 1=0):=by
 rw [Ec];have b:ks ⟨8,1,2,0,0,⟨#[]⟩⟩ 1=1:=by decide +kernel
 have c:ks ⟨8,1,2,0,0,⟨#[]⟩⟩ 2 = -1:=by decide +kernel
 rw [b,c];show _/\_/\_/\_/\(if a 1 then V 1-V 2=0 else I 1=0)/\_↔_
 cases a 1<;>simp<;>grind
def tJ (a:Nat->Bool) (V I:Nat->Rat):bd 3 (bu a (gh 2 1)) V I↔V 0=0/\V 1=1/\I 0-I 1=0/\I 2+I 1=0/\V 2=I 2/\(if a 1 then V 2=V 1 else I 1=0):=by
 rw [Ec];have b:ks ⟨8,2,1,0,0,⟨#[]⟩⟩ 1 = -1:=by decide +kernel
 have c:ks ⟨8,2,1,0,0,⟨#[]⟩⟩ 2=1:=by decide +kernel
 rw [b,c];show _/\_/\_/\_/\(if a 1 then V 2-V 1=0 else I 1=0)/\_↔_
 cases a 1<;>simp<;>grind
def yh {a b:Int} : (∀ i,i<(gh a b).length->jA (gh a b) V I i)↔0<=I 1/\V a.toNat-V b.toNat<=0:=by
 constructor
 ·intro h;exact h 1 (by show 1<3;omega) (by show 1<3;omega) rfl
 ·intro h i hi d h8;have c:i<3:=hi;have:i=0∨i=1∨i=2:=O
  rcases this with rfl | rfl | rfl
  ·have h8:(4:Int)=8:=h8;omega
  ·exact h
  ·have h8:(1:Int)=8:=h8;omega
def ld1_one (h:SolK 3 (gh 1 2) I k):k=1/\I 0 = -1/\I 1=1/\I 2=1:=by
 obtain ⟨V,c,a,hf,_⟩:=h;rw [tK] at c;have hf:=yh.1 hf;have b:V 1-V 2<=0:=hf.2;have:k=0∨k=1:=O
 rcases this with rfl | rfl
 ·obtain ⟨d,e,f,g,i,h5⟩:=(oR _ _ _).1 a;rw [tL] at h5;have h5:I 1=0:=h5;exfalso
  grind
 ·obtain ⟨d,e,f,g,i,h5⟩:=(oR _ _ _).1 a;rw [yi] at h5;have h5:V 1=V 2:=h5;exact ⟨rfl,by grind,by grind,by grind⟩
def ld1_not:¬ pH 3 (gh 1 2) 1:=by
 intro h;refine h ⟨fun j=>if j=0 then 0 else 1,fun i=>if i=0 then -1 else 1,(oR _ _ _).2 ?_,yh.2 ?_,?_⟩
 ·rw [yi];exact ⟨rfl,rfl,by decide +kernel,rfl,rfl,rfl⟩
 ·exact ⟨by decide +kernel,by decide +kernel⟩
 ·intro V' I' hs;obtain ⟨h0,h1,h2,h3,h4,h5⟩:=(oR _ _ _).1 hs;rw [yi] at h5;have h5:V' 1=V' 2:=h5;constructor
  ·intro j hj;have:j=0∨j=1∨j=2:=O
   rcases this with rfl | rfl | rfl
   ·show (0:Rat)=_;grind
   ·show (1:Rat)=_;grind
   ·show (1:Rat)=_;grind
  ·intro j hj;have hj:j<3:=hj;have:j=0∨j=1∨j=2:=O
   rcases this with rfl | rfl | rfl
   ·show (-1:Rat)=_;grind
   ·show (1:Rat)=_;grind
   ·show (1:Rat)=_;grind
def zUq:¬ pH 3 (gh 2 1) 0:=by
 intro h;refine h ⟨fun j=>if j=1 then 1 else 0,fun i=>0,(tJ _ _ _).2 ?_,yh.2 ?_,?_⟩
 ·rw [tL];exact ⟨rfl,rfl,by decide +kernel,by decide +kernel,rfl,rfl⟩
 ·exact ⟨by decide +kernel,by decide +kernel⟩
 ·intro V' I' hs;obtain ⟨h0,h1,h2,h3,h4,h5⟩:=(tJ _ _ _).1 hs;rw [tL] at h5;have h5:I' 1=0:=h5;constructor
  ·intro j hj;have:j=0∨j=1∨j=2:=O
   rcases this with rfl | rfl | rfl
   ·show (0:Rat)=_;grind
   ·show (1:Rat)=_;grind
   ·show (0:Rat)=_;grind
  ·intro j hj;have hj:j<3:=hj;have:j=0∨j=1∨j=2:=O
   rcases this with rfl | rfl | rfl
   ·show (0:Rat)=_;grind
   ·show (0:Rat)=_;grind
   ·show (0:Rat)=_;grind
def ld2_one (h:SolK 3 (gh 2 1) I k):k=0/\I 0=0/\I 1=0/\I 2=0:=by
 obtain ⟨V,b,c,d,a,_⟩:=h;rw [tK] at b;have:k=0∨k=1:=O
 rcases this with rfl | rfl
 ·obtain ⟨e,f,g,i,j,h5⟩:=(tJ _ _ _).1 c;rw [tL] at h5;have h5:I 1=0:=h5;exact ⟨rfl,by grind,by grind,by grind⟩
 ·exact absurd (a 0 O) zUq
attribute [local simp] bL eJ dP
def vG {w d:World} {e:Nat} (a b:Int) (hh:d.heap[e]? = some (Obj.cells (bG (gh a b)).toArray 55 (0,0))):aB d (.slice (some ⟨e,0,none⟩) 3 3) (gh a b):=by
 refine kI (zZ hh).1 rfl zD (by unfold maxLen;omega) (fun i hi=>?_) (fun j f=>?_)
 ·have c:i<3:=hi;match i,c with
  | 0,_=>exact (by decide:(1:Nat)<=600000000)
  | 1,_=>exact (by decide:(0:Nat)<=600000000)
  | 2,_=>exact (by decide:(1:Nat)<=600000000)
 ·simp only [World.cell?,hh];rw [List.getElem?_toArray];rfl
def BC:aM 3 (gh 1 2)=(0,0):=by decide +kernel
def BD:aM 3 (gh 2 1)=(0,0):=by decide +kernel
def ld_sum (a b:Int):iG (cS 3 (gh a b)) (3+(gh a b).length)<100:=by
 rw [qK];have e:dV (gh a b)=2:=rfl;have c:(gh a b).length=3:=rfl;omega
def qh (a b:Int) (c:Nat) (w:World) (hb:kn w) (f:fG w) (g:aB w (.slice (some ⟨c,0,none⟩) 3 3) (gh a b)) (hc:aM 3 (gh a b)=(0,0)) :
  Calls Tryz.prog 15 #[.agg #[.int .i64 3,.slice (some ⟨c,0,none⟩) 3 3]] w fun e h=>DxE w 3 (gh a b) e h :=
 rH 3 (some ⟨c,0,none⟩) 3 (gh a b) 100 w hb f g (by show (aM 3 (gh a b)).1=0;rw [hc]) (fun p d=>by
  have:p=⟨4,1,0,0,0,⟨#[49]⟩⟩∨p=⟨8,a,b,0,0,⟨#[]⟩⟩∨p=⟨1,2,0,0,0,⟨#[49]⟩⟩:=by simpa [gh] using d
  rcases this with rfl | rfl | rfl
  ·exact (by decide:(1:Nat)+2<=100)
  ·exact (by decide:(0:Nat)+2<=100)
  ·exact (by decide:(1:Nat)+2<=100)) (ld_sum a b) O O
def ld_txt1 (h:I 0 = -1/\I 1=1/\I 2=1):aL I 3=[⟨#[45,49]⟩,⟨#[49]⟩,⟨#[49]⟩]:=by
 obtain ⟨a,b,c⟩:=h;show [(⟨(cE (I 0)).toArray⟩:ByteArray),⟨(cE (I 1)).toArray⟩,⟨(cE (I 2)).toArray⟩]=_
 rw [a,b,c];decide +kernel
def ld_txt2 (h:I 0=0/\I 1=0/\I 2=0):aL I 3=[⟨#[48]⟩,⟨#[48]⟩,⟨#[48]⟩]:=by
 obtain ⟨a,b,c⟩:=h;show [(⟨(cE (I 0)).toArray⟩:ByteArray),⟨(cE (I 1)).toArray⟩,⟨(cE (I 2)).toArray⟩]=_
 rw [a,b,c];decide +kernel
def vh {a b:Int} {l:List Bool} (h:uA (gh a b) k x w) (f:l=[iO (gh a b) k 0,iO (gh a b) k 1,iO (gh a b) k 2]):iu bv w x l:=by
 subst f;obtain ⟨g,e,c⟩:=h;refine ⟨_,_,e,Nat.le_refl 3,by show (3:Nat)<=maxLen;unfold maxLen;decide,fun i hi=>⟨g,0,rfl,bS (c 0 (by show 0<3;decide)),?_⟩⟩;have d:i<3:=hi;rw [Nat.zero_add];match i,d with
 | 0,_=>exact c 0 (by show 0<3;decide)
 | 1,_=>exact c 1 (by show 1<3;decide)
 | 2,_=>exact c 2 (by show 2<3;decide)
def qA (w:World) (t:TypeId) (x y z:Bool):iu bv (w.alloc (Obj.cells #[.bool x,.bool y,.bool z] t)) (.slice (some ⟨w.heap.size,0,none⟩) 3 3) [x,y,z]:=by
 refine ⟨_,3,rfl,Nat.le_refl 3,by unfold maxLen;omega,fun i hi=>⟨w.heap.size,0,rfl,Z,?_⟩⟩;have hn:=heap_alloc_new w (Obj.cells #[.bool x,.bool y,.bool z] t);have a:i<3:=hi;simp only [World.cell?,hn,Nat.zero_add];match i,a with
 | 0,_=>rfl
 | 1,_=>rfl
 | 2,_=>rfl
def Ed (w:World) (hb:kn w) (ht:fG w):Calls Tryz.prog 4 #[] w fun e w'=>e=.returned (.bool true)/\w.grownBy w' none:=by
 have HB:=ab hb;have HT:=ab ht;have G0:Hid (w.grownBy w none):=ae _ _;clear hb ht;go_enter Tryz.func4,Tryz.ntmps4
 go_wp2_with fail;refine (fQ 4 1 0 _ _).mono ?_;rintro e wa ⟨rfl,M⟩;have s:=ab (aa G0 M);clear M ;go_wp2_with fail;refine (fQ 8 1 2 _ _).mono ?_;rintro e wb ⟨rfl,N⟩;have t:=ab (aa s N);clear N s;go_wp2_with fail;refine (fQ 1 2 0 _ _).mono ?_;rintro e f ⟨rfl,P⟩;have u:=ab (aa t P);clear P t;go_upto_region 2 with fail;obtain ⟨gp,b⟩:=eX f.heap.size;obtain ⟨gn,d⟩:=eX (f.heap.size+1);obtain ⟨w4,a⟩:=eX ((f.alloc (Obj.cells #[.int .i64 4,.int .i64 1,.int .i64 0,.int .i64 0,.int .i64 0,.string ⟨#[49]⟩,.int .i64 8,.int .i64 1,.int .i64 2,.int .i64 0,.int .i64 0,.string ⟨#[]⟩,.int .i64 1,.int .i64 2,.int .i64 0,.int .i64 0,.int .i64 0,.string ⟨#[49]⟩] 55)).alloc (Obj.cells #[.int .i64 3,.slice (some ⟨f.heap.size,0,none⟩) 3 3] 24));have y:Hid (w.grownBy w4 none):=by rw [a];exact aa u (ag (ag (ae _ _) _) _)
 have hm:Hid (∀ wx,w4.grownBy wx none->wx.cell? ⟨gn,0,none⟩=some (.int .i64 3)/\wx.cell? ⟨gn,1,none⟩=some (.slice (some ⟨gp,0,none⟩) 3 3)):=by
  intro wx hg;rw [a] at hg;rw [d,b];exact ⟨hg.cell zG Z,hg.cell zG Z⟩
 have ho:Hid (aB w4 (.slice (some ⟨gp,0,none⟩) 3 3) (gh 1 2)):=by
  refine vG (w:=w) 1 2 ?_;rw [a,b];exact ((ag (ae _ none) _).block _ Z Z).trans (heap_alloc_new f _)
 rw [<- a];try rw [<- d]
 try rw [<- b]
 clear a d b u;go_wp2_with fail;refine (fQ 4 1 0 _ _).mono ?_;rintro e wa ⟨rfl,M⟩;have s:=ab M;clear M ;go_wp2_with fail;refine (fQ 8 2 1 _ _).mono ?_;rintro e wb ⟨rfl,N⟩;have t:=ab (aa s N);clear N s;go_wp2_with fail;refine (fQ 1 2 0 _ _).mono ?_;rintro e f ⟨rfl,P⟩;have u:=ab (aa t P);clear P t;go_upto_region 3 with fail;obtain ⟨gq,b⟩:=eX f.heap.size;obtain ⟨gm,d⟩:=eX (f.heap.size+1);obtain ⟨Q,a⟩:=eX ((f.alloc (Obj.cells #[.int .i64 4,.int .i64 1,.int .i64 0,.int .i64 0,.int .i64 0,.string ⟨#[49]⟩,.int .i64 8,.int .i64 2,.int .i64 1,.int .i64 0,.int .i64 0,.string ⟨#[]⟩,.int .i64 1,.int .i64 2,.int .i64 0,.int .i64 0,.int .i64 0,.string ⟨#[49]⟩] 55)).alloc (Obj.cells #[.int .i64 3,.slice (some ⟨f.heap.size,0,none⟩) 3 3] 24));have z:Hid (w4.grownBy Q none):=by rw [a];exact aa u (ag (ag (ae _ _) _) _)
 have hp:Hid (∀ wx,Q.grownBy wx none->wx.cell? ⟨gm,0,none⟩=some (.int .i64 3)/\wx.cell? ⟨gm,1,none⟩=some (.slice (some ⟨gq,0,none⟩) 3 3)):=by
  intro wx hg;rw [a] at hg;rw [d,b];exact ⟨hg.cell zG Z,hg.cell zG Z⟩
 have hq:Hid (aB Q (.slice (some ⟨gq,0,none⟩) 3 3) (gh 2 1)):=by
  refine vG (w:=w) 2 1 ?_;rw [a,b];exact ((ag (ae _ none) _).block _ Z Z).trans (heap_alloc_new f _)
 rw [<- a];try rw [<- d]
 try rw [<- b]
 clear a d b u;obtain ⟨n0,n1⟩:=hm.out Q z;go_wp2_with fail;refine (qh 1 2 gp Q (HB.keep (aa y z)) (HT.keep0 (aa y z)) (ho.keep z) BC).mono ?_;rintro e p ⟨_,v,jv,c,rfl,g6,g⟩;rcases g with ⟨rfl,V1,I1,k1,hS,R,hU,j⟩ | ⟨_,_,_,_,l⟩
 case inr=>exact absurd (l 1 (by rw [tK];decide)) ld1_not
 obtain ⟨rfl,S,T,U⟩:=ld1_one ⟨_,hS⟩;have HI:=ab (And.intro S (And.intro T U));have C:=ab R;obtain ⟨uo,uc,rfl⟩:=hU.shape;clear hU;have D:=ab j;have G6:=ab (aa z g6);have hr:=ab g6;obtain ⟨gj,_,rfl,_⟩:=R;obtain ⟨oa,oc,rfl⟩:=j.shape;clear hS S T U j g6 n0 n1;go_upto_region 4 with fail;refine cG (fun wx=>p.grownBy wx none/\fE wx p.heap.size 33 (.slice uo (aL V1 3).length uc) (.slice oa (aL I1 (gh 1 2).length).length oc)/\fE wx (p.heap.size+1) 29 (.int .i64 0) (.int .i64 0)) ?_ ?_
 ·refine ⟨ag (ag (ae _ _) _) _,(cU p _ _ _).keep (ag (ae _ none) _) Z,?_⟩;have h:=cU (p.alloc (Obj.cells #[.slice uo (aL V1 3).length uc,.slice oa (aL I1 (gh 1 2).length).length oc] 33)) 29 (.int .i64 0) (.int .i64 0);rw [World.size_alloc] at h;exact h
 rintro w7 ⟨W,m,o⟩;obtain ⟨ba,X⟩:=eX p.heap.size;rw [<- X] at m o ⊢;clear X;have BA:=ab m;have BF:=ab o;have G7:=ab (aa G6 W);have E:=ab (aa hr W);have hs:=ab (C.keep W nofun);have hu:=ab (D.keep0 W);clear W m o C D;obtain ⟨n0,n1⟩:=hp.out w7 (by have:=G7.out;exact E);go_wp2_with fail;refine (qh 2 1 gq w7 (HB.keep (aa y G7)) (HT.keep0 (aa y G7)) (hq.keep E) BD).mono ?_;rintro e q ⟨_,v,hA,c,rfl,r,g⟩;rcases g with ⟨rfl,V2,I2,k2,hS,R,hU,j⟩ | ⟨_,_,_,_,l⟩
 case inr=>exact absurd (l 0 (by rw [tK];decide)) zUq
 obtain ⟨rfl,S,T,U⟩:=ld2_one ⟨_,hS⟩;have hv:=ab (And.intro S (And.intro T U));have F:=ab R;obtain ⟨Y,he,rfl⟩:=hU.shape;clear hU;have G:=ab j;have G8:=ab (aa G7 r);have H:=ab (hs.keep r nofun);have J:=ab (hu.keep0 r);have K:=ab (BA.keep r Z);have L:=ab (BF.keep r Z);obtain ⟨hB,_,rfl,_⟩:=R;obtain ⟨hf,hj,rfl⟩:=j.shape;clear hS S T U j r n0 n1;go_upto_region 5 with fail;refine cG (fun wx=>q.grownBy wx none/\fE wx q.heap.size 33 (.slice Y (aL V2 3).length he) (.slice hf (aL I2 (gh 2 1).length).length hj)/\fE wx (q.heap.size+1) 29 (.int .i64 0) (.int .i64 0)) ?_ ?_
 ·refine ⟨ag (ag (ae _ _) _) _,(cU q _ _ _).keep (ag (ae _ none) _) Z,?_⟩;have h:=cU (q.alloc (Obj.cells #[.slice Y (aL V2 3).length he,.slice hf (aL I2 (gh 2 1).length).length hj] 33)) 29 (.int .i64 0) (.int .i64 0);rw [World.size_alloc] at h;exact h
 rintro w9 ⟨i,m,o⟩;obtain ⟨bb,hk⟩:=eX q.heap.size;rw [<- hk] at m o ⊢;clear hk;have A2:=ab m;have F2:=ab o;have G9:=ab (aa G8 i);have hw:=ab (H.keep i nofun);have hx:=ab (F.keep i nofun);have hy:=ab (J.keep0 i);have hz:=ab (G.keep0 i);have A1:=ab (K.keep i Z);have F1:=ab (L.keep i Z);clear m o i H F J G K L;obtain ⟨f0,_⟩:=F1.out.cells;obtain ⟨h0,_⟩:=F2.out.cells;go_wp2_with fail;refine (nt _ _ [false,true,false] [false,true,false] _ ((vh hw.hd rfl).keep (ag (ae _ _) _)) (qA w9 _ false true false) zD zD).mono ?_;rintro e wa ⟨rfl,ga⟩;rw [decide_eq_true rfl];have GA:=ab (aa (ag (ae w9 none) _) ga);clear ga;go_wp2_with fail;refine (nt _ _ [false,false,false] [false,false,false] _ ((vh hx.hd rfl).keep (aa GA (ag (ae _ _) _))) (qA wa _ false false false) zD zD).mono ?_;rintro e wb ⟨rfl,gb⟩;rw [decide_eq_true rfl];have GB:=ab (aa GA (aa (ag (ae wa none) _) gb));obtain ⟨_,a1,_⟩:=fE.cells (A1.keep GB Z);clear gb GA;go_wp2_with fail;refine (lj _ _ (aL I1 3) [⟨#[45,49]⟩,⟨#[49]⟩,⟨#[49]⟩] _ ((hy.row).keep (aa GB (ag (ae _ _) _))) (qB wb _ ⟨#[45,49]⟩ ⟨#[49]⟩ ⟨#[49]⟩) (by rw [aI];decide) zD).mono ?_
 rintro e hl ⟨rfl,gc⟩;rw [decide_eq_true (ld_txt1 HI)];have GC:=ab (aa GB (aa (ag (ae wb none) _) gc));obtain ⟨_,a2,_⟩:=fE.cells (A2.keep GC Z);clear gc GB a1;go_wp2_with fail;refine (lj _ _ (aL I2 3) [⟨#[48]⟩,⟨#[48]⟩,⟨#[48]⟩] _ ((hz.row).keep (aa GC (ag (ae _ _) _))) (qB hl _ ⟨#[48]⟩ ⟨#[48]⟩ ⟨#[48]⟩) (by rw [aI];decide) zD).mono ?_;rintro e wd ⟨rfl,gd⟩;rw [decide_eq_true (ld_txt2 hv)];have GD:=ab (aa GC (aa (ag (ae hl none) _) gd));clear gd GC a2;go_wp2;go_ret;exact ⟨rfl,aa y (aa G9 GD)⟩
end Go.Proofs.YtbomdfhdocaagaaGreatDoor
