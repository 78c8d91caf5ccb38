/- Contracts. -/
import Derived.Test.YtbfohfjobncehaaGreatDoorXPj
import Derived.Test.YtbfohfjobncehaaGreatDoorXPn
namespace Go.Proofs.YtbfohfjobncehaaGreatDoor
open Go.RowKit
set_option linter.all false
set_option maxHeartbeats 8000000
set_option maxRecDepth 10000
attribute [local simp] gY cM fT lu
variable {w w':World} {ps:List aD} {n i base:Nat} {a:Act} {v:Value} {l:Array Bool} {V I:Nat->Rat} {K:Act->World->Prop} {P:Program} {Q:Exit->Act->World->Prop} {D:Nat->Bool} {ops:Array Oper}
theorem iF (f g:Nat->Rat):∀ k,(∀ i,i<k->f i=g i)->fG f k=fG g k:=by
 intro k;induction k with
 | zero=>intro _;rfl
 | succ k ih=>intro h;rw [bJ,bJ,ih (fun i hi=>h i O),h k O]
theorem aE.congr (b:bS n ps) {c d:Nat->Rat} (h:aE n ps V I) (hV:∀ j,j<n->V j=c j) (e:∀ i,i<ps.length->I i=d i):aE n ps c d:=by
 have f:=b.lo;refine ⟨by rw [<- hV 0 O];exact h.gnd,fun r p hn=>?_,fun i hi=>?_⟩
 ·rw [<- h.node r p hn];exact iF _ _ _ (fun i hi=>by rw [e i hi])
 ·obtain ⟨q,s,t,u,g,k,m,o,ha,hb,hc,hd⟩:=b.ends ps[i] (List.getElem_mem hi);have:=h.part i hi;rw [e i hi,hV _ (by rw [g];simpa using ha),hV _ (by rw [k];simpa using hb),hV _ (by rw [m];simpa using hc),hV _ (by rw [o];simpa using hd)] at this;exact this
theorem jU (c:bS n ps) (h:aE n ps V I):∃ x,mF (iB n ps) (n+ps.length) x/\(∀ j,j<n->x j=V j)/\∀ i,i<ps.length->x (n+i)=I i:=by
 have d:∀ j,j<n->(fun j=>if j<n then V j else if j<n+ps.length then I (j-n) else -1:Nat->Rat) j=V j:=fun j b=>by simp only;rw [if_pos b]
 have e:∀ i,i<ps.length->(fun j=>if j<n then V j else if j<n+ps.length then I (j-n) else -1:Nat->Rat) (n+i)=I i:=fun i hi=>by simp only;rw [if_neg O,if_pos O,show n+i-n=i by omega]
 refine ⟨fun j=>if j<n then V j else if j<n+ps.length then I (j-n) else -1,(iN c _).2 ⟨?_,?_⟩,d,e⟩
 ·rw [if_neg O,if_neg O]
 ·exact h.congr c (fun j b=>(d j b).symm) (fun i hi=>(e i hi).symm)
def oN (ps:List aD):Nat->Rat:=fun j=>match ps[j / 4]? with
 | some p=>if j % 4=0 then bP p.kind p.q else if j % 4=1 then bQ p.kind p.q else if j % 4=2 then cT p.kind p.q else cL p.kind p.q
 | none=>0
theorem tD (hi:i<ps.length):oN ps (i*4)=bP ps[i].kind ps[i].q/\oN ps (i*4+1)=bQ ps[i].kind ps[i].q/\oN ps (i*4+2)=cT ps[i].kind ps[i].q/\oN ps (i*4+3)=cL ps[i].kind ps[i].q:=by
 unfold oN;have b:i*4 / 4=i:=O
 have c:(i*4+1) / 4=i:=O
 have d:(i*4+2) / 4=i:=O
 have e:(i*4+3) / 4=i:=O
 have f:i*4 % 4=0:=O
 have g:(i*4+1) % 4=1:=O
 have h:(i*4+2) % 4=2:=O
 have j:(i*4+3) % 4=3:=O
 simp only [b,c,d,e,f,g,h,j,zX hi];exact ⟨rfl,rfl,rfl,rfl⟩
theorem Dw (hi:i<ps.length) (j:Nat) (f:j<(i+1)*4):ym (oN ps) i (bP ps[i].kind ps[i].q) (bQ ps[i].kind ps[i].q) (cT ps[i].kind ps[i].q) (cL ps[i].kind ps[i].q) j=oN ps j:=by
 obtain ⟨b,c,d,e⟩:=tD hi;unfold ym;by_cases h:j<i*4
 ·rw [if_pos h]
 ·rw [if_neg h];have hc:j=i*4∨j=i*4+1∨j=i*4+2∨j=i*4+3:=O
  rcases hc with rfl | rfl | rfl | rfl
  ·rw [if_pos rfl,b]
  ·rw [if_neg O,if_pos rfl,c]
  ·rw [if_neg O,if_neg O,if_pos rfl,d]
  ·rw [if_neg O,if_neg O,if_neg O,e]
theorem qG (n:Nat) (ps:List aD):kR n ps (oN ps)=iB n ps:=by
 funext r
 unfold kR iB;by_cases b:r=0
 ·rw [if_pos b,if_pos b]
 ·rw [if_neg b,if_neg b];by_cases c:r<n
  ·rw [if_pos c,if_pos c]
  ·rw [if_neg c,if_neg c];by_cases d:r-n<ps.length
   ·obtain ⟨e,f,g,h⟩:=tD d;rw [zX d];simp only [e,f,g,h];rfl
   ·rw [List.getElem?_eq_none O]
theorem uT {b c d e:Rat} {L:Nat} {f g h j k m o p:Option Addr} {q c0 r c1 s c2 t c3 u c4 x c5 y z A B:Nat} (k1:FQ w (.agg #[.bool (rB b),.slice f q c0,.slice g r c1]) b L) (C:FQ w (.agg #[.bool (rB c),.slice h s c2,.slice j t c3]) c L) (E:FQ w (.agg #[.bool (rB d),.slice k u c4,.slice m x c5]) d L) (F:FQ w (.agg #[.bool (rB e),.slice o y z,.slice p A B]) e L) :
  fK w [.bool (rB b),.slice f q c0,.slice g r c1,.bool (rB c),.slice h s c2,.slice j t c3,.bool (rB d),.slice k u c4,.slice m x c5,.bool (rB e),.slice o y z,.slice p A B] 4 (fun i=>if i=0 then b else if i=1 then c else if i=2 then d else e) L:=by
 refine ⟨rfl,fun i hi=>?_⟩;have hc:i=0∨i=1∨i=2∨i=3:=O
 rcases hc with rfl | rfl | rfl | rfl
 ·exact ⟨_,_,_,_,_,_,rfl,rfl,rfl,k1⟩
 ·exact ⟨_,_,_,_,_,_,rfl,rfl,rfl,C⟩
 ·exact ⟨_,_,_,_,_,_,rfl,rfl,rfl,E⟩
 ·exact ⟨_,_,_,_,_,_,rfl,rfl,rfl,F⟩
theorem AV (w:World) (ys:List Value) (T:TypeId) (j:Nat) (u:Value) (h:ys[j]? = some u):(w.alloc (Obj.cells ys.toArray T)).cell? ⟨w.heap.size,j,none⟩=some u:=by
 simp only [World.cell?,heap_alloc_new];rw [List.getElem?_toArray];exact h
theorem Tryz.infoLaw:(Tryz.prog.info? 182).map (fun i=>(i.zero,i.size,i.bytes))=some (some (.agg #[.bool false,.slice none 0 0,.slice none 0 0,.bool false,.slice none 0 0,.slice none 0 0,.bool false,.slice none 0 0,.slice none 0 0,.bool false,.slice none 0 0,.slice none 0 0]),12,224):=zK
def NetE (w:World) (n:Nat) (ps:List aD) (L:Nat) (e:Ending) (w':World):Prop :=
 (∃ v1 v2 V I,e=.returned (.tuple #[v1,v2,.int .i64 0])/\bW w' w.heap.size v1 n V L/\bW w' w.heap.size v2 ps.length I L/\aE n ps V I/\(∀ V' I',aE n ps V' I'->(∀ j,j<n->V' j=V j)/\∀ i,i<ps.length->I' i=I i)/\w.grownBy w' none)
 ∨ (e=.returned (.tuple #[.slice none 0 0,.slice none 0 0,.int .i64 7])/\(¬ ∃ V I,aE n ps V I)/\w.grownBy w' none)
 ∨ (e=.returned (.tuple #[.slice none 0 0,.slice none 0 0,.int .i64 8])/\(∃ V I V' I',aE n ps V I/\aE n ps V' I'/\((∃ j,j<n/\V j≠V' j)∨∃ i,i<ps.length/\I i≠I' i))/\w.grownBy w' none)
def NetL (W:World) (base:Nat) (ps:List aD) (L:Nat) (v9 v:Value) (wr:World):Prop:=∃ i:Nat,i<=ps.length/\v=.int .i64 i/\fH wr base v9 i (oN ps) L/\W.grownBy wr none
theorem net_at (A:Bool) (B g:Option Addr) (fl fc h m:Nat) (n:Nat) (N:Option Addr) (R:Nat) (ps:List aD) (S G bs bz:Nat) (mm:Int) (L:Nat) (w:World) (T:w.cell? ⟨2,0,none⟩=some (.int .i64 mm))
  (h1:FQ w (.agg #[.bool A,.slice B fl fc,.slice g h m]) 1 L) (hp:aA w (.slice N ps.length R) ps) (hR:bS n ps) (hF:cM w S (.bool A) (.slice B fl fc) (.slice g h m)/\gY w S)
  (hop:w.cell? ⟨G,0,none⟩=some (.func (.func 134) #[] #[.pointer (some ⟨S,0,none⟩),.pointer (some ⟨bz,0,none⟩)])) (hs:cM w bs (.bool false) (.slice none 0 0) (.slice none 0 0)) (hz:cM w bz (.bool false) (.slice none 0 0) (.slice none 0 0)) (hLs:fD (cr n ps) (n+ps.length)<L) (hL:L<=49000000) :
  Calls Tryz.prog 84 #[(kq A (.slice B fl fc) (.slice g h m)),.agg #[.int .i64 ((n:Nat):Int),.slice N ps.length R],.func (.func 135) #[] #[.pointer (some ⟨S,0,none⟩),.pointer (some ⟨G,0,none⟩),.pointer (some ⟨bs,0,none⟩)]] w fun e w'=>NetE w n ps L e w':=by
 have hq:=aa T;have H1:=aa h1;have HP:=aa hp;have M:=aa hR;have HF:=aa hF;have hu:=aa hop;have HS:=aa hs;have HZ:=aa hz;have u:=aa hLs;have hI:=hR.lo;have hK:=hR.hi;have hM:=hR.len;obtain ⟨hQ,hH,ep,hS,hD,hk⟩:=hp;simp only [Value.slice.injEq,true_and] at ep;obtain ⟨rfl,rfl⟩:=ep;have hv:=aa hk;unfold maxLen at hD;clear T h1 hR hF hop hs hz hLs hk;obtain ⟨W,hW⟩:=eX ((w.alloc (Obj.cells #[.bool A,.slice B fl fc,.slice g h m,.func (.func 129) #[] #[],.func (.func 107) #[] #[],.func (.func 67) #[] #[],.func (.func 38) #[] #[],.func (.func 130) #[] #[],.func (.func 131) #[] #[],.func (.func 132) #[] #[],.func (.func 133) #[] #[]] 128)).alloc (Obj.cells #[.int .i64 ((n:Nat):Int),.slice N ps.length R] 24));have GW:Hid (w.grownBy W none):=by rw [hW];exact ae (ae (ag _ _) _) _
 have q:Hid (∀ wx,W.grownBy wx none->gY wx (w.heap.size)/\cM wx (w.heap.size) (.bool A) (.slice B fl fc) (.slice g h m)/\lu wx (w.heap.size+1) (.int .i64 ((n:Nat):Int)) (.slice N ps.length R)):=by
  intro wx hg;obtain ⟨f1,f2⟩:=mg A B g fl fc h m (w:=W) (by rw [hW];exact ae (ag _ _) _);exact ⟨f1.k0 hg,f2.k0 hg,lu.k0 (w:=W) (by rw [hW];exact ⟨zG,zG⟩) hg⟩
 have s0:=q.out W (ag _ _);go_enter Tryz.func84,Tryz.ntmps84
 go_upto_region 2 with fail;rw [<- hW];clear hW;go_wp2;go_loopw [9,15] (fun v9 v wr=>Hid (NetL W W.heap.size ps L v9 v wr)) (fun _ v _=>ps.length-(intOf v).toNat)
 case atStart=>exact ⟨0,O,rfl,BD,ag _ _⟩
 case round =>
  obtain ⟨i,hi,rfl,l1,l3⟩:=hrel.out;obtain ⟨oa,oc,rfl⟩:=l1.shape;have L1:=aa l1;have U:=aa l3;clear l1 l3 hrel s0;by_cases hlt:i<ps.length
  ·obtain ⟨b,off,rfl,hb,c0,c1,c2,c3,c4,c5,c6⟩:=hv.out i hlt;obtain ⟨p,z⟩:=eX (ps[i]);rw [<- z] at c0 c1 c2 c3 c4 c5 c6;have hw:=aa z;have hN:p.v.size+2<=L:=by
    have h1:=tX (cr n ps) (n+ps.length) (n+i) O;have h2:cr n ps (n+i)=2*(p.v.size+1)+1:=by
     unfold cr;rw [if_neg O,show n+i-n=i by omega,zX hlt,z]
    have h3:=u.out;omega
   have H:=ab GW U;have q0:=H.cell c0 Z;have q1:=H.cell c1 Z;have q2:=H.cell c2 Z;have q3:=H.cell c3 Z;have q4:=H.cell c4 Z;have q5:=H.cell c5 Z;clear c0 c1 c2 c3 c4 c5 z H;have s0:=q.out wr U;go_upto_region 5 with fail;obtain ⟨E,f⟩:=eX (wr.alloc (Obj.cells #[.int .i64 p.kind,.int .i64 p.a,.int .i64 p.b,.int .i64 p.c,.int .i64 p.d,.string p.v] 60));have G2:Hid (wr.grownBy E none):=by rw [f];exact ae (ag _ _) _
   have z0:E.cell? ⟨wr.heap.size,0,none⟩=some (.int .i64 p.kind):=by rw [f];go_simp
   have z1:E.cell? ⟨wr.heap.size,1,none⟩=some (.int .i64 p.a):=by rw [f];go_simp
   have z2:E.cell? ⟨wr.heap.size,2,none⟩=some (.int .i64 p.b):=by rw [f];go_simp
   have z3:E.cell? ⟨wr.heap.size,3,none⟩=some (.int .i64 p.c):=by rw [f];go_simp
   have z4:E.cell? ⟨wr.heap.size,4,none⟩=some (.int .i64 p.d):=by rw [f];go_simp
   have z5:E.cell? ⟨wr.heap.size,5,none⟩=some (.string p.v):=by rw [f];go_simp
   rw [<- f];clear f s0 q0 q1 q2 q3 q4 q5;have G3:=aa (ab U G2);have t:=ab GW G3;go_wp2_with fail;refine (law_at A B g fl fc h m p S G bs bz mm L E (t.cell hq Z) ⟨t.cell HF.1.1 Z,t.cell HF.1.2.1 Z,t.cell HF.1.2.2 Z,HF.2.k0 t⟩ (H1.keep0 t) (t.cell hu Z) (HS.k0 t) (HZ.k0 t) O O).mono ?_;rintro e w3 ⟨u1,d1,u2,d2,u3,d3,u4,d4,rfl,k1,k2,k3,k4,g1⟩;obtain ⟨o0,l0,c0,o1,l1,c1,e1⟩:=k1.shape;obtain ⟨o2,l2,c2,o3,l3,c3,e2⟩:=k2.shape;obtain ⟨o4,l4,c4,o5,l5,c5,e3⟩:=k3.shape;obtain ⟨o6,l6,hT,o7,l7,c7,e4⟩:=k4.shape;simp only [Value.agg.injEq,Array.mk.injEq,List.cons.injEq,and_true,true_and] at e1 e2 e3 e4;obtain ⟨rfl,rfl⟩:=e1;obtain ⟨rfl,rfl⟩:=e2;obtain ⟨rfl,rfl⟩:=e3;obtain ⟨rfl,rfl⟩:=e4;have KC:=aa (uT k1 k2 k3 k4);have G4:=aa (ab G3 g1);have O1:=aa (L1.keep0 (ab G2 g1));have hA:Hid (W.heap.size<=w3.heap.size):=G4.out.size;clear k1 k2 k3 k4 g1 t z0 z1 z2 z3 z4 z5 L1;go_wp2_with (at_builtin;refine nV _ rfl _ _ 183 rfl W.heap.size Tryz.underlying183 Tryz.infoLaw (.slice oa i oc) i (oN ps) L rfl (O1.keep0 (ae (ag _ _) _)) w3.heap.size 1 rfl _ _ _ _ _ (AV _ _ _) (KC.kept (aN.of_gr (ae (ag _ _) _))) O (by simp;have:=hA.out;omega) ?_)
   intro ao he w5 C hf hC;have RA:Hid (fH w5 W.heap.size (.slice ao (i+1) he) (i+1) (oN ps) L):=C.congr (fun j hj=>by
    have:=Dw hlt j hj;rw [<- hw] at this;exact this)
   have HG:Hid (W.grownBy w5 none):=by
    refine aj (r:=none) (ab G4 (ae (ag w3 none) _)) hf (fun _ _ e=>e) (fun b hb e=>?_);have:=(O1.fresh b e.symm).1;omega
   clear C hf hC;go_wp2;go_roundw
   case rel=>exact ⟨i+1,O,zN,RA,HG⟩
   case measure=>exact bO
  ·obtain rfl:ps.length=i:=O
   have s0:=q.out wr U;have J:=aa (ab GW U);go_wp2_with fail;refine (Eo A B g fl fc h m n N R ps (.slice oa ps.length oc) (oN ps) (cr n ps) L wr (H1.keep0 J) (HP.keep J) M L1.lw (fun i hi xa xb xc xd=>?_) (fun r hr k j=>by rw [qG];exact net_fit n ps _ L u r hr k j) (fun k r j=>by rw [qG];exact DB n ps k r j) u hL).mono ?_
   ·obtain ⟨a0,a1,a2,a3⟩:=tD hi;rw [a0,a2];have h1:=tX (cr n ps) (n+ps.length) (n+i) O;have h2:cr n ps (n+i)=2*(ps[i].v.size+1)+1:=by
     unfold cr;rw [if_neg O,show n+i-n=i by omega,zX hi]
    have h3:=u.out;exact BH (tC _ _) (zA _ _) ps[i].fit O
   rw [qG];rintro e w5 (⟨v1,v2,X,rfl,r1,r2,o,hl,F⟩ | ⟨rfl,o,F⟩ | ⟨rfl,o,F⟩)
   ·have R1:=aa (r1.low J.size);have R2:=aa (r2.low J.size);have s:=aa o;have Y:=aa hl;have G5:=aa (ab J F);obtain ⟨hX,hY,rfl,_⟩:=id r1;obtain ⟨ka,kb,rfl,_⟩:=id r2;clear r1 r2 o hl F s0;go_wp2;go_ret3
    refine .inl ⟨_,_,X,fun i=>X (n+i),rfl,R1,R2,((iN M X).1 s).2,fun V2 I2 hh=>?_,G5⟩;obtain ⟨x,hm,hE,hG⟩:=jU M hh;exact ⟨fun j hj=>by rw [<- hE j hj];exact Y x hm j O,fun i hi=>by rw [<- hG i hi];exact Y x hm (n+i) O⟩
   ·have s:=aa o;have G5:=aa (ab J F);clear o F s0;go_wp2;go_ret3
    refine .inr (.inl ⟨rfl,?_,G5⟩);rintro ⟨V,I,hh⟩;obtain ⟨x,hx,_⟩:=jU M hh;exact s ⟨x,hx⟩
   ·have s:=aa o;have G5:=aa (ab J F);clear o F s0;go_wp2;go_ret3
    refine .inr (.inr ⟨rfl,?_,G5⟩);obtain ⟨x,y,hx,hy,j,hj,ho⟩:=s.out;refine ⟨_,_,_,_,((iN M x).1 hx).2,((iN M y).1 hy).2,?_⟩;by_cases hB:j<n
    ·exact .inl ⟨j,hB,ho⟩
    ·exact .inr ⟨j-n,O,by show x (n+(j-n))≠y (n+(j-n));rw [show n+(j-n)=j by omega];exact ho⟩
theorem qj (w:World) (a b c:Obj):(((w.alloc a).alloc b).alloc c).heap[w.heap.size+1]? = some b/\(((w.alloc a).alloc b).alloc c).heap[w.heap.size+2]? = some c:=by
 have s1:(w.alloc a).heap.size=w.heap.size+1:=Z
 have s2:((w.alloc a).alloc b).heap.size=w.heap.size+2:=Z
 have d:=heap_alloc_new (w.alloc a) b;rw [s1] at d;have e:=heap_alloc_new ((w.alloc a).alloc b) c;rw [s2] at e;exact ⟨by rw [heap_alloc_old _ _ (by rw [s2];omega)];exact d,e⟩
theorem dU {b:Nat} {c:Array Value} {e:TypeId} (hb:w.heap[b]? = some (.cells c e (0,0))) {x y:Value} (hc:c=#[x,y]) (f:∀ z:Nat,x≠.int .u32 (z:Nat)) (g:∀ z:Nat,y≠.int .u32 (z:Nat)) (u v:Value) :
  aO w ((w.setCell ⟨b,0,none⟩ u).setCell ⟨b,1,none⟩ v) b:=by
 subst hc;have h:=heap_setCell_same w b 0 _ e u hb;refine (aO.set hb (fun z d=>?_) u).trans (aO.set h (fun z d=>?_) v)
 ·simp at d;exact f z d
 ·simp at d;exact g z d
theorem bW.keepB {b:Nat} {R:Nat->Rat} {L:Nat} (h:bW w base v n R L) (g:aO w w' b) (hb:b<base):bW w' base v n R L:=by
 obtain ⟨d,c,e,f,j,m⟩:=h;refine ⟨d,c,e,f,j,fun r=>?_⟩;obtain ⟨k,o,p,q⟩:=m r;exact ⟨k,o,p,q.keep g.1 g.2 (fun e=>by have:=zJ e;omega)⟩
def LawsE (fb:Bool) (fo fo2:Option Addr) (fl fc fl2 fc2:Nat) (w:World) (e:Ending) (w':World):Prop :=
 ∃ bf bop bs bz:Nat,e=.returned (.func (.func 135) #[] #[.pointer (some ⟨bf,0,none⟩),.pointer (some ⟨bop,0,none⟩),.pointer (some ⟨bs,0,none⟩)])/\(w'.cell? ⟨bf,0,none⟩=some (.bool fb)/\w'.cell? ⟨bf,1,none⟩=some (.slice fo fl fc)/\w'.cell? ⟨bf,2,none⟩=some (.slice fo2 fl2 fc2)/\w'.cell? ⟨bf,3,none⟩=some (.func (.func 129) #[] #[])/\w'.cell? ⟨bf,4,none⟩=some (.func (.func 107) #[] #[])/\w'.cell? ⟨bf,5,none⟩=some (.func (.func 67) #[] #[])/\w'.cell? ⟨bf,6,none⟩=some (.func (.func 38) #[] #[])/\w'.cell? ⟨bf,7,none⟩=some (.func (.func 130) #[] #[])/\w'.cell? ⟨bf,8,none⟩=some (.func (.func 131) #[] #[])/\w'.cell? ⟨bf,9,none⟩=some (.func (.func 132) #[] #[])/\w'.cell? ⟨bf,10,none⟩=some (.func (.func 133) #[] #[]))/\w'.cell? ⟨bop,0,none⟩=some (.func (.func 134) #[] #[.pointer (some ⟨bf,0,none⟩),.pointer (some ⟨bz,0,none⟩)])/\(w'.cell? ⟨bs,0,none⟩=some (.bool false)/\w'.cell? ⟨bs,1,none⟩=some (.slice none 0 0)/\w'.cell? ⟨bs,2,none⟩=some (.slice none 0 0))/\(w'.cell? ⟨bz,0,none⟩=some (.bool false)/\w'.cell? ⟨bz,1,none⟩=some (.slice none 0 0)/\w'.cell? ⟨bz,2,none⟩=some (.slice none 0 0))/\w.grownBy w' none
theorem laws_at (h:Bool) (j b:Option Addr) (fl fc d f:Nat) (w:World) :
  Calls Tryz.prog 83 #[(kq h (.slice j fl fc) (.slice b d f)),.agg #[.bool false,.slice none 0 0,.slice none 0 0]] w fun e w'=>LawsE h j b fl fc d f w e w':=by
 obtain ⟨W,g⟩:=eX (((w.alloc (Obj.cells #[.bool h,.slice j fl fc,.slice b d f,.func (.func 129) #[] #[],.func (.func 107) #[] #[],.func (.func 67) #[] #[],.func (.func 38) #[] #[],.func (.func 130) #[] #[],.func (.func 131) #[] #[],.func (.func 132) #[] #[],.func (.func 133) #[] #[]] 128)).alloc (Obj.cells #[.bool false,.slice none 0 0,.slice none 0 0] 85)).alloc (Obj.cells #[.bool false,.slice none 0 0,.slice none 0 0] 85));have o:Hid (w.grownBy W none):=by rw [g];exact ae (ae (ae (ag _ _) _) _) _
 have k:Hid (W.heap.size=w.heap.size+3):=by show _=_;rw [g];simp
 have m:Hid (∀ wx,W.grownBy wx none->(wx.cell? ⟨w.heap.size,0,none⟩=some (.bool h)/\wx.cell? ⟨w.heap.size,1,none⟩=some (.slice j fl fc)/\wx.cell? ⟨w.heap.size,2,none⟩=some (.slice b d f)/\wx.cell? ⟨w.heap.size,3,none⟩=some (.func (.func 129) #[] #[])/\wx.cell? ⟨w.heap.size,4,none⟩=some (.func (.func 107) #[] #[])/\wx.cell? ⟨w.heap.size,5,none⟩=some (.func (.func 67) #[] #[])/\wx.cell? ⟨w.heap.size,6,none⟩=some (.func (.func 38) #[] #[])/\wx.cell? ⟨w.heap.size,7,none⟩=some (.func (.func 130) #[] #[])/\wx.cell? ⟨w.heap.size,8,none⟩=some (.func (.func 131) #[] #[])/\wx.cell? ⟨w.heap.size,9,none⟩=some (.func (.func 132) #[] #[])/\wx.cell? ⟨w.heap.size,10,none⟩=some (.func (.func 133) #[] #[]))/\(wx.cell? ⟨w.heap.size+1,0,none⟩=some (.bool false)/\wx.cell? ⟨w.heap.size+1,1,none⟩=some (.slice none 0 0)/\wx.cell? ⟨w.heap.size+1,2,none⟩=some (.slice none 0 0))/\(wx.cell? ⟨w.heap.size+2,0,none⟩=some (.bool false)/\wx.cell? ⟨w.heap.size+2,1,none⟩=some (.slice none 0 0)/\wx.cell? ⟨w.heap.size+2,2,none⟩=some (.slice none 0 0))):=by
  intro wx hg;rw [g] at hg;exact ⟨⟨hg.cell zG Z,hg.cell zG Z,hg.cell zG Z,hg.cell zG Z,hg.cell zG Z,hg.cell zG Z,hg.cell zG Z,hg.cell zG Z,hg.cell zG Z,hg.cell zG Z,hg.cell zG Z⟩,⟨hg.cell zG Z,hg.cell zG Z,hg.cell zG Z⟩,⟨hg.cell zG Z,hg.cell zG Z,hg.cell zG Z⟩⟩
 have q:∀ (n:Nat) (c:Array Value) (a:Addr) (wx:World),(store a (.func (.func n) #[] c)).run Tryz.prog wx=stored Tryz.prog wx a (.func (.func n) #[] c) .plain:=fun n c a wx=>run_store _ _ _ _ _ rfl
 go_enter Tryz.func83,Tryz.ntmps83
 go_upto_region 2 with fail;rw [<- g];clear g;have p:W.heap.size=w.heap.size+3:=k.out;go_wp2;go_ret;refine ⟨w.heap.size,w.heap.size+3,w.heap.size+1,w.heap.size+1+1,rfl,(m _ (ae (ag _ _) _)).1,?_,(m _ (ae (ag _ _) _)).2.1,(m _ (ae (ag _ _) _)).2.2,ab o (ae (ag _ _) _)⟩;rw [<- p];have hn:=heap_alloc_new W (Obj.cells #[Value.func (.func 134) #[] #[.pointer (some ⟨w.heap.size,0,none⟩),.pointer (some ⟨w.heap.size+1+1,0,none⟩)]] 87);simp only [World.cell?,hn];rfl
def AnsE (w:World) (n:Nat) (ps:List aD) (L:Nat) (e:Ending) (w':World):Prop :=
 (∃ v1 v2 V I,e=.returned (.tuple #[.agg #[v1,v2],.agg #[.int .i64 0,.int .i64 0]])/\bW w' w.heap.size v1 n V L/\bW w' w.heap.size v2 ps.length I L/\aE n ps V I/\(∀ V' I',aE n ps V' I'->(∀ j,j<n->V' j=V j)/\∀ i,i<ps.length->I' i=I i)/\w.grownBy w' none)
 ∨ (e=.returned (.tuple #[.agg #[.slice none 0 0,.slice none 0 0],.agg #[.int .i64 7,.int .i64 0]])/\(¬ ∃ V I,aE n ps V I)/\w.grownBy w' none)
 ∨ (e=.returned (.tuple #[.agg #[.slice none 0 0,.slice none 0 0],.agg #[.int .i64 8,.int .i64 0]])/\(∃ V I V' I',aE n ps V I/\aE n ps V' I'/\((∃ j,j<n/\V j≠V' j)∨∃ i,i<ps.length/\I i≠I' i))/\w.grownBy w' none)
theorem kD (n:Nat) (J:Option Addr) (M:Nat) (ps:List aD) (mm:Int) (L:Nat) (w:World) (N:w.cell? ⟨2,0,none⟩=some (.int .i64 mm)) (hp:aA w (.slice J ps.length M) ps) (hR:bS n ps) (R:fD (cr n ps) (n+ps.length)<L) (hj:2<=L) (hL:L<=49000000) :
  Calls Tryz.prog 47 #[.agg #[.int .i64 ((n:Nat):Int),.slice J ps.length M]] w fun e w'=>AnsE w n ps L e w':=by
 have S:=aa N;have HP:=aa hp;have HR:=aa hR;have hk:=aa R;clear N hp hR R;obtain ⟨W,H⟩:=eX (((w.alloc (Obj.cells #[.int .i64 ((n:Nat):Int),.slice J ps.length M] 24)).alloc (Obj.cells #[.slice none 0 0,.slice none 0 0] 78)).alloc (Obj.cells #[.int .i64 0,.int .i64 0] 29));have G:Hid (w.grownBy W none):=by rw [H];exact ae (ae (ae (ag _ _) _) _) _
 have u:Hid (W.heap.size=w.heap.size+3):=by show _=_;rw [H];simp
 have CX:Hid (∀ wx,W.grownBy wx none->wx.cell? ⟨w.heap.size,0,none⟩=some (.int .i64 ((n:Nat):Int))/\wx.cell? ⟨w.heap.size,1,none⟩=some (.slice J ps.length M)/\wx.cell? ⟨w.heap.size+1,0,none⟩=some (.slice none 0 0)/\wx.cell? ⟨w.heap.size+1,1,none⟩=some (.slice none 0 0)/\wx.cell? ⟨w.heap.size+2,0,none⟩=some (.int .i64 0)/\wx.cell? ⟨w.heap.size+2,1,none⟩=some (.int .i64 0)):=by
  intro wx hg;rw [H] at hg;exact ⟨hg.cell zG Z,hg.cell zG Z,hg.cell zG Z,hg.cell zG Z,hg.cell zG Z,hg.cell zG Z⟩
 have BL:Hid (∀ wx,W.grownBy wx none->wx.heap[w.heap.size+1]? = some (Obj.cells #[.slice none 0 0,.slice none 0 0] 78 (0,0))/\wx.heap[w.heap.size+2]? = some (Obj.cells #[.int .i64 0,.int .i64 0] 29 (0,0))):=by
  intro wx hg;rw [hg.block (w.heap.size+1) (by rw [u];omega) Z,hg.block (w.heap.size+2) (by rw [u];omega) Z,H];exact qj w _ _ _
 have sf:∀ (n:Nat) (a:Addr) (wx:World),(store a (.func (.func n) #[] #[])).run Tryz.prog wx=stored Tryz.prog wx a (.func (.func n) #[] #[]) .plain:=fun n a wx=>run_store _ _ _ _ _ rfl
 go_enter Tryz.func47,Tryz.ntmps47
 go_upto_region 1 with fail;rw [<- H];clear H;go_wp2_with fail;refine (tu mm _ (G.cell S Z)).mono ?_;rintro e w1 ⟨fo,fl,fc,m,o,p,rfl,k1,k2⟩;have K1:=aa (k1.mono hj);have G1:=aa k2;clear k1 k2;go_upto_region 2 with fail;obtain ⟨w2,q⟩:=eX (w1.alloc (Obj.cells #[.bool false,.slice fo fl fc,.slice m o p,.func (.func 129) #[] #[],.func (.func 107) #[] #[],.func (.func 67) #[] #[],.func (.func 38) #[] #[],.func (.func 130) #[] #[],.func (.func 131) #[] #[],.func (.func 132) #[] #[],.func (.func 133) #[] #[]] 128));have G2:Hid (w1.grownBy w2 none):=by rw [q];exact ae (ag _ _) _
 have FC:Hid (∀ wx,w2.grownBy wx none->wx.cell? ⟨w1.heap.size,0,none⟩=some (.bool false)/\wx.cell? ⟨w1.heap.size,1,none⟩=some (.slice fo fl fc)/\wx.cell? ⟨w1.heap.size,2,none⟩=some (.slice m o p)/\wx.cell? ⟨w1.heap.size,3,none⟩=some (.func (.func 129) #[] #[])/\wx.cell? ⟨w1.heap.size,4,none⟩=some (.func (.func 107) #[] #[])/\wx.cell? ⟨w1.heap.size,5,none⟩=some (.func (.func 67) #[] #[])/\wx.cell? ⟨w1.heap.size,6,none⟩=some (.func (.func 38) #[] #[])/\wx.cell? ⟨w1.heap.size,7,none⟩=some (.func (.func 130) #[] #[])/\wx.cell? ⟨w1.heap.size,8,none⟩=some (.func (.func 131) #[] #[])/\wx.cell? ⟨w1.heap.size,9,none⟩=some (.func (.func 132) #[] #[])/\wx.cell? ⟨w1.heap.size,10,none⟩=some (.func (.func 133) #[] #[])):=by
  intro wx hg;rw [q] at hg;exact ⟨hg.cell zG Z,hg.cell zG Z,hg.cell zG Z,hg.cell zG Z,hg.cell zG Z,hg.cell zG Z,hg.cell zG Z,hg.cell zG Z,hg.cell zG Z,hg.cell zG Z,hg.cell zG Z⟩
 rw [<- q];clear q;obtain ⟨s0,s1,s2,s3,s4,s5,s6,s7,s8,s9,s10⟩:=FC.out w2 (ag _ _);go_wp2_with fail;refine (laws_at false fo m fl fc o p _).mono ?_;rintro e w3 ⟨bf,hl,bs,bz,rfl,c1,c2,c3,c4,g3⟩;have G3:=aa g3;have C1:=aa c1;have C2:=aa c2;have C3:=aa c3;have C4:=aa c4;clear c1 c2 c3 c4 s0 s1 s2 s3 s4 s5 s6 s7 s8 s9 s10;have x:=aa (ab G1 (ab G2 g3));clear g3;obtain ⟨s0,s1,s2,s3,s4,s5,s6,s7,s8,s9,s10⟩:=FC.out w3 G3;obtain ⟨t0,t1,t2,t3,t4,t5⟩:=CX.out w3 x;go_wp2_with fail;refine (net_at false fo m fl fc o p n J M ps bf hl bs bz mm L w3 ((ab G x).cell S Z) (K1.keep0 (ab G2 G3)) (HP.keep (ab G x)) HR ⟨⟨C1.1,C1.2.1,C1.2.2.1⟩,C1.2.2.2⟩ C2 C3 C4 hk hL).mono ?_;rintro e d (⟨v1,v2,V,I,rfl,p1,p2,s,p4,t⟩ | ⟨rfl,s,t⟩ | ⟨rfl,s,t⟩)
 ·have f:=aa (ab x t);have T:w.heap.size+3<=w3.heap.size:=by have:=x.out.size;have:=u.out;omega
  have P1:=aa (p1.low (base':=w.heap.size+3) T);have P2:=aa (p2.low (base':=w.heap.size+3) T);obtain ⟨B,C,rfl,_⟩:=id p1;obtain ⟨E,F,rfl,_⟩:=id p2;have U:=aa s;have P4:=aa p4;clear p1 p2 s p4 t s0 s1 s2 s3 s4 s5 s6 s7 s8 s9 s10 t0 t1 t2 t3 t4 t5;obtain ⟨a0,a1,a2,a3,a4,a5⟩:=CX.out d f;obtain ⟨h,j⟩:=BL.out d f;have f1:∀ k,d.frozen? ⟨w.heap.size+1,k,none⟩=false:=fun k=>by simp [World.frozen?,h]
  have g:∀ k,d.frozen? ⟨w.heap.size+2,k,none⟩=false:=fun k=>by simp [World.frozen?,j]
  have X:=f1 0;have Y:=f1 1;have he:=g 0;have hf:=g 1;have y:=aa (dU h rfl (fun z=>Z) (fun z=>Z) (.slice B n C) (.slice E ps.length F));have c:((d.setCell ⟨w.heap.size+1,0,none⟩ (.slice B n C)).setCell ⟨w.heap.size+1,1,none⟩ (.slice E ps.length F)).heap[w.heap.size+2]? = some (Obj.cells #[.int .i64 0,.int .i64 0] 29 (0,0)):=by
   rw [heap_setCell_other _ _ _ _ Z,heap_setCell_other _ _ _ _ Z];exact j
  have A:=aa (dU c rfl (fun z=>Z) (fun z=>Z) (.int .i64 0) (.int .i64 0));clear f1 g h j c;go_wp2;refine bodyPost_ret (v:=.tuple #[.agg #[.slice B n C,.slice E ps.length F],.agg #[.int .i64 0,.int .i64 0]]) (by simp [results,Tryz.results47,go_sem,a2,a3,a4,a5]) rfl ?_;exact .inl ⟨_,_,V,I,rfl,((P1.keepB y O).keepB A O).low O,((P2.keepB y O).keepB A O).low O,U,P4,aj (r:=none) (aj (r:=none) (ab G f) y.1 (fun _ _ e=>e) (fun b hb e=>by have:=zJ e;omega)) A.1 (fun _ _ e=>e) (fun b hb e=>by have:=zJ e;omega)⟩
 ·have f:=aa (ab x t);have U:=aa s;clear s t s0 s1 s2 s3 s4 s5 s6 s7 s8 s9 s10 t0 t1 t2 t3 t4 t5;obtain ⟨a0,a1,a2,a3,a4,a5⟩:=CX.out d f;obtain ⟨h,j⟩:=BL.out d f;have f1:∀ k,d.frozen? ⟨w.heap.size+1,k,none⟩=false:=fun k=>by simp [World.frozen?,h]
  have g:∀ k,d.frozen? ⟨w.heap.size+2,k,none⟩=false:=fun k=>by simp [World.frozen?,j]
  have X:=f1 0;have Y:=f1 1;have he:=g 0;have hf:=g 1;have y:=aa (dU h rfl (fun z=>Z) (fun z=>Z) (.slice none 0 0) (.slice none 0 0));have c:((d.setCell ⟨w.heap.size+1,0,none⟩ (.slice none 0 0)).setCell ⟨w.heap.size+1,1,none⟩ (.slice none 0 0)).heap[w.heap.size+2]? = some (Obj.cells #[.int .i64 0,.int .i64 0] 29 (0,0)):=by
   rw [heap_setCell_other _ _ _ _ Z,heap_setCell_other _ _ _ _ Z];exact j
  have A:=aa (dU c rfl (fun z=>Z) (fun z=>Z) (.int .i64 7) (.int .i64 0));clear f1 g h j c;go_wp2;refine bodyPost_ret (v:=.tuple #[.agg #[.slice none 0 0,.slice none 0 0],.agg #[.int .i64 7,.int .i64 0]]) (by simp [results,Tryz.results47,go_sem,a2,a3,a4,a5]) rfl ?_;exact .inr (.inl ⟨rfl,U,aj (r:=none) (aj (r:=none) (ab G f) y.1 (fun _ _ e=>e) (fun b hb e=>by have:=zJ e;omega)) A.1 (fun _ _ e=>e) (fun b hb e=>by have:=zJ e;omega)⟩)
 ·have f:=aa (ab x t);have U:=aa s;clear s t s0 s1 s2 s3 s4 s5 s6 s7 s8 s9 s10 t0 t1 t2 t3 t4 t5;obtain ⟨a0,a1,a2,a3,a4,a5⟩:=CX.out d f;obtain ⟨h,j⟩:=BL.out d f;have f1:∀ k,d.frozen? ⟨w.heap.size+1,k,none⟩=false:=fun k=>by simp [World.frozen?,h]
  have g:∀ k,d.frozen? ⟨w.heap.size+2,k,none⟩=false:=fun k=>by simp [World.frozen?,j]
  have X:=f1 0;have Y:=f1 1;have he:=g 0;have hf:=g 1;have y:=aa (dU h rfl (fun z=>Z) (fun z=>Z) (.slice none 0 0) (.slice none 0 0));have c:((d.setCell ⟨w.heap.size+1,0,none⟩ (.slice none 0 0)).setCell ⟨w.heap.size+1,1,none⟩ (.slice none 0 0)).heap[w.heap.size+2]? = some (Obj.cells #[.int .i64 0,.int .i64 0] 29 (0,0)):=by
   rw [heap_setCell_other _ _ _ _ Z,heap_setCell_other _ _ _ _ Z];exact j
  have A:=aa (dU c rfl (fun z=>Z) (fun z=>Z) (.int .i64 8) (.int .i64 0));clear f1 g h j c;go_wp2;refine bodyPost_ret (v:=.tuple #[.agg #[.slice none 0 0,.slice none 0 0],.agg #[.int .i64 8,.int .i64 0]]) (by simp [results,Tryz.results47,go_sem,a2,a3,a4,a5]) rfl ?_;exact .inr (.inr ⟨rfl,U,aj (r:=none) (aj (r:=none) (ab G f) y.1 (fun _ _ e=>e) (fun b hb e=>by have:=zJ e;omega)) A.1 (fun _ _ e=>e) (fun b hb e=>by have:=zJ e;omega)⟩)
abbrev sv (s:ByteArray):Value:=.string s
theorem Tryz.infoQ:(Tryz.prog.info? 47).map (fun i=>(i.zero,i.size,i.bytes))=some (some (sv ⟨#[]⟩),1,16):=zK
def aL (R:Nat->Rat) (i:Nat):List ByteArray:=(List.range i).map fun j=>⟨(bZ (R j)).toArray⟩
theorem bd (R:Nat->Rat) (i:Nat):(aL R i).length=i:=by simp [aL]
theorem gJ (R:Nat->Rat) (i:Nat):aL R (i+1)=aL R i++[⟨(bZ (R i)).toArray⟩]:=by simp [aL,List.range_succ]
def TelR (W:World) (n:Nat) (R:Nat->Rat) (ov v:Value) (wr:World):Prop :=
 ∃ i:Nat,i<=n/\v=.int .i64 i/\bV sv 47 wr W.heap.size ov (aL R i)/\W.grownBy wr none
def xC (w:World) (n:Nat) (R:Nat->Rat) (e:Ending) (w':World):Prop:=∃ v,e=.returned v/\bV sv 47 w' w.heap.size v (aL R n)/\w.grownBy w' none
theorem tell_at (g n c:Nat) (R:Nat->Rat) (L:Nat) (w:World) (A:aI w g n R L) (hn:n<=3000) (hc:n<=c) (H:c<=maxLen) (hL:L<=100000000) (B:fh w) :
  Calls Tryz.prog 36 #[.slice (some ⟨g,0,none⟩) n c] w fun e w'=>xC w n R e w':=by
 unfold maxLen at H;have J:=aa A;have M:=aa B;clear A B;go_enter Tryz.func36,Tryz.ntmps36
 go_wp2;go_loopw [3,8] (fun ov v wr=>Hid (TelR w n R ov v wr)) (fun _ v _=>n-(intOf v).toNat)
 case atStart=>exact ⟨0,O,rfl,gE,ag _ _⟩
 case round =>
  obtain ⟨i,hi,rfl,s,E⟩:=hrel.out;obtain ⟨oa,oc,rfl⟩:=s.shape;have o:=aa s;have j:=aa E;clear s E hrel;by_cases hlt:i<n
  ·obtain ⟨t,u,x,h,y,z,c0,c1,c2,c3,_⟩:=(J.keep0 j).at i hlt;have N:=aa c3;clear c3;go_upto_region 5 with fail;obtain ⟨m,d⟩:=eX (wr.alloc (Obj.cells #[.bool (rB (R i)),.slice t u x,.slice h y z] 85));have p:Hid (wr.grownBy m none):=by rw [d];exact ae (ag _ _) _
   have S:Hid (m.cell? ⟨wr.heap.size,0,none⟩=some (.bool (rB (R i)))/\m.cell? ⟨wr.heap.size,1,none⟩=some (.slice t u x)/\m.cell? ⟨wr.heap.size,2,none⟩=some (.slice h y z)):=by
    have hg:(wr.alloc (Obj.cells #[.bool (rB (R i)),.slice t u x,.slice h y z] 85)).grownBy m none:=by rw [<- d];exact ag _ _
    exact aJ hg
   rw [<- d];clear d c0 c1 c2;obtain ⟨Y,x1,x2⟩:=S.out;go_wp2_with fail;refine (zt _ (R i) L _ (N.keep0 p) O (M.keep0 (ab j p))).mono ?_;rintro e F ⟨rfl,G⟩;have q:=aa (ab p G);clear G Y x1 x2;have T:w.heap.size<=F.heap.size:=Nat.le_trans j.size q.size;go_wp2_with (at_builtin;refine ki sv 47 (sv ⟨#[]⟩) 16 _ rfl _ _ 39 rfl w.heap.size Tryz.underlying39 Tryz.infoQ rfl _ (aL R i) rfl (o.keep0 (ae q _)) F.heap.size ⟨(bZ (R i)).toArray⟩ rfl zG rfl (by rw [bd];omega) O (by simp;omega) ?_)
   intro X cap C f k;have U:Hid (bV sv 47 C w.heap.size (.slice X ((aL R i).length+1) cap) (aL R (i+1))):=by rw [gJ];exact f
   have W:Hid (w.grownBy C none):=by
    refine aj (r:=none) (ab j (ae q _)) k (fun _ _ e=>e) (fun b hb e=>?_);have:=(o.fresh b e.symm).1;omega
   clear f k;go_wp2;go_roundw
   case rel=>exact ⟨i+1,O,zN,U,W⟩
   case measure=>exact bO
  ·obtain rfl:i=n:=O
   go_wp2;go_ret;exact ⟨_,rfl,o,j⟩
abbrev Pc6 (w:World) (g o:Nat) (p:aD):Prop:=w.cell? ⟨g,o,none⟩=some (.int .i64 p.kind)/\w.cell? ⟨g,o+1,none⟩=some (.int .i64 p.a)/\w.cell? ⟨g,o+2,none⟩=some (.int .i64 p.b)/\w.cell? ⟨g,o+3,none⟩=some (.int .i64 p.c)/\w.cell? ⟨g,o+4,none⟩=some (.int .i64 p.d)/\w.cell? ⟨g,o+5,none⟩=some (.string p.v)
abbrev Pb6 (w:World) (g:Nat) (p:aD):Prop:=w.cell? ⟨g,0,none⟩=some (.int .i64 p.kind)/\w.cell? ⟨g,1,none⟩=some (.int .i64 p.a)/\w.cell? ⟨g,2,none⟩=some (.int .i64 p.b)/\w.cell? ⟨g,3,none⟩=some (.int .i64 p.c)/\w.cell? ⟨g,4,none⟩=some (.int .i64 p.d)/\w.cell? ⟨g,5,none⟩=some (.string p.v)
theorem Pb6.k0 {g:Nat} {p:aD} (h:Pb6 w g p) (k:w.grownBy w' none):Pb6 w' g p:=⟨k.cell h.1 Z,k.cell h.2.1 Z,k.cell h.2.2.1 Z,k.cell h.2.2.2.1 Z,k.cell h.2.2.2.2.1 Z,k.cell h.2.2.2.2.2 Z⟩
theorem Ah (w:World) (p:aD) (T:TypeId) (k:(w.alloc (Obj.cells #[.int .i64 p.kind,.int .i64 p.a,.int .i64 p.b,.int .i64 p.c,.int .i64 p.d,.string p.v] T)).grownBy w' none):Pb6 w' w.heap.size p:=Pb6.k0 (w:=w.alloc _) ⟨zG,zG,zG,zG,zG,zG⟩ k
theorem aA.row {c:Option Addr} {d:Nat} (h:aA w (.slice c ps.length d) ps) (k:w.grownBy w' none) (hi:i<ps.length):∃ b off,c=some ⟨b,off,none⟩/\Pc6 w' b (off+i*6) ps[i]/\ps[i].v.size<=600000000:=by
 obtain ⟨m,cap,e,o,p,f⟩:=h.keep k;simp only [Value.slice.injEq,true_and] at e;obtain ⟨rfl,rfl⟩:=e;obtain ⟨b,off,g,hb,c0,c1,c2,c3,c4,c5,j⟩:=f i hi;exact ⟨b,off,g,⟨c0,c1,c2,c3,c4,c5⟩,j⟩
theorem eO {c:Code} {W:World} (F:World->Prop) (h:F W) (k:∀ wx,F wx->Code.wp P c Q a wx):Code.wp P c Q a W:=k _ h
section
variable {w w':World} {b:Nat} {T:TypeId} {v:Value}
end
open Go Go.RowKit
section
variable {P:Program} {ops:Array Oper} {Q:Exit->Act->World->Prop} {md:Region.Mode} {S:World->Prop} {T:Nat->Bool}
def d6 (P:Program) (md:Region.Mode) (ops:Array Oper) (Q:Exit->Act->World->Prop) (S:World->Prop) (T:Nat->Bool):Nat->Array Bool->Act->World->Prop
 | 0,l,a,w=>Region.ready md ops l=[]/\Q .normal a w
 | n+1,l,a,w=>(Region.ready md ops l=[]->Q .normal a w)/\∀ i∈Region.ready md ops l,wpOp P ops Q i (fun a' w'=>(T i=false->S w')/\d6 P md ops Q S T n (l.setIfInBounds i true) a' w') a w
theorem vz:∀ (n:Nat) (l:Array Bool) (a:Act) (w:World),d6 P md ops Q S T n l a w->wpAny P md ops Q n l a w
 | 0,_,_,_,h=>h
 | n+1,_,_,_,h=>⟨h.1,fun i hi=>wpOp_mono (fun b w' k=>vz n _ b w' k.2) (h.2 i hi)⟩
def kP (md:Region.Mode) (ops:Array Oper) (T D:Nat->Bool) (i:Nat):Bool :=
 (List.range ops.size).all fun j=>(!T j || D j) && (!D j || ((ops[j]?).map fun o=>o.after.any fun e=>Region.binds md e && (e.on==i || D e.on)).getD true)
def oZ (D:Nat->Bool) (l:Array Bool):Bool:=(List.range l.size).all fun k=>!D k || !l.getD k false
theorem oy {j:Nat} {oj:Oper} (h:kP md ops T D i=true) (d:ops[j]? = some oj):(T j=true->D j=true)/\(D j=true->∃ e∈oj.after,Region.binds md e=true/\(e.on=i∨D e.on=true)):=by
 unfold kP at h;rw [List.all_eq_true] at h;have b:=h j (List.mem_range.2 (zZ d).1);rw [d,Bool.and_eq_true] at b;simp only [Option.map_some,Option.getD_some] at b;refine ⟨fun g=>?_,fun hd=>?_⟩
 ·have:=b.1;rw [g] at this;simpa using this
 ·have c:=b.2;rw [hd] at c;simp only [Bool.not_true,Bool.false_or] at c;obtain ⟨e,f,hb⟩:=Array.any_eq_true'.1 c;simp only [Bool.and_eq_true,Bool.or_eq_true,beq_iff_eq] at hb;exact ⟨e,f,hb.1,hb.2⟩
theorem yw (h:oZ D l=true) (k:Nat) (c:D k=true):l.getD k false=false:=by
 rcases Nat.lt_or_ge k l.size with b | b
 ·unfold oZ at h;rw [List.all_eq_true] at h;have:=h k (List.mem_range.2 b);rw [c] at this;simpa using this
 ·simp [Array.getElem?_eq_none b]
theorem tw {j:Nat} (d:Bool) (h:i≠j):(l.setIfInBounds i true).getD j d=l.getD j d:=getD_set_ne d h
theorem yd {oi:Oper} (hi:ops[i]? = some oi) (J:Region.noSelect ops=true) (L:kP md ops T D i=true)
  (hQ:∀ c a w,Q (.panic c) (a.put oi.dst v) w->Q (.panic c) a w) :
  ∀ (n:Nat) (l:Array Bool) (a:Act) (w:World),(∀ k,D k=true->l.getD k false=false)->(∀ j oj,ops[j]? = some oj->j≠i->l.getD j true=false->(∀ e∈oj.after,Region.binds md e=true->e.on≠i)->oi.apart ops oj=true) ->
   i∈Region.ready md ops l->YieldsIf P ops S oi v a->S w->d6 P md ops Q S T n (l.setIfInBounds i true) (a.put oi.dst v) w->d6 P md ops Q S T (n+1) l a w:=by
 intro n;induction n with
 | zero =>
  intro l a w A d s hy hS H;refine ⟨fun G=>(by rw [G] at s;cases s),fun j z=>?_⟩;by_cases e:j=i
  ·rw [e];exact hy.wpOp hi hS ⟨fun _=>hS,H⟩
  ·have:=ready_mono z e;rw [H.1] at this;cases this
 | succ n ih =>
  intro l a w A d s hy hS H;refine ⟨fun G=>(by rw [G] at s;cases s),fun j z=>?_⟩;by_cases e:j=i
  ·rw [e];exact hy.wpOp hi hS ⟨fun _=>hS,H⟩
  ·obtain ⟨y,oj,g,q⟩:=mem_ready.1 z;have p:∀ x∈oj.after,Region.binds md x=true->x.on≠i:=by
    intro x t hb f;have k1:=q x t hb;have k0:=(mem_ready.1 s).1;rw [f] at k1;rcases Nat.lt_or_ge i l.size with F | F
    ·simp [F] at k0 k1;rw [k0] at k1;cases k1
    ·simp [Array.getElem?_eq_none F] at k1
   have r:D j=false:=by
    cases hd:D j with
    | false=>rfl
    | true =>
     obtain ⟨x,t,hb,f⟩:=(oy L g).2 hd;rcases f with f | f
     ·exact absurd f (p x t hb)
     ·have k1:=q x t hb;rw [A _ f] at k1;cases k1
   have M:T j=false:=by
    cases ht:T j with
    | false=>rfl
    | true =>
     have:=(oy L g).1 ht;rw [r] at this;cases this
   have k:=wpOp_putIf g (d j oj g e y p) (fun cs b=>Region.noSelect_spec J i oi cs b hi) (fun cs b=>Region.noSelect_spec J j oj cs b g) hQ hy (H.2 j (ready_mono z e));refine wpOp_mono (fun R w' m=>⟨fun _=>m.2.1 M,ih _ R w' ?_ ?_ (ready_mono s (Ne.symm e)) m.1 (m.2.1 M) ?_⟩) k
   ·intro x t;have o:j≠x:=fun h=>by rw [h,t] at r;cases r
    rw [tw false o];exact A x t
   ·intro x N B C u E;refine d x N B C ?_ E;by_cases o:j=x
    ·rw [<- o];exact y
    ·rw [getD_set_ne true o] at u;exact u
   ·rw [Array.setIfInBounds_comm _ _ e];exact m.2.2
theorem Bp (D:Nat->Bool) {oi:Oper} {n:Nat} (hi:ops[i]? = some oi) (b:Region.noSelect ops=true) (d:kP md ops T D i=true) (hn:oZ D l=true)
  (hf:Region.free md ops l i=true) (hr:(Region.ready md ops l).contains i=true) (hQ:∀ c a w,Q (.panic c) (a.put oi.dst v) w->Q (.panic c) a w) (hy:YieldsIf P ops S oi v a) (hS:S w)
  (h:d6 P md ops Q S T n (l.setIfInBounds i true) (a.put oi.dst v) w):d6 P md ops Q S T (n+1) l a w :=
 yd hi b d hQ n l a w (yw hn) (Region.free_spec hi hf) (by simpa using hr) hy hS h
theorem Dr {o:Oper} (b:Region.ready md ops l=[i]) (f:ops[i]? = some o)
  (h:∀ K':Act->World->Prop,Shut (∀ a w,(T i=false->S w)->d6 P md ops Q S T n (l.setIfInBounds i true) a w->K' a w)->if Region.wanted o (yielded ops a.tmps)=true then Oper.wp P o a w K' Q else K' (a.put o.dst undef) w) :
  d6 P md ops Q S T (n+1) l a w:=by
 refine ⟨fun c=>by (rw [b] at c;cases c),fun j d=>?_⟩;rw [b] at d;have e:j=i:=by simpa using d
 rw [e];exact wpOp_step f (fun K' g=>h K' (fun a w k m=>g a w ⟨k,m⟩))
end
open Go Go.RowKit
section
variable {P:Program} {ops:Array Oper} {Q:Exit->Act->World->Prop} {S:World->Prop} {T:Nat->Bool}
def depL (ops:Array Oper) (i:Nat):List Nat:=(List.range ops.size).foldl (fun acc j=>if ((ax ops j).after.any fun e=>Region.binds .any e && (e.on==i || acc.contains e.on)) then j :: acc else acc) []
def depD (ops:Array Oper) (i j:Nat):Bool:=(depL ops i).contains j
def pC (ops:Array Oper) (T:Nat->Bool):List (Nat×Nat)->Array Bool->Bool
 | [],_=>true
 | (i,d) :: ts,l=>(ops[i]?).isSome && (ax ops i).dst==some d && kP .any ops T (depD ops i) i && oZ (depD ops i) l && Region.free .any ops l i && (Region.ready .any ops l).contains i && pC ops T ts (l.setIfInBounds i true)
theorem EN (b:Region.noSelect ops=true) (hS:S w) (e:∀ (c:_) (d:Nat) (v:Value) (a:Act) (w:World),Q (.panic c) (a.put (some d) v) w->Q (.panic c) a w) :
  ∀ (ts:List (Nat×Nat×Value)) (l:Array Bool) (a:Act),pC ops T (ts.map fun t=>(t.1,t.2.1)) l=true->qS P ops S ts a->d6 P .any ops Q S T n (pL ts l) (pA ts a) w->d6 P .any ops Q S T (n+ts.length) l a w
 | [],l,a,_,_,h=>h
 | t :: ts,l,a,hok,hy,h=>by
   simp only [List.map_cons,pC,Bool.and_eq_true,beq_iff_eq] at hok;obtain ⟨⟨⟨⟨⟨⟨g,f⟩,j⟩,k⟩,m⟩,o⟩,p⟩:=hok;refine Bp (depD ops t.1) (i:=t.1) (oi:=ax ops t.1) (v:=t.2.2) (dP g) b j k m o (fun c a w h=>by rw [f] at h;exact e c _ _ a w h) (.inl hy.1) hS ?_;rw [f];exact EN b hS e ts _ _ p hy.2 h
theorem tkL {N:Nat} (m:Nat) (b:List (Nat×Nat×Value)) (h:d6 P .any ops Q S T m (pL b l) (pA b a) w) (hm:N=m+b.length:=by kernel_rfl) (hs:Region.noSelect ops=true:=by kernel_rfl)
  (hok:pC ops T (b.map fun t=>(t.1,t.2.1)) l=true:=by kernel_rfl)
  (hy:qS P ops S b a:=by
   ((repeat' apply And.intro)<;>first | exact True.intro | kernel_rfl | (intro w e;simp only [ax,List.getElem?_toArray,List.getElem?_cons_zero,List.getElem?_cons_succ,Option.getD_some,pA,vA,Act.put,setA,setZ,setS];go_simp)))
  (hS:S w:=by assumption) (hQ:∀ (c:_) (d:Nat) (v:Value) (a:Act) (w:World),Q (.panic c) (a.put (some d) v) w->Q (.panic c) a w:=by exact fun _ _ _ _ _ h=>h):d6 P .any ops Q S T N l a w :=
 hm▸EN hs hS hQ b l a hok hy h
theorem onL {N:Nat} (m i:Nat)
  (h:∀ K':Act->World->Prop,Shut (∀ a w,(T i=false->S w)->d6 P .any ops Q S T m (l.setIfInBounds i true) a w->K' a w)->if Region.wanted (ax ops i) (yielded ops a.tmps)=true then Oper.wp P (ax ops i) a w K' Q else K' (a.put (ax ops i).dst undef) w)
  (hr:Region.ready .any ops l=[i]:=by kernel_rfl) (hm:N=m+1:=by kernel_rfl) (ho:(ops[i]?).isSome=true:=by kernel_rfl):d6 P .any ops Q S T N l a w :=
 hm▸Dr hr (dP ho) h
theorem hdL (S:World->Prop) (T:Nat->Bool) {id:Nat} (h:S w.drew->d6 P .any ops Q S T ops.size (Array.replicate ops.size false) a w.drew) (hm:P.follows .mixedOrders=true:=by kernel_rfl) (hS:S w.drew:=by (try dsimp only);go_keep):(Code.region id ops true).wp P Q a w :=
 wp_region_any hm (vz _ _ _ _ (h hS))
theorem bkL {X:Act->World->Prop} (b:Shut (∀ a w,(T i=false->S w)->X a w->K a w)) (h:S w->X a w) (hS:S w:=by (try dsimp only);go_keep):K a w:=b.out a w (fun _=>hS) (h hS)
theorem bkT {X:Act->World->Prop} (b:Shut (∀ a w,(T i=false->S w)->X a w->K a w)) (h:X a w) (hT:T i=true:=by kernel_rfl):K a w:=b.out a w (fun e=>by rw [hT] at e;cases e) h
theorem endL (h:Q .normal a w) (hr:Region.ready .any ops l=[]:=by kernel_rfl):d6 P .any ops Q S T 0 l a w:=⟨hr,h⟩
end
theorem lX {P:Program} {α:Type} (f:α->Value) (e:TypeId) (g:Value) (c:Nat) (W:World) {ops:Array Oper} {o:Oper} {a:Act} {K:Act->World->Prop} {Q:Exit->Act->World->Prop} {E:Prop}
  (hg:o.guard=none) (s x:Operand) (t:TypeId) (ho:o.op=.call { callee:=.builtin .append,args:=#[s,x],argTypes:=#[t,t] }) (base:Nat)
  (h1:P.underlying t=some (.slice e)) (hinfo:(P.info? e).map (fun i=>(i.zero,i.size,i.bytes))=some (some g,1,c)) (hcz:g.cells.size=1) (hz1:∀ x:Nat,g.cells[0]!≠.int .u32 (x:Nat)) (hf:∀ u (x:Nat),f u≠.int .u32 (x:Nat))
  (v:Value) (xs:List α) (hs:a.eval s=v) (hown:da f e W base v xs) (b:Nat) (y:α) (hx:a.eval x=.slice (some ⟨b,0,none⟩) 1 1) (hc:W.cell? ⟨b,0,none⟩=some (f y)) (h1c:(f y).oneCell'=true)
  (hlen:xs.length<=1000000) (hby:c<=24) (hbase:base<=W.heap.size)
  (hK:∀ ao cap w',da f e w' base (.slice ao (xs.length+1) cap) (xs++[y])->W.grownBy w' v.ownBlock->aN W w'->K (a.put o.dst (.slice ao (xs.length+1) cap)) w') :
  if Region.wanted o (yielded ops a.tmps)=true then Oper.wp P o a W K Q else E:=by
 have r:Region.wanted o (yielded ops a.tmps)=true:=by simp [Region.wanted,hg]
 rw [if_pos r];obtain ⟨i,hi,j,k,m⟩:=info_parts hinfo;have d:(xs.length+1)*c<=140737488355328:=by
  have:(xs.length+1)*c<=(1000000+1)*24:=Nat.mul_le_mul O hby;omega
 obtain ⟨z,w',A,B,C,p,F⟩:=lV (P:=P) W base t o.type e i g c h1 hi j k m hcz hz1 v xs.length (xs.map f) hown.1 hown.2
  (fun u H x=>by obtain ⟨G,_,rfl⟩:=List.mem_map.1 H;exact hf G x) ⟨b,0,none⟩ 1 (f y) hc h1c (hf y) (by unfold maxLen;omega) d hbase
 have h:bV f e w' base z (xs++[y]):=by
  unfold bV;rw [List.length_append,List.map_append];exact B
 obtain ⟨ao,cap,q⟩:=h.shape;rw [List.length_append,List.length_singleton] at q;unfold Oper.wp execOp;simp only [ho,resolve,invoke,builtin,Sem.run_bind,Sem.run_pure,Result.andThen_ok,List.map_toArray,List.map_cons,List.map_nil,hs,hx,A];rw [q] at h p ⊢;exact hK ao cap w' ⟨h,p⟩ C F
theorem qN {P:Program} {α:Type} (f:α->Value) (e:TypeId) (g:Value) (b:Nat) (W:World) {ops:Array Oper} {o:Oper} {a:Act} {K:Act->World->Prop} {Q:Exit->Act->World->Prop} {E:Prop}
  (hg:o.guard=none) (s x:Operand) (t:TypeId) (ho:o.op=.call { callee:=.builtin .append,args:=#[s,x],argTypes:=#[t,t] }) (base:Nat)
  (h1:P.underlying t=some (.slice e)) (hinfo:(P.info? e).map (fun i=>(i.zero,i.size,i.bytes))=some (some g,1,b)) (hcz:g.cells.size=1) 
  (v:Value) (xs:List α) (hs:a.eval s=v) (hown:bV f e W base v xs) (ad:Addr) (m c:Nat) (ys:List α) (hx:a.eval x=.slice (some ad) m c) (hl:ys.length=m) (hc:∀ j u,(ys.map f)[j]? = some u->W.cell? (ad.add j)=some u) (h1c:∀ y,(f y).oneCell'=true)
  (hlen:xs.length+m<=1000000) (hby:b<=24) (hbase:base<=W.heap.size)
  (hK:∀ ao cap w',bV f e w' base (.slice ao (xs.length+m) cap) (xs++ys)->W.grownBy w' v.ownBlock->K (a.put o.dst (.slice ao (xs.length+m) cap)) w') :
  if Region.wanted o (yielded ops a.tmps)=true then Oper.wp P o a W K Q else E:=by
 have z:Region.wanted o (yielded ops a.tmps)=true:=by simp [Region.wanted,hg]
 rw [if_pos z];obtain ⟨i,hi,k,p,q⟩:=info_parts hinfo;have d:(xs.length+m)*b<=140737488355328:=by
  have:(xs.length+m)*b<=1000000*24:=Nat.mul_le_mul hlen hby;omega
 obtain ⟨A,w',B,C,F,_⟩:=run_append_own (P:=P) W base t o.type e i g 1 b h1 hi k p q hcz zD v xs.length (xs.map f) hown ad m c (ys.map f) (by simp [hl]) hc
  (fun u H=>by obtain ⟨G,_,rfl⟩:=List.mem_map.1 H;exact h1c G) (by unfold maxLen;omega) d hbase
 have h:bV f e w' base A (xs++ys):=by
  unfold bV;rw [List.length_append,List.map_append,hl];exact C
 obtain ⟨ao,cap,r⟩:=h.shape;rw [List.length_append,hl] at r;unfold Oper.wp execOp;simp only [ho,resolve,invoke,builtin,Sem.run_bind,Sem.run_pure,Result.andThen_ok,List.map_toArray,List.map_cons,List.map_nil,hs,hx,B];rw [r] at h ⊢;exact hK ao cap w' h F
theorem nR {w:World} {ops:Array Oper} {o:Oper} {a:Act} {K:Act->World->Prop} {Q:Exit->Act->World->Prop} {E:Prop} (hg:o.guard=none) (s x:Operand) (t:TypeId)
  (ho:o.op=.call { callee:=.builtin .append,args:=#[s,x],argTypes:=#[t,t] }) (base:Nat) (e:TypeId) (i:TypeInfo) (size:Nat) (ht:P.underlying t=some (.slice e)) (hi:P.info? e=some i)
  (v:Value) (n:Nat) (xs:List Value) (hs:a.eval s=v) (hown:w.ownsRow base e size v n xs) (hx:a.eval x=.slice none 0 0) (h:K (a.put o.dst v) w):if Region.wanted o (yielded ops a.tmps)=true then Oper.wp P o a w K Q else E:=by
 have c:Region.wanted o (yielded ops a.tmps)=true:=by simp [Region.wanted,hg]
 rw [if_pos c];have b:=run_append_owned_none (P:=P) (w:=w) base t o.type e i size ht hi v n xs hown;unfold Oper.wp;simp [execOp,ho,resolve,invoke,builtin,hs,hx,b,Result.andThen];exact h
def eD (w:World) (base:Nat) (v:Value) (ps:List aD):Prop:=w.ownsRow base 60 6 v ps.length (aK ps)
theorem eD.parts (h:eD w base v ps) (b:∀ p∈ps,p.v.size<=600000000):aA w v ps:=by
 rcases h.2 with ⟨rfl,c⟩ | ⟨g,cap,d,rfl,hb,hh,e,f,o,k⟩
 ·have:ps=[]:=List.eq_nil_of_length_eq_zero c;subst this;exact ⟨none,0,rfl,zL,by unfold maxLen;omega,fun i hi=>by simp at hi⟩
 ·refine iD (zZ hh).1 rfl e f (fun i hi=>b _ (List.getElem_mem hi)) (fun j m=>?_);simp only [World.cell?,hh];rw [<- k,List.getElem?_take,if_pos m,Array.getElem?_toList];rfl
theorem Tryz.infoPart:(Tryz.prog.info? 60).map (fun i=>(i.zero,i.size,i.bytes))=some (some (.agg #[.int .i64 0,.int .i64 0,.int .i64 0,.int .i64 0,.int .i64 0,.string ⟨#[]⟩]),6,56):=zK
theorem rx (p:Option Addr) (f:Nat) (ps:List aD) (w:World) (h:aA w (.slice p ps.length f) ps) (hn:ps.length<=3000) :
  Calls Tryz.prog 85 #[.slice p ps.length f] w fun e w'=>∃ v,e=.returned v/\eD w' w.heap.size v ps/\w.grownBy w' none:=by
 obtain ⟨G,hi,s,t,x⟩:=info_parts Tryz.infoPart;have N:=aa h;cases p with
 | none =>
  have d:ps.length=0:=by
   obtain ⟨H,cap,e,J,A,L⟩:=h;simp only [Value.slice.injEq,true_and] at e;obtain ⟨rfl,rfl⟩:=e;rcases zP ps.length with d | d
   ·exact d
   ·obtain ⟨b,off,e,_⟩:=L 0 d;cases e
  have R:=aa d;have q:ps=[]:=List.eq_nil_of_length_eq_zero d;subst q;clear d;have B:∀ W,(binOp .eql 22 (.slice none 0 f) (.slice none 0 0)).run Tryz.prog W=.ok (.bool true) W:=fun W=>Lib.run_eql_slice_nil W _ _ none _ _ 0 0 Tryz.underlying22
  clear h;go_enter Tryz.func85,Tryz.ntmps85
  go_wp2;go_ret;exact ⟨_,rfl,World.ownsRow_nil _ _ _ _,ag _ _⟩
 | some ad =>
  have C:=aa h.cells;obtain ⟨H,cap,e,J,A,_⟩:=id h;simp only [Value.slice.injEq,true_and] at e;obtain ⟨rfl,rfl⟩:=e;unfold maxLen at A;have B:∀ W,(binOp .eql 22 (.slice (some ad) ps.length f) (.slice none 0 0)).run Tryz.prog W=.ok (.bool false) W:=fun W=>Lib.run_eql_slice_nil W _ _ (some _) _ _ 0 0 Tryz.underlying22
  clear h;go_enter Tryz.func85,Tryz.ntmps85
  go_wp2_with (at_builtin;refine wpList_append_own _ rfl _ _ 22 rfl w.heap.size 60 G _ 6 56 Tryz.underlying22 hi s t x rfl zD _ 0 [] rfl ?c0 ad ps.length f (aK ps) rfl ?c1 ?c2 ?c3 ?c4 ?c5 ?c6 ?_)
  case c0=>exact World.ownsRow_made w #[] 0 zL (by unfold maxLen;omega) Z
  case c1=>exact db ps
  case c2 =>
   intro j u F;exact (World.grownBy_alloc w (Obj.cells #[] 60) none).cell (C j u F) Z
  case c3=>exact gA ps
  case c4=>unfold maxLen;omega
  case c5=>omega
  case c6=>simp
  intro z w1 c k r;have E:Hid (w.grownBy w1 none):=aj (r1:=none) (World.grownBy_alloc w _ none) k (fun _ _ e=>e) (fun b hb e=>by simp [Value.ownBlock] at e;omega);have y:Hid (eD w1 w.heap.size z ps):=by
   unfold eD;first | exact c | (rw [Nat.zero_add,List.nil_append] at c;exact c)
  obtain ⟨m,c2,rfl⟩:∃ m c2,z=.slice m ps.length c2:=by
   rcases y.out.2 with ⟨e,d⟩ | ⟨g,o,M,e,_⟩
   ·exact ⟨none,0,by rw [e,d]⟩
   ·exact ⟨_,o,e⟩
  clear c k r;go_wp2;go_ret;exact ⟨_,rfl,y,E⟩
def aH (p:aD):aD:=if p.kind=4∨p.kind=5 then { p with v:=⟨#[48]⟩ } else p
def dI (ps:List aD) (i:Nat):List aD:=ps.mapIdx fun j p=>if j<i then aH p else p
theorem bI (ps:List aD) (i:Nat):(dI ps i).length=ps.length:=by simp [dI]
theorem gG (ps:List aD) (i j:Nat) (h:j<ps.length):(dI ps i)[j]'(by rw [bI];exact h)=if j<i then aH ps[j] else ps[j]:=by simp [dI]
theorem tN (ps:List aD):dI ps 0=ps:=by
 apply List.ext_getElem
 ·rw [bI]
 ·intro j c b;rw [gG ps 0 j b,if_neg O]
theorem wi (ps:List aD):dI ps ps.length=ps.map aH:=by
 apply List.ext_getElem
 ·rw [bI,List.length_map]
 ·intro j c b;rw [gG ps _ j (by simpa using b),if_pos (by simpa using b),List.getElem_map]
theorem oD (ps:List aD) (i:Nat) (h:i<ps.length):dI ps (i+1)=(dI ps i).set i (aH ps[i]):=by
 apply List.ext_getElem
 ·rw [List.length_set,bI,bI]
 ·intro j d f;have b:j<ps.length:=by rw [bI] at d;exact d
  rw [gG ps (i+1) j b,List.getElem_set];by_cases e:i=j
  ·subst e;rw [if_pos O,if_pos rfl]
  ·rw [if_neg e,gG ps i j b];by_cases c:j<i
   ·rw [if_pos c,if_pos O]
   ·rw [if_neg c,if_neg O]
theorem uH (b:List aD) (i:Nat) (h:i<b.length) (z:ByteArray):(aK b).set (i*6+5) (.string z)=aK (b.set i { b[i] with v:=z }):=by
 apply List.ext_getElem?
 intro j;by_cases o:j<b.length*6
 ·have c:j / 6<b.length:=O
  have f:j=j / 6*6+j % 6:=O
  have g:j % 6<6:=O
  have r1:=gj (b.set i { b[i] with v:=z }) (j / 6) (j % 6) (by rw [List.length_set];exact c) g;have r2:=gj b (j / 6) (j % 6) c g;rw [List.getElem_set] at r1;rw [List.getElem?_set];by_cases e:i*6+5=j
  ·have d:i=j / 6:=O
   have m:j % 6=5:=O
   rw [if_pos e,if_pos (by rw [db];omega)];rw [f,r1,if_pos d,m];rfl
  ·rw [if_neg e];rw [f,r1,r2];by_cases d:i=j / 6
   ·rw [if_pos d];subst d;have:j % 6<5:=O
    generalize j % 6=k at this;match k,this with
    | 0,_=>rfl
    | 1,_=>rfl
    | 2,_=>rfl
    | 3,_=>rfl
    | 4,_=>rfl
   ·rw [if_neg d]
 ·rw [List.getElem?_eq_none (by rw [List.length_set,db];omega),List.getElem?_eq_none (by rw [db,List.length_set];omega)]
theorem own_set {e:TypeId} {b g cap:Nat} {xs:List Value} (h:w.ownsRow base e b (.slice (some ⟨g,0,none⟩) n cap) n xs) (j:Nat) (p:j<n*b) (u:Value) :
  (w.setCell ⟨g,j,none⟩ u).ownsRow base e b (.slice (some ⟨g,0,none⟩) n cap) n (xs.set j u):=by
 refine ⟨by rw [List.length_set];exact h.1,?_⟩;rcases h.2 with ⟨f,_⟩ | ⟨t,m,d,f,hb,hh,q,r,s,o⟩
 ·simp at f
 ·simp only [Value.slice.injEq,zI,Addr.mk.injEq,and_true,true_and] at f;obtain ⟨rfl,rfl⟩:=f;refine .inr ⟨g,cap,d.setIfInBounds j u,rfl,hb,heap_setCell_same w g j d e u hh,q,r,by simp [s],?_⟩;rw [<- o];apply List.ext_getElem?
  intro i;rw [List.getElem?_take,List.getElem?_set,Array.getElem?_toList,List.getElem?_take];have c:j<(List.take (n*b) d.toList).length:=by rw [o,h.1];exact p
  by_cases hi:i<n*b
  ·rw [if_pos hi,if_pos hi];by_cases k:j=i
   ·subst k;rw [if_pos rfl,if_pos c,Array.getElem?_setIfInBounds_self_of_lt (by simp at c;omega)]
   ·rw [if_neg k,Array.getElem?_setIfInBounds_ne k,Array.getElem?_toList]
  ·rw [if_neg hi,if_neg hi,if_neg O]
def aW (ps:List aD) (a b:Int):List aD:=ps.map aH++[⟨5,b,a,0,0,⟨#[49]⟩⟩]
def PushE (w:World) (n:Nat) (ps:List aD) (a b:Int) (e:Ending) (w':World):Prop :=
 ∃ po pc,e=.returned (.agg #[.int .i64 ((n:Nat):Int),.slice po (ps.length+1) pc])/\aA w' (.slice po (ps.length+1) pc) (aW ps a b)/\w.grownBy w' none
theorem yE (h:∀ p∈ps,p.v.size<=600000000) (a b:Int):∀ p∈aW ps a b,p.v.size<=600000000:=by
 intro p c;unfold aW at c;rcases List.mem_append.1 c with c | c
 ·obtain ⟨q,d,rfl⟩:=List.mem_map.1 c;unfold aH;split
  ·show (1:Nat)<=_;decide
  ·exact h q d
 ·simp only [List.mem_singleton] at c;subst c;show (1:Nat)<=_
  decide
theorem aA.sizes (h:aA w v ps):∀ p∈ps,p.v.size<=600000000:=by
 intro p b;obtain ⟨i,hi,rfl⟩:=List.mem_iff_getElem.1 b;obtain ⟨_,_,_,_,_,c⟩:=h;obtain ⟨_,_,_,_,_,_,_,_,_,_,d⟩:=c i hi;exact d
theorem uQ (W:Nat->Nat->Rat) (m:Nat):∃ done perm order R d s,St W m done perm order R d s/\(done=m∨(done<m/\∀ i,done<=i->i<m->∀ k,done<=k->k<m->R i (order.getD k 0)=0)):=by
 have e:∀ k done,m-done=k->∀ perm order R d s,St W m done perm order R d s->∃ done perm order R d s,St W m done perm order R d s/\(done=m∨(done<m/\∀ i,done<=i->i<m->∀ k,done<=k->k<m->R i (order.getD k 0)=0)):=by
  intro k;induction k with
  | zero =>
   intro done x perm order R d s h;exact ⟨done,perm,order,R,d,s,h,.inl (by have:=h.le;omega)⟩
  | succ k ih =>
   intro done x perm order R d s h;by_cases r:∀ i,done<=i->i<m->∀ k,done<=k->k<m->R i (order.getD k 0)=0
   ·exact ⟨done,perm,order,R,d,s,h,.inr ⟨O,r⟩⟩
   ·have f:∃ a c,done<=a/\a<m/\done<=c/\c<m/\R a (order.getD c 0)≠0:=by
     apply Classical.byContradiction;intro g;apply r;intro i y h2 c z A;apply Classical.byContradiction;intro b;exact g ⟨i,c,y,h2,z,A,b⟩
    obtain ⟨a,c,j,o,p,q,b⟩:=f;have hlt:done<m:=O
    have ol:=h.ol;have h2:=Av h hlt j o p q;have t:(fun i=>R (aP done a i)) done ((dB order done c).getD done 0)≠0:=by
     show R (aP done a done) ((dB order done c).getD done 0)≠0
     rw [cF order done c done O O,iP,iP];exact b
    exact ih (done+1) O _ _ _ _ _ (nD h2 hlt (u:=1) (.inl rfl) t)
 exact e m 0 O _ _ _ _ _ (wT W m)
theorem dot_sub (x y R:Nat->Rat):∀ n,cK n (fun j=>x j-y j) R=cK n x R-cK n y R:=by
 intro n;induction n with
 | zero=>unfold cK;grind
 | succ n ih=>unfold cK;rw [ih];grind
theorem lin_one (W:Nat->Nat->Rat) (m:Nat) (E:∀ x:Nat->Rat,x m=0->(∀ r,r<m->cK (m+1) x (W r)=0)->∀ j,j<m->x j=0) :
  ∃ y,mF W m y/\∀ z,mF W m z->∀ j,j<m->z j=y j:=by
 obtain ⟨done,F,b,R,d,s,h,hd⟩:=uQ W m;have f:m∉b.take done:=fun B=>by
  have:=h.ob m (List.mem_of_mem_take B);omega
 have c:done=m:=by
  rcases hd with hd | ⟨hd,o⟩
  ·exact hd
  ·exfalso
   have H:=h.ol;obtain ⟨x,p,A⟩:=pB h (fun j=>if j=m then 0 else 1);have J:b.getD done 0∉b.take done:=fun B=>by
    obtain ⟨t,N,M,e⟩:=lT B;have:=h.oi t done O hd e;omega
   have hlt:b.getD done 0<m:=h.ob _ (dg b _ O);have g:x m=0:=by rw [p m f,if_pos rfl]
   have k:∀ r,r<m->cK (m+1) x (W r)=0:=by
    refine (nQ h x).2 (fun i hi=>?_);by_cases q:i<done
    ·exact A i q
    ·have e:cK (m+1) x (R i)=cK m x (R i)+R i m*x m:=rfl;rw [e,g];have L:cK m x (R i)=0:=by
      rw [<- mM x m];exact iu x m (fun j C=>qM h o i O hi j C)
     rw [L];grind
   have:=E x g k _ hlt;rw [p _ J,if_neg O] at this;exact absurd this zD
 subst c;obtain ⟨x,p,A⟩:=pB h (fun _=>-1);have u:mF W done x:=⟨p done f,(nQ h x).2 A⟩;refine ⟨x,u,fun z o j C=>?_⟩;have:=E (fun j=>z j-x j) (by show z done-x done=0;rw [o.1,u.1];grind) (fun r G=>by rw [dot_sub,o.2 r G,u.2 r G];grind) j C;have e:z j-x j=0:=this;grind
structure kA (n:Nat) (ps:List aD) (V I:Nat->Rat):Prop where
 gnd:V 0=0
 node:∀ r,0<r->r<n->fG (fun i=>cO ps i r*I i) ps.length=0
 part:∀ i (h:i<ps.length),bP ps[i].kind ps[i].q*(V ps[i].a.toNat-V ps[i].b.toNat)+cT ps[i].kind ps[i].q*(V ps[i].c.toNat-V ps[i].d.toNat)+bQ ps[i].kind ps[i].q*I i=0
theorem wW (f g:Nat->Rat):∀ k,fG (fun i=>f i+g i) k=fG f k+fG g k:=by
 intro k;induction k with
 | zero=>show (0:Rat)=0+0;grind
 | succ k ih=>rw [bJ,bJ,bJ,ih];grind
theorem Ez (c:Rat) (f:Nat->Rat):∀ k,fG (fun i=>c*f i) k=c*fG f k:=by
 intro k;induction k with
 | zero=>show (0:Rat)=c*0;grind
 | succ k ih=>rw [bJ,bJ,ih];grind
theorem aE.add {b I':Nat->Rat} (h:aE n ps V I) (k:kA n ps b I'):aE n ps (fun j=>V j+b j) (fun i=>I i+I' i):=by
 refine ⟨by show V 0+b 0=0;rw [h.gnd,k.gnd];grind,fun r c hn=>?_,fun i hi=>?_⟩
 ·have e:fG (fun i=>cO ps i r*(I i+I' i)) ps.length=fG (fun i=>cO ps i r*I i+cO ps i r*I' i) ps.length:=iF _ _ _ (fun i _=>by grind);show fG (fun i=>cO ps i r*(I i+I' i)) ps.length=0
  rw [e,wW,h.node r c hn,k.node r c hn];grind
 ·have d:=h.part i hi;have f:=k.part i hi;grind
theorem aE.sub {b I':Nat->Rat} (h:aE n ps V I) (k:aE n ps b I'):kA n ps (fun j=>V j-b j) (fun i=>I i-I' i):=by
 refine ⟨by show V 0-b 0=0;rw [h.gnd,k.gnd];grind,fun r c hn=>?_,fun i hi=>?_⟩
 ·have e:fG (fun i=>cO ps i r*(I i-I' i)) ps.length=fG (fun i=>cO ps i r*I i + -1*(cO ps i r*I' i)) ps.length:=iF _ _ _ (fun i _=>by grind);show fG (fun i=>cO ps i r*(I i-I' i)) ps.length=0
  rw [e,wW,Ez,h.node r c hn,k.node r c hn];grind
 ·have d:=h.part i hi;have f:=k.part i hi;grind
def mB (n:Nat) (ps:List aD):Prop:=∀ V I,kA n ps V I->(∀ j,j<n->V j=0)/\∀ i,i<ps.length->I i=0
theorem uV (h:aE n ps V I) (b:∀ V' I',aE n ps V' I'->(∀ j,j<n->V' j=V j)/\∀ i,i<ps.length->I' i=I i):mB n ps:=by
 intro V' I' k;obtain ⟨c,d⟩:=b _ _ (h.add k);refine ⟨fun j e=>?_,fun i hi=>?_⟩
 ·have:V j+V' j=V j:=c j e;grind
 ·have:I i+I' i=I i:=d i hi;grind
theorem gU (g:bS n ps) (h:mB n ps):∃ V I,aE n ps V I/\∀ V' I',aE n ps V' I'->(∀ j,j<n->V' j=V j)/\∀ i,i<ps.length->I' i=I i:=by
 obtain ⟨y,hy,u⟩:=lin_one (iB n ps) (n+ps.length) (fun x H f j A=>by
  have B:=g.lo
  -- x is what an answer could have k: from rows to laws
  have e:∀ z:Nat->Rat,z (n+ps.length) = -1->(∀ r,r<n+ps.length->cK (n+ps.length+1) z (iB n ps r)=0)->aE n ps z (fun i=>z (n+i)):=fun z h1 h2=>((iN g z).1 ⟨h1,h2⟩).2
  have hom:kA n ps x (fun i=>x (n+i)):=by
   refine ⟨?_,fun r R hn=>?_,fun i hi=>?_⟩
   ·have:=f 0 O;unfold iB at this;rw [if_pos rfl,iJ,mM,if_pos O] at this;grind
   ·have:=f r O;unfold iB at this;rw [if_neg O,if_pos hn,uO] at this;exact this
   ·have:=f (n+i) O;obtain ⟨J,L,M,N,C,E,F,G,ha,hb,hc,hd⟩:=g.ends ps[i] (List.getElem_mem hi);unfold iB at this;rw [if_neg O,if_neg O,show n+i-n=i by omega,zX hi] at this;have d:=uP x n ps.length i ps[i].a.toNat ps[i].b.toNat ps[i].c.toNat ps[i].d.toNat (bP ps[i].kind ps[i].q) (bQ ps[i].kind ps[i].q) (cT ps[i].kind ps[i].q) (cL ps[i].kind ps[i].q) hi (by rw [C];simpa using ha) (by rw [E];simpa using hb) (by rw [F];simpa using hc) (by rw [G];simpa using hd);have t:cK (n+ps.length+1) x (prow n ps.length i ps[i])=0:=this;unfold prow at t;rw [d,H] at t;grind
  obtain ⟨h1,h2⟩:=h _ _ hom;by_cases o:j<n
  ·exact h1 j o
  ·have:x (n+(j-n))=0:=h2 (j-n) O;rw [show n+(j-n)=j by omega] at this;exact this)
 refine ⟨y,fun i=>y (n+i),((iN g y).1 hy).2,fun V' I' hh=>?_⟩;obtain ⟨x,m,p,s⟩:=jU g hh;exact ⟨fun j A=>by rw [<- p j A];exact u x m j O,fun i hi=>by rw [<- s i hi];exact u x m (n+i) O⟩
theorem jQ (p:aD):(aH p).kind=p.kind/\(aH p).a=p.a/\(aH p).b=p.b/\(aH p).c=p.c/\(aH p).d=p.d:=by
 unfold aH;split<;>exact ⟨rfl,rfl,rfl,rfl,rfl⟩
theorem BM (p:aD):bP (aH p).kind (aH p).q=bP p.kind p.q/\cT (aH p).kind (aH p).q=cT p.kind p.q/\bQ (aH p).kind (aH p).q=bQ p.kind p.q:=by
 by_cases h:p.kind=4∨p.kind=5
 ·rw [(jQ p).1];rcases h with h | h<;>rw [h]<;>exact ⟨rfl,rfl,rfl⟩
 ·have e:aH p=p:=by unfold aH;rw [if_neg h]
  rw [e];exact ⟨rfl,rfl,rfl⟩
structure uk (ps qs:List aD):Prop where
 len:qs.length=ps.length
 at_:∀ i (h:i<ps.length) (h':i<qs.length),qs[i].a=ps[i].a/\qs[i].b=ps[i].b/\qs[i].c=ps[i].c/\qs[i].d=ps[i].d/\bP qs[i].kind qs[i].q=bP ps[i].kind ps[i].q/\cT qs[i].kind qs[i].q=cT ps[i].kind ps[i].q/\bQ qs[i].kind qs[i].q=bQ ps[i].kind ps[i].q
theorem amp_of {p q:aD} (ha:q.a=p.a) (hb:q.b=p.b) (r:Nat):qZ q r=qZ p r:=by unfold qZ;rw [ha,hb]
theorem uk.hom {b:List aD} (h:uk ps b) (k:kA n b V I):kA n ps V I:=by
 refine ⟨k.gnd,fun r g hn=>?_,fun i hi=>?_⟩
 ·have:=k.node r g hn;rw [h.len] at this;rw [<- this];refine iF _ _ _ (fun i hi=>?_);have c:i<b.length:=by rw [h.len];exact hi
  obtain ⟨ha,hb,_⟩:=h.at_ i hi c;unfold cO;rw [zX hi,zX c];show qZ ps[i] r*I i=qZ b[i] r*I i
  rw [amp_of ha hb]
 ·have c:i<b.length:=by rw [h.len];exact hi
  obtain ⟨ha,hb,hc,hd,d,e,f⟩:=h.at_ i hi c;have:=k.part i c;rw [ha,hb,hc,hd,d,e,f] at this;exact this
theorem uk.fixed {b:List aD} (h:uk ps b) (k:mB n ps):mB n b:=by
 intro V I hh;obtain ⟨c,d⟩:=k V I (h.hom hh);exact ⟨c,fun i hi=>d i (by rw [<- h.len];exact hi)⟩
theorem uw (ps:List aD):uk ps (ps.map aH):=by
 refine ⟨Z,fun i h e=>?_⟩;rw [List.getElem_map];obtain ⟨_,ha,hb,hc,hd⟩:=jQ ps[i];obtain ⟨b,c,d⟩:=BM ps[i];exact ⟨ha,hb,hc,hd,b,c,d⟩
theorem xS {p:aD} (d:bP p.kind p.q=0) (f:cT p.kind p.q=0) (g:bQ p.kind p.q=1) (h:mB n ps):mB n (ps++[p]):=by
 intro V I k;have b:(ps++[p]).length=ps.length+1:=Z
 have j:(ps++[p])[ps.length]'O=p:=Z
 have c:I ps.length=0:=by
  have:=k.part ps.length O;rw [j,d,f,g] at this;grind
 have hom:kA n ps V I:=by
  refine ⟨k.gnd,fun r s hn=>?_,fun i hi=>?_⟩
  ·have:=k.node r s hn;rw [b,bJ,c] at this;have e:fG (fun i=>cO (ps++[p]) i r*I i) ps.length=fG (fun i=>cO ps i r*I i) ps.length:=iF _ _ _ (fun i hi=>by unfold cO;rw [List.getElem?_append_left hi]);rw [e] at this;grind
  ·have:=k.part i O;have e:(ps++[p])[i]'O=ps[i]:=List.getElem_append_left hi;rw [e] at this;exact this
 obtain ⟨m,o⟩:=h V I hom;refine ⟨m,fun i hi=>?_⟩;by_cases e:i=ps.length
 ·rw [e];exact c
 ·exact o i O
theorem mh (h:mB n ps) (a b:Int):mB n (aW ps a b):=xS rfl rfl rfl ((uw ps).fixed h)
theorem qC (h:bS n ps) (j:ps.length<=19) {a b:Int} (ha:0<=a/\a<(n:Int)) (hb:0<=b/\b<(n:Int)):bS n (aW ps a b):=by
 refine ⟨h.lo,h.hi,by unfold aW;simp;omega,fun p hp=>?_⟩;unfold aW at hp;rcases List.mem_append.1 hp with hp | hp
 ·obtain ⟨q,c,rfl⟩:=List.mem_map.1 hp;obtain ⟨_,d,e,f,g⟩:=jQ q;rw [d,e,f,g];exact h.ends q c
 ·simp only [List.mem_singleton] at hp;subst hp;have:=h.lo;exact ⟨b.toNat,a.toNat,0,0,by show b=_;omega,by show a=_;omega,rfl,rfl,O,O,O,O⟩
def cH (n k:Nat) (a b:Int):Int×Int:=if a<0∨(n:Int)<=a then (4,k) else if b<0∨(n:Int)<=b then (4,(k:Int)+1) else (0,0)
def EndsR2 (W:World) (n:Nat) (a b:Int) (v:Value) (wr:World):Prop :=
 (v=.int .i64 0/\W.grownBy wr none)∨(v=.int .i64 1/\0<=a/\a<(n:Int)/\W.grownBy wr none)∨(v=.int .i64 2/\0<=a/\a<(n:Int)/\0<=b/\b<(n:Int)/\W.grownBy wr none)
theorem ends_at (n k:Nat) (p:Option Addr) (q:Nat) (a b:Int) (w:World) (A:k<=1000) :
  Calls Tryz.prog 46 #[.agg #[.int .i64 ((n:Nat):Int),.slice p k q],.int .i64 a,.int .i64 b] w
   fun e w'=>e=.returned (.agg #[.int .i64 (cH n k a b).1,.int .i64 (cH n k a b).2])/\w.grownBy w' none:=by
 obtain ⟨W,o⟩:=eX ((w.alloc (Obj.cells #[.int .i64 ((n:Nat):Int),.slice p k q] 24)).alloc (Obj.cells #[.int .i64 0,.int .i64 0] 29));have h:Hid (w.grownBy W none):=by rw [o];exact ae (ae (ag _ _) _) _
 have r:Hid (∀ wx,W.grownBy wx none->wx.cell? ⟨w.heap.size,0,none⟩=some (.int .i64 ((n:Nat):Int))/\wx.cell? ⟨w.heap.size,1,none⟩=some (.slice p k q)/\wx.cell? ⟨w.heap.size+1,0,none⟩=some (.int .i64 0)/\wx.cell? ⟨w.heap.size+1,1,none⟩=some (.int .i64 0)/\wx.frozen? ⟨w.heap.size+1,0,none⟩=false/\wx.frozen? ⟨w.heap.size+1,1,none⟩=false):=by
  intro wx hg;have e:wx.heap[w.heap.size+1]? = some (Obj.cells #[.int .i64 0,.int .i64 0] 29 (0,0)):=by
   rw [o] at hg;rw [hg.block (w.heap.size+1) Z Z];have:=heap_alloc_new (w.alloc (Obj.cells #[.int .i64 ((n:Nat):Int),.slice p k q] 24)) (Obj.cells #[.int .i64 0,.int .i64 0] 29);simpa using this
  rw [o] at hg;exact ⟨hg.cell zG Z,hg.cell zG Z,by simp [World.cell?,e],by simp [World.cell?,e],by simp [World.frozen?,e],by simp [World.frozen?,e]⟩
 have t:∀ wx,(Instr.index 123 (.agg #[.int .i64 a,.int .i64 b]) (.int .i64 0)).run Tryz.prog wx=.ok (.int .i64 a) wx:=fun wx=>zK
 have u:∀ wx,(Instr.index 123 (.agg #[.int .i64 a,.int .i64 b]) (.int .i64 1)).run Tryz.prog wx=.ok (.int .i64 b) wx:=fun wx=>zK
 go_enter Tryz.func46,Tryz.ntmps46
 go_wp2;rw [<- o];clear o;go_loopw [12] (fun v wr=>Hid (EndsR2 W n a b v wr)) (fun v _=>2-(intOf v).toNat)
 case atStart=>exact .inl ⟨rfl,ag _ _⟩
 case round =>
  rcases hrel.out with ⟨rfl,d⟩ | ⟨rfl,x,y,d⟩ | ⟨rfl,x,y,B,C,d⟩
  ·have f:=aa d;obtain ⟨s0,s1,s2,s3,s4,s5⟩:=r.out wr d;clear hrel d;by_cases ha:a<0
   ·have c:cH n k a b=(4,(k:Int)):=by unfold cH;rw [if_pos (.inl ha)]
    have g:=aa c;have hd:decide (a<0)=true:=decide_eq_true ha;clear c;go_wp2;refine bodyPost_ret (v:=.agg #[.int .i64 4,.int .i64 (k:Int)]) (by simp [results,Tryz.results46,go_sem,s2,s3]) rfl ?_;exact ⟨by rw [g],ah (ah (ab h f) _ _ Z) _ _ Z⟩
   ·by_cases j:(n:Int)<=a
    ·have c:cH n k a b=(4,(k:Int)):=by unfold cH;rw [if_pos (.inr j)]
     have g:=aa c;have hd:decide (a<0)=false:=decide_eq_false ha;clear c;go_wp2;refine bodyPost_ret (v:=.agg #[.int .i64 4,.int .i64 (k:Int)]) (by simp [results,Tryz.results46,go_sem,s2,s3]) rfl ?_;exact ⟨by rw [g],ah (ah (ab h f) _ _ Z) _ _ Z⟩
    ·have hd:decide (a<0)=false:=decide_eq_false ha;have s:decide ((n:Int)<=a)=false:=decide_eq_false j;go_wp2;go_roundw
     case rel=>exact .inr (.inl ⟨zN,O,O,f⟩)
     case measure=>simp [intOf]
  ·have f:=aa d;obtain ⟨s0,s1,s2,s3,s4,s5⟩:=r.out wr d;clear hrel d;have z:IntKind.i64.wrap ((k:Int)+1)=(k:Int)+1:=IntWalk.i64_in _ ⟨O,O⟩;by_cases hb:b<0
   ·have c:cH n k a b=(4,(k:Int)+1):=by unfold cH;rw [if_neg O,if_pos (.inl hb)]
    have g:=aa c;have hd:decide (b<0)=true:=decide_eq_true hb;clear c;go_wp2;refine bodyPost_ret (v:=.agg #[.int .i64 4,.int .i64 ((k:Int)+1)]) (by simp [results,Tryz.results46,go_sem,s2,s3]) rfl ?_;exact ⟨by rw [g],ah (ah (ab h f) _ _ Z) _ _ Z⟩
   ·by_cases m:(n:Int)<=b
    ·have c:cH n k a b=(4,(k:Int)+1):=by unfold cH;rw [if_neg O,if_pos (.inr m)]
     have g:=aa c;have hd:decide (b<0)=false:=decide_eq_false hb;clear c;go_wp2;refine bodyPost_ret (v:=.agg #[.int .i64 4,.int .i64 ((k:Int)+1)]) (by simp [results,Tryz.results46,go_sem,s2,s3]) rfl ?_;exact ⟨by rw [g],ah (ah (ab h f) _ _ Z) _ _ Z⟩
    ·have hd:decide (b<0)=false:=decide_eq_false hb;have s:decide ((n:Int)<=b)=false:=decide_eq_false m;go_wp2;go_roundw
     case rel=>exact .inr (.inr ⟨zN,x,y,O,O,f⟩)
     case measure=>simp [intOf]
  ·have f:=aa d;obtain ⟨s0,s1,s2,s3,s4,s5⟩:=r.out wr d;clear hrel d;have c:cH n k a b=(0,0):=by unfold cH;rw [if_neg O,if_neg O]
   have g:=aa c;clear c;go_wp2;refine bodyPost_ret (v:=.agg #[.int .i64 0,.int .i64 0]) (by simp [results,Tryz.results46,go_sem,s2,s3]) rfl ?_;exact ⟨by rw [g],ah (ah (ab h f) _ _ Z) _ _ Z⟩
def PusR (W:World) (base:Nat) (v:Value) (ps:List aD) (iv:Value) (wr:World):Prop :=
 ∃ i:Nat,i<=ps.length/\iv=.int .i64 i/\eD wr base v (dI ps i)/\W.grownBy wr none
theorem eD.kept {row:Option Nat} (h:eD w base v ps) (hg:w.grownBy w' row) (b:v.ownBlock=none∨v.ownBlock≠row):eD w' base v ps:=World.ownsRow.kept h hg b
theorem eD.keep0 (h:eD w base v ps) (hg:w.grownBy w' none):eD w' base v ps:=h.kept hg (by cases hv:v.ownBlock<;>simp)
theorem eD.shape (h:eD w base v ps):∃ ao c,v=.slice ao ps.length c/\c<=maxLen:=by
 rcases h.2 with ⟨e,d⟩ | ⟨g,b,f,e,_,_,_,j,_⟩
 ·exact ⟨none,0,by rw [e,d],by unfold maxLen;omega⟩
 ·exact ⟨_,b,e,j⟩
theorem BK (n:Nat) (A:Option Addr) (B:Nat) (ps:List aD) (a b:Int) (w:World) (h:aA w (.slice A ps.length B) ps) (hn:ps.length<=1000) :
  Calls Tryz.prog 48 #[.agg #[.int .i64 ((n:Nat):Int),.slice A ps.length B],.int .i64 a,.int .i64 b] w fun e w'=>PushE w n ps a b e w':=by
 obtain ⟨i0,hm,ho,hp,hr⟩:=info_parts Tryz.infoPart;have HP:=aa h;have he:=aa h.sizes;clear h;obtain ⟨W,E⟩:=eX ((w.alloc (Obj.cells #[.int .i64 ((n:Nat):Int),.slice A ps.length B] 24)).alloc (Obj.cells #[.int .i64 0,.slice none 0 0] 24));have GW:Hid (w.grownBy W none):=by rw [E];exact ae (ae (ag _ _) _) _
 have F:Hid (W.heap.size=w.heap.size+2):=by show _=_;rw [E];simp
 have CX:Hid (∀ wx,W.grownBy wx none->wx.cell? ⟨w.heap.size,0,none⟩=some (.int .i64 ((n:Nat):Int))/\wx.cell? ⟨w.heap.size,1,none⟩=some (.slice A ps.length B)/\wx.cell? ⟨w.heap.size+1,0,none⟩=some (.int .i64 0)/\wx.cell? ⟨w.heap.size+1,1,none⟩=some (.slice none 0 0)/\wx.frozen? ⟨w.heap.size+1,0,none⟩=false/\wx.frozen? ⟨w.heap.size+1,1,none⟩=false):=by
  intro wx hg;have e:wx.heap[w.heap.size+1]? = some (Obj.cells #[.int .i64 0,.slice none 0 0] 24 (0,0)):=by
   rw [hg.block (w.heap.size+1) (by rw [F];omega) Z,E];have:=heap_alloc_new (w.alloc (Obj.cells #[.int .i64 ((n:Nat):Int),.slice A ps.length B] 24)) (Obj.cells #[.int .i64 0,.slice none 0 0] 24);simpa using this
  rw [E] at hg;exact ⟨hg.cell zG Z,hg.cell zG Z,by simp [World.cell?,e],by simp [World.cell?,e],by simp [World.frozen?,e],by simp [World.frozen?,e]⟩
 obtain ⟨s0,s1,s2,s3,s4,s5⟩:=CX.out W (ag _ _);go_enter Tryz.func48,Tryz.ntmps48
 go_upto_region 1 with fail;rw [<- E];clear E;go_wp2_with fail;refine (rx A B ps W (HP.keep GW) O).mono ?_;rintro e w1 ⟨v,rfl,o1,g1⟩;obtain ⟨T,c,rfl,hc⟩:=o1.shape;have O1:=aa o1;have G1:=aa g1;have HC:=aa hc;unfold maxLen at hc;clear o1 g1 s0 s1 s2 s3 s4 s5;go_wp2;go_loopw [15] (fun iv wr=>Hid (PusR W W.heap.size (.slice T ps.length c) ps iv wr)) (fun iv _=>ps.length-(intOf iv).toNat)
 case atStart=>exact ⟨0,O,rfl,by rw [tN];exact O1,G1⟩
 case round =>
  obtain ⟨i,hi,rfl,l1,l2⟩:=hrel.out;have C:=aa l1;have Y:=aa l2;clear l1 l2 hrel;by_cases hlt:i<ps.length
  ·obtain ⟨g,rfl,hs⟩:∃ g,T=some ⟨g,0,none⟩/\W.heap.size<=g:=by
    rcases C.out.2 with ⟨e,h0⟩ | ⟨g,U,hw,e,hb,_⟩
    ·rw [bI] at h0;omega
    ·simp only [Value.slice.injEq] at e;exact ⟨g,e.1,hb⟩
   have hl:(dI ps i).length=ps.length:=bI ps i;obtain ⟨q,hq⟩:=eX (ps[i]);have s:(dI ps i)[i]'O=q:=by rw [gG ps i i hlt,if_neg O,hq]
   have t:∀ k u,k<6->(cj q)[k]? = some u->wr.cell? ⟨g,i*6+k,none⟩=some u:=by
    intro k u hk hu;have m:=World.ownsRow.cells C (g:=g) rfl (i*6+k) u (by rw [gj _ i k O hk,s];exact hu);rw [show (⟨g,0,none⟩:Addr).add (i*6+k)=⟨g,i*6+k,none⟩ from by unfold Addr.add;split<;>simp_all] at m;exact m
   have k0:=t 0 _ O rfl;have k1:=t 1 _ O rfl;have k2:=t 2 _ O rfl;have k3:=t 3 _ O rfl;have k4:=t 4 _ O rfl;have k5:=t 5 _ O rfl;rw [Nat.add_zero] at k0;have kf:wr.frozen? ⟨g,i*6+5,none⟩=false:=by
    rcases C.out.2 with ⟨e,_⟩ | ⟨g',U,hw,e,hb,hh,_⟩
    ·simp at e
    ·simp only [Value.slice.injEq,zI,Addr.mk.injEq,and_true] at e;obtain ⟨rfl,_⟩:=e;simp [World.frozen?,hh]
   have HQ:=aa hq;have G:=aa s;clear t hq s;go_upto_region 5 with fail;obtain ⟨X,f⟩:=eX (wr.alloc (Obj.cells #[.int .i64 q.kind,.int .i64 q.a,.int .i64 q.b,.int .i64 q.c,.int .i64 q.d,.string q.v] 60));have H:Hid (wr.grownBy X none):=by rw [f];exact ae (ag _ _) _
   have kk:X.cell? ⟨wr.heap.size,0,none⟩=some (.int .i64 q.kind):=by rw [f];go_simp
   have kc:=H.out.cell k5 Z;have kg:X.frozen? ⟨g,i*6+5,none⟩=false:=by rw [World.frozen?_of_block (H.block g (cJ k5) Z)];exact kf
   rw [<- f];clear f k0 k1 k2 k3 k4 k5 kf;have J:=aa (C.keep0 H);by_cases hk:q.kind=4∨q.kind=5
   ·have L:Hid (eD (X.setCell ⟨g,i*6+5,none⟩ (.string ⟨#[48]⟩)) W.heap.size (.slice (some ⟨g,0,none⟩) ps.length c) (dI ps (i+1))):=by
     show World.ownsRow ..
     have o:=J.out;unfold eD at o;rw [hl] at o;have h2:=own_set o (i*6+5) O (.string ⟨#[48]⟩);rw [uH _ i O ⟨#[48]⟩,G] at h2;have M:aH ps[i] = { q with v:=⟨#[48]⟩ }:=by rw [<- HQ];unfold aH;rw [if_pos hk]
     rw [bI,oD ps i hlt,M];exact h2
    have GU:Hid (W.grownBy (X.setCell ⟨g,i*6+5,none⟩ (.string ⟨#[48]⟩)) none):=ah (ab Y H) _ _ hs;by_cases x:q.kind=4
    ·rw [x] at kk;clear hk x;go_wp2;go_roundw
     case rel=>exact ⟨i+1,O,zN,L,GU⟩
     case measure=>exact bO
    ·have N:q.kind=5:=O
     rw [N] at kk;clear hk x N;go_wp2;go_roundw
     case rel=>exact ⟨i+1,O,zN,L,GU⟩
     case measure=>exact bO
   ·have b4:(q.kind==4)=false:=zB (fun e=>hk (.inl e));have b5:(q.kind==5)=false:=zB (fun e=>hk (.inr e));have M:Hid (dI ps (i+1)=dI ps i):=by
     show _=_
     have e2:aH ps[i]=q:=by rw [<- HQ];unfold aH;rw [if_neg hk]
     rw [oD ps i hlt,e2];apply List.ext_getElem
     ·rw [List.length_set]
     ·intro j o h2;rw [List.getElem_set];by_cases ej:i=j
      ·subst ej;rw [if_pos rfl,G]
      ·rw [if_neg ej]
    clear hk;go_wp2;go_roundw
    case rel=>exact ⟨i+1,O,zN,by rw [M];exact J,ab Y H⟩
    case measure=>exact bO
  ·obtain rfl:i=ps.length:=O
   have J:Hid (eD wr W.heap.size (.slice T ps.length c) (ps.map aH)):=by rw [<- wi];exact C
   have y:Hid (World.ownsRow (wr.alloc (Obj.cells #[.int .i64 5,.int .i64 b,.int .i64 a,.int .i64 0,.int .i64 0,.string ⟨#[49]⟩] 60)) W.heap.size 60 6 (.slice T ps.length c) ps.length (aK (ps.map aH))):=by
    have o:=J.out.keep0 (ae (ag wr none) (Obj.cells #[.int .i64 5,.int .i64 b,.int .i64 a,.int .i64 0,.int .i64 0,.string ⟨#[49]⟩] 60));unfold eD at o;rw [List.length_map] at o;exact o
   have R:Hid (∀ j u,(cj ⟨5,b,a,0,0,⟨#[49]⟩⟩)[j]? = some u->(wr.alloc (Obj.cells #[.int .i64 5,.int .i64 b,.int .i64 a,.int .i64 0,.int .i64 0,.string ⟨#[49]⟩] 60)).cell? ((⟨wr.heap.size,0,none⟩:Addr).add j)=some u):=by
    intro j u hj;have hn:=heap_alloc_new wr (Obj.cells #[.int .i64 5,.int .i64 b,.int .i64 a,.int .i64 0,.int .i64 0,.string ⟨#[49]⟩] 60);rw [show (⟨wr.heap.size,0,none⟩:Addr).add j=⟨wr.heap.size,j,none⟩ from by simp [Addr.add];omega];simp only [World.cell?,hn];rw [<- hj];simp [cj]
   have hf:Hid (W.heap.size<=wr.heap.size):=Y.out.size;clear C;go_wp2_with (at_builtin;refine wpList_append_own _ rfl _ _ 22 rfl W.heap.size 60 i0 _ 6 56 Tryz.underlying22 hm ho hp hr rfl zD (.slice T ps.length c) ps.length (aK (ps.map aH)) rfl y ⟨wr.heap.size,0,none⟩ 1 1 (cj ⟨5,b,a,0,0,⟨#[49]⟩⟩) rfl rfl R ?c3 ?c4 ?c5 ?c6 ?_)
   case c3 =>
    intro u hu;exact gA [⟨5,b,a,0,0,⟨#[49]⟩⟩] u (by simpa [aK] using hu)
   case c4=>unfold maxLen;omega
   case c5=>omega
   case c6=>simp;exact Nat.le_succ_of_le hf
   intro v' w5 p S _;have O5:Hid (eD w5 W.heap.size v' (aW ps a b)):=by
    show World.ownsRow ..
    have M:(aW ps a b).length=ps.length+1:=by simp [aW]
    have e2:aK (aW ps a b)=aK (ps.map aH)++cj ⟨5,b,a,0,0,⟨#[49]⟩⟩:=by
     unfold aW;rw [ir];simp [aK]
    rw [M,e2];exact p
   have G5:Hid (W.grownBy w5 none):=by
    refine aj (r:=none) (ab Y (ae (ag wr none) _)) S (fun _ _ e=>e) (fun k hk e=>?_);have:=(World.ownsRow.lt y k e.symm).1;omega
   obtain ⟨z,c5,e5,hx⟩:=O5.out.shape;have e6:(aW ps a b).length=ps.length+1:=by simp [aW]
   rw [e6] at e5;subst e5;clear p S y R J;obtain ⟨s0,s1,s2,s3,s4,s5⟩:=CX.out w5 G5;go_wp2;refine bodyPost_ret (v:=.agg #[.int .i64 ((n:Nat):Int),.slice z (ps.length+1) c5]) (by simp [results,Tryz.results48,go_sem,s2,s3]) rfl ?_;refine ⟨z,c5,rfl,?_,ah (ah (ab GW G5) _ _ (Nat.le_add_right _ 1)) _ _ (Nat.le_add_right _ 1)⟩;refine eD.parts (base:=W.heap.size) ((O5.kept (bR _ _ _ _) ?_).kept (bR _ _ _ _) ?_) (yE he a b)
   all_goals
    cases hv:(Value.slice z (ps.length+1) c5).ownBlock with
    | none=>exact .inl rfl
    | some k =>
     right
     intro e;have:=(World.ownsRow.lt O5 k hv).1;have:=zJ e;have:=F.out;omega
theorem ma (g n c:Nat) (m:Option Addr) (al o:Nat) (R:Nat->Rat) (i j L:Nat) (w:World) (f:aI w g n R L) (hi:i<n) (hj:j<n) (hc:n<=c) (hm:c<=maxLen) (hL:L<=100000000) :
  Calls Tryz.prog 37 #[.agg #[.slice (some ⟨g,0,none⟩) n c,.slice m al o],.int .i64 ((i:Nat):Int),.int .i64 ((j:Nat):Int)] w fun e w'=>Cm w (R i-R j) (L+L+2) e w':=by
 unfold maxLen at hm;have he:=f.lt;obtain ⟨z,A,B,C,E,F,c0,c1,c2,c3,_⟩:=f.at i hi;obtain ⟨G,H,J,M,N,S,T,U,X,e3,_⟩:=f.at j hj;have C3:=aa c3;have E3:=aa e3;clear f c3 e3;obtain ⟨W,d⟩:=eX ((w.alloc (Obj.cells #[.slice (some ⟨g,0,none⟩) n c,.slice m al o] 78)).alloc (Obj.cells #[.bool false,.slice none 0 0,.slice none 0 0] 85));have h:Hid (w.grownBy W none):=by rw [d];exact ae (ae (ag _ _) _) _
 have u:Hid (∀ wx,W.grownBy wx none->wx.cell? ⟨w.heap.size,0,none⟩=some (.slice (some ⟨g,0,none⟩) n c)/\wx.cell? ⟨g,i*3,none⟩=some (.bool (rB (R i)))/\wx.cell? ⟨g,i*3+1,none⟩=some (.slice z A B)/\wx.cell? ⟨g,i*3+2,none⟩=some (.slice C E F)/\wx.cell? ⟨g,j*3,none⟩=some (.bool (rB (R j)))/\wx.cell? ⟨g,j*3+1,none⟩=some (.slice G H J)/\wx.cell? ⟨g,j*3+2,none⟩=some (.slice M N S)):=by
  intro wx hg;have b:=ab h hg;rw [d] at hg;exact ⟨hg.cell zG Z,b.cell c0 Z,b.cell c1 Z,b.cell c2 Z,b.cell T Z,b.cell U Z,b.cell X Z⟩
 have p:Hid (∀ wx,W.grownBy wx none->(wx.cell? ⟨w.heap.size+1,0,none⟩=some (.bool false)/\wx.cell? ⟨w.heap.size+1,1,none⟩=some (.slice none 0 0)/\wx.cell? ⟨w.heap.size+1,2,none⟩=some (.slice none 0 0)/\∀ i,wx.frozen? ⟨w.heap.size+1,i,none⟩=false)/\bM wx (w.heap.size+1)):=by
  intro wx hg;rw [d] at hg;have x:=aV hg;have y:=bu hg;have e3:(w.alloc (Obj.cells #[.slice (some ⟨g,0,none⟩) n c,.slice m al o] 78)).heap.size=w.heap.size+1:=Z
  rw [e3] at x y;exact ⟨x,y⟩
 clear c0 c1 c2 T U X;have GG:W.grownBy W none:=ag _ _;obtain ⟨s0,s1,s2,s3,s4,s5,s6⟩:=u.out W GG;have n1:w.heap.size+1≠w.heap.size:=O
 have n2:w.heap.size+1≠g:=O
 have hf:(0:Int)<=((i:Nat):Int):=O
 have hk:((i:Nat):Int)<(n:Int):=O
 have hl:(0:Int)<=((j:Nat):Int):=O
 have ho:((j:Nat):Int)<(n:Int):=O
 go_enter Tryz.func37,Tryz.ntmps37
 go_upto_region 1 with fail;rw [<- d];clear d;go_region_held3 (fun w'=>w'.cell? ⟨w.heap.size,0,none⟩=some (.slice (some ⟨g,0,none⟩) n c)/\w'.cell? ⟨g,i*3,none⟩=some (.bool (rB (R i)))/\w'.cell? ⟨g,i*3+1,none⟩=some (.slice z A B)/\w'.cell? ⟨g,i*3+2,none⟩=some (.slice C E F)/\w'.cell? ⟨g,j*3,none⟩=some (.bool (rB (R j)))/\w'.cell? ⟨g,j*3+1,none⟩=some (.slice G H J)/\w'.cell? ⟨g,j*3+2,none⟩=some (.slice M N S)) (go_keep)
  (first | (go_at_call 67;refine (dD _ _ (R i) (R j) L L _ (C3.keep0 (ab h zF)) (E3.keep0 (ab h zF)) O).mono ?_;rintro e q ⟨v6,rfl,f1,Y⟩;obtain ⟨fo,fl,fc,r,s,t,rfl⟩:=f1.shape;have GG:W.grownBy q none:=ab zF Y;obtain ⟨b0,b1,b2,b3,b4,b5,b6⟩:=u.out q GG;obtain ⟨⟨r0,r1,r2,k⟩,nw⟩:=p.out q GG;have hp:=k 0;have hq:=k 1;have hs:=k 2;clear k))
 all_goals
  have F1:=aa f1;have NW:=aa nw;have HG:=aa GG;clear f1 Y nw;go_wp2;refine bodyPost_ret (v:=.agg #[.bool (rB (R i-R j)),.slice fo fl fc,.slice r s t]) (by first | (simp [results,Tryz.results37,go_sem,r0,r1,r2];done) | (simp [results,Tryz.results37,go_sem,r0,r1,r2];rfl)) rfl ?_;exact ⟨_,rfl,FV.other F1 NW bH,ah (ah (ah (ab h HG) _ _ Z) _ _ Z) _ _ Z⟩
end Go.Proofs.YtbfohfjobncehaaGreatDoor
