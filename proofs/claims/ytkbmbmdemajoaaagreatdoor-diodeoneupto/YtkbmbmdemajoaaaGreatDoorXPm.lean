/- Contracts. -/
import Derived.Test.YtkbmbmdemajoaaaGreatDoorXPl
namespace Go.Proofs.YtkbmbmdemajoaaaGreatDoor
open Go.RowKit
set_option linter.unusedVariables false
set_option linter.unusedSimpArgs false
set_option maxHeartbeats 8000000
set_option maxRecDepth 10000
variable {R W:Nat->Nat->Rat} {L i m base n:Nat} {w w':World} {bs cs b:Nat->Nat} {d:Rat} {v:Value} {perm order:List Nat}
abbrev Pc6 (w:World) (g o:Nat) (p:aD):Prop:=w.cell? ⟨g,o,none⟩=some (.int .i64 p.kind)/\w.cell? ⟨g,o+1,none⟩=some (.int .i64 p.a)/\w.cell? ⟨g,o+2,none⟩=some (.int .i64 p.b)/\w.cell? ⟨g,o+3,none⟩=some (.int .i64 p.c)/\w.cell? ⟨g,o+4,none⟩=some (.int .i64 p.d)/\w.cell? ⟨g,o+5,none⟩=some (.string p.v)
abbrev nf (w:World) (g:Nat) (p:aD):Prop:=w.cell? ⟨g,0,none⟩=some (.int .i64 p.kind)/\w.cell? ⟨g,1,none⟩=some (.int .i64 p.a)/\w.cell? ⟨g,2,none⟩=some (.int .i64 p.b)/\w.cell? ⟨g,3,none⟩=some (.int .i64 p.c)/\w.cell? ⟨g,4,none⟩=some (.int .i64 p.d)/\w.cell? ⟨g,5,none⟩=some (.string p.v)
theorem nf.k0 {g:Nat} {p:aD} (h:nf w g p) (k:w.grownBy w' none):nf w' g p:=⟨k.cell h.1 Z,k.cell h.2.1 Z,k.cell h.2.2.1 Z,k.cell h.2.2.2.1 Z,k.cell h.2.2.2.2.1 Z,k.cell h.2.2.2.2.2 Z⟩
theorem gJ (w:World) (p:aD) (T:TypeId) (k:(w.alloc (Obj.cells #[.int .i64 p.kind,.int .i64 p.a,.int .i64 p.b,.int .i64 p.c,.int .i64 p.d,.string p.v] T)).grownBy w' none):nf w' w.heap.size p:=nf.k0 (w:=w.alloc _) ⟨zG,zG,zG,zG,zG,zG⟩ k
theorem aR.row {c:Option Addr} {f:Nat} {a:List aD} (h:aR w (.slice c a.length f) a) (k:w.grownBy w' none) (hi:i<a.length):∃ b off,c=some ⟨b,off,none⟩/\Pc6 w' b (off+i*6) a[i]/\a[i].v.size<=600000000:=by
 obtain ⟨s,cap,e,t,u,g⟩:=h.keep k;simp only [Value.slice.injEq,true_and] at e;obtain ⟨rfl,rfl⟩:=e;obtain ⟨b,off,j,hb,c0,c1,l,o,p,q,r⟩:=g i hi;exact ⟨b,off,j,⟨c0,c1,l,o,p,q⟩,r⟩
theorem dq {P:Program} {c:Code} {Q:Exit->Act->World->Prop} {a:Act} {W:World} (F:World->Prop) (h:F W) (k:∀ wx,F wx->Code.wp P c Q a wx):Code.wp P c Q a W:=k _ h
def lI (w:World) (b:Nat) (T:TypeId) (v:Value):Prop:=w.heap[b]? = some (Obj.cells #[v] T (0,0))
section
variable {w w':World} {b:Nat} {T:TypeId} {v:Value}
theorem lI.lt (h:lI w b T v):b<w.heap.size:=(zZ h).1
theorem lI.keep {r:Option Nat} (h:lI w b T v) (g:w.grownBy w' r) (a:some b≠r):lI w' b T v:=by
 have c:=h.lt;unfold lI at h ⊢;rw [g.block b c a,h]
theorem lI.cells (h:lI w b T v):w.cell? ⟨b,0,none⟩=some v/\w.frozen? ⟨b,0,none⟩=false:=by
 unfold lI at h;exact ⟨by simp [World.cell?,h],by simp [World.frozen?,h]⟩
theorem lI.set {a:Option Addr} {l c:Nat} (h:lI w b T (.slice a l c)) (x:Value):lI (w.setCell ⟨b,0,none⟩ x) b T x/\aI w (w.setCell ⟨b,0,none⟩ x) b:=by
 unfold lI at h ⊢;exact ⟨by rw [heap_setCell_same w b 0 _ _ _ h];rfl,aI.set h (fun y e=>by simp at e) _⟩
end
def dW (n:Nat) (p:Nat×Nat):Value:=.slice (some ⟨p.1,0,none⟩) n p.2
def bV (bs cs:Nat->Nat) (i:Nat):List (Nat×Nat):=(List.range i).map (fun j=>(bs j,cs j))
def cQ (f:Nat->Nat) (i g:Nat):Nat->Nat:=fun j=>if j=i then g else f j
theorem bj (bs cs:Nat->Nat) (i:Nat):(bV bs cs i).length=i:=by simp [bV]
theorem rK (bs cs:Nat->Nat) (i g c:Nat):bV bs cs i++[(g,c)]=bV (cQ bs i g) (cQ cs i c) (i+1):=by
 unfold bV;rw [List.range_succ,List.map_append];congr 1
 ·refine List.map_congr_left (fun j a=>?_);have:j≠i:=by have:=List.mem_range.1 a;omega
  simp [cQ,this]
 ·simp [cQ]
theorem Tryz.infoRow:(Tryz.prog.info? 58).map (fun i=>(i.zero,i.size,i.bytes))=some (some (.slice none 0 0),1,24):=zK
structure sd (w:World) (base n i:Nat) (bs cs:Nat->Nat) (R:Nat->Nat->Rat) (L:Nat):Prop where
 low:∀ j,j<i->base<=bs j
 cap:∀ j,j<i->n<=cs j/\cs j<=maxLen
 row:∀ j,j<i->aH w (bs j) n (R j) L
 inj:∀ j k,j<i->k<i->bs j=bs k->j=k
theorem sd.nil (w:World) (base n:Nat) (bs cs:Nat->Nat) (R:Nat->Nat->Rat) (L:Nat):sd w base n 0 bs cs R L:=⟨fun j h=>O,fun j h=>O,fun j h=>O,fun j k h=>O⟩
theorem sd.keep0 (h:sd w base n i bs cs R L) (g:w.grownBy w' none):sd w' base n i bs cs R L:=⟨h.low,h.cap,fun j a=>(h.row j a).keep0 g,h.inj⟩
theorem sd.keepB {b:Nat} (h:sd w base n i bs cs R L) (g:aI w w' b) (hb:∀ j,j<i->bs j≠b):sd w' base n i bs cs R L:=⟨h.low,h.cap,fun j a=>(h.row j a).keep g.1 g.2 (fun e=>hb j a (zJ e)),h.inj⟩
theorem sd.put {g c:Nat} (h:sd w base n i bs cs R L) (p:base<=g) (q:n<=c) (r:c<=maxLen) (s:aH w g n (R i) L) (l:∀ j,j<i->bs j≠g):sd w base n (i+1) (cQ bs i g) (cQ cs i c) R L:=by
 refine ⟨fun j f=>?_,fun j f=>?_,fun j f=>?_,fun j k f t e=>?_⟩
 ·unfold cQ;split
  ·exact p
  ·exact h.low j O
 ·unfold cQ;split
  ·exact ⟨q,r⟩
  ·exact h.cap j O
 ·unfold cQ;split
  ·rename_i e;rw [e];exact s
  ·exact h.row j O
 ·unfold cQ at e;by_cases o:j=i
  ·rw [if_pos o] at e;by_cases a:k=i
   ·omega
   ·rw [if_neg a] at e;exact absurd e.symm (l k O)
  ·rw [if_neg o] at e;by_cases a:k=i
   ·rw [if_pos a] at e;exact absurd e (l j O)
   ·rw [if_neg a] at e;exact h.inj j k O O e
theorem cS.ne_row {b k:Nat} {t:TypeId} {Q:Nat->Rat} (h:cS (dW n) t w base v (bV bs cs i)) (hi:0<i) (l:aH w b k Q L) (o:0<k):some b≠v.ownBlock:=by
 intro e;obtain ⟨r,cap,rfl,_,_,p⟩:=h.1.row;obtain ⟨s,off,f,_,c⟩:=p 0 (by rw [bj];exact hi);rw [f] at e;simp only [Value.ownBlock,zI] at e;rcases h.1.2 with ⟨a,_⟩ | ⟨g,j,q,a,_⟩
 ·rw [f] at a;simp at a
 ·rw [f] at a;simp only [Value.slice.injEq,zI,Addr.mk.injEq] at a;rw [a.1.2.1,Nat.zero_add] at c;exact l.ne_slice o c e
theorem cS.mat {t:TypeId} (h:cS (dW n) t w base v (bV bs cs m)) (p:0<m) (hn:0<n) (c:sd w base n m bs cs R L) :
  ∃ br cap,v=.slice (some ⟨br,0,none⟩) m cap/\base<=br/\m<=cap/\cap<=maxLen/\bT w br m n bs cs R L:=by
 have f:=fun j (hj:j<m)=>h.ne_row p (c.row j hj) hn
 rcases h.1.2 with ⟨_,q⟩ | ⟨g,cap,a,e,hb,hh,l,r,u,o⟩
 ·rw [bj] at q;omega
 ·rw [bj] at e l o;refine ⟨g,cap,e,hb,l,r,⟨⟨a,t,hh,fun i hi=>?_⟩,c.cap,c.row,c.inj,fun i hi s=>f i hi (by rw [e,s];rfl)⟩⟩;have k:(a.toList.take (m*1))[i]? = ((bV bs cs m).map (dW n))[i]?:=by rw [o]
  rw [List.getElem?_take,if_pos O,Array.getElem?_toList] at k;rw [k];simp [bV,dW,hi]
theorem iJ {w1:World} {g c:Nat} {v1:Value} {t:TypeId} (h:cS (dW n) t w base v (bV bs cs i)) (hn:0<n) (a:sd w base n i bs cs R L)
  (h2:n<=c) (h3:c<=maxLen) (h4:aH w g n (R i) L) (h1:base<=g) (h5:∀ j,j<i->bs j≠g) (hv:v.ownBlock≠some g) (hg:w.grownBy w1 v.ownBlock) (hk:aL w w1) (ho:cS (dW n) t w1 base v1 (bV bs cs i++[(g,c)])) :
  cS (dW n) t w1 base v1 (bV (cQ bs i g) (cQ cs i c) (i+1))/\sd w1 base n (i+1) (cQ bs i g) (cQ cs i c) R L:=by
 rw [rK] at ho;refine ⟨ho,sd.put ⟨a.low,a.cap,fun j f=>(a.row j f).keep hg hk (h.ne_row O (a.row j f) hn),a.inj⟩ h1 h2 h3 (h4.keep hg hk (fun e=>hv e.symm)) h5⟩
def dA (R:Nat->Nat->Rat) (o:Nat->Nat) (Y:Nat->Rat) (d:Rat) (m t:Nat):Nat->Rat
 | 0=>d*R t m
 | i+1=>dA R o Y d m t i-R t (o (t+1+i))*Y (o (t+1+i))
theorem DP (a b:Rat):a=a-0*b:=by grind
structure BB (R:Nat->Nat->Rat) (o ip:Nat->Nat) (Y:Nat->Rat) (d:Rat) (m L LS:Nat):Prop where
 ot:∀ t,t<m->o t<m/\ip (o t)=t
 oj:∀ j,j<m->ip j<m/\o (ip j)=j
 sum:∀ t,t<m->∀ i,t+1+i<=m->bg LS (dA R o Y d m t i)
 piv:∀ t,t<m->R t (o t)≠0/\dA R o Y d m t (m-(t+1)) / R t (o t)=Y (o t)
 ys:∀ j,j<m->bg L (Y j)
 xs:∀ j,j<m->bg L (Y j / d)
def qD (ip:Nat->Nat) (Y:Nat->Rat) (q:Nat):Nat->Rat:=fun j=>if q<=ip j then Y j else 0
def nq (Y:Nat->Rat) (d:Rat) (i:Nat):Nat->Rat:=fun j=>if j<i then Y j / d else Y j
theorem An (Y:Nat->Rat) (d:Rat) (i j:Nat):aJ (nq Y d i) i (Y i / d) j=nq Y d (i+1) j:=by
 unfold aJ nq;by_cases h:j=i
 ·rw [if_pos h,if_pos O,h]
 ·rw [if_neg h];by_cases a:j<i
  ·rw [if_pos a,if_pos O]
  ·rw [if_neg a,if_neg O]
theorem DC {o a:Nat->Nat} {Y:Nat->Rat} {f:Nat} (h:BB R o a Y d m L f) (t:Nat) (g:t<m) (j:Nat) (k:j<m) :
  aJ (qD a Y (t+1)) (o t) (Y (o t)) j=qD a Y t j:=by
 unfold aJ qD;by_cases e:j=o t
 ·rw [if_pos e,e,(h.ot t g).2,if_pos O]
 ·rw [if_neg e];have hn:a j≠t:=fun l=>e (by rw [<- (h.oj j k).2,l])
  by_cases c:t+1<=a j
  ·rw [if_pos c,if_pos O]
  ·rw [if_neg c,if_neg O]
def BakR (W:World) (go m:Nat) (ip:Nat->Nat) (Y:Nat->Rat) (L:Nat) (v:Value) (wr:World):Prop :=
 ∃ q:Nat,q<=m/\v=.int .i64 ((q:Int)-1)/\aH wr go m (qD ip Y q) L/\aI W wr go
def InnR (W:World) (gs:Nat) (R:Nat->Nat->Rat) (o:Nat->Nat) (Y:Nat->Rat) (d:Rat) (m t LS:Nat) (v:Value) (wr:World):Prop :=
 ∃ i:Nat,t+1+i<=m/\v=.int .i64 i/\aH wr gs 1 (fun _=>dA R o Y d m t i) LS/\W.grownBy wr none
def LasR (W:World) (go m:Nat) (Y:Nat->Rat) (d:Rat) (L:Nat) (v:Value) (wr:World):Prop :=
 ∃ i:Nat,i<=m/\v=.int .i64 i/\aH wr go m (nq Y d i) L/\aI W wr go
def BackE (w:World) (m:Nat) (X:Nat->Rat) (L:Nat) (e:Ending) (w':World):Prop:=∃ g,e=.returned (.slice (some ⟨g,0,none⟩) m m)/\w.heap.size<=g/\aH w' g m X L/\w.grownBy w' none
theorem Av (fb:Bool) (fo hx:Option Addr) (fl fc hA hB:Nat) (br bo m cap co:Nat) (bs cs:Nat->Nat) (R:Nat->Nat->Rat) (o ip:Nat->Nat) (Y:Nat->Rat) (d:Rat) (lv:Value) (L C:Nat) (w:World)
  (hM:bT w br m (m+1) bs cs R L) (hO:cH w bo m o) (hy:FQ w lv d L) (hH:BB R o ip Y d m L C) (hd:d≠0) (hm:m<=1000) (hc:m<=cap) (hc2:cap<=maxLen) (hco:m<=co) (hco2:co<=maxLen) (hL1:1<=L) (hL:L<=300000000) (hLS:L+L+1<=C) (hLS2:C<=100000000) :
  Calls Tryz.prog 116 #[(jP fb (.slice fo fl fc) (.slice hx hA hB)),.slice (some ⟨br,0,none⟩) m cap,.slice (some ⟨bo,0,none⟩) m co,lv] w fun e w'=>BackE w m (fun j=>Y j / d) L e w':=by
 unfold maxLen at hc2 hco2;have HM:=ab hM;have HO:=ab hO;have HY:=ab hy;have I:=ab hH;have HD:=ab hd;have HA:=hM.lt;have HB:=hO.lt;obtain ⟨lo,G,lc,g,l,p,rfl⟩:=hy.shape;have he:Hid (∀ i,i<m->bs i<w.heap.size):=fun i hi=>(hM.row i hi).lt
 clear hM hO hy hH hd;obtain ⟨W,hW⟩:=eX ((w.alloc (Obj.cells #[.bool fb,.slice fo fl fc,.slice hx hA hB,.func (.func 60) #[] #[],.func (.func 61) #[] #[],.func (.func 62) #[] #[],.func (.func 63) #[] #[],.func (.func 64) #[] #[],.func (.func 65) #[] #[],.func (.func 66) #[] #[],.func (.func 67) #[] #[]] 87)).alloc (Obj.cells #[.bool (rB d),.slice lo G lc,.slice g l p] 81));have GW:Hid (w.grownBy W none):=by rw [hW];exact ag (ag (ae _ _) _) _
 have hI:Hid (W.heap.size=w.heap.size+2):=by show _=_;rw [hW];simp
 have hw:Hid (W.cell? ⟨w.heap.size,5,none⟩=some (.func (.func 62) #[] #[])/\W.cell? ⟨w.heap.size,6,none⟩=some (.func (.func 63) #[] #[])/\W.cell? ⟨w.heap.size,7,none⟩=some (.func (.func 64) #[] #[])/\W.cell? ⟨w.heap.size,8,none⟩=some (.func (.func 65) #[] #[])/\W.cell? ⟨w.heap.size+1,0,none⟩=some (.bool (rB d))/\W.cell? ⟨w.heap.size+1,1,none⟩=some (.slice lo G lc)/\W.cell? ⟨w.heap.size+1,2,none⟩=some (.slice g l p)):=by
  have hg:((w.alloc (Obj.cells #[.bool fb,.slice fo fl fc,.slice hx hA hB,.func (.func 60) #[] #[],.func (.func 61) #[] #[],.func (.func 62) #[] #[],.func (.func 63) #[] #[],.func (.func 64) #[] #[],.func (.func 65) #[] #[],.func (.func 66) #[] #[],.func (.func 67) #[] #[]] 87)).alloc (Obj.cells #[.bool (rB d),.slice lo G lc,.slice g l p] 81)).grownBy W none:=by rw [<- hW];exact ae _ _
  exact ⟨hg.cell zG Z,hg.cell zG Z,hg.cell zG Z,hg.cell zG Z,hg.cell zG Z,hg.cell zG Z,hg.cell zG Z⟩
 go_enter Tryz.func116,Tryz.ntmps116
 go_upto_region 1 with fail;rw [<- hW];clear hW;go_wp2_with (at_make;refine kT _ rfl _ _ 58 rfl Tryz.underlying58 Tryz.infoF _ _ _ _ m rfl rfl O O O ?_)
 intro w1 hF hG;generalize hgo:W.heap.size=go at hF;have s:Hid (go=w.heap.size+2):=by show _=_;rw [<- hgo];exact hI
 have F1:=ab hF;have G1:=ab hG;have z:Hid (∀ wx,w1.grownBy wx (some go)->wx.cell? ⟨w.heap.size,5,none⟩=some (.func (.func 62) #[] #[])/\wx.cell? ⟨w.heap.size,6,none⟩=some (.func (.func 63) #[] #[])/\wx.cell? ⟨w.heap.size,7,none⟩=some (.func (.func 64) #[] #[])/\wx.cell? ⟨w.heap.size,8,none⟩=some (.func (.func 65) #[] #[])/\wx.cell? ⟨w.heap.size+1,0,none⟩=some (.bool (rB d))/\wx.cell? ⟨w.heap.size+1,1,none⟩=some (.slice lo G lc)/\wx.cell? ⟨w.heap.size+1,2,none⟩=some (.slice g l p)):=by
  intro wx hg;obtain ⟨s0,s1,s2,s3,s4,s5,s6⟩:=hw.out;have n1:some w.heap.size≠some go:=fun e=>by have:=zJ e;have:=s.out;omega
  have n2:some (w.heap.size+1)≠some go:=fun e=>by have:=zJ e;have:=s.out;omega
  exact ⟨hg.cell (G1.cell s0 Z) n1,hg.cell (G1.cell s1 Z) n1,hg.cell (G1.cell s2 Z) n1,hg.cell (G1.cell s3 Z) n1,hg.cell (G1.cell s4 Z) n2,hg.cell (G1.cell s5 Z) n2,hg.cell (G1.cell s6 Z) n2⟩
 have GA:=ab (aa GW hG);have hJ:Hid (w.heap.size+2<=w1.heap.size):=by show _<=_;have:=G1.out.size;have:=hI.out;omega
 have M1:=ab (HM.keep0 GA);have O1:=ab (HO.keep GA Z);have Y1:=ab (HY.keep0 GA);have hN:IntKind.i64.wrap ((m:Int)-1)=(m:Int)-1:=IntWalk.i64_in _ ⟨O,O⟩;clear hF hG hgo HM HO HY hw;go_wp2;go_loopw [10] (fun v wr=>Hid (BakR w1 go m ip Y L v wr)) (fun v _=>(intOf v+1).toNat)
 case atStart =>
  refine ⟨m,zL,by first | rfl | (rw [hN]),?_,aI.refl _ _⟩;refine (F1.mono (Nat.zero_le _)).congr (fun j hj=>?_);unfold qD;rw [if_neg (by have:=(I.oj j hj).1;omega)]
 case round =>
  obtain ⟨q,hq,rfl,l1,l2⟩:=hrel.out;have L1:=ab l1;have U:=ab l2;clear l1 l2 hrel F1;by_cases hQ:q=0
  ·subst hQ;rw [show ((0:Nat):Int)-1 = -1 from rfl];go_wp2;go_loopw [92] (fun v wx=>Hid (LasR w1 go m Y d L v wx)) (fun v _=>m-(intOf v).toNat)
   case atStart=>exact ⟨0,O,rfl,L1.congr (fun j _=>by unfold qD nq;rw [if_pos O,if_neg O]),U⟩
   case round =>
    obtain ⟨i,hi,rfl,l1,l2⟩:=hrel.out;have K1:=ab l1;have B:=ab l2;clear l1 l2 hrel L1 U;by_cases hlt:i<m
    ·obtain ⟨uo,ul,uc,kz,dl,dc,c0,c1,X,H,_⟩:=K1.out.at i hlt;have hR:nq Y d i i=Y i:=by unfold nq;rw [if_neg O]
     rw [hR] at c0 H;have C3:=ab H;clear H hR;go_upto_region 17 with fail;obtain ⟨w2,hk⟩:=eX (wr.alloc (Obj.cells #[.bool (rB (Y i)),.slice uo ul uc,.slice kz dl dc] 81));have G2:Hid (wr.grownBy w2 none):=by rw [hk];exact ag (ae _ _) _
     have XC:Hid (∀ wx,w2.grownBy wx none->wx.cell? ⟨wr.heap.size,0,none⟩=some (.bool (rB (Y i)))/\wx.cell? ⟨wr.heap.size,1,none⟩=some (.slice uo ul uc)/\wx.cell? ⟨wr.heap.size,2,none⟩=some (.slice kz dl dc)):=by
      intro wx hg;rw [hk] at hg;exact aG hg
     rw [<- hk];clear hk c0 c1 X;obtain ⟨x0,x1,x2⟩:=XC.out w2 (ae _ _);have hC:=ab (B.gr G2);obtain ⟨s0,s1,s2,s3,s4,s5,s6⟩:=z.out w2 hC.1;go_wp2_with fail;refine (pK _ _ (Y i) d L L _ (C3.keep0 G2) (Y1.kept hC.2) HD O).mono ?_;rintro e w4 ⟨v4,rfl,p1,p2⟩;have F4:=ab ((K1.keep0 G2).keep0 p2);have P1:=ab (p1.tight (I.xs i hlt));obtain ⟨ao,al,ac,D,bl,bc,rfl⟩:=p1.shape;have L4:=ab (hC.gr p2);obtain ⟨_,_,_,_,_,_,d0,d1,d2,_,df⟩:=F4.out.at i hlt;have HC:=df (i*3);have HE:=df (i*3+1);have HF:=df (i*3+2);clear p1 p2 df x0 x1 x2 s0 s1 s2 s3 s4 s5 s6;go_wp2;go_roundw
     case rel =>
      obtain ⟨r1,r2,r3⟩:=F4.out.set i hlt P1;exact ⟨i+1,O,zN,r1.congr (fun j _=>An Y d i j),L4.trans ⟨r2,r3⟩⟩
     case measure=>simp [intOf];omega
    ·obtain rfl:i=m:=O
     go_wp2;refine bodyPost_ret (v:=.slice (some ⟨go,0,none⟩) i i) (by simp [results,Tryz.results116,go_sem]) rfl ?_;refine ⟨go,rfl,by have:=s.out;omega,K1.congr (fun j hj=>by unfold nq;rw [if_pos hj]),?_⟩;exact aw (r:=none) GA B.1 (fun _ _ e=>e) (fun b hb e=>by have:=zJ e;have:=s.out;omega)
  ·obtain ⟨t,rfl⟩:∃ t,q=t+1:=⟨q-1,O⟩;have hS:((t+1:Nat):Int)-1=(t:Int):=O
   rw [hS];have f:t<m:=O
   clear hQ hS;have MM:=ab (M1.keepR U (by have:=s.out;omega) (fun i hi=>by have:=he.out i hi;have:=s.out;omega));have OO:=ab (O1.keep U.1 (fun e=>by have:=zJ e;have:=s.out;omega));have YY:=ab (Y1.kept U.2);have ct:=(MM.cell t f).1;obtain ⟨Hy,kF⟩:=MM.out.cap t f;unfold maxLen at kF;obtain ⟨xo,xl,xc,yo,yl,yc,c0,c1,X,H,_⟩:=(MM.row t f).at m O;have X3:=ab H;have jp:=ab (I.sum t f 0 O);have V:Hid (∀ wx,wr.grownBy wx none->wx.cell? ⟨w.heap.size,5,none⟩=some (.func (.func 62) #[] #[])/\wx.cell? ⟨w.heap.size,6,none⟩=some (.func (.func 63) #[] #[])/\wx.cell? ⟨w.heap.size,7,none⟩=some (.func (.func 64) #[] #[])/\wx.cell? ⟨w.heap.size,8,none⟩=some (.func (.func 65) #[] #[])/\wx.cell? ⟨w.heap.size+1,0,none⟩=some (.bool (rB d))/\wx.cell? ⟨w.heap.size+1,1,none⟩=some (.slice lo G lc)/\wx.cell? ⟨w.heap.size+1,2,none⟩=some (.slice g l p)/\wx.cell? ⟨bs t,m*3,none⟩=some (.bool (rB (R t m)))/\wx.cell? ⟨bs t,m*3+1,none⟩=some (.slice xo xl xc)/\wx.cell? ⟨bs t,m*3+2,none⟩=some (.slice yo yl yc)):=by
    intro wx hg;obtain ⟨s0,s1,s2,s3,s4,s5,s6⟩:=z.out wx (U.gr hg).1;exact ⟨s0,s1,s2,s3,s4,s5,s6,hg.cell c0 Z,hg.cell c1 Z,hg.cell X Z⟩
   clear c0 c1 X H;have GG:wr.grownBy wr none:=ae _ _;obtain ⟨s0,s1,s2,s3,s4,s5,s6,s7,s8,s9⟩:=V.out wr GG;have Ho:w.heap.size+2<=wr.heap.size:=by have:=hJ.out;have:=U.out.1.size;omega
   have HG:wr.heap.size≠w.heap.size:=O
   have HI:wr.heap.size≠w.heap.size+1:=O
   have HJ:wr.heap.size≠bs t:=by have:=he.out t f;omega
   have Hp:(0:Int)<=(m:Int):=O
   have Hq:(m:Int)<(m:Int)+1:=O
   go_wp2;go_cut [12] (fun s12 wx=>Hid (∃ gs,s12=.pointer (some ⟨gs,0,none⟩)/\wr.heap.size<=gs/\aH wx gs 1 (fun _=>dA R o Y d m t 0) C/\wr.grownBy wx none))
   case first =>
    go_region_held3 (fun w'=>w'.cell? ⟨w.heap.size,5,none⟩=some (.func (.func 62) #[] #[])/\w'.cell? ⟨w.heap.size,6,none⟩=some (.func (.func 63) #[] #[])/\w'.cell? ⟨w.heap.size,7,none⟩=some (.func (.func 64) #[] #[])/\w'.cell? ⟨w.heap.size,8,none⟩=some (.func (.func 65) #[] #[])/\w'.cell? ⟨w.heap.size+1,0,none⟩=some (.bool (rB d))/\w'.cell? ⟨w.heap.size+1,1,none⟩=some (.slice lo G lc)/\w'.cell? ⟨w.heap.size+1,2,none⟩=some (.slice g l p)/\w'.cell? ⟨bs t,m*3,none⟩=some (.bool (rB (R t m)))/\w'.cell? ⟨bs t,m*3+1,none⟩=some (.slice xo xl xc)/\w'.cell? ⟨bs t,m*3+2,none⟩=some (.slice yo yl yc)) (go_keep)
     (first | (go_at_call 63;refine (eN _ _ d (R t m) L L _ (YY.keep0 (aa GG (by first | exact aP _ | exact aA | exact ae _ _ | exact ag (aP _) _ | exact ag aA _ | exact aj (ag (ae _ _) _) 1 | exact aj (ag (ae _ _) _) _))) (X3.keep0 (aa GG (by first | exact aP _ | exact aA | exact ae _ _ | exact ag (aP _) _ | exact ag aA _ | exact aj (ag (ae _ _) _) 1 | exact aj (ag (ae _ _) _) _))) O).mono ?_;rintro e wx ⟨vx,rfl,px,gx⟩;have px:=px.mono (show L+L+1<=C by omega);obtain ⟨po,pl,pc,qo,ql,qc,rfl⟩:=px.shape;have GG:wr.grownBy wx none:=aa (aa GG (by first | exact aP _ | exact aA | exact ae _ _ | exact ag (aP _) _ | exact ag aA _ | exact aj (ag (ae _ _) _) 1 | exact aj (ag (ae _ _) _) _)) gx;obtain ⟨x0,x1,x2,x3,x4,x5,x6,x7,x8,x9⟩:=V.out wx GG;(try (have gy:=aa (aj (ae (wr.alloc (Obj.cells #[.bool false,.slice none 0 0,.slice none 0 0] 81)) none) 1) gx;obtain ⟨HW,HX,Ka,hp⟩:=aT gy;have Hr:=hp 0;have Hs:=hp 1;have Ht:=hp 2;clear hp))))
    all_goals (go_wp2_with fail;go_meet;first
     | exact ⟨_,rfl,GG.size,mB (px.keep0 kw),ag zF _⟩
     | exact ⟨_,rfl,zL,oC gy px,ah (ah (ah GG _ _ zL) _ _ zL) _ _ zL⟩)
   case rest =>
    obtain ⟨gs,rfl,E,f2,g2⟩:=hcut.out;have F2:=ab f2;have G2:=ab g2;clear hcut f2 g2 GG s0 s1 s2 s3 s4 s5 s6 s7 s8 s9;have jv:IntKind.i64.wrap ((t:Int)+1)=(t:Int)+1:=IntWalk.i64_in _ ⟨O,O⟩;have md:(0:Int)<=(t:Int)+1:=O
    have mm:(t:Int)+1<=(m:Int):=O
    clear V X3 jp ct;go_upto_region 7 with fail;go_cut [43,44,45] (fun s43 s44 s45 wx=>Hid (∃ off c,s43=.slice (some ⟨bo,off,none⟩) (m-(t+1)) c/\m-(t+1)<=c/\c<=9223372036854775807/\(t+1<m->off=t+1)/\s44=.int .i64 ((m-(t+1):Nat):Int)/\s45=.int .i64 0/\aH wx gs 1 (fun _=>dA R o Y d m t 0) C/\wr.grownBy wx none))
    case first =>
     by_cases J:co=t+1
     ·have HK:(co=t+1)=True:=eq_true J;have hT:=ab J;clear J;go_wp2
      all_goals (go_meet;exact ⟨_,_,rfl,by have:=hT.out;omega,O,fun h=>absurd h (by have:=hT.out;omega),rfl,rfl,F2,G2⟩)
     ·have HL:(co=t+1)=False:=eq_false J;clear J;go_wp2
      all_goals (go_meet;exact ⟨_,_,rfl,O,O,fun _=>rfl,rfl,rfl,F2,G2⟩)
    case rest =>
     obtain ⟨off,c,rfl,Kb,Hz,kH,rfl,rfl,f3,g3⟩:=hcut.out;have F3:=ab f3;have G3:=ab g3;have M:Hid (w.heap.size+2<=gs/\gs≠go):=⟨O,by have:=L1.out.lt;omega⟩;clear hcut f3 g3 F2 G2 jv md mm;go_wp2;go_loopw [45] (fun v wx=>Hid (InnR wr gs R o Y d m t C v wx)) (fun v _=>m-(intOf v).toNat)
     case atStart=>exact ⟨0,O,rfl,F3,G3⟩
     case round =>
      obtain ⟨i,hi,rfl,k1,k2⟩:=hrel.out;have K1:=ab k1;have B:=ab k2;clear k1 k2 hrel F3 G3;obtain ⟨so,sl,sc,hs,tl,tc,kN,qa,qb,S3,Hh⟩:=K1.out.var;have SQ:=ab S3;have hD:Hid (∀ wx,wr.grownBy wx none->aH wx gs 1 (fun _=>dA R o Y d m t i) C/\wx.cell? ⟨gs,0,none⟩=some (.bool (rB (dA R o Y d m t i)))/\wx.cell? ⟨gs,1,none⟩=some (.slice so sl sc)/\wx.cell? ⟨gs,2,none⟩=some (.slice hs tl tc)/\∀ k,wx.frozen? ⟨gs,k,none⟩=false):=by
       intro wx hg;have hr:=K1.out.keep0 hg;obtain ⟨_,_,_,_,_,_,_,_,_,_,hf⟩:=hr.var;exact ⟨hr,hg.cell kN Z,hg.cell qa Z,hg.cell qb Z,hf⟩
      clear kN qa qb S3 Hh;by_cases hlt:t+1+i<m
      ·obtain rfl:off=t+1:=kH O;obtain ⟨u,hu⟩:=eX (o (t+1+i));have mp:u<m:=by rw [hu];exact (I.ot _ hlt).1
       have ms:ip u=t+1+i:=by rw [hu];exact (I.ot _ hlt).2
       have oc:=(OO.keep B Z).at (t+1+i) hlt;rw [<- hu] at oc;have hX:Hid (bg C (dA R o Y d m t i-R t u*Y u)):=by rw [hu];exact I.sum t f (i+1) O
       have hE:Hid (dA R o Y d m t (i+1)=dA R o Y d m t i-R t u*Y u):=by show _=_;rw [hu];rfl
       obtain ⟨ao,al,ac,D,bl,bc,c0,c1,X,H,_⟩:=((MM.row t f).keep0 B).at u O;obtain ⟨jo,jl,jc,ko,kl,kc,e0,e1,e2,e3,_⟩:=(L1.keep0 B).at u mp;have hY:qD ip Y (t+1) u=Y u:=by unfold qD;rw [if_pos O]
       rw [hY] at e0 e3;have C3:=ab H;have E3:=ab e3;have V:Hid (∀ wx,wr.grownBy wx none->wx.cell? ⟨w.heap.size,5,none⟩=some (.func (.func 62) #[] #[])/\wx.cell? ⟨w.heap.size,6,none⟩=some (.func (.func 63) #[] #[])/\wx.cell? ⟨w.heap.size,7,none⟩=some (.func (.func 64) #[] #[])/\wx.cell? ⟨w.heap.size,8,none⟩=some (.func (.func 65) #[] #[])/\wx.cell? ⟨w.heap.size+1,0,none⟩=some (.bool (rB d))/\wx.cell? ⟨w.heap.size+1,1,none⟩=some (.slice lo G lc)/\wx.cell? ⟨w.heap.size+1,2,none⟩=some (.slice g l p)/\wx.cell? ⟨bs t,u*3,none⟩=some (.bool (rB (R t u)))/\wx.cell? ⟨bs t,u*3+1,none⟩=some (.slice ao al ac)/\wx.cell? ⟨bs t,u*3+2,none⟩=some (.slice D bl bc)/\wx.cell? ⟨go,u*3,none⟩=some (.bool (rB (Y u)))/\wx.cell? ⟨go,u*3+1,none⟩=some (.slice jo jl jc)/\wx.cell? ⟨go,u*3+2,none⟩=some (.slice ko kl kc)):=by
        intro wx hg;obtain ⟨s0,s1,s2,s3,s4,s5,s6⟩:=z.out wx (U.gr (aa B hg)).1;exact ⟨s0,s1,s2,s3,s4,s5,s6,hg.cell c0 Z,hg.cell c1 Z,hg.cell X Z,hg.cell e0 Z,hg.cell e1 Z,hg.cell e2 Z⟩
       clear c0 c1 X H e0 e1 e2 e3 hu hY ms;have GG:wr.grownBy wr none:=ae _ _;obtain ⟨s0,s1,s2,s3,s4,s5,s6,s7,s8,s9,s10,s11,s12⟩:=V.out wr GG;have HN:i<m-(t+1):=O
       have Hu:u<m+1:=O
       have Hv:(u:Int)<(m:Int)+1:=O
       have Hw:(0:Int)<=(u:Int):=O
       have Hx:(u:Int)<(m:Int):=O
       go_wp2;go_cut [56] (fun s56 wx=>Hid (s56=.bool (!(decide (R t u=0)))/\wr.grownBy wx none))
       case first =>
        go_region_held3 (fun w'=>w'.cell? ⟨w.heap.size,5,none⟩=some (.func (.func 62) #[] #[])/\w'.cell? ⟨w.heap.size,6,none⟩=some (.func (.func 63) #[] #[])/\w'.cell? ⟨w.heap.size,7,none⟩=some (.func (.func 64) #[] #[])/\w'.cell? ⟨w.heap.size,8,none⟩=some (.func (.func 65) #[] #[])/\w'.cell? ⟨w.heap.size+1,0,none⟩=some (.bool (rB d))/\w'.cell? ⟨w.heap.size+1,1,none⟩=some (.slice lo G lc)/\w'.cell? ⟨w.heap.size+1,2,none⟩=some (.slice g l p)/\w'.cell? ⟨bs t,u*3,none⟩=some (.bool (rB (R t u)))/\w'.cell? ⟨bs t,u*3+1,none⟩=some (.slice ao al ac)/\w'.cell? ⟨bs t,u*3+2,none⟩=some (.slice D bl bc)/\w'.cell? ⟨go,u*3,none⟩=some (.bool (rB (Y u)))/\w'.cell? ⟨go,u*3+1,none⟩=some (.slice jo jl jc)/\w'.cell? ⟨go,u*3+2,none⟩=some (.slice ko kl kc)) (go_keep)
         (first | (go_at_call 65;refine (bd _ (R t u) L _ (C3.keep0 zF)).mono ?_;rintro e wa ⟨rfl,ga⟩;have GG:wr.grownBy wa none:=aa zF ga;obtain ⟨a0,a1,a2,a3,a4,a5,a6,a7,a8,a9,qf,qq,qs⟩:=V.out wa GG))
        all_goals (go_wp2_with fail;go_meet;exact ⟨rfl,zF⟩)
       case rest =>
        obtain ⟨rfl,g4⟩:=hcut.out;have F:=ab g4;clear hcut g4 GG s0 s1 s2 s3 s4 s5 s6 s7 s8 s9 s10 s11 s12;by_cases hz:R t u=0
        ·have N:(!(decide (R t u=0)))=false:=by simp [hz]
         rw [N];have HZ:=ab hz;clear hz N;go_wp2;go_roundw
         case rel =>
          refine ⟨i+1,O,zN,(hD _ F).1.congr (fun _ _=>?_),aa B F⟩;rw [hE,HZ];exact DP _ _
         case measure=>simp [intOf];omega
        ·have N:(!(decide (R t u=0)))=true:=by simp [hz]
         rw [N];clear hz N;have P:Hid (∀ wx,wc.grownBy wx none->wx.cell? ⟨w.heap.size,5,none⟩=some (.func (.func 62) #[] #[])/\wx.cell? ⟨w.heap.size,6,none⟩=some (.func (.func 63) #[] #[])/\wx.cell? ⟨w.heap.size,7,none⟩=some (.func (.func 64) #[] #[])/\wx.cell? ⟨w.heap.size,8,none⟩=some (.func (.func 65) #[] #[])/\wx.cell? ⟨w.heap.size+1,0,none⟩=some (.bool (rB d))/\wx.cell? ⟨w.heap.size+1,1,none⟩=some (.slice lo G lc)/\wx.cell? ⟨w.heap.size+1,2,none⟩=some (.slice g l p)/\wx.cell? ⟨bs t,u*3,none⟩=some (.bool (rB (R t u)))/\wx.cell? ⟨bs t,u*3+1,none⟩=some (.slice ao al ac)/\wx.cell? ⟨bs t,u*3+2,none⟩=some (.slice D bl bc)/\wx.cell? ⟨go,u*3,none⟩=some (.bool (rB (Y u)))/\wx.cell? ⟨go,u*3+1,none⟩=some (.slice jo jl jc)/\wx.cell? ⟨go,u*3+2,none⟩=some (.slice ko kl kc)):=fun wx hg=>V wx (aa F hg)
         have A:Hid (∀ wx,wc.grownBy wx none->aH wx gs 1 (fun _=>dA R o Y d m t i) C/\wx.cell? ⟨gs,0,none⟩=some (.bool (rB (dA R o Y d m t i)))/\wx.cell? ⟨gs,1,none⟩=some (.slice so sl sc)/\wx.cell? ⟨gs,2,none⟩=some (.slice hs tl tc)/\∀ k,wx.frozen? ⟨gs,k,none⟩=false):=fun wx hg=>hD wx (aa F hg)
         have mt:gs≠w.heap.size:=by have:=M.out.1;omega
         have Ha:gs≠w.heap.size+1:=by have:=M.out.1;omega
         have Hb:gs≠bs t:=by have:=M.out.1;have:=he.out t f;omega
         have Hc:gs≠go:=M.out.2;have GG:wc.grownBy wc none:=ae _ _;obtain ⟨s0,s1,s2,s3,s4,s5,s6,s7,s8,s9,s10,s11,s12⟩:=P.out wc GG;obtain ⟨Q,t0,t1,t2,y⟩:=A.out wc GG;clear Q y;go_wp2;refine wp_region_held_drew (S:=(fun w'=>w'.cell? ⟨w.heap.size,5,none⟩=some (.func (.func 62) #[] #[])/\w'.cell? ⟨w.heap.size,6,none⟩=some (.func (.func 63) #[] #[])/\w'.cell? ⟨w.heap.size,7,none⟩=some (.func (.func 64) #[] #[])/\w'.cell? ⟨w.heap.size,8,none⟩=some (.func (.func 65) #[] #[])/\w'.cell? ⟨w.heap.size+1,0,none⟩=some (.bool (rB d))/\w'.cell? ⟨w.heap.size+1,1,none⟩=some (.slice lo G lc)/\w'.cell? ⟨w.heap.size+1,2,none⟩=some (.slice g l p)/\w'.cell? ⟨bs t,u*3,none⟩=some (.bool (rB (R t u)))/\w'.cell? ⟨bs t,u*3+1,none⟩=some (.slice ao al ac)/\w'.cell? ⟨bs t,u*3+2,none⟩=some (.slice D bl bc)/\w'.cell? ⟨go,u*3,none⟩=some (.bool (rB (Y u)))/\w'.cell? ⟨go,u*3+1,none⟩=some (.slice jo jl jc)/\w'.cell? ⟨go,u*3+2,none⟩=some (.slice ko kl kc))) zK ?zs1y (fun hHeld=>?zr1y)
         case zs1y=>((try dsimp only);go_keep)
         case zr1y =>
          refine wpAnyH_take (i:=0) (oi:=⟨some 57,.fieldAddr 87 (.tmp 4) 3,0, "rows.go:134",#[],none⟩) (v:=.pointer (some ⟨w.heap.size,5,none⟩)) rfl zK zK zK (fun _ _ _ h=>h) (Or.inl ⟨by rfl,?zy1y1⟩) (by assumption) ?zr1y1
          case zy1y1=>(intro w a;(try dsimp only at a);go_simp)
          case zr1y1 =>
           (try simp only [Act.put,setA,setZ,setS])
           refine wpAnyH_take (i:=1) (oi:=⟨some 58,.load 83 (.tmp 57),83, "rows.go:134",#[⟨0,.data⟩],none⟩) (v:=.func (.func 62) #[] #[]) rfl zK zK zK (fun _ _ _ h=>h) (Or.inl ⟨by rfl,?zy1y2⟩) (by assumption) ?zr1y2
           case zy1y2=>(intro w a;(try dsimp only at a);go_simp)
           case zr1y2 =>
            (try simp only [Act.put,setA,setZ,setS])
            refine wpAnyH_take (i:=3) (oi:=⟨some 60,.fieldAddr 87 (.tmp 4) 4,0, "rows.go:134",#[],none⟩) (v:=.pointer (some ⟨w.heap.size,6,none⟩)) rfl zK zK zK (fun _ _ _ h=>h) (Or.inl ⟨by rfl,?zy1y3⟩) (by assumption) ?zr1y3
            case zy1y3=>(intro w a;(try dsimp only at a);go_simp)
            case zr1y3 =>
             (try simp only [Act.put,setA,setZ,setS])
             refine wpAnyH_take (i:=4) (oi:=⟨some 61,.load 83 (.tmp 60),83, "rows.go:134",#[⟨3,.data⟩],none⟩) (v:=.func (.func 63) #[] #[]) rfl zK zK zK (fun _ _ _ h=>h) (Or.inl ⟨by rfl,?zy1y4⟩) (by assumption) ?zr1y4
             case zy1y4=>(intro w a;(try dsimp only at a);go_simp)
             case zr1y4 =>
              (try simp only [Act.put,setA,setZ,setS])
              refine wpAnyH_take (i:=5) (oi:=⟨some 62,.move (.tmp 11),58, "rows.go:134",#[],none⟩) (v:=.slice (some ⟨bs t,0,none⟩) (m+1) (cs t)) rfl zK zK zK (fun _ _ _ h=>h) (Or.inl ⟨by rfl,?zy1y5⟩) (by assumption) ?zr1y5
              case zy1y5=>(intro w a;(try dsimp only at a);go_simp)
              case zr1y5 =>
               (try simp only [Act.put,setA,setZ,setS])
               refine wpAnyH_take (i:=6) (oi:=⟨some 63,.move (.tmp 14),3, "rows.go:134",#[],none⟩) (v:=.int .i64 (u:Nat)) rfl zK zK zK (fun _ _ _ h=>h) (Or.inl ⟨by rfl,?zy1y6⟩) (by assumption) ?zr1y6
               case zy1y6=>(intro w a;(try dsimp only at a);go_simp)
               case zr1y6 =>
                (try simp only [Act.put,setA,setZ,setS])
                refine wpAnyH_take (i:=7) (oi:=⟨some 64,.indexAddr 58 (.tmp 62) (.tmp 63),0, "rows.go:134",#[⟨5,.data⟩,⟨6,.data⟩],none⟩) (v:=.pointer (some ⟨bs t,u*3,none⟩)) rfl zK zK zK (fun _ _ _ h=>h) (Or.inl ⟨by rfl,?zy1y7⟩) (by assumption) ?zr1y7
                case zy1y7=>(intro w a;(try dsimp only at a);go_simp)
                case zr1y7 =>
                 (try simp only [Act.put,setA,setZ,setS])
                 refine wpAnyH_take (i:=8) (oi:=⟨some 65,.load 81 (.tmp 64),81, "rows.go:134",#[⟨7,.data⟩],none⟩) (v:=Value.agg #[.bool (rB (R t u)),.slice ao al ac,.slice D bl bc]) rfl zK zK zK (fun _ _ _ h=>h) (Or.inl ⟨by rfl,?zy1y8⟩) (by assumption) ?zr1y8
                 case zy1y8=>(intro w a;(try dsimp only at a);go_simp)
                 case zr1y8 =>
                  (try simp only [Act.put,setA,setZ,setS])
                  refine wpAnyH_take (i:=9) (oi:=⟨some 66,.move (.tmp 9),58, "rows.go:134",#[],none⟩) (v:=.slice (some ⟨go,0,none⟩) m m) rfl zK zK zK (fun _ _ _ h=>h) (Or.inl ⟨by rfl,?zy1y9⟩) (by assumption) ?zr1y9
                  case zy1y9=>(intro w a;(try dsimp only at a);go_simp)
                  case zr1y9 =>
                   (try simp only [Act.put,setA,setZ,setS])
                   refine wpAnyH_take (i:=10) (oi:=⟨some 67,.move (.tmp 14),3, "rows.go:134",#[],none⟩) (v:=.int .i64 (u:Nat)) rfl zK zK zK (fun _ _ _ h=>h) (Or.inl ⟨by rfl,?zy1y10⟩) (by assumption) ?zr1y10
                   case zy1y10=>(intro w a;(try dsimp only at a);go_simp)
                   case zr1y10 =>
                    (try simp only [Act.put,setA,setZ,setS])
                    refine wpAnyH_take (i:=11) (oi:=⟨some 68,.indexAddr 58 (.tmp 66) (.tmp 67),0, "rows.go:134",#[⟨9,.data⟩,⟨10,.data⟩],none⟩) (v:=.pointer (some ⟨go,u*3,none⟩)) rfl zK zK zK (fun _ _ _ h=>h) (Or.inl ⟨by rfl,?zy1y11⟩) (by assumption) ?zr1y11
                    case zy1y11=>(intro w a;(try dsimp only at a);go_simp)
                    case zr1y11 =>
                     (try simp only [Act.put,setA,setZ,setS])
                     refine wpAnyH_take (i:=12) (oi:=⟨some 69,.load 81 (.tmp 68),81, "rows.go:134",#[⟨11,.data⟩],none⟩) (v:=Value.agg #[.bool (rB (Y u)),.slice jo jl jc,.slice ko kl kc]) rfl zK zK zK (fun _ _ _ h=>h) (Or.inl ⟨by rfl,?zy1y12⟩) (by assumption) ?zr1y12
                     case zy1y12=>(intro w a;(try dsimp only at a);go_simp)
                     case zr1y12 =>
                      (try simp only [Act.put,setA,setZ,setS])
                      refine wpAnyH_ready (rs:=[2,13]) zK Z ?_;refine AllReadyH.cons (o:=⟨some 59,.load 81 (.tmp 12),81, "rows.go:134",#[],none⟩) rfl (fun K x=>?zr1y13) (AllReadyH.cons (o:=⟨some 70,.call ⟨.value (.tmp 61),#[.tmp 65,.tmp 69],#[81,81]⟩,81, "rows.go:134",#[⟨4,.data⟩,⟨8,.data⟩,⟨12,.data⟩],none⟩) rfl (fun K x=>?zr1y14) AllReadyH.nil)
                      case zr1y13 =>
                       go_simp
                       refine x _ _ ?zs1y15 (fun hHeld=>?zr1y15)
                       case zs1y15=>((try dsimp only);go_keep)
                       case zr1y15 =>
                        clear x K
                        (try simp only [Act.put,setA,setZ,setS])
                        refine wpAnyH_ready (rs:=[13]) zK Z ?_;refine AllReadyH.cons (o:=⟨some 70,.call ⟨.value (.tmp 61),#[.tmp 65,.tmp 69],#[81,81]⟩,81, "rows.go:134",#[⟨4,.data⟩,⟨8,.data⟩,⟨12,.data⟩],none⟩) rfl (fun K x=>?_) AllReadyH.nil;go_simp
                        go_at_call 63
                        refine (eN _ _ (R t u) (Y u) L L _ (C3.keep0 (aa F zF)) (E3.keep0 (aa F zF)) O).mono ?_;rintro e wa ⟨va,rfl,pa,ga⟩;obtain ⟨po,pl,pc,qo,ql,qc,rfl⟩:=pa.shape;have GG:wc.grownBy wa none:=aa zF ga;obtain ⟨a0,a1,a2,a3,a4,a5,a6,a7,a8,a9,qf,qq,qs⟩:=P.out wa GG;obtain ⟨Q,Hi,Hj,Hk,y⟩:=A.out wa GG;clear Q y;go_wp2_with fail;refine x _ _ ?zs1y16 (fun hHeld=>?zr1y16)
                        case zs1y16=>((try dsimp only);go_keep)
                        case zr1y16 =>
                         clear x K
                         (try simp only [Act.put,setA,setZ,setS])
                         refine wpAnyH_ready (rs:=[14]) zK Z ?_;refine AllReadyH.cons (o:=⟨some 71,.call ⟨.value (.tmp 58),#[.tmp 59,.tmp 70],#[81,81]⟩,81, "rows.go:134",#[⟨1,.data⟩,⟨2,.data⟩,⟨13,.data⟩,⟨13,.chain⟩],none⟩) rfl (fun K x=>?_) AllReadyH.nil;go_simp
                         go_at_call 62
                         refine (dr _ _ (dA R o Y d m t i) (R t u*Y u) C (L+L+1) _ (SQ.keep0 (aa F zF)) (pa.keep0 kw) O).mono ?_;rintro e wm ⟨vm,rfl,pm,gm⟩;have pm:=pm.tight (L':=C) hX;obtain ⟨mo,ml,mc,no,nl,nc,rfl⟩:=pm.shape;have GG:wc.grownBy wm none:=aa zF gm;obtain ⟨b0,b1,b2,b3,b4,b5,b6,b7,b8,b9,yn,yv,jg⟩:=P.out wm GG;obtain ⟨Q,Hl,Hm,Hn,y⟩:=A.out wm GG;have ka:=y 0;have kb:=y 1;have kf:=y 2;clear y;go_wp2_with fail;refine x _ _ ?zs1y17 (fun hHeld=>?zr1y17)
                         case zs1y17=>((try dsimp only);go_keep)
                         case zr1y17 =>
                          clear x K
                          (try simp only [Act.put,setA,setZ,setS])
                          refine wpAnyH_ready (rs:=[15]) zK Z ?_;refine AllReadyH.cons (o:=⟨none,.store 81 (.tmp 12) (.tmp 71),0, "rows.go:134",#[⟨14,.data⟩,⟨14,.chain⟩,⟨0,.phase⟩,⟨1,.phase⟩,⟨2,.phase⟩,⟨3,.phase⟩,⟨4,.phase⟩,⟨5,.phase⟩,⟨6,.phase⟩,⟨7,.phase⟩,⟨8,.phase⟩,⟨9,.phase⟩,⟨10,.phase⟩,⟨11,.phase⟩,⟨12,.phase⟩,⟨13,.phase⟩,⟨14,.phase⟩],none⟩) rfl (fun K x=>?_) AllReadyH.nil;go_simp
                          refine x _ _ ?zs1y18 (fun hHeld=>?zr1y18)
                          case zs1y18=>((try dsimp only);go_keep)
                          case zr1y18 =>
                           clear x K
                           (try simp only [Act.put,setA,setZ,setS])
                           refine wpAnyH_done zK ?_ _;have SR:=ab Q;have PM:=ab pm;have GF:=ab (aa B (aa F GG));clear Q pm GG;go_wp2;go_roundw
                           case rel =>
                            refine ⟨i+1,O,zN,?_,ah (ah (ah GF _ _ E) _ _ E) _ _ E⟩;rw [hE];exact SR.varset PM zL
                           case measure=>simp [intOf];omega
                      case zr1y14 =>
                       go_simp
                       go_at_call 63
                       refine (eN _ _ (R t u) (Y u) L L _ (C3.keep0 (aa F zF)) (E3.keep0 (aa F zF)) O).mono ?_;rintro e wa ⟨va,rfl,pa,ga⟩;obtain ⟨po,pl,pc,qo,ql,qc,rfl⟩:=pa.shape;have GG:wc.grownBy wa none:=aa zF ga;obtain ⟨a0,a1,a2,a3,a4,a5,a6,a7,a8,a9,qf,qq,qs⟩:=P.out wa GG;obtain ⟨Q,Hi,Hj,Hk,y⟩:=A.out wa GG;clear Q y;go_wp2_with fail;refine x _ _ ?zs1y19 (fun hHeld=>?zr1y19)
                       case zs1y19=>((try dsimp only);go_keep)
                       case zr1y19 =>
                        clear x K
                        (try simp only [Act.put,setA,setZ,setS])
                        refine wpAnyH_ready (rs:=[2]) zK Z ?_;refine AllReadyH.cons (o:=⟨some 59,.load 81 (.tmp 12),81, "rows.go:134",#[],none⟩) rfl (fun K x=>?_) AllReadyH.nil;go_simp
                        refine x _ _ ?zs1y20 (fun hHeld=>?zr1y20)
                        case zs1y20=>((try dsimp only);go_keep)
                        case zr1y20 =>
                         clear x K
                         (try simp only [Act.put,setA,setZ,setS])
                         refine wpAnyH_ready (rs:=[14]) zK Z ?_;refine AllReadyH.cons (o:=⟨some 71,.call ⟨.value (.tmp 58),#[.tmp 59,.tmp 70],#[81,81]⟩,81, "rows.go:134",#[⟨1,.data⟩,⟨2,.data⟩,⟨13,.data⟩,⟨13,.chain⟩],none⟩) rfl (fun K x=>?_) AllReadyH.nil;go_simp
                         go_at_call 62
                         refine (dr _ _ (dA R o Y d m t i) (R t u*Y u) C (L+L+1) _ (SQ.keep0 (aa F zF)) (pa.keep0 kw) O).mono ?_;rintro e wm ⟨vm,rfl,pm,gm⟩;have pm:=pm.tight (L':=C) hX;obtain ⟨mo,ml,mc,no,nl,nc,rfl⟩:=pm.shape;have GG:wc.grownBy wm none:=aa zF gm;obtain ⟨b0,b1,b2,b3,b4,b5,b6,b7,b8,b9,yn,yv,jg⟩:=P.out wm GG;obtain ⟨Q,Hl,Hm,Hn,y⟩:=A.out wm GG;have ka:=y 0;have kb:=y 1;have kf:=y 2;clear y;go_wp2_with fail;refine x _ _ ?zs1y21 (fun hHeld=>?zr1y21)
                         case zs1y21=>((try dsimp only);go_keep)
                         case zr1y21 =>
                          clear x K
                          (try simp only [Act.put,setA,setZ,setS])
                          refine wpAnyH_ready (rs:=[15]) zK Z ?_;refine AllReadyH.cons (o:=⟨none,.store 81 (.tmp 12) (.tmp 71),0, "rows.go:134",#[⟨14,.data⟩,⟨14,.chain⟩,⟨0,.phase⟩,⟨1,.phase⟩,⟨2,.phase⟩,⟨3,.phase⟩,⟨4,.phase⟩,⟨5,.phase⟩,⟨6,.phase⟩,⟨7,.phase⟩,⟨8,.phase⟩,⟨9,.phase⟩,⟨10,.phase⟩,⟨11,.phase⟩,⟨12,.phase⟩,⟨13,.phase⟩,⟨14,.phase⟩],none⟩) rfl (fun K x=>?_) AllReadyH.nil;go_simp
                          refine x _ _ ?zs1y22 (fun hHeld=>?zr1y22)
                          case zs1y22=>((try dsimp only);go_keep)
                          case zr1y22 =>
                           clear x K
                           (try simp only [Act.put,setA,setZ,setS])
                           refine wpAnyH_done zK ?_ _;have SR:=ab Q;have PM:=ab pm;have GF:=ab (aa B (aa F GG));clear Q pm GG;go_wp2;go_roundw
                           case rel =>
                            refine ⟨i+1,O,zN,?_,ah (ah (ah GF _ _ E) _ _ E) _ _ E⟩;rw [hE];exact SR.varset PM zL
                           case measure=>simp [intOf];omega
      ·obtain rfl:i=m-(t+1):=O
       obtain ⟨T,_⟩:=I.out.ot t f;obtain ⟨v,hv⟩:=eX (o t);have oc:=(OO.keep B Z).at t f;rw [<- hv] at oc T;obtain ⟨eo,el,ec,ho,hl,jk,c0,c1,X,H,_⟩:=((MM.row t f).keep0 B).at v O;obtain ⟨jo,jl,jc,ko,kl,kc,e0,e1,e2,e3,ef⟩:=(L1.keep0 B).at v T;have C3:=ab H;have Hd:Hid (R t v≠0):=by rw [hv];exact (I.piv t f).1
       have He:Hid (dA R o Y d m t (m-(t+1)) / R t v=Y v):=by show _=_;rw [hv];exact (I.piv t f).2
       have Hf:Hid (bg L (Y v)):=I.out.ys v T;have HV:=ab hv;have V:Hid (∀ wx,wr.grownBy wx none->wx.cell? ⟨w.heap.size,5,none⟩=some (.func (.func 62) #[] #[])/\wx.cell? ⟨w.heap.size,6,none⟩=some (.func (.func 63) #[] #[])/\wx.cell? ⟨w.heap.size,7,none⟩=some (.func (.func 64) #[] #[])/\wx.cell? ⟨w.heap.size,8,none⟩=some (.func (.func 65) #[] #[])/\wx.cell? ⟨w.heap.size+1,0,none⟩=some (.bool (rB d))/\wx.cell? ⟨w.heap.size+1,1,none⟩=some (.slice lo G lc)/\wx.cell? ⟨w.heap.size+1,2,none⟩=some (.slice g l p)/\wx.cell? ⟨bs t,v*3,none⟩=some (.bool (rB (R t v)))/\wx.cell? ⟨bs t,v*3+1,none⟩=some (.slice eo el ec)/\wx.cell? ⟨bs t,v*3+2,none⟩=some (.slice ho hl jk)/\wx.cell? ⟨gs,0,none⟩=some (.bool (rB (dA R o Y d m t (m-(t+1)))))/\wx.cell? ⟨gs,1,none⟩=some (.slice so sl sc)/\wx.cell? ⟨gs,2,none⟩=some (.slice hs tl tc)/\wx.cell? ⟨bo,t,none⟩=some (.int .i64 ((v:Nat):Int))):=by
        intro wx hg;obtain ⟨s0,s1,s2,s3,s4,s5,s6⟩:=z.out wx (U.gr (aa B hg)).1;obtain ⟨_,t0,t1,t2,_⟩:=hD.out wx hg;exact ⟨s0,s1,s2,s3,s4,s5,s6,hg.cell c0 Z,hg.cell c1 Z,hg.cell X Z,t0,t1,t2,hg.cell oc Z⟩
       have Hg:Hid (∀ wx,wr.grownBy wx none->aH wx go m (qD ip Y (t+1)) L/\wx.cell? ⟨go,v*3,none⟩=some (.bool (rB (qD ip Y (t+1) v)))/\wx.cell? ⟨go,v*3+1,none⟩=some (.slice jo jl jc)/\wx.cell? ⟨go,v*3+2,none⟩=some (.slice ko kl kc)/\∀ k,wx.frozen? ⟨go,k,none⟩=false):=by
        intro wx hg;have hr:=(L1.keep0 B).keep0 hg;obtain ⟨_,_,_,_,_,_,_,_,_,_,hf⟩:=hr.at v T;exact ⟨hr,hg.cell e0 Z,hg.cell e1 Z,hg.cell e2 Z,hf⟩
       clear c0 c1 X H e0 e1 e2 e3 ef hv oc;have GG:wr.grownBy wr none:=ae _ _;obtain ⟨s0,s1,s2,s3,s4,s5,s6,s7,s8,s9,s10,s11,s12,s13⟩:=V.out wr GG;have mt:go≠w.heap.size:=by have:=s.out;omega
       have Ha:go≠w.heap.size+1:=by have:=s.out;omega
       have Hb:go≠bs t:=by have:=s.out;have:=he.out t f;omega
       have Hc:go≠gs:=fun e=>M.2 e.symm
       have HP:go≠bo:=by have:=s.out;omega
       have HQ:(v:Int)<(m:Int)+1:=O
       have HR:(0:Int)<=(v:Int):=O
       have HS:(v:Int)<(m:Int):=O
       have HT:(t:Int)<(m:Int):=O
       have HU:(0:Int)<=(t:Int):=O
       have kk:IntKind.i64.wrap ((t:Int)-1)=(t:Int)-1:=IntWalk.i64_in _ ⟨O,O⟩;go_wp2;go_region_held3 (fun w'=>w'.cell? ⟨w.heap.size,5,none⟩=some (.func (.func 62) #[] #[])/\w'.cell? ⟨w.heap.size,6,none⟩=some (.func (.func 63) #[] #[])/\w'.cell? ⟨w.heap.size,7,none⟩=some (.func (.func 64) #[] #[])/\w'.cell? ⟨w.heap.size,8,none⟩=some (.func (.func 65) #[] #[])/\w'.cell? ⟨w.heap.size+1,0,none⟩=some (.bool (rB d))/\w'.cell? ⟨w.heap.size+1,1,none⟩=some (.slice lo G lc)/\w'.cell? ⟨w.heap.size+1,2,none⟩=some (.slice g l p)/\w'.cell? ⟨bs t,v*3,none⟩=some (.bool (rB (R t v)))/\w'.cell? ⟨bs t,v*3+1,none⟩=some (.slice eo el ec)/\w'.cell? ⟨bs t,v*3+2,none⟩=some (.slice ho hl jk)/\w'.cell? ⟨gs,0,none⟩=some (.bool (rB (dA R o Y d m t (m-(t+1)))))/\w'.cell? ⟨gs,1,none⟩=some (.slice so sl sc)/\w'.cell? ⟨gs,2,none⟩=some (.slice hs tl tc)/\w'.cell? ⟨bo,t,none⟩=some (.int .i64 ((v:Nat):Int))) (go_keep)
        (first | (go_at_call 64;refine (pK _ _ (dA R o Y d m t (m-(t+1))) (R t v) C L _ (SQ.keep0 zF) (C3.keep0 zF) Hd O).mono ?_;rintro e wy ⟨vy,rfl,py,gy⟩;rw [He] at py;have py:=py.tight (L':=L) Hf;obtain ⟨mo,ml,mc,no,nl,nc,rfl⟩:=py.shape;have GG:wr.grownBy wy none:=aa zF gy;obtain ⟨b0,b1,b2,b3,b4,b5,b6,b7,b8,b9,yn,yv,jg,Kc⟩:=V.out wy GG;obtain ⟨fr,t0,t1,t2,y⟩:=Hg.out wy GG;have ka:=y (v*3);have kb:=y (v*3+1);have kf:=y (v*3+2);clear y))
       all_goals
        have FR:=ab fr;have PY:=ab py;have GF:=ab (aa B GG);clear fr py GG;go_wp2;go_roundw
        case rel =>
         obtain ⟨r1,r2,r3⟩:=FR.out.set v T PY;refine ⟨t,O,by first | rfl | (rw [kk]),r1.congr (fun j hj=>?_),(U.gr GF).trans ⟨r2,r3⟩⟩;rw [HV];exact DC I t f j hj
        case measure=>simp [intOf]<;>omega
theorem sJ {M:Nat} {q:Rat} (a:M<4294967296^L) (c:1<=L) (h:gF M q):bg L q:=by
 refine ⟨Nat.lt_of_le_of_lt h.2 a,?_⟩;rw [h.1];exact Nat.lt_of_lt_of_le (by decide:1<4294967296^1) (Nat.pow_le_pow_right zD c)
theorem quo_wh {M:Nat} {a c:Rat} (ha:gF M a) (hc:gF M c) (k:c≠0):rN (a / c)<=M/\(a / c).den<=M:=by
 have f:rN c≠0:=q_ne k;have e:=DI a c;rw [ha.1,hc.1,Nat.mul_one,Nat.mul_one] at e;by_cases g:rN a=0
 ·rw [DJ g,Rat.div_def,Rat.zero_mul];have l:=hc.2;exact ⟨Nat.zero_le _,by show 1<=M;omega⟩
 ·obtain ⟨_,h,j⟩:=uL (rB a != rB c) (rN a) (rN c) g f;rw [e] at h j;refine ⟨?_,?_⟩
  ·unfold rN;rw [h];exact Nat.le_trans (Nat.div_le_self _ _) ha.2
  ·rw [j];exact Nat.le_trans (Nat.div_le_self _ _) hc.2
theorem lU {M:Nat} {a c:Rat} (e:M<4294967296^L) (ha:gF M a) (hc:gF M c) (f:c≠0):bg L (a / c):=by
 obtain ⟨g,h⟩:=quo_wh ha hc f;exact ⟨Nat.lt_of_le_of_lt g e,Nat.lt_of_le_of_lt h e⟩
theorem zV (R:Nat->Nat->Rat) (o:Nat->Nat) (Y:Nat->Rat) (d:Rat) (m t:Nat) (l:List Nat) (a:∀ i,i<l.length->l.getD i 0=o (t+1+i)):∀ k,k<=l.length ->
  dA R o Y d m t k=d*R t m-cB (fun v=>R t v*Y v) (l.take k):=by
 intro k;induction k with
 | zero =>
  intro _;rw [List.take_zero];show d*R t m=d*R t m-(0:Rat)
  grind
 | succ k ih =>
  intro f;show dA R o Y d m t k-R t (o (t+1+k))*Y (o (t+1+k))=_
  rw [ih O,List.take_add_one,zX O];have e:=a k O;rw [zW,zX O] at e;have c:l[k]=o (t+1+k):=e;rw [vR];show _=d*R t m-(cB (fun v=>R t v*Y v) (l.take k)+(R t l[k]*Y l[k]+(0:Rat)))
  rw [c];grind
theorem BU {o:Nat->Nat} {Y:Nat->Rat} {M:Nat} (a:∀ t,t<m->∀ j,gF M (R t j)) (g:∀ t,t<m->gF M (Y (o t))) (hd:gF M d) (t:Nat) (c:t<m):∀ i,t+1+i<=m ->
  gF ((i+1)*(M*M)) (dA R o Y d m t i):=by
 intro i;induction i with
 | zero =>
  intro _;have:=bI.mul _ _ _ _ hd (a t c m);rw [Nat.zero_add,Nat.one_mul];exact this
 | succ i ih =>
  intro hi;have h:=ih O;have k:=bI.neg _ _ (bI.mul _ _ _ _ (a t c (o (t+1+i))) (g (t+1+i) O));have f:=bI.add _ _ _ _ h k;have e:(i+1)*(M*M)+M*M=(i+1+1)*(M*M):=by rw [Nat.add_mul (i+1) 1,Nat.one_mul]
  rw [e] at f;show gF _ (dA R o Y d m t i-R t (o (t+1+i))*Y (o (t+1+i)))
  rw [Rat.sub_eq_add_neg];exact f
theorem back_of {s:Rat} (h:St W m m perm order R d s) (B:0<m) (hb:∀ r,1<=b r) (x:∀ r j,gF (b r) (W r j))
  (hR:∀ t,t<m->∀ j,gF (dM m b) (R t j)) (L LS:Nat) (hL1:1<=L) (hM:dM m b<4294967296^L) (hLS1:1<=LS) (hS:(m+1)*(dM m b*dM m b)<4294967296^LS) :
  ∃ (y:Nat->Rat) (ip:Nat->Nat),nM W m y/\(∀ z,nM W m z->∀ j,j<m->z j=y j)/\BB R (fun t=>order.getD t 0) ip (fun j=>d*y j) d m L LS/\∀ j,d*y j / d=y j:=by
 obtain ⟨y,hy,g,E,q⟩:=st_full bI h hb x;have hd:=st_wh_d bI h B hb x;have o:d≠0:=h.dn;have C:=h.ol;have a:∀ j,∃ t,j<m->t<m/\order.getD t 0=j:=by
  intro j;by_cases c:j<m
  ·obtain ⟨t,ht,e⟩:=fk (h.om j c);exact ⟨t,fun _=>⟨O,e⟩⟩
  ·exact ⟨0,fun h=>absurd h c⟩
 obtain ⟨ip,k⟩:∃ ip:Nat->Nat,∀ j,j<m->ip j<m/\order.getD (ip j) 0=j:=⟨fun j=>Classical.choose (a j),fun j=>Classical.choose_spec (a j)⟩;have hlt:∀ t,t<m->order.getD t 0<m:=fun t ht=>h.ob _ (dm order t O)
 have p:∀ j,d*y j / d=y j:=by
  intro j;rw [Rat.mul_comm,Rat.mul_div_cancel o]
 have f:∀ j,j<m->gF (dM m b) (d*y j):=by
  intro j c;obtain ⟨l,u⟩:=k j c;have:=E (ip j) l;rw [u] at this;exact this
 refine ⟨y,ip,hy,g,⟨?_,k,?_,?_,?_,?_⟩,p⟩
 ·intro t ht;refine ⟨hlt t ht,?_⟩;obtain ⟨l,u⟩:=k _ (hlt t ht);exact h.oi _ _ l ht u
 ·intro t ht i hi;refine sJ (Nat.lt_of_le_of_lt ?_ hS) hLS1 (BU hR (fun t ht=>f _ (hlt t ht)) hd t ht i hi);exact Nat.mul_le_mul O zL
 ·intro t ht;obtain ⟨l,u⟩:=q t ht;refine ⟨l,?_⟩;have A:(order.drop (t+1)).length=m-(t+1):=by rw [List.length_drop];omega
  have e:=zV R (fun t=>order.getD t 0) (fun j=>d*y j) d m t (order.drop (t+1)) (fun i _=>by
   rw [zW,List.getElem?_drop,<- zW]) (m-(t+1)) O
  rw [zT O] at e;have D:dA R (fun t=>order.getD t 0) (fun j=>d*y j) d m t (m-(t+1))=d*y (order.getD t 0)*R t (order.getD t 0):=by rw [e];exact u
  rw [D,Rat.mul_div_cancel l]
 ·intro j c;exact sJ hM hL1 (f j c)
 ·intro j c;exact lU hM (f j c) hd o
def fw (R:Nat->Nat->Rat) (k done:Nat) (u d:Rat) (i:Nat):Nat->Nat->Rat:=fun t =>
 if t=done then (fun j=>u*R done j) else if done<t/\t<done+1+i then km (R t) (fun j=>u*R done j) k d else R t
theorem turn_sg (x:Rat):tC x=1∨tC x = -1:=by
 unfold tC;split
 ·exact .inr rfl
 ·exact .inl rfl
theorem sg_ne {u x:Rat} (h:u=1∨u = -1) (a:x≠0):u*x≠0:=by
 rcases h with rfl | rfl
 ·rwa [Rat.one_mul]
 ·intro e;apply a;grind
theorem gL (R:Nat->Nat->Rat) (k done:Nat) (u d:Rat) (i j:Nat):fw R k done u d i done j=u*R done j:=by
 unfold fw;rw [if_pos rfl]
theorem xf (R:Nat->Nat->Rat) (k done:Nat) (u d:Rat) (t j:Nat):(if t=done then (fun j=>u*R done j) else R t) j=fw R k done u d 0 t j:=by
 unfold fw;by_cases e:t=done
 ·rw [if_pos e,if_pos e]
 ·rw [if_neg e,if_neg e,if_neg O]
theorem wZ (R:Nat->Nat->Rat) (k done:Nat) (u d:Rat) (i:Nat):fw R k done u d i (done+1+i)=R (done+1+i):=by
 unfold fw;rw [if_neg O,if_neg O]
theorem xe (R:Nat->Nat->Rat) (k done:Nat) (u d:Rat) (i t j:Nat) :
  (if t=done+1+i then km (R (done+1+i)) (fun j=>u*R done j) k d else fw R k done u d i t) j=fw R k done u d (i+1) t j:=by
 unfold fw;by_cases e:t=done+1+i
 ·rw [if_pos e,if_neg O,if_pos O,e]
 ·rw [if_neg e];by_cases a:t=done
  ·rw [if_pos a,if_pos a]
  ·rw [if_neg a,if_neg a];by_cases c:done<t/\t<done+1+i
   ·rw [if_pos c,if_pos O]
   ·rw [if_neg c,if_neg O]
theorem qU {done:Nat} {s u:Rat} (h:St W m done perm order R d s) (hd:done<m) (a:u=1∨u = -1) (hn:R done (order.getD done 0)≠0) :
  St W m (done+1) perm order (fw R (order.getD done 0) done u d (m-(done+1))) (u*R done (order.getD done 0)) (u*s):=by
 refine st_step h hd a (fun t e j=>?_) (fun j=>gL ..) (gL _ _ _ _ _ _ _).symm (sg_ne a hn) (fun i hi c j=>?_)
 ·unfold fw;rw [if_neg O,if_neg O]
 ·rw [gL];unfold fw;rw [if_neg O,if_pos O];rfl
theorem elim_wh {done:Nat} {s u:Rat} (h:St W m done perm order R d s) (hd:done<m) (a:u=1∨u = -1) (hb:∀ r,1<=b r) (c:∀ r j,gF (b r) (W r j))
  (hR:∀ t,t<done->∀ j,gF (dM m b) (R t j)) (k i t:Nat) (ht:t<done+1) (j:Nat):gF (dM m b) (fw R k done u d i t j):=by
 by_cases e:t=done
 ·rw [e,gL];exact vD bI a (st_wh bI h hb c done zL hd j)
 ·unfold fw;rw [if_neg e,if_neg O];exact hR t O j
theorem Cs {done:Nat} {s u:Rat} (h:St W m done perm order R d s) (hd:done<m) (a:u=1∨u = -1) (hn:R done (order.getD done 0)≠0) (hb:∀ r,1<=b r) (c:∀ r j,gF (b r) (W r j))
  (hL1:1<=L) (hM:dM m b<4294967296^L) (t:Nat) (ht:done<t) (ht2:t<m) (j:Nat):bg L (km (R t) (fun j=>u*R done j) (order.getD done 0) d j):=by
 have:=st_wh bI (qU h hd a hn) hb c t O ht2 j;unfold fw at this;rw [if_neg O,if_pos O] at this;exact sJ hM hL1 this
def qm (R:Nat->Nat->Rat) (n:Nat):Nat->Nat->Rat:=fun r j=>if j<n then cj (R r) n j else 0
theorem jq (x:Nat->Rat) {R S:Nat->Rat} : ∀ n,(∀ j,j<n->R j=S j)->cX n x R=cX n x S:=by
 intro n;induction n with
 | zero=>intro _;rfl
 | succ n ih=>intro h;unfold cX;rw [ih (fun j a=>h j O),h n O]
theorem Aq (x R:Nat->Rat) (c:Rat):∀ n,cX n x (fun j=>R j*c)=cX n x R*c:=by
 intro n;induction n with
 | zero=>unfold cX;grind
 | succ n ih=>unfold cX;rw [ih];grind
theorem mv (R:Nat->Nat->Rat) (m:Nat) (x:Nat->Rat):nM (qm R (m+1)) m x↔nM R m x:=by
 have a:∀ r,cX (m+1) x (qm R (m+1) r)=cX (m+1) x (R r)*((iR (R r) (m+1):Nat):Rat):=by
  intro r;rw [<- Aq];exact jq x (m+1) (fun j o=>by unfold qm;rw [if_pos o];rfl)
 have c:∀ r,((iR (R r) (m+1):Nat):Rat)≠0:=by
  intro r e;have:=oQ (R r) (m+1);have l:((iR (R r) (m+1):Nat):Rat)=((0:Nat):Rat):=e;rw [Rat.natCast_inj] at l;omega
 constructor
 ·rintro ⟨f,g⟩;refine ⟨f,fun r k=>?_⟩;have:=g r k;rw [a r] at this;rcases Rat.mul_eq_zero.1 this with h | h
  ·exact h
  ·exact absurd h (c r)
 ·rintro ⟨f,g⟩;refine ⟨f,fun r k=>?_⟩;rw [a r,g r k,Rat.zero_mul]
theorem den_lcm (x:Rat) (c:Nat) (hc:0<c):c*(x*((c:Nat):Rat)).den∣Nat.lcm c x.den:=by
 have e:x*((c:Nat):Rat)=mkRat (x.num*(c:Nat)) x.den:=by
  rw [Rat.mul_def',Rat.num_natCast,Rat.den_natCast,Nat.mul_one]
 rw [e,Rat.den_mkRat,if_neg x.den_nz];have hg:Nat.gcd (x.num*((c:Nat):Int)).natAbs x.den=Nat.gcd c x.den:=by
  rw [Int.natAbs_mul,Int.natAbs_natCast,Nat.mul_comm];exact Nat.Coprime.gcd_mul_right_cancel c x.reduced
 have a:Nat.gcd x.den (x.num*((c:Nat):Int)).natAbs=Nat.gcd c x.den:=by rw [Nat.gcd_comm,hg]
 first | rw [hg] | rw [a]
 obtain ⟨k,g⟩:Nat.gcd c x.den∣x.den:=Nat.gcd_dvd_right _ _;have f:0<Nat.gcd c x.den:=Nat.gcd_pos_of_pos_left _ hc;have h:x.den / Nat.gcd c x.den=k:=by
  apply Nat.div_eq_of_eq_mul_right f;exact g
 rw [h];have j:Nat.gcd c x.den*Nat.lcm c x.den=c*x.den:=Nat.gcd_mul_lcm _ _;have l:Nat.gcd c x.den*(c*k)=Nat.gcd c x.den*Nat.lcm c x.den:=by
  rw [j]
  calc Nat.gcd c x.den*(c*k)=c*(Nat.gcd c x.den*k):=by rw [Nat.mul_left_comm]
   _=c*x.den:=by rw [<- g]
 rw [Nat.eq_of_mul_eq_mul_left f l];exact Nat.dvd_refl _
theorem tM (R:Nat->Rat) (D:Nat) (h:∀ j,(R j).den∣D):∀ i,iR R i∣D:=by
 intro i;induction i with
 | zero=>exact Nat.one_dvd _
 | succ i ih=>exact Nat.dvd_trans (den_lcm (R i) (iR R i) (oQ R i)) (Nat.lcm_dvd ih (h i))
theorem jX (R:Nat->Rat) (D N:Nat) (a:0<D) (h:∀ j,(R j).den∣D) (c:∀ j,rN (R j)<=N) (i j:Nat):rN (cj R i j)<=N*D/\(cj R i j).den<=D:=by
 refine ⟨?_,Nat.le_trans (Nat.le_of_dvd (Rat.den_pos _) (Aa R i j)) (Nat.le_of_dvd a (h j))⟩;have e:R j*((iR R i:Nat):Rat)=mkRat ((R j).num*(iR R i:Nat)) (R j).den:=by
  rw [Rat.mul_def',Rat.num_natCast,Rat.den_natCast,Nat.mul_one]
 unfold cj rN;rw [e,Rat.num_mkRat,if_neg (R j).den_nz];refine Nat.le_trans (Int.natAbs_ediv_le_natAbs _ _) ?_;rw [Int.natAbs_mul,Int.natAbs_natCast];exact Nat.mul_le_mul (c j) (Nat.le_of_dvd a (tM R D h i))
def kY (v q:Rat):Prop:=∃ α β:Int,α.natAbs<=1/\β.natAbs<=1/\q=(α:Rat)+(β:Rat)*v
theorem gS {v q:Rat} (h:kY v q):q.den∣v.den/\rN q<=v.den+rN v:=by
 obtain ⟨α,β,ha,hb,rfl⟩:=h;have e:(α:Rat)+(β:Rat)*v=mkRat (α*v.den+β*v.num) v.den:=by
  have j:v=mkRat v.num v.den:=(Rat.mkRat_self v).symm;have hd:((v.den:Nat):Rat)≠0:=by
   intro g;have:((v.den:Nat):Rat)=((0:Nat):Rat):=g;rw [Rat.natCast_inj] at this;exact v.den_nz this
  rw [Rat.mkRat_eq_div];have a:(((α*v.den+β*v.num:Int)):Rat)=(α:Rat)*((v.den:Nat):Rat)+(β:Rat)*((v.num:Int):Rat):=by
   push_cast
   rfl
  rw [a];have c:v=((v.num:Int):Rat) / ((v.den:Nat):Rat):=by conv=>lhs;rw [<- Rat.mkRat_self v,Rat.mkRat_eq_div]
  have f:(β:Rat)*v=(β:Rat)*((v.num:Int):Rat) / ((v.den:Nat):Rat):=by
   conv=>lhs;rw [c]
   rw [Rat.div_def,Rat.div_def,Rat.mul_assoc]
  rw [f,Rat.div_def,Rat.div_def,Rat.add_mul,Rat.mul_assoc (α:Rat),Rat.mul_inv_cancel _ hd,Rat.mul_one]
 rw [e];constructor
 ·rw [Rat.den_mkRat,if_neg v.den_nz];exact Nat.div_dvd_of_dvd (by first | exact Nat.gcd_dvd_right _ _ | exact Nat.gcd_dvd_left _ _)
 ·unfold rN;rw [Rat.num_mkRat,if_neg v.den_nz];refine Nat.le_trans (Int.natAbs_ediv_le_natAbs _ _) ?_;refine Nat.le_trans (Int.natAbs_add_le _ _) ?_;rw [Int.natAbs_mul,Int.natAbs_mul,Int.natAbs_natCast];have k:α.natAbs*v.den<=1*v.den:=Nat.mul_le_mul_right _ ha;have a:β.natAbs*v.num.natAbs<=1*v.num.natAbs:=Nat.mul_le_mul_right _ hb;omega
def iq (e:Nat->Nat):Nat->Nat
 | 0=>0
 | i+1=>iq e i+(1+e i)
theorem tb (c:Nat->Nat):∀ l l':List Nat,aV c (l++l')=aV c l*aV c l':=by
 intro l;induction l with
 | nil=>intro l';simp [aV]
 | cons a l ih=>intro l';show c a*aV c (l++l')=c a*aV c l*aV c l';rw [ih,Nat.mul_assoc]
theorem most_le (m:Nat) (a:m<=4294967296) (e:Nat->Nat):∀ k,aV (fun r=>m*4294967296^e r) (List.range k)<=4294967296^iq e k:=by
 intro k;induction k with
 | zero=>simp [aV,iq]
 | succ k ih =>
  rw [List.range_succ,tb];show _*(m*4294967296^e k*1)<=4294967296^(iq e k+(1+e k))
  rw [Nat.mul_one,Nat.pow_add,Nat.pow_add,Nat.pow_one];exact Nat.mul_le_mul ih (Nat.mul_le_mul_right _ a)
theorem yT (m L:Nat) (a:m<=4294967296) (e:Nat->Nat) (c:iq e m<L):dM m (fun r=>4294967296^e r)<4294967296^L:=by
 unfold dM;exact Nat.lt_of_le_of_lt (most_le m a e m) (Nat.pow_lt_pow_right zD c)
theorem most_sq (m L M:Nat) (a:m+1<4294967296) (h:M<4294967296^L):(m+1)*(M*M)<4294967296^(2*L+1):=by
 have c:M*M<=4294967296^L*4294967296^L:=Nat.mul_le_mul (Nat.le_of_lt h) (Nat.le_of_lt h);have e:(4294967296:Nat)^(2*L+1)=4294967296*(4294967296^L*4294967296^L):=by rw [Nat.pow_succ,Nat.two_mul,Nat.pow_add,Nat.mul_comm]
 rw [e];have f:0<(4294967296:Nat)^L*4294967296^L:=Nat.mul_pos (Nat.pow_pos zD) (Nat.pow_pos zD)
 calc (m+1)*(M*M)<=(m+1)*(4294967296^L*4294967296^L):=Nat.mul_le_mul_left _ c
  _<4294967296*(4294967296^L*4294967296^L):=Nat.mul_lt_mul_of_pos_right a f
theorem ofR_one:fy [49]=1:=by
 unfold fy;decide
theorem aq {w1:World} {g:Nat} (h:w.grownBy w1 (some g)):w.grownBy (w1.setCell ⟨g,i,none⟩ v) (some g) :=
 aw (r2:=some g) h ⟨rfl,rfl,rfl,Z,fun k _ a=>heap_setCell_other _ _ _ _ (fun e=>a (by rw [e]))⟩ (fun _ _ e=>e) (fun _ _ e=>e)
def FldE (w:World) (e:Ending) (w':World):Prop:=∃ fo fl fc fo2 fl2 fc2,e=.returned (jP false (.slice fo fl fc) (.slice fo2 fl2 fc2))/\FQ w' (.agg #[.bool false,.slice fo fl fc,.slice fo2 fl2 fc2]) 1 2/\w.grownBy w' none
theorem sK (m:Int) (w:World) (j:w.cell? ⟨1,0,none⟩=some (.int .i64 m)) :
  Calls Tryz.prog 32 #[] w fun e w'=>FldE w e w':=by
 have B:=ab j;have hb:=bZ j;clear j;obtain ⟨W,o⟩:=eX (w.alloc (Obj.cells #[.bool false,.slice none 0 0,.slice none 0 0,.nilFunc,.nilFunc,.nilFunc,.nilFunc,.nilFunc,.nilFunc,.nilFunc,.nilFunc] 87));have s:Hid (w.grownBy W none):=by rw [o];exact ag (ae _ _) _
 have C:Hid (∀ wx,W.grownBy wx none->wx.heap[w.heap.size]? = some (Obj.cells #[.bool false,.slice none 0 0,.slice none 0 0,.nilFunc,.nilFunc,.nilFunc,.nilFunc,.nilFunc,.nilFunc,.nilFunc,.nilFunc] 87 (0,0))):=by
  intro wx hg;rw [o] at hg;rw [hg.block w.heap.size Z Z];exact heap_alloc_new w _
 go_enter Tryz.func32,Tryz.ntmps32
 go_wp2_with fail;rw [<- o];clear o;refine (DH _ m _ zD (s.cell B Z)).mono ?_;rintro e f ⟨v,rfl,p,r⟩;have D:fy (ByteArray.mk #[49]).data.toList=1:=ofR_one;rw [D] at p;obtain ⟨t,u,y,l,z,A,rfl⟩:=p.shape;have E:=ab p;have F:=ab r;have c:=C.out f r;have h:∀ k,k<11->(f.cell? ⟨w.heap.size,k,none⟩).isSome=true/\f.frozen? ⟨w.heap.size,k,none⟩=false:=by
  intro k hk;simp only [World.cell?,World.frozen?,c];refine ⟨?_,Z⟩;rcases k with _ | _ | _ | _ | _ | _ | _ | _ | _ | _ | _ | k<;>first | rfl | omega
 have c0:f.cell? ⟨w.heap.size,0,none⟩=some (.bool false):=by simp [World.cell?,c]
 have c1:f.cell? ⟨w.heap.size,1,none⟩=some (.slice none 0 0):=by simp [World.cell?,c]
 have G:f.cell? ⟨w.heap.size,2,none⟩=some (.slice none 0 0):=by simp [World.cell?,c]
 have H:f.cell? ⟨w.heap.size,3,none⟩=some .nilFunc:=by simp [World.cell?,c]
 have I:f.cell? ⟨w.heap.size,4,none⟩=some .nilFunc:=by simp [World.cell?,c]
 have J:f.cell? ⟨w.heap.size,5,none⟩=some .nilFunc:=by simp [World.cell?,c]
 have K:f.cell? ⟨w.heap.size,6,none⟩=some .nilFunc:=by simp [World.cell?,c]
 have M:f.cell? ⟨w.heap.size,7,none⟩=some .nilFunc:=by simp [World.cell?,c]
 have N:f.cell? ⟨w.heap.size,8,none⟩=some .nilFunc:=by simp [World.cell?,c]
 have P:f.cell? ⟨w.heap.size,9,none⟩=some .nilFunc:=by simp [World.cell?,c]
 have q:f.cell? ⟨w.heap.size,10,none⟩=some .nilFunc:=by simp [World.cell?,c]
 have f0:=(h 0 O).2;have f1:=(h 1 O).2;have T:=(h 2 O).2;have U:=(h 3 O).2;have V:=(h 4 O).2;have X:=(h 5 O).2;have Y:=(h 6 O).2;have f7:=(h 7 O).2;have f8:=(h 8 O).2;have f9:=(h 9 O).2;have Q:=(h 10 O).2;have S:Hid (bP f w.heap.size):=by
  intro i x;simp only [World.cell?,c];rcases i with _ | _ | _ | _ | _ | _ | _ | _ | _ | _ | _ | i<;>simp
 clear h c p r;have sf:∀ (n:Nat) (a:Addr) (wx:World),(store a (.func (.func n) #[] #[])).run Tryz.prog wx=stored Tryz.prog wx a (.func (.func n) #[] #[]) .plain:=fun n a wx=>run_store _ _ _ _ _ rfl
 go_wp2;refine bodyPost_ret (v:=jP (rB 1) (.slice t u y) (.slice l z A)) (by simp [results,Tryz.results32,go_sem,c0,c1,G,H,I,J,K,M,N,P,q]) rfl ?_;refine ⟨t,u,y,l,z,A,rfl,FV.other (g:=w.heap.size) E S ?_,?_⟩
 ·exact aq (aq (aq (aq (aq (aq (aq (aq (aq (aq (aq (ae _ _)))))))))))
 ·exact ah (ah (ah (ah (ah (ah (ah (ah (ah (ah (ah (aa s F) _ _ zL) _ _ zL) _ _ zL) _ _ zL) _ _ zL) _ _ zL) _ _ zL) _ _ zL) _ _ zL) _ _ zL) _ _ zL
end Go.Proofs.YtkbmbmdemajoaaaGreatDoor
