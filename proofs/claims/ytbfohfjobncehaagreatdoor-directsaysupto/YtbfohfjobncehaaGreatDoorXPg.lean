/- Contracts. -/
import Derived.Test.YtbfohfjobncehaaGreatDoorXPk
namespace Go.Proofs.YtbfohfjobncehaaGreatDoor
open Go.RowKit
set_option linter.all false
set_option maxHeartbeats 8000000
set_option maxRecDepth 10000
open Go.RowKit Go.Lib
variable {w:World} {nodes:Int} {ps:List aD}
def mE (q:Rat) (L:Nat):Prop:=rN q<4294967296^L/\q.den<4294967296^L
theorem FQ.fit {v:Value} {q:Rat} {L:Nat} (h:FQ w v q L) (d:0<L):mE q L:=by
 obtain ⟨up,a,e,b,c,f,g⟩:=h;refine ⟨lD b,?_⟩;rcases c with ⟨_,hd⟩ | ⟨hd,_⟩
 ·rw [hd];exact Nat.one_lt_pow O zD
 ·exact lD hd
theorem Bd {a:Bool} {i:Nat} (h:(bw a nodes ps i).1=0):∀ p∈ps,dq a p nodes=0:=by
 induction ps generalizing i with
 | nil=>intro p b;simp at b
 | cons q r ih =>
  intro p b;by_cases c:dq a q nodes=0
  ·rw [bw,if_pos c] at h;rcases List.mem_cons.1 b with rfl | b
   ·exact c
   ·exact ih h p b
  ·rw [bw,if_neg c] at h;exact absurd h c
structure FineP (p:aD) (nodes:Int):Prop where
 k1:1<=p.kind
 k7:p.kind<=7
 a:ft p.a nodes=true
 b:ft p.b nodes=true
 led:(p.kind=6∨p.kind=7)->ft p.c nodes=true/\ft p.d nodes=true
 own:¬ (p.kind=6∨p.kind=7)->p.c=0/\p.d=0
 pos:p.kind<=3->0<lW p.v
theorem fine_of {p:aD} (h:dq false p nodes=0):FineP p nodes:=by
 unfold dq at h;split at h
 ·exact absurd h zD
 ·rename_i m;unfold lh at h;split at h
  ·exact absurd h zD
  ·rename_i n;have b:1<=p.kind:=O
   have k:p.kind≠8:=fun e=>m ⟨e,rfl⟩
   have c:p.kind<=7:=O
   have led:jJ p.kind.toNat=true↔(p.kind=6∨p.kind=7):=by
    unfold jJ;simp only [Bool.or_eq_true,beq_iff_eq];omega
   have d:p.kind<=3->fz p.kind.toNat=true:=by
    intro f;have:p.kind=1∨p.kind=2∨p.kind=3:=O
    rcases this with e | e | e<;>rw [e]<;>rfl
   unfold kZ at h;split at h
   ·exact absurd h zD
   ·rename_i a;split at h
    ·exact absurd h zD
    ·rename_i j;split at h
     ·exact absurd h zD
     ·rename_i f;simp only [Bool.or_eq_true,Bool.and_eq_true,Bool.not_eq_true',not_or,not_and,Bool.not_eq_false,decide_eq_true_eq,bne_iff_ne,ne_eq,Decidable.not_not] at a j f;refine ⟨b,c,a.1.1,a.1.2,fun g=>?_,fun g=>?_,fun i=>?_⟩
      ·exact a.2 (led.2 g)
      ·have l:jJ p.kind.toNat=false:=by
        cases hx:jJ p.kind.toNat with
        | false=>rfl
        | true=>exact absurd (led.1 hx) g
       have:=f.1 l;omega
      ·have:=j (d i);omega
theorem eK (h:(aM false nodes ps).1=0):bS nodes.toNat ps/\nodes=(nodes.toNat:Int)/\ps.length<=16/\∀ p∈ps,FineP p nodes:=by
 unfold aM at h;by_cases k:nodes<1∨8<nodes∨16<ps.length
 ·rw [if_pos k] at h;exact absurd h zD
 ·rw [if_neg k] at h;have f:=fun p j=>fine_of (Bd h p j)
  refine ⟨⟨O,O,O,fun p j=>?_⟩,O,O,f⟩;have g:=f p j;have e:∀ x,ft x nodes=true->0<=x/\x<nodes:=by
   intro x i;unfold ft at i;rw [Bool.and_eq_true,decide_eq_true_eq,decide_eq_true_eq] at i;exact i
  have n:=e _ g.a;have o:=e _ g.b;have m:(0<=p.c/\p.c<nodes)/\(0<=p.d/\p.d<nodes):=by
   by_cases l:p.kind=6∨p.kind=7
   ·obtain ⟨hc,hd⟩:=g.led l;exact ⟨e _ hc,e _ hd⟩
   ·obtain ⟨hc,hd⟩:=g.own l;omega
  exact ⟨p.a.toNat,p.b.toNat,p.c.toNat,p.d.toNat,O,O,O,O,O,O,O,O⟩
theorem nZ (h:(aM false nodes ps).1=0):aM false nodes ps=(0,0):=by
 have b:∀ (qs:List aD) (i:Nat),(bw false nodes qs i).1=0->bw false nodes qs i=(0,0):=by
  intro qs;induction qs with
  | nil=>intro i _;rfl
  | cons q r ih =>
   intro i a;by_cases e:dq false q nodes=0
   ·rw [bw,if_pos e] at a ⊢;exact ih _ a
   ·rw [bw,if_neg e] at a;exact absurd a e
 unfold aM at h ⊢;by_cases c:nodes<1∨8<nodes∨16<ps.length
 ·rw [if_pos c] at h;exact absurd h zD
 ·rw [if_neg c] at h ⊢;exact b _ _ h
def ChkdE (w:World) (nodes:Int) (ps:List aD) (L:Nat) (e:Ending) (w':World):Prop :=
 ((aM false nodes ps).1≠0/\e=.returned (.tuple #[.agg #[.slice none 0 0,.slice none 0 0],.agg #[.int .i64 (aM false nodes ps).1,.int .i64 (aM false nodes ps).2]])/\w.grownBy w' none)
 ∨ ((aM false nodes ps).1=0/\AnsE w nodes.toNat ps L e w')
theorem pX (nodes:Int) (R:Option Addr) (S:Nat) (ps:List aD) (L:Nat) (w:World) (hb:lM w) (hp:aA w (.slice R ps.length S) ps) (T:∀ n,bS n ps->fD (cr n ps) (n+ps.length)<L) (hf:2<=L) (hL:L<=49000000) :
  Calls Tryz.prog 35 #[.agg #[.int .i64 nodes,.slice R ps.length S]] w fun e w'=>ChkdE w nodes ps L e w':=by
 have HB:=aa hb;have HP:=aa hp;have hj:=aa T;clear hb hp T;obtain ⟨W,Q⟩:=eX (((w.alloc (Obj.cells #[.int .i64 nodes,.slice R ps.length S] 24)).alloc (Obj.cells #[.slice none 0 0,.slice none 0 0] 78)).alloc (Obj.cells #[.int .i64 0,.int .i64 0] 29));have s:Hid (w.grownBy W none):=by rw [Q];exact ae (ae (ae (ag _ _) _) _) _
 have m:Hid (W.heap.size=w.heap.size+3):=by show _=_;rw [Q];simp
 have P:Hid (∀ wx,W.grownBy wx none->wx.cell? ⟨w.heap.size,0,none⟩=some (.int .i64 nodes)/\wx.cell? ⟨w.heap.size,1,none⟩=some (.slice R ps.length S)/\wx.cell? ⟨w.heap.size+1,0,none⟩=some (.slice none 0 0)/\wx.cell? ⟨w.heap.size+1,1,none⟩=some (.slice none 0 0)/\wx.cell? ⟨w.heap.size+2,0,none⟩=some (.int .i64 0)/\wx.cell? ⟨w.heap.size+2,1,none⟩=some (.int .i64 0)):=by
  intro wx hg;rw [Q] at hg;exact ⟨hg.cell zG Z,hg.cell zG Z,hg.cell zG Z,hg.cell zG Z,hg.cell zG Z,hg.cell zG Z⟩
 have BL:Hid (∀ wx,W.grownBy wx none->wx.heap[w.heap.size+1]? = some (Obj.cells #[.slice none 0 0,.slice none 0 0] 78 (0,0))/\wx.heap[w.heap.size+2]? = some (Obj.cells #[.int .i64 0,.int .i64 0] 29 (0,0))):=by
  intro wx hg;rw [hg.block (w.heap.size+1) (by rw [m];omega) Z,hg.block (w.heap.size+2) (by rw [m];omega) Z,Q];exact qj w _ _ _
 have FZ:Hid (∀ wx,W.grownBy wx none->(wx.frozen? ⟨w.heap.size+1,0,none⟩=false/\wx.frozen? ⟨w.heap.size+1,1,none⟩=false/\wx.frozen? ⟨w.heap.size+2,0,none⟩=false/\wx.frozen? ⟨w.heap.size+2,1,none⟩=false)):=by
  intro wx hg;obtain ⟨k,l⟩:=BL.out wx hg;refine ⟨?_,?_,?_,?_⟩<;>simp [World.frozen?,k,l]
 obtain ⟨o,p,d,f,g,h⟩:=P.out W (ag _ _);go_enter Tryz.func35,Tryz.ntmps35
 go_upto_region 1 with fail;rw [<- Q];clear Q;go_wp2_with fail;refine (rG nodes _ ps W (HB.keep s) (HP.keep s)).mono ?_;rintro e w1 ⟨rfl,g1⟩;obtain ⟨t,G⟩:=eX ((aM false nodes ps).1);obtain ⟨C2,H⟩:=eX ((aM false nodes ps).2);rw [<- G,<- H];have A:=aa G;have hk:=aa H;have G1:=aa g1;clear g1 G H o p d f g h;go_upto_region 2 with fail;obtain ⟨u,q⟩:=eX (w1.alloc (Obj.cells #[.int .i64 t,.int .i64 C2] 29));have j:Hid (W.grownBy u none):=by rw [q];exact ae G1 _
 have FC:Hid (∀ wx,u.grownBy wx none->wx.cell? ⟨w1.heap.size,0,none⟩=some (.int .i64 t)/\wx.cell? ⟨w1.heap.size,1,none⟩=some (.int .i64 C2)):=by
  intro wx hg;rw [q] at hg;exact ⟨hg.cell zG Z,hg.cell zG Z⟩
 rw [<- q];clear q;obtain ⟨c0,c1⟩:=FC.out u (ag _ _);have ho:w.heap.size+3<=w1.heap.size:=by have:=G1.out.size;have:=m.out;omega
 by_cases B:t=0
 ·have C:(aM false nodes ps).1=0:=by rw [<- A];exact B
  obtain ⟨r1,r2,r3,r4⟩:=eK C;have R1:=aa r1;have R2:=aa r2;have D:=aa C;have hl:(t != 0)=false:=by simp [B]
  have U:(t==0)=true:=by simp [B]
  subst B;obtain ⟨o,p,d,f,g,h⟩:=P.out u j;obtain ⟨_,⟨mm,he⟩,_⟩:=HB.out;have hm:=aa he;clear r1 r2 r3 r4 C he;go_wp2_with fail;rw [R2];refine (kD nodes.toNat R S ps mm L u ((ab s j).cell hm Z) (HP.keep (ab s j)) R1 (hj _ R1) hf hL).mono ?_;rintro e i (⟨v1,v2,V,I,rfl,p1,p2,x,p4,y⟩ | ⟨rfl,x,y⟩ | ⟨rfl,x,y⟩)
  ·have c:=aa (ab j y);have X:w.heap.size+3<=u.heap.size:=by have:=j.out.size;have:=m.out;omega
   have P1:=aa (p1.low (base':=w.heap.size+3) X);have P2:=aa (p2.low (base':=w.heap.size+3) X);obtain ⟨J,K,rfl,_⟩:=id p1;obtain ⟨M,N,rfl,_⟩:=id p2;have Y:=aa x;have P4:=aa p4;clear p1 p2 x p4 y o p d f g h c0 c1;obtain ⟨o,p,d,f,g,h⟩:=P.out i c;obtain ⟨f0,f1,f2,f3⟩:=FZ.out i c;obtain ⟨k,l⟩:=BL.out i c;have E:=aa (dU k rfl (fun z=>Z) (fun z=>Z) (.slice J nodes.toNat K) (.slice M ps.length N));have a:((i.setCell ⟨w.heap.size+1,0,none⟩ (.slice J nodes.toNat K)).setCell ⟨w.heap.size+1,1,none⟩ (.slice M ps.length N)).heap[w.heap.size+2]? = some (Obj.cells #[.int .i64 0,.int .i64 0] 29 (0,0)):=by
    rw [heap_setCell_other _ _ _ _ Z,heap_setCell_other _ _ _ _ Z];exact l
   have F:=aa (dU a rfl (fun z=>Z) (fun z=>Z) (.int .i64 0) (.int .i64 0));clear k l a;go_wp2;refine bodyPost_ret (v:=.tuple #[.agg #[.slice J nodes.toNat K,.slice M ps.length N],.agg #[.int .i64 0,.int .i64 0]]) (by simp [results,Tryz.results35,go_sem,d,f,g,h]) rfl ?_;exact .inr ⟨D,.inl ⟨_,_,V,I,rfl,((P1.keepB E O).keepB F O).low O,((P2.keepB E O).keepB F O).low O,Y,P4,aj (r:=none) (aj (r:=none) (ab s c) E.1 (fun _ _ e=>e) (fun b hb e=>by have:=zJ e;omega)) F.1 (fun _ _ e=>e) (fun b hb e=>by have:=zJ e;omega)⟩⟩
  ·have c:=aa (ab j y);have Y:=aa x;clear x y o p d f g h c0 c1;obtain ⟨o,p,d,f,g,h⟩:=P.out i c;obtain ⟨f0,f1,f2,f3⟩:=FZ.out i c;obtain ⟨k,l⟩:=BL.out i c;have E:=aa (dU k rfl (fun z=>Z) (fun z=>Z) (.slice none 0 0) (.slice none 0 0));have a:((i.setCell ⟨w.heap.size+1,0,none⟩ (.slice none 0 0)).setCell ⟨w.heap.size+1,1,none⟩ (.slice none 0 0)).heap[w.heap.size+2]? = some (Obj.cells #[.int .i64 0,.int .i64 0] 29 (0,0)):=by
    rw [heap_setCell_other _ _ _ _ Z,heap_setCell_other _ _ _ _ Z];exact l
   have F:=aa (dU a rfl (fun z=>Z) (fun z=>Z) (.int .i64 7) (.int .i64 0));clear k l a;go_wp2;refine bodyPost_ret (v:=.tuple #[.agg #[.slice none 0 0,.slice none 0 0],.agg #[.int .i64 7,.int .i64 0]]) (by simp [results,Tryz.results35,go_sem,d,f,g,h]) rfl ?_;exact .inr ⟨D,.inr (.inl ⟨rfl,Y,aj (r:=none) (aj (r:=none) (ab s c) E.1 (fun _ _ e=>e) (fun b hb e=>by have:=zJ e;omega)) F.1 (fun _ _ e=>e) (fun b hb e=>by have:=zJ e;omega)⟩)⟩
  ·have c:=aa (ab j y);have Y:=aa x;clear x y o p d f g h c0 c1;obtain ⟨o,p,d,f,g,h⟩:=P.out i c;obtain ⟨f0,f1,f2,f3⟩:=FZ.out i c;obtain ⟨k,l⟩:=BL.out i c;have E:=aa (dU k rfl (fun z=>Z) (fun z=>Z) (.slice none 0 0) (.slice none 0 0));have a:((i.setCell ⟨w.heap.size+1,0,none⟩ (.slice none 0 0)).setCell ⟨w.heap.size+1,1,none⟩ (.slice none 0 0)).heap[w.heap.size+2]? = some (Obj.cells #[.int .i64 0,.int .i64 0] 29 (0,0)):=by
    rw [heap_setCell_other _ _ _ _ Z,heap_setCell_other _ _ _ _ Z];exact l
   have F:=aa (dU a rfl (fun z=>Z) (fun z=>Z) (.int .i64 8) (.int .i64 0));clear k l a;go_wp2;refine bodyPost_ret (v:=.tuple #[.agg #[.slice none 0 0,.slice none 0 0],.agg #[.int .i64 8,.int .i64 0]]) (by simp [results,Tryz.results35,go_sem,d,f,g,h]) rfl ?_;exact .inr ⟨D,.inr (.inr ⟨rfl,Y,aj (r:=none) (aj (r:=none) (ab s c) E.1 (fun _ _ e=>e) (fun b hb e=>by have:=zJ e;omega)) F.1 (fun _ _ e=>e) (fun b hb e=>by have:=zJ e;omega)⟩)⟩
 ·have hl:(t != 0)=true:=by simp [B]
  have U:(t==0)=false:=by simp [B]
  have H0:=aa B;obtain ⟨o,p,d,f,g,h⟩:=P.out u j;obtain ⟨f0,f1,f2,f3⟩:=FZ.out u j;go_wp2;go_region
  all_goals
   go_wp2;refine bodyPost_ret (v:=.tuple #[.agg #[.slice none 0 0,.slice none 0 0],.agg #[.int .i64 t,.int .i64 C2]]) (by simp [results,Tryz.results35,go_sem,d,f,g,h]) rfl ?_;refine .inl ⟨by rw [<- A];exact H0,by rw [<- A,<- hk],?_⟩;exact ar (ah (ah (ah (ah (ab s j) _ _ (Nat.le_add_right _ 1)) _ _ (Nat.le_add_right _ 1)) _ _ (Nat.le_add_right _ 2)) _ _ (Nat.le_add_right _ 2)) 1
theorem bV.low {α:Type} {f:α->Value} {t:TypeId} {base base':Nat} {v:Value} {xs:List α} (h:bV f t w base v xs) (hb:base'<=base):bV f t w base' v xs:=by
 refine ⟨h.1,?_⟩;rcases h.2 with b | ⟨g,cap,a,e,c,d⟩
 ·exact .inl b
 ·exact .inr ⟨g,cap,a,e,Nat.le_trans hb c,d⟩
theorem xh (b:Option Addr) (c:Nat) (w:World) :
  Calls Tryz.prog 36 #[.slice b 0 c] w fun e f=>e=.returned (.slice none 0 0)/\w.grownBy f none:=by
 go_enter Tryz.func36,Tryz.ntmps36
 go_wp2;go_loopw [3,8] (fun g v wr=>Hid (g=.slice none 0 0/\v=.int .i64 0/\w.grownBy wr none)) (fun _ _ _=>0)
 case atStart=>exact ⟨rfl,rfl,ag _ _⟩
 case round =>
  obtain ⟨rfl,rfl,a⟩:=hrel.out;have d:=aa a;clear a hrel;go_wp2;go_ret;exact ⟨rfl,d⟩
theorem qT (base:Nat) (v:Value) (n:Nat) (R:Nat->Rat) (L:Nat) (w:World) (h:bW w base v n R L) (hn:n<=3000) (l:L<=49000000) (b:fh w) :
  Calls Tryz.prog 36 #[v] w fun e w'=>xC w n R e w':=by
 obtain ⟨d,c,rfl,f,i,j⟩:=h;rcases zP n with a | a
 ·subst a;refine (xh d c w).mono ?_;rintro e w' ⟨rfl,g⟩;exact ⟨_,rfl,gE,g⟩
 ·obtain ⟨g,rfl,_,k⟩:=j a;exact tell_at g n c R L w k hn f i O b
theorem bW.nil (w:World) (base:Nat) (R:Nat->Rat) (L:Nat):bW w base (.slice none 0 0) 0 R L:=⟨none,0,rfl,zL,by unfold maxLen;omega,fun h=>O⟩
def kp (nodes:Int) (ps:List aD) (c1 c2:Int) (n1 n2:Nat) (V I:Nat->Rat):Prop :=
 ((aM false nodes ps).1≠0/\c1=(aM false nodes ps).1/\c2=(aM false nodes ps).2/\n1=0/\n2=0)
 ∨ ((aM false nodes ps).1=0/\c2=0/\((c1=0/\n1=nodes.toNat/\n2=ps.length/\aE nodes.toNat ps V I/\(∀ V' I',aE nodes.toNat ps V' I'->(∀ j,j<nodes.toNat->V' j=V j)/\∀ i,i<ps.length->I' i=I i))
  ∨ (c1=7/\n1=0/\n2=0/\¬ ∃ V I,aE nodes.toNat ps V I)
  ∨ (c1=8/\n1=0/\n2=0/\∃ V I V' I',aE nodes.toNat ps V I/\aE nodes.toNat ps V' I'/\((∃ j,j<nodes.toNat/\V j≠V' j)∨∃ i,i<ps.length/\I i≠I' i))))
theorem uJ {d:World} {L:Nat} {e:Ending} (h:ChkdE w nodes ps L e d) :
  ∃ (ao1:Option Addr) (n1 cc1:Nat) (ao2:Option Addr) (n2 cc2:Nat) (c1 c2:Int) (V I:Nat->Rat),e=.returned (.tuple #[.agg #[.slice ao1 n1 cc1,.slice ao2 n2 cc2],.agg #[.int .i64 c1,.int .i64 c2]])
   /\ bW d w.heap.size (.slice ao1 n1 cc1) n1 V L/\bW d w.heap.size (.slice ao2 n2 cc2) n2 I L/\kp nodes ps c1 c2 n1 n2 V I/\w.grownBy d none:=by
 rcases h with ⟨a,rfl,i⟩ | ⟨a,(⟨v1,v2,V,I,rfl,f,g,b,j,c⟩ | ⟨rfl,b,c⟩ | ⟨rfl,b,c⟩)⟩
 ·exact ⟨none,0,0,none,0,0,_,_,fun _=>0,fun _=>0,rfl,bW.nil _ _ _ _,bW.nil _ _ _ _,.inl ⟨a,rfl,rfl,rfl,rfl⟩,i⟩
 ·obtain ⟨ao1,cc1,rfl,_⟩:=id f;obtain ⟨ao2,cc2,rfl,_⟩:=id g;exact ⟨ao1,_,cc1,ao2,_,cc2,_,_,V,I,rfl,f,g,.inr ⟨a,rfl,.inl ⟨rfl,rfl,rfl,b,j⟩⟩,c⟩
 ·exact ⟨none,0,0,none,0,0,_,_,fun _=>0,fun _=>0,rfl,bW.nil _ _ _ _,bW.nil _ _ _ _,.inr ⟨a,rfl,.inr (.inl ⟨rfl,rfl,rfl,b⟩)⟩,c⟩
 ·exact ⟨none,0,0,none,0,0,_,_,fun _=>0,fun _=>0,rfl,bW.nil _ _ _ _,bW.nil _ _ _ _,.inr ⟨a,rfl,.inr (.inr ⟨rfl,rfl,rfl,b⟩)⟩,c⟩
theorem kp.small {c1 c2:Int} {a b:Nat} {V I:Nat->Rat} (h:kp nodes ps c1 c2 a b V I):a<=8/\b<=16:=by
 rcases h with ⟨_,_,_,rfl,rfl⟩ | ⟨c,_,(⟨_,rfl,rfl,_⟩ | ⟨_,rfl,rfl,_⟩ | ⟨_,rfl,rfl,_⟩)⟩
 ·omega
 ·obtain ⟨r1,r2,d,_⟩:=eK c;have:=r1.hi;omega
 ·omega
 ·omega
theorem bW.fit {base:Nat} {v:Value} {n:Nat} {R:Nat->Rat} {L:Nat} (h:bW w base v n R L) (a:0<L):∀ j,j<n->mE (R j) L:=by
 intro j b;obtain ⟨m,c,e,o,p,f⟩:=h;obtain ⟨g,_,_,i,q,_,k⟩:=f O;obtain ⟨u,d,_,_,_,l⟩:=k j b;exact l.fit a
def SolveF (w:World) (nodes:Int) (ps:List aD) (L:Nat) (e:Ending) (w':World):Prop :=
 ∃ (c1 c2:Int) (n1 n2:Nat) (V I:Nat->Rat) (vv iv:Value),e=.returned (.tuple #[.agg #[vv,iv],.agg #[.int .i64 c1,.int .i64 c2]])/\bV sv 47 w' w.heap.size vv (aL V n1)/\bV sv 47 w' w.heap.size iv (aL I n2)/\kp nodes ps c1 c2 n1 n2 V I/\w.grownBy w' none/\(∀ j,j<n1->mE (V j) L)/\∀ i,i<n2->mE (I i) L
def SolveE (w:World) (nodes:Int) (ps:List aD) (e:Ending) (w':World):Prop :=
 ∃ (c1 c2:Int) (n1 n2:Nat) (V I:Nat->Rat) (vv iv:Value),e=.returned (.tuple #[.agg #[vv,iv],.agg #[.int .i64 c1,.int .i64 c2]])/\bV sv 47 w' w.heap.size vv (aL V n1)/\bV sv 47 w' w.heap.size iv (aL I n2)/\kp nodes ps c1 c2 n1 n2 V I/\w.grownBy w' none
theorem sH (nodes:Int) (r:Option Addr) (s:Nat) (ps:List aD) (L:Nat) (w:World) (hb:lM w) (ht:fh w) (hp:aA w (.slice r ps.length s) ps) (t:∀ n,bS n ps->fD (cr n ps) (n+ps.length)<L) (A:2<=L) (hL:L<=49000000) :
  Calls Tryz.prog 12 #[.agg #[.int .i64 nodes,.slice r ps.length s]] w fun e q=>SolveF w nodes ps L e q:=by
 have HB:=aa hb;have HT:=aa ht;have HP:=aa hp;have B:=aa t;clear hb ht hp t;obtain ⟨W,l⟩:=eX (((w.alloc (Obj.cells #[.int .i64 nodes,.slice r ps.length s] 24)).alloc (Obj.cells #[.slice none 0 0,.slice none 0 0] 41)).alloc (Obj.cells #[.int .i64 0,.int .i64 0] 29));have C:Hid (w.grownBy W none):=by rw [l];exact ae (ae (ae (ag _ _) _) _) _
 have a:Hid (W.heap.size=w.heap.size+3):=by show _=_;rw [l];simp
 have NC:Hid (W.cell? ⟨w.heap.size,0,none⟩=some (.int .i64 nodes)/\W.cell? ⟨w.heap.size,1,none⟩=some (.slice r ps.length s)):=by
  rw [l];exact ⟨zG,zG⟩
 have BL:Hid (∀ wx,W.grownBy wx none->wx.heap[w.heap.size+1]? = some (Obj.cells #[.slice none 0 0,.slice none 0 0] 41 (0,0))/\wx.heap[w.heap.size+2]? = some (Obj.cells #[.int .i64 0,.int .i64 0] 29 (0,0))):=by
  intro wx hg;rw [hg.block (w.heap.size+1) (by rw [a];omega) Z,hg.block (w.heap.size+2) (by rw [a];omega) Z,l];exact qj w _ _ _
 obtain ⟨a0,a1⟩:=NC.out;go_enter Tryz.func12,Tryz.ntmps12
 go_upto_region 1 with fail;rw [<- l];clear l;go_wp2_with fail;refine (pX nodes r s ps L W (HB.keep C) (HP.keep C) B A O).mono ?_;intro e w1 z;obtain ⟨f,m,g,h,o,i,c1,c2,V,I,rfl,p1,p2,K,g1⟩:=uJ z;have P1:=aa p1;have P2:=aa p2;have P3:=aa K;have hn:=K.small;have hl:=hn.1;have hm:=hn.2;have u:=aa g1;clear p1 p2 K g1 z hn a0 a1;go_upto_region 2 with fail;obtain ⟨b,j⟩:=eX ((w1.alloc (Obj.cells #[.slice f m g,.slice h o i] 78)).alloc (Obj.cells #[.int .i64 c1,.int .i64 c2] 29));have D:Hid (w1.grownBy b none):=by rw [j];exact ae (ae (ag _ _) _) _
 obtain ⟨k,c⟩:=eX w1.heap.size;obtain ⟨p,d⟩:=eX (w1.heap.size+1);have E:Hid (∀ wx,b.grownBy wx none->wx.cell? ⟨k,0,none⟩=some (.slice f m g)/\wx.cell? ⟨k,1,none⟩=some (.slice h o i)/\wx.cell? ⟨p,0,none⟩=some (.int .i64 c1)/\wx.cell? ⟨p,1,none⟩=some (.int .i64 c2)):=by
  intro wx hg;rw [j] at hg;rw [c,d];exact ⟨hg.cell zG Z,hg.cell zG Z,hg.cell zG Z,hg.cell zG Z⟩
 have F:Hid (W.grownBy b none):=ab u D;have G:Hid (w.grownBy b none):=ab C F;have x:Hid (w.heap.size+3<=b.heap.size):=by show _<=_;have:=F.out.size;have:=a.out;omega
 have RX:Hid (∀ wx,b.grownBy wx none->(wx.cell? ⟨w.heap.size+1,0,none⟩=some (.slice none 0 0)/\wx.cell? ⟨w.heap.size+1,1,none⟩=some (.slice none 0 0)/\wx.cell? ⟨w.heap.size+2,0,none⟩=some (.int .i64 0)/\wx.cell? ⟨w.heap.size+2,1,none⟩=some (.int .i64 0))/\(wx.frozen? ⟨w.heap.size+1,0,none⟩=false/\wx.frozen? ⟨w.heap.size+1,1,none⟩=false/\wx.frozen? ⟨w.heap.size+2,0,none⟩=false/\wx.frozen? ⟨w.heap.size+2,1,none⟩=false)):=by
  intro wx hg;obtain ⟨b1,b2⟩:=BL.out wx (ab F hg);refine ⟨⟨?_,?_,?_,?_⟩,?_,?_,?_,?_⟩<;>simp [World.cell?,World.frozen?,b1,b2]
 have ho:w.heap.size+1≠k:=by rw [c];have:=u.out.size;have:=a.out;omega
 have hq:w.heap.size+1≠p:=by rw [d];have:=u.out.size;have:=a.out;omega
 have hr:w.heap.size+2≠k:=by rw [c];have:=u.out.size;have:=a.out;omega
 have hs:w.heap.size+2≠p:=by rw [d];have:=u.out.size;have:=a.out;omega
 rw [<- j];try rw [<- d]
 try rw [<- c]
 have H:=aa (P1.keep0 D);have J:=aa (P2.keep0 D);clear j c d;have GG:b.grownBy b none:=ag _ _;obtain ⟨s0,s1,s2,s3⟩:=E.out b GG;obtain ⟨⟨y0,y1,y2,y3⟩,⟨q0,q1,q2,q3⟩⟩:=RX.out b GG;go_region_held3 (fun q=>q.cell? ⟨k,0,none⟩=some (.slice f m g)/\q.cell? ⟨k,1,none⟩=some (.slice h o i)/\q.cell? ⟨p,0,none⟩=some (.int .i64 c1)/\q.cell? ⟨p,1,none⟩=some (.int .i64 c2)) (go_keep)
  (first | (go_at_call_of 36 (Value.slice f m g);refine (qT _ _ _ V L _ (H.keep0 zF) O hL (HT.keep0 (ab G zF))).mono ?_;rintro e M ⟨va,rfl,pa,k⟩;obtain ⟨N,P,rfl⟩:=pa.shape;have pa:=pa.low (base':=w.heap.size+3) (Nat.le_trans x GG.size);rw [bd] at pa ⊢;have y:=ab zQ k;(try have pb:=pb.keep0 y);clear y;have GG:b.grownBy M none:=ab zF k;obtain ⟨hu,hv,hw,hx⟩:=E.out M GG;obtain ⟨⟨Q,R,S,T⟩,⟨hy,hz,hA,hB⟩⟩:=RX.out M GG) | (go_at_call_of 36 (Value.slice h o i);refine (qT _ _ _ I L _ (J.keep0 zF) O hL (HT.keep0 (ab G zF))).mono ?_;rintro e U ⟨vb,rfl,pb,gb⟩;obtain ⟨X,Y,rfl⟩:=pb.shape;have pb:=pb.low (base':=w.heap.size+3) (Nat.le_trans x GG.size);rw [bd] at pb ⊢;have y:=ab zQ gb;(try have pa:=pa.keep0 y);clear y;have GG:b.grownBy U none:=ab zF gb;obtain ⟨hC,hD,hE,hF⟩:=E.out U GG;obtain ⟨⟨he,hf,hj,hk⟩,⟨hG,hH,hI,hK⟩⟩:=RX.out U GG))
 all_goals
  have PA:=aa pa;have PB:=aa pb;have GF:=aa GG;clear pa pb GG;go_wp2;refine bodyPost_ret (v:=.tuple #[.agg #[.slice N m P,.slice X o Y],.agg #[.int .i64 c1,.int .i64 c2]]) (by simp [results,Tryz.results12,go_sem,Q,R,S,T,he,hf,hj,hk]) rfl ?_;exact ⟨c1,c2,m,o,V,I,_,_,rfl,((((PA.keepB (bR _ _ _ _) O).keepB (bR _ _ _ _) O).keepB (bR _ _ _ _) O).keepB (bR _ _ _ _) O).low O,((((PB.keepB (bR _ _ _ _) O).keepB (bR _ _ _ _) O).keepB (bR _ _ _ _) O).keepB (bR _ _ _ _) O).low O,P3,ah (ah (ah (ah (ab G GF) _ _ (Nat.le_add_right _ 1)) _ _ (Nat.le_add_right _ 1)) _ _ (Nat.le_add_right _ 2)) _ _ (Nat.le_add_right _ 2),P1.fit O,P2.fit O⟩
theorem Ev (nodes:Int) (a:Option Addr) (b:Nat) (ps:List aD) (L:Nat) (w:World) (hb:lM w) (f:fh w) (g:aA w (.slice a ps.length b) ps) (c:∀ n,bS n ps->fD (cr n ps) (n+ps.length)<L) (d:2<=L) (h:L<=49000000) :
  Calls Tryz.prog 12 #[.agg #[.int .i64 nodes,.slice a ps.length b]] w fun e w'=>SolveE w nodes ps e w':=by
 refine (sH nodes a b ps L w hb f g c d h).mono ?_;rintro e w' ⟨c1,c2,i,j,V,I,k,iv,l,m,o,p,q,_⟩;exact ⟨c1,c2,i,j,V,I,k,iv,l,m,o,p,q⟩
def fw (w:World) (b:Nat) (x y:Int):Prop:=w.heap[b]? = some (Obj.cells #[.int .i64 x,.int .i64 y] 29 (0,0))
theorem fw.lt {b:Nat} {x y:Int} (h:fw w b x y):b<w.heap.size:=(zZ h).1
theorem fw.keep0 {a:World} {b:Nat} {x y:Int} (h:fw w b x y) (g:w.grownBy a none):fw a b x y:=by
 have c:=h.lt;unfold fw at h ⊢;rw [g.block b c Z];exact h
theorem fw.cells {b:Nat} {x y:Int} (h:fw w b x y):w.cell? ⟨b,0,none⟩=some (.int .i64 x)/\w.cell? ⟨b,1,none⟩=some (.int .i64 y)/\w.frozen? ⟨b,0,none⟩=false/\w.frozen? ⟨b,1,none⟩=false:=by
 unfold fw at h;refine ⟨?_,?_,?_,?_⟩<;>simp [World.cell?,World.frozen?,h]
theorem fw.set {b:Nat} {x y:Int} (h:fw w b x y) (u v:Int):fw ((w.setCell ⟨b,0,none⟩ (.int .i64 u)).setCell ⟨b,1,none⟩ (.int .i64 v)) b u v/\aO w ((w.setCell ⟨b,0,none⟩ (.int .i64 u)).setCell ⟨b,1,none⟩ (.int .i64 v)) b:=by
 refine ⟨?_,dU h rfl (fun z=>Z) (fun z=>Z) _ _⟩;unfold fw at h ⊢;have a:=heap_setCell_same w b 0 _ _ (.int .i64 u) h;have c:=heap_setCell_same (w.setCell ⟨b,0,none⟩ (.int .i64 u)) b 1 _ _ (.int .i64 v) a;rw [c];simp
def SeenE (w:World) (nodes:Int) (ps:List aD) (a b:Int) (e:Ending) (w':World):Prop :=
 ∃ (s1 s2:ByteArray) (c1 c2:Int),e=.returned (.tuple #[.string s1,.string s2,.agg #[.int .i64 c1,.int .i64 c2]])/\w.grownBy w' none /\
  (((aM false nodes ps).1≠0/\s1=⟨#[]⟩/\s2=⟨#[]⟩/\c1=(aM false nodes ps).1/\c2=(aM false nodes ps).2)
  ∨ ((aM false nodes ps).1=0/\(cH nodes.toNat ps.length a b).1≠0/\s1=⟨#[]⟩/\s2=⟨#[]⟩/\c1=(cH nodes.toNat ps.length a b).1/\c2=(cH nodes.toNat ps.length a b).2)
  ∨ ((aM false nodes ps).1=0/\(cH nodes.toNat ps.length a b).1=0/\c2=0/\s1=⟨#[]⟩/\s2=⟨#[]⟩/\((c1=7/\¬ ∃ V I,aE nodes.toNat ps V I)∨(c1=8/\∃ V I V' I',aE nodes.toNat ps V I/\aE nodes.toNat ps V' I'/\((∃ j,j<nodes.toNat/\V j≠V' j)∨∃ i,i<ps.length/\I i≠I' i))))
  ∨ ((aM false nodes ps).1=0/\(cH nodes.toNat ps.length a b).1=0/\c1=0/\c2=0/\∃ V I U J,aE nodes.toNat ps V I/\(∀ V' I',aE nodes.toNat ps V' I'->(∀ j,j<nodes.toNat->V' j=V j)/\∀ i,i<ps.length->I' i=I i)
    /\ aE nodes.toNat (aW ps a b) U J/\(∀ V' I',aE nodes.toNat (aW ps a b) V' I'->(∀ j,j<nodes.toNat->V' j=U j)/\∀ i,i<ps.length+1->I' i=J i)
    /\ s1=⟨(bZ (V a.toNat-V b.toNat)).toArray⟩/\s2=⟨(bZ (U a.toNat-U b.toNat)).toArray⟩))
theorem tp {n k:Nat} {a b:Int} (h:(cH n k a b).1=0):(0<=a/\a<(n:Int))/\(0<=b/\b<(n:Int))/\(cH n k a b).2=0:=by
 unfold cH at h ⊢;split at h
 ·have c:(4:Int)=0:=h;omega
 ·rename_i d;split at h
  ·have c:(4:Int)=0:=h;omega
  ·rename_i e;rw [if_neg d,if_neg e];exact ⟨O,O,rfl⟩
theorem Ar (nodes:Int) (po:Option Addr) (pc:Nat) (ps:List aD) (a b:Int) (L:Nat) (w:World) (hb:lM w) (ht:fh w) (hp:aA w (.slice po ps.length pc) ps) (hx:∀ n,bS n ps->fD (cr n ps) (n+ps.length)<L) (hy:∀ n,bS n ps->fD (cr n (aW ps a b)) (n+(ps.length+1))<L) (hz:2<=L) (hL:L<=4000000) :
  Calls Tryz.prog 22 #[.agg #[.int .i64 nodes,.slice po ps.length pc],.int .i64 a,.int .i64 b] w fun e w'=>SeenE w nodes ps a b e w':=by
 have HB:=aa hb;have HT:=aa ht;have HP:=aa hp;have kl:=aa hx;have kn:=aa hy;obtain ⟨_,⟨mm,hM⟩,_⟩:=id hb;have hA:=aa hM;clear hb ht hp hx hy hM;obtain ⟨c,Y⟩:=eX (w.heap.size+1);obtain ⟨W,hW⟩:=eX ((w.alloc (Obj.cells #[.int .i64 nodes,.slice po ps.length pc] 24)).alloc (Obj.cells #[.int .i64 0,.int .i64 0] 29));have GW:Hid (w.grownBy W none):=by rw [hW];exact ae (ae (ag _ _) _) _
 have yo:Hid (W.heap.size=w.heap.size+2):=by show _=_;rw [hW];simp
 have NC:Hid (∀ wx,W.grownBy wx (some c)->wx.cell? ⟨w.heap.size,0,none⟩=some (.int .i64 nodes)/\wx.cell? ⟨w.heap.size,1,none⟩=some (.slice po ps.length pc)):=by
  intro wx hg;rw [hW] at hg;have s:some w.heap.size≠some c:=fun e=>by have:=zJ e;omega
  exact ⟨hg.cell zG s,hg.cell zG s⟩
 have F0:Hid (fw W c 0 0):=by
  show fw _ _ _ _
  unfold fw;rw [Y,hW];have:=heap_alloc_new (w.alloc (Obj.cells #[.int .i64 nodes,.slice po ps.length pc] 24)) (Obj.cells #[.int .i64 0,.int .i64 0] 29);simpa using this
 have y:=aa Y;obtain ⟨n0,s⟩:=NC.out W (ag _ _);go_enter Tryz.func22,Tryz.ntmps22
 go_upto_region 1 with fail;rw [<- hW];try rw [<- Y]
 clear hW Y;go_wp2_with fail;refine (rG nodes _ ps W (HB.keep GW) (HP.keep GW)).mono ?_;rintro e w1 ⟨rfl,u⟩;obtain ⟨C1,hr⟩:=eX ((aM false nodes ps).1);obtain ⟨C2,hs⟩:=eX ((aM false nodes ps).2);rw [<- hr,<- hs];have hj:=aa hr;have ko:=aa hs;have G1:=aa u;have F1:=aa (F0.keep0 u);obtain ⟨c0,c1,c2,c3⟩:=F1.out.cells;clear u hr hs n0 s;go_upto_region 2 with fail;have Q:Hid (∀ wx,W.grownBy wx (some c)->w.grownBy wx none):=fun wx hg=>aj (r:=none) GW hg (fun _ _ e=>e) (fun k hk e=>by have:=zJ e;have:=y.out;omega)
 obtain ⟨f2,r2⟩:=F1.out.set C1 C2;obtain ⟨w2,hN⟩:=eX ((w1.setCell ⟨c,0,none⟩ (.int .i64 C1)).setCell ⟨c,1,none⟩ (.int .i64 C2));rw [<- hN] at f2 r2 ⊢;have F2:=aa f2;have G2:Hid (W.grownBy w2 (some c)):=aj (r:=some c) G1 r2.1 nofun (fun _ _ e=>e);clear f2 r2 hN c0 c1 c2 c3 F1;obtain ⟨c0,c1,c2,c3⟩:=F2.out.cells;have yv:Hid (W.heap.size<=w2.heap.size):=G2.out.size;by_cases h0:C1=0
 ·have hl:(aM false nodes ps).1=0:=by rw [<- hj];exact h0
  obtain ⟨r1,r2,r3,_⟩:=eK hl;obtain ⟨n,rfl⟩:∃ n:Nat,nodes=(n:Int):=⟨_,r2⟩;rw [Int.toNat_natCast] at r1;have HR:=aa r1;have R:=aa hl;subst h0;clear r1 r2 hl;obtain ⟨n0,s⟩:=NC.out w2 G2;go_wp2_with fail;refine (ends_at n ps.length po pc a b w2 O).mono ?_;rintro e w3 ⟨rfl,g3⟩;obtain ⟨E1,hu⟩:=eX ((cH n ps.length a b).1);obtain ⟨E2,hv⟩:=eX ((cH n ps.length a b).2);rw [<- hu,<- hv];have hm:=aa hu;have ks:=aa hv;have F3:=aa (F2.keep0 g3);have G3:Hid (W.grownBy w3 (some c)):=aj (r:=some c) G2 g3 (fun _ _ e=>e) nofun;clear g3 hu hv n0 s c0 c1 c2 c3 F2 G2;obtain ⟨c0,c1,c2,c3⟩:=F3.out.cells;go_upto_region 5 with fail;obtain ⟨f4,r4⟩:=F3.out.set E1 E2;obtain ⟨w4,hQ⟩:=eX ((w3.setCell ⟨c,0,none⟩ (.int .i64 E1)).setCell ⟨c,1,none⟩ (.int .i64 E2));rw [<- hQ] at f4 r4 ⊢;have S:=aa f4;have G4:Hid (W.grownBy w4 (some c)):=aj (r:=some c) G3 r4.1 (fun _ _ e=>e) (fun _ _ e=>e);clear f4 r4 hQ c0 c1 c2 c3 F3;obtain ⟨c0,c1,c2,c3⟩:=S.out.cells;by_cases C:E1=0
  ·have ho:(cH n ps.length a b).1=0:=by rw [<- hm];exact C
   obtain ⟨q1,q2,q3⟩:=tp ho;obtain ⟨i,rfl⟩:∃ i:Nat,a=(i:Int):=⟨a.toNat,O⟩;obtain ⟨j,rfl⟩:∃ j:Nat,b=(j:Int):=⟨b.toNat,O⟩;have hB:i<n:=O
   have hC:j<n:=O
   have hq:=aa ho;have HQ:=aa (qC HR O q1 q2);subst C;clear ho q1 q2 q3;obtain ⟨n0,s⟩:=NC.out w4 G4;have ku:Hid (c<w4.heap.size):=S.out.lt;go_wp2_with fail;refine (kD n po pc ps mm L w4 ((Q w4 G4).cell hA Z) (HP.keep (Q w4 G4)) HR (kl n HR) hz O).mono ?_;rintro e z (⟨v1,v2,V,I,rfl,p1,p2,q,p4,d⟩ | ⟨rfl,q,d⟩ | ⟨rfl,q,d⟩)
   ·obtain ⟨jo,h,rfl,kH,hR,hS⟩:=id p1;obtain ⟨l,m,rfl,jp,kN,_⟩:=id p2;have hD:0<n:=O
    obtain ⟨u,rfl,js,hT⟩:=hS hD;have P3:=aa q;have P4:=aa p4;have hE:=aa (mh (uV q p4) (i:Int) (j:Int));have T:=aa ((S.keep0 d).keep0 (ae (ag _ none) (Obj.cells #[.slice (some ⟨u,0,none⟩) n h,.slice l ps.length m] 78)));have G5:Hid (W.grownBy (z.alloc (Obj.cells #[.slice (some ⟨u,0,none⟩) n h,.slice l ps.length m] 78)) (some c)):=aj (r:=some c) G4 (ab d (ae (ag _ none) _)) (fun _ _ e=>e) nofun;clear n0 s c0 c1 c2 c3;obtain ⟨c0,c1,c2,c3⟩:=T.out.cells;have D:c≠z.heap.size:=by have:=S.out.lt;have:=d.size;omega
    go_upto_region 8 with fail;obtain ⟨G,x⟩:=T.out.set 0 0;obtain ⟨o,p⟩:=eX (((z.alloc (Obj.cells #[.slice (some ⟨u,0,none⟩) n h,.slice l ps.length m] 78)).setCell ⟨c,0,none⟩ (.int .i64 0)).setCell ⟨c,1,none⟩ (.int .i64 0));rw [<- p] at G x ⊢;have X:=aa G;have R6:=aa x;have G6:Hid (W.grownBy o (some c)):=aj (r:=some c) G5 x.1 (fun _ _ e=>e) (fun _ _ e=>e);clear G x p c0 c1 c2 c3;obtain ⟨c0,c1,c2,c3⟩:=X.out.cells;have kw:Hid (aI o u n V L):=(hT.keep0 (ae (ag _ none) _)).keep R6.1 R6.2 (fun e=>by have:=zJ e;have:=ku.out;omega);have hF:=aa hR;have CA:Hid (o.cell? ⟨z.heap.size,0,none⟩=some (.slice (some ⟨u,0,none⟩) n h)/\o.cell? ⟨z.heap.size,1,none⟩=some (.slice l ps.length m)):=by
     have s:some z.heap.size≠some c:=fun e=>D (zJ e).symm
     exact ⟨R6.1.cell zG s,R6.1.cell zG s⟩
    obtain ⟨N,hw⟩:=eX z.heap.size;rw [<- hw] at CA ⊢;have ky:Hid (N≠c/\N<o.heap.size):=⟨by rw [hw];exact fun e=>D e.symm,cJ CA.1⟩;clear p1 p2 q p4 d hS hT T G5 R6 hw D;unfold maxLen at hR kN;obtain ⟨n0,s⟩:=NC.out o G6;go_wp2_with fail;refine (BK n po pc ps (i:Int) (j:Int) o (HP.keep (Q o G6)) O).mono ?_;rintro e w7 ⟨qo,qc,rfl,q1,g7⟩;have Q1:=aa q1;have G7:=aa g7;have hG:(aW ps (i:Int) (j:Int)).length=ps.length+1:=by simp [aW]
    have E:=aa hG;clear q1 g7 hG n0 s c0 c1 c2 c3;go_wp2_with fail;rw [<- E];refine (kD n qo qc (aW ps (i:Int) (j:Int)) mm L w7 ((ab (Q o G6) G7).cell hA Z) (by rw [E];exact Q1) HQ (by rw [E];exact kn n HR) hz O).mono ?_;rintro e w8 (⟨u1,u2,U,J,rfl,p1,p2,q,p4,d⟩ | ⟨rfl,q,d⟩ | ⟨rfl,q,d⟩)
    ·obtain ⟨jv,H,rfl,kS,hX,hY⟩:=id p1;obtain ⟨K,M,rfl,mc,qa,_⟩:=id p2;obtain ⟨g2,rfl,md,ka⟩:=hY hD;have U3:=aa q;have U4:=aa p4;have hH:=aa hX;have G8:=aa (ab G7 d);rw [E];clear p1 p2 q p4 d hY;unfold maxLen at hX qa;go_upto_region 11 with fail;obtain ⟨g,he⟩:=eX ((w8.alloc (Obj.cells #[.slice (some ⟨g2,0,none⟩) n H,.slice K (ps.length+1) M] 78)).alloc (Obj.cells #[.int .i64 0,.int .i64 0] 29));obtain ⟨P,hf⟩:=eX w8.heap.size;have hI:Hid (w8.grownBy g none):=by rw [he];exact ae (ae (ag _ _) _) _
     have G9:Hid (o.grownBy g none):=ab G8 hI;have CB:Hid (g.cell? ⟨P,0,none⟩=some (.slice (some ⟨g2,0,none⟩) n H)/\g.cell? ⟨P,1,none⟩=some (.slice K (ps.length+1) M)):=by
      rw [he,hf];exact ⟨zG,zG⟩
     have kz:Hid (aI g g2 n U L):=ka.keep0 hI;have kF:Hid (aI g u n V L):=kw.out.keep0 G9;have F9:Hid (fw g c 0 0):=X.out.keep0 G9;have GA:Hid (w.grownBy g none):=ab (Q o G6) G9;have CZ:Hid (∀ wx,g.grownBy wx none->wx.cell? ⟨N,0,none⟩=some (.slice (some ⟨u,0,none⟩) n h)/\wx.cell? ⟨N,1,none⟩=some (.slice l ps.length m)/\wx.cell? ⟨P,0,none⟩=some (.slice (some ⟨g2,0,none⟩) n H)/\wx.cell? ⟨P,1,none⟩=some (.slice K (ps.length+1) M)):=by
      intro wx hg;exact ⟨hg.cell (G9.cell CA.1 Z) Z,hg.cell (G9.cell CA.2 Z) Z,hg.cell CB.1 Z,hg.cell CB.2 Z⟩
     have CF:Hid (∀ wx,g.grownBy wx none->wx.cell? ⟨c,0,none⟩=some (.int .i64 0)/\wx.cell? ⟨c,1,none⟩=some (.int .i64 0)/\wx.frozen? ⟨c,0,none⟩=false/\wx.frozen? ⟨c,1,none⟩=false):=fun wx hg=>(F9.keep0 hg).cells
     have jc:c≠P:=by rw [hf];have:=(X.keep0 G8).lt;omega
     have jl:c≠N:=fun e=>ky.1 e.symm
     rw [<- he];try rw [<- hf]
     clear he hf ka;have GG:g.grownBy g none:=ag _ _;obtain ⟨s0,s1,s2,s3⟩:=CZ.out g GG;obtain ⟨y0,y1,y2,y3⟩:=CF.out g GG;go_region_held3 (fun w'=>w'.cell? ⟨N,0,none⟩=some (.slice (some ⟨u,0,none⟩) n h)/\w'.cell? ⟨N,1,none⟩=some (.slice l ps.length m)/\w'.cell? ⟨P,0,none⟩=some (.slice (some ⟨g2,0,none⟩) n H)/\w'.cell? ⟨P,1,none⟩=some (.slice K (ps.length+1) M)) (go_keep)
      (first | (go_at_call_of 37 (Value.agg #[.slice (some ⟨u,0,none⟩) n h,.slice l ps.length m]);refine (ma u n h l ps.length m V i j L _ (kF.keep0 zF) hB hC kH hF O).mono ?_;rintro e wa ⟨va,rfl,pa,N⟩;obtain ⟨qb,qf,ql,kb,kc,ke,rfl⟩:=pa.shape;have F:=ab zQ N;(try have pb:=pb.keep0 F);clear F;have GG:g.grownBy wa none:=ab zF N;obtain ⟨ml,mo,mp,ms⟩:=CZ.out wa GG) | (go_at_call 37;refine (ma g2 n H K (ps.length+1) M U i j L _ (kz.keep0 zF) hB hC kS hH O).mono ?_;rintro e wb ⟨vb,rfl,pb,P⟩;obtain ⟨qq,qs,ya,kf,kg,kk,rfl⟩:=pb.shape;have F:=ab zQ P;(try have pa:=pa.keep0 F);clear F;have GG:g.grownBy wb none:=ab zF P;obtain ⟨mt,Ha,Hb,Hc⟩:=CZ.out wb GG) | (go_at_call_of 39 (Value.agg #[.bool (rB (V i-V j)),.slice qb qf ql,.slice kb kc ke]);refine (zt _ (V i-V j) (L+L+2) _ (pa.keep0 zQ) O (HT.keep0 (ab GA zF))).mono ?_;rintro e wc ⟨rfl,gc⟩;have F:=ab zQ gc;(try have pb:=pb.keep0 F);clear F;have GG:g.grownBy wc none:=ab zF gc;obtain ⟨Hd,He,Hf,Hg⟩:=CZ.out wc GG;obtain ⟨yb,yc,Hh,Hi⟩:=CF.out wc GG) | (go_at_call_of 39 (Value.agg #[.bool (rB (U i-U j)),.slice qq qs ya,.slice kf kg kk]);refine (zt _ (U i-U j) (L+L+2) _ (pb.keep0 zQ) O (HT.keep0 (ab GA zF))).mono ?_;rintro e wd ⟨rfl,gd⟩;have F:=ab zQ gd;(try have pa:=pa.keep0 F);clear F;have GG:g.grownBy wd none:=ab zF gd;obtain ⟨Hj,Hk,Hl,Hm⟩:=CZ.out wd GG;obtain ⟨yl,yn,Hn,Ho⟩:=CF.out wd GG))
     all_goals
      have GF:=aa GG;have f:=(F9.keep0 GG).set 0 0;have GS:=aa f;clear GG f;go_wp2;refine bodyPost_ret (v:=.tuple #[.string ⟨(bZ (V i-V j)).toArray⟩,.string ⟨(bZ (U i-U j)).toArray⟩,.agg #[.int .i64 0,.int .i64 0]]) (by simp [results,Tryz.results22,go_sem,y0,y1,yb,yc,yl,yn]) rfl ?_;refine ⟨_,_,_,_,rfl,(aj (r:=none) (ab GA GF) (by first | exact GS.2.1 | exact ar GS.2.1 1) (fun _ _ e=>e) (fun k hk e=>by have:=zJ e;have:=y.out;omega)),.inr (.inr (.inr ⟨R,?_,rfl,rfl,V,I,U,J,?_⟩))⟩
      ·rw [Int.toNat_natCast];exact hq
      ·simp only [Int.toNat_natCast];refine ⟨P3,P4,U3,?_,by first | rfl | trivial,by first | rfl | trivial⟩;have:=U4.out;rw [E] at this;exact this
    ·exfalso
     obtain ⟨V',I',h1,_⟩:=gU HQ hE;exact q ⟨V',I',h1⟩
    ·exfalso
     obtain ⟨V',I',h1,h2⟩:=gU HQ hE;obtain ⟨A,B,A',B',k1,k2,k3⟩:=q;have e1:=h2 _ _ k1;have e2:=h2 _ _ k2;rcases k3 with ⟨t,ht,hne⟩ | ⟨t,ht,hne⟩
     ·exact hne (by rw [e1.1 t ht,e2.1 t ht])
     ·exact hne (by rw [e1.2 t ht,e2.2 t ht])
   ·have P3:=aa q;have T:=aa ((S.keep0 d).keep0 (ae (ag _ none) (Obj.cells #[.slice none 0 0,.slice none 0 0] 78)));have G5:Hid (W.grownBy (z.alloc (Obj.cells #[.slice none 0 0,.slice none 0 0] 78)) (some c)):=aj (r:=some c) G4 (ab d (ae (ag _ none) _)) (fun _ _ e=>e) nofun;clear n0 s c0 c1 c2 c3;obtain ⟨c0,c1,c2,c3⟩:=T.out.cells;have D:c≠z.heap.size:=by have:=S.out.lt;have:=d.size;omega
    go_upto_region 8 with fail;obtain ⟨G,x⟩:=T.out.set 7 0;obtain ⟨o,p⟩:=eX (((z.alloc (Obj.cells #[.slice none 0 0,.slice none 0 0] 78)).setCell ⟨c,0,none⟩ (.int .i64 7)).setCell ⟨c,1,none⟩ (.int .i64 0));rw [<- p] at G x ⊢;have X:=aa G;have R6:=aa x;have G6:Hid (W.grownBy o (some c)):=aj (r:=some c) G5 x.1 (fun _ _ e=>e) (fun _ _ e=>e);clear G x p c0 c1 c2 c3;obtain ⟨c0,c1,c2,c3⟩:=X.out.cells;clear q d;go_wp2;go_region
    all_goals
     go_wp2;refine bodyPost_ret (v:=.tuple #[.string ⟨#[]⟩,.string ⟨#[]⟩,.agg #[.int .i64 7,.int .i64 0]]) (by simp [results,Tryz.results22,go_sem,c0,c1]) rfl ?_;have f:=X.out.set 7 0;exact ⟨_,_,_,_,rfl,(aj (r:=none) (Q o G6) (by first | exact f.2.1 | exact ar f.2.1 1 | exact aj (r2:=none) f.2.1 aX (fun _ _ e=>e) nofun) (fun _ _ e=>e) (fun k hk e=>by have:=zJ e;have:=y.out;omega)),.inr (.inr (.inl ⟨R,by rw [Int.toNat_natCast];exact hq,rfl,rfl,rfl,.inl ⟨rfl,by rw [Int.toNat_natCast];exact P3⟩⟩))⟩
   ·have P3:=aa q;have T:=aa ((S.keep0 d).keep0 (ae (ag _ none) (Obj.cells #[.slice none 0 0,.slice none 0 0] 78)));have G5:Hid (W.grownBy (z.alloc (Obj.cells #[.slice none 0 0,.slice none 0 0] 78)) (some c)):=aj (r:=some c) G4 (ab d (ae (ag _ none) _)) (fun _ _ e=>e) nofun;clear n0 s c0 c1 c2 c3;obtain ⟨c0,c1,c2,c3⟩:=T.out.cells;have D:c≠z.heap.size:=by have:=S.out.lt;have:=d.size;omega
    go_upto_region 8 with fail;obtain ⟨G,x⟩:=T.out.set 8 0;obtain ⟨o,p⟩:=eX (((z.alloc (Obj.cells #[.slice none 0 0,.slice none 0 0] 78)).setCell ⟨c,0,none⟩ (.int .i64 8)).setCell ⟨c,1,none⟩ (.int .i64 0));rw [<- p] at G x ⊢;have X:=aa G;have R6:=aa x;have G6:Hid (W.grownBy o (some c)):=aj (r:=some c) G5 x.1 (fun _ _ e=>e) (fun _ _ e=>e);clear G x p c0 c1 c2 c3;obtain ⟨c0,c1,c2,c3⟩:=X.out.cells;clear q d;go_wp2;go_region
    all_goals
     go_wp2;refine bodyPost_ret (v:=.tuple #[.string ⟨#[]⟩,.string ⟨#[]⟩,.agg #[.int .i64 8,.int .i64 0]]) (by simp [results,Tryz.results22,go_sem,c0,c1]) rfl ?_;have f:=X.out.set 8 0;exact ⟨_,_,_,_,rfl,(aj (r:=none) (Q o G6) (by first | exact f.2.1 | exact ar f.2.1 1 | exact aj (r2:=none) f.2.1 aX (fun _ _ e=>e) nofun) (fun _ _ e=>e) (fun k hk e=>by have:=zJ e;have:=y.out;omega)),.inr (.inr (.inl ⟨R,by rw [Int.toNat_natCast];exact hq,rfl,rfl,rfl,.inr ⟨rfl,by rw [Int.toNat_natCast];exact P3⟩⟩))⟩
  ·have hne:(E1 != 0)=true:=by simp [C]
   have hK:(E1==0)=false:=by simp [C]
   have H0:=aa C;go_wp2;go_region
   all_goals
    go_wp2;refine bodyPost_ret (v:=.tuple #[.string ⟨#[]⟩,.string ⟨#[]⟩,.agg #[.int .i64 E1,.int .i64 E2]]) (by simp [results,Tryz.results22,go_sem,c0,c1]) rfl ?_;have f:=S.out.set E1 E2;refine ⟨_,_,_,_,rfl,(aj (r:=none) (Q w4 G4) (by first | exact f.2.1 | exact ar f.2.1 1 | exact aj (r2:=none) f.2.1 aX (fun _ _ e=>e) nofun) (fun _ _ e=>e) (fun k hk e=>by have:=zJ e;have:=y.out;omega)),.inr (.inl ⟨R,by rw [Int.toNat_natCast,<- hm];exact H0,rfl,rfl,by rw [Int.toNat_natCast,<- hm],by rw [Int.toNat_natCast,<- ks]⟩)⟩
 ·have hne:(C1 != 0)=true:=by simp [h0]
  have hK:(C1==0)=false:=by simp [h0]
  have H0:=aa h0;go_wp2;go_region
  all_goals
   go_wp2;refine bodyPost_ret (v:=.tuple #[.string ⟨#[]⟩,.string ⟨#[]⟩,.agg #[.int .i64 C1,.int .i64 C2]]) (by simp [results,Tryz.results22,go_sem,c0,c1]) rfl ?_;have f:=F2.out.set C1 C2;refine ⟨_,_,_,_,rfl,(aj (r:=none) (Q w2 G2) (by first | exact f.2.1 | exact ar f.2.1 1 | exact aj (r2:=none) f.2.1 aX (fun _ _ e=>e) nofun) (fun _ _ e=>e) (fun k hk e=>by have:=zJ e;have:=y.out;omega)),.inl ⟨by rw [<- hj];exact H0,rfl,rfl,by rw [<- hj],by rw [<- ko]⟩⟩
end Go.Proofs.YtbfohfjobncehaaGreatDoor
