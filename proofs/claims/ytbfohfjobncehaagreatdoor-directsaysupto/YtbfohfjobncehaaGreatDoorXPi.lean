/- Contracts. -/
import Derived.Test.YtbfohfjobncehaaGreatDoorXPh
import Derived.Laws.CopyOwn
namespace Go.Proofs.YtbfohfjobncehaaGreatDoor
open Go.RowKit
set_option linter.all false
set_option maxHeartbeats 8000000
set_option maxRecDepth 10000
theorem den_lcm (x:Rat) (c:Nat) (hc:0<c):c*(x*((c:Nat):Rat)).den∣Nat.lcm c x.den:=by
 have e:x*((c:Nat):Rat)=mkRat (x.num*(c:Nat)) x.den:=by
  rw [Rat.mul_def',Rat.num_natCast,Rat.den_natCast,Nat.mul_one]
 rw [e,Rat.den_mkRat,if_neg x.den_nz];have hg:Nat.gcd (x.num*((c:Nat):Int)).natAbs x.den=Nat.gcd c x.den:=by
  rw [Int.natAbs_mul,Int.natAbs_natCast,Nat.mul_comm];exact Nat.Coprime.gcd_mul_right_cancel c x.reduced
 have a:Nat.gcd x.den (x.num*((c:Nat):Int)).natAbs=Nat.gcd c x.den:=by rw [Nat.gcd_comm,hg]
 first | rw [hg] | rw [a]
 obtain ⟨k,d⟩:Nat.gcd c x.den∣x.den:=Nat.gcd_dvd_right _ _;have b:0<Nat.gcd c x.den:=Nat.gcd_pos_of_pos_left _ hc;have f:x.den / Nat.gcd c x.den=k:=by
  apply Nat.div_eq_of_eq_mul_right b;exact d
 rw [f];have g:Nat.gcd c x.den*Nat.lcm c x.den=c*x.den:=Nat.gcd_mul_lcm _ _;have h:Nat.gcd c x.den*(c*k)=Nat.gcd c x.den*Nat.lcm c x.den:=by
  rw [g]
  calc Nat.gcd c x.den*(c*k)=c*(Nat.gcd c x.den*k):=by rw [Nat.mul_left_comm]
   _=c*x.den:=by rw [<- d]
 rw [Nat.eq_of_mul_eq_mul_left b h];exact Nat.dvd_refl _
theorem uB (R:Nat->Rat) (D:Nat) (h:∀ j,(R j).den∣D):∀ i,jh R i∣D:=by
 intro i;induction i with
 | zero=>exact Nat.one_dvd _
 | succ i ih=>exact Nat.dvd_trans (den_lcm (R i) (jh R i) (pV R i)) (Nat.lcm_dvd ih (h i))
theorem kE (R:Nat->Rat) (D N:Nat) (a:0<D) (h:∀ j,(R j).den∣D) (b:∀ j,rN (R j)<=N) (i j:Nat):rN (cA R i j)<=N*D/\(cA R i j).den<=D:=by
 refine ⟨?_,Nat.le_trans (Nat.le_of_dvd (Rat.den_pos _) (AL R i j)) (Nat.le_of_dvd a (h j))⟩;have e:R j*((jh R i:Nat):Rat)=mkRat ((R j).num*(jh R i:Nat)) (R j).den:=by
  rw [Rat.mul_def',Rat.num_natCast,Rat.den_natCast,Nat.mul_one]
 unfold cA rN;rw [e,Rat.num_mkRat,if_neg (R j).den_nz];refine Nat.le_trans (Int.natAbs_ediv_le_natAbs _ _) ?_;rw [Int.natAbs_mul,Int.natAbs_natCast];exact Nat.mul_le_mul (b j) (Nat.le_of_dvd a (uB R D h i))
def lO (v q:Rat):Prop:=∃ α β:Int,α.natAbs<=1/\β.natAbs<=1/\q=(α:Rat)+(β:Rat)*v
theorem iy {v q:Rat} (h:lO v q):q.den∣v.den/\rN q<=v.den+rN v:=by
 obtain ⟨α,β,ha,hb,rfl⟩:=h;have e:(α:Rat)+(β:Rat)*v=mkRat (α*v.den+β*v.num) v.den:=by
  have f:v=mkRat v.num v.den:=(Rat.mkRat_self v).symm;have hd:((v.den:Nat):Rat)≠0:=by
   intro d;have:((v.den:Nat):Rat)=((0:Nat):Rat):=d;rw [Rat.natCast_inj] at this;exact v.den_nz this
  rw [Rat.mkRat_eq_div];have a:(((α*v.den+β*v.num:Int)):Rat)=(α:Rat)*((v.den:Nat):Rat)+(β:Rat)*((v.num:Int):Rat):=by
   push_cast
   rfl
  rw [a];have b:v=((v.num:Int):Rat) / ((v.den:Nat):Rat):=by conv=>lhs;rw [<- Rat.mkRat_self v,Rat.mkRat_eq_div]
  have c:(β:Rat)*v=(β:Rat)*((v.num:Int):Rat) / ((v.den:Nat):Rat):=by
   conv=>lhs;rw [b]
   rw [Rat.div_def,Rat.div_def,Rat.mul_assoc]
  rw [c,Rat.div_def,Rat.div_def,Rat.add_mul,Rat.mul_assoc (α:Rat),Rat.mul_inv_cancel _ hd,Rat.mul_one]
 rw [e];constructor
 ·rw [Rat.den_mkRat,if_neg v.den_nz];exact Nat.div_dvd_of_dvd (by first | exact Nat.gcd_dvd_right _ _ | exact Nat.gcd_dvd_left _ _)
 ·unfold rN;rw [Rat.num_mkRat,if_neg v.den_nz];refine Nat.le_trans (Int.natAbs_ediv_le_natAbs _ _) ?_;refine Nat.le_trans (Int.natAbs_add_le _ _) ?_;rw [Int.natAbs_mul,Int.natAbs_mul,Int.natAbs_natCast];have g:α.natAbs*v.den<=1*v.den:=Nat.mul_le_mul_right _ ha;have a:β.natAbs*v.num.natAbs<=1*v.num.natAbs:=Nat.mul_le_mul_right _ hb;omega
def fD (e:Nat->Nat):Nat->Nat
 | 0=>0
 | i+1=>fD e i+(1+e i)
theorem tL (c:Nat->Nat):∀ l l':List Nat,aZ c (l++l')=aZ c l*aZ c l':=by
 intro l;induction l with
 | nil=>intro l';simp [aZ]
 | cons a l ih=>intro l';show c a*aZ c (l++l')=c a*aZ c l*aZ c l';rw [ih,Nat.mul_assoc]
theorem most_le (m:Nat) (a:m<=4294967296) (e:Nat->Nat):∀ k,aZ (fun r=>m*4294967296^e r) (List.range k)<=4294967296^fD e k:=by
 intro k;induction k with
 | zero=>simp [aZ,fD]
 | succ k ih =>
  rw [List.range_succ,tL];show _*(m*4294967296^e k*1)<=4294967296^(fD e k+(1+e k))
  rw [Nat.mul_one,Nat.pow_add,Nat.pow_add,Nat.pow_one];exact Nat.mul_le_mul ih (Nat.mul_le_mul_right _ a)
theorem tE (m L:Nat) (a:m<=4294967296) (e:Nat->Nat) (b:fD e m<L):dR m (fun r=>4294967296^e r)<4294967296^L:=by
 unfold dR;exact Nat.lt_of_le_of_lt (most_le m a e m) (Nat.pow_lt_pow_right zD b)
theorem most_sq (m L M:Nat) (a:m+1<4294967296) (h:M<4294967296^L):(m+1)*(M*M)<4294967296^(2*L+1):=by
 have b:M*M<=4294967296^L*4294967296^L:=Nat.mul_le_mul (Nat.le_of_lt h) (Nat.le_of_lt h);have c:(4294967296:Nat)^(2*L+1)=4294967296*(4294967296^L*4294967296^L):=by rw [Nat.pow_succ,Nat.two_mul,Nat.pow_add,Nat.mul_comm]
 rw [c];have d:0<(4294967296:Nat)^L*4294967296^L:=Nat.mul_pos (Nat.pow_pos zD) (Nat.pow_pos zD)
 calc (m+1)*(M*M)<=(m+1)*(4294967296^L*4294967296^L):=Nat.mul_le_mul_left _ b
  _<4294967296*(4294967296^L*4294967296^L):=Nat.mul_lt_mul_of_pos_right a d
theorem ofR_one:dh [49]=1:=by
 unfold dh;decide
theorem aq {w w1:World} {g i:Nat} {v:Value} (h:w.grownBy w1 (some g)):w.grownBy (w1.setCell ⟨g,i,none⟩ v) (some g) :=
 aj (r2:=some g) h ⟨rfl,rfl,rfl,Z,fun k _ a=>heap_setCell_other _ _ _ _ (fun e=>a (by rw [e]))⟩ (fun _ _ e=>e) (fun _ _ e=>e)
def FldE (w:World) (e:Ending) (w':World):Prop:=∃ fo fl fc fo2 fl2 fc2,e=.returned (kq false (.slice fo fl fc) (.slice fo2 fl2 fc2))/\FQ w' (.agg #[.bool false,.slice fo fl fc,.slice fo2 fl2 fc2]) 1 2/\w.grownBy w' none
theorem tu (m:Int) (w:World) (f:w.cell? ⟨2,0,none⟩=some (.int .i64 m)) :
  Calls Tryz.prog 82 #[] w fun e J=>FldE w e J:=by
 have y:=aa f;have hb:=cJ f;clear f;obtain ⟨W,j⟩:=eX (w.alloc (Obj.cells #[.bool false,.slice none 0 0,.slice none 0 0,.nilFunc,.nilFunc,.nilFunc,.nilFunc,.nilFunc,.nilFunc,.nilFunc,.nilFunc] 128));have p:Hid (w.grownBy W none):=by rw [j];exact ae (ag _ _) _
 have z:Hid (∀ wx,W.grownBy wx none->wx.heap[w.heap.size]? = some (Obj.cells #[.bool false,.slice none 0 0,.slice none 0 0,.nilFunc,.nilFunc,.nilFunc,.nilFunc,.nilFunc,.nilFunc,.nilFunc,.nilFunc] 128 (0,0))):=by
  intro wx hg;rw [j] at hg;rw [hg.block w.heap.size Z Z];exact heap_alloc_new w _
 go_enter Tryz.func82,Tryz.ntmps82
 go_wp2_with fail;rw [<- j];clear j;refine (DS _ m _ zD (p.cell y Z)).mono ?_;rintro e c ⟨v,rfl,k1,o⟩;have A:dh (ByteArray.mk #[49]).data.toList=1:=ofR_one;rw [A] at k1;obtain ⟨q,r,s,h,t,u,rfl⟩:=k1.shape;have B:=aa k1;have C:=aa o;have b:=z.out c o;have d:∀ k,k<11->(c.cell? ⟨w.heap.size,k,none⟩).isSome=true/\c.frozen? ⟨w.heap.size,k,none⟩=false:=by
  intro k U;simp only [World.cell?,World.frozen?,b];refine ⟨?_,Z⟩;rcases k with _ | _ | _ | _ | _ | _ | _ | _ | _ | _ | _ | k<;>first | rfl | omega
 have c0:c.cell? ⟨w.heap.size,0,none⟩=some (.bool false):=by simp [World.cell?,b]
 have c1:c.cell? ⟨w.heap.size,1,none⟩=some (.slice none 0 0):=by simp [World.cell?,b]
 have c2:c.cell? ⟨w.heap.size,2,none⟩=some (.slice none 0 0):=by simp [World.cell?,b]
 have c3:c.cell? ⟨w.heap.size,3,none⟩=some .nilFunc:=by simp [World.cell?,b]
 have c4:c.cell? ⟨w.heap.size,4,none⟩=some .nilFunc:=by simp [World.cell?,b]
 have c5:c.cell? ⟨w.heap.size,5,none⟩=some .nilFunc:=by simp [World.cell?,b]
 have D:c.cell? ⟨w.heap.size,6,none⟩=some .nilFunc:=by simp [World.cell?,b]
 have E:c.cell? ⟨w.heap.size,7,none⟩=some .nilFunc:=by simp [World.cell?,b]
 have F:c.cell? ⟨w.heap.size,8,none⟩=some .nilFunc:=by simp [World.cell?,b]
 have G:c.cell? ⟨w.heap.size,9,none⟩=some .nilFunc:=by simp [World.cell?,b]
 have l:c.cell? ⟨w.heap.size,10,none⟩=some .nilFunc:=by simp [World.cell?,b]
 have f0:=(d 0 O).2;have f1:=(d 1 O).2;have K:=(d 2 O).2;have L:=(d 3 O).2;have M:=(d 4 O).2;have N:=(d 5 O).2;have P:=(d 6 O).2;have Q:=(d 7 O).2;have R:=(d 8 O).2;have S:=(d 9 O).2;have H:=(d 10 O).2;have I:Hid (bM c w.heap.size):=by
  intro i x;simp only [World.cell?,b];rcases i with _ | _ | _ | _ | _ | _ | _ | _ | _ | _ | _ | i<;>simp
 clear d b k1 o;have T:∀ (n:Nat) (a:Addr) (wx:World),(store a (.func (.func n) #[] #[])).run Tryz.prog wx=stored Tryz.prog wx a (.func (.func n) #[] #[]) .plain:=fun n a wx=>run_store _ _ _ _ _ rfl
 go_wp2;refine bodyPost_ret (v:=kq (rB 1) (.slice q r s) (.slice h t u)) (by simp [results,Tryz.results82,go_sem,c0,c1,c2,c3,c4,c5,D,E,F,G,l]) rfl ?_;refine ⟨q,r,s,h,t,u,rfl,FV.other (g:=w.heap.size) B I ?_,?_⟩
 ·exact aq (aq (aq (aq (aq (aq (aq (aq (aq (aq (aq (ag _ _)))))))))))
 ·exact ah (ah (ah (ah (ah (ah (ah (ah (ah (ah (ah (ab p C) _ _ zL) _ _ zL) _ _ zL) _ _ zL) _ _ zL) _ _ zL) _ _ zL) _ _ zL) _ _ zL) _ _ zL) _ _ zL
attribute [local simp] gY cM fT lu
def pO (w:World) (k:Nat) (R:Nat->Rat) (L:Nat) (e:Ending) (w':World):Prop:=∃ g,e=.returned (.slice (some ⟨g,0,none⟩) k k)/\w.heap.size<=g/\aI w' g k R L/\w.grownBy w' none
theorem kL (n k:Nat) (c:Option Addr) (d:Nat) (w:World) (hn:n<=1000) (i:k<=1000) :
  Calls Tryz.prog 198 #[.agg #[.int .i64 ((n:Nat):Int),.slice c k d]] w fun e h=>pO w (n+k+1) (fun _=>0) 0 e h:=by
 have j:IntKind.i64.wrap ((n:Int)+(k:Int))=(n:Int)+(k:Int):=IntWalk.i64_in _ ⟨O,O⟩;have l:IntKind.i64.wrap ((n:Int)+(k:Int)+1)=(n:Int)+(k:Int)+1:=IntWalk.i64_in _ ⟨O,O⟩;go_enter Tryz.func198,Tryz.ntmps198
 go_wp2_with (at_make;refine lY _ rfl _ _ 76 rfl Tryz.underlying76 Tryz.infoF _ _ _ _ (n+k+1) rfl rfl O O O ?_)
 intro w1 a b;have f:=aa a;have g:=aa b;clear a b;go_wp2;go_ret;refine ⟨_,rfl,Z,f,ab (ae (ag _ _) _) g⟩
def qZ (p:aD) (j:Nat):Rat:=(if p.a=(j:Int) then 0+1 else 0)-(if p.b=(j:Int) then 1 else 0)
def eJ (n:Nat) (ps:List aD) (j:Nat):Nat->Rat:=fun x=>if x<n then 0 else match ps[x-n]? with | some p=>qZ p j | none=>0
def fe (n:Nat) (ps:List aD) (j i:Nat):Nat->Rat:=fun x=>if x<n+i then eJ n ps j x else 0
theorem jN (n:Nat) (a:List aD) (j i:Nat) (hi:i<a.length) (x:Nat):aQ (fe n a j i) (n+i) (qZ a[i] j) x=fe n a j (i+1) x:=by
 unfold aQ fe;by_cases h:x=n+i
 ·rw [if_pos h,if_pos O,h];unfold eJ;rw [if_neg O,show n+i-n=i by omega,zX hi]
 ·rw [if_neg h];by_cases b:x<n+i
  ·rw [if_pos b,if_pos O]
  ·rw [if_neg b,if_neg O]
theorem put_put (R:Nat->Rat) (k:Nat) (a b:Rat) (x:Nat):aQ (aQ R k a) k b x=aQ R k b x:=by
 unfold aQ;by_cases h:x=k
 ·rw [if_pos h,if_pos h]
 ·rw [if_neg h,if_neg h,if_neg h]
theorem vK (n:Nat) (a:List aD) (j i:Nat) (hi:i<a.length) (h:qZ a[i] j=0) (x:Nat):fe n a j i x=fe n a j (i+1) x:=by
 rw [<- jN n a j i hi x,h];unfold aQ fe;by_cases h:x=n+i
 ·rw [if_pos h,if_neg O]
 ·rw [if_neg h]
theorem Cu {p:aD} {j:Nat} (c:p.a=(j:Int)) (d:p.b=(j:Int)):qZ p j=0+1-1:=by unfold qZ;rw [if_pos c,if_pos d]
theorem Ct {p:aD} {j:Nat} (c:p.a=(j:Int)) (d:¬ p.b=(j:Int)):qZ p j=0+1:=by unfold qZ;rw [if_pos c,if_neg d];grind
theorem Cs {p:aD} {j:Nat} (c:¬ p.a=(j:Int)) (d:p.b=(j:Int)):qZ p j=0-1:=by unfold qZ;rw [if_neg c,if_pos d]
theorem Cr {p:aD} {j:Nat} (c:¬ p.a=(j:Int)) (d:¬ p.b=(j:Int)):qZ p j=0:=by unfold qZ;rw [if_neg c,if_neg d];grind
def NodR (W:World) (g n:Nat) (ps:List aD) (j L:Nat) (v:Value) (wr:World):Prop :=
 ∃ i:Nat,i<=ps.length/\v=.int .i64 i/\aI wr g (n+ps.length+1) (fe n ps j i) L/\aO W wr g
theorem yu (z:Bool) (A m:Option Addr) (fl fc o q:Nat) (n j:Nat) (pv:Value) (f:List aD) (L:Nat) (w:World) (h1:FQ w (.agg #[.bool z,.slice A fl fc,.slice m o q]) 1 L) (hp:aA w pv f)
  (hj:j<n) (hj0:j≠0) (hn:n<=1000) (hk:f.length<=1000) (hL1:1<=L) (hL:L<=100000000) :
  Calls Tryz.prog 169 #[(kq z (.slice A fl fc) (.slice m o q)),.agg #[.int .i64 ((n:Nat):Int),pv],.int .i64 ((j:Nat):Int)] w fun e u=>pO w (n+f.length+1) (eJ n f j) L e u:=by
 have H1:=aa h1;have HP:=aa hp;obtain ⟨ao,cap,rfl,mo,kk,hH⟩:=hp;have hQ:=aa hH;have hR:Hid (bh L (0+1)):=by
  have e:(0:Rat)+1=1:=by grind
  rw [e];exact h1.fits hL1
 have hS:Hid (bh L (0+1-1)):=by
  have e:(0:Rat)+1-1=0:=by grind
  rw [e];exact (bN w L).fits hL1
 have hT:Hid (bh L (0-1)):=by
  have e:(0:Rat)-1 = -1:=by grind
  rw [e];exact (h1.fits hL1).neg
 unfold maxLen at kk;clear h1 hH;obtain ⟨W,hW⟩:=eX ((w.alloc (Obj.cells #[.bool z,.slice A fl fc,.slice m o q,.func (.func 129) #[] #[],.func (.func 107) #[] #[],.func (.func 67) #[] #[],.func (.func 38) #[] #[],.func (.func 130) #[] #[],.func (.func 131) #[] #[],.func (.func 132) #[] #[],.func (.func 133) #[] #[]] 128)).alloc (Obj.cells #[.int .i64 ((n:Nat):Int),.slice ao f.length cap] 24));have GW:Hid (w.grownBy W none):=by rw [hW];exact ae (ae (ag _ _) _) _
 have he:Hid (W.heap.size=w.heap.size+2):=by show _=_;rw [hW];simp
 have R:Hid (∀ wx g,W.heap.size<=g->W.grownBy wx (some g)->gY wx (w.heap.size)/\cM wx (w.heap.size) (.bool z) (.slice A fl fc) (.slice m o q)/\lu wx (w.heap.size+1) (.int .i64 ((n:Nat):Int)) (.slice ao f.length cap)):=by
  intro wx g mm hg;have jl:=he.out;have n1:some w.heap.size≠some g:=fun e=>by have:=zJ e;omega
  have n2:some (w.heap.size+1)≠some g:=fun e=>by have:=zJ e;omega
  obtain ⟨f1,f2⟩:=mg z A m fl fc o q (w:=W) (by rw [hW];exact ae (ag _ _) _);exact ⟨f1.k hg n1,f2.k hg n1,lu.k (w:=W) (by rw [hW];exact ⟨zG,zG⟩) hg n2⟩
 have s0:=R.out W W.heap.size zL (ag _ _);go_enter Tryz.func169,Tryz.ntmps169
 go_upto_region 1 with fail;rw [<- hW];clear hW;go_wp2_with fail;refine (kL n f.length ao cap W hn hk).mono ?_;rintro e w1 ⟨g,rfl,kl,hI,B⟩;have F1:=aa hI;have G1:=aa B;have jo:w.heap.size+2<=g:=by have:=he.out;omega
 have l:Hid (∀ wx,aO w1 wx g->gY wx (w.heap.size)/\cM wx (w.heap.size) (.bool z) (.slice A fl fc) (.slice m o q)/\lu wx (w.heap.size+1) (.int .i64 ((n:Nat):Int)) (.slice ao f.length cap)):=fun wx hx=>R wx g kl (aj (r:=some g) G1 hx.1 nofun (fun _ _ e=>e))
 have J:=aa (ab GW B);have jp:(((j:Nat):Int)==0)=false:=zB O;have hy:Hid (w.heap.size+2<=w1.heap.size):=by show _<=_;have:=he.out;have:=B.size;omega
 clear hI B s0;have s0:=l.out w1 (aO.refl _ _);go_wp2;go_loopw [23] (fun v wr=>Hid (NodR w1 g n f j L v wr)) (fun v _=>f.length-(intOf v).toNat)
 case atStart=>exact ⟨0,O,rfl,(F1.mono (Nat.zero_le _)).congr (fun x _=>by unfold fe eJ;by_cases h:x<n+0<;>simp_all),aO.refl _ _⟩
 case round =>
  obtain ⟨i,hi,rfl,l1,l2⟩:=hrel.out;have L1:=aa l1;have G:=aa l2;clear l1 l2 hrel F1 s0;by_cases hlt:i<f.length
  ·obtain ⟨b,off,rfl,hb,c0,c1,c2,c3,c4,c5,c6⟩:=hQ.out i hlt;obtain ⟨p,hu⟩:=eX (f[i]);rw [<- hu] at c0 c1 c2 c3 c4 c5 c6;have M:=aa hu;have E:some b≠some g:=fun e=>by have:=zJ e;omega
   have q0:=G.out.1.cell (J.cell c0 Z) E;have q1:=G.out.1.cell (J.cell c1 Z) E;have q2:=G.out.1.cell (J.cell c2 Z) E;have q3:=G.out.1.cell (J.cell c3 Z) E;have q4:=G.out.1.cell (J.cell c4 Z) E;have q5:=G.out.1.cell (J.cell c5 Z) E;clear c0 c1 c2 c3 c4 c5 c6 hu;have s0:=l.out wr G;have yo:w.heap.size+2<=wr.heap.size:=Nat.le_trans hy G.1.size;have js:g<wr.heap.size:=L1.out.lt;go_upto_region 8 with fail;obtain ⟨y,P⟩:=eX (wr.alloc (Obj.cells #[.int .i64 p.kind,.int .i64 p.a,.int .i64 p.b,.int .i64 p.c,.int .i64 p.d,.string p.v] 60));have G2:Hid (wr.grownBy y none):=by rw [P];exact ae (ag _ _) _
   have N:Hid (∀ wx,aO y wx g->wx.cell? ⟨wr.heap.size,1,none⟩=some (.int .i64 p.a)/\wx.cell? ⟨wr.heap.size,2,none⟩=some (.int .i64 p.b)):=by
    intro wx hx;have hl:=hx.1;rw [P] at hl;have n1:some wr.heap.size≠some g:=fun e=>by have:=zJ e;omega
    exact ⟨hl.cell zG n1,hl.cell zG n1⟩
   rw [<- P];clear P q0 q1 q2 q3 q4 q5 s0;have F2:=aa (L1.keep0 G2);have S:=aa (G.gr G2);have t:n+i<n+f.length+1:=O
   have jv:IntKind.i64.wrap ((n:Int)+(i:Int))=(n:Int)+(i:Int):=IntWalk.i64_in _ ⟨O,O⟩;have yv:(0:Int)<=(n:Int)+(i:Int):=O
   have jc:(n:Int)+(i:Int)<(n:Int)+(f.length:Int)+1:=O
   have mc:g≠w.heap.size:=O
   have md:g≠w.heap.size+1:=O
   have ml:g≠wr.heap.size:=O
   have hz:fe n f j i (n+i)=0:=by unfold fe;rw [if_neg O]
   have hC:=aa hz;clear hz;have s0:=l.out y S;obtain ⟨t1,t2⟩:=N.out y (aO.refl _ _);by_cases hA:p.a=(j:Int)
   ·have hX:(p.a==(j:Int))=true:=beq_iff_eq.2 hA;have HA:=aa hA;clear hA;obtain ⟨kn,ko,ks,ku,kw,ky,C,r1,r2,H,I⟩:=F2.out.at (n+i) t;rw [hC] at C H;have hY:=aa H;have ka:=aa (H1.kept ((aN.of_gr J).trans S.2));have hD:Hid (∀ wx,y.grownBy wx none->(gY wx (w.heap.size)/\cM wx (w.heap.size) (.bool z) (.slice A fl fc) (.slice m o q)/\lu wx (w.heap.size+1) (.int .i64 ((n:Nat):Int)) (.slice (some ⟨b,off,none⟩) f.length cap))/\wx.cell? ⟨wr.heap.size,1,none⟩=some (.int .i64 p.a)/\wx.cell? ⟨wr.heap.size,2,none⟩=some (.int .i64 p.b)):=by
     intro wx hg;exact ⟨l wx (S.gr hg),N wx (aO.of_gr hg)⟩
    have T:Hid (∀ wx,y.grownBy wx none->aI wx g (n+f.length+1) (fe n f j i) L/\fT wx g (n+i) (.bool (rB (0))) (.slice kn ko ks) (.slice ku kw ky)/\∀ k,wx.frozen? ⟨g,k,none⟩=false):=by
     intro wx hg;have U:=F2.out.keep0 hg;obtain ⟨_,_,_,_,_,_,_,_,_,_,hf⟩:=U.at (n+i) t;exact ⟨U,(show fT _ _ _ _ _ _ from ⟨C,r1,r2⟩).k0 hg,hf⟩
    clear C r1 r2 H I;have GG:y.grownBy y none:=ag _ _;have s0:=hD.out y GG;obtain ⟨fr,C,I⟩:=T.out y GG;clear fr I;go_wp2;refine hd (fun u=>(gY u (w.heap.size)/\cM u (w.heap.size) (.bool z) (.slice A fl fc) (.slice m o q)/\lu u (w.heap.size+1) (.int .i64 ((n:Nat):Int)) (.slice (some ⟨b,off,none⟩) f.length cap))/\u.cell? ⟨wr.heap.size,1,none⟩=some (.int .i64 p.a)/\u.cell? ⟨wr.heap.size,2,none⟩=some (.int .i64 p.b)) (fun hHeld=>?_);refine tk 4 [(0,36,.slice (some ⟨g,0,none⟩) (n+f.length+1) (n+f.length+1)),(1,37,.int .i64 ((n:Int)+(i:Int))),(2,38,.pointer (some ⟨w.heap.size,4,none⟩)),(3,39,.func (.func 107) #[] #[]),(4,40,.slice (some ⟨g,0,none⟩) (n+f.length+1) (n+f.length+1)),(5,41,.int .i64 ((n:Int)+(i:Int))),(6,42,.pointer (some ⟨g,(n+i)*3,none⟩)),(8,44,.pointer (some ⟨w.heap.size,0,none⟩)),(9,45,Value.agg #[.bool z,.slice A fl fc,.slice m o q])] ?_;try simp only [pA,pL,vA,vL,q0,q1,q2,q3]
    refine cQ 3 7 (fun K s=>?_);simp only [ax,q4,q5,q6,q7];go_simp
    refine bk s (fun hHeld=>?_);clear s K;try simp only [pA,pL,vA,vL,q0,q1,q2,q3]
    refine cQ 2 10 (fun K s=>?_);simp only [ax,q4,q5,q6,q7];go_simp
    go_at_call 107
    refine (mX _ _ (0) 1 L L _ (hY.keep0 (gx GG)) (ka.keep0 (gx GG)) O).mono ?_;rintro e hv ⟨vm,rfl,pm,gm⟩;have pm:=pm.tight (L':=L) hR;obtain ⟨kz,kF,kH,kN,kS,qa,rfl⟩:=pm.shape;have GG:=ab (gx GG) gm;have b0:=hD.out hv GG;obtain ⟨fr,d0,D⟩:=T.out hv GG;have hm:=D ((n+i)*3);have ho:=D ((n+i)*3+1);have hq:=D ((n+i)*3+2);clear D;go_wp2_with fail;refine bk s (fun hHeld=>?_);clear s K;refine tk 1 [(11,47,.pointer (some ⟨g,(n+i)*3,none⟩))] ?_;try simp only [pA,pL,vA,vL,q0,q1,q2,q3]
    refine cQ 0 12 (fun K s=>?_);simp only [ax,q4,q5,q6,q7];go_simp
    refine bk s (fun hHeld=>?_);clear s K;try simp only [pA,pL,vA,vL,q0,q1,q2,q3]
    refine wpAnyH_done zK ?_ _;have FR:=aa fr;have PM:=aa pm;have GF:=aa GG;clear fr pm GG;obtain ⟨Q,hw⟩:=eX (((hv.setCell ⟨g,(n+i)*3,none⟩ (.bool (rB (0+1)))).setCell ⟨g,(n+i)*3+1,none⟩ (.slice kz kF kH)).setCell ⟨g,(n+i)*3+2,none⟩ (.slice kN kS qa));obtain ⟨y1,Y,y3⟩:=FR.out.set (n+i) t PM;rw [<- hw] at y1 Y y3;rw [<- hw];have F3:=aa y1;have R3:=aa ((S.gr GF).trans ⟨Y,y3⟩);have hE:Hid (∀ wx,aO Q wx g->wx.cell? ⟨wr.heap.size,1,none⟩=some (.int .i64 p.a)/\wx.cell? ⟨wr.heap.size,2,none⟩=some (.int .i64 p.b)):=fun wx hx=>N wx (((aO.of_gr GF).trans ⟨Y,y3⟩).trans hx)
    have kb:Hid (aQ (fe n f j i) (n+i) (0+1) (n+i)=0+1):=by show _=_;unfold aQ;rw [if_pos rfl]
    clear hw y1 Y y3 FR PM b0 d0 hm ho hq;have s0:=l.out Q R3;obtain ⟨t1,t2⟩:=hE.out Q (aO.refl _ _);by_cases F:p.b=(j:Int)
    ·have hs:(p.b==(j:Int))=true:=beq_iff_eq.2 F;have HB:=aa F;clear F;obtain ⟨qb,qc,qf,ql,qo,qq,C,r1,r2,H,I⟩:=F3.out.at (n+i) t;rw [kb] at C H;have kc:=aa H;have ke:=aa (H1.kept ((aN.of_gr J).trans R3.2));have hF:Hid (∀ wx,Q.grownBy wx none->(gY wx (w.heap.size)/\cM wx (w.heap.size) (.bool z) (.slice A fl fc) (.slice m o q)/\lu wx (w.heap.size+1) (.int .i64 ((n:Nat):Int)) (.slice (some ⟨b,off,none⟩) f.length cap))/\wx.cell? ⟨wr.heap.size,1,none⟩=some (.int .i64 p.a)/\wx.cell? ⟨wr.heap.size,2,none⟩=some (.int .i64 p.b)):=by
      intro wx hg;exact ⟨l wx (R3.gr hg),hE wx (aO.of_gr hg)⟩
     have V:Hid (∀ wx,Q.grownBy wx none->aI wx g (n+f.length+1) (aQ (fe n f j i) (n+i) (0+1)) L/\fT wx g (n+i) (.bool (rB (0+1))) (.slice qb qc qf) (.slice ql qo qq)/\∀ k,wx.frozen? ⟨g,k,none⟩=false):=by
      intro wx hg;have U:=F3.out.keep0 hg;obtain ⟨_,_,_,_,_,_,_,_,_,_,hf⟩:=U.at (n+i) t;exact ⟨U,(show fT _ _ _ _ _ _ from ⟨C,r1,r2⟩).k0 hg,hf⟩
     clear C r1 r2 H I;have GG:Q.grownBy Q none:=ag _ _;have s0:=hF.out Q GG;obtain ⟨fr,C,I⟩:=V.out Q GG;clear fr I;go_wp2;refine hd (fun u=>(gY u (w.heap.size)/\cM u (w.heap.size) (.bool z) (.slice A fl fc) (.slice m o q)/\lu u (w.heap.size+1) (.int .i64 ((n:Nat):Int)) (.slice (some ⟨b,off,none⟩) f.length cap))/\u.cell? ⟨wr.heap.size,1,none⟩=some (.int .i64 p.a)/\u.cell? ⟨wr.heap.size,2,none⟩=some (.int .i64 p.b)) (fun hHeld=>?_);refine tk 4 [(0,52,.slice (some ⟨g,0,none⟩) (n+f.length+1) (n+f.length+1)),(1,53,.int .i64 ((n:Int)+(i:Int))),(2,54,.pointer (some ⟨w.heap.size,5,none⟩)),(3,55,.func (.func 67) #[] #[]),(4,56,.slice (some ⟨g,0,none⟩) (n+f.length+1) (n+f.length+1)),(5,57,.int .i64 ((n:Int)+(i:Int))),(6,58,.pointer (some ⟨g,(n+i)*3,none⟩)),(8,60,.pointer (some ⟨w.heap.size,0,none⟩)),(9,61,Value.agg #[.bool z,.slice A fl fc,.slice m o q])] ?_;try simp only [pA,pL,vA,vL,q0,q1,q2,q3]
     refine cQ 3 7 (fun K s=>?_);simp only [ax,q4,q5,q6,q7];go_simp
     refine bk s (fun hHeld=>?_);clear s K;try simp only [pA,pL,vA,vL,q0,q1,q2,q3]
     refine cQ 2 10 (fun K s=>?_);simp only [ax,q4,q5,q6,q7];go_simp
     go_at_call 67
     refine (dD _ _ (0+1) 1 L L _ (kc.keep0 (gx GG)) (ke.keep0 (gx GG)) O).mono ?_;rintro e hM ⟨vm,rfl,pm,gm⟩;have pm:=pm.tight (L':=L) hS;obtain ⟨mp,ms,mt,Ha,Hb,Hc,rfl⟩:=pm.shape;have GG:=ab (gx GG) gm;have b0:=hF.out hM GG;obtain ⟨fr,d0,D⟩:=V.out hM GG;have hm:=D ((n+i)*3);have ho:=D ((n+i)*3+1);have hq:=D ((n+i)*3+2);clear D;go_wp2_with fail;refine bk s (fun hHeld=>?_);clear s K;refine tk 1 [(11,63,.pointer (some ⟨g,(n+i)*3,none⟩))] ?_;try simp only [pA,pL,vA,vL,q0,q1,q2,q3]
     refine cQ 0 12 (fun K s=>?_);simp only [ax,q4,q5,q6,q7];go_simp
     refine bk s (fun hHeld=>?_);clear s K;try simp only [pA,pL,vA,vL,q0,q1,q2,q3]
     refine wpAnyH_done zK ?_ _;have FR:=aa fr;have PM:=aa pm;have GF:=aa GG;clear fr pm GG;go_wp2;go_roundw
     case rel =>
      obtain ⟨y1,Y,y3⟩:=FR.out.set (n+i) t PM;refine ⟨i+1,O,zN,y1.congr (fun x _=>?_),(R3.gr GF).trans ⟨Y,y3⟩⟩;rw [put_put];rw [<- jN n f j i hlt x,<- M,Cu HA HB]
     case measure=>exact bO
    ·have hs:(p.b==(j:Int))=false:=zB F;have HB:=aa F;clear F;go_wp2;go_roundw
     case rel=>exact ⟨i+1,O,zN,F3.congr (fun x _=>by rw [<- jN n f j i hlt x,<- M,Ct HA HB]),R3⟩
     case measure=>exact bO
   ·have hX:(p.a==(j:Int))=false:=zB hA;have HA:=aa hA;clear hA;by_cases F:p.b=(j:Int)
    ·have hs:(p.b==(j:Int))=true:=beq_iff_eq.2 F;have HB:=aa F;clear F;obtain ⟨qs,ya,yb,yc,yl,yn,C,r1,r2,H,I⟩:=F2.out.at (n+i) t;rw [hC] at C H;have kf:=aa H;have kg:=aa (H1.kept ((aN.of_gr J).trans S.2));have hG:Hid (∀ wx,y.grownBy wx none->(gY wx (w.heap.size)/\cM wx (w.heap.size) (.bool z) (.slice A fl fc) (.slice m o q)/\lu wx (w.heap.size+1) (.int .i64 ((n:Nat):Int)) (.slice (some ⟨b,off,none⟩) f.length cap))/\wx.cell? ⟨wr.heap.size,1,none⟩=some (.int .i64 p.a)/\wx.cell? ⟨wr.heap.size,2,none⟩=some (.int .i64 p.b)):=by
      intro wx hg;exact ⟨l wx (S.gr hg),N wx (aO.of_gr hg)⟩
     have X:Hid (∀ wx,y.grownBy wx none->aI wx g (n+f.length+1) (fe n f j i) L/\fT wx g (n+i) (.bool (rB (0))) (.slice qs ya yb) (.slice yc yl yn)/\∀ k,wx.frozen? ⟨g,k,none⟩=false):=by
      intro wx hg;have U:=F2.out.keep0 hg;obtain ⟨_,_,_,_,_,_,_,_,_,_,hf⟩:=U.at (n+i) t;exact ⟨U,(show fT _ _ _ _ _ _ from ⟨C,r1,r2⟩).k0 hg,hf⟩
     clear C r1 r2 H I;have GG:y.grownBy y none:=ag _ _;have s0:=hG.out y GG;obtain ⟨fr,C,I⟩:=X.out y GG;clear fr I;go_wp2;refine hd (fun u=>(gY u (w.heap.size)/\cM u (w.heap.size) (.bool z) (.slice A fl fc) (.slice m o q)/\lu u (w.heap.size+1) (.int .i64 ((n:Nat):Int)) (.slice (some ⟨b,off,none⟩) f.length cap))/\u.cell? ⟨wr.heap.size,1,none⟩=some (.int .i64 p.a)/\u.cell? ⟨wr.heap.size,2,none⟩=some (.int .i64 p.b)) (fun hHeld=>?_);refine tk 4 [(0,52,.slice (some ⟨g,0,none⟩) (n+f.length+1) (n+f.length+1)),(1,53,.int .i64 ((n:Int)+(i:Int))),(2,54,.pointer (some ⟨w.heap.size,5,none⟩)),(3,55,.func (.func 67) #[] #[]),(4,56,.slice (some ⟨g,0,none⟩) (n+f.length+1) (n+f.length+1)),(5,57,.int .i64 ((n:Int)+(i:Int))),(6,58,.pointer (some ⟨g,(n+i)*3,none⟩)),(8,60,.pointer (some ⟨w.heap.size,0,none⟩)),(9,61,Value.agg #[.bool z,.slice A fl fc,.slice m o q])] ?_;try simp only [pA,pL,vA,vL,q0,q1,q2,q3]
     refine cQ 3 7 (fun K s=>?_);simp only [ax,q4,q5,q6,q7];go_simp
     refine bk s (fun hHeld=>?_);clear s K;try simp only [pA,pL,vA,vL,q0,q1,q2,q3]
     refine cQ 2 10 (fun K s=>?_);simp only [ax,q4,q5,q6,q7];go_simp
     go_at_call 67
     refine (dD _ _ (0) 1 L L _ (kf.keep0 (gx GG)) (kg.keep0 (gx GG)) O).mono ?_;rintro e hN ⟨vm,rfl,pm,gm⟩;have pm:=pm.tight (L':=L) hT;obtain ⟨Hd,He,Hf,Hg,Hh,Hi,rfl⟩:=pm.shape;have GG:=ab (gx GG) gm;have b0:=hG.out hN GG;obtain ⟨fr,d0,D⟩:=X.out hN GG;have hm:=D ((n+i)*3);have ho:=D ((n+i)*3+1);have hq:=D ((n+i)*3+2);clear D;go_wp2_with fail;refine bk s (fun hHeld=>?_);clear s K;refine tk 1 [(11,63,.pointer (some ⟨g,(n+i)*3,none⟩))] ?_;try simp only [pA,pL,vA,vL,q0,q1,q2,q3]
     refine cQ 0 12 (fun K s=>?_);simp only [ax,q4,q5,q6,q7];go_simp
     refine bk s (fun hHeld=>?_);clear s K;try simp only [pA,pL,vA,vL,q0,q1,q2,q3]
     refine wpAnyH_done zK ?_ _;have FR:=aa fr;have PM:=aa pm;have GF:=aa GG;clear fr pm GG;go_wp2;go_roundw
     case rel =>
      obtain ⟨y1,Y,y3⟩:=FR.out.set (n+i) t PM;refine ⟨i+1,O,zN,y1.congr (fun x _=>?_),(S.gr GF).trans ⟨Y,y3⟩⟩;rw [<- jN n f j i hlt x,<- M,Cs HA HB]
     case measure=>exact bO
    ·have hs:(p.b==(j:Int))=false:=zB F;have HB:=aa F;clear F;go_wp2;go_roundw
     case rel=>exact ⟨i+1,O,zN,F2.congr (fun x _=>vK n f j i hlt (by rw [<- M];exact Cr HA HB) x),S⟩
     case measure=>exact bO
  ·obtain rfl:i=f.length:=O
   have s0:=l.out wr G;go_wp2;refine bodyPost_ret (v:=.slice (some ⟨g,0,none⟩) (n+f.length+1) (n+f.length+1)) (by simp [results,Tryz.results169,go_sem]) rfl ?_;refine ⟨g,rfl,O,L1.congr (fun x hx=>?_),aj (r:=none) J G.1 (fun _ _ e=>e) (fun b hb e=>by have:=zJ e;omega)⟩;unfold fe;by_cases h:x<n+f.length
   ·rw [if_pos h]
   ·rw [if_neg h];unfold eJ;rw [if_neg O,List.getElem?_eq_none O]
theorem tF (j:Bool) (m a:Option Addr) (fl fc c d:Nat) (n k:Nat) (q:Option Addr) (cap:Nat) (L:Nat) (w:World) (t:FQ w (.agg #[.bool j,.slice m fl fc,.slice a c d]) 1 L) (hn:n<=1000) (z:k<=1000) :
  Calls Tryz.prog 169 #[(kq j (.slice m fl fc) (.slice a c d)),.agg #[.int .i64 ((n:Nat):Int),.slice q k cap],.int .i64 0] w fun e M=>pO w (n+k+1) (aQ (fun _=>0) 0 1) L e M:=by
 have A:=aa t;have o:Hid (j=rB 1):=FV.parts t;clear t;obtain ⟨W,l⟩:=eX ((w.alloc (Obj.cells #[.bool j,.slice m fl fc,.slice a c d,.func (.func 129) #[] #[],.func (.func 107) #[] #[],.func (.func 67) #[] #[],.func (.func 38) #[] #[],.func (.func 130) #[] #[],.func (.func 131) #[] #[],.func (.func 132) #[] #[],.func (.func 133) #[] #[]] 128)).alloc (Obj.cells #[.int .i64 ((n:Nat):Int),.slice q k cap] 24));have B:Hid (w.grownBy W none):=by rw [l];exact ae (ae (ag _ _) _) _
 have p:Hid (W.heap.size=w.heap.size+2):=by show _=_;rw [l];simp
 have h:Hid (∀ wx,W.grownBy wx none->cM wx (w.heap.size) (.bool j) (.slice m fl fc) (.slice a c d)/\lu wx (w.heap.size+1) (.int .i64 ((n:Nat):Int)) (.slice q k cap)):=by
  intro wx hg;exact ⟨(mg j m a fl fc c d (w:=W) (by rw [l];exact ae (ag _ _) _)).2.k0 hg,lu.k0 (w:=W) (by rw [l];exact ⟨zG,zG⟩) hg⟩
 have s0:=h.out W (ag _ _);go_enter Tryz.func169,Tryz.ntmps169
 go_upto_region 1 with fail;rw [<- l];clear l;go_wp2_with fail;refine (kL n k q cap W hn z).mono ?_;rintro e w1 ⟨g,rfl,H,i,f⟩;have N:=h.out w1 f;have C:=aa (i.mono (Nat.zero_le L));have x:=aa (ab B f);obtain ⟨P,Q,R,S,T,U,I,J,K,_,s⟩:=i.at 0 O;simp only [Nat.zero_mul,Nat.zero_add] at I J K;have D:=s 0;have E:=s 1;have F:=s 2;have G:(0:Int)<(n:Int)+(k:Int)+1:=O
 clear i f s s0;go_wp2;refine bodyPost_ret (v:=.slice (some ⟨g,0,none⟩) (n+k+1) (n+k+1)) (by simp [results,Tryz.results169,go_sem]) rfl ?_;have y:=A.out.keep0 x;rw [o] at y;have u:=C.out.set 0 O y;simp only [Nat.zero_mul,Nat.zero_add] at u;rw [o];exact ⟨g,rfl,by have:=p.out;omega,u.1,aj (r:=none) x u.2.1 (fun _ _ e=>e) (fun b hb e=>by have:=zJ e;have:=p.out;omega)⟩
attribute [local simp] gY cM fT lu
theorem sC (c f g K k:Nat) (R:Nat->Rat) (q:Rat) (z:Value) (L:Nat) (w:World) (h:w.cell? ⟨c,4,none⟩=some (.func (.func 107) #[] #[])) (u:w.cell? ⟨f,0,none⟩=some (.slice (some ⟨g,0,none⟩) K K)) (b:aI w g K R L) (hy:FQ w z q L)
  (hk:k<K) (hK:K<=3000) (hbf:g≠c) (hbv:g≠f) (hL:L<=100000000) (hfit:bh L (R k+q)) :
  Calls Tryz.prog 199 #[.int .i64 ((k:Nat):Int),z,.pointer (some ⟨c,0,none⟩),.pointer (some ⟨f,0,none⟩)] w
   fun e d=>e=.returned (.tuple #[])/\aI d g K (aQ R k (R k+q)) L/\aO w d g:=by
 have D:=aa b;have E:=aa hy;have F:=aa hfit;have G:=b.lt;have v:=cJ h;have x:=cJ u;simp only at v x;obtain ⟨l,m,n,o,p,r,rfl⟩:=hy.shape;obtain ⟨V,X,Y,vo,vl,vc,y,r1,r2,B,_⟩:=b.at k hk;have H:=aa B;clear b hy hfit B;obtain ⟨W,s⟩:=eX (w.alloc (Obj.cells #[.bool (rB q),.slice l m n,.slice o p r] 85));have i:Hid (w.grownBy W none):=by rw [s];exact ae (ag _ _) _
 have A:Hid (∀ wx,W.grownBy wx none->wx.cell? ⟨c,4,none⟩=some (.func (.func 107) #[] #[])/\wx.cell? ⟨f,0,none⟩=some (.slice (some ⟨g,0,none⟩) K K)/\cM wx (w.heap.size) (.bool (rB q)) (.slice l m n) (.slice o p r)):=by
  intro wx hg;have a:=ab i hg;rw [s] at hg;exact ⟨a.cell h Z,a.cell u Z,aJ hg⟩
 have j:Hid (∀ wx,W.grownBy wx none->aI wx g K R L/\fT wx g k (.bool (rB (R k))) (.slice V X Y) (.slice vo vl vc)/\∀ k,wx.frozen? ⟨g,k,none⟩=false):=by
  intro wx hg;have a:=ab i hg;have b:=D.out.keep0 a;obtain ⟨_,_,_,_,_,_,_,_,_,_,h⟩:=b.at k hk;exact ⟨b,(show fT _ _ _ _ _ _ from ⟨y,r1,r2⟩).k0 a,h⟩
 clear h u y r1 r2;have I:g≠w.heap.size:=O
 have J:((k:Nat):Int)<(K:Int):=O
 have M:(0:Int)<=((k:Nat):Int):=O
 have GG:W.grownBy W none:=ag _ _;have s0:=A.out W GG;obtain ⟨fr,y,rf⟩:=j.out W GG;clear fr rf;go_enter Tryz.func199,Tryz.ntmps199
 go_wp2;rw [<- s];clear s;refine hd (fun d=>d.cell? ⟨c,4,none⟩=some (.func (.func 107) #[] #[])/\d.cell? ⟨f,0,none⟩=some (.slice (some ⟨g,0,none⟩) K K)/\cM d (w.heap.size) (.bool (rB q)) (.slice l m n) (.slice o p r)) (fun hHeld=>?_);refine tk 4 [(0,6,.slice (some ⟨g,0,none⟩) K K),(1,7,.int .i64 ((k:Nat):Int)),(2,8,.pointer (some ⟨c,4,none⟩)),(3,9,.func (.func 107) #[] #[]),(4,10,.slice (some ⟨g,0,none⟩) K K),(5,11,.int .i64 ((k:Nat):Int)),(6,12,.pointer (some ⟨g,k*3,none⟩)),(8,14,Value.agg #[.bool (rB q),.slice l m n,.slice o p r])] ?_;try simp only [pA,pL,vA,vL,q0,q1,q2,q3]
 refine cQ 3 7 (fun K hK=>?_);simp only [ax,q4,q5,q6,q7];go_simp
 refine bk hK (fun hHeld=>?_);clear hK K;try simp only [pA,pL,vA,vL,q0,q1,q2,q3]
 refine cQ 2 9 (fun K hK=>?_);simp only [ax,q4,q5,q6,q7];go_simp
 go_at_call 107
 refine (mX _ _ (R k) q L L _ (H.keep0 (ab i (gx GG))) (E.keep0 (ab i (gx GG))) O).mono ?_;rintro e C ⟨vm,rfl,pm,gm⟩;have pm:=pm.tight (L':=L) F;obtain ⟨mo,ml,mc,no,nl,nc,rfl⟩:=pm.shape;have GG:=ab (gx GG) gm;have b0:=A.out C GG;obtain ⟨fr,d0,t⟩:=j.out C GG;have N:=t (k*3);have P:=t (k*3+1);have Q:=t (k*3+2);clear t;go_wp2_with fail;refine bk hK (fun hHeld=>?_);clear hK K;refine tk 1 [(10,16,.pointer (some ⟨g,k*3,none⟩))] ?_;try simp only [pA,pL,vA,vL,q0,q1,q2,q3]
 refine cQ 0 11 (fun K hK=>?_);simp only [ax,q4,q5,q6,q7];go_simp
 refine bk hK (fun hHeld=>?_);clear hK K;try simp only [pA,pL,vA,vL,q0,q1,q2,q3]
 refine wpAnyH_done zK ?_ _;have S:=aa fr;have T:=aa pm;have U:=aa GG;clear fr pm GG;go_wp2;go_end0
 obtain ⟨y1,y2,y3⟩:=S.out.set k hk T;exact ⟨rfl,y1,(aO.of_gr (ab i U)).trans ⟨y2,y3⟩⟩
theorem qF (c f g K k:Nat) (R:Nat->Rat) (q:Rat) (z:Value) (L:Nat) (w:World) (h:w.cell? ⟨c,5,none⟩=some (.func (.func 67) #[] #[])) (u:w.cell? ⟨f,0,none⟩=some (.slice (some ⟨g,0,none⟩) K K)) (b:aI w g K R L) (hy:FQ w z q L)
  (hk:k<K) (hK:K<=3000) (hbf:g≠c) (hbv:g≠f) (hL:L<=100000000) (hfit:bh L (R k-q)) :
  Calls Tryz.prog 200 #[.int .i64 ((k:Nat):Int),z,.pointer (some ⟨c,0,none⟩),.pointer (some ⟨f,0,none⟩)] w
   fun e d=>e=.returned (.tuple #[])/\aI d g K (aQ R k (R k-q)) L/\aO w d g:=by
 have D:=aa b;have E:=aa hy;have F:=aa hfit;have G:=b.lt;have v:=cJ h;have x:=cJ u;simp only at v x;obtain ⟨l,m,n,o,p,r,rfl⟩:=hy.shape;obtain ⟨V,X,Y,vo,vl,vc,y,r1,r2,B,_⟩:=b.at k hk;have H:=aa B;clear b hy hfit B;obtain ⟨W,s⟩:=eX (w.alloc (Obj.cells #[.bool (rB q),.slice l m n,.slice o p r] 85));have i:Hid (w.grownBy W none):=by rw [s];exact ae (ag _ _) _
 have A:Hid (∀ wx,W.grownBy wx none->wx.cell? ⟨c,5,none⟩=some (.func (.func 67) #[] #[])/\wx.cell? ⟨f,0,none⟩=some (.slice (some ⟨g,0,none⟩) K K)/\cM wx (w.heap.size) (.bool (rB q)) (.slice l m n) (.slice o p r)):=by
  intro wx hg;have a:=ab i hg;rw [s] at hg;exact ⟨a.cell h Z,a.cell u Z,aJ hg⟩
 have j:Hid (∀ wx,W.grownBy wx none->aI wx g K R L/\fT wx g k (.bool (rB (R k))) (.slice V X Y) (.slice vo vl vc)/\∀ k,wx.frozen? ⟨g,k,none⟩=false):=by
  intro wx hg;have a:=ab i hg;have b:=D.out.keep0 a;obtain ⟨_,_,_,_,_,_,_,_,_,_,h⟩:=b.at k hk;exact ⟨b,(show fT _ _ _ _ _ _ from ⟨y,r1,r2⟩).k0 a,h⟩
 clear h u y r1 r2;have I:g≠w.heap.size:=O
 have J:((k:Nat):Int)<(K:Int):=O
 have M:(0:Int)<=((k:Nat):Int):=O
 have GG:W.grownBy W none:=ag _ _;have s0:=A.out W GG;obtain ⟨fr,y,rf⟩:=j.out W GG;clear fr rf;go_enter Tryz.func200,Tryz.ntmps200
 go_wp2;rw [<- s];clear s;refine hd (fun d=>d.cell? ⟨c,5,none⟩=some (.func (.func 67) #[] #[])/\d.cell? ⟨f,0,none⟩=some (.slice (some ⟨g,0,none⟩) K K)/\cM d (w.heap.size) (.bool (rB q)) (.slice l m n) (.slice o p r)) (fun hHeld=>?_);refine tk 4 [(0,6,.slice (some ⟨g,0,none⟩) K K),(1,7,.int .i64 ((k:Nat):Int)),(2,8,.pointer (some ⟨c,5,none⟩)),(3,9,.func (.func 67) #[] #[]),(4,10,.slice (some ⟨g,0,none⟩) K K),(5,11,.int .i64 ((k:Nat):Int)),(6,12,.pointer (some ⟨g,k*3,none⟩)),(8,14,Value.agg #[.bool (rB q),.slice l m n,.slice o p r])] ?_;try simp only [pA,pL,vA,vL,q0,q1,q2,q3]
 refine cQ 3 7 (fun K hK=>?_);simp only [ax,q4,q5,q6,q7];go_simp
 refine bk hK (fun hHeld=>?_);clear hK K;try simp only [pA,pL,vA,vL,q0,q1,q2,q3]
 refine cQ 2 9 (fun K hK=>?_);simp only [ax,q4,q5,q6,q7];go_simp
 go_at_call 67
 refine (dD _ _ (R k) q L L _ (H.keep0 (ab i (gx GG))) (E.keep0 (ab i (gx GG))) O).mono ?_;rintro e C ⟨vm,rfl,pm,gm⟩;have pm:=pm.tight (L':=L) F;obtain ⟨mo,ml,mc,no,nl,nc,rfl⟩:=pm.shape;have GG:=ab (gx GG) gm;have b0:=A.out C GG;obtain ⟨fr,d0,t⟩:=j.out C GG;have N:=t (k*3);have P:=t (k*3+1);have Q:=t (k*3+2);clear t;go_wp2_with fail;refine bk hK (fun hHeld=>?_);clear hK K;refine tk 1 [(10,16,.pointer (some ⟨g,k*3,none⟩))] ?_;try simp only [pA,pL,vA,vL,q0,q1,q2,q3]
 refine cQ 0 11 (fun K hK=>?_);simp only [ax,q4,q5,q6,q7];go_simp
 refine bk hK (fun hHeld=>?_);clear hK K;try simp only [pA,pL,vA,vL,q0,q1,q2,q3]
 refine wpAnyH_done zK ?_ _;have S:=aa fr;have T:=aa pm;have U:=aa GG;clear fr pm GG;go_wp2;go_end0
 obtain ⟨y1,y2,y3⟩:=S.out.set k hk T;exact ⟨rfl,y1,(aO.of_gr (ab i U)).trans ⟨y2,y3⟩⟩
def lU (n i K xa xb xc xd:Nat) (qa qf ql qs:Rat):Nat->Rat :=
 aQ (aQ (aQ (aQ (aQ (aQ (fun _=>0) xa (0+qa)) xb (aQ (fun _=>0) xa (0+qa) xb-qa)) xc (aQ (aQ (fun _=>0) xa (0+qa)) xb (aQ (fun _=>0) xa (0+qa) xb-qa) xc+ql)) xd (aQ (aQ (aQ (fun _=>0) xa (0+qa)) xb (aQ (fun _=>0) xa (0+qa) xb-qa)) xc (aQ (aQ (fun _=>0) xa (0+qa)) xb (aQ (fun _=>0) xa (0+qa) xb-qa) xc+ql) xd-ql)) (n+i) qf) (K-1) qs
theorem yz (fb:Bool) (fo T:Option Addr) (fl fc U V:Nat) (n i l m A N:Nat) (pv:Value) (f:List aD) (h P p Q:Rat) (ko lo so wo C D q s:Option Addr) (kl kc E F ll lc G H sl sc t u wl wc x y:Nat) (L:Nat) (w:World) (hp:aA w pv f) (hi:i<f.length)
  (ea:f[i].a=(l:Int)) (eb:f[i].b=(m:Int)) (ec:f[i].c=(A:Int)) (ed:f[i].d=(N:Int)) (ha:l<n) (hb:m<n) (hc:A<n) (hd:N<n)
  (hav:FQ w (.agg #[.bool (rB h),.slice ko kl kc,.slice C E F]) h L) (hfv:FQ w (.agg #[.bool (rB P),.slice wo wl wc,.slice s x y]) P L) (hlv:FQ w (.agg #[.bool (rB p),.slice lo ll lc,.slice D G H]) p L) (hsv:FQ w (.agg #[.bool (rB Q),.slice so sl sc,.slice q t u]) Q L) (hn:n<=1000) (hk:f.length<=1000) (hL:L<=100000000)
  (h1:bh L (0+h)) (h2:bh L (aQ (fun _=>0) l (0+h) m-h)) (h3:bh L (aQ (aQ (fun _=>0) l (0+h)) m (aQ (fun _=>0) l (0+h) m-h) A+p))
  (h4:bh L (aQ (aQ (aQ (fun _=>0) l (0+h)) m (aQ (fun _=>0) l (0+h) m-h)) A (aQ (aQ (fun _=>0) l (0+h)) m (aQ (fun _=>0) l (0+h) m-h) A+p) N-p)) :
  Calls Tryz.prog 170 #[(kq fb (.slice fo fl fc) (.slice T U V)),.agg #[.int .i64 ((n:Nat):Int),pv],.int .i64 ((i:Nat):Int),.agg #[.bool (rB h),.slice ko kl kc,.slice C E F,.bool (rB P),.slice wo wl wc,.slice s x y,.bool (rB p),.slice lo ll lc,.slice D G H,.bool (rB Q),.slice so sl sc,.slice q t u]] w
   fun e w'=>pO w (n+f.length+1) (lU n i (n+f.length+1) l m A N h P p Q) L e w':=by
 have HP:=aa hp;obtain ⟨ao,cap,rfl,hM,hw,hs⟩:=hp;unfold maxLen at hw;obtain ⟨b,off,rfl,hN,c0,c1,c2,c3,c4,c5,c6⟩:=hs i hi;rw [ea] at c1;rw [eb] at c2;rw [ec] at c3;rw [ed] at c4;have HA:=aa hav;have HF:=aa hfv;have HL:=aa hlv;have HS:=aa hsv;have T1:=aa h1;have T2:=aa h2;have T3:=aa h3;have T4:=aa h4;clear hs hav hfv hlv hsv h1 h2 h3 h4 ea eb ec ed;obtain ⟨kd,hu⟩:=eX (f[i].kind);obtain ⟨vv,hv⟩:=eX (f[i].v);rw [<- hu] at c0;rw [<- hv] at c5;clear hu hv c6;obtain ⟨W,hW⟩:=eX (((w.alloc (Obj.cells #[.bool fb,.slice fo fl fc,.slice T U V,.func (.func 129) #[] #[],.func (.func 107) #[] #[],.func (.func 67) #[] #[],.func (.func 38) #[] #[],.func (.func 130) #[] #[],.func (.func 131) #[] #[],.func (.func 132) #[] #[],.func (.func 133) #[] #[]] 128)).alloc (Obj.cells #[.int .i64 ((n:Nat):Int),.slice (some ⟨b,off,none⟩) f.length cap] 24)).alloc (Obj.cells #[.bool (rB h),.slice ko kl kc,.slice C E F,.bool (rB P),.slice wo wl wc,.slice s x y,.bool (rB p),.slice lo ll lc,.slice D G H,.bool (rB Q),.slice so sl sc,.slice q t u] 182));have GW:Hid (w.grownBy W none):=by rw [hW];exact ae (ae (ae (ag _ _) _) _) _
 have ho:Hid (W.heap.size=w.heap.size+3):=by show _=_;rw [hW];simp
 have o:Hid (∀ wx g,W.heap.size<=g->W.grownBy wx (some g)->(gY wx (w.heap.size)/\wx.cell? ⟨w.heap.size+1,0,none⟩=some (.int .i64 ((n:Nat):Int))/\wx.cell? ⟨w.heap.size+1+1,0,none⟩=some (.bool (rB h))/\wx.cell? ⟨w.heap.size+1+1,1,none⟩=some (.slice ko kl kc)/\wx.cell? ⟨w.heap.size+1+1,2,none⟩=some (.slice C E F)/\wx.cell? ⟨w.heap.size+1+1,3,none⟩=some (.bool (rB P))/\wx.cell? ⟨w.heap.size+1+1,4,none⟩=some (.slice wo wl wc)/\wx.cell? ⟨w.heap.size+1+1,5,none⟩=some (.slice s x y)/\wx.cell? ⟨w.heap.size+1+1,6,none⟩=some (.bool (rB p))/\wx.cell? ⟨w.heap.size+1+1,7,none⟩=some (.slice lo ll lc)/\wx.cell? ⟨w.heap.size+1+1,8,none⟩=some (.slice D G H)/\wx.cell? ⟨w.heap.size+1+1,9,none⟩=some (.bool (rB Q))/\wx.cell? ⟨w.heap.size+1+1,10,none⟩=some (.slice so sl sc)/\wx.cell? ⟨w.heap.size+1+1,11,none⟩=some (.slice q t u))/\wx.cell? ⟨w.heap.size+1,1,none⟩=some (.slice (some ⟨b,off,none⟩) f.length cap)):=by
  intro wx g hK hg;have hG:=ho.out;have R:some w.heap.size≠some g:=fun e=>by have:=zJ e;omega
  have fd:=(mg fb fo T fl fc U V (w:=W) (by rw [hW];exact ae (ae (ag _ _) _) _)).1.k hg R;rw [hW] at hg;have n2:some (w.heap.size+1)≠some g:=fun e=>by have:=zJ e;omega
  have n3:some (w.heap.size+1+1)≠some g:=fun e=>by have:=zJ e;omega
  exact ⟨⟨fd,hg.cell zG n2,hg.cell zG n3,hg.cell zG n3,hg.cell zG n3,hg.cell zG n3,hg.cell zG n3,hg.cell zG n3,hg.cell zG n3,hg.cell zG n3,hg.cell zG n3,hg.cell zG n3,hg.cell zG n3,hg.cell zG n3⟩,hg.cell zG n2⟩
 have s0:=o.out W W.heap.size zL (ag _ _);go_enter Tryz.func170,Tryz.ntmps170
 go_upto_region 1 with fail;rw [<- hW];clear hW;go_wp2_with fail;refine (kL n f.length (some ⟨b,off,none⟩) cap W hn hk).mono ?_;rintro e w1 ⟨g,rfl,hf,hj,I⟩;have F1:=aa (hj.mono (Nat.zero_le L));have G1:=aa I;have GA:=aa (ab GW I);have hH:w.heap.size+3<=g:=by have:=ho.out;omega
 have hy:g<w1.heap.size:=hj.lt;have hz:w.heap.size+3<=w1.heap.size:=O
 clear hj I s0;have s0:=o.out w1 g hf (aO.of_gr G1).1;go_upto_region 2 with fail;obtain ⟨B,J⟩:=eX (w1.alloc (Obj.cells #[.slice (some ⟨g,0,none⟩) (n+f.length+1) (n+f.length+1)] 76));have G2:Hid (w1.grownBy B none):=by rw [J];exact ae (ag _ _) _
 have hq:Hid (B.heap.size=w1.heap.size+1):=by show _=_;rw [J];simp
 have V2:Hid (B.cell? ⟨w1.heap.size,0,none⟩=some (.slice (some ⟨g,0,none⟩) (n+f.length+1) (n+f.length+1))):=by show _=_;rw [J];go_simp
 rw [<- J];clear J s0;generalize hbv:w1.heap.size=bv at *;have z:=aa (ab GA G2);have s0:=o.out B g hf (aO.of_gr (ab G1 G2)).1;have p0:=z.out.cell c0 Z;have p1:=z.out.cell c1 Z;have p2:=z.out.cell c2 Z;have p3:=z.out.cell c3 Z;have p4:=z.out.cell c4 Z;have p5:=z.out.cell c5 Z;clear c0 c1 c2 c3 c4 c5;go_upto_region 3 with fail;obtain ⟨w3,K⟩:=eX (B.alloc (Obj.cells #[.int .i64 kd,.int .i64 ((l:Nat):Int),.int .i64 ((m:Nat):Int),.int .i64 ((A:Nat):Int),.int .i64 ((N:Nat):Int),.string vv] 60));have G3:Hid (B.grownBy w3 none):=by rw [K];exact ae (ag _ _) _
 have PC:Hid (∀ wx,w3.grownBy wx (some g)->wx.cell? ⟨B.heap.size,1,none⟩=some (.int .i64 ((l:Nat):Int))/\wx.cell? ⟨B.heap.size,2,none⟩=some (.int .i64 ((m:Nat):Int))/\wx.cell? ⟨B.heap.size,3,none⟩=some (.int .i64 ((A:Nat):Int))/\wx.cell? ⟨B.heap.size,4,none⟩=some (.int .i64 ((N:Nat):Int))):=by
  intro wx hg;rw [K] at hg;have R:some B.heap.size≠some g:=fun e=>by have:=zJ e;have:=hq.out;omega
  exact ⟨hg.cell zG R,hg.cell zG R,hg.cell zG R,hg.cell zG R⟩
 rw [<- K];clear K s0 p0 p1 p2 p3 p4 p5;generalize B.heap.size=bp at *;have GB:=aa (ab G2 G3);have j:Hid (∀ wx,aO w3 wx g->(gY wx (w.heap.size)/\wx.cell? ⟨w.heap.size+1,0,none⟩=some (.int .i64 ((n:Nat):Int))/\wx.cell? ⟨w.heap.size+1+1,0,none⟩=some (.bool (rB h))/\wx.cell? ⟨w.heap.size+1+1,1,none⟩=some (.slice ko kl kc)/\wx.cell? ⟨w.heap.size+1+1,2,none⟩=some (.slice C E F)/\wx.cell? ⟨w.heap.size+1+1,3,none⟩=some (.bool (rB P))/\wx.cell? ⟨w.heap.size+1+1,4,none⟩=some (.slice wo wl wc)/\wx.cell? ⟨w.heap.size+1+1,5,none⟩=some (.slice s x y)/\wx.cell? ⟨w.heap.size+1+1,6,none⟩=some (.bool (rB p))/\wx.cell? ⟨w.heap.size+1+1,7,none⟩=some (.slice lo ll lc)/\wx.cell? ⟨w.heap.size+1+1,8,none⟩=some (.slice D G H)/\wx.cell? ⟨w.heap.size+1+1,9,none⟩=some (.bool (rB Q))/\wx.cell? ⟨w.heap.size+1+1,10,none⟩=some (.slice so sl sc)/\wx.cell? ⟨w.heap.size+1+1,11,none⟩=some (.slice q t u))/\wx.cell? ⟨bv,0,none⟩=some (.slice (some ⟨g,0,none⟩) (n+f.length+1) (n+f.length+1))/\wx.cell? ⟨bp,1,none⟩=some (.int .i64 ((l:Nat):Int))/\wx.cell? ⟨bp,2,none⟩=some (.int .i64 ((m:Nat):Int))/\wx.cell? ⟨bp,3,none⟩=some (.int .i64 ((A:Nat):Int))/\wx.cell? ⟨bp,4,none⟩=some (.int .i64 ((N:Nat):Int))):=by
  intro wx hx;have R:some bv≠some g:=fun e=>by have:=zJ e;omega
  exact ⟨(o wx g hf (aj (r:=some g) (ab G1 GB) hx.1 nofun (fun _ _ e=>e))).1,hx.1.cell (G3.cell V2 Z) R,PC wx hx.1⟩
 have F3:=aa (F1.keep0 GB);have R3:=aa (aO.refl w3 g);have Z3:=aa (aN.of_gr (ab GA GB));have s0:=j.out w3 R3;go_wp2_with fail;refine (sC w.heap.size bv g (n+f.length+1) l (fun _=>0) h _ L _ s0.1.1.2.1 s0.2.1 F3 (HA.kept Z3) O O O O hL T1).mono ?_;rintro e w4 ⟨rfl,f4,g4⟩;have F4:=aa f4;have R4:=aa (R3.trans g4);have Z4:=aa (Z3.trans g4.2);clear f4 g4 s0;have s0:=j.out w4 R4;go_wp2_with fail;refine (qF w.heap.size bv g (n+f.length+1) m (aQ (fun _=>0) l (0+h)) h _ L _ s0.1.1.2.2.1 s0.2.1 F4 (HA.kept Z4) O O O O hL T2).mono ?_;rintro e w5 ⟨rfl,f5,g5⟩;have F5:=aa f5;have R5:=aa (R4.trans g5);have Z5:=aa (Z4.trans g5.2);clear f5 g5 s0;have s0:=j.out w5 R5;go_wp2_with fail;refine (sC w.heap.size bv g (n+f.length+1) A (aQ (aQ (fun _=>0) l (0+h)) m ((aQ (fun _=>0) l (0+h)) m-h)) p _ L _ s0.1.1.2.1 s0.2.1 F5 (HL.kept Z5) O O O O hL T3).mono ?_;rintro e w6 ⟨rfl,f6,g6⟩;have F6:=aa f6;have R6:=aa (R5.trans g6);have Z6:=aa (Z5.trans g6.2);clear f6 g6 s0;have s0:=j.out w6 R6;go_wp2_with fail;refine (qF w.heap.size bv g (n+f.length+1) N (aQ (aQ (aQ (fun _=>0) l (0+h)) m ((aQ (fun _=>0) l (0+h)) m-h)) A ((aQ (aQ (fun _=>0) l (0+h)) m ((aQ (fun _=>0) l (0+h)) m-h)) A+p)) p _ L _ s0.1.1.2.2.1 s0.2.1 F6 (HL.kept Z6) O O O O hL T4).mono ?_
 rintro e w7 ⟨rfl,f7,g7⟩;have F7:=aa f7;have R7:=aa (R6.trans g7);have Z7:=aa (Z6.trans g7.2);clear f7 g7 s0;have s0:=j.out w7 R7;have hI:IntKind.i64.wrap ((n:Int)+(i:Int))=(n:Int)+(i:Int):=IntWalk.i64_in _ ⟨O,O⟩;have hA:(0:Int)<=(n:Int)+(i:Int):=O
 have hB:(n:Int)+(i:Int)<(n:Int)+(f.length:Int)+1:=O
 have hr:n+i<n+f.length+1:=O
 obtain ⟨_,_,_,_,_,_,d0,d1,d2,_,M⟩:=F7.out.at (n+i) hr;have X:=M ((n+i)*3);have Y:=M ((n+i)*3+1);have he:=M ((n+i)*3+2);clear M;go_upto_region 10 with fail;obtain ⟨w8,hl⟩:=eX (((w7.setCell ⟨g,(n+i)*3,none⟩ (.bool (rB P))).setCell ⟨g,(n+i)*3+1,none⟩ (.slice wo wl wc)).setCell ⟨g,(n+i)*3+2,none⟩ (.slice s x y));obtain ⟨y1,y2,S⟩:=F7.out.set (n+i) hr (HF.kept Z7);rw [<- hl] at y1 y2 S;rw [<- hl];have F8:=aa y1;have R8:=aa (R7.trans ⟨y2,S⟩);have Z8:=aa (Z7.trans S);clear hl y1 y2 S d0 d1 d2 X Y he s0;have s0:=j.out w8 R8;obtain ⟨_,_,_,_,_,_,d0,d1,d2,_,M⟩:=F8.out.at (n+f.length) O;have X:=M ((n+f.length)*3);have Y:=M ((n+f.length)*3+1);have he:=M ((n+f.length)*3+2);clear M;have hC:IntKind.i64.wrap ((n:Int)+(f.length:Int))=(n:Int)+(f.length:Int):=IntWalk.i64_in _ ⟨O,O⟩;have hD:IntKind.i64.wrap ((n:Int)+(f.length:Int)+1-1)=(n:Int)+(f.length:Int):=by rw [IntWalk.i64_in _ ⟨O,O⟩];omega
 have hE:(0:Int)<=(n:Int)+(f.length:Int):=O
 have hF:(n:Int)+(f.length:Int)<(n:Int)+(f.length:Int)+1:=O
 go_upto_region 11 with fail;obtain ⟨w9,hm⟩:=eX (((w8.setCell ⟨g,(n+f.length)*3,none⟩ (.bool (rB Q))).setCell ⟨g,(n+f.length)*3+1,none⟩ (.slice so sl sc)).setCell ⟨g,(n+f.length)*3+2,none⟩ (.slice q t u));obtain ⟨y1,y2,S⟩:=F8.out.set (n+f.length) O (HS.kept Z8);rw [<- hm] at y1 y2 S;rw [<- hm];have F9:=aa y1;have R9:=aa (R8.trans ⟨y2,S⟩);clear hm y1 y2 S d0 d1 d2 X Y he s0;have s0:=j.out w9 R9;go_wp2;refine bodyPost_ret (v:=.slice (some ⟨g,0,none⟩) (n+f.length+1) (n+f.length+1)) (by simp [results,Tryz.results170,go_sem]) rfl ?_;exact ⟨g,rfl,O,F9,aj (r:=none) (ab GA GB) R9.1 (fun _ _ e=>e) (fun b hb e=>by have:=zJ e;omega)⟩
theorem ofId_at (x:Value) (q:Rat) (L:Nat) (w:World) (a:FQ w x q L) :
  Calls Tryz.prog 129 #[x] w fun e j=>Cm w q L e j:=by
 have c:=aa a;obtain ⟨d,f,g,b,h,i,rfl⟩:=a.shape;clear a;go_enter Tryz.func129,Tryz.ntmps129
 go_wp2;refine bodyPost_ret (v:=.agg #[.bool (rB q),.slice d f g,.slice b h i]) (by simp [results,Tryz.results129,go_sem]) rfl ?_;exact ⟨_,rfl,c.keep0 (ae (ae (ag _ _) _) _),ae (ae (ag _ _) _) _⟩
theorem jt (x:Value) (q:Rat) (s f:Nat) (L:Nat) (w:World) (g:FQ w x q L) (t:w.cell? ⟨s,5,none⟩=some (.func (.func 67) #[] #[]))
  (z0:w.cell? ⟨f,0,none⟩=some (.bool false)) (z1:w.cell? ⟨f,1,none⟩=some (.slice none 0 0)) (z2:w.cell? ⟨f,2,none⟩=some (.slice none 0 0)) (hL1:1<=L) (hL:L<=100000000) :
  Calls Tryz.prog 134 #[x,.pointer (some ⟨s,0,none⟩),.pointer (some ⟨f,0,none⟩)] w fun e R=>Cm w (0-q) L e R:=by
 have B:=aa g;have j:Hid (bh L (0-q)):=by
  have e:0-q = -q:=by grind
  rw [e];exact (g.fits hL1).neg
 obtain ⟨k,l,m,b,n,o,rfl⟩:=g.shape;clear g;obtain ⟨W,d⟩:=eX ((w.alloc (Obj.cells #[.bool (rB q),.slice k l m,.slice b n o] 85)).alloc (Obj.cells #[.bool false,.slice none 0 0,.slice none 0 0] 85));have c:Hid (w.grownBy W none):=by rw [d];exact ae (ae (ag _ _) _) _
 have a:Hid (∀ wx,W.grownBy wx none->(wx.cell? ⟨w.heap.size,0,none⟩=some (.bool (rB q))/\wx.cell? ⟨w.heap.size,1,none⟩=some (.slice k l m)/\wx.cell? ⟨w.heap.size,2,none⟩=some (.slice b n o))/\(wx.cell? ⟨w.heap.size+1,0,none⟩=some (.bool false)/\wx.cell? ⟨w.heap.size+1,1,none⟩=some (.slice none 0 0)/\wx.cell? ⟨w.heap.size+1,2,none⟩=some (.slice none 0 0)/\∀ i,wx.frozen? ⟨w.heap.size+1,i,none⟩=false)):=by
  intro wx hg;rw [d] at hg;have C:=aJ (ab (ae (ag _ none) _) hg);have u:=aV hg;have D:(w.alloc (Obj.cells #[.bool (rB q),.slice k l m,.slice b n o] 85)).heap.size=w.heap.size+1:=Z
  rw [D] at u;exact ⟨C,u⟩
 have E:Hid (∀ wx,W.grownBy wx none->bM wx (w.heap.size+1)):=by
  intro wx hg;rw [d] at hg;have:=bu hg;simpa using this
 have k0:=c.out.cell t Z;have k1:=c.out.cell z0 Z;have S:=c.out.cell z1 Z;have T:=c.out.cell z2 Z;obtain ⟨⟨s0,s1,s2⟩,⟨U,r1,r2,J⟩⟩:=a.out W (ag _ _);clear t z0 z1 z2 J;go_enter Tryz.func134,Tryz.ntmps134
 go_upto_region 1 with fail;rw [<- d];clear d;go_wp2_with fail;have y:=bN W L;refine (dD _ _ 0 q L L _ (by exact y) (B.keep0 c) O).mono ?_;rintro e A ⟨v,rfl,p,r⟩;have F:=aa (p.tight (L':=L) j);obtain ⟨K,al,M,N,P,Q,rfl⟩:=p.shape;have z:=aa r;obtain ⟨⟨V,X,Y⟩,⟨q0,q1,q2,h⟩⟩:=a.out A r;have G:=h 0;have H:=h 1;have I:=h 2;clear p r h y;go_wp2;refine bodyPost_ret (v:=.agg #[.bool (rB (0-q)),.slice K al M,.slice N P Q]) (by first | (simp [results,Tryz.results134,go_sem,q0,q1,q2];done) | (simp [results,Tryz.results134,go_sem,q0,q1,q2];rfl)) rfl ?_;exact ⟨_,rfl,FV.other F (E A z) bH,ah (ah (ah (ab c z) _ _ Z) _ _ Z) _ _ Z⟩
def bP (k:Int) (v:Rat):Rat:=if k=1 then 1 else if k=2 then 1 else if k=3 then 0 else if k=4 then 1 else if k=6 then 1 else 0
def bQ (k:Int) (v:Rat):Rat:=if k=1 then 0-v else if k=2 then 0 else if k=3 then 1 else if k=4 then 0 else if k=6 then 0 else 1
def cT (k:Int) (v:Rat):Rat:=if k=6 then 0-v else if k=7 then 0-v else 0
def cL (k:Int) (v:Rat):Rat:=if k=1 then 0 else if k=2 then 0 else if k=3 then 0 else if k=4 then v else if k=6 then 0 else if k=7 then 0 else v
def LawE (w:World) (qa qf ql qs:Rat) (L:Nat) (e:Ending) (w':World):Prop :=
 ∃ u1 d1 u2 d2 u3 d3 u4 d4:Value,e=.returned (.agg #[.bool (rB qa),u1,d1,.bool (rB qf),u2,d2,.bool (rB ql),u3,d3,.bool (rB qs),u4,d4])
  /\ FQ w' (.agg #[.bool (rB qa),u1,d1]) qa L/\FQ w' (.agg #[.bool (rB qf),u2,d2]) qf L/\FQ w' (.agg #[.bool (rB ql),u3,d3]) ql L/\FQ w' (.agg #[.bool (rB qs),u4,d4]) qs L/\w.grownBy w' none
theorem rQ {L:Nat} (a:1<=L) (v:Rat):bh L (0*v):=by
 rw [Rat.zero_mul];exact (bN (default:World) L).fits a
theorem jK {w a h:World} {g L:Nat} {b c d e:Rat} {u1 i u2 j u3 k u4 l:Value} (f:bM a g) (gr:a.grownBy h (some g)) (m:w.grownBy h none)
  (h1:FQ a (.agg #[.bool (rB b),u1,i]) b L) (h2:FQ a (.agg #[.bool (rB c),u2,j]) c L) (h3:FQ a (.agg #[.bool (rB d),u3,k]) d L) (h4:FQ a (.agg #[.bool (rB e),u4,l]) e L) :
  LawE w b c d e L (.returned (.agg #[.bool (rB b),u1,i,.bool (rB c),u2,j,.bool (rB d),u3,k,.bool (rB e),u4,l])) h :=
 ⟨_,_,_,_,_,_,_,_,rfl,FV.other h1 f gr,FV.other h2 f gr,FV.other h3 f gr,FV.other h4 f gr,m⟩
theorem law_at (fb:Bool) (K m:Option Addr) (fl fc n o:Nat) (p:aD) (h A bs H:Nat) (mm:Int) (L:Nat) (w:World) (hu:w.cell? ⟨2,0,none⟩=some (.int .i64 mm))
  (hF:w.cell? ⟨h,0,none⟩=some (.bool fb)/\w.cell? ⟨h,1,none⟩=some (.slice K fl fc)/\w.cell? ⟨h,2,none⟩=some (.slice m n o)/\w.cell? ⟨h,3,none⟩=some (.func (.func 129) #[] #[])/\w.cell? ⟨h,4,none⟩=some (.func (.func 107) #[] #[])/\w.cell? ⟨h,5,none⟩=some (.func (.func 67) #[] #[])/\w.cell? ⟨h,6,none⟩=some (.func (.func 38) #[] #[])/\w.cell? ⟨h,7,none⟩=some (.func (.func 130) #[] #[])/\w.cell? ⟨h,8,none⟩=some (.func (.func 131) #[] #[])/\w.cell? ⟨h,9,none⟩=some (.func (.func 132) #[] #[])/\w.cell? ⟨h,10,none⟩=some (.func (.func 133) #[] #[])) (h1:FQ w (.agg #[.bool fb,.slice K fl fc,.slice m n o]) 1 L)
  (hop:w.cell? ⟨A,0,none⟩=some (.func (.func 134) #[] #[.pointer (some ⟨h,0,none⟩),.pointer (some ⟨H,0,none⟩)])) (hs:w.cell? ⟨bs,0,none⟩=some (.bool false)/\w.cell? ⟨bs,1,none⟩=some (.slice none 0 0)/\w.cell? ⟨bs,2,none⟩=some (.slice none 0 0)) (hz:w.cell? ⟨H,0,none⟩=some (.bool false)/\w.cell? ⟨H,1,none⟩=some (.slice none 0 0)/\w.cell? ⟨H,2,none⟩=some (.slice none 0 0)) (hsz:p.v.size+1<=L) (hL:L<=100000000) :
  Calls Tryz.prog 135 #[p.val,.pointer (some ⟨h,0,none⟩),.pointer (some ⟨A,0,none⟩),.pointer (some ⟨bs,0,none⟩)] w
   fun e f=>LawE w (bP p.kind (dh p.v.data.toList)) (bQ p.kind (dh p.v.data.toList)) (cT p.kind (dh p.v.data.toList)) (cL p.kind (dh p.v.data.toList)) L e f:=by
 have hw:=aa hu;obtain rfl:fb=rB 1:=FV.parts h1;have HF:=aa hF;have H1:=aa h1;have hx:=aa hop;have HS:=aa hs;have HZ:=aa hz;have M:1<=L:=O
 have lf:h<w.heap.size:=cJ hF.1;have lo:A<w.heap.size:=cJ hop;have ls:bs<w.heap.size:=cJ hs.1;have lz:H<w.heap.size:=cJ hz.1;obtain ⟨v,hv⟩:=eX (dh p.v.data.toList);rw [<- hv];have HV:=aa hv;clear hu hF h1 hop hs hz hv;unfold aD.val;obtain ⟨W,hW⟩:=eX ((w.alloc (Obj.cells #[.int .i64 p.kind,.int .i64 p.a,.int .i64 p.b,.int .i64 p.c,.int .i64 p.d,.string p.v] 60)).alloc (Obj.cells #[.bool false,.slice none 0 0,.slice none 0 0,.bool false,.slice none 0 0,.slice none 0 0,.bool false,.slice none 0 0,.slice none 0 0,.bool false,.slice none 0 0,.slice none 0 0] 182));have I:Hid (w.grownBy W none):=by rw [hW];exact ae (ae (ag _ _) _) _
 have N:Hid (W.heap.size=w.heap.size+2):=by show _=_;rw [hW];simp
 have BL:Hid (∀ wx,W.grownBy wx none->wx.heap[w.heap.size+1]? = some (Obj.cells #[.bool false,.slice none 0 0,.slice none 0 0,.bool false,.slice none 0 0,.slice none 0 0,.bool false,.slice none 0 0,.slice none 0 0,.bool false,.slice none 0 0,.slice none 0 0] 182 (0,0))):=by
  intro wx hg;rw [hg.block (w.heap.size+1) (by rw [N];omega) Z,hW];have:=heap_alloc_new (w.alloc (Obj.cells #[.int .i64 p.kind,.int .i64 p.a,.int .i64 p.b,.int .i64 p.c,.int .i64 p.d,.string p.v] 60)) (Obj.cells #[.bool false,.slice none 0 0,.slice none 0 0,.bool false,.slice none 0 0,.slice none 0 0,.bool false,.slice none 0 0,.slice none 0 0,.bool false,.slice none 0 0,.slice none 0 0] 182);simpa using this
 have G5:Hid (∀ wx,W.grownBy wx none->(wx.cell? ⟨w.heap.size+1,0,none⟩=some (.bool false)/\wx.cell? ⟨w.heap.size+1,1,none⟩=some (.slice none 0 0)/\wx.cell? ⟨w.heap.size+1,2,none⟩=some (.slice none 0 0)/\wx.cell? ⟨w.heap.size+1,3,none⟩=some (.bool false)/\wx.cell? ⟨w.heap.size+1,4,none⟩=some (.slice none 0 0)/\wx.cell? ⟨w.heap.size+1,5,none⟩=some (.slice none 0 0)/\wx.cell? ⟨w.heap.size+1,6,none⟩=some (.bool false)/\wx.cell? ⟨w.heap.size+1,7,none⟩=some (.slice none 0 0)/\wx.cell? ⟨w.heap.size+1,8,none⟩=some (.slice none 0 0)/\wx.cell? ⟨w.heap.size+1,9,none⟩=some (.bool false)/\wx.cell? ⟨w.heap.size+1,10,none⟩=some (.slice none 0 0)/\wx.cell? ⟨w.heap.size+1,11,none⟩=some (.slice none 0 0))/\(wx.frozen? ⟨w.heap.size+1,0,none⟩=false/\wx.frozen? ⟨w.heap.size+1,1,none⟩=false/\wx.frozen? ⟨w.heap.size+1,2,none⟩=false/\wx.frozen? ⟨w.heap.size+1,3,none⟩=false/\wx.frozen? ⟨w.heap.size+1,4,none⟩=false/\wx.frozen? ⟨w.heap.size+1,5,none⟩=false/\wx.frozen? ⟨w.heap.size+1,6,none⟩=false/\wx.frozen? ⟨w.heap.size+1,7,none⟩=false/\wx.frozen? ⟨w.heap.size+1,8,none⟩=false/\wx.frozen? ⟨w.heap.size+1,9,none⟩=false/\wx.frozen? ⟨w.heap.size+1,10,none⟩=false/\wx.frozen? ⟨w.heap.size+1,11,none⟩=false)):=by
  intro wx hg;have hy:=BL.out wx hg;refine ⟨⟨?_,?_,?_,?_,?_,?_,?_,?_,?_,?_,?_,?_⟩,⟨?_,?_,?_,?_,?_,?_,?_,?_,?_,?_,?_,?_⟩⟩<;>simp [World.cell?,World.frozen?,hy]
 have NW:Hid (∀ wx,W.grownBy wx none->bM wx (w.heap.size+1)):=by
  intro wx hg i x;simp only [World.cell?,BL.out wx hg];rcases i with _ | _ | _ | _ | _ | _ | _ | _ | _ | _ | _ | _ | i<;>simp
 have PC:Hid (∀ wx,W.grownBy wx none->wx.cell? ⟨w.heap.size,0,none⟩=some (.int .i64 p.kind)/\wx.cell? ⟨w.heap.size,5,none⟩=some (.string p.v)):=by
  intro wx hg;rw [hW] at hg;exact ⟨hg.cell zG Z,hg.cell zG Z⟩
 have CX:Hid (∀ wx,W.grownBy wx none->wx.cell? ⟨h,3,none⟩=some (.func (.func 129) #[] #[])/\wx.cell? ⟨w.heap.size,5,none⟩=some (.string p.v)):=fun wx hg=>⟨hg.cell (I.cell HF.2.2.2.1 Z) Z,(PC wx hg).2⟩
 have GG:W.grownBy W none:=ag _ _;obtain ⟨s0,s1⟩:=CX.out W GG;have hA:W.heap.size≠h:=by have:=N.out;omega
 have hB:W.heap.size≠w.heap.size:=by have:=N.out;omega
 go_enter Tryz.func135,Tryz.ntmps135
 go_upto_region 1 with fail;rw [<- hW];clear hW;go_cut [6] (fun s6 wx=>Hid (∃ gs,s6=.pointer (some ⟨gs,0,none⟩)/\W.heap.size<=gs/\aI wx gs 1 (fun _=>v) L/\W.grownBy wx none))
 case first =>
  go_region_held3 (fun f=>f.cell? ⟨h,3,none⟩=some (.func (.func 129) #[] #[])/\f.cell? ⟨w.heap.size,5,none⟩=some (.string p.v)) (go_keep)
   (first | (go_at_call 127;refine (DS p.v mm _ O ((ab GG (by first | exact bG _ | exact aX | exact ag _ _ | exact ae (bG _) _ | exact ae aX _ | exact ar (ae (ag _ _) _) 1 | exact ar (ae (ag _ _) _) _)).cell (I.cell hw Z) Z)).mono ?_;rintro e wa ⟨va,rfl,pa,ga⟩;rw [<- HV] at pa;have pa:=pa.mono hsz;obtain ⟨ao,al,ac,bo,bl,bc,rfl⟩:=pa.shape;have GG:W.grownBy wa none:=ab (ab GG (by first | exact bG _ | exact aX | exact ag _ _ | exact ae (bG _) _ | exact ae aX _ | exact ar (ae (ag _ _) _) 1 | exact ar (ae (ag _ _) _) _)) ga;obtain ⟨a0,a1⟩:=CX.out wa GG;have hE:wa.heap.size≠h:=(by have:=GG.size;have:=N.out;omega);have hG:wa.heap.size≠w.heap.size:=(by have:=GG.size;have:=N.out;omega);(try (have gy:=ab (ar (ag (W.alloc (Obj.cells #[.bool false,.slice none 0 0,.slice none 0 0] 85)) none) 1) ga;obtain ⟨hp,hq,hr,j⟩:=aV gy;have hj:=j 0;have hk:=j 1;have hl:=j 2;clear j))) | (go_at_call 129;refine (ofId_at _ v L _ (pa.keep0 (by first | exact bG _ | exact aX | exact ag _ _ | exact ae (bG _) _ | exact ae aX _ | exact ar (ae (ag _ _) _) 1 | exact ae (ag _ _) _))).mono ?_;rintro e wx ⟨vx,rfl,B,gx⟩;obtain ⟨po,pl,pc,qo,ql,qc,rfl⟩:=B.shape;have hm:=GG;have GG:W.grownBy wx none:=ab (ab hm (by first | exact bG _ | exact aX | exact ag _ _ | exact ae (bG _) _ | exact ae aX _ | exact ar (ae (ag _ _) _) 1 | exact ae (ag _ _) _)) gx;obtain ⟨x0,x1⟩:=CX.out wx GG;(try first | (have gy:=ab gy gx;obtain ⟨hp,hq,hr,j⟩:=aV gy;have hj:=j 0;have hk:=j 1;have hl:=j 2;clear j) | (have gz:=ab (ar (ag (wa.alloc (Obj.cells #[.bool false,.slice none 0 0,.slice none 0 0] 85)) none) 1) gx;obtain ⟨hp,hq,hr,j⟩:=aV gz;have hj:=j 0;have hk:=j 1;have hl:=j 2;clear j) | (have gz:=ab (ag (wa.alloc (Obj.cells #[.bool false,.slice none 0 0,.slice none 0 0] 85)) none) gx;obtain ⟨hp,hq,hr,j⟩:=aV gz;have hj:=j 0;have hk:=j 1;have hl:=j 2;clear j))))
  all_goals (go_wp2_with fail;go_meet;first
   | exact ⟨_,rfl,GG.size,np (B.keep0 zQ),ae zF _⟩
   | exact ⟨_,rfl,zL,pE gy B,ah (ah (ah GG _ _ zL) _ _ zL) _ _ zL⟩
   | exact ⟨_,rfl,hm.size,pE gz B,ah (ah (ah GG _ _ hm.size) _ _ hm.size) _ _ hm.size⟩)
 case rest =>
  obtain ⟨gs,rfl,hT,f2,g2⟩:=hcut.out;have q:=aa g2;obtain ⟨so,sl,sc,J,tl,tc,d0,d1,d2,d3,_⟩:=f2.var;have D3:=aa d3;have CY:Hid (∀ wx,wc.grownBy wx none->wx.cell? ⟨h,0,none⟩=some (.bool (rB 1))/\wx.cell? ⟨h,1,none⟩=some (.slice K fl fc)/\wx.cell? ⟨h,2,none⟩=some (.slice m n o)/\wx.cell? ⟨h,6,none⟩=some (.func (.func 38) #[] #[])/\wx.cell? ⟨A,0,none⟩=some (.func (.func 134) #[] #[.pointer (some ⟨h,0,none⟩),.pointer (some ⟨H,0,none⟩)])/\wx.cell? ⟨bs,0,none⟩=some (.bool false)/\wx.cell? ⟨bs,1,none⟩=some (.slice none 0 0)/\wx.cell? ⟨bs,2,none⟩=some (.slice none 0 0)/\wx.cell? ⟨gs,0,none⟩=some (.bool (rB v))/\wx.cell? ⟨gs,1,none⟩=some (.slice so sl sc)/\wx.cell? ⟨gs,2,none⟩=some (.slice J tl tc)):=by
   intro wx hg;have P:=ab I (ab q hg);exact ⟨P.cell HF.1 Z,P.cell HF.2.1 Z,P.cell HF.2.2.1 Z,P.cell HF.2.2.2.2.2.2.1 Z,P.cell hx Z,P.cell HS.1 Z,P.cell HS.2.1 Z,P.cell HS.2.2 Z,hg.cell d0 Z,hg.cell d1 Z,hg.cell d2 Z⟩
  have C:Hid (∀ wx,wc.grownBy wx none->wx.cell? ⟨h,5,none⟩=some (.func (.func 67) #[] #[])/\wx.cell? ⟨H,0,none⟩=some (.bool false)/\wx.cell? ⟨H,1,none⟩=some (.slice none 0 0)/\wx.cell? ⟨H,2,none⟩=some (.slice none 0 0)):=by
   intro wx hg;have P:=ab I (ab q hg);exact ⟨P.cell HF.2.2.2.2.2.1 Z,P.cell HZ.1 Z,P.cell HZ.2.1 Z,P.cell HZ.2.2 Z⟩
  have kc:=(PC wc q).1;clear hcut f2 g2 GG d0 d1 d2 d3 s0 s1 CX;have GG:wc.grownBy wc none:=ag _ _;obtain ⟨s0,s1,s2,s3,s4,s5,s6,s7,s8,s9,s10⟩:=CY.out wc GG;have hA:w.heap.size+1≠h:=O
  have hB:w.heap.size+1≠A:=O
  have hH:w.heap.size+1≠bs:=O
  have hI:w.heap.size+1≠gs:=by have:=N.out;omega
  by_cases k:p.kind=1
  ·have D:bP p.kind v=1:=by unfold bP;simp [k]
   have E:bQ p.kind v=0-v:=by unfold bQ;simp [k]
   have F:cT p.kind v=0:=by unfold cT;simp [k]
   have G:cL p.kind v=0:=by unfold cL;simp [k]
   rw [k] at kc;clear k;have Q:=aa D;have R:=aa E;have S:=aa F;have T:=aa G;clear D E F G;go_wp2_with fail;go_region_held3 (fun f=>f.cell? ⟨h,0,none⟩=some (.bool (rB 1))/\f.cell? ⟨h,1,none⟩=some (.slice K fl fc)/\f.cell? ⟨h,2,none⟩=some (.slice m n o)/\f.cell? ⟨h,6,none⟩=some (.func (.func 38) #[] #[])/\f.cell? ⟨A,0,none⟩=some (.func (.func 134) #[] #[.pointer (some ⟨h,0,none⟩),.pointer (some ⟨H,0,none⟩)])/\f.cell? ⟨bs,0,none⟩=some (.bool false)/\f.cell? ⟨bs,1,none⟩=some (.slice none 0 0)/\f.cell? ⟨bs,2,none⟩=some (.slice none 0 0)/\f.cell? ⟨gs,0,none⟩=some (.bool (rB v))/\f.cell? ⟨gs,1,none⟩=some (.slice so sl sc)/\f.cell? ⟨gs,2,none⟩=some (.slice J tl tc)) (go_keep)
    (first | (go_at_call 134;refine (jt _ (v) h H L _ (D3.keep0 zF) (C _ zF).1 (C _ zF).2.1 (C _ zF).2.2.1 (C _ zF).2.2.2 M hL).mono ?_;rintro e wx ⟨vx,rfl,B,gx⟩;obtain ⟨ao,al,ac,bo,bl,bc,rfl⟩:=B.shape;have GG:wc.grownBy wx none:=ab zF gx;obtain ⟨x0,x1,x2,x3,x4,x5,x6,x7,x8,x9,ho⟩:=CY.out wx GG;obtain ⟨⟨c0,c1,c2,c3,c4,c5,U,V,X,Y,u,y⟩,⟨f0,f1,f2,f3,f4,f5,f6,f7,f8,f9,he,hf⟩⟩:=G5.out wx (ab q GG)))
   all_goals
    go_wp2;refine bodyPost_ret (v:=.agg #[.bool (rB 1),.slice K fl fc,.slice m n o,.bool (rB (0-v)),.slice ao al ac,.slice bo bl bc,.bool false,.slice none 0 0,.slice none 0 0,.bool false,.slice none 0 0,.slice none 0 0]) (by simp [results,Tryz.results135,go_sem,c0,c1,c2,c3,c4,c5,U,V,X,Y,u,y]) rfl ?_;rw [Q,R,S,T];exact jK (g:=w.heap.size+1) (NW _ (ab q zF)) (aq (aq (aq (aq (aq (aq (aq (aq (aq (aq (aq (aq (ag _ _))))))))))))) (zS (zS (zS (zS (zS (zS (zS (zS (zS (zS (zS (zS (ab I (ab q zF)))))))))))))) (H1.keep0 (ab I (ab q zF))) (B) (bN _ _) (bN _ _)
  ·skip;by_cases l:p.kind=2
   ·have D:bP p.kind v=1:=by unfold bP;simp [l]
    have E:bQ p.kind v=0:=by unfold bQ;simp [l]
    have F:cT p.kind v=0:=by unfold cT;simp [l]
    have G:cL p.kind v=0:=by unfold cL;simp [l]
    rw [l] at kc;clear k l;have Q:=aa D;have R:=aa E;have S:=aa F;have T:=aa G;clear D E F G;go_wp2_with fail;go_region_held3 (fun f=>f.cell? ⟨h,0,none⟩=some (.bool (rB 1))/\f.cell? ⟨h,1,none⟩=some (.slice K fl fc)/\f.cell? ⟨h,2,none⟩=some (.slice m n o)/\f.cell? ⟨h,6,none⟩=some (.func (.func 38) #[] #[])/\f.cell? ⟨A,0,none⟩=some (.func (.func 134) #[] #[.pointer (some ⟨h,0,none⟩),.pointer (some ⟨H,0,none⟩)])/\f.cell? ⟨bs,0,none⟩=some (.bool false)/\f.cell? ⟨bs,1,none⟩=some (.slice none 0 0)/\f.cell? ⟨bs,2,none⟩=some (.slice none 0 0)/\f.cell? ⟨gs,0,none⟩=some (.bool (rB v))/\f.cell? ⟨gs,1,none⟩=some (.slice so sl sc)/\f.cell? ⟨gs,2,none⟩=some (.slice J tl tc)) (go_keep)
     (first | (go_at_call 38;refine (fj _ _ 0 v L L _ (bN _ _) (D3.keep0 zF) O).mono ?_;rintro e wa ⟨va,rfl,pa,ga⟩;have pa:=pa.tight (rQ M v);rw [Rat.zero_mul] at pa;obtain ⟨po,pl,pc,qo,hC,qc,rfl⟩:=pa.shape;have GG:wc.grownBy wa none:=ab zF ga;obtain ⟨a0,a1,a2,a3,a4,a5,a6,a7,a8,a9,hD⟩:=CY.out wa GG) | (go_at_call 134;refine (jt _ (0) h H L _ (pa.keep0 zQ) (C _ zF).1 (C _ zF).2.1 (C _ zF).2.2.1 (C _ zF).2.2.2 M hL).mono ?_;rintro e wx ⟨vx,rfl,B,gx⟩;rw [show (0:Rat)-0=0 from by grind] at B;obtain ⟨ao,al,ac,bo,bl,bc,rfl⟩:=B.shape;have GG:wc.grownBy wx none:=ab zF gx;obtain ⟨x0,x1,x2,x3,x4,x5,x6,x7,x8,x9,ho⟩:=CY.out wx GG;obtain ⟨⟨c0,c1,c2,c3,c4,c5,U,V,X,Y,u,y⟩,⟨f0,f1,f2,f3,f4,f5,f6,f7,f8,f9,he,hf⟩⟩:=G5.out wx (ab q GG)))
    all_goals
     go_wp2;refine bodyPost_ret (v:=.agg #[.bool (rB 1),.slice K fl fc,.slice m n o,.bool (rB (0)),.slice ao al ac,.slice bo bl bc,.bool false,.slice none 0 0,.slice none 0 0,.bool false,.slice none 0 0,.slice none 0 0]) (by simp [results,Tryz.results135,go_sem,c0,c1,c2,c3,c4,c5,U,V,X,Y,u,y]) rfl ?_;rw [Q,R,S,T];exact jK (g:=w.heap.size+1) (NW _ (ab q zF)) (aq (aq (aq (aq (aq (aq (aq (aq (aq (aq (aq (aq (ag _ _))))))))))))) (zS (zS (zS (zS (zS (zS (zS (zS (zS (zS (zS (zS (ab I (ab q zF)))))))))))))) (H1.keep0 (ab I (ab q zF))) (B) (bN _ _) (bN _ _)
   ·skip;by_cases r:p.kind=3
    ·have D:bP p.kind v=0:=by unfold bP;simp [r]
     have E:bQ p.kind v=1:=by unfold bQ;simp [r]
     have F:cT p.kind v=0:=by unfold cT;simp [r]
     have G:cL p.kind v=0:=by unfold cL;simp [r]
     rw [r] at kc;clear k l r;have Q:=aa D;have R:=aa E;have S:=aa F;have T:=aa G;clear D E F G;go_wp2_with fail;go_region_held3 (fun f=>f.cell? ⟨h,0,none⟩=some (.bool (rB 1))/\f.cell? ⟨h,1,none⟩=some (.slice K fl fc)/\f.cell? ⟨h,2,none⟩=some (.slice m n o)/\f.cell? ⟨h,6,none⟩=some (.func (.func 38) #[] #[])/\f.cell? ⟨A,0,none⟩=some (.func (.func 134) #[] #[.pointer (some ⟨h,0,none⟩),.pointer (some ⟨H,0,none⟩)])/\f.cell? ⟨bs,0,none⟩=some (.bool false)/\f.cell? ⟨bs,1,none⟩=some (.slice none 0 0)/\f.cell? ⟨bs,2,none⟩=some (.slice none 0 0)/\f.cell? ⟨gs,0,none⟩=some (.bool (rB v))/\f.cell? ⟨gs,1,none⟩=some (.slice so sl sc)/\f.cell? ⟨gs,2,none⟩=some (.slice J tl tc)) (go_keep)
      (first | (go_at_call 38;refine (fj _ _ 0 v L L _ (bN _ _) (D3.keep0 zF) O).mono ?_;rintro e wa ⟨va,rfl,pa,ga⟩;have pa:=pa.tight (rQ M v);rw [Rat.zero_mul] at pa;obtain ⟨po,pl,pc,qo,hC,qc,rfl⟩:=pa.shape;have GG:wc.grownBy wa none:=ab zF ga;obtain ⟨a0,a1,a2,a3,a4,a5,a6,a7,a8,a9,hD⟩:=CY.out wa GG) | (go_at_call 134;refine (jt _ (0) h H L _ (pa.keep0 zQ) (C _ zF).1 (C _ zF).2.1 (C _ zF).2.2.1 (C _ zF).2.2.2 M hL).mono ?_;rintro e wx ⟨vx,rfl,B,gx⟩;rw [show (0:Rat)-0=0 from by grind] at B;obtain ⟨ao,al,ac,bo,bl,bc,rfl⟩:=B.shape;have GG:wc.grownBy wx none:=ab zF gx;obtain ⟨x0,x1,x2,x3,x4,x5,x6,x7,x8,x9,ho⟩:=CY.out wx GG;obtain ⟨⟨c0,c1,c2,c3,c4,c5,U,V,X,Y,u,y⟩,⟨f0,f1,f2,f3,f4,f5,f6,f7,f8,f9,he,hf⟩⟩:=G5.out wx (ab q GG)))
     all_goals
      go_wp2;refine bodyPost_ret (v:=.agg #[.bool (rB (0)),.slice ao al ac,.slice bo bl bc,.bool (rB 1),.slice K fl fc,.slice m n o,.bool false,.slice none 0 0,.slice none 0 0,.bool false,.slice none 0 0,.slice none 0 0]) (by simp [results,Tryz.results135,go_sem,c0,c1,c2,c3,c4,c5,U,V,X,Y,u,y]) rfl ?_;rw [Q,R,S,T];exact jK (g:=w.heap.size+1) (NW _ (ab q zF)) (aq (aq (aq (aq (aq (aq (aq (aq (aq (aq (aq (aq (ag _ _))))))))))))) (zS (zS (zS (zS (zS (zS (zS (zS (zS (zS (zS (zS (ab I (ab q zF)))))))))))))) (B) (H1.keep0 (ab I (ab q zF))) (bN _ _) (bN _ _)
    ·skip;by_cases s:p.kind=4
     ·have D:bP p.kind v=1:=by unfold bP;simp [s]
      have E:bQ p.kind v=0:=by unfold bQ;simp [s]
      have F:cT p.kind v=0:=by unfold cT;simp [s]
      have G:cL p.kind v=v:=by unfold cL;simp [s]
      rw [s] at kc;clear k l r s;have Q:=aa D;have R:=aa E;have S:=aa F;have T:=aa G;clear D E F G;obtain ⟨⟨c0,c1,c2,c3,c4,c5,U,V,X,Y,u,y⟩,⟨f0,f1,f2,f3,f4,f5,f6,f7,f8,f9,he,hf⟩⟩:=G5.out wc q;go_wp2;refine bodyPost_ret (v:=.agg #[.bool (rB 1),.slice K fl fc,.slice m n o,.bool false,.slice none 0 0,.slice none 0 0,.bool false,.slice none 0 0,.slice none 0 0,.bool (rB v),.slice so sl sc,.slice J tl tc]) (by simp [results,Tryz.results135,go_sem,c0,c1,c2,c3,c4,c5,U,V,X,Y,u,y]) rfl ?_;rw [Q,R,S,T];exact jK (g:=w.heap.size+1) (NW _ (ab q zF)) (aq (aq (aq (aq (aq (aq (aq (aq (aq (aq (aq (aq (ag _ _))))))))))))) (zS (zS (zS (zS (zS (zS (zS (zS (zS (zS (zS (zS (ab I (ab q zF)))))))))))))) (H1.keep0 (ab I (ab q zF))) (bN _ _) (bN _ _) (D3.keep0 zF)
     ·skip;by_cases t:p.kind=6
      ·have D:bP p.kind v=1:=by unfold bP;simp [t]
       have E:bQ p.kind v=0:=by unfold bQ;simp [t]
       have F:cT p.kind v=0-v:=by unfold cT;simp [t]
       have G:cL p.kind v=0:=by unfold cL;simp [t]
       rw [t] at kc;clear k l r s t;have Q:=aa D;have R:=aa E;have S:=aa F;have T:=aa G;clear D E F G;go_wp2_with fail;go_region_held3 (fun f=>f.cell? ⟨h,0,none⟩=some (.bool (rB 1))/\f.cell? ⟨h,1,none⟩=some (.slice K fl fc)/\f.cell? ⟨h,2,none⟩=some (.slice m n o)/\f.cell? ⟨h,6,none⟩=some (.func (.func 38) #[] #[])/\f.cell? ⟨A,0,none⟩=some (.func (.func 134) #[] #[.pointer (some ⟨h,0,none⟩),.pointer (some ⟨H,0,none⟩)])/\f.cell? ⟨bs,0,none⟩=some (.bool false)/\f.cell? ⟨bs,1,none⟩=some (.slice none 0 0)/\f.cell? ⟨bs,2,none⟩=some (.slice none 0 0)/\f.cell? ⟨gs,0,none⟩=some (.bool (rB v))/\f.cell? ⟨gs,1,none⟩=some (.slice so sl sc)/\f.cell? ⟨gs,2,none⟩=some (.slice J tl tc)) (go_keep)
        (first | (go_at_call 134;refine (jt _ (v) h H L _ (D3.keep0 zF) (C _ zF).1 (C _ zF).2.1 (C _ zF).2.2.1 (C _ zF).2.2.2 M hL).mono ?_;rintro e wx ⟨vx,rfl,B,gx⟩;obtain ⟨ao,al,ac,bo,bl,bc,rfl⟩:=B.shape;have GG:wc.grownBy wx none:=ab zF gx;obtain ⟨x0,x1,x2,x3,x4,x5,x6,x7,x8,x9,ho⟩:=CY.out wx GG;obtain ⟨⟨c0,c1,c2,c3,c4,c5,U,V,X,Y,u,y⟩,⟨f0,f1,f2,f3,f4,f5,f6,f7,f8,f9,he,hf⟩⟩:=G5.out wx (ab q GG)))
       all_goals
        go_wp2;refine bodyPost_ret (v:=.agg #[.bool (rB 1),.slice K fl fc,.slice m n o,.bool false,.slice none 0 0,.slice none 0 0,.bool (rB (0-v)),.slice ao al ac,.slice bo bl bc,.bool false,.slice none 0 0,.slice none 0 0]) (by simp [results,Tryz.results135,go_sem,c0,c1,c2,c3,c4,c5,U,V,X,Y,u,y]) rfl ?_;rw [Q,R,S,T];exact jK (g:=w.heap.size+1) (NW _ (ab q zF)) (aq (aq (aq (aq (aq (aq (aq (aq (aq (aq (aq (aq (ag _ _))))))))))))) (zS (zS (zS (zS (zS (zS (zS (zS (zS (zS (zS (zS (ab I (ab q zF)))))))))))))) (H1.keep0 (ab I (ab q zF))) (bN _ _) (B) (bN _ _)
      ·skip;by_cases z:p.kind=7
       ·have D:bP p.kind v=0:=by unfold bP;simp [z]
        have E:bQ p.kind v=1:=by unfold bQ;simp [z]
        have F:cT p.kind v=0-v:=by unfold cT;simp [z]
        have G:cL p.kind v=0:=by unfold cL;simp [z]
        rw [z] at kc;clear k l r s t z;have Q:=aa D;have R:=aa E;have S:=aa F;have T:=aa G;clear D E F G;go_wp2_with fail;go_region_held3 (fun f=>f.cell? ⟨h,0,none⟩=some (.bool (rB 1))/\f.cell? ⟨h,1,none⟩=some (.slice K fl fc)/\f.cell? ⟨h,2,none⟩=some (.slice m n o)/\f.cell? ⟨h,6,none⟩=some (.func (.func 38) #[] #[])/\f.cell? ⟨A,0,none⟩=some (.func (.func 134) #[] #[.pointer (some ⟨h,0,none⟩),.pointer (some ⟨H,0,none⟩)])/\f.cell? ⟨bs,0,none⟩=some (.bool false)/\f.cell? ⟨bs,1,none⟩=some (.slice none 0 0)/\f.cell? ⟨bs,2,none⟩=some (.slice none 0 0)/\f.cell? ⟨gs,0,none⟩=some (.bool (rB v))/\f.cell? ⟨gs,1,none⟩=some (.slice so sl sc)/\f.cell? ⟨gs,2,none⟩=some (.slice J tl tc)) (go_keep)
         (first | (go_at_call 134;refine (jt _ (v) h H L _ (D3.keep0 zF) (C _ zF).1 (C _ zF).2.1 (C _ zF).2.2.1 (C _ zF).2.2.2 M hL).mono ?_;rintro e wx ⟨vx,rfl,B,gx⟩;obtain ⟨ao,al,ac,bo,bl,bc,rfl⟩:=B.shape;have GG:wc.grownBy wx none:=ab zF gx;obtain ⟨x0,x1,x2,x3,x4,x5,x6,x7,x8,x9,ho⟩:=CY.out wx GG;obtain ⟨⟨c0,c1,c2,c3,c4,c5,U,V,X,Y,u,y⟩,⟨f0,f1,f2,f3,f4,f5,f6,f7,f8,f9,he,hf⟩⟩:=G5.out wx (ab q GG)))
        all_goals
         go_wp2;refine bodyPost_ret (v:=.agg #[.bool false,.slice none 0 0,.slice none 0 0,.bool (rB 1),.slice K fl fc,.slice m n o,.bool (rB (0-v)),.slice ao al ac,.slice bo bl bc,.bool false,.slice none 0 0,.slice none 0 0]) (by simp [results,Tryz.results135,go_sem,c0,c1,c2,c3,c4,c5,U,V,X,Y,u,y]) rfl ?_;rw [Q,R,S,T];exact jK (g:=w.heap.size+1) (NW _ (ab q zF)) (aq (aq (aq (aq (aq (aq (aq (aq (aq (aq (aq (aq (ag _ _))))))))))))) (zS (zS (zS (zS (zS (zS (zS (zS (zS (zS (zS (zS (ab I (ab q zF)))))))))))))) (bN _ _) (H1.keep0 (ab I (ab q zF))) (B) (bN _ _)
       ·skip;have D:bP p.kind v=0:=by unfold bP;simp [k,l,r,s,t,z]
        have E:bQ p.kind v=1:=by unfold bQ;simp [k,l,r,s,t,z]
        have F:cT p.kind v=0:=by unfold cT;simp [k,l,r,s,t,z]
        have G:cL p.kind v=v:=by unfold cL;simp [k,l,r,s,t,z]
        have hK:(p.kind==1)=false:=zB k;have hM:(p.kind==2)=false:=zB l;have hN:(p.kind==3)=false:=zB r;have hQ:(p.kind==4)=false:=zB s;have hR:(p.kind==6)=false:=zB t;have hS:(p.kind==7)=false:=zB z;clear k l r s t z;have Q:=aa D;have R:=aa E;have S:=aa F;have T:=aa G;clear D E F G;obtain ⟨⟨c0,c1,c2,c3,c4,c5,U,V,X,Y,u,y⟩,⟨f0,f1,f2,f3,f4,f5,f6,f7,f8,f9,he,hf⟩⟩:=G5.out wc q;go_wp2;refine bodyPost_ret (v:=.agg #[.bool false,.slice none 0 0,.slice none 0 0,.bool (rB 1),.slice K fl fc,.slice m n o,.bool false,.slice none 0 0,.slice none 0 0,.bool (rB v),.slice so sl sc,.slice J tl tc]) (by simp [results,Tryz.results135,go_sem,c0,c1,c2,c3,c4,c5,U,V,X,Y,u,y]) rfl ?_;rw [Q,R,S,T];exact jK (g:=w.heap.size+1) (NW _ (ab q zF)) (aq (aq (aq (aq (aq (aq (aq (aq (aq (aq (aq (aq (ag _ _))))))))))))) (zS (zS (zS (zS (zS (zS (zS (zS (zS (zS (zS (zS (ab I (ab q zF)))))))))))))) (bN _ _) (H1.keep0 (ab I (ab q zF))) (bN _ _) (D3.keep0 zF)
def aD.q (p:aD):Rat:=dh p.v.data.toList
def prow (n k i:Nat) (p:aD):Nat->Rat:=lU n i (n+k+1) p.a.toNat p.b.toNat p.c.toNat p.d.toNat (bP p.kind p.q) (bQ p.kind p.q) (cT p.kind p.q) (cL p.kind p.q)
def iB (n:Nat) (ps:List aD):Nat->Nat->Rat:=fun r =>
 if r=0 then aQ (fun _=>0) 0 1 else if r<n then eJ n ps r else match ps[r-n]? with | some p=>prow n ps.length (r-n) p | none=>fun _=>0
def cr (n:Nat) (ps:List aD):Nat->Nat:=fun r=>if r<n then 0 else match ps[r-n]? with | some p=>2*(p.v.size+1)+1 | none=>0
structure bS (n:Nat) (ps:List aD):Prop where
 lo:1<=n
 hi:n<=8
 len:ps.length<=20
 ends:∀ p∈ps,∃ xa xb xc xd:Nat,p.a=(xa:Int)/\p.b=(xb:Int)/\p.c=(xc:Int)/\p.d=(xd:Int)/\xa<n/\xb<n/\xc<n/\xd<n
theorem tC (k:Int) (v:Rat):bP k v=0∨bP k v=1:=by
 unfold bP;repeat' split
 all_goals first | exact .inr rfl | exact .inl rfl
theorem zA (k:Int) (v:Rat):cT k v=0∨cT k v = -v:=by
 unfold cT;repeat' split
 all_goals first | exact .inl rfl | (right;grind)
theorem vB (k:Int) (v:Rat):lO v (bQ k v):=by
 unfold bQ;repeat' split
 all_goals first | exact ⟨0,-1,zD,zD,by grind⟩ | exact ⟨0,0,zD,zD,by grind⟩ | exact ⟨1,0,zD,zD,by grind⟩
theorem vC (k:Int) (v:Rat):lO v (cL k v):=by
 unfold cL;repeat' split
 all_goals first | exact ⟨0,0,zD,zD,by grind⟩ | exact ⟨0,1,zD,zD,by grind⟩
theorem mn {v q:Rat} (a b c d:Prop) [Decidable a] [Decidable b] [Decidable c] [Decidable d] {x y:Rat} (hx:x=0∨x=1) (hy:y=0∨y = -v)
  (h:q=(if a then x else 0)-(if b then x else 0)+(if c then y else 0)-(if d then y else 0)):lO v q:=by
 subst h;rcases hx with rfl | rfl<;>rcases hy with rfl | rfl<;>by_cases ha:a<;>by_cases hb:b<;>by_cases hc:c<;>by_cases hd:d <;>
  simp only [ha,hb,hc,hd,if_true,if_false] <;>
  first
   | exact ⟨0,0,zD,zD,by grind⟩
   | exact ⟨1,0,zD,zD,by grind⟩
   | exact ⟨-1,0,zD,zD,by grind⟩
   | exact ⟨0,1,zD,zD,by grind⟩
   | exact ⟨0,-1,zD,zD,by grind⟩
   | exact ⟨1,1,zD,zD,by grind⟩
   | exact ⟨1,-1,zD,zD,by grind⟩
   | exact ⟨-1,1,zD,zD,by grind⟩
   | exact ⟨-1,-1,zD,zD,by grind⟩
def rj (xa xb xc xd:Nat) (x y:Rat) (j:Nat):Rat:=(if j=xa then x else 0)-(if j=xb then x else 0)+(if j=xc then y else 0)-(if j=xd then y else 0)
theorem dF (R:Nat->Rat) (k:Nat) (q:Rat) (j:Nat):aQ R k q j=if j=k then q else R j:=rfl
theorem CV (a:Nat) (x:Rat) (j:Nat):aQ (fun _=>0) a (0+x) j=if j=a then x else 0:=by
 rw [dF,Rat.zero_add]
theorem CW (b a:Nat) (x:Rat) (j:Nat):aQ (aQ (fun _=>0) b (0+x)) a (aQ (fun _=>0) b (0+x) a-x) j=(if j=b then x else 0)-(if j=a then x else 0):=by
 rw [dF,CV,CV];by_cases e:j=a
 ·rw [if_pos e,if_pos e,e]
 ·rw [if_neg e,if_neg e];grind
theorem C0 (a b c:Nat) (x y:Rat) (j:Nat):aQ (aQ (aQ (fun _=>0) a (0+x)) b (aQ (fun _=>0) a (0+x) b-x)) c (aQ (aQ (fun _=>0) a (0+x)) b (aQ (fun _=>0) a (0+x) b-x) c+y) j
  = (if j=a then x else 0)-(if j=b then x else 0)+(if j=c then y else 0):=by
 rw [dF,CW,CW];by_cases e:j=c
 ·rw [if_pos e,if_pos e,e]
 ·rw [if_neg e,if_neg e];grind
theorem ends4 (a b c d:Nat) (x y:Rat) (j:Nat):aQ (aQ (aQ (aQ (fun _=>0) a (0+x)) b (aQ (fun _=>0) a (0+x) b-x)) c (aQ (aQ (fun _=>0) a (0+x)) b (aQ (fun _=>0) a (0+x) b-x) c+y)) d (aQ (aQ (aQ (fun _=>0) a (0+x)) b (aQ (fun _=>0) a (0+x) b-x)) c (aQ (aQ (fun _=>0) a (0+x)) b (aQ (fun _=>0) a (0+x) b-x) c+y) d-y) j
  = rj a b c d x y j:=by
 unfold rj;rw [dF,C0,C0];by_cases e:j=d
 ·rw [if_pos e,if_pos e,e]
 ·rw [if_neg e,if_neg e];grind
theorem vS (n i K a b c d:Nat) (e f g h:Rat) (j:Nat):lU n i K a b c d e f g h j=if j=K-1 then h else if j=n+i then f else rj a b c d e g j:=by
 unfold lU;rw [dF,dF,ends4]
theorem BG {n i K c d e f:Nat} {a g b h v:Rat} (ha:a=0∨a=1) (k:b=0∨b = -v) (l:lO v g) (m:lO v h) (j:Nat):lO v (lU n i K c d e f a g b h j):=by
 rw [vS];split
 ·exact m
 ·split
  ·exact l
  ·exact mn (j=c) (j=d) (j=e) (j=f) ha k rfl
theorem vV (n k i:Nat) (p:aD) (j:Nat):lO p.q (prow n k i p j):=BG (tC _ _) (zA _ _) (vB _ _) (vC _ _) j
theorem bh.mono {L L':Nat} {q:Rat} (h:bh L q) (a:L<=L'):bh L' q:=by
 have:=Nat.pow_le_pow_right (n:=4294967296) zD a;exact ⟨Nat.lt_of_lt_of_le h.1 this,Nat.lt_of_lt_of_le h.2 this⟩
theorem Du {T:Nat} {v q:Rat} (h:lO v q) (a:bh T v):bh (T+1) q:=by
 obtain ⟨b,e⟩:=iy h;have c:(4294967296:Nat)^(T+1)=4294967296^T*4294967296:=Nat.pow_succ _ _;have d:0<(4294967296:Nat)^T:=Nat.pow_pos zD;have:=a.1;have:=a.2;have:=Nat.le_of_dvd (Rat.den_pos v) b;exact ⟨O,O⟩
theorem BH {L T b c e g:Nat} {a f v:Rat} (ha:a=0∨a=1) (i:f=0∨f = -v) (j:bh T v) (k:T+1<=L) :
  bh L (0+a)/\bh L (aQ (fun _=>0) b (0+a) c-a)/\bh L (aQ (aQ (fun _=>0) b (0+a)) c (aQ (fun _=>0) b (0+a) c-a) e+f)
  /\ bh L (aQ (aQ (aQ (fun _=>0) b (0+a)) c (aQ (fun _=>0) b (0+a) c-a)) e (aQ (aQ (fun _=>0) b (0+a)) c (aQ (fun _=>0) b (0+a) c-a) e+f) g-f):=by
 have d:∀ q,lO v q->bh L q:=fun q h=>(Du h j).mono k
 refine ⟨d _ ?_,d _ ?_,d _ ?_,d _ ?_⟩
 ·exact mn True False False False ha i (by simp only [if_true,if_false];grind)
 ·exact mn (c=b) True False False ha i (by rw [CV];simp only [if_true,if_false];grind)
 ·exact mn (e=b) (e=c) True False ha i (by rw [CW];simp only [if_true,if_false];grind)
 ·exact mn (g=b) (g=c) (g=e) True ha i (by rw [C0];simp only [if_true])
theorem ofR_fit (l:List UInt8):bh (l.length+1) (dh l):=by
 have b:∀ k,k<=l.length+1->(10:Nat)^k<=4294967296^(l.length+1):=fun k p =>
  Nat.le_trans (Nat.pow_le_pow_left (by decide:10<=4294967296) k) (Nat.pow_le_pow_right zD p)
 have d:1<(4294967296:Nat)^(l.length+1):=Nat.lt_of_lt_of_le (by decide:1<4294967296^1) (Nat.pow_le_pow_right zD O);have g:bh (l.length+1) 0:=⟨by show 0<_;omega,by show 1<_;exact d⟩;unfold dh;split
 ·rename_i h;simp only [Bool.and_eq_true] at h;obtain ⟨n,o⟩:=h;have a:∀ m:List UInt8,cC m=true->∀ c∈m,nE c=true:=by
   intro m f;unfold cC at f;simp only [Bool.and_eq_true,List.all_eq_true] at f;exact f.2
  have q:=th _ (a _ n);have r:=th _ (a _ o);have i:=(kJ (Lib.trimPrefix l [45]) [47]).1;have j:(fM (Lib.trimPrefix l [45])).length<=l.length+1:=by
   unfold fM;have:=(kJ (Lib.trimPrefix l [45]) [47]).2;have:=iY l [45];split
   ·omega
   ·simp
  have s:=iY l [45];have t:=b _ (Nat.le_trans i O);have u:=b _ j;by_cases hd:bj (fM (Lib.trimPrefix l [45]))=0
  ·rw [hd,Rat.mkRat_zero];exact g
  ·refine ⟨?_,?_⟩
   ·unfold rN;rw [Rat.num_mkRat,if_neg hd];refine Nat.lt_of_le_of_lt (Int.natAbs_ediv_le_natAbs _ _) ?_;have e:(fY (Lib.hasPrefix l [45]) (bj (Lib.cut (Lib.trimPrefix l [45]) [47]).1)).natAbs=bj (Lib.cut (Lib.trimPrefix l [45]) [47]).1:=by
     unfold fY;split<;>simp
    rw [e];omega
   ·rw [Rat.den_mkRat,if_neg hd];exact Nat.lt_of_le_of_lt (Nat.div_le_self _ _) O
 ·exact g
theorem aD.fit (p:aD):bh (p.v.size+1) p.q:=by
 have:=ofR_fit p.v.data.toList;have e:p.v.data.toList.length=p.v.size:=Array.length_toList;rw [e] at this;exact this
theorem qt (n:Nat) (c:List aD) (r:Nat):∃ D N:Nat,0<D/\(∀ j,(iB n c r j).den∣D)/\(∀ j,rN (iB n c r j)<=N)/\N*D<=4294967296^cr n c r/\D<=4294967296^cr n c r:=by
 unfold iB;by_cases i:r=0
 ·rw [if_pos i];refine ⟨1,1,zD,fun j=>?_,fun j=>?_,by rw [Nat.mul_one];exact Nat.one_le_pow _ _ zD,Nat.one_le_pow _ _ zD⟩
  ·rw [dF];split<;>exact Nat.dvd_refl _
  ·rw [dF];split<;>decide
 ·rw [if_neg i];by_cases hn:r<n
  ·rw [if_pos hn];have e:∀ j,(eJ n c r j).den=1/\rN (eJ n c r j)<=1:=by
    intro j;unfold eJ;split
    ·exact ⟨rfl,zD⟩
    ·split
     ·rename_i p k;have f:qZ p r=0∨qZ p r=1∨qZ p r = -1:=by
       by_cases d:p.a=(r:Int)<;>by_cases g:p.b=(r:Int)
       ·rw [Cu d g];left;grind
       ·rw [Ct d g];right;left;grind
       ·rw [Cs d g];right;right;grind
       ·rw [Cr d g];left;rfl
      rcases f with f | f | f<;>rw [f]
      ·exact ⟨rfl,zD⟩
      ·exact ⟨rfl,zD⟩
      ·exact ⟨rfl,zD⟩
     ·exact ⟨rfl,zD⟩
   refine ⟨1,1,zD,fun j=>by rw [(e j).1];exact Nat.dvd_refl _,fun j=>(e j).2,by rw [Nat.mul_one];exact Nat.one_le_pow _ _ zD,Nat.one_le_pow _ _ zD⟩
  ·rw [if_neg hn];have h:cr n c r=match c[r-n]? with | some p=>2*(p.v.size+1)+1 | none=>0:=by unfold cr;rw [if_neg hn];try rfl
   cases k:c[r-n]? with
   | none =>
    refine ⟨1,1,zD,fun j=>Nat.dvd_refl _,fun j=>by show 0<=1;decide,by rw [Nat.mul_one];exact Nat.one_le_pow _ _ zD,Nat.one_le_pow _ _ zD⟩
   | some p =>
    rw [k] at h;simp only at h;obtain ⟨f1,l⟩:=p.fit;refine ⟨p.q.den,p.q.den+rN p.q,Rat.den_pos _,fun j=>(iy (vV n c.length (r-n) p j)).1,fun j=>(iy (vV n c.length (r-n) p j)).2,?_,?_⟩
    ·rw [h];have d:(4294967296:Nat)^(2*(p.v.size+1)+1)=(4294967296*4294967296^(p.v.size+1))*4294967296^(p.v.size+1):=by
      rw [Nat.pow_succ,Nat.two_mul,Nat.pow_add,Nat.mul_comm,Nat.mul_assoc]
     rw [d];exact Nat.mul_le_mul O (Nat.le_of_lt l)
    ·rw [h];exact Nat.le_trans (Nat.le_of_lt l) (Nat.pow_le_pow_right zD O)
theorem tX (e:Nat->Nat):∀ m r,r<m->1+e r<=fD e m:=by
 intro m;induction m with
 | zero=>intro r h;omega
 | succ m ih =>
  intro r h;unfold fD;by_cases a:r=m
  ·subst a;omega
  ·have:=ih r O;omega
theorem net_fit (n:Nat) (a:List aD) (m L:Nat) (f:fD (cr n a) m<L) (r:Nat) (b:r<m) (k j:Nat):bh L (cA (iB n a r) k j):=by
 obtain ⟨D,N,c,d,e,g,h⟩:=qt n a r;obtain ⟨i,l⟩:=kE _ D N c d e k j;have hlt:4294967296^cr n a r<4294967296^L:=Nat.pow_lt_pow_right zD (by have:=tX (cr n a) m r b;omega);exact ⟨O,O⟩
theorem DB (n:Nat) (a:List aD) (k r j:Nat):gP (4294967296^cr n a r) (nq (iB n a) k r j):=by
 unfold nq;split
 ·rename_i b;obtain ⟨D,N,c,d,e,f,g⟩:=qt n a r;exact ⟨nX _ _ _ b,Nat.le_trans (kE _ D N c d e k j).1 f⟩
 ·exact ⟨rfl,Nat.zero_le _⟩
def fG (f:Nat->Rat):Nat->Rat
 | 0=>0
 | i+1=>fG f i+f i
theorem bJ (f:Nat->Rat) (k:Nat):fG f (k+1)=fG f k+f k:=rfl
theorem iJ (x R:Nat->Rat) (k:Nat) (q:Rat):∀ n,cK n x (aQ R k q)=cK n x R+(if k<n then (q-R k)*x k else 0):=by
 intro n;induction n with
 | zero=>unfold cK;rw [if_neg O];grind
 | succ n ih =>
  unfold cK;rw [ih,dF];by_cases e:n=k
  ·subst e;rw [if_pos rfl,if_neg O,if_pos O];grind
  ·rw [if_neg e];by_cases a:k<n
   ·rw [if_pos a,if_pos O];grind
   ·rw [if_neg a,if_neg O];grind
theorem mM (x:Nat->Rat):∀ n,cK n x (fun _=>0)=0:=by
 intro n;induction n with
 | zero=>rfl
 | succ n ih=>unfold cK;rw [ih];grind
theorem dot_end (x:Nat->Rat) (a b c d:Nat) (p q:Rat) (n:Nat) (ha:a<n) (hb:b<n) (hc:c<n) (hd:d<n):cK n x (rj a b c d p q)=p*(x a-x b)+q*(x c-x d):=by
 have e:cK n x (rj a b c d p q)=cK n x (aQ (aQ (aQ (aQ (fun _=>0) a (0+p)) b (aQ (fun _=>0) a (0+p) b-p)) c (aQ (aQ (fun _=>0) a (0+p)) b (aQ (fun _=>0) a (0+p) b-p) c+q)) d (aQ (aQ (aQ (fun _=>0) a (0+p)) b (aQ (fun _=>0) a (0+p) b-p)) c (aQ (aQ (fun _=>0) a (0+p)) b (aQ (fun _=>0) a (0+p) b-p) c+q) d-q)) :=
  iu x n (fun j _=>(ends4 a b c d p q j).symm)
 rw [e,iJ,iJ,iJ,iJ,mM,if_pos ha,if_pos hb,if_pos hc,if_pos hd];generalize aQ (aQ (aQ (fun _=>0) a (0+p)) b (aQ (fun _=>0) a (0+p) b-p)) c (aQ (aQ (fun _=>0) a (0+p)) b (aQ (fun _=>0) a (0+p) b-p) c+q) d=A;generalize aQ (aQ (fun _=>0) a (0+p)) b (aQ (fun _=>0) a (0+p) b-p) c=B;generalize aQ (fun _=>0) a (0+p) b=C;grind
theorem uP (x:Nat->Rat) (n k i a b c d:Nat) (f h g l:Rat) (hi:i<k) (ha:a<n) (hb:b<n) (hc:c<n) (hd:d<n) :
  cK (n+k+1) x (lU n i (n+k+1) a b c d f h g l)=f*(x a-x b)+g*(x c-x d)+h*x (n+i)+l*x (n+k):=by
 have e:cK (n+k+1) x (lU n i (n+k+1) a b c d f h g l)=cK (n+k+1) x (aQ (aQ (rj a b c d f g) (n+i) h) (n+k) l) :=
  iu x _ (fun j _=>by rw [vS,dF,dF];rfl)
 rw [e,iJ,iJ,dot_end x a b c d f g _ O O O O,if_pos O,if_pos O,dF,if_neg O];have m:rj a b c d f g (n+i)=0:=by
  unfold rj;rw [if_neg O,if_neg O,if_neg O,if_neg O];grind
 have o:rj a b c d f g (n+k)=0:=by
  unfold rj;rw [if_neg O,if_neg O,if_neg O,if_neg O];grind
 rw [m,o];grind
def cO (ps:List aD) (i r:Nat):Rat:=match ps[i]? with | some p=>qZ p r | none=>0
theorem uO (x:Nat->Rat) (n:Nat) (a:List aD) (r:Nat):cK (n+a.length+1) x (eJ n a r)=fG (fun i=>cO a i r*x (n+i)) a.length:=by
 have b:∀ k,k<=a.length->cK (n+k) x (eJ n a r)=fG (fun i=>cO a i r*x (n+i)) k:=by
  intro k;induction k with
  | zero =>
   intro _;show cK n x (eJ n a r)=0
   rw [<- mM x n];exact iu x n (fun j c=>by unfold eJ;rw [if_pos c])
  | succ k ih =>
   intro d;show cK (n+k) x (eJ n a r)+eJ n a r (n+k)*x (n+k)=_
   rw [ih O,bJ];congr 1
   unfold eJ;rw [if_neg O,show n+k-n=k by omega];rfl
 show cK (n+a.length) x (eJ n a r)+eJ n a r (n+a.length)*x (n+a.length)=_
 rw [b _ zL];have z:eJ n a r (n+a.length)=0:=by
  unfold eJ;rw [if_neg O,show n+a.length-n=a.length by omega,List.getElem?_eq_none zL]
 rw [z];grind
structure aE (n:Nat) (ps:List aD) (V I:Nat->Rat):Prop where
 gnd:V 0=0
 node:∀ r,0<r->r<n->fG (fun i=>cO ps i r*I i) ps.length=0
 part:∀ i (h:i<ps.length),bP ps[i].kind ps[i].q*(V ps[i].a.toNat-V ps[i].b.toNat)+cT ps[i].kind ps[i].q*(V ps[i].c.toNat-V ps[i].d.toNat)+bQ ps[i].kind ps[i].q*I i=cL ps[i].kind ps[i].q
theorem iN {n:Nat} {e:List aD} (h:bS n e) (x:Nat->Rat):mF (iB n e) (n+e.length) x↔x (n+e.length) = -1/\aE n e x (fun i=>x (n+i)):=by
 have o:=h.lo;have j:cK (n+e.length+1) x (iB n e 0)=x 0:=by
  unfold iB;rw [if_pos rfl,iJ,mM,if_pos O];grind
 have k:∀ r,0<r->r<n->cK (n+e.length+1) x (iB n e r)=fG (fun i=>cO e i r*x (n+i)) e.length:=by
  intro r m hn;unfold iB;rw [if_neg O,if_pos hn];exact uO x n e r
 have l:∀ i (hi:i<e.length),cK (n+e.length+1) x (iB n e (n+i))=bP e[i].kind e[i].q*(x e[i].a.toNat-x e[i].b.toNat)+cT e[i].kind e[i].q*(x e[i].c.toNat-x e[i].d.toNat)+bQ e[i].kind e[i].q*x (n+i)+cL e[i].kind e[i].q*x (n+e.length):=by
  intro i hi;obtain ⟨w,y,z,A,s,t,u,v,ha,hb,hc,hd⟩:=h.ends e[i] (List.getElem_mem hi);unfold iB;rw [if_neg O,if_neg O,show n+i-n=i by omega,zX hi];exact uP x n e.length i _ _ _ _ _ _ _ _ hi (by rw [s];simpa using ha) (by rw [t];simpa using hb) (by rw [u];simpa using hc) (by rw [v];simpa using hd)
 constructor
 ·rintro ⟨g,f⟩;refine ⟨g,⟨?_,fun r m hn=>?_,fun i hi=>?_⟩⟩
  ·rw [<- j];exact f 0 O
  ·rw [<- k r m hn];exact f r O
  ·have:=f (n+i) O;rw [l i hi,g] at this;grind
 ·rintro ⟨g,f⟩;refine ⟨g,fun r B=>?_⟩;by_cases p:r=0
  ·subst p;rw [j];exact f.gnd
  ·by_cases rn:r<n
   ·rw [k r O rn];exact f.node r O rn
   ·obtain ⟨i,rfl⟩:∃ i,r=n+i:=⟨r-n,O⟩;have hi:i<e.length:=O
    have:=f.part i hi;rw [l i hi,g];grind
theorem qL {α β:Type} (f:α->β) (l cs:List α) (o:Nat):splice (l.map f) o (cs.map f)=(splice l o cs).map f:=by
 simp [splice,List.map_take,List.map_drop,List.map_append]
theorem Below.gr {w a:World} (h:Below w.heap.size w a):w.grownBy a none:=⟨h.os,h.tape,h.output,h.size,fun k b _=>h.block k b⟩
def RepR (w:World) (g c:Nat) (v:Value) (wr:World):Prop:=∃ (k:Nat) (xs:List Int),1<=k/\k<=c/\v=.int .i64 k/\xs.length=c/\q9 wr g xs/\Below w.heap.size w wr
theorem sB (b c:Nat) (w:World) (hb:w.cell? ⟨b,0,none⟩=some (.int .i64 (-1))) (h0:0<c) (h1:c<=1000) :
  Calls Tryz.prog 225 #[.slice (some ⟨b,0,none⟩) 1 1,.int .i64 ((c:Nat):Int)] w
   fun e R=>∃ g xs,e=.returned (.slice (some ⟨g,0,none⟩) c c)/\w.heap.size<=g/\xs.length=c/\q9 R g xs/\w.grownBy R none:=by
 have S:=aa hb;clear hb;go_enter Tryz.func225,Tryz.ntmps225
 go_wp2_with fail;refine (Tryz.bits_Mul 1 c zD O _).mono ?_;rintro e w1 ⟨rfl,L⟩;rw [L];clear L w1;rw [show 1*c / 18446744073709551616=0 from O,show 1*c % 18446744073709551616=c from O];have T:¬ ((9223372036854775807:Int)<(c:Int)):=O
 go_wp2_with (at_make;refine ja iv 3 0 8 _ rfl _ _ 51 rfl Tryz.underlying51 Tryz.infoInt rfl _ _ _ _ c rfl rfl O O O O ?_)
 intro t i p;have F:=aa i;have r:=aa p;have u:=aa (p.cell S Z);have U:w.heap.size<=w.heap.size:=zL;clear i p;have y:Hid (∀ j v,[iv (-1)][j]? = some v->t.cell? ((⟨b,0,none⟩:Addr).add j)=some v):=by
  intro j v a;match j with
  | 0=>simp only [List.getElem?_cons_zero,zI] at a;subst a;simpa [Addr.add] using u.out
  | j+1=>simp at a
 have z:Hid (∀ v∈[iv (-1)],v.oneCell'=true):=by intro v E;simp only [List.mem_singleton] at E;subst E;rfl
 have A:Hid (Below w.heap.size w t):=⟨r.os,r.tape,r.out.output,r.size,fun k hk=>r.block k hk Z⟩;have h:=run_copy_row (P:=Tryz.prog) t 51 51 3 3 w.heap.size 0 c c ⟨b,0,none⟩ 1 1 ((List.replicate c 0).map iv).toArray 3 [iv (-1)] Tryz.underlying51 zK F (by show 1=min 1 c;omega) y (by simp;omega) z;have d:=setRow_heap t w.heap.size _ ((((List.replicate c 0).map iv).toArray.toList.take 0++[iv (-1)]++((List.replicate c 0).map iv).toArray.toList.drop (0 + [iv (-1)].length)).toArray) 3 _ F;have l:Below w.heap.size w (t.setRow w.heap.size ((((List.replicate c 0).map iv).toArray.toList.take 0++[iv (-1)]++((List.replicate c 0).map iv).toArray.toList.drop (0 + [iv (-1)].length)).toArray)):=below_setRow A zL _;generalize (t.setRow w.heap.size ((((List.replicate c 0).map iv).toArray.toList.take 0++[iv (-1)]++((List.replicate c 0).map iv).toArray.toList.drop (0 + [iv (-1)].length)).toArray))=w3 at h d l;rw [show goInt [iv (-1)].length=.int .i64 1 from rfl] at h;have J:Hid (q9 w3 w.heap.size (splice (List.replicate c 0) 0 [-1])):=by
  have e:((List.replicate c 0).map iv).toArray.toList.take 0++[iv (-1)]++((List.replicate c 0).map iv).toArray.toList.drop (0 + [iv (-1)].length)=(splice (List.replicate c 0) 0 [-1]).map iv:=by
   rw [<- qL];simp [splice]
  rw [e] at d;exact d
 have K:=aa l;clear d l F r u y z A;go_wp2;go_loopw [8] (fun v wr=>Hid (RepR w w.heap.size c v wr)) (fun v _=>c-(intOf v).toNat)
 case atStart=>exact ⟨1,_,O,O,rfl,by rw [length_splice _ _ _ (by simp;omega)];simp,J,K⟩
 case round =>
  obtain ⟨k,xs,hf,hk,rfl,M,N,Q⟩:=hrel.out;have G:=aa N;have s:=aa Q;clear N Q hrel J K;by_cases hlt:k<c
  ·have V:(0:Int)<=(k:Int):=O
   have W:(k:Int)<=(c:Int):=O
   have X:(c=k)=False:=eq_false O;have m:Hid (∀ j v,((xs.take (min k (c-k))).map iv)[j]? = some v->wr.cell? ((⟨w.heap.size,0,none⟩:Addr).add j)=some v):=by
    intro j v a;rw [List.getElem?_map,List.getElem?_take] at a;split at a
    ·rename_i he;rw [zX O] at a;simp only [Option.map_some,zI] at a;rw [<- a,show (⟨w.heap.size,0,none⟩:Addr).add j=⟨w.heap.size,j,none⟩ from by simp [Addr.add];omega];exact G.cell j O
    ·cases a
   have n:Hid (∀ v∈(xs.take (min k (c-k))).map iv,v.oneCell'=true):=by
    intro v E;obtain ⟨x,_,rfl⟩:=List.mem_map.1 E;rfl
   have f:Hid (((xs.take (min k (c-k))).map iv).length=Nat.min k (c-k)):=by
    show _=min _ _
    rw [List.length_map,List.length_take];omega
   have o:Hid (k+((xs.take (min k (c-k))).map iv).length<=(xs.map iv).length):=by
    show _<=_
    rw [List.length_map,List.length_take,List.length_map];omega
   obtain ⟨cs,q⟩:=eX ((xs.take (min k (c-k))).map iv);rw [<- q] at m n f o;have B:=aa q;clear q;go_wp2_with fail;go_region_law (refine step_copy_splice rfl (.tmp 41) (.tmp 44) 51 51 rfl 3 Tryz.underlying51 zK (some ⟨w.heap.size,k,none⟩) (some ⟨w.heap.size,0,none⟩) (c-k) (c-k) k c (by simp [Act.eval,Act.put]) (by simp [Act.eval,Act.put]) w.heap.size k (xs.map iv) 3 G cs f (fun _=>⟨rfl,_,rfl,m⟩) o n w.heap.size w ⟨s.os,s.tape,s.out.output,s.size,s.block⟩ zL ?_;intro w4 C D)
   all_goals
    have H:cs.length=min k (c-k):=f.out;have Y:Hid (∃ ys:List Int,ys.length=c/\q9 w4 w.heap.size ys):=by
     refine ⟨splice xs k (xs.take (min k (c-k))),?_,?_⟩
     ·rw [length_splice _ _ _ (by rw [List.length_take];omega),M]
     ·have:=C.out;rw [B,qL] at this;exact this
    have B4:=aa D;have I:IntKind.i64.wrap ((k:Int)+(cs.length:Int))=(k:Int)+((min k (c-k):Nat):Int):=by rw [<- H];exact IntWalk.i64_in _ ⟨O,O⟩
    clear C D m n f o B;simp only [List.getElem_toArray,List.getElem_cons_succ,List.getElem_cons_zero,Act.put,setA,setZ,setS,I];go_wp2;go_roundw
    case rel =>
     obtain ⟨ys,y1,y2⟩:=Y.out;exact ⟨k+min k (c-k),ys,O,O,rfl,y1,y2,B4⟩
    case measure=>exact bO
  ·obtain rfl:k=c:=O
   go_wp2;go_ret;exact ⟨_,xs,rfl,zL,M,G,Below.gr s⟩
end Go.Proofs.YtbfohfjobncehaaGreatDoor
