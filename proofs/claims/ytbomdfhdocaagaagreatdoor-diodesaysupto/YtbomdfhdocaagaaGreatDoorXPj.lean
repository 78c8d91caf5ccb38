/- Contracts. -/
import Derived.Test.YtbomdfhdocaagaaGreatDoorXPi
import Derived.Laws.CopyOwn
namespace Go.Proofs.YtbomdfhdocaagaaGreatDoor
open Go.RowKit
set_option linter.all false
set_option maxHeartbeats 8000000
set_option maxRecDepth 10000
variable {W R:Nat->Nat->Rat} {perm order:List Nat}
def fH (R:Nat->Nat->Rat) (k done:Nat) (u d:Rat) (i:Nat):Nat->Nat->Rat:=fun t =>
 if t=done then (fun j=>u*R done j) else if done<t/\t<done+1+i then kO (R t) (fun j=>u*R done j) k d else R t
def turn_sg (x:Rat):uk x=1∨uk x = -1:=by
 unfold uk;split
 ·exact .inr rfl
 ·exact .inl rfl
def sg_ne {u x:Rat} (h:u=1∨u = -1) (a:x≠0):u*x≠0:=by
 rcases h with rfl | rfl
 ·rwa [Rat.one_mul]
 ·intro e;apply a;grind
def ig (R:Nat->Nat->Rat) (k done:Nat) (u d:Rat) (i j:Nat):fH R k done u d i done j=u*R done j:=by
 unfold fH;rw [if_pos rfl]
def xS (R:Nat->Nat->Rat) (k done:Nat) (u d:Rat) (t j:Nat):(if t=done then (fun j=>u*R done j) else R t) j=fH R k done u d 0 t j:=by
 unfold fH;by_cases e:t=done
 ·rw [if_pos e,if_pos e]
 ·rw [if_neg e,if_neg e,if_neg O]
def xQ (R:Nat->Nat->Rat) (k done:Nat) (u d:Rat) (i:Nat):fH R k done u d i (done+1+i)=R (done+1+i):=by
 unfold fH;rw [if_neg O,if_neg O]
def xR (R:Nat->Nat->Rat) (k done:Nat) (u d:Rat) (i t j:Nat) :
  (if t=done+1+i then kO (R (done+1+i)) (fun j=>u*R done j) k d else fH R k done u d i t) j=fH R k done u d (i+1) t j:=by
 unfold fH;by_cases e:t=done+1+i
 ·rw [if_pos e,if_neg O,if_pos O,e]
 ·rw [if_neg e];by_cases a:t=done
  ·rw [if_pos a,if_pos a]
  ·rw [if_neg a,if_neg a];by_cases b:done<t/\t<done+1+i
   ·rw [if_pos b,if_pos O]
   ·rw [if_neg b,if_neg O]
def rM {m done:Nat} {d s u:Rat} (h:St W m done perm order R d s) (hd:done<m) (a:u=1∨u = -1) (hn:R done (order.getD done 0)≠0) :
  St W m (done+1) perm order (fH R (order.getD done 0) done u d (m-(done+1))) (u*R done (order.getD done 0)) (u*s):=by
 refine st_step h hd a (fun t c j=>?_) (fun j=>ig ..) (ig _ _ _ _ _ _ _).symm (sg_ne a hn) (fun i hi b j=>?_)
 ·unfold fH;rw [if_neg O,if_neg O]
 ·rw [ig];unfold fH;rw [if_neg O,if_pos O];rfl
def elim_wh {m done:Nat} {b:Nat->Nat} {d s u:Rat} (h:St W m done perm order R d s) (hd:done<m) (a:u=1∨u = -1) (hb:∀ r,1<=b r) (c:∀ r j,gY (b r) (W r j))
  (hR:∀ t,t<done->∀ j,gY (dS m b) (R t j)) (k i t:Nat) (ht:t<done+1) (j:Nat):gY (dS m b) (fH R k done u d i t j):=by
 by_cases e:t=done
 ·rw [e,ig];exact wO bJ a (st_wh bJ h hb c done zL hd j)
 ·unfold fH;rw [if_neg e,if_neg O];exact hR t O j
def Dx {m done L:Nat} {b:Nat->Nat} {d s u:Rat} (h:St W m done perm order R d s) (hd:done<m) (a:u=1∨u = -1) (hn:R done (order.getD done 0)≠0) (hb:∀ r,1<=b r) (c:∀ r j,gY (b r) (W r j))
  (hL1:1<=L) (hM:dS m b<4294967296^L) (t:Nat) (ht:done<t) (ht2:t<m) (j:Nat):bh L (kO (R t) (fun j=>u*R done j) (order.getD done 0) d j):=by
 have:=st_wh bJ (rM h hd a hn) hb c t O ht2 j;unfold fH at this;rw [if_neg O,if_pos O] at this;exact tB hM hL1 this
def qS (R:Nat->Nat->Rat) (n:Nat):Nat->Nat->Rat:=fun r j=>if j<n then cj (R r) n j else 0
def jG (x:Nat->Rat) {R S:Nat->Rat} : ∀ n,(∀ j,j<n->R j=S j)->cY n x R=cY n x S:=by
 intro n;induction n with
 | zero=>intro _;rfl
 | succ n ih=>intro h;unfold cY;rw [ih (fun j a=>h j O),h n O]
def Bj (x R:Nat->Rat) (c:Rat):∀ n,cY n x (fun j=>R j*c)=cY n x R*c:=by
 intro n;induction n with
 | zero=>unfold cY;grind
 | succ n ih=>unfold cY;rw [ih];grind
def mW (R:Nat->Nat->Rat) (m:Nat) (x:Nat->Rat):oF (qS R (m+1)) m x↔oF R m x:=by
 have a:∀ r,cY (m+1) x (qS R (m+1) r)=cY (m+1) x (R r)*((jf (R r) (m+1):Nat):Rat):=by
  intro r;rw [<- Bj];exact jG x (m+1) (fun j i=>by unfold qS;rw [if_pos i];rfl)
 have b:∀ r,((jf (R r) (m+1):Nat):Rat)≠0:=by
  intro r e;have:=pN (R r) (m+1);have g:((jf (R r) (m+1):Nat):Rat)=((0:Nat):Rat):=e;rw [Rat.natCast_inj] at g;omega
 constructor
 ·rintro ⟨c,d⟩;refine ⟨c,fun r f=>?_⟩;have:=d r f;rw [a r] at this;rcases Rat.mul_eq_zero.1 this with h | h
  ·exact h
  ·exact absurd h (b r)
 ·rintro ⟨c,d⟩;refine ⟨c,fun r f=>?_⟩;rw [a r,d r f,Rat.zero_mul]
def den_lcm (x:Rat) (c:Nat) (hc:0<c):c*(x*((c:Nat):Rat)).den∣Nat.lcm c x.den:=by
 have e:x*((c:Nat):Rat)=mkRat (x.num*(c:Nat)) x.den:=by
  rw [Rat.mul_def',Rat.num_natCast,Rat.den_natCast,Nat.mul_one]
 rw [e,Rat.den_mkRat,if_neg x.den_nz];have hg:Nat.gcd (x.num*((c:Nat):Int)).natAbs x.den=Nat.gcd c x.den:=by
  rw [Int.natAbs_mul,Int.natAbs_natCast,Nat.mul_comm];exact Nat.Coprime.gcd_mul_right_cancel c x.reduced
 have a:Nat.gcd x.den (x.num*((c:Nat):Int)).natAbs=Nat.gcd c x.den:=by rw [Nat.gcd_comm,hg]
 first | rw [hg] | rw [a]
 obtain ⟨k,d⟩:Nat.gcd c x.den∣x.den:=Nat.gcd_dvd_right _ _;have b:0<Nat.gcd c x.den:=Nat.gcd_pos_of_pos_left _ hc;have f:x.den / Nat.gcd c x.den=k:=by
  apply Nat.div_eq_of_eq_mul_right b;exact d
 rw [f];have g:Nat.gcd c x.den*Nat.lcm c x.den=c*x.den:=Nat.gcd_mul_lcm _ _;have h:Nat.gcd c x.den*(c*k)=Nat.gcd c x.den*Nat.lcm c x.den:=by
  rw [g]
  calc Nat.gcd c x.den*(c*k)=c*(Nat.gcd c x.den*k):=by rw [Nat.mul_left_comm]
   _=c*x.den:=by rw [<- d]
 rw [Nat.eq_of_mul_eq_mul_left b h];exact Nat.dvd_refl _
def uF (R:Nat->Rat) (D:Nat) (h:∀ j,(R j).den∣D):∀ i,jf R i∣D:=by
 intro i;induction i with
 | zero=>exact Nat.one_dvd _
 | succ i ih=>exact Nat.dvd_trans (den_lcm (R i) (jf R i) (pN R i)) (Nat.lcm_dvd ih (h i))
def kt (R:Nat->Rat) (D N:Nat) (a:0<D) (h:∀ j,(R j).den∣D) (b:∀ j,rN (R j)<=N) (i j:Nat):rN (cj R i j)<=N*D/\(cj R i j).den<=D:=by
 refine ⟨?_,Nat.le_trans (Nat.le_of_dvd (Rat.den_pos _) (AW R i j)) (Nat.le_of_dvd a (h j))⟩;have e:R j*((jf R i:Nat):Rat)=mkRat ((R j).num*(jf R i:Nat)) (R j).den:=by
  rw [Rat.mul_def',Rat.num_natCast,Rat.den_natCast,Nat.mul_one]
 unfold cj rN;rw [e,Rat.num_mkRat,if_neg (R j).den_nz];refine Nat.le_trans (Int.natAbs_ediv_le_natAbs _ _) ?_;rw [Int.natAbs_mul,Int.natAbs_natCast];exact Nat.mul_le_mul (b j) (Nat.le_of_dvd a (uF R D h i))
def lW (v q:Rat):Prop:=∃ α β:Int,α.natAbs<=1/\β.natAbs<=1/\q=(α:Rat)+(β:Rat)*v
def iz {v q:Rat} (h:lW v q):q.den∣v.den/\rN q<=v.den+rN v:=by
 obtain ⟨α,β,ha,hb,rfl⟩:=h;have e:(α:Rat)+(β:Rat)*v=mkRat (α*v.den+β*v.num) v.den:=by
  have f:v=mkRat v.num v.den:=(Rat.mkRat_self v).symm;have hd:((v.den:Nat):Rat)≠0:=by
   intro d;have:((v.den:Nat):Rat)=((0:Nat):Rat):=d;rw [Rat.natCast_inj] at this;exact v.den_nz this
  rw [Rat.mkRat_eq_div];have a:(((α*v.den+β*v.num:Int)):Rat)=(α:Rat)*((v.den:Nat):Rat)+(β:Rat)*((v.num:Int):Rat):=by
   push_cast
   rfl
  rw [a];have b:v=((v.num:Int):Rat) / ((v.den:Nat):Rat):=by conv=>lhs;rw [<- Rat.mkRat_self v,Rat.mkRat_eq_div]
  have c:(β:Rat)*v=(β:Rat)*((v.num:Int):Rat) / ((v.den:Nat):Rat):=by
   conv=>lhs;rw [b]
   rw [Rat.div_def,Rat.div_def,Rat.mul_assoc]
  rw [c,Rat.div_def,Rat.div_def,Rat.add_mul,Rat.mul_assoc (α:Rat),Rat.mul_inv_cancel _ hd,Rat.mul_one]
 rw [e];constructor
 ·rw [Rat.den_mkRat,if_neg v.den_nz];exact Nat.div_dvd_of_dvd (by first | exact Nat.gcd_dvd_right _ _ | exact Nat.gcd_dvd_left _ _)
 ·unfold rN;rw [Rat.num_mkRat,if_neg v.den_nz];refine Nat.le_trans (Int.natAbs_ediv_le_natAbs _ _) ?_;refine Nat.le_trans (Int.natAbs_add_le _ _) ?_;rw [Int.natAbs_mul,Int.natAbs_mul,Int.natAbs_natCast];have g:α.natAbs*v.den<=1*v.den:=Nat.mul_le_mul_right _ ha;have a:β.natAbs*v.num.natAbs<=1*v.num.natAbs:=Nat.mul_le_mul_right _ hb;omega
def iG (e:Nat->Nat):Nat->Nat
 | 0=>0
 | i+1=>iG e i+(1+e i)
def tS (c:Nat->Nat):∀ l l':List Nat,bg c (l++l')=bg c l*bg c l':=by
 intro l;induction l with
 | nil=>intro l';simp [bg]
 | cons a l ih=>intro l';show c a*bg c (l++l')=c a*bg c l*bg c l';rw [ih,Nat.mul_assoc]
def most_le (m:Nat) (a:m<=4294967296) (e:Nat->Nat):∀ k,bg (fun r=>m*4294967296^e r) (List.range k)<=4294967296^iG e k:=by
 intro k;induction k with
 | zero=>simp [bg,iG]
 | succ k ih =>
  rw [List.range_succ,tS];show _*(m*4294967296^e k*1)<=4294967296^(iG e k+(1+e k))
  rw [Nat.mul_one,Nat.pow_add,Nat.pow_add,Nat.pow_one];exact Nat.mul_le_mul ih (Nat.mul_le_mul_right _ a)
def Ag (m L:Nat) (a:m<=4294967296) (e:Nat->Nat) (b:iG e m<L):dS m (fun r=>4294967296^e r)<4294967296^L:=by
 unfold dS;exact Nat.lt_of_le_of_lt (most_le m a e m) (Nat.pow_lt_pow_right zD b)
def most_sq (m L M:Nat) (a:m+1<4294967296) (h:M<4294967296^L):(m+1)*(M*M)<4294967296^(2*L+1):=by
 have b:M*M<=4294967296^L*4294967296^L:=Nat.mul_le_mul (Nat.le_of_lt h) (Nat.le_of_lt h);have c:(4294967296:Nat)^(2*L+1)=4294967296*(4294967296^L*4294967296^L):=by rw [Nat.pow_succ,Nat.two_mul,Nat.pow_add,Nat.mul_comm]
 rw [c];have d:0<(4294967296:Nat)^L*4294967296^L:=Nat.mul_pos (Nat.pow_pos zD) (Nat.pow_pos zD)
 calc (m+1)*(M*M)<=(m+1)*(4294967296^L*4294967296^L):=Nat.mul_le_mul_left _ b
  _<4294967296*(4294967296^L*4294967296^L):=Nat.mul_lt_mul_of_pos_right a d
def ofR_one:fI [49]=1:=by
 unfold fI;decide
def aj {w w1:World} {g i:Nat} {v:Value} (h:w.grownBy w1 (some g)):w.grownBy (w1.setCell ⟨g,i,none⟩ v) (some g) :=
 aw (r2:=some g) h ⟨rfl,rfl,rfl,Z,fun k _ a=>heap_setCell_other _ _ _ _ (fun e=>a (by rw [e]))⟩ (fun _ _ e=>e) (fun _ _ e=>e)
def FldE (w:World) (e:Ending) (w':World):Prop:=∃ fo fl fc fo2 fl2 fc2,e=.returned (kh false (.slice fo fl fc) (.slice fo2 fl2 fc2))/\FQ w' (.agg #[.bool false,.slice fo fl fc,.slice fo2 fl2 fc2]) 1 2/\w.grownBy w' none
def tC (m:Int) (w:World) (f:w.cell? ⟨2,0,none⟩=some (.int .i64 m)) :
  Calls Tryz.prog 57 #[] w fun e K=>FldE w e K:=by
 have z:=ab f;have hb:=bS f;clear f;obtain ⟨W,j⟩:=eX (w.alloc (Obj.cells #[.bool false,.slice none 0 0,.slice none 0 0,.nilFunc,.nilFunc,.nilFunc,.nilFunc,.nilFunc,.nilFunc,.nilFunc,.nilFunc] 111));have q:Hid (w.grownBy W none):=by rw [j];exact ag (ae _ _) _
 have A:Hid (∀ wx,W.grownBy wx none->wx.heap[w.heap.size]? = some (Obj.cells #[.bool false,.slice none 0 0,.slice none 0 0,.nilFunc,.nilFunc,.nilFunc,.nilFunc,.nilFunc,.nilFunc,.nilFunc,.nilFunc] 111 (0,0))):=by
  intro wx hg;rw [j] at hg;rw [hg.block w.heap.size Z Z];exact heap_alloc_new w _
 go_enter Tryz.func57,Tryz.ntmps57
 go_wp2_with fail;rw [<- j];clear j;refine (EW _ m _ zD (q.cell z Z)).mono ?_;rintro e c ⟨v,rfl,l,p⟩;have B:fI (ByteArray.mk #[49]).data.toList=1:=ofR_one;rw [B] at l;obtain ⟨r,s,t,h,u,y,rfl⟩:=l.shape;have C:=ab l;have D:=ab p;have b:=A.out c p;have d:∀ k,k<11->(c.cell? ⟨w.heap.size,k,none⟩).isSome=true/\c.frozen? ⟨w.heap.size,k,none⟩=false:=by
  intro k X;simp only [World.cell?,World.frozen?,b];refine ⟨?_,Z⟩;rcases k with _ | _ | _ | _ | _ | _ | _ | _ | _ | _ | _ | k<;>first | rfl | omega
 have c0:c.cell? ⟨w.heap.size,0,none⟩=some (.bool false):=by simp [World.cell?,b]
 have c1:c.cell? ⟨w.heap.size,1,none⟩=some (.slice none 0 0):=by simp [World.cell?,b]
 have c2:c.cell? ⟨w.heap.size,2,none⟩=some (.slice none 0 0):=by simp [World.cell?,b]
 have c3:c.cell? ⟨w.heap.size,3,none⟩=some .nilFunc:=by simp [World.cell?,b]
 have c4:c.cell? ⟨w.heap.size,4,none⟩=some .nilFunc:=by simp [World.cell?,b]
 have c5:c.cell? ⟨w.heap.size,5,none⟩=some .nilFunc:=by simp [World.cell?,b]
 have E:c.cell? ⟨w.heap.size,6,none⟩=some .nilFunc:=by simp [World.cell?,b]
 have F:c.cell? ⟨w.heap.size,7,none⟩=some .nilFunc:=by simp [World.cell?,b]
 have G:c.cell? ⟨w.heap.size,8,none⟩=some .nilFunc:=by simp [World.cell?,b]
 have H:c.cell? ⟨w.heap.size,9,none⟩=some .nilFunc:=by simp [World.cell?,b]
 have o:c.cell? ⟨w.heap.size,10,none⟩=some .nilFunc:=by simp [World.cell?,b]
 have f0:=(d 0 O).2;have f1:=(d 1 O).2;have L:=(d 2 O).2;have M:=(d 3 O).2;have N:=(d 4 O).2;have P:=(d 5 O).2;have Q:=(d 6 O).2;have S:=(d 7 O).2;have T:=(d 8 O).2;have U:=(d 9 O).2;have I:=(d 10 O).2;have J:Hid (bR c w.heap.size):=by
  intro i x;simp only [World.cell?,b];rcases i with _ | _ | _ | _ | _ | _ | _ | _ | _ | _ | _ | i<;>simp
 clear d b l p;have V:∀ (n:Nat) (a:Addr) (wx:World),(store a (.func (.func n) #[] #[])).run Tryz.prog wx=stored Tryz.prog wx a (.func (.func n) #[] #[]) .plain:=fun n a wx=>run_store _ _ _ _ _ rfl
 go_wp2;refine bodyPost_ret (v:=kh (rB 1) (.slice r s t) (.slice h u y)) (by simp [results,Tryz.results57,go_sem,c0,c1,c2,c3,c4,c5,E,F,G,H,o]) rfl ?_;refine ⟨r,s,t,h,u,y,rfl,FV.other (g:=w.heap.size) C J ?_,?_⟩
 ·exact aj (aj (aj (aj (aj (aj (aj (aj (aj (aj (aj (ae _ _)))))))))))
 ·exact ah (ah (ah (ah (ah (ah (ah (ah (ah (ah (ah (aa q D) _ _ zL) _ _ zL) _ _ zL) _ _ zL) _ _ zL) _ _ zL) _ _ zL) _ _ zL) _ _ zL) _ _ zL) _ _ zL
attribute [local simp] fU bL eJ dP
def pG (w:World) (k:Nat) (R:Nat->Rat) (L:Nat) (e:Ending) (w':World):Prop:=∃ g,e=.returned (.slice (some ⟨g,0,none⟩) k k)/\w.heap.size<=g/\aJ w' g k R L/\w.grownBy w' none
def kB (n k:Nat) (c:Option Addr) (d:Nat) (w:World) (hn:n<=1000) (i:k<=1000) :
  Calls Tryz.prog 138 #[.agg #[.int .i64 ((n:Nat):Int),.slice c k d]] w fun e h=>pG w (n+k+1) (fun _=>0) 0 e h:=by
 have j:IntKind.i64.wrap ((n:Int)+(k:Int))=(n:Int)+(k:Int):=IntWalk.i64_in _ ⟨O,O⟩;have l:IntKind.i64.wrap ((n:Int)+(k:Int)+1)=(n:Int)+(k:Int)+1:=IntWalk.i64_in _ ⟨O,O⟩;go_enter Tryz.func138,Tryz.ntmps138
 go_wp2_with (at_make;refine lR _ rfl _ _ 79 rfl Tryz.underlying79 Tryz.infoF _ _ _ _ (n+k+1) rfl rfl O O O ?_)
 intro w1 a b;have f:=ab a;have g:=ab b;clear a b;go_wp2;go_ret;refine ⟨_,rfl,Z,f,aa (ag (ae _ _) _) g⟩
def ks (p:aA) (j:Nat):Rat:=(if p.a=(j:Int) then 0+1 else 0)-(if p.b=(j:Int) then 1 else 0)
def dO (n:Nat) (ps:List aA) (j:Nat):Nat->Rat:=fun x=>if x<n then 0 else match ps[x-n]? with | some p=>ks p j | none=>0
def eW (n:Nat) (ps:List aA) (j i:Nat):Nat->Rat:=fun x=>if x<n+i then dO n ps j x else 0
def jO (n:Nat) (a:List aA) (j i:Nat) (hi:i<a.length) (x:Nat):aN (eW n a j i) (n+i) (ks a[i] j) x=eW n a j (i+1) x:=by
 unfold aN eW;by_cases h:x=n+i
 ·rw [if_pos h,if_pos O,h];unfold dO;rw [if_neg O,show n+i-n=i by omega,zX hi]
 ·rw [if_neg h];by_cases b:x<n+i
  ·rw [if_pos b,if_pos O]
  ·rw [if_neg b,if_neg O]
def put_put (R:Nat->Rat) (k:Nat) (a b:Rat) (x:Nat):aN (aN R k a) k b x=aN R k b x:=by
 unfold aN;by_cases h:x=k
 ·rw [if_pos h,if_pos h]
 ·rw [if_neg h,if_neg h,if_neg h]
def vP (n:Nat) (a:List aA) (j i:Nat) (hi:i<a.length) (h:ks a[i] j=0) (x:Nat):eW n a j i x=eW n a j (i+1) x:=by
 rw [<- jO n a j i hi x,h];unfold aN eW;by_cases h:x=n+i
 ·rw [if_pos h,if_neg O]
 ·rw [if_neg h]
def CU {p:aA} {j:Nat} (c:p.a=(j:Int)) (d:p.b=(j:Int)):ks p j=0+1-1:=by unfold ks;rw [if_pos c,if_pos d]
def CT {p:aA} {j:Nat} (c:p.a=(j:Int)) (d:¬ p.b=(j:Int)):ks p j=0+1:=by unfold ks;rw [if_pos c,if_neg d];grind
def CS {p:aA} {j:Nat} (c:¬ p.a=(j:Int)) (d:p.b=(j:Int)):ks p j=0-1:=by unfold ks;rw [if_neg c,if_pos d]
def CR {p:aA} {j:Nat} (c:¬ p.a=(j:Int)) (d:¬ p.b=(j:Int)):ks p j=0:=by unfold ks;rw [if_neg c,if_neg d];grind
def NodR (W:World) (g n:Nat) (ps:List aA) (j L:Nat) (v:Value) (wr:World):Prop :=
 ∃ i:Nat,i<=ps.length/\v=.int .i64 i/\aJ wr g (n+ps.length+1) (eW n ps j i) L/\aK W wr g
def yx (z:Bool) (A m:Option Addr) (fl fc o q:Nat) (n j:Nat) (pv:Value) (f:List aA) (L:Nat) (w:World) (h1:FQ w (.agg #[.bool z,.slice A fl fc,.slice m o q]) 1 L) (hp:aB w pv f)
  (hj:j<n) (hj0:j≠0) (hn:n<=1000) (hk:f.length<=1000) (hL1:1<=L) (hL:L<=100000000) :
  Calls Tryz.prog 94 #[(kh z (.slice A fl fc) (.slice m o q)),.agg #[.int .i64 ((n:Nat):Int),pv],.int .i64 ((j:Nat):Int)] w fun e u=>pG w (n+f.length+1) (dO n f j) L e u:=by
 have H1:=ab h1;have HP:=ab hp;obtain ⟨ao,cap,rfl,Hc,kl,hH⟩:=hp;have hN:=ab hH;have hQ:Hid (bh L (0+1)):=by
  have e:(0:Rat)+1=1:=by grind
  rw [e];exact h1.fits hL1
 have hR:Hid (bh L (0+1-1)):=by
  have e:(0:Rat)+1-1=0:=by grind
  rw [e];exact (bj w L).fits hL1
 have hS:Hid (bh L (0-1)):=by
  have e:(0:Rat)-1 = -1:=by grind
  rw [e];exact (h1.fits hL1).neg
 unfold maxLen at kl;clear h1 hH;obtain ⟨W,hW⟩:=eX ((w.alloc (Obj.cells #[.bool z,.slice A fl fc,.slice m o q,.func (.func 84) #[] #[],.func (.func 85) #[] #[],.func (.func 86) #[] #[],.func (.func 87) #[] #[],.func (.func 88) #[] #[],.func (.func 89) #[] #[],.func (.func 90) #[] #[],.func (.func 91) #[] #[]] 111)).alloc (Obj.cells #[.int .i64 ((n:Nat):Int),.slice ao f.length cap] 24));have GW:Hid (w.grownBy W none):=by rw [hW];exact ag (ag (ae _ _) _) _
 have he:Hid (W.heap.size=w.heap.size+2):=by show _=_;rw [hW];simp
 have S:Hid (∀ wx g,W.heap.size<=g->W.grownBy wx (some g)->fU wx (w.heap.size)/\bL wx (w.heap.size) (.bool z) (.slice A fl fc) (.slice m o q)/\dP wx (w.heap.size+1) (.int .i64 ((n:Nat):Int)) (.slice ao f.length cap)):=by
  intro wx g Hb hg;have md:=he.out;have n1:some w.heap.size≠some g:=fun e=>by have:=zJ e;omega
  have n2:some (w.heap.size+1)≠some g:=fun e=>by have:=zJ e;omega
  obtain ⟨f1,f2⟩:=kC z A m fl fc o q (w:=W) (by rw [hW];exact ag (ae _ _) _);exact ⟨f1.k hg n1,f2.k hg n1,dP.k (w:=W) (by rw [hW];exact ⟨zG,zG⟩) hg n2⟩
 have s0:=S.out W W.heap.size zL (ae _ _);go_enter Tryz.func94,Tryz.ntmps94
 go_upto_region 1 with fail;rw [<- hW];clear hW;go_wp2_with fail;refine (kB n f.length ao cap W hn hk).mono ?_;rintro e w1 ⟨g,rfl,ko,hI,B⟩;have F1:=ab hI;have G1:=ab B;have ml:w.heap.size+2<=g:=by have:=he.out;omega
 have l:Hid (∀ wx,aK w1 wx g->fU wx (w.heap.size)/\bL wx (w.heap.size) (.bool z) (.slice A fl fc) (.slice m o q)/\dP wx (w.heap.size+1) (.int .i64 ((n:Nat):Int)) (.slice ao f.length cap)):=fun wx hx=>S wx g ko (aw (r:=some g) G1 hx.1 nofun (fun _ _ e=>e))
 have J:=ab (aa GW B);have mm:(((j:Nat):Int)==0)=false:=zB O;have hy:Hid (w.heap.size+2<=w1.heap.size):=by show _<=_;have:=he.out;have:=B.size;omega
 clear hI B s0;have s0:=l.out w1 (aK.refl _ _);go_wp2;go_loopw [23] (fun v wr=>Hid (NodR w1 g n f j L v wr)) (fun v _=>f.length-(intOf v).toNat)
 case atStart=>exact ⟨0,O,rfl,(F1.mono (Nat.zero_le _)).congr (fun x _=>by unfold eW dO;by_cases h:x<n+0<;>simp_all),aK.refl _ _⟩
 case round =>
  obtain ⟨i,hi,rfl,l1,l2⟩:=hrel.out;have L1:=ab l1;have G:=ab l2;clear l1 l2 hrel F1 s0;by_cases hlt:i<f.length
  ·obtain ⟨b,off,rfl,hb,c0,c1,c2,c3,c4,c5,c6⟩:=hN.out i hlt;obtain ⟨p,hu⟩:=eX (f[i]);rw [<- hu] at c0 c1 c2 c3 c4 c5 c6;have M:=ab hu;have E:some b≠some g:=fun e=>by have:=zJ e;omega
   have q0:=G.out.1.cell (J.cell c0 Z) E;have q1:=G.out.1.cell (J.cell c1 Z) E;have q2:=G.out.1.cell (J.cell c2 Z) E;have q3:=G.out.1.cell (J.cell c3 Z) E;have q4:=G.out.1.cell (J.cell c4 Z) E;have q5:=G.out.1.cell (J.cell c5 Z) E;clear c0 c1 c2 c3 c4 c5 c6 hu;have s0:=l.out wr G;have jp:w.heap.size+2<=wr.heap.size:=Nat.le_trans hy G.1.size;have mo:g<wr.heap.size:=L1.out.lt;go_upto_region 8 with fail;obtain ⟨y,P⟩:=eX (wr.alloc (Obj.cells #[.int .i64 p.kind,.int .i64 p.a,.int .i64 p.b,.int .i64 p.c,.int .i64 p.d,.string p.v] 55));have G2:Hid (wr.grownBy y none):=by rw [P];exact ag (ae _ _) _
   have N:Hid (∀ wx,aK y wx g->wx.cell? ⟨wr.heap.size,1,none⟩=some (.int .i64 p.a)/\wx.cell? ⟨wr.heap.size,2,none⟩=some (.int .i64 p.b)):=by
    intro wx hx;have hl:=hx.1;rw [P] at hl;have n1:some wr.heap.size≠some g:=fun e=>by have:=zJ e;omega
    exact ⟨hl.cell zG n1,hl.cell zG n1⟩
   rw [<- P];clear P q0 q1 q2 q3 q4 q5 s0;have F2:=ab (L1.keep0 G2);have T:=ab (G.gr G2);have t:n+i<n+f.length+1:=O
   have mp:IntKind.i64.wrap ((n:Int)+(i:Int))=(n:Int)+(i:Int):=IntWalk.i64_in _ ⟨O,O⟩;have jv:(0:Int)<=(n:Int)+(i:Int):=O
   have mc:(n:Int)+(i:Int)<(n:Int)+(f.length:Int)+1:=O
   have ms:g≠w.heap.size:=O
   have mt:g≠w.heap.size+1:=O
   have Ha:g≠wr.heap.size:=O
   have hz:eW n f j i (n+i)=0:=by unfold eW;rw [if_neg O]
   have hC:=ab hz;clear hz;have s0:=l.out y T;obtain ⟨t1,t2⟩:=N.out y (aK.refl _ _);by_cases hA:p.a=(j:Int)
   ·have hT:(p.a==(j:Int))=true:=beq_iff_eq.2 hA;have HA:=ab hA;clear hA;obtain ⟨kw,kz,kF,kH,kN,kS,C,r1,r2,H,I⟩:=F2.out.at (n+i) t;rw [hC] at C H;have hX:=ab H;have hY:=ab (H1.kept ((aO.of_gr J).trans T.2));have hD:Hid (∀ wx,y.grownBy wx none->(fU wx (w.heap.size)/\bL wx (w.heap.size) (.bool z) (.slice A fl fc) (.slice m o q)/\dP wx (w.heap.size+1) (.int .i64 ((n:Nat):Int)) (.slice (some ⟨b,off,none⟩) f.length cap))/\wx.cell? ⟨wr.heap.size,1,none⟩=some (.int .i64 p.a)/\wx.cell? ⟨wr.heap.size,2,none⟩=some (.int .i64 p.b)):=by
     intro wx hg;exact ⟨l wx (T.gr hg),N wx (aK.of_gr hg)⟩
    have U:Hid (∀ wx,y.grownBy wx none->aJ wx g (n+f.length+1) (eW n f j i) L/\eJ wx g (n+i) (.bool (rB (0))) (.slice kw kz kF) (.slice kH kN kS)/\∀ k,wx.frozen? ⟨g,k,none⟩=false):=by
     intro wx hg;have V:=F2.out.keep0 hg;obtain ⟨_,_,_,_,_,_,_,_,_,_,hf⟩:=V.at (n+i) t;exact ⟨V,(show eJ _ _ _ _ _ _ from ⟨C,r1,r2⟩).k0 hg,hf⟩
    clear C r1 r2 H I;have GG:y.grownBy y none:=ae _ _;have s0:=hD.out y GG;obtain ⟨fr,C,I⟩:=U.out y GG;clear fr I;go_wp2;refine hd (fun u=>(fU u (w.heap.size)/\bL u (w.heap.size) (.bool z) (.slice A fl fc) (.slice m o q)/\dP u (w.heap.size+1) (.int .i64 ((n:Nat):Int)) (.slice (some ⟨b,off,none⟩) f.length cap))/\u.cell? ⟨wr.heap.size,1,none⟩=some (.int .i64 p.a)/\u.cell? ⟨wr.heap.size,2,none⟩=some (.int .i64 p.b)) (fun hHeld=>?_);refine tk 4 [(0,36,.slice (some ⟨g,0,none⟩) (n+f.length+1) (n+f.length+1)),(1,37,.int .i64 ((n:Int)+(i:Int))),(2,38,.pointer (some ⟨w.heap.size,4,none⟩)),(3,39,.func (.func 85) #[] #[]),(4,40,.slice (some ⟨g,0,none⟩) (n+f.length+1) (n+f.length+1)),(5,41,.int .i64 ((n:Int)+(i:Int))),(6,42,.pointer (some ⟨g,(n+i)*3,none⟩)),(8,44,.pointer (some ⟨w.heap.size,0,none⟩)),(9,45,Value.agg #[.bool z,.slice A fl fc,.slice m o q])] ?_;try simp only [zU]
    refine cX 3 7 (fun K s=>?_);simp only [ax,q4,q5,q6,q7];go_simp
    refine bk s (fun hHeld=>?_);clear s K;try simp only [zU]
    refine cX 2 10 (fun K s=>?_);simp only [ax,q4,q5,q6,q7];go_simp
    go_at_call 85
    refine (mO _ _ (0) 1 L L _ (hX.keep0 (gx GG)) (hY.keep0 (gx GG)) O).mono ?_;rintro e hv ⟨vm,rfl,pm,gm⟩;have pm:=pm.tight (L':=L) hQ;obtain ⟨qa,qb,qc,qf,ql,qo,rfl⟩:=pm.shape;have GG:=aa (gx GG) gm;have b0:=hD.out hv GG;obtain ⟨fr,d0,D⟩:=U.out hv GG;have hm:=D ((n+i)*3);have ho:=D ((n+i)*3+1);have hq:=D ((n+i)*3+2);clear D;go_wp2_with fail;refine bk s (fun hHeld=>?_);clear s K;refine tk 1 [(11,47,.pointer (some ⟨g,(n+i)*3,none⟩))] ?_;try simp only [zU]
    refine cX 0 12 (fun K s=>?_);simp only [ax,q4,q5,q6,q7];go_simp
    refine bk s (fun hHeld=>?_);clear s K;try simp only [zU]
    refine wpAnyH_done zK ?_ _;have FR:=ab fr;have PM:=ab pm;have GF:=ab GG;clear fr pm GG;obtain ⟨Q,hw⟩:=eX (((hv.setCell ⟨g,(n+i)*3,none⟩ (.bool (rB (0+1)))).setCell ⟨g,(n+i)*3+1,none⟩ (.slice qa qb qc)).setCell ⟨g,(n+i)*3+2,none⟩ (.slice qf ql qo));obtain ⟨y1,y2,y3⟩:=FR.out.set (n+i) t PM;rw [<- hw] at y1 y2 y3;rw [<- hw];have F3:=ab y1;have R3:=ab ((T.gr GF).trans ⟨y2,y3⟩);have hE:Hid (∀ wx,aK Q wx g->wx.cell? ⟨wr.heap.size,1,none⟩=some (.int .i64 p.a)/\wx.cell? ⟨wr.heap.size,2,none⟩=some (.int .i64 p.b)):=fun wx hx=>N wx (((aK.of_gr GF).trans ⟨y2,y3⟩).trans hx)
    have ka:Hid (aN (eW n f j i) (n+i) (0+1) (n+i)=0+1):=by show _=_;unfold aN;rw [if_pos rfl]
    clear hw y1 y2 y3 FR PM b0 d0 hm ho hq;have s0:=l.out Q R3;obtain ⟨t1,t2⟩:=hE.out Q (aK.refl _ _);by_cases F:p.b=(j:Int)
    ·have hs:(p.b==(j:Int))=true:=beq_iff_eq.2 F;have HB:=ab F;clear F;obtain ⟨qq,qs,yc,yl,yn,yo,C,r1,r2,H,I⟩:=F3.out.at (n+i) t;rw [ka] at C H;have kb:=ab H;have kc:=ab (H1.kept ((aO.of_gr J).trans R3.2));have hF:Hid (∀ wx,Q.grownBy wx none->(fU wx (w.heap.size)/\bL wx (w.heap.size) (.bool z) (.slice A fl fc) (.slice m o q)/\dP wx (w.heap.size+1) (.int .i64 ((n:Nat):Int)) (.slice (some ⟨b,off,none⟩) f.length cap))/\wx.cell? ⟨wr.heap.size,1,none⟩=some (.int .i64 p.a)/\wx.cell? ⟨wr.heap.size,2,none⟩=some (.int .i64 p.b)):=by
      intro wx hg;exact ⟨l wx (R3.gr hg),hE wx (aK.of_gr hg)⟩
     have X:Hid (∀ wx,Q.grownBy wx none->aJ wx g (n+f.length+1) (aN (eW n f j i) (n+i) (0+1)) L/\eJ wx g (n+i) (.bool (rB (0+1))) (.slice qq qs yc) (.slice yl yn yo)/\∀ k,wx.frozen? ⟨g,k,none⟩=false):=by
      intro wx hg;have V:=F3.out.keep0 hg;obtain ⟨_,_,_,_,_,_,_,_,_,_,hf⟩:=V.at (n+i) t;exact ⟨V,(show eJ _ _ _ _ _ _ from ⟨C,r1,r2⟩).k0 hg,hf⟩
     clear C r1 r2 H I;have GG:Q.grownBy Q none:=ae _ _;have s0:=hF.out Q GG;obtain ⟨fr,C,I⟩:=X.out Q GG;clear fr I;go_wp2;refine hd (fun u=>(fU u (w.heap.size)/\bL u (w.heap.size) (.bool z) (.slice A fl fc) (.slice m o q)/\dP u (w.heap.size+1) (.int .i64 ((n:Nat):Int)) (.slice (some ⟨b,off,none⟩) f.length cap))/\u.cell? ⟨wr.heap.size,1,none⟩=some (.int .i64 p.a)/\u.cell? ⟨wr.heap.size,2,none⟩=some (.int .i64 p.b)) (fun hHeld=>?_);refine tk 4 [(0,52,.slice (some ⟨g,0,none⟩) (n+f.length+1) (n+f.length+1)),(1,53,.int .i64 ((n:Int)+(i:Int))),(2,54,.pointer (some ⟨w.heap.size,5,none⟩)),(3,55,.func (.func 86) #[] #[]),(4,56,.slice (some ⟨g,0,none⟩) (n+f.length+1) (n+f.length+1)),(5,57,.int .i64 ((n:Int)+(i:Int))),(6,58,.pointer (some ⟨g,(n+i)*3,none⟩)),(8,60,.pointer (some ⟨w.heap.size,0,none⟩)),(9,61,Value.agg #[.bool z,.slice A fl fc,.slice m o q])] ?_;try simp only [zU]
     refine cX 3 7 (fun K s=>?_);simp only [ax,q4,q5,q6,q7];go_simp
     refine bk s (fun hHeld=>?_);clear s K;try simp only [zU]
     refine cX 2 10 (fun K s=>?_);simp only [ax,q4,q5,q6,q7];go_simp
     go_at_call 86
     refine (dK _ _ (0+1) 1 L L _ (kb.keep0 (gx GG)) (kc.keep0 (gx GG)) O).mono ?_;rintro e hJ ⟨vm,rfl,pm,gm⟩;have pm:=pm.tight (L':=L) hR;obtain ⟨Hd,He,Hf,Hg,Hh,Hi,rfl⟩:=pm.shape;have GG:=aa (gx GG) gm;have b0:=hF.out hJ GG;obtain ⟨fr,d0,D⟩:=X.out hJ GG;have hm:=D ((n+i)*3);have ho:=D ((n+i)*3+1);have hq:=D ((n+i)*3+2);clear D;go_wp2_with fail;refine bk s (fun hHeld=>?_);clear s K;refine tk 1 [(11,63,.pointer (some ⟨g,(n+i)*3,none⟩))] ?_;try simp only [zU]
     refine cX 0 12 (fun K s=>?_);simp only [ax,q4,q5,q6,q7];go_simp
     refine bk s (fun hHeld=>?_);clear s K;try simp only [zU]
     refine wpAnyH_done zK ?_ _;have FR:=ab fr;have PM:=ab pm;have GF:=ab GG;clear fr pm GG;go_wp2;go_roundw
     case rel =>
      obtain ⟨y1,y2,y3⟩:=FR.out.set (n+i) t PM;refine ⟨i+1,O,zN,y1.congr (fun x _=>?_),(R3.gr GF).trans ⟨y2,y3⟩⟩;rw [put_put];rw [<- jO n f j i hlt x,<- M,CU HA HB]
     case measure=>exact bH
    ·have hs:(p.b==(j:Int))=false:=zB F;have HB:=ab F;clear F;go_wp2;go_roundw
     case rel=>exact ⟨i+1,O,zN,F3.congr (fun x _=>by rw [<- jO n f j i hlt x,<- M,CT HA HB]),R3⟩
     case measure=>exact bH
   ·have hT:(p.a==(j:Int))=false:=zB hA;have HA:=ab hA;clear hA;by_cases F:p.b=(j:Int)
    ·have hs:(p.b==(j:Int))=true:=beq_iff_eq.2 F;have HB:=ab F;clear F;obtain ⟨yv,jc,jg,jk,jl,jo,C,r1,r2,H,I⟩:=F2.out.at (n+i) t;rw [hC] at C H;have kf:=ab H;have kk:=ab (H1.kept ((aO.of_gr J).trans T.2));have hG:Hid (∀ wx,y.grownBy wx none->(fU wx (w.heap.size)/\bL wx (w.heap.size) (.bool z) (.slice A fl fc) (.slice m o q)/\dP wx (w.heap.size+1) (.int .i64 ((n:Nat):Int)) (.slice (some ⟨b,off,none⟩) f.length cap))/\wx.cell? ⟨wr.heap.size,1,none⟩=some (.int .i64 p.a)/\wx.cell? ⟨wr.heap.size,2,none⟩=some (.int .i64 p.b)):=by
      intro wx hg;exact ⟨l wx (T.gr hg),N wx (aK.of_gr hg)⟩
     have Y:Hid (∀ wx,y.grownBy wx none->aJ wx g (n+f.length+1) (eW n f j i) L/\eJ wx g (n+i) (.bool (rB (0))) (.slice yv jc jg) (.slice jk jl jo)/\∀ k,wx.frozen? ⟨g,k,none⟩=false):=by
      intro wx hg;have V:=F2.out.keep0 hg;obtain ⟨_,_,_,_,_,_,_,_,_,_,hf⟩:=V.at (n+i) t;exact ⟨V,(show eJ _ _ _ _ _ _ from ⟨C,r1,r2⟩).k0 hg,hf⟩
     clear C r1 r2 H I;have GG:y.grownBy y none:=ae _ _;have s0:=hG.out y GG;obtain ⟨fr,C,I⟩:=Y.out y GG;clear fr I;go_wp2;refine hd (fun u=>(fU u (w.heap.size)/\bL u (w.heap.size) (.bool z) (.slice A fl fc) (.slice m o q)/\dP u (w.heap.size+1) (.int .i64 ((n:Nat):Int)) (.slice (some ⟨b,off,none⟩) f.length cap))/\u.cell? ⟨wr.heap.size,1,none⟩=some (.int .i64 p.a)/\u.cell? ⟨wr.heap.size,2,none⟩=some (.int .i64 p.b)) (fun hHeld=>?_);refine tk 4 [(0,52,.slice (some ⟨g,0,none⟩) (n+f.length+1) (n+f.length+1)),(1,53,.int .i64 ((n:Int)+(i:Int))),(2,54,.pointer (some ⟨w.heap.size,5,none⟩)),(3,55,.func (.func 86) #[] #[]),(4,56,.slice (some ⟨g,0,none⟩) (n+f.length+1) (n+f.length+1)),(5,57,.int .i64 ((n:Int)+(i:Int))),(6,58,.pointer (some ⟨g,(n+i)*3,none⟩)),(8,60,.pointer (some ⟨w.heap.size,0,none⟩)),(9,61,Value.agg #[.bool z,.slice A fl fc,.slice m o q])] ?_;try simp only [zU]
     refine cX 3 7 (fun K s=>?_);simp only [ax,q4,q5,q6,q7];go_simp
     refine bk s (fun hHeld=>?_);clear s K;try simp only [zU]
     refine cX 2 10 (fun K s=>?_);simp only [ax,q4,q5,q6,q7];go_simp
     go_at_call 86
     refine (dK _ _ (0) 1 L L _ (kf.keep0 (gx GG)) (kk.keep0 (gx GG)) O).mono ?_;rintro e hM ⟨vm,rfl,pm,gm⟩;have pm:=pm.tight (L':=L) hS;obtain ⟨Hj,Hk,Hl,Hm,Hn,Ho,rfl⟩:=pm.shape;have GG:=aa (gx GG) gm;have b0:=hG.out hM GG;obtain ⟨fr,d0,D⟩:=Y.out hM GG;have hm:=D ((n+i)*3);have ho:=D ((n+i)*3+1);have hq:=D ((n+i)*3+2);clear D;go_wp2_with fail;refine bk s (fun hHeld=>?_);clear s K;refine tk 1 [(11,63,.pointer (some ⟨g,(n+i)*3,none⟩))] ?_;try simp only [zU]
     refine cX 0 12 (fun K s=>?_);simp only [ax,q4,q5,q6,q7];go_simp
     refine bk s (fun hHeld=>?_);clear s K;try simp only [zU]
     refine wpAnyH_done zK ?_ _;have FR:=ab fr;have PM:=ab pm;have GF:=ab GG;clear fr pm GG;go_wp2;go_roundw
     case rel =>
      obtain ⟨y1,y2,y3⟩:=FR.out.set (n+i) t PM;refine ⟨i+1,O,zN,y1.congr (fun x _=>?_),(T.gr GF).trans ⟨y2,y3⟩⟩;rw [<- jO n f j i hlt x,<- M,CS HA HB]
     case measure=>exact bH
    ·have hs:(p.b==(j:Int))=false:=zB F;have HB:=ab F;clear F;go_wp2;go_roundw
     case rel=>exact ⟨i+1,O,zN,F2.congr (fun x _=>vP n f j i hlt (by rw [<- M];exact CR HA HB) x),T⟩
     case measure=>exact bH
  ·obtain rfl:i=f.length:=O
   have s0:=l.out wr G;go_wp2;refine bodyPost_ret (v:=.slice (some ⟨g,0,none⟩) (n+f.length+1) (n+f.length+1)) (by simp [results,Tryz.results94,go_sem]) rfl ?_;refine ⟨g,rfl,O,L1.congr (fun x hx=>?_),aw (r:=none) J G.1 (fun _ _ e=>e) (fun b hb e=>by have:=zJ e;omega)⟩;unfold eW;by_cases h:x<n+f.length
   ·rw [if_pos h]
   ·rw [if_neg h];unfold dO;rw [if_neg O,List.getElem?_eq_none O]
def tM (j:Bool) (m a:Option Addr) (fl fc c d:Nat) (n k:Nat) (q:Option Addr) (cap:Nat) (L:Nat) (w:World) (t:FQ w (.agg #[.bool j,.slice m fl fc,.slice a c d]) 1 L) (hn:n<=1000) (z:k<=1000) :
  Calls Tryz.prog 94 #[(kh j (.slice m fl fc) (.slice a c d)),.agg #[.int .i64 ((n:Nat):Int),.slice q k cap],.int .i64 0] w fun e M=>pG w (n+k+1) (aN (fun _=>0) 0 1) L e M:=by
 have A:=ab t;have o:Hid (j=rB 1):=FV.parts t;clear t;obtain ⟨W,l⟩:=eX ((w.alloc (Obj.cells #[.bool j,.slice m fl fc,.slice a c d,.func (.func 84) #[] #[],.func (.func 85) #[] #[],.func (.func 86) #[] #[],.func (.func 87) #[] #[],.func (.func 88) #[] #[],.func (.func 89) #[] #[],.func (.func 90) #[] #[],.func (.func 91) #[] #[]] 111)).alloc (Obj.cells #[.int .i64 ((n:Nat):Int),.slice q k cap] 24));have B:Hid (w.grownBy W none):=by rw [l];exact ag (ag (ae _ _) _) _
 have p:Hid (W.heap.size=w.heap.size+2):=by show _=_;rw [l];simp
 have h:Hid (∀ wx,W.grownBy wx none->bL wx (w.heap.size) (.bool j) (.slice m fl fc) (.slice a c d)/\dP wx (w.heap.size+1) (.int .i64 ((n:Nat):Int)) (.slice q k cap)):=by
  intro wx hg;exact ⟨(kC j m a fl fc c d (w:=W) (by rw [l];exact ag (ae _ _) _)).2.k0 hg,dP.k0 (w:=W) (by rw [l];exact ⟨zG,zG⟩) hg⟩
 have s0:=h.out W (ae _ _);go_enter Tryz.func94,Tryz.ntmps94
 go_upto_region 1 with fail;rw [<- l];clear l;go_wp2_with fail;refine (kB n k q cap W hn z).mono ?_;rintro e w1 ⟨g,rfl,H,i,f⟩;have N:=h.out w1 f;have C:=ab (i.mono (Nat.zero_le L));have x:=ab (aa B f);obtain ⟨P,Q,S,T,U,V,I,J,K,_,s⟩:=i.at 0 O;simp only [Nat.zero_mul,Nat.zero_add] at I J K;have D:=s 0;have E:=s 1;have F:=s 2;have G:(0:Int)<(n:Int)+(k:Int)+1:=O
 clear i f s s0;go_wp2;refine bodyPost_ret (v:=.slice (some ⟨g,0,none⟩) (n+k+1) (n+k+1)) (by simp [results,Tryz.results94,go_sem]) rfl ?_;have y:=A.out.keep0 x;rw [o] at y;have u:=C.out.set 0 O y;simp only [Nat.zero_mul,Nat.zero_add] at u;rw [o];exact ⟨g,rfl,by have:=p.out;omega,u.1,aw (r:=none) x u.2.1 (fun _ _ e=>e) (fun b hb e=>by have:=zJ e;have:=p.out;omega)⟩
attribute [local simp] fU bL eJ dP
def sG (c bv g K k:Nat) (R:Nat->Rat) (q:Rat) (y:Value) (L:Nat) (w:World) (f:w.cell? ⟨c,4,none⟩=some (.func (.func 85) #[] #[])) (t:w.cell? ⟨bv,0,none⟩=some (.slice (some ⟨g,0,none⟩) K K)) (b:aJ w g K R L) (hy:FQ w y q L)
  (hk:k<K) (hK:K<=3000) (hbf:g≠c) (hbv:g≠bv) (hL:L<=100000000) (hfit:bh L (R k+q)) :
  Calls Tryz.prog 139 #[.int .i64 ((k:Nat):Int),y,.pointer (some ⟨c,0,none⟩),.pointer (some ⟨bv,0,none⟩)] w
   fun e d=>e=.returned (.tuple #[])/\aJ d g K (aN R k (R k+q)) L/\aK w d g:=by
 have C:=ab b;have D:=ab hy;have E:=ab hfit;have F:=b.lt;have u:=bS f;have v:=bS t;simp only at u v;obtain ⟨j,l,m,n,o,p,rfl⟩:=hy.shape;obtain ⟨U,V,X,Y,vl,vc,x,r1,r2,A,_⟩:=b.at k hk;have G:=ab A;clear b hy hfit A;obtain ⟨W,r⟩:=eX (w.alloc (Obj.cells #[.bool (rB q),.slice j l m,.slice n o p] 105));have h:Hid (w.grownBy W none):=by rw [r];exact ag (ae _ _) _
 have z:Hid (∀ wx,W.grownBy wx none->wx.cell? ⟨c,4,none⟩=some (.func (.func 85) #[] #[])/\wx.cell? ⟨bv,0,none⟩=some (.slice (some ⟨g,0,none⟩) K K)/\bL wx (w.heap.size) (.bool (rB q)) (.slice j l m) (.slice n o p)):=by
  intro wx hg;have a:=aa h hg;rw [r] at hg;exact ⟨a.cell f Z,a.cell t Z,aH hg⟩
 have i:Hid (∀ wx,W.grownBy wx none->aJ wx g K R L/\eJ wx g k (.bool (rB (R k))) (.slice U V X) (.slice Y vl vc)/\∀ k,wx.frozen? ⟨g,k,none⟩=false):=by
  intro wx hg;have a:=aa h hg;have b:=C.out.keep0 a;obtain ⟨_,_,_,_,_,_,_,_,_,_,f⟩:=b.at k hk;exact ⟨b,(show eJ _ _ _ _ _ _ from ⟨x,r1,r2⟩).k0 a,f⟩
 clear f t x r1 r2;have H:g≠w.heap.size:=O
 have I:((k:Nat):Int)<(K:Int):=O
 have J:(0:Int)<=((k:Nat):Int):=O
 have GG:W.grownBy W none:=ae _ _;have s0:=z.out W GG;obtain ⟨fr,x,rf⟩:=i.out W GG;clear fr rf;go_enter Tryz.func139,Tryz.ntmps139
 go_wp2;rw [<- r];clear r;refine hd (fun d=>d.cell? ⟨c,4,none⟩=some (.func (.func 85) #[] #[])/\d.cell? ⟨bv,0,none⟩=some (.slice (some ⟨g,0,none⟩) K K)/\bL d (w.heap.size) (.bool (rB q)) (.slice j l m) (.slice n o p)) (fun hHeld=>?_);refine tk 4 [(0,6,.slice (some ⟨g,0,none⟩) K K),(1,7,.int .i64 ((k:Nat):Int)),(2,8,.pointer (some ⟨c,4,none⟩)),(3,9,.func (.func 85) #[] #[]),(4,10,.slice (some ⟨g,0,none⟩) K K),(5,11,.int .i64 ((k:Nat):Int)),(6,12,.pointer (some ⟨g,k*3,none⟩)),(8,14,Value.agg #[.bool (rB q),.slice j l m,.slice n o p])] ?_;try simp only [zU]
 refine cX 3 7 (fun K hK=>?_);simp only [ax,q4,q5,q6,q7];go_simp
 refine bk hK (fun hHeld=>?_);clear hK K;try simp only [zU]
 refine cX 2 9 (fun K hK=>?_);simp only [ax,q4,q5,q6,q7];go_simp
 go_at_call 85
 refine (mO _ _ (R k) q L L _ (G.keep0 (aa h (gx GG))) (D.keep0 (aa h (gx GG))) O).mono ?_;rintro e B ⟨vm,rfl,pm,gm⟩;have pm:=pm.tight (L':=L) E;obtain ⟨mo,ml,mc,no,nl,nc,rfl⟩:=pm.shape;have GG:=aa (gx GG) gm;have b0:=z.out B GG;obtain ⟨fr,d0,s⟩:=i.out B GG;have M:=s (k*3);have N:=s (k*3+1);have P:=s (k*3+2);clear s;go_wp2_with fail;refine bk hK (fun hHeld=>?_);clear hK K;refine tk 1 [(10,16,.pointer (some ⟨g,k*3,none⟩))] ?_;try simp only [zU]
 refine cX 0 11 (fun K hK=>?_);simp only [ax,q4,q5,q6,q7];go_simp
 refine bk hK (fun hHeld=>?_);clear hK K;try simp only [zU]
 refine wpAnyH_done zK ?_ _;have Q:=ab fr;have S:=ab pm;have T:=ab GG;clear fr pm GG;go_wp2;go_end0
 obtain ⟨y1,y2,y3⟩:=Q.out.set k hk S;exact ⟨rfl,y1,(aK.of_gr (aa h T)).trans ⟨y2,y3⟩⟩
def qC (c bv g K k:Nat) (R:Nat->Rat) (q:Rat) (y:Value) (L:Nat) (w:World) (f:w.cell? ⟨c,5,none⟩=some (.func (.func 86) #[] #[])) (t:w.cell? ⟨bv,0,none⟩=some (.slice (some ⟨g,0,none⟩) K K)) (b:aJ w g K R L) (hy:FQ w y q L)
  (hk:k<K) (hK:K<=3000) (hbf:g≠c) (hbv:g≠bv) (hL:L<=100000000) (hfit:bh L (R k-q)) :
  Calls Tryz.prog 140 #[.int .i64 ((k:Nat):Int),y,.pointer (some ⟨c,0,none⟩),.pointer (some ⟨bv,0,none⟩)] w
   fun e d=>e=.returned (.tuple #[])/\aJ d g K (aN R k (R k-q)) L/\aK w d g:=by
 have C:=ab b;have D:=ab hy;have E:=ab hfit;have F:=b.lt;have u:=bS f;have v:=bS t;simp only at u v;obtain ⟨j,l,m,n,o,p,rfl⟩:=hy.shape;obtain ⟨U,V,X,Y,vl,vc,x,r1,r2,A,_⟩:=b.at k hk;have G:=ab A;clear b hy hfit A;obtain ⟨W,r⟩:=eX (w.alloc (Obj.cells #[.bool (rB q),.slice j l m,.slice n o p] 105));have h:Hid (w.grownBy W none):=by rw [r];exact ag (ae _ _) _
 have z:Hid (∀ wx,W.grownBy wx none->wx.cell? ⟨c,5,none⟩=some (.func (.func 86) #[] #[])/\wx.cell? ⟨bv,0,none⟩=some (.slice (some ⟨g,0,none⟩) K K)/\bL wx (w.heap.size) (.bool (rB q)) (.slice j l m) (.slice n o p)):=by
  intro wx hg;have a:=aa h hg;rw [r] at hg;exact ⟨a.cell f Z,a.cell t Z,aH hg⟩
 have i:Hid (∀ wx,W.grownBy wx none->aJ wx g K R L/\eJ wx g k (.bool (rB (R k))) (.slice U V X) (.slice Y vl vc)/\∀ k,wx.frozen? ⟨g,k,none⟩=false):=by
  intro wx hg;have a:=aa h hg;have b:=C.out.keep0 a;obtain ⟨_,_,_,_,_,_,_,_,_,_,f⟩:=b.at k hk;exact ⟨b,(show eJ _ _ _ _ _ _ from ⟨x,r1,r2⟩).k0 a,f⟩
 clear f t x r1 r2;have H:g≠w.heap.size:=O
 have I:((k:Nat):Int)<(K:Int):=O
 have J:(0:Int)<=((k:Nat):Int):=O
 have GG:W.grownBy W none:=ae _ _;have s0:=z.out W GG;obtain ⟨fr,x,rf⟩:=i.out W GG;clear fr rf;go_enter Tryz.func140,Tryz.ntmps140
 go_wp2;rw [<- r];clear r;refine hd (fun d=>d.cell? ⟨c,5,none⟩=some (.func (.func 86) #[] #[])/\d.cell? ⟨bv,0,none⟩=some (.slice (some ⟨g,0,none⟩) K K)/\bL d (w.heap.size) (.bool (rB q)) (.slice j l m) (.slice n o p)) (fun hHeld=>?_);refine tk 4 [(0,6,.slice (some ⟨g,0,none⟩) K K),(1,7,.int .i64 ((k:Nat):Int)),(2,8,.pointer (some ⟨c,5,none⟩)),(3,9,.func (.func 86) #[] #[]),(4,10,.slice (some ⟨g,0,none⟩) K K),(5,11,.int .i64 ((k:Nat):Int)),(6,12,.pointer (some ⟨g,k*3,none⟩)),(8,14,Value.agg #[.bool (rB q),.slice j l m,.slice n o p])] ?_;try simp only [zU]
 refine cX 3 7 (fun K hK=>?_);simp only [ax,q4,q5,q6,q7];go_simp
 refine bk hK (fun hHeld=>?_);clear hK K;try simp only [zU]
 refine cX 2 9 (fun K hK=>?_);simp only [ax,q4,q5,q6,q7];go_simp
 go_at_call 86
 refine (dK _ _ (R k) q L L _ (G.keep0 (aa h (gx GG))) (D.keep0 (aa h (gx GG))) O).mono ?_;rintro e B ⟨vm,rfl,pm,gm⟩;have pm:=pm.tight (L':=L) E;obtain ⟨mo,ml,mc,no,nl,nc,rfl⟩:=pm.shape;have GG:=aa (gx GG) gm;have b0:=z.out B GG;obtain ⟨fr,d0,s⟩:=i.out B GG;have M:=s (k*3);have N:=s (k*3+1);have P:=s (k*3+2);clear s;go_wp2_with fail;refine bk hK (fun hHeld=>?_);clear hK K;refine tk 1 [(10,16,.pointer (some ⟨g,k*3,none⟩))] ?_;try simp only [zU]
 refine cX 0 11 (fun K hK=>?_);simp only [ax,q4,q5,q6,q7];go_simp
 refine bk hK (fun hHeld=>?_);clear hK K;try simp only [zU]
 refine wpAnyH_done zK ?_ _;have Q:=ab fr;have S:=ab pm;have T:=ab GG;clear fr pm GG;go_wp2;go_end0
 obtain ⟨y1,y2,y3⟩:=Q.out.set k hk S;exact ⟨rfl,y1,(aK.of_gr (aa h T)).trans ⟨y2,y3⟩⟩
def lO (n i K xa xb xc xd:Nat) (qa qf ql qs:Rat):Nat->Rat :=
 aN (aN (aN (aN (aN (aN (fun _=>0) xa (0+qa)) xb (aN (fun _=>0) xa (0+qa) xb-qa)) xc (aN (aN (fun _=>0) xa (0+qa)) xb (aN (fun _=>0) xa (0+qa) xb-qa) xc+ql)) xd (aN (aN (aN (fun _=>0) xa (0+qa)) xb (aN (fun _=>0) xa (0+qa) xb-qa)) xc (aN (aN (fun _=>0) xa (0+qa)) xb (aN (fun _=>0) xa (0+qa) xb-qa) xc+ql) xd-ql)) (n+i) qf) (K-1) qs
def yB (fb:Bool) (fo P:Option Addr) (fl fc Q S:Nat) (n i j l y K:Nat) (pv:Value) (f:List aA) (qa qf ql qs:Rat) (ko lo so wo A B o p:Option Addr) (kl kc C D ll lc E F sl sc q s wl wc t u:Nat) (L:Nat) (w:World) (hp:aB w pv f) (hi:i<f.length)
  (ea:f[i].a=(j:Int)) (eb:f[i].b=(l:Int)) (ec:f[i].c=(y:Int)) (ed:f[i].d=(K:Int)) (ha:j<n) (hb:l<n) (hc:y<n) (hd:K<n)
  (hav:FQ w (.agg #[.bool (rB qa),.slice ko kl kc,.slice A C D]) qa L) (hfv:FQ w (.agg #[.bool (rB qf),.slice wo wl wc,.slice p t u]) qf L) (hlv:FQ w (.agg #[.bool (rB ql),.slice lo ll lc,.slice B E F]) ql L) (hsv:FQ w (.agg #[.bool (rB qs),.slice so sl sc,.slice o q s]) qs L) (hn:n<=1000) (hk:f.length<=1000) (hL:L<=100000000)
  (h1:bh L (0+qa)) (h2:bh L (aN (fun _=>0) j (0+qa) l-qa)) (h3:bh L (aN (aN (fun _=>0) j (0+qa)) l (aN (fun _=>0) j (0+qa) l-qa) y+ql))
  (h4:bh L (aN (aN (aN (fun _=>0) j (0+qa)) l (aN (fun _=>0) j (0+qa) l-qa)) y (aN (aN (fun _=>0) j (0+qa)) l (aN (fun _=>0) j (0+qa) l-qa) y+ql) K-ql)) :
  Calls Tryz.prog 95 #[(kh fb (.slice fo fl fc) (.slice P Q S)),.agg #[.int .i64 ((n:Nat):Int),pv],.int .i64 ((i:Nat):Int),.agg #[.bool (rB qa),.slice ko kl kc,.slice A C D,.bool (rB qf),.slice wo wl wc,.slice p t u,.bool (rB ql),.slice lo ll lc,.slice B E F,.bool (rB qs),.slice so sl sc,.slice o q s]] w
   fun e w'=>pG w (n+f.length+1) (lO n i (n+f.length+1) j l y K qa qf ql qs) L e w':=by
 have HP:=ab hp;obtain ⟨ao,cap,rfl,hH,hs,ho⟩:=hp;unfold maxLen at hs;obtain ⟨b,off,rfl,hI,c0,c1,c2,c3,c4,c5,c6⟩:=ho i hi;rw [ea] at c1;rw [eb] at c2;rw [ec] at c3;rw [ed] at c4;have HA:=ab hav;have HF:=ab hfv;have HL:=ab hlv;have HS:=ab hsv;have T1:=ab h1;have T2:=ab h2;have T3:=ab h3;have T4:=ab h4;clear ho hav hfv hlv hsv h1 h2 h3 h4 ea eb ec ed;obtain ⟨kd,hq⟩:=eX (f[i].kind);obtain ⟨vv,hr⟩:=eX (f[i].v);rw [<- hq] at c0;rw [<- hr] at c5;clear hq hr c6;obtain ⟨W,hW⟩:=eX (((w.alloc (Obj.cells #[.bool fb,.slice fo fl fc,.slice P Q S,.func (.func 84) #[] #[],.func (.func 85) #[] #[],.func (.func 86) #[] #[],.func (.func 87) #[] #[],.func (.func 88) #[] #[],.func (.func 89) #[] #[],.func (.func 90) #[] #[],.func (.func 91) #[] #[]] 111)).alloc (Obj.cells #[.int .i64 ((n:Nat):Int),.slice (some ⟨b,off,none⟩) f.length cap] 24)).alloc (Obj.cells #[.bool (rB qa),.slice ko kl kc,.slice A C D,.bool (rB qf),.slice wo wl wc,.slice p t u,.bool (rB ql),.slice lo ll lc,.slice B E F,.bool (rB qs),.slice so sl sc,.slice o q s] 116));have GW:Hid (w.grownBy W none):=by rw [hW];exact ag (ag (ag (ae _ _) _) _) _
 have hj:Hid (W.heap.size=w.heap.size+3):=by show _=_;rw [hW];simp
 have m:Hid (∀ wx g,W.heap.size<=g->W.grownBy wx (some g)->(fU wx (w.heap.size)/\wx.cell? ⟨w.heap.size+1,0,none⟩=some (.int .i64 ((n:Nat):Int))/\wx.cell? ⟨w.heap.size+1+1,0,none⟩=some (.bool (rB qa))/\wx.cell? ⟨w.heap.size+1+1,1,none⟩=some (.slice ko kl kc)/\wx.cell? ⟨w.heap.size+1+1,2,none⟩=some (.slice A C D)/\wx.cell? ⟨w.heap.size+1+1,3,none⟩=some (.bool (rB qf))/\wx.cell? ⟨w.heap.size+1+1,4,none⟩=some (.slice wo wl wc)/\wx.cell? ⟨w.heap.size+1+1,5,none⟩=some (.slice p t u)/\wx.cell? ⟨w.heap.size+1+1,6,none⟩=some (.bool (rB ql))/\wx.cell? ⟨w.heap.size+1+1,7,none⟩=some (.slice lo ll lc)/\wx.cell? ⟨w.heap.size+1+1,8,none⟩=some (.slice B E F)/\wx.cell? ⟨w.heap.size+1+1,9,none⟩=some (.bool (rB qs))/\wx.cell? ⟨w.heap.size+1+1,10,none⟩=some (.slice so sl sc)/\wx.cell? ⟨w.heap.size+1+1,11,none⟩=some (.slice o q s))/\wx.cell? ⟨w.heap.size+1,1,none⟩=some (.slice (some ⟨b,off,none⟩) f.length cap)):=by
  intro wx g hG hg;have hD:=hj.out;have M:some w.heap.size≠some g:=fun e=>by have:=zJ e;omega
  have fd:=(kC fb fo P fl fc Q S (w:=W) (by rw [hW];exact ag (ag (ae _ _) _) _)).1.k hg M;rw [hW] at hg;have n2:some (w.heap.size+1)≠some g:=fun e=>by have:=zJ e;omega
  have n3:some (w.heap.size+1+1)≠some g:=fun e=>by have:=zJ e;omega
  exact ⟨⟨fd,hg.cell zG n2,hg.cell zG n3,hg.cell zG n3,hg.cell zG n3,hg.cell zG n3,hg.cell zG n3,hg.cell zG n3,hg.cell zG n3,hg.cell zG n3,hg.cell zG n3,hg.cell zG n3,hg.cell zG n3,hg.cell zG n3⟩,hg.cell zG n2⟩
 have s0:=m.out W W.heap.size zL (ae _ _);go_enter Tryz.func95,Tryz.ntmps95
 go_upto_region 1 with fail;rw [<- hW];clear hW;go_wp2_with fail;refine (kB n f.length (some ⟨b,off,none⟩) cap W hn hk).mono ?_;rintro e w1 ⟨g,rfl,X,Y,G⟩;have F1:=ab (Y.mono (Nat.zero_le L));have G1:=ab G;have GA:=ab (aa GW G);have hE:w.heap.size+3<=g:=by have:=hj.out;omega
 have hu:g<w1.heap.size:=Y.lt;have hv:w.heap.size+3<=w1.heap.size:=O
 clear Y G s0;have s0:=m.out w1 g X (aK.of_gr G1).1;go_upto_region 2 with fail;obtain ⟨z,H⟩:=eX (w1.alloc (Obj.cells #[.slice (some ⟨g,0,none⟩) (n+f.length+1) (n+f.length+1)] 79));have G2:Hid (w1.grownBy z none):=by rw [H];exact ag (ae _ _) _
 have hl:Hid (z.heap.size=w1.heap.size+1):=by show _=_;rw [H];simp
 have V2:Hid (z.cell? ⟨w1.heap.size,0,none⟩=some (.slice (some ⟨g,0,none⟩) (n+f.length+1) (n+f.length+1))):=by show _=_;rw [H];go_simp
 rw [<- H];clear H s0;generalize hbv:w1.heap.size=bv at *;have x:=ab (aa GA G2);have s0:=m.out z g X (aK.of_gr (aa G1 G2)).1;have p0:=x.out.cell c0 Z;have p1:=x.out.cell c1 Z;have p2:=x.out.cell c2 Z;have p3:=x.out.cell c3 Z;have p4:=x.out.cell c4 Z;have p5:=x.out.cell c5 Z;clear c0 c1 c2 c3 c4 c5;go_upto_region 3 with fail;obtain ⟨w3,I⟩:=eX (z.alloc (Obj.cells #[.int .i64 kd,.int .i64 ((j:Nat):Int),.int .i64 ((l:Nat):Int),.int .i64 ((y:Nat):Int),.int .i64 ((K:Nat):Int),.string vv] 55));have G3:Hid (z.grownBy w3 none):=by rw [I];exact ag (ae _ _) _
 have PC:Hid (∀ wx,w3.grownBy wx (some g)->wx.cell? ⟨z.heap.size,1,none⟩=some (.int .i64 ((j:Nat):Int))/\wx.cell? ⟨z.heap.size,2,none⟩=some (.int .i64 ((l:Nat):Int))/\wx.cell? ⟨z.heap.size,3,none⟩=some (.int .i64 ((y:Nat):Int))/\wx.cell? ⟨z.heap.size,4,none⟩=some (.int .i64 ((K:Nat):Int))):=by
  intro wx hg;rw [I] at hg;have M:some z.heap.size≠some g:=fun e=>by have:=zJ e;have:=hl.out;omega
  exact ⟨hg.cell zG M,hg.cell zG M,hg.cell zG M,hg.cell zG M⟩
 rw [<- I];clear I s0 p0 p1 p2 p3 p4 p5;generalize z.heap.size=bp at *;have GB:=ab (aa G2 G3);have h:Hid (∀ wx,aK w3 wx g->(fU wx (w.heap.size)/\wx.cell? ⟨w.heap.size+1,0,none⟩=some (.int .i64 ((n:Nat):Int))/\wx.cell? ⟨w.heap.size+1+1,0,none⟩=some (.bool (rB qa))/\wx.cell? ⟨w.heap.size+1+1,1,none⟩=some (.slice ko kl kc)/\wx.cell? ⟨w.heap.size+1+1,2,none⟩=some (.slice A C D)/\wx.cell? ⟨w.heap.size+1+1,3,none⟩=some (.bool (rB qf))/\wx.cell? ⟨w.heap.size+1+1,4,none⟩=some (.slice wo wl wc)/\wx.cell? ⟨w.heap.size+1+1,5,none⟩=some (.slice p t u)/\wx.cell? ⟨w.heap.size+1+1,6,none⟩=some (.bool (rB ql))/\wx.cell? ⟨w.heap.size+1+1,7,none⟩=some (.slice lo ll lc)/\wx.cell? ⟨w.heap.size+1+1,8,none⟩=some (.slice B E F)/\wx.cell? ⟨w.heap.size+1+1,9,none⟩=some (.bool (rB qs))/\wx.cell? ⟨w.heap.size+1+1,10,none⟩=some (.slice so sl sc)/\wx.cell? ⟨w.heap.size+1+1,11,none⟩=some (.slice o q s))/\wx.cell? ⟨bv,0,none⟩=some (.slice (some ⟨g,0,none⟩) (n+f.length+1) (n+f.length+1))/\wx.cell? ⟨bp,1,none⟩=some (.int .i64 ((j:Nat):Int))/\wx.cell? ⟨bp,2,none⟩=some (.int .i64 ((l:Nat):Int))/\wx.cell? ⟨bp,3,none⟩=some (.int .i64 ((y:Nat):Int))/\wx.cell? ⟨bp,4,none⟩=some (.int .i64 ((K:Nat):Int))):=by
  intro wx hx;have M:some bv≠some g:=fun e=>by have:=zJ e;omega
  exact ⟨(m wx g X (aw (r:=some g) (aa G1 GB) hx.1 nofun (fun _ _ e=>e))).1,hx.1.cell (G3.cell V2 Z) M,PC wx hx.1⟩
 have F3:=ab (F1.keep0 GB);have R3:=ab (aK.refl w3 g);have Z3:=ab (aO.of_gr (aa GA GB));have s0:=h.out w3 R3;go_wp2_with fail;refine (sG w.heap.size bv g (n+f.length+1) j (fun _=>0) qa _ L _ s0.1.1.2.1 s0.2.1 F3 (HA.kept Z3) O O O O hL T1).mono ?_;rintro e w4 ⟨rfl,f4,g4⟩;have F4:=ab f4;have R4:=ab (R3.trans g4);have Z4:=ab (Z3.trans g4.2);clear f4 g4 s0;have s0:=h.out w4 R4;go_wp2_with fail;refine (qC w.heap.size bv g (n+f.length+1) l (aN (fun _=>0) j (0+qa)) qa _ L _ s0.1.1.2.2.1 s0.2.1 F4 (HA.kept Z4) O O O O hL T2).mono ?_;rintro e w5 ⟨rfl,f5,g5⟩;have F5:=ab f5;have R5:=ab (R4.trans g5);have Z5:=ab (Z4.trans g5.2);clear f5 g5 s0;have s0:=h.out w5 R5;go_wp2_with fail;refine (sG w.heap.size bv g (n+f.length+1) y (aN (aN (fun _=>0) j (0+qa)) l ((aN (fun _=>0) j (0+qa)) l-qa)) ql _ L _ s0.1.1.2.1 s0.2.1 F5 (HL.kept Z5) O O O O hL T3).mono ?_;rintro e w6 ⟨rfl,f6,g6⟩;have F6:=ab f6;have R6:=ab (R5.trans g6);have Z6:=ab (Z5.trans g6.2);clear f6 g6 s0;have s0:=h.out w6 R6;go_wp2_with fail;refine (qC w.heap.size bv g (n+f.length+1) K (aN (aN (aN (fun _=>0) j (0+qa)) l ((aN (fun _=>0) j (0+qa)) l-qa)) y ((aN (aN (fun _=>0) j (0+qa)) l ((aN (fun _=>0) j (0+qa)) l-qa)) y+ql)) ql _ L _ s0.1.1.2.2.1 s0.2.1 F6 (HL.kept Z6) O O O O hL T4).mono ?_
 rintro e w7 ⟨rfl,f7,g7⟩;have F7:=ab f7;have R7:=ab (R6.trans g7);have Z7:=ab (Z6.trans g7.2);clear f7 g7 s0;have s0:=h.out w7 R7;have hF:IntKind.i64.wrap ((n:Int)+(i:Int))=(n:Int)+(i:Int):=IntWalk.i64_in _ ⟨O,O⟩;have hw:(0:Int)<=(n:Int)+(i:Int):=O
 have hy:(n:Int)+(i:Int)<(n:Int)+(f.length:Int)+1:=O
 have hm:n+i<n+f.length+1:=O
 obtain ⟨_,_,_,_,_,_,d0,d1,d2,_,J⟩:=F7.out.at (n+i) hm;have T:=J ((n+i)*3);have U:=J ((n+i)*3+1);have V:=J ((n+i)*3+2);clear J;go_upto_region 10 with fail;obtain ⟨w8,he⟩:=eX (((w7.setCell ⟨g,(n+i)*3,none⟩ (.bool (rB qf))).setCell ⟨g,(n+i)*3+1,none⟩ (.slice wo wl wc)).setCell ⟨g,(n+i)*3+2,none⟩ (.slice p t u));obtain ⟨y1,y2,N⟩:=F7.out.set (n+i) hm (HF.kept Z7);rw [<- he] at y1 y2 N;rw [<- he];have F8:=ab y1;have R8:=ab (R7.trans ⟨y2,N⟩);have Z8:=ab (Z7.trans N);clear he y1 y2 N d0 d1 d2 T U V s0;have s0:=h.out w8 R8;obtain ⟨_,_,_,_,_,_,d0,d1,d2,_,J⟩:=F8.out.at (n+f.length) O;have T:=J ((n+f.length)*3);have U:=J ((n+f.length)*3+1);have V:=J ((n+f.length)*3+2);clear J;have hz:IntKind.i64.wrap ((n:Int)+(f.length:Int))=(n:Int)+(f.length:Int):=IntWalk.i64_in _ ⟨O,O⟩;have hA:IntKind.i64.wrap ((n:Int)+(f.length:Int)+1-1)=(n:Int)+(f.length:Int):=by rw [IntWalk.i64_in _ ⟨O,O⟩];omega
 have hB:(0:Int)<=(n:Int)+(f.length:Int):=O
 have hC:(n:Int)+(f.length:Int)<(n:Int)+(f.length:Int)+1:=O
 go_upto_region 11 with fail;obtain ⟨w9,hf⟩:=eX (((w8.setCell ⟨g,(n+f.length)*3,none⟩ (.bool (rB qs))).setCell ⟨g,(n+f.length)*3+1,none⟩ (.slice so sl sc)).setCell ⟨g,(n+f.length)*3+2,none⟩ (.slice o q s));obtain ⟨y1,y2,N⟩:=F8.out.set (n+f.length) O (HS.kept Z8);rw [<- hf] at y1 y2 N;rw [<- hf];have F9:=ab y1;have R9:=ab (R8.trans ⟨y2,N⟩);clear hf y1 y2 N d0 d1 d2 T U V s0;have s0:=h.out w9 R9;go_wp2;refine bodyPost_ret (v:=.slice (some ⟨g,0,none⟩) (n+f.length+1) (n+f.length+1)) (by simp [results,Tryz.results95,go_sem]) rfl ?_;exact ⟨g,rfl,O,F9,aw (r:=none) (aa GA GB) R9.1 (fun _ _ e=>e) (fun b hb e=>by have:=zJ e;omega)⟩
def ofId_at (x:Value) (q:Rat) (L:Nat) (w:World) (a:FQ w x q L) :
  Calls Tryz.prog 84 #[x] w fun e j=>FQE w q L e j:=by
 have c:=ab a;obtain ⟨d,f,g,b,h,i,rfl⟩:=a.shape;clear a;go_enter Tryz.func84,Tryz.ntmps84
 go_wp2;refine bodyPost_ret (v:=.agg #[.bool (rB q),.slice d f g,.slice b h i]) (by simp [results,Tryz.results84,go_sem]) rfl ?_;exact ⟨_,rfl,c.keep0 (ag (ag (ae _ _) _) _),ag (ag (ae _ _) _) _⟩
def jr (x:Value) (q:Rat) (r f:Nat) (L:Nat) (w:World) (g:FQ w x q L) (s:w.cell? ⟨r,5,none⟩=some (.func (.func 86) #[] #[]))
  (z0:w.cell? ⟨f,0,none⟩=some (.bool false)) (z1:w.cell? ⟨f,1,none⟩=some (.slice none 0 0)) (z2:w.cell? ⟨f,2,none⟩=some (.slice none 0 0)) (hL1:1<=L) (hL:L<=100000000) :
  Calls Tryz.prog 92 #[x,.pointer (some ⟨r,0,none⟩),.pointer (some ⟨f,0,none⟩)] w fun e P=>FQE w (0-q) L e P:=by
 have A:=ab g;have h:Hid (bh L (0-q)):=by
  have e:0-q = -q:=by grind
  rw [e];exact (g.fits hL1).neg
 obtain ⟨j,k,l,b,m,n,rfl⟩:=g.shape;clear g;obtain ⟨W,d⟩:=eX ((w.alloc (Obj.cells #[.bool (rB q),.slice j k l,.slice b m n] 105)).alloc (Obj.cells #[.bool false,.slice none 0 0,.slice none 0 0] 105));have c:Hid (w.grownBy W none):=by rw [d];exact ag (ag (ae _ _) _) _
 have a:Hid (∀ wx,W.grownBy wx none->(wx.cell? ⟨w.heap.size,0,none⟩=some (.bool (rB q))/\wx.cell? ⟨w.heap.size,1,none⟩=some (.slice j k l)/\wx.cell? ⟨w.heap.size,2,none⟩=some (.slice b m n))/\(wx.cell? ⟨w.heap.size+1,0,none⟩=some (.bool false)/\wx.cell? ⟨w.heap.size+1,1,none⟩=some (.slice none 0 0)/\wx.cell? ⟨w.heap.size+1,2,none⟩=some (.slice none 0 0)/\∀ i,wx.frozen? ⟨w.heap.size+1,i,none⟩=false)):=by
  intro wx hg;rw [d] at hg;have B:=aH (aa (ag (ae _ none) _) hg);have t:=aW hg;have C:(w.alloc (Obj.cells #[.bool (rB q),.slice j k l,.slice b m n] 105)).heap.size=w.heap.size+1:=Z
  rw [C] at t;exact ⟨B,t⟩
 have D:Hid (∀ wx,W.grownBy wx none->bR wx (w.heap.size+1)):=by
  intro wx hg;rw [d] at hg;have:=bF hg;simpa using this
 have k0:=c.out.cell s Z;have Q:=c.out.cell z0 Z;have S:=c.out.cell z1 Z;have T:=c.out.cell z2 Z;obtain ⟨⟨s0,s1,s2⟩,⟨U,r1,r2,I⟩⟩:=a.out W (ae _ _);clear s z0 z1 z2 I;go_enter Tryz.func92,Tryz.ntmps92
 go_upto_region 1 with fail;rw [<- d];clear d;go_wp2_with fail;have u:=bj W L;refine (dK _ _ 0 q L L _ (by exact u) (A.keep0 c) O).mono ?_;rintro e z ⟨v,rfl,o,p⟩;have E:=ab (o.tight (L':=L) h);obtain ⟨J,al,K,bo,M,N,rfl⟩:=o.shape;have y:=ab p;obtain ⟨⟨V,X,Y⟩,⟨q0,q1,q2,qf⟩⟩:=a.out z p;have F:=qf 0;have G:=qf 1;have H:=qf 2;clear o p qf u;go_wp2;refine bodyPost_ret (v:=.agg #[.bool (rB (0-q)),.slice J al K,.slice bo M N]) (by first | (simp [results,Tryz.results92,go_sem,q0,q1,q2];done) | (simp [results,Tryz.results92,go_sem,q0,q1,q2];rfl)) rfl ?_;exact ⟨_,rfl,FV.other E (D z y) bI,ah (ah (ah (aa c y) _ _ Z) _ _ Z) _ _ Z⟩
def bO (k:Int) (v:Rat):Rat:=if k=1 then 1 else if k=2 then 1 else if k=3 then 0 else if k=4 then 1 else if k=6 then 1 else 0
def bP (k:Int) (v:Rat):Rat:=if k=1 then 0-v else if k=2 then 0 else if k=3 then 1 else if k=4 then 0 else if k=6 then 0 else 1
def cA (k:Int) (v:Rat):Rat:=if k=6 then 0-v else if k=7 then 0-v else 0
def bQ (k:Int) (v:Rat):Rat:=if k=1 then 0 else if k=2 then 0 else if k=3 then 0 else if k=4 then v else if k=6 then 0 else if k=7 then 0 else v
def LawE (w:World) (qa qf ql qs:Rat) (L:Nat) (e:Ending) (w':World):Prop :=
 ∃ u1 d1 u2 d2 u3 d3 u4 d4:Value,e=.returned (.agg #[.bool (rB qa),u1,d1,.bool (rB qf),u2,d2,.bool (rB ql),u3,d3,.bool (rB qs),u4,d4])
  /\ FQ w' (.agg #[.bool (rB qa),u1,d1]) qa L/\FQ w' (.agg #[.bool (rB qf),u2,d2]) qf L/\FQ w' (.agg #[.bool (rB ql),u3,d3]) ql L/\FQ w' (.agg #[.bool (rB qs),u4,d4]) qs L/\w.grownBy w' none
def rQ {L:Nat} (a:1<=L) (v:Rat):bh L (0*v):=by
 rw [Rat.zero_mul];exact (bj (default:World) L).fits a
def jL {w a c:World} {g L:Nat} {qa qf ql qs:Rat} {u1 d u2 e u3 f u4 h:Value} (b:bR a g) (gr:a.grownBy c (some g)) (i:w.grownBy c none)
  (h1:FQ a (.agg #[.bool (rB qa),u1,d]) qa L) (h2:FQ a (.agg #[.bool (rB qf),u2,e]) qf L) (h3:FQ a (.agg #[.bool (rB ql),u3,f]) ql L) (h4:FQ a (.agg #[.bool (rB qs),u4,h]) qs L) :
  LawE w qa qf ql qs L (.returned (.agg #[.bool (rB qa),u1,d,.bool (rB qf),u2,e,.bool (rB ql),u3,f,.bool (rB qs),u4,h])) c :=
 ⟨_,_,_,_,_,_,_,_,rfl,FV.other h1 b gr,FV.other h2 b gr,FV.other h3 b gr,FV.other h4 b gr,i⟩
def law_at (fb:Bool) (K m:Option Addr) (fl fc n o:Nat) (p:aA) (h A bs H:Nat) (mm:Int) (L:Nat) (w:World) (hu:w.cell? ⟨2,0,none⟩=some (.int .i64 mm))
  (hF:w.cell? ⟨h,0,none⟩=some (.bool fb)/\w.cell? ⟨h,1,none⟩=some (.slice K fl fc)/\w.cell? ⟨h,2,none⟩=some (.slice m n o)/\w.cell? ⟨h,3,none⟩=some (.func (.func 84) #[] #[])/\w.cell? ⟨h,4,none⟩=some (.func (.func 85) #[] #[])/\w.cell? ⟨h,5,none⟩=some (.func (.func 86) #[] #[])/\w.cell? ⟨h,6,none⟩=some (.func (.func 87) #[] #[])/\w.cell? ⟨h,7,none⟩=some (.func (.func 88) #[] #[])/\w.cell? ⟨h,8,none⟩=some (.func (.func 89) #[] #[])/\w.cell? ⟨h,9,none⟩=some (.func (.func 90) #[] #[])/\w.cell? ⟨h,10,none⟩=some (.func (.func 91) #[] #[])) (h1:FQ w (.agg #[.bool fb,.slice K fl fc,.slice m n o]) 1 L)
  (hop:w.cell? ⟨A,0,none⟩=some (.func (.func 92) #[] #[.pointer (some ⟨h,0,none⟩),.pointer (some ⟨H,0,none⟩)])) (hs:w.cell? ⟨bs,0,none⟩=some (.bool false)/\w.cell? ⟨bs,1,none⟩=some (.slice none 0 0)/\w.cell? ⟨bs,2,none⟩=some (.slice none 0 0)) (hz:w.cell? ⟨H,0,none⟩=some (.bool false)/\w.cell? ⟨H,1,none⟩=some (.slice none 0 0)/\w.cell? ⟨H,2,none⟩=some (.slice none 0 0)) (hsz:p.v.size+1<=L) (hL:L<=100000000) :
  Calls Tryz.prog 93 #[p.val,.pointer (some ⟨h,0,none⟩),.pointer (some ⟨A,0,none⟩),.pointer (some ⟨bs,0,none⟩)] w
   fun e f=>LawE w (bO p.kind (fI p.v.data.toList)) (bP p.kind (fI p.v.data.toList)) (cA p.kind (fI p.v.data.toList)) (bQ p.kind (fI p.v.data.toList)) L e f:=by
 have hw:=ab hu;obtain rfl:fb=rB 1:=FV.parts h1;have HF:=ab hF;have H1:=ab h1;have hx:=ab hop;have HS:=ab hs;have HZ:=ab hz;have M:1<=L:=O
 have lf:h<w.heap.size:=bS hF.1;have lo:A<w.heap.size:=bS hop;have ls:bs<w.heap.size:=bS hs.1;have lz:H<w.heap.size:=bS hz.1;obtain ⟨v,hv⟩:=eX (fI p.v.data.toList);rw [<- hv];have HV:=ab hv;clear hu hF h1 hop hs hz hv;unfold aA.val;obtain ⟨W,hW⟩:=eX ((w.alloc (Obj.cells #[.int .i64 p.kind,.int .i64 p.a,.int .i64 p.b,.int .i64 p.c,.int .i64 p.d,.string p.v] 55)).alloc (Obj.cells #[.bool false,.slice none 0 0,.slice none 0 0,.bool false,.slice none 0 0,.slice none 0 0,.bool false,.slice none 0 0,.slice none 0 0,.bool false,.slice none 0 0,.slice none 0 0] 116));have I:Hid (w.grownBy W none):=by rw [hW];exact ag (ag (ae _ _) _) _
 have N:Hid (W.heap.size=w.heap.size+2):=by show _=_;rw [hW];simp
 have BL:Hid (∀ wx,W.grownBy wx none->wx.heap[w.heap.size+1]? = some (Obj.cells #[.bool false,.slice none 0 0,.slice none 0 0,.bool false,.slice none 0 0,.slice none 0 0,.bool false,.slice none 0 0,.slice none 0 0,.bool false,.slice none 0 0,.slice none 0 0] 116 (0,0))):=by
  intro wx hg;rw [hg.block (w.heap.size+1) (by rw [N];omega) Z,hW];have:=heap_alloc_new (w.alloc (Obj.cells #[.int .i64 p.kind,.int .i64 p.a,.int .i64 p.b,.int .i64 p.c,.int .i64 p.d,.string p.v] 55)) (Obj.cells #[.bool false,.slice none 0 0,.slice none 0 0,.bool false,.slice none 0 0,.slice none 0 0,.bool false,.slice none 0 0,.slice none 0 0,.bool false,.slice none 0 0,.slice none 0 0] 116);simpa using this
 have G5:Hid (∀ wx,W.grownBy wx none->(wx.cell? ⟨w.heap.size+1,0,none⟩=some (.bool false)/\wx.cell? ⟨w.heap.size+1,1,none⟩=some (.slice none 0 0)/\wx.cell? ⟨w.heap.size+1,2,none⟩=some (.slice none 0 0)/\wx.cell? ⟨w.heap.size+1,3,none⟩=some (.bool false)/\wx.cell? ⟨w.heap.size+1,4,none⟩=some (.slice none 0 0)/\wx.cell? ⟨w.heap.size+1,5,none⟩=some (.slice none 0 0)/\wx.cell? ⟨w.heap.size+1,6,none⟩=some (.bool false)/\wx.cell? ⟨w.heap.size+1,7,none⟩=some (.slice none 0 0)/\wx.cell? ⟨w.heap.size+1,8,none⟩=some (.slice none 0 0)/\wx.cell? ⟨w.heap.size+1,9,none⟩=some (.bool false)/\wx.cell? ⟨w.heap.size+1,10,none⟩=some (.slice none 0 0)/\wx.cell? ⟨w.heap.size+1,11,none⟩=some (.slice none 0 0))/\(wx.frozen? ⟨w.heap.size+1,0,none⟩=false/\wx.frozen? ⟨w.heap.size+1,1,none⟩=false/\wx.frozen? ⟨w.heap.size+1,2,none⟩=false/\wx.frozen? ⟨w.heap.size+1,3,none⟩=false/\wx.frozen? ⟨w.heap.size+1,4,none⟩=false/\wx.frozen? ⟨w.heap.size+1,5,none⟩=false/\wx.frozen? ⟨w.heap.size+1,6,none⟩=false/\wx.frozen? ⟨w.heap.size+1,7,none⟩=false/\wx.frozen? ⟨w.heap.size+1,8,none⟩=false/\wx.frozen? ⟨w.heap.size+1,9,none⟩=false/\wx.frozen? ⟨w.heap.size+1,10,none⟩=false/\wx.frozen? ⟨w.heap.size+1,11,none⟩=false)):=by
  intro wx hg;have hy:=BL.out wx hg;refine ⟨⟨?_,?_,?_,?_,?_,?_,?_,?_,?_,?_,?_,?_⟩,⟨?_,?_,?_,?_,?_,?_,?_,?_,?_,?_,?_,?_⟩⟩<;>simp [World.cell?,World.frozen?,hy]
 have NW:Hid (∀ wx,W.grownBy wx none->bR wx (w.heap.size+1)):=by
  intro wx hg i x;simp only [World.cell?,BL.out wx hg];rcases i with _ | _ | _ | _ | _ | _ | _ | _ | _ | _ | _ | _ | i<;>simp
 have PC:Hid (∀ wx,W.grownBy wx none->wx.cell? ⟨w.heap.size,0,none⟩=some (.int .i64 p.kind)/\wx.cell? ⟨w.heap.size,5,none⟩=some (.string p.v)):=by
  intro wx hg;rw [hW] at hg;exact ⟨hg.cell zG Z,hg.cell zG Z⟩
 have CX:Hid (∀ wx,W.grownBy wx none->wx.cell? ⟨h,3,none⟩=some (.func (.func 84) #[] #[])/\wx.cell? ⟨w.heap.size,5,none⟩=some (.string p.v)):=fun wx hg=>⟨hg.cell (I.cell HF.2.2.2.1 Z) Z,(PC wx hg).2⟩
 have GG:W.grownBy W none:=ae _ _;obtain ⟨s0,s1⟩:=CX.out W GG;have hA:W.heap.size≠h:=by have:=N.out;omega
 have hB:W.heap.size≠w.heap.size:=by have:=N.out;omega
 go_enter Tryz.func93,Tryz.ntmps93
 go_upto_region 1 with fail;rw [<- hW];clear hW;go_cut [6] (fun s6 wx=>Hid (∃ gs,s6=.pointer (some ⟨gs,0,none⟩)/\W.heap.size<=gs/\aJ wx gs 1 (fun _=>v) L/\W.grownBy wx none))
 case first =>
  go_region_held3 (fun f=>f.cell? ⟨h,3,none⟩=some (.func (.func 84) #[] #[])/\f.cell? ⟨w.heap.size,5,none⟩=some (.string p.v)) (go_keep)
   (first | (go_at_call 75;refine (EW p.v mm _ O ((aa GG (by first | exact aS _ | exact aC | exact ae _ _ | exact ag (aS _) _ | exact ag aC _ | exact ak (ag (ae _ _) _) 1 | exact ak (ag (ae _ _) _) _)).cell (I.cell hw Z) Z)).mono ?_;rintro e wa ⟨va,rfl,pa,ga⟩;rw [<- HV] at pa;have pa:=pa.mono hsz;obtain ⟨ao,al,ac,bo,bl,bc,rfl⟩:=pa.shape;have GG:W.grownBy wa none:=aa (aa GG (by first | exact aS _ | exact aC | exact ae _ _ | exact ag (aS _) _ | exact ag aC _ | exact ak (ag (ae _ _) _) 1 | exact ak (ag (ae _ _) _) _)) ga;obtain ⟨a0,a1⟩:=CX.out wa GG;have hE:wa.heap.size≠h:=(by have:=GG.size;have:=N.out;omega);have hG:wa.heap.size≠w.heap.size:=(by have:=GG.size;have:=N.out;omega);(try (have gy:=aa (ak (ae (W.alloc (Obj.cells #[.bool false,.slice none 0 0,.slice none 0 0] 105)) none) 1) ga;obtain ⟨hp,hq,hr,j⟩:=aW gy;have hj:=j 0;have hk:=j 1;have hl:=j 2;clear j))) | (go_at_call 84;refine (ofId_at _ v L _ (pa.keep0 (by first | exact aS _ | exact aC | exact ae _ _ | exact ag (aS _) _ | exact ag aC _ | exact ak (ag (ae _ _) _) 1 | exact ag (ae _ _) _))).mono ?_;rintro e wx ⟨vx,rfl,B,gx⟩;obtain ⟨po,pl,pc,qo,ql,qc,rfl⟩:=B.shape;have hm:=GG;have GG:W.grownBy wx none:=aa (aa hm (by first | exact aS _ | exact aC | exact ae _ _ | exact ag (aS _) _ | exact ag aC _ | exact ak (ag (ae _ _) _) 1 | exact ag (ae _ _) _)) gx;obtain ⟨x0,x1⟩:=CX.out wx GG;(try first | (have gy:=aa gy gx;obtain ⟨hp,hq,hr,j⟩:=aW gy;have hj:=j 0;have hk:=j 1;have hl:=j 2;clear j) | (have gz:=aa (ak (ae (wa.alloc (Obj.cells #[.bool false,.slice none 0 0,.slice none 0 0] 105)) none) 1) gx;obtain ⟨hp,hq,hr,j⟩:=aW gz;have hj:=j 0;have hk:=j 1;have hl:=j 2;clear j) | (have gz:=aa (ae (wa.alloc (Obj.cells #[.bool false,.slice none 0 0,.slice none 0 0] 105)) none) gx;obtain ⟨hp,hq,hr,j⟩:=aW gz;have hj:=j 0;have hk:=j 1;have hl:=j 2;clear j))))
  all_goals (go_wp2_with fail;go_meet;first
   | exact ⟨_,rfl,GG.size,m9 (B.keep0 zQ),ag zF _⟩
   | exact ⟨_,rfl,zL,pn gy B,ah (ah (ah GG _ _ zL) _ _ zL) _ _ zL⟩
   | exact ⟨_,rfl,hm.size,pn gz B,ah (ah (ah GG _ _ hm.size) _ _ hm.size) _ _ hm.size⟩)
 case rest =>
  obtain ⟨gs,rfl,hS,f2,g2⟩:=hcut.out;have q:=ab g2;obtain ⟨so,sl,sc,J,tl,tc,d0,d1,d2,d3,_⟩:=f2.var;have D3:=ab d3;have CY:Hid (∀ wx,wc.grownBy wx none->wx.cell? ⟨h,0,none⟩=some (.bool (rB 1))/\wx.cell? ⟨h,1,none⟩=some (.slice K fl fc)/\wx.cell? ⟨h,2,none⟩=some (.slice m n o)/\wx.cell? ⟨h,6,none⟩=some (.func (.func 87) #[] #[])/\wx.cell? ⟨A,0,none⟩=some (.func (.func 92) #[] #[.pointer (some ⟨h,0,none⟩),.pointer (some ⟨H,0,none⟩)])/\wx.cell? ⟨bs,0,none⟩=some (.bool false)/\wx.cell? ⟨bs,1,none⟩=some (.slice none 0 0)/\wx.cell? ⟨bs,2,none⟩=some (.slice none 0 0)/\wx.cell? ⟨gs,0,none⟩=some (.bool (rB v))/\wx.cell? ⟨gs,1,none⟩=some (.slice so sl sc)/\wx.cell? ⟨gs,2,none⟩=some (.slice J tl tc)):=by
   intro wx hg;have P:=aa I (aa q hg);exact ⟨P.cell HF.1 Z,P.cell HF.2.1 Z,P.cell HF.2.2.1 Z,P.cell HF.2.2.2.2.2.2.1 Z,P.cell hx Z,P.cell HS.1 Z,P.cell HS.2.1 Z,P.cell HS.2.2 Z,hg.cell d0 Z,hg.cell d1 Z,hg.cell d2 Z⟩
  have C:Hid (∀ wx,wc.grownBy wx none->wx.cell? ⟨h,5,none⟩=some (.func (.func 86) #[] #[])/\wx.cell? ⟨H,0,none⟩=some (.bool false)/\wx.cell? ⟨H,1,none⟩=some (.slice none 0 0)/\wx.cell? ⟨H,2,none⟩=some (.slice none 0 0)):=by
   intro wx hg;have P:=aa I (aa q hg);exact ⟨P.cell HF.2.2.2.2.2.1 Z,P.cell HZ.1 Z,P.cell HZ.2.1 Z,P.cell HZ.2.2 Z⟩
  have kc:=(PC wc q).1;clear hcut f2 g2 GG d0 d1 d2 d3 s0 s1 CX;have GG:wc.grownBy wc none:=ae _ _;obtain ⟨s0,s1,s2,s3,s4,s5,s6,s7,s8,s9,s10⟩:=CY.out wc GG;have hA:w.heap.size+1≠h:=O
  have hB:w.heap.size+1≠A:=O
  have hH:w.heap.size+1≠bs:=O
  have hI:w.heap.size+1≠gs:=by have:=N.out;omega
  by_cases k:p.kind=1
  ·have D:bO p.kind v=1:=by unfold bO;simp [k]
   have E:bP p.kind v=0-v:=by unfold bP;simp [k]
   have F:cA p.kind v=0:=by unfold cA;simp [k]
   have G:bQ p.kind v=0:=by unfold bQ;simp [k]
   rw [k] at kc;clear k;have Q:=ab D;have S:=ab E;have T:=ab F;have U:=ab G;clear D E F G;go_wp2_with fail;go_region_held3 (fun f=>f.cell? ⟨h,0,none⟩=some (.bool (rB 1))/\f.cell? ⟨h,1,none⟩=some (.slice K fl fc)/\f.cell? ⟨h,2,none⟩=some (.slice m n o)/\f.cell? ⟨h,6,none⟩=some (.func (.func 87) #[] #[])/\f.cell? ⟨A,0,none⟩=some (.func (.func 92) #[] #[.pointer (some ⟨h,0,none⟩),.pointer (some ⟨H,0,none⟩)])/\f.cell? ⟨bs,0,none⟩=some (.bool false)/\f.cell? ⟨bs,1,none⟩=some (.slice none 0 0)/\f.cell? ⟨bs,2,none⟩=some (.slice none 0 0)/\f.cell? ⟨gs,0,none⟩=some (.bool (rB v))/\f.cell? ⟨gs,1,none⟩=some (.slice so sl sc)/\f.cell? ⟨gs,2,none⟩=some (.slice J tl tc)) (go_keep)
    (first | (go_at_call 92;refine (jr _ (v) h H L _ (D3.keep0 zF) (C _ zF).1 (C _ zF).2.1 (C _ zF).2.2.1 (C _ zF).2.2.2 M hL).mono ?_;rintro e wx ⟨vx,rfl,B,gx⟩;obtain ⟨ao,al,ac,bo,bl,bc,rfl⟩:=B.shape;have GG:wc.grownBy wx none:=aa zF gx;obtain ⟨x0,x1,x2,x3,x4,x5,x6,x7,x8,x9,ho⟩:=CY.out wx GG;obtain ⟨⟨c0,c1,c2,c3,c4,c5,V,X,Y,c9,u,y⟩,⟨f0,f1,f2,f3,f4,f5,f6,f7,f8,f9,he,hf⟩⟩:=G5.out wx (aa q GG)))
   all_goals
    go_wp2;refine bodyPost_ret (v:=.agg #[.bool (rB 1),.slice K fl fc,.slice m n o,.bool (rB (0-v)),.slice ao al ac,.slice bo bl bc,.bool false,.slice none 0 0,.slice none 0 0,.bool false,.slice none 0 0,.slice none 0 0]) (by simp [results,Tryz.results93,go_sem,c0,c1,c2,c3,c4,c5,V,X,Y,c9,u,y]) rfl ?_;rw [Q,S,T,U];exact jL (g:=w.heap.size+1) (NW _ (aa q zF)) (aj (aj (aj (aj (aj (aj (aj (aj (aj (aj (aj (aj (ae _ _))))))))))))) (zS (zS (zS (zS (zS (zS (zS (zS (zS (zS (zS (zS (aa I (aa q zF)))))))))))))) (H1.keep0 (aa I (aa q zF))) (B) (bj _ _) (bj _ _)
  ·skip;by_cases l:p.kind=2
   ·have D:bO p.kind v=1:=by unfold bO;simp [l]
    have E:bP p.kind v=0:=by unfold bP;simp [l]
    have F:cA p.kind v=0:=by unfold cA;simp [l]
    have G:bQ p.kind v=0:=by unfold bQ;simp [l]
    rw [l] at kc;clear k l;have Q:=ab D;have S:=ab E;have T:=ab F;have U:=ab G;clear D E F G;go_wp2_with fail;go_region_held3 (fun f=>f.cell? ⟨h,0,none⟩=some (.bool (rB 1))/\f.cell? ⟨h,1,none⟩=some (.slice K fl fc)/\f.cell? ⟨h,2,none⟩=some (.slice m n o)/\f.cell? ⟨h,6,none⟩=some (.func (.func 87) #[] #[])/\f.cell? ⟨A,0,none⟩=some (.func (.func 92) #[] #[.pointer (some ⟨h,0,none⟩),.pointer (some ⟨H,0,none⟩)])/\f.cell? ⟨bs,0,none⟩=some (.bool false)/\f.cell? ⟨bs,1,none⟩=some (.slice none 0 0)/\f.cell? ⟨bs,2,none⟩=some (.slice none 0 0)/\f.cell? ⟨gs,0,none⟩=some (.bool (rB v))/\f.cell? ⟨gs,1,none⟩=some (.slice so sl sc)/\f.cell? ⟨gs,2,none⟩=some (.slice J tl tc)) (go_keep)
     (first | (go_at_call 87;refine (fS _ _ 0 v L L _ (bj _ _) (D3.keep0 zF) O).mono ?_;rintro e wa ⟨va,rfl,pa,ga⟩;have pa:=pa.tight (rQ M v);rw [Rat.zero_mul] at pa;obtain ⟨po,pl,pc,qo,hC,qc,rfl⟩:=pa.shape;have GG:wc.grownBy wa none:=aa zF ga;obtain ⟨a0,a1,a2,a3,a4,a5,a6,a7,a8,a9,hD⟩:=CY.out wa GG) | (go_at_call 92;refine (jr _ (0) h H L _ (pa.keep0 zQ) (C _ zF).1 (C _ zF).2.1 (C _ zF).2.2.1 (C _ zF).2.2.2 M hL).mono ?_;rintro e wx ⟨vx,rfl,B,gx⟩;rw [show (0:Rat)-0=0 from by grind] at B;obtain ⟨ao,al,ac,bo,bl,bc,rfl⟩:=B.shape;have GG:wc.grownBy wx none:=aa zF gx;obtain ⟨x0,x1,x2,x3,x4,x5,x6,x7,x8,x9,ho⟩:=CY.out wx GG;obtain ⟨⟨c0,c1,c2,c3,c4,c5,V,X,Y,c9,u,y⟩,⟨f0,f1,f2,f3,f4,f5,f6,f7,f8,f9,he,hf⟩⟩:=G5.out wx (aa q GG)))
    all_goals
     go_wp2;refine bodyPost_ret (v:=.agg #[.bool (rB 1),.slice K fl fc,.slice m n o,.bool (rB (0)),.slice ao al ac,.slice bo bl bc,.bool false,.slice none 0 0,.slice none 0 0,.bool false,.slice none 0 0,.slice none 0 0]) (by simp [results,Tryz.results93,go_sem,c0,c1,c2,c3,c4,c5,V,X,Y,c9,u,y]) rfl ?_;rw [Q,S,T,U];exact jL (g:=w.heap.size+1) (NW _ (aa q zF)) (aj (aj (aj (aj (aj (aj (aj (aj (aj (aj (aj (aj (ae _ _))))))))))))) (zS (zS (zS (zS (zS (zS (zS (zS (zS (zS (zS (zS (aa I (aa q zF)))))))))))))) (H1.keep0 (aa I (aa q zF))) (B) (bj _ _) (bj _ _)
   ·skip;by_cases r:p.kind=3
    ·have D:bO p.kind v=0:=by unfold bO;simp [r]
     have E:bP p.kind v=1:=by unfold bP;simp [r]
     have F:cA p.kind v=0:=by unfold cA;simp [r]
     have G:bQ p.kind v=0:=by unfold bQ;simp [r]
     rw [r] at kc;clear k l r;have Q:=ab D;have S:=ab E;have T:=ab F;have U:=ab G;clear D E F G;go_wp2_with fail;go_region_held3 (fun f=>f.cell? ⟨h,0,none⟩=some (.bool (rB 1))/\f.cell? ⟨h,1,none⟩=some (.slice K fl fc)/\f.cell? ⟨h,2,none⟩=some (.slice m n o)/\f.cell? ⟨h,6,none⟩=some (.func (.func 87) #[] #[])/\f.cell? ⟨A,0,none⟩=some (.func (.func 92) #[] #[.pointer (some ⟨h,0,none⟩),.pointer (some ⟨H,0,none⟩)])/\f.cell? ⟨bs,0,none⟩=some (.bool false)/\f.cell? ⟨bs,1,none⟩=some (.slice none 0 0)/\f.cell? ⟨bs,2,none⟩=some (.slice none 0 0)/\f.cell? ⟨gs,0,none⟩=some (.bool (rB v))/\f.cell? ⟨gs,1,none⟩=some (.slice so sl sc)/\f.cell? ⟨gs,2,none⟩=some (.slice J tl tc)) (go_keep)
      (first | (go_at_call 87;refine (fS _ _ 0 v L L _ (bj _ _) (D3.keep0 zF) O).mono ?_;rintro e wa ⟨va,rfl,pa,ga⟩;have pa:=pa.tight (rQ M v);rw [Rat.zero_mul] at pa;obtain ⟨po,pl,pc,qo,hC,qc,rfl⟩:=pa.shape;have GG:wc.grownBy wa none:=aa zF ga;obtain ⟨a0,a1,a2,a3,a4,a5,a6,a7,a8,a9,hD⟩:=CY.out wa GG) | (go_at_call 92;refine (jr _ (0) h H L _ (pa.keep0 zQ) (C _ zF).1 (C _ zF).2.1 (C _ zF).2.2.1 (C _ zF).2.2.2 M hL).mono ?_;rintro e wx ⟨vx,rfl,B,gx⟩;rw [show (0:Rat)-0=0 from by grind] at B;obtain ⟨ao,al,ac,bo,bl,bc,rfl⟩:=B.shape;have GG:wc.grownBy wx none:=aa zF gx;obtain ⟨x0,x1,x2,x3,x4,x5,x6,x7,x8,x9,ho⟩:=CY.out wx GG;obtain ⟨⟨c0,c1,c2,c3,c4,c5,V,X,Y,c9,u,y⟩,⟨f0,f1,f2,f3,f4,f5,f6,f7,f8,f9,he,hf⟩⟩:=G5.out wx (aa q GG)))
     all_goals
      go_wp2;refine bodyPost_ret (v:=.agg #[.bool (rB (0)),.slice ao al ac,.slice bo bl bc,.bool (rB 1),.slice K fl fc,.slice m n o,.bool false,.slice none 0 0,.slice none 0 0,.bool false,.slice none 0 0,.slice none 0 0]) (by simp [results,Tryz.results93,go_sem,c0,c1,c2,c3,c4,c5,V,X,Y,c9,u,y]) rfl ?_;rw [Q,S,T,U];exact jL (g:=w.heap.size+1) (NW _ (aa q zF)) (aj (aj (aj (aj (aj (aj (aj (aj (aj (aj (aj (aj (ae _ _))))))))))))) (zS (zS (zS (zS (zS (zS (zS (zS (zS (zS (zS (zS (aa I (aa q zF)))))))))))))) (B) (H1.keep0 (aa I (aa q zF))) (bj _ _) (bj _ _)
    ·skip;by_cases s:p.kind=4
     ·have D:bO p.kind v=1:=by unfold bO;simp [s]
      have E:bP p.kind v=0:=by unfold bP;simp [s]
      have F:cA p.kind v=0:=by unfold cA;simp [s]
      have G:bQ p.kind v=v:=by unfold bQ;simp [s]
      rw [s] at kc;clear k l r s;have Q:=ab D;have S:=ab E;have T:=ab F;have U:=ab G;clear D E F G;obtain ⟨⟨c0,c1,c2,c3,c4,c5,V,X,Y,c9,u,y⟩,⟨f0,f1,f2,f3,f4,f5,f6,f7,f8,f9,he,hf⟩⟩:=G5.out wc q;go_wp2;refine bodyPost_ret (v:=.agg #[.bool (rB 1),.slice K fl fc,.slice m n o,.bool false,.slice none 0 0,.slice none 0 0,.bool false,.slice none 0 0,.slice none 0 0,.bool (rB v),.slice so sl sc,.slice J tl tc]) (by simp [results,Tryz.results93,go_sem,c0,c1,c2,c3,c4,c5,V,X,Y,c9,u,y]) rfl ?_;rw [Q,S,T,U];exact jL (g:=w.heap.size+1) (NW _ (aa q zF)) (aj (aj (aj (aj (aj (aj (aj (aj (aj (aj (aj (aj (ae _ _))))))))))))) (zS (zS (zS (zS (zS (zS (zS (zS (zS (zS (zS (zS (aa I (aa q zF)))))))))))))) (H1.keep0 (aa I (aa q zF))) (bj _ _) (bj _ _) (D3.keep0 zF)
     ·skip;by_cases t:p.kind=6
      ·have D:bO p.kind v=1:=by unfold bO;simp [t]
       have E:bP p.kind v=0:=by unfold bP;simp [t]
       have F:cA p.kind v=0-v:=by unfold cA;simp [t]
       have G:bQ p.kind v=0:=by unfold bQ;simp [t]
       rw [t] at kc;clear k l r s t;have Q:=ab D;have S:=ab E;have T:=ab F;have U:=ab G;clear D E F G;go_wp2_with fail;go_region_held3 (fun f=>f.cell? ⟨h,0,none⟩=some (.bool (rB 1))/\f.cell? ⟨h,1,none⟩=some (.slice K fl fc)/\f.cell? ⟨h,2,none⟩=some (.slice m n o)/\f.cell? ⟨h,6,none⟩=some (.func (.func 87) #[] #[])/\f.cell? ⟨A,0,none⟩=some (.func (.func 92) #[] #[.pointer (some ⟨h,0,none⟩),.pointer (some ⟨H,0,none⟩)])/\f.cell? ⟨bs,0,none⟩=some (.bool false)/\f.cell? ⟨bs,1,none⟩=some (.slice none 0 0)/\f.cell? ⟨bs,2,none⟩=some (.slice none 0 0)/\f.cell? ⟨gs,0,none⟩=some (.bool (rB v))/\f.cell? ⟨gs,1,none⟩=some (.slice so sl sc)/\f.cell? ⟨gs,2,none⟩=some (.slice J tl tc)) (go_keep)
        (first | (go_at_call 92;refine (jr _ (v) h H L _ (D3.keep0 zF) (C _ zF).1 (C _ zF).2.1 (C _ zF).2.2.1 (C _ zF).2.2.2 M hL).mono ?_;rintro e wx ⟨vx,rfl,B,gx⟩;obtain ⟨ao,al,ac,bo,bl,bc,rfl⟩:=B.shape;have GG:wc.grownBy wx none:=aa zF gx;obtain ⟨x0,x1,x2,x3,x4,x5,x6,x7,x8,x9,ho⟩:=CY.out wx GG;obtain ⟨⟨c0,c1,c2,c3,c4,c5,V,X,Y,c9,u,y⟩,⟨f0,f1,f2,f3,f4,f5,f6,f7,f8,f9,he,hf⟩⟩:=G5.out wx (aa q GG)))
       all_goals
        go_wp2;refine bodyPost_ret (v:=.agg #[.bool (rB 1),.slice K fl fc,.slice m n o,.bool false,.slice none 0 0,.slice none 0 0,.bool (rB (0-v)),.slice ao al ac,.slice bo bl bc,.bool false,.slice none 0 0,.slice none 0 0]) (by simp [results,Tryz.results93,go_sem,c0,c1,c2,c3,c4,c5,V,X,Y,c9,u,y]) rfl ?_;rw [Q,S,T,U];exact jL (g:=w.heap.size+1) (NW _ (aa q zF)) (aj (aj (aj (aj (aj (aj (aj (aj (aj (aj (aj (aj (ae _ _))))))))))))) (zS (zS (zS (zS (zS (zS (zS (zS (zS (zS (zS (zS (aa I (aa q zF)))))))))))))) (H1.keep0 (aa I (aa q zF))) (bj _ _) (B) (bj _ _)
      ·skip;by_cases z:p.kind=7
       ·have D:bO p.kind v=0:=by unfold bO;simp [z]
        have E:bP p.kind v=1:=by unfold bP;simp [z]
        have F:cA p.kind v=0-v:=by unfold cA;simp [z]
        have G:bQ p.kind v=0:=by unfold bQ;simp [z]
        rw [z] at kc;clear k l r s t z;have Q:=ab D;have S:=ab E;have T:=ab F;have U:=ab G;clear D E F G;go_wp2_with fail;go_region_held3 (fun f=>f.cell? ⟨h,0,none⟩=some (.bool (rB 1))/\f.cell? ⟨h,1,none⟩=some (.slice K fl fc)/\f.cell? ⟨h,2,none⟩=some (.slice m n o)/\f.cell? ⟨h,6,none⟩=some (.func (.func 87) #[] #[])/\f.cell? ⟨A,0,none⟩=some (.func (.func 92) #[] #[.pointer (some ⟨h,0,none⟩),.pointer (some ⟨H,0,none⟩)])/\f.cell? ⟨bs,0,none⟩=some (.bool false)/\f.cell? ⟨bs,1,none⟩=some (.slice none 0 0)/\f.cell? ⟨bs,2,none⟩=some (.slice none 0 0)/\f.cell? ⟨gs,0,none⟩=some (.bool (rB v))/\f.cell? ⟨gs,1,none⟩=some (.slice so sl sc)/\f.cell? ⟨gs,2,none⟩=some (.slice J tl tc)) (go_keep)
         (first | (go_at_call 92;refine (jr _ (v) h H L _ (D3.keep0 zF) (C _ zF).1 (C _ zF).2.1 (C _ zF).2.2.1 (C _ zF).2.2.2 M hL).mono ?_;rintro e wx ⟨vx,rfl,B,gx⟩;obtain ⟨ao,al,ac,bo,bl,bc,rfl⟩:=B.shape;have GG:wc.grownBy wx none:=aa zF gx;obtain ⟨x0,x1,x2,x3,x4,x5,x6,x7,x8,x9,ho⟩:=CY.out wx GG;obtain ⟨⟨c0,c1,c2,c3,c4,c5,V,X,Y,c9,u,y⟩,⟨f0,f1,f2,f3,f4,f5,f6,f7,f8,f9,he,hf⟩⟩:=G5.out wx (aa q GG)))
        all_goals
         go_wp2;refine bodyPost_ret (v:=.agg #[.bool false,.slice none 0 0,.slice none 0 0,.bool (rB 1),.slice K fl fc,.slice m n o,.bool (rB (0-v)),.slice ao al ac,.slice bo bl bc,.bool false,.slice none 0 0,.slice none 0 0]) (by simp [results,Tryz.results93,go_sem,c0,c1,c2,c3,c4,c5,V,X,Y,c9,u,y]) rfl ?_;rw [Q,S,T,U];exact jL (g:=w.heap.size+1) (NW _ (aa q zF)) (aj (aj (aj (aj (aj (aj (aj (aj (aj (aj (aj (aj (ae _ _))))))))))))) (zS (zS (zS (zS (zS (zS (zS (zS (zS (zS (zS (zS (aa I (aa q zF)))))))))))))) (bj _ _) (H1.keep0 (aa I (aa q zF))) (B) (bj _ _)
       ·skip;have D:bO p.kind v=0:=by unfold bO;simp [k,l,r,s,t,z]
        have E:bP p.kind v=1:=by unfold bP;simp [k,l,r,s,t,z]
        have F:cA p.kind v=0:=by unfold cA;simp [k,l,r,s,t,z]
        have G:bQ p.kind v=v:=by unfold bQ;simp [k,l,r,s,t,z]
        have hJ:(p.kind==1)=false:=zB k;have hK:(p.kind==2)=false:=zB l;have hM:(p.kind==3)=false:=zB r;have hN:(p.kind==4)=false:=zB s;have hQ:(p.kind==6)=false:=zB t;have hR:(p.kind==7)=false:=zB z;clear k l r s t z;have Q:=ab D;have S:=ab E;have T:=ab F;have U:=ab G;clear D E F G;obtain ⟨⟨c0,c1,c2,c3,c4,c5,V,X,Y,c9,u,y⟩,⟨f0,f1,f2,f3,f4,f5,f6,f7,f8,f9,he,hf⟩⟩:=G5.out wc q;go_wp2;refine bodyPost_ret (v:=.agg #[.bool false,.slice none 0 0,.slice none 0 0,.bool (rB 1),.slice K fl fc,.slice m n o,.bool false,.slice none 0 0,.slice none 0 0,.bool (rB v),.slice so sl sc,.slice J tl tc]) (by simp [results,Tryz.results93,go_sem,c0,c1,c2,c3,c4,c5,V,X,Y,c9,u,y]) rfl ?_;rw [Q,S,T,U];exact jL (g:=w.heap.size+1) (NW _ (aa q zF)) (aj (aj (aj (aj (aj (aj (aj (aj (aj (aj (aj (aj (ae _ _))))))))))))) (zS (zS (zS (zS (zS (zS (zS (zS (zS (zS (zS (zS (aa I (aa q zF)))))))))))))) (bj _ _) (H1.keep0 (aa I (aa q zF))) (bj _ _) (D3.keep0 zF)
def aA.q (p:aA):Rat:=fI p.v.data.toList
def prow (n k i:Nat) (p:aA):Nat->Rat:=lO n i (n+k+1) p.a.toNat p.b.toNat p.c.toNat p.d.toNat (bO p.kind p.q) (bP p.kind p.q) (cA p.kind p.q) (bQ p.kind p.q)
def kG (n:Nat) (ps:List aA):Nat->Nat->Rat:=fun r =>
 if r=0 then aN (fun _=>0) 0 1 else if r<n then dO n ps r else match ps[r-n]? with | some p=>prow n ps.length (r-n) p | none=>fun _=>0
def cS (n:Nat) (ps:List aA):Nat->Nat:=fun r=>if r<n then 0 else match ps[r-n]? with | some p=>2*(p.v.size+1)+1 | none=>0
structure cH (n:Nat) (ps:List aA):Prop where
 lo:1<=n
 hi:n<=8
 len:ps.length<=20
 ends:∀ p∈ps,∃ xa xb xc xd:Nat,p.a=(xa:Int)/\p.b=(xb:Int)/\p.c=(xc:Int)/\p.d=(xd:Int)/\xa<n/\xb<n/\xc<n/\xd<n
def tI (k:Int) (v:Rat):bO k v=0∨bO k v=1:=by
 unfold bO;repeat' split
 all_goals first | exact .inr rfl | exact .inl rfl
def zH (k:Int) (v:Rat):cA k v=0∨cA k v = -v:=by
 unfold cA;repeat' split
 all_goals first | exact .inl rfl | (right;grind)
def vD (k:Int) (v:Rat):lW v (bP k v):=by
 unfold bP;repeat' split
 all_goals first | exact ⟨0,-1,zD,zD,by grind⟩ | exact ⟨0,0,zD,zD,by grind⟩ | exact ⟨1,0,zD,zD,by grind⟩
def vE (k:Int) (v:Rat):lW v (bQ k v):=by
 unfold bQ;repeat' split
 all_goals first | exact ⟨0,0,zD,zD,by grind⟩ | exact ⟨0,1,zD,zD,by grind⟩
def qi {v q:Rat} (a b c d:Prop) [Decidable a] [Decidable b] [Decidable c] [Decidable d] {x y:Rat} (hx:x=0∨x=1) (hy:y=0∨y = -v)
  (h:q=(if a then x else 0)-(if b then x else 0)+(if c then y else 0)-(if d then y else 0)):lW v q:=by
 subst h;rcases hx with rfl | rfl<;>rcases hy with rfl | rfl<;>by_cases ha:a<;>by_cases hb:b<;>by_cases hc:c<;>by_cases hd:d <;>
  simp only [ha,hb,hc,hd,if_true,if_false] <;>
  first
   | exact ⟨0,0,zD,zD,by grind⟩
   | exact ⟨1,0,zD,zD,by grind⟩
   | exact ⟨-1,0,zD,zD,by grind⟩
   | exact ⟨0,1,zD,zD,by grind⟩
   | exact ⟨0,-1,zD,zD,by grind⟩
   | exact ⟨1,1,zD,zD,by grind⟩
   | exact ⟨1,-1,zD,zD,by grind⟩
   | exact ⟨-1,1,zD,zD,by grind⟩
   | exact ⟨-1,-1,zD,zD,by grind⟩
def qZ (xa xb xc xd:Nat) (x y:Rat) (j:Nat):Rat:=(if j=xa then x else 0)-(if j=xb then x else 0)+(if j=xc then y else 0)-(if j=xd then y else 0)
def dU (R:Nat->Rat) (k:Nat) (q:Rat) (j:Nat):aN R k q j=if j=k then q else R j:=rfl
def Dz (a:Nat) (x:Rat) (j:Nat):aN (fun _=>0) a (0+x) j=if j=a then x else 0:=by
 rw [dU,Rat.zero_add]
def DA (b a:Nat) (x:Rat) (j:Nat):aN (aN (fun _=>0) b (0+x)) a (aN (fun _=>0) b (0+x) a-x) j=(if j=b then x else 0)-(if j=a then x else 0):=by
 rw [dU,Dz,Dz];by_cases e:j=a
 ·rw [if_pos e,if_pos e,e]
 ·rw [if_neg e,if_neg e];grind
def DB (a b c:Nat) (x y:Rat) (j:Nat):aN (aN (aN (fun _=>0) a (0+x)) b (aN (fun _=>0) a (0+x) b-x)) c (aN (aN (fun _=>0) a (0+x)) b (aN (fun _=>0) a (0+x) b-x) c+y) j
  = (if j=a then x else 0)-(if j=b then x else 0)+(if j=c then y else 0):=by
 rw [dU,DA,DA];by_cases e:j=c
 ·rw [if_pos e,if_pos e,e]
 ·rw [if_neg e,if_neg e];grind
def ends4 (a b c d:Nat) (x y:Rat) (j:Nat):aN (aN (aN (aN (fun _=>0) a (0+x)) b (aN (fun _=>0) a (0+x) b-x)) c (aN (aN (fun _=>0) a (0+x)) b (aN (fun _=>0) a (0+x) b-x) c+y)) d (aN (aN (aN (fun _=>0) a (0+x)) b (aN (fun _=>0) a (0+x) b-x)) c (aN (aN (fun _=>0) a (0+x)) b (aN (fun _=>0) a (0+x) b-x) c+y) d-y) j
  = qZ a b c d x y j:=by
 unfold qZ;rw [dU,DB,DB];by_cases e:j=d
 ·rw [if_pos e,if_pos e,e]
 ·rw [if_neg e,if_neg e];grind
def vY (n i K a b c d:Nat) (qa qf ql qs:Rat) (j:Nat):lO n i K a b c d qa qf ql qs j=if j=K-1 then qs else if j=n+i then qf else qZ a b c d qa ql j:=by
 unfold lO;rw [dU,dU,ends4]
def BW {n i K a b c d:Nat} {qa qf ql qs v:Rat} (ha:qa=0∨qa=1) (e:ql=0∨ql = -v) (f:lW v qf) (g:lW v qs) (j:Nat):lW v (lO n i K a b c d qa qf ql qs j):=by
 rw [vY];split
 ·exact g
 ·split
  ·exact f
  ·exact qi (j=a) (j=b) (j=c) (j=d) ha e rfl
def wj (n k i:Nat) (p:aA) (j:Nat):lW p.q (prow n k i p j):=BW (tI _ _) (zH _ _) (vD _ _) (vE _ _) j
def bh.mono {L L':Nat} {q:Rat} (h:bh L q) (a:L<=L'):bh L' q:=by
 have:=Nat.pow_le_pow_right (n:=4294967296) zD a;exact ⟨Nat.lt_of_lt_of_le h.1 this,Nat.lt_of_lt_of_le h.2 this⟩
def Eg {T:Nat} {v q:Rat} (h:lW v q) (a:bh T v):bh (T+1) q:=by
 obtain ⟨b,e⟩:=iz h;have c:(4294967296:Nat)^(T+1)=4294967296^T*4294967296:=Nat.pow_succ _ _;have d:0<(4294967296:Nat)^T:=Nat.pow_pos zD;have:=a.1;have:=a.2;have:=Nat.le_of_dvd (Rat.den_pos v) b;exact ⟨O,O⟩
def BY {L T a b d e:Nat} {qa ql v:Rat} (ha:qa=0∨qa=1) (f:ql=0∨ql = -v) (g:bh T v) (i:T+1<=L) :
  bh L (0+qa)/\bh L (aN (fun _=>0) a (0+qa) b-qa)/\bh L (aN (aN (fun _=>0) a (0+qa)) b (aN (fun _=>0) a (0+qa) b-qa) d+ql)
  /\ bh L (aN (aN (aN (fun _=>0) a (0+qa)) b (aN (fun _=>0) a (0+qa) b-qa)) d (aN (aN (fun _=>0) a (0+qa)) b (aN (fun _=>0) a (0+qa) b-qa) d+ql) e-ql):=by
 have c:∀ q,lW v q->bh L q:=fun q h=>(Eg h g).mono i
 refine ⟨c _ ?_,c _ ?_,c _ ?_,c _ ?_⟩
 ·exact qi True False False False ha f (by simp only [if_true,if_false];grind)
 ·exact qi (b=a) True False False ha f (by rw [Dz];simp only [if_true,if_false];grind)
 ·exact qi (d=a) (d=b) True False ha f (by rw [DA];simp only [if_true,if_false];grind)
 ·exact qi (e=a) (e=b) (e=d) True ha f (by rw [DB];simp only [if_true])
def ofR_fit (l:List UInt8):bh (l.length+1) (fI l):=by
 have b:∀ k,k<=l.length+1->(10:Nat)^k<=4294967296^(l.length+1):=fun k p =>
  Nat.le_trans (Nat.pow_le_pow_left (by decide:10<=4294967296) k) (Nat.pow_le_pow_right zD p)
 have d:1<(4294967296:Nat)^(l.length+1):=Nat.lt_of_lt_of_le (by decide:1<4294967296^1) (Nat.pow_le_pow_right zD O);have g:bh (l.length+1) 0:=⟨by show 0<_;omega,by show 1<_;exact d⟩;unfold fI;split
 ·rename_i h;simp only [Bool.and_eq_true] at h;obtain ⟨n,o⟩:=h;have a:∀ m:List UInt8,cr m=true->∀ c∈m,nu c=true:=by
   intro m f;unfold cr at f;simp only [Bool.and_eq_true,List.all_eq_true] at f;exact f.2
  have q:=tp _ (a _ n);have r:=tp _ (a _ o);have i:=(ky (Lib.trimPrefix l [45]) [47]).1;have j:(fM (Lib.trimPrefix l [45])).length<=l.length+1:=by
   unfold fM;have:=(ky (Lib.trimPrefix l [45]) [47]).2;have:=iY l [45];split
   ·omega
   ·simp
  have s:=iY l [45];have t:=b _ (Nat.le_trans i O);have u:=b _ j;by_cases hd:bw (fM (Lib.trimPrefix l [45]))=0
  ·rw [hd,Rat.mkRat_zero];exact g
  ·refine ⟨?_,?_⟩
   ·unfold rN;rw [Rat.num_mkRat,if_neg hd];refine Nat.lt_of_le_of_lt (Int.natAbs_ediv_le_natAbs _ _) ?_;have e:(gD (Lib.hasPrefix l [45]) (bw (Lib.cut (Lib.trimPrefix l [45]) [47]).1)).natAbs=bw (Lib.cut (Lib.trimPrefix l [45]) [47]).1:=by
     unfold gD;split<;>simp
    rw [e];omega
   ·rw [Rat.den_mkRat,if_neg hd];exact Nat.lt_of_le_of_lt (Nat.div_le_self _ _) O
 ·exact g
def aA.fit (p:aA):bh (p.v.size+1) p.q:=by
 have:=ofR_fit p.v.data.toList;have e:p.v.data.toList.length=p.v.size:=Array.length_toList;rw [e] at this;exact this
def qk (n:Nat) (c:List aA) (r:Nat):∃ D N:Nat,0<D/\(∀ j,(kG n c r j).den∣D)/\(∀ j,rN (kG n c r j)<=N)/\N*D<=4294967296^cS n c r/\D<=4294967296^cS n c r:=by
 unfold kG;by_cases i:r=0
 ·rw [if_pos i];refine ⟨1,1,zD,fun j=>?_,fun j=>?_,by rw [Nat.mul_one];exact Nat.one_le_pow _ _ zD,Nat.one_le_pow _ _ zD⟩
  ·rw [dU];split<;>exact Nat.dvd_refl _
  ·rw [dU];split<;>decide
 ·rw [if_neg i];by_cases hn:r<n
  ·rw [if_pos hn];have e:∀ j,(dO n c r j).den=1/\rN (dO n c r j)<=1:=by
    intro j;unfold dO;split
    ·exact ⟨rfl,zD⟩
    ·split
     ·rename_i p k;have f:ks p r=0∨ks p r=1∨ks p r = -1:=by
       by_cases d:p.a=(r:Int)<;>by_cases g:p.b=(r:Int)
       ·rw [CU d g];left;grind
       ·rw [CT d g];right;left;grind
       ·rw [CS d g];right;right;grind
       ·rw [CR d g];left;rfl
      rcases f with f | f | f<;>rw [f]
      ·exact ⟨rfl,zD⟩
      ·exact ⟨rfl,zD⟩
      ·exact ⟨rfl,zD⟩
     ·exact ⟨rfl,zD⟩
   refine ⟨1,1,zD,fun j=>by rw [(e j).1];exact Nat.dvd_refl _,fun j=>(e j).2,by rw [Nat.mul_one];exact Nat.one_le_pow _ _ zD,Nat.one_le_pow _ _ zD⟩
  ·rw [if_neg hn];have h:cS n c r=match c[r-n]? with | some p=>2*(p.v.size+1)+1 | none=>0:=by unfold cS;rw [if_neg hn];try rfl
   cases k:c[r-n]? with
   | none =>
    refine ⟨1,1,zD,fun j=>Nat.dvd_refl _,fun j=>by show 0<=1;decide,by rw [Nat.mul_one];exact Nat.one_le_pow _ _ zD,Nat.one_le_pow _ _ zD⟩
   | some p =>
    rw [k] at h;simp only at h;obtain ⟨f1,l⟩:=p.fit;refine ⟨p.q.den,p.q.den+rN p.q,Rat.den_pos _,fun j=>(iz (wj n c.length (r-n) p j)).1,fun j=>(iz (wj n c.length (r-n) p j)).2,?_,?_⟩
    ·rw [h];have d:(4294967296:Nat)^(2*(p.v.size+1)+1)=(4294967296*4294967296^(p.v.size+1))*4294967296^(p.v.size+1):=by
      rw [Nat.pow_succ,Nat.two_mul,Nat.pow_add,Nat.mul_comm,Nat.mul_assoc]
     rw [d];exact Nat.mul_le_mul O (Nat.le_of_lt l)
    ·rw [h];exact Nat.le_trans (Nat.le_of_lt l) (Nat.pow_le_pow_right zD O)
def AG (e:Nat->Nat):∀ m r,r<m->1+e r<=iG e m:=by
 intro m;induction m with
 | zero=>intro r h;omega
 | succ m ih =>
  intro r h;unfold iG;by_cases a:r=m
  ·subst a;omega
  ·have:=ih r O;omega
def net_fit (n:Nat) (a:List aA) (m L:Nat) (f:iG (cS n a) m<L) (r:Nat) (b:r<m) (k j:Nat):bh L (cj (kG n a r) k j):=by
 obtain ⟨D,N,c,d,e,g,h⟩:=qk n a r;obtain ⟨i,l⟩:=kt _ D N c d e k j;have hlt:4294967296^cS n a r<4294967296^L:=Nat.pow_lt_pow_right zD (by have:=AG (cS n a) m r b;omega);exact ⟨O,O⟩
def net_wh (n:Nat) (a:List aA) (k r j:Nat):gY (4294967296^cS n a r) (qS (kG n a) k r j):=by
 unfold qS;split
 ·rename_i b;obtain ⟨D,N,c,d,e,f,g⟩:=qk n a r;exact ⟨nP _ _ _ b,Nat.le_trans (kt _ D N c d e k j).1 f⟩
 ·exact ⟨rfl,Nat.zero_le _⟩
def jy (f:Nat->Rat):Nat->Rat
 | 0=>0
 | i+1=>jy f i+f i
def lE (f:Nat->Rat) (k:Nat):jy f (k+1)=jy f k+f k:=rfl
def jH (x R:Nat->Rat) (k:Nat) (q:Rat):∀ n,cY n x (aN R k q)=cY n x R+(if k<n then (q-R k)*x k else 0):=by
 intro n;induction n with
 | zero=>unfold cY;rw [if_neg O];grind
 | succ n ih =>
  unfold cY;rw [ih,dU];by_cases e:n=k
  ·subst e;rw [if_pos rfl,if_neg O,if_pos O];grind
  ·rw [if_neg e];by_cases a:k<n
   ·rw [if_pos a,if_pos O];grind
   ·rw [if_neg a,if_neg O];grind
def tz (x:Nat->Rat):∀ n,cY n x (fun _=>0)=0:=by
 intro n;induction n with
 | zero=>rfl
 | succ n ih=>unfold cY;rw [ih];grind
def dot_end (x:Nat->Rat) (a b c d:Nat) (p q:Rat) (n:Nat) (ha:a<n) (hb:b<n) (hc:c<n) (hd:d<n):cY n x (qZ a b c d p q)=p*(x a-x b)+q*(x c-x d):=by
 have e:cY n x (qZ a b c d p q)=cY n x (aN (aN (aN (aN (fun _=>0) a (0+p)) b (aN (fun _=>0) a (0+p) b-p)) c (aN (aN (fun _=>0) a (0+p)) b (aN (fun _=>0) a (0+p) b-p) c+q)) d (aN (aN (aN (fun _=>0) a (0+p)) b (aN (fun _=>0) a (0+p) b-p)) c (aN (aN (fun _=>0) a (0+p)) b (aN (fun _=>0) a (0+p) b-p) c+q) d-q)) :=
  jG x n (fun j _=>(ends4 a b c d p q j).symm)
 rw [e,jH,jH,jH,jH,tz,if_pos ha,if_pos hb,if_pos hc,if_pos hd];generalize aN (aN (aN (fun _=>0) a (0+p)) b (aN (fun _=>0) a (0+p) b-p)) c (aN (aN (fun _=>0) a (0+p)) b (aN (fun _=>0) a (0+p) b-p) c+q) d=A;generalize aN (aN (fun _=>0) a (0+p)) b (aN (fun _=>0) a (0+p) b-p) c=B;generalize aN (fun _=>0) a (0+p) b=C;grind
def Dv (x:Nat->Rat) (n k i a b c d:Nat) (qa qf ql qs:Rat) (hi:i<k) (ha:a<n) (hb:b<n) (hc:c<n) (hd:d<n) :
  cY (n+k+1) x (lO n i (n+k+1) a b c d qa qf ql qs)=qa*(x a-x b)+ql*(x c-x d)+qf*x (n+i)+qs*x (n+k):=by
 have e:cY (n+k+1) x (lO n i (n+k+1) a b c d qa qf ql qs)=cY (n+k+1) x (aN (aN (qZ a b c d qa ql) (n+i) qf) (n+k) qs) :=
  jG x _ (fun j _=>by rw [vY,dU,dU];rfl)
 rw [e,jH,jH,dot_end x a b c d qa ql _ O O O O,if_pos O,if_pos O,dU,if_neg O];have f:qZ a b c d qa ql (n+i)=0:=by
  unfold qZ;rw [if_neg O,if_neg O,if_neg O,if_neg O];grind
 have g:qZ a b c d qa ql (n+k)=0:=by
  unfold qZ;rw [if_neg O,if_neg O,if_neg O,if_neg O];grind
 rw [f,g];grind
def iJ (ps:List aA) (i r:Nat):Rat:=match ps[i]? with | some p=>ks p r | none=>0
def Du (x:Nat->Rat) (n:Nat) (a:List aA) (r:Nat):cY (n+a.length+1) x (dO n a r)=jy (fun i=>iJ a i r*x (n+i)) a.length:=by
 have b:∀ k,k<=a.length->cY (n+k) x (dO n a r)=jy (fun i=>iJ a i r*x (n+i)) k:=by
  intro k;induction k with
  | zero =>
   intro _;show cY n x (dO n a r)=0
   rw [<- tz x n];exact jG x n (fun j c=>by unfold dO;rw [if_pos c])
  | succ k ih =>
   intro d;show cY (n+k) x (dO n a r)+dO n a r (n+k)*x (n+k)=_
   rw [ih O,lE];congr 1
   unfold dO;rw [if_neg O,show n+k-n=k by omega];rfl
 show cY (n+a.length) x (dO n a r)+dO n a r (n+a.length)*x (n+a.length)=_
 rw [b _ zL];have z:dO n a r (n+a.length)=0:=by
  unfold dO;rw [if_neg O,show n+a.length-n=a.length by omega,List.getElem?_eq_none zL]
 rw [z];grind
structure bd (n:Nat) (ps:List aA) (V I:Nat->Rat):Prop where
 gnd:V 0=0
 node:∀ r,0<r->r<n->jy (fun i=>iJ ps i r*I i) ps.length=0
 part:∀ i (h:i<ps.length),bO ps[i].kind ps[i].q*(V ps[i].a.toNat-V ps[i].b.toNat)+cA ps[i].kind ps[i].q*(V ps[i].c.toNat-V ps[i].d.toNat)+bP ps[i].kind ps[i].q*I i=bQ ps[i].kind ps[i].q
def pf {n:Nat} {e:List aA} (h:cH n e) (x:Nat->Rat):oF (kG n e) (n+e.length) x↔x (n+e.length) = -1/\bd n e x (fun i=>x (n+i)):=by
 have o:=h.lo;have j:cY (n+e.length+1) x (kG n e 0)=x 0:=by
  unfold kG;rw [if_pos rfl,jH,tz,if_pos O];grind
 have k:∀ r,0<r->r<n->cY (n+e.length+1) x (kG n e r)=jy (fun i=>iJ e i r*x (n+i)) e.length:=by
  intro r m hn;unfold kG;rw [if_neg O,if_pos hn];exact Du x n e r
 have l:∀ i (hi:i<e.length),cY (n+e.length+1) x (kG n e (n+i))=bO e[i].kind e[i].q*(x e[i].a.toNat-x e[i].b.toNat)+cA e[i].kind e[i].q*(x e[i].c.toNat-x e[i].d.toNat)+bP e[i].kind e[i].q*x (n+i)+bQ e[i].kind e[i].q*x (n+e.length):=by
  intro i hi;obtain ⟨w,y,z,A,s,t,u,v,ha,hb,hc,hd⟩:=h.ends e[i] (List.getElem_mem hi);unfold kG;rw [if_neg O,if_neg O,show n+i-n=i by omega,zX hi];exact Dv x n e.length i _ _ _ _ _ _ _ _ hi (by rw [s];simpa using ha) (by rw [t];simpa using hb) (by rw [u];simpa using hc) (by rw [v];simpa using hd)
 constructor
 ·rintro ⟨g,f⟩;refine ⟨g,⟨?_,fun r m hn=>?_,fun i hi=>?_⟩⟩
  ·rw [<- j];exact f 0 O
  ·rw [<- k r m hn];exact f r O
  ·have:=f (n+i) O;rw [l i hi,g] at this;grind
 ·rintro ⟨g,f⟩;refine ⟨g,fun r B=>?_⟩;by_cases p:r=0
  ·subst p;rw [j];exact f.gnd
  ·by_cases rn:r<n
   ·rw [k r O rn];exact f.node r O rn
   ·obtain ⟨i,rfl⟩:∃ i,r=n+i:=⟨r-n,O⟩;have hi:i<e.length:=O
    have:=f.part i hi;rw [l i hi,g];grind
def qI {α β:Type} (f:α->β) (l cs:List α) (o:Nat):splice (l.map f) o (cs.map f)=(splice l o cs).map f:=by
 simp [splice,List.map_take,List.map_drop,List.map_append]
def Below.gr {w a:World} (h:Below w.heap.size w a):w.grownBy a none:=⟨h.os,h.tape,h.output,h.size,fun k b _=>h.block k b⟩
def RepR (w:World) (g c:Nat) (v:Value) (wr:World):Prop:=∃ (k:Nat) (xs:List Int),1<=k/\k<=c/\v=.int .i64 k/\xs.length=c/\qV wr g xs/\Below w.heap.size w wr
def sF (b c:Nat) (w:World) (hb:w.cell? ⟨b,0,none⟩=some (.int .i64 (-1))) (h0:0<c) (h1:c<=1000) :
  Calls Tryz.prog 202 #[.slice (some ⟨b,0,none⟩) 1 1,.int .i64 ((c:Nat):Int)] w
   fun e S=>∃ g xs,e=.returned (.slice (some ⟨g,0,none⟩) c c)/\w.heap.size<=g/\xs.length=c/\qV S g xs/\w.grownBy S none:=by
 have T:=ab hb;clear hb;go_enter Tryz.func202,Tryz.ntmps202
 go_wp2_with fail;refine (Tryz.bits_Mul 1 c zD O _).mono ?_;rintro e w1 ⟨rfl,L⟩;rw [L];clear L w1;rw [show 1*c / 18446744073709551616=0 from O,show 1*c % 18446744073709551616=c from O];have U:¬ ((9223372036854775807:Int)<(c:Int)):=O
 go_wp2_with (at_make;refine eI iv 3 0 8 _ rfl _ _ 121 rfl Tryz.underlying121 Tryz.infoInt rfl _ _ _ _ c rfl rfl O O O O ?_)
 intro t i p;have F:=ab i;have r:=ab p;have u:=ab (p.cell T Z);have V:w.heap.size<=w.heap.size:=zL;clear i p;have y:Hid (∀ j v,[iv (-1)][j]? = some v->t.cell? ((⟨b,0,none⟩:Addr).add j)=some v):=by
  intro j v a;match j with
  | 0=>simp only [List.getElem?_cons_zero,zI] at a;subst a;simpa [Addr.add] using u.out
  | j+1=>simp at a
 have z:Hid (∀ v∈[iv (-1)],v.oneCell'=true):=by intro v E;simp only [List.mem_singleton] at E;subst E;rfl
 have A:Hid (Below w.heap.size w t):=⟨r.os,r.tape,r.out.output,r.size,fun k hk=>r.block k hk Z⟩;have h:=run_copy_row (P:=Tryz.prog) t 121 121 3 3 w.heap.size 0 c c ⟨b,0,none⟩ 1 1 ((List.replicate c 0).map iv).toArray 3 [iv (-1)] Tryz.underlying121 zK F (by show 1=min 1 c;omega) y (by simp;omega) z;have d:=setRow_heap t w.heap.size _ ((((List.replicate c 0).map iv).toArray.toList.take 0++[iv (-1)]++((List.replicate c 0).map iv).toArray.toList.drop (0 + [iv (-1)].length)).toArray) 3 _ F;have l:Below w.heap.size w (t.setRow w.heap.size ((((List.replicate c 0).map iv).toArray.toList.take 0++[iv (-1)]++((List.replicate c 0).map iv).toArray.toList.drop (0 + [iv (-1)].length)).toArray)):=below_setRow A zL _;generalize (t.setRow w.heap.size ((((List.replicate c 0).map iv).toArray.toList.take 0++[iv (-1)]++((List.replicate c 0).map iv).toArray.toList.drop (0 + [iv (-1)].length)).toArray))=w3 at h d l;rw [show goInt [iv (-1)].length=.int .i64 1 from rfl] at h;have J:Hid (qV w3 w.heap.size (splice (List.replicate c 0) 0 [-1])):=by
  have e:((List.replicate c 0).map iv).toArray.toList.take 0++[iv (-1)]++((List.replicate c 0).map iv).toArray.toList.drop (0 + [iv (-1)].length)=(splice (List.replicate c 0) 0 [-1]).map iv:=by
   rw [<- qI];simp [splice]
  rw [e] at d;exact d
 have K:=ab l;clear d l F r u y z A;go_wp2;go_loopw [8] (fun v wr=>Hid (RepR w w.heap.size c v wr)) (fun v _=>c-(intOf v).toNat)
 case atStart=>exact ⟨1,_,O,O,rfl,by rw [length_splice _ _ _ (by simp;omega)];simp,J,K⟩
 case round =>
  obtain ⟨k,xs,hl,hk,rfl,M,N,Q⟩:=hrel.out;have G:=ab N;have s:=ab Q;clear N Q hrel J K;by_cases hlt:k<c
  ·have X:(0:Int)<=(k:Int):=O
   have Y:(k:Int)<=(c:Int):=O
   have he:(c=k)=False:=eq_false O;have m:Hid (∀ j v,((xs.take (min k (c-k))).map iv)[j]? = some v->wr.cell? ((⟨w.heap.size,0,none⟩:Addr).add j)=some v):=by
    intro j v a;rw [List.getElem?_map,List.getElem?_take] at a;split at a
    ·rename_i hf;rw [zX O] at a;simp only [Option.map_some,zI] at a;rw [<- a,show (⟨w.heap.size,0,none⟩:Addr).add j=⟨w.heap.size,j,none⟩ from by simp [Addr.add];omega];exact G.cell j O
    ·cases a
   have n:Hid (∀ v∈(xs.take (min k (c-k))).map iv,v.oneCell'=true):=by
    intro v E;obtain ⟨x,_,rfl⟩:=List.mem_map.1 E;rfl
   have f:Hid (((xs.take (min k (c-k))).map iv).length=Nat.min k (c-k)):=by
    show _=min _ _
    rw [List.length_map,List.length_take];omega
   have o:Hid (k+((xs.take (min k (c-k))).map iv).length<=(xs.map iv).length):=by
    show _<=_
    rw [List.length_map,List.length_take,List.length_map];omega
   obtain ⟨cs,q⟩:=eX ((xs.take (min k (c-k))).map iv);rw [<- q] at m n f o;have B:=ab q;clear q;go_wp2_with fail;go_region_law (refine step_copy_splice rfl (.tmp 41) (.tmp 44) 121 121 rfl 3 Tryz.underlying121 zK (some ⟨w.heap.size,k,none⟩) (some ⟨w.heap.size,0,none⟩) (c-k) (c-k) k c (by simp [Act.eval,Act.put]) (by simp [Act.eval,Act.put]) w.heap.size k (xs.map iv) 3 G cs f (fun _=>⟨rfl,_,rfl,m⟩) o n w.heap.size w ⟨s.os,s.tape,s.out.output,s.size,s.block⟩ zL ?_;intro w4 C D)
   all_goals
    have H:cs.length=min k (c-k):=f.out;have H4:Hid (∃ ys:List Int,ys.length=c/\qV w4 w.heap.size ys):=by
     refine ⟨splice xs k (xs.take (min k (c-k))),?_,?_⟩
     ·rw [length_splice _ _ _ (by rw [List.length_take];omega),M]
     ·have:=C.out;rw [B,qI] at this;exact this
    have B4:=ab D;have I:IntKind.i64.wrap ((k:Int)+(cs.length:Int))=(k:Int)+((min k (c-k):Nat):Int):=by rw [<- H];exact IntWalk.i64_in _ ⟨O,O⟩
    clear C D m n f o B;simp only [List.getElem_toArray,List.getElem_cons_succ,List.getElem_cons_zero,Act.put,setA,setZ,setS,I];go_wp2;go_roundw
    case rel =>
     obtain ⟨ys,y1,y2⟩:=H4.out;exact ⟨k+min k (c-k),ys,O,O,rfl,y1,y2,B4⟩
    case measure=>exact bH
  ·obtain rfl:k=c:=O
   go_wp2;go_ret;exact ⟨_,xs,rfl,zL,M,G,Below.gr s⟩
end Go.Proofs.YtbomdfhdocaagaaGreatDoor
