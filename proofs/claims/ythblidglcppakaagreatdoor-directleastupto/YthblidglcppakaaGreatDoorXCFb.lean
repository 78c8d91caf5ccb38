/- Contracts that the proof leans on. -/
import Derived.Test.YthblidglcppakaaGreatDoorXCFa
import Derived.Test.YthblidglcppakaaGreatDoorXShelf
import Derived.Deep.RegionWith
namespace Go.Proofs.YthblidglcppakaaGreatDoor
open Go.RowKit
set_option linter.unusedVariables false
set_option linter.unusedSimpArgs false
set_option maxHeartbeats 8000000
set_option maxRecDepth 10000
theorem aj {w:World} (n:Nat):w.grownBy (w.drewN n) none:=ar (ae _ _) n
theorem gB.num {w:World} {base:Nat} {v:Value} {xs:List Nat} (h:gB w base v xs) (hs:Sm xs) (ht:Tr xs) (L:Nat) (hl:xs.length<=L):aU w v (ak xs) L:=⟨xs,h.ws hs,ht,rfl,hl⟩
theorem gB.fr {w w0:World} {v:Value} {xs:List Nat} (h:gB w w0.heap.size v xs):bA w0 v:=fun k hk=>(h.fresh k hk).1
def gM (w:World) (X Y L:Nat) (e:Ending) (w':World):Prop:=∃ q r,e=.returned (.tuple #[q,r])/\aU w' q (X / Y) L/\gN w' w.heap.size r (X % Y) L/\w.grownBy w' none/\bA w q
def Divided (w:World) (X Y L:Nat) (e:Ending) (w':World):Prop:=∃ q r,e=.returned (.tuple #[q,r])/\aU w' q (X / Y) L/\aU w' r (X % Y) L/\w.grownBy w' none/\bA w q/\bA w r
theorem tO (va vb:Value) (xs ys:List Nat) (w:World) (ha:Ws w va xs) (hb:Ws w vb ys) (tx:Tr xs) (ty:Tr ys) (hlt:ak xs<ak ys) (hl:xs.length<=9000000000000) :
  Calls Tryz.prog 160 #[va,vb] w fun e w'=>gM w (ak xs) (ak ys) xs.length e w':=by
 obtain ⟨ao,ca,ea,hca,hca',Ha⟩:=ha.open;obtain ⟨bo,cb,eb,hcb,hcb',Hb⟩:=hb.open;unfold maxLen at hca' hcb';have WA:=ab ha;have WB:=ab hb;have TX:=ab tx;have TY:=ab ty;have HLT:=ab hlt;subst ea eb;clear Ha Hb ha hb tx ty hlt;go_enter Tryz.func160,Tryz.ntmps160
 go_wp2_with fail;refine (fS _ _ xs ys _ WA.out WB.out TX.out TY.out).mono ?_;rintro e w1 ⟨rfl,q1,rfl⟩;have hord:=sC HLT.out;generalize iG (ak xs) (ak ys)=o1 at hord ⊢;go_wp2_with fail;refine (jh _ xs _ (WA.out.keep0 (aj _)) (by omega)).mono ?_;rintro e w2 ⟨r',rfl,k1,k2⟩;obtain ⟨ro,rc,rfl,_,_,_⟩:=k1.open;have K1:=ab k1;have K2:=ab k2;clear k1 k2;go_wp2;go_ret2
 refine ⟨_,_,rfl,?_,?_,aa (aj _) K2.out,fun k hk=>by simp [az] at hk⟩
 ·rw [Nat.div_eq_of_lt HLT.out];exact ⟨[],Ws.nil _,rfl,rfl,by simp⟩
 ·rw [Nat.mod_eq_of_lt HLT.out];exact ⟨xs,K1.out,WA.out.sm,TX.out,rfl,Nat.le_refl _⟩
theorem oW {w w2 w3 w4:World} {c' q' r':Value} {xs:List Nat} {y r:Nat} (g2:w.grownBy w2 none) (k1:gB w2 w.heap.size c' xs) (s1:AR w2 w.heap.size c' xs y q' w3) (hr:r=ak xs % y) (n1:gN w4 w3.heap.size r' r 1) (n2:w3.grownBy w4 none) (hx:0<xs.length) :
  gM w (ak xs) (ak [y]) xs.length (.returned (.tuple #[q',r'])) w4:=by
 obtain ⟨ys,o1,o2,o3,o4,o5,o6,o7⟩:=s1;have ey:ak [y]=y:=by simp [ak]
 have g3:w.grownBy w3 none:=aq (r2:=az c') g2 o6 (fun _ _ e=>e) (fun b hb e=>by have:=(k1.fresh b e.symm).1;omega);refine ⟨q',r',rfl,?_,?_,aa g3 n2,o1.fr⟩
 ·rw [ey,<- o4];exact (o1.num o2 o3 _ o5).keep0 n2
 ·rw [ey,<- hr];exact (n1.base g3.size).mono hx
theorem wB (va vb:Value) (xs:List Nat) (y:Nat) (w:World) (ha:Ws w va xs) (hb:Ws w vb [y]) (tx:Tr xs) (ty:Tr [y]) (hle:y<=ak xs) (hl:xs.length<=9000000000000) :
  Calls Tryz.prog 160 #[va,vb] w fun e w'=>gM w (ak xs) (ak [y]) xs.length e w':=by
 obtain ⟨ao,ca,ea,hca,hca',Ha⟩:=ha.open;obtain ⟨bo,cb,eb,hcb,hcb',Hb⟩:=hb.open;unfold maxLen at hca' hcb';obtain ⟨b,off,rfl,hbb,hcell⟩:=Hb 0 (by simp);simp only [Nat.add_zero,List.getElem_cons_zero] at hcell;have hy0:0<y:=by have:=ty.pos;simp only [ak] at this;omega
 have hyb:y<4294967296:=hb.sm y (by simp);have hxl:0<xs.length:=by
  rcases Nat.eq_zero_or_pos xs.length with h | h
  ·have:xs=[]:=List.eq_nil_of_length_eq_zero h;rw [this] at hle;simp [ak] at hle;omega
  ·exact h
 have WA:=ab ha;have WB:=ab hb;have TX:=ab tx;have TY:=ab ty;have HLE:Hid (ak [y]<=ak xs):=by simp only [ak];exact hle
 subst ea eb;clear Ha Hb ha hb tx ty hle;go_enter Tryz.func160,Tryz.ntmps160
 go_wp2_with fail;refine (fS _ _ xs [y] _ WA.out WB.out TX.out TY.out).mono ?_;rintro e w1 ⟨rfl,q1,rfl⟩;have hord:=mU HLE.out;generalize iG (ak xs) (ak [y])=o1 at hord ⊢;go_wp2_with fail;go_region_with (first
  | (go_at_call 110;refine (jh _ xs _ (WA.out.keep0 (aj _)) (by omega)).mono ?_;rintro e w2 ⟨c',rfl,k1,k2⟩;have q0:=(aa (aj _) k2).cell hcell (by simp))
  | (go_at_call 111;refine (pQ _ xs y _ w.heap.size (by first | exact k1 | exact k1.drewN _) WA.out.sm hy0 hyb (by omega)).mono ?_;rintro e w3 ⟨q',r,rfl,hr,s1⟩;have hrb:r<4294967296:=(by rw [hr];exact Nat.lt_trans (Nat.mod_lt _ hy0) hyb);have HR:=ab hr;have S1:=ab s1;have G2:=ab (aa (aj _) k2);have K1:=ab k1;clear hr s1 k1 k2))
 all_goals
  obtain ⟨qo,qc,ql,rfl⟩:∃ qo qc ql,q'=.slice qo ql qc:=by
   obtain ⟨_,o1,_⟩:=S1.out;obtain ⟨qo,qc,e,_⟩:=o1.open;exact ⟨_,_,_,e⟩
  go_wp2_with fail;refine (zA r _ hrb).mono ?_;rintro e w4 ⟨r',rfl,n1,n2⟩;obtain ⟨ro,rc,rl,rfl⟩:∃ ro rc rl,r'=.slice ro rl rc:=by
   obtain ⟨_,o1,_⟩:=n1;obtain ⟨ro,rc,e,_⟩:=o1.open;exact ⟨_,_,_,e⟩
  have N1:=ab n1;have N2:=ab n2;clear n1 n2;go_wp2;go_ret2
  exact oW G2.out K1.out S1.out HR.out N1.out N2.out hxl
theorem rX:∀ (f x:Nat),0<x->x<2^f->1<=Lib.bitLenAux f x/\Lib.bitLenAux f x<=f/\2^(Lib.bitLenAux f x-1)<=x/\x<2^Lib.bitLenAux f x:=by
 intro f;induction f with
 | zero=>intro x h1 h2;simp at h2;omega
 | succ f ih =>
  intro x h1 h2;rw [Lib.bitLenAux,if_neg (by omega)];by_cases h3:x / 2=0
  ·have e:Lib.bitLenAux f (x / 2)=0:=by
    rw [h3];cases f<;>simp [Lib.bitLenAux]
   rw [e];refine ⟨by omega,by omega,?_,?_⟩
   ·simp;omega
   ·simp;omega
  ·obtain ⟨a,b,c,d⟩:=ih (x / 2) (by omega) (by rw [Nat.pow_succ] at h2;omega);generalize Lib.bitLenAux f (x / 2)=n at a b c d;refine ⟨by omega,by omega,?_,?_⟩
   ·obtain ⟨m,rfl⟩:∃ m,n=m+1:=⟨n-1,by omega⟩;rw [show 1+(m+1)-1=m+1 from by omega,Nat.pow_succ];rw [Nat.add_sub_cancel] at c;omega
   ·rw [Nat.add_comm,Nat.pow_succ];omega
theorem mH (x:Nat) (h0:0<x) (h:x<4294967296):1<=Lib.bitLen x/\Lib.bitLen x<=32/\2^(Lib.bitLen x-1)<=x/\x<2^Lib.bitLen x:=by
 have e:Lib.bitLen x=Lib.bitLenAux 32 x:=Lib.bitLenAux_fuel 32 x (by omega) 64 (by omega);rw [e];exact rX 32 x h0 (by omega)
def dB (w wr:World) (gu gq:Nat) (vs:List Nat) (N A k:Nat) (us qs:List Nat):Prop :=
 us.length=N/\qs.length+k+vs.length=N/\Sm us/\Sm qs/\ch wr gu us/\ch wr gq (List.replicate k 0++qs)/\w.grownBy wr none/\ak (us.drop k)<ak vs /\
  A=ak (us.take k)+4294967296^k*(ak qs*ak vs+ak (us.drop k))
theorem dB.next {w wr wr':World} {gu gq:Nat} {vs:List Nat} {N A j:Nat} {us qs us2:List Nat} (h:dB w wr gu gq vs N A (j+1) us qs) (hq:ak (us.drop j) / ak vs<4294967296)
  (h1:us2.length=N) (h2:us2.take j=us.take j) (h3:ak (us2.drop j)=ak (us.drop j) % ak vs) (h4:Sm us2) (a1:ch wr' gu us2) (a2:ch wr' gq (List.replicate (j+1) 0++qs)) (hg:w.grownBy wr' none)
  (hgq:w.heap.size<=gq) (hne:gq≠gu) (z:Int) (hz:z=((ak (us.drop j) / ak vs:Nat):Int)) :
  dB w (wr'.setCell ⟨gq,j,none⟩ (.int .u32 z)) gu gq vs N A j us2 ((ak (us.drop j) / ak vs) :: qs):=by
 obtain ⟨i1,i2,i3,i4,i5,i6,i7,i8,i9⟩:=h;have hpos:0<ak vs:=by omega
 refine ⟨h1,by simp;omega,h4,Sm.cons hq i4,?_,?_,ai hg _ _ hgq,by rw [h3];exact Nat.mod_lt _ hpos,?_⟩
 ·unfold ch;rw [heap_setCell_other _ _ _ _ (fun e=>hne e.symm)];exact a1
 ·have:=a2.set j (ak (us.drop j) / ak vs);rw [hz];have e:(List.replicate (j+1) 0++qs).set j (ak (us.drop j) / ak vs)=List.replicate j 0++(ak (us.drop j) / ak vs) :: qs:=by
   rw [<- List.replicate_append_replicate (n:=j) (m:=1),List.append_assoc,List.set_append_right _ _ (by simp)];simp
  rw [e] at this;exact this
 ·have hjl:j<us.length:=by omega
  rw [i9,h2,h3,ay us j hjl,Nat.pow_succ];have e1:=cT us j;have e2:us.getD j 0=us[j]:=by simp [hjl]
  rw [e2] at e1;have e3:=Nat.div_add_mod (ak (us.drop j)) (ak vs);show _=ak (us.take j)+4294967296^j*((ak (us.drop j) / ak vs+4294967296*ak qs)*ak vs+ak (us.drop j) % ak vs)
  generalize ak (us.drop j)=D at e1 e3 ⊢;generalize ak (us.drop (j+1))=D1 at e1 ⊢;generalize D / ak vs=q at e3 ⊢;generalize D % ak vs=r at e3 ⊢;generalize us[j]=u at e1 ⊢;generalize ak vs=V at e3 ⊢;generalize ak qs=Q;generalize 4294967296^j=p;have e4:(q+4294967296*Q)*V+r=u+4294967296*(Q*V+D1):=by
   rw [Nat.add_mul,Nat.mul_comm q V,Nat.mul_assoc 4294967296 Q V,Nat.mul_add];omega
  rw [e4,Nat.mul_add p u,Nat.mul_assoc p];omega
theorem dB.start {w wr:World} {gu gq:Nat} {vs us:List Nat} {X s:Nat} (su:Sm us) (hA:ak us=X*2^s) (hX:X<4294967296^(us.length-1)) (hs:s<32) (tt:Nat) (hv0:0<vs.length) (hvN:vs.length<us.length) (htt:vs[vs.length-1]? = some tt) (ht0:2147483648<=tt)
  (a1:ch wr gu us) (a2:ch wr gq (List.replicate (us.length-vs.length) 0)) (hg:w.grownBy wr none) :
  dB w wr gu gq vs us.length (X*2^s) (us.length-vs.length) us []:=by
 have hd:=kr us (us.length-vs.length) su (by omega);have hvl:4294967296^(vs.length-1)*2147483648<=ak vs:=by
  obtain ⟨h1,h2⟩:=List.getElem?_eq_some_iff.1 htt;have:=gL vs (vs.length-1) h1;rw [h2] at this;have b:4294967296^(vs.length-1)*2147483648<=4294967296^(vs.length-1)*(tt+4294967296*ak (vs.drop (vs.length-1+1))):=Nat.mul_le_mul_left _ (by omega);omega
 refine ⟨rfl,by simp;omega,su,Sm.nil,a1,by rw [List.append_nil];exact a2,hg,?_,?_⟩
 ·rw [<- hd,hA];have h1:2^s<=2^31:=Nat.pow_le_pow_right (by decide) (by omega);have h3:X*2^s<4294967296^(us.length-1)*2147483648:=Nat.lt_of_lt_of_le (Nat.mul_lt_mul_of_pos_right hX (Nat.two_pow_pos s)) (Nat.mul_le_mul_left _ h1);have:X*2^s / 4294967296^(us.length-vs.length)<4294967296^(vs.length-1)*2147483648:=by
   rw [Nat.div_lt_iff_lt_mul (Nat.pow_pos (by decide)),Nat.mul_right_comm,<- Nat.pow_add,show vs.length-1+(us.length-vs.length)=us.length-1 from by omega];exact h3
  omega
 ·have e:=bN (us.take (us.length-vs.length)) (us.drop (us.length-vs.length));rw [List.take_append_drop,List.length_take,show min (us.length-vs.length) us.length=us.length-vs.length from by omega,hA] at e;simp only [ak,Nat.zero_mul,Nat.zero_add];exact e
theorem vK {us W:List Nat} {j n:Nat} (hW:W.length=n) (hj:j+n<=us.length) (h0:ak (us.drop (j+n))=0) :
  (us.take j++W++us.drop (j+n)).length=us.length/\(us.take j++W++us.drop (j+n)).take j=us.take j/\ak ((us.take j++W++us.drop (j+n)).drop j)=ak W/\((us.take j++W++us.drop (j+n)).drop j).take n=W /\
   (us.take j++W++us.drop (j+n)).drop (j+n)=us.drop (j+n):=by
 have hl:(us.take j).length=j:=by rw [List.length_take];omega
 have hl2:(us.take j++W).length=j+n:=by rw [List.length_append,hl,hW]
 have e1:(us.take j++W++us.drop (j+n)).drop j=W++us.drop (j+n):=by
  rw [List.append_assoc,List.drop_append_of_le_length (by omega),List.drop_of_length_le (by omega),List.nil_append]
 refine ⟨?_,?_,?_,?_,?_⟩
 ·rw [List.length_append,hl2,List.length_drop];omega
 ·rw [List.append_assoc,List.take_append_of_le_length (by omega),List.take_of_length_le (by omega)]
 ·rw [e1,bN,h0,Nat.mul_zero,Nat.add_zero]
 ·rw [e1,List.take_append_of_le_length (by omega),List.take_of_length_le (by omega)]
 ·rw [List.drop_append_of_le_length (by omega),List.drop_of_length_le (by omega),List.nil_append]
theorem Ws.sub {w:World} {g j n cap:Nat} {us:List Nat} (h:ch w g us) (hs:Sm us) (hj:j+n<=us.length) (hc:n<=cap) (hm:cap<=maxLen):Ws w (.slice (some ⟨g,j,none⟩) n cap) ((us.drop j).take n):=by
 have hl:((us.drop j).take n).length=n:=by rw [List.length_take,List.length_drop];omega
 refine ⟨(hs.drop j).take n,.inr ⟨g,j,cap,by rw [hl],h.lt,by omega,hm,fun i hi=>?_⟩⟩;rw [hl] at hi;rw [h.cell (j+i) (by omega)];simp
theorem j6 {w w1 w2:World} {g:Nat} (h:w.grownBy w1 none) (k:w1.grownBy w2 (some g)) (hg:w.heap.size<=g):w.grownBy w2 none :=
 aq (r2:=some g) h k (fun _ _ e=>e) (fun b hb e=>by cases e;omega)
def DivR (w:World) (gu gq:Nat) (dv:Value) (vs:List Nat) (N A:Nat) (iv:Value) (wr:World):Prop :=
 ∃ z:Int,-1<=z/\z+vs.length+1<=N/\iv=.int .i64 z/\Hid (Ws wr dv vs)/\Hid (∃ us qs,dB w wr gu gq vs N A (z+1).toNat us qs)
theorem dB.round {w wr wt:World} {gu gq:Nat} {vs:List Nat} {N A j g E:Nat} {us qs:List Nat} (h:dB w wr gu gq vs N A (j+1) us qs) (sv:Sm vs) (hgu:w.heap.size<=gu) (hgq:w.heap.size<=gq) (hne:gq≠gu) (hg1:ak (us.drop j) / ak vs<=g) (hg2:g<=ak (us.drop j) / ak vs+1) (hgb:g<4294967296)
  (ht:AS wr wt gu us vs j g E) (hE:E<=1) :
  (E=0->∀ z:Int,z=(g:Int)->∃ us2 qs2,dB w (wt.setCell ⟨gq,j,none⟩ (.int .u32 z)) gu gq vs N A j us2 qs2) /\
  (E=1->1<=g/\∃ us1 R,ch wt gu us1/\Sm us1/\us1.length=N/\ak ((us1.drop j).take (vs.length+1))+ak vs=R+4294967296^(vs.length+1)/\R<4294967296^vs.length /\
   (∀ wg,Given wt gu us1 vs j R wg->∀ z:Int,z=((g-1:Nat):Int)->∃ us2 qs2,dB w (wg.setCell ⟨gq,j,none⟩ (.int .u32 z)) gu gq vs N A j us2 qs2)):=by
 have hh:=h;obtain ⟨i1,i2,i3,i4,i5,i6,i7,i8,i9⟩:=h;have hpos:0<ak vs:=by omega
 obtain ⟨W,t1,t2,t3,t4,t5⟩:=ht;obtain ⟨w1,w2,w3⟩:=mB (us:=us) (vs:=vs) (j:=j) sv i3 (by omega) i8;rw [w1] at t5;obtain ⟨d1,d2,d3,d4,d5⟩:=vK (us:=us) (W:=W) (j:=j) (n:=vs.length+1) t1 (by omega) w3;have sm:Sm (us.take j++W++us.drop (j+(vs.length+1))):=((i3.take j).append t2).append (i3.drop _);have hqlt:ak (us.drop j) / ak vs<4294967296:=by rw [Nat.div_lt_iff_lt_mul hpos];exact w2
 have a2:ch wt gq (List.replicate (j+1) 0++qs):=i6.keep t4 (fun e=>hne (by simpa using e));refine ⟨fun e z hz=>?_,fun e=>?_⟩
 ·obtain ⟨e1,e2⟩:=nE t5 e hg1 hpos;exact ⟨_,_,hh.next hqlt (d1.trans i1) d2 (d3.trans e2) sm t3 a2 (j6 i7 t4 hgu) hgq hne z (by rw [e1];exact hz)⟩
 ·have hWb:=bD t2;rw [t1] at hWb;obtain ⟨e1,e2,e3⟩:=oV t5 e hg1 hg2 hWb hpos;have hR:=Nat.mod_lt (ak (us.drop j)) hpos;have hV:=bD sv;refine ⟨e2,_,ak (us.drop j) % ak vs,t3,sm,d1.trans i1,by rw [d4];exact e3,by omega,?_⟩;intro wg hgv z hz;obtain ⟨W2,k1,k2,k3,k4,k5⟩:=hgv;rw [d2,d5] at k3;obtain ⟨f1,f2,f3,f4,f5⟩:=vK (us:=us) (W:=W2) (j:=j) (n:=vs.length+1) k1 (by omega) w3;have sm2:Sm (us.take j++W2++us.drop (j+(vs.length+1))):=((i3.take j).append k2).append (i3.drop _);exact ⟨_,_,hh.next hqlt (f1.trans i1) f2 (f3.trans k5) sm2 k3 (a2.keep k4 (fun e=>hne (by simpa using e))) (j6 (j6 i7 t4 hgu) k4 hgu) hgq hne z (by rw [e1];exact hz)⟩
theorem wA {w w8 w9:World} {gu gq:Nat} {q' r':Value} {xs ys vs us qs:List Nat} {s:Nat} (V3:ak vs=ak ys*2^s) (hd:dB w w8 gu gq vs (xs.length+1) (ak xs*2^s) 0 us qs) (hv:vs.length=ys.length) (hyx:ys.length<=xs.length) (hgq:w.heap.size<=gq)
  (n1:aU w9 q' (ak qs) qs.length) (n2:az q'=some gq) (n5:gN w9 w8.heap.size r' (ak (us.take ys.length) / 2^s) ys.length) (g9:w8.grownBy w9 none) (hv0:0<ys.length) (sv:Sm vs):gM w (ak xs) (ak ys) xs.length (.returned (.tuple #[q',r'])) w9:=by
 obtain ⟨i1,i2,i3,i4,i5,i6,i7,i8,i9⟩:=hd;simp only [List.take_zero,List.drop_zero,Nat.pow_zero,Nat.one_mul,ak,Nat.zero_add] at i8 i9;obtain ⟨m1,m2⟩:=xP (ak xs) (ak ys) (2^s) (ak qs) (ak us) (Nat.two_pow_pos s) (by rw [<- V3];exact i8) (by rw [<- V3];exact i9);have hVb:=bD sv;have ht:=(rm us ys.length (ak vs) i8 (by rw [<- hv];exact Nat.le_of_lt hVb) (by omega)).2;rw [ht,m2] at n5;refine ⟨q',r',rfl,by rw [<- m1];exact n1.mono (by omega),(n5.base i7.size).mono hyx,aa i7 g9,fun k hk=>?_⟩;rw [n2] at hk;cases hk
 exact hgq
theorem tP (va vb:Value) (xs ys:List Nat) (w:World) (ha:Ws w va xs) (hb:Ws w vb ys) (tx:Tr xs) (ty:Tr ys) (hy:1<ys.length) (hle:ak ys<=ak xs) (hl:xs.length<=9000000000000) (hl2:ys.length<=xs.length) :
  Calls Tryz.prog 160 #[va,vb] w fun e w'=>gM w (ak xs) (ak ys) xs.length e w':=by
 obtain ⟨ao,ca,ea,hca,hca',Ha⟩:=ha.open;obtain ⟨bo,cb,eb,hcb,hcb',Hb⟩:=hb.open;unfold maxLen at hca' hcb';have hne2:(((ys.length:Nat):Int)==1)=false:=beq_eq_false_iff_ne.2 (by omega);obtain ⟨t,ht1,ht2⟩:=xF ty (by intro e;rw [e] at hy;simp at hy);obtain ⟨b,off,rfl,hbb,hcell⟩:=Hb (ys.length-1) (by omega);rw [(List.getElem?_eq_some_iff.1 ht1).2] at hcell;have htb:t<4294967296:=by
  have:=hb.sm.get (ys.length-1) (by omega);rw [(List.getElem?_eq_some_iff.1 ht1).2] at this;exact this
 obtain ⟨j1,j2,j3,j4⟩:=mH t ht2 htb;obtain ⟨s,hs⟩:∃ s,s=32-Lib.bitLen t:=⟨_,rfl⟩;have es:(32-(Lib.bitLen t:Int))=(s:Int):=by omega
 have hs32:s<32:=by omega
 have HT:=ab (And.intro ht1 (And.intro j3 j4));have HJ:=ab (And.intro j1 j2);have HS:=ab hs;have ES:=ab es;have WA:=ab ha;have WB:=ab hb;have TX:=ab tx;have TY:=ab ty;have HLE:=ab hle;subst ea eb;clear Ha Hb ha hb tx ty hle ht1 j3 j4 j1 j2 hs es;go_enter Tryz.func160,Tryz.ntmps160
 go_wp2_with fail;refine (fS _ _ xs ys _ WA.out WB.out TX.out TY.out).mono ?_;rintro e w1 ⟨rfl,q1,rfl⟩;have hord:=mU HLE.out;generalize iG (ak xs) (ak ys)=o1 at hord ⊢;go_wp2_with fail;refine (Tryz.bits_LeadingZeros32 (t:Int) _ (by omega) (by omega)).mono ?_;rintro e w2 ⟨rfl,rfl⟩;rw [Int.toNat_natCast,ES.out];go_wp2_with fail;refine (uQ _ xs s _ (WA.out.keep0 (aj _)) hs32 (by omega)).mono ?_;rintro e w3 ⟨us,rfl,u1,u2,u3,u4,g3⟩;have G3:=ab (aa (aj _) g3);have hgu:w.heap.size<=(w.drewN q1).heap.size:=Nat.le_refl _;generalize (w.drewN q1).heap.size=gu at *;have U3:=ab u3;have U2:=ab u2;have U1:=ab u1;have U4:=ab u4;clear u1 u2 u3 u4 g3 ES;go_wp2_with fail;refine (uQ _ ys s _ (WB.out.keep0 G3.out) hs32 (by omega)).mono ?_;rintro e w4 ⟨vr,rfl,v1,v2,v3,v4,g4⟩;have hgv:gu<w3.heap.size:=U3.out.lt;generalize w3.heap.size=gv at *;have G4:=ab (aa G3.out g4);have U34:=ab (U3.out.keep g4 (by simp));have hwv:=v3.ws v2 (by rw [v1];unfold maxLen;omega);rw [v1] at hwv;have HWV:=ab hwv;have V1:=ab v1;have V4:=ab v4;clear v1 v2 v3 v4 g4 hwv G3 U3;go_wp2_with fail;refine (fA _ vr _ HWV.out).mono ?_;rintro e w5 ⟨dv,rfl,rfl,⟨vs,d1,d2,d3,d4⟩,d5⟩;have hvv:ak vs=ak ys*2^s:=by rw [d3];exact V4.out
 obtain ⟨vlen,tt,htt,htb2⟩:=uB ys vs t (Lib.bitLen t) s HS.out HJ.out.1 HJ.out.2 WB.out.sm (by omega) HT.out.1 HT.out.2.1 HT.out.2.2 d1.sm d2 hvv;have hdb:az dv=some gv:=by rw [d5];rfl
 obtain ⟨dvo,dvc,rfl,hdc1,hdc2,hjunk⟩:=d1.open;clear hjunk;unfold maxLen at hdc2;have hvy1:vs.length<=ys.length:=by omega
 have hvy2:ys.length<=vs.length:=by omega
 have D1:=ab d1;have VLEN:=ab vlen;have HVV:=ab hvv;have HTT:=ab htt;have HDB:=ab hdb;clear d1 d2 d3 d4 d5 hvv vlen htt hdb HWV V1 V4 HT HJ HS;go_wp2_with (at_make;refine aD _ rfl _ _ 89 rfl Tryz.underlying89 Tryz.info32 _ _ _ _ (xs.length-ys.length+1) rfl rfl (by omega) (by omega) (by omega) ?_)
 intro w6 harr hgr;have hgq:gv<w5.heap.size:=by
  have:=D1.out.blk gv HDB.out;exact this
 generalize w5.heap.size=gq at *;have G6:=ab (aa G4.out hgr);have U6:=ab (U34.out.keep hgr (by simp));have D6:=ab (D1.out.keep0 hgr);have Q6:=ab harr;clear harr hgr G4 U34 D1;have hnn:∃ n,vs.length=n+2:=⟨vs.length-2,by omega⟩;obtain ⟨n,hn⟩:=hnn;have htop:2147483648<=vs.getD (n+1) 0:=by
  have:=HTT.out;rw [hn,show n+2-1=n+1 from by omega] at this;simp only [List.getD,this,Option.getD_some];exact htb2
 have D0:Hid (dB w w6 gu gq vs (xs.length+1) (ak xs*2^s) (xs.length-ys.length+1) us []):=by
  have h1:=dB.start (w:=w) (wr:=w6) (gu:=gu) (gq:=gq) (vs:=vs) (us:=us) (X:=ak xs) (s:=s) U2.out U4.out (by rw [U1.out,Nat.add_sub_cancel];exact bD WA.out.sm) hs32 tt (by omega) (by have:=U1.out;omega) HTT.out htb2 U6.out (by rw [U1.out,show xs.length+1-vs.length=xs.length-ys.length+1 from by omega];exact Q6.out) G6.out;rw [U1.out,show xs.length+1-vs.length=xs.length-ys.length+1 from by omega] at h1;exact h1
 have HN:=ab hn;clear hn U1 U2 U4 U6 Q6 G6 htb2 HTT HLE;go_wp2;go_loopw [12] (fun iv wr=>DivR w gu gq (.slice dvo vs.length dvc) vs (xs.length+1) (ak xs*2^s) iv wr) (fun iv _=>(intOf iv+1).toNat)
 case atStart=>exact ⟨(xs.length:Int)-ys.length,by omega,by omega,by go_num,D6.out,us,[],by rw [show ((xs.length:Int)-ys.length+1).toNat=xs.length-ys.length+1 from by omega];exact D0.out⟩
 case round =>
  clear D0 D6;obtain ⟨z,hz1,hz2,rfl,HVC,HD⟩:=hrel;by_cases h0:z<0
  ·obtain ⟨us,qs,hD⟩:=HD.out;rw [show (z+1).toNat=0 from by omega] at hD;have HDD:=ab hD;clear HD hD;have ql:qs.length=xs.length-ys.length+1:=by obtain ⟨i1,i2,_⟩:=HDD.out;omega
   have wq:Ws wr (.slice (some ⟨gq,0,none⟩) (xs.length-ys.length+1) (xs.length-ys.length+1)) qs:=by
    obtain ⟨i1,i2,i3,i4,i5,i6,i7,i8,i9⟩:=HDD.out;rw [List.replicate_zero,List.nil_append] at i6;have:=i6.ws i4 (by unfold maxLen;omega);rw [ql] at this;exact this
   have wu:Ws wr (.slice (some ⟨gu,0,none⟩) ys.length (xs.length+1)) (us.take ys.length):=by
    obtain ⟨i1,i2,i3,i4,i5,i6,i7,i8,i9⟩:=HDD.out;have:=Ws.sub (n:=ys.length) (cap:=xs.length+1) (j:=0) i5 i3 (by omega) (by omega) (by unfold maxLen;omega);exact this
   have htl:(us.take ys.length).length=ys.length:=by
    obtain ⟨i1,_⟩:=HDD.out;rw [List.length_take];omega
   have WQ:=ab wq;have WU:=ab wu;have QL:=ab ql;have HTL:=ab htl;have SV:=ab HVC.out.sm;clear wq wu ql htl HVC hcell;go_wp2_with fail;go_region_with (first
    | (go_at_call 145;refine (fA _ qs _ (WQ.out.keep0 (aj _))).mono ?_;rintro e w8 ⟨q',rfl,rfl,n1,n2⟩)
    | (go_at_call 195;refine (zP _ (us.take ys.length) s _ (WU.out.keep0 (aj _)) hs32 (by rw [HTL.out];omega)).mono ?_;rintro e w9 ⟨r',rfl,n5,g9⟩))
   all_goals
    obtain ⟨qo,qc,ql,rfl⟩:∃ qo qc ql,q'=.slice qo ql qc:=by
     obtain ⟨_,o1,_⟩:=n1;obtain ⟨qo,qc,e,_⟩:=o1.open;exact ⟨_,_,_,e⟩
    obtain ⟨ro,rc,rl,rfl⟩:∃ ro rc rl,r'=.slice ro rl rc:=by
     obtain ⟨_,o1,_⟩:=n5;obtain ⟨ro,rc,e,_⟩:=o1.open;exact ⟨_,_,_,e⟩
    have N1:=ab (n1.keep0 g9);have N2:=ab n2;have N5:=ab n5;have G9:=ab g9;clear n1 n2 n5 g9;go_wp2;go_ret2
    refine wA HVV.out HDD.out VLEN.out hl2 (by omega) N1.out N2.out ?_ (aa (aj _) G9.out) (by omega) SV.out;have h5:=N5.out;rw [HTL.out] at h5;exact h5
  ·obtain ⟨j,rfl⟩:∃ j:Nat,z=j:=⟨z.toNat,by omega⟩;obtain ⟨us,qs,hD⟩:=HD.out;rw [show ((j:Int)+1).toNat=j+1 from by omega] at hD;have HDD:=ab hD;clear hD HD hcell;go_wp2_with fail;rw [show j+vs.length+1-j=vs.length+1 from by omega];obtain ⟨i1,i2,i3,i4,i5,i6,i7,i8,i9⟩:=HDD.out;have hww:=mB (us:=us) (vs:=vs) (j:=j) HVC.out.sm i3 (by omega) i8;have hsub:=Ws.sub (n:=vs.length+1) (cap:=xs.length+1-j) (j:=j) i5 i3 (by omega) (by omega) (by unfold maxLen;omega);have I5:=ab i5;have I3:=ab i3;have I1:=ab i1;have HWW:=ab hww;have HSUB:=ab hsub;clear i1 i2 i3 i4 i5 i6 i7 i8 i9 hww hsub;refine (BM _ _ ((us.drop j).take (vs.length+1)) vs n _ HSUB.out HVC.out HN.out (by rw [List.length_take,List.length_drop];have:=HN.out;have:=I1.out;omega) htop (by rw [HWW.out.1];exact HWW.out.2.1)).mono ?_;intro e wa hG;obtain ⟨g,qa,rfl,hg1,hg2,hg3,rfl⟩:=hG;rw [HWW.out.1] at hg2 hg3;have HG2:=ab hg2;have HG3:=ab hg3;clear hg2 hg3 HSUB;go_wp2_with fail;refine (vw gu j (xs.length+1-j) us vs _ g _ (I5.out.keep (aj _) (by simp)) (HVC.out.keep0 (aj _)) I3.out (by rw [HDB.out];intro e;have:=Option.some.inj e;omega) (by have:=I1.out;omega) hg1 (by have:=I1.out;omega) (by omega) (by unfold maxLen;omega) (by omega)).mono ?_;intro e wt hT;obtain ⟨E,hE,rfl,hTk⟩:=hT;have HTK:=ab hTk;have hrd:=dB.round (w:=w) (wr:=wr) (wt:=wt) HDD.out HVC.out.sm hgu (by omega) (by omega) HG2.out HG3.out hg1 (by obtain ⟨W,t1,t2,t3,t4,t5⟩:=hTk;exact ⟨W,t1,t2,t3,aq (r1:=none) (r2:=some gu) (aj _) t4 (fun _ _ e=>by cases e) (fun _ _ e=>e),t5⟩) hE
   have HRD:=ab hrd;have hvt:Hid (Ws wt (.slice dvo vs.length dvc) vs):=by
    obtain ⟨W,t1,t2,t3,t4,t5⟩:=hTk;exact (HVC.out.keep0 (aj _)).keep t4 (fun k e h=>by rw [HDB.out] at h;cases e;have:=Option.some.inj h;omega)
   clear hTk hrd HVC;by_cases hE0:E=0
   ·subst hE0;have hnx:=HRD.out.1 rfl;have HNX:=ab hnx;obtain ⟨hcq,hfq⟩:(∃ v,wt.cell? ⟨gq,j,none⟩=some v)/\wt.frozen? ⟨gq,j,none⟩=false:=by
     obtain ⟨i1,i2,i3,i4,i5,i6,i7,i8,i9⟩:=HDD.out;obtain ⟨W,t1,t2,t3,t4,t5⟩:=HTK.out;have a2:ch wt gq (List.replicate (j+1) 0++qs):=(i6.keep (aj _) (by simp)).keep t4 (fun e=>by have:=Option.some.inj e;omega);exact ⟨⟨_,a2.cell j (by simp;omega)⟩,a2.free j⟩
    obtain ⟨v0,hcq⟩:=hcq;clear hnx HRD HTK;go_wp2;go_roundw
    case rel =>
     refine ⟨(j:Int)-1,by omega,by omega,by go_num,?_,?_⟩
     ·exact hvt.out.keep (row:=some gq) ⟨rfl,rfl,rfl,by simp,fun k _ hr=>heap_setCell_other _ _ _ _ (fun e=>hr (by rw [e]))⟩ (fun k e h=>by rw [HDB.out] at h;cases e;have:=Option.some.inj h;omega)
     ·rw [show ((j:Int)-1+1).toNat=j from by omega];exact HNX.out _ (by omega)
    case measure=>simp [intOf]
   ·obtain rfl:E=1:=by omega
    clear hE0;obtain ⟨hg0,us1,R,r1,r2,r3,r4,r5,r6⟩:=HRD.out.2 rfl;have R1:=ab r1;have R2:=ab r2;have R3:=ab r3;have R4:=ab r4;have R5:=ab r5;have R6:=ab r6;clear r1 r2 r3 r4 r5 r6 HRD;go_wp2_with fail;refine (tW gu j (xs.length+1-j) R us1 vs _ _ R1.out hvt.out R2.out (by rw [HDB.out];intro e;have:=Option.some.inj e;omega) (by have:=R3.out;omega) (by have:=R3.out;omega) (by omega) (by unfold maxLen;omega) R4.out R5.out).mono ?_;rintro e wg ⟨rfl,hgv2⟩;have HNX:=ab (R6.out wg hgv2);obtain ⟨hcq,hfq⟩:(∃ v,wg.cell? ⟨gq,j,none⟩=some v)/\wg.frozen? ⟨gq,j,none⟩=false:=by
     obtain ⟨i1,i2,i3,i4,i5,i6,i7,i8,i9⟩:=HDD.out;obtain ⟨W,t1,t2,t3,t4,t5⟩:=HTK.out;obtain ⟨W2,k1,k2,k3,k4,k5⟩:=hgv2;have a2:ch wg gq (List.replicate (j+1) 0++qs):=((i6.keep (aj _) (by simp)).keep t4 (fun e=>by have:=Option.some.inj e;omega)).keep k4 (fun e=>by have:=Option.some.inj e;omega);exact ⟨⟨_,a2.cell j (by simp;omega)⟩,a2.free j⟩
    obtain ⟨v0,hcq⟩:=hcq;have hvg:Hid (Ws wg (.slice dvo vs.length dvc) vs):=by
     obtain ⟨W2,k1,k2,k3,k4,k5⟩:=hgv2;exact hvt.out.keep k4 (fun k e h=>by rw [HDB.out] at h;cases e;have:=Option.some.inj h;omega)
    clear hgv2 R6 HTK;go_wp2;go_roundw
    case rel =>
     refine ⟨(j:Int)-1,by omega,by omega,by go_num,?_,?_⟩
     ·exact hvg.out.keep (row:=some gq) ⟨rfl,rfl,rfl,by simp,fun k _ hr=>heap_setCell_other _ _ _ _ (fun e=>hr (by rw [e]))⟩ (fun k e h=>by rw [HDB.out] at h;cases e;have:=Option.some.inj h;omega)
     ·rw [show ((j:Int)-1+1).toNat=j from by omega];exact HNX.out _ (by omega)
    case measure=>simp [intOf]
theorem wC (va vb:Value) (X Y L M:Nat) (w:World) (ha:aU w va X L) (hb:aU w vb Y M) (hy:0<Y) (hl:L<=9000000000000) :
  Calls Tryz.prog 160 #[va,vb] w fun e w'=>gM w X Y L e w':=by
 obtain ⟨xs,x1,x2,x3,x4⟩:=ha;obtain ⟨ys,y1,y2,y3,y4⟩:=hb;have key:Calls Tryz.prog 160 #[va,vb] w fun e w'=>gM w (ak xs) (ak ys) xs.length e w':=by
  by_cases h1:ak xs<ak ys
  ·exact tO va vb xs ys w x1 y1 x2 y2 h1 (by omega)
  ·by_cases h2:1<ys.length
   ·exact tP va vb xs ys w x1 y1 x2 y2 h2 (by omega) (by omega) (lA y1.sm y2 x1.sm (by omega))
   ·match ys,y1,y2,y3,h1,h2 with
    | [],_,_,y3,_,_=>simp [ak] at y3;omega
    | [y],y1,y2,y3,h1,_=>exact wB va vb xs y w x1 y1 x2 y2 (by simp [ak] at h1;omega) (by omega)
    | _ :: _ :: _,_,_,_,_,h2=>simp at h2
 refine key.mono ?_;rintro e w' ⟨q,r,rfl,k1,k2,k3,k4⟩;rw [x3,y3] at k1 k2;exact ⟨q,r,rfl,k1.mono x4,k2.mono x4,k3,k4⟩
theorem jg (va vb:Value) (X Y L M:Nat) (w:World) (ha:aU w va X L) (hb:aU w vb Y M) (hy:0<Y) (hl:L<=9000000000000) :
  Calls Tryz.prog 160 #[va,vb] w fun e w'=>Divided w X Y L e w':=by
 refine (wC va vb X Y L M w ha hb hy hl).mono ?_;rintro e w' ⟨q,r,rfl,k1,k2,k3,k4⟩;exact ⟨q,r,rfl,k1,k2.num,k3,k4,fun k hk=>(k2.fresh k hk).1⟩
end Go.Proofs.YthblidglcppakaaGreatDoor
