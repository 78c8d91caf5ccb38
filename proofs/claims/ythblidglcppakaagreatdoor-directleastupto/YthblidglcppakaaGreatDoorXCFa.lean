/- Contracts that the proof leans on. -/
import Derived.Test.YthblidglcppakaaGreatDoorXMFa
namespace Go.Proofs.YthblidglcppakaaGreatDoor
open Go.RowKit
set_option linter.unusedVariables false
set_option linter.unusedSimpArgs false
set_option maxHeartbeats 8000000
set_option maxRecDepth 10000
def GuessR (hh vt U V:Nat) (gv rv:Value):Prop:=∃ g r:Nat,gv=.int .u64 g/\rv=.int .u64 r/\r<4294967296/\g<18446744073709551616/\Hid (g*vt+r=hh/\U / V<=g)
def Guessed (U V:Nat) (w:World) (e:Ending) (w':World):Prop:=∃ g q:Nat,e=.returned (.int .u64 (g:Nat))/\g<4294967296/\U / V<=g/\g<=U / V+1/\w'=w.drewN q
theorem BM (xv yv:Value) (W vs:List Nat) (n:Nat) (w:World) (hx:Ws w xv W) (hy:Ws w yv vs) (hn:vs.length=n+2) (hW:W.length=n+3) (ht:2147483648<=vs.getD (n+1) 0) (hlt:ak W<4294967296*ak vs) :
  Calls Tryz.prog 192 #[xv,yv] w fun e w'=>Guessed (ak W) (ak vs) w e w':=by
 have ht':2147483648<=vs[n+1]:=by
  have e:vs.getD (n+1) 0=vs[n+1]:=by simp [List.getD,hn]
  omega
 have kd:=kd_of vs W n hn hW hy.sm hx.sm ht' hlt;obtain ⟨ao,ca,ea,hca,hca',Ha⟩:=hx.open;obtain ⟨bo,cb,eb,hcb,hcb',Hb⟩:=hy.open;obtain ⟨b1,o1,rfl,hb1,c1⟩:=Ha (n+2) (by omega);obtain ⟨_,_,e2,_,c2⟩:=Ha (n+1) (by omega);obtain ⟨_,_,e3,_,c3⟩:=Ha n (by omega);simp only [Option.some.injEq,Addr.mk.injEq,and_true] at e2 e3;obtain ⟨rfl,rfl⟩:=e2;obtain ⟨rfl,rfl⟩:=e3;obtain ⟨b2,o2,rfl,hb2,c4⟩:=Hb (n+1) (by omega);obtain ⟨_,_,e5,_,c5⟩:=Hb n (by omega);simp only [Option.some.injEq,Addr.mk.injEq,and_true] at e5;obtain ⟨rfl,rfl⟩:=e5;have B1:=hx.sm.get (n+2) (by omega);have B2:=hx.sm.get (n+1) (by omega);have B3:=hx.sm.get n (by omega);have B4:=hy.sm.get (n+1) (by omega);have B5:=hy.sm.get n (by omega);generalize W[n+2]=ua at c1 kd B1;generalize W[n+1]=ub at c2 kd B2;generalize W[n]=uc at c3 kd B3;generalize vs[n+1]=vt at c4 kd ht' B4;generalize vs[n]=vn at c5 kd B5;have KD:=ab kd;rw [hW] at ea hca;rw [hn] at eb hcb;subst ea eb;unfold maxLen at hca' hcb';have hor:=jq ua ub B1 B2;obtain ⟨hh,eh⟩:∃ h,h=ua*4294967296+ub:=⟨_,rfl⟩;rw [<- eh] at hor;have EH:=ab eh;have hhb:hh<18446744073709551616:=by omega
 have hvt0:((vt:Int)==0)=false:=beq_eq_false_iff_ne.2 (by omega);have hdm:hh / vt*vt+hh % vt=hh:=by rw [Nat.mul_comm];exact Nat.div_add_mod hh vt
 have hrm:=Nat.mod_lt hh (show 0<vt by omega);have hqb:hh / vt<=hh:=Nat.div_le_self _ _;obtain ⟨Q,eQ⟩:∃ q,q=hh / vt:=⟨_,rfl⟩;obtain ⟨R,eR⟩:∃ r,r=hh % vt:=⟨_,rfl⟩;rw [<- eQ,<- eR] at hdm;rw [<- eR] at hrm;rw [<- eQ] at hqb;have eQ':(hh:Int) / (vt:Int)=(Q:Int):=by rw [eQ,Int.natCast_ediv]
 have eR':(hh:Int) % (vt:Int)=(R:Int):=by rw [eR,Int.natCast_emod]
 have eQ2:(hh:Int).tdiv (vt:Int)=(Q:Int):=by rw [Int.tdiv_eq_ediv_of_nonneg (by omega)];exact eQ'
 have eR2:(hh:Int).tmod (vt:Int)=(R:Int):=by rw [Int.tmod_eq_emod_of_nonneg (by omega)];exact eR'
 have hinit:ak W / ak vs<=Q:=by rw [eQ,eh];exact kd.init
 have HIN:=ab (And.intro hdm hinit);clear Ha Hb hx hy ht hlt kd eh eQ eR hdm hinit hn hW;go_enter Tryz.func192,Tryz.ntmps192
 go_wp2;go_quiet (fail)
 go_wp2;go_quiet (fail)
 go_wp2;go_quiet (fail)
 go_wp2;go_loop [9,10] (fun gv rv=>GuessR hh vt (ak W) (ak vs) gv rv) (fun gv _=>(intOf gv).toNat)
 case atStart=>exact ⟨Q,R,by first | rfl | rw [eQ'] | rw [eQ2],by first | rfl | rw [eR'] | rw [eR2],by omega,by omega,HIN.out⟩
 case round =>
  clear HIN eQ' eR' eQ2 eR2 hrm hqb hor;obtain ⟨g,r,rfl,rfl,hr,hg,HI⟩:=hrel;have hor:=jq r uc hr B3;obtain ⟨m,em⟩:∃ x,x=r*4294967296+uc:=⟨_,rfl⟩;rw [<- em] at hor;have EM:=ab em;have hmb:m<18446744073709551616:=by omega
  clear em;by_cases hbig:4294967296<=g
  ·have HQ:=ab (KD.out.keep (by rw [<- EH.out];exact HI.out.1) (.inl hbig));have hg1:1<=g:=by omega
   by_cases hbr:r+vt<4294967296
   ·go_wp2;go_round
    case rel=>exact ⟨g-1,r+vt,by go_num,by go_num,hbr,by omega,bW HI.out.1 hg1,by have:=HQ.out;omega⟩
    case measure=>simp [intOf];omega
   ·go_wp2;go_ret;have hb:=KD.out.brk (by rw [<- EH.out];exact bW HI.out.1 hg1) (Nat.le_of_not_lt hbr);refine ⟨g-1,_,by go_num,hb.1,by have:=HQ.out;omega,KD.out.exit (by rw [<- EH.out];exact bW HI.out.1 hg1) hb.1 hb.2,by first | rfl | (simp only [World.drewN_drewN];rfl)⟩
  ·have hp:(g:Int)*(vn:Int)<=18446744065119617025:=lC g vn (by omega) B5;have hp0:0<=(g:Int)*(vn:Int):=Int.mul_nonneg (by omega) (by omega);by_cases ht:m<g*vn
   ·have ht':(m:Int)<(g:Int)*(vn:Int):=by rw [<- Int.natCast_mul];omega
    have HQ:=ab (KD.out.keep (by rw [<- EH.out];exact HI.out.1) (.inr (by rw [<- EM.out];exact ht)));have hg1:1<=g:=Nat.lt_of_le_of_lt (Nat.zero_le _) HQ.out;clear ht;by_cases hbr:r+vt<4294967296
    ·go_wp2;go_round
     case rel=>exact ⟨g-1,r+vt,by go_num,by go_num,hbr,by omega,bW HI.out.1 hg1,by have:=HQ.out;omega⟩
     case measure=>simp [intOf];omega
    ·go_wp2;go_ret;have hb:=KD.out.brk (by rw [<- EH.out];exact bW HI.out.1 hg1) (Nat.le_of_not_lt hbr);refine ⟨g-1,_,by go_num,hb.1,by have:=HQ.out;omega,KD.out.exit (by rw [<- EH.out];exact bW HI.out.1 hg1) hb.1 hb.2,by first | rfl | (simp only [World.drewN_drewN];rfl)⟩
   ·have ht':¬ (m:Int)<(g:Int)*(vn:Int):=by rw [<- Int.natCast_mul];omega
    have HT':=ab ht;clear ht;go_wp2;go_ret;refine ⟨g,_,rfl,by omega,HI.out.2,KD.out.exit (by rw [<- EH.out];exact HI.out.1) (by omega) (by have:=HT'.out;rw [<- EM.out];omega),by first | rfl | (simp only [World.drewN_drewN];rfl)⟩
def jd (w wr:World) (gu:Nat) (us vs:List Nat) (j g k c:Nat):Prop :=
 ∃ mid:List Nat,mid.length=k/\Sm mid/\ch wr gu (us.take j++mid++us.drop (j+k))/\w.grownBy wr (some gu)/\ak mid+g*ak (vs.take k)=ak ((us.drop j).take k)+4294967296^k*c
theorem mz {wr:World} {gu:Nat} {us mid:List Nat} {j k:Nat} (h3:ch wr gu (us.take j++mid++us.drop (j+k))) (h1:mid.length=k) (hj:j+k<us.length):wr.cell? ⟨gu,j+k,none⟩=some (.int .u32 (us[j+k]:Nat)):=by
 have hg:=mA us mid j k h1 hj;obtain ⟨h4,h5⟩:=List.getElem?_eq_some_iff.1 hg;have:=h3.cell (j+k) h4;rw [h5] at this;exact this
theorem jd.at {w wr:World} {gu:Nat} {us vs:List Nat} {j g k c:Nat} (h:jd w wr gu us vs j g k c) (hk:k<vs.length) (hj:j+k<us.length) :
  wr.cell? ⟨gu,j+k,none⟩=some (.int .u32 (us[j+k]:Nat))/\wr.frozen? ⟨gu,j+k,none⟩=false /\
  ∀ (x e v:Nat) (z:Int),z=(x:Int)->x<4294967296->v=vs[k]->x+(c+g*v) % 4294967296=us[j+k]+4294967296*e ->
   jd w (wr.setCell ⟨gu,j+k,none⟩ (.int .u32 z)) gu us vs j g (k+1) ((c+g*v) / 4294967296+e):=by
 obtain ⟨mid,h1,h2,h3,h4,h5⟩:=h;refine ⟨mz h3 h1 hj,h3.free _,?_⟩;intro x e v z hz hx hv hs;refine ⟨mid++[x],by simp [h1],h2.append (Sm.cons hx Sm.nil),?_,eD h4 gu _ _ rfl,?_⟩
 ·have:=h3.set (j+k) x;rw [iu us mid j k x h1 hj] at this;rw [hz];exact this
 ·rw [aO,h1,ay vs k hk,ay (us.drop j) k (by rw [List.length_drop];omega),List.getElem_drop,Nat.pow_succ,<- hv];have e1:=Nat.mod_add_div (c+g*v) 4294967296;generalize (c+g*v) % 4294967296=lo at hs e1;generalize (c+g*v) / 4294967296=hi at e1 ⊢;generalize us[j+k]=u at hs ⊢;generalize 4294967296^k=p at h5 ⊢;rw [Nat.mul_add g,Nat.mul_left_comm g p v];have e2:p*x+p*lo=p*u+p*(4294967296*e):=by
   rw [<- Nat.mul_add,<- Nat.mul_add,hs]
  have e3:p*lo+p*(4294967296*hi)=p*c+p*(g*v):=by
   rw [<- Nat.mul_add,<- Nat.mul_add,e1]
  rw [Nat.mul_assoc,Nat.mul_add 4294967296,Nat.mul_add p];omega
theorem jd.top {w wr:World} {gu:Nat} {us vs:List Nat} {j g c:Nat} (h:jd w wr gu us vs j g vs.length c) (hj:j+vs.length<us.length) :
  wr.cell? ⟨gu,j+vs.length,none⟩=some (.int .u32 (us[j+vs.length]:Nat))/\wr.frozen? ⟨gu,j+vs.length,none⟩=false /\
  ∀ (x e:Nat) (z:Int),z=(x:Int)->x<4294967296->x+c=us[j+vs.length]+4294967296*e ->
  ∃ W:List Nat,W.length=vs.length+1/\Sm W/\ch (wr.setCell ⟨gu,j+vs.length,none⟩ (.int .u32 z)) gu (us.take j++W++us.drop (j+(vs.length+1))) /\
   w.grownBy (wr.setCell ⟨gu,j+vs.length,none⟩ (.int .u32 z)) (some gu)/\ak W+g*ak vs=ak ((us.drop j).take (vs.length+1))+4294967296^(vs.length+1)*e/\W[vs.length]? = some x:=by
 obtain ⟨mid,h1,h2,h3,h4,h5⟩:=h;refine ⟨mz h3 h1 hj,h3.free _,?_⟩;intro x e z hz hx hs;refine ⟨mid++[x],by simp [h1],h2.append (Sm.cons hx Sm.nil),?_,eD h4 gu _ _ rfl,?_,by rw [List.getElem?_append_right (by omega)];simp [h1]⟩
 ·have:=h3.set (j+vs.length) x;rw [iu us mid j vs.length x h1 hj] at this;rw [hz];exact this
 ·rw [List.take_of_length_le (Nat.le_refl vs.length)] at h5;rw [aO,h1,ay (us.drop j) vs.length (by rw [List.length_drop];omega),List.getElem_drop,Nat.pow_succ];generalize us[j+vs.length]=u at hs ⊢;generalize 4294967296^vs.length=p at h5 ⊢;have e2:p*x+p*c=p*u+p*(4294967296*e):=by
   rw [<- Nat.mul_add,<- Nat.mul_add,hs]
  rw [Nat.mul_assoc p];omega
def AS (w w':World) (gu:Nat) (us vs:List Nat) (j g E:Nat):Prop :=
 ∃ W:List Nat,W.length=vs.length+1/\Sm W/\ch w' gu (us.take j++W++us.drop (j+(vs.length+1)))/\w.grownBy w' (some gu)/\ak W+g*ak vs=ak ((us.drop j).take (vs.length+1))+4294967296^(vs.length+1)*E
theorem qm (u lo:Nat) (hu:u<4294967296) (hlo:lo<4294967296):∃ x:Nat,IntKind.u32.wrap ((u:Int)-(lo:Int))=(x:Int)/\x<4294967296/\x+lo=u+4294967296*(if u<lo then 1 else 0):=by
 rw [IntKind.wrap_u32];by_cases h:u<lo
 ·exact ⟨4294967296+u-lo,by omega,by omega,by rw [if_pos h];omega⟩
 ·exact ⟨u-lo,by omega,by omega,by rw [if_neg h];omega⟩
def TakeR (w:World) (gu:Nat) (us vs:List Nat) (j g:Nat) (cv iv:Value) (wr:World):Prop :=
 ∃ k c:Nat,k<=vs.length/\c<4294967296/\iv=.int .i64 k/\cv=.int .u64 c/\Hid (jd w wr gu us vs j g k c)
def TakeE (w:World) (gu:Nat) (us vs:List Nat) (j g:Nat) (e:Ending) (w':World):Prop:=∃ E:Nat,E<=1/\e=.returned (.bool (E==1))/\AS w w' gu us vs j g E
theorem AD (g v c:Nat) (hg:g<4294967296) (hv:v<4294967296) (hc:c<4294967296):c+g*v<18446744069414584321:=by
 have:g*v<=4294967295*4294967295:=Nat.mul_le_mul (by omega) (by omega);omega
theorem vw (gu j cu:Nat) (us vs:List Nat) (yv:Value) (g:Nat) (w:World) (ha:ch w gu us) (hy:Ws w yv vs) (su:Sm us) (hne:az yv≠some gu) (hj:j+vs.length<us.length) (hg:g<4294967296) (hl:us.length<=10000000000001) (hc1:vs.length+1<=cu) (hc2:cu<=maxLen) (hv0:0<vs.length) :
  Calls Tryz.prog 193 #[.slice (some ⟨gu,j,none⟩) (vs.length+1) cu,yv,.int .u64 (g:Nat)] w fun e w'=>TakeE w gu us vs j g e w':=by
 obtain ⟨bo,cb,eb,hcb,hcb',Hb⟩:=hy.open;unfold maxLen at hc2 hcb';have HB:=ab Hb;have SB:=ab hy.sm;have SU:=ab su;have HA:=ab ha;have hgu:=ha.lt;subst eb;have HNE:=ab hne;clear Hb hy su ha hne;go_enter Tryz.func193,Tryz.ntmps193
 go_wp2;go_loopw [7,14] (fun cv iv wr=>TakeR w gu us vs j g cv iv wr) (fun _ iv _=>vs.length-(intOf iv).toNat)
 case atStart=>exact ⟨0,0,by omega,by omega,rfl,rfl,[],rfl,Sm.nil,by rw [List.append_nil,Nat.add_zero,List.take_append_drop];exact HA.out,ae _ _,by simp [ak]⟩
 case round =>
  obtain ⟨k,c,hk,hc,rfl,rfl,HI⟩:=hrel;by_cases hlt:k<vs.length
  ·obtain ⟨b,off,rfl,hbl,hcell⟩:=aG HB k hlt;have hv:=SB.out.get k hlt;have hbg:b≠gu:=by
    intro e;exact HNE.out (by rw [e];rfl)
   have hjk:j+k<us.length:=by omega
   obtain ⟨hcu,hfr,hstep⟩:=HI.out.at hlt hjk;have hu:=SU.out.get (j+k) hjk;have hgr:w.grownBy wr (some gu):=by obtain ⟨_,_,_,_,h4,_⟩:=HI.out;exact h4
   have hcv:=hgr.cell hcell (by show some b≠some gu;intro e;exact hbg (by simpa using e));obtain ⟨v,ev⟩:∃ v,v=vs[k]:=⟨_,rfl⟩;obtain ⟨u,eu⟩:∃ u,u=us[j+k]:=⟨_,rfl⟩;rw [<- ev] at hcv hv;rw [<- eu] at hcu hu;have hp:=AD g v c hg hv hc;obtain ⟨T,eT⟩:∃ T,T=c+g*v:=⟨_,rfl⟩;have eT':(c:Int)+(g:Int)*(v:Int)=(T:Int):=by rw [eT,Int.natCast_add,Int.natCast_mul]
   have hp0:(g:Int)*(v:Int)<=18446744065119617025:=lC g v hg hv;have hp1:0<=(g:Int)*(v:Int):=Int.mul_nonneg (by omega) (by omega);rw [<- eT] at hp;obtain ⟨x,hx1,hx2,hx3⟩:=qm u (T % 4294967296) hu (Nat.mod_lt _ (by decide));have HX:=ab hx1;have HST:Hid (∀ (e:Nat) (z:Int),z=(x:Int)->x+T % 4294967296=u+4294967296*e->jd w (wr.setCell ⟨gu,j+k,none⟩ (.int .u32 z)) gu us vs j g (k+1) (T / 4294967296+e)):=by
    intro e z hz hs;rw [eT] at hs ⊢;exact hstep x e v z hz hx2 ev (by rw [<- eu];exact hs)
   clear hstep ev eu eT HI hcell hx1 hgr HB;by_cases hul:u<T % 4294967296
   ·rw [if_pos hul] at hx3;have HX3:=ab hx3;clear hx3;go_wp2;go_roundw
    case rel=>exact ⟨k+1,T / 4294967296+1,by omega,by omega,by go_num,by go_num,HST.out 1 _ (by have:=HX3.out;omega) (by have:=HX3.out;omega)⟩
    case measure=>simp [intOf];omega
   ·rw [if_neg hul] at hx3;have HX3:=ab hx3;clear hx3;go_wp2;go_roundw
    case rel=>exact ⟨k+1,T / 4294967296+0,by omega,by omega,by go_num,by simp,HST.out 0 _ (by have:=HX3.out;omega) (by have:=HX3.out;omega)⟩
    case measure=>simp [intOf];omega
  ·obtain rfl:k=vs.length:=by omega
   obtain ⟨hcu,hfr,htop⟩:=HI.out.top hj;have hu:=SU.out.get (j+vs.length) hj;obtain ⟨u,eu⟩:∃ u,u=us[j+vs.length]:=⟨_,rfl⟩;rw [<- eu] at hcu hu;obtain ⟨x,hx1,hx2,hx3⟩:=qm u c hu hc;have HTOP:Hid (∀ (e:Nat) (z:Int),z=(x:Int)->x+c=u+4294967296*e->AS w (wr.setCell ⟨gu,j+vs.length,none⟩ (.int .u32 z)) gu us vs j g e):=by
    intro e z hz hs;obtain ⟨W,k1,k2,k3,k4,k5,_⟩:=htop x e z hz hx2 (by rw [<- eu];exact hs);exact ⟨W,k1,k2,k3,k4,k5⟩
   clear htop eu hx1 HI HB;by_cases hul:u<c
   ·rw [if_pos hul] at hx3;have HX3:=ab hx3;clear hx3;go_wp2;go_ret;exact ⟨1,by omega,rfl,HTOP.out 1 _ (by have:=HX3.out;omega) HX3.out⟩
   ·rw [if_neg hul] at hx3;have HX3:=ab hx3;clear hx3;go_wp2;go_ret;exact ⟨0,by omega,rfl,HTOP.out 0 _ (by have:=HX3.out;omega) HX3.out⟩
def ku (w wr:World) (gu:Nat) (us vs:List Nat) (j k c:Nat):Prop :=
 ∃ mid:List Nat,mid.length=k/\Sm mid/\ch wr gu (us.take j++mid++us.drop (j+k))/\w.grownBy wr (some gu)/\ak mid+4294967296^k*c=ak ((us.drop j).take k)+ak (vs.take k)
theorem ku.at {w wr:World} {gu:Nat} {us vs:List Nat} {j k c:Nat} (h:ku w wr gu us vs j k c) (hk:k<vs.length) (hj:j+k<us.length) :
  wr.cell? ⟨gu,j+k,none⟩=some (.int .u32 (us[j+k]:Nat))/\wr.frozen? ⟨gu,j+k,none⟩=false /\
  ∀ (z:Int),z=(((c+us[j+k]+vs[k]) % 4294967296:Nat):Int)->ku w (wr.setCell ⟨gu,j+k,none⟩ (.int .u32 z)) gu us vs j (k+1) ((c+us[j+k]+vs[k]) / 4294967296):=by
 obtain ⟨mid,h1,h2,h3,h4,h5⟩:=h;refine ⟨mz h3 h1 hj,h3.free _,?_⟩;intro z hz;refine ⟨mid++[(c+us[j+k]+vs[k]) % 4294967296],by simp [h1],h2.snoc _,?_,eD h4 gu _ _ rfl,?_⟩
 ·have:=h3.set (j+k) ((c+us[j+k]+vs[k]) % 4294967296);rw [iu us mid j k _ h1 hj] at this;rw [hz];exact this
 ·rw [oL mid k c us[j+k] vs[k] _ _ h1 h5,ay vs k hk,ay (us.drop j) k (by rw [List.length_drop];omega),List.getElem_drop]
theorem ku.top {w wr:World} {gu:Nat} {us vs:List Nat} {j c R:Nat} (h:ku w wr gu us vs j vs.length c) (hj:j+vs.length<us.length)
  (hW:ak ((us.drop j).take (vs.length+1))+ak vs=R+4294967296^(vs.length+1)) (hR:R<4294967296^vs.length) :
  wr.cell? ⟨gu,j+vs.length,none⟩=some (.int .u32 (us[j+vs.length]:Nat))/\wr.frozen? ⟨gu,j+vs.length,none⟩=false /\
  ∀ z:Int,z=(((us[j+vs.length]+c) % 4294967296:Nat):Int) ->
  ∃ W:List Nat,W.length=vs.length+1/\Sm W/\ch (wr.setCell ⟨gu,j+vs.length,none⟩ (.int .u32 z)) gu (us.take j++W++us.drop (j+(vs.length+1)))/\w.grownBy (wr.setCell ⟨gu,j+vs.length,none⟩ (.int .u32 z)) (some gu)/\ak W=R:=by
 obtain ⟨mid,h1,h2,h3,h4,h6⟩:=h;refine ⟨mz h3 h1 hj,h3.free _,?_⟩;intro z hz;rw [List.take_of_length_le (Nat.le_refl vs.length)] at h6;rw [ay (us.drop j) vs.length (by rw [List.length_drop];omega),List.getElem_drop,Nat.pow_succ] at hW;have hm:=bD h2;rw [h1] at hm;generalize us[j+vs.length]=x at hW hz;have hxc:x+c=4294967296/\ak mid=R:=by
  generalize 4294967296^vs.length=p at h6 hW hR hm;generalize ak ((us.drop j).take vs.length)=T at h6 hW;generalize ak vs=V at h6 hW;generalize ak mid=M at h6 hm ⊢;have e:M+p*(x+c)=R+p*4294967296:=by
   rw [Nat.mul_add];omega
  have hp:0<p:=by omega
  have e1:(M+p*(x+c)) / p=x+c:=by rw [Nat.add_mul_div_left _ _ hp,Nat.div_eq_of_lt hm,Nat.zero_add]
  have e2:(R+p*4294967296) / p=4294967296:=by rw [Nat.add_mul_div_left _ _ hp,Nat.div_eq_of_lt hR,Nat.zero_add]
  have e3:x+c=4294967296:=by rw [<- e1,e,e2]
  refine ⟨e3,?_⟩;rw [e3] at e;omega
 have hz0:(x+c) % 4294967296=0:=by rw [hxc.1]
 rw [hz0] at hz;refine ⟨mid++[0],by simp [h1],h2.append (Sm.cons (by decide) Sm.nil),?_,eD h4 gu _ _ rfl,by rw [aO,Nat.mul_zero,Nat.add_zero];exact hxc.2⟩;have:=h3.set (j+vs.length) 0;rw [iu us mid j vs.length 0 h1 hj] at this;rw [hz];exact this
def GiveR (w:World) (gu:Nat) (us vs:List Nat) (j:Nat) (cv iv:Value) (wr:World):Prop :=
 ∃ k c:Nat,k<=vs.length/\c<=1/\iv=.int .i64 k/\cv=.int .u64 c/\Hid (ku w wr gu us vs j k c)
def Given (w:World) (gu:Nat) (us vs:List Nat) (j R:Nat) (w':World):Prop :=
 ∃ W:List Nat,W.length=vs.length+1/\Sm W/\ch w' gu (us.take j++W++us.drop (j+(vs.length+1)))/\w.grownBy w' (some gu)/\ak W=R
theorem tW (gu j cu R:Nat) (us vs:List Nat) (yv:Value) (w:World) (ha:ch w gu us) (hy:Ws w yv vs) (su:Sm us) (hne:az yv≠some gu) (hj:j+vs.length<us.length) (hl:us.length<=10000000000001) (hc1:vs.length+1<=cu) (hc2:cu<=maxLen)
  (hW:ak ((us.drop j).take (vs.length+1))+ak vs=R+4294967296^(vs.length+1)) (hR:R<4294967296^vs.length) :
  Calls Tryz.prog 194 #[.slice (some ⟨gu,j,none⟩) (vs.length+1) cu,yv] w fun e w'=>e=.returned (.tuple #[])/\Given w gu us vs j R w':=by
 obtain ⟨bo,cb,eb,hcb,hcb',Hb⟩:=hy.open;unfold maxLen at hc2 hcb';have HB:=ab Hb;have SB:=ab hy.sm;have SU:=ab su;have HA:=ab ha;have HW:=ab hW;have HR:=ab hR;have hgu:=ha.lt;subst eb;have HNE:=ab hne;clear Hb hy su ha hne hW hR;go_enter Tryz.func194,Tryz.ntmps194
 go_wp2;go_loopw [4,9] (fun cv iv wr=>GiveR w gu us vs j cv iv wr) (fun _ iv _=>vs.length-(intOf iv).toNat)
 case atStart=>exact ⟨0,0,by omega,by omega,rfl,rfl,[],rfl,Sm.nil,by rw [List.append_nil,Nat.add_zero,List.take_append_drop];exact HA.out,ae _ _,by simp [ak]⟩
 case round =>
  obtain ⟨k,c,hk,hc,rfl,rfl,HI⟩:=hrel;by_cases hlt:k<vs.length
  ·obtain ⟨b,off,rfl,hbl,hcell⟩:=aG HB k hlt;have hv:=SB.out.get k hlt;have hbg:b≠gu:=by
    intro e;exact HNE.out (by rw [e];rfl)
   have hjk:j+k<us.length:=by omega
   obtain ⟨hcu,hfr,hstep⟩:=HI.out.at hlt hjk;have hu:=SU.out.get (j+k) hjk;have hgr:w.grownBy wr (some gu):=by obtain ⟨_,_,_,_,h4,_⟩:=HI.out;exact h4
   have hcv:=hgr.cell hcell (by show some b≠some gu;intro e;exact hbg (by simpa using e));generalize vs[k]=v at hcv hv hstep;generalize us[j+k]=u at hcu hu hstep;have HST:=ab hstep;clear hstep HI hcell hgr HB;go_wp2;go_roundw
   case rel=>exact ⟨k+1,(c+u+v) / 4294967296,by omega,by omega,by go_num,by go_num,HST.out _ (by omega)⟩
   case measure=>simp [intOf];omega
  ·obtain rfl:k=vs.length:=by omega
   obtain ⟨hcu,hfr,htop⟩:=HI.out.top hj HW.out HR.out;have hu:=SU.out.get (j+vs.length) hj;generalize us[j+vs.length]=u at hcu hu htop;have HTOP:=ab htop;clear htop HI HB;go_wp2;go_end0
   exact ⟨rfl,HTOP.out _ (by omega)⟩
end Go.Proofs.YthblidglcppakaaGreatDoor
