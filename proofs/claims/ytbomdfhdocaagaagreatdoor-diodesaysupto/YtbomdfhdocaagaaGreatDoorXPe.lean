/- Contracts. -/
import Derived.Test.YtbomdfhdocaagaaGreatDoorXPd
import Derived.Lib.ItoaMem
import Derived.Test.YtbomdfhdocaagaaGreatDoorXPp
namespace Go.Proofs.YtbomdfhdocaagaaGreatDoor
open Go.RowKit
set_option linter.all false
set_option maxHeartbeats 8000000
set_option maxRecDepth 10000
variable {w w':World} {L n b:Nat} {v:Value} {R:Nat->Rat} {cs:List Nat}
def oM (w wr:World) (xs ys:List Nat) (k c:Nat):Prop :=
 ∃ done:List Nat,done.length=k/\Sm done/\bZ wr w.heap.size (done++List.replicate (xs.length+1-k) 0)/\w.grownBy wr none/\ai done+4294967296^k*c=ai (xs.take k)+ai (ys.take k)
def EN (p c x y V X Y t q r:Nat) (h:V+p*c=X+Y) (a:t=c+x+y) (d:t=r+4294967296*q):V+p*r+p*4294967296*q=X+p*x+(Y+p*y):=by
 have e:p*t=p*r+p*4294967296*q:=by rw [d,Nat.mul_add,Nat.mul_assoc]
 have f:p*t=p*c+p*x+p*y:=by rw [a,Nat.mul_add,Nat.mul_add]
 omega
def oM.step {wr:World} {xs ys:List Nat} {k c:Nat} (h:oM w wr xs ys k c) (d:k<xs.length) (x y:Nat) (f:x=xs[k]) (hy:y=ys.getD k 0) (t:Nat) (z:Int) (g:t=c+x+y) (i:z=((t % 4294967296:Nat):Int)) :
  oM w (wr.setCell ⟨w.heap.size,k,none⟩ (.int .u32 z)) xs ys (k+1) (t / 4294967296):=by
 obtain ⟨done,a,j,l,m,o⟩:=h;refine ⟨done++[t % 4294967296],by simp [a],j.append (Sm.cons (Nat.mod_lt _ zD) Sm.nil),?_,ah m _ _ zL,?_⟩
 ·have:=l.set k (t % 4294967296);rw [dM _ _ _ _ a O] at this;rw [i,show xs.length+1-(k+1)=xs.length+1-k-1 from O];exact this
 ·rw [aR,a,au xs k d,<- f,cQ ys k,<- hy,Nat.pow_succ];have e:t=t % 4294967296+4294967296*(t / 4294967296):=O
  exact EN _ c x y _ _ _ t _ _ o g e
def PlusR (w:World) (xs ys:List Nat) (cv iv:Value) (wr:World):Prop:=∃ k c:Nat,k<=xs.length/\c<=1/\iv=.int .i64 k/\cv=.int .u64 (c:Nat)/\oM w wr xs ys k c
def Ca (J K:Value) (xs ys:List Nat) (w:World) (ha:Ws w J xs) (hb:Ws w K ys) (A:ys.length<=xs.length) (hl:xs.length<=10000000000000) :
  Calls Tryz.prog 170 #[J,K] w fun e w'=>rD w (ai xs+ai ys) (xs.length+1) e w':=by
 obtain ⟨ao,ca,rfl,hm,p,P⟩:=ha.open;obtain ⟨bo,cb,rfl,ho,q,Q⟩:=hb.open;unfold maxLen at p q;have V:=ab P;have W:=ab Q;have X:=ab ha.sm;have Y:=ab hb.sm;clear P ha Q hb;go_enter Tryz.func170,Tryz.ntmps170
 go_wp2_with (at_make;refine aE _ rfl _ _ 103 rfl Tryz.underlying103 Tryz.info32 _ _ _ _ (xs.length+1) rfl rfl O O O ?_)
 intro w1 i o;have HR:=ab i;have HG:=ab o;clear i o;go_wp2;go_loopw [6,22] (fun cv iv wr=>Hid (PlusR w xs ys cv iv wr)) (fun _ iv _=>xs.length-(intOf iv).toNat)
 case atStart=>exact ⟨0,0,Nat.zero_le _,O,rfl,rfl,[],rfl,Sm.nil,by simpa using HR.out,HG,by simp [ai]⟩
 case round =>
  obtain ⟨k,c,hk,hc,rfl,rfl,r⟩:=hrel.out;have t:=ab r;clear hrel r;by_cases hlt:k<xs.length
  ·obtain ⟨b',off,rfl,hp,d⟩:=aG V k hlt;have hx:=(aG X).get k hlt;obtain ⟨x,ex⟩:=eX (xs[k]);rw [<- ex] at d hx;have M:=ab ex;clear ex;obtain ⟨done,h,u,l,m,z⟩:=t.out;have he:wr.cell? ⟨b',off+k,none⟩=some (.int .u32 (x:Nat)):=m.cell d Z;have B:wr.frozen? ⟨w.heap.size,k,none⟩=false:=l.free k;obtain ⟨v0,G⟩:∃ v,wr.cell? ⟨w.heap.size,k,none⟩=some v:=⟨_,l.cell k (by simp [h];omega)⟩;have C:=ab m;clear h u l m z d;by_cases f:k<ys.length
   ·obtain ⟨H,s,rfl,S,a⟩:=aG W k f;have hy:=(aG Y).get k f;obtain ⟨y,I⟩:=eX (ys[k]);rw [<- I] at a hy;have D:Hid (y=ys.getD k 0):=by rw [I];show _=_;simp [f]
    have hf:wr.cell? ⟨H,s+k,none⟩=some (.int .u32 (y:Nat)):=C.out.cell a Z;clear I a;go_wp2;go_roundw
    case rel=>exact ⟨k+1,(c+x+y) / 4294967296,O,O,zN,zN,t.step hlt x y M D _ _ rfl O⟩
    case measure=>exact bH
   ·have D:Hid ((0:Nat)=ys.getD k 0):=by show _=_;simp [List.getD,show ¬ k<ys.length from f]
    go_wp2;go_roundw
    case rel=>exact ⟨k+1,(c+x) / 4294967296,O,O,zN,zN,t.step hlt x 0 M D _ _ Z O⟩
    case measure=>exact bH
  ·obtain rfl:k=xs.length:=O
   obtain ⟨done,h,u,l,m,z⟩:=t.out;have B:wr.frozen? ⟨w.heap.size,xs.length,none⟩=false:=l.free _;obtain ⟨v0,G⟩:∃ v,wr.cell? ⟨w.heap.size,xs.length,none⟩=some v:=⟨_,l.cell xs.length (by simp [h])⟩;have g:=l.set xs.length c;rw [dM _ _ _ _ h O,show xs.length+1-xs.length-1=0 from O,List.replicate_zero,List.append_nil] at g;have E:=g.ws (u.append (Sm.cons O Sm.nil)) (by simp [h];unfold maxLen;omega);rw [show (done++[c]).length=xs.length+1 from by simp [h]] at E;have HW:=ab E;have HV:Hid (ai (done++[c])=ai xs+ai ys):=by
    show _=_
    rw [aR,h,z,zT zL,zT A]
   have F:Hid ((done++[c]).length=xs.length+1):=by show _=_;simp [h]
   have H4:=ab (ah m ⟨w.heap.size,xs.length,none⟩ (.int .u32 (c:Nat)) zL);clear h u l m z g E;go_wp2_with fail;refine (fN _ (done++[c]) _ HW).mono ?_;rintro e w2 ⟨v',rfl,rfl,T,U⟩;have K1:=ab T;have K2:=ab U;clear T U;go_wp2;go_ret;refine ⟨v',rfl,?_,H4,?_⟩
   ·have:=K1.out;rw [HV,F] at this;exact this
   ·intro j N;rw [K2] at N;simp [ar] at N;omega
def yE (J K:Value) (xs ys:List Nat) (w:World) (ha:Ws w J xs) (hb:Ws w K ys) (A:ys.length<xs.length) (hl:xs.length<=10000000000000) :
  Calls Tryz.prog 170 #[K,J] w fun e w'=>rD w (ai xs+ai ys) (xs.length+1) e w':=by
 obtain ⟨ao,ca,rfl,hm,p,P⟩:=ha.open;obtain ⟨bo,cb,rfl,ho,q,Q⟩:=hb.open;unfold maxLen at p q;have V:=ab P;have W:=ab Q;have X:=ab ha.sm;have Y:=ab hb.sm;clear P ha Q hb;go_enter Tryz.func170,Tryz.ntmps170
 go_wp2_with (at_make;refine aE _ rfl _ _ 103 rfl Tryz.underlying103 Tryz.info32 _ _ _ _ (xs.length+1) rfl rfl O O O ?_)
 intro w1 i o;have HR:=ab i;have HG:=ab o;clear i o;go_wp2;go_loopw [6,22] (fun cv iv wr=>Hid (PlusR w xs ys cv iv wr)) (fun _ iv _=>xs.length-(intOf iv).toNat)
 case atStart=>exact ⟨0,0,Nat.zero_le _,O,rfl,rfl,[],rfl,Sm.nil,by simpa using HR.out,HG,by simp [ai]⟩
 case round =>
  obtain ⟨k,c,hk,hc,rfl,rfl,r⟩:=hrel.out;have t:=ab r;clear hrel r;by_cases hlt:k<xs.length
  ·obtain ⟨b',off,rfl,hp,d⟩:=aG V k hlt;have hx:=(aG X).get k hlt;obtain ⟨x,ex⟩:=eX (xs[k]);rw [<- ex] at d hx;have M:=ab ex;clear ex;obtain ⟨done,h,u,l,m,z⟩:=t.out;have he:wr.cell? ⟨b',off+k,none⟩=some (.int .u32 (x:Nat)):=m.cell d Z;have B:wr.frozen? ⟨w.heap.size,k,none⟩=false:=l.free k;obtain ⟨v0,G⟩:∃ v,wr.cell? ⟨w.heap.size,k,none⟩=some v:=⟨_,l.cell k (by simp [h];omega)⟩;have C:=ab m;clear h u l m z d;by_cases f:k<ys.length
   ·obtain ⟨H,s,rfl,S,a⟩:=aG W k f;have hy:=(aG Y).get k f;obtain ⟨y,I⟩:=eX (ys[k]);rw [<- I] at a hy;have D:Hid (y=ys.getD k 0):=by rw [I];show _=_;simp [f]
    have hf:wr.cell? ⟨H,s+k,none⟩=some (.int .u32 (y:Nat)):=C.out.cell a Z;clear I a;go_wp2;go_roundw
    case rel=>exact ⟨k+1,(c+x+y) / 4294967296,O,O,zN,zN,t.step hlt x y M D _ _ rfl O⟩
    case measure=>exact bH
   ·have D:Hid ((0:Nat)=ys.getD k 0):=by show _=_;simp [List.getD,show ¬ k<ys.length from f]
    go_wp2;go_roundw
    case rel=>exact ⟨k+1,(c+x) / 4294967296,O,O,zN,zN,t.step hlt x 0 M D _ _ Z O⟩
    case measure=>exact bH
  ·obtain rfl:k=xs.length:=O
   obtain ⟨done,h,u,l,m,z⟩:=t.out;have B:wr.frozen? ⟨w.heap.size,xs.length,none⟩=false:=l.free _;obtain ⟨v0,G⟩:∃ v,wr.cell? ⟨w.heap.size,xs.length,none⟩=some v:=⟨_,l.cell xs.length (by simp [h])⟩;have g:=l.set xs.length c;rw [dM _ _ _ _ h O,show xs.length+1-xs.length-1=0 from O,List.replicate_zero,List.append_nil] at g;have E:=g.ws (u.append (Sm.cons O Sm.nil)) (by simp [h];unfold maxLen;omega);rw [show (done++[c]).length=xs.length+1 from by simp [h]] at E;have HW:=ab E;have HV:Hid (ai (done++[c])=ai xs+ai ys):=by
    show _=_
    rw [aR,h,z,zT zL,zT (Nat.le_of_lt A)]
   have F:Hid ((done++[c]).length=xs.length+1):=by show _=_;simp [h]
   have H4:=ab (ah m ⟨w.heap.size,xs.length,none⟩ (.int .u32 (c:Nat)) zL);clear h u l m z g E;go_wp2_with fail;refine (fN _ (done++[c]) _ HW).mono ?_;rintro e w2 ⟨v',rfl,rfl,T,U⟩;have K1:=ab T;have K2:=ab U;clear T U;go_wp2;go_ret;refine ⟨v',rfl,?_,H4,?_⟩
   ·have:=K1.out;rw [HV,F] at this;exact this
   ·intro j N;rw [K2] at N;simp [ar] at N;omega
def EP (c d:Value) (m n L M:Nat) (w:World) (ha:aT w c m L) (hb:aT w d n M) (p:L+M<=10000000000000) :
  Calls Tryz.prog 170 #[c,d] w fun e w'=>rD w (m+n) (max L M+1) e w':=by
 obtain ⟨xs,j,q,k,r⟩:=ha;obtain ⟨ys,l,s,o,t⟩:=hb;by_cases h:ys.length<=xs.length
 ·refine (Ca c d xs ys w j l h O).mono ?_;rintro e w' ⟨f,rfl,a,g,i⟩;rw [k,o] at a;exact ⟨f,rfl,a.mono O,g,i⟩
 ·refine (yE d c ys xs w l j O O).mono ?_;rintro e w' ⟨f,rfl,a,g,i⟩;rw [k,o,Nat.add_comm] at a;exact ⟨f,rfl,a.mono O,g,i⟩
def MinusR (w:World) (v:Value) (xs ys:List Nat) (ov iv:Value) (wr:World):Prop :=
 ∃ (k o:Nat) (done:List Nat),k<=xs.length/\o<=1/\iv=.int .i64 k/\ov=.int .u32 (o:Nat)/\done.length=k/\Sm done/\gU wr w.heap.size v (done++xs.drop k)/\w.grownBy wr none/\ai done+ai (ys.take k)=ai (xs.take k)+4294967296^k*o
def jM (x t:Nat) (a:x<4294967296) (c:t<=4294967296) :
  ∃ r:Nat,IntKind.u32.wrap ((x:Int)-(t:Int) % 4294967296)=(r:Int)/\r<4294967296/\((x<t->r+t=x+4294967296)/\(¬ x<t->r+t=x)):=by
 rw [IntKind.wrap_u32];refine ⟨(((x:Int)-(t:Int) % 4294967296) % 4294967296).toNat,O,O,?_,?_⟩<;>intro h<;>omega
def jm (p V Y X y x r t o a:Nat) (h:V+Y=X+p*o) (c:t=o+y) (d:r+t=x+4294967296*a):V+p*r+(Y+p*y)=X+p*x+p*4294967296*a:=by
 have e:p*r+p*t=p*x+p*4294967296*a:=by rw [<- Nat.mul_add,d,Nat.mul_add,Nat.mul_assoc]
 have f:p*t=p*o+p*y:=by rw [c,Nat.mul_add]
 omega
def BM (done xs:List Nat) (k r:Nat) (a:done.length=k) (c:k<xs.length):(done++xs.drop k).set k r=(done++[r])++xs.drop (k+1):=by
 rw [List.set_append_right _ _ O,a,Nat.sub_self,List.drop_eq_getElem_cons c,List.set_cons_zero,List.append_assoc];rfl
def BJ (done xs:List Nat) (k:Nat) (a:done.length=k) (c:k<xs.length) (h:k<(done++xs.drop k).length):(done++xs.drop k)[k]=xs[k]:=by
 rw [List.getElem_append_right O];simp [a]
def Ej (va vb:Value) (xs ys:List Nat) (w:World) (ha:Ws w va xs) (hb:Ws w vb ys) (D:ys.length<=xs.length) (u:ai ys<=ai xs) (hl:xs.length<=10000000000000) :
  Calls Tryz.prog 171 #[va,vb] w fun e w'=>rD w (ai xs-ai ys) xs.length e w':=by
 obtain ⟨ao,ca,rfl,hs,H,Ha⟩:=ha.open;obtain ⟨bo,cb,rfl,hu,I,Hb⟩:=hb.open;unfold maxLen at H I;have WA:=ab ha;have HB:=ab Hb;have SA:=ab ha.sm;have SB:=ab hb.sm;have Q:=ab u;clear Ha ha Hb hb u;go_enter Tryz.func171,Tryz.ntmps171
 go_wp2_with fail;refine (jI _ xs w WA hl).mono ?_;rintro e w1 ⟨v,rfl,V,g1⟩;have O1:=ab V;have G1:=ab g1;obtain ⟨W,X,rfl,hA,Y,he⟩:=V.open;unfold maxLen at Y;clear V g1 he;go_wp2;go_loopw [6,13] (fun ov iv wr=>Hid (MinusR w (.slice W xs.length X) xs ys ov iv wr)) (fun _ iv _=>xs.length-(intOf iv).toNat)
 case atStart=>exact ⟨0,0,[],Nat.zero_le _,O,rfl,rfl,rfl,Sm.nil,by simpa using O1.out,G1,by simp [ai]⟩
 case round =>
  obtain ⟨k,o,done,hk,ho,rfl,rfl,h1,h2,N,h4,h5⟩:=hrel.out;have a:(done++xs.drop k).length=xs.length:=by simp [h1];omega
  have l:gU wr w.heap.size (.slice W (done++xs.drop k).length X) (done++xs.drop k):=by rw [a];exact N
  have i:=ab h1;have B:=ab h2;have S:=ab N;have C:=ab h4;have E:=ab h5;clear hrel h1 h2 h4 h5;by_cases hlt:k<xs.length
  ·obtain ⟨g,rfl⟩:∃ g,W=some ⟨g,0,none⟩:=by
    obtain ⟨hB,hf,e,_,_,h | ⟨g,h,_⟩⟩:=l.open
    ·rcases l.2 with ⟨_,P⟩ | ⟨g,hm,hC,e2,_⟩
     ·rw [a] at P;omega
     ·simp only [Value.slice.injEq] at e2;exact ⟨g,e2.1⟩
    ·simp only [Value.slice.injEq] at e;exact ⟨g,by rw [e.1];exact h⟩
   have F:=(aG SA).get k hlt;obtain ⟨q1,q2,q3⟩:=l.at k (by rw [a];exact hlt);rw [BJ done xs k i hlt] at q1;obtain ⟨x,ex⟩:=eX (xs[k]);rw [<- ex] at q1 F;have K:=ab ex;have M:Hid (∀ (r:Nat) (z:Int),z=(r:Int)->gU (wr.setCell ⟨g,k,none⟩ (.int .u32 z)) w.heap.size (.slice (some ⟨g,0,none⟩) xs.length X) ((done++[r])++xs.drop (k+1))):=by
    intro r z hz;have:=q3 r z hz;rw [BM done xs k r i hlt,a] at this;exact this
   have q:Hid (w.heap.size<=g):=by
    have:=S.out.fresh g rfl;exact this.1
   clear q3 ex l N a;by_cases f:k<ys.length
   ·obtain ⟨b2,J,rfl,hp,d⟩:=aG HB k f;have hy:=(aG SB).get k f;obtain ⟨y,ey⟩:=eX (ys[k]);rw [<- ey] at d hy;have G:Hid (y=ys.getD k 0):=by rw [ey];show _=_;simp [f]
    have hq:wr.cell? ⟨b2,J+k,none⟩=some (.int .u32 (y:Nat)):=C.out.cell d Z;clear ey d;by_cases m:x<o+y
    ·obtain ⟨r,r1,r2,s,t⟩:=jM x (o+y) F O;rw [Int.natCast_add] at r1;have p:r+(o+y)=x+4294967296*1:=by have:=s m;omega
     have c:=ab p;have A:=ab r1;clear s t p;go_wp2;go_roundw
     case rel =>
      refine ⟨k+1,1,done++[r],O,O,zN,rfl,by simp [i.out],B.append (Sm.cons r2 Sm.nil),M r _ (by first | exact r1 | rfl | (have:=c.out;omega)),ah C _ _ q,?_⟩;rw [aR,i,cQ ys k,au xs k hlt,<- K,<- G,Nat.pow_succ];exact jm _ _ _ _ y x r (o+y) o 1 E rfl c
     case measure=>exact bH
    ·obtain ⟨r,r1,r2,s,t⟩:=jM x (o+y) F O;rw [Int.natCast_add] at r1;have p:r+(o+y)=x+4294967296*0:=by have:=t m;omega
     have c:=ab p;have A:=ab r1;clear s t p;go_wp2;go_roundw
     case rel =>
      refine ⟨k+1,0,done++[r],O,O,zN,rfl,by simp [i.out],B.append (Sm.cons r2 Sm.nil),M r _ (by first | exact r1 | rfl | (have:=c.out;omega)),ah C _ _ q,?_⟩;rw [aR,i,cQ ys k,au xs k hlt,<- K,<- G,Nat.pow_succ];exact jm _ _ _ _ y x r (o+y) o 0 E rfl c
     case measure=>exact bH
   ·have G:Hid ((0:Nat)=ys.getD k 0):=by show _=_;simp [List.getD,show ¬ k<ys.length from f]
    by_cases m:x<o
    ·obtain ⟨r,r1,r2,s,t⟩:=jM x o F O;have p:r+o=x+4294967296*1:=by have:=s m;omega
     have c:=ab p;have A:=ab r1;clear s t p;go_wp2;go_roundw
     case rel =>
      refine ⟨k+1,1,done++[r],O,O,zN,rfl,by simp [i.out],B.append (Sm.cons r2 Sm.nil),M r _ (by first | exact r1 | rfl | (have:=c.out;omega)),ah C _ _ q,?_⟩;rw [aR,i,cQ ys k,au xs k hlt,<- K,<- G,Nat.pow_succ];exact jm _ _ _ _ 0 x r o o 1 E rfl c
     case measure=>exact bH
    ·obtain ⟨r,r1,r2,s,t⟩:=jM x o F O;have p:r+o=x+4294967296*0:=by have:=t m;omega
     have c:=ab p;have A:=ab r1;clear s t p;go_wp2;go_roundw
     case rel =>
      refine ⟨k+1,0,done++[r],O,O,zN,rfl,by simp [i.out],B.append (Sm.cons r2 Sm.nil),M r _ (by first | exact r1 | rfl | (have:=c.out;omega)),ah C _ _ q,?_⟩;rw [aR,i,cQ ys k,au xs k hlt,<- K,<- G,Nat.pow_succ];exact jm _ _ _ _ 0 x r o o 0 E rfl c
     case measure=>exact bH
  ·obtain rfl:k=xs.length:=O
   have hv:ai done=ai xs-ai ys:=by
    have h:=E.out;rw [zT zL,zT D] at h;have hd:=bD B;rw [i] at hd;have u:=Q.out;have:o=0:=by
     rcases zP o with P | P
     ·exact P
     ·have e:o=1:=O
      rw [e,Nat.mul_one] at h;omega
    rw [this,Nat.mul_zero] at h;omega
   have T:=S.out.ws (by rw [List.drop_of_length_le zL,List.append_nil];exact B);rw [List.drop_of_length_le zL,List.append_nil] at T;have HW:=ab T;have HV:=ab hv;have U:=ab (S.fresh);clear T hv N l a;go_wp2_with fail;refine (fN _ done _ HW).mono ?_;rintro e w2 ⟨v',rfl,rfl,k1,k2⟩;have K1:=ab k1;have K2:=ab k2;clear k1 k2;go_wp2;go_ret;refine ⟨v',rfl,?_,C,?_⟩
   ·have:=K1.out;rw [HV,i] at this;exact this
   ·intro j hj;rw [K2] at hj;exact (U j hj).1
def sd (a c:Value) (m n L M:Nat) (w:World) (ha:aT w a m L) (hb:aT w c n M) (i:n<=m) (r:L<=10000000000000) :
  Calls Tryz.prog 171 #[a,c] w fun e w'=>rD w (m-n) L e w':=by
 obtain ⟨xs,d,s,j,t⟩:=ha;obtain ⟨ys,f,k,l,u⟩:=hb;have h:=ma f.sm k d.sm O;refine (Ej a c xs ys w d f h O O).mono ?_;rintro e w' ⟨o,rfl,g,p,q⟩;rw [j,l] at g;exact ⟨o,rfl,g.mono O,p,q⟩
def nA (x:Value) (neg:Bool) (n d L:Nat) (w:World) (g:FV w x neg n d L) :
  Calls Tryz.prog 89 #[x] w fun e w'=>e=.returned (.bool (decide (n=0)))/\w.grownBy w' none:=by
 obtain ⟨l,f,m,k,o,p,rfl⟩:=g.shape;obtain ⟨up,h,e,i,_⟩:=g;simp only [Value.agg.injEq,Array.mk.injEq,List.cons.injEq,and_true,true_and] at e;obtain ⟨rfl,rfl⟩:=e;obtain ⟨q,r,s,j,u1,u2,u3⟩:=i.shape;simp only [Value.slice.injEq] at j;obtain ⟨rfl,rfl,rfl⟩:=j;unfold maxLen at u3;clear i;by_cases a:n=0
 ·have c:f=0:=u1.2 a;subst c;have hd:decide (n=0)=true:=decide_eq_true a;rw [hd];clear u1 a hd;go_enter Tryz.func89,Tryz.ntmps89
  go_wp2;go_ret;exact ⟨rfl,ag (ae _ _) _⟩
 ·have c:f≠0:=fun e=>a (u1.1 e)
  have hb:(((f:Nat):Int)==0)=false:=zB O;have hd:decide (n=0)=false:=decide_eq_false a;rw [hd];clear u1 a hd c;go_enter Tryz.func89,Tryz.ntmps89
  go_wp2;go_ret;exact ⟨by first | rfl | simp [hb],ag (ae _ _) _⟩
def oH (neg:Bool) (n:Nat):Bool:=!neg && !(decide (n=0))
def FV.opp {u:Value} {neg:Bool} {d:Nat} (h:FV w (.agg #[.bool neg,u,v]) neg n d L) (hg:w.grownBy w' none):FV w' (.agg #[.bool (oH neg n),u,v]) (oH neg n) n d L:=by
 obtain ⟨up,a,e,c,f,g,i⟩:=h.keep0 hg;simp only [Value.agg.injEq,Array.mk.injEq,List.cons.injEq,and_true,true_and] at e;obtain ⟨rfl,rfl⟩:=e;refine ⟨_,_,rfl,c,f,g,fun hb=>?_⟩;unfold oH at hb;simp at hb;omega
def vU (x:Value) (neg:Bool) (n d L:Nat) (w:World) (o:FV w x neg n d L) :
  Calls Tryz.prog 136 #[x] w fun e w'=>gQ w (oH neg n) n d L e w':=by
 have p:=ab o;obtain ⟨g,h,j,a,k,l,rfl⟩:=o.shape;clear o;obtain ⟨W,u⟩:=eX ((w.alloc (Obj.cells #[.bool neg,.slice g h j,.slice a k l] 105)).alloc (Obj.cells #[.bool false,.slice none 0 0,.slice none 0 0] 105));have z:Hid (w.grownBy W none):=by rw [u];exact ag (ag (ae _ _) _) _
 have c:Hid (∀ wx,W.grownBy wx none->(wx.cell? ⟨w.heap.size,0,none⟩=some (.bool neg)/\wx.cell? ⟨w.heap.size,1,none⟩=some (.slice g h j)/\wx.cell? ⟨w.heap.size,2,none⟩=some (.slice a k l)/\∀ i,wx.frozen? ⟨w.heap.size,i,none⟩=false)/\(wx.cell? ⟨w.heap.size+1,0,none⟩=some (.bool false)/\wx.cell? ⟨w.heap.size+1,1,none⟩=some (.slice none 0 0)/\wx.cell? ⟨w.heap.size+1,2,none⟩=some (.slice none 0 0)/\∀ i,wx.frozen? ⟨w.heap.size+1,i,none⟩=false)):=by
  intro wx hg;rw [u] at hg;have E:=aW (aa (ag (ae _ none) _) hg);have A:=aW hg;have F:(w.alloc (Obj.cells #[.bool neg,.slice g h j,.slice a k l] 105)).heap.size=w.heap.size+1:=Z
  rw [F] at A;exact ⟨E,A⟩
 cases neg with
 | true =>
  obtain ⟨⟨s0,s1,s2,m⟩,⟨C,r1,r2,f⟩⟩:=c.out W (ae _ _);have q:=m 0;have r:=f 0;have s:=f 1;have t:=f 2;clear m f;go_enter Tryz.func136,Tryz.ntmps136
  go_wp2;refine bodyPost_ret (v:=.agg #[.bool (oH true n),.slice g h j,.slice a k l]) (by simp [results,Tryz.results136,go_sem,oH]) rfl ?_;exact ⟨_,rfl,p.opp (ag (ag (ae _ _) _) _),ag (ag (ae _ _) _) _⟩
 | false =>
  have hb:oH false n = !(decide (n=0)):=by simp [oH]
  go_enter Tryz.func136,Tryz.ntmps136
  go_wp2_with fail;rw [<- u];refine (nA _ false n d L W (p.keep0 z)).mono ?_;rintro e D ⟨rfl,y⟩;obtain ⟨⟨s0,s1,s2,m⟩,⟨C,r1,r2,f⟩⟩:=c.out D y;have q:=m 0;have r:=f 0;have s:=f 1;have t:=f 2;have G:=ab (aa z y);clear m f y;go_wp2;refine bodyPost_ret (v:=.agg #[.bool (oH false n),.slice g h j,.slice a k l]) (by simp [results,Tryz.results136,go_sem,C,r1,r2,oH]) rfl ?_;have B:w.grownBy ((((D.setCell ⟨w.heap.size,0,none⟩ (.bool (!(decide (n=0))))).setCell ⟨w.heap.size+1,0,none⟩ (.bool (!(decide (n=0))))).setCell ⟨w.heap.size+1,1,none⟩ (.slice g h j)).setCell ⟨w.heap.size+1,2,none⟩ (.slice a k l)) none:=ah (ah (ah (ah G _ _ Z) _ _ Z) _ _ Z) _ _ Z;exact ⟨_,rfl,p.opp B,B⟩
def FU (x y:Value) (d f:Bool) (a g c i:Nat) (w:World) (r:aT w x a g) (hy:aT w y c i) (K:g+i<=10000000000000) :
  Calls Tryz.prog 132 #[.bool d,x,.bool f,y] w fun e w'=>∃ v,e=.returned (.tuple #[.bool (km d a f c),v])/\aT w' v (iX d a f c) (max g i+1)/\w.grownBy w' none:=by
 have z:=ab r;have A:=ab hy;obtain ⟨T,U,V,rfl,_⟩:=r.shape;obtain ⟨W,X,Y,rfl,_⟩:=hy.shape;clear r hy;by_cases hb:d=f
 ·have k:km d a f c=d:=by unfold km;rw [if_pos hb]
  have l:iX d a f c=a+c:=by unfold iX;rw [if_pos hb]
  rw [k,l];clear k l;have E:(d==f)=true:=by simp [hb]
  clear hb;go_enter Tryz.func132,Tryz.ntmps132
  go_wp2_with fail;refine (EP _ _ a c g i _ z A K).mono ?_;rintro e H ⟨u,rfl,j,m,_⟩;have s:=ab j;have t:=ab m;clear j m;go_wp2;exact bodyPost_ret (v:=.tuple #[.bool d,u]) (by simp [results,Tryz.results132,go_sem]) rfl ⟨u,rfl,s,t⟩
 ·have E:(d==f)=false:=by simp [hb]
  by_cases hlt:a<c
  ·have k:km d a f c=f:=by unfold km;rw [if_neg hb,if_pos hlt]
   have l:iX d a f c=c-a:=by unfold iX;rw [if_neg hb,if_pos hlt]
   rw [k,l];clear k l hb;have p:=ab hlt;have C:gZ a c = -1:=by unfold gZ;rw [if_pos hlt]
   clear hlt;go_enter Tryz.func132,Tryz.ntmps132
   go_wp2_with fail;refine (jJ _ _ a c g i _ z A).mono ?_;rintro e H ⟨rfl,q,rfl⟩;rw [C];clear C;go_wp2_with fail;refine (sd _ _ c a i g _ (A.keep0 (aS q)) (z.keep0 (aS q)) (Nat.le_of_lt p) O).mono ?_;rintro e Q ⟨u,rfl,j,m,_⟩;have s:=ab (j.mono (show i<=max g i+1 by omega));have t:=ab (aa (aS q) m);clear j m;go_wp2;exact bodyPost_ret (v:=.tuple #[.bool f,u]) (by simp [results,Tryz.results132,go_sem]) rfl ⟨u,rfl,s,t⟩
  ·have k:km d a f c=(d && decide (0<a-c)):=by unfold km;rw [if_neg hb,if_neg hlt]
   have l:iX d a f c=a-c:=by unfold iX;rw [if_neg hb,if_neg hlt]
   rw [k,l];clear k l hb;have p:Hid (c<=a):=by show c<=a;omega
   have C:0<=gZ a c:=by unfold gZ;rw [if_neg hlt];split<;>decide
   obtain ⟨o,D⟩:=eX (gZ a c);have M:o<=1:=by rw [D];unfold gZ;rw [if_neg hlt];split<;>decide
   rw [<- D] at C;have N:=ab D;clear hlt D;have P:(decide (o<0))=false:=decide_eq_false O;go_enter Tryz.func132,Tryz.ntmps132
   go_wp2_with fail;refine (jJ _ _ a c g i _ z A).mono ?_;rintro e H ⟨rfl,q,rfl⟩;rw [<- N];go_wp2_with fail;refine (sd _ _ a c g i _ (z.keep0 (aS q)) (A.keep0 (aS q)) p O).mono ?_;rintro e Q ⟨u,rfl,j,m,_⟩;obtain ⟨I,B,J,rfl,G,x2,S⟩:=j.shape;unfold maxLen at S;have s:=ab (j.mono (show g<=max g i+1 by omega));have t:=ab (aa (aS q) m);have r:decide (0<a-c)=decide ((0:Int)<(B:Nat)):=by
    rw [decide_eq_decide];constructor
    ·intro h;have:B≠0:=fun e=>by have:=G.1 e;omega
     omega
    ·intro h;have:a-c≠0:=fun e=>by have:=G.2 e;omega
     omega
   have F:=ab r;clear j m G r;cases d with
   | false =>
    go_wp2;exact bodyPost_ret (v:=.tuple #[.bool false,.slice I B J]) (by simp [results,Tryz.results132,go_sem]) rfl ⟨_,rfl,s,t⟩
   | true =>
    go_wp2;refine bodyPost_ret (v:=.tuple #[.bool (decide ((0:Int)<(B:Nat))),.slice I B J]) (by first | (simp [results,Tryz.results132,go_sem];done) | (simp [results,Tryz.results132,go_sem];rfl)) rfl ⟨_,?_,s,t⟩;rw [Bool.true_and,F]
def An (b1:Bool) (n1 d1:Nat) (b2:Bool) (n2 d2:Nat):Bool×Nat×Nat :=
 bn (EK b1 n1 d1 b2 n2 d2) (j8 b1 n1 d1 b2 n2 d2 / Nat.gcd (j8 b1 n1 d1 b2 n2 d2) (Nat.gcd d1 d2)) (d1 / Nat.gcd d1 d2*(d2 / Nat.gcd (j8 b1 n1 d1 b2 n2 d2) (Nat.gcd d1 d2)))
def qw (y C m K:Option Addr) (z A D E F I M N:Nat) (q r:Bool) (S X s P J p:Nat) (w:World) (hx:FV w (.agg #[.bool q,.slice y z A,.slice m F I]) q S X s) (hy:FV w (.agg #[.bool r,.slice C D E,.slice K M N]) r P J p) (hl:s+p<=4000000000000)
  (hwh:∀ wx:World,(Calls Tryz.prog 131 #[.agg #[.bool q,.slice y z A,.slice m F I]] wx fun e w'=>e=.returned (.bool false)/\wx.grownBy w' none)∨((Calls Tryz.prog 131 #[.agg #[.bool q,.slice y z A,.slice m F I]] wx fun e w'=>e=.returned (.bool true)/\wx.grownBy w' none)/\∀ wx:World,Calls Tryz.prog 131 #[.agg #[.bool r,.slice C D E,.slice K M N]] wx fun e w'=>e=.returned (.bool false)/\wx.grownBy w' none)) :
  Calls Tryz.prog 85 #[.agg #[.bool q,.slice y z A,.slice m F I],.agg #[.bool r,.slice C D E,.slice K M N]] w fun e w'=>gQ w (An q S X r P J).1 (An q S X r P J).2.1 (An q S X r P J).2.2 (s+p+2) e w':=by
 have HX:=ab hx;have HY:=ab hy;obtain ⟨hw,hC⟩:=hx.down_le;obtain ⟨mc,hs⟩:=hy.down_le;have hE:=hx.cop;have hF:=hy.cop;have NX:Hid (aT w (.slice y z A) S s):=by
  obtain ⟨up,md,e,h1,_⟩:=hx;simp only [Value.agg.injEq,Array.mk.injEq,List.cons.injEq,and_true,true_and] at e;rw [e.1];exact h1
 have NY:Hid (aT w (.slice C D E) P p):=by
  obtain ⟨up,md,e,h1,_⟩:=hy;simp only [Value.agg.injEq,Array.mk.injEq,List.cons.injEq,and_true,true_and] at e;rw [e.1];exact h1
 clear hx hy;obtain ⟨G,eG⟩:=eX (Nat.gcd X J);have hG:0<G:=by rw [eG];exact Nat.gcd_pos_of_pos_left _ hw
 obtain ⟨Q,hu⟩:=eX (X / G);obtain ⟨Y1,hv⟩:=eX (J / G);obtain ⟨T,eT⟩:=eX (iX q (S*Y1) r (P*Q));obtain ⟨B,eB⟩:=eX (km q (S*Y1) r (P*Q));obtain ⟨H,eH⟩:=eX (Nat.gcd T G);have hH:0<H:=by rw [eH];exact Nat.gcd_pos_of_pos_right _ hG
 obtain ⟨U,eU⟩:=eX (T / H);obtain ⟨V,eV⟩:=eX (J / H);have qo:Q<4294967296^(s+1):=by rw [hu];exact nI (Nat.le_trans (Nat.div_le_self _ _) hC)
 have mm:Y1<4294967296^(p+1):=by rw [hv];exact nI (Nat.le_trans (Nat.div_le_self _ _) hs)
 have hV:V<4294967296^(p+1):=by rw [eV];exact nI (Nat.le_trans (Nat.div_le_self _ _) hs)
 have qq:An q S X r P J=bn B U (Q*V):=by rw [eB,eU,eV,eH,eT,hu,hv,eG];rfl
 obtain ⟨hV0,hD⟩:0<Q*V/\(U=0∨Nat.gcd U (Q*V)=1):=by
  rw [eU,eV,eH,eT,hu,hv,eG];exact ⟨(vZ q r hE hF hw mc).1,.inr (vZ q r hE hF hw mc).2⟩
 have qs:=ab hD;have EG:=ab eG;have mo:=ab hu;have mp:=ab hv;have ET:=ab eT;have EB:=ab eB;have EH:=ab eH;have EU:=ab eU;have EV:=ab eV;rw [qq];clear qq hD eG hu hv eT eB eH eU eV hE hF hC hs;obtain ⟨W,hW⟩:=eX (((w.alloc (Obj.cells #[.bool q,.slice y z A,.slice m F I] 105)).alloc (Obj.cells #[.bool r,.slice C D E,.slice K M N] 105)).alloc (Obj.cells #[.bool false,.slice none 0 0,.slice none 0 0] 105));have GW:Hid (w.grownBy W none):=by rw [hW];exact ag (ag (ag (ae _ _) _) _) _
 have NW:Hid (∀ wx,W.grownBy wx none->bR wx (w.heap.size+1+1)):=by
  intro wx hg;rw [hW] at hg;have:=bF hg;simpa using this
 have a:Hid (∀ wx,W.grownBy wx none->(wx.cell? ⟨w.heap.size,0,none⟩=some (.bool q)/\wx.cell? ⟨w.heap.size,1,none⟩=some (.slice y z A)/\wx.cell? ⟨w.heap.size,2,none⟩=some (.slice m F I))/\(wx.cell? ⟨w.heap.size+1,0,none⟩=some (.bool r)/\wx.cell? ⟨w.heap.size+1,1,none⟩=some (.slice C D E)/\wx.cell? ⟨w.heap.size+1,2,none⟩=some (.slice K M N))/\(wx.cell? ⟨w.heap.size+1+1,0,none⟩=some (.bool false)/\wx.cell? ⟨w.heap.size+1+1,1,none⟩=some (.slice none 0 0)/\wx.cell? ⟨w.heap.size+1+1,2,none⟩=some (.slice none 0 0))/\∀ i,wx.frozen? ⟨w.heap.size+1+1,i,none⟩=false):=by
  intro wx hg;rw [hW] at hg;have a1:=aH (aa (ag (ag (ae _ none) _) _) hg);have a2:=aH (w:=w.alloc (Obj.cells #[.bool q,.slice y z A,.slice m F I] 105)) (aa (ag (ae _ none) _) hg);have a3:=aW hg;have e3:((w.alloc (Obj.cells #[.bool q,.slice y z A,.slice m F I] 105)).alloc (Obj.cells #[.bool r,.slice C D E,.slice K M N] 105)).heap.size=w.heap.size+1+1:=Z
  rw [e3] at a3;refine ⟨a1,by simpa using a2,?_,?_⟩
  ·exact ⟨a3.1,a3.2.1,a3.2.2.1⟩
  ·exact a3.2.2.2
 obtain ⟨⟨s0,s1,s2⟩,⟨t0,t1,t2⟩,⟨r0,r1,r2⟩,rf⟩:=a.out W (ae _ _);clear rf;have Hm:¬ w.heap.size+1+1=w.heap.size:=O
 have Hn:¬ w.heap.size=w.heap.size+1+1:=O
 have Ho:¬ w.heap.size+1+1=w.heap.size+1:=O
 have ms:=ab hwh;clear hwh;go_enter Tryz.func85,Tryz.ntmps85
 go_upto_region 1 with fail;rw [<- hW];clear hW;go_cut [18] (fun s18 wx=>Hid (s18=.bool false/\W.grownBy wx none))
 case first =>
  go_wp2_with fail;rcases ms.out W with h | ⟨h,h2⟩
  ·refine h.mono ?_;rintro e w1 ⟨rfl,g1⟩;go_wp2_with fail;go_meet
   exact ⟨rfl,g1⟩
  ·refine h.mono ?_;rintro e w1 ⟨rfl,g1⟩;obtain ⟨⟨a0,a1,a2⟩,⟨a3,a4,a5⟩,_⟩:=a.out w1 g1;go_wp2_with fail;refine (h2 _).mono ?_;rintro e w2 ⟨rfl,g2⟩;go_wp2_with fail;go_meet
   exact ⟨rfl,aa g1 g2⟩
 case rest =>
  obtain ⟨rfl,GG⟩:=hcut.out;clear hcut s0 s1 s2 t0 t1 t2 r0 r1 r2;obtain ⟨⟨s0,s1,s2⟩,⟨s3,s4,s5⟩,_⟩:=a.out wc GG;go_wp2;go_cut [7] (fun s7 wx=>Hid (W.grownBy wx none/\(∃ o l c,s7=.slice o l c)/\aT wx s7 G (s+p+1)))
  case first =>
   go_region_held3 (fun w'=>w'.cell? ⟨w.heap.size,0,none⟩=some (.bool q)/\w'.cell? ⟨w.heap.size,1,none⟩=some (.slice y z A)/\w'.cell? ⟨w.heap.size,2,none⟩=some (.slice m F I)/\w'.cell? ⟨w.heap.size+1,0,none⟩=some (.bool r)/\w'.cell? ⟨w.heap.size+1,1,none⟩=some (.slice C D E)/\w'.cell? ⟨w.heap.size+1,2,none⟩=some (.slice K M N)) (go_keep)
    (first | (go_at_call_of 101 (Value.agg #[.bool q,.slice y z A,.slice m F I]);refine (fK _ q S X s _ (HX.keep0 (aa GW zF))).mono ?_;rintro e wa ⟨va,rfl,pa,ga⟩;obtain ⟨ao,al,ac,rfl,_,_,_⟩:=pa.shape;have d:=aa zQ ga;have GG:W.grownBy wa none:=aa zF ga;(try have pb:=pb.keep0 d);(try have k:=k.keep0 d);clear d;obtain ⟨⟨hI,hJ,hK⟩,⟨hL,hM,hN⟩,⟨hQ,hR,hS⟩,f⟩:=a.out wa GG;have Y:=f 0;have he:=f 1;have hf:=f 2;clear f) | (go_at_call_of 101 (Value.agg #[.bool r,.slice C D E,.slice K M N]);refine (fK _ r P J p _ (HY.keep0 (aa GW zF))).mono ?_;rintro e wb ⟨vb,rfl,pb,gb⟩;obtain ⟨bo,bl,bc,rfl,_,_,_⟩:=pb.shape;have d:=aa zQ gb;have GG:W.grownBy wb none:=aa zF gb;(try have pa:=pa.keep0 d);(try have k:=k.keep0 d);clear d;obtain ⟨⟨hT,hX,hY⟩,⟨ka,kb,kf⟩,⟨kk,kw,kz⟩,g⟩:=a.out wb GG;have hj:=g 0;have hk:=g 1;have hm:=g 2;clear g) | (go_at_call 133;refine (oO _ _ X J (s+p+1) _ ((pa.keep0 zQ).mono O) ((pb.keep0 zQ).mono O) (.inl hw) O).mono ?_;rintro e wx ⟨vx,rfl,k,gx⟩;rw [<- EG] at k;obtain ⟨xo,xl,xc,rfl,_,_,_⟩:=k.shape;have d:=aa zQ gx;have GG:W.grownBy wx none:=aa zF gx;(try have pa:=pa.keep0 d);(try have pb:=pb.keep0 d);clear d;obtain ⟨⟨kF,kH,kN⟩,⟨kS,qa,qb⟩,⟨qc,qf,ql⟩,j⟩:=a.out wx GG;have hp:=j 0;have hq:=j 1;have hr:=j 2;clear j))
   all_goals (go_wp2_with fail;go_meet;exact ⟨zF,⟨_,_,_,rfl⟩,(k.keep0 zQ)⟩)
  case rest =>
   clear GG s0 s1 s2 s3 s4 s5;obtain ⟨GG,⟨go,gl,gc,rfl⟩,S7⟩:=hcut.out;clear hcut;obtain ⟨⟨s0,s1,s2⟩,⟨s3,s4,s5⟩,_⟩:=a.out wc GG;go_wp2;go_cut [8,9] (fun s8 s9 wx=>Hid (W.grownBy wx none/\(∃ o l c,s8=.slice o l c)/\(∃ o l c,s9=.slice o l c)/\aT wx s8 Q (s+p+1)/\aT wx s9 Y1 (s+p+1)/\aT wx (.slice go gl gc) G (s+p+1)))
   case first =>
    go_region_held3 (fun w'=>w'.cell? ⟨w.heap.size,0,none⟩=some (.bool q)/\w'.cell? ⟨w.heap.size,1,none⟩=some (.slice y z A)/\w'.cell? ⟨w.heap.size,2,none⟩=some (.slice m F I)/\w'.cell? ⟨w.heap.size+1,0,none⟩=some (.bool r)/\w'.cell? ⟨w.heap.size+1,1,none⟩=some (.slice C D E)/\w'.cell? ⟨w.heap.size+1,2,none⟩=some (.slice K M N)) (go_keep)
     (first | (go_at_call_of 101 (Value.agg #[.bool q,.slice y z A,.slice m F I]);refine (fK _ q S X s _ (HX.keep0 (aa GW zF))).mono ?_;rintro e wa ⟨va,rfl,pa,ga⟩;obtain ⟨ao,al,ac,rfl,_,_,_⟩:=pa.shape;have d:=aa zQ ga;have GG:W.grownBy wa none:=aa zF ga;(try have pb:=pb.keep0 d);(try have k:=k.keep0 d);(try have x:=x.keep0 d);(try have S7:=S7.keep0 d);clear d;obtain ⟨⟨hI,hJ,hK⟩,⟨hL,hM,hN⟩,⟨hQ,hR,hS⟩,f⟩:=a.out wa GG;have Y:=f 0;have he:=f 1;have hf:=f 2;clear f) | (go_at_call_of 101 (Value.agg #[.bool r,.slice C D E,.slice K M N]);refine (fK _ r P J p _ (HY.keep0 (aa GW zF))).mono ?_;rintro e wb ⟨vb,rfl,pb,gb⟩;obtain ⟨bo,bl,bc,rfl,_,_,_⟩:=pb.shape;have d:=aa zQ gb;have GG:W.grownBy wb none:=aa zF gb;(try have pa:=pa.keep0 d);(try have k:=k.keep0 d);(try have x:=x.keep0 d);(try have S7:=S7.keep0 d);clear d;obtain ⟨⟨hT,hX,hY⟩,⟨ka,kb,kf⟩,⟨kk,kw,kz⟩,g⟩:=a.out wb GG;have hj:=g 0;have hk:=g 1;have hm:=g 2;clear g) | (go_at_call_of 134 (Value.slice ao al ac);refine (gC _ _ X G (s+p+1) _ ((pa.keep0 zQ).mono O) (S7.keep0 zQ) hG O).mono ?_;rintro e wx ⟨vx,rfl,k,gx⟩;rw [<- mo] at k;obtain ⟨xo,xl,xc,rfl,_,_,_⟩:=k.shape;have d:=aa zQ gx;have GG:W.grownBy wx none:=aa zF gx;(try have pa:=pa.keep0 d);(try have pb:=pb.keep0 d);(try have x:=x.keep0 d);(try have S7:=S7.keep0 d);clear d;obtain ⟨⟨kF,kH,kN⟩,⟨kS,qa,qb⟩,⟨qc,qf,ql⟩,j⟩:=a.out wx GG;have hp:=j 0;have hq:=j 1;have hr:=j 2;clear j) | (go_at_call_of 134 (Value.slice bo bl bc);refine (gC _ _ J G (s+p+1) _ ((pb.keep0 zQ).mono O) (S7.keep0 zQ) hG O).mono ?_;rintro e wy ⟨vy,rfl,x,gy⟩;rw [<- mp] at x;obtain ⟨yo,yl,yc,rfl,_,_,_⟩:=x.shape;have d:=aa zQ gy;have GG:W.grownBy wy none:=aa zF gy;(try have pa:=pa.keep0 d);(try have pb:=pb.keep0 d);(try have k:=k.keep0 d);(try have S7:=S7.keep0 d);clear d;obtain ⟨⟨mt,Ha,Hb⟩,⟨Hc,Hd,He⟩,⟨Hf,Hg,Hh⟩,u⟩:=a.out wy GG;have yn:=u 0;have yv:=u 1;have jg:=u 2;clear u))
    all_goals (go_wp2_with fail;go_meet;exact ⟨zF,⟨_,_,_,rfl⟩,⟨_,_,_,rfl⟩,(k.keep0 zQ),(x.keep0 zQ),(S7.keep0 zQ)⟩)
   case rest =>
    clear GG s0 s1 s2 s3 s4 s5 S7;obtain ⟨GG,⟨ho,Hi,hc,rfl⟩,⟨io,il,ic,rfl⟩,S8,S9,S7⟩:=hcut.out;clear hcut;obtain ⟨⟨s0,s1,s2⟩,⟨s3,s4,s5⟩,_⟩:=a.out wc GG;go_wp2;go_cut [10,11] (fun s10 s11 wx=>Hid (W.grownBy wx none/\s10=.bool B/\(∃ o l c,s11=.slice o l c)/\aT wx s11 T (s+p+2)/\aT wx (.slice go gl gc) G (s+p+1)/\aT wx (.slice ho Hi hc) Q (s+p+1)))
    case first =>
     go_region_held3 (fun w'=>w'.cell? ⟨w.heap.size,0,none⟩=some (.bool q)/\w'.cell? ⟨w.heap.size,1,none⟩=some (.slice y z A)/\w'.cell? ⟨w.heap.size,2,none⟩=some (.slice m F I)/\w'.cell? ⟨w.heap.size+1,0,none⟩=some (.bool r)/\w'.cell? ⟨w.heap.size+1,1,none⟩=some (.slice C D E)/\w'.cell? ⟨w.heap.size+1,2,none⟩=some (.slice K M N)) (go_keep)
      (first | (go_at_call_of 100 (Value.slice y z A);refine (fg _ _ S Y1 s (p+1) _ (NX.keep0 (aa GW zF)) ((S9.keep0 zQ).tight mm) O).mono ?_;rintro e wa ⟨va,rfl,pa,ga,_⟩;obtain ⟨ao,al,ac,rfl,_,_,_⟩:=pa.shape;have d:=aa zQ ga;have GG:W.grownBy wa none:=aa zF ga;(try have pb:=pb.keep0 d);(try have k:=k.keep0 d);(try have S7:=S7.keep0 d);(try have S8:=S8.keep0 d);(try have S9:=S9.keep0 d);clear d;obtain ⟨⟨hI,hJ,hK⟩,⟨hL,hM,hN⟩,⟨hQ,hR,hS⟩,f⟩:=a.out wa GG;have Y:=f 0;have he:=f 1;have hf:=f 2;clear f) | (go_at_call_of 100 (Value.slice C D E);refine (fg _ _ P Q p (s+1) _ (NY.keep0 (aa GW zF)) ((S8.keep0 zQ).tight qo) O).mono ?_;rintro e wb ⟨vb,rfl,pb,gb,_⟩;obtain ⟨bo,bl,bc,rfl,_,_,_⟩:=pb.shape;have d:=aa zQ gb;have GG:W.grownBy wb none:=aa zF gb;(try have pa:=pa.keep0 d);(try have k:=k.keep0 d);(try have S7:=S7.keep0 d);(try have S8:=S8.keep0 d);(try have S9:=S9.keep0 d);clear d;obtain ⟨⟨hT,hX,hY⟩,⟨ka,kb,kf⟩,⟨kk,kw,kz⟩,g⟩:=a.out wb GG;have hj:=g 0;have hk:=g 1;have hm:=g 2;clear g) | (go_at_call 132;refine (FU _ _ q r (S*Y1) (s+(p+1)) (P*Q) (p+(s+1)) _ (pa.keep0 zQ) (pb.keep0 zQ) O).mono ?_;rintro e wx ⟨vx,rfl,k,gx⟩;rw [<- ET] at k;rw [<- EB];obtain ⟨xo,xl,xc,rfl,_,_,_⟩:=k.shape;have d:=aa zQ gx;have GG:W.grownBy wx none:=aa zF gx;(try have pa:=pa.keep0 d);(try have pb:=pb.keep0 d);(try have S7:=S7.keep0 d);(try have S8:=S8.keep0 d);(try have S9:=S9.keep0 d);clear d;obtain ⟨⟨kF,kH,kN⟩,⟨kS,qa,qb⟩,⟨qc,qf,ql⟩,j⟩:=a.out wx GG;have hp:=j 0;have hq:=j 1;have hr:=j 2;clear j))
     all_goals (go_wp2_with fail;go_meet;exact ⟨zF,rfl,⟨_,_,_,rfl⟩,(k.keep0 zQ).mono O,(S7.keep0 zQ),(S8.keep0 zQ)⟩)
    case rest =>
     clear GG s0 s1 s2 s3 s4 s5 S7 S8 S9;obtain ⟨GG,rfl,⟨jo,jl,jc,rfl⟩,S11,S7,S8⟩:=hcut.out;clear hcut;obtain ⟨⟨s0,s1,s2⟩,⟨s3,s4,s5⟩,_⟩:=a.out wc GG;go_wp2_with fail;refine (oO _ _ T G (s+p+2) _ S11 (S7.mono O) (.inr hG) O).mono ?_;rintro e ml ⟨v12,rfl,hz,hA⟩;rw [<- EH] at hz;obtain ⟨ko,kl,kc,rfl,_,_,_⟩:=hz.shape;have t:=hz;have hB:=S11.keep0 hA;have jk:=S8.keep0 hA;have jp:W.grownBy ml none:=aa GG hA;clear GG s0 s1 s2 s3 s4 s5 S11 S7 S8 hA hz;have GG:=jp;have S11:=hB;have S8:=jk;clear jp hB jk;obtain ⟨⟨s0,s1,s2⟩,⟨s3,s4,s5⟩,_⟩:=a.out ml GG;go_wp2;go_region_held3 (fun w'=>w'.cell? ⟨w.heap.size,0,none⟩=some (.bool q)/\w'.cell? ⟨w.heap.size,1,none⟩=some (.slice y z A)/\w'.cell? ⟨w.heap.size,2,none⟩=some (.slice m F I)/\w'.cell? ⟨w.heap.size+1,0,none⟩=some (.bool r)/\w'.cell? ⟨w.heap.size+1,1,none⟩=some (.slice C D E)/\w'.cell? ⟨w.heap.size+1,2,none⟩=some (.slice K M N)) (go_keep)
      (first | (go_at_call_of 134 (Value.slice jo jl jc);refine (gC _ _ T H (s+p+2) _ (S11.keep0 zQ) ((t.keep0 zQ).mono O) hH O).mono ?_;rintro e wa ⟨va,rfl,pa,ga⟩;rw [<- EU] at pa;obtain ⟨ao,al,ac,rfl,_,_,_⟩:=pa.shape;have d:=aa zQ ga;have GG:W.grownBy wa none:=aa zF ga;(try have pb:=pb.keep0 d);(try have k:=k.keep0 d);(try have x:=x.keep0 d);(try have S11:=S11.keep0 d);(try have t:=t.keep0 d);(try have S8:=S8.keep0 d);clear d;obtain ⟨⟨hI,hJ,hK⟩,⟨hL,hM,hN⟩,⟨hQ,hR,hS⟩,f⟩:=a.out wa GG;have Y:=f 0;have he:=f 1;have hf:=f 2;clear f) | (go_at_call_of 101 (Value.agg #[.bool r,.slice C D E,.slice K M N]);refine (fK _ r P J p _ (HY.keep0 (aa GW zF))).mono ?_;rintro e wb ⟨vb,rfl,pb,gb⟩;obtain ⟨bo,bl,bc,rfl,_,_,_⟩:=pb.shape;have d:=aa zQ gb;have GG:W.grownBy wb none:=aa zF gb;(try have pa:=pa.keep0 d);(try have k:=k.keep0 d);(try have x:=x.keep0 d);(try have S11:=S11.keep0 d);(try have t:=t.keep0 d);(try have S8:=S8.keep0 d);clear d;obtain ⟨⟨hT,hX,hY⟩,⟨ka,kb,kf⟩,⟨kk,kw,kz⟩,g⟩:=a.out wb GG;have hj:=g 0;have hk:=g 1;have hm:=g 2;clear g) | (go_at_call_of 134 (Value.slice bo bl bc);refine (gC _ _ J H (s+p+2) _ ((pb.keep0 zQ).mono O) (t.keep0 zQ) hH O).mono ?_;rintro e wx ⟨vx,rfl,k,gx⟩;rw [<- EV] at k;obtain ⟨xo,xl,xc,rfl,_,_,_⟩:=k.shape;have d:=aa zQ gx;have GG:W.grownBy wx none:=aa zF gx;(try have pa:=pa.keep0 d);(try have pb:=pb.keep0 d);(try have x:=x.keep0 d);(try have S11:=S11.keep0 d);(try have t:=t.keep0 d);(try have S8:=S8.keep0 d);clear d;obtain ⟨⟨kF,kH,kN⟩,⟨kS,qa,qb⟩,⟨qc,qf,ql⟩,j⟩:=a.out wx GG;have hp:=j 0;have hq:=j 1;have hr:=j 2;clear j) | (go_at_call 100;refine (fg _ _ Q V (s+1) (p+1) _ ((S8.keep0 zQ).tight qo) ((k.keep0 zQ).tight hV) O).mono ?_;rintro e wy ⟨vy,rfl,x,gy,_⟩;obtain ⟨yo,yl,yc,rfl,_,_,_⟩:=x.shape;have d:=aa zQ gy;have GG:W.grownBy wy none:=aa zF gy;(try have pa:=pa.keep0 d);(try have pb:=pb.keep0 d);(try have k:=k.keep0 d);(try have S11:=S11.keep0 d);(try have t:=t.keep0 d);(try have S8:=S8.keep0 d);clear d;obtain ⟨⟨mt,Ha,Hb⟩,⟨Hc,Hd,He⟩,⟨Hf,Hg,Hh⟩,u⟩:=a.out wy GG;have yn:=u 0;have yv:=u 1;have jg:=u 2;clear u) | (go_at_call 135;refine (kX _ _ _ U (Q*V) (s+p+2) _ (pa.keep0 zQ) ((x.keep0 zQ).mono O) hV0 qs).mono ?_;rintro e wf ⟨v6,rfl,f1,f2⟩;obtain ⟨fo,fl,fc,Hj,Hk,Hl,rfl⟩:=f1.shape;have GG:W.grownBy wf none:=aa zF f2;obtain ⟨⟨g0,g1,g2⟩,⟨g3,g4,g5⟩,⟨g6,g7,g8⟩,gf⟩:=a.out wf GG;have Hp:=gf 0;have Hq:=gf 1;have Hr:=gf 2;clear gf))
     all_goals
      have F1:=ab f1;have jv:=ab GG;clear f1 f2;go_wp2;refine bodyPost_ret (v:=.agg #[.bool (bn B U (Q*V)).1,.slice fo fl fc,.slice Hj Hk Hl]) (by first | (simp [results,Tryz.results85,go_sem,g6,g7,g8];done) | (simp [results,Tryz.results85,go_sem,g6,g7,g8];rfl)) rfl ?_;exact ⟨_,rfl,F1.other (NW wf jv) bI,ah (ah (ah (aa GW jv) _ _ (by simp;omega)) _ _ (by simp;omega)) _ _ (by simp;omega)⟩
def wB (h m:Option Addr) (j k o p:Nat) (c d:Bool) (f q g r:Nat) (w:World) (E:aT w (.slice h j k) f q) (hy:aT w (.slice m o p) g r) (s:c=true->0<f) (t:d=true->0<g) (hl:q+r<=4000000000000) :
  Calls Tryz.prog 85 #[.agg #[.bool c,.slice h j k,.slice none 0 0],.agg #[.bool d,.slice m o p,.slice none 0 0]] w fun e w'=>gQ w (km c f d g) (iX c f d g) 1 (q+r+2) e w':=by
 have V:=ab E;have X:=ab hy;have Y:=ab (AH c f d g s t);clear E hy s t;obtain ⟨W,u⟩:=eX (((w.alloc (Obj.cells #[.bool c,.slice h j k,.slice none 0 0] 105)).alloc (Obj.cells #[.bool d,.slice m o p,.slice none 0 0] 105)).alloc (Obj.cells #[.bool false,.slice none 0 0,.slice none 0 0] 105));have z:Hid (w.grownBy W none):=by rw [u];exact ag (ag (ag (ae _ _) _) _) _
 have NW:Hid (∀ wx,W.grownBy wx none->bR wx (w.heap.size+1+1)):=by
  intro wx hg;rw [u] at hg;have:=bF hg;simpa using this
 have a:Hid (∀ wx,W.grownBy wx none->(wx.cell? ⟨w.heap.size,0,none⟩=some (.bool c)/\wx.cell? ⟨w.heap.size,1,none⟩=some (.slice h j k)/\wx.cell? ⟨w.heap.size,2,none⟩=some (.slice none 0 0))/\(wx.cell? ⟨w.heap.size+1,0,none⟩=some (.bool d)/\wx.cell? ⟨w.heap.size+1,1,none⟩=some (.slice m o p)/\wx.cell? ⟨w.heap.size+1,2,none⟩=some (.slice none 0 0))/\(wx.cell? ⟨w.heap.size+1+1,0,none⟩=some (.bool false)/\wx.cell? ⟨w.heap.size+1+1,1,none⟩=some (.slice none 0 0)/\wx.cell? ⟨w.heap.size+1+1,2,none⟩=some (.slice none 0 0))/\∀ i,wx.frozen? ⟨w.heap.size+1+1,i,none⟩=false):=by
  intro wx hg;rw [u] at hg;have F:=aH (aa (ag (ag (ae _ none) _) _) hg);have G:=aH (w:=w.alloc (Obj.cells #[.bool c,.slice h j k,.slice none 0 0] 105)) (aa (ag (ae _ none) _) hg);have l:=aW hg;have e3:((w.alloc (Obj.cells #[.bool c,.slice h j k,.slice none 0 0] 105)).alloc (Obj.cells #[.bool d,.slice m o p,.slice none 0 0] 105)).heap.size=w.heap.size+1+1:=Z
  rw [e3] at l;refine ⟨F,by simpa using G,?_,?_⟩
  ·exact ⟨l.1,l.2.1,l.2.2.1⟩
  ·exact l.2.2.2
 obtain ⟨⟨s0,s1,s2⟩,⟨t0,t1,t2⟩,⟨r0,r1,r2⟩,rf⟩:=a.out W (ae _ _);clear rf;have H:¬ w.heap.size+1+1=w.heap.size:=O
 have I:¬ w.heap.size=w.heap.size+1+1:=O
 have J:¬ w.heap.size+1+1=w.heap.size+1:=O
 go_enter Tryz.func85,Tryz.ntmps85
 go_wp2_with fail;rw [<- u];clear u;refine (cL _ _ _ _ _).mono ?_;rintro e w1 ⟨rfl,B⟩;have G1:=ab B;obtain ⟨⟨a0,F,G⟩,⟨l,a4,a5⟩,_⟩:=a.out w1 B;clear B;go_wp2_with fail;refine (cL _ _ _ _ _).mono ?_;rintro e w2 ⟨rfl,K⟩;have x:=ab (aa G1 K);obtain ⟨⟨c0,c1,c2⟩,⟨c3,c4,c5⟩,_⟩:=a.out w2 x;clear K;go_wp2_with fail;refine (FU _ _ c d f q g r _ (V.keep0 (aa z x)) (X.keep0 (aa z x)) O).mono ?_;rintro e C ⟨v3,rfl,D,M⟩;obtain ⟨N,P,Q,rfl,_,_,_⟩:=D.shape;have P1:=ab D;have A:=ab (aa x M);obtain ⟨⟨k0,k1,k2⟩,⟨k3,k4,k5⟩,⟨S,T,U⟩,y⟩:=a.out C A;have he:=y 0;have hf:=y 1;have hj:=y 2;clear y D M;go_wp2;refine bodyPost_ret (v:=.agg #[.bool (km c f d g),.slice N P Q,.slice none 0 0]) (by first | (simp [results,Tryz.results85,go_sem,S,T,U];done) | (simp [results,Tryz.results85,go_sem,S,T,U];rfl)) rfl ?_;refine ⟨_,rfl,?_,ah (ah (ah (aa z A) _ _ (by simp;omega)) _ _ (by simp;omega)) _ _ (by simp;omega)⟩;have hF:FV C (.agg #[.bool (km c f d g),.slice N P Q,.slice none 0 0]) (km c f d g) (iX c f d g) 1 (q+r+2) :=
  ⟨_,_,rfl,P1.mono O,.inl ⟨rfl,rfl⟩,Nat.gcd_one_right _,Y⟩
 exact hF.other (NW C A) bI
def yk {b:Bool} (h:b=true->0<n):bn b n 1=(b,n,1):=by
 unfold bn;by_cases a:n=0
 ·subst a;cases b
  ·rfl
  ·exact absurd (h rfl) O
 ·rw [if_neg O,Nat.gcd_one_right,Nat.div_one,Nat.div_one]
def mO (x y:Value) (p q:Rat) (a c:Nat) (w:World) (J:FQ w x p a) (hy:FQ w y q c) (i:a+c<=4000000000000) :
  Calls Tryz.prog 85 #[x,y] w fun e w'=>FQE w (p+q) (a+c+2) e w':=by
 have K:=J;have j:=hy;obtain ⟨up,M,rfl,N,m,h3,P⟩:=J;obtain ⟨T,o,rfl,Q,r,k3,S⟩:=hy;obtain ⟨s,t,u,rfl,_⟩:=N.shape;obtain ⟨z,A,B,rfl,_⟩:=Q.shape;rcases m with ⟨rfl,hd⟩ | ⟨m,hd⟩
 ·rcases r with ⟨rfl,kd⟩ | ⟨r,kd⟩
  ·refine (wB s z t u A B _ _ _ a _ c w N Q P S i).mono ?_;intro e w' h;have f:=yk (AH (rB p) (rN p) (rB q) (rN q) P S);refine gQ.q (b:=km (rB p) (rN p) (rB q) (rN q)) (n:=iX (rB p) (rN p) (rB q) (rN q)) (d:=1) ?_ (by rw [f];exact h);rw [AI,fC,fC,Rat.add_def',hd,kd];simp
  ·obtain ⟨C,g,D,rfl,f,E,F⟩:=r.shape;have k:0<g:=by
    rcases zP g with h | h
    ·have:=f.1 h;omega
    ·exact h
   refine (qw s z none C t u A B 0 0 g D _ _ _ _ a _ _ c w K j i (fun I=>.inr ⟨cL _ _ _ _ I,fun Y=>fO _ _ _ _ _ _ _ Y k E F⟩)).mono ?_;intro e w' h;exact gQ.q (Ao p q) h
 ·obtain ⟨G,H,U,rfl,f,E,F⟩:=m.shape;have l:0<H:=by
   rcases zP H with h | h
   ·have:=f.1 h;omega
   ·exact h
  obtain ⟨V,W,X,C,g,D,e⟩:=j.shape;simp only [Value.agg.injEq,Array.mk.injEq,List.cons.injEq,and_true,true_and] at e;obtain ⟨_,rfl⟩:=e;refine (qw s z G C t u A B H U g D _ _ _ _ a _ _ c w K j i (fun I=>.inl (fO _ _ _ _ _ _ _ I l E F))).mono ?_;intro e w' h;exact gQ.q (Ao p q) h
def ED (q:Rat):oH (rB q) (rN q)=rB (-q)/\rN (-q)=rN q/\(-q).den=q.den:=by
 refine ⟨?_,?_,rfl⟩
 ·unfold oH rB rN;rw [Rat.neg_num];by_cases h:q.num<0
  ·have a:¬ -q.num<0:=O
   simp [h,a];omega
  ·by_cases c:q.num=0
   ·simp [c]
   ·have a:-q.num<0:=O
    simp [h,a,c];omega
 ·unfold rN;rw [Rat.neg_num,Int.natAbs_neg]
def qOpp_at (x:Value) (q:Rat) (L:Nat) (w:World) (c:FQ w x q L) :
  Calls Tryz.prog 136 #[x] w fun e w'=>FQE w (-q) L e w':=by
 refine (vU x _ _ _ L w c).mono ?_;rintro e w' ⟨v,rfl,a,d⟩;refine ⟨v,rfl,?_,d⟩;obtain ⟨f,g,h⟩:=ED q;rw [f] at a;unfold FQ;rw [g,h];exact a
def bA (x:Value) (q:Rat) (L:Nat) (w:World) (a:FQ w x q L) :
  Calls Tryz.prog 89 #[x] w fun e w'=>e=.returned (.bool (decide (q=0)))/\w.grownBy w' none:=by
 refine (nA x _ _ _ L w a).mono ?_;rintro e w' ⟨rfl,c⟩;refine ⟨?_,c⟩;have:decide (rN q=0)=decide (q=0):=by
  rw [decide_eq_decide];exact ⟨E8,fun h=>by rw [h];rfl⟩
 rw [this]
def dK (x y:Value) (p q:Rat) (u h:Nat) (w:World) (H:FQ w x p u) (hy:FQ w y q h) (hl:u+h<=4000000000000) :
  Calls Tryz.prog 86 #[x,y] w fun e w'=>FQE w (p-q) (u+h+2) e w':=by
 have P:=ab H;have Q:=ab hy;obtain ⟨k,l,m,c,o,r,rfl⟩:=H.shape;obtain ⟨z,A,B,C,D,E,rfl⟩:=hy.shape;obtain ⟨s,d⟩:=eX (rB p);obtain ⟨F,f⟩:=eX (rB q);rw [<- d,<- f];rw [<- d] at P;rw [<- f] at Q;clear H hy d f;obtain ⟨W,t⟩:=eX (((w.alloc (Obj.cells #[.bool s,.slice k l m,.slice c o r] 105)).alloc (Obj.cells #[.bool F,.slice z A B,.slice C D E] 105)).alloc (Obj.cells #[.bool false,.slice none 0 0,.slice none 0 0] 105));have I:Hid (w.grownBy W none):=by rw [t];exact ag (ag (ag (ae _ _) _) _) _
 have NW:Hid (∀ wx,W.grownBy wx none->bR wx (w.heap.size+1+1)):=by
  intro wx hg;rw [t] at hg;have:=bF hg;simpa using this
 have a:Hid (∀ wx,W.grownBy wx none->(wx.cell? ⟨w.heap.size,0,none⟩=some (.bool s)/\wx.cell? ⟨w.heap.size,1,none⟩=some (.slice k l m)/\wx.cell? ⟨w.heap.size,2,none⟩=some (.slice c o r))/\(wx.cell? ⟨w.heap.size+1,0,none⟩=some (.bool F)/\wx.cell? ⟨w.heap.size+1,1,none⟩=some (.slice z A B)/\wx.cell? ⟨w.heap.size+1,2,none⟩=some (.slice C D E))/\(wx.cell? ⟨w.heap.size+1+1,0,none⟩=some (.bool false)/\wx.cell? ⟨w.heap.size+1+1,1,none⟩=some (.slice none 0 0)/\wx.cell? ⟨w.heap.size+1+1,2,none⟩=some (.slice none 0 0))/\∀ i,wx.frozen? ⟨w.heap.size+1+1,i,none⟩=false):=by
  intro wx hg;rw [t] at hg;have S:=aH (aa (ag (ag (ae _ none) _) _) hg);have T:=aH (w:=w.alloc (Obj.cells #[.bool s,.slice k l m,.slice c o r] 105)) (aa (ag (ae _ none) _) hg);have g:=aW hg;have e3:((w.alloc (Obj.cells #[.bool s,.slice k l m,.slice c o r] 105)).alloc (Obj.cells #[.bool F,.slice z A B,.slice C D E] 105)).heap.size=w.heap.size+1+1:=Z
  rw [e3] at g;refine ⟨S,by simpa using T,?_,?_⟩
  ·exact ⟨g.1,g.2.1,g.2.2.1⟩
  ·exact g.2.2.2
 obtain ⟨⟨s0,s1,s2⟩,⟨t0,t1,t2⟩,⟨r0,r1,r2⟩,rf⟩:=a.out W (ae _ _);clear rf;have U:¬ w.heap.size+1+1=w.heap.size:=O
 have V:¬ w.heap.size=w.heap.size+1+1:=O
 have X:¬ w.heap.size+1+1=w.heap.size+1:=O
 go_enter Tryz.func86,Tryz.ntmps86
 go_wp2;rw [<- t];clear t;have GG:W.grownBy W none:=ae _ _;go_region_held3 (fun w'=>w'.cell? ⟨w.heap.size,0,none⟩=some (.bool s)/\w'.cell? ⟨w.heap.size,1,none⟩=some (.slice k l m)/\w'.cell? ⟨w.heap.size,2,none⟩=some (.slice c o r)/\w'.cell? ⟨w.heap.size+1,0,none⟩=some (.bool F)/\w'.cell? ⟨w.heap.size+1,1,none⟩=some (.slice z A B)/\w'.cell? ⟨w.heap.size+1,2,none⟩=some (.slice C D E)) (go_keep)
  (first | (go_at_call 136;refine (qOpp_at _ q h _ (Q.keep0 (aa I zF))).mono ?_;rintro e Y ⟨va,rfl,pa,ga⟩;obtain ⟨ao,al,ac,bo,bl,bc,rfl⟩:=pa.shape;have GG:W.grownBy Y none:=aa zF ga;obtain ⟨⟨a0,S,T⟩,⟨g,a4,a5⟩,⟨a6,a7,a8⟩,G⟩:=a.out Y GG;have he:=G 0;have hf:=G 1;have hj:=G 2;clear G) | (go_at_call 85;refine (mO _ _ p (-q) u h _ (P.keep0 (aa I zF)) (pa.keep0 zQ) O).mono ?_;rintro e J ⟨v6,rfl,f1,f2⟩;obtain ⟨fo,fl,fc,K,M,N,rfl⟩:=f1.shape;have GG:W.grownBy J none:=aa zF f2;obtain ⟨⟨g0,g1,g2⟩,⟨g3,g4,g5⟩,⟨g6,g7,g8⟩,gf⟩:=a.out J GG;have hk:=gf 0;have hm:=gf 1;have ho:=gf 2;clear gf))
 all_goals
  have F1:=ab f1;have j:=ab GG;clear f1 f2;go_wp2;refine bodyPost_ret (v:=.agg #[.bool (rB (p + -q)),.slice fo fl fc,.slice K M N]) (by first | (simp [results,Tryz.results86,go_sem,g6,g7,g8];done) | (simp [results,Tryz.results86,go_sem,g6,g7,g8];rfl)) rfl ?_;rw [Rat.sub_eq_add_neg];exact ⟨_,rfl,FV.other F1 (NW J j) bI,ah (ah (ah (aa I j) _ _ (by simp;omega)) _ _ (by simp;omega)) _ _ (by simp;omega)⟩
def fBar_at (x:Value) (neg:Bool) (n d L:Nat) (w:World) (h:FV w x neg n d L) :
  Calls Tryz.prog 90 #[x] w fun e w'=>gQ w false d 1 (L+1) e w':=by
 have B:=ab h;obtain ⟨q,r,s,c,t,u,rfl⟩:=h.shape;clear h;obtain ⟨W,f⟩:=eX ((w.alloc (Obj.cells #[.bool neg,.slice q r s,.slice c t u] 105)).alloc (Obj.cells #[.bool false,.slice none 0 0,.slice none 0 0] 105));have m:Hid (w.grownBy W none):=by rw [f];exact ag (ag (ae _ _) _) _
 have a:Hid (∀ wx,W.grownBy wx none->(wx.cell? ⟨w.heap.size+1,0,none⟩=some (.bool false)/\wx.cell? ⟨w.heap.size+1,1,none⟩=some (.slice none 0 0)/\wx.cell? ⟨w.heap.size+1,2,none⟩=some (.slice none 0 0)/\∀ i,wx.frozen? ⟨w.heap.size+1,i,none⟩=false)):=by
  intro wx hg;rw [f] at hg;have o:=aW hg;have C:(w.alloc (Obj.cells #[.bool neg,.slice q r s,.slice c t u] 105)).heap.size=w.heap.size+1:=Z
  rw [C] at o;exact o
 have D:Hid (∀ wx,W.grownBy wx none->bR wx (w.heap.size+1)):=by
  intro wx hg;rw [f] at hg;have:=bF hg;simpa using this
 go_enter Tryz.func90,Tryz.ntmps90
 go_wp2_with fail;rw [<- f];refine (fK _ neg n d L W (B.keep0 m)).mono ?_;rintro e j ⟨v,rfl,k,l⟩;obtain ⟨y,z,A,rfl,_,_,_⟩:=k.shape;obtain ⟨J,r1,r2,g⟩:=a.out j l;have E:=g 0;have F:=g 1;have G:=g 2;have H:=ab k;have p:=ab l;clear g k l f;go_wp2;refine bodyPost_ret (v:=.agg #[.bool false,.slice y z A,.slice none 0 0]) (by simp [results,Tryz.results90,go_sem,J,r1,r2]) rfl ?_;refine ⟨_,rfl,?_,ah (ah (ah (aa m p) _ _ Z) _ _ Z) _ _ Z⟩;have I:FV j (.agg #[.bool false,.slice y z A,.slice none 0 0]) false d 1 (L+1):=⟨_,_,rfl,H,.inl ⟨rfl,rfl⟩,Z,Z⟩;exact I.other (D j p) bI
def SizeE (w:World) (L:Nat) (e:Ending) (w':World):Prop:=∃ k:Nat,e=.returned (.int .i64 (k:Nat))/\k<=64*L+64/\w.grownBy w' none
def DC (x:Value) (neg:Bool) (n d L:Nat) (w:World) (o:FV w x neg n d L) (r:L<=10000000000000) :
  Calls Tryz.prog 91 #[x] w fun e w'=>SizeE w L e w':=by
 obtain ⟨f,g,h,a,i,j,rfl⟩:=o.shape;have y:Hid (aT w (.slice f g h) n L):=by
  obtain ⟨up,k,e,t,_⟩:=o;simp only [Value.agg.injEq,Array.mk.injEq,List.cons.injEq,and_true,true_and] at e;rw [e.1];exact t
 have s:Hid (∃ m,aT w (.slice a i j) m L):=by
  obtain ⟨up,k,e,t,l,_⟩:=o;simp only [Value.agg.injEq,Array.mk.injEq,List.cons.injEq,and_true,true_and] at e;rw [e.2];rcases l with ⟨l,_⟩ | ⟨l,_⟩
  ·rw [l];exact ⟨0,[],Ws.nil _,rfl,rfl,Z⟩
  ·exact ⟨_,l⟩
 obtain ⟨m,u⟩:=s.out;have A:=ab u;clear o u s;obtain ⟨W,p⟩:=eX (w.alloc (Obj.cells #[.bool neg,.slice f g h,.slice a i j] 105));have q:Hid (w.grownBy W none):=by rw [p];exact ag (ae _ _) _
 have c:Hid (∀ wx,W.grownBy wx none->wx.cell? ⟨w.heap.size,1,none⟩=some (.slice f g h)/\wx.cell? ⟨w.heap.size,2,none⟩=some (.slice a i j)):=by
  intro wx hg;rw [p] at hg;exact (aH hg).2
 obtain ⟨s1,s2⟩:=c.out W (ae _ _);go_enter Tryz.func91,Tryz.ntmps91
 go_wp2;rw [<- p];clear p;go_region_held3 (fun w'=>w'.cell? ⟨w.heap.size,1,none⟩=some (.slice f g h)/\w'.cell? ⟨w.heap.size,2,none⟩=some (.slice a i j)) (go_keep)
  (first | (go_at_call_of 137 (Value.slice f g h);refine (mx _ n L _ (y.keep0 (aa q (by first | exact aa Gb (aS _) | exact aa Gb (ak (ae _ _) 1) | exact Gb | exact aa Ga (aS _) | exact aa Ga (ak (ae _ _) 1) | exact Ga | exact aS _ | exact ak (ae _ _) 1 | exact ae _ _))) r).mono ?_;rintro e F ⟨B,rfl,_,C,rfl⟩) | (go_at_call_of 137 (Value.slice a i j);refine (mx _ m L _ (A.keep0 (aa q (by first | exact aa Gb (aS _) | exact aa Gb (ak (ae _ _) 1) | exact Gb | exact aa Ga (aS _) | exact aa Ga (ak (ae _ _) 1) | exact Ga | exact aS _ | exact ak (ae _ _) 1 | exact ae _ _))) r).mono ?_;rintro e G ⟨D,rfl,_,E,rfl⟩))
 all_goals
  go_wp2;go_ret;exact ⟨B+D,congrArg (fun z=>Ending.returned (Value.int .i64 z)) (by first | omega | (rw [IntWalk.i64_in _ ⟨O,O⟩];omega)),O,aa q (by first | exact aa Gb (aS _) | exact aa Gb (ak (ae _ _) 1) | exact Gb | exact aa Ga (aS _) | exact aa Ga (ak (ae _ _) 1) | exact Ga | exact aS _ | exact ak (ae _ _) 1 | exact ae _ _)⟩
def wA (f m:Option Addr) (g h o p:Nat) (c d:Bool) (j r k s:Nat) (w:World) (E:aT w (.slice f g h) j r) (hy:aT w (.slice m o p) k s) (hl:r+s<=4000000000000) :
  Calls Tryz.prog 88 #[.agg #[.bool c,.slice f g h,.slice none 0 0],.agg #[.bool d,.slice m o p,.slice none 0 0]] w fun e w'=>gQ w (bn (c != d) j k).1 (bn (c != d) j k).2.1 (bn (c != d) j k).2.2 (r+s+2) e w':=by
 have T:=ab E;have U:=ab hy;clear E hy;obtain ⟨W,q⟩:=eX (((w.alloc (Obj.cells #[.bool c,.slice f g h,.slice none 0 0] 105)).alloc (Obj.cells #[.bool d,.slice m o p,.slice none 0 0] 105)).alloc (Obj.cells #[.bool false,.slice none 0 0,.slice none 0 0] 105));have x:Hid (w.grownBy W none):=by rw [q];exact ag (ag (ag (ae _ _) _) _) _
 have V:Hid (∀ wx,W.grownBy wx none->bR wx (w.heap.size+1+1)):=by
  intro wx hg;rw [q] at hg;have:=bF hg;simpa using this
 have a:Hid (∀ wx,W.grownBy wx none->(wx.cell? ⟨w.heap.size,0,none⟩=some (.bool c)/\wx.cell? ⟨w.heap.size,1,none⟩=some (.slice f g h)/\wx.cell? ⟨w.heap.size,2,none⟩=some (.slice none 0 0))/\(wx.cell? ⟨w.heap.size+1,0,none⟩=some (.bool d)/\wx.cell? ⟨w.heap.size+1,1,none⟩=some (.slice m o p)/\wx.cell? ⟨w.heap.size+1,2,none⟩=some (.slice none 0 0))/\(wx.cell? ⟨w.heap.size+1+1,0,none⟩=some (.bool false)/\wx.cell? ⟨w.heap.size+1+1,1,none⟩=some (.slice none 0 0)/\wx.cell? ⟨w.heap.size+1+1,2,none⟩=some (.slice none 0 0))/\∀ i,wx.frozen? ⟨w.heap.size+1+1,i,none⟩=false):=by
  intro wx hg;rw [q] at hg;have F:=aH (aa (ag (ag (ae _ none) _) _) hg);have G:=aH (w:=w.alloc (Obj.cells #[.bool c,.slice f g h,.slice none 0 0] 105)) (aa (ag (ae _ none) _) hg);have l:=aW hg;have X:((w.alloc (Obj.cells #[.bool c,.slice f g h,.slice none 0 0] 105)).alloc (Obj.cells #[.bool d,.slice m o p,.slice none 0 0] 105)).heap.size=w.heap.size+1+1:=Z
  rw [X] at l;refine ⟨F,by simpa using G,?_,?_⟩
  ·exact ⟨l.1,l.2.1,l.2.2.1⟩
  ·exact l.2.2.2
 obtain ⟨⟨s0,s1,s2⟩,⟨t0,t1,t2⟩,⟨r0,r1,r2⟩,rf⟩:=a.out W (ae _ _);clear rf;have H:¬ w.heap.size+1+1=w.heap.size:=O
 have I:¬ w.heap.size=w.heap.size+1+1:=O
 have J:¬ w.heap.size+1+1=w.heap.size+1:=O
 go_enter Tryz.func88,Tryz.ntmps88
 go_wp2_with fail;rw [<- q];clear q;refine (cL _ _ _ _ _).mono ?_;rintro e w1 ⟨rfl,z⟩;have Y:=ab z;obtain ⟨⟨a0,F,G⟩,⟨l,a4,a5⟩,_⟩:=a.out w1 z;clear z;go_wp2_with fail;refine (cL _ _ _ _ _).mono ?_;rintro e w2 ⟨rfl,K⟩;have t:=ab (aa Y K);obtain ⟨⟨c0,c1,c2⟩,⟨c3,c4,c5⟩,_⟩:=a.out w2 t;clear K;go_wp2_with fail;refine (nD _ _ _ j k (r+s+2) _ ((T.keep0 (aa x t)).mono O) ((U.keep0 (aa x t)).mono O) O).mono ?_;rintro e M ⟨v3,rfl,A,N⟩;obtain ⟨fo,fl,fc,B,C,D,rfl⟩:=A.shape;have P1:=ab A;have y:=ab (aa t N);obtain ⟨⟨k0,k1,k2⟩,⟨k3,k4,k5⟩,⟨P,Q,S⟩,u⟩:=a.out M y;have he:=u 0;have hf:=u 1;have hj:=u 2;clear u A N;go_wp2;refine bodyPost_ret (v:=.agg #[.bool (bn (c != d) j k).1,.slice fo fl fc,.slice B C D]) (by first | (simp [results,Tryz.results88,go_sem,P,Q,S];done) | (simp [results,Tryz.results88,go_sem,P,Q,S];rfl)) rfl ?_;exact ⟨_,rfl,P1.other (V M y) bI,ah (ah (ah (aa x y) _ _ (by simp;omega)) _ _ (by simp;omega)) _ _ (by simp;omega)⟩
def qv (k l c x:Option Addr) (m o p q r s y z:Nat) (f d:Bool) (D E P g j A:Nat) (w:World) (hx:FV w (.agg #[.bool f,.slice k m o,.slice c r s]) f D E P) (hy:FV w (.agg #[.bool d,.slice l p q,.slice x y z]) d g j A) (hn:0<g) (hl:P+A<=4000000000000)
  (hwh:∀ wx:World,(Calls Tryz.prog 131 #[.agg #[.bool f,.slice k m o,.slice c r s]] wx fun e w'=>e=.returned (.bool false)/\wx.grownBy w' none)∨((Calls Tryz.prog 131 #[.agg #[.bool f,.slice k m o,.slice c r s]] wx fun e w'=>e=.returned (.bool true)/\wx.grownBy w' none)/\∀ wx:World,Calls Tryz.prog 131 #[.agg #[.bool d,.slice l p q,.slice x y z]] wx fun e w'=>e=.returned (.bool false)/\wx.grownBy w' none)) :
  Calls Tryz.prog 88 #[.agg #[.bool f,.slice k m o,.slice c r s],.agg #[.bool d,.slice l p q,.slice x y z]] w fun e w'=>gQ w (bn (f != d) (D*j) (E*g)).1 (bn (f != d) (D*j) (E*g)).2.1 (bn (f != d) (D*j) (E*g)).2.2 (P+A+2) e w':=by
 have HX:=ab hx;have HY:=ab hy;have Q:=hy.down_le.1;have C:=hy.cop;have NY:Hid (aT w (.slice l p q) g A):=by
  obtain ⟨up,hu,e,h1,_⟩:=hy;simp only [Value.agg.injEq,Array.mk.injEq,List.cons.injEq,and_true,true_and] at e;rw [e.1];exact h1
 clear hx hy;have S:Hid (bn d j g=(d,j,g)):=by show _=_;exact og d j g Q hn (by rw [Nat.gcd_comm];exact C)
 have G:Hid (j=0∨Nat.gcd j g=1):=.inr (by rw [Nat.gcd_comm];exact C);have H:decide (g=0)=false:=decide_eq_false O;have T:=ab H;clear C H;obtain ⟨W,N⟩:=eX (((w.alloc (Obj.cells #[.bool f,.slice k m o,.slice c r s] 105)).alloc (Obj.cells #[.bool d,.slice l p q,.slice x y z] 105)).alloc (Obj.cells #[.bool false,.slice none 0 0,.slice none 0 0] 105));have I:Hid (w.grownBy W none):=by rw [N];exact ag (ag (ag (ae _ _) _) _) _
 have NW:Hid (∀ wx,W.grownBy wx none->bR wx (w.heap.size+1+1)):=by
  intro wx hg;rw [N] at hg;have:=bF hg;simpa using this
 have a:Hid (∀ wx,W.grownBy wx none->(wx.cell? ⟨w.heap.size,0,none⟩=some (.bool f)/\wx.cell? ⟨w.heap.size,1,none⟩=some (.slice k m o)/\wx.cell? ⟨w.heap.size,2,none⟩=some (.slice c r s))/\(wx.cell? ⟨w.heap.size+1,0,none⟩=some (.bool d)/\wx.cell? ⟨w.heap.size+1,1,none⟩=some (.slice l p q)/\wx.cell? ⟨w.heap.size+1,2,none⟩=some (.slice x y z))/\(wx.cell? ⟨w.heap.size+1+1,0,none⟩=some (.bool false)/\wx.cell? ⟨w.heap.size+1+1,1,none⟩=some (.slice none 0 0)/\wx.cell? ⟨w.heap.size+1+1,2,none⟩=some (.slice none 0 0))/\∀ i,wx.frozen? ⟨w.heap.size+1+1,i,none⟩=false):=by
  intro wx hg;rw [N] at hg;have a1:=aH (aa (ag (ag (ae _ none) _) _) hg);have a2:=aH (w:=w.alloc (Obj.cells #[.bool f,.slice k m o,.slice c r s] 105)) (aa (ag (ae _ none) _) hg);have F:=aW hg;have e3:((w.alloc (Obj.cells #[.bool f,.slice k m o,.slice c r s] 105)).alloc (Obj.cells #[.bool d,.slice l p q,.slice x y z] 105)).heap.size=w.heap.size+1+1:=Z
  rw [e3] at F;refine ⟨a1,by simpa using a2,?_,?_⟩
  ·exact ⟨F.1,F.2.1,F.2.2.1⟩
  ·exact F.2.2.2
 obtain ⟨⟨s0,s1,s2⟩,⟨t0,t1,t2⟩,⟨r0,r1,r2⟩,rf⟩:=a.out W (ae _ _);clear rf;have hf:¬ w.heap.size+1+1=w.heap.size:=O
 have hj:¬ w.heap.size=w.heap.size+1+1:=O
 have hk:¬ w.heap.size+1+1=w.heap.size+1:=O
 have U:=ab hwh;clear hwh;go_enter Tryz.func88,Tryz.ntmps88
 go_upto_region 1 with fail;rw [<- N];clear N;go_cut [10] (fun s10 wx=>Hid (s10=.bool false/\W.grownBy wx none))
 case first =>
  go_wp2_with fail;rcases U.out W with h | ⟨h,h2⟩
  ·refine h.mono ?_;rintro e w1 ⟨rfl,B⟩;go_wp2_with fail;go_meet
   exact ⟨rfl,B⟩
  ·refine h.mono ?_;rintro e w1 ⟨rfl,B⟩;obtain ⟨⟨a0,a1,a2⟩,⟨F,a4,a5⟩,_⟩:=a.out w1 B;go_wp2_with fail;refine (h2 _).mono ?_;rintro e w2 ⟨rfl,g2⟩;go_wp2_with fail;go_meet
   exact ⟨rfl,aa B g2⟩
 case rest =>
  obtain ⟨rfl,GG⟩:=hcut.out;clear hcut s0 s1 s2 t0 t1 t2 r0 r1 r2;obtain ⟨⟨s0,s1,s2⟩,⟨s3,s4,s5⟩,_⟩:=a.out wc GG;go_wp2_with fail;refine (nA _ d g j A _ (HY.keep0 (aa I GG))).mono ?_;rintro e w1 ⟨rfl,B⟩;rw [T];have J:W.grownBy w1 none:=aa GG B;clear GG s0 s1 s2 s3 s4 s5 B;have GG:=J;clear J;obtain ⟨⟨s0,s1,s2⟩,⟨s3,s4,s5⟩,_⟩:=a.out w1 GG;go_wp2;go_region_held3 (fun w'=>w'.cell? ⟨w.heap.size,0,none⟩=some (.bool f)/\w'.cell? ⟨w.heap.size,1,none⟩=some (.slice k m o)/\w'.cell? ⟨w.heap.size,2,none⟩=some (.slice c r s)/\w'.cell? ⟨w.heap.size+1,0,none⟩=some (.bool d)/\w'.cell? ⟨w.heap.size+1,1,none⟩=some (.slice l p q)/\w'.cell? ⟨w.heap.size+1,2,none⟩=some (.slice x y z)) (go_keep)
   (first | (go_at_call_of 101 (Value.agg #[.bool d,.slice l p q,.slice x y z]);refine (fK _ _ _ _ A _ (HY.keep0 (aa I zF))).mono ?_;rintro e wa ⟨va,rfl,pa,ga⟩;obtain ⟨ao,al,ac,rfl,_,_,_⟩:=pa.shape;have KP:=aa zQ ga;have GG:W.grownBy wa none:=aa zF ga;(try have K:=K.keep0 KP);clear KP;obtain ⟨⟨hA,hB,hC⟩,⟨hD,hE,hF⟩,⟨hG,hH,hI⟩,t⟩:=a.out wa GG;have hm:=t 0;have ho:=t 1;have hp:=t 2;clear t) | (go_at_call 135;refine (kX _ _ _ j g (A+1) _ (pa.keep0 zQ) ((NY.keep0 (aa I zF)).mono O) hn G).mono ?_;rintro e wx ⟨vx,rfl,K,gx⟩;rw [S] at K;obtain ⟨xo,xl,xc,yo,yl,yc,rfl⟩:=K.shape;have GG:W.grownBy wx none:=aa zF gx;obtain ⟨⟨hJ,hK,hL⟩,⟨hM,hN,hQ⟩,⟨hR,hS,hT⟩,u⟩:=a.out wx GG;have hq:=u 0;have hr:=u 1;have hs:=u 2;clear u) | (go_at_call 87;refine (rO _ _ f d D E P j g (A+1) _ (HX.keep0 (aa I zF)) (K.keep0 zQ) O).mono ?_;rintro e V ⟨v6,rfl,f1,f2⟩;obtain ⟨fo,fl,fc,X,Y,he,rfl⟩:=f1.shape;have GG:W.grownBy V none:=aa zF f2;obtain ⟨⟨g0,B,g2⟩,⟨g3,g4,g5⟩,⟨g6,g7,g8⟩,gf⟩:=a.out V GG;have hv:=gf 0;have hw:=gf 1;have hz:=gf 2;clear gf))
  all_goals
   have F1:=ab f1;have M:=ab GG;clear f1 f2;go_wp2;refine bodyPost_ret (v:=.agg #[.bool (bn (f != d) (D*j) (E*g)).1,.slice fo fl fc,.slice X Y he]) (by first | (simp [results,Tryz.results88,go_sem,g6,g7,g8];done) | (simp [results,Tryz.results88,go_sem,g6,g7,g8];rfl)) rfl ?_;exact ⟨_,rfl,F1.other (NW V M) bI,ah (ah (ah (aa I M) _ _ (by simp;omega)) _ _ (by simp;omega)) _ _ (by simp;omega)⟩
def qu (x y:Value) (p q:Rat) (c d:Nat) (w:World) (J:FQ w x p c) (hy:FQ w y q d) (Q:q≠0) (g:c+d<=4000000000000) :
  Calls Tryz.prog 88 #[x,y] w fun e w'=>FQE w (p / q) (c+d+2) e w':=by
 have K:=J;have i:=hy;have hn:0<rN q:=by have:=q_ne Q;omega
 have a:mkRat (gD (rB p != rB q) (rN p*q.den)) (p.den*rN q)=p / q:=by rw [Nat.mul_comm p.den];exact E6 p q
 obtain ⟨up,M,rfl,N,l,Y,h4⟩:=J;obtain ⟨S,m,rfl,P,o,k3,k4⟩:=hy;obtain ⟨r,s,t,rfl,_⟩:=N.shape;obtain ⟨u,z,A,rfl,_⟩:=P.shape;rcases l with ⟨rfl,hd⟩ | ⟨l,hd⟩
 ·rcases o with ⟨rfl,kd⟩ | ⟨o,kd⟩
  ·refine (wA r u s t z A _ _ _ c _ d w N P g).mono ?_;intro e w' h;rw [hd,kd,Nat.mul_one,Nat.one_mul] at a;exact gQ.q a h
  ·obtain ⟨B,f,C,rfl,D,E,F⟩:=o.shape;have j:0<f:=by
    rcases zP f with h | h
    ·have:=D.1 h;omega
    ·exact h
   refine (qv r u none B s t z A 0 0 f C _ _ _ _ c _ _ d w K i hn g (fun I=>.inr ⟨cL _ _ _ _ I,fun X=>fO _ _ _ _ _ _ _ X j E F⟩)).mono ?_;intro e w' h;exact gQ.q a h
 ·obtain ⟨G,H,T,rfl,D,E,F⟩:=l.shape;have k:0<H:=by
   rcases zP H with h | h
   ·have:=D.1 h;omega
   ·exact h
  obtain ⟨U,V,W,B,f,C,e⟩:=i.shape;simp only [Value.agg.injEq,Array.mk.injEq,List.cons.injEq,and_true,true_and] at e;obtain ⟨_,rfl⟩:=e;refine (qv r u G B s t z A H T f C _ _ _ _ c _ _ d w K i hn g (fun I=>.inl (fO _ _ _ _ _ _ _ I k E F))).mono ?_;intro e w' h;exact gQ.q a h
def qBar_at (x:Value) (q:Rat) (L:Nat) (w:World) (a:FQ w x q L) :
  Calls Tryz.prog 90 #[x] w fun e w'=>FQE w ((q.den:Nat):Rat) (L+1) e w':=by
 refine (fBar_at x _ _ _ L w a).mono ?_;rintro e w' ⟨v,rfl,g,h⟩;refine ⟨v,rfl,?_,h⟩;have c:rB ((q.den:Nat):Rat)=false:=by unfold rB;rw [Rat.num_natCast];exact decide_eq_false O
 have d:rN ((q.den:Nat):Rat)=q.den:=by unfold rN;rw [Rat.num_natCast];exact Int.natAbs_natCast _
 have f:((q.den:Nat):Rat).den=1:=Rat.den_natCast _;unfold FQ;rw [c,d,f];exact g
def aO (w w':World):Prop:=w.heap.size<=w'.heap.size/\∀ a (x:Nat),w.cell? a=some (.int .u32 (x:Nat))->w'.cell? a=some (.int .u32 (x:Nat))
def aO.refl (w:World):aO w w:=⟨zL,fun _ _ h=>h⟩
def aO.trans {w1 c:World} (h:aO w w1) (k:aO w1 c):aO w c:=⟨Nat.le_trans h.1 k.1,fun a x e=>k.2 a x (h.2 a x e)⟩
def bS {a:Addr} (h:w.cell? a=some v):a.block<w.heap.size:=by
 rcases Nat.lt_or_ge a.block w.heap.size with c | c
 ·exact c
 ·simp [World.cell?,Array.getElem?_eq_none c] at h
def aO.of_gr (h:w.grownBy w' none):aO w w' :=
 ⟨h.size,fun a x e=>by rw [World.cell?_of_block (h.block a.block (bS e) Z)];exact e⟩
def aT.kept (h:aT w v n L) (k:aO w w'):aT w' v n L:=by
 obtain ⟨xs,a,c,d,e⟩:=h;refine ⟨xs,⟨a.sm,?_⟩,c,d,e⟩;rcases a.sh with h | ⟨b,off,cap,rfl,hb,f,g,hc⟩
 ·exact .inl h
 ·exact .inr ⟨b,off,cap,rfl,Nat.lt_of_lt_of_le hb k.1,f,g,fun i hi=>k.2 _ _ (hc i hi)⟩
def FV.kept {neg:Bool} {d:Nat} (h:FV w v neg n d L) (k:aO w w'):FV w' v neg n d L:=by
 obtain ⟨up,a,e,f,c,g,i⟩:=h;refine ⟨up,a,e,f.kept k,?_,g,i⟩;rcases c with c | ⟨c,j⟩
 ·exact .inl c
 ·exact .inr ⟨c.kept k,j⟩
def FQ.kept {q:Rat} (h:FQ w v q L) (k:aO w w'):FQ w' v q L:=FV.kept h k
def aO.set {i:Nat} {a:Array Value} {e:TypeId} (hb:w.heap[b]? = some (.cells a e (0,0))) (hi:∀ x:Nat,a[i]?≠some (.int .u32 (x:Nat))) (v:Value):aO w (w.setCell ⟨b,i,none⟩ v):=by
 refine ⟨Z,?_⟩;rintro ⟨f,m,j⟩ x h;by_cases c:f=b
 ·subst c;have k:=heap_setCell_same w f i a e v hb;by_cases d:m=i
  ·subst d;cases j with
   | none =>
    simp only [World.cell?,hb] at h;exact absurd h (hi x)
   | some g=>simp [World.cell?,hb] at h
  ·cases j with
   | none =>
    simp only [World.cell?,hb] at h;simp only [World.cell?,k];rw [Array.getElem?_setIfInBounds_ne (fun e=>d e.symm)];exact h
   | some g=>simp [World.cell?,hb] at h
 ·have l:=heap_setCell_other w ⟨b,i,none⟩ f v c;rw [World.cell?_of_block l];exact h
def bh (L:Nat) (q:Rat):Prop:=rN q<4294967296^L/\q.den<4294967296^L
def FQ.tight {q:Rat} {L':Nat} (h:FQ w v q L) (k:bh L' q):FQ w v q L':=by
 obtain ⟨up,a,e,d,c,f,g⟩:=h;refine ⟨up,a,e,d.tight k.1,?_,f,g⟩;rcases c with c | ⟨c,i⟩
 ·exact .inl c
 ·exact .inr ⟨c.tight k.2,i⟩
def aJ (w:World) (b n:Nat) (R:Nat->Rat) (L:Nat):Prop :=
 ∃ cur e,w.heap[b]? = some (.cells cur e (0,0))/\∀ i,i<n->∃ u d,cur[i*3]? = some (.bool (rB (R i)))/\cur[i*3+1]? = some u/\cur[i*3+2]? = some d/\FQ w (.agg #[.bool (rB (R i)),u,d]) (R i) L
def aJ.lt (h:aJ w b n R L):b<w.heap.size:=by
 obtain ⟨a,e,hb,_⟩:=h;exact (zZ hb).1
def aJ.keep {r:Option Nat} (h:aJ w b n R L) (g:w.grownBy w' r) (k:aO w w') (c:some b≠r):aJ w' b n R L:=by
 have f:=h.lt;obtain ⟨a,e,hb,hc⟩:=h;refine ⟨a,e,by rw [g.block b f c];exact hb,fun i hi=>?_⟩;obtain ⟨u,d,c0,c1,c2,c3⟩:=hc i hi;exact ⟨u,d,c0,c1,c2,c3.kept k⟩
def aJ.keep0 (h:aJ w b n R L) (g:w.grownBy w' none):aJ w' b n R L:=h.keep g (aO.of_gr g) Z
def aJ.congr {R':Nat->Rat} (h:aJ w b n R L) (e:∀ i,i<n->R i=R' i):aJ w b n R' L:=by
 obtain ⟨a,c,hb,hc⟩:=h;refine ⟨a,c,hb,fun i hi=>?_⟩;rw [<- e i hi];exact hc i hi
def aJ.at (h:aJ w b n R L) (i:Nat) (hi:i<n) :
  ∃ uo ul uc do_ dl dc,w.cell? ⟨b,i*3,none⟩=some (.bool (rB (R i)))/\w.cell? ⟨b,i*3+1,none⟩=some (.slice uo ul uc)/\w.cell? ⟨b,i*3+2,none⟩=some (.slice do_ dl dc)
   /\ FQ w (.agg #[.bool (rB (R i)),.slice uo ul uc,.slice do_ dl dc]) (R i) L/\∀ k,w.frozen? ⟨b,k,none⟩=false:=by
 obtain ⟨c,e,hb,hc⟩:=h;obtain ⟨u,d,c0,c1,c2,c3⟩:=hc i hi;obtain ⟨uo,ul,uc,do_,dl,dc,a⟩:=c3.shape;simp only [Value.agg.injEq,Array.mk.injEq,List.cons.injEq,and_true,true_and] at a;obtain ⟨rfl,rfl⟩:=a;exact ⟨uo,ul,uc,do_,dl,dc,by simp only [World.cell?,hb];exact c0,by simp only [World.cell?,hb];exact c1,by simp only [World.cell?,hb];exact c2,c3,fun k=>by simp [World.frozen?,hb]⟩
def aN (R:Nat->Rat) (i:Nat) (q:Rat):Nat->Rat:=fun j=>if j=i then q else R j
def set3 {k:Nat} {a:Array Value} {e:TypeId} (hb:w.heap[b]? = some (.cells a e (0,0))) {c d f:Value} (c0:a[k]? = some c) (c1:a[k+1]? = some d) (c2:a[k+2]? = some f)
  (n0:∀ x:Nat,c≠.int .u32 (x:Nat)) (n1:∀ x:Nat,d≠.int .u32 (x:Nat)) (n2:∀ x:Nat,f≠.int .u32 (x:Nat)) (y0 y1 y2:Value) :
  ∃ cur',(((w.setCell ⟨b,k,none⟩ y0).setCell ⟨b,k+1,none⟩ y1).setCell ⟨b,k+2,none⟩ y2).heap[b]? = some (.cells cur' e (0,0))
   /\ cur'[k]? = some y0/\cur'[k+1]? = some y1/\cur'[k+2]? = some y2/\(∀ j,j≠k->j≠k+1->j≠k+2->cur'[j]? = a[j]?)
   /\ aO w (((w.setCell ⟨b,k,none⟩ y0).setCell ⟨b,k+1,none⟩ y1).setCell ⟨b,k+2,none⟩ y2):=by
 have l:=(zZ c0).1;have m:=(zZ c1).1;have o:=(zZ c2).1;have g:=heap_setCell_same w b k a e y0 hb;have h:=heap_setCell_same (w.setCell ⟨b,k,none⟩ y0) b (k+1) (a.setIfInBounds k y0) e y1 g;have p:=heap_setCell_same ((w.setCell ⟨b,k,none⟩ y0).setCell ⟨b,k+1,none⟩ y1) b (k+2) ((a.setIfInBounds k y0).setIfInBounds (k+1) y1) e y2 h;have q:aO w (w.setCell ⟨b,k,none⟩ y0):=aO.set hb (fun x e=>by rw [c0] at e;exact n0 x (zJ e)) y0;have r:=aO.set g (i:=k+1) (fun x e=>by rw [Array.getElem?_setIfInBounds_ne O,c1] at e;exact n1 x (zJ e)) y1;have s:=aO.set h (i:=k+2) (fun x e=>by rw [Array.getElem?_setIfInBounds_ne O,Array.getElem?_setIfInBounds_ne O,c2] at e;exact n2 x (zJ e)) y2;refine ⟨((a.setIfInBounds k y0).setIfInBounds (k+1) y1).setIfInBounds (k+2) y2,p,?_,?_,?_,?_,(q.trans r).trans s⟩
 ·rw [Array.getElem?_setIfInBounds_ne O,Array.getElem?_setIfInBounds_ne O,Array.getElem?_setIfInBounds_self_of_lt l]
 ·rw [Array.getElem?_setIfInBounds_ne O,Array.getElem?_setIfInBounds_self_of_lt (by simpa using m)]
 ·rw [Array.getElem?_setIfInBounds_self_of_lt (by simpa using o)]
 ·intro j t u y;rw [Array.getElem?_setIfInBounds_ne O,Array.getElem?_setIfInBounds_ne O,Array.getElem?_setIfInBounds_ne O]
def aJ.set (h:aJ w b n R L) (i:Nat) (hi:i<n) {q:Rat} {c a:Option Addr} {f g l m:Nat} (D:FQ w (.agg #[.bool (rB q),.slice c f g,.slice a l m]) q L) :
  aJ (((w.setCell ⟨b,i*3,none⟩ (.bool (rB q))).setCell ⟨b,i*3+1,none⟩ (.slice c f g)).setCell ⟨b,i*3+2,none⟩ (.slice a l m)) b n (aN R i q) L
  /\ w.grownBy (((w.setCell ⟨b,i*3,none⟩ (.bool (rB q))).setCell ⟨b,i*3+1,none⟩ (.slice c f g)).setCell ⟨b,i*3+2,none⟩ (.slice a l m)) (some b)
  /\ aO w (((w.setCell ⟨b,i*3,none⟩ (.bool (rB q))).setCell ⟨b,i*3+1,none⟩ (.slice c f g)).setCell ⟨b,i*3+2,none⟩ (.slice a l m)):=by
 have hg:w.grownBy (((w.setCell ⟨b,i*3,none⟩ (.bool (rB q))).setCell ⟨b,i*3+1,none⟩ (.slice c f g)).setCell ⟨b,i*3+2,none⟩ (.slice a l m)) (some b) :=
  ⟨rfl,rfl,rfl,Z,fun k _ V=>by
   have s:k≠b:=fun e=>V (by rw [e])
   rw [heap_setCell_other _ _ k _ s,heap_setCell_other _ _ k _ s,heap_setCell_other _ _ k _ s]⟩
 obtain ⟨E,e,hb,hc⟩:=h;obtain ⟨u0,X,c0,c1,c2,c3⟩:=hc i hi;obtain ⟨F,G,H,I,J,K,B⟩:=c3.shape;simp only [Value.agg.injEq,Array.mk.injEq,List.cons.injEq,and_true,true_and] at B;obtain ⟨y,z⟩:=B;obtain ⟨p,C,M,N,P,A,r⟩:=set3 hb c0 c1 c2 (fun x e=>by simp at e) (fun x e=>by rw [y] at e;simp at e) (fun x e=>by rw [z] at e;simp at e) (.bool (rB q)) (.slice c f g) (.slice a l m);generalize (((w.setCell ⟨b,i*3,none⟩ (.bool (rB q))).setCell ⟨b,i*3+1,none⟩ (.slice c f g)).setCell ⟨b,i*3+2,none⟩ (.slice a l m))=w3 at hg C r;refine ⟨⟨p,e,C,fun j W=>?_⟩,hg,r⟩;by_cases o:j=i
 ·have t:aN R i q j=q:=by unfold aN;rw [if_pos o]
  rw [t,o];exact ⟨.slice c f g,.slice a l m,M,N,P,D.kept r⟩
 ·obtain ⟨u,d,Q,S,T,U⟩:=hc j W;have t:aN R i q j=R j:=by unfold aN;rw [if_neg o]
  rw [t];exact ⟨u,d,by rw [A _ O O O];exact Q,by rw [A _ O O O];exact S,by rw [A _ O O O];exact T,U.kept r⟩
abbrev kh (b:Bool) (u d:Value):Value:=.agg #[.bool b,u,d,.func (.func 84) #[] #[],.func (.func 85) #[] #[],.func (.func 86) #[] #[],.func (.func 87) #[] #[],.func (.func 88) #[] #[],.func (.func 89) #[] #[],.func (.func 90) #[] #[],.func (.func 91) #[] #[]]
open Go.RowKit Go.Sort
def fG (w:World):Prop:=Lib.TabIs Tryz.prog w "internal/strconv.uint64pow10" .u64 Lib.pow10Tab
def fG.keep0 (h:fG w) (hg:w.grownBy w' none):fG w':=by
 unfold fG Lib.TabIs World.var? at *;cases hn:Tryz.prog.globalNamed "internal/strconv.uint64pow10" with
 | none=>simp [hn] at h
 | some g =>
  simp only [hn,Option.bind_some] at h ⊢;have hlt:g<w.heap.size:=by
   rcases Nat.lt_or_ge g w.heap.size with a | a
   ·exact a
   ·rw [Array.getElem?_eq_none a] at h;simp at h
  rw [hg.block g hlt Z];exact h
def gr_grow (k:Nat) (os:Array Obj):w.grownBy (grow (w.drewN k) os) none:=by
 refine ⟨rfl,rfl,rfl,?_,?_⟩
 ·simp [grow]
 ·intro b hb _;show (w.heap++os)[b]? = w.heap[b]?
  rw [Array.getElem?_append_left hb]
def vi (w:World) (T:TypeId) (nd:Nat) (d:nd<=24):Holds (fun (b:UInt8)=>Value.int .u8 (b.toNat:Int)) (w.alloc (.cells Lib.zeros24 T)) w.heap.size 0 (Array.replicate nd (0:UInt8)):=fun j a=>by
 have c:j<nd:=by simpa using a
 refine ⟨?_,World.frozen?_alloc_new _ _ _ _⟩;rw [World.cell?_alloc_new,Lib.zeros24_at _ O,getElem!_pos _ j a];simp
def DD (w:World) (o:Obj) (c:Array UInt8) (k:Nat):∃ os,(putRow (fun (b:UInt8)=>Value.int .u8 (b.toNat:Int)) (w.alloc o) w.heap.size 0 c).drewN k=grow (w.drewN k) os:=by
 rw [alloc_eq_grow];obtain ⟨a,_,e⟩:=putRow_grow_new (fun (b:UInt8)=>Value.int .u8 (b.toNat:Int)) w #[o] w.heap.size 0 c zL;exact ⟨a,by rw [e];rfl⟩
def p6 (u:Nat) (w:World) (a:u<18446744073709551616) (f:fG w) :
  Calls Tryz.prog 179 #[.int .u64 (u:Nat),.int .i64 10] w fun e w'=>e=.returned (.string ⟨(Lib.decDigits u).toArray⟩)/\w.grownBy w' none:=by
 by_cases s:u<100
 ·go_enter Tryz.func179,Tryz.ntmps179
  go_wp2_with fail;refine (Tryz.internal_strconv_small u s _).mono ?_;rintro e w' ⟨rfl,rfl⟩;go_wp2;go_ret;exact ⟨rfl,ae _ _⟩
 ·have g:1<=u:=O
  have m:Lib.nDigits u<=20:=by have:=Lib.numDigits_eq u g a;split at this<;>omega
  have i:Tryz.prog.arrayLen 240=24:=zK
  have t:∀ W,(Instr.sliceAt 240 (.pointer (some ⟨w.heap.size,0,none⟩)) none (some (.int .i64 (Lib.nDigits u:Int))) none).run Tryz.prog W=.ok (.slice (some ⟨w.heap.size,0,none⟩) (Lib.nDigits u) 24) W:=fun W=>by
   rw [run_sliceAt_array_h W 240 ⟨w.heap.size,0,none⟩ (by simp [Program.arrayLen,Program.elem,Tryz.underlying240]) .i64 (Lib.nDigits u:Int) O (by rw [i];omega)];go_simp
  have d:=vi w 240 (Lib.nDigits u) O;have c:=Tryz.internal_strconv_formatBase10 w.heap.size 0 24 u (Array.replicate (Lib.nDigits u) 0) (w.alloc (.cells Lib.zeros24 240)) d (by rw [Array.size_replicate];exact Lib.lt_pow_nDigits u) a (by rw [Array.size_replicate];omega);rw [Array.size_replicate] at c;have o:=Lib.hid d;have p:=Lib.hid c;clear d i c;go_enter Tryz.func179,Tryz.ntmps179
  go_wp2_with fail;refine (Tryz.internal_strconv_numDigits u g a _ (Lib.tabIs_alloc f _)).mono ?_;rintro e w' ⟨rfl,rfl⟩;go_wp2_with fail;refine p.mono ?_;rintro e w' ⟨rfl,k,z,l,rfl,q⟩;have x:(convert 172 9 (.slice (some ⟨w.heap.size,0,none⟩) (Lib.nDigits u) 24)).run Tryz.prog ((putRow (fun (b:UInt8)=>Value.int .u8 (b.toNat:Int)) (w.alloc (.cells Lib.zeros24 240)) w.heap.size 0 l).drewN k)=.ok (.string ⟨(Lib.decDigits u).toArray⟩) ((putRow (fun (b:UInt8)=>Value.int .u8 (b.toNat:Int)) (w.alloc (.cells Lib.zeros24 240)) w.heap.size 0 l).drewN k):=by
   have h:=run_convert_bytes_back (P:=Tryz.prog) ((putRow (fun (b:UInt8)=>Value.int .u8 (b.toNat:Int)) (w.alloc (.cells Lib.zeros24 240)) w.heap.size 0 l).drewN k) 172 9 5 ⟨w.heap.size,0,none⟩ 24 (Lib.decDigits u) Tryz.underlying172 Tryz.underlying5 Tryz.underlying9 (fun j r=>by
    rw [Lib.row_is_numeral q j r,Lib.add_plain,World.cell?_drewN];exact cell?_putRow (fun (b:UInt8)=>Value.int .u8 (b.toNat:Int)) _ w.heap.size 0 _ l o (by rw [q.size,Array.size_replicate]) j (by rw [q.size];rw [Lib.decDigits_length] at r;exact r))
   rw [Lib.decDigits_length] at h;exact h
  go_wp2;go_ret;obtain ⟨os,y⟩:=DD w (.cells Lib.zeros24 240) l k;rw [y];exact ⟨rfl,gr_grow _ _⟩
def rg (u:Nat) (w:World) (c:u<18446744073709551616) (a:fG w) :
  Calls Tryz.prog 150 #[.int .u64 (u:Nat),.int .i64 10] w fun e w'=>e=.returned (.string ⟨(Lib.decDigits u).toArray⟩)/\w.grownBy w' none:=by
 have H:=ab a;clear a;go_enter Tryz.func150,Tryz.ntmps150
 go_wp2_with fail;refine (p6 u _ c H).mono ?_;rintro e w' ⟨rfl,h⟩;have d:=ab h;clear h;go_wp2;go_ret;exact ⟨rfl,d⟩
def jK (h:Below w.heap.size w w'):w.grownBy w' none:=⟨h.os,h.tape,h.output,h.size,fun k a _=>h.block k a⟩
def iI (B b:Nat) (bs:List Value) (s:ByteArray) (w:World) (h:Lib.IsBuilder 193 5 B b bs w) (a:bs.length+s.size<=140737488355328) (c:B<=w.heap.size) :
  Calls Tryz.prog 151 #[.pointer (some ⟨b,0,none⟩),.string s] w fun e w'=>e=.returned (.tuple #[.int .i64 s.size,.nilIface])/\(Lib.BuilderAt 193 5 B b (.pointer (some ⟨b,0,none⟩)) (bs++Lib.strCells s) w'/\Below B w w') :=
 Any.Builder_WriteString Tryz.wsLays Tryz.wsExtra B b bs s w h a c
def mn (w:World) {f:Array Oper} {rest:List Oper} {o:Oper} {a:Act} {Q:Exit->Act->World->Prop} (hg:o.guard=none) (x y:Operand) (hop:o.op=Op.call { callee:=.builtin .append,args:=#[x,y],argTypes:=#[94,94] }) (base:Nat) (v:Value) (l:List Nat) (A:a.eval x=v) (g:Nat) (z:Int) (c:Nat) (B:z=(c:Int)) (hy:a.eval y=.slice (some ⟨g,0,none⟩) 1 1) (d:w.cell? ⟨g,0,none⟩=some (.int .u32 z)) (h:gU w base v l) (D:l.length<=10000000000000) (hb:base<=w.heap.size)
  (hK:∀ v' w',gU w' base v' (l++[c])->w.grownBy w' (ar v)->wpList Tryz.prog f Q rest (a.put o.dst v') w') :
  wpList Tryz.prog f Q (o :: rest) a w:=by
 obtain ⟨C,p,q,r,s⟩:=info_parts Tryz.info32;refine wpList_append_own w hg x y 94 hop base 174 C (.int .u32 0) 1 4 Tryz.underlying94 p q r s rfl zD v l.length (aq l).toList A h ⟨g,0,none⟩ 1 1 [.int .u32 z] hy rfl ?_ ?_ (by unfold maxLen;omega) O hb ?_
 ·intro j u k;match j with
  | 0 =>
   simp only [List.getElem?_cons_zero,zI] at k;subst k;simpa [Addr.add] using d
  | j+1=>simp at k
 ·intro u t;simp only [List.mem_singleton] at t;subst t;rfl
 ·intro v' w' i m _;refine hK v' w' ?_ (by rw [<- oq];exact m);unfold gU;rw [List.length_append,List.length_singleton];have e:(aq (l++[c])).toList=(aq l).toList++[.int .u32 z]:=by rw [B];simp [aq]
  rw [e];exact i
def ly (h:aT w v n L):n<4294967296^L:=by
 obtain ⟨xs,a,e,c,d⟩:=h;have:=bD a.sm;rw [c] at this;exact Nat.lt_of_lt_of_le this (Nat.pow_le_pow_right zD d)
def CQ (cs:List Nat):Prop:=∃ F c,cs=F++[c]/\c≠0
def CQ.pos (h:CQ cs) (i:Nat) (hi:i<cs.length):0<dQ 1000000000 (cs.drop i):=by
 obtain ⟨F,c,rfl,hc⟩:=h;have a:i<=F.length:=by simp at hi;omega
 rw [List.drop_append_of_le_length a,kv];have:0<1000000000^(F.drop i).length*c:=Nat.mul_pos (Nat.pow_pos zD) O;omega
def ChkR (w:World) (B n L:Nat) (k:Nat) (cv lv:Value) (wr:World):Prop :=
 ∃ (m:Nat) (cs:List Nat),gU wr B cv cs/\B<=wr.heap.size/\ir wr w.heap.size lv m L/\(∀ k,ar lv=some k->k<B)/\(∀ c∈cs,c<1000000000)/\n=dQ 1000000000 cs+1000000000^cs.length*m/\(m≠0∨CQ cs)/\w.grownBy wr none/\m=k
def rG {m:Nat} (h:n=dQ 1000000000 cs+1000000000^cs.length*m) (d:m≠0) (hn:n<4294967296^L):cs.length<32*L:=by
 have e:1000000000^cs.length<=n:=by
  have:1000000000^cs.length*1<=1000000000^cs.length*m:=Nat.mul_le_mul_left _ O;omega
 have f:2^cs.length<=1000000000^cs.length:=Nat.pow_le_pow_left zD _;have c:4294967296^L=2^(32*L):=by rw [Nat.pow_mul]
 rw [c] at hn;exact (Nat.pow_lt_pow_iff_right (a:=2) zD).1 O
def xJ {m:Nat} (h:n=dQ 1000000000 cs+1000000000^cs.length*m):n=dQ 1000000000 (cs++[m % 1000000000])+1000000000^(cs++[m % 1000000000]).length*(m / 1000000000):=by
 rw [kv,List.length_append,List.length_singleton,Nat.pow_succ,h,Nat.mul_assoc,Nat.add_assoc,<- Nat.mul_add];congr 2
 omega
def oK (cs:List Nat) (k:Nat):List UInt8:=if k=cs.length then [] else lY cs k
def my {T e:TypeId} {B:Nat} {bs:List Value} (h:Lib.IsBuilder T e B b bs w) (hg:w.grownBy w' none):Lib.IsBuilder T e B b bs w':=by
 have a:∀ p,Lib.BuilderAt T e B b p bs w->Lib.BuilderAt T e B b p bs w':=by
  intro p d;have hlt:=d.lt;obtain ⟨f,v,hb,g,c⟩:=d;exact ⟨f,v,by rw [hg.block b hlt Z];exact hb,World.ownsRow.kept g hg (by cases hv:v.ownBlock<;>simp),c⟩
 rcases h with h | h
 ·exact .inl (a _ h)
 ·exact .inr (a _ h)
def sO (l:List UInt8):Lib.strCells ⟨l.toArray⟩=Lib.byteCells l:=by
 unfold Lib.strCells Lib.byteCells;simp
def Fr (c:Nat):Lib.repeatL [48] c=List.replicate c 48:=by
 induction c with
 | zero=>rfl
 | succ c ih=>rw [Lib.repeatL,ih,List.replicate_succ];rfl
def WrtR (W:World) (cs:List Nat) (iv:Value) (wr:World):Prop :=
 ∃ k:Nat,k<=cs.length/\iv=.int .i64 ((k:Int)-1)/\Lib.IsBuilder 193 5 W.heap.size W.heap.size (Lib.byteCells (oK cs k)) wr/\Below W.heap.size W wr/\W.heap.size<=wr.heap.size
def txt_len (cs:List Nat) (k:Nat) (hc:∀ c∈cs,c<1000000000) (e:k<=cs.length) (h:CQ cs):(oK cs k).length<=9*(cs.length-k):=by
 have f:∀ d k,d=cs.length-k->k<=cs.length->(oK cs k).length<=9*d:=by
  intro d;induction d with
  | zero =>
   intro k i h2;have:k=cs.length:=O
   rw [oK,if_pos this];simp
  | succ d ih =>
   intro k i h2;have e:k<cs.length:=O
   have a:=hc cs[k] (List.getElem_mem e);have j:(Lib.decDigits cs[k]).length<=9:=pT zD a;rw [oK,if_neg O];by_cases g:k+1=cs.length
   ·rw [nT cs k g];omega
   ·have h2:=ih (k+1) O O;rw [oK,if_neg g] at h2;rw [nU cs k O a (h.pos (k+1) O)];simp;omega
 exact f _ k rfl e
def uh (v:Value) (n L:Nat) (w:World) (h:aT w v n L) (hL:L<=100000000000) (ht:fG w) :
  Calls Tryz.prog 102 #[v] w fun e w'=>e=.returned (.string ⟨(Lib.decDigits n).toArray⟩)/\w.grownBy w' none:=by
 obtain ⟨vo,vl,vc,rfl,t,hH,hp⟩:=h.shape;have HT:=ab ht;have HN:=ab h;have S:=ab (ly h);unfold maxLen at hp;clear ht h;by_cases h0:n=0
 ·obtain rfl:vl=0:=t.2 h0;subst h0;clear t;go_enter Tryz.func102,Tryz.ntmps102
  go_wp2;go_ret;refine ⟨?_,ae _ _⟩;rw [Lib.decDigits_one (by decide)];rfl
 ·have hC:0<vl:=by
   rcases zP vl with e | e
   ·exact absurd (t.1 e) h0
   ·exact e
  have hE:((vl:Int)==0)=false:=by simp;omega
  clear t;obtain ⟨xs,x1,x2,x3,x4⟩:=HN.out;have X1:=ab x1;have X2:=ab x2;have X3:=ab x3;clear x1 x2 x3;go_enter Tryz.func102,Tryz.ntmps102
  go_wp2_with fail;refine (jI _ xs _ X1 (by omega)).mono ?_;rintro e w1 ⟨lv,rfl,l1,l2⟩;obtain ⟨lo,lc,rfl,hI,hq,_⟩:=l1.open;unfold maxLen at hq;have L1:Hid (ir w1 w.heap.size (.slice lo xs.length lc) n L):=⟨xs,l1,X1.sm,X2,X3,x4⟩;have LB:=ab (fun k hk=>(l1.fresh k hk).2);have L2:=ab l2;clear l1 l2;go_wp2;go_loopg [3,4] n (fun k cv lv wr=>Hid (ChkR w w1.heap.size n L k cv lv wr))
  case atStart=>exact ⟨n,[],oV _ _,zL,L1,LB,by simp,by simp [dQ],.inl h0,L2,rfl⟩
  case round =>
   obtain ⟨m,cs,r1,r2,r3,r4,r5,r6,r7,r8,rfl⟩:=hrel.out;obtain ⟨co,cc,rfl,hJ,hs,_⟩:=r1.open;unfold maxLen at hs;obtain ⟨kb,G,kc,rfl,u,hK,hu⟩:=r3.num.shape;unfold maxLen at hu;have J:=ab r1;have R3:=ab r3;have R4:=ab r4;have R5:=ab r5;have R6:=ab r6;have R7:=ab r7;have R8:=ab r8;clear r1 r3 r4 r5 r6 r7 r8 hrel;by_cases hm:m=0
   ·obtain rfl:G=0:=u.2 hm;subst hm;clear u;have s:CQ cs:=by
     rcases R7.out with h | h
     ·exact absurd rfl h
     ·exact h
    have x:=ab s;have hN:0<cs.length:=by obtain ⟨F,c,e,_⟩:=s;rw [e];simp
    have T:Hid (dQ 1000000000 cs=n):=by have:=R6.out;show _=_;omega
    have hF:cs.length<=32*L+1:=by
     obtain ⟨F,c,e,hc⟩:=s;have U:=T.out;rw [e,kv] at U;have:=rG (cs:=F) (m:=c) U.symm hc S;rw [e];simp;omega
    clear s;obtain ⟨W,rfl⟩:∃ W,W=wr:=⟨wr,rfl⟩;obtain ⟨g,rfl,kf,hA⟩:∃ g,co=some ⟨g,0,none⟩/\w1.heap.size<=g/\g<W.heap.size:=by
     obtain ⟨ao,cap,e,_,_,hh⟩:=J.out.open;simp only [Value.slice.injEq,true_and] at e;obtain ⟨rfl,rfl⟩:=e;rcases hh with h | h
     ·subst h;rcases J.out.2 with ⟨_,e2⟩ | ⟨g,hM,kk,e2,_⟩
      ·omega
      ·simp at e2
     ·exact h
    have TW:Hid (fG W):=HT.out.keep0 R8;go_wp2;go_loopw [7] (fun iv w5=>Hid (WrtR W cs iv w5)) (fun iv _=>(intOf iv+1).toNat)
    case atStart =>
     refine ⟨cs.length,zL,by go_num,.inl ⟨zL,.slice none 0 0,heap_alloc_new W _,?_,by simp [Value.ownBlock]⟩,mG (ag (ae _ _) _),by simp⟩;rw [oK,if_pos rfl];exact World.ownsRow_nil _ _ _ _
    case round =>
     obtain ⟨k,hk,rfl,b1,b2,b3⟩:=hrel.out;have B1:=ab b1;have l:=ab b2;clear b1 b2 hrel;by_cases V:k=0
     ·subst V;have A:=B1.out;rw [oK,if_neg (by omega),lY,List.drop_zero,T] at A;have hv:=ab A;clear A;go_wp2_with fail;refine (Tryz.Builder_String W.heap.size W.heap.size (Lib.decDigits n) _ hv (fun e=>by
       have U:=Lib.decDigits_length n;have h2:=Lib.nDigits_pos n;rw [e] at U;simp at U;omega)).mono ?_
      rintro e w6 ⟨rfl,N⟩;have G6:=ab (aa R8 (jK ⟨N.os.trans l.os,N.tape.trans l.tape,N.output.trans l.out.output,Nat.le_trans l.size N.size,fun k hk=>(N.block k hk).trans (l.block k hk)⟩));clear N;go_wp2;go_ret;exact ⟨rfl,G6⟩
     ·obtain ⟨j,rfl⟩:∃ j,k=j+1:=⟨k-1,by omega⟩;have ej:(((j+1:Nat):Int)-1)=(j:Int):=by omega
      rw [ej];clear ej V;have X:j<cs.length:=by omega
      have B:=R5.out cs[j] (List.getElem_mem X);have f:=(J.at j X).1;have d:wr.cell? ⟨g,j,none⟩=some (.int .u32 (cs[j]:Nat)):=(World.cell?_of_block (a:=⟨g,j,none⟩) (l.block g hA)).trans f;obtain ⟨c,H⟩:=eX (cs[j]);rw [<- H] at d B;have C:=ab H;have T5:Hid (fG wr):=TW.out.keep0 (jK l);have Y:(Lib.decDigits c).length<=9:=pT (by decide) B;have he:=Lib.nDigits_pos c;rw [<- Lib.decDigits_length] at he;have hQ:=txt_len cs (j+1) R5 hk x;clear f H;go_wp2_with fail;refine (rg c _ (by omega) T5).mono ?_;rintro e w6 ⟨rfl,I⟩;obtain ⟨D,hD⟩:∃ D:ByteArray,D=⟨(Lib.decDigits c).toArray⟩:=⟨_,rfl⟩;rw [<- hD];have hf:D.size=(Lib.decDigits c).length:=by rw [hD];rfl
      have hR:D.size<=9:=by omega
      have i:Hid (Lib.strCells D=Lib.byteCells (Lib.decDigits c)):=by rw [hD];exact sO _
      have B6:=ab (my B1 I);have o:Hid (Below W.heap.size W w6):=⟨I.os.trans l.os,I.tape.trans l.tape,I.output.trans l.out.output,Nat.le_trans l.size I.size,fun k hk=>(I.block k (by omega) (by simp)).trans (l.block k hk)⟩;have hj:W.heap.size<=w6.heap.size:=o.out.size;have hw:=ab hf;clear I hD hf d T5 B1 l;by_cases p:j+1=cs.length
      ·go_wp2_with fail;refine (iI W.heap.size W.heap.size _ D _ B6 (by rw [Lib.byteCells_length];omega) hj).mono ?_;rintro e w7 ⟨rfl,c7,q⟩;have C7:=ab c7;have D7:=ab q;have E:W.heap.size<=w7.heap.size:=Nat.le_trans hj q.size;clear c7 q;go_wp2;go_roundw
       case rel =>
        refine ⟨j,by omega,by go_num,.inr ?_,⟨D7.os.trans o.os,D7.tape.trans o.tape,D7.out.output.trans o.out.output,Nat.le_trans o.size D7.size,fun k hk=>(D7.block k hk).trans (o.block k hk)⟩,E⟩;have h7:=C7.out;rw [i,oK,if_pos p] at h7;rw [oK,if_neg (by omega),nT cs j p,<- C];exact h7
       case measure=>simp [intOf]
      ·have hS:(j:Int)<(cs.length:Int)-1:=by omega
       have hx:(9-(D.size:Int))=((9-D.size:Nat):Int):=by omega
       go_wp2_with fail;refine (Tryz.strings_Repeat ⟨#[48]⟩ (9-D.size) _ (by omega) (by have:(⟨#[48]⟩:ByteArray).size=1:=rfl;rw [this];omega)).mono ?_;rintro e w7 ⟨rfl,q⟩;rw [show (⟨#[48]⟩:ByteArray).data.toList=[48] from rfl,Fr];obtain ⟨Z,hZ⟩:∃ Z:ByteArray,Z=⟨(List.replicate (9-D.size) 48).toArray⟩:=⟨_,rfl⟩;rw [<- hZ];have hT:Z.size<=9:=by rw [hZ];show (List.replicate (9-D.size) 48).toArray.size<=9;simp
       have hy:Hid (Lib.strCells Z=Lib.byteCells (List.replicate (9-D.size) 48)):=by rw [hZ];exact sO _
       have B7:=ab (my B6 (jK q));have K:Hid (Below W.heap.size W w7):=⟨q.os.trans o.os,q.tape.trans o.tape,q.output.trans o.out.output,Nat.le_trans o.size q.size,fun k hk=>(q.block k (by omega)).trans (o.block k hk)⟩;have E:W.heap.size<=w7.heap.size:=K.out.size;clear q hZ o B6 hx;go_wp2_with fail;refine (iI W.heap.size W.heap.size _ Z _ B7 (by rw [Lib.byteCells_length];omega) E).mono ?_;rintro e w8 ⟨rfl,c8,P⟩;have C8:=ab c8;have M:Hid (Below W.heap.size W w8):=⟨P.os.trans K.os,P.tape.trans K.tape,P.output.trans K.out.output,Nat.le_trans K.size P.size,fun k hk=>(P.block k hk).trans (K.block k hk)⟩;have hz:W.heap.size<=w8.heap.size:=M.out.size;clear c8 P;go_wp2_with fail;refine (iI W.heap.size W.heap.size _ D _ (.inr C8) (by rw [List.length_append,Lib.byteCells_length,Lib.strCells_length];omega) hz).mono ?_;rintro e w9 ⟨rfl,c9,Q⟩;have C9:=ab c9;have W9:Hid (Below W.heap.size W w9):=⟨Q.os.trans M.os,Q.tape.trans M.tape,Q.output.trans M.out.output,Nat.le_trans M.size Q.size,fun k hk=>(Q.block k hk).trans (M.block k hk)⟩;clear c9 Q;go_wp2;go_roundw
       case rel =>
        refine ⟨j,by omega,by go_num,.inr ?_,W9,W9.size⟩;have Y:=C9.out;rw [i,hy,oK,if_neg p] at Y;rw [oK,if_neg (by omega),nU cs j (by omega) (by rw [<- C];exact B) (x.pos (j+1) (by omega)),<- C,<- hw];rw [show ∀ a b c:List UInt8,Lib.byteCells (a++(b++c))=(Lib.byteCells a++Lib.byteCells b)++Lib.byteCells c from fun a b c=>by simp [Lib.byteCells]];exact Y
       case measure=>simp [intOf]
   ·have hW:0<G:=by
     rcases zP G with e | e
     ·exact absurd (u.1 e) hm
     ·exact e
    clear u;have hG:=rG R6 hm S;obtain ⟨ys,y1,y2,y3,y4,y5⟩:=R3.out;go_wp2_with fail;refine (qG _ ys 1000000000 _ w.heap.size y1 y2 (by omega) (by omega) (by omega)).mono ?_;rintro e z ⟨q',r,rfl,hr,s1⟩;rw [y4] at hr;obtain ⟨zs,z1,z2,z3,z4,z5,z6,z7⟩:=s1;rw [y4] at z4;obtain ⟨qo,qc,rfl,_,_,_⟩:=z1.open;have hX:r<1000000000:=by rw [hr];exact Nat.mod_lt _ (by decide)
    have G2:Hid (w.grownBy z none):=fZ R8 z6 (fun b e=>(y1.fresh b e).1);have C2:Hid (gU z w1.heap.size (.slice co cs.length cc) cs):=J.out.keep z6 (fun k e h2=>by
     have h3:=R4.out k e;have h4:=(J.fresh k h2).1;omega)
    have Z1:Hid (ir z w.heap.size (.slice qo zs.length qc) (m / 1000000000) L):=⟨zs,z1,z2,z3,z4,by omega⟩;have ZB:Hid (∀ k,ar (.slice qo zs.length qc)=some k->k<w1.heap.size):=fun k hk=>R4 k (by rw [<- z7];exact hk)
    have hY:w1.heap.size<=z.heap.size:=Nat.le_trans r2 z6.size;have HR:=ab hr;clear y1 y2 y3 y4 y5 hr z1 z2 z3 z4 z5 z6 z7 J R3 R4;have y:=C2.out.alloc (Obj.cells #[Value.int IntKind.u32 (r:Int)] 174);have d:(z.alloc (Obj.cells #[Value.int IntKind.u32 (r:Int)] 174)).cell? ⟨z.heap.size,0,none⟩=some (.int .u32 (r:Int)):=by simp
    have hl:w1.heap.size<=(z.alloc (Obj.cells #[Value.int IntKind.u32 (r:Int)] 174)).heap.size:=by simp;omega
    have HC:=ab d;have HO:=ab y;have ho:=ab hl;clear d y hl;go_wp2_with (at_builtin;refine mn _ rfl _ _ rfl w1.heap.size _ cs rfl z.heap.size _ r rfl rfl HC HO (by omega) ho ?_)
    intro ka w3 o1 o2;obtain ⟨kl,ko,rfl,_,_,_⟩:=o1.open;have O1:=ab o1;have O2:=ab o2;clear o1 o2;go_wp2;go_roundg (m / 1000000000)
    case measure=>omega
    case rel =>
     refine ⟨m / 1000000000,cs++[r],O1,Nat.le_trans ho O2.size,?_,ZB,?_,?_,?_,?_,rfl⟩
     ·obtain ⟨hB,a1,a2,a3,a4,a5⟩:=Z1.out.keep0 (ag (ae _ _) (Obj.cells #[Value.int IntKind.u32 (r:Int)] 174));refine ⟨hB,a1.keep O2 ?_,a2,a3,a4,a5⟩;intro k e h2;have h3:=ZB.out k h2;have h4:=(C2.fresh k e).1;omega
     ·intro c hc;rcases List.mem_append.1 hc with hc | hc
      ·exact R5 c hc
      ·simp at hc;omega
     ·rw [HR];exact xJ R6
     ·by_cases Y:m / 1000000000=0
      ·right
       refine ⟨cs,r,rfl,?_⟩;have:=HR.out;omega
      ·exact .inl Y
     ·exact fZ (aa G2 (ag (ae _ _) _)) O2 (fun b e=>by have:=(C2.fresh b e).1;have:=L2.out.size;omega)
def cE (q:Rat):List UInt8:=(if rB q then [45] else [])++(Lib.decDigits (rN q)++(if q.den=1 then [] else 47 :: Lib.decDigits q.den))
def jj (x:Value) (q:Rat) (L:Nat) (w:World) (m:FQ w x q L) :
  Calls Tryz.prog 63 #[x] w fun e w'=>e=.returned (.int .i64 q.num.sign)/\w.grownBy w' none:=by
 obtain ⟨r,d,s,f,t,u,rfl⟩:=m.shape;obtain ⟨up,y,e,z,_⟩:=m;simp only [Value.agg.injEq,Array.mk.injEq,List.cons.injEq,and_true,true_and] at e;obtain ⟨rfl,rfl⟩:=e;obtain ⟨o,l,c,A,j,E,k⟩:=z.shape;simp only [Value.slice.injEq] at A;obtain ⟨rfl,rfl,rfl⟩:=A;unfold maxLen at k;obtain ⟨W,g⟩:=eX (w.alloc (Obj.cells #[.bool (rB q),.slice r d s,.slice f t u] 105));have p:Hid (w.grownBy W none):=by rw [g];exact ag (ae _ _) _
 obtain ⟨s0,s1,s2⟩:W.cell? ⟨w.heap.size,0,none⟩=some (.bool (rB q))/\W.cell? ⟨w.heap.size,1,none⟩=some (.slice r d s)/\W.cell? ⟨w.heap.size,2,none⟩=some (.slice f t u):=aH (by rw [g];exact ae _ _);by_cases hb:rB q=true
 ·have h:Hid (q.num.sign = -1):=by
   unfold rB at hb;exact Int.sign_eq_neg_one_of_neg (by simpa using hb)
  rw [hb] at s0 g ⊢;go_enter Tryz.func63,Tryz.ntmps63
  go_wp2;go_ret;rw [h];exact ⟨rfl,by first | exact ag (ae _ _) _ | exact p⟩
 ·have a:rB q=false:=by simpa using hb
  have B:0<=q.num:=by unfold rB at a;simpa using a
  have h:Hid (q.num.sign=ja (d:Int)):=by
   show _=_
   unfold ja;by_cases i:d=0
   ·have:q.num=0:=by have:=j.1 i;unfold rN at this;omega
    rw [this,i];rfl
   ·have C:¬ rN q=0:=fun e=>i (j.2 e)
    have D:0<q.num:=by unfold rN at C;omega
    rw [Int.sign_eq_one_of_pos D,if_neg O,if_pos O]
  rw [a] at s0 g ⊢;clear j z hb a;go_enter Tryz.func63,Tryz.ntmps63
  go_wp2_with fail;refine (mF (d:Int) _).mono ?_;rintro e F ⟨rfl,rfl⟩;go_wp2;go_ret;rw [h];exact ⟨rfl,by first | exact ag (ae _ _) _ | exact p⟩
def FQ.parts {u d:Value} {q:Rat} (h:FQ w (.agg #[.bool (rB q),u,d]) q L):aT w u (rN q) L/\((d=.slice none 0 0/\q.den=1)∨(aT w d q.den L/\1<q.den)):=by
 obtain ⟨up,a,e,c,f,_⟩:=h;simp only [Value.agg.injEq,Array.mk.injEq,List.cons.injEq,and_true,true_and] at e;obtain ⟨rfl,rfl⟩:=e;exact ⟨c,f⟩
def nr (a:L<=100000000000) (h:n<4294967296^L):(Lib.decDigits n).length<=1000000000001:=by
 rw [Lib.decDigits_length];rcases zP L with e | e
 ·subst e;have:n=0:=by simpa using h
  subst this;rw [Lib.nDigits_small zD];omega
 ·have:Lib.nDigits n<=10*L:=by
   refine me O (Nat.lt_of_lt_of_le h ?_);rw [Nat.pow_mul];exact Nat.pow_le_pow_left zD L
  omega
def fQ_at (x:Value) (q:Rat) (L:Nat) (w:World) (G:FQ w x q L) (u:L<=100000000000) (Q:fG w) :
  Calls Tryz.prog 65 #[x] w fun e w'=>e=.returned (.string ⟨(cE q).toArray⟩)/\w.grownBy w' none:=by
 obtain ⟨T,U,V,m,g,D,rfl⟩:=G.shape;obtain ⟨K,hd⟩:=G.parts;have Y:=ab K;have S:=ab hd;have H:=ab Q;obtain ⟨W,E⟩:=eX (w.alloc (Obj.cells #[.bool (rB q),.slice T U V,.slice m g D] 105));have k:Hid (w.grownBy W none):=by rw [E];exact ag (ae _ _) _
 have i:Hid (∀ wx,W.grownBy wx none->wx.cell? ⟨w.heap.size,0,none⟩=some (.bool (rB q))/\wx.cell? ⟨w.heap.size,1,none⟩=some (.slice T U V)/\wx.cell? ⟨w.heap.size,2,none⟩=some (.slice m g D)):=by
  intro wx hg;rw [E] at hg;exact aH hg
 obtain ⟨s0,s1,s2⟩:=i.out W (ae _ _);have z:=nr u (ly K);obtain ⟨F,t⟩:=eX (Lib.decDigits (rN q));have j:=ab t;rw [<- t] at z;have d:Hid (g=0↔q.den=1):=by
  rcases hd with ⟨e,y⟩ | ⟨y,h2⟩
  ·simp only [Value.slice.injEq] at e;exact ⟨fun _=>y,fun _=>e.2.1⟩
  ·obtain ⟨o,l,c,e,hl,_⟩:=y.shape;simp only [Value.slice.injEq] at e;obtain ⟨rfl,rfl,rfl⟩:=e;exact ⟨fun e=>by have:=hl.1 e;omega,fun e=>O⟩
 have he:g<=9223372036854775807:=by
  rcases hd with ⟨e,y⟩ | ⟨y,h2⟩
  ·simp only [Value.slice.injEq] at e;omega
  ·obtain ⟨o,l,c,e,_,z,hl2⟩:=y.shape;simp only [Value.slice.injEq] at e;obtain ⟨rfl,rfl,rfl⟩:=e;unfold maxLen at hl2;omega
 clear G K hd Q t;go_enter Tryz.func65,Tryz.ntmps65
 go_wp2_with fail;rw [<- E];refine (uh _ _ L W (Y.keep0 k) u (H.keep0 k)).mono ?_;rintro e M ⟨rfl,N⟩;rw [<- j];obtain ⟨X,a1,a2⟩:=i.out M N;have p:=ab N;clear s0 s1 s2 N E;by_cases hb:rB q=true
 ·rw [hb] at X;have A:=ab hb;clear hb;by_cases a:q.den=1
  ·obtain rfl:g=0:=d.out.2 a;have r:Hid (cE q=[45]++F):=by
    show _=_
    rw [cE,A,if_pos a,j];simp
   clear d;go_wp2;go_ret;rw [r];exact ⟨rfl,aa k p⟩
  ·have I:0<g:=by
    rcases zP g with e | e
    ·exact absurd (d.1 e) a
    ·exact e
   have B:Hid (aT w (.slice m g D) q.den L):=by
    rcases S.out with ⟨e,h⟩ | ⟨h,_⟩
    ·exact absurd h a
    ·exact h
   have hl2:=nr u (ly B);clear d;go_wp2_with fail;refine (uh _ _ L M ((B.keep0 k).keep0 p) u ((H.keep0 k).keep0 p)).mono ?_;rintro e w3 ⟨rfl,C⟩;have J:=ab C;obtain ⟨P,f⟩:=eX (Lib.decDigits q.den);rw [<- f] at hl2 ⊢;have r:Hid (cE q=[45]++F++([47]++P)):=by
    show _=_
    rw [cE,A,if_neg a,j,f];simp
   clear C f;go_wp2;go_ret;rw [r];exact ⟨rfl,aa k (aa p J)⟩
 ·have s:rB q=false:=by simpa using hb
  rw [s] at X;have A:=ab s;clear hb s;by_cases a:q.den=1
  ·obtain rfl:g=0:=d.out.2 a;have r:Hid (cE q=F):=by
    show _=_
    rw [cE,A,if_pos a,j];simp
   clear d;go_wp2;go_ret;rw [r];exact ⟨rfl,aa k p⟩
  ·have I:0<g:=by
    rcases zP g with e | e
    ·exact absurd (d.1 e) a
    ·exact e
   have B:Hid (aT w (.slice m g D) q.den L):=by
    rcases S.out with ⟨e,h⟩ | ⟨h,_⟩
    ·exact absurd h a
    ·exact h
   have hl2:=nr u (ly B);clear d;go_wp2_with fail;refine (uh _ _ L M ((B.keep0 k).keep0 p) u ((H.keep0 k).keep0 p)).mono ?_;rintro e w3 ⟨rfl,C⟩;have J:=ab C;obtain ⟨P,f⟩:=eX (Lib.decDigits q.den);rw [<- f] at hl2 ⊢;have r:Hid (cE q=F++([47]++P)):=by
    show _=_
    rw [cE,A,if_neg a,j,f];simp
   clear C f;go_wp2;go_ret;rw [r];exact ⟨rfl,aa k (aa p J)⟩
end Go.Proofs.YtbomdfhdocaagaaGreatDoor
