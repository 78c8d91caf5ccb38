/- Contracts. -/
import Derived.Test.YtbfohfjobncehaaGreatDoorXPs
import Derived.Deep.AppendLies
namespace Go.Proofs.YtbfohfjobncehaaGreatDoor
open Go.RowKit
set_option linter.all false
set_option maxHeartbeats 8000000
set_option maxRecDepth 10000
variable {w w':World} {g n base b cap:Nat} {v u:Value} {ps:List aD}
def eI (z:Int):List UInt8:=if z<0 then 45 :: Lib.decDigits z.natAbs else Lib.decDigits z.natAbs
def dgB (r:Nat):UInt8:=UInt8.ofNat (48+r)
theorem byte_of (r:Nat) (h:r<10):(48+(r:Int))=((dgB r).toNat:Int):=by
 unfold dgB;rw [UInt8.toNat_ofNat'];omega
def xA (n m:Nat) (acc:List UInt8):Prop:=(m≠0->Lib.decDigits n=Lib.decDigits m++acc.reverse)/\(m=0->Lib.decDigits n=acc.reverse)
theorem xA.step {m:Nat} {a:List UInt8} (h:xA n m a) (e:m≠0):xA n (m / 10) (a++[dgB (m % 10)]):=by
 have c:=h.1 e;unfold xA dgB;rw [List.reverse_append,List.reverse_singleton];refine ⟨fun f=>?_,fun f=>?_⟩
 ·rw [c,p9 O,List.append_assoc]
 ·have d:m<10:=O
  rw [c,Lib.decDigits_one d,Nat.mod_eq_of_lt d]
theorem rV (z:Int):0<(eI z).length:=by
 have:=Lib.nDigits_pos z.natAbs;rw [<- Lib.decDigits_length] at this;unfold eI;split
 ·simp
 ·omega
def SwpR (w:World) (g c:Nat) (l:List UInt8) (i:Nat) (wr:World):Prop:=eY wr w.heap.size (.slice (some ⟨g,0,none⟩) l.length c) (dX l i)/\w.grownBy wr none
theorem eY.swap {c i j:Nat} {l:List UInt8} (h:eY w base (.slice (some ⟨g,0,none⟩) l.length c) (dX l i)) (hi:i+i+1<l.length) (m:j=l.length-1-i) :
  ∃ x y:UInt8,w.cell? ⟨g,i,none⟩=some (.int .u8 (x.toNat:Nat))/\w.cell? ⟨g,j,none⟩=some (.int .u8 (y.toNat:Nat))/\w.frozen? ⟨g,i,none⟩=false/\w.frozen? ⟨g,j,none⟩=false /\
   eY ((w.setCell ⟨g,i,none⟩ (.int .u8 (y.toNat:Nat))).setCell ⟨g,j,none⟩ (.int .u8 (x.toNat:Nat))) base (.slice (some ⟨g,0,none⟩) l.length c) (dX l (i+1)):=by
 have f:i<(dX l i).length:=by rw [cI];omega
 have a:j<(dX l i).length:=by rw [cI];omega
 rw [<- cI l i] at h;obtain ⟨p,q,r⟩:=h.at i f;obtain ⟨s,t,z⟩:=h.at j a;have ex:(dX l i)[i]=l.getD i 0:=by rw [lK,if_neg O]
 have o:(dX l i)[j]=l.getD j 0:=by rw [lK,if_neg O]
 refine ⟨(dX l i)[i],(dX l i)[j],p,s,q,t,?_⟩;have k:=r (dX l i)[j] _ rfl;rw [show (dX l i).length=((dX l i).set i (dX l i)[j]).length from by simp] at k;obtain ⟨_,_,c3⟩:=k.at j (by simpa using a);have d:=c3 (dX l i)[i] _ rfl;rw [show ((dX l i).set i (dX l i)[j]).length=l.length from by simp [cI]] at d;have e:=EJ l i hi;rw [<- m] at e;rw [o,ex] at d ⊢;rw [e] at d;exact d
def TxtR (w:World) (n L:Nat) (k:Nat) (bv av:Value) (wr:World):Prop :=
 ∃ (m:Nat) (acc:List UInt8),eY wr w.heap.size bv acc/\aT wr av m L/\xA n m acc/\w.grownBy wr none/\m=k
theorem xA.len {m:Nat} {a:List UInt8} (h:xA n m a):a.length<=Lib.nDigits n:=by
 rw [<- Lib.decDigits_length];by_cases c:m=0
 ·rw [h.2 c];simp
 ·rw [h.1 c];simp
theorem rL {L:Nat} (a:0<L) (h:n<4294967296^L):Lib.nDigits n<=10*L:=by
 refine mr O (Nat.lt_of_lt_of_le h ?_);rw [Nat.pow_mul];exact Nat.pow_le_pow_left zD L
theorem DG {L:Nat} (h:aT w v n L):n<4294967296^L:=by
 obtain ⟨xs,a,e,c,d⟩:=h;have:=bD a.sm;rw [c] at this;exact Nat.lt_of_lt_of_le this (Nat.pow_le_pow_right zD d)
theorem xV (bx ox:Nat) (z:Int) (L:Nat) (w:World) (h:ay w bx ox z L) (hL:L<=50000000) :
  Calls Tryz.prog 77 #[.pointer (some ⟨bx,ox,none⟩),.int .i64 10] w fun e w'=>e=.returned (.string ⟨(eI z).toArray⟩)/\w.grownBy w' none:=by
 obtain ⟨neg,v,h1,h2,h3,h4⟩:=h;obtain ⟨ao,l,ca,rfl,Y,_,hH,hI,_,_⟩:=aF h2;have c0:=h1.c0;have c1:=h1.c1;have hu:∀ W,(binOp .eql 89 (.pointer (some ⟨bx,ox,none⟩)) (.pointer none)).run Tryz.prog W=.ok (.bool false) W:=fun W=>zK
 by_cases hz:z=0
 ·have f:l=0:=Y.2 O;subst f hz;clear Y h1 h2 h3 h4;go_enter Tryz.func77,Tryz.ntmps77
  go_wp2;go_ret;refine ⟨?_,ag _ _⟩;rw [show eI 0=[48] from by simp [eI,Lib.decDigits_one]];rfl
 ·have f:0<l:=by
   rcases zP l with e | e
   ·have:=Y.1 e;omega
   ·exact e
  have hC:((l:Int)==0)=false:=by simp;omega
  obtain ⟨n,hn⟩:=eX z.natAbs;have hD:0<n:=O
  rw [<- hn] at h2;have HB:=aa h1;have HN:=aa h2;have H3:=aa h3;have K:=aa hn;clear Y h1 h2 h3 h4 hn;go_enter Tryz.func77,Tryz.ntmps77
  go_wp2_with fail;refine (qU _ n L _ HN O).mono ?_;rintro e w1 ⟨av,rfl,a1,a2,a3⟩;obtain ⟨hK,l1,hM,rfl,hq,_,hx,hy,_,_⟩:=aF a1;have A1:=aa a1;have A2:=aa a2;have hE:Lib.nDigits n<=10*L:=by
   have hlt:=DG a1;refine rL ?_ hlt;rcases zP L with e | e
   ·subst e;simp at hlt;omega
   ·exact e
  clear a1 a2 a3 hq c0 c1;go_wp2;go_loopg [5,6] n (fun k bv av wr=>Hid (TxtR w n L k bv av wr))
  case atStart=>exact ⟨n,[],eY.nil _ _,A1,⟨fun _=>Z,fun e=>O⟩,A2,rfl⟩
  case round =>
   obtain ⟨k,a,r1,r2,r3,r4,rfl⟩:=hrel.out;have hv:=r3.len;obtain ⟨bo,bc,rfl,hA,hB⟩:=r1.shape;obtain ⟨hN,l2,hQ,rfl,C,_,hR,hS,_,_⟩:=aF r2;have H:=aa r1;have R2:=aa r2;have R3:=aa r3;have I:=aa r4;clear r1 r2 r3 r4 hrel;by_cases X:k=0
   ·obtain rfl:l2=0:=C.2 X;subst X;have HD:=aa (R3.2 rfl);clear C;have M:=HB.out.keep0 I;have c0:=M.c0;clear M;by_cases q:neg=true
    ·subst q;have d:=H.out.alloc (Obj.cells #[Value.int IntKind.u8 45] 5);have c:(wr.alloc (Obj.cells #[Value.int IntKind.u8 45] 5)).cell? ⟨wr.heap.size,0,none⟩=some (.int .u8 45):=Z
     have HC:=aa c;have HO:=aa d;have s:w.heap.size<=(wr.alloc (Obj.cells #[Value.int IntKind.u8 45] 5)).heap.size:=by have:=I.out.size;simp;omega
     have D:=aa s;clear c d s;go_wp2_with (at_builtin;refine iG _ rfl _ _ rfl w.heap.size _ a rfl wr.heap.size _ 45 rfl rfl HC HO O D ?_)
     intro hp w3 J Q;have p:=aa J;have G3:=aa (Di (ab I (ae (ag _ _) _)) Q (fun b e=>(H.fresh b e).1));clear J Q;obtain ⟨m,f⟩:=eX (a++[45]);have t:Hid (m.reverse=eI z):=by
      show _=_
      rw [f];rw [List.reverse_append,<- HD,K];have E:z<0:=by simpa using H3.out.symm
      simp [eI,E]
     have A:0<m.length:=by
      have h1:=congrArg List.length t;rw [List.length_reverse] at h1;have h2:=rV z;omega
     have he:m.length<=10*L+1:=by rw [f];simp;omega
     rw [<- f] at p;clear f;obtain ⟨gb,cb,rfl,R,S,T,U⟩:=p.out.open A;go_wp2;go_loopw [8,9] (fun iv jv w5=>∃ i:Nat,i+i<=m.length+1/\iv=.int .i64 (i:Int)/\jv=.int .i64 ((m.length:Int)-1-i)/\Hid (SwpR w gb cb m i w5)) (fun iv _ _=>m.length-(intOf iv).toNat)
     case atStart=>exact ⟨0,O,rfl,zN,by rw [SwpR,xe];exact ⟨p,G3⟩⟩
     case round =>
      obtain ⟨i,hi,rfl,rfl,o⟩:=hrel;by_cases hlt:i+i+1<m.length
      ·obtain ⟨j,hj⟩:=eX (m.length-1-i);have B:((m.length:Int)-1-i)=(j:Int):=O
       obtain ⟨x,y,x1,y1,x2,y2,V⟩:=o.out.1.swap hlt hj;have ST:=aa V;have F:=aa o.2;have HJ:=aa hj;have hf:i<j:=O
       have hm:j<m.length:=O
       have ho:i<m.length:=O
       rw [B];clear V hj B o p;go_wp2;go_roundw
       case rel =>
        have hj:=HJ.out;exact ⟨i+1,O,zN,zN,ST,ah (ah F _ _ (by simp;omega)) _ _ (by simp;omega)⟩
       case measure=>exact bO
      ·have G:=o.out.1.string (by rw [cI];exact A);rw [Az m i O,t] at G;have F:=aa o.2;clear o p;go_wp2;go_ret;exact ⟨rfl,F⟩
    ·obtain rfl:neg=false:=by simpa using q
     clear q;have p:=aa H;have G3:=aa I;have t:Hid (a.reverse=eI z):=by
      show _=_
      rw [<- HD,K];have E:¬ z<0:=by simpa using H3.out.symm
      simp [eI,E]
     have A:0<a.length:=by
      have h1:=congrArg List.length t;rw [List.length_reverse] at h1;have h2:=rV z;omega
     have he:a.length<=10*L+1:=O
     obtain ⟨gb,cb,eb,R,S,T,U⟩:=p.out.open A;simp only [Value.slice.injEq,true_and] at eb;obtain ⟨rfl,rfl⟩:=eb;have hw:bc=bc:=rfl;go_wp2;go_loopw [8,9] (fun iv jv w5=>∃ i:Nat,i+i<=a.length+1/\iv=.int .i64 (i:Int)/\jv=.int .i64 ((a.length:Int)-1-i)/\Hid (SwpR w gb bc a i w5)) (fun iv _ _=>a.length-(intOf iv).toNat)
     case atStart=>exact ⟨0,O,rfl,zN,by rw [SwpR,xe];exact ⟨p,G3⟩⟩
     case round =>
      obtain ⟨i,hi,rfl,rfl,o⟩:=hrel;by_cases hlt:i+i+1<a.length
      ·obtain ⟨j,hj⟩:=eX (a.length-1-i);have B:((a.length:Int)-1-i)=(j:Int):=O
       obtain ⟨x,y,x1,y1,x2,y2,V⟩:=o.out.1.swap hlt hj;have ST:=aa V;have F:=aa o.2;have HJ:=aa hj;have hf:i<j:=O
       have hm:j<a.length:=O
       have ho:i<a.length:=O
       rw [B];clear V hj B o p;go_wp2;go_roundw
       case rel =>
        have hj:=HJ.out;exact ⟨i+1,O,zN,zN,ST,ah (ah F _ _ (by simp;omega)) _ _ (by simp;omega)⟩
       case measure=>exact bO
      ·have G:=o.out.1.string (by rw [cI];exact A);rw [Az a i O,t] at G;have F:=aa o.2;clear o p;go_wp2;go_ret;exact ⟨rfl,F⟩
   ·have hF:0<l2:=by
     rcases zP l2 with e | e
     ·exact absurd (C.1 e) X
     ·exact e
    clear C;go_wp2_with fail;refine (BW _ k L 10 _ R2 O O O).mono ?_;rintro e w2 ⟨v',r,rfl,hr,s1,s2,s3⟩;obtain ⟨hT,l3,hW,rfl,hs,_,hX,hY,_,_⟩:=aF s1;have N:r<10:=O
    have HR:=aa hr;have S1:=aa s1;have S2:=aa s2;have S3:=aa s3;clear hr s1 s2 s3 hs;have hG:(r:Int)<10:=O
    have P:(48+(r:Int))=((dgB r).toNat:Int):=byte_of r N;have c:(w2.alloc (Obj.cells #[Value.int IntKind.u8 (48+(r:Int))] 5)).cell? ⟨w2.heap.size,0,none⟩=some (.int .u8 (48+(r:Int))):=Z
    have d:=(H.keep0 S2).alloc (Obj.cells #[Value.int IntKind.u8 (48+(r:Int))] 5);have s:w.heap.size<=(w2.alloc (Obj.cells #[Value.int IntKind.u8 (48+(r:Int))] 5)).heap.size:=by have:=I.out.size;have:=S2.out.size;simp;omega
    have HU:=aa P;have HC:=aa c;have HO:=aa d;have D:=aa s;clear P c d s;go_wp2_with (at_builtin;refine iG _ rfl _ _ rfl w.heap.size _ a rfl w2.heap.size _ (dgB r) HU rfl HC HO O D ?_)
    intro hp w3 J Q;obtain ⟨ka,kb,rfl,_,_⟩:=J.shape;have p:=aa J;have O2:=aa Q;clear J Q;go_wp2;go_roundg (k / 10)
    case measure=>omega
    case rel =>
     refine ⟨k / 10,_,p,?_,?_,?_,rfl⟩
     ·refine (S1.keep0 (ae (ag _ _) _)).keep O2 ?_;intro j e h2;have h3:=S3.out j h2;have h4:=(H.fresh j e).2;omega
     ·rw [HR];exact R3.step X
     ·exact Di (ab I (ab S2 (ae (ag _ _) _))) O2 (fun b e=>(H.fresh b e).1)
theorem rT (h i j k:Nat) (x y L M:Nat) (w:World) (o:ay w h i (x:Int) L) (p:ay w j k (y:Int) M) :
  Calls Tryz.prog 76 #[.pointer (some ⟨h,i,none⟩),.pointer (some ⟨j,k,none⟩)] w fun e w'=>e=.returned (.int .i64 (jb x y))/\w.grownBy w' none:=by
 obtain ⟨t,E,d,a,l,z⟩:=o;obtain ⟨A,vy,f,c,m,B⟩:=p;have ex:t=false:=by rw [l];exact decide_eq_false O
 have q:A=false:=by rw [m];exact decide_eq_false O
 subst ex q;rw [Int.natAbs_natCast] at a c;obtain ⟨F,G,H,rfl,_,_,_,_,_,_⟩:=aF a;obtain ⟨I,J,K,rfl,_,_,_,_,_,_⟩:=aF c;have r:=aa a;have s:=aa c;have c0:=d.c0;have c1:=d.c1;have C:=f.c0;have D:=f.c1;clear d a l z f c m B;go_enter Tryz.func76,Tryz.ntmps76
 go_wp2;go_quiet (fail)
 go_wp2;go_region_with (go_at_call 123;refine (zg _ _ x y L M _ (r.keep0 (by first | exact ag _ _ | (refine ar ?_ _;first | exact ag _ _ | exact ar (ag _ _) _))) (s.keep0 (by first | exact ag _ _ | (refine ar ?_ _;first | exact ag _ _ | exact ar (ag _ _) _)))).mono ?_;rintro e N ⟨rfl,P,rfl⟩)
 all_goals
  go_wp2;go_ret;exact ⟨rfl,by repeat (first | exact ag _ _ | refine ar ?_ _)⟩
theorem ord_one (n:Nat) (h:0<n):(jb n 1==0)=decide (n=1):=by
 unfold jb;by_cases e:n=1
 ·subst e;rfl
 ·rw [if_neg O,if_neg e];simp [e]
theorem Dl (b:Nat) (q:Rat) (L:Nat) (w:World) (h:RQ w b q L) :
  Calls Tryz.prog 41 #[.pointer (some ⟨b,0,none⟩)] w fun e w'=>e=.returned (.bool (decide (q.den=1)))/\w.grownBy w' none:=by
 have H:=aa h;clear h;go_enter Tryz.func41,Tryz.ntmps41
 go_wp2_with fail;refine (tj b _ _ L _ H).mono ?_;rintro e w1 ⟨rfl,a⟩;rw [a];clear a;go_wp2_with fail;refine (dS 1 _ O O).mono ?_;rintro e p ⟨rfl,f,i,o⟩;have d:=aa f;have k:=aa i;clear f i o;go_wp2_with fail;refine (rT b 2 w.heap.size 0 q.den 1 L 2 _ (H.2.1.keep0 d) k).mono ?_;rintro e r ⟨rfl,j⟩;have l:=aa (ab d j);have c:=ord_one q.den q.den_pos;clear j;generalize jb q.den 1=oo at c ⊢;have m:=aa c;clear c;go_wp2;go_ret;refine ⟨?_,l⟩;rw [<- m];rfl
theorem CL (b:Nat) (q:Rat) (L:Nat) (w:World) (h:RQ w b q L) (l:L<=400000000) :
  Calls Tryz.prog 44 #[.pointer (some ⟨b,0,none⟩)] w fun e w'=>∃ c,e=.returned (.pointer (some ⟨c,0,none⟩))/\ay w' c 0 (q.den:Int) L/\w.grownBy w' none:=by
 have H:=aa h;clear h;go_enter Tryz.func44,Tryz.ntmps44
 go_wp2_with fail;have d:=ae (ag w none) (.cells #[.bool false,.slice none 0 0] 101);have f:=aa (H.keep0 d);refine (tj b _ _ L _ f).mono ?_;rintro e w1 ⟨rfl,a⟩;rw [a];clear a;go_wp2_with fail;refine (qJ w.heap.size 0 b 2 false (.slice none 0 0) (q.den:Int) L _ (fP w) f.2.1 O).mono ?_;rintro e m ⟨rfl,k1,i,k⟩;have G:=aa (cD d k1 zL);have j:=aa i;clear k1 i k d;go_wp2;go_ret;exact ⟨_,rfl,j,G⟩
theorem gT (b o:Nat) (z:Int) (L:Nat) (w:World) (h:ay w b o z L) (c:L<=50000000) :
  Calls Tryz.prog 43 #[.pointer (some ⟨b,o,none⟩)] w fun e w'=>e=.returned (.string ⟨(eI z).toArray⟩)/\w.grownBy w' none:=by
 have H:=aa h;clear h;go_enter Tryz.func43,Tryz.ntmps43
 go_wp2_with fail;refine (xV b o z L _ H c).mono ?_;rintro e w1 ⟨rfl,a⟩;have G:=aa a;clear a;go_wp2;go_ret;exact ⟨rfl,G⟩
theorem DF (b:Nat) (q:Rat) (L:Nat) (w:World) (h:RQ w b q L) :
  Calls Tryz.prog 42 #[.pointer (some ⟨b,0,none⟩)] w fun e w'=>e=.returned (.pointer (some ⟨b,0,none⟩))/\w'=w:=by
 obtain ⟨c,v1,a,_⟩:=h.1;have c0:=a.c0;clear a h;go_enter Tryz.func42,Tryz.ntmps42
 go_wp2;go_ret;exact ⟨rfl,rfl⟩
theorem Bo (n:Nat):eI (n:Int)=Lib.decDigits n:=by
 unfold eI;rw [if_neg O,Int.natAbs_natCast]
theorem wh (q:Rat):bZ q=eI q.num++(if q.den=1 then [] else [47]++eI (q.den:Int)):=by
 rw [Bo];unfold bZ eI rB rN;by_cases h:q.num<0
 ·simp [h]
 ·simp [h]
theorem nG {o:Nat} {z:Int} {L:Nat} (h:ay w b o z L) (d:L<=50000000):(eI z).length<=500000002:=by
 obtain ⟨_,_,_,c,_⟩:=h;have a:=DG c;have f:(Lib.decDigits z.natAbs).length<=500000001:=by
  rw [Lib.decDigits_length];rcases zP L with e | e
  ·subst e;have:z.natAbs=0:=by simpa using a
   rw [this,Lib.nDigits_small zD];omega
  ·have:=rL e a;omega
 unfold eI;split
 ·simp;omega
 ·omega
theorem rT_at (b:Nat) (q:Rat) (L:Nat) (w:World) (h:RQ w b q L) (t:L<=50000000) :
  Calls Tryz.prog 20 #[.pointer (some ⟨b,0,none⟩)] w fun e w'=>e=.returned (.string ⟨(bZ q).toArray⟩)/\w.grownBy w' none:=by
 have H:=aa h;have o:=nG h.1 t;have p:=nG h.2.1 t;obtain ⟨A,l⟩:=eX (eI q.num);obtain ⟨B,m⟩:=eX (eI (q.den:Int));have k:Hid (bZ q=A++(if q.den=1 then [] else [47]++B)):=by show _=_;rw [l,m];exact wh q
 rw [<- l] at o;rw [<- m] at p;have x:=aa l;have C:=aa m;clear h l m;go_enter Tryz.func20,Tryz.ntmps20
 go_wp2_with fail;refine (Dl b q L _ H).mono ?_;rintro e w1 ⟨rfl,s⟩;have y:=aa s;have j:=aa (H.keep0 s);clear s;by_cases hd:q.den=1
 ·rw [decide_eq_true hd];have a:=k.out;rw [if_pos hd,List.append_nil] at a;have f:=aa a;clear a k hd;go_wp2_with fail;refine (DF b q L _ j).mono ?_;rintro e I ⟨rfl,d⟩;rw [d];clear d;go_wp2_with fail;refine (gT b 0 q.num L _ j.1 O).mono ?_;rintro e J ⟨rfl,i⟩;have r:=aa (ab y i);clear i;rw [<- x];go_wp2;go_ret;rw [f];exact ⟨rfl,r⟩
 ·rw [decide_eq_false hd];have a:=k.out;rw [if_neg hd] at a;have f:=aa a;clear a k hd;go_wp2_with fail;refine (DF b q L _ j).mono ?_;rintro e I ⟨rfl,d⟩;rw [d];clear d;go_wp2_with fail;refine (gT b 0 q.num L _ j.1 O).mono ?_;rintro e J ⟨rfl,i⟩;have r:=aa (ab y i);have D:=aa (j.keep0 i);clear i;rw [<- x];go_wp2_with fail;refine (CL b q L _ D O).mono ?_;rintro e K ⟨c,rfl,c1,c2⟩;have E:=aa c1;have F:=aa (ab r c2);clear c1 c2;go_wp2_with fail;refine (gT c 0 (q.den:Int) L _ E O).mono ?_;rintro e M ⟨rfl,z⟩;have G:=aa (ab F z);clear z;rw [<- C];go_wp2;go_ret;rw [f];refine ⟨?_,G⟩;first | rfl | (simp;apply ByteArray.ext;simp [ByteArray.data_append])
theorem Bn (b L:Nat) (w:World) (h:pP w b L) :
  Calls Tryz.prog 41 #[.pointer (some ⟨b,0,none⟩)] w fun e w'=>e=.returned (.bool true)/\w.grownBy w' none:=by
 have H:=aa h;clear h;have a:(jb 1 1==0)=true:=by rw [tG];rfl
 go_enter Tryz.func41,Tryz.ntmps41
 go_wp2_with fail;refine (zi b L _ H).mono ?_;rintro e w1 ⟨rfl,d,f,q⟩;have l:=aa d;have m:Hid (ay w1 w.heap.size 0 ((1:Nat):Int) 2):=f;clear d f q;go_wp2_with fail;refine (dS 1 _ O O).mono ?_;rintro e r ⟨rfl,i,j,s⟩;have c:=aa i;have o:Hid (ay r w1.heap.size 0 ((1:Nat):Int) 2):=j;clear i j s;go_wp2_with fail;refine (rT w.heap.size 0 w1.heap.size 0 1 1 2 2 _ (m.keep0 c) o).mono ?_;rintro e t ⟨rfl,k⟩;have p:=aa (ab l (ab c k));clear k;generalize jb 1 1=oo at a ⊢;go_wp2;go_ret;exact ⟨by first | rfl | rw [a],p⟩
theorem Bz (b L:Nat) (w:World) (h:pP w b L) :
  Calls Tryz.prog 42 #[.pointer (some ⟨b,0,none⟩)] w fun e w'=>e=.returned (.pointer (some ⟨b,0,none⟩))/\w'=w:=by
 obtain ⟨c,v1,a,_⟩:=h.1;have c0:=a.c0;clear a h;go_enter Tryz.func42,Tryz.ntmps42
 go_wp2;go_ret;exact ⟨rfl,rfl⟩
theorem rT_nil (b L:Nat) (w:World) (h:pP w b L) (k:L<=50000000) :
  Calls Tryz.prog 20 #[.pointer (some ⟨b,0,none⟩)] w fun e w'=>e=.returned (.string ⟨(bZ 0).toArray⟩)/\w.grownBy w' none:=by
 have H:=aa h;clear h;have l:Hid (bZ 0=eI 0):=by show _=_;rw [wh,if_pos (by rfl),List.append_nil];rfl
 rw [l];have c:=nG H.1 k;obtain ⟨A,d⟩:=eX (eI 0);rw [<- d] at c ⊢;have m:=aa d;clear d;go_enter Tryz.func20,Tryz.ntmps20
 go_wp2_with fail;refine (Bn b L _ H).mono ?_;rintro e w1 ⟨rfl,f⟩;have o:=aa f;have i:=aa (H.keep0 f);clear f;go_wp2_with fail;refine (Bz b L _ i).mono ?_;rintro e q ⟨rfl,a⟩;rw [a];clear a;go_wp2_with fail;refine (gT b 0 0 L _ i.1 O).mono ?_;rintro e r ⟨rfl,j⟩;have p:=aa (ab o j);clear j;rw [<- m];go_wp2;go_ret;exact ⟨rfl,p⟩
theorem yH (b:Nat) (q:Rat) (L K:Nat) (w:World) (h:RV w b q L) (c:bh K q) (a:K<=50000000) :
  Calls Tryz.prog 20 #[.pointer (some ⟨b,0,none⟩)] w fun e w'=>e=.returned (.string ⟨(bZ q).toArray⟩)/\w.grownBy w' none:=by
 have k:=h.tightW c;clear h;rcases k with h | ⟨rfl,h⟩
 ·exact rT_at b q K w h a
 ·exact rT_nil b K w h a
theorem sR (c i:Int) (w:World):Calls Tryz.prog 18 #[.int .i64 c,.int .i64 i] w fun e w'=>e=.returned (.agg #[.int .i64 c,.int .i64 i])/\w.grownBy w' none:=by
 go_enter Tryz.func18,Tryz.ntmps18
 go_wp2
 all_goals exact bodyPost_ret (v:=.agg #[.int .i64 c,.int .i64 i]) (by simp [results,Tryz.results18,go_sem]) rfl ⟨rfl,by repeat (first | exact ag _ _ | refine ae ?_ _ | refine ar ?_ _ | (refine ah ?_ _ _ Z))⟩
theorem tB (x a:Int) (g:Nat) (w:World) (hc:w.cell? ⟨g,0,none⟩=some (.int .i64 a)) :
  Calls Tryz.prog 26 #[.int .i64 x,.pointer (some ⟨g,0,none⟩)] w fun e w'=>e=.returned (.bool (ft x a))/\w'=w:=by
 by_cases h:0<=x
 ·go_enter Tryz.func26,Tryz.ntmps26
  go_wp2;go_ret;refine ⟨?_,rfl⟩;unfold ft;rw [show decide (0<=x)=true from by simpa using h];simp
 ·go_enter Tryz.func26,Tryz.ntmps26
  go_wp2;go_ret;refine ⟨?_,rfl⟩;unfold ft;rw [show decide (0<=x)=false from by simpa using h];rfl
theorem Et (v:ByteArray):decide (oI (sg (hJ v.data.toList).1 (hJ v.data.toList).2.1)<=0)=decide (lW v<=0):=by
 unfold lW nf oI sg;generalize (hJ v.data.toList).1=neg;generalize (hJ v.data.toList).2.1=n;cases neg
 ·by_cases hn:n=0
  ·subst hn;simp
  ·have a:0<n:=O
   have c:¬ ((n:Int)<0):=O
   simp [hn,a,c]
 ·by_cases hn:n=0
  ·subst hn;simp
  ·have:0<n:=O
   simp [this]
theorem wd_all (k e pb c d:Int) (v:ByteArray) (a:Int):dq false ⟨k,e,pb,c,d,v⟩ a=if (decide (k<1) || decide (8<k) || (k==8))=true then 3 else if (!(ft e a) || !(ft pb a) || ((k==6 || k==7) && !(ft c a && ft d a)))=true then 4 else if (decide (k<4) && decide (lW v<=0))=true then 5 else if (!(k==6 || k==7) && (c != 0 || d != 0))=true then 6 else 0:=by
 by_cases i:(k=1∨k=2∨k=3∨k=4∨k=5∨k=6∨k=7)
 ·rcases i with rfl | rfl | rfl | rfl | rfl | rfl | rfl<;>simp [dq,lh,kZ,jJ,fz,eP]
 ·rw [if_pos (by simp;omega)];unfold dq lh;by_cases f:k=8
  ·rw [if_pos ⟨f,rfl⟩]
  ·rw [if_neg (fun h=>f h.1),if_pos (by show k<1∨9<=k;omega)]
def RChkR (W:World) (nodes:Int) (ps:List aD) (C:Int×Int) (iv:Value) (wr:World):Prop:=∃ i:Nat,i<=ps.length/\iv=.int .i64 i/\bw false nodes (ps.drop i) i=C/\W.grownBy wr none
theorem oF (a:Int) (pv:Value) (ps:List aD) (w:World) (hb:lM w) (hp:aA w pv ps) (U:∀ i (h:i<ps.length),ps[i].v.size<=100000000) :
  Calls Tryz.prog 6 #[.agg #[.int .i64 a,pv],.bool false] w fun e w'=>sP false w a ps e w':=by
 obtain ⟨po,I,rfl,_⟩:=id hp;obtain ⟨_,⟨m,he⟩,_⟩:=hb;have ho:=aa U;clear U;obtain ⟨ao,cap,e,S,h2,h3⟩:=hp;simp only [Value.slice.injEq,true_and] at e;obtain ⟨rfl,rfl⟩:=e;unfold maxLen at h2;have HP:=aa h3;have hq:=aa he;obtain ⟨C,hC⟩:=eX (bw false a ps 0);have V:=aa hC;clear h3 he hC;obtain ⟨W,hW⟩:=eX ((w.alloc (Obj.cells #[.int .i64 a,.slice po ps.length I] 24)).alloc (Obj.cells #[.int .i64 0,.int .i64 0] 29));have G:Hid (w.grownBy W none):=by rw [hW];exact ae (ae (ag _ _) _) _
 have H:Hid (∀ wr:World,W.grownBy wr none->wr.cell? ⟨w.heap.size+1,0,none⟩=some (.int .i64 0)/\wr.cell? ⟨w.heap.size+1,1,none⟩=some (.int .i64 0)/\(∀ i,wr.frozen? ⟨w.heap.size+1,i,none⟩=false)/\wr.cell? ⟨w.heap.size,0,none⟩=some (.int .i64 a)/\wr.cell? ⟨w.heap.size,1,none⟩=some (.slice po ps.length I)):=by
  intro wr hg;rw [hW] at hg;have:=mZ hg;exact ⟨by simpa using this.1,by simpa using this.2.1,by simpa using this.2.2,hg.cell zG Z,hg.cell zG Z⟩
 go_enter Tryz.func6,Tryz.ntmps6
 go_upto_region 1 with fail;rw [<- hW];clear hW;obtain ⟨_,_,_,J,n1⟩:=H.out W (ag _ _);go_cut [22] (fun s22 wx=>Hid (s22=.bool (decide (a<1) || decide (8<a) || decide ((16:Int)<(ps.length:Int)))/\W=wx))
 case first =>
  cases S:decide (a<1)<;>cases h2:decide (8<a)<;>(go_wp2_with fail;go_meet;exact ⟨by rw [S,h2];rfl,rfl⟩)
 case rest =>
  obtain ⟨rfl,rfl⟩:=hcut.out;obtain ⟨hw,M⟩:=eX (decide (a<1) || decide (8<a) || decide ((16:Int)<(ps.length:Int)));rw [<- M];have X:=aa M;clear M hcut;cases hw
  case true =>
   go_wp2_with fail;refine (sR 2 0 _).mono ?_;rintro e w1 ⟨rfl,f1⟩;obtain ⟨x,r1,c,_⟩:=H.out w1 f1;have o:=c 0;have q:=c 1;have A:=aa f1;clear c f1;go_wp2;exact bodyPost_ret (v:=.agg #[.int .i64 2,.int .i64 0]) (by simp [results,Tryz.results6,go_sem,x,r1]) rfl ⟨by unfold aM;rw [if_pos (by have:=X.out;simp at this;omega)],ah (ah (ab G A) _ _ Z) _ _ Z⟩
  case false =>
   have r:Hid (aM false a ps=C/\ps.length<=16):=by
    have h:=X.out;simp at h;exact ⟨by unfold aM;rw [if_neg O];exact V.symm,O⟩
   go_wp2;go_loopw [27] (fun iv wr=>Hid (RChkR W a ps C iv wr)) (fun iv _=>ps.length-(intOf iv).toNat)
   case atStart=>exact ⟨0,O,rfl,V.symm,ag _ _⟩
   case round =>
    obtain ⟨i,hi,rfl,hF,hf⟩:=hrel.out;have HF:=aa hF;clear hF;have B:=aa hf;clear hf hrel J n1;by_cases hlt:i<ps.length
    ·obtain ⟨b,off,rfl,hb,c0,c1,c2,c3,c4,c5,c6⟩:=HP.out i hlt;have f:=ab G B;have q0:=f.cell c0 Z;have q1:=f.cell c1 Z;have q2:=f.cell c2 Z;have q3:=f.cell c3 Z;have q4:=f.cell c4 Z;have q5:=f.cell c5 Z;have L:ps.drop i=ps[i] :: ps.drop (i+1):=List.drop_eq_getElem_cons hlt;have D:=ho.out i hlt;generalize ps[i]=p at q0 q1 q2 q3 q4 q5 c6 L D;obtain ⟨k,E,pb,l,y,v⟩:=p;simp only at q0 q1 q2 q3 q4 q5 c6 D;have s:Hid (C=if dq false ⟨k,E,pb,l,y,v⟩ a=0 then bw false a (ps.drop (i+1)) (i+1) else (dq false ⟨k,E,pb,l,y,v⟩ a,(i:Int))):=by
      have h:=HF.out;rw [L,bw] at h;exact h.symm
     have d:=aa (wd_all k E pb l y v a);have hr:=aa D;clear L D HF;obtain ⟨T,N⟩:=eX wr.heap.size;obtain ⟨P,F⟩:=eX (wr.alloc (Obj.cells #[.int .i64 k,.int .i64 E,.int .i64 pb,.int .i64 l,.int .i64 y,.string v] 60));have j:Hid (W.grownBy P none):=by rw [F];exact ae B _
     have PW:Hid (∀ wx:World,P.grownBy wx none->wx.cell? ⟨T,0,none⟩=some (.int .i64 k)/\wx.cell? ⟨T,1,none⟩=some (.int .i64 E)/\wx.cell? ⟨T,2,none⟩=some (.int .i64 pb)/\wx.cell? ⟨T,3,none⟩=some (.int .i64 l)/\wx.cell? ⟨T,4,none⟩=some (.int .i64 y)/\wx.cell? ⟨T,5,none⟩=some (.string v)/\wx.cell? ⟨w.heap.size,0,none⟩=some (.int .i64 a)):=by
      intro wx hg;have h0:=(H wx (ab j hg)).2.2.2.1;rw [F] at hg;rw [N];exact ⟨hg.cell zG Z,hg.cell zG Z,hg.cell zG Z,hg.cell zG Z,hg.cell zG Z,hg.cell zG Z,h0⟩
     clear c0 c1 c2 c3 c4 c5 f;go_upto_region 6 with fail;rw [<- F,<- N];clear F N q0 q1 q2 q3 q4 q5;obtain ⟨p0,p1,p2,p3,p4,p5,J⟩:=PW.out P (ag _ _);go_cut [7] from 28 to 126 (fun s7 wx=>s7=.bool (k==6 || k==7)/\P=wx)
     case first =>
      cases S:(k==6)<;>(go_wp2_with fail;go_meet;exact ⟨by rw [S];rfl,rfl⟩)
     case rest =>
      obtain ⟨rfl,rfl⟩:=hcut;obtain ⟨lead,z⟩:=eX (k==6 || k==7);rw [<- z] at d ⊢;clear z;go_upto_region 8 with fail;go_cut [57] from 28 to 126 (fun s57 wx=>s57=.bool (decide (k<1) || decide (8<k) || (k==8))/\P=wx)
      case first =>
       cases S:decide (k<1)<;>cases h2:decide (8<k)<;>cases h3:(k==8)<;>(go_wp2_with fail;go_meet;exact ⟨by rw [S,h2,h3];rfl,rfl⟩)
      case rest =>
       obtain ⟨rfl,rfl⟩:=hcut;obtain ⟨hx,Q⟩:=eX (decide (k<1) || decide (8<k) || (k==8));rw [<- Q] at d ⊢;have hs:=aa Q;clear Q;cases hx
       case true =>
        go_wp2_with fail;refine (sR 3 _ _).mono ?_;rintro e w1 ⟨rfl,f1⟩;obtain ⟨x,r1,c,_⟩:=H.out w1 (ab j f1);have o:=c 0;have q:=c 1;have A:=aa f1;clear c f1;go_wp2;exact bodyPost_ret (v:=.agg #[.int .i64 3,.int .i64 i]) (by simp [results,Tryz.results6,go_sem,x,r1]) rfl ⟨by rw [r.1,s,d];rfl,ah (ah (ab (ab G j) A) _ _ Z) _ _ Z⟩
       case false =>
        go_upto_region 10 with fail;go_cut [87] from 28 to 126 (fun s87 wx=>s87=.bool (!(ft E a) || !(ft pb a) || (lead && !(ft l a && ft y a)))/\P=wx)
        case first =>
         go_wp2_with fail;refine (tB E a _ _ J).mono ?_;rintro e _ ⟨rfl,rfl⟩;cases hA:ft E a
         case false=>go_wp2_with fail;go_meet;exact ⟨by simp [*],rfl⟩
         case true =>
          go_wp2_with fail;refine (tB pb a _ _ J).mono ?_;rintro e _ ⟨rfl,rfl⟩;cases hB:ft pb a
          case false=>go_wp2_with fail;go_meet;exact ⟨by simp [*],rfl⟩
          case true =>
           cases lead
           case false=>go_wp2_with fail;go_meet;exact ⟨by simp [*],rfl⟩
           case true =>
            go_wp2_with fail;refine (tB l a _ _ J).mono ?_;rintro e _ ⟨rfl,rfl⟩;cases hCc:ft l a
            case false=>go_wp2_with fail;go_meet;exact ⟨by simp [*],rfl⟩
            case true =>
             go_wp2_with fail;refine (tB y a _ _ J).mono ?_;rintro e _ ⟨rfl,rfl⟩;go_wp2_with fail;go_meet;exact ⟨by simp [*],rfl⟩
        case rest =>
         obtain ⟨rfl,rfl⟩:=hcut;obtain ⟨hy,hj⟩:=eX (!(ft E a) || !(ft pb a) || (lead && !(ft l a && ft y a)));rw [<- hj] at d ⊢;clear hj;cases hy
         case true =>
          go_wp2_with fail;refine (sR 4 _ _).mono ?_;rintro e w1 ⟨rfl,f1⟩;obtain ⟨x,r1,c,_⟩:=H.out w1 (ab j f1);have o:=c 0;have q:=c 1;have A:=aa f1;clear c f1;go_wp2;exact bodyPost_ret (v:=.agg #[.int .i64 4,.int .i64 i]) (by simp [results,Tryz.results6,go_sem,x,r1]) rfl ⟨by rw [r.1,s,d];rfl,ah (ah (ab (ab G j) A) _ _ Z) _ _ Z⟩
         case false =>
          go_upto_region 12 with fail;go_cut [99] from 28 to 126 (fun s99 wx=>Hid (s99=.bool (decide (k<4) && decide (lW v<=0))/\P.grownBy wx none))
          case first =>
           cases h4:decide (k<4)
           case false=>go_wp2_with fail;go_meet;exact ⟨by rw [h4];rfl,ag _ _⟩
           case true =>
            have Y:=(ab G j).cell hq Z;have hu:=hr.out;go_wp2_with fail;refine (wF v m _ O Y).mono ?_;intro e w1 hE;obtain ⟨nb,rfl,g1,_,i3,_⟩:=hE;have G1:=aa g1;have I3:=aa i3;clear g1 i3 Y hu;go_wp2_with fail;refine (mw nb _ _ _ I3).mono ?_;rintro e wx ⟨rfl,rfl⟩;have hv:=Et v;go_wp2_with fail;go_meet;exact ⟨by rw [h4,Bool.true_and,<- hv],G1⟩
          case rest =>
           obtain ⟨rfl,R⟩:=hcut.out;obtain ⟨hz,hl⟩:=eX (decide (k<4) && decide (lW v<=0));rw [<- hl] at d ⊢;clear hl;have t:=aa (ab j R);clear p0 p1 p2 p3 p4 p5 J;obtain ⟨p0,p1,p2,p3,p4,p5,J⟩:=PW.out _ R;clear R hcut;cases hz
           case true =>
            go_wp2_with fail;refine (sR 5 _ _).mono ?_;rintro e w1 ⟨rfl,f1⟩;obtain ⟨x,r1,c,_⟩:=H.out w1 (ab t f1);have o:=c 0;have q:=c 1;have A:=aa f1;clear c f1;go_wp2;exact bodyPost_ret (v:=.agg #[.int .i64 5,.int .i64 i]) (by simp [results,Tryz.results6,go_sem,x,r1]) rfl ⟨by rw [r.1,s,d];rfl,ah (ah (ab (ab G t) A) _ _ Z) _ _ Z⟩
           case false =>
            go_upto_region 14 with fail;go_cut [123] from 28 to 126 (fun s123 wx=>s123=.bool (!lead && (l != 0 || y != 0))/\wc=wx)
            case first =>
             have h8:(k==8)=false:=by
              have h:=hs.out;cases hk:(k==8) with
              | false=>rfl
              | true=>rw [hk,Bool.or_true] at h;cases h
             cases lead<;>cases h5:(l != 0)<;>cases h6:(y != 0)<;>(go_wp2_with fail;go_meet;exact ⟨by rw [h5,h6];rfl,rfl⟩)
            case rest =>
             obtain ⟨rfl,rfl⟩:=hcut;obtain ⟨hm,K⟩:=eX (!lead && (l != 0 || y != 0));rw [<- K] at d ⊢;clear K;cases hm
             case true =>
              go_wp2_with fail;refine (sR 6 _ _).mono ?_;rintro e w1 ⟨rfl,f1⟩;obtain ⟨x,r1,c,_⟩:=H.out w1 (ab t f1);have o:=c 0;have q:=c 1;have A:=aa f1;clear c f1;go_wp2;exact bodyPost_ret (v:=.agg #[.int .i64 6,.int .i64 i]) (by simp [results,Tryz.results6,go_sem,x,r1]) rfl ⟨by rw [r.1,s,d];rfl,ah (ah (ab (ab G t) A) _ _ Z) _ _ Z⟩
             case false =>
              go_wp2;go_roundw
              case rel=>exact ⟨i+1,O,zN,by rw [s,d];rfl,t⟩
              case measure=>exact bO
    ·obtain rfl:i=ps.length:=O
     obtain ⟨x,r1,c,_⟩:=H.out wr B;have o:=c 0;have q:=c 1;clear c;go_wp2;exact bodyPost_ret (v:=.agg #[.int .i64 0,.int .i64 0]) (by simp [results,Tryz.results6,go_sem,x,r1]) rfl ⟨by rw [r.1,<- HF,List.drop_of_length_le zL];rfl,ah (ah (ab G B) _ _ Z) _ _ Z⟩
theorem jx {P:Program} {f:Array Oper} {o:Oper} {a:Act} {w:World} {K:Act->World->Prop} {Q:Exit->Act->World->Prop} {E:Prop}
  (hgd:o.guard=none) (s x:Operand) (t:TypeId) (ho:o.op=Op.call { callee:=Callee.builtin Builtin.append,args:=#[s,x],argTypes:=#[t,t] })
  (base:Nat) (e:TypeId) (i:TypeInfo) (size:Nat) (ht:P.underlying t=some (.slice e)) (hi:P.info? e=some i) (hsize:i.size=size)
  (g n cap:Nat) (xs:List Value) (hs:a.eval s=.slice (some ⟨g,0,none⟩) n cap) (hown:w.ownsRow base e size (.slice (some ⟨g,0,none⟩) n cap) n xs)
  (src:Value) (m:Nat) (news:List Value) (hx:a.eval x=src) (hsrc:(src=.slice none 0 0/\m=0)∨∃ ad c,src=.slice (some ad) m c/\∀ j u,news[j]? = some u->w.cell? (ad.add j)=some u)
  (hl:news.length=m*size) (h1:∀ u∈news,u.oneCell'=true) (hroom:n+m<=cap)
  (h:∀ w',w'.ownsRow base e size (.slice (some ⟨g,0,none⟩) (n+m) cap) (n+m) (xs++news)->w.grownBy w' (some g)->K (a.put o.dst (.slice (some ⟨g,0,none⟩) (n+m) cap)) w') :
  if Region.wanted o (yielded f a.tmps)=true then Oper.wp P o a w K Q else E:=by
 have p:Region.wanted o (yielded f a.tmps)=true:=by simp [Region.wanted,hgd]
 rw [if_pos p];rcases hsrc with ⟨rfl,rfl⟩ | ⟨ad,c,rfl,d⟩
 ·have k:=run_append_owned_none (P:=P) w base t o.type e i size ht hi _ n xs hown;have l:news=[]:=List.eq_nil_of_length_eq_zero (by simpa using hl);subst l;unfold Oper.wp execOp;simp only [ho,resolve,invoke,builtin,Sem.run_bind,Sem.run_pure,Result.andThen_ok,List.map_toArray,List.map_cons,List.map_nil,hs,hx,k];refine h w ?_ ⟨rfl,rfl,rfl,zL,fun _ _ _=>rfl⟩;rw [List.append_nil];exact hown
 ·obtain ⟨w',k,k1,q⟩:=run_append_fits (P:=P) w base t o.type e i size ht hi hsize g n cap xs hown ad m c news hl d h1 hroom;unfold Oper.wp execOp;simp only [ho,resolve,invoke,builtin,Sem.run_bind,Sem.run_pure,Result.andThen_ok,List.map_toArray,List.map_cons,List.map_nil,hs,hx,k];exact h w' k1 q
theorem tI {c:Array Value} {e:TypeId} {a:Nat} (h:w.heap[g]? = some (.cells c e (0,0))) (hb:base<=g) (d:cap<=maxLen) (f:c.size=cap*a) :
  w.ownsRow base e a (.slice (some ⟨g,0,none⟩) 0 cap) 0 [] :=
 ⟨Z,.inr ⟨g,cap,c,rfl,hb,h,Nat.zero_le _,d,f,Z⟩⟩
theorem BE {e:TypeId} {a:Nat} {xs:List Value} {row:Option Nat} (h:w.ownsRow base e a (.slice (some ⟨g,0,none⟩) n cap) n xs) (hg:w.grownBy w' row) (j:some g≠row):w'.ownsRow base e a (.slice (some ⟨g,0,none⟩) n cap) n xs:=by
 refine ⟨h.1,?_⟩;rcases h.2 with ⟨c,_⟩ | ⟨p,f,d,c,k1,i,k,l,m,o⟩
 ·simp at c
 ·simp only [Value.slice.injEq,zI,Addr.mk.injEq,and_true,true_and] at c;obtain ⟨rfl,rfl⟩:=c;exact .inr ⟨g,cap,d,rfl,k1,by rw [hg.block g (zZ i).1 j];exact i,k,l,m,o⟩
def LendE (w:World) (ps:List aD) (mk:aD) (e:Ending) (w':World):Prop :=
 ∃ g,e=.returned (.slice (some ⟨g,0,none⟩) ps.length (ps.length+3))/\aA w' (.slice (some ⟨g,0,none⟩) (ps.length+3) (ps.length+3)) (ps++[mk,mk,mk])/\w.heap.size<=g/\w.grownBy w' none
theorem Dt {W:World} {mk:aD} (h:W.ownsRow w.heap.size 60 6 (.slice (some ⟨g,0,none⟩) (ps.length+3) (ps.length+3)) (ps.length+3) (aK ps++aK [mk,mk,mk])) (hg:w.grownBy W none) (hn:ps.length<=100000000) (l:∀ i (h:i<ps.length),ps[i].v.size<=600000000) (f:mk.v.size<=600000000) :
  LendE w ps mk (.returned (.slice (some ⟨g,0,none⟩) ps.length (ps.length+3))) W:=by
 have a:=fun j (hj:j<(ps.length+3)*6)=>World.ownsRow.cellAt h j hj
 rcases h.2 with ⟨e,_⟩ | ⟨r,k,m,e,k1,o,s,q,t,x⟩
 ·simp at e
 ·simp only [Value.slice.injEq,zI,Addr.mk.injEq,and_true,true_and] at e;obtain ⟨rfl,rfl⟩:=e;refine ⟨g,rfl,iD (zZ o).1 Z zL q ?_ ?_,k1,hg⟩
  ·intro i hi;have d:∀ p∈ps++[mk,mk,mk],p.v.size<=600000000:=by
    intro p c;rcases List.mem_append.1 c with c | c
    ·obtain ⟨i,hi,rfl⟩:=List.getElem_of_mem c;exact l i hi
    ·simp only [List.mem_cons,List.not_mem_nil,or_false,or_self] at c;subst c;exact f
   exact d _ (List.getElem_mem hi)
  ·intro j hj;rw [a j hj,ir]
theorem push1 {h:Array Obj} {a b:Obj} : ((h.push a).push b)[h.size+1]? = some b:=by
 rw [Array.getElem?_push,if_pos Z]
theorem gr_tail {w1 a:World} {r:Option Nat} (h:w.grownBy w1 none) (k:w1.grownBy a r):w.grownBy a r:=aj h k nofun (fun _ _ e=>e)
theorem Dh {w1:World} (h:w.grownBy w1 (some g)) (hg:w.heap.size<=g):w.grownBy w1 none:=⟨h.os,h.tape,h.output,h.size,fun k a _=>h.block k a (by intro e;have:=zJ e;omega)⟩
def ldS:List (Nat×Bool):=[(0,false),(0,true),(1,false),(1,true),(2,false),(2,true),(3,true),(4,true)]
def ldL:Nat×Bool->Array Bool | (k,z)=>#[true,true,true,decide (1<=k),true,decide (2<=k),true,true,true,z,decide (3<=k),decide (4<=k)]
def ldM:Nat×Bool->Nat | (k,z)=>(4-k)+(if z then 0 else 1)
def ldD:Nat×Bool->List Nat | (k,z)=>(if k=0 then [3] else [])++(if k=1 then [5] else [])++(if z then [] else [9])++(if k=2/\z then [10] else [])++(if k=3 then [11] else [])
def ldX:Nat×Bool->Nat->Nat×Bool | (k,z),i=>if i=9 then (k,true) else (k+1,z)
def ldN (ps:List aD) (k:Nat):Nat:=if k=1 then 0 else if k=2 then ps.length else ps.length+3
def ldC (ps l:List aD) (k:Nat):List Value:=if k=1 then [] else if k=2 then aK ps else aK ps++aK l
theorem ld_end {k:Nat} {z:Bool} (a:(k,z)∈ldS) (c:ldD (k,z)=[]):k=4/\z=true:=by
 revert c
 simp only [ldS,List.mem_cons,Prod.mk.injEq,List.not_mem_nil,or_false] at a;rcases a with ⟨rfl,rfl⟩ | ⟨rfl,rfl⟩ | ⟨rfl,rfl⟩ | ⟨rfl,rfl⟩ | ⟨rfl,rfl⟩ | ⟨rfl,rfl⟩ | ⟨rfl,rfl⟩ | ⟨rfl,rfl⟩<;>decide
theorem ld_mem {k i:Nat} {z:Bool} (a:(k,z)∈ldS) (h:i∈ldD (k,z)):(i=3/\k=0)∨(i=5/\k=1)∨(i=9/\z=false)∨(i=10/\k=2/\z=true)∨(i=11/\k=3/\z=true):=by
 simp only [ldS,List.mem_cons,Prod.mk.injEq,List.not_mem_nil,or_false] at a;rcases a with ⟨rfl,rfl⟩ | ⟨rfl,rfl⟩ | ⟨rfl,rfl⟩ | ⟨rfl,rfl⟩ | ⟨rfl,rfl⟩ | ⟨rfl,rfl⟩ | ⟨rfl,rfl⟩ | ⟨rfl,rfl⟩<;>simp [ldD] at h<;>first | (subst h;decide) | (rcases h with h | h<;>subst h<;>decide)
theorem sV {o:Obj} (h:w.heap[g]? = some o):g<w.heap.size:=(zZ h).1
theorem AJ {o x:Obj} (h:w.heap[g]? = some o):(w.alloc x).heap[g]? = some o:=by
 rw [(ae (ag w none) x).block g (sV h) Z];exact h
theorem zw {W w1:World} (h:W.grownBy w none) (k:w.grownBy w1 (some g)) (hg:W.heap.size<=g):W.grownBy w1 none:=Dh (gr_tail h k) hg
theorem own_ltL {a m:Nat} {e:TypeId} {xs:List Value} (h:w.ownsRow base e a (.slice (some ⟨g,0,none⟩) n cap) m xs):g<w.heap.size:=(World.ownsRow.lt h _ rfl).2
theorem lend_at (pv:Value) (ps:List aD) (mk:aD) (w:World) (hp:aA w pv ps) (B:∀ c,pv=.slice none 0 c->c=0) (hn:ps.length<=100000000) (I:mk.v.size<=600000000) :
  Calls Tryz.prog 25 #[pv,mk.val] w fun e w'=>LendE w ps mk e w':=by
 obtain ⟨C,cap,t,h1,h2,U⟩:=hp;have HP:Hid (aA w pv ps):=⟨C,cap,t,h1,h2,U⟩;have HZ:Hid (∀ i (h:i<ps.length),ps[i].v.size<=600000000):=fun i h=>by obtain ⟨_,_,_,_,_,_,_,_,_,_,c6⟩:=U i h;exact c6
 have J:Hid (∀ wx,w.grownBy wx none->(pv=.slice none 0 0/\ps.length=0)∨∃ ad c,pv=.slice (some ad) ps.length c/\∀ j u,(aK ps)[j]? = some u->wx.cell? (ad.add j)=some u):=by
  intro wx hg;cases C with
  | none =>
   left
   have h0:ps.length=0:=by
    rcases zP ps.length with h | h
    ·exact h
    ·obtain ⟨_,_,e,_⟩:=U 0 h;cases e
   rw [h0] at t;have:=B cap t;subst this;exact ⟨t,h0⟩
  | some a =>
   right
   refine ⟨a,cap,t,?_⟩;have:=HP.out.keep hg;rw [t] at this;exact this.cells
 obtain ⟨ii,E,hf,F,hj⟩:=info_parts Tryz.infoPart;obtain ⟨mc,G⟩:=eX (madeCells (Value.agg #[.int .i64 0,.int .i64 0,.int .i64 0,.int .i64 0,.int .i64 0,.string ⟨#[]⟩]).cells ((ps.length+3)*6));have L:mc.size=(ps.length+3)*6:=by rw [G,size_madeCells]
 have M:∀ wx:World,(Instr.makeSlice 22 (.int .i64 0) (.int .i64 ((ps.length:Int)+3))).run Tryz.prog wx=.ok (.slice (some ⟨wx.heap.size,0,none⟩) 0 (ps.length+3)) (wx.alloc (.cells mc 60)):=by
  intro wx;have:=run_make (P:=Tryz.prog) wx 22 60 ii _ Tryz.underlying22 E hf .i64 .i64 0 ((ps.length:Int)+3) O O (by rw [hj];omega) O;rw [this,F,G];have e:((ps.length:Int)+3).toNat=ps.length+3:=O
  rw [e];rfl
 have hl:∀ wx:World,(Instr.makeSlice 22 (.int .i64 0) (.int .i64 (IntKind.i64.wrap ((ps.length:Int)+3)))).run Tryz.prog wx=.ok (.slice (some ⟨wx.heap.size,0,none⟩) 0 (ps.length+3)) (wx.alloc (.cells mc 60)):=by
  intro wx;rw [IntWalk.i64_in _ ⟨O,O⟩];exact M wx
 have HL:Hid ((aK ps).length=ps.length*6):=db ps;have X:=aa L;obtain ⟨d,f,l,m3,m,o⟩:=mk;have Y:=aa I;subst t;clear h1 h2 U G L I B;simp only [aD.val];go_enter Tryz.func25,Tryz.ntmps25
 go_upto_region 1 with fail;obtain ⟨W,H⟩:=eX (w.alloc (Obj.cells #[.int .i64 d,.int .i64 f,.int .i64 l,.int .i64 m3,.int .i64 m,.string o] 60));have BX:Hid (∀ (wx:World) (r:Option Nat),W.grownBy wx r->some w.heap.size≠r->wx.cell? ⟨w.heap.size,0,none⟩=some (.int .i64 d)/\wx.cell? ⟨w.heap.size,1,none⟩=some (.int .i64 f)/\wx.cell? ⟨w.heap.size,2,none⟩=some (.int .i64 l)/\wx.cell? ⟨w.heap.size,3,none⟩=some (.int .i64 m3)/\wx.cell? ⟨w.heap.size,4,none⟩=some (.int .i64 m)/\wx.cell? ⟨w.heap.size,5,none⟩=some (.string o)):=by
  intro wx r hg hr;have e:wx.heap[w.heap.size]? = some (Obj.cells #[.int .i64 d,.int .i64 f,.int .i64 l,.int .i64 m3,.int .i64 m,.string o] 60 (0,0)):=by
   rw [hg.block w.heap.size (by rw [H];simp) hr,H];exact heap_alloc_new w _
  refine ⟨?_,?_,?_,?_,?_,?_⟩<;>simp [World.cell?,e]
 have GW:Hid (w.grownBy W none):=by rw [H];exact ae (ag _ _) _
 have N:Hid (W.heap.size=w.heap.size+1):=by rw [H];exact World.size_alloc _ _
 rw [<- H];clear H;have s0:=BX.out W none (ag _ _) Z;refine hd (fun wx=>wx.cell? ⟨w.heap.size,0,none⟩=some (.int .i64 d)/\wx.cell? ⟨w.heap.size,1,none⟩=some (.int .i64 f)/\wx.cell? ⟨w.heap.size,2,none⟩=some (.int .i64 l)/\wx.cell? ⟨w.heap.size,3,none⟩=some (.int .i64 m3)/\wx.cell? ⟨w.heap.size,4,none⟩=some (.int .i64 m)/\wx.cell? ⟨w.heap.size,5,none⟩=some (.string o)) (fun hHeld=>?_);refine tk 5 [(0,6,.slice C ps.length cap),(1,7,.int .i64 ps.length),(2,8,.int .i64 (IntKind.i64.wrap ((ps.length:Int)+3))),(4,10,.slice C ps.length cap),(6,12,.agg #[.int .i64 d,.int .i64 f,.int .i64 l,.int .i64 m3,.int .i64 m,.string o]),(7,13,.agg #[.int .i64 d,.int .i64 f,.int .i64 l,.int .i64 m3,.int .i64 m,.string o]),(8,14,.agg #[.int .i64 d,.int .i64 f,.int .i64 l,.int .i64 m3,.int .i64 m,.string o])] ?_;try simp only [pA,pL,vA,vL,q0,q1,q2,q3]
 refine wk ldS ldL ldM ldD ldX (fun s a wx=>s∈ldS/\∃ gm gb:Nat,a=⟨#[.slice C ps.length cap,(.agg #[.int .i64 d,.int .i64 f,.int .i64 l,.int .i64 m3,.int .i64 m,.string o]),undef,.pointer (some ⟨w.heap.size,0,none⟩),.slice none 0 0,if 4<=s.1 then .slice (some ⟨gm,0,none⟩) (ps.length+3) (ps.length+3) else undef,.slice C ps.length cap,.int .i64 ps.length,.int .i64 (IntKind.i64.wrap ((ps.length:Int)+3)),if 1<=s.1 then .slice (some ⟨gm,0,none⟩) 0 (ps.length+3) else undef,.slice C ps.length cap,if 2<=s.1 then .slice (some ⟨gm,0,none⟩) ps.length (ps.length+3) else undef,(.agg #[.int .i64 d,.int .i64 f,.int .i64 l,.int .i64 m3,.int .i64 m,.string o]),(.agg #[.int .i64 d,.int .i64 f,.int .i64 l,.int .i64 m3,.int .i64 m,.string o]),(.agg #[.int .i64 d,.int .i64 f,.int .i64 l,.int .i64 m3,.int .i64 m,.string o]),if s.2 then .slice (some ⟨gb,0,none⟩) 3 3 else undef,if 3<=s.1 then .slice (some ⟨gm,0,none⟩) (ps.length+3) (ps.length+3) else undef,undef,undef,undef,undef],[]⟩
   /\ W.grownBy wx none/\(1<=s.1->W.heap.size<=gm/\wx.ownsRow w.heap.size 60 6 (.slice (some ⟨gm,0,none⟩) (ldN ps s.1) (ps.length+3)) (ldN ps s.1) (ldC ps [(⟨d,f,l,m3,m,o⟩:aD),(⟨d,f,l,m3,m,o⟩:aD),(⟨d,f,l,m3,m,o⟩:aD)] s.1))/\(s.2=true->W.heap.size<=gb/\wx.heap[gb]? = some (.cells (aK [(⟨d,f,l,m3,m,o⟩:aD),(⟨d,f,l,m3,m,o⟩:aD),(⟨d,f,l,m3,m,o⟩:aD)]).toArray 60 (0,0)))/\(1<=s.1->s.2=true->gm≠gb)) (0,false) ⟨zD,0,0,rfl,aX,⟨fun h=>absurd h zD,fun h=>(by cases h),fun h=>absurd h zD⟩⟩ ?_ (hS:=fun s a wx h=>BX wx none h.2.choose_spec.choose_spec.2.1 Z)
 clear hHeld s0;rintro ⟨k,z⟩ a wx ⟨Q,gm,gb,rfl,hg,ho,hb,R⟩;have p:=aa hg;have q:=aa ho;have x:=aa hb;have y:=aa R;clear hg ho hb R;have D:Hid (wx.heap.size≠w.heap.size/\W.heap.size<=wx.heap.size):=by
  have h1:=p.out.size;have h2:=N.out;exact ⟨O,h1⟩
 refine ⟨fun he=>?_,fun i hi K S=>?_⟩
 ·obtain ⟨rfl,rfl⟩:=ld_end Q he;obtain ⟨o1,o2⟩:=q.out zD;have HO:=aa o2;clear o1 o2 Q he;simp only [ldN,ldC] at HO;simp only [Nat.reduceLeDiff,if_true];go_wp2;go_ret;exact Dt HO (ab GW p) hn HZ Y
 ·rcases ld_mem Q hi with ⟨rfl,rfl⟩ | ⟨rfl,rfl⟩ | ⟨rfl,rfl⟩ | ⟨rfl,rfl,rfl⟩ | ⟨rfl,rfl,rfl⟩
  ·simp only [ax,q4,q5,q6,q7];go_simp
   refine S _ _ ⟨?_,wx.heap.size,gb,?_,ae p _,fun _=>⟨D.2,?_⟩,fun A=>?_,fun _ A=>?_⟩
   ·cases z<;>decide
   ·cases z<;>rfl
   ·exact tI (heap_alloc_new wx _) (by have:=D.out;have:=N.out;omega) (by unfold maxLen;omega) X
   ·exact ⟨(x A).1,AJ (x A).2⟩
   ·have:=sV (x A).2;omega
  ·obtain ⟨k1,k2⟩:=q.out (Nat.le_refl 1);refine jx (by rfl) (.tmp 9) (.tmp 10) 22 (by rfl) w.heap.size 60 ii 6 Tryz.underlying22 E F gm 0 (ps.length+3) [] (by rfl) k2 (.slice C ps.length cap) ps.length (aK ps) (by rfl) (J _ (ab GW p)) HL (gA ps) O (fun w4 V T=>?_);rw [Nat.zero_add,List.nil_append] at V;rw [Nat.zero_add];refine S _ _ ⟨?_,gm,gb,?_,zw p T k1,fun _=>⟨k1,V⟩,fun A=>?_,fun _ A=>y (Nat.le_refl 1) A⟩
   ·cases z<;>decide
   ·cases z<;>rfl
   ·obtain ⟨h1,h2⟩:=x.out A;exact ⟨h1,by rw [T.block gb (sV h2) (by intro e;exact y (Nat.le_refl 1) A (zJ e).symm)];exact h2⟩
  ·simp only [ax,q4,q5,q6,q7];go_simp
   have hk:k=0∨k=1∨k=2:=by
    simp only [ldS,List.mem_cons,Prod.mk.injEq,List.not_mem_nil,or_false] at Q;rcases Q with ⟨rfl,h⟩ | ⟨rfl,h⟩ | ⟨rfl,h⟩ | ⟨rfl,h⟩ | ⟨rfl,h⟩ | ⟨rfl,h⟩ | ⟨rfl,h⟩ | ⟨rfl,h⟩<;>first | (cases h;done) | simp
   refine S _ _ ⟨?_,gm,wx.heap.size,?_,ae p _,fun h=>⟨(q h).1,BE (q h).2 (ae (ag _ none) _) Z⟩,fun _=>⟨D.2,heap_alloc_new wx _⟩,fun h _ e=>?_⟩
   ·rcases hk with rfl | rfl | rfl<;>decide
   ·rcases hk with rfl | rfl | rfl<;>rfl
   ·have:=own_ltL (q h).2;omega
  ·obtain ⟨k1,k2⟩:=q.out zD;obtain ⟨h1,h2⟩:=x.out rfl;refine jx (by rfl) (.tmp 11) (.tmp 15) 22 (by rfl) w.heap.size 60 ii 6 Tryz.underlying22 E F gm ps.length (ps.length+3) (aK ps) (by rfl) k2 (.slice (some ⟨gb,0,none⟩) 3 3) 3 (aK [(⟨d,f,l,m3,m,o⟩:aD),(⟨d,f,l,m3,m,o⟩:aD),(⟨d,f,l,m3,m,o⟩:aD)]) (by rfl) (.inr ⟨_,3,rfl,World.news_of_block h2⟩) rfl (gA _) O (fun w4 V T=>?_);refine S _ _ ⟨zD,gm,gb,rfl,zw p T k1,fun _=>⟨k1,V⟩,fun _=>⟨h1,?_⟩,fun _ _=>y zD rfl⟩;rw [T.block gb (sV h2) (by intro e;exact y zD rfl (zJ e).symm)];exact h2
  ·simp only [ax,q4,q5,q6,q7];go_simp
   exact S _ _ ⟨zD,gm,gb,rfl,p,fun _=>q zD,fun _=>x rfl,fun _ _=>y zD rfl⟩
theorem aA.keepRow {r:Nat} (h:aA w (.slice (some ⟨g,0,none⟩) n cap) ps) (hg:w.grownBy w' (some r)) (o:r≠g):aA w' (.slice (some ⟨g,0,none⟩) n cap) ps:=by
 obtain ⟨f,c,e,j,k,l⟩:=h;refine ⟨f,c,e,j,k,fun i hi=>?_⟩;obtain ⟨b,off,d,hb,c0,c1,c2,c3,c4,c5,m⟩:=l i hi;simp only [Value.slice.injEq] at e;obtain ⟨e,_,_⟩:=e;rw [d] at e;simp only [zI,Addr.mk.injEq,and_true] at e;have a:some b≠some r:=by intro x;have:=zJ x;omega
 exact ⟨b,off,d,Nat.lt_of_lt_of_le hb hg.size,hg.cell c0 a,hg.cell c1 a,hg.cell c2 a,hg.cell c3 a,hg.cell c4 a,hg.cell c5 a,m⟩
def Mk:aD:=⟨-9,0,0,0,0,⟨#[109,97,114,107]⟩⟩
structure jA (w:World):Prop where
 c0:w.cell? ⟨0,0,none⟩=some (.int .i64 (-9))
 c1:w.cell? ⟨0,1,none⟩=some (.int .i64 0)
 c2:w.cell? ⟨0,2,none⟩=some (.int .i64 0)
 c3:w.cell? ⟨0,3,none⟩=some (.int .i64 0)
 c4:w.cell? ⟨0,4,none⟩=some (.int .i64 0)
 c5:w.cell? ⟨0,5,none⟩=some (.string ⟨#[109,97,114,107]⟩)
theorem jA.keep (h:jA w) (hg:w.grownBy w' none):jA w' :=
 ⟨hg.cell h.c0 Z,hg.cell h.c1 Z,hg.cell h.c2 Z,hg.cell h.c3 Z,hg.cell h.c4 Z,hg.cell h.c5 Z⟩
theorem jA.lt (h:jA w):0<w.heap.size:=by
 rcases Nat.lt_or_ge 0 w.heap.size with a | a
 ·exact a
 ·exfalso
  have c:=h.c0;simp [World.cell?,Array.getElem?_eq_none a] at c
def OwnE (w:World) (nodes:Int) (ps:List aD) (e:Ending) (w':World):Prop :=
 ∃ g,e=.returned (.agg #[.int .i64 nodes,.slice (some ⟨g,0,none⟩) ps.length (ps.length+3)])/\aA w' (.slice (some ⟨g,0,none⟩) (ps.length+3) (ps.length+3)) (ps++[Mk,Mk,Mk])/\w.heap.size<=g/\w.grownBy w' none
theorem own_at (a:Int) (pv:Value) (ps:List aD) (w:World) (r:jA w) (s:aA w pv ps) (j:∀ c,pv=.slice none 0 c->c=0) (hn:ps.length<=100000000) :
  Calls Tryz.prog 5 #[.agg #[.int .i64 a,pv]] w fun e w'=>OwnE w a ps e w':=by
 have B:=aa s;have p:=aa r;have l:=aa j;obtain ⟨o,cap,rfl,P,Q,M⟩:=s;clear M r j;obtain ⟨W,k⟩:=eX ((w.alloc (Obj.cells #[.int .i64 a,.slice o ps.length cap] 24)).alloc (Obj.cells #[.int .i64 0,.slice none 0 0] 24));have m:Hid (w.grownBy W none):=by rw [k];exact ae (ae (ag _ _) _) _
 have d:Hid (∀ wx,W.grownBy wx none->wx.cell? ⟨w.heap.size,0,none⟩=some (.int .i64 a)/\wx.cell? ⟨w.heap.size,1,none⟩=some (.slice o ps.length cap)/\wx.cell? ⟨w.heap.size+1,0,none⟩=some (.int .i64 0)/\wx.cell? ⟨w.heap.size+1,1,none⟩=some (.slice none 0 0)/\∀ i,wx.frozen? ⟨w.heap.size+1,i,none⟩=false):=by
  intro wx hg;have C:wx.heap[w.heap.size]? = some (Obj.cells #[.int .i64 a,.slice o ps.length cap] 24 (0,0)):=by
   rw [hg.block w.heap.size (by rw [k];simp;omega) Z,k];show ((w.heap.push _).push _)[w.heap.size]? = _
   rw [Array.getElem?_push_lt Z,Array.getElem_push_eq]
  have D:wx.heap[w.heap.size+1]? = some (Obj.cells #[.int .i64 0,.slice none 0 0] 24 (0,0)):=by
   rw [hg.block (w.heap.size+1) (by rw [k];simp) Z,k];exact push1
  refine ⟨?_,?_,?_,?_,fun i=>?_⟩<;>simp [World.cell?,World.frozen?,C,D]
 obtain ⟨R,S,T,r1,N⟩:=d.out W (ag _ _);obtain ⟨k0,k1,U,V,X,Y⟩:=p.out.keep m;have q:Hid (W.heap.size=w.heap.size+2):=by show _=_;rw [k];simp
 have hlt:0<w.heap.size:=p.out.lt;have t:¬ w.heap.size+1=0:=O
 have x:¬ 0=w.heap.size+1:=O
 clear N;go_enter Tryz.func5,Tryz.ntmps5
 go_wp2;rw [<- k];clear k;go_region_held3 (fun w'=>w'.cell? ⟨w.heap.size,0,none⟩=some (.int .i64 a)/\w'.cell? ⟨w.heap.size,1,none⟩=some (.slice o ps.length cap)/\w'.cell? ⟨0,0,none⟩=some (.int .i64 (-9))/\w'.cell? ⟨0,1,none⟩=some (.int .i64 0)/\w'.cell? ⟨0,2,none⟩=some (.int .i64 0)/\w'.cell? ⟨0,3,none⟩=some (.int .i64 0)/\w'.cell? ⟨0,4,none⟩=some (.int .i64 0)/\w'.cell? ⟨0,5,none⟩=some (.string ⟨#[109,97,114,107]⟩)) (go_keep)
  (first | (go_at_call 25;refine (lend_at _ ps Mk _ (B.keep (ab m (jH (ag _ _)))) l hn zD).mono ?_;rintro e h ⟨g,rfl,y,z,A⟩;have f:W.grownBy h none:=ab (jH (ag _ _)) A;have s0:=(d h f).1;have s1:=(d h f).2.1;have E:=(d h f).2.2.1;have F:=(d h f).2.2.2.1;have G:=(d h f).2.2.2.2 0;have H:=(d h f).2.2.2.2 1;obtain ⟨q0,q1,q2,q3,q4,q5⟩:=p.out.keep (ab m f)))
 have I:=aa y;have J:=aa (ab m f);have K:w.heap.size+2<=g:=by have:=q.out;have:W.heap.size<=g:=z;omega
 clear y z A f;go_wp2;refine bodyPost_ret (v:=.agg #[.int .i64 a,.slice (some ⟨g,0,none⟩) ps.length (ps.length+3)]) (by simp [results,Tryz.results5,go_sem,E,F]) rfl ?_;have L:h.grownBy ((h.setCell ⟨w.heap.size+1,0,none⟩ (.int .i64 a)).setCell ⟨w.heap.size+1,1,none⟩ (.slice (some ⟨g,0,none⟩) ps.length (ps.length+3))) (some (w.heap.size+1)):=iw (iw (ag _ _) _ _ _ rfl) _ _ _ rfl;exact ⟨g,rfl,I.keepRow L O,O,ah (ah J _ _ Z) _ _ Z⟩
theorem sb (a b c d e:Int) (v:ByteArray) (W:World):(binOp .neq 60 (.agg #[.int .i64 a,.int .i64 b,.int .i64 c,.int .i64 d,.int .i64 e,.string v]) (.agg #[.int .i64 a,.int .i64 b,.int .i64 c,.int .i64 d,.int .i64 e,.string v])).run Tryz.prog W=.ok (.bool false) W:=by
 go_simp
theorem qO (n i:Nat) (h:i<n+3):n+3-(intOf (Value.int IntKind.i64 ((i:Int)+1))).toNat<n+3-(intOf (Value.int IntKind.i64 (i:Int))).toNat:=by
 simp only [intOf];omega
def StillR (w:World) (n:Nat) (v:Value) (wr:World):Prop:=∃ i:Nat,i<=n+3/\v=.int .i64 i/\w.grownBy wr none
theorem Ex (g:Nat) (pv:Value) (ps:List aD) (w:World) (C:aA w pv ps) (R:aA w (.slice (some ⟨g,0,none⟩) (ps.length+3) (ps.length+3)) (ps++[Mk,Mk,Mk])) (hn:ps.length<=100000000) :
  Calls Tryz.prog 49 #[.slice (some ⟨g,0,none⟩) ps.length (ps.length+3),pv,Mk.val] w fun e w'=>e=.returned (.bool true)/\w.grownBy w' none:=by
 have HP:=aa C;have HO:=aa R;obtain ⟨ao,cap,rfl,h1,h2,h3⟩:=C;unfold maxLen at h2;have S:Hid (∀ i (h:i<(ps++[Mk,Mk,Mk]).length),w.cell? ⟨g,i*6,none⟩=some (.int .i64 (ps++[Mk,Mk,Mk])[i].kind)/\w.cell? ⟨g,i*6+1,none⟩=some (.int .i64 (ps++[Mk,Mk,Mk])[i].a)/\w.cell? ⟨g,i*6+2,none⟩=some (.int .i64 (ps++[Mk,Mk,Mk])[i].b)/\w.cell? ⟨g,i*6+3,none⟩=some (.int .i64 (ps++[Mk,Mk,Mk])[i].c)/\w.cell? ⟨g,i*6+4,none⟩=some (.int .i64 (ps++[Mk,Mk,Mk])[i].d)/\w.cell? ⟨g,i*6+5,none⟩=some (.string (ps++[Mk,Mk,Mk])[i].v)):=by
  intro i hi;obtain ⟨hj,c',e,_,_,k3⟩:=R;obtain ⟨b,off,J,hb,c0,c1,c2,c3,c4,c5,c6⟩:=k3 i hi;simp only [Value.slice.injEq] at e;obtain ⟨e,_,_⟩:=e;rw [J] at e;simp only [zI,Addr.mk.injEq,and_true] at e;obtain ⟨rfl,rfl⟩:=e;simp only [Nat.zero_add] at c0 c1 c2 c3 c4 c5;exact ⟨c0,c1,c2,c3,c4,c5⟩
 have q:=aa h3;clear h3 R;have s:Mk.val=.agg #[.int .i64 (-9),.int .i64 0,.int .i64 0,.int .i64 0,.int .i64 0,.string ⟨#[109,97,114,107]⟩]:=rfl;rw [s];clear s;have X:Hid (∀ wx,(w.alloc (Obj.cells #[.int .i64 (-9),.int .i64 0,.int .i64 0,.int .i64 0,.int .i64 0,.string ⟨#[109,97,114,107]⟩] 60)).grownBy wx none->wx.cell? ⟨w.heap.size,0,none⟩=some (.int .i64 (-9))/\wx.cell? ⟨w.heap.size,1,none⟩=some (.int .i64 0)/\wx.cell? ⟨w.heap.size,2,none⟩=some (.int .i64 0)/\wx.cell? ⟨w.heap.size,3,none⟩=some (.int .i64 0)/\wx.cell? ⟨w.heap.size,4,none⟩=some (.int .i64 0)/\wx.cell? ⟨w.heap.size,5,none⟩=some (.string ⟨#[109,97,114,107]⟩)):=by
  intro wx hg;have e:wx.heap[w.heap.size]? = some (Obj.cells #[.int .i64 (-9),.int .i64 0,.int .i64 0,.int .i64 0,.int .i64 0,.string ⟨#[109,97,114,107]⟩] 60 (0,0)):=by
   rw [hg.block w.heap.size Z Z];exact heap_alloc_new w _
  refine ⟨?_,?_,?_,?_,?_,?_⟩<;>simp [World.cell?,e]
 obtain ⟨W,z⟩:=eX (w.alloc (Obj.cells #[.int .i64 (-9),.int .i64 0,.int .i64 0,.int .i64 0,.int .i64 0,.string ⟨#[109,97,114,107]⟩] 60));have Y:Hid (w.grownBy W none):=by rw [z];exact ae (ag _ _) _
 have T:Hid (w.heap.size<W.heap.size):=by show _<_;rw [z];simp
 rw [<- z] at X;go_enter Tryz.func49,Tryz.ntmps49
 go_wp2;rw [<- z];clear z;go_loopw [17] (fun v wr=>Hid (StillR W ps.length v wr)) (fun v _=>ps.length+3-(intOf v).toNat)
 case atStart=>exact ⟨0,O,rfl,ag _ _⟩
 case round =>
  obtain ⟨i,hi,rfl,A⟩:=hrel.out;have o:=aa A;clear hrel A;by_cases hlt:i<ps.length+3
  ·have U:i<(ps++[Mk,Mk,Mk]).length:=by simp;omega
   obtain ⟨c0,c1,c2,c3,c4,c5⟩:=S.out i U;have l:=ab Y o;have D:=l.cell c0 Z;have E:=l.cell c1 Z;have F:=l.cell c2 Z;have G:=l.cell c3 Z;have H:=l.cell c4 Z;have I:=l.cell c5 Z;obtain ⟨m0,m1,m2,m3,m4,m5⟩:=X.out wr o;clear c0 c1 c2 c3 c4 c5;by_cases t:i<ps.length
   ·have x:(ps++[Mk,Mk,Mk])[i]=ps[i]:=List.getElem_append_left t;rw [x] at D E F G H I;obtain ⟨b,off,rfl,hb,e0,e1,J,e3,e4,e5,e6⟩:=q.out i t;have f0:=l.cell e0 Z;have f1:=l.cell e1 Z;have f2:=l.cell J Z;have f3:=l.cell e3 Z;have f4:=l.cell e4 Z;have f5:=l.cell e5 Z;obtain ⟨K,L,M,N,P,Q,B⟩:∃ a b c d e v,ps[i]=⟨a,b,c,d,e,v⟩:=⟨_,_,_,_,_,_,rfl⟩;rw [B] at D E F G H I f0 f1 f2 f3 f4 f5;have r:=sb K L M N P Q;have he:b<wr.heap.size:=Nat.lt_of_lt_of_le hb l.size;have hd:decide (ps.length<=i)=false:=decide_eq_false O;clear e0 e1 J e3 e4 e5 e6 x B l q S;obtain ⟨k,f⟩:=eX (wr.alloc (Obj.cells #[.int .i64 K,.int .i64 L,.int .i64 M,.int .i64 N,.int .i64 P,.string Q] 60));have j:wr.grownBy k none:=by rw [f];exact ae (ag _ _) _
    have m:k.heap[wr.heap.size]? = some (Obj.cells #[.int .i64 K,.int .i64 L,.int .i64 M,.int .i64 N,.int .i64 P,.string Q] 60 (0,0)):=by rw [f];exact heap_alloc_new wr _
    have x0:k.cell? ⟨wr.heap.size,0,none⟩=some (.int .i64 K):=by simp [World.cell?,m]
    have x1:k.cell? ⟨wr.heap.size,1,none⟩=some (.int .i64 L):=by simp [World.cell?,m]
    have x2:k.cell? ⟨wr.heap.size,2,none⟩=some (.int .i64 M):=by simp [World.cell?,m]
    have x3:k.cell? ⟨wr.heap.size,3,none⟩=some (.int .i64 N):=by simp [World.cell?,m]
    have x4:k.cell? ⟨wr.heap.size,4,none⟩=some (.int .i64 P):=by simp [World.cell?,m]
    have x5:k.cell? ⟨wr.heap.size,5,none⟩=some (.string Q):=by simp [World.cell?,m]
    have y0:=j.cell f0 Z;have y1:=j.cell f1 Z;have y2:=j.cell f2 Z;have y3:=j.cell f3 Z;have y4:=j.cell f4 Z;have y5:=j.cell f5 Z;have V:=aa (ab o j);clear m j;go_wp2;rw [<- f];clear f;go_quiet (fail)
    go_wp2;refine ⟨⟨i+1,hlt,congrArg (Value.int .i64) (Int.natCast_add i 1).symm,ar V _⟩,?_⟩;exact qO ps.length i hlt
   ·have x:(ps++[Mk,Mk,Mk])[i]=Mk:=by
     rw [List.getElem_append_right O];have hk:i-ps.length<3:=O
     have y:∀ p∈[Mk,Mk,Mk],p=Mk:=by intro p C;simpa using C
     exact y _ (List.getElem_mem _)
    rw [x] at D E F G H I;simp only [Mk] at D E F G H I;have r:=sb (-9) 0 0 0 0 ⟨#[109,97,114,107]⟩;have hd:decide (ps.length<=i)=true:=decide_eq_true O;have hf:w.heap.size<wr.heap.size:=Nat.lt_of_lt_of_le (by have:=T.out;omega) o.size;clear x l q S;obtain ⟨k,f⟩:=eX (wr.alloc (Obj.cells #[.int .i64 (-9),.int .i64 0,.int .i64 0,.int .i64 0,.int .i64 0,.string ⟨#[109,97,114,107]⟩] 60));have j:wr.grownBy k none:=by rw [f];exact ae (ag _ _) _
    have m:k.heap[wr.heap.size]? = some (Obj.cells #[.int .i64 (-9),.int .i64 0,.int .i64 0,.int .i64 0,.int .i64 0,.string ⟨#[109,97,114,107]⟩] 60 (0,0)):=by rw [f];exact heap_alloc_new wr _
    have x0:k.cell? ⟨wr.heap.size,0,none⟩=some (.int .i64 (-9)):=by simp [World.cell?,m]
    have x1:k.cell? ⟨wr.heap.size,1,none⟩=some (.int .i64 0):=by simp [World.cell?,m]
    have x2:k.cell? ⟨wr.heap.size,2,none⟩=some (.int .i64 0):=by simp [World.cell?,m]
    have x3:k.cell? ⟨wr.heap.size,3,none⟩=some (.int .i64 0):=by simp [World.cell?,m]
    have x4:k.cell? ⟨wr.heap.size,4,none⟩=some (.int .i64 0):=by simp [World.cell?,m]
    have x5:k.cell? ⟨wr.heap.size,5,none⟩=some (.string ⟨#[109,97,114,107]⟩):=by simp [World.cell?,m]
    have y0:=j.cell m0 Z;have y1:=j.cell m1 Z;have y2:=j.cell m2 Z;have y3:=j.cell m3 Z;have y4:=j.cell m4 Z;have y5:=j.cell m5 Z;have V:=aa (ab o j);clear m j;go_wp2;rw [<- f];clear f;go_quiet (fail)
    go_wp2;refine ⟨⟨i+1,hlt,congrArg (Value.int .i64) (Int.natCast_add i 1).symm,ar V _⟩,?_⟩;exact qO ps.length i hlt
  ·obtain rfl:i=ps.length+3:=O
   go_wp2;go_ret;exact ⟨rfl,ab Y o⟩
theorem kept_at (a:Int) (g:Nat) (pv:Value) (ps:List aD) (w:World) (j:jA w) (l:aA w pv ps) (m:aA w (.slice (some ⟨g,0,none⟩) (ps.length+3) (ps.length+3)) (ps++[Mk,Mk,Mk])) (hn:ps.length<=100000000) :
  Calls Tryz.prog 23 #[.agg #[.int .i64 a,.slice (some ⟨g,0,none⟩) ps.length (ps.length+3)],.agg #[.int .i64 a,pv]] w fun e w'=>e=.returned (.bool true)/\w.grownBy w' none:=by
 have o:=aa l;have p:=aa m;have q:=aa j;obtain ⟨c,cap,rfl,x,y,r⟩:=l;clear r m j;obtain ⟨W,d⟩:=eX ((w.alloc (Obj.cells #[.int .i64 a,.slice (some ⟨g,0,none⟩) ps.length (ps.length+3)] 24)).alloc (Obj.cells #[.int .i64 a,.slice c ps.length cap] 24));have f:Hid (w.grownBy W none):=by rw [d];exact ae (ae (ag _ _) _) _
 have h:W.heap[w.heap.size]? = some (Obj.cells #[.int .i64 a,.slice (some ⟨g,0,none⟩) ps.length (ps.length+3)] 24 (0,0)):=by
  rw [d];show ((w.heap.push _).push _)[w.heap.size]? = _
  rw [Array.getElem?_push_lt Z,Array.getElem_push_eq]
 have i:W.heap[w.heap.size+1]? = some (Obj.cells #[.int .i64 a,.slice c ps.length cap] 24 (0,0)):=by
  rw [d];exact push1
 have s:W.cell? ⟨w.heap.size,0,none⟩=some (.int .i64 a):=by simp [World.cell?,h]
 have t:W.cell? ⟨w.heap.size,1,none⟩=some (.slice (some ⟨g,0,none⟩) ps.length (ps.length+3)):=by simp [World.cell?,h]
 have c0:W.cell? ⟨w.heap.size+1,0,none⟩=some (.int .i64 a):=by simp [World.cell?,i]
 have c1:W.cell? ⟨w.heap.size+1,1,none⟩=some (.slice c ps.length cap):=by simp [World.cell?,i]
 obtain ⟨k0,k1,z,A,B,C⟩:=q.out.keep (ae (ae (ag w none) (Obj.cells #[.int .i64 a,.slice (some ⟨g,0,none⟩) ps.length (ps.length+3)] 24)) (Obj.cells #[.int .i64 a,.slice c ps.length cap] 24));clear h i;go_enter Tryz.func23,Tryz.ntmps23
 go_wp2_with fail;rw [<- d];refine (Ex g _ ps W (o.keep f) (p.keep f) hn).mono ?_;rintro e D ⟨rfl,k⟩;have K:=aa (ab f k);clear k;go_wp2;go_ret;exact ⟨rfl,K⟩
def jd (w:World) (b:Nat) (u v:Value):Prop:=w.heap[b]? = some (Obj.cells #[u,v] 24 (0,0))
theorem jd.lt (h:jd w b u v):b<w.heap.size:=(zZ h).1
theorem jd.keep {r:Option Nat} (h:jd w b u v) (g:w.grownBy w' r) (a:some b≠r):jd w' b u v:=by
 have c:=h.lt;unfold jd at h ⊢;rw [g.block b c a];exact h
theorem jd.cells (h:jd w b u v):w.cell? ⟨b,0,none⟩=some u/\w.cell? ⟨b,1,none⟩=some v/\w.frozen? ⟨b,0,none⟩=false/\w.frozen? ⟨b,1,none⟩=false:=by
 unfold jd at h;refine ⟨?_,?_,?_,?_⟩<;>simp [World.cell?,World.frozen?,h]
theorem jd.set1 (h:jd w b u v) (x:Value):jd (w.setCell ⟨b,1,none⟩ x) b u x:=by
 unfold jd at h ⊢;rw [heap_setCell_same w b 1 _ _ x h];simp
def QuiR (W:World) (base gm n:Nat) (ps:List aD) (iv:Value) (wr:World):Prop :=
 ∃ (i:Nat) (v:Value),i<=ps.length/\iv=.int .i64 i/\jd wr gm (.int .i64 ((n:Nat):Int)) v/\eD wr base v ((ps.map aH).take i)/\W.grownBy wr none
def Cn (w:World) (n:Nat) (qs:List aD) (e:Ending) (w':World):Prop :=
 ∃ v,e=.returned (.agg #[.int .i64 ((n:Nat):Int),v])/\eD w' w.heap.size v qs/\w.grownBy w' none
theorem eD.low {base':Nat} (h:eD w base v ps) (hb:base'<=base):eD w base' v ps:=by
 refine ⟨h.1,?_⟩;rcases h.2 with c | ⟨g,cap,a,e,d,f⟩
 ·exact .inl c
 ·exact .inr ⟨g,cap,a,e,Nat.le_trans hb d,f⟩
theorem eD.ne (h:eD w base v ps) (hb:b<base):v.ownBlock=none∨v.ownBlock≠some b:=by
 cases hv:v.ownBlock with
 | none=>exact .inl rfl
 | some k =>
  right
  intro e;have:=(World.ownsRow.lt h k hv).1;have:=zJ e;omega
theorem kj {P:Program} (W:World) {d:Array Oper} {rest:List Oper} {o:Oper} {a:Act} {Q:Exit->Act->World->Prop}
  (hg:o.guard=none) (s x:Operand) (t:TypeId) (ho:o.op=.call { callee:=.builtin .append,args:=#[s,x],argTypes:=#[t,t] }) (base:Nat)
  (h1:P.underlying t=some (.slice 60)) (hinfo:(P.info? 60).map (fun i=>(i.zero,i.size,i.bytes))=some (some (.agg #[.int .i64 0,.int .i64 0,.int .i64 0,.int .i64 0,.int .i64 0,.string ⟨#[]⟩]),6,56))
  (v:Value) (qs:List aD) (hs:a.eval s=v) (hown:eD W base v qs) (b:Nat) (p:aD) (hx:a.eval x=.slice (some ⟨b,0,none⟩) 1 1) (hc:∀ j u,(cj p)[j]? = some u->W.cell? ((⟨b,0,none⟩:Addr).add j)=some u)
  (hlen:qs.length<=100000) (hbase:base<=W.heap.size)
  (hK:∀ ao cap w',eD w' base (.slice ao (qs.length+1) cap) (qs++[p])->W.grownBy w' v.ownBlock->wpList P d Q rest (a.put o.dst (.slice ao (qs.length+1) cap)) w'):wpList P d Q (o :: rest) a W:=by
 obtain ⟨A,f,h,k,l⟩:=info_parts hinfo;refine wpList_append_own W hg s x t ho base _ A _ 6 56 h1 f h k l rfl zD v qs.length (aK qs) hs hown ⟨b,0,none⟩ 1 1 (cj p) hx rfl hc ?_ (by unfold maxLen;omega) O hbase ?_
 ·intro u y;exact gA [p] u (by simpa [aK] using y)
 ·intro z w' c e _;have m:eD w' base z (qs++[p]):=by
   show World.ownsRow ..
   have r:aK (qs++[p])=aK qs++cj p:=by
    rw [ir];simp [aK]
   rw [List.length_append,r];exact c
  obtain ⟨ao,cap,q,_⟩:=m.shape;rw [List.length_append,List.length_singleton] at q;subst q;exact hK ao cap w' m e
theorem BO (n:Nat) (R:Option Addr) (S:Nat) (ps:List aD) (w:World) (h:aA w (.slice R ps.length S) ps) (hn:ps.length<=1000) :
  Calls Tryz.prog 40 #[.agg #[.int .i64 ((n:Nat):Int),.slice R ps.length S]] w fun e w'=>Cn w n (ps.map aH) e w':=by
 obtain ⟨hw,hu,ep,hx,ho,Y⟩:=id h;simp only [Value.slice.injEq,true_and] at ep;obtain ⟨rfl,rfl⟩:=ep;have hf:=aa Y;unfold maxLen at ho;clear h Y;obtain ⟨W,N⟩:=eX ((w.alloc (Obj.cells #[.int .i64 ((n:Nat):Int),.slice R ps.length S] 24)).alloc (Obj.cells #[.int .i64 0,.slice none 0 0] 24));have GW:Hid (w.grownBy W none):=by rw [N];exact ae (ae (ag _ _) _) _
 have m:Hid (W.heap.size=w.heap.size+2):=by show _=_;rw [N];simp
 have NB:Hid (∀ wx,W.grownBy wx none->wx.cell? ⟨w.heap.size,0,none⟩=some (.int .i64 ((n:Nat):Int))/\wx.cell? ⟨w.heap.size,1,none⟩=some (.slice R ps.length S)/\jd wx (w.heap.size+1) (.int .i64 0) (.slice none 0 0)):=by
  intro wx hg;have e:wx.heap[w.heap.size+1]? = some (Obj.cells #[.int .i64 0,.slice none 0 0] 24 (0,0)):=by
   rw [hg.block (w.heap.size+1) (by rw [m];omega) Z,N];have:=heap_alloc_new (w.alloc (Obj.cells #[.int .i64 ((n:Nat):Int),.slice R ps.length S] 24)) (Obj.cells #[.int .i64 0,.slice none 0 0] 24);simpa using this
  rw [N] at hg;exact ⟨hg.cell zG Z,hg.cell zG Z,e⟩
 obtain ⟨s0,s1,s2⟩:=NB.out W (ag _ _);clear s2;go_enter Tryz.func40,Tryz.ntmps40
 go_upto_region 1 with fail;rw [<- N];clear N;go_upto_region 2 with fail;obtain ⟨F,y⟩:=eX W.heap.size;obtain ⟨w1,A⟩:=eX (W.alloc (Obj.cells #[.int .i64 ((n:Nat):Int),.slice none 0 0] 24));have G1:Hid (W.grownBy w1 none):=by rw [A];exact ae (ag _ _) _
 have M1:Hid (jd w1 F (.int .i64 ((n:Nat):Int)) (.slice none 0 0)):=by rw [A,y];exact heap_alloc_new W _
 have o:Hid (F=w.heap.size+2):=by rw [y];exact m
 rw [<- A,<- y];clear A y s0 s1;obtain ⟨s0,s1,_⟩:=NB.out w1 G1;have hp:Hid (w.heap.size+3<=w1.heap.size):=by show _<=_;have:=M1.out.lt;have:=o.out;omega
 go_wp2;go_loopw [12] (fun iv wr=>Hid (QuiR W (w.heap.size+3) F n ps iv wr)) (fun iv _=>ps.length-(intOf iv).toNat)
 case atStart=>exact ⟨0,_,O,rfl,M1,by rw [List.take_zero];exact World.ownsRow_nil _ _ _ _,G1⟩
 case round =>
  obtain ⟨i,v,hi,rfl,l1,l2,l3⟩:=hrel.out;obtain ⟨P,Q,rfl,hy⟩:=l2.shape;have C:((ps.map aH).take i).length=i:=by simp;omega
  rw [C] at l1 l2;have T:=aa l1;have G:=aa l2;have U:=aa l3;clear l1 l2 l3 hrel s0 s1 C;obtain ⟨m0,m1,m2,m3⟩:=T.out.cells;by_cases hlt:i<ps.length
  ·obtain ⟨b,off,rfl,hb,c0,c1,c2,c3,c4,c5,c6⟩:=hf.out i hlt;obtain ⟨q,hq⟩:=eX (ps[i]);rw [<- hq] at c0 c1 c2 c3 c4 c5 c6;have H:=ab GW U;have q0:=H.cell c0 Z;have q1:=H.cell c1 Z;have q2:=H.cell c2 Z;have q3:=H.cell c3 Z;have q4:=H.cell c4 Z;have q5:=H.cell c5 Z;have HQ:=aa hq;have I:Hid ((ps.map aH).take (i+1)=(ps.map aH).take i++[aH q]):=by
    show _=_
    rw [List.take_succ_eq_append_getElem (by simpa using hlt),List.getElem_map,hq]
   have p:Hid (((ps.map aH).take i).length=i):=by show _=_;simp;omega
   clear c0 c1 c2 c3 c4 c5 H hq;go_upto_region 5 with fail;obtain ⟨gq,s⟩:=eX wr.heap.size;obtain ⟨t,B⟩:=eX (wr.alloc (Obj.cells #[.int .i64 q.kind,.int .i64 q.a,.int .i64 q.b,.int .i64 q.c,.int .i64 q.d,.string q.v] 60));have J:Hid (wr.grownBy t none):=by rw [B];exact ae (ag _ _) _
   have hh:t.heap[gq]? = some (Obj.cells #[.int .i64 q.kind,.int .i64 q.a,.int .i64 q.b,.int .i64 q.c,.int .i64 q.d,.string q.v] 60 (0,0)):=by rw [B,s];exact heap_alloc_new wr _
   have V:=aa hh;have K:Hid (F<gq/\w.heap.size+3<=gq):=by rw [s];exact ⟨T.lt,by have:=T.out.lt;have:=o.out;omega⟩
   have D:Hid (gq=wr.heap.size):=s;rw [<- B,<- s];clear B s q0 q1 q2 q3 q4 q5 hh m0 m1 m2 m3;have p0:t.cell? ⟨gq,0,none⟩=some (.int .i64 q.kind):=by simp [World.cell?,V.out]
   have p5:t.cell? ⟨gq,5,none⟩=some (.string q.v):=by simp [World.cell?,V.out]
   have pf:t.frozen? ⟨gq,5,none⟩=false:=by simp [World.frozen?,V.out]
   obtain ⟨z,hz⟩:=eX ((aH q).v);have hl:Hid (aH q=⟨q.kind,q.a,q.b,q.c,q.d,z⟩):=by show _=_;rw [hz];unfold aH;split<;>rfl
   have HZ:=aa hz;clear hz;go_cut [12,23] from 12 to 31 (fun s12 s23 wx=>s12=.int .i64 i/\s23=.bool (q.kind==4 || q.kind==5)/\t=wx)
   case first=>cases h1:(q.kind==4)<;>(go_wp2_with fail;go_meet;exact ⟨rfl,by rw [h1];rfl,rfl⟩)
   case rest =>
    obtain ⟨rfl,rfl,rfl⟩:=hcut;go_upto_if 23 with fail
    go_cut [12] from 12 to 31 (fun s12 w3=>Hid (s12=.int .i64 i/\w3.heap[gq]? = some (Obj.cells #[.int .i64 q.kind,.int .i64 q.a,.int .i64 q.b,.int .i64 q.c,.int .i64 q.d,.string z] 60 (0,0))/\jd w3 F (.int .i64 ((n:Nat):Int)) (.slice P i Q)/\eD w3 (w.heap.size+3) (.slice P i Q) ((ps.map aH).take i)/\W.grownBy w3 none/\w.heap.size+3<=w3.heap.size))
    case first =>
     have hs:w.heap.size+3<=t.heap.size:=by have:=J.out.size;have:=K.out;have:=D.out;omega
     cases hb:(q.kind==4 || q.kind==5)
     ·have L:z=q.v:=by rw [HZ];unfold aH;rw [if_neg (by simpa using hb)]
      go_wp2_with fail;go_meet
      exact ⟨rfl,by rw [L];exact V,T.keep J Z,G.keep0 J,ab U J,hs⟩
     ·have L:z=⟨#[48]⟩:=by rw [HZ];unfold aH;rw [if_pos (by simpa using hb)]
      have x:t.grownBy (t.setCell ⟨gq,5,none⟩ (.string ⟨#[48]⟩)) (some gq):=bR _ _ _ _;go_wp2_with fail;go_meet
      refine ⟨rfl,by rw [heap_setCell_same t gq 5 _ _ _ V,L];simp,(T.keep J Z).keep x (fun e=>by have:=zJ e;have:=K.out;omega),(G.keep0 J).kept x ?_,aj (r:=none) (ab U J) x (fun _ _ e=>e) (fun k hk e=>by have:=zJ e;have:=K.out;have:=m.out;omega),Nat.le_trans hs x.size⟩;cases hv:(Value.slice P i Q).ownBlock with
      | none=>exact .inl rfl
      | some k =>
       right
       intro e;have:=(World.ownsRow.lt G k hv).2;have:=zJ e;have:=D.out;omega
    case rest =>
    obtain ⟨rfl,h3,h4,h5,h6,h7⟩:=hcut.out;obtain ⟨w3,he⟩:=eX wc;rw [<- he] at h3 h4 h5 h6 h7 ⊢;have H3:=aa h3;have B3:=aa h4;have O3:=aa h5;have G3:=aa h6;have X:=aa h7;clear hcut he h3 h4 h5 h6 h7 p0 p5 pf;obtain ⟨m0,m1,m2,m3⟩:=B3.out.cells;have f:=H3.out;have y0:w3.cell? ⟨gq,0,none⟩=some (.int .i64 q.kind):=by simp [World.cell?,f]
    have y1:w3.cell? ⟨gq,1,none⟩=some (.int .i64 q.a):=by simp [World.cell?,f]
    have y2:w3.cell? ⟨gq,2,none⟩=some (.int .i64 q.b):=by simp [World.cell?,f]
    have y3:w3.cell? ⟨gq,3,none⟩=some (.int .i64 q.c):=by simp [World.cell?,f]
    have y4:w3.cell? ⟨gq,4,none⟩=some (.int .i64 q.d):=by simp [World.cell?,f]
    have y5:w3.cell? ⟨gq,5,none⟩=some (.string z):=by simp [World.cell?,f]
    have hm:Hid (∀ j u,(cj (aH q))[j]? = some u->(w3.alloc (Obj.cells #[.int .i64 q.kind,.int .i64 q.a,.int .i64 q.b,.int .i64 q.c,.int .i64 q.d,.string z] 60)).cell? ((⟨w3.heap.size,0,none⟩:Addr).add j)=some u):=by
     intro j u hj;have hn:=heap_alloc_new w3 (Obj.cells #[.int .i64 q.kind,.int .i64 q.a,.int .i64 q.b,.int .i64 q.c,.int .i64 q.d,.string z] 60);rw [hl] at hj;rw [show (⟨w3.heap.size,0,none⟩:Addr).add j=⟨w3.heap.size,j,none⟩ from by unfold Addr.add;split<;>simp_all];simp only [World.cell?,hn];rw [<- hj];simp [cj]
    clear f;go_wp2_with (at_builtin;refine kj _ rfl _ _ 22 rfl (w.heap.size+3) Tryz.underlying22 Tryz.infoPart (.slice P i Q) ((ps.map aH).take i) rfl (O3.keep0 (ae (ag _ _) _)) w3.heap.size (aH q) rfl hm (by rw [p];omega) (by simp;have:=X.out;omega) ?_)
    intro ao hr w5 l M;try rw [p] at l
    try rw [p]
    rw [<- I] at l;have O5:=aa l;have E:some F≠(Value.slice P i Q).ownBlock:=by
     rcases O3.out.ne (b:=F) (by have:=o.out;omega) with e | e
     ·rw [e];simp
     ·exact fun e2=>e e2.symm
    have B5:=aa ((B3.keep (ae (ag w3 none) (Obj.cells #[.int .i64 q.kind,.int .i64 q.a,.int .i64 q.b,.int .i64 q.c,.int .i64 q.d,.string z] 60)) Z).keep M E);have G5:Hid (W.grownBy w5 none):=by
     refine aj (r:=none) (ab G3 (ae (ag w3 none) _)) M (fun _ _ e=>e) (fun k hk e=>?_);have:=(World.ownsRow.lt O3 k e.symm).1;have:=m.out;omega
    clear l M E m0 m1 m2 m3 y0 y1 y2 y3 y4 y5;obtain ⟨m0,m1,m2,m3⟩:=B5.out.cells;go_wp2;go_roundw
    case rel=>exact ⟨i+1,_,O,zN,B5.set1 _,O5.kept (bR _ _ _ _) (O5.ne (by have:=o.out;omega)),ah G5 _ _ (show W.heap.size<=F by have:=o.out;have:=m.out;omega)⟩
    case measure=>exact bO
  ·obtain rfl:i=ps.length:=O
   have I:Hid ((ps.map aH).take ps.length=ps.map aH):=by show _=_;rw [zT Z]
   rw [I] at G;obtain ⟨_,_,rb⟩:=NB.out wr U;have RB:=aa rb;obtain ⟨r0,r1,r2,r3⟩:=rb.cells;clear rb;go_wp2;refine bodyPost_ret (v:=.agg #[.int .i64 ((n:Nat):Int),.slice P ps.length Q]) (by simp [results,Tryz.results40,go_sem,r0,r1]) rfl ?_;refine ⟨_,rfl,(((G.kept (bR _ _ _ _) (G.ne O)).kept (bR _ _ _ _) (G.ne O)).low O),ah (ah (ab GW U) _ _ (Nat.le_add_right _ 1)) _ _ (Nat.le_add_right _ 1)⟩
theorem yG (n:Nat) (A:Option Addr) (B:Nat) (ps:List aD) (a b:Int) (w:World) (h:aA w (.slice A ps.length B) ps) (hn:ps.length<=1000) :
  Calls Tryz.prog 19 #[.agg #[.int .i64 ((n:Nat):Int),.slice A ps.length B],.int .i64 a,.int .i64 b] w fun e w'=>Cn w n (aW ps a b) e w':=by
 have HP:=aa h;clear h;obtain ⟨W,C⟩:=eX ((w.alloc (Obj.cells #[.int .i64 ((n:Nat):Int),.slice A ps.length B] 24)).alloc (Obj.cells #[.int .i64 0,.slice none 0 0] 24));have R:Hid (w.grownBy W none):=by rw [C];exact ae (ae (ag _ _) _) _
 have f:Hid (W.heap.size=w.heap.size+2):=by show _=_;rw [C];simp
 have S:Hid (∀ wx,W.grownBy wx none->wx.cell? ⟨w.heap.size,0,none⟩=some (.int .i64 ((n:Nat):Int))/\wx.cell? ⟨w.heap.size,1,none⟩=some (.slice A ps.length B)/\jd wx (w.heap.size+1) (.int .i64 0) (.slice none 0 0)):=by
  intro wx hg;have e:wx.heap[w.heap.size+1]? = some (Obj.cells #[.int .i64 0,.slice none 0 0] 24 (0,0)):=by
   rw [hg.block (w.heap.size+1) (by rw [f];omega) Z,C];have:=heap_alloc_new (w.alloc (Obj.cells #[.int .i64 ((n:Nat):Int),.slice A ps.length B] 24)) (Obj.cells #[.int .i64 0,.slice none 0 0] 24);simpa using this
  rw [C] at hg;exact ⟨hg.cell zG Z,hg.cell zG Z,e⟩
 obtain ⟨s0,s1,s2⟩:=S.out W (ag _ _);clear s2;go_enter Tryz.func19,Tryz.ntmps19
 go_upto_region 1 with fail;rw [<- C];clear C;go_wp2_with fail;refine (BO n A B ps W (HP.keep R) hn).mono ?_;rintro e w1 ⟨v,rfl,I,g1⟩;obtain ⟨y,z,rfl,hf⟩:=I.shape;have q:(ps.map aH).length=ps.length:=List.length_map _;rw [q] at I ⊢;have J:=aa I;have T:=aa g1;have s:=aa q;clear I g1 q s0 s1;go_upto_region 2 with fail;obtain ⟨p,l⟩:=eX w1.heap.size;obtain ⟨d,m⟩:=eX (w1.alloc (Obj.cells #[.int .i64 ((n:Nat):Int),.slice y ps.length z] 24));have D:Hid (w1.grownBy d none):=by rw [m];exact ae (ag _ _) _
 have U:Hid (W.grownBy d none):=ab T D;have V:Hid (jd d p (.int .i64 ((n:Nat):Int)) (.slice y ps.length z)):=by rw [m,l];exact heap_alloc_new w1 _
 have X:=aa (J.keep0 D);have K:Hid ((Value.slice y ps.length z).ownBlock=none∨(Value.slice y ps.length z).ownBlock≠some p):=by
  cases hv:(Value.slice y ps.length z).ownBlock with
  | none=>exact .inl rfl
  | some k =>
   right
   intro e;have:=(World.ownsRow.lt J k hv).2;have:=zJ e;omega
 have t:Hid (w.heap.size+2<=p):=by show _<=_;rw [l];have:=T.out.size;have:=f.out;omega
 have E:Hid (W.heap.size<=d.heap.size):=U.out.size;rw [<- m,<- l];clear m l J;obtain ⟨m0,m1,m2,m3⟩:=V.out.cells;have L:Hid (∀ j u,(cj ⟨5,b,a,0,0,⟨#[49]⟩⟩)[j]? = some u->(d.alloc (Obj.cells #[.int .i64 5,.int .i64 b,.int .i64 a,.int .i64 0,.int .i64 0,.string ⟨#[49]⟩] 60)).cell? ((⟨d.heap.size,0,none⟩:Addr).add j)=some u):=by
  intro j u hj;have hn:=heap_alloc_new d (Obj.cells #[.int .i64 5,.int .i64 b,.int .i64 a,.int .i64 0,.int .i64 0,.string ⟨#[49]⟩] 60);rw [show (⟨d.heap.size,0,none⟩:Addr).add j=⟨d.heap.size,j,none⟩ from by unfold Addr.add;split<;>simp_all];simp only [World.cell?,hn];rw [<- hj];simp [cj]
 go_wp2_with (at_builtin;refine kj _ rfl _ _ 22 rfl W.heap.size Tryz.underlying22 Tryz.infoPart (.slice y ps.length z) (ps.map aH) rfl (X.keep0 (ae (ag _ _) _)) d.heap.size ⟨5,b,a,0,0,⟨#[49]⟩⟩ rfl L (by rw [s];omega) (by simp;have:=E.out;omega) ?_)
 intro G c P i x;try rw [s] at i
 try rw [s]
 have H:Hid (eD P W.heap.size (.slice G (ps.length+1) c) (aW ps a b)):=i;have o:some p≠(Value.slice y ps.length z).ownBlock:=by
  rcases K.out with e | e
  ·rw [e];simp
  ·exact fun e2=>e e2.symm
 have Y:=aa ((V.keep (ae (ag d none) (Obj.cells #[.int .i64 5,.int .i64 b,.int .i64 a,.int .i64 0,.int .i64 0,.string ⟨#[49]⟩] 60)) Z).keep x o);have G5:Hid (W.grownBy P none):=by
  refine aj (r:=none) (ab U (ae (ag d none) _)) x (fun _ _ e=>e) (fun k hk e=>?_);have:=(World.ownsRow.lt X k e.symm).1;omega
 have M:Hid ((Value.slice G (ps.length+1) c).ownBlock=none∨(Value.slice G (ps.length+1) c).ownBlock≠some p):=by
  cases hv:(Value.slice G (ps.length+1) c).ownBlock with
  | none=>exact .inl rfl
  | some k =>
   right
   intro e;obtain rfl:=zJ e
   -- the block of the slice holds parts,the block of the net doesn't
   rcases H.out.2 with ⟨Q,_⟩ | ⟨g,he,hl,Q,_,hh,_⟩
   ·rw [Q] at hv;simp [Value.ownBlock] at hv
   ·rw [Q] at hv;simp only [Value.ownBlock,zI] at hv;subst hv;have hb:=Y.out;unfold jd at hb;rw [hh] at hb;simp at hb
 clear i x o m0 m1 m2 m3;obtain ⟨m0,m1,m2,m3⟩:=Y.out.cells;obtain ⟨_,_,rb⟩:=S.out P G5;obtain ⟨r0,r1,r2,r3⟩:=rb.cells;have N:p≠w.heap.size+1:=by have:=t.out;omega
 have F:w.heap.size+1≠p:=by have:=t.out;omega
 clear rb;go_wp2;refine bodyPost_ret (v:=.agg #[.int .i64 ((n:Nat):Int),.slice G (ps.length+1) c]) (by simp [results,Tryz.results19,go_sem,r0,r1,N,F]) rfl ?_;refine ⟨_,rfl,((((H.kept (bR _ _ _ _) M).kept (bR _ _ _ _) (H.ne (by have:=f.out;omega))).kept (bR _ _ _ _) (H.ne (by have:=f.out;omega))).low (by have:=f.out;omega)),ah (ah (ah (ab R G5) _ _ (show w.heap.size<=p by have:=t.out;omega)) _ _ (Nat.le_add_right _ 1)) _ _ (Nat.le_add_right _ 1)⟩
theorem BN (a c:Nat) (p q:Rat) (L M:Nat) (w:World) (d:RX w a p L) (f:RX w c q M) (i:L+M<=3900000000000) :
  Calls Tryz.prog 11 #[.pointer (some ⟨a,0,none⟩),.pointer (some ⟨c,0,none⟩)] w fun e w'=>Ci w (p*q) (L+M+2) e w':=by
 have j:=aa d;have k:=aa f;clear d f;go_enter Tryz.func11,Tryz.ntmps11
 go_wp2_with fail;refine (wj a c p q L M _ j k i).mono ?_;rintro e w1 ⟨b,rfl,h⟩;have H:=aa h;clear h;go_wp2;go_ret;exact ⟨b,rfl,H⟩
end Go.Proofs.YtbfohfjobncehaaGreatDoor
