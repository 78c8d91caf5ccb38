/- Contracts. -/
import Derived.Test.YtbfohfjobncehaaGreatDoorXPu
import Derived.Test.YtbfohfjobncehaaGreatDoorXPw
namespace Go.Proofs.YtbfohfjobncehaaGreatDoor
open Go.RowKit
set_option linter.all false
set_option maxHeartbeats 8000000
set_option maxRecDepth 10000
variable {ps:List aD}
theorem kp.same {b:Int} {c1 c2 p q:Int} {e f r s:Nat} {V I U J:Nat->Rat} (h:kp b ps c1 c2 e f V I) (k:kp b ps p q r s U J) :
  c1=p/\c2=q/\e=r/\f=s/\(∀ j,j<e->V j=U j)/\∀ i,i<f->I i=J i:=by
 rcases h with ⟨c,rfl,rfl,rfl,rfl⟩ | ⟨c,rfl,(⟨rfl,rfl,rfl,t,u⟩ | ⟨rfl,rfl,rfl,hn⟩ | ⟨rfl,rfl,rfl,A,B,A',x,ha,hb,hd⟩)⟩ <;>
  rcases k with ⟨k0,rfl,rfl,rfl,rfl⟩ | ⟨k0,rfl,(⟨rfl,rfl,rfl,y,g⟩ | ⟨rfl,rfl,rfl,v⟩ | ⟨rfl,rfl,rfl,C,D,z,E,w,kd,F⟩)⟩
 ·exact ⟨rfl,rfl,rfl,rfl,fun _ h=>absurd h (Nat.not_lt_zero _),fun _ h=>absurd h (Nat.not_lt_zero _)⟩
 ·exact absurd k0 c
 ·exact absurd k0 c
 ·exact absurd k0 c
 ·exact absurd c k0
 ·obtain ⟨G,H⟩:=g V I t;exact ⟨rfl,rfl,rfl,rfl,G,H⟩
 ·exact absurd ⟨V,I,t⟩ v
 ·obtain ⟨l,m⟩:=u C D w;obtain ⟨n,o⟩:=u z E kd;rcases F with ⟨j,d,a⟩ | ⟨i,hi,a⟩
  ·exact absurd ((l j d).trans (n j d).symm) a
  ·exact absurd ((m i hi).trans (o i hi).symm) a
 ·exact absurd c k0
 ·exact absurd ⟨U,J,y⟩ hn
 ·exact ⟨rfl,rfl,rfl,rfl,fun _ h=>absurd h (Nat.not_lt_zero _),fun _ h=>absurd h (Nat.not_lt_zero _)⟩
 ·exact absurd ⟨C,D,w⟩ hn
 ·exact absurd c k0
 ·obtain ⟨l,m⟩:=g A B ha;obtain ⟨n,o⟩:=g A' x hb;rcases hd with ⟨j,d,a⟩ | ⟨i,hi,a⟩
  ·exact absurd ((l j d).trans (n j d).symm) a
  ·exact absurd ((m i hi).trans (o i hi).symm) a
 ·exact absurd ⟨A,B,ha⟩ v
 ·exact ⟨rfl,rfl,rfl,rfl,fun _ h=>absurd h (Nat.not_lt_zero _),fun _ h=>absurd h (Nat.not_lt_zero _)⟩
theorem fQ (w:World) (R:Nat->Rat) (L:Nat):cX w (.slice none 0 0) 0 R L:=⟨none,0,rfl,zL,by unfold maxLen;omega,fun j h=>absurd h (Nat.not_lt_zero _)⟩
theorem SdE.says {w a:World} {n:Nat} {L:Nat} {e:Ending} (h:SdE w n ps L e a) (hc:(aM false (n:Int) ps).1=0) :
  ∃ (vv iv:Value) (how:Int) (n1 n2:Nat) (V I:Nat->Rat),e=.returned (.tuple #[vv,iv,.int .i64 how])/\w.grownBy a none/\kp (n:Int) ps (oM how) 0 n1 n2 V I/\cX a vv n1 V L/\cX a iv n2 I L:=by
 obtain ⟨vv,iv,how,rfl,hg,h⟩:=h;rcases h with ⟨rfl,rfl,rfl,hn⟩ | ⟨rfl,rfl,rfl,A,B,A',b,ha,hb,hd⟩ | ⟨rfl,V,I,c,d,f,g⟩
 ·exact ⟨_,_,_,0,0,fun _=>0,fun _=>0,rfl,hg,.inr ⟨hc,rfl,.inr (.inl ⟨rfl,rfl,rfl,by rw [Int.toNat_natCast];exact hn⟩)⟩,fQ _ _ _,fQ _ _ _⟩
 ·exact ⟨_,_,_,0,0,fun _=>0,fun _=>0,rfl,hg,.inr ⟨hc,rfl,.inr (.inr ⟨rfl,rfl,rfl,A,B,A',b,by rw [Int.toNat_natCast];exact ⟨ha,hb,hd⟩⟩)⟩,fQ _ _ _,fQ _ _ _⟩
 ·exact ⟨_,_,_,n,ps.length,V,I,rfl,hg,.inr ⟨hc,rfl,.inl ⟨rfl,by rw [Int.toNat_natCast],rfl,by rw [Int.toNat_natCast];exact ⟨c,d⟩⟩⟩,f,g⟩
def pS (nodes:Int) (ps:List aD) (a b:Int) (s1 s2:ByteArray) (c1 c2:Int):Prop :=
  (((aM false nodes ps).1≠0/\s1=⟨#[]⟩/\s2=⟨#[]⟩/\c1=(aM false nodes ps).1/\c2=(aM false nodes ps).2)
  ∨ ((aM false nodes ps).1=0/\(cH nodes.toNat ps.length a b).1≠0/\s1=⟨#[]⟩/\s2=⟨#[]⟩/\c1=(cH nodes.toNat ps.length a b).1/\c2=(cH nodes.toNat ps.length a b).2)
  ∨ ((aM false nodes ps).1=0/\(cH nodes.toNat ps.length a b).1=0/\c2=0/\s1=⟨#[]⟩/\s2=⟨#[]⟩/\((c1=7/\¬ ∃ V I,aE nodes.toNat ps V I)∨(c1=8/\∃ V I V' I',aE nodes.toNat ps V I/\aE nodes.toNat ps V' I'/\((∃ j,j<nodes.toNat/\V j≠V' j)∨∃ i,i<ps.length/\I i≠I' i))))
  ∨ ((aM false nodes ps).1=0/\(cH nodes.toNat ps.length a b).1=0/\c1=0/\c2=0/\∃ V I U J,aE nodes.toNat ps V I/\(∀ V' I',aE nodes.toNat ps V' I'->(∀ j,j<nodes.toNat->V' j=V j)/\∀ i,i<ps.length->I' i=I i)
    /\ aE nodes.toNat (aW ps a b) U J/\(∀ V' I',aE nodes.toNat (aW ps a b) V' I'->(∀ j,j<nodes.toNat->V' j=U j)/\∀ i,i<ps.length+1->I' i=J i)
    /\ s1=⟨(bZ (V a.toNat-V b.toNat)).toArray⟩/\s2=⟨(bZ (U a.toNat-U b.toNat)).toArray⟩))
theorem pS.same {c:Int} {a b:Int} {s1 s2 w x:ByteArray} {c1 c2 m y:Int} (h:pS c ps a b s1 s2 c1 c2) (k:pS c ps a b w x m y):s1=w/\s2=x/\c1=m/\c2=y:=by
 rcases h with ⟨e,rfl,rfl,rfl,rfl⟩ | ⟨e,f,rfl,rfl,rfl,rfl⟩ | ⟨e,f,rfl,rfl,rfl,hh⟩ | ⟨e,f,rfl,rfl,V,I,U,J,F,G,p,hu2,rfl,rfl⟩ <;>
  rcases k with ⟨k0,rfl,rfl,rfl,rfl⟩ | ⟨k0,k1,rfl,rfl,rfl,rfl⟩ | ⟨k0,k1,rfl,rfl,rfl,H⟩ | ⟨k0,k1,rfl,rfl,A,B,C,D,K,q,L,r,rfl,rfl⟩
 ·exact ⟨rfl,rfl,rfl,rfl⟩
 ·exact absurd k0 e
 ·exact absurd k0 e
 ·exact absurd k0 e
 ·exact absurd e k0
 ·exact ⟨rfl,rfl,rfl,rfl⟩
 ·exact absurd k1 f
 ·exact absurd k1 f
 ·exact absurd e k0
 ·exact absurd f k1
 ·have n:kp c ps c1 0 0 0 (fun _=>0) (fun _=>0):=by
   rcases hh with ⟨rfl,hn⟩ | ⟨rfl,V,I,g,I',ha,hb,hd⟩
   ·exact .inr ⟨e,rfl,.inr (.inl ⟨rfl,rfl,rfl,hn⟩)⟩
   ·exact .inr ⟨e,rfl,.inr (.inr ⟨rfl,rfl,rfl,V,I,g,I',ha,hb,hd⟩)⟩
  have o:kp c ps m 0 0 0 (fun _=>0) (fun _=>0):=by
   rcases H with ⟨rfl,hn⟩ | ⟨rfl,V,I,g,I',ha,hb,hd⟩
   ·exact .inr ⟨e,rfl,.inr (.inl ⟨rfl,rfl,rfl,hn⟩)⟩
   ·exact .inr ⟨e,rfl,.inr (.inr ⟨rfl,rfl,rfl,V,I,g,I',ha,hb,hd⟩)⟩
  exact ⟨rfl,rfl,(n.same o).1,rfl⟩
 ·exfalso
  rcases hh with ⟨rfl,hn⟩ | ⟨rfl,V,I,g,I',ha,hb,hd⟩
  ·exact hn ⟨A,B,K⟩
  ·obtain ⟨s,t⟩:=q V I ha;obtain ⟨u,v⟩:=q g I' hb;rcases hd with ⟨j,l,d⟩ | ⟨i,hi,d⟩
   ·exact d ((s j l).trans (u j l).symm)
   ·exact d ((t i hi).trans (v i hi).symm)
 ·exact absurd e k0
 ·exact absurd f k1
 ·exfalso
  rcases H with ⟨rfl,hn⟩ | ⟨rfl,A,B,A',M,ha,hb,hd⟩
  ·exact hn ⟨V,I,F⟩
  ·obtain ⟨s,t⟩:=G A B ha;obtain ⟨u,v⟩:=G A' M hb;rcases hd with ⟨j,l,d⟩ | ⟨i,hi,d⟩
   ·exact d ((s j l).trans (u j l).symm)
   ·exact d ((t i hi).trans (v i hi).symm)
 ·obtain ⟨⟨N,P⟩,⟨Q,R⟩,_⟩:=tp f;have z:=(q V I F).1;have E:=(r U J p).1;rw [z a.toNat O,z b.toNat O,E a.toNat O,E b.toNat O];exact ⟨rfl,rfl,rfl,rfl⟩
def lP (nodes:Int) (len:Nat) (C:Int×Int) (x:Int) (k:Nat):Int×Int:=if C.1=0/\(x<0∨nodes<=x) then (4,(len:Int)+k) else C
def mH (nodes:Int) (len:Nat) (C:Int×Int) (a b:Int):Nat->Int×Int
 | 0=>C
 | 1=>lP nodes len C a 0
 | _=>lP nodes len (lP nodes len C a 0) b 1
theorem uz {c:Int} {len:Nat} {C:Int×Int} {a b:Int} (h:C.1≠0):mH c len C a b 2=C:=by
 show lP c len (lP c len C a 0) b 1=C
 have e:lP c len C a 0=C:=if_neg (fun k=>h k.1);rw [e];exact if_neg (fun k=>h k.1)
theorem uA {n len:Nat} {a b:Int} : mH (n:Int) len (0,0) a b 2=cH n len a b:=by
 show lP n len (lP n len (0,0) a 0) b 1=_
 unfold cH;by_cases c:a<0∨(n:Int)<=a
 ·have e:lP n len (0,0) a 0=(4,(len:Int)+(0:Nat)):=if_pos ⟨rfl,c⟩;rw [if_pos c,e];have f:lP n len (4,(len:Int)+(0:Nat)) b 1=(4,(len:Int)+(0:Nat)):=if_neg (fun k=>absurd k.1 (by show ¬ (4:Int)=0;decide));rw [f];simp
 ·have e:lP n len (0,0) a 0=(0,0):=if_neg (fun k=>c k.2);rw [if_neg c,e];by_cases d:b<0∨(n:Int)<=b
  ·rw [if_pos d];exact if_pos ⟨rfl,d⟩
  ·rw [if_neg d];exact if_neg (fun k=>d k.2)
theorem yN (u1 u2 v1 v2:Value) (xs ys:List ByteArray) (w:World) (d:pR sv w u1 xs) (f:pR sv w u2 ys) (k1:pR sv w v1 xs) (g:pR sv w v2 ys) (m:xs.length<=100000) (a:ys.length<=100000) :
  Calls Tryz.prog 13 #[.agg #[u1,u2],.agg #[v1,v2]] w fun e C=>e=.returned (.bool true)/\w.grownBy C none:=by
 obtain ⟨o,c1,rfl,_⟩:=id d;obtain ⟨p,c2,rfl,_⟩:=id f;obtain ⟨q,r,rfl,_⟩:=id k1;obtain ⟨s,t,rfl,_⟩:=id g;have x:=aa d;have y:=aa f;have z:=aa k1;have A:=aa g;clear d f k1 g;obtain ⟨W,c⟩:=eX ((w.alloc (Obj.cells #[.slice o xs.length c1,.slice p ys.length c2] 41)).alloc (Obj.cells #[.slice q xs.length r,.slice s ys.length t] 41));have b:Hid (w.grownBy W none):=by rw [c];exact ae (ae (ag _ _) _) _
 have n:Hid (∀ wx,W.grownBy wx none->wx.cell? ⟨w.heap.size,0,none⟩=some (.slice o xs.length c1)/\wx.cell? ⟨w.heap.size,1,none⟩=some (.slice p ys.length c2)/\wx.cell? ⟨w.heap.size+1,0,none⟩=some (.slice q xs.length r)/\wx.cell? ⟨w.heap.size+1,1,none⟩=some (.slice s ys.length t)):=by
  intro wx hg;rw [c] at hg;exact ⟨hg.cell zG Z,hg.cell zG Z,hg.cell zG Z,hg.cell zG Z⟩
 go_enter Tryz.func13,Tryz.ntmps13
 go_upto_region 1 with fail;rw [<- c];clear c;obtain ⟨i,j,k,n3⟩:=n.out W (ag _ _);go_wp2_with fail;refine (jm _ _ xs xs W (x.keep b) (z.keep b) m m).mono ?_;rintro e u ⟨rfl,l⟩;have h:=aa l;rw [show decide (xs=xs)=true by simp];clear i j k n3;obtain ⟨i,j,k,n3⟩:=n.out u l;clear l;go_wp2_with fail;refine (jm _ _ ys ys u (y.keep (ab b h)) (A.keep (ab b h)) a a).mono ?_;rintro e D ⟨rfl,v⟩;have B:=aa v;rw [show decide (ys=ys)=true by simp];clear i j k n3 v;go_wp2;go_ret;exact ⟨rfl,ab b (ab h B)⟩
def pQ (w:World) (v:Value):Prop:=v=.slice none 0 0∨∃ g n cap cur,v=.slice (some ⟨g,0,none⟩) n cap/\w.heap[g]? = some (.cells cur 47 (0,0))/\cur.size=cap/\n<=cap/\cap<=maxLen
theorem bV.room {w:World} {base:Nat} {v:Value} {xs:List ByteArray} (h:bV sv 47 w base v xs):pQ w v:=by
 rcases h.2 with ⟨e,_⟩ | ⟨g,cap,a,e,k1,b,c,d,f,i⟩
 ·exact .inl e
 ·exact .inr ⟨g,_,cap,a,e,b,by rw [f,Nat.mul_one],c,d⟩
theorem pQ.keep {w c:World} {v:Value} {r:Option Nat} (h:pQ w v) (g:w.grownBy c r) (e:∀ k,v.ownBlock=some k->some k≠r):pQ c v:=by
 rcases h with h | ⟨b,n,cap,a,rfl,d,f,i,j⟩
 ·exact .inl h
 ·exact .inr ⟨b,n,cap,a,rfl,by rw [g.block b (zZ d).1 (e b rfl)];exact d,f,i,j⟩
theorem m7 {g:Nat} {t:TypeId} : ∀ (vs:List Value) (o:Nat) (w:World) (cur:Array Value),w.heap[g]? = some (.cells cur t (0,0))->w.grownBy (w.setCells g o vs) (some g)/\∃ cur',(w.setCells g o vs).heap[g]? = some (.cells cur' t (0,0))/\cur'.size=cur.size
 | [],o,w,cur,h=>⟨ag w (some g),cur,h,rfl⟩
 | v :: r,o,w,cur,h=>by
  have a:(w.setCell ⟨g,o,none⟩ v).heap[g]? = some (.cells (cur.setIfInBounds o v) t (0,0)):=heap_setCell_same w g o _ _ _ h;obtain ⟨k1,cur',b,c⟩:=m7 r (o+1) _ _ a;refine ⟨aj (r:=some g) (aq (ag w _)) k1 (fun _ _ e=>e) (fun _ _ e=>e),cur',b,?_⟩;rw [c,Array.size_setIfInBounds]
theorem zeroQ (w:World):(zeroValue 47).run Tryz.prog w=.ok (.string ⟨#[]⟩) w:=zK
theorem wS (v:Value) (w:World) (h:pQ w v):Calls Tryz.prog 15 #[v] w fun e s=>e=.returned (.tuple #[])/\w.grownBy s v.ownBlock/\∀ v2,pQ w v2->pQ s v2:=by
 rcases h with rfl | ⟨g,n,cap,c,rfl,d,C,D,A⟩
 ·have a:∀ ty,(Builtin.clear_ #[39] ty #[.slice none 0 0]).run Tryz.prog w=.ok (.tuple #[]) w:=fun ty=>by
   simp [Builtin.clear_,run_underlying Tryz.underlying39]
  go_enter Tryz.func15,Tryz.ntmps15
  go_wp2_with (simp only [a])
  go_end0
  exact ⟨rfl,ag _ _,fun _ h=>h⟩
 ·unfold maxLen at A;by_cases t:cap=0
  ·subst t;obtain rfl:n=0:=O
   have a:∀ ty,(Builtin.clear_ #[39] ty #[.slice (some ⟨g,0,none⟩) 0 0]).run Tryz.prog w=.ok (.tuple #[]) w:=fun ty=>by
    simp [Builtin.clear_,run_underlying Tryz.underlying39]
   go_enter Tryz.func15,Tryz.ntmps15
   go_wp2_with (simp only [a])
   go_end0
   exact ⟨rfl,ag _ _,fun _ h=>h⟩
  ·have a:∀ ty,(Builtin.clear_ #[39] ty #[.slice (some ⟨g,0,none⟩) cap cap]).run Tryz.prog w=.ok (.tuple #[]) (w.setCells g 0 (List.replicate cap (.string ⟨#[]⟩))) :=
    fun ty=>Lib.run_clear_slice w 39 47 ty (.string ⟨#[]⟩) Tryz.underlying39 zeroQ rfl rfl g 0 cap cap O (fun j B=>by simp [World.cell?,d];omega) (fun j B=>by simp [World.frozen?,d])
   obtain ⟨m,o⟩:∃ m,m=w.setCells g 0 (List.replicate cap (.string ⟨#[]⟩)):=⟨_,rfl⟩;obtain ⟨k1,f,i,p⟩:=m7 (List.replicate cap (.string ⟨#[]⟩)) 0 w c d;rw [<- o] at k1 i a;have k:=aa k1;have u:=aa i;have x:=aa p;have y:=aa d;clear k1 i p d o;go_enter Tryz.func15,Tryz.ntmps15
   go_wp2_with (simp only [a])
   go_end0
   refine ⟨rfl,k,fun v2 r=>?_⟩;rcases r with r | ⟨b,q,c2,u2,rfl,q1,q2,q3,q4⟩
   ·exact .inl r
   ·by_cases e:b=g
    ·subst e;have l:=y.out;rw [q1] at l;have z:u2=c:=by simpa using l
     exact .inr ⟨b,q,c2,f,rfl,u,by rw [x,<- z];exact q2,q3,q4⟩
    ·exact .inr ⟨b,q,c2,u2,rfl,by rw [k.block b (zZ q1).1 (fun h=>e (zJ h))];exact q1,q2,q3,q4⟩
def gV (w:World) (b:Nat) (T:TypeId) (u v:Value):Prop:=w.heap[b]? = some (Obj.cells #[u,v] T (0,0))
section
variable {w w':World} {b:Nat} {T:TypeId} {u v:Value}
theorem gV.lt (h:gV w b T u v):b<w.heap.size:=(zZ h).1
theorem gV.keep {r:Option Nat} (h:gV w b T u v) (g:w.grownBy w' r) (a:some b≠r):gV w' b T u v:=by
 have c:=h.lt;unfold gV at h ⊢;rw [g.block b c a,h]
theorem gV.cells (h:gV w b T u v):w.cell? ⟨b,0,none⟩=some u/\w.cell? ⟨b,1,none⟩=some v/\w.frozen? ⟨b,0,none⟩=false/\w.frozen? ⟨b,1,none⟩=false:=by
 unfold gV at h;exact ⟨by simp [World.cell?,h],by simp [World.cell?,h],by simp [World.frozen?,h],by simp [World.frozen?,h]⟩
theorem gV.set0 (h:gV w b T u v) (x:Value):gV (w.setCell ⟨b,0,none⟩ x) b T x v:=by
 unfold gV at h ⊢;rw [heap_setCell_same w b 0 _ _ _ h];rfl
theorem gV.set1 (h:gV w b T u v) (x:Value):gV (w.setCell ⟨b,1,none⟩ x) b T u x:=by
 unfold gV at h ⊢;rw [heap_setCell_same w b 1 _ _ _ h];rfl
end
theorem jD (w:World) (T:TypeId) (u v:Value):gV (w.alloc (Obj.cells #[u,v] T)) w.heap.size T u v:=heap_alloc_new _ _
end Go.Proofs.YtbfohfjobncehaaGreatDoor
