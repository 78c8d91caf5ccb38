/- Contracts. -/
import Derived.Test.YtkbmbmdemajoaaaGreatDoorXPp
import Derived.Test.YtkbmbmdemajoaaaGreatDoorXPh
namespace Go.Proofs.YtkbmbmdemajoaaaGreatDoor
open Go.RowKit
set_option linter.unusedVariables false
set_option linter.unusedSimpArgs false
set_option maxHeartbeats 8000000
set_option maxRecDepth 10000
variable {w:World} {n i L base:Nat} {ps:List aD} {a:Act} {R V I:Nat->Rat} {v:Value} {l:Array Bool} {P:Program} {o:Oper} {on D:Nat->Bool} {K:Act->World->Prop} {ops:Array Oper} {Q:Exit->Act->World->Prop} {xs:List Value}
theorem kh (w:World) (base:Nat) (t B e:TypeId) (i:TypeInfo) (z:Value) (h p:Nat) (H:P.underlying t=some (.slice e)) (hi:P.info? e=some i) (M:i.zero=some z)
  (hsize:i.size=h) (hby:i.bytes=p) (hzs:z.cells.size=h) (hs0:0<h) (hz1:∀ j (x:Nat),j<h->z.cells[j]!≠.int .u32 (x:Nat))
  (v:Value) (n:Nat) (xs:List Value) (hown:w.ownsRow base e h v n xs) (hnw:nL w v) (hxs:∀ u∈xs,∀ x:Nat,u≠.int .u32 (x:Nat))
  (a:Addr) (m c:Nat) (news:List Value) (hl:news.length=m*h) (hm:0<m) (hnews:∀ j u,news[j]? = some u->w.cell? (a.add j)=some u) (h1':∀ u∈news,u.oneCell'=true) (hyw:∀ u∈news,∀ x:Nat,u≠.int .u32 (x:Nat))
  (h63:n+m<=maxLen) (hbytes:(n+m)*p<=140737488355328) (hbase:base<=w.heap.size) :
  ∃ v' w',(Builtin.append_ #[t,t] B #[v,.slice (some a) m c]).run P w=.ok v' w'/\w'.ownsRow base e h v' (n+m) (xs++news)/\w.grownBy w' v.ownBlock/\nL w' v'/\aL w w':=by
 obtain ⟨v',w',y,h2,U,_⟩:=run_append_own (P:=P) w base t B e i z h p H hi M hsize hby hzs hs0 v n xs hown a m c news hl hnews h1' h63 hbytes hbase;refine ⟨v',w',y,h2,U,?_⟩;have J:n+m<=9223372036854775807:=by simp only [maxLen] at h63;omega
 have fresh:∀ cur:Array Value,(∀ u∈cur.toList,∀ x:Nat,u≠.int .u32 (x:Nat))->∀ c2,w'=w.drew.alloc (.cells cur e)->v'=.slice (some ⟨w.heap.size,0,none⟩) (n+m) c2->nL w' v'/\aL w w':=by
  intro cur hc c2 ew ev;have N:w.grownBy w' none:=by rw [ew];exact ⟨rfl,rfl,rfl,Z,fun k hk _=>heap_alloc_old w.drew _ hk⟩
  refine ⟨fun k A=>?_,aL.of_gr N⟩;rw [ev] at A;simp only [Value.ownBlock,zI] at A;subst A;exact wL.cells (by rw [ew];exact heap_alloc_new w.drew _) hc
 have C:∀ k,∀ u∈(Builtin.zeroCells z.cells k).toList,∀ x:Nat,u≠.int .u32 (x:Nat):=by
  intro k u d x;unfold Builtin.zeroCells at d;simp only [Array.toList_map,List.mem_map] at d;obtain ⟨j,_,rfl⟩:=d;rw [hzs];exact hz1 _ x (Nat.mod_lt _ hs0)
 rcases hown.2 with ⟨rfl,rfl⟩ | ⟨g,cap,cur,rfl,he,hg,hf,hj,W,X⟩
 ·have q:=run_append_nil (P:=P) w t B e i z H hi M a m c news (by rw [hsize];exact hl) hnews hm O (by rw [hby];rw [Nat.zero_add] at hbytes;omega);rw [q] at y;injection y with e1 e2
  refine fresh _ ?_ (grownCap w m 0 e) e2.symm (by rw [Nat.zero_add];exact e1.symm);intro u d;simp only [Array.toList_append,List.mem_append] at d;rcases d with d | d
  ·exact hyw u (by simpa using d)
  ·exact C _ u d
 ·by_cases r:n+m<=cap
  ·have E:n*i.size+news.length<=cur.size:=by
    rw [hsize,W,hl,<- Nat.add_mul];exact Nat.mul_le_mul_right _ r
   have q:=run_append_room (P:=P) w t B e i H hi g n cap cur hg a m c news (by rw [hsize];exact hl) hnews h1' r E;rw [q] at y;injection y with e1 e2
   have S:=hnw g rfl;have F:=setRow_heap w g cur ((cur.toList.take (n*i.size)++news++cur.toList.drop (n*i.size+news.length)).toArray) e _ hg;refine ⟨fun k A=>?_,⟨U.size,fun Y x ex=>?_⟩⟩
   ·rw [<- e1] at A;simp only [Value.ownBlock,zI] at A;subst A;rw [<- e2];refine wL.cells F ?_;intro u d x;simp only [List.mem_append] at d;rcases d with (d | d) | d
    ·exact S.all hg u (List.mem_of_mem_take d) x
    ·exact hyw u d x
    ·exact S.all hg u (List.mem_of_mem_drop d) x
   ·have T:Y.block≠g:=fun G=>by
     obtain ⟨b,i,f⟩:=Y;simp only at G;subst G;exact S i f x ex
    rw [World.cell?_of_block (U.block Y.block (bZ ex) (fun G=>T (by simp only [Value.ownBlock,zI] at G;exact G)))];exact ex
  ·have s:∀ j u,xs[j]? = some u->w.cell? ((⟨g,0,none⟩:Addr).add j)=some u:=hown.cells (g:=g) rfl;have q:=run_append_grow (P:=P) w t B e i z H hi M ⟨g,0,none⟩ n cap xs (by rw [hsize];exact hown.1) s a m c news (by rw [hsize];exact hl) hnews O O (growslice_fits O (by rw [hby];exact hbytes));rw [q] at y;injection y with e1 e2
   refine fresh _ ?_ _ e2.symm e1.symm;intro u d;simp only [Array.toList_append,List.mem_append] at d;rcases d with (d | d) | d
   ·exact hxs u (by simpa using d)
   ·exact hyw u (by simpa using d)
   ·exact C _ u d
def fg (w:World) (xs:List Value) (n:Nat) (R:Nat->Rat) (L:Nat):Prop :=
 xs.length=n*3/\∀ i,i<n->∃ uo ul uc do_ dl dc,xs[i*3]? = some (.bool (rB (R i)))/\xs[i*3+1]? = some (.slice uo ul uc)/\xs[i*3+2]? = some (.slice do_ dl dc)/\FQ w (.agg #[.bool (rB (R i)),.slice uo ul uc,.slice do_ dl dc]) (R i) L
theorem fg.kept {c:World} (h:fg w xs n R L) (k:aL w c):fg c xs n R L:=by
 refine ⟨h.1,fun i hi=>?_⟩;obtain ⟨d,e,f,b,g,j,c0,c1,m,p⟩:=h.2 i hi;exact ⟨d,e,f,b,g,j,c0,c1,m,p.kept k⟩
theorem fg.mem (h:fg w xs n R L):∀ u∈xs,u.oneCell'=true/\∀ x:Nat,u≠.int .u32 (x:Nat):=by
 intro u f;obtain ⟨j,c⟩:=List.mem_iff_getElem?.1 f;have d:j<n*3:=by have:=(zY c).1;rw [h.1] at this;exact this
 obtain ⟨m,p,q,g,r,s,c0,c1,k,t⟩:=h.2 (j / 3) O;have b:j=j / 3*3∨j=j / 3*3+1∨j=j / 3*3+2:=O
 rcases b with e | e | e
 ·rw [e,c0] at c;rw [<- zJ c];exact ⟨rfl,fun x e=>by cases e⟩
 ·rw [e,c1] at c;rw [<- zJ c];exact ⟨rfl,fun x e=>by cases e⟩
 ·rw [e,k] at c;rw [<- zJ c];exact ⟨rfl,fun x e=>by cases e⟩
theorem fg.append {ys:List Value} {m:Nat} {S:Nat->Rat} (h:fg w xs n R L) (k:fg w ys m S L):fg w (xs++ys) (n+m) (fun i=>if i<n then R i else S (i-n)) L:=by
 refine ⟨by rw [List.length_append,h.1,k.1,Nat.add_mul],fun i hi=>?_⟩;by_cases hn:i<n
 ·simp only [if_pos hn];obtain ⟨c,d,e,b,f,g,c0,c1,j,p⟩:=h.2 i hn;have:=h.1;exact ⟨c,d,e,b,f,g,by rw [List.getElem?_append_left O];exact c0,by rw [List.getElem?_append_left O];exact c1,by rw [List.getElem?_append_left O];exact j,p⟩
 ·simp only [if_neg hn];obtain ⟨c,d,e,b,f,g,c0,c1,j,p⟩:=k.2 (i-n) O;have:=h.1;exact ⟨c,d,e,b,f,g,by rw [List.getElem?_append_right O,show i*3-xs.length=(i-n)*3 by omega];exact c0,by rw [List.getElem?_append_right O,show i*3+1-xs.length=(i-n)*3+1 by omega];exact c1,by rw [List.getElem?_append_right O,show i*3+2-xs.length=(i-n)*3+2 by omega];exact j,p⟩
def LwAt (w:World) (v:Value) (k:Nat) (R:Nat->Rat) (L:Nat):Prop :=
 ∃ ao cap,v=.slice ao k cap/\k<=cap/\cap<=maxLen/\∀ i,i<k->∃ g,ao=some ⟨g,0,none⟩/\g<w.heap.size/\∃ o0 l0 c0 o1 l1 c1 o2 l2 c2 o3 l3 c3 o4 l4 c4 o5 l5 c5 o6 l6 c6 o7 l7 c7,(w.cell? ⟨g,i*12,none⟩=some (.bool (rB (R (i*4))))/\w.cell? ⟨g,i*12+1,none⟩=some (.slice o0 l0 c0)/\w.cell? ⟨g,i*12+2,none⟩=some (.slice o1 l1 c1)/\w.cell? ⟨g,i*12+3,none⟩=some (.bool (rB (R (i*4+1))))/\w.cell? ⟨g,i*12+4,none⟩=some (.slice o2 l2 c2)/\w.cell? ⟨g,i*12+5,none⟩=some (.slice o3 l3 c3)/\w.cell? ⟨g,i*12+6,none⟩=some (.bool (rB (R (i*4+2))))/\w.cell? ⟨g,i*12+7,none⟩=some (.slice o4 l4 c4)/\w.cell? ⟨g,i*12+8,none⟩=some (.slice o5 l5 c5)/\w.cell? ⟨g,i*12+9,none⟩=some (.bool (rB (R (i*4+3))))/\w.cell? ⟨g,i*12+10,none⟩=some (.slice o6 l6 c6)/\w.cell? ⟨g,i*12+11,none⟩=some (.slice o7 l7 c7))/\FQ w (.agg #[.bool (rB (R (i*4))),.slice o0 l0 c0,.slice o1 l1 c1]) (R (i*4)) L/\FQ w (.agg #[.bool (rB (R (i*4+1))),.slice o2 l2 c2,.slice o3 l3 c3]) (R (i*4+1)) L/\FQ w (.agg #[.bool (rB (R (i*4+2))),.slice o4 l4 c4,.slice o5 l5 c5]) (R (i*4+2)) L/\FQ w (.agg #[.bool (rB (R (i*4+3))),.slice o6 l6 c6,.slice o7 l7 c7]) (R (i*4+3)) L
def bU (w:World) (base:Nat) (v:Value) (k:Nat) (R:Nat->Rat) (L:Nat):Prop :=
 ∃ xs,w.ownsRow base 92 12 v k xs/\nL w v/\fg w xs (k*4) R L
theorem rA : bU w base (.slice none 0 0) 0 R L:=⟨[],⟨rfl,.inl ⟨rfl,rfl⟩⟩,nL.nil _,rfl,fun i h=>O⟩
theorem bU.shape {k:Nat} (h:bU w base v k R L):∃ ao c,v=.slice ao k c:=by
 obtain ⟨xs,b,e,f⟩:=h;rcases b.2 with ⟨rfl,rfl⟩ | ⟨g,cap,d,rfl,_⟩
 ·exact ⟨_,_,rfl⟩
 ·exact ⟨_,_,rfl⟩
theorem bU.fresh {k:Nat} (h:bU w base v k R L) (b:Nat) (hb:v.ownBlock=some b):base<=b/\b<w.heap.size:=by
 obtain ⟨xs,e,q,r⟩:=h;rcases e.2 with ⟨rfl,rfl⟩ | ⟨g,cap,f,rfl,c,hg,j,m,p,d⟩
 ·simp [Value.ownBlock] at hb
 ·simp only [Value.ownBlock,zI] at hb;subst hb;exact ⟨c,(zZ hg).1⟩
theorem bU.keep0 {e:World} {k:Nat} (h:bU w base v k R L) (hg:w.grownBy e none):bU e base v k R L:=by
 have f:=h.fresh;obtain ⟨xs,j,p,q⟩:=h;refine ⟨xs,⟨j.1,?_⟩,fun k m=>(p k m).keep (f k m).2 hg Z,q.kept (aL.of_gr hg)⟩;rcases j.2 with h | ⟨g,cap,b,rfl,c,d,rest⟩
 ·exact .inl h
 ·exact .inr ⟨g,cap,b,rfl,c,by rw [hg.block g (f g rfl).2 Z];exact d,rest⟩
theorem bU.congr {k:Nat} {R':Nat->Rat} (h:bU w base v k R L) (e:∀ i,i<k*4->R i=R' i):bU w base v k R' L:=by
 obtain ⟨xs,c,d,b⟩:=h;refine ⟨xs,c,d,b.1,fun i hi=>?_⟩;rw [<- e i hi];exact b.2 i hi
theorem bU.lw {k:Nat} (h:bU w base v k R L):LwAt w v k R L:=by
 obtain ⟨xs,J,h2,d⟩:=h;rcases J.2 with ⟨rfl,rfl⟩ | ⟨g,cap,M,rfl,N,hg,e,f,S,c⟩
 ·exact ⟨none,0,rfl,zL,by unfold maxLen;omega,fun i h=>O⟩
 ·refine ⟨_,cap,rfl,e,f,fun i hi=>⟨g,rfl,(zZ hg).1,?_⟩⟩;have b:∀ j v,j<k*12->xs[j]? = some v->w.cell? ⟨g,j,none⟩=some v:=by
   intro j v H m;rw [<- c,List.getElem?_take,if_pos H,Array.getElem?_toList] at m;simp only [World.cell?,hg];exact m
  obtain ⟨T,U,c0,W,X,c1,p,q,r,Y⟩:=d.2 (i*4) O;obtain ⟨o2,l2,c2,o3,l3,c3,s,t,u,b3⟩:=d.2 (i*4+1) O;obtain ⟨o4,l4,c4,o5,l5,c5,x,y,z,d3⟩:=d.2 (i*4+2) O;obtain ⟨o6,l6,c6,o7,l7,c7,A,B,C,e3⟩:=d.2 (i*4+3) O;have E:i*4*3=i*12:=O
  have F:(i*4+1)*3=i*12+3:=O
  have G:(i*4+2)*3=i*12+6:=O
  have m3:(i*4+3)*3=i*12+9:=O
  rw [E] at p q r;rw [F] at s t u;rw [G] at x y z;rw [m3] at A B C;exact ⟨T,U,c0,W,X,c1,o2,l2,c2,o3,l3,c3,o4,l4,c4,o5,l5,c5,o6,l6,c6,o7,l7,c7,⟨b _ _ O p,b _ _ O q,b _ _ O r,b _ _ O s,b _ _ O t,b _ _ O u,b _ _ O x,b _ _ O y,b _ _ O z,b _ _ O A,b _ _ O B,b _ _ O C⟩,Y,b3,d3,e3⟩
def xE (R:Nat->Rat) (k:Nat) (a f l s:Rat):Nat->Rat:=fun i=>if i<k*4 then R i else if i=k*4 then a else if i=k*4+1 then f else if i=k*4+2 then l else s
theorem m7 {P:Program} (W:World) {ops:Array Oper} {rest:List Oper} {a:Act} {Q:Exit->Act->World->Prop}
  (hg:o.guard=none) (s x:Operand) (t:TypeId) (ho:o.op=.call { callee:=.builtin .append,args:=#[s,x],argTypes:=#[t,t] }) (base:Nat)
  (h1:P.underlying t=some (.slice 92)) (hinfo:(P.info? 92).map (fun i=>(i.zero,i.size,i.bytes))=some (some (.agg #[.bool false,.slice none 0 0,.slice none 0 0,.bool false,.slice none 0 0,.slice none 0 0,.bool false,.slice none 0 0,.slice none 0 0,.bool false,.slice none 0 0,.slice none 0 0]),12,224))
  (v:Value) (k:Nat) (R:Nat->Rat) (L:Nat) (hs:a.eval s=v) (hown:bU W base v k R L) (b c:Nat) (hx:a.eval x=.slice (some ⟨b,0,none⟩) 1 c) (qa qf ql qs:Rat) (ys:List Value)
  (hy:∀ j u,ys[j]? = some u->W.cell? ⟨b,j,none⟩=some u) (hc:fg W ys 4 (fun i=>if i=0 then qa else if i=1 then qf else if i=2 then ql else qs) L)
  (hlen:k+1<=1000000) (hbase:base<=W.heap.size)
  (hK:∀ ao cap w',bU w' base (.slice ao (k+1) cap) (k+1) (xE R k qa qf ql qs) L->W.grownBy w' v.ownBlock->aL W w'->wpList P ops Q rest (a.put o.dst (.slice ao (k+1) cap)) w'):wpList P ops Q (o :: rest) a W:=by
 obtain ⟨i,hi,g,m,p⟩:=info_parts hinfo;obtain ⟨xs,E,F,y⟩:=hown;obtain ⟨G,w',H,h2,J,M,q⟩:=kh (P:=P) W base t o.type 92 i _ 12 224 h1 hi g m p rfl zD
  (fun j x z=>by
   have hc:j=0∨j=1∨j=2∨j=3∨j=4∨j=5∨j=6∨j=7∨j=8∨j=9∨j=10∨j=11:=O
   rcases hc with rfl | rfl | rfl | rfl | rfl | rfl | rfl | rfl | rfl | rfl | rfl | rfl<;>(intro e;cases e))
  v k xs E F (fun u d=>(y.mem u d).2) ⟨b,0,none⟩ 1 c ys hc.1 zD (fun j u z=>by rw [show (⟨b,0,none⟩:Addr).add j=⟨b,j,none⟩ from by unfold Addr.add;by_cases h:j=0<;>simp [h]];exact hy j u z) (fun u d=>(hc.mem u d).1) (fun u d=>(hc.mem u d).2) (by unfold maxLen;omega) O hbase
 have A:=(y.kept q).append (hc.kept q);have e:(fun i=>if i<k*4 then R i else (fun i=>if i=0 then qa else if i=1 then qf else if i=2 then ql else qs) (i-k*4))=xE R k qa qf ql qs:=by
  funext i
  unfold xE;by_cases h:i<k*4
  ·rw [if_pos h,if_pos h]
  ·rw [if_neg h,if_neg h];have B:i-k*4=0↔i=k*4:=O
   have h1:i-k*4=1↔i=k*4+1:=O
   have h2:i-k*4=2↔i=k*4+2:=O
   simp only [B,h1,h2]
 have C:fg w' (xs++ys) (k*4+4) (xE R k qa qf ql qs) L:=e▸A;have f:bU w' base G (k+1) (xE R k qa qf ql qs) L:=⟨_,h2,M,by rw [show (k+1)*4=k*4+4 by omega];exact C⟩;obtain ⟨ao,cap,N⟩:=f.shape;refine wpList_plain hg fun _ r=>?_
 unfold Oper.wp execOp;simp only [ho,resolve,invoke,builtin,Sem.run_bind,Sem.run_pure,Result.andThen_ok,List.map_toArray,List.map_cons,List.map_nil,hs,hx,H];rw [N] at f ⊢;exact r _ _ (hK ao cap w' f J q)
attribute [local simp] iD bX im dR
def gZ (n:Nat) (ps:List aD) (R:Nat->Rat):Nat->Nat->Rat:=fun r =>
 if r=0 then aJ (fun _=>0) 0 1 else if r<n then dJ n ps r else match ps[r-n]? with
  | some p=>kR n (r-n) (n+ps.length+1) p.a.toNat p.b.toNat p.c.toNat p.d.toNat (R ((r-n)*4)) (R ((r-n)*4+1)) (R ((r-n)*4+2)) (R ((r-n)*4+3))
  | none=>fun _=>0
theorem xX (R:Nat->Rat) {e f g h:Nat} (hn:1<=n) (hi:i<ps.length) (j:ps[i].a=(e:Int)) (k:ps[i].b=(f:Int)) (m:ps[i].c=(g:Int)) (p:ps[i].d=(h:Int)) :
  kR n i (n+ps.length+1) e f g h (R (i*4)) (R (i*4+1)) (R (i*4+2)) (R (i*4+3))=gZ n ps R (n+i):=by
 unfold gZ;rw [if_neg O,if_neg O,show n+i-n=i by omega,zX hi];show _=kR n i (n+ps.length+1) ps[i].a.toNat ps[i].b.toNat ps[i].c.toNat ps[i].d.toNat _ _ _ _
 rw [j,k,m,p];rfl
theorem xH (f:Bool) (g b:Option Addr) (fl fc c d:Nat) (n j:Nat) (h:Option Addr) (k:Nat) (ps:List aD) (Q:Nat->Rat) (L:Nat) (w:World) (p:FQ w (.agg #[.bool f,.slice g fl fc,.slice b c d]) 1 L) (q:aR w (.slice h ps.length k) ps)
  (hj:j<n) (hn:n<=1000) (hk:ps.length<=1000) (hL1:1<=L) (hL:L<=100000000) :
  Calls Tryz.prog 70 #[(jP f (.slice g fl fc) (.slice b c d)),.agg #[.int .i64 ((n:Nat):Int),.slice h ps.length k],.int .i64 ((j:Nat):Int)] w fun e r=>oL w (n+ps.length+1) (gZ n ps Q j) L e r:=by
 by_cases m:j=0
 ·subst m;have:=sU f g b fl fc c d n ps.length h k L w p hn hk;unfold gZ;rw [if_pos rfl];exact this
 ·have:=xI f g b fl fc c d n j _ ps L w p q hj m hn hk hL1 hL;unfold gZ;rw [if_neg m,if_pos hj];exact this
theorem di.low {base':Nat} (h:di w base v n R L) (hb:base'<=base):di w base' v n R L:=by
 obtain ⟨d,c,e,f,g,j⟩:=h;refine ⟨d,c,e,f,g,fun q=>?_⟩;obtain ⟨b,k,m,p⟩:=j q;exact ⟨b,k,Nat.le_trans hb m,p⟩
theorem lP (g k n cap:Nat) (X:Nat->Rat) (L:Nat) (w:World) (h:aH w g k X L) (f:n<=k) (hn:n<=3000) (hc:n<=cap) (m:cap<=maxLen) :
  Calls Tryz.prog 73 #[.slice (some ⟨g,0,none⟩) n cap] w fun e c=>∃ v,e=.returned v/\di c w.heap.size v n X L/\w.grownBy c none:=by
 obtain ⟨xs,p,q,r,s⟩:=h.piece 0 n O;refine jE g 0 n cap X L w xs p (fun j u t=>?_) r (fun c b d e x y z=>(s c b d e x y z).congr (fun i _=>by rw [Nat.zero_add])) hn hc m;have:=q j u t;rw [Nat.zero_mul] at this;exact this
theorem sw (g k n l cap:Nat) (X:Nat->Rat) (L:Nat) (w:World) (h:aH w g k X L) (b:n+l<=k) (hn:l<=3000) (hc:l<=cap) (d:cap<=maxLen) :
  Calls Tryz.prog 73 #[.slice (some ⟨g,n*3,none⟩) l cap] w fun e c=>∃ v,e=.returned v/\di c w.heap.size v l (fun i=>X (n+i)) L/\w.grownBy c none:=by
 obtain ⟨xs,f,j,m,p⟩:=h.piece n l b;exact jE g (n*3) l cap _ L w xs f j m p hn hc d
theorem sn (b off:Nat) (X:Nat->Rat) (L:Nat) (w:World) :
  Calls Tryz.prog 73 #[.slice (some ⟨b,off,none⟩) 0 0] w fun e c=>∃ v,e=.returned v/\di c w.heap.size v 0 X L/\w.grownBy c none :=
 jE b off 0 0 X L w [] rfl (fun j u h=>by simp at h) (fun u h=>by simp at h) (fun c g d e k f m=>⟨d,e,f,fun i hi=>O⟩) O O (by unfold maxLen;omega)
def RulE (w:World) (n k:Nat) (M:Nat->Nat->Rat) (L:Nat) (e:Ending) (w':World):Prop :=
 (∃ v1 v2 X,e=.returned (.tuple #[v1,v2,.int .i64 0])/\di w' w.heap.size v1 n X L/\di w' w.heap.size v2 k (fun i=>X (n+i)) L/\nM M (n+k) X/\(∀ z,nM M (n+k) z->∀ j,j<n+k->z j=X j)/\w.grownBy w' none)
 ∨ (e=.returned (.tuple #[.slice none 0 0,.slice none 0 0,.int .i64 7])/\(¬ ∃ x,nM M (n+k) x)/\w.grownBy w' none)
 ∨ (e=.returned (.tuple #[.slice none 0 0,.slice none 0 0,.int .i64 8])/\(∃ x y:Nat->Rat,nM M (n+k) x/\nM M (n+k) y/\∃ j,j<n+k/\x j≠y j)/\w.grownBy w' none)
def RulR (W:World) (base k lo m:Nat) (M:Nat->Nat->Rat) (L:Nat) (v9 v:Value) (wr:World):Prop :=
 ∃ (i:Nat) (bs cs:Nat->Nat),i<=k/\v=.int .i64 i/\cS (dW (m+1)) 58 wr base v9 (bV bs cs (lo+i))/\sd wr base (m+1) (lo+i) bs cs M L/\W.grownBy wr none
theorem Ei (fb:Bool) (fo p:Option Addr) (fl fc q s:Nat) (n:Nat) (po:Option Addr) (pc:Nat) (ps:List aD) (lv:Value) (R:Nat->Rat) (E:Nat->Nat) (L:Nat) (w:World)
  (h1:FQ w (.agg #[.bool fb,.slice fo fl fc,.slice p q s]) 1 L) (hp:aR w (.slice po ps.length pc) ps) (hR:cD n ps) (hl:LwAt w lv ps.length R L)
  (hP:∀ i,i<ps.length->∀ xa xb xc xd,bg L (0+R (i*4))/\bg L (aJ (fun _=>0) xa (0+R (i*4)) xb-R (i*4))/\bg L (aJ (aJ (fun _=>0) xa (0+R (i*4))) xb (aJ (fun _=>0) xa (0+R (i*4)) xb-R (i*4)) xc+R (i*4+2))
   /\ bg L (aJ (aJ (aJ (fun _=>0) xa (0+R (i*4))) xb (aJ (fun _=>0) xa (0+R (i*4)) xb-R (i*4))) xc (aJ (aJ (fun _=>0) xa (0+R (i*4))) xb (aJ (fun _=>0) xa (0+R (i*4)) xb-R (i*4)) xc+R (i*4+2)) xd-R (i*4+2)))
  (hfit:∀ r,r<n+ps.length->∀ k j,bg L (cj (gZ n ps R r) k j)) (hwh:∀ k r j,gF (4294967296^E r) (qm (gZ n ps R) k r j)) (hLs:iq E (n+ps.length)<L) (hL:L<=49000000) :
  Calls Tryz.prog 36 #[(jP fb (.slice fo fl fc) (.slice p q s)),.agg #[.int .i64 ((n:Nat):Int),.slice po ps.length pc],lv] w fun e w'=>RulE w n ps.length (gZ n ps R) L e w':=by
 have H1:=ab h1;have HP:=ab hp;have HR:=ab hR;have U:=ab hP;have hB:=ab hfit;have hC:=ab hwh;have hD:=ab hLs;have hE:=hR.lo;have kl:=hR.hi;have ko:=hR.len;have hs:1<=L:=O
 obtain ⟨qf,kf,rfl,ql,hT,hx⟩:=hl;have hF:=ab hx;obtain ⟨M,hM⟩:=eX (gZ n ps R);have HM:=ab hM;obtain ⟨m,hm⟩:=eX (n+ps.length);have Y:=ab hm;have kc:m<=28:=O
 have kz:n<=m:=O
 rw [<- hM];unfold maxLen at hT;clear h1 hp hR hP hfit hwh hLs hx hm hM;obtain ⟨W,hW⟩:=eX ((w.alloc (Obj.cells #[.bool fb,.slice fo fl fc,.slice p q s,.func (.func 60) #[] #[],.func (.func 61) #[] #[],.func (.func 62) #[] #[],.func (.func 63) #[] #[],.func (.func 64) #[] #[],.func (.func 65) #[] #[],.func (.func 66) #[] #[],.func (.func 67) #[] #[]] 87)).alloc (Obj.cells #[.int .i64 ((n:Nat):Int),.slice po ps.length pc] 24));have S:Hid (w.grownBy W none):=by rw [hW];exact ag (ag (ae _ _) _) _
 have kF:Hid (W.heap.size=w.heap.size+2):=by show _=_;rw [hW];simp
 have d:Hid (∀ wx,W.grownBy wx none->iD wx (w.heap.size)/\bX wx (w.heap.size) (.bool fb) (.slice fo fl fc) (.slice p q s)/\dR wx (w.heap.size+1) (.int .i64 ((n:Nat):Int)) (.slice po ps.length pc)):=by
  intro wx hg;obtain ⟨f1,f2⟩:=ln fb fo p fl fc q s (w:=W) (by rw [hW];exact ag (ae _ _) _);exact ⟨f1.k0 hg,f2.k0 hg,dR.k0 (w:=W) (by rw [hW];exact ⟨zG,zG⟩) hg⟩
 have s0:=d.out W (ae _ _);go_enter Tryz.func36,Tryz.ntmps36
 go_upto_region 2 with fail;rw [<- hW];clear hW;go_wp2;go_loopw [9,16] (fun v9 v wr=>Hid (RulR W W.heap.size n 0 m M L v9 v wr)) (fun _ v _=>n-(intOf v).toNat)
 case atStart=>exact ⟨0,fun _=>0,fun _=>0,O,rfl,mf,sd.nil ..,ae _ _⟩
 case round =>
  obtain ⟨i,bt,ct,hi,rfl,B,T,l3⟩:=hrel.out;rw [Nat.zero_add] at B T;obtain ⟨oa,oc,rfl⟩:=B.1.shape;rw [bj] at B ⊢;have G:=ab B;have H:=ab T;have h:=ab l3;clear B T l3 hrel s0;by_cases hlt:i<n
  ·have s0:=d.out wr h;go_wp2_with fail;refine (xH fb fo p fl fc q s n i po pc ps R L _ (H1.keep0 (aa S h)) (HP.keep (aa S h)) hlt O O hs O).mono ?_;rintro e w1 ⟨g,rfl,he,f1,g1⟩;rw [<- Y] at f1 ⊢;rw [<- HM] at f1;have F1:=ab f1;have G1:=ab (aa h g1);have O1:=ab (G.keep0 g1);have O2:=ab (H.keep0 g1);have hk:Hid ((Value.slice oa i oc).ownBlock≠some g):=fun e=>by have:=(G.1.fresh g e).2;omega
   have ho:Hid (∀ j,j<i->bt j≠g):=fun j hj e=>by have:=(H.row j hj).lt;omega
   have hq:Hid (W.heap.size<=g):=by show _<=_;have:=h.out.size;omega
   have hr:Hid (W.heap.size<=w1.heap.size):=G1.out.size;clear f1 g1 s0 G H;go_wp2_with (at_builtin;refine d6 (dW (m+1)) 58 (.slice none 0 0) 24 _ rfl _ _ 119 rfl W.heap.size Tryz.underlying119 Tryz.infoRow rfl (fun x=>by simp [Value.cells]) (fun u x=>by simp [dW]) (.slice oa (i) oc) (bV bt ct (i)) rfl (O1.keep0 (ag (ae _ _) _)) w1.heap.size (g,m+1) rfl (by go_simp;rfl) rfl (by rw [bj];omega) O (by simp;have:=hr.out;omega) ?_)
   intro ao hw w5 f y N;rw [bj] at f ⊢;have RA:=ab (iJ (O1.keep0 (ag (ae w1 none) _)) O (O2.keep0 (ag (ae w1 none) _)) zL (by unfold maxLen;omega) (F1.keep0 (ag (ae w1 none) _)) hq ho hk y N f);have HG:Hid (W.grownBy w5 none):=by
    refine aw (r:=none) (aa G1 (ag (ae w1 none) _)) y (fun _ _ e=>e) (fun b hb e=>?_);have:=(O1.1.fresh b e.symm).1;omega
   clear f y N;go_wp2;go_roundw
   case rel=>exact ⟨i+1,cQ bt i g,cQ ct i (m+1),O,zN,by rw [Nat.zero_add];exact RA.1,by rw [Nat.zero_add];exact RA.2,HG⟩
   case measure=>simp [intOf];omega
  ·obtain rfl:n=i:=O
   have s0:=d.out wr h;go_wp2;go_loopw [9,29] (fun v9 v wr=>Hid (RulR W W.heap.size ps.length n m M L v9 v wr)) (fun _ v _=>ps.length-(intOf v).toNat)
   case atStart=>exact ⟨0,bt,ct,O,rfl,G,H,h⟩
   case round =>
    clear G H h s0;obtain ⟨i,bt,ct,hi,rfl,B,T,l3⟩:=hrel.out;obtain ⟨oa,oc,rfl⟩:=B.1.shape;rw [bj] at B ⊢;have G:=ab B;have H:=ab T;have h:=ab l3;clear B T l3 hrel;by_cases hlt:i<ps.length
    ·obtain ⟨gl,rfl,qo,o0,l0,c0,o1,B,c1,o2,T,c2,o3,l3,c3,o4,l4,c4,o5,l5,c5,o6,l6,c6,o7,l7,c7,cc,f0,f1,f2,f3⟩:=hF.out i hlt;obtain ⟨x0,x1,x2,x3,x4,x5,x6,x7,x8,x9,hy,hz⟩:=cc;have C:=aa S h;have y0:=C.cell x0 Z;have y1:=C.cell x1 Z;have y2:=C.cell x2 Z;have y3:=C.cell x3 Z;have y4:=C.cell x4 Z;have y5:=C.cell x5 Z;have y6:=C.cell x6 Z;have y7:=C.cell x7 Z;have y8:=C.cell x8 Z;have y9:=C.cell x9 Z;have hG:=C.cell hy Z;have hH:=C.cell hz Z;have K0:=ab f0;have K1:=ab f1;have K2:=ab f2;have K3:=ab f3;clear x0 x1 x2 x3 x4 x5 x6 x7 x8 x9 hy hz f0 f1 f2 f3 C;obtain ⟨xa,xb,xc,xd,ea,eb,ec,ed,ha,hb,hc,hd⟩:=HR.out.ends ps[i] (List.getElem_mem hlt);have EE:=ab (And.intro ea (And.intro eb (And.intro ec ed)));clear ea eb ec ed;have s0:=d.out wr h;go_upto_region 10 with fail;obtain ⟨z,c⟩:=eX (wr.alloc (Obj.cells #[.bool (rB (R (i*4))),.slice o0 l0 c0,.slice o1 B c1,.bool (rB (R (i*4+1))),.slice o2 T c2,.slice o3 l3 c3,.bool (rB (R (i*4+2))),.slice o4 l4 c4,.slice o5 l5 c5,.bool (rB (R (i*4+3))),.slice o6 l6 c6,.slice o7 l7 c7] 92));have G2:Hid (wr.grownBy z none):=by rw [c];exact ag (ae _ _) _
     have z0:z.cell? ⟨wr.heap.size,0,none⟩=some (.bool (rB (R (i*4)))):=by rw [c];go_simp
     have z1:z.cell? ⟨wr.heap.size,1,none⟩=some (.slice o0 l0 c0):=by rw [c];go_simp
     have z2:z.cell? ⟨wr.heap.size,2,none⟩=some (.slice o1 B c1):=by rw [c];go_simp
     have z3:z.cell? ⟨wr.heap.size,3,none⟩=some (.bool (rB (R (i*4+1)))):=by rw [c];go_simp
     have z4:z.cell? ⟨wr.heap.size,4,none⟩=some (.slice o2 T c2):=by rw [c];go_simp
     have z5:z.cell? ⟨wr.heap.size,5,none⟩=some (.slice o3 l3 c3):=by rw [c];go_simp
     have z6:z.cell? ⟨wr.heap.size,6,none⟩=some (.bool (rB (R (i*4+2)))):=by rw [c];go_simp
     have z7:z.cell? ⟨wr.heap.size,7,none⟩=some (.slice o4 l4 c4):=by rw [c];go_simp
     have z8:z.cell? ⟨wr.heap.size,8,none⟩=some (.slice o5 l5 c5):=by rw [c];go_simp
     have z9:z.cell? ⟨wr.heap.size,9,none⟩=some (.bool (rB (R (i*4+3)))):=by rw [c];go_simp
     have hI:z.cell? ⟨wr.heap.size,10,none⟩=some (.slice o6 l6 c6):=by rw [c];go_simp
     have hJ:z.cell? ⟨wr.heap.size,11,none⟩=some (.slice o7 l7 c7):=by rw [c];go_simp
     rw [<- c];clear c s0 y0 y1 y2 y3 y4 y5 y6 y7 y8 y9 hG hH;have G3:=ab (aa h G2);have GA:=ab (aa S G3);have s0:=d.out z G3;go_wp2_with fail;refine (xM fb fo p fl fc q s n i xa xb xc xd (.slice po ps.length pc) ps (R (i*4)) (R (i*4+1)) (R (i*4+2)) (R (i*4+3)) o0 o4 o6 o2 o1 o5 o7 o3 l0 c0 B c1 l4 c4 l5 c5 l6 c6 l7 c7 T c2 l3 c3 L z (HP.keep GA) hlt EE.1 EE.2.1 EE.2.2.1 EE.2.2.2 ha hb hc hd (K0.keep0 GA) (K1.keep0 GA) (K2.keep0 GA) (K3.keep0 GA) O O O (U i hlt xa xb xc xd).1 (U i hlt xa xb xc xd).2.1 (U i hlt xa xb xc xd).2.2.1 (U i hlt xa xb xc xd).2.2.2).mono ?_;rintro e w3 ⟨g,rfl,he,f1,g1⟩;rw [xX R hE hlt EE.1 EE.2.1 EE.2.2.1 EE.2.2.2,<- HM,<- Y] at f1;rw [<- Y];have F1:=ab f1;have G1:=ab (aa G3 g1);have GR:=aa G2 g1;have O1:=ab (G.keep0 GR);have O2:=ab (H.keep0 GR);have kH:wr.heap.size<=g:=Nat.le_trans G2.size he;have hk:Hid ((Value.slice oa (n+i) oc).ownBlock≠some g):=fun e=>by have:=(G.1.fresh g e).2;omega
     have ho:Hid (∀ j,j<n+i->bt j≠g):=fun j hj e=>by have:=(H.row j hj).lt;omega
     have hq:Hid (W.heap.size<=g):=by show _<=_;have:=h.out.size;omega
     have hr:Hid (W.heap.size<=w3.heap.size):=G1.out.size;clear f1 g1 GR s0 G H z0 z1 z2 z3 z4 z5 z6 z7 z8 z9 hI hJ;go_wp2_with (at_builtin;refine d6 (dW (m+1)) 58 (.slice none 0 0) 24 _ rfl _ _ 119 rfl W.heap.size Tryz.underlying119 Tryz.infoRow rfl (fun x=>by simp [Value.cells]) (fun u x=>by simp [dW]) (.slice oa (n+i) oc) (bV bt ct (n+i)) rfl (O1.keep0 (ag (ae _ _) _)) w3.heap.size (g,m+1) rfl (by go_simp;rfl) rfl (by rw [bj];omega) O (by simp;have:=hr.out;omega) ?_)
     intro ao hw w5 f y N;rw [bj] at f ⊢;have RA:=ab (iJ (O1.keep0 (ag (ae w3 none) _)) O (O2.keep0 (ag (ae w3 none) _)) zL (by unfold maxLen;omega) (F1.keep0 (ag (ae w3 none) _)) hq ho hk y N f);have HG:Hid (W.grownBy w5 none):=by
      refine aw (r:=none) (aa G1 (ag (ae w3 none) _)) y (fun _ _ e=>e) (fun b hb e=>?_);have:=(O1.1.fresh b e.symm).1;omega
     clear f y N;go_wp2;go_roundw
     case rel=>exact ⟨i+1,cQ bt (n+i) g,cQ ct (n+i) (m+1),O,zN,RA.1,RA.2,HG⟩
     case measure=>simp [intOf];omega
    ·obtain rfl:ps.length=i:=O
     obtain ⟨br,kk,e2,q1,q2,q3,q4⟩:=G.out.mat O O H;rw [Y] at q4;simp only [Value.slice.injEq,true_and] at e2;obtain ⟨rfl,rfl⟩:=e2;have Q3:=ab q3;have Q4:=ab q4;have hu:=yT (n+ps.length) L O E hD;have hf:=ab hu;clear q3 q4 hu G H;have s0:=d.out wr h;go_wp2_with fail;refine (rows_at fb fo p fl fc q s br (n+ps.length) oc bt ct M L (2*L+1) (fun r=>4294967296^E r) wr Q4 (H1.keep0 (aa S h)) O O q2 Q3 hs O (fun i hi k _ j _=>by rw [HM];exact hB i hi k j) (fun r=>Nat.one_le_pow _ _ zD) (fun r j=>by rw [HM];exact hC _ r j) hf (most_sq _ L _ O hf) O O).mono ?_;rintro e w5 (⟨g,X,rfl,he,fX,gX,t,hA⟩ | ⟨rfl,gX,t⟩ | ⟨rfl,gX,t⟩)
     ·have FX:=ab fX;have G5:=ab (aa h gX);have F:=ab t;have hv:=ab hA;clear fX gX t hA s0 he;have s11:=(d w5 G5).2.2.1;have CN:Hid (∀ wx,w5.grownBy wx none->wx.cell? ⟨w.heap.size+1,0,none⟩=some (.int .i64 ((n:Nat):Int))):=fun wx hg=>hg.cell s11 Z
      have GG:w5.grownBy w5 none:=ae _ _;have kN:(0:Int)<=(n:Int):=O
      have qa:(n:Int)<=((n:Int)+(ps.length:Int)):=O
      have A:Hid (w.heap.size<=w5.heap.size):=(aa S G5).size;by_cases hK:ps.length=0
      ·have hN:=ab hK;have qb:(n+ps.length=n)=True:=eq_true O;go_wp2_with fail;go_region_held3 (fun w'=>w'.cell? ⟨w.heap.size+1,0,none⟩=some (.int .i64 ((n:Nat):Int))) (go_keep)
        (first | (go_at_call_of 73 (Value.slice (some ⟨g,0,none⟩) n n);refine (lP g (n+ps.length) n _ X L _ (FX.keep0 (gx GG)) O O O (by unfold maxLen;omega)).mono ?_;rintro e wa ⟨va,rfl,pa,ga⟩;have pa:=pa.low (Nat.le_trans A GG.size);obtain ⟨hX,hY,rfl,_⟩:=id pa;have J:=aa kw ga;(try have pb:=pb.keep0 J);clear J;have GG:=aa (gx GG) ga;have hQ:=CN.out wa GG) | (go_at_call 73;refine (sn g _ (fun i=>X (n+i)) L _).mono ?_;rintro e wb ⟨vb,rfl,pb,gb⟩;have pb:=pb.low (Nat.le_trans A GG.size);obtain ⟨ka,kb,rfl,_⟩:=id pb;have J:=aa kw gb;(try have pa:=pa.keep0 J);clear J;have GG:=aa (gx GG) gb;have hS:=CN.out wb GG))
       all_goals
        have PA:=ab pa;have PB:=ab pb;have GF:=ab GG;clear pa pb GG;go_wp2;go_ret3
        exact .inl ⟨_,_,X,rfl,PA.keep0 zE,(by rw [hN];exact PB.keep0 zE),F,hv,aa (aa S G5) (by first | exact GF | exact aa GF aA)⟩
      ·have qc:(n+ps.length=n)=False:=eq_false O;go_wp2_with fail;go_region_held3 (fun w'=>w'.cell? ⟨w.heap.size+1,0,none⟩=some (.int .i64 ((n:Nat):Int))) (go_keep)
        (first | (go_at_call_of 73 (Value.slice (some ⟨g,0,none⟩) n (n+ps.length));refine (lP g (n+ps.length) n _ X L _ (FX.keep0 (gx GG)) O O O (by unfold maxLen;omega)).mono ?_;rintro e wa ⟨va,rfl,pa,ga⟩;have pa:=pa.low (Nat.le_trans A GG.size);obtain ⟨hX,hY,rfl,_⟩:=id pa;have J:=aa kw ga;(try have pb:=pb.keep0 J);clear J;have GG:=aa (gx GG) ga;have hQ:=CN.out wa GG) | (go_at_call 73;refine (sw g (n+ps.length) n ps.length _ X L _ (FX.keep0 (gx GG)) O O O (by unfold maxLen;omega)).mono ?_;rintro e wb ⟨vb,rfl,pb,gb⟩;have pb:=pb.low (Nat.le_trans A GG.size);obtain ⟨ka,kb,rfl,_⟩:=id pb;have J:=aa kw gb;(try have pa:=pa.keep0 J);clear J;have GG:=aa (gx GG) gb;have hS:=CN.out wb GG))
       all_goals
        have PA:=ab pa;have PB:=ab pb;have GF:=ab GG;clear pa pb GG;go_wp2;go_ret3
        exact .inl ⟨_,_,X,rfl,PA.keep0 zE,PB.keep0 zE,F,hv,aa (aa S G5) (by first | exact GF | exact aa GF aA)⟩
     ·have G5:=ab (aa h gX);have F:=ab t;clear gX t s0;go_wp2;go_ret3
      exact .inr (.inl ⟨rfl,F,aa S G5⟩)
     ·have G5:=ab (aa h gX);have F:=ab t;clear gX t s0;go_wp2;go_ret3
      exact .inr (.inr ⟨rfl,F,aa S G5⟩)
attribute [local simp] iD bX im dR
theorem ig (f g:Nat->Rat):∀ k,(∀ i,i<k->f i=g i)->cA f k=cA g k:=by
 intro k;induction k with
 | zero=>intro _;rfl
 | succ k ih=>intro h;rw [bR,bR,ih (fun i hi=>h i O),h k O]
theorem bD.congr (b:cD n ps) {c d:Nat->Rat} (h:bD n ps V I) (hV:∀ j,j<n->V j=c j) (e:∀ i,i<ps.length->I i=d i):bD n ps c d:=by
 have f:=b.lo;refine ⟨by rw [<- hV 0 O];exact h.gnd,fun r q hn=>?_,fun i hi=>?_⟩
 ·rw [<- h.node r q hn];exact ig _ _ _ (fun i hi=>by rw [e i hi])
 ·obtain ⟨s,t,u,x,g,k,m,p,ha,hb,hc,hd⟩:=b.ends ps[i] (List.getElem_mem hi);have:=h.part i hi;rw [e i hi,hV _ (by rw [g];simpa using ha),hV _ (by rw [k];simpa using hb),hV _ (by rw [m];simpa using hc),hV _ (by rw [p];simpa using hd)] at this;exact this
theorem p6 (c:cD n ps) (h:bD n ps V I):∃ x,nM (kg n ps) (n+ps.length) x/\(∀ j,j<n->x j=V j)/\∀ i,i<ps.length->x (n+i)=I i:=by
 have d:∀ j,j<n->(fun j=>if j<n then V j else if j<n+ps.length then I (j-n) else -1:Nat->Rat) j=V j:=fun j b=>by simp only;rw [if_pos b]
 have e:∀ i,i<ps.length->(fun j=>if j<n then V j else if j<n+ps.length then I (j-n) else -1:Nat->Rat) (n+i)=I i:=fun i hi=>by simp only;rw [if_neg O,if_pos O,show n+i-n=i by omega]
 refine ⟨fun j=>if j<n then V j else if j<n+ps.length then I (j-n) else -1,(oz c _).2 ⟨?_,?_⟩,d,e⟩
 ·rw [if_neg O,if_neg O]
 ·exact h.congr c (fun j b=>(d j b).symm) (fun i hi=>(e i hi).symm)
def gI (ps:List aD):Nat->Rat:=fun j=>match ps[j / 4]? with
 | some p=>if j % 4=0 then bE p.kind p.q else if j % 4=1 then bF p.kind p.q else if j % 4=2 then bM p.kind p.q else bG p.kind p.q
 | none=>0
theorem n7 (hi:i<ps.length):gI ps (i*4)=bE ps[i].kind ps[i].q/\gI ps (i*4+1)=bF ps[i].kind ps[i].q/\gI ps (i*4+2)=bM ps[i].kind ps[i].q/\gI ps (i*4+3)=bG ps[i].kind ps[i].q:=by
 unfold gI;have b:i*4 / 4=i:=O
 have c:(i*4+1) / 4=i:=O
 have d:(i*4+2) / 4=i:=O
 have e:(i*4+3) / 4=i:=O
 have f:i*4 % 4=0:=O
 have g:(i*4+1) % 4=1:=O
 have h:(i*4+2) % 4=2:=O
 have j:(i*4+3) % 4=3:=O
 simp only [b,c,d,e,f,g,h,j,zX hi];exact ⟨rfl,rfl,rfl,rfl⟩
theorem De (hi:i<ps.length) (j:Nat) (f:j<(i+1)*4):xE (gI ps) i (bE ps[i].kind ps[i].q) (bF ps[i].kind ps[i].q) (bM ps[i].kind ps[i].q) (bG ps[i].kind ps[i].q) j=gI ps j:=by
 obtain ⟨b,c,d,e⟩:=n7 hi;unfold xE;by_cases h:j<i*4
 ·rw [if_pos h]
 ·rw [if_neg h];have hc:j=i*4∨j=i*4+1∨j=i*4+2∨j=i*4+3:=O
  rcases hc with rfl | rfl | rfl | rfl
  ·rw [if_pos rfl,b]
  ·rw [if_neg O,if_pos rfl,c]
  ·rw [if_neg O,if_neg O,if_pos rfl,d]
  ·rw [if_neg O,if_neg O,if_neg O,e]
theorem Eh (n:Nat) (ps:List aD):gZ n ps (gI ps)=kg n ps:=by
 funext r
 unfold gZ kg;by_cases b:r=0
 ·rw [if_pos b,if_pos b]
 ·rw [if_neg b,if_neg b];by_cases c:r<n
  ·rw [if_pos c,if_pos c]
  ·rw [if_neg c,if_neg c];by_cases d:r-n<ps.length
   ·obtain ⟨e,f,g,h⟩:=n7 d;rw [zX d];simp only [e,f,g,h];rfl
   ·rw [List.getElem?_eq_none O]
theorem ns {qa qf ql qs:Rat} {b c d e f g h j:Option Addr} {k c0 m c1 p q r s t u x y z A B C:Nat} (E:FQ w (.agg #[.bool (rB qa),.slice b k c0,.slice c m c1]) qa L) (F:FQ w (.agg #[.bool (rB qf),.slice d p q,.slice e r s]) qf L) (G:FQ w (.agg #[.bool (rB ql),.slice f t u,.slice g x y]) ql L) (H:FQ w (.agg #[.bool (rB qs),.slice h z A,.slice j B C]) qs L) :
  fg w [.bool (rB qa),.slice b k c0,.slice c m c1,.bool (rB qf),.slice d p q,.slice e r s,.bool (rB ql),.slice f t u,.slice g x y,.bool (rB qs),.slice h z A,.slice j B C] 4 (fun i=>if i=0 then qa else if i=1 then qf else if i=2 then ql else qs) L:=by
 refine ⟨rfl,fun i hi=>?_⟩;have hc:i=0∨i=1∨i=2∨i=3:=O
 rcases hc with rfl | rfl | rfl | rfl
 ·exact ⟨_,_,_,_,_,_,rfl,rfl,rfl,E⟩
 ·exact ⟨_,_,_,_,_,_,rfl,rfl,rfl,F⟩
 ·exact ⟨_,_,_,_,_,_,rfl,rfl,rfl,G⟩
 ·exact ⟨_,_,_,_,_,_,rfl,rfl,rfl,H⟩
theorem Ag (w:World) (ys:List Value) (T:TypeId) (j:Nat) (u:Value) (h:ys[j]? = some u):(w.alloc (Obj.cells ys.toArray T)).cell? ⟨w.heap.size,j,none⟩=some u:=by
 simp only [World.cell?,heap_alloc_new];rw [List.getElem?_toArray];exact h
theorem Tryz.infoLaw:(Tryz.prog.info? 92).map (fun i=>(i.zero,i.size,i.bytes))=some (some (.agg #[.bool false,.slice none 0 0,.slice none 0 0,.bool false,.slice none 0 0,.slice none 0 0,.bool false,.slice none 0 0,.slice none 0 0,.bool false,.slice none 0 0,.slice none 0 0]),12,224):=zK
def NetE (w:World) (n:Nat) (ps:List aD) (L:Nat) (e:Ending) (w':World):Prop :=
 (∃ v1 v2 V I,e=.returned (.tuple #[v1,v2,.int .i64 0])/\di w' w.heap.size v1 n V L/\di w' w.heap.size v2 ps.length I L/\bD n ps V I/\(∀ V' I',bD n ps V' I'->(∀ j,j<n->V' j=V j)/\∀ i,i<ps.length->I' i=I i)/\w.grownBy w' none)
 ∨ (e=.returned (.tuple #[.slice none 0 0,.slice none 0 0,.int .i64 7])/\(¬ ∃ V I,bD n ps V I)/\w.grownBy w' none)
 ∨ (e=.returned (.tuple #[.slice none 0 0,.slice none 0 0,.int .i64 8])/\(∃ V I V' I',bD n ps V I/\bD n ps V' I'/\((∃ j,j<n/\V j≠V' j)∨∃ i,i<ps.length/\I i≠I' i))/\w.grownBy w' none)
theorem qd (f g:Nat->Rat):∀ k,cA (fun i=>f i+g i) k=cA f k+cA g k:=by
 intro k;induction k with
 | zero=>show (0:Rat)=0+0;grind
 | succ k ih=>rw [bR,bR,bR,ih];grind
theorem mz (c:Rat) (f:Nat->Rat):∀ k,cA (fun i=>c*f i) k=c*cA f k:=by
 intro k;induction k with
 | zero=>show (0:Rat)=c*0;grind
 | succ k ih=>rw [bR,bR,ih];grind
theorem rV (f:Nat->Rat) (k:Nat) (h:∀ i,i<k->f i=0):cA f k=0:=by
 induction k with
 | zero=>rfl
 | succ k ih=>rw [bR,ih (fun i hi=>h i O),h k O];grind
theorem Br (f:Nat->Nat->Rat) (k n:Nat):cA (fun i=>cA (fun r=>f i r) n) k=cA (fun r=>cA (fun i=>f i r) k) n:=by
 induction k with
 | zero =>
  show (0:Rat)=_
  exact (rV _ n (fun _ _=>rfl)).symm
 | succ k ih =>
  rw [bR,ih,<- qd];rfl
theorem rU (V:Nat->Rat) (c:Rat) (x:Nat):∀ n,cA (fun r=>V r*(if x=r then c else 0)) n=if x<n then V x*c else 0:=by
 intro n;induction n with
 | zero=>rw [if_neg O];rfl
 | succ n ih =>
  rw [bR,ih];by_cases e:x=n
  ·rw [if_neg O,if_pos e,if_pos O,e];grind
  ·rw [if_neg e];by_cases b:x<n
   ·rw [if_pos b,if_pos O];grind
   ·rw [if_neg b,if_neg O];grind
theorem Er (V:Nat->Rat) (p:aD) {c d:Nat} (f:p.a=(c:Int)) (g:p.b=(d:Int)) (ha:c<n) (hb:d<n):cA (fun r=>V r*iQ p r) n=V c-V d:=by
 have e:cA (fun r=>V r*iQ p r) n=cA (fun r=>V r*(if c=r then 1 else 0) + -1*(V r*(if d=r then 1 else 0))) n:=by
  refine ig _ _ _ (fun r _=>?_);unfold iQ;rw [f,g];have c1:((c:Int)=(r:Int))↔c=r:=O
  have h:((d:Int)=(r:Int))↔d=r:=O
  by_cases j:c=r<;>by_cases k:d=r<;>simp only [c1,h,j,k,if_true,if_false]<;>grind
 rw [e,qd,mz,rU,rU,if_pos ha,if_pos hb];grind
def acr (ps:List aD) (V:Nat->Rat) (i:Nat):Rat:=match ps[i]? with | some p=>V p.a.toNat-V p.b.toNat | none=>0
theorem Ey (c:cD n ps) {J:Nat->Rat} (g:V 0=0) (h:∀ r,0<r->r<n->cA (fun i=>dC ps i r*J i) ps.length=0):cA (fun i=>acr ps V i*J i) ps.length=0:=by
 have j:=c.lo;have k:cA (fun i=>acr ps V i*J i) ps.length=cA (fun i=>cA (fun r=>V r*(dC ps i r*J i)) n) ps.length:=by
  refine ig _ _ _ (fun i hi=>?_);obtain ⟨q,s,t,u,d,f,x,y,ha,hb,hc,hd⟩:=c.ends ps[i] (List.getElem_mem hi);have e:cA (fun r=>V r*(dC ps i r*J i)) n=J i*cA (fun r=>V r*iQ ps[i] r) n:=by
   rw [<- mz];refine ig _ _ _ (fun r _=>?_);unfold dC;rw [zX hi];show V r*(iQ ps[i] r*J i)=J i*(V r*iQ ps[i] r)
   grind
  rw [e,Er V ps[i] d f ha hb];unfold acr;rw [zX hi];show (V ps[i].a.toNat-V ps[i].b.toNat)*J i=_
  rw [d,f,Int.toNat_natCast,Int.toNat_natCast];grind
 rw [k,Br];refine rV _ _ (fun r p=>?_);have m:cA (fun i=>V r*(dC ps i r*J i)) ps.length=V r*cA (fun i=>dC ps i r*J i) ps.length:=mz _ _ _;rw [m];by_cases e:r=0
 ·rw [e,g];grind
 ·rw [h r O p];grind
theorem acr_get (h:i<ps.length):acr ps V i=V ps[i].a.toNat-V ps[i].b.toNat:=by
 unfold acr;rw [zX h]
theorem pP {a b:Rat} (c:0<=a) (d:0<=b):0<=a+b:=by grind
theorem zw {f:Nat->Rat} : ∀ k,(∀ i,i<k->0<=f i)->0<=cA f k
 | 0,_=>Rat.le_refl
 | k+1,h=>by
  rw [bR];exact pP (zw k (fun i hi=>h i O)) (h k O)
theorem vQ {f:Nat->Rat} : ∀ k,(∀ i,i<k->0<=f i)->cA f k=0->∀ i,i<k->f i=0
 | 0,_,_,i,hi=>absurd hi (Nat.not_lt_zero _)
 | k+1,h,e,i,hi=>by
  rw [bR] at e;have c:=zw k (fun i hi=>h i O);have d:=h k O;by_cases b:i=k
  ·subst b;grind
  ·exact vQ k (fun i hi=>h i O) (by grind) i O
theorem rat_sq (a:Rat):0<=a*a:=by
 rcases (Rat.le_total:(0:Rat)<=a∨a<=0) with h | h
 ·exact Rat.mul_nonneg h h
 ·have e:a*a=(-a)*(-a):=by grind
  rw [e];exact Rat.mul_nonneg (by grind) (by grind)
def bK (on:Bool) (p:aD):aD:=if p.kind=8/\on=true then { p with kind:=4 } else p
def bh (on:Nat->Bool) (ps:List aD):List aD:=ps.mapIdx fun i p=>bK (on i) p
theorem cV (on:Bool) (p:aD):(bK on p).a=p.a/\(bK on p).b=p.b/\(bK on p).c=p.c/\(bK on p).d=p.d/\(bK on p).v=p.v:=by
 unfold bK;split<;>exact ⟨rfl,rfl,rfl,rfl,rfl⟩
theorem cJ (on:Nat->Bool) (ps:List aD):(bh on ps).length=ps.length:=by simp [bh]
theorem ie (h:i<ps.length) (b:i<(bh on ps).length):(bh on ps)[i]=bK (on i) ps[i]:=by simp [bh]
theorem dt (on:Nat->Bool) (ps:List aD) (i:Nat):(bh on ps)[i]? = ps[i]?.map (bK (on i)):=by simp [bh]
theorem jf (on:Nat->Bool) (ps:List aD) (i r:Nat):dC (bh on ps) i r=dC ps i r:=by
 unfold dC;rw [dt];cases ps[i]? with
 | none=>rfl
 | some p =>
  show iQ (bK (on i) p) r=iQ p r
  unfold iQ;rw [(cV (on i) p).1,(cV (on i) p).2.1]
theorem pS (h:cD n ps) (on:Nat->Bool):cD n (bh on ps):=by
 refine ⟨h.lo,h.hi,by rw [cJ];exact h.len,fun p g=>?_⟩;obtain ⟨i,hi,rfl⟩:=List.getElem_of_mem g;have b:i<ps.length:=by rw [cJ] at hi;exact hi
 rw [ie b];obtain ⟨c,d,e,f,_⟩:=cV (on i) ps[i];rw [c,d,e,f];exact h.ends _ (List.getElem_mem b)
structure Fit (n:Nat) (ps:List aD) (on:Nat->Bool) (V I:Nat->Rat):Prop where
 sol:bD n (bh on ps) V I
 pos:∀ i (h:i<ps.length),ps[i].kind=8->0<=I i
 neg:∀ i (h:i<ps.length),ps[i].kind=8->V ps[i].a.toNat-V ps[i].b.toNat<=0
def wJ (p:aD):Prop:=(p.kind=1/\0<p.q)∨p.kind=4∨p.kind=5∨(p.kind=8/\p.q=0)
theorem Fit.part (h:Fit n ps on V I) (hi:i<ps.length) :
  bE (bK (on i) ps[i]).kind ps[i].q*(V ps[i].a.toNat-V ps[i].b.toNat)+bM (bK (on i) ps[i]).kind ps[i].q*(V ps[i].c.toNat-V ps[i].d.toNat)+bF (bK (on i) ps[i]).kind ps[i].q*I i=bG (bK (on i) ps[i]).kind ps[i].q:=by
 have:=h.sol.part i (by rw [cJ];exact hi);rw [ie hi] at this;obtain ⟨f,g,j,k,m⟩:=cV (on i) ps[i];rw [f,g,j,k] at this;have e:(bK (on i) ps[i]).q=ps[i].q:=by unfold aD.q;rw [m]
 rw [e] at this;exact this
theorem Fit.dio (h:Fit n ps on V I) (hi:i<ps.length) (c:ps[i].kind=8) (f:ps[i].q=0):(V ps[i].a.toNat-V ps[i].b.toNat)*I i=0:=by
 have:=h.part hi;rw [f] at this;unfold bK at this;by_cases d:on i=true
 ·rw [if_pos ⟨c,d⟩] at this;simp only [bE,bM,bF,bG] at this;grind
 ·rw [if_neg (fun e=>d e.2),c] at this;simp only [bE,bM,bF,bG] at this;grind
theorem Fit.src (h:Fit n ps on V I) (hi:i<ps.length) (f:ps[i].kind≠8):bE ps[i].kind ps[i].q*(V ps[i].a.toNat-V ps[i].b.toNat)+bM ps[i].kind ps[i].q*(V ps[i].c.toNat-V ps[i].d.toNat)+bF ps[i].kind ps[i].q*I i=bG ps[i].kind ps[i].q:=by
 have:=h.part hi;unfold bK at this;rw [if_neg (fun e=>f e.1)] at this;exact this
theorem fit_one (x:cD n ps) (u:∀ p∈ps,wJ p) {g:Nat->Bool} {U J:Nat->Rat} (h:Fit n ps on V I) (k:Fit n ps g U J) (hi:i<ps.length) (y:ps[i].kind=1):I i=J i:=by
 have z:cA (fun i=>acr ps (fun j=>V j-U j) i*(I i-J i)) ps.length=0:=by
  refine Ey x (by show V 0-U 0=0;rw [h.sol.gnd,k.sol.gnd];grind) (fun r h0 hn=>?_);have d:=h.sol.node r h0 hn;have f:=k.sol.node r h0 hn;rw [cJ] at d f;have e:cA (fun i=>dC ps i r*(I i-J i)) ps.length=cA (fun i=>dC (bh on ps) i r*I i + -1*(dC (bh g ps) i r*J i)) ps.length:=ig _ _ _ (fun i _=>by rw [jf,jf];grind);rw [e,qd,mz,d,f];grind
 have hP:∀ i (hi:i<ps.length),0<=acr ps (fun j=>V j-U j) i*(I i-J i)/\(ps[i].kind=1->acr ps (fun j=>V j-U j) i*(I i-J i)=ps[i].q*((I i-J i)*(I i-J i))):=by
  intro i hi;rw [acr_get hi];rcases u ps[i] (List.getElem_mem hi) with ⟨c,m⟩ | c | c | ⟨c,m⟩
  ·have d:=h.src hi O;have f:=k.src hi O;rw [c] at d f;simp only [bE,bM,bF,bG] at d f;have e:(V ps[i].a.toNat-U ps[i].a.toNat-(V ps[i].b.toNat-U ps[i].b.toNat))*(I i-J i)=ps[i].q*((I i-J i)*(I i-J i)):=by grind
   rw [e];exact ⟨Rat.mul_nonneg (Rat.le_of_lt m) (rat_sq _),fun _=>rfl⟩
  ·have d:=h.src hi O;have f:=k.src hi O;rw [c] at d f;simp only [bE,bM,bF,bG] at d f;have e:(V ps[i].a.toNat-U ps[i].a.toNat-(V ps[i].b.toNat-U ps[i].b.toNat))*(I i-J i)=0:=by grind
   rw [e];exact ⟨Rat.le_refl,fun s=>O⟩
  ·have d:=h.src hi O;have f:=k.src hi O;rw [c] at d f;simp only [bE,bM,bF,bG] at d f;have e:(V ps[i].a.toNat-U ps[i].a.toNat-(V ps[i].b.toNat-U ps[i].b.toNat))*(I i-J i)=0:=by grind
   rw [e];exact ⟨Rat.le_refl,fun s=>O⟩
  ·refine ⟨?_,fun s=>O⟩;have d:=h.dio hi c m;have f:=k.dio hi c m;have A:=h.pos i hi c;have B:=k.pos i hi c;have c1:=h.neg i hi c;have F:=k.neg i hi c;have C:=Rat.mul_nonneg (show 0<=-(V ps[i].a.toNat-V ps[i].b.toNat) by grind) B;have E:=Rat.mul_nonneg (show 0<=-(U ps[i].a.toNat-U ps[i].b.toNat) by grind) A;have e:(V ps[i].a.toNat-U ps[i].a.toNat-(V ps[i].b.toNat-U ps[i].b.toNat))*(I i-J i)=(V ps[i].a.toNat-V ps[i].b.toNat)*I i+(U ps[i].a.toNat-U ps[i].b.toNat)*J i+(-(V ps[i].a.toNat-V ps[i].b.toNat)*J i + -(U ps[i].a.toNat-U ps[i].b.toNat)*I i):=by grind
   rw [e,d,f];have:=pP C E;grind
 have h0:=vQ ps.length (fun i hi=>(hP i hi).1) z i hi;rw [(hP i hi).2 y] at h0;rcases u ps[i] (List.getElem_mem hi) with ⟨_,m⟩ | c | c | ⟨c,_⟩
 ·have t:ps[i].q≠0:=by grind
  rcases Rat.mul_eq_zero.1 h0 with e | e
  ·exact absurd e t
  ·rcases Rat.mul_eq_zero.1 e with e | e<;>grind
 all_goals omega
abbrev sv (s:ByteArray):Value:=.string s
theorem Tryz.infoQ:(Tryz.prog.info? 43).map (fun i=>(i.zero,i.size,i.bytes))=some (some (sv ⟨#[]⟩),1,16):=zK
def bB (R:Nat->Rat) (i:Nat):List ByteArray:=(List.range i).map fun j=>⟨(bQ (R j)).toArray⟩
theorem aK (R:Nat->Rat) (i:Nat):(bB R i).length=i:=by simp [bB]
theorem nI (R:Nat->Rat) (i:Nat):bB R (i+1)=bB R i++[⟨(bQ (R i)).toArray⟩]:=by simp [bB,List.range_succ]
open Go Go.RowKit
section
variable {P:Program} {ops:Array Oper} {Q:Exit->Act->World->Prop} {md:Region.Mode} {S:World->Prop} {T:Nat->Bool}
def dP (P:Program) (md:Region.Mode) (ops:Array Oper) (Q:Exit->Act->World->Prop) (S:World->Prop) (T:Nat->Bool):Nat->Array Bool->Act->World->Prop
 | 0,l,a,w=>Region.ready md ops l=[]/\Q .normal a w
 | n+1,l,a,w=>(Region.ready md ops l=[]->Q .normal a w)/\∀ i∈Region.ready md ops l,wpOp P ops Q i (fun a' w'=>(T i=false->S w')/\dP P md ops Q S T n (l.setIfInBounds i true) a' w') a w
theorem uC:∀ (n:Nat) (l:Array Bool) (a:Act) (w:World),dP P md ops Q S T n l a w->wpAny P md ops Q n l a w
 | 0,_,_,_,h=>h
 | n+1,_,_,_,h=>⟨h.1,fun i hi=>wpOp_mono (fun b c k=>uC n _ b c k.2) (h.2 i hi)⟩
def ke (md:Region.Mode) (ops:Array Oper) (T D:Nat->Bool) (i:Nat):Bool :=
 (List.range ops.size).all fun j=>(!T j || D j) && (!D j || ((ops[j]?).map fun o=>o.after.any fun e=>Region.binds md e && (e.on==i || D e.on)).getD true)
def n9 (D:Nat->Bool) (l:Array Bool):Bool:=(List.range l.size).all fun k=>!D k || !l.getD k false
theorem nu {j:Nat} {oj:Oper} (h:ke md ops T D i=true) (d:ops[j]? = some oj):(T j=true->D j=true)/\(D j=true->∃ e∈oj.after,Region.binds md e=true/\(e.on=i∨D e.on=true)):=by
 unfold ke at h;rw [List.all_eq_true] at h;have b:=h j (List.mem_range.2 (zZ d).1);rw [d,Bool.and_eq_true] at b;simp only [Option.map_some,Option.getD_some] at b;refine ⟨fun g=>?_,fun hd=>?_⟩
 ·have:=b.1;rw [g] at this;simpa using this
 ·have c:=b.2;rw [hd] at c;simp only [Bool.not_true,Bool.false_or] at c;obtain ⟨e,f,hb⟩:=Array.any_eq_true'.1 c;simp only [Bool.and_eq_true,Bool.or_eq_true,beq_iff_eq] at hb;exact ⟨e,f,hb.1,hb.2⟩
theorem xJ (h:n9 D l=true) (k:Nat) (c:D k=true):l.getD k false=false:=by
 rcases Nat.lt_or_ge k l.size with b | b
 ·unfold n9 at h;rw [List.all_eq_true] at h;have:=h k (List.mem_range.2 b);rw [c] at this;simpa using this
 ·simp [Array.getElem?_eq_none b]
theorem sL {j:Nat} (d:Bool) (h:i≠j):(l.setIfInBounds i true).getD j d=l.getD j d:=getD_set_ne d h
theorem xr {oi:Oper} (hi:ops[i]? = some oi) (N:Region.noSelect ops=true) (U:ke md ops T D i=true)
  (hQ:∀ c a w,Q (.panic c) (a.put oi.dst v) w->Q (.panic c) a w) :
  ∀ (n:Nat) (l:Array Bool) (a:Act) (w:World),(∀ k,D k=true->l.getD k false=false)->(∀ j oj,ops[j]? = some oj->j≠i->l.getD j true=false->(∀ e∈oj.after,Region.binds md e=true->e.on≠i)->oi.apart ops oj=true) ->
   i∈Region.ready md ops l->YieldsIf P ops S oi v a->S w->dP P md ops Q S T n (l.setIfInBounds i true) (a.put oi.dst v) w->dP P md ops Q S T (n+1) l a w:=by
 intro n;induction n with
 | zero =>
  intro l a w C d u hy hS H;refine ⟨fun M=>(by rw [M] at u;cases u),fun j B=>?_⟩;by_cases e:j=i
  ·rw [e];exact hy.wpOp hi hS ⟨fun _=>hS,H⟩
  ·have:=ready_mono B e;rw [H.1] at this;cases this
 | succ n ih =>
  intro l a w C d u hy hS H;refine ⟨fun M=>(by rw [M] at u;cases u),fun j B=>?_⟩;by_cases e:j=i
  ·rw [e];exact hy.wpOp hi hS ⟨fun _=>hS,H⟩
  ·obtain ⟨A,oj,g,s⟩:=mem_ready.1 B;have q:∀ x∈oj.after,Region.binds md x=true->x.on≠i:=by
    intro x y hb f;have r:=s x y hb;have k0:=(mem_ready.1 u).1;rw [f] at r;rcases Nat.lt_or_ge i l.size with J | J
    ·simp [J] at k0 r;rw [k0] at r;cases r
    ·simp [Array.getElem?_eq_none J] at r
   have t:D j=false:=by
    cases hd:D j with
    | false=>rfl
    | true =>
     obtain ⟨x,y,hb,f⟩:=(nu U g).2 hd;rcases f with f | f
     ·exact absurd f (q x y hb)
     ·have r:=s x y hb;rw [C _ f] at r;cases r
   have W:T j=false:=by
    cases ht:T j with
    | false=>rfl
    | true =>
     have:=(nu U g).1 ht;rw [t] at this;cases this
   have k:=wpOp_putIf g (d j oj g e A q) (fun cs b=>Region.noSelect_spec N i oi cs b hi) (fun cs b=>Region.noSelect_spec N j oj cs b g) hQ hy (H.2 j (ready_mono B e));refine wpOp_mono (fun Y w' m=>⟨fun _=>m.2.1 W,ih _ Y w' ?_ ?_ (ready_mono u (Ne.symm e)) m.1 (m.2.1 W) ?_⟩) k
   ·intro x y;have p:j≠x:=fun h=>by rw [h,y] at t;cases t
    rw [sL false p];exact C x y
   ·intro x X E F z G;refine d x X E F ?_ G;by_cases p:j=x
    ·rw [<- p];exact A
    ·rw [getD_set_ne true p] at z;exact z
   ·rw [Array.setIfInBounds_comm _ _ e];exact m.2.2
theorem AE (D:Nat->Bool) {oi:Oper} {n:Nat} (hi:ops[i]? = some oi) (b:Region.noSelect ops=true) (d:ke md ops T D i=true) (hn:n9 D l=true)
  (hf:Region.free md ops l i=true) (hr:(Region.ready md ops l).contains i=true) (hQ:∀ c a w,Q (.panic c) (a.put oi.dst v) w->Q (.panic c) a w) (hy:YieldsIf P ops S oi v a) (hS:S w)
  (h:dP P md ops Q S T n (l.setIfInBounds i true) (a.put oi.dst v) w):dP P md ops Q S T (n+1) l a w :=
 xr hi b d hQ n l a w (xJ hn) (Region.free_spec hi hf) (by simpa using hr) hy hS h
theorem CW (b:Region.ready md ops l=[i]) (f:ops[i]? = some o)
  (h:∀ K':Act->World->Prop,Shut (∀ a w,(T i=false->S w)->dP P md ops Q S T n (l.setIfInBounds i true) a w->K' a w)->if Region.wanted o (yielded ops a.tmps)=true then Oper.wp P o a w K' Q else K' (a.put o.dst undef) w) :
  dP P md ops Q S T (n+1) l a w:=by
 refine ⟨fun c=>by (rw [b] at c;cases c),fun j d=>?_⟩;rw [b] at d;have e:j=i:=by simpa using d
 rw [e];exact wpOp_step f (fun K' g=>h K' (fun a w k m=>g a w ⟨k,m⟩))
end
open Go Go.RowKit
section
variable {P:Program} {ops:Array Oper} {Q:Exit->Act->World->Prop} {S:World->Prop} {T:Nat->Bool}
def depL (ops:Array Oper) (i:Nat):List Nat:=(List.range ops.size).foldl (fun acc j=>if ((ax ops j).after.any fun e=>Region.binds .any e && (e.on==i || acc.contains e.on)) then j :: acc else acc) []
def depD (ops:Array Oper) (i j:Nat):Bool:=(depL ops i).contains j
def oA (ops:Array Oper) (T:Nat->Bool):List (Nat×Nat)->Array Bool->Bool
 | [],_=>true
 | (i,d) :: ts,l=>(ops[i]?).isSome && (ax ops i).dst==some d && ke .any ops T (depD ops i) i && n9 (depD ops i) l && Region.free .any ops l i && (Region.ready .any ops l).contains i && oA ops T ts (l.setIfInBounds i true)
theorem Ex (b:Region.noSelect ops=true) (hS:S w) (e:∀ (c:_) (d:Nat) (v:Value) (a:Act) (w:World),Q (.panic c) (a.put (some d) v) w->Q (.panic c) a w) :
  ∀ (ts:List (Nat×Nat×Value)) (l:Array Bool) (a:Act),oA ops T (ts.map fun t=>(t.1,t.2.1)) l=true->qi P ops S ts a->dP P .any ops Q S T n (pL ts l) (pA ts a) w->dP P .any ops Q S T (n+ts.length) l a w
 | [],l,a,_,_,h=>h
 | t :: ts,l,a,hok,hy,h=>by
   simp only [List.map_cons,oA,Bool.and_eq_true,beq_iff_eq] at hok;obtain ⟨⟨⟨⟨⟨⟨g,f⟩,j⟩,k⟩,m⟩,p⟩,q⟩:=hok;refine AE (depD ops t.1) (i:=t.1) (oi:=ax ops t.1) (v:=t.2.2) (fI g) b j k m p (fun c a w h=>by rw [f] at h;exact e c _ _ a w h) (.inl hy.1) hS ?_;rw [f];exact Ex b hS e ts _ _ q hy.2 h
theorem tkL {N:Nat} (m:Nat) (b:List (Nat×Nat×Value)) (h:dP P .any ops Q S T m (pL b l) (pA b a) w) (hm:N=m+b.length:=by kernel_rfl) (hs:Region.noSelect ops=true:=by kernel_rfl)
  (hok:oA ops T (b.map fun t=>(t.1,t.2.1)) l=true:=by kernel_rfl)
  (hy:qi P ops S b a:=by
   ((repeat' apply And.intro)<;>first | exact True.intro | kernel_rfl | (intro w e;simp only [ax,List.getElem?_toArray,List.getElem?_cons_zero,List.getElem?_cons_succ,Option.getD_some,pA,vA,Act.put,setA,setZ,setS];go_simp)))
  (hS:S w:=by assumption) (hQ:∀ (c:_) (d:Nat) (v:Value) (a:Act) (w:World),Q (.panic c) (a.put (some d) v) w->Q (.panic c) a w:=by exact fun _ _ _ _ _ h=>h):dP P .any ops Q S T N l a w :=
 hm▸Ex hs hS hQ b l a hok hy h
theorem Dt {N:Nat} (m i:Nat)
  (h:∀ K':Act->World->Prop,Shut (∀ a w,(T i=false->S w)->dP P .any ops Q S T m (l.setIfInBounds i true) a w->K' a w)->if Region.wanted (ax ops i) (yielded ops a.tmps)=true then Oper.wp P (ax ops i) a w K' Q else K' (a.put (ax ops i).dst undef) w)
  (hr:Region.ready .any ops l=[i]:=by kernel_rfl) (hm:N=m+1:=by kernel_rfl) (ho:(ops[i]?).isSome=true:=by kernel_rfl):dP P .any ops Q S T N l a w :=
 hm▸CW hr (fI ho) h
theorem hdL (S:World->Prop) (T:Nat->Bool) {id:Nat} (h:S w.drew->dP P .any ops Q S T ops.size (Array.replicate ops.size false) a w.drew) (hm:P.follows .mixedOrders=true:=by kernel_rfl) (hS:S w.drew:=by (try dsimp only);go_keep):(Code.region id ops true).wp P Q a w :=
 wp_region_any hm (uC _ _ _ _ (h hS))
theorem bkL {X:Act->World->Prop} (b:Shut (∀ a w,(T i=false->S w)->X a w->K a w)) (h:S w->X a w) (hS:S w:=by (try dsimp only);go_keep):K a w:=b.out a w (fun _=>hS) (h hS)
theorem bkT {X:Act->World->Prop} (b:Shut (∀ a w,(T i=false->S w)->X a w->K a w)) (h:X a w) (hT:T i=true:=by kernel_rfl):K a w:=b.out a w (fun e=>by rw [hT] at e;cases e) h
theorem endL (h:Q .normal a w) (hr:Region.ready .any ops l=[]:=by kernel_rfl):dP P .any ops Q S T 0 l a w:=⟨hr,h⟩
end
theorem qE {P:Program} {α:Type} (f:α->Value) (e:TypeId) (g:Value) (c:Nat) (W:World) {ops:Array Oper} {a:Act} {K:Act->World->Prop} {Q:Exit->Act->World->Prop} {E:Prop}
  (hg:o.guard=none) (s x:Operand) (t:TypeId) (ho:o.op=.call { callee:=.builtin .append,args:=#[s,x],argTypes:=#[t,t] }) (base:Nat)
  (h1:P.underlying t=some (.slice e)) (hinfo:(P.info? e).map (fun i=>(i.zero,i.size,i.bytes))=some (some g,1,c)) (hcz:g.cells.size=1) (hz1:∀ x:Nat,g.cells[0]!≠.int .u32 (x:Nat)) (hf:∀ u (x:Nat),f u≠.int .u32 (x:Nat))
  (v:Value) (xs:List α) (hs:a.eval s=v) (hown:cS f e W base v xs) (b:Nat) (y:α) (hx:a.eval x=.slice (some ⟨b,0,none⟩) 1 1) (hc:W.cell? ⟨b,0,none⟩=some (f y)) (h1c:(f y).oneCell'=true)
  (hlen:xs.length<=1000000) (hby:c<=24) (hbase:base<=W.heap.size)
  (hK:∀ ao cap w',cS f e w' base (.slice ao (xs.length+1) cap) (xs++[y])->W.grownBy w' v.ownBlock->aL W w'->K (a.put o.dst (.slice ao (xs.length+1) cap)) w') :
  if Region.wanted o (yielded ops a.tmps)=true then Oper.wp P o a W K Q else E:=by
 have r:Region.wanted o (yielded ops a.tmps)=true:=by simp [Region.wanted,hg]
 rw [if_pos r];obtain ⟨i,hi,j,k,m⟩:=info_parts hinfo;have d:(xs.length+1)*c<=140737488355328:=by
  have:(xs.length+1)*c<=(1000000+1)*24:=Nat.mul_le_mul O hby;omega
 obtain ⟨z,w',A,B,C,p,F⟩:=kS (P:=P) W base t o.type e i g c h1 hi j k m hcz hz1 v xs.length (xs.map f) hown.1 hown.2
  (fun u H x=>by obtain ⟨G,_,rfl⟩:=List.mem_map.1 H;exact hf G x) ⟨b,0,none⟩ 1 (f y) hc h1c (hf y) (by unfold maxLen;omega) d hbase
 have h:cW f e w' base z (xs++[y]):=by
  unfold cW;rw [List.length_append,List.map_append];exact B
 obtain ⟨ao,cap,q⟩:=h.shape;rw [List.length_append,List.length_singleton] at q;unfold Oper.wp execOp;simp only [ho,resolve,invoke,builtin,Sem.run_bind,Sem.run_pure,Result.andThen_ok,List.map_toArray,List.map_cons,List.map_nil,hs,hx,A];rw [q] at h p ⊢;exact hK ao cap w' ⟨h,p⟩ C F
theorem ib {P:Program} {α:Type} (f:α->Value) (e:TypeId) (g:Value) (b:Nat) (W:World) {ops:Array Oper} {a:Act} {K:Act->World->Prop} {Q:Exit->Act->World->Prop} {E:Prop}
  (hg:o.guard=none) (s x:Operand) (t:TypeId) (ho:o.op=.call { callee:=.builtin .append,args:=#[s,x],argTypes:=#[t,t] }) (base:Nat)
  (h1:P.underlying t=some (.slice e)) (hinfo:(P.info? e).map (fun i=>(i.zero,i.size,i.bytes))=some (some g,1,b)) (hcz:g.cells.size=1) 
  (v:Value) (xs:List α) (hs:a.eval s=v) (hown:cW f e W base v xs) (ad:Addr) (m c:Nat) (ys:List α) (hx:a.eval x=.slice (some ad) m c) (hl:ys.length=m) (hc:∀ j u,(ys.map f)[j]? = some u->W.cell? (ad.add j)=some u) (h1c:∀ y,(f y).oneCell'=true)
  (hlen:xs.length+m<=1000000) (hby:b<=24) (hbase:base<=W.heap.size)
  (hK:∀ ao cap w',cW f e w' base (.slice ao (xs.length+m) cap) (xs++ys)->W.grownBy w' v.ownBlock->K (a.put o.dst (.slice ao (xs.length+m) cap)) w') :
  if Region.wanted o (yielded ops a.tmps)=true then Oper.wp P o a W K Q else E:=by
 have z:Region.wanted o (yielded ops a.tmps)=true:=by simp [Region.wanted,hg]
 rw [if_pos z];obtain ⟨i,hi,k,p,q⟩:=info_parts hinfo;have d:(xs.length+m)*b<=140737488355328:=by
  have:(xs.length+m)*b<=1000000*24:=Nat.mul_le_mul hlen hby;omega
 obtain ⟨A,w',B,C,F,_⟩:=run_append_own (P:=P) W base t o.type e i g 1 b h1 hi k p q hcz zD v xs.length (xs.map f) hown ad m c (ys.map f) (by simp [hl]) hc
  (fun u H=>by obtain ⟨G,_,rfl⟩:=List.mem_map.1 H;exact h1c G) (by unfold maxLen;omega) d hbase
 have h:cW f e w' base A (xs++ys):=by
  unfold cW;rw [List.length_append,List.map_append,hl];exact C
 obtain ⟨ao,cap,r⟩:=h.shape;rw [List.length_append,hl] at r;unfold Oper.wp execOp;simp only [ho,resolve,invoke,builtin,Sem.run_bind,Sem.run_pure,Result.andThen_ok,List.map_toArray,List.map_cons,List.map_nil,hs,hx,B];rw [r] at h ⊢;exact hK ao cap w' h F
theorem mY {w:World} {ops:Array Oper} {a:Act} {K:Act->World->Prop} {Q:Exit->Act->World->Prop} {E:Prop} (hg:o.guard=none) (s x:Operand) (t:TypeId)
  (ho:o.op=.call { callee:=.builtin .append,args:=#[s,x],argTypes:=#[t,t] }) (base:Nat) (e:TypeId) (i:TypeInfo) (size:Nat) (ht:P.underlying t=some (.slice e)) (hi:P.info? e=some i)
  (v:Value) (n:Nat) (xs:List Value) (hs:a.eval s=v) (hown:w.ownsRow base e size v n xs) (hx:a.eval x=.slice none 0 0) (h:K (a.put o.dst v) w):if Region.wanted o (yielded ops a.tmps)=true then Oper.wp P o a w K Q else E:=by
 have c:Region.wanted o (yielded ops a.tmps)=true:=by simp [Region.wanted,hg]
 rw [if_pos c];have b:=run_append_owned_none (P:=P) (w:=w) base t o.type e i size ht hi v n xs hown;unfold Oper.wp;simp [execOp,ho,resolve,invoke,builtin,hs,hx,b,Result.andThen];exact h
end Go.Proofs.YtkbmbmdemajoaaaGreatDoor
