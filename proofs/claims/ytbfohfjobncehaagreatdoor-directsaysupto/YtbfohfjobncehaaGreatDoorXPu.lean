/- Contracts. -/
import Derived.Test.YtbfohfjobncehaaGreatDoorXPr
import Derived.Test.YtbfohfjobncehaaGreatDoorXPt
namespace Go.Proofs.YtbfohfjobncehaaGreatDoor
open Go.RowKit
set_option linter.all false
set_option maxHeartbeats 8000000
set_option maxRecDepth 10000
variable {R:Nat->Rat}
theorem cX.keep0 {w a:World} {v:Value} {n L:Nat} (h:cX w v n R L) (g:w.grownBy a none):cX a v n R L:=by
 obtain ⟨d,cap,e,f,i,k⟩:=h;refine ⟨d,cap,e,f,i,fun j m=>?_⟩;obtain ⟨b,off,p,l,c,r⟩:=k j m;exact ⟨b,off,p,l,g.cell c Z,r.keep0 g⟩
theorem tP (v:Value) (n:Nat) (Q:Nat->Rat) (L K:Nat) (w:World) (h:cX w v n Q L) (hn:n<=3000) (c:∀ k,k<n->bh K (Q k)) (B:K<=50000000) :
  Calls Tryz.prog 14 #[v] w fun e J=>xC w n Q e J:=by
 obtain ⟨N,cap,rfl,hc,I,u⟩:=h;unfold maxLen at I;have C:=aa u;have D:=aa c;clear u c;go_enter Tryz.func14,Tryz.ntmps14
 go_wp2;go_loopw [3,8] (fun M v wr=>Hid (TelR w n Q M v wr)) (fun _ v _=>n-(intOf v).toNat)
 case atStart=>exact ⟨0,O,rfl,gE,ag _ _⟩
 case round =>
  obtain ⟨i,hi,rfl,s,x⟩:=hrel.out;obtain ⟨P,S,rfl⟩:=s.shape;have l:=aa s;have d:=aa x;clear s x hrel;by_cases hlt:i<n
  ·obtain ⟨g,off,p,rfl,c0,y⟩:=C.out i hlt;have c0:=d.out.cell c0 Z;have E:=aa (y.keep0 d);have c:=D.out i hlt;have m:=aa c;clear c y;go_wp2_with fail;refine (yH _ (Q i) _ K _ E m B).mono ?_;rintro e z ⟨rfl,A⟩;have o:=aa A;clear A c0;have F:w.heap.size<=z.heap.size:=Nat.le_trans d.size o.size;go_wp2_with (at_builtin;refine ki sv 47 (sv ⟨#[]⟩) 16 _ rfl _ _ 39 rfl w.heap.size Tryz.underlying39 Tryz.infoQ rfl _ (aL Q i) rfl (l.keep0 (ae o _)) z.heap.size ⟨(bZ (Q i)).toArray⟩ rfl zG rfl (by rw [bd];omega) O (by simp;omega) ?_)
   intro q f t a j;have G:Hid (bV sv 47 t w.heap.size (.slice q ((aL Q i).length+1) f) (aL Q (i+1))):=by rw [gJ];exact a
   have H:Hid (w.grownBy t none):=by
    refine aj (r:=none) (ab d (ae o _)) j (fun _ _ e=>e) (fun b hb e=>?_);have:=(l.fresh b e.symm).1;omega
   clear a j;go_wp2;go_roundw
   case rel=>exact ⟨i+1,O,zN,G,H⟩
   case measure=>exact bO
  ·obtain rfl:i=n:=O
   go_wp2;go_ret;exact ⟨_,rfl,l,d⟩
def oM (how:Int):Int:=if how=1 then 7 else if how=2 then 8 else 0
theorem sA (how:Int) (w:World):Calls Tryz.prog 9 #[.int .i64 how] w fun e w'=>e=.returned (.agg #[.int .i64 (oM how),.int .i64 0])/\w.grownBy w' none:=by
 unfold oM;by_cases h1:how=1
 ·subst h1;go_enter Tryz.func9,Tryz.ntmps9
  go_wp2_with fail;refine (sR 7 0 _).mono ?_;rintro e w1 ⟨rfl,f1⟩;obtain ⟨r0,r1,rf⟩:=mZ f1;have rf0:=rf 0;have rf1:=rf 1;have F1:=aa f1;clear rf f1;go_wp2;exact bodyPost_ret (v:=.agg #[.int .i64 7,.int .i64 0]) (by simp [results,Tryz.results9,go_sem,r0,r1]) rfl ⟨rfl,ah (ah (ab (ae (ag _ _) _) F1) _ _ Z) _ _ Z⟩
 ·by_cases h2:how=2
  ·subst h2;clear h1;go_enter Tryz.func9,Tryz.ntmps9
   go_wp2_with fail;refine (sR 8 0 _).mono ?_;rintro e w1 ⟨rfl,f1⟩;obtain ⟨r0,r1,rf⟩:=mZ f1;have rf0:=rf 0;have rf1:=rf 1;have F1:=aa f1;clear rf f1;go_wp2;exact bodyPost_ret (v:=.agg #[.int .i64 8,.int .i64 0]) (by simp [results,Tryz.results9,go_sem,r0,r1]) rfl ⟨rfl,ah (ah (ab (ae (ag _ _) _) F1) _ _ Z) _ _ Z⟩
  ·have e1:(how==1)=false:=by simpa using h1
   have e2:(how==2)=false:=by simpa using h2
   rw [if_neg h1,if_neg h2];clear h1 h2;go_enter Tryz.func9,Tryz.ntmps9
   go_wp2
   all_goals exact bodyPost_ret (v:=.agg #[.int .i64 0,.int .i64 0]) (by simp [results,Tryz.results9,go_sem]) rfl ⟨rfl,by repeat (first | exact ag _ _ | refine ae ?_ _ | refine ah ?_ _ _ Z)⟩
attribute [local simp] lu Pc6 Pb6
def AH (ps:List aD) (V:Nat->Rat) (i:Nat):Rat:=match ps[i]? with | some p=>V p.a.toNat-V p.b.toNat | none=>0
def rg (w:World) (base:Nat) (v:Value) (n:Nat) (R:Nat->Rat) (L:Nat):Prop:=∃ xs:List Nat,xs.length=n/\mD w base v xs/\∀ j (h:j<xs.length),RV w xs[j] (R j) L
theorem rg.row {w:World} {base n L:Nat} {v:Value} (h:rg w base v n R L):cX w v n R L:=by
 obtain ⟨xs,rfl,b,d⟩:=h;obtain ⟨f,cap,e,r1,r2,i⟩:=b.1.row;refine ⟨f,cap,e,r1,r2,fun j a=>?_⟩;obtain ⟨g,off,k,_,c⟩:=i j a;exact ⟨g,off,xs[j],k,c,d j a⟩
theorem rg.push {w a:World} {base i L b:Nat} {v v6:Value} {xs:List Nat} (e:xs.length=i) (k:mD w base v xs) (f:∀ j (h:j<xs.length),RV w xs[j] (R j) L) (hb:RV w b (R i) L) (c:some b≠v.ownBlock) (hg:w.grownBy a v.ownBlock) (g:aN w a) (l:mD a base v6 (xs++[b])):rg a base v6 (i+1) R L:=by
 refine ⟨xs++[b],by rw [List.length_append,e];rfl,l,fun j h=>?_⟩;by_cases d:j<xs.length
 ·rw [List.getElem_append_left d];exact (f j d).keepW hg g ((f j d).apart (k.noB O))
 ·have m:j=xs.length:=by simp at h;omega
  rw [List.getElem_append_right O];simp only [m,Nat.sub_self,List.getElem_cons_zero];rw [e];exact hb.keepW hg g c
def AcrE (w:World) (ps:List aD) (V:Nat->Rat) (L:Nat) (e:Ending) (w':World):Prop:=∃ v,e=.returned v/\w.grownBy w' none/\rg w' w.heap.size v ps.length (AH ps V) L
def AcrR (W:World) (base:Nat) (ps:List aD) (V:Nat->Rat) (L:Nat) (ov v:Value) (wr:World):Prop:=∃ i:Nat,i<=ps.length/\v=.int .i64 i/\rg wr base ov i (AH ps V) L/\W.grownBy wr none
theorem xD (n:Nat) (Y:Option Addr) (pc:Nat) (f:List aD) (V:Nat->Rat) (vv:Value) (L:Nat) (w:World) (I:aA w (.slice Y f.length pc) f) (hR:bS n f) (hv:cX w vv n V L) (h2:2<=L) (hL:L<=1000000000000) :
  Calls Tryz.prog 10 #[.agg #[.int .i64 (n:Nat),.slice Y f.length pc],vv] w fun e H=>AcrE w f V (L+L+3) e H:=by
 obtain ⟨va,vc,rfl,hC,hq,hr⟩:=hv;unfold maxLen at hq;have HV:=aa hr;have HP:=aa I;have HR:=aa hR;clear hr I hR;obtain ⟨W,hW⟩:=eX (w.alloc (Obj.cells #[.int .i64 (n:Nat),.slice Y f.length pc] 24));have J:Hid (w.grownBy W none):=by rw [hW];exact ae (ag _ _) _
 have NC:Hid (∀ wx,W.grownBy wx none->lu wx w.heap.size (.int .i64 (n:Nat)) (.slice Y f.length pc)):=by
  intro wx hg;exact lu.k0 (w:=W) (by rw [hW];exact ⟨zG,zG⟩) hg
 obtain ⟨n0,n1⟩:=NC.out W (ag _ _);go_enter Tryz.func10,Tryz.ntmps10
 go_upto_region 1 with fail;rw [<- hW];clear hW;go_wp2;go_loopw [5,11] (fun ov v wr=>Hid (AcrR W W.heap.size f V (L+L+3) ov v wr)) (fun _ v _=>f.length-(intOf v).toNat)
 case atStart=>exact ⟨0,O,rfl,⟨[],rfl,⟨gE,fun k e=>by cases e⟩,fun j h=>by simp at h⟩,ag _ _⟩
 case round =>
  obtain ⟨i,hi,rfl,ho,hg⟩:=hrel.out;obtain ⟨xs,F,ox,hx⟩:=ho;obtain ⟨xo,xc,rfl⟩:=ox.1.shape;have M:=aa hg;have G:=aa ox;have HX:=aa hx;have t:=aa F;rw [F] at G ⊢;clear hg hrel n0 n1 ox hx F;by_cases hlt:i<f.length
  ·obtain ⟨b,off,rfl,rc,hs⟩:=HP.out.row (ab J M) hlt;obtain ⟨m,o,hD,xd,ea,eb,ec,ed,ha,hb,hc,hu⟩:=HR.out.ends f[i] (List.getElem_mem hlt);have he:Hid (AH f V i=V m-V o):=by
    show _=_
    unfold AH;rw [zX hlt];simp only [ea,eb,Int.toNat_natCast]
   obtain ⟨p,I⟩:=eX (f[i]);rw [<- I] at rc ea eb;have EE:=aa (And.intro ea eb);clear I hs ec ed hc hu ea eb;obtain ⟨q,ov,pa,rfl,a0,a1⟩:=HV.out m ha;obtain ⟨hE,hF,pb,ee,e0,e1⟩:=HV.out o hb;cases ee
   have GX:=aa (ab J M);have hf:Hid (q<w.heap.size):=World.block_lt_of_cell? w _ a0;have A3:=aa (a1.keep0 GX);have E3:=aa (e1.keep0 GX);have A0:=aa (GX.cell a0 Z);have E0:=aa (GX.cell e0 Z);clear a0 a1 e0 e1;go_upto_region 5 with fail;obtain ⟨s,A⟩:=eX wr.heap.size;obtain ⟨U,B⟩:=eX (wr.alloc (Obj.cells #[.int .i64 p.kind,.int .i64 p.a,.int .i64 p.b,.int .i64 p.c,.int .i64 p.d,.string p.v] 60));have E:Hid (wr.grownBy U none):=by rw [B];exact ae (ag _ _) _
   have PB:Hid (Pb6 U s p):=by rw [A];exact Ah wr p 60 (by rw [B];exact ag _ _)
   have hj:Hid (s=wr.heap.size):=A;rw [<- B,<- A];have S0:Hid (∀ (wx:World) (ro:Option Nat),U.grownBy wx ro->some q≠ro->some s≠ro->wx.cell? ⟨q,ov+m,none⟩=some (.pointer (some ⟨pa,0,none⟩))/\wx.cell? ⟨q,ov+o,none⟩=some (.pointer (some ⟨pb,0,none⟩))/\wx.cell? ⟨s,1,none⟩=some (.int .i64 m)/\wx.cell? ⟨s,2,none⟩=some (.int .i64 o)):=by
    intro wx ro g n1 n2;have pb:=PB.out;rw [Pb6,EE.1,EE.2] at pb;exact ⟨g.cell (E.cell A0 Z) n1,g.cell (E.cell E0 Z) n1,g.cell pb.2.1 n2,g.cell pb.2.2.1 n2⟩
   clear B A rc PB;have hw:(0:Int)<=((m:Nat):Int):=O
   have hy:((m:Nat):Int)<(n:Int):=O
   have hz:(0:Int)<=((o:Nat):Int):=O
   have hA:((o:Nat):Int)<(n:Int):=O
   have s0:=S0.out U none (ag _ _) Z Z;refine hd (fun H=>H.cell? ⟨q,ov+m,none⟩=some (.pointer (some ⟨pa,0,none⟩))/\H.cell? ⟨q,ov+o,none⟩=some (.pointer (some ⟨pb,0,none⟩))/\H.cell? ⟨s,1,none⟩=some (.int .i64 m)/\H.cell? ⟨s,2,none⟩=some (.int .i64 o)) (fun hHeld=>?_);refine tk 4 [(0,15,.slice xo i xc),(1,16,.slice (some ⟨q,ov,none⟩) n vc),(2,17,.pointer (some ⟨s,1,none⟩)),(3,18,.int .i64 m),(4,19,.pointer (some ⟨q,ov+m,none⟩)),(5,20,.pointer (some ⟨pa,0,none⟩)),(6,21,.slice (some ⟨q,ov,none⟩) n vc),(7,22,.pointer (some ⟨s,2,none⟩)),(8,23,.int .i64 o),(9,24,.pointer (some ⟨q,ov+o,none⟩)),(10,25,.pointer (some ⟨pb,0,none⟩))] ?_;try simp only [pA,pL,vA,vL,q0,q1,q2,q3]
   refine cQ 3 11 (fun K D=>?_);simp only [ax,q4,q5,q6,q7];go_simp
   go_at_call 33
   refine (tO pa pb (V m) (V o) L L _ ((A3.keep0 (ab E aX)).x h2) ((E3.keep0 (ab E aX)).x h2) O).mono ?_;rintro e wa ⟨X,rfl,y1,y2,y3⟩;have N:=aa (ab aX y2);have Y1:Hid (RV wa X (AH f V i) (L+L+3)):=by rw [he];exact .inl y1
   have hk:Hid (U.heap.size<=X):=y3;clear y1 y2 y3 s0 hHeld;have s0:=S0.out wa none N Z Z;go_wp2_with fail;refine bk D (fun hHeld=>?_);clear D K;try simp only [pA,pL,vA,vL,q0,q1,q2,q3]
   refine cQ 2 12 (fun K D=>?_);simp only [ax,q4,q5,q6,q7];go_simp
   refine bk D (fun hHeld=>?_);clear D K;try simp only [pA,pL,vA,vL,q0,q1,q2,q3]
   refine cQ 1 13 (fun K D=>?_);have l:Hid (wr.grownBy (wa.alloc (Obj.cells #[.pointer (some ⟨X,0,none⟩)] 37)) none):=ab E (ab N (ae (ag _ _) _));refine lX pfV 37 (.pointer none) 8 _ (by rfl) _ _ 31 (by rfl) W.heap.size Tryz.underlying31 Tryz.infoPR rfl (fun x=>by intro e;cases e) (fun u x=>by intro e;cases e) (.slice xo i xc) xs (by rfl) (G.keep0 l) wa.heap.size X (by rfl) (by go_simp;rfl) rfl (by rw [t];have:=HR.out.len;omega) zD (by have:=M.out.size;have:=N.out.size;have:=E.out.size;simp;omega) ?_;intro hm S w6 C z T;have y:Hid (∀ k,(Value.slice xo i xc).ownBlock=some k->W.heap.size<=k/\k<wr.heap.size):=G.out.1.fresh;have P:=N.out.size;have Q:=E.out.size;have G6:Hid (W.grownBy w6 none):=aj (r:=none) (ab M l) z (fun _ _ e=>e) (fun b hb e=>by have:=(y b e.symm).1;omega);have z6:=S0.out w6 _ (aj (r:=(Value.slice xo i xc).ownBlock) (ab N (ae (ag _ none) _)) z nofun (fun _ _ e=>e)) (fun e=>by have:=(y q e.symm).1;have:=hf.out;have:=J.out.size;omega) (fun e=>by have:=(y s e.symm).2;have:=hj.out;omega);have OR:=rg.push (R:=AH f V) t (G.keep0 l) (fun j h=>(HX j h).keep0 l) (Y1.keep0 (ae (ag _ _) _)) (fun e=>by have:=(y X e.symm).2;have:=hk.out;omega) z T C;rw [t] at OR ⊢;have hl:=aa OR;clear C z T s0 hHeld G HX Y1 OR P Q l
   simp only [ax,q4,q5,q6,q7];refine bk D (fun hHeld=>?_);clear D K;refine tk 0 [(14,5,.slice hm (i+1) S)] ?_;try simp only [pA,pL,vA,vL,q0,q1,q2,q3]
   refine wpAnyH_done zK ?_ _;clear hHeld z6;have hB:=HR.out.len;go_wp2;go_roundw
   case rel=>exact ⟨i+1,O,zN,hl,G6⟩
   case measure=>exact bO
  ·obtain rfl:i=f.length:=O
   go_wp2;go_ret;exact ⟨_,rfl,ab J M,xs,t,G.low J.size,HX⟩
end Go.Proofs.YtbfohfjobncehaaGreatDoor
