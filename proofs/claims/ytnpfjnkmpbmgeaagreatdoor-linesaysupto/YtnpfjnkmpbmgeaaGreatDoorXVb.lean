/- Contracts that the proof leans on. -/
import Derived.Test.YtnpfjnkmpbmgeaaGreatDoorXVa
import Derived.Test.YtnpfjnkmpbmgeaaGreatDoorXFCmp
import Derived.Test.YtnpfjnkmpbmgeaaGreatDoorXBase
import Derived.Laws.AppendOwn
import Derived.Test.YtnpfjnkmpbmgeaaGreatDoorXZa
namespace Go.Proofs.YtnpfjnkmpbmgeaaGreatDoor
open Go.RowKit
set_option linter.unusedVariables false
set_option linter.unusedSimpArgs false
set_option maxHeartbeats 32000000
set_option maxRecDepth 10000
theorem backAt_at (x y:Value) (r l:Rat) (L M:Nat) (w:World) (hx:FQ w x r L) (hy:FQ w y l M) (hn:r+l≠0) (hl:L+M<=100000000000) :
  Calls Tryz.prog 49 #[x,y] w fun e w'=>FQE w ((r-l) / (r+l)) (8*(L+M)+26) e w':=by
 obtain ⟨xk,xo1,xl1,xc1,xo2,xl2,xc2,rfl⟩:=hx.letters;obtain ⟨yk,yo1,yl1,yc1,yo2,yl2,yc2,rfl⟩:=hy.letters;have HX:=hide hx;have HY:=hide hy;have HN:Hid (r+l≠0):=hn;have HE:=hide (cd_real (r-l) 0 (s:=0) rfl hn).1;clear hx hy hn;obtain ⟨W,hW⟩:∃ W,W=(((w.alloc (Obj.cells #[.bool xk,.slice xo1 xl1 xc1,.slice xo2 xl2 xc2] 50)).alloc (Obj.cells #[.bool yk,.slice yo1 yl1 yc1,.slice yo2 yl2 yc2] 50)).alloc (Obj.cells #[.bool false,.slice none 0 0,.slice none 0 0] 50)):=⟨_,rfl⟩;have GW:Hid (w.grownBy W none):=by rw [hW];exact gr_alloc (gr_alloc (gr_alloc (gr_refl _ _) _) _) _
 have BX:Hid (∀ wx,W.grownBy wx none->BoxC wx (w.heap.size) #[.bool xk,.slice xo1 xl1 xc1,.slice xo2 xl2 xc2]):=by
  intro wx hg;rw [hW] at hg;have h0:=(boxNew' w #[.bool xk,.slice xo1 xl1 xc1,.slice xo2 xl2 xc2] 50 (w.heap.size) (by simp));exact (((h0).keep0 (gr_alloc (gr_refl _ _) _)).keep0 (gr_alloc (gr_refl _ _) _)).keep0 hg
 have BY:Hid (∀ wx,W.grownBy wx none->BoxC wx (w.heap.size+1) #[.bool yk,.slice yo1 yl1 yc1,.slice yo2 yl2 yc2]):=by
  intro wx hg;rw [hW] at hg;have h0:=(boxNew' (w.alloc (Obj.cells #[.bool xk,.slice xo1 xl1 xc1,.slice xo2 xl2 xc2] 50)) #[.bool yk,.slice yo1 yl1 yc1,.slice yo2 yl2 yc2] 50 (w.heap.size+1) (by simp));exact ((h0).keep0 (gr_alloc (gr_refl _ _) _)).keep0 hg
 have BR:Hid (∀ wx,W.grownBy wx none->BoxC wx (w.heap.size+1+1) #[.bool false,.slice none 0 0,.slice none 0 0]):=by
  intro wx hg;rw [hW] at hg;have h0:=(boxNew' ((w.alloc (Obj.cells #[.bool xk,.slice xo1 xl1 xc1,.slice xo2 xl2 xc2] 50)).alloc (Obj.cells #[.bool yk,.slice yo1 yl1 yc1,.slice yo2 yl2 yc2] 50)) #[.bool false,.slice none 0 0,.slice none 0 0] 50 (w.heap.size+1+1) (by simp));exact (h0).keep0 hg
 have hne2_0:¬ w.heap.size+1+1=w.heap.size:=by omega
 have hnf2_0:¬ w.heap.size=w.heap.size+1+1:=by omega
 have hne2_1:¬ w.heap.size+1+1=w.heap.size+1:=by omega
 have hnf2_1:¬ w.heap.size+1=w.heap.size+1+1:=by omega
 obtain ⟨sx0,sx1,sx2,sxf0,sxf1,sxf2⟩:=(BX.out W (gr_refl _ _)).c3;obtain ⟨sy0,sy1,sy2,syf0,syf1,syf2⟩:=(BY.out W (gr_refl _ _)).c3;go_enter Tryz.func49,Tryz.ntmps49
 go_wp2_with fail;rw [<- hW];clear hW;refine (back_at _ _ r 0 l L M W (ZQ.real (HX.out.keep0 GW.out)) (HY.out.keep0 GW.out) hl).mono ?_;rintro e w1 h1;obtain ⟨v1,rfl,p1,g1⟩:=h1.good (fun e=>HN.out e.1);rw [HE.out] at p1;obtain ⟨ck1,co1,cl1,cc1,co2,cl2,cc2,ck2,co3,cl3,cc3,co4,cl4,cc4,rfl,q1,_⟩:=p1.letters;have P1:=hide q1;have G1:=hide g1;clear p1 g1 h1 q1;go_upto_region 2 with fail;obtain ⟨W2,hW2⟩:∃ wz,wz=(w1.alloc (Obj.cells #[.bool ck1,.slice co1 cl1 cc1,.slice co2 cl2 cc2,.bool ck2,.slice co3 cl3 cc3,.slice co4 cl4 cc4] 55)):=⟨_,rfl⟩;have GW2:Hid (w1.grownBy W2 none):=by rw [hW2];exact gr_alloc (gr_refl _ _) _
 have BO:Hid (∀ wx,W2.grownBy wx none->BoxC wx w1.heap.size #[.bool ck1,.slice co1 cl1 cc1,.slice co2 cl2 cc2,.bool ck2,.slice co3 cl3 cc3,.slice co4 cl4 cc4]):=by
  intro wx g;rw [hW2] at g;exact (boxNew w1 #[.bool ck1,.slice co1 cl1 cc1,.slice co2 cl2 cc2,.bool ck2,.slice co3 cl3 cc3,.slice co4 cl4 cc4] 55).keep0 g
 rw [<- hW2];clear hW2;obtain ⟨o0,o1,o2,o3,o4,o5,of0,of1,of2,of3,of4,of5⟩:=(BO.out W2 (gr_refl _ _)).c6;obtain ⟨r0,r1,r2,rf0,rf1,rf2⟩:=(BR.out W2 (gr_none G1.out GW2.out)).c3;have GA:=hide (gr_none (gr_none GW.out G1.out) GW2.out);have BR2:=hide (BR.out W2 (gr_none G1.out GW2.out));go_wp2;refine bodyPost_ret (v:=.agg #[.bool ck1,.slice co1 cl1 cc1,.slice co2 cl2 cc2]) (by first | (simp [results,Tryz.results49,go_sem,r0,r1,r2];done) | (simp [results,Tryz.results49,go_sem,r0,r1,r2];rfl)) rfl ?_;exact ⟨_,rfl,(P1.out.keep0 GW2.out).kept (BR2.out.kept3 _ _ _ (noWd3 _ _ _ _ _ _ _)),gr_set (gr_set (gr_set (GA.out) _ _ (by first | (simp;done) | (simp;omega))) _ _ (by first | (simp;done) | (simp;omega))) _ _ (by first | (simp;done) | (simp;omega))⟩
theorem cmp_zero (p q:Rat):(cmpR p q==0)=decide (p=q):=by
 unfold cmpR;by_cases h:p=q
 ·subst h;have:¬ p<p:=Rat.lt_irrefl;simp [this]
 ·rw [decide_eq_false h];by_cases h1:p<q
  ·rw [if_pos h1];rfl
  ·rw [if_neg h1];by_cases h2:q<p
   ·rw [if_pos h2];rfl
   ·exact absurd (Rat.le_antisymm (Rat.not_lt.1 h2) (Rat.not_lt.1 h1)) h
theorem turns_at (x:Value) (p q:Rat) (L:Nat) (w:World) (hx:ZQ w x p q L) (hl:L<=100000000000) :
  Calls Tryz.prog 38 #[x] w fun e w'=>e=.returned (.bool (decide (p*p+q*q=1)))/\w.grownBy w' none:=by
 obtain ⟨xk1,xo1,xl1,xc1,xo2,xl2,xc2,xk2,xo3,xl3,xc3,xo4,xl4,xc4,rfl,_,_⟩:=hx.letters;have HX:=hide hx;clear hx;have he:p*p-q * -q=p*p+q*q:=by grind
 have HE:=hide he;clear he;have hfd:∀ (k1:Bool) (o1:Option Addr) (l1 c1:Nat) (o2:Option Addr) (l2 c2:Nat) (k2:Bool) (o3:Option Addr) (l3 c3:Nat) (o4:Option Addr) (l4 c4:Nat) (wx:World),(Instr.field 55 (.agg #[.bool k1,.slice o1 l1 c1,.slice o2 l2 c2,.bool k2,.slice o3 l3 c3,.slice o4 l4 c4]) 0).run Tryz.prog wx=.ok (.agg #[.bool k1,.slice o1 l1 c1,.slice o2 l2 c2]) wx:=by
  intros
  kernel_rfl
 obtain ⟨W,hW⟩:∃ W,W=(w.alloc (Obj.cells #[.bool xk1,.slice xo1 xl1 xc1,.slice xo2 xl2 xc2,.bool xk2,.slice xo3 xl3 xc3,.slice xo4 xl4 xc4] 55)):=⟨_,rfl⟩;have GW:Hid (w.grownBy W none):=by rw [hW];exact gr_alloc (gr_refl _ _) _
 have BX:Hid (∀ wx,W.grownBy wx none->BoxC wx (w.heap.size) #[.bool xk1,.slice xo1 xl1 xc1,.slice xo2 xl2 xc2,.bool xk2,.slice xo3 xl3 xc3,.slice xo4 xl4 xc4]):=by
  intro wx hg;rw [hW] at hg;have h0:=(boxNew' w #[.bool xk1,.slice xo1 xl1 xc1,.slice xo2 xl2 xc2,.bool xk2,.slice xo3 xl3 xc3,.slice xo4 xl4 xc4] 55 (w.heap.size) (by simp));exact (h0).keep0 hg
 have hle:w.heap.size+1<=W.heap.size:=by rw [hW];simp
 have hu_0:¬ W.heap.size=w.heap.size:=by omega
 have hv_0:¬ w.heap.size=W.heap.size:=by omega
 obtain ⟨x0,x1,x2,x3,x4,x5,xf0,xf1,xf2,xf3,xf4,xf5⟩:=(BX.out W (gr_refl _ _)).c6;go_enter Tryz.func38,Tryz.ntmps38
 go_upto_region 1 with fail;rw [<- hW];clear hW;have GG:W.grownBy W none:=gr_refl _ _;go_cut [3] (fun s3 wx=>Hid (∃ b,s3=.pointer (some ⟨b,0,none⟩)/\W.grownBy wx none/\∃ c0 c1 c2,BoxC wx b #[c0,c1,c2]/\FQ wx (.agg #[c0,c1,c2]) (p*p-q * -q) (2*(L+L)+4)))
 case first =>
  go_region_held3 (fun w'=>w'.cell? ⟨w.heap.size,0,none⟩=some (.bool xk1)/\w'.cell? ⟨w.heap.size,1,none⟩=some (.slice xo1 xl1 xc1)/\w'.cell? ⟨w.heap.size,2,none⟩=some (.slice xo2 xl2 xc2)/\w'.cell? ⟨w.heap.size,3,none⟩=some (.bool xk2)/\w'.cell? ⟨w.heap.size,4,none⟩=some (.slice xo3 xl3 xc3)/\w'.cell? ⟨w.heap.size,5,none⟩=some (.slice xo4 xl4 xc4)) (go_keep)
   (first | (go_at_call 80;refine (zMir_at _ p q L _ (HX.out.keep0 (gr_none GW.out (by first | exact gr_none GG (gr_d _) | exact gr_none GG gr_d1 | exact GG | exact gr_alloc GG _ | exact gr_alloc (gr_none GG gr_d1) _ | exact gr_alloc (gr_none GG (gr_d _)) _)))).mono ?_;rintro e wa ⟨va,rfl,pa,ga⟩;obtain ⟨ak1,ao1,al1,ac1,ao2,al2,ac2,ak2,ao3,al3,ac3,ao4,al4,ac4,rfl,_,_⟩:=pa.letters;have KP:=gr_none (by first | exact gr_d _ | exact gr_d1 | exact gr_alloc gr_d1 _ | exact gr_alloc (gr_d _) _ | exact gr_alloc (gr_refl _ _) _ | exact gr_refl _ _) ga;have GG:W.grownBy wa none:=gr_none (by first | exact gr_none GG (gr_d _) | exact gr_none GG gr_d1 | exact GG | exact gr_alloc GG _ | exact gr_alloc (gr_none GG gr_d1) _ | exact gr_alloc (gr_none GG (gr_d _)) _) ga;clear KP;have hs_a:W.heap.size<=wa.heap.size:=GG.size;have hu_a0:¬ wa.heap.size=w.heap.size:=(by omega);have hv_a0:¬ w.heap.size=wa.heap.size:=(by omega);obtain ⟨a_z0,a_z1,a_z2,a_z3,a_z4,a_z5,a_zf0,a_zf1,a_zf2,a_zf3,a_zf4,a_zf5⟩:=(BX.out wa GG).c6;(first | (have BA:=BA.keep0 ga;obtain ⟨n_a0,n_a1,n_a2,n_af0,n_af1,n_af2⟩:=BA.c3) | (have BA:=(boxNew' (World.drew W) #[.bool false,.slice none 0 0,.slice none 0 0] 50 W.heap.size rfl).keep0 ga;obtain ⟨n_a0,n_a1,n_a2,n_af0,n_af1,n_af2⟩:=BA.c3) | (have BA:=(boxNew _ #[.bool false,.slice none 0 0,.slice none 0 0] 50).keep0 ga;obtain ⟨n_a0,n_a1,n_a2,n_af0,n_af1,n_af2⟩:=BA.c3) | skip)) | (go_at_call 39;refine (zTimes_at _ _ p q p (-q) L L _ (HX.out.keep0 (gr_none GW.out (by first | exact gr_none GG (gr_d _) | exact gr_none GG gr_d1 | exact GG | exact gr_alloc GG _ | exact gr_alloc (gr_none GG gr_d1) _ | exact gr_alloc (gr_none GG (gr_d _)) _))) (pa.keep0 (by first | exact gr_d _ | exact gr_d1 | exact gr_alloc gr_d1 _ | exact gr_alloc (gr_d _) _ | exact gr_alloc (gr_refl _ _) _ | exact gr_refl _ _)) (by omega)).mono ?_;rintro e wb ⟨vb,rfl,pb,gb⟩;obtain ⟨bk1,bo1,bl1,bc1,bo2,bl2,bc2,bk2,bo3,bl3,bc3,bo4,bl4,bc4,rfl,_,_⟩:=pb.letters;have KP:=gr_none (by first | exact gr_d _ | exact gr_d1 | exact gr_alloc gr_d1 _ | exact gr_alloc (gr_d _) _ | exact gr_alloc (gr_refl _ _) _ | exact gr_refl _ _) gb;have GG:W.grownBy wb none:=gr_none (by first | exact gr_none GG (gr_d _) | exact gr_none GG gr_d1 | exact GG | exact gr_alloc GG _ | exact gr_alloc (gr_none GG gr_d1) _ | exact gr_alloc (gr_none GG (gr_d _)) _) gb;(try have pa:=pa.keep0 KP);clear KP;have hs_b:W.heap.size<=wb.heap.size:=GG.size;have hu_b0:¬ wb.heap.size=w.heap.size:=(by omega);have hv_b0:¬ w.heap.size=wb.heap.size:=(by omega);obtain ⟨b_z0,b_z1,b_z2,b_z3,b_z4,b_z5,b_zf0,b_zf1,b_zf2,b_zf3,b_zf4,b_zf5⟩:=(BX.out wb GG).c6;(first | (have BA:=BA.keep0 gb;obtain ⟨n_b0,n_b1,n_b2,n_bf0,n_bf1,n_bf2⟩:=BA.c3) | (have BA:=(boxNew' (World.drew W) #[.bool false,.slice none 0 0,.slice none 0 0] 50 W.heap.size rfl).keep0 gb;obtain ⟨n_b0,n_b1,n_b2,n_bf0,n_bf1,n_bf2⟩:=BA.c3) | (have BA:=(boxNew _ #[.bool false,.slice none 0 0,.slice none 0 0] 50).keep0 gb;obtain ⟨n_b0,n_b1,n_b2,n_bf0,n_bf1,n_bf2⟩:=BA.c3) | skip)))
  all_goals
   have HGd:=hide GG;have PB:=hide (ZQ.parts pb).1;clear pa pb;go_wp2;go_meet
   first
    | (have BA2:=BA;exact ⟨_,rfl,gr_set (gr_set (gr_set (HGd.out) _ _ (by first | (simp;done) | (simp;omega))) _ _ (by first | (simp;done) | (simp;omega))) _ _ (by first | (simp;done) | (simp;omega)),_,_,_,BA2.set3,PB.out.kept (BA2.kept3 _ _ _ (noWd3 _ _ _ _ _ _ _))⟩)
    | exact ⟨_,rfl,gr_alloc HGd.out _,_,_,_,boxNew _ _ _,PB.out.keep0 (gr_alloc (gr_refl _ _) _)⟩
 case rest =>
  obtain ⟨bx,rfl,gc,c0,c1,c2,bc,pc⟩:=hcut.out;obtain ⟨ek,eo1,el1,ec1,eo2,el2,ec2,rfl,rfl,rfl⟩:=pc.flat;rw [HE.out] at pc;have PC:=hide pc;have GC:=hide gc;have BB:Hid (∀ wx,wc.grownBy wx none->BoxC wx bx #[.bool ek,.slice eo1 el1 ec1,.slice eo2 el2 ec2]):=fun wx g=>bc.keep0 g
  obtain ⟨k0,k1,k2,kf0,kf1,kf2⟩:=bc.c3;clear hcut pc gc bc x0 x1 x2 x3 x4 x5 xf0 xf1 xf2 xf3 xf4 xf5 hfd;go_upto_region 2 with fail;have GG:wc.grownBy wc none:=gr_refl _ _;go_region_held3 (fun w'=>w'.cell? ⟨bx,0,none⟩=some (.bool ek)/\w'.cell? ⟨bx,1,none⟩=some (.slice eo1 el1 ec1)/\w'.cell? ⟨bx,2,none⟩=some (.slice eo2 el2 ec2)) (go_keep)
   (first | (go_at_call 78;refine (one_at _).mono ?_;rintro e wd ⟨vd,rfl,pd,gd⟩;obtain ⟨dk,do1,dl1,dc1,do2,dl2,dc2,rfl⟩:=pd.letters;have GG:wc.grownBy wd none:=gr_none (by first | exact gr_none GG (gr_d _) | exact gr_none GG gr_d1 | exact GG | exact gr_alloc GG _ | exact gr_alloc (gr_none GG gr_d1) _ | exact gr_alloc (gr_none GG (gr_d _)) _) gd;obtain ⟨d_z0,d_z1,d_z2,d_zf0,d_zf1,d_zf2⟩:=(BB.out wd GG).c3) | (go_at_call 81;refine (fCompare_at _ _ (p*p+q*q) 1 (2*(L+L)+4) 1 _ (PC.out.keep0 (by first | exact gr_none GG (gr_d _) | exact gr_none GG gr_d1 | exact GG | exact gr_alloc GG _ | exact gr_alloc (gr_none GG gr_d1) _ | exact gr_alloc (gr_none GG (gr_d _)) _)) (pd.keep0 (by first | exact gr_d _ | exact gr_d1 | exact gr_alloc gr_d1 _ | exact gr_alloc (gr_d _) _ | exact gr_alloc (gr_refl _ _) _ | exact gr_refl _ _)) (by omega)).mono ?_;rintro e wf ⟨rfl,gf⟩;have GG:wc.grownBy wf none:=gr_none (by first | exact gr_none GG (gr_d _) | exact gr_none GG gr_d1 | exact GG | exact gr_alloc GG _ | exact gr_alloc (gr_none GG gr_d1) _ | exact gr_alloc (gr_none GG (gr_d _)) _) gf;obtain ⟨f_z0,f_z1,f_z2,f_zf0,f_zf1,f_zf2⟩:=(BB.out wf GG).c3))
  all_goals
   have HGd:=hide GG;go_wp2;go_ret;exact ⟨by first | (rw [cmp_zero];rfl) | rw [cmp_zero],gr_none (gr_none GW.out GC.out) HGd.out⟩
def OwnG {α:Type} (f:α->Value) (t:TypeId) (w:World) (base:Nat) (v:Value) (xs:List α):Prop:=w.ownsRow base t 1 v xs.length (xs.map f)
def RowG {α:Type} (f:α->Value) (w:World) (v:Value) (xs:List α):Prop:=∃ ao cap,v=.slice ao xs.length cap/\xs.length<=cap/\cap<=maxLen/\∀ i (h:i<xs.length),∃ b off,ao=some ⟨b,off,none⟩/\b<w.heap.size/\w.cell? ⟨b,off+i,none⟩=some (f xs[i])
theorem RowG.keep {α:Type} {f:α->Value} {w w':World} {v:Value} {xs:List α} (h:RowG f w v xs) (hg:w.grownBy w' none):RowG f w' v xs:=by
 obtain ⟨ao,cap,e,h1,h2,h3⟩:=h;refine ⟨ao,cap,e,h1,h2,fun i hi=>?_⟩;obtain ⟨b,off,e,hb,c⟩:=h3 i hi;exact ⟨b,off,e,Nat.lt_of_lt_of_le hb hg.size,hg.cell c (by simp)⟩
section
variable {α:Type} {f:α->Value} {t:TypeId} {w w':World} {base:Nat} {v:Value} {xs:List α}
theorem OwnG.row (h:OwnG f t w base v xs):RowG f w v xs:=by
 rcases h.2 with ⟨rfl,h0⟩ | ⟨g,cap,cur,rfl,hb,hh,h1,h2,h3,h4⟩
 ·have:xs=[]:=List.eq_nil_of_length_eq_zero h0;subst this;exact ⟨none,0,rfl,by simp,by simp,fun i hi=>by simp at hi⟩
 ·refine ⟨_,cap,rfl,h1,h2,fun i hi=>⟨g,0,rfl,(Array.getElem?_eq_some_iff.1 hh).1,?_⟩⟩;rw [Nat.zero_add];simp only [World.cell?,hh];have h5:(cur.toList.take (xs.length*1))[i]? = (xs.map f)[i]?:=by rw [h4]
  rw [List.getElem?_take,if_pos (by omega)] at h5;simpa [hi] using h5
theorem OwnG.fresh (h:OwnG f t w base v xs):∀ k,v.ownBlock=some k->base<=k/\k<w.heap.size:=World.ownsRow.lt h
theorem OwnG.keep {row:Option Nat} (h:OwnG f t w base v xs) (hg:w.grownBy w' row) (hne:v.ownBlock=none∨v.ownBlock≠row):OwnG f t w' base v xs:=World.ownsRow.kept h hg hne
theorem OwnG.keep0 (h:OwnG f t w base v xs) (hg:w.grownBy w' none):OwnG f t w' base v xs:=h.keep hg (by cases hv:v.ownBlock<;>simp)
theorem OwnG.keepB {g:Nat} (h:OwnG f t w base v xs) (hg:w.grownBy w' (some g)) (hb:g<base):OwnG f t w' base v xs:=by
 refine h.keep hg ?_;cases hv:v.ownBlock with
 | none=>exact .inl rfl
 | some k =>
  right
  intro e;have:=(h.fresh k hv).1;cases e
  omega
theorem OwnG.shape (h:OwnG f t w base v xs):∃ ao cap,v=.slice ao xs.length cap:=by
 obtain ⟨ao,cap,e,_⟩:=h.row;exact ⟨ao,cap,e⟩
end
def NoW (w:World) (k:Nat):Prop:=∀ i f (x:Nat),w.cell? ⟨k,i,f⟩≠some (.int .u32 (x:Nat))
def NoWv (w:World) (v:Value):Prop:=∀ k,v.ownBlock=some k->NoW w k
theorem NoW.cells {w:World} {k:Nat} {cur:Array Value} {e:TypeId} (hb:w.heap[k]? = some (.cells cur e (0,0))) (h:∀ u∈cur.toList,∀ x:Nat,u≠.int .u32 (x:Nat)):NoW w k:=by
 intro i f x hc;cases f with
 | none =>
  simp only [World.cell?,hb] at hc;have hc':cur.toList[i]? = some (.int .u32 (x:Nat)):=by rw [Array.getElem?_toList];exact hc
  exact h _ (List.mem_of_getElem? hc') x rfl
 | some g=>simp [World.cell?,hb] at hc
theorem NoW.all {w:World} {k:Nat} {cur:Array Value} {e:TypeId} (hb:w.heap[k]? = some (.cells cur e (0,0))) (h:NoW w k):∀ u∈cur.toList,∀ x:Nat,u≠.int .u32 (x:Nat):=by
 intro u hu x e2;obtain ⟨i,hi⟩:=List.mem_iff_getElem?.1 hu;refine h i none x ?_;simp only [World.cell?,hb];rw [<- e2,<- Array.getElem?_toList];exact hi
theorem NoW.keep {w w':World} {k:Nat} {r:Option Nat} (h:NoW w k) (hk:k<w.heap.size) (g:w.grownBy w' r) (hr:some k≠r):NoW w' k:=by
 intro i f x e;rw [World.cell?_of_block (g.block k hk hr)] at e;exact h i f x e
theorem run_append_nwf {P:Program} (w:World) (base:Nat) (t ty e:TypeId) (i:TypeInfo) (z:Value) (size bytes:Nat) (ht:P.underlying t=some (.slice e)) (hi:P.info? e=some i) (hz:i.zero=some z)
  (hsize:i.size=size) (hby:i.bytes=bytes) (hzs:z.cells.size=size) (hs0:0<size) (hz1:∀ j (x:Nat),j<size->z.cells[j]!≠.int .u32 (x:Nat))
  (v:Value) (n:Nat) (xs:List Value) (hown:w.ownsRow base e size v n xs) (hnw:NoWv w v) (hxs:∀ u∈xs,∀ x:Nat,u≠.int .u32 (x:Nat))
  (a:Addr) (m c:Nat) (news:List Value) (hl:news.length=m*size) (hm:0<m) (hnews:∀ j u,news[j]? = some u->w.cell? (a.add j)=some u) (h1':∀ u∈news,u.oneCell'=true) (hyw:∀ u∈news,∀ x:Nat,u≠.int .u32 (x:Nat))
  (h63:n+m<=maxLen) (hbytes:(n+m)*bytes<=140737488355328) (hbase:base<=w.heap.size) :
  ∃ v' w',(Builtin.append_ #[t,t] ty #[v,.slice (some a) m c]).run P w=.ok v' w'/\w'.ownsRow base e size v' (n+m) (xs++news)/\w.grownBy w' v.ownBlock/\NoWv w' v'/\WKept w w':=by
 obtain ⟨v',w',hr,h2,h3,_⟩:=run_append_own (P:=P) w base t ty e i z size bytes ht hi hz hsize hby hzs hs0 v n xs hown a m c news hl hnews h1' h63 hbytes hbase;refine ⟨v',w',hr,h2,h3,?_⟩;have hsmall:n+m<=9223372036854775807:=by simp only [maxLen] at h63;omega
 have fresh:∀ cur:Array Value,(∀ u∈cur.toList,∀ x:Nat,u≠.int .u32 (x:Nat))->∀ c2,w'=w.drew.alloc (.cells cur e)->v'=.slice (some ⟨w.heap.size,0,none⟩) (n+m) c2->NoWv w' v'/\WKept w w':=by
  intro cur hc c2 ew ev;have hgr:w.grownBy w' none:=by rw [ew];exact ⟨rfl,rfl,rfl,by simp,fun k hk _=>heap_alloc_old w.drew _ hk⟩
  refine ⟨fun k ek=>?_,WKept.of_gr hgr⟩;rw [ev] at ek;simp only [Value.ownBlock,Option.some.injEq] at ek;subst ek;exact NoW.cells (by rw [ew];exact heap_alloc_new w.drew _) hc
 have hzc:∀ k,∀ u∈(Builtin.zeroCells z.cells k).toList,∀ x:Nat,u≠.int .u32 (x:Nat):=by
  intro k u hu x;unfold Builtin.zeroCells at hu;simp only [Array.toList_map,List.mem_map] at hu;obtain ⟨j,_,rfl⟩:=hu;rw [hzs];exact hz1 _ x (Nat.mod_lt _ hs0)
 rcases hown.2 with ⟨rfl,rfl⟩ | ⟨g,cap,cur,rfl,hbg,hg,hnc,hcm,hcs,htake⟩
 ·have hr2:=run_append_nil (P:=P) w t ty e i z ht hi hz a m c news (by rw [hsize];exact hl) hnews hm (by omega) (by rw [hby];rw [Nat.zero_add] at hbytes;omega);rw [hr2] at hr;injection hr with e1 e2
  refine fresh _ ?_ (grownCap w m 0 e) e2.symm (by rw [Nat.zero_add];exact e1.symm);intro u hu;simp only [Array.toList_append,List.mem_append] at hu;rcases hu with hu | hu
  ·exact hyw u (by simpa using hu)
  ·exact hzc _ u hu
 ·by_cases hroom:n+m<=cap
  ·have hfit:n*i.size+news.length<=cur.size:=by
    rw [hsize,hcs,hl,<- Nat.add_mul];exact Nat.mul_le_mul_right _ hroom
   have hr2:=run_append_room (P:=P) w t ty e i ht hi g n cap cur hg a m c news (by rw [hsize];exact hl) hnews h1' hroom hfit;rw [hr2] at hr;injection hr with e1 e2
   have hw:=hnw g rfl;have hnew:=setRow_heap w g cur ((cur.toList.take (n*i.size)++news++cur.toList.drop (n*i.size+news.length)).toArray) e _ hg;refine ⟨fun k ek=>?_,⟨h3.size,fun ad x ex=>?_⟩⟩
   ·rw [<- e1] at ek;simp only [Value.ownBlock,Option.some.injEq] at ek;subst ek;rw [<- e2];refine NoW.cells hnew ?_;intro u hu x;simp only [List.mem_append] at hu;rcases hu with (hu | hu) | hu
    ·exact hw.all hg u (List.mem_of_mem_take hu) x
    ·exact hyw u hu x
    ·exact hw.all hg u (List.mem_of_mem_drop hu) x
   ·have hne:ad.block≠g:=fun e3=>by
     obtain ⟨b,i,f⟩:=ad;simp only at e3;subst e3;exact hw i f x ex
    rw [World.cell?_of_block (h3.block ad.block (cell_lt ex) (fun e3=>hne (by simp only [Value.ownBlock,Option.some.injEq] at e3;exact e3)))];exact ex
  ·have holds:∀ j u,xs[j]? = some u->w.cell? ((⟨g,0,none⟩:Addr).add j)=some u:=hown.cells (g:=g) rfl;have hr2:=run_append_grow (P:=P) w t ty e i z ht hi hz ⟨g,0,none⟩ n cap xs (by rw [hsize];exact hown.1) holds a m c news (by rw [hsize];exact hl) hnews (by omega) (by omega) (growslice_fits (by omega) (by rw [hby];exact hbytes));rw [hr2] at hr;injection hr with e1 e2
   refine fresh _ ?_ _ e2.symm e1.symm;intro u hu;simp only [Array.toList_append,List.mem_append] at hu;rcases hu with (hu | hu) | hu
   ·exact hxs u (by simpa using hu)
   ·exact hyw u (by simpa using hu)
   ·exact hzc _ u hu
abbrev sv (s:ByteArray):Value:=.string s
theorem Tryz.infoQ:(Tryz.prog.info? 22).map (fun i=>(i.zero,i.size,i.bytes))=some (some (sv ⟨#[]⟩),1,16):=by kernel_rfl
def textsL (R:Nat->Rat) (i:Nat):List ByteArray:=(List.range i).map fun j=>⟨(qtext (R j)).toArray⟩
theorem textsL_length (R:Nat->Rat) (i:Nat):(textsL R i).length=i:=by simp [textsL]
theorem textsL_succ (R:Nat->Rat) (i:Nat):textsL R (i+1)=textsL R i++[⟨(qtext (R i)).toArray⟩]:=by simp [textsL,List.range_succ]
def OwnT (w:World) (base:Nat) (v:Value) (xs:List ByteArray):Prop:=OwnG sv 22 w base v xs/\NoWv w v
theorem OwnT.keep0 {w w':World} {base:Nat} {v:Value} {xs:List ByteArray} (h:OwnT w base v xs) (hg:w.grownBy w' none):OwnT w' base v xs :=
 ⟨h.1.keep0 hg,fun k ek=>(h.2 k ek).keep (h.1.fresh k ek).2 hg (by simp)⟩
theorem ownT_one {w:World} {s:ByteArray} {base:Nat} (hb:base<=w.heap.size):OwnT (w.alloc (Obj.cells #[sv s] 22)) base (.slice (some ⟨w.heap.size,0,none⟩) 1 1) [s]:=by
 have hh:=heap_alloc_new w (Obj.cells #[sv s] 22);refine ⟨⟨rfl,.inr ⟨w.heap.size,1,#[sv s],rfl,hb,hh,Nat.le_refl _,by unfold maxLen;decide,rfl,rfl⟩⟩,fun k ek=>?_⟩;simp only [Value.ownBlock,Option.some.injEq] at ek;subst ek;refine NoW.cells hh ?_;intro u hu x;simp at hu;subst hu;intro e;cases e
theorem wpList_append_t {P:Program} (W:World) {ops:Array Oper} {rest:List Oper} {o:Oper} {a:Act} {Q:Exit->Act->World->Prop}
  (hg:o.guard=none) (s x:Operand) (t:TypeId) (ho:o.op=.call { callee:=.builtin .append,args:=#[s,x],argTypes:=#[t,t] }) (base:Nat)
  (h1:P.underlying t=some (.slice 22)) (hinfo:(P.info? 22).map (fun i=>(i.zero,i.size,i.bytes))=some (some (sv ⟨#[]⟩),1,16))
  (v:Value) (xs:List ByteArray) (hs:a.eval s=v) (hown:OwnT W base v xs) (b:Nat) (y:ByteArray) (hx:a.eval x=.slice (some ⟨b,0,none⟩) 1 1) (hc:W.cell? ⟨b,0,none⟩=some (sv y))
  (hlen:xs.length<=1000000) (hbase:base<=W.heap.size)
  (hK:∀ ao cap w',OwnT w' base (.slice ao (xs.length+1) cap) (xs++[y])->W.grownBy w' v.ownBlock->WKept W w'->wpList P ops Q rest (a.put o.dst (.slice ao (xs.length+1) cap)) w'):wpList P ops Q (o :: rest) a W:=by
 obtain ⟨i,hi,hz0,hsz,hz2⟩:=info_parts hinfo;obtain ⟨v',w',hr,h2,h3,h4,h5⟩:=run_append_nwf (P:=P) W base t o.type 22 i _ 1 16 h1 hi hz0 hsz hz2 rfl (by decide)
  (fun j x hj=>by
   obtain rfl:j=0:=by omega
   intro e;cases e)
  v xs.length (xs.map sv) hown.1 hown.2 (fun u hu x=>by obtain ⟨u',_,rfl⟩:=List.mem_map.1 hu;intro e;cases e) ⟨b,0,none⟩ 1 1 [sv y] rfl (by decide)
  (fun j u hj=>by
   match j with
   | 0 =>
    simp only [List.getElem?_cons_zero,Option.some.injEq] at hj;subst hj;simpa [Addr.add] using hc
   | j+1=>simp at hj)
  (fun u hu=>by
   simp only [List.mem_singleton] at hu;subst hu;rfl)
  (fun u hu x=>by
   simp only [List.mem_singleton] at hu;subst hu;intro e;cases e) (by unfold maxLen;omega) (by omega) hbase
 have h6:OwnT w' base v' (xs++[y]):=by
  refine ⟨?_,h4⟩;unfold OwnG;rw [List.length_append,List.map_append];exact h2
 obtain ⟨ao,cap,ev⟩:=h6.1.shape;rw [List.length_append,List.length_singleton] at ev;refine wpList_plain hg fun _ hK2=>?_
 unfold Oper.wp execOp;simp only [ho,resolve,invoke,builtin,Sem.run_bind,Sem.run_pure,Result.andThen_ok,List.map_toArray,List.map_cons,List.map_nil,hs,hx,hr];rw [ev] at h6 ⊢;exact hK2 _ _ (hK ao cap w' h6 h3 h5)
theorem fit_mono {L L':Nat} {q:Rat} (h:FitW L q) (hl:L<=L'):FitW L' q :=
 ⟨Nat.lt_of_lt_of_le h.1 (Nat.pow_le_pow_right (by decide) hl),Nat.lt_of_lt_of_le h.2 (Nat.pow_le_pow_right (by decide) hl)⟩
end Go.Proofs.YtnpfjnkmpbmgeaaGreatDoor
