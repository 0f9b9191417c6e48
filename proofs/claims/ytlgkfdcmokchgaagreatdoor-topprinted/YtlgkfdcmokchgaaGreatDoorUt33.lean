/-
  Texts laid together: Wrong, Ref6, Co13, Gr7, Ce12, Eg3, As3, As4, Oq5, Oa0, Tx11, Tx12, Tx14, Eh4, Cv8, Cv11.
-/
import Derived.Test.YtlgkfdcmokchgaaGreatDoorUt24
import Derived.Test.YtlgkfdcmokchgaaGreatDoorUt25
import Derived.Test.YtlgkfdcmokchgaaGreatDoorUt26
import Derived.Test.YtlgkfdcmokchgaaGreatDoorUt27
import Derived.Test.YtlgkfdcmokchgaaGreatDoorUt28
set_option maxRecDepth 100000
set_option maxHeartbeats 3200000
namespace Go.Proofs.YtlgkfdcmokchgaaGreatDoor
open _root_.Go.Proofs.Tryz
open Go.RowKit
theorem Qr (va vb:Value)(xs ys:List Nat)(n:Nat)(w:World)(ha:Rd w .u32 va xs)(hb:Rd w .u32 vb ys)
  (hK:gB xs ys=0→ ∀w1:World,yB w w1→yC 57 #[va,vb] w1 (Num w1 n)):
  yC 56 #[va,vb,.func (.func 57) #[] #[]] w (Ans w (mv (gB xs ys) n)):=by
 obtain⟨ao,ca,rfl⟩:=ha.shape;obtain⟨bo,cb,rfl⟩:=hb.shape;have b1:yB w (w.alloc (.cells #[.slice ao xs.length ca,.slice bo ys.length cb] 33)):=(Below.refl _ _).alloc (Nat.le_refl _) _;have hw:=nP w.heap.size _ _ xs ys (w.alloc (.cells #[.slice ao xs.length ca,.slice bo ys.length cb] 33)) (by rw[World.cell?_alloc_at _ _ _ _ rfl];rfl) (by rw[World.cell?_alloc_at _ _ _ _ rfl];rfl) (ha.l b1) (hb.l b1);obtain⟨c,hc⟩: ∃c,gB xs ys=c:=⟨_,rfl⟩;rw[hc] at hw hK⊢;clear hc;unfold mv
 by_cases h:c=0
 ·subst h
  rw[if_pos rfl];have hk:=hK rfl _ b1;clear hK
  go_enter func56,ntmps56
  go_wp2_with fail
  refine hw.mono ?_;rintro e w' ⟨rfl,rfl⟩
  go_wp2_with fail
  refine hk.mono ?_;rintro e w2 ⟨v,rfl,hown,hbel⟩;have b2:=aa b1 hbel;have own2:=hown.lower b1.size
  go_wp2_with fail
  refine(tZ v n w w2 own2 b2).mono ?_;rintro e w' ⟨rfl,v2,rfl,h2,h3⟩
  go_wp2
  go_ret2
  exact⟨_,rfl,h2,h3⟩
 ·rw[if_neg h]
  go_enter func56,ntmps56
  go_wp2_with fail
  refine hw.mono ?_;rintro e w' ⟨rfl,rfl⟩
  go_wp2
  go_ret2
  exact⟨_,rfl,aQ _ _ _ _,b1⟩
theorem Ft (va:Value)(xs:List Nat)(n wh pt P Q:Nat)(w:World)(ha:Rd w .i64 va xs)(sa:Dg.Small 65536 xs)(hla:xs.length≤1000000)(hn:n=16*wh+pt)(hpt:pt<16)(hnl:n≤100000000)(hP:P=2^pt)(hQ:Q=2^ (16-pt)):
  yC 27 #[va,yi n] w (cG w (Dg.vl 65536 xs/2^n)):=
 (MD va xs n wh pt P Q w ha sa hla hn hpt hnl hP hQ).mono fun _ _ ⟨v,h1,h2,_,h3⟩=>⟨v,h1,h2,h3⟩
theorem Uy (g cap:Nat)(zs:List Nat)(w:World)(ho:ik w g zs)(hl:zs.length≤1000000000):
  yC 155 #[.slice (some ⟨g,0,none⟩) zs.length cap] w fun e w'=>e= .returned (.tuple #[])∧ik w' g zs.reverse∧w.grownBy w' (some g):=by
 have hr:=Ko g cap zs w ho hl
 go_enter func155,ntmps155
 go_wp2_with fail
 refine hr.mono ?_;rintro z w1 ⟨rfl,r1,g1⟩
 go_wp2
 go_end0
 exact⟨rfl,r1,g1⟩
theorem jM (qs:Bool)(ao:Option Addr)(ca:Nat)(xs:List Nat)(bo:Option Addr)(cb:Nat)(ys:List Nat)(E R D L G:Int)(gr:Bool)(way:Int)(w:World)(ha:Rd w .u32 (.slice ao xs.length ca) xs)(hb:Rd w .u32 (.slice bo ys.length cb) ys)(sa:Dg.Small 4294967296 xs)(sb:Dg.Small 4294967296 ys):
  yC 39 #[yrV qs (.slice ao xs.length ca) (.slice bo ys.length cb) E,ygV R D L G gr,yi way] w (sq w (eE xs ys E R D L G way) (df xs ys E R D L G gr qs way)):=by
 refine Ob R D L G gr qs ao xs.length ca bo ys.length cb E way (jg (eA xs ys E) (bk R D L G)) (ac0 way) (T4 way) (iC way) ((xs.length:Int)==0) (cI R D L G gr qs (Dg.vl 4294967296 xs) (Dg.vl 4294967296 ys) E way) _ _ w ?_ ?_ rfl ?_ ?_ ?_ ?_ ?_ ?_ ?_
 ·intro h
  exact if_pos h
 ·intro h
  exact if_neg (by rw[h];decide)
 ·intro h
  have e:eE xs ys E R D L G way=jg (eA xs ys E) (bk R D L G):=if_neg h;exact⟨e,by unfold df;rw[e,if_neg h]⟩
 ·intro h hw
  have e:eE xs ys E R D L G way=6:=(if_pos h).trans (if_neg (by rw[hw];decide));exact⟨e,by unfold df;rw[e];rfl⟩
 ·intro h hw hz
  have e:eE xs ys E R D L G way=0:=(if_pos h).trans (if_pos hw);have hx:xs.length=0:=by simpa using hz
  exact⟨e,by unfold df;rw[e,if_pos rfl,if_pos hx]⟩
 ·intro h hw hz
  have e:eE xs ys E R D L G way=0:=(if_pos h).trans (if_pos hw);have hx: ¬xs.length=0:=by simpa using hz
  exact⟨e,by unfold df;rw[e,if_pos rfl,if_neg hx]⟩
 ·intro w1 b
  exact Qe qs ao ca xs bo cb ys E R D L G gr w1 (ha.l b) (hb.l b)
 ·intro w1 r hm
  exact PI way w1 r hm
 ·intro h hw hz w1 b
  obtain⟨h1,h2⟩:=C4 h;obtain⟨c1,c2,hl,e1,e2⟩:=gO h1;obtain⟨nx,lx⟩:=aF c1;obtain⟨ny,ly⟩:=aF c2;have ex:Dg.dg 4294967296 (Dg.vl 4294967296 xs)=xs:=Dg.dg_vl _ (by omega) _ sa nx;have ey:Dg.dg 4294967296 (Dg.vl 4294967296 ys)=ys:=Dg.dg_vl _ (by omega) _ sb ny;have hM:0<Dg.vl 4294967296 ys:=by
   refine Nat.pos_of_ne_zero fun c=> ?_
   rw[c] at ey;rw[←ey] at hl;exact absurd hl (by decide)
  have:=Qh R D L G gr qs ao ca bo cb (Dg.vl 4294967296 xs) (Dg.vl 4294967296 ys) E way (T4 way) w1 h2 (by rw[ex];exact ha.l b) (by rw[ey];exact hb.l b) (by rw[ex];omega) (by rw[ey];omega) hM e1 e2 (PO hw) (PK hw)
  rwa [ex,ey] at this
def gI (n c:Int)(ng:Bool)(xs:List Nat)(p:Int):Int:=
 if dK n=0∨c<1∨5<c then 6 else if chk xs≠0 then chk xs else if c=2 then enE n.toNat ng xs p else qX n.toNat c.toNat xs.length ng p
theorem AW {k:Nat}{ng:Bool}{xs:List Nat}{p:Int}(hx:chk xs=0)(hl:xs.length≠0)(hp: ¬(p< -20000∨20000<p))(sa:Dg.Small 4294967296 xs)(hE:enE k ng xs p=0):
  (enN k ng xs p).1=bare ⟨ng,Dg.vl 4294967296 xs,(ai (rdN k):Int)*p⟩∧(Dg.dg 65536 (bare ⟨ng,Dg.vl 4294967296 xs,(ai (rdN k):Int)*p⟩).n).length≤20000∧ -79000≤(bare ⟨ng,Dg.vl 4294967296 xs,(ai (rdN k):Int)*p⟩).e∧(bare ⟨ng,Dg.vl 4294967296 xs,(ai (rdN k):Int)*p⟩).e≤200000:=by
 have h2:(enN k ng xs p).2=0:=by
  refine Decidable.byContradiction fun c=> ?_
  unfold enE at hE;rw[if_neg hp,if_neg hl,if_neg (fun h=>c h.1)] at hE
  omega
 have hr:=wI (show cC (ix xs p (rdN k) (dgN k) (lsI k) (gsI k)) ⟨ng,Dg.vl 4294967296 xs,(ai (rdN k):Int)*p⟩=((enN k ng xs p).1,0) from Prod.ext rfl h2)
 have hd:=hr.2;rw[hr.1] at hd;obtain⟨-,e1,e2⟩:=bL hd;have hb:=AE (t:=⟨ng,Dg.vl 4294967296 xs,(ai (rdN k):Int)*p⟩) (JN hx hl);have hl2:=KN sa (aF hx).2;refine⟨hr.1,Nat.le_trans hb.1 ?_,by omega,by omega⟩
 show(Dg.dg 65536 (Dg.vl 4294967296 xs)).length≤20000
 omega
theorem adn (n wy R D L G:Int)(gr ng:Bool)(w:World)
  (HN:yJ 97 #[yi 3] (yi 5)):
  yC 100 #[ykV n wy 3 R D L G gr,.bool ng] w (iT w 5 false 0 0):=by
 replace HN:Hid _:=HN;have ad:=af w (.cells (ykA n wy 3 R D L G gr) 121);have av:=af (w.alloc (.cells (ykA n wy 3 R D L G gr) 121)) (.cells (yvA 0 false yN 0) 48);have d0:=(ah w (ykL n wy 3 R D L G gr) 121).l av;have v0:=ah (w.alloc (.cells (ykA n wy 3 R D L G gr) 121)) (yvL 0 false yN 0) 48;rw[World.size_alloc] at v0;have b0:=aa ad av;clear ad av
 go_enter func100,ntmps100
 go_upto_block 0 with fail
 generalize(w.alloc (.cells (ykA n wy 3 R D L G gr) 121)).alloc (.cells (yvA 0 false yN 0) 48)=W0 at d0 v0 b0⊢;obtain⟨y0,y1,y2,y3,y4,y5,y6,y7⟩:=d0.cs8
 go_wp2_with fail
 refine(HN.out _).mono ?_;rintro z w1 ⟨rfl,b1⟩;have v1:=v0.l b1;have b01:=aa b0 b1;clear y0 y1 y2 y3 y4 y5 y6 y7 d0 v0 b0 b1;have cR:au ((((w1.setCell ⟨w.heap.size+1,0,none⟩ (yi 5)).setCell ⟨w.heap.size+1,1,none⟩ (.bool false)).setCell ⟨w.heap.size+1,2,none⟩ yN).setCell ⟨w.heap.size+1,3,none⟩ (yi 0)) (w.heap.size+1) 48 (yvL 5 false yN 0):=((((v1.set 0 (yi 5)).set 1 (.bool false)).set 2 yN).set 3 (yi 0));have bu:=(((ag w1 (w.heap.size+1) 0 (yi 5)).trans (ag _ (w.heap.size+1) 1 (.bool false))).trans (ag _ (w.heap.size+1) 2 yN)).trans (ag _ (w.heap.size+1) 3 (yi 0));have bR:=bu.below b01 (by omega);have hl:=run_loadVar_mid (P:=Tryz.prog) _ (w.heap.size+1) 0 48 (yvL 5 false yN 0) _ cR.range underlying48 rfl (by kernel_rfl);have HH:Hid (_∧_):=⟨hl,bR⟩;obtain⟨z0,z1,z2,z3⟩:=v1.cs4;have fz0:=v1.f 0;have fz1:=v1.f 1;have fz2:=v1.f 2;have fz3:=v1.f 3;clear hl bR bu cR;clear v1 b01
 go_wp2
 obtain⟨hl,bR⟩:=HH.out;exact bodyPost_ret (br results100 rfl hl) rfl ⟨_,rfl,aN _ _,bR⟩
theorem abM (n wy R D L G:Int)(gr ng:Bool)(w:World)
  (HO:yJ 146 #[ykV n wy 1 R D L G gr,.bool ng] (.bool true)):
  yC 100 #[ykV n wy 1 R D L G gr,.bool ng] w (iT w 3 ng 0 0):=by
 replace HO:Hid _:=HO;have ad:=af w (.cells (ykA n wy 1 R D L G gr) 121);have av:=af (w.alloc (.cells (ykA n wy 1 R D L G gr) 121)) (.cells (yvA 0 false yN 0) 48);have d0:=(ah w (ykL n wy 1 R D L G gr) 121).l av;have v0:=ah (w.alloc (.cells (ykA n wy 1 R D L G gr) 121)) (yvL 0 false yN 0) 48;rw[World.size_alloc] at v0;have b0:=aa ad av;clear ad av
 go_enter func100,ntmps100
 go_upto_block 0 with fail
 generalize(w.alloc (.cells (ykA n wy 1 R D L G gr) 121)).alloc (.cells (yvA 0 false yN 0) 48)=W0 at d0 v0 b0⊢;obtain⟨y0,y1,y2,y3,y4,y5,y6,y7⟩:=d0.cs8
 go_wp2_with fail
 refine(HO.out _).mono ?_;rintro z w1 ⟨rfl,b1⟩;have v1:=v0.l b1;have b01:=aa b0 b1;clear y0 y1 y2 y3 y4 y5 y6 y7 d0 v0 b0 b1;have cR:au ((((w1.setCell ⟨w.heap.size+1,0,none⟩ (yi 3)).setCell ⟨w.heap.size+1,1,none⟩ (.bool ng)).setCell ⟨w.heap.size+1,2,none⟩ yN).setCell ⟨w.heap.size+1,3,none⟩ (yi 0)) (w.heap.size+1) 48 (yvL 3 ng yN 0):=((((v1.set 0 (yi 3)).set 1 (.bool ng)).set 2 yN).set 3 (yi 0));have bu:=(((ag w1 (w.heap.size+1) 0 (yi 3)).trans (ag _ (w.heap.size+1) 1 (.bool ng))).trans (ag _ (w.heap.size+1) 2 yN)).trans (ag _ (w.heap.size+1) 3 (yi 0));have bR:=bu.below b01 (by omega);have hl:=run_loadVar_mid (P:=Tryz.prog) _ (w.heap.size+1) 0 48 (yvL 3 ng yN 0) _ cR.range underlying48 rfl (by kernel_rfl);have HH:Hid (_∧_):=⟨hl,bR⟩;obtain⟨z0,z1,z2,z3⟩:=v1.cs4;have fz0:=v1.f 0;have fz1:=v1.f 1;have fz2:=v1.f 2;have fz3:=v1.f 3;clear hl bR bu cR;clear v1 b01
 go_wp2
 obtain⟨hl,bR⟩:=HH.out;exact bodyPost_ret (br results100 rfl hl) rfl ⟨_,rfl,aN _ _,bR⟩
theorem abN (n wy R D L G:Int)(gr ng:Bool)(m:Nat)(w:World)
  (HO:yJ 146 #[ykV n wy 1 R D L G gr,.bool ng] (.bool false))
  (HGr: ∀w1,yB w w1→yC 147 #[ykV n wy 1 R D L G gr,.bool ng] w1 (iT w1 2 ng m G)):
  yC 100 #[ykV n wy 1 R D L G gr,.bool ng] w (iT w 2 ng m G):=by
 replace HO:Hid _:=HO;replace HGr:Hid _:=HGr;have ad:=af w (.cells (ykA n wy 1 R D L G gr) 121);have av:=af (w.alloc (.cells (ykA n wy 1 R D L G gr) 121)) (.cells (yvA 0 false yN 0) 48);have d0:=(ah w (ykL n wy 1 R D L G gr) 121).l av;have v0:=ah (w.alloc (.cells (ykA n wy 1 R D L G gr) 121)) (yvL 0 false yN 0) 48;rw[World.size_alloc] at v0;have b0:=aa ad av;clear ad av
 go_enter func100,ntmps100
 go_upto_block 0 with fail
 generalize(w.alloc (.cells (ykA n wy 1 R D L G gr) 121)).alloc (.cells (yvA 0 false yN 0) 48)=W0 at d0 v0 b0⊢;obtain⟨y0,y1,y2,y3,y4,y5,y6,y7⟩:=d0.cs8
 go_wp2_with fail
 refine(HO.out _).mono ?_;rintro z w1 ⟨rfl,b1⟩;have d1:=d0.l b1;have v1:=v0.l b1;have b01:=aa b0 b1;clear y0 y1 y2 y3 y4 y5 y6 y7 d0 v0 b0 b1;obtain⟨y0,y1,y2,y3,y4,y5,y6,y7⟩:=d1.cs8
 go_wp2_with fail
 refine(HGr.out _ b01).mono ?_;rintro z w2 ⟨u,rfl,r2,b2⟩;obtain⟨mo,mc,hu⟩:=r2.shape;subst hu;have v2:=v1.l b2;have b02:=aa b01 b2;clear y0 y1 y2 y3 y4 y5 y6 y7 d1 v1 b01 b2;have cR:au ((((w2.setCell ⟨w.heap.size+1,0,none⟩ (yi 2)).setCell ⟨w.heap.size+1,1,none⟩ (.bool ng)).setCell ⟨w.heap.size+1,2,none⟩ (yT mo m mc)).setCell ⟨w.heap.size+1,3,none⟩ (yi G)) (w.heap.size+1) 48 (yvL 2 ng (yT mo m mc) G):=((((v2.set 0 (yi 2)).set 1 (.bool ng)).set 2 (yT mo m mc)).set 3 (yi G));have bu:=(((ag w2 (w.heap.size+1) 0 (yi 2)).trans (ag _ (w.heap.size+1) 1 (.bool ng))).trans (ag _ (w.heap.size+1) 2 (yT mo m mc))).trans (ag _ (w.heap.size+1) 3 (yi G));have bR:=bu.below b02 (by omega);have rR:=bu.rd r2 (aX r2 v2 (by simp));have hl:=run_loadVar_mid (P:=Tryz.prog) _ (w.heap.size+1) 0 48 (yvL 2 ng (yT mo m mc) G) _ cR.range underlying48 rfl (by kernel_rfl);have HH:Hid (_∧_∧_):=⟨hl,rR,bR⟩;obtain⟨z0,z1,z2,z3⟩:=v2.cs4;have fz0:=v2.f 0;have fz1:=v2.f 1;have fz2:=v2.f 2;have fz3:=v2.f 3;clear hl bR bu cR rR;clear v2 b02 r2
 go_wp2
 obtain⟨hl,rR,bR⟩:=HH.out;exact bodyPost_ret (br results100 rfl hl) rfl ⟨_,rfl,rR,bR⟩
theorem ado (n wy R D L G:Int)(gr ng:Bool)(m:Nat)(w:World)
  (HGr: ∀w1,yB w w1→yC 147 #[ykV n wy 2 R D L G gr,.bool ng] w1 (iT w1 2 ng m G)):
  yC 100 #[ykV n wy 2 R D L G gr,.bool ng] w (iT w 2 ng m G):=by
 replace HGr:Hid _:=HGr;have ad:=af w (.cells (ykA n wy 2 R D L G gr) 121);have av:=af (w.alloc (.cells (ykA n wy 2 R D L G gr) 121)) (.cells (yvA 0 false yN 0) 48);have d0:=(ah w (ykL n wy 2 R D L G gr) 121).l av;have v0:=ah (w.alloc (.cells (ykA n wy 2 R D L G gr) 121)) (yvL 0 false yN 0) 48;rw[World.size_alloc] at v0;have b0:=aa ad av;clear ad av
 go_enter func100,ntmps100
 go_upto_block 0 with fail
 generalize(w.alloc (.cells (ykA n wy 2 R D L G gr) 121)).alloc (.cells (yvA 0 false yN 0) 48)=W0 at d0 v0 b0⊢;obtain⟨y0,y1,y2,y3,y4,y5,y6,y7⟩:=d0.cs8
 go_wp2_with fail
 refine(HGr.out _ b0).mono ?_;rintro z w2 ⟨u,rfl,r2,b2⟩;obtain⟨mo,mc,hu⟩:=r2.shape;subst hu;have v2:=v0.l b2;have b02:=aa b0 b2;clear y0 y1 y2 y3 y4 y5 y6 y7 d0 v0 b0 b2;have cR:au ((((w2.setCell ⟨w.heap.size+1,0,none⟩ (yi 2)).setCell ⟨w.heap.size+1,1,none⟩ (.bool ng)).setCell ⟨w.heap.size+1,2,none⟩ (yT mo m mc)).setCell ⟨w.heap.size+1,3,none⟩ (yi G)) (w.heap.size+1) 48 (yvL 2 ng (yT mo m mc) G):=((((v2.set 0 (yi 2)).set 1 (.bool ng)).set 2 (yT mo m mc)).set 3 (yi G));have bu:=(((ag w2 (w.heap.size+1) 0 (yi 2)).trans (ag _ (w.heap.size+1) 1 (.bool ng))).trans (ag _ (w.heap.size+1) 2 (yT mo m mc))).trans (ag _ (w.heap.size+1) 3 (yi G));have bR:=bu.below b02 (by omega);have rR:=bu.rd r2 (aX r2 v2 (by simp));have hl:=run_loadVar_mid (P:=Tryz.prog) _ (w.heap.size+1) 0 48 (yvL 2 ng (yT mo m mc) G) _ cR.range underlying48 rfl (by kernel_rfl);have HH:Hid (_∧_∧_):=⟨hl,rR,bR⟩;obtain⟨z0,z1,z2,z3⟩:=v2.cs4;have fz0:=v2.f 0;have fz1:=v2.f 1;have fz2:=v2.f 2;have fz3:=v2.f 3;clear hl bR bu cR rR;clear v2 b02 r2
 go_wp2
 obtain⟨hl,rR,bR⟩:=HH.out;exact bodyPost_ret (br results100 rfl hl) rfl ⟨_,rfl,rR,bR⟩
theorem Lr (n wy fam R D L G pw:Int)(gr ng ex un:Bool)(ao:Option Addr)(la ca:Nat)(c q:Int)(g:Bool)(m:Nat)(w:World)
  (HO: ∀w1,yB w w1→yC 100 #[ykV n wy fam R D L G gr,.bool ng] w1 (iT w1 c g m q)):
  yC 60 #[ykV n wy fam R D L G gr,ypV ng (.slice ao la ca) pw ex true un] w (B6 w c g m q 5):=by
 replace HO:Hid _:=HO;have a1:=af w (.cells (ykA n wy fam R D L G gr) 121);have a2:=af (w.alloc (.cells (ykA n wy fam R D L G gr) 121)) (.cells (ypA ng (.slice ao la ca) pw ex true un) 84);have a3:=af ((w.alloc (.cells (ykA n wy fam R D L G gr) 121)).alloc (.cells (ypA ng (.slice ao la ca) pw ex true un) 84)) (.cells (yvA 0 false yN 0) 48);have d0:=((ah w (ykL n wy fam R D L G gr) 121).l a2).l a3;have p0:=(ah (w.alloc (.cells (ykA n wy fam R D L G gr) 121)) (ypL ng (.slice ao la ca) pw ex true un) 84).l a3;have v0:=ah ((w.alloc (.cells (ykA n wy fam R D L G gr) 121)).alloc (.cells (ypA ng (.slice ao la ca) pw ex true un) 84)) (yvL 0 false yN 0) 48;rw[World.size_alloc] at p0;rw[World.size_alloc,World.size_alloc] at v0;have b0:=aa (aa a1 a2) a3;clear a1 a2 a3
 go_enter func60,ntmps60
 go_upto_block 0 with fail
 generalize((w.alloc (.cells (ykA n wy fam R D L G gr) 121)).alloc (.cells (ypA ng (.slice ao la ca) pw ex true un) 84)).alloc (.cells (yvA 0 false yN 0) 48)=W0 at d0 p0 v0 b0⊢;obtain⟨y0,y1,y2,y3,y4,y5,y6,y7⟩:=d0.cs8;obtain⟨x0,x1,x2,x3,x4,x5⟩:=p0.cs6
 go_wp2_with fail
 refine(HO.out _ b0).mono ?_;rintro z w1 ⟨u,rfl,r1,b1⟩;obtain⟨mo,mc,hu⟩:=r1.shape;subst hu;have v1:=v0.l b1;have b01:=aa b0 b1;clear y0 y1 y2 y3 y4 y5 y6 y7 x0 x1 x2 x3 x4 x5 d0 p0 v0 b0 b1 HO;have cR:au ((((w1.setCell ⟨w.heap.size+1+1,0,none⟩ (yi c)).setCell ⟨w.heap.size+1+1,1,none⟩ (.bool g)).setCell ⟨w.heap.size+1+1,2,none⟩ (yT mo m mc)).setCell ⟨w.heap.size+1+1,3,none⟩ (yi q)) (w.heap.size+1+1) 48 (yvL c g (yT mo m mc) q):=((((v1.set 0 (yi c)).set 1 (.bool g)).set 2 (yT mo m mc)).set 3 (yi q));have bu:=(((ag w1 (w.heap.size+1+1) 0 (yi c)).trans (ag _ (w.heap.size+1+1) 1 (.bool g))).trans (ag _ (w.heap.size+1+1) 2 (yT mo m mc))).trans (ag _ (w.heap.size+1+1) 3 (yi q));have bR:=bu.below b01 (by omega);have rR:=bu.rd r1 (aX r1 v1 (by simp));have hl:=run_loadVar_mid (P:=Tryz.prog) _ (w.heap.size+1+1) 0 48 (yvL c g (yT mo m mc) q) _ cR.range underlying48 rfl (by kernel_rfl);have HH:Hid (_∧_∧_):=⟨hl,rR,bR⟩;obtain⟨z0,z1,z2,z3⟩:=v1.cs4;have fz0:=v1.f 0;have fz1:=v1.f 1;have fz2:=v1.f 2;have fz3:=v1.f 3;clear hl bR bu cR rR;clear v1 b01 r1
 go_wp2
 obtain⟨hl,rR,bR⟩:=HH.out;exact bodyPost_ret (aj results60 rfl rfl hl) rfl ⟨_,rfl,rR,bR⟩
theorem OU (n wy fam R D L G pw:Int)(gr ng ex:Bool)(ao:Option Addr)(la ca:Nat)(w:World)(hlt:pw<L):
  yC 60 #[ykV n wy fam R D L G gr,ypV ng (.slice ao la ca) pw ex false true] w (B6 w 1 false 0 0 3):=by
 have a1:=af w (.cells (ykA n wy fam R D L G gr) 121);have a2:=af (w.alloc (.cells (ykA n wy fam R D L G gr) 121)) (.cells (ypA ng (.slice ao la ca) pw ex false true) 84);have a3:=af ((w.alloc (.cells (ykA n wy fam R D L G gr) 121)).alloc (.cells (ypA ng (.slice ao la ca) pw ex false true) 84)) (.cells (yvA 0 false yN 0) 48);have d0:=((ah w (ykL n wy fam R D L G gr) 121).l a2).l a3;have p0:=(ah (w.alloc (.cells (ykA n wy fam R D L G gr) 121)) (ypL ng (.slice ao la ca) pw ex false true) 84).l a3;have v0:=ah ((w.alloc (.cells (ykA n wy fam R D L G gr) 121)).alloc (.cells (ypA ng (.slice ao la ca) pw ex false true) 84)) (yvL 0 false yN 0) 48;rw[World.size_alloc] at p0;rw[World.size_alloc,World.size_alloc] at v0;have b0:=aa (aa a1 a2) a3;clear a1 a2 a3
 go_enter func60,ntmps60
 go_upto_block 0 with fail
 generalize((w.alloc (.cells (ykA n wy fam R D L G gr) 121)).alloc (.cells (ypA ng (.slice ao la ca) pw ex false true) 84)).alloc (.cells (yvA 0 false yN 0) 48)=W0 at d0 p0 v0 b0⊢;obtain⟨x0,x1,x2,x3,x4,x5⟩:=p0.cs6;have y5:=d0.c 5 rfl;have cR:au ((((W0.setCell ⟨w.heap.size+1+1,0,none⟩ (yi 1)).setCell ⟨w.heap.size+1+1,1,none⟩ (.bool false)).setCell ⟨w.heap.size+1+1,2,none⟩ yN).setCell ⟨w.heap.size+1+1,3,none⟩ (yi 0)) (w.heap.size+1+1) 48 (yvL 1 false yN 0):=((((v0.set 0 (yi 1)).set 1 (.bool false)).set 2 yN).set 3 (yi 0));have bu:=(((ag W0 (w.heap.size+1+1) 0 (yi 1)).trans (ag _ (w.heap.size+1+1) 1 (.bool false))).trans (ag _ (w.heap.size+1+1) 2 yN)).trans (ag _ (w.heap.size+1+1) 3 (yi 0));have bR:=bu.below b0 (by omega);have hl:=run_loadVar_mid (P:=Tryz.prog) _ (w.heap.size+1+1) 0 48 (yvL 1 false yN 0) _ cR.range underlying48 rfl (by kernel_rfl);have HH:Hid (_∧_):=⟨hl,bR⟩;obtain⟨z0,z1,z2,z3⟩:=v0.cs4;have fz0:=v0.f 0;have fz1:=v0.f 1;have fz2:=v0.f 2;have fz3:=v0.f 3;clear hl bR bu cR;clear v0 b0 d0 p0
 go_wp2
 obtain⟨hl,bR⟩:=HH.out;exact bodyPost_ret (aj results60 rfl rfl hl) rfl ⟨_,rfl,aN _ _,bR⟩
theorem zl {n:Int}{p:ByteArray}(h:dF n p=0):1≤bM n p∧bM n p≤5:=by
 unfold bM;rw[if_pos h];have:=DV n.toNat (aZ n.toNat p) (aR n.toNat p) (aU n.toNat p);omega
theorem Jo {k:Nat}(hk:1≤k∧k≤8){g:Bool}{xs:List Nat}{p:Int}(sa:Dg.Small 4294967296 xs)(hc:chk xs=0)(h:enE k g xs p=0):
  ¬(p< -20000∨20000<p)∧dA (rdN k) (dgN k) (lsI k) (gsI k) (decide (k≤3)) (bare ⟨g,Dg.vl 4294967296 xs,(ai (rdN k):Int)*p⟩).n (bare ⟨g,Dg.vl 4294967296 xs,(ai (rdN k):Int)*p⟩).e=true∧aS (Dg.dg 4294967296 (bare ⟨g,Dg.vl 4294967296 xs,(ai (rdN k):Int)*p⟩).n) (bare ⟨g,Dg.vl 4294967296 xs,(ai (rdN k):Int)*p⟩).e=0:=by
 obtain⟨-,-,-,-,-,-,lg,-,-,-,-,hg⟩:=eR hk;obtain⟨g1,g2⟩:=Gm hk;have hp: ¬(p< -20000∨20000<p):=fun c=>by
  unfold enE at h;rw[if_pos c] at h;exact absurd h (by decide)
 have hx:xs.length≠0:=fun c=>by
  unfold enE at h;rw[if_neg hp,if_pos c] at h;exact absurd h (by decide)
 have hn:=mY hk (ng:=g) hc hx hp;rw[h] at hn;have hi:inR (rdN k) (dgN k) (lsI k) (gsI k) (decide (k≤3)) (bare ⟨g,Dg.vl 4294967296 xs,(ai (rdN k):Int)*p⟩).n (bare ⟨g,Dg.vl 4294967296 xs,(ai (rdN k):Int)*p⟩).e=true:=by
  by_cases c:inR (rdN k) (dgN k) (lsI k) (gsI k) (decide (k≤3)) (bare ⟨g,Dg.vl 4294967296 xs,(ai (rdN k):Int)*p⟩).n (bare ⟨g,Dg.vl 4294967296 xs,(ai (rdN k):Int)*p⟩).e=true
  ·exact c
  ·rw[if_neg c] at hn
   exact absurd hn (by decide)
 have hvn:Dg.vl 4294967296 xs≠0:=fun h=>by
  obtain⟨n1,-⟩:=aF hc;exact Dg.vl_ne_zero 4294967296 (by omega) xs (by intro e;subst e;simp at hx) n1 h
 have hb:=(gN (t:=⟨g,Dg.vl 4294967296 xs,(ai (rdN k):Int)*p⟩) hvn).1;refine⟨hp, ?_, ?_⟩
 ·rw[nN _ _ lg,←jK _ _ lg]
  exact hi
 ·unfold inR at hi
  rcases of_decide_eq_true hi with c| ⟨c1,c2,-,-⟩
  ·exact absurd c hb
  refine nt ?_ (by omega) (by omega);refine Nat.le_trans (jq (L:=1200) (wZ (Nat.le_refl _)) ?_) (Nat.le_refl _);omega
theorem scaled_any (xg:Bool)(xn:Nat)(xo:Option Addr)(xc:Nat)(e n:Int)(w:World)(rx:Rd w .u32 (yT xo xn xc) (Dg.dg 4294967296 xn))(hx:xn<2^64)(e1: -16500≤e)(e2:e≤16500)(n1: -5100≤n)(n2:n≤5100):
  yC 90 #[ydV xg (yT xo xn xc) e,yi n] w (NbR w (scA xn e n/scB e n) (decide (0< (Dg.dg 4294967296 (scA xn e n % scB e n)).length))):=by
 obtain⟨a,ha⟩: ∃a,a=64:=⟨_,rfl⟩;obtain⟨c,hc⟩: ∃c,c=36964:=⟨_,rfl⟩;rw[←ha] at hx;obtain⟨l1,l2,l3⟩:=sc_in ha hc hx e2 n2;have hxl:(Dg.dg 4294967296 xn).length≤2:=jq hx (by omega);have htw:IntKind.i64.wrap (e+n)=e+n:=IntWalk.i64_in _ ⟨by omega,by omega⟩;have hmt:IntKind.i64.wrap (-(e+n))= -(e+n):=IntWalk.i64_in _ ⟨by omega,by omega⟩;have hmn:IntKind.i64.wrap (-n)= -n:=IntWalk.i64_in _ ⟨by omega,by omega⟩;have SH: ∀(m:Nat) (t:Int) o k w1,(Dg.dg 4294967296 m).length≤900000→0≤t→t≤900000→Rd w1 .u32 (yT o m k) (Dg.dg 4294967296 m)→yC 91 #[yT o m k,yi t] w1 (NmR w1 (m*2^t.toNat)):=fun m t o k w1 hl t0 t1 hr=>by
  have:=eO _ _ t w1 hr (Dg.small_dg _ _ (by omega)) (by omega) (by omega) (by omega);rw[Dg.vl_dg _ _ (by omega),CE m t t0] at this;exact this.mono fun _ _ h=>num_nmR h
 have OV: ∀(m d:Nat) o k o2 k2 w1,(Dg.dg 4294967296 m).length≤900000→d≠0→Rd w1 .u32 (yT o m k) (Dg.dg 4294967296 m)→Rd w1 .u32 (yT o2 d k2) (Dg.dg 4294967296 d)→yC 92 #[yT o m k,yT o2 d k2] w1 (TwR w1 (m/d) (m % d)):=fun m d o k o2 k2 w1 hl hd h1 h2=>by
  have:=A9 _ _ _ _ w1 h1 h2 (Dg.small_dg _ _ (by omega)) (Dg.small_dg _ _ (by omega)) (Dg.norm_dg _ _ (by omega)) (Dg.norm_dg _ _ (by omega)) (fun c=>hd ((Dg.dg_nil_iff 4294967296 _ (by omega)).1 c)) hl
  rw[Dg.vl_dg _ _ (by omega),Dg.vl_dg _ _ (by omega)] at this;exact this.mono fun _ _ h=>two_tw h
 have hone:Dg.dg 4294967296 1=[1]:=by decide
 have ln: ∀m,m<2^c→(Dg.dg 4294967296 m).length≤900000:=fun m h=>Nat.le_trans (jq (L:=1156) h (by omega)) (by omega)
 have p5: ∀k:Nat,5^k≠0:=fun k=>Nat.ne_of_gt (Nat.pow_pos (by omega))
 have p2: ∀k:Nat,2^k≠0:=fun k=>Nat.ne_of_gt (Nat.pow_pos (by omega))
 obtain⟨d,hd⟩: ∃d,d=15301:=⟨_,rfl⟩
 by_cases hn:0<n
 ·have HF:=fun w1=>fives_int n w1 (by omega) (by omega)
  have h5l:(Dg.dg 4294967296 (5^n.toNat)).length≤479:=jq (k:=d) (Nat.lt_of_le_of_lt (pow5_two _) (Nat.pow_lt_pow_right (by omega) (by omega))) (by omega);have HT: ∀xo xc fo fc w1,Rd w1 .u32 (yT xo xn xc) (Dg.dg 4294967296 xn)→Rd w1 .u32 (.slice fo (Dg.dg 4294967296 (5^n.toNat)).length fc) (Dg.dg 4294967296 (5^n.toNat))→yC 57 #[yT xo xn xc,.slice fo (Dg.dg 4294967296 (5^n.toNat)).length fc] w1 (NmR w1 (xn*5^n.toNat)):=fun xo xc fo fc w1 h1 h2=>by
   have:=qC _ _ _ _ w1 h1 h2 (Dg.small_dg _ _ (by omega)) (Dg.small_dg _ _ (by omega)) (by omega) (by omega);rw[Dg.vl_dg _ _ (by omega),Dg.vl_dg _ _ (by omega)] at this;exact this.mono fun _ _ h=>num_nmR h
  have hB5:(-n).toNat=0:=by omega
  by_cases ht:0<e+n
  ·have hB:scB e n=1:=by
    unfold scB;rw[hB5,show(-(e+n)).toNat=0 by omega]
   rw[hB];exact tscaled_uu xg xn xo xc e n _ _ _ (scA xn e n) _ _ w rx htw hn ht HF HT (fun mo mc w1 h=>SH _ _ mo mc w1 (ln _ l2) (by omega) (by omega) h) (fun no nc q w1 h hq=>by
    have:=OV _ 1 no nc (some ⟨q,0,none⟩) 1 w1 (ln _ l1) (by omega) h (by rw[hone];exact xD (hq.c 0 rfl));exact this)
  ·have hA:scA xn e n=xn*5^n.toNat:=by
    unfold scA;rw[show(e+n).toNat=0 by omega,Nat.pow_zero,Nat.mul_one]
   have hB:scB e n=2^ (-(e+n)).toNat:=by
    unfold scB;rw[hB5,Nat.pow_zero,Nat.one_mul]
   rw[hA,hB];exact tscaled_ud xg xn xo xc e n _ _ _ _ (2^ (-(e+n)).toNat) _ _ w rx htw hn ht hmt HF HT (fun q w1 hq=>by
    have:=SH 1 (-(e+n)) (some ⟨q,0,none⟩) 1 w1 (by rw[hone];simp) (by omega) (by omega) (by rw[hone];exact xD (hq.c 0 rfl));rw[Nat.one_mul] at this;exact this) (fun mo mc go gc w1 h1 h2=>OV _ _ mo mc go gc w1 (ln _ l2) (p2 _) h1 h2)
 ·have HF:=fun w1=>fives_int (-n) w1 (by omega) (by omega)
  have h5l:(Dg.dg 4294967296 (5^ (-n).toNat)).length≤479:=jq (k:=d) (Nat.lt_of_le_of_lt (pow5_two _) (Nat.pow_lt_pow_right (by omega) (by omega))) (by omega);have hA5:n.toNat=0:=by omega
  have hA:scA xn e n=xn*2^ (e+n).toNat:=by
   unfold scA;rw[hA5,Nat.pow_zero,Nat.mul_one]
  by_cases ht:0<e+n
  ·have hB:scB e n=5^ (-n).toNat:=by
    unfold scB;rw[show(-(e+n)).toNat=0 by omega,Nat.pow_zero,Nat.mul_one]
   rw[hA,hB];exact tscaled_du xg xn xo xc e n _ _ _ (xn*2^ (e+n).toNat) _ _ w rx htw hn ht hmn HF (fun mo mc w1 h=>SH _ _ mo mc w1 (by omega) (by omega) (by omega) h) (fun no nc fo fc w1 h1 h2=>OV _ _ no nc fo fc w1 (ln _ l3) (p5 _) h1 h2)
  ·have hA2:scA xn e n=xn:=by
    rw[hA,show(e+n).toNat=0 by omega,Nat.pow_zero,Nat.mul_one]
   have hB:scB e n=5^ (-n).toNat*2^ (-(e+n)).toNat:=rfl;rw[hA2];exact tscaled_dd xg xn xo xc e n _ _ _ _ (scB e n) _ _ w rx htw hn ht hmn hmt HF (fun fo fc w1 h=>SH _ _ fo fc w1 (by omega) (by omega) (by omega) h) (fun mo mc go gc w1 h1 h2=>OV _ _ mo mc go gc w1 (by omega) (Nat.mul_ne_zero (p5 _) (p2 _)) h1 h2)
theorem decimalOf_any (x:ak)(xo:Option Addr)(xc:Nat)(w:World)(rx:Rd w .u32 (yT xo x.n xc) (Dg.dg 4294967296 x.n))(hx:x.n<2^64)(e1: -16500≤x.e)(e2:x.e≤16500)(h0:x.n≠0):
  yC 48 #[yDV x xo xc] w (DcR w x.s (dcH x) (dcC x:Int) (dcP x)):=by
 obtain⟨⟨g1,g2⟩,⟨c,hc,hW⟩,hC⟩:=dc_in hx e1 e2 h0;have hb:=bF x.n 64 hx;have hb1:=Gq h0;have hxl:(Dg.dg 4294967296 x.n).length≤2:=jq hx (by omega);have hWl:(Dg.dg 4294967296 (dcW x)).length≤1156:=jq hW (by omega);have HB: ∀xo xc w1,Rd w1 .u32 (yT xo x.n xc) (Dg.dg 4294967296 x.n)→yC 89 #[yT xo x.n xc] w1 (yR w1 (yi (bitLen x.n:Nat))):=fun xo xc w1 h=>by
  refine(kE _ _ w1 h (Dg.small_dg _ _ (by omega)) (Dg.norm_dg _ _ (by omega)) (by omega)).mono fun z w' hz=> ?_
  obtain⟨z1,z2⟩:=hz;subst z2;rw[Dg.vl_dg _ _ (by omega)] at z1;exact⟨z1,Below.refl _ _⟩
 have HP:=fun w1=>pbelow_any ((bitLen x.n:Int)-1+x.e) w1 (by omega) (by omega)
 have HC: ∀xo xc w1,yB w w1→Rd w1 .u32 (yT xo x.n xc) (Dg.dg 4294967296 x.n)→yC 90 #[yDV x xo xc,yi (60-dcG x)] w1 (NbR w1 (dcW x) (dcL x)):=fun xo xc w1 _ h=>scaled_any x.s x.n xo xc x.e (60-dcG x) w1 h hx e1 e2 (by omega) (by omega)
 have HD: ∀vo vc w1,Rd w1 .u32 (.slice vo (Dg.dg 4294967296 (dcW x)).length vc) (Dg.dg 4294967296 (dcW x))→yC 35 #[.slice vo (Dg.dg 4294967296 (dcW x)).length vc] w1 (yR w1 (.string (oW (dcW x)))):=fun vo vc w1 h=>by
  have:=MR _ _ w1 h (Dg.small_dg _ _ (by omega)) (Dg.norm_dg _ _ (by omega)) (by omega);rw[Dg.vl_dg _ _ (by omega)] at this;exact this
 have HS: ∀vo vc w1,Rd w1 .u32 (.slice vo (Dg.dg 4294967296 (dcW x)).length vc) (Dg.dg 4294967296 (dcW x))→yC 91 #[.slice vo (Dg.dg 4294967296 (dcW x)).length vc,yi 1] w1 (NmR w1 (dcW x*2)):=fun vo vc w1 h=>by
  have:=eO _ _ 1 w1 h (Dg.small_dg _ _ (by omega)) (by omega) (by omega) (by omega);rw[Dg.vl_dg _ _ (by omega),CE _ 1 (by omega)] at this;exact this.mono fun _ _ h=>num_nmR h
 have w1':IntKind.i64.wrap ((bitLen x.n:Int)-1)=(bitLen x.n:Int)-1:=IntWalk.i64_in _ ⟨by omega,by omega⟩;have w2':IntKind.i64.wrap ((bitLen x.n:Int)-1+x.e)=(bitLen x.n:Int)-1+x.e:=IntWalk.i64_in _ ⟨by omega,by omega⟩;have w3':IntKind.i64.wrap (60-dcG x)=60-dcG x:=IntWalk.i64_in _ ⟨by omega,by omega⟩;have w4':IntKind.i64.wrap (dcG x+((oW (dcW x)).size:Int))=dcG x+(dcC x:Int):=IntWalk.i64_in _ ⟨by show _≤dcG x+(dcC x:Int);omega,by show dcG x+(dcC x:Int)≤_;omega⟩
 have w5':IntKind.i64.wrap (dcG x+(dcC x:Int)-1)=dcG x+(dcC x:Int)-1:=IntWalk.i64_in _ ⟨by omega,by omega⟩;have w6':IntKind.i64.wrap (dcG x+(dcC x:Int)-1-60)=dcP x:=IntWalk.i64_in _ ⟨by omega,by omega⟩;unfold dcH
 cases hL:dcL x
 ·rw[if_neg (by decide)]
  rw[hL] at HC;exact tdecOf_f x.s x.n (dcW x) _ xo xc x.e _ _ _ _ _ _ _ _ (oW (dcW x)) w rx w1' w2' w3' w4' w5' w6' HB HP HC HD HS
 ·rw[if_pos rfl]
  rw[hL] at HC;have hl2:(Dg.dg 4294967296 (dcW x*2)).length≤1156+1:=by
   obtain⟨c2,hc2⟩: ∃c2,c2=c+1:=⟨_,rfl⟩;refine jq (k:=c2) ?_ (by omega);rw[hc2,Nat.pow_succ];exact Nat.mul_lt_mul_of_pos_right hW (by omega)
  refine tdecOf_t x.s x.n (dcW x) _ (dcW x*2+1) xo xc x.e _ _ _ _ _ _ _ _ (oW (dcW x)) w rx w1' w2' w3' w4' w5' w6' HB HP HC HD HS (fun ho hc q w1 h hq=> ?_)
  have:=rj _ _ (Dg.dg 4294967296 (dcW x*2)) [1] w1 h (xD (hq.c 0 rfl)) (Dg.small_dg _ _ (by omega)) (Dg.small_cons.2 ⟨by omega,Dg.small_nil _ (by omega)⟩) (by omega) (by simp);rw[Dg.vl_dg _ _ (by omega),show Dg.vl 4294967296 [1]=1 from rfl] at this
  exact this.mono fun _ _ h=>num_nmR h
theorem tprint_any (g:Bool)(H C k:Nat)(P:Int)(ho:Option Addr)(hc:Nat)(w:World)(rh:Rd w .u32 (yT ho H hc) (Dg.dg 4294967296 H))(hT:TxW w)(hH:H<2*10^C)(hC:C≤37000)(hk1:1≤k)(hk2:k≤60)(hkC:k≤C)(p1: -100000≤P)(p2:P≤100000):
  yC 50 #[.agg #[.bool g,yT ho H hc,yi C,yi P],yi k] w (yR w (.string (prR g H C P k))):=by
 obtain⟨a,ha⟩: ∃a,a=148002:=⟨_,rfl⟩;have hHa:H<2^a:=by
  refine Nat.lt_of_lt_of_le hH (Nat.le_trans (Nat.mul_le_mul_left 2 (pow10_two C)) ?_);rw[←Nat.pow_succ'];exact Nat.pow_le_pow_right (by omega) (by omega)
 have hPa:10^ (C-k)<2^a:=Nat.lt_of_le_of_lt (pow10_two _) (Nat.pow_lt_pow_right (by omega) (by omega));have hUa:prU C k<2^a:=by
  unfold prU;refine Nat.lt_of_le_of_lt (Nat.mul_le_mul_right 2 (pow10_two _)) ?_;rw[←Nat.pow_succ];exact Nat.pow_lt_pow_right (by omega) (by omega)
 have hU0:prU C k≠0:=Nat.ne_of_gt (Nat.mul_pos (Nat.pow_pos (by omega)) (by omega));have ln: ∀m,m<2^a→(Dg.dg 4294967296 m).length≤900000:=fun m h=>Nat.le_trans (jq (L:=4626) h (by omega)) (by omega)
 have hra:H % prU C k<2^a:=Nat.lt_trans (Nat.mod_lt _ (Nat.pos_of_ne_zero hU0)) hUa;have hfa:H/prU C k<2^a:=Nat.lt_of_le_of_lt (Nat.div_le_self _ _) hHa;have hQ:=prQ_le hH hkC;have hQ2:prQ H C k<10^ (k+1):=Nat.lt_of_le_of_lt hQ (Nat.pow_lt_pow_right (by omega) (by omega));have hTs:=decS_le hQ2 (by omega);have hTp:=decS_one (prQ H C k);have hQl:(Dg.dg 4294967296 (prQ H C k)).length≤100:=by
  obtain⟨b,hb⟩: ∃b,b=244:=⟨_,rfl⟩;exact jq (k:=b+1) (Nat.lt_of_lt_of_le hQ2 (Nat.le_trans (pow10_two _) (Nat.pow_le_pow_right (by omega) (by omega)))) (by omega)
 have HP: ∀q w1,au w1 q 54 [.int .u32 10]→yC 81 #[.slice (some ⟨q,0,none⟩) 1 1,yi ((C-k:Nat):Int)] w1 (NmR w1 (10^ (C-k))):=fun q w1 hq=>by
  have hr:Rd w1 .u32 (.slice (some ⟨q,0,none⟩) 1 1) (Dg.dg 4294967296 10):=by
   rw[show Dg.dg 4294967296 10=[10] by decide]
   exact⟨_,_,rfl,by simp,by unfold maxLen;simp,fun _=>⟨_,0,rfl,fun i hi=>by
    obtain rfl:i=0:=by simpa using hi
    exact hq.c 0 rfl⟩⟩
  exact(Iq _ 10 (C-k) 1 w1 hr (by decide) (by omega) (by omega) (by omega)).mono fun _ _ h=>num_nmR h
 have HC: ∀so sc uo uc w1,Rd w1 .u32 (.slice so (Dg.dg 4294967296 (H % prU C k*2)).length sc) (Dg.dg 4294967296 (H % prU C k*2))→Rd w1 .u32 (.slice uo (Dg.dg 4294967296 (prU C k)).length uc) (Dg.dg 4294967296 (prU C k))→yC 93 #[.slice so (Dg.dg 4294967296 (H % prU C k*2)).length sc,.slice uo (Dg.dg 4294967296 (prU C k)).length uc] w1 (yR w1 (yi (dm (H % prU C k*2:Nat) (prU C k:Nat)))):=fun so sc uo uc w1 h1 h2=>by
  have:=jF _ _ _ _ w1 h1 h2 (Dg.small_dg _ _ (by omega)) (Dg.small_dg _ _ (by omega)) (Dg.norm_dg _ _ (by omega)) (Dg.norm_dg _ _ (by omega));rw[Dg.vl_dg _ _ (by omega),Dg.vl_dg _ _ (by omega)] at this;exact this
 have HX: ∀fo fc w1,Rd w1 .u32 (.slice fo (Dg.dg 4294967296 (H/prU C k)).length fc) (Dg.dg 4294967296 (H/prU C k))→yC 94 #[.slice fo (Dg.dg 4294967296 (H/prU C k)).length fc] w1 (yR w1 (.bool (decide (H/prU C k % 2=1)))):=fun fo fc w1 h=>by
  refine(aaI _ _ w1 h).mono fun z w' hz=> ?_
  obtain⟨z1,z2⟩:=hz;subst z2;exact⟨z1,Below.refl _ _⟩
 have HA: ∀fo fc q w1,Rd w1 .u32 (.slice fo (Dg.dg 4294967296 (H/prU C k)).length fc) (Dg.dg 4294967296 (H/prU C k))→au w1 q 54 [.int .u32 1]→yC 82 #[.slice fo (Dg.dg 4294967296 (H/prU C k)).length fc,.slice (some ⟨q,0,none⟩) 1 1] w1 (NmR w1 (H/prU C k+1)):=fun fo fc q w1 h hq=>by
  have:=rj _ _ (Dg.dg 4294967296 (H/prU C k)) [1] w1 h (xD (hq.c 0 rfl)) (Dg.small_dg _ _ (by omega)) (Dg.small_cons.2 ⟨by omega,Dg.small_nil _ (by omega)⟩) (by have:=ln _ hfa;omega) (by simp);rw[Dg.vl_dg _ _ (by omega),show Dg.vl 4294967296 [1]=1 from rfl] at this
  exact this.mono fun _ _ h=>num_nmR h
 have HD: ∀go gc w1,Rd w1 .u32 (.slice go (Dg.dg 4294967296 (prQ H C k)).length gc) (Dg.dg 4294967296 (prQ H C k))→yC 35 #[.slice go (Dg.dg 4294967296 (prQ H C k)).length gc] w1 (yR w1 (.string (oW (prQ H C k)))):=fun go gc w1 h=>by
  have:=MR _ _ w1 h (Dg.small_dg _ _ (by omega)) (Dg.norm_dg _ _ (by omega)) (by omega);rw[Dg.vl_dg _ _ (by omega)] at this;exact this
 have hcase:(0<dm (H % prU C k*2:Nat) (prU C k:Nat)∧H/prU C k+1=prQ H C k)∨(dm (H % prU C k*2:Nat) (prU C k:Nat)=0∧decide (H/prU C k % 2=1)=true∧H/prU C k+1=prQ H C k)∨(dm (H % prU C k*2:Nat) (prU C k:Nat)=0∧decide (H/prU C k % 2=1)=false∧H/prU C k=prQ H C k)∨(dm (H % prU C k*2:Nat) (prU C k:Nat)<0∧H/prU C k=prQ H C k):=by
  unfold dm prQ
  rcases Nat.lt_trichotomy (H % prU C k*2) (prU C k) with h|h|h
  ·refine .inr (.inr (.inr ⟨by rw[if_pos (by omega)];decide,by rw[if_neg (by omega)]⟩))
  ·have e:(if((H % prU C k*2:Nat):Int)< ((prU C k:Nat):Int) then(-1:Int) else if((prU C k:Nat):Int)< ((H % prU C k*2:Nat):Int) then 1 else 0)=0:=by rw[if_neg (by omega),if_neg (by omega)]
   by_cases ho:H/prU C k % 2=1
   ·exact .inr (.inl ⟨e,decide_eq_true ho,by rw[if_pos (.inr ⟨h,ho⟩)]⟩)
   ·exact .inr (.inr (.inl ⟨e,decide_eq_false ho,by rw[if_neg (by omega)]⟩))
  ·exact .inl ⟨by rw[if_neg (by omega),if_pos (by omega)];decide,by rw[if_pos (.inl h)]⟩
 have HI:=fun(p:Int) (q1: -200000≤p) (q2:p≤200000) w1 (b:yB w w1)=>itoa_any p w1 (by omega) (by omega) (hT.l b)
 have hil:=fun(p:Int) (q1: -200000≤p) (q2:p≤200000)=>Lib.itoa_length_le p (by omega) (by omega)
 have hpw:IntKind.i64.wrap (P+1)=P+1:=IntWalk.i64_in _ ⟨by omega,by omega⟩;have hkk:IntKind.i64.wrap ((C:Int)-(k:Int))=((C-k:Nat):Int):=by rw[IntWalk.i64_in _ ⟨by omega,by omega⟩];omega
 exact tprint_W g _ H (10^ (C-k)) (prU C k) (H/prU C k) (H % prU C k) (H % prU C k*2) (H/prU C k+1) (prQ H C k) k ho hc C P _ _ (P+1) (oW (prQ H C k)) (fun p=>⟨(Lib.itoa p).toArray⟩) w rh hkk hpw ⟨hk1,hk2⟩ ⟨hTp,by omega⟩ ⟨by show(ByteArray.mk _).size≤_;rw[mk_size];have:=hil P (by omega) (by omega);omega,by show(ByteArray.mk _).size≤_;rw[mk_size];have:=hil (P+1) (by omega) (by omega);omega⟩ hcase HP (fun po pc w1 h=>shift1_any _ po pc w1 (ln _ hPa) h) (fun ho hc uo uc w1 h1 h2=>ov_any _ _ ho hc uo uc w1 (ln _ hHa) hU0 h1 h2) (fun ro rc w1 h=>shift1_any _ ro rc w1 (ln _ hra) h) HC HX HA HD ⟨HI P (by omega) (by omega),HI (P+1) (by omega) (by omega)⟩
theorem exact_W (k j Ra Da La Ga Rb Db Lb Gb:Int)(gra grb res:Bool)(ts:List ak)(hb:ak→Bool)(w:World)(hne:ts≠[])(hres:ts.all hb=res)
  (HA:yJ 42 #[yi k] (.tuple #[ygV Ra Da La Ga gra,yi 0]))
  (HB:yJ 42 #[yi j] (.tuple #[ygV Rb Db Lb Gb grb,yi 0]))
  (HH: ∀w1,yB w w1→yC 43 #[ygV Ra Da La Ga gra] w1 (HdRes w1 ts))
  (HO: ∀t∈ts,∀ao ac w1,yB w w1→Rd w1 .u32 (yT ao t.n ac) (Dg.dg 4294967296 t.n)→yC 44 #[yDV t ao ac,ygV Rb Db Lb Gb grb] w1 (yR w1 (.tuple #[.bool (hb t),yi 0]))):
  yC 16 #[yi k,yi j] w (yR w (.tuple #[.bool res,yi 0])):=by
 replace HA:Hid _:=HA;replace HB:Hid _:=HB;replace HH:Hid _:=HH;replace HO:Hid _:=HO;replace hres:Hid _:=hres
 go_enter func16,ntmps16
 have b0:=Below.refl w.heap.size w
 go_wp2_with fail
 refine(HA.out _).mono ?_;rintro zz w1 ⟨rfl,bb2⟩;have b3:=aa b0 bb2;clear b0 bb2 HA;obtain⟨W6,hW5,q7,al4⟩:=cA w1 (ygL Ra Da La Ga gra) 82;replace hW5:Hid _:=hW5;have hl8:w.heap.size≤w1.heap.size:=b3.size;have b9:=aa b3 al4;clear b3 al4
 go_upto_region 2 with fail
 rw[hW5.out];clear hW5
 go_wp2_with fail
 refine(HB.out _).mono ?_;rintro zz w10 ⟨rfl,bb11⟩;have q12:=q7.l bb11;have b13:=aa b9 bb11;clear q7 b9 bb11 HB;obtain⟨W16,hW15,q17,al14⟩:=cA w10 (ygL Rb Db Lb Gb grb) 82;replace hW15:Hid _:=hW15;have hl18:w.heap.size≤w10.heap.size:=b13.size;have hl19:=q12.lt;have q20:=q12.l al14;have b21:=aa b13 al14;clear q12 b13 al14
 go_upto_region 5 with fail
 rw[hW15.out];clear hW15;obtain⟨c22,c23,c24,c25,c26⟩:=q20.cs5
 go_wp2_with fail
 refine(HH.out _ b21).mono ?_;rintro zz w27 ⟨lv,rfl,hI,bb28⟩;have q29:=q17.l bb28;have b30:=aa b21 bb28;clear q20 q17 b21 bb28 HH c22 c23 c24 c25 c26;have bW:=b30;have lB:=q29;have hbw:w.heap.size≤w.heap.size:=Nat.le_refl _;clear b30;obtain⟨g,cap,rfl,hV⟩:=dysV_of hne hI;clear hI hbw;obtain⟨n,hn⟩: ∃n,ts.length=n:=⟨_,rfl⟩;have hcap:=hV.fit;have hmost:=hV.most;have hn2:n≤9223372036854775807:=by
  unfold maxLen at hmost;omega
 rw[hn] at hcap⊢;clear hcap hmost;have HNn:Hid (ts.length=n):=hn;clear hn
 go_wp2
 go_loopw [32] (fun iv wr=> ∃i:Nat,i≤n∧iv=yi (i:Int)∧yB w wr∧au wr w10.heap.size 82 (ygL Rb Db Lb Gb grb)∧DysV wr ts g cap∧Hid ((ts.take i).all hb=true)) (fun iv _=>n-(intOf iv).toNat)
 case atStart=>exact⟨0,by omega,rfl,bW,lB,hV,rfl⟩
 case round=>
  clear bW lB hV;obtain⟨i,hin,rfl,bel,lB,hV,hall⟩:=hrel
  by_cases hlt:i<n
  ·obtain⟨t,ht⟩: ∃t,ts[i]? =some t:=⟨_,List.getElem?_eq_getElem (by have:=HNn.out;omega)⟩
   obtain⟨ao,ac,hr,rx⟩:=hV.each i t ht;have HOt:=HO.out t (List.mem_of_getElem? ht);replace HOt:Hid _:=HOt;have HT:Hid (ts[i]? =some t):=ht;have k0:wr.cell? ⟨g,i*3,none⟩=some (.bool t.s):=hr 0 _ rfl;have k1:wr.cell? ⟨g,i*3+1,none⟩=some (yT ao t.n ac):=hr 1 _ rfl;have k2:wr.cell? ⟨g,i*3+2,none⟩=some (yi t.e):=hr 2 _ rfl;have al:=af wr (.cells (yDA t ao ac) 78);have q:=ah wr (yDL t ao ac) 78;have lB1:=lB.l al;have hV1:=hV.l al;have b1:=aa bel al;have rx1:=rx.l al;clear ht hr rx lB hV bel al
   go_upto_region 10 with fail
   generalize wr.alloc (.cells (yDA t ao ac) 78)=W at q lB1 hV1 b1 rx1⊢;generalize wr.heap.size=Q at q⊢;obtain⟨c0,c1,c2⟩:=q.cs3;obtain⟨d0,d1,d2,d3,d4⟩:=lB1.cs5;clear k0 k1 k2 q
   go_wp2_with fail
   refine(HOt.out _ _ _ b1 rx1).mono ?_;rintro zz w2 ⟨rfl,b2⟩;have lB2:=lB1.l b2;have hV2:=hV1.l b2;have b3:=aa b1 b2;clear c0 c1 c2 d0 d1 d2 d3 d4 lB1 hV1 b1 b2 rx1 HOt;have hst:(ts.take (i+1)).all hb=hb t:=by
    rw[List.take_add_one,HT.out,List.all_append,hall.out];simp
   cases htb:hb t
   ·rw[htb] at hst
    replace hst:Hid _:=hst;clear htb lB2 hV2
    go_wp2
    go_ret2
    refine⟨?_,b3⟩;have e:res=false:=by
     rw[←hres.out,←List.take_append_drop (i+1) ts,List.all_append,hst.out];rfl
    rw[e];rfl
   ·rw[htb] at hst
    replace hst:Hid _:=hst;clear htb
    go_wp2
    go_roundw
    case rel=>exact⟨i+1,by omega,by go_num,b3,lB2,hV2,hst.out⟩
    case measure=>simp[intOf];omega
  ·have e:res=true:=by
    rw[←hres.out,←hall.out,List.take_of_length_le (by have:=HNn.out;omega)]
   subst e;clear lB hV
   go_wp2
   go_ret2
   exact⟨by simp,bel⟩
theorem cwhole_any (N:Int)(sg ov:Bool)(pp:Int)(ex un:Bool)(P:Nat)(po:Option Addr)(pc:Nat)(w:World)
  (HW:yH w 78 #[yT po P pc] (.int .u64 N)):
  yC 41 #[ypV sg (yT po P pc) pp ex ov un] w (yR w (.tuple #[yi (whR ov sg N),.bool (whB ov sg N)])):=by
 replace HW:Hid _:=HW;obtain⟨W3,hW4,q1,b2⟩:=cA w (ypL sg (yT po P pc) pp ex ov un) 84;replace hW4:Hid _:=hW4
 go_enter func41,ntmps41
 go_upto_region 1 with fail
 rw[hW4.out];clear hW4;have c5:=q1.c 1 rfl
 go_wp2_with fail
 refine(HW.out _ b2).mono ?_;rintro zz w6 ⟨rfl,bb7⟩;have q8:=q1.l bb7;have b9:=aa b2 bb7;clear q1 b2 bb7 HW c5;obtain⟨c0,c1,c2,c3,c4,c5⟩:=q8.cs6;have bf:=b9;obtain⟨M,hM⟩: ∃M,IntKind.u64.wrap (-N)=M:=⟨_,rfl⟩;obtain⟨r1,hr1⟩: ∃r,IntKind.i64.wrap M=r:=⟨_,rfl⟩;obtain⟨r2,hr2⟩: ∃r,IntKind.i64.wrap N=r:=⟨_,rfl⟩
 by_cases h1:(9223372036854775808:Int)<N
 all_goals cases h0:N==9223372036854775808
 all_goals cases sg
 all_goals cases ov
 all_goals
  go_wp2
  go_ret2
  exact⟨by simp[whB,whR,h0,h1,hM,hr1,hr2],bf⟩
theorem toInt_oth (c:Int)(n wy p:Int)(g:Bool)(m:Nat)(t:ak)(s:ByteArray)(w:World)(h1:(c != 1)=true)(h2:(c != 2)=true)
  (HQ: ∀w1,yB w w1→yC 38 #[yi n,.string s,yi wy] w1 (CRes w1 c g m p t 0)):
  yC 15 #[yi n,.string s,yi wy] w (yR w (.tuple #[yi 0,yi 16,yi 0])):=by
 replace HQ:Hid _:=HQ
 go_enter func15,ntmps15
 have b0:=Below.refl w.heap.size w
 go_wp2_with fail
 refine(HQ.out _ b0).mono ?_;rintro zz w1 ⟨v1x3,v2x4,rfl,r1x5,r2x6,bb2⟩;have b7:=aa b0 bb2;obtain⟨vo,vc,hv⟩:=r1x5.shape;subst hv;obtain⟨xo,xc,hv⟩:=r2x6.shape;subst hv;clear b0 bb2 HQ;obtain⟨W10,hW9,q11,q12,al8⟩:=iG w1 (yvL c g (yT vo m vc) p) 48 (yDL t xo xc) 78;replace hW9:Hid _:=hW9;have hl13:w.heap.size≤w1.heap.size:=b7.size;have b14:=aa b7 al8;clear r1x5 r2x6 b7 al8 q12
 go_upto_region 2 with fail
 rw[hW9.out];clear hW9;have c15:=q11.c 0 rfl
 go_wp2
 go_ret3
 exact⟨by simp,b14⟩
end Go.Proofs.YtlgkfdcmokchgaaGreatDoor
