/-
  Texts laid together: Gn2, As8, Gb8, Tx6, Tx12.
-/
import Derived.Test.YtdhpndnncmagiaaGreatDoorMa24
import Derived.Test.YtdhpndnncmagiaaGreatDoorMa26
import Derived.Test.YtdhpndnncmagiaaGreatDoorMa28
import Derived.Test.YtdhpndnncmagiaaGreatDoorMa29
set_option maxRecDepth 100000
set_option maxHeartbeats 6400000
namespace Go.Proofs.YtdhpndnncmagiaaGreatDoor
open _root_.Go.Proofs.Tryz
open Go.RowKit
theorem kB (R D L G:Int)(gr s:Bool)(ao:Option Addr)(ca:Nat)(xs:List Nat)(p:Int)(x1 x2 x3:Bool)(w:World)(hr:Rd w .u32 (.slice ao xs.length ca) xs)(sa:Dg.Small 4294967296 xs)(hT:Tab w):
  yC 74 #[ypV s (.slice ao xs.length ca) p x1 x2 x3,ygV R D L G gr] w (gR w (cC (ix xs p R D L G) ⟨s,Dg.vl 4294967296 xs,(ai R:Int)*p⟩)):=by
 obtain⟨⟨⟨rs,rn,re⟩,c⟩,hrr⟩: ∃r,cC (ix xs p R D L G) ⟨s,Dg.vl 4294967296 xs,(ai R:Int)*p⟩=r:=⟨_,rfl⟩;have herr: ∀k,ix xs p R D L G=k→ ¬k=0→rs=false∧rn=0∧re=0∧c=k:=fun k h1 h2=>by
  rw[h1,Xw h2] at hrr;simp only[Prod.mk.injEq,ak.mk.injEq] at hrr;exact⟨hrr.1.1.symm,hrr.1.2.1.symm,hrr.1.2.2.symm,hrr.2.symm⟩
 rw[hrr];refine Zr R D L G gr s ao _ ca p x1 x2 x3 (ai R) (chk xs) (bk R D L G) c (eJ 20000 p) rs rn re w ?_ ?_ ?_ ?_ ?_ ?_ ?_ ?_
 ·intro h
  exact herr _ (if_neg h) h
 ·intro h h2
  exact herr _ ((if_pos h).trans (if_neg h2)) h2
 ·intro h h2 h3
  exact herr 3 ((if_pos h).trans ((if_pos h2).trans (if_pos h3))) (by decide)
 ·intro w1 b
  refine(jC _ xs w1 (hr.l b)).mono ?_;rintro z w' ⟨rfl,rfl⟩;exact⟨rfl,Below.refl _ _⟩
 ·intro w1
  exact vE R D L G gr w1
 ·intro w1
  exact nK p 20000 w1 (by omega) (by omega)
 ·intro h h2 h3 w1
  have:=wS (R:=R) (A8 h3);exact CW R D L G gr s ao _ ca p w1 ⟨by omega,by omega⟩
 ·intro h h2 h3 w1 b
  have hp:=wS (R:=R) (A8 h3);obtain⟨n1,l1⟩:=aF h;have x1:(Dg.dg 4294967296 (Dg.vl 4294967296 xs)).length≤1200:=by rw[←Dg.eq_dg 4294967296 (by omega) xs _ sa n1 rfl];exact l1
  rw[kA h h2 h3] at hrr;rw[←hrr];exact kL _ _ w1 (jw (hr.l b) sa n1) (by simp only;omega) ⟨by simp only;omega,by simp only;omega⟩ (hT.l b) (by have:=gZ (Dg.vl 4294967296 xs) 1200 x1;simp only;omega)
theorem IP (n R D L G fam way c fl f1 e1:Int)(gr gg:Bool)(t:ak)(F m:Nat)(ps:List ByteArray)(pb:Nat)(st:ByteArray)(w:World)(hw1:1≤way)(hw2:way≤5)(hm:ps.length=m)(hm3:m≤3)(hm0:1≤m)(hE:fT n ps=0)(hN:ps.any (dO n)=false)(hp:au w pb 9 (ps.map Value.string))(hfn: ∀args W,(callFunc F args).run Tryz.prog W= .ok (.enter F args) W)
  (HD:yJ 60 #[yi n] (.tuple #[ykV n 0 fam R D L G gr,yi 0]))
  (HO: ∀w1,yB w w1→au w1 pb 9 (ps.map Value.string)→yC 64 #[ykV n 0 fam R D L G gr,.slice (some ⟨pb,0,none⟩) m m] w1 (QH w1 n ps))
  (HF: ∀g cap w1,yB w w1→sF w1 n ps g cap→yC F #[ykV n way fam R D L G gr,.slice (some ⟨g,0,none⟩) m cap] w1 (dU w1 c gg t fl))
  (HA: ∀ro rc w1,yB w w1→Rd w1 .u32 (yT ro t.n rc) (Dg.dg 4294967296 t.n)→yC 66 #[ykV n way fam R D L G gr,yOV c gg t ro rc,yi fl] w1 (yR w1 (.tuple #[.string st,yi f1,yi e1]))):
  yC 33 #[yi n,yi way,.func (.func F) #[] #[],.slice (some ⟨pb,0,none⟩) m m] w (yR w (.tuple #[.string st,yi f1,yi e1])):=by
 replace HD:Hid _:=HD;replace HO:Hid _:=HO;replace HF:Hid _:=HF;replace HA:Hid _:=HA;have HFn:Hid _:=hfn;clear hfn
 go_enter func33,ntmps33
 go_wp2_with fail
 refine(HD.out _).mono ?_;rintro z w1 ⟨rfl,b1⟩;have al:=af w1 (.cells (ykA n 0 fam R D L G gr) 83);have d1:=ah w1 (ykL n 0 fam R D L G gr) 83;have p1:=(hp.l b1).l al;have hlt:w.heap.size≤w1.heap.size:=b1.size;have b01:=aa b1 al;clear b1 al hp HD
 go_upto_region 4 with fail
 generalize w1.alloc (.cells (ykA n 0 fam R D L G gr) 83)=W1 at d1 p1 b01⊢;generalize w1.heap.size=PD at d1 hlt⊢;obtain⟨x0,x1,x2,x3,x4,x5,x6,x7⟩:=d1.cs8
 go_wp2_with fail
 refine(HO.out _ b01 p1).mono ?_;rintro z w2 hz;have hz':=hz.resolve_right (fun h=>h.1 hE)
 obtain⟨-,v,cs,rfl,hown,hat,b2⟩:=hz';obtain⟨g,cap,hv,hV⟩:=JF (fun h=>by subst h;simp at hm;omega) hown hat
 rw[hm] at hv;subst hv;have hgP:g≠PD:=by
  have h1:=(World.ownsRow.lt hown g rfl).1;have h2:=d1.lt;omega
 have d2:=d1.l b2;have b02:=aa b01 b2;have HNN:Hid (∀w1,sF w1 n ps g cap→yC 65 #[.slice (some ⟨g,0,none⟩) m cap] w1 (yR w1 (.bool false))):=fun w1 h=>by
  have:=wJ n ps g cap w1 h (by omega);rw[hN,hm] at this;exact this
 clear x0 x1 x2 x3 x4 x5 x6 x7 d1 p1 b01 b2 hz hown hat HO hE hN hm;have c1:=d2.c 1 rfl;have f1':=d2.f 1;have d3:au (w2.setCell ⟨PD,1,none⟩ (yi way)) PD 83 (ykL n way fam R D L G gr):=d2.set 1 (yi way);have bu:=ag w2 PD 1 (yi way);have hV3:=hV.off bu d2 (by simp) hgP;have b03:=bu.below b02 hlt
 go_upto_block 0 with fail
 generalize w2.setCell ⟨PD,1,none⟩ (yi way)=W3 at d3 hV3 b03⊢;clear c1 f1' bu d2 b02 hV
 go_wp2_with fail
 refine(HNN.out _ hV3).mono ?_;rintro z w4 ⟨rfl,b4⟩;have d4:=d3.l b4;have hV4:=hV3.l b4;have b04:=aa b03 b4;clear d3 hV3 b03 b4 HNN
 go_upto_region 11 with fail
 have bW:yB w4 w4.drew:=(Below.refl _ _).drew;have d5:=d4.l bW;have hV5:=hV4.l bW;have b05:=aa b04 bW;clear bW d4 hV4 b04;refine wp_region_held_drew (S:=fun wq=>wq.rangeAt PD 0 (ykL n way fam R D L G gr)) (by kernel_rfl) d5.range (fun hS0=> ?_)
 generalize w4.drew=WD at d5 hV5 b05 hS0⊢;refine tq 0 ((ykV n way fam R D L G gr)) rfl (fun w0 hw0=>fy 83 (.tmp 11) rfl PD 0 (by kernel_rfl) _ _ hw0 underlying83 rfl (by kernel_rfl)) hS0 ?_
 refine tq 1 (.func (.func F) #[] #[]) rfl (fun w0 _=>by kernel_rfl) hS0 ?_
 refine tq 2 ((ykV n way fam R D L G gr)) rfl (fun w0 hw0=>fy 83 (.tmp 11) rfl PD 0 (by kernel_rfl) _ _ hw0 underlying83 rfl (by kernel_rfl)) hS0 ?_
 refine tq 3 (.slice (some ⟨g,0,none⟩) m cap) rfl (fun w0 _=>by kernel_rfl) hS0 ?_
 refine wpAnyH_ready (rs:=[4]) (by kernel_rfl) (by simp) ?_;refine AllReadyH.cons rfl (fun K hK=> ?_) AllReadyH.nil
 have hfn:=HFn.out
 go_simp
 refine(HF.out _ _ _ b05 hV5).mono ?_;rintro z w6 ⟨u,rfl,q6,b6⟩;obtain⟨ro,rc,hu⟩:=q6.shape;subst hu;have d6:=d5.l b6;have b06:=aa b05 b6;refine hK.out _ _ d6.range (fun hS4=> ?_)
 clear hK K d5 hV5 b05 b6;refine tq 5 ((yOV c gg t ro rc)) rfl (fun w0 _=>by go_simp) hS4 ?_
 refine tq 6 (yi fl) rfl (fun w0 _=>by go_simp) hS4 ?_
 refine wpAnyH_ready (rs:=[7]) (by kernel_rfl) (by simp) ?_;refine AllReadyH.cons rfl (fun K hK=> ?_) AllReadyH.nil
 go_simp
 refine(HA.out _ _ _ b06 q6).mono ?_;rintro z w7 ⟨rfl,b7⟩;have d7:=d6.l b7;have b07:=aa b06 b7;refine hK.out _ _ d7.range (fun hS7=> ?_)
 clear hK K d6 b06 b7 q6;refine tq 8 (.string st) rfl (fun w0 _=>by go_simp) hS7 ?_
 refine tq 9 (yi f1) rfl (fun w0 _=>by go_simp) hS7 ?_
 refine tq 10 (yi e1) rfl (fun w0 _=>by go_simp) hS7 ?_
 refine tq 11 (.string st) rfl (fun w0 _=>by go_simp) hS7 ?_
 refine tq 12 (yi f1) rfl (fun w0 _=>by go_simp) hS7 ?_
 refine tq 13 (yi e1) rfl (fun w0 _=>by go_simp) hS7 ?_
 simp only[Act.put,List.getElem_toArray,List.getElem_cons_succ,List.getElem_cons_zero,List.setIfInBounds_toArray,List.set_cons_zero,List.set_cons_succ];refine wpAnyH_done (by kernel_rfl) ?_ _
 go_wp2
 go_ret3
 exact⟨rfl,b07⟩
theorem Rm (c f1 e1:Int)(st:ByteArray)(n R D L G way:Int)(gr:Bool)(F m:Nat)(ps:List ByteArray)(pb:Nat)(w:World)(hw: ¬way<1)(hv: ¬5<way)
  (HD:yJ 60 #[yi n] (.tuple #[ykV n 0 1 R D L G gr,yi 0]))
  (HO: ∀w1,yB w w1→yC 64 #[ykV n 0 1 R D L G gr,.slice (some ⟨pb,0,none⟩) m m] w1 fun z w'=> ∃g cap,z= .returned (.tuple #[.slice (some ⟨g,0,none⟩) m cap,yi 0])∧sF w' n ps g cap∧w1.heap.size≤g∧yB w1 w')
  (HX: ∀g cap w1,sF w1 n ps g cap→yC 65 #[.slice (some ⟨g,0,none⟩) m cap] w1 (yR w1 (.bool true)))
  (HN:yJ 67 #[ykV n way 1 R D L G gr,yi 0] (.tuple #[yoV c false false yN 0,yi 0]))
  (HA:yH w 66 #[ykV n way 1 R D L G gr,yoV c false false yN 0,yi 0] (.tuple #[.string st,yi f1,yi e1])):
  yC 33 #[yi n,yi way,.func (.func F) #[] #[],.slice (some ⟨pb,0,none⟩) m m] w (yR w (.tuple #[.string st,yi f1,yi e1])):=by
 replace HD:Hid _:=HD;replace HO:Hid _:=HO;replace HX:Hid _:=HX;replace HN:Hid _:=HN;replace HA:Hid _:=HA
 go_enter func33,ntmps33
 have b0:=Below.refl w.heap.size w
 go_wp2_with fail
 refine(HD.out _).mono ?_;rintro zz w1 ⟨rfl,bb2⟩;have b3:=aa b0 bb2;clear b0 bb2 HD;obtain⟨W7,hW6,q5,al4⟩:=cA w1 (ykL n 0 1 R D L G gr) 83;replace hW6:Hid _:=hW6;have hl8:w.heap.size≤w1.heap.size:=b3.size;have b9:=aa b3 al4;clear b3 al4
 go_upto_region 2 with fail
 rw[hW6.out];clear hW6;obtain⟨c10,c11,c12,c13,c14,c15,c16,c17⟩:=q5.cs8;have hq:=q5.lt
 go_wp2_with fail
 refine(HO.out _ b9).mono ?_;rintro zz w18 ⟨g,cap,rfl,r120,hgw,bb19⟩;have q21:=q5.l bb19;have b22:=aa b9 bb19;clear q5 b9 bb19 HO c10 c11 c12 c13 c14 c15 c16 c17;have bu:=ag w18 w1.heap.size 1 (yi way);have q23:au (w18.setCell ⟨w1.heap.size,1,none⟩ (yi way)) w1.heap.size 83 (ykL n way 1 R D L G gr):=(q21.set 1 (yi way));have c24:=q21.c 1 rfl;have y25:=q21.f 1;have r26:=r120.off bu q21 (by simp) (by omega);have b27:=bu.below b22 (by omega);clear bu
 go_upto_region 10 with fail
 generalize w18.setCell ⟨w1.heap.size,1,none⟩ (yi way)=W28 at q23 r26 b27⊢;clear q21 r120 b22 c24 y25
 go_wp2_with fail
 refine(HX.out _ _ _ r26).mono ?_;rintro zz w29 ⟨rfl,bb30⟩;have q31:=q23.l bb30;have b32:=aa b27 bb30;clear q23 r26 b27 bb30 HX;have c33:=q31.c 2 rfl
 go_upto_region 13 with fail
 clear c33;have bW34:yB w29 w29.drew:=(Below.refl _ _).drew;have q35:=q31.l bW34;have b36:=aa b32 bW34;clear q31 b32 bW34;refine wp_region_held_drew (S:=fun wq=>au wq w1.heap.size 83 (ykL n way 1 R D L G gr)) (by kernel_rfl) q35 (fun hS0=> ?_)
 generalize w29.drew=WD37 at q35 b36 hS0⊢;refine tq 0 (ykV n way 1 R D L G gr) rfl (fun _ hw0=>fy 83 (.tmp 11) rfl w1.heap.size 0 (by kernel_rfl) _ _ hw0.range underlying83 rfl (by kernel_rfl)) hS0 ?_
 refine tq 1 (ykV n way 1 R D L G gr) rfl (fun _ hw0=>fy 83 (.tmp 11) rfl w1.heap.size 0 (by kernel_rfl) _ _ hw0.range underlying83 rfl (by kernel_rfl)) hS0 ?_
 refine wpAnyH_ready (rs:=[2]) (by kernel_rfl) (by simp) ?_;refine AllReadyH.cons rfl (fun K hK=> ?_) AllReadyH.nil
 go_simp
 refine(HN.out _).mono ?_;rintro zz w38 ⟨rfl,bb39⟩;have q40:=q35.l bb39;have b41:=aa b36 bb39;clear q35 b36 bb39 HN;refine hK.out _ _ q40 (fun hS42=> ?_)
 clear hK K;refine tq 3 (yoV c false false yN 0) rfl (fun _ _=>by go_simp) hS42 ?_
 refine tq 4 (yi 0) rfl (fun _ _=>by go_simp) hS42 ?_
 refine wpAnyH_ready (rs:=[5]) (by kernel_rfl) (by simp) ?_;refine AllReadyH.cons rfl (fun K hK=> ?_) AllReadyH.nil
 go_simp
 refine(HA.out _ b41).mono ?_;rintro zz w43 ⟨rfl,bb44⟩;have q45:=q40.l bb44;have b46:=aa b41 bb44;clear q40 b41 bb44 HA;refine hK.out _ _ q45 (fun hS47=> ?_)
 clear hK K;refine tq 6 (.string st) rfl (fun _ _=>by go_simp) hS47 ?_
 refine tq 7 (yi f1) rfl (fun _ _=>by go_simp) hS47 ?_
 refine tq 8 (yi e1) rfl (fun _ _=>by go_simp) hS47 ?_
 refine tq 9 (.string st) rfl (fun _ _=>by kernel_rfl) hS47 ?_
 refine tq 10 (yi f1) rfl (fun _ _=>by kernel_rfl) hS47 ?_
 refine tq 11 (yi e1) rfl (fun _ _=>by kernel_rfl) hS47 ?_
 refine wpAnyH_done (by kernel_rfl) ?_ _;clear hS0 hS42 hS47;simp only[Act.put,List.getElem_toArray,List.getElem_cons_succ,List.getElem_cons_zero,List.setIfInBounds_toArray,List.set_cons_zero,List.set_cons_succ]
 go_wp2
 go_ret3
 exact⟨rfl,b46⟩
theorem Rn (c f1 e1:Int)(st:ByteArray)(n R D L G fam way:Int)(gr:Bool)(F m:Nat)(ps:List ByteArray)(pb:Nat)(w:World)(hw: ¬way<1)(hv: ¬5<way)(hf:(fam==1)=false)
  (HD:yJ 60 #[yi n] (.tuple #[ykV n 0 fam R D L G gr,yi 0]))
  (HO: ∀w1,yB w w1→yC 64 #[ykV n 0 fam R D L G gr,.slice (some ⟨pb,0,none⟩) m m] w1 fun z w'=> ∃g cap,z= .returned (.tuple #[.slice (some ⟨g,0,none⟩) m cap,yi 0])∧sF w' n ps g cap∧w1.heap.size≤g∧yB w1 w')
  (HX: ∀g cap w1,sF w1 n ps g cap→yC 65 #[.slice (some ⟨g,0,none⟩) m cap] w1 (yR w1 (.bool true)))
  (HN:yJ 67 #[ykV n way fam R D L G gr,yi 16] (.tuple #[yoV c false false yN 0,yi 16]))
  (HA:yH w 66 #[ykV n way fam R D L G gr,yoV c false false yN 0,yi 16] (.tuple #[.string st,yi f1,yi e1])):
  yC 33 #[yi n,yi way,.func (.func F) #[] #[],.slice (some ⟨pb,0,none⟩) m m] w (yR w (.tuple #[.string st,yi f1,yi e1])):=by
 replace HD:Hid _:=HD;replace HO:Hid _:=HO;replace HX:Hid _:=HX;replace HN:Hid _:=HN;replace HA:Hid _:=HA
 go_enter func33,ntmps33
 have b0:=Below.refl w.heap.size w
 go_wp2_with fail
 refine(HD.out _).mono ?_;rintro zz w1 ⟨rfl,bb2⟩;have b3:=aa b0 bb2;clear b0 bb2 HD;obtain⟨W7,hW6,q5,al4⟩:=cA w1 (ykL n 0 fam R D L G gr) 83;replace hW6:Hid _:=hW6;have hl8:w.heap.size≤w1.heap.size:=b3.size;have b9:=aa b3 al4;clear b3 al4
 go_upto_region 2 with fail
 rw[hW6.out];clear hW6;obtain⟨c10,c11,c12,c13,c14,c15,c16,c17⟩:=q5.cs8;have hq:=q5.lt
 go_wp2_with fail
 refine(HO.out _ b9).mono ?_;rintro zz w18 ⟨g,cap,rfl,r120,hgw,bb19⟩;have q21:=q5.l bb19;have b22:=aa b9 bb19;clear q5 b9 bb19 HO c10 c11 c12 c13 c14 c15 c16 c17;have bu:=ag w18 w1.heap.size 1 (yi way);have q23:au (w18.setCell ⟨w1.heap.size,1,none⟩ (yi way)) w1.heap.size 83 (ykL n way fam R D L G gr):=(q21.set 1 (yi way));have c24:=q21.c 1 rfl;have y25:=q21.f 1;have r26:=r120.off bu q21 (by simp) (by omega);have b27:=bu.below b22 (by omega);clear bu
 go_upto_region 10 with fail
 generalize w18.setCell ⟨w1.heap.size,1,none⟩ (yi way)=W28 at q23 r26 b27⊢;clear q21 r120 b22 c24 y25
 go_wp2_with fail
 refine(HX.out _ _ _ r26).mono ?_;rintro zz w29 ⟨rfl,bb30⟩;have q31:=q23.l bb30;have b32:=aa b27 bb30;clear q23 r26 b27 bb30 HX;have c33:=q31.c 2 rfl
 go_upto_region 14 with fail
 clear c33;have bW34:yB w29 w29.drew:=(Below.refl _ _).drew;have q35:=q31.l bW34;have b36:=aa b32 bW34;clear q31 b32 bW34;refine wp_region_held_drew (S:=fun wq=>au wq w1.heap.size 83 (ykL n way fam R D L G gr)) (by kernel_rfl) q35 (fun hS0=> ?_)
 generalize w29.drew=WD37 at q35 b36 hS0⊢;refine tq 0 (ykV n way fam R D L G gr) rfl (fun _ hw0=>fy 83 (.tmp 11) rfl w1.heap.size 0 (by kernel_rfl) _ _ hw0.range underlying83 rfl (by kernel_rfl)) hS0 ?_
 refine tq 1 (ykV n way fam R D L G gr) rfl (fun _ hw0=>fy 83 (.tmp 11) rfl w1.heap.size 0 (by kernel_rfl) _ _ hw0.range underlying83 rfl (by kernel_rfl)) hS0 ?_
 refine wpAnyH_ready (rs:=[2]) (by kernel_rfl) (by simp) ?_;refine AllReadyH.cons rfl (fun K hK=> ?_) AllReadyH.nil
 go_simp
 refine(HN.out _).mono ?_;rintro zz w38 ⟨rfl,bb39⟩;have q40:=q35.l bb39;have b41:=aa b36 bb39;clear q35 b36 bb39 HN;refine hK.out _ _ q40 (fun hS42=> ?_)
 clear hK K;refine tq 3 (yoV c false false yN 0) rfl (fun _ _=>by go_simp) hS42 ?_
 refine tq 4 (yi 16) rfl (fun _ _=>by go_simp) hS42 ?_
 refine wpAnyH_ready (rs:=[5]) (by kernel_rfl) (by simp) ?_;refine AllReadyH.cons rfl (fun K hK=> ?_) AllReadyH.nil
 go_simp
 refine(HA.out _ b41).mono ?_;rintro zz w43 ⟨rfl,bb44⟩;have q45:=q40.l bb44;have b46:=aa b41 bb44;clear q40 b41 bb44 HA;refine hK.out _ _ q45 (fun hS47=> ?_)
 clear hK K;refine tq 6 (.string st) rfl (fun _ _=>by go_simp) hS47 ?_
 refine tq 7 (yi f1) rfl (fun _ _=>by go_simp) hS47 ?_
 refine tq 8 (yi e1) rfl (fun _ _=>by go_simp) hS47 ?_
 refine tq 9 (.string st) rfl (fun _ _=>by kernel_rfl) hS47 ?_
 refine tq 10 (yi f1) rfl (fun _ _=>by kernel_rfl) hS47 ?_
 refine tq 11 (yi e1) rfl (fun _ _=>by kernel_rfl) hS47 ?_
 refine wpAnyH_done (by kernel_rfl) ?_ _;clear hS0 hS42 hS47;simp only[Act.put,List.getElem_toArray,List.getElem_cons_succ,List.getElem_cons_zero,List.setIfInBounds_toArray,List.set_cons_zero,List.set_cons_succ]
 go_wp2
 go_ret3
 exact⟨rfl,b46⟩
theorem ratio_any (ng:Bool)(ds:ByteArray)(p:Int)(w:World)(hs:ds.size≤400)(hd: ∀i,i<ds.size→48≤byt ds i∧byt ds i≤57)(p1: -6000≤p)(p2:p≤6000)(hT:Tab w):
  yC 59 #[.agg #[.bool ng,.string ds,yi p]] w (RtR w (nrV (ng,ds,p)).1 (nrV (ng,ds,p)).2.1 (nrV (ng,ds,p)).2.2.1 (nrV (ng,ds,p)).2.2.2):=by
 have HD:=fun w1=>DF ds w1 (by omega) hd
 obtain⟨a,ha⟩: ∃a,a=1600:=⟨_,rfl⟩;have hN:pv ds ds.size<2^a:=Nat.lt_of_lt_of_le (Tb ds hd _ (Nat.le_refl _)) (Nat.le_trans (pow10_two _) (Nat.pow_le_pow_right (by omega) (by omega)));unfold nrV
 by_cases h0:pv ds ds.size=0
 ·rw[if_pos h0]
  refine(tratio_0 ng ds p w fun w1=>(HD w1).mono fun z w' h=> ?_).mono fun z w' h=> ?_
  ·obtain⟨v,e,o,b⟩:=h
   rw[h0] at o;obtain⟨ao,ac,hv⟩:=o.rd.shape;exact⟨ao,ac,by rw[e,hv];rfl,b⟩
  ·obtain⟨q,e,l,b⟩:=h
   exact⟨_,_,e,by rw[show Dg.dg 4294967296 0=[] from rfl];exact aN _ _,rd_one1 (l.c 0 rfl),b⟩
 rw[if_neg h0];obtain⟨m0,mlt⟩:=nrM_in (p:=p) h0 hN p2;have htz:=tz_bits m0 mlt;have hlen:(Dg.dg 4294967296 (nrM (pv ds ds.size) p).1).length≤613:=jq mlt (by omega);have hNl:(Dg.dg 4294967296 (pv ds ds.size)).length≤50:=jq hN (by omega);have hl0:0< (Dg.dg 4294967296 (pv ds ds.size)).length:=by
  rcases Nat.eq_zero_or_pos (Dg.dg 4294967296 (pv ds ds.size)).length with c|c
  ·exact absurd ((Dg.dg_nil_iff 4294967296 _ (by omega)).1 (List.length_eq_zero_iff.1 c)) h0
  ·exact c
 have HW: ∀mo mc w1,yB w w1→Rd w1 .u32 (.slice mo (Dg.dg 4294967296 (nrM (pv ds ds.size) p).1).length mc) (Dg.dg 4294967296 (nrM (pv ds ds.size) p).1)→yC 127 #[.slice mo (Dg.dg 4294967296 (nrM (pv ds ds.size) p).1).length mc] w1 (yR w1 (yi ((tz (nrM (pv ds ds.size) p).1:Nat):Int))):=fun mo mc w1 b hr=>by
  refine(Gl _ _ w1 hr (by omega) (hT.l b)).mono fun z w' h=> ?_
  obtain⟨h1,h2⟩:=h;rw[if_neg m0] at h1;subst h2;exact⟨h1,Below.refl _ _⟩
 have HS: ∀mo mc w1,Rd w1 .u32 (.slice mo (Dg.dg 4294967296 (nrM (pv ds ds.size) p).1).length mc) (Dg.dg 4294967296 (nrM (pv ds ds.size) p).1)→yC 47 #[.slice mo (Dg.dg 4294967296 (nrM (pv ds ds.size) p).1).length mc,yi (-((tz (nrM (pv ds ds.size) p).1:Nat):Int))] w1 (NmR w1 ((nrM (pv ds ds.size) p).1/2^tz (nrM (pv ds ds.size) p).1)):=fun mo mc w1 hr=>by
  have:=eO _ _ (-((tz (nrM (pv ds ds.size) p).1:Nat):Int)) w1 hr (Dg.small_dg _ _ (by omega)) (by omega) (by omega) (by omega);rw[Dg.vl_dg _ _ (by omega),shN_down] at this;exact this.mono fun _ _ h=>num_nmR h
 have hmt:IntKind.i64.wrap (-((tz (nrM (pv ds ds.size) p).1:Nat):Int))= -((tz (nrM (pv ds ds.size) p).1:Nat):Int):=IntWalk.i64_in _ ⟨by omega,by omega⟩;have hex:IntKind.i64.wrap (p+((tz (nrM (pv ds ds.size) p).1:Nat):Int))=p+((tz (nrM (pv ds ds.size) p).1:Nat):Int):=IntWalk.i64_in _ ⟨by omega,by omega⟩;have HD2:=fun w1=>(HD w1).mono fun _ _ h=>num_nmR h
 by_cases hp:0<p
 ·have eM:nrM (pv ds ds.size) p=(pv ds ds.size*5^p.toNat,1):=if_pos hp
  have HF: ∀w1,yC 77 #[yi p] w1 (NmR w1 (5^p.toNat)):=fun w1=>by
   have:=fives_any p.toNat w1 (by omega);rw[show((p.toNat:Nat):Int)=p by omega] at this
   exact this
  obtain⟨c,hc⟩: ∃c,c=18001:=⟨_,rfl⟩;have h5:5^p.toNat<2^c:=Nat.lt_of_le_of_lt (pow5_two _) (Nat.pow_lt_pow_right (by omega) (by omega));have h5l:(Dg.dg 4294967296 (5^p.toNat)).length≤563:=jq h5 (by omega);have HT: ∀xo xc fo fc w1,Rd w1 .u32 (.slice xo (Dg.dg 4294967296 (pv ds ds.size)).length xc) (Dg.dg 4294967296 (pv ds ds.size))→Rd w1 .u32 (.slice fo (Dg.dg 4294967296 (5^p.toNat)).length fc) (Dg.dg 4294967296 (5^p.toNat))→yC 76 #[.slice xo (Dg.dg 4294967296 (pv ds ds.size)).length xc,.slice fo (Dg.dg 4294967296 (5^p.toNat)).length fc] w1 (NmR w1 (nrM (pv ds ds.size) p).1):=fun xo xc fo fc w1 h1 h2=>by
   have:=qC _ _ _ _ w1 h1 h2 (Dg.small_dg _ _ (by omega)) (Dg.small_dg _ _ (by omega)) (by omega) (by omega);rw[Dg.vl_dg _ _ (by omega),Dg.vl_dg _ _ (by omega)] at this;rw[eM];exact this.mono fun _ _ h=>num_nmR h
  have:=tratio_up ng ds p _ _ _ _ _ _ _ w hl0 hmt hex hp HD2 HF HT HW HS;rw[show(nrM (pv ds ds.size) p).2=1 by rw[eM]]
  exact this
 ·have eM:nrM (pv ds ds.size) p=((redF (pv ds ds.size) (-p).toNat).1,5^ (redF (pv ds ds.size) (-p).toNat).2):=if_neg hp
  have HR: ∀xo xc w1,Rd w1 .u32 (.slice xo (Dg.dg 4294967296 (pv ds ds.size)).length xc) (Dg.dg 4294967296 (pv ds ds.size))→yC 126 #[.slice xo (Dg.dg 4294967296 (pv ds ds.size)).length xc,yi (-p)] w1 (TwR w1 (nrM (pv ds ds.size) p).1 (nrM (pv ds ds.size) p).2):=fun xo xc w1 h=>by
   have:=reduced_any xo _ xc _ (-p).toNat w1 h (by omega) (by omega);rw[show(((-p).toNat:Nat):Int)= -p by omega] at this
   rw[eM];exact this
  exact tratio_down ng ds p _ _ _ _ _ _ _ _ w hl0 hmt hex hp (IntWalk.i64_in _ ⟨by omega,by omega⟩) HD2 HR HW HS
theorem decimalOf_any (x:ak)(xo:Option Addr)(xc:Nat)(w:World)(rx:Rd w .u32 (yT xo x.n xc) (Dg.dg 4294967296 x.n))(hx:x.n<2^64)(e1: -16500≤x.e)(e2:x.e≤16500)(h0:x.n≠0):
  yC 25 #[yDV x xo xc] w (DcR w x.s (dcH x) (dcC x:Int) (dcP x)):=by
 obtain⟨⟨g1,g2⟩,⟨c,hc,hW⟩,hC⟩:=dc_in hx e1 e2 h0;have hb:=bF x.n 64 hx;have hb1:=Gq h0;have hxl:(Dg.dg 4294967296 x.n).length≤2:=jq hx (by omega);have hWl:(Dg.dg 4294967296 (dcW x)).length≤1156:=jq hW (by omega);have HB: ∀xo xc w1,Rd w1 .u32 (yT xo x.n xc) (Dg.dg 4294967296 x.n)→yC 44 #[yT xo x.n xc] w1 (yR w1 (yi (bitLen x.n:Nat))):=fun xo xc w1 h=>by
  refine(kE _ _ w1 h (Dg.small_dg _ _ (by omega)) (Dg.norm_dg _ _ (by omega)) (by omega)).mono fun z w' hz=> ?_
  obtain⟨z1,z2⟩:=hz;subst z2;rw[Dg.vl_dg _ _ (by omega)] at z1;exact⟨z1,Below.refl _ _⟩
 have HP:=fun w1=>pbelow_any ((bitLen x.n:Int)-1+x.e) w1 (by omega) (by omega)
 have HC: ∀xo xc w1,yB w w1→Rd w1 .u32 (yT xo x.n xc) (Dg.dg 4294967296 x.n)→yC 45 #[yDV x xo xc,yi (60-dcG x)] w1 (NbR w1 (dcW x) (dcL x)):=fun xo xc w1 _ h=>scaled_any x.s x.n xo xc x.e (60-dcG x) w1 h hx e1 e2 (by omega) (by omega)
 have HD: ∀vo vc w1,Rd w1 .u32 (.slice vo (Dg.dg 4294967296 (dcW x)).length vc) (Dg.dg 4294967296 (dcW x))→yC 46 #[.slice vo (Dg.dg 4294967296 (dcW x)).length vc] w1 (yR w1 (.string (oW (dcW x)))):=fun vo vc w1 h=>by
  have:=MR _ _ w1 h (Dg.small_dg _ _ (by omega)) (Dg.norm_dg _ _ (by omega)) (by omega);rw[Dg.vl_dg _ _ (by omega)] at this;exact this
 have HS: ∀vo vc w1,Rd w1 .u32 (.slice vo (Dg.dg 4294967296 (dcW x)).length vc) (Dg.dg 4294967296 (dcW x))→yC 47 #[.slice vo (Dg.dg 4294967296 (dcW x)).length vc,yi 1] w1 (NmR w1 (dcW x*2)):=fun vo vc w1 h=>by
  have:=eO _ _ 1 w1 h (Dg.small_dg _ _ (by omega)) (by omega) (by omega) (by omega);rw[Dg.vl_dg _ _ (by omega),CE _ 1 (by omega)] at this;exact this.mono fun _ _ h=>num_nmR h
 have w1':IntKind.i64.wrap ((bitLen x.n:Int)-1)=(bitLen x.n:Int)-1:=IntWalk.i64_in _ ⟨by omega,by omega⟩;have w2':IntKind.i64.wrap ((bitLen x.n:Int)-1+x.e)=(bitLen x.n:Int)-1+x.e:=IntWalk.i64_in _ ⟨by omega,by omega⟩;have w3':IntKind.i64.wrap (60-dcG x)=60-dcG x:=IntWalk.i64_in _ ⟨by omega,by omega⟩;have w4':IntKind.i64.wrap (dcG x+((oW (dcW x)).size:Int))=dcG x+(dcC x:Int):=IntWalk.i64_in _ ⟨by show _≤dcG x+(dcC x:Int);omega,by show dcG x+(dcC x:Int)≤_;omega⟩
 have w5':IntKind.i64.wrap (dcG x+(dcC x:Int)-1)=dcG x+(dcC x:Int)-1:=IntWalk.i64_in _ ⟨by omega,by omega⟩;have w6':IntKind.i64.wrap (dcG x+(dcC x:Int)-1-60)=dcP x:=IntWalk.i64_in _ ⟨by omega,by omega⟩;unfold dcH
 cases hL:dcL x
 ·rw[if_neg (by decide)]
  rw[hL] at HC;exact tdecOf_f x.s x.n (dcW x) _ xo xc x.e _ _ _ _ _ _ _ _ (oW (dcW x)) w rx w1' w2' w3' w4' w5' w6' HB HP HC HD HS
 ·rw[if_pos rfl]
  rw[hL] at HC;have hl2:(Dg.dg 4294967296 (dcW x*2)).length≤1156+1:=by
   obtain⟨c2,hc2⟩: ∃c2,c2=c+1:=⟨_,rfl⟩;refine jq (k:=c2) ?_ (by omega);rw[hc2,Nat.pow_succ];exact Nat.mul_lt_mul_of_pos_right hW (by omega)
  refine tdecOf_t x.s x.n (dcW x) _ (dcW x*2+1) xo xc x.e _ _ _ _ _ _ _ _ (oW (dcW x)) w rx w1' w2' w3' w4' w5' w6' HB HP HC HD HS (fun ho hc q w1 h hq=> ?_)
  have:=rj _ _ (Dg.dg 4294967296 (dcW x*2)) [1] w1 h (xD (hq.c 0 rfl)) (Dg.small_dg _ _ (by omega)) (Dg.small_cons.2 ⟨by omega,Dg.small_nil _ (by omega)⟩) (by omega) (by simp);rw[Dg.vl_dg _ _ (by omega),show Dg.vl 4294967296 [1]=1 from rfl] at this
  exact this.mono fun _ _ h=>num_nmR h
end Go.Proofs.YtdhpndnncmagiaaGreatDoor
