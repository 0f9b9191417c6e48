/-
  Texts laid together: Aw0, Co18, Ar1, Gb6, As3, As4, Pa1, Pa2, Tx14.
-/
import Derived.Test.YtdhpndnncmagiaaGreatDoorMa26
import Derived.Test.YtdhpndnncmagiaaGreatDoorMa27
import Derived.Test.YtdhpndnncmagiaaGreatDoorMa28
import Derived.Test.YtdhpndnncmagiaaGreatDoorMa29
import Derived.Test.YtdhpndnncmagiaaGreatDoorMa30
set_option maxRecDepth 100000
set_option maxHeartbeats 3200000
namespace Go.Proofs.YtdhpndnncmagiaaGreatDoor
open _root_.Go.Proofs.Tryz
open Go.RowKit
theorem lG (w:World)(c0:List Value)(t0:TypeId)(c1:List Value)(t1:TypeId)(c2:List Value)(t2:TypeId): ∃W,((w.alloc (.cells c0.toArray t0)).alloc (.cells c1.toArray t1)).alloc (.cells c2.toArray t2)=W∧au W w.heap.size t0 c0∧au W (w.heap.size+1) t1 c1∧au W (w.heap.size+1+1) t2 c2∧yB w W:=by
 obtain⟨W,rfl,h0,h1,b0⟩:=iG w c0 t0 c1 t1;have h2:=ah ((w.alloc (.cells c0.toArray t0)).alloc (.cells c1.toArray t1)) c2 t2;have b2:=af ((w.alloc (.cells c0.toArray t0)).alloc (.cells c1.toArray t1)) (.cells c2.toArray t2);rw[World.size_alloc,World.size_alloc] at h2;exact⟨_,rfl,h0.l b2,h1.l b2,h2,aa b0 b2⟩
theorem pi (w:World)(c0:List Value)(t0:TypeId)(c1:List Value)(t1:TypeId)(c2:List Value)(t2:TypeId)(c3:List Value)(t3:TypeId): ∃W,(((w.alloc (.cells c0.toArray t0)).alloc (.cells c1.toArray t1)).alloc (.cells c2.toArray t2)).alloc (.cells c3.toArray t3)=W∧au W w.heap.size t0 c0∧au W (w.heap.size+1) t1 c1∧au W (w.heap.size+1+1) t2 c2∧au W (w.heap.size+1+1+1) t3 c3∧yB w W:=by
 obtain⟨W,rfl,h0,h1,h2,b0⟩:=lG w c0 t0 c1 t1 c2 t2;have h3:=ah (((w.alloc (.cells c0.toArray t0)).alloc (.cells c1.toArray t1)).alloc (.cells c2.toArray t2)) c3 t3;have b3:=af (((w.alloc (.cells c0.toArray t0)).alloc (.cells c1.toArray t1)).alloc (.cells c2.toArray t2)) (.cells c3.toArray t3);rw[World.size_alloc,World.size_alloc,World.size_alloc] at h3;exact⟨_,rfl,h0.l b3,h1.l b3,h2.l b3,h3,aa b0 b3⟩
theorem Xt (n:Int)(R sz ex:Nat)(D L G fam:Int)(gr:Bool)(F:Nat)(ng:Bool)(e f:Nat)(c:Int)(gg:Bool)(m:Nat)(p:Int)(s:ByteArray)(w:World)
  (HR:yJ 72 #[yi n,.string s] (.tuple #[ylV R D L G gr sz ex fam F,yfV ng e f,yi 0]))
  (HV: ∀w1,yC 73 #[ylV R D L G gr sz ex fam F,yfV ng e f] w1 (iT w1 c gg m p)):
  yC 40 #[yi n,.string s] w (eP w c gg m p 0):=by
 have hsf:=cD;have HR':Hid _:=HR;have HV':Hid _:=HV;have v0:=ah w (yvL 0 false yN 0) 57;have b0:=af w (.cells (yvA 0 false yN 0) 57);clear HR HV
 go_enter func40,ntmps40
 go_wp2_with fail
 refine(HR'.out _).mono ?_;rintro z w1 ⟨rfl,b1⟩;have bl:=af w1 (.cells (ylA R D L G gr sz ex fam F) 94);have bf:=af (w1.alloc (.cells (ylA R D L G gr sz ex fam F) 94)) (.cells (yfA ng e f) 157);have v2:=((v0.l b1).l bl).l bf;have b2:=aa (aa (aa b0 b1) bl) bf
 go_wp2_with fail
 refine(HV'.out _).mono ?_;rintro z w3 ⟨v,rfl,r3,b3⟩;obtain⟨vo,vc,hv⟩:=r3.shape;subst hv;have v3:=v2.l b3;have b03:=aa b2 b3;have ov:=cq r3 (Dg.norm_dg _ _ (by omega)) v3 (fun x hx n hn=>by simp at hx;rcases hx with rfl|rfl|rfl|rfl<;>simp)
 have bu:=(((ag w3 w.heap.size 0 (yi c)).trans (ag _ w.heap.size 1 (.bool gg))).trans (ag _ w.heap.size 2 (yT vo m vc))).trans (ag _ w.heap.size 3 (yi p));have cR:au ((((w3.setCell ⟨w.heap.size,0,none⟩ (yi c)).setCell ⟨w.heap.size,1,none⟩ (.bool gg)).setCell ⟨w.heap.size,2,none⟩ (yT vo m vc)).setCell ⟨w.heap.size,3,none⟩ (yi p)) w.heap.size 57 (yvL c gg (yT vo m vc) p):=((((v3.set 0 (yi c)).set 1 (.bool gg)).set 2 (yT vo m vc)).set 3 (yi p));have bR:=bu.below b03 (Nat.le_refl _);have rR:=bu.rd r3 ov;have hl:=run_loadVar_mid (P:=Tryz.prog) _ w.heap.size 0 57 (yvL c gg (yT vo m vc) p) _ cR.range underlying57 rfl (by kernel_rfl);have HH:Hid (_∧_∧_):=⟨hl,rR,bR⟩;obtain⟨x0,x1,x2,x3⟩:=v3.cs4;have j0:=v3.f 0;have j1:=v3.f 1;have j2:=v3.f 2;have j3:=v3.f 3;clear hl bR rR cR bu ov v3 b03 r3 b3 v2 b2 bl bf b1 v0 b0
 go_wp2
 obtain⟨hl,rR,bR⟩:=HH.out;exact bodyPost_ret (aj results40 rfl rfl hl) rfl ⟨_,rfl,rR,bR⟩
theorem Pk (n:Int)(er:Int)(her:er≠0)(s:ByteArray)(w:World)
  (HR:yJ 72 #[yi n,.string s] (.tuple #[yzV 0 0 0 0 false 0 0 0,yfV false 0 0,yi er])):
  yC 40 #[yi n,.string s] w (eP w 0 false 0 0 er):=by
 have hsn:=gn;have HR':Hid _:=HR;have v0:=ah w (yvL 0 false yN 0) 57;have b0:=af w (.cells (yvA 0 false yN 0) 57);have he:(er==0)=false:=by simpa using her
 clear HR her
 go_enter func40,ntmps40
 go_wp2_with fail
 refine(HR'.out _).mono ?_;rintro z w1 ⟨rfl,b1⟩;have bl:=af w1 (.cells (yzA 0 0 0 0 false 0 0 0) 94);have bf:=af (w1.alloc (.cells (yzA 0 0 0 0 false 0 0 0) 94)) (.cells (yfA false 0 0) 157);have v2:=((v0.l b1).l bl).l bf;have b2:=aa (aa (aa b0 b1) bl) bf;have bu:=(((ag ((w1.alloc (.cells (yzA 0 0 0 0 false 0 0 0) 94)).alloc (.cells (yfA false 0 0) 157)) w.heap.size 0 (yi 0)).trans (ag _ w.heap.size 1 (.bool false))).trans (ag _ w.heap.size 2 yN)).trans (ag _ w.heap.size 3 (yi 0));have cR:au ((((((w1.alloc (.cells (yzA 0 0 0 0 false 0 0 0) 94)).alloc (.cells (yfA false 0 0) 157)).setCell ⟨w.heap.size,0,none⟩ (yi 0)).setCell ⟨w.heap.size,1,none⟩ (.bool false)).setCell ⟨w.heap.size,2,none⟩ yN).setCell ⟨w.heap.size,3,none⟩ (yi 0)) w.heap.size 57 (yvL 0 false yN 0):=((((v2.set 0 (yi 0)).set 1 (.bool false)).set 2 yN).set 3 (yi 0));have bR:=bu.below b2 (Nat.le_refl _);have hl:=run_loadVar_mid (P:=Tryz.prog) _ w.heap.size 0 57 (yvL 0 false yN 0) _ cR.range underlying57 rfl (by kernel_rfl);have HH:Hid (_∧_):=⟨hl,bR⟩;have hnA:w1.heap.size≠w.heap.size:=Nat.ne_of_gt (v0.l b1).lt;have hnB:w1.heap.size+1≠w.heap.size:=by have:=(v0.l b1).lt;omega
 obtain⟨x0,x1,x2,x3⟩:=v2.cs4;have j0:=v2.f 0;have j1:=v2.f 1;have j2:=v2.f 2;have j3:=v2.f 3;clear hl bR cR bu v2 b2 bl bf b1 v0 b0
 go_wp2
 obtain⟨hl,bR⟩:=HH.out;exact bodyPost_ret (aj results40 rfl rfl hl) rfl ⟨_,rfl,aN _ _,bR⟩
theorem IY (R D L G c p er:Int)(gr ng:Bool)(ao:Option Addr)(la ca:Nat)(t:ak)(w:World)
  (HN: ∀w1,yB w w1→yC 74 #[ypV ng (.slice ao la ca) p false false false,ygV R D L G gr] w1 (gR w1 (t,er))):
  yC 41 #[yvV c ng (.slice ao la ca) p,ygV R D L G gr] w (acy w t):=by
 replace HN:Hid _:=HN;have bv:=af w (.cells (yvA c ng (.slice ao la ca) p) 57);have bg:=af (w.alloc (.cells (yvA c ng (.slice ao la ca) p) 57)) (.cells (ygA R D L G gr) 49);have bx:=af ((w.alloc (.cells (yvA c ng (.slice ao la ca) p) 57)).alloc (.cells (ygA R D L G gr) 49)) (.cells (ydA false yN 0) 59);have v0:=((ah w (yvL c ng (.slice ao la ca) p) 57).l bg).l bx;have g0:=(ah (w.alloc (.cells (yvA c ng (.slice ao la ca) p) 57)) (ygL R D L G gr) 49).l bx;have x0:=ah ((w.alloc (.cells (yvA c ng (.slice ao la ca) p) 57)).alloc (.cells (ygA R D L G gr) 49)) (ydL false yN 0) 59;have b0:=aa (aa bv bg) bx;rw[World.size_alloc] at g0;rw[World.size_alloc,World.size_alloc] at x0;clear bv bg bx
 go_enter func41,ntmps41
 go_upto_region 1 with fail
 generalize((w.alloc (.cells (yvA c ng (.slice ao la ca) p) 57)).alloc (.cells (ygA R D L G gr) 49)).alloc (.cells (ydA false yN 0) 59)=W0 at v0 g0 x0 b0⊢;obtain⟨a0,a1,a2,a3⟩:=v0.cs4;obtain⟨y0,y1,y2,y3,y4⟩:=g0.cs5
 go_wp2_with fail
 refine(HN.out _ b0).mono ?_;rintro z w1 ⟨sv,rfl,o1,b1⟩;obtain⟨so,sc,hv⟩:=o1.rd.shape;subst hv;have r1:=o1.rd;have fa:Far w.heap.size (yT so t.n sc):=fun a n c hv=>Nat.le_trans b0.size (JH o1 a n c hv)
 simp only at r1⊢;clear o1 HN a0 a1 a2 a3 y0 y1 y2 y3 y4 v0 g0;have bl:=af w1 (.cells (yDA t so sc) 59);have q1:=ah w1 (yDL t so sc) 59;have r2:=r1.l bl;have x2:=(x0.l b1).l bl;have b02:=aa (aa b0 b1) bl;have hlt:w.heap.size+1+1<w1.heap.size:=(x0.l b1).lt
 go_upto_region 2 with fail
 generalize w1.alloc (.cells (yDA t so sc) 59)=W1 at q1 r2 x2 b02⊢;generalize w1.heap.size=PQ at q1 hlt⊢;have cR:au (((W1.setCell ⟨w.heap.size+1+1,0,none⟩ (.bool t.s)).setCell ⟨w.heap.size+1+1,1,none⟩ (yT so t.n sc)).setCell ⟨w.heap.size+1+1,2,none⟩ (yi t.e)) (w.heap.size+1+1) 59 (yDL t so sc):=(((x2.set 0 (.bool t.s)).set 1 (yT so t.n sc)).set 2 (yi t.e));have bu:=((ag W1 (w.heap.size+1+1) 0 (.bool t.s)).trans (ag _ (w.heap.size+1+1) 1 (yT so t.n sc))).trans (ag _ (w.heap.size+1+1) 2 (yi t.e));have bR:=bu.below b02 (by omega);have rR:=bu.rd r2 (aX r2 x2 (by simp));have hl:=run_loadVar_mid (P:=Tryz.prog) _ (w.heap.size+1+1) 0 59 (yDL t so sc) _ cR.range underlying59 rfl (by kernel_rfl);have HH:Hid (_∧_∧_):=⟨hl,rR,bR⟩;obtain⟨u0,u1,u2⟩:=x2.cs3;have f0:=x2.f 0;have f1:=x2.f 1;have f2:=x2.f 2;obtain⟨y0,y1,y2⟩:=q1.cs3;clear hl bR rR bu cR b02 r2 r1 b1 bl b0 x0 x2 q1
 go_wp2
 obtain⟨hl,rR,bR⟩:=HH.out;exact bodyPost_ret (br results41 rfl hl) rfl ⟨_,rfl,rR,fa,bR⟩
theorem SY (c:Int)(g s:Bool)(o:Option Addr)(l k:Nat)(e:Int)(w:World):
  yC 68 #[yoV c g s (.slice o l k) e] w (yR w (.bool (c==3))):=by
 obtain⟨W3,hW4,q1,b2⟩:=cA w (yoL c g s (.slice o l k) e) 88;replace hW4:Hid _:=hW4
 go_enter func68,ntmps68
 go_upto_region 1 with fail
 rw[hW4.out];clear hW4;have c5:=q1.c 0 rfl
 go_wp2
 go_ret
 exact⟨rfl,b2⟩
theorem iY (c:Int)(g s:Bool)(o:Option Addr)(l k:Nat)(e:Int)(w:World)(h:(c==3)=false):yC 68 #[yoV c g s (.slice o l k) e] w (yR w (.bool false)):=by
 have:=SY c g s o l k e w;rw[h] at this;exact this
theorem SZ (c:Int)(g s:Bool)(o:Option Addr)(l k:Nat)(e:Int)(w:World):
  yC 216 #[yoV c g s (.slice o l k) e] w (yR w (.bool (c==1))):=by
 obtain⟨W3,hW4,q1,b2⟩:=cA w (yoL c g s (.slice o l k) e) 88;replace hW4:Hid _:=hW4
 go_enter func216,ntmps216
 go_upto_region 1 with fail
 rw[hW4.out];clear hW4;have c5:=q1.c 0 rfl
 go_wp2
 go_ret
 exact⟨rfl,b2⟩
theorem BR (g s:Bool)(o:Option Addr)(l k:Nat)(e:Int)(w:World):yC 216 #[yoV 1 g s (.slice o l k) e] w (yR w (.bool true)):=SZ 1 g s o l k e w
theorem sC (c:Int)(g s:Bool)(o:Option Addr)(l k:Nat)(e:Int)(w:World)(h:(c==1)=false):yC 216 #[yoV c g s (.slice o l k) e] w (yR w (.bool false)):=by
 have:=SZ c g s o l k e w;rw[h] at this;exact this
theorem Ol (cy c:Int)(g:Bool)(t u:ak)(n wy fam R D L G:Int)(gr:Bool)(gx gy:Bool)(x y:ak)(xo yo:Option Addr)(xc yc:Nat)(w:World)(hy3:(cy==3)=false)
  (HT: ∀w1,yB w w1→yC 217 #[yDV x xo xc,yDV y yo yc] w1 (jN w1 u))
  (HM: ∀uo uc w1,Rd w1 .u32 (yT uo u.n uc) (Dg.dg 4294967296 u.n)→yC 69 #[yDV u uo uc,.bool (gx != gy)] w1 (xj w1 c g t)):
  yC 170 #[ykV n wy fam R D L G gr,yOV 1 gx x xo xc,yOV cy gy y yo yc] w (dU w c g t 0):=by
 replace HT:Hid _:=HT;replace HM:Hid _:=HM;obtain⟨W6,hW7,q1,q2,q3,q4,b5⟩:=pi w (ykL n wy fam R D L G gr) 83 (yOL 1 gx x xo xc) 88 (yOL cy gy y yo yc) 88 (yoL 0 false false yN 0) 88;replace hW7:Hid _:=hW7;clear q1
 go_enter func170,ntmps170
 go_upto_region 1 with fail
 rw[hW7.out];clear hW7;obtain⟨c8,c9,c10,c11,c12⟩:=q2.cs5;have c13:=q3.c 1 rfl
 go_wp2_with fail
 refine(iY _ _ _ _ _ _ _ _ rfl).mono ?_;rintro zz w14 ⟨rfl,bb15⟩;have q16:=q2.l bb15;have q17:=q3.l bb15;have q18:=q4.l bb15;have b19:=aa b5 bb15;clear q2 q3 q4 b5 bb15 c8 c9 c10 c11 c12 c13;obtain⟨c20,c21,c22,c23,c24⟩:=q16.cs5
 go_wp2_with fail
 refine(BR _ _ _ _ _ _ _).mono ?_;rintro zz w25 ⟨rfl,bb26⟩;have q27:=q16.l bb26;have q28:=q17.l bb26;have q29:=q18.l bb26;have b30:=aa b19 bb26;clear q16 q17 q18 b19 bb26 c20 c21 c22 c23 c24;obtain⟨c31,c32,c33,c34,c35⟩:=q28.cs5
 go_wp2_with fail
 refine(iY _ _ _ _ _ _ _ _ hy3).mono ?_;rintro zz w36 ⟨rfl,bb37⟩;have q38:=q27.l bb37;have q39:=q28.l bb37;have q40:=q29.l bb37;have b41:=aa b30 bb37;clear q27 q28 q29 b30 bb37 c31 c32 c33 c34 c35;obtain⟨c42,c43,c44,c45,c46⟩:=q38.cs5
 go_wp2_with fail
 refine(iY _ _ _ _ _ _ _ _ rfl).mono ?_;rintro zz w47 ⟨rfl,bb48⟩;have q49:=q38.l bb48;have q50:=q39.l bb48;have q51:=q40.l bb48;have b52:=aa b41 bb48;clear q38 q39 q40 b41 bb48 c42 c43 c44 c45 c46;obtain⟨c53,c54,c55,c56,c57⟩:=q50.cs5
 go_wp2_with fail
 refine(iY _ _ _ _ _ _ _ _ hy3).mono ?_;rintro zz w58 ⟨rfl,bb59⟩;have q60:=q49.l bb59;have q61:=q50.l bb59;have q62:=q51.l bb59;have b63:=aa b52 bb59;clear q49 q50 q51 b52 bb59 c53 c54 c55 c56 c57;have c64:=q60.c 2 rfl;have c65:=q60.c 3 rfl;have c66:=q60.c 4 rfl;have c67:=q61.c 2 rfl;have c68:=q61.c 3 rfl;have c69:=q61.c 4 rfl
 go_wp2_with fail
 refine(HT.out _ b63).mono ?_;rintro zz w70 ⟨v172,rfl,r173,bb71⟩;have q74:=q62.l bb71;have b75:=aa b63 bb71;have r76:=r173.rd;obtain⟨uo,uc,hv⟩:=r76.shape;subst hv;clear q60 q61 q62 b63 bb71 r173 HT c64 c65 c66 c67 c68 c69
 go_wp2_with fail
 refine(HM.out _ _ _ r76).mono ?_;rintro zz w77 ⟨v179,rfl,r180,bb78⟩;have q81:=q74.l bb78;have r82:=r76.l bb78;have b83:=aa b75 bb78;obtain⟨so,sc,hv⟩:=r180.shape;subst hv;clear q74 r76 b75 bb78 HM;have hf:=dL (P:=Tryz.prog) q81 b83 (by omega) underlying88 rfl (by kernel_rfl) (yi c) (.bool g) (.bool t.s) (yT so t.n sc) (yi t.e);have HH:Hid (_∧_∧_):=⟨hf.1,hf.2.2.rd r180 (aX r180 q81 (by simp)),hf.2.1⟩;obtain⟨⟨z0,z1,z2,z3,z4⟩,y0,y1,y2,y3,y4⟩:=dN q81;clear hf q81 r82 r180 b83
 go_wp2
 obtain⟨hl,rRs,bR⟩:=HH.out;exact bodyPost_ret (aj results170 rfl rfl hl) rfl ⟨_,rfl,rRs,bR⟩
theorem adn (n wy R D L G:Int)(gr ng:Bool)(w:World)
  (HN:yJ 134 #[yi 3] (yi 5)):
  yC 131 #[ykV n wy 3 R D L G gr,.bool ng] w (iT w 5 false 0 0):=by
 replace HN:Hid _:=HN;have ad:=af w (.cells (ykA n wy 3 R D L G gr) 83);have av:=af (w.alloc (.cells (ykA n wy 3 R D L G gr) 83)) (.cells (yvA 0 false yN 0) 57);have d0:=(ah w (ykL n wy 3 R D L G gr) 83).l av;have v0:=ah (w.alloc (.cells (ykA n wy 3 R D L G gr) 83)) (yvL 0 false yN 0) 57;rw[World.size_alloc] at v0;have b0:=aa ad av;clear ad av
 go_enter func131,ntmps131
 go_upto_block 0 with fail
 generalize(w.alloc (.cells (ykA n wy 3 R D L G gr) 83)).alloc (.cells (yvA 0 false yN 0) 57)=W0 at d0 v0 b0⊢;obtain⟨y0,y1,y2,y3,y4,y5,y6,y7⟩:=d0.cs8
 go_wp2_with fail
 refine(HN.out _).mono ?_;rintro z w1 ⟨rfl,b1⟩;have v1:=v0.l b1;have b01:=aa b0 b1;clear y0 y1 y2 y3 y4 y5 y6 y7 d0 v0 b0 b1;have cR:au ((((w1.setCell ⟨w.heap.size+1,0,none⟩ (yi 5)).setCell ⟨w.heap.size+1,1,none⟩ (.bool false)).setCell ⟨w.heap.size+1,2,none⟩ yN).setCell ⟨w.heap.size+1,3,none⟩ (yi 0)) (w.heap.size+1) 57 (yvL 5 false yN 0):=((((v1.set 0 (yi 5)).set 1 (.bool false)).set 2 yN).set 3 (yi 0));have bu:=(((ag w1 (w.heap.size+1) 0 (yi 5)).trans (ag _ (w.heap.size+1) 1 (.bool false))).trans (ag _ (w.heap.size+1) 2 yN)).trans (ag _ (w.heap.size+1) 3 (yi 0));have bR:=bu.below b01 (by omega);have hl:=run_loadVar_mid (P:=Tryz.prog) _ (w.heap.size+1) 0 57 (yvL 5 false yN 0) _ cR.range underlying57 rfl (by kernel_rfl);have HH:Hid (_∧_):=⟨hl,bR⟩;obtain⟨z0,z1,z2,z3⟩:=v1.cs4;have fz0:=v1.f 0;have fz1:=v1.f 1;have fz2:=v1.f 2;have fz3:=v1.f 3;clear hl bR bu cR;clear v1 b01
 go_wp2
 obtain⟨hl,bR⟩:=HH.out;exact bodyPost_ret (br results131 rfl hl) rfl ⟨_,rfl,aN _ _,bR⟩
theorem Lr (n wy fam R D L G pw:Int)(gr ng ex un:Bool)(ao:Option Addr)(la ca:Nat)(c q:Int)(g:Bool)(m:Nat)(w:World)
  (HO: ∀w1,yB w w1→yC 131 #[ykV n wy fam R D L G gr,.bool ng] w1 (iT w1 c g m q)):
  yC 63 #[ykV n wy fam R D L G gr,ypV ng (.slice ao la ca) pw ex true un] w (B6 w c g m q 5):=by
 replace HO:Hid _:=HO;have a1:=af w (.cells (ykA n wy fam R D L G gr) 83);have a2:=af (w.alloc (.cells (ykA n wy fam R D L G gr) 83)) (.cells (ypA ng (.slice ao la ca) pw ex true un) 140);have a3:=af ((w.alloc (.cells (ykA n wy fam R D L G gr) 83)).alloc (.cells (ypA ng (.slice ao la ca) pw ex true un) 140)) (.cells (yvA 0 false yN 0) 57);have d0:=((ah w (ykL n wy fam R D L G gr) 83).l a2).l a3;have p0:=(ah (w.alloc (.cells (ykA n wy fam R D L G gr) 83)) (ypL ng (.slice ao la ca) pw ex true un) 140).l a3;have v0:=ah ((w.alloc (.cells (ykA n wy fam R D L G gr) 83)).alloc (.cells (ypA ng (.slice ao la ca) pw ex true un) 140)) (yvL 0 false yN 0) 57;rw[World.size_alloc] at p0;rw[World.size_alloc,World.size_alloc] at v0;have b0:=aa (aa a1 a2) a3;clear a1 a2 a3
 go_enter func63,ntmps63
 go_upto_block 0 with fail
 generalize((w.alloc (.cells (ykA n wy fam R D L G gr) 83)).alloc (.cells (ypA ng (.slice ao la ca) pw ex true un) 140)).alloc (.cells (yvA 0 false yN 0) 57)=W0 at d0 p0 v0 b0⊢;obtain⟨y0,y1,y2,y3,y4,y5,y6,y7⟩:=d0.cs8;obtain⟨x0,x1,x2,x3,x4,x5⟩:=p0.cs6
 go_wp2_with fail
 refine(HO.out _ b0).mono ?_;rintro z w1 ⟨u,rfl,r1,b1⟩;obtain⟨mo,mc,hu⟩:=r1.shape;subst hu;have v1:=v0.l b1;have b01:=aa b0 b1;clear y0 y1 y2 y3 y4 y5 y6 y7 x0 x1 x2 x3 x4 x5 d0 p0 v0 b0 b1 HO;have cR:au ((((w1.setCell ⟨w.heap.size+1+1,0,none⟩ (yi c)).setCell ⟨w.heap.size+1+1,1,none⟩ (.bool g)).setCell ⟨w.heap.size+1+1,2,none⟩ (yT mo m mc)).setCell ⟨w.heap.size+1+1,3,none⟩ (yi q)) (w.heap.size+1+1) 57 (yvL c g (yT mo m mc) q):=((((v1.set 0 (yi c)).set 1 (.bool g)).set 2 (yT mo m mc)).set 3 (yi q));have bu:=(((ag w1 (w.heap.size+1+1) 0 (yi c)).trans (ag _ (w.heap.size+1+1) 1 (.bool g))).trans (ag _ (w.heap.size+1+1) 2 (yT mo m mc))).trans (ag _ (w.heap.size+1+1) 3 (yi q));have bR:=bu.below b01 (by omega);have rR:=bu.rd r1 (aX r1 v1 (by simp));have hl:=run_loadVar_mid (P:=Tryz.prog) _ (w.heap.size+1+1) 0 57 (yvL c g (yT mo m mc) q) _ cR.range underlying57 rfl (by kernel_rfl);have HH:Hid (_∧_∧_):=⟨hl,rR,bR⟩;obtain⟨z0,z1,z2,z3⟩:=v1.cs4;have fz0:=v1.f 0;have fz1:=v1.f 1;have fz2:=v1.f 2;have fz3:=v1.f 3;clear hl bR bu cR rR;clear v1 b01 r1
 go_wp2
 obtain⟨hl,rR,bR⟩:=HH.out;exact bodyPost_ret (aj results63 rfl rfl hl) rfl ⟨_,rfl,rR,bR⟩
theorem OU (n wy fam R D L G pw:Int)(gr ng ex:Bool)(ao:Option Addr)(la ca:Nat)(w:World)(hlt:pw<L):
  yC 63 #[ykV n wy fam R D L G gr,ypV ng (.slice ao la ca) pw ex false true] w (B6 w 1 false 0 0 3):=by
 have a1:=af w (.cells (ykA n wy fam R D L G gr) 83);have a2:=af (w.alloc (.cells (ykA n wy fam R D L G gr) 83)) (.cells (ypA ng (.slice ao la ca) pw ex false true) 140);have a3:=af ((w.alloc (.cells (ykA n wy fam R D L G gr) 83)).alloc (.cells (ypA ng (.slice ao la ca) pw ex false true) 140)) (.cells (yvA 0 false yN 0) 57);have d0:=((ah w (ykL n wy fam R D L G gr) 83).l a2).l a3;have p0:=(ah (w.alloc (.cells (ykA n wy fam R D L G gr) 83)) (ypL ng (.slice ao la ca) pw ex false true) 140).l a3;have v0:=ah ((w.alloc (.cells (ykA n wy fam R D L G gr) 83)).alloc (.cells (ypA ng (.slice ao la ca) pw ex false true) 140)) (yvL 0 false yN 0) 57;rw[World.size_alloc] at p0;rw[World.size_alloc,World.size_alloc] at v0;have b0:=aa (aa a1 a2) a3;clear a1 a2 a3
 go_enter func63,ntmps63
 go_upto_block 0 with fail
 generalize((w.alloc (.cells (ykA n wy fam R D L G gr) 83)).alloc (.cells (ypA ng (.slice ao la ca) pw ex false true) 140)).alloc (.cells (yvA 0 false yN 0) 57)=W0 at d0 p0 v0 b0⊢;obtain⟨x0,x1,x2,x3,x4,x5⟩:=p0.cs6;have y5:=d0.c 5 rfl;have cR:au ((((W0.setCell ⟨w.heap.size+1+1,0,none⟩ (yi 1)).setCell ⟨w.heap.size+1+1,1,none⟩ (.bool false)).setCell ⟨w.heap.size+1+1,2,none⟩ yN).setCell ⟨w.heap.size+1+1,3,none⟩ (yi 0)) (w.heap.size+1+1) 57 (yvL 1 false yN 0):=((((v0.set 0 (yi 1)).set 1 (.bool false)).set 2 yN).set 3 (yi 0));have bu:=(((ag W0 (w.heap.size+1+1) 0 (yi 1)).trans (ag _ (w.heap.size+1+1) 1 (.bool false))).trans (ag _ (w.heap.size+1+1) 2 yN)).trans (ag _ (w.heap.size+1+1) 3 (yi 0));have bR:=bu.below b0 (by omega);have hl:=run_loadVar_mid (P:=Tryz.prog) _ (w.heap.size+1+1) 0 57 (yvL 1 false yN 0) _ cR.range underlying57 rfl (by kernel_rfl);have HH:Hid (_∧_):=⟨hl,bR⟩;obtain⟨z0,z1,z2,z3⟩:=v0.cs4;have fz0:=v0.f 0;have fz1:=v0.f 1;have fz2:=v0.f 2;have fz3:=v0.f 3;clear hl bR bu cR;clear v0 b0 d0 p0
 go_wp2
 obtain⟨hl,bR⟩:=HH.out;exact bodyPost_ret (aj results63 rfl rfl hl) rfl ⟨_,rfl,aN _ _,bR⟩
def ovV (k:Nat)(wy:Int)(ng:Bool):Int×Bool×Nat×Int:=
 if dK k=3 then(5,false,0,0) else if dK k=1∧aaV wy ng=true then(3,ng,0,0) else(2,ng,rdN k^dgN k-1,gsI k)
def pG (k:Nat)(wy:Int)(P:fz):Int×Bool×Nat×Int×Int:=
 if P.ov=true then((ovV k wy P.s).1,(ovV k wy P.s).2.1,(ovV k wy P.s).2.2.1,(ovV k wy P.s).2.2.2,5)
 else if P.un=true∧P.p<lsI k then(1,false,0,0,3)
 else((if P.d=0 then 1 else 2),P.s,P.d,P.p,if P.ex=true then 0 else if P.un=true then 3 else 1)
theorem XA (t:ak)(to0:Option Addr)(tc:Nat)(w:World)(hr:Rd w .u32 (yT to0 t.n tc) (Dg.dg 4294967296 t.n))(hb:bitLen t.n≤100000)(e1: -100000≤t.e)(e2:t.e≤100000)(hT:Tab w):
  yC 197 #[yDV t to0 tc,yi 128] w fun z w'=> ∃v,z= .returned (.agg #[.bool (eQ t).s,v,yi (eQ t).e])∧Rd w' .u32 v (Dg.dg 4294967296 (eQ t).n)∧yB w w':=by
 have hL:(Dg.dg 4294967296 t.n).length≤100000:=jq (wZ (Nat.le_refl _)) (by omega)
 by_cases hs:bitLen t.n≤128
 ·rw[show eQ t=t from if_pos hs]
  exact(EQ t to0 tc w hr hL hs).mono (fun z w' h=>⟨_,h.1,hr.l h.2,h.2⟩)
 ·have h0:t.n≠0:=fun h=>hs (by rw[h];exact Nat.le_of_lt_succ (by rw[show bitLen 0=0 from rfl];omega))
  obtain⟨sp,hsp⟩: ∃s:Nat,bitLen t.n-128=s:=⟨_,rfl⟩;have hk:eQ t=d8 t.s (t.n/2^sp) (t.e+(sp:Int)) (decide (tz t.n<sp)):=by
   unfold eQ;rw[if_neg hs,hsp]
  rw[hk];have hL2:(Dg.dg 4294967296 (t.n/2^sp)).length≤100000:=Nat.le_trans (aH 4294967296 _ _ (by omega) (Nat.div_le_self _ _)) hL;refine adz t _ to0 tc (t.n/2^sp) (bitLen t.n:Int) (sp:Int) (-(sp:Int)) (tz t.n:Int) (t.e+(sp:Int)) w ?_ (by omega) ?_ ?_ (fun w1=>cN _ _ _ _ _ w1) (fun w1 b=> ?_) (fun w1 b=> ?_) (fun w1 b=> ?_) (fun mo mc w1 hm=> ?_)
  ·rw[show((bitLen t.n:Nat):Int)-128=(sp:Int) from by omega]
   exact IntWalk.i64_in _ ⟨by omega,by omega⟩
  ·exact IntWalk.i64_in _ ⟨by omega,by omega⟩
  ·exact IntWalk.i64_in _ ⟨by omega,by omega⟩
  ·have:=kE _ (Dg.dg 4294967296 t.n) w1 (hr.l b) (Dg.small_dg _ _ (by omega)) (Dg.norm_dg _ _ (by omega)) (by omega)
   rwa [Dg.vl_dg _ _ (by omega)] at this
  ·have:=Gl _ t.n w1 (hr.l b) (by omega) (hT.l b)
   rwa [if_neg h0] at this
  ·have:=eO _ (Dg.dg 4294967296 t.n) (-(sp:Int)) w1 (hr.l b) (Dg.small_dg _ _ (by omega)) (by omega) (by omega) (by omega)
   rwa [Dg.vl_dg _ _ (by omega),show shN t.n (-(sp:Int))=t.n/2^sp from by
    unfold shN;rw[if_pos (by omega),show(-(-(sp:Int))).toNat=sp from by omega]] at this
  ·have:=xG t.s _ (t.n/2^sp) (t.e+(sp:Int)) (decide ((tz t.n:Int)< (sp:Int))) w1 hm (by omega) (by omega) (by omega)
   rwa [show decide ((tz t.n:Int)< (sp:Int))=decide (tz t.n<sp) from decide_eq_decide.2 (by omega)] at this⊢
theorem NV (t:ak)(to0:Option Addr)(tc:Nat)(w:World)(h0:t.n≠0)(hn:sH t)(hr:Rd w .u32 (yT to0 t.n tc) (Dg.dg 4294967296 t.n))(hT:Tab w):
  yC 133 #[yDV t to0 tc] w (Kx w t.s (rtN t) (rtM t) (rtE t)):=by
 obtain⟨h1,h2⟩:=hn;obtain⟨k1,k2,k3,k4,k5⟩:=qY t h0;have hk:(eQ t).e≤50000:=by
  by_cases g:bitLen t.n≤128
  ·rw[show eQ t=t from if_pos g]
   omega
  ·omega
 have hL:(Dg.dg 4294967296 (eQ t).n).length≤5:=jq k3 (by omega);have HK:=fun w1 (b:yB w w1)=>XA t to0 tc w1 (hr.l b) (by omega) (by omega) (by omega) (hT.l b)
 have hmx:min (max (eQ t).e (-20000)) 20000=rtE t:=by rw[rtE]
 have key:yC 133 #[yDV t to0 tc] w (Kx w (eQ t).s (rtN t) (rtM t) (rtE t)):=by
  by_cases hlt:rtE t< (eQ t).e
  ·have h20:rtE t=20000∨rtE t= -20000:=by unfold rtE at hlt⊢;omega
   refine Ct t (eQ t) to0 tc (rtE t) ((eQ t).e-rtE t) (rtN t) (rtM t) w hmx HK (fun _=>⟨IntWalk.i64_in _ ⟨by omega,by omega⟩, ?_,fun ko kc w1 hk2=> ?_⟩) (fun h=>by omega)
   ·unfold rtM
    rw[show(rtE t-(eQ t).e).toNat=0 from by omega,Nat.pow_zero]
   ·have:=eO _ (Dg.dg 4294967296 (eQ t).n) ((eQ t).e-rtE t) w1 hk2 (Dg.small_dg _ _ (by omega)) (by omega) (by omega) (by omega)
    rwa [Dg.vl_dg _ _ (by omega),show shN (eQ t).n ((eQ t).e-rtE t)=rtN t from by unfold shN rtN;rw[if_neg (by omega)]] at this
  ·have hE: -20000≤rtE t∧rtE t≤20000:=by unfold rtE;omega
   refine Ct t (eQ t) to0 tc (rtE t) (rtE t-(eQ t).e) (rtN t) (rtM t) w hmx HK (fun h=>by omega) (fun _=>⟨IntWalk.i64_in _ ⟨by omega,by omega⟩, ?_,fun q w1 hq=> ?_⟩)
   ·unfold rtN
    rw[show((eQ t).e-rtE t).toNat=0 from by omega,Nat.pow_zero,Nat.mul_one]
   ·have:=eO (.slice (some ⟨q,0,none⟩) 1 1) [1] (rtE t-(eQ t).e) w1 (xD hq) (Dg.small_cons.2 ⟨by omega,Dg.small_nil _ (by omega)⟩) (by simp) (by omega) (by omega)
    rwa [show Dg.vl 4294967296 [1]=1 from rfl,show shN 1 (rtE t-(eQ t).e)=rtM t from by unfold shN rtM;rw[if_neg (by omega),Nat.one_mul]] at this
 rw[k2] at key;exact key
theorem tprint_any (g:Bool)(H C k:Nat)(P:Int)(ho:Option Addr)(hc:Nat)(w:World)(rh:Rd w .u32 (yT ho H hc) (Dg.dg 4294967296 H))(hT:TxW w)(hH:H<2*10^C)(hC:C≤37000)(hk1:1≤k)(hk2:k≤60)(hkC:k≤C)(p1: -100000≤P)(p2:P≤100000):
  yC 26 #[.agg #[.bool g,yT ho H hc,yi C,yi P],yi k] w (yR w (.string (prR g H C P k))):=by
 obtain⟨a,ha⟩: ∃a,a=148002:=⟨_,rfl⟩;have hHa:H<2^a:=by
  refine Nat.lt_of_lt_of_le hH (Nat.le_trans (Nat.mul_le_mul_left 2 (pow10_two C)) ?_);rw[←Nat.pow_succ'];exact Nat.pow_le_pow_right (by omega) (by omega)
 have hPa:10^ (C-k)<2^a:=Nat.lt_of_le_of_lt (pow10_two _) (Nat.pow_lt_pow_right (by omega) (by omega));have hUa:prU C k<2^a:=by
  unfold prU;refine Nat.lt_of_le_of_lt (Nat.mul_le_mul_right 2 (pow10_two _)) ?_;rw[←Nat.pow_succ];exact Nat.pow_lt_pow_right (by omega) (by omega)
 have hU0:prU C k≠0:=Nat.ne_of_gt (Nat.mul_pos (Nat.pow_pos (by omega)) (by omega));have ln: ∀m,m<2^a→(Dg.dg 4294967296 m).length≤900000:=fun m h=>Nat.le_trans (jq (L:=4626) h (by omega)) (by omega)
 have hra:H % prU C k<2^a:=Nat.lt_trans (Nat.mod_lt _ (Nat.pos_of_ne_zero hU0)) hUa;have hfa:H/prU C k<2^a:=Nat.lt_of_le_of_lt (Nat.div_le_self _ _) hHa;have hQ:=prQ_le hH hkC;have hQ2:prQ H C k<10^ (k+1):=Nat.lt_of_le_of_lt hQ (Nat.pow_lt_pow_right (by omega) (by omega));have hTs:=decS_le hQ2 (by omega);have hTp:=decS_one (prQ H C k);have hQl:(Dg.dg 4294967296 (prQ H C k)).length≤100:=by
  obtain⟨b,hb⟩: ∃b,b=244:=⟨_,rfl⟩;exact jq (k:=b+1) (Nat.lt_of_lt_of_le hQ2 (Nat.le_trans (pow10_two _) (Nat.pow_le_pow_right (by omega) (by omega)))) (by omega)
 have HP: ∀q w1,au w1 q 116 [.int .u32 10]→yC 49 #[.slice (some ⟨q,0,none⟩) 1 1,yi ((C-k:Nat):Int)] w1 (NmR w1 (10^ (C-k))):=fun q w1 hq=>by
  have hr:Rd w1 .u32 (.slice (some ⟨q,0,none⟩) 1 1) (Dg.dg 4294967296 10):=by
   rw[show Dg.dg 4294967296 10=[10] by decide]
   exact⟨_,_,rfl,by simp,by unfold maxLen;simp,fun _=>⟨_,0,rfl,fun i hi=>by
    obtain rfl:i=0:=by simpa using hi
    exact hq.c 0 rfl⟩⟩
  exact(Iq _ 10 (C-k) 1 w1 hr (by decide) (by omega) (by omega) (by omega)).mono fun _ _ h=>num_nmR h
 have HC: ∀so sc uo uc w1,Rd w1 .u32 (.slice so (Dg.dg 4294967296 (H % prU C k*2)).length sc) (Dg.dg 4294967296 (H % prU C k*2))→Rd w1 .u32 (.slice uo (Dg.dg 4294967296 (prU C k)).length uc) (Dg.dg 4294967296 (prU C k))→yC 51 #[.slice so (Dg.dg 4294967296 (H % prU C k*2)).length sc,.slice uo (Dg.dg 4294967296 (prU C k)).length uc] w1 (yR w1 (yi (dm (H % prU C k*2:Nat) (prU C k:Nat)))):=fun so sc uo uc w1 h1 h2=>by
  have:=jF _ _ _ _ w1 h1 h2 (Dg.small_dg _ _ (by omega)) (Dg.small_dg _ _ (by omega)) (Dg.norm_dg _ _ (by omega)) (Dg.norm_dg _ _ (by omega));rw[Dg.vl_dg _ _ (by omega),Dg.vl_dg _ _ (by omega)] at this;exact this
 have HX: ∀fo fc w1,Rd w1 .u32 (.slice fo (Dg.dg 4294967296 (H/prU C k)).length fc) (Dg.dg 4294967296 (H/prU C k))→yC 52 #[.slice fo (Dg.dg 4294967296 (H/prU C k)).length fc] w1 (yR w1 (.bool (decide (H/prU C k % 2=1)))):=fun fo fc w1 h=>by
  refine(aaI _ _ w1 h).mono fun z w' hz=> ?_
  obtain⟨z1,z2⟩:=hz;subst z2;exact⟨z1,Below.refl _ _⟩
 have HA: ∀fo fc q w1,Rd w1 .u32 (.slice fo (Dg.dg 4294967296 (H/prU C k)).length fc) (Dg.dg 4294967296 (H/prU C k))→au w1 q 116 [.int .u32 1]→yC 48 #[.slice fo (Dg.dg 4294967296 (H/prU C k)).length fc,.slice (some ⟨q,0,none⟩) 1 1] w1 (NmR w1 (H/prU C k+1)):=fun fo fc q w1 h hq=>by
  have:=rj _ _ (Dg.dg 4294967296 (H/prU C k)) [1] w1 h (xD (hq.c 0 rfl)) (Dg.small_dg _ _ (by omega)) (Dg.small_cons.2 ⟨by omega,Dg.small_nil _ (by omega)⟩) (by have:=ln _ hfa;omega) (by simp);rw[Dg.vl_dg _ _ (by omega),show Dg.vl 4294967296 [1]=1 from rfl] at this
  exact this.mono fun _ _ h=>num_nmR h
 have HD: ∀go gc w1,Rd w1 .u32 (.slice go (Dg.dg 4294967296 (prQ H C k)).length gc) (Dg.dg 4294967296 (prQ H C k))→yC 46 #[.slice go (Dg.dg 4294967296 (prQ H C k)).length gc] w1 (yR w1 (.string (oW (prQ H C k)))):=fun go gc w1 h=>by
  have:=MR _ _ w1 h (Dg.small_dg _ _ (by omega)) (Dg.norm_dg _ _ (by omega)) (by omega);rw[Dg.vl_dg _ _ (by omega)] at this;exact this
 have hcase:(0<dm (H % prU C k*2:Nat) (prU C k:Nat)∧H/prU C k+1=prQ H C k)∨(dm (H % prU C k*2:Nat) (prU C k:Nat)=0∧decide (H/prU C k % 2=1)=true∧H/prU C k+1=prQ H C k)∨(dm (H % prU C k*2:Nat) (prU C k:Nat)=0∧decide (H/prU C k % 2=1)=false∧H/prU C k=prQ H C k)∨(dm (H % prU C k*2:Nat) (prU C k:Nat)<0∧H/prU C k=prQ H C k):=by
  unfold dm prQ
  rcases Nat.lt_trichotomy (H % prU C k*2) (prU C k) with h|h|h
  ·refine .inr (.inr (.inr ⟨by rw[if_pos (by omega)];decide,by rw[if_neg (by omega)]⟩))
  ·have e:(if((H % prU C k*2:Nat):Int)< ((prU C k:Nat):Int) then(-1:Int) else if((prU C k:Nat):Int)< ((H % prU C k*2:Nat):Int) then 1 else 0)=0:=by rw[if_neg (by omega),if_neg (by omega)]
   by_cases ho:H/prU C k % 2=1
   ·exact .inr (.inl ⟨e,decide_eq_true ho,by rw[if_pos (.inr ⟨h,ho⟩)]⟩)
   ·exact .inr (.inr (.inl ⟨e,decide_eq_false ho,by rw[if_neg (by omega)]⟩))
  ·exact .inl ⟨by rw[if_neg (by omega),if_pos (by omega)];decide,by rw[if_pos (.inl h)]⟩
 have HI:=fun(p:Int) (q1: -200000≤p) (q2:p≤200000) w1 (b:yB w w1)=>itoa_any p w1 (by omega) (by omega) (hT.l b)
 have hil:=fun(p:Int) (q1: -200000≤p) (q2:p≤200000)=>Lib.itoa_length_le p (by omega) (by omega)
 have hpw:IntKind.i64.wrap (P+1)=P+1:=IntWalk.i64_in _ ⟨by omega,by omega⟩;have hkk:IntKind.i64.wrap ((C:Int)-(k:Int))=((C-k:Nat):Int):=by rw[IntWalk.i64_in _ ⟨by omega,by omega⟩];omega
 exact tprint_W g _ H (10^ (C-k)) (prU C k) (H/prU C k) (H % prU C k) (H % prU C k*2) (H/prU C k+1) (prQ H C k) k ho hc C P _ _ (P+1) (oW (prQ H C k)) (fun p=>⟨(Lib.itoa p).toArray⟩) w rh hkk hpw ⟨hk1,hk2⟩ ⟨hTp,by omega⟩ ⟨by show(ByteArray.mk _).size≤_;rw[mk_size];have:=hil P (by omega) (by omega);omega,by show(ByteArray.mk _).size≤_;rw[mk_size];have:=hil (P+1) (by omega) (by omega);omega⟩ hcase HP (fun po pc w1 h=>shift1_any _ po pc w1 (ln _ hPa) h) (fun ho hc uo uc w1 h1 h2=>ov_any _ _ ho hc uo uc w1 (ln _ hHa) hU0 h1 h2) (fun ro rc w1 h=>shift1_any _ ro rc w1 (ln _ hra) h) HC HX HA HD ⟨HI P (by omega) (by omega),HI (P+1) (by omega) (by omega)⟩
end Go.Proofs.YtdhpndnncmagiaaGreatDoor
