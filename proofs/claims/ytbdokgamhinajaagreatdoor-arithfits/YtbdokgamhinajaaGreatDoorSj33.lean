/-
  Texts laid together: Gb6, As3.
-/
import Derived.Test.YtbdokgamhinajaaGreatDoorSj32
set_option maxRecDepth 100000
set_option maxHeartbeats 6400000
namespace Go.Proofs.YtbdokgamhinajaaGreatDoor
open _root_.Go.Proofs.Tryz
open Go.RowKit
theorem SY (c:Int)(g s:Bool)(o:Option Addr)(l k:Nat)(e:Int)(w:World):
  yC 60 #[yoV c g s (.slice o l k) e] w (yR w (.bool (c==3))):=by
 obtain⟨W3,hW4,q1,b2⟩:=cA w (yoL c g s (.slice o l k) e) 76;replace hW4:Hid _:=hW4
 go_enter func60,ntmps60
 go_upto_region 1 with fail
 rw[hW4.out];clear hW4;have c5:=q1.c 0 rfl
 go_wp2
 go_ret
 exact⟨rfl,b2⟩
theorem lF (g s:Bool)(o:Option Addr)(l k:Nat)(e:Int)(w:World):yC 60 #[yoV 3 g s (.slice o l k) e] w (yR w (.bool true)):=SY 3 g s o l k e w
theorem iY (c:Int)(g s:Bool)(o:Option Addr)(l k:Nat)(e:Int)(w:World)(h:(c==3)=false):yC 60 #[yoV c g s (.slice o l k) e] w (yR w (.bool false)):=by
 have:=SY c g s o l k e w;rw[h] at this;exact this
theorem Rz (c:Int)(n wy fam R D L G:Int)(gr:Bool)(x y:ak)(xo yo:Option Addr)(xc yc:Nat)(w:World)
  (HN:yJ 59 #[ykV n wy fam R D L G gr,yi 16] (.tuple #[yoV c false false (.slice none 0 0) 0,yi 16])):
  yC 31 #[ykV n wy fam R D L G gr,yOV 3 true x xo xc,yOV 3 false y yo yc] w (dU w c false ⟨false,0,0⟩ 16):=by
 replace HN:Hid _:=HN;obtain⟨W6,hW7,q1,q2,q3,q4,b5⟩:=pi w (ykL n wy fam R D L G gr) 69 (yOL 3 true x xo xc) 76 (yOL 3 false y yo yc) 76 (yoL 0 false false (.slice none 0 0) 0) 76;replace hW7:Hid _:=hW7
 go_enter func31,ntmps31
 go_upto_region 1 with fail
 rw[hW7.out];clear hW7;obtain⟨c8,c9,c10,c11,c12⟩:=q2.cs5
 go_wp2_with fail
 refine(lF _ _ _ _ _ _ _).mono ?_;rintro zz w13 ⟨rfl,bb14⟩;have q15:=q1.l bb14;have q16:=q2.l bb14;have q17:=q3.l bb14;have q18:=q4.l bb14;have b19:=aa b5 bb14;clear q1 q2 q3 q4 b5 bb14 c8 c9 c10 c11 c12;obtain⟨c20,c21,c22,c23,c24⟩:=q17.cs5
 go_wp2_with fail
 refine(lF _ _ _ _ _ _ _).mono ?_;rintro zz w25 ⟨rfl,bb26⟩;have q27:=q15.l bb26;have q28:=q16.l bb26;have q29:=q17.l bb26;have q30:=q18.l bb26;have b31:=aa b19 bb26;clear q15 q16 q17 q18 b19 bb26 c20 c21 c22 c23 c24;obtain⟨c32,c33,c34,c35,c36,c37,c38,c39⟩:=q27.cs8;have c40:=q28.c 1 rfl;have c41:=q29.c 1 rfl
 go_wp2_with fail
 refine(HN.out _).mono ?_;rintro zz w42 ⟨rfl,bb43⟩;have q44:=q30.l bb43;have b45:=aa b31 bb43;clear q27 q28 q29 q30 b31 bb43 HN c32 c33 c34 c35 c36 c37 c38 c39 c40 c41;have hf:=dL (P:=Tryz.prog) q44 b45 (by omega) underlying76 rfl (by kernel_rfl) (yi c) (.bool false) (.bool false) (.slice none 0 0) (yi 0);have HH:Hid (_∧_):=⟨hf.1,hf.2.1⟩;obtain⟨⟨z0,z1,z2,z3,z4⟩,y0,y1,y2,y3,y4⟩:=dN q44;clear hf q44 b45
 go_wp2
 obtain⟨hl,bR⟩:=HH.out;exact bodyPost_ret (aj results31 rfl rfl hl) rfl ⟨_,rfl,aN _ _,bR⟩
theorem RC (c:Int)(n wy fam R D L G:Int)(gr:Bool)(x y:ak)(xo yo:Option Addr)(xc yc:Nat)(w:World)
  (HN:yJ 59 #[ykV n wy fam R D L G gr,yi 16] (.tuple #[yoV c false false (.slice none 0 0) 0,yi 16])):
  yC 31 #[ykV n wy fam R D L G gr,yOV 3 false x xo xc,yOV 3 true y yo yc] w (dU w c false ⟨false,0,0⟩ 16):=by
 replace HN:Hid _:=HN;obtain⟨W6,hW7,q1,q2,q3,q4,b5⟩:=pi w (ykL n wy fam R D L G gr) 69 (yOL 3 false x xo xc) 76 (yOL 3 true y yo yc) 76 (yoL 0 false false (.slice none 0 0) 0) 76;replace hW7:Hid _:=hW7
 go_enter func31,ntmps31
 go_upto_region 1 with fail
 rw[hW7.out];clear hW7;obtain⟨c8,c9,c10,c11,c12⟩:=q2.cs5
 go_wp2_with fail
 refine(lF _ _ _ _ _ _ _).mono ?_;rintro zz w13 ⟨rfl,bb14⟩;have q15:=q1.l bb14;have q16:=q2.l bb14;have q17:=q3.l bb14;have q18:=q4.l bb14;have b19:=aa b5 bb14;clear q1 q2 q3 q4 b5 bb14 c8 c9 c10 c11 c12;obtain⟨c20,c21,c22,c23,c24⟩:=q17.cs5
 go_wp2_with fail
 refine(lF _ _ _ _ _ _ _).mono ?_;rintro zz w25 ⟨rfl,bb26⟩;have q27:=q15.l bb26;have q28:=q16.l bb26;have q29:=q17.l bb26;have q30:=q18.l bb26;have b31:=aa b19 bb26;clear q15 q16 q17 q18 b19 bb26 c20 c21 c22 c23 c24;obtain⟨c32,c33,c34,c35,c36,c37,c38,c39⟩:=q27.cs8;have c40:=q28.c 1 rfl;have c41:=q29.c 1 rfl
 go_wp2_with fail
 refine(HN.out _).mono ?_;rintro zz w42 ⟨rfl,bb43⟩;have q44:=q30.l bb43;have b45:=aa b31 bb43;clear q27 q28 q29 q30 b31 bb43 HN c32 c33 c34 c35 c36 c37 c38 c39 c40 c41;have hf:=dL (P:=Tryz.prog) q44 b45 (by omega) underlying76 rfl (by kernel_rfl) (yi c) (.bool false) (.bool false) (.slice none 0 0) (yi 0);have HH:Hid (_∧_):=⟨hf.1,hf.2.1⟩;obtain⟨⟨z0,z1,z2,z3,z4⟩,y0,y1,y2,y3,y4⟩:=dN q44;clear hf q44 b45
 go_wp2
 obtain⟨hl,bR⟩:=HH.out;exact bodyPost_ret (aj results31 rfl rfl hl) rfl ⟨_,rfl,aN _ _,bR⟩
theorem S4 (n wy fam R D L G:Int)(gr:Bool)(gx:Bool)(x y:ak)(xo yo:Option Addr)(xc yc:Nat)(w:World)(rx:Rd w .u32 (.slice xo (Dg.dg 4294967296 x.n).length xc) (Dg.dg 4294967296 x.n)):
  yC 31 #[ykV n wy fam R D L G gr,yOV 3 gx x xo xc,yOV 3 gx y yo yc] w (dU w 3 gx x 0):=by
 obtain⟨W6,hW7,q1,q2,q3,q4,b5⟩:=pi w (ykL n wy fam R D L G gr) 69 (yOL 3 gx x xo xc) 76 (yOL 3 gx y yo yc) 76 (yoL 0 false false (.slice none 0 0) 0) 76;replace hW7:Hid _:=hW7;have r8:=rx.l b5;clear q1 rx
 go_enter func31,ntmps31
 go_upto_region 1 with fail
 rw[hW7.out];clear hW7;obtain⟨c9,c10,c11,c12,c13⟩:=q2.cs5
 go_wp2_with fail
 refine(lF _ _ _ _ _ _ _).mono ?_;rintro zz w14 ⟨rfl,bb15⟩;have q16:=q2.l bb15;have q17:=q3.l bb15;have q18:=q4.l bb15;have r19:=r8.l bb15;have b20:=aa b5 bb15;clear q2 q3 q4 r8 b5 bb15 c9 c10 c11 c12 c13;obtain⟨c21,c22,c23,c24,c25⟩:=q17.cs5
 go_wp2_with fail
 refine(lF _ _ _ _ _ _ _).mono ?_;rintro zz w26 ⟨rfl,bb27⟩;have q28:=q16.l bb27;have q29:=q17.l bb27;have q30:=q18.l bb27;have r31:=r19.l bb27;have b32:=aa b20 bb27;clear q16 q17 q18 r19 b20 bb27 c21 c22 c23 c24 c25;obtain⟨c33,c34,c35,c36,c37⟩:=q28.cs5;have c38:=q29.c 1 rfl
 go_wp2_with fail
 refine(lF _ _ _ _ _ _ _).mono ?_;rintro zz w39 ⟨rfl,bb40⟩;have q41:=q28.l bb40;have q42:=q30.l bb40;have r43:=r31.l bb40;have b44:=aa b32 bb40;clear q28 q29 q30 r31 b32 bb40 c33 c34 c35 c36 c37 c38;obtain⟨c45,c46,c47,c48,c49⟩:=q41.cs5;have hf:=dL (P:=Tryz.prog) q42 b44 (by omega) underlying76 rfl (by kernel_rfl) (yi 3) (.bool gx) (.bool x.s) (.slice xo (Dg.dg 4294967296 x.n).length xc) (yi x.e);have HH:Hid (_∧_∧_):=⟨hf.1,hf.2.2.rd r43 (aX r43 q42 (by simp)),hf.2.1⟩;obtain⟨⟨z0,z1,z2,z3,z4⟩,y0,y1,y2,y3,y4⟩:=dN q42;clear hf q41 q42 r43 b44
 go_wp2
 obtain⟨hl,rRx,bR⟩:=HH.out;exact bodyPost_ret (aj results31 rfl rfl hl) rfl ⟨_,rfl,rRx,bR⟩
theorem adM (cy:Int)(n wy fam R D L G:Int)(gr:Bool)(gx gy:Bool)(x y:ak)(xo yo:Option Addr)(xc yc:Nat)(w:World)(hy3:(cy==3)=false)(rx:Rd w .u32 (.slice xo (Dg.dg 4294967296 x.n).length xc) (Dg.dg 4294967296 x.n)):
  yC 31 #[ykV n wy fam R D L G gr,yOV 3 gx x xo xc,yOV cy gy y yo yc] w (dU w 3 gx x 0):=by
 obtain⟨W6,hW7,q1,q2,q3,q4,b5⟩:=pi w (ykL n wy fam R D L G gr) 69 (yOL 3 gx x xo xc) 76 (yOL cy gy y yo yc) 76 (yoL 0 false false (.slice none 0 0) 0) 76;replace hW7:Hid _:=hW7;have r8:=rx.l b5;clear q1 rx
 go_enter func31,ntmps31
 go_upto_region 1 with fail
 rw[hW7.out];clear hW7;obtain⟨c9,c10,c11,c12,c13⟩:=q2.cs5
 go_wp2_with fail
 refine(lF _ _ _ _ _ _ _).mono ?_;rintro zz w14 ⟨rfl,bb15⟩;have q16:=q2.l bb15;have q17:=q3.l bb15;have q18:=q4.l bb15;have r19:=r8.l bb15;have b20:=aa b5 bb15;clear q2 q3 q4 r8 b5 bb15 c9 c10 c11 c12 c13;obtain⟨c21,c22,c23,c24,c25⟩:=q17.cs5
 go_wp2_with fail
 refine(iY _ _ _ _ _ _ _ _ hy3).mono ?_;rintro zz w26 ⟨rfl,bb27⟩;have q28:=q16.l bb27;have q29:=q18.l bb27;have r30:=r19.l bb27;have b31:=aa b20 bb27;clear q16 q17 q18 r19 b20 bb27 c21 c22 c23 c24 c25;obtain⟨c32,c33,c34,c35,c36⟩:=q28.cs5
 go_wp2_with fail
 refine(lF _ _ _ _ _ _ _).mono ?_;rintro zz w37 ⟨rfl,bb38⟩;have q39:=q28.l bb38;have q40:=q29.l bb38;have r41:=r30.l bb38;have b42:=aa b31 bb38;clear q28 q29 r30 b31 bb38 c32 c33 c34 c35 c36;obtain⟨c43,c44,c45,c46,c47⟩:=q39.cs5;have hf:=dL (P:=Tryz.prog) q40 b42 (by omega) underlying76 rfl (by kernel_rfl) (yi 3) (.bool gx) (.bool x.s) (.slice xo (Dg.dg 4294967296 x.n).length xc) (yi x.e);have HH:Hid (_∧_∧_):=⟨hf.1,hf.2.2.rd r41 (aX r41 q40 (by simp)),hf.2.1⟩;obtain⟨⟨z0,z1,z2,z3,z4⟩,y0,y1,y2,y3,y4⟩:=dN q40;clear hf q39 q40 r41 b42
 go_wp2
 obtain⟨hl,rRx,bR⟩:=HH.out;exact bodyPost_ret (aj results31 rfl rfl hl) rfl ⟨_,rfl,rRx,bR⟩
theorem adN (cx:Int)(n wy fam R D L G:Int)(gr:Bool)(gx gy:Bool)(x y:ak)(xo yo:Option Addr)(xc yc:Nat)(w:World)(hx3:(cx==3)=false)(ry:Rd w .u32 (.slice yo (Dg.dg 4294967296 y.n).length yc) (Dg.dg 4294967296 y.n)):
  yC 31 #[ykV n wy fam R D L G gr,yOV cx gx x xo xc,yOV 3 gy y yo yc] w (dU w 3 gy y 0):=by
 obtain⟨W6,hW7,q1,q2,q3,q4,b5⟩:=pi w (ykL n wy fam R D L G gr) 69 (yOL cx gx x xo xc) 76 (yOL 3 gy y yo yc) 76 (yoL 0 false false (.slice none 0 0) 0) 76;replace hW7:Hid _:=hW7;have r8:=ry.l b5;clear q1 ry
 go_enter func31,ntmps31
 go_upto_region 1 with fail
 rw[hW7.out];clear hW7;obtain⟨c9,c10,c11,c12,c13⟩:=q2.cs5
 go_wp2_with fail
 refine(iY _ _ _ _ _ _ _ _ hx3).mono ?_;rintro zz w14 ⟨rfl,bb15⟩;have q16:=q2.l bb15;have q17:=q3.l bb15;have q18:=q4.l bb15;have r19:=r8.l bb15;have b20:=aa b5 bb15;clear q2 q3 q4 r8 b5 bb15 c9 c10 c11 c12 c13;obtain⟨c21,c22,c23,c24,c25⟩:=q16.cs5
 go_wp2_with fail
 refine(iY _ _ _ _ _ _ _ _ hx3).mono ?_;rintro zz w26 ⟨rfl,bb27⟩;have q28:=q17.l bb27;have q29:=q18.l bb27;have r30:=r19.l bb27;have b31:=aa b20 bb27;clear q16 q17 q18 r19 b20 bb27 c21 c22 c23 c24 c25;obtain⟨c32,c33,c34,c35,c36⟩:=q28.cs5
 go_wp2_with fail
 refine(lF _ _ _ _ _ _ _).mono ?_;rintro zz w37 ⟨rfl,bb38⟩;have q39:=q28.l bb38;have q40:=q29.l bb38;have r41:=r30.l bb38;have b42:=aa b31 bb38;clear q28 q29 r30 b31 bb38 c32 c33 c34 c35 c36;obtain⟨c43,c44,c45,c46,c47⟩:=q39.cs5;have hf:=dL (P:=Tryz.prog) q40 b42 (by omega) underlying76 rfl (by kernel_rfl) (yi 3) (.bool gy) (.bool y.s) (.slice yo (Dg.dg 4294967296 y.n).length yc) (yi y.e);have HH:Hid (_∧_∧_):=⟨hf.1,hf.2.2.rd r41 (aX r41 q40 (by simp)),hf.2.1⟩;obtain⟨⟨z0,z1,z2,z3,z4⟩,y0,y1,y2,y3,y4⟩:=dN q40;clear hf q39 q40 r41 b42
 go_wp2
 obtain⟨hl,rRy,bR⟩:=HH.out;exact bodyPost_ret (aj results31 rfl rfl hl) rfl ⟨_,rfl,rRy,bR⟩
theorem QM (n wy fam R D L G:Int)(gr ng:Bool)(r pw:Nat)(w:World)(hR:IntKind.u32.wrap R=(r:Int))
  (HP: ∀q w1,yB w w1→w1.cell? ⟨q,0,none⟩=some (.int .u32 (r:Int))→yC 161 #[.slice (some ⟨q,0,none⟩) 1 1,yi D] w1 (Num w1 pw))
  (HM: ∀vo vc q w1,Rd w1 .u32 (.slice vo (Dg.dg 4294967296 pw).length vc) (Dg.dg 4294967296 pw)→w1.cell? ⟨q,0,none⟩=some (.int .u32 1)→yC 109 #[.slice vo (Dg.dg 4294967296 pw).length vc,.slice (some ⟨q,0,none⟩) 1 1] w1 (Num w1 (pw-1))):
  yC 136 #[ykV n wy fam R D L G gr,.bool ng] w (iT w 2 ng (pw-1) G):=by
 replace HP:Hid _:=HP;replace HM:Hid _:=HM;have ad:=af w (.cells (ykA n wy fam R D L G gr) 69);have av:=af (w.alloc (.cells (ykA n wy fam R D L G gr) 69)) (.cells (yvA 0 false (.slice none 0 0) 0) 100);have d0:=(ah w (ykL n wy fam R D L G gr) 69).l av;have v0:=ah (w.alloc (.cells (ykA n wy fam R D L G gr) 69)) (yvL 0 false (.slice none 0 0) 0) 100;rw[World.size_alloc] at v0;have b0:=aa ad av;clear ad av
 go_enter func136,ntmps136
 go_upto_region 1 with fail
 generalize(w.alloc (.cells (ykA n wy fam R D L G gr) 69)).alloc (.cells (yvA 0 false (.slice none 0 0) 0) 100)=W0 at d0 v0 b0⊢;have y3:=d0.c 3 rfl;have y4:=d0.c 4 rfl;have al:=af W0 (.cells #[.int .u32 (r:Int)] 148);have hc:=(ah W0 [.int .u32 (r:Int)] 148).c 0 rfl;have d1:=d0.l al;have v1:=v0.l al;have b01:=aa b0 al;have z3:=d1.c 3 rfl;have z4:=d1.c 4 rfl;clear al
 go_wp2_with fail
 refine(HP.out _ _ b01 hc).mono ?_;rintro z w2 ⟨u,rfl,o2,b2⟩;obtain⟨vo,vc,hu⟩:=o2.rd.shape;subst hu;have r2:=o2.rd;have d2:=d1.l b2;have v2:=v1.l b2;have b02:=aa b01 b2;clear y3 y4 z3 z4 hc d0 v0 b0 d1 v1 b01 b2 o2 HP hR
 go_upto_region 2 with fail
 have bW:yB w2 w2.drew:=(Below.refl _ _).drew;have d3:=d2.l bW;have v3:=v2.l bW;have r3:=r2.l bW;have b03:=aa b02 bW;clear bW d2 v2 r2 b02;refine wp_region_held_drew (S:=fun wq=>wq.cell? ⟨w.heap.size,6,none⟩=some (yi G)) (by kernel_rfl) (d3.c 6 rfl) (fun hS0=> ?_)
 refine wpAnyH_take (i:=0) (v:= .bool ng) rfl (by kernel_rfl) (by kernel_rfl) (by kernel_rfl) (fun _ _ _ h=>h) (Or.inl ⟨by kernel_rfl,fun w0 _=>by kernel_rfl⟩) hS0 ?_
 refine wpAnyH_take (i:=1) (v:= .slice vo (Dg.dg 4294967296 pw).length vc) rfl (by kernel_rfl) (by kernel_rfl) (by kernel_rfl) (fun _ _ _ h=>h) (Or.inl ⟨by kernel_rfl,fun w0 _=>by kernel_rfl⟩) hS0 ?_
 refine wpAnyH_take (i:=4) (v:= .pointer (some ⟨w.heap.size,3,none⟩)) rfl (by kernel_rfl) (by kernel_rfl) (by kernel_rfl) (fun _ _ _ h=>h) (Or.inl ⟨by kernel_rfl,fun w0 _=>by kernel_rfl⟩) hS0 ?_
 refine wpAnyH_take (i:=5) (v:= .pointer (some ⟨w.heap.size,6,none⟩)) rfl (by kernel_rfl) (by kernel_rfl) (by kernel_rfl) (fun _ _ _ h=>h) (Or.inl ⟨by kernel_rfl,fun w0 _=>by kernel_rfl⟩) hS0 ?_
 refine wpAnyH_take (i:=6) (v:=yi G) rfl (by kernel_rfl) (by kernel_rfl) (by kernel_rfl) (fun _ _ _ h=>h) (Or.inl ⟨by kernel_rfl,fun w0 hw0=>gU 3 (.tmp 20) rfl w.heap.size 6 (by kernel_rfl) _ _ underlying3 rfl hw0⟩) hS0 ?_
 refine wpAnyH_ready (rs:=[2]) (by kernel_rfl) (by simp) ?_;refine AllReadyH.cons rfl (fun K hK=> ?_) AllReadyH.nil
 go_simp
 have al:=af w2.drew (.cells #[.int .u32 1] 148);have hc:=(ah w2.drew [.int .u32 1] 148).c 0 rfl;have d4:=d3.l al;have v4:=v3.l al;have r4:=r3.l al;have b04:=aa b03 al;refine hK.out _ _ (d4.c 6 rfl) (fun hS2=> ?_)
 clear hK K al d3 v3 r3 b03;refine wpAnyH_ready (rs:=[3]) (by kernel_rfl) (by simp) ?_;refine AllReadyH.cons rfl (fun K hK=> ?_) AllReadyH.nil
 go_simp
 refine(HM.out _ _ _ _ r4 hc).mono ?_;rintro z w5 ⟨u,rfl,o5,b5⟩;obtain⟨mo,mc,hu⟩:=o5.rd.shape;subst hu;have r5:=o5.rd;have d5:=d4.l b5;have v5:=v4.l b5;have b05:=aa b04 b5;refine hK.out _ _ (d5.c 6 rfl) (fun hS3=> ?_)
 clear hK K d4 v4 r4 b04 b5 o5 hc;have bu:=(((ag w5 (w.heap.size+1) 0 (yi 2)).trans (ag _ (w.heap.size+1) 1 (.bool ng))).trans (ag _ (w.heap.size+1) 2 (.slice mo (Dg.dg 4294967296 (pw-1)).length mc))).trans (ag _ (w.heap.size+1) 3 (yi G));have bR:yB w (w5.setCells (w.heap.size+1) 0 (yvL 2 ng (.slice mo (Dg.dg 4294967296 (pw-1)).length mc) G)):=bu.below b05 (by omega);have rR:Rd (w5.setCells (w.heap.size+1) 0 (yvL 2 ng (.slice mo (Dg.dg 4294967296 (pw-1)).length mc) G)) .u32 (.slice mo (Dg.dg 4294967296 (pw-1)).length mc) (Dg.dg 4294967296 (pw-1)):=bu.rd r5 (aX r5 v5 (by simp));have hth:w5.there (w.heap.size+1) 0 4:=dD v5;have hl:=run_loadVar_mid (P:=Tryz.prog) _ (w.heap.size+1) 0 100 (yvL 2 ng (.slice mo (Dg.dg 4294967296 (pw-1)).length mc) G) _ (World.rangeAt_setCells_same w5 (w.heap.size+1) 0 (yvL 2 ng (.slice mo (Dg.dg 4294967296 (pw-1)).length mc) G) hth) underlying100 rfl (by kernel_rfl);have HH:Hid (_∧_∧_):=⟨hl,rR,bR⟩;clear hl rR bR bu;refine wpAnyH_take (i:=7) (v:=(yvV 2 ng (.slice mo (Dg.dg 4294967296 (pw-1)).length mc) G)) rfl (by kernel_rfl) (by kernel_rfl) (by kernel_rfl) (fun _ _ _ h=>h) (Or.inl ⟨by kernel_rfl,fun w0 _=>by kernel_rfl⟩) hS3 ?_
 refine wpAnyH_ready (rs:=[8]) (by kernel_rfl) (by simp) ?_;refine AllReadyH.cons rfl (fun K hK=> ?_) AllReadyH.nil
 rw[if_pos (by kernel_rfl)];refine wp_store_mid 100 (.tmp 4) (.tmp 22) rfl (w.heap.size+1) 0 (yvA 2 ng (.slice mo (Dg.dg 4294967296 (pw-1)).length mc) G) (by kernel_rfl) (by kernel_rfl) hth (by kernel_rfl) (by simp[Value.oneCell']) ?_;refine hK.out _ _ ?_ (fun hS8=> ?_)
 ·have hbu:But (w.heap.size+1) w5 (w5.setCells (w.heap.size+1) 0 (yvL 2 ng (.slice mo (Dg.dg 4294967296 (pw-1)).length mc) G)):=de _ _ _ _
  exact(hbu.loc d5 (by omega)).c 6 rfl
 clear hK K;refine wpAnyH_done (by kernel_rfl) ?_ _;obtain⟨hl,rR,bR⟩:=HH.out;clear HH hS0 hS2 hS3 hS8 d5 v5 r5 b05 hth HM;change Exit.then _ _ _ _ (World.setCells w5 (w.heap.size+1) 0 (yvL 2 ng (.slice mo (Dg.dg 4294967296 (pw-1)).length mc) G));generalize World.setCells w5 (w.heap.size+1) 0 (yvL 2 ng (.slice mo (Dg.dg 4294967296 (pw-1)).length mc) G)=WE at hl rR bR⊢
 go_wp2
 exact bodyPost_ret (br results136 rfl hl) rfl ⟨_,rfl,rR,bR⟩
theorem adn (n wy R D L G:Int)(gr ng:Bool)(w:World)
  (HN:yJ 103 #[yi 3] (yi 5)):
  yC 89 #[ykV n wy 3 R D L G gr,.bool ng] w (iT w 5 false 0 0):=by
 replace HN:Hid _:=HN;have ad:=af w (.cells (ykA n wy 3 R D L G gr) 69);have av:=af (w.alloc (.cells (ykA n wy 3 R D L G gr) 69)) (.cells (yvA 0 false (.slice none 0 0) 0) 100);have d0:=(ah w (ykL n wy 3 R D L G gr) 69).l av;have v0:=ah (w.alloc (.cells (ykA n wy 3 R D L G gr) 69)) (yvL 0 false (.slice none 0 0) 0) 100;rw[World.size_alloc] at v0;have b0:=aa ad av;clear ad av
 go_enter func89,ntmps89
 go_upto_block 0 with fail
 generalize(w.alloc (.cells (ykA n wy 3 R D L G gr) 69)).alloc (.cells (yvA 0 false (.slice none 0 0) 0) 100)=W0 at d0 v0 b0⊢;obtain⟨y0,y1,y2,y3,y4,y5,y6,y7⟩:=d0.cs8
 go_wp2_with fail
 refine(HN.out _).mono ?_;rintro z w1 ⟨rfl,b1⟩;have v1:=v0.l b1;have b01:=aa b0 b1;clear y0 y1 y2 y3 y4 y5 y6 y7 d0 v0 b0 b1;have cR:au ((((w1.setCell ⟨w.heap.size+1,0,none⟩ (yi 5)).setCell ⟨w.heap.size+1,1,none⟩ (.bool false)).setCell ⟨w.heap.size+1,2,none⟩ (.slice none 0 0)).setCell ⟨w.heap.size+1,3,none⟩ (yi 0)) (w.heap.size+1) 100 (yvL 5 false (.slice none 0 0) 0):=((((v1.set 0 (yi 5)).set 1 (.bool false)).set 2 (.slice none 0 0)).set 3 (yi 0));have bu:=(((ag w1 (w.heap.size+1) 0 (yi 5)).trans (ag _ (w.heap.size+1) 1 (.bool false))).trans (ag _ (w.heap.size+1) 2 (.slice none 0 0))).trans (ag _ (w.heap.size+1) 3 (yi 0));have bR:=bu.below b01 (by omega);have hl:=run_loadVar_mid (P:=Tryz.prog) _ (w.heap.size+1) 0 100 (yvL 5 false (.slice none 0 0) 0) _ cR.range underlying100 rfl (by kernel_rfl);have HH:Hid (_∧_):=⟨hl,bR⟩;obtain⟨z0,z1,z2,z3⟩:=v1.cs4;have fz0:=v1.f 0;have fz1:=v1.f 1;have fz2:=v1.f 2;have fz3:=v1.f 3;clear hl bR bu cR;clear v1 b01
 go_wp2
 obtain⟨hl,bR⟩:=HH.out;exact bodyPost_ret (br results89 rfl hl) rfl ⟨_,rfl,aN _ _,bR⟩
theorem abM (n wy R D L G:Int)(gr ng:Bool)(w:World)
  (HO:yJ 135 #[ykV n wy 1 R D L G gr,.bool ng] (.bool true)):
  yC 89 #[ykV n wy 1 R D L G gr,.bool ng] w (iT w 3 ng 0 0):=by
 replace HO:Hid _:=HO;have ad:=af w (.cells (ykA n wy 1 R D L G gr) 69);have av:=af (w.alloc (.cells (ykA n wy 1 R D L G gr) 69)) (.cells (yvA 0 false (.slice none 0 0) 0) 100);have d0:=(ah w (ykL n wy 1 R D L G gr) 69).l av;have v0:=ah (w.alloc (.cells (ykA n wy 1 R D L G gr) 69)) (yvL 0 false (.slice none 0 0) 0) 100;rw[World.size_alloc] at v0;have b0:=aa ad av;clear ad av
 go_enter func89,ntmps89
 go_upto_block 0 with fail
 generalize(w.alloc (.cells (ykA n wy 1 R D L G gr) 69)).alloc (.cells (yvA 0 false (.slice none 0 0) 0) 100)=W0 at d0 v0 b0⊢;obtain⟨y0,y1,y2,y3,y4,y5,y6,y7⟩:=d0.cs8
 go_wp2_with fail
 refine(HO.out _).mono ?_;rintro z w1 ⟨rfl,b1⟩;have v1:=v0.l b1;have b01:=aa b0 b1;clear y0 y1 y2 y3 y4 y5 y6 y7 d0 v0 b0 b1;have cR:au ((((w1.setCell ⟨w.heap.size+1,0,none⟩ (yi 3)).setCell ⟨w.heap.size+1,1,none⟩ (.bool ng)).setCell ⟨w.heap.size+1,2,none⟩ (.slice none 0 0)).setCell ⟨w.heap.size+1,3,none⟩ (yi 0)) (w.heap.size+1) 100 (yvL 3 ng (.slice none 0 0) 0):=((((v1.set 0 (yi 3)).set 1 (.bool ng)).set 2 (.slice none 0 0)).set 3 (yi 0));have bu:=(((ag w1 (w.heap.size+1) 0 (yi 3)).trans (ag _ (w.heap.size+1) 1 (.bool ng))).trans (ag _ (w.heap.size+1) 2 (.slice none 0 0))).trans (ag _ (w.heap.size+1) 3 (yi 0));have bR:=bu.below b01 (by omega);have hl:=run_loadVar_mid (P:=Tryz.prog) _ (w.heap.size+1) 0 100 (yvL 3 ng (.slice none 0 0) 0) _ cR.range underlying100 rfl (by kernel_rfl);have HH:Hid (_∧_):=⟨hl,bR⟩;obtain⟨z0,z1,z2,z3⟩:=v1.cs4;have fz0:=v1.f 0;have fz1:=v1.f 1;have fz2:=v1.f 2;have fz3:=v1.f 3;clear hl bR bu cR;clear v1 b01
 go_wp2
 obtain⟨hl,bR⟩:=HH.out;exact bodyPost_ret (br results89 rfl hl) rfl ⟨_,rfl,aN _ _,bR⟩
theorem abN (n wy R D L G:Int)(gr ng:Bool)(m:Nat)(w:World)
  (HO:yJ 135 #[ykV n wy 1 R D L G gr,.bool ng] (.bool false))
  (HGr: ∀w1,yB w w1→yC 136 #[ykV n wy 1 R D L G gr,.bool ng] w1 (iT w1 2 ng m G)):
  yC 89 #[ykV n wy 1 R D L G gr,.bool ng] w (iT w 2 ng m G):=by
 replace HO:Hid _:=HO;replace HGr:Hid _:=HGr;have ad:=af w (.cells (ykA n wy 1 R D L G gr) 69);have av:=af (w.alloc (.cells (ykA n wy 1 R D L G gr) 69)) (.cells (yvA 0 false (.slice none 0 0) 0) 100);have d0:=(ah w (ykL n wy 1 R D L G gr) 69).l av;have v0:=ah (w.alloc (.cells (ykA n wy 1 R D L G gr) 69)) (yvL 0 false (.slice none 0 0) 0) 100;rw[World.size_alloc] at v0;have b0:=aa ad av;clear ad av
 go_enter func89,ntmps89
 go_upto_block 0 with fail
 generalize(w.alloc (.cells (ykA n wy 1 R D L G gr) 69)).alloc (.cells (yvA 0 false (.slice none 0 0) 0) 100)=W0 at d0 v0 b0⊢;obtain⟨y0,y1,y2,y3,y4,y5,y6,y7⟩:=d0.cs8
 go_wp2_with fail
 refine(HO.out _).mono ?_;rintro z w1 ⟨rfl,b1⟩;have d1:=d0.l b1;have v1:=v0.l b1;have b01:=aa b0 b1;clear y0 y1 y2 y3 y4 y5 y6 y7 d0 v0 b0 b1;obtain⟨y0,y1,y2,y3,y4,y5,y6,y7⟩:=d1.cs8
 go_wp2_with fail
 refine(HGr.out _ b01).mono ?_;rintro z w2 ⟨u,rfl,r2,b2⟩;obtain⟨mo,mc,hu⟩:=r2.shape;subst hu;have v2:=v1.l b2;have b02:=aa b01 b2;clear y0 y1 y2 y3 y4 y5 y6 y7 d1 v1 b01 b2;have cR:au ((((w2.setCell ⟨w.heap.size+1,0,none⟩ (yi 2)).setCell ⟨w.heap.size+1,1,none⟩ (.bool ng)).setCell ⟨w.heap.size+1,2,none⟩ (.slice mo (Dg.dg 4294967296 m).length mc)).setCell ⟨w.heap.size+1,3,none⟩ (yi G)) (w.heap.size+1) 100 (yvL 2 ng (.slice mo (Dg.dg 4294967296 m).length mc) G):=((((v2.set 0 (yi 2)).set 1 (.bool ng)).set 2 (.slice mo (Dg.dg 4294967296 m).length mc)).set 3 (yi G));have bu:=(((ag w2 (w.heap.size+1) 0 (yi 2)).trans (ag _ (w.heap.size+1) 1 (.bool ng))).trans (ag _ (w.heap.size+1) 2 (.slice mo (Dg.dg 4294967296 m).length mc))).trans (ag _ (w.heap.size+1) 3 (yi G));have bR:=bu.below b02 (by omega);have rR:=bu.rd r2 (aX r2 v2 (by simp));have hl:=run_loadVar_mid (P:=Tryz.prog) _ (w.heap.size+1) 0 100 (yvL 2 ng (.slice mo (Dg.dg 4294967296 m).length mc) G) _ cR.range underlying100 rfl (by kernel_rfl);have HH:Hid (_∧_∧_):=⟨hl,rR,bR⟩;obtain⟨z0,z1,z2,z3⟩:=v2.cs4;have fz0:=v2.f 0;have fz1:=v2.f 1;have fz2:=v2.f 2;have fz3:=v2.f 3;clear hl bR bu cR rR;clear v2 b02 r2
 go_wp2
 obtain⟨hl,rR,bR⟩:=HH.out;exact bodyPost_ret (br results89 rfl hl) rfl ⟨_,rfl,rR,bR⟩
theorem ado (n wy R D L G:Int)(gr ng:Bool)(m:Nat)(w:World)
  (HGr: ∀w1,yB w w1→yC 136 #[ykV n wy 2 R D L G gr,.bool ng] w1 (iT w1 2 ng m G)):
  yC 89 #[ykV n wy 2 R D L G gr,.bool ng] w (iT w 2 ng m G):=by
 replace HGr:Hid _:=HGr;have ad:=af w (.cells (ykA n wy 2 R D L G gr) 69);have av:=af (w.alloc (.cells (ykA n wy 2 R D L G gr) 69)) (.cells (yvA 0 false (.slice none 0 0) 0) 100);have d0:=(ah w (ykL n wy 2 R D L G gr) 69).l av;have v0:=ah (w.alloc (.cells (ykA n wy 2 R D L G gr) 69)) (yvL 0 false (.slice none 0 0) 0) 100;rw[World.size_alloc] at v0;have b0:=aa ad av;clear ad av
 go_enter func89,ntmps89
 go_upto_block 0 with fail
 generalize(w.alloc (.cells (ykA n wy 2 R D L G gr) 69)).alloc (.cells (yvA 0 false (.slice none 0 0) 0) 100)=W0 at d0 v0 b0⊢;obtain⟨y0,y1,y2,y3,y4,y5,y6,y7⟩:=d0.cs8
 go_wp2_with fail
 refine(HGr.out _ b0).mono ?_;rintro z w2 ⟨u,rfl,r2,b2⟩;obtain⟨mo,mc,hu⟩:=r2.shape;subst hu;have v2:=v0.l b2;have b02:=aa b0 b2;clear y0 y1 y2 y3 y4 y5 y6 y7 d0 v0 b0 b2;have cR:au ((((w2.setCell ⟨w.heap.size+1,0,none⟩ (yi 2)).setCell ⟨w.heap.size+1,1,none⟩ (.bool ng)).setCell ⟨w.heap.size+1,2,none⟩ (.slice mo (Dg.dg 4294967296 m).length mc)).setCell ⟨w.heap.size+1,3,none⟩ (yi G)) (w.heap.size+1) 100 (yvL 2 ng (.slice mo (Dg.dg 4294967296 m).length mc) G):=((((v2.set 0 (yi 2)).set 1 (.bool ng)).set 2 (.slice mo (Dg.dg 4294967296 m).length mc)).set 3 (yi G));have bu:=(((ag w2 (w.heap.size+1) 0 (yi 2)).trans (ag _ (w.heap.size+1) 1 (.bool ng))).trans (ag _ (w.heap.size+1) 2 (.slice mo (Dg.dg 4294967296 m).length mc))).trans (ag _ (w.heap.size+1) 3 (yi G));have bR:=bu.below b02 (by omega);have rR:=bu.rd r2 (aX r2 v2 (by simp));have hl:=run_loadVar_mid (P:=Tryz.prog) _ (w.heap.size+1) 0 100 (yvL 2 ng (.slice mo (Dg.dg 4294967296 m).length mc) G) _ cR.range underlying100 rfl (by kernel_rfl);have HH:Hid (_∧_∧_):=⟨hl,rR,bR⟩;obtain⟨z0,z1,z2,z3⟩:=v2.cs4;have fz0:=v2.f 0;have fz1:=v2.f 1;have fz2:=v2.f 2;have fz3:=v2.f 3;clear hl bR bu cR rR;clear v2 b02 r2
 go_wp2
 obtain⟨hl,rR,bR⟩:=HH.out;exact bodyPost_ret (br results89 rfl hl) rfl ⟨_,rfl,rR,bR⟩
end Go.Proofs.YtbdokgamhinajaaGreatDoor
