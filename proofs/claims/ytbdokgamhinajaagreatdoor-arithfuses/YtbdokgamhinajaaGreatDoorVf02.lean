/-
  Texts laid together: Ga4, Gc4.
-/
import Derived.Test.YtbdokgamhinajaaGreatDoorVf01
set_option maxRecDepth 100000
set_option maxHeartbeats 3200000
namespace Go.Proofs.YtbdokgamhinajaaGreatDoor
open _root_.Go.Proofs.Tryz
open Go.RowKit
theorem Zg (cx cy cz c fl:Int)(n wy:Int)(gx gy gz:Bool)(x y z:ak)(xo yo zo:Option Addr)(xc yc zc:Nat)(w:World)(HO: ∀pb w1,au w1 pb 32 [yi cx,.bool gx,.bool x.s,yS xo x.n xc,yi x.e,yi cy,.bool gy,.bool y.s,yS yo y.n yc,yi y.e,yi cz,.bool gz,.bool z.s,yS zo z.n zc,yi z.e]→yC 34 #[yi n,.slice (some ⟨pb,0,none⟩) 3 3] w1 (yR w1 (.tuple #[yoV c false false yN 0,yi fl,.bool true]))):
  yC 16 #[yi n,yEV cx gx x xo xc,yEV cy gy y yo yc,yEV cz gz z zo zc,yi wy] w (RVF w c false ⟨false,0,0⟩ fl):=by
 replace HO:Hid _:=HO;obtain⟨W6,hW7,q1,q2,q3,q4,b5⟩:=pi w (yEL cx gx x xo xc) 32 (yEL cy gy y yo yc) 32 (yEL cz gz z zo zc) 32 (yoL 0 false false yN 0) 32;replace hW7:Hid _:=hW7
 go_enter func16,ntmps16
 go_upto_region 1 with fail
 rw[hW7.out];clear hW7;obtain⟨c8,c9,c10,c11,c12⟩:=q1.cs5;obtain⟨c13,c14,c15,c16,c17⟩:=q2.cs5;obtain⟨c18,c19,c20,c21,c22⟩:=q3.cs5;have al23:=af W6 (.cells #[yi cx,.bool gx,.bool x.s,yS xo x.n xc,yi x.e,yi cy,.bool gy,.bool y.s,yS yo y.n yc,yi y.e,yi cz,.bool gz,.bool z.s,yS zo z.n zc,yi z.e] 32);have q24:=ah W6 [yi cx,.bool gx,.bool x.s,yS xo x.n xc,yi x.e,yi cy,.bool gy,.bool y.s,yS yo y.n yc,yi y.e,yi cz,.bool gz,.bool z.s,yS zo z.n zc,yi z.e] 32;have q25:=q4.l al23;have b26:=aa b5 al23
 go_wp2_with fail
 refine(HO.out _ _ q24).mono ?_;rintro zz w27 ⟨rfl,bb28⟩;have q29:=q25.l bb28;have b30:=aa b26 bb28;clear q25 q24 b26 bb28 HO c8 c9 c10 c11 c12 c13 c14 c15 c16 c17 c18 c19 c20 c21 c22 q1 q2 q3 q4 b5 al23;obtain⟨W34,hW33,q32,al31⟩:=cA w27 (yoL c false false yN 0) 32;replace hW33:Hid _:=hW33;have hl35:w.heap.size≤w27.heap.size:=b30.size;have hl36:=q29.lt;have q37:=q29.l al31;have b38:=aa b30 al31;clear q29 b30 al31
 go_upto_region 2 with fail
 rw[hW33.out];clear hW33;obtain⟨c39,c40,c41,c42,c43⟩:=q32.cs5;have hf:=dL (P:=Tryz.prog) q37 b38 (by omega) underlying32 rfl (by kernel_rfl) (yi c) (.bool false) (.bool false) yN (yi 0);have HH:Hid (_∧_):=⟨hf.1,hf.2.1⟩;obtain⟨⟨z0,z1,z2,z3,z4⟩,y0,y1,y2,y3,y4⟩:=dN q37;clear hf q37 q32 b38
 go_wp2
 obtain⟨hl,bR⟩:=HH.out;exact bodyPost_ret (aj results16 rfl rfl hl) rfl ⟨_,rfl,aN _ _,bR⟩
theorem Zh (cz c:Int)(n wy:Int)(gx gy gz:Bool)(x y z:ak)(xo yo zo:Option Addr)(xc yc zc:Nat)(w:World)(HO: ∀pb w1,au w1 pb 32 [yi 3,.bool gx,.bool x.s,yS xo x.n xc,yi x.e,yi 1,.bool gy,.bool y.s,yS yo y.n yc,yi y.e,yi cz,.bool gz,.bool z.s,yS zo z.n zc,yi z.e]→yC 34 #[yi n,.slice (some ⟨pb,0,none⟩) 3 3] w1 (yR w1 (.tuple #[yoV 0 false false yN 0,yi 0,.bool false])))
  (HL: ∀w1,yC 35 #[yi n] w1 (RVF w1 c false ⟨false,0,0⟩ 16)):
  yC 16 #[yi n,yEV 3 gx x xo xc,yEV 1 gy y yo yc,yEV cz gz z zo zc,yi wy] w (RVF w c false ⟨false,0,0⟩ 16):=by
 replace HO:Hid _:=HO;replace HL:Hid _:=HL;obtain⟨W6,hW7,q1,q2,q3,q4,b5⟩:=pi w (yEL 3 gx x xo xc) 32 (yEL 1 gy y yo yc) 32 (yEL cz gz z zo zc) 32 (yoL 0 false false yN 0) 32;replace hW7:Hid _:=hW7
 go_enter func16,ntmps16
 go_upto_region 1 with fail
 rw[hW7.out];clear hW7;obtain⟨c8,c9,c10,c11,c12⟩:=q1.cs5;obtain⟨c13,c14,c15,c16,c17⟩:=q2.cs5;obtain⟨c18,c19,c20,c21,c22⟩:=q3.cs5;have al23:=af W6 (.cells #[yi 3,.bool gx,.bool x.s,yS xo x.n xc,yi x.e,yi 1,.bool gy,.bool y.s,yS yo y.n yc,yi y.e,yi cz,.bool gz,.bool z.s,yS zo z.n zc,yi z.e] 32);have q24:=ah W6 [yi 3,.bool gx,.bool x.s,yS xo x.n xc,yi x.e,yi 1,.bool gy,.bool y.s,yS yo y.n yc,yi y.e,yi cz,.bool gz,.bool z.s,yS zo z.n zc,yi z.e] 32;have q25:=q1.l al23;have q26:=q2.l al23;have q27:=q4.l al23;have b28:=aa b5 al23
 go_wp2_with fail
 refine(HO.out _ _ q24).mono ?_;rintro zz w29 ⟨rfl,bb30⟩;have q31:=q25.l bb30;have q32:=q26.l bb30;have q33:=q27.l bb30;have b34:=aa b28 bb30;clear q25 q26 q27 q24 b28 bb30 HO c8 c9 c10 c11 c12 c13 c14 c15 c16 c17 c18 c19 c20 c21 c22 q1 q2 q3 q4 b5 al23;obtain⟨W38,hW37,q36,al35⟩:=cA w29 (yoL 0 false false yN 0) 32;replace hW37:Hid _:=hW37;have hl39:w.heap.size≤w29.heap.size:=b34.size;have hl40:=q32.lt;have hl41:=q33.lt;have q42:=q31.l al35;have q43:=q32.l al35;have q44:=q33.l al35;have b45:=aa b34 al35;clear q31 q32 q33 b34 al35 q36
 go_upto_region 2 with fail
 rw[hW37.out];clear hW37;have c46:=q42.c 0 rfl;have c47:=q42.c 1 rfl;have c48:=q43.c 0 rfl;have c49:=q43.c 1 rfl
 go_wp2_with fail
 refine(HL.out _).mono ?_;rintro zz w50 ⟨v152,rfl,r153,bb51⟩;have q54:=q44.l bb51;have b55:=aa b45 bb51;obtain⟨so,sc,hv⟩:=r153.shape;subst hv;clear q42 q43 q44 b45 bb51 HL c46 c47 c48 c49;have hf:=dL (P:=Tryz.prog) q54 b55 (by omega) underlying32 rfl (by kernel_rfl) (yi c) (.bool false) (.bool false) (yS so 0 sc) (yi 0);have HH:Hid (_∧_∧_):=⟨hf.1,hf.2.2.rd r153 (mu r153 q54),hf.2.1⟩;obtain⟨⟨z0,z1,z2,z3,z4⟩,y0,y1,y2,y3,y4⟩:=dN q54;clear hf q54 r153 b55
 go_wp2
 obtain⟨hl,rRs,bR⟩:=HH.out;exact bodyPost_ret (aj results16 rfl rfl hl) rfl ⟨_,rfl,rRs,bR⟩
theorem Zi (cz c:Int)(n wy:Int)(gx gy gz:Bool)(x y z:ak)(xo yo zo:Option Addr)(xc yc zc:Nat)(w:World)(HO: ∀pb w1,au w1 pb 32 [yi 1,.bool gx,.bool x.s,yS xo x.n xc,yi x.e,yi 3,.bool gy,.bool y.s,yS yo y.n yc,yi y.e,yi cz,.bool gz,.bool z.s,yS zo z.n zc,yi z.e]→yC 34 #[yi n,.slice (some ⟨pb,0,none⟩) 3 3] w1 (yR w1 (.tuple #[yoV 0 false false yN 0,yi 0,.bool false])))
  (HL: ∀w1,yC 35 #[yi n] w1 (RVF w1 c false ⟨false,0,0⟩ 16)):
  yC 16 #[yi n,yEV 1 gx x xo xc,yEV 3 gy y yo yc,yEV cz gz z zo zc,yi wy] w (RVF w c false ⟨false,0,0⟩ 16):=by
 replace HO:Hid _:=HO;replace HL:Hid _:=HL;obtain⟨W6,hW7,q1,q2,q3,q4,b5⟩:=pi w (yEL 1 gx x xo xc) 32 (yEL 3 gy y yo yc) 32 (yEL cz gz z zo zc) 32 (yoL 0 false false yN 0) 32;replace hW7:Hid _:=hW7
 go_enter func16,ntmps16
 go_upto_region 1 with fail
 rw[hW7.out];clear hW7;obtain⟨c8,c9,c10,c11,c12⟩:=q1.cs5;obtain⟨c13,c14,c15,c16,c17⟩:=q2.cs5;obtain⟨c18,c19,c20,c21,c22⟩:=q3.cs5;have al23:=af W6 (.cells #[yi 1,.bool gx,.bool x.s,yS xo x.n xc,yi x.e,yi 3,.bool gy,.bool y.s,yS yo y.n yc,yi y.e,yi cz,.bool gz,.bool z.s,yS zo z.n zc,yi z.e] 32);have q24:=ah W6 [yi 1,.bool gx,.bool x.s,yS xo x.n xc,yi x.e,yi 3,.bool gy,.bool y.s,yS yo y.n yc,yi y.e,yi cz,.bool gz,.bool z.s,yS zo z.n zc,yi z.e] 32;have q25:=q1.l al23;have q26:=q2.l al23;have q27:=q4.l al23;have b28:=aa b5 al23
 go_wp2_with fail
 refine(HO.out _ _ q24).mono ?_;rintro zz w29 ⟨rfl,bb30⟩;have q31:=q25.l bb30;have q32:=q26.l bb30;have q33:=q27.l bb30;have b34:=aa b28 bb30;clear q25 q26 q27 q24 b28 bb30 HO c8 c9 c10 c11 c12 c13 c14 c15 c16 c17 c18 c19 c20 c21 c22 q1 q2 q3 q4 b5 al23;obtain⟨W38,hW37,q36,al35⟩:=cA w29 (yoL 0 false false yN 0) 32;replace hW37:Hid _:=hW37;have hl39:w.heap.size≤w29.heap.size:=b34.size;have hl40:=q32.lt;have hl41:=q33.lt;have q42:=q31.l al35;have q43:=q32.l al35;have q44:=q33.l al35;have b45:=aa b34 al35;clear q31 q32 q33 b34 al35 q36
 go_upto_region 2 with fail
 rw[hW37.out];clear hW37;have c46:=q42.c 0 rfl;have c47:=q42.c 1 rfl;have c48:=q43.c 0 rfl;have c49:=q43.c 1 rfl
 go_wp2_with fail
 refine(HL.out _).mono ?_;rintro zz w50 ⟨v152,rfl,r153,bb51⟩;have q54:=q44.l bb51;have b55:=aa b45 bb51;obtain⟨so,sc,hv⟩:=r153.shape;subst hv;clear q42 q43 q44 b45 bb51 HL c46 c47 c48 c49;have hf:=dL (P:=Tryz.prog) q54 b55 (by omega) underlying32 rfl (by kernel_rfl) (yi c) (.bool false) (.bool false) (yS so 0 sc) (yi 0);have HH:Hid (_∧_∧_):=⟨hf.1,hf.2.2.rd r153 (mu r153 q54),hf.2.1⟩;obtain⟨⟨z0,z1,z2,z3,z4⟩,y0,y1,y2,y3,y4⟩:=dN q54;clear hf q54 r153 b55
 go_wp2
 obtain⟨hl,rRs,bR⟩:=HH.out;exact bodyPost_ret (aj results16 rfl rfl hl) rfl ⟨_,rfl,rRs,bR⟩
theorem Zj (cy cz c fl:Int)(g:Bool)(t:ak)(n wy:Int)(gx gy gz:Bool)(x y z:ak)(xo yo zo:Option Addr)(xc yc zc:Nat)(w:World)(hy1:(cy==1)=false)(HO: ∀pb w1,au w1 pb 32 [yi 3,.bool gx,.bool x.s,yS xo x.n xc,yi x.e,yi cy,.bool gy,.bool y.s,yS yo y.n yc,yi y.e,yi cz,.bool gz,.bool z.s,yS zo z.n zc,yi z.e]→yC 34 #[yi n,.slice (some ⟨pb,0,none⟩) 3 3] w1 (yR w1 (.tuple #[yoV 0 false false yN 0,yi 0,.bool false])))
  (HA: ∀w1,yB w w1→yC 10 #[yi n,yoV 3 (gx != gy) false yN 0,yEV cz gz z zo zc,yi wy] w1 (RVF w1 c g t fl)):
  yC 16 #[yi n,yEV 3 gx x xo xc,yEV cy gy y yo yc,yEV cz gz z zo zc,yi wy] w (RVF w c g t fl):=by
 replace HO:Hid _:=HO;replace HA:Hid _:=HA;obtain⟨W6,hW7,q1,q2,q3,q4,b5⟩:=pi w (yEL 3 gx x xo xc) 32 (yEL cy gy y yo yc) 32 (yEL cz gz z zo zc) 32 (yoL 0 false false yN 0) 32;replace hW7:Hid _:=hW7
 go_enter func16,ntmps16
 go_upto_region 1 with fail
 rw[hW7.out];clear hW7;obtain⟨c8,c9,c10,c11,c12⟩:=q1.cs5;obtain⟨c13,c14,c15,c16,c17⟩:=q2.cs5;obtain⟨c18,c19,c20,c21,c22⟩:=q3.cs5;have al23:=af W6 (.cells #[yi 3,.bool gx,.bool x.s,yS xo x.n xc,yi x.e,yi cy,.bool gy,.bool y.s,yS yo y.n yc,yi y.e,yi cz,.bool gz,.bool z.s,yS zo z.n zc,yi z.e] 32);have q24:=ah W6 [yi 3,.bool gx,.bool x.s,yS xo x.n xc,yi x.e,yi cy,.bool gy,.bool y.s,yS yo y.n yc,yi y.e,yi cz,.bool gz,.bool z.s,yS zo z.n zc,yi z.e] 32;have q25:=q1.l al23;have q26:=q2.l al23;have q27:=q3.l al23;have q28:=q4.l al23;have b29:=aa b5 al23
 go_wp2_with fail
 refine(HO.out _ _ q24).mono ?_;rintro zz w30 ⟨rfl,bb31⟩;have q32:=q25.l bb31;have q33:=q26.l bb31;have q34:=q27.l bb31;have q35:=q28.l bb31;have b36:=aa b29 bb31;clear q25 q26 q27 q28 q24 b29 bb31 HO c8 c9 c10 c11 c12 c13 c14 c15 c16 c17 c18 c19 c20 c21 c22 q1 q2 q3 q4 b5 al23;obtain⟨W40,hW39,q38,al37⟩:=cA w30 (yoL 0 false false yN 0) 32;replace hW39:Hid _:=hW39;have hl41:w.heap.size≤w30.heap.size:=b36.size;have hl42:=q33.lt;have hl43:=q34.lt;have hl44:=q35.lt;have q45:=q32.l al37;have q46:=q33.l al37;have q47:=q34.l al37;have q48:=q35.l al37;have b49:=aa b36 al37;clear q32 q33 q34 q35 b36 al37 q38
 go_upto_region 2 with fail
 rw[hW39.out];clear hW39;have c50:=q45.c 0 rfl;have c51:=q45.c 1 rfl;have c52:=q46.c 0 rfl;have c53:=q46.c 1 rfl;obtain⟨c54,c55,c56,c57,c58⟩:=q47.cs5
 go_wp2_with fail
 refine(HA.out _ b49).mono ?_;rintro zz w59 ⟨v161,rfl,r162,bb60⟩;have q63:=q48.l bb60;have b64:=aa b49 bb60;obtain⟨so,sc,hv⟩:=r162.shape;subst hv;clear q45 q46 q47 q48 b49 bb60 HA c50 c51 c52 c53 c54 c55 c56 c57 c58;have hf:=dL (P:=Tryz.prog) q63 b64 (by omega) underlying32 rfl (by kernel_rfl) (yi c) (.bool g) (.bool t.s) (yS so t.n sc) (yi t.e);have HH:Hid (_∧_∧_):=⟨hf.1,hf.2.2.rd r162 (mu r162 q63),hf.2.1⟩;obtain⟨⟨z0,z1,z2,z3,z4⟩,y0,y1,y2,y3,y4⟩:=dN q63;clear hf q63 r162 b64
 go_wp2
 obtain⟨hl,rRs,bR⟩:=HH.out;exact bodyPost_ret (aj results16 rfl rfl hl) rfl ⟨_,rfl,rRs,bR⟩
theorem Zk (cx cz c fl:Int)(g:Bool)(t:ak)(n wy:Int)(gx gy gz:Bool)(x y z:ak)(xo yo zo:Option Addr)(xc yc zc:Nat)(w:World)(hx3:(cx==3)=false)(hx1:(cx==1)=false)(HO: ∀pb w1,au w1 pb 32 [yi cx,.bool gx,.bool x.s,yS xo x.n xc,yi x.e,yi 3,.bool gy,.bool y.s,yS yo y.n yc,yi y.e,yi cz,.bool gz,.bool z.s,yS zo z.n zc,yi z.e]→yC 34 #[yi n,.slice (some ⟨pb,0,none⟩) 3 3] w1 (yR w1 (.tuple #[yoV 0 false false yN 0,yi 0,.bool false])))
  (HA: ∀w1,yB w w1→yC 10 #[yi n,yoV 3 (gx != gy) false yN 0,yEV cz gz z zo zc,yi wy] w1 (RVF w1 c g t fl)):
  yC 16 #[yi n,yEV cx gx x xo xc,yEV 3 gy y yo yc,yEV cz gz z zo zc,yi wy] w (RVF w c g t fl):=by
 replace HO:Hid _:=HO;replace HA:Hid _:=HA;obtain⟨W6,hW7,q1,q2,q3,q4,b5⟩:=pi w (yEL cx gx x xo xc) 32 (yEL 3 gy y yo yc) 32 (yEL cz gz z zo zc) 32 (yoL 0 false false yN 0) 32;replace hW7:Hid _:=hW7
 go_enter func16,ntmps16
 go_upto_region 1 with fail
 rw[hW7.out];clear hW7;obtain⟨c8,c9,c10,c11,c12⟩:=q1.cs5;obtain⟨c13,c14,c15,c16,c17⟩:=q2.cs5;obtain⟨c18,c19,c20,c21,c22⟩:=q3.cs5;have al23:=af W6 (.cells #[yi cx,.bool gx,.bool x.s,yS xo x.n xc,yi x.e,yi 3,.bool gy,.bool y.s,yS yo y.n yc,yi y.e,yi cz,.bool gz,.bool z.s,yS zo z.n zc,yi z.e] 32);have q24:=ah W6 [yi cx,.bool gx,.bool x.s,yS xo x.n xc,yi x.e,yi 3,.bool gy,.bool y.s,yS yo y.n yc,yi y.e,yi cz,.bool gz,.bool z.s,yS zo z.n zc,yi z.e] 32;have q25:=q1.l al23;have q26:=q2.l al23;have q27:=q3.l al23;have q28:=q4.l al23;have b29:=aa b5 al23
 go_wp2_with fail
 refine(HO.out _ _ q24).mono ?_;rintro zz w30 ⟨rfl,bb31⟩;have q32:=q25.l bb31;have q33:=q26.l bb31;have q34:=q27.l bb31;have q35:=q28.l bb31;have b36:=aa b29 bb31;clear q25 q26 q27 q28 q24 b29 bb31 HO c8 c9 c10 c11 c12 c13 c14 c15 c16 c17 c18 c19 c20 c21 c22 q1 q2 q3 q4 b5 al23;obtain⟨W40,hW39,q38,al37⟩:=cA w30 (yoL 0 false false yN 0) 32;replace hW39:Hid _:=hW39;have hl41:w.heap.size≤w30.heap.size:=b36.size;have hl42:=q33.lt;have hl43:=q34.lt;have hl44:=q35.lt;have q45:=q32.l al37;have q46:=q33.l al37;have q47:=q34.l al37;have q48:=q35.l al37;have b49:=aa b36 al37;clear q32 q33 q34 q35 b36 al37 q38
 go_upto_region 2 with fail
 rw[hW39.out];clear hW39;have c50:=q45.c 0 rfl;have c51:=q45.c 1 rfl;have c52:=q46.c 0 rfl;have c53:=q46.c 1 rfl;obtain⟨c54,c55,c56,c57,c58⟩:=q47.cs5
 go_wp2_with fail
 refine(HA.out _ b49).mono ?_;rintro zz w59 ⟨v161,rfl,r162,bb60⟩;have q63:=q48.l bb60;have b64:=aa b49 bb60;obtain⟨so,sc,hv⟩:=r162.shape;subst hv;clear q45 q46 q47 q48 b49 bb60 HA c50 c51 c52 c53 c54 c55 c56 c57 c58;have hf:=dL (P:=Tryz.prog) q63 b64 (by omega) underlying32 rfl (by kernel_rfl) (yi c) (.bool g) (.bool t.s) (yS so t.n sc) (yi t.e);have HH:Hid (_∧_∧_):=⟨hf.1,hf.2.2.rd r162 (mu r162 q63),hf.2.1⟩;obtain⟨⟨z0,z1,z2,z3,z4⟩,y0,y1,y2,y3,y4⟩:=dN q63;clear hf q63 r162 b64
 go_wp2
 obtain⟨hl,rRs,bR⟩:=HH.out;exact bodyPost_ret (aj results16 rfl rfl hl) rfl ⟨_,rfl,rRs,bR⟩
theorem abO (cx cy:Int)(n wy:Int)(gx gy gz:Bool)(x y z:ak)(xo yo zo:Option Addr)(xc yc zc:Nat)(w:World)(hx3:(cx==3)=false)(hy3:(cy==3)=false)(HO: ∀pb w1,au w1 pb 32 [yi cx,.bool gx,.bool x.s,yS xo x.n xc,yi x.e,yi cy,.bool gy,.bool y.s,yS yo y.n yc,yi y.e,yi 3,.bool gz,.bool z.s,yS zo z.n zc,yi z.e]→yC 34 #[yi n,.slice (some ⟨pb,0,none⟩) 3 3] w1 (yR w1 (.tuple #[yoV 0 false false yN 0,yi 0,.bool false])))(rz:Rd w .i64 (yS zo z.n zc) (Dg.dg 65536 z.n)):
  yC 16 #[yi n,yEV cx gx x xo xc,yEV cy gy y yo yc,yEV 3 gz z zo zc,yi wy] w (RVF w 3 gz z 0):=by
 replace HO:Hid _:=HO;obtain⟨W6,hW7,q1,q2,q3,q4,b5⟩:=pi w (yEL cx gx x xo xc) 32 (yEL cy gy y yo yc) 32 (yEL 3 gz z zo zc) 32 (yoL 0 false false yN 0) 32;replace hW7:Hid _:=hW7;have r8:=rz.l b5;clear rz
 go_enter func16,ntmps16
 go_upto_region 1 with fail
 rw[hW7.out];clear hW7;obtain⟨c9,c10,c11,c12,c13⟩:=q1.cs5;obtain⟨c14,c15,c16,c17,c18⟩:=q2.cs5;obtain⟨c19,c20,c21,c22,c23⟩:=q3.cs5;have al24:=af W6 (.cells #[yi cx,.bool gx,.bool x.s,yS xo x.n xc,yi x.e,yi cy,.bool gy,.bool y.s,yS yo y.n yc,yi y.e,yi 3,.bool gz,.bool z.s,yS zo z.n zc,yi z.e] 32);have q25:=ah W6 [yi cx,.bool gx,.bool x.s,yS xo x.n xc,yi x.e,yi cy,.bool gy,.bool y.s,yS yo y.n yc,yi y.e,yi 3,.bool gz,.bool z.s,yS zo z.n zc,yi z.e] 32;have q26:=q1.l al24;have q27:=q2.l al24;have q28:=q3.l al24;have q29:=q4.l al24;have r30:=r8.l al24;have b31:=aa b5 al24
 go_wp2_with fail
 refine(HO.out _ _ q25).mono ?_;rintro zz w32 ⟨rfl,bb33⟩;have q34:=q26.l bb33;have q35:=q27.l bb33;have q36:=q28.l bb33;have q37:=q29.l bb33;have r38:=r30.l bb33;have b39:=aa b31 bb33;clear q26 q27 q28 q29 q25 r30 b31 bb33 HO c9 c10 c11 c12 c13 c14 c15 c16 c17 c18 c19 c20 c21 c22 c23 q1 q2 q3 q4 r8 b5 al24;obtain⟨W43,hW42,q41,al40⟩:=cA w32 (yoL 0 false false yN 0) 32;replace hW42:Hid _:=hW42;have hl44:w.heap.size≤w32.heap.size:=b39.size;have hl45:=q35.lt;have hl46:=q36.lt;have hl47:=q37.lt;have q48:=q34.l al40;have q49:=q35.l al40;have q50:=q36.l al40;have q51:=q37.l al40;have r52:=r38.l al40;have b53:=aa b39 al40;clear q34 q35 q36 q37 r38 b39 al40 q41
 go_upto_region 2 with fail
 rw[hW42.out];clear hW42;have c54:=q48.c 0 rfl;have c55:=q48.c 1 rfl;have c56:=q49.c 0 rfl;have c57:=q49.c 1 rfl;obtain⟨c58,c59,c60,c61,c62⟩:=q50.cs5;have hf:=dL (P:=Tryz.prog) q51 b53 (by omega) underlying32 rfl (by kernel_rfl) (yi 3) (.bool gz) (.bool z.s) (yS zo z.n zc) (yi z.e);have HH:Hid (_∧_∧_):=⟨hf.1,hf.2.2.rd r52 (mu r52 q51),hf.2.1⟩;obtain⟨⟨z0,z1,z2,z3,z4⟩,y0,y1,y2,y3,y4⟩:=dN q51;clear hf q48 q49 q50 q51 r52 b53
 go_wp2
 obtain⟨hl,rRz,bR⟩:=HH.out;exact bodyPost_ret (aj results16 rfl rfl hl) rfl ⟨_,rfl,rRz,bR⟩
theorem Zl (cx cy cz c fl:Int)(g:Bool)(t u:ak)(n wy:Int)(gx gy gz:Bool)(x y z:ak)(xo yo zo:Option Addr)(xc yc zc:Nat)(w:World)(hx3:(cx==3)=false)(hy3:(cy==3)=false)(hz3:(cz==3)=false)(HO: ∀pb w1,au w1 pb 32 [yi cx,.bool gx,.bool x.s,yS xo x.n xc,yi x.e,yi cy,.bool gy,.bool y.s,yS yo y.n yc,yi y.e,yi cz,.bool gz,.bool z.s,yS zo z.n zc,yi z.e]→yC 34 #[yi n,.slice (some ⟨pb,0,none⟩) 3 3] w1 (yR w1 (.tuple #[yoV 0 false false yN 0,yi 0,.bool false])))
  (HT: ∀w1,yB w w1→yC 42 #[yMV x xo xc,yMV y yo yc] w1 (dr w1 u))
  (HS: ∀uo uc w1,yB w w1→Rd w1 .i64 (yS uo u.n uc) (Dg.dg 65536 u.n)→yC 36 #[yi n,yMV u uo uc,yMV z zo zc,.bool (gx != gy),.bool gz,yi wy] w1 (RVF w1 c g t fl)):
  yC 16 #[yi n,yEV cx gx x xo xc,yEV cy gy y yo yc,yEV cz gz z zo zc,yi wy] w (RVF w c g t fl):=by
 replace HO:Hid _:=HO;replace HT:Hid _:=HT;replace HS:Hid _:=HS;obtain⟨W6,hW7,q1,q2,q3,q4,b5⟩:=pi w (yEL cx gx x xo xc) 32 (yEL cy gy y yo yc) 32 (yEL cz gz z zo zc) 32 (yoL 0 false false yN 0) 32;replace hW7:Hid _:=hW7
 go_enter func16,ntmps16
 go_upto_region 1 with fail
 rw[hW7.out];clear hW7;obtain⟨c8,c9,c10,c11,c12⟩:=q1.cs5;obtain⟨c13,c14,c15,c16,c17⟩:=q2.cs5;obtain⟨c18,c19,c20,c21,c22⟩:=q3.cs5;have al23:=af W6 (.cells #[yi cx,.bool gx,.bool x.s,yS xo x.n xc,yi x.e,yi cy,.bool gy,.bool y.s,yS yo y.n yc,yi y.e,yi cz,.bool gz,.bool z.s,yS zo z.n zc,yi z.e] 32);have q24:=ah W6 [yi cx,.bool gx,.bool x.s,yS xo x.n xc,yi x.e,yi cy,.bool gy,.bool y.s,yS yo y.n yc,yi y.e,yi cz,.bool gz,.bool z.s,yS zo z.n zc,yi z.e] 32;have q25:=q1.l al23;have q26:=q2.l al23;have q27:=q3.l al23;have q28:=q4.l al23;have b29:=aa b5 al23
 go_wp2_with fail
 refine(HO.out _ _ q24).mono ?_;rintro zz w30 ⟨rfl,bb31⟩;have q32:=q25.l bb31;have q33:=q26.l bb31;have q34:=q27.l bb31;have q35:=q28.l bb31;have b36:=aa b29 bb31;clear q25 q26 q27 q28 q24 b29 bb31 HO c8 c9 c10 c11 c12 c13 c14 c15 c16 c17 c18 c19 c20 c21 c22 q1 q2 q3 q4 b5 al23;obtain⟨W40,hW39,q38,al37⟩:=cA w30 (yoL 0 false false yN 0) 32;replace hW39:Hid _:=hW39;have hl41:w.heap.size≤w30.heap.size:=b36.size;have hl42:=q33.lt;have hl43:=q34.lt;have hl44:=q35.lt;have q45:=q32.l al37;have q46:=q33.l al37;have q47:=q34.l al37;have q48:=q35.l al37;have b49:=aa b36 al37;clear q32 q33 q34 q35 b36 al37 q38
 go_upto_region 2 with fail
 rw[hW39.out];clear hW39;have c50:=q45.c 0 rfl;have c51:=q45.c 1 rfl;have c52:=q46.c 0 rfl;have c53:=q46.c 1 rfl;have c54:=q47.c 0 rfl
 go_upto_region 11 with fail
 clear c50 c51 c52 c53 c54;have bW55:yB W40 W40.drew:=(Below.refl _ _).drew;have q56:=q45.l bW55;have q57:=q46.l bW55;have q58:=q47.l bW55;have q59:=q48.l bW55;have b60:=aa b49 bW55;clear q45 q46 q47 q48 b49 bW55;refine wp_region_held_drew (S:=fun wq=>au wq w.heap.size 32 (yEL cx gx x xo xc)∧au wq (w.heap.size+1) 32 (yEL cy gy y yo yc)∧au wq (w.heap.size+1+1) 32 (yEL cz gz z zo zc)) (by kernel_rfl) ⟨q56,q57,q58⟩ (fun hS0=> ?_)
 generalize W40.drew=WD61 at q56 q57 q58 q59 b60 hS0⊢;refine tq 0 (yi n) rfl (fun _ _=>by kernel_rfl) hS0 ?_
 refine tq 1 (.pointer (some ⟨w.heap.size,2,none⟩)) rfl (fun _ _=>by kernel_rfl) hS0 ?_
 refine tq 2 (yMV x xo xc) rfl (fun _ hw0=>fy 30 (.tmp 67) rfl w.heap.size 2 (by kernel_rfl) _ _ (kY hw0.1 2 3 rfl) underlying30 rfl (by kernel_rfl)) hS0 ?_
 refine tq 3 (.pointer (some ⟨w.heap.size+1,2,none⟩)) rfl (fun _ _=>by kernel_rfl) hS0 ?_
 refine tq 4 (yMV y yo yc) rfl (fun _ hw0=>fy 30 (.tmp 69) rfl (w.heap.size+1) 2 (by kernel_rfl) _ _ (kY hw0.2.1 2 3 rfl) underlying30 rfl (by kernel_rfl)) hS0 ?_
 refine tq 6 (.pointer (some ⟨w.heap.size+1+1,2,none⟩)) rfl (fun _ _=>by kernel_rfl) hS0 ?_
 refine tq 7 (yMV z zo zc) rfl (fun _ hw0=>fy 30 (.tmp 72) rfl (w.heap.size+1+1) 2 (by kernel_rfl) _ _ (kY hw0.2.2 2 3 rfl) underlying30 rfl (by kernel_rfl)) hS0 ?_
 refine tq 8 (.bool (gx != gy)) rfl (fun _ _=>by kernel_rfl) hS0 ?_
 refine tq 9 (.pointer (some ⟨w.heap.size+1+1,1,none⟩)) rfl (fun _ _=>by kernel_rfl) hS0 ?_
 refine tq 10 (.bool gz) rfl (fun _ hw0=>gU 4 (.tmp 75) rfl (w.heap.size+1+1) 1 (by kernel_rfl) _ _ underlying4 rfl (hw0.2.2.c 1 rfl)) hS0 ?_
 refine tq 11 (yi wy) rfl (fun _ _=>by kernel_rfl) hS0 ?_
 refine wpAnyH_ready (rs:=[5]) (by kernel_rfl) (by simp) ?_;refine AllReadyH.cons rfl (fun K hK=> ?_) AllReadyH.nil
 go_simp
 refine(HT.out _ b60).mono ?_;rintro zz w62 ⟨v164,rfl,r165,bb63⟩;have q66:=q56.l bb63;have q67:=q57.l bb63;have q68:=q58.l bb63;have q69:=q59.l bb63;have b70:=aa b60 bb63;obtain⟨uo,uc,hv⟩:=r165.shape;subst hv;clear q56 q57 q58 q59 b60 bb63 HT;refine hK.out _ _ ⟨q66,q67,q68⟩ (fun hS71=> ?_)
 clear hK K;refine wpAnyH_ready (rs:=[12]) (by kernel_rfl) (by simp) ?_;refine AllReadyH.cons rfl (fun K hK=> ?_) AllReadyH.nil
 go_simp
 refine(HS.out _ _ _ b70 r165).mono ?_;rintro zz w72 ⟨v174,rfl,r175,bb73⟩;have q76:=q66.l bb73;have q77:=q67.l bb73;have q78:=q68.l bb73;have q79:=q69.l bb73;have r80:=r165.l bb73;have b81:=aa b70 bb73;obtain⟨so,sc,hv⟩:=r175.shape;subst hv;clear q66 q67 q68 q69 r165 b70 bb73 HS;refine hK.out _ _ ⟨q76,q77,q78⟩ (fun hS82=> ?_)
 clear hK K;refine tq 13 (yEV c g t so sc) rfl (fun _ _=>by go_simp) hS82 ?_
 refine tq 14 (yi fl) rfl (fun _ _=>by go_simp) hS82 ?_
 refine wpAnyH_ready (rs:=[15]) (by kernel_rfl) (by simp) ?_;refine AllReadyH.cons rfl (fun K hK=> ?_) AllReadyH.nil
 have bu:But (w.heap.size+1+1+1) w72 (w72.setCells (w.heap.size+1+1+1) 0 (yEL c g t so sc)):=de _ _ _ _;have hth:w72.there (w.heap.size+1+1+1) 0 5:=dD q79;have q83:au (w72.setCells (w.heap.size+1+1+1) 0 (yEL c g t so sc)) (w.heap.size+1+1+1) 32 (yEL c g t so sc):=q79.sets _ rfl;have r84:=bu.rd r80 (cq r80 (Dg.norm_dg _ _ (by omega)) q79 (fun x hx n hn=>by simp at hx;rcases hx with rfl|rfl|rfl|rfl|rfl<;>simp;all_goals omega))
 have r85:=bu.rd r175 (cq r175 (Dg.norm_dg _ _ (by omega)) q79 (fun x hx n hn=>by simp at hx;rcases hx with rfl|rfl|rfl|rfl|rfl<;>simp;all_goals omega))
 have q86:=bu.loc q76 (by omega);have q87:=bu.loc q77 (by omega);have q88:=bu.loc q78 (by omega);have b89:=bu.below b81 (by omega);rw[if_pos (by kernel_rfl)];refine wp_store_mid 32 (.tmp 10) (.tmp 79) rfl (w.heap.size+1+1+1) 0 (yEA c g t so sc) (by kernel_rfl) (by kernel_rfl) hth (by kernel_rfl) (by simp[Value.oneCell']) ?_;refine hK.out _ _ ⟨q86,q87,q88⟩ (fun hS90=> ?_)
 clear hK K;clear q79 r80 r175 q76 q77 q78 b81 bu hth;refine tq 16 (yi fl) rfl (fun _ _=>by kernel_rfl) hS90 ?_
 refine wpAnyH_done (by kernel_rfl) ?_ _;clear hS0 hS71 hS82 hS90;change Exit.then _ _ _ _ (World.setCells w72 (w.heap.size+1+1+1) 0 (yEL c g t so sc));generalize World.setCells w72 (w.heap.size+1+1+1) 0 (yEL c g t so sc)=W91 at q86 q87 q88 q83 r84 r85 b89⊢;simp only[Act.put,List.getElem_toArray,List.getElem_cons_succ,List.getElem_cons_zero,List.setIfInBounds_toArray,List.set_cons_zero,List.set_cons_succ];have hl:=run_loadVar_mid (P:=Tryz.prog) _ (w.heap.size+1+1+1) 0 32 (yEL c g t so sc) _ q83.range underlying32 rfl (by kernel_rfl)
 go_wp2
 exact bodyPost_ret (aj results16 rfl rfl hl) rfl ⟨_,rfl,r85,b89⟩
theorem arithFuses_err (e:Int)(n wy f1 e1:Int)(sa sb sc st:ByteArray)(w:World)(he:(e==0)=false)
  (HA:yH w 15 #[yi n,.string sa,.string sb,.string sc,yi wy] (.tuple #[.string st,yi f1,yi e1]))
  (HO: ∀pb w1,au w1 pb 9 [.string sa,.string sb,.string sc]→yC 9 #[yi n,yi wy,.slice (some ⟨pb,0,none⟩) 3 3] w1 (yR w1 (.tuple #[yN,yi e])))
  (HB:yH w 11 #[] (.bool true))
  (HI:yH w 12 #[yi n,.string st,yi f1,yi e1,yi e,yoV 0 false false yN 0,yi 0] (.bool true)):
  yC 5 #[yi n,.string sa,.string sb,.string sc,yi wy] w (yR w (.bool true)):=by
 replace HA:Hid _:=HA;replace HO:Hid _:=HO;replace HB:Hid _:=HB;replace HI:Hid _:=HI
 go_enter func5,ntmps5
 have b0:=Below.refl w.heap.size w
 go_wp2_with fail
 refine(HA.out _ b0).mono ?_;rintro zz w1 ⟨rfl,bb2⟩;have b3:=aa b0 bb2;clear b0 bb2 HA;have al4:=af w1 (.cells #[.string sa,.string sb,.string sc] 9);have q5:=ah w1 [.string sa,.string sb,.string sc] 9;have b6:=aa b3 al4
 go_wp2_with fail
 refine(HO.out _ _ q5).mono ?_;rintro zz w7 ⟨rfl,bb8⟩;have b9:=aa b6 bb8;clear q5 b6 bb8 HO b3 al4;obtain⟨W13,hW12,q11,al10⟩:=cA w7 (yoL 0 false false yN 0) 32;replace hW12:Hid _:=hW12;have hl14:w.heap.size≤w7.heap.size:=b9.size;have b15:=aa b9 al10;clear b9 al10
 go_upto_region 4 with fail
 rw[hW12.out];clear hW12
 go_wp2_with fail
 refine(HB.out _ b15).mono ?_;rintro zz w16 ⟨rfl,bb17⟩;have q18:=q11.l bb17;have b19:=aa b15 bb17;clear q11 b15 bb17 HB;obtain⟨c20,c21,c22,c23,c24⟩:=q18.cs5
 go_wp2_with fail
 refine(HI.out _ b19).mono ?_;rintro zz w25 ⟨rfl,bb26⟩;have b27:=aa b19 bb26;clear q18 b19 bb26 HI c20 c21 c22 c23 c24
 go_wp2
 go_ret
 exact⟨by simp,b27⟩
theorem arithFuses_ok (cx cy cz c fl:Int)(gx gy gz g:Bool)(x y z t:ak)(n wy f1 e1:Int)(sa sb sc st:ByteArray)(w:World)
  (HA:yH w 15 #[yi n,.string sa,.string sb,.string sc,yi wy] (.tuple #[.string st,yi f1,yi e1]))
  (HO: ∀pb w1,au w1 pb 9 [.string sa,.string sb,.string sc]→yC 9 #[yi n,yi wy,.slice (some ⟨pb,0,none⟩) 3 3] w1 fun zz w'=> ∃gb cap xo xc yo yc zo zc,zz= .returned (.tuple #[.slice (some ⟨gb,0,none⟩) 3 cap,yi 0])∧w'.rangeAt gb 0 (yEL cx gx x xo xc)∧w'.rangeAt gb 5 (yEL cy gy y yo yc)∧w'.rangeAt gb 10 (yEL cz gz z zo zc)∧Rd w' .i64 (yS xo x.n xc) (Dg.dg 65536 x.n)∧Rd w' .i64 (yS yo y.n yc) (Dg.dg 65536 y.n)∧Rd w' .i64 (yS zo z.n zc) (Dg.dg 65536 z.n)∧yB w1 w')
  (HR: ∀xo xc yo yc zo zc w1,yB w w1→Rd w1 .i64 (yS xo x.n xc) (Dg.dg 65536 x.n)→Rd w1 .i64 (yS yo y.n yc) (Dg.dg 65536 y.n)→Rd w1 .i64 (yS zo z.n zc) (Dg.dg 65536 z.n)→yC 16 #[yi n,yEV cx gx x xo xc,yEV cy gy y yo yc,yEV cz gz z zo zc,yi wy] w1 (RVF w1 c g t fl))
  (HB:yH w 11 #[] (.bool true))
  (HI: ∀so sc w1,yB w w1→Rd w1 .i64 (yS so t.n sc) (Dg.dg 65536 t.n)→yC 12 #[yi n,.string st,yi f1,yi e1,yi 0,yEV c g t so sc,yi fl] w1 (yR w1 (.bool true))):
  yC 5 #[yi n,.string sa,.string sb,.string sc,yi wy] w (yR w (.bool true)):=by
 replace HA:Hid _:=HA;replace HO:Hid _:=HO;replace HR:Hid _:=HR;replace HB:Hid _:=HB;replace HI:Hid _:=HI
 go_enter func5,ntmps5
 have b0:=Below.refl w.heap.size w
 go_wp2_with fail
 refine(HA.out _ b0).mono ?_;rintro zz w1 ⟨rfl,bb2⟩;have b3:=aa b0 bb2;clear b0 bb2 HA;have al4:=af w1 (.cells #[.string sa,.string sb,.string sc] 9);have q5:=ah w1 [.string sa,.string sb,.string sc] 9;have b6:=aa b3 al4
 go_wp2_with fail
 refine(HO.out _ _ q5).mono ?_;rintro zz w7 ⟨gb,cap,xo,xc,yo,yc,zo,zc,rfl,h0,h1,h2,rx9,ry10,rz11,bb8⟩;have b12:=aa b6 bb8;clear q5 b6 bb8 HO b3 al4;obtain⟨W16,hW15,q14,al13⟩:=cA w7 (yoL 0 false false yN 0) 32;replace hW15:Hid _:=hW15;have hl17:w.heap.size≤w7.heap.size:=b12.size;have hl18:=World.block_lt_of_cell? _ _ (h0 0 _ rfl);have q19:=aC h0 al13;have q20:=aC h1 al13;have q21:=aC h2 al13;have r22:=rx9.l al13;have r23:=ry10.l al13;have r24:=rz11.l al13;have b25:=aa b12 al13;clear h0 h1 h2 rx9 ry10 rz11 b12 al13
 go_upto_region 4 with fail
 rw[hW15.out];clear hW15
 go_upto_region 6 with fail
 have bW26:yB W16 W16.drew:=(Below.refl _ _).drew;have q27:=aC q19 bW26;have q28:=aC q20 bW26;have q29:=aC q21 bW26;have q30:=q14.l bW26;have r31:=r22.l bW26;have r32:=r23.l bW26;have r33:=r24.l bW26;have b34:=aa b25 bW26;clear q19 q20 q21 q14 r22 r23 r24 b25 bW26;refine wp_region_held_drew (S:=fun wq=>wq.rangeAt gb 0 (yEL cx gx x xo xc)∧wq.rangeAt gb 5 (yEL cy gy y yo yc)∧wq.rangeAt gb 10 (yEL cz gz z zo zc)) (by kernel_rfl) ⟨q27,q28,q29⟩ (fun hS0=> ?_)
 generalize W16.drew=WD35 at q27 q28 q29 q30 r31 r32 r33 b34 hS0⊢;refine tq 0 (yi n) rfl (fun _ _=>by kernel_rfl) hS0 ?_
 refine tq 1 (.slice (some ⟨gb,0,none⟩) 3 cap) rfl (fun _ _=>by kernel_rfl) hS0 ?_
 refine tq 2 (.pointer (some ⟨gb,0,none⟩)) rfl (fun _ _=>by kernel_rfl) hS0 ?_
 refine tq 3 (yEV cx gx x xo xc) rfl (fun _ hw0=>fy 32 (.tmp 43) rfl gb 0 (by kernel_rfl) _ _ hw0.1 underlying32 rfl (by kernel_rfl)) hS0 ?_
 refine tq 4 (.slice (some ⟨gb,0,none⟩) 3 cap) rfl (fun _ _=>by kernel_rfl) hS0 ?_
 refine tq 5 (.pointer (some ⟨gb,5,none⟩)) rfl (fun _ _=>by kernel_rfl) hS0 ?_
 refine tq 6 (yEV cy gy y yo yc) rfl (fun _ hw0=>fy 32 (.tmp 46) rfl gb 5 (by kernel_rfl) _ _ hw0.2.1 underlying32 rfl (by kernel_rfl)) hS0 ?_
 refine tq 7 (.slice (some ⟨gb,0,none⟩) 3 cap) rfl (fun _ _=>by kernel_rfl) hS0 ?_
 refine tq 8 (.pointer (some ⟨gb,10,none⟩)) rfl (fun _ _=>by kernel_rfl) hS0 ?_
 refine tq 9 (yEV cz gz z zo zc) rfl (fun _ hw0=>fy 32 (.tmp 49) rfl gb 10 (by kernel_rfl) _ _ hw0.2.2 underlying32 rfl (by kernel_rfl)) hS0 ?_
 refine tq 10 (yi wy) rfl (fun _ _=>by kernel_rfl) hS0 ?_
 refine wpAnyH_ready (rs:=[11]) (by kernel_rfl) (by simp) ?_;refine AllReadyH.cons rfl (fun K hK=> ?_) AllReadyH.nil
 go_simp
 refine(HR.out _ _ _ _ _ _ _ b34 r31 r32 r33).mono ?_;rintro zz w36 ⟨v138,rfl,r139,bb37⟩;have q40:=aC q27 bb37;have q41:=aC q28 bb37;have q42:=aC q29 bb37;have q43:=q30.l bb37;have b44:=aa b34 bb37;obtain⟨so,sc,hv⟩:=r139.shape;subst hv;clear q27 q28 q29 q30 r31 r32 r33 b34 bb37 HR;refine hK.out _ _ ⟨q40,q41,q42⟩ (fun hS45=> ?_)
 clear hK K;refine tq 12 (.tuple #[yEV c g t so sc,yi fl]) rfl (fun _ _=>by kernel_rfl) hS45 ?_
 refine tq 13 (yEV c g t so sc) rfl (fun _ _=>by go_simp) hS45 ?_
 refine tq 14 (yi fl) rfl (fun _ _=>by go_simp) hS45 ?_
 refine wpAnyH_ready (rs:=[15]) (by kernel_rfl) (by simp) ?_;refine AllReadyH.cons rfl (fun K hK=> ?_) AllReadyH.nil
 have bu:But w7.heap.size w36 (w36.setCells w7.heap.size 0 (yEL c g t so sc)):=de _ _ _ _;have hth:w36.there w7.heap.size 0 5:=dD q43;have q46:au (w36.setCells w7.heap.size 0 (yEL c g t so sc)) w7.heap.size 32 (yEL c g t so sc):=q43.sets _ rfl;have r47:=bu.rd r139 (cq r139 (Dg.norm_dg _ _ (by omega)) q43 (fun x hx n hn=>by simp at hx;rcases hx with rfl|rfl|rfl|rfl|rfl<;>simp;all_goals omega))
 have q48:=dZ bu q40 (by omega);have q49:=dZ bu q41 (by omega);have q50:=dZ bu q42 (by omega);have b51:=bu.below b44 (by omega);rw[if_pos (by kernel_rfl)];refine wp_store_mid 32 (.tmp 16) (.tmp 53) rfl w7.heap.size 0 (yEA c g t so sc) (by kernel_rfl) (by kernel_rfl) hth (by kernel_rfl) (by simp[Value.oneCell']) ?_;refine hK.out _ _ ⟨q48,q49,q50⟩ (fun hS52=> ?_)
 clear hK K;clear q43 r139 q40 q41 q42 b44 bu hth;refine tq 16 (yi fl) rfl (fun _ _=>by kernel_rfl) hS52 ?_
 refine wpAnyH_done (by kernel_rfl) ?_ _;clear hS0 hS45 hS52;change Exit.then _ _ _ _ (World.setCells w36 w7.heap.size 0 (yEL c g t so sc));generalize World.setCells w36 w7.heap.size 0 (yEL c g t so sc)=W53 at q48 q49 q50 q46 r47 b51⊢;simp only[Act.put,List.getElem_toArray,List.getElem_cons_succ,List.getElem_cons_zero,List.setIfInBounds_toArray,List.set_cons_zero,List.set_cons_succ]
 go_wp2_with fail
 refine(HB.out _ b51).mono ?_;rintro zz w54 ⟨rfl,bb55⟩;have q56:=q46.l bb55;have r57:=r47.l bb55;have b58:=aa b51 bb55;clear q48 q49 q50 q46 r47 b51 bb55 HB;obtain⟨c59,c60,c61,c62,c63⟩:=q56.cs5
 go_wp2_with fail
 refine(HI.out _ _ _ b58 r57).mono ?_;rintro zz w64 ⟨rfl,bb65⟩;have b66:=aa b58 bb65;clear q56 r57 b58 bb65 HI c59 c60 c61 c62 c63
 go_wp2
 go_ret
 exact⟨by simp,b66⟩
end Go.Proofs.YtbdokgamhinajaaGreatDoor
