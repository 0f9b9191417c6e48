/-
  Texts laid together: Tx4, Tx7, Ar1.
-/
import Derived.Test.YtpgijbdgljkeeaaGreatDoorUx27
set_option maxRecDepth 100000
set_option maxHeartbeats 6400000
namespace Go.Proofs.YtpgijbdgljkeeaaGreatDoor
open _root_.Go.Proofs.Tryz
open Go.RowKit
theorem tratio_down (ng:Bool)(ds:ByteArray)(p np tw mt ex:Int)(N F M Ksh:Nat)(w:World)(h0:0< (Dg.dg 4294967296 N).length)(hmt:IntKind.i64.wrap (-tw)=mt)(hex:IntKind.i64.wrap (p+tw)=ex)(hp: ¬0<p)(hnp:IntKind.i64.wrap (-p)=np)
  (HD: ∀w1,yC 70 #[.string ds] w1 (NmR w1 N))
  (HR: ∀xo xc w1,Rd w1 .u32 (yT xo N xc) (Dg.dg 4294967296 N)→yC 73 #[yT xo N xc,yi np] w1 (TwR w1 M F))
  (HW: ∀mo mc w1,yB w w1→Rd w1 .u32 (yT mo M mc) (Dg.dg 4294967296 M)→yC 74 #[yT mo M mc] w1 (yR w1 (yi tw)))
  (HS: ∀mo mc w1,Rd w1 .u32 (yT mo M mc) (Dg.dg 4294967296 M)→yC 75 #[yT mo M mc,yi mt] w1 (NmR w1 Ksh)):
  yC 31 #[.agg #[.bool ng,.string ds,yi p]] w (RtR w ng Ksh F ex):=by
 replace HD:Hid _:=HD;replace HR:Hid _:=HR;replace HW:Hid _:=HW;replace HS:Hid _:=HS;obtain⟨W4,hW5,q1,q2,b3⟩:=iG w [.bool ng,.string ds,yi p] 74 (yrL false yN yN 0) 25;replace hW5:Hid _:=hW5
 go_enter func31,ntmps31
 go_upto_region 1 with fail
 rw[hW5.out];clear hW5;have c6:=q1.c 1 rfl
 go_wp2_with fail
 refine(HD.out _).mono ?_;rintro zz w7 ⟨v1x9,rfl,r1x10,bb8⟩;have q11:=q1.l bb8;have q12:=q2.l bb8;have b13:=aa b3 bb8;obtain⟨xo,xc,hv⟩:=r1x10.shape;subst hv;clear q1 q2 b3 bb8 HD c6;have hl16:=q11.lt;have hl17:=q12.lt;have al14:=af w7 (.cells #[.int .u32 1] 138);have q15:=ah w7 [.int .u32 1] 138;have q18:=q11.l al14;have q19:=q12.l al14;have r20:=r1x10.l al14;have b21:=aa b13 al14;have c22:=q18.c 2 rfl
 go_wp2_with fail
 refine(HR.out _ _ _ r20).mono ?_;rintro zz w23 ⟨v1x25,v2x26,rfl,r1x27,r2x28,bb24⟩;have q29:=q18.l bb24;have q30:=q19.l bb24;have r31:=r20.l bb24;have b32:=aa b21 bb24;obtain⟨mo,mc,hv⟩:=r1x27.shape;subst hv;obtain⟨fo,fc,hv⟩:=r2x28.shape;subst hv;clear q18 q19 q15 r20 b21 bb24 HR c22 q11 q12 r1x10 b13 al14
 go_wp2_with fail
 refine(HW.out _ _ _ b32 r1x27).mono ?_;rintro zz w33 ⟨rfl,bb34⟩;have q35:=q29.l bb34;have q36:=q30.l bb34;have r37:=r31.l bb34;have r38:=r1x27.l bb34;have r39:=r2x28.l bb34;have b40:=aa b32 bb34;clear q29 q30 r31 r1x27 r2x28 b32 bb34 HW
 go_upto_region 8 with fail
 have bW41:yB w33 w33.drew:=(Below.refl _ _).drew;have q42:=q35.l bW41;have q43:=q36.l bW41;have r44:=r37.l bW41;have r45:=r38.l bW41;have r46:=r39.l bW41;have b47:=aa b40 bW41;clear q35 q36 r37 r38 r39 b40 bW41;refine wp_region_held_drew (S:=fun wq=>au wq w.heap.size 74 [.bool ng,.string ds,yi p]) (by kernel_rfl) q42 (fun hS0=> ?_)
 generalize w33.drew=WD48 at q42 q43 r44 r45 r46 b47 hS0⊢;refine tq 0 (.pointer (some ⟨w.heap.size,0,none⟩)) rfl (fun _ _=>by kernel_rfl) hS0 ?_
 refine tq 1 (.bool ng) rfl (fun _ hw0=>gU 4 (.tmp 35) rfl w.heap.size 0 (by kernel_rfl) _ _ underlying4 rfl (hw0.c 0 rfl)) hS0 ?_
 refine tq 2 (yT mo M mc) rfl (fun _ _=>by kernel_rfl) hS0 ?_
 refine tq 3 (yi tw) rfl (fun _ _=>by kernel_rfl) hS0 ?_
 refine tq 4 (yi mt) rfl (fun _ _=>by go_simp) hS0 ?_
 refine tq 6 (yT fo F fc) rfl (fun _ _=>by kernel_rfl) hS0 ?_
 refine tq 7 (.pointer (some ⟨w.heap.size,2,none⟩)) rfl (fun _ _=>by kernel_rfl) hS0 ?_
 refine tq 8 (yi p) rfl (fun _ hw0=>gU 3 (.tmp 42) rfl w.heap.size 2 (by kernel_rfl) _ _ underlying3 rfl (hw0.c 2 rfl)) hS0 ?_
 refine tq 9 (yi tw) rfl (fun _ _=>by kernel_rfl) hS0 ?_
 refine tq 10 (yi ex) rfl (fun _ _=>by go_simp) hS0 ?_
 refine wpAnyH_ready (rs:=[5]) (by kernel_rfl) (by simp) ?_;refine AllReadyH.cons rfl (fun K hK=> ?_) AllReadyH.nil
 go_simp
 refine(HS.out _ _ _ r45).mono ?_;rintro zz w49 ⟨v1x51,rfl,r1x52,bb50⟩;have q53:=q42.l bb50;have q54:=q43.l bb50;have r55:=r44.l bb50;have r56:=r45.l bb50;have r57:=r46.l bb50;have b58:=aa b47 bb50;obtain⟨ko,kc,hv⟩:=r1x52.shape;subst hv;clear q42 q43 r44 r45 r46 b47 bb50 HS;refine hK.out _ _ q53 (fun hS59=> ?_)
 clear hK K;refine tq 11 (yrV ng (yT ko Ksh kc) (yT fo F fc) ex) rfl (fun _ _=>by kernel_rfl) hS59 ?_
 refine wpAnyH_ready (rs:=[12]) (by kernel_rfl) (by simp) ?_;refine AllReadyH.cons rfl (fun K hK=> ?_) AllReadyH.nil
 have bu:But (w.heap.size+1) w49 (w49.setCells (w.heap.size+1) 0 (yrL ng (yT ko Ksh kc) (yT fo F fc) ex)):=de _ _ _ _;have hth:w49.there (w.heap.size+1) 0 4:=dD q54;have q60:au (w49.setCells (w.heap.size+1) 0 (yrL ng (yT ko Ksh kc) (yT fo F fc) ex)) (w.heap.size+1) 25 (yrL ng (yT ko Ksh kc) (yT fo F fc) ex):=q54.sets _ rfl;have r61:=bu.rd r55 (aX r55 q54 (by simp));have r62:=bu.rd r56 (aX r56 q54 (by simp));have r63:=bu.rd r57 (aX r57 q54 (by simp));have r64:=bu.rd r1x52 (aX r1x52 q54 (by simp));have q65:=bu.loc q53 (by omega);have b66:=bu.below b58 (by omega);rw[if_pos (by kernel_rfl)];refine wp_store_mid 25 (.tmp 2) (.tmp 46) rfl (w.heap.size+1) 0 (yrA ng (yT ko Ksh kc) (yT fo F fc) ex) (by kernel_rfl) (by kernel_rfl) hth (by kernel_rfl) (by simp[Value.oneCell']) ?_;refine hK.out _ _ q65 (fun hS67=> ?_)
 clear hK K;clear q54 r55 r56 r57 r1x52 q53 b58 bu hth;refine wpAnyH_done (by kernel_rfl) ?_ _;clear hS0 hS59 hS67;change Exit.then _ _ _ _ (World.setCells w49 (w.heap.size+1) 0 (yrL ng (yT ko Ksh kc) (yT fo F fc) ex));generalize World.setCells w49 (w.heap.size+1) 0 (yrL ng (yT ko Ksh kc) (yT fo F fc) ex)=W68 at q65 q60 r61 r62 r63 r64 b66⊢;simp only[Act.put,List.getElem_toArray,List.getElem_cons_succ,List.getElem_cons_zero];have hl:=run_loadVar_mid (P:=Tryz.prog) _ (w.heap.size+1) 0 25 (yrL ng (yT ko Ksh kc) (yT fo F fc) ex) _ q60.range underlying25 rfl (by kernel_rfl)
 go_wp2
 exact bodyPost_ret (br results31 rfl hl) rfl ⟨_,_,rfl,r64,r63,b66⟩
theorem tdecOf_f (xg:Bool)(xn wh hv:Nat)(xo:Option Addr)(xc:Nat)(e bl bm be gs up p1 p2 p3:Int)(ds:ByteArray)(w:World)(rx:Rd w .u32 (yT xo xn xc) (Dg.dg 4294967296 xn))(h1:IntKind.i64.wrap (bl-1)=bm)(h2:IntKind.i64.wrap (bm+e)=be)(h3:IntKind.i64.wrap (60-gs)=up)(h4:IntKind.i64.wrap (gs+(ds.size:Int))=p1)(h5:IntKind.i64.wrap (p1-1)=p2)(h6:IntKind.i64.wrap (p2-60)=p3)
  (HB: ∀xo xc w1,Rd w1 .u32 (yT xo xn xc) (Dg.dg 4294967296 xn)→yC 96 #[yT xo xn xc] w1 (yR w1 (yi bl)))
  (HP:yJ 95 #[yi be] (yi gs))
  (HC: ∀xo xc w1,yB w w1→Rd w1 .u32 (yT xo xn xc) (Dg.dg 4294967296 xn)→yC 97 #[ydV xg (yT xo xn xc) e,yi up] w1 (NbR w1 wh false))
  (HD: ∀vo vc w1,Rd w1 .u32 (yT vo wh vc) (Dg.dg 4294967296 wh)→yC 98 #[yT vo wh vc] w1 (yR w1 (.string ds)))
  (HS: ∀vo vc w1,Rd w1 .u32 (yT vo wh vc) (Dg.dg 4294967296 wh)→yC 75 #[yT vo wh vc,yi 1] w1 (NmR w1 hv)):
  yC 46 #[ydV xg (yT xo xn xc) e] w (DcR w xg hv (ds.size:Int) p3):=by
 replace HB:Hid _:=HB;replace HP:Hid _:=HP;replace HC:Hid _:=HC;replace HD:Hid _:=HD;replace HS:Hid _:=HS;obtain⟨W4,hW5,q1,q2,b3⟩:=iG w (ydL xg (yT xo xn xc) e) 95 [.bool false,yN,yi 0,yi 0] 102;replace hW5:Hid _:=hW5;have r6:=rx.l b3;clear rx
 go_enter func46,ntmps46
 go_upto_region 1 with fail
 rw[hW5.out];clear hW5
 go_upto_region 1 with fail
 have bW7:yB W4 W4.drew:=(Below.refl _ _).drew;have q8:=q1.l bW7;have q9:=q2.l bW7;have r10:=r6.l bW7;have b11:=aa b3 bW7;clear q1 q2 r6 b3 bW7;refine wp_region_held_drew (S:=fun wq=>au wq w.heap.size 95 (ydL xg (yT xo xn xc) e)) (by kernel_rfl) q8 (fun hS0=> ?_)
 generalize W4.drew=WD12 at q8 q9 r10 b11 hS0⊢;refine tq 0 (.pointer (some ⟨w.heap.size,1,none⟩)) rfl (fun _ _=>by kernel_rfl) hS0 ?_
 refine tq 1 (yT xo xn xc) rfl (fun _ hw0=>gU 23 (.tmp 8) rfl w.heap.size 1 (by kernel_rfl) _ _ underlying23 rfl (hw0.c 1 rfl)) hS0 ?_
 refine tq 4 (.pointer (some ⟨w.heap.size,2,none⟩)) rfl (fun _ _=>by kernel_rfl) hS0 ?_
 refine tq 5 (yi e) rfl (fun _ hw0=>gU 3 (.tmp 12) rfl w.heap.size 2 (by kernel_rfl) _ _ underlying3 rfl (hw0.c 2 rfl)) hS0 ?_
 refine wpAnyH_ready (rs:=[2]) (by kernel_rfl) (by simp) ?_;refine AllReadyH.cons rfl (fun K hK=> ?_) AllReadyH.nil
 go_simp
 refine(HB.out _ _ _ r10).mono ?_;rintro zz w13 ⟨rfl,bb14⟩;have q15:=q8.l bb14;have q16:=q9.l bb14;have r17:=r10.l bb14;have b18:=aa b11 bb14;clear q8 q9 r10 b11 bb14 HB;refine hK.out _ _ q15 (fun hS19=> ?_)
 clear hK K;refine tq 3 (yi bm) rfl (fun _ _=>by go_simp) hS19 ?_
 refine tq 6 (yi be) rfl (fun _ _=>by go_simp) hS19 ?_
 refine wpAnyH_ready (rs:=[7]) (by kernel_rfl) (by simp) ?_;refine AllReadyH.cons rfl (fun K hK=> ?_) AllReadyH.nil
 go_simp
 refine(HP.out _).mono ?_;rintro zz w20 ⟨rfl,bb21⟩;have q22:=q15.l bb21;have q23:=q16.l bb21;have r24:=r17.l bb21;have b25:=aa b18 bb21;clear q15 q16 r17 b18 bb21 HP;refine hK.out _ _ q22 (fun hS26=> ?_)
 clear hK K;refine tq 8 (yi gs) rfl (fun _ _=>by kernel_rfl) hS26 ?_
 refine wpAnyH_done (by kernel_rfl) ?_ _;clear hS0 hS19 hS26;simp only[Act.put,List.getElem_toArray,List.getElem_cons_succ,List.getElem_cons_zero,List.setIfInBounds_toArray,List.set_cons_zero,List.set_cons_succ];obtain⟨c27,c28,c29⟩:=q22.cs3
 go_wp2_with fail
 refine(HC.out _ _ _ b25 r24).mono ?_;rintro zz w30 ⟨v1x32,rfl,r1x33,bb31⟩;have q34:=q22.l bb31;have q35:=q23.l bb31;have r36:=r24.l bb31;have b37:=aa b25 bb31;obtain⟨vo,vc,hv⟩:=r1x33.shape;subst hv;clear q22 q23 r24 b25 bb31 HC c27 c28 c29
 go_wp2_with fail
 refine(HD.out _ _ _ r1x33).mono ?_;rintro zz w38 ⟨rfl,bb39⟩;have q40:=q34.l bb39;have q41:=q35.l bb39;have r42:=r36.l bb39;have r43:=r1x33.l bb39;have b44:=aa b37 bb39;clear q34 q35 r36 r1x33 b37 bb39 HD
 go_wp2_with fail
 refine(HS.out _ _ _ r43).mono ?_;rintro zz w45 ⟨v1x47,rfl,r1x48,bb46⟩;have q49:=q40.l bb46;have q50:=q41.l bb46;have r51:=r42.l bb46;have r52:=r43.l bb46;have b53:=aa b44 bb46;obtain⟨ho,hc,hv⟩:=r1x48.shape;subst hv;clear q40 q41 r42 r43 b44 bb46 HS;have c54:=q49.c 0 rfl;have hf:=afz (P:=Tryz.prog) q50 b53 (by omega) underlying102 rfl (by kernel_rfl) (.bool xg) (yT ho hv hc) (yi (ds.size:Int)) (yi p3);have HH:Hid (_∧_∧_):=⟨hf.1,hf.2.2.rd r1x48 (aX r1x48 q50 (by simp)),hf.2.1⟩;obtain⟨⟨z0,z1,z2,z3⟩,y0,y1,y2,y3⟩:=afB q50;clear hf q49 q50 r51 r52 r1x48 b53
 go_wp2
 obtain⟨hl,rRh,bR⟩:=HH.out;exact bodyPost_ret (br results46 rfl hl) rfl ⟨_,rfl,rRh,bR⟩
theorem tdecOf_t (xg:Bool)(xn wh hv hw:Nat)(xo:Option Addr)(xc:Nat)(e bl bm be gs up p1 p2 p3:Int)(ds:ByteArray)(w:World)(rx:Rd w .u32 (yT xo xn xc) (Dg.dg 4294967296 xn))(h1:IntKind.i64.wrap (bl-1)=bm)(h2:IntKind.i64.wrap (bm+e)=be)(h3:IntKind.i64.wrap (60-gs)=up)(h4:IntKind.i64.wrap (gs+(ds.size:Int))=p1)(h5:IntKind.i64.wrap (p1-1)=p2)(h6:IntKind.i64.wrap (p2-60)=p3)
  (HB: ∀xo xc w1,Rd w1 .u32 (yT xo xn xc) (Dg.dg 4294967296 xn)→yC 96 #[yT xo xn xc] w1 (yR w1 (yi bl)))
  (HP:yJ 95 #[yi be] (yi gs))
  (HC: ∀xo xc w1,yB w w1→Rd w1 .u32 (yT xo xn xc) (Dg.dg 4294967296 xn)→yC 97 #[ydV xg (yT xo xn xc) e,yi up] w1 (NbR w1 wh true))
  (HD: ∀vo vc w1,Rd w1 .u32 (yT vo wh vc) (Dg.dg 4294967296 wh)→yC 98 #[yT vo wh vc] w1 (yR w1 (.string ds)))
  (HS: ∀vo vc w1,Rd w1 .u32 (yT vo wh vc) (Dg.dg 4294967296 wh)→yC 75 #[yT vo wh vc,yi 1] w1 (NmR w1 hv))
  (HA: ∀ho hc q w1,Rd w1 .u32 (yT ho hv hc) (Dg.dg 4294967296 hv)→au w1 q 138 [.int .u32 1]→yC 99 #[yT ho hv hc,.slice (some ⟨q,0,none⟩) 1 1] w1 (NmR w1 hw)):
  yC 46 #[ydV xg (yT xo xn xc) e] w (DcR w xg hw (ds.size:Int) p3):=by
 replace HB:Hid _:=HB;replace HP:Hid _:=HP;replace HC:Hid _:=HC;replace HD:Hid _:=HD;replace HS:Hid _:=HS;replace HA:Hid _:=HA;obtain⟨W4,hW5,q1,q2,b3⟩:=iG w (ydL xg (yT xo xn xc) e) 95 [.bool false,yN,yi 0,yi 0] 102;replace hW5:Hid _:=hW5;have r6:=rx.l b3;clear rx
 go_enter func46,ntmps46
 go_upto_region 1 with fail
 rw[hW5.out];clear hW5
 go_upto_region 1 with fail
 have bW7:yB W4 W4.drew:=(Below.refl _ _).drew;have q8:=q1.l bW7;have q9:=q2.l bW7;have r10:=r6.l bW7;have b11:=aa b3 bW7;clear q1 q2 r6 b3 bW7;refine wp_region_held_drew (S:=fun wq=>au wq w.heap.size 95 (ydL xg (yT xo xn xc) e)) (by kernel_rfl) q8 (fun hS0=> ?_)
 generalize W4.drew=WD12 at q8 q9 r10 b11 hS0⊢;refine tq 0 (.pointer (some ⟨w.heap.size,1,none⟩)) rfl (fun _ _=>by kernel_rfl) hS0 ?_
 refine tq 1 (yT xo xn xc) rfl (fun _ hw0=>gU 23 (.tmp 8) rfl w.heap.size 1 (by kernel_rfl) _ _ underlying23 rfl (hw0.c 1 rfl)) hS0 ?_
 refine tq 4 (.pointer (some ⟨w.heap.size,2,none⟩)) rfl (fun _ _=>by kernel_rfl) hS0 ?_
 refine tq 5 (yi e) rfl (fun _ hw0=>gU 3 (.tmp 12) rfl w.heap.size 2 (by kernel_rfl) _ _ underlying3 rfl (hw0.c 2 rfl)) hS0 ?_
 refine wpAnyH_ready (rs:=[2]) (by kernel_rfl) (by simp) ?_;refine AllReadyH.cons rfl (fun K hK=> ?_) AllReadyH.nil
 go_simp
 refine(HB.out _ _ _ r10).mono ?_;rintro zz w13 ⟨rfl,bb14⟩;have q15:=q8.l bb14;have q16:=q9.l bb14;have r17:=r10.l bb14;have b18:=aa b11 bb14;clear q8 q9 r10 b11 bb14 HB;refine hK.out _ _ q15 (fun hS19=> ?_)
 clear hK K;refine tq 3 (yi bm) rfl (fun _ _=>by go_simp) hS19 ?_
 refine tq 6 (yi be) rfl (fun _ _=>by go_simp) hS19 ?_
 refine wpAnyH_ready (rs:=[7]) (by kernel_rfl) (by simp) ?_;refine AllReadyH.cons rfl (fun K hK=> ?_) AllReadyH.nil
 go_simp
 refine(HP.out _).mono ?_;rintro zz w20 ⟨rfl,bb21⟩;have q22:=q15.l bb21;have q23:=q16.l bb21;have r24:=r17.l bb21;have b25:=aa b18 bb21;clear q15 q16 r17 b18 bb21 HP;refine hK.out _ _ q22 (fun hS26=> ?_)
 clear hK K;refine tq 8 (yi gs) rfl (fun _ _=>by kernel_rfl) hS26 ?_
 refine wpAnyH_done (by kernel_rfl) ?_ _;clear hS0 hS19 hS26;simp only[Act.put,List.getElem_toArray,List.getElem_cons_succ,List.getElem_cons_zero,List.setIfInBounds_toArray,List.set_cons_zero,List.set_cons_succ];obtain⟨c27,c28,c29⟩:=q22.cs3
 go_wp2_with fail
 refine(HC.out _ _ _ b25 r24).mono ?_;rintro zz w30 ⟨v1x32,rfl,r1x33,bb31⟩;have q34:=q22.l bb31;have q35:=q23.l bb31;have r36:=r24.l bb31;have b37:=aa b25 bb31;obtain⟨vo,vc,hv⟩:=r1x33.shape;subst hv;clear q22 q23 r24 b25 bb31 HC c27 c28 c29
 go_wp2_with fail
 refine(HD.out _ _ _ r1x33).mono ?_;rintro zz w38 ⟨rfl,bb39⟩;have q40:=q34.l bb39;have q41:=q35.l bb39;have r42:=r36.l bb39;have r43:=r1x33.l bb39;have b44:=aa b37 bb39;clear q34 q35 r36 r1x33 b37 bb39 HD
 go_wp2_with fail
 refine(HS.out _ _ _ r43).mono ?_;rintro zz w45 ⟨v1x47,rfl,r1x48,bb46⟩;have q49:=q40.l bb46;have q50:=q41.l bb46;have r51:=r42.l bb46;have r52:=r43.l bb46;have b53:=aa b44 bb46;obtain⟨ho,hc,hv⟩:=r1x48.shape;subst hv;clear q40 q41 r42 r43 b44 bb46 HS;have hl56:=q49.lt;have hl57:=q50.lt;have al54:=af w45 (.cells #[.int .u32 1] 138);have q55:=ah w45 [.int .u32 1] 138;have q58:=q49.l al54;have q59:=q50.l al54;have r60:=r51.l al54;have r61:=r52.l al54;have r62:=r1x48.l al54;have b63:=aa b53 al54
 go_wp2_with fail
 refine(HA.out _ _ _ _ r62 q55).mono ?_;rintro zz w64 ⟨v1x66,rfl,r1x67,bb65⟩;have q68:=q58.l bb65;have q69:=q59.l bb65;have r70:=r60.l bb65;have r71:=r61.l bb65;have r72:=r62.l bb65;have b73:=aa b63 bb65;obtain⟨ko,kc,hv⟩:=r1x67.shape;subst hv;clear q58 q59 q55 r60 r61 r62 b63 bb65 HA q49 q50 r51 r52 r1x48 b53 al54;have c74:=q68.c 0 rfl;have hf:=afz (P:=Tryz.prog) q69 b73 (by omega) underlying102 rfl (by kernel_rfl) (.bool xg) (yT ko hw kc) (yi (ds.size:Int)) (yi p3);have HH:Hid (_∧_∧_):=⟨hf.1,hf.2.2.rd r1x67 (aX r1x67 q69 (by simp)),hf.2.1⟩;obtain⟨⟨z0,z1,z2,z3⟩,y0,y1,y2,y3⟩:=afB q69;clear hf q68 q69 r70 r71 r72 r1x67 b73
 go_wp2
 obtain⟨hl,rRk,bR⟩:=HH.out;exact bodyPost_ret (br results46 rfl hl) rfl ⟨_,rfl,rRk,bR⟩
theorem abe (n R D L G c p:Int)(gr ng:Bool)(m:Nat)(t:ak)(s:ByteArray)(w:World)
  (HG:yJ 92 #[yi n] (.tuple #[ygV R D L G gr,yi 0]))
  (HD: ∀w1,yC 26 #[yi n,.string s] w1 (eP w1 c ng m p 0))
  (HN: ∀vo vc w1,yB w w1→Rd w1 .u32 (yT vo m vc) (Dg.dg 4294967296 m)→yC 93 #[yvV c ng (yT vo m vc) p,ygV R D L G gr] w1 (acy w1 t)):
  yC 44 #[yi n,.string s] w (Ys w c ng m p t 0):=by
 replace HG:Hid _:=HG;replace HD:Hid _:=HD;replace HN:Hid _:=HN;have bv:=af w (.cells (yvA 0 false yN 0) 66);have bx:=af (w.alloc (.cells (yvA 0 false yN 0) 66)) (.cells (ydA false yN 0) 95);have v0:=(ah w (yvL 0 false yN 0) 66).l bx;have x0:=ah (w.alloc (.cells (yvA 0 false yN 0) 66)) (ydL false yN 0) 95;have b0:=aa bv bx;rw[World.size_alloc] at x0;clear bv bx
 go_enter func44,ntmps44
 go_upto_region 1 with fail
 generalize(w.alloc (.cells (yvA 0 false yN 0) 66)).alloc (.cells (ydA false yN 0) 95)=W0 at v0 x0 b0⊢
 go_wp2_with fail
 refine(HG.out _).mono ?_;rintro z w1 ⟨rfl,b1⟩;have bg:=af w1 (.cells (ygA R D L G gr) 40);have g1:=ah w1 (ygL R D L G gr) 40;have v1:=(v0.l b1).l bg;have x1:=(x0.l b1).l bg;have b01:=aa (aa b0 b1) bg;have hlG:w.heap.size+1<w1.heap.size:=(x0.l b1).lt
 go_upto_region 4 with fail
 generalize w1.alloc (.cells (ygA R D L G gr) 40)=WG at g1 v1 x1 b01⊢;generalize w1.heap.size=PG at g1 hlG⊢;clear v0 x0 b0 b1 bg HG
 go_wp2_with fail
 refine(HD.out _).mono ?_;rintro z w2 ⟨vv,rfl,r2,b2⟩;obtain⟨vo,vc,hv⟩:=r2.shape;subst hv;have bl:=af w2 (.cells (yvA c ng (yT vo m vc) p) 66);have q2:=ah w2 (yvL c ng (yT vo m vc) p) 66;have g2:=(g1.l b2).l bl;have v2:=(v1.l b2).l bl;have x2:=(x1.l b2).l bl;have rr:=r2.l bl;have b02:=aa (aa b01 b2) bl;have hlQ:PG<w2.heap.size:=(g1.l b2).lt
 go_upto_region 7 with fail
 generalize w2.alloc (.cells (yvA c ng (yT vo m vc) p) 66)=W2 at q2 g2 v2 x2 rr b02⊢;generalize w2.heap.size=PQ at q2 hlQ⊢;clear v1 x1 g1 b01 b2 bl r2 HD;have qd:=q2.drew;have gd:=g2.drew;have vd:=v2.drew;have xd:=x2.drew;have rd:=Rd.l rr ((Below.refl _ _).drew);have n1:w.heap.size≠PG:=by omega
 have n2:w.heap.size+1≠PG:=by omega
 have n3:w.heap.size≠PQ:=by omega
 have n4:w.heap.size+1≠PQ:=by omega
 have bd:=b02.drew;obtain⟨a0,a1,a2,a3⟩:=q2.cs4;obtain⟨y0,y1,y2,y3,y4⟩:=g2.cs5
 go_region_held3 (fun wq=>(wq.cell? ⟨PQ,0,none⟩=some (yi c)∧wq.cell? ⟨PQ,1,none⟩=some (.bool ng)∧wq.cell? ⟨PQ,2,none⟩=some (yT vo m vc)∧wq.cell? ⟨PQ,3,none⟩=some (yi p))∧(wq.cell? ⟨PG,0,none⟩=some (yi R)∧wq.cell? ⟨PG,1,none⟩=some (yi D)∧wq.cell? ⟨PG,2,none⟩=some (yi L)∧wq.cell? ⟨PG,3,none⟩=some (yi G)∧wq.cell? ⟨PG,4,none⟩=some (.bool gr))) (go_keep) (first
  | (go_at_call 93;refine(HN.out _ _ _ bd rd).mono ?_;rintro z w3 ⟨sv,rfl,r4,fx,b3⟩;obtain⟨so,sc,hs⟩:=r4.shape;subst hs;have q3:=qd.l b3;have g3:=gd.l b3;have v3:=vd.l b3;have x3:=xd.l b3;have r3:=rd.l b3;have b03:=aa bd b3;obtain⟨c0,c1,c2,c3⟩:=q3.cs4;obtain⟨d0,d1,d2,d3,d4⟩:=g3.cs5;obtain⟨e0,e1,e2,e3⟩:=v3.cs4;obtain⟨k0,k1,k2⟩:=x3.cs3;have f0:=v3.f 0;have f1:=v3.f 1;have f2:=v3.f 2;have f3:=v3.f 3;have g0:=x3.f 0;have g1:=x3.f 1;have g2:=x3.f 2))
 all_goals
  have cV:au (((((((w3.setCell ⟨w.heap.size,0,none⟩ (yi c)).setCell ⟨w.heap.size,1,none⟩ (.bool ng)).setCell ⟨w.heap.size,2,none⟩ (yT vo m vc)).setCell ⟨w.heap.size,3,none⟩ (yi p)).setCell ⟨w.heap.size+1,0,none⟩ (.bool t.s)).setCell ⟨w.heap.size+1,1,none⟩ (yT so t.n sc)).setCell ⟨w.heap.size+1,2,none⟩ (yi t.e)) w.heap.size 66 (yvL c ng (yT vo m vc) p):=(((((((v3.set 0 (yi c)).set 1 (.bool ng)).set 2 (yT vo m vc)).set 3 (yi p)).off (show w.heap.size+1≠w.heap.size by omega) 0 (.bool t.s)).off (show w.heap.size+1≠w.heap.size by omega) 1 (yT so t.n sc)).off (show w.heap.size+1≠w.heap.size by omega) 2 (yi t.e))
  have cX:au (((((((w3.setCell ⟨w.heap.size,0,none⟩ (yi c)).setCell ⟨w.heap.size,1,none⟩ (.bool ng)).setCell ⟨w.heap.size,2,none⟩ (yT vo m vc)).setCell ⟨w.heap.size,3,none⟩ (yi p)).setCell ⟨w.heap.size+1,0,none⟩ (.bool t.s)).setCell ⟨w.heap.size+1,1,none⟩ (yT so t.n sc)).setCell ⟨w.heap.size+1,2,none⟩ (yi t.e)) (w.heap.size+1) 95 (yDL t so sc):=(((((((x3.off (show w.heap.size≠w.heap.size+1 by omega) 0 (yi c)).off (show w.heap.size≠w.heap.size+1 by omega) 1 (.bool ng)).off (show w.heap.size≠w.heap.size+1 by omega) 2 (yT vo m vc)).off (show w.heap.size≠w.heap.size+1 by omega) 3 (yi p)).set 0 (.bool t.s)).set 1 (yT so t.n sc)).set 2 (yi t.e))
  have cX0:=((((x3.off (show w.heap.size≠w.heap.size+1 by omega) 0 (yi c)).off (show w.heap.size≠w.heap.size+1 by omega) 1 (.bool ng)).off (show w.heap.size≠w.heap.size+1 by omega) 2 (yT vo m vc)).off (show w.heap.size≠w.heap.size+1 by omega) 3 (yi p))
  have bu1:=(((ag w3 w.heap.size 0 (yi c)).trans (ag _ w.heap.size 1 (.bool ng))).trans (ag _ w.heap.size 2 (yT vo m vc))).trans (ag _ w.heap.size 3 (yi p));have bu2:=((ag ((((w3.setCell ⟨w.heap.size,0,none⟩ (yi c)).setCell ⟨w.heap.size,1,none⟩ (.bool ng)).setCell ⟨w.heap.size,2,none⟩ (yT vo m vc)).setCell ⟨w.heap.size,3,none⟩ (yi p)) (w.heap.size+1) 0 (.bool t.s)).trans (ag _ (w.heap.size+1) 1 (yT so t.n sc))).trans (ag _ (w.heap.size+1) 2 (yi t.e));have bR:=bu2.below (bu1.below b03 (Nat.le_refl _)) (by omega);have rV1:=bu1.rd r3 (aX r3 v3 (by simp));have rV:=bu2.rd rV1 (aX rV1 cX0 (by simp));have rX1:=bu1.rd r4 (aX r4 v3 (by simp));have rX:=bu2.rd rX1 (aX rX1 cX0 (by simp));have hl1:=run_loadVar_mid (P:=Tryz.prog) _ w.heap.size 0 66 (yvL c ng (yT vo m vc) p) _ cV.range underlying66 rfl (by kernel_rfl);have hl2:=run_loadVar_mid (P:=Tryz.prog) _ (w.heap.size+1) 0 95 (yDL t so sc) _ cX.range underlying95 rfl (by kernel_rfl);have HH:Hid (_∧_∧_∧_∧_):=⟨hl1,hl2,rV,rX,bR⟩;clear hl1 hl2 bR bu1 bu2 cV cX cX0 rV rV1 rX rX1;clear v3 x3 r3 r4 b03 q3 g3
  go_wp2
  obtain⟨hl1,hl2,rV,rX,bR⟩:=HH.out;exact bodyPost_ret (kg results44 rfl rfl rfl hl1 hl2) rfl ⟨_,_,rfl,rV,rX,(fun a n c hv=>Nat.le_trans bd.size (fx a n c hv)),bR⟩
end Go.Proofs.YtpgijbdgljkeeaaGreatDoor
