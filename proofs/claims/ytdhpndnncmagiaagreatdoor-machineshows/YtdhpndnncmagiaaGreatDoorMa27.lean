/-
  Texts laid together: As7, Gb8, Tx8.
-/
import Derived.Test.YtdhpndnncmagiaaGreatDoorMa17
import Derived.Test.YtdhpndnncmagiaaGreatDoorMa20
import Derived.Test.YtdhpndnncmagiaaGreatDoorMa21
set_option maxRecDepth 100000
set_option maxHeartbeats 12800000
namespace Go.Proofs.YtdhpndnncmagiaaGreatDoor
open _root_.Go.Proofs.Tryz
open Go.RowKit
theorem eI {w:World}{b:Nat}{ty:TypeId}{vs cs:List Value}(h:au w b ty vs)(o n:Nat)(e:(vs.drop o).take n=cs):w.rangeAt b o cs:=fun j v hj=>by
 subst e;refine h.c (o+j) ?_;rw[List.getElem?_take] at hj
 split at hj
 ·rw[List.getElem?_drop] at hj
  exact hj
 ·cases hj
theorem El (n wy fam R D L G fl:Int)(gr gx:Bool)(t:ak)(to0:Option Addr)(tc:Nat)(s:Bool)(N M:Nat)(e:Int)(ps:Bool)(pd:Nat)(pp:Int)(ex ov un:Bool)(c:Int)(g:Bool)(m:Nat)(q fl2 flo:Int)(st:ByteArray)(f1 e1:Int)(w:World)
  (hor:bits .or .i64 fl fl2=flo)
  (HQ: ∀w1,yB w w1→yC 133 #[yDV t to0 tc] w1 (Kx w1 s N M e))
  (HRd: ∀no nc mo mc w1,yB w w1→Rd w1 .u32 (yT no N nc) (Dg.dg 4294967296 N)→Rd w1 .u32 (yT mo M mc) (Dg.dg 4294967296 M)→yC 61 #[yrV s (yT no N nc) (yT mo M mc) e,ygV R D L G gr,yi wy] w1 fun z w'=> ∃po pc,z= .returned (.tuple #[ypV ps (yT po pd pc) pp ex ov un,yi 0])∧Rd w' .u32 (yT po pd pc) (Dg.dg 4294967296 pd)∧yB w1 w')
  (HSt: ∀po pc w1,yB w w1→Rd w1 .u32 (yT po pd pc) (Dg.dg 4294967296 pd)→yC 63 #[ykV n wy fam R D L G gr,ypV ps (yT po pd pc) pp ex ov un] w1 (B6 w1 c g m q fl2))
  (HEn: ∀vo vc w1,yB w w1→Rd w1 .u32 (yT vo m vc) (Dg.dg 4294967296 m)→yC 62 #[ykV n wy fam R D L G gr,yvV c g (yT vo m vc) q,yi flo] w1 (yR w1 (.tuple #[.string st,yi f1,yi e1]))):
  yC 66 #[ykV n wy fam R D L G gr,yOV 2 gx t to0 tc,yi fl] w (yR w (.tuple #[.string st,yi f1,yi e1])):=by
 replace HQ:Hid _:=HQ;replace HRd:Hid _:=HRd;replace HSt:Hid _:=HSt;replace HEn:Hid _:=HEn;have a1:=af w (.cells (ykA n wy fam R D L G gr) 83);have a2:=af (w.alloc (.cells (ykA n wy fam R D L G gr) 83)) (.cells (yOA 2 gx t to0 tc) 88);have d0:=(ah w (ykL n wy fam R D L G gr) 83).l a2;have x0:=ah (w.alloc (.cells (ykA n wy fam R D L G gr) 83)) (yOL 2 gx t to0 tc) 88;rw[World.size_alloc] at x0;have b0:=aa a1 a2;clear a1 a2
 go_enter func66,ntmps66
 go_upto_region 1 with fail
 generalize(w.alloc (.cells (ykA n wy fam R D L G gr) 83)).alloc (.cells (yOA 2 gx t to0 tc) 88)=W0 at d0 x0 b0⊢;have y0:=x0.c 0 rfl
 go_upto_region 3 with fail
 have bW:yB W0 W0.drew:=(Below.refl _ _).drew;have d1:=d0.l bW;have x1:=x0.l bW;have b1:=aa b0 bW;clear bW d0 x0 b0 y0;refine wp_region_held_drew (S:=(fun wq=>wq.rangeAt (w.heap.size+1) 2 (yDL t to0 tc)∧wq.rangeAt w.heap.size 3 (ygL R D L G gr)∧wq.cell? ⟨w.heap.size,1,none⟩=some (yi wy))) (by kernel_rfl) ⟨fun j v hj=>eI x1 2 3 rfl j v hj,fun j v hj=>eI d1 3 5 rfl j v hj,d1.c 1 rfl⟩ (fun hS0=> ?_)
 generalize W0.drew=WD at d1 x1 b1 hS0⊢;refine tq 0 (.pointer (some ⟨w.heap.size+1,2,none⟩)) rfl (fun w0 _=>by kernel_rfl) hS0 ?_
 refine tq 1 ((yDV t to0 tc)) rfl (fun w0 hw0=>fy 86 (.tmp 18) rfl (w.heap.size+1) 2 (by kernel_rfl) _ _ hw0.1 underlying86 rfl (by kernel_rfl)) hS0 ?_
 refine tq 3 (.pointer (some ⟨w.heap.size,3,none⟩)) rfl (fun w0 _=>by kernel_rfl) hS0 ?_
 refine tq 4 ((ygV R D L G gr)) rfl (fun w0 hw0=>fy 49 (.tmp 21) rfl w.heap.size 3 (by kernel_rfl) _ _ hw0.2.1 underlying49 rfl (by kernel_rfl)) hS0 ?_
 refine tq 5 (.pointer (some ⟨w.heap.size,1,none⟩)) rfl (fun w0 _=>by kernel_rfl) hS0 ?_
 refine tq 6 (yi wy) rfl (fun w0 hw0=>gU 3 (.tmp 23) rfl w.heap.size 1 (by kernel_rfl) _ _ underlying3 rfl hw0.2.2) hS0 ?_
 refine wpAnyH_ready (rs:=[2,11]) (by kernel_rfl) (by simp) ?_;refine AllReadyH.cons rfl (fun K hK=> ?_) (AllReadyH.cons rfl (fun K hK=> ?_) AllReadyH.nil)
 ·skip
  go_simp
  refine(HQ.out _ b1).mono ?_;rintro z wq ⟨no,nc,mo,mc,rfl,rn,rm,bq⟩;have d11:=d1.l bq;have x11:=x1.l bq;have b11:=aa b1 bq;refine hK.out _ _ ⟨fun j v hj=>eI x11 2 3 rfl j v hj,fun j v hj=>eI d11 3 5 rfl j v hj,d11.c 1 rfl⟩ (fun hS11=> ?_)
  clear hK K bq d1 x1 b1;refine wpAnyH_ready (rs:=[7,11]) (by kernel_rfl) (by simp) ?_;refine AllReadyH.cons rfl (fun K hK=> ?_) (AllReadyH.cons rfl (fun K hK=> ?_) AllReadyH.nil)
  ·skip
   go_simp
   refine(HRd.out _ _ _ _ _ b11 rn rm).mono ?_;rintro z wp ⟨po,pc,rfl,rp,bp⟩;have d12:=d11.l bp;have x12:=x11.l bp;have b12:=aa b11 bp;refine hK.out _ _ ⟨fun j v hj=>eI x12 2 3 rfl j v hj,fun j v hj=>eI d12 3 5 rfl j v hj,d12.c 1 rfl⟩ (fun hS12=> ?_)
   clear hK K bp d11 x11 b11 rn rm;refine tq 8 (.tuple #[ypV ps (yT po pd pc) pp ex ov un,yi 0]) rfl (fun w0 _=>by go_simp) hS12 ?_
   refine tq 9 ((ypV ps (yT po pd pc) pp ex ov un)) rfl (fun w0 _=>by go_simp) hS12 ?_
   refine tq 10 (yi 0) rfl (fun w0 _=>by go_simp) hS12 ?_
   refine wpAnyH_ready (rs:=[11]) (by kernel_rfl) (by simp) ?_;refine AllReadyH.cons rfl (fun K hK=> ?_) AllReadyH.nil
   go_simp
   have al:=af wp (.cells (ypA false yN 0 false false false) 140);have pn:=ah wp (ypL false yN 0 false false false) 140;have hpn:w.heap.size+1<wp.heap.size:=x12.lt;have d13:=d12.l al;have x13:=x12.l al;have b13:=aa b12 al;have rp_13:=rp.l al;refine hK.out _ _ ⟨fun j v hj=>eI x13 2 3 rfl j v hj,fun j v hj=>eI d13 3 5 rfl j v hj,d13.c 1 rfl⟩ (fun hS13=> ?_)
   clear hK K al d12 x12 b12 rp;generalize wp.alloc (.cells (ypA false yN 0 false false false) 140)=WN13 at d13 x13 b13 pn hS13 rp_13⊢;generalize wp.heap.size=PQ at pn hpn⊢;refine wpAnyH_ready (rs:=[12]) (by kernel_rfl) (by simp) ?_;refine AllReadyH.cons rfl (fun K hK=> ?_) AllReadyH.nil
   rw[if_pos (by kernel_rfl)];have hth:WN13.there PQ 0 6:=dD pn;refine wp_store_mid 140 (.tmp 9) (.tmp 26) rfl PQ 0 (ypA ps (yT po pd pc) pp ex ov un) (by kernel_rfl) (by kernel_rfl) hth (by kernel_rfl) (by simp[Value.oneCell']) ?_;have bu:But PQ WN13 (WN13.setCells PQ 0 (ypL ps (yT po pd pc) pp ex ov un)):=de _ _ _ _;have dS:=bu.loc d13 (by omega);have xS:=bu.loc x13 (by omega);have bS:=bu.below b13 (by omega);have rS:=bu.rd rp_13 (aX rp_13 pn (by simp));have pS:au (WN13.setCells PQ 0 (ypL ps (yT po pd pc) pp ex ov un)) PQ 140 (ypL ps (yT po pd pc) pp ex ov un):=((((((pn.set 0 (.bool ps)).set 1 (yT po pd pc)).set 2 (yi pp)).set 3 (.bool ex)).set 4 (.bool ov)).set 5 (.bool un));refine hK.out _ _ ⟨fun j v hj=>eI xS 2 3 rfl j v hj,fun j v hj=>eI dS 3 5 rfl j v hj,dS.c 1 rfl⟩ (fun hSS=> ?_)
   clear hK K bu hth d13 x13 b13 pn rp_13;refine tq 13 (yi 0) rfl (fun w0 _=>by go_simp) hSS ?_
   refine wpAnyH_done (by kernel_rfl) ?_ _;clear hSS;change Exit.then _ _ _ _ (World.setCells WN13 PQ 0 (ypL ps (yT po pd pc) pp ex ov un));generalize World.setCells WN13 PQ 0 (ypL ps (yT po pd pc) pp ex ov un)=WS at dS xS bS rS pS⊢;simp only[Act.put,List.getElem_toArray,List.getElem_cons_succ,List.getElem_cons_zero,List.setIfInBounds_toArray,List.set_cons_zero,List.set_cons_succ];obtain⟨y0,y1,y2,y3,y4,y5,y6,y7⟩:=dS.cs8;obtain⟨z0,z1,z2,z3,z4,z5⟩:=pS.cs6
   go_wp2_with fail
   refine(HSt.out _ _ _ bS rS).mono ?_;rintro z wt ⟨u,rfl,rt,bt⟩;obtain⟨vo,vc,hu⟩:=rt.shape;subst hu;have al:=af wt (.cells (yvA c g (yT vo m vc) q) 57);have vt:=ah wt (yvL c g (yT vo m vc) q) 57;have dt:=(dS.l bt).l al;have rv:=rt.l al;have b9:=aa (aa bS bt) al;clear y0 y1 y2 y3 y4 y5 y6 y7 z0 z1 z2 z3 z4 z5 dS xS bS rS pS bt al rt
   go_upto_region 7 with fail
   generalize wt.alloc (.cells (yvA c g (yT vo m vc) q) 57)=WT at vt dt rv b9⊢;generalize wt.heap.size=PV at vt⊢;obtain⟨y0,y1,y2,y3,y4,y5,y6,y7⟩:=dt.cs8;obtain⟨z0,z1,z2,z3⟩:=vt.cs4
   go_wp2_with fail
   refine(HEn.out _ _ _ b9 rv).mono ?_;rintro z wz ⟨rfl,bz⟩;have bE:=aa b9 bz
   go_wp2
   go_ret3
   exact⟨rfl,bE⟩
  ·skip
   go_simp
   have al:=af wq (.cells (ypA false yN 0 false false false) 140);have pn:=ah wq (ypL false yN 0 false false false) 140;have hpn:w.heap.size+1<wq.heap.size:=x11.lt;have d12:=d11.l al;have x12:=x11.l al;have b12:=aa b11 al;have rn_12:=rn.l al;have rm_12:=rm.l al;refine hK.out _ _ ⟨fun j v hj=>eI x12 2 3 rfl j v hj,fun j v hj=>eI d12 3 5 rfl j v hj,d12.c 1 rfl⟩ (fun hS12=> ?_)
   clear hK K al d11 x11 b11 rn rm;generalize wq.alloc (.cells (ypA false yN 0 false false false) 140)=WN12 at d12 x12 b12 pn hS12 rn_12 rm_12⊢;generalize wq.heap.size=PQ at pn hpn⊢;refine wpAnyH_ready (rs:=[7]) (by kernel_rfl) (by simp) ?_;refine AllReadyH.cons rfl (fun K hK=> ?_) AllReadyH.nil
   go_simp
   refine(HRd.out _ _ _ _ _ b12 rn_12 rm_12).mono ?_;rintro z wp ⟨po,pc,rfl,rp,bp⟩;have d13:=d12.l bp;have x13:=x12.l bp;have b13:=aa b12 bp;have p13:=pn.l bp;refine hK.out _ _ ⟨fun j v hj=>eI x13 2 3 rfl j v hj,fun j v hj=>eI d13 3 5 rfl j v hj,d13.c 1 rfl⟩ (fun hS13=> ?_)
   clear hK K bp d12 x12 b12 pn rn_12 rm_12;refine tq 8 (.tuple #[ypV ps (yT po pd pc) pp ex ov un,yi 0]) rfl (fun w0 _=>by go_simp) hS13 ?_
   refine tq 9 ((ypV ps (yT po pd pc) pp ex ov un)) rfl (fun w0 _=>by go_simp) hS13 ?_
   refine tq 10 (yi 0) rfl (fun w0 _=>by go_simp) hS13 ?_
   refine wpAnyH_ready (rs:=[12]) (by kernel_rfl) (by simp) ?_;refine AllReadyH.cons rfl (fun K hK=> ?_) AllReadyH.nil
   rw[if_pos (by kernel_rfl)];have hth:wp.there PQ 0 6:=dD p13;refine wp_store_mid 140 (.tmp 9) (.tmp 26) rfl PQ 0 (ypA ps (yT po pd pc) pp ex ov un) (by kernel_rfl) (by kernel_rfl) hth (by kernel_rfl) (by simp[Value.oneCell']) ?_;have bu:But PQ wp (wp.setCells PQ 0 (ypL ps (yT po pd pc) pp ex ov un)):=de _ _ _ _;have dS:=bu.loc d13 (by omega);have xS:=bu.loc x13 (by omega);have bS:=bu.below b13 (by omega);have rS:=bu.rd rp (aX rp p13 (by simp));have pS:au (wp.setCells PQ 0 (ypL ps (yT po pd pc) pp ex ov un)) PQ 140 (ypL ps (yT po pd pc) pp ex ov un):=((((((p13.set 0 (.bool ps)).set 1 (yT po pd pc)).set 2 (yi pp)).set 3 (.bool ex)).set 4 (.bool ov)).set 5 (.bool un));refine hK.out _ _ ⟨fun j v hj=>eI xS 2 3 rfl j v hj,fun j v hj=>eI dS 3 5 rfl j v hj,dS.c 1 rfl⟩ (fun hSS=> ?_)
   clear hK K bu hth d13 x13 b13 p13 rp;refine tq 13 (yi 0) rfl (fun w0 _=>by go_simp) hSS ?_
   refine wpAnyH_done (by kernel_rfl) ?_ _;clear hSS;change Exit.then _ _ _ _ (World.setCells wp PQ 0 (ypL ps (yT po pd pc) pp ex ov un));generalize World.setCells wp PQ 0 (ypL ps (yT po pd pc) pp ex ov un)=WS at dS xS bS rS pS⊢;simp only[Act.put,List.getElem_toArray,List.getElem_cons_succ,List.getElem_cons_zero,List.setIfInBounds_toArray,List.set_cons_zero,List.set_cons_succ];obtain⟨y0,y1,y2,y3,y4,y5,y6,y7⟩:=dS.cs8;obtain⟨z0,z1,z2,z3,z4,z5⟩:=pS.cs6
   go_wp2_with fail
   refine(HSt.out _ _ _ bS rS).mono ?_;rintro z wt ⟨u,rfl,rt,bt⟩;obtain⟨vo,vc,hu⟩:=rt.shape;subst hu;have al:=af wt (.cells (yvA c g (yT vo m vc) q) 57);have vt:=ah wt (yvL c g (yT vo m vc) q) 57;have dt:=(dS.l bt).l al;have rv:=rt.l al;have b9:=aa (aa bS bt) al;clear y0 y1 y2 y3 y4 y5 y6 y7 z0 z1 z2 z3 z4 z5 dS xS bS rS pS bt al rt
   go_upto_region 7 with fail
   generalize wt.alloc (.cells (yvA c g (yT vo m vc) q) 57)=WT at vt dt rv b9⊢;generalize wt.heap.size=PV at vt⊢;obtain⟨y0,y1,y2,y3,y4,y5,y6,y7⟩:=dt.cs8;obtain⟨z0,z1,z2,z3⟩:=vt.cs4
   go_wp2_with fail
   refine(HEn.out _ _ _ b9 rv).mono ?_;rintro z wz ⟨rfl,bz⟩;have bE:=aa b9 bz
   go_wp2
   go_ret3
   exact⟨rfl,bE⟩
 ·skip
  go_simp
  have al:=af WD (.cells (ypA false yN 0 false false false) 140);have pn:=ah WD (ypL false yN 0 false false false) 140;have hpn:w.heap.size+1<WD.heap.size:=x1.lt;have d11:=d1.l al;have x11:=x1.l al;have b11:=aa b1 al;refine hK.out _ _ ⟨fun j v hj=>eI x11 2 3 rfl j v hj,fun j v hj=>eI d11 3 5 rfl j v hj,d11.c 1 rfl⟩ (fun hS11=> ?_)
  clear hK K al d1 x1 b1;generalize WD.alloc (.cells (ypA false yN 0 false false false) 140)=WN11 at d11 x11 b11 pn hS11⊢;generalize WD.heap.size=PQ at pn hpn⊢;refine wpAnyH_ready (rs:=[2]) (by kernel_rfl) (by simp) ?_;refine AllReadyH.cons rfl (fun K hK=> ?_) AllReadyH.nil
  go_simp
  refine(HQ.out _ b11).mono ?_;rintro z wq ⟨no,nc,mo,mc,rfl,rn,rm,bq⟩;have d12:=d11.l bq;have x12:=x11.l bq;have b12:=aa b11 bq;have p12:=pn.l bq;refine hK.out _ _ ⟨fun j v hj=>eI x12 2 3 rfl j v hj,fun j v hj=>eI d12 3 5 rfl j v hj,d12.c 1 rfl⟩ (fun hS12=> ?_)
  clear hK K bq d11 x11 b11 pn;refine wpAnyH_ready (rs:=[7]) (by kernel_rfl) (by simp) ?_;refine AllReadyH.cons rfl (fun K hK=> ?_) AllReadyH.nil
  go_simp
  refine(HRd.out _ _ _ _ _ b12 rn rm).mono ?_;rintro z wp ⟨po,pc,rfl,rp,bp⟩;have d13:=d12.l bp;have x13:=x12.l bp;have b13:=aa b12 bp;have p13:=p12.l bp;refine hK.out _ _ ⟨fun j v hj=>eI x13 2 3 rfl j v hj,fun j v hj=>eI d13 3 5 rfl j v hj,d13.c 1 rfl⟩ (fun hS13=> ?_)
  clear hK K bp d12 x12 b12 p12 rn rm;refine tq 8 (.tuple #[ypV ps (yT po pd pc) pp ex ov un,yi 0]) rfl (fun w0 _=>by go_simp) hS13 ?_
  refine tq 9 ((ypV ps (yT po pd pc) pp ex ov un)) rfl (fun w0 _=>by go_simp) hS13 ?_
  refine tq 10 (yi 0) rfl (fun w0 _=>by go_simp) hS13 ?_
  refine wpAnyH_ready (rs:=[12]) (by kernel_rfl) (by simp) ?_;refine AllReadyH.cons rfl (fun K hK=> ?_) AllReadyH.nil
  rw[if_pos (by kernel_rfl)];have hth:wp.there PQ 0 6:=dD p13;refine wp_store_mid 140 (.tmp 9) (.tmp 26) rfl PQ 0 (ypA ps (yT po pd pc) pp ex ov un) (by kernel_rfl) (by kernel_rfl) hth (by kernel_rfl) (by simp[Value.oneCell']) ?_;have bu:But PQ wp (wp.setCells PQ 0 (ypL ps (yT po pd pc) pp ex ov un)):=de _ _ _ _;have dS:=bu.loc d13 (by omega);have xS:=bu.loc x13 (by omega);have bS:=bu.below b13 (by omega);have rS:=bu.rd rp (aX rp p13 (by simp));have pS:au (wp.setCells PQ 0 (ypL ps (yT po pd pc) pp ex ov un)) PQ 140 (ypL ps (yT po pd pc) pp ex ov un):=((((((p13.set 0 (.bool ps)).set 1 (yT po pd pc)).set 2 (yi pp)).set 3 (.bool ex)).set 4 (.bool ov)).set 5 (.bool un));refine hK.out _ _ ⟨fun j v hj=>eI xS 2 3 rfl j v hj,fun j v hj=>eI dS 3 5 rfl j v hj,dS.c 1 rfl⟩ (fun hSS=> ?_)
  clear hK K bu hth d13 x13 b13 p13 rp;refine tq 13 (yi 0) rfl (fun w0 _=>by go_simp) hSS ?_
  refine wpAnyH_done (by kernel_rfl) ?_ _;clear hSS;change Exit.then _ _ _ _ (World.setCells wp PQ 0 (ypL ps (yT po pd pc) pp ex ov un));generalize World.setCells wp PQ 0 (ypL ps (yT po pd pc) pp ex ov un)=WS at dS xS bS rS pS⊢;simp only[Act.put,List.getElem_toArray,List.getElem_cons_succ,List.getElem_cons_zero,List.setIfInBounds_toArray,List.set_cons_zero,List.set_cons_succ];obtain⟨y0,y1,y2,y3,y4,y5,y6,y7⟩:=dS.cs8;obtain⟨z0,z1,z2,z3,z4,z5⟩:=pS.cs6
  go_wp2_with fail
  refine(HSt.out _ _ _ bS rS).mono ?_;rintro z wt ⟨u,rfl,rt,bt⟩;obtain⟨vo,vc,hu⟩:=rt.shape;subst hu;have al:=af wt (.cells (yvA c g (yT vo m vc) q) 57);have vt:=ah wt (yvL c g (yT vo m vc) q) 57;have dt:=(dS.l bt).l al;have rv:=rt.l al;have b9:=aa (aa bS bt) al;clear y0 y1 y2 y3 y4 y5 y6 y7 z0 z1 z2 z3 z4 z5 dS xS bS rS pS bt al rt
  go_upto_region 7 with fail
  generalize wt.alloc (.cells (yvA c g (yT vo m vc) q) 57)=WT at vt dt rv b9⊢;generalize wt.heap.size=PV at vt⊢;obtain⟨y0,y1,y2,y3,y4,y5,y6,y7⟩:=dt.cs8;obtain⟨z0,z1,z2,z3⟩:=vt.cs4
  go_wp2_with fail
  refine(HEn.out _ _ _ b9 rv).mono ?_;rintro z wz ⟨rfl,bz⟩;have bE:=aa b9 bz
  go_wp2
  go_ret3
  exact⟨rfl,bE⟩
theorem adz (x u:ak)(xo:Option Addr)(xc m:Nat)(bl sp ns tw E:Int)(w:World)(h1:IntKind.i64.wrap (bl-128)=sp)(h2: ¬sp≤0)(h3:IntKind.i64.wrap (-sp)=ns)(h4:IntKind.i64.wrap (x.e+sp)=E)
  (HD:yJ 198 #[yDV x xo xc] (yT xo x.n xc))
  (HB: ∀w1,yB w w1→yC 44 #[yT xo x.n xc] w1 fun z w'=>z= .returned (yi bl)∧w'=w1)
  (HT: ∀w1,yB w w1→yC 127 #[yT xo x.n xc] w1 fun z w'=>z= .returned (yi tw)∧w'=w1)
  (HS: ∀w1,yB w w1→yC 47 #[yT xo x.n xc,yi ns] w1 (Num w1 m))
  (HE: ∀mo mc w1,Rd w1 .u32 (yT mo m mc) (Dg.dg 4294967296 m)→yC 257 #[.bool x.s,yT mo m mc,yi E,.bool (decide (tw<sp))] w1 (jN w1 u)):
  yC 197 #[yDV x xo xc,yi 128] w fun z w'=> ∃v,z= .returned (ydV u.s v u.e)∧Rd w' .u32 v (Dg.dg 4294967296 u.n)∧yB w w':=by
 replace HD:Hid _:=HD;replace HB:Hid _:=HB;replace HT:Hid _:=HT;replace HS:Hid _:=HS;replace HE:Hid _:=HE;obtain⟨W4,hW5,q1,q2,b3⟩:=iG w (yDL x xo xc) 86 (ydL false yN 0) 86;replace hW5:Hid _:=hW5
 go_enter func197,ntmps197
 go_upto_region 1 with fail
 rw[hW5.out];clear hW5;obtain⟨c6,c7,c8⟩:=q1.cs3
 go_wp2_with fail
 refine(HD.out _).mono ?_;rintro zz w9 ⟨rfl,bb10⟩;have q11:=q1.l bb10;have q12:=q2.l bb10;have b13:=aa b3 bb10;clear q1 q2 b3 bb10 c6 c7 c8
 go_wp2_with fail
 refine(HB.out _ b13).mono ?_;rintro zz w14 ⟨rfl,rfl⟩
 go_upto_region 4 with fail
 have bW16:yB w14 w14.drew:=(Below.refl _ _).drew;have q17:=q11.l bW16;have q18:=q12.l bW16;have b19:=aa b13 bW16;clear q11 q12 b13 bW16;refine wp_region_held_drew (S:=fun wq=>au wq w.heap.size 86 (yDL x xo xc)) (by kernel_rfl) q17 (fun hS0=> ?_)
 generalize w14.drew=WD20 at q17 q18 b19 hS0⊢;refine tq 0 (.pointer (some ⟨w.heap.size,0,none⟩)) rfl (fun _ _=>by kernel_rfl) hS0 ?_
 refine tq 1 (.pointer (some ⟨w.heap.size,0,none⟩)) rfl (fun _ _=>by kernel_rfl) hS0 ?_
 refine tq 2 (.bool x.s) rfl (fun _ hw0=>gU 4 (.tmp 15) rfl w.heap.size 0 (by kernel_rfl) _ _ underlying4 rfl (hw0.c 0 rfl)) hS0 ?_
 refine tq 3 (yDV x xo xc) rfl (fun _ hw0=>fy 86 (.tmp 2) rfl w.heap.size 0 (by kernel_rfl) _ _ hw0.range underlying86 rfl (by kernel_rfl)) hS0 ?_
 refine tq 5 (yi sp) rfl (fun _ _=>by kernel_rfl) hS0 ?_
 refine tq 6 (yi ns) rfl (fun _ _=>by go_simp) hS0 ?_
 refine tq 8 (.pointer (some ⟨w.heap.size,0,none⟩)) rfl (fun _ _=>by kernel_rfl) hS0 ?_
 refine tq 9 (.pointer (some ⟨w.heap.size,2,none⟩)) rfl (fun _ _=>by kernel_rfl) hS0 ?_
 refine tq 10 (yi x.e) rfl (fun _ hw0=>gU 3 (.tmp 23) rfl w.heap.size 2 (by kernel_rfl) _ _ underlying3 rfl (hw0.c 2 rfl)) hS0 ?_
 refine tq 11 (yi sp) rfl (fun _ _=>by kernel_rfl) hS0 ?_
 refine tq 12 (yi E) rfl (fun _ _=>by go_simp) hS0 ?_
 refine tq 13 (yDV x xo xc) rfl (fun _ hw0=>fy 86 (.tmp 2) rfl w.heap.size 0 (by kernel_rfl) _ _ hw0.range underlying86 rfl (by kernel_rfl)) hS0 ?_
 refine tq 16 (yi sp) rfl (fun _ _=>by kernel_rfl) hS0 ?_
 refine wpAnyH_ready (rs:=[4]) (by kernel_rfl) (by simp) ?_;refine AllReadyH.cons rfl (fun K hK=> ?_) AllReadyH.nil
 go_simp
 refine(HD.out _).mono ?_;rintro zz w21 ⟨rfl,bb22⟩;have q23:=q17.l bb22;have q24:=q18.l bb22;have b25:=aa b19 bb22;clear q17 q18 b19 bb22;refine hK.out _ _ q23 (fun hS26=> ?_)
 clear hK K;refine wpAnyH_ready (rs:=[7]) (by kernel_rfl) (by simp) ?_;refine AllReadyH.cons rfl (fun K hK=> ?_) AllReadyH.nil
 go_simp
 refine(HS.out _ b25).mono ?_;rintro zz w27 ⟨v129,rfl,r130,bb28⟩;have q31:=q23.l bb28;have q32:=q24.l bb28;have b33:=aa b25 bb28;have r34:=r130.rd;obtain⟨mo,mc,hv⟩:=r34.shape;subst hv;clear q23 q24 b25 bb28 r130;refine hK.out _ _ q31 (fun hS35=> ?_)
 clear hK K;refine wpAnyH_ready (rs:=[14]) (by kernel_rfl) (by simp) ?_;refine AllReadyH.cons rfl (fun K hK=> ?_) AllReadyH.nil
 go_simp
 refine(HD.out _).mono ?_;rintro zz w36 ⟨rfl,bb37⟩;have q38:=q31.l bb37;have q39:=q32.l bb37;have r40:=r34.l bb37;have b41:=aa b33 bb37;clear q31 q32 r34 b33 bb37;refine hK.out _ _ q38 (fun hS42=> ?_)
 clear hK K;refine wpAnyH_ready (rs:=[15]) (by kernel_rfl) (by simp) ?_;refine AllReadyH.cons rfl (fun K hK=> ?_) AllReadyH.nil
 go_simp
 refine(HT.out _ b41).mono ?_;rintro zz w43 ⟨rfl,rfl⟩;refine hK.out _ _ q38 (fun hS45=> ?_)
 clear hK K;refine tq 17 (.bool (decide (tw<sp))) rfl (fun _ _=>by go_simp) hS45 ?_
 refine wpAnyH_ready (rs:=[18]) (by kernel_rfl) (by simp) ?_;refine AllReadyH.cons rfl (fun K hK=> ?_) AllReadyH.nil
 go_simp
 refine(HE.out _ _ _ r40).mono ?_;rintro zz w46 ⟨v148,rfl,r149,bb47⟩;have q50:=q38.l bb47;have q51:=q39.l bb47;have r52:=r40.l bb47;have b53:=aa b41 bb47;have r54:=r149.rd;obtain⟨uo,uc,hv⟩:=r54.shape;subst hv;clear q38 q39 r40 b41 bb47 r149;refine hK.out _ _ q50 (fun hS55=> ?_)
 clear hK K;refine wpAnyH_ready (rs:=[19]) (by kernel_rfl) (by simp) ?_;refine AllReadyH.cons rfl (fun K hK=> ?_) AllReadyH.nil
 have bu:But (w.heap.size+1) w46 (w46.setCells (w.heap.size+1) 0 (yDL u uo uc)):=de _ _ _ _;have hth:w46.there (w.heap.size+1) 0 3:=dD q51;have q56:au (w46.setCells (w.heap.size+1) 0 (yDL u uo uc)) (w.heap.size+1) 86 (yDL u uo uc):=q51.sets _ rfl;have r57:=bu.rd r52 (aX r52 q51 (by simp));have r58:=bu.rd r54 (aX r54 q51 (by simp));have q59:=bu.loc q50 (by omega);have b60:=bu.below b53 (by omega);rw[if_pos (by kernel_rfl)];refine wp_store_mid 86 (.tmp 4) (.tmp 32) rfl (w.heap.size+1) 0 (yDA u uo uc) (by kernel_rfl) (by kernel_rfl) hth (by kernel_rfl) (by simp[Value.oneCell']) ?_;refine hK.out _ _ q59 (fun hS61=> ?_)
 clear hK K;clear q51 r52 r54 q50 b53 bu hth;refine wpAnyH_done (by kernel_rfl) ?_ _;clear hS0 hS26 hS35 hS42 hS45 hS55 hS61;change Exit.then _ _ _ _ (World.setCells w46 (w.heap.size+1) 0 (yDL u uo uc));generalize World.setCells w46 (w.heap.size+1) 0 (yDL u uo uc)=W62 at q59 q56 r57 r58 b60⊢;simp only[Act.put,List.getElem_toArray,List.getElem_cons_succ,List.getElem_cons_zero];have hl:=run_loadVar_mid (P:=Tryz.prog) _ (w.heap.size+1) 0 86 (yDL u uo uc) _ q56.range underlying86 rfl (by kernel_rfl)
 go_wp2
 exact bodyPost_ret (br results197 rfl hl) rfl ⟨_,rfl,r58,b60⟩
open Go.RowKit Go.ChangeMaps Go.MapKept
def wdE:Array MapEntry:= #[⟨yi 1,.agg #[.string ⟨#[48]⟩,.string ⟨#[45,48]⟩],0⟩,⟨yi 3,.agg #[.string ⟨#[105,110,102]⟩,.string ⟨#[45,105,110,102]⟩],1⟩,⟨yi 4,.agg #[.string ⟨#[110,111,110,101]⟩,.string ⟨#[110,111,110,101]⟩],2⟩,⟨yi 5,.agg #[.string ⟨#[114,101,115,101,114,118,101,100]⟩,.string ⟨#[114,101,115,101,114,118,101,100]⟩],3⟩]
def MapAt (w:World)(r:Nat):Prop:=r<w.heap.size∧w.heap[r]? =some (.map wdE 4)
theorem MapAt.l {w w':World}{r:Nat}(h:MapAt w r)(b:yB w w'):MapAt w' r:=⟨Nat.lt_of_lt_of_le h.1 b.size,(b.block r h.1).trans h.2⟩
def MpR (w:World)(z:Ending)(w':World):Prop:= ∃r,z= .returned (.map (some r))∧MapAt w' r∧yB w w'
theorem twords_any (w:World):yC 42 #[] w (MpR w):=by
 have ht:=underlying107;have hk:=underlying3;have hb0:(w.alloc (.map #[] 0)).heap[w.heap.size]? =some (.map #[] 0):=heap_alloc_new _ _;have b0:=af w (.map #[] 0);have e0:=run_makeMap (P:=Tryz.prog) 107 w;obtain⟨W1,e1,hb1,b1⟩:=sS ht hk hb0 (Nat.le_refl _) b0 1 (.agg #[.string ⟨#[48]⟩,.string ⟨#[45,48]⟩]) rfl;obtain⟨W2,e2,hb2,b2⟩:=sS ht hk hb1 (Nat.le_refl _) b1 3 (.agg #[.string ⟨#[105,110,102]⟩,.string ⟨#[45,105,110,102]⟩]) rfl;obtain⟨W3,e3,hb3,b3⟩:=sS ht hk hb2 (Nat.le_refl _) b2 4 (.agg #[.string ⟨#[110,111,110,101]⟩,.string ⟨#[110,111,110,101]⟩]) rfl;obtain⟨W4,e4,hb4,b4⟩:=sS ht hk hb3 (Nat.le_refl _) b3 5 (.agg #[.string ⟨#[114,101,115,101,114,118,101,100]⟩,.string ⟨#[114,101,115,101,114,118,101,100]⟩]) rfl;have hlt:w.heap.size<W4.heap.size:=by
  rcases Nat.lt_or_ge w.heap.size W4.heap.size with h|h
  ·exact h
  ·rw[Array.getElem?_eq_none h] at hb4
   cases hb4
 have HB:Hid (MapAt W4 w.heap.size):=⟨hlt,hb4⟩;clear hb1 hb2 hb3 hb4 b1 b2 b3 ht hk hb0 hlt
 go_enter func42,ntmps42
 go_wp2
 go_ret
 exact⟨_,rfl,HB.out,b4⟩
theorem xlook {P:Program}{o:Oper}{a:Act}{w:World}(t:TypeId)(x y:Operand)(c:Bool)(ho:o.op= .lookup t x y c)(m k:Value)(hx:a.eval x=m)(hy:a.eval y=k){v:Value}(h:(Instr.lookup t m k c).run P w= .ok v w):(execOp a.eval o).run P w= .ok (.value v) w:=by
 unfold execOp;simp only[ho,hx,hy];simp[h]
theorem find_ok {P:Program}{t k e:TypeId}(ht:P.underlying t=some (.map k e))(hk:P.underlying k=some (.int .i64)){W:World}{r:Nat}{es:Array MapEntry}{c:Nat}(hb:W.heap[r]? =some (.map es c))(x:Int){i:Nat}{v:Value}(h:Instr.findNow (.int .i64) (yi x) es.toList 0=some (some (i,v))):
  (Instr.lookup t (.map (some r)) (yi x) true).run P W= .ok (.tuple #[v,.bool true]) W:=by
 have hkey:IsKey (.int .i64) (yi x):=rfl;simp[Instr.lookup,run_underlying ht,MapKept.run_getObj_map hb,run_checkKey hk hkey,run_findKey hk h,Result.andThen]
theorem miss_ok {P:Program}{t k e:TypeId}(ht:P.underlying t=some (.map k e))(hk:P.underlying k=some (.int .i64)){W:World}{r:Nat}{es:Array MapEntry}{c:Nat}(hb:W.heap[r]? =some (.map es c))(x:Int){z:Value}(hz:(zeroValue e).run P W= .ok z W)(h:Instr.findNow (.int .i64) (yi x) es.toList 0=some none):
  (Instr.lookup t (.map (some r)) (yi x) true).run P W= .ok (.tuple #[z,.bool false]) W:=by
 have hkey:IsKey (.int .i64) (yi x):=rfl;simp[Instr.lookup,run_underlying ht,MapKept.run_getObj_map hb,run_checkKey hk hkey,run_findKey hk h,hz,Result.andThen]
def wdV (c:Int):ByteArray×ByteArray×Bool:=if c=1 then(⟨#[48]⟩,⟨#[45,48]⟩,true) else if c=3 then(⟨#[105,110,102]⟩,⟨#[45,105,110,102]⟩,true) else if c=4 then(⟨#[110,111,110,101]⟩,⟨#[110,111,110,101]⟩,true) else if c=5 then(⟨#[114,101,115,101,114,118,101,100]⟩,⟨#[114,101,115,101,114,118,101,100]⟩,true) else(⟨#[]⟩,⟨#[]⟩,false)
theorem look_any (c:Int)(w:World)(r:Nat)(hm:MapAt w r):(Instr.lookup 107 (.map (some r)) (yi c) true).run Tryz.prog w= .ok (.tuple #[.agg #[.string (wdV c).1,.string (wdV c).2.1],.bool (wdV c).2.2]) w:=by
 unfold wdV
 by_cases h1:c=1
 ·subst h1
  rw[if_pos rfl];exact find_ok underlying107 underlying3 hm.2 1 rfl
 by_cases h3:c=3
 ·subst h3
  rw[if_neg (by decide)];rw[if_pos rfl];exact find_ok underlying107 underlying3 hm.2 3 rfl
 by_cases h4:c=4
 ·subst h4
  rw[if_neg (by decide)];rw[if_neg (by decide)];rw[if_pos rfl];exact find_ok underlying107 underlying3 hm.2 4 rfl
 by_cases h5:c=5
 ·subst h5
  rw[if_neg (by decide)];rw[if_neg (by decide)];rw[if_neg (by decide)];rw[if_pos rfl];exact find_ok underlying107 underlying3 hm.2 5 rfl
 rw[if_neg h1,if_neg h3,if_neg h4,if_neg h5];refine miss_ok underlying107 underlying3 hm.2 c ?_ ?_
 ·kernel_rfl
 ·simp[wdE,Instr.findNow,XI,h1,h3,h4,h5]
theorem tword_f_mg:
  (∀(c p:Int) (vo:Option Addr) (vl vc:Nat) (sa sb:ByteArray) (ok:Bool) (w:World)
  (_: ∀w1,yC 42 #[] w1 (MpR w1))
  (_: ∀wq mr,MapAt wq mr→(Instr.lookup 107 (.map (some mr)) (yi c) true).run Tryz.prog wq= .ok (.tuple #[.agg #[.string sa,.string sb],.bool ok]) wq),
  yC 24 #[yvV c false (.slice vo vl vc) p] w (yR w (.tuple #[.string sa,.bool ok])))∧
  (∀(c p:Int) (vo:Option Addr) (vl vc:Nat) (sa sb:ByteArray) (ok:Bool) (w:World)
  (_: ∀w1,yC 42 #[] w1 (MpR w1))
  (_: ∀wq mr,MapAt wq mr→(Instr.lookup 107 (.map (some mr)) (yi c) true).run Tryz.prog wq= .ok (.tuple #[.agg #[.string sa,.string sb],.bool ok]) wq),
  yC 24 #[yvV c true (.slice vo vl vc) p] w (yR w (.tuple #[.string sb,.bool ok]))):=by
 refine⟨?_, ?_⟩;have _z:Mgk 0:=mgkI 0
 all_goals
  intro c p vo vl vc sa sb ok w HW HL;replace HW:Hid _:=HW;replace HL:Hid _:=HL
  first| (rename Mgk 0=>_z;obtain⟨W3,hW4,q1,b2⟩:=cA w (yvL c false (.slice vo vl vc) p) 57)| (obtain⟨W3,hW4,q1,b2⟩:=cA w (yvL c true (.slice vo vl vc) p) 57)
  replace hW4:Hid _:=hW4
  go_enter func24,ntmps24
  go_upto_region 1 with fail
  rw[hW4.out];clear hW4
  go_upto_region 1 with fail
  have bW5:yB W3 W3.drew:=(Below.refl _ _).drew;have q6:=q1.l bW5;have b7:=aa b2 bW5;clear q1 b2 bW5
  first| (rename Mgk 0=>_z;refine wp_region_held_drew (S:=fun wq=>au wq w.heap.size 57 (yvL c false (.slice vo vl vc) p)) (by kernel_rfl) q6 (fun hS0=> ?_))| (refine wp_region_held_drew (S:=fun wq=>au wq w.heap.size 57 (yvL c true (.slice vo vl vc) p)) (by kernel_rfl) q6 (fun hS0=> ?_))
  generalize W3.drew=WD8 at q6 b7 hS0⊢;refine tq 1 (.pointer (some ⟨w.heap.size,0,none⟩)) rfl (fun _ _=>by kernel_rfl) hS0 ?_
  refine tq 2 (yi c) rfl (fun _ hw0=>gU 3 (.tmp 8) rfl w.heap.size 0 (by kernel_rfl) _ _ underlying3 rfl (hw0.c 0 rfl)) hS0 ?_
  refine wpAnyH_ready (rs:=[0,7]) (by kernel_rfl) (by simp) ?_;refine AllReadyH.cons rfl (fun K hK=> ?_) (AllReadyH.cons rfl (fun K hK=> ?_) AllReadyH.nil)
  ·go_simp
   refine(HW.out _).mono ?_;rintro zz w9 ⟨mr,rfl,r1x11,bb10⟩;have q12:=q6.l bb10;have b13:=aa b7 bb10;clear q6 b7 bb10 HW;refine hK.out _ _ q12 (fun hS14=> ?_)
   clear hK K;refine wpAnyH_ready (rs:=[3,7]) (by kernel_rfl) (by simp) ?_;refine AllReadyH.cons rfl (fun K hK=> ?_) (AllReadyH.cons rfl (fun K hK=> ?_) AllReadyH.nil)
   ·rw[if_pos (by kernel_rfl)]
    refine wp_yield (.tuple #[.agg #[.string sa,.string sb],.bool ok]) (xlook 107 (.tmp 7) (.tmp 9) true rfl _ _ (by kernel_rfl) (by kernel_rfl) (HL.out _ _ r1x11)) ?_;refine hK.out _ _ q12 (fun hS15=> ?_)
    clear hK K;refine tq 4 (.tuple #[.agg #[.string sa,.string sb],.bool ok]) rfl (fun _ _=>by kernel_rfl) hS15 ?_
    refine tq 5 (.agg #[.string sa,.string sb]) rfl (fun _ _=>by go_simp) hS15 ?_
    refine tq 6 (.bool ok) rfl (fun _ _=>by go_simp) hS15 ?_
    refine wpAnyH_ready (rs:=[7]) (by kernel_rfl) (by simp) ?_;refine AllReadyH.cons rfl (fun K hK=> ?_) AllReadyH.nil
    go_simp
    have al16:=af w9 (.cells #[.string ⟨#[]⟩,.string ⟨#[]⟩] 105);have q17:=ah w9 [.string ⟨#[]⟩,.string ⟨#[]⟩] 105;have hl20:w.heap.size≤w9.heap.size:=b13.size;have hl21:=q12.lt;have q22:=q12.l al16;have b23:=aa b13 al16;refine hK.out _ _ q22 (fun hS24=> ?_)
    clear hK K;clear q12 r1x11 b13 al16;generalize w9.alloc (.cells #[.string ⟨#[]⟩,.string ⟨#[]⟩] 105)=WN18 at q22 q17 b23 hS24⊢;generalize w9.heap.size=PQ19 at q17 hl20 hl21⊢;refine wpAnyH_ready (rs:=[8]) (by kernel_rfl) (by simp) ?_;refine AllReadyH.cons rfl (fun K hK=> ?_) AllReadyH.nil
    have bu:But PQ19 WN18 (WN18.setCells PQ19 0 [.string sa,.string sb]):=de _ _ _ _;have hth:WN18.there PQ19 0 2:=dD q17;have q25:au (WN18.setCells PQ19 0 [.string sa,.string sb]) PQ19 105 [.string sa,.string sb]:=q17.sets _ rfl;have q26:=bu.loc q22 (by omega);have b27:=bu.below b23 (by omega);rw[if_pos (by kernel_rfl)];refine wp_store_mid 105 (.tmp 4) (.tmp 11) rfl PQ19 0 #[.string sa,.string sb] (by kernel_rfl) (by kernel_rfl) hth (by kernel_rfl) (by simp[Value.oneCell']) ?_;refine hK.out _ _ q26 (fun hS28=> ?_)
    clear hK K;clear q17 q22 b23 bu hth;refine tq 9 (.bool ok) rfl (fun _ _=>by kernel_rfl) hS28 ?_
    refine wpAnyH_done (by kernel_rfl) ?_ _;clear hS0 hS14 hS15 hS24 hS28;change Exit.then _ _ _ _ (World.setCells WN18 PQ19 0 [.string sa,.string sb]);generalize World.setCells WN18 PQ19 0 [.string sa,.string sb]=W29 at q26 q25 b27⊢;simp only[Act.put,List.getElem_toArray,List.getElem_cons_succ,List.getElem_cons_zero,List.setIfInBounds_toArray,List.set_cons_zero,List.set_cons_succ];have c30:=q26.c 1 rfl
    first| (rename Mgk 0=>_z;have c31:=q25.c 0 rfl)| (have c31:=q25.c 1 rfl)
    go_wp2
    go_ret2
    exact⟨rfl,b27⟩
   ·go_simp
    have al15:=af w9 (.cells #[.string ⟨#[]⟩,.string ⟨#[]⟩] 105);have q16:=ah w9 [.string ⟨#[]⟩,.string ⟨#[]⟩] 105;have hl19:w.heap.size≤w9.heap.size:=b13.size;have hl20:=q12.lt;have q21:=q12.l al15;have r22:=r1x11.l al15;have b23:=aa b13 al15;refine hK.out _ _ q21 (fun hS24=> ?_)
    clear hK K;clear q12 r1x11 b13 al15;generalize w9.alloc (.cells #[.string ⟨#[]⟩,.string ⟨#[]⟩] 105)=WN17 at q21 q16 r22 b23 hS24⊢;generalize w9.heap.size=PQ18 at q16 hl19 hl20⊢;refine wpAnyH_ready (rs:=[3]) (by kernel_rfl) (by simp) ?_;refine AllReadyH.cons rfl (fun K hK=> ?_) AllReadyH.nil
    rw[if_pos (by kernel_rfl)];refine wp_yield (.tuple #[.agg #[.string sa,.string sb],.bool ok]) (xlook 107 (.tmp 7) (.tmp 9) true rfl _ _ (by kernel_rfl) (by kernel_rfl) (HL.out _ _ r22)) ?_;refine hK.out _ _ q21 (fun hS25=> ?_)
    clear hK K;refine tq 4 (.tuple #[.agg #[.string sa,.string sb],.bool ok]) rfl (fun _ _=>by kernel_rfl) hS25 ?_
    refine tq 5 (.agg #[.string sa,.string sb]) rfl (fun _ _=>by go_simp) hS25 ?_
    refine tq 6 (.bool ok) rfl (fun _ _=>by go_simp) hS25 ?_
    refine wpAnyH_ready (rs:=[8]) (by kernel_rfl) (by simp) ?_;refine AllReadyH.cons rfl (fun K hK=> ?_) AllReadyH.nil
    have bu:But PQ18 WN17 (WN17.setCells PQ18 0 [.string sa,.string sb]):=de _ _ _ _;have hth:WN17.there PQ18 0 2:=dD q16;have q26:au (WN17.setCells PQ18 0 [.string sa,.string sb]) PQ18 105 [.string sa,.string sb]:=q16.sets _ rfl;have q27:=bu.loc q21 (by omega);have b28:=bu.below b23 (by omega);rw[if_pos (by kernel_rfl)];refine wp_store_mid 105 (.tmp 4) (.tmp 11) rfl PQ18 0 #[.string sa,.string sb] (by kernel_rfl) (by kernel_rfl) hth (by kernel_rfl) (by simp[Value.oneCell']) ?_;refine hK.out _ _ q27 (fun hS29=> ?_)
    clear hK K;clear q16 r22 q21 b23 bu hth;refine tq 9 (.bool ok) rfl (fun _ _=>by kernel_rfl) hS29 ?_
    refine wpAnyH_done (by kernel_rfl) ?_ _;clear hS0 hS14 hS24 hS25 hS29;change Exit.then _ _ _ _ (World.setCells WN17 PQ18 0 [.string sa,.string sb]);generalize World.setCells WN17 PQ18 0 [.string sa,.string sb]=W30 at q27 q26 b28⊢;simp only[Act.put,List.getElem_toArray,List.getElem_cons_succ,List.getElem_cons_zero,List.setIfInBounds_toArray,List.set_cons_zero,List.set_cons_succ];have c31:=q27.c 1 rfl
    first| (rename Mgk 0=>_z;have c32:=q26.c 0 rfl)| (have c32:=q26.c 1 rfl)
    go_wp2
    go_ret2
    exact⟨rfl,b28⟩
  ·go_simp
   have al9:=af WD8 (.cells #[.string ⟨#[]⟩,.string ⟨#[]⟩] 105);have q10:=ah WD8 [.string ⟨#[]⟩,.string ⟨#[]⟩] 105;have hl13:w.heap.size≤WD8.heap.size:=b7.size;have hl14:=q6.lt;have q15:=q6.l al9;have b16:=aa b7 al9;refine hK.out _ _ q15 (fun hS17=> ?_)
   clear hK K;clear q6 b7 al9;generalize WD8.alloc (.cells #[.string ⟨#[]⟩,.string ⟨#[]⟩] 105)=WN11 at q15 q10 b16 hS17⊢;generalize WD8.heap.size=PQ12 at q10 hl13 hl14⊢;refine wpAnyH_ready (rs:=[0]) (by kernel_rfl) (by simp) ?_;refine AllReadyH.cons rfl (fun K hK=> ?_) AllReadyH.nil
   go_simp
   refine(HW.out _).mono ?_;rintro zz w18 ⟨mr,rfl,r1x20,bb19⟩;have q21:=q15.l bb19;have q22:=q10.l bb19;have b23:=aa b16 bb19;clear q15 q10 b16 bb19 HW;refine hK.out _ _ q21 (fun hS24=> ?_)
   clear hK K;refine wpAnyH_ready (rs:=[3]) (by kernel_rfl) (by simp) ?_;refine AllReadyH.cons rfl (fun K hK=> ?_) AllReadyH.nil
   rw[if_pos (by kernel_rfl)];refine wp_yield (.tuple #[.agg #[.string sa,.string sb],.bool ok]) (xlook 107 (.tmp 7) (.tmp 9) true rfl _ _ (by kernel_rfl) (by kernel_rfl) (HL.out _ _ r1x20)) ?_;refine hK.out _ _ q21 (fun hS25=> ?_)
   clear hK K;refine tq 4 (.tuple #[.agg #[.string sa,.string sb],.bool ok]) rfl (fun _ _=>by kernel_rfl) hS25 ?_
   refine tq 5 (.agg #[.string sa,.string sb]) rfl (fun _ _=>by go_simp) hS25 ?_
   refine tq 6 (.bool ok) rfl (fun _ _=>by go_simp) hS25 ?_
   refine wpAnyH_ready (rs:=[8]) (by kernel_rfl) (by simp) ?_;refine AllReadyH.cons rfl (fun K hK=> ?_) AllReadyH.nil
   have bu:But PQ12 w18 (w18.setCells PQ12 0 [.string sa,.string sb]):=de _ _ _ _;have hth:w18.there PQ12 0 2:=dD q22;have q26:au (w18.setCells PQ12 0 [.string sa,.string sb]) PQ12 105 [.string sa,.string sb]:=q22.sets _ rfl;have q27:=bu.loc q21 (by omega);have b28:=bu.below b23 (by omega);rw[if_pos (by kernel_rfl)];refine wp_store_mid 105 (.tmp 4) (.tmp 11) rfl PQ12 0 #[.string sa,.string sb] (by kernel_rfl) (by kernel_rfl) hth (by kernel_rfl) (by simp[Value.oneCell']) ?_;refine hK.out _ _ q27 (fun hS29=> ?_)
   clear hK K;clear q22 r1x20 q21 b23 bu hth;refine tq 9 (.bool ok) rfl (fun _ _=>by kernel_rfl) hS29 ?_
   refine wpAnyH_done (by kernel_rfl) ?_ _;clear hS0 hS17 hS24 hS25 hS29;change Exit.then _ _ _ _ (World.setCells w18 PQ12 0 [.string sa,.string sb]);generalize World.setCells w18 PQ12 0 [.string sa,.string sb]=W30 at q27 q26 b28⊢;simp only[Act.put,List.getElem_toArray,List.getElem_cons_succ,List.getElem_cons_zero,List.setIfInBounds_toArray,List.set_cons_zero,List.set_cons_succ];have c31:=q27.c 1 rfl
   first| (rename Mgk 0=>_z;have c32:=q26.c 0 rfl)| (have c32:=q26.c 1 rfl)
   go_wp2
   go_ret2
   exact⟨rfl,b28⟩
abbrev tword_f:=tword_f_mg.1
abbrev tword_t:=tword_f_mg.2
theorem tmakes_err (n fl er:Int)(tx ps md:ByteArray)(w:World)(he:(er==0)=false)
  (HP:yH w 14 #[yi n,.string tx,yi 1] (.tuple #[.string ps,yi fl,yi er])):
  yC 55 #[.string tx,yi n,.string md] w (yR w (.bool false)):=by
 replace HP:Hid _:=HP
 go_enter func55,ntmps55
 have b0:=Below.refl w.heap.size w
 go_wp2_with fail
 refine(HP.out _ b0).mono ?_;rintro zz w1 ⟨rfl,bb2⟩;have b3:=aa b0 bb2;clear b0 bb2 HP
 go_wp2
 go_ret
 exact⟨rfl,b3⟩
theorem tmakes_yes (n fl:Int)(tx ps md:ByteArray)(w:World)(he:(ps.toList==md.toList)=true)
  (HP:yH w 14 #[yi n,.string tx,yi 1] (.tuple #[.string ps,yi fl,yi 0])):
  yC 55 #[.string tx,yi n,.string md] w (yR w (.bool true)):=by
 replace HP:Hid _:=HP
 go_enter func55,ntmps55
 have b0:=Below.refl w.heap.size w
 go_wp2_with fail
 refine(HP.out _ b0).mono ?_;rintro zz w1 ⟨rfl,bb2⟩;have b3:=aa b0 bb2;clear b0 bb2 HP
 go_wp2
 go_ret
 exact⟨rfl,b3⟩
theorem tmakes_no (n fl:Int)(tx ps md:ByteArray)(w:World)(he:(ps.toList==md.toList)=false)
  (HP:yH w 14 #[yi n,.string tx,yi 1] (.tuple #[.string ps,yi fl,yi 0])):
  yC 55 #[.string tx,yi n,.string md] w (yR w (.bool false)):=by
 replace HP:Hid _:=HP
 go_enter func55,ntmps55
 have b0:=Below.refl w.heap.size w
 go_wp2_with fail
 refine(HP.out _ b0).mono ?_;rintro zz w1 ⟨rfl,bb2⟩;have b3:=aa b0 bb2;clear b0 bb2 HP
 go_wp2
 go_ret
 exact⟨rfl,b3⟩
end Go.Proofs.YtdhpndnncmagiaaGreatDoor
