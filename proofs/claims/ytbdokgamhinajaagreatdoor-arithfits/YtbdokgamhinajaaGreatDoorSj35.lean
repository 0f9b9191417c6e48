/-
  Texts laid together: As7, As8.
-/
import Derived.Test.YtbdokgamhinajaaGreatDoorSj34
import Derived.Test.YtbdokgamhinajaaGreatDoorSj32
set_option maxRecDepth 100000
set_option maxHeartbeats 12800000
namespace Go.Proofs.YtbdokgamhinajaaGreatDoor
open _root_.Go.Proofs.Tryz
open Go.RowKit
theorem eI {w:World}{b:Nat}{ty:TypeId}{vs cs:List Value}(h:au w b ty vs)(o n:Nat)(e:(vs.drop o).take n=cs):w.rangeAt b o cs:=fun j v hj=>by
 subst e;refine h.c (o+j) ?_;rw[List.getElem?_take] at hj
 split at hj
 ·rw[List.getElem?_drop] at hj
  exact hj
 ·cases hj
theorem El (n wy fam R D L G fl:Int)(gr gx:Bool)(t:ak)(to0:Option Addr)(tc:Nat)(s:Bool)(N M:Nat)(e:Int)(ps:Bool)(pd:Nat)(pp:Int)(ex ov un:Bool)(c:Int)(g:Bool)(m:Nat)(q fl2 flo:Int)(st:ByteArray)(f1 e1:Int)(w:World)
  (hor:bits .or .i64 fl fl2=flo)
  (HQ: ∀w1,yB w w1→yC 102 #[yDV t to0 tc] w1 (Kx w1 s N M e))
  (HRd: ∀no nc mo mc w1,yB w w1→Rd w1 .u32 (.slice no (Dg.dg 4294967296 N).length nc) (Dg.dg 4294967296 N)→Rd w1 .u32 (.slice mo (Dg.dg 4294967296 M).length mc) (Dg.dg 4294967296 M)→yC 44 #[yrV s (.slice no (Dg.dg 4294967296 N).length nc) (.slice mo (Dg.dg 4294967296 M).length mc) e,ygV R D L G gr,yi wy] w1 fun z w'=> ∃po pc,z= .returned (.tuple #[ypV ps (.slice po (Dg.dg 4294967296 pd).length pc) pp ex ov un,yi 0])∧Rd w' .u32 (.slice po (Dg.dg 4294967296 pd).length pc) (Dg.dg 4294967296 pd)∧yB w1 w')
  (HSt: ∀po pc w1,yB w w1→Rd w1 .u32 (.slice po (Dg.dg 4294967296 pd).length pc) (Dg.dg 4294967296 pd)→yC 46 #[ykV n wy fam R D L G gr,ypV ps (.slice po (Dg.dg 4294967296 pd).length pc) pp ex ov un] w1 (B6 w1 c g m q fl2))
  (HEn: ∀vo vc w1,yB w w1→Rd w1 .u32 (.slice vo (Dg.dg 4294967296 m).length vc) (Dg.dg 4294967296 m)→yC 45 #[ykV n wy fam R D L G gr,yvV c g (.slice vo (Dg.dg 4294967296 m).length vc) q,yi flo] w1 (yR w1 (.tuple #[.string st,yi f1,yi e1]))):
  yC 58 #[ykV n wy fam R D L G gr,yOV 2 gx t to0 tc,yi fl] w (yR w (.tuple #[.string st,yi f1,yi e1])):=by
 replace HQ:Hid _:=HQ;replace HRd:Hid _:=HRd;replace HSt:Hid _:=HSt;replace HEn:Hid _:=HEn;have a1:=af w (.cells (ykA n wy fam R D L G gr) 69);have a2:=af (w.alloc (.cells (ykA n wy fam R D L G gr) 69)) (.cells (yOA 2 gx t to0 tc) 76);have d0:=(ah w (ykL n wy fam R D L G gr) 69).l a2;have x0:=ah (w.alloc (.cells (ykA n wy fam R D L G gr) 69)) (yOL 2 gx t to0 tc) 76;rw[World.size_alloc] at x0;have b0:=aa a1 a2;clear a1 a2
 go_enter func58,ntmps58
 go_upto_region 1 with fail
 generalize(w.alloc (.cells (ykA n wy fam R D L G gr) 69)).alloc (.cells (yOA 2 gx t to0 tc) 76)=W0 at d0 x0 b0⊢;have y0:=x0.c 0 rfl
 go_upto_region 3 with fail
 have bW:yB W0 W0.drew:=(Below.refl _ _).drew;have d1:=d0.l bW;have x1:=x0.l bW;have b1:=aa b0 bW;clear bW d0 x0 b0 y0;refine wp_region_held_drew (S:=(fun wq=>wq.rangeAt (w.heap.size+1) 2 (yDL t to0 tc)∧wq.rangeAt w.heap.size 3 (ygL R D L G gr)∧wq.cell? ⟨w.heap.size,1,none⟩=some (yi wy))) (by kernel_rfl) ⟨fun j v hj=>eI x1 2 3 rfl j v hj,fun j v hj=>eI d1 3 5 rfl j v hj,d1.c 1 rfl⟩ (fun hS0=> ?_)
 generalize W0.drew=WD at d1 x1 b1 hS0⊢;refine wpAnyH_take (i:=0) (v:= .pointer (some ⟨w.heap.size+1,2,none⟩)) rfl (by kernel_rfl) (by kernel_rfl) (by kernel_rfl) (fun _ _ _ h=>h) (Or.inl ⟨by kernel_rfl,fun w0 _=>by kernel_rfl⟩) hS0 ?_
 refine wpAnyH_take (i:=1) (v:=(yDV t to0 tc)) rfl (by kernel_rfl) (by kernel_rfl) (by kernel_rfl) (fun _ _ _ h=>h) (Or.inl ⟨by kernel_rfl,fun w0 hw0=>fy 74 (.tmp 18) rfl (w.heap.size+1) 2 (by kernel_rfl) _ _ hw0.1 underlying74 rfl (by kernel_rfl)⟩) hS0 ?_
 refine wpAnyH_take (i:=3) (v:= .pointer (some ⟨w.heap.size,3,none⟩)) rfl (by kernel_rfl) (by kernel_rfl) (by kernel_rfl) (fun _ _ _ h=>h) (Or.inl ⟨by kernel_rfl,fun w0 _=>by kernel_rfl⟩) hS0 ?_
 refine wpAnyH_take (i:=4) (v:=(ygV R D L G gr)) rfl (by kernel_rfl) (by kernel_rfl) (by kernel_rfl) (fun _ _ _ h=>h) (Or.inl ⟨by kernel_rfl,fun w0 hw0=>fy 48 (.tmp 21) rfl w.heap.size 3 (by kernel_rfl) _ _ hw0.2.1 underlying48 rfl (by kernel_rfl)⟩) hS0 ?_
 refine wpAnyH_take (i:=5) (v:= .pointer (some ⟨w.heap.size,1,none⟩)) rfl (by kernel_rfl) (by kernel_rfl) (by kernel_rfl) (fun _ _ _ h=>h) (Or.inl ⟨by kernel_rfl,fun w0 _=>by kernel_rfl⟩) hS0 ?_
 refine wpAnyH_take (i:=6) (v:=yi wy) rfl (by kernel_rfl) (by kernel_rfl) (by kernel_rfl) (fun _ _ _ h=>h) (Or.inl ⟨by kernel_rfl,fun w0 hw0=>gU 3 (.tmp 23) rfl w.heap.size 1 (by kernel_rfl) _ _ underlying3 rfl hw0.2.2⟩) hS0 ?_
 refine wpAnyH_ready (rs:=[2,11]) (by kernel_rfl) (by simp) ?_;refine AllReadyH.cons rfl (fun K hK=> ?_) (AllReadyH.cons rfl (fun K hK=> ?_) AllReadyH.nil)
 ·skip
  go_simp
  refine(HQ.out _ b1).mono ?_;rintro z wq ⟨no,nc,mo,mc,rfl,rn,rm,bq⟩;have d11:=d1.l bq;have x11:=x1.l bq;have b11:=aa b1 bq;refine hK.out _ _ ⟨fun j v hj=>eI x11 2 3 rfl j v hj,fun j v hj=>eI d11 3 5 rfl j v hj,d11.c 1 rfl⟩ (fun hS11=> ?_)
  clear hK K bq d1 x1 b1;refine wpAnyH_ready (rs:=[7,11]) (by kernel_rfl) (by simp) ?_;refine AllReadyH.cons rfl (fun K hK=> ?_) (AllReadyH.cons rfl (fun K hK=> ?_) AllReadyH.nil)
  ·skip
   go_simp
   refine(HRd.out _ _ _ _ _ b11 rn rm).mono ?_;rintro z wp ⟨po,pc,rfl,rp,bp⟩;have d12:=d11.l bp;have x12:=x11.l bp;have b12:=aa b11 bp;refine hK.out _ _ ⟨fun j v hj=>eI x12 2 3 rfl j v hj,fun j v hj=>eI d12 3 5 rfl j v hj,d12.c 1 rfl⟩ (fun hS12=> ?_)
   clear hK K bp d11 x11 b11 rn rm;refine wpAnyH_take (i:=8) (v:= .tuple #[ypV ps (.slice po (Dg.dg 4294967296 pd).length pc) pp ex ov un,yi 0]) rfl (by kernel_rfl) (by kernel_rfl) (by kernel_rfl) (fun _ _ _ h=>h) (Or.inl ⟨by kernel_rfl,fun w0 _=>by go_simp⟩) hS12 ?_
   refine wpAnyH_take (i:=9) (v:=(ypV ps (.slice po (Dg.dg 4294967296 pd).length pc) pp ex ov un)) rfl (by kernel_rfl) (by kernel_rfl) (by kernel_rfl) (fun _ _ _ h=>h) (Or.inl ⟨by kernel_rfl,fun w0 _=>by go_simp⟩) hS12 ?_
   refine wpAnyH_take (i:=10) (v:=yi 0) rfl (by kernel_rfl) (by kernel_rfl) (by kernel_rfl) (fun _ _ _ h=>h) (Or.inl ⟨by kernel_rfl,fun w0 _=>by go_simp⟩) hS12 ?_
   refine wpAnyH_ready (rs:=[11]) (by kernel_rfl) (by simp) ?_;refine AllReadyH.cons rfl (fun K hK=> ?_) AllReadyH.nil
   go_simp
   have al:=af wp (.cells (ypA false (.slice none 0 0) 0 false false false) 95);have pn:=ah wp (ypL false (.slice none 0 0) 0 false false false) 95;have hpn:w.heap.size+1<wp.heap.size:=x12.lt;have d13:=d12.l al;have x13:=x12.l al;have b13:=aa b12 al;have rp_13:=rp.l al;refine hK.out _ _ ⟨fun j v hj=>eI x13 2 3 rfl j v hj,fun j v hj=>eI d13 3 5 rfl j v hj,d13.c 1 rfl⟩ (fun hS13=> ?_)
   clear hK K al d12 x12 b12 rp;generalize wp.alloc (.cells (ypA false (.slice none 0 0) 0 false false false) 95)=WN13 at d13 x13 b13 pn hS13 rp_13⊢;generalize wp.heap.size=PQ at pn hpn⊢;refine wpAnyH_ready (rs:=[12]) (by kernel_rfl) (by simp) ?_;refine AllReadyH.cons rfl (fun K hK=> ?_) AllReadyH.nil
   rw[if_pos (by kernel_rfl)];have hth:WN13.there PQ 0 6:=dD pn;refine wp_store_mid 95 (.tmp 9) (.tmp 26) rfl PQ 0 (ypA ps (.slice po (Dg.dg 4294967296 pd).length pc) pp ex ov un) (by kernel_rfl) (by kernel_rfl) hth (by kernel_rfl) (by simp[Value.oneCell']) ?_;have bu:But PQ WN13 (WN13.setCells PQ 0 (ypL ps (.slice po (Dg.dg 4294967296 pd).length pc) pp ex ov un)):=de _ _ _ _;have dS:=bu.loc d13 (by omega);have xS:=bu.loc x13 (by omega);have bS:=bu.below b13 (by omega);have rS:=bu.rd rp_13 (aX rp_13 pn (by simp));have pS:au (WN13.setCells PQ 0 (ypL ps (.slice po (Dg.dg 4294967296 pd).length pc) pp ex ov un)) PQ 95 (ypL ps (.slice po (Dg.dg 4294967296 pd).length pc) pp ex ov un):=((((((pn.set 0 (.bool ps)).set 1 (.slice po (Dg.dg 4294967296 pd).length pc)).set 2 (yi pp)).set 3 (.bool ex)).set 4 (.bool ov)).set 5 (.bool un));refine hK.out _ _ ⟨fun j v hj=>eI xS 2 3 rfl j v hj,fun j v hj=>eI dS 3 5 rfl j v hj,dS.c 1 rfl⟩ (fun hSS=> ?_)
   clear hK K bu hth d13 x13 b13 pn rp_13;refine wpAnyH_take (i:=13) (v:=yi 0) rfl (by kernel_rfl) (by kernel_rfl) (by kernel_rfl) (fun _ _ _ h=>h) (Or.inl ⟨by kernel_rfl,fun w0 _=>by go_simp⟩) hSS ?_
   refine wpAnyH_done (by kernel_rfl) ?_ _;clear hSS;change Exit.then _ _ _ _ (World.setCells WN13 PQ 0 (ypL ps (.slice po (Dg.dg 4294967296 pd).length pc) pp ex ov un));generalize World.setCells WN13 PQ 0 (ypL ps (.slice po (Dg.dg 4294967296 pd).length pc) pp ex ov un)=WS at dS xS bS rS pS⊢;simp only[Act.put,List.getElem_toArray,List.getElem_cons_succ,List.getElem_cons_zero,List.setIfInBounds_toArray,List.set_cons_zero,List.set_cons_succ];obtain⟨y0,y1,y2,y3,y4,y5,y6,y7⟩:=dS.cs8;obtain⟨z0,z1,z2,z3,z4,z5⟩:=pS.cs6
   go_wp2_with fail
   refine(HSt.out _ _ _ bS rS).mono ?_;rintro z wt ⟨u,rfl,rt,bt⟩;obtain⟨vo,vc,hu⟩:=rt.shape;subst hu;have al:=af wt (.cells (yvA c g (.slice vo (Dg.dg 4294967296 m).length vc) q) 100);have vt:=ah wt (yvL c g (.slice vo (Dg.dg 4294967296 m).length vc) q) 100;have dt:=(dS.l bt).l al;have rv:=rt.l al;have b9:=aa (aa bS bt) al;clear y0 y1 y2 y3 y4 y5 y6 y7 z0 z1 z2 z3 z4 z5 dS xS bS rS pS bt al rt
   go_upto_region 7 with fail
   generalize wt.alloc (.cells (yvA c g (.slice vo (Dg.dg 4294967296 m).length vc) q) 100)=WT at vt dt rv b9⊢;generalize wt.heap.size=PV at vt⊢;obtain⟨y0,y1,y2,y3,y4,y5,y6,y7⟩:=dt.cs8;obtain⟨z0,z1,z2,z3⟩:=vt.cs4
   go_wp2_with fail
   refine(HEn.out _ _ _ b9 rv).mono ?_;rintro z wz ⟨rfl,bz⟩;have bE:=aa b9 bz
   go_wp2
   go_ret3
   exact⟨rfl,bE⟩
  ·skip
   go_simp
   have al:=af wq (.cells (ypA false (.slice none 0 0) 0 false false false) 95);have pn:=ah wq (ypL false (.slice none 0 0) 0 false false false) 95;have hpn:w.heap.size+1<wq.heap.size:=x11.lt;have d12:=d11.l al;have x12:=x11.l al;have b12:=aa b11 al;have rn_12:=rn.l al;have rm_12:=rm.l al;refine hK.out _ _ ⟨fun j v hj=>eI x12 2 3 rfl j v hj,fun j v hj=>eI d12 3 5 rfl j v hj,d12.c 1 rfl⟩ (fun hS12=> ?_)
   clear hK K al d11 x11 b11 rn rm;generalize wq.alloc (.cells (ypA false (.slice none 0 0) 0 false false false) 95)=WN12 at d12 x12 b12 pn hS12 rn_12 rm_12⊢;generalize wq.heap.size=PQ at pn hpn⊢;refine wpAnyH_ready (rs:=[7]) (by kernel_rfl) (by simp) ?_;refine AllReadyH.cons rfl (fun K hK=> ?_) AllReadyH.nil
   go_simp
   refine(HRd.out _ _ _ _ _ b12 rn_12 rm_12).mono ?_;rintro z wp ⟨po,pc,rfl,rp,bp⟩;have d13:=d12.l bp;have x13:=x12.l bp;have b13:=aa b12 bp;have p13:=pn.l bp;refine hK.out _ _ ⟨fun j v hj=>eI x13 2 3 rfl j v hj,fun j v hj=>eI d13 3 5 rfl j v hj,d13.c 1 rfl⟩ (fun hS13=> ?_)
   clear hK K bp d12 x12 b12 pn rn_12 rm_12;refine wpAnyH_take (i:=8) (v:= .tuple #[ypV ps (.slice po (Dg.dg 4294967296 pd).length pc) pp ex ov un,yi 0]) rfl (by kernel_rfl) (by kernel_rfl) (by kernel_rfl) (fun _ _ _ h=>h) (Or.inl ⟨by kernel_rfl,fun w0 _=>by go_simp⟩) hS13 ?_
   refine wpAnyH_take (i:=9) (v:=(ypV ps (.slice po (Dg.dg 4294967296 pd).length pc) pp ex ov un)) rfl (by kernel_rfl) (by kernel_rfl) (by kernel_rfl) (fun _ _ _ h=>h) (Or.inl ⟨by kernel_rfl,fun w0 _=>by go_simp⟩) hS13 ?_
   refine wpAnyH_take (i:=10) (v:=yi 0) rfl (by kernel_rfl) (by kernel_rfl) (by kernel_rfl) (fun _ _ _ h=>h) (Or.inl ⟨by kernel_rfl,fun w0 _=>by go_simp⟩) hS13 ?_
   refine wpAnyH_ready (rs:=[12]) (by kernel_rfl) (by simp) ?_;refine AllReadyH.cons rfl (fun K hK=> ?_) AllReadyH.nil
   rw[if_pos (by kernel_rfl)];have hth:wp.there PQ 0 6:=dD p13;refine wp_store_mid 95 (.tmp 9) (.tmp 26) rfl PQ 0 (ypA ps (.slice po (Dg.dg 4294967296 pd).length pc) pp ex ov un) (by kernel_rfl) (by kernel_rfl) hth (by kernel_rfl) (by simp[Value.oneCell']) ?_;have bu:But PQ wp (wp.setCells PQ 0 (ypL ps (.slice po (Dg.dg 4294967296 pd).length pc) pp ex ov un)):=de _ _ _ _;have dS:=bu.loc d13 (by omega);have xS:=bu.loc x13 (by omega);have bS:=bu.below b13 (by omega);have rS:=bu.rd rp (aX rp p13 (by simp));have pS:au (wp.setCells PQ 0 (ypL ps (.slice po (Dg.dg 4294967296 pd).length pc) pp ex ov un)) PQ 95 (ypL ps (.slice po (Dg.dg 4294967296 pd).length pc) pp ex ov un):=((((((p13.set 0 (.bool ps)).set 1 (.slice po (Dg.dg 4294967296 pd).length pc)).set 2 (yi pp)).set 3 (.bool ex)).set 4 (.bool ov)).set 5 (.bool un));refine hK.out _ _ ⟨fun j v hj=>eI xS 2 3 rfl j v hj,fun j v hj=>eI dS 3 5 rfl j v hj,dS.c 1 rfl⟩ (fun hSS=> ?_)
   clear hK K bu hth d13 x13 b13 p13 rp;refine wpAnyH_take (i:=13) (v:=yi 0) rfl (by kernel_rfl) (by kernel_rfl) (by kernel_rfl) (fun _ _ _ h=>h) (Or.inl ⟨by kernel_rfl,fun w0 _=>by go_simp⟩) hSS ?_
   refine wpAnyH_done (by kernel_rfl) ?_ _;clear hSS;change Exit.then _ _ _ _ (World.setCells wp PQ 0 (ypL ps (.slice po (Dg.dg 4294967296 pd).length pc) pp ex ov un));generalize World.setCells wp PQ 0 (ypL ps (.slice po (Dg.dg 4294967296 pd).length pc) pp ex ov un)=WS at dS xS bS rS pS⊢;simp only[Act.put,List.getElem_toArray,List.getElem_cons_succ,List.getElem_cons_zero,List.setIfInBounds_toArray,List.set_cons_zero,List.set_cons_succ];obtain⟨y0,y1,y2,y3,y4,y5,y6,y7⟩:=dS.cs8;obtain⟨z0,z1,z2,z3,z4,z5⟩:=pS.cs6
   go_wp2_with fail
   refine(HSt.out _ _ _ bS rS).mono ?_;rintro z wt ⟨u,rfl,rt,bt⟩;obtain⟨vo,vc,hu⟩:=rt.shape;subst hu;have al:=af wt (.cells (yvA c g (.slice vo (Dg.dg 4294967296 m).length vc) q) 100);have vt:=ah wt (yvL c g (.slice vo (Dg.dg 4294967296 m).length vc) q) 100;have dt:=(dS.l bt).l al;have rv:=rt.l al;have b9:=aa (aa bS bt) al;clear y0 y1 y2 y3 y4 y5 y6 y7 z0 z1 z2 z3 z4 z5 dS xS bS rS pS bt al rt
   go_upto_region 7 with fail
   generalize wt.alloc (.cells (yvA c g (.slice vo (Dg.dg 4294967296 m).length vc) q) 100)=WT at vt dt rv b9⊢;generalize wt.heap.size=PV at vt⊢;obtain⟨y0,y1,y2,y3,y4,y5,y6,y7⟩:=dt.cs8;obtain⟨z0,z1,z2,z3⟩:=vt.cs4
   go_wp2_with fail
   refine(HEn.out _ _ _ b9 rv).mono ?_;rintro z wz ⟨rfl,bz⟩;have bE:=aa b9 bz
   go_wp2
   go_ret3
   exact⟨rfl,bE⟩
 ·skip
  go_simp
  have al:=af WD (.cells (ypA false (.slice none 0 0) 0 false false false) 95);have pn:=ah WD (ypL false (.slice none 0 0) 0 false false false) 95;have hpn:w.heap.size+1<WD.heap.size:=x1.lt;have d11:=d1.l al;have x11:=x1.l al;have b11:=aa b1 al;refine hK.out _ _ ⟨fun j v hj=>eI x11 2 3 rfl j v hj,fun j v hj=>eI d11 3 5 rfl j v hj,d11.c 1 rfl⟩ (fun hS11=> ?_)
  clear hK K al d1 x1 b1;generalize WD.alloc (.cells (ypA false (.slice none 0 0) 0 false false false) 95)=WN11 at d11 x11 b11 pn hS11⊢;generalize WD.heap.size=PQ at pn hpn⊢;refine wpAnyH_ready (rs:=[2]) (by kernel_rfl) (by simp) ?_;refine AllReadyH.cons rfl (fun K hK=> ?_) AllReadyH.nil
  go_simp
  refine(HQ.out _ b11).mono ?_;rintro z wq ⟨no,nc,mo,mc,rfl,rn,rm,bq⟩;have d12:=d11.l bq;have x12:=x11.l bq;have b12:=aa b11 bq;have p12:=pn.l bq;refine hK.out _ _ ⟨fun j v hj=>eI x12 2 3 rfl j v hj,fun j v hj=>eI d12 3 5 rfl j v hj,d12.c 1 rfl⟩ (fun hS12=> ?_)
  clear hK K bq d11 x11 b11 pn;refine wpAnyH_ready (rs:=[7]) (by kernel_rfl) (by simp) ?_;refine AllReadyH.cons rfl (fun K hK=> ?_) AllReadyH.nil
  go_simp
  refine(HRd.out _ _ _ _ _ b12 rn rm).mono ?_;rintro z wp ⟨po,pc,rfl,rp,bp⟩;have d13:=d12.l bp;have x13:=x12.l bp;have b13:=aa b12 bp;have p13:=p12.l bp;refine hK.out _ _ ⟨fun j v hj=>eI x13 2 3 rfl j v hj,fun j v hj=>eI d13 3 5 rfl j v hj,d13.c 1 rfl⟩ (fun hS13=> ?_)
  clear hK K bp d12 x12 b12 p12 rn rm;refine wpAnyH_take (i:=8) (v:= .tuple #[ypV ps (.slice po (Dg.dg 4294967296 pd).length pc) pp ex ov un,yi 0]) rfl (by kernel_rfl) (by kernel_rfl) (by kernel_rfl) (fun _ _ _ h=>h) (Or.inl ⟨by kernel_rfl,fun w0 _=>by go_simp⟩) hS13 ?_
  refine wpAnyH_take (i:=9) (v:=(ypV ps (.slice po (Dg.dg 4294967296 pd).length pc) pp ex ov un)) rfl (by kernel_rfl) (by kernel_rfl) (by kernel_rfl) (fun _ _ _ h=>h) (Or.inl ⟨by kernel_rfl,fun w0 _=>by go_simp⟩) hS13 ?_
  refine wpAnyH_take (i:=10) (v:=yi 0) rfl (by kernel_rfl) (by kernel_rfl) (by kernel_rfl) (fun _ _ _ h=>h) (Or.inl ⟨by kernel_rfl,fun w0 _=>by go_simp⟩) hS13 ?_
  refine wpAnyH_ready (rs:=[12]) (by kernel_rfl) (by simp) ?_;refine AllReadyH.cons rfl (fun K hK=> ?_) AllReadyH.nil
  rw[if_pos (by kernel_rfl)];have hth:wp.there PQ 0 6:=dD p13;refine wp_store_mid 95 (.tmp 9) (.tmp 26) rfl PQ 0 (ypA ps (.slice po (Dg.dg 4294967296 pd).length pc) pp ex ov un) (by kernel_rfl) (by kernel_rfl) hth (by kernel_rfl) (by simp[Value.oneCell']) ?_;have bu:But PQ wp (wp.setCells PQ 0 (ypL ps (.slice po (Dg.dg 4294967296 pd).length pc) pp ex ov un)):=de _ _ _ _;have dS:=bu.loc d13 (by omega);have xS:=bu.loc x13 (by omega);have bS:=bu.below b13 (by omega);have rS:=bu.rd rp (aX rp p13 (by simp));have pS:au (wp.setCells PQ 0 (ypL ps (.slice po (Dg.dg 4294967296 pd).length pc) pp ex ov un)) PQ 95 (ypL ps (.slice po (Dg.dg 4294967296 pd).length pc) pp ex ov un):=((((((p13.set 0 (.bool ps)).set 1 (.slice po (Dg.dg 4294967296 pd).length pc)).set 2 (yi pp)).set 3 (.bool ex)).set 4 (.bool ov)).set 5 (.bool un));refine hK.out _ _ ⟨fun j v hj=>eI xS 2 3 rfl j v hj,fun j v hj=>eI dS 3 5 rfl j v hj,dS.c 1 rfl⟩ (fun hSS=> ?_)
  clear hK K bu hth d13 x13 b13 p13 rp;refine wpAnyH_take (i:=13) (v:=yi 0) rfl (by kernel_rfl) (by kernel_rfl) (by kernel_rfl) (fun _ _ _ h=>h) (Or.inl ⟨by kernel_rfl,fun w0 _=>by go_simp⟩) hSS ?_
  refine wpAnyH_done (by kernel_rfl) ?_ _;clear hSS;change Exit.then _ _ _ _ (World.setCells wp PQ 0 (ypL ps (.slice po (Dg.dg 4294967296 pd).length pc) pp ex ov un));generalize World.setCells wp PQ 0 (ypL ps (.slice po (Dg.dg 4294967296 pd).length pc) pp ex ov un)=WS at dS xS bS rS pS⊢;simp only[Act.put,List.getElem_toArray,List.getElem_cons_succ,List.getElem_cons_zero,List.setIfInBounds_toArray,List.set_cons_zero,List.set_cons_succ];obtain⟨y0,y1,y2,y3,y4,y5,y6,y7⟩:=dS.cs8;obtain⟨z0,z1,z2,z3,z4,z5⟩:=pS.cs6
  go_wp2_with fail
  refine(HSt.out _ _ _ bS rS).mono ?_;rintro z wt ⟨u,rfl,rt,bt⟩;obtain⟨vo,vc,hu⟩:=rt.shape;subst hu;have al:=af wt (.cells (yvA c g (.slice vo (Dg.dg 4294967296 m).length vc) q) 100);have vt:=ah wt (yvL c g (.slice vo (Dg.dg 4294967296 m).length vc) q) 100;have dt:=(dS.l bt).l al;have rv:=rt.l al;have b9:=aa (aa bS bt) al;clear y0 y1 y2 y3 y4 y5 y6 y7 z0 z1 z2 z3 z4 z5 dS xS bS rS pS bt al rt
  go_upto_region 7 with fail
  generalize wt.alloc (.cells (yvA c g (.slice vo (Dg.dg 4294967296 m).length vc) q) 100)=WT at vt dt rv b9⊢;generalize wt.heap.size=PV at vt⊢;obtain⟨y0,y1,y2,y3,y4,y5,y6,y7⟩:=dt.cs8;obtain⟨z0,z1,z2,z3⟩:=vt.cs4
  go_wp2_with fail
  refine(HEn.out _ _ _ b9 rv).mono ?_;rintro z wz ⟨rfl,bz⟩;have bE:=aa b9 bz
  go_wp2
  go_ret3
  exact⟨rfl,bE⟩
theorem sF.off {w w':World}{n:Int}{ps:List ByteArray}{g cap b:Nat}{ty:TypeId}{vs:List Value}(h:sF w n ps g cap)(bu:But b w w')(hl:au w b ty vs)(hu: ∀x∈vs,∀k:Int,x≠ .int .u32 k)(hg:g≠b):sF w' n ps g cap:=
 ⟨h.fit,h.most,fun i p hp=>by
  obtain⟨so,sc,h1,h2⟩:=h.each i p hp;exact⟨so,sc,fun j v hj=>by rw[bu.c (by exact hg)];exact h1 j v hj,bu.rd h2 (aX h2 hl hu)⟩⟩
theorem X7 (n wy fam R D L G cx cy c fl:Int)(gr gx gy gg:Bool)(x y t:ak)(xo yo:Option Addr)(xc yc g cap:Nat)(w:World)
  (h0:w.rangeAt g 0 (yOL cx gx x xo xc)) (h1:w.rangeAt g 5 (yOL cy gy y yo yc))
  (HS: ∀w1,yB w w1→yC 31 #[ykV n wy fam R D L G gr,yOV cx gx x xo xc,yOV cy gy y yo yc] w1 (dU w1 c gg t fl)):
  yC 30 #[ykV n wy fam R D L G gr,.slice (some ⟨g,0,none⟩) 2 cap] w (dU w c gg t fl):=by
 replace HS:Hid _:=HS;have a1:=af w (.cells (ykA n wy fam R D L G gr) 69);have a2:=af (w.alloc (.cells (ykA n wy fam R D L G gr) 69)) (.cells (yoA 0 false false (.slice none 0 0) 0) 76);have d0:=(ah w (ykL n wy fam R D L G gr) 69).l a2;have o0:=ah (w.alloc (.cells (ykA n wy fam R D L G gr) 69)) (yoL 0 false false (.slice none 0 0) 0) 76;rw[World.size_alloc] at o0;have b0:=aa a1 a2;have hgl:g<w.heap.size:=World.block_lt_of_cell? w _ (h0 0 _ rfl);have k0:=aC h0 b0;have k1:=aC h1 b0;clear a1 a2 h0 h1
 go_enter func30,ntmps30
 go_upto_region 1 with fail
 generalize(w.alloc (.cells (ykA n wy fam R D L G gr) 69)).alloc (.cells (yoA 0 false false (.slice none 0 0) 0) 76)=W0 at d0 o0 b0 k0 k1⊢;have bW:yB W0 W0.drew:=(Below.refl _ _).drew;have d1:=d0.l bW;have o1:=o0.l bW;have b1:=aa b0 bW;have r0:=aC k0 bW;have r1:=aC k1 bW;clear bW d0 o0 b0 k0 k1;refine wp_region_held_drew (S:=fun wq=>wq.rangeAt w.heap.size 0 (ykL n wy fam R D L G gr)∧wq.rangeAt g 0 (yOL cx gx x xo xc)∧wq.rangeAt g 5 (yOL cy gy y yo yc)) (by kernel_rfl) ⟨d1.range,r0,r1⟩ (fun hS0=> ?_)
 generalize W0.drew=WD at d1 o1 b1 r0 r1 hS0⊢;refine wpAnyH_take (i:=0) (v:=(ykV n wy fam R D L G gr)) rfl (by kernel_rfl) (by kernel_rfl) (by kernel_rfl) (fun _ _ _ h=>h) (Or.inl ⟨by kernel_rfl,fun w0 hw0=>fy 69 (.tmp 2) rfl w.heap.size 0 (by kernel_rfl) _ _ hw0.1 underlying69 rfl (by kernel_rfl)⟩) hS0 ?_
 refine wpAnyH_take (i:=1) (v:= .slice (some ⟨g,0,none⟩) 2 cap) rfl (by kernel_rfl) (by kernel_rfl) (by kernel_rfl) (fun _ _ _ h=>h) (Or.inl ⟨by kernel_rfl,fun w0 _=>by kernel_rfl⟩) hS0 ?_
 refine wpAnyH_take (i:=2) (v:= .pointer (some ⟨g,0,none⟩)) rfl (by kernel_rfl) (by kernel_rfl) (by kernel_rfl) (fun _ _ _ h=>h) (Or.inl ⟨by kernel_rfl,fun w0 _=>by kernel_rfl⟩) hS0 ?_
 refine wpAnyH_take (i:=3) (v:=(yOV cx gx x xo xc)) rfl (by kernel_rfl) (by kernel_rfl) (by kernel_rfl) (fun _ _ _ h=>h) (Or.inl ⟨by kernel_rfl,fun w0 hw0=>fy 76 (.tmp 8) rfl g 0 (by kernel_rfl) _ _ hw0.2.1 underlying76 rfl (by kernel_rfl)⟩) hS0 ?_
 refine wpAnyH_take (i:=4) (v:= .slice (some ⟨g,0,none⟩) 2 cap) rfl (by kernel_rfl) (by kernel_rfl) (by kernel_rfl) (fun _ _ _ h=>h) (Or.inl ⟨by kernel_rfl,fun w0 _=>by kernel_rfl⟩) hS0 ?_
 refine wpAnyH_take (i:=5) (v:= .pointer (some ⟨g,5,none⟩)) rfl (by kernel_rfl) (by kernel_rfl) (by kernel_rfl) (fun _ _ _ h=>h) (Or.inl ⟨by kernel_rfl,fun w0 _=>by kernel_rfl⟩) hS0 ?_
 refine wpAnyH_take (i:=6) (v:=(yOV cy gy y yo yc)) rfl (by kernel_rfl) (by kernel_rfl) (by kernel_rfl) (fun _ _ _ h=>h) (Or.inl ⟨by kernel_rfl,fun w0 hw0=>fy 76 (.tmp 11) rfl g 5 (by kernel_rfl) _ _ hw0.2.2 underlying76 rfl (by kernel_rfl)⟩) hS0 ?_
 refine wpAnyH_ready (rs:=[7]) (by kernel_rfl) (by simp) ?_;refine AllReadyH.cons rfl (fun K hK=> ?_) AllReadyH.nil
 go_simp
 refine(HS.out _ b1).mono ?_;rintro z w2 ⟨u,rfl,q2,b2⟩;obtain⟨ro,rc,hu⟩:=q2.shape;subst hu;have d2:=d1.l b2;have o2:=o1.l b2;have b02:=aa b1 b2;have s0:=aC r0 b2;have s1:=aC r1 b2;refine hK.out _ _ ⟨d2.range,s0,s1⟩ (fun hS7=> ?_)
 clear hK K d1 o1 b1 r0 r1 b2 HS;have bu:But (w.heap.size+1) w2 (w2.setCells (w.heap.size+1) 0 (yOL c gg t ro rc)):=de _ _ _ _;have bR:=bu.below b02 (by omega);have rR:=bu.rd q2 (aX q2 o2 (by simp));have hth:w2.there (w.heap.size+1) 0 5:=dD o2;have hl:=run_loadVar_mid (P:=Tryz.prog) _ (w.heap.size+1) 0 76 (yOL c gg t ro rc) _ (World.rangeAt_setCells_same w2 (w.heap.size+1) 0 (yOL c gg t ro rc) hth) underlying76 rfl (by kernel_rfl);have hg:g≠w.heap.size+1:=by omega
 have HH:Hid (_∧_∧_):=⟨hl,rR,bR⟩;refine wpAnyH_take (i:=8) (v:=(yOV c gg t ro rc)) rfl (by kernel_rfl) (by kernel_rfl) (by kernel_rfl) (fun _ _ _ h=>h) (Or.inl ⟨by kernel_rfl,fun w0 _=>by go_simp⟩) hS7 ?_
 refine wpAnyH_take (i:=9) (v:=yi fl) rfl (by kernel_rfl) (by kernel_rfl) (by kernel_rfl) (fun _ _ _ h=>h) (Or.inl ⟨by kernel_rfl,fun w0 _=>by go_simp⟩) hS7 ?_
 refine wpAnyH_ready (rs:=[10]) (by kernel_rfl) (by simp) ?_;refine AllReadyH.cons rfl (fun K hK=> ?_) AllReadyH.nil
 rw[if_pos (by kernel_rfl)];refine wp_store_mid 76 (.tmp 4) (.tmp 14) rfl (w.heap.size+1) 0 (yOA c gg t ro rc) (by kernel_rfl) (by kernel_rfl) hth (by kernel_rfl) (by simp[Value.oneCell']) ?_;refine hK.out _ _ ⟨(bu.loc d2 (by omega)).range,World.rangeAt_setCells_apart s0 _ _ _ (.inl hg),World.rangeAt_setCells_apart s1 _ _ _ (.inl hg)⟩ (fun hS10=> ?_)
 clear hK K;refine wpAnyH_take (i:=11) (v:=yi fl) rfl (by kernel_rfl) (by kernel_rfl) (by kernel_rfl) (fun _ _ _ h=>h) (Or.inl ⟨by kernel_rfl,fun w0 _=>by go_simp⟩) hS10 ?_
 refine wpAnyH_done (by kernel_rfl) ?_ _;obtain⟨hl,rR,bR⟩:=HH.out;clear HH hS0 hS7 hS10 d2 o2 b02 s0 s1 bu hth q2;change Exit.then _ _ _ _ (World.setCells w2 (w.heap.size+1) 0 (yOL c gg t ro rc));generalize World.setCells w2 (w.heap.size+1) 0 (yOL c gg t ro rc)=WE at hl rR bR⊢;simp only[Act.put,List.getElem_toArray,List.getElem_cons_succ,List.getElem_cons_zero,List.setIfInBounds_toArray,List.set_cons_zero,List.set_cons_succ]
 go_wp2
 exact bodyPost_ret (aj results30 rfl rfl hl) rfl ⟨_,rfl,rR,bR⟩
theorem IP (n R D L G fam way c fl f1 e1:Int)(gr gg:Bool)(t:ak)(F m:Nat)(ps:List ByteArray)(pb:Nat)(st:ByteArray)(w:World)(hw1:1≤way)(hw2:way≤5)(hm:ps.length=m)(hm3:m≤3)(hm0:1≤m)(hE:fT n ps=0)(hN:ps.any (dO n)=false)(hp:au w pb 9 (ps.map Value.string))(hfn: ∀args W,(callFunc F args).run Tryz.prog W= .ok (.enter F args) W)
  (HD:yJ 43 #[yi n] (.tuple #[ykV n 0 fam R D L G gr,yi 0]))
  (HO: ∀w1,yB w w1→au w1 pb 9 (ps.map Value.string)→yC 55 #[ykV n 0 fam R D L G gr,.slice (some ⟨pb,0,none⟩) m m] w1 (QH w1 n ps))
  (HF: ∀g cap w1,yB w w1→sF w1 n ps g cap→yC F #[ykV n way fam R D L G gr,.slice (some ⟨g,0,none⟩) m cap] w1 (dU w1 c gg t fl))
  (HA: ∀ro rc w1,yB w w1→Rd w1 .u32 (.slice ro (Dg.dg 4294967296 t.n).length rc) (Dg.dg 4294967296 t.n)→yC 58 #[ykV n way fam R D L G gr,yOV c gg t ro rc,yi fl] w1 (yR w1 (.tuple #[.string st,yi f1,yi e1]))):
  yC 29 #[yi n,yi way,.func (.func F) #[] #[],.slice (some ⟨pb,0,none⟩) m m] w (yR w (.tuple #[.string st,yi f1,yi e1])):=by
 replace HD:Hid _:=HD;replace HO:Hid _:=HO;replace HF:Hid _:=HF;replace HA:Hid _:=HA;have HFn:Hid _:=hfn;clear hfn
 go_enter func29,ntmps29
 go_wp2_with fail
 refine(HD.out _).mono ?_;rintro z w1 ⟨rfl,b1⟩;have al:=af w1 (.cells (ykA n 0 fam R D L G gr) 69);have d1:=ah w1 (ykL n 0 fam R D L G gr) 69;have p1:=(hp.l b1).l al;have hlt:w.heap.size≤w1.heap.size:=b1.size;have b01:=aa b1 al;clear b1 al hp HD
 go_upto_region 4 with fail
 generalize w1.alloc (.cells (ykA n 0 fam R D L G gr) 69)=W1 at d1 p1 b01⊢;generalize w1.heap.size=PD at d1 hlt⊢;obtain⟨x0,x1,x2,x3,x4,x5,x6,x7⟩:=d1.cs8
 go_wp2_with fail
 refine(HO.out _ b01 p1).mono ?_;rintro z w2 hz;have hz':=hz.resolve_right (fun h=>h.1 hE)
 obtain⟨-,v,cs,rfl,hown,hat,b2⟩:=hz';obtain⟨g,cap,hv,hV⟩:=JF (fun h=>by subst h;simp at hm;omega) hown hat
 rw[hm] at hv;subst hv;have hgP:g≠PD:=by
  have h1:=(World.ownsRow.lt hown g rfl).1;have h2:=d1.lt;omega
 have d2:=d1.l b2;have b02:=aa b01 b2;have HNN:Hid (∀w1,sF w1 n ps g cap→yC 56 #[.slice (some ⟨g,0,none⟩) m cap] w1 (yR w1 (.bool false))):=fun w1 h=>by
  have:=wJ n ps g cap w1 h (by omega);rw[hN,hm] at this;exact this
 clear x0 x1 x2 x3 x4 x5 x6 x7 d1 p1 b01 b2 hz hown hat HO hE hN hm;have c1:=d2.c 1 rfl;have f1':=d2.f 1;have d3:au (w2.setCell ⟨PD,1,none⟩ (yi way)) PD 69 (ykL n way fam R D L G gr):=d2.set 1 (yi way);have bu:=ag w2 PD 1 (yi way);have hV3:=hV.off bu d2 (by simp) hgP;have b03:=bu.below b02 hlt
 go_upto_block 0 with fail
 generalize w2.setCell ⟨PD,1,none⟩ (yi way)=W3 at d3 hV3 b03⊢;clear c1 f1' bu d2 b02 hV
 go_wp2_with fail
 refine(HNN.out _ hV3).mono ?_;rintro z w4 ⟨rfl,b4⟩;have d4:=d3.l b4;have hV4:=hV3.l b4;have b04:=aa b03 b4;clear d3 hV3 b03 b4 HNN
 go_upto_region 11 with fail
 have bW:yB w4 w4.drew:=(Below.refl _ _).drew;have d5:=d4.l bW;have hV5:=hV4.l bW;have b05:=aa b04 bW;clear bW d4 hV4 b04;refine wp_region_held_drew (S:=fun wq=>wq.rangeAt PD 0 (ykL n way fam R D L G gr)) (by kernel_rfl) d5.range (fun hS0=> ?_)
 generalize w4.drew=WD at d5 hV5 b05 hS0⊢;refine wpAnyH_take (i:=0) (v:=(ykV n way fam R D L G gr)) rfl (by kernel_rfl) (by kernel_rfl) (by kernel_rfl) (fun _ _ _ h=>h) (Or.inl ⟨by kernel_rfl,fun w0 hw0=>fy 69 (.tmp 11) rfl PD 0 (by kernel_rfl) _ _ hw0 underlying69 rfl (by kernel_rfl)⟩) hS0 ?_
 refine wpAnyH_take (i:=1) (v:= .func (.func F) #[] #[]) rfl (by kernel_rfl) (by kernel_rfl) (by kernel_rfl) (fun _ _ _ h=>h) (Or.inl ⟨by kernel_rfl,fun w0 _=>by kernel_rfl⟩) hS0 ?_
 refine wpAnyH_take (i:=2) (v:=(ykV n way fam R D L G gr)) rfl (by kernel_rfl) (by kernel_rfl) (by kernel_rfl) (fun _ _ _ h=>h) (Or.inl ⟨by kernel_rfl,fun w0 hw0=>fy 69 (.tmp 11) rfl PD 0 (by kernel_rfl) _ _ hw0 underlying69 rfl (by kernel_rfl)⟩) hS0 ?_
 refine wpAnyH_take (i:=3) (v:= .slice (some ⟨g,0,none⟩) m cap) rfl (by kernel_rfl) (by kernel_rfl) (by kernel_rfl) (fun _ _ _ h=>h) (Or.inl ⟨by kernel_rfl,fun w0 _=>by kernel_rfl⟩) hS0 ?_
 refine wpAnyH_ready (rs:=[4]) (by kernel_rfl) (by simp) ?_;refine AllReadyH.cons rfl (fun K hK=> ?_) AllReadyH.nil
 have hfn:=HFn.out
 go_simp
 refine(HF.out _ _ _ b05 hV5).mono ?_;rintro z w6 ⟨u,rfl,q6,b6⟩;obtain⟨ro,rc,hu⟩:=q6.shape;subst hu;have d6:=d5.l b6;have b06:=aa b05 b6;refine hK.out _ _ d6.range (fun hS4=> ?_)
 clear hK K d5 hV5 b05 b6;refine wpAnyH_take (i:=5) (v:=(yOV c gg t ro rc)) rfl (by kernel_rfl) (by kernel_rfl) (by kernel_rfl) (fun _ _ _ h=>h) (Or.inl ⟨by kernel_rfl,fun w0 _=>by go_simp⟩) hS4 ?_
 refine wpAnyH_take (i:=6) (v:=yi fl) rfl (by kernel_rfl) (by kernel_rfl) (by kernel_rfl) (fun _ _ _ h=>h) (Or.inl ⟨by kernel_rfl,fun w0 _=>by go_simp⟩) hS4 ?_
 refine wpAnyH_ready (rs:=[7]) (by kernel_rfl) (by simp) ?_;refine AllReadyH.cons rfl (fun K hK=> ?_) AllReadyH.nil
 go_simp
 refine(HA.out _ _ _ b06 q6).mono ?_;rintro z w7 ⟨rfl,b7⟩;have d7:=d6.l b7;have b07:=aa b06 b7;refine hK.out _ _ d7.range (fun hS7=> ?_)
 clear hK K d6 b06 b7 q6;refine wpAnyH_take (i:=8) (v:= .string st) rfl (by kernel_rfl) (by kernel_rfl) (by kernel_rfl) (fun _ _ _ h=>h) (Or.inl ⟨by kernel_rfl,fun w0 _=>by go_simp⟩) hS7 ?_
 refine wpAnyH_take (i:=9) (v:=yi f1) rfl (by kernel_rfl) (by kernel_rfl) (by kernel_rfl) (fun _ _ _ h=>h) (Or.inl ⟨by kernel_rfl,fun w0 _=>by go_simp⟩) hS7 ?_
 refine wpAnyH_take (i:=10) (v:=yi e1) rfl (by kernel_rfl) (by kernel_rfl) (by kernel_rfl) (fun _ _ _ h=>h) (Or.inl ⟨by kernel_rfl,fun w0 _=>by go_simp⟩) hS7 ?_
 refine wpAnyH_take (i:=11) (v:= .string st) rfl (by kernel_rfl) (by kernel_rfl) (by kernel_rfl) (fun _ _ _ h=>h) (Or.inl ⟨by kernel_rfl,fun w0 _=>by go_simp⟩) hS7 ?_
 refine wpAnyH_take (i:=12) (v:=yi f1) rfl (by kernel_rfl) (by kernel_rfl) (by kernel_rfl) (fun _ _ _ h=>h) (Or.inl ⟨by kernel_rfl,fun w0 _=>by go_simp⟩) hS7 ?_
 refine wpAnyH_take (i:=13) (v:=yi e1) rfl (by kernel_rfl) (by kernel_rfl) (by kernel_rfl) (fun _ _ _ h=>h) (Or.inl ⟨by kernel_rfl,fun w0 _=>by go_simp⟩) hS7 ?_
 simp only[Act.put,List.getElem_toArray,List.getElem_cons_succ,List.getElem_cons_zero,List.setIfInBounds_toArray,List.set_cons_zero,List.set_cons_succ];refine wpAnyH_done (by kernel_rfl) ?_ _
 go_wp2
 go_ret3
 exact⟨rfl,b07⟩
end Go.Proofs.YtbdokgamhinajaaGreatDoor
