/-
  Texts laid together: As6, As7, As8.
-/
import Derived.Test.YtbdokgamhinajaaGreatDoorSm31
import Derived.Test.YtbdokgamhinajaaGreatDoorSm30
set_option maxRecDepth 100000
set_option maxHeartbeats 12800000
namespace Go.Proofs.YtbdokgamhinajaaGreatDoor
open _root_.Go.Proofs.Tryz
open Go.RowKit
def Kx (w:World)(s:Bool)(N M:Nat)(e:Int)(z:Ending)(w':World):Prop:=
 ∃no nc mo mc,z= .returned (.agg #[.bool s,.slice no (Dg.dg 4294967296 N).length nc,.slice mo (Dg.dg 4294967296 M).length mc,.int .i64 e])∧Rd w' .u32 (.slice no (Dg.dg 4294967296 N).length nc) (Dg.dg 4294967296 N)∧Rd w' .u32 (.slice mo (Dg.dg 4294967296 M).length mc) (Dg.dg 4294967296 M)∧Below w.heap.size w w'
theorem MU:Dg.dg 4294967296 1=[1]:=rfl
theorem Ct (t k:ak)(to0:Option Addr)(tc:Nat)(e2 dn:Int)(N M:Nat)(w:World)(hmx:min (max k.e (-20000)) 20000=e2)
  (HK: ∀w1,yB w w1→yC 144 #[yDV t to0 tc,yi 128] w1 fun z w'=> ∃v,z= .returned (ydV k.s v k.e)∧Rd w' .u32 v (Dg.dg 4294967296 k.n)∧yB w1 w')
  (HU:e2<k.e→IntKind.i64.wrap (k.e-e2)=dn∧M=1∧ ∀ko kc w1,Rd w1 .u32 (yT ko k.n kc) (Dg.dg 4294967296 k.n)→yC 130 #[yT ko k.n kc,yi dn] w1 (Num w1 N))
  (HV:k.e≤e2→IntKind.i64.wrap (e2-k.e)=dn∧N=k.n∧ ∀q w1,w1.cell? ⟨q,0,none⟩=some (.int .u32 1)→yC 130 #[.slice (some ⟨q,0,none⟩) 1 1,yi dn] w1 (Num w1 M)):
  yC 102 #[yDV t to0 tc] w (Kx w k.s N M e2):=by
 replace HK:Hid _:=HK;replace HU:Hid _:=HU;replace HV:Hid _:=HV;have ax:=af w (.cells (yDA t to0 tc) 74);have ar:=af (w.alloc (.cells (yDA t to0 tc) 74)) (.cells (yrA false yN yN 0) 45);have x0:=(ah w (yDL t to0 tc) 74).l ar;have r0:=ah (w.alloc (.cells (yDA t to0 tc) 74)) (yrL false yN yN 0) 45;rw[World.size_alloc] at r0;have b0:=aa ax ar;clear ax ar
 go_enter func102,ntmps102
 go_upto_region 1 with fail
 generalize(w.alloc (.cells (yDA t to0 tc) 74)).alloc (.cells (yrA false yN yN 0) 45)=W0 at x0 r0 b0⊢;obtain⟨y0,y1,y2⟩:=x0.cs3
 go_wp2_with fail
 refine(HK.out _ b0).mono ?_;rintro z w1 ⟨v,rfl,q1,b1⟩;obtain⟨ko,kc,hv⟩:=q1.shape;subst hv;have x1:=x0.l b1;have r1:=r0.l b1;have b01:=aa b0 b1;clear y0 y1 y2 x0 r0 b0 b1 HK;obtain⟨z0,z1,z2⟩:=x1.cs3;have f0:=x1.f 0;have f1:=x1.f 1;have f2:=x1.f 2;have x2:au (((w1.setCell ⟨w.heap.size,0,none⟩ (.bool k.s)).setCell ⟨w.heap.size,1,none⟩ (yT ko k.n kc)).setCell ⟨w.heap.size,2,none⟩ (yi k.e)) w.heap.size 74 (yDL k ko kc):=(((x1.set 0 (.bool k.s)).set 1 (yT ko k.n kc)).set 2 (yi k.e));have bu:=((ag w1 w.heap.size 0 (.bool k.s)).trans (ag _ w.heap.size 1 (yT ko k.n kc))).trans (ag _ w.heap.size 2 (yi k.e));have r2:=bu.loc r1 (by omega);have q2:=bu.rd q1 (aX q1 x1 (by simp));have b2:=bu.below b01 (Nat.le_refl _)
 go_upto_region 2 with fail
 generalize(((w1.setCell ⟨w.heap.size,0,none⟩ (.bool k.s)).setCell ⟨w.heap.size,1,none⟩ (yT ko k.n kc)).setCell ⟨w.heap.size,2,none⟩ (yi k.e))=W2 at x2 r2 q2 b2⊢;clear z0 z1 z2 f0 f1 f2 bu x1 r1 b01 q1;obtain⟨y0,y1,y2⟩:=x2.cs3;have HD:Hid (yJ 115 #[yDV k ko kc] (yT ko k.n kc)):=fun w1=>cN _ _ _ _ _ w1
 go_wp2_with fail
 refine(HD.out _).mono ?_;rintro z w3 ⟨rfl,b3⟩;have al:=af w3 (.cells #[.int .u32 1] 148);have ln:=ah w3 [.int .u32 1] 148;have x4:=(x2.l b3).l al;have r4:=(r2.l b3).l al;have q4:=(q2.l b3).l al;have b4:=aa (aa b2 b3) al;clear y0 y1 y2 x2 r2 q2 b2 b3 al HD
 go_upto_region 3 with fail
 generalize w3.alloc (.cells #[.int .u32 1] 148)=W4 at ln x4 r4 q4 b4⊢;generalize w3.heap.size=Q at ln⊢;obtain⟨y0,y1,y2⟩:=x4.cs3;have hone:=ln.c 0 rfl
 by_cases hc:e2<k.e
 ·obtain⟨h1,h2,h3⟩:=HU.out hc
  have H3:Hid _:=h3;subst h2;clear HU HV h3
  go_wp2_with fail
  refine(H3.out _ _ _ q4).mono ?_;rintro z w5 ⟨u,rfl,o5,b5⟩;obtain⟨no,nc,hu⟩:=o5.rd.shape;subst hu;have r5:=r4.l b5;have x5:=x4.l b5;have n5:=o5.rd;have hone5:=(ln.l b5).c 0 rfl;have m5:Rd w5 .u32 (.slice (some ⟨Q,0,none⟩) 1 1) (Dg.dg 4294967296 1):=by rw[MU];exact xD hone5
  have b05:=aa b4 b5;clear y0 y1 y2 hone hone5 x4 r4 q4 b4 b5 o5 ln H3;obtain⟨y0,y1,y2⟩:=x5.cs3;have h1l:(Dg.dg 4294967296 1).length=1:=by rw[MU];rfl
  have cR:au ((((w5.setCell ⟨w.heap.size+1,0,none⟩ (.bool k.s)).setCell ⟨w.heap.size+1,1,none⟩ (yT no N nc)).setCell ⟨w.heap.size+1,2,none⟩ (.slice (some ⟨Q,0,none⟩) 1 1)).setCell ⟨w.heap.size+1,3,none⟩ (yi e2)) (w.heap.size+1) 45 (yrL k.s (yT no N nc) (.slice (some ⟨Q,0,none⟩) 1 1) e2):=((((r5.set 0 (.bool k.s)).set 1 (yT no N nc)).set 2 (.slice (some ⟨Q,0,none⟩) 1 1)).set 3 (yi e2));have bu:=(((ag w5 (w.heap.size+1) 0 (.bool k.s)).trans (ag _ (w.heap.size+1) 1 (yT no N nc))).trans (ag _ (w.heap.size+1) 2 (.slice (some ⟨Q,0,none⟩) 1 1))).trans (ag _ (w.heap.size+1) 3 (yi e2));have bR:=bu.below b05 (by omega);have rN:=bu.rd n5 (aX n5 r5 (by simp));have rM:=bu.rd m5 (aX m5 r5 (by simp));have hl:=run_loadVar_mid (P:=Tryz.prog) _ (w.heap.size+1) 0 45 (yrL k.s (yT no N nc) (.slice (some ⟨Q,0,none⟩) 1 1) e2) _ cR.range underlying45 rfl (by kernel_rfl);have HH:Hid (_∧_∧_∧_):=⟨hl,rN,rM,bR⟩;obtain⟨z0,z1,z2,z3⟩:=r5.cs4;have fz0:=r5.f 0;have fz1:=r5.f 1;have fz2:=r5.f 2;have fz3:=r5.f 3;clear hl bR bu cR rN rM;clear r5 b05 n5 m5 x5
  go_wp2
  obtain⟨hl,rN,rM,bR⟩:=HH.out;refine bodyPost_ret (br results102 rfl hl) rfl ⟨no,nc,some ⟨Q,0,none⟩,1, ?_,rN, ?_,bR⟩
  ·rw[h1l]
  ·rw[h1l]
   exact rM
 ·obtain⟨h1,h2,h3⟩:=HV.out (by omega)
  have H3:Hid _:=h3;subst h2;clear HU HV h3
  go_wp2_with fail
  refine(H3.out _ _ hone).mono ?_;rintro z w5 ⟨u,rfl,o5,b5⟩;obtain⟨mo,mc,hu⟩:=o5.rd.shape;subst hu;have r5:=r4.l b5;have x5:=x4.l b5;have n5:=q4.l b5;have m5:=o5.rd;have b05:=aa b4 b5;clear y0 y1 y2 hone x4 r4 q4 b4 b5 o5 ln H3;obtain⟨y0,y1,y2⟩:=x5.cs3;have cR:au ((((w5.setCell ⟨w.heap.size+1,0,none⟩ (.bool k.s)).setCell ⟨w.heap.size+1,1,none⟩ (yT ko k.n kc)).setCell ⟨w.heap.size+1,2,none⟩ (yT mo M mc)).setCell ⟨w.heap.size+1,3,none⟩ (yi e2)) (w.heap.size+1) 45 (yrL k.s (yT ko k.n kc) (yT mo M mc) e2):=((((r5.set 0 (.bool k.s)).set 1 (yT ko k.n kc)).set 2 (yT mo M mc)).set 3 (yi e2));have bu:=(((ag w5 (w.heap.size+1) 0 (.bool k.s)).trans (ag _ (w.heap.size+1) 1 (yT ko k.n kc))).trans (ag _ (w.heap.size+1) 2 (yT mo M mc))).trans (ag _ (w.heap.size+1) 3 (yi e2));have bR:=bu.below b05 (by omega);have rN:=bu.rd n5 (aX n5 r5 (by simp));have rM:=bu.rd m5 (aX m5 r5 (by simp));have hl:=run_loadVar_mid (P:=Tryz.prog) _ (w.heap.size+1) 0 45 (yrL k.s (yT ko k.n kc) (yT mo M mc) e2) _ cR.range underlying45 rfl (by kernel_rfl);have HH:Hid (_∧_∧_∧_):=⟨hl,rN,rM,bR⟩;obtain⟨z0,z1,z2,z3⟩:=r5.cs4;have fz0:=r5.f 0;have fz1:=r5.f 1;have fz2:=r5.f 2;have fz3:=r5.f 3;clear hl bR bu cR rN rM;clear r5 b05 n5 m5 x5
  go_wp2
  obtain⟨hl,rN,rM,bR⟩:=HH.out;exact bodyPost_ret (br results102 rfl hl) rfl ⟨_,_,_,_,rfl,rN,rM,bR⟩
theorem eI {w:World}{b:Nat}{ty:TypeId}{vs cs:List Value}(h:au w b ty vs)(o n:Nat)(e:(vs.drop o).take n=cs):w.rangeAt b o cs:=fun j v hj=>by
 subst e;refine h.c (o+j) ?_;rw[List.getElem?_take] at hj
 split at hj
 ·rw[List.getElem?_drop] at hj
  exact hj
 ·cases hj
theorem El (n wy fam R D L G fl:Int)(gr gx:Bool)(t:ak)(to0:Option Addr)(tc:Nat)(s:Bool)(N M:Nat)(e:Int)(ps:Bool)(pd:Nat)(pp:Int)(ex ov un:Bool)(c:Int)(g:Bool)(m:Nat)(q fl2 flo:Int)(st:ByteArray)(f1 e1:Int)(w:World)
  (hor:bits .or .i64 fl fl2=flo)
  (HQ: ∀w1,yB w w1→yC 102 #[yDV t to0 tc] w1 (Kx w1 s N M e))
  (HRd: ∀no nc mo mc w1,yB w w1→Rd w1 .u32 (yT no N nc) (Dg.dg 4294967296 N)→Rd w1 .u32 (yT mo M mc) (Dg.dg 4294967296 M)→yC 44 #[yrV s (yT no N nc) (yT mo M mc) e,ygV R D L G gr,yi wy] w1 fun z w'=> ∃po pc,z= .returned (.tuple #[ypV ps (yT po pd pc) pp ex ov un,yi 0])∧Rd w' .u32 (yT po pd pc) (Dg.dg 4294967296 pd)∧yB w1 w')
  (HSt: ∀po pc w1,yB w w1→Rd w1 .u32 (yT po pd pc) (Dg.dg 4294967296 pd)→yC 46 #[ykV n wy fam R D L G gr,ypV ps (yT po pd pc) pp ex ov un] w1 (B6 w1 c g m q fl2))
  (HEn: ∀vo vc w1,yB w w1→Rd w1 .u32 (yT vo m vc) (Dg.dg 4294967296 m)→yC 45 #[ykV n wy fam R D L G gr,yvV c g (yT vo m vc) q,yi flo] w1 (yR w1 (.tuple #[.string st,yi f1,yi e1]))):
  yC 58 #[ykV n wy fam R D L G gr,yOV 2 gx t to0 tc,yi fl] w (yR w (.tuple #[.string st,yi f1,yi e1])):=by
 replace HQ:Hid _:=HQ;replace HRd:Hid _:=HRd;replace HSt:Hid _:=HSt;replace HEn:Hid _:=HEn;have a1:=af w (.cells (ykA n wy fam R D L G gr) 69);have a2:=af (w.alloc (.cells (ykA n wy fam R D L G gr) 69)) (.cells (yOA 2 gx t to0 tc) 76);have d0:=(ah w (ykL n wy fam R D L G gr) 69).l a2;have x0:=ah (w.alloc (.cells (ykA n wy fam R D L G gr) 69)) (yOL 2 gx t to0 tc) 76;rw[World.size_alloc] at x0;have b0:=aa a1 a2;clear a1 a2
 go_enter func58,ntmps58
 go_upto_region 1 with fail
 generalize(w.alloc (.cells (ykA n wy fam R D L G gr) 69)).alloc (.cells (yOA 2 gx t to0 tc) 76)=W0 at d0 x0 b0⊢;have y0:=x0.c 0 rfl
 go_upto_region 3 with fail
 have bW:yB W0 W0.drew:=(Below.refl _ _).drew;have d1:=d0.l bW;have x1:=x0.l bW;have b1:=aa b0 bW;clear bW d0 x0 b0 y0;refine wp_region_held_drew (S:=(fun wq=>wq.rangeAt (w.heap.size+1) 2 (yDL t to0 tc)∧wq.rangeAt w.heap.size 3 (ygL R D L G gr)∧wq.cell? ⟨w.heap.size,1,none⟩=some (yi wy))) (by kernel_rfl) ⟨fun j v hj=>eI x1 2 3 rfl j v hj,fun j v hj=>eI d1 3 5 rfl j v hj,d1.c 1 rfl⟩ (fun hS0=> ?_)
 generalize W0.drew=WD at d1 x1 b1 hS0⊢;refine tq 0 (.pointer (some ⟨w.heap.size+1,2,none⟩)) rfl (fun w0 _=>by kernel_rfl) hS0 ?_
 refine tq 1 ((yDV t to0 tc)) rfl (fun w0 hw0=>fy 74 (.tmp 18) rfl (w.heap.size+1) 2 (by kernel_rfl) _ _ hw0.1 underlying74 rfl (by kernel_rfl)) hS0 ?_
 refine tq 3 (.pointer (some ⟨w.heap.size,3,none⟩)) rfl (fun w0 _=>by kernel_rfl) hS0 ?_
 refine tq 4 ((ygV R D L G gr)) rfl (fun w0 hw0=>fy 48 (.tmp 21) rfl w.heap.size 3 (by kernel_rfl) _ _ hw0.2.1 underlying48 rfl (by kernel_rfl)) hS0 ?_
 refine tq 5 (.pointer (some ⟨w.heap.size,1,none⟩)) rfl (fun w0 _=>by kernel_rfl) hS0 ?_
 refine tq 6 (yi wy) rfl (fun w0 hw0=>gU 3 (.tmp 23) rfl w.heap.size 1 (by kernel_rfl) _ _ underlying3 rfl hw0.2.2) hS0 ?_
 refine wpAnyH_ready (rs:=[2,11]) (by kernel_rfl) (by simp) ?_;refine AllReadyH.cons rfl (fun K hK=> ?_) (AllReadyH.cons rfl (fun K hK=> ?_) AllReadyH.nil)
 ·skip
  go_simp
  refine(HQ.out _ b1).mono ?_;rintro z wq ⟨no,nc,mo,mc,rfl,rn,rm,bq⟩;have d11:=d1.l bq;have x11:=x1.l bq;have b11:=aa b1 bq;refine hK.out _ _ ⟨fun j v hj=>eI x11 2 3 rfl j v hj,fun j v hj=>eI d11 3 5 rfl j v hj,d11.c 1 rfl⟩ (fun hS11=> ?_)
  clear hK K bq d1 x1 b1;refine wpAnyH_ready (rs:=[7,11]) (by kernel_rfl) (by simp) ?_;refine AllReadyH.cons rfl (fun K hK=> ?_) (AllReadyH.cons rfl (fun K hK=> ?_) AllReadyH.nil)
  ·skip
   go_simp
   refine(HRd.out _ _ _ _ _ b11 rn rm).mono ?_;rintro z wp ⟨po,pc,rfl,rp,bp⟩;have d12:=d11.l bp;have x12:=x11.l bp;have b12:=aa b11 bp;refine hK.out _ _ ⟨fun j v hj=>eI x12 2 3 rfl j v hj,fun j v hj=>eI d12 3 5 rfl j v hj,d12.c 1 rfl⟩ (fun hS12=> ?_)
   clear hK K bp d11 x11 b11 rn rm;refine tq 8 (.tuple #[ypV ps (yT po pd pc) pp ex ov un,yi 0]) rfl (fun w0 _=>by go_simp) hS12 ?_
   refine tq 9 ((ypV ps (yT po pd pc) pp ex ov un)) rfl (fun w0 _=>by go_simp) hS12 ?_
   refine tq 10 (yi 0) rfl (fun w0 _=>by go_simp) hS12 ?_
   refine wpAnyH_ready (rs:=[11]) (by kernel_rfl) (by simp) ?_;refine AllReadyH.cons rfl (fun K hK=> ?_) AllReadyH.nil
   go_simp
   have al:=af wp (.cells (ypA false yN 0 false false false) 95);have pn:=ah wp (ypL false yN 0 false false false) 95;have hpn:w.heap.size+1<wp.heap.size:=x12.lt;have d13:=d12.l al;have x13:=x12.l al;have b13:=aa b12 al;have rp_13:=rp.l al;refine hK.out _ _ ⟨fun j v hj=>eI x13 2 3 rfl j v hj,fun j v hj=>eI d13 3 5 rfl j v hj,d13.c 1 rfl⟩ (fun hS13=> ?_)
   clear hK K al d12 x12 b12 rp;generalize wp.alloc (.cells (ypA false yN 0 false false false) 95)=WN13 at d13 x13 b13 pn hS13 rp_13⊢;generalize wp.heap.size=PQ at pn hpn⊢;refine wpAnyH_ready (rs:=[12]) (by kernel_rfl) (by simp) ?_;refine AllReadyH.cons rfl (fun K hK=> ?_) AllReadyH.nil
   rw[if_pos (by kernel_rfl)];have hth:WN13.there PQ 0 6:=dD pn;refine wp_store_mid 95 (.tmp 9) (.tmp 26) rfl PQ 0 (ypA ps (yT po pd pc) pp ex ov un) (by kernel_rfl) (by kernel_rfl) hth (by kernel_rfl) (by simp[Value.oneCell']) ?_;have bu:But PQ WN13 (WN13.setCells PQ 0 (ypL ps (yT po pd pc) pp ex ov un)):=de _ _ _ _;have dS:=bu.loc d13 (by omega);have xS:=bu.loc x13 (by omega);have bS:=bu.below b13 (by omega);have rS:=bu.rd rp_13 (aX rp_13 pn (by simp));have pS:au (WN13.setCells PQ 0 (ypL ps (yT po pd pc) pp ex ov un)) PQ 95 (ypL ps (yT po pd pc) pp ex ov un):=((((((pn.set 0 (.bool ps)).set 1 (yT po pd pc)).set 2 (yi pp)).set 3 (.bool ex)).set 4 (.bool ov)).set 5 (.bool un));refine hK.out _ _ ⟨fun j v hj=>eI xS 2 3 rfl j v hj,fun j v hj=>eI dS 3 5 rfl j v hj,dS.c 1 rfl⟩ (fun hSS=> ?_)
   clear hK K bu hth d13 x13 b13 pn rp_13;refine tq 13 (yi 0) rfl (fun w0 _=>by go_simp) hSS ?_
   refine wpAnyH_done (by kernel_rfl) ?_ _;clear hSS;change Exit.then _ _ _ _ (World.setCells WN13 PQ 0 (ypL ps (yT po pd pc) pp ex ov un));generalize World.setCells WN13 PQ 0 (ypL ps (yT po pd pc) pp ex ov un)=WS at dS xS bS rS pS⊢;simp only[Act.put,List.getElem_toArray,List.getElem_cons_succ,List.getElem_cons_zero,List.setIfInBounds_toArray,List.set_cons_zero,List.set_cons_succ];obtain⟨y0,y1,y2,y3,y4,y5,y6,y7⟩:=dS.cs8;obtain⟨z0,z1,z2,z3,z4,z5⟩:=pS.cs6
   go_wp2_with fail
   refine(HSt.out _ _ _ bS rS).mono ?_;rintro z wt ⟨u,rfl,rt,bt⟩;obtain⟨vo,vc,hu⟩:=rt.shape;subst hu;have al:=af wt (.cells (yvA c g (yT vo m vc) q) 100);have vt:=ah wt (yvL c g (yT vo m vc) q) 100;have dt:=(dS.l bt).l al;have rv:=rt.l al;have b9:=aa (aa bS bt) al;clear y0 y1 y2 y3 y4 y5 y6 y7 z0 z1 z2 z3 z4 z5 dS xS bS rS pS bt al rt
   go_upto_region 7 with fail
   generalize wt.alloc (.cells (yvA c g (yT vo m vc) q) 100)=WT at vt dt rv b9⊢;generalize wt.heap.size=PV at vt⊢;obtain⟨y0,y1,y2,y3,y4,y5,y6,y7⟩:=dt.cs8;obtain⟨z0,z1,z2,z3⟩:=vt.cs4
   go_wp2_with fail
   refine(HEn.out _ _ _ b9 rv).mono ?_;rintro z wz ⟨rfl,bz⟩;have bE:=aa b9 bz
   go_wp2
   go_ret3
   exact⟨rfl,bE⟩
  ·skip
   go_simp
   have al:=af wq (.cells (ypA false yN 0 false false false) 95);have pn:=ah wq (ypL false yN 0 false false false) 95;have hpn:w.heap.size+1<wq.heap.size:=x11.lt;have d12:=d11.l al;have x12:=x11.l al;have b12:=aa b11 al;have rn_12:=rn.l al;have rm_12:=rm.l al;refine hK.out _ _ ⟨fun j v hj=>eI x12 2 3 rfl j v hj,fun j v hj=>eI d12 3 5 rfl j v hj,d12.c 1 rfl⟩ (fun hS12=> ?_)
   clear hK K al d11 x11 b11 rn rm;generalize wq.alloc (.cells (ypA false yN 0 false false false) 95)=WN12 at d12 x12 b12 pn hS12 rn_12 rm_12⊢;generalize wq.heap.size=PQ at pn hpn⊢;refine wpAnyH_ready (rs:=[7]) (by kernel_rfl) (by simp) ?_;refine AllReadyH.cons rfl (fun K hK=> ?_) AllReadyH.nil
   go_simp
   refine(HRd.out _ _ _ _ _ b12 rn_12 rm_12).mono ?_;rintro z wp ⟨po,pc,rfl,rp,bp⟩;have d13:=d12.l bp;have x13:=x12.l bp;have b13:=aa b12 bp;have p13:=pn.l bp;refine hK.out _ _ ⟨fun j v hj=>eI x13 2 3 rfl j v hj,fun j v hj=>eI d13 3 5 rfl j v hj,d13.c 1 rfl⟩ (fun hS13=> ?_)
   clear hK K bp d12 x12 b12 pn rn_12 rm_12;refine tq 8 (.tuple #[ypV ps (yT po pd pc) pp ex ov un,yi 0]) rfl (fun w0 _=>by go_simp) hS13 ?_
   refine tq 9 ((ypV ps (yT po pd pc) pp ex ov un)) rfl (fun w0 _=>by go_simp) hS13 ?_
   refine tq 10 (yi 0) rfl (fun w0 _=>by go_simp) hS13 ?_
   refine wpAnyH_ready (rs:=[12]) (by kernel_rfl) (by simp) ?_;refine AllReadyH.cons rfl (fun K hK=> ?_) AllReadyH.nil
   rw[if_pos (by kernel_rfl)];have hth:wp.there PQ 0 6:=dD p13;refine wp_store_mid 95 (.tmp 9) (.tmp 26) rfl PQ 0 (ypA ps (yT po pd pc) pp ex ov un) (by kernel_rfl) (by kernel_rfl) hth (by kernel_rfl) (by simp[Value.oneCell']) ?_;have bu:But PQ wp (wp.setCells PQ 0 (ypL ps (yT po pd pc) pp ex ov un)):=de _ _ _ _;have dS:=bu.loc d13 (by omega);have xS:=bu.loc x13 (by omega);have bS:=bu.below b13 (by omega);have rS:=bu.rd rp (aX rp p13 (by simp));have pS:au (wp.setCells PQ 0 (ypL ps (yT po pd pc) pp ex ov un)) PQ 95 (ypL ps (yT po pd pc) pp ex ov un):=((((((p13.set 0 (.bool ps)).set 1 (yT po pd pc)).set 2 (yi pp)).set 3 (.bool ex)).set 4 (.bool ov)).set 5 (.bool un));refine hK.out _ _ ⟨fun j v hj=>eI xS 2 3 rfl j v hj,fun j v hj=>eI dS 3 5 rfl j v hj,dS.c 1 rfl⟩ (fun hSS=> ?_)
   clear hK K bu hth d13 x13 b13 p13 rp;refine tq 13 (yi 0) rfl (fun w0 _=>by go_simp) hSS ?_
   refine wpAnyH_done (by kernel_rfl) ?_ _;clear hSS;change Exit.then _ _ _ _ (World.setCells wp PQ 0 (ypL ps (yT po pd pc) pp ex ov un));generalize World.setCells wp PQ 0 (ypL ps (yT po pd pc) pp ex ov un)=WS at dS xS bS rS pS⊢;simp only[Act.put,List.getElem_toArray,List.getElem_cons_succ,List.getElem_cons_zero,List.setIfInBounds_toArray,List.set_cons_zero,List.set_cons_succ];obtain⟨y0,y1,y2,y3,y4,y5,y6,y7⟩:=dS.cs8;obtain⟨z0,z1,z2,z3,z4,z5⟩:=pS.cs6
   go_wp2_with fail
   refine(HSt.out _ _ _ bS rS).mono ?_;rintro z wt ⟨u,rfl,rt,bt⟩;obtain⟨vo,vc,hu⟩:=rt.shape;subst hu;have al:=af wt (.cells (yvA c g (yT vo m vc) q) 100);have vt:=ah wt (yvL c g (yT vo m vc) q) 100;have dt:=(dS.l bt).l al;have rv:=rt.l al;have b9:=aa (aa bS bt) al;clear y0 y1 y2 y3 y4 y5 y6 y7 z0 z1 z2 z3 z4 z5 dS xS bS rS pS bt al rt
   go_upto_region 7 with fail
   generalize wt.alloc (.cells (yvA c g (yT vo m vc) q) 100)=WT at vt dt rv b9⊢;generalize wt.heap.size=PV at vt⊢;obtain⟨y0,y1,y2,y3,y4,y5,y6,y7⟩:=dt.cs8;obtain⟨z0,z1,z2,z3⟩:=vt.cs4
   go_wp2_with fail
   refine(HEn.out _ _ _ b9 rv).mono ?_;rintro z wz ⟨rfl,bz⟩;have bE:=aa b9 bz
   go_wp2
   go_ret3
   exact⟨rfl,bE⟩
 ·skip
  go_simp
  have al:=af WD (.cells (ypA false yN 0 false false false) 95);have pn:=ah WD (ypL false yN 0 false false false) 95;have hpn:w.heap.size+1<WD.heap.size:=x1.lt;have d11:=d1.l al;have x11:=x1.l al;have b11:=aa b1 al;refine hK.out _ _ ⟨fun j v hj=>eI x11 2 3 rfl j v hj,fun j v hj=>eI d11 3 5 rfl j v hj,d11.c 1 rfl⟩ (fun hS11=> ?_)
  clear hK K al d1 x1 b1;generalize WD.alloc (.cells (ypA false yN 0 false false false) 95)=WN11 at d11 x11 b11 pn hS11⊢;generalize WD.heap.size=PQ at pn hpn⊢;refine wpAnyH_ready (rs:=[2]) (by kernel_rfl) (by simp) ?_;refine AllReadyH.cons rfl (fun K hK=> ?_) AllReadyH.nil
  go_simp
  refine(HQ.out _ b11).mono ?_;rintro z wq ⟨no,nc,mo,mc,rfl,rn,rm,bq⟩;have d12:=d11.l bq;have x12:=x11.l bq;have b12:=aa b11 bq;have p12:=pn.l bq;refine hK.out _ _ ⟨fun j v hj=>eI x12 2 3 rfl j v hj,fun j v hj=>eI d12 3 5 rfl j v hj,d12.c 1 rfl⟩ (fun hS12=> ?_)
  clear hK K bq d11 x11 b11 pn;refine wpAnyH_ready (rs:=[7]) (by kernel_rfl) (by simp) ?_;refine AllReadyH.cons rfl (fun K hK=> ?_) AllReadyH.nil
  go_simp
  refine(HRd.out _ _ _ _ _ b12 rn rm).mono ?_;rintro z wp ⟨po,pc,rfl,rp,bp⟩;have d13:=d12.l bp;have x13:=x12.l bp;have b13:=aa b12 bp;have p13:=p12.l bp;refine hK.out _ _ ⟨fun j v hj=>eI x13 2 3 rfl j v hj,fun j v hj=>eI d13 3 5 rfl j v hj,d13.c 1 rfl⟩ (fun hS13=> ?_)
  clear hK K bp d12 x12 b12 p12 rn rm;refine tq 8 (.tuple #[ypV ps (yT po pd pc) pp ex ov un,yi 0]) rfl (fun w0 _=>by go_simp) hS13 ?_
  refine tq 9 ((ypV ps (yT po pd pc) pp ex ov un)) rfl (fun w0 _=>by go_simp) hS13 ?_
  refine tq 10 (yi 0) rfl (fun w0 _=>by go_simp) hS13 ?_
  refine wpAnyH_ready (rs:=[12]) (by kernel_rfl) (by simp) ?_;refine AllReadyH.cons rfl (fun K hK=> ?_) AllReadyH.nil
  rw[if_pos (by kernel_rfl)];have hth:wp.there PQ 0 6:=dD p13;refine wp_store_mid 95 (.tmp 9) (.tmp 26) rfl PQ 0 (ypA ps (yT po pd pc) pp ex ov un) (by kernel_rfl) (by kernel_rfl) hth (by kernel_rfl) (by simp[Value.oneCell']) ?_;have bu:But PQ wp (wp.setCells PQ 0 (ypL ps (yT po pd pc) pp ex ov un)):=de _ _ _ _;have dS:=bu.loc d13 (by omega);have xS:=bu.loc x13 (by omega);have bS:=bu.below b13 (by omega);have rS:=bu.rd rp (aX rp p13 (by simp));have pS:au (wp.setCells PQ 0 (ypL ps (yT po pd pc) pp ex ov un)) PQ 95 (ypL ps (yT po pd pc) pp ex ov un):=((((((p13.set 0 (.bool ps)).set 1 (yT po pd pc)).set 2 (yi pp)).set 3 (.bool ex)).set 4 (.bool ov)).set 5 (.bool un));refine hK.out _ _ ⟨fun j v hj=>eI xS 2 3 rfl j v hj,fun j v hj=>eI dS 3 5 rfl j v hj,dS.c 1 rfl⟩ (fun hSS=> ?_)
  clear hK K bu hth d13 x13 b13 p13 rp;refine tq 13 (yi 0) rfl (fun w0 _=>by go_simp) hSS ?_
  refine wpAnyH_done (by kernel_rfl) ?_ _;clear hSS;change Exit.then _ _ _ _ (World.setCells wp PQ 0 (ypL ps (yT po pd pc) pp ex ov un));generalize World.setCells wp PQ 0 (ypL ps (yT po pd pc) pp ex ov un)=WS at dS xS bS rS pS⊢;simp only[Act.put,List.getElem_toArray,List.getElem_cons_succ,List.getElem_cons_zero,List.setIfInBounds_toArray,List.set_cons_zero,List.set_cons_succ];obtain⟨y0,y1,y2,y3,y4,y5,y6,y7⟩:=dS.cs8;obtain⟨z0,z1,z2,z3,z4,z5⟩:=pS.cs6
  go_wp2_with fail
  refine(HSt.out _ _ _ bS rS).mono ?_;rintro z wt ⟨u,rfl,rt,bt⟩;obtain⟨vo,vc,hu⟩:=rt.shape;subst hu;have al:=af wt (.cells (yvA c g (yT vo m vc) q) 100);have vt:=ah wt (yvL c g (yT vo m vc) q) 100;have dt:=(dS.l bt).l al;have rv:=rt.l al;have b9:=aa (aa bS bt) al;clear y0 y1 y2 y3 y4 y5 y6 y7 z0 z1 z2 z3 z4 z5 dS xS bS rS pS bt al rt
  go_upto_region 7 with fail
  generalize wt.alloc (.cells (yvA c g (yT vo m vc) q) 100)=WT at vt dt rv b9⊢;generalize wt.heap.size=PV at vt⊢;obtain⟨y0,y1,y2,y3,y4,y5,y6,y7⟩:=dt.cs8;obtain⟨z0,z1,z2,z3⟩:=vt.cs4
  go_wp2_with fail
  refine(HEn.out _ _ _ b9 rv).mono ?_;rintro z wz ⟨rfl,bz⟩;have bE:=aa b9 bz
  go_wp2
  go_ret3
  exact⟨rfl,bE⟩
theorem sF.off {w w':World}{n:Int}{ps:List ByteArray}{g cap b:Nat}{ty:TypeId}{vs:List Value}(h:sF w n ps g cap)(bu:But b w w')(hl:au w b ty vs)(hu: ∀x∈vs,∀k:Int,x≠ .int .u32 k)(hg:g≠b):sF w' n ps g cap:=
 ⟨h.fit,h.most,fun i p hp=>by
  obtain⟨so,sc,h1,h2⟩:=h.each i p hp;exact⟨so,sc,fun j v hj=>by rw[bu.c (by exact hg)];exact h1 j v hj,bu.rd h2 (aX h2 hl hu)⟩⟩
theorem X7 (n wy fam R D L G cx cy c fl:Int)(gr gx gy gg:Bool)(x y t:ak)(xo yo:Option Addr)(xc yc g cap:Nat)(w:World)
  (h0:w.rangeAt g 0 (yOL cx gx x xo xc)) (h1:w.rangeAt g 5 (yOL cy gy y yo yc))
  (HS: ∀w1,yB w w1→yC 31 #[ykV n wy fam R D L G gr,yOV cx gx x xo xc,yOV cy gy y yo yc] w1 (dU w1 c gg t fl)):
  yC 30 #[ykV n wy fam R D L G gr,.slice (some ⟨g,0,none⟩) 2 cap] w (dU w c gg t fl):=by
 replace HS:Hid _:=HS;have a1:=af w (.cells (ykA n wy fam R D L G gr) 69);have a2:=af (w.alloc (.cells (ykA n wy fam R D L G gr) 69)) (.cells (yoA 0 false false yN 0) 76);have d0:=(ah w (ykL n wy fam R D L G gr) 69).l a2;have o0:=ah (w.alloc (.cells (ykA n wy fam R D L G gr) 69)) (yoL 0 false false yN 0) 76;rw[World.size_alloc] at o0;have b0:=aa a1 a2;have hgl:g<w.heap.size:=World.block_lt_of_cell? w _ (h0 0 _ rfl);have k0:=aC h0 b0;have k1:=aC h1 b0;clear a1 a2 h0 h1
 go_enter func30,ntmps30
 go_upto_region 1 with fail
 generalize(w.alloc (.cells (ykA n wy fam R D L G gr) 69)).alloc (.cells (yoA 0 false false yN 0) 76)=W0 at d0 o0 b0 k0 k1⊢;have bW:yB W0 W0.drew:=(Below.refl _ _).drew;have d1:=d0.l bW;have o1:=o0.l bW;have b1:=aa b0 bW;have r0:=aC k0 bW;have r1:=aC k1 bW;clear bW d0 o0 b0 k0 k1;refine wp_region_held_drew (S:=fun wq=>wq.rangeAt w.heap.size 0 (ykL n wy fam R D L G gr)∧wq.rangeAt g 0 (yOL cx gx x xo xc)∧wq.rangeAt g 5 (yOL cy gy y yo yc)) (by kernel_rfl) ⟨d1.range,r0,r1⟩ (fun hS0=> ?_)
 generalize W0.drew=WD at d1 o1 b1 r0 r1 hS0⊢;refine tq 0 ((ykV n wy fam R D L G gr)) rfl (fun w0 hw0=>fy 69 (.tmp 2) rfl w.heap.size 0 (by kernel_rfl) _ _ hw0.1 underlying69 rfl (by kernel_rfl)) hS0 ?_
 refine tq 1 (.slice (some ⟨g,0,none⟩) 2 cap) rfl (fun w0 _=>by kernel_rfl) hS0 ?_
 refine tq 2 (.pointer (some ⟨g,0,none⟩)) rfl (fun w0 _=>by kernel_rfl) hS0 ?_
 refine tq 3 ((yOV cx gx x xo xc)) rfl (fun w0 hw0=>fy 76 (.tmp 8) rfl g 0 (by kernel_rfl) _ _ hw0.2.1 underlying76 rfl (by kernel_rfl)) hS0 ?_
 refine tq 4 (.slice (some ⟨g,0,none⟩) 2 cap) rfl (fun w0 _=>by kernel_rfl) hS0 ?_
 refine tq 5 (.pointer (some ⟨g,5,none⟩)) rfl (fun w0 _=>by kernel_rfl) hS0 ?_
 refine tq 6 ((yOV cy gy y yo yc)) rfl (fun w0 hw0=>fy 76 (.tmp 11) rfl g 5 (by kernel_rfl) _ _ hw0.2.2 underlying76 rfl (by kernel_rfl)) hS0 ?_
 refine wpAnyH_ready (rs:=[7]) (by kernel_rfl) (by simp) ?_;refine AllReadyH.cons rfl (fun K hK=> ?_) AllReadyH.nil
 go_simp
 refine(HS.out _ b1).mono ?_;rintro z w2 ⟨u,rfl,q2,b2⟩;obtain⟨ro,rc,hu⟩:=q2.shape;subst hu;have d2:=d1.l b2;have o2:=o1.l b2;have b02:=aa b1 b2;have s0:=aC r0 b2;have s1:=aC r1 b2;refine hK.out _ _ ⟨d2.range,s0,s1⟩ (fun hS7=> ?_)
 clear hK K d1 o1 b1 r0 r1 b2 HS;have bu:But (w.heap.size+1) w2 (w2.setCells (w.heap.size+1) 0 (yOL c gg t ro rc)):=de _ _ _ _;have bR:=bu.below b02 (by omega);have rR:=bu.rd q2 (aX q2 o2 (by simp));have hth:w2.there (w.heap.size+1) 0 5:=dD o2;have hl:=run_loadVar_mid (P:=Tryz.prog) _ (w.heap.size+1) 0 76 (yOL c gg t ro rc) _ (World.rangeAt_setCells_same w2 (w.heap.size+1) 0 (yOL c gg t ro rc) hth) underlying76 rfl (by kernel_rfl);have hg:g≠w.heap.size+1:=by omega
 have HH:Hid (_∧_∧_):=⟨hl,rR,bR⟩;refine tq 8 ((yOV c gg t ro rc)) rfl (fun w0 _=>by go_simp) hS7 ?_
 refine tq 9 (yi fl) rfl (fun w0 _=>by go_simp) hS7 ?_
 refine wpAnyH_ready (rs:=[10]) (by kernel_rfl) (by simp) ?_;refine AllReadyH.cons rfl (fun K hK=> ?_) AllReadyH.nil
 rw[if_pos (by kernel_rfl)];refine wp_store_mid 76 (.tmp 4) (.tmp 14) rfl (w.heap.size+1) 0 (yOA c gg t ro rc) (by kernel_rfl) (by kernel_rfl) hth (by kernel_rfl) (by simp[Value.oneCell']) ?_;refine hK.out _ _ ⟨(bu.loc d2 (by omega)).range,World.rangeAt_setCells_apart s0 _ _ _ (.inl hg),World.rangeAt_setCells_apart s1 _ _ _ (.inl hg)⟩ (fun hS10=> ?_)
 clear hK K;refine tq 11 (yi fl) rfl (fun w0 _=>by go_simp) hS10 ?_
 refine wpAnyH_done (by kernel_rfl) ?_ _;obtain⟨hl,rR,bR⟩:=HH.out;clear HH hS0 hS7 hS10 d2 o2 b02 s0 s1 bu hth q2;change Exit.then _ _ _ _ (World.setCells w2 (w.heap.size+1) 0 (yOL c gg t ro rc));generalize World.setCells w2 (w.heap.size+1) 0 (yOL c gg t ro rc)=WE at hl rR bR⊢;simp only[Act.put,List.getElem_toArray,List.getElem_cons_succ,List.getElem_cons_zero,List.setIfInBounds_toArray,List.set_cons_zero,List.set_cons_succ]
 go_wp2
 exact bodyPost_ret (aj results30 rfl rfl hl) rfl ⟨_,rfl,rR,bR⟩
theorem IP (n R D L G fam way c fl f1 e1:Int)(gr gg:Bool)(t:ak)(F m:Nat)(ps:List ByteArray)(pb:Nat)(st:ByteArray)(w:World)(hw1:1≤way)(hw2:way≤5)(hm:ps.length=m)(hm3:m≤3)(hm0:1≤m)(hE:fT n ps=0)(hN:ps.any (dO n)=false)(hp:au w pb 9 (ps.map Value.string))(hfn: ∀args W,(callFunc F args).run Tryz.prog W= .ok (.enter F args) W)
  (HD:yJ 43 #[yi n] (.tuple #[ykV n 0 fam R D L G gr,yi 0]))
  (HO: ∀w1,yB w w1→au w1 pb 9 (ps.map Value.string)→yC 55 #[ykV n 0 fam R D L G gr,.slice (some ⟨pb,0,none⟩) m m] w1 (QH w1 n ps))
  (HF: ∀g cap w1,yB w w1→sF w1 n ps g cap→yC F #[ykV n way fam R D L G gr,.slice (some ⟨g,0,none⟩) m cap] w1 (dU w1 c gg t fl))
  (HA: ∀ro rc w1,yB w w1→Rd w1 .u32 (yT ro t.n rc) (Dg.dg 4294967296 t.n)→yC 58 #[ykV n way fam R D L G gr,yOV c gg t ro rc,yi fl] w1 (yR w1 (.tuple #[.string st,yi f1,yi e1]))):
  yC 29 #[yi n,yi way,.func (.func F) #[] #[],.slice (some ⟨pb,0,none⟩) m m] w (yR w (.tuple #[.string st,yi f1,yi e1])):=by
 replace HD:Hid _:=HD;replace HO:Hid _:=HO;replace HF:Hid _:=HF;replace HA:Hid _:=HA;have HFn:Hid _:=hfn;clear hfn
 go_enter func29,ntmps29
 go_wp2_with fail
 refine(HD.out _).mono ?_;rintro z w1 ⟨rfl,b1⟩;have al:=af w1 (.cells (ykA n 0 fam R D L G gr) 69);have d1:=ah w1 (ykL n 0 fam R D L G gr) 69;have p1:=(hp.l b1).l al;have hlt:w.heap.size≤w1.heap.size:=b1.size;have b01:=aa b1 al;clear b1 al hp HD
 go_upto_region 4 with fail
 generalize w1.alloc (.cells (ykA n 0 fam R D L G gr) 69)=W1 at d1 p1 b01⊢;generalize w1.heap.size=PD at d1 hlt⊢;obtain⟨x0,x1,x2,x3,x4,x5,x6,x7⟩:=d1.cs8
 go_wp2_with fail
 refine(HO.out _ b01 p1).mono ?_;rintro z w2 hz;have hz':=hz.resolve_right (fun h=>h.1 hE)
 obtain⟨-,v,cs,rfl,hown,hat,b2⟩:=hz';obtain⟨g,cap,hv,hV⟩:=JF (fun h=>by subst h;simp at hm;omega) hown hat
 rw[hm] at hv;subst hv;have hgP:g≠PD:=by
  have h1:=(World.ownsRow.lt hown g rfl).1;have h2:=d1.lt;omega
 have d2:=d1.l b2;have b02:=aa b01 b2;have HNN:Hid (∀w1,sF w1 n ps g cap→yC 56 #[.slice (some ⟨g,0,none⟩) m cap] w1 (yR w1 (.bool false))):=fun w1 h=>by
  have:=wJ n ps g cap w1 h (by omega);rw[hN,hm] at this;exact this
 clear x0 x1 x2 x3 x4 x5 x6 x7 d1 p1 b01 b2 hz hown hat HO hE hN hm;have c1:=d2.c 1 rfl;have f1':=d2.f 1;have d3:au (w2.setCell ⟨PD,1,none⟩ (yi way)) PD 69 (ykL n way fam R D L G gr):=d2.set 1 (yi way);have bu:=ag w2 PD 1 (yi way);have hV3:=hV.off bu d2 (by simp) hgP;have b03:=bu.below b02 hlt
 go_upto_block 0 with fail
 generalize w2.setCell ⟨PD,1,none⟩ (yi way)=W3 at d3 hV3 b03⊢;clear c1 f1' bu d2 b02 hV
 go_wp2_with fail
 refine(HNN.out _ hV3).mono ?_;rintro z w4 ⟨rfl,b4⟩;have d4:=d3.l b4;have hV4:=hV3.l b4;have b04:=aa b03 b4;clear d3 hV3 b03 b4 HNN
 go_upto_region 11 with fail
 have bW:yB w4 w4.drew:=(Below.refl _ _).drew;have d5:=d4.l bW;have hV5:=hV4.l bW;have b05:=aa b04 bW;clear bW d4 hV4 b04;refine wp_region_held_drew (S:=fun wq=>wq.rangeAt PD 0 (ykL n way fam R D L G gr)) (by kernel_rfl) d5.range (fun hS0=> ?_)
 generalize w4.drew=WD at d5 hV5 b05 hS0⊢;refine tq 0 ((ykV n way fam R D L G gr)) rfl (fun w0 hw0=>fy 69 (.tmp 11) rfl PD 0 (by kernel_rfl) _ _ hw0 underlying69 rfl (by kernel_rfl)) hS0 ?_
 refine tq 1 (.func (.func F) #[] #[]) rfl (fun w0 _=>by kernel_rfl) hS0 ?_
 refine tq 2 ((ykV n way fam R D L G gr)) rfl (fun w0 hw0=>fy 69 (.tmp 11) rfl PD 0 (by kernel_rfl) _ _ hw0 underlying69 rfl (by kernel_rfl)) hS0 ?_
 refine tq 3 (.slice (some ⟨g,0,none⟩) m cap) rfl (fun w0 _=>by kernel_rfl) hS0 ?_
 refine wpAnyH_ready (rs:=[4]) (by kernel_rfl) (by simp) ?_;refine AllReadyH.cons rfl (fun K hK=> ?_) AllReadyH.nil
 have hfn:=HFn.out
 go_simp
 refine(HF.out _ _ _ b05 hV5).mono ?_;rintro z w6 ⟨u,rfl,q6,b6⟩;obtain⟨ro,rc,hu⟩:=q6.shape;subst hu;have d6:=d5.l b6;have b06:=aa b05 b6;refine hK.out _ _ d6.range (fun hS4=> ?_)
 clear hK K d5 hV5 b05 b6;refine tq 5 ((yOV c gg t ro rc)) rfl (fun w0 _=>by go_simp) hS4 ?_
 refine tq 6 (yi fl) rfl (fun w0 _=>by go_simp) hS4 ?_
 refine wpAnyH_ready (rs:=[7]) (by kernel_rfl) (by simp) ?_;refine AllReadyH.cons rfl (fun K hK=> ?_) AllReadyH.nil
 go_simp
 refine(HA.out _ _ _ b06 q6).mono ?_;rintro z w7 ⟨rfl,b7⟩;have d7:=d6.l b7;have b07:=aa b06 b7;refine hK.out _ _ d7.range (fun hS7=> ?_)
 clear hK K d6 b06 b7 q6;refine tq 8 (.string st) rfl (fun w0 _=>by go_simp) hS7 ?_
 refine tq 9 (yi f1) rfl (fun w0 _=>by go_simp) hS7 ?_
 refine tq 10 (yi e1) rfl (fun w0 _=>by go_simp) hS7 ?_
 refine tq 11 (.string st) rfl (fun w0 _=>by go_simp) hS7 ?_
 refine tq 12 (yi f1) rfl (fun w0 _=>by go_simp) hS7 ?_
 refine tq 13 (yi e1) rfl (fun w0 _=>by go_simp) hS7 ?_
 simp only[Act.put,List.getElem_toArray,List.getElem_cons_succ,List.getElem_cons_zero,List.setIfInBounds_toArray,List.set_cons_zero,List.set_cons_succ];refine wpAnyH_done (by kernel_rfl) ?_ _
 go_wp2
 go_ret3
 exact⟨rfl,b07⟩
end Go.Proofs.YtbdokgamhinajaaGreatDoor
