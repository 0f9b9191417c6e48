/-
  Texts laid together: Fi5, Aw0, Gq1, Gq4.
-/
import Derived.Test.YtnhackdjplppjaaGreatDoorSh22
import Derived.Test.YtnhackdjplppjaaGreatDoorSh31
set_option maxRecDepth 100000
set_option maxHeartbeats 6400000
namespace Go.Proofs.YtnhackdjplppjaaGreatDoor
open _root_.Go.Proofs.Tryz
open Go.RowKit
def RVg (w:World)(c:Int)(g:Bool)(t:ak)(z:Ending)(w':World):Prop:=
 ∃s,z= .returned (yoV c g t.s s t.e)∧Rd w' .i64 s (Dg.dg 65536 t.n)∧Far w.heap.size s∧yB w w'
theorem aaB (n f0 f1 f2 R D L G fam wd PW E:Int)(gr ok ng:Bool)(pn:Nat)(t:ak)(w:World)(hPW:IntKind.i64.wrap (wd*D)=PW)(hE:IntKind.i64.wrap (wd*G)=E)(HF:yJ 35 #[yi n] (.tuple #[.agg #[yi f0,yi f1,yi f2,yi R,yi D,yi L,yi G,.bool gr,yi fam],.bool ok]))
  (HW:yJ 116 #[ygV R D L G gr] (yi wd))
  (HP: ∀w1,yC 114 #[yi PW] w1 (cG w1 pn))
  (HL: ∀vo vc q w1,Rd w1 .i64 (.slice vo (Dg.dg 65536 pn).length vc) (Dg.dg 65536 pn)→w1.cell? ⟨q,0,none⟩=some (yi 1)→yC 121 #[.slice vo (Dg.dg 65536 pn).length vc,.slice (some ⟨q,0,none⟩) 1 1] w1 (cG w1 (pn-1)))
  (HB: ∀vo vc w1,Rd w1 .i64 (.slice vo (Dg.dg 65536 (pn-1)).length vc) (Dg.dg 65536 (pn-1))→yC 79 #[ydV ng (.slice vo (Dg.dg 65536 (pn-1)).length vc) E] w1 (di w1 t)):
  yC 130 #[yi n,.bool ng] w (RVg w 2 ng t):=by
 replace HF:Hid _:=HF;replace HW:Hid _:=HW;replace HP:Hid _:=HP;replace HL:Hid _:=HL;replace HB:Hid _:=HB;have a0:=af w (.cells (yoA 0 false false (.slice none 0 0) 0) 32);have q0:=ah w (yoL 0 false false (.slice none 0 0) 0) 32
 go_enter func130,ntmps130
 go_wp2_with fail
 refine(HF.out _).mono ?_;rintro z w1 ⟨rfl,b1⟩;have al:=af w1 (.cells #[yi f0,yi f1,yi f2,yi R,yi D,yi L,yi G,.bool gr,yi fam] 58);have d2:=ah w1 [yi f0,yi f1,yi f2,yi R,yi D,yi L,yi G,.bool gr,yi fam] 58;have q2:=(q0.l b1).l al;have b2:=aa (aa a0 b1) al;have hne:w.heap.size<w1.heap.size:=(q0.l b1).lt;clear a0 q0 b1 al HF
 go_upto_region 2 with fail
 generalize w1.alloc (.cells #[yi f0,yi f1,yi f2,yi R,yi D,yi L,yi G,.bool gr,yi fam] 58)=W2 at d2 q2 b2⊢;generalize w1.heap.size=PF at d2 hne⊢;obtain⟨x0,x1,x2,x3,x4,x5,x6,x7,x8⟩:=d2.cs9
 go_wp2_with fail
 refine(HW.out _).mono ?_;rintro z w3 ⟨rfl,b3⟩;have bb:=aa b3 (Below.refl _ _).drew;have d3:=d2.l bb;have q3:=q2.l bb;have b03:=aa b2 bb;clear x0 x1 x2 x3 x4 x5 x6 x7 x8 d2 q2 b2 b3 bb HW
 go_upto_region 3 with fail
 refine wp_region_held_drew (S:=(fun wq=>au wq PF 58 [yi f0,yi f1,yi f2,yi R,yi D,yi L,yi G,.bool gr,yi fam])) (by kernel_rfl) d3 (fun hS0=> ?_)
 generalize w3.drew=WD at d3 q3 b03 hS0⊢;refine wpAnyH_take (i:=0) (v:= .bool ng) rfl (by kernel_rfl) (by kernel_rfl) (by kernel_rfl) (fun _ _ _ h=>h) (Or.inl ⟨by kernel_rfl,fun w0 _=>by kernel_rfl⟩) hS0 ?_
 refine wpAnyH_take (i:=1) (v:= .bool ng) rfl (by kernel_rfl) (by kernel_rfl) (by kernel_rfl) (fun _ _ _ h=>h) (Or.inl ⟨by kernel_rfl,fun w0 _=>by kernel_rfl⟩) hS0 ?_
 refine wpAnyH_take (i:=2) (v:=yi wd) rfl (by kernel_rfl) (by kernel_rfl) (by kernel_rfl) (fun _ _ _ h=>h) (Or.inl ⟨by kernel_rfl,fun w0 _=>by kernel_rfl⟩) hS0 ?_
 refine wpAnyH_take (i:=3) (v:= .pointer (some ⟨PF,3,none⟩)) rfl (by kernel_rfl) (by kernel_rfl) (by kernel_rfl) (fun _ _ _ h=>h) (Or.inl ⟨by kernel_rfl,fun w0 _=>by kernel_rfl⟩) hS0 ?_
 refine wpAnyH_take (i:=4) (v:= .pointer (some ⟨PF,4,none⟩)) rfl (by kernel_rfl) (by kernel_rfl) (by kernel_rfl) (fun _ _ _ h=>h) (Or.inl ⟨by kernel_rfl,fun w0 _=>by kernel_rfl⟩) hS0 ?_
 refine wpAnyH_take (i:=5) (v:=yi D) rfl (by kernel_rfl) (by kernel_rfl) (by kernel_rfl) (fun _ _ _ h=>h) (Or.inl ⟨by kernel_rfl,fun w0 hw0=>gU 3 (.tmp 20) rfl PF 4 (by kernel_rfl) _ _ underlying3 rfl (hw0.c 4 rfl)⟩) hS0 ?_
 refine wpAnyH_take (i:=6) (v:=yi PW) rfl (by kernel_rfl) (by kernel_rfl) (by kernel_rfl) (fun _ _ _ h=>h) (Or.inl ⟨by kernel_rfl,fun w0 _=>by go_simp⟩) hS0 ?_
 refine wpAnyH_take (i:=10) (v:=yi wd) rfl (by kernel_rfl) (by kernel_rfl) (by kernel_rfl) (fun _ _ _ h=>h) (Or.inl ⟨by kernel_rfl,fun w0 _=>by kernel_rfl⟩) hS0 ?_
 refine wpAnyH_take (i:=11) (v:= .pointer (some ⟨PF,3,none⟩)) rfl (by kernel_rfl) (by kernel_rfl) (by kernel_rfl) (fun _ _ _ h=>h) (Or.inl ⟨by kernel_rfl,fun w0 _=>by kernel_rfl⟩) hS0 ?_
 refine wpAnyH_take (i:=12) (v:= .pointer (some ⟨PF,6,none⟩)) rfl (by kernel_rfl) (by kernel_rfl) (by kernel_rfl) (fun _ _ _ h=>h) (Or.inl ⟨by kernel_rfl,fun w0 _=>by kernel_rfl⟩) hS0 ?_
 refine wpAnyH_take (i:=13) (v:=yi G) rfl (by kernel_rfl) (by kernel_rfl) (by kernel_rfl) (fun _ _ _ h=>h) (Or.inl ⟨by kernel_rfl,fun w0 hw0=>gU 3 (.tmp 28) rfl PF 6 (by kernel_rfl) _ _ underlying3 rfl (hw0.c 6 rfl)⟩) hS0 ?_
 refine wpAnyH_take (i:=14) (v:=yi E) rfl (by kernel_rfl) (by kernel_rfl) (by kernel_rfl) (fun _ _ _ h=>h) (Or.inl ⟨by kernel_rfl,fun w0 _=>by go_simp⟩) hS0 ?_
 refine wpAnyH_ready (rs:=[7,8]) (by kernel_rfl) (by simp) ?_;refine AllReadyH.cons rfl (fun K hK=> ?_) (AllReadyH.cons rfl (fun K hK=> ?_) AllReadyH.nil)
 ·skip
  go_simp
  refine(HP.out _).mono ?_;rintro z wp ⟨vp,rfl,rp,bp⟩;obtain⟨vo,vc,hv⟩:=rp.shape;subst hv;have dp:=d3.l bp;have qp:=q3.l bp;have b0p:=aa b03 bp;refine hK.out _ _ dp (fun hSp=> ?_)
  clear hK K bp d3 q3 b03;refine wpAnyH_ready (rs:=[8]) (by kernel_rfl) (by simp) ?_;refine AllReadyH.cons rfl (fun K hK=> ?_) AllReadyH.nil
  go_simp
  have al:=af wp (.cells #[yi 1] 3);have on:=(ah wp [yi 1] 3).c 0 rfl;have dn:=dp.l al;have qn:=qp.l al;have b0n:=aa b0p al;have rn:=rp.l al;refine hK.out _ _ dn (fun hSn=> ?_)
  clear hK K al dp qp b0p rp;generalize wp.alloc (.cells #[yi 1] 3)=WN at dn qn b0n on hSn rn⊢;generalize wp.heap.size=Q1 at on⊢;refine wpAnyH_ready (rs:=[9]) (by kernel_rfl) (by simp) ?_;refine AllReadyH.cons rfl (fun K hK=> ?_) AllReadyH.nil
  go_simp
  refine(HL.out _ _ _ _ rn on).mono ?_;rintro z wl ⟨vl,rfl,rl,bl⟩;obtain⟨lo,lc,hv⟩:=rl.shape;subst hv;have dl:=dn.l bl;have ql:=qn.l bl;have b0l:=aa b0n bl;refine hK.out _ _ dl (fun hSl=> ?_)
  clear hK K bl dn qn b0n rn on;refine wpAnyH_take (i:=15) (v:=(ydV ng (.slice lo (Dg.dg 65536 (pn-1)).length lc) E)) rfl (by kernel_rfl) (by kernel_rfl) (by kernel_rfl) (fun _ _ _ h=>h) (Or.inl ⟨by kernel_rfl,fun w0 _=>by kernel_rfl⟩) hSl ?_
  refine wpAnyH_ready (rs:=[16]) (by kernel_rfl) (by simp) ?_;refine AllReadyH.cons rfl (fun K hK=> ?_) AllReadyH.nil
  go_simp
  refine(HB.out _ _ _ rl).mono ?_;rintro z wb ⟨vb,rfl,rb,fb,bb⟩;obtain⟨so,sc,hv⟩:=rb.shape;subst hv;have db:=dl.l bb;have qb:=ql.l bb;have b0b:=aa b0l bb;have fb0:=fb.mono b0l.size;refine hK.out _ _ db (fun hSb=> ?_)
  clear hK K bb dl ql b0l rl;refine wpAnyH_take (i:=17) (v:=(yoV 2 ng t.s (.slice so (Dg.dg 65536 t.n).length sc) t.e)) rfl (by kernel_rfl) (by kernel_rfl) (by kernel_rfl) (fun _ _ _ h=>h) (Or.inl ⟨by kernel_rfl,fun w0 _=>by kernel_rfl⟩) hSb ?_
  refine wpAnyH_ready (rs:=[18]) (by kernel_rfl) (by simp) ?_;refine AllReadyH.cons rfl (fun K hK=> ?_) AllReadyH.nil
  rw[if_pos (by kernel_rfl)];have hth:wb.there w.heap.size 0 5:=dD qb;refine wp_store_mid 32 (.tmp 4) (.tmp 33) rfl w.heap.size 0 (yoA 2 ng t.s (.slice so (Dg.dg 65536 t.n).length sc) t.e) (by kernel_rfl) (by kernel_rfl) hth (by kernel_rfl) (by simp[Value.oneCell']) ?_;have bu:But w.heap.size wb (wb.setCells w.heap.size 0 (yoL 2 ng t.s (.slice so (Dg.dg 65536 t.n).length sc) t.e)):=de _ _ _ _;have dS:=bu.loc db (by omega);have bS:=bu.below b0b (by omega);have rS:=bu.rd rb (cq rb (Dg.norm_dg _ _ (by omega)) qb (fun x hx n hn=>by simp at hx;rcases hx with rfl|rfl|rfl|rfl|rfl<;>simp;all_goals omega))
  have cR:au (wb.setCells w.heap.size 0 (yoL 2 ng t.s (.slice so (Dg.dg 65536 t.n).length sc) t.e)) w.heap.size 32 (yoL 2 ng t.s (.slice so (Dg.dg 65536 t.n).length sc) t.e):=(((((qb.set 0 (yi 2)).set 1 (.bool ng)).set 2 (.bool t.s)).set 3 (.slice so (Dg.dg 65536 t.n).length sc)).set 4 (yi t.e));refine hK.out _ _ dS (fun hSS=> ?_)
  clear hK K bu hth db qb b0b rb;refine wpAnyH_done (by kernel_rfl) ?_ _;clear hSS;change Exit.then _ _ _ _ (World.setCells wb w.heap.size 0 (yoL 2 ng t.s (.slice so (Dg.dg 65536 t.n).length sc) t.e));generalize World.setCells wb w.heap.size 0 (yoL 2 ng t.s (.slice so (Dg.dg 65536 t.n).length sc) t.e)=WS at dS bS rS cR⊢;simp only[Act.put,List.getElem_toArray,List.getElem_cons_succ,List.getElem_cons_zero,List.setIfInBounds_toArray,List.set_cons_zero,List.set_cons_succ];have hl:=run_loadVar_mid (P:=Tryz.prog) _ w.heap.size 0 32 (yoL 2 ng t.s (.slice so (Dg.dg 65536 t.n).length sc) t.e) _ cR.range underlying32 rfl (by kernel_rfl);replace hl:Hid _:=hl;clear cR
  go_wp2
  exact bodyPost_ret (br results130 rfl hl.out) rfl ⟨_,rfl,rS,fb0,bS⟩
 ·skip
  go_simp
  have al:=af WD (.cells #[yi 1] 3);have on:=(ah WD [yi 1] 3).c 0 rfl;have dn:=d3.l al;have qn:=q3.l al;have b0n:=aa b03 al;refine hK.out _ _ dn (fun hSn=> ?_)
  clear hK K al d3 q3 b03;generalize WD.alloc (.cells #[yi 1] 3)=WN at dn qn b0n on hSn⊢;generalize WD.heap.size=Q1 at on⊢;refine wpAnyH_ready (rs:=[7]) (by kernel_rfl) (by simp) ?_;refine AllReadyH.cons rfl (fun K hK=> ?_) AllReadyH.nil
  go_simp
  refine(HP.out _).mono ?_;rintro z wp ⟨vp,rfl,rp,bp⟩;obtain⟨vo,vc,hv⟩:=rp.shape;subst hv;have dp:=dn.l bp;have qp:=qn.l bp;have b0p:=aa b0n bp;have op:=cell_later bp on;refine hK.out _ _ dp (fun hSp=> ?_)
  clear hK K bp dn qn b0n on;refine wpAnyH_ready (rs:=[9]) (by kernel_rfl) (by simp) ?_;refine AllReadyH.cons rfl (fun K hK=> ?_) AllReadyH.nil
  go_simp
  refine(HL.out _ _ _ _ rp op).mono ?_;rintro z wl ⟨vl,rfl,rl,bl⟩;obtain⟨lo,lc,hv⟩:=rl.shape;subst hv;have dl:=dp.l bl;have ql:=qp.l bl;have b0l:=aa b0p bl;refine hK.out _ _ dl (fun hSl=> ?_)
  clear hK K bl dp qp b0p rp op;refine wpAnyH_take (i:=15) (v:=(ydV ng (.slice lo (Dg.dg 65536 (pn-1)).length lc) E)) rfl (by kernel_rfl) (by kernel_rfl) (by kernel_rfl) (fun _ _ _ h=>h) (Or.inl ⟨by kernel_rfl,fun w0 _=>by kernel_rfl⟩) hSl ?_
  refine wpAnyH_ready (rs:=[16]) (by kernel_rfl) (by simp) ?_;refine AllReadyH.cons rfl (fun K hK=> ?_) AllReadyH.nil
  go_simp
  refine(HB.out _ _ _ rl).mono ?_;rintro z wb ⟨vb,rfl,rb,fb,bb⟩;obtain⟨so,sc,hv⟩:=rb.shape;subst hv;have db:=dl.l bb;have qb:=ql.l bb;have b0b:=aa b0l bb;have fb0:=fb.mono b0l.size;refine hK.out _ _ db (fun hSb=> ?_)
  clear hK K bb dl ql b0l rl;refine wpAnyH_take (i:=17) (v:=(yoV 2 ng t.s (.slice so (Dg.dg 65536 t.n).length sc) t.e)) rfl (by kernel_rfl) (by kernel_rfl) (by kernel_rfl) (fun _ _ _ h=>h) (Or.inl ⟨by kernel_rfl,fun w0 _=>by kernel_rfl⟩) hSb ?_
  refine wpAnyH_ready (rs:=[18]) (by kernel_rfl) (by simp) ?_;refine AllReadyH.cons rfl (fun K hK=> ?_) AllReadyH.nil
  rw[if_pos (by kernel_rfl)];have hth:wb.there w.heap.size 0 5:=dD qb;refine wp_store_mid 32 (.tmp 4) (.tmp 33) rfl w.heap.size 0 (yoA 2 ng t.s (.slice so (Dg.dg 65536 t.n).length sc) t.e) (by kernel_rfl) (by kernel_rfl) hth (by kernel_rfl) (by simp[Value.oneCell']) ?_;have bu:But w.heap.size wb (wb.setCells w.heap.size 0 (yoL 2 ng t.s (.slice so (Dg.dg 65536 t.n).length sc) t.e)):=de _ _ _ _;have dS:=bu.loc db (by omega);have bS:=bu.below b0b (by omega);have rS:=bu.rd rb (cq rb (Dg.norm_dg _ _ (by omega)) qb (fun x hx n hn=>by simp at hx;rcases hx with rfl|rfl|rfl|rfl|rfl<;>simp;all_goals omega))
  have cR:au (wb.setCells w.heap.size 0 (yoL 2 ng t.s (.slice so (Dg.dg 65536 t.n).length sc) t.e)) w.heap.size 32 (yoL 2 ng t.s (.slice so (Dg.dg 65536 t.n).length sc) t.e):=(((((qb.set 0 (yi 2)).set 1 (.bool ng)).set 2 (.bool t.s)).set 3 (.slice so (Dg.dg 65536 t.n).length sc)).set 4 (yi t.e));refine hK.out _ _ dS (fun hSS=> ?_)
  clear hK K bu hth db qb b0b rb;refine wpAnyH_done (by kernel_rfl) ?_ _;clear hSS;change Exit.then _ _ _ _ (World.setCells wb w.heap.size 0 (yoL 2 ng t.s (.slice so (Dg.dg 65536 t.n).length sc) t.e));generalize World.setCells wb w.heap.size 0 (yoL 2 ng t.s (.slice so (Dg.dg 65536 t.n).length sc) t.e)=WS at dS bS rS cR⊢;simp only[Act.put,List.getElem_toArray,List.getElem_cons_succ,List.getElem_cons_zero,List.setIfInBounds_toArray,List.set_cons_zero,List.set_cons_succ];have hl:=run_loadVar_mid (P:=Tryz.prog) _ w.heap.size 0 32 (yoL 2 ng t.s (.slice so (Dg.dg 65536 t.n).length sc) t.e) _ cR.range underlying32 rfl (by kernel_rfl);replace hl:Hid _:=hl;clear cR
  go_wp2
  exact bodyPost_ret (br results130 rfl hl.out) rfl ⟨_,rfl,rS,fb0,bS⟩
def RVF (w:World)(c:Int)(g:Bool)(t:ak)(fl:Int)(z:Ending)(w':World):Prop:=
 ∃s,z= .returned (.tuple #[yoV c g t.s s t.e,yi fl])∧Rd w' .i64 s (Dg.dg 65536 t.n)∧yB w w'
theorem cA (w:World)(c0:List Value)(t0:TypeId): ∃W,w.alloc (.cells c0.toArray t0)=W∧au W w.heap.size t0 c0∧yB w W:=
 ⟨_,rfl,ah w c0 t0,af w _⟩
theorem iG (w:World)(c0:List Value)(t0:TypeId)(c1:List Value)(t1:TypeId): ∃W,(w.alloc (.cells c0.toArray t0)).alloc (.cells c1.toArray t1)=W∧au W w.heap.size t0 c0∧au W (w.heap.size+1) t1 c1∧yB w W:=by
 obtain⟨W,rfl,h0,b0⟩:=cA w c0 t0;have h1:=ah (w.alloc (.cells c0.toArray t0)) c1 t1;have b1:=af (w.alloc (.cells c0.toArray t0)) (.cells c1.toArray t1);rw[World.size_alloc] at h1;exact⟨_,rfl,h0.l b1,h1,aa b0 b1⟩
theorem afz {P:Program}{w0 w:World}{n b:Nat}{ty:TypeId}{z0 z1 z2 z3:Value}{d:TypeDesc}(h:au w b ty [z0,z1,z2,z3])(hb:Below n w0 w)(hn:n≤b)(hu:P.underlying ty=some d)(hd:d.isRow=true)(hi:(P.info? ty).map (·.size)=some 4)(v0 v1 v2 v3:Value):
  (loadVar ty ⟨b,0,none⟩).run P ((((w.setCell ⟨b,0,none⟩ v0).setCell ⟨b,1,none⟩ v1).setCell ⟨b,2,none⟩ v2).setCell ⟨b,3,none⟩ v3)= .ok (.agg #[v0,v1,v2,v3]) ((((w.setCell ⟨b,0,none⟩ v0).setCell ⟨b,1,none⟩ v1).setCell ⟨b,2,none⟩ v2).setCell ⟨b,3,none⟩ v3)∧Below n w0 ((((w.setCell ⟨b,0,none⟩ v0).setCell ⟨b,1,none⟩ v1).setCell ⟨b,2,none⟩ v2).setCell ⟨b,3,none⟩ v3)∧But b w ((((w.setCell ⟨b,0,none⟩ v0).setCell ⟨b,1,none⟩ v1).setCell ⟨b,2,none⟩ v2).setCell ⟨b,3,none⟩ v3):=by
 have cR:au ((((w.setCell ⟨b,0,none⟩ v0).setCell ⟨b,1,none⟩ v1).setCell ⟨b,2,none⟩ v2).setCell ⟨b,3,none⟩ v3) b ty [v0,v1,v2,v3]:=((((h.set 0 v0).set 1 v1).set 2 v2).set 3 v3);have bu:=(((ag w b 0 v0).trans (ag _ b 1 v1)).trans (ag _ b 2 v2)).trans (ag _ b 3 v3);exact⟨run_loadVar_mid (P:=P) _ b 0 ty [v0,v1,v2,v3] _ cR.range hu hd hi,bu.below hb hn,bu⟩
theorem dL {P:Program}{w0 w:World}{n b:Nat}{ty:TypeId}{z0 z1 z2 z3 z4:Value}{d:TypeDesc}(h:au w b ty [z0,z1,z2,z3,z4])(hb:Below n w0 w)(hn:n≤b)(hu:P.underlying ty=some d)(hd:d.isRow=true)(hi:(P.info? ty).map (·.size)=some 5)(v0 v1 v2 v3 v4:Value):
  (loadVar ty ⟨b,0,none⟩).run P (((((w.setCell ⟨b,0,none⟩ v0).setCell ⟨b,1,none⟩ v1).setCell ⟨b,2,none⟩ v2).setCell ⟨b,3,none⟩ v3).setCell ⟨b,4,none⟩ v4)= .ok (.agg #[v0,v1,v2,v3,v4]) (((((w.setCell ⟨b,0,none⟩ v0).setCell ⟨b,1,none⟩ v1).setCell ⟨b,2,none⟩ v2).setCell ⟨b,3,none⟩ v3).setCell ⟨b,4,none⟩ v4)∧Below n w0 (((((w.setCell ⟨b,0,none⟩ v0).setCell ⟨b,1,none⟩ v1).setCell ⟨b,2,none⟩ v2).setCell ⟨b,3,none⟩ v3).setCell ⟨b,4,none⟩ v4)∧But b w (((((w.setCell ⟨b,0,none⟩ v0).setCell ⟨b,1,none⟩ v1).setCell ⟨b,2,none⟩ v2).setCell ⟨b,3,none⟩ v3).setCell ⟨b,4,none⟩ v4):=by
 have cR:au (((((w.setCell ⟨b,0,none⟩ v0).setCell ⟨b,1,none⟩ v1).setCell ⟨b,2,none⟩ v2).setCell ⟨b,3,none⟩ v3).setCell ⟨b,4,none⟩ v4) b ty [v0,v1,v2,v3,v4]:=(((((h.set 0 v0).set 1 v1).set 2 v2).set 3 v3).set 4 v4);have bu:=((((ag w b 0 v0).trans (ag _ b 1 v1)).trans (ag _ b 2 v2)).trans (ag _ b 3 v3)).trans (ag _ b 4 v4);exact⟨run_loadVar_mid (P:=P) _ b 0 ty [v0,v1,v2,v3,v4] _ cR.range hu hd hi,bu.below hb hn,bu⟩
theorem afB {w:World}{b:Nat}{ty:TypeId}{z0 z1 z2 z3:Value}(h:au w b ty [z0,z1,z2,z3]):(w.cell? ⟨b,0,none⟩=some z0∧w.cell? ⟨b,1,none⟩=some z1∧w.cell? ⟨b,2,none⟩=some z2∧w.cell? ⟨b,3,none⟩=some z3)∧w.frozen? ⟨b,0,none⟩=false∧w.frozen? ⟨b,1,none⟩=false∧w.frozen? ⟨b,2,none⟩=false∧w.frozen? ⟨b,3,none⟩=false:=
 ⟨⟨h.c 0 rfl,h.c 1 rfl,h.c 2 rfl,h.c 3 rfl⟩,h.f 0,h.f 1,h.f 2,h.f 3⟩
theorem dN {w:World}{b:Nat}{ty:TypeId}{z0 z1 z2 z3 z4:Value}(h:au w b ty [z0,z1,z2,z3,z4]):(w.cell? ⟨b,0,none⟩=some z0∧w.cell? ⟨b,1,none⟩=some z1∧w.cell? ⟨b,2,none⟩=some z2∧w.cell? ⟨b,3,none⟩=some z3∧w.cell? ⟨b,4,none⟩=some z4)∧w.frozen? ⟨b,0,none⟩=false∧w.frozen? ⟨b,1,none⟩=false∧w.frozen? ⟨b,2,none⟩=false∧w.frozen? ⟨b,3,none⟩=false∧w.frozen? ⟨b,4,none⟩=false:=
 ⟨⟨h.c 0 rfl,h.c 1 rfl,h.c 2 rfl,h.c 3 rfl,h.c 4 rfl⟩,h.f 0,h.f 1,h.f 2,h.f 3,h.f 4⟩
theorem kY {w:World}{b:Nat}{ty:TypeId}{vs cs:List Value}(h:au w b ty vs)(o n:Nat)(e:(vs.drop o).take n=cs):w.rangeAt b o cs:=fun j v hj=>by
 subst e;refine h.c (o+j) ?_;rw[List.getElem?_take] at hj
 split at hj
 ·rw[List.getElem?_drop] at hj
  exact hj
 ·cases hj
theorem tk {P:Program}{md:Region.Mode}{ops:Array Oper}{Q:Exit→Act→World→Prop}{S:World→Prop}{oi:Oper}{fuel:Nat}{listed:Array Bool}{a:Act}{w:World}(i:Nat)(v:Value)(hi:ops[i]? =some oi)
  (hb:(Region.noSelect ops&&(Region.free md ops listed i&&((Region.ready md ops listed).contains i&&Region.wanted oi (yielded ops a.tmps))))=true)
  (hQ: ∀c a w,Q (.panic c) (a.put oi.dst v) w→Q (.panic c) a w) (hv: ∀w0,S w0→(execOp a.eval oi).run P w0= .ok (.value v) w0) (hS:S w)
  (h:wpAnyH P md ops Q S fuel (listed.setIfInBounds i true) (a.put oi.dst v) w):wpAnyH P md ops Q S (fuel+1) listed a w:=by
 simp only[Bool.and_eq_true] at hb;exact wpAnyH_take hi hb.1 hb.2.1 hb.2.2.1 hQ (Or.inl ⟨hb.2.2.2,hv⟩) hS h
theorem mu {w:World}{b n:Nat}{ty:TypeId}{v:Value}(h:Rd w .i64 v (Dg.dg 65536 n))(hl:au w b ty (yoL 0 false false (.slice none 0 0) 0)):wF b v (Dg.dg 65536 n):=
 cq h (Dg.norm_dg _ _ (by omega)) hl (fun x hx n hn=>by simp at hx;rcases hx with rfl|rfl|rfl|rfl|rfl<;>simp;all_goals omega)
def Rp (w:World)(q r d:Nat)(e:Ending)(w':World):Prop:=
 ∃v1 v2 v3,e= .returned (.tuple #[v1,v2,v3])∧Rd w' .i64 v1 (Dg.dg 65536 q)∧Rd w' .i64 v2 (Dg.dg 65536 r)∧Rd w' .i64 v3 (Dg.dg 65536 d)∧yB w w'
theorem Jh (n k L j:Nat)(h:(Dg.dg 65536 n).length≤L)(hk:k≤16*j):(Dg.dg 65536 (n*2^k)).length≤L+j:=by
 apply Dg.dg_len_le 65536 _ _ (by omega);have h1:=Dg.vl_lt 65536 (Dg.dg 65536 n) (Dg.small_dg _ _ (by omega));rw[Dg.vl_dg _ _ (by omega)] at h1;have h2:65536^ (Dg.dg 65536 n).length≤65536^L:=Nat.pow_le_pow_right (by omega) h;have h3:2^k≤65536^j:=by
  rw[show(65536:Nat)=2^16 from rfl,←Nat.pow_mul]
  exact Nat.pow_le_pow_right (by omega) hk
 rw[Nat.pow_add];exact Nat.lt_of_lt_of_le (Nat.mul_lt_mul_of_pos_right (Nat.lt_of_lt_of_le h1 h2) (Nat.pow_pos (by omega))) (Nat.mul_le_mul_left _ h3)
theorem GB {N:Nat}{n:Int}(h:(Dg.dg 65536 N).length≤100000)(hn:n≤900000):(Dg.dg 65536 (eZ N n)).length≤160000:=by
 rw[fw];exact Nat.le_trans (Jh N n.toNat 100000 56251 h (by omega)) (by omega)
theorem GC {M:Nat}{n:Int}(h:(Dg.dg 65536 M).length≤100000)(hn: -900000≤n):(Dg.dg 65536 (dX M n)).length≤160000:=by
 rw[eM];exact Nat.le_trans (Jh M (-n).toNat 100000 56251 h (by omega)) (by omega)
theorem N8 {M:Nat}(n:Int)(hM:0<M):0<dX M n:=by
 rw[eM];exact Nat.mul_pos hM (bG _)
theorem BM (qs:Bool)(ao:Option Addr)(la ca:Nat)(bo:Option Addr)(lb cb:Nat)(N M:Nat)(E n:Int)(w:World)
  (ha:Rd w .i64 (.slice ao la ca) (Dg.dg 65536 N)) (hb:Rd w .i64 (.slice bo lb cb) (Dg.dg 65536 M)) (hla:(Dg.dg 65536 N).length≤100000) (hlb:(Dg.dg 65536 M).length≤100000) (hM:0<M) (n1: -900000≤E-n) (n2:E-n≤900000):
  yC 147 #[yrV qs (.slice ao la ca) (.slice bo lb cb) E,yi n] w (Rp w (eZ N (E-n)/dX M (E-n)) (eZ N (E-n) % dX M (E-n)) (dX M (E-n))):=by
 have b1:=af w (.cells (yrA qs (.slice ao la ca) (.slice bo lb cb) E) 66);have l1:=ah w (yrL qs (.slice ao la ca) (.slice bo lb cb) E) 66;have hX:=GB (n:=E-n) hla n2;have hY:=GC (n:=E-n) hlb n1;have hY0:=N8 (E-n) hM;have HIN:Hid (∀v u w1,Rd w1 .i64 v (Dg.dg 65536 (eZ N (E-n)))→Rd w1 .i64 u (Dg.dg 65536 (dX M (E-n)))→yC 132 #[v,u] w1 (JI w1 (eZ N (E-n)/dX M (E-n)) (eZ N (E-n) % dX M (E-n)))):=fun v u w1 r1 r2=>
  qM v u _ _ w1 r1 r2 (by omega) (by omega) hY0
 have HSN:Hid (∀w1,yB w w1→n≤E→yC 74 #[.slice ao la ca,yi (E-n)] w1 (cG w1 (eZ N (E-n)))):=fun w1 b hn=>by
  have:=kD _ _ (E-n).toNat w1 (ha.l b) (Dg.small_dg _ _ (by omega)) (by omega) (by omega);rw[Dg.vl_dg _ _ (by omega),←fw,Int.toNat_of_nonneg (by omega)] at this;exact this
 have HSD:Hid (∀w1,yB w w1→ ¬n≤E→yC 74 #[.slice bo lb cb,yi (n-E)] w1 (cG w1 (dX M (E-n)))):=fun w1 b hn=>by
  have:=kD _ _ (n-E).toNat w1 (hb.l b) (Dg.small_dg _ _ (by omega)) (by omega) (by omega);rw[Dg.vl_dg _ _ (by omega),Int.toNat_of_nonneg (by omega),show n-E= -(E-n) by omega,←eM] at this
  rw[show n-E= -(E-n) by omega]
  exact this
 have HN0:Hid (¬n≤E→eZ N (E-n)=N):=fun h=>if_pos (by omega)
 have HD0:Hid (n≤E→dX M (E-n)=M):=fun h=>if_neg (by omega)
 have RA:Hid (Rd _ _ _ _):=ha.l b1;have RB:Hid (Rd _ _ _ _):=hb.l b1;have W1:IntKind.i64.wrap (E-n)=E-n:=IntWalk.i64_in _ ⟨by omega,by omega⟩;have W2:IntKind.i64.wrap (n-E)=n-E:=IntWalk.i64_in _ ⟨by omega,by omega⟩;obtain⟨X,hX⟩: ∃X,eZ N (E-n)=X:=⟨_,rfl⟩;obtain⟨Y,hY⟩: ∃Y,dX M (E-n)=Y:=⟨_,rfl⟩;rw[hX] at HIN HSN HN0⊢;rw[hY] at HIN HSD HD0⊢;clear ha hb hla hlb hX hY hY0 hM;have c1:=l1.c 1 rfl;have c2:=l1.c 2 rfl;have c3:=l1.c 3 rfl
 by_cases hn:n≤E
 ·obtain rfl:=HD0.out hn
  go_enter func147,ntmps147
  go_wp2_with fail
  go_quiet (fail)
  have bd:=aL b1 nq;have rb:=Rd.l RB.out (aL (Below.refl _ _) nq)
  go_wp2_with fail
  refine(HSN.out _ bd hn).mono ?_;rintro z w2 ⟨v2,rfl,r2,b2⟩;have b02:=aa bd b2;have rb2:=rb.l b2
  go_wp2_with fail
  refine(HIN.out _ _ _ r2 rb2).mono ?_;rintro z w3 ⟨v3,v4,rfl,r3,r4,b3⟩;have b03:=aa b02 b3
  go_wp2
  go_ret3
  exact⟨_,_,_,rfl,r3,r4,rb2.l b3,b03⟩
 ·have hnf:decide (n≤E)=false:=by simp;omega
  obtain rfl:=HN0.out hn
  go_enter func147,ntmps147
  go_wp2_with fail
  go_quiet (fail)
  have bd:=aL b1 nq;have ra:=Rd.l RA.out (aL (Below.refl _ _) nq)
  go_wp2_with fail
  refine(HSD.out _ bd hn).mono ?_;rintro z w2 ⟨v2,rfl,r2,b2⟩;have b02:=aa bd b2;have ra2:=ra.l b2
  go_wp2_with fail
  refine(HIN.out _ _ _ ra2 r2).mono ?_;rintro z w3 ⟨v3,v4,rfl,r3,r4,b3⟩;have b03:=aa b02 b3
  go_wp2
  go_ret3
  exact⟨_,_,_,rfl,r3,r4,r2.l b3,b03⟩
theorem Rd.setC {w:World}{k:IntKind}{v:Value}{zs:List Nat}(h:Rd w k v zs){b i:Nat}{x:Value}(hx:w.cell? ⟨b,i,none⟩=some x)(hn: ∀n:Int,x≠ .int k n)(y:Value):Rd (w.setCell ⟨b,i,none⟩ y) k v zs:=by
 obtain⟨ao,cap,rfl,h1,h2,h3⟩:=h;refine⟨ao,cap,rfl,h1,h2,fun hp=> ?_⟩
 obtain⟨g,off,rfl,hc⟩:=h3 hp;refine⟨g,off,rfl,fun j hj=> ?_⟩
 have hj:=hc j hj;have hne:(⟨b,i,none⟩:Addr)≠⟨g,off+j,none⟩:=by
  intro e;rw[←e,hx] at hj;exact hn _ (Option.some.inj hj)
 exact(World.cell?_setCell_other _ _ _ _ hne).trans hj
theorem ZQ (n wh pt:Nat)(w:World)(hn:n=16*wh+pt)(hpt:pt<16)(hnl:n≤1000000):
  yC 114 #[yi n] w fun e w'=> ∃v,e= .returned v∧Own w' w.heap.size 3 .i64 v (Dg.dg 65536 (2^n))∧yB w w':=by
 have hd:=C6 wh pt hpt;rw[←hn] at hd;obtain⟨i0,hi,hz0,hz1,hz2⟩:=info_parts Tryz.infoI64;have hq:(n:Int)/16=(wh:Int):=by omega
 have hr:(n:Int) % 16=(pt:Int):=by omega
 have hwl:wh≤1000000:=by omega
 have HD:Hid ((List.replicate (wh+1) 0).set wh (2^pt)=Dg.dg 65536 (2^n)):=hd;clear hd hn
 go_enter func114,ntmps114
 go_wp2_with (at_make;refine wpList_make_full _ rfl _ _ 28 rfl w.heap.size 3 i0 (yi 0) 1 underlying28 hi hz0 hz1 _ _ _ _ (wh+1) rfl rfl (by omega) (by omega) ?b2 ?b3 (Nat.le_refl _) ?_)
 case b2=>rw[hz2];omega
 case b3=>unfold maxLen;omega
 intro w0 hown0 hgrow0;have own0:=gL hown0;have bel0:yB w w0:=(Below.refl _ _).grown hgrow0 (Nat.le_refl _) (fun k h=>by cases h)
 clear hown0 hgrow0
 go_wp2
 go_loop [4,5] (fun dv iv=> ∃k d:Nat,k≤pt∧iv=yi k∧dv=yi d∧Hid (d=2^k)) (fun _ iv=>pt-(intOf iv).toNat)
 case atStart=>exact⟨0,1,Nat.zero_le _,rfl,rfl,rfl⟩
 case round=>
  obtain⟨k,d,hk,rfl,rfl,hdk⟩:=hrel;have hdl:d≤65536:=by
   rw[hdk.out];have:2^k≤2^15:=Nat.pow_le_pow_right (by omega) (by omega);omega
  by_cases hlt:k<pt
  ·go_wp2
   go_round
   case rel=>exact⟨k+1,2*d,by omega,by go_num,by go_num,by rw[show d=2^k from hdk.out,Nat.pow_succ];exact Nat.mul_comm _ _⟩
   case measure=>simp[intOf];omega
  ·have hke:k=pt:=by omega
   subst hke;have hc:=own0.c wh (by simp);have hf:=own0.f wh;have own2:=own0.store wh d;have bel2:=bel0.setCell (p:=⟨w.heap.size,wh,none⟩) (by exact Nat.le_refl _) (yi (d:Int));have hdd:=hdk.out;rw[show(List.replicate (wh+1) 0).set wh d=Dg.dg 65536 (2^n) from by rw[hdd];exact HD.out] at own2
   have HO:Hid _:=own2;have rd2:=own2.rd;clear hdd own2
   go_wp2
   go_ret
   exact⟨_,rfl,HO.out,bel2⟩
end Go.Proofs.YtnhackdjplppjaaGreatDoor
