/-
  Texts laid together: Gb8.
-/
import Derived.Test.YtnhackdjplppjaaGreatDoorSp30
set_option maxRecDepth 100000
namespace Go.Proofs.YtnhackdjplppjaaGreatDoor
open Go.RowKit
set_option maxHeartbeats 3200000 in
theorem fused1_flag (cp fp:Int) (gp:Bool) (p:Trip) (cx cy cz:Int) (n wy fam R D L G:Int) (gr:Bool) (gx gy gz:Bool) (x y z:Trip) (xo yo zo:Option Addr) (xc yc zc:Nat) (g cap:Nat) (w:World) (hf:(fp==0)=false) (h0:w.rangeAt g 0 (yOL cx gx x xo xc)) (h1:w.rangeAt g 5 (yOL cy gy y yo yc)) (h2:w.rangeAt g 10 (yOL cz gz z zo zc))
  (HP: ∀w1,Below w.heap.size w w1→Calls Tryz.prog 65 #[ykV n wy fam R D L G gr,yOV cx gx x xo xc,yOV cy gy y yo yc] w1 (OpRes2 w1 cp gp p fp)):
  Calls Tryz.prog 71 #[ykV n wy fam R D L G gr,.slice (some ⟨g,0,none⟩) 3 cap] w (OpRes2 w cp gp p fp):=by
 replace HP:Hid _:=HP;have hgl:g<w.heap.size:=World.block_lt_of_cell? w _ (h0 0 _ rfl);obtain⟨W4,hW5,q1,q2,b3⟩:=ent2 w (ykL n wy fam R D L G gr) 93 (yoL 0 false false (.slice none 0 0) 0) 98;replace hW5:Hid _:=hW5;have q6:=range_later h0 b3;have q7:=range_later h1 b3;have q8:=range_later h2 b3;clear h0 h1 h2
 go_enter Tryz.func71,Tryz.ntmps71
 go_upto_region 1 with fail
 rw[hW5.out];clear hW5
 go_upto_region 1 with fail
 have bW9:Below W4.heap.size W4 W4.drew:=(Below.refl _ _).drew;have q10:=range_later q6 bW9;have q11:=range_later q7 bW9;have q12:=q1.later bW9;have q13:=q2.later bW9;have b14:=below_trans b3 bW9;clear q6 q7 q8 q1 q2 b3 bW9;refine wp_region_held_drew (S:=fun wq=>wq.rangeAt g 0 (yOL cx gx x xo xc)∧wq.rangeAt g 5 (yOL cy gy y yo yc)∧LocE wq w.heap.size 93 (ykL n wy fam R D L G gr)) (by kernel_rfl) ⟨q10,q11,q12⟩ (fun hS0=> ?_)
 generalize W4.drew=WD15 at q10 q11 q12 q13 b14 hS0⊢;refine tk 0 (ykV n wy fam R D L G gr) rfl (by kernel_rfl) (fun _ _ _ h=>h) (fun _ hw0=>xrow 93 (.tmp 2) rfl w.heap.size 0 (by kernel_rfl) _ _ hw0.2.2.range Tryz.underlying93 rfl (by kernel_rfl)) hS0 ?_
 refine tk 1 (.slice (some ⟨g,0,none⟩) 3 cap) rfl (by kernel_rfl) (fun _ _ _ h=>h) (fun _ _=>by kernel_rfl) hS0 ?_
 refine tk 2 (.pointer (some ⟨g,0,none⟩)) rfl (by kernel_rfl) (fun _ _ _ h=>h) (fun _ _=>by kernel_rfl) hS0 ?_
 refine tk 3 (yOV cx gx x xo xc) rfl (by kernel_rfl) (fun _ _ _ h=>h) (fun _ hw0=>xrow 98 (.tmp 11) rfl g 0 (by kernel_rfl) _ _ hw0.1 Tryz.underlying98 rfl (by kernel_rfl)) hS0 ?_
 refine tk 4 (.slice (some ⟨g,0,none⟩) 3 cap) rfl (by kernel_rfl) (fun _ _ _ h=>h) (fun _ _=>by kernel_rfl) hS0 ?_
 refine tk 5 (.pointer (some ⟨g,5,none⟩)) rfl (by kernel_rfl) (fun _ _ _ h=>h) (fun _ _=>by kernel_rfl) hS0 ?_
 refine tk 6 (yOV cy gy y yo yc) rfl (by kernel_rfl) (fun _ _ _ h=>h) (fun _ hw0=>xrow 98 (.tmp 14) rfl g 5 (by kernel_rfl) _ _ hw0.2.1 Tryz.underlying98 rfl (by kernel_rfl)) hS0 ?_
 refine wpAnyH_ready (rs:=[7,11]) (by kernel_rfl) (by simp) ?_;refine AllReadyH.cons rfl (fun K hK=> ?_) (AllReadyH.cons rfl (fun K hK=> ?_) AllReadyH.nil)
 ·go_simp
  refine(HP.out _ b14).mono ?_;rintro zz w16 ⟨v118,rfl,r119,bb17⟩;have q20:=range_later q10 bb17;have q21:=range_later q11 bb17;have q22:=q12.later bb17;have q23:=q13.later bb17;have b24:=below_trans b14 bb17;obtain⟨po,pc,hv⟩:=r119.shape;subst hv;clear q10 q11 q12 q13 b14 bb17 HP;refine hK.out _ _ ⟨q20,q21,q22⟩ (fun hS25=> ?_)
  clear hK K;refine tk 8 (.tuple #[yOV cp gp p po pc,yi fp]) rfl (by kernel_rfl) (fun _ _ _ h=>h) (fun _ _=>by kernel_rfl) hS25 ?_
  refine tk 9 (yOV cp gp p po pc) rfl (by kernel_rfl) (fun _ _ _ h=>h) (fun _ _=>by go_simp) hS25 ?_
  refine tk 10 (yi fp) rfl (by kernel_rfl) (fun _ _ _ h=>h) (fun _ _=>by go_simp) hS25 ?_
  refine wpAnyH_ready (rs:=[11]) (by kernel_rfl) (by simp) ?_;refine AllReadyH.cons rfl (fun K hK=> ?_) AllReadyH.nil
  go_simp
  have al26:=below_alloc w16 (.cells (yoL 0 false false (.slice none 0 0) 0).toArray 98);have q27:=locE_new w16 (yoL 0 false false (.slice none 0 0) 0) 98;have hl30:w.heap.size≤w16.heap.size:=b24.size;have hl31:=q22.lt;have hl32:=q23.lt;have q33:=range_later q20 al26;have q34:=range_later q21 al26;have q35:=q22.later al26;have q36:=q23.later al26;have r37:=r119.later al26;have b38:=below_trans b24 al26;refine hK.out _ _ ⟨q33,q34,q35⟩ (fun hS39=> ?_)
  clear hK K;clear q20 q21 q22 q23 r119 b24 al26;generalize w16.alloc (.cells (yoL 0 false false (.slice none 0 0) 0).toArray 98)=WN28 at q33 q34 q35 q36 q27 r37 b38 hS39⊢;generalize w16.heap.size=PQ29 at q27 hl30 hl31 hl32⊢;refine wpAnyH_ready (rs:=[12]) (by kernel_rfl) (by simp) ?_;refine AllReadyH.cons rfl (fun K hK=> ?_) AllReadyH.nil
  have bu:But PQ29 WN28 (WN28.setCells PQ29 0 (yOL cp gp p po pc)):=but_sets _ _ _ _;have hth:WN28.there PQ29 0 5:=there_of q27;have q40:LocE (WN28.setCells PQ29 0 (yOL cp gp p po pc)) PQ29 98 (yOL cp gp p po pc):=q27.sets _ rfl;have r41:=bu.rd r37 (rd_offU r37 q27 (by simp));have q42:=but_range bu q33 (by omega);have q43:=but_range bu q34 (by omega);have q44:=bu.loc q35 (by omega);have q45:=bu.loc q36 (by omega);have b46:=bu.below b38 (by omega);rw[if_pos (by kernel_rfl)];refine wp_store_mid 98 (.tmp 6) (.tmp 17) rfl PQ29 0 (yOL cp gp p po pc).toArray (by kernel_rfl) (by kernel_rfl) hth (by kernel_rfl) (by simp[Value.oneCell']) ?_;refine hK.out _ _ ⟨q42,q43,q44⟩ (fun hS47=> ?_)
  clear hK K;clear q27 r37 q33 q34 q35 q36 b38 bu hth;refine tk 13 (yi fp) rfl (by kernel_rfl) (fun _ _ _ h=>h) (fun _ _=>by kernel_rfl) hS47 ?_
  refine wpAnyH_done (by kernel_rfl) ?_ _;clear hS0 hS25 hS39 hS47;change Exit.then _ _ _ _ (World.setCells WN28 PQ29 0 (yOL cp gp p po pc));generalize World.setCells WN28 PQ29 0 (yOL cp gp p po pc)=W48 at q42 q43 q44 q45 q40 r41 b46⊢;simp only[Act.put,List.getElem_toArray,List.getElem_cons_succ,List.getElem_cons_zero,List.setIfInBounds_toArray,List.set_cons_zero,List.set_cons_succ];obtain⟨c49,c50,c51,c52,c53⟩:=q40.cs5;have hf:=fin5 (P:=Tryz.prog) q45 b46 (by omega) Tryz.underlying98 rfl (by kernel_rfl) (yi cp) (.bool gp) (.bool p.s) (.slice po (Dg.dg 4294967296 p.n).length pc) (yi p.e);have HH:Hid (_∧_∧_):=⟨hf.1,hf.2.2.rd r41 (rd_offU r41 q45 (by simp)),hf.2.1⟩;obtain⟨⟨z0,z1,z2,z3,z4⟩,y0,y1,y2,y3,y4⟩:=csf5 q45;clear hf q42 q43 q44 q45 q40 r41 b46
  go_wp2
  obtain⟨hl,rRp,bR⟩:=HH.out;exact bodyPost_ret (results_two Tryz.results71 rfl rfl hl) rfl ⟨_,rfl,rRp,bR⟩
 ·go_simp
  have al16:=below_alloc WD15 (.cells (yoL 0 false false (.slice none 0 0) 0).toArray 98);have q17:=locE_new WD15 (yoL 0 false false (.slice none 0 0) 0) 98;have hl20:w.heap.size≤WD15.heap.size:=b14.size;have hl21:=q12.lt;have hl22:=q13.lt;have q23:=range_later q10 al16;have q24:=range_later q11 al16;have q25:=q12.later al16;have q26:=q13.later al16;have b27:=below_trans b14 al16;refine hK.out _ _ ⟨q23,q24,q25⟩ (fun hS28=> ?_)
  clear hK K;clear q10 q11 q12 q13 b14 al16;generalize WD15.alloc (.cells (yoL 0 false false (.slice none 0 0) 0).toArray 98)=WN18 at q23 q24 q25 q26 q17 b27 hS28⊢;generalize WD15.heap.size=PQ19 at q17 hl20 hl21 hl22⊢;refine wpAnyH_ready (rs:=[7]) (by kernel_rfl) (by simp) ?_;refine AllReadyH.cons rfl (fun K hK=> ?_) AllReadyH.nil
  go_simp
  refine(HP.out _ b27).mono ?_;rintro zz w29 ⟨v131,rfl,r132,bb30⟩;have q33:=range_later q23 bb30;have q34:=range_later q24 bb30;have q35:=q25.later bb30;have q36:=q26.later bb30;have q37:=q17.later bb30;have b38:=below_trans b27 bb30;obtain⟨po,pc,hv⟩:=r132.shape;subst hv;clear q23 q24 q25 q26 q17 b27 bb30 HP;refine hK.out _ _ ⟨q33,q34,q35⟩ (fun hS39=> ?_)
  clear hK K;refine tk 8 (.tuple #[yOV cp gp p po pc,yi fp]) rfl (by kernel_rfl) (fun _ _ _ h=>h) (fun _ _=>by kernel_rfl) hS39 ?_
  refine tk 9 (yOV cp gp p po pc) rfl (by kernel_rfl) (fun _ _ _ h=>h) (fun _ _=>by go_simp) hS39 ?_
  refine tk 10 (yi fp) rfl (by kernel_rfl) (fun _ _ _ h=>h) (fun _ _=>by go_simp) hS39 ?_
  refine wpAnyH_ready (rs:=[12]) (by kernel_rfl) (by simp) ?_;refine AllReadyH.cons rfl (fun K hK=> ?_) AllReadyH.nil
  have bu:But PQ19 w29 (w29.setCells PQ19 0 (yOL cp gp p po pc)):=but_sets _ _ _ _;have hth:w29.there PQ19 0 5:=there_of q37;have q40:LocE (w29.setCells PQ19 0 (yOL cp gp p po pc)) PQ19 98 (yOL cp gp p po pc):=q37.sets _ rfl;have r41:=bu.rd r132 (rd_offU r132 q37 (by simp));have q42:=but_range bu q33 (by omega);have q43:=but_range bu q34 (by omega);have q44:=bu.loc q35 (by omega);have q45:=bu.loc q36 (by omega);have b46:=bu.below b38 (by omega);rw[if_pos (by kernel_rfl)];refine wp_store_mid 98 (.tmp 6) (.tmp 17) rfl PQ19 0 (yOL cp gp p po pc).toArray (by kernel_rfl) (by kernel_rfl) hth (by kernel_rfl) (by simp[Value.oneCell']) ?_;refine hK.out _ _ ⟨q42,q43,q44⟩ (fun hS47=> ?_)
  clear hK K;clear q37 r132 q33 q34 q35 q36 b38 bu hth;refine tk 13 (yi fp) rfl (by kernel_rfl) (fun _ _ _ h=>h) (fun _ _=>by kernel_rfl) hS47 ?_
  refine wpAnyH_done (by kernel_rfl) ?_ _;clear hS0 hS28 hS39 hS47;change Exit.then _ _ _ _ (World.setCells w29 PQ19 0 (yOL cp gp p po pc));generalize World.setCells w29 PQ19 0 (yOL cp gp p po pc)=W48 at q42 q43 q44 q45 q40 r41 b46⊢;simp only[Act.put,List.getElem_toArray,List.getElem_cons_succ,List.getElem_cons_zero,List.setIfInBounds_toArray,List.set_cons_zero,List.set_cons_succ];obtain⟨c49,c50,c51,c52,c53⟩:=q40.cs5;have hf:=fin5 (P:=Tryz.prog) q45 b46 (by omega) Tryz.underlying98 rfl (by kernel_rfl) (yi cp) (.bool gp) (.bool p.s) (.slice po (Dg.dg 4294967296 p.n).length pc) (yi p.e);have HH:Hid (_∧_∧_):=⟨hf.1,hf.2.2.rd r41 (rd_offU r41 q45 (by simp)),hf.2.1⟩;obtain⟨⟨z0,z1,z2,z3,z4⟩,y0,y1,y2,y3,y4⟩:=csf5 q45;clear hf q42 q43 q44 q45 q40 r41 b46
  go_wp2
  obtain⟨hl,rRp,bR⟩:=HH.out;exact bodyPost_ret (results_two Tryz.results71 rfl rfl hl) rfl ⟨_,rfl,rRp,bR⟩
set_option maxHeartbeats 3200000 in
theorem fused1_W (cp:Int) (gp:Bool) (p:Trip) (cx cy cz c fl:Int) (gg:Bool) (t:Trip) (n wy fam R D L G:Int) (gr:Bool) (gx gy gz:Bool) (x y z:Trip) (xo yo zo:Option Addr) (xc yc zc:Nat) (g cap:Nat) (w:World) (h0:w.rangeAt g 0 (yOL cx gx x xo xc)) (h1:w.rangeAt g 5 (yOL cy gy y yo yc)) (h2:w.rangeAt g 10 (yOL cz gz z zo zc))
  (HP: ∀w1,Below w.heap.size w w1→Calls Tryz.prog 65 #[ykV n wy fam R D L G gr,yOV cx gx x xo xc,yOV cy gy y yo yc] w1 (OpRes2 w1 cp gp p 0))
  (HS: ∀po pc w1,Below w.heap.size w w1→Rd w1 .u32 (.slice po (Dg.dg 4294967296 p.n).length pc) (Dg.dg 4294967296 p.n)→Calls Tryz.prog 55 #[ykV n wy fam R D L G gr,yOV cp gp p po pc,yOV cz gz z zo zc] w1 (OpRes2 w1 c gg t fl)):
  Calls Tryz.prog 71 #[ykV n wy fam R D L G gr,.slice (some ⟨g,0,none⟩) 3 cap] w (OpRes2 w c gg t fl):=by
 replace HP:Hid _:=HP;replace HS:Hid _:=HS;have hgl:g<w.heap.size:=World.block_lt_of_cell? w _ (h0 0 _ rfl);obtain⟨W4,hW5,q1,q2,b3⟩:=ent2 w (ykL n wy fam R D L G gr) 93 (yoL 0 false false (.slice none 0 0) 0) 98;replace hW5:Hid _:=hW5;have q6:=range_later h0 b3;have q7:=range_later h1 b3;have q8:=range_later h2 b3;clear h0 h1 h2
 go_enter Tryz.func71,Tryz.ntmps71
 go_upto_region 1 with fail
 rw[hW5.out];clear hW5
 go_upto_region 1 with fail
 have bW9:Below W4.heap.size W4 W4.drew:=(Below.refl _ _).drew;have q10:=range_later q6 bW9;have q11:=range_later q7 bW9;have q12:=range_later q8 bW9;have q13:=q1.later bW9;have q14:=q2.later bW9;have b15:=below_trans b3 bW9;clear q6 q7 q8 q1 q2 b3 bW9;refine wp_region_held_drew (S:=fun wq=>wq.rangeAt g 0 (yOL cx gx x xo xc)∧wq.rangeAt g 5 (yOL cy gy y yo yc)∧LocE wq w.heap.size 93 (ykL n wy fam R D L G gr)) (by kernel_rfl) ⟨q10,q11,q13⟩ (fun hS0=> ?_)
 generalize W4.drew=WD16 at q10 q11 q12 q13 q14 b15 hS0⊢;refine tk 0 (ykV n wy fam R D L G gr) rfl (by kernel_rfl) (fun _ _ _ h=>h) (fun _ hw0=>xrow 93 (.tmp 2) rfl w.heap.size 0 (by kernel_rfl) _ _ hw0.2.2.range Tryz.underlying93 rfl (by kernel_rfl)) hS0 ?_
 refine tk 1 (.slice (some ⟨g,0,none⟩) 3 cap) rfl (by kernel_rfl) (fun _ _ _ h=>h) (fun _ _=>by kernel_rfl) hS0 ?_
 refine tk 2 (.pointer (some ⟨g,0,none⟩)) rfl (by kernel_rfl) (fun _ _ _ h=>h) (fun _ _=>by kernel_rfl) hS0 ?_
 refine tk 3 (yOV cx gx x xo xc) rfl (by kernel_rfl) (fun _ _ _ h=>h) (fun _ hw0=>xrow 98 (.tmp 11) rfl g 0 (by kernel_rfl) _ _ hw0.1 Tryz.underlying98 rfl (by kernel_rfl)) hS0 ?_
 refine tk 4 (.slice (some ⟨g,0,none⟩) 3 cap) rfl (by kernel_rfl) (fun _ _ _ h=>h) (fun _ _=>by kernel_rfl) hS0 ?_
 refine tk 5 (.pointer (some ⟨g,5,none⟩)) rfl (by kernel_rfl) (fun _ _ _ h=>h) (fun _ _=>by kernel_rfl) hS0 ?_
 refine tk 6 (yOV cy gy y yo yc) rfl (by kernel_rfl) (fun _ _ _ h=>h) (fun _ hw0=>xrow 98 (.tmp 14) rfl g 5 (by kernel_rfl) _ _ hw0.2.1 Tryz.underlying98 rfl (by kernel_rfl)) hS0 ?_
 refine wpAnyH_ready (rs:=[7,11]) (by kernel_rfl) (by simp) ?_;refine AllReadyH.cons rfl (fun K hK=> ?_) (AllReadyH.cons rfl (fun K hK=> ?_) AllReadyH.nil)
 ·go_simp
  refine(HP.out _ b15).mono ?_;rintro zz w17 ⟨v119,rfl,r120,bb18⟩;have q21:=range_later q10 bb18;have q22:=range_later q11 bb18;have q23:=range_later q12 bb18;have q24:=q13.later bb18;have q25:=q14.later bb18;have b26:=below_trans b15 bb18;obtain⟨po,pc,hv⟩:=r120.shape;subst hv;clear q10 q11 q12 q13 q14 b15 bb18 HP;refine hK.out _ _ ⟨q21,q22,q24⟩ (fun hS27=> ?_)
  clear hK K;refine tk 8 (.tuple #[yOV cp gp p po pc,yi 0]) rfl (by kernel_rfl) (fun _ _ _ h=>h) (fun _ _=>by kernel_rfl) hS27 ?_
  refine tk 9 (yOV cp gp p po pc) rfl (by kernel_rfl) (fun _ _ _ h=>h) (fun _ _=>by go_simp) hS27 ?_
  refine tk 10 (yi 0) rfl (by kernel_rfl) (fun _ _ _ h=>h) (fun _ _=>by go_simp) hS27 ?_
  refine wpAnyH_ready (rs:=[11]) (by kernel_rfl) (by simp) ?_;refine AllReadyH.cons rfl (fun K hK=> ?_) AllReadyH.nil
  go_simp
  have al28:=below_alloc w17 (.cells (yoL 0 false false (.slice none 0 0) 0).toArray 98);have q29:=locE_new w17 (yoL 0 false false (.slice none 0 0) 0) 98;have hl32:w.heap.size≤w17.heap.size:=b26.size;have hl33:=q24.lt;have hl34:=q25.lt;have q35:=range_later q21 al28;have q36:=range_later q22 al28;have q37:=range_later q23 al28;have q38:=q24.later al28;have q39:=q25.later al28;have r40:=r120.later al28;have b41:=below_trans b26 al28;refine hK.out _ _ ⟨q35,q36,q38⟩ (fun hS42=> ?_)
  clear hK K;clear q21 q22 q23 q24 q25 r120 b26 al28;generalize w17.alloc (.cells (yoL 0 false false (.slice none 0 0) 0).toArray 98)=WN30 at q35 q36 q37 q38 q39 q29 r40 b41 hS42⊢;generalize w17.heap.size=PQ31 at q29 hl32 hl33 hl34⊢;refine wpAnyH_ready (rs:=[12]) (by kernel_rfl) (by simp) ?_;refine AllReadyH.cons rfl (fun K hK=> ?_) AllReadyH.nil
  have bu:But PQ31 WN30 (WN30.setCells PQ31 0 (yOL cp gp p po pc)):=but_sets _ _ _ _;have hth:WN30.there PQ31 0 5:=there_of q29;have q43:LocE (WN30.setCells PQ31 0 (yOL cp gp p po pc)) PQ31 98 (yOL cp gp p po pc):=q29.sets _ rfl;have r44:=bu.rd r40 (rd_offU r40 q29 (by simp));have q45:=but_range bu q35 (by omega);have q46:=but_range bu q36 (by omega);have q47:=but_range bu q37 (by omega);have q48:=bu.loc q38 (by omega);have q49:=bu.loc q39 (by omega);have b50:=bu.below b41 (by omega);rw[if_pos (by kernel_rfl)];refine wp_store_mid 98 (.tmp 6) (.tmp 17) rfl PQ31 0 (yOL cp gp p po pc).toArray (by kernel_rfl) (by kernel_rfl) hth (by kernel_rfl) (by simp[Value.oneCell']) ?_;refine hK.out _ _ ⟨q45,q46,q48⟩ (fun hS51=> ?_)
  clear hK K;clear q29 r40 q35 q36 q37 q38 q39 b41 bu hth;refine tk 13 (yi 0) rfl (by kernel_rfl) (fun _ _ _ h=>h) (fun _ _=>by kernel_rfl) hS51 ?_
  refine wpAnyH_done (by kernel_rfl) ?_ _;clear hS0 hS27 hS42 hS51;change Exit.then _ _ _ _ (World.setCells WN30 PQ31 0 (yOL cp gp p po pc));generalize World.setCells WN30 PQ31 0 (yOL cp gp p po pc)=W52 at q45 q46 q47 q48 q49 q43 r44 b50⊢;simp only[Act.put,List.getElem_toArray,List.getElem_cons_succ,List.getElem_cons_zero,List.setIfInBounds_toArray,List.set_cons_zero,List.set_cons_succ]
  go_upto_region 4 with fail
  have bW53:Below W52.heap.size W52 W52.drew:=(Below.refl _ _).drew;have q54:=range_later q47 bW53;have q55:=q48.later bW53;have q56:=q49.later bW53;have q57:=q43.later bW53;have r58:=r44.later bW53;have b59:=below_trans b50 bW53;clear q45 q46 q47 q48 q49 q43 r44 b50 bW53;refine wp_region_held_drew (S:=fun wq=>wq.rangeAt g 10 (yOL cz gz z zo zc)∧LocE wq w.heap.size 93 (ykL n wy fam R D L G gr)∧LocE wq PQ31 98 (yOL cp gp p po pc)) (by kernel_rfl) ⟨q54,q55,q57⟩ (fun hS0=> ?_)
  generalize W52.drew=WD60 at q54 q55 q56 q57 r58 b59 hS0⊢;refine tk 0 (ykV n wy fam R D L G gr) rfl (by kernel_rfl) (fun _ _ _ h=>h) (fun _ hw0=>xrow 93 (.tmp 2) rfl w.heap.size 0 (by kernel_rfl) _ _ hw0.2.1.range Tryz.underlying93 rfl (by kernel_rfl)) hS0 ?_
  refine tk 1 (yOV cp gp p po pc) rfl (by kernel_rfl) (fun _ _ _ h=>h) (fun _ hw0=>xrow 98 (.tmp 6) rfl PQ31 0 (by kernel_rfl) _ _ hw0.2.2.range Tryz.underlying98 rfl (by kernel_rfl)) hS0 ?_
  refine tk 2 (.slice (some ⟨g,0,none⟩) 3 cap) rfl (by kernel_rfl) (fun _ _ _ h=>h) (fun _ _=>by kernel_rfl) hS0 ?_
  refine tk 3 (.pointer (some ⟨g,10,none⟩)) rfl (by kernel_rfl) (fun _ _ _ h=>h) (fun _ _=>by kernel_rfl) hS0 ?_
  refine tk 4 (yOV cz gz z zo zc) rfl (by kernel_rfl) (fun _ _ _ h=>h) (fun _ hw0=>xrow 98 (.tmp 26) rfl g 10 (by kernel_rfl) _ _ hw0.1 Tryz.underlying98 rfl (by kernel_rfl)) hS0 ?_
  refine wpAnyH_ready (rs:=[5]) (by kernel_rfl) (by simp) ?_;refine AllReadyH.cons rfl (fun K hK=> ?_) AllReadyH.nil
  go_simp
  refine(HS.out _ _ _ b59 r58).mono ?_;rintro zz w61 ⟨v163,rfl,r164,bb62⟩;have q65:=range_later q54 bb62;have q66:=q55.later bb62;have q67:=q56.later bb62;have q68:=q57.later bb62;have r69:=r58.later bb62;have b70:=below_trans b59 bb62;obtain⟨so,sc,hv⟩:=r164.shape;subst hv;clear q54 q55 q56 q57 r58 b59 bb62 HS;refine hK.out _ _ ⟨q65,q66,q68⟩ (fun hS71=> ?_)
  clear hK K;refine tk 6 (yOV c gg t so sc) rfl (by kernel_rfl) (fun _ _ _ h=>h) (fun _ _=>by go_simp) hS71 ?_
  refine tk 7 (yi fl) rfl (by kernel_rfl) (fun _ _ _ h=>h) (fun _ _=>by go_simp) hS71 ?_
  refine wpAnyH_ready (rs:=[8]) (by kernel_rfl) (by simp) ?_;refine AllReadyH.cons rfl (fun K hK=> ?_) AllReadyH.nil
  have bu:But (w.heap.size+1) w61 (w61.setCells (w.heap.size+1) 0 (yOL c gg t so sc)):=but_sets _ _ _ _;have hth:w61.there (w.heap.size+1) 0 5:=there_of q67;have q72:LocE (w61.setCells (w.heap.size+1) 0 (yOL c gg t so sc)) (w.heap.size+1) 98 (yOL c gg t so sc):=q67.sets _ rfl;have r73:=bu.rd r69 (rd_offU r69 q67 (by simp));have r74:=bu.rd r164 (rd_offU r164 q67 (by simp));have q75:=but_range bu q65 (by omega);have q76:=bu.loc q66 (by omega);have q77:=bu.loc q68 (by omega);have b78:=bu.below b70 (by omega);rw[if_pos (by kernel_rfl)];refine wp_store_mid 98 (.tmp 4) (.tmp 29) rfl (w.heap.size+1) 0 (yOL c gg t so sc).toArray (by kernel_rfl) (by kernel_rfl) hth (by kernel_rfl) (by simp[Value.oneCell']) ?_;refine hK.out _ _ ⟨q75,q76,q77⟩ (fun hS79=> ?_)
  clear hK K;clear q67 r69 r164 q65 q66 q68 b70 bu hth;refine tk 9 (yi fl) rfl (by kernel_rfl) (fun _ _ _ h=>h) (fun _ _=>by kernel_rfl) hS79 ?_
  refine wpAnyH_done (by kernel_rfl) ?_ _;clear hS0 hS71 hS79;change Exit.then _ _ _ _ (World.setCells w61 (w.heap.size+1) 0 (yOL c gg t so sc));generalize World.setCells w61 (w.heap.size+1) 0 (yOL c gg t so sc)=W80 at q75 q76 q72 q77 r73 r74 b78⊢;simp only[Act.put,List.getElem_toArray,List.getElem_cons_succ,List.getElem_cons_zero,List.setIfInBounds_toArray,List.set_cons_zero,List.set_cons_succ];have hl:=run_loadVar_mid (P:=Tryz.prog) _ (w.heap.size+1) 0 98 (yOL c gg t so sc) _ q72.range Tryz.underlying98 rfl (by kernel_rfl)
  go_wp2
  exact bodyPost_ret (results_two Tryz.results71 rfl rfl hl) rfl ⟨_,rfl,r74,b78⟩
 ·go_simp
  have al17:=below_alloc WD16 (.cells (yoL 0 false false (.slice none 0 0) 0).toArray 98);have q18:=locE_new WD16 (yoL 0 false false (.slice none 0 0) 0) 98;have hl21:w.heap.size≤WD16.heap.size:=b15.size;have hl22:=q13.lt;have hl23:=q14.lt;have q24:=range_later q10 al17;have q25:=range_later q11 al17;have q26:=range_later q12 al17;have q27:=q13.later al17;have q28:=q14.later al17;have b29:=below_trans b15 al17;refine hK.out _ _ ⟨q24,q25,q27⟩ (fun hS30=> ?_)
  clear hK K;clear q10 q11 q12 q13 q14 b15 al17;generalize WD16.alloc (.cells (yoL 0 false false (.slice none 0 0) 0).toArray 98)=WN19 at q24 q25 q26 q27 q28 q18 b29 hS30⊢;generalize WD16.heap.size=PQ20 at q18 hl21 hl22 hl23⊢;refine wpAnyH_ready (rs:=[7]) (by kernel_rfl) (by simp) ?_;refine AllReadyH.cons rfl (fun K hK=> ?_) AllReadyH.nil
  go_simp
  refine(HP.out _ b29).mono ?_;rintro zz w31 ⟨v133,rfl,r134,bb32⟩;have q35:=range_later q24 bb32;have q36:=range_later q25 bb32;have q37:=range_later q26 bb32;have q38:=q27.later bb32;have q39:=q28.later bb32;have q40:=q18.later bb32;have b41:=below_trans b29 bb32;obtain⟨po,pc,hv⟩:=r134.shape;subst hv;clear q24 q25 q26 q27 q28 q18 b29 bb32 HP;refine hK.out _ _ ⟨q35,q36,q38⟩ (fun hS42=> ?_)
  clear hK K;refine tk 8 (.tuple #[yOV cp gp p po pc,yi 0]) rfl (by kernel_rfl) (fun _ _ _ h=>h) (fun _ _=>by kernel_rfl) hS42 ?_
  refine tk 9 (yOV cp gp p po pc) rfl (by kernel_rfl) (fun _ _ _ h=>h) (fun _ _=>by go_simp) hS42 ?_
  refine tk 10 (yi 0) rfl (by kernel_rfl) (fun _ _ _ h=>h) (fun _ _=>by go_simp) hS42 ?_
  refine wpAnyH_ready (rs:=[12]) (by kernel_rfl) (by simp) ?_;refine AllReadyH.cons rfl (fun K hK=> ?_) AllReadyH.nil
  have bu:But PQ20 w31 (w31.setCells PQ20 0 (yOL cp gp p po pc)):=but_sets _ _ _ _;have hth:w31.there PQ20 0 5:=there_of q40;have q43:LocE (w31.setCells PQ20 0 (yOL cp gp p po pc)) PQ20 98 (yOL cp gp p po pc):=q40.sets _ rfl;have r44:=bu.rd r134 (rd_offU r134 q40 (by simp));have q45:=but_range bu q35 (by omega);have q46:=but_range bu q36 (by omega);have q47:=but_range bu q37 (by omega);have q48:=bu.loc q38 (by omega);have q49:=bu.loc q39 (by omega);have b50:=bu.below b41 (by omega);rw[if_pos (by kernel_rfl)];refine wp_store_mid 98 (.tmp 6) (.tmp 17) rfl PQ20 0 (yOL cp gp p po pc).toArray (by kernel_rfl) (by kernel_rfl) hth (by kernel_rfl) (by simp[Value.oneCell']) ?_;refine hK.out _ _ ⟨q45,q46,q48⟩ (fun hS51=> ?_)
  clear hK K;clear q40 r134 q35 q36 q37 q38 q39 b41 bu hth;refine tk 13 (yi 0) rfl (by kernel_rfl) (fun _ _ _ h=>h) (fun _ _=>by kernel_rfl) hS51 ?_
  refine wpAnyH_done (by kernel_rfl) ?_ _;clear hS0 hS30 hS42 hS51;change Exit.then _ _ _ _ (World.setCells w31 PQ20 0 (yOL cp gp p po pc));generalize World.setCells w31 PQ20 0 (yOL cp gp p po pc)=W52 at q45 q46 q47 q48 q49 q43 r44 b50⊢;simp only[Act.put,List.getElem_toArray,List.getElem_cons_succ,List.getElem_cons_zero,List.setIfInBounds_toArray,List.set_cons_zero,List.set_cons_succ]
  go_upto_region 4 with fail
  have bW53:Below W52.heap.size W52 W52.drew:=(Below.refl _ _).drew;have q54:=range_later q47 bW53;have q55:=q48.later bW53;have q56:=q49.later bW53;have q57:=q43.later bW53;have r58:=r44.later bW53;have b59:=below_trans b50 bW53;clear q45 q46 q47 q48 q49 q43 r44 b50 bW53;refine wp_region_held_drew (S:=fun wq=>wq.rangeAt g 10 (yOL cz gz z zo zc)∧LocE wq w.heap.size 93 (ykL n wy fam R D L G gr)∧LocE wq PQ20 98 (yOL cp gp p po pc)) (by kernel_rfl) ⟨q54,q55,q57⟩ (fun hS0=> ?_)
  generalize W52.drew=WD60 at q54 q55 q56 q57 r58 b59 hS0⊢;refine tk 0 (ykV n wy fam R D L G gr) rfl (by kernel_rfl) (fun _ _ _ h=>h) (fun _ hw0=>xrow 93 (.tmp 2) rfl w.heap.size 0 (by kernel_rfl) _ _ hw0.2.1.range Tryz.underlying93 rfl (by kernel_rfl)) hS0 ?_
  refine tk 1 (yOV cp gp p po pc) rfl (by kernel_rfl) (fun _ _ _ h=>h) (fun _ hw0=>xrow 98 (.tmp 6) rfl PQ20 0 (by kernel_rfl) _ _ hw0.2.2.range Tryz.underlying98 rfl (by kernel_rfl)) hS0 ?_
  refine tk 2 (.slice (some ⟨g,0,none⟩) 3 cap) rfl (by kernel_rfl) (fun _ _ _ h=>h) (fun _ _=>by kernel_rfl) hS0 ?_
  refine tk 3 (.pointer (some ⟨g,10,none⟩)) rfl (by kernel_rfl) (fun _ _ _ h=>h) (fun _ _=>by kernel_rfl) hS0 ?_
  refine tk 4 (yOV cz gz z zo zc) rfl (by kernel_rfl) (fun _ _ _ h=>h) (fun _ hw0=>xrow 98 (.tmp 26) rfl g 10 (by kernel_rfl) _ _ hw0.1 Tryz.underlying98 rfl (by kernel_rfl)) hS0 ?_
  refine wpAnyH_ready (rs:=[5]) (by kernel_rfl) (by simp) ?_;refine AllReadyH.cons rfl (fun K hK=> ?_) AllReadyH.nil
  go_simp
  refine(HS.out _ _ _ b59 r58).mono ?_;rintro zz w61 ⟨v163,rfl,r164,bb62⟩;have q65:=range_later q54 bb62;have q66:=q55.later bb62;have q67:=q56.later bb62;have q68:=q57.later bb62;have r69:=r58.later bb62;have b70:=below_trans b59 bb62;obtain⟨so,sc,hv⟩:=r164.shape;subst hv;clear q54 q55 q56 q57 r58 b59 bb62 HS;refine hK.out _ _ ⟨q65,q66,q68⟩ (fun hS71=> ?_)
  clear hK K;refine tk 6 (yOV c gg t so sc) rfl (by kernel_rfl) (fun _ _ _ h=>h) (fun _ _=>by go_simp) hS71 ?_
  refine tk 7 (yi fl) rfl (by kernel_rfl) (fun _ _ _ h=>h) (fun _ _=>by go_simp) hS71 ?_
  refine wpAnyH_ready (rs:=[8]) (by kernel_rfl) (by simp) ?_;refine AllReadyH.cons rfl (fun K hK=> ?_) AllReadyH.nil
  have bu:But (w.heap.size+1) w61 (w61.setCells (w.heap.size+1) 0 (yOL c gg t so sc)):=but_sets _ _ _ _;have hth:w61.there (w.heap.size+1) 0 5:=there_of q67;have q72:LocE (w61.setCells (w.heap.size+1) 0 (yOL c gg t so sc)) (w.heap.size+1) 98 (yOL c gg t so sc):=q67.sets _ rfl;have r73:=bu.rd r69 (rd_offU r69 q67 (by simp));have r74:=bu.rd r164 (rd_offU r164 q67 (by simp));have q75:=but_range bu q65 (by omega);have q76:=bu.loc q66 (by omega);have q77:=bu.loc q68 (by omega);have b78:=bu.below b70 (by omega);rw[if_pos (by kernel_rfl)];refine wp_store_mid 98 (.tmp 4) (.tmp 29) rfl (w.heap.size+1) 0 (yOL c gg t so sc).toArray (by kernel_rfl) (by kernel_rfl) hth (by kernel_rfl) (by simp[Value.oneCell']) ?_;refine hK.out _ _ ⟨q75,q76,q77⟩ (fun hS79=> ?_)
  clear hK K;clear q67 r69 r164 q65 q66 q68 b70 bu hth;refine tk 9 (yi fl) rfl (by kernel_rfl) (fun _ _ _ h=>h) (fun _ _=>by kernel_rfl) hS79 ?_
  refine wpAnyH_done (by kernel_rfl) ?_ _;clear hS0 hS71 hS79;change Exit.then _ _ _ _ (World.setCells w61 (w.heap.size+1) 0 (yOL c gg t so sc));generalize World.setCells w61 (w.heap.size+1) 0 (yOL c gg t so sc)=W80 at q75 q76 q72 q77 r73 r74 b78⊢;simp only[Act.put,List.getElem_toArray,List.getElem_cons_succ,List.getElem_cons_zero,List.setIfInBounds_toArray,List.set_cons_zero,List.set_cons_succ];have hl:=run_loadVar_mid (P:=Tryz.prog) _ (w.heap.size+1) 0 98 (yOL c gg t so sc) _ q72.range Tryz.underlying98 rfl (by kernel_rfl)
  go_wp2
  exact bodyPost_ret (results_two Tryz.results71 rfl rfl hl) rfl ⟨_,rfl,r74,b78⟩
set_option maxHeartbeats 3200000 in
theorem answer_zf (n wy fam R D L G:Int) (gr:Bool) (x:Trip) (xo:Option Addr) (xc:Nat) (fl f1 e1:Int) (st:ByteArray) (w:World)
  (HE: ∀w1,Below w.heap.size w w1→Calls Tryz.prog 87 #[ykV n wy fam R D L G gr,yvV 1 false (.slice none 0 0) 0,yi fl] w1 fun z w'=>z= .returned (.tuple #[.string st,yi f1,yi e1])∧Below w1.heap.size w1 w'):
  Calls Tryz.prog 107 #[ykV n wy fam R D L G gr,yOV 1 false x xo xc,yi fl] w fun z w'=>z= .returned (.tuple #[.string st,yi f1,yi e1])∧Below w.heap.size w w':=by
 replace HE:Hid _:=HE;obtain⟨W4,hW5,q1,q2,b3⟩:=ent2 w (ykL n wy fam R D L G gr) 93 (yOL 1 false x xo xc) 98;replace hW5:Hid _:=hW5
 go_enter Tryz.func107,Tryz.ntmps107
 go_upto_region 1 with fail
 rw[hW5.out];clear hW5;obtain⟨c6,c7,c8,c9,c10,c11,c12,c13⟩:=q1.cs8;have c14:=q2.cell 0 rfl;have c15:=q2.cell 1 rfl
 go_wp2_with fail
 refine(HE.out _ b3).mono ?_;rintro zz w16 ⟨rfl,bb17⟩;have b18:=below_trans b3 bb17;clear q1 q2 b3 bb17 HE c6 c7 c8 c9 c10 c11 c12 c13 c14 c15
 go_wp2
 go_ret3
 exact⟨rfl,b18⟩
set_option maxHeartbeats 3200000 in
theorem answer_z1 (n wy R D L G:Int) (gr:Bool) (x:Trip) (xo:Option Addr) (xc:Nat) (fl f1 e1:Int) (st:ByteArray) (w:World)
  (HE: ∀w1,Below w.heap.size w w1→Calls Tryz.prog 87 #[ykV n wy 1 R D L G gr,yvV 1 true (.slice none 0 0) 0,yi fl] w1 fun z w'=>z= .returned (.tuple #[.string st,yi f1,yi e1])∧Below w1.heap.size w1 w'):
  Calls Tryz.prog 107 #[ykV n wy 1 R D L G gr,yOV 1 true x xo xc,yi fl] w fun z w'=>z= .returned (.tuple #[.string st,yi f1,yi e1])∧Below w.heap.size w w':=by
 replace HE:Hid _:=HE;obtain⟨W4,hW5,q1,q2,b3⟩:=ent2 w (ykL n wy 1 R D L G gr) 93 (yOL 1 true x xo xc) 98;replace hW5:Hid _:=hW5
 go_enter Tryz.func107,Tryz.ntmps107
 go_upto_region 1 with fail
 rw[hW5.out];clear hW5;obtain⟨c6,c7,c8,c9,c10,c11,c12,c13⟩:=q1.cs8;have c14:=q2.cell 0 rfl;have c15:=q2.cell 1 rfl
 go_wp2_with fail
 refine(HE.out _ b3).mono ?_;rintro zz w16 ⟨rfl,bb17⟩;have b18:=below_trans b3 bb17;clear q1 q2 b3 bb17 HE c6 c7 c8 c9 c10 c11 c12 c13 c14 c15
 go_wp2
 go_ret3
 exact⟨rfl,b18⟩
set_option maxHeartbeats 3200000 in
theorem answer_z2 (n wy fam R D L G:Int) (gr:Bool) (x:Trip) (xo:Option Addr) (xc:Nat) (fl f1 e1:Int) (st:ByteArray) (w:World) (hf:(fam==1)=false)
  (HE: ∀w1,Below w.heap.size w w1→Calls Tryz.prog 87 #[ykV n wy fam R D L G gr,yvV 1 false (.slice none 0 0) 0,yi fl] w1 fun z w'=>z= .returned (.tuple #[.string st,yi f1,yi e1])∧Below w1.heap.size w1 w'):
  Calls Tryz.prog 107 #[ykV n wy fam R D L G gr,yOV 1 true x xo xc,yi fl] w fun z w'=>z= .returned (.tuple #[.string st,yi f1,yi e1])∧Below w.heap.size w w':=by
 replace HE:Hid _:=HE;obtain⟨W4,hW5,q1,q2,b3⟩:=ent2 w (ykL n wy fam R D L G gr) 93 (yOL 1 true x xo xc) 98;replace hW5:Hid _:=hW5
 go_enter Tryz.func107,Tryz.ntmps107
 go_upto_region 1 with fail
 rw[hW5.out];clear hW5;obtain⟨c6,c7,c8,c9,c10,c11,c12,c13⟩:=q1.cs8;have c14:=q2.cell 0 rfl;have c15:=q2.cell 1 rfl
 go_wp2_with fail
 refine(HE.out _ b3).mono ?_;rintro zz w16 ⟨rfl,bb17⟩;have b18:=below_trans b3 bb17;clear q1 q2 b3 bb17 HE c6 c7 c8 c9 c10 c11 c12 c13 c14 c15
 go_wp2
 go_ret3
 exact⟨rfl,b18⟩
set_option maxHeartbeats 3200000 in
theorem answer_oth (c:Int) (g:Bool) (n wy fam R D L G:Int) (gr:Bool) (x:Trip) (xo:Option Addr) (xc:Nat) (fl f1 e1:Int) (st:ByteArray) (w:World) (h2:(c==2)=false) (h1:(c==1)=false)
  (HE: ∀w1,Below w.heap.size w w1→Calls Tryz.prog 87 #[ykV n wy fam R D L G gr,yvV c g (.slice none 0 0) 0,yi fl] w1 fun z w'=>z= .returned (.tuple #[.string st,yi f1,yi e1])∧Below w1.heap.size w1 w'):
  Calls Tryz.prog 107 #[ykV n wy fam R D L G gr,yOV c g x xo xc,yi fl] w fun z w'=>z= .returned (.tuple #[.string st,yi f1,yi e1])∧Below w.heap.size w w':=by
 replace HE:Hid _:=HE;obtain⟨W4,hW5,q1,q2,b3⟩:=ent2 w (ykL n wy fam R D L G gr) 93 (yOL c g x xo xc) 98;replace hW5:Hid _:=hW5
 go_enter Tryz.func107,Tryz.ntmps107
 go_upto_region 1 with fail
 rw[hW5.out];clear hW5;obtain⟨c6,c7,c8,c9,c10,c11,c12,c13⟩:=q1.cs8;have c14:=q2.cell 0 rfl;have c15:=q2.cell 1 rfl
 go_wp2_with fail
 refine(HE.out _ b3).mono ?_;rintro zz w16 ⟨rfl,bb17⟩;have b18:=below_trans b3 bb17;clear q1 q2 b3 bb17 HE c6 c7 c8 c9 c10 c11 c12 c13 c14 c15
 go_wp2
 go_ret3
 exact⟨rfl,b18⟩
set_option maxHeartbeats 3200000 in
theorem kept_W (x u:Trip) (xo:Option Addr) (xc m:Nat) (bl sp ns tw E:Int) (w:World) (h1:IntKind.i64.wrap (bl-128)=sp) (h2: ¬sp≤0) (h3:IntKind.i64.wrap (-sp)=ns) (h4:IntKind.i64.wrap (x.e+sp)=E)
  (HD: ∀w1,Calls Tryz.prog 172 #[yDV x xo xc] w1 fun z w'=>z= .returned (.slice xo (Dg.dg 4294967296 x.n).length xc)∧Below w1.heap.size w1 w')
  (HB: ∀w1,Below w.heap.size w w1→Calls Tryz.prog 176 #[.slice xo (Dg.dg 4294967296 x.n).length xc] w1 fun z w'=>z= .returned (yi bl)∧w'=w1)
  (HT: ∀w1,Below w.heap.size w w1→Calls Tryz.prog 208 #[.slice xo (Dg.dg 4294967296 x.n).length xc] w1 fun z w'=>z= .returned (yi tw)∧w'=w1)
  (HS: ∀w1,Below w.heap.size w w1→Calls Tryz.prog 177 #[.slice xo (Dg.dg 4294967296 x.n).length xc,yi ns] w1 (Num w1 m))
  (HE: ∀mo mc w1,Rd w1 .u32 (.slice mo (Dg.dg 4294967296 m).length mc) (Dg.dg 4294967296 m)→Calls Tryz.prog 179 #[.bool x.s,.slice mo (Dg.dg 4294967296 m).length mc,yi E,.bool (decide (tw<sp))] w1 (DRes w1 u)):
  Calls Tryz.prog 210 #[yDV x xo xc,yi 128] w fun z w'=> ∃v,z= .returned (ydV u.s v u.e)∧Rd w' .u32 v (Dg.dg 4294967296 u.n)∧Below w.heap.size w w':=by
 replace HD:Hid _:=HD;replace HB:Hid _:=HB;replace HT:Hid _:=HT;replace HS:Hid _:=HS;replace HE:Hid _:=HE;obtain⟨W4,hW5,q1,q2,b3⟩:=ent2 w (yDL x xo xc) 96 (ydL false (.slice none 0 0) 0) 96;replace hW5:Hid _:=hW5
 go_enter Tryz.func210,Tryz.ntmps210
 go_upto_region 1 with fail
 rw[hW5.out];clear hW5;obtain⟨c6,c7,c8⟩:=q1.cs3
 go_wp2_with fail
 refine(HD.out _).mono ?_;rintro zz w9 ⟨rfl,bb10⟩;have q11:=q1.later bb10;have q12:=q2.later bb10;have b13:=below_trans b3 bb10;clear q1 q2 b3 bb10 c6 c7 c8
 go_wp2_with fail
 refine(HB.out _ b13).mono ?_;rintro zz w14 ⟨rfl,rfl⟩
 go_upto_region 4 with fail
 have bW16:Below w14.heap.size w14 w14.drew:=(Below.refl _ _).drew;have q17:=q11.later bW16;have q18:=q12.later bW16;have b19:=below_trans b13 bW16;clear q11 q12 b13 bW16;refine wp_region_held_drew (S:=fun wq=>LocE wq w.heap.size 96 (yDL x xo xc)) (by kernel_rfl) q17 (fun hS0=> ?_)
 generalize w14.drew=WD20 at q17 q18 b19 hS0⊢;refine tk 0 (.pointer (some ⟨w.heap.size,0,none⟩)) rfl (by kernel_rfl) (fun _ _ _ h=>h) (fun _ _=>by kernel_rfl) hS0 ?_
 refine tk 1 (.pointer (some ⟨w.heap.size,0,none⟩)) rfl (by kernel_rfl) (fun _ _ _ h=>h) (fun _ _=>by kernel_rfl) hS0 ?_
 refine tk 2 (.bool x.s) rfl (by kernel_rfl) (fun _ _ _ h=>h) (fun _ hw0=>xload 4 (.tmp 15) rfl w.heap.size 0 (by kernel_rfl) _ _ Tryz.underlying4 rfl (hw0.cell 0 rfl)) hS0 ?_
 refine tk 3 (yDV x xo xc) rfl (by kernel_rfl) (fun _ _ _ h=>h) (fun _ hw0=>xrow 96 (.tmp 2) rfl w.heap.size 0 (by kernel_rfl) _ _ hw0.range Tryz.underlying96 rfl (by kernel_rfl)) hS0 ?_
 refine tk 5 (yi sp) rfl (by kernel_rfl) (fun _ _ _ h=>h) (fun _ _=>by kernel_rfl) hS0 ?_
 refine tk 6 (yi ns) rfl (by kernel_rfl) (fun _ _ _ h=>h) (fun _ _=>by go_simp) hS0 ?_
 refine tk 8 (.pointer (some ⟨w.heap.size,0,none⟩)) rfl (by kernel_rfl) (fun _ _ _ h=>h) (fun _ _=>by kernel_rfl) hS0 ?_
 refine tk 9 (.pointer (some ⟨w.heap.size,2,none⟩)) rfl (by kernel_rfl) (fun _ _ _ h=>h) (fun _ _=>by kernel_rfl) hS0 ?_
 refine tk 10 (yi x.e) rfl (by kernel_rfl) (fun _ _ _ h=>h) (fun _ hw0=>xload 3 (.tmp 23) rfl w.heap.size 2 (by kernel_rfl) _ _ Tryz.underlying3 rfl (hw0.cell 2 rfl)) hS0 ?_
 refine tk 11 (yi sp) rfl (by kernel_rfl) (fun _ _ _ h=>h) (fun _ _=>by kernel_rfl) hS0 ?_
 refine tk 12 (yi E) rfl (by kernel_rfl) (fun _ _ _ h=>h) (fun _ _=>by go_simp) hS0 ?_
 refine tk 13 (yDV x xo xc) rfl (by kernel_rfl) (fun _ _ _ h=>h) (fun _ hw0=>xrow 96 (.tmp 2) rfl w.heap.size 0 (by kernel_rfl) _ _ hw0.range Tryz.underlying96 rfl (by kernel_rfl)) hS0 ?_
 refine tk 16 (yi sp) rfl (by kernel_rfl) (fun _ _ _ h=>h) (fun _ _=>by kernel_rfl) hS0 ?_
 refine wpAnyH_ready (rs:=[4]) (by kernel_rfl) (by simp) ?_;refine AllReadyH.cons rfl (fun K hK=> ?_) AllReadyH.nil
 go_simp
 refine(HD.out _).mono ?_;rintro zz w21 ⟨rfl,bb22⟩;have q23:=q17.later bb22;have q24:=q18.later bb22;have b25:=below_trans b19 bb22;clear q17 q18 b19 bb22;refine hK.out _ _ q23 (fun hS26=> ?_)
 clear hK K;refine wpAnyH_ready (rs:=[7]) (by kernel_rfl) (by simp) ?_;refine AllReadyH.cons rfl (fun K hK=> ?_) AllReadyH.nil
 go_simp
 refine(HS.out _ b25).mono ?_;rintro zz w27 ⟨v129,rfl,r130,bb28⟩;have q31:=q23.later bb28;have q32:=q24.later bb28;have b33:=below_trans b25 bb28;have r34:=r130.rd;obtain⟨mo,mc,hv⟩:=r34.shape;subst hv;clear q23 q24 b25 bb28 r130;refine hK.out _ _ q31 (fun hS35=> ?_)
 clear hK K;refine wpAnyH_ready (rs:=[14]) (by kernel_rfl) (by simp) ?_;refine AllReadyH.cons rfl (fun K hK=> ?_) AllReadyH.nil
 go_simp
 refine(HD.out _).mono ?_;rintro zz w36 ⟨rfl,bb37⟩;have q38:=q31.later bb37;have q39:=q32.later bb37;have r40:=r34.later bb37;have b41:=below_trans b33 bb37;clear q31 q32 r34 b33 bb37;refine hK.out _ _ q38 (fun hS42=> ?_)
 clear hK K;refine wpAnyH_ready (rs:=[15]) (by kernel_rfl) (by simp) ?_;refine AllReadyH.cons rfl (fun K hK=> ?_) AllReadyH.nil
 go_simp
 refine(HT.out _ b41).mono ?_;rintro zz w43 ⟨rfl,rfl⟩;refine hK.out _ _ q38 (fun hS45=> ?_)
 clear hK K;refine tk 17 (.bool (decide (tw<sp))) rfl (by kernel_rfl) (fun _ _ _ h=>h) (fun _ _=>by go_simp) hS45 ?_
 refine wpAnyH_ready (rs:=[18]) (by kernel_rfl) (by simp) ?_;refine AllReadyH.cons rfl (fun K hK=> ?_) AllReadyH.nil
 go_simp
 refine(HE.out _ _ _ r40).mono ?_;rintro zz w46 ⟨v148,rfl,r149,bb47⟩;have q50:=q38.later bb47;have q51:=q39.later bb47;have r52:=r40.later bb47;have b53:=below_trans b41 bb47;have r54:=r149.rd;obtain⟨uo,uc,hv⟩:=r54.shape;subst hv;clear q38 q39 r40 b41 bb47 r149;refine hK.out _ _ q50 (fun hS55=> ?_)
 clear hK K;refine wpAnyH_ready (rs:=[19]) (by kernel_rfl) (by simp) ?_;refine AllReadyH.cons rfl (fun K hK=> ?_) AllReadyH.nil
 have bu:But (w.heap.size+1) w46 (w46.setCells (w.heap.size+1) 0 (yDL u uo uc)):=but_sets _ _ _ _;have hth:w46.there (w.heap.size+1) 0 3:=there_of q51;have q56:LocE (w46.setCells (w.heap.size+1) 0 (yDL u uo uc)) (w.heap.size+1) 96 (yDL u uo uc):=q51.sets _ rfl;have r57:=bu.rd r52 (rd_offU r52 q51 (by simp));have r58:=bu.rd r54 (rd_offU r54 q51 (by simp));have q59:=bu.loc q50 (by omega);have b60:=bu.below b53 (by omega);rw[if_pos (by kernel_rfl)];refine wp_store_mid 96 (.tmp 4) (.tmp 32) rfl (w.heap.size+1) 0 (yDL u uo uc).toArray (by kernel_rfl) (by kernel_rfl) hth (by kernel_rfl) (by simp[Value.oneCell']) ?_;refine hK.out _ _ q59 (fun hS61=> ?_)
 clear hK K;clear q51 r52 r54 q50 b53 bu hth;refine wpAnyH_done (by kernel_rfl) ?_ _;clear hS0 hS26 hS35 hS42 hS45 hS55 hS61;change Exit.then _ _ _ _ (World.setCells w46 (w.heap.size+1) 0 (yDL u uo uc));generalize World.setCells w46 (w.heap.size+1) 0 (yDL u uo uc)=W62 at q59 q56 r57 r58 b60⊢;simp only[Act.put,List.getElem_toArray,List.getElem_cons_succ,List.getElem_cons_zero];have hl:=run_loadVar_mid (P:=Tryz.prog) _ (w.heap.size+1) 0 96 (yDL u uo uc) _ q56.range Tryz.underlying96 rfl (by kernel_rfl)
 go_wp2
 exact bodyPost_ret (results_one Tryz.results210 rfl hl) rfl ⟨_,rfl,r58,b60⟩
set_option maxHeartbeats 3200000 in
theorem reckon_err (n way er:Int) (F m:Nat) (pb:Nat) (w:World) (he:(er==0)=false)
  (HD: ∀w1,Calls Tryz.prog 80 #[yi n] w1 fun z w'=>z= .returned (.tuple #[ykV 0 0 0 0 0 0 0 false,yi er])∧Below w1.heap.size w1 w'):
  Calls Tryz.prog 53 #[yi n,yi way,.func (.func F) #[] #[],.slice (some ⟨pb,0,none⟩) m m] w fun z w'=>z= .returned (.tuple #[.string ⟨#[]⟩,yi 0,yi er])∧Below w.heap.size w w':=by
 replace HD:Hid _:=HD
 go_enter Tryz.func53,Tryz.ntmps53
 have b0:=Below.refl w.heap.size w
 go_wp2_with fail
 refine(HD.out _).mono ?_;rintro zz w1 ⟨rfl,bb2⟩;have b3:=below_trans b0 bb2;clear b0 bb2 HD;obtain⟨W7,hW6,q5,al4⟩:=ent1 w1 (ykL 0 0 0 0 0 0 0 false) 93;replace hW6:Hid _:=hW6;have hl8:w.heap.size≤w1.heap.size:=b3.size;have b9:=below_trans b3 al4;clear b3 al4 q5
 go_upto_region 2 with fail
 rw[hW6.out];clear hW6
 go_wp2
 go_ret3
 exact⟨rfl,b9⟩
set_option maxHeartbeats 3200000 in
theorem reckon_ops (er:Int) (n R D L G fam way:Int) (gr:Bool) (F m:Nat) (pb:Nat) (w:World) (he:(er==0)=false)
  (HD: ∀w1,Calls Tryz.prog 80 #[yi n] w1 fun z w'=>z= .returned (.tuple #[ykV n 0 fam R D L G gr,yi 0])∧Below w1.heap.size w1 w')
  (HO: ∀w1,Below w.heap.size w w1→Calls Tryz.prog 81 #[ykV n 0 fam R D L G gr,.slice (some ⟨pb,0,none⟩) m m] w1 fun z w'=>z= .returned (.tuple #[.slice none 0 0,yi er])∧Below w1.heap.size w1 w'):
  Calls Tryz.prog 53 #[yi n,yi way,.func (.func F) #[] #[],.slice (some ⟨pb,0,none⟩) m m] w fun z w'=>z= .returned (.tuple #[.string ⟨#[]⟩,yi 0,yi er])∧Below w.heap.size w w':=by
 replace HD:Hid _:=HD;replace HO:Hid _:=HO
 go_enter Tryz.func53,Tryz.ntmps53
 have b0:=Below.refl w.heap.size w
 go_wp2_with fail
 refine(HD.out _).mono ?_;rintro zz w1 ⟨rfl,bb2⟩;have b3:=below_trans b0 bb2;clear b0 bb2 HD;obtain⟨W7,hW6,q5,al4⟩:=ent1 w1 (ykL n 0 fam R D L G gr) 93;replace hW6:Hid _:=hW6;have hl8:w.heap.size≤w1.heap.size:=b3.size;have b9:=below_trans b3 al4;clear b3 al4
 go_upto_region 2 with fail
 rw[hW6.out];clear hW6;obtain⟨c10,c11,c12,c13,c14,c15,c16,c17⟩:=q5.cs8
 go_wp2_with fail
 refine(HO.out _ b9).mono ?_;rintro zz w18 ⟨rfl,bb19⟩;have b20:=below_trans b9 bb19;clear q5 b9 bb19 HO c10 c11 c12 c13 c14 c15 c16 c17
 go_wp2
 go_ret3
 exact⟨rfl,b20⟩
set_option maxHeartbeats 3200000 in
theorem reckon_wayl (n R D L G fam way:Int) (gr:Bool) (F m:Nat) (ps:List ByteArray) (pb:Nat) (w:World) (hw:way<1)
  (HD: ∀w1,Calls Tryz.prog 80 #[yi n] w1 fun z w'=>z= .returned (.tuple #[ykV n 0 fam R D L G gr,yi 0])∧Below w1.heap.size w1 w')
  (HO: ∀w1,Below w.heap.size w w1→Calls Tryz.prog 81 #[ykV n 0 fam R D L G gr,.slice (some ⟨pb,0,none⟩) m m] w1 fun z w'=> ∃g cap,z= .returned (.tuple #[.slice (some ⟨g,0,none⟩) m cap,yi 0])∧OpsV w' n ps g cap∧w1.heap.size≤g∧Below w1.heap.size w1 w'):
  Calls Tryz.prog 53 #[yi n,yi way,.func (.func F) #[] #[],.slice (some ⟨pb,0,none⟩) m m] w fun z w'=>z= .returned (.tuple #[.string ⟨#[]⟩,yi 0,yi 6])∧Below w.heap.size w w':=by
 replace HD:Hid _:=HD;replace HO:Hid _:=HO
 go_enter Tryz.func53,Tryz.ntmps53
 have b0:=Below.refl w.heap.size w
 go_wp2_with fail
 refine(HD.out _).mono ?_;rintro zz w1 ⟨rfl,bb2⟩;have b3:=below_trans b0 bb2;clear b0 bb2 HD;obtain⟨W7,hW6,q5,al4⟩:=ent1 w1 (ykL n 0 fam R D L G gr) 93;replace hW6:Hid _:=hW6;have hl8:w.heap.size≤w1.heap.size:=b3.size;have b9:=below_trans b3 al4;clear b3 al4
 go_upto_region 2 with fail
 rw[hW6.out];clear hW6;obtain⟨c10,c11,c12,c13,c14,c15,c16,c17⟩:=q5.cs8;have hq:=q5.lt
 go_wp2_with fail
 refine(HO.out _ b9).mono ?_;rintro zz w18 ⟨g,cap,rfl,r120,hgw,bb19⟩;have b21:=below_trans b9 bb19;clear q5 b9 bb19 HO c10 c11 c12 c13 c14 c15 c16 c17
 go_wp2
 go_ret3
 exact⟨rfl,b21⟩
set_option maxHeartbeats 3200000 in
theorem reckon_wayg (n R D L G fam way:Int) (gr:Bool) (F m:Nat) (ps:List ByteArray) (pb:Nat) (w:World) (hw: ¬way<1) (hv:5<way)
  (HD: ∀w1,Calls Tryz.prog 80 #[yi n] w1 fun z w'=>z= .returned (.tuple #[ykV n 0 fam R D L G gr,yi 0])∧Below w1.heap.size w1 w')
  (HO: ∀w1,Below w.heap.size w w1→Calls Tryz.prog 81 #[ykV n 0 fam R D L G gr,.slice (some ⟨pb,0,none⟩) m m] w1 fun z w'=> ∃g cap,z= .returned (.tuple #[.slice (some ⟨g,0,none⟩) m cap,yi 0])∧OpsV w' n ps g cap∧w1.heap.size≤g∧Below w1.heap.size w1 w'):
  Calls Tryz.prog 53 #[yi n,yi way,.func (.func F) #[] #[],.slice (some ⟨pb,0,none⟩) m m] w fun z w'=>z= .returned (.tuple #[.string ⟨#[]⟩,yi 0,yi 6])∧Below w.heap.size w w':=by
 replace HD:Hid _:=HD;replace HO:Hid _:=HO
 go_enter Tryz.func53,Tryz.ntmps53
 have b0:=Below.refl w.heap.size w
 go_wp2_with fail
 refine(HD.out _).mono ?_;rintro zz w1 ⟨rfl,bb2⟩;have b3:=below_trans b0 bb2;clear b0 bb2 HD;obtain⟨W7,hW6,q5,al4⟩:=ent1 w1 (ykL n 0 fam R D L G gr) 93;replace hW6:Hid _:=hW6;have hl8:w.heap.size≤w1.heap.size:=b3.size;have b9:=below_trans b3 al4;clear b3 al4
 go_upto_region 2 with fail
 rw[hW6.out];clear hW6;obtain⟨c10,c11,c12,c13,c14,c15,c16,c17⟩:=q5.cs8;have hq:=q5.lt
 go_wp2_with fail
 refine(HO.out _ b9).mono ?_;rintro zz w18 ⟨g,cap,rfl,r120,hgw,bb19⟩;have b21:=below_trans b9 bb19;clear q5 b9 bb19 HO c10 c11 c12 c13 c14 c15 c16 c17
 go_wp2
 go_ret3
 exact⟨rfl,b21⟩
set_option maxHeartbeats 3200000 in
theorem reckon_no1 (c f1 e1:Int) (st:ByteArray) (n R D L G way:Int) (gr:Bool) (F m:Nat) (ps:List ByteArray) (pb:Nat) (w:World) (hw: ¬way<1) (hv: ¬5<way)
  (HD: ∀w1,Calls Tryz.prog 80 #[yi n] w1 fun z w'=>z= .returned (.tuple #[ykV n 0 1 R D L G gr,yi 0])∧Below w1.heap.size w1 w')
  (HO: ∀w1,Below w.heap.size w w1→Calls Tryz.prog 81 #[ykV n 0 1 R D L G gr,.slice (some ⟨pb,0,none⟩) m m] w1 fun z w'=> ∃g cap,z= .returned (.tuple #[.slice (some ⟨g,0,none⟩) m cap,yi 0])∧OpsV w' n ps g cap∧w1.heap.size≤g∧Below w1.heap.size w1 w')
  (HX: ∀g cap w1,OpsV w1 n ps g cap→Calls Tryz.prog 82 #[.slice (some ⟨g,0,none⟩) m cap] w1 fun z w'=>z= .returned (.bool true)∧Below w1.heap.size w1 w')
  (HN: ∀w1,Calls Tryz.prog 108 #[ykV n way 1 R D L G gr,yi 0] w1 fun z w'=>z= .returned (.tuple #[yoV c false false (.slice none 0 0) 0,yi 0])∧Below w1.heap.size w1 w')
  (HA: ∀w1,Below w.heap.size w w1→Calls Tryz.prog 107 #[ykV n way 1 R D L G gr,yoV c false false (.slice none 0 0) 0,yi 0] w1 fun z w'=>z= .returned (.tuple #[.string st,yi f1,yi e1])∧Below w1.heap.size w1 w'):
  Calls Tryz.prog 53 #[yi n,yi way,.func (.func F) #[] #[],.slice (some ⟨pb,0,none⟩) m m] w fun z w'=>z= .returned (.tuple #[.string st,yi f1,yi e1])∧Below w.heap.size w w':=by
 replace HD:Hid _:=HD;replace HO:Hid _:=HO;replace HX:Hid _:=HX;replace HN:Hid _:=HN;replace HA:Hid _:=HA
 go_enter Tryz.func53,Tryz.ntmps53
 have b0:=Below.refl w.heap.size w
 go_wp2_with fail
 refine(HD.out _).mono ?_;rintro zz w1 ⟨rfl,bb2⟩;have b3:=below_trans b0 bb2;clear b0 bb2 HD;obtain⟨W7,hW6,q5,al4⟩:=ent1 w1 (ykL n 0 1 R D L G gr) 93;replace hW6:Hid _:=hW6;have hl8:w.heap.size≤w1.heap.size:=b3.size;have b9:=below_trans b3 al4;clear b3 al4
 go_upto_region 2 with fail
 rw[hW6.out];clear hW6;obtain⟨c10,c11,c12,c13,c14,c15,c16,c17⟩:=q5.cs8;have hq:=q5.lt
 go_wp2_with fail
 refine(HO.out _ b9).mono ?_;rintro zz w18 ⟨g,cap,rfl,r120,hgw,bb19⟩;have q21:=q5.later bb19;have b22:=below_trans b9 bb19;clear q5 b9 bb19 HO c10 c11 c12 c13 c14 c15 c16 c17;have bu:=but_set w18 w1.heap.size 1 (yi way);have q23:LocE (w18.setCell ⟨w1.heap.size,1,none⟩ (yi way)) w1.heap.size 93 (ykL n way 1 R D L G gr):=(q21.set 1 (yi way));have c24:=q21.cell 1 rfl;have y25:=q21.free 1;have r26:=r120.off bu q21 (by simp) (by omega);have b27:=bu.below b22 (by omega);clear bu
 go_upto_region 10 with fail
 generalize w18.setCell ⟨w1.heap.size,1,none⟩ (yi way)=W28 at q23 r26 b27⊢;clear q21 r120 b22 c24 y25
 go_wp2_with fail
 refine(HX.out _ _ _ r26).mono ?_;rintro zz w29 ⟨rfl,bb30⟩;have q31:=q23.later bb30;have b32:=below_trans b27 bb30;clear q23 r26 b27 bb30 HX;have c33:=q31.cell 2 rfl
 go_upto_region 13 with fail
 clear c33;have bW34:Below w29.heap.size w29 w29.drew:=(Below.refl _ _).drew;have q35:=q31.later bW34;have b36:=below_trans b32 bW34;clear q31 b32 bW34;refine wp_region_held_drew (S:=fun wq=>LocE wq w1.heap.size 93 (ykL n way 1 R D L G gr)) (by kernel_rfl) q35 (fun hS0=> ?_)
 generalize w29.drew=WD37 at q35 b36 hS0⊢;refine tk 0 (ykV n way 1 R D L G gr) rfl (by kernel_rfl) (fun _ _ _ h=>h) (fun _ hw0=>xrow 93 (.tmp 11) rfl w1.heap.size 0 (by kernel_rfl) _ _ hw0.range Tryz.underlying93 rfl (by kernel_rfl)) hS0 ?_
 refine tk 1 (ykV n way 1 R D L G gr) rfl (by kernel_rfl) (fun _ _ _ h=>h) (fun _ hw0=>xrow 93 (.tmp 11) rfl w1.heap.size 0 (by kernel_rfl) _ _ hw0.range Tryz.underlying93 rfl (by kernel_rfl)) hS0 ?_
 refine wpAnyH_ready (rs:=[2]) (by kernel_rfl) (by simp) ?_;refine AllReadyH.cons rfl (fun K hK=> ?_) AllReadyH.nil
 go_simp
 refine(HN.out _).mono ?_;rintro zz w38 ⟨rfl,bb39⟩;have q40:=q35.later bb39;have b41:=below_trans b36 bb39;clear q35 b36 bb39 HN;refine hK.out _ _ q40 (fun hS42=> ?_)
 clear hK K;refine tk 3 (yoV c false false (.slice none 0 0) 0) rfl (by kernel_rfl) (fun _ _ _ h=>h) (fun _ _=>by go_simp) hS42 ?_
 refine tk 4 (yi 0) rfl (by kernel_rfl) (fun _ _ _ h=>h) (fun _ _=>by go_simp) hS42 ?_
 refine wpAnyH_ready (rs:=[5]) (by kernel_rfl) (by simp) ?_;refine AllReadyH.cons rfl (fun K hK=> ?_) AllReadyH.nil
 go_simp
 refine(HA.out _ b41).mono ?_;rintro zz w43 ⟨rfl,bb44⟩;have q45:=q40.later bb44;have b46:=below_trans b41 bb44;clear q40 b41 bb44 HA;refine hK.out _ _ q45 (fun hS47=> ?_)
 clear hK K;refine tk 6 (.string st) rfl (by kernel_rfl) (fun _ _ _ h=>h) (fun _ _=>by go_simp) hS47 ?_
 refine tk 7 (yi f1) rfl (by kernel_rfl) (fun _ _ _ h=>h) (fun _ _=>by go_simp) hS47 ?_
 refine tk 8 (yi e1) rfl (by kernel_rfl) (fun _ _ _ h=>h) (fun _ _=>by go_simp) hS47 ?_
 refine tk 9 (.string st) rfl (by kernel_rfl) (fun _ _ _ h=>h) (fun _ _=>by kernel_rfl) hS47 ?_
 refine tk 10 (yi f1) rfl (by kernel_rfl) (fun _ _ _ h=>h) (fun _ _=>by kernel_rfl) hS47 ?_
 refine tk 11 (yi e1) rfl (by kernel_rfl) (fun _ _ _ h=>h) (fun _ _=>by kernel_rfl) hS47 ?_
 refine wpAnyH_done (by kernel_rfl) ?_ _;clear hS0 hS42 hS47;simp only[Act.put,List.getElem_toArray,List.getElem_cons_succ,List.getElem_cons_zero,List.setIfInBounds_toArray,List.set_cons_zero,List.set_cons_succ]
 go_wp2
 go_ret3
 exact⟨rfl,b46⟩
set_option maxHeartbeats 3200000 in
theorem reckon_no2 (c f1 e1:Int) (st:ByteArray) (n R D L G fam way:Int) (gr:Bool) (F m:Nat) (ps:List ByteArray) (pb:Nat) (w:World) (hw: ¬way<1) (hv: ¬5<way) (hf:(fam==1)=false)
  (HD: ∀w1,Calls Tryz.prog 80 #[yi n] w1 fun z w'=>z= .returned (.tuple #[ykV n 0 fam R D L G gr,yi 0])∧Below w1.heap.size w1 w')
  (HO: ∀w1,Below w.heap.size w w1→Calls Tryz.prog 81 #[ykV n 0 fam R D L G gr,.slice (some ⟨pb,0,none⟩) m m] w1 fun z w'=> ∃g cap,z= .returned (.tuple #[.slice (some ⟨g,0,none⟩) m cap,yi 0])∧OpsV w' n ps g cap∧w1.heap.size≤g∧Below w1.heap.size w1 w')
  (HX: ∀g cap w1,OpsV w1 n ps g cap→Calls Tryz.prog 82 #[.slice (some ⟨g,0,none⟩) m cap] w1 fun z w'=>z= .returned (.bool true)∧Below w1.heap.size w1 w')
  (HN: ∀w1,Calls Tryz.prog 108 #[ykV n way fam R D L G gr,yi 16] w1 fun z w'=>z= .returned (.tuple #[yoV c false false (.slice none 0 0) 0,yi 16])∧Below w1.heap.size w1 w')
  (HA: ∀w1,Below w.heap.size w w1→Calls Tryz.prog 107 #[ykV n way fam R D L G gr,yoV c false false (.slice none 0 0) 0,yi 16] w1 fun z w'=>z= .returned (.tuple #[.string st,yi f1,yi e1])∧Below w1.heap.size w1 w'):
  Calls Tryz.prog 53 #[yi n,yi way,.func (.func F) #[] #[],.slice (some ⟨pb,0,none⟩) m m] w fun z w'=>z= .returned (.tuple #[.string st,yi f1,yi e1])∧Below w.heap.size w w':=by
 replace HD:Hid _:=HD;replace HO:Hid _:=HO;replace HX:Hid _:=HX;replace HN:Hid _:=HN;replace HA:Hid _:=HA
 go_enter Tryz.func53,Tryz.ntmps53
 have b0:=Below.refl w.heap.size w
 go_wp2_with fail
 refine(HD.out _).mono ?_;rintro zz w1 ⟨rfl,bb2⟩;have b3:=below_trans b0 bb2;clear b0 bb2 HD;obtain⟨W7,hW6,q5,al4⟩:=ent1 w1 (ykL n 0 fam R D L G gr) 93;replace hW6:Hid _:=hW6;have hl8:w.heap.size≤w1.heap.size:=b3.size;have b9:=below_trans b3 al4;clear b3 al4
 go_upto_region 2 with fail
 rw[hW6.out];clear hW6;obtain⟨c10,c11,c12,c13,c14,c15,c16,c17⟩:=q5.cs8;have hq:=q5.lt
 go_wp2_with fail
 refine(HO.out _ b9).mono ?_;rintro zz w18 ⟨g,cap,rfl,r120,hgw,bb19⟩;have q21:=q5.later bb19;have b22:=below_trans b9 bb19;clear q5 b9 bb19 HO c10 c11 c12 c13 c14 c15 c16 c17;have bu:=but_set w18 w1.heap.size 1 (yi way);have q23:LocE (w18.setCell ⟨w1.heap.size,1,none⟩ (yi way)) w1.heap.size 93 (ykL n way fam R D L G gr):=(q21.set 1 (yi way));have c24:=q21.cell 1 rfl;have y25:=q21.free 1;have r26:=r120.off bu q21 (by simp) (by omega);have b27:=bu.below b22 (by omega);clear bu
 go_upto_region 10 with fail
 generalize w18.setCell ⟨w1.heap.size,1,none⟩ (yi way)=W28 at q23 r26 b27⊢;clear q21 r120 b22 c24 y25
 go_wp2_with fail
 refine(HX.out _ _ _ r26).mono ?_;rintro zz w29 ⟨rfl,bb30⟩;have q31:=q23.later bb30;have b32:=below_trans b27 bb30;clear q23 r26 b27 bb30 HX;have c33:=q31.cell 2 rfl
 go_upto_region 14 with fail
 clear c33;have bW34:Below w29.heap.size w29 w29.drew:=(Below.refl _ _).drew;have q35:=q31.later bW34;have b36:=below_trans b32 bW34;clear q31 b32 bW34;refine wp_region_held_drew (S:=fun wq=>LocE wq w1.heap.size 93 (ykL n way fam R D L G gr)) (by kernel_rfl) q35 (fun hS0=> ?_)
 generalize w29.drew=WD37 at q35 b36 hS0⊢;refine tk 0 (ykV n way fam R D L G gr) rfl (by kernel_rfl) (fun _ _ _ h=>h) (fun _ hw0=>xrow 93 (.tmp 11) rfl w1.heap.size 0 (by kernel_rfl) _ _ hw0.range Tryz.underlying93 rfl (by kernel_rfl)) hS0 ?_
 refine tk 1 (ykV n way fam R D L G gr) rfl (by kernel_rfl) (fun _ _ _ h=>h) (fun _ hw0=>xrow 93 (.tmp 11) rfl w1.heap.size 0 (by kernel_rfl) _ _ hw0.range Tryz.underlying93 rfl (by kernel_rfl)) hS0 ?_
 refine wpAnyH_ready (rs:=[2]) (by kernel_rfl) (by simp) ?_;refine AllReadyH.cons rfl (fun K hK=> ?_) AllReadyH.nil
 go_simp
 refine(HN.out _).mono ?_;rintro zz w38 ⟨rfl,bb39⟩;have q40:=q35.later bb39;have b41:=below_trans b36 bb39;clear q35 b36 bb39 HN;refine hK.out _ _ q40 (fun hS42=> ?_)
 clear hK K;refine tk 3 (yoV c false false (.slice none 0 0) 0) rfl (by kernel_rfl) (fun _ _ _ h=>h) (fun _ _=>by go_simp) hS42 ?_
 refine tk 4 (yi 16) rfl (by kernel_rfl) (fun _ _ _ h=>h) (fun _ _=>by go_simp) hS42 ?_
 refine wpAnyH_ready (rs:=[5]) (by kernel_rfl) (by simp) ?_;refine AllReadyH.cons rfl (fun K hK=> ?_) AllReadyH.nil
 go_simp
 refine(HA.out _ b41).mono ?_;rintro zz w43 ⟨rfl,bb44⟩;have q45:=q40.later bb44;have b46:=below_trans b41 bb44;clear q40 b41 bb44 HA;refine hK.out _ _ q45 (fun hS47=> ?_)
 clear hK K;refine tk 6 (.string st) rfl (by kernel_rfl) (fun _ _ _ h=>h) (fun _ _=>by go_simp) hS47 ?_
 refine tk 7 (yi f1) rfl (by kernel_rfl) (fun _ _ _ h=>h) (fun _ _=>by go_simp) hS47 ?_
 refine tk 8 (yi e1) rfl (by kernel_rfl) (fun _ _ _ h=>h) (fun _ _=>by go_simp) hS47 ?_
 refine tk 9 (.string st) rfl (by kernel_rfl) (fun _ _ _ h=>h) (fun _ _=>by kernel_rfl) hS47 ?_
 refine tk 10 (yi f1) rfl (by kernel_rfl) (fun _ _ _ h=>h) (fun _ _=>by kernel_rfl) hS47 ?_
 refine tk 11 (yi e1) rfl (by kernel_rfl) (fun _ _ _ h=>h) (fun _ _=>by kernel_rfl) hS47 ?_
 refine wpAnyH_done (by kernel_rfl) ?_ _;clear hS0 hS42 hS47;simp only[Act.put,List.getElem_toArray,List.getElem_cons_succ,List.getElem_cons_zero,List.setIfInBounds_toArray,List.set_cons_zero,List.set_cons_succ]
 go_wp2
 go_ret3
 exact⟨rfl,b46⟩
end Go.Proofs.YtnhackdjplppjaaGreatDoor
