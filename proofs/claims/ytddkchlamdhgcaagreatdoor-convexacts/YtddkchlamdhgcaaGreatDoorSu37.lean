/-
  Texts laid together: Cv1, Cv3, Oq1, Eh1, Eh3.
-/
import Derived.Test.YtddkchlamdhgcaaGreatDoorSu28
set_option maxRecDepth 100000
set_option maxHeartbeats 12800000
namespace Go.Proofs.YtddkchlamdhgcaaGreatDoor
open _root_.Go.Proofs.Tryz
open Go.RowKit
theorem convert_bad (fm c p c2 p2 fl e1:Int)(g2:Bool)(m2:Nat)(st:ByteArray)(g:Bool)(m:Nat)(t:ak)(n k wy:Int)(s:ByteArray)(w:World)(hf:(fm==0)=false)(hc:(c==2)=false)(he: ¬e1=0)(HF:yJ 51 #[yi k] (yi fm))
  (HQ: ∀w1,yB w w1→yC 30 #[yi n,.string s,yi wy] w1 (CRes w1 c g m p t 0))
  (HM: ∀vo vc w1,yB w w1→Rd w1 .u32 (yT vo m vc) (Dg.dg 4294967296 m)→yC 53 #[yvV c g (yT vo m vc) p,yi fm] w1 (B6 w1 c2 g2 m2 p2 fl))
  (HE: ∀ao ac w1,yB w w1→Rd w1 .u32 (yT ao m2 ac) (Dg.dg 4294967296 m2)→yC 29 #[yi k,yvV c2 g2 (yT ao m2 ac) p2] w1 (yR w1 (.tuple #[.string st,yi e1]))):
  yC 26 #[yi n,.string s,yi k,yi wy] w (yR w (.tuple #[.string ⟨#[]⟩,yi 0,yi e1])):=by
 replace HF:Hid _:=HF;replace HQ:Hid _:=HQ;replace HM:Hid _:=HM;replace HE:Hid _:=HE
 go_enter func26,ntmps26
 have b0:=Below.refl w.heap.size w
 go_wp2_with fail
 refine(HF.out _).mono ?_;rintro zz w1 ⟨rfl,bb2⟩;have b3:=aa b0 bb2;clear b0 bb2
 go_wp2_with fail
 refine(HQ.out _ b3).mono ?_;rintro zz w4 ⟨v16,v27,rfl,r18,r29,bb5⟩;have b10:=aa b3 bb5;obtain⟨vo,vc,hv⟩:=r18.shape;subst hv;obtain⟨xo,xc,hv⟩:=r29.shape;subst hv;clear b3 bb5 HQ;obtain⟨W13,hW12,q14,q15,al11⟩:=iG w4 (yvL c g (yT vo m vc) p) 68 (yDL t xo xc) 76;replace hW12:Hid _:=hW12;have hl16:w.heap.size≤w4.heap.size:=b10.size;have r17:=r18.l al11;have b18:=aa b10 al11;clear r18 r29 b10 al11 q15
 go_upto_region 4 with fail
 rw[hW12.out];clear hW12;have c19:=q14.c 0 rfl
 go_upto_region 8 with fail
 clear c19;have bW20:yB W13 W13.drew:=(Below.refl _ _).drew;have q21:=q14.l bW20;have r22:=r17.l bW20;have b23:=aa b18 bW20;clear q14 r17 b18 bW20;refine wp_region_held_drew (S:=fun _=>True) (by kernel_rfl) trivial (fun hS0=> ?_)
 generalize W13.drew=WD24 at q21 r22 b23 hS0⊢;refine tq 1 (yi k) rfl (fun _ _=>by kernel_rfl) hS0 ?_
 refine wpAnyH_ready (rs:=[0,2]) (by kernel_rfl) (by simp) ?_;refine AllReadyH.cons rfl (fun K hK=> ?_) (AllReadyH.cons rfl (fun K hK=> ?_) AllReadyH.nil)
 ·rw[if_pos (by kernel_rfl)]
  refine wp_yield (yvV c g (yT vo m vc) p) (fy 68 (.tmp 11) rfl w4.heap.size 0 (by kernel_rfl) _ _ q21.range underlying68 rfl (by kernel_rfl)) ?_;refine hK.out _ _ trivial (fun hS25=> ?_)
  clear hK K;refine wpAnyH_ready (rs:=[2]) (by kernel_rfl) (by simp) ?_;refine AllReadyH.cons rfl (fun K hK=> ?_) AllReadyH.nil
  go_simp
  refine(HF.out _).mono ?_;rintro zz w26 ⟨rfl,bb27⟩;have q28:=q21.l bb27;have r29:=r22.l bb27;have b30:=aa b23 bb27;clear q21 r22 b23 bb27;refine hK.out _ _ trivial (fun hS31=> ?_)
  clear hK K;refine wpAnyH_ready (rs:=[3]) (by kernel_rfl) (by simp) ?_;refine AllReadyH.cons rfl (fun K hK=> ?_) AllReadyH.nil
  go_simp
  refine(HM.out _ _ _ b30 r29).mono ?_;rintro zz w32 ⟨v134,rfl,r135,bb33⟩;have q36:=q28.l bb33;have b37:=aa b30 bb33;obtain⟨ao,ac,hv⟩:=r135.shape;subst hv;clear q28 r29 b30 bb33 HM;refine hK.out _ _ trivial (fun hS38=> ?_)
  clear hK K;refine tq 4 (.tuple #[yvV c2 g2 (yT ao m2 ac) p2,yi fl]) rfl (fun _ _=>by kernel_rfl) hS38 ?_
  refine tq 5 (yvV c2 g2 (yT ao m2 ac) p2) rfl (fun _ _=>by go_simp) hS38 ?_
  refine tq 6 (yi fl) rfl (fun _ _=>by go_simp) hS38 ?_
  refine wpAnyH_ready (rs:=[7]) (by kernel_rfl) (by simp) ?_;refine AllReadyH.cons rfl (fun K hK=> ?_) AllReadyH.nil
  have bu:But w4.heap.size w32 (w32.setCells w4.heap.size 0 (yvL c2 g2 (yT ao m2 ac) p2)):=de _ _ _ _;have hth:w32.there w4.heap.size 0 4:=dD q36;have q39:au (w32.setCells w4.heap.size 0 (yvL c2 g2 (yT ao m2 ac) p2)) w4.heap.size 68 (yvL c2 g2 (yT ao m2 ac) p2):=q36.sets _ rfl;have r40:=bu.rd r135 (aX r135 q36 (by simp));have b41:=bu.below b37 (by omega);rw[if_pos (by kernel_rfl)];refine wp_store_mid 68 (.tmp 11) (.tmp 46) rfl w4.heap.size 0 (yvA c2 g2 (yT ao m2 ac) p2) (by kernel_rfl) (by kernel_rfl) hth (by kernel_rfl) (by simp[Value.oneCell']) ?_;refine hK.out _ _ trivial (fun hS42=> ?_)
  clear hK K;clear q36 r135 b37 bu hth;refine tq 8 (yi fl) rfl (fun _ _=>by kernel_rfl) hS42 ?_
  refine wpAnyH_done (by kernel_rfl) ?_ _;clear hS0 hS25 hS31 hS38 hS42;change Exit.then _ _ _ _ (World.setCells w32 w4.heap.size 0 (yvL c2 g2 (yT ao m2 ac) p2));generalize World.setCells w32 w4.heap.size 0 (yvL c2 g2 (yT ao m2 ac) p2)=W43 at q39 r40 b41⊢;simp only[Act.put,List.getElem_toArray,List.getElem_cons_succ,List.getElem_cons_zero,List.setIfInBounds_toArray,List.set_cons_zero,List.set_cons_succ];obtain⟨c44,c45,c46,c47⟩:=q39.cs4
  go_wp2_with fail
  refine(HE.out _ _ _ b41 r40).mono ?_;rintro zz w48 ⟨rfl,bb49⟩;have b50:=aa b41 bb49;clear q39 r40 b41 bb49 HE c44 c45 c46 c47
  go_wp2
  go_ret3
  exact⟨by simp,b50⟩
 ·go_simp
  refine(HF.out _).mono ?_;rintro zz w25 ⟨rfl,bb26⟩;have q27:=q21.l bb26;have r28:=r22.l bb26;have b29:=aa b23 bb26;clear q21 r22 b23 bb26;refine hK.out _ _ trivial (fun hS30=> ?_)
  clear hK K;refine wpAnyH_ready (rs:=[0]) (by kernel_rfl) (by simp) ?_;refine AllReadyH.cons rfl (fun K hK=> ?_) AllReadyH.nil
  rw[if_pos (by kernel_rfl)];refine wp_yield (yvV c g (yT vo m vc) p) (fy 68 (.tmp 11) rfl w4.heap.size 0 (by kernel_rfl) _ _ q27.range underlying68 rfl (by kernel_rfl)) ?_;refine hK.out _ _ trivial (fun hS31=> ?_)
  clear hK K;refine wpAnyH_ready (rs:=[3]) (by kernel_rfl) (by simp) ?_;refine AllReadyH.cons rfl (fun K hK=> ?_) AllReadyH.nil
  go_simp
  refine(HM.out _ _ _ b29 r28).mono ?_;rintro zz w32 ⟨v134,rfl,r135,bb33⟩;have q36:=q27.l bb33;have b37:=aa b29 bb33;obtain⟨ao,ac,hv⟩:=r135.shape;subst hv;clear q27 r28 b29 bb33 HM;refine hK.out _ _ trivial (fun hS38=> ?_)
  clear hK K;refine tq 4 (.tuple #[yvV c2 g2 (yT ao m2 ac) p2,yi fl]) rfl (fun _ _=>by kernel_rfl) hS38 ?_
  refine tq 5 (yvV c2 g2 (yT ao m2 ac) p2) rfl (fun _ _=>by go_simp) hS38 ?_
  refine tq 6 (yi fl) rfl (fun _ _=>by go_simp) hS38 ?_
  refine wpAnyH_ready (rs:=[7]) (by kernel_rfl) (by simp) ?_;refine AllReadyH.cons rfl (fun K hK=> ?_) AllReadyH.nil
  have bu:But w4.heap.size w32 (w32.setCells w4.heap.size 0 (yvL c2 g2 (yT ao m2 ac) p2)):=de _ _ _ _;have hth:w32.there w4.heap.size 0 4:=dD q36;have q39:au (w32.setCells w4.heap.size 0 (yvL c2 g2 (yT ao m2 ac) p2)) w4.heap.size 68 (yvL c2 g2 (yT ao m2 ac) p2):=q36.sets _ rfl;have r40:=bu.rd r135 (aX r135 q36 (by simp));have b41:=bu.below b37 (by omega);rw[if_pos (by kernel_rfl)];refine wp_store_mid 68 (.tmp 11) (.tmp 46) rfl w4.heap.size 0 (yvA c2 g2 (yT ao m2 ac) p2) (by kernel_rfl) (by kernel_rfl) hth (by kernel_rfl) (by simp[Value.oneCell']) ?_;refine hK.out _ _ trivial (fun hS42=> ?_)
  clear hK K;clear q36 r135 b37 bu hth;refine tq 8 (yi fl) rfl (fun _ _=>by kernel_rfl) hS42 ?_
  refine wpAnyH_done (by kernel_rfl) ?_ _;clear hS0 hS30 hS31 hS38 hS42;change Exit.then _ _ _ _ (World.setCells w32 w4.heap.size 0 (yvL c2 g2 (yT ao m2 ac) p2));generalize World.setCells w32 w4.heap.size 0 (yvL c2 g2 (yT ao m2 ac) p2)=W43 at q39 r40 b41⊢;simp only[Act.put,List.getElem_toArray,List.getElem_cons_succ,List.getElem_cons_zero,List.setIfInBounds_toArray,List.set_cons_zero,List.set_cons_succ];obtain⟨c44,c45,c46,c47⟩:=q39.cs4
  go_wp2_with fail
  refine(HE.out _ _ _ b41 r40).mono ?_;rintro zz w48 ⟨rfl,bb49⟩;have b50:=aa b41 bb49;clear q39 r40 b41 bb49 HE c44 c45 c46 c47
  go_wp2
  go_ret3
  exact⟨by simp,b50⟩
theorem toInt_exact (n wy p pp r:Int)(g ps ov un:Bool)(m P:Nat)(t:ak)(s:ByteArray)(w:World)
  (HQ: ∀w1,yB w w1→yC 30 #[yi n,.string s,yi wy] w1 (CRes w1 2 g m p t 0))
  (HT: ∀xo xc w1,yC 32 #[yDV t xo xc] w1 fun z w'=> ∃eo ec,z= .returned (yrV t.s (yT xo t.n xc) (.slice eo 1 ec) t.e)∧Rd w' .u32 (.slice eo 1 ec) [1]∧yB w1 w')
  (HG: ∀xo xc eo ec w1,yB w w1→Rd w1 .u32 (yT xo t.n xc) (Dg.dg 4294967296 t.n)→Rd w1 .u32 (.slice eo 1 ec) [1]→yC 31 #[yrV t.s (yT xo t.n xc) (.slice eo 1 ec) t.e,ygV 2 64 0 0 true,yi wy] w1 fun z w'=> ∃po pc,z= .returned (.tuple #[ypV ps (yT po P pc) pp true ov un,yi 0])∧Rd w' .u32 (yT po P pc) (Dg.dg 4294967296 P)∧yB w1 w')
  (HH: ∀po pc w1,yB w w1→Rd w1 .u32 (yT po P pc) (Dg.dg 4294967296 P)→yC 33 #[ypV ps (yT po P pc) pp true ov un] w1 (yR w1 (.tuple #[yi r,.bool true]))):
  yC 7 #[yi n,.string s,yi wy] w (yR w (.tuple #[yi r,yi 0,yi 0])):=by
 replace HQ:Hid _:=HQ;replace HT:Hid _:=HT;replace HG:Hid _:=HG;replace HH:Hid _:=HH
 go_enter func7,ntmps7
 have b0:=Below.refl w.heap.size w
 go_wp2_with fail
 refine(HQ.out _ b0).mono ?_;rintro zz w1 ⟨v13,v24,rfl,r15,r26,bb2⟩;have b7:=aa b0 bb2;obtain⟨vo,vc,hv⟩:=r15.shape;subst hv;obtain⟨xo,xc,hv⟩:=r26.shape;subst hv;clear b0 bb2 HQ;obtain⟨W10,hW9,q11,q12,al8⟩:=iG w1 (yvL 2 g (yT vo m vc) p) 68 (yDL t xo xc) 76;replace hW9:Hid _:=hW9;have hl13:w.heap.size≤w1.heap.size:=b7.size;have r14:=r26.l al8;have b15:=aa b7 al8;clear r15 r26 b7 al8
 go_upto_region 2 with fail
 rw[hW9.out];clear hW9;obtain⟨W18,hW17,q19,al16⟩:=cA W10 (ygL 2 64 0 0 true) 40;replace hW17:Hid _:=hW17;have hl20:w.heap.size≤W10.heap.size:=b15.size;have hl21:=q12.lt;have c22:=q11.c 0 rfl;have q23:=q12.l al16;have r24:=r14.l al16;have b25:=aa b15 al16;clear q11 q12 r14 b15 al16
 go_upto_region 7 with fail
 rw[hW17.out];clear c22 hW17
 go_upto_region 7 with fail
 have bW26:yB W18 W18.drew:=(Below.refl _ _).drew;have q27:=q23.l bW26;have q28:=q19.l bW26;have r29:=r24.l bW26;have b30:=aa b25 bW26;clear q23 q19 r24 b25 bW26;refine wp_region_held_drew (S:=fun wq=>au wq (w1.heap.size+1) 76 (yDL t xo xc)∧au wq W10.heap.size 40 (ygL 2 64 0 0 true)) (by kernel_rfl) ⟨q27,q28⟩ (fun hS0=> ?_)
 generalize W18.drew=WD31 at q27 q28 r29 b30 hS0⊢;refine tq 0 (yDV t xo xc) rfl (fun _ hw0=>fy 76 (.tmp 10) rfl (w1.heap.size+1) 0 (by kernel_rfl) _ _ hw0.1.range underlying76 rfl (by kernel_rfl)) hS0 ?_
 refine tq 2 (ygV 2 64 0 0 true) rfl (fun _ hw0=>fy 40 (.tmp 12) rfl W10.heap.size 0 (by kernel_rfl) _ _ hw0.2.range underlying40 rfl (by kernel_rfl)) hS0 ?_
 refine tq 3 (yi wy) rfl (fun _ _=>by kernel_rfl) hS0 ?_
 refine wpAnyH_ready (rs:=[1,8]) (by kernel_rfl) (by simp) ?_;refine AllReadyH.cons rfl (fun K hK=> ?_) (AllReadyH.cons rfl (fun K hK=> ?_) AllReadyH.nil)
 ·go_simp
  refine(HT.out _ _ _).mono ?_;rintro zz w32 ⟨eo,ec,rfl,r134,bb33⟩;have q35:=q27.l bb33;have q36:=q28.l bb33;have r37:=r29.l bb33;have b38:=aa b30 bb33;clear q27 q28 r29 b30 bb33 HT;refine hK.out _ _ ⟨q35,q36⟩ (fun hS39=> ?_)
  clear hK K;refine wpAnyH_ready (rs:=[4,8]) (by kernel_rfl) (by simp) ?_;refine AllReadyH.cons rfl (fun K hK=> ?_) (AllReadyH.cons rfl (fun K hK=> ?_) AllReadyH.nil)
  ·go_simp
   refine(HG.out _ _ _ _ _ b38 r37 r134).mono ?_;rintro zz w40 ⟨po,pc,rfl,r142,bb41⟩;have q43:=q35.l bb41;have q44:=q36.l bb41;have b45:=aa b38 bb41;clear q35 q36 r37 r134 b38 bb41 HG;refine hK.out _ _ ⟨q43,q44⟩ (fun hS46=> ?_)
   clear hK K;refine tq 5 (.tuple #[ypV ps (yT po P pc) pp true ov un,yi 0]) rfl (fun _ _=>by kernel_rfl) hS46 ?_
   refine tq 6 (ypV ps (yT po P pc) pp true ov un) rfl (fun _ _=>by go_simp) hS46 ?_
   refine tq 7 (yi 0) rfl (fun _ _=>by go_simp) hS46 ?_
   refine wpAnyH_ready (rs:=[8]) (by kernel_rfl) (by simp) ?_;refine AllReadyH.cons rfl (fun K hK=> ?_) AllReadyH.nil
   go_simp
   have al47:=af w40 (.cells (ypA false yN 0 false false false) 80);have q48:=ah w40 (ypL false yN 0 false false false) 80;have hl51:w.heap.size≤w40.heap.size:=b45.size;have hl52:=q43.lt;have hl53:=q44.lt;have q54:=q43.l al47;have q55:=q44.l al47;have r56:=r142.l al47;have b57:=aa b45 al47;refine hK.out _ _ ⟨q54,q55⟩ (fun hS58=> ?_)
   clear hK K;clear q43 q44 r142 b45 al47;generalize w40.alloc (.cells (ypA false yN 0 false false false) 80)=WN49 at q54 q55 q48 r56 b57 hS58⊢;generalize w40.heap.size=PQ50 at q48 hl51 hl52 hl53⊢;refine wpAnyH_ready (rs:=[9]) (by kernel_rfl) (by simp) ?_;refine AllReadyH.cons rfl (fun K hK=> ?_) AllReadyH.nil
   have bu:But PQ50 WN49 (WN49.setCells PQ50 0 (ypL ps (yT po P pc) pp true ov un)):=de _ _ _ _;have hth:WN49.there PQ50 0 6:=dD q48;have q59:au (WN49.setCells PQ50 0 (ypL ps (yT po P pc) pp true ov un)) PQ50 80 (ypL ps (yT po P pc) pp true ov un):=q48.sets _ rfl;have r60:=bu.rd r56 (aX r56 q48 (by simp));have q61:=bu.loc q54 (by omega);have q62:=bu.loc q55 (by omega);have b63:=bu.below b57 (by omega);rw[if_pos (by kernel_rfl)];refine wp_store_mid 80 (.tmp 13) (.tmp 42) rfl PQ50 0 (ypA ps (yT po P pc) pp true ov un) (by kernel_rfl) (by kernel_rfl) hth (by kernel_rfl) (by simp[Value.oneCell']) ?_;refine hK.out _ _ ⟨q61,q62⟩ (fun hS64=> ?_)
   clear hK K;clear q48 r56 q54 q55 b57 bu hth;refine tq 10 (yi 0) rfl (fun _ _=>by kernel_rfl) hS64 ?_
   refine wpAnyH_done (by kernel_rfl) ?_ _;clear hS0 hS39 hS46 hS58 hS64;change Exit.then _ _ _ _ (World.setCells WN49 PQ50 0 (ypL ps (yT po P pc) pp true ov un));generalize World.setCells WN49 PQ50 0 (ypL ps (yT po P pc) pp true ov un)=W65 at q61 q62 q59 r60 b63⊢;simp only[Act.put,List.getElem_toArray,List.getElem_cons_succ,List.getElem_cons_zero,List.setIfInBounds_toArray,List.set_cons_zero,List.set_cons_succ];obtain⟨c66,c67,c68,c69,c70,c71⟩:=q59.cs6
   go_wp2_with fail
   refine(HH.out _ _ _ b63 r60).mono ?_;rintro zz w72 ⟨rfl,bb73⟩;have q74:=q59.l bb73;have b75:=aa b63 bb73;clear q61 q62 q59 r60 b63 bb73 HH c66 c67 c68 c69 c70 c71;have c76:=q74.c 3 rfl
   go_wp2
   go_ret3
   exact⟨by simp,b75⟩
  ·go_simp
   have al40:=af w32 (.cells (ypA false yN 0 false false false) 80);have q41:=ah w32 (ypL false yN 0 false false false) 80;have hl44:w.heap.size≤w32.heap.size:=b38.size;have hl45:=q35.lt;have hl46:=q36.lt;have q47:=q35.l al40;have q48:=q36.l al40;have r49:=r37.l al40;have r50:=r134.l al40;have b51:=aa b38 al40;refine hK.out _ _ ⟨q47,q48⟩ (fun hS52=> ?_)
   clear hK K;clear q35 q36 r37 r134 b38 al40;generalize w32.alloc (.cells (ypA false yN 0 false false false) 80)=WN42 at q47 q48 q41 r49 r50 b51 hS52⊢;generalize w32.heap.size=PQ43 at q41 hl44 hl45 hl46⊢;refine wpAnyH_ready (rs:=[4]) (by kernel_rfl) (by simp) ?_;refine AllReadyH.cons rfl (fun K hK=> ?_) AllReadyH.nil
   go_simp
   refine(HG.out _ _ _ _ _ b51 r49 r50).mono ?_;rintro zz w53 ⟨po,pc,rfl,r155,bb54⟩;have q56:=q47.l bb54;have q57:=q48.l bb54;have q58:=q41.l bb54;have b59:=aa b51 bb54;clear q47 q48 q41 r49 r50 b51 bb54 HG;refine hK.out _ _ ⟨q56,q57⟩ (fun hS60=> ?_)
   clear hK K;refine tq 5 (.tuple #[ypV ps (yT po P pc) pp true ov un,yi 0]) rfl (fun _ _=>by kernel_rfl) hS60 ?_
   refine tq 6 (ypV ps (yT po P pc) pp true ov un) rfl (fun _ _=>by go_simp) hS60 ?_
   refine tq 7 (yi 0) rfl (fun _ _=>by go_simp) hS60 ?_
   refine wpAnyH_ready (rs:=[9]) (by kernel_rfl) (by simp) ?_;refine AllReadyH.cons rfl (fun K hK=> ?_) AllReadyH.nil
   have bu:But PQ43 w53 (w53.setCells PQ43 0 (ypL ps (yT po P pc) pp true ov un)):=de _ _ _ _;have hth:w53.there PQ43 0 6:=dD q58;have q61:au (w53.setCells PQ43 0 (ypL ps (yT po P pc) pp true ov un)) PQ43 80 (ypL ps (yT po P pc) pp true ov un):=q58.sets _ rfl;have r62:=bu.rd r155 (aX r155 q58 (by simp));have q63:=bu.loc q56 (by omega);have q64:=bu.loc q57 (by omega);have b65:=bu.below b59 (by omega);rw[if_pos (by kernel_rfl)];refine wp_store_mid 80 (.tmp 13) (.tmp 42) rfl PQ43 0 (ypA ps (yT po P pc) pp true ov un) (by kernel_rfl) (by kernel_rfl) hth (by kernel_rfl) (by simp[Value.oneCell']) ?_;refine hK.out _ _ ⟨q63,q64⟩ (fun hS66=> ?_)
   clear hK K;clear q58 r155 q56 q57 b59 bu hth;refine tq 10 (yi 0) rfl (fun _ _=>by kernel_rfl) hS66 ?_
   refine wpAnyH_done (by kernel_rfl) ?_ _;clear hS0 hS39 hS52 hS60 hS66;change Exit.then _ _ _ _ (World.setCells w53 PQ43 0 (ypL ps (yT po P pc) pp true ov un));generalize World.setCells w53 PQ43 0 (ypL ps (yT po P pc) pp true ov un)=W67 at q63 q64 q61 r62 b65⊢;simp only[Act.put,List.getElem_toArray,List.getElem_cons_succ,List.getElem_cons_zero,List.setIfInBounds_toArray,List.set_cons_zero,List.set_cons_succ];obtain⟨c68,c69,c70,c71,c72,c73⟩:=q61.cs6
   go_wp2_with fail
   refine(HH.out _ _ _ b65 r62).mono ?_;rintro zz w74 ⟨rfl,bb75⟩;have q76:=q61.l bb75;have b77:=aa b65 bb75;clear q63 q64 q61 r62 b65 bb75 HH c68 c69 c70 c71 c72 c73;have c78:=q76.c 3 rfl
   go_wp2
   go_ret3
   exact⟨by simp,b77⟩
 ·go_simp
  have al32:=af WD31 (.cells (ypA false yN 0 false false false) 80);have q33:=ah WD31 (ypL false yN 0 false false false) 80;have hl36:w.heap.size≤WD31.heap.size:=b30.size;have hl37:=q27.lt;have hl38:=q28.lt;have q39:=q27.l al32;have q40:=q28.l al32;have r41:=r29.l al32;have b42:=aa b30 al32;refine hK.out _ _ ⟨q39,q40⟩ (fun hS43=> ?_)
  clear hK K;clear q27 q28 r29 b30 al32;generalize WD31.alloc (.cells (ypA false yN 0 false false false) 80)=WN34 at q39 q40 q33 r41 b42 hS43⊢;generalize WD31.heap.size=PQ35 at q33 hl36 hl37 hl38⊢;refine wpAnyH_ready (rs:=[1]) (by kernel_rfl) (by simp) ?_;refine AllReadyH.cons rfl (fun K hK=> ?_) AllReadyH.nil
  go_simp
  refine(HT.out _ _ _).mono ?_;rintro zz w44 ⟨eo,ec,rfl,r146,bb45⟩;have q47:=q39.l bb45;have q48:=q40.l bb45;have q49:=q33.l bb45;have r50:=r41.l bb45;have b51:=aa b42 bb45;clear q39 q40 q33 r41 b42 bb45 HT;refine hK.out _ _ ⟨q47,q48⟩ (fun hS52=> ?_)
  clear hK K;refine wpAnyH_ready (rs:=[4]) (by kernel_rfl) (by simp) ?_;refine AllReadyH.cons rfl (fun K hK=> ?_) AllReadyH.nil
  go_simp
  refine(HG.out _ _ _ _ _ b51 r50 r146).mono ?_;rintro zz w53 ⟨po,pc,rfl,r155,bb54⟩;have q56:=q47.l bb54;have q57:=q48.l bb54;have q58:=q49.l bb54;have b59:=aa b51 bb54;clear q47 q48 q49 r50 r146 b51 bb54 HG;refine hK.out _ _ ⟨q56,q57⟩ (fun hS60=> ?_)
  clear hK K;refine tq 5 (.tuple #[ypV ps (yT po P pc) pp true ov un,yi 0]) rfl (fun _ _=>by kernel_rfl) hS60 ?_
  refine tq 6 (ypV ps (yT po P pc) pp true ov un) rfl (fun _ _=>by go_simp) hS60 ?_
  refine tq 7 (yi 0) rfl (fun _ _=>by go_simp) hS60 ?_
  refine wpAnyH_ready (rs:=[9]) (by kernel_rfl) (by simp) ?_;refine AllReadyH.cons rfl (fun K hK=> ?_) AllReadyH.nil
  have bu:But PQ35 w53 (w53.setCells PQ35 0 (ypL ps (yT po P pc) pp true ov un)):=de _ _ _ _;have hth:w53.there PQ35 0 6:=dD q58;have q61:au (w53.setCells PQ35 0 (ypL ps (yT po P pc) pp true ov un)) PQ35 80 (ypL ps (yT po P pc) pp true ov un):=q58.sets _ rfl;have r62:=bu.rd r155 (aX r155 q58 (by simp));have q63:=bu.loc q56 (by omega);have q64:=bu.loc q57 (by omega);have b65:=bu.below b59 (by omega);rw[if_pos (by kernel_rfl)];refine wp_store_mid 80 (.tmp 13) (.tmp 42) rfl PQ35 0 (ypA ps (yT po P pc) pp true ov un) (by kernel_rfl) (by kernel_rfl) hth (by kernel_rfl) (by simp[Value.oneCell']) ?_;refine hK.out _ _ ⟨q63,q64⟩ (fun hS66=> ?_)
  clear hK K;clear q58 r155 q56 q57 b59 bu hth;refine tq 10 (yi 0) rfl (fun _ _=>by kernel_rfl) hS66 ?_
  refine wpAnyH_done (by kernel_rfl) ?_ _;clear hS0 hS43 hS52 hS60 hS66;change Exit.then _ _ _ _ (World.setCells w53 PQ35 0 (ypL ps (yT po P pc) pp true ov un));generalize World.setCells w53 PQ35 0 (ypL ps (yT po P pc) pp true ov un)=W67 at q63 q64 q61 r62 b65⊢;simp only[Act.put,List.getElem_toArray,List.getElem_cons_succ,List.getElem_cons_zero,List.setIfInBounds_toArray,List.set_cons_zero,List.set_cons_succ];obtain⟨c68,c69,c70,c71,c72,c73⟩:=q61.cs6
  go_wp2_with fail
  refine(HH.out _ _ _ b65 r62).mono ?_;rintro zz w74 ⟨rfl,bb75⟩;have q76:=q61.l bb75;have b77:=aa b65 bb75;clear q63 q64 q61 r62 b65 bb75 HH c68 c69 c70 c71 c72 c73;have c78:=q76.c 3 rfl
  go_wp2
  go_ret3
  exact⟨by simp,b77⟩
theorem Vz.l {w wr w':World}{n:Int}{ps:List ByteArray}{i:Nat}{lv:Value}(h:Vz w n ps i lv wr)(hb:yB wr w'):Vz w n ps i lv w':=by
 obtain⟨cs,h1,h2,h3⟩:=h;exact⟨cs,zZ h1 hb,h2.mono (fun p v k=>k.l hb),h3⟩
theorem ab5.l {w w':World}{n:Int}{ps:List ByteArray}{g cap:Nat}(h:ab5 w n ps g cap)(hb:yB w w'):ab5 w' n ps g cap:=
 ⟨h.fit,h.most,fun i p hp=>by
  obtain⟨so,sc,h1,h2⟩:=h.each i p hp;exact⟨so,sc,aC h1 hb,h2.l hb⟩⟩
theorem HdI.l {base:Nat}{ts:List ak}{lv:Value}{w w':World}(h:HdI base ts lv w)(hb:yB w w'):HdI base ts lv w':=by
 obtain⟨cs,h1,h2⟩:=h;exact⟨cs,zZ h1 hb,h2.mono (fun _ _ k=>k.l hb)⟩
theorem DysV.l {w w':World}{ts:List ak}{g cap:Nat}(h:DysV w ts g cap)(hb:yB w w'):DysV w' ts g cap:=
 ⟨h.fit,h.most,fun i t ht=>by
  obtain⟨so,sc,h1,h2⟩:=h.each i t ht;exact⟨so,sc,aC h1 hb,h2.l hb⟩⟩
theorem HdW.l {w wr w':World}{lv one up:Value}{U:Nat}{cs:List Value}{ts:List ak}(h:HdW w lv one up U cs ts wr)(hb:yB wr w'):HdW w lv one up U cs ts w':=
 ⟨aa h.1 hb,h.2.1.l hb,h.2.2.1.l hb,h.2.2.2.1.l hb,h.2.2.2.2.l hb⟩
theorem hardest_W (R D L G:Int)(gr:Bool)(f U:Nat)(nb:Nat→Int→ak)(w:World)(hR:R=((2^f:Nat):Int))(hf:1≤f∧f≤4)(hL: -100000≤L∧L≤100000)(hG: -100000≤G∧G≤100000)(hD:1≤D∧D≤1000)
  (HN: ∀ao la ac d p w1,yB w w1→Rd w1 .u32 (.slice ao la ac) (Dg.dg 4294967296 d)→yC 68 #[ygV R D L G gr,.slice ao la ac,yi p] w1 (acy w1 (nb d p)))
  (HP: ∀q w1,au w1 q 135 [.int .u32 R]→yC 69 #[.slice (some ⟨q,0,none⟩) 1 1,yi (D-1)] w1 (Num w1 U))
  (HT: ∀v q (i:Nat) w1,i<f→Rd w1 .u32 v (Dg.dg 4294967296 U)→au w1 q 135 [.int .u32 ((2^i:Nat):Int)]→yC 70 #[v,.slice (some ⟨q,0,none⟩) 1 1] w1 (Num w1 (U*2^i)))
  (HS: ∀v u m w1,m≤U*16→Rd w1 .u32 v (Dg.dg 4294967296 m)→Rd w1 .u32 u [1]→yC 71 #[v,u] w1 (Num w1 (m+1))):
  yC 44 #[ygV R D L G gr] w (HdRes w (hdF nb L G U (if gr=true then[nb 1 L] else[]) f)):=by
 replace HN:Hid _:=HN;replace HP:Hid _:=HP;replace HT:Hid _:=HT;replace HS:Hid _:=HS;have hRb:2≤R∧R≤16:=by
  obtain⟨f1,f2⟩:=hf;obtain rfl|rfl|rfl|rfl:f=1∨f=2∨f=3∨f=4:=by omega
  all_goals rw[hR];decide
 replace hR:Hid _:=hR;have hfirst: ∃ts0,(if gr=true then[nb 1 L] else[])=ts0∧ts0.length≤1:=⟨_,rfl,by split<;>simp⟩
 obtain⟨ts0,ets,hts⟩:=hfirst;rw[ets];replace ets:Hid _:=ets;obtain⟨W,hW,q0,b0⟩:=cA w (ygL R D L G gr) 40;replace hW:Hid _:=hW
 go_enter func44,ntmps44
 go_upto_region 1 with fail
 rw[hW.out];clear hW;have hws:w.heap.size+1≤W.heap.size:=q0.lt
 cases hgr:gr
 case' true=>
  replace hgr:Hid _:=hgr;obtain⟨c0,c1,c2,c3,c4⟩:=q0.cs5;rw[hgr.out] at c4;have al:=af W (.cells #[.int .u32 1] 135);have n1:=ah W [.int .u32 1] 135;have c5:=(q0.l al).c 2 rfl
  go_wp2_with fail
  have HNg:=HN.out;rw[hgr.out] at HNg;refine(HNg _ _ _ 1 _ _ (aa b0 al) (by rw[dg32_one];exact(row_one (g:=none) (r:=1) n1 (fun _ h=>nomatch h)).1)).mono ?_
  rintro zz w1 ⟨v,rfl,rv,fv,b1⟩;obtain⟨xo,xc,hv⟩:=rv.shape;subst hv;have al2:=af w1 (.cells #[.bool (nb 1 L).s,.slice xo (Dg.dg 4294967296 (nb 1 L).n).length xc,yi (nb 1 L).e] 76);have nl:=ah w1 [.bool (nb 1 L).s,.slice xo (Dg.dg 4294967296 (nb 1 L).n).length xc,yi (nb 1 L).e] 76;have bb:=aa (aa al b1) al2;have q1:=q0.l bb;have b2:=aa b0 bb;have r2:=rv.l al2;obtain⟨v',w4,hrun,hI,hgrow,hat⟩:=hd_app (us:=[nb 1 L]) (m:=1) (hd_nil (w.heap.size+1) _) nl ⟨xo,xc,[],rfl,⟨r2,fun b hb=>nomatch hb⟩,rfl⟩ rfl (fun u hu=>by simp at hu;rcases hu with rfl|rfl|rfl<;>rfl) (by simp) q1.lt
  have q4:=q1.grownO hgrow (fun g hg=>nomatch hg)
  have b4:=b2.grown hgrow b2.size (fun g hg=>nomatch hg)
  clear HNg c0 c1 c2 c3 c4 c5 al n1 rv fv b1 al2 nl bb q1 b2 r2 hgrow hat hws q0 b0
  go_upto_region 4 with(at_builtin;refine Bi rfl _ _ 98 rfl _ _ v' w4 rfl rfl hrun.out ?_)
  clear hrun;replace hI:HdI (w.heap.size+1) ts0 v' w4:=by rw[←ets.out,if_pos hgr.out];exact hI
 case' false=>
  replace hgr:Hid _:=hgr;have hI:HdI (w.heap.size+1) ts0 yN W:=by rw[←ets.out,if_neg (by rw[hgr.out];decide)];exact hd_nil _ _
  obtain⟨c0,c1,c2,c3,c4⟩:=q0.cs5;rw[hgr.out] at c4
  go_upto_region 4 with fail
  clear c0 c1 c2 c3 c4 hws;obtain⟨w4,hw4⟩: ∃w4,w4=W:=⟨_,rfl⟩;subst hw4;have q4:=q0;have b4:=b0;clear q0 b0
 all_goals
  clear ets hgr;obtain⟨d0,d1,d2,d3,d4⟩:=q4.cs5;have a1:=af w4 (.cells #[.int .u32 1] 135);have n1:=ah w4 [.int .u32 1] 135;have a2:=af (w4.alloc (.cells #[.int .u32 1] 135)) (.cells #[.int .u32 R] 135);have n2:=ah (w4.alloc (.cells #[.int .u32 1] 135)) [.int .u32 R] 135;rw[World.size_alloc] at n2;have d5:=(q4.l a1).c 0 rfl;have d6:=((q4.l a1).l a2).c 1 rfl
  go_wp2_with fail
  refine(HP.out _ _ n2).mono ?_;rintro zz w5 ⟨up,rfl,ou,b5⟩;have bb:=aa a1 a2;have hK:=hdW_mk (aa b4 (aa bb b5)) (q4.l (aa bb b5)) (hI.l (aa bb b5)) (row_one (r:=1) ((n1.l a2).l b5) (fun b hb=>by have:=hI.lt b hb;omega)) (row_own ou (fun b hb=>by
   have h1:=hI.lt b hb;have h2:w4.heap.size≤_:=bb.size;omega))
  clear d0 d1 d2 d3 d4 d5 d6 a1 n1 a2 n2 ou b5 bb hI q4 b4 HP;generalize Value.slice (some ⟨w4.heap.size,0,none⟩) 1 1=one at hK⊢
  go_wp2
  go_loopw [3,6] (fun lv fv wr=> ∃i:Nat,i≤f∧fv=yi ((2^i:Nat):Int)∧HdW w lv one up U (ygL R D L G gr) (hdF nb L G U ts0 i) wr∧(hdF nb L G U ts0 i).length≤1+8*i) (fun _ fv _=>100-(intOf fv).toNat)
  case atStart=>exact⟨0,by omega,rfl,hK,hts⟩
  case round=>
   obtain⟨i,hif,rfl,hW,hlen⟩:=hrel;obtain⟨F,hF⟩: ∃F:Nat,2^i=F:=⟨_,rfl⟩;rw[hF];have hF1:1≤F:=by rw[←hF];exact Nat.pow_pos (by omega)
   have hF2:F≤16:=by
    rw[←hF];exact Nat.le_trans (Nat.pow_le_pow_right (by omega) (Nat.le_trans hif hf.2)) (by decide)
   obtain⟨d0,d1,d2,d3,d4⟩:=hW.2.1.cs5
   by_cases hlt:i<f
   ·have hFR:(F:Int)<R:=by
     rw[hR.out,←hF];exact Int.ofNat_lt.2 (Nat.pow_lt_pow_right (by omega) hlt)
    have HF:Hid (2^i=F):=hF;clear hF;have a1:=af wr (.cells #[.int .u32 (F:Int)] 135);have n1:=ah wr [.int .u32 (F:Int)] 135
    go_wp2_with fail
    refine(HT.out up _ i _ hlt (hW.l a1).2.2.2.2.1 (by rw[HF.out];exact n1)).mono ?_;rintro zz w6 ⟨vt,rfl,ot,b6⟩;have hW6:=(hW.l a1).l b6;clear d0 d1 d2 d3 d4 a1 n1 hW
    go_wp2_with fail
    refine(HS.out vt one (U*2^i) _ ?_ ot.rd hW6.2.2.2.1.1).mono ?_
    ·rw[HF.out]
     exact Nat.mul_le_mul_left _ hF2
    rintro zz w7 ⟨vd,rfl,od,b7⟩;have hW7:=hW6.l b7;have rd7:RowAt w7 u3.ownBlock vd (Dg.dg 4294967296 (U*2^i+1)):=row_own od (fun b hb=>by have:=hW6.lt b hb;omega)
    obtain⟨d,hd⟩: ∃d,U*2^i+1=d:=⟨_,rfl⟩;rw[hd] at rd7;obtain⟨dO,dC,hv⟩:=rd7.1.shape;subst hv;have HD:Hid (U*2^i+1=d):=hd;clear ot b6 hW6 od b7 hd;obtain⟨ts1,hts1⟩: ∃ts1,hdF nb L G U ts0 i=ts1:=⟨_,rfl⟩;rw[hts1] at hW7 hlen;have HTS:Hid (hdF nb L G U ts0 i=ts1):=hts1;clear hts1
    go_wp2
    go_loopw [3,41] (fun lv iv wr=> ∃j:Nat,j≤4∧iv=yi (j:Int)∧HdW w lv one up U (ygL R D L G gr) (ts1++hdD nb L G d j) wr∧RowAt wr lv.ownBlock (yT dO d dC) (Dg.dg 4294967296 d)∧(hdD nb L G d j).length≤2*j) (fun _ iv _=>4-(intOf iv).toNat)
    case atStart=>exact⟨0,by omega,rfl,by rw[show hdD nb L G d 0=[] from rfl,List.append_nil];exact hW7,rd7,Nat.le_refl _⟩
    case round=>
     clear hW7 rd7;obtain⟨j,hj,rfl,hW,rD,hlj⟩:=hrel
     by_cases hlt2:j<4
     ·go_upto_region 12 with fail
      have bW:yB wr wr.drew:=(Below.refl _ _).drew;have hW1:=hW.l bW;have rD1:=rD.l bW;clear hW rD bW;have q1:=hW1.2.1;refine wp_region_held_drew (S:=fun wq=>au wq w.heap.size 40 (ygL R D L G gr)) (by kernel_rfl) q1 (fun hS0=> ?_)
      generalize wr.drew=WD at hW1 rD1 q1 hS0⊢;clear q1;have e1:IntKind.i64.wrap (L+(j:Int))=L+(j:Int):=IntWalk.i64_in _ ⟨by omega,by omega⟩;have e2:IntKind.i64.wrap (G-(j:Int))=G-(j:Int):=IntWalk.i64_in _ ⟨by omega,by omega⟩;refine tq 0 (u3) rfl (fun _ _=>by kernel_rfl) hS0 ?_
      refine tq 1 (ygV R D L G gr) rfl (fun _ hw0=>fy 40 (.tmp 1) rfl w.heap.size 0 (by kernel_rfl) _ _ hw0.range underlying40 rfl (by kernel_rfl)) hS0 ?_
      refine tq 2 (yT dO d dC) rfl (fun _ _=>by kernel_rfl) hS0 ?_
      refine tq 3 (.pointer (some ⟨w.heap.size,2,none⟩)) rfl (fun _ _=>by kernel_rfl) hS0 ?_
      refine tq 4 (yi L) rfl (fun _ hw0=>gU 3 (.tmp 47) rfl w.heap.size 2 (by kernel_rfl) _ _ underlying3 rfl (hw0.c 2 rfl)) hS0 ?_
      refine tq 5 (yi (j:Int)) rfl (fun _ _=>by kernel_rfl) hS0 ?_
      refine tq 6 (yi (L+(j:Int))) rfl (fun _ _=>by go_simp) hS0 ?_
      refine tq 8 (ygV R D L G gr) rfl (fun _ hw0=>fy 40 (.tmp 1) rfl w.heap.size 0 (by kernel_rfl) _ _ hw0.range underlying40 rfl (by kernel_rfl)) hS0 ?_
      refine tq 9 (yT dO d dC) rfl (fun _ _=>by kernel_rfl) hS0 ?_
      refine tq 10 (.pointer (some ⟨w.heap.size,3,none⟩)) rfl (fun _ _=>by kernel_rfl) hS0 ?_
      refine tq 11 (yi G) rfl (fun _ hw0=>gU 3 (.tmp 54) rfl w.heap.size 3 (by kernel_rfl) _ _ underlying3 rfl (hw0.c 3 rfl)) hS0 ?_
      refine tq 12 (yi (j:Int)) rfl (fun _ _=>by kernel_rfl) hS0 ?_
      refine tq 13 (yi (G-(j:Int))) rfl (fun _ _=>by go_simp) hS0 ?_
      refine wpAnyH_ready (rs:=[7]) (by kernel_rfl) (by simp) ?_;refine AllReadyH.cons rfl (fun K hK=> ?_) AllReadyH.nil
      go_simp
      refine(HN.out _ _ _ d _ _ hW1.1 rD1.1).mono ?_;rintro zz w2 ⟨va,rfl,ra,fa,b2⟩;obtain⟨ao,ac,hv⟩:=ra.shape;subst hv;have ra1:RowAt w2 u3.ownBlock _ _:=RowAt.new ra fa (fun b hb=>(hW1.lt b hb).2)
      have hW2:=hW1.l b2;have rD2:=rD1.l b2;refine hK.out _ _ hW2.2.1 (fun hS7=> ?_)
      clear hK K ra fa b2 hW1 rD1 hS0;refine wpAnyH_ready (rs:=[14]) (by kernel_rfl) (by simp) ?_;refine AllReadyH.cons rfl (fun K hK=> ?_) AllReadyH.nil
      go_simp
      refine(HN.out _ _ _ d _ _ hW2.1 rD2.1).mono ?_;rintro zz w3 ⟨vb,rfl,rb,fb,b3⟩;obtain⟨bo,bc,hv⟩:=rb.shape;subst hv;have rb1:RowAt w3 u3.ownBlock _ _:=RowAt.new rb fb (fun b hb=>(hW2.lt b hb).2)
      have hW3:=hW2.l b3;have rD3:=rD2.l b3;have ra3:=ra1.l b3;refine hK.out _ _ hW3.2.1 (fun hS14=> ?_)
      clear hK K rb fb b3 hW2 rD2 ra1 hS7;refine wpAnyH_ready (rs:=[15]) (by kernel_rfl) (by simp) ?_;refine AllReadyH.cons rfl (fun K hK=> ?_) AllReadyH.nil
      go_simp
      have al:=af w3 (.cells #[.bool (nb d (L+(j:Int))).s,.slice ao (Dg.dg 4294967296 (nb d (L+(j:Int))).n).length ac,yi (nb d (L+(j:Int))).e,.bool (nb d (G-(j:Int))).s,.slice bo (Dg.dg 4294967296 (nb d (G-(j:Int))).n).length bc,yi (nb d (G-(j:Int))).e] 76);have nl:=ah w3 [.bool (nb d (L+(j:Int))).s,.slice ao (Dg.dg 4294967296 (nb d (L+(j:Int))).n).length ac,yi (nb d (L+(j:Int))).e,.bool (nb d (G-(j:Int))).s,.slice bo (Dg.dg 4294967296 (nb d (G-(j:Int))).n).length bc,yi (nb d (G-(j:Int))).e] 76;have hW4:=hW3.l al;have rD4:=rD3.l al;have ra4:=ra3.l al;have rb4:=rb1.l al;refine hK.out _ _ hW4.2.1 (fun hS15=> ?_)
      clear hK K al hW3 rD3 ra3 rb1 hS14;obtain⟨v2,w5,hrun,hI,hgrow,hat⟩:=hd_app (us:=hdB nb L G d j) (m:=2) hW4.2.2.1 nl ⟨ao,ac,_,rfl,ra4,bo,bc,[],rfl,rb4,rfl⟩ rfl (fun u hu=>by simp at hu;rcases hu with rfl|rfl|rfl|rfl|rfl|rfl<;>rfl) (by rw[List.length_append];omega) hW4.2.1.lt
      have hW5:=hW4.grow hgrow hat hI;have rD5:=rD4.grow hgrow hat;refine wpAnyH_ready (rs:=[16]) (by kernel_rfl) (by simp) ?_;refine AllReadyH.cons rfl (fun K hK=> ?_) AllReadyH.nil
      refine mg rfl (.tmp 44) (.tmp 59) 98 rfl _ _ v2 w5 rfl rfl hrun.out ?_;refine hK.out _ _ hW5.2.1 (fun hS16=> ?_)
      clear hK K hrun hI hgrow hat nl hW4 rD4 ra4 rb4 hS15;refine tq 17 (v2) rfl (fun _ _=>by go_simp) hS16 ?_
      simp only[Act.put,List.getElem_toArray,List.getElem_cons_succ,List.getElem_cons_zero,List.setIfInBounds_toArray,List.set_cons_zero,List.set_cons_succ];refine wpAnyH_done (by kernel_rfl) ?_ _;clear hS16 e1 e2
      go_wp2
      go_roundw
      case rel=>exact⟨j+1,by omega,by go_num,by rw[show hdD nb L G d (j+1)=hdD nb L G d j++hdB nb L G d j from rfl,←List.append_assoc];exact hW5,rD5,by rw[show hdD nb L G d (j+1)=hdD nb L G d j++hdB nb L G d j from rfl,List.length_append];show _+2≤_;omega⟩
      case measure=>simp[intOf];omega
     ·obtain rfl:j=4:=by omega
      clear rD
      go_wp2
      go_roundw
      case rel=>exact⟨i+1,by omega,by rw[Nat.pow_succ,HF.out];go_num,by rw[show hdF nb L G U ts0 (i+1)=hdF nb L G U ts0 i++hdD nb L G (U*2^i+1) 4 from rfl,HD.out,HTS.out];exact hW,by rw[show hdF nb L G U ts0 (i+1)=hdF nb L G U ts0 i++hdD nb L G (U*2^i+1) 4 from rfl,HD.out,HTS.out,List.length_append];omega⟩
      case measure=>simp[intOf];omega
   ·obtain rfl:i=f:=by omega
    have hFR: ¬(F:Int)<R:=by
     rw[hR.out,←hF];omega
    clear hF
    go_wp2
    go_ret
    exact⟨_,rfl,hW.2.2.1.wider (by omega),hW.1⟩
end Go.Proofs.YtddkchlamdhgcaaGreatDoor
