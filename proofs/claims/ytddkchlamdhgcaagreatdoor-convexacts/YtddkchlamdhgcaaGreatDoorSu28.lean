/-
  Texts laid together: Ar2, Ar4, Oq1, Cv11, Cv12, Eh1, Eh3.
-/
import Derived.Test.YtddkchlamdhgcaaGreatDoorSu22
import Derived.Test.YtddkchlamdhgcaaGreatDoorSu24
set_option maxRecDepth 100000
set_option maxHeartbeats 3200000
namespace Go.Proofs.YtddkchlamdhgcaaGreatDoor
open _root_.Go.Proofs.Tryz
open Go.RowKit
theorem F7.l {w w':World}{n:Int}{g:Option Nat}{p:ByteArray}{v:Value}(h:F7 w n g p v)(hb:yB w w'):F7 w' n g p v:=⟨h.1,h.2.1.l hb,h.2.2⟩
theorem sF.l {w w':World}{n:Int}{ps:List ByteArray}{g cap:Nat}(h:sF w n ps g cap)(hb:yB w w'):sF w' n ps g cap:=
 ⟨h.fit,h.most,fun i p hp=>by
  obtain⟨so,sc,h1,h2⟩:=h.each i p hp;exact⟨so,sc,aC h1 hb,h2.l hb⟩⟩
theorem Gw.l {w w':World}{n:Int}{g:Option Nat}{p:ByteArray}{v:Value}(h:Gw w n g p v)(hb:yB w w'):Gw w' n g p v:=⟨h.1,h.2.1.l hb,h.2.2⟩
theorem toInt_num1 (c n wy p pp r r1 f1:Int)(g ps ov un ex ok:Bool)(m P:Nat)(t:ak)(s:ByteArray)(w:World)(hc:(c != 1)=false)(hr1:r1=if ok=true then r else 0)(hf1:f1=if ok=true then(if ex=true then 0 else 1) else 16)
  (HQ: ∀w1,yB w w1→yC 30 #[yi n,.string s,yi wy] w1 (CRes w1 c g m p t 0))
  (HT: ∀xo xc w1,yC 32 #[yDV t xo xc] w1 fun z w'=> ∃eo ec,z= .returned (yrV t.s (yT xo t.n xc) (.slice eo 1 ec) t.e)∧Rd w' .u32 (.slice eo 1 ec) [1]∧yB w1 w')
  (HG: ∀xo xc eo ec w1,yB w w1→Rd w1 .u32 (yT xo t.n xc) (Dg.dg 4294967296 t.n)→Rd w1 .u32 (.slice eo 1 ec) [1]→yC 31 #[yrV t.s (yT xo t.n xc) (.slice eo 1 ec) t.e,ygV 2 64 0 0 true,yi wy] w1 fun z w'=> ∃po pc,z= .returned (.tuple #[ypV ps (yT po P pc) pp ex ov un,yi 0])∧Rd w' .u32 (yT po P pc) (Dg.dg 4294967296 P)∧yB w1 w')
  (HH: ∀po pc w1,yB w w1→Rd w1 .u32 (yT po P pc) (Dg.dg 4294967296 P)→yC 33 #[ypV ps (yT po P pc) pp ex ov un] w1 (yR w1 (.tuple #[yi r,.bool ok]))):
  yC 7 #[yi n,.string s,yi wy] w (yR w (.tuple #[yi r1,yi f1,yi 0])):=by
 replace HQ:Hid _:=HQ;replace HT:Hid _:=HT;replace HG:Hid _:=HG;replace HH:Hid _:=HH;replace hr1:Hid _:=hr1;replace hf1:Hid _:=hf1
 go_enter func7,ntmps7
 have b0:=Below.refl w.heap.size w
 go_wp2_with fail
 refine(HQ.out _ b0).mono ?_;rintro zz w1 ⟨v1x3,v2x4,rfl,r1x5,r2x6,bb2⟩;have b7:=aa b0 bb2;obtain⟨vo,vc,hv⟩:=r1x5.shape;subst hv;obtain⟨xo,xc,hv⟩:=r2x6.shape;subst hv;clear b0 bb2 HQ;obtain⟨W10,hW9,q11,q12,al8⟩:=iG w1 (yvL c g (yT vo m vc) p) 68 (yDL t xo xc) 76;replace hW9:Hid _:=hW9;have hl13:w.heap.size≤w1.heap.size:=b7.size;have r14:=r2x6.l al8;have b15:=aa b7 al8;clear r1x5 r2x6 b7 al8
 go_upto_region 2 with fail
 rw[hW9.out];clear hW9;obtain⟨W18,hW17,q19,al16⟩:=cA W10 (ygL 2 64 0 0 true) 40;replace hW17:Hid _:=hW17;have hl20:w.heap.size≤W10.heap.size:=b15.size;have hl21:=q12.lt;have c22:=q11.c 0 rfl;have q23:=q12.l al16;have r24:=r14.l al16;have b25:=aa b15 al16;clear q11 q12 r14 b15 al16
 go_upto_region 7 with fail
 rw[hW17.out];clear c22 hW17
 go_upto_region 7 with fail
 have bW26:yB W18 W18.drew:=(Below.refl _ _).drew;have q27:=q23.l bW26;have q28:=q19.l bW26;have r29:=r24.l bW26;have b30:=aa b25 bW26;clear q23 q19 r24 b25 bW26;refine wp_region_held_drew (S:=fun wq=>au wq (w1.heap.size+1) 76 (yDL t xo xc)∧au wq W10.heap.size 40 (ygL 2 64 0 0 true)) (by kernel_rfl) ⟨q27,q28⟩ (fun hS0=> ?_)
 generalize W18.drew=WD31 at q27 q28 r29 b30 hS0⊢;refine tq 0 (yDV t xo xc) rfl (fun _ hw0=>fy 76 (.tmp 10) rfl (w1.heap.size+1) 0 (by kernel_rfl) _ _ hw0.1.range underlying76 rfl (by kernel_rfl)) hS0 ?_
 refine tq 2 (ygV 2 64 0 0 true) rfl (fun _ hw0=>fy 40 (.tmp 12) rfl W10.heap.size 0 (by kernel_rfl) _ _ hw0.2.range underlying40 rfl (by kernel_rfl)) hS0 ?_
 refine tq 3 (yi wy) rfl (fun _ _=>by kernel_rfl) hS0 ?_
 refine wpAnyH_ready (rs:=[1,8]) (by kernel_rfl) (by simp) ?_;refine AllReadyH.cons rfl (fun K hK=> ?_) (AllReadyH.cons rfl (fun K hK=> ?_) AllReadyH.nil)
 ·go_simp
  refine(HT.out _ _ _).mono ?_;rintro zz w32 ⟨eo,ec,rfl,r1x34,bb33⟩;have q35:=q27.l bb33;have q36:=q28.l bb33;have r37:=r29.l bb33;have b38:=aa b30 bb33;clear q27 q28 r29 b30 bb33 HT;refine hK.out _ _ ⟨q35,q36⟩ (fun hS39=> ?_)
  clear hK K;refine wpAnyH_ready (rs:=[4,8]) (by kernel_rfl) (by simp) ?_;refine AllReadyH.cons rfl (fun K hK=> ?_) (AllReadyH.cons rfl (fun K hK=> ?_) AllReadyH.nil)
  ·go_simp
   refine(HG.out _ _ _ _ _ b38 r37 r1x34).mono ?_;rintro zz w40 ⟨po,pc,rfl,r1x42,bb41⟩;have q43:=q35.l bb41;have q44:=q36.l bb41;have b45:=aa b38 bb41;clear q35 q36 r37 r1x34 b38 bb41 HG;refine hK.out _ _ ⟨q43,q44⟩ (fun hS46=> ?_)
   clear hK K;refine tq 5 (.tuple #[ypV ps (yT po P pc) pp ex ov un,yi 0]) rfl (fun _ _=>by kernel_rfl) hS46 ?_
   refine tq 6 (ypV ps (yT po P pc) pp ex ov un) rfl (fun _ _=>by go_simp) hS46 ?_
   refine tq 7 (yi 0) rfl (fun _ _=>by go_simp) hS46 ?_
   refine wpAnyH_ready (rs:=[8]) (by kernel_rfl) (by simp) ?_;refine AllReadyH.cons rfl (fun K hK=> ?_) AllReadyH.nil
   go_simp
   have al47:=af w40 (.cells (ypA false yN 0 false false false) 80);have q48:=ah w40 (ypL false yN 0 false false false) 80;have hl51:w.heap.size≤w40.heap.size:=b45.size;have hl52:=q43.lt;have hl53:=q44.lt;have q54:=q43.l al47;have q55:=q44.l al47;have r56:=r1x42.l al47;have b57:=aa b45 al47;refine hK.out _ _ ⟨q54,q55⟩ (fun hS58=> ?_)
   clear hK K;clear q43 q44 r1x42 b45 al47;generalize w40.alloc (.cells (ypA false yN 0 false false false) 80)=WN49 at q54 q55 q48 r56 b57 hS58⊢;generalize w40.heap.size=PQ50 at q48 hl51 hl52 hl53⊢;refine wpAnyH_ready (rs:=[9]) (by kernel_rfl) (by simp) ?_;refine AllReadyH.cons rfl (fun K hK=> ?_) AllReadyH.nil
   have bu:But PQ50 WN49 (WN49.setCells PQ50 0 (ypL ps (yT po P pc) pp ex ov un)):=de _ _ _ _;have hth:WN49.there PQ50 0 6:=dD q48;have q59:au (WN49.setCells PQ50 0 (ypL ps (yT po P pc) pp ex ov un)) PQ50 80 (ypL ps (yT po P pc) pp ex ov un):=q48.sets _ rfl;have r60:=bu.rd r56 (aX r56 q48 (by simp));have q61:=bu.loc q54 (by omega);have q62:=bu.loc q55 (by omega);have b63:=bu.below b57 (by omega);rw[if_pos (by kernel_rfl)];refine wp_store_mid 80 (.tmp 13) (.tmp 42) rfl PQ50 0 (ypA ps (yT po P pc) pp ex ov un) (by kernel_rfl) (by kernel_rfl) hth (by kernel_rfl) (by simp[Value.oneCell']) ?_;refine hK.out _ _ ⟨q61,q62⟩ (fun hS64=> ?_)
   clear hK K;clear q48 r56 q54 q55 b57 bu hth;refine tq 10 (yi 0) rfl (fun _ _=>by kernel_rfl) hS64 ?_
   refine wpAnyH_done (by kernel_rfl) ?_ _;clear hS0 hS39 hS46 hS58 hS64;change Exit.then _ _ _ _ (World.setCells WN49 PQ50 0 (ypL ps (yT po P pc) pp ex ov un));generalize World.setCells WN49 PQ50 0 (ypL ps (yT po P pc) pp ex ov un)=W65 at q61 q62 q59 r60 b63⊢;simp only[Act.put,List.getElem_toArray,List.getElem_cons_succ,List.getElem_cons_zero,List.setIfInBounds_toArray,List.set_cons_zero,List.set_cons_succ];obtain⟨c66,c67,c68,c69,c70,c71⟩:=q59.cs6
   go_wp2_with fail
   refine(HH.out _ _ _ b63 r60).mono ?_;rintro zz w72 ⟨rfl,bb73⟩;have q74:=q59.l bb73;have b75:=aa b63 bb73;clear q61 q62 q59 r60 b63 bb73 HH c66 c67 c68 c69 c70 c71;obtain⟨d0,d1,d2,d3,d4,d5⟩:=q74.cs6;have bf:=b75;clear b75;replace hr1:=hr1.out;replace hf1:=hf1.out
   cases ok
   all_goals cases ex
   all_goals simp at hr1 hf1
   all_goals subst hr1 hf1
   all_goals
    go_wp2
    go_ret3
    exact⟨by simp,bf⟩
  ·go_simp
   have al40:=af w32 (.cells (ypA false yN 0 false false false) 80);have q41:=ah w32 (ypL false yN 0 false false false) 80;have hl44:w.heap.size≤w32.heap.size:=b38.size;have hl45:=q35.lt;have hl46:=q36.lt;have q47:=q35.l al40;have q48:=q36.l al40;have r49:=r37.l al40;have r50:=r1x34.l al40;have b51:=aa b38 al40;refine hK.out _ _ ⟨q47,q48⟩ (fun hS52=> ?_)
   clear hK K;clear q35 q36 r37 r1x34 b38 al40;generalize w32.alloc (.cells (ypA false yN 0 false false false) 80)=WN42 at q47 q48 q41 r49 r50 b51 hS52⊢;generalize w32.heap.size=PQ43 at q41 hl44 hl45 hl46⊢;refine wpAnyH_ready (rs:=[4]) (by kernel_rfl) (by simp) ?_;refine AllReadyH.cons rfl (fun K hK=> ?_) AllReadyH.nil
   go_simp
   refine(HG.out _ _ _ _ _ b51 r49 r50).mono ?_;rintro zz w53 ⟨po,pc,rfl,r1x55,bb54⟩;have q56:=q47.l bb54;have q57:=q48.l bb54;have q58:=q41.l bb54;have b59:=aa b51 bb54;clear q47 q48 q41 r49 r50 b51 bb54 HG;refine hK.out _ _ ⟨q56,q57⟩ (fun hS60=> ?_)
   clear hK K;refine tq 5 (.tuple #[ypV ps (yT po P pc) pp ex ov un,yi 0]) rfl (fun _ _=>by kernel_rfl) hS60 ?_
   refine tq 6 (ypV ps (yT po P pc) pp ex ov un) rfl (fun _ _=>by go_simp) hS60 ?_
   refine tq 7 (yi 0) rfl (fun _ _=>by go_simp) hS60 ?_
   refine wpAnyH_ready (rs:=[9]) (by kernel_rfl) (by simp) ?_;refine AllReadyH.cons rfl (fun K hK=> ?_) AllReadyH.nil
   have bu:But PQ43 w53 (w53.setCells PQ43 0 (ypL ps (yT po P pc) pp ex ov un)):=de _ _ _ _;have hth:w53.there PQ43 0 6:=dD q58;have q61:au (w53.setCells PQ43 0 (ypL ps (yT po P pc) pp ex ov un)) PQ43 80 (ypL ps (yT po P pc) pp ex ov un):=q58.sets _ rfl;have r62:=bu.rd r1x55 (aX r1x55 q58 (by simp));have q63:=bu.loc q56 (by omega);have q64:=bu.loc q57 (by omega);have b65:=bu.below b59 (by omega);rw[if_pos (by kernel_rfl)];refine wp_store_mid 80 (.tmp 13) (.tmp 42) rfl PQ43 0 (ypA ps (yT po P pc) pp ex ov un) (by kernel_rfl) (by kernel_rfl) hth (by kernel_rfl) (by simp[Value.oneCell']) ?_;refine hK.out _ _ ⟨q63,q64⟩ (fun hS66=> ?_)
   clear hK K;clear q58 r1x55 q56 q57 b59 bu hth;refine tq 10 (yi 0) rfl (fun _ _=>by kernel_rfl) hS66 ?_
   refine wpAnyH_done (by kernel_rfl) ?_ _;clear hS0 hS39 hS52 hS60 hS66;change Exit.then _ _ _ _ (World.setCells w53 PQ43 0 (ypL ps (yT po P pc) pp ex ov un));generalize World.setCells w53 PQ43 0 (ypL ps (yT po P pc) pp ex ov un)=W67 at q63 q64 q61 r62 b65⊢;simp only[Act.put,List.getElem_toArray,List.getElem_cons_succ,List.getElem_cons_zero,List.setIfInBounds_toArray,List.set_cons_zero,List.set_cons_succ];obtain⟨c68,c69,c70,c71,c72,c73⟩:=q61.cs6
   go_wp2_with fail
   refine(HH.out _ _ _ b65 r62).mono ?_;rintro zz w74 ⟨rfl,bb75⟩;have q76:=q61.l bb75;have b77:=aa b65 bb75;clear q63 q64 q61 r62 b65 bb75 HH c68 c69 c70 c71 c72 c73;obtain⟨d0,d1,d2,d3,d4,d5⟩:=q76.cs6;have bf:=b77;clear b77;replace hr1:=hr1.out;replace hf1:=hf1.out
   cases ok
   all_goals cases ex
   all_goals simp at hr1 hf1
   all_goals subst hr1 hf1
   all_goals
    go_wp2
    go_ret3
    exact⟨by simp,bf⟩
 ·go_simp
  have al32:=af WD31 (.cells (ypA false yN 0 false false false) 80);have q33:=ah WD31 (ypL false yN 0 false false false) 80;have hl36:w.heap.size≤WD31.heap.size:=b30.size;have hl37:=q27.lt;have hl38:=q28.lt;have q39:=q27.l al32;have q40:=q28.l al32;have r41:=r29.l al32;have b42:=aa b30 al32;refine hK.out _ _ ⟨q39,q40⟩ (fun hS43=> ?_)
  clear hK K;clear q27 q28 r29 b30 al32;generalize WD31.alloc (.cells (ypA false yN 0 false false false) 80)=WN34 at q39 q40 q33 r41 b42 hS43⊢;generalize WD31.heap.size=PQ35 at q33 hl36 hl37 hl38⊢;refine wpAnyH_ready (rs:=[1]) (by kernel_rfl) (by simp) ?_;refine AllReadyH.cons rfl (fun K hK=> ?_) AllReadyH.nil
  go_simp
  refine(HT.out _ _ _).mono ?_;rintro zz w44 ⟨eo,ec,rfl,r1x46,bb45⟩;have q47:=q39.l bb45;have q48:=q40.l bb45;have q49:=q33.l bb45;have r50:=r41.l bb45;have b51:=aa b42 bb45;clear q39 q40 q33 r41 b42 bb45 HT;refine hK.out _ _ ⟨q47,q48⟩ (fun hS52=> ?_)
  clear hK K;refine wpAnyH_ready (rs:=[4]) (by kernel_rfl) (by simp) ?_;refine AllReadyH.cons rfl (fun K hK=> ?_) AllReadyH.nil
  go_simp
  refine(HG.out _ _ _ _ _ b51 r50 r1x46).mono ?_;rintro zz w53 ⟨po,pc,rfl,r1x55,bb54⟩;have q56:=q47.l bb54;have q57:=q48.l bb54;have q58:=q49.l bb54;have b59:=aa b51 bb54;clear q47 q48 q49 r50 r1x46 b51 bb54 HG;refine hK.out _ _ ⟨q56,q57⟩ (fun hS60=> ?_)
  clear hK K;refine tq 5 (.tuple #[ypV ps (yT po P pc) pp ex ov un,yi 0]) rfl (fun _ _=>by kernel_rfl) hS60 ?_
  refine tq 6 (ypV ps (yT po P pc) pp ex ov un) rfl (fun _ _=>by go_simp) hS60 ?_
  refine tq 7 (yi 0) rfl (fun _ _=>by go_simp) hS60 ?_
  refine wpAnyH_ready (rs:=[9]) (by kernel_rfl) (by simp) ?_;refine AllReadyH.cons rfl (fun K hK=> ?_) AllReadyH.nil
  have bu:But PQ35 w53 (w53.setCells PQ35 0 (ypL ps (yT po P pc) pp ex ov un)):=de _ _ _ _;have hth:w53.there PQ35 0 6:=dD q58;have q61:au (w53.setCells PQ35 0 (ypL ps (yT po P pc) pp ex ov un)) PQ35 80 (ypL ps (yT po P pc) pp ex ov un):=q58.sets _ rfl;have r62:=bu.rd r1x55 (aX r1x55 q58 (by simp));have q63:=bu.loc q56 (by omega);have q64:=bu.loc q57 (by omega);have b65:=bu.below b59 (by omega);rw[if_pos (by kernel_rfl)];refine wp_store_mid 80 (.tmp 13) (.tmp 42) rfl PQ35 0 (ypA ps (yT po P pc) pp ex ov un) (by kernel_rfl) (by kernel_rfl) hth (by kernel_rfl) (by simp[Value.oneCell']) ?_;refine hK.out _ _ ⟨q63,q64⟩ (fun hS66=> ?_)
  clear hK K;clear q58 r1x55 q56 q57 b59 bu hth;refine tq 10 (yi 0) rfl (fun _ _=>by kernel_rfl) hS66 ?_
  refine wpAnyH_done (by kernel_rfl) ?_ _;clear hS0 hS43 hS52 hS60 hS66;change Exit.then _ _ _ _ (World.setCells w53 PQ35 0 (ypL ps (yT po P pc) pp ex ov un));generalize World.setCells w53 PQ35 0 (ypL ps (yT po P pc) pp ex ov un)=W67 at q63 q64 q61 r62 b65⊢;simp only[Act.put,List.getElem_toArray,List.getElem_cons_succ,List.getElem_cons_zero,List.setIfInBounds_toArray,List.set_cons_zero,List.set_cons_succ];obtain⟨c68,c69,c70,c71,c72,c73⟩:=q61.cs6
  go_wp2_with fail
  refine(HH.out _ _ _ b65 r62).mono ?_;rintro zz w74 ⟨rfl,bb75⟩;have q76:=q61.l bb75;have b77:=aa b65 bb75;clear q63 q64 q61 r62 b65 bb75 HH c68 c69 c70 c71 c72 c73;obtain⟨d0,d1,d2,d3,d4,d5⟩:=q76.cs6;have bf:=b77;clear b77;replace hr1:=hr1.out;replace hf1:=hf1.out
  cases ok
  all_goals cases ex
  all_goals simp at hr1 hf1
  all_goals subst hr1 hf1
  all_goals
   go_wp2
   go_ret3
   exact⟨by simp,bf⟩
theorem toInt_num2 (c n wy p pp r r1 f1:Int)(g ps ov un ex ok:Bool)(m P:Nat)(t:ak)(s:ByteArray)(w:World)(h1:(c != 1)=true)(h2:(c != 2)=false)(hr1:r1=if ok=true then r else 0)(hf1:f1=if ok=true then(if ex=true then 0 else 1) else 16)
  (HQ: ∀w1,yB w w1→yC 30 #[yi n,.string s,yi wy] w1 (CRes w1 c g m p t 0))
  (HT: ∀xo xc w1,yC 32 #[yDV t xo xc] w1 fun z w'=> ∃eo ec,z= .returned (yrV t.s (yT xo t.n xc) (.slice eo 1 ec) t.e)∧Rd w' .u32 (.slice eo 1 ec) [1]∧yB w1 w')
  (HG: ∀xo xc eo ec w1,yB w w1→Rd w1 .u32 (yT xo t.n xc) (Dg.dg 4294967296 t.n)→Rd w1 .u32 (.slice eo 1 ec) [1]→yC 31 #[yrV t.s (yT xo t.n xc) (.slice eo 1 ec) t.e,ygV 2 64 0 0 true,yi wy] w1 fun z w'=> ∃po pc,z= .returned (.tuple #[ypV ps (yT po P pc) pp ex ov un,yi 0])∧Rd w' .u32 (yT po P pc) (Dg.dg 4294967296 P)∧yB w1 w')
  (HH: ∀po pc w1,yB w w1→Rd w1 .u32 (yT po P pc) (Dg.dg 4294967296 P)→yC 33 #[ypV ps (yT po P pc) pp ex ov un] w1 (yR w1 (.tuple #[yi r,.bool ok]))):
  yC 7 #[yi n,.string s,yi wy] w (yR w (.tuple #[yi r1,yi f1,yi 0])):=by
 replace HQ:Hid _:=HQ;replace HT:Hid _:=HT;replace HG:Hid _:=HG;replace HH:Hid _:=HH;replace hr1:Hid _:=hr1;replace hf1:Hid _:=hf1
 go_enter func7,ntmps7
 have b0:=Below.refl w.heap.size w
 go_wp2_with fail
 refine(HQ.out _ b0).mono ?_;rintro zz w1 ⟨v1x3,v2x4,rfl,r1x5,r2x6,bb2⟩;have b7:=aa b0 bb2;obtain⟨vo,vc,hv⟩:=r1x5.shape;subst hv;obtain⟨xo,xc,hv⟩:=r2x6.shape;subst hv;clear b0 bb2 HQ;obtain⟨W10,hW9,q11,q12,al8⟩:=iG w1 (yvL c g (yT vo m vc) p) 68 (yDL t xo xc) 76;replace hW9:Hid _:=hW9;have hl13:w.heap.size≤w1.heap.size:=b7.size;have r14:=r2x6.l al8;have b15:=aa b7 al8;clear r1x5 r2x6 b7 al8
 go_upto_region 2 with fail
 rw[hW9.out];clear hW9;obtain⟨W18,hW17,q19,al16⟩:=cA W10 (ygL 2 64 0 0 true) 40;replace hW17:Hid _:=hW17;have hl20:w.heap.size≤W10.heap.size:=b15.size;have hl21:=q12.lt;have c22:=q11.c 0 rfl;have q23:=q12.l al16;have r24:=r14.l al16;have b25:=aa b15 al16;clear q11 q12 r14 b15 al16
 go_upto_region 7 with fail
 rw[hW17.out];clear c22 hW17
 go_upto_region 7 with fail
 have bW26:yB W18 W18.drew:=(Below.refl _ _).drew;have q27:=q23.l bW26;have q28:=q19.l bW26;have r29:=r24.l bW26;have b30:=aa b25 bW26;clear q23 q19 r24 b25 bW26;refine wp_region_held_drew (S:=fun wq=>au wq (w1.heap.size+1) 76 (yDL t xo xc)∧au wq W10.heap.size 40 (ygL 2 64 0 0 true)) (by kernel_rfl) ⟨q27,q28⟩ (fun hS0=> ?_)
 generalize W18.drew=WD31 at q27 q28 r29 b30 hS0⊢;refine tq 0 (yDV t xo xc) rfl (fun _ hw0=>fy 76 (.tmp 10) rfl (w1.heap.size+1) 0 (by kernel_rfl) _ _ hw0.1.range underlying76 rfl (by kernel_rfl)) hS0 ?_
 refine tq 2 (ygV 2 64 0 0 true) rfl (fun _ hw0=>fy 40 (.tmp 12) rfl W10.heap.size 0 (by kernel_rfl) _ _ hw0.2.range underlying40 rfl (by kernel_rfl)) hS0 ?_
 refine tq 3 (yi wy) rfl (fun _ _=>by kernel_rfl) hS0 ?_
 refine wpAnyH_ready (rs:=[1,8]) (by kernel_rfl) (by simp) ?_;refine AllReadyH.cons rfl (fun K hK=> ?_) (AllReadyH.cons rfl (fun K hK=> ?_) AllReadyH.nil)
 ·go_simp
  refine(HT.out _ _ _).mono ?_;rintro zz w32 ⟨eo,ec,rfl,r1x34,bb33⟩;have q35:=q27.l bb33;have q36:=q28.l bb33;have r37:=r29.l bb33;have b38:=aa b30 bb33;clear q27 q28 r29 b30 bb33 HT;refine hK.out _ _ ⟨q35,q36⟩ (fun hS39=> ?_)
  clear hK K;refine wpAnyH_ready (rs:=[4,8]) (by kernel_rfl) (by simp) ?_;refine AllReadyH.cons rfl (fun K hK=> ?_) (AllReadyH.cons rfl (fun K hK=> ?_) AllReadyH.nil)
  ·go_simp
   refine(HG.out _ _ _ _ _ b38 r37 r1x34).mono ?_;rintro zz w40 ⟨po,pc,rfl,r1x42,bb41⟩;have q43:=q35.l bb41;have q44:=q36.l bb41;have b45:=aa b38 bb41;clear q35 q36 r37 r1x34 b38 bb41 HG;refine hK.out _ _ ⟨q43,q44⟩ (fun hS46=> ?_)
   clear hK K;refine tq 5 (.tuple #[ypV ps (yT po P pc) pp ex ov un,yi 0]) rfl (fun _ _=>by kernel_rfl) hS46 ?_
   refine tq 6 (ypV ps (yT po P pc) pp ex ov un) rfl (fun _ _=>by go_simp) hS46 ?_
   refine tq 7 (yi 0) rfl (fun _ _=>by go_simp) hS46 ?_
   refine wpAnyH_ready (rs:=[8]) (by kernel_rfl) (by simp) ?_;refine AllReadyH.cons rfl (fun K hK=> ?_) AllReadyH.nil
   go_simp
   have al47:=af w40 (.cells (ypA false yN 0 false false false) 80);have q48:=ah w40 (ypL false yN 0 false false false) 80;have hl51:w.heap.size≤w40.heap.size:=b45.size;have hl52:=q43.lt;have hl53:=q44.lt;have q54:=q43.l al47;have q55:=q44.l al47;have r56:=r1x42.l al47;have b57:=aa b45 al47;refine hK.out _ _ ⟨q54,q55⟩ (fun hS58=> ?_)
   clear hK K;clear q43 q44 r1x42 b45 al47;generalize w40.alloc (.cells (ypA false yN 0 false false false) 80)=WN49 at q54 q55 q48 r56 b57 hS58⊢;generalize w40.heap.size=PQ50 at q48 hl51 hl52 hl53⊢;refine wpAnyH_ready (rs:=[9]) (by kernel_rfl) (by simp) ?_;refine AllReadyH.cons rfl (fun K hK=> ?_) AllReadyH.nil
   have bu:But PQ50 WN49 (WN49.setCells PQ50 0 (ypL ps (yT po P pc) pp ex ov un)):=de _ _ _ _;have hth:WN49.there PQ50 0 6:=dD q48;have q59:au (WN49.setCells PQ50 0 (ypL ps (yT po P pc) pp ex ov un)) PQ50 80 (ypL ps (yT po P pc) pp ex ov un):=q48.sets _ rfl;have r60:=bu.rd r56 (aX r56 q48 (by simp));have q61:=bu.loc q54 (by omega);have q62:=bu.loc q55 (by omega);have b63:=bu.below b57 (by omega);rw[if_pos (by kernel_rfl)];refine wp_store_mid 80 (.tmp 13) (.tmp 42) rfl PQ50 0 (ypA ps (yT po P pc) pp ex ov un) (by kernel_rfl) (by kernel_rfl) hth (by kernel_rfl) (by simp[Value.oneCell']) ?_;refine hK.out _ _ ⟨q61,q62⟩ (fun hS64=> ?_)
   clear hK K;clear q48 r56 q54 q55 b57 bu hth;refine tq 10 (yi 0) rfl (fun _ _=>by kernel_rfl) hS64 ?_
   refine wpAnyH_done (by kernel_rfl) ?_ _;clear hS0 hS39 hS46 hS58 hS64;change Exit.then _ _ _ _ (World.setCells WN49 PQ50 0 (ypL ps (yT po P pc) pp ex ov un));generalize World.setCells WN49 PQ50 0 (ypL ps (yT po P pc) pp ex ov un)=W65 at q61 q62 q59 r60 b63⊢;simp only[Act.put,List.getElem_toArray,List.getElem_cons_succ,List.getElem_cons_zero,List.setIfInBounds_toArray,List.set_cons_zero,List.set_cons_succ];obtain⟨c66,c67,c68,c69,c70,c71⟩:=q59.cs6
   go_wp2_with fail
   refine(HH.out _ _ _ b63 r60).mono ?_;rintro zz w72 ⟨rfl,bb73⟩;have q74:=q59.l bb73;have b75:=aa b63 bb73;clear q61 q62 q59 r60 b63 bb73 HH c66 c67 c68 c69 c70 c71;obtain⟨d0,d1,d2,d3,d4,d5⟩:=q74.cs6;have bf:=b75;clear b75;replace hr1:=hr1.out;replace hf1:=hf1.out
   cases ok
   all_goals cases ex
   all_goals simp at hr1 hf1
   all_goals subst hr1 hf1
   all_goals
    go_wp2
    go_ret3
    exact⟨by simp,bf⟩
  ·go_simp
   have al40:=af w32 (.cells (ypA false yN 0 false false false) 80);have q41:=ah w32 (ypL false yN 0 false false false) 80;have hl44:w.heap.size≤w32.heap.size:=b38.size;have hl45:=q35.lt;have hl46:=q36.lt;have q47:=q35.l al40;have q48:=q36.l al40;have r49:=r37.l al40;have r50:=r1x34.l al40;have b51:=aa b38 al40;refine hK.out _ _ ⟨q47,q48⟩ (fun hS52=> ?_)
   clear hK K;clear q35 q36 r37 r1x34 b38 al40;generalize w32.alloc (.cells (ypA false yN 0 false false false) 80)=WN42 at q47 q48 q41 r49 r50 b51 hS52⊢;generalize w32.heap.size=PQ43 at q41 hl44 hl45 hl46⊢;refine wpAnyH_ready (rs:=[4]) (by kernel_rfl) (by simp) ?_;refine AllReadyH.cons rfl (fun K hK=> ?_) AllReadyH.nil
   go_simp
   refine(HG.out _ _ _ _ _ b51 r49 r50).mono ?_;rintro zz w53 ⟨po,pc,rfl,r1x55,bb54⟩;have q56:=q47.l bb54;have q57:=q48.l bb54;have q58:=q41.l bb54;have b59:=aa b51 bb54;clear q47 q48 q41 r49 r50 b51 bb54 HG;refine hK.out _ _ ⟨q56,q57⟩ (fun hS60=> ?_)
   clear hK K;refine tq 5 (.tuple #[ypV ps (yT po P pc) pp ex ov un,yi 0]) rfl (fun _ _=>by kernel_rfl) hS60 ?_
   refine tq 6 (ypV ps (yT po P pc) pp ex ov un) rfl (fun _ _=>by go_simp) hS60 ?_
   refine tq 7 (yi 0) rfl (fun _ _=>by go_simp) hS60 ?_
   refine wpAnyH_ready (rs:=[9]) (by kernel_rfl) (by simp) ?_;refine AllReadyH.cons rfl (fun K hK=> ?_) AllReadyH.nil
   have bu:But PQ43 w53 (w53.setCells PQ43 0 (ypL ps (yT po P pc) pp ex ov un)):=de _ _ _ _;have hth:w53.there PQ43 0 6:=dD q58;have q61:au (w53.setCells PQ43 0 (ypL ps (yT po P pc) pp ex ov un)) PQ43 80 (ypL ps (yT po P pc) pp ex ov un):=q58.sets _ rfl;have r62:=bu.rd r1x55 (aX r1x55 q58 (by simp));have q63:=bu.loc q56 (by omega);have q64:=bu.loc q57 (by omega);have b65:=bu.below b59 (by omega);rw[if_pos (by kernel_rfl)];refine wp_store_mid 80 (.tmp 13) (.tmp 42) rfl PQ43 0 (ypA ps (yT po P pc) pp ex ov un) (by kernel_rfl) (by kernel_rfl) hth (by kernel_rfl) (by simp[Value.oneCell']) ?_;refine hK.out _ _ ⟨q63,q64⟩ (fun hS66=> ?_)
   clear hK K;clear q58 r1x55 q56 q57 b59 bu hth;refine tq 10 (yi 0) rfl (fun _ _=>by kernel_rfl) hS66 ?_
   refine wpAnyH_done (by kernel_rfl) ?_ _;clear hS0 hS39 hS52 hS60 hS66;change Exit.then _ _ _ _ (World.setCells w53 PQ43 0 (ypL ps (yT po P pc) pp ex ov un));generalize World.setCells w53 PQ43 0 (ypL ps (yT po P pc) pp ex ov un)=W67 at q63 q64 q61 r62 b65⊢;simp only[Act.put,List.getElem_toArray,List.getElem_cons_succ,List.getElem_cons_zero,List.setIfInBounds_toArray,List.set_cons_zero,List.set_cons_succ];obtain⟨c68,c69,c70,c71,c72,c73⟩:=q61.cs6
   go_wp2_with fail
   refine(HH.out _ _ _ b65 r62).mono ?_;rintro zz w74 ⟨rfl,bb75⟩;have q76:=q61.l bb75;have b77:=aa b65 bb75;clear q63 q64 q61 r62 b65 bb75 HH c68 c69 c70 c71 c72 c73;obtain⟨d0,d1,d2,d3,d4,d5⟩:=q76.cs6;have bf:=b77;clear b77;replace hr1:=hr1.out;replace hf1:=hf1.out
   cases ok
   all_goals cases ex
   all_goals simp at hr1 hf1
   all_goals subst hr1 hf1
   all_goals
    go_wp2
    go_ret3
    exact⟨by simp,bf⟩
 ·go_simp
  have al32:=af WD31 (.cells (ypA false yN 0 false false false) 80);have q33:=ah WD31 (ypL false yN 0 false false false) 80;have hl36:w.heap.size≤WD31.heap.size:=b30.size;have hl37:=q27.lt;have hl38:=q28.lt;have q39:=q27.l al32;have q40:=q28.l al32;have r41:=r29.l al32;have b42:=aa b30 al32;refine hK.out _ _ ⟨q39,q40⟩ (fun hS43=> ?_)
  clear hK K;clear q27 q28 r29 b30 al32;generalize WD31.alloc (.cells (ypA false yN 0 false false false) 80)=WN34 at q39 q40 q33 r41 b42 hS43⊢;generalize WD31.heap.size=PQ35 at q33 hl36 hl37 hl38⊢;refine wpAnyH_ready (rs:=[1]) (by kernel_rfl) (by simp) ?_;refine AllReadyH.cons rfl (fun K hK=> ?_) AllReadyH.nil
  go_simp
  refine(HT.out _ _ _).mono ?_;rintro zz w44 ⟨eo,ec,rfl,r1x46,bb45⟩;have q47:=q39.l bb45;have q48:=q40.l bb45;have q49:=q33.l bb45;have r50:=r41.l bb45;have b51:=aa b42 bb45;clear q39 q40 q33 r41 b42 bb45 HT;refine hK.out _ _ ⟨q47,q48⟩ (fun hS52=> ?_)
  clear hK K;refine wpAnyH_ready (rs:=[4]) (by kernel_rfl) (by simp) ?_;refine AllReadyH.cons rfl (fun K hK=> ?_) AllReadyH.nil
  go_simp
  refine(HG.out _ _ _ _ _ b51 r50 r1x46).mono ?_;rintro zz w53 ⟨po,pc,rfl,r1x55,bb54⟩;have q56:=q47.l bb54;have q57:=q48.l bb54;have q58:=q49.l bb54;have b59:=aa b51 bb54;clear q47 q48 q49 r50 r1x46 b51 bb54 HG;refine hK.out _ _ ⟨q56,q57⟩ (fun hS60=> ?_)
  clear hK K;refine tq 5 (.tuple #[ypV ps (yT po P pc) pp ex ov un,yi 0]) rfl (fun _ _=>by kernel_rfl) hS60 ?_
  refine tq 6 (ypV ps (yT po P pc) pp ex ov un) rfl (fun _ _=>by go_simp) hS60 ?_
  refine tq 7 (yi 0) rfl (fun _ _=>by go_simp) hS60 ?_
  refine wpAnyH_ready (rs:=[9]) (by kernel_rfl) (by simp) ?_;refine AllReadyH.cons rfl (fun K hK=> ?_) AllReadyH.nil
  have bu:But PQ35 w53 (w53.setCells PQ35 0 (ypL ps (yT po P pc) pp ex ov un)):=de _ _ _ _;have hth:w53.there PQ35 0 6:=dD q58;have q61:au (w53.setCells PQ35 0 (ypL ps (yT po P pc) pp ex ov un)) PQ35 80 (ypL ps (yT po P pc) pp ex ov un):=q58.sets _ rfl;have r62:=bu.rd r1x55 (aX r1x55 q58 (by simp));have q63:=bu.loc q56 (by omega);have q64:=bu.loc q57 (by omega);have b65:=bu.below b59 (by omega);rw[if_pos (by kernel_rfl)];refine wp_store_mid 80 (.tmp 13) (.tmp 42) rfl PQ35 0 (ypA ps (yT po P pc) pp ex ov un) (by kernel_rfl) (by kernel_rfl) hth (by kernel_rfl) (by simp[Value.oneCell']) ?_;refine hK.out _ _ ⟨q63,q64⟩ (fun hS66=> ?_)
  clear hK K;clear q58 r1x55 q56 q57 b59 bu hth;refine tq 10 (yi 0) rfl (fun _ _=>by kernel_rfl) hS66 ?_
  refine wpAnyH_done (by kernel_rfl) ?_ _;clear hS0 hS43 hS52 hS60 hS66;change Exit.then _ _ _ _ (World.setCells w53 PQ35 0 (ypL ps (yT po P pc) pp ex ov un));generalize World.setCells w53 PQ35 0 (ypL ps (yT po P pc) pp ex ov un)=W67 at q63 q64 q61 r62 b65⊢;simp only[Act.put,List.getElem_toArray,List.getElem_cons_succ,List.getElem_cons_zero,List.setIfInBounds_toArray,List.set_cons_zero,List.set_cons_succ];obtain⟨c68,c69,c70,c71,c72,c73⟩:=q61.cs6
  go_wp2_with fail
  refine(HH.out _ _ _ b65 r62).mono ?_;rintro zz w74 ⟨rfl,bb75⟩;have q76:=q61.l bb75;have b77:=aa b65 bb75;clear q63 q64 q61 r62 b65 bb75 HH c68 c69 c70 c71 c72 c73;obtain⟨d0,d1,d2,d3,d4,d5⟩:=q76.cs6;have bf:=b77;clear b77;replace hr1:=hr1.out;replace hf1:=hf1.out
  cases ok
  all_goals cases ex
  all_goals simp at hr1 hf1
  all_goals subst hr1 hf1
  all_goals
   go_wp2
   go_ret3
   exact⟨by simp,bf⟩
theorem RowAt.l {w w':World}{g:Option Nat}{v:Value}{zs:List Nat}(h:RowAt w g v zs)(hb:yB w w'):RowAt w' g v zs:=⟨h.1.l hb,h.2⟩
theorem RowAt.grow {w w':World}{g g':Option Nat}{v:Value}{zs:List Nat}(h:RowAt w g v zs)(hg:w.grownBy w' g)(hat:g'=g∨g'=some w.heap.size):RowAt w' g' v zs:=by
 obtain⟨k2,k3⟩:=h;refine⟨?_,fun b hb=> ?_⟩
 ·cases g with
  |none=>exact k2.l ⟨hg.os,hg.tape,hg.output,hg.size,fun j hj=>hg.block j hj (fun e=>nomatch e)⟩
  |some b=>exact Nx k2 hg (k3 b rfl)
 ·rcases hat with e|e
  ·exact k3 b (by rw[←e];exact hb)
  ·have hbw:b=w.heap.size:=by
    rw[e] at hb;exact(Option.some.inj hb).symm
   exact t9 k2 (by omega)
theorem hd_more {base:Nat}{w1 w2:World}{ts us:List ak}{lv v':Value}{cs ds:List Value}(h2:DysAt w1 lv.ownBlock ts cs)(hx:DysAt w1 lv.ownBlock us ds)(hown:w2.ownsRow base 76 3 v' (ts.length+us.length) (cs++ds))(hg:w1.grownBy w2 lv.ownBlock)(hat:v'.ownBlock=lv.ownBlock∨v'.ownBlock=some w1.heap.size):
  HdI base (ts++us) v' w2:=by
 refine⟨cs++ds,by rw[List.length_append];exact hown, ?_⟩;exact(hx.mono (fun _ _ k=>k.grow hg hat)).app (h2.mono (fun _ _ k=>k.grow hg hat))
theorem hd_app {base:Nat}{ts us:List ak}{lv:Value}{W:World}{Q m:Nat}{ds:List Value}(h:HdI base ts lv W)(nl:au W Q 76 ds)(hx:DysAt W lv.ownBlock us ds)(hm:us.length=m)(h1: ∀u∈ds,u.oneCell'=true)(hl:ts.length+m≤1000)(hb:base≤W.heap.size):
  ∃v' w',Hid ((Builtin.append_ #[98,98] 98 #[lv,.slice (some ⟨Q,0,none⟩) m m]).run Tryz.prog W= .ok v' w')∧HdI base (ts++us) v' w'∧W.grownBy w' lv.ownBlock∧(v'.ownBlock=lv.ownBlock∨v'.ownBlock=some W.heap.size):=by
 obtain⟨i0,hi,hz0,hz1,hz2⟩:=info_parts (show(Tryz.prog.info? 76).map (fun i=>(i.zero,i.size,i.bytes))=some (some (ydV false yN 0),3,40) by kernel_rfl)
 obtain⟨cs,k1,k2⟩:=h;subst hm;obtain⟨v',w4,hrun,hown',hgrow,-,hat⟩:=run_append_own_at (P:=Tryz.prog) W base 98 98 76 i0 _ 3 40 underlying98 hi hz0 hz1 hz2 rfl (by omega) lv ts.length cs k1 ⟨Q,0,none⟩ us.length us.length ds hx.len (fun j u hj=>by
  have:=nl.c j hj;rw[Addr.add_mid,Nat.zero_add];exact this) h1 (by unfold maxLen;omega) (by omega) hb
 exact⟨v',w4,hrun,hd_more k2 hx hown' hgrow hat,hgrow,hat⟩
theorem HdW.grow {w wr w':World}{lv v' one up:Value}{U:Nat}{cs:List Value}{ts us:List ak}(h:HdW w lv one up U cs ts wr)(hg:wr.grownBy w' lv.ownBlock)(hat:v'.ownBlock=lv.ownBlock∨v'.ownBlock=some wr.heap.size)(hn:HdI (w.heap.size+1) us v' w'):HdW w v' one up U cs us w':=by
 have hl:=h.lt;obtain⟨h1,h2,h3,h4,h5⟩:=h;exact⟨h1.grown hg h1.size (fun g hg=>by have:=hl g hg;omega),h2.grownO hg (fun g hg=>by have:=hl g hg;omega),hn,h4.grow hg hat,h5.grow hg hat⟩
end Go.Proofs.YtddkchlamdhgcaaGreatDoor
