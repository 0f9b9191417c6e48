/-
  Texts laid together: Dp1b, Dp1c, Dr3a, Dp2, Bd2.
-/
import Derived.Test.YtpainhklfoaniaaGreatDoorSc47
set_option maxRecDepth 100000
set_option maxHeartbeats 3200000
namespace Go.Proofs.YtpainhklfoaniaaGreatDoor
open _root_.Go.Proofs.Tryz
open Go.RowKit
theorem refDP_geq (ea eb E da db ma mb:Int)(sa sb:Bool)(ao bo:Option Addr)(la lb ac bc:Nat)(X Y Z:Nat)(t:ak)(w:World)(cm:Int)(hs:(sa==sb)=false)(hc:cm≥0)(hc:((la:Int)==0)=false∧((lb:Int)==0)=false∧min ea eb=E∨((la:Int)==0)=true∧((lb:Int)==0)=false∧eb=E∨((la:Int)==0)=false∧((lb:Int)==0)=true∧ea=E∨((la:Int)==0)=true∧((lb:Int)==0)=true∧ea=E)(hda:IntKind.i64.wrap (ea-E)=da)(hdb:IntKind.i64.wrap (eb-E)=db)(hma:max 0 da=ma)(hmb:max 0 db=mb)
  (HU: ∀w1,yB w w1→yC 62 #[.slice ao la ac,yi ma] w1 (cG w1 X))
  (HV: ∀w1,yB w w1→yC 62 #[.slice bo lb bc,yi mb] w1 (cG w1 Y))
  (HC: ∀xo xc yo yc w1,yB w w1→Rd w1 .i64 (yS xo X xc) (Dg.dg 65536 X)→Rd w1 .i64 (yS yo Y yc) (Dg.dg 65536 Y)→yC 48 #[yS xo X xc,yS yo Y yc] w1 (yR w1 (yi cm)))
  (HP: ∀xo xc yo yc w1,yB w w1→Rd w1 .i64 (yS xo X xc) (Dg.dg 65536 X)→Rd w1 .i64 (yS yo Y yc) (Dg.dg 65536 Y)→yC 32 #[yS xo X xc,yS yo Y yc] w1 (cG w1 Z))
  (HB: ∀zo zc w1,yB w w1→Rd w1 .i64 (yS zo Z zc) (Dg.dg 65536 Z)→yC 33 #[ydV sa (yS zo Z zc) E] w1 (Xi w.heap.size w1 t)):
  yC 24 #[ydV sa (.slice ao la ac) ea,ydV sb (.slice bo lb bc) eb] w (di w t):=by
 replace HU:Hid _:=HU;replace HV:Hid _:=HV;replace HC:Hid _:=HC;replace HP:Hid _:=HP;replace HB:Hid _:=HB;obtain⟨W5,hW6,q1,q2,q3,b4⟩:=lG w (ydL sa (.slice ao la ac) ea) 35 (ydL sb (.slice bo lb bc) eb) 35 (ydL false yN 0) 35;replace hW6:Hid _:=hW6
 go_enter func24,ntmps24
 go_upto_region 1 with fail
 rw[hW6.out];clear hW6;have c7:=q1.c 1 rfl;have c8:=q1.c 2 rfl;have c9:=q2.c 1 rfl;have c10:=q2.c 2 rfl
 rcases hc with⟨hla,hlb,hE⟩| ⟨hla,hlb,hE⟩| ⟨hla,hlb,hE⟩| ⟨hla,hlb,hE⟩
 all_goals try rw[hE] at c8
 all_goals try rw[hE] at c10
 all_goals
  go_upto_region 6 with fail
  clear hE;clear c7 c8 c9 c10;have bW11:yB W5 W5.drew:=(Below.refl _ _).drew;have q12:=q1.l bW11;have q13:=q2.l bW11;have q14:=q3.l bW11;have b15:=aa b4 bW11;clear q1 q2 q3 b4 bW11;refine wp_region_held_drew (S:=fun wq=>au wq w.heap.size 35 (ydL sa (.slice ao la ac) ea)∧au wq (w.heap.size+1) 35 (ydL sb (.slice bo lb bc) eb)) (by kernel_rfl) ⟨q12,q13⟩ (fun hS0=> ?_)
  generalize W5.drew=WD16 at q12 q13 q14 b15 hS0⊢;refine tq 0 (.pointer (some ⟨w.heap.size,1,none⟩)) rfl (fun _ _=>by kernel_rfl) hS0 ?_
  refine tq 1 (.slice ao la ac) rfl (fun _ hw0=>gU 33 (.tmp 25) rfl w.heap.size 1 (by kernel_rfl) _ _ underlying33 rfl (hw0.1.c 1 rfl)) hS0 ?_
  refine tq 2 (.pointer (some ⟨w.heap.size,2,none⟩)) rfl (fun _ _=>by kernel_rfl) hS0 ?_
  refine tq 3 (yi ea) rfl (fun _ hw0=>gU 3 (.tmp 27) rfl w.heap.size 2 (by kernel_rfl) _ _ underlying3 rfl (hw0.1.c 2 rfl)) hS0 ?_
  refine tq 4 (yi E) rfl (fun _ _=>by kernel_rfl) hS0 ?_
  refine tq 5 (yi da) rfl (fun _ _=>by go_simp) hS0 ?_
  refine tq 6 (yi ma) rfl (fun _ _=>by go_simp) hS0 ?_
  refine tq 8 (.pointer (some ⟨w.heap.size+1,1,none⟩)) rfl (fun _ _=>by kernel_rfl) hS0 ?_
  refine tq 9 (.slice bo lb bc) rfl (fun _ hw0=>gU 33 (.tmp 33) rfl (w.heap.size+1) 1 (by kernel_rfl) _ _ underlying33 rfl (hw0.2.c 1 rfl)) hS0 ?_
  refine tq 10 (.pointer (some ⟨w.heap.size+1,2,none⟩)) rfl (fun _ _=>by kernel_rfl) hS0 ?_
  refine tq 11 (yi eb) rfl (fun _ hw0=>gU 3 (.tmp 35) rfl (w.heap.size+1) 2 (by kernel_rfl) _ _ underlying3 rfl (hw0.2.c 2 rfl)) hS0 ?_
  refine tq 12 (yi E) rfl (fun _ _=>by kernel_rfl) hS0 ?_
  refine tq 13 (yi db) rfl (fun _ _=>by go_simp) hS0 ?_
  refine tq 14 (yi mb) rfl (fun _ _=>by go_simp) hS0 ?_
  refine wpAnyH_ready (rs:=[7]) (by kernel_rfl) (by simp) ?_;refine AllReadyH.cons rfl (fun K hK=> ?_) AllReadyH.nil
  go_simp
  refine(HU.out _ b15).mono ?_;rintro zz w17 ⟨v119,rfl,r120,bb18⟩;have q21:=q12.l bb18;have q22:=q13.l bb18;have q23:=q14.l bb18;have b24:=aa b15 bb18;obtain⟨xo,xc,hv⟩:=r120.shape;subst hv;clear q12 q13 q14 b15 bb18 HU;refine hK.out _ _ ⟨q21,q22⟩ (fun hS25=> ?_)
  clear hK K;refine wpAnyH_ready (rs:=[15]) (by kernel_rfl) (by simp) ?_;refine AllReadyH.cons rfl (fun K hK=> ?_) AllReadyH.nil
  go_simp
  refine(HV.out _ b24).mono ?_;rintro zz w26 ⟨v128,rfl,r129,bb27⟩;have q30:=q21.l bb27;have q31:=q22.l bb27;have q32:=q23.l bb27;have r33:=r120.l bb27;have b34:=aa b24 bb27;obtain⟨yo,yc,hv⟩:=r129.shape;subst hv;clear q21 q22 q23 r120 b24 bb27 HV;refine hK.out _ _ ⟨q30,q31⟩ (fun hS35=> ?_)
  clear hK K;refine tq 16 (yS xo X xc) rfl (fun _ _=>by kernel_rfl) hS35 ?_
  refine tq 17 (yS yo Y yc) rfl (fun _ _=>by kernel_rfl) hS35 ?_
  refine wpAnyH_done (by kernel_rfl) ?_ _;clear hS0 hS25 hS35;simp only[Act.put,List.getElem_toArray,List.getElem_cons_succ,List.getElem_cons_zero,List.setIfInBounds_toArray,List.set_cons_zero,List.set_cons_succ];have c36:=q30.c 0 rfl;have c37:=q31.c 0 rfl
  go_wp2_with fail
  refine(HC.out _ _ _ _ _ b34 r33 r129).mono ?_;rintro zz w38 ⟨rfl,bb39⟩;have q40:=q30.l bb39;have q41:=q32.l bb39;have r42:=r33.l bb39;have r43:=r129.l bb39;have b44:=aa b34 bb39;clear q30 q31 q32 r33 r129 b34 bb39 HC c36 c37
  go_upto_region 10 with fail
  have bW45:yB w38 w38.drew:=(Below.refl _ _).drew;have q46:=q40.l bW45;have q47:=q41.l bW45;have r48:=r42.l bW45;have r49:=r43.l bW45;have b50:=aa b44 bW45;clear q40 q41 r42 r43 b44 bW45;refine wp_region_held_drew (S:=fun wq=>au wq w.heap.size 35 (ydL sa (.slice ao la ac) ea)) (by kernel_rfl) q46 (fun hS0=> ?_)
  generalize w38.drew=WD51 at q46 q47 r48 r49 b50 hS0⊢;refine tq 0 (.pointer (some ⟨w.heap.size,0,none⟩)) rfl (fun _ _=>by kernel_rfl) hS0 ?_
  refine tq 1 (.bool sa) rfl (fun _ hw0=>gU 4 (.tmp 58) rfl w.heap.size 0 (by kernel_rfl) _ _ underlying4 rfl (hw0.c 0 rfl)) hS0 ?_
  refine tq 2 (yS xo X xc) rfl (fun _ _=>by kernel_rfl) hS0 ?_
  refine tq 3 (yS yo Y yc) rfl (fun _ _=>by kernel_rfl) hS0 ?_
  refine tq 5 (yi E) rfl (fun _ _=>by kernel_rfl) hS0 ?_
  refine wpAnyH_ready (rs:=[4]) (by kernel_rfl) (by simp) ?_;refine AllReadyH.cons rfl (fun K hK=> ?_) AllReadyH.nil
  go_simp
  refine(HP.out _ _ _ _ _ b50 r48 r49).mono ?_;rintro zz w52 ⟨v154,rfl,r155,bb53⟩;have q56:=q46.l bb53;have q57:=q47.l bb53;have r58:=r48.l bb53;have r59:=r49.l bb53;have b60:=aa b50 bb53;obtain⟨zo,zc,hv⟩:=r155.shape;subst hv;clear q46 q47 r48 r49 b50 bb53 HP;refine hK.out _ _ q56 (fun hS61=> ?_)
  clear hK K;refine tq 6 (ydV sa (yS zo Z zc) E) rfl (fun _ _=>by kernel_rfl) hS61 ?_
  refine wpAnyH_ready (rs:=[7]) (by kernel_rfl) (by simp) ?_;refine AllReadyH.cons rfl (fun K hK=> ?_) AllReadyH.nil
  go_simp
  refine(HB.out _ _ _ b60 r155).mono ?_;rintro zz w62 ⟨v164,rfl,r165,bb63,hF⟩;have q66:=q56.l bb63;have q67:=q57.l bb63;have r68:=r58.l bb63;have r69:=r59.l bb63;have r70:=r155.l bb63;have b71:=aa b60 bb63;obtain⟨uo,uc,hv⟩:=r165.shape;subst hv;clear q56 q57 r58 r59 r155 b60 bb63 HB;refine hK.out _ _ q66 (fun hS72=> ?_)
  clear hK K;refine wpAnyH_ready (rs:=[8]) (by kernel_rfl) (by simp) ?_;refine AllReadyH.cons rfl (fun K hK=> ?_) AllReadyH.nil
  have bu:But (w.heap.size+1+1) w62 (w62.setCells (w.heap.size+1+1) 0 (ydL t.s (yS uo t.n uc) t.e)):=de _ _ _ _;have hth:w62.there (w.heap.size+1+1) 0 3:=dD q67;have q73:au (w62.setCells (w.heap.size+1+1) 0 (ydL t.s (yS uo t.n uc) t.e)) (w.heap.size+1+1) 35 (ydL t.s (yS uo t.n uc) t.e):=q67.sets _ rfl;have r74:=bu.rd r68 (cq r68 (Dg.norm_dg _ _ (by omega)) q67 (fun x hx n hn=>by simp at hx;rcases hx with rfl|rfl|rfl<;>simp;all_goals omega))
  have r75:=bu.rd r69 (cq r69 (Dg.norm_dg _ _ (by omega)) q67 (fun x hx n hn=>by simp at hx;rcases hx with rfl|rfl|rfl<;>simp;all_goals omega))
  have r76:=bu.rd r70 (cq r70 (Dg.norm_dg _ _ (by omega)) q67 (fun x hx n hn=>by simp at hx;rcases hx with rfl|rfl|rfl<;>simp;all_goals omega))
  have r77:=bu.rd r165 (cq r165 (Dg.norm_dg _ _ (by omega)) q67 (fun x hx n hn=>by simp at hx;rcases hx with rfl|rfl|rfl<;>simp;all_goals omega))
  have q78:=bu.loc q66 (by omega);have b79:=bu.below b71 (by omega);rw[if_pos (by kernel_rfl)];refine wp_store_mid 35 (.tmp 4) (.tmp 65) rfl (w.heap.size+1+1) 0 (ydA t.s (yS uo t.n uc) t.e) (by kernel_rfl) (by kernel_rfl) hth (by kernel_rfl) (by simp[Value.oneCell']) ?_;refine hK.out _ _ q78 (fun hS80=> ?_)
  clear hK K;clear q67 r68 r69 r70 r165 q66 b71 bu hth;refine wpAnyH_done (by kernel_rfl) ?_ _;clear hS0 hS61 hS72 hS80;change Exit.then _ _ _ _ (World.setCells w62 (w.heap.size+1+1) 0 (ydL t.s (yS uo t.n uc) t.e));generalize World.setCells w62 (w.heap.size+1+1) 0 (ydL t.s (yS uo t.n uc) t.e)=W81 at q78 q73 r74 r75 r76 r77 b79⊢;simp only[Act.put,List.getElem_toArray,List.getElem_cons_succ,List.getElem_cons_zero];have hl:=run_loadVar_mid (P:=Tryz.prog) _ (w.heap.size+1+1) 0 35 (ydL t.s (yS uo t.n uc) t.e) _ q73.range underlying35 rfl (by kernel_rfl)
  go_wp2
  exact bodyPost_ret (br results24 rfl hl) rfl ⟨_,rfl,r77,hF.out,b79⟩
theorem refDP_less (ea eb E da db ma mb:Int)(sa sb:Bool)(ao bo:Option Addr)(la lb ac bc:Nat)(X Y Z:Nat)(t:ak)(w:World)(cm:Int)(hs:(sa==sb)=false)(hc: ¬cm≥0)(hc:((la:Int)==0)=false∧((lb:Int)==0)=false∧min ea eb=E∨((la:Int)==0)=true∧((lb:Int)==0)=false∧eb=E∨((la:Int)==0)=false∧((lb:Int)==0)=true∧ea=E∨((la:Int)==0)=true∧((lb:Int)==0)=true∧ea=E)(hda:IntKind.i64.wrap (ea-E)=da)(hdb:IntKind.i64.wrap (eb-E)=db)(hma:max 0 da=ma)(hmb:max 0 db=mb)
  (HU: ∀w1,yB w w1→yC 62 #[.slice ao la ac,yi ma] w1 (cG w1 X))
  (HV: ∀w1,yB w w1→yC 62 #[.slice bo lb bc,yi mb] w1 (cG w1 Y))
  (HC: ∀xo xc yo yc w1,yB w w1→Rd w1 .i64 (yS xo X xc) (Dg.dg 65536 X)→Rd w1 .i64 (yS yo Y yc) (Dg.dg 65536 Y)→yC 48 #[yS xo X xc,yS yo Y yc] w1 (yR w1 (yi cm)))
  (HP: ∀xo xc yo yc w1,yB w w1→Rd w1 .i64 (yS xo X xc) (Dg.dg 65536 X)→Rd w1 .i64 (yS yo Y yc) (Dg.dg 65536 Y)→yC 32 #[yS yo Y yc,yS xo X xc] w1 (cG w1 Z))
  (HB: ∀zo zc w1,yB w w1→Rd w1 .i64 (yS zo Z zc) (Dg.dg 65536 Z)→yC 33 #[ydV sb (yS zo Z zc) E] w1 (Xi w.heap.size w1 t)):
  yC 24 #[ydV sa (.slice ao la ac) ea,ydV sb (.slice bo lb bc) eb] w (di w t):=by
 replace HU:Hid _:=HU;replace HV:Hid _:=HV;replace HC:Hid _:=HC;replace HP:Hid _:=HP;replace HB:Hid _:=HB;obtain⟨W5,hW6,q1,q2,q3,b4⟩:=lG w (ydL sa (.slice ao la ac) ea) 35 (ydL sb (.slice bo lb bc) eb) 35 (ydL false yN 0) 35;replace hW6:Hid _:=hW6
 go_enter func24,ntmps24
 go_upto_region 1 with fail
 rw[hW6.out];clear hW6;have c7:=q1.c 1 rfl;have c8:=q1.c 2 rfl;have c9:=q2.c 1 rfl;have c10:=q2.c 2 rfl
 rcases hc with⟨hla,hlb,hE⟩| ⟨hla,hlb,hE⟩| ⟨hla,hlb,hE⟩| ⟨hla,hlb,hE⟩
 all_goals try rw[hE] at c8
 all_goals try rw[hE] at c10
 all_goals
  go_upto_region 6 with fail
  clear hE;clear c7 c8 c9 c10;have bW11:yB W5 W5.drew:=(Below.refl _ _).drew;have q12:=q1.l bW11;have q13:=q2.l bW11;have q14:=q3.l bW11;have b15:=aa b4 bW11;clear q1 q2 q3 b4 bW11;refine wp_region_held_drew (S:=fun wq=>au wq w.heap.size 35 (ydL sa (.slice ao la ac) ea)∧au wq (w.heap.size+1) 35 (ydL sb (.slice bo lb bc) eb)) (by kernel_rfl) ⟨q12,q13⟩ (fun hS0=> ?_)
  generalize W5.drew=WD16 at q12 q13 q14 b15 hS0⊢;refine tq 0 (.pointer (some ⟨w.heap.size,1,none⟩)) rfl (fun _ _=>by kernel_rfl) hS0 ?_
  refine tq 1 (.slice ao la ac) rfl (fun _ hw0=>gU 33 (.tmp 25) rfl w.heap.size 1 (by kernel_rfl) _ _ underlying33 rfl (hw0.1.c 1 rfl)) hS0 ?_
  refine tq 2 (.pointer (some ⟨w.heap.size,2,none⟩)) rfl (fun _ _=>by kernel_rfl) hS0 ?_
  refine tq 3 (yi ea) rfl (fun _ hw0=>gU 3 (.tmp 27) rfl w.heap.size 2 (by kernel_rfl) _ _ underlying3 rfl (hw0.1.c 2 rfl)) hS0 ?_
  refine tq 4 (yi E) rfl (fun _ _=>by kernel_rfl) hS0 ?_
  refine tq 5 (yi da) rfl (fun _ _=>by go_simp) hS0 ?_
  refine tq 6 (yi ma) rfl (fun _ _=>by go_simp) hS0 ?_
  refine tq 8 (.pointer (some ⟨w.heap.size+1,1,none⟩)) rfl (fun _ _=>by kernel_rfl) hS0 ?_
  refine tq 9 (.slice bo lb bc) rfl (fun _ hw0=>gU 33 (.tmp 33) rfl (w.heap.size+1) 1 (by kernel_rfl) _ _ underlying33 rfl (hw0.2.c 1 rfl)) hS0 ?_
  refine tq 10 (.pointer (some ⟨w.heap.size+1,2,none⟩)) rfl (fun _ _=>by kernel_rfl) hS0 ?_
  refine tq 11 (yi eb) rfl (fun _ hw0=>gU 3 (.tmp 35) rfl (w.heap.size+1) 2 (by kernel_rfl) _ _ underlying3 rfl (hw0.2.c 2 rfl)) hS0 ?_
  refine tq 12 (yi E) rfl (fun _ _=>by kernel_rfl) hS0 ?_
  refine tq 13 (yi db) rfl (fun _ _=>by go_simp) hS0 ?_
  refine tq 14 (yi mb) rfl (fun _ _=>by go_simp) hS0 ?_
  refine wpAnyH_ready (rs:=[7]) (by kernel_rfl) (by simp) ?_;refine AllReadyH.cons rfl (fun K hK=> ?_) AllReadyH.nil
  go_simp
  refine(HU.out _ b15).mono ?_;rintro zz w17 ⟨v119,rfl,r120,bb18⟩;have q21:=q12.l bb18;have q22:=q13.l bb18;have q23:=q14.l bb18;have b24:=aa b15 bb18;obtain⟨xo,xc,hv⟩:=r120.shape;subst hv;clear q12 q13 q14 b15 bb18 HU;refine hK.out _ _ ⟨q21,q22⟩ (fun hS25=> ?_)
  clear hK K;refine wpAnyH_ready (rs:=[15]) (by kernel_rfl) (by simp) ?_;refine AllReadyH.cons rfl (fun K hK=> ?_) AllReadyH.nil
  go_simp
  refine(HV.out _ b24).mono ?_;rintro zz w26 ⟨v128,rfl,r129,bb27⟩;have q30:=q21.l bb27;have q31:=q22.l bb27;have q32:=q23.l bb27;have r33:=r120.l bb27;have b34:=aa b24 bb27;obtain⟨yo,yc,hv⟩:=r129.shape;subst hv;clear q21 q22 q23 r120 b24 bb27 HV;refine hK.out _ _ ⟨q30,q31⟩ (fun hS35=> ?_)
  clear hK K;refine tq 16 (yS xo X xc) rfl (fun _ _=>by kernel_rfl) hS35 ?_
  refine tq 17 (yS yo Y yc) rfl (fun _ _=>by kernel_rfl) hS35 ?_
  refine wpAnyH_done (by kernel_rfl) ?_ _;clear hS0 hS25 hS35;simp only[Act.put,List.getElem_toArray,List.getElem_cons_succ,List.getElem_cons_zero,List.setIfInBounds_toArray,List.set_cons_zero,List.set_cons_succ];have c36:=q30.c 0 rfl;have c37:=q31.c 0 rfl
  go_wp2_with fail
  refine(HC.out _ _ _ _ _ b34 r33 r129).mono ?_;rintro zz w38 ⟨rfl,bb39⟩;have q40:=q31.l bb39;have q41:=q32.l bb39;have r42:=r33.l bb39;have r43:=r129.l bb39;have b44:=aa b34 bb39;clear q30 q31 q32 r33 r129 b34 bb39 HC c36 c37
  go_upto_region 11 with fail
  have bW45:yB w38 w38.drew:=(Below.refl _ _).drew;have q46:=q40.l bW45;have q47:=q41.l bW45;have r48:=r42.l bW45;have r49:=r43.l bW45;have b50:=aa b44 bW45;clear q40 q41 r42 r43 b44 bW45;refine wp_region_held_drew (S:=fun wq=>au wq (w.heap.size+1) 35 (ydL sb (.slice bo lb bc) eb)) (by kernel_rfl) q46 (fun hS0=> ?_)
  generalize w38.drew=WD51 at q46 q47 r48 r49 b50 hS0⊢;refine tq 0 (.pointer (some ⟨w.heap.size+1,0,none⟩)) rfl (fun _ _=>by kernel_rfl) hS0 ?_
  refine tq 1 (.bool sb) rfl (fun _ hw0=>gU 4 (.tmp 66) rfl (w.heap.size+1) 0 (by kernel_rfl) _ _ underlying4 rfl (hw0.c 0 rfl)) hS0 ?_
  refine tq 2 (yS yo Y yc) rfl (fun _ _=>by kernel_rfl) hS0 ?_
  refine tq 3 (yS xo X xc) rfl (fun _ _=>by kernel_rfl) hS0 ?_
  refine tq 5 (yi E) rfl (fun _ _=>by kernel_rfl) hS0 ?_
  refine wpAnyH_ready (rs:=[4]) (by kernel_rfl) (by simp) ?_;refine AllReadyH.cons rfl (fun K hK=> ?_) AllReadyH.nil
  go_simp
  refine(HP.out _ _ _ _ _ b50 r48 r49).mono ?_;rintro zz w52 ⟨v154,rfl,r155,bb53⟩;have q56:=q46.l bb53;have q57:=q47.l bb53;have r58:=r48.l bb53;have r59:=r49.l bb53;have b60:=aa b50 bb53;obtain⟨zo,zc,hv⟩:=r155.shape;subst hv;clear q46 q47 r48 r49 b50 bb53 HP;refine hK.out _ _ q56 (fun hS61=> ?_)
  clear hK K;refine tq 6 (ydV sb (yS zo Z zc) E) rfl (fun _ _=>by kernel_rfl) hS61 ?_
  refine wpAnyH_ready (rs:=[7]) (by kernel_rfl) (by simp) ?_;refine AllReadyH.cons rfl (fun K hK=> ?_) AllReadyH.nil
  go_simp
  refine(HB.out _ _ _ b60 r155).mono ?_;rintro zz w62 ⟨v164,rfl,r165,bb63,hF⟩;have q66:=q56.l bb63;have q67:=q57.l bb63;have r68:=r58.l bb63;have r69:=r59.l bb63;have r70:=r155.l bb63;have b71:=aa b60 bb63;obtain⟨uo,uc,hv⟩:=r165.shape;subst hv;clear q56 q57 r58 r59 r155 b60 bb63 HB;refine hK.out _ _ q66 (fun hS72=> ?_)
  clear hK K;refine wpAnyH_ready (rs:=[8]) (by kernel_rfl) (by simp) ?_;refine AllReadyH.cons rfl (fun K hK=> ?_) AllReadyH.nil
  have bu:But (w.heap.size+1+1) w62 (w62.setCells (w.heap.size+1+1) 0 (ydL t.s (yS uo t.n uc) t.e)):=de _ _ _ _;have hth:w62.there (w.heap.size+1+1) 0 3:=dD q67;have q73:au (w62.setCells (w.heap.size+1+1) 0 (ydL t.s (yS uo t.n uc) t.e)) (w.heap.size+1+1) 35 (ydL t.s (yS uo t.n uc) t.e):=q67.sets _ rfl;have r74:=bu.rd r68 (cq r68 (Dg.norm_dg _ _ (by omega)) q67 (fun x hx n hn=>by simp at hx;rcases hx with rfl|rfl|rfl<;>simp;all_goals omega))
  have r75:=bu.rd r69 (cq r69 (Dg.norm_dg _ _ (by omega)) q67 (fun x hx n hn=>by simp at hx;rcases hx with rfl|rfl|rfl<;>simp;all_goals omega))
  have r76:=bu.rd r70 (cq r70 (Dg.norm_dg _ _ (by omega)) q67 (fun x hx n hn=>by simp at hx;rcases hx with rfl|rfl|rfl<;>simp;all_goals omega))
  have r77:=bu.rd r165 (cq r165 (Dg.norm_dg _ _ (by omega)) q67 (fun x hx n hn=>by simp at hx;rcases hx with rfl|rfl|rfl<;>simp;all_goals omega))
  have q78:=bu.loc q66 (by omega);have b79:=bu.below b71 (by omega);rw[if_pos (by kernel_rfl)];refine wp_store_mid 35 (.tmp 4) (.tmp 73) rfl (w.heap.size+1+1) 0 (ydA t.s (yS uo t.n uc) t.e) (by kernel_rfl) (by kernel_rfl) hth (by kernel_rfl) (by simp[Value.oneCell']) ?_;refine hK.out _ _ q78 (fun hS80=> ?_)
  clear hK K;clear q67 r68 r69 r70 r165 q66 b71 bu hth;refine wpAnyH_done (by kernel_rfl) ?_ _;clear hS0 hS61 hS72 hS80;change Exit.then _ _ _ _ (World.setCells w62 (w.heap.size+1+1) 0 (ydL t.s (yS uo t.n uc) t.e));generalize World.setCells w62 (w.heap.size+1+1) 0 (ydL t.s (yS uo t.n uc) t.e)=W81 at q78 q73 r74 r75 r76 r77 b79⊢;simp only[Act.put,List.getElem_toArray,List.getElem_cons_succ,List.getElem_cons_zero];have hl:=run_loadVar_mid (P:=Tryz.prog) _ (w.heap.size+1+1) 0 35 (ydL t.s (yS uo t.n uc) t.e) _ q73.range underlying35 rfl (by kernel_rfl)
  go_wp2
  exact bodyPost_ret (br results24 rfl hl) rfl ⟨_,rfl,r77,hF.out,b79⟩
theorem jZ (n k L j:Nat)(h:(Dg.dg 65536 n).length≤L)(hk:k≤16*j):(Dg.dg 65536 (n*2^k)).length≤L+j:=by
 apply Dg.dg_len_le 65536 _ _ (by omega);have h1:=Dg.vl_lt 65536 (Dg.dg 65536 n) (Dg.small_dg _ _ (by omega));rw[Dg.vl_dg _ _ (by omega)] at h1;have h2:65536^ (Dg.dg 65536 n).length≤65536^L:=Nat.pow_le_pow_right (by omega) h;have h3:2^k≤65536^j:=by
  rw[show(65536:Nat)=2^16 from rfl,←Nat.pow_mul]
  exact Nat.pow_le_pow_right (by omega) (by omega)
 rw[Nat.pow_add];have h4:0<65536^j:=Nat.pow_pos (by omega);generalize 65536^j=c at*;generalize 65536^L=d at*;have h5:n*2^k≤n*c:=Nat.mul_le_mul_left _ h3;have h6:n*c<d*c:=Nat.mul_lt_mul_of_pos_right (by omega) h4;omega
theorem og (x y L:Nat)(hx:(Dg.dg 65536 x).length≤L)(hy:(Dg.dg 65536 y).length≤L):(Dg.dg 65536 (x+y)).length≤L+1:=by
 apply Dg.dg_len_le 65536 _ _ (by omega);have h1:=Dg.vl_lt 65536 (Dg.dg 65536 x) (Dg.small_dg _ _ (by omega));have h2:=Dg.vl_lt 65536 (Dg.dg 65536 y) (Dg.small_dg _ _ (by omega));rw[Dg.vl_dg _ _ (by omega)] at h1 h2;have h3:65536^ (Dg.dg 65536 x).length≤65536^L:=Nat.pow_le_pow_right (by omega) hx;have h4:65536^ (Dg.dg 65536 y).length≤65536^L:=Nat.pow_le_pow_right (by omega) hy;rw[Nat.pow_succ];omega
theorem len_zero (n:Nat):(((Dg.dg 65536 n).length:Int)==0)=decide (n=0):=by
 have n1:=Dg.dg_nil_iff 65536 n (by omega)
 by_cases h:n=0
 ·rw[decide_eq_true h,n1.2 h];rfl
 ·rw[decide_eq_false h];simp;exact fun e=>h (n1.1 e)
theorem vM (v u:Value)(a b:ak)(w:World)(hv:Rv w v a)(hu:Rv w u b)(hLa:(Dg.dg 65536 a.n).length≤30000)(hLb:(Dg.dg 65536 b.n).length≤30000)
  (ha1: -200000≤a.e) (ha2:a.e≤200000) (hb1: -200000≤b.e) (hb2:b.e≤200000):
  yC 24 #[v,u] w (di w (bare (cO a b))):=by
 obtain⟨s0,rfl,ra⟩:=hv;obtain⟨ao,ca,rfl⟩:=ra.shape;obtain⟨s1,rfl,rb⟩:=hu;obtain⟨bo,cb,rfl⟩:=rb.shape;obtain⟨sa,an,ae⟩:=a;obtain⟨sb,bn,be⟩:=b;simp only at ra rb hLa hLb ha1 ha2 hb1 hb2⊢;obtain⟨E,hE⟩: ∃E:Int,(if bn=0 then ae else if an=0 then be else min ae be)=E:=⟨_,rfl⟩
 have hl: -200000≤E∧E≤200000:=by
  rw[←hE];split
  ·omega
  ·split<;>omega
 obtain⟨X,hX⟩: ∃X,an*2^ (max 0 (ae-E)).toNat=X:=⟨_,rfl⟩;obtain⟨Y,hY⟩: ∃Y,bn*2^ (max 0 (be-E)).toNat=Y:=⟨_,rfl⟩;have hd:cO ⟨sa,an,ae⟩ ⟨sb,bn,be⟩=if sa=sb then⟨sa,X+Y,E⟩ else if Y≤X then⟨sa,X-Y,E⟩ else⟨sb,Y-X,E⟩:=by
  simp only[cO,hE,hX,hY]
 have hc:((((Dg.dg 65536 an).length:Int)==0)=false∧(((Dg.dg 65536 bn).length:Int)==0)=false∧min ae be=E)∨((((Dg.dg 65536 an).length:Int)==0)=true∧(((Dg.dg 65536 bn).length:Int)==0)=false∧be=E)∨((((Dg.dg 65536 an).length:Int)==0)=false∧(((Dg.dg 65536 bn).length:Int)==0)=true∧ae=E)∨((((Dg.dg 65536 an).length:Int)==0)=true∧(((Dg.dg 65536 bn).length:Int)==0)=true∧ae=E):=by
  rw[len_zero,len_zero,←hE]
  by_cases h1:an=0<;>by_cases h2:bn=0<;>simp[h1,h2]
 have lx:(Dg.dg 65536 X).length≤55001:=by rw[←hX];exact Nat.le_trans (jZ an _ 30000 25001 hLa (by omega)) (by omega)
 have ly:(Dg.dg 65536 Y).length≤55001:=by rw[←hY];exact Nat.le_trans (jZ bn _ 30000 25001 hLb (by omega)) (by omega)
 have wr: ∀e:Int,-200000≤e→e≤200000→IntKind.i64.wrap (e-E)=e-E:=fun e h1 h2=>IntWalk.i64_in _ ⟨by omega,by omega⟩
 have HU: ∀w1,yB w w1→yC 62 #[yS ao an ca,yi (max 0 (ae-E))] w1 (cG w1 X):=fun w1 b1=>by
  have:=kD _ _ (max 0 (ae-E)).toNat w1 (ra.l b1) (Dg.small_dg _ _ (by omega)) (by omega) (by omega)
  rwa [Dg.vl_dg _ _ (by omega),Int.toNat_of_nonneg (by omega),hX] at this
 have HV: ∀w1,yB w w1→yC 62 #[yS bo bn cb,yi (max 0 (be-E))] w1 (cG w1 Y):=fun w1 b1=>by
  have:=kD _ _ (max 0 (be-E)).toNat w1 (rb.l b1) (Dg.small_dg _ _ (by omega)) (by omega) (by omega)
  rwa [Dg.vl_dg _ _ (by omega),Int.toNat_of_nonneg (by omega),hY] at this
 have HB: ∀s Z zo zc w1,(Dg.dg 65536 Z).length≤100000→yB w w1→Rd w1 .i64 (yS zo Z zc) (Dg.dg 65536 Z)→yC 33 #[ydV s (yS zo Z zc) E] w1 (Xi w.heap.size w1 (bare ⟨s,Z,E⟩)):=
  fun s Z zo zc w1 h b1 r=>(lA _ ⟨s,Z,E⟩ w1 ⟨_,rfl,r⟩ h (by simp only;omega) (by simp only;omega)).mono fun _ _ h=>h.hid b1.size
 have ml: ∀P Q:Nat,(Dg.dg 65536 P).length≤55001→(Dg.dg 65536 (P-Q)).length≤100000:=fun P Q h=>Nat.le_trans (aH 65536 _ P (by omega) (Nat.sub_le _ _)) (by omega)
 have HC: ∀xo xc yo yc w1,yB w w1→Rd w1 .i64 (yS xo X xc) (Dg.dg 65536 X)→Rd w1 .i64 (yS yo Y yc) (Dg.dg 65536 Y)→yC 48 #[yS xo X xc,yS yo Y yc] w1 (yR w1 (yi (dm X Y))):=fun xo xc yo yc w1 _ h1 h2=>by
  have:=fm _ _ _ _ w1 h1 h2 (Dg.small_dg _ _ (by omega)) (Dg.small_dg _ _ (by omega)) (Dg.norm_dg _ _ (by omega)) (Dg.norm_dg _ _ (by omega))
  rwa [Dg.vl_dg _ _ (by omega),Dg.vl_dg _ _ (by omega)] at this
 rw[hd]
 by_cases hs:sa=sb
 ·subst hs
  rw[if_pos rfl];refine refDP_same ae be E _ _ _ _ sa ao bo _ _ ca cb X Y (X+Y) _ w hc (wr _ ha1 ha2) (wr _ hb1 hb2) rfl rfl HU HV (fun xo xc yo yc w1 _ h1 h2=> ?_) (fun zo zc w1 b1 r=>HB _ _ _ _ _ ?_ b1 r)
  ·have:=ew _ _ _ _ w1 h1 h2 (Dg.small_dg _ _ (by omega)) (Dg.small_dg _ _ (by omega)) (Dg.norm_dg _ _ (by omega)) (Dg.norm_dg _ _ (by omega)) (by omega) (by omega)
   rwa [Dg.vl_dg _ _ (by omega),Dg.vl_dg _ _ (by omega)] at this
  ·exact Nat.le_trans (og X Y 55001 lx ly) (by omega)
 ·have hs':(sa==sb)=false:=by simpa using hs
  rw[if_neg hs]
  by_cases hq:Y≤X
  ·rw[if_pos hq]
   refine refDP_geq ae be E _ _ _ _ sa sb ao bo _ _ ca cb X Y (X-Y) _ w (dm X Y) hs' ?_ hc (wr _ ha1 ha2) (wr _ hb1 hb2) rfl rfl HU HV HC (fun xo xc yo yc w1 _ h1 h2=> ?_) (fun zo zc w1 b1 r=>HB _ _ _ _ _ (ml _ _ lx) b1 r)
   ·unfold dm;split
    ·omega
    ·split<;>omega
   ·have:=kI _ _ _ _ w1 h1 h2 (Dg.small_dg _ _ (by omega)) (Dg.small_dg _ _ (by omega)) (by omega) (aH _ _ _ (by omega) hq) (by rw[Dg.vl_dg _ _ (by omega),Dg.vl_dg _ _ (by omega)];exact hq)
    rwa [Dg.vl_dg _ _ (by omega),Dg.vl_dg _ _ (by omega)] at this
  ·rw[if_neg hq]
   refine refDP_less ae be E _ _ _ _ sa sb ao bo _ _ ca cb X Y (Y-X) _ w (dm X Y) hs' ?_ hc (wr _ ha1 ha2) (wr _ hb1 hb2) rfl rfl HU HV HC (fun xo xc yo yc w1 _ h1 h2=> ?_) (fun zo zc w1 b1 r=>HB _ _ _ _ _ (ml _ _ ly) b1 r)
   ·unfold dm;split
    ·omega
    ·split<;>omega
   ·have:=kI _ _ _ _ w1 h2 h1 (Dg.small_dg _ _ (by omega)) (Dg.small_dg _ _ (by omega)) (by omega) (aH _ _ _ (by omega) (by omega)) (by rw[Dg.vl_dg _ _ (by omega),Dg.vl_dg _ _ (by omega)];omega)
    rwa [Dg.vl_dg _ _ (by omega),Dg.vl_dg _ _ (by omega)] at this
theorem lw (v u:Value)(a b:ak)(w:World)(hv:Rv w v a)(hu:Rv w u b)(hLa:(Dg.dg 65536 a.n).length≤30000)(hLb:(Dg.dg 65536 b.n).length≤30000)
  (ha1: -200000≤a.e) (ha2:a.e≤200000) (hb1: -200000≤b.e) (hb2:b.e≤200000):
  yC 24 #[v,u] w (dr w (bare (cO a b))):=
 (vM v u a b w hv hu hLa hLb ha1 ha2 hb1 hb2).mono fun _ _ h=>h.near
theorem dec_of {k:Nat}(hk:1≤k∧k≤8){c:Int}{g:Bool}{m:Nat}{p fl:Int}(h:(Dw k c g m p fl).2.2=0):
  dF k (Dw k c g m p fl).1=0∧((bM k (Dw k c g m p fl).1:Nat):Int)=c∧dz k (Dw k c g m p fl).1=g∧opT k (Dw k c g m p fl).1=if c=2 then bare ⟨g,m,(ai (rdN k):Int)*p⟩ else⟨false,0,0⟩:=by
 unfold Dw at h⊢
 by_cases he:gI k c g (Dg.dg 4294967296 m) p=0
 rotate_left
 ·rw[if_neg he] at h
  exact absurd h he
 rw[if_pos he];obtain⟨e1,e2,e3,e4,e5,e6,e7⟩:=oJ hk (Dg.small_dg _ _ (by omega)) he;simp only;have hp:=nj hk e1;refine⟨hp, ?_, ?_, ?_⟩
 ·unfold bM
  rw[if_pos hp,Int.toNat_natCast];exact e2
 ·unfold dz
  rw[if_pos hp,Int.toNat_natCast];exact e3
 ·unfold opT nxT
  rw[if_pos hp,Int.toNat_natCast]
  by_cases hc:c=2
  ·rw[if_pos hc]
   obtain⟨-,f1,f2,f3⟩:=e6 hc;rw[iq hk e4 e5 (by omega),wQ hk,f1,f3,Dg.vl_dg _ _ (by omega)]
  ·rw[if_neg hc]
   exact Fm hk (by omega)
end Go.Proofs.YtpainhklfoaniaaGreatDoor
