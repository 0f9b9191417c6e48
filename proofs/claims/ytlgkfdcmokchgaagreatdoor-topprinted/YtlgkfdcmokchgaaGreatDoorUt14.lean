/-
  Texts laid together: Dp1b.
-/
import Derived.Test.YtlgkfdcmokchgaaGreatDoorUt04
set_option maxRecDepth 100000
set_option maxHeartbeats 3200000
namespace Go.Proofs.YtlgkfdcmokchgaaGreatDoor
open _root_.Go.Proofs.Tryz
open Go.RowKit
theorem refDP_geq (ea eb E da db ma mb:Int)(sa sb:Bool)(ao bo:Option Addr)(la lb ac bc:Nat)(X Y Z:Nat)(t:ak)(w:World)(cm:Int)(hs:(sa==sb)=false)(hc:cm≥0)(hc:((la:Int)==0)=false∧((lb:Int)==0)=false∧min ea eb=E∨((la:Int)==0)=true∧((lb:Int)==0)=false∧eb=E∨((la:Int)==0)=false∧((lb:Int)==0)=true∧ea=E∨((la:Int)==0)=true∧((lb:Int)==0)=true∧ea=E)(hda:IntKind.i64.wrap (ea-E)=da)(hdb:IntKind.i64.wrap (eb-E)=db)(hma:max 0 da=ma)(hmb:max 0 db=mb)
  (HU: ∀w1,yB w w1→yC 26 #[.slice ao la ac,yi ma] w1 (cG w1 X))
  (HV: ∀w1,yB w w1→yC 26 #[.slice bo lb bc,yi mb] w1 (cG w1 Y))
  (HC: ∀xo xc yo yc w1,yB w w1→Rd w1 .i64 (yS xo X xc) (Dg.dg 65536 X)→Rd w1 .i64 (yS yo Y yc) (Dg.dg 65536 Y)→yC 63 #[yS xo X xc,yS yo Y yc] w1 (yR w1 (yi cm)))
  (HP: ∀xo xc yo yc w1,yB w w1→Rd w1 .i64 (yS xo X xc) (Dg.dg 65536 X)→Rd w1 .i64 (yS yo Y yc) (Dg.dg 65536 Y)→yC 65 #[yS xo X xc,yS yo Y yc] w1 (cG w1 Z))
  (HB: ∀zo zc w1,yB w w1→Rd w1 .i64 (yS zo Z zc) (Dg.dg 65536 Z)→yC 30 #[ydV sa (yS zo Z zc) E] w1 (Xi w.heap.size w1 t)):
  yC 29 #[ydV sa (.slice ao la ac) ea,ydV sb (.slice bo lb bc) eb] w (di w t):=by
 replace HU:Hid _:=HU;replace HV:Hid _:=HV;replace HC:Hid _:=HC;replace HP:Hid _:=HP;replace HB:Hid _:=HB;obtain⟨W5,hW6,q1,q2,q3,b4⟩:=lG w (ydL sa (.slice ao la ac) ea) 30 (ydL sb (.slice bo lb bc) eb) 30 (ydL false yN 0) 30;replace hW6:Hid _:=hW6
 go_enter func29,ntmps29
 go_upto_region 1 with fail
 rw[hW6.out];clear hW6;have c7:=q1.c 1 rfl;have c8:=q1.c 2 rfl;have c9:=q2.c 1 rfl;have c10:=q2.c 2 rfl
 rcases hc with⟨hla,hlb,hE⟩| ⟨hla,hlb,hE⟩| ⟨hla,hlb,hE⟩| ⟨hla,hlb,hE⟩
 all_goals try rw[hE] at c8
 all_goals try rw[hE] at c10
 all_goals
  go_upto_region 6 with fail
  clear hE;clear c7 c8 c9 c10;have bW11:yB W5 W5.drew:=(Below.refl _ _).drew;have q12:=q1.l bW11;have q13:=q2.l bW11;have q14:=q3.l bW11;have b15:=aa b4 bW11;clear q1 q2 q3 b4 bW11;refine wp_region_held_drew (S:=fun wq=>au wq w.heap.size 30 (ydL sa (.slice ao la ac) ea)∧au wq (w.heap.size+1) 30 (ydL sb (.slice bo lb bc) eb)) (by kernel_rfl) ⟨q12,q13⟩ (fun hS0=> ?_)
  generalize W5.drew=WD16 at q12 q13 q14 b15 hS0⊢;refine tq 0 (.pointer (some ⟨w.heap.size,1,none⟩)) rfl (fun _ _=>by kernel_rfl) hS0 ?_
  refine tq 1 (.slice ao la ac) rfl (fun _ hw0=>gU 27 (.tmp 25) rfl w.heap.size 1 (by kernel_rfl) _ _ underlying27 rfl (hw0.1.c 1 rfl)) hS0 ?_
  refine tq 2 (.pointer (some ⟨w.heap.size,2,none⟩)) rfl (fun _ _=>by kernel_rfl) hS0 ?_
  refine tq 3 (yi ea) rfl (fun _ hw0=>gU 3 (.tmp 27) rfl w.heap.size 2 (by kernel_rfl) _ _ underlying3 rfl (hw0.1.c 2 rfl)) hS0 ?_
  refine tq 4 (yi E) rfl (fun _ _=>by kernel_rfl) hS0 ?_
  refine tq 5 (yi da) rfl (fun _ _=>by go_simp) hS0 ?_
  refine tq 6 (yi ma) rfl (fun _ _=>by go_simp) hS0 ?_
  refine tq 8 (.pointer (some ⟨w.heap.size+1,1,none⟩)) rfl (fun _ _=>by kernel_rfl) hS0 ?_
  refine tq 9 (.slice bo lb bc) rfl (fun _ hw0=>gU 27 (.tmp 33) rfl (w.heap.size+1) 1 (by kernel_rfl) _ _ underlying27 rfl (hw0.2.c 1 rfl)) hS0 ?_
  refine tq 10 (.pointer (some ⟨w.heap.size+1,2,none⟩)) rfl (fun _ _=>by kernel_rfl) hS0 ?_
  refine tq 11 (yi eb) rfl (fun _ hw0=>gU 3 (.tmp 35) rfl (w.heap.size+1) 2 (by kernel_rfl) _ _ underlying3 rfl (hw0.2.c 2 rfl)) hS0 ?_
  refine tq 12 (yi E) rfl (fun _ _=>by kernel_rfl) hS0 ?_
  refine tq 13 (yi db) rfl (fun _ _=>by go_simp) hS0 ?_
  refine tq 14 (yi mb) rfl (fun _ _=>by go_simp) hS0 ?_
  refine wpAnyH_ready (rs:=[7]) (by kernel_rfl) (by simp) ?_;refine AllReadyH.cons rfl (fun K hK=> ?_) AllReadyH.nil
  go_simp
  refine(HU.out _ b15).mono ?_;rintro zz w17 ⟨v119,rfl,r120,bb18⟩;have q21:=q12.l bb18;have q22:=q13.l bb18;have q23:=q14.l bb18;have b24:=aa b15 bb18;obtain⟨xo,xc,hv⟩:=r120.shape;subst hv;clear q12 q13 q14 b15 bb18 HU;refine hK.out _ _ ⟨q21,q22⟩ (fun hS25=> ?_)
  clear hK K;refine wpAnyH_ready (rs:=[15]) (by kernel_rfl) (by simp) ?_;refine AllReadyH.cons rfl (fun K hK=> ?_) AllReadyH.nil
  go_simp
  refine(HV.out _ b24).mono ?_;rintro zz w26 ⟨v128,rfl,r129,bb27⟩;have q30:=q21.l bb27;have q31:=q22.l bb27;have q32:=q23.l bb27;have r33:=r120.l bb27;have b34:=aa b24 bb27;obtain⟨yo,yc,hv⟩:=r129.shape;subst hv;clear q21 q22 q23 r120 b24 bb27 HV;refine hK.out _ _ ⟨q30,q31⟩ (fun hS35=> ?_)
  clear hK K;refine tq 16 (yS xo X xc) rfl (fun _ _=>by kernel_rfl) hS35 ?_
  refine tq 17 (yS yo Y yc) rfl (fun _ _=>by kernel_rfl) hS35 ?_
  refine wpAnyH_done (by kernel_rfl) ?_ _;clear hS0 hS25 hS35;simp only[Act.put,List.getElem_toArray,List.getElem_cons_succ,List.getElem_cons_zero,List.setIfInBounds_toArray,List.set_cons_zero,List.set_cons_succ];have c36:=q30.c 0 rfl;have c37:=q31.c 0 rfl
  go_wp2_with fail
  refine(HC.out _ _ _ _ _ b34 r33 r129).mono ?_;rintro zz w38 ⟨rfl,bb39⟩;have q40:=q30.l bb39;have q41:=q32.l bb39;have r42:=r33.l bb39;have r43:=r129.l bb39;have b44:=aa b34 bb39;clear q30 q31 q32 r33 r129 b34 bb39 HC c36 c37
  go_upto_region 10 with fail
  have bW45:yB w38 w38.drew:=(Below.refl _ _).drew;have q46:=q40.l bW45;have q47:=q41.l bW45;have r48:=r42.l bW45;have r49:=r43.l bW45;have b50:=aa b44 bW45;clear q40 q41 r42 r43 b44 bW45;refine wp_region_held_drew (S:=fun wq=>au wq w.heap.size 30 (ydL sa (.slice ao la ac) ea)) (by kernel_rfl) q46 (fun hS0=> ?_)
  generalize w38.drew=WD51 at q46 q47 r48 r49 b50 hS0⊢;refine tq 0 (.pointer (some ⟨w.heap.size,0,none⟩)) rfl (fun _ _=>by kernel_rfl) hS0 ?_
  refine tq 1 (.bool sa) rfl (fun _ hw0=>gU 4 (.tmp 58) rfl w.heap.size 0 (by kernel_rfl) _ _ underlying4 rfl (hw0.c 0 rfl)) hS0 ?_
  refine tq 2 (yS xo X xc) rfl (fun _ _=>by kernel_rfl) hS0 ?_
  refine tq 3 (yS yo Y yc) rfl (fun _ _=>by kernel_rfl) hS0 ?_
  refine tq 5 (yi E) rfl (fun _ _=>by kernel_rfl) hS0 ?_
  refine wpAnyH_ready (rs:=[4]) (by kernel_rfl) (by simp) ?_;refine AllReadyH.cons rfl (fun K hK=> ?_) AllReadyH.nil
  go_simp
  refine(HP.out _ _ _ _ _ b50 r48 r49).mono ?_;rintro zz w52 ⟨v154,rfl,r155,bb53⟩;have q56:=q46.l bb53;have q57:=q47.l bb53;have r58:=r48.l bb53;have r59:=r49.l bb53;have b60:=aa b50 bb53;obtain⟨zo,zc,hv⟩:=r155.shape;subst hv;clear q46 q47 r48 r49 b50 bb53 HP;refine hK.out _ _ q56 (fun hS61=> ?_)
  clear hK K;refine tq 6 (ydV sa (yS zo Z zc) E) rfl (fun _ _=>by kernel_rfl) hS61 ?_
  refine wpAnyH_ready (rs:=[7]) (by kernel_rfl) (by simp) ?_;refine AllReadyH.cons rfl (fun K hK=> ?_) AllReadyH.nil
  go_simp
  refine(HB.out _ _ _ b60 r155).mono ?_;rintro zz w62 ⟨v164,rfl,r165,bb63,hF⟩;have q66:=q56.l bb63;have q67:=q57.l bb63;have r68:=r58.l bb63;have r69:=r59.l bb63;have r70:=r155.l bb63;have b71:=aa b60 bb63;obtain⟨uo,uc,hv⟩:=r165.shape;subst hv;clear q56 q57 r58 r59 r155 b60 bb63 HB;refine hK.out _ _ q66 (fun hS72=> ?_)
  clear hK K;refine wpAnyH_ready (rs:=[8]) (by kernel_rfl) (by simp) ?_;refine AllReadyH.cons rfl (fun K hK=> ?_) AllReadyH.nil
  have bu:But (w.heap.size+1+1) w62 (w62.setCells (w.heap.size+1+1) 0 (ydL t.s (yS uo t.n uc) t.e)):=de _ _ _ _;have hth:w62.there (w.heap.size+1+1) 0 3:=dD q67;have q73:au (w62.setCells (w.heap.size+1+1) 0 (ydL t.s (yS uo t.n uc) t.e)) (w.heap.size+1+1) 30 (ydL t.s (yS uo t.n uc) t.e):=q67.sets _ rfl;have r74:=bu.rd r68 (cq r68 (Dg.norm_dg _ _ (by omega)) q67 (fun x hx n hn=>by simp at hx;rcases hx with rfl|rfl|rfl<;>simp;all_goals omega))
  have r75:=bu.rd r69 (cq r69 (Dg.norm_dg _ _ (by omega)) q67 (fun x hx n hn=>by simp at hx;rcases hx with rfl|rfl|rfl<;>simp;all_goals omega))
  have r76:=bu.rd r70 (cq r70 (Dg.norm_dg _ _ (by omega)) q67 (fun x hx n hn=>by simp at hx;rcases hx with rfl|rfl|rfl<;>simp;all_goals omega))
  have r77:=bu.rd r165 (cq r165 (Dg.norm_dg _ _ (by omega)) q67 (fun x hx n hn=>by simp at hx;rcases hx with rfl|rfl|rfl<;>simp;all_goals omega))
  have q78:=bu.loc q66 (by omega);have b79:=bu.below b71 (by omega);rw[if_pos (by kernel_rfl)];refine wp_store_mid 30 (.tmp 4) (.tmp 65) rfl (w.heap.size+1+1) 0 (ydA t.s (yS uo t.n uc) t.e) (by kernel_rfl) (by kernel_rfl) hth (by kernel_rfl) (by simp[Value.oneCell']) ?_;refine hK.out _ _ q78 (fun hS80=> ?_)
  clear hK K;clear q67 r68 r69 r70 r165 q66 b71 bu hth;refine wpAnyH_done (by kernel_rfl) ?_ _;clear hS0 hS61 hS72 hS80;change Exit.then _ _ _ _ (World.setCells w62 (w.heap.size+1+1) 0 (ydL t.s (yS uo t.n uc) t.e));generalize World.setCells w62 (w.heap.size+1+1) 0 (ydL t.s (yS uo t.n uc) t.e)=W81 at q78 q73 r74 r75 r76 r77 b79⊢;simp only[Act.put,List.getElem_toArray,List.getElem_cons_succ,List.getElem_cons_zero];have hl:=run_loadVar_mid (P:=Tryz.prog) _ (w.heap.size+1+1) 0 30 (ydL t.s (yS uo t.n uc) t.e) _ q73.range underlying30 rfl (by kernel_rfl)
  go_wp2
  exact bodyPost_ret (br results29 rfl hl) rfl ⟨_,rfl,r77,hF.out,b79⟩
end Go.Proofs.YtlgkfdcmokchgaaGreatDoor
