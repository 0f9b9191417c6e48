/-
  Texts laid together: Dp1.
-/
import Derived.Test.YtlgkfdcmokchgaaGreatDoorUt04
set_option maxRecDepth 100000
set_option maxHeartbeats 3200000
namespace Go.Proofs.YtlgkfdcmokchgaaGreatDoor
open _root_.Go.Proofs.Tryz
open Go.RowKit
theorem refDP_same (ea eb E da db ma mb:Int)(sa:Bool)(ao bo:Option Addr)(la lb ac bc:Nat)(X Y Z:Nat)(t:ak)(w:World)(hc:((la:Int)==0)=false∧((lb:Int)==0)=false∧min ea eb=E∨((la:Int)==0)=true∧((lb:Int)==0)=false∧eb=E∨((la:Int)==0)=false∧((lb:Int)==0)=true∧ea=E∨((la:Int)==0)=true∧((lb:Int)==0)=true∧ea=E)(hda:IntKind.i64.wrap (ea-E)=da)(hdb:IntKind.i64.wrap (eb-E)=db)(hma:max 0 da=ma)(hmb:max 0 db=mb)
  (HU: ∀w1,yB w w1→yC 26 #[.slice ao la ac,yi ma] w1 (cG w1 X))
  (HV: ∀w1,yB w w1→yC 26 #[.slice bo lb bc,yi mb] w1 (cG w1 Y))
  (HP: ∀xo xc yo yc w1,yB w w1→Rd w1 .i64 (yS xo X xc) (Dg.dg 65536 X)→Rd w1 .i64 (yS yo Y yc) (Dg.dg 65536 Y)→yC 67 #[yS xo X xc,yS yo Y yc] w1 (cG w1 Z))
  (HB: ∀zo zc w1,yB w w1→Rd w1 .i64 (yS zo Z zc) (Dg.dg 65536 Z)→yC 30 #[ydV sa (yS zo Z zc) E] w1 (Xi w.heap.size w1 t)):
  yC 29 #[ydV sa (.slice ao la ac) ea,ydV sa (.slice bo lb bc) eb] w (di w t):=by
 replace HU:Hid _:=HU;replace HV:Hid _:=HV;replace HP:Hid _:=HP;replace HB:Hid _:=HB;obtain⟨W5,hW6,q1,q2,q3,b4⟩:=lG w (ydL sa (.slice ao la ac) ea) 30 (ydL sa (.slice bo lb bc) eb) 30 (ydL false yN 0) 30;replace hW6:Hid _:=hW6
 go_enter func29,ntmps29
 go_upto_region 1 with fail
 rw[hW6.out];clear hW6;have c7:=q1.c 1 rfl;have c8:=q1.c 2 rfl;have c9:=q2.c 1 rfl;have c10:=q2.c 2 rfl
 rcases hc with⟨hla,hlb,hE⟩| ⟨hla,hlb,hE⟩| ⟨hla,hlb,hE⟩| ⟨hla,hlb,hE⟩
 all_goals try rw[hE] at c8
 all_goals try rw[hE] at c10
 all_goals
  go_upto_region 6 with fail
  clear hE;clear c7 c8 c9 c10;have bW11:yB W5 W5.drew:=(Below.refl _ _).drew;have q12:=q1.l bW11;have q13:=q2.l bW11;have q14:=q3.l bW11;have b15:=aa b4 bW11;clear q1 q2 q3 b4 bW11;refine wp_region_held_drew (S:=fun wq=>au wq w.heap.size 30 (ydL sa (.slice ao la ac) ea)∧au wq (w.heap.size+1) 30 (ydL sa (.slice bo lb bc) eb)) (by kernel_rfl) ⟨q12,q13⟩ (fun hS0=> ?_)
  generalize W5.drew=WD16 at q12 q13 q14 b15 hS0⊢;refine tq 0 (.pointer (some ⟨w.heap.size,1,none⟩)) rfl (fun _ _=>by kernel_rfl) hS0 ?_
  refine tq 1 (.slice ao la ac) rfl (fun _ hw0=>gU 27 (.tmp 25) rfl w.heap.size 1 (by kernel_rfl) _ _ underlying27 rfl (hw0.1.c 1 rfl)) hS0 ?_
  refine tq 2 (.pointer (some ⟨w.heap.size,2,none⟩)) rfl (fun _ _=>by kernel_rfl) hS0 ?_
  refine tq 3 (yi ea) rfl (fun _ hw0=>gU 3 (.tmp 27) rfl w.heap.size 2 (by kernel_rfl) _ _ underlying3 rfl (hw0.1.c 2 rfl)) hS0 ?_
  refine tq 4 (yi E) rfl (fun _ _=>by kernel_rfl) hS0 ?_
  refine tq 5 (yi da) rfl (fun _ _=>by go_simp) hS0 ?_
  refine tq 6 (yi ma) rfl (fun _ _=>by go_simp) hS0 ?_
  refine tq 8 (.pointer (some ⟨w.heap.size+1,1,none⟩)) rfl (fun _ _=>by kernel_rfl) hS0 ?_
  refine tq 9 (.slice bo lb bc) rfl (fun _ hw0=>gU 27 (.tmp 33) rfl (w.heap.size+1) 1 (by kernel_rfl) _ _ underlying27 rfl (hw0.2.c 1 rfl)) hS0 ?_
  refine tq 10 (.pointer (some ⟨w.heap.size+1,2,none⟩)) rfl (fun _ _=>by kernel_rfl) hS0 ?_
  refine tq 11 (yi eb) rfl (fun _ hw0=>gU 3 (.tmp 35) rfl (w.heap.size+1) 2 (by kernel_rfl) _ _ underlying3 rfl (hw0.2.c 2 rfl)) hS0 ?_
  refine tq 12 (yi E) rfl (fun _ _=>by kernel_rfl) hS0 ?_
  refine tq 13 (yi db) rfl (fun _ _=>by go_simp) hS0 ?_
  refine tq 14 (yi mb) rfl (fun _ _=>by go_simp) hS0 ?_
  refine wpAnyH_ready (rs:=[7]) (by kernel_rfl) (by simp) ?_;refine AllReadyH.cons rfl (fun K hK=> ?_) AllReadyH.nil
  go_simp
  refine(HU.out _ b15).mono ?_;rintro zz w17 ⟨v119,rfl,r120,bb18⟩;have q21:=q12.l bb18;have q22:=q13.l bb18;have q23:=q14.l bb18;have b24:=aa b15 bb18;obtain⟨xo,xc,hv⟩:=r120.shape;subst hv;clear q12 q13 q14 b15 bb18 HU;refine hK.out _ _ ⟨q21,q22⟩ (fun hS25=> ?_)
  clear hK K;refine wpAnyH_ready (rs:=[15]) (by kernel_rfl) (by simp) ?_;refine AllReadyH.cons rfl (fun K hK=> ?_) AllReadyH.nil
  go_simp
  refine(HV.out _ b24).mono ?_;rintro zz w26 ⟨v128,rfl,r129,bb27⟩;have q30:=q21.l bb27;have q31:=q22.l bb27;have q32:=q23.l bb27;have r33:=r120.l bb27;have b34:=aa b24 bb27;obtain⟨yo,yc,hv⟩:=r129.shape;subst hv;clear q21 q22 q23 r120 b24 bb27 HV;refine hK.out _ _ ⟨q30,q31⟩ (fun hS35=> ?_)
  clear hK K;refine tq 16 (yS xo X xc) rfl (fun _ _=>by kernel_rfl) hS35 ?_
  refine tq 17 (yS yo Y yc) rfl (fun _ _=>by kernel_rfl) hS35 ?_
  refine wpAnyH_done (by kernel_rfl) ?_ _;clear hS0 hS25 hS35;simp only[Act.put,List.getElem_toArray,List.getElem_cons_succ,List.getElem_cons_zero,List.setIfInBounds_toArray,List.set_cons_zero,List.set_cons_succ];have c36:=q30.c 0 rfl;have c37:=q31.c 0 rfl
  go_upto_region 8 with fail
  clear c36 c37;have bW38:yB w26 w26.drew:=(Below.refl _ _).drew;have q39:=q30.l bW38;have q40:=q32.l bW38;have r41:=r33.l bW38;have r42:=r129.l bW38;have b43:=aa b34 bW38;clear q30 q31 q32 r33 r129 b34 bW38;refine wp_region_held_drew (S:=fun wq=>au wq w.heap.size 30 (ydL sa (.slice ao la ac) ea)) (by kernel_rfl) q39 (fun hS0=> ?_)
  generalize w26.drew=WD44 at q39 q40 r41 r42 b43 hS0⊢;refine tq 0 (.pointer (some ⟨w.heap.size,0,none⟩)) rfl (fun _ _=>by kernel_rfl) hS0 ?_
  refine tq 1 (.bool sa) rfl (fun _ hw0=>gU 4 (.tmp 46) rfl w.heap.size 0 (by kernel_rfl) _ _ underlying4 rfl (hw0.c 0 rfl)) hS0 ?_
  refine tq 2 (yS xo X xc) rfl (fun _ _=>by kernel_rfl) hS0 ?_
  refine tq 3 (yS yo Y yc) rfl (fun _ _=>by kernel_rfl) hS0 ?_
  refine tq 5 (yi E) rfl (fun _ _=>by kernel_rfl) hS0 ?_
  refine wpAnyH_ready (rs:=[4]) (by kernel_rfl) (by simp) ?_;refine AllReadyH.cons rfl (fun K hK=> ?_) AllReadyH.nil
  go_simp
  refine(HP.out _ _ _ _ _ b43 r41 r42).mono ?_;rintro zz w45 ⟨v147,rfl,r148,bb46⟩;have q49:=q39.l bb46;have q50:=q40.l bb46;have r51:=r41.l bb46;have r52:=r42.l bb46;have b53:=aa b43 bb46;obtain⟨zo,zc,hv⟩:=r148.shape;subst hv;clear q39 q40 r41 r42 b43 bb46 HP;refine hK.out _ _ q49 (fun hS54=> ?_)
  clear hK K;refine tq 6 (ydV sa (yS zo Z zc) E) rfl (fun _ _=>by kernel_rfl) hS54 ?_
  refine wpAnyH_ready (rs:=[7]) (by kernel_rfl) (by simp) ?_;refine AllReadyH.cons rfl (fun K hK=> ?_) AllReadyH.nil
  go_simp
  refine(HB.out _ _ _ b53 r148).mono ?_;rintro zz w55 ⟨v157,rfl,r158,bb56,hF⟩;have q59:=q49.l bb56;have q60:=q50.l bb56;have r61:=r51.l bb56;have r62:=r52.l bb56;have r63:=r148.l bb56;have b64:=aa b53 bb56;obtain⟨uo,uc,hv⟩:=r158.shape;subst hv;clear q49 q50 r51 r52 r148 b53 bb56 HB;refine hK.out _ _ q59 (fun hS65=> ?_)
  clear hK K;refine wpAnyH_ready (rs:=[8]) (by kernel_rfl) (by simp) ?_;refine AllReadyH.cons rfl (fun K hK=> ?_) AllReadyH.nil
  have bu:But (w.heap.size+1+1) w55 (w55.setCells (w.heap.size+1+1) 0 (ydL t.s (yS uo t.n uc) t.e)):=de _ _ _ _;have hth:w55.there (w.heap.size+1+1) 0 3:=dD q60;have q66:au (w55.setCells (w.heap.size+1+1) 0 (ydL t.s (yS uo t.n uc) t.e)) (w.heap.size+1+1) 30 (ydL t.s (yS uo t.n uc) t.e):=q60.sets _ rfl;have r67:=bu.rd r61 (cq r61 (Dg.norm_dg _ _ (by omega)) q60 (fun x hx n hn=>by simp at hx;rcases hx with rfl|rfl|rfl<;>simp;all_goals omega))
  have r68:=bu.rd r62 (cq r62 (Dg.norm_dg _ _ (by omega)) q60 (fun x hx n hn=>by simp at hx;rcases hx with rfl|rfl|rfl<;>simp;all_goals omega))
  have r69:=bu.rd r63 (cq r63 (Dg.norm_dg _ _ (by omega)) q60 (fun x hx n hn=>by simp at hx;rcases hx with rfl|rfl|rfl<;>simp;all_goals omega))
  have r70:=bu.rd r158 (cq r158 (Dg.norm_dg _ _ (by omega)) q60 (fun x hx n hn=>by simp at hx;rcases hx with rfl|rfl|rfl<;>simp;all_goals omega))
  have q71:=bu.loc q59 (by omega);have b72:=bu.below b64 (by omega);rw[if_pos (by kernel_rfl)];refine wp_store_mid 30 (.tmp 4) (.tmp 53) rfl (w.heap.size+1+1) 0 (ydA t.s (yS uo t.n uc) t.e) (by kernel_rfl) (by kernel_rfl) hth (by kernel_rfl) (by simp[Value.oneCell']) ?_;refine hK.out _ _ q71 (fun hS73=> ?_)
  clear hK K;clear q60 r61 r62 r63 r158 q59 b64 bu hth;refine wpAnyH_done (by kernel_rfl) ?_ _;clear hS0 hS54 hS65 hS73;change Exit.then _ _ _ _ (World.setCells w55 (w.heap.size+1+1) 0 (ydL t.s (yS uo t.n uc) t.e));generalize World.setCells w55 (w.heap.size+1+1) 0 (ydL t.s (yS uo t.n uc) t.e)=W74 at q71 q66 r67 r68 r69 r70 b72⊢;simp only[Act.put,List.getElem_toArray,List.getElem_cons_succ,List.getElem_cons_zero];have hl:=run_loadVar_mid (P:=Tryz.prog) _ (w.heap.size+1+1) 0 30 (ydL t.s (yS uo t.n uc) t.e) _ q66.range underlying30 rfl (by kernel_rfl)
  go_wp2
  exact bodyPost_ret (br results29 rfl hl) rfl ⟨_,rfl,r70,hF.out,b72⟩
end Go.Proofs.YtlgkfdcmokchgaaGreatDoor
