/-
  Texts laid together: Mc21, Mc22, Mc24, Mc23.
-/
import Derived.Test.YtdhpndnncmagiaaGreatDoorMt02
set_option maxRecDepth 100000
set_option maxHeartbeats 3200000
namespace Go.Proofs.YtdhpndnncmagiaaGreatDoor
open _root_.Go.Proofs.Tryz
open Go.RowKit
theorem load_err (q base:Nat)(F W fl tr f d k e:Int)(tx st:ByteArray)(vo:Option Addr)(l:List ByteArray)(vc:Nat)(w:World)
  (hq:au w q 130 [yi F,yi W,yi fl,yi tr,.slice vo l.length vc,yi 0]) (ho:OwnS w base (.slice vo l.length vc) l) (_hb:base≤q) (hs:base≤w.heap.size) (he:e≠0)
  (HP:yH w 14 #[yi F,.string tx,yi W] (.tuple #[.string st,yi f,yi e])):
  yC 93 #[.pointer (some ⟨q,0,none⟩),.agg #[yi d,yi k,.string tx]] w fun z w'=>z= .returned (yi e)∧Kept q base w w':=by
 replace HP:Hid _:=HP;have hqw:q<w.heap.size:=hq.lt;obtain⟨W3,hW4,q1,b2⟩:=cA w [yi d,yi k,.string tx] 37;replace hW4:Hid _:=hW4;have hq1:=hq.l b2;have ho1:=ho.l b2
 go_enter func93,ntmps93
 go_upto_region 1 with fail
 rw[hW4.out];clear hW4
 go_upto_region 1 with fail
 have bW:yB W3 W3.drew:=(Below.refl _ _).drew;have q2:=q1.l bW;have hq2:=hq1.l bW;have ho2:=ho1.l bW;have b3:=aa b2 bW;clear q1 hq1 ho1 b2 bW hq ho;refine wp_region_held_drew (S:=fun wq=>(∃x y,au wq q 130 [yi F,yi W,yi fl,yi tr,x,y])∧au wq w.heap.size 37 [yi d,yi k,.string tx]) (by kernel_rfl) ⟨⟨_,_,hq2⟩,q2⟩ (fun hS0=> ?_)
 generalize W3.drew=WD at q2 hq2 ho2 b3 hS0⊢;refine tq 0 (.pointer (some ⟨q,0,none⟩)) rfl (fun _ _=>by kernel_rfl) hS0 ?_
 refine tq 1 (.pointer (some ⟨q,0,none⟩)) rfl (fun _ _=>by kernel_rfl) hS0 ?_
 refine tq 2 (.pointer (some ⟨q,0,none⟩)) rfl (fun _ _=>by kernel_rfl) hS0 ?_
 refine tq 3 (.pointer (some ⟨q,0,none⟩)) rfl (fun _ _=>by kernel_rfl) hS0 ?_
 refine tq 4 (.pointer (some ⟨q,0,none⟩)) rfl (fun _ _=>by kernel_rfl) hS0 ?_
 refine tq 5 (yi F) rfl (fun _ hw0=>by obtain⟨⟨_,_,hz⟩,_⟩:=hw0;exact gU 3 (.tmp 9) rfl q 0 (by kernel_rfl) _ _ underlying3 rfl (hz.c 0 rfl)) hS0 ?_
 refine tq 6 (.pointer (some ⟨w.heap.size,2,none⟩)) rfl (fun _ _=>by kernel_rfl) hS0 ?_
 refine tq 7 (.string tx) rfl (fun _ hw0=>gU 9 (.tmp 11) rfl w.heap.size 2 (by kernel_rfl) _ _ underlying9 rfl (hw0.2.c 2 rfl)) hS0 ?_
 refine tq 8 (.pointer (some ⟨q,0,none⟩)) rfl (fun _ _=>by kernel_rfl) hS0 ?_
 refine tq 9 (.pointer (some ⟨q,0,none⟩)) rfl (fun _ _=>by kernel_rfl) hS0 ?_
 refine tq 10 (.pointer (some ⟨q,0,none⟩)) rfl (fun _ _=>by kernel_rfl) hS0 ?_
 refine tq 11 (.pointer (some ⟨q,1,none⟩)) rfl (fun _ _=>by kernel_rfl) hS0 ?_
 refine tq 12 (yi W) rfl (fun _ hw0=>by obtain⟨⟨_,_,hz⟩,_⟩:=hw0;exact gU 3 (.tmp 16) rfl q 1 (by kernel_rfl) _ _ underlying3 rfl (hz.c 1 rfl)) hS0 ?_
 refine wpAnyH_ready (rs:=[13]) (by kernel_rfl) (by simp) ?_;refine AllReadyH.cons rfl (fun K hK=> ?_) AllReadyH.nil
 go_simp
 refine(HP.out _ b3).mono ?_;rintro zz w9 ⟨rfl,bb⟩;have q3:=q2.l bb;have hq3:=hq2.l bb;have ho3:=ho2.l bb;have b4:=aa b3 bb;clear q2 hq2 ho2 b3 bb HP;refine hK.out _ _ ⟨⟨_,_,hq3⟩,q3⟩ (fun hS1=> ?_)
 clear hK K hS0;refine tq 14 (.string st) rfl (fun _ _=>by kernel_rfl) hS1 ?_
 refine tq 15 (yi f) rfl (fun _ _=>by kernel_rfl) hS1 ?_
 refine tq 16 (yi e) rfl (fun _ _=>by kernel_rfl) hS1 ?_
 refine wpAnyH_ready (rs:=[17]) (by kernel_rfl) (by simp) ?_;refine AllReadyH.cons rfl (fun K hK=> ?_) AllReadyH.nil
 go_simp
 refine(push_err q f e st w9 he).mono ?_;rintro zz w10 ⟨rfl,rfl⟩;have HE:Hid (Kept q base w w10):=⟨b4.mono hs,fun _ _ _ _ _ h=>h.l b4⟩
 refine hK.out _ _ ⟨⟨_,_,hq3⟩,q3⟩ (fun hS2=> ?_)
 clear hK K hS1 q3 hq3 ho3;refine tq 18 (yi e) rfl (fun _ _=>by kernel_rfl) hS2 ?_
 refine wpAnyH_done (by kernel_rfl) ?_ _;clear hS2;simp only[Act.put,List.getElem_toArray,List.getElem_cons_succ,List.getElem_cons_zero,List.setIfInBounds_toArray,List.set_cons_zero,List.set_cons_succ]
 go_wp2
 go_ret
 exact⟨by simp,HE.out⟩
theorem step_load_err (F W fl tr kk e:Int)(tx:ByteArray)(so:Option Addr)(sc:Nat)(l:List ByteArray)(w:World)(hn:decide ((l.length:Int)<0)=false)(he: ¬e=0)
  (HO: ∀w1,yC 57 #[] w1 (OpsR w1))
  (HP: ∀w1,yB w w1→yC 28 #[.agg #[yi F,yi W,yi fl,yi tr,.slice so l.length sc]] w1 (CopB w.heap.size F W fl tr l w1))
  (HC: ∀q vo vc w1,yB w w1→w.heap.size≤q→au w1 q 130 [yi F,yi W,yi fl,yi tr,.slice vo l.length vc,yi 0]→OwnS w1 w.heap.size (.slice vo l.length vc) l→yC 93 #[.pointer (some ⟨q,0,none⟩),.agg #[yi 1,yi kk,.string tx]] w1 (fun z w'=>z= .returned (yi e)∧Kept q w.heap.size w1 w')):
  yC 29 #[.agg #[yi F,yi W,yi fl,yi tr,.slice so l.length sc],.agg #[yi 1,yi kk,.string tx]] w (StepE w.heap.size F W fl tr l e w):=by
 replace HO:Hid _:=HO;replace HP:Hid _:=HP;replace HC:Hid _:=HC;obtain⟨W5,hW6,q1,q2,q3,b4⟩:=lG w [yi F,yi W,yi fl,yi tr,.slice so l.length sc] 24 [yi 1,yi kk,.string tx] 37 [yi 0,yi 0,yi 0,yi 0,yN] 24;replace hW6:Hid _:=hW6
 go_enter func29,ntmps29
 go_upto_region 1 with fail
 rw[hW6.out];clear hW6
 go_upto_region 1 with fail
 have bW7:yB W5 W5.drew:=(Below.refl _ _).drew;have q8:=q1.l bW7;have q9:=q2.l bW7;have q10:=q3.l bW7;have b11:=aa b4 bW7;clear q1 q2 q3 b4 bW7;refine wp_region_held_drew (S:=fun wq=>au wq (w.heap.size+1) 37 [yi 1,yi kk,.string tx]) (by kernel_rfl) q9 (fun hS0=> ?_)
 generalize W5.drew=WD12 at q8 q9 q10 b11 hS0⊢;refine tq 1 (.pointer (some ⟨w.heap.size+1,0,none⟩)) rfl (fun _ _=>by kernel_rfl) hS0 ?_
 refine tq 2 (yi 1) rfl (fun _ hw0=>gU 3 (.tmp 12) rfl (w.heap.size+1) 0 (by kernel_rfl) _ _ underlying3 rfl (hw0.c 0 rfl)) hS0 ?_
 refine wpAnyH_ready (rs:=[0,7]) (by kernel_rfl) (by simp) ?_;refine AllReadyH.cons rfl (fun K hK=> ?_) (AllReadyH.cons rfl (fun K hK=> ?_) AllReadyH.nil)
 ·go_simp
  refine(HO.out _).mono ?_;rintro zz w13 ⟨mr,ca,cb,cc,cd,rfl,r1x15,bb14⟩;have q16:=q8.l bb14;have q17:=q9.l bb14;have q18:=q10.l bb14;have b19:=aa b11 bb14;clear q8 q9 q10 b11 bb14 HO;refine hK.out _ _ q17 (fun hS20=> ?_)
  clear hK K;refine wpAnyH_ready (rs:=[3,7]) (by kernel_rfl) (by simp) ?_;refine AllReadyH.cons rfl (fun K hK=> ?_) (AllReadyH.cons rfl (fun K hK=> ?_) AllReadyH.nil)
  ·rw[if_pos (by kernel_rfl)]
   refine wp_yield (.tuple #[.agg #[yi 0,.func (.func 93) #[] #[]],.bool true]) (xlook 127 (.tmp 11) (.tmp 13) true rfl _ _ (by kernel_rfl) (by kernel_rfl) (find_ok underlying127 underlying3 r1x15.1 1 (i:=0) rfl)) ?_;refine hK.out _ _ q17 (fun hS21=> ?_)
   clear hK K;refine tq 4 (.tuple #[.agg #[yi 0,.func (.func 93) #[] #[]],.bool true]) rfl (fun _ _=>by kernel_rfl) hS21 ?_
   refine tq 5 (.agg #[yi 0,.func (.func 93) #[] #[]]) rfl (fun _ _=>by go_simp) hS21 ?_
   refine tq 6 (.bool true) rfl (fun _ _=>by go_simp) hS21 ?_
   refine wpAnyH_ready (rs:=[7]) (by kernel_rfl) (by simp) ?_;refine AllReadyH.cons rfl (fun K hK=> ?_) AllReadyH.nil
   go_simp
   have al22:=af w13 (.cells #[yi 0,.nilFunc] 125);have q23:=ah w13 [yi 0,.nilFunc] 125;have hl26:w.heap.size≤w13.heap.size:=b19.size;have hl27:=q16.lt;have hl28:=q17.lt;have hl29:=q18.lt;have q30:=q16.l al22;have q31:=q17.l al22;have q32:=q18.l al22;have b33:=aa b19 al22;refine hK.out _ _ q31 (fun hS34=> ?_)
   clear hK K;clear q16 q17 q18 r1x15 b19 al22;generalize w13.alloc (.cells #[yi 0,.nilFunc] 125)=WN24 at q30 q31 q32 q23 b33 hS34⊢;generalize w13.heap.size=PQ25 at q23 hl26 hl27 hl28 hl29⊢;refine wpAnyH_ready (rs:=[8]) (by kernel_rfl) (by simp) ?_;refine AllReadyH.cons rfl (fun K hK=> ?_) AllReadyH.nil
   have bu:But PQ25 WN24 (WN24.setCells PQ25 0 [yi 0,.func (.func 93) #[] #[]]):=de _ _ _ _;have hth:WN24.there PQ25 0 2:=dD q23;have q35:au (WN24.setCells PQ25 0 [yi 0,.func (.func 93) #[] #[]]) PQ25 125 [yi 0,.func (.func 93) #[] #[]]:=q23.sets _ rfl;have q36:=bu.loc q30 (by omega);have q37:=bu.loc q31 (by omega);have q38:=bu.loc q32 (by omega);have b39:=bu.below b33 (by omega);rw[if_pos (by kernel_rfl)];refine wp_store_mid 125 (.tmp 6) (.tmp 15) rfl PQ25 0 #[yi 0,.func (.func 93) #[] #[]] (by kernel_rfl) (by kernel_rfl) hth (by kernel_rfl) (by simp[Value.oneCell']) ?_;refine hK.out _ _ q37 (fun hS40=> ?_)
   clear hK K;clear q23 q30 q31 q32 b33 bu hth;change wpAnyH _ _ _ _ _ _ _ _ (World.setCells WN24 PQ25 0 [yi 0,.func (.func 93) #[] #[]]);generalize World.setCells WN24 PQ25 0 [yi 0,.func (.func 93) #[] #[]]=WS41 at q36 q37 q38 q35 b39 hS40⊢;refine tq 9 (.bool true) rfl (fun _ _=>by kernel_rfl) hS40 ?_
   refine wpAnyH_done (by kernel_rfl) ?_ _;clear hS0 hS20 hS21 hS34 hS40;simp only[Act.put,List.getElem_toArray,List.getElem_cons_succ,List.getElem_cons_zero,List.setIfInBounds_toArray,List.set_cons_zero,List.set_cons_succ];obtain⟨c42,c43,c44,c45,c46⟩:=q36.cs5;have c47:=q35.c 0 rfl
   go_wp2_with fail
   refine(HP.out _ b39).mono ?_;rintro zz w48 ⟨vo,vc,rfl,r1x50,bb49⟩;have q51:=q36.l bb49;have q52:=q37.l bb49;have q53:=q38.l bb49;have q54:=q35.l bb49;have b55:=aa b39 bb49;clear q36 q37 q38 q35 b39 bb49 c42 c43 c44 c45 c46 c47;obtain⟨W58,hW57,q59,al56⟩:=cA w48 [yi F,yi W,yi fl,yi tr,.slice vo l.length vc,yi 0] 130;replace hW57:Hid _:=hW57;have hl60:w.heap.size≤w48.heap.size:=b55.size;have hl61:=q51.lt;have hl62:=q52.lt;have hl63:=q53.lt;have hl64:=q54.lt;have q65:=q51.l al56;have q66:=q52.l al56;have q67:=q53.l al56;have q68:=q54.l al56;have r69:=r1x50.l al56;have b70:=aa b55 al56;clear q51 q52 q53 q54 r1x50 b55 al56
   go_upto_region 7 with fail
   rw[hW57.out];clear hW57;obtain⟨c71,c72,c73⟩:=q66.cs3;have c74:=q68.c 1 rfl
   go_wp2_with fail
   refine(HC.out _ _ _ _ b70 (by omega) q59 r69).mono ?_;rintro zz w75 ⟨rfl,kp⟩;clear c71 c72 c73 c74;have bz:=b70.trans kp.1;have qa:=kp.2 _ _ _ (by omega) (by decide) q65;have qc:=kp.2 _ _ _ (by omega) (by decide) q67;clear kp HC q65 q67 q59 b70 r69;obtain⟨c201,c202,c203,c204,c205⟩:=qa.cs5
   go_wp2_with fail
   refine(HP.out _ bz).mono ?_;rintro zz w206 ⟨uo,uc,rfl,r1x208,bb207⟩;have q209:=qc.l bb207;have b210:=aa bz bb207;clear qa qc bz bb207 HP c201 c202 c203 c204 c205;have hf:=dL (P:=Tryz.prog) q209 b210 (by omega) underlying24 rfl (by kernel_rfl) (yi F) (yi W) (yi fl) (yi tr) (.slice uo l.length uc);have HH:Hid (_∧_∧_):=⟨hf.1,r1x208.off hf.2.2 q209 (by simp) (by omega),hf.2.1⟩;obtain⟨⟨z0,z1,z2,z3,z4⟩,y0,y1,y2,y3,y4⟩:=dN q209;clear hf q209 r1x208 b210
   go_wp2
   obtain⟨hl,rRu,bR⟩:=HH.out;exact bodyPost_ret (aj results29 rfl rfl hl) rfl ⟨uo,uc,rfl,rRu,bR⟩
  ·go_simp
   have al21:=af w13 (.cells #[yi 0,.nilFunc] 125);have q22:=ah w13 [yi 0,.nilFunc] 125;have hl25:w.heap.size≤w13.heap.size:=b19.size;have hl26:=q16.lt;have hl27:=q17.lt;have hl28:=q18.lt;have q29:=q16.l al21;have q30:=q17.l al21;have q31:=q18.l al21;have r32:=r1x15.l al21;have b33:=aa b19 al21;refine hK.out _ _ q30 (fun hS34=> ?_)
   clear hK K;clear q16 q17 q18 r1x15 b19 al21;generalize w13.alloc (.cells #[yi 0,.nilFunc] 125)=WN23 at q29 q30 q31 q22 r32 b33 hS34⊢;generalize w13.heap.size=PQ24 at q22 hl25 hl26 hl27 hl28⊢;refine wpAnyH_ready (rs:=[3]) (by kernel_rfl) (by simp) ?_;refine AllReadyH.cons rfl (fun K hK=> ?_) AllReadyH.nil
   rw[if_pos (by kernel_rfl)];refine wp_yield (.tuple #[.agg #[yi 0,.func (.func 93) #[] #[]],.bool true]) (xlook 127 (.tmp 11) (.tmp 13) true rfl _ _ (by kernel_rfl) (by kernel_rfl) (find_ok underlying127 underlying3 r32.1 1 (i:=0) rfl)) ?_;refine hK.out _ _ q30 (fun hS35=> ?_)
   clear hK K;refine tq 4 (.tuple #[.agg #[yi 0,.func (.func 93) #[] #[]],.bool true]) rfl (fun _ _=>by kernel_rfl) hS35 ?_
   refine tq 5 (.agg #[yi 0,.func (.func 93) #[] #[]]) rfl (fun _ _=>by go_simp) hS35 ?_
   refine tq 6 (.bool true) rfl (fun _ _=>by go_simp) hS35 ?_
   refine wpAnyH_ready (rs:=[8]) (by kernel_rfl) (by simp) ?_;refine AllReadyH.cons rfl (fun K hK=> ?_) AllReadyH.nil
   have bu:But PQ24 WN23 (WN23.setCells PQ24 0 [yi 0,.func (.func 93) #[] #[]]):=de _ _ _ _;have hth:WN23.there PQ24 0 2:=dD q22;have q36:au (WN23.setCells PQ24 0 [yi 0,.func (.func 93) #[] #[]]) PQ24 125 [yi 0,.func (.func 93) #[] #[]]:=q22.sets _ rfl;have q37:=bu.loc q29 (by omega);have q38:=bu.loc q30 (by omega);have q39:=bu.loc q31 (by omega);have b40:=bu.below b33 (by omega);rw[if_pos (by kernel_rfl)];refine wp_store_mid 125 (.tmp 6) (.tmp 15) rfl PQ24 0 #[yi 0,.func (.func 93) #[] #[]] (by kernel_rfl) (by kernel_rfl) hth (by kernel_rfl) (by simp[Value.oneCell']) ?_;refine hK.out _ _ q38 (fun hS41=> ?_)
   clear hK K;clear q22 r32 q29 q30 q31 b33 bu hth;change wpAnyH _ _ _ _ _ _ _ _ (World.setCells WN23 PQ24 0 [yi 0,.func (.func 93) #[] #[]]);generalize World.setCells WN23 PQ24 0 [yi 0,.func (.func 93) #[] #[]]=WS42 at q37 q38 q39 q36 b40 hS41⊢;refine tq 9 (.bool true) rfl (fun _ _=>by kernel_rfl) hS41 ?_
   refine wpAnyH_done (by kernel_rfl) ?_ _;clear hS0 hS20 hS34 hS35 hS41;simp only[Act.put,List.getElem_toArray,List.getElem_cons_succ,List.getElem_cons_zero,List.setIfInBounds_toArray,List.set_cons_zero,List.set_cons_succ];obtain⟨c43,c44,c45,c46,c47⟩:=q37.cs5;have c48:=q36.c 0 rfl
   go_wp2_with fail
   refine(HP.out _ b40).mono ?_;rintro zz w49 ⟨vo,vc,rfl,r1x51,bb50⟩;have q52:=q37.l bb50;have q53:=q38.l bb50;have q54:=q39.l bb50;have q55:=q36.l bb50;have b56:=aa b40 bb50;clear q37 q38 q39 q36 b40 bb50 c43 c44 c45 c46 c47 c48;obtain⟨W59,hW58,q60,al57⟩:=cA w49 [yi F,yi W,yi fl,yi tr,.slice vo l.length vc,yi 0] 130;replace hW58:Hid _:=hW58;have hl61:w.heap.size≤w49.heap.size:=b56.size;have hl62:=q52.lt;have hl63:=q53.lt;have hl64:=q54.lt;have hl65:=q55.lt;have q66:=q52.l al57;have q67:=q53.l al57;have q68:=q54.l al57;have q69:=q55.l al57;have r70:=r1x51.l al57;have b71:=aa b56 al57;clear q52 q53 q54 q55 r1x51 b56 al57
   go_upto_region 7 with fail
   rw[hW58.out];clear hW58;obtain⟨c72,c73,c74⟩:=q67.cs3;have c75:=q69.c 1 rfl
   go_wp2_with fail
   refine(HC.out _ _ _ _ b71 (by omega) q60 r70).mono ?_;rintro zz w76 ⟨rfl,kp⟩;clear c72 c73 c74 c75;have bz:=b71.trans kp.1;have qa:=kp.2 _ _ _ (by omega) (by decide) q66;have qc:=kp.2 _ _ _ (by omega) (by decide) q68;clear kp HC q66 q68 q60 b71 r70;obtain⟨c201,c202,c203,c204,c205⟩:=qa.cs5
   go_wp2_with fail
   refine(HP.out _ bz).mono ?_;rintro zz w206 ⟨uo,uc,rfl,r1x208,bb207⟩;have q209:=qc.l bb207;have b210:=aa bz bb207;clear qa qc bz bb207 HP c201 c202 c203 c204 c205;have hf:=dL (P:=Tryz.prog) q209 b210 (by omega) underlying24 rfl (by kernel_rfl) (yi F) (yi W) (yi fl) (yi tr) (.slice uo l.length uc);have HH:Hid (_∧_∧_):=⟨hf.1,r1x208.off hf.2.2 q209 (by simp) (by omega),hf.2.1⟩;obtain⟨⟨z0,z1,z2,z3,z4⟩,y0,y1,y2,y3,y4⟩:=dN q209;clear hf q209 r1x208 b210
   go_wp2
   obtain⟨hl,rRu,bR⟩:=HH.out;exact bodyPost_ret (aj results29 rfl rfl hl) rfl ⟨uo,uc,rfl,rRu,bR⟩
 ·go_simp
  have al13:=af WD12 (.cells #[yi 0,.nilFunc] 125);have q14:=ah WD12 [yi 0,.nilFunc] 125;have hl17:w.heap.size≤WD12.heap.size:=b11.size;have hl18:=q8.lt;have hl19:=q9.lt;have hl20:=q10.lt;have q21:=q8.l al13;have q22:=q9.l al13;have q23:=q10.l al13;have b24:=aa b11 al13;refine hK.out _ _ q22 (fun hS25=> ?_)
  clear hK K;clear q8 q9 q10 b11 al13;generalize WD12.alloc (.cells #[yi 0,.nilFunc] 125)=WN15 at q21 q22 q23 q14 b24 hS25⊢;generalize WD12.heap.size=PQ16 at q14 hl17 hl18 hl19 hl20⊢;refine wpAnyH_ready (rs:=[0]) (by kernel_rfl) (by simp) ?_;refine AllReadyH.cons rfl (fun K hK=> ?_) AllReadyH.nil
  go_simp
  refine(HO.out _).mono ?_;rintro zz w26 ⟨mr,ca,cb,cc,cd,rfl,r1x28,bb27⟩;have q29:=q21.l bb27;have q30:=q22.l bb27;have q31:=q23.l bb27;have q32:=q14.l bb27;have b33:=aa b24 bb27;clear q21 q22 q23 q14 b24 bb27 HO;refine hK.out _ _ q30 (fun hS34=> ?_)
  clear hK K;refine wpAnyH_ready (rs:=[3]) (by kernel_rfl) (by simp) ?_;refine AllReadyH.cons rfl (fun K hK=> ?_) AllReadyH.nil
  rw[if_pos (by kernel_rfl)];refine wp_yield (.tuple #[.agg #[yi 0,.func (.func 93) #[] #[]],.bool true]) (xlook 127 (.tmp 11) (.tmp 13) true rfl _ _ (by kernel_rfl) (by kernel_rfl) (find_ok underlying127 underlying3 r1x28.1 1 (i:=0) rfl)) ?_;refine hK.out _ _ q30 (fun hS35=> ?_)
  clear hK K;refine tq 4 (.tuple #[.agg #[yi 0,.func (.func 93) #[] #[]],.bool true]) rfl (fun _ _=>by kernel_rfl) hS35 ?_
  refine tq 5 (.agg #[yi 0,.func (.func 93) #[] #[]]) rfl (fun _ _=>by go_simp) hS35 ?_
  refine tq 6 (.bool true) rfl (fun _ _=>by go_simp) hS35 ?_
  refine wpAnyH_ready (rs:=[8]) (by kernel_rfl) (by simp) ?_;refine AllReadyH.cons rfl (fun K hK=> ?_) AllReadyH.nil
  have bu:But PQ16 w26 (w26.setCells PQ16 0 [yi 0,.func (.func 93) #[] #[]]):=de _ _ _ _;have hth:w26.there PQ16 0 2:=dD q32;have q36:au (w26.setCells PQ16 0 [yi 0,.func (.func 93) #[] #[]]) PQ16 125 [yi 0,.func (.func 93) #[] #[]]:=q32.sets _ rfl;have q37:=bu.loc q29 (by omega);have q38:=bu.loc q30 (by omega);have q39:=bu.loc q31 (by omega);have b40:=bu.below b33 (by omega);rw[if_pos (by kernel_rfl)];refine wp_store_mid 125 (.tmp 6) (.tmp 15) rfl PQ16 0 #[yi 0,.func (.func 93) #[] #[]] (by kernel_rfl) (by kernel_rfl) hth (by kernel_rfl) (by simp[Value.oneCell']) ?_;refine hK.out _ _ q38 (fun hS41=> ?_)
  clear hK K;clear q32 r1x28 q29 q30 q31 b33 bu hth;change wpAnyH _ _ _ _ _ _ _ _ (World.setCells w26 PQ16 0 [yi 0,.func (.func 93) #[] #[]]);generalize World.setCells w26 PQ16 0 [yi 0,.func (.func 93) #[] #[]]=WS42 at q37 q38 q39 q36 b40 hS41⊢;refine tq 9 (.bool true) rfl (fun _ _=>by kernel_rfl) hS41 ?_
  refine wpAnyH_done (by kernel_rfl) ?_ _;clear hS0 hS25 hS34 hS35 hS41;simp only[Act.put,List.getElem_toArray,List.getElem_cons_succ,List.getElem_cons_zero,List.setIfInBounds_toArray,List.set_cons_zero,List.set_cons_succ];obtain⟨c43,c44,c45,c46,c47⟩:=q37.cs5;have c48:=q36.c 0 rfl
  go_wp2_with fail
  refine(HP.out _ b40).mono ?_;rintro zz w49 ⟨vo,vc,rfl,r1x51,bb50⟩;have q52:=q37.l bb50;have q53:=q38.l bb50;have q54:=q39.l bb50;have q55:=q36.l bb50;have b56:=aa b40 bb50;clear q37 q38 q39 q36 b40 bb50 c43 c44 c45 c46 c47 c48;obtain⟨W59,hW58,q60,al57⟩:=cA w49 [yi F,yi W,yi fl,yi tr,.slice vo l.length vc,yi 0] 130;replace hW58:Hid _:=hW58;have hl61:w.heap.size≤w49.heap.size:=b56.size;have hl62:=q52.lt;have hl63:=q53.lt;have hl64:=q54.lt;have hl65:=q55.lt;have q66:=q52.l al57;have q67:=q53.l al57;have q68:=q54.l al57;have q69:=q55.l al57;have r70:=r1x51.l al57;have b71:=aa b56 al57;clear q52 q53 q54 q55 r1x51 b56 al57
  go_upto_region 7 with fail
  rw[hW58.out];clear hW58;obtain⟨c72,c73,c74⟩:=q67.cs3;have c75:=q69.c 1 rfl
  go_wp2_with fail
  refine(HC.out _ _ _ _ b71 (by omega) q60 r70).mono ?_;rintro zz w76 ⟨rfl,kp⟩;clear c72 c73 c74 c75;have bz:=b71.trans kp.1;have qa:=kp.2 _ _ _ (by omega) (by decide) q66;have qc:=kp.2 _ _ _ (by omega) (by decide) q68;clear kp HC q66 q68 q60 b71 r70;obtain⟨c201,c202,c203,c204,c205⟩:=qa.cs5
  go_wp2_with fail
  refine(HP.out _ bz).mono ?_;rintro zz w206 ⟨uo,uc,rfl,r1x208,bb207⟩;have q209:=qc.l bb207;have b210:=aa bz bb207;clear qa qc bz bb207 HP c201 c202 c203 c204 c205;have hf:=dL (P:=Tryz.prog) q209 b210 (by omega) underlying24 rfl (by kernel_rfl) (yi F) (yi W) (yi fl) (yi tr) (.slice uo l.length uc);have HH:Hid (_∧_∧_):=⟨hf.1,r1x208.off hf.2.2 q209 (by simp) (by omega),hf.2.1⟩;obtain⟨⟨z0,z1,z2,z3,z4⟩,y0,y1,y2,y3,y4⟩:=dN q209;clear hf q209 r1x208 b210
  go_wp2
  obtain⟨hl,rRu,bR⟩:=HH.out;exact bodyPost_ret (aj results29 rfl rfl hl) rfl ⟨uo,uc,rfl,rRu,bR⟩
def RunE (w:World)(z:Ending)(w':World):Prop:=
 ∃(a b c d n e:Int) (vo:Option Addr) (vl vc:Nat),z= .returned (.tuple #[.agg #[yi a,yi b,yi c,yi d,.slice vo vl vc],yi n,yi e])∧ ¬e=0∧n<2∧yB w w'
def RunO (F W fl:Int)(z0:ByteArray)(w:World)(z:Ending)(w':World):Prop:=
 ∃g vc,z= .returned (.tuple #[.agg #[yi F,yi W,yi fl,yi 0,.slice (some ⟨g,0,none⟩) 1 vc],yi 3,yi 0])∧w'.rangeAt g 0 [.string z0]∧1≤vc∧vc≤maxLen∧yB w w'
def ShowO (tx:ByteArray)(w:World)(z:Ending)(w':World):Prop:=
 ∃g vc,z= .returned (.tuple #[.slice (some ⟨g,0,none⟩) 1 vc,yi 0])∧w'.rangeAt g 0 [.string tx]∧yB w w'
theorem topm_e1 (sa sb:ByteArray)(fa fb ea eb:Int)(F W k:Int)(ta tb:ByteArray)(w:World)(hea: ¬ea=0)
  (HM:yH w 6 #[] (.bool true))
  (HB:yH w 11 #[] (.bool true))
  (HA:yH w 12 #[] (.bool true))
  (HR: ∀ob w1,yB w w1→au w1 ob 37 [yi 1,yi 0,.string ta,yi 1,yi 0,.string tb,yi 3,yi 0,.string ⟨#[]⟩]→yC 13 #[.agg #[yi F,yi W,yi 0,yi 0,yN],.slice (some ⟨ob,0,none⟩) 3 3] w1 (RunE w1))
  (HP:yH w 14 #[yi F,.string ta,yi W] (.tuple #[.string sa,yi fa,yi ea]))
  (HQ:yH w 14 #[yi F,.string tb,yi W] (.tuple #[.string sb,yi fb,yi eb])):
  yC 5 #[yi F,yi W,.string ta,.string tb,yi k] w (yR w (.bool true)):=by
 replace HM:Hid _:=HM;replace HB:Hid _:=HB;replace HA:Hid _:=HA;replace HR:Hid _:=HR;replace HP:Hid _:=HP;replace HQ:Hid _:=HQ
 go_enter func5,ntmps5
 have b0:=Below.refl w.heap.size w
 go_wp2_with fail
 refine(HM.out _ b0).mono ?_;rintro zz w1 ⟨rfl,bb2⟩;have b3:=aa b0 bb2;clear b0 bb2 HM
 go_wp2_with fail
 refine(HB.out _ b3).mono ?_;rintro zz w4 ⟨rfl,bb5⟩;have b6:=aa b3 bb5;clear b3 bb5 HB
 go_wp2_with fail
 refine(HA.out _ b6).mono ?_;rintro zz w7 ⟨rfl,bb8⟩;have b9:=aa b6 bb8;clear b6 bb8 HA;have al10:=af w7 (.cells #[yi 1,yi 0,.string ta,yi 1,yi 0,.string tb,yi 3,yi 0,.string ⟨#[]⟩] 37);have q11:=ah w7 [yi 1,yi 0,.string ta,yi 1,yi 0,.string tb,yi 3,yi 0,.string ⟨#[]⟩] 37;have b12:=aa b9 al10
 go_wp2_with fail
 refine(HR.out _ _ b12 q11).mono ?_;rintro zz w13 ⟨ra,rb,rc,rd,n,e,vo,vl,vc,rfl,hne,hn2,bb14⟩;have b15:=aa b12 bb14;clear q11 b12 bb14 HR b9 al10;obtain⟨W18,hW17,q19,al16⟩:=cA w13 [yi ra,yi rb,yi rc,yi rd,.slice vo vl vc] 24;replace hW17:Hid _:=hW17;have hl20:w.heap.size≤w13.heap.size:=b15.size;have b21:=aa b15 al16;clear b15 al16 q19
 go_upto_region 4 with fail
 rw[hW17.out];clear hW17
 go_wp2_with fail
 refine(HP.out _ b21).mono ?_;rintro zz w22 ⟨rfl,bb23⟩;have b24:=aa b21 bb23;clear b21 bb23 HP
 go_wp2_with fail
 refine(HQ.out _ b24).mono ?_;rintro zz w25 ⟨rfl,bb26⟩;have b27:=aa b24 bb26;clear b24 bb26 HQ
 go_wp2
 go_ret
 exact⟨by simp[hne],b27⟩
theorem topm_e2 (sa sb:ByteArray)(fa fb eb:Int)(F W k:Int)(ta tb:ByteArray)(w:World)(heb: ¬eb=0)
  (HM:yH w 6 #[] (.bool true))
  (HB:yH w 11 #[] (.bool true))
  (HA:yH w 12 #[] (.bool true))
  (HR: ∀ob w1,yB w w1→au w1 ob 37 [yi 1,yi 0,.string ta,yi 1,yi 0,.string tb,yi 3,yi 0,.string ⟨#[]⟩]→yC 13 #[.agg #[yi F,yi W,yi 0,yi 0,yN],.slice (some ⟨ob,0,none⟩) 3 3] w1 (RunE w1))
  (HP:yH w 14 #[yi F,.string ta,yi W] (.tuple #[.string sa,yi fa,yi 0]))
  (HQ:yH w 14 #[yi F,.string tb,yi W] (.tuple #[.string sb,yi fb,yi eb])):
  yC 5 #[yi F,yi W,.string ta,.string tb,yi k] w (yR w (.bool true)):=by
 replace HM:Hid _:=HM;replace HB:Hid _:=HB;replace HA:Hid _:=HA;replace HR:Hid _:=HR;replace HP:Hid _:=HP;replace HQ:Hid _:=HQ
 go_enter func5,ntmps5
 have b0:=Below.refl w.heap.size w
 go_wp2_with fail
 refine(HM.out _ b0).mono ?_;rintro zz w1 ⟨rfl,bb2⟩;have b3:=aa b0 bb2;clear b0 bb2 HM
 go_wp2_with fail
 refine(HB.out _ b3).mono ?_;rintro zz w4 ⟨rfl,bb5⟩;have b6:=aa b3 bb5;clear b3 bb5 HB
 go_wp2_with fail
 refine(HA.out _ b6).mono ?_;rintro zz w7 ⟨rfl,bb8⟩;have b9:=aa b6 bb8;clear b6 bb8 HA;have al10:=af w7 (.cells #[yi 1,yi 0,.string ta,yi 1,yi 0,.string tb,yi 3,yi 0,.string ⟨#[]⟩] 37);have q11:=ah w7 [yi 1,yi 0,.string ta,yi 1,yi 0,.string tb,yi 3,yi 0,.string ⟨#[]⟩] 37;have b12:=aa b9 al10
 go_wp2_with fail
 refine(HR.out _ _ b12 q11).mono ?_;rintro zz w13 ⟨ra,rb,rc,rd,n,e,vo,vl,vc,rfl,hne,hn2,bb14⟩;have b15:=aa b12 bb14;clear q11 b12 bb14 HR b9 al10;obtain⟨W18,hW17,q19,al16⟩:=cA w13 [yi ra,yi rb,yi rc,yi rd,.slice vo vl vc] 24;replace hW17:Hid _:=hW17;have hl20:w.heap.size≤w13.heap.size:=b15.size;have b21:=aa b15 al16;clear b15 al16 q19
 go_upto_region 4 with fail
 rw[hW17.out];clear hW17
 go_wp2_with fail
 refine(HP.out _ b21).mono ?_;rintro zz w22 ⟨rfl,bb23⟩;have b24:=aa b21 bb23;clear b21 bb23 HP
 go_wp2_with fail
 refine(HQ.out _ b24).mono ?_;rintro zz w25 ⟨rfl,bb26⟩;have b27:=aa b24 bb26;clear b24 bb26 HQ
 go_wp2
 go_ret
 exact⟨by simp[hne],b27⟩
theorem topm_dig (sa sb sz tx:ByteArray)(fa fb fz FL:Int)(F W k:Int)(ta tb:ByteArray)(w:World)
  (HM:yH w 6 #[] (.bool true))
  (HB:yH w 11 #[] (.bool true))
  (HA:yH w 12 #[] (.bool true))
  (HR: ∀ob w1,yB w w1→au w1 ob 37 [yi 1,yi 0,.string ta,yi 1,yi 0,.string tb,yi 3,yi 0,.string ⟨#[]⟩]→yC 13 #[.agg #[yi F,yi W,yi 0,yi 0,yN],.slice (some ⟨ob,0,none⟩) 3 3] w1 (RunO F W FL sz w1))
  (HP:yH w 14 #[yi F,.string ta,yi W] (.tuple #[.string sa,yi fa,yi 0]))
  (HQ:yH w 14 #[yi F,.string tb,yi W] (.tuple #[.string sb,yi fb,yi 0]))
  (HD:yH w 15 #[yi F,.string sa,.string sb,yi W] (.tuple #[.string sz,yi fz,yi 0]))
  (HQR: ∀j:Nat,j<5→ ∃qa ra qb rb:Int,IntKind.i64.wrap (fz.tdiv ((2^j:Nat):Int))=qa∧qa.tmod 2=ra∧IntKind.i64.wrap (FL.tdiv ((2^j:Nat):Int))=qb∧qb.tmod 2=rb∧(ra=1→ ¬rb=0))
  (HS: ∀g vc w1,yB w w1→w1.rangeAt g 0 [.string sz]→1≤vc→vc≤maxLen→yC 9 #[.agg #[yi F,yi W,yi FL,yi 0,.slice (some ⟨g,0,none⟩) 1 vc],yi k] w1 ((yR w1 (.tuple #[yN,yi 3]))))
  (HX:yH w 10 #[yi F,.string sz,yi k] (.tuple #[.string tx,yi 3])):
  yC 5 #[yi F,yi W,.string ta,.string tb,yi k] w (yR w (.bool true)):=by
 replace HM:Hid _:=HM;replace HB:Hid _:=HB;replace HA:Hid _:=HA;replace HR:Hid _:=HR;replace HP:Hid _:=HP;replace HQ:Hid _:=HQ;replace HD:Hid _:=HD;replace HQR:Hid _:=HQR;replace HS:Hid _:=HS;replace HX:Hid _:=HX
 go_enter func5,ntmps5
 have b0:=Below.refl w.heap.size w
 go_wp2_with fail
 refine(HM.out _ b0).mono ?_;rintro zz w1 ⟨rfl,bb2⟩;have b3:=aa b0 bb2;clear b0 bb2 HM
 go_wp2_with fail
 refine(HB.out _ b3).mono ?_;rintro zz w4 ⟨rfl,bb5⟩;have b6:=aa b3 bb5;clear b3 bb5 HB
 go_wp2_with fail
 refine(HA.out _ b6).mono ?_;rintro zz w7 ⟨rfl,bb8⟩;have b9:=aa b6 bb8;clear b6 bb8 HA;have al10:=af w7 (.cells #[yi 1,yi 0,.string ta,yi 1,yi 0,.string tb,yi 3,yi 0,.string ⟨#[]⟩] 37);have q11:=ah w7 [yi 1,yi 0,.string ta,yi 1,yi 0,.string tb,yi 3,yi 0,.string ⟨#[]⟩] 37;have b12:=aa b9 al10
 go_wp2_with fail
 refine(HR.out _ _ b12 q11).mono ?_;rintro zz w13 ⟨g,vc,rfl,rg,hvc,hvm,bb14⟩;have b15:=aa b12 bb14;clear q11 b12 bb14 HR b9 al10;obtain⟨W18,hW17,q19,al16⟩:=cA w13 [yi F,yi W,yi FL,yi 0,.slice (some ⟨g,0,none⟩) 1 vc] 24;replace hW17:Hid _:=hW17;have hl20:w.heap.size≤w13.heap.size:=b15.size;have hl21:=World.block_lt_of_cell? _ _ (rg 0 _ rfl);have q22:=aC rg al16;have b23:=aa b15 al16;clear rg b15 al16
 go_upto_region 4 with fail
 rw[hW17.out];clear hW17
 go_wp2_with fail
 refine(HP.out _ b23).mono ?_;rintro zz w24 ⟨rfl,bb25⟩;have q26:=aC q22 bb25;have q27:=q19.l bb25;have b28:=aa b23 bb25;clear q22 q19 b23 bb25 HP
 go_wp2_with fail
 refine(HQ.out _ b28).mono ?_;rintro zz w29 ⟨rfl,bb30⟩;have q31:=aC q26 bb30;have q32:=q27.l bb30;have b33:=aa b28 bb30;clear q26 q27 b28 bb30 HQ
 go_wp2_with fail
 refine(HD.out _ b33).mono ?_;rintro zz w34 ⟨rfl,bb35⟩;have q36:=aC q31 bb35;have q37:=q32.l bb35;have b38:=aa b33 bb35;clear q31 q32 b33 bb35 HD;have c39:=q36 0 _ rfl;have c40:=q37.c 4 rfl
 go_wp2
 have HV:Hid (1≤vc∧vc≤maxLen):=⟨hvc,hvm⟩;have hS:w.heap.size≤w13.heap.size∧yB w w34∧au w34 (w13.heap.size) 24 [yi F,yi W,yi FL,yi 0,.slice (some ⟨g,0,none⟩) 1 vc]∧w34.rangeAt g 0 [.string sz]:=⟨by omega,b38,q37,q36⟩;clear c39 c40 b38 q36 q37 hvc hvm;generalize w13.heap.size=ad at hS⊢
 go_loopw [23] (fun bv wr=> ∃j:Nat,j≤5∧bv=yi ((2^j:Nat):Int)∧w.heap.size≤ad∧yB w wr∧au wr ad 24 [yi F,yi W,yi FL,yi 0,.slice (some ⟨g,0,none⟩) 1 vc]∧wr.rangeAt g 0 [.string sz]) (fun bv _=>33-(intOf bv).toNat)
 case atStart=>exact⟨0,by omega,rfl,hS⟩
 case round=>
  clear hS;obtain⟨j,hj,rfl,had,bz,qs,rg⟩:=hrel
  by_cases hlt:j<5
  ·obtain⟨qa,ra,qb,rb,e1,e2,e3,e4,hi⟩:=HQR.out j hlt
   have hp1:2^j≤2^4:=Nat.pow_le_pow_right (by omega) (by omega);have hp0:0<2^j:=Nat.pow_pos (by omega);have hp2:2^ (j+1)=2*2^j:=by rw[Nat.pow_succ,Nat.mul_comm]
   obtain⟨B,hB⟩: ∃B:Int,((2^j:Nat):Int)=B:=⟨_,rfl⟩;obtain⟨N,hN⟩: ∃N,2^j=N:=⟨_,rfl⟩;rw[hN] at hp1 hp0 hp2 hB e1 e3⊢;rw[hB] at e1 e3⊢;have hB0: ¬B=0:=by omega
   have hB1:B<32:=by omega
   have hw2:IntKind.i64.wrap (2*B)=2*B:=IntWalk.i64_in _ ⟨by omega,by omega⟩;have HN:Hid (2*B=((2^ (j+1):Nat):Int)∧B=(N:Int)∧0<N):=⟨by rw[hp2,←hB];omega,hB.symm,hp0⟩;replace hN:Hid _:=hN;clear hp1 hp0 hp2 hB;have c2:=qs.c 2 rfl
   by_cases hra:ra=1
   ·have hrb:=hi hra
    clear hi
    go_wp2
    go_roundw
    case rel=>exact⟨j+1,by omega,by rw[←HN.out.1],had,bz,qs,rg⟩
    case measure=>obtain⟨-,h1,h2⟩:=HN.out;subst h1;simp[intOf];omega
   ·clear hi
    go_wp2
    go_roundw
    case rel=>exact⟨j+1,by omega,by rw[←HN.out.1],had,bz,qs,rg⟩
    case measure=>obtain⟨-,h1,h2⟩:=HN.out;subst h1;simp[intOf];omega
  ·obtain rfl:j=5:=by omega
   rw[show((2^5:Nat):Int)=32 from rfl]
   obtain⟨c301,c302,c303,c304,c305⟩:=qs.cs5
   go_wp2_with fail
   refine(HS.out _ _ _ bz rg HV.out.1 HV.out.2).mono ?_;rintro zz w306 ⟨rfl,bb307⟩;have b308:=aa bz bb307;clear rg qs bz bb307 HS c301 c302 c303 c304 c305
   go_wp2_with fail
   refine(HX.out _ b308).mono ?_;rintro zz w309 ⟨rfl,bb310⟩;have b311:=aa b308 bb310;clear b308 bb310 HX
   go_wp2
   go_ret
   exact⟨by first|rfl|simp,b311⟩
theorem topm_all (sa sb sz tx:ByteArray)(fa fb fz FL:Int)(F W k:Int)(ta tb:ByteArray)(w:World)
  (HM:yH w 6 #[] (.bool true))
  (HB:yH w 11 #[] (.bool true))
  (HA:yH w 12 #[] (.bool true))
  (HR: ∀ob w1,yB w w1→au w1 ob 37 [yi 1,yi 0,.string ta,yi 1,yi 0,.string tb,yi 3,yi 0,.string ⟨#[]⟩]→yC 13 #[.agg #[yi F,yi W,yi 0,yi 0,yN],.slice (some ⟨ob,0,none⟩) 3 3] w1 (RunO F W FL sz w1))
  (HP:yH w 14 #[yi F,.string ta,yi W] (.tuple #[.string sa,yi fa,yi 0]))
  (HQ:yH w 14 #[yi F,.string tb,yi W] (.tuple #[.string sb,yi fb,yi 0]))
  (HD:yH w 15 #[yi F,.string sa,.string sb,yi W] (.tuple #[.string sz,yi fz,yi 0]))
  (HQR: ∀j:Nat,j<5→ ∃qa ra qb rb:Int,IntKind.i64.wrap (fz.tdiv ((2^j:Nat):Int))=qa∧qa.tmod 2=ra∧IntKind.i64.wrap (FL.tdiv ((2^j:Nat):Int))=qb∧qb.tmod 2=rb∧(ra=1→ ¬rb=0))
  (HS: ∀g vc w1,yB w w1→w1.rangeAt g 0 [.string sz]→1≤vc→vc≤maxLen→yC 9 #[.agg #[yi F,yi W,yi FL,yi 0,.slice (some ⟨g,0,none⟩) 1 vc],yi k] w1 (ShowO tx w1))
  (HX:yH w 10 #[yi F,.string sz,yi k] (.tuple #[.string tx,yi 0])):
  yC 5 #[yi F,yi W,.string ta,.string tb,yi k] w (yR w (.bool true)):=by
 replace HM:Hid _:=HM;replace HB:Hid _:=HB;replace HA:Hid _:=HA;replace HR:Hid _:=HR;replace HP:Hid _:=HP;replace HQ:Hid _:=HQ;replace HD:Hid _:=HD;replace HQR:Hid _:=HQR;replace HS:Hid _:=HS;replace HX:Hid _:=HX
 go_enter func5,ntmps5
 have b0:=Below.refl w.heap.size w
 go_wp2_with fail
 refine(HM.out _ b0).mono ?_;rintro zz w1 ⟨rfl,bb2⟩;have b3:=aa b0 bb2;clear b0 bb2 HM
 go_wp2_with fail
 refine(HB.out _ b3).mono ?_;rintro zz w4 ⟨rfl,bb5⟩;have b6:=aa b3 bb5;clear b3 bb5 HB
 go_wp2_with fail
 refine(HA.out _ b6).mono ?_;rintro zz w7 ⟨rfl,bb8⟩;have b9:=aa b6 bb8;clear b6 bb8 HA;have al10:=af w7 (.cells #[yi 1,yi 0,.string ta,yi 1,yi 0,.string tb,yi 3,yi 0,.string ⟨#[]⟩] 37);have q11:=ah w7 [yi 1,yi 0,.string ta,yi 1,yi 0,.string tb,yi 3,yi 0,.string ⟨#[]⟩] 37;have b12:=aa b9 al10
 go_wp2_with fail
 refine(HR.out _ _ b12 q11).mono ?_;rintro zz w13 ⟨g,vc,rfl,rg,hvc,hvm,bb14⟩;have b15:=aa b12 bb14;clear q11 b12 bb14 HR b9 al10;obtain⟨W18,hW17,q19,al16⟩:=cA w13 [yi F,yi W,yi FL,yi 0,.slice (some ⟨g,0,none⟩) 1 vc] 24;replace hW17:Hid _:=hW17;have hl20:w.heap.size≤w13.heap.size:=b15.size;have hl21:=World.block_lt_of_cell? _ _ (rg 0 _ rfl);have q22:=aC rg al16;have b23:=aa b15 al16;clear rg b15 al16
 go_upto_region 4 with fail
 rw[hW17.out];clear hW17
 go_wp2_with fail
 refine(HP.out _ b23).mono ?_;rintro zz w24 ⟨rfl,bb25⟩;have q26:=aC q22 bb25;have q27:=q19.l bb25;have b28:=aa b23 bb25;clear q22 q19 b23 bb25 HP
 go_wp2_with fail
 refine(HQ.out _ b28).mono ?_;rintro zz w29 ⟨rfl,bb30⟩;have q31:=aC q26 bb30;have q32:=q27.l bb30;have b33:=aa b28 bb30;clear q26 q27 b28 bb30 HQ
 go_wp2_with fail
 refine(HD.out _ b33).mono ?_;rintro zz w34 ⟨rfl,bb35⟩;have q36:=aC q31 bb35;have q37:=q32.l bb35;have b38:=aa b33 bb35;clear q31 q32 b33 bb35 HD;have c39:=q36 0 _ rfl;have c40:=q37.c 4 rfl
 go_wp2
 have HV:Hid (1≤vc∧vc≤maxLen):=⟨hvc,hvm⟩;have hS:w.heap.size≤w13.heap.size∧yB w w34∧au w34 (w13.heap.size) 24 [yi F,yi W,yi FL,yi 0,.slice (some ⟨g,0,none⟩) 1 vc]∧w34.rangeAt g 0 [.string sz]:=⟨by omega,b38,q37,q36⟩;clear c39 c40 b38 q36 q37 hvc hvm;generalize w13.heap.size=ad at hS⊢
 go_loopw [23] (fun bv wr=> ∃j:Nat,j≤5∧bv=yi ((2^j:Nat):Int)∧w.heap.size≤ad∧yB w wr∧au wr ad 24 [yi F,yi W,yi FL,yi 0,.slice (some ⟨g,0,none⟩) 1 vc]∧wr.rangeAt g 0 [.string sz]) (fun bv _=>33-(intOf bv).toNat)
 case atStart=>exact⟨0,by omega,rfl,hS⟩
 case round=>
  clear hS;obtain⟨j,hj,rfl,had,bz,qs,rg⟩:=hrel
  by_cases hlt:j<5
  ·obtain⟨qa,ra,qb,rb,e1,e2,e3,e4,hi⟩:=HQR.out j hlt
   have hp1:2^j≤2^4:=Nat.pow_le_pow_right (by omega) (by omega);have hp0:0<2^j:=Nat.pow_pos (by omega);have hp2:2^ (j+1)=2*2^j:=by rw[Nat.pow_succ,Nat.mul_comm]
   obtain⟨B,hB⟩: ∃B:Int,((2^j:Nat):Int)=B:=⟨_,rfl⟩;obtain⟨N,hN⟩: ∃N,2^j=N:=⟨_,rfl⟩;rw[hN] at hp1 hp0 hp2 hB e1 e3⊢;rw[hB] at e1 e3⊢;have hB0: ¬B=0:=by omega
   have hB1:B<32:=by omega
   have hw2:IntKind.i64.wrap (2*B)=2*B:=IntWalk.i64_in _ ⟨by omega,by omega⟩;have HN:Hid (2*B=((2^ (j+1):Nat):Int)∧B=(N:Int)∧0<N):=⟨by rw[hp2,←hB];omega,hB.symm,hp0⟩;replace hN:Hid _:=hN;clear hp1 hp0 hp2 hB;have c2:=qs.c 2 rfl
   by_cases hra:ra=1
   ·have hrb:=hi hra
    clear hi
    go_wp2
    go_roundw
    case rel=>exact⟨j+1,by omega,by rw[←HN.out.1],had,bz,qs,rg⟩
    case measure=>obtain⟨-,h1,h2⟩:=HN.out;subst h1;simp[intOf];omega
   ·clear hi
    go_wp2
    go_roundw
    case rel=>exact⟨j+1,by omega,by rw[←HN.out.1],had,bz,qs,rg⟩
    case measure=>obtain⟨-,h1,h2⟩:=HN.out;subst h1;simp[intOf];omega
  ·obtain rfl:j=5:=by omega
   rw[show((2^5:Nat):Int)=32 from rfl]
   obtain⟨c301,c302,c303,c304,c305⟩:=qs.cs5
   go_wp2_with fail
   refine(HS.out _ _ _ bz rg HV.out.1 HV.out.2).mono ?_;rintro zz w306 ⟨h,vd,rfl,rh,bb307⟩;have b308:=aa bz bb307;clear rg qs bz bb307 HS c301 c302 c303 c304 c305
   go_wp2_with fail
   refine(HX.out _ b308).mono ?_;rintro zz w309 ⟨rfl,bb310⟩;have q311:=aC rh bb310;have b312:=aa b308 bb310;clear rh b308 bb310 HX;have c313:=q311 0 _ rfl
   go_wp2
   go_ret
   exact⟨by first|rfl|simp,b312⟩
theorem run_chk (F W fl tr c:Int)(ob:Nat)(so:Option Addr)(L sc n m:Nat)(w:World)(hc: ¬c=0)
  (HC:yH w 7 #[.agg #[yi F,yi W,yi fl,yi tr,.slice so L sc]] (yi c)):
  yC 13 #[.agg #[yi F,yi W,yi fl,yi tr,.slice so L sc],.slice (some ⟨ob,0,none⟩) n m] w (yR w (.tuple #[.agg #[yi 0,yi 0,yi 0,yi 0,yN],yi 0,yi c])):=by
 replace HC:Hid _:=HC;obtain⟨W4,hW5,q1,q2,b3⟩:=iG w [yi F,yi W,yi fl,yi tr,.slice so L sc] 24 [yi 0,yi 0,yi 0,yi 0,yN] 24;replace hW5:Hid _:=hW5
 go_enter func13,ntmps13
 go_upto_region 1 with fail
 rw[hW5.out];clear hW5;obtain⟨c6,c7,c8,c9,c10⟩:=q1.cs5
 go_wp2_with fail
 refine(HC.out _ b3).mono ?_;rintro zz w11 ⟨rfl,bb12⟩;have q13:=q2.l bb12;have b14:=aa b3 bb12;clear q1 q2 b3 bb12 HC c6 c7 c8 c9 c10;have hf:=dL (P:=Tryz.prog) q13 b14 (by omega) underlying24 rfl (by kernel_rfl) (yi 0) (yi 0) (yi 0) (yi 0) yN;have HH:Hid (_∧_):=⟨hf.1,hf.2.1⟩;obtain⟨⟨z0,z1,z2,z3,z4⟩,y0,y1,y2,y3,y4⟩:=dN q13;clear hf q13 b14
 go_wp2
 obtain⟨hl,bR⟩:=HH.out;exact bodyPost_ret (results_cq results13 rfl rfl rfl hl) rfl ⟨rfl,bR⟩
theorem step_load_err_any (base:Nat)(F W fl tr kk e:Int)(tx:ByteArray)(va:Value)(l:List ByteArray)(w:World)(hT:TxW w)(ha:RdS w va l)(hl:l.length<16)(hP:(psV F tx W).2.2=e)(he: ¬e=0)(hb:base≤w.heap.size):
  yC 29 #[.agg #[yi F,yi W,yi fl,yi tr,va],.agg #[yi 1,yi kk,.string tx]] w (StepE base F W fl tr l e w):=by
 obtain⟨so,sc,rfl⟩:=ha.shape;refine(step_load_err F W fl tr kk e tx so sc l w (decide_eq_false (by omega)) he (fun w1=>opsR_any w1) (fun w1 b=>copB_any _ _ _ _ _ _ l w1 (ha.l b) (by omega) b.size) (fun q vo vc w1 b hbq hq ho=> ?_)).mono fun _ _ ⟨vo,vc,h1,h2,h3⟩=>⟨vo,vc,h1,h2.lower hb,h3⟩
 refine load_err q w.heap.size F W fl tr (psV F tx W).2.1 1 kk e tx (psV F tx W).1 vo l vc w1 hq ho hbq b.size he (fun w2 b2=> ?_)
 have:=tParse_any F tx W w2 (hT.l (aa b b2));unfold mM at this;rw[hP] at this;exact this
theorem flag_bits {f1 f2 f3:Int}(h1:FlagOk f1)(h2:FlagOk f2)(h3:FlagOk f3):
  (∀j:Nat,j<5→ ∃qa ra qb rb:Int,IntKind.i64.wrap (f3.tdiv ((2^j:Nat):Int))=qa∧qa.tmod 2=ra∧IntKind.i64.wrap ((bits .or .i64 (bits .or .i64 f1 f2) f3).tdiv ((2^j:Nat):Int))=qb∧qb.tmod 2=rb∧(ra=1→ ¬rb=0))∧
   badF (bits .or .i64 (bits .or .i64 f1 f2) f3)=false:=by
 unfold FlagOk at h1 h2 h3;have key: ∀b:Bool,(b=true↔b=true):=fun _=>Iff.rfl
 rcases h1 with rfl|rfl|rfl|rfl|rfl<;>rcases h2 with rfl|rfl|rfl|rfl|rfl<;>rcases h3 with rfl|rfl|rfl|rfl|rfl<;>
  exact⟨fun j hj=>by
   rcases(by omega:j=0∨j=1∨j=2∨j=3∨j=4) with rfl|rfl|rfl|rfl|rfl<;>exact⟨_,_,_,_,rfl,rfl,rfl,rfl,by decide+kernel⟩,by decide+kernel⟩
theorem flag_self {f:Int}(h:FlagOk f):bits .or .i64 0 f=f∧bits .and .i64 f 0=0:=by
 unfold FlagOk at h
 rcases h with rfl|rfl|rfl|rfl|rfl<;>exact⟨by decide+kernel,by decide+kernel⟩
theorem ps_way {n:Int}{t:ByteArray}{way:Int}(h:(psV n t way).2.2=0):dK n≠0∧iC way=true∧dF n (psV n t way).1=0:=by
 unfold psV at h⊢
 by_cases fn:dK n=0
 ·rw[if_pos fn] at h
  exact absurd h (by decide)
 rw[if_neg fn] at h⊢
 by_cases hr:raE t≠0
 ·rw[if_pos hr] at h
  exact absurd h hr
 rw[if_neg hr] at h⊢;obtain⟨j1,j2,j3⟩:=fF fn;unfold fitT at h⊢
 split at h
 ·next hc=>
  rw[if_pos hc];refine⟨fn,(Nb hc).2.2, ?_⟩;have:=(dec_of ⟨j1,j2⟩ h).1
  rwa [j3] at this
 ·next hc=>exact absurd h hc
theorem range_one {w:World}{s:ByteArray}{vo:Option Addr}{vc:Nat}{base:Nat}(h:OwnS w base (.slice vo [s].length vc) [s]): ∃g,vo=some ⟨g,0,none⟩∧w.rangeAt g 0 [.string s]∧1≤vc∧vc≤maxLen:=by
 obtain⟨ao,cap,hv,h1,h2,h3⟩:=h.rd;simp only[Value.slice.injEq] at hv;obtain⟨rfl,-,rfl⟩:=hv
 rcases h.2 with⟨h4,h5⟩| ⟨g,cap',cur,h4,-⟩
 ·simp at h5
 ·simp only[Value.slice.injEq] at h4
  obtain⟨rfl,-,-⟩:=h4;obtain⟨b',off,h6,h7⟩:=h3 (by simp);simp only[Option.some.injEq,Addr.mk.injEq] at h6;obtain⟨rfl,rfl,-⟩:=h6;refine⟨_,rfl,fun j v hj=> ?_,by simpa using h1,h2⟩
  have hj0:j=0:=by
   have:=(List.getElem?_eq_some_iff.1 hj).1
   simpa using this
  subst hj0;simp at hj;subst hj;have:=h7 0 (by simp)
  simpa using this
theorem rdS_one {w:World}{g vc:Nat}{s:ByteArray}(h:w.rangeAt g 0 [.string s])(h1:1≤vc)(h2:vc≤maxLen):RdS w (.slice (some ⟨g,0,none⟩) 1 vc) [s]:=
 ⟨_,vc,rfl,by simpa using h1,h2,fun _=>⟨g,0,rfl,fun i hi=>by
  obtain rfl:i=0:=by simpa using hi
  exact h 0 _ rfl⟩⟩
theorem topMachine_walk (F W:Int)(ta tb:ByteArray)(k:Int)(w:World)(hT:TxW w):
  yC 5 #[yi F,yi W,.string ta,.string tb,yi k] w (yR w (.bool true)):=by
 have HM:=fun w1 (b:yB w w1)=>machineBegun_any w1 (hT.l b)
 have HB:=fun w1 (b:yB w w1)=>textBegun_any w1 (hT.l b)
 have HA:=fun w1 (b:yB w w1)=>jx w1 (hT.l b).1
 have HP:=fun w1 (b:yB w w1)=>tParse_any F ta W w1 (hT.l b)
 have HQ:=fun w1 (b:yB w w1)=>tParse_any F tb W w1 (hT.l b)
 unfold mM at HP HQ;have hchk:yJ 7 #[.agg #[yi F,yi W,yi 0,yi 0,.slice none ([]:List ByteArray).length 0]] (yi (chkM F W 0 0 [])):=fun w1=>mcheck_any F W 0 0 _ [] w1 (rdS_nil w1)
 have hcop: ∀w1 base,base≤w1.heap.size→yC 28 #[.agg #[yi F,yi W,yi 0,yi 0,.slice none ([]:List ByteArray).length 0]] w1 (CopB base F W 0 0 [] w1):=fun w1 base hb=>copB_any base F W 0 0 _ [] w1 (rdS_nil w1) (by simp) hb
 by_cases hc:chkM F W 0 0 []=0
 rotate_left
 ·--the state is wrong:so is what is parsed
  have ea: ¬(psV F ta W).2.2=0:=fun h=>by
   obtain⟨h1,h2,-⟩:=ps_way h;apply hc;unfold chkM;rw[if_neg (by simp[h1,h2]),if_neg (by decide),if_neg (by simp),if_neg (by simp)]
  exact topm_e1 _ _ _ _ _ _ F W k ta tb w ea HM HB HA (fun ob w1 b ho=>(run_chk F W 0 0 _ ob none _ 0 _ _ w1 hc (fun w2 _=>hchk w2)).mono fun z w2 ⟨h1,h2⟩=>⟨0,0,0,0,0,_,none,0,0,h1,hc,by decide,h2⟩) HP HQ
 have hchk0:=hchk;rw[hc] at hchk0;obtain⟨hf,hw,-,-,-,-⟩:=chkM_ok hc;obtain⟨j1,j2,j3⟩:=fF hf
 by_cases ea:(psV F ta W).2.2=0
 rotate_left
 ·refine topm_e1 _ _ _ _ _ _ F W k ta tb w ea HM HB HA (fun ob w1 b ho=> ?_) HP HQ
  refine(run_e0 F W 0 (psV F ta W).2.2 0 ob none 0 [] 1 0 1 0 3 0 ta tb ⟨#[]⟩ w1 (beq_eq_false_iff_ne.2 ea) ho (fun w2 _=>hchk0 w2) (fun w2 b2=>hcop w2 _ b2.size) (fun vo vc w2 b2 h2=> ?_)).mono fun z w2 ⟨vo,vc,h1,_,h3⟩=>⟨_,_,_,_,_,_,vo,_,vc,h1,ea,by decide,h3⟩
  exact step_load_err_any _ F W 0 0 0 _ ta _ [] w2 (hT.l (aa b b2)) h2.rd (by simp) rfl ea b2.size
 by_cases eb:(psV F tb W).2.2=0
 rotate_left
 ·rw[ea] at HP
  have fa:=flag_self (ps_flags F ta W);refine topm_e2 _ _ _ _ _ F W k ta tb w eb HM HB HA (fun ob w1 b ho=> ?_) HP HQ
  refine(run_e1 F W 0 (psV F tb W).2.2 0 (psV F ta W).2.1 ob none 0 [] [(psV F ta W).1] 1 0 1 0 3 0 ta tb ⟨#[]⟩ w1 (beq_eq_false_iff_ne.2 eb) ho (fun w2 _=>hchk0 w2) (fun w2 b2=>hcop w2 _ b2.size) (fun vo vc w2 b2 h2=> ?_) (fun vo vc w2 b2 h2=> ?_)).mono fun z w2 ⟨vo,vc,h1,_,h3⟩=>⟨_,_,_,_,_,_,vo,_,vc,h1,eb,by decide,h3⟩
  ·exact(step_load_any F W 0 0 0 _ _ ta _ _ [] w2 (hT.l (aa b b2)) h2.rd (by simp) (by rw[←ea]) fa.1 fa.2 fa.1).mono fun _ _ h=>h.b b2.size
  ·exact step_load_err_any _ F W _ 0 0 _ tb _ _ w2 (hT.l (aa b b2)) h2.rd (by simp) rfl eb b2.size
 obtain⟨-,-,pa⟩:=ps_way ea;obtain⟨-,-,pb⟩:=ps_way eb;rw[ea] at HP;rw[eb] at HQ;have fa:=flag_self (ps_flags F ta W);have fb:=flag_self (ps_flags F tb W);have hk8:1≤F.toNat∧F.toNat≤8:=⟨j1,j2⟩;have AT:=add_tells hk8 hw (a:=(psV F ta W).1) (b:=(psV F tb W).1) (by rw[j3];exact pa) (by rw[j3];exact pb);rw[j3] at AT;obtain⟨ez,fz0,pz⟩:=AT;have fz:=flag_self fz0;have HD:=fun w1 (b:yB w w1)=>DI F W (psV F ta W).1 (psV F tb W).1 w1 (hT.l b).1
 unfold mM at HD;rw[ez] at HD;obtain⟨hbits,hbad⟩:=flag_bits (ps_flags F ta W) (ps_flags F tb W) fz0;have hR: ∀ob w1,yB w w1→au w1 ob 37 [yi 1,yi 0,.string ta,yi 1,yi 0,.string tb,yi 3,yi 0,.string ⟨#[]⟩]→yC 13 #[.agg #[yi F,yi W,yi 0,yi 0,yN],.slice (some ⟨ob,0,none⟩) 3 3] w1 (RunO F W (bits .or .i64 (bits .or .i64 (psV F ta W).2.1 (psV F tb W).2.1) (jV F W [(psV F ta W).1,(psV F tb W).1] (OX F W (psV F ta W).1 (psV F tb W).1)).2.1) (jV F W [(psV F ta W).1,(psV F tb W).1] (OX F W (psV F ta W).1 (psV F tb W).1)).1 w1):=fun ob w1 b ho=>by
  refine(run_ok F W 0 0 (psV F ta W).2.1 (bits .or .i64 (psV F ta W).2.1 (psV F tb W).2.1) (bits .or .i64 (bits .or .i64 (psV F ta W).2.1 (psV F tb W).2.1) (jV F W [(psV F ta W).1,(psV F tb W).1] (OX F W (psV F ta W).1 (psV F tb W).1)).2.1) ob none 0 [] [(psV F ta W).1] [(psV F ta W).1,(psV F tb W).1] [(jV F W [(psV F ta W).1,(psV F tb W).1] (OX F W (psV F ta W).1 (psV F tb W).1)).1] 1 0 1 0 3 0 ta tb ⟨#[]⟩ w1 ho (fun w2 _=>hchk0 w2) (fun w2 b2=>hcop w2 _ b2.size) (fun vo vc w2 b2 h2=> ?_) (fun vo vc w2 b2 h2=> ?_) (fun vo vc w2 b2 h2=> ?_)).mono fun z w2 ⟨vo,vc,h1,h2,h3⟩=> ?_
  ·exact(step_load_any F W 0 0 0 _ _ ta _ _ [] w2 (hT.l (aa b b2)) h2.rd (by simp) (by rw[←ea]) fa.1 fa.2 fa.1).mono fun _ _ h=>h.b b2.size
  ·exact(step_load_any F W _ 0 0 _ _ tb _ _ [(psV F ta W).1] w2 (hT.l (aa b b2)) h2.rd (by simp) (by rw[←eb]) fb.1 fb.2 rfl).mono fun _ _ h=>h.b b2.size
  ·exact(step_add_any F W _ 0 0 _ _ ⟨#[]⟩ _ _ _ _ [] w2 (hT.l (aa b b2)).1 h2.rd (by simp) (by rw[←ez]) fz.1 fz.2 rfl).mono fun _ _ h=>h.b b2.size
  ·obtain⟨g,rfl,hg,c1,c2⟩:=range_one h2
   exact⟨g,vc,h1,hg,c1,c2,h3⟩
 have hsz:chkM F W (bits .or .i64 (bits .or .i64 (psV F ta W).2.1 (psV F tb W).2.1) (jV F W [(psV F ta W).1,(psV F tb W).1] (OX F W (psV F ta W).1 (psV F tb W).1)).2.1) 0 [(jV F W [(psV F ta W).1,(psV F tb W).1] (OX F W (psV F ta W).1 (psV F tb W).1)).1]=0:=by
  have hs:(jV F W [(psV F ta W).1,(psV F tb W).1] (OX F W (psV F ta W).1 (psV F tb W).1)).1.size=szN F.toNat:=by
   unfold dF at pz;rw[if_neg hf] at pz
   by_cases c:(jV F W [(psV F ta W).1,(psV F tb W).1] (OX F W (psV F ta W).1 (psV F tb W).1)).1.size=szN F.toNat
   ·exact c
   ·rw[if_neg c] at pz
    exact absurd pz (by decide)
  unfold chkM;rw[if_neg (by simp[hf,hw]),if_neg (by rw[hbad];decide),if_neg (by simp),if_neg (by simp[offS,hs])]
 have HX:=fun w1 (b:yB w w1)=>tPrint_any F (jV F W [(psV F ta W).1,(psV F tb W).1] (OX F W (psV F ta W).1 (psV F tb W).1)).1 k w1 (hT.l b)
 have HC:=fun(g vc:Nat) w1 (h:w1.rangeAt g 0 [.string (jV F W [(psV F ta W).1,(psV F tb W).1] (OX F W (psV F ta W).1 (psV F tb W).1)).1]) (c1:1≤vc) (c2:vc≤maxLen) w2 (b2:yB w1 w2)=>by
  have:=mcheck_any F W (bits .or .i64 (bits .or .i64 (psV F ta W).2.1 (psV F tb W).2.1) (jV F W [(psV F ta W).1,(psV F tb W).1] (OX F W (psV F ta W).1 (psV F tb W).1)).2.1) 0 _ _ w2 ((rdS_one h c1 c2).l b2);rw[hsz] at this;exact this
 generalize hzz:(jV F W [(psV F ta W).1,(psV F tb W).1] (OX F W (psV F ta W).1 (psV F tb W).1)).1=zz at*
 by_cases hk:k<1∨60<k
 ·have hp3:ptV F zz k=(⟨#[]⟩,3):=by
   unfold ptV;rw[if_neg (fun c=>c pz),if_pos hk]
  rw[hp3] at HX;refine topm_dig _ _ zz _ _ _ _ _ F W k ta tb w HM HB HA hR HP HQ HD hbits (fun g vc w1 b h c1 c2=> ?_) HX
  by_cases hk1:k<1
  ·exact show_low F W _ 0 k _ 1 vc w1 hk1 (fun w2 b2=>HC g vc w1 h c1 c2 w2 b2)
  ·exact show_high F W _ 0 k _ 1 vc w1 hk1 (by omega) (fun w2 b2=>HC g vc w1 h c1 c2 w2 b2)
 ·have hp0:(ptV F zz k).2=0:=pt_zero pz (by omega) (by omega)
  rw[hp0] at HX;refine topm_all _ _ zz _ _ _ _ _ F W k ta tb w HM HB HA hR HP HQ HD hbits (fun g vc w1 b h c1 c2=> ?_) HX
  refine(show_all (fun _=>(ptV F zz k).1) (fun _=>0) [zz] F W _ 0 k _ 1 vc w1 (rdS_one h c1 c2) rfl (by omega) (by omega) (by omega) (fun w2 b2=>HC g vc w1 h c1 c2 w2 b2) (fun i hi w2 b2=> ?_)).mono ?_
  ·obtain rfl:i=0:=by simpa using hi
   exact HX w2 (aa b b2)
  ·rintro z w2 (⟨j,-,hj,-⟩| ⟨-,vo,vd,h1,h2,h3⟩)
   ·exact absurd rfl hj
   ·obtain⟨g2,rfl,hg,-,-⟩:=range_one (s:=(ptV F zz k).1) (vo:=vo) (vc:=vd) h2
    exact⟨g2,vd,h1,hg,h3⟩
end Go.Proofs.YtdhpndnncmagiaaGreatDoor
