/-
  Texts laid together: Mc13.
-/
import Derived.Test.YtdhpndnncmagiaaGreatDoorMz02
set_option maxRecDepth 100000
set_option maxHeartbeats 3200000
namespace Go.Proofs.YtdhpndnncmagiaaGreatDoor
open _root_.Go.Proofs.Tryz
open Go.RowKit
theorem OpsW.l {r a b c d:Nat}{w w':World}(h:OpsW r a b c d w)(bl:yB w w'):OpsW r a b c d w':=by
 obtain⟨h0,h1,h2,h3,h4⟩:=h;have hr:r<w.heap.size:=by
  rw[Array.getElem?_eq_some_iff] at h0;exact h0.1
 exact⟨(bl.block r hr).trans h0,h1.l bl,h2.l bl,h3.l bl,h4.l bl⟩
theorem OpsW.off {r a b c d q:Nat}{w w':World}{ty:TypeId}{vs:List Value}(h:OpsW r a b c d w)(bu:But q w w')(hl:au w q ty vs)(hty:ty≠41)(_hb:0≤q):OpsW r a b c d w':=by
 obtain⟨h0,h1,h2,h3,h4⟩:=h;have ne: ∀x vs',au w x 41 vs'→x≠q:=fun x vs' hx e=>by
  subst e;unfold au at hx hl;rw[hl] at hx;simp only[Option.some.injEq,Obj.cells.injEq] at hx;exact hty hx.2.1
 have hrq:r≠q:=fun e=>by
  subst e;unfold au at hl;rw[hl] at h0
  cases h0
 exact⟨(bu.block r hrq).trans h0,bu.loc h1 (ne _ _ h1),bu.loc h2 (ne _ _ h2),bu.loc h3 (ne _ _ h3),bu.loc h4 (ne _ _ h4)⟩
def OpsR (w:World)(z:Ending)(w':World):Prop:= ∃r a b c d,z= .returned (.map (some r))∧OpsW r a b c d w'∧yB w w'
def CopB (base:Nat)(F W fl tr:Int)(l:List ByteArray)(w:World)(z:Ending)(w':World):Prop:=
 ∃vo vc,z= .returned (.agg #[yi F,yi W,yi fl,yi tr,.slice vo l.length vc])∧OwnS w' base (.slice vo l.length vc) l∧yB w w'
def StepR (F W fl tr:Int)(l:List ByteArray)(w:World)(z:Ending)(w':World):Prop:=
 ∃vo vc,z= .returned (.tuple #[.agg #[yi F,yi W,yi fl,yi tr,.slice vo l.length vc],yi 0])∧OwnS w' w.heap.size (.slice vo l.length vc) l∧yB w w'
theorem step_load (F W fl tr told kk fl2:Int)(tx:ByteArray)(so:Option Addr)(sc:Nat)(l l2:List ByteArray)(w:World)(hn:decide ((l.length:Int)<0)=false)(ht:bits .and .i64 told tr=0)(hf:bits .or .i64 fl told=fl2)
  (HO: ∀w1,yC 57 #[] w1 (OpsR w1))
  (HP: ∀w1,yB w w1→yC 28 #[.agg #[yi F,yi W,yi fl,yi tr,.slice so l.length sc]] w1 (CopB w.heap.size F W fl tr l w1))
  (HC: ∀q vo vc w1,yB w w1→w.heap.size≤q→au w1 q 130 [yi F,yi W,yi fl,yi tr,.slice vo l.length vc,yi 0]→OwnS w1 w.heap.size (.slice vo l.length vc) l→yC 93 #[.pointer (some ⟨q,0,none⟩),.agg #[yi 1,yi kk,.string tx]] w1 (PushR q w.heap.size F W fl tr told l2 w1)):
  yC 29 #[.agg #[yi F,yi W,yi fl,yi tr,.slice so l.length sc],.agg #[yi 1,yi kk,.string tx]] w (StepR F W fl2 tr l2 w):=by
 replace HO:Hid _:=HO;replace HP:Hid _:=HP;replace HC:Hid _:=HC;replace hf:Hid _:=hf;replace ht:Hid _:=ht;obtain⟨W5,hW6,q1,q2,q3,b4⟩:=lG w [yi F,yi W,yi fl,yi tr,.slice so l.length sc] 24 [yi 1,yi kk,.string tx] 37 [yi 0,yi 0,yi 0,yi 0,yN] 24;replace hW6:Hid _:=hW6
 go_enter func29,ntmps29
 go_upto_region 1 with fail
 rw[hW6.out];clear hW6
 go_upto_region 1 with fail
 have bW7:yB W5 W5.drew:=(Below.refl _ _).drew;have q8:=q1.l bW7;have q9:=q2.l bW7;have q10:=q3.l bW7;have b11:=aa b4 bW7;clear q1 q2 q3 b4 bW7;refine wp_region_held_drew (S:=fun wq=>au wq (w.heap.size+1) 37 [yi 1,yi kk,.string tx]) (by kernel_rfl) q9 (fun hS0=> ?_)
 generalize W5.drew=WD12 at q8 q9 q10 b11 hS0⊢;refine tq 1 (.pointer (some ⟨w.heap.size+1,0,none⟩)) rfl (fun _ _=>by kernel_rfl) hS0 ?_
 refine tq 2 (yi 1) rfl (fun _ hw0=>gU 3 (.tmp 12) rfl (w.heap.size+1) 0 (by kernel_rfl) _ _ underlying3 rfl (hw0.c 0 rfl)) hS0 ?_
 refine wpAnyH_ready (rs:=[0,7]) (by kernel_rfl) (by simp) ?_;refine AllReadyH.cons rfl (fun K hK=> ?_) (AllReadyH.cons rfl (fun K hK=> ?_) AllReadyH.nil)
 ·go_simp
  refine(HO.out _).mono ?_;rintro zz w13 ⟨mr,ca,cb,cc,cd,rfl,r1x15,bb14⟩;have q16:=q8.l bb14;have q17:=q9.l bb14;have q18:=q10.l bb14;have b19:=aa b11 bb14;clear q8 q9 q10 b11 bb14 HO;refine hK.out _ _ q17 (fun hS20=> ?_)
  clear hK K;refine wpAnyH_ready (rs:=[3,7]) (by kernel_rfl) (by simp) ?_;refine AllReadyH.cons rfl (fun K hK=> ?_) (AllReadyH.cons rfl (fun K hK=> ?_) AllReadyH.nil)
  ·rw[if_pos (by kernel_rfl)]
   refine wp_yield (.tuple #[.agg #[yi 0,.func (.func 93) #[] #[]],.bool true]) (xlook 127 (.tmp 11) (.tmp 13) true rfl _ _ (by kernel_rfl) (by kernel_rfl) (find_ok underlying127 underlying3 r1x15.1 1 (i:=0) rfl)) ?_;refine hK.out _ _ q17 (fun hS21=> ?_)
   clear hK K;refine tq 4 (.tuple #[.agg #[yi 0,.func (.func 93) #[] #[]],.bool true]) rfl (fun _ _=>by kernel_rfl) hS21 ?_
   refine tq 5 (.agg #[yi 0,.func (.func 93) #[] #[]]) rfl (fun _ _=>by go_simp) hS21 ?_
   refine tq 6 (.bool true) rfl (fun _ _=>by go_simp) hS21 ?_
   refine wpAnyH_ready (rs:=[7]) (by kernel_rfl) (by simp) ?_;refine AllReadyH.cons rfl (fun K hK=> ?_) AllReadyH.nil
   go_simp
   have al22:=af w13 (.cells #[yi 0,.nilFunc] 125);have q23:=ah w13 [yi 0,.nilFunc] 125;have hl26:w.heap.size≤w13.heap.size:=b19.size;have hl27:=q16.lt;have hl28:=q17.lt;have hl29:=q18.lt;have q30:=q16.l al22;have q31:=q17.l al22;have q32:=q18.l al22;have b33:=aa b19 al22;refine hK.out _ _ q31 (fun hS34=> ?_)
   clear hK K;clear q16 q17 q18 r1x15 b19 al22;generalize w13.alloc (.cells #[yi 0,.nilFunc] 125)=WN24 at q30 q31 q32 q23 b33 hS34⊢;generalize w13.heap.size=PQ25 at q23 hl26 hl27 hl28 hl29⊢;refine wpAnyH_ready (rs:=[8]) (by kernel_rfl) (by simp) ?_;refine AllReadyH.cons rfl (fun K hK=> ?_) AllReadyH.nil
   have bu:But PQ25 WN24 (WN24.setCells PQ25 0 [yi 0,.func (.func 93) #[] #[]]):=de _ _ _ _;have hth:WN24.there PQ25 0 2:=dD q23;have q35:au (WN24.setCells PQ25 0 [yi 0,.func (.func 93) #[] #[]]) PQ25 125 [yi 0,.func (.func 93) #[] #[]]:=q23.sets _ rfl;have q36:=bu.loc q30 (by omega);have q37:=bu.loc q31 (by omega);have q38:=bu.loc q32 (by omega);have b39:=bu.below b33 (by omega);rw[if_pos (by kernel_rfl)];refine wp_store_mid 125 (.tmp 6) (.tmp 15) rfl PQ25 0 #[yi 0,.func (.func 93) #[] #[]] (by kernel_rfl) (by kernel_rfl) hth (by kernel_rfl) (by simp[Value.oneCell']) ?_;refine hK.out _ _ q37 (fun hS40=> ?_)
   clear hK K;clear q23 q30 q31 q32 b33 bu hth;change wpAnyH _ _ _ _ _ _ _ _ (World.setCells WN24 PQ25 0 [yi 0,.func (.func 93) #[] #[]]);generalize World.setCells WN24 PQ25 0 [yi 0,.func (.func 93) #[] #[]]=WS41 at q36 q37 q38 q35 b39 hS40⊢;refine tq 9 (.bool true) rfl (fun _ _=>by kernel_rfl) hS40 ?_
   refine wpAnyH_done (by kernel_rfl) ?_ _;clear hS0 hS20 hS21 hS34 hS40;simp only[Act.put,List.getElem_toArray,List.getElem_cons_succ,List.getElem_cons_zero,List.setIfInBounds_toArray,List.set_cons_zero,List.set_cons_succ];obtain⟨c42,c43,c44,c45,c46⟩:=q36.cs5;have c47:=q35.c 0 rfl
   go_wp2_with fail
   refine(HP.out _ b39).mono ?_;rintro zz w48 ⟨vo,vc,rfl,r1x50,bb49⟩;have q51:=q36.l bb49;have q52:=q37.l bb49;have q53:=q38.l bb49;have q54:=q35.l bb49;have b55:=aa b39 bb49;clear q36 q37 q38 q35 b39 bb49 HP c42 c43 c44 c45 c46 c47;obtain⟨W58,hW57,q59,al56⟩:=cA w48 [yi F,yi W,yi fl,yi tr,.slice vo l.length vc,yi 0] 130;replace hW57:Hid _:=hW57;have hl60:w.heap.size≤w48.heap.size:=b55.size;have hl61:=q51.lt;have hl62:=q52.lt;have hl63:=q53.lt;have hl64:=q54.lt;have q65:=q51.l al56;have q66:=q52.l al56;have q67:=q53.l al56;have q68:=q54.l al56;have r69:=r1x50.l al56;have b70:=aa b55 al56;clear q51 q52 q53 q54 r1x50 b55 al56
   go_upto_region 7 with fail
   rw[hW57.out];clear hW57;obtain⟨c71,c72,c73⟩:=q66.cs3;have c74:=q68.c 1 rfl
   go_wp2_with fail
   refine(HC.out _ _ _ _ b70 (by omega) q59 r69).mono ?_;rintro zz w75 ⟨uo,uc,rfl,l5,o5,kp⟩;clear c71 c72 c73 c74;have bz:=b70.trans kp.1;have qa:=kp.2 _ _ _ (by omega) (by decide) q65;have qc:=kp.2 _ _ _ (by omega) (by decide) q67;replace hf:=hf.out;replace ht:=ht.out;clear kp HC q65 q67 q59 b70 r69;have c202:=qa.c 3 rfl;have c203:=l5.c 2 rfl;have c204:=l5.c 5 rfl;have bu:=ag w75 w48.heap.size 2 (yi fl2);have q201:au (w75.setCell ⟨w48.heap.size,2,none⟩ (yi fl2)) w48.heap.size 130 [yi F,yi W,yi fl2,yi tr,.slice uo l2.length uc,yi told]:=(l5.set 2 (yi fl2));have c205:=l5.c 2 rfl;have y206:=l5.f 2;have q207:=bu.loc qc (by omega);have r208:=o5.off bu l5 (by simp) (by omega);have b209:=bu.below bz (by omega);clear bu
   go_upto_region 15 with fail
   generalize w75.setCell ⟨w48.heap.size,2,none⟩ (yi fl2)=W210 at q207 q201 r208 b209⊢;clear l5 qa qc o5 bz c202 c203 c204 c205 y206;have c211:=q201.c 0 rfl;have c212:=q201.c 1 rfl;have c213:=q201.c 2 rfl;have c214:=q201.c 3 rfl;have c215:=q201.c 4 rfl;have hf:=dL (P:=Tryz.prog) q207 b209 (by omega) underlying24 rfl (by kernel_rfl) (yi F) (yi W) (yi fl2) (yi tr) (.slice uo l2.length uc);have HH:Hid (_∧_∧_):=⟨hf.1,r208.off hf.2.2 q207 (by simp) (by omega),hf.2.1⟩;obtain⟨⟨z0,z1,z2,z3,z4⟩,y0,y1,y2,y3,y4⟩:=dN q207;clear hf q207 q201 r208 b209
   go_wp2
   obtain⟨hl,rRu,bR⟩:=HH.out;exact bodyPost_ret (aj results29 rfl rfl hl) rfl ⟨uo,uc,rfl,rRu,bR⟩
  ·go_simp
   have al21:=af w13 (.cells #[yi 0,.nilFunc] 125);have q22:=ah w13 [yi 0,.nilFunc] 125;have hl25:w.heap.size≤w13.heap.size:=b19.size;have hl26:=q16.lt;have hl27:=q17.lt;have hl28:=q18.lt;have q29:=q16.l al21;have q30:=q17.l al21;have q31:=q18.l al21;have r32:=r1x15.l al21;have b33:=aa b19 al21;refine hK.out _ _ q30 (fun hS34=> ?_)
   clear hK K;clear q16 q17 q18 r1x15 b19 al21;generalize w13.alloc (.cells #[yi 0,.nilFunc] 125)=WN23 at q29 q30 q31 q22 r32 b33 hS34⊢;generalize w13.heap.size=PQ24 at q22 hl25 hl26 hl27 hl28⊢;refine wpAnyH_ready (rs:=[3]) (by kernel_rfl) (by simp) ?_;refine AllReadyH.cons rfl (fun K hK=> ?_) AllReadyH.nil
   rw[if_pos (by kernel_rfl)];refine wp_yield (.tuple #[.agg #[yi 0,.func (.func 93) #[] #[]],.bool true]) (xlook 127 (.tmp 11) (.tmp 13) true rfl _ _ (by kernel_rfl) (by kernel_rfl) (find_ok underlying127 underlying3 r32.1 1 (i:=0) rfl)) ?_;refine hK.out _ _ q30 (fun hS35=> ?_)
   clear hK K;refine tq 4 (.tuple #[.agg #[yi 0,.func (.func 93) #[] #[]],.bool true]) rfl (fun _ _=>by kernel_rfl) hS35 ?_
   refine tq 5 (.agg #[yi 0,.func (.func 93) #[] #[]]) rfl (fun _ _=>by go_simp) hS35 ?_
   refine tq 6 (.bool true) rfl (fun _ _=>by go_simp) hS35 ?_
   refine wpAnyH_ready (rs:=[8]) (by kernel_rfl) (by simp) ?_;refine AllReadyH.cons rfl (fun K hK=> ?_) AllReadyH.nil
   have bu:But PQ24 WN23 (WN23.setCells PQ24 0 [yi 0,.func (.func 93) #[] #[]]):=de _ _ _ _;have hth:WN23.there PQ24 0 2:=dD q22;have q36:au (WN23.setCells PQ24 0 [yi 0,.func (.func 93) #[] #[]]) PQ24 125 [yi 0,.func (.func 93) #[] #[]]:=q22.sets _ rfl;have q37:=bu.loc q29 (by omega);have q38:=bu.loc q30 (by omega);have q39:=bu.loc q31 (by omega);have b40:=bu.below b33 (by omega);rw[if_pos (by kernel_rfl)];refine wp_store_mid 125 (.tmp 6) (.tmp 15) rfl PQ24 0 #[yi 0,.func (.func 93) #[] #[]] (by kernel_rfl) (by kernel_rfl) hth (by kernel_rfl) (by simp[Value.oneCell']) ?_;refine hK.out _ _ q38 (fun hS41=> ?_)
   clear hK K;clear q22 r32 q29 q30 q31 b33 bu hth;change wpAnyH _ _ _ _ _ _ _ _ (World.setCells WN23 PQ24 0 [yi 0,.func (.func 93) #[] #[]]);generalize World.setCells WN23 PQ24 0 [yi 0,.func (.func 93) #[] #[]]=WS42 at q37 q38 q39 q36 b40 hS41⊢;refine tq 9 (.bool true) rfl (fun _ _=>by kernel_rfl) hS41 ?_
   refine wpAnyH_done (by kernel_rfl) ?_ _;clear hS0 hS20 hS34 hS35 hS41;simp only[Act.put,List.getElem_toArray,List.getElem_cons_succ,List.getElem_cons_zero,List.setIfInBounds_toArray,List.set_cons_zero,List.set_cons_succ];obtain⟨c43,c44,c45,c46,c47⟩:=q37.cs5;have c48:=q36.c 0 rfl
   go_wp2_with fail
   refine(HP.out _ b40).mono ?_;rintro zz w49 ⟨vo,vc,rfl,r1x51,bb50⟩;have q52:=q37.l bb50;have q53:=q38.l bb50;have q54:=q39.l bb50;have q55:=q36.l bb50;have b56:=aa b40 bb50;clear q37 q38 q39 q36 b40 bb50 HP c43 c44 c45 c46 c47 c48;obtain⟨W59,hW58,q60,al57⟩:=cA w49 [yi F,yi W,yi fl,yi tr,.slice vo l.length vc,yi 0] 130;replace hW58:Hid _:=hW58;have hl61:w.heap.size≤w49.heap.size:=b56.size;have hl62:=q52.lt;have hl63:=q53.lt;have hl64:=q54.lt;have hl65:=q55.lt;have q66:=q52.l al57;have q67:=q53.l al57;have q68:=q54.l al57;have q69:=q55.l al57;have r70:=r1x51.l al57;have b71:=aa b56 al57;clear q52 q53 q54 q55 r1x51 b56 al57
   go_upto_region 7 with fail
   rw[hW58.out];clear hW58;obtain⟨c72,c73,c74⟩:=q67.cs3;have c75:=q69.c 1 rfl
   go_wp2_with fail
   refine(HC.out _ _ _ _ b71 (by omega) q60 r70).mono ?_;rintro zz w76 ⟨uo,uc,rfl,l5,o5,kp⟩;clear c72 c73 c74 c75;have bz:=b71.trans kp.1;have qa:=kp.2 _ _ _ (by omega) (by decide) q66;have qc:=kp.2 _ _ _ (by omega) (by decide) q68;replace hf:=hf.out;replace ht:=ht.out;clear kp HC q66 q68 q60 b71 r70;have c202:=qa.c 3 rfl;have c203:=l5.c 2 rfl;have c204:=l5.c 5 rfl;have bu:=ag w76 w49.heap.size 2 (yi fl2);have q201:au (w76.setCell ⟨w49.heap.size,2,none⟩ (yi fl2)) w49.heap.size 130 [yi F,yi W,yi fl2,yi tr,.slice uo l2.length uc,yi told]:=(l5.set 2 (yi fl2));have c205:=l5.c 2 rfl;have y206:=l5.f 2;have q207:=bu.loc qc (by omega);have r208:=o5.off bu l5 (by simp) (by omega);have b209:=bu.below bz (by omega);clear bu
   go_upto_region 15 with fail
   generalize w76.setCell ⟨w49.heap.size,2,none⟩ (yi fl2)=W210 at q207 q201 r208 b209⊢;clear l5 qa qc o5 bz c202 c203 c204 c205 y206;have c211:=q201.c 0 rfl;have c212:=q201.c 1 rfl;have c213:=q201.c 2 rfl;have c214:=q201.c 3 rfl;have c215:=q201.c 4 rfl;have hf:=dL (P:=Tryz.prog) q207 b209 (by omega) underlying24 rfl (by kernel_rfl) (yi F) (yi W) (yi fl2) (yi tr) (.slice uo l2.length uc);have HH:Hid (_∧_∧_):=⟨hf.1,r208.off hf.2.2 q207 (by simp) (by omega),hf.2.1⟩;obtain⟨⟨z0,z1,z2,z3,z4⟩,y0,y1,y2,y3,y4⟩:=dN q207;clear hf q207 q201 r208 b209
   go_wp2
   obtain⟨hl,rRu,bR⟩:=HH.out;exact bodyPost_ret (aj results29 rfl rfl hl) rfl ⟨uo,uc,rfl,rRu,bR⟩
 ·go_simp
  have al13:=af WD12 (.cells #[yi 0,.nilFunc] 125);have q14:=ah WD12 [yi 0,.nilFunc] 125;have hl17:w.heap.size≤WD12.heap.size:=b11.size;have hl18:=q8.lt;have hl19:=q9.lt;have hl20:=q10.lt;have q21:=q8.l al13;have q22:=q9.l al13;have q23:=q10.l al13;have b24:=aa b11 al13;refine hK.out _ _ q22 (fun hS25=> ?_)
  clear hK K;clear q8 q9 q10 b11 al13;generalize WD12.alloc (.cells #[yi 0,.nilFunc] 125)=WN15 at q21 q22 q23 q14 b24 hS25⊢;generalize WD12.heap.size=PQ16 at q14 hl17 hl18 hl19 hl20⊢;refine wpAnyH_ready (rs:=[0]) (by kernel_rfl) (by simp) ?_;refine AllReadyH.cons rfl (fun K hK=> ?_) AllReadyH.nil
  go_simp
  refine(HO.out _).mono ?_;rintro zz w26 ⟨mr,ca,cb,cc,cd,rfl,r1x28,bb27⟩;have q29:=q21.l bb27;have q30:=q22.l bb27;have q31:=q23.l bb27;have q32:=q14.l bb27;have b33:=aa b24 bb27;clear q21 q22 q23 q14 b24 bb27 HO;refine hK.out _ _ q30 (fun hS34=> ?_)
  clear hK K;refine wpAnyH_ready (rs:=[3]) (by kernel_rfl) (by simp) ?_;refine AllReadyH.cons rfl (fun K hK=> ?_) AllReadyH.nil
  rw[if_pos (by kernel_rfl)];refine wp_yield (.tuple #[.agg #[yi 0,.func (.func 93) #[] #[]],.bool true]) (xlook 127 (.tmp 11) (.tmp 13) true rfl _ _ (by kernel_rfl) (by kernel_rfl) (find_ok underlying127 underlying3 r1x28.1 1 (i:=0) rfl)) ?_;refine hK.out _ _ q30 (fun hS35=> ?_)
  clear hK K;refine tq 4 (.tuple #[.agg #[yi 0,.func (.func 93) #[] #[]],.bool true]) rfl (fun _ _=>by kernel_rfl) hS35 ?_
  refine tq 5 (.agg #[yi 0,.func (.func 93) #[] #[]]) rfl (fun _ _=>by go_simp) hS35 ?_
  refine tq 6 (.bool true) rfl (fun _ _=>by go_simp) hS35 ?_
  refine wpAnyH_ready (rs:=[8]) (by kernel_rfl) (by simp) ?_;refine AllReadyH.cons rfl (fun K hK=> ?_) AllReadyH.nil
  have bu:But PQ16 w26 (w26.setCells PQ16 0 [yi 0,.func (.func 93) #[] #[]]):=de _ _ _ _;have hth:w26.there PQ16 0 2:=dD q32;have q36:au (w26.setCells PQ16 0 [yi 0,.func (.func 93) #[] #[]]) PQ16 125 [yi 0,.func (.func 93) #[] #[]]:=q32.sets _ rfl;have q37:=bu.loc q29 (by omega);have q38:=bu.loc q30 (by omega);have q39:=bu.loc q31 (by omega);have b40:=bu.below b33 (by omega);rw[if_pos (by kernel_rfl)];refine wp_store_mid 125 (.tmp 6) (.tmp 15) rfl PQ16 0 #[yi 0,.func (.func 93) #[] #[]] (by kernel_rfl) (by kernel_rfl) hth (by kernel_rfl) (by simp[Value.oneCell']) ?_;refine hK.out _ _ q38 (fun hS41=> ?_)
  clear hK K;clear q32 r1x28 q29 q30 q31 b33 bu hth;change wpAnyH _ _ _ _ _ _ _ _ (World.setCells w26 PQ16 0 [yi 0,.func (.func 93) #[] #[]]);generalize World.setCells w26 PQ16 0 [yi 0,.func (.func 93) #[] #[]]=WS42 at q37 q38 q39 q36 b40 hS41⊢;refine tq 9 (.bool true) rfl (fun _ _=>by kernel_rfl) hS41 ?_
  refine wpAnyH_done (by kernel_rfl) ?_ _;clear hS0 hS25 hS34 hS35 hS41;simp only[Act.put,List.getElem_toArray,List.getElem_cons_succ,List.getElem_cons_zero,List.setIfInBounds_toArray,List.set_cons_zero,List.set_cons_succ];obtain⟨c43,c44,c45,c46,c47⟩:=q37.cs5;have c48:=q36.c 0 rfl
  go_wp2_with fail
  refine(HP.out _ b40).mono ?_;rintro zz w49 ⟨vo,vc,rfl,r1x51,bb50⟩;have q52:=q37.l bb50;have q53:=q38.l bb50;have q54:=q39.l bb50;have q55:=q36.l bb50;have b56:=aa b40 bb50;clear q37 q38 q39 q36 b40 bb50 HP c43 c44 c45 c46 c47 c48;obtain⟨W59,hW58,q60,al57⟩:=cA w49 [yi F,yi W,yi fl,yi tr,.slice vo l.length vc,yi 0] 130;replace hW58:Hid _:=hW58;have hl61:w.heap.size≤w49.heap.size:=b56.size;have hl62:=q52.lt;have hl63:=q53.lt;have hl64:=q54.lt;have hl65:=q55.lt;have q66:=q52.l al57;have q67:=q53.l al57;have q68:=q54.l al57;have q69:=q55.l al57;have r70:=r1x51.l al57;have b71:=aa b56 al57;clear q52 q53 q54 q55 r1x51 b56 al57
  go_upto_region 7 with fail
  rw[hW58.out];clear hW58;obtain⟨c72,c73,c74⟩:=q67.cs3;have c75:=q69.c 1 rfl
  go_wp2_with fail
  refine(HC.out _ _ _ _ b71 (by omega) q60 r70).mono ?_;rintro zz w76 ⟨uo,uc,rfl,l5,o5,kp⟩;clear c72 c73 c74 c75;have bz:=b71.trans kp.1;have qa:=kp.2 _ _ _ (by omega) (by decide) q66;have qc:=kp.2 _ _ _ (by omega) (by decide) q68;replace hf:=hf.out;replace ht:=ht.out;clear kp HC q66 q68 q60 b71 r70;have c202:=qa.c 3 rfl;have c203:=l5.c 2 rfl;have c204:=l5.c 5 rfl;have bu:=ag w76 w49.heap.size 2 (yi fl2);have q201:au (w76.setCell ⟨w49.heap.size,2,none⟩ (yi fl2)) w49.heap.size 130 [yi F,yi W,yi fl2,yi tr,.slice uo l2.length uc,yi told]:=(l5.set 2 (yi fl2));have c205:=l5.c 2 rfl;have y206:=l5.f 2;have q207:=bu.loc qc (by omega);have r208:=o5.off bu l5 (by simp) (by omega);have b209:=bu.below bz (by omega);clear bu
  go_upto_region 15 with fail
  generalize w76.setCell ⟨w49.heap.size,2,none⟩ (yi fl2)=W210 at q207 q201 r208 b209⊢;clear l5 qa qc o5 bz c202 c203 c204 c205 y206;have c211:=q201.c 0 rfl;have c212:=q201.c 1 rfl;have c213:=q201.c 2 rfl;have c214:=q201.c 3 rfl;have c215:=q201.c 4 rfl;have hf:=dL (P:=Tryz.prog) q207 b209 (by omega) underlying24 rfl (by kernel_rfl) (yi F) (yi W) (yi fl2) (yi tr) (.slice uo l2.length uc);have HH:Hid (_∧_∧_):=⟨hf.1,r208.off hf.2.2 q207 (by simp) (by omega),hf.2.1⟩;obtain⟨⟨z0,z1,z2,z3,z4⟩,y0,y1,y2,y3,y4⟩:=dN q207;clear hf q207 q201 r208 b209
  go_wp2
  obtain⟨hl,rRu,bR⟩:=HH.out;exact bodyPost_ret (aj results29 rfl rfl hl) rfl ⟨uo,uc,rfl,rRu,bR⟩
theorem step_copy (F W fl tr told kk fl2:Int)(tx:ByteArray)(so:Option Addr)(sc:Nat)(l l2:List ByteArray)(w:World)(hn:decide ((l.length:Int)<1)=false)(ht:bits .and .i64 told tr=0)(hf:bits .or .i64 fl told=fl2)
  (HO: ∀w1,yC 57 #[] w1 (OpsR w1))
  (HP: ∀w1,yB w w1→yC 28 #[.agg #[yi F,yi W,yi fl,yi tr,.slice so l.length sc]] w1 (CopB w.heap.size F W fl tr l w1))
  (HC: ∀q vo vc w1,yB w w1→w.heap.size≤q→au w1 q 130 [yi F,yi W,yi fl,yi tr,.slice vo l.length vc,yi 0]→OwnS w1 w.heap.size (.slice vo l.length vc) l→yC 112 #[.pointer (some ⟨q,0,none⟩),.agg #[yi 11,yi kk,.string tx]] w1 (PushR q w.heap.size F W fl tr told l2 w1)):
  yC 29 #[.agg #[yi F,yi W,yi fl,yi tr,.slice so l.length sc],.agg #[yi 11,yi kk,.string tx]] w (StepR F W fl2 tr l2 w):=by
 replace HO:Hid _:=HO;replace HP:Hid _:=HP;replace HC:Hid _:=HC;replace hf:Hid _:=hf;replace ht:Hid _:=ht;obtain⟨W5,hW6,q1,q2,q3,b4⟩:=lG w [yi F,yi W,yi fl,yi tr,.slice so l.length sc] 24 [yi 11,yi kk,.string tx] 37 [yi 0,yi 0,yi 0,yi 0,yN] 24;replace hW6:Hid _:=hW6
 go_enter func29,ntmps29
 go_upto_region 1 with fail
 rw[hW6.out];clear hW6
 go_upto_region 1 with fail
 have bW7:yB W5 W5.drew:=(Below.refl _ _).drew;have q8:=q1.l bW7;have q9:=q2.l bW7;have q10:=q3.l bW7;have b11:=aa b4 bW7;clear q1 q2 q3 b4 bW7;refine wp_region_held_drew (S:=fun wq=>au wq (w.heap.size+1) 37 [yi 11,yi kk,.string tx]) (by kernel_rfl) q9 (fun hS0=> ?_)
 generalize W5.drew=WD12 at q8 q9 q10 b11 hS0⊢;refine tq 1 (.pointer (some ⟨w.heap.size+1,0,none⟩)) rfl (fun _ _=>by kernel_rfl) hS0 ?_
 refine tq 2 (yi 11) rfl (fun _ hw0=>gU 3 (.tmp 12) rfl (w.heap.size+1) 0 (by kernel_rfl) _ _ underlying3 rfl (hw0.c 0 rfl)) hS0 ?_
 refine wpAnyH_ready (rs:=[0,7]) (by kernel_rfl) (by simp) ?_;refine AllReadyH.cons rfl (fun K hK=> ?_) (AllReadyH.cons rfl (fun K hK=> ?_) AllReadyH.nil)
 ·go_simp
  refine(HO.out _).mono ?_;rintro zz w13 ⟨mr,ca,cb,cc,cd,rfl,r1x15,bb14⟩;have q16:=q8.l bb14;have q17:=q9.l bb14;have q18:=q10.l bb14;have b19:=aa b11 bb14;clear q8 q9 q10 b11 bb14 HO;refine hK.out _ _ q17 (fun hS20=> ?_)
  clear hK K;refine wpAnyH_ready (rs:=[3,7]) (by kernel_rfl) (by simp) ?_;refine AllReadyH.cons rfl (fun K hK=> ?_) (AllReadyH.cons rfl (fun K hK=> ?_) AllReadyH.nil)
  ·rw[if_pos (by kernel_rfl)]
   refine wp_yield (.tuple #[.agg #[yi 1,.func (.func 112) #[] #[]],.bool true]) (xlook 127 (.tmp 11) (.tmp 13) true rfl _ _ (by kernel_rfl) (by kernel_rfl) (find_ok underlying127 underlying3 r1x15.1 11 (i:=10) rfl)) ?_;refine hK.out _ _ q17 (fun hS21=> ?_)
   clear hK K;refine tq 4 (.tuple #[.agg #[yi 1,.func (.func 112) #[] #[]],.bool true]) rfl (fun _ _=>by kernel_rfl) hS21 ?_
   refine tq 5 (.agg #[yi 1,.func (.func 112) #[] #[]]) rfl (fun _ _=>by go_simp) hS21 ?_
   refine tq 6 (.bool true) rfl (fun _ _=>by go_simp) hS21 ?_
   refine wpAnyH_ready (rs:=[7]) (by kernel_rfl) (by simp) ?_;refine AllReadyH.cons rfl (fun K hK=> ?_) AllReadyH.nil
   go_simp
   have al22:=af w13 (.cells #[yi 0,.nilFunc] 125);have q23:=ah w13 [yi 0,.nilFunc] 125;have hl26:w.heap.size≤w13.heap.size:=b19.size;have hl27:=q16.lt;have hl28:=q17.lt;have hl29:=q18.lt;have q30:=q16.l al22;have q31:=q17.l al22;have q32:=q18.l al22;have b33:=aa b19 al22;refine hK.out _ _ q31 (fun hS34=> ?_)
   clear hK K;clear q16 q17 q18 r1x15 b19 al22;generalize w13.alloc (.cells #[yi 0,.nilFunc] 125)=WN24 at q30 q31 q32 q23 b33 hS34⊢;generalize w13.heap.size=PQ25 at q23 hl26 hl27 hl28 hl29⊢;refine wpAnyH_ready (rs:=[8]) (by kernel_rfl) (by simp) ?_;refine AllReadyH.cons rfl (fun K hK=> ?_) AllReadyH.nil
   have bu:But PQ25 WN24 (WN24.setCells PQ25 0 [yi 1,.func (.func 112) #[] #[]]):=de _ _ _ _;have hth:WN24.there PQ25 0 2:=dD q23;have q35:au (WN24.setCells PQ25 0 [yi 1,.func (.func 112) #[] #[]]) PQ25 125 [yi 1,.func (.func 112) #[] #[]]:=q23.sets _ rfl;have q36:=bu.loc q30 (by omega);have q37:=bu.loc q31 (by omega);have q38:=bu.loc q32 (by omega);have b39:=bu.below b33 (by omega);rw[if_pos (by kernel_rfl)];refine wp_store_mid 125 (.tmp 6) (.tmp 15) rfl PQ25 0 #[yi 1,.func (.func 112) #[] #[]] (by kernel_rfl) (by kernel_rfl) hth (by kernel_rfl) (by simp[Value.oneCell']) ?_;refine hK.out _ _ q37 (fun hS40=> ?_)
   clear hK K;clear q23 q30 q31 q32 b33 bu hth;change wpAnyH _ _ _ _ _ _ _ _ (World.setCells WN24 PQ25 0 [yi 1,.func (.func 112) #[] #[]]);generalize World.setCells WN24 PQ25 0 [yi 1,.func (.func 112) #[] #[]]=WS41 at q36 q37 q38 q35 b39 hS40⊢;refine tq 9 (.bool true) rfl (fun _ _=>by kernel_rfl) hS40 ?_
   refine wpAnyH_done (by kernel_rfl) ?_ _;clear hS0 hS20 hS21 hS34 hS40;simp only[Act.put,List.getElem_toArray,List.getElem_cons_succ,List.getElem_cons_zero,List.setIfInBounds_toArray,List.set_cons_zero,List.set_cons_succ];obtain⟨c42,c43,c44,c45,c46⟩:=q36.cs5;have c47:=q35.c 0 rfl
   go_wp2_with fail
   refine(HP.out _ b39).mono ?_;rintro zz w48 ⟨vo,vc,rfl,r1x50,bb49⟩;have q51:=q36.l bb49;have q52:=q37.l bb49;have q53:=q38.l bb49;have q54:=q35.l bb49;have b55:=aa b39 bb49;clear q36 q37 q38 q35 b39 bb49 HP c42 c43 c44 c45 c46 c47;obtain⟨W58,hW57,q59,al56⟩:=cA w48 [yi F,yi W,yi fl,yi tr,.slice vo l.length vc,yi 0] 130;replace hW57:Hid _:=hW57;have hl60:w.heap.size≤w48.heap.size:=b55.size;have hl61:=q51.lt;have hl62:=q52.lt;have hl63:=q53.lt;have hl64:=q54.lt;have q65:=q51.l al56;have q66:=q52.l al56;have q67:=q53.l al56;have q68:=q54.l al56;have r69:=r1x50.l al56;have b70:=aa b55 al56;clear q51 q52 q53 q54 r1x50 b55 al56
   go_upto_region 7 with fail
   rw[hW57.out];clear hW57;obtain⟨c71,c72,c73⟩:=q66.cs3;have c74:=q68.c 1 rfl
   go_wp2_with fail
   refine(HC.out _ _ _ _ b70 (by omega) q59 r69).mono ?_;rintro zz w75 ⟨uo,uc,rfl,l5,o5,kp⟩;clear c71 c72 c73 c74;have bz:=b70.trans kp.1;have qa:=kp.2 _ _ _ (by omega) (by decide) q65;have qc:=kp.2 _ _ _ (by omega) (by decide) q67;replace hf:=hf.out;replace ht:=ht.out;clear kp HC q65 q67 q59 b70 r69;have c202:=qa.c 3 rfl;have c203:=l5.c 2 rfl;have c204:=l5.c 5 rfl;have bu:=ag w75 w48.heap.size 2 (yi fl2);have q201:au (w75.setCell ⟨w48.heap.size,2,none⟩ (yi fl2)) w48.heap.size 130 [yi F,yi W,yi fl2,yi tr,.slice uo l2.length uc,yi told]:=(l5.set 2 (yi fl2));have c205:=l5.c 2 rfl;have y206:=l5.f 2;have q207:=bu.loc qc (by omega);have r208:=o5.off bu l5 (by simp) (by omega);have b209:=bu.below bz (by omega);clear bu
   go_upto_region 15 with fail
   generalize w75.setCell ⟨w48.heap.size,2,none⟩ (yi fl2)=W210 at q207 q201 r208 b209⊢;clear l5 qa qc o5 bz c202 c203 c204 c205 y206;have c211:=q201.c 0 rfl;have c212:=q201.c 1 rfl;have c213:=q201.c 2 rfl;have c214:=q201.c 3 rfl;have c215:=q201.c 4 rfl;have hf:=dL (P:=Tryz.prog) q207 b209 (by omega) underlying24 rfl (by kernel_rfl) (yi F) (yi W) (yi fl2) (yi tr) (.slice uo l2.length uc);have HH:Hid (_∧_∧_):=⟨hf.1,r208.off hf.2.2 q207 (by simp) (by omega),hf.2.1⟩;obtain⟨⟨z0,z1,z2,z3,z4⟩,y0,y1,y2,y3,y4⟩:=dN q207;clear hf q207 q201 r208 b209
   go_wp2
   obtain⟨hl,rRu,bR⟩:=HH.out;exact bodyPost_ret (aj results29 rfl rfl hl) rfl ⟨uo,uc,rfl,rRu,bR⟩
  ·go_simp
   have al21:=af w13 (.cells #[yi 0,.nilFunc] 125);have q22:=ah w13 [yi 0,.nilFunc] 125;have hl25:w.heap.size≤w13.heap.size:=b19.size;have hl26:=q16.lt;have hl27:=q17.lt;have hl28:=q18.lt;have q29:=q16.l al21;have q30:=q17.l al21;have q31:=q18.l al21;have r32:=r1x15.l al21;have b33:=aa b19 al21;refine hK.out _ _ q30 (fun hS34=> ?_)
   clear hK K;clear q16 q17 q18 r1x15 b19 al21;generalize w13.alloc (.cells #[yi 0,.nilFunc] 125)=WN23 at q29 q30 q31 q22 r32 b33 hS34⊢;generalize w13.heap.size=PQ24 at q22 hl25 hl26 hl27 hl28⊢;refine wpAnyH_ready (rs:=[3]) (by kernel_rfl) (by simp) ?_;refine AllReadyH.cons rfl (fun K hK=> ?_) AllReadyH.nil
   rw[if_pos (by kernel_rfl)];refine wp_yield (.tuple #[.agg #[yi 1,.func (.func 112) #[] #[]],.bool true]) (xlook 127 (.tmp 11) (.tmp 13) true rfl _ _ (by kernel_rfl) (by kernel_rfl) (find_ok underlying127 underlying3 r32.1 11 (i:=10) rfl)) ?_;refine hK.out _ _ q30 (fun hS35=> ?_)
   clear hK K;refine tq 4 (.tuple #[.agg #[yi 1,.func (.func 112) #[] #[]],.bool true]) rfl (fun _ _=>by kernel_rfl) hS35 ?_
   refine tq 5 (.agg #[yi 1,.func (.func 112) #[] #[]]) rfl (fun _ _=>by go_simp) hS35 ?_
   refine tq 6 (.bool true) rfl (fun _ _=>by go_simp) hS35 ?_
   refine wpAnyH_ready (rs:=[8]) (by kernel_rfl) (by simp) ?_;refine AllReadyH.cons rfl (fun K hK=> ?_) AllReadyH.nil
   have bu:But PQ24 WN23 (WN23.setCells PQ24 0 [yi 1,.func (.func 112) #[] #[]]):=de _ _ _ _;have hth:WN23.there PQ24 0 2:=dD q22;have q36:au (WN23.setCells PQ24 0 [yi 1,.func (.func 112) #[] #[]]) PQ24 125 [yi 1,.func (.func 112) #[] #[]]:=q22.sets _ rfl;have q37:=bu.loc q29 (by omega);have q38:=bu.loc q30 (by omega);have q39:=bu.loc q31 (by omega);have b40:=bu.below b33 (by omega);rw[if_pos (by kernel_rfl)];refine wp_store_mid 125 (.tmp 6) (.tmp 15) rfl PQ24 0 #[yi 1,.func (.func 112) #[] #[]] (by kernel_rfl) (by kernel_rfl) hth (by kernel_rfl) (by simp[Value.oneCell']) ?_;refine hK.out _ _ q38 (fun hS41=> ?_)
   clear hK K;clear q22 r32 q29 q30 q31 b33 bu hth;change wpAnyH _ _ _ _ _ _ _ _ (World.setCells WN23 PQ24 0 [yi 1,.func (.func 112) #[] #[]]);generalize World.setCells WN23 PQ24 0 [yi 1,.func (.func 112) #[] #[]]=WS42 at q37 q38 q39 q36 b40 hS41⊢;refine tq 9 (.bool true) rfl (fun _ _=>by kernel_rfl) hS41 ?_
   refine wpAnyH_done (by kernel_rfl) ?_ _;clear hS0 hS20 hS34 hS35 hS41;simp only[Act.put,List.getElem_toArray,List.getElem_cons_succ,List.getElem_cons_zero,List.setIfInBounds_toArray,List.set_cons_zero,List.set_cons_succ];obtain⟨c43,c44,c45,c46,c47⟩:=q37.cs5;have c48:=q36.c 0 rfl
   go_wp2_with fail
   refine(HP.out _ b40).mono ?_;rintro zz w49 ⟨vo,vc,rfl,r1x51,bb50⟩;have q52:=q37.l bb50;have q53:=q38.l bb50;have q54:=q39.l bb50;have q55:=q36.l bb50;have b56:=aa b40 bb50;clear q37 q38 q39 q36 b40 bb50 HP c43 c44 c45 c46 c47 c48;obtain⟨W59,hW58,q60,al57⟩:=cA w49 [yi F,yi W,yi fl,yi tr,.slice vo l.length vc,yi 0] 130;replace hW58:Hid _:=hW58;have hl61:w.heap.size≤w49.heap.size:=b56.size;have hl62:=q52.lt;have hl63:=q53.lt;have hl64:=q54.lt;have hl65:=q55.lt;have q66:=q52.l al57;have q67:=q53.l al57;have q68:=q54.l al57;have q69:=q55.l al57;have r70:=r1x51.l al57;have b71:=aa b56 al57;clear q52 q53 q54 q55 r1x51 b56 al57
   go_upto_region 7 with fail
   rw[hW58.out];clear hW58;obtain⟨c72,c73,c74⟩:=q67.cs3;have c75:=q69.c 1 rfl
   go_wp2_with fail
   refine(HC.out _ _ _ _ b71 (by omega) q60 r70).mono ?_;rintro zz w76 ⟨uo,uc,rfl,l5,o5,kp⟩;clear c72 c73 c74 c75;have bz:=b71.trans kp.1;have qa:=kp.2 _ _ _ (by omega) (by decide) q66;have qc:=kp.2 _ _ _ (by omega) (by decide) q68;replace hf:=hf.out;replace ht:=ht.out;clear kp HC q66 q68 q60 b71 r70;have c202:=qa.c 3 rfl;have c203:=l5.c 2 rfl;have c204:=l5.c 5 rfl;have bu:=ag w76 w49.heap.size 2 (yi fl2);have q201:au (w76.setCell ⟨w49.heap.size,2,none⟩ (yi fl2)) w49.heap.size 130 [yi F,yi W,yi fl2,yi tr,.slice uo l2.length uc,yi told]:=(l5.set 2 (yi fl2));have c205:=l5.c 2 rfl;have y206:=l5.f 2;have q207:=bu.loc qc (by omega);have r208:=o5.off bu l5 (by simp) (by omega);have b209:=bu.below bz (by omega);clear bu
   go_upto_region 15 with fail
   generalize w76.setCell ⟨w49.heap.size,2,none⟩ (yi fl2)=W210 at q207 q201 r208 b209⊢;clear l5 qa qc o5 bz c202 c203 c204 c205 y206;have c211:=q201.c 0 rfl;have c212:=q201.c 1 rfl;have c213:=q201.c 2 rfl;have c214:=q201.c 3 rfl;have c215:=q201.c 4 rfl;have hf:=dL (P:=Tryz.prog) q207 b209 (by omega) underlying24 rfl (by kernel_rfl) (yi F) (yi W) (yi fl2) (yi tr) (.slice uo l2.length uc);have HH:Hid (_∧_∧_):=⟨hf.1,r208.off hf.2.2 q207 (by simp) (by omega),hf.2.1⟩;obtain⟨⟨z0,z1,z2,z3,z4⟩,y0,y1,y2,y3,y4⟩:=dN q207;clear hf q207 q201 r208 b209
   go_wp2
   obtain⟨hl,rRu,bR⟩:=HH.out;exact bodyPost_ret (aj results29 rfl rfl hl) rfl ⟨uo,uc,rfl,rRu,bR⟩
 ·go_simp
  have al13:=af WD12 (.cells #[yi 0,.nilFunc] 125);have q14:=ah WD12 [yi 0,.nilFunc] 125;have hl17:w.heap.size≤WD12.heap.size:=b11.size;have hl18:=q8.lt;have hl19:=q9.lt;have hl20:=q10.lt;have q21:=q8.l al13;have q22:=q9.l al13;have q23:=q10.l al13;have b24:=aa b11 al13;refine hK.out _ _ q22 (fun hS25=> ?_)
  clear hK K;clear q8 q9 q10 b11 al13;generalize WD12.alloc (.cells #[yi 0,.nilFunc] 125)=WN15 at q21 q22 q23 q14 b24 hS25⊢;generalize WD12.heap.size=PQ16 at q14 hl17 hl18 hl19 hl20⊢;refine wpAnyH_ready (rs:=[0]) (by kernel_rfl) (by simp) ?_;refine AllReadyH.cons rfl (fun K hK=> ?_) AllReadyH.nil
  go_simp
  refine(HO.out _).mono ?_;rintro zz w26 ⟨mr,ca,cb,cc,cd,rfl,r1x28,bb27⟩;have q29:=q21.l bb27;have q30:=q22.l bb27;have q31:=q23.l bb27;have q32:=q14.l bb27;have b33:=aa b24 bb27;clear q21 q22 q23 q14 b24 bb27 HO;refine hK.out _ _ q30 (fun hS34=> ?_)
  clear hK K;refine wpAnyH_ready (rs:=[3]) (by kernel_rfl) (by simp) ?_;refine AllReadyH.cons rfl (fun K hK=> ?_) AllReadyH.nil
  rw[if_pos (by kernel_rfl)];refine wp_yield (.tuple #[.agg #[yi 1,.func (.func 112) #[] #[]],.bool true]) (xlook 127 (.tmp 11) (.tmp 13) true rfl _ _ (by kernel_rfl) (by kernel_rfl) (find_ok underlying127 underlying3 r1x28.1 11 (i:=10) rfl)) ?_;refine hK.out _ _ q30 (fun hS35=> ?_)
  clear hK K;refine tq 4 (.tuple #[.agg #[yi 1,.func (.func 112) #[] #[]],.bool true]) rfl (fun _ _=>by kernel_rfl) hS35 ?_
  refine tq 5 (.agg #[yi 1,.func (.func 112) #[] #[]]) rfl (fun _ _=>by go_simp) hS35 ?_
  refine tq 6 (.bool true) rfl (fun _ _=>by go_simp) hS35 ?_
  refine wpAnyH_ready (rs:=[8]) (by kernel_rfl) (by simp) ?_;refine AllReadyH.cons rfl (fun K hK=> ?_) AllReadyH.nil
  have bu:But PQ16 w26 (w26.setCells PQ16 0 [yi 1,.func (.func 112) #[] #[]]):=de _ _ _ _;have hth:w26.there PQ16 0 2:=dD q32;have q36:au (w26.setCells PQ16 0 [yi 1,.func (.func 112) #[] #[]]) PQ16 125 [yi 1,.func (.func 112) #[] #[]]:=q32.sets _ rfl;have q37:=bu.loc q29 (by omega);have q38:=bu.loc q30 (by omega);have q39:=bu.loc q31 (by omega);have b40:=bu.below b33 (by omega);rw[if_pos (by kernel_rfl)];refine wp_store_mid 125 (.tmp 6) (.tmp 15) rfl PQ16 0 #[yi 1,.func (.func 112) #[] #[]] (by kernel_rfl) (by kernel_rfl) hth (by kernel_rfl) (by simp[Value.oneCell']) ?_;refine hK.out _ _ q38 (fun hS41=> ?_)
  clear hK K;clear q32 r1x28 q29 q30 q31 b33 bu hth;change wpAnyH _ _ _ _ _ _ _ _ (World.setCells w26 PQ16 0 [yi 1,.func (.func 112) #[] #[]]);generalize World.setCells w26 PQ16 0 [yi 1,.func (.func 112) #[] #[]]=WS42 at q37 q38 q39 q36 b40 hS41⊢;refine tq 9 (.bool true) rfl (fun _ _=>by kernel_rfl) hS41 ?_
  refine wpAnyH_done (by kernel_rfl) ?_ _;clear hS0 hS25 hS34 hS35 hS41;simp only[Act.put,List.getElem_toArray,List.getElem_cons_succ,List.getElem_cons_zero,List.setIfInBounds_toArray,List.set_cons_zero,List.set_cons_succ];obtain⟨c43,c44,c45,c46,c47⟩:=q37.cs5;have c48:=q36.c 0 rfl
  go_wp2_with fail
  refine(HP.out _ b40).mono ?_;rintro zz w49 ⟨vo,vc,rfl,r1x51,bb50⟩;have q52:=q37.l bb50;have q53:=q38.l bb50;have q54:=q39.l bb50;have q55:=q36.l bb50;have b56:=aa b40 bb50;clear q37 q38 q39 q36 b40 bb50 HP c43 c44 c45 c46 c47 c48;obtain⟨W59,hW58,q60,al57⟩:=cA w49 [yi F,yi W,yi fl,yi tr,.slice vo l.length vc,yi 0] 130;replace hW58:Hid _:=hW58;have hl61:w.heap.size≤w49.heap.size:=b56.size;have hl62:=q52.lt;have hl63:=q53.lt;have hl64:=q54.lt;have hl65:=q55.lt;have q66:=q52.l al57;have q67:=q53.l al57;have q68:=q54.l al57;have q69:=q55.l al57;have r70:=r1x51.l al57;have b71:=aa b56 al57;clear q52 q53 q54 q55 r1x51 b56 al57
  go_upto_region 7 with fail
  rw[hW58.out];clear hW58;obtain⟨c72,c73,c74⟩:=q67.cs3;have c75:=q69.c 1 rfl
  go_wp2_with fail
  refine(HC.out _ _ _ _ b71 (by omega) q60 r70).mono ?_;rintro zz w76 ⟨uo,uc,rfl,l5,o5,kp⟩;clear c72 c73 c74 c75;have bz:=b71.trans kp.1;have qa:=kp.2 _ _ _ (by omega) (by decide) q66;have qc:=kp.2 _ _ _ (by omega) (by decide) q68;replace hf:=hf.out;replace ht:=ht.out;clear kp HC q66 q68 q60 b71 r70;have c202:=qa.c 3 rfl;have c203:=l5.c 2 rfl;have c204:=l5.c 5 rfl;have bu:=ag w76 w49.heap.size 2 (yi fl2);have q201:au (w76.setCell ⟨w49.heap.size,2,none⟩ (yi fl2)) w49.heap.size 130 [yi F,yi W,yi fl2,yi tr,.slice uo l2.length uc,yi told]:=(l5.set 2 (yi fl2));have c205:=l5.c 2 rfl;have y206:=l5.f 2;have q207:=bu.loc qc (by omega);have r208:=o5.off bu l5 (by simp) (by omega);have b209:=bu.below bz (by omega);clear bu
  go_upto_region 15 with fail
  generalize w76.setCell ⟨w49.heap.size,2,none⟩ (yi fl2)=W210 at q207 q201 r208 b209⊢;clear l5 qa qc o5 bz c202 c203 c204 c205 y206;have c211:=q201.c 0 rfl;have c212:=q201.c 1 rfl;have c213:=q201.c 2 rfl;have c214:=q201.c 3 rfl;have c215:=q201.c 4 rfl;have hf:=dL (P:=Tryz.prog) q207 b209 (by omega) underlying24 rfl (by kernel_rfl) (yi F) (yi W) (yi fl2) (yi tr) (.slice uo l2.length uc);have HH:Hid (_∧_∧_):=⟨hf.1,r208.off hf.2.2 q207 (by simp) (by omega),hf.2.1⟩;obtain⟨⟨z0,z1,z2,z3,z4⟩,y0,y1,y2,y3,y4⟩:=dN q207;clear hf q207 q201 r208 b209
  go_wp2
  obtain⟨hl,rRu,bR⟩:=HH.out;exact bodyPost_ret (aj results29 rfl rfl hl) rfl ⟨uo,uc,rfl,rRu,bR⟩
theorem step_mul (F W fl tr told kk fl2:Int)(tx:ByteArray)(so:Option Addr)(sc:Nat)(l l2:List ByteArray)(w:World)(hn:decide ((l.length:Int)<2)=false)(ht:bits .and .i64 told tr=0)(hf:bits .or .i64 fl told=fl2)
  (HO: ∀w1,yC 57 #[] w1 (OpsR w1))
  (HP: ∀w1,yB w w1→yC 28 #[.agg #[yi F,yi W,yi fl,yi tr,.slice so l.length sc]] w1 (CopB w.heap.size F W fl tr l w1))
  (HC: ∀q vo vc ca cb cc cd mr w1,yB w w1→w.heap.size≤q→au w1 q 130 [yi F,yi W,yi fl,yi tr,.slice vo l.length vc,yi 0]→OwnS w1 w.heap.size (.slice vo l.length vc) l→OpsW mr ca cb cc cd w1→yC 165 #[.pointer (some ⟨q,0,none⟩),.agg #[yi 5,yi kk,.string tx],.pointer (some ⟨cc,0,none⟩)] w1 (PushR q w.heap.size F W fl tr told l2 w1)):
  yC 29 #[.agg #[yi F,yi W,yi fl,yi tr,.slice so l.length sc],.agg #[yi 5,yi kk,.string tx]] w (StepR F W fl2 tr l2 w):=by
 replace HO:Hid _:=HO;replace HP:Hid _:=HP;replace HC:Hid _:=HC;replace hf:Hid _:=hf;replace ht:Hid _:=ht;obtain⟨W5,hW6,q1,q2,q3,b4⟩:=lG w [yi F,yi W,yi fl,yi tr,.slice so l.length sc] 24 [yi 5,yi kk,.string tx] 37 [yi 0,yi 0,yi 0,yi 0,yN] 24;replace hW6:Hid _:=hW6
 go_enter func29,ntmps29
 go_upto_region 1 with fail
 rw[hW6.out];clear hW6
 go_upto_region 1 with fail
 have bW7:yB W5 W5.drew:=(Below.refl _ _).drew;have q8:=q1.l bW7;have q9:=q2.l bW7;have q10:=q3.l bW7;have b11:=aa b4 bW7;clear q1 q2 q3 b4 bW7;refine wp_region_held_drew (S:=fun wq=>au wq (w.heap.size+1) 37 [yi 5,yi kk,.string tx]) (by kernel_rfl) q9 (fun hS0=> ?_)
 generalize W5.drew=WD12 at q8 q9 q10 b11 hS0⊢;refine tq 1 (.pointer (some ⟨w.heap.size+1,0,none⟩)) rfl (fun _ _=>by kernel_rfl) hS0 ?_
 refine tq 2 (yi 5) rfl (fun _ hw0=>gU 3 (.tmp 12) rfl (w.heap.size+1) 0 (by kernel_rfl) _ _ underlying3 rfl (hw0.c 0 rfl)) hS0 ?_
 refine wpAnyH_ready (rs:=[0,7]) (by kernel_rfl) (by simp) ?_;refine AllReadyH.cons rfl (fun K hK=> ?_) (AllReadyH.cons rfl (fun K hK=> ?_) AllReadyH.nil)
 ·go_simp
  refine(HO.out _).mono ?_;rintro zz w13 ⟨mr,ca,cb,cc,cd,rfl,r1x15,bb14⟩;have q16:=q8.l bb14;have q17:=q9.l bb14;have q18:=q10.l bb14;have b19:=aa b11 bb14;clear q8 q9 q10 b11 bb14 HO;refine hK.out _ _ q17 (fun hS20=> ?_)
  clear hK K;refine wpAnyH_ready (rs:=[3,7]) (by kernel_rfl) (by simp) ?_;refine AllReadyH.cons rfl (fun K hK=> ?_) (AllReadyH.cons rfl (fun K hK=> ?_) AllReadyH.nil)
  ·rw[if_pos (by kernel_rfl)]
   refine wp_yield (.tuple #[.agg #[yi 2,.func (.func 165) #[] #[.pointer (some ⟨cc,0,none⟩)]],.bool true]) (xlook 127 (.tmp 11) (.tmp 13) true rfl _ _ (by kernel_rfl) (by kernel_rfl) (find_ok underlying127 underlying3 r1x15.1 5 (i:=4) rfl)) ?_;refine hK.out _ _ q17 (fun hS21=> ?_)
   clear hK K;refine tq 4 (.tuple #[.agg #[yi 2,.func (.func 165) #[] #[.pointer (some ⟨cc,0,none⟩)]],.bool true]) rfl (fun _ _=>by kernel_rfl) hS21 ?_
   refine tq 5 (.agg #[yi 2,.func (.func 165) #[] #[.pointer (some ⟨cc,0,none⟩)]]) rfl (fun _ _=>by go_simp) hS21 ?_
   refine tq 6 (.bool true) rfl (fun _ _=>by go_simp) hS21 ?_
   refine wpAnyH_ready (rs:=[7]) (by kernel_rfl) (by simp) ?_;refine AllReadyH.cons rfl (fun K hK=> ?_) AllReadyH.nil
   go_simp
   have al22:=af w13 (.cells #[yi 0,.nilFunc] 125);have q23:=ah w13 [yi 0,.nilFunc] 125;have hl26:w.heap.size≤w13.heap.size:=b19.size;have hl27:=q16.lt;have hl28:=q17.lt;have hl29:=q18.lt;have q30:=q16.l al22;have q31:=q17.l al22;have q32:=q18.l al22;have r33:=r1x15.l al22;have b34:=aa b19 al22;refine hK.out _ _ q31 (fun hS35=> ?_)
   clear hK K;clear q16 q17 q18 r1x15 b19 al22;generalize w13.alloc (.cells #[yi 0,.nilFunc] 125)=WN24 at q30 q31 q32 q23 r33 b34 hS35⊢;generalize w13.heap.size=PQ25 at q23 hl26 hl27 hl28 hl29⊢;refine wpAnyH_ready (rs:=[8]) (by kernel_rfl) (by simp) ?_;refine AllReadyH.cons rfl (fun K hK=> ?_) AllReadyH.nil
   have bu:But PQ25 WN24 (WN24.setCells PQ25 0 [yi 2,.func (.func 165) #[] #[.pointer (some ⟨cc,0,none⟩)]]):=de _ _ _ _;have hth:WN24.there PQ25 0 2:=dD q23;have q36:au (WN24.setCells PQ25 0 [yi 2,.func (.func 165) #[] #[.pointer (some ⟨cc,0,none⟩)]]) PQ25 125 [yi 2,.func (.func 165) #[] #[.pointer (some ⟨cc,0,none⟩)]]:=q23.sets _ rfl;have r37:=r33.off bu q23 (by decide) (by omega);have q38:=bu.loc q30 (by omega);have q39:=bu.loc q31 (by omega);have q40:=bu.loc q32 (by omega);have b41:=bu.below b34 (by omega);rw[if_pos (by kernel_rfl)];refine wp_store_mid 125 (.tmp 6) (.tmp 15) rfl PQ25 0 #[yi 2,.func (.func 165) #[] #[.pointer (some ⟨cc,0,none⟩)]] (by kernel_rfl) (by kernel_rfl) hth (by kernel_rfl) (by simp[Value.oneCell']) ?_;refine hK.out _ _ q39 (fun hS42=> ?_)
   clear hK K;clear q23 r33 q30 q31 q32 b34 bu hth;change wpAnyH _ _ _ _ _ _ _ _ (World.setCells WN24 PQ25 0 [yi 2,.func (.func 165) #[] #[.pointer (some ⟨cc,0,none⟩)]]);generalize World.setCells WN24 PQ25 0 [yi 2,.func (.func 165) #[] #[.pointer (some ⟨cc,0,none⟩)]]=WS43 at q38 q39 q40 q36 r37 b41 hS42⊢;refine tq 9 (.bool true) rfl (fun _ _=>by kernel_rfl) hS42 ?_
   refine wpAnyH_done (by kernel_rfl) ?_ _;clear hS0 hS20 hS21 hS35 hS42;simp only[Act.put,List.getElem_toArray,List.getElem_cons_succ,List.getElem_cons_zero,List.setIfInBounds_toArray,List.set_cons_zero,List.set_cons_succ];obtain⟨c44,c45,c46,c47,c48⟩:=q38.cs5;have c49:=q36.c 0 rfl
   go_wp2_with fail
   refine(HP.out _ b41).mono ?_;rintro zz w50 ⟨vo,vc,rfl,r1x52,bb51⟩;have q53:=q38.l bb51;have q54:=q39.l bb51;have q55:=q40.l bb51;have q56:=q36.l bb51;have r57:=r37.l bb51;have b58:=aa b41 bb51;clear q38 q39 q40 q36 r37 b41 bb51 HP c44 c45 c46 c47 c48 c49;obtain⟨W61,hW60,q62,al59⟩:=cA w50 [yi F,yi W,yi fl,yi tr,.slice vo l.length vc,yi 0] 130;replace hW60:Hid _:=hW60;have hl63:w.heap.size≤w50.heap.size:=b58.size;have hl64:=q53.lt;have hl65:=q54.lt;have hl66:=q55.lt;have hl67:=q56.lt;have q68:=q53.l al59;have q69:=q54.l al59;have q70:=q55.l al59;have q71:=q56.l al59;have r72:=r57.l al59;have r73:=r1x52.l al59;have b74:=aa b58 al59;clear q53 q54 q55 q56 r57 r1x52 b58 al59
   go_upto_region 7 with fail
   rw[hW60.out];clear hW60;obtain⟨c75,c76,c77⟩:=q69.cs3;have c78:=q71.c 1 rfl
   go_wp2_with fail
   refine(HC.out _ _ _ _ _ _ _ _ _ b74 (by omega) q62 r73 r72).mono ?_;rintro zz w79 ⟨uo,uc,rfl,l5,o5,kp⟩;clear c75 c76 c77 c78;have bz:=b74.trans kp.1;have qa:=kp.2 _ _ _ (by omega) (by decide) q68;have qc:=kp.2 _ _ _ (by omega) (by decide) q70;replace hf:=hf.out;replace ht:=ht.out;clear kp HC q68 q70 q62 b74 r73 r72;have c202:=qa.c 3 rfl;have c203:=l5.c 2 rfl;have c204:=l5.c 5 rfl;have bu:=ag w79 w50.heap.size 2 (yi fl2);have q201:au (w79.setCell ⟨w50.heap.size,2,none⟩ (yi fl2)) w50.heap.size 130 [yi F,yi W,yi fl2,yi tr,.slice uo l2.length uc,yi told]:=(l5.set 2 (yi fl2));have c205:=l5.c 2 rfl;have y206:=l5.f 2;have q207:=bu.loc qc (by omega);have r208:=o5.off bu l5 (by simp) (by omega);have b209:=bu.below bz (by omega);clear bu
   go_upto_region 15 with fail
   generalize w79.setCell ⟨w50.heap.size,2,none⟩ (yi fl2)=W210 at q207 q201 r208 b209⊢;clear l5 qa qc o5 bz c202 c203 c204 c205 y206;have c211:=q201.c 0 rfl;have c212:=q201.c 1 rfl;have c213:=q201.c 2 rfl;have c214:=q201.c 3 rfl;have c215:=q201.c 4 rfl;have hf:=dL (P:=Tryz.prog) q207 b209 (by omega) underlying24 rfl (by kernel_rfl) (yi F) (yi W) (yi fl2) (yi tr) (.slice uo l2.length uc);have HH:Hid (_∧_∧_):=⟨hf.1,r208.off hf.2.2 q207 (by simp) (by omega),hf.2.1⟩;obtain⟨⟨z0,z1,z2,z3,z4⟩,y0,y1,y2,y3,y4⟩:=dN q207;clear hf q207 q201 r208 b209
   go_wp2
   obtain⟨hl,rRu,bR⟩:=HH.out;exact bodyPost_ret (aj results29 rfl rfl hl) rfl ⟨uo,uc,rfl,rRu,bR⟩
  ·go_simp
   have al21:=af w13 (.cells #[yi 0,.nilFunc] 125);have q22:=ah w13 [yi 0,.nilFunc] 125;have hl25:w.heap.size≤w13.heap.size:=b19.size;have hl26:=q16.lt;have hl27:=q17.lt;have hl28:=q18.lt;have q29:=q16.l al21;have q30:=q17.l al21;have q31:=q18.l al21;have r32:=r1x15.l al21;have b33:=aa b19 al21;refine hK.out _ _ q30 (fun hS34=> ?_)
   clear hK K;clear q16 q17 q18 r1x15 b19 al21;generalize w13.alloc (.cells #[yi 0,.nilFunc] 125)=WN23 at q29 q30 q31 q22 r32 b33 hS34⊢;generalize w13.heap.size=PQ24 at q22 hl25 hl26 hl27 hl28⊢;refine wpAnyH_ready (rs:=[3]) (by kernel_rfl) (by simp) ?_;refine AllReadyH.cons rfl (fun K hK=> ?_) AllReadyH.nil
   rw[if_pos (by kernel_rfl)];refine wp_yield (.tuple #[.agg #[yi 2,.func (.func 165) #[] #[.pointer (some ⟨cc,0,none⟩)]],.bool true]) (xlook 127 (.tmp 11) (.tmp 13) true rfl _ _ (by kernel_rfl) (by kernel_rfl) (find_ok underlying127 underlying3 r32.1 5 (i:=4) rfl)) ?_;refine hK.out _ _ q30 (fun hS35=> ?_)
   clear hK K;refine tq 4 (.tuple #[.agg #[yi 2,.func (.func 165) #[] #[.pointer (some ⟨cc,0,none⟩)]],.bool true]) rfl (fun _ _=>by kernel_rfl) hS35 ?_
   refine tq 5 (.agg #[yi 2,.func (.func 165) #[] #[.pointer (some ⟨cc,0,none⟩)]]) rfl (fun _ _=>by go_simp) hS35 ?_
   refine tq 6 (.bool true) rfl (fun _ _=>by go_simp) hS35 ?_
   refine wpAnyH_ready (rs:=[8]) (by kernel_rfl) (by simp) ?_;refine AllReadyH.cons rfl (fun K hK=> ?_) AllReadyH.nil
   have bu:But PQ24 WN23 (WN23.setCells PQ24 0 [yi 2,.func (.func 165) #[] #[.pointer (some ⟨cc,0,none⟩)]]):=de _ _ _ _;have hth:WN23.there PQ24 0 2:=dD q22;have q36:au (WN23.setCells PQ24 0 [yi 2,.func (.func 165) #[] #[.pointer (some ⟨cc,0,none⟩)]]) PQ24 125 [yi 2,.func (.func 165) #[] #[.pointer (some ⟨cc,0,none⟩)]]:=q22.sets _ rfl;have r37:=r32.off bu q22 (by decide) (by omega);have q38:=bu.loc q29 (by omega);have q39:=bu.loc q30 (by omega);have q40:=bu.loc q31 (by omega);have b41:=bu.below b33 (by omega);rw[if_pos (by kernel_rfl)];refine wp_store_mid 125 (.tmp 6) (.tmp 15) rfl PQ24 0 #[yi 2,.func (.func 165) #[] #[.pointer (some ⟨cc,0,none⟩)]] (by kernel_rfl) (by kernel_rfl) hth (by kernel_rfl) (by simp[Value.oneCell']) ?_;refine hK.out _ _ q39 (fun hS42=> ?_)
   clear hK K;clear q22 r32 q29 q30 q31 b33 bu hth;change wpAnyH _ _ _ _ _ _ _ _ (World.setCells WN23 PQ24 0 [yi 2,.func (.func 165) #[] #[.pointer (some ⟨cc,0,none⟩)]]);generalize World.setCells WN23 PQ24 0 [yi 2,.func (.func 165) #[] #[.pointer (some ⟨cc,0,none⟩)]]=WS43 at q38 q39 q40 q36 r37 b41 hS42⊢;refine tq 9 (.bool true) rfl (fun _ _=>by kernel_rfl) hS42 ?_
   refine wpAnyH_done (by kernel_rfl) ?_ _;clear hS0 hS20 hS34 hS35 hS42;simp only[Act.put,List.getElem_toArray,List.getElem_cons_succ,List.getElem_cons_zero,List.setIfInBounds_toArray,List.set_cons_zero,List.set_cons_succ];obtain⟨c44,c45,c46,c47,c48⟩:=q38.cs5;have c49:=q36.c 0 rfl
   go_wp2_with fail
   refine(HP.out _ b41).mono ?_;rintro zz w50 ⟨vo,vc,rfl,r1x52,bb51⟩;have q53:=q38.l bb51;have q54:=q39.l bb51;have q55:=q40.l bb51;have q56:=q36.l bb51;have r57:=r37.l bb51;have b58:=aa b41 bb51;clear q38 q39 q40 q36 r37 b41 bb51 HP c44 c45 c46 c47 c48 c49;obtain⟨W61,hW60,q62,al59⟩:=cA w50 [yi F,yi W,yi fl,yi tr,.slice vo l.length vc,yi 0] 130;replace hW60:Hid _:=hW60;have hl63:w.heap.size≤w50.heap.size:=b58.size;have hl64:=q53.lt;have hl65:=q54.lt;have hl66:=q55.lt;have hl67:=q56.lt;have q68:=q53.l al59;have q69:=q54.l al59;have q70:=q55.l al59;have q71:=q56.l al59;have r72:=r57.l al59;have r73:=r1x52.l al59;have b74:=aa b58 al59;clear q53 q54 q55 q56 r57 r1x52 b58 al59
   go_upto_region 7 with fail
   rw[hW60.out];clear hW60;obtain⟨c75,c76,c77⟩:=q69.cs3;have c78:=q71.c 1 rfl
   go_wp2_with fail
   refine(HC.out _ _ _ _ _ _ _ _ _ b74 (by omega) q62 r73 r72).mono ?_;rintro zz w79 ⟨uo,uc,rfl,l5,o5,kp⟩;clear c75 c76 c77 c78;have bz:=b74.trans kp.1;have qa:=kp.2 _ _ _ (by omega) (by decide) q68;have qc:=kp.2 _ _ _ (by omega) (by decide) q70;replace hf:=hf.out;replace ht:=ht.out;clear kp HC q68 q70 q62 b74 r73 r72;have c202:=qa.c 3 rfl;have c203:=l5.c 2 rfl;have c204:=l5.c 5 rfl;have bu:=ag w79 w50.heap.size 2 (yi fl2);have q201:au (w79.setCell ⟨w50.heap.size,2,none⟩ (yi fl2)) w50.heap.size 130 [yi F,yi W,yi fl2,yi tr,.slice uo l2.length uc,yi told]:=(l5.set 2 (yi fl2));have c205:=l5.c 2 rfl;have y206:=l5.f 2;have q207:=bu.loc qc (by omega);have r208:=o5.off bu l5 (by simp) (by omega);have b209:=bu.below bz (by omega);clear bu
   go_upto_region 15 with fail
   generalize w79.setCell ⟨w50.heap.size,2,none⟩ (yi fl2)=W210 at q207 q201 r208 b209⊢;clear l5 qa qc o5 bz c202 c203 c204 c205 y206;have c211:=q201.c 0 rfl;have c212:=q201.c 1 rfl;have c213:=q201.c 2 rfl;have c214:=q201.c 3 rfl;have c215:=q201.c 4 rfl;have hf:=dL (P:=Tryz.prog) q207 b209 (by omega) underlying24 rfl (by kernel_rfl) (yi F) (yi W) (yi fl2) (yi tr) (.slice uo l2.length uc);have HH:Hid (_∧_∧_):=⟨hf.1,r208.off hf.2.2 q207 (by simp) (by omega),hf.2.1⟩;obtain⟨⟨z0,z1,z2,z3,z4⟩,y0,y1,y2,y3,y4⟩:=dN q207;clear hf q207 q201 r208 b209
   go_wp2
   obtain⟨hl,rRu,bR⟩:=HH.out;exact bodyPost_ret (aj results29 rfl rfl hl) rfl ⟨uo,uc,rfl,rRu,bR⟩
 ·go_simp
  have al13:=af WD12 (.cells #[yi 0,.nilFunc] 125);have q14:=ah WD12 [yi 0,.nilFunc] 125;have hl17:w.heap.size≤WD12.heap.size:=b11.size;have hl18:=q8.lt;have hl19:=q9.lt;have hl20:=q10.lt;have q21:=q8.l al13;have q22:=q9.l al13;have q23:=q10.l al13;have b24:=aa b11 al13;refine hK.out _ _ q22 (fun hS25=> ?_)
  clear hK K;clear q8 q9 q10 b11 al13;generalize WD12.alloc (.cells #[yi 0,.nilFunc] 125)=WN15 at q21 q22 q23 q14 b24 hS25⊢;generalize WD12.heap.size=PQ16 at q14 hl17 hl18 hl19 hl20⊢;refine wpAnyH_ready (rs:=[0]) (by kernel_rfl) (by simp) ?_;refine AllReadyH.cons rfl (fun K hK=> ?_) AllReadyH.nil
  go_simp
  refine(HO.out _).mono ?_;rintro zz w26 ⟨mr,ca,cb,cc,cd,rfl,r1x28,bb27⟩;have q29:=q21.l bb27;have q30:=q22.l bb27;have q31:=q23.l bb27;have q32:=q14.l bb27;have b33:=aa b24 bb27;clear q21 q22 q23 q14 b24 bb27 HO;refine hK.out _ _ q30 (fun hS34=> ?_)
  clear hK K;refine wpAnyH_ready (rs:=[3]) (by kernel_rfl) (by simp) ?_;refine AllReadyH.cons rfl (fun K hK=> ?_) AllReadyH.nil
  rw[if_pos (by kernel_rfl)];refine wp_yield (.tuple #[.agg #[yi 2,.func (.func 165) #[] #[.pointer (some ⟨cc,0,none⟩)]],.bool true]) (xlook 127 (.tmp 11) (.tmp 13) true rfl _ _ (by kernel_rfl) (by kernel_rfl) (find_ok underlying127 underlying3 r1x28.1 5 (i:=4) rfl)) ?_;refine hK.out _ _ q30 (fun hS35=> ?_)
  clear hK K;refine tq 4 (.tuple #[.agg #[yi 2,.func (.func 165) #[] #[.pointer (some ⟨cc,0,none⟩)]],.bool true]) rfl (fun _ _=>by kernel_rfl) hS35 ?_
  refine tq 5 (.agg #[yi 2,.func (.func 165) #[] #[.pointer (some ⟨cc,0,none⟩)]]) rfl (fun _ _=>by go_simp) hS35 ?_
  refine tq 6 (.bool true) rfl (fun _ _=>by go_simp) hS35 ?_
  refine wpAnyH_ready (rs:=[8]) (by kernel_rfl) (by simp) ?_;refine AllReadyH.cons rfl (fun K hK=> ?_) AllReadyH.nil
  have bu:But PQ16 w26 (w26.setCells PQ16 0 [yi 2,.func (.func 165) #[] #[.pointer (some ⟨cc,0,none⟩)]]):=de _ _ _ _;have hth:w26.there PQ16 0 2:=dD q32;have q36:au (w26.setCells PQ16 0 [yi 2,.func (.func 165) #[] #[.pointer (some ⟨cc,0,none⟩)]]) PQ16 125 [yi 2,.func (.func 165) #[] #[.pointer (some ⟨cc,0,none⟩)]]:=q32.sets _ rfl;have r37:=r1x28.off bu q32 (by decide) (by omega);have q38:=bu.loc q29 (by omega);have q39:=bu.loc q30 (by omega);have q40:=bu.loc q31 (by omega);have b41:=bu.below b33 (by omega);rw[if_pos (by kernel_rfl)];refine wp_store_mid 125 (.tmp 6) (.tmp 15) rfl PQ16 0 #[yi 2,.func (.func 165) #[] #[.pointer (some ⟨cc,0,none⟩)]] (by kernel_rfl) (by kernel_rfl) hth (by kernel_rfl) (by simp[Value.oneCell']) ?_;refine hK.out _ _ q39 (fun hS42=> ?_)
  clear hK K;clear q32 r1x28 q29 q30 q31 b33 bu hth;change wpAnyH _ _ _ _ _ _ _ _ (World.setCells w26 PQ16 0 [yi 2,.func (.func 165) #[] #[.pointer (some ⟨cc,0,none⟩)]]);generalize World.setCells w26 PQ16 0 [yi 2,.func (.func 165) #[] #[.pointer (some ⟨cc,0,none⟩)]]=WS43 at q38 q39 q40 q36 r37 b41 hS42⊢;refine tq 9 (.bool true) rfl (fun _ _=>by kernel_rfl) hS42 ?_
  refine wpAnyH_done (by kernel_rfl) ?_ _;clear hS0 hS25 hS34 hS35 hS42;simp only[Act.put,List.getElem_toArray,List.getElem_cons_succ,List.getElem_cons_zero,List.setIfInBounds_toArray,List.set_cons_zero,List.set_cons_succ];obtain⟨c44,c45,c46,c47,c48⟩:=q38.cs5;have c49:=q36.c 0 rfl
  go_wp2_with fail
  refine(HP.out _ b41).mono ?_;rintro zz w50 ⟨vo,vc,rfl,r1x52,bb51⟩;have q53:=q38.l bb51;have q54:=q39.l bb51;have q55:=q40.l bb51;have q56:=q36.l bb51;have r57:=r37.l bb51;have b58:=aa b41 bb51;clear q38 q39 q40 q36 r37 b41 bb51 HP c44 c45 c46 c47 c48 c49;obtain⟨W61,hW60,q62,al59⟩:=cA w50 [yi F,yi W,yi fl,yi tr,.slice vo l.length vc,yi 0] 130;replace hW60:Hid _:=hW60;have hl63:w.heap.size≤w50.heap.size:=b58.size;have hl64:=q53.lt;have hl65:=q54.lt;have hl66:=q55.lt;have hl67:=q56.lt;have q68:=q53.l al59;have q69:=q54.l al59;have q70:=q55.l al59;have q71:=q56.l al59;have r72:=r57.l al59;have r73:=r1x52.l al59;have b74:=aa b58 al59;clear q53 q54 q55 q56 r57 r1x52 b58 al59
  go_upto_region 7 with fail
  rw[hW60.out];clear hW60;obtain⟨c75,c76,c77⟩:=q69.cs3;have c78:=q71.c 1 rfl
  go_wp2_with fail
  refine(HC.out _ _ _ _ _ _ _ _ _ b74 (by omega) q62 r73 r72).mono ?_;rintro zz w79 ⟨uo,uc,rfl,l5,o5,kp⟩;clear c75 c76 c77 c78;have bz:=b74.trans kp.1;have qa:=kp.2 _ _ _ (by omega) (by decide) q68;have qc:=kp.2 _ _ _ (by omega) (by decide) q70;replace hf:=hf.out;replace ht:=ht.out;clear kp HC q68 q70 q62 b74 r73 r72;have c202:=qa.c 3 rfl;have c203:=l5.c 2 rfl;have c204:=l5.c 5 rfl;have bu:=ag w79 w50.heap.size 2 (yi fl2);have q201:au (w79.setCell ⟨w50.heap.size,2,none⟩ (yi fl2)) w50.heap.size 130 [yi F,yi W,yi fl2,yi tr,.slice uo l2.length uc,yi told]:=(l5.set 2 (yi fl2));have c205:=l5.c 2 rfl;have y206:=l5.f 2;have q207:=bu.loc qc (by omega);have r208:=o5.off bu l5 (by simp) (by omega);have b209:=bu.below bz (by omega);clear bu
  go_upto_region 15 with fail
  generalize w79.setCell ⟨w50.heap.size,2,none⟩ (yi fl2)=W210 at q207 q201 r208 b209⊢;clear l5 qa qc o5 bz c202 c203 c204 c205 y206;have c211:=q201.c 0 rfl;have c212:=q201.c 1 rfl;have c213:=q201.c 2 rfl;have c214:=q201.c 3 rfl;have c215:=q201.c 4 rfl;have hf:=dL (P:=Tryz.prog) q207 b209 (by omega) underlying24 rfl (by kernel_rfl) (yi F) (yi W) (yi fl2) (yi tr) (.slice uo l2.length uc);have HH:Hid (_∧_∧_):=⟨hf.1,r208.off hf.2.2 q207 (by simp) (by omega),hf.2.1⟩;obtain⟨⟨z0,z1,z2,z3,z4⟩,y0,y1,y2,y3,y4⟩:=dN q207;clear hf q207 q201 r208 b209
  go_wp2
  obtain⟨hl,rRu,bR⟩:=HH.out;exact bodyPost_ret (aj results29 rfl rfl hl) rfl ⟨uo,uc,rfl,rRu,bR⟩
theorem step_add (F W fl tr told kk fl2:Int)(tx:ByteArray)(so:Option Addr)(sc:Nat)(l l2:List ByteArray)(w:World)(hn:decide ((l.length:Int)<2)=false)(ht:bits .and .i64 told tr=0)(hf:bits .or .i64 fl told=fl2)
  (HO: ∀w1,yC 57 #[] w1 (OpsR w1))
  (HP: ∀w1,yB w w1→yC 28 #[.agg #[yi F,yi W,yi fl,yi tr,.slice so l.length sc]] w1 (CopB w.heap.size F W fl tr l w1))
  (HC: ∀q vo vc ca cb cc cd mr w1,yB w w1→w.heap.size≤q→au w1 q 130 [yi F,yi W,yi fl,yi tr,.slice vo l.length vc,yi 0]→OwnS w1 w.heap.size (.slice vo l.length vc) l→OpsW mr ca cb cc cd w1→yC 165 #[.pointer (some ⟨q,0,none⟩),.agg #[yi 3,yi kk,.string tx],.pointer (some ⟨ca,0,none⟩)] w1 (PushR q w.heap.size F W fl tr told l2 w1)):
  yC 29 #[.agg #[yi F,yi W,yi fl,yi tr,.slice so l.length sc],.agg #[yi 3,yi kk,.string tx]] w (StepR F W fl2 tr l2 w):=by
 replace HO:Hid _:=HO;replace HP:Hid _:=HP;replace HC:Hid _:=HC;replace hf:Hid _:=hf;replace ht:Hid _:=ht;obtain⟨W5,hW6,q1,q2,q3,b4⟩:=lG w [yi F,yi W,yi fl,yi tr,.slice so l.length sc] 24 [yi 3,yi kk,.string tx] 37 [yi 0,yi 0,yi 0,yi 0,yN] 24;replace hW6:Hid _:=hW6
 go_enter func29,ntmps29
 go_upto_region 1 with fail
 rw[hW6.out];clear hW6
 go_upto_region 1 with fail
 have bW7:yB W5 W5.drew:=(Below.refl _ _).drew;have q8:=q1.l bW7;have q9:=q2.l bW7;have q10:=q3.l bW7;have b11:=aa b4 bW7;clear q1 q2 q3 b4 bW7;refine wp_region_held_drew (S:=fun wq=>au wq (w.heap.size+1) 37 [yi 3,yi kk,.string tx]) (by kernel_rfl) q9 (fun hS0=> ?_)
 generalize W5.drew=WD12 at q8 q9 q10 b11 hS0⊢;refine tq 1 (.pointer (some ⟨w.heap.size+1,0,none⟩)) rfl (fun _ _=>by kernel_rfl) hS0 ?_
 refine tq 2 (yi 3) rfl (fun _ hw0=>gU 3 (.tmp 12) rfl (w.heap.size+1) 0 (by kernel_rfl) _ _ underlying3 rfl (hw0.c 0 rfl)) hS0 ?_
 refine wpAnyH_ready (rs:=[0,7]) (by kernel_rfl) (by simp) ?_;refine AllReadyH.cons rfl (fun K hK=> ?_) (AllReadyH.cons rfl (fun K hK=> ?_) AllReadyH.nil)
 ·go_simp
  refine(HO.out _).mono ?_;rintro zz w13 ⟨mr,ca,cb,cc,cd,rfl,r1x15,bb14⟩;have q16:=q8.l bb14;have q17:=q9.l bb14;have q18:=q10.l bb14;have b19:=aa b11 bb14;clear q8 q9 q10 b11 bb14 HO;refine hK.out _ _ q17 (fun hS20=> ?_)
  clear hK K;refine wpAnyH_ready (rs:=[3,7]) (by kernel_rfl) (by simp) ?_;refine AllReadyH.cons rfl (fun K hK=> ?_) (AllReadyH.cons rfl (fun K hK=> ?_) AllReadyH.nil)
  ·rw[if_pos (by kernel_rfl)]
   refine wp_yield (.tuple #[.agg #[yi 2,.func (.func 165) #[] #[.pointer (some ⟨ca,0,none⟩)]],.bool true]) (xlook 127 (.tmp 11) (.tmp 13) true rfl _ _ (by kernel_rfl) (by kernel_rfl) (find_ok underlying127 underlying3 r1x15.1 3 (i:=2) rfl)) ?_;refine hK.out _ _ q17 (fun hS21=> ?_)
   clear hK K;refine tq 4 (.tuple #[.agg #[yi 2,.func (.func 165) #[] #[.pointer (some ⟨ca,0,none⟩)]],.bool true]) rfl (fun _ _=>by kernel_rfl) hS21 ?_
   refine tq 5 (.agg #[yi 2,.func (.func 165) #[] #[.pointer (some ⟨ca,0,none⟩)]]) rfl (fun _ _=>by go_simp) hS21 ?_
   refine tq 6 (.bool true) rfl (fun _ _=>by go_simp) hS21 ?_
   refine wpAnyH_ready (rs:=[7]) (by kernel_rfl) (by simp) ?_;refine AllReadyH.cons rfl (fun K hK=> ?_) AllReadyH.nil
   go_simp
   have al22:=af w13 (.cells #[yi 0,.nilFunc] 125);have q23:=ah w13 [yi 0,.nilFunc] 125;have hl26:w.heap.size≤w13.heap.size:=b19.size;have hl27:=q16.lt;have hl28:=q17.lt;have hl29:=q18.lt;have q30:=q16.l al22;have q31:=q17.l al22;have q32:=q18.l al22;have r33:=r1x15.l al22;have b34:=aa b19 al22;refine hK.out _ _ q31 (fun hS35=> ?_)
   clear hK K;clear q16 q17 q18 r1x15 b19 al22;generalize w13.alloc (.cells #[yi 0,.nilFunc] 125)=WN24 at q30 q31 q32 q23 r33 b34 hS35⊢;generalize w13.heap.size=PQ25 at q23 hl26 hl27 hl28 hl29⊢;refine wpAnyH_ready (rs:=[8]) (by kernel_rfl) (by simp) ?_;refine AllReadyH.cons rfl (fun K hK=> ?_) AllReadyH.nil
   have bu:But PQ25 WN24 (WN24.setCells PQ25 0 [yi 2,.func (.func 165) #[] #[.pointer (some ⟨ca,0,none⟩)]]):=de _ _ _ _;have hth:WN24.there PQ25 0 2:=dD q23;have q36:au (WN24.setCells PQ25 0 [yi 2,.func (.func 165) #[] #[.pointer (some ⟨ca,0,none⟩)]]) PQ25 125 [yi 2,.func (.func 165) #[] #[.pointer (some ⟨ca,0,none⟩)]]:=q23.sets _ rfl;have r37:=r33.off bu q23 (by decide) (by omega);have q38:=bu.loc q30 (by omega);have q39:=bu.loc q31 (by omega);have q40:=bu.loc q32 (by omega);have b41:=bu.below b34 (by omega);rw[if_pos (by kernel_rfl)];refine wp_store_mid 125 (.tmp 6) (.tmp 15) rfl PQ25 0 #[yi 2,.func (.func 165) #[] #[.pointer (some ⟨ca,0,none⟩)]] (by kernel_rfl) (by kernel_rfl) hth (by kernel_rfl) (by simp[Value.oneCell']) ?_;refine hK.out _ _ q39 (fun hS42=> ?_)
   clear hK K;clear q23 r33 q30 q31 q32 b34 bu hth;change wpAnyH _ _ _ _ _ _ _ _ (World.setCells WN24 PQ25 0 [yi 2,.func (.func 165) #[] #[.pointer (some ⟨ca,0,none⟩)]]);generalize World.setCells WN24 PQ25 0 [yi 2,.func (.func 165) #[] #[.pointer (some ⟨ca,0,none⟩)]]=WS43 at q38 q39 q40 q36 r37 b41 hS42⊢;refine tq 9 (.bool true) rfl (fun _ _=>by kernel_rfl) hS42 ?_
   refine wpAnyH_done (by kernel_rfl) ?_ _;clear hS0 hS20 hS21 hS35 hS42;simp only[Act.put,List.getElem_toArray,List.getElem_cons_succ,List.getElem_cons_zero,List.setIfInBounds_toArray,List.set_cons_zero,List.set_cons_succ];obtain⟨c44,c45,c46,c47,c48⟩:=q38.cs5;have c49:=q36.c 0 rfl
   go_wp2_with fail
   refine(HP.out _ b41).mono ?_;rintro zz w50 ⟨vo,vc,rfl,r1x52,bb51⟩;have q53:=q38.l bb51;have q54:=q39.l bb51;have q55:=q40.l bb51;have q56:=q36.l bb51;have r57:=r37.l bb51;have b58:=aa b41 bb51;clear q38 q39 q40 q36 r37 b41 bb51 HP c44 c45 c46 c47 c48 c49;obtain⟨W61,hW60,q62,al59⟩:=cA w50 [yi F,yi W,yi fl,yi tr,.slice vo l.length vc,yi 0] 130;replace hW60:Hid _:=hW60;have hl63:w.heap.size≤w50.heap.size:=b58.size;have hl64:=q53.lt;have hl65:=q54.lt;have hl66:=q55.lt;have hl67:=q56.lt;have q68:=q53.l al59;have q69:=q54.l al59;have q70:=q55.l al59;have q71:=q56.l al59;have r72:=r57.l al59;have r73:=r1x52.l al59;have b74:=aa b58 al59;clear q53 q54 q55 q56 r57 r1x52 b58 al59
   go_upto_region 7 with fail
   rw[hW60.out];clear hW60;obtain⟨c75,c76,c77⟩:=q69.cs3;have c78:=q71.c 1 rfl
   go_wp2_with fail
   refine(HC.out _ _ _ _ _ _ _ _ _ b74 (by omega) q62 r73 r72).mono ?_;rintro zz w79 ⟨uo,uc,rfl,l5,o5,kp⟩;clear c75 c76 c77 c78;have bz:=b74.trans kp.1;have qa:=kp.2 _ _ _ (by omega) (by decide) q68;have qc:=kp.2 _ _ _ (by omega) (by decide) q70;replace hf:=hf.out;replace ht:=ht.out;clear kp HC q68 q70 q62 b74 r73 r72;have c202:=qa.c 3 rfl;have c203:=l5.c 2 rfl;have c204:=l5.c 5 rfl;have bu:=ag w79 w50.heap.size 2 (yi fl2);have q201:au (w79.setCell ⟨w50.heap.size,2,none⟩ (yi fl2)) w50.heap.size 130 [yi F,yi W,yi fl2,yi tr,.slice uo l2.length uc,yi told]:=(l5.set 2 (yi fl2));have c205:=l5.c 2 rfl;have y206:=l5.f 2;have q207:=bu.loc qc (by omega);have r208:=o5.off bu l5 (by simp) (by omega);have b209:=bu.below bz (by omega);clear bu
   go_upto_region 15 with fail
   generalize w79.setCell ⟨w50.heap.size,2,none⟩ (yi fl2)=W210 at q207 q201 r208 b209⊢;clear l5 qa qc o5 bz c202 c203 c204 c205 y206;have c211:=q201.c 0 rfl;have c212:=q201.c 1 rfl;have c213:=q201.c 2 rfl;have c214:=q201.c 3 rfl;have c215:=q201.c 4 rfl;have hf:=dL (P:=Tryz.prog) q207 b209 (by omega) underlying24 rfl (by kernel_rfl) (yi F) (yi W) (yi fl2) (yi tr) (.slice uo l2.length uc);have HH:Hid (_∧_∧_):=⟨hf.1,r208.off hf.2.2 q207 (by simp) (by omega),hf.2.1⟩;obtain⟨⟨z0,z1,z2,z3,z4⟩,y0,y1,y2,y3,y4⟩:=dN q207;clear hf q207 q201 r208 b209
   go_wp2
   obtain⟨hl,rRu,bR⟩:=HH.out;exact bodyPost_ret (aj results29 rfl rfl hl) rfl ⟨uo,uc,rfl,rRu,bR⟩
  ·go_simp
   have al21:=af w13 (.cells #[yi 0,.nilFunc] 125);have q22:=ah w13 [yi 0,.nilFunc] 125;have hl25:w.heap.size≤w13.heap.size:=b19.size;have hl26:=q16.lt;have hl27:=q17.lt;have hl28:=q18.lt;have q29:=q16.l al21;have q30:=q17.l al21;have q31:=q18.l al21;have r32:=r1x15.l al21;have b33:=aa b19 al21;refine hK.out _ _ q30 (fun hS34=> ?_)
   clear hK K;clear q16 q17 q18 r1x15 b19 al21;generalize w13.alloc (.cells #[yi 0,.nilFunc] 125)=WN23 at q29 q30 q31 q22 r32 b33 hS34⊢;generalize w13.heap.size=PQ24 at q22 hl25 hl26 hl27 hl28⊢;refine wpAnyH_ready (rs:=[3]) (by kernel_rfl) (by simp) ?_;refine AllReadyH.cons rfl (fun K hK=> ?_) AllReadyH.nil
   rw[if_pos (by kernel_rfl)];refine wp_yield (.tuple #[.agg #[yi 2,.func (.func 165) #[] #[.pointer (some ⟨ca,0,none⟩)]],.bool true]) (xlook 127 (.tmp 11) (.tmp 13) true rfl _ _ (by kernel_rfl) (by kernel_rfl) (find_ok underlying127 underlying3 r32.1 3 (i:=2) rfl)) ?_;refine hK.out _ _ q30 (fun hS35=> ?_)
   clear hK K;refine tq 4 (.tuple #[.agg #[yi 2,.func (.func 165) #[] #[.pointer (some ⟨ca,0,none⟩)]],.bool true]) rfl (fun _ _=>by kernel_rfl) hS35 ?_
   refine tq 5 (.agg #[yi 2,.func (.func 165) #[] #[.pointer (some ⟨ca,0,none⟩)]]) rfl (fun _ _=>by go_simp) hS35 ?_
   refine tq 6 (.bool true) rfl (fun _ _=>by go_simp) hS35 ?_
   refine wpAnyH_ready (rs:=[8]) (by kernel_rfl) (by simp) ?_;refine AllReadyH.cons rfl (fun K hK=> ?_) AllReadyH.nil
   have bu:But PQ24 WN23 (WN23.setCells PQ24 0 [yi 2,.func (.func 165) #[] #[.pointer (some ⟨ca,0,none⟩)]]):=de _ _ _ _;have hth:WN23.there PQ24 0 2:=dD q22;have q36:au (WN23.setCells PQ24 0 [yi 2,.func (.func 165) #[] #[.pointer (some ⟨ca,0,none⟩)]]) PQ24 125 [yi 2,.func (.func 165) #[] #[.pointer (some ⟨ca,0,none⟩)]]:=q22.sets _ rfl;have r37:=r32.off bu q22 (by decide) (by omega);have q38:=bu.loc q29 (by omega);have q39:=bu.loc q30 (by omega);have q40:=bu.loc q31 (by omega);have b41:=bu.below b33 (by omega);rw[if_pos (by kernel_rfl)];refine wp_store_mid 125 (.tmp 6) (.tmp 15) rfl PQ24 0 #[yi 2,.func (.func 165) #[] #[.pointer (some ⟨ca,0,none⟩)]] (by kernel_rfl) (by kernel_rfl) hth (by kernel_rfl) (by simp[Value.oneCell']) ?_;refine hK.out _ _ q39 (fun hS42=> ?_)
   clear hK K;clear q22 r32 q29 q30 q31 b33 bu hth;change wpAnyH _ _ _ _ _ _ _ _ (World.setCells WN23 PQ24 0 [yi 2,.func (.func 165) #[] #[.pointer (some ⟨ca,0,none⟩)]]);generalize World.setCells WN23 PQ24 0 [yi 2,.func (.func 165) #[] #[.pointer (some ⟨ca,0,none⟩)]]=WS43 at q38 q39 q40 q36 r37 b41 hS42⊢;refine tq 9 (.bool true) rfl (fun _ _=>by kernel_rfl) hS42 ?_
   refine wpAnyH_done (by kernel_rfl) ?_ _;clear hS0 hS20 hS34 hS35 hS42;simp only[Act.put,List.getElem_toArray,List.getElem_cons_succ,List.getElem_cons_zero,List.setIfInBounds_toArray,List.set_cons_zero,List.set_cons_succ];obtain⟨c44,c45,c46,c47,c48⟩:=q38.cs5;have c49:=q36.c 0 rfl
   go_wp2_with fail
   refine(HP.out _ b41).mono ?_;rintro zz w50 ⟨vo,vc,rfl,r1x52,bb51⟩;have q53:=q38.l bb51;have q54:=q39.l bb51;have q55:=q40.l bb51;have q56:=q36.l bb51;have r57:=r37.l bb51;have b58:=aa b41 bb51;clear q38 q39 q40 q36 r37 b41 bb51 HP c44 c45 c46 c47 c48 c49;obtain⟨W61,hW60,q62,al59⟩:=cA w50 [yi F,yi W,yi fl,yi tr,.slice vo l.length vc,yi 0] 130;replace hW60:Hid _:=hW60;have hl63:w.heap.size≤w50.heap.size:=b58.size;have hl64:=q53.lt;have hl65:=q54.lt;have hl66:=q55.lt;have hl67:=q56.lt;have q68:=q53.l al59;have q69:=q54.l al59;have q70:=q55.l al59;have q71:=q56.l al59;have r72:=r57.l al59;have r73:=r1x52.l al59;have b74:=aa b58 al59;clear q53 q54 q55 q56 r57 r1x52 b58 al59
   go_upto_region 7 with fail
   rw[hW60.out];clear hW60;obtain⟨c75,c76,c77⟩:=q69.cs3;have c78:=q71.c 1 rfl
   go_wp2_with fail
   refine(HC.out _ _ _ _ _ _ _ _ _ b74 (by omega) q62 r73 r72).mono ?_;rintro zz w79 ⟨uo,uc,rfl,l5,o5,kp⟩;clear c75 c76 c77 c78;have bz:=b74.trans kp.1;have qa:=kp.2 _ _ _ (by omega) (by decide) q68;have qc:=kp.2 _ _ _ (by omega) (by decide) q70;replace hf:=hf.out;replace ht:=ht.out;clear kp HC q68 q70 q62 b74 r73 r72;have c202:=qa.c 3 rfl;have c203:=l5.c 2 rfl;have c204:=l5.c 5 rfl;have bu:=ag w79 w50.heap.size 2 (yi fl2);have q201:au (w79.setCell ⟨w50.heap.size,2,none⟩ (yi fl2)) w50.heap.size 130 [yi F,yi W,yi fl2,yi tr,.slice uo l2.length uc,yi told]:=(l5.set 2 (yi fl2));have c205:=l5.c 2 rfl;have y206:=l5.f 2;have q207:=bu.loc qc (by omega);have r208:=o5.off bu l5 (by simp) (by omega);have b209:=bu.below bz (by omega);clear bu
   go_upto_region 15 with fail
   generalize w79.setCell ⟨w50.heap.size,2,none⟩ (yi fl2)=W210 at q207 q201 r208 b209⊢;clear l5 qa qc o5 bz c202 c203 c204 c205 y206;have c211:=q201.c 0 rfl;have c212:=q201.c 1 rfl;have c213:=q201.c 2 rfl;have c214:=q201.c 3 rfl;have c215:=q201.c 4 rfl;have hf:=dL (P:=Tryz.prog) q207 b209 (by omega) underlying24 rfl (by kernel_rfl) (yi F) (yi W) (yi fl2) (yi tr) (.slice uo l2.length uc);have HH:Hid (_∧_∧_):=⟨hf.1,r208.off hf.2.2 q207 (by simp) (by omega),hf.2.1⟩;obtain⟨⟨z0,z1,z2,z3,z4⟩,y0,y1,y2,y3,y4⟩:=dN q207;clear hf q207 q201 r208 b209
   go_wp2
   obtain⟨hl,rRu,bR⟩:=HH.out;exact bodyPost_ret (aj results29 rfl rfl hl) rfl ⟨uo,uc,rfl,rRu,bR⟩
 ·go_simp
  have al13:=af WD12 (.cells #[yi 0,.nilFunc] 125);have q14:=ah WD12 [yi 0,.nilFunc] 125;have hl17:w.heap.size≤WD12.heap.size:=b11.size;have hl18:=q8.lt;have hl19:=q9.lt;have hl20:=q10.lt;have q21:=q8.l al13;have q22:=q9.l al13;have q23:=q10.l al13;have b24:=aa b11 al13;refine hK.out _ _ q22 (fun hS25=> ?_)
  clear hK K;clear q8 q9 q10 b11 al13;generalize WD12.alloc (.cells #[yi 0,.nilFunc] 125)=WN15 at q21 q22 q23 q14 b24 hS25⊢;generalize WD12.heap.size=PQ16 at q14 hl17 hl18 hl19 hl20⊢;refine wpAnyH_ready (rs:=[0]) (by kernel_rfl) (by simp) ?_;refine AllReadyH.cons rfl (fun K hK=> ?_) AllReadyH.nil
  go_simp
  refine(HO.out _).mono ?_;rintro zz w26 ⟨mr,ca,cb,cc,cd,rfl,r1x28,bb27⟩;have q29:=q21.l bb27;have q30:=q22.l bb27;have q31:=q23.l bb27;have q32:=q14.l bb27;have b33:=aa b24 bb27;clear q21 q22 q23 q14 b24 bb27 HO;refine hK.out _ _ q30 (fun hS34=> ?_)
  clear hK K;refine wpAnyH_ready (rs:=[3]) (by kernel_rfl) (by simp) ?_;refine AllReadyH.cons rfl (fun K hK=> ?_) AllReadyH.nil
  rw[if_pos (by kernel_rfl)];refine wp_yield (.tuple #[.agg #[yi 2,.func (.func 165) #[] #[.pointer (some ⟨ca,0,none⟩)]],.bool true]) (xlook 127 (.tmp 11) (.tmp 13) true rfl _ _ (by kernel_rfl) (by kernel_rfl) (find_ok underlying127 underlying3 r1x28.1 3 (i:=2) rfl)) ?_;refine hK.out _ _ q30 (fun hS35=> ?_)
  clear hK K;refine tq 4 (.tuple #[.agg #[yi 2,.func (.func 165) #[] #[.pointer (some ⟨ca,0,none⟩)]],.bool true]) rfl (fun _ _=>by kernel_rfl) hS35 ?_
  refine tq 5 (.agg #[yi 2,.func (.func 165) #[] #[.pointer (some ⟨ca,0,none⟩)]]) rfl (fun _ _=>by go_simp) hS35 ?_
  refine tq 6 (.bool true) rfl (fun _ _=>by go_simp) hS35 ?_
  refine wpAnyH_ready (rs:=[8]) (by kernel_rfl) (by simp) ?_;refine AllReadyH.cons rfl (fun K hK=> ?_) AllReadyH.nil
  have bu:But PQ16 w26 (w26.setCells PQ16 0 [yi 2,.func (.func 165) #[] #[.pointer (some ⟨ca,0,none⟩)]]):=de _ _ _ _;have hth:w26.there PQ16 0 2:=dD q32;have q36:au (w26.setCells PQ16 0 [yi 2,.func (.func 165) #[] #[.pointer (some ⟨ca,0,none⟩)]]) PQ16 125 [yi 2,.func (.func 165) #[] #[.pointer (some ⟨ca,0,none⟩)]]:=q32.sets _ rfl;have r37:=r1x28.off bu q32 (by decide) (by omega);have q38:=bu.loc q29 (by omega);have q39:=bu.loc q30 (by omega);have q40:=bu.loc q31 (by omega);have b41:=bu.below b33 (by omega);rw[if_pos (by kernel_rfl)];refine wp_store_mid 125 (.tmp 6) (.tmp 15) rfl PQ16 0 #[yi 2,.func (.func 165) #[] #[.pointer (some ⟨ca,0,none⟩)]] (by kernel_rfl) (by kernel_rfl) hth (by kernel_rfl) (by simp[Value.oneCell']) ?_;refine hK.out _ _ q39 (fun hS42=> ?_)
  clear hK K;clear q32 r1x28 q29 q30 q31 b33 bu hth;change wpAnyH _ _ _ _ _ _ _ _ (World.setCells w26 PQ16 0 [yi 2,.func (.func 165) #[] #[.pointer (some ⟨ca,0,none⟩)]]);generalize World.setCells w26 PQ16 0 [yi 2,.func (.func 165) #[] #[.pointer (some ⟨ca,0,none⟩)]]=WS43 at q38 q39 q40 q36 r37 b41 hS42⊢;refine tq 9 (.bool true) rfl (fun _ _=>by kernel_rfl) hS42 ?_
  refine wpAnyH_done (by kernel_rfl) ?_ _;clear hS0 hS25 hS34 hS35 hS42;simp only[Act.put,List.getElem_toArray,List.getElem_cons_succ,List.getElem_cons_zero,List.setIfInBounds_toArray,List.set_cons_zero,List.set_cons_succ];obtain⟨c44,c45,c46,c47,c48⟩:=q38.cs5;have c49:=q36.c 0 rfl
  go_wp2_with fail
  refine(HP.out _ b41).mono ?_;rintro zz w50 ⟨vo,vc,rfl,r1x52,bb51⟩;have q53:=q38.l bb51;have q54:=q39.l bb51;have q55:=q40.l bb51;have q56:=q36.l bb51;have r57:=r37.l bb51;have b58:=aa b41 bb51;clear q38 q39 q40 q36 r37 b41 bb51 HP c44 c45 c46 c47 c48 c49;obtain⟨W61,hW60,q62,al59⟩:=cA w50 [yi F,yi W,yi fl,yi tr,.slice vo l.length vc,yi 0] 130;replace hW60:Hid _:=hW60;have hl63:w.heap.size≤w50.heap.size:=b58.size;have hl64:=q53.lt;have hl65:=q54.lt;have hl66:=q55.lt;have hl67:=q56.lt;have q68:=q53.l al59;have q69:=q54.l al59;have q70:=q55.l al59;have q71:=q56.l al59;have r72:=r57.l al59;have r73:=r1x52.l al59;have b74:=aa b58 al59;clear q53 q54 q55 q56 r57 r1x52 b58 al59
  go_upto_region 7 with fail
  rw[hW60.out];clear hW60;obtain⟨c75,c76,c77⟩:=q69.cs3;have c78:=q71.c 1 rfl
  go_wp2_with fail
  refine(HC.out _ _ _ _ _ _ _ _ _ b74 (by omega) q62 r73 r72).mono ?_;rintro zz w79 ⟨uo,uc,rfl,l5,o5,kp⟩;clear c75 c76 c77 c78;have bz:=b74.trans kp.1;have qa:=kp.2 _ _ _ (by omega) (by decide) q68;have qc:=kp.2 _ _ _ (by omega) (by decide) q70;replace hf:=hf.out;replace ht:=ht.out;clear kp HC q68 q70 q62 b74 r73 r72;have c202:=qa.c 3 rfl;have c203:=l5.c 2 rfl;have c204:=l5.c 5 rfl;have bu:=ag w79 w50.heap.size 2 (yi fl2);have q201:au (w79.setCell ⟨w50.heap.size,2,none⟩ (yi fl2)) w50.heap.size 130 [yi F,yi W,yi fl2,yi tr,.slice uo l2.length uc,yi told]:=(l5.set 2 (yi fl2));have c205:=l5.c 2 rfl;have y206:=l5.f 2;have q207:=bu.loc qc (by omega);have r208:=o5.off bu l5 (by simp) (by omega);have b209:=bu.below bz (by omega);clear bu
  go_upto_region 15 with fail
  generalize w79.setCell ⟨w50.heap.size,2,none⟩ (yi fl2)=W210 at q207 q201 r208 b209⊢;clear l5 qa qc o5 bz c202 c203 c204 c205 y206;have c211:=q201.c 0 rfl;have c212:=q201.c 1 rfl;have c213:=q201.c 2 rfl;have c214:=q201.c 3 rfl;have c215:=q201.c 4 rfl;have hf:=dL (P:=Tryz.prog) q207 b209 (by omega) underlying24 rfl (by kernel_rfl) (yi F) (yi W) (yi fl2) (yi tr) (.slice uo l2.length uc);have HH:Hid (_∧_∧_):=⟨hf.1,r208.off hf.2.2 q207 (by simp) (by omega),hf.2.1⟩;obtain⟨⟨z0,z1,z2,z3,z4⟩,y0,y1,y2,y3,y4⟩:=dN q207;clear hf q207 q201 r208 b209
  go_wp2
  obtain⟨hl,rRu,bR⟩:=HH.out;exact bodyPost_ret (aj results29 rfl rfl hl) rfl ⟨uo,uc,rfl,rRu,bR⟩
end Go.Proofs.YtdhpndnncmagiaaGreatDoor
