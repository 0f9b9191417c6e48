/-
  Texts laid together: Ty2.
-/
import Derived.Test.YtpgijbdgljkeeaaGreatDoorUb01
set_option maxRecDepth 100000
set_option maxHeartbeats 3200000
namespace Go.Proofs.YtpgijbdgljkeeaaGreatDoor
open _root_.Go.Proofs.Tryz
open Go.RowKit
def DgW (w:World)(p6 p7:Nat)(n d:Nat)(wr:World):Prop:=
 yB w wr∧ ∃v u:Value,au wr p6 29 [v]∧au wr p7 29 [u]∧Rd wr .i64 v (Dg.dg 65536 n)∧Rd wr .i64 u (Dg.dg 65536 d)
def DgA (w:World)(p6 p7:Nat)(n d:Nat)(_:Int)(pv:Value)(wr:World):Prop:= ∃p:Int,pv=yi p∧ -6000≤p∧p≤6000∧DgW w p6 p7 n d wr
def DgB (w:World)(p6 p7:Nat)(n d:Nat)(P:Int)(pv:Value)(wr:World):Prop:= ∃p:Int,pv=yi p∧ -6000≤p∧p≤P∧DgW w p6 p7 n d wr
theorem rd_two {w:World}{q:Nat}(h:au w q 3 [yi 2]):Rd w .i64 (.slice (some ⟨q,0,none⟩) 1 1) (Dg.dg 65536 2):=by
 rw[show Dg.dg 65536 2=[2] by decide]
 exact⟨_,1,rfl,Nat.le_refl _,by unfold maxLen;omega,fun _=>⟨q,0,rfl,fun i hi=>by
  obtain rfl:i=0:=by simpa using hi
  exact h.c 0 rfl⟩⟩
theorem over_up (num den N T:Nat)(p:Int)(no yo:Option Addr)(nc yc:Nat)(pn pd:Nat)(c:Int)(B:Bool)(w:World)(ln:w.rangeAt pn 0 [yS no num nc])(ld:w.rangeAt pd 0 [yS yo den yc])(rn:Rd w .i64 (yS no num nc) (Dg.dg 65536 num))(rd:Rd w .i64 (yS yo den yc) (Dg.dg 65536 den))(hB:decide (0<c)=B)(hp:0≤p)
  (HP: ∀w1,yB w w1→yC 108 #[yi p] w1 (cG w1 T))
  (HT: ∀yo yc ko kc w1,yB w w1→Rd w1 .i64 (yS yo den yc) (Dg.dg 65536 den)→Rd w1 .i64 (yS ko T kc) (Dg.dg 65536 T)→yC 34 #[yS yo den yc,yS ko T kc] w1 (cG w1 N))
  (HC: ∀mo mc no nc w1,yB w w1→Rd w1 .i64 (yS mo N mc) (Dg.dg 65536 N)→Rd w1 .i64 (yS no num nc) (Dg.dg 65536 num)→yC 54 #[yS mo N mc,yS no num nc] w1 (yR w1 (yi c))):
  yC 107 #[yi p,.pointer (some ⟨pd,0,none⟩),.pointer (some ⟨pn,0,none⟩)] w (yR w (.bool B)):=by
 replace HP:Hid _:=HP;replace HT:Hid _:=HT;replace HC:Hid _:=HC
 go_enter func107,ntmps107
 have b0:=Below.refl w.heap.size w
 go_upto_region 2 with fail
 have bW1:yB w w.drew:=(Below.refl _ _).drew;have q2:=aC ld bW1;have q3:=aC ln bW1;have r4:=rn.l bW1;have r5:=rd.l bW1;have b6:=aa b0 bW1;clear ld ln rn rd b0 bW1;refine wp_region_held_drew (S:=fun wq=>wq.rangeAt pd 0 [yS yo den yc]∧wq.rangeAt pn 0 [yS no num nc]) (by kernel_rfl) ⟨q2,q3⟩ (fun hS0=> ?_)
 generalize w.drew=WD7 at q2 q3 r4 r5 b6 hS0⊢;refine tq 0 (yS yo den yc) rfl (fun _ hw0=>gU 29 (.tmp 1) rfl pd 0 (by kernel_rfl) _ _ underlying29 rfl (hw0.1 0 _ rfl)) hS0 ?_
 refine tq 1 (yi p) rfl (fun _ _=>by kernel_rfl) hS0 ?_
 refine tq 4 (yS no num nc) rfl (fun _ hw0=>gU 29 (.tmp 2) rfl pn 0 (by kernel_rfl) _ _ underlying29 rfl (hw0.2 0 _ rfl)) hS0 ?_
 refine wpAnyH_ready (rs:=[2]) (by kernel_rfl) (by simp) ?_;refine AllReadyH.cons rfl (fun K hK=> ?_) AllReadyH.nil
 go_simp
 refine(HP.out _ b6).mono ?_;rintro zz w8 ⟨v1x10,rfl,r1x11,bb9⟩;have q12:=aC q2 bb9;have q13:=aC q3 bb9;have r14:=r4.l bb9;have r15:=r5.l bb9;have b16:=aa b6 bb9;obtain⟨ko,kc,hv⟩:=r1x11.shape;subst hv;clear q2 q3 r4 r5 b6 bb9 HP;refine hK.out _ _ ⟨q12,q13⟩ (fun hS17=> ?_)
 clear hK K;refine wpAnyH_ready (rs:=[3]) (by kernel_rfl) (by simp) ?_;refine AllReadyH.cons rfl (fun K hK=> ?_) AllReadyH.nil
 go_simp
 refine(HT.out _ _ _ _ _ b16 r15 r1x11).mono ?_;rintro zz w18 ⟨v1x20,rfl,r1x21,bb19⟩;have q22:=aC q12 bb19;have q23:=aC q13 bb19;have r24:=r14.l bb19;have b25:=aa b16 bb19;obtain⟨mo,mc,hv⟩:=r1x21.shape;subst hv;clear q12 q13 r14 r15 r1x11 b16 bb19 HT;refine hK.out _ _ ⟨q22,q23⟩ (fun hS26=> ?_)
 clear hK K;refine wpAnyH_ready (rs:=[5]) (by kernel_rfl) (by simp) ?_;refine AllReadyH.cons rfl (fun K hK=> ?_) AllReadyH.nil
 go_simp
 refine(HC.out _ _ _ _ _ b25 r1x21 r24).mono ?_;rintro zz w27 ⟨rfl,bb28⟩;have q29:=aC q22 bb28;have q30:=aC q23 bb28;have b31:=aa b25 bb28;clear q22 q23 r24 r1x21 b25 bb28 HC;refine hK.out _ _ ⟨q29,q30⟩ (fun hS32=> ?_)
 clear hK K;refine tq 6 (.bool B) rfl (fun _ _=>by go_simp) hS32 ?_
 refine tq 7 (.bool B) rfl (fun _ _=>by kernel_rfl) hS32 ?_
 refine wpAnyH_done (by kernel_rfl) ?_ _;clear hS0 hS17 hS26 hS32;simp only[Act.put,List.getElem_toArray,List.getElem_cons_succ,List.getElem_cons_zero,List.setIfInBounds_toArray,List.set_cons_zero,List.set_cons_succ]
 go_wp2
 go_ret
 exact⟨by rfl,b31⟩
theorem over_down (num den N T:Nat)(p:Int)(no yo:Option Addr)(nc yc:Nat)(pn pd:Nat)(c pm:Int)(B:Bool)(w:World)(ln:w.rangeAt pn 0 [yS no num nc])(ld:w.rangeAt pd 0 [yS yo den yc])(rn:Rd w .i64 (yS no num nc) (Dg.dg 65536 num))(rd:Rd w .i64 (yS yo den yc) (Dg.dg 65536 den))(hB:decide (0<c)=B)(hp: ¬0≤p)(hpm:IntKind.i64.wrap (-p)=pm)
  (HP: ∀w1,yB w w1→yC 108 #[yi pm] w1 (cG w1 T))
  (HT: ∀no nc ko kc w1,yB w w1→Rd w1 .i64 (yS no num nc) (Dg.dg 65536 num)→Rd w1 .i64 (yS ko T kc) (Dg.dg 65536 T)→yC 34 #[yS no num nc,yS ko T kc] w1 (cG w1 N))
  (HC: ∀yo yc mo mc w1,yB w w1→Rd w1 .i64 (yS yo den yc) (Dg.dg 65536 den)→Rd w1 .i64 (yS mo N mc) (Dg.dg 65536 N)→yC 54 #[yS yo den yc,yS mo N mc] w1 (yR w1 (yi c))):
  yC 107 #[yi p,.pointer (some ⟨pd,0,none⟩),.pointer (some ⟨pn,0,none⟩)] w (yR w (.bool B)):=by
 replace HP:Hid _:=HP;replace HT:Hid _:=HT;replace HC:Hid _:=HC
 go_enter func107,ntmps107
 have b0:=Below.refl w.heap.size w
 go_upto_region 3 with fail
 have bW1:yB w w.drew:=(Below.refl _ _).drew;have q2:=aC ld bW1;have q3:=aC ln bW1;have r4:=rn.l bW1;have r5:=rd.l bW1;have b6:=aa b0 bW1;clear ld ln rn rd b0 bW1;refine wp_region_held_drew (S:=fun wq=>wq.rangeAt pd 0 [yS yo den yc]∧wq.rangeAt pn 0 [yS no num nc]) (by kernel_rfl) ⟨q2,q3⟩ (fun hS0=> ?_)
 generalize w.drew=WD7 at q2 q3 r4 r5 b6 hS0⊢;refine tq 0 (yS yo den yc) rfl (fun _ hw0=>gU 29 (.tmp 1) rfl pd 0 (by kernel_rfl) _ _ underlying29 rfl (hw0.1 0 _ rfl)) hS0 ?_
 refine tq 1 (yS no num nc) rfl (fun _ hw0=>gU 29 (.tmp 2) rfl pn 0 (by kernel_rfl) _ _ underlying29 rfl (hw0.2 0 _ rfl)) hS0 ?_
 refine tq 2 (yi p) rfl (fun _ _=>by kernel_rfl) hS0 ?_
 refine tq 3 (yi pm) rfl (fun _ _=>by go_simp) hS0 ?_
 refine wpAnyH_ready (rs:=[4]) (by kernel_rfl) (by simp) ?_;refine AllReadyH.cons rfl (fun K hK=> ?_) AllReadyH.nil
 go_simp
 refine(HP.out _ b6).mono ?_;rintro zz w8 ⟨v1x10,rfl,r1x11,bb9⟩;have q12:=aC q2 bb9;have q13:=aC q3 bb9;have r14:=r4.l bb9;have r15:=r5.l bb9;have b16:=aa b6 bb9;obtain⟨ko,kc,hv⟩:=r1x11.shape;subst hv;clear q2 q3 r4 r5 b6 bb9 HP;refine hK.out _ _ ⟨q12,q13⟩ (fun hS17=> ?_)
 clear hK K;refine wpAnyH_ready (rs:=[5]) (by kernel_rfl) (by simp) ?_;refine AllReadyH.cons rfl (fun K hK=> ?_) AllReadyH.nil
 go_simp
 refine(HT.out _ _ _ _ _ b16 r14 r1x11).mono ?_;rintro zz w18 ⟨v1x20,rfl,r1x21,bb19⟩;have q22:=aC q12 bb19;have q23:=aC q13 bb19;have r24:=r15.l bb19;have b25:=aa b16 bb19;obtain⟨mo,mc,hv⟩:=r1x21.shape;subst hv;clear q12 q13 r14 r15 r1x11 b16 bb19 HT;refine hK.out _ _ ⟨q22,q23⟩ (fun hS26=> ?_)
 clear hK K;refine wpAnyH_ready (rs:=[6]) (by kernel_rfl) (by simp) ?_;refine AllReadyH.cons rfl (fun K hK=> ?_) AllReadyH.nil
 go_simp
 refine(HC.out _ _ _ _ _ b25 r24 r1x21).mono ?_;rintro zz w27 ⟨rfl,bb28⟩;have q29:=aC q22 bb28;have q30:=aC q23 bb28;have b31:=aa b25 bb28;clear q22 q23 r24 r1x21 b25 bb28 HC;refine hK.out _ _ ⟨q29,q30⟩ (fun hS32=> ?_)
 clear hK K;refine tq 7 (.bool B) rfl (fun _ _=>by go_simp) hS32 ?_
 refine tq 8 (.bool B) rfl (fun _ _=>by kernel_rfl) hS32 ?_
 refine wpAnyH_done (by kernel_rfl) ?_ _;clear hS0 hS17 hS26 hS32;simp only[Act.put,List.getElem_toArray,List.getElem_cons_succ,List.getElem_cons_zero,List.setIfInBounds_toArray,List.set_cons_zero,List.set_cons_succ]
 go_wp2
 go_ret
 exact⟨by rfl,b31⟩
end Go.Proofs.YtpgijbdgljkeeaaGreatDoor
