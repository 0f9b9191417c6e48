/-
  Texts laid together: Br2.
-/
import Derived.Test.YtiakgfmlpdfhdaaGreatDoorTa05
set_option maxRecDepth 100000
set_option maxHeartbeats 25600000
namespace Go.Proofs.YtiakgfmlpdfhdaaGreatDoor
open _root_.Go.Proofs.Tryz
open Go.RowKit
theorem lawSame_W (p q:ak)(x y:ak)(xo yo:Option Addr)(xc yc:Nat)(px py:Nat)(m c:Int)(B:Bool)(w:World)(lx:w.rangeAt px 0 (ydL x.s (yS xo x.n xc) x.e))(ly:w.rangeAt py 0 (ydL y.s (yS yo y.n yc) y.e))(hB:(c==0)=B)
  (D1: ∀w1,yB w w1→yC 12 #[ydV x.s (yS xo x.n xc) x.e,yi m,.bool false] w1 (dr w1 p))
  (D2: ∀w1,yB w w1→yC 12 #[ydV y.s (yS yo y.n yc) y.e,yi m,.bool false] w1 (dr w1 q))
  (D3: ∀po pc qo qc w1,yB w w1→Rd w1 .i64 (yS po p.n pc) (Dg.dg 65536 p.n)→Rd w1 .i64 (yS qo q.n qc) (Dg.dg 65536 q.n)→yC 11 #[ydV p.s (yS po p.n pc) p.e,ydV q.s (yS qo q.n qc) q.e] w1 (yR w1 (yi c))):
  yC 10 #[yi m,.pointer (some ⟨px,0,none⟩),.pointer (some ⟨py,0,none⟩)] w (yR w (.bool B)):=by
 replace D1:Hid _:=D1;replace D2:Hid _:=D2;replace D3:Hid _:=D3
 go_enter func10,ntmps10
 have b0:=Below.refl w.heap.size w
 go_upto_region 1 with fail
 have bW1:yB w w.drew:=(Below.refl _ _).drew;have q2:=aC lx bW1;have q3:=aC ly bW1;have b4:=aa b0 bW1;clear lx ly b0 bW1;refine wp_region_held_drew (S:=fun wq=>wq.rangeAt px 0 (ydL x.s (yS xo x.n xc) x.e)∧wq.rangeAt py 0 (ydL y.s (yS yo y.n yc) y.e)) (by kernel_rfl) ⟨q2,q3⟩ (fun hS0=> ?_)
 generalize w.drew=WD5 at q2 q3 b4 hS0⊢;refine tq 0 (ydV x.s (yS xo x.n xc) x.e) rfl (fun _ hw0=>fy 35 (.tmp 1) rfl px 0 (by kernel_rfl) _ _ hw0.1 underlying35 rfl (by kernel_rfl)) hS0 ?_
 refine tq 1 (yi m) rfl (fun _ _=>by kernel_rfl) hS0 ?_
 refine tq 3 (ydV y.s (yS yo y.n yc) y.e) rfl (fun _ hw0=>fy 35 (.tmp 2) rfl py 0 (by kernel_rfl) _ _ hw0.2 underlying35 rfl (by kernel_rfl)) hS0 ?_
 refine tq 4 (yi m) rfl (fun _ _=>by kernel_rfl) hS0 ?_
 refine wpAnyH_ready (rs:=[2]) (by kernel_rfl) (by simp) ?_;refine AllReadyH.cons rfl (fun K hK=> ?_) AllReadyH.nil
 go_simp
 refine(D1.out _ b4).mono ?_;rintro zz w6 ⟨v1x8,rfl,r1x9,bb7⟩;have q10:=aC q2 bb7;have q11:=aC q3 bb7;have b12:=aa b4 bb7;obtain⟨po,pc,hv⟩:=r1x9.shape;subst hv;clear q2 q3 b4 bb7 D1;refine hK.out _ _ ⟨q10,q11⟩ (fun hS13=> ?_)
 clear hK K;refine wpAnyH_ready (rs:=[5]) (by kernel_rfl) (by simp) ?_;refine AllReadyH.cons rfl (fun K hK=> ?_) AllReadyH.nil
 go_simp
 refine(D2.out _ b12).mono ?_;rintro zz w14 ⟨v1x16,rfl,r1x17,bb15⟩;have q18:=aC q10 bb15;have q19:=aC q11 bb15;have r20:=r1x9.l bb15;have b21:=aa b12 bb15;obtain⟨qo,qc,hv⟩:=r1x17.shape;subst hv;clear q10 q11 r1x9 b12 bb15 D2;refine hK.out _ _ ⟨q18,q19⟩ (fun hS22=> ?_)
 clear hK K;refine wpAnyH_ready (rs:=[6]) (by kernel_rfl) (by simp) ?_;refine AllReadyH.cons rfl (fun K hK=> ?_) AllReadyH.nil
 go_simp
 refine(D3.out _ _ _ _ _ b21 r20 r1x17).mono ?_;rintro zz w23 ⟨rfl,bb24⟩;have q25:=aC q18 bb24;have q26:=aC q19 bb24;have b27:=aa b21 bb24;clear q18 q19 r20 r1x17 b21 bb24 D3;refine hK.out _ _ ⟨q25,q26⟩ (fun hS28=> ?_)
 clear hK K;refine tq 7 (.bool B) rfl (fun _ _=>by go_simp) hS28 ?_
 refine tq 8 (.bool B) rfl (fun _ _=>by kernel_rfl) hS28 ?_
 refine wpAnyH_done (by kernel_rfl) ?_ _;clear hS0 hS13 hS22 hS28;simp only[Act.put,List.getElem_toArray,List.getElem_cons_succ,List.getElem_cons_zero,List.setIfInBounds_toArray,List.set_cons_zero,List.set_cons_succ]
 go_wp2
 go_ret
 exact⟨by rfl,b27⟩
theorem brackets_err (sa sb:Bool)(ao bo:Option Addr)(la lb ac bc:Nat)(ea eb:Int)(m k:Int)(w:World)(hk:(k==0)=false)
  (HK:yH w 5 #[.agg #[.bool sa,.slice ao la ac,yi ea,.bool sb,.slice bo lb bc,yi eb],yi m] (.tuple #[yi 0,.bool false,yi k]))
  (HC:yH w 6 #[.agg #[.bool sa,.slice ao la ac,yi ea,.bool sb,.slice bo lb bc,yi eb]] (yi k))
  (HB:yH w 7 #[] (.bool true)):
  yC 3 #[.agg #[.bool sa,.slice ao la ac,yi ea,.bool sb,.slice bo lb bc,yi eb],yi m] w (yR w (.bool true)):=by
 replace HK:Hid _:=HK;replace HC:Hid _:=HC;replace HB:Hid _:=HB;obtain⟨W3,hW4,q1,b2⟩:=cA w [.bool sa,.slice ao la ac,yi ea,.bool sb,.slice bo lb bc,yi eb] 27;replace hW4:Hid _:=hW4
 go_enter func3,ntmps3
 go_upto_region 1 with fail
 rw[hW4.out];clear hW4;obtain⟨c5,c6,c7,c8,c9,c10⟩:=q1.cs6
 go_wp2_with fail
 refine(HK.out _ b2).mono ?_;rintro zz w11 ⟨rfl,bb12⟩;have q13:=q1.l bb12;have b14:=aa b2 bb12;clear q1 b2 bb12 HK c5 c6 c7 c8 c9 c10;obtain⟨c15,c16,c17,c18,c19,c20⟩:=q13.cs6
 go_wp2_with fail
 refine(HC.out _ b14).mono ?_;rintro zz w21 ⟨rfl,bb22⟩;have b23:=aa b14 bb22;clear q13 b14 bb22 HC c15 c16 c17 c18 c19 c20
 go_wp2_with fail
 refine(HB.out _ b23).mono ?_;rintro zz w24 ⟨rfl,bb25⟩;have b26:=aa b23 bb25;clear b23 bb25
 go_wp2_with fail
 refine(HB.out _ b26).mono ?_;rintro zz w27 ⟨rfl,bb28⟩;have b29:=aa b26 bb28;clear b26 bb28 HB
 go_wp2
 go_ret
 exact⟨by simp,b29⟩
theorem brackets_low (sa sb:Bool)(ao bo:Option Addr)(la lb ac bc:Nat)(ea eb:Int)(m:Int)(w:World)(hm:m<1)
  (HK:yH w 5 #[.agg #[.bool sa,.slice ao la ac,yi ea,.bool sb,.slice bo lb bc,yi eb],yi m] (.tuple #[yi 0,.bool false,yi 3]))
  (HC:yH w 6 #[.agg #[.bool sa,.slice ao la ac,yi ea,.bool sb,.slice bo lb bc,yi eb]] (yi 0))
  (HB:yH w 7 #[] (.bool true)):
  yC 3 #[.agg #[.bool sa,.slice ao la ac,yi ea,.bool sb,.slice bo lb bc,yi eb],yi m] w (yR w (.bool true)):=by
 replace HK:Hid _:=HK;replace HC:Hid _:=HC;replace HB:Hid _:=HB;obtain⟨W3,hW4,q1,b2⟩:=cA w [.bool sa,.slice ao la ac,yi ea,.bool sb,.slice bo lb bc,yi eb] 27;replace hW4:Hid _:=hW4
 go_enter func3,ntmps3
 go_upto_region 1 with fail
 rw[hW4.out];clear hW4;obtain⟨c5,c6,c7,c8,c9,c10⟩:=q1.cs6
 go_wp2_with fail
 refine(HK.out _ b2).mono ?_;rintro zz w11 ⟨rfl,bb12⟩;have q13:=q1.l bb12;have b14:=aa b2 bb12;clear q1 b2 bb12 HK c5 c6 c7 c8 c9 c10;obtain⟨c15,c16,c17,c18,c19,c20⟩:=q13.cs6
 go_wp2_with fail
 refine(HC.out _ b14).mono ?_;rintro zz w21 ⟨rfl,bb22⟩;have b23:=aa b14 bb22;clear q13 b14 bb22 HC c15 c16 c17 c18 c19 c20
 go_wp2_with fail
 refine(HB.out _ b23).mono ?_;rintro zz w24 ⟨rfl,bb25⟩;have b26:=aa b23 bb25;clear b23 bb25
 go_wp2_with fail
 refine(HB.out _ b26).mono ?_;rintro zz w27 ⟨rfl,bb28⟩;have b29:=aa b26 bb28;clear b26 bb28 HB
 go_wp2
 go_ret
 exact⟨by simp,b29⟩
theorem brackets_high (sa sb:Bool)(ao bo:Option Addr)(la lb ac bc:Nat)(ea eb:Int)(m:Int)(w:World)(hm1: ¬m<1)(hm:4096<m)
  (HK:yH w 5 #[.agg #[.bool sa,.slice ao la ac,yi ea,.bool sb,.slice bo lb bc,yi eb],yi m] (.tuple #[yi 0,.bool false,yi 3]))
  (HC:yH w 6 #[.agg #[.bool sa,.slice ao la ac,yi ea,.bool sb,.slice bo lb bc,yi eb]] (yi 0))
  (HB:yH w 7 #[] (.bool true)):
  yC 3 #[.agg #[.bool sa,.slice ao la ac,yi ea,.bool sb,.slice bo lb bc,yi eb],yi m] w (yR w (.bool true)):=by
 replace HK:Hid _:=HK;replace HC:Hid _:=HC;replace HB:Hid _:=HB;obtain⟨W3,hW4,q1,b2⟩:=cA w [.bool sa,.slice ao la ac,yi ea,.bool sb,.slice bo lb bc,yi eb] 27;replace hW4:Hid _:=hW4
 go_enter func3,ntmps3
 go_upto_region 1 with fail
 rw[hW4.out];clear hW4;obtain⟨c5,c6,c7,c8,c9,c10⟩:=q1.cs6
 go_wp2_with fail
 refine(HK.out _ b2).mono ?_;rintro zz w11 ⟨rfl,bb12⟩;have q13:=q1.l bb12;have b14:=aa b2 bb12;clear q1 b2 bb12 HK c5 c6 c7 c8 c9 c10;obtain⟨c15,c16,c17,c18,c19,c20⟩:=q13.cs6
 go_wp2_with fail
 refine(HC.out _ b14).mono ?_;rintro zz w21 ⟨rfl,bb22⟩;have b23:=aa b14 bb22;clear q13 b14 bb22 HC c15 c16 c17 c18 c19 c20
 go_wp2_with fail
 refine(HB.out _ b23).mono ?_;rintro zz w24 ⟨rfl,bb25⟩;have b26:=aa b23 bb25;clear b23 bb25
 go_wp2_with fail
 refine(HB.out _ b26).mono ?_;rintro zz w27 ⟨rfl,bb28⟩;have b29:=aa b26 bb28;clear b26 bb28 HB
 go_wp2
 go_ret
 exact⟨by simp,b29⟩
theorem brackets_sign_p (x y:ak)(sa sb:Bool)(ao bo:Option Addr)(la lb ac bc:Nat)(ea eb:Int)(m sg:Int)(w:World)(hm1: ¬m<1)(hm: ¬4096<m)(hs:sg≤0)
  (HK:yH w 5 #[.agg #[.bool sa,.slice ao la ac,yi ea,.bool sb,.slice bo lb bc,yi eb],yi m] (.tuple #[yi 0,.bool false,yi 0]))
  (HC:yH w 6 #[.agg #[.bool sa,.slice ao la ac,yi ea,.bool sb,.slice bo lb bc,yi eb]] (yi 0))
  (HB:yH w 7 #[] (.bool true))
  (HO: ∀w1,yB w w1→yC 8 #[.agg #[.bool sa,.slice ao la ac,yi ea,.bool sb,.slice bo lb bc,yi eb]] w1 (fun z w'=> ∃xv yv,z= .returned (.agg #[.bool false,xv,yi x.e,.bool y.s,yv,yi y.e])∧Rd w' .i64 xv (Dg.dg 65536 x.n)∧Rd w' .i64 yv (Dg.dg 65536 y.n)∧yB w1 w'))
  (HD: ∀xo xc w1,yB w w1→Rd w1 .i64 (yS xo x.n xc) (Dg.dg 65536 x.n)→yC 13 #[ydV false (yS xo x.n xc) x.e] w1 (yR w1 (yi sg))):
  yC 3 #[.agg #[.bool sa,.slice ao la ac,yi ea,.bool sb,.slice bo lb bc,yi eb],yi m] w (yR w (.bool true)):=by
 replace HK:Hid _:=HK;replace HC:Hid _:=HC;replace HB:Hid _:=HB;replace HO:Hid _:=HO;replace HD:Hid _:=HD;obtain⟨W3,hW4,q1,b2⟩:=cA w [.bool sa,.slice ao la ac,yi ea,.bool sb,.slice bo lb bc,yi eb] 27;replace hW4:Hid _:=hW4
 go_enter func3,ntmps3
 go_upto_region 1 with fail
 rw[hW4.out];clear hW4;obtain⟨c5,c6,c7,c8,c9,c10⟩:=q1.cs6
 go_wp2_with fail
 refine(HK.out _ b2).mono ?_;rintro zz w11 ⟨rfl,bb12⟩;have q13:=q1.l bb12;have b14:=aa b2 bb12;clear q1 b2 bb12 HK c5 c6 c7 c8 c9 c10;obtain⟨c15,c16,c17,c18,c19,c20⟩:=q13.cs6
 go_wp2_with fail
 refine(HC.out _ b14).mono ?_;rintro zz w21 ⟨rfl,bb22⟩;have q23:=q13.l bb22;have b24:=aa b14 bb22;clear q13 b14 bb22 HC c15 c16 c17 c18 c19 c20
 go_wp2_with fail
 refine(HB.out _ b24).mono ?_;rintro zz w25 ⟨rfl,bb26⟩;have q27:=q23.l bb26;have b28:=aa b24 bb26;clear q23 b24 bb26 HB;obtain⟨c29,c30,c31,c32,c33,c34⟩:=q27.cs6
 go_wp2_with fail
 refine(HO.out _ b28).mono ?_;rintro zz w35 ⟨v1x37,v2x38,rfl,r1x39,r2x40,bb36⟩;have b41:=aa b28 bb36;obtain⟨xo,xc,hv⟩:=r1x39.shape;subst hv;obtain⟨yo,yc,hv⟩:=r2x40.shape;subst hv;clear q27 b28 bb36 HO c29 c30 c31 c32 c33 c34;obtain⟨W44,hW43,q45,al42⟩:=cA w35 [.bool false,yS xo x.n xc,yi x.e,.bool y.s,yS yo y.n yc,yi y.e] 37;replace hW43:Hid _:=hW43;have hl46:w.heap.size≤w35.heap.size:=b41.size;have r47:=r1x39.l al42;have b48:=aa b41 al42;clear r1x39 r2x40 b41 al42
 go_upto_region 8 with fail
 rw[hW43.out];clear hW43
 go_upto_region 8 with fail
 have bW49:yB W44 W44.drew:=(Below.refl _ _).drew;have q50:=q45.l bW49;have r51:=r47.l bW49;have b52:=aa b48 bW49;clear q45 r47 b48 bW49;refine wp_region_held_drew (S:=fun wq=>au wq w35.heap.size 37 [.bool false,yS xo x.n xc,yi x.e,.bool y.s,yS yo y.n yc,yi y.e]) (by kernel_rfl) q50 (fun hS0=> ?_)
 generalize W44.drew=WD53 at q50 r51 b52 hS0⊢;refine tq 0 (.pointer (some ⟨w35.heap.size,0,none⟩)) rfl (fun _ _=>by kernel_rfl) hS0 ?_
 refine tq 1 (ydV false (yS xo x.n xc) x.e) rfl (fun _ hw0=>fy 35 (.tmp 59) rfl w35.heap.size 0 (by kernel_rfl) _ _ (kY hw0 0 3 rfl) underlying35 rfl (by kernel_rfl)) hS0 ?_
 refine tq 2 (.pointer (some ⟨w35.heap.size,3,none⟩)) rfl (fun _ _=>by kernel_rfl) hS0 ?_
 refine tq 3 (ydV y.s (yS yo y.n yc) y.e) rfl (fun _ hw0=>fy 35 (.tmp 61) rfl w35.heap.size 3 (by kernel_rfl) _ _ (kY hw0 3 3 rfl) underlying35 rfl (by kernel_rfl)) hS0 ?_
 refine wpAnyH_ready (rs:=[4,5]) (by kernel_rfl) (by simp) ?_;refine AllReadyH.cons rfl (fun K hK=> ?_) (AllReadyH.cons rfl (fun K hK=> ?_) AllReadyH.nil)
 ·go_simp
  have al54:=af WD53 (.cells (ydA false yN 0) 35);have q55:=ah WD53 (ydL false yN 0) 35;have hl58:w.heap.size≤WD53.heap.size:=b52.size;have hl59:=q50.lt;have of60:=t9 r51 (Nat.le_refl WD53.heap.size);have q61:=q50.l al54;have r62:=r51.l al54;have b63:=aa b52 al54;refine hK.out _ _ q61 (fun hS64=> ?_)
  clear hK K;clear q50 r51 b52 al54;generalize WD53.alloc (.cells (ydA false yN 0) 35)=WN56 at q61 q55 r62 b63 hS64⊢;generalize WD53.heap.size=PQ57 at q55 hl58 hl59 of60⊢;refine wpAnyH_ready (rs:=[5]) (by kernel_rfl) (by simp) ?_;refine AllReadyH.cons rfl (fun K hK=> ?_) AllReadyH.nil
  go_simp
  have al65:=af WN56 (.cells (ydA false yN 0) 35);have q66:=ah WN56 (ydL false yN 0) 35;have hl69:w.heap.size≤WN56.heap.size:=b63.size;have hl70:=q61.lt;have hl71:=q55.lt;have of72:=t9 r62 (Nat.le_refl WN56.heap.size);have q73:=q61.l al65;have q74:=q55.l al65;have r75:=r62.l al65;have b76:=aa b63 al65;refine hK.out _ _ q73 (fun hS77=> ?_)
  clear hK K;clear q61 q55 r62 b63 al65;generalize WN56.alloc (.cells (ydA false yN 0) 35)=WN67 at q73 q74 q66 r75 b76 hS77⊢;generalize WN56.heap.size=PQ68 at q66 hl69 hl70 hl71 of72⊢;refine wpAnyH_ready (rs:=[6]) (by kernel_rfl) (by simp) ?_;refine AllReadyH.cons rfl (fun K hK=> ?_) AllReadyH.nil
  have bu:But PQ57 WN67 (WN67.setCells PQ57 0 (ydL false (yS xo x.n xc) x.e)):=de _ _ _ _;have hth:WN67.there PQ57 0 3:=dD q74;have q78:au (WN67.setCells PQ57 0 (ydL false (yS xo x.n xc) x.e)) PQ57 35 (ydL false (yS xo x.n xc) x.e):=q74.sets _ rfl;have r79:=bu.rd r75 (of60);have q80:=bu.loc q73 (by omega);have q81:=bu.loc q66 (by omega);have b82:=bu.below b76 (by omega);rw[if_pos (by kernel_rfl)];refine wp_store_mid 35 (.tmp 10) (.tmp 60) rfl PQ57 0 (ydA false (yS xo x.n xc) x.e) (by kernel_rfl) (by kernel_rfl) hth (by kernel_rfl) (by simp[Value.oneCell']) ?_;refine hK.out _ _ q80 (fun hS83=> ?_)
  clear hK K;clear q74 r75 q73 q66 b76 bu hth;change wpAnyH _ _ _ _ _ _ _ _ (World.setCells WN67 PQ57 0 (ydL false (yS xo x.n xc) x.e));generalize World.setCells WN67 PQ57 0 (ydL false (yS xo x.n xc) x.e)=WS84 at q80 q78 q81 r79 b82 hS83⊢;refine wpAnyH_ready (rs:=[7]) (by kernel_rfl) (by simp) ?_;refine AllReadyH.cons rfl (fun K hK=> ?_) AllReadyH.nil
  have bu:But PQ68 WS84 (WS84.setCells PQ68 0 (ydL y.s (yS yo y.n yc) y.e)):=de _ _ _ _;have hth:WS84.there PQ68 0 3:=dD q81;have q85:au (WS84.setCells PQ68 0 (ydL y.s (yS yo y.n yc) y.e)) PQ68 35 (ydL y.s (yS yo y.n yc) y.e):=q81.sets _ rfl;have r86:=bu.rd r79 (of72);have q87:=bu.loc q80 (by omega);have q88:=bu.loc q78 (by omega);have b89:=bu.below b82 (by omega);rw[if_pos (by kernel_rfl)];refine wp_store_mid 35 (.tmp 11) (.tmp 62) rfl PQ68 0 (ydA y.s (yS yo y.n yc) y.e) (by kernel_rfl) (by kernel_rfl) hth (by kernel_rfl) (by simp[Value.oneCell']) ?_;refine hK.out _ _ q87 (fun hS90=> ?_)
  clear hK K;clear q81 r79 q80 q78 b82 bu hth;refine wpAnyH_done (by kernel_rfl) ?_ _;clear hS0 hS64 hS77 hS83 hS90;change Exit.then _ _ _ _ (World.setCells WS84 PQ68 0 (ydL y.s (yS yo y.n yc) y.e));generalize World.setCells WS84 PQ68 0 (ydL y.s (yS yo y.n yc) y.e)=W91 at q87 q88 q85 r86 b89⊢;simp only[Act.put,List.getElem_toArray,List.getElem_cons_succ,List.getElem_cons_zero];obtain⟨c92,c93,c94⟩:=q88.cs3
  go_wp2_with fail
  refine(HD.out _ _ _ b89 r86).mono ?_;rintro zz w95 ⟨rfl,bb96⟩;have b97:=aa b89 bb96;clear q87 q88 q85 r86 b89 bb96 HD c92 c93 c94
  go_wp2
  go_ret
  exact⟨by simp,b97⟩
 ·go_simp
  have al54:=af WD53 (.cells (ydA false yN 0) 35);have q55:=ah WD53 (ydL false yN 0) 35;have hl58:w.heap.size≤WD53.heap.size:=b52.size;have hl59:=q50.lt;have of60:=t9 r51 (Nat.le_refl WD53.heap.size);have q61:=q50.l al54;have r62:=r51.l al54;have b63:=aa b52 al54;refine hK.out _ _ q61 (fun hS64=> ?_)
  clear hK K;clear q50 r51 b52 al54;generalize WD53.alloc (.cells (ydA false yN 0) 35)=WN56 at q61 q55 r62 b63 hS64⊢;generalize WD53.heap.size=PQ57 at q55 hl58 hl59 of60⊢;refine wpAnyH_ready (rs:=[4]) (by kernel_rfl) (by simp) ?_;refine AllReadyH.cons rfl (fun K hK=> ?_) AllReadyH.nil
  go_simp
  have al65:=af WN56 (.cells (ydA false yN 0) 35);have q66:=ah WN56 (ydL false yN 0) 35;have hl69:w.heap.size≤WN56.heap.size:=b63.size;have hl70:=q61.lt;have hl71:=q55.lt;have of72:=t9 r62 (Nat.le_refl WN56.heap.size);have q73:=q61.l al65;have q74:=q55.l al65;have r75:=r62.l al65;have b76:=aa b63 al65;refine hK.out _ _ q73 (fun hS77=> ?_)
  clear hK K;clear q61 q55 r62 b63 al65;generalize WN56.alloc (.cells (ydA false yN 0) 35)=WN67 at q73 q74 q66 r75 b76 hS77⊢;generalize WN56.heap.size=PQ68 at q66 hl69 hl70 hl71 of72⊢;refine wpAnyH_ready (rs:=[6]) (by kernel_rfl) (by simp) ?_;refine AllReadyH.cons rfl (fun K hK=> ?_) AllReadyH.nil
  have bu:But PQ68 WN67 (WN67.setCells PQ68 0 (ydL false (yS xo x.n xc) x.e)):=de _ _ _ _;have hth:WN67.there PQ68 0 3:=dD q66;have q78:au (WN67.setCells PQ68 0 (ydL false (yS xo x.n xc) x.e)) PQ68 35 (ydL false (yS xo x.n xc) x.e):=q66.sets _ rfl;have r79:=bu.rd r75 (of72);have q80:=bu.loc q73 (by omega);have q81:=bu.loc q74 (by omega);have b82:=bu.below b76 (by omega);rw[if_pos (by kernel_rfl)];refine wp_store_mid 35 (.tmp 10) (.tmp 60) rfl PQ68 0 (ydA false (yS xo x.n xc) x.e) (by kernel_rfl) (by kernel_rfl) hth (by kernel_rfl) (by simp[Value.oneCell']) ?_;refine hK.out _ _ q80 (fun hS83=> ?_)
  clear hK K;clear q66 r75 q73 q74 b76 bu hth;change wpAnyH _ _ _ _ _ _ _ _ (World.setCells WN67 PQ68 0 (ydL false (yS xo x.n xc) x.e));generalize World.setCells WN67 PQ68 0 (ydL false (yS xo x.n xc) x.e)=WS84 at q80 q81 q78 r79 b82 hS83⊢;refine wpAnyH_ready (rs:=[7]) (by kernel_rfl) (by simp) ?_;refine AllReadyH.cons rfl (fun K hK=> ?_) AllReadyH.nil
  have bu:But PQ57 WS84 (WS84.setCells PQ57 0 (ydL y.s (yS yo y.n yc) y.e)):=de _ _ _ _;have hth:WS84.there PQ57 0 3:=dD q81;have q85:au (WS84.setCells PQ57 0 (ydL y.s (yS yo y.n yc) y.e)) PQ57 35 (ydL y.s (yS yo y.n yc) y.e):=q81.sets _ rfl;have r86:=bu.rd r79 (of60);have q87:=bu.loc q80 (by omega);have q88:=bu.loc q78 (by omega);have b89:=bu.below b82 (by omega);rw[if_pos (by kernel_rfl)];refine wp_store_mid 35 (.tmp 11) (.tmp 62) rfl PQ57 0 (ydA y.s (yS yo y.n yc) y.e) (by kernel_rfl) (by kernel_rfl) hth (by kernel_rfl) (by simp[Value.oneCell']) ?_;refine hK.out _ _ q87 (fun hS90=> ?_)
  clear hK K;clear q81 r79 q80 q78 b82 bu hth;refine wpAnyH_done (by kernel_rfl) ?_ _;clear hS0 hS64 hS77 hS83 hS90;change Exit.then _ _ _ _ (World.setCells WS84 PQ57 0 (ydL y.s (yS yo y.n yc) y.e));generalize World.setCells WS84 PQ57 0 (ydL y.s (yS yo y.n yc) y.e)=W91 at q87 q85 q88 r86 b89⊢;simp only[Act.put,List.getElem_toArray,List.getElem_cons_succ,List.getElem_cons_zero];obtain⟨c92,c93,c94⟩:=q88.cs3
  go_wp2_with fail
  refine(HD.out _ _ _ b89 r86).mono ?_;rintro zz w95 ⟨rfl,bb96⟩;have b97:=aa b89 bb96;clear q87 q85 q88 r86 b89 bb96 HD c92 c93 c94
  go_wp2
  go_ret
  exact⟨by simp,b97⟩
theorem brackets_one_p (x y:ak)(sa sb:Bool)(ao bo:Option Addr)(la lb ac bc:Nat)(ea eb:Int)(m sg:Int)(w:World)(hm1: ¬m<1)(hm: ¬4096<m)(hs: ¬sg≤0)
  (HK:yH w 5 #[.agg #[.bool sa,.slice ao la ac,yi ea,.bool sb,.slice bo lb bc,yi eb],yi m] (.tuple #[yi 0,.bool false,yi 0]))
  (HC:yH w 6 #[.agg #[.bool sa,.slice ao la ac,yi ea,.bool sb,.slice bo lb bc,yi eb]] (yi 0))
  (HB:yH w 7 #[] (.bool true))
  (HO: ∀w1,yB w w1→yC 8 #[.agg #[.bool sa,.slice ao la ac,yi ea,.bool sb,.slice bo lb bc,yi eb]] w1 (fun z w'=> ∃xv yv,z= .returned (.agg #[.bool false,xv,yi x.e,.bool y.s,yv,yi y.e])∧Rd w' .i64 xv (Dg.dg 65536 x.n)∧Rd w' .i64 yv (Dg.dg 65536 y.n)∧yB w1 w'))
  (HD: ∀xo xc w1,yB w w1→Rd w1 .i64 (yS xo x.n xc) (Dg.dg 65536 x.n)→yC 13 #[ydV false (yS xo x.n xc) x.e] w1 (yR w1 (yi sg)))
  (S1: ∀p q xo xc yo yc w1,yB w w1→w1.rangeAt p 0 (ydL false (yS xo x.n xc) x.e)→w1.rangeAt q 0 (ydL y.s (yS yo y.n yc) y.e)→Rd w1 .i64 (yS xo x.n xc) (Dg.dg 65536 x.n)→Rd w1 .i64 (yS yo y.n yc) (Dg.dg 65536 y.n)→yC 10 #[yi 1,.pointer (some ⟨p,0,none⟩),.pointer (some ⟨q,0,none⟩)] w1 (yR w1 (.bool false))):
  yC 3 #[.agg #[.bool sa,.slice ao la ac,yi ea,.bool sb,.slice bo lb bc,yi eb],yi m] w (yR w (.bool true)):=by
 replace HK:Hid _:=HK;replace HC:Hid _:=HC;replace HB:Hid _:=HB;replace HO:Hid _:=HO;replace HD:Hid _:=HD;replace S1:Hid _:=S1;obtain⟨W3,hW4,q1,b2⟩:=cA w [.bool sa,.slice ao la ac,yi ea,.bool sb,.slice bo lb bc,yi eb] 27;replace hW4:Hid _:=hW4
 go_enter func3,ntmps3
 go_upto_region 1 with fail
 rw[hW4.out];clear hW4;obtain⟨c5,c6,c7,c8,c9,c10⟩:=q1.cs6
 go_wp2_with fail
 refine(HK.out _ b2).mono ?_;rintro zz w11 ⟨rfl,bb12⟩;have q13:=q1.l bb12;have b14:=aa b2 bb12;clear q1 b2 bb12 HK c5 c6 c7 c8 c9 c10;obtain⟨c15,c16,c17,c18,c19,c20⟩:=q13.cs6
 go_wp2_with fail
 refine(HC.out _ b14).mono ?_;rintro zz w21 ⟨rfl,bb22⟩;have q23:=q13.l bb22;have b24:=aa b14 bb22;clear q13 b14 bb22 HC c15 c16 c17 c18 c19 c20
 go_wp2_with fail
 refine(HB.out _ b24).mono ?_;rintro zz w25 ⟨rfl,bb26⟩;have q27:=q23.l bb26;have b28:=aa b24 bb26;clear q23 b24 bb26 HB;obtain⟨c29,c30,c31,c32,c33,c34⟩:=q27.cs6
 go_wp2_with fail
 refine(HO.out _ b28).mono ?_;rintro zz w35 ⟨v1x37,v2x38,rfl,r1x39,r2x40,bb36⟩;have b41:=aa b28 bb36;obtain⟨xo,xc,hv⟩:=r1x39.shape;subst hv;obtain⟨yo,yc,hv⟩:=r2x40.shape;subst hv;clear q27 b28 bb36 HO c29 c30 c31 c32 c33 c34;obtain⟨W44,hW43,q45,al42⟩:=cA w35 [.bool false,yS xo x.n xc,yi x.e,.bool y.s,yS yo y.n yc,yi y.e] 37;replace hW43:Hid _:=hW43;have hl46:w.heap.size≤w35.heap.size:=b41.size;have r47:=r1x39.l al42;have r48:=r2x40.l al42;have b49:=aa b41 al42;clear r1x39 r2x40 b41 al42
 go_upto_region 8 with fail
 rw[hW43.out];clear hW43
 go_upto_region 8 with fail
 have bW50:yB W44 W44.drew:=(Below.refl _ _).drew;have q51:=q45.l bW50;have r52:=r47.l bW50;have r53:=r48.l bW50;have b54:=aa b49 bW50;clear q45 r47 r48 b49 bW50;refine wp_region_held_drew (S:=fun wq=>au wq w35.heap.size 37 [.bool false,yS xo x.n xc,yi x.e,.bool y.s,yS yo y.n yc,yi y.e]) (by kernel_rfl) q51 (fun hS0=> ?_)
 generalize W44.drew=WD55 at q51 r52 r53 b54 hS0⊢;refine tq 0 (.pointer (some ⟨w35.heap.size,0,none⟩)) rfl (fun _ _=>by kernel_rfl) hS0 ?_
 refine tq 1 (ydV false (yS xo x.n xc) x.e) rfl (fun _ hw0=>fy 35 (.tmp 59) rfl w35.heap.size 0 (by kernel_rfl) _ _ (kY hw0 0 3 rfl) underlying35 rfl (by kernel_rfl)) hS0 ?_
 refine tq 2 (.pointer (some ⟨w35.heap.size,3,none⟩)) rfl (fun _ _=>by kernel_rfl) hS0 ?_
 refine tq 3 (ydV y.s (yS yo y.n yc) y.e) rfl (fun _ hw0=>fy 35 (.tmp 61) rfl w35.heap.size 3 (by kernel_rfl) _ _ (kY hw0 3 3 rfl) underlying35 rfl (by kernel_rfl)) hS0 ?_
 refine wpAnyH_ready (rs:=[4,5]) (by kernel_rfl) (by simp) ?_;refine AllReadyH.cons rfl (fun K hK=> ?_) (AllReadyH.cons rfl (fun K hK=> ?_) AllReadyH.nil)
 ·go_simp
  have al56:=af WD55 (.cells (ydA false yN 0) 35);have q57:=ah WD55 (ydL false yN 0) 35;have hl60:w.heap.size≤WD55.heap.size:=b54.size;have hl61:=q51.lt;have of62:=t9 r52 (Nat.le_refl WD55.heap.size);have of63:=t9 r53 (Nat.le_refl WD55.heap.size);have q64:=q51.l al56;have r65:=r52.l al56;have r66:=r53.l al56;have b67:=aa b54 al56;refine hK.out _ _ q64 (fun hS68=> ?_)
  clear hK K;clear q51 r52 r53 b54 al56;generalize WD55.alloc (.cells (ydA false yN 0) 35)=WN58 at q64 q57 r65 r66 b67 hS68⊢;generalize WD55.heap.size=PQ59 at q57 hl60 hl61 of62 of63⊢;refine wpAnyH_ready (rs:=[5]) (by kernel_rfl) (by simp) ?_;refine AllReadyH.cons rfl (fun K hK=> ?_) AllReadyH.nil
  go_simp
  have al69:=af WN58 (.cells (ydA false yN 0) 35);have q70:=ah WN58 (ydL false yN 0) 35;have hl73:w.heap.size≤WN58.heap.size:=b67.size;have hl74:=q64.lt;have hl75:=q57.lt;have of76:=t9 r65 (Nat.le_refl WN58.heap.size);have of77:=t9 r66 (Nat.le_refl WN58.heap.size);have q78:=q64.l al69;have q79:=q57.l al69;have r80:=r65.l al69;have r81:=r66.l al69;have b82:=aa b67 al69;refine hK.out _ _ q78 (fun hS83=> ?_)
  clear hK K;clear q64 q57 r65 r66 b67 al69;generalize WN58.alloc (.cells (ydA false yN 0) 35)=WN71 at q78 q79 q70 r80 r81 b82 hS83⊢;generalize WN58.heap.size=PQ72 at q70 hl73 hl74 hl75 of76 of77⊢;refine wpAnyH_ready (rs:=[6]) (by kernel_rfl) (by simp) ?_;refine AllReadyH.cons rfl (fun K hK=> ?_) AllReadyH.nil
  have bu:But PQ59 WN71 (WN71.setCells PQ59 0 (ydL false (yS xo x.n xc) x.e)):=de _ _ _ _;have hth:WN71.there PQ59 0 3:=dD q79;have q84:au (WN71.setCells PQ59 0 (ydL false (yS xo x.n xc) x.e)) PQ59 35 (ydL false (yS xo x.n xc) x.e):=q79.sets _ rfl;have r85:=bu.rd r80 (of62);have r86:=bu.rd r81 (of63);have q87:=bu.loc q78 (by omega);have q88:=bu.loc q70 (by omega);have b89:=bu.below b82 (by omega);rw[if_pos (by kernel_rfl)];refine wp_store_mid 35 (.tmp 10) (.tmp 60) rfl PQ59 0 (ydA false (yS xo x.n xc) x.e) (by kernel_rfl) (by kernel_rfl) hth (by kernel_rfl) (by simp[Value.oneCell']) ?_;refine hK.out _ _ q87 (fun hS90=> ?_)
  clear hK K;clear q79 r80 r81 q78 q70 b82 bu hth;change wpAnyH _ _ _ _ _ _ _ _ (World.setCells WN71 PQ59 0 (ydL false (yS xo x.n xc) x.e));generalize World.setCells WN71 PQ59 0 (ydL false (yS xo x.n xc) x.e)=WS91 at q87 q84 q88 r85 r86 b89 hS90⊢;refine wpAnyH_ready (rs:=[7]) (by kernel_rfl) (by simp) ?_;refine AllReadyH.cons rfl (fun K hK=> ?_) AllReadyH.nil
  have bu:But PQ72 WS91 (WS91.setCells PQ72 0 (ydL y.s (yS yo y.n yc) y.e)):=de _ _ _ _;have hth:WS91.there PQ72 0 3:=dD q88;have q92:au (WS91.setCells PQ72 0 (ydL y.s (yS yo y.n yc) y.e)) PQ72 35 (ydL y.s (yS yo y.n yc) y.e):=q88.sets _ rfl;have r93:=bu.rd r85 (of76);have r94:=bu.rd r86 (of77);have q95:=bu.loc q87 (by omega);have q96:=bu.loc q84 (by omega);have b97:=bu.below b89 (by omega);rw[if_pos (by kernel_rfl)];refine wp_store_mid 35 (.tmp 11) (.tmp 62) rfl PQ72 0 (ydA y.s (yS yo y.n yc) y.e) (by kernel_rfl) (by kernel_rfl) hth (by kernel_rfl) (by simp[Value.oneCell']) ?_;refine hK.out _ _ q95 (fun hS98=> ?_)
  clear hK K;clear q88 r85 r86 q87 q84 b89 bu hth;refine wpAnyH_done (by kernel_rfl) ?_ _;clear hS0 hS68 hS83 hS90 hS98;change Exit.then _ _ _ _ (World.setCells WS91 PQ72 0 (ydL y.s (yS yo y.n yc) y.e));generalize World.setCells WS91 PQ72 0 (ydL y.s (yS yo y.n yc) y.e)=W99 at q95 q96 q92 r93 r94 b97⊢;simp only[Act.put,List.getElem_toArray,List.getElem_cons_succ,List.getElem_cons_zero];obtain⟨c100,c101,c102⟩:=q96.cs3
  go_wp2_with fail
  refine(HD.out _ _ _ b97 r93).mono ?_;rintro zz w103 ⟨rfl,bb104⟩;have q105:=q96.l bb104;have q106:=q92.l bb104;have r107:=r93.l bb104;have r108:=r94.l bb104;have b109:=aa b97 bb104;clear q95 q96 q92 r93 r94 b97 bb104 HD c100 c101 c102
  go_wp2_with fail
  refine(S1.out _ _ _ _ _ _ _ b109 q105.range q106.range r107 r108).mono ?_;rintro zz w110 ⟨rfl,bb111⟩;have b112:=aa b109 bb111;clear q105 q106 r107 r108 b109 bb111 S1
  go_wp2
  go_ret
  exact⟨by simp,b112⟩
 ·go_simp
  have al56:=af WD55 (.cells (ydA false yN 0) 35);have q57:=ah WD55 (ydL false yN 0) 35;have hl60:w.heap.size≤WD55.heap.size:=b54.size;have hl61:=q51.lt;have of62:=t9 r52 (Nat.le_refl WD55.heap.size);have of63:=t9 r53 (Nat.le_refl WD55.heap.size);have q64:=q51.l al56;have r65:=r52.l al56;have r66:=r53.l al56;have b67:=aa b54 al56;refine hK.out _ _ q64 (fun hS68=> ?_)
  clear hK K;clear q51 r52 r53 b54 al56;generalize WD55.alloc (.cells (ydA false yN 0) 35)=WN58 at q64 q57 r65 r66 b67 hS68⊢;generalize WD55.heap.size=PQ59 at q57 hl60 hl61 of62 of63⊢;refine wpAnyH_ready (rs:=[4]) (by kernel_rfl) (by simp) ?_;refine AllReadyH.cons rfl (fun K hK=> ?_) AllReadyH.nil
  go_simp
  have al69:=af WN58 (.cells (ydA false yN 0) 35);have q70:=ah WN58 (ydL false yN 0) 35;have hl73:w.heap.size≤WN58.heap.size:=b67.size;have hl74:=q64.lt;have hl75:=q57.lt;have of76:=t9 r65 (Nat.le_refl WN58.heap.size);have of77:=t9 r66 (Nat.le_refl WN58.heap.size);have q78:=q64.l al69;have q79:=q57.l al69;have r80:=r65.l al69;have r81:=r66.l al69;have b82:=aa b67 al69;refine hK.out _ _ q78 (fun hS83=> ?_)
  clear hK K;clear q64 q57 r65 r66 b67 al69;generalize WN58.alloc (.cells (ydA false yN 0) 35)=WN71 at q78 q79 q70 r80 r81 b82 hS83⊢;generalize WN58.heap.size=PQ72 at q70 hl73 hl74 hl75 of76 of77⊢;refine wpAnyH_ready (rs:=[6]) (by kernel_rfl) (by simp) ?_;refine AllReadyH.cons rfl (fun K hK=> ?_) AllReadyH.nil
  have bu:But PQ72 WN71 (WN71.setCells PQ72 0 (ydL false (yS xo x.n xc) x.e)):=de _ _ _ _;have hth:WN71.there PQ72 0 3:=dD q70;have q84:au (WN71.setCells PQ72 0 (ydL false (yS xo x.n xc) x.e)) PQ72 35 (ydL false (yS xo x.n xc) x.e):=q70.sets _ rfl;have r85:=bu.rd r80 (of76);have r86:=bu.rd r81 (of77);have q87:=bu.loc q78 (by omega);have q88:=bu.loc q79 (by omega);have b89:=bu.below b82 (by omega);rw[if_pos (by kernel_rfl)];refine wp_store_mid 35 (.tmp 10) (.tmp 60) rfl PQ72 0 (ydA false (yS xo x.n xc) x.e) (by kernel_rfl) (by kernel_rfl) hth (by kernel_rfl) (by simp[Value.oneCell']) ?_;refine hK.out _ _ q87 (fun hS90=> ?_)
  clear hK K;clear q70 r80 r81 q78 q79 b82 bu hth;change wpAnyH _ _ _ _ _ _ _ _ (World.setCells WN71 PQ72 0 (ydL false (yS xo x.n xc) x.e));generalize World.setCells WN71 PQ72 0 (ydL false (yS xo x.n xc) x.e)=WS91 at q87 q88 q84 r85 r86 b89 hS90⊢;refine wpAnyH_ready (rs:=[7]) (by kernel_rfl) (by simp) ?_;refine AllReadyH.cons rfl (fun K hK=> ?_) AllReadyH.nil
  have bu:But PQ59 WS91 (WS91.setCells PQ59 0 (ydL y.s (yS yo y.n yc) y.e)):=de _ _ _ _;have hth:WS91.there PQ59 0 3:=dD q88;have q92:au (WS91.setCells PQ59 0 (ydL y.s (yS yo y.n yc) y.e)) PQ59 35 (ydL y.s (yS yo y.n yc) y.e):=q88.sets _ rfl;have r93:=bu.rd r85 (of62);have r94:=bu.rd r86 (of63);have q95:=bu.loc q87 (by omega);have q96:=bu.loc q84 (by omega);have b97:=bu.below b89 (by omega);rw[if_pos (by kernel_rfl)];refine wp_store_mid 35 (.tmp 11) (.tmp 62) rfl PQ59 0 (ydA y.s (yS yo y.n yc) y.e) (by kernel_rfl) (by kernel_rfl) hth (by kernel_rfl) (by simp[Value.oneCell']) ?_;refine hK.out _ _ q95 (fun hS98=> ?_)
  clear hK K;clear q88 r85 r86 q87 q84 b89 bu hth;refine wpAnyH_done (by kernel_rfl) ?_ _;clear hS0 hS68 hS83 hS90 hS98;change Exit.then _ _ _ _ (World.setCells WS91 PQ59 0 (ydL y.s (yS yo y.n yc) y.e));generalize World.setCells WS91 PQ59 0 (ydL y.s (yS yo y.n yc) y.e)=W99 at q95 q92 q96 r93 r94 b97⊢;simp only[Act.put,List.getElem_toArray,List.getElem_cons_succ,List.getElem_cons_zero];obtain⟨c100,c101,c102⟩:=q96.cs3
  go_wp2_with fail
  refine(HD.out _ _ _ b97 r93).mono ?_;rintro zz w103 ⟨rfl,bb104⟩;have q105:=q92.l bb104;have q106:=q96.l bb104;have r107:=r93.l bb104;have r108:=r94.l bb104;have b109:=aa b97 bb104;clear q95 q92 q96 r93 r94 b97 bb104 HD c100 c101 c102
  go_wp2_with fail
  refine(S1.out _ _ _ _ _ _ _ b109 q106.range q105.range r107 r108).mono ?_;rintro zz w110 ⟨rfl,bb111⟩;have b112:=aa b109 bb111;clear q105 q106 r107 r108 b109 bb111 S1
  go_wp2
  go_ret
  exact⟨by simp,b112⟩
theorem brackets_full_p (x y:ak)(sa sb:Bool)(ao bo:Option Addr)(la lb ac bc:Nat)(ea eb:Int)(m n sg n1:Int)(w:World)(hm1: ¬m<1)(hm: ¬4096<m)(hs: ¬sg≤0)(hn1:1≤n)(hnm:n≤m)(he:(n==m)=false)(hw:IntKind.i64.wrap (n+1)=n1)
  (HK:yH w 5 #[.agg #[.bool sa,.slice ao la ac,yi ea,.bool sb,.slice bo lb bc,yi eb],yi m] (.tuple #[yi n,.bool true,yi 0]))
  (HC:yH w 6 #[.agg #[.bool sa,.slice ao la ac,yi ea,.bool sb,.slice bo lb bc,yi eb]] (yi 0))
  (HB:yH w 7 #[] (.bool true))
  (HO: ∀w1,yB w w1→yC 8 #[.agg #[.bool sa,.slice ao la ac,yi ea,.bool sb,.slice bo lb bc,yi eb]] w1 (fun z w'=> ∃xv yv,z= .returned (.agg #[.bool false,xv,yi x.e,.bool y.s,yv,yi y.e])∧Rd w' .i64 xv (Dg.dg 65536 x.n)∧Rd w' .i64 yv (Dg.dg 65536 y.n)∧yB w1 w'))
  (HD: ∀xo xc w1,yB w w1→Rd w1 .i64 (yS xo x.n xc) (Dg.dg 65536 x.n)→yC 13 #[ydV false (yS xo x.n xc) x.e] w1 (yR w1 (yi sg)))
  (S1: ∀p q xo xc yo yc w1,yB w w1→w1.rangeAt p 0 (ydL false (yS xo x.n xc) x.e)→w1.rangeAt q 0 (ydL y.s (yS yo y.n yc) y.e)→Rd w1 .i64 (yS xo x.n xc) (Dg.dg 65536 x.n)→Rd w1 .i64 (yS yo y.n yc) (Dg.dg 65536 y.n)→yC 10 #[yi 1,.pointer (some ⟨p,0,none⟩),.pointer (some ⟨q,0,none⟩)] w1 (yR w1 (.bool true)))
  (S2: ∀p q xo xc yo yc w1,yB w w1→w1.rangeAt p 0 (ydL false (yS xo x.n xc) x.e)→w1.rangeAt q 0 (ydL y.s (yS yo y.n yc) y.e)→Rd w1 .i64 (yS xo x.n xc) (Dg.dg 65536 x.n)→Rd w1 .i64 (yS yo y.n yc) (Dg.dg 65536 y.n)→yC 10 #[yi n,.pointer (some ⟨p,0,none⟩),.pointer (some ⟨q,0,none⟩)] w1 (yR w1 (.bool true)))
  (S3: ∀p q xo xc yo yc w1,yB w w1→w1.rangeAt p 0 (ydL false (yS xo x.n xc) x.e)→w1.rangeAt q 0 (ydL y.s (yS yo y.n yc) y.e)→Rd w1 .i64 (yS xo x.n xc) (Dg.dg 65536 x.n)→Rd w1 .i64 (yS yo y.n yc) (Dg.dg 65536 y.n)→yC 10 #[yi n1,.pointer (some ⟨p,0,none⟩),.pointer (some ⟨q,0,none⟩)] w1 (yR w1 (.bool false))):
  yC 3 #[.agg #[.bool sa,.slice ao la ac,yi ea,.bool sb,.slice bo lb bc,yi eb],yi m] w (yR w (.bool true)):=by
 replace HK:Hid _:=HK;replace HC:Hid _:=HC;replace HB:Hid _:=HB;replace HO:Hid _:=HO;replace HD:Hid _:=HD;replace S1:Hid _:=S1;replace S2:Hid _:=S2;replace S3:Hid _:=S3;obtain⟨W3,hW4,q1,b2⟩:=cA w [.bool sa,.slice ao la ac,yi ea,.bool sb,.slice bo lb bc,yi eb] 27;replace hW4:Hid _:=hW4
 go_enter func3,ntmps3
 go_upto_region 1 with fail
 rw[hW4.out];clear hW4;obtain⟨c5,c6,c7,c8,c9,c10⟩:=q1.cs6
 go_wp2_with fail
 refine(HK.out _ b2).mono ?_;rintro zz w11 ⟨rfl,bb12⟩;have q13:=q1.l bb12;have b14:=aa b2 bb12;clear q1 b2 bb12 HK c5 c6 c7 c8 c9 c10;obtain⟨c15,c16,c17,c18,c19,c20⟩:=q13.cs6
 go_wp2_with fail
 refine(HC.out _ b14).mono ?_;rintro zz w21 ⟨rfl,bb22⟩;have q23:=q13.l bb22;have b24:=aa b14 bb22;clear q13 b14 bb22 HC c15 c16 c17 c18 c19 c20
 go_wp2_with fail
 refine(HB.out _ b24).mono ?_;rintro zz w25 ⟨rfl,bb26⟩;have q27:=q23.l bb26;have b28:=aa b24 bb26;clear q23 b24 bb26 HB;obtain⟨c29,c30,c31,c32,c33,c34⟩:=q27.cs6
 go_wp2_with fail
 refine(HO.out _ b28).mono ?_;rintro zz w35 ⟨v1x37,v2x38,rfl,r1x39,r2x40,bb36⟩;have b41:=aa b28 bb36;obtain⟨xo,xc,hv⟩:=r1x39.shape;subst hv;obtain⟨yo,yc,hv⟩:=r2x40.shape;subst hv;clear q27 b28 bb36 HO c29 c30 c31 c32 c33 c34;obtain⟨W44,hW43,q45,al42⟩:=cA w35 [.bool false,yS xo x.n xc,yi x.e,.bool y.s,yS yo y.n yc,yi y.e] 37;replace hW43:Hid _:=hW43;have hl46:w.heap.size≤w35.heap.size:=b41.size;have r47:=r1x39.l al42;have r48:=r2x40.l al42;have b49:=aa b41 al42;clear r1x39 r2x40 b41 al42
 go_upto_region 8 with fail
 rw[hW43.out];clear hW43
 go_upto_region 8 with fail
 have bW50:yB W44 W44.drew:=(Below.refl _ _).drew;have q51:=q45.l bW50;have r52:=r47.l bW50;have r53:=r48.l bW50;have b54:=aa b49 bW50;clear q45 r47 r48 b49 bW50;refine wp_region_held_drew (S:=fun wq=>au wq w35.heap.size 37 [.bool false,yS xo x.n xc,yi x.e,.bool y.s,yS yo y.n yc,yi y.e]) (by kernel_rfl) q51 (fun hS0=> ?_)
 generalize W44.drew=WD55 at q51 r52 r53 b54 hS0⊢;refine tq 0 (.pointer (some ⟨w35.heap.size,0,none⟩)) rfl (fun _ _=>by kernel_rfl) hS0 ?_
 refine tq 1 (ydV false (yS xo x.n xc) x.e) rfl (fun _ hw0=>fy 35 (.tmp 59) rfl w35.heap.size 0 (by kernel_rfl) _ _ (kY hw0 0 3 rfl) underlying35 rfl (by kernel_rfl)) hS0 ?_
 refine tq 2 (.pointer (some ⟨w35.heap.size,3,none⟩)) rfl (fun _ _=>by kernel_rfl) hS0 ?_
 refine tq 3 (ydV y.s (yS yo y.n yc) y.e) rfl (fun _ hw0=>fy 35 (.tmp 61) rfl w35.heap.size 3 (by kernel_rfl) _ _ (kY hw0 3 3 rfl) underlying35 rfl (by kernel_rfl)) hS0 ?_
 refine wpAnyH_ready (rs:=[4,5]) (by kernel_rfl) (by simp) ?_;refine AllReadyH.cons rfl (fun K hK=> ?_) (AllReadyH.cons rfl (fun K hK=> ?_) AllReadyH.nil)
 ·go_simp
  have al56:=af WD55 (.cells (ydA false yN 0) 35);have q57:=ah WD55 (ydL false yN 0) 35;have hl60:w.heap.size≤WD55.heap.size:=b54.size;have hl61:=q51.lt;have of62:=t9 r52 (Nat.le_refl WD55.heap.size);have of63:=t9 r53 (Nat.le_refl WD55.heap.size);have q64:=q51.l al56;have r65:=r52.l al56;have r66:=r53.l al56;have b67:=aa b54 al56;refine hK.out _ _ q64 (fun hS68=> ?_)
  clear hK K;clear q51 r52 r53 b54 al56;generalize WD55.alloc (.cells (ydA false yN 0) 35)=WN58 at q64 q57 r65 r66 b67 hS68⊢;generalize WD55.heap.size=PQ59 at q57 hl60 hl61 of62 of63⊢;refine wpAnyH_ready (rs:=[5]) (by kernel_rfl) (by simp) ?_;refine AllReadyH.cons rfl (fun K hK=> ?_) AllReadyH.nil
  go_simp
  have al69:=af WN58 (.cells (ydA false yN 0) 35);have q70:=ah WN58 (ydL false yN 0) 35;have hl73:w.heap.size≤WN58.heap.size:=b67.size;have hl74:=q64.lt;have hl75:=q57.lt;have of76:=t9 r65 (Nat.le_refl WN58.heap.size);have of77:=t9 r66 (Nat.le_refl WN58.heap.size);have q78:=q64.l al69;have q79:=q57.l al69;have r80:=r65.l al69;have r81:=r66.l al69;have b82:=aa b67 al69;refine hK.out _ _ q78 (fun hS83=> ?_)
  clear hK K;clear q64 q57 r65 r66 b67 al69;generalize WN58.alloc (.cells (ydA false yN 0) 35)=WN71 at q78 q79 q70 r80 r81 b82 hS83⊢;generalize WN58.heap.size=PQ72 at q70 hl73 hl74 hl75 of76 of77⊢;refine wpAnyH_ready (rs:=[6]) (by kernel_rfl) (by simp) ?_;refine AllReadyH.cons rfl (fun K hK=> ?_) AllReadyH.nil
  have bu:But PQ59 WN71 (WN71.setCells PQ59 0 (ydL false (yS xo x.n xc) x.e)):=de _ _ _ _;have hth:WN71.there PQ59 0 3:=dD q79;have q84:au (WN71.setCells PQ59 0 (ydL false (yS xo x.n xc) x.e)) PQ59 35 (ydL false (yS xo x.n xc) x.e):=q79.sets _ rfl;have r85:=bu.rd r80 (of62);have r86:=bu.rd r81 (of63);have q87:=bu.loc q78 (by omega);have q88:=bu.loc q70 (by omega);have b89:=bu.below b82 (by omega);rw[if_pos (by kernel_rfl)];refine wp_store_mid 35 (.tmp 10) (.tmp 60) rfl PQ59 0 (ydA false (yS xo x.n xc) x.e) (by kernel_rfl) (by kernel_rfl) hth (by kernel_rfl) (by simp[Value.oneCell']) ?_;refine hK.out _ _ q87 (fun hS90=> ?_)
  clear hK K;clear q79 r80 r81 q78 q70 b82 bu hth;change wpAnyH _ _ _ _ _ _ _ _ (World.setCells WN71 PQ59 0 (ydL false (yS xo x.n xc) x.e));generalize World.setCells WN71 PQ59 0 (ydL false (yS xo x.n xc) x.e)=WS91 at q87 q84 q88 r85 r86 b89 hS90⊢;refine wpAnyH_ready (rs:=[7]) (by kernel_rfl) (by simp) ?_;refine AllReadyH.cons rfl (fun K hK=> ?_) AllReadyH.nil
  have bu:But PQ72 WS91 (WS91.setCells PQ72 0 (ydL y.s (yS yo y.n yc) y.e)):=de _ _ _ _;have hth:WS91.there PQ72 0 3:=dD q88;have q92:au (WS91.setCells PQ72 0 (ydL y.s (yS yo y.n yc) y.e)) PQ72 35 (ydL y.s (yS yo y.n yc) y.e):=q88.sets _ rfl;have r93:=bu.rd r85 (of76);have r94:=bu.rd r86 (of77);have q95:=bu.loc q87 (by omega);have q96:=bu.loc q84 (by omega);have b97:=bu.below b89 (by omega);rw[if_pos (by kernel_rfl)];refine wp_store_mid 35 (.tmp 11) (.tmp 62) rfl PQ72 0 (ydA y.s (yS yo y.n yc) y.e) (by kernel_rfl) (by kernel_rfl) hth (by kernel_rfl) (by simp[Value.oneCell']) ?_;refine hK.out _ _ q95 (fun hS98=> ?_)
  clear hK K;clear q88 r85 r86 q87 q84 b89 bu hth;refine wpAnyH_done (by kernel_rfl) ?_ _;clear hS0 hS68 hS83 hS90 hS98;change Exit.then _ _ _ _ (World.setCells WS91 PQ72 0 (ydL y.s (yS yo y.n yc) y.e));generalize World.setCells WS91 PQ72 0 (ydL y.s (yS yo y.n yc) y.e)=W99 at q95 q96 q92 r93 r94 b97⊢;simp only[Act.put,List.getElem_toArray,List.getElem_cons_succ,List.getElem_cons_zero];obtain⟨c100,c101,c102⟩:=q96.cs3
  go_wp2_with fail
  refine(HD.out _ _ _ b97 r93).mono ?_;rintro zz w103 ⟨rfl,bb104⟩;have q105:=q96.l bb104;have q106:=q92.l bb104;have r107:=r93.l bb104;have r108:=r94.l bb104;have b109:=aa b97 bb104;clear q95 q96 q92 r93 r94 b97 bb104 HD c100 c101 c102
  go_wp2_with fail
  refine(S1.out _ _ _ _ _ _ _ b109 q105.range q106.range r107 r108).mono ?_;rintro zz w110 ⟨rfl,bb111⟩;have q112:=q105.l bb111;have q113:=q106.l bb111;have r114:=r107.l bb111;have r115:=r108.l bb111;have b116:=aa b109 bb111;clear q105 q106 r107 r108 b109 bb111 S1
  go_wp2_with fail
  refine(S2.out _ _ _ _ _ _ _ b116 q112.range q113.range r114 r115).mono ?_;rintro zz w117 ⟨rfl,bb118⟩;have q119:=q112.l bb118;have q120:=q113.l bb118;have r121:=r114.l bb118;have r122:=r115.l bb118;have b123:=aa b116 bb118;clear q112 q113 r114 r115 b116 bb118 S2
  go_wp2_with fail
  refine(S3.out _ _ _ _ _ _ _ b123 q119.range q120.range r121 r122).mono ?_;rintro zz w124 ⟨rfl,bb125⟩;have b126:=aa b123 bb125;clear q119 q120 r121 r122 b123 bb125 S3
  go_wp2
  go_ret
  exact⟨by simp,b126⟩
 ·go_simp
  have al56:=af WD55 (.cells (ydA false yN 0) 35);have q57:=ah WD55 (ydL false yN 0) 35;have hl60:w.heap.size≤WD55.heap.size:=b54.size;have hl61:=q51.lt;have of62:=t9 r52 (Nat.le_refl WD55.heap.size);have of63:=t9 r53 (Nat.le_refl WD55.heap.size);have q64:=q51.l al56;have r65:=r52.l al56;have r66:=r53.l al56;have b67:=aa b54 al56;refine hK.out _ _ q64 (fun hS68=> ?_)
  clear hK K;clear q51 r52 r53 b54 al56;generalize WD55.alloc (.cells (ydA false yN 0) 35)=WN58 at q64 q57 r65 r66 b67 hS68⊢;generalize WD55.heap.size=PQ59 at q57 hl60 hl61 of62 of63⊢;refine wpAnyH_ready (rs:=[4]) (by kernel_rfl) (by simp) ?_;refine AllReadyH.cons rfl (fun K hK=> ?_) AllReadyH.nil
  go_simp
  have al69:=af WN58 (.cells (ydA false yN 0) 35);have q70:=ah WN58 (ydL false yN 0) 35;have hl73:w.heap.size≤WN58.heap.size:=b67.size;have hl74:=q64.lt;have hl75:=q57.lt;have of76:=t9 r65 (Nat.le_refl WN58.heap.size);have of77:=t9 r66 (Nat.le_refl WN58.heap.size);have q78:=q64.l al69;have q79:=q57.l al69;have r80:=r65.l al69;have r81:=r66.l al69;have b82:=aa b67 al69;refine hK.out _ _ q78 (fun hS83=> ?_)
  clear hK K;clear q64 q57 r65 r66 b67 al69;generalize WN58.alloc (.cells (ydA false yN 0) 35)=WN71 at q78 q79 q70 r80 r81 b82 hS83⊢;generalize WN58.heap.size=PQ72 at q70 hl73 hl74 hl75 of76 of77⊢;refine wpAnyH_ready (rs:=[6]) (by kernel_rfl) (by simp) ?_;refine AllReadyH.cons rfl (fun K hK=> ?_) AllReadyH.nil
  have bu:But PQ72 WN71 (WN71.setCells PQ72 0 (ydL false (yS xo x.n xc) x.e)):=de _ _ _ _;have hth:WN71.there PQ72 0 3:=dD q70;have q84:au (WN71.setCells PQ72 0 (ydL false (yS xo x.n xc) x.e)) PQ72 35 (ydL false (yS xo x.n xc) x.e):=q70.sets _ rfl;have r85:=bu.rd r80 (of76);have r86:=bu.rd r81 (of77);have q87:=bu.loc q78 (by omega);have q88:=bu.loc q79 (by omega);have b89:=bu.below b82 (by omega);rw[if_pos (by kernel_rfl)];refine wp_store_mid 35 (.tmp 10) (.tmp 60) rfl PQ72 0 (ydA false (yS xo x.n xc) x.e) (by kernel_rfl) (by kernel_rfl) hth (by kernel_rfl) (by simp[Value.oneCell']) ?_;refine hK.out _ _ q87 (fun hS90=> ?_)
  clear hK K;clear q70 r80 r81 q78 q79 b82 bu hth;change wpAnyH _ _ _ _ _ _ _ _ (World.setCells WN71 PQ72 0 (ydL false (yS xo x.n xc) x.e));generalize World.setCells WN71 PQ72 0 (ydL false (yS xo x.n xc) x.e)=WS91 at q87 q88 q84 r85 r86 b89 hS90⊢;refine wpAnyH_ready (rs:=[7]) (by kernel_rfl) (by simp) ?_;refine AllReadyH.cons rfl (fun K hK=> ?_) AllReadyH.nil
  have bu:But PQ59 WS91 (WS91.setCells PQ59 0 (ydL y.s (yS yo y.n yc) y.e)):=de _ _ _ _;have hth:WS91.there PQ59 0 3:=dD q88;have q92:au (WS91.setCells PQ59 0 (ydL y.s (yS yo y.n yc) y.e)) PQ59 35 (ydL y.s (yS yo y.n yc) y.e):=q88.sets _ rfl;have r93:=bu.rd r85 (of62);have r94:=bu.rd r86 (of63);have q95:=bu.loc q87 (by omega);have q96:=bu.loc q84 (by omega);have b97:=bu.below b89 (by omega);rw[if_pos (by kernel_rfl)];refine wp_store_mid 35 (.tmp 11) (.tmp 62) rfl PQ59 0 (ydA y.s (yS yo y.n yc) y.e) (by kernel_rfl) (by kernel_rfl) hth (by kernel_rfl) (by simp[Value.oneCell']) ?_;refine hK.out _ _ q95 (fun hS98=> ?_)
  clear hK K;clear q88 r85 r86 q87 q84 b89 bu hth;refine wpAnyH_done (by kernel_rfl) ?_ _;clear hS0 hS68 hS83 hS90 hS98;change Exit.then _ _ _ _ (World.setCells WS91 PQ59 0 (ydL y.s (yS yo y.n yc) y.e));generalize World.setCells WS91 PQ59 0 (ydL y.s (yS yo y.n yc) y.e)=W99 at q95 q92 q96 r93 r94 b97⊢;simp only[Act.put,List.getElem_toArray,List.getElem_cons_succ,List.getElem_cons_zero];obtain⟨c100,c101,c102⟩:=q96.cs3
  go_wp2_with fail
  refine(HD.out _ _ _ b97 r93).mono ?_;rintro zz w103 ⟨rfl,bb104⟩;have q105:=q92.l bb104;have q106:=q96.l bb104;have r107:=r93.l bb104;have r108:=r94.l bb104;have b109:=aa b97 bb104;clear q95 q92 q96 r93 r94 b97 bb104 HD c100 c101 c102
  go_wp2_with fail
  refine(S1.out _ _ _ _ _ _ _ b109 q106.range q105.range r107 r108).mono ?_;rintro zz w110 ⟨rfl,bb111⟩;have q112:=q105.l bb111;have q113:=q106.l bb111;have r114:=r107.l bb111;have r115:=r108.l bb111;have b116:=aa b109 bb111;clear q105 q106 r107 r108 b109 bb111 S1
  go_wp2_with fail
  refine(S2.out _ _ _ _ _ _ _ b116 q113.range q112.range r114 r115).mono ?_;rintro zz w117 ⟨rfl,bb118⟩;have q119:=q112.l bb118;have q120:=q113.l bb118;have r121:=r114.l bb118;have r122:=r115.l bb118;have b123:=aa b116 bb118;clear q112 q113 r114 r115 b116 bb118 S2
  go_wp2_with fail
  refine(S3.out _ _ _ _ _ _ _ b123 q120.range q119.range r121 r122).mono ?_;rintro zz w124 ⟨rfl,bb125⟩;have b126:=aa b123 bb125;clear q119 q120 r121 r122 b123 bb125 S3
  go_wp2
  go_ret
  exact⟨by simp,b126⟩
theorem brackets_end_p (x y:ak)(sa sb:Bool)(ao bo:Option Addr)(la lb ac bc:Nat)(ea eb:Int)(m sg:Int)(w:World)(hm1: ¬m<1)(hm: ¬4096<m)(hs: ¬sg≤0)
  (HK:yH w 5 #[.agg #[.bool sa,.slice ao la ac,yi ea,.bool sb,.slice bo lb bc,yi eb],yi m] (.tuple #[yi m,.bool true,yi 0]))
  (HC:yH w 6 #[.agg #[.bool sa,.slice ao la ac,yi ea,.bool sb,.slice bo lb bc,yi eb]] (yi 0))
  (HB:yH w 7 #[] (.bool true))
  (HO: ∀w1,yB w w1→yC 8 #[.agg #[.bool sa,.slice ao la ac,yi ea,.bool sb,.slice bo lb bc,yi eb]] w1 (fun z w'=> ∃xv yv,z= .returned (.agg #[.bool false,xv,yi x.e,.bool y.s,yv,yi y.e])∧Rd w' .i64 xv (Dg.dg 65536 x.n)∧Rd w' .i64 yv (Dg.dg 65536 y.n)∧yB w1 w'))
  (HD: ∀xo xc w1,yB w w1→Rd w1 .i64 (yS xo x.n xc) (Dg.dg 65536 x.n)→yC 13 #[ydV false (yS xo x.n xc) x.e] w1 (yR w1 (yi sg)))
  (S1: ∀p q xo xc yo yc w1,yB w w1→w1.rangeAt p 0 (ydL false (yS xo x.n xc) x.e)→w1.rangeAt q 0 (ydL y.s (yS yo y.n yc) y.e)→Rd w1 .i64 (yS xo x.n xc) (Dg.dg 65536 x.n)→Rd w1 .i64 (yS yo y.n yc) (Dg.dg 65536 y.n)→yC 10 #[yi 1,.pointer (some ⟨p,0,none⟩),.pointer (some ⟨q,0,none⟩)] w1 (yR w1 (.bool true)))
  (S2: ∀p q xo xc yo yc w1,yB w w1→w1.rangeAt p 0 (ydL false (yS xo x.n xc) x.e)→w1.rangeAt q 0 (ydL y.s (yS yo y.n yc) y.e)→Rd w1 .i64 (yS xo x.n xc) (Dg.dg 65536 x.n)→Rd w1 .i64 (yS yo y.n yc) (Dg.dg 65536 y.n)→yC 10 #[yi m,.pointer (some ⟨p,0,none⟩),.pointer (some ⟨q,0,none⟩)] w1 (yR w1 (.bool true))):
  yC 3 #[.agg #[.bool sa,.slice ao la ac,yi ea,.bool sb,.slice bo lb bc,yi eb],yi m] w (yR w (.bool true)):=by
 replace HK:Hid _:=HK;replace HC:Hid _:=HC;replace HB:Hid _:=HB;replace HO:Hid _:=HO;replace HD:Hid _:=HD;replace S1:Hid _:=S1;replace S2:Hid _:=S2;obtain⟨W3,hW4,q1,b2⟩:=cA w [.bool sa,.slice ao la ac,yi ea,.bool sb,.slice bo lb bc,yi eb] 27;replace hW4:Hid _:=hW4
 go_enter func3,ntmps3
 go_upto_region 1 with fail
 rw[hW4.out];clear hW4;obtain⟨c5,c6,c7,c8,c9,c10⟩:=q1.cs6
 go_wp2_with fail
 refine(HK.out _ b2).mono ?_;rintro zz w11 ⟨rfl,bb12⟩;have q13:=q1.l bb12;have b14:=aa b2 bb12;clear q1 b2 bb12 HK c5 c6 c7 c8 c9 c10;obtain⟨c15,c16,c17,c18,c19,c20⟩:=q13.cs6
 go_wp2_with fail
 refine(HC.out _ b14).mono ?_;rintro zz w21 ⟨rfl,bb22⟩;have q23:=q13.l bb22;have b24:=aa b14 bb22;clear q13 b14 bb22 HC c15 c16 c17 c18 c19 c20
 go_wp2_with fail
 refine(HB.out _ b24).mono ?_;rintro zz w25 ⟨rfl,bb26⟩;have q27:=q23.l bb26;have b28:=aa b24 bb26;clear q23 b24 bb26 HB;obtain⟨c29,c30,c31,c32,c33,c34⟩:=q27.cs6
 go_wp2_with fail
 refine(HO.out _ b28).mono ?_;rintro zz w35 ⟨v1x37,v2x38,rfl,r1x39,r2x40,bb36⟩;have b41:=aa b28 bb36;obtain⟨xo,xc,hv⟩:=r1x39.shape;subst hv;obtain⟨yo,yc,hv⟩:=r2x40.shape;subst hv;clear q27 b28 bb36 HO c29 c30 c31 c32 c33 c34;obtain⟨W44,hW43,q45,al42⟩:=cA w35 [.bool false,yS xo x.n xc,yi x.e,.bool y.s,yS yo y.n yc,yi y.e] 37;replace hW43:Hid _:=hW43;have hl46:w.heap.size≤w35.heap.size:=b41.size;have r47:=r1x39.l al42;have r48:=r2x40.l al42;have b49:=aa b41 al42;clear r1x39 r2x40 b41 al42
 go_upto_region 8 with fail
 rw[hW43.out];clear hW43
 go_upto_region 8 with fail
 have bW50:yB W44 W44.drew:=(Below.refl _ _).drew;have q51:=q45.l bW50;have r52:=r47.l bW50;have r53:=r48.l bW50;have b54:=aa b49 bW50;clear q45 r47 r48 b49 bW50;refine wp_region_held_drew (S:=fun wq=>au wq w35.heap.size 37 [.bool false,yS xo x.n xc,yi x.e,.bool y.s,yS yo y.n yc,yi y.e]) (by kernel_rfl) q51 (fun hS0=> ?_)
 generalize W44.drew=WD55 at q51 r52 r53 b54 hS0⊢;refine tq 0 (.pointer (some ⟨w35.heap.size,0,none⟩)) rfl (fun _ _=>by kernel_rfl) hS0 ?_
 refine tq 1 (ydV false (yS xo x.n xc) x.e) rfl (fun _ hw0=>fy 35 (.tmp 59) rfl w35.heap.size 0 (by kernel_rfl) _ _ (kY hw0 0 3 rfl) underlying35 rfl (by kernel_rfl)) hS0 ?_
 refine tq 2 (.pointer (some ⟨w35.heap.size,3,none⟩)) rfl (fun _ _=>by kernel_rfl) hS0 ?_
 refine tq 3 (ydV y.s (yS yo y.n yc) y.e) rfl (fun _ hw0=>fy 35 (.tmp 61) rfl w35.heap.size 3 (by kernel_rfl) _ _ (kY hw0 3 3 rfl) underlying35 rfl (by kernel_rfl)) hS0 ?_
 refine wpAnyH_ready (rs:=[4,5]) (by kernel_rfl) (by simp) ?_;refine AllReadyH.cons rfl (fun K hK=> ?_) (AllReadyH.cons rfl (fun K hK=> ?_) AllReadyH.nil)
 ·go_simp
  have al56:=af WD55 (.cells (ydA false yN 0) 35);have q57:=ah WD55 (ydL false yN 0) 35;have hl60:w.heap.size≤WD55.heap.size:=b54.size;have hl61:=q51.lt;have of62:=t9 r52 (Nat.le_refl WD55.heap.size);have of63:=t9 r53 (Nat.le_refl WD55.heap.size);have q64:=q51.l al56;have r65:=r52.l al56;have r66:=r53.l al56;have b67:=aa b54 al56;refine hK.out _ _ q64 (fun hS68=> ?_)
  clear hK K;clear q51 r52 r53 b54 al56;generalize WD55.alloc (.cells (ydA false yN 0) 35)=WN58 at q64 q57 r65 r66 b67 hS68⊢;generalize WD55.heap.size=PQ59 at q57 hl60 hl61 of62 of63⊢;refine wpAnyH_ready (rs:=[5]) (by kernel_rfl) (by simp) ?_;refine AllReadyH.cons rfl (fun K hK=> ?_) AllReadyH.nil
  go_simp
  have al69:=af WN58 (.cells (ydA false yN 0) 35);have q70:=ah WN58 (ydL false yN 0) 35;have hl73:w.heap.size≤WN58.heap.size:=b67.size;have hl74:=q64.lt;have hl75:=q57.lt;have of76:=t9 r65 (Nat.le_refl WN58.heap.size);have of77:=t9 r66 (Nat.le_refl WN58.heap.size);have q78:=q64.l al69;have q79:=q57.l al69;have r80:=r65.l al69;have r81:=r66.l al69;have b82:=aa b67 al69;refine hK.out _ _ q78 (fun hS83=> ?_)
  clear hK K;clear q64 q57 r65 r66 b67 al69;generalize WN58.alloc (.cells (ydA false yN 0) 35)=WN71 at q78 q79 q70 r80 r81 b82 hS83⊢;generalize WN58.heap.size=PQ72 at q70 hl73 hl74 hl75 of76 of77⊢;refine wpAnyH_ready (rs:=[6]) (by kernel_rfl) (by simp) ?_;refine AllReadyH.cons rfl (fun K hK=> ?_) AllReadyH.nil
  have bu:But PQ59 WN71 (WN71.setCells PQ59 0 (ydL false (yS xo x.n xc) x.e)):=de _ _ _ _;have hth:WN71.there PQ59 0 3:=dD q79;have q84:au (WN71.setCells PQ59 0 (ydL false (yS xo x.n xc) x.e)) PQ59 35 (ydL false (yS xo x.n xc) x.e):=q79.sets _ rfl;have r85:=bu.rd r80 (of62);have r86:=bu.rd r81 (of63);have q87:=bu.loc q78 (by omega);have q88:=bu.loc q70 (by omega);have b89:=bu.below b82 (by omega);rw[if_pos (by kernel_rfl)];refine wp_store_mid 35 (.tmp 10) (.tmp 60) rfl PQ59 0 (ydA false (yS xo x.n xc) x.e) (by kernel_rfl) (by kernel_rfl) hth (by kernel_rfl) (by simp[Value.oneCell']) ?_;refine hK.out _ _ q87 (fun hS90=> ?_)
  clear hK K;clear q79 r80 r81 q78 q70 b82 bu hth;change wpAnyH _ _ _ _ _ _ _ _ (World.setCells WN71 PQ59 0 (ydL false (yS xo x.n xc) x.e));generalize World.setCells WN71 PQ59 0 (ydL false (yS xo x.n xc) x.e)=WS91 at q87 q84 q88 r85 r86 b89 hS90⊢;refine wpAnyH_ready (rs:=[7]) (by kernel_rfl) (by simp) ?_;refine AllReadyH.cons rfl (fun K hK=> ?_) AllReadyH.nil
  have bu:But PQ72 WS91 (WS91.setCells PQ72 0 (ydL y.s (yS yo y.n yc) y.e)):=de _ _ _ _;have hth:WS91.there PQ72 0 3:=dD q88;have q92:au (WS91.setCells PQ72 0 (ydL y.s (yS yo y.n yc) y.e)) PQ72 35 (ydL y.s (yS yo y.n yc) y.e):=q88.sets _ rfl;have r93:=bu.rd r85 (of76);have r94:=bu.rd r86 (of77);have q95:=bu.loc q87 (by omega);have q96:=bu.loc q84 (by omega);have b97:=bu.below b89 (by omega);rw[if_pos (by kernel_rfl)];refine wp_store_mid 35 (.tmp 11) (.tmp 62) rfl PQ72 0 (ydA y.s (yS yo y.n yc) y.e) (by kernel_rfl) (by kernel_rfl) hth (by kernel_rfl) (by simp[Value.oneCell']) ?_;refine hK.out _ _ q95 (fun hS98=> ?_)
  clear hK K;clear q88 r85 r86 q87 q84 b89 bu hth;refine wpAnyH_done (by kernel_rfl) ?_ _;clear hS0 hS68 hS83 hS90 hS98;change Exit.then _ _ _ _ (World.setCells WS91 PQ72 0 (ydL y.s (yS yo y.n yc) y.e));generalize World.setCells WS91 PQ72 0 (ydL y.s (yS yo y.n yc) y.e)=W99 at q95 q96 q92 r93 r94 b97⊢;simp only[Act.put,List.getElem_toArray,List.getElem_cons_succ,List.getElem_cons_zero];obtain⟨c100,c101,c102⟩:=q96.cs3
  go_wp2_with fail
  refine(HD.out _ _ _ b97 r93).mono ?_;rintro zz w103 ⟨rfl,bb104⟩;have q105:=q96.l bb104;have q106:=q92.l bb104;have r107:=r93.l bb104;have r108:=r94.l bb104;have b109:=aa b97 bb104;clear q95 q96 q92 r93 r94 b97 bb104 HD c100 c101 c102
  go_wp2_with fail
  refine(S1.out _ _ _ _ _ _ _ b109 q105.range q106.range r107 r108).mono ?_;rintro zz w110 ⟨rfl,bb111⟩;have q112:=q105.l bb111;have q113:=q106.l bb111;have r114:=r107.l bb111;have r115:=r108.l bb111;have b116:=aa b109 bb111;clear q105 q106 r107 r108 b109 bb111 S1
  go_wp2_with fail
  refine(S2.out _ _ _ _ _ _ _ b116 q112.range q113.range r114 r115).mono ?_;rintro zz w117 ⟨rfl,bb118⟩;have b119:=aa b116 bb118;clear q112 q113 r114 r115 b116 bb118 S2
  go_wp2
  go_ret
  exact⟨by simp,b119⟩
 ·go_simp
  have al56:=af WD55 (.cells (ydA false yN 0) 35);have q57:=ah WD55 (ydL false yN 0) 35;have hl60:w.heap.size≤WD55.heap.size:=b54.size;have hl61:=q51.lt;have of62:=t9 r52 (Nat.le_refl WD55.heap.size);have of63:=t9 r53 (Nat.le_refl WD55.heap.size);have q64:=q51.l al56;have r65:=r52.l al56;have r66:=r53.l al56;have b67:=aa b54 al56;refine hK.out _ _ q64 (fun hS68=> ?_)
  clear hK K;clear q51 r52 r53 b54 al56;generalize WD55.alloc (.cells (ydA false yN 0) 35)=WN58 at q64 q57 r65 r66 b67 hS68⊢;generalize WD55.heap.size=PQ59 at q57 hl60 hl61 of62 of63⊢;refine wpAnyH_ready (rs:=[4]) (by kernel_rfl) (by simp) ?_;refine AllReadyH.cons rfl (fun K hK=> ?_) AllReadyH.nil
  go_simp
  have al69:=af WN58 (.cells (ydA false yN 0) 35);have q70:=ah WN58 (ydL false yN 0) 35;have hl73:w.heap.size≤WN58.heap.size:=b67.size;have hl74:=q64.lt;have hl75:=q57.lt;have of76:=t9 r65 (Nat.le_refl WN58.heap.size);have of77:=t9 r66 (Nat.le_refl WN58.heap.size);have q78:=q64.l al69;have q79:=q57.l al69;have r80:=r65.l al69;have r81:=r66.l al69;have b82:=aa b67 al69;refine hK.out _ _ q78 (fun hS83=> ?_)
  clear hK K;clear q64 q57 r65 r66 b67 al69;generalize WN58.alloc (.cells (ydA false yN 0) 35)=WN71 at q78 q79 q70 r80 r81 b82 hS83⊢;generalize WN58.heap.size=PQ72 at q70 hl73 hl74 hl75 of76 of77⊢;refine wpAnyH_ready (rs:=[6]) (by kernel_rfl) (by simp) ?_;refine AllReadyH.cons rfl (fun K hK=> ?_) AllReadyH.nil
  have bu:But PQ72 WN71 (WN71.setCells PQ72 0 (ydL false (yS xo x.n xc) x.e)):=de _ _ _ _;have hth:WN71.there PQ72 0 3:=dD q70;have q84:au (WN71.setCells PQ72 0 (ydL false (yS xo x.n xc) x.e)) PQ72 35 (ydL false (yS xo x.n xc) x.e):=q70.sets _ rfl;have r85:=bu.rd r80 (of76);have r86:=bu.rd r81 (of77);have q87:=bu.loc q78 (by omega);have q88:=bu.loc q79 (by omega);have b89:=bu.below b82 (by omega);rw[if_pos (by kernel_rfl)];refine wp_store_mid 35 (.tmp 10) (.tmp 60) rfl PQ72 0 (ydA false (yS xo x.n xc) x.e) (by kernel_rfl) (by kernel_rfl) hth (by kernel_rfl) (by simp[Value.oneCell']) ?_;refine hK.out _ _ q87 (fun hS90=> ?_)
  clear hK K;clear q70 r80 r81 q78 q79 b82 bu hth;change wpAnyH _ _ _ _ _ _ _ _ (World.setCells WN71 PQ72 0 (ydL false (yS xo x.n xc) x.e));generalize World.setCells WN71 PQ72 0 (ydL false (yS xo x.n xc) x.e)=WS91 at q87 q88 q84 r85 r86 b89 hS90⊢;refine wpAnyH_ready (rs:=[7]) (by kernel_rfl) (by simp) ?_;refine AllReadyH.cons rfl (fun K hK=> ?_) AllReadyH.nil
  have bu:But PQ59 WS91 (WS91.setCells PQ59 0 (ydL y.s (yS yo y.n yc) y.e)):=de _ _ _ _;have hth:WS91.there PQ59 0 3:=dD q88;have q92:au (WS91.setCells PQ59 0 (ydL y.s (yS yo y.n yc) y.e)) PQ59 35 (ydL y.s (yS yo y.n yc) y.e):=q88.sets _ rfl;have r93:=bu.rd r85 (of62);have r94:=bu.rd r86 (of63);have q95:=bu.loc q87 (by omega);have q96:=bu.loc q84 (by omega);have b97:=bu.below b89 (by omega);rw[if_pos (by kernel_rfl)];refine wp_store_mid 35 (.tmp 11) (.tmp 62) rfl PQ59 0 (ydA y.s (yS yo y.n yc) y.e) (by kernel_rfl) (by kernel_rfl) hth (by kernel_rfl) (by simp[Value.oneCell']) ?_;refine hK.out _ _ q95 (fun hS98=> ?_)
  clear hK K;clear q88 r85 r86 q87 q84 b89 bu hth;refine wpAnyH_done (by kernel_rfl) ?_ _;clear hS0 hS68 hS83 hS90 hS98;change Exit.then _ _ _ _ (World.setCells WS91 PQ59 0 (ydL y.s (yS yo y.n yc) y.e));generalize World.setCells WS91 PQ59 0 (ydL y.s (yS yo y.n yc) y.e)=W99 at q95 q92 q96 r93 r94 b97⊢;simp only[Act.put,List.getElem_toArray,List.getElem_cons_succ,List.getElem_cons_zero];obtain⟨c100,c101,c102⟩:=q96.cs3
  go_wp2_with fail
  refine(HD.out _ _ _ b97 r93).mono ?_;rintro zz w103 ⟨rfl,bb104⟩;have q105:=q92.l bb104;have q106:=q96.l bb104;have r107:=r93.l bb104;have r108:=r94.l bb104;have b109:=aa b97 bb104;clear q95 q92 q96 r93 r94 b97 bb104 HD c100 c101 c102
  go_wp2_with fail
  refine(S1.out _ _ _ _ _ _ _ b109 q106.range q105.range r107 r108).mono ?_;rintro zz w110 ⟨rfl,bb111⟩;have q112:=q105.l bb111;have q113:=q106.l bb111;have r114:=r107.l bb111;have r115:=r108.l bb111;have b116:=aa b109 bb111;clear q105 q106 r107 r108 b109 bb111 S1
  go_wp2_with fail
  refine(S2.out _ _ _ _ _ _ _ b116 q113.range q112.range r114 r115).mono ?_;rintro zz w117 ⟨rfl,bb118⟩;have b119:=aa b116 bb118;clear q112 q113 r114 r115 b116 bb118 S2
  go_wp2
  go_ret
  exact⟨by simp,b119⟩
theorem brackets_sign_n (x y:ak)(us vs:Bool)(sa sb:Bool)(ao bo:Option Addr)(la lb ac bc:Nat)(ea eb:Int)(m sg:Int)(w:World)(hm1: ¬m<1)(hm: ¬4096<m)(hs:sg≤0)
  (HK:yH w 5 #[.agg #[.bool sa,.slice ao la ac,yi ea,.bool sb,.slice bo lb bc,yi eb],yi m] (.tuple #[yi 0,.bool false,yi 0]))
  (HC:yH w 6 #[.agg #[.bool sa,.slice ao la ac,yi ea,.bool sb,.slice bo lb bc,yi eb]] (yi 0))
  (HB:yH w 7 #[] (.bool true))
  (HO: ∀w1,yB w w1→yC 8 #[.agg #[.bool sa,.slice ao la ac,yi ea,.bool sb,.slice bo lb bc,yi eb]] w1 (fun z w'=> ∃xv yv,z= .returned (.agg #[.bool true,xv,yi x.e,.bool y.s,yv,yi y.e])∧Rd w' .i64 xv (Dg.dg 65536 x.n)∧Rd w' .i64 yv (Dg.dg 65536 y.n)∧yB w1 w'))
  (M1: ∀yo yc w1,yB w w1→Rd w1 .i64 (yS yo y.n yc) (Dg.dg 65536 y.n)→yC 9 #[ydV y.s (yS yo y.n yc) y.e] w1 (yR w1 (ydV us (yS yo y.n yc) y.e)))
  (M2: ∀xo xc w1,yB w w1→Rd w1 .i64 (yS xo x.n xc) (Dg.dg 65536 x.n)→yC 9 #[ydV true (yS xo x.n xc) x.e] w1 (yR w1 (ydV vs (yS xo x.n xc) x.e)))
  (HD: ∀yo yc w1,yB w w1→Rd w1 .i64 (yS yo y.n yc) (Dg.dg 65536 y.n)→yC 13 #[ydV us (yS yo y.n yc) y.e] w1 (yR w1 (yi sg))):
  yC 3 #[.agg #[.bool sa,.slice ao la ac,yi ea,.bool sb,.slice bo lb bc,yi eb],yi m] w (yR w (.bool true)):=by
 replace HK:Hid _:=HK;replace HC:Hid _:=HC;replace HB:Hid _:=HB;replace HO:Hid _:=HO;replace M1:Hid _:=M1;replace M2:Hid _:=M2;replace HD:Hid _:=HD;obtain⟨W3,hW4,q1,b2⟩:=cA w [.bool sa,.slice ao la ac,yi ea,.bool sb,.slice bo lb bc,yi eb] 27;replace hW4:Hid _:=hW4
 go_enter func3,ntmps3
 go_upto_region 1 with fail
 rw[hW4.out];clear hW4;obtain⟨c5,c6,c7,c8,c9,c10⟩:=q1.cs6
 go_wp2_with fail
 refine(HK.out _ b2).mono ?_;rintro zz w11 ⟨rfl,bb12⟩;have q13:=q1.l bb12;have b14:=aa b2 bb12;clear q1 b2 bb12 HK c5 c6 c7 c8 c9 c10;obtain⟨c15,c16,c17,c18,c19,c20⟩:=q13.cs6
 go_wp2_with fail
 refine(HC.out _ b14).mono ?_;rintro zz w21 ⟨rfl,bb22⟩;have q23:=q13.l bb22;have b24:=aa b14 bb22;clear q13 b14 bb22 HC c15 c16 c17 c18 c19 c20
 go_wp2_with fail
 refine(HB.out _ b24).mono ?_;rintro zz w25 ⟨rfl,bb26⟩;have q27:=q23.l bb26;have b28:=aa b24 bb26;clear q23 b24 bb26 HB;obtain⟨c29,c30,c31,c32,c33,c34⟩:=q27.cs6
 go_wp2_with fail
 refine(HO.out _ b28).mono ?_;rintro zz w35 ⟨v1x37,v2x38,rfl,r1x39,r2x40,bb36⟩;have b41:=aa b28 bb36;obtain⟨xo,xc,hv⟩:=r1x39.shape;subst hv;obtain⟨yo,yc,hv⟩:=r2x40.shape;subst hv;clear q27 b28 bb36 HO c29 c30 c31 c32 c33 c34;obtain⟨W44,hW43,q45,al42⟩:=cA w35 [.bool true,yS xo x.n xc,yi x.e,.bool y.s,yS yo y.n yc,yi y.e] 37;replace hW43:Hid _:=hW43;have hl46:w.heap.size≤w35.heap.size:=b41.size;have r47:=r1x39.l al42;have r48:=r2x40.l al42;have b49:=aa b41 al42;clear r1x39 r2x40 b41 al42
 go_upto_region 8 with fail
 rw[hW43.out];clear hW43
 go_upto_region 8 with fail
 have bW50:yB W44 W44.drew:=(Below.refl _ _).drew;have q51:=q45.l bW50;have r52:=r47.l bW50;have r53:=r48.l bW50;have b54:=aa b49 bW50;clear q45 r47 r48 b49 bW50;refine wp_region_held_drew (S:=fun wq=>au wq w35.heap.size 37 [.bool true,yS xo x.n xc,yi x.e,.bool y.s,yS yo y.n yc,yi y.e]) (by kernel_rfl) q51 (fun hS0=> ?_)
 generalize W44.drew=WD55 at q51 r52 r53 b54 hS0⊢;refine tq 0 (.pointer (some ⟨w35.heap.size,0,none⟩)) rfl (fun _ _=>by kernel_rfl) hS0 ?_
 refine tq 1 (ydV true (yS xo x.n xc) x.e) rfl (fun _ hw0=>fy 35 (.tmp 59) rfl w35.heap.size 0 (by kernel_rfl) _ _ (kY hw0 0 3 rfl) underlying35 rfl (by kernel_rfl)) hS0 ?_
 refine tq 2 (.pointer (some ⟨w35.heap.size,3,none⟩)) rfl (fun _ _=>by kernel_rfl) hS0 ?_
 refine tq 3 (ydV y.s (yS yo y.n yc) y.e) rfl (fun _ hw0=>fy 35 (.tmp 61) rfl w35.heap.size 3 (by kernel_rfl) _ _ (kY hw0 3 3 rfl) underlying35 rfl (by kernel_rfl)) hS0 ?_
 refine wpAnyH_ready (rs:=[4,5]) (by kernel_rfl) (by simp) ?_;refine AllReadyH.cons rfl (fun K hK=> ?_) (AllReadyH.cons rfl (fun K hK=> ?_) AllReadyH.nil)
 ·go_simp
  have al56:=af WD55 (.cells (ydA false yN 0) 35);have q57:=ah WD55 (ydL false yN 0) 35;have hl60:w.heap.size≤WD55.heap.size:=b54.size;have hl61:=q51.lt;have of62:=t9 r52 (Nat.le_refl WD55.heap.size);have of63:=t9 r53 (Nat.le_refl WD55.heap.size);have q64:=q51.l al56;have r65:=r52.l al56;have r66:=r53.l al56;have b67:=aa b54 al56;refine hK.out _ _ q64 (fun hS68=> ?_)
  clear hK K;clear q51 r52 r53 b54 al56;generalize WD55.alloc (.cells (ydA false yN 0) 35)=WN58 at q64 q57 r65 r66 b67 hS68⊢;generalize WD55.heap.size=PQ59 at q57 hl60 hl61 of62 of63⊢;refine wpAnyH_ready (rs:=[5]) (by kernel_rfl) (by simp) ?_;refine AllReadyH.cons rfl (fun K hK=> ?_) AllReadyH.nil
  go_simp
  have al69:=af WN58 (.cells (ydA false yN 0) 35);have q70:=ah WN58 (ydL false yN 0) 35;have hl73:w.heap.size≤WN58.heap.size:=b67.size;have hl74:=q64.lt;have hl75:=q57.lt;have of76:=t9 r65 (Nat.le_refl WN58.heap.size);have of77:=t9 r66 (Nat.le_refl WN58.heap.size);have q78:=q64.l al69;have q79:=q57.l al69;have r80:=r65.l al69;have r81:=r66.l al69;have b82:=aa b67 al69;refine hK.out _ _ q78 (fun hS83=> ?_)
  clear hK K;clear q64 q57 r65 r66 b67 al69;generalize WN58.alloc (.cells (ydA false yN 0) 35)=WN71 at q78 q79 q70 r80 r81 b82 hS83⊢;generalize WN58.heap.size=PQ72 at q70 hl73 hl74 hl75 of76 of77⊢;refine wpAnyH_ready (rs:=[6]) (by kernel_rfl) (by simp) ?_;refine AllReadyH.cons rfl (fun K hK=> ?_) AllReadyH.nil
  have bu:But PQ59 WN71 (WN71.setCells PQ59 0 (ydL true (yS xo x.n xc) x.e)):=de _ _ _ _;have hth:WN71.there PQ59 0 3:=dD q79;have q84:au (WN71.setCells PQ59 0 (ydL true (yS xo x.n xc) x.e)) PQ59 35 (ydL true (yS xo x.n xc) x.e):=q79.sets _ rfl;have r85:=bu.rd r80 (of62);have r86:=bu.rd r81 (of63);have q87:=bu.loc q78 (by omega);have q88:=bu.loc q70 (by omega);have b89:=bu.below b82 (by omega);rw[if_pos (by kernel_rfl)];refine wp_store_mid 35 (.tmp 10) (.tmp 60) rfl PQ59 0 (ydA true (yS xo x.n xc) x.e) (by kernel_rfl) (by kernel_rfl) hth (by kernel_rfl) (by simp[Value.oneCell']) ?_;refine hK.out _ _ q87 (fun hS90=> ?_)
  clear hK K;clear q79 r80 r81 q78 q70 b82 bu hth;change wpAnyH _ _ _ _ _ _ _ _ (World.setCells WN71 PQ59 0 (ydL true (yS xo x.n xc) x.e));generalize World.setCells WN71 PQ59 0 (ydL true (yS xo x.n xc) x.e)=WS91 at q87 q84 q88 r85 r86 b89 hS90⊢;refine wpAnyH_ready (rs:=[7]) (by kernel_rfl) (by simp) ?_;refine AllReadyH.cons rfl (fun K hK=> ?_) AllReadyH.nil
  have bu:But PQ72 WS91 (WS91.setCells PQ72 0 (ydL y.s (yS yo y.n yc) y.e)):=de _ _ _ _;have hth:WS91.there PQ72 0 3:=dD q88;have q92:au (WS91.setCells PQ72 0 (ydL y.s (yS yo y.n yc) y.e)) PQ72 35 (ydL y.s (yS yo y.n yc) y.e):=q88.sets _ rfl;have r93:=bu.rd r85 (of76);have r94:=bu.rd r86 (of77);have q95:=bu.loc q87 (by omega);have q96:=bu.loc q84 (by omega);have b97:=bu.below b89 (by omega);rw[if_pos (by kernel_rfl)];refine wp_store_mid 35 (.tmp 11) (.tmp 62) rfl PQ72 0 (ydA y.s (yS yo y.n yc) y.e) (by kernel_rfl) (by kernel_rfl) hth (by kernel_rfl) (by simp[Value.oneCell']) ?_;refine hK.out _ _ q95 (fun hS98=> ?_)
  clear hK K;clear q88 r85 r86 q87 q84 b89 bu hth;refine wpAnyH_done (by kernel_rfl) ?_ _;clear hS0 hS68 hS83 hS90 hS98;change Exit.then _ _ _ _ (World.setCells WS91 PQ72 0 (ydL y.s (yS yo y.n yc) y.e));generalize World.setCells WS91 PQ72 0 (ydL y.s (yS yo y.n yc) y.e)=W99 at q95 q96 q92 r93 r94 b97⊢;simp only[Act.put,List.getElem_toArray,List.getElem_cons_succ,List.getElem_cons_zero];have c100:=q96.c 0 rfl
  go_upto_region 10 with fail
  clear c100;have bW101:yB W99 W99.drew:=(Below.refl _ _).drew;have q102:=q96.l bW101;have q103:=q92.l bW101;have r104:=r93.l bW101;have r105:=r94.l bW101;have b106:=aa b97 bW101;clear q95 q96 q92 r93 r94 b97 bW101;refine wp_region_held_drew (S:=fun _=>True) (by kernel_rfl) trivial (fun hS0=> ?_)
  generalize W99.drew=WD107 at q102 q103 r104 r105 b106 hS0⊢;refine wpAnyH_ready (rs:=[0,2]) (by kernel_rfl) (by simp) ?_;refine AllReadyH.cons rfl (fun K hK=> ?_) (AllReadyH.cons rfl (fun K hK=> ?_) AllReadyH.nil)
  ·rw[if_pos (by kernel_rfl)]
   refine wp_yield (ydV y.s (yS yo y.n yc) y.e) (fy 35 (.tmp 11) rfl PQ72 0 (by kernel_rfl) _ _ q103.range underlying35 rfl (by kernel_rfl)) ?_;refine hK.out _ _ trivial (fun hS108=> ?_)
   clear hK K;refine wpAnyH_ready (rs:=[1,2]) (by kernel_rfl) (by simp) ?_;refine AllReadyH.cons rfl (fun K hK=> ?_) (AllReadyH.cons rfl (fun K hK=> ?_) AllReadyH.nil)
   ·go_simp
    refine(M1.out _ _ _ b106 r105).mono ?_;rintro zz w109 ⟨rfl,bb110⟩;have q111:=q102.l bb110;have q112:=q103.l bb110;have r113:=r104.l bb110;have r114:=r105.l bb110;have b115:=aa b106 bb110;clear q102 q103 r104 r105 b106 bb110 M1;refine hK.out _ _ trivial (fun hS116=> ?_)
    clear hK K;refine wpAnyH_ready (rs:=[2]) (by kernel_rfl) (by simp) ?_;refine AllReadyH.cons rfl (fun K hK=> ?_) AllReadyH.nil
    rw[if_pos (by kernel_rfl)];refine wp_yield (ydV true (yS xo x.n xc) x.e) (fy 35 (.tmp 10) rfl PQ59 0 (by kernel_rfl) _ _ q111.range underlying35 rfl (by kernel_rfl)) ?_;refine hK.out _ _ trivial (fun hS117=> ?_)
    clear hK K;refine wpAnyH_ready (rs:=[3]) (by kernel_rfl) (by simp) ?_;refine AllReadyH.cons rfl (fun K hK=> ?_) AllReadyH.nil
    go_simp
    refine(M2.out _ _ _ b115 r113).mono ?_;rintro zz w118 ⟨rfl,bb119⟩;have q120:=q111.l bb119;have q121:=q112.l bb119;have r122:=r114.l bb119;have b123:=aa b115 bb119;clear q111 q112 r113 r114 b115 bb119 M2;refine hK.out _ _ trivial (fun hS124=> ?_)
    clear hK K;refine wpAnyH_ready (rs:=[4]) (by kernel_rfl) (by simp) ?_;refine AllReadyH.cons rfl (fun K hK=> ?_) AllReadyH.nil
    have bu:But PQ59 w118 (w118.setCells PQ59 0 (ydL us (yS yo y.n yc) y.e)):=de _ _ _ _;have hth:w118.there PQ59 0 3:=dD q120;have q125:au (w118.setCells PQ59 0 (ydL us (yS yo y.n yc) y.e)) PQ59 35 (ydL us (yS yo y.n yc) y.e):=q120.sets _ rfl;have r126:=bu.rd r122 (of63);have q127:=bu.loc q121 (by omega);have b128:=bu.below b123 (by omega);rw[if_pos (by kernel_rfl)];refine wp_store_mid 35 (.tmp 10) (.tmp 66) rfl PQ59 0 (ydA us (yS yo y.n yc) y.e) (by kernel_rfl) (by kernel_rfl) hth (by kernel_rfl) (by simp[Value.oneCell']) ?_;refine hK.out _ _ trivial (fun hS129=> ?_)
    clear hK K;clear q120 r122 q121 b123 bu hth;change wpAnyH _ _ _ _ _ _ _ _ (World.setCells w118 PQ59 0 (ydL us (yS yo y.n yc) y.e));generalize World.setCells w118 PQ59 0 (ydL us (yS yo y.n yc) y.e)=WS130 at q125 q127 r126 b128 hS129⊢;refine wpAnyH_ready (rs:=[5]) (by kernel_rfl) (by simp) ?_;refine AllReadyH.cons rfl (fun K hK=> ?_) AllReadyH.nil
    have bu:But PQ72 WS130 (WS130.setCells PQ72 0 (ydL vs (yS xo x.n xc) x.e)):=de _ _ _ _;have hth:WS130.there PQ72 0 3:=dD q127;have q131:au (WS130.setCells PQ72 0 (ydL vs (yS xo x.n xc) x.e)) PQ72 35 (ydL vs (yS xo x.n xc) x.e):=q127.sets _ rfl;have r132:=bu.rd r126 (of77);have q133:=bu.loc q125 (by omega);have b134:=bu.below b128 (by omega);rw[if_pos (by kernel_rfl)];refine wp_store_mid 35 (.tmp 11) (.tmp 68) rfl PQ72 0 (ydA vs (yS xo x.n xc) x.e) (by kernel_rfl) (by kernel_rfl) hth (by kernel_rfl) (by simp[Value.oneCell']) ?_;refine hK.out _ _ trivial (fun hS135=> ?_)
    clear hK K;clear q127 r126 q125 b128 bu hth;refine wpAnyH_done (by kernel_rfl) ?_ _;clear hS0 hS108 hS116 hS117 hS124 hS129 hS135;change Exit.then _ _ _ _ (World.setCells WS130 PQ72 0 (ydL vs (yS xo x.n xc) x.e));generalize World.setCells WS130 PQ72 0 (ydL vs (yS xo x.n xc) x.e)=W136 at q133 q131 r132 b134⊢;simp only[Act.put,List.getElem_toArray,List.getElem_cons_succ,List.getElem_cons_zero];obtain⟨c137,c138,c139⟩:=q133.cs3
    go_wp2_with fail
    refine(HD.out _ _ _ b134 r132).mono ?_;rintro zz w140 ⟨rfl,bb141⟩;have b142:=aa b134 bb141;clear q133 q131 r132 b134 bb141 HD c137 c138 c139
    go_wp2
    go_ret
    exact⟨by simp,b142⟩
   ·rw[if_pos (by kernel_rfl)]
    refine wp_yield (ydV true (yS xo x.n xc) x.e) (fy 35 (.tmp 10) rfl PQ59 0 (by kernel_rfl) _ _ q102.range underlying35 rfl (by kernel_rfl)) ?_;refine hK.out _ _ trivial (fun hS109=> ?_)
    clear hK K;refine wpAnyH_ready (rs:=[1]) (by kernel_rfl) (by simp) ?_;refine AllReadyH.cons rfl (fun K hK=> ?_) AllReadyH.nil
    go_simp
    refine(M1.out _ _ _ b106 r105).mono ?_;rintro zz w110 ⟨rfl,bb111⟩;have q112:=q102.l bb111;have q113:=q103.l bb111;have r114:=r104.l bb111;have r115:=r105.l bb111;have b116:=aa b106 bb111;clear q102 q103 r104 r105 b106 bb111 M1;refine hK.out _ _ trivial (fun hS117=> ?_)
    clear hK K;refine wpAnyH_ready (rs:=[3]) (by kernel_rfl) (by simp) ?_;refine AllReadyH.cons rfl (fun K hK=> ?_) AllReadyH.nil
    go_simp
    refine(M2.out _ _ _ b116 r114).mono ?_;rintro zz w118 ⟨rfl,bb119⟩;have q120:=q112.l bb119;have q121:=q113.l bb119;have r122:=r115.l bb119;have b123:=aa b116 bb119;clear q112 q113 r114 r115 b116 bb119 M2;refine hK.out _ _ trivial (fun hS124=> ?_)
    clear hK K;refine wpAnyH_ready (rs:=[4]) (by kernel_rfl) (by simp) ?_;refine AllReadyH.cons rfl (fun K hK=> ?_) AllReadyH.nil
    have bu:But PQ59 w118 (w118.setCells PQ59 0 (ydL us (yS yo y.n yc) y.e)):=de _ _ _ _;have hth:w118.there PQ59 0 3:=dD q120;have q125:au (w118.setCells PQ59 0 (ydL us (yS yo y.n yc) y.e)) PQ59 35 (ydL us (yS yo y.n yc) y.e):=q120.sets _ rfl;have r126:=bu.rd r122 (of63);have q127:=bu.loc q121 (by omega);have b128:=bu.below b123 (by omega);rw[if_pos (by kernel_rfl)];refine wp_store_mid 35 (.tmp 10) (.tmp 66) rfl PQ59 0 (ydA us (yS yo y.n yc) y.e) (by kernel_rfl) (by kernel_rfl) hth (by kernel_rfl) (by simp[Value.oneCell']) ?_;refine hK.out _ _ trivial (fun hS129=> ?_)
    clear hK K;clear q120 r122 q121 b123 bu hth;change wpAnyH _ _ _ _ _ _ _ _ (World.setCells w118 PQ59 0 (ydL us (yS yo y.n yc) y.e));generalize World.setCells w118 PQ59 0 (ydL us (yS yo y.n yc) y.e)=WS130 at q125 q127 r126 b128 hS129⊢;refine wpAnyH_ready (rs:=[5]) (by kernel_rfl) (by simp) ?_;refine AllReadyH.cons rfl (fun K hK=> ?_) AllReadyH.nil
    have bu:But PQ72 WS130 (WS130.setCells PQ72 0 (ydL vs (yS xo x.n xc) x.e)):=de _ _ _ _;have hth:WS130.there PQ72 0 3:=dD q127;have q131:au (WS130.setCells PQ72 0 (ydL vs (yS xo x.n xc) x.e)) PQ72 35 (ydL vs (yS xo x.n xc) x.e):=q127.sets _ rfl;have r132:=bu.rd r126 (of77);have q133:=bu.loc q125 (by omega);have b134:=bu.below b128 (by omega);rw[if_pos (by kernel_rfl)];refine wp_store_mid 35 (.tmp 11) (.tmp 68) rfl PQ72 0 (ydA vs (yS xo x.n xc) x.e) (by kernel_rfl) (by kernel_rfl) hth (by kernel_rfl) (by simp[Value.oneCell']) ?_;refine hK.out _ _ trivial (fun hS135=> ?_)
    clear hK K;clear q127 r126 q125 b128 bu hth;refine wpAnyH_done (by kernel_rfl) ?_ _;clear hS0 hS108 hS109 hS117 hS124 hS129 hS135;change Exit.then _ _ _ _ (World.setCells WS130 PQ72 0 (ydL vs (yS xo x.n xc) x.e));generalize World.setCells WS130 PQ72 0 (ydL vs (yS xo x.n xc) x.e)=W136 at q133 q131 r132 b134⊢;simp only[Act.put,List.getElem_toArray,List.getElem_cons_succ,List.getElem_cons_zero];obtain⟨c137,c138,c139⟩:=q133.cs3
    go_wp2_with fail
    refine(HD.out _ _ _ b134 r132).mono ?_;rintro zz w140 ⟨rfl,bb141⟩;have b142:=aa b134 bb141;clear q133 q131 r132 b134 bb141 HD c137 c138 c139
    go_wp2
    go_ret
    exact⟨by simp,b142⟩
  ·rw[if_pos (by kernel_rfl)]
   refine wp_yield (ydV true (yS xo x.n xc) x.e) (fy 35 (.tmp 10) rfl PQ59 0 (by kernel_rfl) _ _ q102.range underlying35 rfl (by kernel_rfl)) ?_;refine hK.out _ _ trivial (fun hS108=> ?_)
   clear hK K;refine wpAnyH_ready (rs:=[0]) (by kernel_rfl) (by simp) ?_;refine AllReadyH.cons rfl (fun K hK=> ?_) AllReadyH.nil
   rw[if_pos (by kernel_rfl)];refine wp_yield (ydV y.s (yS yo y.n yc) y.e) (fy 35 (.tmp 11) rfl PQ72 0 (by kernel_rfl) _ _ q103.range underlying35 rfl (by kernel_rfl)) ?_;refine hK.out _ _ trivial (fun hS109=> ?_)
   clear hK K;refine wpAnyH_ready (rs:=[1]) (by kernel_rfl) (by simp) ?_;refine AllReadyH.cons rfl (fun K hK=> ?_) AllReadyH.nil
   go_simp
   refine(M1.out _ _ _ b106 r105).mono ?_;rintro zz w110 ⟨rfl,bb111⟩;have q112:=q102.l bb111;have q113:=q103.l bb111;have r114:=r104.l bb111;have r115:=r105.l bb111;have b116:=aa b106 bb111;clear q102 q103 r104 r105 b106 bb111 M1;refine hK.out _ _ trivial (fun hS117=> ?_)
   clear hK K;refine wpAnyH_ready (rs:=[3]) (by kernel_rfl) (by simp) ?_;refine AllReadyH.cons rfl (fun K hK=> ?_) AllReadyH.nil
   go_simp
   refine(M2.out _ _ _ b116 r114).mono ?_;rintro zz w118 ⟨rfl,bb119⟩;have q120:=q112.l bb119;have q121:=q113.l bb119;have r122:=r115.l bb119;have b123:=aa b116 bb119;clear q112 q113 r114 r115 b116 bb119 M2;refine hK.out _ _ trivial (fun hS124=> ?_)
   clear hK K;refine wpAnyH_ready (rs:=[4]) (by kernel_rfl) (by simp) ?_;refine AllReadyH.cons rfl (fun K hK=> ?_) AllReadyH.nil
   have bu:But PQ59 w118 (w118.setCells PQ59 0 (ydL us (yS yo y.n yc) y.e)):=de _ _ _ _;have hth:w118.there PQ59 0 3:=dD q120;have q125:au (w118.setCells PQ59 0 (ydL us (yS yo y.n yc) y.e)) PQ59 35 (ydL us (yS yo y.n yc) y.e):=q120.sets _ rfl;have r126:=bu.rd r122 (of63);have q127:=bu.loc q121 (by omega);have b128:=bu.below b123 (by omega);rw[if_pos (by kernel_rfl)];refine wp_store_mid 35 (.tmp 10) (.tmp 66) rfl PQ59 0 (ydA us (yS yo y.n yc) y.e) (by kernel_rfl) (by kernel_rfl) hth (by kernel_rfl) (by simp[Value.oneCell']) ?_;refine hK.out _ _ trivial (fun hS129=> ?_)
   clear hK K;clear q120 r122 q121 b123 bu hth;change wpAnyH _ _ _ _ _ _ _ _ (World.setCells w118 PQ59 0 (ydL us (yS yo y.n yc) y.e));generalize World.setCells w118 PQ59 0 (ydL us (yS yo y.n yc) y.e)=WS130 at q125 q127 r126 b128 hS129⊢;refine wpAnyH_ready (rs:=[5]) (by kernel_rfl) (by simp) ?_;refine AllReadyH.cons rfl (fun K hK=> ?_) AllReadyH.nil
   have bu:But PQ72 WS130 (WS130.setCells PQ72 0 (ydL vs (yS xo x.n xc) x.e)):=de _ _ _ _;have hth:WS130.there PQ72 0 3:=dD q127;have q131:au (WS130.setCells PQ72 0 (ydL vs (yS xo x.n xc) x.e)) PQ72 35 (ydL vs (yS xo x.n xc) x.e):=q127.sets _ rfl;have r132:=bu.rd r126 (of77);have q133:=bu.loc q125 (by omega);have b134:=bu.below b128 (by omega);rw[if_pos (by kernel_rfl)];refine wp_store_mid 35 (.tmp 11) (.tmp 68) rfl PQ72 0 (ydA vs (yS xo x.n xc) x.e) (by kernel_rfl) (by kernel_rfl) hth (by kernel_rfl) (by simp[Value.oneCell']) ?_;refine hK.out _ _ trivial (fun hS135=> ?_)
   clear hK K;clear q127 r126 q125 b128 bu hth;refine wpAnyH_done (by kernel_rfl) ?_ _;clear hS0 hS108 hS109 hS117 hS124 hS129 hS135;change Exit.then _ _ _ _ (World.setCells WS130 PQ72 0 (ydL vs (yS xo x.n xc) x.e));generalize World.setCells WS130 PQ72 0 (ydL vs (yS xo x.n xc) x.e)=W136 at q133 q131 r132 b134⊢;simp only[Act.put,List.getElem_toArray,List.getElem_cons_succ,List.getElem_cons_zero];obtain⟨c137,c138,c139⟩:=q133.cs3
   go_wp2_with fail
   refine(HD.out _ _ _ b134 r132).mono ?_;rintro zz w140 ⟨rfl,bb141⟩;have b142:=aa b134 bb141;clear q133 q131 r132 b134 bb141 HD c137 c138 c139
   go_wp2
   go_ret
   exact⟨by simp,b142⟩
 ·go_simp
  have al56:=af WD55 (.cells (ydA false yN 0) 35);have q57:=ah WD55 (ydL false yN 0) 35;have hl60:w.heap.size≤WD55.heap.size:=b54.size;have hl61:=q51.lt;have of62:=t9 r52 (Nat.le_refl WD55.heap.size);have of63:=t9 r53 (Nat.le_refl WD55.heap.size);have q64:=q51.l al56;have r65:=r52.l al56;have r66:=r53.l al56;have b67:=aa b54 al56;refine hK.out _ _ q64 (fun hS68=> ?_)
  clear hK K;clear q51 r52 r53 b54 al56;generalize WD55.alloc (.cells (ydA false yN 0) 35)=WN58 at q64 q57 r65 r66 b67 hS68⊢;generalize WD55.heap.size=PQ59 at q57 hl60 hl61 of62 of63⊢;refine wpAnyH_ready (rs:=[4]) (by kernel_rfl) (by simp) ?_;refine AllReadyH.cons rfl (fun K hK=> ?_) AllReadyH.nil
  go_simp
  have al69:=af WN58 (.cells (ydA false yN 0) 35);have q70:=ah WN58 (ydL false yN 0) 35;have hl73:w.heap.size≤WN58.heap.size:=b67.size;have hl74:=q64.lt;have hl75:=q57.lt;have of76:=t9 r65 (Nat.le_refl WN58.heap.size);have of77:=t9 r66 (Nat.le_refl WN58.heap.size);have q78:=q64.l al69;have q79:=q57.l al69;have r80:=r65.l al69;have r81:=r66.l al69;have b82:=aa b67 al69;refine hK.out _ _ q78 (fun hS83=> ?_)
  clear hK K;clear q64 q57 r65 r66 b67 al69;generalize WN58.alloc (.cells (ydA false yN 0) 35)=WN71 at q78 q79 q70 r80 r81 b82 hS83⊢;generalize WN58.heap.size=PQ72 at q70 hl73 hl74 hl75 of76 of77⊢;refine wpAnyH_ready (rs:=[6]) (by kernel_rfl) (by simp) ?_;refine AllReadyH.cons rfl (fun K hK=> ?_) AllReadyH.nil
  have bu:But PQ72 WN71 (WN71.setCells PQ72 0 (ydL true (yS xo x.n xc) x.e)):=de _ _ _ _;have hth:WN71.there PQ72 0 3:=dD q70;have q84:au (WN71.setCells PQ72 0 (ydL true (yS xo x.n xc) x.e)) PQ72 35 (ydL true (yS xo x.n xc) x.e):=q70.sets _ rfl;have r85:=bu.rd r80 (of76);have r86:=bu.rd r81 (of77);have q87:=bu.loc q78 (by omega);have q88:=bu.loc q79 (by omega);have b89:=bu.below b82 (by omega);rw[if_pos (by kernel_rfl)];refine wp_store_mid 35 (.tmp 10) (.tmp 60) rfl PQ72 0 (ydA true (yS xo x.n xc) x.e) (by kernel_rfl) (by kernel_rfl) hth (by kernel_rfl) (by simp[Value.oneCell']) ?_;refine hK.out _ _ q87 (fun hS90=> ?_)
  clear hK K;clear q70 r80 r81 q78 q79 b82 bu hth;change wpAnyH _ _ _ _ _ _ _ _ (World.setCells WN71 PQ72 0 (ydL true (yS xo x.n xc) x.e));generalize World.setCells WN71 PQ72 0 (ydL true (yS xo x.n xc) x.e)=WS91 at q87 q88 q84 r85 r86 b89 hS90⊢;refine wpAnyH_ready (rs:=[7]) (by kernel_rfl) (by simp) ?_;refine AllReadyH.cons rfl (fun K hK=> ?_) AllReadyH.nil
  have bu:But PQ59 WS91 (WS91.setCells PQ59 0 (ydL y.s (yS yo y.n yc) y.e)):=de _ _ _ _;have hth:WS91.there PQ59 0 3:=dD q88;have q92:au (WS91.setCells PQ59 0 (ydL y.s (yS yo y.n yc) y.e)) PQ59 35 (ydL y.s (yS yo y.n yc) y.e):=q88.sets _ rfl;have r93:=bu.rd r85 (of62);have r94:=bu.rd r86 (of63);have q95:=bu.loc q87 (by omega);have q96:=bu.loc q84 (by omega);have b97:=bu.below b89 (by omega);rw[if_pos (by kernel_rfl)];refine wp_store_mid 35 (.tmp 11) (.tmp 62) rfl PQ59 0 (ydA y.s (yS yo y.n yc) y.e) (by kernel_rfl) (by kernel_rfl) hth (by kernel_rfl) (by simp[Value.oneCell']) ?_;refine hK.out _ _ q95 (fun hS98=> ?_)
  clear hK K;clear q88 r85 r86 q87 q84 b89 bu hth;refine wpAnyH_done (by kernel_rfl) ?_ _;clear hS0 hS68 hS83 hS90 hS98;change Exit.then _ _ _ _ (World.setCells WS91 PQ59 0 (ydL y.s (yS yo y.n yc) y.e));generalize World.setCells WS91 PQ59 0 (ydL y.s (yS yo y.n yc) y.e)=W99 at q95 q92 q96 r93 r94 b97⊢;simp only[Act.put,List.getElem_toArray,List.getElem_cons_succ,List.getElem_cons_zero];have c100:=q96.c 0 rfl
  go_upto_region 10 with fail
  clear c100;have bW101:yB W99 W99.drew:=(Below.refl _ _).drew;have q102:=q92.l bW101;have q103:=q96.l bW101;have r104:=r93.l bW101;have r105:=r94.l bW101;have b106:=aa b97 bW101;clear q95 q92 q96 r93 r94 b97 bW101;refine wp_region_held_drew (S:=fun _=>True) (by kernel_rfl) trivial (fun hS0=> ?_)
  generalize W99.drew=WD107 at q102 q103 r104 r105 b106 hS0⊢;refine wpAnyH_ready (rs:=[0,2]) (by kernel_rfl) (by simp) ?_;refine AllReadyH.cons rfl (fun K hK=> ?_) (AllReadyH.cons rfl (fun K hK=> ?_) AllReadyH.nil)
  ·rw[if_pos (by kernel_rfl)]
   refine wp_yield (ydV y.s (yS yo y.n yc) y.e) (fy 35 (.tmp 11) rfl PQ59 0 (by kernel_rfl) _ _ q102.range underlying35 rfl (by kernel_rfl)) ?_;refine hK.out _ _ trivial (fun hS108=> ?_)
   clear hK K;refine wpAnyH_ready (rs:=[1,2]) (by kernel_rfl) (by simp) ?_;refine AllReadyH.cons rfl (fun K hK=> ?_) (AllReadyH.cons rfl (fun K hK=> ?_) AllReadyH.nil)
   ·go_simp
    refine(M1.out _ _ _ b106 r105).mono ?_;rintro zz w109 ⟨rfl,bb110⟩;have q111:=q102.l bb110;have q112:=q103.l bb110;have r113:=r104.l bb110;have r114:=r105.l bb110;have b115:=aa b106 bb110;clear q102 q103 r104 r105 b106 bb110 M1;refine hK.out _ _ trivial (fun hS116=> ?_)
    clear hK K;refine wpAnyH_ready (rs:=[2]) (by kernel_rfl) (by simp) ?_;refine AllReadyH.cons rfl (fun K hK=> ?_) AllReadyH.nil
    rw[if_pos (by kernel_rfl)];refine wp_yield (ydV true (yS xo x.n xc) x.e) (fy 35 (.tmp 10) rfl PQ72 0 (by kernel_rfl) _ _ q112.range underlying35 rfl (by kernel_rfl)) ?_;refine hK.out _ _ trivial (fun hS117=> ?_)
    clear hK K;refine wpAnyH_ready (rs:=[3]) (by kernel_rfl) (by simp) ?_;refine AllReadyH.cons rfl (fun K hK=> ?_) AllReadyH.nil
    go_simp
    refine(M2.out _ _ _ b115 r113).mono ?_;rintro zz w118 ⟨rfl,bb119⟩;have q120:=q111.l bb119;have q121:=q112.l bb119;have r122:=r114.l bb119;have b123:=aa b115 bb119;clear q111 q112 r113 r114 b115 bb119 M2;refine hK.out _ _ trivial (fun hS124=> ?_)
    clear hK K;refine wpAnyH_ready (rs:=[4]) (by kernel_rfl) (by simp) ?_;refine AllReadyH.cons rfl (fun K hK=> ?_) AllReadyH.nil
    have bu:But PQ72 w118 (w118.setCells PQ72 0 (ydL us (yS yo y.n yc) y.e)):=de _ _ _ _;have hth:w118.there PQ72 0 3:=dD q121;have q125:au (w118.setCells PQ72 0 (ydL us (yS yo y.n yc) y.e)) PQ72 35 (ydL us (yS yo y.n yc) y.e):=q121.sets _ rfl;have r126:=bu.rd r122 (of77);have q127:=bu.loc q120 (by omega);have b128:=bu.below b123 (by omega);rw[if_pos (by kernel_rfl)];refine wp_store_mid 35 (.tmp 10) (.tmp 66) rfl PQ72 0 (ydA us (yS yo y.n yc) y.e) (by kernel_rfl) (by kernel_rfl) hth (by kernel_rfl) (by simp[Value.oneCell']) ?_;refine hK.out _ _ trivial (fun hS129=> ?_)
    clear hK K;clear q121 r122 q120 b123 bu hth;change wpAnyH _ _ _ _ _ _ _ _ (World.setCells w118 PQ72 0 (ydL us (yS yo y.n yc) y.e));generalize World.setCells w118 PQ72 0 (ydL us (yS yo y.n yc) y.e)=WS130 at q127 q125 r126 b128 hS129⊢;refine wpAnyH_ready (rs:=[5]) (by kernel_rfl) (by simp) ?_;refine AllReadyH.cons rfl (fun K hK=> ?_) AllReadyH.nil
    have bu:But PQ59 WS130 (WS130.setCells PQ59 0 (ydL vs (yS xo x.n xc) x.e)):=de _ _ _ _;have hth:WS130.there PQ59 0 3:=dD q127;have q131:au (WS130.setCells PQ59 0 (ydL vs (yS xo x.n xc) x.e)) PQ59 35 (ydL vs (yS xo x.n xc) x.e):=q127.sets _ rfl;have r132:=bu.rd r126 (of63);have q133:=bu.loc q125 (by omega);have b134:=bu.below b128 (by omega);rw[if_pos (by kernel_rfl)];refine wp_store_mid 35 (.tmp 11) (.tmp 68) rfl PQ59 0 (ydA vs (yS xo x.n xc) x.e) (by kernel_rfl) (by kernel_rfl) hth (by kernel_rfl) (by simp[Value.oneCell']) ?_;refine hK.out _ _ trivial (fun hS135=> ?_)
    clear hK K;clear q127 r126 q125 b128 bu hth;refine wpAnyH_done (by kernel_rfl) ?_ _;clear hS0 hS108 hS116 hS117 hS124 hS129 hS135;change Exit.then _ _ _ _ (World.setCells WS130 PQ59 0 (ydL vs (yS xo x.n xc) x.e));generalize World.setCells WS130 PQ59 0 (ydL vs (yS xo x.n xc) x.e)=W136 at q131 q133 r132 b134⊢;simp only[Act.put,List.getElem_toArray,List.getElem_cons_succ,List.getElem_cons_zero];obtain⟨c137,c138,c139⟩:=q133.cs3
    go_wp2_with fail
    refine(HD.out _ _ _ b134 r132).mono ?_;rintro zz w140 ⟨rfl,bb141⟩;have b142:=aa b134 bb141;clear q131 q133 r132 b134 bb141 HD c137 c138 c139
    go_wp2
    go_ret
    exact⟨by simp,b142⟩
   ·rw[if_pos (by kernel_rfl)]
    refine wp_yield (ydV true (yS xo x.n xc) x.e) (fy 35 (.tmp 10) rfl PQ72 0 (by kernel_rfl) _ _ q103.range underlying35 rfl (by kernel_rfl)) ?_;refine hK.out _ _ trivial (fun hS109=> ?_)
    clear hK K;refine wpAnyH_ready (rs:=[1]) (by kernel_rfl) (by simp) ?_;refine AllReadyH.cons rfl (fun K hK=> ?_) AllReadyH.nil
    go_simp
    refine(M1.out _ _ _ b106 r105).mono ?_;rintro zz w110 ⟨rfl,bb111⟩;have q112:=q102.l bb111;have q113:=q103.l bb111;have r114:=r104.l bb111;have r115:=r105.l bb111;have b116:=aa b106 bb111;clear q102 q103 r104 r105 b106 bb111 M1;refine hK.out _ _ trivial (fun hS117=> ?_)
    clear hK K;refine wpAnyH_ready (rs:=[3]) (by kernel_rfl) (by simp) ?_;refine AllReadyH.cons rfl (fun K hK=> ?_) AllReadyH.nil
    go_simp
    refine(M2.out _ _ _ b116 r114).mono ?_;rintro zz w118 ⟨rfl,bb119⟩;have q120:=q112.l bb119;have q121:=q113.l bb119;have r122:=r115.l bb119;have b123:=aa b116 bb119;clear q112 q113 r114 r115 b116 bb119 M2;refine hK.out _ _ trivial (fun hS124=> ?_)
    clear hK K;refine wpAnyH_ready (rs:=[4]) (by kernel_rfl) (by simp) ?_;refine AllReadyH.cons rfl (fun K hK=> ?_) AllReadyH.nil
    have bu:But PQ72 w118 (w118.setCells PQ72 0 (ydL us (yS yo y.n yc) y.e)):=de _ _ _ _;have hth:w118.there PQ72 0 3:=dD q121;have q125:au (w118.setCells PQ72 0 (ydL us (yS yo y.n yc) y.e)) PQ72 35 (ydL us (yS yo y.n yc) y.e):=q121.sets _ rfl;have r126:=bu.rd r122 (of77);have q127:=bu.loc q120 (by omega);have b128:=bu.below b123 (by omega);rw[if_pos (by kernel_rfl)];refine wp_store_mid 35 (.tmp 10) (.tmp 66) rfl PQ72 0 (ydA us (yS yo y.n yc) y.e) (by kernel_rfl) (by kernel_rfl) hth (by kernel_rfl) (by simp[Value.oneCell']) ?_;refine hK.out _ _ trivial (fun hS129=> ?_)
    clear hK K;clear q121 r122 q120 b123 bu hth;change wpAnyH _ _ _ _ _ _ _ _ (World.setCells w118 PQ72 0 (ydL us (yS yo y.n yc) y.e));generalize World.setCells w118 PQ72 0 (ydL us (yS yo y.n yc) y.e)=WS130 at q127 q125 r126 b128 hS129⊢;refine wpAnyH_ready (rs:=[5]) (by kernel_rfl) (by simp) ?_;refine AllReadyH.cons rfl (fun K hK=> ?_) AllReadyH.nil
    have bu:But PQ59 WS130 (WS130.setCells PQ59 0 (ydL vs (yS xo x.n xc) x.e)):=de _ _ _ _;have hth:WS130.there PQ59 0 3:=dD q127;have q131:au (WS130.setCells PQ59 0 (ydL vs (yS xo x.n xc) x.e)) PQ59 35 (ydL vs (yS xo x.n xc) x.e):=q127.sets _ rfl;have r132:=bu.rd r126 (of63);have q133:=bu.loc q125 (by omega);have b134:=bu.below b128 (by omega);rw[if_pos (by kernel_rfl)];refine wp_store_mid 35 (.tmp 11) (.tmp 68) rfl PQ59 0 (ydA vs (yS xo x.n xc) x.e) (by kernel_rfl) (by kernel_rfl) hth (by kernel_rfl) (by simp[Value.oneCell']) ?_;refine hK.out _ _ trivial (fun hS135=> ?_)
    clear hK K;clear q127 r126 q125 b128 bu hth;refine wpAnyH_done (by kernel_rfl) ?_ _;clear hS0 hS108 hS109 hS117 hS124 hS129 hS135;change Exit.then _ _ _ _ (World.setCells WS130 PQ59 0 (ydL vs (yS xo x.n xc) x.e));generalize World.setCells WS130 PQ59 0 (ydL vs (yS xo x.n xc) x.e)=W136 at q131 q133 r132 b134⊢;simp only[Act.put,List.getElem_toArray,List.getElem_cons_succ,List.getElem_cons_zero];obtain⟨c137,c138,c139⟩:=q133.cs3
    go_wp2_with fail
    refine(HD.out _ _ _ b134 r132).mono ?_;rintro zz w140 ⟨rfl,bb141⟩;have b142:=aa b134 bb141;clear q131 q133 r132 b134 bb141 HD c137 c138 c139
    go_wp2
    go_ret
    exact⟨by simp,b142⟩
  ·rw[if_pos (by kernel_rfl)]
   refine wp_yield (ydV true (yS xo x.n xc) x.e) (fy 35 (.tmp 10) rfl PQ72 0 (by kernel_rfl) _ _ q103.range underlying35 rfl (by kernel_rfl)) ?_;refine hK.out _ _ trivial (fun hS108=> ?_)
   clear hK K;refine wpAnyH_ready (rs:=[0]) (by kernel_rfl) (by simp) ?_;refine AllReadyH.cons rfl (fun K hK=> ?_) AllReadyH.nil
   rw[if_pos (by kernel_rfl)];refine wp_yield (ydV y.s (yS yo y.n yc) y.e) (fy 35 (.tmp 11) rfl PQ59 0 (by kernel_rfl) _ _ q102.range underlying35 rfl (by kernel_rfl)) ?_;refine hK.out _ _ trivial (fun hS109=> ?_)
   clear hK K;refine wpAnyH_ready (rs:=[1]) (by kernel_rfl) (by simp) ?_;refine AllReadyH.cons rfl (fun K hK=> ?_) AllReadyH.nil
   go_simp
   refine(M1.out _ _ _ b106 r105).mono ?_;rintro zz w110 ⟨rfl,bb111⟩;have q112:=q102.l bb111;have q113:=q103.l bb111;have r114:=r104.l bb111;have r115:=r105.l bb111;have b116:=aa b106 bb111;clear q102 q103 r104 r105 b106 bb111 M1;refine hK.out _ _ trivial (fun hS117=> ?_)
   clear hK K;refine wpAnyH_ready (rs:=[3]) (by kernel_rfl) (by simp) ?_;refine AllReadyH.cons rfl (fun K hK=> ?_) AllReadyH.nil
   go_simp
   refine(M2.out _ _ _ b116 r114).mono ?_;rintro zz w118 ⟨rfl,bb119⟩;have q120:=q112.l bb119;have q121:=q113.l bb119;have r122:=r115.l bb119;have b123:=aa b116 bb119;clear q112 q113 r114 r115 b116 bb119 M2;refine hK.out _ _ trivial (fun hS124=> ?_)
   clear hK K;refine wpAnyH_ready (rs:=[4]) (by kernel_rfl) (by simp) ?_;refine AllReadyH.cons rfl (fun K hK=> ?_) AllReadyH.nil
   have bu:But PQ72 w118 (w118.setCells PQ72 0 (ydL us (yS yo y.n yc) y.e)):=de _ _ _ _;have hth:w118.there PQ72 0 3:=dD q121;have q125:au (w118.setCells PQ72 0 (ydL us (yS yo y.n yc) y.e)) PQ72 35 (ydL us (yS yo y.n yc) y.e):=q121.sets _ rfl;have r126:=bu.rd r122 (of77);have q127:=bu.loc q120 (by omega);have b128:=bu.below b123 (by omega);rw[if_pos (by kernel_rfl)];refine wp_store_mid 35 (.tmp 10) (.tmp 66) rfl PQ72 0 (ydA us (yS yo y.n yc) y.e) (by kernel_rfl) (by kernel_rfl) hth (by kernel_rfl) (by simp[Value.oneCell']) ?_;refine hK.out _ _ trivial (fun hS129=> ?_)
   clear hK K;clear q121 r122 q120 b123 bu hth;change wpAnyH _ _ _ _ _ _ _ _ (World.setCells w118 PQ72 0 (ydL us (yS yo y.n yc) y.e));generalize World.setCells w118 PQ72 0 (ydL us (yS yo y.n yc) y.e)=WS130 at q127 q125 r126 b128 hS129⊢;refine wpAnyH_ready (rs:=[5]) (by kernel_rfl) (by simp) ?_;refine AllReadyH.cons rfl (fun K hK=> ?_) AllReadyH.nil
   have bu:But PQ59 WS130 (WS130.setCells PQ59 0 (ydL vs (yS xo x.n xc) x.e)):=de _ _ _ _;have hth:WS130.there PQ59 0 3:=dD q127;have q131:au (WS130.setCells PQ59 0 (ydL vs (yS xo x.n xc) x.e)) PQ59 35 (ydL vs (yS xo x.n xc) x.e):=q127.sets _ rfl;have r132:=bu.rd r126 (of63);have q133:=bu.loc q125 (by omega);have b134:=bu.below b128 (by omega);rw[if_pos (by kernel_rfl)];refine wp_store_mid 35 (.tmp 11) (.tmp 68) rfl PQ59 0 (ydA vs (yS xo x.n xc) x.e) (by kernel_rfl) (by kernel_rfl) hth (by kernel_rfl) (by simp[Value.oneCell']) ?_;refine hK.out _ _ trivial (fun hS135=> ?_)
   clear hK K;clear q127 r126 q125 b128 bu hth;refine wpAnyH_done (by kernel_rfl) ?_ _;clear hS0 hS108 hS109 hS117 hS124 hS129 hS135;change Exit.then _ _ _ _ (World.setCells WS130 PQ59 0 (ydL vs (yS xo x.n xc) x.e));generalize World.setCells WS130 PQ59 0 (ydL vs (yS xo x.n xc) x.e)=W136 at q131 q133 r132 b134⊢;simp only[Act.put,List.getElem_toArray,List.getElem_cons_succ,List.getElem_cons_zero];obtain⟨c137,c138,c139⟩:=q133.cs3
   go_wp2_with fail
   refine(HD.out _ _ _ b134 r132).mono ?_;rintro zz w140 ⟨rfl,bb141⟩;have b142:=aa b134 bb141;clear q131 q133 r132 b134 bb141 HD c137 c138 c139
   go_wp2
   go_ret
   exact⟨by simp,b142⟩
theorem brackets_one_n (x y:ak)(us vs:Bool)(sa sb:Bool)(ao bo:Option Addr)(la lb ac bc:Nat)(ea eb:Int)(m sg:Int)(w:World)(hm1: ¬m<1)(hm: ¬4096<m)(hs: ¬sg≤0)
  (HK:yH w 5 #[.agg #[.bool sa,.slice ao la ac,yi ea,.bool sb,.slice bo lb bc,yi eb],yi m] (.tuple #[yi 0,.bool false,yi 0]))
  (HC:yH w 6 #[.agg #[.bool sa,.slice ao la ac,yi ea,.bool sb,.slice bo lb bc,yi eb]] (yi 0))
  (HB:yH w 7 #[] (.bool true))
  (HO: ∀w1,yB w w1→yC 8 #[.agg #[.bool sa,.slice ao la ac,yi ea,.bool sb,.slice bo lb bc,yi eb]] w1 (fun z w'=> ∃xv yv,z= .returned (.agg #[.bool true,xv,yi x.e,.bool y.s,yv,yi y.e])∧Rd w' .i64 xv (Dg.dg 65536 x.n)∧Rd w' .i64 yv (Dg.dg 65536 y.n)∧yB w1 w'))
  (M1: ∀yo yc w1,yB w w1→Rd w1 .i64 (yS yo y.n yc) (Dg.dg 65536 y.n)→yC 9 #[ydV y.s (yS yo y.n yc) y.e] w1 (yR w1 (ydV us (yS yo y.n yc) y.e)))
  (M2: ∀xo xc w1,yB w w1→Rd w1 .i64 (yS xo x.n xc) (Dg.dg 65536 x.n)→yC 9 #[ydV true (yS xo x.n xc) x.e] w1 (yR w1 (ydV vs (yS xo x.n xc) x.e)))
  (HD: ∀yo yc w1,yB w w1→Rd w1 .i64 (yS yo y.n yc) (Dg.dg 65536 y.n)→yC 13 #[ydV us (yS yo y.n yc) y.e] w1 (yR w1 (yi sg)))
  (S1: ∀p q yo yc xo xc w1,yB w w1→w1.rangeAt p 0 (ydL us (yS yo y.n yc) y.e)→w1.rangeAt q 0 (ydL vs (yS xo x.n xc) x.e)→Rd w1 .i64 (yS yo y.n yc) (Dg.dg 65536 y.n)→Rd w1 .i64 (yS xo x.n xc) (Dg.dg 65536 x.n)→yC 10 #[yi 1,.pointer (some ⟨p,0,none⟩),.pointer (some ⟨q,0,none⟩)] w1 (yR w1 (.bool false))):
  yC 3 #[.agg #[.bool sa,.slice ao la ac,yi ea,.bool sb,.slice bo lb bc,yi eb],yi m] w (yR w (.bool true)):=by
 replace HK:Hid _:=HK;replace HC:Hid _:=HC;replace HB:Hid _:=HB;replace HO:Hid _:=HO;replace M1:Hid _:=M1;replace M2:Hid _:=M2;replace HD:Hid _:=HD;replace S1:Hid _:=S1;obtain⟨W3,hW4,q1,b2⟩:=cA w [.bool sa,.slice ao la ac,yi ea,.bool sb,.slice bo lb bc,yi eb] 27;replace hW4:Hid _:=hW4
 go_enter func3,ntmps3
 go_upto_region 1 with fail
 rw[hW4.out];clear hW4;obtain⟨c5,c6,c7,c8,c9,c10⟩:=q1.cs6
 go_wp2_with fail
 refine(HK.out _ b2).mono ?_;rintro zz w11 ⟨rfl,bb12⟩;have q13:=q1.l bb12;have b14:=aa b2 bb12;clear q1 b2 bb12 HK c5 c6 c7 c8 c9 c10;obtain⟨c15,c16,c17,c18,c19,c20⟩:=q13.cs6
 go_wp2_with fail
 refine(HC.out _ b14).mono ?_;rintro zz w21 ⟨rfl,bb22⟩;have q23:=q13.l bb22;have b24:=aa b14 bb22;clear q13 b14 bb22 HC c15 c16 c17 c18 c19 c20
 go_wp2_with fail
 refine(HB.out _ b24).mono ?_;rintro zz w25 ⟨rfl,bb26⟩;have q27:=q23.l bb26;have b28:=aa b24 bb26;clear q23 b24 bb26 HB;obtain⟨c29,c30,c31,c32,c33,c34⟩:=q27.cs6
 go_wp2_with fail
 refine(HO.out _ b28).mono ?_;rintro zz w35 ⟨v1x37,v2x38,rfl,r1x39,r2x40,bb36⟩;have b41:=aa b28 bb36;obtain⟨xo,xc,hv⟩:=r1x39.shape;subst hv;obtain⟨yo,yc,hv⟩:=r2x40.shape;subst hv;clear q27 b28 bb36 HO c29 c30 c31 c32 c33 c34;obtain⟨W44,hW43,q45,al42⟩:=cA w35 [.bool true,yS xo x.n xc,yi x.e,.bool y.s,yS yo y.n yc,yi y.e] 37;replace hW43:Hid _:=hW43;have hl46:w.heap.size≤w35.heap.size:=b41.size;have r47:=r1x39.l al42;have r48:=r2x40.l al42;have b49:=aa b41 al42;clear r1x39 r2x40 b41 al42
 go_upto_region 8 with fail
 rw[hW43.out];clear hW43
 go_upto_region 8 with fail
 have bW50:yB W44 W44.drew:=(Below.refl _ _).drew;have q51:=q45.l bW50;have r52:=r47.l bW50;have r53:=r48.l bW50;have b54:=aa b49 bW50;clear q45 r47 r48 b49 bW50;refine wp_region_held_drew (S:=fun wq=>au wq w35.heap.size 37 [.bool true,yS xo x.n xc,yi x.e,.bool y.s,yS yo y.n yc,yi y.e]) (by kernel_rfl) q51 (fun hS0=> ?_)
 generalize W44.drew=WD55 at q51 r52 r53 b54 hS0⊢;refine tq 0 (.pointer (some ⟨w35.heap.size,0,none⟩)) rfl (fun _ _=>by kernel_rfl) hS0 ?_
 refine tq 1 (ydV true (yS xo x.n xc) x.e) rfl (fun _ hw0=>fy 35 (.tmp 59) rfl w35.heap.size 0 (by kernel_rfl) _ _ (kY hw0 0 3 rfl) underlying35 rfl (by kernel_rfl)) hS0 ?_
 refine tq 2 (.pointer (some ⟨w35.heap.size,3,none⟩)) rfl (fun _ _=>by kernel_rfl) hS0 ?_
 refine tq 3 (ydV y.s (yS yo y.n yc) y.e) rfl (fun _ hw0=>fy 35 (.tmp 61) rfl w35.heap.size 3 (by kernel_rfl) _ _ (kY hw0 3 3 rfl) underlying35 rfl (by kernel_rfl)) hS0 ?_
 refine wpAnyH_ready (rs:=[4,5]) (by kernel_rfl) (by simp) ?_;refine AllReadyH.cons rfl (fun K hK=> ?_) (AllReadyH.cons rfl (fun K hK=> ?_) AllReadyH.nil)
 ·go_simp
  have al56:=af WD55 (.cells (ydA false yN 0) 35);have q57:=ah WD55 (ydL false yN 0) 35;have hl60:w.heap.size≤WD55.heap.size:=b54.size;have hl61:=q51.lt;have of62:=t9 r52 (Nat.le_refl WD55.heap.size);have of63:=t9 r53 (Nat.le_refl WD55.heap.size);have q64:=q51.l al56;have r65:=r52.l al56;have r66:=r53.l al56;have b67:=aa b54 al56;refine hK.out _ _ q64 (fun hS68=> ?_)
  clear hK K;clear q51 r52 r53 b54 al56;generalize WD55.alloc (.cells (ydA false yN 0) 35)=WN58 at q64 q57 r65 r66 b67 hS68⊢;generalize WD55.heap.size=PQ59 at q57 hl60 hl61 of62 of63⊢;refine wpAnyH_ready (rs:=[5]) (by kernel_rfl) (by simp) ?_;refine AllReadyH.cons rfl (fun K hK=> ?_) AllReadyH.nil
  go_simp
  have al69:=af WN58 (.cells (ydA false yN 0) 35);have q70:=ah WN58 (ydL false yN 0) 35;have hl73:w.heap.size≤WN58.heap.size:=b67.size;have hl74:=q64.lt;have hl75:=q57.lt;have of76:=t9 r65 (Nat.le_refl WN58.heap.size);have of77:=t9 r66 (Nat.le_refl WN58.heap.size);have q78:=q64.l al69;have q79:=q57.l al69;have r80:=r65.l al69;have r81:=r66.l al69;have b82:=aa b67 al69;refine hK.out _ _ q78 (fun hS83=> ?_)
  clear hK K;clear q64 q57 r65 r66 b67 al69;generalize WN58.alloc (.cells (ydA false yN 0) 35)=WN71 at q78 q79 q70 r80 r81 b82 hS83⊢;generalize WN58.heap.size=PQ72 at q70 hl73 hl74 hl75 of76 of77⊢;refine wpAnyH_ready (rs:=[6]) (by kernel_rfl) (by simp) ?_;refine AllReadyH.cons rfl (fun K hK=> ?_) AllReadyH.nil
  have bu:But PQ59 WN71 (WN71.setCells PQ59 0 (ydL true (yS xo x.n xc) x.e)):=de _ _ _ _;have hth:WN71.there PQ59 0 3:=dD q79;have q84:au (WN71.setCells PQ59 0 (ydL true (yS xo x.n xc) x.e)) PQ59 35 (ydL true (yS xo x.n xc) x.e):=q79.sets _ rfl;have r85:=bu.rd r80 (of62);have r86:=bu.rd r81 (of63);have q87:=bu.loc q78 (by omega);have q88:=bu.loc q70 (by omega);have b89:=bu.below b82 (by omega);rw[if_pos (by kernel_rfl)];refine wp_store_mid 35 (.tmp 10) (.tmp 60) rfl PQ59 0 (ydA true (yS xo x.n xc) x.e) (by kernel_rfl) (by kernel_rfl) hth (by kernel_rfl) (by simp[Value.oneCell']) ?_;refine hK.out _ _ q87 (fun hS90=> ?_)
  clear hK K;clear q79 r80 r81 q78 q70 b82 bu hth;change wpAnyH _ _ _ _ _ _ _ _ (World.setCells WN71 PQ59 0 (ydL true (yS xo x.n xc) x.e));generalize World.setCells WN71 PQ59 0 (ydL true (yS xo x.n xc) x.e)=WS91 at q87 q84 q88 r85 r86 b89 hS90⊢;refine wpAnyH_ready (rs:=[7]) (by kernel_rfl) (by simp) ?_;refine AllReadyH.cons rfl (fun K hK=> ?_) AllReadyH.nil
  have bu:But PQ72 WS91 (WS91.setCells PQ72 0 (ydL y.s (yS yo y.n yc) y.e)):=de _ _ _ _;have hth:WS91.there PQ72 0 3:=dD q88;have q92:au (WS91.setCells PQ72 0 (ydL y.s (yS yo y.n yc) y.e)) PQ72 35 (ydL y.s (yS yo y.n yc) y.e):=q88.sets _ rfl;have r93:=bu.rd r85 (of76);have r94:=bu.rd r86 (of77);have q95:=bu.loc q87 (by omega);have q96:=bu.loc q84 (by omega);have b97:=bu.below b89 (by omega);rw[if_pos (by kernel_rfl)];refine wp_store_mid 35 (.tmp 11) (.tmp 62) rfl PQ72 0 (ydA y.s (yS yo y.n yc) y.e) (by kernel_rfl) (by kernel_rfl) hth (by kernel_rfl) (by simp[Value.oneCell']) ?_;refine hK.out _ _ q95 (fun hS98=> ?_)
  clear hK K;clear q88 r85 r86 q87 q84 b89 bu hth;refine wpAnyH_done (by kernel_rfl) ?_ _;clear hS0 hS68 hS83 hS90 hS98;change Exit.then _ _ _ _ (World.setCells WS91 PQ72 0 (ydL y.s (yS yo y.n yc) y.e));generalize World.setCells WS91 PQ72 0 (ydL y.s (yS yo y.n yc) y.e)=W99 at q95 q96 q92 r93 r94 b97⊢;simp only[Act.put,List.getElem_toArray,List.getElem_cons_succ,List.getElem_cons_zero];have c100:=q96.c 0 rfl
  go_upto_region 10 with fail
  clear c100;have bW101:yB W99 W99.drew:=(Below.refl _ _).drew;have q102:=q96.l bW101;have q103:=q92.l bW101;have r104:=r93.l bW101;have r105:=r94.l bW101;have b106:=aa b97 bW101;clear q95 q96 q92 r93 r94 b97 bW101;refine wp_region_held_drew (S:=fun _=>True) (by kernel_rfl) trivial (fun hS0=> ?_)
  generalize W99.drew=WD107 at q102 q103 r104 r105 b106 hS0⊢;refine wpAnyH_ready (rs:=[0,2]) (by kernel_rfl) (by simp) ?_;refine AllReadyH.cons rfl (fun K hK=> ?_) (AllReadyH.cons rfl (fun K hK=> ?_) AllReadyH.nil)
  ·rw[if_pos (by kernel_rfl)]
   refine wp_yield (ydV y.s (yS yo y.n yc) y.e) (fy 35 (.tmp 11) rfl PQ72 0 (by kernel_rfl) _ _ q103.range underlying35 rfl (by kernel_rfl)) ?_;refine hK.out _ _ trivial (fun hS108=> ?_)
   clear hK K;refine wpAnyH_ready (rs:=[1,2]) (by kernel_rfl) (by simp) ?_;refine AllReadyH.cons rfl (fun K hK=> ?_) (AllReadyH.cons rfl (fun K hK=> ?_) AllReadyH.nil)
   ·go_simp
    refine(M1.out _ _ _ b106 r105).mono ?_;rintro zz w109 ⟨rfl,bb110⟩;have q111:=q102.l bb110;have q112:=q103.l bb110;have r113:=r104.l bb110;have r114:=r105.l bb110;have b115:=aa b106 bb110;clear q102 q103 r104 r105 b106 bb110 M1;refine hK.out _ _ trivial (fun hS116=> ?_)
    clear hK K;refine wpAnyH_ready (rs:=[2]) (by kernel_rfl) (by simp) ?_;refine AllReadyH.cons rfl (fun K hK=> ?_) AllReadyH.nil
    rw[if_pos (by kernel_rfl)];refine wp_yield (ydV true (yS xo x.n xc) x.e) (fy 35 (.tmp 10) rfl PQ59 0 (by kernel_rfl) _ _ q111.range underlying35 rfl (by kernel_rfl)) ?_;refine hK.out _ _ trivial (fun hS117=> ?_)
    clear hK K;refine wpAnyH_ready (rs:=[3]) (by kernel_rfl) (by simp) ?_;refine AllReadyH.cons rfl (fun K hK=> ?_) AllReadyH.nil
    go_simp
    refine(M2.out _ _ _ b115 r113).mono ?_;rintro zz w118 ⟨rfl,bb119⟩;have q120:=q111.l bb119;have q121:=q112.l bb119;have r122:=r113.l bb119;have r123:=r114.l bb119;have b124:=aa b115 bb119;clear q111 q112 r113 r114 b115 bb119 M2;refine hK.out _ _ trivial (fun hS125=> ?_)
    clear hK K;refine wpAnyH_ready (rs:=[4]) (by kernel_rfl) (by simp) ?_;refine AllReadyH.cons rfl (fun K hK=> ?_) AllReadyH.nil
    have bu:But PQ59 w118 (w118.setCells PQ59 0 (ydL us (yS yo y.n yc) y.e)):=de _ _ _ _;have hth:w118.there PQ59 0 3:=dD q120;have q126:au (w118.setCells PQ59 0 (ydL us (yS yo y.n yc) y.e)) PQ59 35 (ydL us (yS yo y.n yc) y.e):=q120.sets _ rfl;have r127:=bu.rd r122 (of62);have r128:=bu.rd r123 (of63);have q129:=bu.loc q121 (by omega);have b130:=bu.below b124 (by omega);rw[if_pos (by kernel_rfl)];refine wp_store_mid 35 (.tmp 10) (.tmp 66) rfl PQ59 0 (ydA us (yS yo y.n yc) y.e) (by kernel_rfl) (by kernel_rfl) hth (by kernel_rfl) (by simp[Value.oneCell']) ?_;refine hK.out _ _ trivial (fun hS131=> ?_)
    clear hK K;clear q120 r122 r123 q121 b124 bu hth;change wpAnyH _ _ _ _ _ _ _ _ (World.setCells w118 PQ59 0 (ydL us (yS yo y.n yc) y.e));generalize World.setCells w118 PQ59 0 (ydL us (yS yo y.n yc) y.e)=WS132 at q126 q129 r127 r128 b130 hS131⊢;refine wpAnyH_ready (rs:=[5]) (by kernel_rfl) (by simp) ?_;refine AllReadyH.cons rfl (fun K hK=> ?_) AllReadyH.nil
    have bu:But PQ72 WS132 (WS132.setCells PQ72 0 (ydL vs (yS xo x.n xc) x.e)):=de _ _ _ _;have hth:WS132.there PQ72 0 3:=dD q129;have q133:au (WS132.setCells PQ72 0 (ydL vs (yS xo x.n xc) x.e)) PQ72 35 (ydL vs (yS xo x.n xc) x.e):=q129.sets _ rfl;have r134:=bu.rd r127 (of76);have r135:=bu.rd r128 (of77);have q136:=bu.loc q126 (by omega);have b137:=bu.below b130 (by omega);rw[if_pos (by kernel_rfl)];refine wp_store_mid 35 (.tmp 11) (.tmp 68) rfl PQ72 0 (ydA vs (yS xo x.n xc) x.e) (by kernel_rfl) (by kernel_rfl) hth (by kernel_rfl) (by simp[Value.oneCell']) ?_;refine hK.out _ _ trivial (fun hS138=> ?_)
    clear hK K;clear q129 r127 r128 q126 b130 bu hth;refine wpAnyH_done (by kernel_rfl) ?_ _;clear hS0 hS108 hS116 hS117 hS125 hS131 hS138;change Exit.then _ _ _ _ (World.setCells WS132 PQ72 0 (ydL vs (yS xo x.n xc) x.e));generalize World.setCells WS132 PQ72 0 (ydL vs (yS xo x.n xc) x.e)=W139 at q136 q133 r134 r135 b137⊢;simp only[Act.put,List.getElem_toArray,List.getElem_cons_succ,List.getElem_cons_zero];obtain⟨c140,c141,c142⟩:=q136.cs3
    go_wp2_with fail
    refine(HD.out _ _ _ b137 r135).mono ?_;rintro zz w143 ⟨rfl,bb144⟩;have q145:=q136.l bb144;have q146:=q133.l bb144;have r147:=r134.l bb144;have r148:=r135.l bb144;have b149:=aa b137 bb144;clear q136 q133 r134 r135 b137 bb144 HD c140 c141 c142
    go_wp2_with fail
    refine(S1.out _ _ _ _ _ _ _ b149 q145.range q146.range r148 r147).mono ?_;rintro zz w150 ⟨rfl,bb151⟩;have b152:=aa b149 bb151;clear q145 q146 r147 r148 b149 bb151 S1
    go_wp2
    go_ret
    exact⟨by simp,b152⟩
   ·rw[if_pos (by kernel_rfl)]
    refine wp_yield (ydV true (yS xo x.n xc) x.e) (fy 35 (.tmp 10) rfl PQ59 0 (by kernel_rfl) _ _ q102.range underlying35 rfl (by kernel_rfl)) ?_;refine hK.out _ _ trivial (fun hS109=> ?_)
    clear hK K;refine wpAnyH_ready (rs:=[1]) (by kernel_rfl) (by simp) ?_;refine AllReadyH.cons rfl (fun K hK=> ?_) AllReadyH.nil
    go_simp
    refine(M1.out _ _ _ b106 r105).mono ?_;rintro zz w110 ⟨rfl,bb111⟩;have q112:=q102.l bb111;have q113:=q103.l bb111;have r114:=r104.l bb111;have r115:=r105.l bb111;have b116:=aa b106 bb111;clear q102 q103 r104 r105 b106 bb111 M1;refine hK.out _ _ trivial (fun hS117=> ?_)
    clear hK K;refine wpAnyH_ready (rs:=[3]) (by kernel_rfl) (by simp) ?_;refine AllReadyH.cons rfl (fun K hK=> ?_) AllReadyH.nil
    go_simp
    refine(M2.out _ _ _ b116 r114).mono ?_;rintro zz w118 ⟨rfl,bb119⟩;have q120:=q112.l bb119;have q121:=q113.l bb119;have r122:=r114.l bb119;have r123:=r115.l bb119;have b124:=aa b116 bb119;clear q112 q113 r114 r115 b116 bb119 M2;refine hK.out _ _ trivial (fun hS125=> ?_)
    clear hK K;refine wpAnyH_ready (rs:=[4]) (by kernel_rfl) (by simp) ?_;refine AllReadyH.cons rfl (fun K hK=> ?_) AllReadyH.nil
    have bu:But PQ59 w118 (w118.setCells PQ59 0 (ydL us (yS yo y.n yc) y.e)):=de _ _ _ _;have hth:w118.there PQ59 0 3:=dD q120;have q126:au (w118.setCells PQ59 0 (ydL us (yS yo y.n yc) y.e)) PQ59 35 (ydL us (yS yo y.n yc) y.e):=q120.sets _ rfl;have r127:=bu.rd r122 (of62);have r128:=bu.rd r123 (of63);have q129:=bu.loc q121 (by omega);have b130:=bu.below b124 (by omega);rw[if_pos (by kernel_rfl)];refine wp_store_mid 35 (.tmp 10) (.tmp 66) rfl PQ59 0 (ydA us (yS yo y.n yc) y.e) (by kernel_rfl) (by kernel_rfl) hth (by kernel_rfl) (by simp[Value.oneCell']) ?_;refine hK.out _ _ trivial (fun hS131=> ?_)
    clear hK K;clear q120 r122 r123 q121 b124 bu hth;change wpAnyH _ _ _ _ _ _ _ _ (World.setCells w118 PQ59 0 (ydL us (yS yo y.n yc) y.e));generalize World.setCells w118 PQ59 0 (ydL us (yS yo y.n yc) y.e)=WS132 at q126 q129 r127 r128 b130 hS131⊢;refine wpAnyH_ready (rs:=[5]) (by kernel_rfl) (by simp) ?_;refine AllReadyH.cons rfl (fun K hK=> ?_) AllReadyH.nil
    have bu:But PQ72 WS132 (WS132.setCells PQ72 0 (ydL vs (yS xo x.n xc) x.e)):=de _ _ _ _;have hth:WS132.there PQ72 0 3:=dD q129;have q133:au (WS132.setCells PQ72 0 (ydL vs (yS xo x.n xc) x.e)) PQ72 35 (ydL vs (yS xo x.n xc) x.e):=q129.sets _ rfl;have r134:=bu.rd r127 (of76);have r135:=bu.rd r128 (of77);have q136:=bu.loc q126 (by omega);have b137:=bu.below b130 (by omega);rw[if_pos (by kernel_rfl)];refine wp_store_mid 35 (.tmp 11) (.tmp 68) rfl PQ72 0 (ydA vs (yS xo x.n xc) x.e) (by kernel_rfl) (by kernel_rfl) hth (by kernel_rfl) (by simp[Value.oneCell']) ?_;refine hK.out _ _ trivial (fun hS138=> ?_)
    clear hK K;clear q129 r127 r128 q126 b130 bu hth;refine wpAnyH_done (by kernel_rfl) ?_ _;clear hS0 hS108 hS109 hS117 hS125 hS131 hS138;change Exit.then _ _ _ _ (World.setCells WS132 PQ72 0 (ydL vs (yS xo x.n xc) x.e));generalize World.setCells WS132 PQ72 0 (ydL vs (yS xo x.n xc) x.e)=W139 at q136 q133 r134 r135 b137⊢;simp only[Act.put,List.getElem_toArray,List.getElem_cons_succ,List.getElem_cons_zero];obtain⟨c140,c141,c142⟩:=q136.cs3
    go_wp2_with fail
    refine(HD.out _ _ _ b137 r135).mono ?_;rintro zz w143 ⟨rfl,bb144⟩;have q145:=q136.l bb144;have q146:=q133.l bb144;have r147:=r134.l bb144;have r148:=r135.l bb144;have b149:=aa b137 bb144;clear q136 q133 r134 r135 b137 bb144 HD c140 c141 c142
    go_wp2_with fail
    refine(S1.out _ _ _ _ _ _ _ b149 q145.range q146.range r148 r147).mono ?_;rintro zz w150 ⟨rfl,bb151⟩;have b152:=aa b149 bb151;clear q145 q146 r147 r148 b149 bb151 S1
    go_wp2
    go_ret
    exact⟨by simp,b152⟩
  ·rw[if_pos (by kernel_rfl)]
   refine wp_yield (ydV true (yS xo x.n xc) x.e) (fy 35 (.tmp 10) rfl PQ59 0 (by kernel_rfl) _ _ q102.range underlying35 rfl (by kernel_rfl)) ?_;refine hK.out _ _ trivial (fun hS108=> ?_)
   clear hK K;refine wpAnyH_ready (rs:=[0]) (by kernel_rfl) (by simp) ?_;refine AllReadyH.cons rfl (fun K hK=> ?_) AllReadyH.nil
   rw[if_pos (by kernel_rfl)];refine wp_yield (ydV y.s (yS yo y.n yc) y.e) (fy 35 (.tmp 11) rfl PQ72 0 (by kernel_rfl) _ _ q103.range underlying35 rfl (by kernel_rfl)) ?_;refine hK.out _ _ trivial (fun hS109=> ?_)
   clear hK K;refine wpAnyH_ready (rs:=[1]) (by kernel_rfl) (by simp) ?_;refine AllReadyH.cons rfl (fun K hK=> ?_) AllReadyH.nil
   go_simp
   refine(M1.out _ _ _ b106 r105).mono ?_;rintro zz w110 ⟨rfl,bb111⟩;have q112:=q102.l bb111;have q113:=q103.l bb111;have r114:=r104.l bb111;have r115:=r105.l bb111;have b116:=aa b106 bb111;clear q102 q103 r104 r105 b106 bb111 M1;refine hK.out _ _ trivial (fun hS117=> ?_)
   clear hK K;refine wpAnyH_ready (rs:=[3]) (by kernel_rfl) (by simp) ?_;refine AllReadyH.cons rfl (fun K hK=> ?_) AllReadyH.nil
   go_simp
   refine(M2.out _ _ _ b116 r114).mono ?_;rintro zz w118 ⟨rfl,bb119⟩;have q120:=q112.l bb119;have q121:=q113.l bb119;have r122:=r114.l bb119;have r123:=r115.l bb119;have b124:=aa b116 bb119;clear q112 q113 r114 r115 b116 bb119 M2;refine hK.out _ _ trivial (fun hS125=> ?_)
   clear hK K;refine wpAnyH_ready (rs:=[4]) (by kernel_rfl) (by simp) ?_;refine AllReadyH.cons rfl (fun K hK=> ?_) AllReadyH.nil
   have bu:But PQ59 w118 (w118.setCells PQ59 0 (ydL us (yS yo y.n yc) y.e)):=de _ _ _ _;have hth:w118.there PQ59 0 3:=dD q120;have q126:au (w118.setCells PQ59 0 (ydL us (yS yo y.n yc) y.e)) PQ59 35 (ydL us (yS yo y.n yc) y.e):=q120.sets _ rfl;have r127:=bu.rd r122 (of62);have r128:=bu.rd r123 (of63);have q129:=bu.loc q121 (by omega);have b130:=bu.below b124 (by omega);rw[if_pos (by kernel_rfl)];refine wp_store_mid 35 (.tmp 10) (.tmp 66) rfl PQ59 0 (ydA us (yS yo y.n yc) y.e) (by kernel_rfl) (by kernel_rfl) hth (by kernel_rfl) (by simp[Value.oneCell']) ?_;refine hK.out _ _ trivial (fun hS131=> ?_)
   clear hK K;clear q120 r122 r123 q121 b124 bu hth;change wpAnyH _ _ _ _ _ _ _ _ (World.setCells w118 PQ59 0 (ydL us (yS yo y.n yc) y.e));generalize World.setCells w118 PQ59 0 (ydL us (yS yo y.n yc) y.e)=WS132 at q126 q129 r127 r128 b130 hS131⊢;refine wpAnyH_ready (rs:=[5]) (by kernel_rfl) (by simp) ?_;refine AllReadyH.cons rfl (fun K hK=> ?_) AllReadyH.nil
   have bu:But PQ72 WS132 (WS132.setCells PQ72 0 (ydL vs (yS xo x.n xc) x.e)):=de _ _ _ _;have hth:WS132.there PQ72 0 3:=dD q129;have q133:au (WS132.setCells PQ72 0 (ydL vs (yS xo x.n xc) x.e)) PQ72 35 (ydL vs (yS xo x.n xc) x.e):=q129.sets _ rfl;have r134:=bu.rd r127 (of76);have r135:=bu.rd r128 (of77);have q136:=bu.loc q126 (by omega);have b137:=bu.below b130 (by omega);rw[if_pos (by kernel_rfl)];refine wp_store_mid 35 (.tmp 11) (.tmp 68) rfl PQ72 0 (ydA vs (yS xo x.n xc) x.e) (by kernel_rfl) (by kernel_rfl) hth (by kernel_rfl) (by simp[Value.oneCell']) ?_;refine hK.out _ _ trivial (fun hS138=> ?_)
   clear hK K;clear q129 r127 r128 q126 b130 bu hth;refine wpAnyH_done (by kernel_rfl) ?_ _;clear hS0 hS108 hS109 hS117 hS125 hS131 hS138;change Exit.then _ _ _ _ (World.setCells WS132 PQ72 0 (ydL vs (yS xo x.n xc) x.e));generalize World.setCells WS132 PQ72 0 (ydL vs (yS xo x.n xc) x.e)=W139 at q136 q133 r134 r135 b137⊢;simp only[Act.put,List.getElem_toArray,List.getElem_cons_succ,List.getElem_cons_zero];obtain⟨c140,c141,c142⟩:=q136.cs3
   go_wp2_with fail
   refine(HD.out _ _ _ b137 r135).mono ?_;rintro zz w143 ⟨rfl,bb144⟩;have q145:=q136.l bb144;have q146:=q133.l bb144;have r147:=r134.l bb144;have r148:=r135.l bb144;have b149:=aa b137 bb144;clear q136 q133 r134 r135 b137 bb144 HD c140 c141 c142
   go_wp2_with fail
   refine(S1.out _ _ _ _ _ _ _ b149 q145.range q146.range r148 r147).mono ?_;rintro zz w150 ⟨rfl,bb151⟩;have b152:=aa b149 bb151;clear q145 q146 r147 r148 b149 bb151 S1
   go_wp2
   go_ret
   exact⟨by simp,b152⟩
 ·go_simp
  have al56:=af WD55 (.cells (ydA false yN 0) 35);have q57:=ah WD55 (ydL false yN 0) 35;have hl60:w.heap.size≤WD55.heap.size:=b54.size;have hl61:=q51.lt;have of62:=t9 r52 (Nat.le_refl WD55.heap.size);have of63:=t9 r53 (Nat.le_refl WD55.heap.size);have q64:=q51.l al56;have r65:=r52.l al56;have r66:=r53.l al56;have b67:=aa b54 al56;refine hK.out _ _ q64 (fun hS68=> ?_)
  clear hK K;clear q51 r52 r53 b54 al56;generalize WD55.alloc (.cells (ydA false yN 0) 35)=WN58 at q64 q57 r65 r66 b67 hS68⊢;generalize WD55.heap.size=PQ59 at q57 hl60 hl61 of62 of63⊢;refine wpAnyH_ready (rs:=[4]) (by kernel_rfl) (by simp) ?_;refine AllReadyH.cons rfl (fun K hK=> ?_) AllReadyH.nil
  go_simp
  have al69:=af WN58 (.cells (ydA false yN 0) 35);have q70:=ah WN58 (ydL false yN 0) 35;have hl73:w.heap.size≤WN58.heap.size:=b67.size;have hl74:=q64.lt;have hl75:=q57.lt;have of76:=t9 r65 (Nat.le_refl WN58.heap.size);have of77:=t9 r66 (Nat.le_refl WN58.heap.size);have q78:=q64.l al69;have q79:=q57.l al69;have r80:=r65.l al69;have r81:=r66.l al69;have b82:=aa b67 al69;refine hK.out _ _ q78 (fun hS83=> ?_)
  clear hK K;clear q64 q57 r65 r66 b67 al69;generalize WN58.alloc (.cells (ydA false yN 0) 35)=WN71 at q78 q79 q70 r80 r81 b82 hS83⊢;generalize WN58.heap.size=PQ72 at q70 hl73 hl74 hl75 of76 of77⊢;refine wpAnyH_ready (rs:=[6]) (by kernel_rfl) (by simp) ?_;refine AllReadyH.cons rfl (fun K hK=> ?_) AllReadyH.nil
  have bu:But PQ72 WN71 (WN71.setCells PQ72 0 (ydL true (yS xo x.n xc) x.e)):=de _ _ _ _;have hth:WN71.there PQ72 0 3:=dD q70;have q84:au (WN71.setCells PQ72 0 (ydL true (yS xo x.n xc) x.e)) PQ72 35 (ydL true (yS xo x.n xc) x.e):=q70.sets _ rfl;have r85:=bu.rd r80 (of76);have r86:=bu.rd r81 (of77);have q87:=bu.loc q78 (by omega);have q88:=bu.loc q79 (by omega);have b89:=bu.below b82 (by omega);rw[if_pos (by kernel_rfl)];refine wp_store_mid 35 (.tmp 10) (.tmp 60) rfl PQ72 0 (ydA true (yS xo x.n xc) x.e) (by kernel_rfl) (by kernel_rfl) hth (by kernel_rfl) (by simp[Value.oneCell']) ?_;refine hK.out _ _ q87 (fun hS90=> ?_)
  clear hK K;clear q70 r80 r81 q78 q79 b82 bu hth;change wpAnyH _ _ _ _ _ _ _ _ (World.setCells WN71 PQ72 0 (ydL true (yS xo x.n xc) x.e));generalize World.setCells WN71 PQ72 0 (ydL true (yS xo x.n xc) x.e)=WS91 at q87 q88 q84 r85 r86 b89 hS90⊢;refine wpAnyH_ready (rs:=[7]) (by kernel_rfl) (by simp) ?_;refine AllReadyH.cons rfl (fun K hK=> ?_) AllReadyH.nil
  have bu:But PQ59 WS91 (WS91.setCells PQ59 0 (ydL y.s (yS yo y.n yc) y.e)):=de _ _ _ _;have hth:WS91.there PQ59 0 3:=dD q88;have q92:au (WS91.setCells PQ59 0 (ydL y.s (yS yo y.n yc) y.e)) PQ59 35 (ydL y.s (yS yo y.n yc) y.e):=q88.sets _ rfl;have r93:=bu.rd r85 (of62);have r94:=bu.rd r86 (of63);have q95:=bu.loc q87 (by omega);have q96:=bu.loc q84 (by omega);have b97:=bu.below b89 (by omega);rw[if_pos (by kernel_rfl)];refine wp_store_mid 35 (.tmp 11) (.tmp 62) rfl PQ59 0 (ydA y.s (yS yo y.n yc) y.e) (by kernel_rfl) (by kernel_rfl) hth (by kernel_rfl) (by simp[Value.oneCell']) ?_;refine hK.out _ _ q95 (fun hS98=> ?_)
  clear hK K;clear q88 r85 r86 q87 q84 b89 bu hth;refine wpAnyH_done (by kernel_rfl) ?_ _;clear hS0 hS68 hS83 hS90 hS98;change Exit.then _ _ _ _ (World.setCells WS91 PQ59 0 (ydL y.s (yS yo y.n yc) y.e));generalize World.setCells WS91 PQ59 0 (ydL y.s (yS yo y.n yc) y.e)=W99 at q95 q92 q96 r93 r94 b97⊢;simp only[Act.put,List.getElem_toArray,List.getElem_cons_succ,List.getElem_cons_zero];have c100:=q96.c 0 rfl
  go_upto_region 10 with fail
  clear c100;have bW101:yB W99 W99.drew:=(Below.refl _ _).drew;have q102:=q92.l bW101;have q103:=q96.l bW101;have r104:=r93.l bW101;have r105:=r94.l bW101;have b106:=aa b97 bW101;clear q95 q92 q96 r93 r94 b97 bW101;refine wp_region_held_drew (S:=fun _=>True) (by kernel_rfl) trivial (fun hS0=> ?_)
  generalize W99.drew=WD107 at q102 q103 r104 r105 b106 hS0⊢;refine wpAnyH_ready (rs:=[0,2]) (by kernel_rfl) (by simp) ?_;refine AllReadyH.cons rfl (fun K hK=> ?_) (AllReadyH.cons rfl (fun K hK=> ?_) AllReadyH.nil)
  ·rw[if_pos (by kernel_rfl)]
   refine wp_yield (ydV y.s (yS yo y.n yc) y.e) (fy 35 (.tmp 11) rfl PQ59 0 (by kernel_rfl) _ _ q102.range underlying35 rfl (by kernel_rfl)) ?_;refine hK.out _ _ trivial (fun hS108=> ?_)
   clear hK K;refine wpAnyH_ready (rs:=[1,2]) (by kernel_rfl) (by simp) ?_;refine AllReadyH.cons rfl (fun K hK=> ?_) (AllReadyH.cons rfl (fun K hK=> ?_) AllReadyH.nil)
   ·go_simp
    refine(M1.out _ _ _ b106 r105).mono ?_;rintro zz w109 ⟨rfl,bb110⟩;have q111:=q102.l bb110;have q112:=q103.l bb110;have r113:=r104.l bb110;have r114:=r105.l bb110;have b115:=aa b106 bb110;clear q102 q103 r104 r105 b106 bb110 M1;refine hK.out _ _ trivial (fun hS116=> ?_)
    clear hK K;refine wpAnyH_ready (rs:=[2]) (by kernel_rfl) (by simp) ?_;refine AllReadyH.cons rfl (fun K hK=> ?_) AllReadyH.nil
    rw[if_pos (by kernel_rfl)];refine wp_yield (ydV true (yS xo x.n xc) x.e) (fy 35 (.tmp 10) rfl PQ72 0 (by kernel_rfl) _ _ q112.range underlying35 rfl (by kernel_rfl)) ?_;refine hK.out _ _ trivial (fun hS117=> ?_)
    clear hK K;refine wpAnyH_ready (rs:=[3]) (by kernel_rfl) (by simp) ?_;refine AllReadyH.cons rfl (fun K hK=> ?_) AllReadyH.nil
    go_simp
    refine(M2.out _ _ _ b115 r113).mono ?_;rintro zz w118 ⟨rfl,bb119⟩;have q120:=q111.l bb119;have q121:=q112.l bb119;have r122:=r113.l bb119;have r123:=r114.l bb119;have b124:=aa b115 bb119;clear q111 q112 r113 r114 b115 bb119 M2;refine hK.out _ _ trivial (fun hS125=> ?_)
    clear hK K;refine wpAnyH_ready (rs:=[4]) (by kernel_rfl) (by simp) ?_;refine AllReadyH.cons rfl (fun K hK=> ?_) AllReadyH.nil
    have bu:But PQ72 w118 (w118.setCells PQ72 0 (ydL us (yS yo y.n yc) y.e)):=de _ _ _ _;have hth:w118.there PQ72 0 3:=dD q121;have q126:au (w118.setCells PQ72 0 (ydL us (yS yo y.n yc) y.e)) PQ72 35 (ydL us (yS yo y.n yc) y.e):=q121.sets _ rfl;have r127:=bu.rd r122 (of76);have r128:=bu.rd r123 (of77);have q129:=bu.loc q120 (by omega);have b130:=bu.below b124 (by omega);rw[if_pos (by kernel_rfl)];refine wp_store_mid 35 (.tmp 10) (.tmp 66) rfl PQ72 0 (ydA us (yS yo y.n yc) y.e) (by kernel_rfl) (by kernel_rfl) hth (by kernel_rfl) (by simp[Value.oneCell']) ?_;refine hK.out _ _ trivial (fun hS131=> ?_)
    clear hK K;clear q121 r122 r123 q120 b124 bu hth;change wpAnyH _ _ _ _ _ _ _ _ (World.setCells w118 PQ72 0 (ydL us (yS yo y.n yc) y.e));generalize World.setCells w118 PQ72 0 (ydL us (yS yo y.n yc) y.e)=WS132 at q129 q126 r127 r128 b130 hS131⊢;refine wpAnyH_ready (rs:=[5]) (by kernel_rfl) (by simp) ?_;refine AllReadyH.cons rfl (fun K hK=> ?_) AllReadyH.nil
    have bu:But PQ59 WS132 (WS132.setCells PQ59 0 (ydL vs (yS xo x.n xc) x.e)):=de _ _ _ _;have hth:WS132.there PQ59 0 3:=dD q129;have q133:au (WS132.setCells PQ59 0 (ydL vs (yS xo x.n xc) x.e)) PQ59 35 (ydL vs (yS xo x.n xc) x.e):=q129.sets _ rfl;have r134:=bu.rd r127 (of62);have r135:=bu.rd r128 (of63);have q136:=bu.loc q126 (by omega);have b137:=bu.below b130 (by omega);rw[if_pos (by kernel_rfl)];refine wp_store_mid 35 (.tmp 11) (.tmp 68) rfl PQ59 0 (ydA vs (yS xo x.n xc) x.e) (by kernel_rfl) (by kernel_rfl) hth (by kernel_rfl) (by simp[Value.oneCell']) ?_;refine hK.out _ _ trivial (fun hS138=> ?_)
    clear hK K;clear q129 r127 r128 q126 b130 bu hth;refine wpAnyH_done (by kernel_rfl) ?_ _;clear hS0 hS108 hS116 hS117 hS125 hS131 hS138;change Exit.then _ _ _ _ (World.setCells WS132 PQ59 0 (ydL vs (yS xo x.n xc) x.e));generalize World.setCells WS132 PQ59 0 (ydL vs (yS xo x.n xc) x.e)=W139 at q133 q136 r134 r135 b137⊢;simp only[Act.put,List.getElem_toArray,List.getElem_cons_succ,List.getElem_cons_zero];obtain⟨c140,c141,c142⟩:=q136.cs3
    go_wp2_with fail
    refine(HD.out _ _ _ b137 r135).mono ?_;rintro zz w143 ⟨rfl,bb144⟩;have q145:=q133.l bb144;have q146:=q136.l bb144;have r147:=r134.l bb144;have r148:=r135.l bb144;have b149:=aa b137 bb144;clear q133 q136 r134 r135 b137 bb144 HD c140 c141 c142
    go_wp2_with fail
    refine(S1.out _ _ _ _ _ _ _ b149 q146.range q145.range r148 r147).mono ?_;rintro zz w150 ⟨rfl,bb151⟩;have b152:=aa b149 bb151;clear q145 q146 r147 r148 b149 bb151 S1
    go_wp2
    go_ret
    exact⟨by simp,b152⟩
   ·rw[if_pos (by kernel_rfl)]
    refine wp_yield (ydV true (yS xo x.n xc) x.e) (fy 35 (.tmp 10) rfl PQ72 0 (by kernel_rfl) _ _ q103.range underlying35 rfl (by kernel_rfl)) ?_;refine hK.out _ _ trivial (fun hS109=> ?_)
    clear hK K;refine wpAnyH_ready (rs:=[1]) (by kernel_rfl) (by simp) ?_;refine AllReadyH.cons rfl (fun K hK=> ?_) AllReadyH.nil
    go_simp
    refine(M1.out _ _ _ b106 r105).mono ?_;rintro zz w110 ⟨rfl,bb111⟩;have q112:=q102.l bb111;have q113:=q103.l bb111;have r114:=r104.l bb111;have r115:=r105.l bb111;have b116:=aa b106 bb111;clear q102 q103 r104 r105 b106 bb111 M1;refine hK.out _ _ trivial (fun hS117=> ?_)
    clear hK K;refine wpAnyH_ready (rs:=[3]) (by kernel_rfl) (by simp) ?_;refine AllReadyH.cons rfl (fun K hK=> ?_) AllReadyH.nil
    go_simp
    refine(M2.out _ _ _ b116 r114).mono ?_;rintro zz w118 ⟨rfl,bb119⟩;have q120:=q112.l bb119;have q121:=q113.l bb119;have r122:=r114.l bb119;have r123:=r115.l bb119;have b124:=aa b116 bb119;clear q112 q113 r114 r115 b116 bb119 M2;refine hK.out _ _ trivial (fun hS125=> ?_)
    clear hK K;refine wpAnyH_ready (rs:=[4]) (by kernel_rfl) (by simp) ?_;refine AllReadyH.cons rfl (fun K hK=> ?_) AllReadyH.nil
    have bu:But PQ72 w118 (w118.setCells PQ72 0 (ydL us (yS yo y.n yc) y.e)):=de _ _ _ _;have hth:w118.there PQ72 0 3:=dD q121;have q126:au (w118.setCells PQ72 0 (ydL us (yS yo y.n yc) y.e)) PQ72 35 (ydL us (yS yo y.n yc) y.e):=q121.sets _ rfl;have r127:=bu.rd r122 (of76);have r128:=bu.rd r123 (of77);have q129:=bu.loc q120 (by omega);have b130:=bu.below b124 (by omega);rw[if_pos (by kernel_rfl)];refine wp_store_mid 35 (.tmp 10) (.tmp 66) rfl PQ72 0 (ydA us (yS yo y.n yc) y.e) (by kernel_rfl) (by kernel_rfl) hth (by kernel_rfl) (by simp[Value.oneCell']) ?_;refine hK.out _ _ trivial (fun hS131=> ?_)
    clear hK K;clear q121 r122 r123 q120 b124 bu hth;change wpAnyH _ _ _ _ _ _ _ _ (World.setCells w118 PQ72 0 (ydL us (yS yo y.n yc) y.e));generalize World.setCells w118 PQ72 0 (ydL us (yS yo y.n yc) y.e)=WS132 at q129 q126 r127 r128 b130 hS131⊢;refine wpAnyH_ready (rs:=[5]) (by kernel_rfl) (by simp) ?_;refine AllReadyH.cons rfl (fun K hK=> ?_) AllReadyH.nil
    have bu:But PQ59 WS132 (WS132.setCells PQ59 0 (ydL vs (yS xo x.n xc) x.e)):=de _ _ _ _;have hth:WS132.there PQ59 0 3:=dD q129;have q133:au (WS132.setCells PQ59 0 (ydL vs (yS xo x.n xc) x.e)) PQ59 35 (ydL vs (yS xo x.n xc) x.e):=q129.sets _ rfl;have r134:=bu.rd r127 (of62);have r135:=bu.rd r128 (of63);have q136:=bu.loc q126 (by omega);have b137:=bu.below b130 (by omega);rw[if_pos (by kernel_rfl)];refine wp_store_mid 35 (.tmp 11) (.tmp 68) rfl PQ59 0 (ydA vs (yS xo x.n xc) x.e) (by kernel_rfl) (by kernel_rfl) hth (by kernel_rfl) (by simp[Value.oneCell']) ?_;refine hK.out _ _ trivial (fun hS138=> ?_)
    clear hK K;clear q129 r127 r128 q126 b130 bu hth;refine wpAnyH_done (by kernel_rfl) ?_ _;clear hS0 hS108 hS109 hS117 hS125 hS131 hS138;change Exit.then _ _ _ _ (World.setCells WS132 PQ59 0 (ydL vs (yS xo x.n xc) x.e));generalize World.setCells WS132 PQ59 0 (ydL vs (yS xo x.n xc) x.e)=W139 at q133 q136 r134 r135 b137⊢;simp only[Act.put,List.getElem_toArray,List.getElem_cons_succ,List.getElem_cons_zero];obtain⟨c140,c141,c142⟩:=q136.cs3
    go_wp2_with fail
    refine(HD.out _ _ _ b137 r135).mono ?_;rintro zz w143 ⟨rfl,bb144⟩;have q145:=q133.l bb144;have q146:=q136.l bb144;have r147:=r134.l bb144;have r148:=r135.l bb144;have b149:=aa b137 bb144;clear q133 q136 r134 r135 b137 bb144 HD c140 c141 c142
    go_wp2_with fail
    refine(S1.out _ _ _ _ _ _ _ b149 q146.range q145.range r148 r147).mono ?_;rintro zz w150 ⟨rfl,bb151⟩;have b152:=aa b149 bb151;clear q145 q146 r147 r148 b149 bb151 S1
    go_wp2
    go_ret
    exact⟨by simp,b152⟩
  ·rw[if_pos (by kernel_rfl)]
   refine wp_yield (ydV true (yS xo x.n xc) x.e) (fy 35 (.tmp 10) rfl PQ72 0 (by kernel_rfl) _ _ q103.range underlying35 rfl (by kernel_rfl)) ?_;refine hK.out _ _ trivial (fun hS108=> ?_)
   clear hK K;refine wpAnyH_ready (rs:=[0]) (by kernel_rfl) (by simp) ?_;refine AllReadyH.cons rfl (fun K hK=> ?_) AllReadyH.nil
   rw[if_pos (by kernel_rfl)];refine wp_yield (ydV y.s (yS yo y.n yc) y.e) (fy 35 (.tmp 11) rfl PQ59 0 (by kernel_rfl) _ _ q102.range underlying35 rfl (by kernel_rfl)) ?_;refine hK.out _ _ trivial (fun hS109=> ?_)
   clear hK K;refine wpAnyH_ready (rs:=[1]) (by kernel_rfl) (by simp) ?_;refine AllReadyH.cons rfl (fun K hK=> ?_) AllReadyH.nil
   go_simp
   refine(M1.out _ _ _ b106 r105).mono ?_;rintro zz w110 ⟨rfl,bb111⟩;have q112:=q102.l bb111;have q113:=q103.l bb111;have r114:=r104.l bb111;have r115:=r105.l bb111;have b116:=aa b106 bb111;clear q102 q103 r104 r105 b106 bb111 M1;refine hK.out _ _ trivial (fun hS117=> ?_)
   clear hK K;refine wpAnyH_ready (rs:=[3]) (by kernel_rfl) (by simp) ?_;refine AllReadyH.cons rfl (fun K hK=> ?_) AllReadyH.nil
   go_simp
   refine(M2.out _ _ _ b116 r114).mono ?_;rintro zz w118 ⟨rfl,bb119⟩;have q120:=q112.l bb119;have q121:=q113.l bb119;have r122:=r114.l bb119;have r123:=r115.l bb119;have b124:=aa b116 bb119;clear q112 q113 r114 r115 b116 bb119 M2;refine hK.out _ _ trivial (fun hS125=> ?_)
   clear hK K;refine wpAnyH_ready (rs:=[4]) (by kernel_rfl) (by simp) ?_;refine AllReadyH.cons rfl (fun K hK=> ?_) AllReadyH.nil
   have bu:But PQ72 w118 (w118.setCells PQ72 0 (ydL us (yS yo y.n yc) y.e)):=de _ _ _ _;have hth:w118.there PQ72 0 3:=dD q121;have q126:au (w118.setCells PQ72 0 (ydL us (yS yo y.n yc) y.e)) PQ72 35 (ydL us (yS yo y.n yc) y.e):=q121.sets _ rfl;have r127:=bu.rd r122 (of76);have r128:=bu.rd r123 (of77);have q129:=bu.loc q120 (by omega);have b130:=bu.below b124 (by omega);rw[if_pos (by kernel_rfl)];refine wp_store_mid 35 (.tmp 10) (.tmp 66) rfl PQ72 0 (ydA us (yS yo y.n yc) y.e) (by kernel_rfl) (by kernel_rfl) hth (by kernel_rfl) (by simp[Value.oneCell']) ?_;refine hK.out _ _ trivial (fun hS131=> ?_)
   clear hK K;clear q121 r122 r123 q120 b124 bu hth;change wpAnyH _ _ _ _ _ _ _ _ (World.setCells w118 PQ72 0 (ydL us (yS yo y.n yc) y.e));generalize World.setCells w118 PQ72 0 (ydL us (yS yo y.n yc) y.e)=WS132 at q129 q126 r127 r128 b130 hS131⊢;refine wpAnyH_ready (rs:=[5]) (by kernel_rfl) (by simp) ?_;refine AllReadyH.cons rfl (fun K hK=> ?_) AllReadyH.nil
   have bu:But PQ59 WS132 (WS132.setCells PQ59 0 (ydL vs (yS xo x.n xc) x.e)):=de _ _ _ _;have hth:WS132.there PQ59 0 3:=dD q129;have q133:au (WS132.setCells PQ59 0 (ydL vs (yS xo x.n xc) x.e)) PQ59 35 (ydL vs (yS xo x.n xc) x.e):=q129.sets _ rfl;have r134:=bu.rd r127 (of62);have r135:=bu.rd r128 (of63);have q136:=bu.loc q126 (by omega);have b137:=bu.below b130 (by omega);rw[if_pos (by kernel_rfl)];refine wp_store_mid 35 (.tmp 11) (.tmp 68) rfl PQ59 0 (ydA vs (yS xo x.n xc) x.e) (by kernel_rfl) (by kernel_rfl) hth (by kernel_rfl) (by simp[Value.oneCell']) ?_;refine hK.out _ _ trivial (fun hS138=> ?_)
   clear hK K;clear q129 r127 r128 q126 b130 bu hth;refine wpAnyH_done (by kernel_rfl) ?_ _;clear hS0 hS108 hS109 hS117 hS125 hS131 hS138;change Exit.then _ _ _ _ (World.setCells WS132 PQ59 0 (ydL vs (yS xo x.n xc) x.e));generalize World.setCells WS132 PQ59 0 (ydL vs (yS xo x.n xc) x.e)=W139 at q133 q136 r134 r135 b137⊢;simp only[Act.put,List.getElem_toArray,List.getElem_cons_succ,List.getElem_cons_zero];obtain⟨c140,c141,c142⟩:=q136.cs3
   go_wp2_with fail
   refine(HD.out _ _ _ b137 r135).mono ?_;rintro zz w143 ⟨rfl,bb144⟩;have q145:=q133.l bb144;have q146:=q136.l bb144;have r147:=r134.l bb144;have r148:=r135.l bb144;have b149:=aa b137 bb144;clear q133 q136 r134 r135 b137 bb144 HD c140 c141 c142
   go_wp2_with fail
   refine(S1.out _ _ _ _ _ _ _ b149 q146.range q145.range r148 r147).mono ?_;rintro zz w150 ⟨rfl,bb151⟩;have b152:=aa b149 bb151;clear q145 q146 r147 r148 b149 bb151 S1
   go_wp2
   go_ret
   exact⟨by simp,b152⟩
theorem brackets_full_n (x y:ak)(us vs:Bool)(sa sb:Bool)(ao bo:Option Addr)(la lb ac bc:Nat)(ea eb:Int)(m n sg n1:Int)(w:World)(hm1: ¬m<1)(hm: ¬4096<m)(hs: ¬sg≤0)(hn1:1≤n)(hnm:n≤m)(he:(n==m)=false)(hw:IntKind.i64.wrap (n+1)=n1)
  (HK:yH w 5 #[.agg #[.bool sa,.slice ao la ac,yi ea,.bool sb,.slice bo lb bc,yi eb],yi m] (.tuple #[yi n,.bool true,yi 0]))
  (HC:yH w 6 #[.agg #[.bool sa,.slice ao la ac,yi ea,.bool sb,.slice bo lb bc,yi eb]] (yi 0))
  (HB:yH w 7 #[] (.bool true))
  (HO: ∀w1,yB w w1→yC 8 #[.agg #[.bool sa,.slice ao la ac,yi ea,.bool sb,.slice bo lb bc,yi eb]] w1 (fun z w'=> ∃xv yv,z= .returned (.agg #[.bool true,xv,yi x.e,.bool y.s,yv,yi y.e])∧Rd w' .i64 xv (Dg.dg 65536 x.n)∧Rd w' .i64 yv (Dg.dg 65536 y.n)∧yB w1 w'))
  (M1: ∀yo yc w1,yB w w1→Rd w1 .i64 (yS yo y.n yc) (Dg.dg 65536 y.n)→yC 9 #[ydV y.s (yS yo y.n yc) y.e] w1 (yR w1 (ydV us (yS yo y.n yc) y.e)))
  (M2: ∀xo xc w1,yB w w1→Rd w1 .i64 (yS xo x.n xc) (Dg.dg 65536 x.n)→yC 9 #[ydV true (yS xo x.n xc) x.e] w1 (yR w1 (ydV vs (yS xo x.n xc) x.e)))
  (HD: ∀yo yc w1,yB w w1→Rd w1 .i64 (yS yo y.n yc) (Dg.dg 65536 y.n)→yC 13 #[ydV us (yS yo y.n yc) y.e] w1 (yR w1 (yi sg)))
  (S1: ∀p q yo yc xo xc w1,yB w w1→w1.rangeAt p 0 (ydL us (yS yo y.n yc) y.e)→w1.rangeAt q 0 (ydL vs (yS xo x.n xc) x.e)→Rd w1 .i64 (yS yo y.n yc) (Dg.dg 65536 y.n)→Rd w1 .i64 (yS xo x.n xc) (Dg.dg 65536 x.n)→yC 10 #[yi 1,.pointer (some ⟨p,0,none⟩),.pointer (some ⟨q,0,none⟩)] w1 (yR w1 (.bool true)))
  (S2: ∀p q yo yc xo xc w1,yB w w1→w1.rangeAt p 0 (ydL us (yS yo y.n yc) y.e)→w1.rangeAt q 0 (ydL vs (yS xo x.n xc) x.e)→Rd w1 .i64 (yS yo y.n yc) (Dg.dg 65536 y.n)→Rd w1 .i64 (yS xo x.n xc) (Dg.dg 65536 x.n)→yC 10 #[yi n,.pointer (some ⟨p,0,none⟩),.pointer (some ⟨q,0,none⟩)] w1 (yR w1 (.bool true)))
  (S3: ∀p q yo yc xo xc w1,yB w w1→w1.rangeAt p 0 (ydL us (yS yo y.n yc) y.e)→w1.rangeAt q 0 (ydL vs (yS xo x.n xc) x.e)→Rd w1 .i64 (yS yo y.n yc) (Dg.dg 65536 y.n)→Rd w1 .i64 (yS xo x.n xc) (Dg.dg 65536 x.n)→yC 10 #[yi n1,.pointer (some ⟨p,0,none⟩),.pointer (some ⟨q,0,none⟩)] w1 (yR w1 (.bool false))):
  yC 3 #[.agg #[.bool sa,.slice ao la ac,yi ea,.bool sb,.slice bo lb bc,yi eb],yi m] w (yR w (.bool true)):=by
 replace HK:Hid _:=HK;replace HC:Hid _:=HC;replace HB:Hid _:=HB;replace HO:Hid _:=HO;replace M1:Hid _:=M1;replace M2:Hid _:=M2;replace HD:Hid _:=HD;replace S1:Hid _:=S1;replace S2:Hid _:=S2;replace S3:Hid _:=S3;obtain⟨W3,hW4,q1,b2⟩:=cA w [.bool sa,.slice ao la ac,yi ea,.bool sb,.slice bo lb bc,yi eb] 27;replace hW4:Hid _:=hW4
 go_enter func3,ntmps3
 go_upto_region 1 with fail
 rw[hW4.out];clear hW4;obtain⟨c5,c6,c7,c8,c9,c10⟩:=q1.cs6
 go_wp2_with fail
 refine(HK.out _ b2).mono ?_;rintro zz w11 ⟨rfl,bb12⟩;have q13:=q1.l bb12;have b14:=aa b2 bb12;clear q1 b2 bb12 HK c5 c6 c7 c8 c9 c10;obtain⟨c15,c16,c17,c18,c19,c20⟩:=q13.cs6
 go_wp2_with fail
 refine(HC.out _ b14).mono ?_;rintro zz w21 ⟨rfl,bb22⟩;have q23:=q13.l bb22;have b24:=aa b14 bb22;clear q13 b14 bb22 HC c15 c16 c17 c18 c19 c20
 go_wp2_with fail
 refine(HB.out _ b24).mono ?_;rintro zz w25 ⟨rfl,bb26⟩;have q27:=q23.l bb26;have b28:=aa b24 bb26;clear q23 b24 bb26 HB;obtain⟨c29,c30,c31,c32,c33,c34⟩:=q27.cs6
 go_wp2_with fail
 refine(HO.out _ b28).mono ?_;rintro zz w35 ⟨v1x37,v2x38,rfl,r1x39,r2x40,bb36⟩;have b41:=aa b28 bb36;obtain⟨xo,xc,hv⟩:=r1x39.shape;subst hv;obtain⟨yo,yc,hv⟩:=r2x40.shape;subst hv;clear q27 b28 bb36 HO c29 c30 c31 c32 c33 c34;obtain⟨W44,hW43,q45,al42⟩:=cA w35 [.bool true,yS xo x.n xc,yi x.e,.bool y.s,yS yo y.n yc,yi y.e] 37;replace hW43:Hid _:=hW43;have hl46:w.heap.size≤w35.heap.size:=b41.size;have r47:=r1x39.l al42;have r48:=r2x40.l al42;have b49:=aa b41 al42;clear r1x39 r2x40 b41 al42
 go_upto_region 8 with fail
 rw[hW43.out];clear hW43
 go_upto_region 8 with fail
 have bW50:yB W44 W44.drew:=(Below.refl _ _).drew;have q51:=q45.l bW50;have r52:=r47.l bW50;have r53:=r48.l bW50;have b54:=aa b49 bW50;clear q45 r47 r48 b49 bW50;refine wp_region_held_drew (S:=fun wq=>au wq w35.heap.size 37 [.bool true,yS xo x.n xc,yi x.e,.bool y.s,yS yo y.n yc,yi y.e]) (by kernel_rfl) q51 (fun hS0=> ?_)
 generalize W44.drew=WD55 at q51 r52 r53 b54 hS0⊢;refine tq 0 (.pointer (some ⟨w35.heap.size,0,none⟩)) rfl (fun _ _=>by kernel_rfl) hS0 ?_
 refine tq 1 (ydV true (yS xo x.n xc) x.e) rfl (fun _ hw0=>fy 35 (.tmp 59) rfl w35.heap.size 0 (by kernel_rfl) _ _ (kY hw0 0 3 rfl) underlying35 rfl (by kernel_rfl)) hS0 ?_
 refine tq 2 (.pointer (some ⟨w35.heap.size,3,none⟩)) rfl (fun _ _=>by kernel_rfl) hS0 ?_
 refine tq 3 (ydV y.s (yS yo y.n yc) y.e) rfl (fun _ hw0=>fy 35 (.tmp 61) rfl w35.heap.size 3 (by kernel_rfl) _ _ (kY hw0 3 3 rfl) underlying35 rfl (by kernel_rfl)) hS0 ?_
 refine wpAnyH_ready (rs:=[4,5]) (by kernel_rfl) (by simp) ?_;refine AllReadyH.cons rfl (fun K hK=> ?_) (AllReadyH.cons rfl (fun K hK=> ?_) AllReadyH.nil)
 ·go_simp
  have al56:=af WD55 (.cells (ydA false yN 0) 35);have q57:=ah WD55 (ydL false yN 0) 35;have hl60:w.heap.size≤WD55.heap.size:=b54.size;have hl61:=q51.lt;have of62:=t9 r52 (Nat.le_refl WD55.heap.size);have of63:=t9 r53 (Nat.le_refl WD55.heap.size);have q64:=q51.l al56;have r65:=r52.l al56;have r66:=r53.l al56;have b67:=aa b54 al56;refine hK.out _ _ q64 (fun hS68=> ?_)
  clear hK K;clear q51 r52 r53 b54 al56;generalize WD55.alloc (.cells (ydA false yN 0) 35)=WN58 at q64 q57 r65 r66 b67 hS68⊢;generalize WD55.heap.size=PQ59 at q57 hl60 hl61 of62 of63⊢;refine wpAnyH_ready (rs:=[5]) (by kernel_rfl) (by simp) ?_;refine AllReadyH.cons rfl (fun K hK=> ?_) AllReadyH.nil
  go_simp
  have al69:=af WN58 (.cells (ydA false yN 0) 35);have q70:=ah WN58 (ydL false yN 0) 35;have hl73:w.heap.size≤WN58.heap.size:=b67.size;have hl74:=q64.lt;have hl75:=q57.lt;have of76:=t9 r65 (Nat.le_refl WN58.heap.size);have of77:=t9 r66 (Nat.le_refl WN58.heap.size);have q78:=q64.l al69;have q79:=q57.l al69;have r80:=r65.l al69;have r81:=r66.l al69;have b82:=aa b67 al69;refine hK.out _ _ q78 (fun hS83=> ?_)
  clear hK K;clear q64 q57 r65 r66 b67 al69;generalize WN58.alloc (.cells (ydA false yN 0) 35)=WN71 at q78 q79 q70 r80 r81 b82 hS83⊢;generalize WN58.heap.size=PQ72 at q70 hl73 hl74 hl75 of76 of77⊢;refine wpAnyH_ready (rs:=[6]) (by kernel_rfl) (by simp) ?_;refine AllReadyH.cons rfl (fun K hK=> ?_) AllReadyH.nil
  have bu:But PQ59 WN71 (WN71.setCells PQ59 0 (ydL true (yS xo x.n xc) x.e)):=de _ _ _ _;have hth:WN71.there PQ59 0 3:=dD q79;have q84:au (WN71.setCells PQ59 0 (ydL true (yS xo x.n xc) x.e)) PQ59 35 (ydL true (yS xo x.n xc) x.e):=q79.sets _ rfl;have r85:=bu.rd r80 (of62);have r86:=bu.rd r81 (of63);have q87:=bu.loc q78 (by omega);have q88:=bu.loc q70 (by omega);have b89:=bu.below b82 (by omega);rw[if_pos (by kernel_rfl)];refine wp_store_mid 35 (.tmp 10) (.tmp 60) rfl PQ59 0 (ydA true (yS xo x.n xc) x.e) (by kernel_rfl) (by kernel_rfl) hth (by kernel_rfl) (by simp[Value.oneCell']) ?_;refine hK.out _ _ q87 (fun hS90=> ?_)
  clear hK K;clear q79 r80 r81 q78 q70 b82 bu hth;change wpAnyH _ _ _ _ _ _ _ _ (World.setCells WN71 PQ59 0 (ydL true (yS xo x.n xc) x.e));generalize World.setCells WN71 PQ59 0 (ydL true (yS xo x.n xc) x.e)=WS91 at q87 q84 q88 r85 r86 b89 hS90⊢;refine wpAnyH_ready (rs:=[7]) (by kernel_rfl) (by simp) ?_;refine AllReadyH.cons rfl (fun K hK=> ?_) AllReadyH.nil
  have bu:But PQ72 WS91 (WS91.setCells PQ72 0 (ydL y.s (yS yo y.n yc) y.e)):=de _ _ _ _;have hth:WS91.there PQ72 0 3:=dD q88;have q92:au (WS91.setCells PQ72 0 (ydL y.s (yS yo y.n yc) y.e)) PQ72 35 (ydL y.s (yS yo y.n yc) y.e):=q88.sets _ rfl;have r93:=bu.rd r85 (of76);have r94:=bu.rd r86 (of77);have q95:=bu.loc q87 (by omega);have q96:=bu.loc q84 (by omega);have b97:=bu.below b89 (by omega);rw[if_pos (by kernel_rfl)];refine wp_store_mid 35 (.tmp 11) (.tmp 62) rfl PQ72 0 (ydA y.s (yS yo y.n yc) y.e) (by kernel_rfl) (by kernel_rfl) hth (by kernel_rfl) (by simp[Value.oneCell']) ?_;refine hK.out _ _ q95 (fun hS98=> ?_)
  clear hK K;clear q88 r85 r86 q87 q84 b89 bu hth;refine wpAnyH_done (by kernel_rfl) ?_ _;clear hS0 hS68 hS83 hS90 hS98;change Exit.then _ _ _ _ (World.setCells WS91 PQ72 0 (ydL y.s (yS yo y.n yc) y.e));generalize World.setCells WS91 PQ72 0 (ydL y.s (yS yo y.n yc) y.e)=W99 at q95 q96 q92 r93 r94 b97⊢;simp only[Act.put,List.getElem_toArray,List.getElem_cons_succ,List.getElem_cons_zero];have c100:=q96.c 0 rfl
  go_upto_region 10 with fail
  clear c100;have bW101:yB W99 W99.drew:=(Below.refl _ _).drew;have q102:=q96.l bW101;have q103:=q92.l bW101;have r104:=r93.l bW101;have r105:=r94.l bW101;have b106:=aa b97 bW101;clear q95 q96 q92 r93 r94 b97 bW101;refine wp_region_held_drew (S:=fun _=>True) (by kernel_rfl) trivial (fun hS0=> ?_)
  generalize W99.drew=WD107 at q102 q103 r104 r105 b106 hS0⊢;refine wpAnyH_ready (rs:=[0,2]) (by kernel_rfl) (by simp) ?_;refine AllReadyH.cons rfl (fun K hK=> ?_) (AllReadyH.cons rfl (fun K hK=> ?_) AllReadyH.nil)
  ·rw[if_pos (by kernel_rfl)]
   refine wp_yield (ydV y.s (yS yo y.n yc) y.e) (fy 35 (.tmp 11) rfl PQ72 0 (by kernel_rfl) _ _ q103.range underlying35 rfl (by kernel_rfl)) ?_;refine hK.out _ _ trivial (fun hS108=> ?_)
   clear hK K;refine wpAnyH_ready (rs:=[1,2]) (by kernel_rfl) (by simp) ?_;refine AllReadyH.cons rfl (fun K hK=> ?_) (AllReadyH.cons rfl (fun K hK=> ?_) AllReadyH.nil)
   ·go_simp
    refine(M1.out _ _ _ b106 r105).mono ?_;rintro zz w109 ⟨rfl,bb110⟩;have q111:=q102.l bb110;have q112:=q103.l bb110;have r113:=r104.l bb110;have r114:=r105.l bb110;have b115:=aa b106 bb110;clear q102 q103 r104 r105 b106 bb110 M1;refine hK.out _ _ trivial (fun hS116=> ?_)
    clear hK K;refine wpAnyH_ready (rs:=[2]) (by kernel_rfl) (by simp) ?_;refine AllReadyH.cons rfl (fun K hK=> ?_) AllReadyH.nil
    rw[if_pos (by kernel_rfl)];refine wp_yield (ydV true (yS xo x.n xc) x.e) (fy 35 (.tmp 10) rfl PQ59 0 (by kernel_rfl) _ _ q111.range underlying35 rfl (by kernel_rfl)) ?_;refine hK.out _ _ trivial (fun hS117=> ?_)
    clear hK K;refine wpAnyH_ready (rs:=[3]) (by kernel_rfl) (by simp) ?_;refine AllReadyH.cons rfl (fun K hK=> ?_) AllReadyH.nil
    go_simp
    refine(M2.out _ _ _ b115 r113).mono ?_;rintro zz w118 ⟨rfl,bb119⟩;have q120:=q111.l bb119;have q121:=q112.l bb119;have r122:=r113.l bb119;have r123:=r114.l bb119;have b124:=aa b115 bb119;clear q111 q112 r113 r114 b115 bb119 M2;refine hK.out _ _ trivial (fun hS125=> ?_)
    clear hK K;refine wpAnyH_ready (rs:=[4]) (by kernel_rfl) (by simp) ?_;refine AllReadyH.cons rfl (fun K hK=> ?_) AllReadyH.nil
    have bu:But PQ59 w118 (w118.setCells PQ59 0 (ydL us (yS yo y.n yc) y.e)):=de _ _ _ _;have hth:w118.there PQ59 0 3:=dD q120;have q126:au (w118.setCells PQ59 0 (ydL us (yS yo y.n yc) y.e)) PQ59 35 (ydL us (yS yo y.n yc) y.e):=q120.sets _ rfl;have r127:=bu.rd r122 (of62);have r128:=bu.rd r123 (of63);have q129:=bu.loc q121 (by omega);have b130:=bu.below b124 (by omega);rw[if_pos (by kernel_rfl)];refine wp_store_mid 35 (.tmp 10) (.tmp 66) rfl PQ59 0 (ydA us (yS yo y.n yc) y.e) (by kernel_rfl) (by kernel_rfl) hth (by kernel_rfl) (by simp[Value.oneCell']) ?_;refine hK.out _ _ trivial (fun hS131=> ?_)
    clear hK K;clear q120 r122 r123 q121 b124 bu hth;change wpAnyH _ _ _ _ _ _ _ _ (World.setCells w118 PQ59 0 (ydL us (yS yo y.n yc) y.e));generalize World.setCells w118 PQ59 0 (ydL us (yS yo y.n yc) y.e)=WS132 at q126 q129 r127 r128 b130 hS131⊢;refine wpAnyH_ready (rs:=[5]) (by kernel_rfl) (by simp) ?_;refine AllReadyH.cons rfl (fun K hK=> ?_) AllReadyH.nil
    have bu:But PQ72 WS132 (WS132.setCells PQ72 0 (ydL vs (yS xo x.n xc) x.e)):=de _ _ _ _;have hth:WS132.there PQ72 0 3:=dD q129;have q133:au (WS132.setCells PQ72 0 (ydL vs (yS xo x.n xc) x.e)) PQ72 35 (ydL vs (yS xo x.n xc) x.e):=q129.sets _ rfl;have r134:=bu.rd r127 (of76);have r135:=bu.rd r128 (of77);have q136:=bu.loc q126 (by omega);have b137:=bu.below b130 (by omega);rw[if_pos (by kernel_rfl)];refine wp_store_mid 35 (.tmp 11) (.tmp 68) rfl PQ72 0 (ydA vs (yS xo x.n xc) x.e) (by kernel_rfl) (by kernel_rfl) hth (by kernel_rfl) (by simp[Value.oneCell']) ?_;refine hK.out _ _ trivial (fun hS138=> ?_)
    clear hK K;clear q129 r127 r128 q126 b130 bu hth;refine wpAnyH_done (by kernel_rfl) ?_ _;clear hS0 hS108 hS116 hS117 hS125 hS131 hS138;change Exit.then _ _ _ _ (World.setCells WS132 PQ72 0 (ydL vs (yS xo x.n xc) x.e));generalize World.setCells WS132 PQ72 0 (ydL vs (yS xo x.n xc) x.e)=W139 at q136 q133 r134 r135 b137⊢;simp only[Act.put,List.getElem_toArray,List.getElem_cons_succ,List.getElem_cons_zero];obtain⟨c140,c141,c142⟩:=q136.cs3
    go_wp2_with fail
    refine(HD.out _ _ _ b137 r135).mono ?_;rintro zz w143 ⟨rfl,bb144⟩;have q145:=q136.l bb144;have q146:=q133.l bb144;have r147:=r134.l bb144;have r148:=r135.l bb144;have b149:=aa b137 bb144;clear q136 q133 r134 r135 b137 bb144 HD c140 c141 c142
    go_wp2_with fail
    refine(S1.out _ _ _ _ _ _ _ b149 q145.range q146.range r148 r147).mono ?_;rintro zz w150 ⟨rfl,bb151⟩;have q152:=q145.l bb151;have q153:=q146.l bb151;have r154:=r147.l bb151;have r155:=r148.l bb151;have b156:=aa b149 bb151;clear q145 q146 r147 r148 b149 bb151 S1
    go_wp2_with fail
    refine(S2.out _ _ _ _ _ _ _ b156 q152.range q153.range r155 r154).mono ?_;rintro zz w157 ⟨rfl,bb158⟩;have q159:=q152.l bb158;have q160:=q153.l bb158;have r161:=r154.l bb158;have r162:=r155.l bb158;have b163:=aa b156 bb158;clear q152 q153 r154 r155 b156 bb158 S2
    go_wp2_with fail
    refine(S3.out _ _ _ _ _ _ _ b163 q159.range q160.range r162 r161).mono ?_;rintro zz w164 ⟨rfl,bb165⟩;have b166:=aa b163 bb165;clear q159 q160 r161 r162 b163 bb165 S3
    go_wp2
    go_ret
    exact⟨by simp,b166⟩
   ·rw[if_pos (by kernel_rfl)]
    refine wp_yield (ydV true (yS xo x.n xc) x.e) (fy 35 (.tmp 10) rfl PQ59 0 (by kernel_rfl) _ _ q102.range underlying35 rfl (by kernel_rfl)) ?_;refine hK.out _ _ trivial (fun hS109=> ?_)
    clear hK K;refine wpAnyH_ready (rs:=[1]) (by kernel_rfl) (by simp) ?_;refine AllReadyH.cons rfl (fun K hK=> ?_) AllReadyH.nil
    go_simp
    refine(M1.out _ _ _ b106 r105).mono ?_;rintro zz w110 ⟨rfl,bb111⟩;have q112:=q102.l bb111;have q113:=q103.l bb111;have r114:=r104.l bb111;have r115:=r105.l bb111;have b116:=aa b106 bb111;clear q102 q103 r104 r105 b106 bb111 M1;refine hK.out _ _ trivial (fun hS117=> ?_)
    clear hK K;refine wpAnyH_ready (rs:=[3]) (by kernel_rfl) (by simp) ?_;refine AllReadyH.cons rfl (fun K hK=> ?_) AllReadyH.nil
    go_simp
    refine(M2.out _ _ _ b116 r114).mono ?_;rintro zz w118 ⟨rfl,bb119⟩;have q120:=q112.l bb119;have q121:=q113.l bb119;have r122:=r114.l bb119;have r123:=r115.l bb119;have b124:=aa b116 bb119;clear q112 q113 r114 r115 b116 bb119 M2;refine hK.out _ _ trivial (fun hS125=> ?_)
    clear hK K;refine wpAnyH_ready (rs:=[4]) (by kernel_rfl) (by simp) ?_;refine AllReadyH.cons rfl (fun K hK=> ?_) AllReadyH.nil
    have bu:But PQ59 w118 (w118.setCells PQ59 0 (ydL us (yS yo y.n yc) y.e)):=de _ _ _ _;have hth:w118.there PQ59 0 3:=dD q120;have q126:au (w118.setCells PQ59 0 (ydL us (yS yo y.n yc) y.e)) PQ59 35 (ydL us (yS yo y.n yc) y.e):=q120.sets _ rfl;have r127:=bu.rd r122 (of62);have r128:=bu.rd r123 (of63);have q129:=bu.loc q121 (by omega);have b130:=bu.below b124 (by omega);rw[if_pos (by kernel_rfl)];refine wp_store_mid 35 (.tmp 10) (.tmp 66) rfl PQ59 0 (ydA us (yS yo y.n yc) y.e) (by kernel_rfl) (by kernel_rfl) hth (by kernel_rfl) (by simp[Value.oneCell']) ?_;refine hK.out _ _ trivial (fun hS131=> ?_)
    clear hK K;clear q120 r122 r123 q121 b124 bu hth;change wpAnyH _ _ _ _ _ _ _ _ (World.setCells w118 PQ59 0 (ydL us (yS yo y.n yc) y.e));generalize World.setCells w118 PQ59 0 (ydL us (yS yo y.n yc) y.e)=WS132 at q126 q129 r127 r128 b130 hS131⊢;refine wpAnyH_ready (rs:=[5]) (by kernel_rfl) (by simp) ?_;refine AllReadyH.cons rfl (fun K hK=> ?_) AllReadyH.nil
    have bu:But PQ72 WS132 (WS132.setCells PQ72 0 (ydL vs (yS xo x.n xc) x.e)):=de _ _ _ _;have hth:WS132.there PQ72 0 3:=dD q129;have q133:au (WS132.setCells PQ72 0 (ydL vs (yS xo x.n xc) x.e)) PQ72 35 (ydL vs (yS xo x.n xc) x.e):=q129.sets _ rfl;have r134:=bu.rd r127 (of76);have r135:=bu.rd r128 (of77);have q136:=bu.loc q126 (by omega);have b137:=bu.below b130 (by omega);rw[if_pos (by kernel_rfl)];refine wp_store_mid 35 (.tmp 11) (.tmp 68) rfl PQ72 0 (ydA vs (yS xo x.n xc) x.e) (by kernel_rfl) (by kernel_rfl) hth (by kernel_rfl) (by simp[Value.oneCell']) ?_;refine hK.out _ _ trivial (fun hS138=> ?_)
    clear hK K;clear q129 r127 r128 q126 b130 bu hth;refine wpAnyH_done (by kernel_rfl) ?_ _;clear hS0 hS108 hS109 hS117 hS125 hS131 hS138;change Exit.then _ _ _ _ (World.setCells WS132 PQ72 0 (ydL vs (yS xo x.n xc) x.e));generalize World.setCells WS132 PQ72 0 (ydL vs (yS xo x.n xc) x.e)=W139 at q136 q133 r134 r135 b137⊢;simp only[Act.put,List.getElem_toArray,List.getElem_cons_succ,List.getElem_cons_zero];obtain⟨c140,c141,c142⟩:=q136.cs3
    go_wp2_with fail
    refine(HD.out _ _ _ b137 r135).mono ?_;rintro zz w143 ⟨rfl,bb144⟩;have q145:=q136.l bb144;have q146:=q133.l bb144;have r147:=r134.l bb144;have r148:=r135.l bb144;have b149:=aa b137 bb144;clear q136 q133 r134 r135 b137 bb144 HD c140 c141 c142
    go_wp2_with fail
    refine(S1.out _ _ _ _ _ _ _ b149 q145.range q146.range r148 r147).mono ?_;rintro zz w150 ⟨rfl,bb151⟩;have q152:=q145.l bb151;have q153:=q146.l bb151;have r154:=r147.l bb151;have r155:=r148.l bb151;have b156:=aa b149 bb151;clear q145 q146 r147 r148 b149 bb151 S1
    go_wp2_with fail
    refine(S2.out _ _ _ _ _ _ _ b156 q152.range q153.range r155 r154).mono ?_;rintro zz w157 ⟨rfl,bb158⟩;have q159:=q152.l bb158;have q160:=q153.l bb158;have r161:=r154.l bb158;have r162:=r155.l bb158;have b163:=aa b156 bb158;clear q152 q153 r154 r155 b156 bb158 S2
    go_wp2_with fail
    refine(S3.out _ _ _ _ _ _ _ b163 q159.range q160.range r162 r161).mono ?_;rintro zz w164 ⟨rfl,bb165⟩;have b166:=aa b163 bb165;clear q159 q160 r161 r162 b163 bb165 S3
    go_wp2
    go_ret
    exact⟨by simp,b166⟩
  ·rw[if_pos (by kernel_rfl)]
   refine wp_yield (ydV true (yS xo x.n xc) x.e) (fy 35 (.tmp 10) rfl PQ59 0 (by kernel_rfl) _ _ q102.range underlying35 rfl (by kernel_rfl)) ?_;refine hK.out _ _ trivial (fun hS108=> ?_)
   clear hK K;refine wpAnyH_ready (rs:=[0]) (by kernel_rfl) (by simp) ?_;refine AllReadyH.cons rfl (fun K hK=> ?_) AllReadyH.nil
   rw[if_pos (by kernel_rfl)];refine wp_yield (ydV y.s (yS yo y.n yc) y.e) (fy 35 (.tmp 11) rfl PQ72 0 (by kernel_rfl) _ _ q103.range underlying35 rfl (by kernel_rfl)) ?_;refine hK.out _ _ trivial (fun hS109=> ?_)
   clear hK K;refine wpAnyH_ready (rs:=[1]) (by kernel_rfl) (by simp) ?_;refine AllReadyH.cons rfl (fun K hK=> ?_) AllReadyH.nil
   go_simp
   refine(M1.out _ _ _ b106 r105).mono ?_;rintro zz w110 ⟨rfl,bb111⟩;have q112:=q102.l bb111;have q113:=q103.l bb111;have r114:=r104.l bb111;have r115:=r105.l bb111;have b116:=aa b106 bb111;clear q102 q103 r104 r105 b106 bb111 M1;refine hK.out _ _ trivial (fun hS117=> ?_)
   clear hK K;refine wpAnyH_ready (rs:=[3]) (by kernel_rfl) (by simp) ?_;refine AllReadyH.cons rfl (fun K hK=> ?_) AllReadyH.nil
   go_simp
   refine(M2.out _ _ _ b116 r114).mono ?_;rintro zz w118 ⟨rfl,bb119⟩;have q120:=q112.l bb119;have q121:=q113.l bb119;have r122:=r114.l bb119;have r123:=r115.l bb119;have b124:=aa b116 bb119;clear q112 q113 r114 r115 b116 bb119 M2;refine hK.out _ _ trivial (fun hS125=> ?_)
   clear hK K;refine wpAnyH_ready (rs:=[4]) (by kernel_rfl) (by simp) ?_;refine AllReadyH.cons rfl (fun K hK=> ?_) AllReadyH.nil
   have bu:But PQ59 w118 (w118.setCells PQ59 0 (ydL us (yS yo y.n yc) y.e)):=de _ _ _ _;have hth:w118.there PQ59 0 3:=dD q120;have q126:au (w118.setCells PQ59 0 (ydL us (yS yo y.n yc) y.e)) PQ59 35 (ydL us (yS yo y.n yc) y.e):=q120.sets _ rfl;have r127:=bu.rd r122 (of62);have r128:=bu.rd r123 (of63);have q129:=bu.loc q121 (by omega);have b130:=bu.below b124 (by omega);rw[if_pos (by kernel_rfl)];refine wp_store_mid 35 (.tmp 10) (.tmp 66) rfl PQ59 0 (ydA us (yS yo y.n yc) y.e) (by kernel_rfl) (by kernel_rfl) hth (by kernel_rfl) (by simp[Value.oneCell']) ?_;refine hK.out _ _ trivial (fun hS131=> ?_)
   clear hK K;clear q120 r122 r123 q121 b124 bu hth;change wpAnyH _ _ _ _ _ _ _ _ (World.setCells w118 PQ59 0 (ydL us (yS yo y.n yc) y.e));generalize World.setCells w118 PQ59 0 (ydL us (yS yo y.n yc) y.e)=WS132 at q126 q129 r127 r128 b130 hS131⊢;refine wpAnyH_ready (rs:=[5]) (by kernel_rfl) (by simp) ?_;refine AllReadyH.cons rfl (fun K hK=> ?_) AllReadyH.nil
   have bu:But PQ72 WS132 (WS132.setCells PQ72 0 (ydL vs (yS xo x.n xc) x.e)):=de _ _ _ _;have hth:WS132.there PQ72 0 3:=dD q129;have q133:au (WS132.setCells PQ72 0 (ydL vs (yS xo x.n xc) x.e)) PQ72 35 (ydL vs (yS xo x.n xc) x.e):=q129.sets _ rfl;have r134:=bu.rd r127 (of76);have r135:=bu.rd r128 (of77);have q136:=bu.loc q126 (by omega);have b137:=bu.below b130 (by omega);rw[if_pos (by kernel_rfl)];refine wp_store_mid 35 (.tmp 11) (.tmp 68) rfl PQ72 0 (ydA vs (yS xo x.n xc) x.e) (by kernel_rfl) (by kernel_rfl) hth (by kernel_rfl) (by simp[Value.oneCell']) ?_;refine hK.out _ _ trivial (fun hS138=> ?_)
   clear hK K;clear q129 r127 r128 q126 b130 bu hth;refine wpAnyH_done (by kernel_rfl) ?_ _;clear hS0 hS108 hS109 hS117 hS125 hS131 hS138;change Exit.then _ _ _ _ (World.setCells WS132 PQ72 0 (ydL vs (yS xo x.n xc) x.e));generalize World.setCells WS132 PQ72 0 (ydL vs (yS xo x.n xc) x.e)=W139 at q136 q133 r134 r135 b137⊢;simp only[Act.put,List.getElem_toArray,List.getElem_cons_succ,List.getElem_cons_zero];obtain⟨c140,c141,c142⟩:=q136.cs3
   go_wp2_with fail
   refine(HD.out _ _ _ b137 r135).mono ?_;rintro zz w143 ⟨rfl,bb144⟩;have q145:=q136.l bb144;have q146:=q133.l bb144;have r147:=r134.l bb144;have r148:=r135.l bb144;have b149:=aa b137 bb144;clear q136 q133 r134 r135 b137 bb144 HD c140 c141 c142
   go_wp2_with fail
   refine(S1.out _ _ _ _ _ _ _ b149 q145.range q146.range r148 r147).mono ?_;rintro zz w150 ⟨rfl,bb151⟩;have q152:=q145.l bb151;have q153:=q146.l bb151;have r154:=r147.l bb151;have r155:=r148.l bb151;have b156:=aa b149 bb151;clear q145 q146 r147 r148 b149 bb151 S1
   go_wp2_with fail
   refine(S2.out _ _ _ _ _ _ _ b156 q152.range q153.range r155 r154).mono ?_;rintro zz w157 ⟨rfl,bb158⟩;have q159:=q152.l bb158;have q160:=q153.l bb158;have r161:=r154.l bb158;have r162:=r155.l bb158;have b163:=aa b156 bb158;clear q152 q153 r154 r155 b156 bb158 S2
   go_wp2_with fail
   refine(S3.out _ _ _ _ _ _ _ b163 q159.range q160.range r162 r161).mono ?_;rintro zz w164 ⟨rfl,bb165⟩;have b166:=aa b163 bb165;clear q159 q160 r161 r162 b163 bb165 S3
   go_wp2
   go_ret
   exact⟨by simp,b166⟩
 ·go_simp
  have al56:=af WD55 (.cells (ydA false yN 0) 35);have q57:=ah WD55 (ydL false yN 0) 35;have hl60:w.heap.size≤WD55.heap.size:=b54.size;have hl61:=q51.lt;have of62:=t9 r52 (Nat.le_refl WD55.heap.size);have of63:=t9 r53 (Nat.le_refl WD55.heap.size);have q64:=q51.l al56;have r65:=r52.l al56;have r66:=r53.l al56;have b67:=aa b54 al56;refine hK.out _ _ q64 (fun hS68=> ?_)
  clear hK K;clear q51 r52 r53 b54 al56;generalize WD55.alloc (.cells (ydA false yN 0) 35)=WN58 at q64 q57 r65 r66 b67 hS68⊢;generalize WD55.heap.size=PQ59 at q57 hl60 hl61 of62 of63⊢;refine wpAnyH_ready (rs:=[4]) (by kernel_rfl) (by simp) ?_;refine AllReadyH.cons rfl (fun K hK=> ?_) AllReadyH.nil
  go_simp
  have al69:=af WN58 (.cells (ydA false yN 0) 35);have q70:=ah WN58 (ydL false yN 0) 35;have hl73:w.heap.size≤WN58.heap.size:=b67.size;have hl74:=q64.lt;have hl75:=q57.lt;have of76:=t9 r65 (Nat.le_refl WN58.heap.size);have of77:=t9 r66 (Nat.le_refl WN58.heap.size);have q78:=q64.l al69;have q79:=q57.l al69;have r80:=r65.l al69;have r81:=r66.l al69;have b82:=aa b67 al69;refine hK.out _ _ q78 (fun hS83=> ?_)
  clear hK K;clear q64 q57 r65 r66 b67 al69;generalize WN58.alloc (.cells (ydA false yN 0) 35)=WN71 at q78 q79 q70 r80 r81 b82 hS83⊢;generalize WN58.heap.size=PQ72 at q70 hl73 hl74 hl75 of76 of77⊢;refine wpAnyH_ready (rs:=[6]) (by kernel_rfl) (by simp) ?_;refine AllReadyH.cons rfl (fun K hK=> ?_) AllReadyH.nil
  have bu:But PQ72 WN71 (WN71.setCells PQ72 0 (ydL true (yS xo x.n xc) x.e)):=de _ _ _ _;have hth:WN71.there PQ72 0 3:=dD q70;have q84:au (WN71.setCells PQ72 0 (ydL true (yS xo x.n xc) x.e)) PQ72 35 (ydL true (yS xo x.n xc) x.e):=q70.sets _ rfl;have r85:=bu.rd r80 (of76);have r86:=bu.rd r81 (of77);have q87:=bu.loc q78 (by omega);have q88:=bu.loc q79 (by omega);have b89:=bu.below b82 (by omega);rw[if_pos (by kernel_rfl)];refine wp_store_mid 35 (.tmp 10) (.tmp 60) rfl PQ72 0 (ydA true (yS xo x.n xc) x.e) (by kernel_rfl) (by kernel_rfl) hth (by kernel_rfl) (by simp[Value.oneCell']) ?_;refine hK.out _ _ q87 (fun hS90=> ?_)
  clear hK K;clear q70 r80 r81 q78 q79 b82 bu hth;change wpAnyH _ _ _ _ _ _ _ _ (World.setCells WN71 PQ72 0 (ydL true (yS xo x.n xc) x.e));generalize World.setCells WN71 PQ72 0 (ydL true (yS xo x.n xc) x.e)=WS91 at q87 q88 q84 r85 r86 b89 hS90⊢;refine wpAnyH_ready (rs:=[7]) (by kernel_rfl) (by simp) ?_;refine AllReadyH.cons rfl (fun K hK=> ?_) AllReadyH.nil
  have bu:But PQ59 WS91 (WS91.setCells PQ59 0 (ydL y.s (yS yo y.n yc) y.e)):=de _ _ _ _;have hth:WS91.there PQ59 0 3:=dD q88;have q92:au (WS91.setCells PQ59 0 (ydL y.s (yS yo y.n yc) y.e)) PQ59 35 (ydL y.s (yS yo y.n yc) y.e):=q88.sets _ rfl;have r93:=bu.rd r85 (of62);have r94:=bu.rd r86 (of63);have q95:=bu.loc q87 (by omega);have q96:=bu.loc q84 (by omega);have b97:=bu.below b89 (by omega);rw[if_pos (by kernel_rfl)];refine wp_store_mid 35 (.tmp 11) (.tmp 62) rfl PQ59 0 (ydA y.s (yS yo y.n yc) y.e) (by kernel_rfl) (by kernel_rfl) hth (by kernel_rfl) (by simp[Value.oneCell']) ?_;refine hK.out _ _ q95 (fun hS98=> ?_)
  clear hK K;clear q88 r85 r86 q87 q84 b89 bu hth;refine wpAnyH_done (by kernel_rfl) ?_ _;clear hS0 hS68 hS83 hS90 hS98;change Exit.then _ _ _ _ (World.setCells WS91 PQ59 0 (ydL y.s (yS yo y.n yc) y.e));generalize World.setCells WS91 PQ59 0 (ydL y.s (yS yo y.n yc) y.e)=W99 at q95 q92 q96 r93 r94 b97⊢;simp only[Act.put,List.getElem_toArray,List.getElem_cons_succ,List.getElem_cons_zero];have c100:=q96.c 0 rfl
  go_upto_region 10 with fail
  clear c100;have bW101:yB W99 W99.drew:=(Below.refl _ _).drew;have q102:=q92.l bW101;have q103:=q96.l bW101;have r104:=r93.l bW101;have r105:=r94.l bW101;have b106:=aa b97 bW101;clear q95 q92 q96 r93 r94 b97 bW101;refine wp_region_held_drew (S:=fun _=>True) (by kernel_rfl) trivial (fun hS0=> ?_)
  generalize W99.drew=WD107 at q102 q103 r104 r105 b106 hS0⊢;refine wpAnyH_ready (rs:=[0,2]) (by kernel_rfl) (by simp) ?_;refine AllReadyH.cons rfl (fun K hK=> ?_) (AllReadyH.cons rfl (fun K hK=> ?_) AllReadyH.nil)
  ·rw[if_pos (by kernel_rfl)]
   refine wp_yield (ydV y.s (yS yo y.n yc) y.e) (fy 35 (.tmp 11) rfl PQ59 0 (by kernel_rfl) _ _ q102.range underlying35 rfl (by kernel_rfl)) ?_;refine hK.out _ _ trivial (fun hS108=> ?_)
   clear hK K;refine wpAnyH_ready (rs:=[1,2]) (by kernel_rfl) (by simp) ?_;refine AllReadyH.cons rfl (fun K hK=> ?_) (AllReadyH.cons rfl (fun K hK=> ?_) AllReadyH.nil)
   ·go_simp
    refine(M1.out _ _ _ b106 r105).mono ?_;rintro zz w109 ⟨rfl,bb110⟩;have q111:=q102.l bb110;have q112:=q103.l bb110;have r113:=r104.l bb110;have r114:=r105.l bb110;have b115:=aa b106 bb110;clear q102 q103 r104 r105 b106 bb110 M1;refine hK.out _ _ trivial (fun hS116=> ?_)
    clear hK K;refine wpAnyH_ready (rs:=[2]) (by kernel_rfl) (by simp) ?_;refine AllReadyH.cons rfl (fun K hK=> ?_) AllReadyH.nil
    rw[if_pos (by kernel_rfl)];refine wp_yield (ydV true (yS xo x.n xc) x.e) (fy 35 (.tmp 10) rfl PQ72 0 (by kernel_rfl) _ _ q112.range underlying35 rfl (by kernel_rfl)) ?_;refine hK.out _ _ trivial (fun hS117=> ?_)
    clear hK K;refine wpAnyH_ready (rs:=[3]) (by kernel_rfl) (by simp) ?_;refine AllReadyH.cons rfl (fun K hK=> ?_) AllReadyH.nil
    go_simp
    refine(M2.out _ _ _ b115 r113).mono ?_;rintro zz w118 ⟨rfl,bb119⟩;have q120:=q111.l bb119;have q121:=q112.l bb119;have r122:=r113.l bb119;have r123:=r114.l bb119;have b124:=aa b115 bb119;clear q111 q112 r113 r114 b115 bb119 M2;refine hK.out _ _ trivial (fun hS125=> ?_)
    clear hK K;refine wpAnyH_ready (rs:=[4]) (by kernel_rfl) (by simp) ?_;refine AllReadyH.cons rfl (fun K hK=> ?_) AllReadyH.nil
    have bu:But PQ72 w118 (w118.setCells PQ72 0 (ydL us (yS yo y.n yc) y.e)):=de _ _ _ _;have hth:w118.there PQ72 0 3:=dD q121;have q126:au (w118.setCells PQ72 0 (ydL us (yS yo y.n yc) y.e)) PQ72 35 (ydL us (yS yo y.n yc) y.e):=q121.sets _ rfl;have r127:=bu.rd r122 (of76);have r128:=bu.rd r123 (of77);have q129:=bu.loc q120 (by omega);have b130:=bu.below b124 (by omega);rw[if_pos (by kernel_rfl)];refine wp_store_mid 35 (.tmp 10) (.tmp 66) rfl PQ72 0 (ydA us (yS yo y.n yc) y.e) (by kernel_rfl) (by kernel_rfl) hth (by kernel_rfl) (by simp[Value.oneCell']) ?_;refine hK.out _ _ trivial (fun hS131=> ?_)
    clear hK K;clear q121 r122 r123 q120 b124 bu hth;change wpAnyH _ _ _ _ _ _ _ _ (World.setCells w118 PQ72 0 (ydL us (yS yo y.n yc) y.e));generalize World.setCells w118 PQ72 0 (ydL us (yS yo y.n yc) y.e)=WS132 at q129 q126 r127 r128 b130 hS131⊢;refine wpAnyH_ready (rs:=[5]) (by kernel_rfl) (by simp) ?_;refine AllReadyH.cons rfl (fun K hK=> ?_) AllReadyH.nil
    have bu:But PQ59 WS132 (WS132.setCells PQ59 0 (ydL vs (yS xo x.n xc) x.e)):=de _ _ _ _;have hth:WS132.there PQ59 0 3:=dD q129;have q133:au (WS132.setCells PQ59 0 (ydL vs (yS xo x.n xc) x.e)) PQ59 35 (ydL vs (yS xo x.n xc) x.e):=q129.sets _ rfl;have r134:=bu.rd r127 (of62);have r135:=bu.rd r128 (of63);have q136:=bu.loc q126 (by omega);have b137:=bu.below b130 (by omega);rw[if_pos (by kernel_rfl)];refine wp_store_mid 35 (.tmp 11) (.tmp 68) rfl PQ59 0 (ydA vs (yS xo x.n xc) x.e) (by kernel_rfl) (by kernel_rfl) hth (by kernel_rfl) (by simp[Value.oneCell']) ?_;refine hK.out _ _ trivial (fun hS138=> ?_)
    clear hK K;clear q129 r127 r128 q126 b130 bu hth;refine wpAnyH_done (by kernel_rfl) ?_ _;clear hS0 hS108 hS116 hS117 hS125 hS131 hS138;change Exit.then _ _ _ _ (World.setCells WS132 PQ59 0 (ydL vs (yS xo x.n xc) x.e));generalize World.setCells WS132 PQ59 0 (ydL vs (yS xo x.n xc) x.e)=W139 at q133 q136 r134 r135 b137⊢;simp only[Act.put,List.getElem_toArray,List.getElem_cons_succ,List.getElem_cons_zero];obtain⟨c140,c141,c142⟩:=q136.cs3
    go_wp2_with fail
    refine(HD.out _ _ _ b137 r135).mono ?_;rintro zz w143 ⟨rfl,bb144⟩;have q145:=q133.l bb144;have q146:=q136.l bb144;have r147:=r134.l bb144;have r148:=r135.l bb144;have b149:=aa b137 bb144;clear q133 q136 r134 r135 b137 bb144 HD c140 c141 c142
    go_wp2_with fail
    refine(S1.out _ _ _ _ _ _ _ b149 q146.range q145.range r148 r147).mono ?_;rintro zz w150 ⟨rfl,bb151⟩;have q152:=q145.l bb151;have q153:=q146.l bb151;have r154:=r147.l bb151;have r155:=r148.l bb151;have b156:=aa b149 bb151;clear q145 q146 r147 r148 b149 bb151 S1
    go_wp2_with fail
    refine(S2.out _ _ _ _ _ _ _ b156 q153.range q152.range r155 r154).mono ?_;rintro zz w157 ⟨rfl,bb158⟩;have q159:=q152.l bb158;have q160:=q153.l bb158;have r161:=r154.l bb158;have r162:=r155.l bb158;have b163:=aa b156 bb158;clear q152 q153 r154 r155 b156 bb158 S2
    go_wp2_with fail
    refine(S3.out _ _ _ _ _ _ _ b163 q160.range q159.range r162 r161).mono ?_;rintro zz w164 ⟨rfl,bb165⟩;have b166:=aa b163 bb165;clear q159 q160 r161 r162 b163 bb165 S3
    go_wp2
    go_ret
    exact⟨by simp,b166⟩
   ·rw[if_pos (by kernel_rfl)]
    refine wp_yield (ydV true (yS xo x.n xc) x.e) (fy 35 (.tmp 10) rfl PQ72 0 (by kernel_rfl) _ _ q103.range underlying35 rfl (by kernel_rfl)) ?_;refine hK.out _ _ trivial (fun hS109=> ?_)
    clear hK K;refine wpAnyH_ready (rs:=[1]) (by kernel_rfl) (by simp) ?_;refine AllReadyH.cons rfl (fun K hK=> ?_) AllReadyH.nil
    go_simp
    refine(M1.out _ _ _ b106 r105).mono ?_;rintro zz w110 ⟨rfl,bb111⟩;have q112:=q102.l bb111;have q113:=q103.l bb111;have r114:=r104.l bb111;have r115:=r105.l bb111;have b116:=aa b106 bb111;clear q102 q103 r104 r105 b106 bb111 M1;refine hK.out _ _ trivial (fun hS117=> ?_)
    clear hK K;refine wpAnyH_ready (rs:=[3]) (by kernel_rfl) (by simp) ?_;refine AllReadyH.cons rfl (fun K hK=> ?_) AllReadyH.nil
    go_simp
    refine(M2.out _ _ _ b116 r114).mono ?_;rintro zz w118 ⟨rfl,bb119⟩;have q120:=q112.l bb119;have q121:=q113.l bb119;have r122:=r114.l bb119;have r123:=r115.l bb119;have b124:=aa b116 bb119;clear q112 q113 r114 r115 b116 bb119 M2;refine hK.out _ _ trivial (fun hS125=> ?_)
    clear hK K;refine wpAnyH_ready (rs:=[4]) (by kernel_rfl) (by simp) ?_;refine AllReadyH.cons rfl (fun K hK=> ?_) AllReadyH.nil
    have bu:But PQ72 w118 (w118.setCells PQ72 0 (ydL us (yS yo y.n yc) y.e)):=de _ _ _ _;have hth:w118.there PQ72 0 3:=dD q121;have q126:au (w118.setCells PQ72 0 (ydL us (yS yo y.n yc) y.e)) PQ72 35 (ydL us (yS yo y.n yc) y.e):=q121.sets _ rfl;have r127:=bu.rd r122 (of76);have r128:=bu.rd r123 (of77);have q129:=bu.loc q120 (by omega);have b130:=bu.below b124 (by omega);rw[if_pos (by kernel_rfl)];refine wp_store_mid 35 (.tmp 10) (.tmp 66) rfl PQ72 0 (ydA us (yS yo y.n yc) y.e) (by kernel_rfl) (by kernel_rfl) hth (by kernel_rfl) (by simp[Value.oneCell']) ?_;refine hK.out _ _ trivial (fun hS131=> ?_)
    clear hK K;clear q121 r122 r123 q120 b124 bu hth;change wpAnyH _ _ _ _ _ _ _ _ (World.setCells w118 PQ72 0 (ydL us (yS yo y.n yc) y.e));generalize World.setCells w118 PQ72 0 (ydL us (yS yo y.n yc) y.e)=WS132 at q129 q126 r127 r128 b130 hS131⊢;refine wpAnyH_ready (rs:=[5]) (by kernel_rfl) (by simp) ?_;refine AllReadyH.cons rfl (fun K hK=> ?_) AllReadyH.nil
    have bu:But PQ59 WS132 (WS132.setCells PQ59 0 (ydL vs (yS xo x.n xc) x.e)):=de _ _ _ _;have hth:WS132.there PQ59 0 3:=dD q129;have q133:au (WS132.setCells PQ59 0 (ydL vs (yS xo x.n xc) x.e)) PQ59 35 (ydL vs (yS xo x.n xc) x.e):=q129.sets _ rfl;have r134:=bu.rd r127 (of62);have r135:=bu.rd r128 (of63);have q136:=bu.loc q126 (by omega);have b137:=bu.below b130 (by omega);rw[if_pos (by kernel_rfl)];refine wp_store_mid 35 (.tmp 11) (.tmp 68) rfl PQ59 0 (ydA vs (yS xo x.n xc) x.e) (by kernel_rfl) (by kernel_rfl) hth (by kernel_rfl) (by simp[Value.oneCell']) ?_;refine hK.out _ _ trivial (fun hS138=> ?_)
    clear hK K;clear q129 r127 r128 q126 b130 bu hth;refine wpAnyH_done (by kernel_rfl) ?_ _;clear hS0 hS108 hS109 hS117 hS125 hS131 hS138;change Exit.then _ _ _ _ (World.setCells WS132 PQ59 0 (ydL vs (yS xo x.n xc) x.e));generalize World.setCells WS132 PQ59 0 (ydL vs (yS xo x.n xc) x.e)=W139 at q133 q136 r134 r135 b137⊢;simp only[Act.put,List.getElem_toArray,List.getElem_cons_succ,List.getElem_cons_zero];obtain⟨c140,c141,c142⟩:=q136.cs3
    go_wp2_with fail
    refine(HD.out _ _ _ b137 r135).mono ?_;rintro zz w143 ⟨rfl,bb144⟩;have q145:=q133.l bb144;have q146:=q136.l bb144;have r147:=r134.l bb144;have r148:=r135.l bb144;have b149:=aa b137 bb144;clear q133 q136 r134 r135 b137 bb144 HD c140 c141 c142
    go_wp2_with fail
    refine(S1.out _ _ _ _ _ _ _ b149 q146.range q145.range r148 r147).mono ?_;rintro zz w150 ⟨rfl,bb151⟩;have q152:=q145.l bb151;have q153:=q146.l bb151;have r154:=r147.l bb151;have r155:=r148.l bb151;have b156:=aa b149 bb151;clear q145 q146 r147 r148 b149 bb151 S1
    go_wp2_with fail
    refine(S2.out _ _ _ _ _ _ _ b156 q153.range q152.range r155 r154).mono ?_;rintro zz w157 ⟨rfl,bb158⟩;have q159:=q152.l bb158;have q160:=q153.l bb158;have r161:=r154.l bb158;have r162:=r155.l bb158;have b163:=aa b156 bb158;clear q152 q153 r154 r155 b156 bb158 S2
    go_wp2_with fail
    refine(S3.out _ _ _ _ _ _ _ b163 q160.range q159.range r162 r161).mono ?_;rintro zz w164 ⟨rfl,bb165⟩;have b166:=aa b163 bb165;clear q159 q160 r161 r162 b163 bb165 S3
    go_wp2
    go_ret
    exact⟨by simp,b166⟩
  ·rw[if_pos (by kernel_rfl)]
   refine wp_yield (ydV true (yS xo x.n xc) x.e) (fy 35 (.tmp 10) rfl PQ72 0 (by kernel_rfl) _ _ q103.range underlying35 rfl (by kernel_rfl)) ?_;refine hK.out _ _ trivial (fun hS108=> ?_)
   clear hK K;refine wpAnyH_ready (rs:=[0]) (by kernel_rfl) (by simp) ?_;refine AllReadyH.cons rfl (fun K hK=> ?_) AllReadyH.nil
   rw[if_pos (by kernel_rfl)];refine wp_yield (ydV y.s (yS yo y.n yc) y.e) (fy 35 (.tmp 11) rfl PQ59 0 (by kernel_rfl) _ _ q102.range underlying35 rfl (by kernel_rfl)) ?_;refine hK.out _ _ trivial (fun hS109=> ?_)
   clear hK K;refine wpAnyH_ready (rs:=[1]) (by kernel_rfl) (by simp) ?_;refine AllReadyH.cons rfl (fun K hK=> ?_) AllReadyH.nil
   go_simp
   refine(M1.out _ _ _ b106 r105).mono ?_;rintro zz w110 ⟨rfl,bb111⟩;have q112:=q102.l bb111;have q113:=q103.l bb111;have r114:=r104.l bb111;have r115:=r105.l bb111;have b116:=aa b106 bb111;clear q102 q103 r104 r105 b106 bb111 M1;refine hK.out _ _ trivial (fun hS117=> ?_)
   clear hK K;refine wpAnyH_ready (rs:=[3]) (by kernel_rfl) (by simp) ?_;refine AllReadyH.cons rfl (fun K hK=> ?_) AllReadyH.nil
   go_simp
   refine(M2.out _ _ _ b116 r114).mono ?_;rintro zz w118 ⟨rfl,bb119⟩;have q120:=q112.l bb119;have q121:=q113.l bb119;have r122:=r114.l bb119;have r123:=r115.l bb119;have b124:=aa b116 bb119;clear q112 q113 r114 r115 b116 bb119 M2;refine hK.out _ _ trivial (fun hS125=> ?_)
   clear hK K;refine wpAnyH_ready (rs:=[4]) (by kernel_rfl) (by simp) ?_;refine AllReadyH.cons rfl (fun K hK=> ?_) AllReadyH.nil
   have bu:But PQ72 w118 (w118.setCells PQ72 0 (ydL us (yS yo y.n yc) y.e)):=de _ _ _ _;have hth:w118.there PQ72 0 3:=dD q121;have q126:au (w118.setCells PQ72 0 (ydL us (yS yo y.n yc) y.e)) PQ72 35 (ydL us (yS yo y.n yc) y.e):=q121.sets _ rfl;have r127:=bu.rd r122 (of76);have r128:=bu.rd r123 (of77);have q129:=bu.loc q120 (by omega);have b130:=bu.below b124 (by omega);rw[if_pos (by kernel_rfl)];refine wp_store_mid 35 (.tmp 10) (.tmp 66) rfl PQ72 0 (ydA us (yS yo y.n yc) y.e) (by kernel_rfl) (by kernel_rfl) hth (by kernel_rfl) (by simp[Value.oneCell']) ?_;refine hK.out _ _ trivial (fun hS131=> ?_)
   clear hK K;clear q121 r122 r123 q120 b124 bu hth;change wpAnyH _ _ _ _ _ _ _ _ (World.setCells w118 PQ72 0 (ydL us (yS yo y.n yc) y.e));generalize World.setCells w118 PQ72 0 (ydL us (yS yo y.n yc) y.e)=WS132 at q129 q126 r127 r128 b130 hS131⊢;refine wpAnyH_ready (rs:=[5]) (by kernel_rfl) (by simp) ?_;refine AllReadyH.cons rfl (fun K hK=> ?_) AllReadyH.nil
   have bu:But PQ59 WS132 (WS132.setCells PQ59 0 (ydL vs (yS xo x.n xc) x.e)):=de _ _ _ _;have hth:WS132.there PQ59 0 3:=dD q129;have q133:au (WS132.setCells PQ59 0 (ydL vs (yS xo x.n xc) x.e)) PQ59 35 (ydL vs (yS xo x.n xc) x.e):=q129.sets _ rfl;have r134:=bu.rd r127 (of62);have r135:=bu.rd r128 (of63);have q136:=bu.loc q126 (by omega);have b137:=bu.below b130 (by omega);rw[if_pos (by kernel_rfl)];refine wp_store_mid 35 (.tmp 11) (.tmp 68) rfl PQ59 0 (ydA vs (yS xo x.n xc) x.e) (by kernel_rfl) (by kernel_rfl) hth (by kernel_rfl) (by simp[Value.oneCell']) ?_;refine hK.out _ _ trivial (fun hS138=> ?_)
   clear hK K;clear q129 r127 r128 q126 b130 bu hth;refine wpAnyH_done (by kernel_rfl) ?_ _;clear hS0 hS108 hS109 hS117 hS125 hS131 hS138;change Exit.then _ _ _ _ (World.setCells WS132 PQ59 0 (ydL vs (yS xo x.n xc) x.e));generalize World.setCells WS132 PQ59 0 (ydL vs (yS xo x.n xc) x.e)=W139 at q133 q136 r134 r135 b137⊢;simp only[Act.put,List.getElem_toArray,List.getElem_cons_succ,List.getElem_cons_zero];obtain⟨c140,c141,c142⟩:=q136.cs3
   go_wp2_with fail
   refine(HD.out _ _ _ b137 r135).mono ?_;rintro zz w143 ⟨rfl,bb144⟩;have q145:=q133.l bb144;have q146:=q136.l bb144;have r147:=r134.l bb144;have r148:=r135.l bb144;have b149:=aa b137 bb144;clear q133 q136 r134 r135 b137 bb144 HD c140 c141 c142
   go_wp2_with fail
   refine(S1.out _ _ _ _ _ _ _ b149 q146.range q145.range r148 r147).mono ?_;rintro zz w150 ⟨rfl,bb151⟩;have q152:=q145.l bb151;have q153:=q146.l bb151;have r154:=r147.l bb151;have r155:=r148.l bb151;have b156:=aa b149 bb151;clear q145 q146 r147 r148 b149 bb151 S1
   go_wp2_with fail
   refine(S2.out _ _ _ _ _ _ _ b156 q153.range q152.range r155 r154).mono ?_;rintro zz w157 ⟨rfl,bb158⟩;have q159:=q152.l bb158;have q160:=q153.l bb158;have r161:=r154.l bb158;have r162:=r155.l bb158;have b163:=aa b156 bb158;clear q152 q153 r154 r155 b156 bb158 S2
   go_wp2_with fail
   refine(S3.out _ _ _ _ _ _ _ b163 q160.range q159.range r162 r161).mono ?_;rintro zz w164 ⟨rfl,bb165⟩;have b166:=aa b163 bb165;clear q159 q160 r161 r162 b163 bb165 S3
   go_wp2
   go_ret
   exact⟨by simp,b166⟩
theorem brackets_end_n (x y:ak)(us vs:Bool)(sa sb:Bool)(ao bo:Option Addr)(la lb ac bc:Nat)(ea eb:Int)(m sg:Int)(w:World)(hm1: ¬m<1)(hm: ¬4096<m)(hs: ¬sg≤0)
  (HK:yH w 5 #[.agg #[.bool sa,.slice ao la ac,yi ea,.bool sb,.slice bo lb bc,yi eb],yi m] (.tuple #[yi m,.bool true,yi 0]))
  (HC:yH w 6 #[.agg #[.bool sa,.slice ao la ac,yi ea,.bool sb,.slice bo lb bc,yi eb]] (yi 0))
  (HB:yH w 7 #[] (.bool true))
  (HO: ∀w1,yB w w1→yC 8 #[.agg #[.bool sa,.slice ao la ac,yi ea,.bool sb,.slice bo lb bc,yi eb]] w1 (fun z w'=> ∃xv yv,z= .returned (.agg #[.bool true,xv,yi x.e,.bool y.s,yv,yi y.e])∧Rd w' .i64 xv (Dg.dg 65536 x.n)∧Rd w' .i64 yv (Dg.dg 65536 y.n)∧yB w1 w'))
  (M1: ∀yo yc w1,yB w w1→Rd w1 .i64 (yS yo y.n yc) (Dg.dg 65536 y.n)→yC 9 #[ydV y.s (yS yo y.n yc) y.e] w1 (yR w1 (ydV us (yS yo y.n yc) y.e)))
  (M2: ∀xo xc w1,yB w w1→Rd w1 .i64 (yS xo x.n xc) (Dg.dg 65536 x.n)→yC 9 #[ydV true (yS xo x.n xc) x.e] w1 (yR w1 (ydV vs (yS xo x.n xc) x.e)))
  (HD: ∀yo yc w1,yB w w1→Rd w1 .i64 (yS yo y.n yc) (Dg.dg 65536 y.n)→yC 13 #[ydV us (yS yo y.n yc) y.e] w1 (yR w1 (yi sg)))
  (S1: ∀p q yo yc xo xc w1,yB w w1→w1.rangeAt p 0 (ydL us (yS yo y.n yc) y.e)→w1.rangeAt q 0 (ydL vs (yS xo x.n xc) x.e)→Rd w1 .i64 (yS yo y.n yc) (Dg.dg 65536 y.n)→Rd w1 .i64 (yS xo x.n xc) (Dg.dg 65536 x.n)→yC 10 #[yi 1,.pointer (some ⟨p,0,none⟩),.pointer (some ⟨q,0,none⟩)] w1 (yR w1 (.bool true)))
  (S2: ∀p q yo yc xo xc w1,yB w w1→w1.rangeAt p 0 (ydL us (yS yo y.n yc) y.e)→w1.rangeAt q 0 (ydL vs (yS xo x.n xc) x.e)→Rd w1 .i64 (yS yo y.n yc) (Dg.dg 65536 y.n)→Rd w1 .i64 (yS xo x.n xc) (Dg.dg 65536 x.n)→yC 10 #[yi m,.pointer (some ⟨p,0,none⟩),.pointer (some ⟨q,0,none⟩)] w1 (yR w1 (.bool true))):
  yC 3 #[.agg #[.bool sa,.slice ao la ac,yi ea,.bool sb,.slice bo lb bc,yi eb],yi m] w (yR w (.bool true)):=by
 replace HK:Hid _:=HK;replace HC:Hid _:=HC;replace HB:Hid _:=HB;replace HO:Hid _:=HO;replace M1:Hid _:=M1;replace M2:Hid _:=M2;replace HD:Hid _:=HD;replace S1:Hid _:=S1;replace S2:Hid _:=S2;obtain⟨W3,hW4,q1,b2⟩:=cA w [.bool sa,.slice ao la ac,yi ea,.bool sb,.slice bo lb bc,yi eb] 27;replace hW4:Hid _:=hW4
 go_enter func3,ntmps3
 go_upto_region 1 with fail
 rw[hW4.out];clear hW4;obtain⟨c5,c6,c7,c8,c9,c10⟩:=q1.cs6
 go_wp2_with fail
 refine(HK.out _ b2).mono ?_;rintro zz w11 ⟨rfl,bb12⟩;have q13:=q1.l bb12;have b14:=aa b2 bb12;clear q1 b2 bb12 HK c5 c6 c7 c8 c9 c10;obtain⟨c15,c16,c17,c18,c19,c20⟩:=q13.cs6
 go_wp2_with fail
 refine(HC.out _ b14).mono ?_;rintro zz w21 ⟨rfl,bb22⟩;have q23:=q13.l bb22;have b24:=aa b14 bb22;clear q13 b14 bb22 HC c15 c16 c17 c18 c19 c20
 go_wp2_with fail
 refine(HB.out _ b24).mono ?_;rintro zz w25 ⟨rfl,bb26⟩;have q27:=q23.l bb26;have b28:=aa b24 bb26;clear q23 b24 bb26 HB;obtain⟨c29,c30,c31,c32,c33,c34⟩:=q27.cs6
 go_wp2_with fail
 refine(HO.out _ b28).mono ?_;rintro zz w35 ⟨v1x37,v2x38,rfl,r1x39,r2x40,bb36⟩;have b41:=aa b28 bb36;obtain⟨xo,xc,hv⟩:=r1x39.shape;subst hv;obtain⟨yo,yc,hv⟩:=r2x40.shape;subst hv;clear q27 b28 bb36 HO c29 c30 c31 c32 c33 c34;obtain⟨W44,hW43,q45,al42⟩:=cA w35 [.bool true,yS xo x.n xc,yi x.e,.bool y.s,yS yo y.n yc,yi y.e] 37;replace hW43:Hid _:=hW43;have hl46:w.heap.size≤w35.heap.size:=b41.size;have r47:=r1x39.l al42;have r48:=r2x40.l al42;have b49:=aa b41 al42;clear r1x39 r2x40 b41 al42
 go_upto_region 8 with fail
 rw[hW43.out];clear hW43
 go_upto_region 8 with fail
 have bW50:yB W44 W44.drew:=(Below.refl _ _).drew;have q51:=q45.l bW50;have r52:=r47.l bW50;have r53:=r48.l bW50;have b54:=aa b49 bW50;clear q45 r47 r48 b49 bW50;refine wp_region_held_drew (S:=fun wq=>au wq w35.heap.size 37 [.bool true,yS xo x.n xc,yi x.e,.bool y.s,yS yo y.n yc,yi y.e]) (by kernel_rfl) q51 (fun hS0=> ?_)
 generalize W44.drew=WD55 at q51 r52 r53 b54 hS0⊢;refine tq 0 (.pointer (some ⟨w35.heap.size,0,none⟩)) rfl (fun _ _=>by kernel_rfl) hS0 ?_
 refine tq 1 (ydV true (yS xo x.n xc) x.e) rfl (fun _ hw0=>fy 35 (.tmp 59) rfl w35.heap.size 0 (by kernel_rfl) _ _ (kY hw0 0 3 rfl) underlying35 rfl (by kernel_rfl)) hS0 ?_
 refine tq 2 (.pointer (some ⟨w35.heap.size,3,none⟩)) rfl (fun _ _=>by kernel_rfl) hS0 ?_
 refine tq 3 (ydV y.s (yS yo y.n yc) y.e) rfl (fun _ hw0=>fy 35 (.tmp 61) rfl w35.heap.size 3 (by kernel_rfl) _ _ (kY hw0 3 3 rfl) underlying35 rfl (by kernel_rfl)) hS0 ?_
 refine wpAnyH_ready (rs:=[4,5]) (by kernel_rfl) (by simp) ?_;refine AllReadyH.cons rfl (fun K hK=> ?_) (AllReadyH.cons rfl (fun K hK=> ?_) AllReadyH.nil)
 ·go_simp
  have al56:=af WD55 (.cells (ydA false yN 0) 35);have q57:=ah WD55 (ydL false yN 0) 35;have hl60:w.heap.size≤WD55.heap.size:=b54.size;have hl61:=q51.lt;have of62:=t9 r52 (Nat.le_refl WD55.heap.size);have of63:=t9 r53 (Nat.le_refl WD55.heap.size);have q64:=q51.l al56;have r65:=r52.l al56;have r66:=r53.l al56;have b67:=aa b54 al56;refine hK.out _ _ q64 (fun hS68=> ?_)
  clear hK K;clear q51 r52 r53 b54 al56;generalize WD55.alloc (.cells (ydA false yN 0) 35)=WN58 at q64 q57 r65 r66 b67 hS68⊢;generalize WD55.heap.size=PQ59 at q57 hl60 hl61 of62 of63⊢;refine wpAnyH_ready (rs:=[5]) (by kernel_rfl) (by simp) ?_;refine AllReadyH.cons rfl (fun K hK=> ?_) AllReadyH.nil
  go_simp
  have al69:=af WN58 (.cells (ydA false yN 0) 35);have q70:=ah WN58 (ydL false yN 0) 35;have hl73:w.heap.size≤WN58.heap.size:=b67.size;have hl74:=q64.lt;have hl75:=q57.lt;have of76:=t9 r65 (Nat.le_refl WN58.heap.size);have of77:=t9 r66 (Nat.le_refl WN58.heap.size);have q78:=q64.l al69;have q79:=q57.l al69;have r80:=r65.l al69;have r81:=r66.l al69;have b82:=aa b67 al69;refine hK.out _ _ q78 (fun hS83=> ?_)
  clear hK K;clear q64 q57 r65 r66 b67 al69;generalize WN58.alloc (.cells (ydA false yN 0) 35)=WN71 at q78 q79 q70 r80 r81 b82 hS83⊢;generalize WN58.heap.size=PQ72 at q70 hl73 hl74 hl75 of76 of77⊢;refine wpAnyH_ready (rs:=[6]) (by kernel_rfl) (by simp) ?_;refine AllReadyH.cons rfl (fun K hK=> ?_) AllReadyH.nil
  have bu:But PQ59 WN71 (WN71.setCells PQ59 0 (ydL true (yS xo x.n xc) x.e)):=de _ _ _ _;have hth:WN71.there PQ59 0 3:=dD q79;have q84:au (WN71.setCells PQ59 0 (ydL true (yS xo x.n xc) x.e)) PQ59 35 (ydL true (yS xo x.n xc) x.e):=q79.sets _ rfl;have r85:=bu.rd r80 (of62);have r86:=bu.rd r81 (of63);have q87:=bu.loc q78 (by omega);have q88:=bu.loc q70 (by omega);have b89:=bu.below b82 (by omega);rw[if_pos (by kernel_rfl)];refine wp_store_mid 35 (.tmp 10) (.tmp 60) rfl PQ59 0 (ydA true (yS xo x.n xc) x.e) (by kernel_rfl) (by kernel_rfl) hth (by kernel_rfl) (by simp[Value.oneCell']) ?_;refine hK.out _ _ q87 (fun hS90=> ?_)
  clear hK K;clear q79 r80 r81 q78 q70 b82 bu hth;change wpAnyH _ _ _ _ _ _ _ _ (World.setCells WN71 PQ59 0 (ydL true (yS xo x.n xc) x.e));generalize World.setCells WN71 PQ59 0 (ydL true (yS xo x.n xc) x.e)=WS91 at q87 q84 q88 r85 r86 b89 hS90⊢;refine wpAnyH_ready (rs:=[7]) (by kernel_rfl) (by simp) ?_;refine AllReadyH.cons rfl (fun K hK=> ?_) AllReadyH.nil
  have bu:But PQ72 WS91 (WS91.setCells PQ72 0 (ydL y.s (yS yo y.n yc) y.e)):=de _ _ _ _;have hth:WS91.there PQ72 0 3:=dD q88;have q92:au (WS91.setCells PQ72 0 (ydL y.s (yS yo y.n yc) y.e)) PQ72 35 (ydL y.s (yS yo y.n yc) y.e):=q88.sets _ rfl;have r93:=bu.rd r85 (of76);have r94:=bu.rd r86 (of77);have q95:=bu.loc q87 (by omega);have q96:=bu.loc q84 (by omega);have b97:=bu.below b89 (by omega);rw[if_pos (by kernel_rfl)];refine wp_store_mid 35 (.tmp 11) (.tmp 62) rfl PQ72 0 (ydA y.s (yS yo y.n yc) y.e) (by kernel_rfl) (by kernel_rfl) hth (by kernel_rfl) (by simp[Value.oneCell']) ?_;refine hK.out _ _ q95 (fun hS98=> ?_)
  clear hK K;clear q88 r85 r86 q87 q84 b89 bu hth;refine wpAnyH_done (by kernel_rfl) ?_ _;clear hS0 hS68 hS83 hS90 hS98;change Exit.then _ _ _ _ (World.setCells WS91 PQ72 0 (ydL y.s (yS yo y.n yc) y.e));generalize World.setCells WS91 PQ72 0 (ydL y.s (yS yo y.n yc) y.e)=W99 at q95 q96 q92 r93 r94 b97⊢;simp only[Act.put,List.getElem_toArray,List.getElem_cons_succ,List.getElem_cons_zero];have c100:=q96.c 0 rfl
  go_upto_region 10 with fail
  clear c100;have bW101:yB W99 W99.drew:=(Below.refl _ _).drew;have q102:=q96.l bW101;have q103:=q92.l bW101;have r104:=r93.l bW101;have r105:=r94.l bW101;have b106:=aa b97 bW101;clear q95 q96 q92 r93 r94 b97 bW101;refine wp_region_held_drew (S:=fun _=>True) (by kernel_rfl) trivial (fun hS0=> ?_)
  generalize W99.drew=WD107 at q102 q103 r104 r105 b106 hS0⊢;refine wpAnyH_ready (rs:=[0,2]) (by kernel_rfl) (by simp) ?_;refine AllReadyH.cons rfl (fun K hK=> ?_) (AllReadyH.cons rfl (fun K hK=> ?_) AllReadyH.nil)
  ·rw[if_pos (by kernel_rfl)]
   refine wp_yield (ydV y.s (yS yo y.n yc) y.e) (fy 35 (.tmp 11) rfl PQ72 0 (by kernel_rfl) _ _ q103.range underlying35 rfl (by kernel_rfl)) ?_;refine hK.out _ _ trivial (fun hS108=> ?_)
   clear hK K;refine wpAnyH_ready (rs:=[1,2]) (by kernel_rfl) (by simp) ?_;refine AllReadyH.cons rfl (fun K hK=> ?_) (AllReadyH.cons rfl (fun K hK=> ?_) AllReadyH.nil)
   ·go_simp
    refine(M1.out _ _ _ b106 r105).mono ?_;rintro zz w109 ⟨rfl,bb110⟩;have q111:=q102.l bb110;have q112:=q103.l bb110;have r113:=r104.l bb110;have r114:=r105.l bb110;have b115:=aa b106 bb110;clear q102 q103 r104 r105 b106 bb110 M1;refine hK.out _ _ trivial (fun hS116=> ?_)
    clear hK K;refine wpAnyH_ready (rs:=[2]) (by kernel_rfl) (by simp) ?_;refine AllReadyH.cons rfl (fun K hK=> ?_) AllReadyH.nil
    rw[if_pos (by kernel_rfl)];refine wp_yield (ydV true (yS xo x.n xc) x.e) (fy 35 (.tmp 10) rfl PQ59 0 (by kernel_rfl) _ _ q111.range underlying35 rfl (by kernel_rfl)) ?_;refine hK.out _ _ trivial (fun hS117=> ?_)
    clear hK K;refine wpAnyH_ready (rs:=[3]) (by kernel_rfl) (by simp) ?_;refine AllReadyH.cons rfl (fun K hK=> ?_) AllReadyH.nil
    go_simp
    refine(M2.out _ _ _ b115 r113).mono ?_;rintro zz w118 ⟨rfl,bb119⟩;have q120:=q111.l bb119;have q121:=q112.l bb119;have r122:=r113.l bb119;have r123:=r114.l bb119;have b124:=aa b115 bb119;clear q111 q112 r113 r114 b115 bb119 M2;refine hK.out _ _ trivial (fun hS125=> ?_)
    clear hK K;refine wpAnyH_ready (rs:=[4]) (by kernel_rfl) (by simp) ?_;refine AllReadyH.cons rfl (fun K hK=> ?_) AllReadyH.nil
    have bu:But PQ59 w118 (w118.setCells PQ59 0 (ydL us (yS yo y.n yc) y.e)):=de _ _ _ _;have hth:w118.there PQ59 0 3:=dD q120;have q126:au (w118.setCells PQ59 0 (ydL us (yS yo y.n yc) y.e)) PQ59 35 (ydL us (yS yo y.n yc) y.e):=q120.sets _ rfl;have r127:=bu.rd r122 (of62);have r128:=bu.rd r123 (of63);have q129:=bu.loc q121 (by omega);have b130:=bu.below b124 (by omega);rw[if_pos (by kernel_rfl)];refine wp_store_mid 35 (.tmp 10) (.tmp 66) rfl PQ59 0 (ydA us (yS yo y.n yc) y.e) (by kernel_rfl) (by kernel_rfl) hth (by kernel_rfl) (by simp[Value.oneCell']) ?_;refine hK.out _ _ trivial (fun hS131=> ?_)
    clear hK K;clear q120 r122 r123 q121 b124 bu hth;change wpAnyH _ _ _ _ _ _ _ _ (World.setCells w118 PQ59 0 (ydL us (yS yo y.n yc) y.e));generalize World.setCells w118 PQ59 0 (ydL us (yS yo y.n yc) y.e)=WS132 at q126 q129 r127 r128 b130 hS131⊢;refine wpAnyH_ready (rs:=[5]) (by kernel_rfl) (by simp) ?_;refine AllReadyH.cons rfl (fun K hK=> ?_) AllReadyH.nil
    have bu:But PQ72 WS132 (WS132.setCells PQ72 0 (ydL vs (yS xo x.n xc) x.e)):=de _ _ _ _;have hth:WS132.there PQ72 0 3:=dD q129;have q133:au (WS132.setCells PQ72 0 (ydL vs (yS xo x.n xc) x.e)) PQ72 35 (ydL vs (yS xo x.n xc) x.e):=q129.sets _ rfl;have r134:=bu.rd r127 (of76);have r135:=bu.rd r128 (of77);have q136:=bu.loc q126 (by omega);have b137:=bu.below b130 (by omega);rw[if_pos (by kernel_rfl)];refine wp_store_mid 35 (.tmp 11) (.tmp 68) rfl PQ72 0 (ydA vs (yS xo x.n xc) x.e) (by kernel_rfl) (by kernel_rfl) hth (by kernel_rfl) (by simp[Value.oneCell']) ?_;refine hK.out _ _ trivial (fun hS138=> ?_)
    clear hK K;clear q129 r127 r128 q126 b130 bu hth;refine wpAnyH_done (by kernel_rfl) ?_ _;clear hS0 hS108 hS116 hS117 hS125 hS131 hS138;change Exit.then _ _ _ _ (World.setCells WS132 PQ72 0 (ydL vs (yS xo x.n xc) x.e));generalize World.setCells WS132 PQ72 0 (ydL vs (yS xo x.n xc) x.e)=W139 at q136 q133 r134 r135 b137⊢;simp only[Act.put,List.getElem_toArray,List.getElem_cons_succ,List.getElem_cons_zero];obtain⟨c140,c141,c142⟩:=q136.cs3
    go_wp2_with fail
    refine(HD.out _ _ _ b137 r135).mono ?_;rintro zz w143 ⟨rfl,bb144⟩;have q145:=q136.l bb144;have q146:=q133.l bb144;have r147:=r134.l bb144;have r148:=r135.l bb144;have b149:=aa b137 bb144;clear q136 q133 r134 r135 b137 bb144 HD c140 c141 c142
    go_wp2_with fail
    refine(S1.out _ _ _ _ _ _ _ b149 q145.range q146.range r148 r147).mono ?_;rintro zz w150 ⟨rfl,bb151⟩;have q152:=q145.l bb151;have q153:=q146.l bb151;have r154:=r147.l bb151;have r155:=r148.l bb151;have b156:=aa b149 bb151;clear q145 q146 r147 r148 b149 bb151 S1
    go_wp2_with fail
    refine(S2.out _ _ _ _ _ _ _ b156 q152.range q153.range r155 r154).mono ?_;rintro zz w157 ⟨rfl,bb158⟩;have b159:=aa b156 bb158;clear q152 q153 r154 r155 b156 bb158 S2
    go_wp2
    go_ret
    exact⟨by simp,b159⟩
   ·rw[if_pos (by kernel_rfl)]
    refine wp_yield (ydV true (yS xo x.n xc) x.e) (fy 35 (.tmp 10) rfl PQ59 0 (by kernel_rfl) _ _ q102.range underlying35 rfl (by kernel_rfl)) ?_;refine hK.out _ _ trivial (fun hS109=> ?_)
    clear hK K;refine wpAnyH_ready (rs:=[1]) (by kernel_rfl) (by simp) ?_;refine AllReadyH.cons rfl (fun K hK=> ?_) AllReadyH.nil
    go_simp
    refine(M1.out _ _ _ b106 r105).mono ?_;rintro zz w110 ⟨rfl,bb111⟩;have q112:=q102.l bb111;have q113:=q103.l bb111;have r114:=r104.l bb111;have r115:=r105.l bb111;have b116:=aa b106 bb111;clear q102 q103 r104 r105 b106 bb111 M1;refine hK.out _ _ trivial (fun hS117=> ?_)
    clear hK K;refine wpAnyH_ready (rs:=[3]) (by kernel_rfl) (by simp) ?_;refine AllReadyH.cons rfl (fun K hK=> ?_) AllReadyH.nil
    go_simp
    refine(M2.out _ _ _ b116 r114).mono ?_;rintro zz w118 ⟨rfl,bb119⟩;have q120:=q112.l bb119;have q121:=q113.l bb119;have r122:=r114.l bb119;have r123:=r115.l bb119;have b124:=aa b116 bb119;clear q112 q113 r114 r115 b116 bb119 M2;refine hK.out _ _ trivial (fun hS125=> ?_)
    clear hK K;refine wpAnyH_ready (rs:=[4]) (by kernel_rfl) (by simp) ?_;refine AllReadyH.cons rfl (fun K hK=> ?_) AllReadyH.nil
    have bu:But PQ59 w118 (w118.setCells PQ59 0 (ydL us (yS yo y.n yc) y.e)):=de _ _ _ _;have hth:w118.there PQ59 0 3:=dD q120;have q126:au (w118.setCells PQ59 0 (ydL us (yS yo y.n yc) y.e)) PQ59 35 (ydL us (yS yo y.n yc) y.e):=q120.sets _ rfl;have r127:=bu.rd r122 (of62);have r128:=bu.rd r123 (of63);have q129:=bu.loc q121 (by omega);have b130:=bu.below b124 (by omega);rw[if_pos (by kernel_rfl)];refine wp_store_mid 35 (.tmp 10) (.tmp 66) rfl PQ59 0 (ydA us (yS yo y.n yc) y.e) (by kernel_rfl) (by kernel_rfl) hth (by kernel_rfl) (by simp[Value.oneCell']) ?_;refine hK.out _ _ trivial (fun hS131=> ?_)
    clear hK K;clear q120 r122 r123 q121 b124 bu hth;change wpAnyH _ _ _ _ _ _ _ _ (World.setCells w118 PQ59 0 (ydL us (yS yo y.n yc) y.e));generalize World.setCells w118 PQ59 0 (ydL us (yS yo y.n yc) y.e)=WS132 at q126 q129 r127 r128 b130 hS131⊢;refine wpAnyH_ready (rs:=[5]) (by kernel_rfl) (by simp) ?_;refine AllReadyH.cons rfl (fun K hK=> ?_) AllReadyH.nil
    have bu:But PQ72 WS132 (WS132.setCells PQ72 0 (ydL vs (yS xo x.n xc) x.e)):=de _ _ _ _;have hth:WS132.there PQ72 0 3:=dD q129;have q133:au (WS132.setCells PQ72 0 (ydL vs (yS xo x.n xc) x.e)) PQ72 35 (ydL vs (yS xo x.n xc) x.e):=q129.sets _ rfl;have r134:=bu.rd r127 (of76);have r135:=bu.rd r128 (of77);have q136:=bu.loc q126 (by omega);have b137:=bu.below b130 (by omega);rw[if_pos (by kernel_rfl)];refine wp_store_mid 35 (.tmp 11) (.tmp 68) rfl PQ72 0 (ydA vs (yS xo x.n xc) x.e) (by kernel_rfl) (by kernel_rfl) hth (by kernel_rfl) (by simp[Value.oneCell']) ?_;refine hK.out _ _ trivial (fun hS138=> ?_)
    clear hK K;clear q129 r127 r128 q126 b130 bu hth;refine wpAnyH_done (by kernel_rfl) ?_ _;clear hS0 hS108 hS109 hS117 hS125 hS131 hS138;change Exit.then _ _ _ _ (World.setCells WS132 PQ72 0 (ydL vs (yS xo x.n xc) x.e));generalize World.setCells WS132 PQ72 0 (ydL vs (yS xo x.n xc) x.e)=W139 at q136 q133 r134 r135 b137⊢;simp only[Act.put,List.getElem_toArray,List.getElem_cons_succ,List.getElem_cons_zero];obtain⟨c140,c141,c142⟩:=q136.cs3
    go_wp2_with fail
    refine(HD.out _ _ _ b137 r135).mono ?_;rintro zz w143 ⟨rfl,bb144⟩;have q145:=q136.l bb144;have q146:=q133.l bb144;have r147:=r134.l bb144;have r148:=r135.l bb144;have b149:=aa b137 bb144;clear q136 q133 r134 r135 b137 bb144 HD c140 c141 c142
    go_wp2_with fail
    refine(S1.out _ _ _ _ _ _ _ b149 q145.range q146.range r148 r147).mono ?_;rintro zz w150 ⟨rfl,bb151⟩;have q152:=q145.l bb151;have q153:=q146.l bb151;have r154:=r147.l bb151;have r155:=r148.l bb151;have b156:=aa b149 bb151;clear q145 q146 r147 r148 b149 bb151 S1
    go_wp2_with fail
    refine(S2.out _ _ _ _ _ _ _ b156 q152.range q153.range r155 r154).mono ?_;rintro zz w157 ⟨rfl,bb158⟩;have b159:=aa b156 bb158;clear q152 q153 r154 r155 b156 bb158 S2
    go_wp2
    go_ret
    exact⟨by simp,b159⟩
  ·rw[if_pos (by kernel_rfl)]
   refine wp_yield (ydV true (yS xo x.n xc) x.e) (fy 35 (.tmp 10) rfl PQ59 0 (by kernel_rfl) _ _ q102.range underlying35 rfl (by kernel_rfl)) ?_;refine hK.out _ _ trivial (fun hS108=> ?_)
   clear hK K;refine wpAnyH_ready (rs:=[0]) (by kernel_rfl) (by simp) ?_;refine AllReadyH.cons rfl (fun K hK=> ?_) AllReadyH.nil
   rw[if_pos (by kernel_rfl)];refine wp_yield (ydV y.s (yS yo y.n yc) y.e) (fy 35 (.tmp 11) rfl PQ72 0 (by kernel_rfl) _ _ q103.range underlying35 rfl (by kernel_rfl)) ?_;refine hK.out _ _ trivial (fun hS109=> ?_)
   clear hK K;refine wpAnyH_ready (rs:=[1]) (by kernel_rfl) (by simp) ?_;refine AllReadyH.cons rfl (fun K hK=> ?_) AllReadyH.nil
   go_simp
   refine(M1.out _ _ _ b106 r105).mono ?_;rintro zz w110 ⟨rfl,bb111⟩;have q112:=q102.l bb111;have q113:=q103.l bb111;have r114:=r104.l bb111;have r115:=r105.l bb111;have b116:=aa b106 bb111;clear q102 q103 r104 r105 b106 bb111 M1;refine hK.out _ _ trivial (fun hS117=> ?_)
   clear hK K;refine wpAnyH_ready (rs:=[3]) (by kernel_rfl) (by simp) ?_;refine AllReadyH.cons rfl (fun K hK=> ?_) AllReadyH.nil
   go_simp
   refine(M2.out _ _ _ b116 r114).mono ?_;rintro zz w118 ⟨rfl,bb119⟩;have q120:=q112.l bb119;have q121:=q113.l bb119;have r122:=r114.l bb119;have r123:=r115.l bb119;have b124:=aa b116 bb119;clear q112 q113 r114 r115 b116 bb119 M2;refine hK.out _ _ trivial (fun hS125=> ?_)
   clear hK K;refine wpAnyH_ready (rs:=[4]) (by kernel_rfl) (by simp) ?_;refine AllReadyH.cons rfl (fun K hK=> ?_) AllReadyH.nil
   have bu:But PQ59 w118 (w118.setCells PQ59 0 (ydL us (yS yo y.n yc) y.e)):=de _ _ _ _;have hth:w118.there PQ59 0 3:=dD q120;have q126:au (w118.setCells PQ59 0 (ydL us (yS yo y.n yc) y.e)) PQ59 35 (ydL us (yS yo y.n yc) y.e):=q120.sets _ rfl;have r127:=bu.rd r122 (of62);have r128:=bu.rd r123 (of63);have q129:=bu.loc q121 (by omega);have b130:=bu.below b124 (by omega);rw[if_pos (by kernel_rfl)];refine wp_store_mid 35 (.tmp 10) (.tmp 66) rfl PQ59 0 (ydA us (yS yo y.n yc) y.e) (by kernel_rfl) (by kernel_rfl) hth (by kernel_rfl) (by simp[Value.oneCell']) ?_;refine hK.out _ _ trivial (fun hS131=> ?_)
   clear hK K;clear q120 r122 r123 q121 b124 bu hth;change wpAnyH _ _ _ _ _ _ _ _ (World.setCells w118 PQ59 0 (ydL us (yS yo y.n yc) y.e));generalize World.setCells w118 PQ59 0 (ydL us (yS yo y.n yc) y.e)=WS132 at q126 q129 r127 r128 b130 hS131⊢;refine wpAnyH_ready (rs:=[5]) (by kernel_rfl) (by simp) ?_;refine AllReadyH.cons rfl (fun K hK=> ?_) AllReadyH.nil
   have bu:But PQ72 WS132 (WS132.setCells PQ72 0 (ydL vs (yS xo x.n xc) x.e)):=de _ _ _ _;have hth:WS132.there PQ72 0 3:=dD q129;have q133:au (WS132.setCells PQ72 0 (ydL vs (yS xo x.n xc) x.e)) PQ72 35 (ydL vs (yS xo x.n xc) x.e):=q129.sets _ rfl;have r134:=bu.rd r127 (of76);have r135:=bu.rd r128 (of77);have q136:=bu.loc q126 (by omega);have b137:=bu.below b130 (by omega);rw[if_pos (by kernel_rfl)];refine wp_store_mid 35 (.tmp 11) (.tmp 68) rfl PQ72 0 (ydA vs (yS xo x.n xc) x.e) (by kernel_rfl) (by kernel_rfl) hth (by kernel_rfl) (by simp[Value.oneCell']) ?_;refine hK.out _ _ trivial (fun hS138=> ?_)
   clear hK K;clear q129 r127 r128 q126 b130 bu hth;refine wpAnyH_done (by kernel_rfl) ?_ _;clear hS0 hS108 hS109 hS117 hS125 hS131 hS138;change Exit.then _ _ _ _ (World.setCells WS132 PQ72 0 (ydL vs (yS xo x.n xc) x.e));generalize World.setCells WS132 PQ72 0 (ydL vs (yS xo x.n xc) x.e)=W139 at q136 q133 r134 r135 b137⊢;simp only[Act.put,List.getElem_toArray,List.getElem_cons_succ,List.getElem_cons_zero];obtain⟨c140,c141,c142⟩:=q136.cs3
   go_wp2_with fail
   refine(HD.out _ _ _ b137 r135).mono ?_;rintro zz w143 ⟨rfl,bb144⟩;have q145:=q136.l bb144;have q146:=q133.l bb144;have r147:=r134.l bb144;have r148:=r135.l bb144;have b149:=aa b137 bb144;clear q136 q133 r134 r135 b137 bb144 HD c140 c141 c142
   go_wp2_with fail
   refine(S1.out _ _ _ _ _ _ _ b149 q145.range q146.range r148 r147).mono ?_;rintro zz w150 ⟨rfl,bb151⟩;have q152:=q145.l bb151;have q153:=q146.l bb151;have r154:=r147.l bb151;have r155:=r148.l bb151;have b156:=aa b149 bb151;clear q145 q146 r147 r148 b149 bb151 S1
   go_wp2_with fail
   refine(S2.out _ _ _ _ _ _ _ b156 q152.range q153.range r155 r154).mono ?_;rintro zz w157 ⟨rfl,bb158⟩;have b159:=aa b156 bb158;clear q152 q153 r154 r155 b156 bb158 S2
   go_wp2
   go_ret
   exact⟨by simp,b159⟩
 ·go_simp
  have al56:=af WD55 (.cells (ydA false yN 0) 35);have q57:=ah WD55 (ydL false yN 0) 35;have hl60:w.heap.size≤WD55.heap.size:=b54.size;have hl61:=q51.lt;have of62:=t9 r52 (Nat.le_refl WD55.heap.size);have of63:=t9 r53 (Nat.le_refl WD55.heap.size);have q64:=q51.l al56;have r65:=r52.l al56;have r66:=r53.l al56;have b67:=aa b54 al56;refine hK.out _ _ q64 (fun hS68=> ?_)
  clear hK K;clear q51 r52 r53 b54 al56;generalize WD55.alloc (.cells (ydA false yN 0) 35)=WN58 at q64 q57 r65 r66 b67 hS68⊢;generalize WD55.heap.size=PQ59 at q57 hl60 hl61 of62 of63⊢;refine wpAnyH_ready (rs:=[4]) (by kernel_rfl) (by simp) ?_;refine AllReadyH.cons rfl (fun K hK=> ?_) AllReadyH.nil
  go_simp
  have al69:=af WN58 (.cells (ydA false yN 0) 35);have q70:=ah WN58 (ydL false yN 0) 35;have hl73:w.heap.size≤WN58.heap.size:=b67.size;have hl74:=q64.lt;have hl75:=q57.lt;have of76:=t9 r65 (Nat.le_refl WN58.heap.size);have of77:=t9 r66 (Nat.le_refl WN58.heap.size);have q78:=q64.l al69;have q79:=q57.l al69;have r80:=r65.l al69;have r81:=r66.l al69;have b82:=aa b67 al69;refine hK.out _ _ q78 (fun hS83=> ?_)
  clear hK K;clear q64 q57 r65 r66 b67 al69;generalize WN58.alloc (.cells (ydA false yN 0) 35)=WN71 at q78 q79 q70 r80 r81 b82 hS83⊢;generalize WN58.heap.size=PQ72 at q70 hl73 hl74 hl75 of76 of77⊢;refine wpAnyH_ready (rs:=[6]) (by kernel_rfl) (by simp) ?_;refine AllReadyH.cons rfl (fun K hK=> ?_) AllReadyH.nil
  have bu:But PQ72 WN71 (WN71.setCells PQ72 0 (ydL true (yS xo x.n xc) x.e)):=de _ _ _ _;have hth:WN71.there PQ72 0 3:=dD q70;have q84:au (WN71.setCells PQ72 0 (ydL true (yS xo x.n xc) x.e)) PQ72 35 (ydL true (yS xo x.n xc) x.e):=q70.sets _ rfl;have r85:=bu.rd r80 (of76);have r86:=bu.rd r81 (of77);have q87:=bu.loc q78 (by omega);have q88:=bu.loc q79 (by omega);have b89:=bu.below b82 (by omega);rw[if_pos (by kernel_rfl)];refine wp_store_mid 35 (.tmp 10) (.tmp 60) rfl PQ72 0 (ydA true (yS xo x.n xc) x.e) (by kernel_rfl) (by kernel_rfl) hth (by kernel_rfl) (by simp[Value.oneCell']) ?_;refine hK.out _ _ q87 (fun hS90=> ?_)
  clear hK K;clear q70 r80 r81 q78 q79 b82 bu hth;change wpAnyH _ _ _ _ _ _ _ _ (World.setCells WN71 PQ72 0 (ydL true (yS xo x.n xc) x.e));generalize World.setCells WN71 PQ72 0 (ydL true (yS xo x.n xc) x.e)=WS91 at q87 q88 q84 r85 r86 b89 hS90⊢;refine wpAnyH_ready (rs:=[7]) (by kernel_rfl) (by simp) ?_;refine AllReadyH.cons rfl (fun K hK=> ?_) AllReadyH.nil
  have bu:But PQ59 WS91 (WS91.setCells PQ59 0 (ydL y.s (yS yo y.n yc) y.e)):=de _ _ _ _;have hth:WS91.there PQ59 0 3:=dD q88;have q92:au (WS91.setCells PQ59 0 (ydL y.s (yS yo y.n yc) y.e)) PQ59 35 (ydL y.s (yS yo y.n yc) y.e):=q88.sets _ rfl;have r93:=bu.rd r85 (of62);have r94:=bu.rd r86 (of63);have q95:=bu.loc q87 (by omega);have q96:=bu.loc q84 (by omega);have b97:=bu.below b89 (by omega);rw[if_pos (by kernel_rfl)];refine wp_store_mid 35 (.tmp 11) (.tmp 62) rfl PQ59 0 (ydA y.s (yS yo y.n yc) y.e) (by kernel_rfl) (by kernel_rfl) hth (by kernel_rfl) (by simp[Value.oneCell']) ?_;refine hK.out _ _ q95 (fun hS98=> ?_)
  clear hK K;clear q88 r85 r86 q87 q84 b89 bu hth;refine wpAnyH_done (by kernel_rfl) ?_ _;clear hS0 hS68 hS83 hS90 hS98;change Exit.then _ _ _ _ (World.setCells WS91 PQ59 0 (ydL y.s (yS yo y.n yc) y.e));generalize World.setCells WS91 PQ59 0 (ydL y.s (yS yo y.n yc) y.e)=W99 at q95 q92 q96 r93 r94 b97⊢;simp only[Act.put,List.getElem_toArray,List.getElem_cons_succ,List.getElem_cons_zero];have c100:=q96.c 0 rfl
  go_upto_region 10 with fail
  clear c100;have bW101:yB W99 W99.drew:=(Below.refl _ _).drew;have q102:=q92.l bW101;have q103:=q96.l bW101;have r104:=r93.l bW101;have r105:=r94.l bW101;have b106:=aa b97 bW101;clear q95 q92 q96 r93 r94 b97 bW101;refine wp_region_held_drew (S:=fun _=>True) (by kernel_rfl) trivial (fun hS0=> ?_)
  generalize W99.drew=WD107 at q102 q103 r104 r105 b106 hS0⊢;refine wpAnyH_ready (rs:=[0,2]) (by kernel_rfl) (by simp) ?_;refine AllReadyH.cons rfl (fun K hK=> ?_) (AllReadyH.cons rfl (fun K hK=> ?_) AllReadyH.nil)
  ·rw[if_pos (by kernel_rfl)]
   refine wp_yield (ydV y.s (yS yo y.n yc) y.e) (fy 35 (.tmp 11) rfl PQ59 0 (by kernel_rfl) _ _ q102.range underlying35 rfl (by kernel_rfl)) ?_;refine hK.out _ _ trivial (fun hS108=> ?_)
   clear hK K;refine wpAnyH_ready (rs:=[1,2]) (by kernel_rfl) (by simp) ?_;refine AllReadyH.cons rfl (fun K hK=> ?_) (AllReadyH.cons rfl (fun K hK=> ?_) AllReadyH.nil)
   ·go_simp
    refine(M1.out _ _ _ b106 r105).mono ?_;rintro zz w109 ⟨rfl,bb110⟩;have q111:=q102.l bb110;have q112:=q103.l bb110;have r113:=r104.l bb110;have r114:=r105.l bb110;have b115:=aa b106 bb110;clear q102 q103 r104 r105 b106 bb110 M1;refine hK.out _ _ trivial (fun hS116=> ?_)
    clear hK K;refine wpAnyH_ready (rs:=[2]) (by kernel_rfl) (by simp) ?_;refine AllReadyH.cons rfl (fun K hK=> ?_) AllReadyH.nil
    rw[if_pos (by kernel_rfl)];refine wp_yield (ydV true (yS xo x.n xc) x.e) (fy 35 (.tmp 10) rfl PQ72 0 (by kernel_rfl) _ _ q112.range underlying35 rfl (by kernel_rfl)) ?_;refine hK.out _ _ trivial (fun hS117=> ?_)
    clear hK K;refine wpAnyH_ready (rs:=[3]) (by kernel_rfl) (by simp) ?_;refine AllReadyH.cons rfl (fun K hK=> ?_) AllReadyH.nil
    go_simp
    refine(M2.out _ _ _ b115 r113).mono ?_;rintro zz w118 ⟨rfl,bb119⟩;have q120:=q111.l bb119;have q121:=q112.l bb119;have r122:=r113.l bb119;have r123:=r114.l bb119;have b124:=aa b115 bb119;clear q111 q112 r113 r114 b115 bb119 M2;refine hK.out _ _ trivial (fun hS125=> ?_)
    clear hK K;refine wpAnyH_ready (rs:=[4]) (by kernel_rfl) (by simp) ?_;refine AllReadyH.cons rfl (fun K hK=> ?_) AllReadyH.nil
    have bu:But PQ72 w118 (w118.setCells PQ72 0 (ydL us (yS yo y.n yc) y.e)):=de _ _ _ _;have hth:w118.there PQ72 0 3:=dD q121;have q126:au (w118.setCells PQ72 0 (ydL us (yS yo y.n yc) y.e)) PQ72 35 (ydL us (yS yo y.n yc) y.e):=q121.sets _ rfl;have r127:=bu.rd r122 (of76);have r128:=bu.rd r123 (of77);have q129:=bu.loc q120 (by omega);have b130:=bu.below b124 (by omega);rw[if_pos (by kernel_rfl)];refine wp_store_mid 35 (.tmp 10) (.tmp 66) rfl PQ72 0 (ydA us (yS yo y.n yc) y.e) (by kernel_rfl) (by kernel_rfl) hth (by kernel_rfl) (by simp[Value.oneCell']) ?_;refine hK.out _ _ trivial (fun hS131=> ?_)
    clear hK K;clear q121 r122 r123 q120 b124 bu hth;change wpAnyH _ _ _ _ _ _ _ _ (World.setCells w118 PQ72 0 (ydL us (yS yo y.n yc) y.e));generalize World.setCells w118 PQ72 0 (ydL us (yS yo y.n yc) y.e)=WS132 at q129 q126 r127 r128 b130 hS131⊢;refine wpAnyH_ready (rs:=[5]) (by kernel_rfl) (by simp) ?_;refine AllReadyH.cons rfl (fun K hK=> ?_) AllReadyH.nil
    have bu:But PQ59 WS132 (WS132.setCells PQ59 0 (ydL vs (yS xo x.n xc) x.e)):=de _ _ _ _;have hth:WS132.there PQ59 0 3:=dD q129;have q133:au (WS132.setCells PQ59 0 (ydL vs (yS xo x.n xc) x.e)) PQ59 35 (ydL vs (yS xo x.n xc) x.e):=q129.sets _ rfl;have r134:=bu.rd r127 (of62);have r135:=bu.rd r128 (of63);have q136:=bu.loc q126 (by omega);have b137:=bu.below b130 (by omega);rw[if_pos (by kernel_rfl)];refine wp_store_mid 35 (.tmp 11) (.tmp 68) rfl PQ59 0 (ydA vs (yS xo x.n xc) x.e) (by kernel_rfl) (by kernel_rfl) hth (by kernel_rfl) (by simp[Value.oneCell']) ?_;refine hK.out _ _ trivial (fun hS138=> ?_)
    clear hK K;clear q129 r127 r128 q126 b130 bu hth;refine wpAnyH_done (by kernel_rfl) ?_ _;clear hS0 hS108 hS116 hS117 hS125 hS131 hS138;change Exit.then _ _ _ _ (World.setCells WS132 PQ59 0 (ydL vs (yS xo x.n xc) x.e));generalize World.setCells WS132 PQ59 0 (ydL vs (yS xo x.n xc) x.e)=W139 at q133 q136 r134 r135 b137⊢;simp only[Act.put,List.getElem_toArray,List.getElem_cons_succ,List.getElem_cons_zero];obtain⟨c140,c141,c142⟩:=q136.cs3
    go_wp2_with fail
    refine(HD.out _ _ _ b137 r135).mono ?_;rintro zz w143 ⟨rfl,bb144⟩;have q145:=q133.l bb144;have q146:=q136.l bb144;have r147:=r134.l bb144;have r148:=r135.l bb144;have b149:=aa b137 bb144;clear q133 q136 r134 r135 b137 bb144 HD c140 c141 c142
    go_wp2_with fail
    refine(S1.out _ _ _ _ _ _ _ b149 q146.range q145.range r148 r147).mono ?_;rintro zz w150 ⟨rfl,bb151⟩;have q152:=q145.l bb151;have q153:=q146.l bb151;have r154:=r147.l bb151;have r155:=r148.l bb151;have b156:=aa b149 bb151;clear q145 q146 r147 r148 b149 bb151 S1
    go_wp2_with fail
    refine(S2.out _ _ _ _ _ _ _ b156 q153.range q152.range r155 r154).mono ?_;rintro zz w157 ⟨rfl,bb158⟩;have b159:=aa b156 bb158;clear q152 q153 r154 r155 b156 bb158 S2
    go_wp2
    go_ret
    exact⟨by simp,b159⟩
   ·rw[if_pos (by kernel_rfl)]
    refine wp_yield (ydV true (yS xo x.n xc) x.e) (fy 35 (.tmp 10) rfl PQ72 0 (by kernel_rfl) _ _ q103.range underlying35 rfl (by kernel_rfl)) ?_;refine hK.out _ _ trivial (fun hS109=> ?_)
    clear hK K;refine wpAnyH_ready (rs:=[1]) (by kernel_rfl) (by simp) ?_;refine AllReadyH.cons rfl (fun K hK=> ?_) AllReadyH.nil
    go_simp
    refine(M1.out _ _ _ b106 r105).mono ?_;rintro zz w110 ⟨rfl,bb111⟩;have q112:=q102.l bb111;have q113:=q103.l bb111;have r114:=r104.l bb111;have r115:=r105.l bb111;have b116:=aa b106 bb111;clear q102 q103 r104 r105 b106 bb111 M1;refine hK.out _ _ trivial (fun hS117=> ?_)
    clear hK K;refine wpAnyH_ready (rs:=[3]) (by kernel_rfl) (by simp) ?_;refine AllReadyH.cons rfl (fun K hK=> ?_) AllReadyH.nil
    go_simp
    refine(M2.out _ _ _ b116 r114).mono ?_;rintro zz w118 ⟨rfl,bb119⟩;have q120:=q112.l bb119;have q121:=q113.l bb119;have r122:=r114.l bb119;have r123:=r115.l bb119;have b124:=aa b116 bb119;clear q112 q113 r114 r115 b116 bb119 M2;refine hK.out _ _ trivial (fun hS125=> ?_)
    clear hK K;refine wpAnyH_ready (rs:=[4]) (by kernel_rfl) (by simp) ?_;refine AllReadyH.cons rfl (fun K hK=> ?_) AllReadyH.nil
    have bu:But PQ72 w118 (w118.setCells PQ72 0 (ydL us (yS yo y.n yc) y.e)):=de _ _ _ _;have hth:w118.there PQ72 0 3:=dD q121;have q126:au (w118.setCells PQ72 0 (ydL us (yS yo y.n yc) y.e)) PQ72 35 (ydL us (yS yo y.n yc) y.e):=q121.sets _ rfl;have r127:=bu.rd r122 (of76);have r128:=bu.rd r123 (of77);have q129:=bu.loc q120 (by omega);have b130:=bu.below b124 (by omega);rw[if_pos (by kernel_rfl)];refine wp_store_mid 35 (.tmp 10) (.tmp 66) rfl PQ72 0 (ydA us (yS yo y.n yc) y.e) (by kernel_rfl) (by kernel_rfl) hth (by kernel_rfl) (by simp[Value.oneCell']) ?_;refine hK.out _ _ trivial (fun hS131=> ?_)
    clear hK K;clear q121 r122 r123 q120 b124 bu hth;change wpAnyH _ _ _ _ _ _ _ _ (World.setCells w118 PQ72 0 (ydL us (yS yo y.n yc) y.e));generalize World.setCells w118 PQ72 0 (ydL us (yS yo y.n yc) y.e)=WS132 at q129 q126 r127 r128 b130 hS131⊢;refine wpAnyH_ready (rs:=[5]) (by kernel_rfl) (by simp) ?_;refine AllReadyH.cons rfl (fun K hK=> ?_) AllReadyH.nil
    have bu:But PQ59 WS132 (WS132.setCells PQ59 0 (ydL vs (yS xo x.n xc) x.e)):=de _ _ _ _;have hth:WS132.there PQ59 0 3:=dD q129;have q133:au (WS132.setCells PQ59 0 (ydL vs (yS xo x.n xc) x.e)) PQ59 35 (ydL vs (yS xo x.n xc) x.e):=q129.sets _ rfl;have r134:=bu.rd r127 (of62);have r135:=bu.rd r128 (of63);have q136:=bu.loc q126 (by omega);have b137:=bu.below b130 (by omega);rw[if_pos (by kernel_rfl)];refine wp_store_mid 35 (.tmp 11) (.tmp 68) rfl PQ59 0 (ydA vs (yS xo x.n xc) x.e) (by kernel_rfl) (by kernel_rfl) hth (by kernel_rfl) (by simp[Value.oneCell']) ?_;refine hK.out _ _ trivial (fun hS138=> ?_)
    clear hK K;clear q129 r127 r128 q126 b130 bu hth;refine wpAnyH_done (by kernel_rfl) ?_ _;clear hS0 hS108 hS109 hS117 hS125 hS131 hS138;change Exit.then _ _ _ _ (World.setCells WS132 PQ59 0 (ydL vs (yS xo x.n xc) x.e));generalize World.setCells WS132 PQ59 0 (ydL vs (yS xo x.n xc) x.e)=W139 at q133 q136 r134 r135 b137⊢;simp only[Act.put,List.getElem_toArray,List.getElem_cons_succ,List.getElem_cons_zero];obtain⟨c140,c141,c142⟩:=q136.cs3
    go_wp2_with fail
    refine(HD.out _ _ _ b137 r135).mono ?_;rintro zz w143 ⟨rfl,bb144⟩;have q145:=q133.l bb144;have q146:=q136.l bb144;have r147:=r134.l bb144;have r148:=r135.l bb144;have b149:=aa b137 bb144;clear q133 q136 r134 r135 b137 bb144 HD c140 c141 c142
    go_wp2_with fail
    refine(S1.out _ _ _ _ _ _ _ b149 q146.range q145.range r148 r147).mono ?_;rintro zz w150 ⟨rfl,bb151⟩;have q152:=q145.l bb151;have q153:=q146.l bb151;have r154:=r147.l bb151;have r155:=r148.l bb151;have b156:=aa b149 bb151;clear q145 q146 r147 r148 b149 bb151 S1
    go_wp2_with fail
    refine(S2.out _ _ _ _ _ _ _ b156 q153.range q152.range r155 r154).mono ?_;rintro zz w157 ⟨rfl,bb158⟩;have b159:=aa b156 bb158;clear q152 q153 r154 r155 b156 bb158 S2
    go_wp2
    go_ret
    exact⟨by simp,b159⟩
  ·rw[if_pos (by kernel_rfl)]
   refine wp_yield (ydV true (yS xo x.n xc) x.e) (fy 35 (.tmp 10) rfl PQ72 0 (by kernel_rfl) _ _ q103.range underlying35 rfl (by kernel_rfl)) ?_;refine hK.out _ _ trivial (fun hS108=> ?_)
   clear hK K;refine wpAnyH_ready (rs:=[0]) (by kernel_rfl) (by simp) ?_;refine AllReadyH.cons rfl (fun K hK=> ?_) AllReadyH.nil
   rw[if_pos (by kernel_rfl)];refine wp_yield (ydV y.s (yS yo y.n yc) y.e) (fy 35 (.tmp 11) rfl PQ59 0 (by kernel_rfl) _ _ q102.range underlying35 rfl (by kernel_rfl)) ?_;refine hK.out _ _ trivial (fun hS109=> ?_)
   clear hK K;refine wpAnyH_ready (rs:=[1]) (by kernel_rfl) (by simp) ?_;refine AllReadyH.cons rfl (fun K hK=> ?_) AllReadyH.nil
   go_simp
   refine(M1.out _ _ _ b106 r105).mono ?_;rintro zz w110 ⟨rfl,bb111⟩;have q112:=q102.l bb111;have q113:=q103.l bb111;have r114:=r104.l bb111;have r115:=r105.l bb111;have b116:=aa b106 bb111;clear q102 q103 r104 r105 b106 bb111 M1;refine hK.out _ _ trivial (fun hS117=> ?_)
   clear hK K;refine wpAnyH_ready (rs:=[3]) (by kernel_rfl) (by simp) ?_;refine AllReadyH.cons rfl (fun K hK=> ?_) AllReadyH.nil
   go_simp
   refine(M2.out _ _ _ b116 r114).mono ?_;rintro zz w118 ⟨rfl,bb119⟩;have q120:=q112.l bb119;have q121:=q113.l bb119;have r122:=r114.l bb119;have r123:=r115.l bb119;have b124:=aa b116 bb119;clear q112 q113 r114 r115 b116 bb119 M2;refine hK.out _ _ trivial (fun hS125=> ?_)
   clear hK K;refine wpAnyH_ready (rs:=[4]) (by kernel_rfl) (by simp) ?_;refine AllReadyH.cons rfl (fun K hK=> ?_) AllReadyH.nil
   have bu:But PQ72 w118 (w118.setCells PQ72 0 (ydL us (yS yo y.n yc) y.e)):=de _ _ _ _;have hth:w118.there PQ72 0 3:=dD q121;have q126:au (w118.setCells PQ72 0 (ydL us (yS yo y.n yc) y.e)) PQ72 35 (ydL us (yS yo y.n yc) y.e):=q121.sets _ rfl;have r127:=bu.rd r122 (of76);have r128:=bu.rd r123 (of77);have q129:=bu.loc q120 (by omega);have b130:=bu.below b124 (by omega);rw[if_pos (by kernel_rfl)];refine wp_store_mid 35 (.tmp 10) (.tmp 66) rfl PQ72 0 (ydA us (yS yo y.n yc) y.e) (by kernel_rfl) (by kernel_rfl) hth (by kernel_rfl) (by simp[Value.oneCell']) ?_;refine hK.out _ _ trivial (fun hS131=> ?_)
   clear hK K;clear q121 r122 r123 q120 b124 bu hth;change wpAnyH _ _ _ _ _ _ _ _ (World.setCells w118 PQ72 0 (ydL us (yS yo y.n yc) y.e));generalize World.setCells w118 PQ72 0 (ydL us (yS yo y.n yc) y.e)=WS132 at q129 q126 r127 r128 b130 hS131⊢;refine wpAnyH_ready (rs:=[5]) (by kernel_rfl) (by simp) ?_;refine AllReadyH.cons rfl (fun K hK=> ?_) AllReadyH.nil
   have bu:But PQ59 WS132 (WS132.setCells PQ59 0 (ydL vs (yS xo x.n xc) x.e)):=de _ _ _ _;have hth:WS132.there PQ59 0 3:=dD q129;have q133:au (WS132.setCells PQ59 0 (ydL vs (yS xo x.n xc) x.e)) PQ59 35 (ydL vs (yS xo x.n xc) x.e):=q129.sets _ rfl;have r134:=bu.rd r127 (of62);have r135:=bu.rd r128 (of63);have q136:=bu.loc q126 (by omega);have b137:=bu.below b130 (by omega);rw[if_pos (by kernel_rfl)];refine wp_store_mid 35 (.tmp 11) (.tmp 68) rfl PQ59 0 (ydA vs (yS xo x.n xc) x.e) (by kernel_rfl) (by kernel_rfl) hth (by kernel_rfl) (by simp[Value.oneCell']) ?_;refine hK.out _ _ trivial (fun hS138=> ?_)
   clear hK K;clear q129 r127 r128 q126 b130 bu hth;refine wpAnyH_done (by kernel_rfl) ?_ _;clear hS0 hS108 hS109 hS117 hS125 hS131 hS138;change Exit.then _ _ _ _ (World.setCells WS132 PQ59 0 (ydL vs (yS xo x.n xc) x.e));generalize World.setCells WS132 PQ59 0 (ydL vs (yS xo x.n xc) x.e)=W139 at q133 q136 r134 r135 b137⊢;simp only[Act.put,List.getElem_toArray,List.getElem_cons_succ,List.getElem_cons_zero];obtain⟨c140,c141,c142⟩:=q136.cs3
   go_wp2_with fail
   refine(HD.out _ _ _ b137 r135).mono ?_;rintro zz w143 ⟨rfl,bb144⟩;have q145:=q133.l bb144;have q146:=q136.l bb144;have r147:=r134.l bb144;have r148:=r135.l bb144;have b149:=aa b137 bb144;clear q133 q136 r134 r135 b137 bb144 HD c140 c141 c142
   go_wp2_with fail
   refine(S1.out _ _ _ _ _ _ _ b149 q146.range q145.range r148 r147).mono ?_;rintro zz w150 ⟨rfl,bb151⟩;have q152:=q145.l bb151;have q153:=q146.l bb151;have r154:=r147.l bb151;have r155:=r148.l bb151;have b156:=aa b149 bb151;clear q145 q146 r147 r148 b149 bb151 S1
   go_wp2_with fail
   refine(S2.out _ _ _ _ _ _ _ b156 q153.range q152.range r155 r154).mono ?_;rintro zz w157 ⟨rfl,bb158⟩;have b159:=aa b156 bb158;clear q152 q153 r154 r155 b156 bb158 S2
   go_wp2
   go_ret
   exact⟨by simp,b159⟩
end Go.Proofs.YtiakgfmlpdfhdaaGreatDoor
