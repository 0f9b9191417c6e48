/-
  Texts laid together: Gb8, Gg1, Rk1.
-/
import Derived.Test.YtbdokgamhinajaaGreatDoorSm32
set_option maxRecDepth 100000
set_option maxHeartbeats 3200000
namespace Go.Proofs.YtbdokgamhinajaaGreatDoor
open _root_.Go.Proofs.Tryz
open Go.RowKit
theorem VF (n wy fam R D L G:Int)(gr:Bool)(x:ak)(xo:Option Addr)(xc:Nat)(fl f1 e1:Int)(st:ByteArray)(w:World)
  (HE:yH w 45 #[ykV n wy fam R D L G gr,yvV 1 false yN 0,yi fl] (.tuple #[.string st,yi f1,yi e1])):
  yC 58 #[ykV n wy fam R D L G gr,yOV 1 false x xo xc,yi fl] w (yR w (.tuple #[.string st,yi f1,yi e1])):=by
 replace HE:Hid _:=HE;obtain⟨W4,hW5,q1,q2,b3⟩:=iG w (ykL n wy fam R D L G gr) 69 (yOL 1 false x xo xc) 76;replace hW5:Hid _:=hW5
 go_enter func58,ntmps58
 go_upto_region 1 with fail
 rw[hW5.out];clear hW5;obtain⟨c6,c7,c8,c9,c10,c11,c12,c13⟩:=q1.cs8;have c14:=q2.c 0 rfl;have c15:=q2.c 1 rfl
 go_wp2_with fail
 refine(HE.out _ b3).mono ?_;rintro zz w16 ⟨rfl,bb17⟩;have b18:=aa b3 bb17;clear q1 q2 b3 bb17 HE c6 c7 c8 c9 c10 c11 c12 c13 c14 c15
 go_wp2
 go_ret3
 exact⟨rfl,b18⟩
theorem VG (n wy R D L G:Int)(gr:Bool)(x:ak)(xo:Option Addr)(xc:Nat)(fl f1 e1:Int)(st:ByteArray)(w:World)
  (HE:yH w 45 #[ykV n wy 1 R D L G gr,yvV 1 true yN 0,yi fl] (.tuple #[.string st,yi f1,yi e1])):
  yC 58 #[ykV n wy 1 R D L G gr,yOV 1 true x xo xc,yi fl] w (yR w (.tuple #[.string st,yi f1,yi e1])):=by
 replace HE:Hid _:=HE;obtain⟨W4,hW5,q1,q2,b3⟩:=iG w (ykL n wy 1 R D L G gr) 69 (yOL 1 true x xo xc) 76;replace hW5:Hid _:=hW5
 go_enter func58,ntmps58
 go_upto_region 1 with fail
 rw[hW5.out];clear hW5;obtain⟨c6,c7,c8,c9,c10,c11,c12,c13⟩:=q1.cs8;have c14:=q2.c 0 rfl;have c15:=q2.c 1 rfl
 go_wp2_with fail
 refine(HE.out _ b3).mono ?_;rintro zz w16 ⟨rfl,bb17⟩;have b18:=aa b3 bb17;clear q1 q2 b3 bb17 HE c6 c7 c8 c9 c10 c11 c12 c13 c14 c15
 go_wp2
 go_ret3
 exact⟨rfl,b18⟩
theorem VH (n wy fam R D L G:Int)(gr:Bool)(x:ak)(xo:Option Addr)(xc:Nat)(fl f1 e1:Int)(st:ByteArray)(w:World)(hf:(fam==1)=false)
  (HE:yH w 45 #[ykV n wy fam R D L G gr,yvV 1 false yN 0,yi fl] (.tuple #[.string st,yi f1,yi e1])):
  yC 58 #[ykV n wy fam R D L G gr,yOV 1 true x xo xc,yi fl] w (yR w (.tuple #[.string st,yi f1,yi e1])):=by
 replace HE:Hid _:=HE;obtain⟨W4,hW5,q1,q2,b3⟩:=iG w (ykL n wy fam R D L G gr) 69 (yOL 1 true x xo xc) 76;replace hW5:Hid _:=hW5
 go_enter func58,ntmps58
 go_upto_region 1 with fail
 rw[hW5.out];clear hW5;obtain⟨c6,c7,c8,c9,c10,c11,c12,c13⟩:=q1.cs8;have c14:=q2.c 0 rfl;have c15:=q2.c 1 rfl
 go_wp2_with fail
 refine(HE.out _ b3).mono ?_;rintro zz w16 ⟨rfl,bb17⟩;have b18:=aa b3 bb17;clear q1 q2 b3 bb17 HE c6 c7 c8 c9 c10 c11 c12 c13 c14 c15
 go_wp2
 go_ret3
 exact⟨rfl,b18⟩
theorem Rj (c:Int)(g:Bool)(n wy fam R D L G:Int)(gr:Bool)(x:ak)(xo:Option Addr)(xc:Nat)(fl f1 e1:Int)(st:ByteArray)(w:World)(h2:(c==2)=false)(h1:(c==1)=false)
  (HE:yH w 45 #[ykV n wy fam R D L G gr,yvV c g yN 0,yi fl] (.tuple #[.string st,yi f1,yi e1])):
  yC 58 #[ykV n wy fam R D L G gr,yOV c g x xo xc,yi fl] w (yR w (.tuple #[.string st,yi f1,yi e1])):=by
 replace HE:Hid _:=HE;obtain⟨W4,hW5,q1,q2,b3⟩:=iG w (ykL n wy fam R D L G gr) 69 (yOL c g x xo xc) 76;replace hW5:Hid _:=hW5
 go_enter func58,ntmps58
 go_upto_region 1 with fail
 rw[hW5.out];clear hW5;obtain⟨c6,c7,c8,c9,c10,c11,c12,c13⟩:=q1.cs8;have c14:=q2.c 0 rfl;have c15:=q2.c 1 rfl
 go_wp2_with fail
 refine(HE.out _ b3).mono ?_;rintro zz w16 ⟨rfl,bb17⟩;have b18:=aa b3 bb17;clear q1 q2 b3 bb17 HE c6 c7 c8 c9 c10 c11 c12 c13 c14 c15
 go_wp2
 go_ret3
 exact⟨rfl,b18⟩
theorem adz (x u:ak)(xo:Option Addr)(xc m:Nat)(bl sp ns tw E:Int)(w:World)(h1:IntKind.i64.wrap (bl-128)=sp)(h2: ¬sp≤0)(h3:IntKind.i64.wrap (-sp)=ns)(h4:IntKind.i64.wrap (x.e+sp)=E)
  (HD:yJ 115 #[yDV x xo xc] (yT xo x.n xc))
  (HB: ∀w1,yB w w1→yC 138 #[yT xo x.n xc] w1 fun z w'=>z= .returned (yi bl)∧w'=w1)
  (HT: ∀w1,yB w w1→yC 170 #[yT xo x.n xc] w1 fun z w'=>z= .returned (yi tw)∧w'=w1)
  (HS: ∀w1,yB w w1→yC 130 #[yT xo x.n xc,yi ns] w1 (Num w1 m))
  (HE: ∀mo mc w1,Rd w1 .u32 (yT mo m mc) (Dg.dg 4294967296 m)→yC 140 #[.bool x.s,yT mo m mc,yi E,.bool (decide (tw<sp))] w1 (jN w1 u)):
  yC 144 #[yDV x xo xc,yi 128] w fun z w'=> ∃v,z= .returned (ydV u.s v u.e)∧Rd w' .u32 v (Dg.dg 4294967296 u.n)∧yB w w':=by
 replace HD:Hid _:=HD;replace HB:Hid _:=HB;replace HT:Hid _:=HT;replace HS:Hid _:=HS;replace HE:Hid _:=HE;obtain⟨W4,hW5,q1,q2,b3⟩:=iG w (yDL x xo xc) 74 (ydL false yN 0) 74;replace hW5:Hid _:=hW5
 go_enter func144,ntmps144
 go_upto_region 1 with fail
 rw[hW5.out];clear hW5;obtain⟨c6,c7,c8⟩:=q1.cs3
 go_wp2_with fail
 refine(HD.out _).mono ?_;rintro zz w9 ⟨rfl,bb10⟩;have q11:=q1.l bb10;have q12:=q2.l bb10;have b13:=aa b3 bb10;clear q1 q2 b3 bb10 c6 c7 c8
 go_wp2_with fail
 refine(HB.out _ b13).mono ?_;rintro zz w14 ⟨rfl,rfl⟩
 go_upto_region 4 with fail
 have bW16:yB w14 w14.drew:=(Below.refl _ _).drew;have q17:=q11.l bW16;have q18:=q12.l bW16;have b19:=aa b13 bW16;clear q11 q12 b13 bW16;refine wp_region_held_drew (S:=fun wq=>au wq w.heap.size 74 (yDL x xo xc)) (by kernel_rfl) q17 (fun hS0=> ?_)
 generalize w14.drew=WD20 at q17 q18 b19 hS0⊢;refine tq 0 (.pointer (some ⟨w.heap.size,0,none⟩)) rfl (fun _ _=>by kernel_rfl) hS0 ?_
 refine tq 1 (.pointer (some ⟨w.heap.size,0,none⟩)) rfl (fun _ _=>by kernel_rfl) hS0 ?_
 refine tq 2 (.bool x.s) rfl (fun _ hw0=>gU 4 (.tmp 15) rfl w.heap.size 0 (by kernel_rfl) _ _ underlying4 rfl (hw0.c 0 rfl)) hS0 ?_
 refine tq 3 (yDV x xo xc) rfl (fun _ hw0=>fy 74 (.tmp 2) rfl w.heap.size 0 (by kernel_rfl) _ _ hw0.range underlying74 rfl (by kernel_rfl)) hS0 ?_
 refine tq 5 (yi sp) rfl (fun _ _=>by kernel_rfl) hS0 ?_
 refine tq 6 (yi ns) rfl (fun _ _=>by go_simp) hS0 ?_
 refine tq 8 (.pointer (some ⟨w.heap.size,0,none⟩)) rfl (fun _ _=>by kernel_rfl) hS0 ?_
 refine tq 9 (.pointer (some ⟨w.heap.size,2,none⟩)) rfl (fun _ _=>by kernel_rfl) hS0 ?_
 refine tq 10 (yi x.e) rfl (fun _ hw0=>gU 3 (.tmp 23) rfl w.heap.size 2 (by kernel_rfl) _ _ underlying3 rfl (hw0.c 2 rfl)) hS0 ?_
 refine tq 11 (yi sp) rfl (fun _ _=>by kernel_rfl) hS0 ?_
 refine tq 12 (yi E) rfl (fun _ _=>by go_simp) hS0 ?_
 refine tq 13 (yDV x xo xc) rfl (fun _ hw0=>fy 74 (.tmp 2) rfl w.heap.size 0 (by kernel_rfl) _ _ hw0.range underlying74 rfl (by kernel_rfl)) hS0 ?_
 refine tq 16 (yi sp) rfl (fun _ _=>by kernel_rfl) hS0 ?_
 refine wpAnyH_ready (rs:=[4]) (by kernel_rfl) (by simp) ?_;refine AllReadyH.cons rfl (fun K hK=> ?_) AllReadyH.nil
 go_simp
 refine(HD.out _).mono ?_;rintro zz w21 ⟨rfl,bb22⟩;have q23:=q17.l bb22;have q24:=q18.l bb22;have b25:=aa b19 bb22;clear q17 q18 b19 bb22;refine hK.out _ _ q23 (fun hS26=> ?_)
 clear hK K;refine wpAnyH_ready (rs:=[7]) (by kernel_rfl) (by simp) ?_;refine AllReadyH.cons rfl (fun K hK=> ?_) AllReadyH.nil
 go_simp
 refine(HS.out _ b25).mono ?_;rintro zz w27 ⟨v129,rfl,r130,bb28⟩;have q31:=q23.l bb28;have q32:=q24.l bb28;have b33:=aa b25 bb28;have r34:=r130.rd;obtain⟨mo,mc,hv⟩:=r34.shape;subst hv;clear q23 q24 b25 bb28 r130;refine hK.out _ _ q31 (fun hS35=> ?_)
 clear hK K;refine wpAnyH_ready (rs:=[14]) (by kernel_rfl) (by simp) ?_;refine AllReadyH.cons rfl (fun K hK=> ?_) AllReadyH.nil
 go_simp
 refine(HD.out _).mono ?_;rintro zz w36 ⟨rfl,bb37⟩;have q38:=q31.l bb37;have q39:=q32.l bb37;have r40:=r34.l bb37;have b41:=aa b33 bb37;clear q31 q32 r34 b33 bb37;refine hK.out _ _ q38 (fun hS42=> ?_)
 clear hK K;refine wpAnyH_ready (rs:=[15]) (by kernel_rfl) (by simp) ?_;refine AllReadyH.cons rfl (fun K hK=> ?_) AllReadyH.nil
 go_simp
 refine(HT.out _ b41).mono ?_;rintro zz w43 ⟨rfl,rfl⟩;refine hK.out _ _ q38 (fun hS45=> ?_)
 clear hK K;refine tq 17 (.bool (decide (tw<sp))) rfl (fun _ _=>by go_simp) hS45 ?_
 refine wpAnyH_ready (rs:=[18]) (by kernel_rfl) (by simp) ?_;refine AllReadyH.cons rfl (fun K hK=> ?_) AllReadyH.nil
 go_simp
 refine(HE.out _ _ _ r40).mono ?_;rintro zz w46 ⟨v148,rfl,r149,bb47⟩;have q50:=q38.l bb47;have q51:=q39.l bb47;have r52:=r40.l bb47;have b53:=aa b41 bb47;have r54:=r149.rd;obtain⟨uo,uc,hv⟩:=r54.shape;subst hv;clear q38 q39 r40 b41 bb47 r149;refine hK.out _ _ q50 (fun hS55=> ?_)
 clear hK K;refine wpAnyH_ready (rs:=[19]) (by kernel_rfl) (by simp) ?_;refine AllReadyH.cons rfl (fun K hK=> ?_) AllReadyH.nil
 have bu:But (w.heap.size+1) w46 (w46.setCells (w.heap.size+1) 0 (yDL u uo uc)):=de _ _ _ _;have hth:w46.there (w.heap.size+1) 0 3:=dD q51;have q56:au (w46.setCells (w.heap.size+1) 0 (yDL u uo uc)) (w.heap.size+1) 74 (yDL u uo uc):=q51.sets _ rfl;have r57:=bu.rd r52 (aX r52 q51 (by simp));have r58:=bu.rd r54 (aX r54 q51 (by simp));have q59:=bu.loc q50 (by omega);have b60:=bu.below b53 (by omega);rw[if_pos (by kernel_rfl)];refine wp_store_mid 74 (.tmp 4) (.tmp 32) rfl (w.heap.size+1) 0 (yDA u uo uc) (by kernel_rfl) (by kernel_rfl) hth (by kernel_rfl) (by simp[Value.oneCell']) ?_;refine hK.out _ _ q59 (fun hS61=> ?_)
 clear hK K;clear q51 r52 r54 q50 b53 bu hth;refine wpAnyH_done (by kernel_rfl) ?_ _;clear hS0 hS26 hS35 hS42 hS45 hS55 hS61;change Exit.then _ _ _ _ (World.setCells w46 (w.heap.size+1) 0 (yDL u uo uc));generalize World.setCells w46 (w.heap.size+1) 0 (yDL u uo uc)=W62 at q59 q56 r57 r58 b60⊢;simp only[Act.put,List.getElem_toArray,List.getElem_cons_succ,List.getElem_cons_zero];have hl:=run_loadVar_mid (P:=Tryz.prog) _ (w.heap.size+1) 0 74 (yDL u uo uc) _ q56.range underlying74 rfl (by kernel_rfl)
 go_wp2
 exact bodyPost_ret (br results144 rfl hl) rfl ⟨_,rfl,r58,b60⟩
theorem Rk (n way er:Int)(F m:Nat)(pb:Nat)(w:World)(he:(er==0)=false)
  (HD:yJ 43 #[yi n] (.tuple #[ykV 0 0 0 0 0 0 0 false,yi er])):
  yC 29 #[yi n,yi way,.func (.func F) #[] #[],.slice (some ⟨pb,0,none⟩) m m] w (yR w (.tuple #[.string ⟨#[]⟩,yi 0,yi er])):=by
 replace HD:Hid _:=HD
 go_enter func29,ntmps29
 have b0:=Below.refl w.heap.size w
 go_wp2_with fail
 refine(HD.out _).mono ?_;rintro zz w1 ⟨rfl,bb2⟩;have b3:=aa b0 bb2;clear b0 bb2 HD;obtain⟨W7,hW6,q5,al4⟩:=cA w1 (ykL 0 0 0 0 0 0 0 false) 69;replace hW6:Hid _:=hW6;have hl8:w.heap.size≤w1.heap.size:=b3.size;have b9:=aa b3 al4;clear b3 al4 q5
 go_upto_region 2 with fail
 rw[hW6.out];clear hW6
 go_wp2
 go_ret3
 exact⟨rfl,b9⟩
theorem Rl (er:Int)(n R D L G fam way:Int)(gr:Bool)(F m:Nat)(pb:Nat)(w:World)(he:(er==0)=false)
  (HD:yJ 43 #[yi n] (.tuple #[ykV n 0 fam R D L G gr,yi 0]))
  (HO:yH w 55 #[ykV n 0 fam R D L G gr,.slice (some ⟨pb,0,none⟩) m m] (.tuple #[yN,yi er])):
  yC 29 #[yi n,yi way,.func (.func F) #[] #[],.slice (some ⟨pb,0,none⟩) m m] w (yR w (.tuple #[.string ⟨#[]⟩,yi 0,yi er])):=by
 replace HD:Hid _:=HD;replace HO:Hid _:=HO
 go_enter func29,ntmps29
 have b0:=Below.refl w.heap.size w
 go_wp2_with fail
 refine(HD.out _).mono ?_;rintro zz w1 ⟨rfl,bb2⟩;have b3:=aa b0 bb2;clear b0 bb2 HD;obtain⟨W7,hW6,q5,al4⟩:=cA w1 (ykL n 0 fam R D L G gr) 69;replace hW6:Hid _:=hW6;have hl8:w.heap.size≤w1.heap.size:=b3.size;have b9:=aa b3 al4;clear b3 al4
 go_upto_region 2 with fail
 rw[hW6.out];clear hW6;obtain⟨c10,c11,c12,c13,c14,c15,c16,c17⟩:=q5.cs8
 go_wp2_with fail
 refine(HO.out _ b9).mono ?_;rintro zz w18 ⟨rfl,bb19⟩;have b20:=aa b9 bb19;clear q5 b9 bb19 HO c10 c11 c12 c13 c14 c15 c16 c17
 go_wp2
 go_ret3
 exact⟨rfl,b20⟩
theorem NX (n R D L G fam way:Int)(gr:Bool)(F m:Nat)(ps:List ByteArray)(pb:Nat)(w:World)(hw:way<1)
  (HD:yJ 43 #[yi n] (.tuple #[ykV n 0 fam R D L G gr,yi 0]))
  (HO: ∀w1,yB w w1→yC 55 #[ykV n 0 fam R D L G gr,.slice (some ⟨pb,0,none⟩) m m] w1 fun z w'=> ∃g cap,z= .returned (.tuple #[.slice (some ⟨g,0,none⟩) m cap,yi 0])∧sF w' n ps g cap∧w1.heap.size≤g∧yB w1 w'):
  yC 29 #[yi n,yi way,.func (.func F) #[] #[],.slice (some ⟨pb,0,none⟩) m m] w (yR w (.tuple #[.string ⟨#[]⟩,yi 0,yi 6])):=by
 replace HD:Hid _:=HD;replace HO:Hid _:=HO
 go_enter func29,ntmps29
 have b0:=Below.refl w.heap.size w
 go_wp2_with fail
 refine(HD.out _).mono ?_;rintro zz w1 ⟨rfl,bb2⟩;have b3:=aa b0 bb2;clear b0 bb2 HD;obtain⟨W7,hW6,q5,al4⟩:=cA w1 (ykL n 0 fam R D L G gr) 69;replace hW6:Hid _:=hW6;have hl8:w.heap.size≤w1.heap.size:=b3.size;have b9:=aa b3 al4;clear b3 al4
 go_upto_region 2 with fail
 rw[hW6.out];clear hW6;obtain⟨c10,c11,c12,c13,c14,c15,c16,c17⟩:=q5.cs8;have hq:=q5.lt
 go_wp2_with fail
 refine(HO.out _ b9).mono ?_;rintro zz w18 ⟨g,cap,rfl,r120,hgw,bb19⟩;have b21:=aa b9 bb19;clear q5 b9 bb19 HO c10 c11 c12 c13 c14 c15 c16 c17
 go_wp2
 go_ret3
 exact⟨rfl,b21⟩
theorem NY (n R D L G fam way:Int)(gr:Bool)(F m:Nat)(ps:List ByteArray)(pb:Nat)(w:World)(hw: ¬way<1)(hv:5<way)
  (HD:yJ 43 #[yi n] (.tuple #[ykV n 0 fam R D L G gr,yi 0]))
  (HO: ∀w1,yB w w1→yC 55 #[ykV n 0 fam R D L G gr,.slice (some ⟨pb,0,none⟩) m m] w1 fun z w'=> ∃g cap,z= .returned (.tuple #[.slice (some ⟨g,0,none⟩) m cap,yi 0])∧sF w' n ps g cap∧w1.heap.size≤g∧yB w1 w'):
  yC 29 #[yi n,yi way,.func (.func F) #[] #[],.slice (some ⟨pb,0,none⟩) m m] w (yR w (.tuple #[.string ⟨#[]⟩,yi 0,yi 6])):=by
 replace HD:Hid _:=HD;replace HO:Hid _:=HO
 go_enter func29,ntmps29
 have b0:=Below.refl w.heap.size w
 go_wp2_with fail
 refine(HD.out _).mono ?_;rintro zz w1 ⟨rfl,bb2⟩;have b3:=aa b0 bb2;clear b0 bb2 HD;obtain⟨W7,hW6,q5,al4⟩:=cA w1 (ykL n 0 fam R D L G gr) 69;replace hW6:Hid _:=hW6;have hl8:w.heap.size≤w1.heap.size:=b3.size;have b9:=aa b3 al4;clear b3 al4
 go_upto_region 2 with fail
 rw[hW6.out];clear hW6;obtain⟨c10,c11,c12,c13,c14,c15,c16,c17⟩:=q5.cs8;have hq:=q5.lt
 go_wp2_with fail
 refine(HO.out _ b9).mono ?_;rintro zz w18 ⟨g,cap,rfl,r120,hgw,bb19⟩;have b21:=aa b9 bb19;clear q5 b9 bb19 HO c10 c11 c12 c13 c14 c15 c16 c17
 go_wp2
 go_ret3
 exact⟨rfl,b21⟩
theorem Rm (c f1 e1:Int)(st:ByteArray)(n R D L G way:Int)(gr:Bool)(F m:Nat)(ps:List ByteArray)(pb:Nat)(w:World)(hw: ¬way<1)(hv: ¬5<way)
  (HD:yJ 43 #[yi n] (.tuple #[ykV n 0 1 R D L G gr,yi 0]))
  (HO: ∀w1,yB w w1→yC 55 #[ykV n 0 1 R D L G gr,.slice (some ⟨pb,0,none⟩) m m] w1 fun z w'=> ∃g cap,z= .returned (.tuple #[.slice (some ⟨g,0,none⟩) m cap,yi 0])∧sF w' n ps g cap∧w1.heap.size≤g∧yB w1 w')
  (HX: ∀g cap w1,sF w1 n ps g cap→yC 56 #[.slice (some ⟨g,0,none⟩) m cap] w1 (yR w1 (.bool true)))
  (HN:yJ 59 #[ykV n way 1 R D L G gr,yi 0] (.tuple #[yoV c false false yN 0,yi 0]))
  (HA:yH w 58 #[ykV n way 1 R D L G gr,yoV c false false yN 0,yi 0] (.tuple #[.string st,yi f1,yi e1])):
  yC 29 #[yi n,yi way,.func (.func F) #[] #[],.slice (some ⟨pb,0,none⟩) m m] w (yR w (.tuple #[.string st,yi f1,yi e1])):=by
 replace HD:Hid _:=HD;replace HO:Hid _:=HO;replace HX:Hid _:=HX;replace HN:Hid _:=HN;replace HA:Hid _:=HA
 go_enter func29,ntmps29
 have b0:=Below.refl w.heap.size w
 go_wp2_with fail
 refine(HD.out _).mono ?_;rintro zz w1 ⟨rfl,bb2⟩;have b3:=aa b0 bb2;clear b0 bb2 HD;obtain⟨W7,hW6,q5,al4⟩:=cA w1 (ykL n 0 1 R D L G gr) 69;replace hW6:Hid _:=hW6;have hl8:w.heap.size≤w1.heap.size:=b3.size;have b9:=aa b3 al4;clear b3 al4
 go_upto_region 2 with fail
 rw[hW6.out];clear hW6;obtain⟨c10,c11,c12,c13,c14,c15,c16,c17⟩:=q5.cs8;have hq:=q5.lt
 go_wp2_with fail
 refine(HO.out _ b9).mono ?_;rintro zz w18 ⟨g,cap,rfl,r120,hgw,bb19⟩;have q21:=q5.l bb19;have b22:=aa b9 bb19;clear q5 b9 bb19 HO c10 c11 c12 c13 c14 c15 c16 c17;have bu:=ag w18 w1.heap.size 1 (yi way);have q23:au (w18.setCell ⟨w1.heap.size,1,none⟩ (yi way)) w1.heap.size 69 (ykL n way 1 R D L G gr):=(q21.set 1 (yi way));have c24:=q21.c 1 rfl;have y25:=q21.f 1;have r26:=r120.off bu q21 (by simp) (by omega);have b27:=bu.below b22 (by omega);clear bu
 go_upto_region 10 with fail
 generalize w18.setCell ⟨w1.heap.size,1,none⟩ (yi way)=W28 at q23 r26 b27⊢;clear q21 r120 b22 c24 y25
 go_wp2_with fail
 refine(HX.out _ _ _ r26).mono ?_;rintro zz w29 ⟨rfl,bb30⟩;have q31:=q23.l bb30;have b32:=aa b27 bb30;clear q23 r26 b27 bb30 HX;have c33:=q31.c 2 rfl
 go_upto_region 13 with fail
 clear c33;have bW34:yB w29 w29.drew:=(Below.refl _ _).drew;have q35:=q31.l bW34;have b36:=aa b32 bW34;clear q31 b32 bW34;refine wp_region_held_drew (S:=fun wq=>au wq w1.heap.size 69 (ykL n way 1 R D L G gr)) (by kernel_rfl) q35 (fun hS0=> ?_)
 generalize w29.drew=WD37 at q35 b36 hS0⊢;refine tq 0 (ykV n way 1 R D L G gr) rfl (fun _ hw0=>fy 69 (.tmp 11) rfl w1.heap.size 0 (by kernel_rfl) _ _ hw0.range underlying69 rfl (by kernel_rfl)) hS0 ?_
 refine tq 1 (ykV n way 1 R D L G gr) rfl (fun _ hw0=>fy 69 (.tmp 11) rfl w1.heap.size 0 (by kernel_rfl) _ _ hw0.range underlying69 rfl (by kernel_rfl)) hS0 ?_
 refine wpAnyH_ready (rs:=[2]) (by kernel_rfl) (by simp) ?_;refine AllReadyH.cons rfl (fun K hK=> ?_) AllReadyH.nil
 go_simp
 refine(HN.out _).mono ?_;rintro zz w38 ⟨rfl,bb39⟩;have q40:=q35.l bb39;have b41:=aa b36 bb39;clear q35 b36 bb39 HN;refine hK.out _ _ q40 (fun hS42=> ?_)
 clear hK K;refine tq 3 (yoV c false false yN 0) rfl (fun _ _=>by go_simp) hS42 ?_
 refine tq 4 (yi 0) rfl (fun _ _=>by go_simp) hS42 ?_
 refine wpAnyH_ready (rs:=[5]) (by kernel_rfl) (by simp) ?_;refine AllReadyH.cons rfl (fun K hK=> ?_) AllReadyH.nil
 go_simp
 refine(HA.out _ b41).mono ?_;rintro zz w43 ⟨rfl,bb44⟩;have q45:=q40.l bb44;have b46:=aa b41 bb44;clear q40 b41 bb44 HA;refine hK.out _ _ q45 (fun hS47=> ?_)
 clear hK K;refine tq 6 (.string st) rfl (fun _ _=>by go_simp) hS47 ?_
 refine tq 7 (yi f1) rfl (fun _ _=>by go_simp) hS47 ?_
 refine tq 8 (yi e1) rfl (fun _ _=>by go_simp) hS47 ?_
 refine tq 9 (.string st) rfl (fun _ _=>by kernel_rfl) hS47 ?_
 refine tq 10 (yi f1) rfl (fun _ _=>by kernel_rfl) hS47 ?_
 refine tq 11 (yi e1) rfl (fun _ _=>by kernel_rfl) hS47 ?_
 refine wpAnyH_done (by kernel_rfl) ?_ _;clear hS0 hS42 hS47;simp only[Act.put,List.getElem_toArray,List.getElem_cons_succ,List.getElem_cons_zero,List.setIfInBounds_toArray,List.set_cons_zero,List.set_cons_succ]
 go_wp2
 go_ret3
 exact⟨rfl,b46⟩
theorem Rn (c f1 e1:Int)(st:ByteArray)(n R D L G fam way:Int)(gr:Bool)(F m:Nat)(ps:List ByteArray)(pb:Nat)(w:World)(hw: ¬way<1)(hv: ¬5<way)(hf:(fam==1)=false)
  (HD:yJ 43 #[yi n] (.tuple #[ykV n 0 fam R D L G gr,yi 0]))
  (HO: ∀w1,yB w w1→yC 55 #[ykV n 0 fam R D L G gr,.slice (some ⟨pb,0,none⟩) m m] w1 fun z w'=> ∃g cap,z= .returned (.tuple #[.slice (some ⟨g,0,none⟩) m cap,yi 0])∧sF w' n ps g cap∧w1.heap.size≤g∧yB w1 w')
  (HX: ∀g cap w1,sF w1 n ps g cap→yC 56 #[.slice (some ⟨g,0,none⟩) m cap] w1 (yR w1 (.bool true)))
  (HN:yJ 59 #[ykV n way fam R D L G gr,yi 16] (.tuple #[yoV c false false yN 0,yi 16]))
  (HA:yH w 58 #[ykV n way fam R D L G gr,yoV c false false yN 0,yi 16] (.tuple #[.string st,yi f1,yi e1])):
  yC 29 #[yi n,yi way,.func (.func F) #[] #[],.slice (some ⟨pb,0,none⟩) m m] w (yR w (.tuple #[.string st,yi f1,yi e1])):=by
 replace HD:Hid _:=HD;replace HO:Hid _:=HO;replace HX:Hid _:=HX;replace HN:Hid _:=HN;replace HA:Hid _:=HA
 go_enter func29,ntmps29
 have b0:=Below.refl w.heap.size w
 go_wp2_with fail
 refine(HD.out _).mono ?_;rintro zz w1 ⟨rfl,bb2⟩;have b3:=aa b0 bb2;clear b0 bb2 HD;obtain⟨W7,hW6,q5,al4⟩:=cA w1 (ykL n 0 fam R D L G gr) 69;replace hW6:Hid _:=hW6;have hl8:w.heap.size≤w1.heap.size:=b3.size;have b9:=aa b3 al4;clear b3 al4
 go_upto_region 2 with fail
 rw[hW6.out];clear hW6;obtain⟨c10,c11,c12,c13,c14,c15,c16,c17⟩:=q5.cs8;have hq:=q5.lt
 go_wp2_with fail
 refine(HO.out _ b9).mono ?_;rintro zz w18 ⟨g,cap,rfl,r120,hgw,bb19⟩;have q21:=q5.l bb19;have b22:=aa b9 bb19;clear q5 b9 bb19 HO c10 c11 c12 c13 c14 c15 c16 c17;have bu:=ag w18 w1.heap.size 1 (yi way);have q23:au (w18.setCell ⟨w1.heap.size,1,none⟩ (yi way)) w1.heap.size 69 (ykL n way fam R D L G gr):=(q21.set 1 (yi way));have c24:=q21.c 1 rfl;have y25:=q21.f 1;have r26:=r120.off bu q21 (by simp) (by omega);have b27:=bu.below b22 (by omega);clear bu
 go_upto_region 10 with fail
 generalize w18.setCell ⟨w1.heap.size,1,none⟩ (yi way)=W28 at q23 r26 b27⊢;clear q21 r120 b22 c24 y25
 go_wp2_with fail
 refine(HX.out _ _ _ r26).mono ?_;rintro zz w29 ⟨rfl,bb30⟩;have q31:=q23.l bb30;have b32:=aa b27 bb30;clear q23 r26 b27 bb30 HX;have c33:=q31.c 2 rfl
 go_upto_region 14 with fail
 clear c33;have bW34:yB w29 w29.drew:=(Below.refl _ _).drew;have q35:=q31.l bW34;have b36:=aa b32 bW34;clear q31 b32 bW34;refine wp_region_held_drew (S:=fun wq=>au wq w1.heap.size 69 (ykL n way fam R D L G gr)) (by kernel_rfl) q35 (fun hS0=> ?_)
 generalize w29.drew=WD37 at q35 b36 hS0⊢;refine tq 0 (ykV n way fam R D L G gr) rfl (fun _ hw0=>fy 69 (.tmp 11) rfl w1.heap.size 0 (by kernel_rfl) _ _ hw0.range underlying69 rfl (by kernel_rfl)) hS0 ?_
 refine tq 1 (ykV n way fam R D L G gr) rfl (fun _ hw0=>fy 69 (.tmp 11) rfl w1.heap.size 0 (by kernel_rfl) _ _ hw0.range underlying69 rfl (by kernel_rfl)) hS0 ?_
 refine wpAnyH_ready (rs:=[2]) (by kernel_rfl) (by simp) ?_;refine AllReadyH.cons rfl (fun K hK=> ?_) AllReadyH.nil
 go_simp
 refine(HN.out _).mono ?_;rintro zz w38 ⟨rfl,bb39⟩;have q40:=q35.l bb39;have b41:=aa b36 bb39;clear q35 b36 bb39 HN;refine hK.out _ _ q40 (fun hS42=> ?_)
 clear hK K;refine tq 3 (yoV c false false yN 0) rfl (fun _ _=>by go_simp) hS42 ?_
 refine tq 4 (yi 16) rfl (fun _ _=>by go_simp) hS42 ?_
 refine wpAnyH_ready (rs:=[5]) (by kernel_rfl) (by simp) ?_;refine AllReadyH.cons rfl (fun K hK=> ?_) AllReadyH.nil
 go_simp
 refine(HA.out _ b41).mono ?_;rintro zz w43 ⟨rfl,bb44⟩;have q45:=q40.l bb44;have b46:=aa b41 bb44;clear q40 b41 bb44 HA;refine hK.out _ _ q45 (fun hS47=> ?_)
 clear hK K;refine tq 6 (.string st) rfl (fun _ _=>by go_simp) hS47 ?_
 refine tq 7 (yi f1) rfl (fun _ _=>by go_simp) hS47 ?_
 refine tq 8 (yi e1) rfl (fun _ _=>by go_simp) hS47 ?_
 refine tq 9 (.string st) rfl (fun _ _=>by kernel_rfl) hS47 ?_
 refine tq 10 (yi f1) rfl (fun _ _=>by kernel_rfl) hS47 ?_
 refine tq 11 (yi e1) rfl (fun _ _=>by kernel_rfl) hS47 ?_
 refine wpAnyH_done (by kernel_rfl) ?_ _;clear hS0 hS42 hS47;simp only[Act.put,List.getElem_toArray,List.getElem_cons_succ,List.getElem_cons_zero,List.setIfInBounds_toArray,List.set_cons_zero,List.set_cons_succ]
 go_wp2
 go_ret3
 exact⟨rfl,b46⟩
def LeQ (K:Nat)(N1 M1:Nat)(E1:Int)(N2 M2:Nat)(E2:Int):Prop:=N1*M2*2^ (E1+K).toNat≤N2*M1*2^ (E2+K).toNat
theorem CL (a b:Nat):(2:Nat)^ (a+b)=2^a*2^b:=Nat.pow_add ..
theorem Gx {K N1 M1 N2 M2:Nat}{E1 E2 n:Int}(k1: -(K:Int)≤E1)(k2: -(K:Int)≤E2)(h:LeQ K N1 M1 E1 N2 M2 E2):eZ N1 (E1-n)*dX M2 (E2-n)≤eZ N2 (E2-n)*dX M1 (E1-n):=by
 rw[fw,fw,eM,eM];unfold LeQ at h;have e:(E1-n).toNat+(-(E2-n)).toNat+(E2+K).toNat=(E2-n).toNat+(-(E1-n)).toNat+(E1+K).toNat:=by omega
 have e2:=congrArg (fun x=>(2:Nat)^x) e
 simp only[CL] at e2;have p1:=bG (E1+K).toNat;have p2:=bG (E2+K).toNat;generalize(2:Nat)^ (E1-n).toNat=a at*;generalize(2:Nat)^ (-(E2-n)).toNat=b at*;generalize(2:Nat)^ (E2-n).toNat=c at*;generalize(2:Nat)^ (-(E1-n)).toNat=d at*;generalize(2:Nat)^ (E1+K).toNat=P1 at*;generalize(2:Nat)^ (E2+K).toNat=P2 at*;refine Nat.le_of_mul_le_mul_right (c:=P1*P2) ?_ (Nat.mul_pos p1 p2);have g1:N1*M2*P1*(a*b*P2)≤N2*M1*P2*(a*b*P2):=Nat.mul_le_mul_right _ h;have g2:N1*a*(M2*b)*(P1*P2)=N1*M2*P1*(a*b*P2):=by ac_rfl
 have g3:N2*c*(M1*d)*(P1*P2)=N2*M1*P2*(c*d*P1):=by ac_rfl
 rw[g2,g3,←e2];exact g1
def ut (J:Int)(N1 M1:Nat)(E1:Int)(N2 M2:Nat)(E2:Int):Prop:=
 ∀j,J≤j→eZ N1 (E1-j)/dX M1 (E1-j)=eZ N2 (E2-j)/dX M2 (E2-j)∧(eZ N1 (E1-j) % dX M1 (E1-j)=0↔eZ N2 (E2-j) % dX M2 (E2-j)=0)
theorem ut.trans {J K:Int}{N1 M1 N2 M2 N3 M3:Nat}{E1 E2 E3:Int}(h:ut J N1 M1 E1 N2 M2 E2)(g:ut K N2 M2 E2 N3 M3 E3):ut (max J K) N1 M1 E1 N3 M3 E3:=fun j hj=>by
 obtain⟨a1,a2⟩:=h j (by omega);obtain⟨b1,b2⟩:=g j (by omega);exact⟨a1.trans b1,a2.trans b2⟩
theorem ut.symm {J:Int}{N1 M1 N2 M2:Nat}{E1 E2:Int}(h:ut J N1 M1 E1 N2 M2 E2):ut J N2 M2 E2 N1 M1 E1:=fun j hj=>⟨(h j hj).1.symm,(h j hj).2.symm⟩
theorem ut.mono {J K:Int}{N1 M1 N2 M2:Nat}{E1 E2:Int}(h:ut J N1 M1 E1 N2 M2 E2)(hk:J≤K):ut K N1 M1 E1 N2 M2 E2:=fun j hj=>h j (by omega)
theorem Gk {X Y X' Y':Nat}(hY:0<Y)(hY':0<Y')(h:X*Y'=2*X'*Y):
  X'/Y'=X/Y/2∧(X' % Y'=0↔X/Y % 2=0∧X % Y=0)∧dm ((X' % Y'*2:Nat):Int) Y'=if X/Y % 2=1 then(if X % Y=0 then 0 else 1) else-1:=by
 obtain⟨q,hq⟩: ∃q,X/Y=q:=⟨_,rfl⟩;obtain⟨r,hr⟩: ∃r,X % Y=r:=⟨_,rfl⟩;have hX:X=Y*q+r:=by rw[←hq,←hr];exact(Nat.div_add_mod X Y).symm
 have hrY:r<Y:=by rw[←hr];exact Nat.mod_lt _ hY
 have hb:q % 2<2:=Nat.mod_lt _ (by omega);have hq2:q=2*(q/2)+q % 2:=(Nat.div_add_mod q 2).symm;generalize hA:q/2=a at hq2;generalize hB:q % 2=b at hq2 hb;have e1:2*X'*Y=(Y*(2*a+b)+r)*Y':=by rw[←h,hX,←hq2]
 have hlt:X'<Y'*(a+1):=by
  refine Nat.lt_of_mul_lt_mul_left (a:=2*Y) ?_;have e2:(Y*(2*a+b)+r)*Y'< (2*Y*(a+1))*Y':=by
   refine Nat.mul_lt_mul_of_pos_right ?_ hY';have:Y*(2*a+b)≤Y*(2*a+1):=Nat.mul_le_mul_left _ (by omega);have e3:2*Y*(a+1)=Y*(2*a+1)+Y:=by
    rw[Nat.mul_add,Nat.mul_add,Nat.mul_comm 2 Y,Nat.mul_assoc];omega
   omega
  calc 2*Y*X'=2*X'*Y:=by rw[Nat.mul_assoc,Nat.mul_comm Y X',Nat.mul_assoc]
   _< (2*Y*(a+1))*Y':=by rw[e1];exact e2
   _=2*Y*(Y'*(a+1)):=by rw[Nat.mul_assoc,Nat.mul_comm (a+1) Y']
 have hge:Y'*a≤X':=by
  refine Nat.le_of_mul_le_mul_left (show 2*Y*(Y'*a)≤2*Y*X' from ?_) (by omega)
  have c1:2*Y*(Y'*a)=(Y*(2*a))*Y':=by rw[Nat.mul_comm Y' a,←Nat.mul_assoc,Nat.mul_comm 2 Y,Nat.mul_assoc Y 2 a]
  have c2:Y*(2*a)≤Y*(2*a+b)+r:=Nat.le_trans (Nat.mul_le_mul_left _ (by omega)) (Nat.le_add_right _ _);have c3:(Y*(2*a+b)+r)*Y'=2*Y*X':=by rw[←e1,Nat.mul_assoc,Nat.mul_comm X' Y,Nat.mul_assoc]
  rw[c1,←c3];exact Nat.mul_le_mul_right _ c2
 have hd:X'/Y'=a:=Nat.div_eq_of_lt_le (by rw[Nat.mul_comm];exact hge) (by rw[Nat.mul_comm];exact hlt);obtain⟨r',hr'⟩: ∃r',X' % Y'=r':=⟨_,rfl⟩;have hX':X'=Y'*a+r':=by rw[←hd,←hr'];exact(Nat.div_add_mod X' Y').symm
 have hr'Y:r'<Y':=by rw[←hr'];exact Nat.mod_lt _ hY'
 have e4:2*r'*Y=(b*Y+r)*Y':=by
  have e5:2*(Y'*a+r')*Y=(Y*(2*a+b)+r)*Y':=by rw[←hX'];exact e1
  have e6:2*(Y'*a+r')*Y=2*Y'*a*Y+2*r'*Y:=by rw[Nat.mul_add,Nat.add_mul,←Nat.mul_assoc]
  have e7:(Y*(2*a+b)+r)*Y'=2*Y'*a*Y+(b*Y+r)*Y':=by
   rw[Nat.mul_add,Nat.add_assoc,Nat.add_mul,Nat.mul_comm Y b]
   congr 1
   rw[Nat.mul_comm Y (2*a),Nat.mul_assoc,Nat.mul_comm Y Y',←Nat.mul_assoc,Nat.mul_assoc 2 a Y',Nat.mul_comm a Y',←Nat.mul_assoc]
  omega
 rw[hq,hr,hd,hr',hA,hB];have hb01:b=0∨b=1:=by omega
 refine⟨rfl, ?_, ?_⟩
 ·constructor
  ·intro h0
   subst h0;have:(b*Y+r)*Y'=0:=by rw[←e4];simp
   have h2:b*Y+r=0:=by
    rcases Nat.mul_eq_zero.1 this with h|h
    ·exact h
    ·omega
   rcases hb01 with rfl|rfl
   ·exact⟨rfl,by omega⟩
   ·omega
  ·rintro⟨rfl,rfl⟩
   have:2*r'*Y=0:=by rw[e4];simp
   rcases Nat.mul_eq_zero.1 this with h|h<;>omega
 ·unfold dm
  rcases hb01 with rfl|rfl
  ·rw[if_neg (show¬(0:Nat)=1 by omega)]
   have:r'*2<Y':=by
    refine Nat.lt_of_mul_lt_mul_right (a:=Y) ?_;rw[Nat.mul_comm r' 2,e4,Nat.zero_mul,Nat.zero_add,Nat.mul_comm Y' Y];exact Nat.mul_lt_mul_of_pos_right hrY hY'
   rw[if_pos (by omega)]
  ·rw[if_pos (show(1:Nat)=1 from rfl)]
   rw[Nat.one_mul] at e4
   by_cases h0:r=0
   ·rw[if_pos h0]
    subst h0;have:r'*2=Y':=by
     refine Nat.eq_of_mul_eq_mul_right hY ?_;rw[Nat.mul_comm r' 2,e4,Nat.add_zero,Nat.mul_comm]
    rw[if_neg (by omega),if_neg (by omega)]
   ·rw[if_neg h0]
    have:Y'<r'*2:=by
     refine Nat.lt_of_mul_lt_mul_right (a:=Y) ?_;rw[Nat.mul_comm r' 2,e4,Nat.mul_comm Y' Y];exact Nat.mul_lt_mul_of_pos_right (by omega) hY'
    rw[if_neg (by omega),if_pos (by omega)]
theorem jO {M:Nat}(h:M≠0)(n:Int):0<dX M n:=by
 rw[eM];exact Nat.mul_pos (by omega) (bG _)
theorem NH (N M:Nat)(n:Int):eZ N (n+1)*dX M n=2*eZ N n*dX M (n+1):=by
 rw[fw,fw,eM,eM]
 by_cases h:0≤n
 ·rw[show(-n).toNat=0 from by omega,show(-(n+1)).toNat=0 from by omega,show(n+1).toNat=n.toNat+1 from by omega,Nat.pow_succ]
  simp only[Nat.pow_zero,Nat.mul_one];rw[←Nat.mul_assoc N,Nat.mul_comm _ 2,←Nat.mul_assoc 2,Nat.mul_assoc 2]
 ·rw[show n.toNat=0 from by omega,show(n+1).toNat=0 from by omega,show(-n).toNat=(-(n+1)).toNat+1 from by omega,Nat.pow_succ]
  simp only[Nat.pow_zero,Nat.mul_one];rw[←Nat.mul_assoc M,←Nat.mul_assoc N,Nat.mul_comm _ 2,←Nat.mul_assoc 2]
theorem QX {R D L G:Int}{gr qs:Bool}{N1 M1 N2 M2:Nat}{E1 E2 way:Int}(m1:M1≠0)(m2:M2≠0)(ht:dY N1 M1 E1=dY N2 M2 E2)
  (h1:eZ N1 (E1-((ai R:Int)*dj R D L gr N1 M1 E1-1))/dX M1 (E1-((ai R:Int)*dj R D L gr N1 M1 E1-1))=eZ N2 (E2-((ai R:Int)*dj R D L gr N1 M1 E1-1))/dX M2 (E2-((ai R:Int)*dj R D L gr N1 M1 E1-1)))
  (h2:eZ N1 (E1-((ai R:Int)*dj R D L gr N1 M1 E1-1)) % dX M1 (E1-((ai R:Int)*dj R D L gr N1 M1 E1-1))=0↔eZ N2 (E2-((ai R:Int)*dj R D L gr N1 M1 E1-1)) % dX M2 (E2-((ai R:Int)*dj R D L gr N1 M1 E1-1))=0):
  cI R D L G gr qs N1 M1 E1 way=cI R D L G gr qs N2 M2 E2 way:=by
 have hc:dj R D L gr N2 M2 E2=dj R D L gr N1 M1 E1:=by unfold dj;rw[ht]
 obtain⟨c,hC⟩: ∃c,(ai R:Int)*dj R D L gr N1 M1 E1=c:=⟨_,rfl⟩;have s1:=Gk (jO m1 (E1-c+1)) (jO m1 (E1-c)) (NH N1 M1 (E1-c));have s2:=Gk (jO m2 (E2-c+1)) (jO m2 (E2-c)) (NH N2 M2 (E2-c));rw[hC,show E1-(c-1)=E1-c+1 from by omega,show E2-(c-1)=E2-c+1 from by omega] at h1 h2
 rw[h1] at s1;have hz: ∀x:Int,(if eZ N1 (E1-c+1) % dX M1 (E1-c+1)=0 then(0:Int) else x)=if eZ N2 (E2-c+1) % dX M2 (E2-c+1)=0 then 0 else x:=fun x=>by
  by_cases g:eZ N1 (E1-c+1) % dX M1 (E1-c+1)=0
  ·rw[if_pos g,if_pos (h2.1 g)]
  ·rw[if_neg g,if_neg (fun k=>g (h2.2 k))]
 have w:cH R D L gr N1 M1 E1=cH R D L gr N2 M2 E2:=by
  unfold cH shP;rw[hc,hC,s1.1,s2.1]
 have l:(gF R D L gr N1 M1 E1=0)=(gF R D L gr N2 M2 E2=0):=by
  unfold gF shP;rw[hc,hC];refine propext (s1.2.1.trans (Iff.trans ?_ s2.2.1.symm));rw[h2]
 have l':decide (gF R D L gr N1 M1 E1=0)=decide (gF R D L gr N2 M2 E2=0):=by simp only[l]
 have g:rf R D L gr qs N1 M1 E1 way=rf R D L gr qs N2 M2 E2 way:=by
  unfold rf;rw[w];have k1:=s1.2.2;have k2:=s2.2.2;rw[hz] at k1;unfold gF shP;rw[hc,hC,k1,k2]
 have d:fM R D L gr qs N1 M1 E1 way=fM R D L gr qs N2 M2 E2 way:=by
  unfold fM;rw[w,g,l']
 unfold cI;rw[d,l',ht,hc]
theorem Zv {J:Int}{N1 M1 N2 M2:Nat}{E1 E2:Int}(n1:N1≠0)(m1:M1≠0)(n2:N2≠0)(m2:M2≠0)(h:ut J N1 M1 E1 N2 M2 E2)(hJ:J≤dY N1 M1 E1):dY N1 M1 E1=dY N2 M2 E2:=by
 have key: ∀{N M:Nat} {E:Int} (i:Int),N≠0→M≠0→(1≤eZ N (E-i)/dX M (E-i)↔i≤dY N M E):=fun {N M E} i hN hM=>by
  have:=BD N M (E-i) 0 hN hM;rw[qD N M E];rw[Nat.pow_zero] at this
  constructor
  ·intro g;have:=this.1 g;omega
  ·intro g;exact this.2 (by omega)
 have a1:=(key (E:=E1) (dY N1 M1 E1) n1 m1).2 (Int.le_refl _);have a2:=fun g=>(key (E:=E1) (dY N1 M1 E1+1) n1 m1).1 g
 rw[(h _ hJ).1] at a1;have b1:=(key (E:=E2) _ n2 m2).1 a1;have b2: ¬dY N1 M1 E1+1≤dY N2 M2 E2:=fun g=>by
  have:=(key (E:=E2) _ n2 m2).2 g;rw[←(h _ (by omega)).1] at this;have:=a2 this;omega
 omega
theorem AC {R D L G J:Int}{gr qs:Bool}{N1 M1 N2 M2:Nat}{E1 E2 way:Int}(n1:N1≠0)(m1:M1≠0)(n2:N2≠0)(m2:M2≠0)(hD:1≤D)(hw:ai R*D.toNat≤64)(h:ut J N1 M1 E1 N2 M2 E2)(hJ:J+64≤dY N1 M1 E1):
  cI R D L G gr qs N1 M1 E1 way=cI R D L G gr qs N2 M2 E2 way:=by
 have hc:J≤(ai R:Int)*dj R D L gr N1 M1 E1-1:=by
  have h1:aT R D (dY N1 M1 E1)≤dj R D L gr N1 M1 E1:=by
   unfold dj
   split
   ·rename_i g
    simp at g;omega
   ·omega
  have h2:(ai R:Int)*aT R D (dY N1 M1 E1)≤(ai R:Int)*dj R D L gr N1 M1 E1:=Int.mul_le_mul_of_nonneg_left h1 (by omega);have h3:dY N1 M1 E1-63≤(ai R:Int)*aT R D (dY N1 M1 E1):=by
   unfold aT;have hw1:=eN R;have e:=Int.mul_ediv_add_emod (dY N1 M1 E1) (ai R);have l:=Int.emod_lt_of_pos (dY N1 M1 E1) (b:=(ai R:Int)) (by omega);rw[Int.mul_sub];have hd:((ai R*D.toNat:Nat):Int)=(ai R:Int)*D:=by rw[Int.natCast_mul,Int.toNat_of_nonneg (by omega)]
   rw[Int.mul_sub,Int.mul_one];omega
  omega
 obtain⟨g1,g2⟩:=h _ hc;exact QX m1 m2 (Zv n1 m1 n2 m2 h (by omega)) g1 g2
theorem qG {X1 Y1 X2 Y2:Nat}(h1:0<Y1)(h2:0<Y2)(h:X1*Y2=X2*Y1):X1/Y1=X2/Y2∧(X1 % Y1=0↔X2 % Y2=0):=by
 have key: ∀{X1 Y1 X2 Y2:Nat},0<Y1→0<Y2→X1*Y2=X2*Y1→X2/Y2≤X1/Y1∧(X2 % Y2=0→X1 % Y1=0):=fun {X1 Y1 X2 Y2} h1 h2 h=>by
  refine⟨?_,fun g=> ?_⟩
  ·refine(Nat.le_div_iff_mul_le h1).2 ?_
   refine Nat.le_of_mul_le_mul_right ?_ h2;rw[h,Nat.mul_assoc,Nat.mul_comm Y1 Y2,←Nat.mul_assoc];exact Nat.mul_le_mul_right _ (Nat.div_mul_le_self X2 Y2)
  ·obtain⟨k,hk⟩:=Nat.dvd_of_mod_eq_zero g
   have:X1=Y1*k:=by
    refine Nat.eq_of_mul_eq_mul_right h2 ?_;rw[h,hk,Nat.mul_assoc,Nat.mul_comm k Y1,Nat.mul_comm Y2,Nat.mul_assoc]
   rw[this];exact Nat.mul_mod_right _ _
 have a:=key h1 h2 h;have b:=key h2 h1 h.symm;exact⟨Nat.le_antisymm b.1 a.1,b.2,a.2⟩
theorem aep {N1 M1 N2 M2:Nat}{E1 E2:Int}(K:Nat)(m1:M1≠0)(m2:M2≠0)(k1: -(K:Int)≤E1)(k2: -(K:Int)≤E2)(h:N1*M2*2^ (E1+K).toNat=N2*M1*2^ (E2+K).toNat)(J:Int):ut J N1 M1 E1 N2 M2 E2:=fun j _=>by
 refine qG (jO m1 _) (jO m2 _) (Nat.le_antisymm ?_ ?_)
 ·exact Gx k1 k2 (show LeQ K N1 M1 E1 N2 M2 E2 from Nat.le_of_eq h)
 ·exact Gx k2 k1 (show LeQ K N2 M2 E2 N1 M1 E1 from Nat.le_of_eq h.symm)
theorem NI {M d x y:Nat}(hM:M≠0)(e:x=M*y):M*2^d∣x↔2^d∣y:=by
 subst e
 constructor
 ·rintro⟨k,hk⟩
  refine⟨k,Nat.eq_of_mul_eq_mul_left (by omega:0<M) ?_⟩;rw[hk,Nat.mul_assoc]
 ·rintro⟨k,rfl⟩
  exact⟨k,by rw[Nat.mul_assoc]⟩
theorem vP (N M sh:Nat)(E:Int)(s left:Bool)(hM:M≠0)(hl:left=decide (0<N*2^sh % M)):ut (E-sh) N M E (d8 s (N*2^sh/M) (E-sh) left).n 1 (d8 s (N*2^sh/M) (E-sh) left).e:=fun j hj=>by
 obtain⟨d,hd⟩: ∃d:Nat,j=E-sh+d:=⟨(j-(E-sh)).toNat,by omega⟩;subst hd;have c1:=qG (X1:=eZ N (E-(E-sh+d))) (Y1:=dX M (E-(E-sh+d))) (X2:=N*2^sh) (Y2:=M*2^d) (jO hM _) (Nat.mul_pos (by omega) (bG _)) (by
  rw[fw,eM]
  by_cases g:(d:Int)≤sh
  ·rw[show(E-(E-(sh:Int)+(d:Int))).toNat=sh-d from by omega,show(-(E-(E-(sh:Int)+(d:Int)))).toNat=0 from by omega,Nat.pow_zero,Nat.mul_one]
   rw[Nat.mul_assoc,Nat.mul_assoc,Nat.mul_comm M (2^d),←Nat.mul_assoc (2^ (sh-d)),←Nat.pow_add,show sh-d+d=sh from by omega]
  ·rw[show(E-(E-(sh:Int)+(d:Int))).toNat=0 from by omega,show(-(E-(E-(sh:Int)+(d:Int)))).toNat=d-sh from by omega,Nat.pow_zero,Nat.mul_one]
   rw[Nat.mul_assoc N,Nat.mul_comm (2^sh),Nat.mul_assoc M,←Nat.pow_add,show d-sh+sh=d from by omega])
 have hsh:N*2^sh/(M*2^d)=N*2^sh/M/2^d:=(Nat.div_div_eq_div_mul ..).symm;have c2:eZ (d8 s (N*2^sh/M) (E-sh) left).n ((d8 s (N*2^sh/M) (E-sh) left).e-(E-sh+d))=N*2^sh/M*2+(if left=true then 1 else 0):=by
  rw[fw]
  show(N*2^sh/M*2+(if left=true then 1 else 0))*2^ (E-(sh:Int)-1-(E-(sh:Int)+(d:Int))).toNat=_
  rw[show(E-(sh:Int)-1-(E-(sh:Int)+(d:Int))).toNat=0 from by omega,Nat.pow_zero,Nat.mul_one]
 have c3:dX 1 ((d8 s (N*2^sh/M) (E-sh) left).e-(E-sh+d))=2*2^d:=by
  rw[eM]
  show 1*2^ (-(E-(sh:Int)-1-(E-(sh:Int)+(d:Int)))).toNat=_
  rw[show(-(E-(sh:Int)-1-(E-(sh:Int)+(d:Int)))).toNat=d+1 from by omega,Nat.pow_succ,Nat.one_mul,Nat.mul_comm]
 rw[c1.1,c2,c3,hsh];obtain⟨q,hq⟩: ∃q,N*2^sh/M=q:=⟨_,rfl⟩;have hdm:=Nat.div_add_mod (N*2^sh) M;rw[hq] at hdm⊢;have hbit:(q*2+(if left=true then 1 else 0))/2=q:=by cases left<;>simp<;>omega
 refine⟨by rw[←Nat.div_div_eq_div_mul,hbit],c1.2.trans ?_⟩;have e2: ∀x y:Nat,x % y=0↔y∣x:=fun x y=>⟨Nat.dvd_of_mod_eq_zero,Nat.mod_eq_zero_of_dvd⟩
 by_cases h0:N*2^sh % M=0
 ·rw[h0,Nat.add_zero] at hdm
  have hlf:left=false:=by rw[hl,h0];rfl
  subst hlf;rw[e2,e2,NI hM hdm.symm];simp only[Bool.false_eq_true,if_false,Nat.add_zero];rw[Nat.mul_comm q 2]
  constructor
  ·rintro⟨k,hk⟩
   exact⟨k,by rw[hk,Nat.mul_assoc]⟩
  ·rintro⟨k,hk⟩
   exact⟨k,by rw[Nat.mul_assoc] at hk;omega⟩
 ·have hlf:left=true:=by rw[hl];simp;omega
  subst hlf;rw[e2,e2]
  constructor
  ·rintro⟨k,hk⟩
   exfalso
   refine h0 (Nat.mod_eq_zero_of_dvd ⟨2^d*k, ?_⟩);rw[hk,Nat.mul_assoc]
  ·rintro⟨k,hk⟩
   simp only[if_true] at hk;rw[Nat.mul_assoc] at hk;omega
end Go.Proofs.YtbdokgamhinajaaGreatDoor
