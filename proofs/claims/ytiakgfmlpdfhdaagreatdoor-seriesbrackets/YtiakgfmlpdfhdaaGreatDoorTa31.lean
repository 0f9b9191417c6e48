/-
  Texts laid together: Se1, Long2.
-/
import Derived.Test.YtiakgfmlpdfhdaaGreatDoorTa13
import Derived.Test.YtiakgfmlpdfhdaaGreatDoorTa15
set_option maxRecDepth 100000
set_option maxHeartbeats 3200000
namespace Go.Proofs.YtiakgfmlpdfhdaaGreatDoor
open _root_.Go.Proofs.Tryz
open Go.RowKit
theorem spanTimes_W (a b p q:ak)(ao bo po qo:Option Addr)(ac bc pc qc:Nat)(x0 x1 x2 x3 x y:ak)(w:World)
  (H0: ∀w1,yB w w1→yC 40 #[yDV a ao ac,yDV p po pc] w1 (Lx w1 x0))
  (H1: ∀w1,yB w w1→yC 40 #[yDV a ao ac,yDV q qo qc] w1 (Lx w1 x1))
  (H2: ∀w1,yB w w1→yC 40 #[yDV b bo bc,yDV p po pc] w1 (Lx w1 x2))
  (H3: ∀w1,yB w w1→yC 40 #[yDV b bo bc,yDV q qo qc] w1 (Lx w1 x3))
  (HA: ∀pb x0o x1o x2o x3o x0c x1c x2c x3c w1,yB w w1→au w1 pb 54 [.bool x0.s,yT x0o x0.n x0c,yi x0.e,.bool x1.s,yT x1o x1.n x1c,yi x1.e,.bool x2.s,yT x2o x2.n x2c,yi x2.e,.bool x3.s,yT x3o x3.n x3c,yi x3.e]→Rd w1 .u32 (yT x0o x0.n x0c) (Dg.dg 4294967296 x0.n)→Rd w1 .u32 (yT x1o x1.n x1c) (Dg.dg 4294967296 x1.n)→Rd w1 .u32 (yT x2o x2.n x2c) (Dg.dg 4294967296 x2.n)→Rd w1 .u32 (yT x3o x3.n x3c) (Dg.dg 4294967296 x3.n)→yC 89 #[.slice (some ⟨pb,0,none⟩) 4 4] w1 (aeT w1 x y)):
  yC 81 #[.agg #[.bool a.s,yT ao a.n ac,yi a.e,.bool b.s,yT bo b.n bc,yi b.e],.agg #[.bool p.s,yT po p.n pc,yi p.e,.bool q.s,yT qo q.n qc,yi q.e]] w (aeT w x y):=by
 replace H0:Hid _:=H0;replace H1:Hid _:=H1;replace H2:Hid _:=H2;replace H3:Hid _:=H3;replace HA:Hid _:=HA;obtain⟨W5,hW6,q1,q2,q3,b4⟩:=lG w [.bool a.s,yT ao a.n ac,yi a.e,.bool b.s,yT bo b.n bc,yi b.e] 57 [.bool p.s,yT po p.n pc,yi p.e,.bool q.s,yT qo q.n qc,yi q.e] 57 [.bool false,yN,yi 0,.bool false,yN,yi 0] 57;replace hW6:Hid _:=hW6
 go_enter func81,ntmps81
 go_upto_region 1 with fail
 rw[hW6.out];clear hW6
 go_upto_region 1 with fail
 have bW7:yB W5 W5.drew:=(Below.refl _ _).drew;have q8:=q1.l bW7;have q9:=q2.l bW7;have q10:=q3.l bW7;have b11:=aa b4 bW7;clear q1 q2 q3 b4 bW7;refine wp_region_held_drew (S:=fun wq=>au wq w.heap.size 57 [.bool a.s,yT ao a.n ac,yi a.e,.bool b.s,yT bo b.n bc,yi b.e]∧au wq (w.heap.size+1) 57 [.bool p.s,yT po p.n pc,yi p.e,.bool q.s,yT qo q.n qc,yi q.e]) (by kernel_rfl) ⟨q8,q9⟩ (fun hS0=> ?_)
 generalize W5.drew=WD12 at q8 q9 q10 b11 hS0⊢;refine tq 0 (.pointer (some ⟨w.heap.size,0,none⟩)) rfl (fun _ _=>by kernel_rfl) hS0 ?_
 refine tq 1 (yDV a ao ac) rfl (fun _ hw0=>fy 54 (.tmp 5) rfl w.heap.size 0 (by kernel_rfl) _ _ (kY hw0.1 0 3 rfl) underlying54 rfl (by kernel_rfl)) hS0 ?_
 refine tq 2 (.pointer (some ⟨w.heap.size+1,0,none⟩)) rfl (fun _ _=>by kernel_rfl) hS0 ?_
 refine tq 3 (yDV p po pc) rfl (fun _ hw0=>fy 54 (.tmp 7) rfl (w.heap.size+1) 0 (by kernel_rfl) _ _ (kY hw0.2 0 3 rfl) underlying54 rfl (by kernel_rfl)) hS0 ?_
 refine tq 5 (.pointer (some ⟨w.heap.size,0,none⟩)) rfl (fun _ _=>by kernel_rfl) hS0 ?_
 refine tq 6 (yDV a ao ac) rfl (fun _ hw0=>fy 54 (.tmp 10) rfl w.heap.size 0 (by kernel_rfl) _ _ (kY hw0.1 0 3 rfl) underlying54 rfl (by kernel_rfl)) hS0 ?_
 refine tq 7 (.pointer (some ⟨w.heap.size+1,3,none⟩)) rfl (fun _ _=>by kernel_rfl) hS0 ?_
 refine tq 8 (yDV q qo qc) rfl (fun _ hw0=>fy 54 (.tmp 12) rfl (w.heap.size+1) 3 (by kernel_rfl) _ _ (kY hw0.2 3 3 rfl) underlying54 rfl (by kernel_rfl)) hS0 ?_
 refine tq 10 (.pointer (some ⟨w.heap.size,3,none⟩)) rfl (fun _ _=>by kernel_rfl) hS0 ?_
 refine tq 11 (yDV b bo bc) rfl (fun _ hw0=>fy 54 (.tmp 15) rfl w.heap.size 3 (by kernel_rfl) _ _ (kY hw0.1 3 3 rfl) underlying54 rfl (by kernel_rfl)) hS0 ?_
 refine tq 12 (.pointer (some ⟨w.heap.size+1,0,none⟩)) rfl (fun _ _=>by kernel_rfl) hS0 ?_
 refine tq 13 (yDV p po pc) rfl (fun _ hw0=>fy 54 (.tmp 17) rfl (w.heap.size+1) 0 (by kernel_rfl) _ _ (kY hw0.2 0 3 rfl) underlying54 rfl (by kernel_rfl)) hS0 ?_
 refine tq 15 (.pointer (some ⟨w.heap.size,3,none⟩)) rfl (fun _ _=>by kernel_rfl) hS0 ?_
 refine tq 16 (yDV b bo bc) rfl (fun _ hw0=>fy 54 (.tmp 20) rfl w.heap.size 3 (by kernel_rfl) _ _ (kY hw0.1 3 3 rfl) underlying54 rfl (by kernel_rfl)) hS0 ?_
 refine tq 17 (.pointer (some ⟨w.heap.size+1,3,none⟩)) rfl (fun _ _=>by kernel_rfl) hS0 ?_
 refine tq 18 (yDV q qo qc) rfl (fun _ hw0=>fy 54 (.tmp 22) rfl (w.heap.size+1) 3 (by kernel_rfl) _ _ (kY hw0.2 3 3 rfl) underlying54 rfl (by kernel_rfl)) hS0 ?_
 refine wpAnyH_ready (rs:=[4]) (by kernel_rfl) (by simp) ?_;refine AllReadyH.cons rfl (fun K hK=> ?_) AllReadyH.nil
 go_simp
 refine(H0.out _ b11).mono ?_;rintro zz w13 ⟨v1x15,rfl,r1x16,bb14⟩;have q17:=q8.l bb14;have q18:=q9.l bb14;have q19:=q10.l bb14;have b20:=aa b11 bb14;obtain⟨x0o,x0c,hv⟩:=r1x16.shape;subst hv;clear q8 q9 q10 b11 bb14 H0;refine hK.out _ _ ⟨q17,q18⟩ (fun hS21=> ?_)
 clear hK K;refine wpAnyH_ready (rs:=[9]) (by kernel_rfl) (by simp) ?_;refine AllReadyH.cons rfl (fun K hK=> ?_) AllReadyH.nil
 go_simp
 refine(H1.out _ b20).mono ?_;rintro zz w22 ⟨v1x24,rfl,r1x25,bb23⟩;have q26:=q17.l bb23;have q27:=q18.l bb23;have q28:=q19.l bb23;have r29:=r1x16.l bb23;have b30:=aa b20 bb23;obtain⟨x1o,x1c,hv⟩:=r1x25.shape;subst hv;clear q17 q18 q19 r1x16 b20 bb23 H1;refine hK.out _ _ ⟨q26,q27⟩ (fun hS31=> ?_)
 clear hK K;refine wpAnyH_ready (rs:=[14]) (by kernel_rfl) (by simp) ?_;refine AllReadyH.cons rfl (fun K hK=> ?_) AllReadyH.nil
 go_simp
 refine(H2.out _ b30).mono ?_;rintro zz w32 ⟨v1x34,rfl,r1x35,bb33⟩;have q36:=q26.l bb33;have q37:=q27.l bb33;have q38:=q28.l bb33;have r39:=r29.l bb33;have r40:=r1x25.l bb33;have b41:=aa b30 bb33;obtain⟨x2o,x2c,hv⟩:=r1x35.shape;subst hv;clear q26 q27 q28 r29 r1x25 b30 bb33 H2;refine hK.out _ _ ⟨q36,q37⟩ (fun hS42=> ?_)
 clear hK K;refine wpAnyH_ready (rs:=[19]) (by kernel_rfl) (by simp) ?_;refine AllReadyH.cons rfl (fun K hK=> ?_) AllReadyH.nil
 go_simp
 refine(H3.out _ b41).mono ?_;rintro zz w43 ⟨v1x45,rfl,r1x46,bb44⟩;have q47:=q36.l bb44;have q48:=q37.l bb44;have q49:=q38.l bb44;have r50:=r39.l bb44;have r51:=r40.l bb44;have r52:=r1x35.l bb44;have b53:=aa b41 bb44;obtain⟨x3o,x3c,hv⟩:=r1x46.shape;subst hv;clear q36 q37 q38 r39 r40 r1x35 b41 bb44 H3;refine hK.out _ _ ⟨q47,q48⟩ (fun hS54=> ?_)
 clear hK K;refine wpAnyH_ready (rs:=[20]) (by kernel_rfl) (by simp) ?_;refine AllReadyH.cons rfl (fun K hK=> ?_) AllReadyH.nil
 go_simp
 have al55:=af w43 (.cells #[.bool x0.s,yT x0o x0.n x0c,yi x0.e,.bool x1.s,yT x1o x1.n x1c,yi x1.e,.bool x2.s,yT x2o x2.n x2c,yi x2.e,.bool x3.s,yT x3o x3.n x3c,yi x3.e] 54);have q56:=ah w43 [.bool x0.s,yT x0o x0.n x0c,yi x0.e,.bool x1.s,yT x1o x1.n x1c,yi x1.e,.bool x2.s,yT x2o x2.n x2c,yi x2.e,.bool x3.s,yT x3o x3.n x3c,yi x3.e] 54;have hl59:w.heap.size≤w43.heap.size:=b53.size;have hl60:=q47.lt;have hl61:=q48.lt;have hl62:=q49.lt;have q63:=q47.l al55;have q64:=q48.l al55;have q65:=q49.l al55;have r66:=r50.l al55;have r67:=r51.l al55;have r68:=r52.l al55;have r69:=r1x46.l al55;have b70:=aa b53 al55;refine hK.out _ _ ⟨q63,q64⟩ (fun hS71=> ?_)
 clear hK K;clear q47 q48 q49 r50 r51 r52 r1x46 b53 al55;generalize w43.alloc (.cells #[.bool x0.s,yT x0o x0.n x0c,yi x0.e,.bool x1.s,yT x1o x1.n x1c,yi x1.e,.bool x2.s,yT x2o x2.n x2c,yi x2.e,.bool x3.s,yT x3o x3.n x3c,yi x3.e] 54)=WN57 at q63 q64 q65 q56 r66 r67 r68 r69 b70 hS71⊢;generalize w43.heap.size=PQ58 at q56 hl59 hl60 hl61 hl62⊢;refine wpAnyH_ready (rs:=[21]) (by kernel_rfl) (by simp) ?_;refine AllReadyH.cons rfl (fun K hK=> ?_) AllReadyH.nil
 go_simp
 refine(HA.out _ _ _ _ _ _ _ _ _ _ b70 q56 r66 r67 r68 r69).mono ?_;rintro zz w72 ⟨v1x74,v2x75,rfl,r1x76,r2x77,bb73⟩;have q78:=q63.l bb73;have q79:=q64.l bb73;have q80:=q65.l bb73;have r81:=r66.l bb73;have r82:=r67.l bb73;have r83:=r68.l bb73;have r84:=r69.l bb73;have b85:=aa b70 bb73;obtain⟨xo,xc,hv⟩:=r1x76.shape;subst hv;obtain⟨yo,yc,hv⟩:=r2x77.shape;subst hv;clear q63 q64 q65 q56 r66 r67 r68 r69 b70 bb73 HA;refine hK.out _ _ ⟨q78,q79⟩ (fun hS86=> ?_)
 clear hK K;refine wpAnyH_ready (rs:=[22]) (by kernel_rfl) (by simp) ?_;refine AllReadyH.cons rfl (fun K hK=> ?_) AllReadyH.nil
 have bu:But (w.heap.size+1+1) w72 (w72.setCells (w.heap.size+1+1) 0 [.bool x.s,yT xo x.n xc,yi x.e,.bool y.s,yT yo y.n yc,yi y.e]):=de _ _ _ _;have hth:w72.there (w.heap.size+1+1) 0 6:=dD q80;have q87:au (w72.setCells (w.heap.size+1+1) 0 [.bool x.s,yT xo x.n xc,yi x.e,.bool y.s,yT yo y.n yc,yi y.e]) (w.heap.size+1+1) 57 [.bool x.s,yT xo x.n xc,yi x.e,.bool y.s,yT yo y.n yc,yi y.e]:=q80.sets _ rfl;have r88:=bu.rd r81 (aX r81 q80 (by simp));have r89:=bu.rd r82 (aX r82 q80 (by simp));have r90:=bu.rd r83 (aX r83 q80 (by simp));have r91:=bu.rd r84 (aX r84 q80 (by simp));have r92:=bu.rd r1x76 (aX r1x76 q80 (by simp));have r93:=bu.rd r2x77 (aX r2x77 q80 (by simp));have q94:=bu.loc q78 (by omega);have q95:=bu.loc q79 (by omega);have b96:=bu.below b85 (by omega);rw[if_pos (by kernel_rfl)];refine wp_store_mid 57 (.tmp 4) (.tmp 26) rfl (w.heap.size+1+1) 0 #[.bool x.s,yT xo x.n xc,yi x.e,.bool y.s,yT yo y.n yc,yi y.e] (by kernel_rfl) (by kernel_rfl) hth (by kernel_rfl) (by simp[Value.oneCell']) ?_;refine hK.out _ _ ⟨q94,q95⟩ (fun hS97=> ?_)
 clear hK K;clear q80 r81 r82 r83 r84 r1x76 r2x77 q78 q79 b85 bu hth;refine wpAnyH_done (by kernel_rfl) ?_ _;clear hS0 hS21 hS31 hS42 hS54 hS71 hS86 hS97;change Exit.then _ _ _ _ (World.setCells w72 (w.heap.size+1+1) 0 [.bool x.s,yT xo x.n xc,yi x.e,.bool y.s,yT yo y.n yc,yi y.e]);generalize World.setCells w72 (w.heap.size+1+1) 0 [.bool x.s,yT xo x.n xc,yi x.e,.bool y.s,yT yo y.n yc,yi y.e]=W98 at q94 q95 q87 r88 r89 r90 r91 r92 r93 b96⊢;simp only[Act.put,List.getElem_toArray,List.getElem_cons_succ,List.getElem_cons_zero];have hl:=run_loadVar_mid (P:=Tryz.prog) _ (w.heap.size+1+1) 0 57 [.bool x.s,yT xo x.n xc,yi x.e,.bool y.s,yT yo y.n yc,yi y.e] _ q87.range underlying57 rfl (by kernel_rfl)
 go_wp2
 exact bodyPost_ret (br results81 rfl hl) rfl ⟨_,_,rfl,r92,r93,b96⟩
theorem JS (va vb:Value)(xs ys:List Nat)(w:World)(ha:Rd w .u32 va xs)(hb:Rd w .u32 vb ys)(sa:Dg.Small 4294967296 xs)(sb:Dg.Small 4294967296 ys)(nb:Dg.Norm ys)(hn:2≤ys.length)(hle:ys.length≤xs.length)(hla:xs.length≤900000):
  yC 105 #[va,vb] w (Two w (Dg.vl 4294967296 xs/Dg.vl 4294967296 ys) (Dg.vl 4294967296 xs % Dg.vl 4294967296 ys)):=by
 obtain⟨i0,hi,hz0,hz1,hz2⟩:=info_parts Tryz.infoU32;have hsz:(Tryz.prog.info? 49).map (·.size)=some 1:=by rw[hi];simp[hz1]
 obtain⟨s,hs⟩: ∃s,32-bitLen (ys.getD (ys.length-1) 0)=s:=⟨_,rfl⟩;obtain⟨hs32,hD1,hD2⟩:=V7 ys s sb nb hn hs.symm;have hlz:=XC (ys.getD (ys.length-1) 0) w (sb _);rw[hs] at hlz;have hrb:=vO vb ys s 0 s (2^s) w hb sb (by omega) (by omega) hs32 rfl (by omega) (by intro e;rw[e] at hn;simp at hn);have HRA:Hid (∀w1,yB w w1→yC 99 #[va,yi s] w1 (Num w1 (Dg.vl 4294967296 xs*2^s))):=fun w1 b1=>
  vO va xs s 0 s (2^s) w1 (ha.l b1) sa (by omega) (by omega) hs32 rfl (by omega) (by intro e;rw[e] at hle;have h0:ys.length≤0:=hle;omega)
 obtain⟨ao,ca,rfl⟩:=ha.shape;obtain⟨bo,cb,rfl⟩:=hb.shape;obtain⟨-,-,hcb⟩:=iQ hb;obtain⟨bb,boff,rfl,hcell⟩:=hcb (by omega);have hy:=hcell (ys.length-1) (by omega);have hyl:=sb (ys.length-1);have n1:((ys.length:Int)-1)=((ys.length-1:Nat):Int):=by omega
 have hvx:=Dg.vl_lt 4294967296 xs sa;obtain⟨X,hX⟩: ∃X,Dg.vl 4294967296 xs=X:=⟨_,rfl⟩;obtain⟨Y,hY⟩: ∃Y,Dg.vl 4294967296 ys=Y:=⟨_,rfl⟩;rw[hX] at HRA hvx⊢;rw[hY] at hrb hD1 hD2⊢;obtain⟨nn,hnn⟩: ∃nn,ys.length=nn:=⟨_,rfl⟩;obtain⟨na,hna⟩: ∃na,xs.length=na:=⟨_,rfl⟩;obtain⟨y,hyy⟩: ∃y,ys.getD (ys.length-1) 0=y:=⟨_,rfl⟩;rw[hyy] at hlz hy hyl;rw[hnn] at hD1 hD2 hrb hy n1 hn hle⊢;rw[hna] at HRA hle hla hvx⊢;have HD1:Hid (2147483648*4294967296^ (nn-1)≤Y*2^s):=hD1;have HD2:Hid (Y*2^s<4294967296^nn):=hD2;have HVX:Hid (X<4294967296^na):=hvx;clear ha hb sa sb nb hs hcb hcell hX hY hnn hna hyy hD1 hD2 hvx
 go_enter func105,ntmps105
 go_wp2_with fail
 refine hlz.mono ?_;rintro e w' ⟨rfl,rfl⟩;clear hlz
 go_wp2_with fail
 refine hrb.mono ?_;rintro e w1 ⟨vby,rfl,ownb,bel1⟩;clear hrb;have hDl:(Dg.dg 4294967296 (Y*2^s)).length=nn:=V8 nn _ (by omega) (by have:=HD1.out;omega) HD2.out;obtain⟨gb,cby,rfl,hgb1,hgb2,hcby⟩:=ownb.form (by omega);rw[hDl] at ownb hcby⊢;obtain⟨bs,hbs⟩: ∃bs,Dg.dg 4294967296 (Y*2^s)=bs:=⟨_,rfl⟩;rw[hbs] at ownb hDl
 go_wp2_with (at_make;refine wpList_make_full _ rfl _ _ 92 rfl w1.heap.size 49 i0 (.int .u32 0) 1 underlying92 hi hz0 hz1 _ _ _ _ (na+1) rfl rfl (by omega) (by omega) ?b2 ?b3 (Nat.le_refl _) ?_)
 case b2=>rw[hz2];omega
 case b3=>unfold maxLen;omega
 intro w2 hown2 hgrow2;have own2:=gL hown2;have bel2:yB w1 w2:=(Below.refl _ _).grown hgrow2 (Nat.le_refl _) (fun k h=>by cases h)
 clear hown2 hgrow2
 go_wp2_with fail
 refine(HRA.out w2 (aa bel1 bel2)).mono ?_;rintro e w3 ⟨vra,rfl,owna,bel3⟩;obtain⟨az,haz⟩: ∃az,Dg.dg 4294967296 (X*2^s)=az:=⟨_,rfl⟩;rw[haz] at owna;have hal:az.length≤na+1:=by rw[←haz];exact RI X na s HVX.out hs32
 have rda:=owna.rd;obtain⟨ara,cra,rfl⟩:=rda.shape;have own3:=own2.l bel3;obtain⟨w4,hrun,own4,gr4⟩:=Nw 92 92 3 underlying92 hsz own3 rda (by simpa using hal);have b12:=aa bel1 bel2;have b13:=aa b12 bel3;have bel4:Below w'.heap.size w' w4:=b13.grown gr4 b13.size (fun k hk=>by cases hk;exact bel1.size)
 have ownb4:=((ownb.l bel2).l bel3).other gr4 (by omega);have own4:=own4.lower bel1.size;clear own3 rda owna HRA own2 ownb hsz
 go_wp2_with (at_make;refine wpList_make_full _ rfl _ _ 92 rfl w4.heap.size 49 i0 (.int .u32 0) 1 underlying92 hi hz0 hz1 _ _ _ _ (na+1-nn) rfl rfl ?b0 ?b1 ?b2 ?b3 (Nat.le_refl _) ?_)
 case b0=>omega
 case b1=>omega
 case b2=>rw[hz2];omega
 case b3=>unfold maxLen;omega
 intro w5 hown5 hgrow5;have own5:=gL hown5;have bel5:yB w4 w5:=(Below.refl _ _).grown hgrow5 (Nat.le_refl _) (fun k h=>by cases h)
 have ownr5:=own4.l bel5;have ownb5:=ownb4.l bel5;have belw:=aa bel4 bel5;have hb14:w1.heap.size<w4.heap.size:=own4.block.2;have hbw1:w'.heap.size≤w1.heap.size:=bel1.size;clear hown5 hgrow5 own4 ownb4 bel4 bel5 bel1 bel2 bel3 b12 b13 gr4 hrun hy hyl n1;have hst:=Pj (nn:=nn) haz hal HVX.out hs32 (by omega) (by omega) HD1.out;have hsb:Dg.Small 4294967296 bs:=by rw[←hbs];exact Dg.small_dg _ _ (by omega)
 have hvb:Dg.vl 4294967296 bs=Y*2^s:=by rw[←hbs];exact Dg.vl_dg _ _ (by omega)
 have hY0:0<Y:=by
  rcases Nat.eq_zero_or_pos Y with e|e
  ·have:=HD1.out
   rw[e,Nat.zero_mul] at this;have h2:=Nat.pow_pos (n:=nn-1) (show 0<4294967296 by omega)
   omega
  ·exact e
 obtain⟨M,hM⟩: ∃M,na+1=M+nn:=⟨na+1-nn,by omega⟩;rw[hM,Nat.add_sub_cancel] at own5 hst;rw[hM] at ownr5;rw[hM,Nat.add_sub_cancel];obtain⟨g4,hg4⟩: ∃g4,w4.heap.size=g4:=⟨_,rfl⟩;obtain⟨g1,hg1⟩: ∃g1,w1.heap.size=g1:=⟨_,rfl⟩;rw[hg4] at own5 hb14⊢;rw[hg1] at ownr5 hb14 hbw1 hgb2⊢;have own5:=own5.lower (show w'.heap.size≤g4 by omega)
 have ne1:gb≠g1:=by omega
 have ne2:g1≠g4:=by omega
 have ne3:gb≠g4:=by omega
 have hbw4:w'.heap.size≤g4:=by omega
 have hMN:M+nn≤900001:=by omega
 clear haz hal HVX hbs hM hle hla hg4 hg1
 go_wp2
 go_loopw [10] (fun iv wr=>ae2 w' (X*2^s) (Y*2^s) M (M+nn) g1 g4 gb cby bs iv wr) (fun iv _=>(intOf iv+1).toNat)
 case atStart=>exact⟨M,_,_,Nat.le_refl _,rfl,hst,ownr5,own5,by rw[hDl];exact ownb5,belw⟩
 case round=>
  clear hst own5 ownr5 ownb5 belw hgb1 hgb2 hcby hb14 hi hz0 hz1 hz2;obtain⟨k,R,os,hk,rfl,hI,ownR,ownO,ownB,bel⟩:=hrel
  by_cases hk0:k=0
  ·subst hk0
   have hen:=Xs hY0 hI;have ro:=ownO.rd;have rr:=ownR.rd;clear ownB
   go_wp2_with fail
   refine(jD _ _ _ _ _ ro).mono ?_;rintro e w6 ⟨m,rfl,hm,rfl⟩;have to0:=jW 4294967296 (by omega) ownO hI.2.2.2.1 hm;rw[hen.1] at to0
   go_wp2_with fail
   refine(jD _ _ _ _ _ rr).mono ?_;rintro e w6 ⟨m2,rfl,hm2,rfl⟩;have tr:=jW 4294967296 (by omega) ownR hI.2.2.1 hm2;have hlow:=Dj _ _ s 0 s w6 tr.rd (Dg.small_dg _ _ (by omega)) (by have h1:=hm2.1;have h2:=hI.1;have h3:=tr.len;omega) (by omega) hs32 (by omega);rw[Dg.vl_dg _ _ (by omega),hen.2] at hlow;clear ro rr hm hm2 hen ownO ownR tr hI
   go_wp2_with fail
   refine hlow.mono ?_;rintro e w7 ⟨vr,rfl,ownr7,bel7⟩;have to7:=to0.l bel7;have b7:=aa bel bel7;have or7:=ownr7.lower bel.size;clear hlow
   go_wp2
   go_ret2
   exact⟨_,_,rfl,to7,or7,b7⟩
  ·obtain⟨i,rfl⟩: ∃i,k=i+1:=⟨k-1,by omega⟩
   have n2:((i+1:Nat):Int)-1=(i:Int):=by omega
   rw[n2];have hRl:=hI.1;rw[hDl] at ownB;have c2:=ownR.c (i+nn) (by omega);have c1:=ownR.c (i+(nn-1)) (by omega);have c0:=ownR.c (i+(nn-2)) (by omega);have e1:=ownB.c (nn-1) (by omega);have e0:=ownB.c (nn-2) (by omega);have lg:=Pi hI hsb hvb hn HD1.out HD2.out;have hgs:=TX g1 i nn (M+nn-i) gb 0 cby _ _ _ _ _ wr hn (by omega) (by omega) c2 c1 c0 (by rw[Nat.zero_add];exact e1) (by rw[Nat.zero_add];exact e0) (hI.2.2.1 _) (hI.2.2.1 _) (hI.2.2.1 _) (hsb _) (hsb _) lg.1 lg.2.1;have LG:=lg.2.2;have HLG:Hid _:=LG;clear c2 c1 c0 e1 e0 lg LG
   go_wp2_with fail
   rw[show i+nn+1-i=nn+1 from by omega]
   refine hgs.mono ?_;rintro e w6 ⟨g,rfl,hgl,hlow,hup,bel6⟩;clear hgs;have hq:=HLG.out g hgl hlow hup;clear HLG hlow hup;have ownR6:=ownR.l bel6;have ownO6:=ownO.l bel6;have ownB6:=ownB.l bel6;have b6:=aa bel bel6;clear ownR ownO ownB bel6 bel;have htk:=H7 g1 (M+nn) i (M+nn-i) w'.heap.size g R bs _ w6 ownR6 hI.2.2.1 hsb (fun w'' hg=>(ownB6.other hg ne1).rd) (by omega) hgl (by omega)
   rw[hDl] at htk;obtain⟨q,hqq⟩: ∃q,Dg.vl 4294967296 R/4294967296^i/(Y*2^s)=q:=⟨_,rfl⟩;rw[hqq] at hq;have HRE:Hid (∀cur b,acc R cur bs i g b→_):=fun cur b hT=>QR hT hI.2.2.1 rfl hvb (Nat.mul_pos hY0 (Nat.pow_pos (by omega))) (by rw[hDl];exact HD2.out) hI.2.2.2.2.2.2 hqq hq.2
   go_wp2_with fail
   refine htk.mono ?_;rintro e w7 ⟨b,cur,rfl,hT,ownC,gr7⟩;have hre:=HRE.out cur b hT;have hb1:=hT.2.2.2.1;have hTl:=hT.1;have hTs:=hT.2.1;have ownO7:=ownO6.other gr7 ne2.symm;have ownB7:=ownB6.other gr7 ne1;have b7:=b6.grown gr7 b6.size (fun k hk=>by cases hk;exact hbw1)
   have hql:=hq.1;have hil:i<M:=by omega
   clear HRE hT htk hq hqq ownR6 ownO6 ownB6 b6 gr7
   by_cases hb:b=0
   ·subst hb
    obtain⟨rfl,hv,hlt⟩:=hre.1 rfl;have hnx:=Iv hI hil hgl hTl hTs hv hlt;have ed:decide ((0:Nat)=1)=false:=rfl;rw[ed];have hf:=ownO7.f i;have hcO:=ownO7.c i (by have:=hI.2.1;omega);clear hre hv hlt hI hTs
    go_wp2
    go_roundw
    case rel=>exact⟨i,cur,_,by omega,by go_num,hnx,ownC.other (bI _ _ _ _) ne2,ownO7.store i _,by rw[hDl];exact ownB7.other (bI _ _ _ _) ne3,b7.setCell (by exact hbw4) _⟩
    case measure=>simp[intOf]
   ·have hb:b=1:=by omega
    subst hb;obtain⟨rfl,hbk⟩:=hre.2 rfl;have hpb:=Mj g1 (M+nn) i (M+nn-i) w'.heap.size cur bs _ w7 ownC hTs hsb (fun w'' hg=>(ownB7.other hg ne1).rd) (by omega) (by omega)
    rw[hDl] at hpb;have ed:decide ((1:Nat)=1)=true:=rfl;rw[ed];have n3:((q+1:Nat):Int)-1=(q:Int):=by omega
    have HBK:Hid _:=hbk;clear hre hbk
    go_wp2_with fail
    refine hpb.mono ?_;rintro e w8 ⟨o,cur',rfl,hB,ownC8,gr8⟩;obtain⟨hv,hlt⟩:=HBK.out cur' o hB;have hnx:=Iv hI hil hql (hB.1.trans hTl) hB.2.1 hv hlt;have ownO8:=ownO7.other gr8 ne2.symm;have ownB8:=ownB7.other gr8 ne1;have b8:=b7.grown gr8 b7.size (fun k hk=>by cases hk;exact hbw1)
    have hf:=ownO8.f i;have hcO:=ownO8.c i (by have:=hI.2.1;omega);clear hpb HBK hv hlt hB gr8 hI hTs ownC ownO7 ownB7 b7
    go_wp2
    go_roundw
    case rel=>exact⟨i,cur',_,by omega,by go_num,hnx,ownC8.other (bI _ _ _ _) ne2,ownO8.store i _,by rw[hDl];exact ownB8.other (bI _ _ _ _) ne3,b8.setCell (by exact hbw4) _⟩
    case measure=>simp[intOf]
end Go.Proofs.YtiakgfmlpdfhdaaGreatDoor
