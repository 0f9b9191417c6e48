/-
  Texts laid together: Ab3, Se1.
-/
import Derived.Test.YtiakgfmlpdfhdaaDoorChecked
import Derived.Test.YtiakgfmlpdfhdaaDoorSv34
import Derived.Test.YtiakgfmlpdfhdaaDoorSv35
set_option maxRecDepth 100000
set_option maxHeartbeats 3200000
namespace Go.Proofs.YtiakgfmlpdfhdaaDoor
open Go.RowKit
abbrev yEL (c:Int)(g:Bool)(t:ak)(o:Option Addr)(k:Nat):List Value:=[.int .i64 c,.bool g,.bool t.s,.slice o (Dg.dg 65536 t.n).length k,.int .i64 t.e]
abbrev yEV (c:Int)(g:Bool)(t:ak)(o:Option Addr)(k:Nat):Value:= .agg #[.int .i64 c,.bool g,.bool t.s,.slice o (Dg.dg 65536 t.n).length k,.int .i64 t.e]
abbrev yEA (c:Int)(g:Bool)(t:ak)(o:Option Addr)(k:Nat):Array Value:= #[.int .i64 c,.bool g,.bool t.s,.slice o (Dg.dg 65536 t.n).length k,.int .i64 t.e]
abbrev yML (t:ak)(o:Option Addr)(k:Nat):List Value:=[.bool t.s,.slice o (Dg.dg 65536 t.n).length k,.int .i64 t.e]
abbrev yMV (t:ak)(o:Option Addr)(k:Nat):Value:= .agg #[.bool t.s,.slice o (Dg.dg 65536 t.n).length k,.int .i64 t.e]
abbrev yMA (t:ak)(o:Option Addr)(k:Nat):Array Value:= #[.bool t.s,.slice o (Dg.dg 65536 t.n).length k,.int .i64 t.e]
abbrev yXL (c:Int)(g:Bool)(t:ak)(o:Option Addr)(k:Nat)(d:Int)(h:Bool)(s:ak)(p:Option Addr)(m:Nat):List Value:=[.int .i64 c,.bool g,.bool t.s,.slice o (Dg.dg 65536 t.n).length k,.int .i64 t.e,.int .i64 d,.bool h,.bool s.s,.slice p (Dg.dg 65536 s.n).length m,.int .i64 s.e]
theorem fin6 {P:Program}{w0 w:World}{n b:Nat}{ty:TypeId}{z0 z1 z2 z3 z4 z5:Value}{d:TypeDesc}(h:au w b ty [z0,z1,z2,z3,z4,z5])(hb:Below n w0 w)(hn:n≤b)(hu:P.underlying ty=some d)(hd:d.isRow=true)(hi:(P.info? ty).map (·.size)=some 6)(v0 v1 v2 v3 v4 v5:Value):
  (loadVar ty ⟨b,0,none⟩).run P ((((((w.setCell ⟨b,0,none⟩ v0).setCell ⟨b,1,none⟩ v1).setCell ⟨b,2,none⟩ v2).setCell ⟨b,3,none⟩ v3).setCell ⟨b,4,none⟩ v4).setCell ⟨b,5,none⟩ v5)= .ok (.agg #[v0,v1,v2,v3,v4,v5]) ((((((w.setCell ⟨b,0,none⟩ v0).setCell ⟨b,1,none⟩ v1).setCell ⟨b,2,none⟩ v2).setCell ⟨b,3,none⟩ v3).setCell ⟨b,4,none⟩ v4).setCell ⟨b,5,none⟩ v5)∧Below n w0 ((((((w.setCell ⟨b,0,none⟩ v0).setCell ⟨b,1,none⟩ v1).setCell ⟨b,2,none⟩ v2).setCell ⟨b,3,none⟩ v3).setCell ⟨b,4,none⟩ v4).setCell ⟨b,5,none⟩ v5)∧But b w ((((((w.setCell ⟨b,0,none⟩ v0).setCell ⟨b,1,none⟩ v1).setCell ⟨b,2,none⟩ v2).setCell ⟨b,3,none⟩ v3).setCell ⟨b,4,none⟩ v4).setCell ⟨b,5,none⟩ v5):=by
 have cR:au ((((((w.setCell ⟨b,0,none⟩ v0).setCell ⟨b,1,none⟩ v1).setCell ⟨b,2,none⟩ v2).setCell ⟨b,3,none⟩ v3).setCell ⟨b,4,none⟩ v4).setCell ⟨b,5,none⟩ v5) b ty [v0,v1,v2,v3,v4,v5]:=((((((h.set 0 v0).set 1 v1).set 2 v2).set 3 v3).set 4 v4).set 5 v5);have bu:=(((((ag w b 0 v0).trans (ag _ b 1 v1)).trans (ag _ b 2 v2)).trans (ag _ b 3 v3)).trans (ag _ b 4 v4)).trans (ag _ b 5 v5);exact⟨run_loadVar_mid (P:=P) _ b 0 ty [v0,v1,v2,v3,v4,v5] _ cR.range hu hd hi,bu.below hb hn,bu⟩
theorem csf6 {w:World}{b:Nat}{ty:TypeId}{z0 z1 z2 z3 z4 z5:Value}(h:au w b ty [z0,z1,z2,z3,z4,z5]):(w.cell? ⟨b,0,none⟩=some z0∧w.cell? ⟨b,1,none⟩=some z1∧w.cell? ⟨b,2,none⟩=some z2∧w.cell? ⟨b,3,none⟩=some z3∧w.cell? ⟨b,4,none⟩=some z4∧w.cell? ⟨b,5,none⟩=some z5)∧w.frozen? ⟨b,0,none⟩=false∧w.frozen? ⟨b,1,none⟩=false∧w.frozen? ⟨b,2,none⟩=false∧w.frozen? ⟨b,3,none⟩=false∧w.frozen? ⟨b,4,none⟩=false∧w.frozen? ⟨b,5,none⟩=false:=
 ⟨⟨h.c 0 rfl,h.c 1 rfl,h.c 2 rfl,h.c 3 rfl,h.c 4 rfl,h.c 5 rfl⟩,h.f 0,h.f 1,h.f 2,h.f 3,h.f 4,h.f 5⟩
theorem fin2 {P:Program}{w0 w:World}{n b:Nat}{ty:TypeId}{z0 z1:Value}{d:TypeDesc}(h:au w b ty [z0,z1])(hb:Below n w0 w)(hn:n≤b)(hu:P.underlying ty=some d)(hd:d.isRow=true)(hi:(P.info? ty).map (·.size)=some 2)(v0 v1:Value):
  (loadVar ty ⟨b,0,none⟩).run P ((w.setCell ⟨b,0,none⟩ v0).setCell ⟨b,1,none⟩ v1)= .ok (.agg #[v0,v1]) ((w.setCell ⟨b,0,none⟩ v0).setCell ⟨b,1,none⟩ v1)∧Below n w0 ((w.setCell ⟨b,0,none⟩ v0).setCell ⟨b,1,none⟩ v1)∧But b w ((w.setCell ⟨b,0,none⟩ v0).setCell ⟨b,1,none⟩ v1):=by
 have cR:au ((w.setCell ⟨b,0,none⟩ v0).setCell ⟨b,1,none⟩ v1) b ty [v0,v1]:=((h.set 0 v0).set 1 v1);have bu:=(ag w b 0 v0).trans (ag _ b 1 v1);exact⟨run_loadVar_mid (P:=P) _ b 0 ty [v0,v1] _ cR.range hu hd hi,bu.below hb hn,bu⟩
theorem csf2 {w:World}{b:Nat}{ty:TypeId}{z0 z1:Value}(h:au w b ty [z0,z1]):(w.cell? ⟨b,0,none⟩=some z0∧w.cell? ⟨b,1,none⟩=some z1)∧w.frozen? ⟨b,0,none⟩=false∧w.frozen? ⟨b,1,none⟩=false:=
 ⟨⟨h.c 0 rfl,h.c 1 rfl⟩,h.f 0,h.f 1⟩
theorem jN.vres {w:World}{t:ak}{e:Ending}{w':World}(h:jN w t e w'):Lx w t e w':=by
 obtain⟨s,h1,h2,h3⟩:=h;exact⟨s,h1,h2.rd,h3⟩
theorem dscaled_W (g:Bool)(ao:Option Addr)(la ca:Nat)(e n m:Int)(w:World)(hm:IntKind.i64.wrap (e+n)=m):
  yC 65 #[ydV g (.slice ao la ca) e,yi n] w (yR w (ydV g (.slice ao la ca) m)):=by
 obtain⟨W4,hW5,q1,q2,b3⟩:=iG w (ydL g (.slice ao la ca) e) 66 (ydL false yN 0) 66;replace hW5:Hid _:=hW5
 go_enter Tryd.func65,Tryd.ntmps65
 go_upto_region 1 with fail
 rw[hW5.out];clear hW5;have c7:=q1.c 2 rfl;have bu:=ag W4 w.heap.size 2 (yi m);have q6:au (W4.setCell ⟨w.heap.size,2,none⟩ (yi m)) w.heap.size 66 (ydL g (.slice ao la ca) m):=(q1.set 2 (yi m));have c8:=q1.c 2 rfl;have y9:=q1.f 2;have q10:=bu.loc q2 (by omega);have b11:=bu.below b3 (by omega);clear bu
 go_upto_region 2 with fail
 generalize W4.setCell ⟨w.heap.size,2,none⟩ (yi m)=W12 at q6 q10 b11⊢;clear q1 q2 b3 c7 c8 y9;obtain⟨c13,c14,c15⟩:=q6.cs3;have hf:=afy (P:=Tryd.prog) q10 b11 (by omega) Tryd.underlying66 rfl (by kernel_rfl) (.bool g) (.slice ao la ca) (yi m);have HH:Hid (_∧_):=⟨hf.1,hf.2.1⟩;obtain⟨⟨z0,z1,z2⟩,y0,y1,y2⟩:=afA q10;clear hf q6 q10 b11
 go_wp2
 obtain⟨hl,bR⟩:=HH.out;exact bodyPost_ret (br Tryd.results65 rfl hl) rfl ⟨rfl,bR⟩
theorem whole_W (n:Nat)(w:World)(hn:IntKind.u64.wrap n=(n:Int))(HF: ∀w1,yC 87 #[.int .u64 n] w1 fun z w'=> ∃v,z= .returned v∧Rd w' .u32 v (Dg.dg 4294967296 n)∧yB w1 w')
  (HN: ∀xo xc w1,yC 77 (ydA false (yT xo n xc) 0) w1 (yR w1 (ydV false (yT xo n xc) 0))):
  yC 71 #[yi n] w (Lx w ⟨false,n,0⟩):=by
 replace HF:Hid _:=HF;replace HN:Hid _:=HN;obtain⟨W3,hW4,q1,b2⟩:=cA w (ydL false yN 0) 66;replace hW4:Hid _:=hW4
 go_enter Tryd.func71,Tryd.ntmps71
 go_upto_region 1 with fail
 rw[hW4.out];clear hW4
 go_wp2_with fail
 refine(HF.out _).mono ?_;rintro zz w5 ⟨v1x7,rfl,r1x8,bb6⟩;have q9:=q1.l bb6;have b10:=aa b2 bb6;obtain⟨xo,xc,hv⟩:=r1x8.shape;subst hv;clear q1 b2 bb6 HF
 go_wp2_with fail
 refine(HN.out _ _ _).mono ?_;rintro zz w11 ⟨rfl,bb12⟩;have q13:=q9.l bb12;have r14:=r1x8.l bb12;have b15:=aa b10 bb12;clear q9 r1x8 b10 bb12 HN;have hf:=afy (P:=Tryd.prog) q13 b15 (by omega) Tryd.underlying66 rfl (by kernel_rfl) (.bool false) (yT xo n xc) (yi 0);have HH:Hid (_∧_∧_):=⟨hf.1,hf.2.2.rd r14 (aX r14 q13 (by simp)),hf.2.1⟩;obtain⟨⟨z0,z1,z2⟩,y0,y1,y2⟩:=afA q13;clear hf q13 r14 b15
 go_wp2
 obtain⟨hl,rRx,bR⟩:=HH.out;exact bodyPost_ret (br Tryd.results71 rfl hl) rfl ⟨_,rfl,rRx,bR⟩
theorem spanWhole_W (n:Int)(x:ak)(w:World)(HW: ∀w1,yC 71 #[yi n] w1 (Lx w1 x))
  (HO: ∀xo xc w1,yC 70 #[yDV x xo xc] w1 (yR w1 (.agg #[.bool x.s,yT xo x.n xc,yi x.e,.bool x.s,yT xo x.n xc,yi x.e]))):
  yC 57 #[yi n] w (aeT w x x):=by
 replace HW:Hid _:=HW;replace HO:Hid _:=HO;obtain⟨W3,hW4,q1,b2⟩:=cA w [.bool false,yN,yi 0,.bool false,yN,yi 0] 68;replace hW4:Hid _:=hW4
 go_enter Tryd.func57,Tryd.ntmps57
 go_upto_region 1 with fail
 rw[hW4.out];clear hW4
 go_wp2_with fail
 refine(HW.out _).mono ?_;rintro zz w5 ⟨v1x7,rfl,r1x8,bb6⟩;have q9:=q1.l bb6;have b10:=aa b2 bb6;obtain⟨xo,xc,hv⟩:=r1x8.shape;subst hv;clear q1 b2 bb6 HW
 go_wp2_with fail
 refine(HO.out _ _ _).mono ?_;rintro zz w11 ⟨rfl,bb12⟩;have q13:=q9.l bb12;have r14:=r1x8.l bb12;have b15:=aa b10 bb12;clear q9 r1x8 b10 bb12 HO;have hf:=fin6 (P:=Tryd.prog) q13 b15 (by omega) Tryd.underlying68 rfl (by kernel_rfl) (.bool x.s) (yT xo x.n xc) (yi x.e) (.bool x.s) (yT xo x.n xc) (yi x.e);have HH:Hid (_∧_∧_):=⟨hf.1,hf.2.2.rd r14 (aX r14 q13 (by simp)),hf.2.1⟩;obtain⟨⟨z0,z1,z2,z3,z4,z5⟩,y0,y1,y2,y3,y4,y5⟩:=csf6 q13;clear hf q13 r14 b15
 go_wp2
 obtain⟨hl,rRx,bR⟩:=HH.out;exact bodyPost_ret (br Tryd.results57 rfl hl) rfl ⟨_,_,rfl,rRx,rRx,bR⟩
theorem spanPlus_W (a b p q:ak)(ao bo po qo:Option Addr)(ac bc pc qc:Nat)(x y:ak)(w:World)
  (H1: ∀w1,yB w w1→yC 72 #[yDV a ao ac,yDV p po pc] w1 (Lx w1 x))
  (H2: ∀w1,yB w w1→yC 72 #[yDV b bo bc,yDV q qo qc] w1 (Lx w1 y)):
  yC 58 #[.agg #[.bool a.s,yT ao a.n ac,yi a.e,.bool b.s,yT bo b.n bc,yi b.e],.agg #[.bool p.s,yT po p.n pc,yi p.e,.bool q.s,yT qo q.n qc,yi q.e]] w (aeT w x y):=by
 replace H1:Hid _:=H1;replace H2:Hid _:=H2;obtain⟨W5,hW6,q1,q2,q3,b4⟩:=lG w [.bool a.s,yT ao a.n ac,yi a.e,.bool b.s,yT bo b.n bc,yi b.e] 68 [.bool p.s,yT po p.n pc,yi p.e,.bool q.s,yT qo q.n qc,yi q.e] 68 [.bool false,yN,yi 0,.bool false,yN,yi 0] 68;replace hW6:Hid _:=hW6
 go_enter Tryd.func58,Tryd.ntmps58
 go_upto_region 1 with fail
 rw[hW6.out];clear hW6
 go_upto_region 1 with fail
 have bW7:yB W5 W5.drew:=(Below.refl _ _).drew;have q8:=q1.l bW7;have q9:=q2.l bW7;have q10:=q3.l bW7;have b11:=aa b4 bW7;clear q1 q2 q3 b4 bW7;refine wp_region_held_drew (S:=fun wq=>au wq w.heap.size 68 [.bool a.s,yT ao a.n ac,yi a.e,.bool b.s,yT bo b.n bc,yi b.e]∧au wq (w.heap.size+1) 68 [.bool p.s,yT po p.n pc,yi p.e,.bool q.s,yT qo q.n qc,yi q.e]) (by kernel_rfl) ⟨q8,q9⟩ (fun hS0=> ?_)
 generalize W5.drew=WD12 at q8 q9 q10 b11 hS0⊢;refine tq 0 (.pointer (some ⟨w.heap.size,0,none⟩)) rfl (fun _ _=>by kernel_rfl) hS0 ?_
 refine tq 1 (yDV a ao ac) rfl (fun _ hw0=>fy 66 (.tmp 5) rfl w.heap.size 0 (by kernel_rfl) _ _ (kY hw0.1 0 3 rfl) Tryd.underlying66 rfl (by kernel_rfl)) hS0 ?_
 refine tq 2 (.pointer (some ⟨w.heap.size+1,0,none⟩)) rfl (fun _ _=>by kernel_rfl) hS0 ?_
 refine tq 3 (yDV p po pc) rfl (fun _ hw0=>fy 66 (.tmp 7) rfl (w.heap.size+1) 0 (by kernel_rfl) _ _ (kY hw0.2 0 3 rfl) Tryd.underlying66 rfl (by kernel_rfl)) hS0 ?_
 refine tq 5 (.pointer (some ⟨w.heap.size,3,none⟩)) rfl (fun _ _=>by kernel_rfl) hS0 ?_
 refine tq 6 (yDV b bo bc) rfl (fun _ hw0=>fy 66 (.tmp 10) rfl w.heap.size 3 (by kernel_rfl) _ _ (kY hw0.1 3 3 rfl) Tryd.underlying66 rfl (by kernel_rfl)) hS0 ?_
 refine tq 7 (.pointer (some ⟨w.heap.size+1,3,none⟩)) rfl (fun _ _=>by kernel_rfl) hS0 ?_
 refine tq 8 (yDV q qo qc) rfl (fun _ hw0=>fy 66 (.tmp 12) rfl (w.heap.size+1) 3 (by kernel_rfl) _ _ (kY hw0.2 3 3 rfl) Tryd.underlying66 rfl (by kernel_rfl)) hS0 ?_
 refine wpAnyH_ready (rs:=[4]) (by kernel_rfl) (by simp) ?_;refine AllReadyH.cons rfl (fun K hK=> ?_) AllReadyH.nil
 go_simp
 refine(H1.out _ b11).mono ?_;rintro zz w13 ⟨v1x15,rfl,r1x16,bb14⟩;have q17:=q8.l bb14;have q18:=q9.l bb14;have q19:=q10.l bb14;have b20:=aa b11 bb14;obtain⟨xo,xc,hv⟩:=r1x16.shape;subst hv;clear q8 q9 q10 b11 bb14 H1;refine hK.out _ _ ⟨q17,q18⟩ (fun hS21=> ?_)
 clear hK K;refine wpAnyH_ready (rs:=[9]) (by kernel_rfl) (by simp) ?_;refine AllReadyH.cons rfl (fun K hK=> ?_) AllReadyH.nil
 go_simp
 refine(H2.out _ b20).mono ?_;rintro zz w22 ⟨v1x24,rfl,r1x25,bb23⟩;have q26:=q17.l bb23;have q27:=q18.l bb23;have q28:=q19.l bb23;have r29:=r1x16.l bb23;have b30:=aa b20 bb23;obtain⟨yo,yc,hv⟩:=r1x25.shape;subst hv;clear q17 q18 q19 r1x16 b20 bb23 H2;refine hK.out _ _ ⟨q26,q27⟩ (fun hS31=> ?_)
 clear hK K;refine tq 10 (.agg #[.bool x.s,yT xo x.n xc,yi x.e,.bool y.s,yT yo y.n yc,yi y.e]) rfl (fun _ _=>by kernel_rfl) hS31 ?_
 refine wpAnyH_ready (rs:=[11]) (by kernel_rfl) (by simp) ?_;refine AllReadyH.cons rfl (fun K hK=> ?_) AllReadyH.nil
 have bu:But (w.heap.size+1+1) w22 (w22.setCells (w.heap.size+1+1) 0 [.bool x.s,yT xo x.n xc,yi x.e,.bool y.s,yT yo y.n yc,yi y.e]):=de _ _ _ _;have hth:w22.there (w.heap.size+1+1) 0 6:=dD q28;have q32:au (w22.setCells (w.heap.size+1+1) 0 [.bool x.s,yT xo x.n xc,yi x.e,.bool y.s,yT yo y.n yc,yi y.e]) (w.heap.size+1+1) 68 [.bool x.s,yT xo x.n xc,yi x.e,.bool y.s,yT yo y.n yc,yi y.e]:=q28.sets _ rfl;have r33:=bu.rd r29 (aX r29 q28 (by simp));have r34:=bu.rd r1x25 (aX r1x25 q28 (by simp));have q35:=bu.loc q26 (by omega);have q36:=bu.loc q27 (by omega);have b37:=bu.below b30 (by omega);rw[if_pos (by kernel_rfl)];refine wp_store_mid 68 (.tmp 4) (.tmp 15) rfl (w.heap.size+1+1) 0 #[.bool x.s,yT xo x.n xc,yi x.e,.bool y.s,yT yo y.n yc,yi y.e] (by kernel_rfl) (by kernel_rfl) hth (by kernel_rfl) (by simp[Value.oneCell']) ?_;refine hK.out _ _ ⟨q35,q36⟩ (fun hS38=> ?_)
 clear hK K;clear q28 r29 r1x25 q26 q27 b30 bu hth;refine wpAnyH_done (by kernel_rfl) ?_ _;clear hS0 hS21 hS31 hS38;change Exit.then _ _ _ _ (World.setCells w22 (w.heap.size+1+1) 0 [.bool x.s,yT xo x.n xc,yi x.e,.bool y.s,yT yo y.n yc,yi y.e]);generalize World.setCells w22 (w.heap.size+1+1) 0 [.bool x.s,yT xo x.n xc,yi x.e,.bool y.s,yT yo y.n yc,yi y.e]=W39 at q35 q36 q32 r33 r34 b37⊢;simp only[Act.put,List.getElem_toArray,List.getElem_cons_succ,List.getElem_cons_zero];have hl:=run_loadVar_mid (P:=Tryd.prog) _ (w.heap.size+1+1) 0 68 [.bool x.s,yT xo x.n xc,yi x.e,.bool y.s,yT yo y.n yc,yi y.e] _ q32.range Tryd.underlying68 rfl (by kernel_rfl)
 go_wp2
 exact bodyPost_ret (br Tryd.results58 rfl hl) rfl ⟨_,_,rfl,r33,r34,b37⟩
theorem spanOpp_W (a b:ak)(ao bo:Option Addr)(ac bc:Nat)(w:World)
  (H1:yJ 85 #[yDV b bo bc] (ydV (!b.s) (yT bo b.n bc) b.e))
  (H2:yJ 85 #[yDV a ao ac] (ydV (!a.s) (yT ao a.n ac) a.e)):
  yC 66 #[.agg #[.bool a.s,yT ao a.n ac,yi a.e,.bool b.s,yT bo b.n bc,yi b.e]] w (yR w (.agg #[.bool (!b.s),yT bo b.n bc,yi b.e,.bool (!a.s),yT ao a.n ac,yi a.e])):=by
 replace H1:Hid _:=H1;replace H2:Hid _:=H2;obtain⟨W4,hW5,q1,q2,b3⟩:=iG w [.bool a.s,yT ao a.n ac,yi a.e,.bool b.s,yT bo b.n bc,yi b.e] 68 [.bool false,yN,yi 0,.bool false,yN,yi 0] 68;replace hW5:Hid _:=hW5
 go_enter Tryd.func66,Tryd.ntmps66
 go_upto_region 1 with fail
 rw[hW5.out];clear hW5
 go_upto_region 1 with fail
 have bW6:yB W4 W4.drew:=(Below.refl _ _).drew;have q7:=q1.l bW6;have q8:=q2.l bW6;have b9:=aa b3 bW6;clear q1 q2 b3 bW6;refine wp_region_held_drew (S:=fun wq=>au wq w.heap.size 68 [.bool a.s,yT ao a.n ac,yi a.e,.bool b.s,yT bo b.n bc,yi b.e]) (by kernel_rfl) q7 (fun hS0=> ?_)
 generalize W4.drew=WD10 at q7 q8 b9 hS0⊢;refine tq 0 (.pointer (some ⟨w.heap.size,3,none⟩)) rfl (fun _ _=>by kernel_rfl) hS0 ?_
 refine tq 1 (yDV b bo bc) rfl (fun _ hw0=>fy 66 (.tmp 3) rfl w.heap.size 3 (by kernel_rfl) _ _ (kY hw0 3 3 rfl) Tryd.underlying66 rfl (by kernel_rfl)) hS0 ?_
 refine tq 3 (.pointer (some ⟨w.heap.size,0,none⟩)) rfl (fun _ _=>by kernel_rfl) hS0 ?_
 refine tq 4 (yDV a ao ac) rfl (fun _ hw0=>fy 66 (.tmp 6) rfl w.heap.size 0 (by kernel_rfl) _ _ (kY hw0 0 3 rfl) Tryd.underlying66 rfl (by kernel_rfl)) hS0 ?_
 refine wpAnyH_ready (rs:=[2]) (by kernel_rfl) (by simp) ?_;refine AllReadyH.cons rfl (fun K hK=> ?_) AllReadyH.nil
 go_simp
 refine(H1.out _).mono ?_;rintro zz w11 ⟨rfl,bb12⟩;have q13:=q7.l bb12;have q14:=q8.l bb12;have b15:=aa b9 bb12;clear q7 q8 b9 bb12 H1;refine hK.out _ _ q13 (fun hS16=> ?_)
 clear hK K;refine wpAnyH_ready (rs:=[5]) (by kernel_rfl) (by simp) ?_;refine AllReadyH.cons rfl (fun K hK=> ?_) AllReadyH.nil
 go_simp
 refine(H2.out _).mono ?_;rintro zz w17 ⟨rfl,bb18⟩;have q19:=q13.l bb18;have q20:=q14.l bb18;have b21:=aa b15 bb18;clear q13 q14 b15 bb18 H2;refine hK.out _ _ q19 (fun hS22=> ?_)
 clear hK K;refine tq 6 (.agg #[.bool (!b.s),yT bo b.n bc,yi b.e,.bool (!a.s),yT ao a.n ac,yi a.e]) rfl (fun _ _=>by kernel_rfl) hS22 ?_
 refine wpAnyH_ready (rs:=[7]) (by kernel_rfl) (by simp) ?_;refine AllReadyH.cons rfl (fun K hK=> ?_) AllReadyH.nil
 have bu:But (w.heap.size+1) w17 (w17.setCells (w.heap.size+1) 0 [.bool (!b.s),yT bo b.n bc,yi b.e,.bool (!a.s),yT ao a.n ac,yi a.e]):=de _ _ _ _;have hth:w17.there (w.heap.size+1) 0 6:=dD q20;have q23:au (w17.setCells (w.heap.size+1) 0 [.bool (!b.s),yT bo b.n bc,yi b.e,.bool (!a.s),yT ao a.n ac,yi a.e]) (w.heap.size+1) 68 [.bool (!b.s),yT bo b.n bc,yi b.e,.bool (!a.s),yT ao a.n ac,yi a.e]:=q20.sets _ rfl;have q24:=bu.loc q19 (by omega);have b25:=bu.below b21 (by omega);rw[if_pos (by kernel_rfl)];refine wp_store_mid 68 (.tmp 2) (.tmp 9) rfl (w.heap.size+1) 0 #[.bool (!b.s),yT bo b.n bc,yi b.e,.bool (!a.s),yT ao a.n ac,yi a.e] (by kernel_rfl) (by kernel_rfl) hth (by kernel_rfl) (by simp[Value.oneCell']) ?_;refine hK.out _ _ q24 (fun hS26=> ?_)
 clear hK K;clear q20 q19 b21 bu hth;refine wpAnyH_done (by kernel_rfl) ?_ _;clear hS0 hS16 hS22 hS26;change Exit.then _ _ _ _ (World.setCells w17 (w.heap.size+1) 0 [.bool (!b.s),yT bo b.n bc,yi b.e,.bool (!a.s),yT ao a.n ac,yi a.e]);generalize World.setCells w17 (w.heap.size+1) 0 [.bool (!b.s),yT bo b.n bc,yi b.e,.bool (!a.s),yT ao a.n ac,yi a.e]=W27 at q24 q23 b25⊢;simp only[Act.put,List.getElem_toArray,List.getElem_cons_succ,List.getElem_cons_zero];have hl:=run_loadVar_mid (P:=Tryd.prog) _ (w.heap.size+1) 0 68 [.bool (!b.s),yT bo b.n bc,yi b.e,.bool (!a.s),yT ao a.n ac,yi a.e] _ q23.range Tryd.underlying68 rfl (by kernel_rfl)
 go_wp2
 exact bodyPost_ret (br Tryd.results66 rfl hl) rfl ⟨rfl,b25⟩
theorem spanMinus_W (a b p q:ak)(ao bo po qo:Option Addr)(ac bc pc qc:Nat)(x y:ak)(w:World)
  (H1:yJ 66 #[.agg #[.bool p.s,yT po p.n pc,yi p.e,.bool q.s,yT qo q.n qc,yi q.e]] (.agg #[.bool (!q.s),yT qo q.n qc,yi q.e,.bool (!p.s),yT po p.n pc,yi p.e]))
  (H2: ∀w1,yB w w1→yC 58 #[.agg #[.bool a.s,yT ao a.n ac,yi a.e,.bool b.s,yT bo b.n bc,yi b.e],.agg #[.bool (!q.s),yT qo q.n qc,yi q.e,.bool (!p.s),yT po p.n pc,yi p.e]] w1 (aeT w1 x y)):
  yC 47 #[.agg #[.bool a.s,yT ao a.n ac,yi a.e,.bool b.s,yT bo b.n bc,yi b.e],.agg #[.bool p.s,yT po p.n pc,yi p.e,.bool q.s,yT qo q.n qc,yi q.e]] w (aeT w x y):=by
 replace H1:Hid _:=H1;replace H2:Hid _:=H2;obtain⟨W5,hW6,q1,q2,q3,b4⟩:=lG w [.bool a.s,yT ao a.n ac,yi a.e,.bool b.s,yT bo b.n bc,yi b.e] 68 [.bool p.s,yT po p.n pc,yi p.e,.bool q.s,yT qo q.n qc,yi q.e] 68 [.bool false,yN,yi 0,.bool false,yN,yi 0] 68;replace hW6:Hid _:=hW6
 go_enter Tryd.func47,Tryd.ntmps47
 go_upto_region 1 with fail
 rw[hW6.out];clear hW6
 go_upto_region 1 with fail
 have bW7:yB W5 W5.drew:=(Below.refl _ _).drew;have q8:=q1.l bW7;have q9:=q2.l bW7;have q10:=q3.l bW7;have b11:=aa b4 bW7;clear q1 q2 q3 b4 bW7;refine wp_region_held_drew (S:=fun wq=>au wq w.heap.size 68 [.bool a.s,yT ao a.n ac,yi a.e,.bool b.s,yT bo b.n bc,yi b.e]∧au wq (w.heap.size+1) 68 [.bool p.s,yT po p.n pc,yi p.e,.bool q.s,yT qo q.n qc,yi q.e]) (by kernel_rfl) ⟨q8,q9⟩ (fun hS0=> ?_)
 generalize W5.drew=WD12 at q8 q9 q10 b11 hS0⊢;refine tq 0 (.agg #[.bool a.s,yT ao a.n ac,yi a.e,.bool b.s,yT bo b.n bc,yi b.e]) rfl (fun _ hw0=>fy 68 (.tmp 2) rfl w.heap.size 0 (by kernel_rfl) _ _ hw0.1.range Tryd.underlying68 rfl (by kernel_rfl)) hS0 ?_
 refine tq 1 (.agg #[.bool p.s,yT po p.n pc,yi p.e,.bool q.s,yT qo q.n qc,yi q.e]) rfl (fun _ hw0=>fy 68 (.tmp 3) rfl (w.heap.size+1) 0 (by kernel_rfl) _ _ hw0.2.range Tryd.underlying68 rfl (by kernel_rfl)) hS0 ?_
 refine wpAnyH_ready (rs:=[2]) (by kernel_rfl) (by simp) ?_;refine AllReadyH.cons rfl (fun K hK=> ?_) AllReadyH.nil
 go_simp
 refine(H1.out _).mono ?_;rintro zz w13 ⟨rfl,bb14⟩;have q15:=q8.l bb14;have q16:=q9.l bb14;have q17:=q10.l bb14;have b18:=aa b11 bb14;clear q8 q9 q10 b11 bb14 H1;refine hK.out _ _ ⟨q15,q16⟩ (fun hS19=> ?_)
 clear hK K;refine wpAnyH_ready (rs:=[3]) (by kernel_rfl) (by simp) ?_;refine AllReadyH.cons rfl (fun K hK=> ?_) AllReadyH.nil
 go_simp
 refine(H2.out _ b18).mono ?_;rintro zz w20 ⟨v1x22,v2x23,rfl,r1x24,r2x25,bb21⟩;have q26:=q15.l bb21;have q27:=q16.l bb21;have q28:=q17.l bb21;have b29:=aa b18 bb21;obtain⟨xo,xc,hv⟩:=r1x24.shape;subst hv;obtain⟨yo,yc,hv⟩:=r2x25.shape;subst hv;clear q15 q16 q17 b18 bb21 H2;refine hK.out _ _ ⟨q26,q27⟩ (fun hS30=> ?_)
 clear hK K;refine wpAnyH_ready (rs:=[4]) (by kernel_rfl) (by simp) ?_;refine AllReadyH.cons rfl (fun K hK=> ?_) AllReadyH.nil
 have bu:But (w.heap.size+1+1) w20 (w20.setCells (w.heap.size+1+1) 0 [.bool x.s,yT xo x.n xc,yi x.e,.bool y.s,yT yo y.n yc,yi y.e]):=de _ _ _ _;have hth:w20.there (w.heap.size+1+1) 0 6:=dD q28;have q31:au (w20.setCells (w.heap.size+1+1) 0 [.bool x.s,yT xo x.n xc,yi x.e,.bool y.s,yT yo y.n yc,yi y.e]) (w.heap.size+1+1) 68 [.bool x.s,yT xo x.n xc,yi x.e,.bool y.s,yT yo y.n yc,yi y.e]:=q28.sets _ rfl;have r32:=bu.rd r1x24 (aX r1x24 q28 (by simp));have r33:=bu.rd r2x25 (aX r2x25 q28 (by simp));have q34:=bu.loc q26 (by omega);have q35:=bu.loc q27 (by omega);have b36:=bu.below b29 (by omega);rw[if_pos (by kernel_rfl)];refine wp_store_mid 68 (.tmp 4) (.tmp 8) rfl (w.heap.size+1+1) 0 #[.bool x.s,yT xo x.n xc,yi x.e,.bool y.s,yT yo y.n yc,yi y.e] (by kernel_rfl) (by kernel_rfl) hth (by kernel_rfl) (by simp[Value.oneCell']) ?_;refine hK.out _ _ ⟨q34,q35⟩ (fun hS37=> ?_)
 clear hK K;clear q28 r1x24 r2x25 q26 q27 b29 bu hth;refine wpAnyH_done (by kernel_rfl) ?_ _;clear hS0 hS19 hS30 hS37;change Exit.then _ _ _ _ (World.setCells w20 (w.heap.size+1+1) 0 [.bool x.s,yT xo x.n xc,yi x.e,.bool y.s,yT yo y.n yc,yi y.e]);generalize World.setCells w20 (w.heap.size+1+1) 0 [.bool x.s,yT xo x.n xc,yi x.e,.bool y.s,yT yo y.n yc,yi y.e]=W38 at q34 q35 q31 r32 r33 b36⊢;simp only[Act.put,List.getElem_toArray,List.getElem_cons_succ,List.getElem_cons_zero];have hl:=run_loadVar_mid (P:=Tryd.prog) _ (w.heap.size+1+1) 0 68 [.bool x.s,yT xo x.n xc,yi x.e,.bool y.s,yT yo y.n yc,yi y.e] _ q31.range Tryd.underlying68 rfl (by kernel_rfl)
 go_wp2
 exact bodyPost_ret (br Tryd.results47 rfl hl) rfl ⟨_,_,rfl,r32,r33,b36⟩
theorem spanScaled_W (a b:ak)(ao bo:Option Addr)(ac bc:Nat)(n m k:Int)(w:World)
  (H1:yJ 65 #[yDV a ao ac,yi n] (ydV a.s (yT ao a.n ac) m))
  (H2:yJ 65 #[yDV b bo bc,yi n] (ydV b.s (yT bo b.n bc) k)):
  yC 46 #[.agg #[.bool a.s,yT ao a.n ac,yi a.e,.bool b.s,yT bo b.n bc,yi b.e],yi n] w (yR w (.agg #[.bool a.s,yT ao a.n ac,yi m,.bool b.s,yT bo b.n bc,yi k])):=by
 replace H1:Hid _:=H1;replace H2:Hid _:=H2;obtain⟨W4,hW5,q1,q2,b3⟩:=iG w [.bool a.s,yT ao a.n ac,yi a.e,.bool b.s,yT bo b.n bc,yi b.e] 68 [.bool false,yN,yi 0,.bool false,yN,yi 0] 68;replace hW5:Hid _:=hW5
 go_enter Tryd.func46,Tryd.ntmps46
 go_upto_region 1 with fail
 rw[hW5.out];clear hW5
 go_upto_region 1 with fail
 have bW6:yB W4 W4.drew:=(Below.refl _ _).drew;have q7:=q1.l bW6;have q8:=q2.l bW6;have b9:=aa b3 bW6;clear q1 q2 b3 bW6;refine wp_region_held_drew (S:=fun wq=>au wq w.heap.size 68 [.bool a.s,yT ao a.n ac,yi a.e,.bool b.s,yT bo b.n bc,yi b.e]) (by kernel_rfl) q7 (fun hS0=> ?_)
 generalize W4.drew=WD10 at q7 q8 b9 hS0⊢;refine tq 0 (.pointer (some ⟨w.heap.size,0,none⟩)) rfl (fun _ _=>by kernel_rfl) hS0 ?_
 refine tq 1 (yDV a ao ac) rfl (fun _ hw0=>fy 66 (.tmp 5) rfl w.heap.size 0 (by kernel_rfl) _ _ (kY hw0 0 3 rfl) Tryd.underlying66 rfl (by kernel_rfl)) hS0 ?_
 refine tq 2 (yi n) rfl (fun _ _=>by kernel_rfl) hS0 ?_
 refine tq 4 (.pointer (some ⟨w.heap.size,3,none⟩)) rfl (fun _ _=>by kernel_rfl) hS0 ?_
 refine tq 5 (yDV b bo bc) rfl (fun _ hw0=>fy 66 (.tmp 9) rfl w.heap.size 3 (by kernel_rfl) _ _ (kY hw0 3 3 rfl) Tryd.underlying66 rfl (by kernel_rfl)) hS0 ?_
 refine tq 6 (yi n) rfl (fun _ _=>by kernel_rfl) hS0 ?_
 refine wpAnyH_ready (rs:=[3]) (by kernel_rfl) (by simp) ?_;refine AllReadyH.cons rfl (fun K hK=> ?_) AllReadyH.nil
 go_simp
 refine(H1.out _).mono ?_;rintro zz w11 ⟨rfl,bb12⟩;have q13:=q7.l bb12;have q14:=q8.l bb12;have b15:=aa b9 bb12;clear q7 q8 b9 bb12 H1;refine hK.out _ _ q13 (fun hS16=> ?_)
 clear hK K;refine wpAnyH_ready (rs:=[7]) (by kernel_rfl) (by simp) ?_;refine AllReadyH.cons rfl (fun K hK=> ?_) AllReadyH.nil
 go_simp
 refine(H2.out _).mono ?_;rintro zz w17 ⟨rfl,bb18⟩;have q19:=q13.l bb18;have q20:=q14.l bb18;have b21:=aa b15 bb18;clear q13 q14 b15 bb18 H2;refine hK.out _ _ q19 (fun hS22=> ?_)
 clear hK K;refine tq 8 (.agg #[.bool a.s,yT ao a.n ac,yi m,.bool b.s,yT bo b.n bc,yi k]) rfl (fun _ _=>by kernel_rfl) hS22 ?_
 refine wpAnyH_ready (rs:=[9]) (by kernel_rfl) (by simp) ?_;refine AllReadyH.cons rfl (fun K hK=> ?_) AllReadyH.nil
 have bu:But (w.heap.size+1) w17 (w17.setCells (w.heap.size+1) 0 [.bool a.s,yT ao a.n ac,yi m,.bool b.s,yT bo b.n bc,yi k]):=de _ _ _ _;have hth:w17.there (w.heap.size+1) 0 6:=dD q20;have q23:au (w17.setCells (w.heap.size+1) 0 [.bool a.s,yT ao a.n ac,yi m,.bool b.s,yT bo b.n bc,yi k]) (w.heap.size+1) 68 [.bool a.s,yT ao a.n ac,yi m,.bool b.s,yT bo b.n bc,yi k]:=q20.sets _ rfl;have q24:=bu.loc q19 (by omega);have b25:=bu.below b21 (by omega);rw[if_pos (by kernel_rfl)];refine wp_store_mid 68 (.tmp 4) (.tmp 13) rfl (w.heap.size+1) 0 #[.bool a.s,yT ao a.n ac,yi m,.bool b.s,yT bo b.n bc,yi k] (by kernel_rfl) (by kernel_rfl) hth (by kernel_rfl) (by simp[Value.oneCell']) ?_;refine hK.out _ _ q24 (fun hS26=> ?_)
 clear hK K;clear q20 q19 b21 bu hth;refine wpAnyH_done (by kernel_rfl) ?_ _;clear hS0 hS16 hS22 hS26;change Exit.then _ _ _ _ (World.setCells w17 (w.heap.size+1) 0 [.bool a.s,yT ao a.n ac,yi m,.bool b.s,yT bo b.n bc,yi k]);generalize World.setCells w17 (w.heap.size+1) 0 [.bool a.s,yT ao a.n ac,yi m,.bool b.s,yT bo b.n bc,yi k]=W27 at q24 q23 b25⊢;simp only[Act.put,List.getElem_toArray,List.getElem_cons_succ,List.getElem_cons_zero];have hl:=run_loadVar_mid (P:=Tryd.prog) _ (w.heap.size+1) 0 68 [.bool a.s,yT ao a.n ac,yi m,.bool b.s,yT bo b.n bc,yi k] _ q23.range Tryd.underlying68 rfl (by kernel_rfl)
 go_wp2
 exact bodyPost_ret (br Tryd.results46 rfl hl) rfl ⟨rfl,b25⟩
theorem spanTimes_W (a b p q:ak)(ao bo po qo:Option Addr)(ac bc pc qc:Nat)(x0 x1 x2 x3 x y:ak)(w:World)
  (H0: ∀w1,yB w w1→yC 69 #[yDV a ao ac,yDV p po pc] w1 (Lx w1 x0))
  (H1: ∀w1,yB w w1→yC 69 #[yDV a ao ac,yDV q qo qc] w1 (Lx w1 x1))
  (H2: ∀w1,yB w w1→yC 69 #[yDV b bo bc,yDV p po pc] w1 (Lx w1 x2))
  (H3: ∀w1,yB w w1→yC 69 #[yDV b bo bc,yDV q qo qc] w1 (Lx w1 x3))
  (HA: ∀pb x0o x1o x2o x3o x0c x1c x2c x3c w1,yB w w1→au w1 pb 66 [.bool x0.s,yT x0o x0.n x0c,yi x0.e,.bool x1.s,yT x1o x1.n x1c,yi x1.e,.bool x2.s,yT x2o x2.n x2c,yi x2.e,.bool x3.s,yT x3o x3.n x3c,yi x3.e]→Rd w1 .u32 (yT x0o x0.n x0c) (Dg.dg 4294967296 x0.n)→Rd w1 .u32 (yT x1o x1.n x1c) (Dg.dg 4294967296 x1.n)→Rd w1 .u32 (yT x2o x2.n x2c) (Dg.dg 4294967296 x2.n)→Rd w1 .u32 (yT x3o x3.n x3c) (Dg.dg 4294967296 x3.n)→yC 68 #[.slice (some ⟨pb,0,none⟩) 4 4] w1 (aeT w1 x y)):
  yC 56 #[.agg #[.bool a.s,yT ao a.n ac,yi a.e,.bool b.s,yT bo b.n bc,yi b.e],.agg #[.bool p.s,yT po p.n pc,yi p.e,.bool q.s,yT qo q.n qc,yi q.e]] w (aeT w x y):=by
 replace H0:Hid _:=H0;replace H1:Hid _:=H1;replace H2:Hid _:=H2;replace H3:Hid _:=H3;replace HA:Hid _:=HA;obtain⟨W5,hW6,q1,q2,q3,b4⟩:=lG w [.bool a.s,yT ao a.n ac,yi a.e,.bool b.s,yT bo b.n bc,yi b.e] 68 [.bool p.s,yT po p.n pc,yi p.e,.bool q.s,yT qo q.n qc,yi q.e] 68 [.bool false,yN,yi 0,.bool false,yN,yi 0] 68;replace hW6:Hid _:=hW6
 go_enter Tryd.func56,Tryd.ntmps56
 go_upto_region 1 with fail
 rw[hW6.out];clear hW6
 go_upto_region 1 with fail
 have bW7:yB W5 W5.drew:=(Below.refl _ _).drew;have q8:=q1.l bW7;have q9:=q2.l bW7;have q10:=q3.l bW7;have b11:=aa b4 bW7;clear q1 q2 q3 b4 bW7;refine wp_region_held_drew (S:=fun wq=>au wq w.heap.size 68 [.bool a.s,yT ao a.n ac,yi a.e,.bool b.s,yT bo b.n bc,yi b.e]∧au wq (w.heap.size+1) 68 [.bool p.s,yT po p.n pc,yi p.e,.bool q.s,yT qo q.n qc,yi q.e]) (by kernel_rfl) ⟨q8,q9⟩ (fun hS0=> ?_)
 generalize W5.drew=WD12 at q8 q9 q10 b11 hS0⊢;refine tq 0 (.pointer (some ⟨w.heap.size,0,none⟩)) rfl (fun _ _=>by kernel_rfl) hS0 ?_
 refine tq 1 (yDV a ao ac) rfl (fun _ hw0=>fy 66 (.tmp 5) rfl w.heap.size 0 (by kernel_rfl) _ _ (kY hw0.1 0 3 rfl) Tryd.underlying66 rfl (by kernel_rfl)) hS0 ?_
 refine tq 2 (.pointer (some ⟨w.heap.size+1,0,none⟩)) rfl (fun _ _=>by kernel_rfl) hS0 ?_
 refine tq 3 (yDV p po pc) rfl (fun _ hw0=>fy 66 (.tmp 7) rfl (w.heap.size+1) 0 (by kernel_rfl) _ _ (kY hw0.2 0 3 rfl) Tryd.underlying66 rfl (by kernel_rfl)) hS0 ?_
 refine tq 5 (.pointer (some ⟨w.heap.size,0,none⟩)) rfl (fun _ _=>by kernel_rfl) hS0 ?_
 refine tq 6 (yDV a ao ac) rfl (fun _ hw0=>fy 66 (.tmp 10) rfl w.heap.size 0 (by kernel_rfl) _ _ (kY hw0.1 0 3 rfl) Tryd.underlying66 rfl (by kernel_rfl)) hS0 ?_
 refine tq 7 (.pointer (some ⟨w.heap.size+1,3,none⟩)) rfl (fun _ _=>by kernel_rfl) hS0 ?_
 refine tq 8 (yDV q qo qc) rfl (fun _ hw0=>fy 66 (.tmp 12) rfl (w.heap.size+1) 3 (by kernel_rfl) _ _ (kY hw0.2 3 3 rfl) Tryd.underlying66 rfl (by kernel_rfl)) hS0 ?_
 refine tq 10 (.pointer (some ⟨w.heap.size,3,none⟩)) rfl (fun _ _=>by kernel_rfl) hS0 ?_
 refine tq 11 (yDV b bo bc) rfl (fun _ hw0=>fy 66 (.tmp 15) rfl w.heap.size 3 (by kernel_rfl) _ _ (kY hw0.1 3 3 rfl) Tryd.underlying66 rfl (by kernel_rfl)) hS0 ?_
 refine tq 12 (.pointer (some ⟨w.heap.size+1,0,none⟩)) rfl (fun _ _=>by kernel_rfl) hS0 ?_
 refine tq 13 (yDV p po pc) rfl (fun _ hw0=>fy 66 (.tmp 17) rfl (w.heap.size+1) 0 (by kernel_rfl) _ _ (kY hw0.2 0 3 rfl) Tryd.underlying66 rfl (by kernel_rfl)) hS0 ?_
 refine tq 15 (.pointer (some ⟨w.heap.size,3,none⟩)) rfl (fun _ _=>by kernel_rfl) hS0 ?_
 refine tq 16 (yDV b bo bc) rfl (fun _ hw0=>fy 66 (.tmp 20) rfl w.heap.size 3 (by kernel_rfl) _ _ (kY hw0.1 3 3 rfl) Tryd.underlying66 rfl (by kernel_rfl)) hS0 ?_
 refine tq 17 (.pointer (some ⟨w.heap.size+1,3,none⟩)) rfl (fun _ _=>by kernel_rfl) hS0 ?_
 refine tq 18 (yDV q qo qc) rfl (fun _ hw0=>fy 66 (.tmp 22) rfl (w.heap.size+1) 3 (by kernel_rfl) _ _ (kY hw0.2 3 3 rfl) Tryd.underlying66 rfl (by kernel_rfl)) hS0 ?_
 refine wpAnyH_ready (rs:=[4]) (by kernel_rfl) (by simp) ?_;refine AllReadyH.cons rfl (fun K hK=> ?_) AllReadyH.nil
 go_simp
 refine(H0.out _ b11).mono ?_;rintro zz w13 ⟨v1x15,rfl,r1x16,bb14⟩;have q17:=q8.l bb14;have q18:=q9.l bb14;have q19:=q10.l bb14;have b20:=aa b11 bb14;obtain⟨x0o,x0c,hv⟩:=r1x16.shape;subst hv;clear q8 q9 q10 b11 bb14 H0;refine hK.out _ _ ⟨q17,q18⟩ (fun hS21=> ?_)
 clear hK K;refine wpAnyH_ready (rs:=[9]) (by kernel_rfl) (by simp) ?_;refine AllReadyH.cons rfl (fun K hK=> ?_) AllReadyH.nil
 go_simp
 refine(H1.out _ b20).mono ?_;rintro zz w22 ⟨v1x24,rfl,r1x25,bb23⟩;have q26:=q17.l bb23;have q27:=q18.l bb23;have q28:=q19.l bb23;have r29:=r1x16.l bb23;have b30:=aa b20 bb23;obtain⟨x1o,x1c,hv⟩:=r1x25.shape;subst hv;clear q17 q18 q19 r1x16 b20 bb23 H1;refine hK.out _ _ ⟨q26,q27⟩ (fun hS31=> ?_)
 clear hK K;refine wpAnyH_ready (rs:=[14]) (by kernel_rfl) (by simp) ?_;refine AllReadyH.cons rfl (fun K hK=> ?_) AllReadyH.nil
 go_simp
 refine(H2.out _ b30).mono ?_;rintro zz w32 ⟨v1x34,rfl,r1x35,bb33⟩;have q36:=q26.l bb33;have q37:=q27.l bb33;have q38:=q28.l bb33;have r39:=r29.l bb33;have r40:=r1x25.l bb33;have b41:=aa b30 bb33;obtain⟨x2o,x2c,hv⟩:=r1x35.shape;subst hv;clear q26 q27 q28 r29 r1x25 b30 bb33 H2;refine hK.out _ _ ⟨q36,q37⟩ (fun hS42=> ?_)
 clear hK K;refine wpAnyH_ready (rs:=[19]) (by kernel_rfl) (by simp) ?_;refine AllReadyH.cons rfl (fun K hK=> ?_) AllReadyH.nil
 go_simp
 refine(H3.out _ b41).mono ?_;rintro zz w43 ⟨v1x45,rfl,r1x46,bb44⟩;have q47:=q36.l bb44;have q48:=q37.l bb44;have q49:=q38.l bb44;have r50:=r39.l bb44;have r51:=r40.l bb44;have r52:=r1x35.l bb44;have b53:=aa b41 bb44;obtain⟨x3o,x3c,hv⟩:=r1x46.shape;subst hv;clear q36 q37 q38 r39 r40 r1x35 b41 bb44 H3;refine hK.out _ _ ⟨q47,q48⟩ (fun hS54=> ?_)
 clear hK K;refine wpAnyH_ready (rs:=[20]) (by kernel_rfl) (by simp) ?_;refine AllReadyH.cons rfl (fun K hK=> ?_) AllReadyH.nil
 go_simp
 have al55:=af w43 (.cells #[.bool x0.s,yT x0o x0.n x0c,yi x0.e,.bool x1.s,yT x1o x1.n x1c,yi x1.e,.bool x2.s,yT x2o x2.n x2c,yi x2.e,.bool x3.s,yT x3o x3.n x3c,yi x3.e] 66);have q56:=ah w43 [.bool x0.s,yT x0o x0.n x0c,yi x0.e,.bool x1.s,yT x1o x1.n x1c,yi x1.e,.bool x2.s,yT x2o x2.n x2c,yi x2.e,.bool x3.s,yT x3o x3.n x3c,yi x3.e] 66;have hl59:w.heap.size≤w43.heap.size:=b53.size;have hl60:=q47.lt;have hl61:=q48.lt;have hl62:=q49.lt;have q63:=q47.l al55;have q64:=q48.l al55;have q65:=q49.l al55;have r66:=r50.l al55;have r67:=r51.l al55;have r68:=r52.l al55;have r69:=r1x46.l al55;have b70:=aa b53 al55;refine hK.out _ _ ⟨q63,q64⟩ (fun hS71=> ?_)
 clear hK K;clear q47 q48 q49 r50 r51 r52 r1x46 b53 al55;generalize w43.alloc (.cells #[.bool x0.s,yT x0o x0.n x0c,yi x0.e,.bool x1.s,yT x1o x1.n x1c,yi x1.e,.bool x2.s,yT x2o x2.n x2c,yi x2.e,.bool x3.s,yT x3o x3.n x3c,yi x3.e] 66)=WN57 at q63 q64 q65 q56 r66 r67 r68 r69 b70 hS71⊢;generalize w43.heap.size=PQ58 at q56 hl59 hl60 hl61 hl62⊢;refine wpAnyH_ready (rs:=[21]) (by kernel_rfl) (by simp) ?_;refine AllReadyH.cons rfl (fun K hK=> ?_) AllReadyH.nil
 go_simp
 refine(HA.out _ _ _ _ _ _ _ _ _ _ b70 q56 r66 r67 r68 r69).mono ?_;rintro zz w72 ⟨v1x74,v2x75,rfl,r1x76,r2x77,bb73⟩;have q78:=q63.l bb73;have q79:=q64.l bb73;have q80:=q65.l bb73;have r81:=r66.l bb73;have r82:=r67.l bb73;have r83:=r68.l bb73;have r84:=r69.l bb73;have b85:=aa b70 bb73;obtain⟨xo,xc,hv⟩:=r1x76.shape;subst hv;obtain⟨yo,yc,hv⟩:=r2x77.shape;subst hv;clear q63 q64 q65 q56 r66 r67 r68 r69 b70 bb73 HA;refine hK.out _ _ ⟨q78,q79⟩ (fun hS86=> ?_)
 clear hK K;refine wpAnyH_ready (rs:=[22]) (by kernel_rfl) (by simp) ?_;refine AllReadyH.cons rfl (fun K hK=> ?_) AllReadyH.nil
 have bu:But (w.heap.size+1+1) w72 (w72.setCells (w.heap.size+1+1) 0 [.bool x.s,yT xo x.n xc,yi x.e,.bool y.s,yT yo y.n yc,yi y.e]):=de _ _ _ _;have hth:w72.there (w.heap.size+1+1) 0 6:=dD q80;have q87:au (w72.setCells (w.heap.size+1+1) 0 [.bool x.s,yT xo x.n xc,yi x.e,.bool y.s,yT yo y.n yc,yi y.e]) (w.heap.size+1+1) 68 [.bool x.s,yT xo x.n xc,yi x.e,.bool y.s,yT yo y.n yc,yi y.e]:=q80.sets _ rfl;have r88:=bu.rd r81 (aX r81 q80 (by simp));have r89:=bu.rd r82 (aX r82 q80 (by simp));have r90:=bu.rd r83 (aX r83 q80 (by simp));have r91:=bu.rd r84 (aX r84 q80 (by simp));have r92:=bu.rd r1x76 (aX r1x76 q80 (by simp));have r93:=bu.rd r2x77 (aX r2x77 q80 (by simp));have q94:=bu.loc q78 (by omega);have q95:=bu.loc q79 (by omega);have b96:=bu.below b85 (by omega);rw[if_pos (by kernel_rfl)];refine wp_store_mid 68 (.tmp 4) (.tmp 26) rfl (w.heap.size+1+1) 0 #[.bool x.s,yT xo x.n xc,yi x.e,.bool y.s,yT yo y.n yc,yi y.e] (by kernel_rfl) (by kernel_rfl) hth (by kernel_rfl) (by simp[Value.oneCell']) ?_;refine hK.out _ _ ⟨q94,q95⟩ (fun hS97=> ?_)
 clear hK K;clear q80 r81 r82 r83 r84 r1x76 r2x77 q78 q79 b85 bu hth;refine wpAnyH_done (by kernel_rfl) ?_ _;clear hS0 hS21 hS31 hS42 hS54 hS71 hS86 hS97;change Exit.then _ _ _ _ (World.setCells w72 (w.heap.size+1+1) 0 [.bool x.s,yT xo x.n xc,yi x.e,.bool y.s,yT yo y.n yc,yi y.e]);generalize World.setCells w72 (w.heap.size+1+1) 0 [.bool x.s,yT xo x.n xc,yi x.e,.bool y.s,yT yo y.n yc,yi y.e]=W98 at q94 q95 q87 r88 r89 r90 r91 r92 r93 b96⊢;simp only[Act.put,List.getElem_toArray,List.getElem_cons_succ,List.getElem_cons_zero];have hl:=run_loadVar_mid (P:=Tryd.prog) _ (w.heap.size+1+1) 0 68 [.bool x.s,yT xo x.n xc,yi x.e,.bool y.s,yT yo y.n yc,yi y.e] _ q87.range Tryd.underlying68 rfl (by kernel_rfl)
 go_wp2
 exact bodyPost_ret (br Tryd.results56 rfl hl) rfl ⟨_,_,rfl,r92,r93,b96⟩
theorem signs_pos (a b:ak)(ao bo:Option Addr)(ac bc:Nat)(w:World)
  (H1:yH w 80 #[yDV a ao ac] (yi 1))
  (H2:yH w 80 #[yDV b bo bc] (yi 1)):
  yC 61 #[.agg #[.bool a.s,yT ao a.n ac,yi a.e,.bool b.s,yT bo b.n bc,yi b.e]] w (yR w (.bool true)):=by
 replace H1:Hid _:=H1;replace H2:Hid _:=H2;obtain⟨W3,hW4,q1,b2⟩:=cA w [.bool a.s,yT ao a.n ac,yi a.e,.bool b.s,yT bo b.n bc,yi b.e] 68;replace hW4:Hid _:=hW4
 go_enter Tryd.func61,Tryd.ntmps61
 go_upto_region 1 with fail
 rw[hW4.out];clear hW4
 go_upto_region 1 with fail
 have bW5:yB W3 W3.drew:=(Below.refl _ _).drew;have q6:=q1.l bW5;have b7:=aa b2 bW5;clear q1 b2 bW5;refine wp_region_held_drew (S:=fun wq=>au wq w.heap.size 68 [.bool a.s,yT ao a.n ac,yi a.e,.bool b.s,yT bo b.n bc,yi b.e]) (by kernel_rfl) q6 (fun hS0=> ?_)
 generalize W3.drew=WD8 at q6 b7 hS0⊢;refine tq 0 (.pointer (some ⟨w.heap.size,0,none⟩)) rfl (fun _ _=>by kernel_rfl) hS0 ?_
 refine tq 1 (yDV a ao ac) rfl (fun _ hw0=>fy 66 (.tmp 3) rfl w.heap.size 0 (by kernel_rfl) _ _ (kY hw0 0 3 rfl) Tryd.underlying66 rfl (by kernel_rfl)) hS0 ?_
 refine tq 3 (.pointer (some ⟨w.heap.size,3,none⟩)) rfl (fun _ _=>by kernel_rfl) hS0 ?_
 refine tq 4 (yDV b bo bc) rfl (fun _ hw0=>fy 66 (.tmp 6) rfl w.heap.size 3 (by kernel_rfl) _ _ (kY hw0 3 3 rfl) Tryd.underlying66 rfl (by kernel_rfl)) hS0 ?_
 refine wpAnyH_ready (rs:=[2]) (by kernel_rfl) (by simp) ?_;refine AllReadyH.cons rfl (fun K hK=> ?_) AllReadyH.nil
 go_simp
 refine(H1.out _ b7).mono ?_;rintro zz w9 ⟨rfl,bb10⟩;have q11:=q6.l bb10;have b12:=aa b7 bb10;clear q6 b7 bb10 H1;refine hK.out _ _ q11 (fun hS13=> ?_)
 clear hK K;refine wpAnyH_ready (rs:=[5]) (by kernel_rfl) (by simp) ?_;refine AllReadyH.cons rfl (fun K hK=> ?_) AllReadyH.nil
 go_simp
 refine(H2.out _ b12).mono ?_;rintro zz w14 ⟨rfl,bb15⟩;have q16:=q11.l bb15;have b17:=aa b12 bb15;clear q11 b12 bb15 H2;refine hK.out _ _ q16 (fun hS18=> ?_)
 clear hK K;refine tq 6 (yi 1) rfl (fun _ _=>by go_simp<;>rfl) hS18 ?_
 refine tq 7 (.bool true) rfl (fun _ _=>by go_simp<;>rfl) hS18 ?_
 refine tq 8 (.bool true) rfl (fun _ _=>by kernel_rfl) hS18 ?_
 refine wpAnyH_done (by kernel_rfl) ?_ _;clear hS0 hS13 hS18;simp only[Act.put,List.getElem_toArray,List.getElem_cons_succ,List.getElem_cons_zero,List.setIfInBounds_toArray,List.set_cons_zero,List.set_cons_succ]
 go_wp2
 go_ret
 exact⟨by simp,b17⟩
theorem spanSame_W (a b:ak)(ao bo:Option Addr)(ac bc:Nat)(x y:ak)(n:Int)(w:World)
  (HG:yH w 61 #[.agg #[.bool a.s,yT ao a.n ac,yi a.e,.bool b.s,yT bo b.n bc,yi b.e]] (.bool true))
  (H1: ∀w1,yB w w1→yC 62 #[yDV a ao ac,yi n,.bool a.s] w1 (Lx w1 x))
  (H2: ∀w1,yB w w1→yC 62 #[yDV b bo bc,yi n,.bool b.s] w1 (Lx w1 y))
  (H3: ∀xo xc yo yc w1,yB w w1→Rd w1 .u32 (yT xo x.n xc) (Dg.dg 4294967296 x.n)→Rd w1 .u32 (yT yo y.n yc) (Dg.dg 4294967296 y.n)→yC 63 #[yDV x xo xc,yDV y yo yc] w1 (yR w1 (yi 0))):
  yC 43 #[.agg #[.bool a.s,yT ao a.n ac,yi a.e,.bool b.s,yT bo b.n bc,yi b.e],yi n] w (yR w (.bool true)):=by
 replace HG:Hid _:=HG;replace H1:Hid _:=H1;replace H2:Hid _:=H2;replace H3:Hid _:=H3;obtain⟨W3,hW4,q1,b2⟩:=cA w [.bool a.s,yT ao a.n ac,yi a.e,.bool b.s,yT bo b.n bc,yi b.e] 68;replace hW4:Hid _:=hW4
 go_enter Tryd.func43,Tryd.ntmps43
 go_upto_region 1 with fail
 rw[hW4.out];clear hW4
 go_upto_region 1 with fail
 have bW5:yB W3 W3.drew:=(Below.refl _ _).drew;have q6:=q1.l bW5;have b7:=aa b2 bW5;clear q1 b2 bW5;refine wp_region_held_drew (S:=fun wq=>au wq w.heap.size 68 [.bool a.s,yT ao a.n ac,yi a.e,.bool b.s,yT bo b.n bc,yi b.e]) (by kernel_rfl) q6 (fun hS0=> ?_)
 generalize W3.drew=WD8 at q6 b7 hS0⊢;refine tq 0 (.agg #[.bool a.s,yT ao a.n ac,yi a.e,.bool b.s,yT bo b.n bc,yi b.e]) rfl (fun _ hw0=>fy 68 (.tmp 2) rfl w.heap.size 0 (by kernel_rfl) _ _ hw0.range Tryd.underlying68 rfl (by kernel_rfl)) hS0 ?_
 refine wpAnyH_ready (rs:=[1]) (by kernel_rfl) (by simp) ?_;refine AllReadyH.cons rfl (fun K hK=> ?_) AllReadyH.nil
 go_simp
 refine(HG.out _ b7).mono ?_;rintro zz w9 ⟨rfl,bb10⟩;have q11:=q6.l bb10;have b12:=aa b7 bb10;clear q6 b7 bb10 HG;refine hK.out _ _ q11 (fun hS13=> ?_)
 clear hK K;refine tq 2 (.bool true) rfl (fun _ _=>by kernel_rfl) hS13 ?_
 refine tq 3 (.pointer (some ⟨w.heap.size,0,none⟩)) rfl (fun _ _=>by kernel_rfl) hS13 ?_
 refine tq 4 (yDV a ao ac) rfl (fun _ hw0=>fy 66 (.tmp 8) rfl w.heap.size 0 (by kernel_rfl) _ _ (kY hw0 0 3 rfl) Tryd.underlying66 rfl (by kernel_rfl)) hS13 ?_
 refine tq 5 (yi n) rfl (fun _ _=>by kernel_rfl) hS13 ?_
 refine tq 6 (.pointer (some ⟨w.heap.size,0,none⟩)) rfl (fun _ _=>by kernel_rfl) hS13 ?_
 refine tq 7 (.pointer (some ⟨w.heap.size,0,none⟩)) rfl (fun _ _=>by kernel_rfl) hS13 ?_
 refine tq 8 (.pointer (some ⟨w.heap.size,0,none⟩)) rfl (fun _ _=>by kernel_rfl) hS13 ?_
 refine tq 9 (.bool a.s) rfl (fun _ hw0=>gU 4 (.tmp 13) rfl w.heap.size 0 (by kernel_rfl) _ _ Tryd.underlying4 rfl (hw0.c 0 rfl)) hS13 ?_
 refine tq 11 (.pointer (some ⟨w.heap.size,3,none⟩)) rfl (fun _ _=>by kernel_rfl) hS13 ?_
 refine tq 12 (yDV b bo bc) rfl (fun _ hw0=>fy 66 (.tmp 16) rfl w.heap.size 3 (by kernel_rfl) _ _ (kY hw0 3 3 rfl) Tryd.underlying66 rfl (by kernel_rfl)) hS13 ?_
 refine tq 13 (yi n) rfl (fun _ _=>by kernel_rfl) hS13 ?_
 refine tq 14 (.pointer (some ⟨w.heap.size,3,none⟩)) rfl (fun _ _=>by kernel_rfl) hS13 ?_
 refine tq 15 (.pointer (some ⟨w.heap.size,3,none⟩)) rfl (fun _ _=>by kernel_rfl) hS13 ?_
 refine tq 16 (.pointer (some ⟨w.heap.size,3,none⟩)) rfl (fun _ _=>by kernel_rfl) hS13 ?_
 refine tq 17 (.bool b.s) rfl (fun _ hw0=>gU 4 (.tmp 21) rfl w.heap.size 3 (by kernel_rfl) _ _ Tryd.underlying4 rfl (hw0.c 3 rfl)) hS13 ?_
 refine wpAnyH_ready (rs:=[10]) (by kernel_rfl) (by simp) ?_;refine AllReadyH.cons rfl (fun K hK=> ?_) AllReadyH.nil
 go_simp
 refine(H1.out _ b12).mono ?_;rintro zz w14 ⟨v1x16,rfl,r1x17,bb15⟩;have q18:=q11.l bb15;have b19:=aa b12 bb15;obtain⟨xo,xc,hv⟩:=r1x17.shape;subst hv;clear q11 b12 bb15 H1;refine hK.out _ _ q18 (fun hS20=> ?_)
 clear hK K;refine wpAnyH_ready (rs:=[18]) (by kernel_rfl) (by simp) ?_;refine AllReadyH.cons rfl (fun K hK=> ?_) AllReadyH.nil
 go_simp
 refine(H2.out _ b19).mono ?_;rintro zz w21 ⟨v1x23,rfl,r1x24,bb22⟩;have q25:=q18.l bb22;have r26:=r1x17.l bb22;have b27:=aa b19 bb22;obtain⟨yo,yc,hv⟩:=r1x24.shape;subst hv;clear q18 r1x17 b19 bb22 H2;refine hK.out _ _ q25 (fun hS28=> ?_)
 clear hK K;refine wpAnyH_ready (rs:=[19]) (by kernel_rfl) (by simp) ?_;refine AllReadyH.cons rfl (fun K hK=> ?_) AllReadyH.nil
 go_simp
 refine(H3.out _ _ _ _ _ b27 r26 r1x24).mono ?_;rintro zz w29 ⟨rfl,bb30⟩;have q31:=q25.l bb30;have b32:=aa b27 bb30;clear q25 r26 r1x24 b27 bb30 H3;refine hK.out _ _ q31 (fun hS33=> ?_)
 clear hK K;refine tq 20 (.bool true) rfl (fun _ _=>by go_simp) hS33 ?_
 refine tq 21 (.bool true) rfl (fun _ _=>by kernel_rfl) hS33 ?_
 refine tq 22 (.bool true) rfl (fun _ _=>by kernel_rfl) hS33 ?_
 refine wpAnyH_done (by kernel_rfl) ?_ _;clear hS0 hS13 hS20 hS28 hS33;simp only[Act.put,List.getElem_toArray,List.getElem_cons_succ,List.getElem_cons_zero,List.setIfInBounds_toArray,List.set_cons_zero,List.set_cons_succ]
 go_wp2
 go_ret
 exact⟨by simp,b32⟩
end Go.Proofs.YtiakgfmlpdfhdaaDoor
