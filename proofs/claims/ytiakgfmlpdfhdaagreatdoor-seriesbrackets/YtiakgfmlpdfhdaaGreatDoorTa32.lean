/-
  Texts laid together: Dy9, Se1, Sp1.
-/
import Derived.Test.YtiakgfmlpdfhdaaGreatDoorTa16
import Derived.Test.YtiakgfmlpdfhdaaGreatDoorTa19
import Derived.Test.YtiakgfmlpdfhdaaGreatDoorTa26
set_option maxRecDepth 100000
set_option maxHeartbeats 3200000
namespace Go.Proofs.YtiakgfmlpdfhdaaGreatDoor
open _root_.Go.Proofs.Tryz
open Go.RowKit
theorem FT (v u:Value)(a b:ak)(w:World)(hv:Dv w v a)(hu:Dv w u b)(hLa:(Dg.dg 4294967296 a.n).length≤100000)(hLb:(Dg.dg 4294967296 b.n).length≤100000)
  (ha1: -100000≤a.e) (ha2:a.e≤100000) (hb1: -100000≤b.e) (hb2:b.e≤100000):
  Calls Tryz.prog 78 #[v,u] w (jN w (aG a (dV b))):=by
 obtain⟨s0,rfl,ra⟩:=hv;obtain⟨ao,ca,rfl⟩:=ra.shape;obtain⟨s1,rfl,rb⟩:=hu;obtain⟨bo,cb,rfl⟩:=rb.shape;obtain⟨sa,an,ae⟩:=a;obtain⟨sb,bn,be⟩:=b;simp only at ra rb hLa hLb ha1 ha2 hb1 hb2⊢;have HP:Hid (∀w1,Below w.heap.size w w1→Calls Tryz.prog 41 #[.agg #[.bool sa,.slice ao (Dg.dg 4294967296 an).length ca,.int .i64 ae],.agg #[.bool (!sb),.slice bo (Dg.dg 4294967296 bn).length cb,.int .i64 be]] w1 (jN w1 (aG ⟨sa,an,ae⟩ (dV ⟨sb,bn,be⟩)))):=fun w1 b1=>
  uj _ _ ⟨sa,an,ae⟩ (dV ⟨sb,bn,be⟩) w1 ⟨_,rfl,ra.l b1⟩ ⟨_,rfl,rb.l b1⟩ hLa hLb ha1 ha2 hb1 hb2
 obtain⟨ma,hma⟩: ∃m,(Dg.dg 4294967296 an).length=m:=⟨_,rfl⟩;obtain⟨mb,hmb⟩: ∃m,(Dg.dg 4294967296 bn).length=m:=⟨_,rfl⟩;rw[hma,hmb] at HP⊢;obtain⟨⟨rs,rn,re⟩,hrr⟩: ∃r,aG ⟨sa,an,ae⟩ (dV ⟨sb,bn,be⟩)=r:=⟨_,rfl⟩;rw[hrr] at HP⊢;clear hma hmb hrr ra rb hLa hLb;obtain⟨la,lb,lc,b01,-⟩:=ju w (.bool sa) (.slice ao ma ca) (.int .i64 ae) (.bool sb) (.slice bo mb cb) (.int .i64 be) (.bool false) (.slice none 0 0) (.int .i64 0) 54 54 54;obtain⟨W,hW⟩: ∃W,(((w.alloc (.cells #[.bool sa,.slice ao ma ca,.int .i64 ae] 54)).alloc (.cells #[.bool sb,.slice bo mb cb,.int .i64 be] 54)).alloc (.cells #[.bool false,.slice none 0 0,.int .i64 0] 54))=W:=⟨_,rfl⟩;rw[hW] at la lb lc b01;have bd:Below W.heap.size W W.drew:=(Below.refl _ _).drew;replace la:=la.l bd;replace lb:=lb.l bd;replace lc:=lc.l bd;have b02:=aa b01 bd;rw[←hW] at la lb lc b02;clear bd b01 hW;obtain⟨-,⟨ca0,ca1,ca2⟩,-⟩:=id la;obtain⟨-,⟨cb0,cb1,cb2⟩,-⟩:=id lb;have ne3:w.heap.size+1+1≠w.heap.size:=by omega
 have ne4:w.heap.size≠w.heap.size+1+1:=by omega
 go_enter func78,ntmps78
 go_wp2_with fail
 go_region_held3 (fun wq=>(wq.cell? ⟨w.heap.size,0,none⟩=some (.bool sa)∧wq.cell? ⟨w.heap.size,1,none⟩=some (.slice ao ma ca)∧wq.cell? ⟨w.heap.size,2,none⟩=some (.int .i64 ae))∧wq.cell? ⟨w.heap.size+1,0,none⟩=some (.bool sb)∧wq.cell? ⟨w.heap.size+1,1,none⟩=some (.slice bo mb cb)∧wq.cell? ⟨w.heap.size+1,2,none⟩=some (.int .i64 be)) (go_keep) (first
  | (go_at_call 100;refine(YA sb bo mb cb be _).mono ?_;rintro z w5 ⟨rfl,b5⟩;have la5:=la.l b5;have lb5:=lb.l b5;have lc5:=lc.l b5;have b05:=aa b02 b5;obtain⟨-,⟨t0,t1,t2⟩,-⟩:=id la5;obtain⟨-,⟨t3,t4,t5⟩,-⟩:=id lb5)
  | (go_at_call 41;refine(HP.out w5 b05).mono ?_;rintro z w6 ⟨vr,rfl,o6,b6⟩;have la6:=la5.l b6;have lb6:=lb5.l b6;have lc6:=lc5.l b6;have b06:=aa b05 b6;obtain⟨-,⟨u0,u1,u2⟩,-⟩:=id la6;obtain⟨-,⟨u3,u4,u5⟩,-⟩:=id lb6;obtain⟨so,sc,hvt⟩:=o6.rd.shape;subst hvt;obtain⟨hl6,⟨d0,d1,d2⟩,f0,f1,f2⟩:=id lc6))
 all_goals go_wp2
 have hlt:=lc5.1;obtain⟨-,⟨g0,g1,g2⟩,-⟩:=aD lc6 (.bool rs) (.slice so (Dg.dg 4294967296 rn).length sc) (.int .i64 re);have b8:=am b06 (show w.heap.size≤w.heap.size+1+1 by omega) (.bool rs) (.slice so (Dg.dg 4294967296 rn).length sc) (.int .i64 re)
 refine bodyPost_ret (v:= .agg #[.bool rs,.slice so (Dg.dg 4294967296 rn).length sc,.int .i64 re]) (by simp[results,results78,go_sem,g0,g1,g2]) rfl ?_;exact⟨_,rfl,(o6.apart3 hlt _ _ _).lower (by have:=b05.size;omega),b8⟩
theorem iE (v u:Value)(a b:ak)(w:World)(hv:Dv w v a)(hu:Dv w u b)(hLa:(Dg.dg 4294967296 a.n).length≤100000)(hLb:(Dg.dg 4294967296 b.n).length≤100000)
  (ha1: -100000≤a.e) (ha2:a.e≤100000) (hb1: -100000≤b.e) (hb2:b.e≤100000):
  yC 45 #[v,u] w (yR w (yi (dJ (aG a (dV b))))):=by
 have HM:Hid (∀w1,yB w w1→yC 78 #[v,u] w1 (jN w1 (aG a (dV b)))):=fun w1 b1=>FT v u a b w1 (hv.l b1) (hu.l b1) hLa hLb ha1 ha2 hb1 hb2
 obtain⟨s0,rfl,ra⟩:=hv;obtain⟨ao,ca,rfl⟩:=ra.shape;obtain⟨s1,rfl,rb⟩:=hu;obtain⟨bo,cb,rfl⟩:=rb.shape;obtain⟨T,hT⟩: ∃T,aG a (dV b)=T:=⟨_,rfl⟩;rw[hT] at HM⊢;obtain⟨ma,hma⟩: ∃m,(Dg.dg 4294967296 a.n).length=m:=⟨_,rfl⟩;obtain⟨mb,hmb⟩: ∃m,(Dg.dg 4294967296 b.n).length=m:=⟨_,rfl⟩;rw[hma,hmb] at HM⊢;clear hT hma hmb ra rb;have bA:=aa (af w (.cells (ydA a.s (.slice ao ma ca) a.e) 54)) (af _ (.cells (ydA b.s (.slice bo mb cb) b.e) 54))
 go_enter func45,ntmps45
 go_wp2_with fail
 refine(HM.out _ bA).mono ?_;rintro z w1 ⟨vr,rfl,o1,b1⟩;have b01:=aa bA b1
 go_wp2_with fail
 refine(qB _ T w1 ⟨_,rfl,o1.rd⟩).mono ?_;rintro z w2 ⟨rfl,b2⟩;have b02:=aa b01 b2
 go_wp2
 go_ret
 exact⟨rfl,b02⟩
theorem dscaled_W (g:Bool)(ao:Option Addr)(la ca:Nat)(e n m:Int)(w:World)(hm:IntKind.i64.wrap (e+n)=m):
  yC 85 #[ydV g (.slice ao la ca) e,yi n] w (yR w (ydV g (.slice ao la ca) m)):=by
 obtain⟨W4,hW5,q1,q2,b3⟩:=iG w (ydL g (.slice ao la ca) e) 54 (ydL false yN 0) 54;replace hW5:Hid _:=hW5
 go_enter func85,ntmps85
 go_upto_region 1 with fail
 rw[hW5.out];clear hW5;have c7:=q1.c 2 rfl;have bu:=ag W4 w.heap.size 2 (yi m);have q6:au (W4.setCell ⟨w.heap.size,2,none⟩ (yi m)) w.heap.size 54 (ydL g (.slice ao la ca) m):=(q1.set 2 (yi m));have c8:=q1.c 2 rfl;have y9:=q1.f 2;have q10:=bu.loc q2 (by omega);have b11:=bu.below b3 (by omega);clear bu
 go_upto_region 2 with fail
 generalize W4.setCell ⟨w.heap.size,2,none⟩ (yi m)=W12 at q6 q10 b11⊢;clear q1 q2 b3 c7 c8 y9;obtain⟨c13,c14,c15⟩:=q6.cs3;have hf:=afy (P:=Tryz.prog) q10 b11 (by omega) underlying54 rfl (by kernel_rfl) (.bool g) (.slice ao la ca) (yi m);have HH:Hid (_∧_):=⟨hf.1,hf.2.1⟩;obtain⟨⟨z0,z1,z2⟩,y0,y1,y2⟩:=afA q10;clear hf q6 q10 b11
 go_wp2
 obtain⟨hl,bR⟩:=HH.out;exact bodyPost_ret (br results85 rfl hl) rfl ⟨rfl,bR⟩
theorem whole_W (n:Nat)(w:World)(hn:IntKind.u64.wrap n=(n:Int))(HF: ∀w1,yC 106 #[.int .u64 n] w1 fun z w'=> ∃v,z= .returned v∧Rd w' .u32 v (Dg.dg 4294967296 n)∧yB w1 w')
  (HN: ∀xo xc w1,yC 66 (ydA false (yT xo n xc) 0) w1 (yR w1 (ydV false (yT xo n xc) 0))):
  yC 88 #[yi n] w (Lx w ⟨false,n,0⟩):=by
 replace HF:Hid _:=HF;replace HN:Hid _:=HN;obtain⟨W3,hW4,q1,b2⟩:=cA w (ydL false yN 0) 54;replace hW4:Hid _:=hW4
 go_enter func88,ntmps88
 go_upto_region 1 with fail
 rw[hW4.out];clear hW4
 go_wp2_with fail
 refine(HF.out _).mono ?_;rintro zz w5 ⟨v1x7,rfl,r1x8,bb6⟩;have q9:=q1.l bb6;have b10:=aa b2 bb6;obtain⟨xo,xc,hv⟩:=r1x8.shape;subst hv;clear q1 b2 bb6 HF
 go_wp2_with fail
 refine(HN.out _ _ _).mono ?_;rintro zz w11 ⟨rfl,bb12⟩;have q13:=q9.l bb12;have r14:=r1x8.l bb12;have b15:=aa b10 bb12;clear q9 r1x8 b10 bb12 HN;have hf:=afy (P:=Tryz.prog) q13 b15 (by omega) underlying54 rfl (by kernel_rfl) (.bool false) (yT xo n xc) (yi 0);have HH:Hid (_∧_∧_):=⟨hf.1,hf.2.2.rd r14 (aX r14 q13 (by simp)),hf.2.1⟩;obtain⟨⟨z0,z1,z2⟩,y0,y1,y2⟩:=afA q13;clear hf q13 r14 b15
 go_wp2
 obtain⟨hl,rRx,bR⟩:=HH.out;exact bodyPost_ret (br results88 rfl hl) rfl ⟨_,rfl,rRx,bR⟩
theorem spanPlus_W (a b p q:ak)(ao bo po qo:Option Addr)(ac bc pc qc:Nat)(x y:ak)(w:World)
  (H1: ∀w1,yB w w1→yC 41 #[yDV a ao ac,yDV p po pc] w1 (Lx w1 x))
  (H2: ∀w1,yB w w1→yC 41 #[yDV b bo bc,yDV q qo qc] w1 (Lx w1 y)):
  yC 83 #[.agg #[.bool a.s,yT ao a.n ac,yi a.e,.bool b.s,yT bo b.n bc,yi b.e],.agg #[.bool p.s,yT po p.n pc,yi p.e,.bool q.s,yT qo q.n qc,yi q.e]] w (aeT w x y):=by
 replace H1:Hid _:=H1;replace H2:Hid _:=H2;obtain⟨W5,hW6,q1,q2,q3,b4⟩:=lG w [.bool a.s,yT ao a.n ac,yi a.e,.bool b.s,yT bo b.n bc,yi b.e] 57 [.bool p.s,yT po p.n pc,yi p.e,.bool q.s,yT qo q.n qc,yi q.e] 57 [.bool false,yN,yi 0,.bool false,yN,yi 0] 57;replace hW6:Hid _:=hW6
 go_enter func83,ntmps83
 go_upto_region 1 with fail
 rw[hW6.out];clear hW6
 go_upto_region 1 with fail
 have bW7:yB W5 W5.drew:=(Below.refl _ _).drew;have q8:=q1.l bW7;have q9:=q2.l bW7;have q10:=q3.l bW7;have b11:=aa b4 bW7;clear q1 q2 q3 b4 bW7;refine wp_region_held_drew (S:=fun wq=>au wq w.heap.size 57 [.bool a.s,yT ao a.n ac,yi a.e,.bool b.s,yT bo b.n bc,yi b.e]∧au wq (w.heap.size+1) 57 [.bool p.s,yT po p.n pc,yi p.e,.bool q.s,yT qo q.n qc,yi q.e]) (by kernel_rfl) ⟨q8,q9⟩ (fun hS0=> ?_)
 generalize W5.drew=WD12 at q8 q9 q10 b11 hS0⊢;refine tq 0 (.pointer (some ⟨w.heap.size,0,none⟩)) rfl (fun _ _=>by kernel_rfl) hS0 ?_
 refine tq 1 (yDV a ao ac) rfl (fun _ hw0=>fy 54 (.tmp 5) rfl w.heap.size 0 (by kernel_rfl) _ _ (kY hw0.1 0 3 rfl) underlying54 rfl (by kernel_rfl)) hS0 ?_
 refine tq 2 (.pointer (some ⟨w.heap.size+1,0,none⟩)) rfl (fun _ _=>by kernel_rfl) hS0 ?_
 refine tq 3 (yDV p po pc) rfl (fun _ hw0=>fy 54 (.tmp 7) rfl (w.heap.size+1) 0 (by kernel_rfl) _ _ (kY hw0.2 0 3 rfl) underlying54 rfl (by kernel_rfl)) hS0 ?_
 refine tq 5 (.pointer (some ⟨w.heap.size,3,none⟩)) rfl (fun _ _=>by kernel_rfl) hS0 ?_
 refine tq 6 (yDV b bo bc) rfl (fun _ hw0=>fy 54 (.tmp 10) rfl w.heap.size 3 (by kernel_rfl) _ _ (kY hw0.1 3 3 rfl) underlying54 rfl (by kernel_rfl)) hS0 ?_
 refine tq 7 (.pointer (some ⟨w.heap.size+1,3,none⟩)) rfl (fun _ _=>by kernel_rfl) hS0 ?_
 refine tq 8 (yDV q qo qc) rfl (fun _ hw0=>fy 54 (.tmp 12) rfl (w.heap.size+1) 3 (by kernel_rfl) _ _ (kY hw0.2 3 3 rfl) underlying54 rfl (by kernel_rfl)) hS0 ?_
 refine wpAnyH_ready (rs:=[4]) (by kernel_rfl) (by simp) ?_;refine AllReadyH.cons rfl (fun K hK=> ?_) AllReadyH.nil
 go_simp
 refine(H1.out _ b11).mono ?_;rintro zz w13 ⟨v1x15,rfl,r1x16,bb14⟩;have q17:=q8.l bb14;have q18:=q9.l bb14;have q19:=q10.l bb14;have b20:=aa b11 bb14;obtain⟨xo,xc,hv⟩:=r1x16.shape;subst hv;clear q8 q9 q10 b11 bb14 H1;refine hK.out _ _ ⟨q17,q18⟩ (fun hS21=> ?_)
 clear hK K;refine wpAnyH_ready (rs:=[9]) (by kernel_rfl) (by simp) ?_;refine AllReadyH.cons rfl (fun K hK=> ?_) AllReadyH.nil
 go_simp
 refine(H2.out _ b20).mono ?_;rintro zz w22 ⟨v1x24,rfl,r1x25,bb23⟩;have q26:=q17.l bb23;have q27:=q18.l bb23;have q28:=q19.l bb23;have r29:=r1x16.l bb23;have b30:=aa b20 bb23;obtain⟨yo,yc,hv⟩:=r1x25.shape;subst hv;clear q17 q18 q19 r1x16 b20 bb23 H2;refine hK.out _ _ ⟨q26,q27⟩ (fun hS31=> ?_)
 clear hK K;refine tq 10 (.agg #[.bool x.s,yT xo x.n xc,yi x.e,.bool y.s,yT yo y.n yc,yi y.e]) rfl (fun _ _=>by kernel_rfl) hS31 ?_
 refine wpAnyH_ready (rs:=[11]) (by kernel_rfl) (by simp) ?_;refine AllReadyH.cons rfl (fun K hK=> ?_) AllReadyH.nil
 have bu:But (w.heap.size+1+1) w22 (w22.setCells (w.heap.size+1+1) 0 [.bool x.s,yT xo x.n xc,yi x.e,.bool y.s,yT yo y.n yc,yi y.e]):=de _ _ _ _;have hth:w22.there (w.heap.size+1+1) 0 6:=dD q28;have q32:au (w22.setCells (w.heap.size+1+1) 0 [.bool x.s,yT xo x.n xc,yi x.e,.bool y.s,yT yo y.n yc,yi y.e]) (w.heap.size+1+1) 57 [.bool x.s,yT xo x.n xc,yi x.e,.bool y.s,yT yo y.n yc,yi y.e]:=q28.sets _ rfl;have r33:=bu.rd r29 (aX r29 q28 (by simp));have r34:=bu.rd r1x25 (aX r1x25 q28 (by simp));have q35:=bu.loc q26 (by omega);have q36:=bu.loc q27 (by omega);have b37:=bu.below b30 (by omega);rw[if_pos (by kernel_rfl)];refine wp_store_mid 57 (.tmp 4) (.tmp 15) rfl (w.heap.size+1+1) 0 #[.bool x.s,yT xo x.n xc,yi x.e,.bool y.s,yT yo y.n yc,yi y.e] (by kernel_rfl) (by kernel_rfl) hth (by kernel_rfl) (by simp[Value.oneCell']) ?_;refine hK.out _ _ ⟨q35,q36⟩ (fun hS38=> ?_)
 clear hK K;clear q28 r29 r1x25 q26 q27 b30 bu hth;refine wpAnyH_done (by kernel_rfl) ?_ _;clear hS0 hS21 hS31 hS38;change Exit.then _ _ _ _ (World.setCells w22 (w.heap.size+1+1) 0 [.bool x.s,yT xo x.n xc,yi x.e,.bool y.s,yT yo y.n yc,yi y.e]);generalize World.setCells w22 (w.heap.size+1+1) 0 [.bool x.s,yT xo x.n xc,yi x.e,.bool y.s,yT yo y.n yc,yi y.e]=W39 at q35 q36 q32 r33 r34 b37⊢;simp only[Act.put,List.getElem_toArray,List.getElem_cons_succ,List.getElem_cons_zero];have hl:=run_loadVar_mid (P:=Tryz.prog) _ (w.heap.size+1+1) 0 57 [.bool x.s,yT xo x.n xc,yi x.e,.bool y.s,yT yo y.n yc,yi y.e] _ q32.range underlying57 rfl (by kernel_rfl)
 go_wp2
 exact bodyPost_ret (br results83 rfl hl) rfl ⟨_,_,rfl,r33,r34,b37⟩
theorem spanScaled_W (a b:ak)(ao bo:Option Addr)(ac bc:Nat)(n m k:Int)(w:World)
  (H1:yJ 85 #[yDV a ao ac,yi n] (ydV a.s (yT ao a.n ac) m))
  (H2:yJ 85 #[yDV b bo bc,yi n] (ydV b.s (yT bo b.n bc) k)):
  yC 60 #[.agg #[.bool a.s,yT ao a.n ac,yi a.e,.bool b.s,yT bo b.n bc,yi b.e],yi n] w (yR w (.agg #[.bool a.s,yT ao a.n ac,yi m,.bool b.s,yT bo b.n bc,yi k])):=by
 replace H1:Hid _:=H1;replace H2:Hid _:=H2;obtain⟨W4,hW5,q1,q2,b3⟩:=iG w [.bool a.s,yT ao a.n ac,yi a.e,.bool b.s,yT bo b.n bc,yi b.e] 57 [.bool false,yN,yi 0,.bool false,yN,yi 0] 57;replace hW5:Hid _:=hW5
 go_enter func60,ntmps60
 go_upto_region 1 with fail
 rw[hW5.out];clear hW5
 go_upto_region 1 with fail
 have bW6:yB W4 W4.drew:=(Below.refl _ _).drew;have q7:=q1.l bW6;have q8:=q2.l bW6;have b9:=aa b3 bW6;clear q1 q2 b3 bW6;refine wp_region_held_drew (S:=fun wq=>au wq w.heap.size 57 [.bool a.s,yT ao a.n ac,yi a.e,.bool b.s,yT bo b.n bc,yi b.e]) (by kernel_rfl) q7 (fun hS0=> ?_)
 generalize W4.drew=WD10 at q7 q8 b9 hS0⊢;refine tq 0 (.pointer (some ⟨w.heap.size,0,none⟩)) rfl (fun _ _=>by kernel_rfl) hS0 ?_
 refine tq 1 (yDV a ao ac) rfl (fun _ hw0=>fy 54 (.tmp 5) rfl w.heap.size 0 (by kernel_rfl) _ _ (kY hw0 0 3 rfl) underlying54 rfl (by kernel_rfl)) hS0 ?_
 refine tq 2 (yi n) rfl (fun _ _=>by kernel_rfl) hS0 ?_
 refine tq 4 (.pointer (some ⟨w.heap.size,3,none⟩)) rfl (fun _ _=>by kernel_rfl) hS0 ?_
 refine tq 5 (yDV b bo bc) rfl (fun _ hw0=>fy 54 (.tmp 9) rfl w.heap.size 3 (by kernel_rfl) _ _ (kY hw0 3 3 rfl) underlying54 rfl (by kernel_rfl)) hS0 ?_
 refine tq 6 (yi n) rfl (fun _ _=>by kernel_rfl) hS0 ?_
 refine wpAnyH_ready (rs:=[3]) (by kernel_rfl) (by simp) ?_;refine AllReadyH.cons rfl (fun K hK=> ?_) AllReadyH.nil
 go_simp
 refine(H1.out _).mono ?_;rintro zz w11 ⟨rfl,bb12⟩;have q13:=q7.l bb12;have q14:=q8.l bb12;have b15:=aa b9 bb12;clear q7 q8 b9 bb12 H1;refine hK.out _ _ q13 (fun hS16=> ?_)
 clear hK K;refine wpAnyH_ready (rs:=[7]) (by kernel_rfl) (by simp) ?_;refine AllReadyH.cons rfl (fun K hK=> ?_) AllReadyH.nil
 go_simp
 refine(H2.out _).mono ?_;rintro zz w17 ⟨rfl,bb18⟩;have q19:=q13.l bb18;have q20:=q14.l bb18;have b21:=aa b15 bb18;clear q13 q14 b15 bb18 H2;refine hK.out _ _ q19 (fun hS22=> ?_)
 clear hK K;refine tq 8 (.agg #[.bool a.s,yT ao a.n ac,yi m,.bool b.s,yT bo b.n bc,yi k]) rfl (fun _ _=>by kernel_rfl) hS22 ?_
 refine wpAnyH_ready (rs:=[9]) (by kernel_rfl) (by simp) ?_;refine AllReadyH.cons rfl (fun K hK=> ?_) AllReadyH.nil
 have bu:But (w.heap.size+1) w17 (w17.setCells (w.heap.size+1) 0 [.bool a.s,yT ao a.n ac,yi m,.bool b.s,yT bo b.n bc,yi k]):=de _ _ _ _;have hth:w17.there (w.heap.size+1) 0 6:=dD q20;have q23:au (w17.setCells (w.heap.size+1) 0 [.bool a.s,yT ao a.n ac,yi m,.bool b.s,yT bo b.n bc,yi k]) (w.heap.size+1) 57 [.bool a.s,yT ao a.n ac,yi m,.bool b.s,yT bo b.n bc,yi k]:=q20.sets _ rfl;have q24:=bu.loc q19 (by omega);have b25:=bu.below b21 (by omega);rw[if_pos (by kernel_rfl)];refine wp_store_mid 57 (.tmp 4) (.tmp 13) rfl (w.heap.size+1) 0 #[.bool a.s,yT ao a.n ac,yi m,.bool b.s,yT bo b.n bc,yi k] (by kernel_rfl) (by kernel_rfl) hth (by kernel_rfl) (by simp[Value.oneCell']) ?_;refine hK.out _ _ q24 (fun hS26=> ?_)
 clear hK K;clear q20 q19 b21 bu hth;refine wpAnyH_done (by kernel_rfl) ?_ _;clear hS0 hS16 hS22 hS26;change Exit.then _ _ _ _ (World.setCells w17 (w.heap.size+1) 0 [.bool a.s,yT ao a.n ac,yi m,.bool b.s,yT bo b.n bc,yi k]);generalize World.setCells w17 (w.heap.size+1) 0 [.bool a.s,yT ao a.n ac,yi m,.bool b.s,yT bo b.n bc,yi k]=W27 at q24 q23 b25⊢;simp only[Act.put,List.getElem_toArray,List.getElem_cons_succ,List.getElem_cons_zero];have hl:=run_loadVar_mid (P:=Tryz.prog) _ (w.heap.size+1) 0 57 [.bool a.s,yT ao a.n ac,yi m,.bool b.s,yT bo b.n bc,yi k] _ q23.range underlying57 rfl (by kernel_rfl)
 go_wp2
 exact bodyPost_ret (br results60 rfl hl) rfl ⟨rfl,b25⟩
theorem whole_any (n:Nat)(w:World)(h:n<9223372036854775808):yC 88 #[yi n] w (Lx w ⟨false,n,0⟩):=
 whole_W n w (IntWalk.u64_in _ ⟨by omega,by omega⟩) (fun w1=>(KH n (by omega) w1).mono fun _ _ ⟨v,h1,h2,h3⟩=>⟨v,h1,h2.rd,h3⟩) (fun xo xc w1=>l9 _ _ _ _ _ w1)
end Go.Proofs.YtiakgfmlpdfhdaaGreatDoor
