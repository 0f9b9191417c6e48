/-
  Texts laid together: Dy3, Ar1.
-/
import Derived.Laws.ResultCell
import Derived.Test.YtpainhklfoaniaaGreatDoorSc11
set_option maxRecDepth 100000
set_option maxHeartbeats 6400000
namespace Go.Proofs.YtpainhklfoaniaaGreatDoor
open _root_.Go.Proofs.Tryz
open Go.RowKit
def bU (t:ak):ak×Int:=
 if 1200< (Dg.dg 4294967296 (bare t).n).length then(⟨false,0,0⟩,2) else if(bare t).e< -20000∨20000< (bare t).e then(⟨false,0,0⟩,3) else(bare t,0)
def gR (w:World)(r:ak×Int)(e:Ending)(w':World):Prop:=
 ∃s,e= .returned (.tuple #[ydV r.1.s s r.1.e,yi r.2])∧Own w' w.heap.size 108 .u32 s (Dg.dg 4294967296 r.1.n)∧yB w w'
theorem Loc.apart {w:World}{b c:Nat}{v0 v1 v2:Value}(h:Loc w b v0 v1 v2)(hne:c≠b)(x0 x1 x2:Value):
  Loc (((w.setCell ⟨c,0,none⟩ x0).setCell ⟨c,1,none⟩ x1).setCell ⟨c,2,none⟩ x2) b v0 v1 v2:=by
 obtain⟨hl,⟨c0,c1,c2⟩,f0,f1,f2⟩:=h;refine⟨by simpa using hl,⟨?_, ?_, ?_⟩,by simpa using f0,by simpa using f1,by simpa using f2⟩
 ·rw[World.cell?_setCell_other (h:=by simp),World.cell?_setCell_other (h:=by simp),World.cell?_setCell_other (h:=by simp)];exact c0
 ·rw[World.cell?_setCell_other (h:=by simp),World.cell?_setCell_other (h:=by simp),World.cell?_setCell_other (h:=by simp)];exact c1
 ·rw[World.cell?_setCell_other (h:=by simp),World.cell?_setCell_other (h:=by simp),World.cell?_setCell_other (h:=by simp)];exact c2
theorem am {B b:Nat}{w w1:World}(h:Below B w w1)(hb:B≤b)(x0 x1 x2:Value):Below B w (((w1.setCell ⟨b,0,none⟩ x0).setCell ⟨b,1,none⟩ x1).setCell ⟨b,2,none⟩ x2):=
 ((h.setCell (p:=⟨b,0,none⟩) hb x0).setCell (p:=⟨b,1,none⟩) hb x1).setCell (p:=⟨b,2,none⟩) hb x2
theorem kL (v:Value)(t:ak)(w:World)(hv:Dv w v t)(hL:(Dg.dg 4294967296 t.n).length≤500000)(he: -1000000≤t.e∧t.e≤1000000)(hT:Tab w)(htz:tz t.n≤1000000):
  yC 158 #[v] w (gR w (bU t)):=by
 have HB:Hid (∀w1,yB w w1→yC 156 #[v] w1 (jN w1 (bare t))):=fun w1 b1=>II v t w1 (hv.l b1) hL he (hT.l b1) htz
 obtain⟨s0,rfl,hr⟩:=hv;obtain⟨ao,ca,rfl⟩:=hr.shape;obtain⟨ts,n,e⟩:=t;simp only at hr hL he htz⊢HB;obtain⟨m,hm⟩: ∃m,(Dg.dg 4294967296 n).length=m:=⟨_,rfl⟩;rw[hm] at HB⊢;obtain⟨⟨bs,bn,be⟩,hbt⟩: ∃bt,bare ⟨ts,n,e⟩=bt:=⟨_,rfl⟩;unfold bU;rw[hbt] at HB⊢;simp only at HB⊢;clear hbt hm hr hL he htz hT;have l1:=(aA w (.bool ts) (.slice ao m ca) (yi e) 205).l (af _ (.cells (ydA false yN 0) 86));have l2:=aA (w.alloc (.cells (ydA ts (.slice ao m ca) e) 205)) (.bool false) yN (yi 0) 86;have bA:=aa (af w (.cells (ydA ts (.slice ao m ca) e) 205)) (af _ (.cells (ydA false yN 0) 86));rw[World.size_alloc] at l2
 by_cases h1:1200< (Dg.dg 4294967296 bn).length
 ·rw[if_pos h1]
  go_enter func158,ntmps158
  go_wp2_with fail
  refine(HB.out _ bA).mono ?_;rintro x w1 ⟨s,rfl,own1,b1⟩;have l1:=l1.l b1;have l2:=l2.l b1;have b01:=aa bA b1;rw[World.size_alloc,World.size_alloc] at own1;obtain⟨so,sc,hs⟩:=own1.rd.shape;subst hs;obtain⟨hl1,⟨c0,c1,c2⟩,f0,f1,f2⟩:=id l1;obtain⟨hl2,⟨d0,d1,d2⟩,k0,k1,k2⟩:=id l2;clear bA b1 HB
  go_wp2
  obtain⟨-,⟨g0,g1,g2⟩,-⟩:=aD (l2.apart (c:=w.heap.size) (by omega) (.bool bs) (yT so bn sc) (yi be)) (.bool false) yN (yi 0);have b2:=am (am b01 (Nat.le_refl _) (.bool bs) (yT so bn sc) (yi be)) (show w.heap.size≤w.heap.size+1 by omega) (.bool false) yN (yi 0)
  refine bodyPost_ret (v:= .tuple #[.agg #[(.bool false),yN,(yi 0)],yi 2]) (by simp[results,results158,go_sem,g0,g1,g2]) rfl ?_;exact⟨_,rfl,aQ _ _ _ _,b2⟩
 ·rw[if_neg h1]
  by_cases h2:be< -20000
  ·rw[if_pos (Or.inl h2)]
   go_enter func158,ntmps158
   go_wp2_with fail
   refine(HB.out _ bA).mono ?_;rintro x w1 ⟨s,rfl,own1,b1⟩;have l1:=l1.l b1;have l2:=l2.l b1;have b01:=aa bA b1;rw[World.size_alloc,World.size_alloc] at own1;obtain⟨so,sc,hs⟩:=own1.rd.shape;subst hs;obtain⟨hl1,⟨c0,c1,c2⟩,f0,f1,f2⟩:=id l1;obtain⟨hl2,⟨d0,d1,d2⟩,k0,k1,k2⟩:=id l2;clear bA b1 HB
   go_wp2
   obtain⟨-,⟨g0,g1,g2⟩,-⟩:=aD (l2.apart (c:=w.heap.size) (by omega) (.bool bs) (yT so bn sc) (yi be)) (.bool false) yN (yi 0);have b2:=am (am b01 (Nat.le_refl _) (.bool bs) (yT so bn sc) (yi be)) (show w.heap.size≤w.heap.size+1 by omega) (.bool false) yN (yi 0)
   refine bodyPost_ret (v:= .tuple #[.agg #[(.bool false),yN,(yi 0)],yi 3]) (by simp[results,results158,go_sem,g0,g1,g2]) rfl ?_;exact⟨_,rfl,aQ _ _ _ _,b2⟩
  ·by_cases h3:20000<be
   ·rw[if_pos (Or.inr h3)]
    go_enter func158,ntmps158
    go_wp2_with fail
    refine(HB.out _ bA).mono ?_;rintro x w1 ⟨s,rfl,own1,b1⟩;have l1:=l1.l b1;have l2:=l2.l b1;have b01:=aa bA b1;rw[World.size_alloc,World.size_alloc] at own1;obtain⟨so,sc,hs⟩:=own1.rd.shape;subst hs;obtain⟨hl1,⟨c0,c1,c2⟩,f0,f1,f2⟩:=id l1;obtain⟨hl2,⟨d0,d1,d2⟩,k0,k1,k2⟩:=id l2;clear bA b1 HB
    go_wp2
    obtain⟨-,⟨g0,g1,g2⟩,-⟩:=aD (l2.apart (c:=w.heap.size) (by omega) (.bool bs) (yT so bn sc) (yi be)) (.bool false) yN (yi 0);have b2:=am (am b01 (Nat.le_refl _) (.bool bs) (yT so bn sc) (yi be)) (show w.heap.size≤w.heap.size+1 by omega) (.bool false) yN (yi 0)
    refine bodyPost_ret (v:= .tuple #[.agg #[(.bool false),yN,(yi 0)],yi 3]) (by simp[results,results158,go_sem,g0,g1,g2]) rfl ?_;exact⟨_,rfl,aQ _ _ _ _,b2⟩
   ·rw[if_neg (by omega)]
    go_enter func158,ntmps158
    go_wp2_with fail
    refine(HB.out _ bA).mono ?_;rintro x w1 ⟨s,rfl,own1,b1⟩;have l1:=l1.l b1;have l2:=l2.l b1;have b01:=aa bA b1;rw[World.size_alloc,World.size_alloc] at own1;obtain⟨so,sc,hs⟩:=own1.rd.shape;subst hs;obtain⟨hl1,⟨c0,c1,c2⟩,f0,f1,f2⟩:=id l1;obtain⟨hl2,⟨d0,d1,d2⟩,k0,k1,k2⟩:=id l2;clear bA b1 HB
    go_wp2
    obtain⟨-,⟨g0,g1,g2⟩,-⟩:=aD (l2.apart (c:=w.heap.size) (by omega) (.bool bs) (yT so bn sc) (yi be)) (.bool bs) (yT so bn sc) (yi be);have own2:=(own1.apart3 (b:=w.heap.size) (by omega) (.bool bs) (yT so bn sc) (yi be)).apart3 (b:=w.heap.size+1) (by omega) (.bool bs) (yT so bn sc) (yi be);have b2:=am (am b01 (Nat.le_refl _) (.bool bs) (yT so bn sc) (yi be)) (show w.heap.size≤w.heap.size+1 by omega) (.bool bs) (yT so bn sc) (yi be)
    refine bodyPost_ret (v:= .tuple #[.agg #[(.bool bs),(yT so bn sc),(yi be)],yi 0]) (by simp[results,results158,go_sem,g0,g1,g2]) rfl ?_;exact⟨_,rfl,own2.lower (by omega),b2⟩
theorem FM (n er:Int)(her:er≠0)(w:World)
  (HG:yJ 63 #[yi n] (.tuple #[ygV 0 0 0 0 false,yi er])):
  yC 75 #[yi n] w (yR w (.tuple #[ykV 0 0 0 0 0 0 0 false,yi er])):=by
 replace HG:Hid _:=HG;have he:(er==0)=false:=by simpa using her
 have d0:=ah w (ykL 0 0 0 0 0 0 0 false) 143;have b0:=af w (.cells (ykA 0 0 0 0 0 0 0 false) 143);clear her
 go_enter func75,ntmps75
 go_wp2_with fail
 refine(HG.out _).mono ?_;rintro z w1 ⟨rfl,b1⟩;have bg:=af w1 (.cells (ygA 0 0 0 0 false) 26);have d1:=(d0.l b1).l bg;have b01:=aa (aa b0 b1) bg
 go_upto_region 3 with fail
 generalize w1.alloc (.cells (ygA 0 0 0 0 false) 26)=W1 at d1 b01⊢;have cR:au ((((((((W1.setCell ⟨w.heap.size,0,none⟩ (yi 0)).setCell ⟨w.heap.size,1,none⟩ (yi 0)).setCell ⟨w.heap.size,2,none⟩ (yi 0)).setCell ⟨w.heap.size,3,none⟩ (yi 0)).setCell ⟨w.heap.size,4,none⟩ (yi 0)).setCell ⟨w.heap.size,5,none⟩ (yi 0)).setCell ⟨w.heap.size,6,none⟩ (yi 0)).setCell ⟨w.heap.size,7,none⟩ (.bool false)) w.heap.size 143 (ykL 0 0 0 0 0 0 0 false):=((((((((d1.set 0 (yi 0)).set 1 (yi 0)).set 2 (yi 0)).set 3 (yi 0)).set 4 (yi 0)).set 5 (yi 0)).set 6 (yi 0)).set 7 (.bool false));have bR:=((((((((ag W1 w.heap.size 0 (yi 0)).trans (ag _ w.heap.size 1 (yi 0))).trans (ag _ w.heap.size 2 (yi 0))).trans (ag _ w.heap.size 3 (yi 0))).trans (ag _ w.heap.size 4 (yi 0))).trans (ag _ w.heap.size 5 (yi 0))).trans (ag _ w.heap.size 6 (yi 0))).trans (ag _ w.heap.size 7 (.bool false))).below b01 (Nat.le_refl _);have hl:=run_loadVar_mid (P:=Tryz.prog) _ w.heap.size 0 143 (ykL 0 0 0 0 0 0 0 false) _ cR.range underlying143 rfl (by kernel_rfl);have HH:Hid (_∧_):=⟨hl,bR⟩;obtain⟨x0,x1,x2,x3,x4,x5,x6,x7⟩:=d1.cs8;have f0:=d1.f 0;have f1:=d1.f 1;have f2:=d1.f 2;have f3:=d1.f 3;have f4:=d1.f 4;have f5:=d1.f 5;have f6:=d1.f 6;have f7:=d1.f 7;clear hl bR cR d1 b01 d0 b0 b1 bg HG
 go_wp2
 obtain⟨hl,bR⟩:=HH.out;exact bodyPost_ret (aj results75 rfl rfl hl) rfl ⟨rfl,bR⟩
theorem Yr (n R D L G fam:Int)(gr:Bool)(w:World)
  (HG:yJ 63 #[yi n] (.tuple #[ygV R D L G gr,yi 0]))
  (HF: ∀w1,yC 38 #[yi n] w1 fun z w'=>z= .returned (yi fam)∧w'=w1):
  yC 75 #[yi n] w (yR w (.tuple #[ykV n 0 fam R D L G gr,yi 0])):=by
 replace HG:Hid _:=HG;replace HF:Hid _:=HF;have d0:=ah w (ykL 0 0 0 0 0 0 0 false) 143;have b0:=af w (.cells (ykA 0 0 0 0 0 0 0 false) 143)
 go_enter func75,ntmps75
 go_wp2_with fail
 refine(HG.out _).mono ?_;rintro z w1 ⟨rfl,b1⟩;have bg:=af w1 (.cells (ygA R D L G gr) 26);have g1:=ah w1 (ygL R D L G gr) 26;have d1:=(d0.l b1).l bg;have b01:=aa (aa b0 b1) bg;have hlt:w.heap.size<w1.heap.size:=(d0.l b1).lt
 go_upto_region 4 with fail
 generalize w1.alloc (.cells (ygA R D L G gr) 26)=W1 at g1 d1 b01⊢;generalize w1.heap.size=PG at g1 hlt⊢;have hne:w.heap.size≠PG:=by omega
 have gd:=g1.drew;have dd:=d1.drew;have bd:=b01.drew;have bR:yB w (W1.drew.setCells w.heap.size 0 (ykL n 0 fam R D L G gr)):=((((((((ag W1.drew w.heap.size 0 (yi n)).trans (ag _ w.heap.size 1 (yi 0))).trans (ag _ w.heap.size 2 (yi fam))).trans (ag _ w.heap.size 3 (yi R))).trans (ag _ w.heap.size 4 (yi D))).trans (ag _ w.heap.size 5 (yi L))).trans (ag _ w.heap.size 6 (yi G))).trans (ag _ w.heap.size 7 (.bool gr))).below bd (Nat.le_refl _);have hl:=run_loadVar_mid (P:=Tryz.prog) _ w.heap.size 0 143 (ykL n 0 fam R D L G gr) _ (World.rangeAt_setCells_same W1.drew w.heap.size 0 (ykL n 0 fam R D L G gr) (show W1.drew.there w.heap.size 0 8 from dD dd)) underlying143 rfl (by kernel_rfl)
 have HH:Hid (_∧_):=⟨hl,bR⟩;clear hl bR b01 d0 b0 b1 bg HG bd d1 g1;refine wp_region_held_drew (S:=fun wq=>wq.rangeAt PG 0 (ygL R D L G gr)) (by kernel_rfl) gd.range (fun hS0=> ?_)
 refine tq 0 (yi n) rfl (fun w0 _=>by kernel_rfl) hS0 ?_
 refine tq 1 (yi n) rfl (fun w0 _=>by kernel_rfl) hS0 ?_
 refine tq 3 ((ygV R D L G gr)) rfl (fun w0 hw0=>fy 26 (.tmp 4) rfl PG 0 (by kernel_rfl) _ _ hw0 underlying26 rfl (by kernel_rfl)) hS0 ?_
 refine wpAnyH_ready (rs:=[2]) (by kernel_rfl) (by simp) ?_;refine AllReadyH.cons rfl (fun K hK=> ?_) AllReadyH.nil
 go_simp
 refine(HF.out _).mono ?_;rintro z w2 ⟨rfl,rfl⟩;refine hK.out _ _ hS0 (fun hS2=> ?_)
 clear hK K;refine tq 4 ((ykV n 0 fam R D L G gr)) rfl (fun w0 _=>by kernel_rfl) hS2 ?_
 refine wpAnyH_ready (rs:=[5]) (by kernel_rfl) (by simp) ?_;refine AllReadyH.cons rfl (fun K hK=> ?_) AllReadyH.nil
 rw[if_pos (by kernel_rfl)];refine wp_store_mid 143 (.tmp 2) (.tmp 19) rfl w.heap.size 0 (ykA n 0 fam R D L G gr) (by kernel_rfl) (by kernel_rfl) (show W1.drew.there w.heap.size 0 8 from dD dd) (by kernel_rfl) (by simp[Value.oneCell']) ?_
 refine hK.out _ _ (World.rangeAt_setCells_apart hS2 _ _ _ (.inl (by omega))) (fun hS5=> ?_)
 clear hK K;refine tq 6 (yi 0) rfl (fun w0 _=>by kernel_rfl) hS5 ?_
 refine wpAnyH_done (by kernel_rfl) ?_ _;obtain⟨hl,bR⟩:=HH.out;clear HH hS5 hS2 hS0 gd dd HF;change Exit.then _ _ _ _ (World.setCells W1.drew w.heap.size 0 (ykL n 0 fam R D L G gr));generalize World.setCells W1.drew w.heap.size 0 (ykL n 0 fam R D L G gr)=WE at hl bR⊢
 go_wp2
 exact bodyPost_ret (aj results75 rfl rfl hl) rfl ⟨rfl,bR⟩
def acy (w:World)(t:ak)(z:Ending)(w':World):Prop:=
 ∃v,z= .returned (ydV t.s v t.e)∧Rd w' .u32 v (Dg.dg 4294967296 t.n)∧Far w.heap.size v∧yB w w'
theorem IY (R D L G c p er:Int)(gr ng:Bool)(ao:Option Addr)(la ca:Nat)(t:ak)(w:World)
  (HN: ∀w1,yB w w1→yC 136 #[ypV ng (.slice ao la ca) p false false false,ygV R D L G gr] w1 (gR w1 (t,er))):
  yC 103 #[yvV c ng (.slice ao la ca) p,ygV R D L G gr] w (acy w t):=by
 replace HN:Hid _:=HN;have bv:=af w (.cells (yvA c ng (.slice ao la ca) p) 77);have bg:=af (w.alloc (.cells (yvA c ng (.slice ao la ca) p) 77)) (.cells (ygA R D L G gr) 26);have bx:=af ((w.alloc (.cells (yvA c ng (.slice ao la ca) p) 77)).alloc (.cells (ygA R D L G gr) 26)) (.cells (ydA false yN 0) 86);have v0:=((ah w (yvL c ng (.slice ao la ca) p) 77).l bg).l bx;have g0:=(ah (w.alloc (.cells (yvA c ng (.slice ao la ca) p) 77)) (ygL R D L G gr) 26).l bx;have x0:=ah ((w.alloc (.cells (yvA c ng (.slice ao la ca) p) 77)).alloc (.cells (ygA R D L G gr) 26)) (ydL false yN 0) 86;have b0:=aa (aa bv bg) bx;rw[World.size_alloc] at g0;rw[World.size_alloc,World.size_alloc] at x0;clear bv bg bx
 go_enter func103,ntmps103
 go_upto_region 1 with fail
 generalize((w.alloc (.cells (yvA c ng (.slice ao la ca) p) 77)).alloc (.cells (ygA R D L G gr) 26)).alloc (.cells (ydA false yN 0) 86)=W0 at v0 g0 x0 b0⊢;obtain⟨a0,a1,a2,a3⟩:=v0.cs4;obtain⟨y0,y1,y2,y3,y4⟩:=g0.cs5
 go_wp2_with fail
 refine(HN.out _ b0).mono ?_;rintro z w1 ⟨sv,rfl,o1,b1⟩;obtain⟨so,sc,hv⟩:=o1.rd.shape;subst hv;have r1:=o1.rd;have fa:Far w.heap.size (yT so t.n sc):=fun a n c hv=>Nat.le_trans b0.size (JH o1 a n c hv)
 simp only at r1⊢;clear o1 HN a0 a1 a2 a3 y0 y1 y2 y3 y4 v0 g0;have bl:=af w1 (.cells (yDA t so sc) 86);have q1:=ah w1 (yDL t so sc) 86;have r2:=r1.l bl;have x2:=(x0.l b1).l bl;have b02:=aa (aa b0 b1) bl;have hlt:w.heap.size+1+1<w1.heap.size:=(x0.l b1).lt
 go_upto_region 2 with fail
 generalize w1.alloc (.cells (yDA t so sc) 86)=W1 at q1 r2 x2 b02⊢;generalize w1.heap.size=PQ at q1 hlt⊢;have cR:au (((W1.setCell ⟨w.heap.size+1+1,0,none⟩ (.bool t.s)).setCell ⟨w.heap.size+1+1,1,none⟩ (yT so t.n sc)).setCell ⟨w.heap.size+1+1,2,none⟩ (yi t.e)) (w.heap.size+1+1) 86 (yDL t so sc):=(((x2.set 0 (.bool t.s)).set 1 (yT so t.n sc)).set 2 (yi t.e));have bu:=((ag W1 (w.heap.size+1+1) 0 (.bool t.s)).trans (ag _ (w.heap.size+1+1) 1 (yT so t.n sc))).trans (ag _ (w.heap.size+1+1) 2 (yi t.e));have bR:=bu.below b02 (by omega);have rR:=bu.rd r2 (aX r2 x2 (by simp));have hl:=run_loadVar_mid (P:=Tryz.prog) _ (w.heap.size+1+1) 0 86 (yDL t so sc) _ cR.range underlying86 rfl (by kernel_rfl);have HH:Hid (_∧_∧_):=⟨hl,rR,bR⟩;obtain⟨u0,u1,u2⟩:=x2.cs3;have f0:=x2.f 0;have f1:=x2.f 1;have f2:=x2.f 2;obtain⟨y0,y1,y2⟩:=q1.cs3;clear hl bR rR bu cR b02 r2 r1 b1 bl b0 x0 x2 q1
 go_wp2
 obtain⟨hl,rR,bR⟩:=HH.out;exact bodyPost_ret (br results103 rfl hl) rfl ⟨_,rfl,rR,fa,bR⟩
def Ys (w:World)(c:Int)(ng:Bool)(m:Nat)(p:Int)(t:ak)(er:Int)(z:Ending)(w':World):Prop:=
 ∃v x,z= .returned (.tuple #[yvV c ng v p,ydV t.s x t.e,yi er])∧Rd w' .u32 v (Dg.dg 4294967296 m)∧Rd w' .u32 x (Dg.dg 4294967296 t.n)∧Far w.heap.size x∧yB w w'
theorem afp (n er:Int)(her:er≠0)(s:ByteArray)(w:World)
  (HG:yJ 63 #[yi n] (.tuple #[ygV 0 0 0 0 false,yi er])):
  yC 74 #[yi n,.string s] w (Ys w 0 false 0 0 ⟨false,0,0⟩ er):=by
 replace HG:Hid _:=HG;have he:(er==0)=false:=by simpa using her
 clear her;have bv:=af w (.cells (yvA 0 false yN 0) 77);have bx:=af (w.alloc (.cells (yvA 0 false yN 0) 77)) (.cells (ydA false yN 0) 86);have v0:=(ah w (yvL 0 false yN 0) 77).l bx;have x0:=ah (w.alloc (.cells (yvA 0 false yN 0) 77)) (ydL false yN 0) 86;have b0:=aa bv bx;rw[World.size_alloc] at x0;clear bv bx
 go_enter func74,ntmps74
 go_upto_region 1 with fail
 generalize(w.alloc (.cells (yvA 0 false yN 0) 77)).alloc (.cells (ydA false yN 0) 86)=W0 at v0 x0 b0⊢
 go_wp2_with fail
 refine(HG.out _).mono ?_;rintro z w1 ⟨rfl,b1⟩;have bg:=af w1 (.cells (ygA 0 0 0 0 false) 26);have v1:=(v0.l b1).l bg;have x1:=(x0.l b1).l bg;have b01:=aa (aa b0 b1) bg
 go_upto_region 3 with fail
 generalize w1.alloc (.cells (ygA 0 0 0 0 false) 26)=W1 at v1 x1 b01⊢;clear v0 x0 b0 b1 bg HG;have cV:au (((((((W1.setCell ⟨w.heap.size,0,none⟩ (yi 0)).setCell ⟨w.heap.size,1,none⟩ (.bool false)).setCell ⟨w.heap.size,2,none⟩ yN).setCell ⟨w.heap.size,3,none⟩ (yi 0)).setCell ⟨w.heap.size+1,0,none⟩ (.bool false)).setCell ⟨w.heap.size+1,1,none⟩ yN).setCell ⟨w.heap.size+1,2,none⟩ (yi 0)) w.heap.size 77 (yvL 0 false yN 0):=(((((((v1.set 0 (yi 0)).set 1 (.bool false)).set 2 yN).set 3 (yi 0)).off (show w.heap.size+1≠w.heap.size by omega) 0 (.bool false)).off (show w.heap.size+1≠w.heap.size by omega) 1 yN).off (show w.heap.size+1≠w.heap.size by omega) 2 (yi 0))
 have cX:au (((((((W1.setCell ⟨w.heap.size,0,none⟩ (yi 0)).setCell ⟨w.heap.size,1,none⟩ (.bool false)).setCell ⟨w.heap.size,2,none⟩ yN).setCell ⟨w.heap.size,3,none⟩ (yi 0)).setCell ⟨w.heap.size+1,0,none⟩ (.bool false)).setCell ⟨w.heap.size+1,1,none⟩ yN).setCell ⟨w.heap.size+1,2,none⟩ (yi 0)) (w.heap.size+1) 86 (ydL false yN 0):=(((((((x1.off (show w.heap.size≠w.heap.size+1 by omega) 0 (yi 0)).off (show w.heap.size≠w.heap.size+1 by omega) 1 (.bool false)).off (show w.heap.size≠w.heap.size+1 by omega) 2 yN).off (show w.heap.size≠w.heap.size+1 by omega) 3 (yi 0)).set 0 (.bool false)).set 1 yN).set 2 (yi 0))
 have cX0:=((((x1.off (show w.heap.size≠w.heap.size+1 by omega) 0 (yi 0)).off (show w.heap.size≠w.heap.size+1 by omega) 1 (.bool false)).off (show w.heap.size≠w.heap.size+1 by omega) 2 yN).off (show w.heap.size≠w.heap.size+1 by omega) 3 (yi 0))
 have bu1:=(((ag W1 w.heap.size 0 (yi 0)).trans (ag _ w.heap.size 1 (.bool false))).trans (ag _ w.heap.size 2 yN)).trans (ag _ w.heap.size 3 (yi 0));have bu2:=((ag ((((W1.setCell ⟨w.heap.size,0,none⟩ (yi 0)).setCell ⟨w.heap.size,1,none⟩ (.bool false)).setCell ⟨w.heap.size,2,none⟩ yN).setCell ⟨w.heap.size,3,none⟩ (yi 0)) (w.heap.size+1) 0 (.bool false)).trans (ag _ (w.heap.size+1) 1 yN)).trans (ag _ (w.heap.size+1) 2 (yi 0));have bR:=bu2.below (bu1.below b01 (Nat.le_refl _)) (by omega);have hl1:=run_loadVar_mid (P:=Tryz.prog) _ w.heap.size 0 77 (yvL 0 false yN 0) _ cV.range underlying77 rfl (by kernel_rfl);have hl2:=run_loadVar_mid (P:=Tryz.prog) _ (w.heap.size+1) 0 86 (ydL false yN 0) _ cX.range underlying86 rfl (by kernel_rfl);have HH:Hid (_∧_∧_):=⟨hl1,hl2,bR⟩;clear hl1 hl2 bR bu1 bu2 cV cX cX0;obtain⟨a0,a1,a2,a3⟩:=v1.cs4;obtain⟨y0,y1,y2⟩:=x1.cs3;have f0:=v1.f 0;have f1:=v1.f 1;have f2:=v1.f 2;have f3:=v1.f 3;have g0:=x1.f 0;have g1:=x1.f 1;have g2:=x1.f 2;clear v1 x1 b01
 go_wp2
 obtain⟨hl1,hl2,bR⟩:=HH.out;exact bodyPost_ret (kg results74 rfl rfl rfl hl1 hl2) rfl ⟨_,_,rfl,aN _ _,aN _ _,(fun _ _ _ h=>by cases h),bR⟩
theorem afq (n er:Int)(her:er≠0)(R D L G c p:Int)(gr ng:Bool)(m:Nat)(s:ByteArray)(w:World)
  (HG:yJ 63 #[yi n] (.tuple #[ygV R D L G gr,yi 0]))
  (HD: ∀w1,yC 36 #[yi n,.string s] w1 (eP w1 c ng m p er)):
  yC 74 #[yi n,.string s] w (Ys w 0 false 0 0 ⟨false,0,0⟩ er):=by
 replace HG:Hid _:=HG;replace HD:Hid _:=HD;have he:(er==0)=false:=by simpa using her
 clear her;have bv:=af w (.cells (yvA 0 false yN 0) 77);have bx:=af (w.alloc (.cells (yvA 0 false yN 0) 77)) (.cells (ydA false yN 0) 86);have v0:=(ah w (yvL 0 false yN 0) 77).l bx;have x0:=ah (w.alloc (.cells (yvA 0 false yN 0) 77)) (ydL false yN 0) 86;have b0:=aa bv bx;rw[World.size_alloc] at x0;clear bv bx
 go_enter func74,ntmps74
 go_upto_region 1 with fail
 generalize(w.alloc (.cells (yvA 0 false yN 0) 77)).alloc (.cells (ydA false yN 0) 86)=W0 at v0 x0 b0⊢
 go_wp2_with fail
 refine(HG.out _).mono ?_;rintro z w1 ⟨rfl,b1⟩;have bg:=af w1 (.cells (ygA R D L G gr) 26);have vz:=(v0.l b1).l bg;have xz:=(x0.l b1).l bg;have bz:=aa (aa b0 b1) bg
 go_upto_region 4 with fail
 generalize w1.alloc (.cells (ygA R D L G gr) 26)=WG at vz xz bz⊢;clear v0 x0 b0 b1 bg HG
 go_wp2_with fail
 refine(HD.out _).mono ?_;rintro z w2 ⟨vv,rfl,r2,b2⟩;obtain⟨vo,vc,hv⟩:=r2.shape;subst hv;have bl:=af w2 (.cells (yvA c ng (yT vo m vc) p) 77);have v1:=(vz.l b2).l bl;have x1:=(xz.l b2).l bl;have b01:=aa (aa bz b2) bl
 go_upto_region 6 with fail
 generalize w2.alloc (.cells (yvA c ng (yT vo m vc) p) 77)=W1 at v1 x1 b01⊢;clear vz xz bz bl b2 r2 HD;have cV:au (((((((W1.setCell ⟨w.heap.size,0,none⟩ (yi 0)).setCell ⟨w.heap.size,1,none⟩ (.bool false)).setCell ⟨w.heap.size,2,none⟩ yN).setCell ⟨w.heap.size,3,none⟩ (yi 0)).setCell ⟨w.heap.size+1,0,none⟩ (.bool false)).setCell ⟨w.heap.size+1,1,none⟩ yN).setCell ⟨w.heap.size+1,2,none⟩ (yi 0)) w.heap.size 77 (yvL 0 false yN 0):=(((((((v1.set 0 (yi 0)).set 1 (.bool false)).set 2 yN).set 3 (yi 0)).off (show w.heap.size+1≠w.heap.size by omega) 0 (.bool false)).off (show w.heap.size+1≠w.heap.size by omega) 1 yN).off (show w.heap.size+1≠w.heap.size by omega) 2 (yi 0))
 have cX:au (((((((W1.setCell ⟨w.heap.size,0,none⟩ (yi 0)).setCell ⟨w.heap.size,1,none⟩ (.bool false)).setCell ⟨w.heap.size,2,none⟩ yN).setCell ⟨w.heap.size,3,none⟩ (yi 0)).setCell ⟨w.heap.size+1,0,none⟩ (.bool false)).setCell ⟨w.heap.size+1,1,none⟩ yN).setCell ⟨w.heap.size+1,2,none⟩ (yi 0)) (w.heap.size+1) 86 (ydL false yN 0):=(((((((x1.off (show w.heap.size≠w.heap.size+1 by omega) 0 (yi 0)).off (show w.heap.size≠w.heap.size+1 by omega) 1 (.bool false)).off (show w.heap.size≠w.heap.size+1 by omega) 2 yN).off (show w.heap.size≠w.heap.size+1 by omega) 3 (yi 0)).set 0 (.bool false)).set 1 yN).set 2 (yi 0))
 have cX0:=((((x1.off (show w.heap.size≠w.heap.size+1 by omega) 0 (yi 0)).off (show w.heap.size≠w.heap.size+1 by omega) 1 (.bool false)).off (show w.heap.size≠w.heap.size+1 by omega) 2 yN).off (show w.heap.size≠w.heap.size+1 by omega) 3 (yi 0))
 have bu1:=(((ag W1 w.heap.size 0 (yi 0)).trans (ag _ w.heap.size 1 (.bool false))).trans (ag _ w.heap.size 2 yN)).trans (ag _ w.heap.size 3 (yi 0));have bu2:=((ag ((((W1.setCell ⟨w.heap.size,0,none⟩ (yi 0)).setCell ⟨w.heap.size,1,none⟩ (.bool false)).setCell ⟨w.heap.size,2,none⟩ yN).setCell ⟨w.heap.size,3,none⟩ (yi 0)) (w.heap.size+1) 0 (.bool false)).trans (ag _ (w.heap.size+1) 1 yN)).trans (ag _ (w.heap.size+1) 2 (yi 0));have bR:=bu2.below (bu1.below b01 (Nat.le_refl _)) (by omega);have hl1:=run_loadVar_mid (P:=Tryz.prog) _ w.heap.size 0 77 (yvL 0 false yN 0) _ cV.range underlying77 rfl (by kernel_rfl);have hl2:=run_loadVar_mid (P:=Tryz.prog) _ (w.heap.size+1) 0 86 (ydL false yN 0) _ cX.range underlying86 rfl (by kernel_rfl);have HH:Hid (_∧_∧_):=⟨hl1,hl2,bR⟩;clear hl1 hl2 bR bu1 bu2 cV cX cX0;obtain⟨a0,a1,a2,a3⟩:=v1.cs4;obtain⟨y0,y1,y2⟩:=x1.cs3;have f0:=v1.f 0;have f1:=v1.f 1;have f2:=v1.f 2;have f3:=v1.f 3;have g0:=x1.f 0;have g1:=x1.f 1;have g2:=x1.f 2;clear v1 x1 b01
 go_wp2
 obtain⟨hl1,hl2,bR⟩:=HH.out;exact bodyPost_ret (kg results74 rfl rfl rfl hl1 hl2) rfl ⟨_,_,rfl,aN _ _,aN _ _,(fun _ _ _ h=>by cases h),bR⟩
theorem abe (n R D L G c p:Int)(gr ng:Bool)(m:Nat)(t:ak)(s:ByteArray)(w:World)
  (HG:yJ 63 #[yi n] (.tuple #[ygV R D L G gr,yi 0]))
  (HD: ∀w1,yC 36 #[yi n,.string s] w1 (eP w1 c ng m p 0))
  (HN: ∀vo vc w1,yB w w1→Rd w1 .u32 (yT vo m vc) (Dg.dg 4294967296 m)→yC 103 #[yvV c ng (yT vo m vc) p,ygV R D L G gr] w1 (acy w1 t)):
  yC 74 #[yi n,.string s] w (Ys w c ng m p t 0):=by
 replace HG:Hid _:=HG;replace HD:Hid _:=HD;replace HN:Hid _:=HN;have bv:=af w (.cells (yvA 0 false yN 0) 77);have bx:=af (w.alloc (.cells (yvA 0 false yN 0) 77)) (.cells (ydA false yN 0) 86);have v0:=(ah w (yvL 0 false yN 0) 77).l bx;have x0:=ah (w.alloc (.cells (yvA 0 false yN 0) 77)) (ydL false yN 0) 86;have b0:=aa bv bx;rw[World.size_alloc] at x0;clear bv bx
 go_enter func74,ntmps74
 go_upto_region 1 with fail
 generalize(w.alloc (.cells (yvA 0 false yN 0) 77)).alloc (.cells (ydA false yN 0) 86)=W0 at v0 x0 b0⊢
 go_wp2_with fail
 refine(HG.out _).mono ?_;rintro z w1 ⟨rfl,b1⟩;have bg:=af w1 (.cells (ygA R D L G gr) 26);have g1:=ah w1 (ygL R D L G gr) 26;have v1:=(v0.l b1).l bg;have x1:=(x0.l b1).l bg;have b01:=aa (aa b0 b1) bg;have hlG:w.heap.size+1<w1.heap.size:=(x0.l b1).lt
 go_upto_region 4 with fail
 generalize w1.alloc (.cells (ygA R D L G gr) 26)=WG at g1 v1 x1 b01⊢;generalize w1.heap.size=PG at g1 hlG⊢;clear v0 x0 b0 b1 bg HG
 go_wp2_with fail
 refine(HD.out _).mono ?_;rintro z w2 ⟨vv,rfl,r2,b2⟩;obtain⟨vo,vc,hv⟩:=r2.shape;subst hv;have bl:=af w2 (.cells (yvA c ng (yT vo m vc) p) 77);have q2:=ah w2 (yvL c ng (yT vo m vc) p) 77;have g2:=(g1.l b2).l bl;have v2:=(v1.l b2).l bl;have x2:=(x1.l b2).l bl;have rr:=r2.l bl;have b02:=aa (aa b01 b2) bl;have hlQ:PG<w2.heap.size:=(g1.l b2).lt
 go_upto_region 7 with fail
 generalize w2.alloc (.cells (yvA c ng (yT vo m vc) p) 77)=W2 at q2 g2 v2 x2 rr b02⊢;generalize w2.heap.size=PQ at q2 hlQ⊢;clear v1 x1 g1 b01 b2 bl r2 HD;have qd:=q2.drew;have gd:=g2.drew;have vd:=v2.drew;have xd:=x2.drew;have rd:=Rd.l rr ((Below.refl _ _).drew);have n1:w.heap.size≠PG:=by omega
 have n2:w.heap.size+1≠PG:=by omega
 have n3:w.heap.size≠PQ:=by omega
 have n4:w.heap.size+1≠PQ:=by omega
 have bd:=b02.drew;obtain⟨a0,a1,a2,a3⟩:=q2.cs4;obtain⟨y0,y1,y2,y3,y4⟩:=g2.cs5
 go_region_held3 (fun wq=>(wq.cell? ⟨PQ,0,none⟩=some (yi c)∧wq.cell? ⟨PQ,1,none⟩=some (.bool ng)∧wq.cell? ⟨PQ,2,none⟩=some (yT vo m vc)∧wq.cell? ⟨PQ,3,none⟩=some (yi p))∧(wq.cell? ⟨PG,0,none⟩=some (yi R)∧wq.cell? ⟨PG,1,none⟩=some (yi D)∧wq.cell? ⟨PG,2,none⟩=some (yi L)∧wq.cell? ⟨PG,3,none⟩=some (yi G)∧wq.cell? ⟨PG,4,none⟩=some (.bool gr))) (go_keep) (first
  | (go_at_call 103;refine(HN.out _ _ _ bd rd).mono ?_;rintro z w3 ⟨sv,rfl,r4,fx,b3⟩;obtain⟨so,sc,hs⟩:=r4.shape;subst hs;have q3:=qd.l b3;have g3:=gd.l b3;have v3:=vd.l b3;have x3:=xd.l b3;have r3:=rd.l b3;have b03:=aa bd b3;obtain⟨c0,c1,c2,c3⟩:=q3.cs4;obtain⟨d0,d1,d2,d3,d4⟩:=g3.cs5;obtain⟨e0,e1,e2,e3⟩:=v3.cs4;obtain⟨k0,k1,k2⟩:=x3.cs3;have f0:=v3.f 0;have f1:=v3.f 1;have f2:=v3.f 2;have f3:=v3.f 3;have g0:=x3.f 0;have g1:=x3.f 1;have g2:=x3.f 2))
 all_goals
  have cV:au (((((((w3.setCell ⟨w.heap.size,0,none⟩ (yi c)).setCell ⟨w.heap.size,1,none⟩ (.bool ng)).setCell ⟨w.heap.size,2,none⟩ (yT vo m vc)).setCell ⟨w.heap.size,3,none⟩ (yi p)).setCell ⟨w.heap.size+1,0,none⟩ (.bool t.s)).setCell ⟨w.heap.size+1,1,none⟩ (yT so t.n sc)).setCell ⟨w.heap.size+1,2,none⟩ (yi t.e)) w.heap.size 77 (yvL c ng (yT vo m vc) p):=(((((((v3.set 0 (yi c)).set 1 (.bool ng)).set 2 (yT vo m vc)).set 3 (yi p)).off (show w.heap.size+1≠w.heap.size by omega) 0 (.bool t.s)).off (show w.heap.size+1≠w.heap.size by omega) 1 (yT so t.n sc)).off (show w.heap.size+1≠w.heap.size by omega) 2 (yi t.e))
  have cX:au (((((((w3.setCell ⟨w.heap.size,0,none⟩ (yi c)).setCell ⟨w.heap.size,1,none⟩ (.bool ng)).setCell ⟨w.heap.size,2,none⟩ (yT vo m vc)).setCell ⟨w.heap.size,3,none⟩ (yi p)).setCell ⟨w.heap.size+1,0,none⟩ (.bool t.s)).setCell ⟨w.heap.size+1,1,none⟩ (yT so t.n sc)).setCell ⟨w.heap.size+1,2,none⟩ (yi t.e)) (w.heap.size+1) 86 (yDL t so sc):=(((((((x3.off (show w.heap.size≠w.heap.size+1 by omega) 0 (yi c)).off (show w.heap.size≠w.heap.size+1 by omega) 1 (.bool ng)).off (show w.heap.size≠w.heap.size+1 by omega) 2 (yT vo m vc)).off (show w.heap.size≠w.heap.size+1 by omega) 3 (yi p)).set 0 (.bool t.s)).set 1 (yT so t.n sc)).set 2 (yi t.e))
  have cX0:=((((x3.off (show w.heap.size≠w.heap.size+1 by omega) 0 (yi c)).off (show w.heap.size≠w.heap.size+1 by omega) 1 (.bool ng)).off (show w.heap.size≠w.heap.size+1 by omega) 2 (yT vo m vc)).off (show w.heap.size≠w.heap.size+1 by omega) 3 (yi p))
  have bu1:=(((ag w3 w.heap.size 0 (yi c)).trans (ag _ w.heap.size 1 (.bool ng))).trans (ag _ w.heap.size 2 (yT vo m vc))).trans (ag _ w.heap.size 3 (yi p));have bu2:=((ag ((((w3.setCell ⟨w.heap.size,0,none⟩ (yi c)).setCell ⟨w.heap.size,1,none⟩ (.bool ng)).setCell ⟨w.heap.size,2,none⟩ (yT vo m vc)).setCell ⟨w.heap.size,3,none⟩ (yi p)) (w.heap.size+1) 0 (.bool t.s)).trans (ag _ (w.heap.size+1) 1 (yT so t.n sc))).trans (ag _ (w.heap.size+1) 2 (yi t.e));have bR:=bu2.below (bu1.below b03 (Nat.le_refl _)) (by omega);have rV1:=bu1.rd r3 (aX r3 v3 (by simp));have rV:=bu2.rd rV1 (aX rV1 cX0 (by simp));have rX1:=bu1.rd r4 (aX r4 v3 (by simp));have rX:=bu2.rd rX1 (aX rX1 cX0 (by simp));have hl1:=run_loadVar_mid (P:=Tryz.prog) _ w.heap.size 0 77 (yvL c ng (yT vo m vc) p) _ cV.range underlying77 rfl (by kernel_rfl);have hl2:=run_loadVar_mid (P:=Tryz.prog) _ (w.heap.size+1) 0 86 (yDL t so sc) _ cX.range underlying86 rfl (by kernel_rfl);have HH:Hid (_∧_∧_∧_∧_):=⟨hl1,hl2,rV,rX,bR⟩;clear hl1 hl2 bR bu1 bu2 cV cX cX0 rV rV1 rX rX1;clear v3 x3 r3 r4 b03 q3 g3
  go_wp2
  obtain⟨hl1,hl2,rV,rX,bR⟩:=HH.out;exact bodyPost_ret (kg results74 rfl rfl rfl hl1 hl2) rfl ⟨_,_,rfl,rV,rX,(fun a n c hv=>Nat.le_trans bd.size (fx a n c hv)),bR⟩
end Go.Proofs.YtpainhklfoaniaaGreatDoor
