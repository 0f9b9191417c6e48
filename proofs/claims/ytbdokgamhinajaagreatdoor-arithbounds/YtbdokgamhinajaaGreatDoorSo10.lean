/-
  Texts laid together: Co18, Ar1, Knuth, Read2.
-/
import Derived.Test.YtbdokgamhinajaaGreatDoorSo09
set_option maxRecDepth 100000
set_option maxHeartbeats 6400000
namespace Go.Proofs.YtbdokgamhinajaaGreatDoor
open _root_.Go.Proofs.Tryz
open Go.RowKit
def eP (w:World)(c:Int)(ng:Bool)(m:Nat)(p:Int)(er:Int)(z:Ending)(w':World):Prop:=
 ∃v,z= .returned (.tuple #[yvV c ng v p,yi er])∧Rd w' .u32 v (Dg.dg 4294967296 m)∧yB w w'
theorem Xt (n:Int)(R sz ex:Nat)(D L G fam:Int)(gr:Bool)(F:Nat)(ng:Bool)(e f:Nat)(c:Int)(gg:Bool)(m:Nat)(p:Int)(s:ByteArray)(w:World)
  (HR:yJ 167 #[yi n,.string s] (.tuple #[ylV R D L G gr sz ex fam F,yfV ng e f,yi 0]))
  (HV: ∀w1,yC 168 #[ylV R D L G gr sz ex fam F,yfV ng e f] w1 (iT w1 c gg m p)):
  yC 141 #[yi n,.string s] w (eP w c gg m p 0):=by
 have hsf:=cD;have HR':Hid _:=HR;have HV':Hid _:=HV;have v0:=ah w (yvL 0 false yN 0) 100;have b0:=af w (.cells (yvA 0 false yN 0) 100);clear HR HV
 go_enter func141,ntmps141
 go_wp2_with fail
 refine(HR'.out _).mono ?_;rintro z w1 ⟨rfl,b1⟩;have bl:=af w1 (.cells (ylA R D L G gr sz ex fam F) 170);have bf:=af (w1.alloc (.cells (ylA R D L G gr sz ex fam F) 170)) (.cells (yfA ng e f) 208);have v2:=((v0.l b1).l bl).l bf;have b2:=aa (aa (aa b0 b1) bl) bf
 go_wp2_with fail
 refine(HV'.out _).mono ?_;rintro z w3 ⟨v,rfl,r3,b3⟩;obtain⟨vo,vc,hv⟩:=r3.shape;subst hv;have v3:=v2.l b3;have b03:=aa b2 b3;have ov:=cq r3 (Dg.norm_dg _ _ (by omega)) v3 (fun x hx n hn=>by simp at hx;rcases hx with rfl|rfl|rfl|rfl<;>simp)
 have bu:=(((ag w3 w.heap.size 0 (yi c)).trans (ag _ w.heap.size 1 (.bool gg))).trans (ag _ w.heap.size 2 (yT vo m vc))).trans (ag _ w.heap.size 3 (yi p));have cR:au ((((w3.setCell ⟨w.heap.size,0,none⟩ (yi c)).setCell ⟨w.heap.size,1,none⟩ (.bool gg)).setCell ⟨w.heap.size,2,none⟩ (yT vo m vc)).setCell ⟨w.heap.size,3,none⟩ (yi p)) w.heap.size 100 (yvL c gg (yT vo m vc) p):=((((v3.set 0 (yi c)).set 1 (.bool gg)).set 2 (yT vo m vc)).set 3 (yi p));have bR:=bu.below b03 (Nat.le_refl _);have rR:=bu.rd r3 ov;have hl:=run_loadVar_mid (P:=Tryz.prog) _ w.heap.size 0 100 (yvL c gg (yT vo m vc) p) _ cR.range underlying100 rfl (by kernel_rfl);have HH:Hid (_∧_∧_):=⟨hl,rR,bR⟩;obtain⟨x0,x1,x2,x3⟩:=v3.cs4;have j0:=v3.f 0;have j1:=v3.f 1;have j2:=v3.f 2;have j3:=v3.f 3;clear hl bR rR cR bu ov v3 b03 r3 b3 v2 b2 bl bf b1 v0 b0
 go_wp2
 obtain⟨hl,rR,bR⟩:=HH.out;exact bodyPost_ret (aj results141 rfl rfl hl) rfl ⟨_,rfl,rR,bR⟩
theorem Pk (n:Int)(er:Int)(her:er≠0)(s:ByteArray)(w:World)
  (HR:yJ 167 #[yi n,.string s] (.tuple #[yzV 0 0 0 0 false 0 0 0,yfV false 0 0,yi er])):
  yC 141 #[yi n,.string s] w (eP w 0 false 0 0 er):=by
 have hsn:=gn;have HR':Hid _:=HR;have v0:=ah w (yvL 0 false yN 0) 100;have b0:=af w (.cells (yvA 0 false yN 0) 100);have he:(er==0)=false:=by simpa using her
 clear HR her
 go_enter func141,ntmps141
 go_wp2_with fail
 refine(HR'.out _).mono ?_;rintro z w1 ⟨rfl,b1⟩;have bl:=af w1 (.cells (yzA 0 0 0 0 false 0 0 0) 170);have bf:=af (w1.alloc (.cells (yzA 0 0 0 0 false 0 0 0) 170)) (.cells (yfA false 0 0) 208);have v2:=((v0.l b1).l bl).l bf;have b2:=aa (aa (aa b0 b1) bl) bf;have bu:=(((ag ((w1.alloc (.cells (yzA 0 0 0 0 false 0 0 0) 170)).alloc (.cells (yfA false 0 0) 208)) w.heap.size 0 (yi 0)).trans (ag _ w.heap.size 1 (.bool false))).trans (ag _ w.heap.size 2 yN)).trans (ag _ w.heap.size 3 (yi 0));have cR:au ((((((w1.alloc (.cells (yzA 0 0 0 0 false 0 0 0) 170)).alloc (.cells (yfA false 0 0) 208)).setCell ⟨w.heap.size,0,none⟩ (yi 0)).setCell ⟨w.heap.size,1,none⟩ (.bool false)).setCell ⟨w.heap.size,2,none⟩ yN).setCell ⟨w.heap.size,3,none⟩ (yi 0)) w.heap.size 100 (yvL 0 false yN 0):=((((v2.set 0 (yi 0)).set 1 (.bool false)).set 2 yN).set 3 (yi 0));have bR:=bu.below b2 (Nat.le_refl _);have hl:=run_loadVar_mid (P:=Tryz.prog) _ w.heap.size 0 100 (yvL 0 false yN 0) _ cR.range underlying100 rfl (by kernel_rfl);have HH:Hid (_∧_):=⟨hl,bR⟩;have hnA:w1.heap.size≠w.heap.size:=Nat.ne_of_gt (v0.l b1).lt;have hnB:w1.heap.size+1≠w.heap.size:=by have:=(v0.l b1).lt;omega
 obtain⟨x0,x1,x2,x3⟩:=v2.cs4;have j0:=v2.f 0;have j1:=v2.f 1;have j2:=v2.f 2;have j3:=v2.f 3;clear hl bR cR bu v2 b2 bl bf b1 v0 b0
 go_wp2
 obtain⟨hl,bR⟩:=HH.out;exact bodyPost_ret (aj results141 rfl rfl hl) rfl ⟨_,rfl,aN _ _,bR⟩
def dF (n:Int)(s:ByteArray):Int:=if dK n=0 then 6 else if s.size=szN n.toNat then 0 else 1
theorem fF {n:Int}(h:dK n≠0):1≤n.toNat∧n.toNat≤8∧((n.toNat:Nat):Int)=n:=by
 unfold dK at h
 by_cases c:n<1∨8<n
 ·rw[if_pos c] at h
  exact absurd rfl h
 ·omega
theorem uM (n:Int)(s:ByteArray)(w:World)(h:dF n s=0):
  yC 167 #[yi n,.string s] w (yR w (.tuple #[.agg (tS n.toNat).toArray,yfV (aZ n.toNat s) ((aR n.toNat s:Nat):Int) ((aU n.toNat s:Nat):Int),yi 0])):=by
 unfold dF at h
 by_cases hf:dK n=0
 ·rw[if_pos hf] at h
  omega
 ·rw[if_neg hf] at h
  obtain⟨h1,h2,h3⟩:=fF hf;obtain⟨k,rfl⟩: ∃k:Nat,n=(k:Int):=⟨n.toNat,h3.symm⟩;rw[Int.toNat_natCast] at h h1 h2⊢;have hs:s.size=szN k:=by
   by_cases c:s.size=szN k
   ·exact c
   ·rw[if_neg c] at h
    omega
  have HL:=fun w1=>pU k ⟨h1,h2⟩ w1
  have HR:=fun w1=>VY k ⟨h1,h2⟩ s w1 hs
  generalize aZ k s=ng at*;generalize aR k s=e at*;generalize aU k s=f at*
  rcases bO ⟨h1,h2⟩ with rfl|rfl|rfl|rfl|rfl|rfl|rfl|rfl
  all_goals exact N7 _ _ _ _ _ _ _ _ _ _ ng e f s w hs HL HR
theorem tA (n:Int)(s:ByteArray)(w:World)(h:dF n s≠0):
  yC 167 #[yi n,.string s] w (yR w (.tuple #[yzV 0 0 0 0 false 0 0 0,yfV false 0 0,yi (dF n s)])):=by
 unfold dF at h⊢
 by_cases hf:dK n=0
 ·rw[if_pos hf]
  exact GA n s w (fun w1=>lR n w1 hf)
 ·rw[if_neg hf] at h⊢
  obtain⟨h1,h2,h3⟩:=fF hf;obtain⟨k,rfl⟩: ∃k:Nat,n=(k:Int):=⟨n.toNat,h3.symm⟩;rw[Int.toNat_natCast] at h h1 h2⊢
  by_cases hs:s.size=szN k
  ·rw[if_pos hs] at h
   omega
  ·rw[if_neg hs]
   have HL:=fun w1=>pU k ⟨h1,h2⟩ w1
   rcases bO ⟨h1,h2⟩ with rfl|rfl|rfl|rfl|rfl|rfl|rfl|rfl
   all_goals exact H6 _ _ _ _ _ _ _ _ _ _ s w hs HL
def bM (n:Int)(s:ByteArray):Nat:=if dF n s=0 then dh n.toNat (aZ n.toNat s) (aR n.toNat s) (aU n.toNat s) else 0
def dz (n:Int)(s:ByteArray):Bool:=if dF n s=0 then kt n.toNat (aZ n.toNat s) (aR n.toNat s) (aU n.toNat s) else false
def gJ (n:Int)(s:ByteArray):Nat:=if dF n s=0 then ge n.toNat (aZ n.toNat s) (aR n.toNat s) (aU n.toNat s) else 0
def iF (n:Int)(s:ByteArray):Int:=if dF n s=0 then gw n.toNat (aZ n.toNat s) (aR n.toNat s) (aU n.toNat s) else 0
theorem fR n (s:ByteArray)(w:World):yC 141 #[yi n,.string s] w (eP w ((bM n s:Nat):Int) (dz n s) (gJ n s) (iF n s) (dF n s)):=by
 unfold bM dz gJ iF
 by_cases h:dF n s=0
 ·rw[if_pos h,if_pos h,if_pos h,if_pos h]
  have hf:dK n≠0:=fun hf=>by
   unfold dF at h;rw[if_pos hf] at h;omega
  obtain⟨h1,h2,h3⟩:=fF hf;have HR:=fun w1=>uM n s w1 h
  have HV:=fun w1=>Gz n.toNat ⟨h1,h2⟩ (aZ n.toNat s) (aR n.toNat s) (aU n.toNat s) w1 (vW ⟨h1,h2⟩ s) (GM ⟨h1,h2⟩ s)
  rw[h];generalize n.toNat=k at*;generalize dh k (aZ k s) (aR k s) (aU k s)=c at*;generalize kt k (aZ k s) (aR k s) (aU k s)=g at*;generalize ge k (aZ k s) (aR k s) (aU k s)=m at*;generalize gw k (aZ k s) (aR k s) (aU k s)=p at*;generalize aZ k s=ng at*;generalize aR k s=e at*;generalize aU k s=f at*
  rcases bO ⟨h1,h2⟩ with rfl|rfl|rfl|rfl|rfl|rfl|rfl|rfl
  all_goals exact Xt _ _ _ _ _ _ _ _ _ _ ng e f _ _ _ _ s w HR HV
 ·rw[if_neg h,if_neg h,if_neg h,if_neg h]
  exact Pk n _ h s w (fun w1=>tA n s w1 h)
theorem FM (n er:Int)(her:er≠0)(w:World)
  (HG:yJ 83 #[yi n] (.tuple #[ygV 0 0 0 0 false,yi er])):
  yC 43 #[yi n] w (yR w (.tuple #[ykV 0 0 0 0 0 0 0 false,yi er])):=by
 replace HG:Hid _:=HG;have he:(er==0)=false:=by simpa using her
 have d0:=ah w (ykL 0 0 0 0 0 0 0 false) 69;have b0:=af w (.cells (ykA 0 0 0 0 0 0 0 false) 69);clear her
 go_enter func43,ntmps43
 go_wp2_with fail
 refine(HG.out _).mono ?_;rintro z w1 ⟨rfl,b1⟩;have bg:=af w1 (.cells (ygA 0 0 0 0 false) 48);have d1:=(d0.l b1).l bg;have b01:=aa (aa b0 b1) bg
 go_upto_region 3 with fail
 generalize w1.alloc (.cells (ygA 0 0 0 0 false) 48)=W1 at d1 b01⊢;have cR:au ((((((((W1.setCell ⟨w.heap.size,0,none⟩ (yi 0)).setCell ⟨w.heap.size,1,none⟩ (yi 0)).setCell ⟨w.heap.size,2,none⟩ (yi 0)).setCell ⟨w.heap.size,3,none⟩ (yi 0)).setCell ⟨w.heap.size,4,none⟩ (yi 0)).setCell ⟨w.heap.size,5,none⟩ (yi 0)).setCell ⟨w.heap.size,6,none⟩ (yi 0)).setCell ⟨w.heap.size,7,none⟩ (.bool false)) w.heap.size 69 (ykL 0 0 0 0 0 0 0 false):=((((((((d1.set 0 (yi 0)).set 1 (yi 0)).set 2 (yi 0)).set 3 (yi 0)).set 4 (yi 0)).set 5 (yi 0)).set 6 (yi 0)).set 7 (.bool false));have bR:=((((((((ag W1 w.heap.size 0 (yi 0)).trans (ag _ w.heap.size 1 (yi 0))).trans (ag _ w.heap.size 2 (yi 0))).trans (ag _ w.heap.size 3 (yi 0))).trans (ag _ w.heap.size 4 (yi 0))).trans (ag _ w.heap.size 5 (yi 0))).trans (ag _ w.heap.size 6 (yi 0))).trans (ag _ w.heap.size 7 (.bool false))).below b01 (Nat.le_refl _);have hl:=run_loadVar_mid (P:=Tryz.prog) _ w.heap.size 0 69 (ykL 0 0 0 0 0 0 0 false) _ cR.range underlying69 rfl (by kernel_rfl);have HH:Hid (_∧_):=⟨hl,bR⟩;obtain⟨x0,x1,x2,x3,x4,x5,x6,x7⟩:=d1.cs8;have f0:=d1.f 0;have f1:=d1.f 1;have f2:=d1.f 2;have f3:=d1.f 3;have f4:=d1.f 4;have f5:=d1.f 5;have f6:=d1.f 6;have f7:=d1.f 7;clear hl bR cR d1 b01 d0 b0 b1 bg HG
 go_wp2
 obtain⟨hl,bR⟩:=HH.out;exact bodyPost_ret (aj results43 rfl rfl hl) rfl ⟨rfl,bR⟩
theorem Yr (n R D L G fam:Int)(gr:Bool)(w:World)
  (HG:yJ 83 #[yi n] (.tuple #[ygV R D L G gr,yi 0]))
  (HF: ∀w1,yC 84 #[yi n] w1 fun z w'=>z= .returned (yi fam)∧w'=w1):
  yC 43 #[yi n] w (yR w (.tuple #[ykV n 0 fam R D L G gr,yi 0])):=by
 replace HG:Hid _:=HG;replace HF:Hid _:=HF;have d0:=ah w (ykL 0 0 0 0 0 0 0 false) 69;have b0:=af w (.cells (ykA 0 0 0 0 0 0 0 false) 69)
 go_enter func43,ntmps43
 go_wp2_with fail
 refine(HG.out _).mono ?_;rintro z w1 ⟨rfl,b1⟩;have bg:=af w1 (.cells (ygA R D L G gr) 48);have g1:=ah w1 (ygL R D L G gr) 48;have d1:=(d0.l b1).l bg;have b01:=aa (aa b0 b1) bg;have hlt:w.heap.size<w1.heap.size:=(d0.l b1).lt
 go_upto_region 4 with fail
 generalize w1.alloc (.cells (ygA R D L G gr) 48)=W1 at g1 d1 b01⊢;generalize w1.heap.size=PG at g1 hlt⊢;have hne:w.heap.size≠PG:=by omega
 have gd:=g1.drew;have dd:=d1.drew;have bd:=b01.drew;have bR:yB w (W1.drew.setCells w.heap.size 0 (ykL n 0 fam R D L G gr)):=((((((((ag W1.drew w.heap.size 0 (yi n)).trans (ag _ w.heap.size 1 (yi 0))).trans (ag _ w.heap.size 2 (yi fam))).trans (ag _ w.heap.size 3 (yi R))).trans (ag _ w.heap.size 4 (yi D))).trans (ag _ w.heap.size 5 (yi L))).trans (ag _ w.heap.size 6 (yi G))).trans (ag _ w.heap.size 7 (.bool gr))).below bd (Nat.le_refl _);have hl:=run_loadVar_mid (P:=Tryz.prog) _ w.heap.size 0 69 (ykL n 0 fam R D L G gr) _ (World.rangeAt_setCells_same W1.drew w.heap.size 0 (ykL n 0 fam R D L G gr) (show W1.drew.there w.heap.size 0 8 from dD dd)) underlying69 rfl (by kernel_rfl)
 have HH:Hid (_∧_):=⟨hl,bR⟩;clear hl bR b01 d0 b0 b1 bg HG bd d1 g1;refine wp_region_held_drew (S:=fun wq=>wq.rangeAt PG 0 (ygL R D L G gr)) (by kernel_rfl) gd.range (fun hS0=> ?_)
 refine tq 0 (yi n) rfl (fun w0 _=>by kernel_rfl) hS0 ?_
 refine tq 1 (yi n) rfl (fun w0 _=>by kernel_rfl) hS0 ?_
 refine tq 3 ((ygV R D L G gr)) rfl (fun w0 hw0=>fy 48 (.tmp 4) rfl PG 0 (by kernel_rfl) _ _ hw0 underlying48 rfl (by kernel_rfl)) hS0 ?_
 refine wpAnyH_ready (rs:=[2]) (by kernel_rfl) (by simp) ?_;refine AllReadyH.cons rfl (fun K hK=> ?_) AllReadyH.nil
 go_simp
 refine(HF.out _).mono ?_;rintro z w2 ⟨rfl,rfl⟩;refine hK.out _ _ hS0 (fun hS2=> ?_)
 clear hK K;refine tq 4 ((ykV n 0 fam R D L G gr)) rfl (fun w0 _=>by kernel_rfl) hS2 ?_
 refine wpAnyH_ready (rs:=[5]) (by kernel_rfl) (by simp) ?_;refine AllReadyH.cons rfl (fun K hK=> ?_) AllReadyH.nil
 rw[if_pos (by kernel_rfl)];refine wp_store_mid 69 (.tmp 2) (.tmp 19) rfl w.heap.size 0 (ykA n 0 fam R D L G gr) (by kernel_rfl) (by kernel_rfl) (show W1.drew.there w.heap.size 0 8 from dD dd) (by kernel_rfl) (by simp[Value.oneCell']) ?_
 refine hK.out _ _ (World.rangeAt_setCells_apart hS2 _ _ _ (.inl (by omega))) (fun hS5=> ?_)
 clear hK K;refine tq 6 (yi 0) rfl (fun w0 _=>by kernel_rfl) hS5 ?_
 refine wpAnyH_done (by kernel_rfl) ?_ _;obtain⟨hl,bR⟩:=HH.out;clear HH hS5 hS2 hS0 gd dd HF;change Exit.then _ _ _ _ (World.setCells W1.drew w.heap.size 0 (ykL n 0 fam R D L G gr));generalize World.setCells W1.drew w.heap.size 0 (ykL n 0 fam R D L G gr)=WE at hl bR⊢
 go_wp2
 exact bodyPost_ret (aj results43 rfl rfl hl) rfl ⟨rfl,bR⟩
def acy (w:World)(t:ak)(z:Ending)(w':World):Prop:=
 ∃v,z= .returned (ydV t.s v t.e)∧Rd w' .u32 v (Dg.dg 4294967296 t.n)∧Far w.heap.size v∧yB w w'
theorem IY (R D L G c p er:Int)(gr ng:Bool)(ao:Option Addr)(la ca:Nat)(t:ak)(w:World)
  (HN: ∀w1,yB w w1→yC 162 #[ypV ng (.slice ao la ca) p false false false,ygV R D L G gr] w1 (gR w1 (t,er))):
  yC 137 #[yvV c ng (.slice ao la ca) p,ygV R D L G gr] w (acy w t):=by
 replace HN:Hid _:=HN;have bv:=af w (.cells (yvA c ng (.slice ao la ca) p) 100);have bg:=af (w.alloc (.cells (yvA c ng (.slice ao la ca) p) 100)) (.cells (ygA R D L G gr) 48);have bx:=af ((w.alloc (.cells (yvA c ng (.slice ao la ca) p) 100)).alloc (.cells (ygA R D L G gr) 48)) (.cells (ydA false yN 0) 72);have v0:=((ah w (yvL c ng (.slice ao la ca) p) 100).l bg).l bx;have g0:=(ah (w.alloc (.cells (yvA c ng (.slice ao la ca) p) 100)) (ygL R D L G gr) 48).l bx;have x0:=ah ((w.alloc (.cells (yvA c ng (.slice ao la ca) p) 100)).alloc (.cells (ygA R D L G gr) 48)) (ydL false yN 0) 72;have b0:=aa (aa bv bg) bx;rw[World.size_alloc] at g0;rw[World.size_alloc,World.size_alloc] at x0;clear bv bg bx
 go_enter func137,ntmps137
 go_upto_region 1 with fail
 generalize((w.alloc (.cells (yvA c ng (.slice ao la ca) p) 100)).alloc (.cells (ygA R D L G gr) 48)).alloc (.cells (ydA false yN 0) 72)=W0 at v0 g0 x0 b0⊢;obtain⟨a0,a1,a2,a3⟩:=v0.cs4;obtain⟨y0,y1,y2,y3,y4⟩:=g0.cs5
 go_wp2_with fail
 refine(HN.out _ b0).mono ?_;rintro z w1 ⟨sv,rfl,o1,b1⟩;obtain⟨so,sc,hv⟩:=o1.rd.shape;subst hv;have r1:=o1.rd;have fa:Far w.heap.size (yT so t.n sc):=fun a n c hv=>Nat.le_trans b0.size (JH o1 a n c hv)
 simp only at r1⊢;clear o1 HN a0 a1 a2 a3 y0 y1 y2 y3 y4 v0 g0;have bl:=af w1 (.cells (yDA t so sc) 72);have q1:=ah w1 (yDL t so sc) 72;have r2:=r1.l bl;have x2:=(x0.l b1).l bl;have b02:=aa (aa b0 b1) bl;have hlt:w.heap.size+1+1<w1.heap.size:=(x0.l b1).lt
 go_upto_region 2 with fail
 generalize w1.alloc (.cells (yDA t so sc) 72)=W1 at q1 r2 x2 b02⊢;generalize w1.heap.size=PQ at q1 hlt⊢;have cR:au (((W1.setCell ⟨w.heap.size+1+1,0,none⟩ (.bool t.s)).setCell ⟨w.heap.size+1+1,1,none⟩ (yT so t.n sc)).setCell ⟨w.heap.size+1+1,2,none⟩ (yi t.e)) (w.heap.size+1+1) 72 (yDL t so sc):=(((x2.set 0 (.bool t.s)).set 1 (yT so t.n sc)).set 2 (yi t.e));have bu:=((ag W1 (w.heap.size+1+1) 0 (.bool t.s)).trans (ag _ (w.heap.size+1+1) 1 (yT so t.n sc))).trans (ag _ (w.heap.size+1+1) 2 (yi t.e));have bR:=bu.below b02 (by omega);have rR:=bu.rd r2 (aX r2 x2 (by simp));have hl:=run_loadVar_mid (P:=Tryz.prog) _ (w.heap.size+1+1) 0 72 (yDL t so sc) _ cR.range underlying72 rfl (by kernel_rfl);have HH:Hid (_∧_∧_):=⟨hl,rR,bR⟩;obtain⟨u0,u1,u2⟩:=x2.cs3;have f0:=x2.f 0;have f1:=x2.f 1;have f2:=x2.f 2;obtain⟨y0,y1,y2⟩:=q1.cs3;clear hl bR rR bu cR b02 r2 r1 b1 bl b0 x0 x2 q1
 go_wp2
 obtain⟨hl,rR,bR⟩:=HH.out;exact bodyPost_ret (br results137 rfl hl) rfl ⟨_,rfl,rR,fa,bR⟩
def Ys (w:World)(c:Int)(ng:Bool)(m:Nat)(p:Int)(t:ak)(er:Int)(z:Ending)(w':World):Prop:=
 ∃v x,z= .returned (.tuple #[yvV c ng v p,ydV t.s x t.e,yi er])∧Rd w' .u32 v (Dg.dg 4294967296 m)∧Rd w' .u32 x (Dg.dg 4294967296 t.n)∧Far w.heap.size x∧yB w w'
theorem afp (n er:Int)(her:er≠0)(s:ByteArray)(w:World)
  (HG:yJ 83 #[yi n] (.tuple #[ygV 0 0 0 0 false,yi er])):
  yC 97 #[yi n,.string s] w (Ys w 0 false 0 0 ⟨false,0,0⟩ er):=by
 replace HG:Hid _:=HG;have he:(er==0)=false:=by simpa using her
 clear her;have bv:=af w (.cells (yvA 0 false yN 0) 100);have bx:=af (w.alloc (.cells (yvA 0 false yN 0) 100)) (.cells (ydA false yN 0) 72);have v0:=(ah w (yvL 0 false yN 0) 100).l bx;have x0:=ah (w.alloc (.cells (yvA 0 false yN 0) 100)) (ydL false yN 0) 72;have b0:=aa bv bx;rw[World.size_alloc] at x0;clear bv bx
 go_enter func97,ntmps97
 go_upto_region 1 with fail
 generalize(w.alloc (.cells (yvA 0 false yN 0) 100)).alloc (.cells (ydA false yN 0) 72)=W0 at v0 x0 b0⊢
 go_wp2_with fail
 refine(HG.out _).mono ?_;rintro z w1 ⟨rfl,b1⟩;have bg:=af w1 (.cells (ygA 0 0 0 0 false) 48);have v1:=(v0.l b1).l bg;have x1:=(x0.l b1).l bg;have b01:=aa (aa b0 b1) bg
 go_upto_region 3 with fail
 generalize w1.alloc (.cells (ygA 0 0 0 0 false) 48)=W1 at v1 x1 b01⊢;clear v0 x0 b0 b1 bg HG;have cV:au (((((((W1.setCell ⟨w.heap.size,0,none⟩ (yi 0)).setCell ⟨w.heap.size,1,none⟩ (.bool false)).setCell ⟨w.heap.size,2,none⟩ yN).setCell ⟨w.heap.size,3,none⟩ (yi 0)).setCell ⟨w.heap.size+1,0,none⟩ (.bool false)).setCell ⟨w.heap.size+1,1,none⟩ yN).setCell ⟨w.heap.size+1,2,none⟩ (yi 0)) w.heap.size 100 (yvL 0 false yN 0):=(((((((v1.set 0 (yi 0)).set 1 (.bool false)).set 2 yN).set 3 (yi 0)).off (show w.heap.size+1≠w.heap.size by omega) 0 (.bool false)).off (show w.heap.size+1≠w.heap.size by omega) 1 yN).off (show w.heap.size+1≠w.heap.size by omega) 2 (yi 0))
 have cX:au (((((((W1.setCell ⟨w.heap.size,0,none⟩ (yi 0)).setCell ⟨w.heap.size,1,none⟩ (.bool false)).setCell ⟨w.heap.size,2,none⟩ yN).setCell ⟨w.heap.size,3,none⟩ (yi 0)).setCell ⟨w.heap.size+1,0,none⟩ (.bool false)).setCell ⟨w.heap.size+1,1,none⟩ yN).setCell ⟨w.heap.size+1,2,none⟩ (yi 0)) (w.heap.size+1) 72 (ydL false yN 0):=(((((((x1.off (show w.heap.size≠w.heap.size+1 by omega) 0 (yi 0)).off (show w.heap.size≠w.heap.size+1 by omega) 1 (.bool false)).off (show w.heap.size≠w.heap.size+1 by omega) 2 yN).off (show w.heap.size≠w.heap.size+1 by omega) 3 (yi 0)).set 0 (.bool false)).set 1 yN).set 2 (yi 0))
 have cX0:=((((x1.off (show w.heap.size≠w.heap.size+1 by omega) 0 (yi 0)).off (show w.heap.size≠w.heap.size+1 by omega) 1 (.bool false)).off (show w.heap.size≠w.heap.size+1 by omega) 2 yN).off (show w.heap.size≠w.heap.size+1 by omega) 3 (yi 0))
 have bu1:=(((ag W1 w.heap.size 0 (yi 0)).trans (ag _ w.heap.size 1 (.bool false))).trans (ag _ w.heap.size 2 yN)).trans (ag _ w.heap.size 3 (yi 0));have bu2:=((ag ((((W1.setCell ⟨w.heap.size,0,none⟩ (yi 0)).setCell ⟨w.heap.size,1,none⟩ (.bool false)).setCell ⟨w.heap.size,2,none⟩ yN).setCell ⟨w.heap.size,3,none⟩ (yi 0)) (w.heap.size+1) 0 (.bool false)).trans (ag _ (w.heap.size+1) 1 yN)).trans (ag _ (w.heap.size+1) 2 (yi 0));have bR:=bu2.below (bu1.below b01 (Nat.le_refl _)) (by omega);have hl1:=run_loadVar_mid (P:=Tryz.prog) _ w.heap.size 0 100 (yvL 0 false yN 0) _ cV.range underlying100 rfl (by kernel_rfl);have hl2:=run_loadVar_mid (P:=Tryz.prog) _ (w.heap.size+1) 0 72 (ydL false yN 0) _ cX.range underlying72 rfl (by kernel_rfl);have HH:Hid (_∧_∧_):=⟨hl1,hl2,bR⟩;clear hl1 hl2 bR bu1 bu2 cV cX cX0;obtain⟨a0,a1,a2,a3⟩:=v1.cs4;obtain⟨y0,y1,y2⟩:=x1.cs3;have f0:=v1.f 0;have f1:=v1.f 1;have f2:=v1.f 2;have f3:=v1.f 3;have g0:=x1.f 0;have g1:=x1.f 1;have g2:=x1.f 2;clear v1 x1 b01
 go_wp2
 obtain⟨hl1,hl2,bR⟩:=HH.out;exact bodyPost_ret (kg results97 rfl rfl rfl hl1 hl2) rfl ⟨_,_,rfl,aN _ _,aN _ _,(fun _ _ _ h=>by cases h),bR⟩
theorem afq (n er:Int)(her:er≠0)(R D L G c p:Int)(gr ng:Bool)(m:Nat)(s:ByteArray)(w:World)
  (HG:yJ 83 #[yi n] (.tuple #[ygV R D L G gr,yi 0]))
  (HD: ∀w1,yC 141 #[yi n,.string s] w1 (eP w1 c ng m p er)):
  yC 97 #[yi n,.string s] w (Ys w 0 false 0 0 ⟨false,0,0⟩ er):=by
 replace HG:Hid _:=HG;replace HD:Hid _:=HD;have he:(er==0)=false:=by simpa using her
 clear her;have bv:=af w (.cells (yvA 0 false yN 0) 100);have bx:=af (w.alloc (.cells (yvA 0 false yN 0) 100)) (.cells (ydA false yN 0) 72);have v0:=(ah w (yvL 0 false yN 0) 100).l bx;have x0:=ah (w.alloc (.cells (yvA 0 false yN 0) 100)) (ydL false yN 0) 72;have b0:=aa bv bx;rw[World.size_alloc] at x0;clear bv bx
 go_enter func97,ntmps97
 go_upto_region 1 with fail
 generalize(w.alloc (.cells (yvA 0 false yN 0) 100)).alloc (.cells (ydA false yN 0) 72)=W0 at v0 x0 b0⊢
 go_wp2_with fail
 refine(HG.out _).mono ?_;rintro z w1 ⟨rfl,b1⟩;have bg:=af w1 (.cells (ygA R D L G gr) 48);have vz:=(v0.l b1).l bg;have xz:=(x0.l b1).l bg;have bz:=aa (aa b0 b1) bg
 go_upto_region 4 with fail
 generalize w1.alloc (.cells (ygA R D L G gr) 48)=WG at vz xz bz⊢;clear v0 x0 b0 b1 bg HG
 go_wp2_with fail
 refine(HD.out _).mono ?_;rintro z w2 ⟨vv,rfl,r2,b2⟩;obtain⟨vo,vc,hv⟩:=r2.shape;subst hv;have bl:=af w2 (.cells (yvA c ng (yT vo m vc) p) 100);have v1:=(vz.l b2).l bl;have x1:=(xz.l b2).l bl;have b01:=aa (aa bz b2) bl
 go_upto_region 6 with fail
 generalize w2.alloc (.cells (yvA c ng (yT vo m vc) p) 100)=W1 at v1 x1 b01⊢;clear vz xz bz bl b2 r2 HD;have cV:au (((((((W1.setCell ⟨w.heap.size,0,none⟩ (yi 0)).setCell ⟨w.heap.size,1,none⟩ (.bool false)).setCell ⟨w.heap.size,2,none⟩ yN).setCell ⟨w.heap.size,3,none⟩ (yi 0)).setCell ⟨w.heap.size+1,0,none⟩ (.bool false)).setCell ⟨w.heap.size+1,1,none⟩ yN).setCell ⟨w.heap.size+1,2,none⟩ (yi 0)) w.heap.size 100 (yvL 0 false yN 0):=(((((((v1.set 0 (yi 0)).set 1 (.bool false)).set 2 yN).set 3 (yi 0)).off (show w.heap.size+1≠w.heap.size by omega) 0 (.bool false)).off (show w.heap.size+1≠w.heap.size by omega) 1 yN).off (show w.heap.size+1≠w.heap.size by omega) 2 (yi 0))
 have cX:au (((((((W1.setCell ⟨w.heap.size,0,none⟩ (yi 0)).setCell ⟨w.heap.size,1,none⟩ (.bool false)).setCell ⟨w.heap.size,2,none⟩ yN).setCell ⟨w.heap.size,3,none⟩ (yi 0)).setCell ⟨w.heap.size+1,0,none⟩ (.bool false)).setCell ⟨w.heap.size+1,1,none⟩ yN).setCell ⟨w.heap.size+1,2,none⟩ (yi 0)) (w.heap.size+1) 72 (ydL false yN 0):=(((((((x1.off (show w.heap.size≠w.heap.size+1 by omega) 0 (yi 0)).off (show w.heap.size≠w.heap.size+1 by omega) 1 (.bool false)).off (show w.heap.size≠w.heap.size+1 by omega) 2 yN).off (show w.heap.size≠w.heap.size+1 by omega) 3 (yi 0)).set 0 (.bool false)).set 1 yN).set 2 (yi 0))
 have cX0:=((((x1.off (show w.heap.size≠w.heap.size+1 by omega) 0 (yi 0)).off (show w.heap.size≠w.heap.size+1 by omega) 1 (.bool false)).off (show w.heap.size≠w.heap.size+1 by omega) 2 yN).off (show w.heap.size≠w.heap.size+1 by omega) 3 (yi 0))
 have bu1:=(((ag W1 w.heap.size 0 (yi 0)).trans (ag _ w.heap.size 1 (.bool false))).trans (ag _ w.heap.size 2 yN)).trans (ag _ w.heap.size 3 (yi 0));have bu2:=((ag ((((W1.setCell ⟨w.heap.size,0,none⟩ (yi 0)).setCell ⟨w.heap.size,1,none⟩ (.bool false)).setCell ⟨w.heap.size,2,none⟩ yN).setCell ⟨w.heap.size,3,none⟩ (yi 0)) (w.heap.size+1) 0 (.bool false)).trans (ag _ (w.heap.size+1) 1 yN)).trans (ag _ (w.heap.size+1) 2 (yi 0));have bR:=bu2.below (bu1.below b01 (Nat.le_refl _)) (by omega);have hl1:=run_loadVar_mid (P:=Tryz.prog) _ w.heap.size 0 100 (yvL 0 false yN 0) _ cV.range underlying100 rfl (by kernel_rfl);have hl2:=run_loadVar_mid (P:=Tryz.prog) _ (w.heap.size+1) 0 72 (ydL false yN 0) _ cX.range underlying72 rfl (by kernel_rfl);have HH:Hid (_∧_∧_):=⟨hl1,hl2,bR⟩;clear hl1 hl2 bR bu1 bu2 cV cX cX0;obtain⟨a0,a1,a2,a3⟩:=v1.cs4;obtain⟨y0,y1,y2⟩:=x1.cs3;have f0:=v1.f 0;have f1:=v1.f 1;have f2:=v1.f 2;have f3:=v1.f 3;have g0:=x1.f 0;have g1:=x1.f 1;have g2:=x1.f 2;clear v1 x1 b01
 go_wp2
 obtain⟨hl1,hl2,bR⟩:=HH.out;exact bodyPost_ret (kg results97 rfl rfl rfl hl1 hl2) rfl ⟨_,_,rfl,aN _ _,aN _ _,(fun _ _ _ h=>by cases h),bR⟩
theorem abe (n R D L G c p:Int)(gr ng:Bool)(m:Nat)(t:ak)(s:ByteArray)(w:World)
  (HG:yJ 83 #[yi n] (.tuple #[ygV R D L G gr,yi 0]))
  (HD: ∀w1,yC 141 #[yi n,.string s] w1 (eP w1 c ng m p 0))
  (HN: ∀vo vc w1,yB w w1→Rd w1 .u32 (yT vo m vc) (Dg.dg 4294967296 m)→yC 137 #[yvV c ng (yT vo m vc) p,ygV R D L G gr] w1 (acy w1 t)):
  yC 97 #[yi n,.string s] w (Ys w c ng m p t 0):=by
 replace HG:Hid _:=HG;replace HD:Hid _:=HD;replace HN:Hid _:=HN;have bv:=af w (.cells (yvA 0 false yN 0) 100);have bx:=af (w.alloc (.cells (yvA 0 false yN 0) 100)) (.cells (ydA false yN 0) 72);have v0:=(ah w (yvL 0 false yN 0) 100).l bx;have x0:=ah (w.alloc (.cells (yvA 0 false yN 0) 100)) (ydL false yN 0) 72;have b0:=aa bv bx;rw[World.size_alloc] at x0;clear bv bx
 go_enter func97,ntmps97
 go_upto_region 1 with fail
 generalize(w.alloc (.cells (yvA 0 false yN 0) 100)).alloc (.cells (ydA false yN 0) 72)=W0 at v0 x0 b0⊢
 go_wp2_with fail
 refine(HG.out _).mono ?_;rintro z w1 ⟨rfl,b1⟩;have bg:=af w1 (.cells (ygA R D L G gr) 48);have g1:=ah w1 (ygL R D L G gr) 48;have v1:=(v0.l b1).l bg;have x1:=(x0.l b1).l bg;have b01:=aa (aa b0 b1) bg;have hlG:w.heap.size+1<w1.heap.size:=(x0.l b1).lt
 go_upto_region 4 with fail
 generalize w1.alloc (.cells (ygA R D L G gr) 48)=WG at g1 v1 x1 b01⊢;generalize w1.heap.size=PG at g1 hlG⊢;clear v0 x0 b0 b1 bg HG
 go_wp2_with fail
 refine(HD.out _).mono ?_;rintro z w2 ⟨vv,rfl,r2,b2⟩;obtain⟨vo,vc,hv⟩:=r2.shape;subst hv;have bl:=af w2 (.cells (yvA c ng (yT vo m vc) p) 100);have q2:=ah w2 (yvL c ng (yT vo m vc) p) 100;have g2:=(g1.l b2).l bl;have v2:=(v1.l b2).l bl;have x2:=(x1.l b2).l bl;have rr:=r2.l bl;have b02:=aa (aa b01 b2) bl;have hlQ:PG<w2.heap.size:=(g1.l b2).lt
 go_upto_region 7 with fail
 generalize w2.alloc (.cells (yvA c ng (yT vo m vc) p) 100)=W2 at q2 g2 v2 x2 rr b02⊢;generalize w2.heap.size=PQ at q2 hlQ⊢;clear v1 x1 g1 b01 b2 bl r2 HD;have qd:=q2.drew;have gd:=g2.drew;have vd:=v2.drew;have xd:=x2.drew;have rd:=Rd.l rr ((Below.refl _ _).drew);have n1:w.heap.size≠PG:=by omega
 have n2:w.heap.size+1≠PG:=by omega
 have n3:w.heap.size≠PQ:=by omega
 have n4:w.heap.size+1≠PQ:=by omega
 have bd:=b02.drew;obtain⟨a0,a1,a2,a3⟩:=q2.cs4;obtain⟨y0,y1,y2,y3,y4⟩:=g2.cs5
 go_region_held3 (fun wq=>(wq.cell? ⟨PQ,0,none⟩=some (yi c)∧wq.cell? ⟨PQ,1,none⟩=some (.bool ng)∧wq.cell? ⟨PQ,2,none⟩=some (yT vo m vc)∧wq.cell? ⟨PQ,3,none⟩=some (yi p))∧(wq.cell? ⟨PG,0,none⟩=some (yi R)∧wq.cell? ⟨PG,1,none⟩=some (yi D)∧wq.cell? ⟨PG,2,none⟩=some (yi L)∧wq.cell? ⟨PG,3,none⟩=some (yi G)∧wq.cell? ⟨PG,4,none⟩=some (.bool gr))) (go_keep) (first
  | (go_at_call 137;refine(HN.out _ _ _ bd rd).mono ?_;rintro z w3 ⟨sv,rfl,r4,fx,b3⟩;obtain⟨so,sc,hs⟩:=r4.shape;subst hs;have q3:=qd.l b3;have g3:=gd.l b3;have v3:=vd.l b3;have x3:=xd.l b3;have r3:=rd.l b3;have b03:=aa bd b3;obtain⟨c0,c1,c2,c3⟩:=q3.cs4;obtain⟨d0,d1,d2,d3,d4⟩:=g3.cs5;obtain⟨e0,e1,e2,e3⟩:=v3.cs4;obtain⟨k0,k1,k2⟩:=x3.cs3;have f0:=v3.f 0;have f1:=v3.f 1;have f2:=v3.f 2;have f3:=v3.f 3;have g0:=x3.f 0;have g1:=x3.f 1;have g2:=x3.f 2))
 all_goals
  have cV:au (((((((w3.setCell ⟨w.heap.size,0,none⟩ (yi c)).setCell ⟨w.heap.size,1,none⟩ (.bool ng)).setCell ⟨w.heap.size,2,none⟩ (yT vo m vc)).setCell ⟨w.heap.size,3,none⟩ (yi p)).setCell ⟨w.heap.size+1,0,none⟩ (.bool t.s)).setCell ⟨w.heap.size+1,1,none⟩ (yT so t.n sc)).setCell ⟨w.heap.size+1,2,none⟩ (yi t.e)) w.heap.size 100 (yvL c ng (yT vo m vc) p):=(((((((v3.set 0 (yi c)).set 1 (.bool ng)).set 2 (yT vo m vc)).set 3 (yi p)).off (show w.heap.size+1≠w.heap.size by omega) 0 (.bool t.s)).off (show w.heap.size+1≠w.heap.size by omega) 1 (yT so t.n sc)).off (show w.heap.size+1≠w.heap.size by omega) 2 (yi t.e))
  have cX:au (((((((w3.setCell ⟨w.heap.size,0,none⟩ (yi c)).setCell ⟨w.heap.size,1,none⟩ (.bool ng)).setCell ⟨w.heap.size,2,none⟩ (yT vo m vc)).setCell ⟨w.heap.size,3,none⟩ (yi p)).setCell ⟨w.heap.size+1,0,none⟩ (.bool t.s)).setCell ⟨w.heap.size+1,1,none⟩ (yT so t.n sc)).setCell ⟨w.heap.size+1,2,none⟩ (yi t.e)) (w.heap.size+1) 72 (yDL t so sc):=(((((((x3.off (show w.heap.size≠w.heap.size+1 by omega) 0 (yi c)).off (show w.heap.size≠w.heap.size+1 by omega) 1 (.bool ng)).off (show w.heap.size≠w.heap.size+1 by omega) 2 (yT vo m vc)).off (show w.heap.size≠w.heap.size+1 by omega) 3 (yi p)).set 0 (.bool t.s)).set 1 (yT so t.n sc)).set 2 (yi t.e))
  have cX0:=((((x3.off (show w.heap.size≠w.heap.size+1 by omega) 0 (yi c)).off (show w.heap.size≠w.heap.size+1 by omega) 1 (.bool ng)).off (show w.heap.size≠w.heap.size+1 by omega) 2 (yT vo m vc)).off (show w.heap.size≠w.heap.size+1 by omega) 3 (yi p))
  have bu1:=(((ag w3 w.heap.size 0 (yi c)).trans (ag _ w.heap.size 1 (.bool ng))).trans (ag _ w.heap.size 2 (yT vo m vc))).trans (ag _ w.heap.size 3 (yi p));have bu2:=((ag ((((w3.setCell ⟨w.heap.size,0,none⟩ (yi c)).setCell ⟨w.heap.size,1,none⟩ (.bool ng)).setCell ⟨w.heap.size,2,none⟩ (yT vo m vc)).setCell ⟨w.heap.size,3,none⟩ (yi p)) (w.heap.size+1) 0 (.bool t.s)).trans (ag _ (w.heap.size+1) 1 (yT so t.n sc))).trans (ag _ (w.heap.size+1) 2 (yi t.e));have bR:=bu2.below (bu1.below b03 (Nat.le_refl _)) (by omega);have rV1:=bu1.rd r3 (aX r3 v3 (by simp));have rV:=bu2.rd rV1 (aX rV1 cX0 (by simp));have rX1:=bu1.rd r4 (aX r4 v3 (by simp));have rX:=bu2.rd rX1 (aX rX1 cX0 (by simp));have hl1:=run_loadVar_mid (P:=Tryz.prog) _ w.heap.size 0 100 (yvL c ng (yT vo m vc) p) _ cV.range underlying100 rfl (by kernel_rfl);have hl2:=run_loadVar_mid (P:=Tryz.prog) _ (w.heap.size+1) 0 72 (yDL t so sc) _ cX.range underlying72 rfl (by kernel_rfl);have HH:Hid (_∧_∧_∧_∧_):=⟨hl1,hl2,rV,rX,bR⟩;clear hl1 hl2 bR bu1 bu2 cV cX cX0 rV rV1 rX rX1;clear v3 x3 r3 r4 b03 q3 g3
  go_wp2
  obtain⟨hl1,hl2,rV,rX,bR⟩:=HH.out;exact bodyPost_ret (kg results97 rfl rfl rfl hl1 hl2) rfl ⟨_,_,rfl,rV,rX,(fun a n c hv=>Nat.le_trans bd.size (fx a n c hv)),bR⟩
theorem Ox {u v seg D E q:Nat}(_hE:0<E)(hseg:seg< (u+1)*E)(hD:v*E≤D)(hq:q*D≤seg):q*v≤u:=by
 have h1:q*v*E≤q*D:=by rw[Nat.mul_assoc];exact Nat.mul_le_mul_left _ hD
 have h2:q*v*E< (u+1)*E:=by omega
 have:=Nat.lt_of_mul_lt_mul_right h2;omega
theorem Oy {u v seg D E g:Nat}(hg:g*v≤u)(hgv:g≤v+1)(hseg:u*E≤seg)(hD:D≤(v+1)*E):(g-1)*D≤seg:=by
 have h1:(g-1)*D≤(g-1)*(v+1)*E:=by rw[Nat.mul_assoc];exact Nat.mul_le_mul_left _ hD
 have h2:(g-1)*(v+1)≤u:=by
  rcases Nat.eq_zero_or_pos g with e|e
  ·subst e;simp
  ·obtain⟨h,rfl⟩: ∃h,g=h+1:=⟨g-1,by omega⟩
   rw[Nat.add_sub_cancel];rw[Nat.add_mul] at hg;rw[Nat.mul_add];omega
 have h3:(g-1)*(v+1)*E≤u*E:=Nat.mul_le_mul_right _ h2;omega
def GsI (top d1 d0 p0 g r:Nat):Prop:=g*d1+r=top∧ ∀q,q*(d1*4294967296+d0)≤top*4294967296+p0→q<4294967296→q≤g
theorem Z1 (top d1 d0 p0:Nat)(h1:0<d1)(hp:p0<4294967296):GsI top d1 d0 p0 (top/d1) (top % d1):=by
 refine⟨by have:=Nat.div_add_mod top d1;rw[Nat.mul_comm] at this;exact this,fun q hq _=> ?_⟩
 have h2:q*d1≤top:=by
  rcases Nat.lt_or_ge top (q*d1) with h|h
  ·exfalso
   have h3:(top+1)*4294967296≤q*d1*4294967296:=Nat.mul_le_mul_right _ h;have h4:q*d1*4294967296≤q*(d1*4294967296+d0):=by rw[Nat.mul_assoc];exact Nat.mul_le_mul_left q (Nat.le_add_right _ _)
   omega
  ·exact h
 exact(Nat.le_div_iff_mul_le h1).2 h2
theorem S9 {top d1 d0 p0 g r:Nat}(h:GsI top d1 d0 p0 g r)(hg:0<g)(hc:4294967296≤g∨r*4294967296+p0<g*d0):GsI top d1 d0 p0 (g-1) (r+d1):=by
 obtain⟨h1,h2⟩:=h;obtain⟨k,rfl⟩: ∃k,g=k+1:=⟨g-1,by omega⟩;rw[Nat.add_sub_cancel];refine⟨by rw[Nat.add_mul] at h1;omega,fun q hq hqB=> ?_⟩
 have h3:=h2 q hq hqB
 rcases Nat.lt_or_ge k q with e|e
 ·exfalso
  have hqk:q=k+1:=by omega
  subst hqk
  rcases hc with hc|hc
  ·omega
  ·rw[←h1,Nat.mul_add] at hq
   rw[Nat.add_mul ((k+1)*d1)] at hq;rw[Nat.mul_assoc] at hq;omega
 ·exact e
theorem Z2 {top d1 d0 p0 g r:Nat}(h:GsI top d1 d0 p0 g r)(hc:g*d0≤r*4294967296+p0):g*(d1*4294967296+d0)≤top*4294967296+p0:=by
 rw[←h.1,Nat.mul_add,Nat.add_mul (g*d1),Nat.mul_assoc];omega
theorem Sd (c x s:Nat):((c:Int)+(x:Int)*(s:Int)) % 4294967296=(((c+x*s) % 4294967296:Nat):Int):=by rw[←Int.natCast_mul];omega
theorem Se (c x s:Nat):((c:Int)+(x:Int)*(s:Int))/4294967296=(((c+x*s)/4294967296:Nat):Int):=by rw[←Int.natCast_mul];omega
end Go.Proofs.YtbdokgamhinajaaGreatDoor
