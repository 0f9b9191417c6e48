/-
  Texts laid together: Co17, Co18, Co4, Co22, Ce12, As3, As8, Pa1, Cv0, Cv1, BlN, BlM.
-/
import Derived.Test.YtddkchlamdhgcaaGreatDoorSu28
import Derived.Test.YtddkchlamdhgcaaGreatDoorSu30
import Derived.Test.YtddkchlamdhgcaaGreatDoorSu35
set_option maxRecDepth 100000
set_option maxHeartbeats 3200000
namespace Go.Proofs.YtddkchlamdhgcaaGreatDoor
open _root_.Go.Proofs.Tryz
open Go.RowKit
theorem Gz (k:Nat)(hk:1≤k∧k≤8)(ng:Bool)(e f:Nat)(w:World)(hf:f<18446744073709551616)(he:e<65536):yC 56 #[.agg (tS k).toArray,yfV ng e f] w (iT w ((dh k ng e f:Nat):Int) (kt k ng e f) (ge k ng e f) (gw k ng e f)):=by
 have HC:=fun w1=>Gf k hk ng e f w1 hf
 have HP:=fun w1=>QL k hk ng e f w1 hf he
 have hd:=fun h=>jX (k:=k) (ng:=ng) (e:=e) (f:=f) h
 have hl:=vS hk e hf;have hp:=ab9 hk he;unfold kt ge gw;generalize iI k e f=d at*;generalize ii k e=p at*
 rcases DV k ng e f with hc|hc|hc|hc|hc
 all_goals (rw[hc] at HC⊢)
 ·rw[if_pos (by omega),if_neg (by omega),if_neg (by omega)]
  rcases bO hk with rfl|rfl|rfl|rfl|rfl|rfl|rfl|rfl
  all_goals exact aab _ _ _ _ _ _ _ _ _ ng e f w HC
 ·rw[if_pos (by omega),if_pos rfl,if_pos rfl]
  have h0:=hd hc
  rcases bO hk with rfl|rfl|rfl|rfl|rfl|rfl|rfl|rfl
  all_goals exact We _ _ _ _ _ _ _ _ _ ng e f d p w (by decide) (by decide) h0 hl hp.1 hp.2 HC HP
 ·rw[if_pos (by omega),if_neg (by omega),if_neg (by omega)]
  rcases bO hk with rfl|rfl|rfl|rfl|rfl|rfl|rfl|rfl
  all_goals exact aac _ _ _ _ _ _ _ _ _ ng e f w HC
 ·rw[if_neg (by omega),if_neg (by omega),if_neg (by omega)]
  rcases bO hk with rfl|rfl|rfl|rfl|rfl|rfl|rfl|rfl
  all_goals exact aad _ _ _ _ _ _ _ _ _ ng e f w HC
 ·rw[if_neg (by omega),if_neg (by omega),if_neg (by omega)]
  rcases bO hk with rfl|rfl|rfl|rfl|rfl|rfl|rfl|rfl
  all_goals exact aae _ _ _ _ _ _ _ _ _ ng e f w HC
theorem Xt (n:Int)(R sz ex:Nat)(D L G fam:Int)(gr:Bool)(F:Nat)(ng:Bool)(e f:Nat)(c:Int)(gg:Bool)(m:Nat)(p:Int)(s:ByteArray)(w:World)
  (HR:yJ 55 #[yi n,.string s] (.tuple #[ylV R D L G gr sz ex fam F,yfV ng e f,yi 0]))
  (HV: ∀w1,yC 56 #[ylV R D L G gr sz ex fam F,yfV ng e f] w1 (iT w1 c gg m p)):
  yC 28 #[yi n,.string s] w (eP w c gg m p 0):=by
 have hsf:=cD;have HR':Hid _:=HR;have HV':Hid _:=HV;have v0:=ah w (yvL 0 false yN 0) 68;have b0:=af w (.cells (yvA 0 false yN 0) 68);clear HR HV
 go_enter func28,ntmps28
 go_wp2_with fail
 refine(HR'.out _).mono ?_;rintro z w1 ⟨rfl,b1⟩;have bl:=af w1 (.cells (ylA R D L G gr sz ex fam F) 116);have bf:=af (w1.alloc (.cells (ylA R D L G gr sz ex fam F) 116)) (.cells (yfA ng e f) 119);have v2:=((v0.l b1).l bl).l bf;have b2:=aa (aa (aa b0 b1) bl) bf
 go_wp2_with fail
 refine(HV'.out _).mono ?_;rintro z w3 ⟨v,rfl,r3,b3⟩;obtain⟨vo,vc,hv⟩:=r3.shape;subst hv;have v3:=v2.l b3;have b03:=aa b2 b3;have ov:=cq r3 (Dg.norm_dg _ _ (by omega)) v3 (fun x hx n hn=>by simp at hx;rcases hx with rfl|rfl|rfl|rfl<;>simp)
 have bu:=(((ag w3 w.heap.size 0 (yi c)).trans (ag _ w.heap.size 1 (.bool gg))).trans (ag _ w.heap.size 2 (yT vo m vc))).trans (ag _ w.heap.size 3 (yi p));have cR:au ((((w3.setCell ⟨w.heap.size,0,none⟩ (yi c)).setCell ⟨w.heap.size,1,none⟩ (.bool gg)).setCell ⟨w.heap.size,2,none⟩ (yT vo m vc)).setCell ⟨w.heap.size,3,none⟩ (yi p)) w.heap.size 68 (yvL c gg (yT vo m vc) p):=((((v3.set 0 (yi c)).set 1 (.bool gg)).set 2 (yT vo m vc)).set 3 (yi p));have bR:=bu.below b03 (Nat.le_refl _);have rR:=bu.rd r3 ov;have hl:=run_loadVar_mid (P:=Tryz.prog) _ w.heap.size 0 68 (yvL c gg (yT vo m vc) p) _ cR.range underlying68 rfl (by kernel_rfl);have HH:Hid (_∧_∧_):=⟨hl,rR,bR⟩;obtain⟨x0,x1,x2,x3⟩:=v3.cs4;have j0:=v3.f 0;have j1:=v3.f 1;have j2:=v3.f 2;have j3:=v3.f 3;clear hl bR rR cR bu ov v3 b03 r3 b3 v2 b2 bl bf b1 v0 b0
 go_wp2
 obtain⟨hl,rR,bR⟩:=HH.out;exact bodyPost_ret (aj results28 rfl rfl hl) rfl ⟨_,rfl,rR,bR⟩
theorem Pk (n:Int)(er:Int)(her:er≠0)(s:ByteArray)(w:World)
  (HR:yJ 55 #[yi n,.string s] (.tuple #[yzV 0 0 0 0 false 0 0 0,yfV false 0 0,yi er])):
  yC 28 #[yi n,.string s] w (eP w 0 false 0 0 er):=by
 have hsn:=gn;have HR':Hid _:=HR;have v0:=ah w (yvL 0 false yN 0) 68;have b0:=af w (.cells (yvA 0 false yN 0) 68);have he:(er==0)=false:=by simpa using her
 clear HR her
 go_enter func28,ntmps28
 go_wp2_with fail
 refine(HR'.out _).mono ?_;rintro z w1 ⟨rfl,b1⟩;have bl:=af w1 (.cells (yzA 0 0 0 0 false 0 0 0) 116);have bf:=af (w1.alloc (.cells (yzA 0 0 0 0 false 0 0 0) 116)) (.cells (yfA false 0 0) 119);have v2:=((v0.l b1).l bl).l bf;have b2:=aa (aa (aa b0 b1) bl) bf;have bu:=(((ag ((w1.alloc (.cells (yzA 0 0 0 0 false 0 0 0) 116)).alloc (.cells (yfA false 0 0) 119)) w.heap.size 0 (yi 0)).trans (ag _ w.heap.size 1 (.bool false))).trans (ag _ w.heap.size 2 yN)).trans (ag _ w.heap.size 3 (yi 0));have cR:au ((((((w1.alloc (.cells (yzA 0 0 0 0 false 0 0 0) 116)).alloc (.cells (yfA false 0 0) 119)).setCell ⟨w.heap.size,0,none⟩ (yi 0)).setCell ⟨w.heap.size,1,none⟩ (.bool false)).setCell ⟨w.heap.size,2,none⟩ yN).setCell ⟨w.heap.size,3,none⟩ (yi 0)) w.heap.size 68 (yvL 0 false yN 0):=((((v2.set 0 (yi 0)).set 1 (.bool false)).set 2 yN).set 3 (yi 0));have bR:=bu.below b2 (Nat.le_refl _);have hl:=run_loadVar_mid (P:=Tryz.prog) _ w.heap.size 0 68 (yvL 0 false yN 0) _ cR.range underlying68 rfl (by kernel_rfl);have HH:Hid (_∧_):=⟨hl,bR⟩;have hnA:w1.heap.size≠w.heap.size:=Nat.ne_of_gt (v0.l b1).lt;have hnB:w1.heap.size+1≠w.heap.size:=by have:=(v0.l b1).lt;omega
 obtain⟨x0,x1,x2,x3⟩:=v2.cs4;have j0:=v2.f 0;have j1:=v2.f 1;have j2:=v2.f 2;have j3:=v2.f 3;clear hl bR cR bu v2 b2 bl bf b1 v0 b0
 go_wp2
 obtain⟨hl,bR⟩:=HH.out;exact bodyPost_ret (aj results28 rfl rfl hl) rfl ⟨_,rfl,aN _ _,bR⟩
theorem vU (n:Int)(w:World)(h:dK n=0):yC 43 #[yi n] w (yR w (.tuple #[ygV 0 0 0 0 false,yi 6])):=by
 have HL:Hid (yJ 57 #[yi n] (.tuple #[yzV 0 0 0 0 false 0 0 0,yi 6])):=fun w1=>lR n w1 h
 have hsf:=cD;have hsn:=gn;have l0:=ah w (ygL 0 0 0 0 false) 40;have b0:=af w (.cells (ygA 0 0 0 0 false) 40)
 go_enter func43,ntmps43
 go_wp2_with fail
 refine(HL.out _).mono ?_;rintro z w2 ⟨rfl,b2⟩;have l3:=(l0.l b2).l (af w2 (.cells (yzA 0 0 0 0 false 0 0 0) 116));have cR:au ((((((w2.alloc (.cells (yzA 0 0 0 0 false 0 0 0) 116)).setCell ⟨w.heap.size,0,none⟩ (yi 0)).setCell ⟨w.heap.size,1,none⟩ (yi 0)).setCell ⟨w.heap.size,2,none⟩ (yi 0)).setCell ⟨w.heap.size,3,none⟩ (yi 0)).setCell ⟨w.heap.size,4,none⟩ (.bool false)) w.heap.size 40 (ygL 0 0 0 0 false):=(((((l3.set 0 (yi 0)).set 1 (yi 0)).set 2 (yi 0)).set 3 (yi 0)).set 4 (.bool false));have bR:=(((((ag (w2.alloc (.cells (yzA 0 0 0 0 false 0 0 0) 116)) w.heap.size 0 (yi 0)).trans (ag _ w.heap.size 1 (yi 0))).trans (ag _ w.heap.size 2 (yi 0))).trans (ag _ w.heap.size 3 (yi 0))).trans (ag _ w.heap.size 4 (.bool false))).below (aa (aa b0 b2) (af w2 (.cells (yzA 0 0 0 0 false 0 0 0) 116))) (Nat.le_refl _);have hl:=run_loadVar_mid (P:=Tryz.prog) _ w.heap.size 0 40 (ygL 0 0 0 0 false) _ cR.range underlying40 rfl (by kernel_rfl);have HH:Hid (_∧_):=⟨hl,bR⟩;have x0:=l3.c 0 rfl;have f0:=l3.f 0;have x1:=l3.c 1 rfl;have f1:=l3.f 1;have x2:=l3.c 2 rfl;have f2:=l3.f 2;have x3:=l3.c 3 rfl;have f3:=l3.f 3;have x4:=l3.c 4 rfl;have f4:=l3.f 4;have hne:w2.heap.size≠w.heap.size:=Nat.ne_of_gt (l0.l b2).lt;clear hl bR cR l0 l3 b0 b2 HL
 go_wp2
 obtain⟨hl,bR⟩:=HH.out;exact bodyPost_ret (aj results43 rfl rfl hl) rfl ⟨rfl,bR⟩
theorem LX (n:Int)(c p:Int)(ng:Bool)(ao:Option Addr)(dn dc:Nat)(w:World)
  (HL:yJ 57 #[yi n] (.tuple #[yzV 0 0 0 0 false 0 0 0,yi 6])):
  yC 29 #[yi n,yvV c ng (.slice ao dn dc) p] w (yR w (.tuple #[.string ⟨#[]⟩,yi 6])):=by
 have hsf:=cD;have hsn:=gn;have m0:=ah w (yvL c ng (.slice ao dn dc) p) 68;have b0:=af w (.cells (yvA c ng (.slice ao dn dc) p) 68);have HL':Hid _:=HL;clear HL
 go_enter func29,ntmps29
 go_wp2_with fail
 refine(HL'.out _).mono ?_;rintro z w1 ⟨rfl,b1⟩;have bq:=af w1 (.cells (yzA 0 0 0 0 false 0 0 0) 116);have m1:=(m0.l b1).l bq;have q1:=ah w1 (yzL 0 0 0 0 false 0 0 0) 116;have b01:=aa (aa b0 b1) bq;obtain⟨u0,u1,u2,u3⟩:=m1.cs4;obtain⟨s0,s1,s2,s3,s4,s5,s6,s7,s8⟩:=q1.cs9;clear m0 b0 b1 bq HL'
 go_wp2
 go_ret2
 exact⟨rfl,b01⟩
theorem aaS (n:Int)(R D L G fam:Int)(gr:Bool)(sz ex:Nat)(F:Nat)(c p:Int)(ng:Bool)(ao:Option Addr)(dn dc:Nat)(w:World)
  (HL:yJ 57 #[yi n] (.tuple #[ylV R D L G gr sz ex fam F,yi 0])) (hc:c<1):
  yC 29 #[yi n,yvV c ng (.slice ao dn dc) p] w (yR w (.tuple #[.string ⟨#[]⟩,yi 6])):=by
 have hsf:=cD;have hsn:=gn;have m0:=ah w (yvL c ng (.slice ao dn dc) p) 68;have b0:=af w (.cells (yvA c ng (.slice ao dn dc) p) 68);have HL':Hid _:=HL;clear HL
 go_enter func29,ntmps29
 go_wp2_with fail
 refine(HL'.out _).mono ?_;rintro z w1 ⟨rfl,b1⟩;have bq:=af w1 (.cells (ylA R D L G gr sz ex fam F) 116);have m1:=(m0.l b1).l bq;have q1:=ah w1 (ylL R D L G gr sz ex fam F) 116;have b01:=aa (aa b0 b1) bq;obtain⟨u0,u1,u2,u3⟩:=m1.cs4;obtain⟨s0,s1,s2,s3,s4,s5,s6,s7,s8⟩:=q1.cs9;clear m0 b0 b1 bq HL'
 go_wp2
 go_ret2
 exact⟨rfl,b01⟩
theorem Xj (n:Int)(R D L G fam:Int)(gr:Bool)(sz ex:Nat)(F:Nat)(c p:Int)(ng:Bool)(ao:Option Addr)(dn dc:Nat)(w:World)
  (HL:yJ 57 #[yi n] (.tuple #[ylV R D L G gr sz ex fam F,yi 0])) (hc:5<c):
  yC 29 #[yi n,yvV c ng (.slice ao dn dc) p] w (yR w (.tuple #[.string ⟨#[]⟩,yi 6])):=by
 have hc1: ¬c<1:=by omega
 have hsf:=cD;have hsn:=gn;have m0:=ah w (yvL c ng (.slice ao dn dc) p) 68;have b0:=af w (.cells (yvA c ng (.slice ao dn dc) p) 68);have HL':Hid _:=HL;clear HL
 go_enter func29,ntmps29
 go_wp2_with fail
 refine(HL'.out _).mono ?_;rintro z w1 ⟨rfl,b1⟩;have bq:=af w1 (.cells (ylA R D L G gr sz ex fam F) 116);have m1:=(m0.l b1).l bq;have q1:=ah w1 (ylL R D L G gr sz ex fam F) 116;have b01:=aa (aa b0 b1) bq;obtain⟨u0,u1,u2,u3⟩:=m1.cs4;obtain⟨s0,s1,s2,s3,s4,s5,s6,s7,s8⟩:=q1.cs9;clear m0 b0 b1 bq HL'
 go_wp2
 go_ret2
 exact⟨rfl,b01⟩
def fq (n c:Int)(ng:Bool)(xs:List Nat)(p:Int):ByteArray:=
 if dK n=0∨c<1∨5<c then⟨#[]⟩ else if chk xs≠0 then⟨#[]⟩ else if c=2 then enS n.toNat ng xs p else Fv n.toNat c.toNat xs.length ng p
theorem abN (n wy R D L G:Int)(gr ng:Bool)(m:Nat)(w:World)
  (HO:yJ 140 #[ykV n wy 1 R D L G gr,.bool ng] (.bool false))
  (HGr: ∀w1,yB w w1→yC 141 #[ykV n wy 1 R D L G gr,.bool ng] w1 (iT w1 2 ng m G)):
  yC 110 #[ykV n wy 1 R D L G gr,.bool ng] w (iT w 2 ng m G):=by
 replace HO:Hid _:=HO;replace HGr:Hid _:=HGr;have ad:=af w (.cells (ykA n wy 1 R D L G gr) 150);have av:=af (w.alloc (.cells (ykA n wy 1 R D L G gr) 150)) (.cells (yvA 0 false yN 0) 68);have d0:=(ah w (ykL n wy 1 R D L G gr) 150).l av;have v0:=ah (w.alloc (.cells (ykA n wy 1 R D L G gr) 150)) (yvL 0 false yN 0) 68;rw[World.size_alloc] at v0;have b0:=aa ad av;clear ad av
 go_enter func110,ntmps110
 go_upto_block 0 with fail
 generalize(w.alloc (.cells (ykA n wy 1 R D L G gr) 150)).alloc (.cells (yvA 0 false yN 0) 68)=W0 at d0 v0 b0⊢;obtain⟨y0,y1,y2,y3,y4,y5,y6,y7⟩:=d0.cs8
 go_wp2_with fail
 refine(HO.out _).mono ?_;rintro z w1 ⟨rfl,b1⟩;have d1:=d0.l b1;have v1:=v0.l b1;have b01:=aa b0 b1;clear y0 y1 y2 y3 y4 y5 y6 y7 d0 v0 b0 b1;obtain⟨y0,y1,y2,y3,y4,y5,y6,y7⟩:=d1.cs8
 go_wp2_with fail
 refine(HGr.out _ b01).mono ?_;rintro z w2 ⟨u,rfl,r2,b2⟩;obtain⟨mo,mc,hu⟩:=r2.shape;subst hu;have v2:=v1.l b2;have b02:=aa b01 b2;clear y0 y1 y2 y3 y4 y5 y6 y7 d1 v1 b01 b2;have cR:au ((((w2.setCell ⟨w.heap.size+1,0,none⟩ (yi 2)).setCell ⟨w.heap.size+1,1,none⟩ (.bool ng)).setCell ⟨w.heap.size+1,2,none⟩ (yT mo m mc)).setCell ⟨w.heap.size+1,3,none⟩ (yi G)) (w.heap.size+1) 68 (yvL 2 ng (yT mo m mc) G):=((((v2.set 0 (yi 2)).set 1 (.bool ng)).set 2 (yT mo m mc)).set 3 (yi G));have bu:=(((ag w2 (w.heap.size+1) 0 (yi 2)).trans (ag _ (w.heap.size+1) 1 (.bool ng))).trans (ag _ (w.heap.size+1) 2 (yT mo m mc))).trans (ag _ (w.heap.size+1) 3 (yi G));have bR:=bu.below b02 (by omega);have rR:=bu.rd r2 (aX r2 v2 (by simp));have hl:=run_loadVar_mid (P:=Tryz.prog) _ (w.heap.size+1) 0 68 (yvL 2 ng (yT mo m mc) G) _ cR.range underlying68 rfl (by kernel_rfl);have HH:Hid (_∧_∧_):=⟨hl,rR,bR⟩;obtain⟨z0,z1,z2,z3⟩:=v2.cs4;have fz0:=v2.f 0;have fz1:=v2.f 1;have fz2:=v2.f 2;have fz3:=v2.f 3;clear hl bR bu cR rR;clear v2 b02 r2
 go_wp2
 obtain⟨hl,rR,bR⟩:=HH.out;exact bodyPost_ret (br results110 rfl hl) rfl ⟨_,rfl,rR,bR⟩
theorem sF.off {w w':World}{n:Int}{ps:List ByteArray}{g cap b:Nat}{ty:TypeId}{vs:List Value}(h:sF w n ps g cap)(bu:But b w w')(hl:au w b ty vs)(hu: ∀x∈vs,∀k:Int,x≠ .int .u32 k)(hg:g≠b):sF w' n ps g cap:=
 ⟨h.fit,h.most,fun i p hp=>by
  obtain⟨so,sc,h1,h2⟩:=h.each i p hp;exact⟨so,sc,fun j v hj=>by rw[bu.c (by exact hg)];exact h1 j v hj,bu.rd h2 (aX h2 hl hu)⟩⟩
theorem Ba (k:Nat)(hk:1≤k∧k≤8)(wy:Int)(ng:Bool)(w:World):yC 141 #[dsk k wy,.bool ng] w (iT w 2 ng (rdN k^dgN k-1) (gsI k)):=by
 have hr:(rdN k=2∨rdN k=16)∧dgN k≤64:=by rcases bO hk with rfl|rfl|rfl|rfl|rfl|rfl|rfl|rfl<;>decide
 have hd:Dg.dg 4294967296 (rdN k)=[rdN k]:=by rcases hr.1 with h|h<;>rw[h]<;>rfl
 have hp:1≤rdN k^dgN k:=Nat.pow_pos (by omega);have hl:(Dg.dg 4294967296 (rdN k^dgN k)).length≤64:=by
  have h4:rdN k^dgN k<2^ (4*dgN k+1):=by
   have:rdN k^dgN k≤16^dgN k:=Nat.pow_le_pow_left (by omega) _;have e:(16:Nat)^dgN k=2^ (4*dgN k):=by rw[Nat.pow_mul]
   rw[Nat.pow_succ];have:=bG (4*dgN k);omega
  exact jq h4 (by omega)
 have hn:(Dg.dg 4294967296 (rdN k^dgN k)).length≠0:=fun h=>by
  have:=(Dg.dg_nil_iff 4294967296 (rdN k^dgN k) (by omega)).1 (List.length_eq_zero_iff.1 h);omega
 refine QM k wy (dK k) (rdN k) (dgN k) (lsI k) (gsI k) (decide (k≤3)) ng (rdN k) (rdN k^dgN k) w ?_ (fun q w1 _ hq=> ?_) (fun vo vc q w1 hv hq=> ?_)
 ·rcases hr.1 with h|h<;>rw[h]<;>rfl
 ·have h1:=aa0 hq
  rw[←hd] at h1;exact Iq _ (rdN k) (dgN k) 1 w1 h1 (by omega) (by omega) (by omega) (by omega)
 ·have:=zL (.slice vo (Dg.dg 4294967296 (rdN k^dgN k)).length vc) (.slice (some ⟨q,0,none⟩) 1 1) (Dg.dg 4294967296 (rdN k^dgN k)) [1] w1 hv (xD hq) (Dg.small_dg _ _ (by omega)) (Dg.small_cons.2 ⟨by omega,Dg.small_nil _ (by omega)⟩) (by omega) (by simp;omega) (by rw[Dg.vl_dg _ _ (by omega),show Dg.vl 4294967296 [1]=1 from rfl];exact hp)
  rwa [Dg.vl_dg _ _ (by omega),show Dg.vl 4294967296 [1]=1 from rfl] at this
theorem fin43 {P:Program}{w0 w:World}{n b:Nat}{tv tx:TypeId}{z0 z1 z2 z3 y0 y1 y2:Value}{dv dx:TypeDesc}(hv:au w b tv [z0,z1,z2,z3])(hx:au w (b+1) tx [y0,y1,y2])(hb:Below n w0 w)(hn:n≤b)(huv:P.underlying tv=some dv)(hdv:dv.isRow=true)(hiv:(P.info? tv).map (·.size)=some 4)(hux:P.underlying tx=some dx)(hdx:dx.isRow=true)(hix:(P.info? tx).map (·.size)=some 3)
  (nv: ∀x∈[z0,z1,z2,z3],∀n:Int,x≠ .int .u32 n) (nx: ∀x∈[y0,y1,y2],∀n:Int,x≠ .int .u32 n) (v0 v1 v2 v3 x0 x1 x2:Value):
  (loadVar tv ⟨b,0,none⟩).run P (((((((w.setCell ⟨b,0,none⟩ v0).setCell ⟨b,1,none⟩ v1).setCell ⟨b,2,none⟩ v2).setCell ⟨b,3,none⟩ v3).setCell ⟨b+1,0,none⟩ x0).setCell ⟨b+1,1,none⟩ x1).setCell ⟨b+1,2,none⟩ x2)= .ok (.agg #[v0,v1,v2,v3]) (((((((w.setCell ⟨b,0,none⟩ v0).setCell ⟨b,1,none⟩ v1).setCell ⟨b,2,none⟩ v2).setCell ⟨b,3,none⟩ v3).setCell ⟨b+1,0,none⟩ x0).setCell ⟨b+1,1,none⟩ x1).setCell ⟨b+1,2,none⟩ x2)∧
  (loadVar tx ⟨b+1,0,none⟩).run P (((((((w.setCell ⟨b,0,none⟩ v0).setCell ⟨b,1,none⟩ v1).setCell ⟨b,2,none⟩ v2).setCell ⟨b,3,none⟩ v3).setCell ⟨b+1,0,none⟩ x0).setCell ⟨b+1,1,none⟩ x1).setCell ⟨b+1,2,none⟩ x2)= .ok (.agg #[x0,x1,x2]) (((((((w.setCell ⟨b,0,none⟩ v0).setCell ⟨b,1,none⟩ v1).setCell ⟨b,2,none⟩ v2).setCell ⟨b,3,none⟩ v3).setCell ⟨b+1,0,none⟩ x0).setCell ⟨b+1,1,none⟩ x1).setCell ⟨b+1,2,none⟩ x2)∧
  Below n w0 (((((((w.setCell ⟨b,0,none⟩ v0).setCell ⟨b,1,none⟩ v1).setCell ⟨b,2,none⟩ v2).setCell ⟨b,3,none⟩ v3).setCell ⟨b+1,0,none⟩ x0).setCell ⟨b+1,1,none⟩ x1).setCell ⟨b+1,2,none⟩ x2)∧
  ∀v zs,Rd w .u32 v zs→Rd (((((((w.setCell ⟨b,0,none⟩ v0).setCell ⟨b,1,none⟩ v1).setCell ⟨b,2,none⟩ v2).setCell ⟨b,3,none⟩ v3).setCell ⟨b+1,0,none⟩ x0).setCell ⟨b+1,1,none⟩ x1).setCell ⟨b+1,2,none⟩ x2) .u32 v zs:=by
 have n1:b+1≠b:=by omega
 have n2:b≠b+1:=by omega
 have cX0:=((((hx.off n2 0 v0).off n2 1 v1).off n2 2 v2).off n2 3 v3);have cV:=((((((hv.set 0 v0).set 1 v1).set 2 v2).set 3 v3).off n1 0 x0).off n1 1 x1).off n1 2 x2;have cX:=((cX0.set 0 x0).set 1 x1).set 2 x2;have bu1:=(((ag w b 0 v0).trans (ag _ b 1 v1)).trans (ag _ b 2 v2)).trans (ag _ b 3 v3);have bu2:=((ag ((((w.setCell ⟨b,0,none⟩ v0).setCell ⟨b,1,none⟩ v1).setCell ⟨b,2,none⟩ v2).setCell ⟨b,3,none⟩ v3) (b+1) 0 x0).trans (ag _ (b+1) 1 x1)).trans (ag _ (b+1) 2 x2);refine⟨run_loadVar_mid (P:=P) _ b 0 tv [v0,v1,v2,v3] _ cV.range huv hdv hiv,run_loadVar_mid (P:=P) _ (b+1) 0 tx [x0,x1,x2] _ cX.range hux hdx hix,bu2.below (bu1.below hb hn) (by omega),fun v zs r=> ?_⟩
 have r1:=bu1.rd r (aX r hv nv);exact bu2.rd r1 (aX r1 cX0 nx)
theorem cread_ok (n wy c p:Int)(g:Bool)(m:Nat)(t:ak)(s:ByteArray)(w:World)(hy: ¬wy<1)(hz: ¬5<wy)(HR: ∀w1,yB w w1→yC 61 #[yi n,.string s] w1 (Ys w1 c g m p t 0)):
  yC 30 #[yi n,.string s,yi wy] w (CRes w c g m p t 0):=by
 replace HR:Hid _:=HR;obtain⟨W4,hW5,q1,q2,b3⟩:=iG w (yvL 0 false yN 0) 68 (ydL false yN 0) 76;replace hW5:Hid _:=hW5
 go_enter func30,ntmps30
 go_upto_region 1 with fail
 rw[hW5.out];clear hW5
 go_wp2_with fail
 refine(HR.out _ b3).mono ?_;rintro zz w6 ⟨v18,v29,rfl,r110,r211,-,bb7⟩;have q12:=q1.l bb7;have q13:=q2.l bb7;have b14:=aa b3 bb7;obtain⟨vo,vc,hv⟩:=r110.shape;subst hv;obtain⟨xo,xc,hv⟩:=r211.shape;subst hv;clear q1 q2 b3 bb7 HR;obtain⟨W17,hW16,q18,q19,al15⟩:=iG w6 (yvL c g (yT vo m vc) p) 68 (yDL t xo xc) 76;replace hW16:Hid _:=hW16;have hl20:w.heap.size≤w6.heap.size:=b14.size;have hl21:=q13.lt;have q22:=q12.l al15;have q23:=q13.l al15;have r24:=r110.l al15;have r25:=r211.l al15;have b26:=aa b14 al15;clear q12 q13 r110 r211 b14 al15
 go_upto_region 2 with fail
 rw[hW16.out];clear hW16
 go_upto_region 6 with fail
 have bW27:yB W17 W17.drew:=(Below.refl _ _).drew;have q28:=q22.l bW27;have q29:=q23.l bW27;have q30:=q18.l bW27;have q31:=q19.l bW27;have r32:=r24.l bW27;have r33:=r25.l bW27;have b34:=aa b26 bW27;clear q22 q23 q18 q19 r24 r25 b26 bW27;refine wp_region_held_drew (S:=fun wq=>au wq w6.heap.size 68 (yvL c g (yT vo m vc) p)∧au wq (w6.heap.size+1) 76 (yDL t xo xc)) (by kernel_rfl) ⟨q30,q31⟩ (fun hS0=> ?_)
 generalize W17.drew=WD35 at q28 q29 q30 q31 r32 r33 b34 hS0⊢;refine tq 0 (yvV c g (yT vo m vc) p) rfl (fun _ hw0=>fy 68 (.tmp 9) rfl w6.heap.size 0 (by kernel_rfl) _ _ hw0.1.range underlying68 rfl (by kernel_rfl)) hS0 ?_
 refine tq 1 (yDV t xo xc) rfl (fun _ hw0=>fy 76 (.tmp 10) rfl (w6.heap.size+1) 0 (by kernel_rfl) _ _ hw0.2.range underlying76 rfl (by kernel_rfl)) hS0 ?_
 refine wpAnyH_ready (rs:=[2]) (by kernel_rfl) (by simp) ?_;refine AllReadyH.cons rfl (fun K hK=> ?_) AllReadyH.nil
 have bu:But w.heap.size WD35 (WD35.setCells w.heap.size 0 (yvL c g (yT vo m vc) p)):=de _ _ _ _;have hth:WD35.there w.heap.size 0 4:=dD q28;have q36:au (WD35.setCells w.heap.size 0 (yvL c g (yT vo m vc) p)) w.heap.size 68 (yvL c g (yT vo m vc) p):=q28.sets _ rfl;have r37:=bu.rd r32 (aX r32 q28 (by simp));have r38:=bu.rd r33 (aX r33 q28 (by simp));have q39:=bu.loc q29 (by omega);have q40:=bu.loc q30 (by omega);have q41:=bu.loc q31 (by omega);have b42:=bu.below b34 (by omega);rw[if_pos (by kernel_rfl)];refine wp_store_mid 68 (.tmp 6) (.tmp 32) rfl w.heap.size 0 (yvA c g (yT vo m vc) p) (by kernel_rfl) (by kernel_rfl) hth (by kernel_rfl) (by simp[Value.oneCell']) ?_;refine hK.out _ _ ⟨q40,q41⟩ (fun hS43=> ?_)
 clear hK K;clear q28 r32 r33 q29 q30 q31 b34 bu hth;refine wpAnyH_ready (rs:=[3]) (by kernel_rfl) (by simp) ?_;refine AllReadyH.cons rfl (fun K hK=> ?_) AllReadyH.nil
 have bu:But (w.heap.size+1) (WD35.setCells w.heap.size 0 (yvL c g (yT vo m vc) p)) ((WD35.setCells w.heap.size 0 (yvL c g (yT vo m vc) p)).setCells (w.heap.size+1) 0 (yDL t xo xc)):=de _ _ _ _;have hth:(WD35.setCells w.heap.size 0 (yvL c g (yT vo m vc) p)).there (w.heap.size+1) 0 3:=dD q39;have q44:au ((WD35.setCells w.heap.size 0 (yvL c g (yT vo m vc) p)).setCells (w.heap.size+1) 0 (yDL t xo xc)) (w.heap.size+1) 76 (yDL t xo xc):=q39.sets _ rfl;have r45:=bu.rd r37 (aX r37 q39 (by simp));have r46:=bu.rd r38 (aX r38 q39 (by simp));have q47:=bu.loc q36 (by omega);have q48:=bu.loc q40 (by omega);have q49:=bu.loc q41 (by omega);have b50:=bu.below b42 (by omega);rw[if_pos (by kernel_rfl)];refine wp_store_mid 76 (.tmp 7) (.tmp 33) rfl (w.heap.size+1) 0 (yDA t xo xc) (by kernel_rfl) (by kernel_rfl) hth (by kernel_rfl) (by simp[Value.oneCell']) ?_;refine hK.out _ _ ⟨q48,q49⟩ (fun hS51=> ?_)
 clear hK K;clear q39 r37 r38 q36 q40 q41 b42 bu hth;refine tq 4 (yi 0) rfl (fun _ _=>by kernel_rfl) hS51 ?_
 refine wpAnyH_done (by kernel_rfl) ?_ _;clear hS0 hS43 hS51;change Exit.then _ _ _ _ (World.setCells (WD35.setCells w.heap.size 0 (yvL c g (yT vo m vc) p)) (w.heap.size+1) 0 (yDL t xo xc));generalize World.setCells (WD35.setCells w.heap.size 0 (yvL c g (yT vo m vc) p)) (w.heap.size+1) 0 (yDL t xo xc)=W52 at q47 q44 q48 q49 r45 r46 b50⊢;simp only[Act.put,List.getElem_toArray,List.getElem_cons_succ,List.getElem_cons_zero,List.setIfInBounds_toArray,List.set_cons_zero,List.set_cons_succ];have hl1:=run_loadVar_mid (P:=Tryz.prog) _ (w.heap.size) 0 68 (yvL c g (yT vo m vc) p) _ q47.range underlying68 rfl (by kernel_rfl);have hl2:=run_loadVar_mid (P:=Tryz.prog) _ (w.heap.size+1) 0 76 (yDL t xo xc) _ q44.range underlying76 rfl (by kernel_rfl)
 go_wp2
 exact bodyPost_ret (kg results30 rfl rfl rfl hl1 hl2) rfl ⟨_,_,rfl,r45,r46,b50⟩
theorem convert_oth (fm c p c2 p2 fl:Int)(g2:Bool)(m2:Nat)(st:ByteArray)(g:Bool)(m:Nat)(t:ak)(n k wy:Int)(s:ByteArray)(w:World)(hf:(fm==0)=false)(hc:(c==2)=false)(HF:yJ 51 #[yi k] (yi fm))
  (HQ: ∀w1,yB w w1→yC 30 #[yi n,.string s,yi wy] w1 (CRes w1 c g m p t 0))
  (HM: ∀vo vc w1,yB w w1→Rd w1 .u32 (yT vo m vc) (Dg.dg 4294967296 m)→yC 53 #[yvV c g (yT vo m vc) p,yi fm] w1 (B6 w1 c2 g2 m2 p2 fl))
  (HE: ∀ao ac w1,yB w w1→Rd w1 .u32 (yT ao m2 ac) (Dg.dg 4294967296 m2)→yC 29 #[yi k,yvV c2 g2 (yT ao m2 ac) p2] w1 (yR w1 (.tuple #[.string st,yi 0]))):
  yC 26 #[yi n,.string s,yi k,yi wy] w (yR w (.tuple #[.string st,yi fl,yi 0])):=by
 replace HF:Hid _:=HF;replace HQ:Hid _:=HQ;replace HM:Hid _:=HM;replace HE:Hid _:=HE
 go_enter func26,ntmps26
 have b0:=Below.refl w.heap.size w
 go_wp2_with fail
 refine(HF.out _).mono ?_;rintro zz w1 ⟨rfl,bb2⟩;have b3:=aa b0 bb2;clear b0 bb2
 go_wp2_with fail
 refine(HQ.out _ b3).mono ?_;rintro zz w4 ⟨v16,v27,rfl,r18,r29,bb5⟩;have b10:=aa b3 bb5;obtain⟨vo,vc,hv⟩:=r18.shape;subst hv;obtain⟨xo,xc,hv⟩:=r29.shape;subst hv;clear b3 bb5 HQ;obtain⟨W13,hW12,q14,q15,al11⟩:=iG w4 (yvL c g (yT vo m vc) p) 68 (yDL t xo xc) 76;replace hW12:Hid _:=hW12;have hl16:w.heap.size≤w4.heap.size:=b10.size;have r17:=r18.l al11;have b18:=aa b10 al11;clear r18 r29 b10 al11 q15
 go_upto_region 4 with fail
 rw[hW12.out];clear hW12;have c19:=q14.c 0 rfl
 go_upto_region 8 with fail
 clear c19;have bW20:yB W13 W13.drew:=(Below.refl _ _).drew;have q21:=q14.l bW20;have r22:=r17.l bW20;have b23:=aa b18 bW20;clear q14 r17 b18 bW20;refine wp_region_held_drew (S:=fun _=>True) (by kernel_rfl) trivial (fun hS0=> ?_)
 generalize W13.drew=WD24 at q21 r22 b23 hS0⊢;refine tq 1 (yi k) rfl (fun _ _=>by kernel_rfl) hS0 ?_
 refine wpAnyH_ready (rs:=[0,2]) (by kernel_rfl) (by simp) ?_;refine AllReadyH.cons rfl (fun K hK=> ?_) (AllReadyH.cons rfl (fun K hK=> ?_) AllReadyH.nil)
 ·rw[if_pos (by kernel_rfl)]
  refine wp_yield (yvV c g (yT vo m vc) p) (fy 68 (.tmp 11) rfl w4.heap.size 0 (by kernel_rfl) _ _ q21.range underlying68 rfl (by kernel_rfl)) ?_;refine hK.out _ _ trivial (fun hS25=> ?_)
  clear hK K;refine wpAnyH_ready (rs:=[2]) (by kernel_rfl) (by simp) ?_;refine AllReadyH.cons rfl (fun K hK=> ?_) AllReadyH.nil
  go_simp
  refine(HF.out _).mono ?_;rintro zz w26 ⟨rfl,bb27⟩;have q28:=q21.l bb27;have r29:=r22.l bb27;have b30:=aa b23 bb27;clear q21 r22 b23 bb27;refine hK.out _ _ trivial (fun hS31=> ?_)
  clear hK K;refine wpAnyH_ready (rs:=[3]) (by kernel_rfl) (by simp) ?_;refine AllReadyH.cons rfl (fun K hK=> ?_) AllReadyH.nil
  go_simp
  refine(HM.out _ _ _ b30 r29).mono ?_;rintro zz w32 ⟨v134,rfl,r135,bb33⟩;have q36:=q28.l bb33;have b37:=aa b30 bb33;obtain⟨ao,ac,hv⟩:=r135.shape;subst hv;clear q28 r29 b30 bb33 HM;refine hK.out _ _ trivial (fun hS38=> ?_)
  clear hK K;refine tq 4 (.tuple #[yvV c2 g2 (yT ao m2 ac) p2,yi fl]) rfl (fun _ _=>by kernel_rfl) hS38 ?_
  refine tq 5 (yvV c2 g2 (yT ao m2 ac) p2) rfl (fun _ _=>by go_simp) hS38 ?_
  refine tq 6 (yi fl) rfl (fun _ _=>by go_simp) hS38 ?_
  refine wpAnyH_ready (rs:=[7]) (by kernel_rfl) (by simp) ?_;refine AllReadyH.cons rfl (fun K hK=> ?_) AllReadyH.nil
  have bu:But w4.heap.size w32 (w32.setCells w4.heap.size 0 (yvL c2 g2 (yT ao m2 ac) p2)):=de _ _ _ _;have hth:w32.there w4.heap.size 0 4:=dD q36;have q39:au (w32.setCells w4.heap.size 0 (yvL c2 g2 (yT ao m2 ac) p2)) w4.heap.size 68 (yvL c2 g2 (yT ao m2 ac) p2):=q36.sets _ rfl;have r40:=bu.rd r135 (aX r135 q36 (by simp));have b41:=bu.below b37 (by omega);rw[if_pos (by kernel_rfl)];refine wp_store_mid 68 (.tmp 11) (.tmp 46) rfl w4.heap.size 0 (yvA c2 g2 (yT ao m2 ac) p2) (by kernel_rfl) (by kernel_rfl) hth (by kernel_rfl) (by simp[Value.oneCell']) ?_;refine hK.out _ _ trivial (fun hS42=> ?_)
  clear hK K;clear q36 r135 b37 bu hth;refine tq 8 (yi fl) rfl (fun _ _=>by kernel_rfl) hS42 ?_
  refine wpAnyH_done (by kernel_rfl) ?_ _;clear hS0 hS25 hS31 hS38 hS42;change Exit.then _ _ _ _ (World.setCells w32 w4.heap.size 0 (yvL c2 g2 (yT ao m2 ac) p2));generalize World.setCells w32 w4.heap.size 0 (yvL c2 g2 (yT ao m2 ac) p2)=W43 at q39 r40 b41⊢;simp only[Act.put,List.getElem_toArray,List.getElem_cons_succ,List.getElem_cons_zero,List.setIfInBounds_toArray,List.set_cons_zero,List.set_cons_succ];obtain⟨c44,c45,c46,c47⟩:=q39.cs4
  go_wp2_with fail
  refine(HE.out _ _ _ b41 r40).mono ?_;rintro zz w48 ⟨rfl,bb49⟩;have b50:=aa b41 bb49;clear q39 r40 b41 bb49 HE c44 c45 c46 c47
  go_wp2
  go_ret3
  exact⟨by simp,b50⟩
 ·go_simp
  refine(HF.out _).mono ?_;rintro zz w25 ⟨rfl,bb26⟩;have q27:=q21.l bb26;have r28:=r22.l bb26;have b29:=aa b23 bb26;clear q21 r22 b23 bb26;refine hK.out _ _ trivial (fun hS30=> ?_)
  clear hK K;refine wpAnyH_ready (rs:=[0]) (by kernel_rfl) (by simp) ?_;refine AllReadyH.cons rfl (fun K hK=> ?_) AllReadyH.nil
  rw[if_pos (by kernel_rfl)];refine wp_yield (yvV c g (yT vo m vc) p) (fy 68 (.tmp 11) rfl w4.heap.size 0 (by kernel_rfl) _ _ q27.range underlying68 rfl (by kernel_rfl)) ?_;refine hK.out _ _ trivial (fun hS31=> ?_)
  clear hK K;refine wpAnyH_ready (rs:=[3]) (by kernel_rfl) (by simp) ?_;refine AllReadyH.cons rfl (fun K hK=> ?_) AllReadyH.nil
  go_simp
  refine(HM.out _ _ _ b29 r28).mono ?_;rintro zz w32 ⟨v134,rfl,r135,bb33⟩;have q36:=q27.l bb33;have b37:=aa b29 bb33;obtain⟨ao,ac,hv⟩:=r135.shape;subst hv;clear q27 r28 b29 bb33 HM;refine hK.out _ _ trivial (fun hS38=> ?_)
  clear hK K;refine tq 4 (.tuple #[yvV c2 g2 (yT ao m2 ac) p2,yi fl]) rfl (fun _ _=>by kernel_rfl) hS38 ?_
  refine tq 5 (yvV c2 g2 (yT ao m2 ac) p2) rfl (fun _ _=>by go_simp) hS38 ?_
  refine tq 6 (yi fl) rfl (fun _ _=>by go_simp) hS38 ?_
  refine wpAnyH_ready (rs:=[7]) (by kernel_rfl) (by simp) ?_;refine AllReadyH.cons rfl (fun K hK=> ?_) AllReadyH.nil
  have bu:But w4.heap.size w32 (w32.setCells w4.heap.size 0 (yvL c2 g2 (yT ao m2 ac) p2)):=de _ _ _ _;have hth:w32.there w4.heap.size 0 4:=dD q36;have q39:au (w32.setCells w4.heap.size 0 (yvL c2 g2 (yT ao m2 ac) p2)) w4.heap.size 68 (yvL c2 g2 (yT ao m2 ac) p2):=q36.sets _ rfl;have r40:=bu.rd r135 (aX r135 q36 (by simp));have b41:=bu.below b37 (by omega);rw[if_pos (by kernel_rfl)];refine wp_store_mid 68 (.tmp 11) (.tmp 46) rfl w4.heap.size 0 (yvA c2 g2 (yT ao m2 ac) p2) (by kernel_rfl) (by kernel_rfl) hth (by kernel_rfl) (by simp[Value.oneCell']) ?_;refine hK.out _ _ trivial (fun hS42=> ?_)
  clear hK K;clear q36 r135 b37 bu hth;refine tq 8 (yi fl) rfl (fun _ _=>by kernel_rfl) hS42 ?_
  refine wpAnyH_done (by kernel_rfl) ?_ _;clear hS0 hS30 hS31 hS38 hS42;change Exit.then _ _ _ _ (World.setCells w32 w4.heap.size 0 (yvL c2 g2 (yT ao m2 ac) p2));generalize World.setCells w32 w4.heap.size 0 (yvL c2 g2 (yT ao m2 ac) p2)=W43 at q39 r40 b41⊢;simp only[Act.put,List.getElem_toArray,List.getElem_cons_succ,List.getElem_cons_zero,List.setIfInBounds_toArray,List.set_cons_zero,List.set_cons_succ];obtain⟨c44,c45,c46,c47⟩:=q39.cs4
  go_wp2_with fail
  refine(HE.out _ _ _ b41 r40).mono ?_;rintro zz w48 ⟨rfl,bb49⟩;have b50:=aa b41 bb49;clear q39 r40 b41 bb49 HE c44 c45 c46 c47
  go_wp2
  go_ret3
  exact⟨by simp,b50⟩
theorem Ag.l {W W':World}{base:Nat}{v:Value}(h:Ag W base v)(hb:yB W W'):Ag W' base v:=by
 obtain⟨p,h1,h2,h3⟩:=h;exact⟨p,h1,h2,h3.l hb⟩
theorem BT.l {W W':World}{base:Nat}{v:Value}(h:BT W base v)(hb:yB W W'):BT W' base v:=by
 obtain⟨p,h1,h2,h3,h4⟩:=h;exact⟨p,h1,h2,h3.l hb,h4.l hb⟩
theorem V4.l {W W':World}{base:Nat}{v:Value}(h:V4 W base v)(hb:yB W W'):V4 W' base v:=by
 obtain⟨p,h1,h2,h3,h4⟩:=h;exact⟨p,h1,h2,h3.l hb,h4.l hb⟩
theorem RB6.l {W W':World}{v:Value}{x y:ak}(h:RB6 W v x y)(hb:yB W W'):RB6 W' v x y:=by
 obtain⟨p,q,h1,h2,h3⟩:=h;exact⟨p,q,h1,h2.l hb,h3.l hb⟩
end Go.Proofs.YtddkchlamdhgcaaGreatDoor
