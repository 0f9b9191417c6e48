/-
  Texts laid together: Co3, Co14, Gm1, Gk2, Tx4, Co18, Ar1, Tx10, Co4, Em1, As8, Cv0, Cv1, Oa0, Tx15, Laws6, Eh5, Ty12, Cv10.
-/
import Derived.Test.YtlgkfdcmokchgaaGreatDoorUt26
import Derived.Test.YtlgkfdcmokchgaaGreatDoorUt27
set_option maxRecDepth 100000
set_option maxHeartbeats 6400000
namespace Go.Proofs.YtlgkfdcmokchgaaGreatDoor
open _root_.Go.Proofs.Tryz
open Go.RowKit
theorem lR (n:Int)(w:World)(h:dK n=0):yC 79 #[yi n] w (tC w 0 6):=by
 have hf:=jk n;rw[h] at hf;have HF:Hid _:=hf;clear hf h;have l0:=ah w (yzL 0 0 0 0 false 0 0 0) 110;have hsn:=gn;have b0:=af w (.cells (yzA 0 0 0 0 false 0 0 0) 110);have hl:=run_loadVar_mid (P:=Tryz.prog) _ w.heap.size 0 110 (tS 0) _ l0.range underlying110 rfl (by kernel_rfl);have HH:Hid (_∧_):=⟨hl,b0⟩;clear hl b0 l0
 go_enter func79,ntmps79
 go_wp2_with fail
 refine(HF.out _).mono ?_;rintro z w' ⟨rfl,rfl⟩
 go_wp2
 obtain⟨hl,bR⟩:=HH.out;exact bodyPost_ret (aj results79 rfl rfl hl) rfl ⟨rfl,bR⟩
theorem S5 {k:Nat}(s:ByteArray):aR k s<2^exN k:=gh _ _ _
theorem GM {k:Nat}(hk:1≤k∧k≤8)(s:ByteArray):aR k s<65536:=by
 have h1:=S5 (k:=k) s;have h2:(2:Nat)^exN k≤2^15:=Nat.pow_le_pow_right (by omega) (fZ hk).2.1;omega
theorem S6 {k:Nat}(s:ByteArray):aU k s<2^frN k:=gh _ _ _
theorem vW {k:Nat}(hk:1≤k∧k≤8)(s:ByteArray):aU k s<18446744073709551616:=by
 have h1:=S6 (k:=k) s;have h2:(2:Nat)^frN k≤2^64:=Nat.pow_le_pow_right (by omega) (fZ hk).2.2.2.1;omega
theorem kJ {R D L G:Int}(gr qs:Bool)(N M:Nat)(E way:Int)(h1:1≤D)(hLG:L≤G)(hN:N≠0)(hM:M≠0):
  cI R D L G gr qs N M E way=⟨qs,io R D (fM R D L gr qs N M E way),if io R D (fM R D L gr qs N M E way)=0 then 0 else gD R D (fM R D L gr qs N M E way) (dj R D L gr N M E),decide (gF R D L gr N M E=0),decide (G<gD R D (fM R D L gr qs N M E way) (dj R D L gr N M E)),decide (aT R D (dY N M E)<L)⟩:=by
 unfold cI
 by_cases h0:fM R D L gr qs N M E way=0
 ·have hw:cH R D L gr N M E=0:=by
   have:=KL R D L gr qs N M E way;omega
  have hc:dj R D L gr N M E=L:=by
   refine Decidable.byContradiction fun c=> ?_
   have e:dj R D L gr N M E=aT R D (dY N M E):=by
    unfold dj at c⊢
    split at c
    ·exact absurd rfl c
    ·rw[if_neg (by assumption)]
   have:=Vf R D L gr N M E h1 hN hM e;omega
  have hd:=uh R D L gr N M E h1 hN hM (dj R D L gr N M E);rw[if_pos h0,h0,if_pos ((CD R D 0).2 rfl),(CD R D 0).2 rfl];rw[hw] at hd;rw[hd.2,hc,decide_eq_false (show¬G<L by omega)]
 ·rw[if_neg h0,if_neg (fun c=>h0 ((CD R D _).1 c))]
theorem mC {R D L G:Int}{gr s:Bool}{n:Nat}{e way:Int}(h1:1≤D)(hLG:L≤G)(h0:n≠0)(hh:dA R D L G gr n e=true):
  (cI R D L G gr s n 1 e way).ov=false∧((cI R D L G gr s n 1 e way).un=false∨gr=true)∧bare ⟨(cI R D L G gr s n 1 e way).s,(cI R D L G gr s n 1 e way).d,(ai R:Int)*(cI R D L G gr s n 1 e way).p⟩=bare ⟨s,n,e⟩:=by
 have hM:(1:Nat)≠0:=by omega
 have hs:L≤cP R D L gr n e∧cP R D L gr n e≤G∧(ai R:Int)*cP R D L gr n e≤e+(tz n:Int):=by
  unfold dA at hh
  rcases of_decide_eq_true hh with h|h
  ·exact absurd h h0
  ·exact h
 have hc:dj R D L gr n 1 e=cP R D L gr n e:=by
  unfold dj cP;rw[lU h0]
 obtain⟨p1,p2⟩:=nV s n e ((ai R:Int)*cP R D L gr n e) hs.2.2;have hl:gF R D L gr n 1 e=0:=by
  unfold gF shP;rw[hc];exact p1
 have hd:fM R D L gr s n 1 e way=cH R D L gr n 1 e:=by
  unfold fM;rw[if_neg];rintro⟨c,-⟩;exact of_decide_eq_false c hl
 obtain⟨c1,c2⟩:=uh R D L gr n 1 e h1 h0 hM (dj R D L gr n 1 e);have hw:cH R D L gr n 1 e=eZ n (e-(ai R:Int)*cP R D L gr n e)/dX 1 (e-(ai R:Int)*cP R D L gr n e):=by
  unfold cH shP;rw[hc]
 rw[kJ gr s n 1 e way h1 hLG h0 hM,hd,c1,c2,hc];refine⟨decide_eq_false (by omega), ?_, ?_⟩
 ·by_cases hg:gr=true
  ·exact .inr hg
  ·refine .inl (decide_eq_false fun c=> ?_)
   have e1:cP R D L gr n e=aT R D (dY n 1 e):=by
    unfold cP;rw[lU h0,if_neg];intro c2;exact hg (Bool.and_eq_true_iff.1 c2).2
   omega
 ·show bare ⟨s,cH R D L gr n 1 e,(ai R:Int)*(if cH R D L gr n 1 e=0 then 0 else cP R D L gr n e)⟩=_
  by_cases hz:cH R D L gr n 1 e=0
  ·rw[←p2,←hw,hz]
   simp[bare]
  ·rw[if_neg hz,hw,p2]
theorem nW {R D L G:Int}{gr qs:Bool}{N M:Nat}{E way:Int}(h1:1≤D)(hLG:L≤G)(hN:N≠0)(hM:M≠0)(ho:(cI R D L G gr qs N M E way).ov=false)(hu:(cI R D L G gr qs N M E way).un=false∨gr=true):
  ((cI R D L G gr qs N M E way).d=0∧(cI R D L G gr qs N M E way).p=0)∨((cI R D L G gr qs N M E way).d≠0∧L≤(cI R D L G gr qs N M E way).p∧(cI R D L G gr qs N M E way).p≤G∧(cI R D L G gr qs N M E way).d<2^ (ai R*D.toNat)∧(2^ (ai R*(D-1).toNat)≤(cI R D L G gr qs N M E way).d∨(gr=true∧(cI R D L G gr qs N M E way).p=L))):=by
 rw[kJ gr qs N M E way h1 hLG hN hM] at ho hu⊢;simp only at ho hu⊢;have hov:=of_decide_eq_false ho
 by_cases hz:io R D (fM R D L gr qs N M E way)=0
 ·exact .inl ⟨hz,if_pos hz⟩
 ·refine .inr ⟨hz, ?_⟩
  rw[if_neg hz];have hwl:=rP R D L gr N M E h1 hN hM;have hge:=KL R D L gr qs N M E way;have hle:fM R D L gr qs N M E way≤cH R D L gr N M E+1:=by
   unfold fM
   split<;>omega
  have hpw:2^ (ai R*(D-1).toNat)<2^ (ai R*D.toNat):=by
   refine Nat.pow_lt_pow_right (by omega) ?_;exact Nat.mul_lt_mul_of_pos_left (by omega) (by have:=eN R;omega)
  have hcut:L≤dj R D L gr N M E∧(dj R D L gr N M E=aT R D (dY N M E)∨(gr=true∧dj R D L gr N M E=L)):=by
   unfold dj
   by_cases hc:(decide (aT R D (dY N M E)<L)&&gr)=true
   ·rw[if_pos hc]
    exact⟨Int.le_refl _,.inr ⟨(Bool.and_eq_true_iff.1 hc).2,rfl⟩⟩
   ·rw[if_neg hc]
    refine⟨?_,.inl rfl⟩
    rcases hu with hu|hu
    ·have:=of_decide_eq_false hu
     omega
    ·rw[hu,Bool.and_true] at hc
     have: ¬aT R D (dY N M E)<L:=fun c=>hc (decide_eq_true c)
     omega
  unfold io gD at*
  by_cases hq:fM R D L gr qs N M E way=2^ (ai R*D.toNat)
  ·rw[if_pos hq] at hov⊢
   rw[if_pos hq];exact⟨by omega,by omega,hpw,.inl (Nat.le_refl _)⟩
  ·rw[if_neg hq] at hov⊢
   rw[if_neg hq];refine⟨hcut.1,by omega,by omega, ?_⟩
   rcases hcut.2 with h|h
   ·refine .inl (Nat.le_trans ?_ hge)
    have:=mt (xx R D (aT R D (dY N M E)) N M E h1 hN hM).1 (Int.lt_irrefl _);rw[pP] at this;unfold cH shP;rw[h];omega
   ·exact .inr h
theorem tratio_0 (ng:Bool)(ds:ByteArray)(p:Int)(w:World)
  (HD: ∀w1,yC 33 #[.string ds] w1 fun z w'=> ∃ao ac,z= .returned (.slice ao 0 ac)∧yB w1 w'):
  yC 74 #[.agg #[.bool ng,.string ds,yi p]] w (RtZ w):=by
 replace HD:Hid _:=HD;obtain⟨W4,hW5,q1,q2,b3⟩:=iG w [.bool ng,.string ds,yi p] 136 (yrL false yN yN 0) 60;replace hW5:Hid _:=hW5
 go_enter func74,ntmps74
 go_upto_region 1 with fail
 rw[hW5.out];clear hW5;have c6:=q1.c 1 rfl
 go_wp2_with fail
 refine(HD.out _).mono ?_;rintro zz w7 ⟨ao,ac,rfl,bb8⟩;have q9:=q2.l bb8;have b10:=aa b3 bb8;clear q1 q2 b3 bb8 HD c6;have hl13:=q9.lt;have al11:=af w7 (.cells #[.int .u32 1] 54);have q12:=ah w7 [.int .u32 1] 54;have q14:=q9.l al11;have b15:=aa b10 al11
 go_upto_region 3 with fail
 clear q9 b10 al11;generalize w7.alloc (.cells #[.int .u32 1] 54)=W16 at q14 q12 b15⊢;have hf:=afz (P:=Tryz.prog) q14 b15 (by omega) underlying60 rfl (by kernel_rfl) (.bool false) yN (.slice (some ⟨w7.heap.size,0,none⟩) 1 1) (yi 0);have HH:Hid (_∧_∧_):=⟨hf.1,hf.2.2.loc q12 (by omega),hf.2.1⟩;obtain⟨⟨z0,z1,z2,z3⟩,y0,y1,y2,y3⟩:=afB q14;clear hf q14 q12 b15
 go_wp2
 obtain⟨hl,lR2,bR⟩:=HH.out;exact bodyPost_ret (br results74 rfl hl) rfl ⟨_,rfl,lR2,bR⟩
theorem Xt (n:Int)(R sz ex:Nat)(D L G fam:Int)(gr:Bool)(F:Nat)(ng:Bool)(e f:Nat)(c:Int)(gg:Bool)(m:Nat)(p:Int)(s:ByteArray)(w:World)
  (HR:yJ 53 #[yi n,.string s] (.tuple #[ylV R D L G gr sz ex fam F,yfV ng e f,yi 0]))
  (HV: ∀w1,yC 54 #[ylV R D L G gr sz ex fam F,yfV ng e f] w1 (iT w1 c gg m p)):
  yC 20 #[yi n,.string s] w (eP w c gg m p 0):=by
 have hsf:=cD;have HR':Hid _:=HR;have HV':Hid _:=HV;have v0:=ah w (yvL 0 false yN 0) 48;have b0:=af w (.cells (yvA 0 false yN 0) 48);clear HR HV
 go_enter func20,ntmps20
 go_wp2_with fail
 refine(HR'.out _).mono ?_;rintro z w1 ⟨rfl,b1⟩;have bl:=af w1 (.cells (ylA R D L G gr sz ex fam F) 110);have bf:=af (w1.alloc (.cells (ylA R D L G gr sz ex fam F) 110)) (.cells (yfA ng e f) 112);have v2:=((v0.l b1).l bl).l bf;have b2:=aa (aa (aa b0 b1) bl) bf
 go_wp2_with fail
 refine(HV'.out _).mono ?_;rintro z w3 ⟨v,rfl,r3,b3⟩;obtain⟨vo,vc,hv⟩:=r3.shape;subst hv;have v3:=v2.l b3;have b03:=aa b2 b3;have ov:=cq r3 (Dg.norm_dg _ _ (by omega)) v3 (fun x hx n hn=>by simp at hx;rcases hx with rfl|rfl|rfl|rfl<;>simp)
 have bu:=(((ag w3 w.heap.size 0 (yi c)).trans (ag _ w.heap.size 1 (.bool gg))).trans (ag _ w.heap.size 2 (yT vo m vc))).trans (ag _ w.heap.size 3 (yi p));have cR:au ((((w3.setCell ⟨w.heap.size,0,none⟩ (yi c)).setCell ⟨w.heap.size,1,none⟩ (.bool gg)).setCell ⟨w.heap.size,2,none⟩ (yT vo m vc)).setCell ⟨w.heap.size,3,none⟩ (yi p)) w.heap.size 48 (yvL c gg (yT vo m vc) p):=((((v3.set 0 (yi c)).set 1 (.bool gg)).set 2 (yT vo m vc)).set 3 (yi p));have bR:=bu.below b03 (Nat.le_refl _);have rR:=bu.rd r3 ov;have hl:=run_loadVar_mid (P:=Tryz.prog) _ w.heap.size 0 48 (yvL c gg (yT vo m vc) p) _ cR.range underlying48 rfl (by kernel_rfl);have HH:Hid (_∧_∧_):=⟨hl,rR,bR⟩;obtain⟨x0,x1,x2,x3⟩:=v3.cs4;have j0:=v3.f 0;have j1:=v3.f 1;have j2:=v3.f 2;have j3:=v3.f 3;clear hl bR rR cR bu ov v3 b03 r3 b3 v2 b2 bl bf b1 v0 b0
 go_wp2
 obtain⟨hl,rR,bR⟩:=HH.out;exact bodyPost_ret (aj results20 rfl rfl hl) rfl ⟨_,rfl,rR,bR⟩
theorem Pk (n:Int)(er:Int)(her:er≠0)(s:ByteArray)(w:World)
  (HR:yJ 53 #[yi n,.string s] (.tuple #[yzV 0 0 0 0 false 0 0 0,yfV false 0 0,yi er])):
  yC 20 #[yi n,.string s] w (eP w 0 false 0 0 er):=by
 have hsn:=gn;have HR':Hid _:=HR;have v0:=ah w (yvL 0 false yN 0) 48;have b0:=af w (.cells (yvA 0 false yN 0) 48);have he:(er==0)=false:=by simpa using her
 clear HR her
 go_enter func20,ntmps20
 go_wp2_with fail
 refine(HR'.out _).mono ?_;rintro z w1 ⟨rfl,b1⟩;have bl:=af w1 (.cells (yzA 0 0 0 0 false 0 0 0) 110);have bf:=af (w1.alloc (.cells (yzA 0 0 0 0 false 0 0 0) 110)) (.cells (yfA false 0 0) 112);have v2:=((v0.l b1).l bl).l bf;have b2:=aa (aa (aa b0 b1) bl) bf;have bu:=(((ag ((w1.alloc (.cells (yzA 0 0 0 0 false 0 0 0) 110)).alloc (.cells (yfA false 0 0) 112)) w.heap.size 0 (yi 0)).trans (ag _ w.heap.size 1 (.bool false))).trans (ag _ w.heap.size 2 yN)).trans (ag _ w.heap.size 3 (yi 0));have cR:au ((((((w1.alloc (.cells (yzA 0 0 0 0 false 0 0 0) 110)).alloc (.cells (yfA false 0 0) 112)).setCell ⟨w.heap.size,0,none⟩ (yi 0)).setCell ⟨w.heap.size,1,none⟩ (.bool false)).setCell ⟨w.heap.size,2,none⟩ yN).setCell ⟨w.heap.size,3,none⟩ (yi 0)) w.heap.size 48 (yvL 0 false yN 0):=((((v2.set 0 (yi 0)).set 1 (.bool false)).set 2 yN).set 3 (yi 0));have bR:=bu.below b2 (Nat.le_refl _);have hl:=run_loadVar_mid (P:=Tryz.prog) _ w.heap.size 0 48 (yvL 0 false yN 0) _ cR.range underlying48 rfl (by kernel_rfl);have HH:Hid (_∧_):=⟨hl,bR⟩;have hnA:w1.heap.size≠w.heap.size:=Nat.ne_of_gt (v0.l b1).lt;have hnB:w1.heap.size+1≠w.heap.size:=by have:=(v0.l b1).lt;omega
 obtain⟨x0,x1,x2,x3⟩:=v2.cs4;have j0:=v2.f 0;have j1:=v2.f 1;have j2:=v2.f 2;have j3:=v2.f 3;clear hl bR cR bu v2 b2 bl bf b1 v0 b0
 go_wp2
 obtain⟨hl,bR⟩:=HH.out;exact bodyPost_ret (aj results20 rfl rfl hl) rfl ⟨_,rfl,aN _ _,bR⟩
def gJ (n:Int)(s:ByteArray):Nat:=if dF n s=0 then ge n.toNat (aZ n.toNat s) (aR n.toNat s) (aU n.toNat s) else 0
def iF (n:Int)(s:ByteArray):Int:=if dF n s=0 then gw n.toNat (aZ n.toNat s) (aR n.toNat s) (aU n.toNat s) else 0
theorem Yr (n R D L G fam:Int)(gr:Bool)(w:World)
  (HG:yJ 42 #[yi n] (.tuple #[ygV R D L G gr,yi 0]))
  (HF: ∀w1,yC 36 #[yi n] w1 fun z w'=>z= .returned (yi fam)∧w'=w1):
  yC 58 #[yi n] w (yR w (.tuple #[ykV n 0 fam R D L G gr,yi 0])):=by
 replace HG:Hid _:=HG;replace HF:Hid _:=HF;have d0:=ah w (ykL 0 0 0 0 0 0 0 false) 121;have b0:=af w (.cells (ykA 0 0 0 0 0 0 0 false) 121)
 go_enter func58,ntmps58
 go_wp2_with fail
 refine(HG.out _).mono ?_;rintro z w1 ⟨rfl,b1⟩;have bg:=af w1 (.cells (ygA R D L G gr) 82);have g1:=ah w1 (ygL R D L G gr) 82;have d1:=(d0.l b1).l bg;have b01:=aa (aa b0 b1) bg;have hlt:w.heap.size<w1.heap.size:=(d0.l b1).lt
 go_upto_region 4 with fail
 generalize w1.alloc (.cells (ygA R D L G gr) 82)=W1 at g1 d1 b01⊢;generalize w1.heap.size=PG at g1 hlt⊢;have hne:w.heap.size≠PG:=by omega
 have gd:=g1.drew;have dd:=d1.drew;have bd:=b01.drew;have bR:yB w (W1.drew.setCells w.heap.size 0 (ykL n 0 fam R D L G gr)):=((((((((ag W1.drew w.heap.size 0 (yi n)).trans (ag _ w.heap.size 1 (yi 0))).trans (ag _ w.heap.size 2 (yi fam))).trans (ag _ w.heap.size 3 (yi R))).trans (ag _ w.heap.size 4 (yi D))).trans (ag _ w.heap.size 5 (yi L))).trans (ag _ w.heap.size 6 (yi G))).trans (ag _ w.heap.size 7 (.bool gr))).below bd (Nat.le_refl _);have hl:=run_loadVar_mid (P:=Tryz.prog) _ w.heap.size 0 121 (ykL n 0 fam R D L G gr) _ (World.rangeAt_setCells_same W1.drew w.heap.size 0 (ykL n 0 fam R D L G gr) (show W1.drew.there w.heap.size 0 8 from dD dd)) underlying121 rfl (by kernel_rfl)
 have HH:Hid (_∧_):=⟨hl,bR⟩;clear hl bR b01 d0 b0 b1 bg HG bd d1 g1;refine wp_region_held_drew (S:=fun wq=>wq.rangeAt PG 0 (ygL R D L G gr)) (by kernel_rfl) gd.range (fun hS0=> ?_)
 refine tq 0 (yi n) rfl (fun w0 _=>by kernel_rfl) hS0 ?_
 refine tq 1 (yi n) rfl (fun w0 _=>by kernel_rfl) hS0 ?_
 refine tq 3 ((ygV R D L G gr)) rfl (fun w0 hw0=>fy 82 (.tmp 4) rfl PG 0 (by kernel_rfl) _ _ hw0 underlying82 rfl (by kernel_rfl)) hS0 ?_
 refine wpAnyH_ready (rs:=[2]) (by kernel_rfl) (by simp) ?_;refine AllReadyH.cons rfl (fun K hK=> ?_) AllReadyH.nil
 go_simp
 refine(HF.out _).mono ?_;rintro z w2 ⟨rfl,rfl⟩;refine hK.out _ _ hS0 (fun hS2=> ?_)
 clear hK K;refine tq 4 ((ykV n 0 fam R D L G gr)) rfl (fun w0 _=>by kernel_rfl) hS2 ?_
 refine wpAnyH_ready (rs:=[5]) (by kernel_rfl) (by simp) ?_;refine AllReadyH.cons rfl (fun K hK=> ?_) AllReadyH.nil
 rw[if_pos (by kernel_rfl)];refine wp_store_mid 121 (.tmp 2) (.tmp 19) rfl w.heap.size 0 (ykA n 0 fam R D L G gr) (by kernel_rfl) (by kernel_rfl) (show W1.drew.there w.heap.size 0 8 from dD dd) (by kernel_rfl) (by simp[Value.oneCell']) ?_
 refine hK.out _ _ (World.rangeAt_setCells_apart hS2 _ _ _ (.inl (by omega))) (fun hS5=> ?_)
 clear hK K;refine tq 6 (yi 0) rfl (fun w0 _=>by kernel_rfl) hS5 ?_
 refine wpAnyH_done (by kernel_rfl) ?_ _;obtain⟨hl,bR⟩:=HH.out;clear HH hS5 hS2 hS0 gd dd HF;change Exit.then _ _ _ _ (World.setCells W1.drew w.heap.size 0 (ykL n 0 fam R D L G gr));generalize World.setCells W1.drew w.heap.size 0 (ykL n 0 fam R D L G gr)=WE at hl bR⊢
 go_wp2
 exact bodyPost_ret (aj results58 rfl rfl hl) rfl ⟨rfl,bR⟩
theorem tShort_num (wd md:ByteArray)(dg:Bool)(hv:Nat)(cn pw:Int)(PR:Nat→ByteArray)(mk:Nat→Bool)(n c p:Int)(g:Bool)(M:Nat)(x:ak)(s:ByteArray)(w:World)
  (HR: ∀w1,yB w w1→yC 45 #[yi n,.string s] w1 (Ys w1 c g M p x 0))
  (HW: ∀vo vc w1,yC 46 #[yvV c g (yT vo M vc) p] w1 (yR w1 (.tuple #[.string wd,.bool false])))
  (HE: ∀vo vc w1,yB w w1→Rd w1 .u32 (yT vo M vc) (Dg.dg 4294967296 M)→yC 47 #[yi n,yvV c g (yT vo M vc) p] w1 (yR w1 (.tuple #[.string md,yi 0])))
  (HD: ∀xo xc w1,yB w w1→Rd w1 .u32 (yT xo x.n xc) (Dg.dg 4294967296 x.n)→yC 48 #[yDV x xo xc] w1 (DcR w1 dg hv cn pw))
  (HP: ∀k:Nat,1≤k→k≤60→ ∀ho hc w1,yB w w1→Rd w1 .u32 (yT ho hv hc) (Dg.dg 4294967296 hv)→yC 50 #[.agg #[.bool dg,yT ho hv hc,yi cn,yi pw],yi (k:Int)] w1 (yR w1 (.string (PR k))))
  (HM: ∀k:Nat,yH w 49 #[.string (PR k),yi n,.string md] (.bool (mk k))):
  yC 17 #[yi n,.string s] w (yR w (.tuple #[.string (PR (shF mk 59 1)),yi 0])):=by
 replace HR:Hid _:=HR;replace HW:Hid _:=HW;replace HE:Hid _:=HE;replace HD:Hid _:=HD;replace HP:Hid _:=HP;replace HM:Hid _:=HM;obtain⟨rr,hrr⟩: ∃r,PR (shF mk 59 1)=r:=⟨_,rfl⟩;rw[hrr];replace hrr:Hid _:=hrr
 go_enter func17,ntmps17
 have b0:=Below.refl w.heap.size w
 go_wp2_with fail
 refine(HR.out _ b0).mono ?_;rintro zz w1 ⟨v1x3,v2x4,rfl,r1x5,r2x6,-,bb2⟩;have b7:=aa b0 bb2;obtain⟨vo,vc,hv⟩:=r1x5.shape;subst hv;obtain⟨xo,xc,hv⟩:=r2x6.shape;subst hv;clear b0 bb2 HR;obtain⟨W10,hW9,q11,q12,al8⟩:=iG w1 (yvL c g (yT vo M vc) p) 48 (yDL x xo xc) 78;replace hW9:Hid _:=hW9;have hl13:w.heap.size≤w1.heap.size:=b7.size;have r14:=r1x5.l al8;have r15:=r2x6.l al8;have b16:=aa b7 al8;clear r1x5 r2x6 b7 al8
 go_upto_region 2 with fail
 rw[hW9.out];clear hW9;obtain⟨c17,c18,c19,c20⟩:=q11.cs4
 go_wp2_with fail
 refine(HW.out _ _ _).mono ?_;rintro zz w21 ⟨rfl,bb22⟩;have q23:=q11.l bb22;have q24:=q12.l bb22;have r25:=r14.l bb22;have r26:=r15.l bb22;have b27:=aa b16 bb22;clear q11 q12 r14 r15 b16 bb22 HW c17 c18 c19 c20;obtain⟨c28,c29,c30,c31⟩:=q23.cs4
 go_wp2_with fail
 refine(HE.out _ _ _ b27 r25).mono ?_;rintro zz w32 ⟨rfl,bb33⟩;have q34:=q24.l bb33;have r35:=r26.l bb33;have b36:=aa b27 bb33;clear q23 q24 r25 r26 b27 bb33 HE c28 c29 c30 c31;obtain⟨c37,c38,c39⟩:=q34.cs3
 go_wp2_with fail
 refine(HD.out _ _ _ b36 r35).mono ?_;rintro zz w40 ⟨v1x42,rfl,r1x43,bb41⟩;have b44:=aa b36 bb41;obtain⟨ho,hc,hv⟩:=r1x43.shape;subst hv;clear q34 r35 b36 bb41 HD c37 c38 c39;obtain⟨W47,hW46,q48,al45⟩:=cA w40 [.bool dg,yT ho hv hc,yi cn,yi pw] 100;replace hW46:Hid _:=hW46;have hl49:w.heap.size≤w40.heap.size:=b44.size;have r50:=r1x43.l al45;have b51:=aa b44 al45;clear r1x43 b44 al45
 go_wp2_with fail
 rw[hW46.out];clear hW46;have hS:ShW w (w40.heap.size) [.bool dg,yT ho hv hc,yi cn,yi pw] (yT ho hv hc) hv W47:=⟨b51,q48,r50⟩;clear q48 r50 b51;generalize w40.heap.size=ad at hS⊢;generalize W47=ws at hS⊢
 go_loopw [13] (fun kv wr=> ∃k:Nat,1≤k∧k≤60∧kv=yi (k:Int)∧ShW w ad [.bool dg,yT ho hv hc,yi cn,yi pw] (yT ho hv hc) hv wr∧Hid (shF mk (60-k) k=shF mk 59 1)) (fun kv _=>60-(intOf kv).toNat)
 case atStart=>exact⟨1,by omega,by omega,rfl,hS,rfl⟩
 case round=>
  clear hS;obtain⟨k,hk1,hk2,rfl,hS,hF⟩:=hrel;obtain⟨bz,qd,rh⟩:=hS
  by_cases hlt:k<60
  ·have HPa:=HP.out k hk1 hk2
   have HMa:=HM.out k;obtain⟨pk,hpk⟩: ∃q,PR k=q:=⟨_,rfl⟩;rw[hpk] at HPa HMa;have HPb:=HPa;replace hpk:Hid _:=hpk;replace HPa:Hid _:=HPa;replace HPb:Hid _:=HPb
   cases hm:mk k
   case false=>
    rw[hm] at HMa;replace hm:Hid _:=hm;replace HMa:Hid _:=HMa;obtain⟨c101,c102,c103,c104⟩:=qd.cs4
    go_wp2_with fail
    refine(HPa.out _ _ _ bz rh).mono ?_;rintro zz w105 ⟨rfl,bb106⟩;have q107:=qd.l bb106;have r108:=rh.l bb106;have b109:=aa bz bb106;clear qd rh bz bb106 HPa c101 c102 c103 c104
    go_wp2_with fail
    refine(HMa.out _ b109).mono ?_;rintro zz w110 ⟨rfl,bb111⟩;have q112:=q107.l bb111;have r113:=r108.l bb111;have b114:=aa b109 bb111;clear q107 r108 b109 bb111 HMa
    go_wp2
    go_roundw
    case rel=>exact⟨k+1,by omega,by omega,by go_num,⟨b114,q112,r113⟩,by have e:shF mk ((60-(k+1))+1) k=shF mk (60-(k+1)) (k+1):=if_neg (by rw[hm.out];decide);rw[show(60-(k+1))+1=60-k by omega,hF.out] at e;exact e.symm⟩
    case measure=>simp[intOf];omega
   case true=>
    rw[hm] at HMa;replace hm:Hid _:=hm;replace HMa:Hid _:=HMa;obtain⟨c201,c202,c203,c204⟩:=qd.cs4
    go_wp2_with fail
    refine(HPa.out _ _ _ bz rh).mono ?_;rintro zz w205 ⟨rfl,bb206⟩;have q207:=qd.l bb206;have r208:=rh.l bb206;have b209:=aa bz bb206;clear qd rh bz bb206 HPa c201 c202 c203 c204
    go_wp2_with fail
    refine(HMa.out _ b209).mono ?_;rintro zz w210 ⟨rfl,bb211⟩;have q212:=q207.l bb211;have r213:=r208.l bb211;have b214:=aa b209 bb211;clear q207 r208 b209 bb211 HMa;obtain⟨c215,c216,c217,c218⟩:=q212.cs4
    go_wp2_with fail
    refine(HPb.out _ _ _ b214 r213).mono ?_;rintro zz w219 ⟨rfl,bb220⟩;have b221:=aa b214 bb220;clear q212 r213 b214 bb220 HPb c215 c216 c217 c218
    go_wp2
    go_ret2
    have e:shF mk (60-k) k=k:=by rw[show 60-k=(60-(k+1))+1 by omega];unfold shF;rw[if_pos hm.out]
    rw[←hrr.out,←hF.out,e,hpk.out];exact⟨rfl,b221⟩
  ·obtain rfl:k=60:=by omega
   have HPb:=HP.out 60 hk1 hk2;obtain⟨pk,hpk⟩: ∃q,PR 60=q:=⟨_,rfl⟩;rw[hpk] at HPb;replace hpk:Hid _:=hpk;replace HPb:Hid _:=HPb;obtain⟨c301,c302,c303,c304⟩:=qd.cs4
   go_wp2_with fail
   refine(HPb.out _ _ _ bz rh).mono ?_;rintro zz w305 ⟨rfl,bb306⟩;have b307:=aa bz bb306;clear qd rh bz bb306 HPb c301 c302 c303 c304
   go_wp2
   go_ret2
   rw[←hrr.out,←hF.out,show shF mk (60-60) 60=60 from rfl,hpk.out]
   exact⟨rfl,b307⟩
theorem vU (n:Int)(w:World)(h:dK n=0):yC 42 #[yi n] w (yR w (.tuple #[ygV 0 0 0 0 false,yi 6])):=by
 have HL:Hid (yJ 79 #[yi n] (.tuple #[yzV 0 0 0 0 false 0 0 0,yi 6])):=fun w1=>lR n w1 h
 have hsf:=cD;have hsn:=gn;have l0:=ah w (ygL 0 0 0 0 false) 82;have b0:=af w (.cells (ygA 0 0 0 0 false) 82)
 go_enter func42,ntmps42
 go_wp2_with fail
 refine(HL.out _).mono ?_;rintro z w2 ⟨rfl,b2⟩;have l3:=(l0.l b2).l (af w2 (.cells (yzA 0 0 0 0 false 0 0 0) 110));have cR:au ((((((w2.alloc (.cells (yzA 0 0 0 0 false 0 0 0) 110)).setCell ⟨w.heap.size,0,none⟩ (yi 0)).setCell ⟨w.heap.size,1,none⟩ (yi 0)).setCell ⟨w.heap.size,2,none⟩ (yi 0)).setCell ⟨w.heap.size,3,none⟩ (yi 0)).setCell ⟨w.heap.size,4,none⟩ (.bool false)) w.heap.size 82 (ygL 0 0 0 0 false):=(((((l3.set 0 (yi 0)).set 1 (yi 0)).set 2 (yi 0)).set 3 (yi 0)).set 4 (.bool false));have bR:=(((((ag (w2.alloc (.cells (yzA 0 0 0 0 false 0 0 0) 110)) w.heap.size 0 (yi 0)).trans (ag _ w.heap.size 1 (yi 0))).trans (ag _ w.heap.size 2 (yi 0))).trans (ag _ w.heap.size 3 (yi 0))).trans (ag _ w.heap.size 4 (.bool false))).below (aa (aa b0 b2) (af w2 (.cells (yzA 0 0 0 0 false 0 0 0) 110))) (Nat.le_refl _);have hl:=run_loadVar_mid (P:=Tryz.prog) _ w.heap.size 0 82 (ygL 0 0 0 0 false) _ cR.range underlying82 rfl (by kernel_rfl);have HH:Hid (_∧_):=⟨hl,bR⟩;have x0:=l3.c 0 rfl;have f0:=l3.f 0;have x1:=l3.c 1 rfl;have f1:=l3.f 1;have x2:=l3.c 2 rfl;have f2:=l3.f 2;have x3:=l3.c 3 rfl;have f3:=l3.f 3;have x4:=l3.c 4 rfl;have f4:=l3.f 4;have hne:w2.heap.size≠w.heap.size:=Nat.ne_of_gt (l0.l b2).lt;clear hl bR cR l0 l3 b0 b2 HL
 go_wp2
 obtain⟨hl,bR⟩:=HH.out;exact bodyPost_ret (aj results42 rfl rfl hl) rfl ⟨rfl,bR⟩
theorem oj {R D L G:Int}{gr s:Bool}{n:Nat}{e way:Int}(h1:1≤D)(hLG:L≤G)(h0:n≠0)(hh:dA R D L G gr n e=true):
  (cI R D L G gr s n 1 e way).s=s∧(cI R D L G gr s n 1 e way).d=shN n (e-(ai R:Int)*cP R D L gr n e)∧(cI R D L G gr s n 1 e way).p=cP R D L gr n e∧shN n (e-(ai R:Int)*cP R D L gr n e)≠0:=by
 have hM:(1:Nat)≠0:=by omega
 have hb:=(mC (s:=s) (way:=way) h1 hLG h0 hh).2.2;have hs:L≤cP R D L gr n e∧cP R D L gr n e≤G∧(ai R:Int)*cP R D L gr n e≤e+(tz n:Int):=by
  unfold dA at hh
  rcases of_decide_eq_true hh with h|h
  ·exact absurd h h0
  ·exact h
 have hc:dj R D L gr n 1 e=cP R D L gr n e:=by
  unfold dj cP;rw[lU h0]
 obtain⟨p1,-⟩:=nV s n e ((ai R:Int)*cP R D L gr n e) hs.2.2;have hl:gF R D L gr n 1 e=0:=by
  unfold gF shP;rw[hc];exact p1
 have hd:fM R D L gr s n 1 e way=cH R D L gr n 1 e:=by
  unfold fM;rw[if_neg];rintro⟨c,-⟩;exact of_decide_eq_false c hl
 obtain⟨c1,c2⟩:=uh R D L gr n 1 e h1 h0 hM (dj R D L gr n 1 e);have hw:cH R D L gr n 1 e=shN n (e-(ai R:Int)*cP R D L gr n e):=by
  unfold cH shP;rw[hc,Jv]
 have hdn:(cI R D L G gr s n 1 e way).d≠0:=fun hz=>by
  have h2:(bare ⟨(cI R D L G gr s n 1 e way).s,(cI R D L G gr s n 1 e way).d,(ai R:Int)*(cI R D L G gr s n 1 e way).p⟩).n=0:=(fI _).2 hz;rw[hb] at h2;exact h0 ((fI _).1 h2)
 rw[kJ gr s n 1 e way h1 hLG h0 hM,hd,c1,c2,hc] at hdn⊢;simp only at hdn⊢;rw[if_neg hdn];rw[hw] at hdn⊢;exact⟨trivial,rfl,rfl,hdn⟩
theorem sF.off {w w':World}{n:Int}{ps:List ByteArray}{g cap b:Nat}{ty:TypeId}{vs:List Value}(h:sF w n ps g cap)(bu:But b w w')(hl:au w b ty vs)(hu: ∀x∈vs,∀k:Int,x≠ .int .u32 k)(hg:g≠b):sF w' n ps g cap:=
 ⟨h.fit,h.most,fun i p hp=>by
  obtain⟨so,sc,h1,h2⟩:=h.each i p hp;exact⟨so,sc,fun j v hj=>by rw[bu.c (by exact hg)];exact h1 j v hj,bu.rd h2 (aX h2 hl hu)⟩⟩
theorem fin43 {P:Program}{w0 w:World}{n b:Nat}{tv tx:TypeId}{z0 z1 z2 z3 y0 y1 y2:Value}{dv dx:TypeDesc}(hv:au w b tv [z0,z1,z2,z3])(hx:au w (b+1) tx [y0,y1,y2])(hb:Below n w0 w)(hn:n≤b)(huv:P.underlying tv=some dv)(hdv:dv.isRow=true)(hiv:(P.info? tv).map (·.size)=some 4)(hux:P.underlying tx=some dx)(hdx:dx.isRow=true)(hix:(P.info? tx).map (·.size)=some 3)
  (nv: ∀x∈[z0,z1,z2,z3],∀n:Int,x≠ .int .u32 n) (nx: ∀x∈[y0,y1,y2],∀n:Int,x≠ .int .u32 n) (v0 v1 v2 v3 x0 x1 x2:Value):
  (loadVar tv ⟨b,0,none⟩).run P (((((((w.setCell ⟨b,0,none⟩ v0).setCell ⟨b,1,none⟩ v1).setCell ⟨b,2,none⟩ v2).setCell ⟨b,3,none⟩ v3).setCell ⟨b+1,0,none⟩ x0).setCell ⟨b+1,1,none⟩ x1).setCell ⟨b+1,2,none⟩ x2)= .ok (.agg #[v0,v1,v2,v3]) (((((((w.setCell ⟨b,0,none⟩ v0).setCell ⟨b,1,none⟩ v1).setCell ⟨b,2,none⟩ v2).setCell ⟨b,3,none⟩ v3).setCell ⟨b+1,0,none⟩ x0).setCell ⟨b+1,1,none⟩ x1).setCell ⟨b+1,2,none⟩ x2)∧
  (loadVar tx ⟨b+1,0,none⟩).run P (((((((w.setCell ⟨b,0,none⟩ v0).setCell ⟨b,1,none⟩ v1).setCell ⟨b,2,none⟩ v2).setCell ⟨b,3,none⟩ v3).setCell ⟨b+1,0,none⟩ x0).setCell ⟨b+1,1,none⟩ x1).setCell ⟨b+1,2,none⟩ x2)= .ok (.agg #[x0,x1,x2]) (((((((w.setCell ⟨b,0,none⟩ v0).setCell ⟨b,1,none⟩ v1).setCell ⟨b,2,none⟩ v2).setCell ⟨b,3,none⟩ v3).setCell ⟨b+1,0,none⟩ x0).setCell ⟨b+1,1,none⟩ x1).setCell ⟨b+1,2,none⟩ x2)∧
  Below n w0 (((((((w.setCell ⟨b,0,none⟩ v0).setCell ⟨b,1,none⟩ v1).setCell ⟨b,2,none⟩ v2).setCell ⟨b,3,none⟩ v3).setCell ⟨b+1,0,none⟩ x0).setCell ⟨b+1,1,none⟩ x1).setCell ⟨b+1,2,none⟩ x2)∧
  ∀v zs,Rd w .u32 v zs→Rd (((((((w.setCell ⟨b,0,none⟩ v0).setCell ⟨b,1,none⟩ v1).setCell ⟨b,2,none⟩ v2).setCell ⟨b,3,none⟩ v3).setCell ⟨b+1,0,none⟩ x0).setCell ⟨b+1,1,none⟩ x1).setCell ⟨b+1,2,none⟩ x2) .u32 v zs:=by
 have n1:b+1≠b:=by omega
 have n2:b≠b+1:=by omega
 have cX0:=((((hx.off n2 0 v0).off n2 1 v1).off n2 2 v2).off n2 3 v3);have cV:=((((((hv.set 0 v0).set 1 v1).set 2 v2).set 3 v3).off n1 0 x0).off n1 1 x1).off n1 2 x2;have cX:=((cX0.set 0 x0).set 1 x1).set 2 x2;have bu1:=(((ag w b 0 v0).trans (ag _ b 1 v1)).trans (ag _ b 2 v2)).trans (ag _ b 3 v3);have bu2:=((ag ((((w.setCell ⟨b,0,none⟩ v0).setCell ⟨b,1,none⟩ v1).setCell ⟨b,2,none⟩ v2).setCell ⟨b,3,none⟩ v3) (b+1) 0 x0).trans (ag _ (b+1) 1 x1)).trans (ag _ (b+1) 2 x2);refine⟨run_loadVar_mid (P:=P) _ b 0 tv [v0,v1,v2,v3] _ cV.range huv hdv hiv,run_loadVar_mid (P:=P) _ (b+1) 0 tx [x0,x1,x2] _ cX.range hux hdx hix,bu2.below (bu1.below hb hn) (by omega),fun v zs r=> ?_⟩
 have r1:=bu1.rd r (aX r hv nv);exact bu2.rd r1 (aX r1 cX0 nx)
theorem cread_err (n wy c p er:Int)(g:Bool)(m:Nat)(t:ak)(s:ByteArray)(w:World)(he: ¬er=0)(HR: ∀w1,yB w w1→yC 45 #[yi n,.string s] w1 (Ys w1 c g m p t er)):
  yC 38 #[yi n,.string s,yi wy] w (CRes w 0 false 0 0 ⟨false,0,0⟩ er):=by
 replace HR:Hid _:=HR;obtain⟨W4,hW5,q1,q2,b3⟩:=iG w (yvL 0 false yN 0) 48 (ydL false yN 0) 78;replace hW5:Hid _:=hW5
 go_enter func38,ntmps38
 go_upto_region 1 with fail
 rw[hW5.out];clear hW5
 go_wp2_with fail
 refine(HR.out _ b3).mono ?_;rintro zz w6 ⟨v18,v29,rfl,r110,r211,-,bb7⟩;have q12:=q1.l bb7;have q13:=q2.l bb7;have b14:=aa b3 bb7;obtain⟨vo,vc,hv⟩:=r110.shape;subst hv;obtain⟨xo,xc,hv⟩:=r211.shape;subst hv;clear q1 q2 b3 bb7 HR;obtain⟨W17,hW16,q18,q19,al15⟩:=iG w6 (yvL c g (yT vo m vc) p) 48 (yDL t xo xc) 78;replace hW16:Hid _:=hW16;have hl20:w.heap.size≤w6.heap.size:=b14.size;have hl21:=q13.lt;have q22:=q12.l al15;have q23:=q13.l al15;have r24:=r110.l al15;have r25:=r211.l al15;have b26:=aa b14 al15;clear q12 q13 r110 r211 b14 al15 q18 q19
 go_upto_region 2 with fail
 rw[hW16.out];clear hW16;have hf:=fin43 (P:=Tryz.prog) q22 q23 b26 (by omega) underlying48 rfl (by kernel_rfl) underlying78 rfl (by kernel_rfl) (by simp) (by simp) (yi 0) (.bool false) yN (yi 0) (.bool false) yN (yi 0);have HH:Hid (_∧_∧_):=⟨hf.1,hf.2.1,hf.2.2.1⟩;obtain⟨⟨z0,z1,z2,z3⟩,y0,y1,y2,y3⟩:=afB q22;obtain⟨⟨u0,u1,u2⟩,k0,k1,k2⟩:=afA q23;clear hf q22 q23 r24 r25 b26
 go_wp2
 obtain⟨hl1,hl2,bR⟩:=HH.out;exact bodyPost_ret (kg results38 rfl rfl rfl hl1 hl2) rfl ⟨_,_,rfl,aN _ _,aN _ _,bR⟩
theorem cread_low (n wy c p:Int)(g:Bool)(m:Nat)(t:ak)(s:ByteArray)(w:World)(hy:wy<1)(HR: ∀w1,yB w w1→yC 45 #[yi n,.string s] w1 (Ys w1 c g m p t 0)):
  yC 38 #[yi n,.string s,yi wy] w (CRes w 0 false 0 0 ⟨false,0,0⟩ 6):=by
 replace HR:Hid _:=HR;obtain⟨W4,hW5,q1,q2,b3⟩:=iG w (yvL 0 false yN 0) 48 (ydL false yN 0) 78;replace hW5:Hid _:=hW5
 go_enter func38,ntmps38
 go_upto_region 1 with fail
 rw[hW5.out];clear hW5
 go_wp2_with fail
 refine(HR.out _ b3).mono ?_;rintro zz w6 ⟨v18,v29,rfl,r110,r211,-,bb7⟩;have q12:=q1.l bb7;have q13:=q2.l bb7;have b14:=aa b3 bb7;obtain⟨vo,vc,hv⟩:=r110.shape;subst hv;obtain⟨xo,xc,hv⟩:=r211.shape;subst hv;clear q1 q2 b3 bb7 HR;obtain⟨W17,hW16,q18,q19,al15⟩:=iG w6 (yvL c g (yT vo m vc) p) 48 (yDL t xo xc) 78;replace hW16:Hid _:=hW16;have hl20:w.heap.size≤w6.heap.size:=b14.size;have hl21:=q13.lt;have q22:=q12.l al15;have q23:=q13.l al15;have r24:=r110.l al15;have r25:=r211.l al15;have b26:=aa b14 al15;clear q12 q13 r110 r211 b14 al15 q18 q19
 go_upto_region 2 with fail
 rw[hW16.out];clear hW16;have hf:=fin43 (P:=Tryz.prog) q22 q23 b26 (by omega) underlying48 rfl (by kernel_rfl) underlying78 rfl (by kernel_rfl) (by simp) (by simp) (yi 0) (.bool false) yN (yi 0) (.bool false) yN (yi 0);have HH:Hid (_∧_∧_):=⟨hf.1,hf.2.1,hf.2.2.1⟩;obtain⟨⟨z0,z1,z2,z3⟩,y0,y1,y2,y3⟩:=afB q22;obtain⟨⟨u0,u1,u2⟩,k0,k1,k2⟩:=afA q23;clear hf q22 q23 r24 r25 b26
 go_wp2
 obtain⟨hl1,hl2,bR⟩:=HH.out;exact bodyPost_ret (kg results38 rfl rfl rfl hl1 hl2) rfl ⟨_,_,rfl,aN _ _,aN _ _,bR⟩
theorem cread_high (n wy c p:Int)(g:Bool)(m:Nat)(t:ak)(s:ByteArray)(w:World)(hy: ¬wy<1)(hz:5<wy)(HR: ∀w1,yB w w1→yC 45 #[yi n,.string s] w1 (Ys w1 c g m p t 0)):
  yC 38 #[yi n,.string s,yi wy] w (CRes w 0 false 0 0 ⟨false,0,0⟩ 6):=by
 replace HR:Hid _:=HR;obtain⟨W4,hW5,q1,q2,b3⟩:=iG w (yvL 0 false yN 0) 48 (ydL false yN 0) 78;replace hW5:Hid _:=hW5
 go_enter func38,ntmps38
 go_upto_region 1 with fail
 rw[hW5.out];clear hW5
 go_wp2_with fail
 refine(HR.out _ b3).mono ?_;rintro zz w6 ⟨v18,v29,rfl,r110,r211,-,bb7⟩;have q12:=q1.l bb7;have q13:=q2.l bb7;have b14:=aa b3 bb7;obtain⟨vo,vc,hv⟩:=r110.shape;subst hv;obtain⟨xo,xc,hv⟩:=r211.shape;subst hv;clear q1 q2 b3 bb7 HR;obtain⟨W17,hW16,q18,q19,al15⟩:=iG w6 (yvL c g (yT vo m vc) p) 48 (yDL t xo xc) 78;replace hW16:Hid _:=hW16;have hl20:w.heap.size≤w6.heap.size:=b14.size;have hl21:=q13.lt;have q22:=q12.l al15;have q23:=q13.l al15;have r24:=r110.l al15;have r25:=r211.l al15;have b26:=aa b14 al15;clear q12 q13 r110 r211 b14 al15 q18 q19
 go_upto_region 2 with fail
 rw[hW16.out];clear hW16;have hf:=fin43 (P:=Tryz.prog) q22 q23 b26 (by omega) underlying48 rfl (by kernel_rfl) underlying78 rfl (by kernel_rfl) (by simp) (by simp) (yi 0) (.bool false) yN (yi 0) (.bool false) yN (yi 0);have HH:Hid (_∧_∧_):=⟨hf.1,hf.2.1,hf.2.2.1⟩;obtain⟨⟨z0,z1,z2,z3⟩,y0,y1,y2,y3⟩:=afB q22;obtain⟨⟨u0,u1,u2⟩,k0,k1,k2⟩:=afA q23;clear hf q22 q23 r24 r25 b26
 go_wp2
 obtain⟨hl1,hl2,bR⟩:=HH.out;exact bodyPost_ret (kg results38 rfl rfl rfl hl1 hl2) rfl ⟨_,_,rfl,aN _ _,aN _ _,bR⟩
theorem RK {R D L G:Int}{gr s:Bool}{n:Nat}{e way:Int}(h1:1≤D)(hLG:L≤G)(h0:n≠0)(hh:dA R D L G gr n e=true):(cI R D L G gr s n 1 e way).ex=true∧L≤cP R D L gr n e:=by
 have hs:L≤cP R D L gr n e∧cP R D L gr n e≤G∧(ai R:Int)*cP R D L gr n e≤e+(tz n:Int):=by
  unfold dA at hh
  rcases of_decide_eq_true hh with h|h
  ·exact absurd h h0
  ·exact h
 have hc:dj R D L gr n 1 e=cP R D L gr n e:=by
  unfold dj cP;rw[lU h0]
 refine⟨?_,hs.1⟩;rw[kJ gr s n 1 e way h1 hLG h0 (by omega)];refine decide_eq_true ?_;unfold gF shP;rw[hc];exact(nV s n e _ hs.2.2).1
def ptS (n:Int)(s:ByteArray)(k:Nat):ByteArray:=prR (opT n s).s (dcH (opT n s)) (dcC (opT n s)) (dcP (opT n s)) k
theorem DQ (ds:List Nat)(h:Dg.Small 10 ds)(i:Nat)(hi:i<ds.length):byt (cF (txt ds)) i=48+ds.getD (ds.length-1-i) 0:=by
 rw[T9 _ _ (Ua ds h),tQ ds i hi]
theorem XL (ds:List Nat)(h:Dg.Small 10 ds): ∀k,k≤ds.length→pv (cF (txt ds)) k=Dg.vl 10 (ds.drop (ds.length-k)):=by
 intro k
 induction k with
 |zero=>intro _;simp[pv,Dg.vl]
 |succ k ih=>
  intro hk;simp only[pv];rw[ih (by omega),DQ ds h k (by omega),AU ds (ds.length-(k+1)) (by omega),show ds.length-(k+1)+1=ds.length-k from by omega]
  simp only[Dg.vl];rw[show ds.length-1-k=ds.length-(k+1) from by omega]
  omega
def nbT (k d:Nat)(p:Int):ak:=(cC (ix (Dg.dg 4294967296 d) p (rdN k) (dgN k) (lsI k) (gsI k)) ⟨false,Dg.vl 4294967296 (Dg.dg 4294967296 d),(ai (rdN k):Int)*p⟩).1
def hdL (k:Nat):List ak:=hdF (nbT k) (lsI k) (gsI k) (rdN k^ (dgN k-1)) (if decide (k≤3)=true then[nbT k 1 (lsI k)] else[]) (ai (rdN k))
theorem bare_parts {g:Bool}{d:Nat}{e:Int}{x:ak}(hd:d≠0)(h:bare ⟨g,d,e⟩=x):d=x.n*2^tz d∧x.e=e+(tz d:Int)∧x.s=g:=by
 subst h;unfold bare;rw[if_neg hd];exact⟨(odd_of hd).2,rfl,rfl⟩
def unD (qs:Bool)(N M:Nat)(E way:Int):Nat:=
 if decide (unL N M E=0)=false∧gY way (dm ((unL N M E*2:Nat):Int) ((dX M E:Nat):Int)) (decide (unQ N M E % 2=1)) qs=true then unQ N M E+1 else unQ N M E
theorem unit_dig {D:Int}{N M:Nat}{E:Int}(h:dY N M E≤D-1)(qs:Bool)(way:Int):fM 2 D 0 true qs N M E way=unD qs N M E way∧gF 2 D 0 true N M E=unL N M E:=by
 have hs:shP 2 D 0 true N M E=E:=by
  unfold shP;rw[unit_cut h];omega
 unfold fM rf cH gF;rw[hs];exact⟨rfl,rfl⟩
theorem unit_ge {N M:Nat}{E:Int}(hN:N≠0)(hM:M≠0)(j:Nat):2^j≤unQ N M E↔(j:Int)≤dY N M E:=by
 unfold unQ;rw[BD N M E j hN hM,qD N M E];omega
theorem unit_le (qs:Bool)(N M:Nat)(E way:Int):unQ N M E≤unD qs N M E way∧unD qs N M E way≤unQ N M E+1:=by
 unfold unD
 split<;>omega
theorem unit_round {D G:Int}{N M:Nat}{E:Int}(d1:1≤D)(hG:0≤G)(h:dY N M E≤D-1)(qs:Bool)(way:Int)(hN:N≠0)(hM:M≠0)(hn:unD qs N M E way≠2^D.toNat):
  ∃un,cI 2 D 0 G true qs N M E way=⟨qs,unD qs N M E way,0,decide (unL N M E=0),false,un⟩:=by
 obtain⟨e1,e2⟩:=unit_dig h qs way;rw[kJ true qs N M E way d1 hG hN hM,e1,e2,unit_cut h];have c1:io 2 D (unD qs N M E way)=unD qs N M E way:=by
  unfold io;rw[show ai 2=1 from rfl,Nat.one_mul,if_neg hn]
 have c2:gD 2 D (unD qs N M E way) 0=0:=by
  unfold gD;rw[show ai 2=1 from rfl,Nat.one_mul,if_neg hn]
 rw[c1,c2];refine⟨decide (aT 2 D (dY N M E)<0), ?_⟩;rw[decide_eq_false (show¬G<0 by omega),ite_self]
theorem unit_over {D:Int}{N M:Nat}{E:Int}(d1:1≤D)(qs:Bool)(way:Int)(hN:N≠0)(hM:M≠0)(h:D≤dY N M E∨(dY N M E≤D-1∧unD qs N M E way=2^D.toNat)):
  (cI 2 D 0 0 true qs N M E way).ov=true:=by
 rw[kJ true qs N M E way d1 (Int.le_refl 0) hN hM];refine decide_eq_true ?_;unfold gD;rw[show ai 2=1 from rfl,Nat.one_mul]
 rcases h with h| ⟨h,hd⟩
 ·have:1≤dj 2 D 0 true N M E:=by
   unfold dj aT;rw[show ai 2=1 from rfl]
   simp
   split<;>omega
  split<;>omega
 ·rw[(unit_dig h qs way).1,unit_cut h,if_pos hd]
  omega
def tiT (c way:Int)(x:ak):Int×Int:=
 if c=1 then(0,0) else if c=2 then(if inW x.s (unD x.s x.n 1 x.e way)=true then(if x.s=true then-(unD x.s x.n 1 x.e way:Int) else(unD x.s x.n 1 x.e way:Int),if unL x.n 1 x.e=0 then 0 else 1) else(0,16)) else(0,16)
theorem unit_prog (x:ak)(way:Int)(h0:x.n≠0):(if whB (cI 2 64 0 0 true x.s x.n 1 x.e way).ov (cI 2 64 0 0 true x.s x.n 1 x.e way).s ((cI 2 64 0 0 true x.s x.n 1 x.e way).d:Int)=true then whR (cI 2 64 0 0 true x.s x.n 1 x.e way).ov (cI 2 64 0 0 true x.s x.n 1 x.e way).s ((cI 2 64 0 0 true x.s x.n 1 x.e way).d:Int) else 0)=(tiT 2 way x).1∧
  (if whB (cI 2 64 0 0 true x.s x.n 1 x.e way).ov (cI 2 64 0 0 true x.s x.n 1 x.e way).s ((cI 2 64 0 0 true x.s x.n 1 x.e way).d:Int)=true then(if(cI 2 64 0 0 true x.s x.n 1 x.e way).ex=true then 0 else 1) else 16)=(tiT 2 way x).2:=by
 have hle:=unit_le x.s x.n 1 x.e way
 by_cases h:(64:Int)≤dY x.n 1 x.e∨(dY x.n 1 x.e≤64-1∧unD x.s x.n 1 x.e way=2^64)
 ·have ho:=unit_over (D:=64) (by omega) x.s way h0 (by omega) h
  have hb:inW x.s (unD x.s x.n 1 x.e way)=false:=by
   rcases h with h| ⟨-,h⟩
   ·exact inW_big (Nat.le_trans ((unit_ge h0 (by omega) 64).2 h) hle.1)
   ·exact inW_big (Nat.le_of_eq h.symm)
  have hw: ∀s N,whB true s N=false:=fun s N=>by
   unfold whB;simp
  have e:tiT 2 way x=(0,16):=by
   unfold tiT;rw[if_neg (by decide),if_pos rfl,if_neg (by rw[hb];decide)]
  rw[ho,hw,e];exact⟨rfl,rfl⟩
 ·obtain⟨un,e⟩:=unit_round (D:=64) (G:=0) (by omega) (by omega) (show dY x.n 1 x.e≤64-1 by omega) x.s way h0 (by omega) (fun c=>h (.inr ⟨by omega,c⟩))
  rw[e]
  show(if whB false x.s (unD x.s x.n 1 x.e way:Int)=true then whR false x.s (unD x.s x.n 1 x.e way:Int) else 0)=_∧(if whB false x.s (unD x.s x.n 1 x.e way:Int)=true then(if decide (unL x.n 1 x.e=0)=true then(0:Int) else 1) else 16)=_
  have e:tiT 2 way x=if inW x.s (unD x.s x.n 1 x.e way)=true then(if x.s=true then-(unD x.s x.n 1 x.e way:Int) else(unD x.s x.n 1 x.e way:Int),if unL x.n 1 x.e=0 then 0 else 1) else(0,16):=by
   unfold tiT;rw[if_neg (by decide),if_pos rfl]
  rw[whB_is,e]
  by_cases hi:inW x.s (unD x.s x.n 1 x.e way)=true
  ·rw[if_pos hi,if_pos hi,if_pos hi,whR_is hi]
   refine⟨rfl, ?_⟩
   show(if decide (unL x.n 1 x.e=0)=true then(0:Int) else 1)=if unL x.n 1 x.e=0 then 0 else 1
   simp
  ·rw[if_neg hi,if_neg hi,if_neg hi]
   exact⟨rfl,rfl⟩
end Go.Proofs.YtlgkfdcmokchgaaGreatDoor
