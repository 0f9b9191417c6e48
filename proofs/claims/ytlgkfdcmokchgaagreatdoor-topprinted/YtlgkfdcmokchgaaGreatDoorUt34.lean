/-
  Texts laid together: Begun, Tx4, Gq9, Ar1, Tx10, Read3, Fi6, Dp2, Ce2, Co25, Cr10, Rk1, Cv1, Cv3, Bs1, Cv4, Tx11, Tx15, Ty4, Eh4, Eh5.
-/
import Derived.Test.YtlgkfdcmokchgaaGreatDoorUt26
import Derived.Test.YtlgkfdcmokchgaaGreatDoorUt28
import Derived.Test.YtlgkfdcmokchgaaGreatDoorUt30
set_option maxRecDepth 100000
set_option maxHeartbeats 3200000
namespace Go.Proofs.YtlgkfdcmokchgaaGreatDoor
open _root_.Go.Proofs.Tryz
open Go.RowKit
theorem Cw (va:Value)(xs:List Nat)(w:World)(ha:Rd w .u32 va xs)(sa:Dg.Small 4294967296 xs):
  yC 13 #[va] w (yR w (.tuple #[.string (prS xs),yi (chk xs)])):=by
 obtain⟨ao,ca,rfl⟩:=ha.shape;have b1:yB w (w.alloc (.cells #[.slice ao xs.length ca] 33)):=(Below.refl _ _).alloc (Nat.le_refl _) _;have hw:=ri w.heap.size _ xs (w.alloc (.cells #[.slice ao xs.length ca] 33)) (by rw[World.cell?_alloc_at _ _ _ _ rfl];rfl) (ha.l b1);unfold prS;obtain⟨c,hc⟩: ∃c,chk xs=c:=⟨_,rfl⟩
 by_cases h:c=0
 ·have hz:=aF (hc.trans h)
  rw[hc,h] at hw;rw[hc,h,if_pos rfl];have hd:=MR _ xs _ (ha.l b1) sa hz.1 hz.2;clear hc
  go_enter func13,ntmps13
  go_wp2_with fail
  refine hw.mono ?_;rintro e w' ⟨rfl,rfl⟩
  go_wp2_with fail
  refine hd.mono ?_;rintro e w2 ⟨rfl,bel⟩;have b2:=aa b1 bel
  go_wp2
  go_ret2
  exact⟨rfl,b2⟩
 ·rw[hc] at hw
  rw[hc,if_neg h];clear hc
  go_enter func13,ntmps13
  go_wp2_with fail
  refine hw.mono ?_;rintro e w' ⟨rfl,rfl⟩
  go_wp2
  go_ret2
  exact⟨rfl,b1⟩
theorem tRatio_err (er:Int)(ng:Bool)(ds:ByteArray)(p:Int)(tx:ByteArray)(w:World)(he: ¬er=0)
  (HN:yH w 73 #[.string tx] (.tuple #[.agg #[.bool ng,.string ds,yi p],yi er])):
  yC 37 #[.string tx] w (yR w (.tuple #[yrV false yN yN 0,yi er])):=by
 replace HN:Hid _:=HN;obtain⟨W3,hW4,q1,b2⟩:=cA w (yrL false yN yN 0) 60;replace hW4:Hid _:=hW4
 go_enter func37,ntmps37
 go_upto_region 1 with fail
 rw[hW4.out];clear hW4
 go_wp2_with fail
 refine(HN.out _ b2).mono ?_;rintro zz w5 ⟨rfl,bb6⟩;have q7:=q1.l bb6;have b8:=aa b2 bb6;clear q1 b2 bb6 HN;obtain⟨W11,hW10,q12,al9⟩:=cA w5 [.bool ng,.string ds,yi p] 136;replace hW10:Hid _:=hW10;have hl13:w.heap.size≤w5.heap.size:=b8.size;have hl14:=q7.lt;have q15:=q7.l al9;have b16:=aa b8 al9;clear q7 b8 al9 q12
 go_upto_region 2 with fail
 rw[hW10.out];clear hW10;have hf:=afz (P:=Tryz.prog) q15 b16 (by omega) underlying60 rfl (by kernel_rfl) (.bool false) yN yN (yi 0);have HH:Hid (_∧_):=⟨hf.1,hf.2.1⟩;obtain⟨⟨z0,z1,z2,z3⟩,y0,y1,y2,y3⟩:=afB q15;clear hf q15 b16
 go_wp2
 obtain⟨hl,bR⟩:=HH.out;exact bodyPost_ret (aj results37 rfl rfl hl) rfl ⟨rfl,bR⟩
theorem tRatio_ok (qn:Bool)(a b:Nat)(ex:Int)(ng:Bool)(ds:ByteArray)(p:Int)(tx:ByteArray)(w:World)
  (HN:yH w 73 #[.string tx] (.tuple #[.agg #[.bool ng,.string ds,yi p],yi 0]))
  (HQ: ∀w1,yB w w1→yC 74 #[.agg #[.bool ng,.string ds,yi p]] w1 (RtR w1 qn a b ex)):
  yC 37 #[.string tx] w (RtE w qn a b ex 0):=by
 replace HN:Hid _:=HN;replace HQ:Hid _:=HQ;obtain⟨W3,hW4,q1,b2⟩:=cA w (yrL false yN yN 0) 60;replace hW4:Hid _:=hW4
 go_enter func37,ntmps37
 go_upto_region 1 with fail
 rw[hW4.out];clear hW4
 go_wp2_with fail
 refine(HN.out _ b2).mono ?_;rintro zz w5 ⟨rfl,bb6⟩;have q7:=q1.l bb6;have b8:=aa b2 bb6;clear q1 b2 bb6 HN;obtain⟨W11,hW10,q12,al9⟩:=cA w5 [.bool ng,.string ds,yi p] 136;replace hW10:Hid _:=hW10;have hl13:w.heap.size≤w5.heap.size:=b8.size;have hl14:=q7.lt;have q15:=q7.l al9;have b16:=aa b8 al9;clear q7 b8 al9
 go_upto_region 2 with fail
 rw[hW10.out];clear hW10;obtain⟨c17,c18,c19⟩:=q12.cs3
 go_wp2_with fail
 refine(HQ.out _ b16).mono ?_;rintro zz w20 ⟨v1x22,v2x23,rfl,r1x24,r2x25,bb21⟩;have q26:=q15.l bb21;have b27:=aa b16 bb21;obtain⟨ao,ac,hv⟩:=r1x24.shape;subst hv;obtain⟨bo,bc,hv⟩:=r2x25.shape;subst hv;clear q15 q12 b16 bb21 HQ c17 c18 c19;have hf:=afz (P:=Tryz.prog) q26 b27 (by omega) underlying60 rfl (by kernel_rfl) (.bool qn) (yT ao a ac) (yT bo b bc) (yi ex);have HH:Hid (_∧_∧_∧_):=⟨hf.1,hf.2.2.rd r1x24 (aX r1x24 q26 (by simp)),hf.2.2.rd r2x25 (aX r2x25 q26 (by simp)),hf.2.1⟩;obtain⟨⟨z0,z1,z2,z3⟩,y0,y1,y2,y3⟩:=afB q26;clear hf q26 r1x24 r2x25 b27
 go_wp2
 obtain⟨hl,rRa,rRb,bR⟩:=HH.out;exact bodyPost_ret (aj results37 rfl rfl hl) rfl ⟨_,_,rfl,rRa,rRb,bR⟩
theorem tparse_ok (f n way fl er ex:Int)(qn:Bool)(a b:Nat)(tx st:ByteArray)(w:World)(hf:(f==0)=false)
  (HF:yJ 36 #[yi n] (yi f))
  (HE: ∀w1,yB w w1→yC 37 #[.string tx] w1 (RtE w1 qn a b ex 0))
  (HA: ∀ao ac bo bc w1,yB w w1→Rd w1 .u32 (yT ao a ac) (Dg.dg 4294967296 a)→Rd w1 .u32 (yT bo b bc) (Dg.dg 4294967296 b)→yC 23 #[yi n,yrV qn (yT ao a ac) (yT bo b bc) ex,yi way] w1 (yR w1 (.tuple #[.string st,yi fl,yi er]))):
  yC 14 #[yi n,.string tx,yi way] w (yR w (.tuple #[.string st,yi fl,yi er])):=by
 replace HF:Hid _:=HF;replace HE:Hid _:=HE;replace HA:Hid _:=HA
 go_enter func14,ntmps14
 have b0:=Below.refl w.heap.size w
 go_wp2_with fail
 refine(HF.out _).mono ?_;rintro zz w1 ⟨rfl,bb2⟩;have b3:=aa b0 bb2;clear b0 bb2 HF
 go_wp2_with fail
 refine(HE.out _ b3).mono ?_;rintro zz w4 ⟨v1x6,v2x7,rfl,r1x8,r2x9,bb5⟩;have b10:=aa b3 bb5;obtain⟨ao,ac,hv⟩:=r1x8.shape;subst hv;obtain⟨bo,bc,hv⟩:=r2x9.shape;subst hv;clear b3 bb5 HE;obtain⟨W13,hW12,q14,al11⟩:=cA w4 (yrL qn (yT ao a ac) (yT bo b bc) ex) 60;replace hW12:Hid _:=hW12;have hl15:w.heap.size≤w4.heap.size:=b10.size;have r16:=r1x8.l al11;have r17:=r2x9.l al11;have b18:=aa b10 al11;clear r1x8 r2x9 b10 al11
 go_upto_region 4 with fail
 rw[hW12.out];clear hW12;obtain⟨c19,c20,c21,c22⟩:=q14.cs4
 go_wp2_with fail
 refine(HA.out _ _ _ _ _ b18 r16 r17).mono ?_;rintro zz w23 ⟨rfl,bb24⟩;have b25:=aa b18 bb24;clear q14 r16 r17 b18 bb24 HA c19 c20 c21 c22
 go_wp2
 go_ret3
 exact⟨rfl,b25⟩
theorem M9 {xs ys:List Nat}{E R D L G way:Int}(h: ¬eA xs ys E=0):eE xs ys E R D L G way=eA xs ys E:=by
 have e:jg (eA xs ys E) (bk R D L G)=eA xs ys E:=if_neg h;unfold eE;rw[e,if_neg h]
theorem Na {xs ys:List Nat}{E R D L G way:Int}(h:eA xs ys E=0)(h2: ¬bk R D L G=0):eE xs ys E R D L G way=bk R D L G:=by
 have e:jg (eA xs ys E) (bk R D L G)=bk R D L G:=if_pos h;unfold eE;rw[e,if_neg h2]
theorem FM (n er:Int)(her:er≠0)(w:World)
  (HG:yJ 42 #[yi n] (.tuple #[ygV 0 0 0 0 false,yi er])):
  yC 58 #[yi n] w (yR w (.tuple #[ykV 0 0 0 0 0 0 0 false,yi er])):=by
 replace HG:Hid _:=HG;have he:(er==0)=false:=by simpa using her
 have d0:=ah w (ykL 0 0 0 0 0 0 0 false) 121;have b0:=af w (.cells (ykA 0 0 0 0 0 0 0 false) 121);clear her
 go_enter func58,ntmps58
 go_wp2_with fail
 refine(HG.out _).mono ?_;rintro z w1 ⟨rfl,b1⟩;have bg:=af w1 (.cells (ygA 0 0 0 0 false) 82);have d1:=(d0.l b1).l bg;have b01:=aa (aa b0 b1) bg
 go_upto_region 3 with fail
 generalize w1.alloc (.cells (ygA 0 0 0 0 false) 82)=W1 at d1 b01⊢;have cR:au ((((((((W1.setCell ⟨w.heap.size,0,none⟩ (yi 0)).setCell ⟨w.heap.size,1,none⟩ (yi 0)).setCell ⟨w.heap.size,2,none⟩ (yi 0)).setCell ⟨w.heap.size,3,none⟩ (yi 0)).setCell ⟨w.heap.size,4,none⟩ (yi 0)).setCell ⟨w.heap.size,5,none⟩ (yi 0)).setCell ⟨w.heap.size,6,none⟩ (yi 0)).setCell ⟨w.heap.size,7,none⟩ (.bool false)) w.heap.size 121 (ykL 0 0 0 0 0 0 0 false):=((((((((d1.set 0 (yi 0)).set 1 (yi 0)).set 2 (yi 0)).set 3 (yi 0)).set 4 (yi 0)).set 5 (yi 0)).set 6 (yi 0)).set 7 (.bool false));have bR:=((((((((ag W1 w.heap.size 0 (yi 0)).trans (ag _ w.heap.size 1 (yi 0))).trans (ag _ w.heap.size 2 (yi 0))).trans (ag _ w.heap.size 3 (yi 0))).trans (ag _ w.heap.size 4 (yi 0))).trans (ag _ w.heap.size 5 (yi 0))).trans (ag _ w.heap.size 6 (yi 0))).trans (ag _ w.heap.size 7 (.bool false))).below b01 (Nat.le_refl _);have hl:=run_loadVar_mid (P:=Tryz.prog) _ w.heap.size 0 121 (ykL 0 0 0 0 0 0 0 false) _ cR.range underlying121 rfl (by kernel_rfl);have HH:Hid (_∧_):=⟨hl,bR⟩;obtain⟨x0,x1,x2,x3,x4,x5,x6,x7⟩:=d1.cs8;have f0:=d1.f 0;have f1:=d1.f 1;have f2:=d1.f 2;have f3:=d1.f 3;have f4:=d1.f 4;have f5:=d1.f 5;have f6:=d1.f 6;have f7:=d1.f 7;clear hl bR cR d1 b01 d0 b0 b1 bg HG
 go_wp2
 obtain⟨hl,bR⟩:=HH.out;exact bodyPost_ret (aj results58 rfl rfl hl) rfl ⟨rfl,bR⟩
theorem tShort_err (er:Int)(n c p:Int)(g:Bool)(M:Nat)(x:ak)(s:ByteArray)(w:World)(he: ¬er=0)
  (HR: ∀w1,yB w w1→yC 45 #[yi n,.string s] w1 (Ys w1 c g M p x er)):
  yC 17 #[yi n,.string s] w (yR w (.tuple #[.string ⟨#[]⟩,yi er])):=by
 replace HR:Hid _:=HR
 go_enter func17,ntmps17
 have b0:=Below.refl w.heap.size w
 go_wp2_with fail
 refine(HR.out _ b0).mono ?_;rintro zz w1 ⟨v1x3,v2x4,rfl,r1x5,r2x6,-,bb2⟩;have b7:=aa b0 bb2;obtain⟨vo,vc,hv⟩:=r1x5.shape;subst hv;obtain⟨xo,xc,hv⟩:=r2x6.shape;subst hv;clear b0 bb2 HR;obtain⟨W10,hW9,q11,q12,al8⟩:=iG w1 (yvL c g (yT vo M vc) p) 48 (yDL x xo xc) 78;replace hW9:Hid _:=hW9;have hl13:w.heap.size≤w1.heap.size:=b7.size;have b14:=aa b7 al8;clear r1x5 r2x6 b7 al8 q11 q12
 go_upto_region 2 with fail
 rw[hW9.out];clear hW9
 go_wp2
 go_ret2
 exact⟨rfl,b14⟩
theorem tShort_word (wd:ByteArray)(n c p:Int)(g:Bool)(M:Nat)(x:ak)(s:ByteArray)(w:World)
  (HR: ∀w1,yB w w1→yC 45 #[yi n,.string s] w1 (Ys w1 c g M p x 0))
  (HW: ∀vo vc w1,yC 46 #[yvV c g (yT vo M vc) p] w1 (yR w1 (.tuple #[.string wd,.bool true]))):
  yC 17 #[yi n,.string s] w (yR w (.tuple #[.string wd,yi 0])):=by
 replace HR:Hid _:=HR;replace HW:Hid _:=HW
 go_enter func17,ntmps17
 have b0:=Below.refl w.heap.size w
 go_wp2_with fail
 refine(HR.out _ b0).mono ?_;rintro zz w1 ⟨v1x3,v2x4,rfl,r1x5,r2x6,-,bb2⟩;have b7:=aa b0 bb2;obtain⟨vo,vc,hv⟩:=r1x5.shape;subst hv;obtain⟨xo,xc,hv⟩:=r2x6.shape;subst hv;clear b0 bb2 HR;obtain⟨W10,hW9,q11,q12,al8⟩:=iG w1 (yvL c g (yT vo M vc) p) 48 (yDL x xo xc) 78;replace hW9:Hid _:=hW9;have hl13:w.heap.size≤w1.heap.size:=b7.size;have b14:=aa b7 al8;clear r1x5 r2x6 b7 al8 q12
 go_upto_region 2 with fail
 rw[hW9.out];clear hW9;obtain⟨c15,c16,c17,c18⟩:=q11.cs4
 go_wp2_with fail
 refine(HW.out _ _ _).mono ?_;rintro zz w19 ⟨rfl,bb20⟩;have b21:=aa b14 bb20;clear q11 b14 bb20 HW c15 c16 c17 c18
 go_wp2
 go_ret2
 exact⟨rfl,b21⟩
theorem tShort_enc (er:Int)(wd md:ByteArray)(n c p:Int)(g:Bool)(M:Nat)(x:ak)(s:ByteArray)(w:World)(he: ¬er=0)
  (HR: ∀w1,yB w w1→yC 45 #[yi n,.string s] w1 (Ys w1 c g M p x 0))
  (HW: ∀vo vc w1,yC 46 #[yvV c g (yT vo M vc) p] w1 (yR w1 (.tuple #[.string wd,.bool false])))
  (HE: ∀vo vc w1,yB w w1→Rd w1 .u32 (yT vo M vc) (Dg.dg 4294967296 M)→yC 47 #[yi n,yvV c g (yT vo M vc) p] w1 (yR w1 (.tuple #[.string md,yi er]))):
  yC 17 #[yi n,.string s] w (yR w (.tuple #[.string ⟨#[]⟩,yi er])):=by
 replace HR:Hid _:=HR;replace HW:Hid _:=HW;replace HE:Hid _:=HE
 go_enter func17,ntmps17
 have b0:=Below.refl w.heap.size w
 go_wp2_with fail
 refine(HR.out _ b0).mono ?_;rintro zz w1 ⟨v1x3,v2x4,rfl,r1x5,r2x6,-,bb2⟩;have b7:=aa b0 bb2;obtain⟨vo,vc,hv⟩:=r1x5.shape;subst hv;obtain⟨xo,xc,hv⟩:=r2x6.shape;subst hv;clear b0 bb2 HR;obtain⟨W10,hW9,q11,q12,al8⟩:=iG w1 (yvL c g (yT vo M vc) p) 48 (yDL x xo xc) 78;replace hW9:Hid _:=hW9;have hl13:w.heap.size≤w1.heap.size:=b7.size;have r14:=r1x5.l al8;have b15:=aa b7 al8;clear r1x5 r2x6 b7 al8 q12
 go_upto_region 2 with fail
 rw[hW9.out];clear hW9;obtain⟨c16,c17,c18,c19⟩:=q11.cs4
 go_wp2_with fail
 refine(HW.out _ _ _).mono ?_;rintro zz w20 ⟨rfl,bb21⟩;have q22:=q11.l bb21;have r23:=r14.l bb21;have b24:=aa b15 bb21;clear q11 r14 b15 bb21 HW c16 c17 c18 c19;obtain⟨c25,c26,c27,c28⟩:=q22.cs4
 go_wp2_with fail
 refine(HE.out _ _ _ b24 r23).mono ?_;rintro zz w29 ⟨rfl,bb30⟩;have b31:=aa b24 bb30;clear q22 r23 b24 bb30 HE c25 c26 c27 c28
 go_wp2
 go_ret2
 exact⟨rfl,b31⟩
theorem xI (s:ByteArray)(w:World)(hm:s.size≤9223372036854775807): ∃r,ae4 s r∧yC 12 #[.string s] w (Ans w r):=by
 by_cases hl:12000<s.size
 ·refine⟨([],2),⟨fun _=>rfl,fun h=>absurd h (by omega),fun h=>absurd h (by omega)⟩, ?_⟩
  go_enter func12,ntmps12
  go_wp2
  go_ret2
  exact⟨_,rfl,aQ _ _ _ _,Below.refl _ _⟩
 ·have hp:=Nd s w (by omega)
  by_cases hPr:Pr s
  ·refine⟨lH (pv s s.size),⟨fun h=>absurd h hl,fun _ h=>absurd hPr h,fun _ _=>rfl⟩, ?_⟩
   have hf:=DF s w (by omega) hPr.2.2
   go_enter func12,ntmps12
   go_wp2_with fail
   refine hp.mono ?_;rintro e w' ⟨b,rfl,hb,rfl⟩;have hbt:=hb.2 hPr;subst hbt;clear hb hp
   go_wp2_with fail
   refine hf.mono ?_;rintro e w2 ⟨v,rfl,own,bel⟩
   go_wp2_with fail
   refine(tZ v _ w' w2 own bel).mono ?_;rintro e w3 ⟨rfl,v2,rfl,h2,h3⟩
   go_wp2
   go_ret2
   exact⟨_,rfl,h2,h3⟩
  ·refine⟨([],1),⟨fun h=>absurd h hl,fun _ _=>rfl,fun _ h=>absurd h hPr⟩, ?_⟩
   go_enter func12,ntmps12
   go_wp2_with fail
   refine hp.mono ?_;rintro e w' ⟨b,rfl,hb,rfl⟩;have hbt:b=false:=by
    cases b with
    |false=>rfl
    |true=>exact absurd (hb.1 rfl) hPr
   subst hbt;clear hb hp
   go_wp2
   go_ret2
   exact⟨_,rfl,aQ _ _ _ _,Below.refl _ _⟩
theorem RVG.near {w:World}{c:Int}{g:Bool}{t:ak}{fl:Int}{z:Ending}{w':World}(h:RVG w c g t fl z w'):RVF w c g t fl z w':=by
 obtain⟨s,h1,h2,-,h3⟩:=h;exact⟨s,h1,h2,h3⟩
theorem lw (v u:Value)(a b:ak)(w:World)(hv:Rv w v a)(hu:Rv w u b)(hLa:(Dg.dg 65536 a.n).length≤30000)(hLb:(Dg.dg 65536 b.n).length≤30000)
  (ha1: -200000≤a.e) (ha2:a.e≤200000) (hb1: -200000≤b.e) (hb2:b.e≤200000):
  yC 29 #[v,u] w (dr w (bare (cO a b))):=
 (vM v u a b w hv hu hLa hLb ha1 ha2 hb1 hb2).mono fun _ _ h=>h.near
theorem jp.store {w:World}{base g n cap:Nat}{bs:List Bool}(h:jp w base (.slice (some ⟨g,0,none⟩) n cap) bs)(hn:n=bs.length)(j:Nat)(x:Bool):
  jp (w.setCell ⟨g,j,none⟩ (.bool x)) base (.slice (some ⟨g,0,none⟩) n cap) (bs.set j x):=by
 subst hn;have:=(World.ownsRow.stored h j (.bool x)).1;unfold jp;rw[List.length_set,List.map_set];exact this
theorem jp.f {w:World}{base g n cap:Nat}{bs:List Bool}(h:jp w base (.slice (some ⟨g,0,none⟩) n cap) bs)(hn:n=bs.length)(j:Nat):w.frozen? ⟨g,j,none⟩=false:=by
 subst hn;exact World.ownsRow.frozenAt h j
def Gi (n:Int)(s:ByteArray):Bool:=if dF n s=0 then aZ n.toNat s else false
theorem iO (c p:Int)(g:Bool)(ao bo:Option Addr)(zs:List Nat)(ca cb:Nat)(w:World)(ha:Rd w .u32 (.slice ao zs.length ca) zs)(hb:Rd w .u32 (.slice bo zs.length cb) zs):
  yC 21 #[yvV c g (.slice ao zs.length ca) p,yvV c g (.slice bo zs.length cb) p] w (yR w (.bool true)):=by
 have b0:=aa (af w (.cells (yvA c g (.slice ao zs.length ca) p) 48)) (af _ (.cells (yvA c g (.slice bo zs.length cb) p) 48));have hs:=gM _ _ zs zs _ (ha.l b0) (hb.l b0);rw[decide_eq_true (rfl:zs=zs)] at hs;have HS:Hid (yC 55 #[.slice ao zs.length ca,.slice bo zs.length cb] ((w.alloc (.cells (yvA c g (.slice ao zs.length ca) p) 48)).alloc (.cells (yvA c g (.slice bo zs.length cb) p) 48)) fun e w'=>e= .returned (.bool true)∧Below ((w.alloc (.cells (yvA c g (.slice ao zs.length ca) p) 48)).alloc (.cells (yvA c g (.slice bo zs.length cb) p) 48)).heap.size ((w.alloc (.cells (yvA c g (.slice ao zs.length ca) p) 48)).alloc (.cells (yvA c g (.slice bo zs.length cb) p) 48)) w'):=hs
 clear hs ha hb
 cases g
 all_goals go_enter func21,ntmps21
 all_goals go_wp2_with fail
 all_goals (refine Calls.mono HS.out ?_;rintro z w1 ⟨rfl,b1⟩;go_wp2;go_ret;exact⟨rfl,aa b0 b1⟩)
theorem QX {R D L G:Int}{gr qs:Bool}{N1 M1 N2 M2:Nat}{E1 E2 way:Int}(m1:M1≠0)(m2:M2≠0)(ht:dY N1 M1 E1=dY N2 M2 E2)
  (h1:eZ N1 (E1-((ai R:Int)*dj R D L gr N1 M1 E1-1))/dX M1 (E1-((ai R:Int)*dj R D L gr N1 M1 E1-1))=eZ N2 (E2-((ai R:Int)*dj R D L gr N1 M1 E1-1))/dX M2 (E2-((ai R:Int)*dj R D L gr N1 M1 E1-1)))
  (h2:eZ N1 (E1-((ai R:Int)*dj R D L gr N1 M1 E1-1)) % dX M1 (E1-((ai R:Int)*dj R D L gr N1 M1 E1-1))=0↔eZ N2 (E2-((ai R:Int)*dj R D L gr N1 M1 E1-1)) % dX M2 (E2-((ai R:Int)*dj R D L gr N1 M1 E1-1))=0):
  cI R D L G gr qs N1 M1 E1 way=cI R D L G gr qs N2 M2 E2 way:=by
 have hc:dj R D L gr N2 M2 E2=dj R D L gr N1 M1 E1:=by unfold dj;rw[ht]
 obtain⟨c,hC⟩: ∃c,(ai R:Int)*dj R D L gr N1 M1 E1=c:=⟨_,rfl⟩;have s1:=Gk (jO m1 (E1-c+1)) (jO m1 (E1-c)) (NH N1 M1 (E1-c));have s2:=Gk (jO m2 (E2-c+1)) (jO m2 (E2-c)) (NH N2 M2 (E2-c));rw[hC,show E1-(c-1)=E1-c+1 from by omega,show E2-(c-1)=E2-c+1 from by omega] at h1 h2
 rw[h1] at s1;have hz: ∀x:Int,(if eZ N1 (E1-c+1) % dX M1 (E1-c+1)=0 then(0:Int) else x)=if eZ N2 (E2-c+1) % dX M2 (E2-c+1)=0 then 0 else x:=fun x=>by
  by_cases g:eZ N1 (E1-c+1) % dX M1 (E1-c+1)=0
  ·rw[if_pos g,if_pos (h2.1 g)]
  ·rw[if_neg g,if_neg (fun k=>g (h2.2 k))]
 have w:cH R D L gr N1 M1 E1=cH R D L gr N2 M2 E2:=by
  unfold cH shP;rw[hc,hC,s1.1,s2.1]
 have l:(gF R D L gr N1 M1 E1=0)=(gF R D L gr N2 M2 E2=0):=by
  unfold gF shP;rw[hc,hC];refine propext (s1.2.1.trans (Iff.trans ?_ s2.2.1.symm));rw[h2]
 have l':decide (gF R D L gr N1 M1 E1=0)=decide (gF R D L gr N2 M2 E2=0):=by simp only[l]
 have g:rf R D L gr qs N1 M1 E1 way=rf R D L gr qs N2 M2 E2 way:=by
  unfold rf;rw[w];have k1:=s1.2.2;have k2:=s2.2.2;rw[hz] at k1;unfold gF shP;rw[hc,hC,k1,k2]
 have d:fM R D L gr qs N1 M1 E1 way=fM R D L gr qs N2 M2 E2 way:=by
  unfold fM;rw[w,g,l']
 unfold cI;rw[d,l',ht,hc]
theorem AC {R D L G J:Int}{gr qs:Bool}{N1 M1 N2 M2:Nat}{E1 E2 way:Int}(n1:N1≠0)(m1:M1≠0)(n2:N2≠0)(m2:M2≠0)(hD:1≤D)(hw:ai R*D.toNat≤64)(h:ut J N1 M1 E1 N2 M2 E2)(hJ:J+64≤dY N1 M1 E1):
  cI R D L G gr qs N1 M1 E1 way=cI R D L G gr qs N2 M2 E2 way:=by
 have hc:J≤(ai R:Int)*dj R D L gr N1 M1 E1-1:=by
  have h1:aT R D (dY N1 M1 E1)≤dj R D L gr N1 M1 E1:=by
   unfold dj
   split
   ·rename_i g
    simp at g;omega
   ·omega
  have h2:(ai R:Int)*aT R D (dY N1 M1 E1)≤(ai R:Int)*dj R D L gr N1 M1 E1:=Int.mul_le_mul_of_nonneg_left h1 (by omega);have h3:dY N1 M1 E1-63≤(ai R:Int)*aT R D (dY N1 M1 E1):=by
   unfold aT;have hw1:=eN R;have e:=Int.mul_ediv_add_emod (dY N1 M1 E1) (ai R);have l:=Int.emod_lt_of_pos (dY N1 M1 E1) (b:=(ai R:Int)) (by omega);rw[Int.mul_sub];have hd:((ai R*D.toNat:Nat):Int)=(ai R:Int)*D:=by rw[Int.natCast_mul,Int.toNat_of_nonneg (by omega)]
   rw[Int.mul_sub,Int.mul_one];omega
  omega
 obtain⟨g1,g2⟩:=h _ hc;exact QX m1 m2 (Zv n1 m1 n2 m2 h (by omega)) g1 g2
theorem aep {N1 M1 N2 M2:Nat}{E1 E2:Int}(K:Nat)(m1:M1≠0)(m2:M2≠0)(k1: -(K:Int)≤E1)(k2: -(K:Int)≤E2)(h:N1*M2*2^ (E1+K).toNat=N2*M1*2^ (E2+K).toNat)(J:Int):ut J N1 M1 E1 N2 M2 E2:=fun j _=>by
 refine qG (jO m1 _) (jO m2 _) (Nat.le_antisymm ?_ ?_)
 ·exact Gx k1 k2 (show LeQ K N1 M1 E1 N2 M2 E2 from Nat.le_of_eq h)
 ·exact Gx k2 k1 (show LeQ K N2 M2 E2 N1 M1 E1 from Nat.le_of_eq h.symm)
theorem moved_zt (fm p:Int)(m:Nat)(vo:Option Addr)(vc:Nat)(w:World):
  yC 52 #[yvV 1 true (yT vo m vc) p,yi fm] w (B6 w 1 (fm==1) 0 0 0):=by
 obtain⟨W4,hW5,q1,q2,b3⟩:=iG w (yvL 1 true (yT vo m vc) p) 48 (yvL 0 false yN 0) 48;replace hW5:Hid _:=hW5
 go_enter func52,ntmps52
 go_upto_region 1 with fail
 rw[hW5.out];clear hW5;have c6:=q1.c 0 rfl;have c7:=q1.c 1 rfl;have hf:=afz (P:=Tryz.prog) q2 b3 (by omega) underlying48 rfl (by kernel_rfl) (yi 1) (.bool (fm==1)) yN (yi 0);have HH:Hid (_∧_):=⟨hf.1,hf.2.1⟩;obtain⟨⟨z0,z1,z2,z3⟩,y0,y1,y2,y3⟩:=afB q2;clear hf q1 q2 b3
 go_wp2
 obtain⟨hl,bR⟩:=HH.out;exact bodyPost_ret (aj results52 rfl rfl hl) rfl ⟨_,rfl,aN _ _,bR⟩
theorem moved_zf (fm p:Int)(m:Nat)(vo:Option Addr)(vc:Nat)(w:World):
  yC 52 #[yvV 1 false (yT vo m vc) p,yi fm] w (B6 w 1 false 0 0 0):=by
 obtain⟨W4,hW5,q1,q2,b3⟩:=iG w (yvL 1 false (yT vo m vc) p) 48 (yvL 0 false yN 0) 48;replace hW5:Hid _:=hW5
 go_enter func52,ntmps52
 go_upto_region 1 with fail
 rw[hW5.out];clear hW5;have c6:=q1.c 0 rfl;have c7:=q1.c 1 rfl;have hf:=afz (P:=Tryz.prog) q2 b3 (by omega) underlying48 rfl (by kernel_rfl) (yi 1) (.bool false) yN (yi 0);have HH:Hid (_∧_):=⟨hf.1,hf.2.1⟩;obtain⟨⟨z0,z1,z2,z3⟩,y0,y1,y2,y3⟩:=afB q2;clear hf q1 q2 b3
 go_wp2
 obtain⟨hl,bR⟩:=HH.out;exact bodyPost_ret (aj results52 rfl rfl hl) rfl ⟨_,rfl,aN _ _,bR⟩
theorem moved_same (c p:Int)(g:Bool)(m:Nat)(vo:Option Addr)(vc:Nat)(w:World)(h1:(c==1)=false)(h5: ¬c=5)(rv:Rd w .u32 (yT vo m vc) (Dg.dg 4294967296 m)):
  yC 52 #[yvV c g (yT vo m vc) p,yi 1] w (B6 w c g m p 0):=by
 obtain⟨W4,hW5,q1,q2,b3⟩:=iG w (yvL c g (yT vo m vc) p) 48 (yvL 0 false yN 0) 48;replace hW5:Hid _:=hW5;have r6:=rv.l b3;clear rv
 go_enter func52,ntmps52
 go_upto_region 1 with fail
 rw[hW5.out];clear hW5;obtain⟨c7,c8,c9,c10⟩:=q1.cs4;have hf:=afz (P:=Tryz.prog) q2 b3 (by omega) underlying48 rfl (by kernel_rfl) (yi c) (.bool g) (yT vo m vc) (yi p);have HH:Hid (_∧_∧_):=⟨hf.1,hf.2.2.rd r6 (aX r6 q2 (by simp)),hf.2.1⟩;obtain⟨⟨z0,z1,z2,z3⟩,y0,y1,y2,y3⟩:=afB q2;clear hf q1 q2 r6 b3
 go_wp2
 obtain⟨hl,rRv,bR⟩:=HH.out;exact bodyPost_ret (aj results52 rfl rfl hl) rfl ⟨_,rfl,rRv,bR⟩
theorem moved_5 (nn:Int)(fm p:Int)(g:Bool)(m:Nat)(vo:Option Addr)(vc:Nat)(w:World)(HN:yJ 97 #[yi fm] (yi nn)):
  yC 52 #[yvV 5 g (yT vo m vc) p,yi fm] w (B6 w nn false 0 0 16):=by
 replace HN:Hid _:=HN;obtain⟨W4,hW5,q1,q2,b3⟩:=iG w (yvL 5 g (yT vo m vc) p) 48 (yvL 0 false yN 0) 48;replace hW5:Hid _:=hW5
 go_enter func52,ntmps52
 go_upto_region 1 with fail
 rw[hW5.out];clear hW5;have c6:=q1.c 0 rfl
 go_wp2_with fail
 refine(HN.out _).mono ?_;rintro zz w7 ⟨rfl,bb8⟩;have q9:=q2.l bb8;have b10:=aa b3 bb8;clear q1 q2 b3 bb8 HN c6;have hf:=afz (P:=Tryz.prog) q9 b10 (by omega) underlying48 rfl (by kernel_rfl) (yi nn) (.bool false) yN (yi 0);have HH:Hid (_∧_):=⟨hf.1,hf.2.1⟩;obtain⟨⟨z0,z1,z2,z3⟩,y0,y1,y2,y3⟩:=afB q9;clear hf q9 b10
 go_wp2
 obtain⟨hl,bR⟩:=HH.out;exact bodyPost_ret (aj results52 rfl rfl hl) rfl ⟨_,rfl,aN _ _,bR⟩
theorem moved_no (nn:Int)(c fm p:Int)(g:Bool)(m:Nat)(vo:Option Addr)(vc:Nat)(w:World)(h1:(c==1)=false)(h5: ¬c=5)(hf:(fm==1)=false)(HN:yJ 97 #[yi fm] (yi nn)):
  yC 52 #[yvV c g (yT vo m vc) p,yi fm] w (B6 w nn false 0 0 16):=by
 replace HN:Hid _:=HN;obtain⟨W4,hW5,q1,q2,b3⟩:=iG w (yvL c g (yT vo m vc) p) 48 (yvL 0 false yN 0) 48;replace hW5:Hid _:=hW5
 go_enter func52,ntmps52
 go_upto_region 1 with fail
 rw[hW5.out];clear hW5;have c6:=q1.c 0 rfl
 go_wp2_with fail
 refine(HN.out _).mono ?_;rintro zz w7 ⟨rfl,bb8⟩;have q9:=q2.l bb8;have b10:=aa b3 bb8;clear q1 q2 b3 bb8 HN c6;have hf:=afz (P:=Tryz.prog) q9 b10 (by omega) underlying48 rfl (by kernel_rfl) (yi nn) (.bool false) yN (yi 0);have HH:Hid (_∧_):=⟨hf.1,hf.2.1⟩;obtain⟨⟨z0,z1,z2,z3⟩,y0,y1,y2,y3⟩:=afB q9;clear hf q9 b10
 go_wp2
 obtain⟨hl,bR⟩:=HH.out;exact bodyPost_ret (aj results52 rfl rfl hl) rfl ⟨_,rfl,aN _ _,bR⟩
theorem convert_none (n k wy:Int)(s:ByteArray)(w:World)(HF:yJ 36 #[yi k] (yi 0)):
  yC 19 #[yi n,.string s,yi k,yi wy] w (yR w (.tuple #[.string ⟨#[]⟩,yi 0,yi 6])):=by
 replace HF:Hid _:=HF
 go_enter func19,ntmps19
 have b0:=Below.refl w.heap.size w
 go_wp2_with fail
 refine(HF.out _).mono ?_;rintro zz w1 ⟨rfl,bb2⟩;have b3:=aa b0 bb2;clear b0 bb2 HF
 go_wp2
 go_ret3
 exact⟨by simp,b3⟩
theorem convert_err (fm c p er:Int)(g:Bool)(m:Nat)(t:ak)(n k wy:Int)(s:ByteArray)(w:World)(hf:(fm==0)=false)(he: ¬er=0)(HF:yJ 36 #[yi k] (yi fm))
  (HQ: ∀w1,yB w w1→yC 38 #[yi n,.string s,yi wy] w1 (CRes w1 c g m p t er)):
  yC 19 #[yi n,.string s,yi k,yi wy] w (yR w (.tuple #[.string ⟨#[]⟩,yi 0,yi er])):=by
 replace HF:Hid _:=HF;replace HQ:Hid _:=HQ
 go_enter func19,ntmps19
 have b0:=Below.refl w.heap.size w
 go_wp2_with fail
 refine(HF.out _).mono ?_;rintro zz w1 ⟨rfl,bb2⟩;have b3:=aa b0 bb2;clear b0 bb2 HF
 go_wp2_with fail
 refine(HQ.out _ b3).mono ?_;rintro zz w4 ⟨v16,v27,rfl,r18,r29,bb5⟩;have b10:=aa b3 bb5;obtain⟨vo,vc,hv⟩:=r18.shape;subst hv;obtain⟨xo,xc,hv⟩:=r29.shape;subst hv;clear b3 bb5 HQ;obtain⟨W13,hW12,q14,q15,al11⟩:=iG w4 (yvL c g (yT vo m vc) p) 48 (yDL t xo xc) 78;replace hW12:Hid _:=hW12;have hl16:w.heap.size≤w4.heap.size:=b10.size;have b17:=aa b10 al11;clear r18 r29 b10 al11 q14 q15
 go_upto_region 4 with fail
 rw[hW12.out];clear hW12
 go_wp2
 go_ret3
 exact⟨by simp,b17⟩
theorem convert_num (fm p f1 e1:Int)(st:ByteArray)(g:Bool)(m:Nat)(t:ak)(n k wy:Int)(s:ByteArray)(w:World)(hf:(fm==0)=false)(HF:yJ 36 #[yi k] (yi fm))
  (HQ: ∀w1,yB w w1→yC 38 #[yi n,.string s,yi wy] w1 (CRes w1 2 g m p t 0))
  (HT: ∀xo xc w1,yC 40 #[yDV t xo xc] w1 fun z w'=> ∃eo ec,z= .returned (yrV t.s (yT xo t.n xc) (.slice eo 1 ec) t.e)∧Rd w' .u32 (.slice eo 1 ec) [1]∧yB w1 w')
  (HA: ∀xo xc eo ec w1,yB w w1→Rd w1 .u32 (yT xo t.n xc) (Dg.dg 4294967296 t.n)→Rd w1 .u32 (.slice eo 1 ec) [1]→yC 23 #[yi k,yrV t.s (yT xo t.n xc) (.slice eo 1 ec) t.e,yi wy] w1 (yR w1 (.tuple #[.string st,yi f1,yi e1]))):
  yC 19 #[yi n,.string s,yi k,yi wy] w (yR w (.tuple #[.string st,yi f1,yi e1])):=by
 replace HF:Hid _:=HF;replace HQ:Hid _:=HQ;replace HT:Hid _:=HT;replace HA:Hid _:=HA
 go_enter func19,ntmps19
 have b0:=Below.refl w.heap.size w
 go_wp2_with fail
 refine(HF.out _).mono ?_;rintro zz w1 ⟨rfl,bb2⟩;have b3:=aa b0 bb2;clear b0 bb2 HF
 go_wp2_with fail
 refine(HQ.out _ b3).mono ?_;rintro zz w4 ⟨v16,v27,rfl,r18,r29,bb5⟩;have b10:=aa b3 bb5;obtain⟨vo,vc,hv⟩:=r18.shape;subst hv;obtain⟨xo,xc,hv⟩:=r29.shape;subst hv;clear b3 bb5 HQ;obtain⟨W13,hW12,q14,q15,al11⟩:=iG w4 (yvL 2 g (yT vo m vc) p) 48 (yDL t xo xc) 78;replace hW12:Hid _:=hW12;have hl16:w.heap.size≤w4.heap.size:=b10.size;have r17:=r29.l al11;have b18:=aa b10 al11;clear r18 r29 b10 al11
 go_upto_region 4 with fail
 rw[hW12.out];clear hW12;have c19:=q14.c 0 rfl;obtain⟨c20,c21,c22⟩:=q15.cs3
 go_wp2_with fail
 refine(HT.out _ _ _).mono ?_;rintro zz w23 ⟨eo,ec,rfl,r125,bb24⟩;have r26:=r17.l bb24;have b27:=aa b18 bb24;clear q14 q15 r17 b18 bb24 HT c19 c20 c21 c22
 go_wp2_with fail
 refine(HA.out _ _ _ _ _ b27 r26 r125).mono ?_;rintro zz w28 ⟨rfl,bb29⟩;have b30:=aa b27 bb29;clear r26 r125 b27 bb29 HA
 go_wp2
 go_ret3
 exact⟨by simp,b30⟩
theorem fromInt_pos (n k wy f1 e1:Int)(N:Nat)(st:ByteArray)(w:World)(hn: ¬n<0)(hN:IntKind.u64.wrap n=(N:Int))
  (HW: ∀w1,yB w w1→yC 24 #[.int .u64 N] w1 fun z w'=> ∃v,z= .returned v∧Rd w' .u32 v (Dg.dg 4294967296 N)∧yB w1 w')
  (HA: ∀ao ac q w1,yB w w1→Rd w1 .u32 (yT ao N ac) (Dg.dg 4294967296 N)→au w1 q 54 [.int .u32 1]→yC 23 #[yi k,yrV false (yT ao N ac) (.slice (some ⟨q,0,none⟩) 1 1) 0,yi wy] w1 (yR w1 (.tuple #[.string st,yi f1,yi e1]))):
  yC 8 #[yi n,yi k,yi wy] w (yR w (.tuple #[.string st,yi f1,yi e1])):=by
 replace HW:Hid _:=HW;replace HA:Hid _:=HA
 go_enter func8,ntmps8
 have b0:=Below.refl w.heap.size w
 go_wp2_with fail
 refine(HW.out _ b0).mono ?_;rintro zz w1 ⟨v13,rfl,r14,bb2⟩;have b5:=aa b0 bb2;obtain⟨ao,ac,hv⟩:=r14.shape;subst hv;clear b0 bb2 HW;have al6:=af w1 (.cells #[.int .u32 1] 54);have q7:=ah w1 [.int .u32 1] 54;have r8:=r14.l al6;have b9:=aa b5 al6
 go_wp2_with fail
 refine(HA.out _ _ _ _ b9 r8 q7).mono ?_;rintro zz w10 ⟨rfl,bb11⟩;have b12:=aa b9 bb11;clear q7 r8 b9 bb11 HA r14 b5 al6
 go_wp2
 go_ret3
 exact⟨by simp,b12⟩
theorem fromInt_neg (M:Int)(n k wy f1 e1:Int)(N:Nat)(st:ByteArray)(w:World)(hn:n<0)(hM:IntKind.u64.wrap n=M)(hN:IntKind.u64.wrap (-M)=(N:Int))
  (HW: ∀w1,yB w w1→yC 24 #[.int .u64 N] w1 fun z w'=> ∃v,z= .returned v∧Rd w' .u32 v (Dg.dg 4294967296 N)∧yB w1 w')
  (HA: ∀ao ac q w1,yB w w1→Rd w1 .u32 (yT ao N ac) (Dg.dg 4294967296 N)→au w1 q 54 [.int .u32 1]→yC 23 #[yi k,yrV true (yT ao N ac) (.slice (some ⟨q,0,none⟩) 1 1) 0,yi wy] w1 (yR w1 (.tuple #[.string st,yi f1,yi e1]))):
  yC 8 #[yi n,yi k,yi wy] w (yR w (.tuple #[.string st,yi f1,yi e1])):=by
 replace HW:Hid _:=HW;replace HA:Hid _:=HA
 go_enter func8,ntmps8
 have b0:=Below.refl w.heap.size w
 go_wp2_with fail
 refine(HW.out _ b0).mono ?_;rintro zz w1 ⟨v13,rfl,r14,bb2⟩;have b5:=aa b0 bb2;obtain⟨ao,ac,hv⟩:=r14.shape;subst hv;clear b0 bb2 HW;have al6:=af w1 (.cells #[.int .u32 1] 54);have q7:=ah w1 [.int .u32 1] 54;have r8:=r14.l al6;have b9:=aa b5 al6
 go_wp2_with fail
 refine(HA.out _ _ _ _ b9 r8 q7).mono ?_;rintro zz w10 ⟨rfl,bb11⟩;have b12:=aa b9 bb11;clear q7 r8 b9 bb11 HA r14 b5 al6
 go_wp2
 go_ret3
 exact⟨by simp,b12⟩
theorem cwhole_pos (pp:Int)(ex un:Bool)(P:Nat)(po:Option Addr)(pc:Nat)(w:World)(h1: ¬(9223372036854775808:Int)< (P:Int))(h2:((P:Int)==9223372036854775808)=false)(h3:IntKind.i64.wrap P=(P:Int))
  (HW: ∀w1,yB w w1→yC 78 #[yT po P pc] w1 fun z w'=>z= .returned (.int .u64 P)∧w'=w1):
  yC 41 #[ypV false (yT po P pc) pp ex false un] w (yR w (.tuple #[yi P,.bool true])):=by
 replace HW:Hid _:=HW;obtain⟨W3,hW4,q1,b2⟩:=cA w (ypL false (yT po P pc) pp ex false un) 84;replace hW4:Hid _:=hW4
 go_enter func41,ntmps41
 go_upto_region 1 with fail
 rw[hW4.out];clear hW4;have c5:=q1.c 1 rfl
 go_wp2_with fail
 refine(HW.out _ b2).mono ?_;rintro zz w6 ⟨rfl,rfl⟩;clear c5 HW;have c8:=q1.c 0 rfl;have c9:=q1.c 4 rfl
 go_wp2
 go_ret2
 exact⟨by simp,b2⟩
theorem convBegun_W (st:ByteArray)(w:World)(HX:yH w 8 #[yi 3,yi 4,yi 1] (.tuple #[.string st,yi 0,yi 0]))
  (HY:yH w 15 #[yi 4,.string st,yi 1] (.tuple #[yi 3,yi 0,yi 0])):
  yC 5 #[] w (yR w (.bool true)):=by
 replace HX:Hid _:=HX;replace HY:Hid _:=HY
 go_enter func5,ntmps5
 have b0:=Below.refl w.heap.size w
 go_wp2_with fail
 refine(HX.out _ b0).mono ?_;rintro zz w1 ⟨rfl,bb2⟩;have b3:=aa b0 bb2;clear b0 bb2 HX
 go_wp2_with fail
 refine(HY.out _ b3).mono ?_;rintro zz w4 ⟨rfl,bb5⟩;have b6:=aa b3 bb5;clear b3 bb5 HY
 go_wp2
 go_ret
 exact⟨by simp,b6⟩
theorem mL.apart3 {w:World}{b c:Nat}{v0 v1 v2 v3 v4 v5:Value}(h:mL w b v0 v1 v2 v3 v4 v5)(hne:c≠b)(x0 x1 x2:Value):
  mL (((w.setCell ⟨c,0,none⟩ x0).setCell ⟨c,1,none⟩ x1).setCell ⟨c,2,none⟩ x2) b v0 v1 v2 v3 v4 v5:=by
 obtain⟨hl,⟨c0,c1,c2,c3,c4,c5⟩,f0,f1,f2,f3,f4,f5⟩:=h;refine⟨by simpa using hl,⟨?_, ?_, ?_, ?_, ?_, ?_⟩,by simpa using f0,by simpa using f1,by simpa using f2,by simpa using f3,by simpa using f4,by simpa using f5⟩
 all_goals (rw[World.cell?_setCell_other (h:=by simp),World.cell?_setCell_other (h:=by simp),World.cell?_setCell_other (h:=by simp)];assumption)
theorem fam_any (k:Int)(w:World):yC 36 #[yi k] w (yR w (yi (dK k))):=
 (jk k w).mono (fun z w' h=>⟨h.1,by rw[h.2];exact Below.refl _ _⟩)
theorem three_round:eE (Dg.dg 4294967296 3) [1] 0 2 64 0 0 1=0∧df (Dg.dg 4294967296 3) [1] 0 2 64 0 0 true false 1=⟨false,3,0,true,false,true⟩:=by
 refine⟨?_, ?_⟩<;>kernel_rfl
def wdS (c:Int)(g:Bool):ByteArray:=if g=true then(wdV c).2.1 else(wdV c).1
theorem wordOf_any (c p:Int)(g:Bool)(vo:Option Addr)(vl vc:Nat)(w:World):yC 46 #[yvV c g (.slice vo vl vc) p] w (yR w (.tuple #[.string (wdS c g),.bool (wdV c).2.2])):=by
 unfold wdS
 cases g
 ·rw[if_neg (by decide)]
  exact tword_f c p vo vl vc _ _ _ w (fun w1=>twords_any w1) (fun wq mr hm=>look_any c wq mr hm)
 ·rw[if_pos rfl]
  exact tword_t c p vo vl vc _ _ _ w (fun w1=>twords_any w1) (fun wq mr hm=>look_any c wq mr hm)
theorem word_no {c:Nat}(h1:1≤c)(h2:c≤5)(h:(wdV c).2.2=false):c=2:=by
 obtain rfl|rfl|rfl|rfl|rfl:c=1∨c=2∨c=3∨c=4∨c=5:=by omega
 all_goals first
  |rfl
  |exact absurd h (by decide)
theorem dcP_in {x:ak}(hx:x.n<2^64)(e1: -16500≤x.e)(e2:x.e≤16500)(h0:x.n≠0): -5200≤dcP x∧dcP x≤5200:=by
 obtain⟨a,ha⟩: ∃a,a=64:=⟨_,rfl⟩;obtain⟨c,hc⟩: ∃c,c=16564:=⟨_,rfl⟩;obtain⟨i1,i2,i3⟩:=dqN_in ha hc (by rw[ha];exact hx) e1 e2;have h1:=dc_less hx e1 e2 h0 5200;have h2:=dc_less hx e1 e2 h0 (-5200);obtain⟨q,hq⟩: ∃q,q=1300:=⟨_,rfl⟩;have hp:2^c≤10^ (4*q):=pow2_ten (by omega);rw[show(-(5200:Int)).toNat=0 by decide,show(5200:Int).toNat=4*q by omega,Nat.pow_zero,Nat.mul_one] at h1
 rw[show(-(-5200:Int)).toNat=4*q by omega,show(-5200:Int).toNat=0 by decide,Nat.pow_zero,Nat.mul_one] at h2
 constructor
 ·rcases Int.lt_or_le (dcP x) (-5200) with d|d
  ·have:=h2.2 d
   have h5:1≤dqN x:=Nat.mul_pos (Nat.pos_of_ne_zero h0) (Nat.pow_pos (by omega));have:=Nat.mul_le_mul h5 hp;omega
  ·exact d
 ·have:dqN x<dqD x*10^ (4*q):=Nat.lt_of_lt_of_le i1 (Nat.le_trans hp (Nat.le_mul_of_pos_left _ i3))
  have:=h1.1 this;omega
theorem exact_1 (k j er:Int)(w:World)(he: ¬er=0)
  (HA:yJ 42 #[yi k] (.tuple #[ygV 0 0 0 0 false,yi er])):
  yC 16 #[yi k,yi j] w (yR w (.tuple #[.bool false,yi er])):=by
 replace HA:Hid _:=HA
 go_enter func16,ntmps16
 have b0:=Below.refl w.heap.size w
 go_wp2_with fail
 refine(HA.out _).mono ?_;rintro zz w1 ⟨rfl,bb2⟩;have b3:=aa b0 bb2;clear b0 bb2 HA;obtain⟨W6,hW5,q7,al4⟩:=cA w1 (ygL 0 0 0 0 false) 82;replace hW5:Hid _:=hW5;have hl8:w.heap.size≤w1.heap.size:=b3.size;have b9:=aa b3 al4;clear b3 al4 q7
 go_upto_region 2 with fail
 rw[hW5.out];clear hW5
 go_wp2
 go_ret2
 exact⟨by simp,b9⟩
theorem exact_2 (k j er Ra Da La Ga:Int)(gra:Bool)(w:World)(he: ¬er=0)
  (HA:yJ 42 #[yi k] (.tuple #[ygV Ra Da La Ga gra,yi 0]))
  (HB:yJ 42 #[yi j] (.tuple #[ygV 0 0 0 0 false,yi er])):
  yC 16 #[yi k,yi j] w (yR w (.tuple #[.bool false,yi er])):=by
 replace HA:Hid _:=HA;replace HB:Hid _:=HB
 go_enter func16,ntmps16
 have b0:=Below.refl w.heap.size w
 go_wp2_with fail
 refine(HA.out _).mono ?_;rintro zz w1 ⟨rfl,bb2⟩;have b3:=aa b0 bb2;clear b0 bb2 HA;obtain⟨W6,hW5,q7,al4⟩:=cA w1 (ygL Ra Da La Ga gra) 82;replace hW5:Hid _:=hW5;have hl8:w.heap.size≤w1.heap.size:=b3.size;have b9:=aa b3 al4;clear b3 al4 q7
 go_upto_region 2 with fail
 rw[hW5.out];clear hW5
 go_wp2_with fail
 refine(HB.out _).mono ?_;rintro zz w10 ⟨rfl,bb11⟩;have b12:=aa b9 bb11;clear b9 bb11 HB;obtain⟨W15,hW14,q16,al13⟩:=cA w10 (ygL 0 0 0 0 false) 82;replace hW14:Hid _:=hW14;have hl17:w.heap.size≤w10.heap.size:=b12.size;have b18:=aa b12 al13;clear b12 al13 q16
 go_upto_region 5 with fail
 rw[hW14.out];clear hW14
 go_wp2
 go_ret2
 exact⟨by simp,b18⟩
def hdB8 (j:Nat)(t:ak):Bool:=dA (rdN j) (dgN j) (lsI j) (gsI j) (decide (j≤3)) t.n t.e
end Go.Proofs.YtlgkfdcmokchgaaGreatDoor
