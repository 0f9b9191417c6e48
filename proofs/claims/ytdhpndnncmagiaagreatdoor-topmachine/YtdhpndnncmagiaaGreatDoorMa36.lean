/-
  Texts laid together: Co14, Co19, Co11, Co12, Ce10, Tx4, Co4, As2, Gb8, Pa1.
-/
import Derived.Test.YtdhpndnncmagiaaGreatDoorMa29
import Derived.Test.YtdhpndnncmagiaaGreatDoorMa30
import Derived.Test.YtdhpndnncmagiaaGreatDoorMa31
set_option maxRecDepth 100000
set_option maxHeartbeats 6400000
namespace Go.Proofs.YtdhpndnncmagiaaGreatDoor
open _root_.Go.Proofs.Tryz
open Go.RowKit
theorem VY (k:Nat)(hk:1≤k∧k≤8)(s:ByteArray)(w:World)(hs:s.size=szN k):
  yC 142 #[.agg (tS k).toArray,.string s] w (yR w (yfV (aZ k s) ((aR k s:Nat):Int) ((aU k s:Nat):Int))):=by
 obtain⟨h1,h2,h3,h4,h5,-⟩:=fZ hk;have hb:=oV s;have HT: ∀g cap w1,ik w1 g (jr s)→yC (C9 k) #[.slice (some ⟨g,0,none⟩) (szN k) cap] w1 fun z w'=>z= .returned (.tuple #[])∧ik w' g (wG k s)∧w1.grownBy w' (some g):=fun g cap w1 h=>by
  have:=IV k g cap (jr s) w1 h (by omega) (by rw[hb,hs];exact h5);rw[hb,hs] at this;exact this
 have HF:=fun w1=>tm k hk w1
 have hl:(wG k s).length=szN k:=by rw[wG,nM,hb,hs]
 have hm:=xi k _ (zU s);have HE:=fun args W=>Db k args W
 unfold aZ aR aU
 rcases bO hk with rfl|rfl|rfl|rfl|rfl|rfl|rfl|rfl
 all_goals exact acf _ _ _ _ _ _ _ _ _ _ s _ w hs hl hm h1 h2 h3 h4 HT HF HE
theorem Aq (k:Nat)(hk:1≤k∧k≤8)(ng:Bool)(e f:Nat)(w:World)(he:e<65536)(hf:f<18446744073709551616):
  yC 164 #[.agg (tS k).toArray,yfV ng e f] w (yR w (.string (cF (kU k ng e f)))):=by
 obtain⟨h1,h2,h3,h4,h5,-⟩:=fZ hk;have hl:=Mx k ng e f;have HF:=fun w1=>tm k hk w1
 have HE:=fun args W=>Db k args W
 have HT:=fun zs (hz:zs.length=szN k) g cap w1 h=>IV k g cap zs w1 h (by omega) (by rw[hz];exact h5)
 cases ng
 ·have HT': ∀g cap w1,ik w1 g (iS (1+exN k) (frN k) f (iS 1 (exN k) e (List.replicate (szN k) 0)))→yC (C9 k) #[.slice (some ⟨g,0,none⟩) (szN k) cap] w1 fun z w'=>z= .returned (.tuple #[])∧ik w' g (kU k false e f)∧w1.grownBy w' (some g):=fun g cap w1 h=>by
   have hz:(iS (1+exN k) (frN k) f (iS 1 (exN k) e (List.replicate (szN k) 0))).length=szN k:=by rw[il,il,List.length_replicate]
   have:=HT _ hz g cap w1 h;rw[hz] at this;exact this
  rcases bO hk with rfl|rfl|rfl|rfl|rfl|rfl|rfl|rfl
  all_goals exact Km _ _ _ _ _ _ _ _ _ _ e f _ w h1 h2 h3 he hf hl HT' HF HE
 ·have HT': ∀g cap w1,ik w1 g (iS (1+exN k) (frN k) f (iS 1 (exN k) e (iS 0 1 1 (List.replicate (szN k) 0))))→yC (C9 k) #[.slice (some ⟨g,0,none⟩) (szN k) cap] w1 fun z w'=>z= .returned (.tuple #[])∧ik w' g (kU k true e f)∧w1.grownBy w' (some g):=fun g cap w1 h=>by
   have hz:(iS (1+exN k) (frN k) f (iS 1 (exN k) e (iS 0 1 1 (List.replicate (szN k) 0)))).length=szN k:=by rw[il,il,il,List.length_replicate]
   have:=HT _ hz g cap w1 h;rw[hz] at this;exact this
  rcases bO hk with rfl|rfl|rfl|rfl|rfl|rfl|rfl|rfl
  all_goals exact Mw _ _ _ _ _ _ _ _ _ _ e f _ w h1 h2 h3 he hf hl HT' HF HE
theorem afs (ng:Bool)(e f:Nat)(w:World)(hf:f<18446744073709551616):yC 203 #[.agg #[yi 2,yi 24,yi (-149),yi 104,.bool true,yi 4,yi 8,yi 1,.func (.func 139) #[] #[]],yfV ng e f] w (yR w (yi ((dh 1 ng e f:Nat):Int))):=by
 unfold dh;rw[if_pos (by decide),show kp 1=255 from rfl]
 by_cases h0:e=0
 ·subst h0
  rw[if_pos rfl]
  by_cases hz:f=0
  ·subst hz
   exact zD _ _ _ _ _ _ _ _ ng _ 0 0 w _ rfl rfl
  ·rw[if_neg hz]
   exact zD _ _ _ _ _ _ _ _ ng _ 0 f w _ rfl (if_neg (by omega))
 ·rw[if_neg h0]
  by_cases h1:e=255
  ·subst h1
   rw[if_pos rfl]
   by_cases h2:f=(if 1=3 then 2^63 else 0)
   ·rw[if_pos h2]
    exact Ra _ _ _ _ _ _ _ 255 0 _ ng _ _ f w (jy 1 (by decide)) (gj 1 (by decide)) rfl (by rw[h2];rfl) (by decide)
   ·rw[if_neg h2]
    exact KP _ _ _ _ _ _ _ 255 0 _ ng _ _ f w (jy 1 (by decide)) (gj 1 (by decide)) rfl (fun c=>h2 (by rw[show(if 1=3 then 2^63 else 0)=0 from rfl];omega)) (by decide)
  ·rw[if_neg h1]
   rw[if_neg (fun c=>by omega)]
   exact Rb _ _ _ _ _ _ _ 255 0 _ ng _ _ f w (jy 1 (by decide)) (gj 1 (by decide)) (by omega) (by omega) (NR f hf)
theorem aft (ng:Bool)(e f:Nat)(w:World)(hf:f<18446744073709551616):yC 203 #[.agg #[yi 2,yi 53,yi (-1074),yi 971,.bool true,yi 8,yi 11,yi 1,.func (.func 139) #[] #[]],yfV ng e f] w (yR w (yi ((dh 2 ng e f:Nat):Int))):=by
 unfold dh;rw[if_pos (by decide),show kp 2=2047 from rfl]
 by_cases h0:e=0
 ·subst h0
  rw[if_pos rfl]
  by_cases hz:f=0
  ·subst hz
   exact zD _ _ _ _ _ _ _ _ ng _ 0 0 w _ rfl rfl
  ·rw[if_neg hz]
   exact zD _ _ _ _ _ _ _ _ ng _ 0 f w _ rfl (if_neg (by omega))
 ·rw[if_neg h0]
  by_cases h1:e=2047
  ·subst h1
   rw[if_pos rfl]
   by_cases h2:f=(if 2=3 then 2^63 else 0)
   ·rw[if_pos h2]
    exact Ra _ _ _ _ _ _ _ 2047 0 _ ng _ _ f w (jy 2 (by decide)) (gj 2 (by decide)) rfl (by rw[h2];rfl) (by decide)
   ·rw[if_neg h2]
    exact KP _ _ _ _ _ _ _ 2047 0 _ ng _ _ f w (jy 2 (by decide)) (gj 2 (by decide)) rfl (fun c=>h2 (by rw[show(if 2=3 then 2^63 else 0)=0 from rfl];omega)) (by decide)
  ·rw[if_neg h1]
   rw[if_neg (fun c=>by omega)]
   exact Rb _ _ _ _ _ _ _ 2047 0 _ ng _ _ f w (jy 2 (by decide)) (gj 2 (by decide)) (by omega) (by omega) (NR f hf)
theorem afu (ng:Bool)(e f:Nat)(w:World)(hf:f<18446744073709551616):yC 203 #[.agg #[yi 2,yi 64,yi (-16445),yi 16320,.bool true,yi 10,yi 15,yi 1,.func (.func 140) #[] #[]],yfV ng e f] w (yR w (yi ((dh 3 ng e f:Nat):Int))):=by
 unfold dh;rw[if_pos (by decide),show kp 3=32767 from rfl]
 by_cases h0:e=0
 ·subst h0
  rw[if_pos rfl]
  by_cases hz:f=0
  ·subst hz
   exact zD _ _ _ _ _ _ _ _ ng _ 0 0 w _ rfl rfl
  ·rw[if_neg hz]
   exact zD _ _ _ _ _ _ _ _ ng _ 0 f w _ rfl (if_neg (by omega))
 ·rw[if_neg h0]
  by_cases h1:e=32767
  ·subst h1
   rw[if_pos rfl]
   by_cases h2:f=(if 3=3 then 2^63 else 0)
   ·rw[if_pos h2]
    exact Ra _ _ _ _ _ _ _ 32767 9223372036854775808 _ ng _ _ f w (jy 3 (by decide)) (gj 3 (by decide)) rfl (by rw[h2];rfl) (by decide)
   ·rw[if_neg h2]
    exact KP _ _ _ _ _ _ _ 32767 9223372036854775808 _ ng _ _ f w (jy 3 (by decide)) (gj 3 (by decide)) rfl (fun c=>h2 (by rw[show(if 3=3 then 2^63 else 0)=9223372036854775808 from rfl];omega)) (by decide)
  ·rw[if_neg h1]
   have ha:=ab0 f hf
   by_cases h3:f<9223372036854775808
   ·rw[if_pos ⟨rfl,h3⟩]
    rw[if_pos h3] at ha;exact adw _ _ _ _ _ _ _ 32767 9223372036854775808 _ ng _ _ f w (jy 3 (by decide)) (gj 3 (by decide)) (by omega) (by omega) ha (by decide)
   ·rw[if_neg (fun c=>h3 c.2)]
    rw[if_neg h3] at ha;exact Rb _ _ _ _ _ _ _ 32767 9223372036854775808 _ ng _ _ f w (jy 3 (by decide)) (gj 3 (by decide)) (by omega) (by omega) ha
theorem QL (k:Nat)(hk:1≤k∧k≤8)(ng:Bool)(e f:Nat)(w:World)(hf:f<18446744073709551616)(he:e<65536):yC 144 #[.agg (tS k).toArray,yfV ng e f] w (yR w (.tuple #[.int .u64 ((iI k e f:Nat):Int),yi (ii k e)])):=by
 have hls: -100000≤lsI k∧lsI k≤100000:=by rcases bO hk with rfl|rfl|rfl|rfl|rfl|rfl|rfl|rfl<;>decide
 have hw1:IntKind.i64.wrap (lsI k+(e:Int))=lsI k+(e:Int):=IntWalk.i64_in _ ⟨by omega,by omega⟩;have hw2:IntKind.i64.wrap (lsI k+(e:Int)-1)=lsI k+(e:Int)-1:=IntWalk.i64_in _ ⟨by omega,by omega⟩;have ho:bits .or .u64 f (gW k:Int)=((f|||gW k:Nat):Int):=u64_or_nat f (gW k) hf (by rcases bO hk with rfl|rfl|rfl|rfl|rfl|rfl|rfl|rfl<;>decide)
 have HL:=fun w1=>xX k hk w1
 unfold iI ii
 by_cases hr:rdN k=16
 ·rw[if_pos hr,if_pos hr]
  rcases bO hk with rfl|rfl|rfl|rfl|rfl|rfl|rfl|rfl
  all_goals first|exact absurd hr (by decide)|exact Vi _ _ _ _ _ _ _ ng _ e f w hw1
 ·rw[if_neg hr,if_neg hr]
  by_cases h:e=0
  ·subst h
   rw[if_pos rfl,if_pos rfl]
   rcases bO hk with rfl|rfl|rfl|rfl|rfl|rfl|rfl|rfl
   all_goals first|exact absurd rfl hr|exact Zc _ _ _ _ _ _ _ ng _ f w
  ·rw[if_neg h,if_neg h]
   have h1:((e:Int)==0)=false:=by simp;omega
   rcases bO hk with rfl|rfl|rfl|rfl|rfl|rfl|rfl|rfl
   all_goals first|exact absurd rfl hr|exact Zd _ _ _ _ _ _ _ _ _ ng _ e f w h1 ho hw1 hw2 HL
theorem xE (k:Nat)(hk:1≤k∧k≤8)(s:Bool)(ao:Option Addr)(ca:Nat)(xs:List Nat)(E:Int)(w:World)(hr:Rd w .u32 (.slice ao xs.length ca) xs)(sa:Dg.Small 4294967296 xs)(hd:aS xs E=0)(h0:Dg.vl 4294967296 xs≠0)
  (hh:dA (rdN k) (dgN k) (lsI k) (gsI k) (decide (k≤3)) (Dg.vl 4294967296 xs) E=true):
  yC 161 #[.agg (tS k).toArray,ydV s (.slice ao xs.length ca) E] w (yR w (.tuple #[.string (cF (kU k (plT k s (Dg.vl 4294967296 xs) E).s (heE (rdN k) (lsI k) (gW k) (plT k s (Dg.vl 4294967296 xs) E)) (plT k s (Dg.vl 4294967296 xs) E).d)),yi 0])):=by
 have HL:=fun w1=>xX k hk w1
 have HW:=fun ng e f w1 (he:e<65536) (hf:f<18446744073709551616)=>Aq k hk ng e f w1 he hf
 have hl:=Re hk;unfold plT
 rcases bO hk with rfl|rfl|rfl|rfl|rfl|rfl|rfl|rfl
 all_goals exact ZC _ _ _ _ _ _ _ _ _ _ s ao ca xs E w (fun ng e f=>cF (kU _ ng e f)) hr sa hd h0 (by decide) (by decide) (by decide) (by decide) (by decide) (by decide) hl hh HL HW
theorem tRatio_err (er:Int)(ng:Bool)(ds:ByteArray)(p:Int)(tx:ByteArray)(w:World)(he: ¬er=0)
  (HN:yH w 58 #[.string tx] (.tuple #[.agg #[.bool ng,.string ds,yi p],yi er])):
  yC 31 #[.string tx] w (yR w (.tuple #[yrV false yN yN 0,yi er])):=by
 replace HN:Hid _:=HN;obtain⟨W3,hW4,q1,b2⟩:=cA w (yrL false yN yN 0) 77;replace hW4:Hid _:=hW4
 go_enter func31,ntmps31
 go_upto_region 1 with fail
 rw[hW4.out];clear hW4
 go_wp2_with fail
 refine(HN.out _ b2).mono ?_;rintro zz w5 ⟨rfl,bb6⟩;have q7:=q1.l bb6;have b8:=aa b2 bb6;clear q1 b2 bb6 HN;obtain⟨W11,hW10,q12,al9⟩:=cA w5 [.bool ng,.string ds,yi p] 133;replace hW10:Hid _:=hW10;have hl13:w.heap.size≤w5.heap.size:=b8.size;have hl14:=q7.lt;have q15:=q7.l al9;have b16:=aa b8 al9;clear q7 b8 al9 q12
 go_upto_region 2 with fail
 rw[hW10.out];clear hW10;have hf:=afz (P:=Tryz.prog) q15 b16 (by omega) underlying77 rfl (by kernel_rfl) (.bool false) yN yN (yi 0);have HH:Hid (_∧_):=⟨hf.1,hf.2.1⟩;obtain⟨⟨z0,z1,z2,z3⟩,y0,y1,y2,y3⟩:=afB q15;clear hf q15 b16
 go_wp2
 obtain⟨hl,bR⟩:=HH.out;exact bodyPost_ret (aj results31 rfl rfl hl) rfl ⟨rfl,bR⟩
theorem tRatio_ok (qn:Bool)(a b:Nat)(ex:Int)(ng:Bool)(ds:ByteArray)(p:Int)(tx:ByteArray)(w:World)
  (HN:yH w 58 #[.string tx] (.tuple #[.agg #[.bool ng,.string ds,yi p],yi 0]))
  (HQ: ∀w1,yB w w1→yC 59 #[.agg #[.bool ng,.string ds,yi p]] w1 (RtR w1 qn a b ex)):
  yC 31 #[.string tx] w (RtE w qn a b ex 0):=by
 replace HN:Hid _:=HN;replace HQ:Hid _:=HQ;obtain⟨W3,hW4,q1,b2⟩:=cA w (yrL false yN yN 0) 77;replace hW4:Hid _:=hW4
 go_enter func31,ntmps31
 go_upto_region 1 with fail
 rw[hW4.out];clear hW4
 go_wp2_with fail
 refine(HN.out _ b2).mono ?_;rintro zz w5 ⟨rfl,bb6⟩;have q7:=q1.l bb6;have b8:=aa b2 bb6;clear q1 b2 bb6 HN;obtain⟨W11,hW10,q12,al9⟩:=cA w5 [.bool ng,.string ds,yi p] 133;replace hW10:Hid _:=hW10;have hl13:w.heap.size≤w5.heap.size:=b8.size;have hl14:=q7.lt;have q15:=q7.l al9;have b16:=aa b8 al9;clear q7 b8 al9
 go_upto_region 2 with fail
 rw[hW10.out];clear hW10;obtain⟨c17,c18,c19⟩:=q12.cs3
 go_wp2_with fail
 refine(HQ.out _ b16).mono ?_;rintro zz w20 ⟨v1x22,v2x23,rfl,r1x24,r2x25,bb21⟩;have q26:=q15.l bb21;have b27:=aa b16 bb21;obtain⟨ao,ac,hv⟩:=r1x24.shape;subst hv;obtain⟨bo,bc,hv⟩:=r2x25.shape;subst hv;clear q15 q12 b16 bb21 HQ c17 c18 c19;have hf:=afz (P:=Tryz.prog) q26 b27 (by omega) underlying77 rfl (by kernel_rfl) (.bool qn) (yT ao a ac) (yT bo b bc) (yi ex);have HH:Hid (_∧_∧_∧_):=⟨hf.1,hf.2.2.rd r1x24 (aX r1x24 q26 (by simp)),hf.2.2.rd r2x25 (aX r2x25 q26 (by simp)),hf.2.1⟩;obtain⟨⟨z0,z1,z2,z3⟩,y0,y1,y2,y3⟩:=afB q26;clear hf q26 r1x24 r2x25 b27
 go_wp2
 obtain⟨hl,rRa,rRb,bR⟩:=HH.out;exact bodyPost_ret (aj results31 rfl rfl hl) rfl ⟨_,_,rfl,rRa,rRb,bR⟩
theorem tparse_ok (f n way fl er ex:Int)(qn:Bool)(a b:Nat)(tx st:ByteArray)(w:World)(hf:(f==0)=false)
  (HF:yJ 30 #[yi n] (yi f))
  (HE: ∀w1,yB w w1→yC 31 #[.string tx] w1 (RtE w1 qn a b ex 0))
  (HA: ∀ao ac bo bc w1,yB w w1→Rd w1 .u32 (yT ao a ac) (Dg.dg 4294967296 a)→Rd w1 .u32 (yT bo b bc) (Dg.dg 4294967296 b)→yC 32 #[yi n,yrV qn (yT ao a ac) (yT bo b bc) ex,yi way] w1 (yR w1 (.tuple #[.string st,yi fl,yi er]))):
  yC 14 #[yi n,.string tx,yi way] w (yR w (.tuple #[.string st,yi fl,yi er])):=by
 replace HF:Hid _:=HF;replace HE:Hid _:=HE;replace HA:Hid _:=HA
 go_enter func14,ntmps14
 have b0:=Below.refl w.heap.size w
 go_wp2_with fail
 refine(HF.out _).mono ?_;rintro zz w1 ⟨rfl,bb2⟩;have b3:=aa b0 bb2;clear b0 bb2 HF
 go_wp2_with fail
 refine(HE.out _ b3).mono ?_;rintro zz w4 ⟨v1x6,v2x7,rfl,r1x8,r2x9,bb5⟩;have b10:=aa b3 bb5;obtain⟨ao,ac,hv⟩:=r1x8.shape;subst hv;obtain⟨bo,bc,hv⟩:=r2x9.shape;subst hv;clear b3 bb5 HE;obtain⟨W13,hW12,q14,al11⟩:=cA w4 (yrL qn (yT ao a ac) (yT bo b bc) ex) 77;replace hW12:Hid _:=hW12;have hl15:w.heap.size≤w4.heap.size:=b10.size;have r16:=r1x8.l al11;have r17:=r2x9.l al11;have b18:=aa b10 al11;clear r1x8 r2x9 b10 al11
 go_upto_region 4 with fail
 rw[hW12.out];clear hW12;obtain⟨c19,c20,c21,c22⟩:=q14.cs4
 go_wp2_with fail
 refine(HA.out _ _ _ _ _ b18 r16 r17).mono ?_;rintro zz w23 ⟨rfl,bb24⟩;have b25:=aa b18 bb24;clear q14 r16 r17 b18 bb24 HA c19 c20 c21 c22
 go_wp2
 go_ret3
 exact⟨rfl,b25⟩
theorem vU (n:Int)(w:World)(h:dK n=0):yC 39 #[yi n] w (yR w (.tuple #[ygV 0 0 0 0 false,yi 6])):=by
 have HL:Hid (yJ 36 #[yi n] (.tuple #[yzV 0 0 0 0 false 0 0 0,yi 6])):=fun w1=>lR n w1 h
 have hsf:=cD;have hsn:=gn;have l0:=ah w (ygL 0 0 0 0 false) 49;have b0:=af w (.cells (ygA 0 0 0 0 false) 49)
 go_enter func39,ntmps39
 go_wp2_with fail
 refine(HL.out _).mono ?_;rintro z w2 ⟨rfl,b2⟩;have l3:=(l0.l b2).l (af w2 (.cells (yzA 0 0 0 0 false 0 0 0) 94));have cR:au ((((((w2.alloc (.cells (yzA 0 0 0 0 false 0 0 0) 94)).setCell ⟨w.heap.size,0,none⟩ (yi 0)).setCell ⟨w.heap.size,1,none⟩ (yi 0)).setCell ⟨w.heap.size,2,none⟩ (yi 0)).setCell ⟨w.heap.size,3,none⟩ (yi 0)).setCell ⟨w.heap.size,4,none⟩ (.bool false)) w.heap.size 49 (ygL 0 0 0 0 false):=(((((l3.set 0 (yi 0)).set 1 (yi 0)).set 2 (yi 0)).set 3 (yi 0)).set 4 (.bool false));have bR:=(((((ag (w2.alloc (.cells (yzA 0 0 0 0 false 0 0 0) 94)) w.heap.size 0 (yi 0)).trans (ag _ w.heap.size 1 (yi 0))).trans (ag _ w.heap.size 2 (yi 0))).trans (ag _ w.heap.size 3 (yi 0))).trans (ag _ w.heap.size 4 (.bool false))).below (aa (aa b0 b2) (af w2 (.cells (yzA 0 0 0 0 false 0 0 0) 94))) (Nat.le_refl _);have hl:=run_loadVar_mid (P:=Tryz.prog) _ w.heap.size 0 49 (ygL 0 0 0 0 false) _ cR.range underlying49 rfl (by kernel_rfl);have HH:Hid (_∧_):=⟨hl,bR⟩;have x0:=l3.c 0 rfl;have f0:=l3.f 0;have x1:=l3.c 1 rfl;have f1:=l3.f 1;have x2:=l3.c 2 rfl;have f2:=l3.f 2;have x3:=l3.c 3 rfl;have f3:=l3.f 3;have x4:=l3.c 4 rfl;have f4:=l3.f 4;have hne:w2.heap.size≠w.heap.size:=Nat.ne_of_gt (l0.l b2).lt;clear hl bR cR l0 l3 b0 b2 HL
 go_wp2
 obtain⟨hl,bR⟩:=HH.out;exact bodyPost_ret (aj results39 rfl rfl hl) rfl ⟨rfl,bR⟩
theorem Ng (n wy fam R D L G cx cy:Int)(gr gx gy:Bool)(x y:ak)(xo yo:Option Addr)(xc yc:Nat)(sg:Bool)(w:World)(hsg:sg=if gx=gy then gx else decide (wy=5))(hx:(cx==3)=false)(hy:(cy==3)=false)
  (HP: ∀w1,yB w w1→yC 70 #[yDV x xo xc,yDV y yo yc] w1 (jN w1 (aG x y))):
  yC 35 #[ykV n wy fam R D L G gr,yOV cx gx x xo xc,yOV cy gy y yo yc] w (dU w (vI (aG x y)) (xr (aG x y) sg) (tF (aG x y)) 0):=by
 replace HP:Hid _:=HP;have HSg:Hid (sg=if gx=gy then gx else decide (wy=5)):=hsg
 clear hsg;have HX:Hid (yJ 68 #[yOV cx gx x xo xc] (.bool (cx==3))):=fun w1=>iz _ _ _ _ _ _ _ w1
 have HY:Hid (yJ 68 #[yOV cy gy y yo yc] (.bool (cy==3))):=fun w1=>iz _ _ _ _ _ _ _ w1
 have HN:Hid (∀to0 tc ng w1,Rd w1 .u32 (.slice to0 (Dg.dg 4294967296 (aG x y).n).length tc) (Dg.dg 4294967296 (aG x y).n)→yC 69 #[.agg #[.bool (aG x y).s,.slice to0 (Dg.dg 4294967296 (aG x y).n).length tc,yi (aG x y).e],.bool ng] w1 (xj w1 (vI (aG x y)) (xr (aG x y) ng) (tF (aG x y)))):=fun to0 tc ng w1 h=>mT (aG x y) ng to0 tc w1 h
 rw[hx] at HX;rw[hy] at HY;have a1:=af w (.cells (ykA n wy fam R D L G gr) 83);have a2:=af (w.alloc (.cells (ykA n wy fam R D L G gr) 83)) (.cells (yOA cx gx x xo xc) 88);have a3:=af ((w.alloc (.cells (ykA n wy fam R D L G gr) 83)).alloc (.cells (yOA cx gx x xo xc) 88)) (.cells (yOA cy gy y yo yc) 88);have a4:=af (((w.alloc (.cells (ykA n wy fam R D L G gr) 83)).alloc (.cells (yOA cx gx x xo xc) 88)).alloc (.cells (yOA cy gy y yo yc) 88)) (.cells (yoA 0 false false yN 0) 88);have d0:=(((ah w (ykL n wy fam R D L G gr) 83).l a2).l a3).l a4;have x0:=((ah (w.alloc (.cells (ykA n wy fam R D L G gr) 83)) (yOL cx gx x xo xc) 88).l a3).l a4;have y0:=(ah ((w.alloc (.cells (ykA n wy fam R D L G gr) 83)).alloc (.cells (yOA cx gx x xo xc) 88)) (yOL cy gy y yo yc) 88).l a4;have o0:=ah (((w.alloc (.cells (ykA n wy fam R D L G gr) 83)).alloc (.cells (yOA cx gx x xo xc) 88)).alloc (.cells (yOA cy gy y yo yc) 88)) (yoL 0 false false yN 0) 88;rw[World.size_alloc] at x0;rw[World.size_alloc,World.size_alloc] at y0;rw[World.size_alloc,World.size_alloc,World.size_alloc] at o0;have b0:=aa (aa (aa a1 a2) a3) a4;clear a1 a2 a3 a4 hx hy;obtain⟨t,ht⟩: ∃t,aG x y=t:=⟨_,rfl⟩;rw[ht] at HP HN⊢;clear ht
 go_enter func35,ntmps35
 go_upto_block 0 with fail
 generalize(((w.alloc (.cells (ykA n wy fam R D L G gr) 83)).alloc (.cells (yOA cx gx x xo xc) 88)).alloc (.cells (yOA cy gy y yo yc) 88)).alloc (.cells (yoA 0 false false yN 0) 88)=W0 at d0 x0 y0 o0 b0⊢;obtain⟨u0,u1,u2,u3,u4⟩:=x0.cs5
 go_wp2_with fail
 refine(HX.out _).mono ?_;rintro z w1 ⟨rfl,b1⟩;have d1:=d0.l b1;have x1:=x0.l b1;have y1:=y0.l b1;have o1:=o0.l b1;have b01:=aa b0 b1;clear d0 x0 y0 o0 b0 b1 u0 u1 u2 u3 u4;obtain⟨u0,u1,u2,u3,u4⟩:=x1.cs5;obtain⟨v0,v1,v2,v3,v4⟩:=y1.cs5
 go_wp2_with fail
 refine(HX.out _).mono ?_;rintro z w2 ⟨rfl,b2⟩;have d2:=d1.l b2;have x2:=x1.l b2;have y2:=y1.l b2;have o2:=o1.l b2;have b02:=aa b01 b2;clear d1 x1 y1 o1 b01 b2 u0 u1 u2 u3 u4 v0 v1 v2 v3 v4;obtain⟨v0,v1,v2,v3,v4⟩:=y2.cs5
 go_wp2_with fail
 refine(HY.out _).mono ?_;rintro z w3 ⟨rfl,b3⟩;have d3:=d2.l b3;have x3:=x2.l b3;have y3:=y2.l b3;have o3:=o2.l b3;have b03:=aa b02 b3;clear d2 x2 y2 o2 b02 b3 v0 v1 v2 v3 v4 HX HY
 go_upto_region 7 with fail
 obtain⟨u0,u1,u2,u3,u4⟩:=x3.cs5;obtain⟨v0,v1,v2,v3,v4⟩:=y3.cs5;have q1:=d3.c 1 rfl;have HNs:Hid (∀to0 tc w1,Rd w1 .u32 (yT to0 t.n tc) (Dg.dg 4294967296 t.n)→yC 69 #[yDV t to0 tc,.bool sg] w1 (xj w1 (vI t) (xr t sg) (tF t))):=fun to0 tc w1 h=>HN.out to0 tc sg w1 h
 obtain⟨c,hcE⟩: ∃c,vI t=c:=⟨_,rfl⟩;obtain⟨g,hgE⟩: ∃c,xr t sg=c:=⟨_,rfl⟩;obtain⟨tt,htE⟩: ∃c,tF t=c:=⟨_,rfl⟩;rw[hcE,hgE,htE] at HNs;have HE:Hid (vI t=c∧xr t sg=g∧tF t=tt):=⟨hcE,hgE,htE⟩;clear hcE hgE htE HN
 by_cases hg:gx=gy
 ·have h1:=HSg.out
  rw[if_pos hg] at h1;subst hg;rw[h1] at HNs;clear HSg h1
  go_wp2_with fail
  refine(HP.out _ b03).mono ?_;rintro z w4 ⟨p4,rfl,o4,b4⟩;obtain⟨po,pc,hv⟩:=o4.rd.shape;subst hv;have r4:=o4.rd;have o5:=o3.l b4;have b04:=aa b03 b4;clear u0 u1 u2 u3 u4 v0 v1 v2 v3 v4 q1 d3 x3 y3 o3 b03 b4 o4 HP
  go_wp2_with fail
  refine(HNs.out _ _ _ r4).mono ?_;rintro z w6 ⟨p6,rfl,r6,b6⟩;obtain⟨ro,rc,hv⟩:=r6.shape;subst hv;have o6:=o5.l b6;have b06:=aa b04 b6;clear o5 b04 b6 r4 HNs;have cR:au (((((w6.setCell ⟨w.heap.size+1+1+1,0,none⟩ (yi c)).setCell ⟨w.heap.size+1+1+1,1,none⟩ (.bool g)).setCell ⟨w.heap.size+1+1+1,2,none⟩ (.bool tt.s)).setCell ⟨w.heap.size+1+1+1,3,none⟩ (yT ro tt.n rc)).setCell ⟨w.heap.size+1+1+1,4,none⟩ (yi tt.e)) (w.heap.size+1+1+1) 88 (yOL c g tt ro rc):=(((((o6.set 0 (yi c)).set 1 (.bool g)).set 2 (.bool tt.s)).set 3 (yT ro tt.n rc)).set 4 (yi tt.e));have bu:=((((ag w6 (w.heap.size+1+1+1) 0 (yi c)).trans (ag _ (w.heap.size+1+1+1) 1 (.bool g))).trans (ag _ (w.heap.size+1+1+1) 2 (.bool tt.s))).trans (ag _ (w.heap.size+1+1+1) 3 (yT ro tt.n rc))).trans (ag _ (w.heap.size+1+1+1) 4 (yi tt.e));have bR:=bu.below b06 (by omega);have rR:=bu.rd r6 (aX r6 o6 (by simp));have hl:=run_loadVar_mid (P:=Tryz.prog) _ (w.heap.size+1+1+1) 0 88 (yOL c g tt ro rc) _ cR.range underlying88 rfl (by kernel_rfl);have HH:Hid (_∧_∧_):=⟨hl,rR,bR⟩;obtain⟨z0,z1,z2,z3,z4⟩:=o6.cs5;have fz0:=o6.f 0;have fz1:=o6.f 1;have fz2:=o6.f 2;have fz3:=o6.f 3;have fz4:=o6.f 4;clear hl bR bu cR rR;clear o6 b06 r6
  go_wp2
  obtain⟨hl,rR,bR⟩:=HH.out;obtain⟨e1,e2,e3⟩:=HE.out;rw[e1,e2,e3];exact bodyPost_ret (aj results35 rfl rfl hl) rfl ⟨_,rfl,rR,bR⟩
 ·have h1:=HSg.out
  rw[if_neg hg] at h1;have hgn:gx= !gy:=by cases gx<;>cases gy<;>simp_all
  subst hgn
  by_cases h5:wy=5
  ·subst h5
   rw[decide_eq_true rfl] at h1;rw[h1] at HNs;clear HSg hg h1
   cases gy
   all_goals
    go_wp2_with fail
    refine(HP.out _ b03).mono ?_;rintro z w4 ⟨p4,rfl,o4,b4⟩;obtain⟨po,pc,hv⟩:=o4.rd.shape;subst hv;have r4:=o4.rd;have o5:=o3.l b4;have b04:=aa b03 b4;clear u0 u1 u2 u3 u4 v0 v1 v2 v3 v4 q1 d3 x3 y3 o3 b03 b4 o4 HP
    go_wp2_with fail
    refine(HNs.out _ _ _ r4).mono ?_;rintro z w6 ⟨p6,rfl,r6,b6⟩;obtain⟨ro,rc,hv⟩:=r6.shape;subst hv;have o6:=o5.l b6;have b06:=aa b04 b6;clear o5 b04 b6 r4 HNs;have cR:au (((((w6.setCell ⟨w.heap.size+1+1+1,0,none⟩ (yi c)).setCell ⟨w.heap.size+1+1+1,1,none⟩ (.bool g)).setCell ⟨w.heap.size+1+1+1,2,none⟩ (.bool tt.s)).setCell ⟨w.heap.size+1+1+1,3,none⟩ (yT ro tt.n rc)).setCell ⟨w.heap.size+1+1+1,4,none⟩ (yi tt.e)) (w.heap.size+1+1+1) 88 (yOL c g tt ro rc):=(((((o6.set 0 (yi c)).set 1 (.bool g)).set 2 (.bool tt.s)).set 3 (yT ro tt.n rc)).set 4 (yi tt.e));have bu:=((((ag w6 (w.heap.size+1+1+1) 0 (yi c)).trans (ag _ (w.heap.size+1+1+1) 1 (.bool g))).trans (ag _ (w.heap.size+1+1+1) 2 (.bool tt.s))).trans (ag _ (w.heap.size+1+1+1) 3 (yT ro tt.n rc))).trans (ag _ (w.heap.size+1+1+1) 4 (yi tt.e));have bR:=bu.below b06 (by omega);have rR:=bu.rd r6 (aX r6 o6 (by simp));have hl:=run_loadVar_mid (P:=Tryz.prog) _ (w.heap.size+1+1+1) 0 88 (yOL c g tt ro rc) _ cR.range underlying88 rfl (by kernel_rfl);have HH:Hid (_∧_∧_):=⟨hl,rR,bR⟩;obtain⟨z0,z1,z2,z3,z4⟩:=o6.cs5;have fz0:=o6.f 0;have fz1:=o6.f 1;have fz2:=o6.f 2;have fz3:=o6.f 3;have fz4:=o6.f 4;clear hl bR bu cR rR;clear o6 b06 r6
    go_wp2
    obtain⟨hl,rR,bR⟩:=HH.out;obtain⟨e1,e2,e3⟩:=HE.out;rw[e1,e2,e3];exact bodyPost_ret (aj results35 rfl rfl hl) rfl ⟨_,rfl,rR,bR⟩
  ·rw[decide_eq_false h5] at h1
   have h5b:(wy==5)=false:=by simpa using h5
   rw[h1] at HNs;clear HSg hg h1 h5
   cases gy
   all_goals
    go_wp2_with fail
    refine(HP.out _ b03).mono ?_;rintro z w4 ⟨p4,rfl,o4,b4⟩;obtain⟨po,pc,hv⟩:=o4.rd.shape;subst hv;have r4:=o4.rd;have o5:=o3.l b4;have b04:=aa b03 b4;clear u0 u1 u2 u3 u4 v0 v1 v2 v3 v4 q1 d3 x3 y3 o3 b03 b4 o4 HP
    go_wp2_with fail
    refine(HNs.out _ _ _ r4).mono ?_;rintro z w6 ⟨p6,rfl,r6,b6⟩;obtain⟨ro,rc,hv⟩:=r6.shape;subst hv;have o6:=o5.l b6;have b06:=aa b04 b6;clear o5 b04 b6 r4 HNs;have cR:au (((((w6.setCell ⟨w.heap.size+1+1+1,0,none⟩ (yi c)).setCell ⟨w.heap.size+1+1+1,1,none⟩ (.bool g)).setCell ⟨w.heap.size+1+1+1,2,none⟩ (.bool tt.s)).setCell ⟨w.heap.size+1+1+1,3,none⟩ (yT ro tt.n rc)).setCell ⟨w.heap.size+1+1+1,4,none⟩ (yi tt.e)) (w.heap.size+1+1+1) 88 (yOL c g tt ro rc):=(((((o6.set 0 (yi c)).set 1 (.bool g)).set 2 (.bool tt.s)).set 3 (yT ro tt.n rc)).set 4 (yi tt.e));have bu:=((((ag w6 (w.heap.size+1+1+1) 0 (yi c)).trans (ag _ (w.heap.size+1+1+1) 1 (.bool g))).trans (ag _ (w.heap.size+1+1+1) 2 (.bool tt.s))).trans (ag _ (w.heap.size+1+1+1) 3 (yT ro tt.n rc))).trans (ag _ (w.heap.size+1+1+1) 4 (yi tt.e));have bR:=bu.below b06 (by omega);have rR:=bu.rd r6 (aX r6 o6 (by simp));have hl:=run_loadVar_mid (P:=Tryz.prog) _ (w.heap.size+1+1+1) 0 88 (yOL c g tt ro rc) _ cR.range underlying88 rfl (by kernel_rfl);have HH:Hid (_∧_∧_):=⟨hl,rR,bR⟩;obtain⟨z0,z1,z2,z3,z4⟩:=o6.cs5;have fz0:=o6.f 0;have fz1:=o6.f 1;have fz2:=o6.f 2;have fz3:=o6.f 3;have fz4:=o6.f 4;clear hl bR bu cR rR;clear o6 b06 r6
    go_wp2
    obtain⟨hl,rR,bR⟩:=HH.out;obtain⟨e1,e2,e3⟩:=HE.out;rw[e1,e2,e3];exact bodyPost_ret (aj results35 rfl rfl hl) rfl ⟨_,rfl,rR,bR⟩
theorem VF (n wy fam R D L G:Int)(gr:Bool)(x:ak)(xo:Option Addr)(xc:Nat)(fl f1 e1:Int)(st:ByteArray)(w:World)
  (HE:yH w 62 #[ykV n wy fam R D L G gr,yvV 1 false yN 0,yi fl] (.tuple #[.string st,yi f1,yi e1])):
  yC 66 #[ykV n wy fam R D L G gr,yOV 1 false x xo xc,yi fl] w (yR w (.tuple #[.string st,yi f1,yi e1])):=by
 replace HE:Hid _:=HE;obtain⟨W4,hW5,q1,q2,b3⟩:=iG w (ykL n wy fam R D L G gr) 83 (yOL 1 false x xo xc) 88;replace hW5:Hid _:=hW5
 go_enter func66,ntmps66
 go_upto_region 1 with fail
 rw[hW5.out];clear hW5;obtain⟨c6,c7,c8,c9,c10,c11,c12,c13⟩:=q1.cs8;have c14:=q2.c 0 rfl;have c15:=q2.c 1 rfl
 go_wp2_with fail
 refine(HE.out _ b3).mono ?_;rintro zz w16 ⟨rfl,bb17⟩;have b18:=aa b3 bb17;clear q1 q2 b3 bb17 HE c6 c7 c8 c9 c10 c11 c12 c13 c14 c15
 go_wp2
 go_ret3
 exact⟨rfl,b18⟩
theorem VG (n wy R D L G:Int)(gr:Bool)(x:ak)(xo:Option Addr)(xc:Nat)(fl f1 e1:Int)(st:ByteArray)(w:World)
  (HE:yH w 62 #[ykV n wy 1 R D L G gr,yvV 1 true yN 0,yi fl] (.tuple #[.string st,yi f1,yi e1])):
  yC 66 #[ykV n wy 1 R D L G gr,yOV 1 true x xo xc,yi fl] w (yR w (.tuple #[.string st,yi f1,yi e1])):=by
 replace HE:Hid _:=HE;obtain⟨W4,hW5,q1,q2,b3⟩:=iG w (ykL n wy 1 R D L G gr) 83 (yOL 1 true x xo xc) 88;replace hW5:Hid _:=hW5
 go_enter func66,ntmps66
 go_upto_region 1 with fail
 rw[hW5.out];clear hW5;obtain⟨c6,c7,c8,c9,c10,c11,c12,c13⟩:=q1.cs8;have c14:=q2.c 0 rfl;have c15:=q2.c 1 rfl
 go_wp2_with fail
 refine(HE.out _ b3).mono ?_;rintro zz w16 ⟨rfl,bb17⟩;have b18:=aa b3 bb17;clear q1 q2 b3 bb17 HE c6 c7 c8 c9 c10 c11 c12 c13 c14 c15
 go_wp2
 go_ret3
 exact⟨rfl,b18⟩
theorem VH (n wy fam R D L G:Int)(gr:Bool)(x:ak)(xo:Option Addr)(xc:Nat)(fl f1 e1:Int)(st:ByteArray)(w:World)(hf:(fam==1)=false)
  (HE:yH w 62 #[ykV n wy fam R D L G gr,yvV 1 false yN 0,yi fl] (.tuple #[.string st,yi f1,yi e1])):
  yC 66 #[ykV n wy fam R D L G gr,yOV 1 true x xo xc,yi fl] w (yR w (.tuple #[.string st,yi f1,yi e1])):=by
 replace HE:Hid _:=HE;obtain⟨W4,hW5,q1,q2,b3⟩:=iG w (ykL n wy fam R D L G gr) 83 (yOL 1 true x xo xc) 88;replace hW5:Hid _:=hW5
 go_enter func66,ntmps66
 go_upto_region 1 with fail
 rw[hW5.out];clear hW5;obtain⟨c6,c7,c8,c9,c10,c11,c12,c13⟩:=q1.cs8;have c14:=q2.c 0 rfl;have c15:=q2.c 1 rfl
 go_wp2_with fail
 refine(HE.out _ b3).mono ?_;rintro zz w16 ⟨rfl,bb17⟩;have b18:=aa b3 bb17;clear q1 q2 b3 bb17 HE c6 c7 c8 c9 c10 c11 c12 c13 c14 c15
 go_wp2
 go_ret3
 exact⟨rfl,b18⟩
theorem Rj (c:Int)(g:Bool)(n wy fam R D L G:Int)(gr:Bool)(x:ak)(xo:Option Addr)(xc:Nat)(fl f1 e1:Int)(st:ByteArray)(w:World)(h2:(c==2)=false)(h1:(c==1)=false)
  (HE:yH w 62 #[ykV n wy fam R D L G gr,yvV c g yN 0,yi fl] (.tuple #[.string st,yi f1,yi e1])):
  yC 66 #[ykV n wy fam R D L G gr,yOV c g x xo xc,yi fl] w (yR w (.tuple #[.string st,yi f1,yi e1])):=by
 replace HE:Hid _:=HE;obtain⟨W4,hW5,q1,q2,b3⟩:=iG w (ykL n wy fam R D L G gr) 83 (yOL c g x xo xc) 88;replace hW5:Hid _:=hW5
 go_enter func66,ntmps66
 go_upto_region 1 with fail
 rw[hW5.out];clear hW5;obtain⟨c6,c7,c8,c9,c10,c11,c12,c13⟩:=q1.cs8;have c14:=q2.c 0 rfl;have c15:=q2.c 1 rfl
 go_wp2_with fail
 refine(HE.out _ b3).mono ?_;rintro zz w16 ⟨rfl,bb17⟩;have b18:=aa b3 bb17;clear q1 q2 b3 bb17 HE c6 c7 c8 c9 c10 c11 c12 c13 c14 c15
 go_wp2
 go_ret3
 exact⟨rfl,b18⟩
theorem Ba (k:Nat)(hk:1≤k∧k≤8)(wy:Int)(ng:Bool)(w:World):yC 196 #[dsk k wy,.bool ng] w (iT w 2 ng (rdN k^dgN k-1) (gsI k)):=by
 have hr:(rdN k=2∨rdN k=16)∧dgN k≤64:=by rcases bO hk with rfl|rfl|rfl|rfl|rfl|rfl|rfl|rfl<;>decide
 have hd:Dg.dg 4294967296 (rdN k)=[rdN k]:=by rcases hr.1 with h|h<;>rw[h]<;>rfl
 have hp:1≤rdN k^dgN k:=Nat.pow_pos (by omega);have hl:(Dg.dg 4294967296 (rdN k^dgN k)).length≤64:=by
  have h4:rdN k^dgN k<2^ (4*dgN k+1):=by
   have:rdN k^dgN k≤16^dgN k:=Nat.pow_le_pow_left (by omega) _;have e:(16:Nat)^dgN k=2^ (4*dgN k):=by rw[Nat.pow_mul]
   rw[Nat.pow_succ];have:=bG (4*dgN k);omega
  exact jq h4 (by omega)
 have hn:(Dg.dg 4294967296 (rdN k^dgN k)).length≠0:=fun h=>by
  have:=(Dg.dg_nil_iff 4294967296 (rdN k^dgN k) (by omega)).1 (List.length_eq_zero_iff.1 h);omega
 refine QM k wy (dK k) (rdN k) (dgN k) (lsI k) (gsI k) (decide (k≤3)) ng (rdN k) (rdN k^dgN k) w ?_ (fun q w1 _ hq=> ?_) (fun vo vc q w1 hv hq=> ?_)
 ·rcases hr.1 with h|h<;>rw[h]<;>rfl
 ·have h1:=aa0 hq
  rw[←hd] at h1;exact Iq _ (rdN k) (dgN k) 1 w1 h1 (by omega) (by omega) (by omega) (by omega)
 ·have:=zL (.slice vo (Dg.dg 4294967296 (rdN k^dgN k)).length vc) (.slice (some ⟨q,0,none⟩) 1 1) (Dg.dg 4294967296 (rdN k^dgN k)) [1] w1 hv (xD hq) (Dg.small_dg _ _ (by omega)) (Dg.small_cons.2 ⟨by omega,Dg.small_nil _ (by omega)⟩) (by omega) (by simp;omega) (by rw[Dg.vl_dg _ _ (by omega),show Dg.vl 4294967296 [1]=1 from rfl];exact hp)
  rwa [Dg.vl_dg _ _ (by omega),show Dg.vl 4294967296 [1]=1 from rfl] at this
end Go.Proofs.YtdhpndnncmagiaaGreatDoor
