/-
  Texts laid together: Ef2, Co25, Cr9, Cv0, Cv1, Cv3, Pa2, Ar8, Pa3, Ra3, Oa0, Cv4, Cv8, Cv11, Cb1.
-/
import Derived.Test.YtddkchlamdhgcaaGreatDoorSu28
import Derived.Test.YtddkchlamdhgcaaGreatDoorSu39
set_option maxRecDepth 100000
set_option maxHeartbeats 3200000
namespace Go.Proofs.YtddkchlamdhgcaaGreatDoor
open _root_.Go.Proofs.Tryz
open Go.RowKit
theorem sU (k:Nat)(hk:1≤k∧k≤8)(w:World):yC 18 #[yi k] w (yR w (.tuple #[yhV (szN k) (exN k) (frN k:Int) (rdN k) (dgN k) (lsI k) (gsI k) (decide (k≤3)) (fmN k:Int),.bool true])):=by
 have h:=qU k hk w
 rcases bO hk with rfl|rfl|rfl|rfl|rfl|rfl|rfl|rfl
 all_goals exact h
theorem Jb n (s:ByteArray)(w:World):yC 54 #[yi n,.string s] w (yR w (.tuple #[yi ((bM n s:Nat):Int),.bool (Gi n s),yi (dF n s)])):=by
 unfold bM Gi
 by_cases h:dF n s=0
 ·rw[if_pos h,if_pos h]
  have hf:dK n≠0:=fun hf=>by
   unfold dF at h;rw[if_pos hf] at h;omega
  obtain⟨h1,h2,h3⟩:=fF hf;have HR:=fun w1=>uM n s w1 h
  have HC:=fun w1=>Gf n.toNat ⟨h1,h2⟩ (aZ n.toNat s) (aR n.toNat s) (aU n.toNat s) w1 (vW ⟨h1,h2⟩ s)
  rw[h];generalize n.toNat=k at*;generalize dh k (aZ k s) (aR k s) (aU k s)=c at*;generalize aZ k s=ng at*;generalize aR k s=e at*;generalize aU k s=f at*
  rcases bO ⟨h1,h2⟩ with rfl|rfl|rfl|rfl|rfl|rfl|rfl|rfl
  all_goals exact abR _ _ _ _ _ _ _ _ _ _ ng e f _ s w HR HC
 ·rw[if_neg h,if_neg h]
  exact Vk n _ h s w (fun w1=>tA n s w1 h)
theorem xu (n:Int)(s:ByteArray)(w:World):yC 19 #[yi n,.string s] w (yR w (yi (dF n s))):=by
 unfold dF
 by_cases hf:dK n=0
 ·rw[if_pos hf]
  exact T3 n s w hf
 ·rw[if_neg hf]
  obtain⟨h1,h2,h3⟩:=fF hf;obtain⟨k,rfl⟩: ∃k:Nat,n=(k:Int):=⟨n.toNat,h3.symm⟩;rw[Int.toNat_natCast] at h1 h2⊢;have HF:=fun w1=>qU k ⟨h1,h2⟩ w1
  rcases bO ⟨h1,h2⟩ with rfl|rfl|rfl|rfl|rfl|rfl|rfl|rfl
  all_goals exact acZ _ _ _ _ _ _ _ _ _ _ s w HF
theorem wratio_any (x:ak)(xo:Option Addr)(xc:Nat)(w:World):
  yC 32 #[yDV x xo xc] w fun z w'=> ∃eo ec,z= .returned (yrV x.s (yT xo x.n xc) (.slice eo 1 ec) x.e)∧Rd w' .u32 (.slice eo 1 ec) [1]∧yB w w':=by
 obtain⟨W,hW,q1,q2,b⟩:=iG w (yDL x xo xc) 76 (yrL false yN yN 0) 84;replace hW:Hid _:=hW
 go_enter func32,ntmps32
 go_upto_region 1 with fail
 rw[hW.out];clear hW;have al:=af W (.cells #[.int .u32 1] 135);have hn:=ah W [.int .u32 1] 135;have hlt:=q2.lt;have q3:=q2.l al;have b3:=aa b al;have hf:=afz (P:=Tryz.prog) q3 b3 (by omega) underlying84 rfl (by kernel_rfl) (.bool x.s) (yT xo x.n xc) (.slice (some ⟨W.heap.size,0,none⟩) 1 1) (yi x.e);have HH:Hid (_∧_∧_):=⟨hf.1,hf.2.2.loc hn (by omega),hf.2.1⟩;obtain⟨c0,c1,c2⟩:=q1.cs3;obtain⟨d0,d1,d2⟩:=(q1.l al).cs3;obtain⟨⟨z0,z1,z2,z3⟩,y0,y1,y2,y3⟩:=afB q3;clear hf q1 q2 q3 b b3 al hn hlt
 go_wp2
 obtain⟨hl,hq,bR⟩:=HH.out;exact bodyPost_ret (br results32 rfl hl) rfl ⟨_,_,rfl,aa0 (hq.c 0 rfl),bR⟩
theorem moved_zt (fm p:Int)(m:Nat)(vo:Option Addr)(vc:Nat)(w:World):
  yC 53 #[yvV 1 true (yT vo m vc) p,yi fm] w (B6 w 1 (fm==1) 0 0 0):=by
 obtain⟨W4,hW5,q1,q2,b3⟩:=iG w (yvL 1 true (yT vo m vc) p) 68 (yvL 0 false yN 0) 68;replace hW5:Hid _:=hW5
 go_enter func53,ntmps53
 go_upto_region 1 with fail
 rw[hW5.out];clear hW5;have c6:=q1.c 0 rfl;have c7:=q1.c 1 rfl;have hf:=afz (P:=Tryz.prog) q2 b3 (by omega) underlying68 rfl (by kernel_rfl) (yi 1) (.bool (fm==1)) yN (yi 0);have HH:Hid (_∧_):=⟨hf.1,hf.2.1⟩;obtain⟨⟨z0,z1,z2,z3⟩,y0,y1,y2,y3⟩:=afB q2;clear hf q1 q2 b3
 go_wp2
 obtain⟨hl,bR⟩:=HH.out;exact bodyPost_ret (aj results53 rfl rfl hl) rfl ⟨_,rfl,aN _ _,bR⟩
theorem moved_zf (fm p:Int)(m:Nat)(vo:Option Addr)(vc:Nat)(w:World):
  yC 53 #[yvV 1 false (yT vo m vc) p,yi fm] w (B6 w 1 false 0 0 0):=by
 obtain⟨W4,hW5,q1,q2,b3⟩:=iG w (yvL 1 false (yT vo m vc) p) 68 (yvL 0 false yN 0) 68;replace hW5:Hid _:=hW5
 go_enter func53,ntmps53
 go_upto_region 1 with fail
 rw[hW5.out];clear hW5;have c6:=q1.c 0 rfl;have c7:=q1.c 1 rfl;have hf:=afz (P:=Tryz.prog) q2 b3 (by omega) underlying68 rfl (by kernel_rfl) (yi 1) (.bool false) yN (yi 0);have HH:Hid (_∧_):=⟨hf.1,hf.2.1⟩;obtain⟨⟨z0,z1,z2,z3⟩,y0,y1,y2,y3⟩:=afB q2;clear hf q1 q2 b3
 go_wp2
 obtain⟨hl,bR⟩:=HH.out;exact bodyPost_ret (aj results53 rfl rfl hl) rfl ⟨_,rfl,aN _ _,bR⟩
theorem moved_same (c p:Int)(g:Bool)(m:Nat)(vo:Option Addr)(vc:Nat)(w:World)(h1:(c==1)=false)(h5: ¬c=5)(rv:Rd w .u32 (yT vo m vc) (Dg.dg 4294967296 m)):
  yC 53 #[yvV c g (yT vo m vc) p,yi 1] w (B6 w c g m p 0):=by
 obtain⟨W4,hW5,q1,q2,b3⟩:=iG w (yvL c g (yT vo m vc) p) 68 (yvL 0 false yN 0) 68;replace hW5:Hid _:=hW5;have r6:=rv.l b3;clear rv
 go_enter func53,ntmps53
 go_upto_region 1 with fail
 rw[hW5.out];clear hW5;obtain⟨c7,c8,c9,c10⟩:=q1.cs4;have hf:=afz (P:=Tryz.prog) q2 b3 (by omega) underlying68 rfl (by kernel_rfl) (yi c) (.bool g) (yT vo m vc) (yi p);have HH:Hid (_∧_∧_):=⟨hf.1,hf.2.2.rd r6 (aX r6 q2 (by simp)),hf.2.1⟩;obtain⟨⟨z0,z1,z2,z3⟩,y0,y1,y2,y3⟩:=afB q2;clear hf q1 q2 r6 b3
 go_wp2
 obtain⟨hl,rRv,bR⟩:=HH.out;exact bodyPost_ret (aj results53 rfl rfl hl) rfl ⟨_,rfl,rRv,bR⟩
theorem moved_5 (nn:Int)(fm p:Int)(g:Bool)(m:Nat)(vo:Option Addr)(vc:Nat)(w:World)(HN:yJ 77 #[yi fm] (yi nn)):
  yC 53 #[yvV 5 g (yT vo m vc) p,yi fm] w (B6 w nn false 0 0 16):=by
 replace HN:Hid _:=HN;obtain⟨W4,hW5,q1,q2,b3⟩:=iG w (yvL 5 g (yT vo m vc) p) 68 (yvL 0 false yN 0) 68;replace hW5:Hid _:=hW5
 go_enter func53,ntmps53
 go_upto_region 1 with fail
 rw[hW5.out];clear hW5;have c6:=q1.c 0 rfl
 go_wp2_with fail
 refine(HN.out _).mono ?_;rintro zz w7 ⟨rfl,bb8⟩;have q9:=q2.l bb8;have b10:=aa b3 bb8;clear q1 q2 b3 bb8 HN c6;have hf:=afz (P:=Tryz.prog) q9 b10 (by omega) underlying68 rfl (by kernel_rfl) (yi nn) (.bool false) yN (yi 0);have HH:Hid (_∧_):=⟨hf.1,hf.2.1⟩;obtain⟨⟨z0,z1,z2,z3⟩,y0,y1,y2,y3⟩:=afB q9;clear hf q9 b10
 go_wp2
 obtain⟨hl,bR⟩:=HH.out;exact bodyPost_ret (aj results53 rfl rfl hl) rfl ⟨_,rfl,aN _ _,bR⟩
theorem moved_no (nn:Int)(c fm p:Int)(g:Bool)(m:Nat)(vo:Option Addr)(vc:Nat)(w:World)(h1:(c==1)=false)(h5: ¬c=5)(hf:(fm==1)=false)(HN:yJ 77 #[yi fm] (yi nn)):
  yC 53 #[yvV c g (yT vo m vc) p,yi fm] w (B6 w nn false 0 0 16):=by
 replace HN:Hid _:=HN;obtain⟨W4,hW5,q1,q2,b3⟩:=iG w (yvL c g (yT vo m vc) p) 68 (yvL 0 false yN 0) 68;replace hW5:Hid _:=hW5
 go_enter func53,ntmps53
 go_upto_region 1 with fail
 rw[hW5.out];clear hW5;have c6:=q1.c 0 rfl
 go_wp2_with fail
 refine(HN.out _).mono ?_;rintro zz w7 ⟨rfl,bb8⟩;have q9:=q2.l bb8;have b10:=aa b3 bb8;clear q1 q2 b3 bb8 HN c6;have hf:=afz (P:=Tryz.prog) q9 b10 (by omega) underlying68 rfl (by kernel_rfl) (yi nn) (.bool false) yN (yi 0);have HH:Hid (_∧_):=⟨hf.1,hf.2.1⟩;obtain⟨⟨z0,z1,z2,z3⟩,y0,y1,y2,y3⟩:=afB q9;clear hf q9 b10
 go_wp2
 obtain⟨hl,bR⟩:=HH.out;exact bodyPost_ret (aj results53 rfl rfl hl) rfl ⟨_,rfl,aN _ _,bR⟩
theorem convert_err (fm c p er:Int)(g:Bool)(m:Nat)(t:ak)(n k wy:Int)(s:ByteArray)(w:World)(hf:(fm==0)=false)(he: ¬er=0)(HF:yJ 51 #[yi k] (yi fm))
  (HQ: ∀w1,yB w w1→yC 30 #[yi n,.string s,yi wy] w1 (CRes w1 c g m p t er)):
  yC 26 #[yi n,.string s,yi k,yi wy] w (yR w (.tuple #[.string ⟨#[]⟩,yi 0,yi er])):=by
 replace HF:Hid _:=HF;replace HQ:Hid _:=HQ
 go_enter func26,ntmps26
 have b0:=Below.refl w.heap.size w
 go_wp2_with fail
 refine(HF.out _).mono ?_;rintro zz w1 ⟨rfl,bb2⟩;have b3:=aa b0 bb2;clear b0 bb2 HF
 go_wp2_with fail
 refine(HQ.out _ b3).mono ?_;rintro zz w4 ⟨v16,v27,rfl,r18,r29,bb5⟩;have b10:=aa b3 bb5;obtain⟨vo,vc,hv⟩:=r18.shape;subst hv;obtain⟨xo,xc,hv⟩:=r29.shape;subst hv;clear b3 bb5 HQ;obtain⟨W13,hW12,q14,q15,al11⟩:=iG w4 (yvL c g (yT vo m vc) p) 68 (yDL t xo xc) 76;replace hW12:Hid _:=hW12;have hl16:w.heap.size≤w4.heap.size:=b10.size;have b17:=aa b10 al11;clear r18 r29 b10 al11 q14 q15
 go_upto_region 4 with fail
 rw[hW12.out];clear hW12
 go_wp2
 go_ret3
 exact⟨by simp,b17⟩
theorem convert_num (fm p f1 e1:Int)(st:ByteArray)(g:Bool)(m:Nat)(t:ak)(n k wy:Int)(s:ByteArray)(w:World)(hf:(fm==0)=false)(HF:yJ 51 #[yi k] (yi fm))
  (HQ: ∀w1,yB w w1→yC 30 #[yi n,.string s,yi wy] w1 (CRes w1 2 g m p t 0))
  (HT: ∀xo xc w1,yC 32 #[yDV t xo xc] w1 fun z w'=> ∃eo ec,z= .returned (yrV t.s (yT xo t.n xc) (.slice eo 1 ec) t.e)∧Rd w' .u32 (.slice eo 1 ec) [1]∧yB w1 w')
  (HA: ∀xo xc eo ec w1,yB w w1→Rd w1 .u32 (yT xo t.n xc) (Dg.dg 4294967296 t.n)→Rd w1 .u32 (.slice eo 1 ec) [1]→yC 52 #[yi k,yrV t.s (yT xo t.n xc) (.slice eo 1 ec) t.e,yi wy] w1 (yR w1 (.tuple #[.string st,yi f1,yi e1]))):
  yC 26 #[yi n,.string s,yi k,yi wy] w (yR w (.tuple #[.string st,yi f1,yi e1])):=by
 replace HF:Hid _:=HF;replace HQ:Hid _:=HQ;replace HT:Hid _:=HT;replace HA:Hid _:=HA
 go_enter func26,ntmps26
 have b0:=Below.refl w.heap.size w
 go_wp2_with fail
 refine(HF.out _).mono ?_;rintro zz w1 ⟨rfl,bb2⟩;have b3:=aa b0 bb2;clear b0 bb2 HF
 go_wp2_with fail
 refine(HQ.out _ b3).mono ?_;rintro zz w4 ⟨v16,v27,rfl,r18,r29,bb5⟩;have b10:=aa b3 bb5;obtain⟨vo,vc,hv⟩:=r18.shape;subst hv;obtain⟨xo,xc,hv⟩:=r29.shape;subst hv;clear b3 bb5 HQ;obtain⟨W13,hW12,q14,q15,al11⟩:=iG w4 (yvL 2 g (yT vo m vc) p) 68 (yDL t xo xc) 76;replace hW12:Hid _:=hW12;have hl16:w.heap.size≤w4.heap.size:=b10.size;have r17:=r29.l al11;have b18:=aa b10 al11;clear r18 r29 b10 al11
 go_upto_region 4 with fail
 rw[hW12.out];clear hW12;have c19:=q14.c 0 rfl;obtain⟨c20,c21,c22⟩:=q15.cs3
 go_wp2_with fail
 refine(HT.out _ _ _).mono ?_;rintro zz w23 ⟨eo,ec,rfl,r125,bb24⟩;have r26:=r17.l bb24;have b27:=aa b18 bb24;clear q14 q15 r17 b18 bb24 HT c19 c20 c21 c22
 go_wp2_with fail
 refine(HA.out _ _ _ _ _ b27 r26 r125).mono ?_;rintro zz w28 ⟨rfl,bb29⟩;have b30:=aa b27 bb29;clear r26 r125 b27 bb29 HA
 go_wp2
 go_ret3
 exact⟨by simp,b30⟩
theorem fromInt_pos (n k wy f1 e1:Int)(N:Nat)(st:ByteArray)(w:World)(hn: ¬n<0)(hN:IntKind.u64.wrap n=(N:Int))
  (HW: ∀w1,yB w w1→yC 67 #[.int .u64 N] w1 fun z w'=> ∃v,z= .returned v∧Rd w' .u32 v (Dg.dg 4294967296 N)∧yB w1 w')
  (HA: ∀ao ac q w1,yB w w1→Rd w1 .u32 (yT ao N ac) (Dg.dg 4294967296 N)→au w1 q 135 [.int .u32 1]→yC 52 #[yi k,yrV false (yT ao N ac) (.slice (some ⟨q,0,none⟩) 1 1) 0,yi wy] w1 (yR w1 (.tuple #[.string st,yi f1,yi e1]))):
  yC 42 #[yi n,yi k,yi wy] w (yR w (.tuple #[.string st,yi f1,yi e1])):=by
 replace HW:Hid _:=HW;replace HA:Hid _:=HA
 go_enter func42,ntmps42
 have b0:=Below.refl w.heap.size w
 go_wp2_with fail
 refine(HW.out _ b0).mono ?_;rintro zz w1 ⟨v13,rfl,r14,bb2⟩;have b5:=aa b0 bb2;obtain⟨ao,ac,hv⟩:=r14.shape;subst hv;clear b0 bb2 HW;have al6:=af w1 (.cells #[.int .u32 1] 135);have q7:=ah w1 [.int .u32 1] 135;have r8:=r14.l al6;have b9:=aa b5 al6
 go_wp2_with fail
 refine(HA.out _ _ _ _ b9 r8 q7).mono ?_;rintro zz w10 ⟨rfl,bb11⟩;have b12:=aa b9 bb11;clear q7 r8 b9 bb11 HA r14 b5 al6
 go_wp2
 go_ret3
 exact⟨by simp,b12⟩
theorem cwhole_pos (pp:Int)(ex un:Bool)(P:Nat)(po:Option Addr)(pc:Nat)(w:World)(h1: ¬(9223372036854775808:Int)< (P:Int))(h2:((P:Int)==9223372036854775808)=false)(h3:IntKind.i64.wrap P=(P:Int))
  (HW: ∀w1,yB w w1→yC 65 #[yT po P pc] w1 fun z w'=>z= .returned (.int .u64 P)∧w'=w1):
  yC 33 #[ypV false (yT po P pc) pp ex false un] w (yR w (.tuple #[yi P,.bool true])):=by
 replace HW:Hid _:=HW;obtain⟨W3,hW4,q1,b2⟩:=cA w (ypL false (yT po P pc) pp ex false un) 80;replace hW4:Hid _:=hW4
 go_enter func33,ntmps33
 go_upto_region 1 with fail
 rw[hW4.out];clear hW4;have c5:=q1.c 1 rfl
 go_wp2_with fail
 refine(HW.out _ b2).mono ?_;rintro zz w6 ⟨rfl,rfl⟩;clear c5 HW;have c8:=q1.c 0 rfl;have c9:=q1.c 4 rfl
 go_wp2
 go_ret2
 exact⟨by simp,b2⟩
def fY (k:Nat)(wy:Int)(t:ak):fz:=cI (rdN k) (dgN k) (lsI k) (gsI k) (decide (k≤3)) t.s t.n 1 t.e wy
theorem vj (k:Nat)(hk:1≤k∧k≤8)(w:World):yC 43 #[yi k] w (yR w (.tuple #[ygV (rdN k) (dgN k) (lsI k) (gsI k) (decide (k≤3)),yi 0])):=by
 rcases bO hk with rfl|rfl|rfl|rfl|rfl|rfl|rfl|rfl
 ·exact SN w
 ·exact SO w
 ·exact SP w
 ·exact SQ w
 ·exact SR w
 ·exact SS w
 ·exact ST w
 ·exact SU w
theorem mp (k:Nat)(hk:1≤k∧k≤8)(w:World):yC 74 #[yi k] w (yR w (.tuple #[ykV k 0 (dK k) (rdN k) (dgN k) (lsI k) (gsI k) (decide (k≤3)),yi 0])):=
 Yr k _ _ _ _ _ _ w (fun w1=>vj k hk w1) (fun w1=>jk k w1)
theorem ir {k:Nat}(hk:1≤k∧k≤8){p:ByteArray}(h:dF k p=0):iZ (opT k p)∧(bM k p≠2→opT k p=⟨false,0,0⟩)∧(bM k p=2→(opT k p).n≠0):=by
 have e:opT k p=ji k (aZ k p) (aR k p) (aU k p):=by
  unfold opT nxT;rw[if_pos h,Int.toNat_natCast]
 have ec:bM k p=dh k (aZ k p) (aR k p) (aU k p):=by
  unfold bM;rw[if_pos h,Int.toNat_natCast]
 rw[e,ec]
 by_cases hc:dh k (aZ k p) (aR k p) (aU k p)=2
 ·obtain⟨s1,s2,s3,s4⟩:=VZ hk p hc
  exact⟨⟨s1,by omega,by omega⟩,fun c=>absurd hc c,fun _=>s4⟩
 ·have:=Fm hk (ng:=aZ k p) (E:=aR k p) (F:=aU k p) hc
  rw[this];exact⟨⟨by show(0:Nat)<2^64;exact Nat.two_pow_pos 64,by show(-16500:Int)≤0;omega,by show 0≤16500;omega⟩,fun _=>rfl,fun c=>absurd c hc⟩
theorem rd_one16 {w:World}{q:Nat}(h:w.cell? ⟨q,0,none⟩=some (yi 1)):Rd w .i64 (.slice (some ⟨q,0,none⟩) 1 1) [1]:=
 ⟨_,1,rfl,Nat.le_refl _,by unfold maxLen;omega,fun _=>⟨q,0,rfl,fun i hi=>by
  obtain rfl:i=0:=by simpa using hi
  exact h⟩⟩
theorem Jo {k:Nat}(hk:1≤k∧k≤8){g:Bool}{xs:List Nat}{p:Int}(sa:Dg.Small 4294967296 xs)(hc:chk xs=0)(h:enE k g xs p=0):
  ¬(p< -20000∨20000<p)∧dA (rdN k) (dgN k) (lsI k) (gsI k) (decide (k≤3)) (bare ⟨g,Dg.vl 4294967296 xs,(ai (rdN k):Int)*p⟩).n (bare ⟨g,Dg.vl 4294967296 xs,(ai (rdN k):Int)*p⟩).e=true∧aS (Dg.dg 4294967296 (bare ⟨g,Dg.vl 4294967296 xs,(ai (rdN k):Int)*p⟩).n) (bare ⟨g,Dg.vl 4294967296 xs,(ai (rdN k):Int)*p⟩).e=0:=by
 obtain⟨-,-,-,-,-,-,lg,-,-,-,-,hg⟩:=eR hk;obtain⟨g1,g2⟩:=Gm hk;have hp: ¬(p< -20000∨20000<p):=fun c=>by
  unfold enE at h;rw[if_pos c] at h;exact absurd h (by decide)
 have hx:xs.length≠0:=fun c=>by
  unfold enE at h;rw[if_neg hp,if_pos c] at h;exact absurd h (by decide)
 have hn:=mY hk (ng:=g) hc hx hp;rw[h] at hn;have hi:inR (rdN k) (dgN k) (lsI k) (gsI k) (decide (k≤3)) (bare ⟨g,Dg.vl 4294967296 xs,(ai (rdN k):Int)*p⟩).n (bare ⟨g,Dg.vl 4294967296 xs,(ai (rdN k):Int)*p⟩).e=true:=by
  by_cases c:inR (rdN k) (dgN k) (lsI k) (gsI k) (decide (k≤3)) (bare ⟨g,Dg.vl 4294967296 xs,(ai (rdN k):Int)*p⟩).n (bare ⟨g,Dg.vl 4294967296 xs,(ai (rdN k):Int)*p⟩).e=true
  ·exact c
  ·rw[if_neg c] at hn
   exact absurd hn (by decide)
 have hvn:Dg.vl 4294967296 xs≠0:=fun h=>by
  obtain⟨n1,-⟩:=aF hc;exact Dg.vl_ne_zero 4294967296 (by omega) xs (by intro e;subst e;simp at hx) n1 h
 have hb:=(gN (t:=⟨g,Dg.vl 4294967296 xs,(ai (rdN k):Int)*p⟩) hvn).1;refine⟨hp, ?_, ?_⟩
 ·rw[nN _ _ lg,←jK _ _ lg]
  exact hi
 ·unfold inR at hi
  rcases of_decide_eq_true hi with c| ⟨c1,c2,-,-⟩
  ·exact absurd c hb
  refine nt ?_ (by omega) (by omega);refine Nat.le_trans (jq (L:=1200) (wZ (Nat.le_refl _)) ?_) (Nat.le_refl _);omega
theorem RK {R D L G:Int}{gr s:Bool}{n:Nat}{e way:Int}(h1:1≤D)(hLG:L≤G)(h0:n≠0)(hh:dA R D L G gr n e=true):(cI R D L G gr s n 1 e way).ex=true∧L≤cP R D L gr n e:=by
 have hs:L≤cP R D L gr n e∧cP R D L gr n e≤G∧(ai R:Int)*cP R D L gr n e≤e+(tz n:Int):=by
  unfold dA at hh
  rcases of_decide_eq_true hh with h|h
  ·exact absurd h h0
  ·exact h
 have hc:dj R D L gr n 1 e=cP R D L gr n e:=by
  unfold dj cP;rw[lU h0]
 refine⟨?_,hs.1⟩;rw[kJ gr s n 1 e way h1 hLG h0 (by omega)];refine decide_eq_true ?_;unfold gF shP;rw[hc];exact(nV s n e _ hs.2.2).1
def mvV (c:Int)(g:Bool)(fm:Int):Int×Bool×Int:=if c=1 then(1,g&&decide (fm=1),0) else if c≠5∧fm=1 then(c,g,0) else(AZ fm,false,16)
theorem moved_any (c:Int)(g:Bool)(fm:Int)(hf:fm=1∨fm=2∨fm=3)(vo:Option Addr)(vc:Nat)(w:World)(rv:Rd w .u32 (yT vo 0 vc) (Dg.dg 4294967296 0)):
  yC 53 #[yvV c g (yT vo 0 vc) 0,yi fm] w (B6 w (mvV c g fm).1 (mvV c g fm).2.1 0 0 (mvV c g fm).2.2):=by
 unfold mvV
 by_cases h1:c=1
 ·subst h1
  rw[if_pos rfl]
  cases g
  ·exact moved_zf fm 0 0 vo vc w
  ·exact moved_zt fm 0 0 vo vc w
 rw[if_neg h1]
 by_cases h5:c=5
 ·subst h5
  rw[if_neg (fun c=>c.1 rfl)]
  exact moved_5 _ fm 0 g 0 vo vc w (fun w1=>A5 fm hf w1)
 by_cases hm:fm=1
 ·subst hm
  rw[if_pos ⟨h5,rfl⟩];exact moved_same c 0 g 0 vo vc w (by simpa using h1) h5 rv
 ·rw[if_neg (fun c=>hm c.2)]
  exact moved_no _ c fm 0 g 0 vo vc w (by simpa using h1) h5 (by simpa using hm) (fun w1=>A5 fm hf w1)
theorem three_round:eE (Dg.dg 4294967296 3) [1] 0 2 64 0 0 1=0∧df (Dg.dg 4294967296 3) [1] 0 2 64 0 0 true false 1=⟨false,3,0,true,false,true⟩:=by
 refine⟨?_, ?_⟩<;>kernel_rfl
theorem cwhole_any (N:Int)(sg ov:Bool)(pp:Int)(ex un:Bool)(P:Nat)(po:Option Addr)(pc:Nat)(w:World)
  (HW:yH w 65 #[yT po P pc] (.int .u64 N)):
  yC 33 #[ypV sg (yT po P pc) pp ex ov un] w (yR w (.tuple #[yi (whR ov sg N),.bool (whB ov sg N)])):=by
 replace HW:Hid _:=HW;obtain⟨W3,hW4,q1,b2⟩:=cA w (ypL sg (yT po P pc) pp ex ov un) 80;replace hW4:Hid _:=hW4
 go_enter func33,ntmps33
 go_upto_region 1 with fail
 rw[hW4.out];clear hW4;have c5:=q1.c 1 rfl
 go_wp2_with fail
 refine(HW.out _ b2).mono ?_;rintro zz w6 ⟨rfl,bb7⟩;have q8:=q1.l bb7;have b9:=aa b2 bb7;clear q1 b2 bb7 HW c5;obtain⟨c0,c1,c2,c3,c4,c5⟩:=q8.cs6;have bf:=b9;obtain⟨M,hM⟩: ∃M,IntKind.u64.wrap (-N)=M:=⟨_,rfl⟩;obtain⟨r1,hr1⟩: ∃r,IntKind.i64.wrap M=r:=⟨_,rfl⟩;obtain⟨r2,hr2⟩: ∃r,IntKind.i64.wrap N=r:=⟨_,rfl⟩
 by_cases h1:(9223372036854775808:Int)<N
 all_goals cases h0:N==9223372036854775808
 all_goals cases sg
 all_goals cases ov
 all_goals
  go_wp2
  go_ret2
  exact⟨by simp[whB,whR,h0,h1,hM,hr1,hr2],bf⟩
theorem toInt_err (c er:Int)(n wy p:Int)(g:Bool)(m:Nat)(t:ak)(s:ByteArray)(w:World)(he: ¬er=0)
  (HQ: ∀w1,yB w w1→yC 30 #[yi n,.string s,yi wy] w1 (CRes w1 c g m p t er)):
  yC 7 #[yi n,.string s,yi wy] w (yR w (.tuple #[yi 0,yi 0,yi er])):=by
 replace HQ:Hid _:=HQ
 go_enter func7,ntmps7
 have b0:=Below.refl w.heap.size w
 go_wp2_with fail
 refine(HQ.out _ b0).mono ?_;rintro zz w1 ⟨v1x3,v2x4,rfl,r1x5,r2x6,bb2⟩;have b7:=aa b0 bb2;obtain⟨vo,vc,hv⟩:=r1x5.shape;subst hv;obtain⟨xo,xc,hv⟩:=r2x6.shape;subst hv;clear b0 bb2 HQ;obtain⟨W10,hW9,q11,q12,al8⟩:=iG w1 (yvL c g (yT vo m vc) p) 68 (yDL t xo xc) 76;replace hW9:Hid _:=hW9;have hl13:w.heap.size≤w1.heap.size:=b7.size;have b14:=aa b7 al8;clear r1x5 r2x6 b7 al8 q11 q12
 go_upto_region 2 with fail
 rw[hW9.out];clear hW9
 go_wp2
 go_ret3
 exact⟨by simp,b14⟩
theorem toInt_oth (c:Int)(n wy p:Int)(g:Bool)(m:Nat)(t:ak)(s:ByteArray)(w:World)(h1:(c != 1)=true)(h2:(c != 2)=true)
  (HQ: ∀w1,yB w w1→yC 30 #[yi n,.string s,yi wy] w1 (CRes w1 c g m p t 0)):
  yC 7 #[yi n,.string s,yi wy] w (yR w (.tuple #[yi 0,yi 16,yi 0])):=by
 replace HQ:Hid _:=HQ
 go_enter func7,ntmps7
 have b0:=Below.refl w.heap.size w
 go_wp2_with fail
 refine(HQ.out _ b0).mono ?_;rintro zz w1 ⟨v1x3,v2x4,rfl,r1x5,r2x6,bb2⟩;have b7:=aa b0 bb2;obtain⟨vo,vc,hv⟩:=r1x5.shape;subst hv;obtain⟨xo,xc,hv⟩:=r2x6.shape;subst hv;clear b0 bb2 HQ;obtain⟨W10,hW9,q11,q12,al8⟩:=iG w1 (yvL c g (yT vo m vc) p) 68 (yDL t xo xc) 76;replace hW9:Hid _:=hW9;have hl13:w.heap.size≤w1.heap.size:=b7.size;have b14:=aa b7 al8;clear r1x5 r2x6 b7 al8 q12
 go_upto_region 2 with fail
 rw[hW9.out];clear hW9;have c15:=q11.c 0 rfl
 go_wp2
 go_ret3
 exact⟨by simp,b14⟩
theorem cback_5 (n j wy fl p e:Int)(s t u:ByteArray)(g:Bool)(m:Nat)(w:World)(he: ¬e=0)
  (HB:yH w 16 #[] (.bool true))
  (HX:yH w 17 #[yi n,yi j] (.tuple #[.bool true,yi 0]))
  (HC:yH w 26 #[yi n,.string s,yi j,yi wy] (.tuple #[.string t,yi fl,yi 0]))
  (HK:yH w 27 #[yi n,.string s] (yi 2))
  (HD: ∀w1,yC 28 #[yi n,.string s] w1 (eP w1 2 g m p 0))
  (HE: ∀vo vc w1,yB w w1→Rd w1 .u32 (yT vo m vc) (Dg.dg 4294967296 m)→yC 29 #[yi n,yvV 2 g (yT vo m vc) p] w1 (yR w1 (.tuple #[.string u,yi e]))):
  yC 5 #[yi n,.string s,yi j,yi wy] w (yR w (.bool true)):=by
 replace HB:Hid _:=HB;replace HX:Hid _:=HX;replace HC:Hid _:=HC;replace HK:Hid _:=HK;replace HD:Hid _:=HD;replace HE:Hid _:=HE
 go_enter func5,ntmps5
 have b0:=Below.refl w.heap.size w
 go_wp2_with fail
 refine(HB.out _ b0).mono ?_;rintro zz w1 ⟨rfl,bb2⟩;have b3:=aa b0 bb2;clear b0 bb2 HB
 go_wp2_with fail
 refine(HX.out _ b3).mono ?_;rintro zz w4 ⟨rfl,bb5⟩;have b6:=aa b3 bb5;clear b3 bb5 HX
 go_wp2_with fail
 refine(HC.out _ b6).mono ?_;rintro zz w7 ⟨rfl,bb8⟩;have b9:=aa b6 bb8;clear b6 bb8 HC
 go_wp2_with fail
 refine(HK.out _ b9).mono ?_;rintro zz w10 ⟨rfl,bb11⟩;have b12:=aa b9 bb11;clear b9 bb11 HK
 go_wp2_with fail
 refine(HD.out _).mono ?_;rintro zz w13 ⟨v1x15,rfl,r1x16,bb14⟩;have b17:=aa b12 bb14;obtain⟨vo,vc,hv⟩:=r1x16.shape;subst hv;clear b12 bb14 HD;obtain⟨W20,hW19,q21,al18⟩:=cA w13 (yvL 2 g (yT vo m vc) p) 68;replace hW19:Hid _:=hW19;have hl22:w.heap.size≤w13.heap.size:=b17.size;have r23:=r1x16.l al18;have b24:=aa b17 al18;clear r1x16 b17 al18
 go_upto_region 8 with fail
 rw[hW19.out];clear hW19;obtain⟨c25,c26,c27,c28⟩:=q21.cs4
 go_wp2_with fail
 refine(HE.out _ _ _ b24 r23).mono ?_;rintro zz w29 ⟨rfl,bb30⟩;have b31:=aa b24 bb30;clear q21 r23 b24 bb30 HE c25 c26 c27 c28
 go_wp2
 go_ret
 exact⟨by simp,b31⟩
theorem cback_6 (n j wy p:Int)(s t u:ByteArray)(g:Bool)(m:Nat)(w:World)
  (HB:yH w 16 #[] (.bool true))
  (HX:yH w 17 #[yi n,yi j] (.tuple #[.bool true,yi 0]))
  (HC:yH w 26 #[yi n,.string s,yi j,yi wy] (.tuple #[.string t,yi 0,yi 0]))
  (HK:yH w 27 #[yi n,.string s] (yi 2))
  (HD: ∀w1,yC 28 #[yi n,.string s] w1 (eP w1 2 g m p 0))
  (HE: ∀vo vc w1,yB w w1→Rd w1 .u32 (yT vo m vc) (Dg.dg 4294967296 m)→yC 29 #[yi n,yvV 2 g (yT vo m vc) p] w1 (yR w1 (.tuple #[.string u,yi 0])))
  (HF:yH w 26 #[yi j,.string t,yi n,yi wy] (.tuple #[.string u,yi 0,yi 0])):
  yC 5 #[yi n,.string s,yi j,yi wy] w (yR w (.bool true)):=by
 replace HB:Hid _:=HB;replace HX:Hid _:=HX;replace HC:Hid _:=HC;replace HK:Hid _:=HK;replace HD:Hid _:=HD;replace HE:Hid _:=HE;replace HF:Hid _:=HF
 go_enter func5,ntmps5
 have b0:=Below.refl w.heap.size w
 go_wp2_with fail
 refine(HB.out _ b0).mono ?_;rintro zz w1 ⟨rfl,bb2⟩;have b3:=aa b0 bb2;clear b0 bb2 HB
 go_wp2_with fail
 refine(HX.out _ b3).mono ?_;rintro zz w4 ⟨rfl,bb5⟩;have b6:=aa b3 bb5;clear b3 bb5 HX
 go_wp2_with fail
 refine(HC.out _ b6).mono ?_;rintro zz w7 ⟨rfl,bb8⟩;have b9:=aa b6 bb8;clear b6 bb8 HC
 go_wp2_with fail
 refine(HK.out _ b9).mono ?_;rintro zz w10 ⟨rfl,bb11⟩;have b12:=aa b9 bb11;clear b9 bb11 HK
 go_wp2_with fail
 refine(HD.out _).mono ?_;rintro zz w13 ⟨v1x15,rfl,r1x16,bb14⟩;have b17:=aa b12 bb14;obtain⟨vo,vc,hv⟩:=r1x16.shape;subst hv;clear b12 bb14 HD;obtain⟨W20,hW19,q21,al18⟩:=cA w13 (yvL 2 g (yT vo m vc) p) 68;replace hW19:Hid _:=hW19;have hl22:w.heap.size≤w13.heap.size:=b17.size;have r23:=r1x16.l al18;have b24:=aa b17 al18;clear r1x16 b17 al18
 go_upto_region 8 with fail
 rw[hW19.out];clear hW19;obtain⟨c25,c26,c27,c28⟩:=q21.cs4
 go_wp2_with fail
 refine(HE.out _ _ _ b24 r23).mono ?_;rintro zz w29 ⟨rfl,bb30⟩;have b31:=aa b24 bb30;clear q21 r23 b24 bb30 HE c25 c26 c27 c28
 go_wp2_with fail
 refine(HF.out _ b31).mono ?_;rintro zz w32 ⟨rfl,bb33⟩;have b34:=aa b31 bb33;clear b31 bb33 HF
 go_wp2
 go_ret
 exact⟨by simp,b34⟩
theorem cthru_7 (n j l wy fa fb fc p e:Int)(s a b c u:ByteArray)(g:Bool)(m:Nat)(w:World)(he: ¬e=0)
  (HB:yH w 16 #[] (.bool true))
  (HX:yH w 17 #[yi n,yi j] (.tuple #[.bool true,yi 0]))
  (HC:yH w 26 #[yi n,.string s,yi l,yi wy] (.tuple #[.string a,yi fa,yi 0]))
  (HE1:yH w 26 #[yi n,.string s,yi j,yi wy] (.tuple #[.string b,yi fb,yi 0]))
  (HF:yH w 26 #[yi j,.string b,yi l,yi wy] (.tuple #[.string c,yi fc,yi 0]))
  (HK:yH w 27 #[yi n,.string s] (yi 2))
  (HD: ∀w1,yC 28 #[yi n,.string s] w1 (eP w1 2 g m p 0))
  (HE: ∀vo vc w1,yB w w1→Rd w1 .u32 (yT vo m vc) (Dg.dg 4294967296 m)→yC 29 #[yi n,yvV 2 g (yT vo m vc) p] w1 (yR w1 (.tuple #[.string u,yi e]))):
  yC 6 #[yi n,.string s,yi j,yi l,yi wy] w (yR w (.bool true)):=by
 replace HB:Hid _:=HB;replace HX:Hid _:=HX;replace HC:Hid _:=HC;replace HE1:Hid _:=HE1;replace HF:Hid _:=HF;replace HK:Hid _:=HK;replace HD:Hid _:=HD;replace HE:Hid _:=HE
 go_enter func6,ntmps6
 have b0:=Below.refl w.heap.size w
 go_wp2_with fail
 refine(HB.out _ b0).mono ?_;rintro zz w1 ⟨rfl,bb2⟩;have b3:=aa b0 bb2;clear b0 bb2 HB
 go_wp2_with fail
 refine(HX.out _ b3).mono ?_;rintro zz w4 ⟨rfl,bb5⟩;have b6:=aa b3 bb5;clear b3 bb5 HX
 go_wp2_with fail
 refine(HC.out _ b6).mono ?_;rintro zz w7 ⟨rfl,bb8⟩;have b9:=aa b6 bb8;clear b6 bb8 HC
 go_wp2_with fail
 refine(HE1.out _ b9).mono ?_;rintro zz w10 ⟨rfl,bb11⟩;have b12:=aa b9 bb11;clear b9 bb11 HE1
 go_wp2_with fail
 refine(HF.out _ b12).mono ?_;rintro zz w13 ⟨rfl,bb14⟩;have b15:=aa b12 bb14;clear b12 bb14 HF
 go_wp2_with fail
 refine(HK.out _ b15).mono ?_;rintro zz w16 ⟨rfl,bb17⟩;have b18:=aa b15 bb17;clear b15 bb17 HK
 go_wp2_with fail
 refine(HD.out _).mono ?_;rintro zz w19 ⟨v1x21,rfl,r1x22,bb20⟩;have b23:=aa b18 bb20;obtain⟨vo,vc,hv⟩:=r1x22.shape;subst hv;clear b18 bb20 HD;obtain⟨W26,hW25,q27,al24⟩:=cA w19 (yvL 2 g (yT vo m vc) p) 68;replace hW25:Hid _:=hW25;have hl28:w.heap.size≤w19.heap.size:=b23.size;have r29:=r1x22.l al24;have b30:=aa b23 al24;clear r1x22 b23 al24
 go_upto_region 10 with fail
 rw[hW25.out];clear hW25;obtain⟨c31,c32,c33,c34⟩:=q27.cs4
 go_wp2_with fail
 refine(HE.out _ _ _ b30 r29).mono ?_;rintro zz w35 ⟨rfl,bb36⟩;have b37:=aa b30 bb36;clear q27 r29 b30 bb36 HE c31 c32 c33 c34
 go_wp2
 go_ret
 exact⟨by simp,b37⟩
theorem cthru_8 (n j l wy fa fb p:Int)(s a b u:ByteArray)(g:Bool)(m:Nat)(w:World)
  (HB:yH w 16 #[] (.bool true))
  (HX:yH w 17 #[yi n,yi j] (.tuple #[.bool true,yi 0]))
  (HC:yH w 26 #[yi n,.string s,yi l,yi wy] (.tuple #[.string a,yi fa,yi 0]))
  (HE1:yH w 26 #[yi n,.string s,yi j,yi wy] (.tuple #[.string b,yi fb,yi 0]))
  (HF:yH w 26 #[yi j,.string b,yi l,yi wy] (.tuple #[.string a,yi fa,yi 0]))
  (HK:yH w 27 #[yi n,.string s] (yi 2))
  (HD: ∀w1,yC 28 #[yi n,.string s] w1 (eP w1 2 g m p 0))
  (HE: ∀vo vc w1,yB w w1→Rd w1 .u32 (yT vo m vc) (Dg.dg 4294967296 m)→yC 29 #[yi n,yvV 2 g (yT vo m vc) p] w1 (yR w1 (.tuple #[.string u,yi 0]))):
  yC 6 #[yi n,.string s,yi j,yi l,yi wy] w (yR w (.bool true)):=by
 replace HB:Hid _:=HB;replace HX:Hid _:=HX;replace HC:Hid _:=HC;replace HE1:Hid _:=HE1;replace HF:Hid _:=HF;replace HK:Hid _:=HK;replace HD:Hid _:=HD;replace HE:Hid _:=HE
 go_enter func6,ntmps6
 have b0:=Below.refl w.heap.size w
 go_wp2_with fail
 refine(HB.out _ b0).mono ?_;rintro zz w1 ⟨rfl,bb2⟩;have b3:=aa b0 bb2;clear b0 bb2 HB
 go_wp2_with fail
 refine(HX.out _ b3).mono ?_;rintro zz w4 ⟨rfl,bb5⟩;have b6:=aa b3 bb5;clear b3 bb5 HX
 go_wp2_with fail
 refine(HC.out _ b6).mono ?_;rintro zz w7 ⟨rfl,bb8⟩;have b9:=aa b6 bb8;clear b6 bb8 HC
 go_wp2_with fail
 refine(HE1.out _ b9).mono ?_;rintro zz w10 ⟨rfl,bb11⟩;have b12:=aa b9 bb11;clear b9 bb11 HE1
 go_wp2_with fail
 refine(HF.out _ b12).mono ?_;rintro zz w13 ⟨rfl,bb14⟩;have b15:=aa b12 bb14;clear b12 bb14 HF
 go_wp2_with fail
 refine(HK.out _ b15).mono ?_;rintro zz w16 ⟨rfl,bb17⟩;have b18:=aa b15 bb17;clear b15 bb17 HK
 go_wp2_with fail
 refine(HD.out _).mono ?_;rintro zz w19 ⟨v1x21,rfl,r1x22,bb20⟩;have b23:=aa b18 bb20;obtain⟨vo,vc,hv⟩:=r1x22.shape;subst hv;clear b18 bb20 HD;obtain⟨W26,hW25,q27,al24⟩:=cA w19 (yvL 2 g (yT vo m vc) p) 68;replace hW25:Hid _:=hW25;have hl28:w.heap.size≤w19.heap.size:=b23.size;have r29:=r1x22.l al24;have b30:=aa b23 al24;clear r1x22 b23 al24
 go_upto_region 10 with fail
 rw[hW25.out];clear hW25;obtain⟨c31,c32,c33,c34⟩:=q27.cs4
 go_wp2_with fail
 refine(HE.out _ _ _ b30 r29).mono ?_;rintro zz w35 ⟨rfl,bb36⟩;have b37:=aa b30 bb36;clear q27 r29 b30 bb36 HE c31 c32 c33 c34
 go_wp2
 go_ret
 exact⟨by simp,b37⟩
end Go.Proofs.YtddkchlamdhgcaaGreatDoor
