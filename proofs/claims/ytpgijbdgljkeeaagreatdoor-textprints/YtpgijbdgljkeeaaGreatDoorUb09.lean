/-
  Texts laid together: Ty5, Oa3, Ty6, DyCs.
-/
import Derived.Test.YtpgijbdgljkeeaaGreatDoorTie
import Derived.Test.YtpgijbdgljkeeaaGreatDoorCards
import Derived.Test.YtpgijbdgljkeeaaGreatDoorUb07
import Derived.Test.YtpgijbdgljkeeaaGreatDoorUb08
set_option maxRecDepth 100000
set_option maxHeartbeats 3200000
namespace Go.Proofs.YtpgijbdgljkeeaaGreatDoor
open Go.RowKit
def nuP (S:ByteArray):ByteArray:=if 1<S.size then S.extract 0 1++(⟨#[46]⟩++S.extract 1 S.size) else S.extract 0 1
def nuG (g:Bool)(S:ByteArray):ByteArray:=if g=true then(⟨#[45]⟩:ByteArray)++nuP S else nuP S
def nuS (g:Bool)(S ia:ByteArray):ByteArray:=nuG g S++⟨#[101]⟩++ia
theorem intText_neg (n a:Int)(d:Nat)(S:ByteArray)(w:World)(hS:S.size≤100)(hn:n<0)(ha:IntKind.i64.wrap (-n)=a)
  (HF: ∀w1,yB w w1→yC 77 #[yi a] w1 (cG w1 d))
  (HS: ∀vo vc w1,yB w w1→Rd w1 .i64 (yS vo d vc) (Dg.dg 65536 d)→yC 109 #[yS vo d vc] w1 (yR w1 (.string S))):
  yC 110 #[yi n] w (yR w (.string ((⟨#[45]⟩:ByteArray)++S))):=by
 replace HF:Hid _:=HF;replace HS:Hid _:=HS
 go_enter Tryz.func110,Tryz.ntmps110
 have b0:=Below.refl w.heap.size w
 go_wp2_with fail
 refine(HF.out _ b0).mono ?_;rintro zz w1 ⟨v1x3,rfl,r1x4,bb2⟩;have b5:=aa b0 bb2;obtain⟨vo,vc,hv⟩:=r1x4.shape;subst hv;clear b0 bb2 HF
 go_wp2_with fail
 refine(HS.out _ _ _ b5 r1x4).mono ?_;rintro zz w6 ⟨rfl,bb7⟩;have b8:=aa b5 bb7;clear r1x4 b5 bb7 HS
 go_wp2
 go_ret
 exact⟨by first|rfl|simp,b8⟩
theorem intText_pos (n:Int)(d:Nat)(S:ByteArray)(w:World)(hn: ¬n<0)
  (HF: ∀w1,yB w w1→yC 77 #[yi n] w1 (cG w1 d))
  (HS: ∀vo vc w1,yB w w1→Rd w1 .i64 (yS vo d vc) (Dg.dg 65536 d)→yC 109 #[yS vo d vc] w1 (yR w1 (.string S))):
  yC 110 #[yi n] w (yR w (.string (S))):=by
 replace HF:Hid _:=HF;replace HS:Hid _:=HS
 go_enter Tryz.func110,Tryz.ntmps110
 have b0:=Below.refl w.heap.size w
 go_wp2_with fail
 refine(HF.out _ b0).mono ?_;rintro zz w1 ⟨v1x3,rfl,r1x4,bb2⟩;have b5:=aa b0 bb2;obtain⟨vo,vc,hv⟩:=r1x4.shape;subst hv;clear b0 bb2 HF
 go_wp2_with fail
 refine(HS.out _ _ _ b5 r1x4).mono ?_;rintro zz w6 ⟨rfl,bb7⟩;have b8:=aa b5 bb7;clear r1x4 b5 bb7 HS
 go_wp2
 go_ret
 exact⟨by first|rfl|simp,b8⟩
theorem numeralOf_gn (p:Int)(S ia:ByteArray)(w:World)(h0:1≤S.size)(h1:S.size≤100)(hia:ia.size≤100)(hg:1<S.size)
  (HI:yH w 110 #[yi p] (.string ia)):
  yC 57 #[.bool true,.string S,yi p] w (yR w (.string (nuS true S ia))):=by
 replace HI:Hid _:=HI
 go_enter Tryz.func57,Tryz.ntmps57
 have b0:=Below.refl w.heap.size w
 go_wp2_with fail
 refine(HI.out _ b0).mono ?_;rintro zz w1 ⟨rfl,bb2⟩;have b3:=aa b0 bb2;clear b0 bb2 HI
 go_wp2
 go_ret
 refine⟨?_,b3⟩;unfold nuS nuG nuP;simp only[if_pos hg,if_true]
 try simp
theorem numeralOf_gp (p:Int)(S ia:ByteArray)(w:World)(h0:1≤S.size)(h1:S.size≤100)(hia:ia.size≤100)(hg:1<S.size)
  (HI:yH w 110 #[yi p] (.string ia)):
  yC 57 #[.bool false,.string S,yi p] w (yR w (.string (nuS false S ia))):=by
 replace HI:Hid _:=HI
 go_enter Tryz.func57,Tryz.ntmps57
 have b0:=Below.refl w.heap.size w
 go_wp2_with fail
 refine(HI.out _ b0).mono ?_;rintro zz w1 ⟨rfl,bb2⟩;have b3:=aa b0 bb2;clear b0 bb2 HI
 go_wp2
 go_ret
 refine⟨?_,b3⟩;unfold nuS nuG nuP;simp only[if_pos hg,if_neg Bool.false_ne_true]
 try simp
theorem numeralOf_ln (p:Int)(S ia:ByteArray)(w:World)(h0:1≤S.size)(h1:S.size≤100)(hia:ia.size≤100)(hg: ¬1<S.size)
  (HI:yH w 110 #[yi p] (.string ia)):
  yC 57 #[.bool true,.string S,yi p] w (yR w (.string (nuS true S ia))):=by
 replace HI:Hid _:=HI
 go_enter Tryz.func57,Tryz.ntmps57
 have b0:=Below.refl w.heap.size w
 go_wp2_with fail
 refine(HI.out _ b0).mono ?_;rintro zz w1 ⟨rfl,bb2⟩;have b3:=aa b0 bb2;clear b0 bb2 HI
 go_wp2
 go_ret
 refine⟨?_,b3⟩;unfold nuS nuG nuP;simp only[if_neg hg,if_true]
 try simp
theorem numeralOf_lp (p:Int)(S ia:ByteArray)(w:World)(h0:1≤S.size)(h1:S.size≤100)(hia:ia.size≤100)(hg: ¬1<S.size)
  (HI:yH w 110 #[yi p] (.string ia)):
  yC 57 #[.bool false,.string S,yi p] w (yR w (.string (nuS false S ia))):=by
 replace HI:Hid _:=HI
 go_enter Tryz.func57,Tryz.ntmps57
 have b0:=Below.refl w.heap.size w
 go_wp2_with fail
 refine(HI.out _ b0).mono ?_;rintro zz w1 ⟨rfl,bb2⟩;have b3:=aa b0 bb2;clear b0 bb2 HI
 go_wp2
 go_ret
 refine⟨?_,b3⟩;unfold nuS nuG nuP;simp only[if_neg hg,if_neg Bool.false_ne_true]
 try simp
theorem refWord_1f (x:ak)(xo:Option Addr)(xc:Nat)(w:World):
  yC 55 #[yEV 1 false x xo xc] w (yR w (.string ⟨#[48]⟩)):=by
 obtain⟨W3,hW4,q1,b2⟩:=cA w (yEL 1 false x xo xc) 49;replace hW4:Hid _:=hW4
 go_enter Tryz.func55,Tryz.ntmps55
 go_upto_region 1 with fail
 rw[hW4.out];clear hW4;have c5:=q1.c 0 rfl;have c6:=q1.c 1 rfl
 go_wp2
 go_ret
 exact⟨by rfl,b2⟩
theorem refWord_1t (x:ak)(xo:Option Addr)(xc:Nat)(w:World):
  yC 55 #[yEV 1 true x xo xc] w (yR w (.string ⟨#[45,48]⟩)):=by
 obtain⟨W3,hW4,q1,b2⟩:=cA w (yEL 1 true x xo xc) 49;replace hW4:Hid _:=hW4
 go_enter Tryz.func55,Tryz.ntmps55
 go_upto_region 1 with fail
 rw[hW4.out];clear hW4;have c5:=q1.c 0 rfl;have c6:=q1.c 1 rfl
 go_wp2
 go_ret
 exact⟨by rfl,b2⟩
theorem refWord_3f (x:ak)(xo:Option Addr)(xc:Nat)(w:World):
  yC 55 #[yEV 3 false x xo xc] w (yR w (.string ⟨#[105,110,102]⟩)):=by
 obtain⟨W3,hW4,q1,b2⟩:=cA w (yEL 3 false x xo xc) 49;replace hW4:Hid _:=hW4
 go_enter Tryz.func55,Tryz.ntmps55
 go_upto_region 1 with fail
 rw[hW4.out];clear hW4;have c5:=q1.c 0 rfl;have c6:=q1.c 1 rfl
 go_wp2
 go_ret
 exact⟨by rfl,b2⟩
theorem refWord_3t (x:ak)(xo:Option Addr)(xc:Nat)(w:World):
  yC 55 #[yEV 3 true x xo xc] w (yR w (.string ⟨#[45,105,110,102]⟩)):=by
 obtain⟨W3,hW4,q1,b2⟩:=cA w (yEL 3 true x xo xc) 49;replace hW4:Hid _:=hW4
 go_enter Tryz.func55,Tryz.ntmps55
 go_upto_region 1 with fail
 rw[hW4.out];clear hW4;have c5:=q1.c 0 rfl;have c6:=q1.c 1 rfl
 go_wp2
 go_ret
 exact⟨by rfl,b2⟩
theorem refWord_4f (x:ak)(xo:Option Addr)(xc:Nat)(w:World):
  yC 55 #[yEV 4 false x xo xc] w (yR w (.string ⟨#[110,111,110,101]⟩)):=by
 obtain⟨W3,hW4,q1,b2⟩:=cA w (yEL 4 false x xo xc) 49;replace hW4:Hid _:=hW4
 go_enter Tryz.func55,Tryz.ntmps55
 go_upto_region 1 with fail
 rw[hW4.out];clear hW4;have c5:=q1.c 0 rfl;have c6:=q1.c 1 rfl
 go_wp2
 go_ret
 exact⟨by rfl,b2⟩
theorem refWord_5f (x:ak)(xo:Option Addr)(xc:Nat)(w:World):
  yC 55 #[yEV 5 false x xo xc] w (yR w (.string ⟨#[114,101,115,101,114,118,101,100]⟩)):=by
 obtain⟨W3,hW4,q1,b2⟩:=cA w (yEL 5 false x xo xc) 49;replace hW4:Hid _:=hW4
 go_enter Tryz.func55,Tryz.ntmps55
 go_upto_region 1 with fail
 rw[hW4.out];clear hW4;have c5:=q1.c 0 rfl;have c6:=q1.c 1 rfl
 go_wp2
 go_ret
 exact⟨by rfl,b2⟩
theorem refWord_2 (g:Bool)(x:ak)(xo:Option Addr)(xc:Nat)(w:World):
  yC 55 #[yEV 2 g x xo xc] w (yR w (.string ⟨#[]⟩)):=by
 obtain⟨W3,hW4,q1,b2⟩:=cA w (yEL 2 g x xo xc) 49;replace hW4:Hid _:=hW4
 go_enter Tryz.func55,Tryz.ntmps55
 go_upto_region 1 with fail
 rw[hW4.out];clear hW4;have c5:=q1.c 0 rfl
 go_wp2
 go_ret
 exact⟨by rfl,b2⟩
theorem printOf_word (wd:ByteArray)(c k:Int)(g:Bool)(x:ak)(xo:Option Addr)(xc:Nat)(w:World)(rx:Rd w .i64 (yS xo x.n xc) (Dg.dg 65536 x.n))(hw:(wd.toList==([]:List UInt8))=false)
  (HW: ∀xo xc w1,yC 55 #[yEV c g x xo xc] w1 (yR w1 (.string wd))):
  yC 22 #[yEV c g x xo xc,yi k] w (yR w (.string wd)):=by
 replace HW:Hid _:=HW;obtain⟨W3,hW4,q1,b2⟩:=cA w (yEL c g x xo xc) 49;replace hW4:Hid _:=hW4;have r5:=rx.l b2;clear rx
 go_enter Tryz.func22,Tryz.ntmps22
 go_upto_region 1 with fail
 rw[hW4.out];clear hW4;obtain⟨c6,c7,c8,c9,c10⟩:=q1.cs5
 go_wp2_with fail
 refine(HW.out _ _ _).mono ?_;rintro zz w11 ⟨rfl,bb12⟩;have b13:=aa b2 bb12;clear q1 r5 b2 bb12 HW c6 c7 c8 c9 c10
 go_wp2
 go_ret
 exact⟨rfl,b13⟩
theorem printOf_num (S R:ByteArray)(p:Int)(c k:Int)(g:Bool)(x:ak)(xo:Option Addr)(xc:Nat)(w:World)(rx:Rd w .i64 (yS xo x.n xc) (Dg.dg 65536 x.n))
  (HW: ∀xo xc w1,yC 55 #[yEV c g x xo xc] w1 (yR w1 (.string ⟨#[]⟩)))
  (HD: ∀xo xc w1,yB w w1→Rd w1 .i64 (yS xo x.n xc) (Dg.dg 65536 x.n)→yC 56 #[yMV x xo xc,yi k] w1 (yR w1 (.tuple #[.string S,yi p])))
  (HN:yH w 57 #[.bool g,.string S,yi p] (.string R)):
  yC 22 #[yEV c g x xo xc,yi k] w (yR w (.string R)):=by
 replace HW:Hid _:=HW;replace HD:Hid _:=HD;replace HN:Hid _:=HN;obtain⟨W3,hW4,q1,b2⟩:=cA w (yEL c g x xo xc) 49;replace hW4:Hid _:=hW4;have r5:=rx.l b2;clear rx
 go_enter Tryz.func22,Tryz.ntmps22
 go_upto_region 1 with fail
 rw[hW4.out];clear hW4;obtain⟨c6,c7,c8,c9,c10⟩:=q1.cs5
 go_wp2_with fail
 refine(HW.out _ _ _).mono ?_;rintro zz w11 ⟨rfl,bb12⟩;have q13:=q1.l bb12;have r14:=r5.l bb12;have b15:=aa b2 bb12;clear q1 r5 b2 bb12 HW c6 c7 c8 c9 c10;have c16:=q13.c 2 rfl;have c17:=q13.c 3 rfl;have c18:=q13.c 4 rfl
 go_wp2_with fail
 refine(HD.out _ _ _ b15 r14).mono ?_;rintro zz w19 ⟨rfl,bb20⟩;have q21:=q13.l bb20;have b22:=aa b15 bb20;clear q13 r14 b15 bb20 HD c16 c17 c18;have c23:=q21.c 1 rfl
 go_wp2_with fail
 refine(HN.out _ b22).mono ?_;rintro zz w24 ⟨rfl,bb25⟩;have b26:=aa b22 bb25;clear q21 b22 bb25 HN c23
 go_wp2
 go_ret
 exact⟨rfl,b26⟩
theorem prints_bad (r:Int)(n k:Int)(s:ByteArray)(w:World)(hr:(r==0)=false)
  (HP:yH w 19 #[yi n,.string s,yi k] (.tuple #[.string ⟨#[]⟩,yi r]))
  (HO:yJ 20 #[yi n,.string s] (yi r))
  (HB:yH w 11 #[] (.bool true)):
  yC 5 #[yi n,.string s,yi k] w (yR w (.bool true)):=by
 replace HP:Hid _:=HP;replace HO:Hid _:=HO;replace HB:Hid _:=HB
 go_enter Tryz.func5,Tryz.ntmps5
 have b0:=Below.refl w.heap.size w
 go_wp2_with fail
 refine(HP.out _ b0).mono ?_;rintro zz w1 ⟨rfl,bb2⟩;have b3:=aa b0 bb2;clear b0 bb2 HP
 go_wp2_with fail
 refine(HO.out _).mono ?_;rintro zz w4 ⟨rfl,bb5⟩;have b6:=aa b3 bb5;clear b3 bb5 HO
 go_wp2_with fail
 refine(HB.out _ b6).mono ?_;rintro zz w7 ⟨rfl,bb8⟩;have b9:=aa b6 bb8;clear b6 bb8 HB
 go_wp2
 go_ret
 exact⟨by first|rfl|simp,b9⟩
theorem prints_low (n k:Int)(s:ByteArray)(w:World)(h1:k<1)
  (HP:yH w 19 #[yi n,.string s,yi k] (.tuple #[.string ⟨#[]⟩,yi 3]))
  (HO:yJ 20 #[yi n,.string s] (yi 0))
  (HB:yH w 11 #[] (.bool true)):
  yC 5 #[yi n,.string s,yi k] w (yR w (.bool true)):=by
 replace HP:Hid _:=HP;replace HO:Hid _:=HO;replace HB:Hid _:=HB
 go_enter Tryz.func5,Tryz.ntmps5
 have b0:=Below.refl w.heap.size w
 go_wp2_with fail
 refine(HP.out _ b0).mono ?_;rintro zz w1 ⟨rfl,bb2⟩;have b3:=aa b0 bb2;clear b0 bb2 HP
 go_wp2_with fail
 refine(HO.out _).mono ?_;rintro zz w4 ⟨rfl,bb5⟩;have b6:=aa b3 bb5;clear b3 bb5 HO
 go_wp2_with fail
 refine(HB.out _ b6).mono ?_;rintro zz w7 ⟨rfl,bb8⟩;have b9:=aa b6 bb8;clear b6 bb8 HB
 go_wp2
 go_ret
 exact⟨by first|rfl|simp,b9⟩
theorem prints_high (n k:Int)(s:ByteArray)(w:World)(h1: ¬k<1)(h2:60<k)
  (HP:yH w 19 #[yi n,.string s,yi k] (.tuple #[.string ⟨#[]⟩,yi 3]))
  (HO:yJ 20 #[yi n,.string s] (yi 0))
  (HB:yH w 11 #[] (.bool true)):
  yC 5 #[yi n,.string s,yi k] w (yR w (.bool true)):=by
 replace HP:Hid _:=HP;replace HO:Hid _:=HO;replace HB:Hid _:=HB
 go_enter Tryz.func5,Tryz.ntmps5
 have b0:=Below.refl w.heap.size w
 go_wp2_with fail
 refine(HP.out _ b0).mono ?_;rintro zz w1 ⟨rfl,bb2⟩;have b3:=aa b0 bb2;clear b0 bb2 HP
 go_wp2_with fail
 refine(HO.out _).mono ?_;rintro zz w4 ⟨rfl,bb5⟩;have b6:=aa b3 bb5;clear b3 bb5 HO
 go_wp2_with fail
 refine(HB.out _ b6).mono ?_;rintro zz w7 ⟨rfl,bb8⟩;have b9:=aa b6 bb8;clear b6 bb8 HB
 go_wp2
 go_ret
 exact⟨by first|rfl|simp,b9⟩
theorem prints_ok (cx:Int)(gx:Bool)(x:ak)(R:ByteArray)(n k:Int)(s:ByteArray)(w:World)(h1: ¬k<1)(h2: ¬60<k)
  (HP:yH w 19 #[yi n,.string s,yi k] (.tuple #[.string R,yi 0]))
  (HO:yJ 20 #[yi n,.string s] (yi 0))
  (HD: ∀w1,yB w w1→yC 21 #[yi n,.string s] w1 fun z w'=> ∃xo xc cg,z= .returned (.tuple #[yEV cx gx x xo xc,.bool cg])∧Rd w' .i64 (yS xo x.n xc) (Dg.dg 65536 x.n)∧yB w1 w')
  (HQ: ∀xo xc w1,yB w w1→Rd w1 .i64 (yS xo x.n xc) (Dg.dg 65536 x.n)→yC 22 #[yEV cx gx x xo xc,yi k] w1 (yR w1 (.string R)))
  (HB:yH w 11 #[] (.bool true)):
  yC 5 #[yi n,.string s,yi k] w (yR w (.bool true)):=by
 replace HP:Hid _:=HP;replace HO:Hid _:=HO;replace HD:Hid _:=HD;replace HQ:Hid _:=HQ;replace HB:Hid _:=HB
 go_enter Tryz.func5,Tryz.ntmps5
 have b0:=Below.refl w.heap.size w
 go_wp2_with fail
 refine(HP.out _ b0).mono ?_;rintro zz w1 ⟨rfl,bb2⟩;have b3:=aa b0 bb2;clear b0 bb2 HP
 go_wp2_with fail
 refine(HO.out _).mono ?_;rintro zz w4 ⟨rfl,bb5⟩;have b6:=aa b3 bb5;clear b3 bb5 HO
 go_wp2_with fail
 refine(HD.out _ b6).mono ?_;rintro zz w7 ⟨xo,xc,cg,rfl,r1x9,bb8⟩;have b10:=aa b6 bb8;clear b6 bb8 HD;obtain⟨W13,hW12,q14,al11⟩:=cA w7 (yEL cx gx x xo xc) 49;replace hW12:Hid _:=hW12;have hl15:w.heap.size≤w7.heap.size:=b10.size;have r16:=r1x9.l al11;have b17:=aa b10 al11;clear r1x9 b10 al11
 go_upto_region 7 with fail
 rw[hW12.out];clear hW12;obtain⟨c18,c19,c20,c21,c22⟩:=q14.cs5
 go_wp2_with fail
 refine(HQ.out _ _ _ b17 r16).mono ?_;rintro zz w23 ⟨rfl,bb24⟩;have b25:=aa b17 bb24;clear q14 r16 b17 bb24 HQ c18 c19 c20 c21 c22
 go_wp2_with fail
 refine(HB.out _ b25).mono ?_;rintro zz w26 ⟨rfl,bb27⟩;have b28:=aa b25 bb27;clear b25 bb27 HB
 go_wp2
 go_ret
 exact⟨by first|rfl|simp,b28⟩
theorem G5 {k:Nat}(hk:1≤k∧k≤8){p:ByteArray}(h:dF k p=0)(c:bM k p=2):
  (opT k p).n≠0∧(opT k p).s=dz k p∧bare ⟨dz k p,gJ k p,(ai (rdN k):Int)*iF k p⟩=opT k p:=by
 have h0:=(ir hk h).2.2 c;have hc:dh k (aZ k p) (aR k p) (aU k p)=2:=by
  unfold bM at c
  rwa [if_pos h,Int.toNat_natCast] at c
 have e:=(wI (EX hk p (.inr hc))).1;rw[Dg.vl_dg _ _ (by omega)] at e;have e2:opT k p=nxT k p:=by unfold opT;rw[if_pos h,Int.toNat_natCast]
 have hb:bare ⟨dz k p,gJ k p,(ai (rdN k):Int)*iF k p⟩=opT k p:=by
  unfold dz gJ iF;rw[if_pos h,if_pos h,if_pos h,Int.toNat_natCast,e2];exact e.symm
 refine⟨h0, ?_,hb⟩;rw[←hb] at h0⊢;exact qr (fun c=>h0 ((fI _).2 c))
theorem dg_ten {n:Nat}(h:n≠0):Dg.dg 10 n=n % 10::Dg.dg 10 (n/10):=by
 obtain⟨m,rfl⟩: ∃m,n=m+1:=⟨n-1,by omega⟩;have hm:(m+1)/10≤m:=by omega
 have:=Dg.dg_vl 10 (by omega) (Dg.dgF 10 m ((m+1)/10)) (Dg.small_dgF 10 (by omega) _ _) (Dg.norm_dgF 10 (by omega) _ _ hm);rw[Dg.vl_dgF 10 (by omega) _ _ hm] at this;rw[this]
 show(if m+1=0 then[] else(m+1) % 10::Dg.dgF 10 m ((m+1)/10))=_
 rw[if_neg h]
theorem dec_list (n:Nat):n≠0→((Dg.dg 10 n).map (fun d=>48+d)).reverse.map (fun d=>UInt8.ofNat d)=Lib.decDigits n:=by
 induction n using Nat.strongRecOn with
 |_ n ih=>
  intro h;rw[dg_ten h]
  by_cases h10:n<10
  ·rw[Lib.decDigits_one h10,show n/10=0 by omega,show n % 10=n by omega,Dg.dg_zero]
   rfl
  ·rw[Lib.decDigits,dif_neg h10,←ih (n/10) (by omega) (by omega)]
   simp
theorem decS_list (n:Nat):oW n=⟨(Lib.decDigits n).toArray⟩:=by
 unfold oW
 by_cases h:n=0
 ·subst h
  rw[if_pos rfl,Lib.decDigits_one (by omega)];rfl
 ·rw[if_neg h]
  unfold cF;rw[dec_list n h]
theorem intText_any (p:Int)(w:World)(h1: -60000≤p)(h2:p≤60000):yC 110 #[yi p] w (yR w (.string ⟨(Lib.itoa p).toArray⟩)):=by
 have HF: ∀(d:Nat) w1,d≤60000→yC 77 #[yi d] w1 (cG w1 d):=fun d w1 hd=>Bj d w1 (by omega)
 have HS: ∀(d:Nat) vo vc w1,d≤60000→Rd w1 .i64 (yS vo d vc) (Dg.dg 65536 d)→yC 109 #[yS vo d vc] w1 (yR w1 (.string (oW d))):=fun d vo vc w1 hd h=>Kc _ d 100 w1 h (Nat.le_trans (Dg.dg_len_le 65536 d 1 (by omega) (by omega)) (by omega)) (by omega)
 have hsz: ∀d,d≤60000→(oW d).size≤100:=fun d hd=>Nat.le_trans (decS_le (show d<10^5 by omega) (by omega)) (by omega)
 unfold Lib.itoa
 by_cases h:p<0
 ·rw[if_pos h]
  have:=intText_neg p (p.natAbs:Int) p.natAbs (oW p.natAbs) w (hsz _ (by omega)) h (by rw[IntWalk.i64_in _ ⟨by omega,by omega⟩];omega) (fun w1 _=>HF _ w1 (by omega)) (fun vo vc w1 _ r=>HS _ vo vc w1 (by omega) r)
  rw[show((⟨(45::Lib.decDigits p.natAbs).toArray⟩:ByteArray))=(⟨#[45]⟩:ByteArray)++oW p.natAbs by rw[decS_list];apply ByteArray.ext;simp]
  exact this
 ·rw[if_neg h,←decS_list]
  have e:((p.toNat:Nat):Int)=p:=by omega
  have:=intText_pos p p.toNat (oW p.toNat) w h (fun w1 _=>by have:=HF p.toNat w1 (by omega);rwa [e] at this) (fun vo vc w1 _ r=>HS _ vo vc w1 (by omega) r)
  exact this
theorem refWord_any (c:Int)(g:Bool)(x:ak)(hc:c=1∨c=2∨c=3∨c=4∨c=5)(hg:c=4∨c=5→g=false)(xo:Option Addr)(xc:Nat)(w:World):yC 55 #[yEV c g x xo xc] w (yR w (.string (wdS c g))):=by
 rcases hc with rfl|rfl|rfl|rfl|rfl
 ·cases g
  ·exact refWord_1f x xo xc w
  ·exact refWord_1t x xo xc w
 ·have:=refWord_2 g x xo xc w
  cases g<;>exact this
 ·cases g
  ·exact refWord_3f x xo xc w
  ·exact refWord_3t x xo xc w
 ·obtain rfl:=hg (.inl rfl)
  exact refWord_4f x xo xc w
 ·obtain rfl:=hg (.inr rfl)
  exact refWord_5f x xo xc w
theorem prQ_ge {H C k:Nat}(hH:2*10^ (C-1)≤H)(hk1:1≤k)(hkC:k≤C):10^ (k-1)≤prQ H C k:=by
 have hf:10^ (k-1)≤H/prU C k:=by
  unfold prU;rw[Nat.le_div_iff_mul_le (Nat.mul_pos (Nat.pow_pos (by omega)) (by omega))];refine Nat.le_trans (Nat.le_of_eq ?_) hH;rw[←Nat.mul_assoc,←Nat.pow_add,Nat.mul_comm]
  congr 2
  omega
 unfold prQ
 split<;>omega
theorem dcH_low {x:ak}(hx:x.n<2^64)(e1: -16500≤x.e)(e2:x.e≤16500)(h0:x.n≠0):2*10^ (dcC x-1)≤dcH x:=by
 have hm:=dc_many hx e1 e2 h0;have hT:0<10^60:=Nat.pow_pos (by omega);have h1:10^ (dcC x-1)≤dcW x:=decS_low (by omega);unfold dcH
 split<;>omega
theorem tpT_size {T:ByteArray}{k:Nat}(h:k≤T.size):(tpT T k).size=k:=by
 unfold tpT
 split
 ·rw[ByteArray.size_extract]
  omega
 ·omega
theorem tpP_nuP {T:ByteArray}{k:Nat}(h:k≤T.size)(hk:1≤k):tpP T k=nuP (tpT T k):=by
 unfold tpP nuP;rw[tpT_size h]
 by_cases c:1<k
 ·rw[if_pos c,if_pos c]
  rw[ByteArray.append_assoc]
 ·rw[if_neg c,if_neg c]
  have e:=tpT_size h;obtain rfl:k=1:=by omega
  generalize tpT T 1=S at e;apply ByteArray.ext;rw[ByteArray.data_extract];have:S.data.size=1:=e;rw[←this,Array.extract_size]
theorem prR_nm {x:ak}(g:Bool){k:Nat}(hx:x.n<2^64)(e1: -16500≤x.e)(e2:x.e≤16500)(h0:x.n≠0)(hk1:1≤k)(hk2:k≤60):
  (dgS x k).size=k∧prR g (dcH x) (dcC x) (dcP x) k=nuS g (dgS x k) ⟨(Lib.itoa (prN (dcH x) (dcC x) (dcP x) k)).toArray⟩:=by
 obtain⟨d1,d2,d3,d4,d5⟩:=dc_all hx e1 e2 h0;have hQ:=prQ_ge (k:=k) (dcH_low hx e1 e2 h0) hk1 (by omega);have hs:k≤(oW (prQ (dcH x) (dcC x) k)).size:=by
  have:=Nat.lt_of_le_of_lt hQ decS_big;have:=(Nat.pow_lt_pow_iff_right (by omega:1<10)).1 this;omega
 refine⟨tpT_size hs, ?_⟩;unfold prR tpS nuS tpG nuG;rw[tpP_nuP hs hk1];rfl
def rpR (c:Int)(g:Bool)(x:ak)(k:Nat):ByteArray:=if c=2 then prR g (dcH x) (dcC x) (dcP x) k else wdS c g
theorem printOf_any (c:Int)(g:Bool)(x:ak)(k:Nat)(hc:c=1∨c=2∨c=3∨c=4∨c=5)(hg:c=4∨c=5→g=false)(hx:c=2→x.n<2^64∧ -16500≤x.e∧x.e≤16500∧x.n≠0)(hk1:1≤k)(hk2:k≤60)(xo:Option Addr)(xc:Nat)(w:World)(rx:Rd w .i64 (yS xo x.n xc) (Dg.dg 65536 x.n)):
  yC 22 #[yEV c g x xo xc,yi k] w (yR w (.string (rpR c g x k))):=by
 have HW:=fun xo xc w1=>refWord_any c g x hc hg xo xc w1
 unfold rpR
 by_cases h2:c=2
 ·subst h2
  rw[if_pos rfl];obtain⟨x1,x2,x3,x4⟩:=hx rfl;obtain⟨s1,s2⟩:=prR_nm g x1 x2 x3 x4 hk1 hk2;have hP:=dcP_in x1 x2 x3 x4;have hN: -5201≤prN (dcH x) (dcC x) (dcP x) k∧prN (dcH x) (dcC x) (dcP x) k≤5201:=by
   unfold prN
   split<;>omega
  rw[s2];have hil:=Lib.itoa_length_le (prN (dcH x) (dcC x) (dcP x) k) (by omega) (by omega);have hia:(ByteArray.mk (Lib.itoa (prN (dcH x) (dcC x) (dcP x) k)).toArray).size≤100:=by rw[mk_size];omega
  have HI:=fun w1 (_:yB w w1)=>intText_any (prN (dcH x) (dcC x) (dcP x) k) w1 (by omega) (by omega)
  have HN:yH w 57 #[.bool g,.string (dgS x k),yi (prN (dcH x) (dcC x) (dcP x) k)] (.string (nuS g (dgS x k) ⟨(Lib.itoa (prN (dcH x) (dcC x) (dcP x) k)).toArray⟩)):=fun w1 b=>by
   have HI1:=fun w2 (b2:yB w1 w2)=>HI w2 (aa b b2)
   by_cases hgt:1< (dgS x k).size
   ·cases g
    ·exact numeralOf_gp _ _ _ w1 (by omega) (by omega) hia hgt HI1
    ·exact numeralOf_gn _ _ _ w1 (by omega) (by omega) hia hgt HI1
   ·cases g
    ·exact numeralOf_lp _ _ _ w1 (by omega) (by omega) hia hgt HI1
    ·exact numeralOf_ln _ _ _ w1 (by omega) (by omega) hia hgt HI1
  have HW2: ∀xo xc w1,yC 55 #[yEV 2 g x xo xc] w1 (yR w1 (.string ⟨#[]⟩)):=fun xo xc w1=>refWord_2 g x xo xc w1
  exact printOf_num (dgS x k) _ _ 2 k g x xo xc w rx HW2 (fun xo xc w1 _ h=>digitsOf_any x k xo xc w1 h x1 x2 x3 x4 hk1 hk2) HN
 ·rw[if_neg h2]
  refine printOf_word (wdS c g) c k g x xo xc w rx ?_ HW
  rcases hc with rfl|rfl|rfl|rfl|rfl
  ·cases g<;>kernel_rfl
  ·exact absurd rfl h2
  ·cases g<;>kernel_rfl
  ·cases g<;>kernel_rfl
  ·cases g<;>kernel_rfl
theorem dec45 {n:Int}{s:ByteArray}(h:((bM n s:Nat):Int)=4∨((bM n s:Nat):Int)=5):dz n s=false:=by
 unfold bM at h;unfold dz kt
 by_cases hp:dF n s=0
 ·rw[if_pos hp] at h⊢
  rw[if_neg (by omega)]
 ·rw[if_neg hp]
theorem textPrints_walk (n:Int)(s:ByteArray)(k:Int)(w:World)(hT:TxW w):yC 5 #[yi n,.string s,yi k] w (yR w (.bool true)):=by
 have HB:=fun w1 (h:yB w w1)=>textBegun_any w1 (hT.l h)
 have HP:=fun w1 (h:yB w w1)=>tPrint_any n s k w1 (hT.l h)
 have HO:=fun w1=>xu n s w1
 unfold ptV at HP
 by_cases hp:dF n s=0
 rotate_left
 ·rw[if_pos hp] at HP
  exact prints_bad _ n k s w (by simpa using hp) HP HO HB
 rw[if_neg (fun c=>c hp)] at HP
 rw[hp] at HO
 by_cases h1:k<1
 ·rw[if_pos (.inl h1)] at HP
  exact prints_low n k s w h1 HP HO HB
 by_cases h2:60<k
 ·rw[if_pos (.inr h2)] at HP
  exact prints_high n k s w h1 h2 HP HO HB
 rw[if_neg (fun c=>c.elim h1 h2)] at HP
 have hf:dK n≠0:=fun hf=>by
  unfold dF at hp;rw[if_pos hf] at hp;omega
 obtain⟨j1,j2,j3⟩:=fF hf;obtain⟨j,rfl⟩: ∃i:Nat,n=(i:Int):=⟨n.toNat,j3.symm⟩;rw[Int.toNat_natCast] at j1 j2;obtain⟨i,rfl⟩: ∃i:Nat,k=(i:Int):=⟨k.toNat,by omega⟩;rw[Int.toNat_natCast] at HP;have a1:opT (j:Int) s=ji (j:Int).toNat (aZ (j:Int).toNat s) (aR (j:Int).toNat s) (aU (j:Int).toNat s):=by
  unfold opT nxT;rw[if_pos hp]
 have a2:dz (j:Int) s=zR (j:Int).toNat (aZ (j:Int).toNat s) (aR (j:Int).toNat s) (aU (j:Int).toNat s):=by
  unfold dz;rw[if_pos hp,Int.toNat_natCast,Nu ⟨j1,j2⟩]
 have HD:=fun w1 (_:yB w w1)=>(mW (j:Int) s w1 hp).mono (fun z w' h=>by
  obtain⟨sv,h1,h2,h3,-⟩:=h;rw[←a1] at h1 h2;rw[←a2] at h1;obtain⟨xo,xc,e⟩:=h2.shape;subst e;exact(⟨xo,xc,_,h1,h2,h3⟩: ∃xo xc cg,z= .returned (.tuple #[.agg #[yi ((bM (j:Int) s:Nat):Int),.bool (dz (j:Int) s),.bool (opT (j:Int) s).s,.slice xo (Dg.dg 65536 (opT (j:Int) s).n).length xc,yi (opT (j:Int) s).e],.bool cg])∧Rd w' .i64 (.slice xo (Dg.dg 65536 (opT (j:Int) s).n).length xc) (Dg.dg 65536 (opT (j:Int) s).n)∧yB w1 w'))
 have hc:=zl hp;have hcc:((bM (j:Int) s:Nat):Int)=1∨((bM (j:Int) s:Nat):Int)=2∨((bM (j:Int) s:Nat):Int)=3∨((bM (j:Int) s:Nat):Int)=4∨((bM (j:Int) s:Nat):Int)=5:=by omega
 have hw2:((bM (j:Int) s:Nat):Int)=2→(wdV ((bM (j:Int) s:Nat):Int)).2.2=false:=fun h=>by rw[h];rfl
 have hw0:((bM (j:Int) s:Nat):Int)≠2→(wdV ((bM (j:Int) s:Nat):Int)).2.2=true:=fun h=>by
  rcases hcc with c|c|c|c|c<;>rw[c] at h⊢ <;>first|rfl|exact absurd rfl h
 have HQ:=fun xo xc w1 (_:yB w w1) r=>printOf_any ((bM (j:Int) s:Nat):Int) (dz (j:Int) s) (opT (j:Int) s) i hcc dec45 (fun h=>num_of hp (hw2 h)) (by omega) (by omega) xo xc w1 r
 have e:(if(wdV ((bM (j:Int) s:Nat):Int)).2.2=true then(wdS ((bM (j:Int) s:Nat):Int) (dz (j:Int) s),(0:Int)) else(ptS (j:Int) s i,0))=(rpR ((bM (j:Int) s:Nat):Int) (dz (j:Int) s) (opT (j:Int) s) i,0):=by
  unfold rpR
  by_cases h:((bM (j:Int) s:Nat):Int)=2
  ·rw[if_neg (by rw[hw2 h];decide),if_pos h]
   unfold ptS;rw[(G5 ⟨j1,j2⟩ hp (by omega)).2.1]
  ·rw[if_pos (hw0 h),if_neg h]
 rw[e] at HP;exact prints_ok _ _ (opT (j:Int) s) _ (j:Int) (i:Int) s w h1 h2 HP HO HD HQ HB
end Go.Proofs.YtpgijbdgljkeeaaGreatDoor
namespace Go.Proofs.YtpgijbdgljkeeaaGreatDoor.dy
open Go.ChangeShapes Go.WideShapes Go.ChangeAt Go.RowKit Go.Joins
theorem laidOut:laidOutB Tryz.prog=true:=by kernel_rfl
theorem door_met (os:Os)(args:Array Value):laidMetH Tryz.prog Rows.textRatiosRow.laid ((World.doorLaid Tryz.prog 400 os).forCall (fun _ _=>0) ⟨#[],args,[]⟩).memory:=
 laidMetH_of_parts3 (fuel:=8) (laidMet_of_run' 8 (by kernel_rfl) (by kernel_rfl)) (by kernel_rfl) (by kernel_rfl)
theorem open_int' {H:Type}{enc:TypeId×Value→H}{W:World}{base:Nat}{v:Value}{d:DataW H}{p:List MemPlace}(hv:Value.okWide Tryz.prog W .any base 3 v)(h:DataW.Trod enc Tryz.prog W 0 (fun _=>true) true 3 v d p):
  ∃n:Int,v=yi n∧(Lit.int .i64 n).wf=true:=by
 obtain⟨n,rfl,-,-,hw⟩:=open_int Tryz.underlying3 hv h;exact⟨n,rfl,hw⟩
theorem and_mk {a b:Bool}(ha:a=true)(hb:b=true):(a&&b)=true:=by rw[ha,hb];rfl
theorem words_cut (a r:List Char)(h: ∀c∈a,c≠Char.ofNat 32):wordsSigns (a++Char.ofNat 32::r)=a::wordsSigns r:=by
 induction a with
 |nil=>rfl
 |cons c a ih=>
  have h1:c≠Char.ofNat 32:=h c (by simp);have h2:=ih (fun x hx=>h x (by simp[hx]))
  show wordsSigns (c::(a++Char.ofNat 32::r))=_
  rw[wordsSigns]
  ·rw[h2]
  ·intro e;exact h1 e
theorem initS:Tryz.prog.initOrder= "harness" ++(" " ++("a852d428f9119d5542430a37dbc93668ed18b05fa7ff4b0deebe9d9f97c84673" ++(" " ++("cut" ++(" " ++ "at slipstick/slipsticklaw.TextRatios slipstick/slipsticklaw.TextParses slipstick/slipsticklaw.TextPrints slipstick/slipsticklaw.TextShortests slipstick/slipsticklaw.TextBack slipstick/slipsticklaw.TextNoShorter"))))):=by kernel_rfl
theorem blank:(" " :String).toList=[Char.ofNat 32]:=by decide+kernel
theorem no_blank1: ∀c∈("harness" :String).toList,c≠Char.ofNat 32:=by decide+kernel
theorem no_blank2: ∀c∈("a852d428f9119d5542430a37dbc93668ed18b05fa7ff4b0deebe9d9f97c84673" :String).toList,c≠Char.ofNat 32:=by decide+kernel
theorem no_blank3: ∀c∈("cut" :String).toList,c≠Char.ofNat 32:=by decide+kernel
theorem sum_signs:isSumSigns ("a852d428f9119d5542430a37dbc93668ed18b05fa7ff4b0deebe9d9f97c84673" :String).toList=true:=by decide+kernel
theorem words_of {P:Program}{s r:String}(h:P.initOrder= "harness" ++(" " ++(s++(" " ++("cut" ++(" " ++r))))))(hn: ∀c∈s.toList,c≠Char.ofNat 32):
  wordsSigns P.initOrder.toList=("harness" :String).toList::s.toList::("cut" :String).toList::wordsSigns r.toList:=by
 rw[h,String.toList_append,String.toList_append,String.toList_append,String.toList_append,String.toList_append,String.toList_append,blank];simp only[List.singleton_append];rw[words_cut _ _ no_blank1,words_cut _ _ hn,words_cut _ _ no_blank3]
theorem main_of {P:Program}{s:List Char}{ws:List (List Char)}(h:wordsSigns P.initOrder.toList=("harness" :String).toList::s::ws)(hs:isSumSigns s=true):P.mainIs=some (true,s):=by
 unfold Program.mainIs;rw[h];simp only[hs,Bool.not_true,Bool.false_eq_true,if_false,beq_self_eq_true,if_true]
theorem cut_gc:(("cut" :String).toList==("gc" :String).toList)=false:=by decide+kernel
theorem cut_spec:(("cut" :String).toList==("spec" :String).toList)=false:=by decide+kernel
theorem lifts_of {P:Program}{s:List Char}{ws:List (List Char)}(h:wordsSigns P.initOrder.toList=("harness" :String).toList::s::("cut" :String).toList::ws)(hs:isSumSigns s=true):P.headLifts=[]:=by
 unfold Program.headLifts;rw[behind_of h hs,strip_none _ _ _ cut_none];simp
theorem make_of {P:Program}{s:List Char}{ws:List (List Char)}(h:wordsSigns P.initOrder.toList=("harness" :String).toList::s::("cut" :String).toList::ws)(hs:isSumSigns s=true):P.make=some .cut:=by
 unfold Program.make;rw[behind_of h hs];simp only[cut_gc,cut_spec,Bool.or_self,Bool.false_eq_true,if_false,beq_self_eq_true,Bool.true_or,if_true]
theorem final_of {P:Program}{s:List Char}{ws:List (List Char)}(h:wordsSigns P.initOrder.toList=("harness" :String).toList::s::("cut" :String).toList::ws)(hs:isSumSigns s=true):P.liftsFinal=false:=by
 unfold Program.liftsFinal;rw[behind_of h hs,lifts_of h hs];have e:((some ("cut" :String).toList:Option (List Char))==some ("carried" :String).toList)=false:=by decide+kernel
 simp only[List.head?_cons,e,Bool.false_and,List.contains_nil,Bool.or_self]
theorem words_is:wordsSigns Tryz.prog.initOrder.toList=("harness" :String).toList::("a852d428f9119d5542430a37dbc93668ed18b05fa7ff4b0deebe9d9f97c84673" :String).toList::("cut" :String).toList::wordsSigns ("at slipstick/slipsticklaw.TextRatios slipstick/slipsticklaw.TextParses slipstick/slipsticklaw.TextPrints slipstick/slipsticklaw.TextShortests slipstick/slipsticklaw.TextBack slipstick/slipsticklaw.TextNoShorter" :String).toList:=words_of initS no_blank2
theorem main_is:Tryz.prog.mainIs=some (true,("a852d428f9119d5542430a37dbc93668ed18b05fa7ff4b0deebe9d9f97c84673" :String).toList):=main_of words_is sum_signs
theorem make_is:Tryz.prog.make=some .cut:=make_of words_is sum_signs
theorem final_is:Tryz.prog.liftsFinal=false:=final_of words_is sum_signs
theorem enter_is:Tryz.prog.mayEnter=true:=enter_of words_is sum_signs (by kernel_rfl) (by kernel_rfl) (by kernel_rfl)
end Go.Proofs.YtpgijbdgljkeeaaGreatDoor.dy
