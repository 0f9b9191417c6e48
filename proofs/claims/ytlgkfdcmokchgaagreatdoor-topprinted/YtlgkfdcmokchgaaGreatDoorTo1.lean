/-
  The whole: TopPrinted, TopDigits by letters.
-/
import Derived.Test.YtlgkfdcmokchgaaGreatDoorUt38
set_option maxRecDepth 100000
set_option maxHeartbeats 3200000
namespace Go.Proofs.YtlgkfdcmokchgaaGreatDoor
open _root_.Go.Proofs.Tryz
open Go.RowKit
theorem topp_1 (ok:Bool)(e f:Int)(tx:ByteArray)(n j:Int)(s:ByteArray)(w:World)(he: ¬e=0)
  (HB:yH w 6 #[] (.bool true))
  (HX:yH w 5 #[] (.bool true))
  (HE:yH w 16 #[yi n,yi j] (.tuple #[.bool ok,yi e]))
  (HS:yH w 17 #[yi n,.string s] (.tuple #[.string tx,yi f])):
  yC 4 #[yi n,.string s,yi j] w (yR w (.bool true)):=by
 replace HB:Hid _:=HB;replace HX:Hid _:=HX;replace HE:Hid _:=HE;replace HS:Hid _:=HS
 go_enter func4,ntmps4
 have b0:=Below.refl w.heap.size w
 go_wp2_with fail
 refine(HB.out _ b0).mono ?_;rintro zz w1 ⟨rfl,bb2⟩;have b3:=aa b0 bb2;clear b0 bb2 HB
 go_wp2_with fail
 refine(HX.out _ b3).mono ?_;rintro zz w4 ⟨rfl,bb5⟩;have b6:=aa b3 bb5;clear b3 bb5 HX
 go_wp2_with fail
 refine(HE.out _ b6).mono ?_;rintro zz w7 ⟨rfl,bb8⟩;have b9:=aa b6 bb8;clear b6 bb8 HE
 go_wp2_with fail
 refine(HS.out _ b9).mono ?_;rintro zz w10 ⟨rfl,bb11⟩;have b12:=aa b9 bb11;clear b9 bb11 HS
 go_wp2
 go_ret
 exact⟨by first|rfl|simp,b12⟩
theorem topp_2 (ok:Bool)(f:Int)(tx:ByteArray)(n j:Int)(s:ByteArray)(w:World)(he: ¬f=0)
  (HB:yH w 6 #[] (.bool true))
  (HX:yH w 5 #[] (.bool true))
  (HE:yH w 16 #[yi n,yi j] (.tuple #[.bool ok,yi 0]))
  (HS:yH w 17 #[yi n,.string s] (.tuple #[.string tx,yi f])):
  yC 4 #[yi n,.string s,yi j] w (yR w (.bool true)):=by
 replace HB:Hid _:=HB;replace HX:Hid _:=HX;replace HE:Hid _:=HE;replace HS:Hid _:=HS
 go_enter func4,ntmps4
 have b0:=Below.refl w.heap.size w
 go_wp2_with fail
 refine(HB.out _ b0).mono ?_;rintro zz w1 ⟨rfl,bb2⟩;have b3:=aa b0 bb2;clear b0 bb2 HB
 go_wp2_with fail
 refine(HX.out _ b3).mono ?_;rintro zz w4 ⟨rfl,bb5⟩;have b6:=aa b3 bb5;clear b3 bb5 HX
 go_wp2_with fail
 refine(HE.out _ b6).mono ?_;rintro zz w7 ⟨rfl,bb8⟩;have b9:=aa b6 bb8;clear b6 bb8 HE
 go_wp2_with fail
 refine(HS.out _ b9).mono ?_;rintro zz w10 ⟨rfl,bb11⟩;have b12:=aa b9 bb11;clear b9 bb11 HS
 go_wp2
 go_ret
 exact⟨by first|rfl|simp,b12⟩
theorem topp_3 (tx:ByteArray)(n j:Int)(s:ByteArray)(w:World)
  (HB:yH w 6 #[] (.bool true))
  (HX:yH w 5 #[] (.bool true))
  (HE:yH w 16 #[yi n,yi j] (.tuple #[.bool false,yi 0]))
  (HS:yH w 17 #[yi n,.string s] (.tuple #[.string tx,yi 0])):
  yC 4 #[yi n,.string s,yi j] w (yR w (.bool true)):=by
 replace HB:Hid _:=HB;replace HX:Hid _:=HX;replace HE:Hid _:=HE;replace HS:Hid _:=HS
 go_enter func4,ntmps4
 have b0:=Below.refl w.heap.size w
 go_wp2_with fail
 refine(HB.out _ b0).mono ?_;rintro zz w1 ⟨rfl,bb2⟩;have b3:=aa b0 bb2;clear b0 bb2 HB
 go_wp2_with fail
 refine(HX.out _ b3).mono ?_;rintro zz w4 ⟨rfl,bb5⟩;have b6:=aa b3 bb5;clear b3 bb5 HX
 go_wp2_with fail
 refine(HE.out _ b6).mono ?_;rintro zz w7 ⟨rfl,bb8⟩;have b9:=aa b6 bb8;clear b6 bb8 HE
 go_wp2_with fail
 refine(HS.out _ b9).mono ?_;rintro zz w10 ⟨rfl,bb11⟩;have b12:=aa b9 bb11;clear b9 bb11 HS
 go_wp2
 go_ret
 exact⟨by first|rfl|simp,b12⟩
theorem topp_4 (c:Int)(tx:ByteArray)(n j:Int)(s:ByteArray)(w:World)(hc: ¬c=2)
  (HB:yH w 6 #[] (.bool true))
  (HX:yH w 5 #[] (.bool true))
  (HE:yH w 16 #[yi n,yi j] (.tuple #[.bool true,yi 0]))
  (HS:yH w 17 #[yi n,.string s] (.tuple #[.string tx,yi 0]))
  (HC:yJ 18 #[yi n,.string s] (yi c)):
  yC 4 #[yi n,.string s,yi j] w (yR w (.bool true)):=by
 replace HB:Hid _:=HB;replace HX:Hid _:=HX;replace HE:Hid _:=HE;replace HS:Hid _:=HS;replace HC:Hid _:=HC
 go_enter func4,ntmps4
 have b0:=Below.refl w.heap.size w
 go_wp2_with fail
 refine(HB.out _ b0).mono ?_;rintro zz w1 ⟨rfl,bb2⟩;have b3:=aa b0 bb2;clear b0 bb2 HB
 go_wp2_with fail
 refine(HX.out _ b3).mono ?_;rintro zz w4 ⟨rfl,bb5⟩;have b6:=aa b3 bb5;clear b3 bb5 HX
 go_wp2_with fail
 refine(HE.out _ b6).mono ?_;rintro zz w7 ⟨rfl,bb8⟩;have b9:=aa b6 bb8;clear b6 bb8 HE
 go_wp2_with fail
 refine(HS.out _ b9).mono ?_;rintro zz w10 ⟨rfl,bb11⟩;have b12:=aa b9 bb11;clear b9 bb11 HS
 go_wp2_with fail
 refine(HC.out _).mono ?_;rintro zz w13 ⟨rfl,bb14⟩;have b15:=aa b12 bb14;clear b12 bb14 HC
 go_wp2
 go_ret
 exact⟨by first|rfl|simp,b15⟩
theorem topp_5 (g:Bool)(M:Nat)(p f1:Int)(tx md bt:ByteArray)(n j:Int)(s:ByteArray)(w:World)
  (HB:yH w 6 #[] (.bool true))
  (HX:yH w 5 #[] (.bool true))
  (HE:yH w 16 #[yi n,yi j] (.tuple #[.bool true,yi 0]))
  (HS:yH w 17 #[yi n,.string s] (.tuple #[.string tx,yi 0]))
  (HC:yJ 18 #[yi n,.string s] (yi 2))
  (HP:yH w 14 #[yi n,.string tx,yi 1] (.tuple #[.string md,yi f1,yi 0]))
  (HQ:yH w 19 #[yi n,.string md,yi j,yi 1] (.tuple #[.string bt,yi 0,yi 0]))
  (HR:yH w 19 #[yi j,.string bt,yi n,yi 1] (.tuple #[.string md,yi 0,yi 0]))
  (HD: ∀w1,yB w w1→yC 20 #[yi n,.string s] w1 (eP w1 2 g M p 0))
  (HF: ∀w1,yB w w1→yC 20 #[yi n,.string md] w1 (eP w1 2 g M p 0))
  (HW: ∀ao ac bo bc w1,yB w w1→Rd w1 .u32 (yT ao M ac) (Dg.dg 4294967296 M)→Rd w1 .u32 (yT bo M bc) (Dg.dg 4294967296 M)→yC 21 #[yvV 2 g (yT ao M ac) p,yvV 2 g (yT bo M bc) p] w1 (yR w1 (.bool true))):
  yC 4 #[yi n,.string s,yi j] w (yR w (.bool true)):=by
 replace HB:Hid _:=HB;replace HX:Hid _:=HX;replace HE:Hid _:=HE;replace HS:Hid _:=HS;replace HC:Hid _:=HC;replace HP:Hid _:=HP;replace HQ:Hid _:=HQ;replace HR:Hid _:=HR;replace HD:Hid _:=HD;replace HF:Hid _:=HF;replace HW:Hid _:=HW
 go_enter func4,ntmps4
 have b0:=Below.refl w.heap.size w
 go_wp2_with fail
 refine(HB.out _ b0).mono ?_;rintro zz w1 ⟨rfl,bb2⟩;have b3:=aa b0 bb2;clear b0 bb2 HB
 go_wp2_with fail
 refine(HX.out _ b3).mono ?_;rintro zz w4 ⟨rfl,bb5⟩;have b6:=aa b3 bb5;clear b3 bb5 HX
 go_wp2_with fail
 refine(HE.out _ b6).mono ?_;rintro zz w7 ⟨rfl,bb8⟩;have b9:=aa b6 bb8;clear b6 bb8 HE
 go_wp2_with fail
 refine(HS.out _ b9).mono ?_;rintro zz w10 ⟨rfl,bb11⟩;have b12:=aa b9 bb11;clear b9 bb11 HS
 go_wp2_with fail
 refine(HC.out _).mono ?_;rintro zz w13 ⟨rfl,bb14⟩;have b15:=aa b12 bb14;clear b12 bb14 HC
 go_wp2_with fail
 refine(HP.out _ b15).mono ?_;rintro zz w16 ⟨rfl,bb17⟩;have b18:=aa b15 bb17;clear b15 bb17 HP
 go_wp2_with fail
 refine(HQ.out _ b18).mono ?_;rintro zz w19 ⟨rfl,bb20⟩;have b21:=aa b18 bb20;clear b18 bb20 HQ
 go_wp2_with fail
 refine(HR.out _ b21).mono ?_;rintro zz w22 ⟨rfl,bb23⟩;have b24:=aa b21 bb23;clear b21 bb23 HR
 go_wp2_with fail
 refine(HD.out _ b24).mono ?_;rintro zz w25 ⟨v1x27,rfl,r1x28,bb26⟩;have b29:=aa b24 bb26;obtain⟨xo,xc,hv⟩:=r1x28.shape;subst hv;clear b24 bb26 HD;obtain⟨W32,hW31,q33,al30⟩:=cA w25 (yvL 2 g (yT xo M xc) p) 48;replace hW31:Hid _:=hW31;have hl34:w.heap.size≤w25.heap.size:=b29.size;have r35:=r1x28.l al30;have b36:=aa b29 al30;clear r1x28 b29 al30
 go_upto_region 11 with fail
 rw[hW31.out];clear hW31
 go_wp2_with fail
 refine(HF.out _ b36).mono ?_;rintro zz w37 ⟨v1x39,rfl,r1x40,bb38⟩;have q41:=q33.l bb38;have r42:=r35.l bb38;have b43:=aa b36 bb38;obtain⟨yo,yc,hv⟩:=r1x40.shape;subst hv;clear q33 r35 b36 bb38 HF;obtain⟨W46,hW45,q47,al44⟩:=cA w37 (yvL 2 g (yT yo M yc) p) 48;replace hW45:Hid _:=hW45;have hl48:w.heap.size≤w37.heap.size:=b43.size;have hl49:=q41.lt;have q50:=q41.l al44;have r51:=r42.l al44;have r52:=r1x40.l al44;have b53:=aa b43 al44;clear q41 r42 r1x40 b43 al44
 go_upto_region 12 with fail
 rw[hW45.out];clear hW45;obtain⟨c54,c55,c56,c57⟩:=q50.cs4;obtain⟨c58,c59,c60,c61⟩:=q47.cs4
 go_wp2_with fail
 refine(HW.out _ _ _ _ _ b53 r51 r52).mono ?_;rintro zz w62 ⟨rfl,bb63⟩;have b64:=aa b53 bb63;clear q50 q47 r51 r52 b53 bb63 HW c54 c55 c56 c57 c58 c59 c60 c61
 go_wp2
 go_ret
 exact⟨by first|rfl|simp,b64⟩
theorem topd_err (e fl:Int)(st:ByteArray)(n f wy:Int)(w:World)(he: ¬e=0)
  (HX:yH w 5 #[] (.bool true))
  (HB:yH w 6 #[] (.bool true))
  (HN:yH w 7 #[] (.bool true))
  (HI:yH w 8 #[yi n,yi f,yi wy] (.tuple #[.string st,yi fl,yi e])):
  yC 3 #[yi n,yi f,yi wy] w (yR w (.bool true)):=by
 replace HX:Hid _:=HX;replace HB:Hid _:=HB;replace HN:Hid _:=HN;replace HI:Hid _:=HI
 go_enter func3,ntmps3
 have b0:=Below.refl w.heap.size w
 go_wp2_with fail
 refine(HX.out _ b0).mono ?_;rintro zz w1 ⟨rfl,bb2⟩;have b3:=aa b0 bb2;clear b0 bb2 HX
 go_wp2_with fail
 refine(HB.out _ b3).mono ?_;rintro zz w4 ⟨rfl,bb5⟩;have b6:=aa b3 bb5;clear b3 bb5 HB
 go_wp2_with fail
 refine(HN.out _ b6).mono ?_;rintro zz w7 ⟨rfl,bb8⟩;have b9:=aa b6 bb8;clear b6 bb8 HN
 go_wp2_with fail
 refine(HI.out _ b9).mono ?_;rintro zz w10 ⟨rfl,bb11⟩;have b12:=aa b9 bb11;clear b9 bb11 HI
 go_wp2
 go_ret
 exact⟨by first|rfl|simp,b12⟩
theorem topd_ne (d:ak)(N:Nat)(st tx:ByteArray)(n f wy:Int)(w:World)(hn:n<0)(hs:tx.size≤1000)
  (HX:yH w 5 #[] (.bool true))
  (HB:yH w 6 #[] (.bool true))
  (HN:yH w 7 #[] (.bool true))
  (HI:yH w 8 #[yi n,yi f,yi wy] (.tuple #[.string st,yi 0,yi 0]))
  (HWh: ∀w1,yB w w1→yC 11 #[yi n] w1 (dr w1 d))
  (HFl: ∀xo xc w1,yB w w1→Rd w1 .i64 (yS xo d.n xc) (Dg.dg 65536 d.n)→yC 10 #[ydV d.s (yS xo d.n xc) d.e] w1 (cG w1 N))
  (HDe: ∀vo vc w1,yB w w1→Rd w1 .i64 (yS vo N vc) (Dg.dg 65536 N)→yC 9 #[yS vo N vc] w1 (yR w1 (.string tx)))
  (HRe: ∀w1,yB w w1→yC 12 #[.string tx] w1 fun z w'=> ∃v,z= .returned (.tuple #[v,yi 0])∧Rd w' .u32 v (Dg.dg 4294967296 N)∧yB w1 w')
  (HPn: ∀vo vc w1,yB w w1→Rd w1 .u32 (yT vo N vc) (Dg.dg 4294967296 N)→yC 13 #[yT vo N vc] w1 (yR w1 (.tuple #[.string tx,yi 0])))
  (HP:yH w 14 #[yi f,.string ((⟨#[45]⟩:ByteArray)++tx),yi wy] (.tuple #[.string st,yi 0,yi 0]))
  (HT:yH w 15 #[yi f,.string st,yi wy] (.tuple #[yi n,yi 0,yi 0])):
  yC 3 #[yi n,yi f,yi wy] w (yR w (.bool true)):=by
 replace HX:Hid _:=HX;replace HB:Hid _:=HB;replace HN:Hid _:=HN;replace HI:Hid _:=HI;replace HWh:Hid _:=HWh;replace HFl:Hid _:=HFl;replace HDe:Hid _:=HDe;replace HRe:Hid _:=HRe;replace HPn:Hid _:=HPn;replace HP:Hid _:=HP;replace HT:Hid _:=HT
 go_enter func3,ntmps3
 have b0:=Below.refl w.heap.size w
 go_wp2_with fail
 refine(HX.out _ b0).mono ?_;rintro zz w1 ⟨rfl,bb2⟩;have b3:=aa b0 bb2;clear b0 bb2 HX
 go_wp2_with fail
 refine(HB.out _ b3).mono ?_;rintro zz w4 ⟨rfl,bb5⟩;have b6:=aa b3 bb5;clear b3 bb5 HB
 go_wp2_with fail
 refine(HN.out _ b6).mono ?_;rintro zz w7 ⟨rfl,bb8⟩;have b9:=aa b6 bb8;clear b6 bb8 HN
 go_wp2_with fail
 refine(HI.out _ b9).mono ?_;rintro zz w10 ⟨rfl,bb11⟩;have b12:=aa b9 bb11;clear b9 bb11 HI
 go_wp2_with fail
 refine(HWh.out _ b12).mono ?_;rintro zz w13 ⟨v1x15,rfl,r1x16,bb14⟩;have b17:=aa b12 bb14;obtain⟨xo,xc,hv⟩:=r1x16.shape;subst hv;clear b12 bb14 HWh
 go_wp2_with fail
 refine(HFl.out _ _ _ b17 r1x16).mono ?_;rintro zz w18 ⟨v1x20,rfl,r1x21,bb19⟩;have b22:=aa b17 bb19;obtain⟨vo,vc,hv⟩:=r1x21.shape;subst hv;clear r1x16 b17 bb19 HFl
 go_wp2_with fail
 refine(HDe.out _ _ _ b22 r1x21).mono ?_;rintro zz w23 ⟨rfl,bb24⟩;have b25:=aa b22 bb24;clear r1x21 b22 bb24 HDe
 go_wp2_with fail
 refine(HRe.out _ b25).mono ?_;rintro zz w26 ⟨v1x28,rfl,r1x29,bb27⟩;have b30:=aa b25 bb27;obtain⟨yo,yc,hv⟩:=r1x29.shape;subst hv;clear b25 bb27 HRe
 go_wp2_with fail
 refine(HPn.out _ _ _ b30 r1x29).mono ?_;rintro zz w31 ⟨rfl,bb32⟩;have b33:=aa b30 bb32;clear r1x29 b30 bb32 HPn
 go_wp2_with fail
 refine(HP.out _ b33).mono ?_;rintro zz w34 ⟨rfl,bb35⟩;have b36:=aa b33 bb35;clear b33 bb35 HP
 go_wp2_with fail
 refine(HT.out _ b36).mono ?_;rintro zz w37 ⟨rfl,bb38⟩;have b39:=aa b36 bb38;clear b36 bb38 HT
 go_wp2
 go_ret
 exact⟨by first|rfl|simp,b39⟩
theorem topd_nx (fl:Int)(d:ak)(N:Nat)(st tx:ByteArray)(n f wy:Int)(w:World)(hn:n<0)(hf: ¬fl=0)(hs:tx.size≤1000)
  (HX:yH w 5 #[] (.bool true))
  (HB:yH w 6 #[] (.bool true))
  (HN:yH w 7 #[] (.bool true))
  (HI:yH w 8 #[yi n,yi f,yi wy] (.tuple #[.string st,yi fl,yi 0]))
  (HWh: ∀w1,yB w w1→yC 11 #[yi n] w1 (dr w1 d))
  (HFl: ∀xo xc w1,yB w w1→Rd w1 .i64 (yS xo d.n xc) (Dg.dg 65536 d.n)→yC 10 #[ydV d.s (yS xo d.n xc) d.e] w1 (cG w1 N))
  (HDe: ∀vo vc w1,yB w w1→Rd w1 .i64 (yS vo N vc) (Dg.dg 65536 N)→yC 9 #[yS vo N vc] w1 (yR w1 (.string tx)))
  (HRe: ∀w1,yB w w1→yC 12 #[.string tx] w1 fun z w'=> ∃v,z= .returned (.tuple #[v,yi 0])∧Rd w' .u32 v (Dg.dg 4294967296 N)∧yB w1 w')
  (HPn: ∀vo vc w1,yB w w1→Rd w1 .u32 (yT vo N vc) (Dg.dg 4294967296 N)→yC 13 #[yT vo N vc] w1 (yR w1 (.tuple #[.string tx,yi 0])))
  (HP:yH w 14 #[yi f,.string ((⟨#[45]⟩:ByteArray)++tx),yi wy] (.tuple #[.string st,yi fl,yi 0])):
  yC 3 #[yi n,yi f,yi wy] w (yR w (.bool true)):=by
 replace HX:Hid _:=HX;replace HB:Hid _:=HB;replace HN:Hid _:=HN;replace HI:Hid _:=HI;replace HWh:Hid _:=HWh;replace HFl:Hid _:=HFl;replace HDe:Hid _:=HDe;replace HRe:Hid _:=HRe;replace HPn:Hid _:=HPn;replace HP:Hid _:=HP
 go_enter func3,ntmps3
 have b0:=Below.refl w.heap.size w
 go_wp2_with fail
 refine(HX.out _ b0).mono ?_;rintro zz w1 ⟨rfl,bb2⟩;have b3:=aa b0 bb2;clear b0 bb2 HX
 go_wp2_with fail
 refine(HB.out _ b3).mono ?_;rintro zz w4 ⟨rfl,bb5⟩;have b6:=aa b3 bb5;clear b3 bb5 HB
 go_wp2_with fail
 refine(HN.out _ b6).mono ?_;rintro zz w7 ⟨rfl,bb8⟩;have b9:=aa b6 bb8;clear b6 bb8 HN
 go_wp2_with fail
 refine(HI.out _ b9).mono ?_;rintro zz w10 ⟨rfl,bb11⟩;have b12:=aa b9 bb11;clear b9 bb11 HI
 go_wp2_with fail
 refine(HWh.out _ b12).mono ?_;rintro zz w13 ⟨v1x15,rfl,r1x16,bb14⟩;have b17:=aa b12 bb14;obtain⟨xo,xc,hv⟩:=r1x16.shape;subst hv;clear b12 bb14 HWh
 go_wp2_with fail
 refine(HFl.out _ _ _ b17 r1x16).mono ?_;rintro zz w18 ⟨v1x20,rfl,r1x21,bb19⟩;have b22:=aa b17 bb19;obtain⟨vo,vc,hv⟩:=r1x21.shape;subst hv;clear r1x16 b17 bb19 HFl
 go_wp2_with fail
 refine(HDe.out _ _ _ b22 r1x21).mono ?_;rintro zz w23 ⟨rfl,bb24⟩;have b25:=aa b22 bb24;clear r1x21 b22 bb24 HDe
 go_wp2_with fail
 refine(HRe.out _ b25).mono ?_;rintro zz w26 ⟨v1x28,rfl,r1x29,bb27⟩;have b30:=aa b25 bb27;obtain⟨yo,yc,hv⟩:=r1x29.shape;subst hv;clear b25 bb27 HRe
 go_wp2_with fail
 refine(HPn.out _ _ _ b30 r1x29).mono ?_;rintro zz w31 ⟨rfl,bb32⟩;have b33:=aa b30 bb32;clear r1x29 b30 bb32 HPn
 go_wp2_with fail
 refine(HP.out _ b33).mono ?_;rintro zz w34 ⟨rfl,bb35⟩;have b36:=aa b33 bb35;clear b33 bb35 HP
 go_wp2
 go_ret
 exact⟨by first|rfl|simp,b36⟩
theorem topd_pe (d:ak)(N:Nat)(st tx:ByteArray)(n f wy:Int)(w:World)(hn: ¬n<0)
  (HX:yH w 5 #[] (.bool true))
  (HB:yH w 6 #[] (.bool true))
  (HN:yH w 7 #[] (.bool true))
  (HI:yH w 8 #[yi n,yi f,yi wy] (.tuple #[.string st,yi 0,yi 0]))
  (HWh: ∀w1,yB w w1→yC 11 #[yi n] w1 (dr w1 d))
  (HFl: ∀xo xc w1,yB w w1→Rd w1 .i64 (yS xo d.n xc) (Dg.dg 65536 d.n)→yC 10 #[ydV d.s (yS xo d.n xc) d.e] w1 (cG w1 N))
  (HDe: ∀vo vc w1,yB w w1→Rd w1 .i64 (yS vo N vc) (Dg.dg 65536 N)→yC 9 #[yS vo N vc] w1 (yR w1 (.string tx)))
  (HRe: ∀w1,yB w w1→yC 12 #[.string tx] w1 fun z w'=> ∃v,z= .returned (.tuple #[v,yi 0])∧Rd w' .u32 v (Dg.dg 4294967296 N)∧yB w1 w')
  (HPn: ∀vo vc w1,yB w w1→Rd w1 .u32 (yT vo N vc) (Dg.dg 4294967296 N)→yC 13 #[yT vo N vc] w1 (yR w1 (.tuple #[.string tx,yi 0])))
  (HP:yH w 14 #[yi f,.string tx,yi wy] (.tuple #[.string st,yi 0,yi 0]))
  (HT:yH w 15 #[yi f,.string st,yi wy] (.tuple #[yi n,yi 0,yi 0])):
  yC 3 #[yi n,yi f,yi wy] w (yR w (.bool true)):=by
 replace HX:Hid _:=HX;replace HB:Hid _:=HB;replace HN:Hid _:=HN;replace HI:Hid _:=HI;replace HWh:Hid _:=HWh;replace HFl:Hid _:=HFl;replace HDe:Hid _:=HDe;replace HRe:Hid _:=HRe;replace HPn:Hid _:=HPn;replace HP:Hid _:=HP;replace HT:Hid _:=HT
 go_enter func3,ntmps3
 have b0:=Below.refl w.heap.size w
 go_wp2_with fail
 refine(HX.out _ b0).mono ?_;rintro zz w1 ⟨rfl,bb2⟩;have b3:=aa b0 bb2;clear b0 bb2 HX
 go_wp2_with fail
 refine(HB.out _ b3).mono ?_;rintro zz w4 ⟨rfl,bb5⟩;have b6:=aa b3 bb5;clear b3 bb5 HB
 go_wp2_with fail
 refine(HN.out _ b6).mono ?_;rintro zz w7 ⟨rfl,bb8⟩;have b9:=aa b6 bb8;clear b6 bb8 HN
 go_wp2_with fail
 refine(HI.out _ b9).mono ?_;rintro zz w10 ⟨rfl,bb11⟩;have b12:=aa b9 bb11;clear b9 bb11 HI
 go_wp2_with fail
 refine(HWh.out _ b12).mono ?_;rintro zz w13 ⟨v1x15,rfl,r1x16,bb14⟩;have b17:=aa b12 bb14;obtain⟨xo,xc,hv⟩:=r1x16.shape;subst hv;clear b12 bb14 HWh
 go_wp2_with fail
 refine(HFl.out _ _ _ b17 r1x16).mono ?_;rintro zz w18 ⟨v1x20,rfl,r1x21,bb19⟩;have b22:=aa b17 bb19;obtain⟨vo,vc,hv⟩:=r1x21.shape;subst hv;clear r1x16 b17 bb19 HFl
 go_wp2_with fail
 refine(HDe.out _ _ _ b22 r1x21).mono ?_;rintro zz w23 ⟨rfl,bb24⟩;have b25:=aa b22 bb24;clear r1x21 b22 bb24 HDe
 go_wp2_with fail
 refine(HRe.out _ b25).mono ?_;rintro zz w26 ⟨v1x28,rfl,r1x29,bb27⟩;have b30:=aa b25 bb27;obtain⟨yo,yc,hv⟩:=r1x29.shape;subst hv;clear b25 bb27 HRe
 go_wp2_with fail
 refine(HPn.out _ _ _ b30 r1x29).mono ?_;rintro zz w31 ⟨rfl,bb32⟩;have b33:=aa b30 bb32;clear r1x29 b30 bb32 HPn
 go_wp2_with fail
 refine(HP.out _ b33).mono ?_;rintro zz w34 ⟨rfl,bb35⟩;have b36:=aa b33 bb35;clear b33 bb35 HP
 go_wp2_with fail
 refine(HT.out _ b36).mono ?_;rintro zz w37 ⟨rfl,bb38⟩;have b39:=aa b36 bb38;clear b36 bb38 HT
 go_wp2
 go_ret
 exact⟨by first|rfl|simp,b39⟩
theorem topd_px (fl:Int)(d:ak)(N:Nat)(st tx:ByteArray)(n f wy:Int)(w:World)(hn: ¬n<0)(hf: ¬fl=0)
  (HX:yH w 5 #[] (.bool true))
  (HB:yH w 6 #[] (.bool true))
  (HN:yH w 7 #[] (.bool true))
  (HI:yH w 8 #[yi n,yi f,yi wy] (.tuple #[.string st,yi fl,yi 0]))
  (HWh: ∀w1,yB w w1→yC 11 #[yi n] w1 (dr w1 d))
  (HFl: ∀xo xc w1,yB w w1→Rd w1 .i64 (yS xo d.n xc) (Dg.dg 65536 d.n)→yC 10 #[ydV d.s (yS xo d.n xc) d.e] w1 (cG w1 N))
  (HDe: ∀vo vc w1,yB w w1→Rd w1 .i64 (yS vo N vc) (Dg.dg 65536 N)→yC 9 #[yS vo N vc] w1 (yR w1 (.string tx)))
  (HRe: ∀w1,yB w w1→yC 12 #[.string tx] w1 fun z w'=> ∃v,z= .returned (.tuple #[v,yi 0])∧Rd w' .u32 v (Dg.dg 4294967296 N)∧yB w1 w')
  (HPn: ∀vo vc w1,yB w w1→Rd w1 .u32 (yT vo N vc) (Dg.dg 4294967296 N)→yC 13 #[yT vo N vc] w1 (yR w1 (.tuple #[.string tx,yi 0])))
  (HP:yH w 14 #[yi f,.string tx,yi wy] (.tuple #[.string st,yi fl,yi 0])):
  yC 3 #[yi n,yi f,yi wy] w (yR w (.bool true)):=by
 replace HX:Hid _:=HX;replace HB:Hid _:=HB;replace HN:Hid _:=HN;replace HI:Hid _:=HI;replace HWh:Hid _:=HWh;replace HFl:Hid _:=HFl;replace HDe:Hid _:=HDe;replace HRe:Hid _:=HRe;replace HPn:Hid _:=HPn;replace HP:Hid _:=HP
 go_enter func3,ntmps3
 have b0:=Below.refl w.heap.size w
 go_wp2_with fail
 refine(HX.out _ b0).mono ?_;rintro zz w1 ⟨rfl,bb2⟩;have b3:=aa b0 bb2;clear b0 bb2 HX
 go_wp2_with fail
 refine(HB.out _ b3).mono ?_;rintro zz w4 ⟨rfl,bb5⟩;have b6:=aa b3 bb5;clear b3 bb5 HB
 go_wp2_with fail
 refine(HN.out _ b6).mono ?_;rintro zz w7 ⟨rfl,bb8⟩;have b9:=aa b6 bb8;clear b6 bb8 HN
 go_wp2_with fail
 refine(HI.out _ b9).mono ?_;rintro zz w10 ⟨rfl,bb11⟩;have b12:=aa b9 bb11;clear b9 bb11 HI
 go_wp2_with fail
 refine(HWh.out _ b12).mono ?_;rintro zz w13 ⟨v1x15,rfl,r1x16,bb14⟩;have b17:=aa b12 bb14;obtain⟨xo,xc,hv⟩:=r1x16.shape;subst hv;clear b12 bb14 HWh
 go_wp2_with fail
 refine(HFl.out _ _ _ b17 r1x16).mono ?_;rintro zz w18 ⟨v1x20,rfl,r1x21,bb19⟩;have b22:=aa b17 bb19;obtain⟨vo,vc,hv⟩:=r1x21.shape;subst hv;clear r1x16 b17 bb19 HFl
 go_wp2_with fail
 refine(HDe.out _ _ _ b22 r1x21).mono ?_;rintro zz w23 ⟨rfl,bb24⟩;have b25:=aa b22 bb24;clear r1x21 b22 bb24 HDe
 go_wp2_with fail
 refine(HRe.out _ b25).mono ?_;rintro zz w26 ⟨v1x28,rfl,r1x29,bb27⟩;have b30:=aa b25 bb27;obtain⟨yo,yc,hv⟩:=r1x29.shape;subst hv;clear b25 bb27 HRe
 go_wp2_with fail
 refine(HPn.out _ _ _ b30 r1x29).mono ?_;rintro zz w31 ⟨rfl,bb32⟩;have b33:=aa b30 bb32;clear r1x29 b30 bb32 HPn
 go_wp2_with fail
 refine(HP.out _ b33).mono ?_;rintro zz w34 ⟨rfl,bb35⟩;have b36:=aa b33 bb35;clear b33 bb35 HP
 go_wp2
 go_ret
 exact⟨by first|rfl|simp,b36⟩
end Go.Proofs.YtlgkfdcmokchgaaGreatDoor
