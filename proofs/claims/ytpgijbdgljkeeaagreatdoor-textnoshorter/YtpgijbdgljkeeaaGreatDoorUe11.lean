/-
  Texts laid together: Ty14.
-/
import Derived.Test.YtpgijbdgljkeeaaGreatDoorChecked
import Derived.Test.YtpgijbdgljkeeaaGreatDoorUx41
import Derived.Test.YtpgijbdgljkeeaaGreatDoorDyTx
set_option maxRecDepth 100000
set_option maxHeartbeats 3200000
namespace Go.Proofs.YtpgijbdgljkeeaaGreatDoor
open _root_.Go.Proofs.Tryz
open Go.RowKit
theorem sameV_c (c d p q:Int)(g h:Bool)(M N:Nat)(ao bo:Option Addr)(ac bc:Nat)(w:World)(ra:Rd w .u32 (yT ao M ac) (Dg.dg 4294967296 M))(rb:Rd w .u32 (yT bo N bc) (Dg.dg 4294967296 N))(hc:(c==d)=false):
  yC 28 #[yvV c g (yT ao M ac) p,yvV d h (yT bo N bc) q] w (yR w (.bool false)):=by
 obtain⟨W4,hW5,q1,q2,b3⟩:=iG w (yvL c g (yT ao M ac) p) 66 (yvL d h (yT bo N bc) q) 66;replace hW5:Hid _:=hW5;have r6:=ra.l b3;have r7:=rb.l b3;clear ra rb
 go_enter func28,ntmps28
 go_upto_region 1 with fail
 rw[hW5.out];clear hW5;have c8:=q1.c 0 rfl;have c9:=q2.c 0 rfl
 go_wp2
 go_ret
 exact⟨by first|rfl|simp,b3⟩
theorem sameV_g (c p q:Int)(g h:Bool)(M N:Nat)(ao bo:Option Addr)(ac bc:Nat)(w:World)(ra:Rd w .u32 (yT ao M ac) (Dg.dg 4294967296 M))(rb:Rd w .u32 (yT bo N bc) (Dg.dg 4294967296 N))(hc:(g==h)=false):
  yC 28 #[yvV c g (yT ao M ac) p,yvV c h (yT bo N bc) q] w (yR w (.bool false)):=by
 obtain⟨W4,hW5,q1,q2,b3⟩:=iG w (yvL c g (yT ao M ac) p) 66 (yvL c h (yT bo N bc) q) 66;replace hW5:Hid _:=hW5;have r6:=ra.l b3;have r7:=rb.l b3;clear ra rb
 go_enter func28,ntmps28
 go_upto_region 1 with fail
 rw[hW5.out];clear hW5;have c8:=q1.c 0 rfl;have c9:=q1.c 1 rfl;have c10:=q2.c 0 rfl;have c11:=q2.c 1 rfl
 go_wp2
 go_ret
 exact⟨by first|rfl|simp,b3⟩
theorem sameV_p (c p q:Int)(g:Bool)(M N:Nat)(ao bo:Option Addr)(ac bc:Nat)(w:World)(ra:Rd w .u32 (yT ao M ac) (Dg.dg 4294967296 M))(rb:Rd w .u32 (yT bo N bc) (Dg.dg 4294967296 N))(hc:(p==q)=false):
  yC 28 #[yvV c g (yT ao M ac) p,yvV c g (yT bo N bc) q] w (yR w (.bool false)):=by
 obtain⟨W4,hW5,q1,q2,b3⟩:=iG w (yvL c g (yT ao M ac) p) 66 (yvL c g (yT bo N bc) q) 66;replace hW5:Hid _:=hW5;have r6:=ra.l b3;have r7:=rb.l b3;clear ra rb
 go_enter func28,ntmps28
 go_upto_region 1 with fail
 rw[hW5.out];clear hW5;have c8:=q1.c 0 rfl;have c9:=q1.c 1 rfl;have c10:=q1.c 3 rfl;have c11:=q2.c 0 rfl;have c12:=q2.c 1 rfl;have c13:=q2.c 3 rfl
 go_wp2
 go_ret
 exact⟨by first|rfl|simp,b3⟩
theorem sameV_m (b:Bool)(c p:Int)(g:Bool)(M N:Nat)(ao bo:Option Addr)(ac bc:Nat)(w:World)(ra:Rd w .u32 (yT ao M ac) (Dg.dg 4294967296 M))(rb:Rd w .u32 (yT bo N bc) (Dg.dg 4294967296 N))
  (HS: ∀w1,Rd w1 .u32 (yT ao M ac) (Dg.dg 4294967296 M)→Rd w1 .u32 (yT bo N bc) (Dg.dg 4294967296 N)→yC 36 #[yT ao M ac,yT bo N bc] w1 (yR w1 (.bool b))):
  yC 28 #[yvV c g (yT ao M ac) p,yvV c g (yT bo N bc) p] w (yR w (.bool b)):=by
 replace HS:Hid _:=HS;obtain⟨W4,hW5,q1,q2,b3⟩:=iG w (yvL c g (yT ao M ac) p) 66 (yvL c g (yT bo N bc) p) 66;replace hW5:Hid _:=hW5;have r6:=ra.l b3;have r7:=rb.l b3;clear ra rb
 go_enter func28,ntmps28
 go_upto_region 1 with fail
 rw[hW5.out];clear hW5;obtain⟨c8,c9,c10,c11⟩:=q1.cs4;obtain⟨c12,c13,c14,c15⟩:=q2.cs4
 go_wp2_with fail
 refine(HS.out _ r6 r7).mono ?_;rintro zz w16 ⟨rfl,bb17⟩;have b18:=aa b3 bb17;clear q1 q2 r6 r7 b3 bb17 HS c8 c9 c10 c11 c12 c13 c14 c15
 go_wp2
 go_ret
 exact⟨by first|rfl|simp,b18⟩
theorem choose9_1 (w:World):
  yC 27 #[yi 1,yi 9] w (yR w (yi 1)):=by
 go_enter func27,ntmps27
 have b0:=Below.refl w.heap.size w
 go_wp2
 go_ret
 exact⟨by first|rfl|simp,b0⟩
theorem choose9_2 (w:World):
  yC 27 #[yi 2,yi 9] w (yR w (yi 2)):=by
 go_enter func27,ntmps27
 have b0:=Below.refl w.heap.size w
 go_wp2
 go_ret
 exact⟨by first|rfl|simp,b0⟩
theorem choose9_3 (w:World):
  yC 27 #[yi 3,yi 9] w (yR w (yi 3)):=by
 go_enter func27,ntmps27
 have b0:=Below.refl w.heap.size w
 go_wp2
 go_ret
 exact⟨by first|rfl|simp,b0⟩
theorem choose9_4 (w:World):
  yC 27 #[yi 4,yi 9] w (yR w (yi 4)):=by
 go_enter func27,ntmps27
 have b0:=Below.refl w.heap.size w
 go_wp2
 go_ret
 exact⟨by first|rfl|simp,b0⟩
theorem choose9_5 (w:World):
  yC 27 #[yi 5,yi 9] w (yR w (yi 5)):=by
 go_enter func27,ntmps27
 have b0:=Below.refl w.heap.size w
 go_wp2
 go_ret
 exact⟨by first|rfl|simp,b0⟩
theorem choose9_6 (w:World):
  yC 27 #[yi 6,yi 9] w (yR w (yi 6)):=by
 go_enter func27,ntmps27
 have b0:=Below.refl w.heap.size w
 go_wp2
 go_ret
 exact⟨by first|rfl|simp,b0⟩
theorem choose9_7 (w:World):
  yC 27 #[yi 7,yi 9] w (yR w (yi 7)):=by
 go_enter func27,ntmps27
 have b0:=Below.refl w.heap.size w
 go_wp2
 go_ret
 exact⟨by first|rfl|simp,b0⟩
theorem choose9_8 (w:World):
  yC 27 #[yi 8,yi 9] w (yR w (yi 8)):=by
 go_enter func27,ntmps27
 have b0:=Below.refl w.heap.size w
 go_wp2
 go_ret
 exact⟨by first|rfl|simp,b0⟩
theorem tback_err (e:Int)(tx:ByteArray)(n:Int)(s:ByteArray)(w:World)(he: ¬e=0)
  (HB:yH w 11 #[] (.bool true))
  (HS:yH w 23 #[yi n,.string s] (.tuple #[.string tx,yi e])):
  yC 7 #[yi n,.string s] w (yR w (.bool true)):=by
 replace HB:Hid _:=HB;replace HS:Hid _:=HS
 go_enter func7,ntmps7
 have b0:=Below.refl w.heap.size w
 go_wp2_with fail
 refine(HB.out _ b0).mono ?_;rintro zz w1 ⟨rfl,bb2⟩;have b3:=aa b0 bb2;clear b0 bb2 HB
 go_wp2_with fail
 refine(HS.out _ b3).mono ?_;rintro zz w4 ⟨rfl,bb5⟩;have b6:=aa b3 bb5;clear b3 bb5 HS
 go_wp2
 go_ret
 exact⟨by first|rfl|simp,b6⟩
theorem tback_cls (c:Int)(tx:ByteArray)(n:Int)(s:ByteArray)(w:World)(hc: ¬c=2)
  (HB:yH w 11 #[] (.bool true))
  (HS:yH w 23 #[yi n,.string s] (.tuple #[.string tx,yi 0]))
  (HC:yJ 25 #[yi n,.string s] (yi c)):
  yC 7 #[yi n,.string s] w (yR w (.bool true)):=by
 replace HB:Hid _:=HB;replace HS:Hid _:=HS;replace HC:Hid _:=HC
 go_enter func7,ntmps7
 have b0:=Below.refl w.heap.size w
 go_wp2_with fail
 refine(HB.out _ b0).mono ?_;rintro zz w1 ⟨rfl,bb2⟩;have b3:=aa b0 bb2;clear b0 bb2 HB
 go_wp2_with fail
 refine(HS.out _ b3).mono ?_;rintro zz w4 ⟨rfl,bb5⟩;have b6:=aa b3 bb5;clear b3 bb5 HS
 go_wp2_with fail
 refine(HC.out _).mono ?_;rintro zz w7 ⟨rfl,bb8⟩;have b9:=aa b6 bb8;clear b6 bb8 HC
 go_wp2
 go_ret
 exact⟨by first|rfl|simp,b9⟩
theorem tnosh_err (e:Int)(tx:ByteArray)(n:Int)(s:ByteArray)(w:World)(he: ¬e=0)
  (HB:yH w 11 #[] (.bool true))
  (HS:yH w 23 #[yi n,.string s] (.tuple #[.string tx,yi e])):
  yC 8 #[yi n,.string s] w (yR w (.bool true)):=by
 replace HB:Hid _:=HB;replace HS:Hid _:=HS
 go_enter func8,ntmps8
 have b0:=Below.refl w.heap.size w
 go_wp2_with fail
 refine(HB.out _ b0).mono ?_;rintro zz w1 ⟨rfl,bb2⟩;have b3:=aa b0 bb2;clear b0 bb2 HB
 go_wp2_with fail
 refine(HS.out _ b3).mono ?_;rintro zz w4 ⟨rfl,bb5⟩;have b6:=aa b3 bb5;clear b3 bb5 HS
 go_wp2
 go_ret
 exact⟨by first|rfl|simp,b6⟩
theorem tnosh_cls (c:Int)(tx:ByteArray)(n:Int)(s:ByteArray)(w:World)(hc: ¬c=2)
  (HB:yH w 11 #[] (.bool true))
  (HS:yH w 23 #[yi n,.string s] (.tuple #[.string tx,yi 0]))
  (HC:yJ 25 #[yi n,.string s] (yi c)):
  yC 8 #[yi n,.string s] w (yR w (.bool true)):=by
 replace HB:Hid _:=HB;replace HS:Hid _:=HS;replace HC:Hid _:=HC
 go_enter func8,ntmps8
 have b0:=Below.refl w.heap.size w
 go_wp2_with fail
 refine(HB.out _ b0).mono ?_;rintro zz w1 ⟨rfl,bb2⟩;have b3:=aa b0 bb2;clear b0 bb2 HB
 go_wp2_with fail
 refine(HS.out _ b3).mono ?_;rintro zz w4 ⟨rfl,bb5⟩;have b6:=aa b3 bb5;clear b3 bb5 HS
 go_wp2_with fail
 refine(HC.out _).mono ?_;rintro zz w7 ⟨rfl,bb8⟩;have b9:=aa b6 bb8;clear b6 bb8 HC
 go_wp2
 go_ret
 exact⟨by first|rfl|simp,b9⟩
theorem tback_1 (g:Bool)(M:Nat)(p f1 f2:Int)(tx ty md:ByteArray)(n:Int)(s:ByteArray)(w:World)
  (HB:yH w 11 #[] (.bool true))
  (HS:yH w 23 #[yi n,.string s] (.tuple #[.string tx,yi 0]))
  (HC:yJ 25 #[yi n,.string s] (yi 2))
  (HD: ∀w1,yB w w1→yC 26 #[yi n,.string s] w1 (eP w1 2 g M p 0))
  (HP:yH w 13 #[yi n,.string tx,yi 1] (.tuple #[.string md,yi f1,yi 0]))
  (HK:yH w 27 #[yi n,yi 9] (yi 1))
  (HQ:yH w 19 #[yi n,.string s,yi 9] (.tuple #[.string ty,yi 0]))
  (HR:yH w 13 #[yi n,.string ty,yi 1] (.tuple #[.string md,yi f2,yi 0]))
  (HE: ∀w1,yB w w1→yC 26 #[yi n,.string md] w1 (eP w1 2 g M p 0))
  (HV: ∀ao ac bo bc w1,yB w w1→Rd w1 .u32 (yT ao M ac) (Dg.dg 4294967296 M)→Rd w1 .u32 (yT bo M bc) (Dg.dg 4294967296 M)→yC 28 #[yvV 2 g (yT ao M ac) p,yvV 2 g (yT bo M bc) p] w1 (yR w1 (.bool true))):
  yC 7 #[yi n,.string s] w (yR w (.bool true)):=by
 replace HB:Hid _:=HB;replace HS:Hid _:=HS;replace HC:Hid _:=HC;replace HD:Hid _:=HD;replace HP:Hid _:=HP;replace HK:Hid _:=HK;replace HQ:Hid _:=HQ;replace HR:Hid _:=HR;replace HE:Hid _:=HE;replace HV:Hid _:=HV
 go_enter func7,ntmps7
 have b0:=Below.refl w.heap.size w
 go_wp2_with fail
 refine(HB.out _ b0).mono ?_;rintro zz w1 ⟨rfl,bb2⟩;have b3:=aa b0 bb2;clear b0 bb2 HB
 go_wp2_with fail
 refine(HS.out _ b3).mono ?_;rintro zz w4 ⟨rfl,bb5⟩;have b6:=aa b3 bb5;clear b3 bb5 HS
 go_wp2_with fail
 refine(HC.out _).mono ?_;rintro zz w7 ⟨rfl,bb8⟩;have b9:=aa b6 bb8;clear b6 bb8 HC
 go_wp2_with fail
 refine(HD.out _ b9).mono ?_;rintro zz w10 ⟨v1x12,rfl,r1x13,bb11⟩;have b14:=aa b9 bb11;obtain⟨xo,xc,hv⟩:=r1x13.shape;subst hv;clear b9 bb11 HD;obtain⟨W17,hW16,q18,al15⟩:=cA w10 (yvL 2 g (yT xo M xc) p) 66;replace hW16:Hid _:=hW16;have hl19:w.heap.size≤w10.heap.size:=b14.size;have r20:=r1x13.l al15;have b21:=aa b14 al15;clear r1x13 b14 al15
 go_upto_region 7 with fail
 rw[hW16.out];clear hW16
 go_wp2_with fail
 refine(HP.out _ b21).mono ?_;rintro zz w22 ⟨rfl,bb23⟩;have q24:=q18.l bb23;have r25:=r20.l bb23;have b26:=aa b21 bb23;clear q18 r20 b21 bb23 HP;have hl29:=q24.lt;have al27:=af w22 (.cells #[yi 0,yi 9,yi 17,yi 21,yi 9,yi 18,yi 9,yi 18,yi 17] 3);have q28:=ah w22 [yi 0,yi 9,yi 17,yi 21,yi 9,yi 18,yi 9,yi 18,yi 17] 3;have q30:=q24.l al27;have r31:=r25.l al27;have b32:=aa b26 al27
 go_wp2_with fail
 refine(HK.out _ b32).mono ?_;rintro zz w33 ⟨rfl,bb34⟩;have q35:=q30.l bb34;have q36:=q28.l bb34;have r37:=r31.l bb34;have b38:=aa b32 bb34;clear q30 q28 r31 b32 bb34 HK q24 r25 b26 al27;have c39:=q36.c 1 rfl
 go_wp2_with fail
 refine(HQ.out _ b38).mono ?_;rintro zz w40 ⟨rfl,bb41⟩;have q42:=q35.l bb41;have r43:=r37.l bb41;have b44:=aa b38 bb41;clear q35 q36 r37 b38 bb41 HQ c39
 go_wp2_with fail
 refine(HR.out _ b44).mono ?_;rintro zz w45 ⟨rfl,bb46⟩;have q47:=q42.l bb46;have r48:=r43.l bb46;have b49:=aa b44 bb46;clear q42 r43 b44 bb46 HR
 go_wp2_with fail
 refine(HE.out _ b49).mono ?_;rintro zz w50 ⟨v1x52,rfl,r1x53,bb51⟩;have q54:=q47.l bb51;have r55:=r48.l bb51;have b56:=aa b49 bb51;obtain⟨yo,yc,hv⟩:=r1x53.shape;subst hv;clear q47 r48 b49 bb51;obtain⟨W59,hW58,q60,al57⟩:=cA w50 (yvL 2 g (yT yo M yc) p) 66;replace hW58:Hid _:=hW58;have hl61:w.heap.size≤w50.heap.size:=b56.size;have hl62:=q54.lt;have q63:=q54.l al57;have r64:=r55.l al57;have r65:=r1x53.l al57;have b66:=aa b56 al57;clear q54 r55 r1x53 b56 al57
 go_upto_region 14 with fail
 rw[hW58.out];clear hW58
 go_wp2_with fail
 refine(HE.out _ b66).mono ?_;rintro zz w67 ⟨v1x69,rfl,r1x70,bb68⟩;have q71:=q63.l bb68;have q72:=q60.l bb68;have r73:=r64.l bb68;have r74:=r65.l bb68;have b75:=aa b66 bb68;obtain⟨zo,zc,hv⟩:=r1x70.shape;subst hv;clear q63 q60 r64 r65 b66 bb68 HE;obtain⟨W78,hW77,q79,al76⟩:=cA w67 (yvL 2 g (yT zo M zc) p) 66;replace hW77:Hid _:=hW77;have hl80:w.heap.size≤w67.heap.size:=b75.size;have hl81:=q71.lt;have hl82:=q72.lt;have q83:=q71.l al76;have q84:=q72.l al76;have r85:=r73.l al76;have r86:=r74.l al76;have r87:=r1x70.l al76;have b88:=aa b75 al76;clear q71 q72 r73 r74 r1x70 b75 al76
 go_upto_region 15 with fail
 rw[hW77.out];clear hW77;obtain⟨c89,c90,c91,c92⟩:=q83.cs4;obtain⟨c93,c94,c95,c96⟩:=q84.cs4
 go_wp2_with fail
 refine(HV.out _ _ _ _ _ b88 r85 r86).mono ?_;rintro zz w97 ⟨rfl,bb98⟩;have q99:=q83.l bb98;have q100:=q79.l bb98;have r101:=r85.l bb98;have r102:=r87.l bb98;have b103:=aa b88 bb98;clear q83 q84 q79 r85 r86 r87 b88 bb98 c89 c90 c91 c92 c93 c94 c95 c96;obtain⟨c104,c105,c106,c107⟩:=q99.cs4;obtain⟨c108,c109,c110,c111⟩:=q100.cs4
 go_wp2_with fail
 refine(HV.out _ _ _ _ _ b103 r101 r102).mono ?_;rintro zz w112 ⟨rfl,bb113⟩;have b114:=aa b103 bb113;clear q99 q100 r101 r102 b103 bb113 HV c104 c105 c106 c107 c108 c109 c110 c111
 go_wp2
 go_ret
 exact⟨by first|rfl|simp,b114⟩
theorem tback_2 (g:Bool)(M:Nat)(p f1 f2:Int)(tx ty md:ByteArray)(n:Int)(s:ByteArray)(w:World)
  (HB:yH w 11 #[] (.bool true))
  (HS:yH w 23 #[yi n,.string s] (.tuple #[.string tx,yi 0]))
  (HC:yJ 25 #[yi n,.string s] (yi 2))
  (HD: ∀w1,yB w w1→yC 26 #[yi n,.string s] w1 (eP w1 2 g M p 0))
  (HP:yH w 13 #[yi n,.string tx,yi 1] (.tuple #[.string md,yi f1,yi 0]))
  (HK:yH w 27 #[yi n,yi 9] (yi 2))
  (HQ:yH w 19 #[yi n,.string s,yi 17] (.tuple #[.string ty,yi 0]))
  (HR:yH w 13 #[yi n,.string ty,yi 1] (.tuple #[.string md,yi f2,yi 0]))
  (HE: ∀w1,yB w w1→yC 26 #[yi n,.string md] w1 (eP w1 2 g M p 0))
  (HV: ∀ao ac bo bc w1,yB w w1→Rd w1 .u32 (yT ao M ac) (Dg.dg 4294967296 M)→Rd w1 .u32 (yT bo M bc) (Dg.dg 4294967296 M)→yC 28 #[yvV 2 g (yT ao M ac) p,yvV 2 g (yT bo M bc) p] w1 (yR w1 (.bool true))):
  yC 7 #[yi n,.string s] w (yR w (.bool true)):=by
 replace HB:Hid _:=HB;replace HS:Hid _:=HS;replace HC:Hid _:=HC;replace HD:Hid _:=HD;replace HP:Hid _:=HP;replace HK:Hid _:=HK;replace HQ:Hid _:=HQ;replace HR:Hid _:=HR;replace HE:Hid _:=HE;replace HV:Hid _:=HV
 go_enter func7,ntmps7
 have b0:=Below.refl w.heap.size w
 go_wp2_with fail
 refine(HB.out _ b0).mono ?_;rintro zz w1 ⟨rfl,bb2⟩;have b3:=aa b0 bb2;clear b0 bb2 HB
 go_wp2_with fail
 refine(HS.out _ b3).mono ?_;rintro zz w4 ⟨rfl,bb5⟩;have b6:=aa b3 bb5;clear b3 bb5 HS
 go_wp2_with fail
 refine(HC.out _).mono ?_;rintro zz w7 ⟨rfl,bb8⟩;have b9:=aa b6 bb8;clear b6 bb8 HC
 go_wp2_with fail
 refine(HD.out _ b9).mono ?_;rintro zz w10 ⟨v1x12,rfl,r1x13,bb11⟩;have b14:=aa b9 bb11;obtain⟨xo,xc,hv⟩:=r1x13.shape;subst hv;clear b9 bb11 HD;obtain⟨W17,hW16,q18,al15⟩:=cA w10 (yvL 2 g (yT xo M xc) p) 66;replace hW16:Hid _:=hW16;have hl19:w.heap.size≤w10.heap.size:=b14.size;have r20:=r1x13.l al15;have b21:=aa b14 al15;clear r1x13 b14 al15
 go_upto_region 7 with fail
 rw[hW16.out];clear hW16
 go_wp2_with fail
 refine(HP.out _ b21).mono ?_;rintro zz w22 ⟨rfl,bb23⟩;have q24:=q18.l bb23;have r25:=r20.l bb23;have b26:=aa b21 bb23;clear q18 r20 b21 bb23 HP;have hl29:=q24.lt;have al27:=af w22 (.cells #[yi 0,yi 9,yi 17,yi 21,yi 9,yi 18,yi 9,yi 18,yi 17] 3);have q28:=ah w22 [yi 0,yi 9,yi 17,yi 21,yi 9,yi 18,yi 9,yi 18,yi 17] 3;have q30:=q24.l al27;have r31:=r25.l al27;have b32:=aa b26 al27
 go_wp2_with fail
 refine(HK.out _ b32).mono ?_;rintro zz w33 ⟨rfl,bb34⟩;have q35:=q30.l bb34;have q36:=q28.l bb34;have r37:=r31.l bb34;have b38:=aa b32 bb34;clear q30 q28 r31 b32 bb34 HK q24 r25 b26 al27;have c39:=q36.c 2 rfl
 go_wp2_with fail
 refine(HQ.out _ b38).mono ?_;rintro zz w40 ⟨rfl,bb41⟩;have q42:=q35.l bb41;have r43:=r37.l bb41;have b44:=aa b38 bb41;clear q35 q36 r37 b38 bb41 HQ c39
 go_wp2_with fail
 refine(HR.out _ b44).mono ?_;rintro zz w45 ⟨rfl,bb46⟩;have q47:=q42.l bb46;have r48:=r43.l bb46;have b49:=aa b44 bb46;clear q42 r43 b44 bb46 HR
 go_wp2_with fail
 refine(HE.out _ b49).mono ?_;rintro zz w50 ⟨v1x52,rfl,r1x53,bb51⟩;have q54:=q47.l bb51;have r55:=r48.l bb51;have b56:=aa b49 bb51;obtain⟨yo,yc,hv⟩:=r1x53.shape;subst hv;clear q47 r48 b49 bb51;obtain⟨W59,hW58,q60,al57⟩:=cA w50 (yvL 2 g (yT yo M yc) p) 66;replace hW58:Hid _:=hW58;have hl61:w.heap.size≤w50.heap.size:=b56.size;have hl62:=q54.lt;have q63:=q54.l al57;have r64:=r55.l al57;have r65:=r1x53.l al57;have b66:=aa b56 al57;clear q54 r55 r1x53 b56 al57
 go_upto_region 14 with fail
 rw[hW58.out];clear hW58
 go_wp2_with fail
 refine(HE.out _ b66).mono ?_;rintro zz w67 ⟨v1x69,rfl,r1x70,bb68⟩;have q71:=q63.l bb68;have q72:=q60.l bb68;have r73:=r64.l bb68;have r74:=r65.l bb68;have b75:=aa b66 bb68;obtain⟨zo,zc,hv⟩:=r1x70.shape;subst hv;clear q63 q60 r64 r65 b66 bb68 HE;obtain⟨W78,hW77,q79,al76⟩:=cA w67 (yvL 2 g (yT zo M zc) p) 66;replace hW77:Hid _:=hW77;have hl80:w.heap.size≤w67.heap.size:=b75.size;have hl81:=q71.lt;have hl82:=q72.lt;have q83:=q71.l al76;have q84:=q72.l al76;have r85:=r73.l al76;have r86:=r74.l al76;have r87:=r1x70.l al76;have b88:=aa b75 al76;clear q71 q72 r73 r74 r1x70 b75 al76
 go_upto_region 15 with fail
 rw[hW77.out];clear hW77;obtain⟨c89,c90,c91,c92⟩:=q83.cs4;obtain⟨c93,c94,c95,c96⟩:=q84.cs4
 go_wp2_with fail
 refine(HV.out _ _ _ _ _ b88 r85 r86).mono ?_;rintro zz w97 ⟨rfl,bb98⟩;have q99:=q83.l bb98;have q100:=q79.l bb98;have r101:=r85.l bb98;have r102:=r87.l bb98;have b103:=aa b88 bb98;clear q83 q84 q79 r85 r86 r87 b88 bb98 c89 c90 c91 c92 c93 c94 c95 c96;obtain⟨c104,c105,c106,c107⟩:=q99.cs4;obtain⟨c108,c109,c110,c111⟩:=q100.cs4
 go_wp2_with fail
 refine(HV.out _ _ _ _ _ b103 r101 r102).mono ?_;rintro zz w112 ⟨rfl,bb113⟩;have b114:=aa b103 bb113;clear q99 q100 r101 r102 b103 bb113 HV c104 c105 c106 c107 c108 c109 c110 c111
 go_wp2
 go_ret
 exact⟨by first|rfl|simp,b114⟩
theorem tback_3 (g:Bool)(M:Nat)(p f1 f2:Int)(tx ty md:ByteArray)(n:Int)(s:ByteArray)(w:World)
  (HB:yH w 11 #[] (.bool true))
  (HS:yH w 23 #[yi n,.string s] (.tuple #[.string tx,yi 0]))
  (HC:yJ 25 #[yi n,.string s] (yi 2))
  (HD: ∀w1,yB w w1→yC 26 #[yi n,.string s] w1 (eP w1 2 g M p 0))
  (HP:yH w 13 #[yi n,.string tx,yi 1] (.tuple #[.string md,yi f1,yi 0]))
  (HK:yH w 27 #[yi n,yi 9] (yi 3))
  (HQ:yH w 19 #[yi n,.string s,yi 21] (.tuple #[.string ty,yi 0]))
  (HR:yH w 13 #[yi n,.string ty,yi 1] (.tuple #[.string md,yi f2,yi 0]))
  (HE: ∀w1,yB w w1→yC 26 #[yi n,.string md] w1 (eP w1 2 g M p 0))
  (HV: ∀ao ac bo bc w1,yB w w1→Rd w1 .u32 (yT ao M ac) (Dg.dg 4294967296 M)→Rd w1 .u32 (yT bo M bc) (Dg.dg 4294967296 M)→yC 28 #[yvV 2 g (yT ao M ac) p,yvV 2 g (yT bo M bc) p] w1 (yR w1 (.bool true))):
  yC 7 #[yi n,.string s] w (yR w (.bool true)):=by
 replace HB:Hid _:=HB;replace HS:Hid _:=HS;replace HC:Hid _:=HC;replace HD:Hid _:=HD;replace HP:Hid _:=HP;replace HK:Hid _:=HK;replace HQ:Hid _:=HQ;replace HR:Hid _:=HR;replace HE:Hid _:=HE;replace HV:Hid _:=HV
 go_enter func7,ntmps7
 have b0:=Below.refl w.heap.size w
 go_wp2_with fail
 refine(HB.out _ b0).mono ?_;rintro zz w1 ⟨rfl,bb2⟩;have b3:=aa b0 bb2;clear b0 bb2 HB
 go_wp2_with fail
 refine(HS.out _ b3).mono ?_;rintro zz w4 ⟨rfl,bb5⟩;have b6:=aa b3 bb5;clear b3 bb5 HS
 go_wp2_with fail
 refine(HC.out _).mono ?_;rintro zz w7 ⟨rfl,bb8⟩;have b9:=aa b6 bb8;clear b6 bb8 HC
 go_wp2_with fail
 refine(HD.out _ b9).mono ?_;rintro zz w10 ⟨v1x12,rfl,r1x13,bb11⟩;have b14:=aa b9 bb11;obtain⟨xo,xc,hv⟩:=r1x13.shape;subst hv;clear b9 bb11 HD;obtain⟨W17,hW16,q18,al15⟩:=cA w10 (yvL 2 g (yT xo M xc) p) 66;replace hW16:Hid _:=hW16;have hl19:w.heap.size≤w10.heap.size:=b14.size;have r20:=r1x13.l al15;have b21:=aa b14 al15;clear r1x13 b14 al15
 go_upto_region 7 with fail
 rw[hW16.out];clear hW16
 go_wp2_with fail
 refine(HP.out _ b21).mono ?_;rintro zz w22 ⟨rfl,bb23⟩;have q24:=q18.l bb23;have r25:=r20.l bb23;have b26:=aa b21 bb23;clear q18 r20 b21 bb23 HP;have hl29:=q24.lt;have al27:=af w22 (.cells #[yi 0,yi 9,yi 17,yi 21,yi 9,yi 18,yi 9,yi 18,yi 17] 3);have q28:=ah w22 [yi 0,yi 9,yi 17,yi 21,yi 9,yi 18,yi 9,yi 18,yi 17] 3;have q30:=q24.l al27;have r31:=r25.l al27;have b32:=aa b26 al27
 go_wp2_with fail
 refine(HK.out _ b32).mono ?_;rintro zz w33 ⟨rfl,bb34⟩;have q35:=q30.l bb34;have q36:=q28.l bb34;have r37:=r31.l bb34;have b38:=aa b32 bb34;clear q30 q28 r31 b32 bb34 HK q24 r25 b26 al27;have c39:=q36.c 3 rfl
 go_wp2_with fail
 refine(HQ.out _ b38).mono ?_;rintro zz w40 ⟨rfl,bb41⟩;have q42:=q35.l bb41;have r43:=r37.l bb41;have b44:=aa b38 bb41;clear q35 q36 r37 b38 bb41 HQ c39
 go_wp2_with fail
 refine(HR.out _ b44).mono ?_;rintro zz w45 ⟨rfl,bb46⟩;have q47:=q42.l bb46;have r48:=r43.l bb46;have b49:=aa b44 bb46;clear q42 r43 b44 bb46 HR
 go_wp2_with fail
 refine(HE.out _ b49).mono ?_;rintro zz w50 ⟨v1x52,rfl,r1x53,bb51⟩;have q54:=q47.l bb51;have r55:=r48.l bb51;have b56:=aa b49 bb51;obtain⟨yo,yc,hv⟩:=r1x53.shape;subst hv;clear q47 r48 b49 bb51;obtain⟨W59,hW58,q60,al57⟩:=cA w50 (yvL 2 g (yT yo M yc) p) 66;replace hW58:Hid _:=hW58;have hl61:w.heap.size≤w50.heap.size:=b56.size;have hl62:=q54.lt;have q63:=q54.l al57;have r64:=r55.l al57;have r65:=r1x53.l al57;have b66:=aa b56 al57;clear q54 r55 r1x53 b56 al57
 go_upto_region 14 with fail
 rw[hW58.out];clear hW58
 go_wp2_with fail
 refine(HE.out _ b66).mono ?_;rintro zz w67 ⟨v1x69,rfl,r1x70,bb68⟩;have q71:=q63.l bb68;have q72:=q60.l bb68;have r73:=r64.l bb68;have r74:=r65.l bb68;have b75:=aa b66 bb68;obtain⟨zo,zc,hv⟩:=r1x70.shape;subst hv;clear q63 q60 r64 r65 b66 bb68 HE;obtain⟨W78,hW77,q79,al76⟩:=cA w67 (yvL 2 g (yT zo M zc) p) 66;replace hW77:Hid _:=hW77;have hl80:w.heap.size≤w67.heap.size:=b75.size;have hl81:=q71.lt;have hl82:=q72.lt;have q83:=q71.l al76;have q84:=q72.l al76;have r85:=r73.l al76;have r86:=r74.l al76;have r87:=r1x70.l al76;have b88:=aa b75 al76;clear q71 q72 r73 r74 r1x70 b75 al76
 go_upto_region 15 with fail
 rw[hW77.out];clear hW77;obtain⟨c89,c90,c91,c92⟩:=q83.cs4;obtain⟨c93,c94,c95,c96⟩:=q84.cs4
 go_wp2_with fail
 refine(HV.out _ _ _ _ _ b88 r85 r86).mono ?_;rintro zz w97 ⟨rfl,bb98⟩;have q99:=q83.l bb98;have q100:=q79.l bb98;have r101:=r85.l bb98;have r102:=r87.l bb98;have b103:=aa b88 bb98;clear q83 q84 q79 r85 r86 r87 b88 bb98 c89 c90 c91 c92 c93 c94 c95 c96;obtain⟨c104,c105,c106,c107⟩:=q99.cs4;obtain⟨c108,c109,c110,c111⟩:=q100.cs4
 go_wp2_with fail
 refine(HV.out _ _ _ _ _ b103 r101 r102).mono ?_;rintro zz w112 ⟨rfl,bb113⟩;have b114:=aa b103 bb113;clear q99 q100 r101 r102 b103 bb113 HV c104 c105 c106 c107 c108 c109 c110 c111
 go_wp2
 go_ret
 exact⟨by first|rfl|simp,b114⟩
theorem tback_4 (g:Bool)(M:Nat)(p f1 f2:Int)(tx ty md:ByteArray)(n:Int)(s:ByteArray)(w:World)
  (HB:yH w 11 #[] (.bool true))
  (HS:yH w 23 #[yi n,.string s] (.tuple #[.string tx,yi 0]))
  (HC:yJ 25 #[yi n,.string s] (yi 2))
  (HD: ∀w1,yB w w1→yC 26 #[yi n,.string s] w1 (eP w1 2 g M p 0))
  (HP:yH w 13 #[yi n,.string tx,yi 1] (.tuple #[.string md,yi f1,yi 0]))
  (HK:yH w 27 #[yi n,yi 9] (yi 4))
  (HQ:yH w 19 #[yi n,.string s,yi 9] (.tuple #[.string ty,yi 0]))
  (HR:yH w 13 #[yi n,.string ty,yi 1] (.tuple #[.string md,yi f2,yi 0]))
  (HE: ∀w1,yB w w1→yC 26 #[yi n,.string md] w1 (eP w1 2 g M p 0))
  (HV: ∀ao ac bo bc w1,yB w w1→Rd w1 .u32 (yT ao M ac) (Dg.dg 4294967296 M)→Rd w1 .u32 (yT bo M bc) (Dg.dg 4294967296 M)→yC 28 #[yvV 2 g (yT ao M ac) p,yvV 2 g (yT bo M bc) p] w1 (yR w1 (.bool true))):
  yC 7 #[yi n,.string s] w (yR w (.bool true)):=by
 replace HB:Hid _:=HB;replace HS:Hid _:=HS;replace HC:Hid _:=HC;replace HD:Hid _:=HD;replace HP:Hid _:=HP;replace HK:Hid _:=HK;replace HQ:Hid _:=HQ;replace HR:Hid _:=HR;replace HE:Hid _:=HE;replace HV:Hid _:=HV
 go_enter func7,ntmps7
 have b0:=Below.refl w.heap.size w
 go_wp2_with fail
 refine(HB.out _ b0).mono ?_;rintro zz w1 ⟨rfl,bb2⟩;have b3:=aa b0 bb2;clear b0 bb2 HB
 go_wp2_with fail
 refine(HS.out _ b3).mono ?_;rintro zz w4 ⟨rfl,bb5⟩;have b6:=aa b3 bb5;clear b3 bb5 HS
 go_wp2_with fail
 refine(HC.out _).mono ?_;rintro zz w7 ⟨rfl,bb8⟩;have b9:=aa b6 bb8;clear b6 bb8 HC
 go_wp2_with fail
 refine(HD.out _ b9).mono ?_;rintro zz w10 ⟨v1x12,rfl,r1x13,bb11⟩;have b14:=aa b9 bb11;obtain⟨xo,xc,hv⟩:=r1x13.shape;subst hv;clear b9 bb11 HD;obtain⟨W17,hW16,q18,al15⟩:=cA w10 (yvL 2 g (yT xo M xc) p) 66;replace hW16:Hid _:=hW16;have hl19:w.heap.size≤w10.heap.size:=b14.size;have r20:=r1x13.l al15;have b21:=aa b14 al15;clear r1x13 b14 al15
 go_upto_region 7 with fail
 rw[hW16.out];clear hW16
 go_wp2_with fail
 refine(HP.out _ b21).mono ?_;rintro zz w22 ⟨rfl,bb23⟩;have q24:=q18.l bb23;have r25:=r20.l bb23;have b26:=aa b21 bb23;clear q18 r20 b21 bb23 HP;have hl29:=q24.lt;have al27:=af w22 (.cells #[yi 0,yi 9,yi 17,yi 21,yi 9,yi 18,yi 9,yi 18,yi 17] 3);have q28:=ah w22 [yi 0,yi 9,yi 17,yi 21,yi 9,yi 18,yi 9,yi 18,yi 17] 3;have q30:=q24.l al27;have r31:=r25.l al27;have b32:=aa b26 al27
 go_wp2_with fail
 refine(HK.out _ b32).mono ?_;rintro zz w33 ⟨rfl,bb34⟩;have q35:=q30.l bb34;have q36:=q28.l bb34;have r37:=r31.l bb34;have b38:=aa b32 bb34;clear q30 q28 r31 b32 bb34 HK q24 r25 b26 al27;have c39:=q36.c 4 rfl
 go_wp2_with fail
 refine(HQ.out _ b38).mono ?_;rintro zz w40 ⟨rfl,bb41⟩;have q42:=q35.l bb41;have r43:=r37.l bb41;have b44:=aa b38 bb41;clear q35 q36 r37 b38 bb41 HQ c39
 go_wp2_with fail
 refine(HR.out _ b44).mono ?_;rintro zz w45 ⟨rfl,bb46⟩;have q47:=q42.l bb46;have r48:=r43.l bb46;have b49:=aa b44 bb46;clear q42 r43 b44 bb46 HR
 go_wp2_with fail
 refine(HE.out _ b49).mono ?_;rintro zz w50 ⟨v1x52,rfl,r1x53,bb51⟩;have q54:=q47.l bb51;have r55:=r48.l bb51;have b56:=aa b49 bb51;obtain⟨yo,yc,hv⟩:=r1x53.shape;subst hv;clear q47 r48 b49 bb51;obtain⟨W59,hW58,q60,al57⟩:=cA w50 (yvL 2 g (yT yo M yc) p) 66;replace hW58:Hid _:=hW58;have hl61:w.heap.size≤w50.heap.size:=b56.size;have hl62:=q54.lt;have q63:=q54.l al57;have r64:=r55.l al57;have r65:=r1x53.l al57;have b66:=aa b56 al57;clear q54 r55 r1x53 b56 al57
 go_upto_region 14 with fail
 rw[hW58.out];clear hW58
 go_wp2_with fail
 refine(HE.out _ b66).mono ?_;rintro zz w67 ⟨v1x69,rfl,r1x70,bb68⟩;have q71:=q63.l bb68;have q72:=q60.l bb68;have r73:=r64.l bb68;have r74:=r65.l bb68;have b75:=aa b66 bb68;obtain⟨zo,zc,hv⟩:=r1x70.shape;subst hv;clear q63 q60 r64 r65 b66 bb68 HE;obtain⟨W78,hW77,q79,al76⟩:=cA w67 (yvL 2 g (yT zo M zc) p) 66;replace hW77:Hid _:=hW77;have hl80:w.heap.size≤w67.heap.size:=b75.size;have hl81:=q71.lt;have hl82:=q72.lt;have q83:=q71.l al76;have q84:=q72.l al76;have r85:=r73.l al76;have r86:=r74.l al76;have r87:=r1x70.l al76;have b88:=aa b75 al76;clear q71 q72 r73 r74 r1x70 b75 al76
 go_upto_region 15 with fail
 rw[hW77.out];clear hW77;obtain⟨c89,c90,c91,c92⟩:=q83.cs4;obtain⟨c93,c94,c95,c96⟩:=q84.cs4
 go_wp2_with fail
 refine(HV.out _ _ _ _ _ b88 r85 r86).mono ?_;rintro zz w97 ⟨rfl,bb98⟩;have q99:=q83.l bb98;have q100:=q79.l bb98;have r101:=r85.l bb98;have r102:=r87.l bb98;have b103:=aa b88 bb98;clear q83 q84 q79 r85 r86 r87 b88 bb98 c89 c90 c91 c92 c93 c94 c95 c96;obtain⟨c104,c105,c106,c107⟩:=q99.cs4;obtain⟨c108,c109,c110,c111⟩:=q100.cs4
 go_wp2_with fail
 refine(HV.out _ _ _ _ _ b103 r101 r102).mono ?_;rintro zz w112 ⟨rfl,bb113⟩;have b114:=aa b103 bb113;clear q99 q100 r101 r102 b103 bb113 HV c104 c105 c106 c107 c108 c109 c110 c111
 go_wp2
 go_ret
 exact⟨by first|rfl|simp,b114⟩
theorem tback_5 (g:Bool)(M:Nat)(p f1 f2:Int)(tx ty md:ByteArray)(n:Int)(s:ByteArray)(w:World)
  (HB:yH w 11 #[] (.bool true))
  (HS:yH w 23 #[yi n,.string s] (.tuple #[.string tx,yi 0]))
  (HC:yJ 25 #[yi n,.string s] (yi 2))
  (HD: ∀w1,yB w w1→yC 26 #[yi n,.string s] w1 (eP w1 2 g M p 0))
  (HP:yH w 13 #[yi n,.string tx,yi 1] (.tuple #[.string md,yi f1,yi 0]))
  (HK:yH w 27 #[yi n,yi 9] (yi 5))
  (HQ:yH w 19 #[yi n,.string s,yi 18] (.tuple #[.string ty,yi 0]))
  (HR:yH w 13 #[yi n,.string ty,yi 1] (.tuple #[.string md,yi f2,yi 0]))
  (HE: ∀w1,yB w w1→yC 26 #[yi n,.string md] w1 (eP w1 2 g M p 0))
  (HV: ∀ao ac bo bc w1,yB w w1→Rd w1 .u32 (yT ao M ac) (Dg.dg 4294967296 M)→Rd w1 .u32 (yT bo M bc) (Dg.dg 4294967296 M)→yC 28 #[yvV 2 g (yT ao M ac) p,yvV 2 g (yT bo M bc) p] w1 (yR w1 (.bool true))):
  yC 7 #[yi n,.string s] w (yR w (.bool true)):=by
 replace HB:Hid _:=HB;replace HS:Hid _:=HS;replace HC:Hid _:=HC;replace HD:Hid _:=HD;replace HP:Hid _:=HP;replace HK:Hid _:=HK;replace HQ:Hid _:=HQ;replace HR:Hid _:=HR;replace HE:Hid _:=HE;replace HV:Hid _:=HV
 go_enter func7,ntmps7
 have b0:=Below.refl w.heap.size w
 go_wp2_with fail
 refine(HB.out _ b0).mono ?_;rintro zz w1 ⟨rfl,bb2⟩;have b3:=aa b0 bb2;clear b0 bb2 HB
 go_wp2_with fail
 refine(HS.out _ b3).mono ?_;rintro zz w4 ⟨rfl,bb5⟩;have b6:=aa b3 bb5;clear b3 bb5 HS
 go_wp2_with fail
 refine(HC.out _).mono ?_;rintro zz w7 ⟨rfl,bb8⟩;have b9:=aa b6 bb8;clear b6 bb8 HC
 go_wp2_with fail
 refine(HD.out _ b9).mono ?_;rintro zz w10 ⟨v1x12,rfl,r1x13,bb11⟩;have b14:=aa b9 bb11;obtain⟨xo,xc,hv⟩:=r1x13.shape;subst hv;clear b9 bb11 HD;obtain⟨W17,hW16,q18,al15⟩:=cA w10 (yvL 2 g (yT xo M xc) p) 66;replace hW16:Hid _:=hW16;have hl19:w.heap.size≤w10.heap.size:=b14.size;have r20:=r1x13.l al15;have b21:=aa b14 al15;clear r1x13 b14 al15
 go_upto_region 7 with fail
 rw[hW16.out];clear hW16
 go_wp2_with fail
 refine(HP.out _ b21).mono ?_;rintro zz w22 ⟨rfl,bb23⟩;have q24:=q18.l bb23;have r25:=r20.l bb23;have b26:=aa b21 bb23;clear q18 r20 b21 bb23 HP;have hl29:=q24.lt;have al27:=af w22 (.cells #[yi 0,yi 9,yi 17,yi 21,yi 9,yi 18,yi 9,yi 18,yi 17] 3);have q28:=ah w22 [yi 0,yi 9,yi 17,yi 21,yi 9,yi 18,yi 9,yi 18,yi 17] 3;have q30:=q24.l al27;have r31:=r25.l al27;have b32:=aa b26 al27
 go_wp2_with fail
 refine(HK.out _ b32).mono ?_;rintro zz w33 ⟨rfl,bb34⟩;have q35:=q30.l bb34;have q36:=q28.l bb34;have r37:=r31.l bb34;have b38:=aa b32 bb34;clear q30 q28 r31 b32 bb34 HK q24 r25 b26 al27;have c39:=q36.c 5 rfl
 go_wp2_with fail
 refine(HQ.out _ b38).mono ?_;rintro zz w40 ⟨rfl,bb41⟩;have q42:=q35.l bb41;have r43:=r37.l bb41;have b44:=aa b38 bb41;clear q35 q36 r37 b38 bb41 HQ c39
 go_wp2_with fail
 refine(HR.out _ b44).mono ?_;rintro zz w45 ⟨rfl,bb46⟩;have q47:=q42.l bb46;have r48:=r43.l bb46;have b49:=aa b44 bb46;clear q42 r43 b44 bb46 HR
 go_wp2_with fail
 refine(HE.out _ b49).mono ?_;rintro zz w50 ⟨v1x52,rfl,r1x53,bb51⟩;have q54:=q47.l bb51;have r55:=r48.l bb51;have b56:=aa b49 bb51;obtain⟨yo,yc,hv⟩:=r1x53.shape;subst hv;clear q47 r48 b49 bb51;obtain⟨W59,hW58,q60,al57⟩:=cA w50 (yvL 2 g (yT yo M yc) p) 66;replace hW58:Hid _:=hW58;have hl61:w.heap.size≤w50.heap.size:=b56.size;have hl62:=q54.lt;have q63:=q54.l al57;have r64:=r55.l al57;have r65:=r1x53.l al57;have b66:=aa b56 al57;clear q54 r55 r1x53 b56 al57
 go_upto_region 14 with fail
 rw[hW58.out];clear hW58
 go_wp2_with fail
 refine(HE.out _ b66).mono ?_;rintro zz w67 ⟨v1x69,rfl,r1x70,bb68⟩;have q71:=q63.l bb68;have q72:=q60.l bb68;have r73:=r64.l bb68;have r74:=r65.l bb68;have b75:=aa b66 bb68;obtain⟨zo,zc,hv⟩:=r1x70.shape;subst hv;clear q63 q60 r64 r65 b66 bb68 HE;obtain⟨W78,hW77,q79,al76⟩:=cA w67 (yvL 2 g (yT zo M zc) p) 66;replace hW77:Hid _:=hW77;have hl80:w.heap.size≤w67.heap.size:=b75.size;have hl81:=q71.lt;have hl82:=q72.lt;have q83:=q71.l al76;have q84:=q72.l al76;have r85:=r73.l al76;have r86:=r74.l al76;have r87:=r1x70.l al76;have b88:=aa b75 al76;clear q71 q72 r73 r74 r1x70 b75 al76
 go_upto_region 15 with fail
 rw[hW77.out];clear hW77;obtain⟨c89,c90,c91,c92⟩:=q83.cs4;obtain⟨c93,c94,c95,c96⟩:=q84.cs4
 go_wp2_with fail
 refine(HV.out _ _ _ _ _ b88 r85 r86).mono ?_;rintro zz w97 ⟨rfl,bb98⟩;have q99:=q83.l bb98;have q100:=q79.l bb98;have r101:=r85.l bb98;have r102:=r87.l bb98;have b103:=aa b88 bb98;clear q83 q84 q79 r85 r86 r87 b88 bb98 c89 c90 c91 c92 c93 c94 c95 c96;obtain⟨c104,c105,c106,c107⟩:=q99.cs4;obtain⟨c108,c109,c110,c111⟩:=q100.cs4
 go_wp2_with fail
 refine(HV.out _ _ _ _ _ b103 r101 r102).mono ?_;rintro zz w112 ⟨rfl,bb113⟩;have b114:=aa b103 bb113;clear q99 q100 r101 r102 b103 bb113 HV c104 c105 c106 c107 c108 c109 c110 c111
 go_wp2
 go_ret
 exact⟨by first|rfl|simp,b114⟩
theorem tback_6 (g:Bool)(M:Nat)(p f1 f2:Int)(tx ty md:ByteArray)(n:Int)(s:ByteArray)(w:World)
  (HB:yH w 11 #[] (.bool true))
  (HS:yH w 23 #[yi n,.string s] (.tuple #[.string tx,yi 0]))
  (HC:yJ 25 #[yi n,.string s] (yi 2))
  (HD: ∀w1,yB w w1→yC 26 #[yi n,.string s] w1 (eP w1 2 g M p 0))
  (HP:yH w 13 #[yi n,.string tx,yi 1] (.tuple #[.string md,yi f1,yi 0]))
  (HK:yH w 27 #[yi n,yi 9] (yi 6))
  (HQ:yH w 19 #[yi n,.string s,yi 9] (.tuple #[.string ty,yi 0]))
  (HR:yH w 13 #[yi n,.string ty,yi 1] (.tuple #[.string md,yi f2,yi 0]))
  (HE: ∀w1,yB w w1→yC 26 #[yi n,.string md] w1 (eP w1 2 g M p 0))
  (HV: ∀ao ac bo bc w1,yB w w1→Rd w1 .u32 (yT ao M ac) (Dg.dg 4294967296 M)→Rd w1 .u32 (yT bo M bc) (Dg.dg 4294967296 M)→yC 28 #[yvV 2 g (yT ao M ac) p,yvV 2 g (yT bo M bc) p] w1 (yR w1 (.bool true))):
  yC 7 #[yi n,.string s] w (yR w (.bool true)):=by
 replace HB:Hid _:=HB;replace HS:Hid _:=HS;replace HC:Hid _:=HC;replace HD:Hid _:=HD;replace HP:Hid _:=HP;replace HK:Hid _:=HK;replace HQ:Hid _:=HQ;replace HR:Hid _:=HR;replace HE:Hid _:=HE;replace HV:Hid _:=HV
 go_enter func7,ntmps7
 have b0:=Below.refl w.heap.size w
 go_wp2_with fail
 refine(HB.out _ b0).mono ?_;rintro zz w1 ⟨rfl,bb2⟩;have b3:=aa b0 bb2;clear b0 bb2 HB
 go_wp2_with fail
 refine(HS.out _ b3).mono ?_;rintro zz w4 ⟨rfl,bb5⟩;have b6:=aa b3 bb5;clear b3 bb5 HS
 go_wp2_with fail
 refine(HC.out _).mono ?_;rintro zz w7 ⟨rfl,bb8⟩;have b9:=aa b6 bb8;clear b6 bb8 HC
 go_wp2_with fail
 refine(HD.out _ b9).mono ?_;rintro zz w10 ⟨v1x12,rfl,r1x13,bb11⟩;have b14:=aa b9 bb11;obtain⟨xo,xc,hv⟩:=r1x13.shape;subst hv;clear b9 bb11 HD;obtain⟨W17,hW16,q18,al15⟩:=cA w10 (yvL 2 g (yT xo M xc) p) 66;replace hW16:Hid _:=hW16;have hl19:w.heap.size≤w10.heap.size:=b14.size;have r20:=r1x13.l al15;have b21:=aa b14 al15;clear r1x13 b14 al15
 go_upto_region 7 with fail
 rw[hW16.out];clear hW16
 go_wp2_with fail
 refine(HP.out _ b21).mono ?_;rintro zz w22 ⟨rfl,bb23⟩;have q24:=q18.l bb23;have r25:=r20.l bb23;have b26:=aa b21 bb23;clear q18 r20 b21 bb23 HP;have hl29:=q24.lt;have al27:=af w22 (.cells #[yi 0,yi 9,yi 17,yi 21,yi 9,yi 18,yi 9,yi 18,yi 17] 3);have q28:=ah w22 [yi 0,yi 9,yi 17,yi 21,yi 9,yi 18,yi 9,yi 18,yi 17] 3;have q30:=q24.l al27;have r31:=r25.l al27;have b32:=aa b26 al27
 go_wp2_with fail
 refine(HK.out _ b32).mono ?_;rintro zz w33 ⟨rfl,bb34⟩;have q35:=q30.l bb34;have q36:=q28.l bb34;have r37:=r31.l bb34;have b38:=aa b32 bb34;clear q30 q28 r31 b32 bb34 HK q24 r25 b26 al27;have c39:=q36.c 6 rfl
 go_wp2_with fail
 refine(HQ.out _ b38).mono ?_;rintro zz w40 ⟨rfl,bb41⟩;have q42:=q35.l bb41;have r43:=r37.l bb41;have b44:=aa b38 bb41;clear q35 q36 r37 b38 bb41 HQ c39
 go_wp2_with fail
 refine(HR.out _ b44).mono ?_;rintro zz w45 ⟨rfl,bb46⟩;have q47:=q42.l bb46;have r48:=r43.l bb46;have b49:=aa b44 bb46;clear q42 r43 b44 bb46 HR
 go_wp2_with fail
 refine(HE.out _ b49).mono ?_;rintro zz w50 ⟨v1x52,rfl,r1x53,bb51⟩;have q54:=q47.l bb51;have r55:=r48.l bb51;have b56:=aa b49 bb51;obtain⟨yo,yc,hv⟩:=r1x53.shape;subst hv;clear q47 r48 b49 bb51;obtain⟨W59,hW58,q60,al57⟩:=cA w50 (yvL 2 g (yT yo M yc) p) 66;replace hW58:Hid _:=hW58;have hl61:w.heap.size≤w50.heap.size:=b56.size;have hl62:=q54.lt;have q63:=q54.l al57;have r64:=r55.l al57;have r65:=r1x53.l al57;have b66:=aa b56 al57;clear q54 r55 r1x53 b56 al57
 go_upto_region 14 with fail
 rw[hW58.out];clear hW58
 go_wp2_with fail
 refine(HE.out _ b66).mono ?_;rintro zz w67 ⟨v1x69,rfl,r1x70,bb68⟩;have q71:=q63.l bb68;have q72:=q60.l bb68;have r73:=r64.l bb68;have r74:=r65.l bb68;have b75:=aa b66 bb68;obtain⟨zo,zc,hv⟩:=r1x70.shape;subst hv;clear q63 q60 r64 r65 b66 bb68 HE;obtain⟨W78,hW77,q79,al76⟩:=cA w67 (yvL 2 g (yT zo M zc) p) 66;replace hW77:Hid _:=hW77;have hl80:w.heap.size≤w67.heap.size:=b75.size;have hl81:=q71.lt;have hl82:=q72.lt;have q83:=q71.l al76;have q84:=q72.l al76;have r85:=r73.l al76;have r86:=r74.l al76;have r87:=r1x70.l al76;have b88:=aa b75 al76;clear q71 q72 r73 r74 r1x70 b75 al76
 go_upto_region 15 with fail
 rw[hW77.out];clear hW77;obtain⟨c89,c90,c91,c92⟩:=q83.cs4;obtain⟨c93,c94,c95,c96⟩:=q84.cs4
 go_wp2_with fail
 refine(HV.out _ _ _ _ _ b88 r85 r86).mono ?_;rintro zz w97 ⟨rfl,bb98⟩;have q99:=q83.l bb98;have q100:=q79.l bb98;have r101:=r85.l bb98;have r102:=r87.l bb98;have b103:=aa b88 bb98;clear q83 q84 q79 r85 r86 r87 b88 bb98 c89 c90 c91 c92 c93 c94 c95 c96;obtain⟨c104,c105,c106,c107⟩:=q99.cs4;obtain⟨c108,c109,c110,c111⟩:=q100.cs4
 go_wp2_with fail
 refine(HV.out _ _ _ _ _ b103 r101 r102).mono ?_;rintro zz w112 ⟨rfl,bb113⟩;have b114:=aa b103 bb113;clear q99 q100 r101 r102 b103 bb113 HV c104 c105 c106 c107 c108 c109 c110 c111
 go_wp2
 go_ret
 exact⟨by first|rfl|simp,b114⟩
theorem tback_7 (g:Bool)(M:Nat)(p f1 f2:Int)(tx ty md:ByteArray)(n:Int)(s:ByteArray)(w:World)
  (HB:yH w 11 #[] (.bool true))
  (HS:yH w 23 #[yi n,.string s] (.tuple #[.string tx,yi 0]))
  (HC:yJ 25 #[yi n,.string s] (yi 2))
  (HD: ∀w1,yB w w1→yC 26 #[yi n,.string s] w1 (eP w1 2 g M p 0))
  (HP:yH w 13 #[yi n,.string tx,yi 1] (.tuple #[.string md,yi f1,yi 0]))
  (HK:yH w 27 #[yi n,yi 9] (yi 7))
  (HQ:yH w 19 #[yi n,.string s,yi 18] (.tuple #[.string ty,yi 0]))
  (HR:yH w 13 #[yi n,.string ty,yi 1] (.tuple #[.string md,yi f2,yi 0]))
  (HE: ∀w1,yB w w1→yC 26 #[yi n,.string md] w1 (eP w1 2 g M p 0))
  (HV: ∀ao ac bo bc w1,yB w w1→Rd w1 .u32 (yT ao M ac) (Dg.dg 4294967296 M)→Rd w1 .u32 (yT bo M bc) (Dg.dg 4294967296 M)→yC 28 #[yvV 2 g (yT ao M ac) p,yvV 2 g (yT bo M bc) p] w1 (yR w1 (.bool true))):
  yC 7 #[yi n,.string s] w (yR w (.bool true)):=by
 replace HB:Hid _:=HB;replace HS:Hid _:=HS;replace HC:Hid _:=HC;replace HD:Hid _:=HD;replace HP:Hid _:=HP;replace HK:Hid _:=HK;replace HQ:Hid _:=HQ;replace HR:Hid _:=HR;replace HE:Hid _:=HE;replace HV:Hid _:=HV
 go_enter func7,ntmps7
 have b0:=Below.refl w.heap.size w
 go_wp2_with fail
 refine(HB.out _ b0).mono ?_;rintro zz w1 ⟨rfl,bb2⟩;have b3:=aa b0 bb2;clear b0 bb2 HB
 go_wp2_with fail
 refine(HS.out _ b3).mono ?_;rintro zz w4 ⟨rfl,bb5⟩;have b6:=aa b3 bb5;clear b3 bb5 HS
 go_wp2_with fail
 refine(HC.out _).mono ?_;rintro zz w7 ⟨rfl,bb8⟩;have b9:=aa b6 bb8;clear b6 bb8 HC
 go_wp2_with fail
 refine(HD.out _ b9).mono ?_;rintro zz w10 ⟨v1x12,rfl,r1x13,bb11⟩;have b14:=aa b9 bb11;obtain⟨xo,xc,hv⟩:=r1x13.shape;subst hv;clear b9 bb11 HD;obtain⟨W17,hW16,q18,al15⟩:=cA w10 (yvL 2 g (yT xo M xc) p) 66;replace hW16:Hid _:=hW16;have hl19:w.heap.size≤w10.heap.size:=b14.size;have r20:=r1x13.l al15;have b21:=aa b14 al15;clear r1x13 b14 al15
 go_upto_region 7 with fail
 rw[hW16.out];clear hW16
 go_wp2_with fail
 refine(HP.out _ b21).mono ?_;rintro zz w22 ⟨rfl,bb23⟩;have q24:=q18.l bb23;have r25:=r20.l bb23;have b26:=aa b21 bb23;clear q18 r20 b21 bb23 HP;have hl29:=q24.lt;have al27:=af w22 (.cells #[yi 0,yi 9,yi 17,yi 21,yi 9,yi 18,yi 9,yi 18,yi 17] 3);have q28:=ah w22 [yi 0,yi 9,yi 17,yi 21,yi 9,yi 18,yi 9,yi 18,yi 17] 3;have q30:=q24.l al27;have r31:=r25.l al27;have b32:=aa b26 al27
 go_wp2_with fail
 refine(HK.out _ b32).mono ?_;rintro zz w33 ⟨rfl,bb34⟩;have q35:=q30.l bb34;have q36:=q28.l bb34;have r37:=r31.l bb34;have b38:=aa b32 bb34;clear q30 q28 r31 b32 bb34 HK q24 r25 b26 al27;have c39:=q36.c 7 rfl
 go_wp2_with fail
 refine(HQ.out _ b38).mono ?_;rintro zz w40 ⟨rfl,bb41⟩;have q42:=q35.l bb41;have r43:=r37.l bb41;have b44:=aa b38 bb41;clear q35 q36 r37 b38 bb41 HQ c39
 go_wp2_with fail
 refine(HR.out _ b44).mono ?_;rintro zz w45 ⟨rfl,bb46⟩;have q47:=q42.l bb46;have r48:=r43.l bb46;have b49:=aa b44 bb46;clear q42 r43 b44 bb46 HR
 go_wp2_with fail
 refine(HE.out _ b49).mono ?_;rintro zz w50 ⟨v1x52,rfl,r1x53,bb51⟩;have q54:=q47.l bb51;have r55:=r48.l bb51;have b56:=aa b49 bb51;obtain⟨yo,yc,hv⟩:=r1x53.shape;subst hv;clear q47 r48 b49 bb51;obtain⟨W59,hW58,q60,al57⟩:=cA w50 (yvL 2 g (yT yo M yc) p) 66;replace hW58:Hid _:=hW58;have hl61:w.heap.size≤w50.heap.size:=b56.size;have hl62:=q54.lt;have q63:=q54.l al57;have r64:=r55.l al57;have r65:=r1x53.l al57;have b66:=aa b56 al57;clear q54 r55 r1x53 b56 al57
 go_upto_region 14 with fail
 rw[hW58.out];clear hW58
 go_wp2_with fail
 refine(HE.out _ b66).mono ?_;rintro zz w67 ⟨v1x69,rfl,r1x70,bb68⟩;have q71:=q63.l bb68;have q72:=q60.l bb68;have r73:=r64.l bb68;have r74:=r65.l bb68;have b75:=aa b66 bb68;obtain⟨zo,zc,hv⟩:=r1x70.shape;subst hv;clear q63 q60 r64 r65 b66 bb68 HE;obtain⟨W78,hW77,q79,al76⟩:=cA w67 (yvL 2 g (yT zo M zc) p) 66;replace hW77:Hid _:=hW77;have hl80:w.heap.size≤w67.heap.size:=b75.size;have hl81:=q71.lt;have hl82:=q72.lt;have q83:=q71.l al76;have q84:=q72.l al76;have r85:=r73.l al76;have r86:=r74.l al76;have r87:=r1x70.l al76;have b88:=aa b75 al76;clear q71 q72 r73 r74 r1x70 b75 al76
 go_upto_region 15 with fail
 rw[hW77.out];clear hW77;obtain⟨c89,c90,c91,c92⟩:=q83.cs4;obtain⟨c93,c94,c95,c96⟩:=q84.cs4
 go_wp2_with fail
 refine(HV.out _ _ _ _ _ b88 r85 r86).mono ?_;rintro zz w97 ⟨rfl,bb98⟩;have q99:=q83.l bb98;have q100:=q79.l bb98;have r101:=r85.l bb98;have r102:=r87.l bb98;have b103:=aa b88 bb98;clear q83 q84 q79 r85 r86 r87 b88 bb98 c89 c90 c91 c92 c93 c94 c95 c96;obtain⟨c104,c105,c106,c107⟩:=q99.cs4;obtain⟨c108,c109,c110,c111⟩:=q100.cs4
 go_wp2_with fail
 refine(HV.out _ _ _ _ _ b103 r101 r102).mono ?_;rintro zz w112 ⟨rfl,bb113⟩;have b114:=aa b103 bb113;clear q99 q100 r101 r102 b103 bb113 HV c104 c105 c106 c107 c108 c109 c110 c111
 go_wp2
 go_ret
 exact⟨by first|rfl|simp,b114⟩
theorem tback_8 (g:Bool)(M:Nat)(p f1 f2:Int)(tx ty md:ByteArray)(n:Int)(s:ByteArray)(w:World)
  (HB:yH w 11 #[] (.bool true))
  (HS:yH w 23 #[yi n,.string s] (.tuple #[.string tx,yi 0]))
  (HC:yJ 25 #[yi n,.string s] (yi 2))
  (HD: ∀w1,yB w w1→yC 26 #[yi n,.string s] w1 (eP w1 2 g M p 0))
  (HP:yH w 13 #[yi n,.string tx,yi 1] (.tuple #[.string md,yi f1,yi 0]))
  (HK:yH w 27 #[yi n,yi 9] (yi 8))
  (HQ:yH w 19 #[yi n,.string s,yi 17] (.tuple #[.string ty,yi 0]))
  (HR:yH w 13 #[yi n,.string ty,yi 1] (.tuple #[.string md,yi f2,yi 0]))
  (HE: ∀w1,yB w w1→yC 26 #[yi n,.string md] w1 (eP w1 2 g M p 0))
  (HV: ∀ao ac bo bc w1,yB w w1→Rd w1 .u32 (yT ao M ac) (Dg.dg 4294967296 M)→Rd w1 .u32 (yT bo M bc) (Dg.dg 4294967296 M)→yC 28 #[yvV 2 g (yT ao M ac) p,yvV 2 g (yT bo M bc) p] w1 (yR w1 (.bool true))):
  yC 7 #[yi n,.string s] w (yR w (.bool true)):=by
 replace HB:Hid _:=HB;replace HS:Hid _:=HS;replace HC:Hid _:=HC;replace HD:Hid _:=HD;replace HP:Hid _:=HP;replace HK:Hid _:=HK;replace HQ:Hid _:=HQ;replace HR:Hid _:=HR;replace HE:Hid _:=HE;replace HV:Hid _:=HV
 go_enter func7,ntmps7
 have b0:=Below.refl w.heap.size w
 go_wp2_with fail
 refine(HB.out _ b0).mono ?_;rintro zz w1 ⟨rfl,bb2⟩;have b3:=aa b0 bb2;clear b0 bb2 HB
 go_wp2_with fail
 refine(HS.out _ b3).mono ?_;rintro zz w4 ⟨rfl,bb5⟩;have b6:=aa b3 bb5;clear b3 bb5 HS
 go_wp2_with fail
 refine(HC.out _).mono ?_;rintro zz w7 ⟨rfl,bb8⟩;have b9:=aa b6 bb8;clear b6 bb8 HC
 go_wp2_with fail
 refine(HD.out _ b9).mono ?_;rintro zz w10 ⟨v1x12,rfl,r1x13,bb11⟩;have b14:=aa b9 bb11;obtain⟨xo,xc,hv⟩:=r1x13.shape;subst hv;clear b9 bb11 HD;obtain⟨W17,hW16,q18,al15⟩:=cA w10 (yvL 2 g (yT xo M xc) p) 66;replace hW16:Hid _:=hW16;have hl19:w.heap.size≤w10.heap.size:=b14.size;have r20:=r1x13.l al15;have b21:=aa b14 al15;clear r1x13 b14 al15
 go_upto_region 7 with fail
 rw[hW16.out];clear hW16
 go_wp2_with fail
 refine(HP.out _ b21).mono ?_;rintro zz w22 ⟨rfl,bb23⟩;have q24:=q18.l bb23;have r25:=r20.l bb23;have b26:=aa b21 bb23;clear q18 r20 b21 bb23 HP;have hl29:=q24.lt;have al27:=af w22 (.cells #[yi 0,yi 9,yi 17,yi 21,yi 9,yi 18,yi 9,yi 18,yi 17] 3);have q28:=ah w22 [yi 0,yi 9,yi 17,yi 21,yi 9,yi 18,yi 9,yi 18,yi 17] 3;have q30:=q24.l al27;have r31:=r25.l al27;have b32:=aa b26 al27
 go_wp2_with fail
 refine(HK.out _ b32).mono ?_;rintro zz w33 ⟨rfl,bb34⟩;have q35:=q30.l bb34;have q36:=q28.l bb34;have r37:=r31.l bb34;have b38:=aa b32 bb34;clear q30 q28 r31 b32 bb34 HK q24 r25 b26 al27;have c39:=q36.c 8 rfl
 go_wp2_with fail
 refine(HQ.out _ b38).mono ?_;rintro zz w40 ⟨rfl,bb41⟩;have q42:=q35.l bb41;have r43:=r37.l bb41;have b44:=aa b38 bb41;clear q35 q36 r37 b38 bb41 HQ c39
 go_wp2_with fail
 refine(HR.out _ b44).mono ?_;rintro zz w45 ⟨rfl,bb46⟩;have q47:=q42.l bb46;have r48:=r43.l bb46;have b49:=aa b44 bb46;clear q42 r43 b44 bb46 HR
 go_wp2_with fail
 refine(HE.out _ b49).mono ?_;rintro zz w50 ⟨v1x52,rfl,r1x53,bb51⟩;have q54:=q47.l bb51;have r55:=r48.l bb51;have b56:=aa b49 bb51;obtain⟨yo,yc,hv⟩:=r1x53.shape;subst hv;clear q47 r48 b49 bb51;obtain⟨W59,hW58,q60,al57⟩:=cA w50 (yvL 2 g (yT yo M yc) p) 66;replace hW58:Hid _:=hW58;have hl61:w.heap.size≤w50.heap.size:=b56.size;have hl62:=q54.lt;have q63:=q54.l al57;have r64:=r55.l al57;have r65:=r1x53.l al57;have b66:=aa b56 al57;clear q54 r55 r1x53 b56 al57
 go_upto_region 14 with fail
 rw[hW58.out];clear hW58
 go_wp2_with fail
 refine(HE.out _ b66).mono ?_;rintro zz w67 ⟨v1x69,rfl,r1x70,bb68⟩;have q71:=q63.l bb68;have q72:=q60.l bb68;have r73:=r64.l bb68;have r74:=r65.l bb68;have b75:=aa b66 bb68;obtain⟨zo,zc,hv⟩:=r1x70.shape;subst hv;clear q63 q60 r64 r65 b66 bb68 HE;obtain⟨W78,hW77,q79,al76⟩:=cA w67 (yvL 2 g (yT zo M zc) p) 66;replace hW77:Hid _:=hW77;have hl80:w.heap.size≤w67.heap.size:=b75.size;have hl81:=q71.lt;have hl82:=q72.lt;have q83:=q71.l al76;have q84:=q72.l al76;have r85:=r73.l al76;have r86:=r74.l al76;have r87:=r1x70.l al76;have b88:=aa b75 al76;clear q71 q72 r73 r74 r1x70 b75 al76
 go_upto_region 15 with fail
 rw[hW77.out];clear hW77;obtain⟨c89,c90,c91,c92⟩:=q83.cs4;obtain⟨c93,c94,c95,c96⟩:=q84.cs4
 go_wp2_with fail
 refine(HV.out _ _ _ _ _ b88 r85 r86).mono ?_;rintro zz w97 ⟨rfl,bb98⟩;have q99:=q83.l bb98;have q100:=q79.l bb98;have r101:=r85.l bb98;have r102:=r87.l bb98;have b103:=aa b88 bb98;clear q83 q84 q79 r85 r86 r87 b88 bb98 c89 c90 c91 c92 c93 c94 c95 c96;obtain⟨c104,c105,c106,c107⟩:=q99.cs4;obtain⟨c108,c109,c110,c111⟩:=q100.cs4
 go_wp2_with fail
 refine(HV.out _ _ _ _ _ b103 r101 r102).mono ?_;rintro zz w112 ⟨rfl,bb113⟩;have b114:=aa b103 bb113;clear q99 q100 r101 r102 b103 bb113 HV c104 c105 c106 c107 c108 c109 c110 c111
 go_wp2
 go_ret
 exact⟨by first|rfl|simp,b114⟩
theorem tnosh_one (gn:Bool)(pn:Int)(d tx:ByteArray)(n:Int)(s:ByteArray)(w:World)(h1:d.size<2)
  (HB:yH w 11 #[] (.bool true))
  (HS:yH w 23 #[yi n,.string s] (.tuple #[.string tx,yi 0]))
  (HC:yJ 25 #[yi n,.string s] (yi 2))
  (HN:yH w 29 #[.string tx] (.tuple #[.bool gn,.string d,yi pn,.bool true]))
  (HP:yH w 19 #[yi n,.string s,yi (d.size:Int)] (.tuple #[.string tx,yi 0])):
  yC 8 #[yi n,.string s] w (yR w (.bool true)):=by
 replace HB:Hid _:=HB;replace HS:Hid _:=HS;replace HC:Hid _:=HC;replace HN:Hid _:=HN;replace HP:Hid _:=HP
 go_enter func8,ntmps8
 have b0:=Below.refl w.heap.size w
 go_wp2_with fail
 refine(HB.out _ b0).mono ?_;rintro zz w1 ⟨rfl,bb2⟩;have b3:=aa b0 bb2;clear b0 bb2 HB
 go_wp2_with fail
 refine(HS.out _ b3).mono ?_;rintro zz w4 ⟨rfl,bb5⟩;have b6:=aa b3 bb5;clear b3 bb5 HS
 go_wp2_with fail
 refine(HC.out _).mono ?_;rintro zz w7 ⟨rfl,bb8⟩;have b9:=aa b6 bb8;clear b6 bb8 HC
 go_wp2_with fail
 refine(HN.out _ b9).mono ?_;rintro zz w10 ⟨rfl,bb11⟩;have b12:=aa b9 bb11;clear b9 bb11 HN
 go_wp2_with fail
 refine(HP.out _ b12).mono ?_;rintro zz w13 ⟨rfl,bb14⟩;have b15:=aa b12 bb14;clear b12 bb14 HP
 go_wp2
 go_ret
 exact⟨by first|rfl|simp,b15⟩
theorem tnosh_two (g h:Bool)(M N:Nat)(p q c km f1:Int)(ty md:ByteArray)(gn:Bool)(pn:Int)(d tx:ByteArray)(n:Int)(s:ByteArray)(w:World)(h1: ¬d.size<2)(hkm:IntKind.i64.wrap ((d.size:Int)-1)=km)
  (HB:yH w 11 #[] (.bool true))
  (HS:yH w 23 #[yi n,.string s] (.tuple #[.string tx,yi 0]))
  (HC:yJ 25 #[yi n,.string s] (yi 2))
  (HN:yH w 29 #[.string tx] (.tuple #[.bool gn,.string d,yi pn,.bool true]))
  (HP:yH w 19 #[yi n,.string s,yi (d.size:Int)] (.tuple #[.string tx,yi 0]))
  (HQ:yH w 19 #[yi n,.string s,yi km] (.tuple #[.string ty,yi 0]))
  (HR:yH w 13 #[yi n,.string ty,yi 1] (.tuple #[.string md,yi f1,yi 0]))
  (HD: ∀w1,yB w w1→yC 26 #[yi n,.string s] w1 (eP w1 2 g M p 0))
  (HE: ∀w1,yB w w1→yC 26 #[yi n,.string md] w1 (eP w1 c h N q 0))
  (HV: ∀ao ac bo bc w1,yB w w1→Rd w1 .u32 (yT ao M ac) (Dg.dg 4294967296 M)→Rd w1 .u32 (yT bo N bc) (Dg.dg 4294967296 N)→yC 28 #[yvV 2 g (yT ao M ac) p,yvV c h (yT bo N bc) q] w1 (yR w1 (.bool false))):
  yC 8 #[yi n,.string s] w (yR w (.bool true)):=by
 replace HB:Hid _:=HB;replace HS:Hid _:=HS;replace HC:Hid _:=HC;replace HN:Hid _:=HN;replace HP:Hid _:=HP;replace HQ:Hid _:=HQ;replace HR:Hid _:=HR;replace HD:Hid _:=HD;replace HE:Hid _:=HE;replace HV:Hid _:=HV
 go_enter func8,ntmps8
 have b0:=Below.refl w.heap.size w
 go_wp2_with fail
 refine(HB.out _ b0).mono ?_;rintro zz w1 ⟨rfl,bb2⟩;have b3:=aa b0 bb2;clear b0 bb2 HB
 go_wp2_with fail
 refine(HS.out _ b3).mono ?_;rintro zz w4 ⟨rfl,bb5⟩;have b6:=aa b3 bb5;clear b3 bb5 HS
 go_wp2_with fail
 refine(HC.out _).mono ?_;rintro zz w7 ⟨rfl,bb8⟩;have b9:=aa b6 bb8;clear b6 bb8 HC
 go_wp2_with fail
 refine(HN.out _ b9).mono ?_;rintro zz w10 ⟨rfl,bb11⟩;have b12:=aa b9 bb11;clear b9 bb11 HN
 go_wp2_with fail
 refine(HP.out _ b12).mono ?_;rintro zz w13 ⟨rfl,bb14⟩;have b15:=aa b12 bb14;clear b12 bb14 HP
 go_wp2_with fail
 refine(HQ.out _ b15).mono ?_;rintro zz w16 ⟨rfl,bb17⟩;have b18:=aa b15 bb17;clear b15 bb17 HQ
 go_wp2_with fail
 refine(HR.out _ b18).mono ?_;rintro zz w19 ⟨rfl,bb20⟩;have b21:=aa b18 bb20;clear b18 bb20 HR
 go_wp2_with fail
 refine(HD.out _ b21).mono ?_;rintro zz w22 ⟨v1x24,rfl,r1x25,bb23⟩;have b26:=aa b21 bb23;obtain⟨xo,xc,hv⟩:=r1x25.shape;subst hv;clear b21 bb23 HD;obtain⟨W29,hW28,q30,al27⟩:=cA w22 (yvL 2 g (yT xo M xc) p) 66;replace hW28:Hid _:=hW28;have hl31:w.heap.size≤w22.heap.size:=b26.size;have r32:=r1x25.l al27;have b33:=aa b26 al27;clear r1x25 b26 al27
 go_upto_region 15 with fail
 rw[hW28.out];clear hW28
 go_wp2_with fail
 refine(HE.out _ b33).mono ?_;rintro zz w34 ⟨v1x36,rfl,r1x37,bb35⟩;have q38:=q30.l bb35;have r39:=r32.l bb35;have b40:=aa b33 bb35;obtain⟨yo,yc,hv⟩:=r1x37.shape;subst hv;clear q30 r32 b33 bb35 HE;obtain⟨W43,hW42,q44,al41⟩:=cA w34 (yvL c h (yT yo N yc) q) 66;replace hW42:Hid _:=hW42;have hl45:w.heap.size≤w34.heap.size:=b40.size;have hl46:=q38.lt;have q47:=q38.l al41;have r48:=r39.l al41;have r49:=r1x37.l al41;have b50:=aa b40 al41;clear q38 r39 r1x37 b40 al41
 go_upto_region 18 with fail
 rw[hW42.out];clear hW42;obtain⟨c51,c52,c53,c54⟩:=q47.cs4;obtain⟨c55,c56,c57,c58⟩:=q44.cs4
 go_wp2_with fail
 refine(HV.out _ _ _ _ _ b50 r48 r49).mono ?_;rintro zz w59 ⟨rfl,bb60⟩;have b61:=aa b50 bb60;clear q47 q44 r48 r49 b50 bb60 HV c51 c52 c53 c54 c55 c56 c57 c58
 go_wp2
 go_ret
 exact⟨by first|rfl|simp,b61⟩
end Go.Proofs.YtpgijbdgljkeeaaGreatDoor
