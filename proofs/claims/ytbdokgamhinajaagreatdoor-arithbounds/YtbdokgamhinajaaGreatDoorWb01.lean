/-
  Texts laid together: Ab3, Bd1, Bd2.
-/
import Derived.Test.YtbdokgamhinajaaGreatDoorChecked
import Derived.Test.YtbdokgamhinajaaGreatDoorSo34
set_option maxRecDepth 100000
set_option maxHeartbeats 3200000
namespace Go.Proofs.YtbdokgamhinajaaGreatDoor
open _root_.Go.Proofs.Tryz
open Go.RowKit
abbrev yEL (c:Int)(g:Bool)(t:ak)(o:Option Addr)(k:Nat):List Value:=[.int .i64 c,.bool g,.bool t.s,.slice o (Dg.dg 65536 t.n).length k,.int .i64 t.e]
abbrev yEV (c:Int)(g:Bool)(t:ak)(o:Option Addr)(k:Nat):Value:= .agg #[.int .i64 c,.bool g,.bool t.s,.slice o (Dg.dg 65536 t.n).length k,.int .i64 t.e]
abbrev yEA (c:Int)(g:Bool)(t:ak)(o:Option Addr)(k:Nat):Array Value:= #[.int .i64 c,.bool g,.bool t.s,.slice o (Dg.dg 65536 t.n).length k,.int .i64 t.e]
abbrev yML (t:ak)(o:Option Addr)(k:Nat):List Value:=[.bool t.s,.slice o (Dg.dg 65536 t.n).length k,.int .i64 t.e]
abbrev yMV (t:ak)(o:Option Addr)(k:Nat):Value:= .agg #[.bool t.s,.slice o (Dg.dg 65536 t.n).length k,.int .i64 t.e]
abbrev yMA (t:ak)(o:Option Addr)(k:Nat):Array Value:= #[.bool t.s,.slice o (Dg.dg 65536 t.n).length k,.int .i64 t.e]
abbrev yXL (c:Int)(g:Bool)(t:ak)(o:Option Addr)(k:Nat)(d:Int)(h:Bool)(s:ak)(p:Option Addr)(m:Nat):List Value:=[.int .i64 c,.bool g,.bool t.s,.slice o (Dg.dg 65536 t.n).length k,.int .i64 t.e,.int .i64 d,.bool h,.bool s.s,.slice p (Dg.dg 65536 s.n).length m,.int .i64 s.e]
theorem bounds1_add (c n wy f e:Int)(sa sb st:ByteArray)(pw pf pa pb:Nat)(w:World)(lw:au w pw 3 [yi c])(lf:au w pf 3 [yi n])(la:au w pa 9 [.string sa])(lb:au w pb 9 [.string sb])
  (HC:yH w 25 #[yi c,yi 3] (yi 0))
  (HA:yH w 8 #[yi n,.string sa,.string sb,yi wy] (.tuple #[.string st,yi f,yi e])):
  yC 24 #[yi wy,.pointer (some ⟨pw,0,none⟩),.pointer (some ⟨pf,0,none⟩),.pointer (some ⟨pa,0,none⟩),.pointer (some ⟨pb,0,none⟩)] w (yR w (.tuple #[.string st,yi e])):=by
 replace HC:Hid _:=HC;replace HA:Hid _:=HA
 go_enter func24,ntmps24
 have b0:=Below.refl w.heap.size w;have c1:=lw.c 0 rfl
 go_wp2_with fail
 refine(HC.out _ b0).mono ?_;rintro zz w2 ⟨rfl,bb3⟩;have q4:=lf.l bb3;have q5:=la.l bb3;have q6:=lb.l bb3;have b7:=aa b0 bb3;clear lw lf la lb b0 bb3 HC c1;have c8:=q4.c 0 rfl;have c9:=q5.c 0 rfl;have c10:=q6.c 0 rfl
 go_wp2_with fail
 refine(HA.out _ b7).mono ?_;rintro zz w11 ⟨rfl,bb12⟩;have b13:=aa b7 bb12;clear q4 q5 q6 b7 bb12 HA c8 c9 c10
 go_wp2
 go_ret2
 exact⟨by simp,b13⟩
theorem bounds1_mul (c n wy f e:Int)(sa sb st:ByteArray)(pw pf pa pb:Nat)(w:World)(lw:au w pw 3 [yi c])(lf:au w pf 3 [yi n])(la:au w pa 9 [.string sa])(lb:au w pb 9 [.string sb])
  (HC:yH w 25 #[yi c,yi 3] (yi 1))
  (HA:yH w 26 #[yi n,.string sa,.string sb,yi wy] (.tuple #[.string st,yi f,yi e])):
  yC 24 #[yi wy,.pointer (some ⟨pw,0,none⟩),.pointer (some ⟨pf,0,none⟩),.pointer (some ⟨pa,0,none⟩),.pointer (some ⟨pb,0,none⟩)] w (yR w (.tuple #[.string st,yi e])):=by
 replace HC:Hid _:=HC;replace HA:Hid _:=HA
 go_enter func24,ntmps24
 have b0:=Below.refl w.heap.size w;have c1:=lw.c 0 rfl
 go_wp2_with fail
 refine(HC.out _ b0).mono ?_;rintro zz w2 ⟨rfl,bb3⟩;have q4:=lf.l bb3;have q5:=la.l bb3;have q6:=lb.l bb3;have b7:=aa b0 bb3;clear lw lf la lb b0 bb3 HC c1;have c8:=q4.c 0 rfl;have c9:=q5.c 0 rfl;have c10:=q6.c 0 rfl
 go_wp2_with fail
 refine(HA.out _ b7).mono ?_;rintro zz w11 ⟨rfl,bb12⟩;have b13:=aa b7 bb12;clear q4 q5 q6 b7 bb12 HA c8 c9 c10
 go_wp2
 go_ret2
 exact⟨by simp,b13⟩
theorem bounds1_div (c n wy f e:Int)(sa sb st:ByteArray)(pw pf pa pb:Nat)(w:World)(lw:au w pw 3 [yi c])(lf:au w pf 3 [yi n])(la:au w pa 9 [.string sa])(lb:au w pb 9 [.string sb])
  (HC:yH w 25 #[yi c,yi 3] (yi 2))
  (HA:yH w 27 #[yi n,.string sa,.string sb,yi wy] (.tuple #[.string st,yi f,yi e])):
  yC 24 #[yi wy,.pointer (some ⟨pw,0,none⟩),.pointer (some ⟨pf,0,none⟩),.pointer (some ⟨pa,0,none⟩),.pointer (some ⟨pb,0,none⟩)] w (yR w (.tuple #[.string st,yi e])):=by
 replace HC:Hid _:=HC;replace HA:Hid _:=HA
 go_enter func24,ntmps24
 have b0:=Below.refl w.heap.size w;have c1:=lw.c 0 rfl
 go_wp2_with fail
 refine(HC.out _ b0).mono ?_;rintro zz w2 ⟨rfl,bb3⟩;have q4:=lf.l bb3;have q5:=la.l bb3;have q6:=lb.l bb3;have b7:=aa b0 bb3;clear lw lf la lb b0 bb3 HC c1;have c8:=q4.c 0 rfl;have c9:=q5.c 0 rfl;have c10:=q6.c 0 rfl
 go_wp2_with fail
 refine(HA.out _ b7).mono ?_;rintro zz w11 ⟨rfl,bb12⟩;have b13:=aa b7 bb12;clear q4 q5 q6 b7 bb12 HA c8 c9 c10
 go_wp2
 go_ret2
 exact⟨by simp,b13⟩
theorem bounds_err (n c e:Int)(sa sb:ByteArray)(st:Int→ByteArray)(w:World)(he: ¬e=0)
  (HB:yH w 11 #[] (.bool true))
  (HD: ∀wy w1,1≤wy∧wy≤5→yB w w1→au w1 (w.heap.size) 3 [yi n]→au w1 (w.heap.size+1) 9 [.string sa]→au w1 (w.heap.size+1+1) 9 [.string sb]→au w1 (w.heap.size+1+1+1) 3 [yi c]→yC 24 #[yi wy,.pointer (some ⟨w.heap.size+1+1+1,0,none⟩),.pointer (some ⟨w.heap.size,0,none⟩),.pointer (some ⟨w.heap.size+1,0,none⟩),.pointer (some ⟨w.heap.size+1+1,0,none⟩)] w1 (yR w1 (.tuple #[.string (st wy),yi e]))):
  yC 7 #[yi n,.string sa,.string sb,yi c] w (yR w (.bool true)):=by
 replace HB:Hid _:=HB;replace HD:Hid _:=HD;obtain⟨W6,hW7,q1,q2,q3,q4,b5⟩:=pi w [yi n] 3 [.string sa] 9 [.string sb] 9 [yi c] 3;replace hW7:Hid _:=hW7
 go_enter func7,ntmps7
 go_upto_region 1 with fail
 rw[hW7.out];clear hW7
 go_wp2_with fail
 refine(HB.out _ b5).mono ?_;rintro zz w8 ⟨rfl,bb9⟩;have q10:=q1.l bb9;have q11:=q2.l bb9;have q12:=q3.l bb9;have q13:=q4.l bb9;have b14:=aa b5 bb9;clear q1 q2 q3 q4 b5 bb9 HB
 go_wp2_with fail
 refine(HD.out 5 _ (by decide) b14 q10 q11 q12 q13).mono ?_;rintro zz w15 ⟨rfl,bb16⟩;have q17:=q10.l bb16;have q18:=q11.l bb16;have q19:=q12.l bb16;have q20:=q13.l bb16;have b21:=aa b14 bb16;clear q10 q11 q12 q13 b14 bb16
 go_wp2_with fail
 refine(HD.out 1 _ (by decide) b21 q17 q18 q19 q20).mono ?_;rintro zz w22 ⟨rfl,bb23⟩;have q24:=q17.l bb23;have q25:=q18.l bb23;have q26:=q19.l bb23;have q27:=q20.l bb23;have b28:=aa b21 bb23;clear q17 q18 q19 q20 b21 bb23
 go_wp2_with fail
 refine(HD.out 4 _ (by decide) b28 q24 q25 q26 q27).mono ?_;rintro zz w29 ⟨rfl,bb30⟩;have b31:=aa b28 bb30;clear q24 q25 q26 q27 b28 bb30 HD
 go_wp2
 go_ret
 exact⟨by simp,b31⟩
theorem bounds_tt (n c x y:Int)(sa sb:ByteArray)(st:Int→ByteArray)(w:World)(hx:x≤0)(hy:y≤0)
  (HB:yH w 11 #[] (.bool true))
  (HD: ∀wy w1,1≤wy∧wy≤5→yB w w1→au w1 (w.heap.size) 3 [yi n]→au w1 (w.heap.size+1) 9 [.string sa]→au w1 (w.heap.size+1+1) 9 [.string sb]→au w1 (w.heap.size+1+1+1) 3 [yi c]→yC 24 #[yi wy,.pointer (some ⟨w.heap.size+1+1+1,0,none⟩),.pointer (some ⟨w.heap.size,0,none⟩),.pointer (some ⟨w.heap.size+1,0,none⟩),.pointer (some ⟨w.heap.size+1+1,0,none⟩)] w1 (yR w1 (.tuple #[.string (st wy),yi 0])))
  (HX:yH w 28 #[yi n,.string (st 5),.string (st 1)] (.tuple #[yi x,.bool true,yi 0]))
  (HY:yH w 28 #[yi n,.string (st 1),.string (st 4)] (.tuple #[yi y,.bool true,yi 0])):
  yC 7 #[yi n,.string sa,.string sb,yi c] w (yR w (.bool true)):=by
 replace HB:Hid _:=HB;replace HD:Hid _:=HD;replace HX:Hid _:=HX;replace HY:Hid _:=HY;obtain⟨W6,hW7,q1,q2,q3,q4,b5⟩:=pi w [yi n] 3 [.string sa] 9 [.string sb] 9 [yi c] 3;replace hW7:Hid _:=hW7
 go_enter func7,ntmps7
 go_upto_region 1 with fail
 rw[hW7.out];clear hW7
 go_wp2_with fail
 refine(HB.out _ b5).mono ?_;rintro zz w8 ⟨rfl,bb9⟩;have q10:=q1.l bb9;have q11:=q2.l bb9;have q12:=q3.l bb9;have q13:=q4.l bb9;have b14:=aa b5 bb9;clear q1 q2 q3 q4 b5 bb9 HB
 go_wp2_with fail
 refine(HD.out 5 _ (by decide) b14 q10 q11 q12 q13).mono ?_;rintro zz w15 ⟨rfl,bb16⟩;have q17:=q10.l bb16;have q18:=q11.l bb16;have q19:=q12.l bb16;have q20:=q13.l bb16;have b21:=aa b14 bb16;clear q10 q11 q12 q13 b14 bb16
 go_wp2_with fail
 refine(HD.out 1 _ (by decide) b21 q17 q18 q19 q20).mono ?_;rintro zz w22 ⟨rfl,bb23⟩;have q24:=q17.l bb23;have q25:=q18.l bb23;have q26:=q19.l bb23;have q27:=q20.l bb23;have b28:=aa b21 bb23;clear q17 q18 q19 q20 b21 bb23
 go_wp2_with fail
 refine(HD.out 4 _ (by decide) b28 q24 q25 q26 q27).mono ?_;rintro zz w29 ⟨rfl,bb30⟩;have q31:=q24.l bb30;have b32:=aa b28 bb30;clear q24 q25 q26 q27 b28 bb30 HD;have c33:=q31.c 0 rfl
 go_wp2_with fail
 refine(HX.out _ b32).mono ?_;rintro zz w34 ⟨rfl,bb35⟩;have q36:=q31.l bb35;have b37:=aa b32 bb35;clear q31 b32 bb35 HX c33;have c38:=q36.c 0 rfl
 go_wp2_with fail
 refine(HY.out _ b37).mono ?_;rintro zz w39 ⟨rfl,bb40⟩;have b41:=aa b37 bb40;clear q36 b37 bb40 HY c38
 go_wp2
 go_ret
 exact⟨by simp,b41⟩
theorem bounds_tf (n c x y:Int)(sa sb:ByteArray)(st:Int→ByteArray)(w:World)(hx:x≤0)
  (HB:yH w 11 #[] (.bool true))
  (HD: ∀wy w1,1≤wy∧wy≤5→yB w w1→au w1 (w.heap.size) 3 [yi n]→au w1 (w.heap.size+1) 9 [.string sa]→au w1 (w.heap.size+1+1) 9 [.string sb]→au w1 (w.heap.size+1+1+1) 3 [yi c]→yC 24 #[yi wy,.pointer (some ⟨w.heap.size+1+1+1,0,none⟩),.pointer (some ⟨w.heap.size,0,none⟩),.pointer (some ⟨w.heap.size+1,0,none⟩),.pointer (some ⟨w.heap.size+1+1,0,none⟩)] w1 (yR w1 (.tuple #[.string (st wy),yi 0])))
  (HX:yH w 28 #[yi n,.string (st 5),.string (st 1)] (.tuple #[yi x,.bool true,yi 0]))
  (HY:yH w 28 #[yi n,.string (st 1),.string (st 4)] (.tuple #[yi y,.bool false,yi 0])):
  yC 7 #[yi n,.string sa,.string sb,yi c] w (yR w (.bool true)):=by
 replace HB:Hid _:=HB;replace HD:Hid _:=HD;replace HX:Hid _:=HX;replace HY:Hid _:=HY;obtain⟨W6,hW7,q1,q2,q3,q4,b5⟩:=pi w [yi n] 3 [.string sa] 9 [.string sb] 9 [yi c] 3;replace hW7:Hid _:=hW7
 go_enter func7,ntmps7
 go_upto_region 1 with fail
 rw[hW7.out];clear hW7
 go_wp2_with fail
 refine(HB.out _ b5).mono ?_;rintro zz w8 ⟨rfl,bb9⟩;have q10:=q1.l bb9;have q11:=q2.l bb9;have q12:=q3.l bb9;have q13:=q4.l bb9;have b14:=aa b5 bb9;clear q1 q2 q3 q4 b5 bb9 HB
 go_wp2_with fail
 refine(HD.out 5 _ (by decide) b14 q10 q11 q12 q13).mono ?_;rintro zz w15 ⟨rfl,bb16⟩;have q17:=q10.l bb16;have q18:=q11.l bb16;have q19:=q12.l bb16;have q20:=q13.l bb16;have b21:=aa b14 bb16;clear q10 q11 q12 q13 b14 bb16
 go_wp2_with fail
 refine(HD.out 1 _ (by decide) b21 q17 q18 q19 q20).mono ?_;rintro zz w22 ⟨rfl,bb23⟩;have q24:=q17.l bb23;have q25:=q18.l bb23;have q26:=q19.l bb23;have q27:=q20.l bb23;have b28:=aa b21 bb23;clear q17 q18 q19 q20 b21 bb23
 go_wp2_with fail
 refine(HD.out 4 _ (by decide) b28 q24 q25 q26 q27).mono ?_;rintro zz w29 ⟨rfl,bb30⟩;have q31:=q24.l bb30;have b32:=aa b28 bb30;clear q24 q25 q26 q27 b28 bb30 HD;have c33:=q31.c 0 rfl
 go_wp2_with fail
 refine(HX.out _ b32).mono ?_;rintro zz w34 ⟨rfl,bb35⟩;have q36:=q31.l bb35;have b37:=aa b32 bb35;clear q31 b32 bb35 HX c33;have c38:=q36.c 0 rfl
 go_wp2_with fail
 refine(HY.out _ b37).mono ?_;rintro zz w39 ⟨rfl,bb40⟩;have b41:=aa b37 bb40;clear q36 b37 bb40 HY c38
 go_wp2
 go_ret
 exact⟨by simp,b41⟩
theorem bounds_ft (n c x y:Int)(sa sb:ByteArray)(st:Int→ByteArray)(w:World)(hy:y≤0)
  (HB:yH w 11 #[] (.bool true))
  (HD: ∀wy w1,1≤wy∧wy≤5→yB w w1→au w1 (w.heap.size) 3 [yi n]→au w1 (w.heap.size+1) 9 [.string sa]→au w1 (w.heap.size+1+1) 9 [.string sb]→au w1 (w.heap.size+1+1+1) 3 [yi c]→yC 24 #[yi wy,.pointer (some ⟨w.heap.size+1+1+1,0,none⟩),.pointer (some ⟨w.heap.size,0,none⟩),.pointer (some ⟨w.heap.size+1,0,none⟩),.pointer (some ⟨w.heap.size+1+1,0,none⟩)] w1 (yR w1 (.tuple #[.string (st wy),yi 0])))
  (HX:yH w 28 #[yi n,.string (st 5),.string (st 1)] (.tuple #[yi x,.bool false,yi 0]))
  (HY:yH w 28 #[yi n,.string (st 1),.string (st 4)] (.tuple #[yi y,.bool true,yi 0])):
  yC 7 #[yi n,.string sa,.string sb,yi c] w (yR w (.bool true)):=by
 replace HB:Hid _:=HB;replace HD:Hid _:=HD;replace HX:Hid _:=HX;replace HY:Hid _:=HY;obtain⟨W6,hW7,q1,q2,q3,q4,b5⟩:=pi w [yi n] 3 [.string sa] 9 [.string sb] 9 [yi c] 3;replace hW7:Hid _:=hW7
 go_enter func7,ntmps7
 go_upto_region 1 with fail
 rw[hW7.out];clear hW7
 go_wp2_with fail
 refine(HB.out _ b5).mono ?_;rintro zz w8 ⟨rfl,bb9⟩;have q10:=q1.l bb9;have q11:=q2.l bb9;have q12:=q3.l bb9;have q13:=q4.l bb9;have b14:=aa b5 bb9;clear q1 q2 q3 q4 b5 bb9 HB
 go_wp2_with fail
 refine(HD.out 5 _ (by decide) b14 q10 q11 q12 q13).mono ?_;rintro zz w15 ⟨rfl,bb16⟩;have q17:=q10.l bb16;have q18:=q11.l bb16;have q19:=q12.l bb16;have q20:=q13.l bb16;have b21:=aa b14 bb16;clear q10 q11 q12 q13 b14 bb16
 go_wp2_with fail
 refine(HD.out 1 _ (by decide) b21 q17 q18 q19 q20).mono ?_;rintro zz w22 ⟨rfl,bb23⟩;have q24:=q17.l bb23;have q25:=q18.l bb23;have q26:=q19.l bb23;have q27:=q20.l bb23;have b28:=aa b21 bb23;clear q17 q18 q19 q20 b21 bb23
 go_wp2_with fail
 refine(HD.out 4 _ (by decide) b28 q24 q25 q26 q27).mono ?_;rintro zz w29 ⟨rfl,bb30⟩;have q31:=q24.l bb30;have b32:=aa b28 bb30;clear q24 q25 q26 q27 b28 bb30 HD;have c33:=q31.c 0 rfl
 go_wp2_with fail
 refine(HX.out _ b32).mono ?_;rintro zz w34 ⟨rfl,bb35⟩;have q36:=q31.l bb35;have b37:=aa b32 bb35;clear q31 b32 bb35 HX c33;have c38:=q36.c 0 rfl
 go_wp2_with fail
 refine(HY.out _ b37).mono ?_;rintro zz w39 ⟨rfl,bb40⟩;have b41:=aa b37 bb40;clear q36 b37 bb40 HY c38
 go_wp2
 go_ret
 exact⟨by simp,b41⟩
theorem bounds_ff (n c x y:Int)(sa sb:ByteArray)(st:Int→ByteArray)(w:World)
  (HB:yH w 11 #[] (.bool true))
  (HD: ∀wy w1,1≤wy∧wy≤5→yB w w1→au w1 (w.heap.size) 3 [yi n]→au w1 (w.heap.size+1) 9 [.string sa]→au w1 (w.heap.size+1+1) 9 [.string sb]→au w1 (w.heap.size+1+1+1) 3 [yi c]→yC 24 #[yi wy,.pointer (some ⟨w.heap.size+1+1+1,0,none⟩),.pointer (some ⟨w.heap.size,0,none⟩),.pointer (some ⟨w.heap.size+1,0,none⟩),.pointer (some ⟨w.heap.size+1+1,0,none⟩)] w1 (yR w1 (.tuple #[.string (st wy),yi 0])))
  (HX:yH w 28 #[yi n,.string (st 5),.string (st 1)] (.tuple #[yi x,.bool false,yi 0]))
  (HY:yH w 28 #[yi n,.string (st 1),.string (st 4)] (.tuple #[yi y,.bool false,yi 0])):
  yC 7 #[yi n,.string sa,.string sb,yi c] w (yR w (.bool true)):=by
 replace HB:Hid _:=HB;replace HD:Hid _:=HD;replace HX:Hid _:=HX;replace HY:Hid _:=HY;obtain⟨W6,hW7,q1,q2,q3,q4,b5⟩:=pi w [yi n] 3 [.string sa] 9 [.string sb] 9 [yi c] 3;replace hW7:Hid _:=hW7
 go_enter func7,ntmps7
 go_upto_region 1 with fail
 rw[hW7.out];clear hW7
 go_wp2_with fail
 refine(HB.out _ b5).mono ?_;rintro zz w8 ⟨rfl,bb9⟩;have q10:=q1.l bb9;have q11:=q2.l bb9;have q12:=q3.l bb9;have q13:=q4.l bb9;have b14:=aa b5 bb9;clear q1 q2 q3 q4 b5 bb9 HB
 go_wp2_with fail
 refine(HD.out 5 _ (by decide) b14 q10 q11 q12 q13).mono ?_;rintro zz w15 ⟨rfl,bb16⟩;have q17:=q10.l bb16;have q18:=q11.l bb16;have q19:=q12.l bb16;have q20:=q13.l bb16;have b21:=aa b14 bb16;clear q10 q11 q12 q13 b14 bb16
 go_wp2_with fail
 refine(HD.out 1 _ (by decide) b21 q17 q18 q19 q20).mono ?_;rintro zz w22 ⟨rfl,bb23⟩;have q24:=q17.l bb23;have q25:=q18.l bb23;have q26:=q19.l bb23;have q27:=q20.l bb23;have b28:=aa b21 bb23;clear q17 q18 q19 q20 b21 bb23
 go_wp2_with fail
 refine(HD.out 4 _ (by decide) b28 q24 q25 q26 q27).mono ?_;rintro zz w29 ⟨rfl,bb30⟩;have q31:=q24.l bb30;have b32:=aa b28 bb30;clear q24 q25 q26 q27 b28 bb30 HD;have c33:=q31.c 0 rfl
 go_wp2_with fail
 refine(HX.out _ b32).mono ?_;rintro zz w34 ⟨rfl,bb35⟩;have q36:=q31.l bb35;have b37:=aa b32 bb35;clear q31 b32 bb35 HX c33;have c38:=q36.c 0 rfl
 go_wp2_with fail
 refine(HY.out _ b37).mono ?_;rintro zz w39 ⟨rfl,bb40⟩;have b41:=aa b37 bb40;clear q36 b37 bb40 HY c38
 go_wp2
 go_ret
 exact⟨by simp,b41⟩
theorem dig_ord (R D L:Int)(gr s:Bool)(N M:Nat)(E:Int):
  (s=false→fM R D L gr s N M E 5≤fM R D L gr s N M E 1∧fM R D L gr s N M E 1≤fM R D L gr s N M E 4)∧(s=true→fM R D L gr s N M E 4≤fM R D L gr s N M E 1∧fM R D L gr s N M E 1≤fM R D L gr s N M E 5):=by
 by_cases h:gF R D L gr N M E=0
 ·rw[BS h,BS h,BS h]
  exact⟨fun _=>⟨Nat.le_refl _,Nat.le_refl _⟩,fun _=>⟨Nat.le_refl _,Nat.le_refl _⟩⟩
 ·rw[GS h,RG h]
  have:=DY R D L gr s N M E 1
  cases s<;>simp<;>omega
theorem carP_ord {R D:Int}{d e:Nat}(cut:Int)(h:d≤e)(hB:e≤2^ (ai R*D.toNat)):gD R D d cut≤gD R D e cut:=by
 unfold gD
 by_cases h1:d=2^ (ai R*D.toNat)
 ·rw[if_pos h1,if_pos (by omega)]
  exact Int.le_refl _
 ·rw[if_neg h1]
  split<;>omega
def plcD (k:Nat)(s:Bool)(d:Nat)(cut:Int)(ex un:Bool):fz:=
 if d=0 then⟨s,0,0,ex,false,un⟩ else⟨s,io (rdN k) (dgN k) d,gD (rdN k) (dgN k) d cut,ex,decide (gsI k<gD (rdN k) (dgN k) d cut),un⟩
def magV (K k:Nat)(v:Int×Bool×Nat×Int×Int):Int:=if v.1=2 then V K ⟨false,v.2.2.1,(ai (rdN k):Int)*v.2.2.2.1⟩ else 0
theorem pow_great {k:Nat}(hk:1≤k∧k≤8):rdN k^dgN k=2^ (ai (rdN k)*(dgN k:Int).toNat):=by
 rcases bO hk with rfl|rfl|rfl|rfl|rfl|rfl|rfl|rfl<;>rfl
theorem V_ord {K m n:Nat}{e f:Int}(h1:m≤n)(h2:e≤f):V K ⟨false,m,e⟩≤V K ⟨false,n,f⟩:=by
 rw[Wd,Wd,if_neg (by decide),if_neg (by decide)];exact Int.ofNat_le.2 (Nat.mul_le_mul h1 (Nat.pow_le_pow_right (by omega) (by omega)))
theorem wD (K n:Nat)(e:Int):0≤V K ⟨false,n,e⟩:=by
 rw[Wd,if_neg (by decide)];exact Int.natCast_nonneg _
theorem set_at {K k:Nat}(hk:1≤k∧k≤8)(w:Int)(s:Bool)(d:Nat)(cut:Int)(ex un:Bool)(hB:d≤2^ (ai (rdN k)*(dgN k:Int).toNat))(hcut: -(K:Int)≤(ai (rdN k):Int)*cut):
  (d=0∧(pG k w (plcD k s d cut ex un)).1=1)∨
  (d≠0∧gsI k<gD (rdN k) (dgN k) d cut∧ ∃fl,pG k w (plcD k s d cut ex un)=((ovV k w s).1,(ovV k w s).2.1,(ovV k w s).2.2.1,(ovV k w s).2.2.2,fl))∨
  (d≠0∧ ¬gsI k<gD (rdN k) (dgN k) d cut∧un=true∧gD (rdN k) (dgN k) d cut<lsI k∧(pG k w (plcD k s d cut ex un)).1=1)∨
  (d≠0∧ ¬gsI k<gD (rdN k) (dgN k) d cut∧ ¬(un=true∧gD (rdN k) (dgN k) d cut<lsI k)∧(pG k w (plcD k s d cut ex un)).1=2∧((pG k w (plcD k s d cut ex un)).2.1=s∧ -(K:Int)≤(ai (rdN k):Int)*(pG k w (plcD k s d cut ex un)).2.2.2.1)∧magV K k (pG k w (plcD k s d cut ex un))=V K ⟨false,d,(ai (rdN k):Int)*cut⟩∧magV K k (pG k w (plcD k s d cut ex un))≤V K ⟨false,rdN k^dgN k-1,(ai (rdN k):Int)*gsI k⟩):=by
 obtain⟨-,-,d1,-,-,l0,-,-,-,-,w1,-⟩:=eR hk
 by_cases h0:d=0
 ·refine .inl ⟨h0, ?_⟩
  unfold plcD pG;rw[if_pos h0,if_neg (show¬false=true by decide),if_neg (fun c=>by have:=c.2;simp only at this;omega),if_pos rfl]
 ·have hp:plcD k s d cut ex un=⟨s,io (rdN k) (dgN k) d,gD (rdN k) (dgN k) d cut,ex,decide (gsI k<gD (rdN k) (dgN k) d cut),un⟩:=if_neg h0
  rw[hp]
  by_cases hg:gsI k<gD (rdN k) (dgN k) d cut
  ·exact .inr (.inl ⟨h0,hg,5,if_pos (decide_eq_true hg)⟩)
  ·by_cases hu:un=true∧gD (rdN k) (dgN k) d cut<lsI k
   ·refine .inr (.inr (.inl ⟨h0,hg,hu.1,hu.2, ?_⟩))
    unfold pG;rw[if_neg (show¬decide (gsI k<gD (rdN k) (dgN k) d cut)=true by rw[decide_eq_false hg];decide),if_pos hu]
   ·have hcd:io (rdN k) (dgN k) d≠0:=fun c=>h0 ((CD _ _ _).1 c)
    have hs:pG k w ⟨s,io (rdN k) (dgN k) d,gD (rdN k) (dgN k) d cut,ex,decide (gsI k<gD (rdN k) (dgN k) d cut),un⟩=(2,s,io (rdN k) (dgN k) d,gD (rdN k) (dgN k) d cut,if ex=true then 0 else if un=true then 3 else 1):=by
     unfold pG;rw[if_neg (show¬decide (gsI k<gD (rdN k) (dgN k) d cut)=true by rw[decide_eq_false hg];decide),if_neg hu,if_neg hcd]
    rw[hs];have hm:magV K k (2,s,io (rdN k) (dgN k) d,gD (rdN k) (dgN k) d cut,if ex=true then 0 else if un=true then 3 else 1)=V K ⟨false,io (rdN k) (dgN k) d,(ai (rdN k):Int)*gD (rdN k) (dgN k) d cut⟩:=if_pos rfl
    have hle:(ai (rdN k):Int)*cut≤(ai (rdN k):Int)*gD (rdN k) (dgN k) d cut:=Int.mul_le_mul_of_nonneg_left (KR _ _ _ _) (by omega);refine .inr (.inr (.inr ⟨h0,hg,hu,rfl,⟨rfl,Int.le_trans hcut hle⟩, ?_, ?_⟩))
    ·rw[hm,←dw (show-(K:Int)≤(⟨false,io (rdN k) (dgN k) d,(ai (rdN k):Int)*gD (rdN k) (dgN k) d cut⟩:ak).e by simp only;omega),sD _ _ _ _ _ (by omega),dw (by simp only;omega)]
    ·rw[hm]
     refine V_ord ?_ (Int.mul_le_mul_of_nonneg_left (by omega) (by omega));rw[pow_great hk];have hpw:2^ (ai (rdN k)*((dgN k:Int)-1).toNat)<2^ (ai (rdN k)*(dgN k:Int).toNat):=Nat.pow_lt_pow_right (by omega) (Nat.mul_lt_mul_of_pos_left (by omega) (by omega));unfold io
     split<;>omega
def LowV (K k:Nat)(s:Bool)(a b:Int×Bool×Nat×Int×Int):Prop:=
 b.1=5∨(b.1=3∧b.2.1=s∧(a.1=1∨a.1=2∨a.1=3∧a.2.1=s))∨((a.1=1∨a.1=2)∧(b.1=1∨b.1=2)∧(a.1=2→a.2.1=s∧ -(K:Int)≤(ai (rdN k):Int)*a.2.2.2.1)∧(b.1=2→b.2.1=s∧ -(K:Int)≤(ai (rdN k):Int)*b.2.2.2.1)∧magV K k a≤magV K k b)
theorem mag_pos (K k:Nat)(v:Int×Bool×Nat×Int×Int):0≤magV K k v:=by
 unfold magV
 split
 ·exact wD _ _ _
 ·exact Int.le_refl _
theorem mag_one {K k:Nat}{v:Int×Bool×Nat×Int×Int}(h:v.1=1):magV K k v=0:=if_neg (by omega)
theorem set_le {K k:Nat}(hk:1≤k∧k≤8)(hK:100000≤K)(wL wU:Int)(s:Bool)(dL dU:Nat)(cut:Int)(ex un:Bool)(hd:dL≤dU)(hB:dU≤2^ (ai (rdN k)*(dgN k:Int).toNat))(hcut: -(K:Int)≤(ai (rdN k):Int)*cut)(ho:aaV wL s=true→aaV wU s=true):
  LowV K k s (pG k wL (plcD k s dL cut ex un)) (pG k wU (plcD k s dU cut ex un)):=by
 have hc:=carP_ord (R:=(rdN k:Int)) (D:=(dgN k:Int)) cut hd hB;have hL:=set_at hk wL s dL cut ex un (by omega) hcut;have hU:=set_at hk wU s dU cut ex un hB hcut;generalize pG k wL (plcD k s dL cut ex un)=a at*;generalize pG k wU (plcD k s dU cut ex un)=b at*;generalize gD (rdN k) (dgN k) dL cut=pL at*;generalize gD (rdN k) (dgN k) dU cut=pU at*;have one:a.1=1→(b.1=1∨b.1=2)→(b.1=2→b.2.1=s∧ -(K:Int)≤(ai (rdN k):Int)*b.2.2.2.1)→LowV K k s a b:=fun h1 h2 h3=> .inr (.inr ⟨.inl h1,h2,fun c=>by omega,h3,by rw[mag_one h1];exact mag_pos K k b⟩)
 rcases hU with⟨u0,u1⟩| ⟨u0,u1,fl,u2⟩| ⟨u0,u1,u2,u3,u4⟩| ⟨u0,u1,u2,u3,u4,u5,u6⟩
 ·rcases hL with⟨l0,l1⟩| ⟨l0,-⟩| ⟨l0,-⟩| ⟨l0,-⟩
  ·exact one l1 (.inl u1) (fun c=>by omega)
  all_goals omega
 ·unfold ovV at u2
  by_cases f3:dK k=3
  ·rw[if_pos f3] at u2
   exact .inl (by rw[u2])
  rw[if_neg f3] at u2
  by_cases fo:dK k=1∧aaV wU s=true
  ·rw[if_pos fo] at u2
   refine .inr (.inl ⟨by rw[u2],by rw[u2], ?_⟩)
   rcases hL with⟨l0,l1⟩| ⟨l0,l1,fl',l2⟩| ⟨l0,l1,l2,l3,l4⟩| ⟨l0,l1,l2,l3,l4,l5,l6⟩
   ·exact .inl l1
   ·unfold ovV at l2
    rw[if_neg f3] at l2
    by_cases fl0:dK k=1∧aaV wL s=true
    ·rw[if_pos fl0] at l2
     exact .inr (.inr ⟨by rw[l2],by rw[l2]⟩)
    ·rw[if_neg fl0] at l2
     exact .inr (.inl (by rw[l2]))
   ·exact .inl l4
   ·exact .inr (.inl l3)
  ·rw[if_neg fo] at u2
   have hb1:b.1=2:=by rw[u2]
   have hG: -(K:Int)≤(ai (rdN k):Int)*gsI k:=by
    have h1:=(Gm hk).1;have h2:=Int.mul_le_mul_of_nonneg_left (eR hk).2.2.2.2.2.2.1 (show(0:Int)≤(ai (rdN k):Int) by omega)
    omega
   have hb2:b.2.1=s∧ -(K:Int)≤(ai (rdN k):Int)*b.2.2.2.1:=by rw[u2];exact⟨rfl,hG⟩
   have hbm:magV K k b=V K ⟨false,rdN k^dgN k-1,(ai (rdN k):Int)*gsI k⟩:=by rw[u2];exact if_pos rfl
   rcases hL with⟨l0,l1⟩| ⟨l0,l1,fl',l2⟩| ⟨l0,l1,l2,l3,l4⟩| ⟨l0,l1,l2,l3,l4,l5,l6⟩
   ·exact one l1 (.inr hb1) (fun _=>hb2)
   ·unfold ovV at l2
    rw[if_neg f3,if_neg (fun c=>fo ⟨c.1,ho c.2⟩)] at l2
    refine .inr (.inr ⟨.inr (by rw[l2]),.inr hb1,fun _=>by rw[l2];exact⟨rfl,hG⟩,fun _=>hb2, ?_⟩)
    rw[hbm,l2];exact Int.le_of_eq (if_pos rfl)
   ·exact one l4 (.inr hb1) (fun _=>hb2)
   ·exact .inr (.inr ⟨.inr l3,.inr hb1,fun _=>l4,fun _=>hb2,by rw[hbm];exact l6⟩)
 ·rcases hL with⟨l0,l1⟩| ⟨l0,l1,-⟩| ⟨l0,l1,l2,l3,l4⟩| ⟨l0,l1,l2,-⟩
  ·exact one l1 (.inl u4) (fun c=>by omega)
  ·omega
  ·exact one l4 (.inl u4) (fun c=>by omega)
  ·exact absurd ⟨u2,by omega⟩ l2
 ·rcases hL with⟨l0,l1⟩| ⟨l0,l1,-⟩| ⟨l0,l1,l2,l3,l4⟩| ⟨l0,l1,l2,l3,l4,l5,l6⟩
  ·exact one l1 (.inr u3) (fun _=>u4)
  ·omega
  ·exact one l4 (.inr u3) (fun _=>u4)
  ·refine .inr (.inr ⟨.inr l3,.inr u3,fun _=>l4,fun _=>u4, ?_⟩)
   rw[l5,u5];exact V_ord hd (Int.le_refl _)
def cmpF (k:Nat)(a b:ByteArray):Int×Bool:=
 if(dO k a||dO k b)=true then(0,false)
 else if bM k a=3∨bM k b=3 then(dm (byI ((bM k a:Nat):Int) (dz k a)) (byI ((bM k b:Nat):Int) (dz k b)),true)
 else(dJ (aG (opT k a) (dV (opT k b))),true)
theorem acmp_any (k:Nat)(hk:1≤k∧k≤8)(a b:ByteArray)(w:World)(hT:Tab w)(ha:dF k a=0)(hb:dF k b=0):
  yC 28 #[yi k,.string a,.string b] w (yR w (.tuple #[yi (cmpF k a b).1,.bool (cmpF k a b).2,yi 0])):=by
 have HOps:=fun pb w2 (b2:yB w w2) (hl:au w2 pb 9 [.string a,.string b])=>vQ k 0 (dK k) (rdN k) (dgN k) (lsI k) (gsI k) (decide (k≤3)) [a,b] pb w2 hl (by simp) (fun p w3 b3=>zj k p w3 (hT.l (aa b2 b3)))
 have he:fT k [a,b]=0:=by
  unfold fT fT fT;rw[if_pos ha,if_pos hb]
 obtain⟨a1,a2,a3,a4⟩:=acu hk ha;obtain⟨b1,b2,b3,b4⟩:=acu hk hb;have ca:=zl ha;have cb:=zl hb;unfold cmpF
 by_cases hn:(dO k a||dO k b)=true
 ·rw[if_pos hn]
  exact qQ k _ _ _ _ _ 0 _ a b _ w (fun h=>absurd he h) (fun h=>absurd he h) (fun _ _=>rfl) (fun _ h=>by rw[hn] at h;cases h) (fun w2=>mp k hk w2) HOps (fun _ h=>by rw[hn] at h;cases h)
 ·rw[if_neg hn]
  have hn':(dO k a||dO k b)=false:=by simpa using hn
  have h4:bM k a≤3∧bM k b≤3:=by
   unfold dO at hn';simp at hn';omega
  by_cases h3:bM k a=3∨bM k b=3
  ·rw[if_pos h3]
   refine qQ k _ _ _ _ _ _ _ a b _ w (fun h=>absurd he h) (fun h=>absurd he h) (fun _ h=>by rw[hn'] at h;cases h) (fun _ _=>rfl) (fun w2=>mp k hk w2) HOps (fun _ _ xo xc yo yc w2 _ _=> ?_)
   by_cases hx:bM k a=3
   ·rw[hx]
    exact OR _ _ _ _ _ _ _ _ _ _ _ _ _ w2
   ·have hy:bM k b=3:=by omega
    rw[hy];exact OS _ _ _ _ _ _ _ _ _ _ _ _ _ w2 (by simp;omega)
  ·rw[if_neg h3]
   obtain⟨da,-⟩:=XW hk a (by omega);obtain⟨db,-⟩:=XW hk b (by omega);rw[←a4,←a1] at da;rw[←b4,←b1] at db;exact Kp k hk a b w hT ha hb (by omega) (by omega) da db
def Fine (k:Nat)(a b:ByteArray):Prop:=(cmpF k a b).2=true→(cmpF k a b).1≤0
theorem fine_of {k:Nat}{a b:ByteArray}{c1 c2:Int}{g1 g2:Bool}{x y:ak}(hc1:((bM k a:Nat):Int)=c1)(hc2:((bM k b:Nat):Int)=c2)(hg1:dz k a=g1)(hg2:dz k b=g2)(hx:opT k a=x)(hy:opT k b=y)
  (h:(c1=4∨c1=5∨c2=4∨c2=5)∨((c1=3∨c2=3)∧byI c1 g1≤byI c2 g2)∨(c1≠3∧c2≠3∧ ∃K:Nat,-(K:Int)≤x.e∧ -(K:Int)≤y.e∧V K x≤V K y)):Fine k a b:=by
 unfold Fine cmpF
 by_cases hn:(dO k a||dO k b)=true
 ·rw[if_pos hn]
  exact fun c=>by cases c
 rw[if_neg hn];have hn': ¬(c1=4∨c1=5∨c2=4∨c2=5):=fun c=>hn (by
  unfold dO;simp;omega)
 rcases h with h| ⟨h,hl⟩| ⟨h1,h2,K,k1,k2,hv⟩
 ·exact absurd h hn'
 ·rw[if_pos (by omega),hc1,hc2,hg1,hg2]
  refine fun _=> ?_
  show dm _ _≤0
  unfold dm
  split
  ·decide
  ·rw[if_neg (by omega)]
   decide
 ·rw[if_neg (by omega),hx,hy]
  refine fun _=> ?_
  show dJ _≤0
  rw[OP k1 k2];have:=OQ (V K x-V K y);omega
theorem dec_of {k:Nat}(hk:1≤k∧k≤8){c:Int}{g:Bool}{m:Nat}{p fl:Int}(h:(Dw k c g m p fl).2.2=0):
  dF k (Dw k c g m p fl).1=0∧((bM k (Dw k c g m p fl).1:Nat):Int)=c∧dz k (Dw k c g m p fl).1=g∧opT k (Dw k c g m p fl).1=if c=2 then bare ⟨g,m,(ai (rdN k):Int)*p⟩ else⟨false,0,0⟩:=by
 unfold Dw at h⊢
 by_cases he:gI k c g (Dg.dg 4294967296 m) p=0
 rotate_left
 ·rw[if_neg he] at h
  exact absurd h he
 rw[if_pos he];obtain⟨e1,e2,e3,e4,e5,e6,e7⟩:=oJ hk (Dg.small_dg _ _ (by omega)) he;simp only;have hp:=nj hk e1;refine⟨hp, ?_, ?_, ?_⟩
 ·unfold bM
  rw[if_pos hp,Int.toNat_natCast];exact e2
 ·unfold dz
  rw[if_pos hp,Int.toNat_natCast];exact e3
 ·unfold opT nxT
  rw[if_pos hp,Int.toNat_natCast]
  by_cases hc:c=2
  ·rw[if_pos hc]
   obtain⟨-,f1,f2,f3⟩:=e6 hc;rw[iq hk e4 e5 (by omega),wQ hk,f1,f3,Dg.vl_dg _ _ (by omega)]
  ·rw[if_neg hc]
   exact Fm hk (by omega)
theorem err_fl (k:Nat)(c:Int)(g:Bool)(m:Nat)(p fl fl':Int):(Dw k c g m p fl).2.2=(Dw k c g m p fl').2.2:=by
 unfold Dw
 split<;>rfl
end Go.Proofs.YtbdokgamhinajaaGreatDoor
