/-
  The walks of the law ArithSquares.
-/
import Derived.WalkKit
import Derived.WalkSpells
import Derived.Deep.QuietTactic
import Derived.BigQuiet
import Derived.Lib.TrailingZeros
import Derived.Test.YtnhackdjplppjaaGreatDoorChecked
import Derived.Handy
import Derived.Laws.CopyOwn
import Derived.BigRegion
import Derived.Deep.LoopGhost
import Derived.Deep.RegionLaw
import Derived.WalkSmall
import Derived.OpenShut
import Derived.Laws.MathBits
import Derived.Lib.BitFns
import Derived.Lib.Walk
import Derived.Lib.Small
import Derived.Shelf.Spec.TrailingZeros
import Derived.Deep.RegionHeld3
import Derived.Deep.MidRow
import Derived.Laws.ResultCell
import Derived.Deep.Cut
import Derived.Laws.IdiomStrings
import Derived.Test.YtnhackdjplppjaaGreatDoorSd03
set_option maxRecDepth 100000
namespace Go.Proofs.YtnhackdjplppjaaGreatDoor
open Go.RowKit
set_option maxHeartbeats 3200000 in
theorem sq_err1 (n way f:Int) (a s:ByteArray) (w:World)
  (HB: ∀w1,Below w.heap.size w w1→Calls Tryz.prog 20 #[] w1 fun z w'=>z= .returned (.bool true)∧Below w1.heap.size w1 w')
  (HM: ∀w1,Below w.heap.size w w1→Calls Tryz.prog 24 #[yi n,.string a,.string a,yi way] w1 fun z w'=>z= .returned (.tuple #[.string s,yi f,yi 1])∧Below w1.heap.size w1 w'):
  Calls Tryz.prog 14 #[yi n,.string a,yi way] w fun z w'=>z= .returned (.bool true)∧Below w.heap.size w w':=by
 replace HB:Hid _:=HB;replace HM:Hid _:=HM
 go_enter Tryz.func14,Tryz.ntmps14
 have b0:=Below.refl w.heap.size w
 go_wp2_with fail
 refine(HB.out _ b0).mono ?_;rintro zz w1 ⟨rfl,bb2⟩;have b3:=below_trans b0 bb2;clear b0 bb2 HB
 go_wp2_with fail
 refine(HM.out _ b3).mono ?_;rintro zz w4 ⟨rfl,bb5⟩;have b6:=below_trans b3 bb5;clear b3 bb5 HM
 go_wp2
 go_ret
 exact⟨by simp,b6⟩
set_option maxHeartbeats 3200000 in
theorem sq_err2 (n way f:Int) (a s:ByteArray) (w:World)
  (HB: ∀w1,Below w.heap.size w w1→Calls Tryz.prog 20 #[] w1 fun z w'=>z= .returned (.bool true)∧Below w1.heap.size w1 w')
  (HM: ∀w1,Below w.heap.size w w1→Calls Tryz.prog 24 #[yi n,.string a,.string a,yi way] w1 fun z w'=>z= .returned (.tuple #[.string s,yi f,yi 2])∧Below w1.heap.size w1 w'):
  Calls Tryz.prog 14 #[yi n,.string a,yi way] w fun z w'=>z= .returned (.bool true)∧Below w.heap.size w w':=by
 replace HB:Hid _:=HB;replace HM:Hid _:=HM
 go_enter Tryz.func14,Tryz.ntmps14
 have b0:=Below.refl w.heap.size w
 go_wp2_with fail
 refine(HB.out _ b0).mono ?_;rintro zz w1 ⟨rfl,bb2⟩;have b3:=below_trans b0 bb2;clear b0 bb2 HB
 go_wp2_with fail
 refine(HM.out _ b3).mono ?_;rintro zz w4 ⟨rfl,bb5⟩;have b6:=below_trans b3 bb5;clear b3 bb5 HM
 go_wp2
 go_ret
 exact⟨by simp,b6⟩
set_option maxHeartbeats 3200000 in
theorem sq_err3 (n way f:Int) (a s:ByteArray) (w:World)
  (HB: ∀w1,Below w.heap.size w w1→Calls Tryz.prog 20 #[] w1 fun z w'=>z= .returned (.bool true)∧Below w1.heap.size w1 w')
  (HM: ∀w1,Below w.heap.size w w1→Calls Tryz.prog 24 #[yi n,.string a,.string a,yi way] w1 fun z w'=>z= .returned (.tuple #[.string s,yi f,yi 3])∧Below w1.heap.size w1 w'):
  Calls Tryz.prog 14 #[yi n,.string a,yi way] w fun z w'=>z= .returned (.bool true)∧Below w.heap.size w w':=by
 replace HB:Hid _:=HB;replace HM:Hid _:=HM
 go_enter Tryz.func14,Tryz.ntmps14
 have b0:=Below.refl w.heap.size w
 go_wp2_with fail
 refine(HB.out _ b0).mono ?_;rintro zz w1 ⟨rfl,bb2⟩;have b3:=below_trans b0 bb2;clear b0 bb2 HB
 go_wp2_with fail
 refine(HM.out _ b3).mono ?_;rintro zz w4 ⟨rfl,bb5⟩;have b6:=below_trans b3 bb5;clear b3 bb5 HM
 go_wp2
 go_ret
 exact⟨by simp,b6⟩
set_option maxHeartbeats 3200000 in
theorem sq_err4 (n way f:Int) (a s:ByteArray) (w:World)
  (HB: ∀w1,Below w.heap.size w w1→Calls Tryz.prog 20 #[] w1 fun z w'=>z= .returned (.bool true)∧Below w1.heap.size w1 w')
  (HM: ∀w1,Below w.heap.size w w1→Calls Tryz.prog 24 #[yi n,.string a,.string a,yi way] w1 fun z w'=>z= .returned (.tuple #[.string s,yi f,yi 4])∧Below w1.heap.size w1 w'):
  Calls Tryz.prog 14 #[yi n,.string a,yi way] w fun z w'=>z= .returned (.bool true)∧Below w.heap.size w w':=by
 replace HB:Hid _:=HB;replace HM:Hid _:=HM
 go_enter Tryz.func14,Tryz.ntmps14
 have b0:=Below.refl w.heap.size w
 go_wp2_with fail
 refine(HB.out _ b0).mono ?_;rintro zz w1 ⟨rfl,bb2⟩;have b3:=below_trans b0 bb2;clear b0 bb2 HB
 go_wp2_with fail
 refine(HM.out _ b3).mono ?_;rintro zz w4 ⟨rfl,bb5⟩;have b6:=below_trans b3 bb5;clear b3 bb5 HM
 go_wp2
 go_ret
 exact⟨by simp,b6⟩
set_option maxHeartbeats 3200000 in
theorem sq_err5 (n way f:Int) (a s:ByteArray) (w:World)
  (HB: ∀w1,Below w.heap.size w w1→Calls Tryz.prog 20 #[] w1 fun z w'=>z= .returned (.bool true)∧Below w1.heap.size w1 w')
  (HM: ∀w1,Below w.heap.size w w1→Calls Tryz.prog 24 #[yi n,.string a,.string a,yi way] w1 fun z w'=>z= .returned (.tuple #[.string s,yi f,yi 5])∧Below w1.heap.size w1 w'):
  Calls Tryz.prog 14 #[yi n,.string a,yi way] w fun z w'=>z= .returned (.bool true)∧Below w.heap.size w w':=by
 replace HB:Hid _:=HB;replace HM:Hid _:=HM
 go_enter Tryz.func14,Tryz.ntmps14
 have b0:=Below.refl w.heap.size w
 go_wp2_with fail
 refine(HB.out _ b0).mono ?_;rintro zz w1 ⟨rfl,bb2⟩;have b3:=below_trans b0 bb2;clear b0 bb2 HB
 go_wp2_with fail
 refine(HM.out _ b3).mono ?_;rintro zz w4 ⟨rfl,bb5⟩;have b6:=below_trans b3 bb5;clear b3 bb5 HM
 go_wp2
 go_ret
 exact⟨by simp,b6⟩
set_option maxHeartbeats 3200000 in
theorem sq_err6 (n way f:Int) (a s:ByteArray) (w:World)
  (HB: ∀w1,Below w.heap.size w w1→Calls Tryz.prog 20 #[] w1 fun z w'=>z= .returned (.bool true)∧Below w1.heap.size w1 w')
  (HM: ∀w1,Below w.heap.size w w1→Calls Tryz.prog 24 #[yi n,.string a,.string a,yi way] w1 fun z w'=>z= .returned (.tuple #[.string s,yi f,yi 6])∧Below w1.heap.size w1 w'):
  Calls Tryz.prog 14 #[yi n,.string a,yi way] w fun z w'=>z= .returned (.bool true)∧Below w.heap.size w w':=by
 replace HB:Hid _:=HB;replace HM:Hid _:=HM
 go_enter Tryz.func14,Tryz.ntmps14
 have b0:=Below.refl w.heap.size w
 go_wp2_with fail
 refine(HB.out _ b0).mono ?_;rintro zz w1 ⟨rfl,bb2⟩;have b3:=below_trans b0 bb2;clear b0 bb2 HB
 go_wp2_with fail
 refine(HM.out _ b3).mono ?_;rintro zz w4 ⟨rfl,bb5⟩;have b6:=below_trans b3 bb5;clear b3 bb5 HM
 go_wp2
 go_ret
 exact⟨by simp,b6⟩
set_option maxHeartbeats 3200000 in
theorem sq_fl1 (n way:Int) (a s:ByteArray) (w:World)
  (HB: ∀w1,Below w.heap.size w w1→Calls Tryz.prog 20 #[] w1 fun z w'=>z= .returned (.bool true)∧Below w1.heap.size w1 w')
  (HM: ∀w1,Below w.heap.size w w1→Calls Tryz.prog 24 #[yi n,.string a,.string a,yi way] w1 fun z w'=>z= .returned (.tuple #[.string s,yi 1,yi 0])∧Below w1.heap.size w1 w'):
  Calls Tryz.prog 14 #[yi n,.string a,yi way] w fun z w'=>z= .returned (.bool true)∧Below w.heap.size w w':=by
 replace HB:Hid _:=HB;replace HM:Hid _:=HM
 go_enter Tryz.func14,Tryz.ntmps14
 have b0:=Below.refl w.heap.size w
 go_wp2_with fail
 refine(HB.out _ b0).mono ?_;rintro zz w1 ⟨rfl,bb2⟩;have b3:=below_trans b0 bb2;clear b0 bb2 HB
 go_wp2_with fail
 refine(HM.out _ b3).mono ?_;rintro zz w4 ⟨rfl,bb5⟩;have b6:=below_trans b3 bb5;clear b3 bb5 HM
 go_wp2
 go_ret
 exact⟨by simp,b6⟩
set_option maxHeartbeats 3200000 in
theorem sq_fl3 (n way:Int) (a s:ByteArray) (w:World)
  (HB: ∀w1,Below w.heap.size w w1→Calls Tryz.prog 20 #[] w1 fun z w'=>z= .returned (.bool true)∧Below w1.heap.size w1 w')
  (HM: ∀w1,Below w.heap.size w w1→Calls Tryz.prog 24 #[yi n,.string a,.string a,yi way] w1 fun z w'=>z= .returned (.tuple #[.string s,yi 3,yi 0])∧Below w1.heap.size w1 w'):
  Calls Tryz.prog 14 #[yi n,.string a,yi way] w fun z w'=>z= .returned (.bool true)∧Below w.heap.size w w':=by
 replace HB:Hid _:=HB;replace HM:Hid _:=HM
 go_enter Tryz.func14,Tryz.ntmps14
 have b0:=Below.refl w.heap.size w
 go_wp2_with fail
 refine(HB.out _ b0).mono ?_;rintro zz w1 ⟨rfl,bb2⟩;have b3:=below_trans b0 bb2;clear b0 bb2 HB
 go_wp2_with fail
 refine(HM.out _ b3).mono ?_;rintro zz w4 ⟨rfl,bb5⟩;have b6:=below_trans b3 bb5;clear b3 bb5 HM
 go_wp2
 go_ret
 exact⟨by simp,b6⟩
set_option maxHeartbeats 3200000 in
theorem sq_fl5 (n way:Int) (a s:ByteArray) (w:World)
  (HB: ∀w1,Below w.heap.size w w1→Calls Tryz.prog 20 #[] w1 fun z w'=>z= .returned (.bool true)∧Below w1.heap.size w1 w')
  (HM: ∀w1,Below w.heap.size w w1→Calls Tryz.prog 24 #[yi n,.string a,.string a,yi way] w1 fun z w'=>z= .returned (.tuple #[.string s,yi 5,yi 0])∧Below w1.heap.size w1 w'):
  Calls Tryz.prog 14 #[yi n,.string a,yi way] w fun z w'=>z= .returned (.bool true)∧Below w.heap.size w w':=by
 replace HB:Hid _:=HB;replace HM:Hid _:=HM
 go_enter Tryz.func14,Tryz.ntmps14
 have b0:=Below.refl w.heap.size w
 go_wp2_with fail
 refine(HB.out _ b0).mono ?_;rintro zz w1 ⟨rfl,bb2⟩;have b3:=below_trans b0 bb2;clear b0 bb2 HB
 go_wp2_with fail
 refine(HM.out _ b3).mono ?_;rintro zz w4 ⟨rfl,bb5⟩;have b6:=below_trans b3 bb5;clear b3 bb5 HM
 go_wp2
 go_ret
 exact⟨by simp,b6⟩
set_option maxHeartbeats 3200000 in
theorem sq_fl16 (n way:Int) (a s:ByteArray) (w:World)
  (HB: ∀w1,Below w.heap.size w w1→Calls Tryz.prog 20 #[] w1 fun z w'=>z= .returned (.bool true)∧Below w1.heap.size w1 w')
  (HM: ∀w1,Below w.heap.size w w1→Calls Tryz.prog 24 #[yi n,.string a,.string a,yi way] w1 fun z w'=>z= .returned (.tuple #[.string s,yi 16,yi 0])∧Below w1.heap.size w1 w'):
  Calls Tryz.prog 14 #[yi n,.string a,yi way] w fun z w'=>z= .returned (.bool true)∧Below w.heap.size w w':=by
 replace HB:Hid _:=HB;replace HM:Hid _:=HM
 go_enter Tryz.func14,Tryz.ntmps14
 have b0:=Below.refl w.heap.size w
 go_wp2_with fail
 refine(HB.out _ b0).mono ?_;rintro zz w1 ⟨rfl,bb2⟩;have b3:=below_trans b0 bb2;clear b0 bb2 HB
 go_wp2_with fail
 refine(HM.out _ b3).mono ?_;rintro zz w4 ⟨rfl,bb5⟩;have b6:=below_trans b3 bb5;clear b3 bb5 HM
 go_wp2
 go_ret
 exact⟨by simp,b6⟩
set_option maxHeartbeats 3200000 in
theorem sq_cls (n way c:Int) (a s:ByteArray) (w:World) (hc:(c==2)=false)
  (HB: ∀w1,Below w.heap.size w w1→Calls Tryz.prog 20 #[] w1 fun z w'=>z= .returned (.bool true)∧Below w1.heap.size w1 w')
  (HM: ∀w1,Below w.heap.size w w1→Calls Tryz.prog 24 #[yi n,.string a,.string a,yi way] w1 fun z w'=>z= .returned (.tuple #[.string s,yi 0,yi 0])∧Below w1.heap.size w1 w')
  (HC: ∀w1,Below w.heap.size w w1→Calls Tryz.prog 41 #[yi n,.string a] w1 fun z w'=>z= .returned (yi c)∧Below w1.heap.size w1 w'):
  Calls Tryz.prog 14 #[yi n,.string a,yi way] w fun z w'=>z= .returned (.bool true)∧Below w.heap.size w w':=by
 replace HB:Hid _:=HB;replace HM:Hid _:=HM;replace HC:Hid _:=HC
 go_enter Tryz.func14,Tryz.ntmps14
 have b0:=Below.refl w.heap.size w
 go_wp2_with fail
 refine(HB.out _ b0).mono ?_;rintro zz w1 ⟨rfl,bb2⟩;have b3:=below_trans b0 bb2;clear b0 bb2 HB
 go_wp2_with fail
 refine(HM.out _ b3).mono ?_;rintro zz w4 ⟨rfl,bb5⟩;have b6:=below_trans b3 bb5;clear b3 bb5 HM
 go_wp2_with fail
 refine(HC.out _ b6).mono ?_;rintro zz w7 ⟨rfl,bb8⟩;have b9:=below_trans b6 bb8;clear b6 bb8 HC
 go_wp2
 go_ret
 exact⟨by simp,b9⟩
set_option maxHeartbeats 3200000 in
theorem sq_num (n way p:Int) (g:Bool) (m:Nat) (a s r:ByteArray) (w:World)
  (HB: ∀w1,Below w.heap.size w w1→Calls Tryz.prog 20 #[] w1 fun z w'=>z= .returned (.bool true)∧Below w1.heap.size w1 w')
  (HM: ∀w1,Below w.heap.size w w1→Calls Tryz.prog 24 #[yi n,.string a,.string a,yi way] w1 fun z w'=>z= .returned (.tuple #[.string s,yi 0,yi 0])∧Below w1.heap.size w1 w')
  (HC: ∀w1,Below w.heap.size w w1→Calls Tryz.prog 41 #[yi n,.string a] w1 fun z w'=>z= .returned (yi 2)∧Below w1.heap.size w1 w')
  (HS: ∀w1,Below w.heap.size w w1→Calls Tryz.prog 30 #[yi n,.string s,yi way] w1 fun z w'=>z= .returned (.tuple #[.string r,yi 0,yi 0])∧Below w1.heap.size w1 w')
  (HD: ∀w1,Below w.heap.size w w1→Calls Tryz.prog 43 #[yi n,.string a] w1 (DecRes w1 2 g m p 0))
  (HZ: ∀w1,Below w.heap.size w w1→Calls Tryz.prog 43 #[yi n,.string r] w1 (DecRes w1 2 false m p 0))
  (HV: ∀vo vc yo yc w1,Below w.heap.size w w1→Rd w1 .u32 (.slice vo (Dg.dg 4294967296 m).length vc) (Dg.dg 4294967296 m)→Rd w1 .u32 (.slice yo (Dg.dg 4294967296 m).length yc) (Dg.dg 4294967296 m)→Calls Tryz.prog 45 #[yvV 2 false (.slice vo (Dg.dg 4294967296 m).length vc) p,yvV 2 false (.slice yo (Dg.dg 4294967296 m).length yc) p] w1 fun z w'=>z= .returned (.bool true)∧Below w1.heap.size w1 w'):
  Calls Tryz.prog 14 #[yi n,.string a,yi way] w fun z w'=>z= .returned (.bool true)∧Below w.heap.size w w':=by
 replace HB:Hid _:=HB;replace HM:Hid _:=HM;replace HC:Hid _:=HC;replace HS:Hid _:=HS;replace HD:Hid _:=HD;replace HZ:Hid _:=HZ;replace HV:Hid _:=HV
 go_enter Tryz.func14,Tryz.ntmps14
 have b0:=Below.refl w.heap.size w
 go_wp2_with fail
 refine(HB.out _ b0).mono ?_;rintro zz w1 ⟨rfl,bb2⟩;have b3:=below_trans b0 bb2;clear b0 bb2 HB
 go_wp2_with fail
 refine(HM.out _ b3).mono ?_;rintro zz w4 ⟨rfl,bb5⟩;have b6:=below_trans b3 bb5;clear b3 bb5 HM
 go_wp2_with fail
 refine(HC.out _ b6).mono ?_;rintro zz w7 ⟨rfl,bb8⟩;have b9:=below_trans b6 bb8;clear b6 bb8 HC
 go_wp2_with fail
 refine(HS.out _ b9).mono ?_;rintro zz w10 ⟨rfl,bb11⟩;have b12:=below_trans b9 bb11;clear b9 bb11 HS
 go_wp2_with fail
 refine(HD.out _ b12).mono ?_;rintro zz w13 ⟨v115,rfl,r116,bb14⟩;have b17:=below_trans b12 bb14;obtain⟨vo,vc,hv⟩:=r116.shape;subst hv;clear b12 bb14 HD;obtain⟨W21,hW20,q19,al18⟩:=ent1 w13 (yvL 2 g (.slice vo (Dg.dg 4294967296 m).length vc) p) 73;replace hW20:Hid _:=hW20;have hl22:w.heap.size≤w13.heap.size:=b17.size;have r23:=r116.later al18;have b24:=below_trans b17 al18;clear r116 b17 al18
 go_upto_region 8 with fail
 rw[hW20.out];clear hW20
 go_wp2_with fail
 refine(HZ.out _ b24).mono ?_;rintro zz w25 ⟨v127,rfl,r128,bb26⟩;have q29:=q19.later bb26;have r30:=r23.later bb26;have b31:=below_trans b24 bb26;obtain⟨yo,yc,hv⟩:=r128.shape;subst hv;clear q19 r23 b24 bb26 HZ;obtain⟨W35,hW34,q33,al32⟩:=ent1 w25 (yvL 2 false (.slice yo (Dg.dg 4294967296 m).length yc) p) 73;replace hW34:Hid _:=hW34;have hl36:w.heap.size≤w25.heap.size:=b31.size;have hl37:=q29.lt;have q38:=q29.later al32;have r39:=r30.later al32;have r40:=r128.later al32;have b41:=below_trans b31 al32;clear q29 r30 r128 b31 al32
 go_upto_region 9 with fail
 rw[hW34.out];clear hW34;have bu:=but_set W35 w13.heap.size 1 (.bool false);have q42:LocE (W35.setCell ⟨w13.heap.size,1,none⟩ (.bool false)) w13.heap.size 73 (yvL 2 false (.slice vo (Dg.dg 4294967296 m).length vc) p):=(q38.set 1 (.bool false));have c43:=q38.cell 1 rfl;have y44:=q38.free 1;have q45:=bu.loc q33 (by omega);have r46:=bu.rd r39 (rd_offU r39 q38 (by simp));have r47:=bu.rd r40 (rd_offU r40 q38 (by simp));have b48:=bu.below b41 (by omega);clear bu
 go_upto_region 10 with fail
 generalize W35.setCell ⟨w13.heap.size,1,none⟩ (.bool false)=W49 at q42 q45 r46 r47 b48⊢;clear q38 q33 r39 r40 b41 c43 y44;obtain⟨c50,c51,c52,c53⟩:=q42.cs4;obtain⟨c54,c55,c56,c57⟩:=q45.cs4
 go_wp2_with fail
 refine(HV.out _ _ _ _ _ b48 r46 r47).mono ?_;rintro zz w58 ⟨rfl,bb59⟩;have b60:=below_trans b48 bb59;clear q42 q45 r46 r47 b48 bb59 HV c50 c51 c52 c53 c54 c55 c56 c57
 go_wp2
 go_ret
 exact⟨by simp,b60⟩
end Go.Proofs.YtnhackdjplppjaaGreatDoor
