/-
  The walks of the law ArithOne.
-/
import Derived.WalkKit
import Derived.WalkSpells
import Derived.Deep.QuietTactic
import Derived.BigQuiet
import Derived.Lib.TrailingZeros
import Derived.Test.YtnhackdjplppjaaGreatDoorChecked
import Derived.Handy
import Derived.Laws.CopyOwn
import Derived.BigRegion
import Derived.Deep.LoopGhost
import Derived.Deep.RegionLaw
import Derived.WalkSmall
import Derived.OpenShut
import Derived.Laws.MathBits
import Derived.Lib.BitFns
import Derived.Lib.Walk
import Derived.Lib.Small
import Derived.Shelf.Spec.TrailingZeros
import Derived.Deep.RegionHeld3
import Derived.Deep.MidRow
import Derived.Laws.ResultCell
import Derived.Deep.Cut
import Derived.Laws.IdiomStrings
import Derived.Test.YtnhackdjplppjaaGreatDoorSd03
set_option maxRecDepth 100000
namespace Go.Proofs.YtnhackdjplppjaaGreatDoor
open Go.RowKit
set_option maxHeartbeats 3200000 in
theorem one_err (e:Int) (n way:Int) (a b o:ByteArray) (w:World) (he:(e==0)=false)
  (HB: ∀w1,Below w.heap.size w w1→Calls Tryz.prog 20 #[] w1 fun z w'=>z= .returned (.bool true)∧Below w1.heap.size w1 w')
  (HO: ∀w1,Below w.heap.size w w1→Calls Tryz.prog 42 #[yi n] w1 fun z w'=>z= .returned (.tuple #[.string o,yi e])∧Below w1.heap.size w1 w'):
  Calls Tryz.prog 13 #[yi n,.string a,.string b,yi way] w fun z w'=>z= .returned (.bool true)∧Below w.heap.size w w':=by
 replace HB:Hid _:=HB;replace HO:Hid _:=HO
 go_enter Tryz.func13,Tryz.ntmps13
 have b0:=Below.refl w.heap.size w
 go_wp2_with fail
 refine(HB.out _ b0).mono ?_;rintro zz w1 ⟨rfl,bb2⟩;have b3:=below_trans b0 bb2;clear b0 bb2 HB
 go_wp2_with fail
 refine(HO.out _ b3).mono ?_;rintro zz w4 ⟨rfl,bb5⟩;have b6:=below_trans b3 bb5;clear b3 bb5 HO
 go_wp2
 go_ret
 exact⟨by simp,b6⟩
set_option maxHeartbeats 3200000 in
theorem one_way (n way n1 e1:Int) (a b o s1:ByteArray) (w:World) (he:(e1==0)=false)
  (HB: ∀w1,Below w.heap.size w w1→Calls Tryz.prog 20 #[] w1 fun z w'=>z= .returned (.bool true)∧Below w1.heap.size w1 w')
  (HO: ∀w1,Below w.heap.size w w1→Calls Tryz.prog 42 #[yi n] w1 fun z w'=>z= .returned (.tuple #[.string o,yi 0])∧Below w1.heap.size w1 w')
  (HF: ∀w1,Below w.heap.size w w1→Calls Tryz.prog 28 #[yi n,.string a,.string o,.string b,yi way] w1 fun z w'=>z= .returned (.tuple #[.string s1,yi n1,yi e1])∧Below w1.heap.size w1 w')
  (HA: ∀w1,Below w.heap.size w w1→Calls Tryz.prog 17 #[yi n,.string a,.string b,yi way] w1 fun z w'=>z= .returned (.tuple #[.string s1,yi n1,yi e1])∧Below w1.heap.size w1 w')
  (HY: ∀w1,Below w.heap.size w w1→Calls Tryz.prog 37 #[yi way] w1 fun z w'=>z= .returned (.bool false)∧Below w1.heap.size w1 w'):
  Calls Tryz.prog 13 #[yi n,.string a,.string b,yi way] w fun z w'=>z= .returned (.bool true)∧Below w.heap.size w w':=by
 replace HB:Hid _:=HB;replace HO:Hid _:=HO;replace HF:Hid _:=HF;replace HA:Hid _:=HA;replace HY:Hid _:=HY
 go_enter Tryz.func13,Tryz.ntmps13
 have b0:=Below.refl w.heap.size w
 go_wp2_with fail
 refine(HB.out _ b0).mono ?_;rintro zz w1 ⟨rfl,bb2⟩;have b3:=below_trans b0 bb2;clear b0 bb2 HB
 go_wp2_with fail
 refine(HO.out _ b3).mono ?_;rintro zz w4 ⟨rfl,bb5⟩;have b6:=below_trans b3 bb5;clear b3 bb5 HO
 go_wp2_with fail
 refine(HF.out _ b6).mono ?_;rintro zz w7 ⟨rfl,bb8⟩;have b9:=below_trans b6 bb8;clear b6 bb8 HF
 go_wp2_with fail
 refine(HA.out _ b9).mono ?_;rintro zz w10 ⟨rfl,bb11⟩;have b12:=below_trans b9 bb11;clear b9 bb11 HA
 go_wp2_with fail
 refine(HY.out _ b12).mono ?_;rintro zz w13 ⟨rfl,bb14⟩;have b15:=below_trans b12 bb14;clear b12 bb14 HY
 go_wp2
 go_ret
 exact⟨by simpa using he,b15⟩
set_option maxHeartbeats 3200000 in
theorem one_c1 (c f:Int) (n way n1 e1 p:Int) (ng:Bool) (m:Nat) (a b o s1 u:ByteArray) (w:World)
  (HB: ∀w1,Below w.heap.size w w1→Calls Tryz.prog 20 #[] w1 fun z w'=>z= .returned (.bool true)∧Below w1.heap.size w1 w')
  (HO: ∀w1,Below w.heap.size w w1→Calls Tryz.prog 42 #[yi n] w1 fun z w'=>z= .returned (.tuple #[.string o,yi 0])∧Below w1.heap.size w1 w')
  (HF: ∀w1,Below w.heap.size w w1→Calls Tryz.prog 28 #[yi n,.string a,.string o,.string b,yi way] w1 fun z w'=>z= .returned (.tuple #[.string s1,yi n1,yi e1])∧Below w1.heap.size w1 w')
  (HA: ∀w1,Below w.heap.size w w1→Calls Tryz.prog 17 #[yi n,.string a,.string b,yi way] w1 fun z w'=>z= .returned (.tuple #[.string s1,yi n1,yi e1])∧Below w1.heap.size w1 w')
  (HY: ∀w1,Below w.heap.size w w1→Calls Tryz.prog 37 #[yi way] w1 fun z w'=>z= .returned (.bool true)∧Below w1.heap.size w1 w')
  (HD: ∀w1,Below w.heap.size w w1→Calls Tryz.prog 43 #[yi n,.string a] w1 (DecRes w1 c ng m p 1))
  (HE: ∀vo vc w1,Below w.heap.size w w1→Rd w1 .u32 (.slice vo (Dg.dg 4294967296 m).length vc) (Dg.dg 4294967296 m)→Calls Tryz.prog 44 #[yi n,yvV c ng (.slice vo (Dg.dg 4294967296 m).length vc) p] w1 fun z w'=>z= .returned (.tuple #[.string u,yi f])∧Below w1.heap.size w1 w'):
  Calls Tryz.prog 13 #[yi n,.string a,.string b,yi way] w fun z w'=>z= .returned (.bool true)∧Below w.heap.size w w':=by
 replace HB:Hid _:=HB;replace HO:Hid _:=HO;replace HF:Hid _:=HF;replace HA:Hid _:=HA;replace HY:Hid _:=HY;replace HD:Hid _:=HD;replace HE:Hid _:=HE
 go_enter Tryz.func13,Tryz.ntmps13
 have b0:=Below.refl w.heap.size w
 go_wp2_with fail
 refine(HB.out _ b0).mono ?_;rintro zz w1 ⟨rfl,bb2⟩;have b3:=below_trans b0 bb2;clear b0 bb2 HB
 go_wp2_with fail
 refine(HO.out _ b3).mono ?_;rintro zz w4 ⟨rfl,bb5⟩;have b6:=below_trans b3 bb5;clear b3 bb5 HO
 go_wp2_with fail
 refine(HF.out _ b6).mono ?_;rintro zz w7 ⟨rfl,bb8⟩;have b9:=below_trans b6 bb8;clear b6 bb8 HF
 go_wp2_with fail
 refine(HA.out _ b9).mono ?_;rintro zz w10 ⟨rfl,bb11⟩;have b12:=below_trans b9 bb11;clear b9 bb11 HA
 go_wp2_with fail
 refine(HY.out _ b12).mono ?_;rintro zz w13 ⟨rfl,bb14⟩;have b15:=below_trans b12 bb14;clear b12 bb14 HY
 go_wp2_with fail
 refine(HD.out _ b15).mono ?_;rintro zz w16 ⟨v118,rfl,r119,bb17⟩;have b20:=below_trans b15 bb17;obtain⟨vo,vc,hv⟩:=r119.shape;subst hv;clear b15 bb17 HD;obtain⟨W24,hW23,q22,al21⟩:=ent1 w16 (yvL c ng (.slice vo (Dg.dg 4294967296 m).length vc) p) 73;replace hW23:Hid _:=hW23;have hl25:w.heap.size≤w16.heap.size:=b20.size;have r26:=r119.later al21;have b27:=below_trans b20 al21;clear r119 b20 al21
 go_upto_region 13 with fail
 rw[hW23.out];clear hW23;obtain⟨c28,c29,c30,c31⟩:=q22.cs4
 go_wp2_with fail
 refine(HE.out _ _ _ b27 r26).mono ?_;rintro zz w32 ⟨rfl,bb33⟩;have b34:=below_trans b27 bb33;clear q22 r26 b27 bb33 HE c28 c29 c30 c31
 go_wp2
 go_ret
 exact⟨by simp,b34⟩
set_option maxHeartbeats 3200000 in
theorem one_c2_3 (c:Int) (n way n1 e1 p:Int) (ng:Bool) (m:Nat) (a b o s1 u:ByteArray) (w:World)
  (HB: ∀w1,Below w.heap.size w w1→Calls Tryz.prog 20 #[] w1 fun z w'=>z= .returned (.bool true)∧Below w1.heap.size w1 w')
  (HO: ∀w1,Below w.heap.size w w1→Calls Tryz.prog 42 #[yi n] w1 fun z w'=>z= .returned (.tuple #[.string o,yi 0])∧Below w1.heap.size w1 w')
  (HF: ∀w1,Below w.heap.size w w1→Calls Tryz.prog 28 #[yi n,.string a,.string o,.string b,yi way] w1 fun z w'=>z= .returned (.tuple #[.string s1,yi n1,yi e1])∧Below w1.heap.size w1 w')
  (HA: ∀w1,Below w.heap.size w w1→Calls Tryz.prog 17 #[yi n,.string a,.string b,yi way] w1 fun z w'=>z= .returned (.tuple #[.string s1,yi n1,yi e1])∧Below w1.heap.size w1 w')
  (HY: ∀w1,Below w.heap.size w w1→Calls Tryz.prog 37 #[yi way] w1 fun z w'=>z= .returned (.bool true)∧Below w1.heap.size w1 w')
  (HD: ∀w1,Below w.heap.size w w1→Calls Tryz.prog 43 #[yi n,.string a] w1 (DecRes w1 c ng m p 0))
  (HE: ∀vo vc w1,Below w.heap.size w w1→Rd w1 .u32 (.slice vo (Dg.dg 4294967296 m).length vc) (Dg.dg 4294967296 m)→Calls Tryz.prog 44 #[yi n,yvV c ng (.slice vo (Dg.dg 4294967296 m).length vc) p] w1 fun z w'=>z= .returned (.tuple #[.string u,yi 3])∧Below w1.heap.size w1 w'):
  Calls Tryz.prog 13 #[yi n,.string a,.string b,yi way] w fun z w'=>z= .returned (.bool true)∧Below w.heap.size w w':=by
 replace HB:Hid _:=HB;replace HO:Hid _:=HO;replace HF:Hid _:=HF;replace HA:Hid _:=HA;replace HY:Hid _:=HY;replace HD:Hid _:=HD;replace HE:Hid _:=HE
 go_enter Tryz.func13,Tryz.ntmps13
 have b0:=Below.refl w.heap.size w
 go_wp2_with fail
 refine(HB.out _ b0).mono ?_;rintro zz w1 ⟨rfl,bb2⟩;have b3:=below_trans b0 bb2;clear b0 bb2 HB
 go_wp2_with fail
 refine(HO.out _ b3).mono ?_;rintro zz w4 ⟨rfl,bb5⟩;have b6:=below_trans b3 bb5;clear b3 bb5 HO
 go_wp2_with fail
 refine(HF.out _ b6).mono ?_;rintro zz w7 ⟨rfl,bb8⟩;have b9:=below_trans b6 bb8;clear b6 bb8 HF
 go_wp2_with fail
 refine(HA.out _ b9).mono ?_;rintro zz w10 ⟨rfl,bb11⟩;have b12:=below_trans b9 bb11;clear b9 bb11 HA
 go_wp2_with fail
 refine(HY.out _ b12).mono ?_;rintro zz w13 ⟨rfl,bb14⟩;have b15:=below_trans b12 bb14;clear b12 bb14 HY
 go_wp2_with fail
 refine(HD.out _ b15).mono ?_;rintro zz w16 ⟨v118,rfl,r119,bb17⟩;have b20:=below_trans b15 bb17;obtain⟨vo,vc,hv⟩:=r119.shape;subst hv;clear b15 bb17 HD;obtain⟨W24,hW23,q22,al21⟩:=ent1 w16 (yvL c ng (.slice vo (Dg.dg 4294967296 m).length vc) p) 73;replace hW23:Hid _:=hW23;have hl25:w.heap.size≤w16.heap.size:=b20.size;have r26:=r119.later al21;have b27:=below_trans b20 al21;clear r119 b20 al21
 go_upto_region 13 with fail
 rw[hW23.out];clear hW23;obtain⟨c28,c29,c30,c31⟩:=q22.cs4
 go_wp2_with fail
 refine(HE.out _ _ _ b27 r26).mono ?_;rintro zz w32 ⟨rfl,bb33⟩;have b34:=below_trans b27 bb33;clear q22 r26 b27 bb33 HE c28 c29 c30 c31
 go_wp2
 go_ret
 exact⟨by simp,b34⟩
set_option maxHeartbeats 3200000 in
theorem one_c2_4 (c:Int) (n way n1 e1 p:Int) (ng:Bool) (m:Nat) (a b o s1 u:ByteArray) (w:World)
  (HB: ∀w1,Below w.heap.size w w1→Calls Tryz.prog 20 #[] w1 fun z w'=>z= .returned (.bool true)∧Below w1.heap.size w1 w')
  (HO: ∀w1,Below w.heap.size w w1→Calls Tryz.prog 42 #[yi n] w1 fun z w'=>z= .returned (.tuple #[.string o,yi 0])∧Below w1.heap.size w1 w')
  (HF: ∀w1,Below w.heap.size w w1→Calls Tryz.prog 28 #[yi n,.string a,.string o,.string b,yi way] w1 fun z w'=>z= .returned (.tuple #[.string s1,yi n1,yi e1])∧Below w1.heap.size w1 w')
  (HA: ∀w1,Below w.heap.size w w1→Calls Tryz.prog 17 #[yi n,.string a,.string b,yi way] w1 fun z w'=>z= .returned (.tuple #[.string s1,yi n1,yi e1])∧Below w1.heap.size w1 w')
  (HY: ∀w1,Below w.heap.size w w1→Calls Tryz.prog 37 #[yi way] w1 fun z w'=>z= .returned (.bool true)∧Below w1.heap.size w1 w')
  (HD: ∀w1,Below w.heap.size w w1→Calls Tryz.prog 43 #[yi n,.string a] w1 (DecRes w1 c ng m p 0))
  (HE: ∀vo vc w1,Below w.heap.size w w1→Rd w1 .u32 (.slice vo (Dg.dg 4294967296 m).length vc) (Dg.dg 4294967296 m)→Calls Tryz.prog 44 #[yi n,yvV c ng (.slice vo (Dg.dg 4294967296 m).length vc) p] w1 fun z w'=>z= .returned (.tuple #[.string u,yi 4])∧Below w1.heap.size w1 w'):
  Calls Tryz.prog 13 #[yi n,.string a,.string b,yi way] w fun z w'=>z= .returned (.bool true)∧Below w.heap.size w w':=by
 replace HB:Hid _:=HB;replace HO:Hid _:=HO;replace HF:Hid _:=HF;replace HA:Hid _:=HA;replace HY:Hid _:=HY;replace HD:Hid _:=HD;replace HE:Hid _:=HE
 go_enter Tryz.func13,Tryz.ntmps13
 have b0:=Below.refl w.heap.size w
 go_wp2_with fail
 refine(HB.out _ b0).mono ?_;rintro zz w1 ⟨rfl,bb2⟩;have b3:=below_trans b0 bb2;clear b0 bb2 HB
 go_wp2_with fail
 refine(HO.out _ b3).mono ?_;rintro zz w4 ⟨rfl,bb5⟩;have b6:=below_trans b3 bb5;clear b3 bb5 HO
 go_wp2_with fail
 refine(HF.out _ b6).mono ?_;rintro zz w7 ⟨rfl,bb8⟩;have b9:=below_trans b6 bb8;clear b6 bb8 HF
 go_wp2_with fail
 refine(HA.out _ b9).mono ?_;rintro zz w10 ⟨rfl,bb11⟩;have b12:=below_trans b9 bb11;clear b9 bb11 HA
 go_wp2_with fail
 refine(HY.out _ b12).mono ?_;rintro zz w13 ⟨rfl,bb14⟩;have b15:=below_trans b12 bb14;clear b12 bb14 HY
 go_wp2_with fail
 refine(HD.out _ b15).mono ?_;rintro zz w16 ⟨v118,rfl,r119,bb17⟩;have b20:=below_trans b15 bb17;obtain⟨vo,vc,hv⟩:=r119.shape;subst hv;clear b15 bb17 HD;obtain⟨W24,hW23,q22,al21⟩:=ent1 w16 (yvL c ng (.slice vo (Dg.dg 4294967296 m).length vc) p) 73;replace hW23:Hid _:=hW23;have hl25:w.heap.size≤w16.heap.size:=b20.size;have r26:=r119.later al21;have b27:=below_trans b20 al21;clear r119 b20 al21
 go_upto_region 13 with fail
 rw[hW23.out];clear hW23;obtain⟨c28,c29,c30,c31⟩:=q22.cs4
 go_wp2_with fail
 refine(HE.out _ _ _ b27 r26).mono ?_;rintro zz w32 ⟨rfl,bb33⟩;have b34:=below_trans b27 bb33;clear q22 r26 b27 bb33 HE c28 c29 c30 c31
 go_wp2
 go_ret
 exact⟨by simp,b34⟩
set_option maxHeartbeats 3200000 in
theorem one_c2_5 (c:Int) (n way n1 e1 p:Int) (ng:Bool) (m:Nat) (a b o s1 u:ByteArray) (w:World)
  (HB: ∀w1,Below w.heap.size w w1→Calls Tryz.prog 20 #[] w1 fun z w'=>z= .returned (.bool true)∧Below w1.heap.size w1 w')
  (HO: ∀w1,Below w.heap.size w w1→Calls Tryz.prog 42 #[yi n] w1 fun z w'=>z= .returned (.tuple #[.string o,yi 0])∧Below w1.heap.size w1 w')
  (HF: ∀w1,Below w.heap.size w w1→Calls Tryz.prog 28 #[yi n,.string a,.string o,.string b,yi way] w1 fun z w'=>z= .returned (.tuple #[.string s1,yi n1,yi e1])∧Below w1.heap.size w1 w')
  (HA: ∀w1,Below w.heap.size w w1→Calls Tryz.prog 17 #[yi n,.string a,.string b,yi way] w1 fun z w'=>z= .returned (.tuple #[.string s1,yi n1,yi e1])∧Below w1.heap.size w1 w')
  (HY: ∀w1,Below w.heap.size w w1→Calls Tryz.prog 37 #[yi way] w1 fun z w'=>z= .returned (.bool true)∧Below w1.heap.size w1 w')
  (HD: ∀w1,Below w.heap.size w w1→Calls Tryz.prog 43 #[yi n,.string a] w1 (DecRes w1 c ng m p 0))
  (HE: ∀vo vc w1,Below w.heap.size w w1→Rd w1 .u32 (.slice vo (Dg.dg 4294967296 m).length vc) (Dg.dg 4294967296 m)→Calls Tryz.prog 44 #[yi n,yvV c ng (.slice vo (Dg.dg 4294967296 m).length vc) p] w1 fun z w'=>z= .returned (.tuple #[.string u,yi 5])∧Below w1.heap.size w1 w'):
  Calls Tryz.prog 13 #[yi n,.string a,.string b,yi way] w fun z w'=>z= .returned (.bool true)∧Below w.heap.size w w':=by
 replace HB:Hid _:=HB;replace HO:Hid _:=HO;replace HF:Hid _:=HF;replace HA:Hid _:=HA;replace HY:Hid _:=HY;replace HD:Hid _:=HD;replace HE:Hid _:=HE
 go_enter Tryz.func13,Tryz.ntmps13
 have b0:=Below.refl w.heap.size w
 go_wp2_with fail
 refine(HB.out _ b0).mono ?_;rintro zz w1 ⟨rfl,bb2⟩;have b3:=below_trans b0 bb2;clear b0 bb2 HB
 go_wp2_with fail
 refine(HO.out _ b3).mono ?_;rintro zz w4 ⟨rfl,bb5⟩;have b6:=below_trans b3 bb5;clear b3 bb5 HO
 go_wp2_with fail
 refine(HF.out _ b6).mono ?_;rintro zz w7 ⟨rfl,bb8⟩;have b9:=below_trans b6 bb8;clear b6 bb8 HF
 go_wp2_with fail
 refine(HA.out _ b9).mono ?_;rintro zz w10 ⟨rfl,bb11⟩;have b12:=below_trans b9 bb11;clear b9 bb11 HA
 go_wp2_with fail
 refine(HY.out _ b12).mono ?_;rintro zz w13 ⟨rfl,bb14⟩;have b15:=below_trans b12 bb14;clear b12 bb14 HY
 go_wp2_with fail
 refine(HD.out _ b15).mono ?_;rintro zz w16 ⟨v118,rfl,r119,bb17⟩;have b20:=below_trans b15 bb17;obtain⟨vo,vc,hv⟩:=r119.shape;subst hv;clear b15 bb17 HD;obtain⟨W24,hW23,q22,al21⟩:=ent1 w16 (yvL c ng (.slice vo (Dg.dg 4294967296 m).length vc) p) 73;replace hW23:Hid _:=hW23;have hl25:w.heap.size≤w16.heap.size:=b20.size;have r26:=r119.later al21;have b27:=below_trans b20 al21;clear r119 b20 al21
 go_upto_region 13 with fail
 rw[hW23.out];clear hW23;obtain⟨c28,c29,c30,c31⟩:=q22.cs4
 go_wp2_with fail
 refine(HE.out _ _ _ b27 r26).mono ?_;rintro zz w32 ⟨rfl,bb33⟩;have b34:=below_trans b27 bb33;clear q22 r26 b27 bb33 HE c28 c29 c30 c31
 go_wp2
 go_ret
 exact⟨by simp,b34⟩
set_option maxHeartbeats 3200000 in
theorem one_c3 (c:Int) (n way n1 e1 p:Int) (ng:Bool) (m:Nat) (a b o s1 u:ByteArray) (w:World) (hc:3<c)
  (HB: ∀w1,Below w.heap.size w w1→Calls Tryz.prog 20 #[] w1 fun z w'=>z= .returned (.bool true)∧Below w1.heap.size w1 w')
  (HO: ∀w1,Below w.heap.size w w1→Calls Tryz.prog 42 #[yi n] w1 fun z w'=>z= .returned (.tuple #[.string o,yi 0])∧Below w1.heap.size w1 w')
  (HF: ∀w1,Below w.heap.size w w1→Calls Tryz.prog 28 #[yi n,.string a,.string o,.string b,yi way] w1 fun z w'=>z= .returned (.tuple #[.string s1,yi n1,yi e1])∧Below w1.heap.size w1 w')
  (HA: ∀w1,Below w.heap.size w w1→Calls Tryz.prog 17 #[yi n,.string a,.string b,yi way] w1 fun z w'=>z= .returned (.tuple #[.string s1,yi n1,yi e1])∧Below w1.heap.size w1 w')
  (HY: ∀w1,Below w.heap.size w w1→Calls Tryz.prog 37 #[yi way] w1 fun z w'=>z= .returned (.bool true)∧Below w1.heap.size w1 w')
  (HD: ∀w1,Below w.heap.size w w1→Calls Tryz.prog 43 #[yi n,.string a] w1 (DecRes w1 c ng m p 0))
  (HE: ∀vo vc w1,Below w.heap.size w w1→Rd w1 .u32 (.slice vo (Dg.dg 4294967296 m).length vc) (Dg.dg 4294967296 m)→Calls Tryz.prog 44 #[yi n,yvV c ng (.slice vo (Dg.dg 4294967296 m).length vc) p] w1 fun z w'=>z= .returned (.tuple #[.string u,yi 0])∧Below w1.heap.size w1 w'):
  Calls Tryz.prog 13 #[yi n,.string a,.string b,yi way] w fun z w'=>z= .returned (.bool true)∧Below w.heap.size w w':=by
 replace HB:Hid _:=HB;replace HO:Hid _:=HO;replace HF:Hid _:=HF;replace HA:Hid _:=HA;replace HY:Hid _:=HY;replace HD:Hid _:=HD;replace HE:Hid _:=HE
 go_enter Tryz.func13,Tryz.ntmps13
 have b0:=Below.refl w.heap.size w
 go_wp2_with fail
 refine(HB.out _ b0).mono ?_;rintro zz w1 ⟨rfl,bb2⟩;have b3:=below_trans b0 bb2;clear b0 bb2 HB
 go_wp2_with fail
 refine(HO.out _ b3).mono ?_;rintro zz w4 ⟨rfl,bb5⟩;have b6:=below_trans b3 bb5;clear b3 bb5 HO
 go_wp2_with fail
 refine(HF.out _ b6).mono ?_;rintro zz w7 ⟨rfl,bb8⟩;have b9:=below_trans b6 bb8;clear b6 bb8 HF
 go_wp2_with fail
 refine(HA.out _ b9).mono ?_;rintro zz w10 ⟨rfl,bb11⟩;have b12:=below_trans b9 bb11;clear b9 bb11 HA
 go_wp2_with fail
 refine(HY.out _ b12).mono ?_;rintro zz w13 ⟨rfl,bb14⟩;have b15:=below_trans b12 bb14;clear b12 bb14 HY
 go_wp2_with fail
 refine(HD.out _ b15).mono ?_;rintro zz w16 ⟨v118,rfl,r119,bb17⟩;have b20:=below_trans b15 bb17;obtain⟨vo,vc,hv⟩:=r119.shape;subst hv;clear b15 bb17 HD;obtain⟨W24,hW23,q22,al21⟩:=ent1 w16 (yvL c ng (.slice vo (Dg.dg 4294967296 m).length vc) p) 73;replace hW23:Hid _:=hW23;have hl25:w.heap.size≤w16.heap.size:=b20.size;have r26:=r119.later al21;have b27:=below_trans b20 al21;clear r119 b20 al21
 go_upto_region 13 with fail
 rw[hW23.out];clear hW23;obtain⟨c28,c29,c30,c31⟩:=q22.cs4
 go_wp2_with fail
 refine(HE.out _ _ _ b27 r26).mono ?_;rintro zz w32 ⟨rfl,bb33⟩;have q34:=q22.later bb33;have b35:=below_trans b27 bb33;clear q22 r26 b27 bb33 HE c28 c29 c30 c31;have c36:=q34.cell 0 rfl
 go_wp2
 go_ret
 exact⟨by simp,b35⟩
set_option maxHeartbeats 3200000 in
theorem one_zero (pz:Int) (gz:Bool) (mz:Nat) (q:ByteArray) (n way n1 e1 p:Int) (ng:Bool) (m:Nat) (a b o s1 u:ByteArray) (w:World)
  (HB: ∀w1,Below w.heap.size w w1→Calls Tryz.prog 20 #[] w1 fun z w'=>z= .returned (.bool true)∧Below w1.heap.size w1 w')
  (HO: ∀w1,Below w.heap.size w w1→Calls Tryz.prog 42 #[yi n] w1 fun z w'=>z= .returned (.tuple #[.string o,yi 0])∧Below w1.heap.size w1 w')
  (HF: ∀w1,Below w.heap.size w w1→Calls Tryz.prog 28 #[yi n,.string a,.string o,.string b,yi way] w1 fun z w'=>z= .returned (.tuple #[.string s1,yi n1,yi e1])∧Below w1.heap.size w1 w')
  (HA: ∀w1,Below w.heap.size w w1→Calls Tryz.prog 17 #[yi n,.string a,.string b,yi way] w1 fun z w'=>z= .returned (.tuple #[.string s1,yi n1,yi e1])∧Below w1.heap.size w1 w')
  (HY: ∀w1,Below w.heap.size w w1→Calls Tryz.prog 37 #[yi way] w1 fun z w'=>z= .returned (.bool true)∧Below w1.heap.size w1 w')
  (HD: ∀w1,Below w.heap.size w w1→Calls Tryz.prog 43 #[yi n,.string a] w1 (DecRes w1 1 ng m p 0))
  (HE: ∀vo vc w1,Below w.heap.size w w1→Rd w1 .u32 (.slice vo (Dg.dg 4294967296 m).length vc) (Dg.dg 4294967296 m)→Calls Tryz.prog 44 #[yi n,yvV 1 ng (.slice vo (Dg.dg 4294967296 m).length vc) p] w1 fun z w'=>z= .returned (.tuple #[.string u,yi 0])∧Below w1.heap.size w1 w')
  (HM: ∀w1,Below w.heap.size w w1→Calls Tryz.prog 24 #[yi n,.string a,.string o,yi way] w1 fun z w'=>z= .returned (.tuple #[.string q,yi 0,yi 0])∧Below w1.heap.size w1 w')
  (HV: ∀w1,Below w.heap.size w w1→Calls Tryz.prog 26 #[yi n,.string a,.string o,yi way] w1 fun z w'=>z= .returned (.tuple #[.string q,yi 0,yi 0])∧Below w1.heap.size w1 w')
  (HZ: ∀w1,Below w.heap.size w w1→Calls Tryz.prog 43 #[yi n,.string q] w1 (DecRes w1 1 gz mz pz 0)):
  Calls Tryz.prog 13 #[yi n,.string a,.string b,yi way] w fun z w'=>z= .returned (.bool true)∧Below w.heap.size w w':=by
 replace HB:Hid _:=HB;replace HO:Hid _:=HO;replace HF:Hid _:=HF;replace HA:Hid _:=HA;replace HY:Hid _:=HY;replace HD:Hid _:=HD;replace HE:Hid _:=HE;replace HM:Hid _:=HM;replace HV:Hid _:=HV;replace HZ:Hid _:=HZ
 go_enter Tryz.func13,Tryz.ntmps13
 have b0:=Below.refl w.heap.size w
 go_wp2_with fail
 refine(HB.out _ b0).mono ?_;rintro zz w1 ⟨rfl,bb2⟩;have b3:=below_trans b0 bb2;clear b0 bb2 HB
 go_wp2_with fail
 refine(HO.out _ b3).mono ?_;rintro zz w4 ⟨rfl,bb5⟩;have b6:=below_trans b3 bb5;clear b3 bb5 HO
 go_wp2_with fail
 refine(HF.out _ b6).mono ?_;rintro zz w7 ⟨rfl,bb8⟩;have b9:=below_trans b6 bb8;clear b6 bb8 HF
 go_wp2_with fail
 refine(HA.out _ b9).mono ?_;rintro zz w10 ⟨rfl,bb11⟩;have b12:=below_trans b9 bb11;clear b9 bb11 HA
 go_wp2_with fail
 refine(HY.out _ b12).mono ?_;rintro zz w13 ⟨rfl,bb14⟩;have b15:=below_trans b12 bb14;clear b12 bb14 HY
 go_wp2_with fail
 refine(HD.out _ b15).mono ?_;rintro zz w16 ⟨v118,rfl,r119,bb17⟩;have b20:=below_trans b15 bb17;obtain⟨vo,vc,hv⟩:=r119.shape;subst hv;clear b15 bb17 HD;obtain⟨W24,hW23,q22,al21⟩:=ent1 w16 (yvL 1 ng (.slice vo (Dg.dg 4294967296 m).length vc) p) 73;replace hW23:Hid _:=hW23;have hl25:w.heap.size≤w16.heap.size:=b20.size;have r26:=r119.later al21;have b27:=below_trans b20 al21;clear r119 b20 al21
 go_upto_region 13 with fail
 rw[hW23.out];clear hW23;obtain⟨c28,c29,c30,c31⟩:=q22.cs4
 go_wp2_with fail
 refine(HE.out _ _ _ b27 r26).mono ?_;rintro zz w32 ⟨rfl,bb33⟩;have q34:=q22.later bb33;have b35:=below_trans b27 bb33;clear q22 r26 b27 bb33 HE c28 c29 c30 c31;have c36:=q34.cell 0 rfl
 go_wp2_with fail
 refine(HM.out _ b35).mono ?_;rintro zz w37 ⟨rfl,bb38⟩;have q39:=q34.later bb38;have b40:=below_trans b35 bb38;clear q34 b35 bb38 HM c36
 go_wp2_with fail
 refine(HV.out _ b40).mono ?_;rintro zz w41 ⟨rfl,bb42⟩;have q43:=q39.later bb42;have b44:=below_trans b40 bb42;clear q39 b40 bb42 HV
 go_wp2_with fail
 refine(HZ.out _ b44).mono ?_;rintro zz w45 ⟨v147,rfl,r148,bb46⟩;have q49:=q43.later bb46;have b50:=below_trans b44 bb46;obtain⟨yo,yc,hv⟩:=r148.shape;subst hv;clear q43 b44 bb46 HZ;obtain⟨W54,hW53,q52,al51⟩:=ent1 w45 (yvL 1 gz (.slice yo (Dg.dg 4294967296 mz).length yc) pz) 73;replace hW53:Hid _:=hW53;have hl55:w.heap.size≤w45.heap.size:=b50.size;have hl56:=q49.lt;have q57:=q49.later al51;have b58:=below_trans b50 al51;clear q49 r148 b50 al51
 go_upto_region 19 with fail
 rw[hW53.out];clear hW53;have c59:=q57.cell 0 rfl;have c60:=q52.cell 0 rfl
 go_wp2
 go_ret
 exact⟨by simp,b58⟩
set_option maxHeartbeats 3200000 in
theorem one_num (c cz pz:Int) (gz:Bool) (mz:Nat) (n way n1 e1 p:Int) (ng:Bool) (m:Nat) (a b o s1 u:ByteArray) (w:World) (h3: ¬3<c) (h1:(c==1)=false)
  (HB: ∀w1,Below w.heap.size w w1→Calls Tryz.prog 20 #[] w1 fun z w'=>z= .returned (.bool true)∧Below w1.heap.size w1 w')
  (HO: ∀w1,Below w.heap.size w w1→Calls Tryz.prog 42 #[yi n] w1 fun z w'=>z= .returned (.tuple #[.string o,yi 0])∧Below w1.heap.size w1 w')
  (HF: ∀w1,Below w.heap.size w w1→Calls Tryz.prog 28 #[yi n,.string a,.string o,.string b,yi way] w1 fun z w'=>z= .returned (.tuple #[.string s1,yi n1,yi e1])∧Below w1.heap.size w1 w')
  (HA: ∀w1,Below w.heap.size w w1→Calls Tryz.prog 17 #[yi n,.string a,.string b,yi way] w1 fun z w'=>z= .returned (.tuple #[.string s1,yi n1,yi e1])∧Below w1.heap.size w1 w')
  (HY: ∀w1,Below w.heap.size w w1→Calls Tryz.prog 37 #[yi way] w1 fun z w'=>z= .returned (.bool true)∧Below w1.heap.size w1 w')
  (HD: ∀w1,Below w.heap.size w w1→Calls Tryz.prog 43 #[yi n,.string a] w1 (DecRes w1 c ng m p 0))
  (HE: ∀vo vc w1,Below w.heap.size w w1→Rd w1 .u32 (.slice vo (Dg.dg 4294967296 m).length vc) (Dg.dg 4294967296 m)→Calls Tryz.prog 44 #[yi n,yvV c ng (.slice vo (Dg.dg 4294967296 m).length vc) p] w1 fun z w'=>z= .returned (.tuple #[.string u,yi 0])∧Below w1.heap.size w1 w')
  (HM: ∀w1,Below w.heap.size w w1→Calls Tryz.prog 24 #[yi n,.string a,.string o,yi way] w1 fun z w'=>z= .returned (.tuple #[.string u,yi 0,yi 0])∧Below w1.heap.size w1 w')
  (HV: ∀w1,Below w.heap.size w w1→Calls Tryz.prog 26 #[yi n,.string a,.string o,yi way] w1 fun z w'=>z= .returned (.tuple #[.string u,yi 0,yi 0])∧Below w1.heap.size w1 w')
  (HZ: ∀w1,Below w.heap.size w w1→Calls Tryz.prog 43 #[yi n,.string u] w1 (DecRes w1 cz gz mz pz 0)):
  Calls Tryz.prog 13 #[yi n,.string a,.string b,yi way] w fun z w'=>z= .returned (.bool true)∧Below w.heap.size w w':=by
 replace HB:Hid _:=HB;replace HO:Hid _:=HO;replace HF:Hid _:=HF;replace HA:Hid _:=HA;replace HY:Hid _:=HY;replace HD:Hid _:=HD;replace HE:Hid _:=HE;replace HM:Hid _:=HM;replace HV:Hid _:=HV;replace HZ:Hid _:=HZ
 go_enter Tryz.func13,Tryz.ntmps13
 have b0:=Below.refl w.heap.size w
 go_wp2_with fail
 refine(HB.out _ b0).mono ?_;rintro zz w1 ⟨rfl,bb2⟩;have b3:=below_trans b0 bb2;clear b0 bb2 HB
 go_wp2_with fail
 refine(HO.out _ b3).mono ?_;rintro zz w4 ⟨rfl,bb5⟩;have b6:=below_trans b3 bb5;clear b3 bb5 HO
 go_wp2_with fail
 refine(HF.out _ b6).mono ?_;rintro zz w7 ⟨rfl,bb8⟩;have b9:=below_trans b6 bb8;clear b6 bb8 HF
 go_wp2_with fail
 refine(HA.out _ b9).mono ?_;rintro zz w10 ⟨rfl,bb11⟩;have b12:=below_trans b9 bb11;clear b9 bb11 HA
 go_wp2_with fail
 refine(HY.out _ b12).mono ?_;rintro zz w13 ⟨rfl,bb14⟩;have b15:=below_trans b12 bb14;clear b12 bb14 HY
 go_wp2_with fail
 refine(HD.out _ b15).mono ?_;rintro zz w16 ⟨v118,rfl,r119,bb17⟩;have b20:=below_trans b15 bb17;obtain⟨vo,vc,hv⟩:=r119.shape;subst hv;clear b15 bb17 HD;obtain⟨W24,hW23,q22,al21⟩:=ent1 w16 (yvL c ng (.slice vo (Dg.dg 4294967296 m).length vc) p) 73;replace hW23:Hid _:=hW23;have hl25:w.heap.size≤w16.heap.size:=b20.size;have r26:=r119.later al21;have b27:=below_trans b20 al21;clear r119 b20 al21
 go_upto_region 13 with fail
 rw[hW23.out];clear hW23;obtain⟨c28,c29,c30,c31⟩:=q22.cs4
 go_wp2_with fail
 refine(HE.out _ _ _ b27 r26).mono ?_;rintro zz w32 ⟨rfl,bb33⟩;have q34:=q22.later bb33;have b35:=below_trans b27 bb33;clear q22 r26 b27 bb33 HE c28 c29 c30 c31;have c36:=q34.cell 0 rfl
 go_wp2_with fail
 refine(HM.out _ b35).mono ?_;rintro zz w37 ⟨rfl,bb38⟩;have q39:=q34.later bb38;have b40:=below_trans b35 bb38;clear q34 b35 bb38 HM c36
 go_wp2_with fail
 refine(HV.out _ b40).mono ?_;rintro zz w41 ⟨rfl,bb42⟩;have q43:=q39.later bb42;have b44:=below_trans b40 bb42;clear q39 b40 bb42 HV
 go_wp2_with fail
 refine(HZ.out _ b44).mono ?_;rintro zz w45 ⟨v147,rfl,r148,bb46⟩;have q49:=q43.later bb46;have b50:=below_trans b44 bb46;obtain⟨yo,yc,hv⟩:=r148.shape;subst hv;clear q43 b44 bb46 HZ;obtain⟨W54,hW53,q52,al51⟩:=ent1 w45 (yvL cz gz (.slice yo (Dg.dg 4294967296 mz).length yc) pz) 73;replace hW53:Hid _:=hW53;have hl55:w.heap.size≤w45.heap.size:=b50.size;have hl56:=q49.lt;have q57:=q49.later al51;have b58:=below_trans b50 al51;clear q49 r148 b50 al51 q52
 go_upto_region 19 with fail
 rw[hW53.out];clear hW53;have c59:=q57.cell 0 rfl
 go_wp2
 go_ret
 exact⟨by simp,b58⟩
end Go.Proofs.YtnhackdjplppjaaGreatDoor
