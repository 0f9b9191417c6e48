/-
  The walks of the law TopGrid.
-/
import Derived.WalkKit
import Derived.WalkSpells
import Derived.Deep.QuietTactic
import Derived.BigQuiet
import Derived.Lib.TrailingZeros
import Derived.Test.YtnhackdjplppjaaGreatDoorChecked
import Derived.Handy
import Derived.Laws.CopyOwn
import Derived.BigRegion
import Derived.Deep.LoopGhost
import Derived.Deep.RegionLaw
import Derived.WalkSmall
import Derived.OpenShut
import Derived.Laws.MathBits
import Derived.Lib.BitFns
import Derived.Lib.Walk
import Derived.Lib.Small
import Derived.Shelf.Spec.TrailingZeros
import Derived.Deep.RegionHeld3
import Derived.Deep.MidRow
import Derived.Laws.ResultCell
import Derived.Deep.Cut
import Derived.Laws.IdiomStrings
import Derived.Test.YtnhackdjplppjaaGreatDoorSd03
set_option maxRecDepth 100000
namespace Go.Proofs.YtnhackdjplppjaaGreatDoor
open Go.RowKit
set_option maxHeartbeats 3200000 in
theorem top0_err (n way wh fl e:Int) (a b c0:ByteArray) (w:World) (he:(e==0)=false)
  (HB: ∀w1,Below w.heap.size w w1→Calls Tryz.prog 20 #[] w1 fun z w'=>z= .returned (.bool true)∧Below w1.heap.size w1 w')
  (HB2: ∀w1,Below w.heap.size w w1→Calls Tryz.prog 48 #[] w1 fun z w'=>z= .returned (.bool true)∧Below w1.heap.size w1 w')
  (HB3: ∀w1,Below w.heap.size w w1→Calls Tryz.prog 49 #[] w1 fun z w'=>z= .returned (.bool true)∧Below w1.heap.size w1 w')
  (HX: ∀w1,Below w.heap.size w w1→Calls Tryz.prog 47 #[yi wh,yi 6] w1 fun z w'=>z= .returned (yi 0)∧Below w1.heap.size w1 w')
  (HA: ∀w1,Below w.heap.size w w1→Calls Tryz.prog 17 #[yi n,.string a,.string b,yi way] w1 fun z w'=>z= .returned (.tuple #[.string ⟨#[]⟩,yi fl,yi e])∧Below w1.heap.size w1 w'):
  Calls Tryz.prog 16 #[yi n,.string a,.string b,.string c0,yi way,yi wh] w fun z w'=>z= .returned (.bool true)∧Below w.heap.size w w':=by
 replace HB:Hid _:=HB;replace HB2:Hid _:=HB2;replace HB3:Hid _:=HB3;replace HX:Hid _:=HX;replace HA:Hid _:=HA
 go_enter Tryz.func16,Tryz.ntmps16
 have b0:=Below.refl w.heap.size w
 go_wp2_with fail
 refine(HB.out _ b0).mono ?_;rintro zz w1 ⟨rfl,bb2⟩;have b3:=below_trans b0 bb2;clear b0 bb2 HB
 go_wp2_with fail
 refine(HB2.out _ b3).mono ?_;rintro zz w4 ⟨rfl,bb5⟩;have b6:=below_trans b3 bb5;clear b3 bb5 HB2
 go_wp2_with fail
 refine(HB3.out _ b6).mono ?_;rintro zz w7 ⟨rfl,bb8⟩;have b9:=below_trans b6 bb8;clear b6 bb8 HB3
 go_wp2_with fail
 refine(HX.out _ b9).mono ?_;rintro zz w10 ⟨rfl,bb11⟩;have b12:=below_trans b9 bb11;clear b9 bb11 HX
 go_wp2_with fail
 refine(HA.out _ b12).mono ?_;rintro zz w13 ⟨rfl,bb14⟩;have b15:=below_trans b12 bb14;clear b12 bb14 HA
 go_wp2
 go_ret
 exact⟨by simp,b15⟩
set_option maxHeartbeats 3200000 in
theorem top0_oth (c:Int) (n way wh fl p R D L G:Int) (gr ng:Bool) (m:Nat) (a b c0 s:ByteArray) (w:World) (hc:(c==2)=false)
  (HB: ∀w1,Below w.heap.size w w1→Calls Tryz.prog 20 #[] w1 fun z w'=>z= .returned (.bool true)∧Below w1.heap.size w1 w')
  (HB2: ∀w1,Below w.heap.size w w1→Calls Tryz.prog 48 #[] w1 fun z w'=>z= .returned (.bool true)∧Below w1.heap.size w1 w')
  (HB3: ∀w1,Below w.heap.size w w1→Calls Tryz.prog 49 #[] w1 fun z w'=>z= .returned (.bool true)∧Below w1.heap.size w1 w')
  (HX: ∀w1,Below w.heap.size w w1→Calls Tryz.prog 47 #[yi wh,yi 6] w1 fun z w'=>z= .returned (yi 0)∧Below w1.heap.size w1 w')
  (HA: ∀w1,Below w.heap.size w w1→Calls Tryz.prog 17 #[yi n,.string a,.string b,yi way] w1 fun z w'=>z= .returned (.tuple #[.string s,yi fl,yi 0])∧Below w1.heap.size w1 w')
  (HD: ∀w1,Below w.heap.size w w1→Calls Tryz.prog 43 #[yi n,.string s] w1 (DecRes w1 c ng m p 0))
  (HE: ∀vo vc w1,Below w.heap.size w w1→Rd w1 .u32 (.slice vo (Dg.dg 4294967296 m).length vc) (Dg.dg 4294967296 m)→Calls Tryz.prog 44 #[yi n,yvV c ng (.slice vo (Dg.dg 4294967296 m).length vc) p] w1 fun z w'=>z= .returned (.tuple #[.string s,yi 0])∧Below w1.heap.size w1 w')
  (HG: ∀w1,Below w.heap.size w w1→Calls Tryz.prog 50 #[yi n] w1 fun z w'=>z= .returned (.tuple #[ygV R D L G gr,yi 0])∧Below w1.heap.size w1 w'):
  Calls Tryz.prog 16 #[yi n,.string a,.string b,.string c0,yi way,yi wh] w fun z w'=>z= .returned (.bool true)∧Below w.heap.size w w':=by
 replace HB:Hid _:=HB;replace HB2:Hid _:=HB2;replace HB3:Hid _:=HB3;replace HX:Hid _:=HX;replace HA:Hid _:=HA;replace HD:Hid _:=HD;replace HE:Hid _:=HE;replace HG:Hid _:=HG
 go_enter Tryz.func16,Tryz.ntmps16
 have b0:=Below.refl w.heap.size w
 go_wp2_with fail
 refine(HB.out _ b0).mono ?_;rintro zz w1 ⟨rfl,bb2⟩;have b3:=below_trans b0 bb2;clear b0 bb2 HB
 go_wp2_with fail
 refine(HB2.out _ b3).mono ?_;rintro zz w4 ⟨rfl,bb5⟩;have b6:=below_trans b3 bb5;clear b3 bb5 HB2
 go_wp2_with fail
 refine(HB3.out _ b6).mono ?_;rintro zz w7 ⟨rfl,bb8⟩;have b9:=below_trans b6 bb8;clear b6 bb8 HB3
 go_wp2_with fail
 refine(HX.out _ b9).mono ?_;rintro zz w10 ⟨rfl,bb11⟩;have b12:=below_trans b9 bb11;clear b9 bb11 HX
 go_wp2_with fail
 refine(HA.out _ b12).mono ?_;rintro zz w13 ⟨rfl,bb14⟩;have b15:=below_trans b12 bb14;clear b12 bb14 HA
 go_wp2_with fail
 refine(HD.out _ b15).mono ?_;rintro zz w16 ⟨v118,rfl,r119,bb17⟩;have b20:=below_trans b15 bb17;obtain⟨vo,vc,hv⟩:=r119.shape;subst hv;clear b15 bb17 HD;obtain⟨W24,hW23,q22,al21⟩:=ent1 w16 (yvL c ng (.slice vo (Dg.dg 4294967296 m).length vc) p) 73;replace hW23:Hid _:=hW23;have hl25:w.heap.size≤w16.heap.size:=b20.size;have r26:=r119.later al21;have b27:=below_trans b20 al21;clear r119 b20 al21
 go_upto_region 19 with fail
 rw[hW23.out];clear hW23;obtain⟨c28,c29,c30,c31⟩:=q22.cs4
 go_wp2_with fail
 refine(HE.out _ _ _ b27 r26).mono ?_;rintro zz w32 ⟨rfl,bb33⟩;have q34:=q22.later bb33;have b35:=below_trans b27 bb33;clear q22 r26 b27 bb33 HE c28 c29 c30 c31
 go_wp2_with fail
 refine(HG.out _ b35).mono ?_;rintro zz w36 ⟨rfl,bb37⟩;have q38:=q34.later bb37;have b39:=below_trans b35 bb37;clear q34 b35 bb37 HG;obtain⟨W43,hW42,q41,al40⟩:=ent1 w36 (ygL R D L G gr) 56;replace hW42:Hid _:=hW42;have hl44:w.heap.size≤w36.heap.size:=b39.size;have hl45:=q38.lt;have q46:=q38.later al40;have b47:=below_trans b39 al40;clear q38 b39 al40 q41
 go_upto_region 21 with fail
 rw[hW42.out];clear hW42;have c48:=q46.cell 0 rfl
 go_wp2
 go_ret
 exact⟨by simp,b47⟩
set_option maxHeartbeats 3200000 in
theorem top0_num (x:Trip) (n way wh fl p R D L G:Int) (gr ng:Bool) (m:Nat) (a b c0 s:ByteArray) (w:World)
  (HB: ∀w1,Below w.heap.size w w1→Calls Tryz.prog 20 #[] w1 fun z w'=>z= .returned (.bool true)∧Below w1.heap.size w1 w')
  (HB2: ∀w1,Below w.heap.size w w1→Calls Tryz.prog 48 #[] w1 fun z w'=>z= .returned (.bool true)∧Below w1.heap.size w1 w')
  (HB3: ∀w1,Below w.heap.size w w1→Calls Tryz.prog 49 #[] w1 fun z w'=>z= .returned (.bool true)∧Below w1.heap.size w1 w')
  (HX: ∀w1,Below w.heap.size w w1→Calls Tryz.prog 47 #[yi wh,yi 6] w1 fun z w'=>z= .returned (yi 0)∧Below w1.heap.size w1 w')
  (HA: ∀w1,Below w.heap.size w w1→Calls Tryz.prog 17 #[yi n,.string a,.string b,yi way] w1 fun z w'=>z= .returned (.tuple #[.string s,yi fl,yi 0])∧Below w1.heap.size w1 w')
  (HD: ∀w1,Below w.heap.size w w1→Calls Tryz.prog 43 #[yi n,.string s] w1 (DecRes w1 2 ng m p 0))
  (HE: ∀vo vc w1,Below w.heap.size w w1→Rd w1 .u32 (.slice vo (Dg.dg 4294967296 m).length vc) (Dg.dg 4294967296 m)→Calls Tryz.prog 44 #[yi n,yvV 2 ng (.slice vo (Dg.dg 4294967296 m).length vc) p] w1 fun z w'=>z= .returned (.tuple #[.string s,yi 0])∧Below w1.heap.size w1 w')
  (HG: ∀w1,Below w.heap.size w w1→Calls Tryz.prog 50 #[yi n] w1 fun z w'=>z= .returned (.tuple #[ygV R D L G gr,yi 0])∧Below w1.heap.size w1 w')
  (HN: ∀vo vc w1,Below w.heap.size w w1→Rd w1 .u32 (.slice vo (Dg.dg 4294967296 m).length vc) (Dg.dg 4294967296 m)→Calls Tryz.prog 51 #[ypV ng (.slice vo (Dg.dg 4294967296 m).length vc) p false false false,ygV R D L G gr] w1 fun z w'=> ∃v,z= .returned (.tuple #[ydV x.s v x.e,yi 0])∧Rd w' .u32 v (Dg.dg 4294967296 x.n)∧Below w1.heap.size w1 w')
  (HH: ∀xo xc w1,Below w.heap.size w w1→Rd w1 .u32 (.slice xo (Dg.dg 4294967296 x.n).length xc) (Dg.dg 4294967296 x.n)→Calls Tryz.prog 52 #[yDV x xo xc,ygV R D L G gr] w1 fun z w'=>z= .returned (.tuple #[.bool true,yi 0])∧Below w1.heap.size w1 w'):
  Calls Tryz.prog 16 #[yi n,.string a,.string b,.string c0,yi way,yi wh] w fun z w'=>z= .returned (.bool true)∧Below w.heap.size w w':=by
 replace HB:Hid _:=HB;replace HB2:Hid _:=HB2;replace HB3:Hid _:=HB3;replace HX:Hid _:=HX;replace HA:Hid _:=HA;replace HD:Hid _:=HD;replace HE:Hid _:=HE;replace HG:Hid _:=HG;replace HN:Hid _:=HN;replace HH:Hid _:=HH
 go_enter Tryz.func16,Tryz.ntmps16
 have b0:=Below.refl w.heap.size w
 go_wp2_with fail
 refine(HB.out _ b0).mono ?_;rintro zz w1 ⟨rfl,bb2⟩;have b3:=below_trans b0 bb2;clear b0 bb2 HB
 go_wp2_with fail
 refine(HB2.out _ b3).mono ?_;rintro zz w4 ⟨rfl,bb5⟩;have b6:=below_trans b3 bb5;clear b3 bb5 HB2
 go_wp2_with fail
 refine(HB3.out _ b6).mono ?_;rintro zz w7 ⟨rfl,bb8⟩;have b9:=below_trans b6 bb8;clear b6 bb8 HB3
 go_wp2_with fail
 refine(HX.out _ b9).mono ?_;rintro zz w10 ⟨rfl,bb11⟩;have b12:=below_trans b9 bb11;clear b9 bb11 HX
 go_wp2_with fail
 refine(HA.out _ b12).mono ?_;rintro zz w13 ⟨rfl,bb14⟩;have b15:=below_trans b12 bb14;clear b12 bb14 HA
 go_wp2_with fail
 refine(HD.out _ b15).mono ?_;rintro zz w16 ⟨v118,rfl,r119,bb17⟩;have b20:=below_trans b15 bb17;obtain⟨vo,vc,hv⟩:=r119.shape;subst hv;clear b15 bb17 HD;obtain⟨W24,hW23,q22,al21⟩:=ent1 w16 (yvL 2 ng (.slice vo (Dg.dg 4294967296 m).length vc) p) 73;replace hW23:Hid _:=hW23;have hl25:w.heap.size≤w16.heap.size:=b20.size;have r26:=r119.later al21;have b27:=below_trans b20 al21;clear r119 b20 al21
 go_upto_region 19 with fail
 rw[hW23.out];clear hW23;obtain⟨c28,c29,c30,c31⟩:=q22.cs4
 go_wp2_with fail
 refine(HE.out _ _ _ b27 r26).mono ?_;rintro zz w32 ⟨rfl,bb33⟩;have q34:=q22.later bb33;have r35:=r26.later bb33;have b36:=below_trans b27 bb33;clear q22 r26 b27 bb33 HE c28 c29 c30 c31
 go_wp2_with fail
 refine(HG.out _ b36).mono ?_;rintro zz w37 ⟨rfl,bb38⟩;have q39:=q34.later bb38;have r40:=r35.later bb38;have b41:=below_trans b36 bb38;clear q34 r35 b36 bb38 HG;obtain⟨W45,hW44,q43,al42⟩:=ent1 w37 (ygL R D L G gr) 56;replace hW44:Hid _:=hW44;have hl46:w.heap.size≤w37.heap.size:=b41.size;have hl47:=q39.lt;have q48:=q39.later al42;have r49:=r40.later al42;have b50:=below_trans b41 al42;clear q39 r40 b41 al42
 go_upto_region 21 with fail
 rw[hW44.out];clear hW44;obtain⟨c51,c52,c53,c54⟩:=q48.cs4;obtain⟨c55,c56,c57,c58,c59⟩:=q43.cs5
 go_wp2_with fail
 refine(HN.out _ _ _ b50 r49).mono ?_;rintro zz w60 ⟨v162,rfl,r163,bb61⟩;have q64:=q43.later bb61;have b65:=below_trans b50 bb61;obtain⟨xo,xc,hv⟩:=r163.shape;subst hv;clear q48 q43 r49 b50 bb61 HN c51 c52 c53 c54 c55 c56 c57 c58 c59;obtain⟨W69,hW68,q67,al66⟩:=ent1 w60 (yDL x xo xc) 82;replace hW68:Hid _:=hW68;have hl70:w.heap.size≤w60.heap.size:=b65.size;have hl71:=q64.lt;have q72:=q64.later al66;have r73:=r163.later al66;have b74:=below_trans b65 al66;clear q64 r163 b65 al66
 go_upto_region 26 with fail
 rw[hW68.out];clear hW68;obtain⟨c75,c76,c77,c78,c79⟩:=q72.cs5;obtain⟨c80,c81,c82⟩:=q67.cs3
 go_wp2_with fail
 refine(HH.out _ _ _ b74 r73).mono ?_;rintro zz w83 ⟨rfl,bb84⟩;have b85:=below_trans b74 bb84;clear q72 q67 r73 b74 bb84 HH c75 c76 c77 c78 c79 c80 c81 c82
 go_wp2
 go_ret
 exact⟨by simp,b85⟩
set_option maxHeartbeats 3200000 in
theorem top1_err (n way wh fl e:Int) (a b c0:ByteArray) (w:World) (he:(e==0)=false)
  (HB: ∀w1,Below w.heap.size w w1→Calls Tryz.prog 20 #[] w1 fun z w'=>z= .returned (.bool true)∧Below w1.heap.size w1 w')
  (HB2: ∀w1,Below w.heap.size w w1→Calls Tryz.prog 48 #[] w1 fun z w'=>z= .returned (.bool true)∧Below w1.heap.size w1 w')
  (HB3: ∀w1,Below w.heap.size w w1→Calls Tryz.prog 49 #[] w1 fun z w'=>z= .returned (.bool true)∧Below w1.heap.size w1 w')
  (HX: ∀w1,Below w.heap.size w w1→Calls Tryz.prog 47 #[yi wh,yi 6] w1 fun z w'=>z= .returned (yi 1)∧Below w1.heap.size w1 w')
  (HA: ∀w1,Below w.heap.size w w1→Calls Tryz.prog 22 #[yi n,.string a,.string b,yi way] w1 fun z w'=>z= .returned (.tuple #[.string ⟨#[]⟩,yi fl,yi e])∧Below w1.heap.size w1 w'):
  Calls Tryz.prog 16 #[yi n,.string a,.string b,.string c0,yi way,yi wh] w fun z w'=>z= .returned (.bool true)∧Below w.heap.size w w':=by
 replace HB:Hid _:=HB;replace HB2:Hid _:=HB2;replace HB3:Hid _:=HB3;replace HX:Hid _:=HX;replace HA:Hid _:=HA
 go_enter Tryz.func16,Tryz.ntmps16
 have b0:=Below.refl w.heap.size w
 go_wp2_with fail
 refine(HB.out _ b0).mono ?_;rintro zz w1 ⟨rfl,bb2⟩;have b3:=below_trans b0 bb2;clear b0 bb2 HB
 go_wp2_with fail
 refine(HB2.out _ b3).mono ?_;rintro zz w4 ⟨rfl,bb5⟩;have b6:=below_trans b3 bb5;clear b3 bb5 HB2
 go_wp2_with fail
 refine(HB3.out _ b6).mono ?_;rintro zz w7 ⟨rfl,bb8⟩;have b9:=below_trans b6 bb8;clear b6 bb8 HB3
 go_wp2_with fail
 refine(HX.out _ b9).mono ?_;rintro zz w10 ⟨rfl,bb11⟩;have b12:=below_trans b9 bb11;clear b9 bb11 HX
 go_wp2_with fail
 refine(HA.out _ b12).mono ?_;rintro zz w13 ⟨rfl,bb14⟩;have b15:=below_trans b12 bb14;clear b12 bb14 HA
 go_wp2
 go_ret
 exact⟨by simp,b15⟩
set_option maxHeartbeats 3200000 in
theorem top1_oth (c:Int) (n way wh fl p R D L G:Int) (gr ng:Bool) (m:Nat) (a b c0 s:ByteArray) (w:World) (hc:(c==2)=false)
  (HB: ∀w1,Below w.heap.size w w1→Calls Tryz.prog 20 #[] w1 fun z w'=>z= .returned (.bool true)∧Below w1.heap.size w1 w')
  (HB2: ∀w1,Below w.heap.size w w1→Calls Tryz.prog 48 #[] w1 fun z w'=>z= .returned (.bool true)∧Below w1.heap.size w1 w')
  (HB3: ∀w1,Below w.heap.size w w1→Calls Tryz.prog 49 #[] w1 fun z w'=>z= .returned (.bool true)∧Below w1.heap.size w1 w')
  (HX: ∀w1,Below w.heap.size w w1→Calls Tryz.prog 47 #[yi wh,yi 6] w1 fun z w'=>z= .returned (yi 1)∧Below w1.heap.size w1 w')
  (HA: ∀w1,Below w.heap.size w w1→Calls Tryz.prog 22 #[yi n,.string a,.string b,yi way] w1 fun z w'=>z= .returned (.tuple #[.string s,yi fl,yi 0])∧Below w1.heap.size w1 w')
  (HD: ∀w1,Below w.heap.size w w1→Calls Tryz.prog 43 #[yi n,.string s] w1 (DecRes w1 c ng m p 0))
  (HE: ∀vo vc w1,Below w.heap.size w w1→Rd w1 .u32 (.slice vo (Dg.dg 4294967296 m).length vc) (Dg.dg 4294967296 m)→Calls Tryz.prog 44 #[yi n,yvV c ng (.slice vo (Dg.dg 4294967296 m).length vc) p] w1 fun z w'=>z= .returned (.tuple #[.string s,yi 0])∧Below w1.heap.size w1 w')
  (HG: ∀w1,Below w.heap.size w w1→Calls Tryz.prog 50 #[yi n] w1 fun z w'=>z= .returned (.tuple #[ygV R D L G gr,yi 0])∧Below w1.heap.size w1 w'):
  Calls Tryz.prog 16 #[yi n,.string a,.string b,.string c0,yi way,yi wh] w fun z w'=>z= .returned (.bool true)∧Below w.heap.size w w':=by
 replace HB:Hid _:=HB;replace HB2:Hid _:=HB2;replace HB3:Hid _:=HB3;replace HX:Hid _:=HX;replace HA:Hid _:=HA;replace HD:Hid _:=HD;replace HE:Hid _:=HE;replace HG:Hid _:=HG
 go_enter Tryz.func16,Tryz.ntmps16
 have b0:=Below.refl w.heap.size w
 go_wp2_with fail
 refine(HB.out _ b0).mono ?_;rintro zz w1 ⟨rfl,bb2⟩;have b3:=below_trans b0 bb2;clear b0 bb2 HB
 go_wp2_with fail
 refine(HB2.out _ b3).mono ?_;rintro zz w4 ⟨rfl,bb5⟩;have b6:=below_trans b3 bb5;clear b3 bb5 HB2
 go_wp2_with fail
 refine(HB3.out _ b6).mono ?_;rintro zz w7 ⟨rfl,bb8⟩;have b9:=below_trans b6 bb8;clear b6 bb8 HB3
 go_wp2_with fail
 refine(HX.out _ b9).mono ?_;rintro zz w10 ⟨rfl,bb11⟩;have b12:=below_trans b9 bb11;clear b9 bb11 HX
 go_wp2_with fail
 refine(HA.out _ b12).mono ?_;rintro zz w13 ⟨rfl,bb14⟩;have b15:=below_trans b12 bb14;clear b12 bb14 HA
 go_wp2_with fail
 refine(HD.out _ b15).mono ?_;rintro zz w16 ⟨v118,rfl,r119,bb17⟩;have b20:=below_trans b15 bb17;obtain⟨vo,vc,hv⟩:=r119.shape;subst hv;clear b15 bb17 HD;obtain⟨W24,hW23,q22,al21⟩:=ent1 w16 (yvL c ng (.slice vo (Dg.dg 4294967296 m).length vc) p) 73;replace hW23:Hid _:=hW23;have hl25:w.heap.size≤w16.heap.size:=b20.size;have r26:=r119.later al21;have b27:=below_trans b20 al21;clear r119 b20 al21
 go_upto_region 19 with fail
 rw[hW23.out];clear hW23;obtain⟨c28,c29,c30,c31⟩:=q22.cs4
 go_wp2_with fail
 refine(HE.out _ _ _ b27 r26).mono ?_;rintro zz w32 ⟨rfl,bb33⟩;have q34:=q22.later bb33;have b35:=below_trans b27 bb33;clear q22 r26 b27 bb33 HE c28 c29 c30 c31
 go_wp2_with fail
 refine(HG.out _ b35).mono ?_;rintro zz w36 ⟨rfl,bb37⟩;have q38:=q34.later bb37;have b39:=below_trans b35 bb37;clear q34 b35 bb37 HG;obtain⟨W43,hW42,q41,al40⟩:=ent1 w36 (ygL R D L G gr) 56;replace hW42:Hid _:=hW42;have hl44:w.heap.size≤w36.heap.size:=b39.size;have hl45:=q38.lt;have q46:=q38.later al40;have b47:=below_trans b39 al40;clear q38 b39 al40 q41
 go_upto_region 21 with fail
 rw[hW42.out];clear hW42;have c48:=q46.cell 0 rfl
 go_wp2
 go_ret
 exact⟨by simp,b47⟩
set_option maxHeartbeats 3200000 in
theorem top1_num (x:Trip) (n way wh fl p R D L G:Int) (gr ng:Bool) (m:Nat) (a b c0 s:ByteArray) (w:World)
  (HB: ∀w1,Below w.heap.size w w1→Calls Tryz.prog 20 #[] w1 fun z w'=>z= .returned (.bool true)∧Below w1.heap.size w1 w')
  (HB2: ∀w1,Below w.heap.size w w1→Calls Tryz.prog 48 #[] w1 fun z w'=>z= .returned (.bool true)∧Below w1.heap.size w1 w')
  (HB3: ∀w1,Below w.heap.size w w1→Calls Tryz.prog 49 #[] w1 fun z w'=>z= .returned (.bool true)∧Below w1.heap.size w1 w')
  (HX: ∀w1,Below w.heap.size w w1→Calls Tryz.prog 47 #[yi wh,yi 6] w1 fun z w'=>z= .returned (yi 1)∧Below w1.heap.size w1 w')
  (HA: ∀w1,Below w.heap.size w w1→Calls Tryz.prog 22 #[yi n,.string a,.string b,yi way] w1 fun z w'=>z= .returned (.tuple #[.string s,yi fl,yi 0])∧Below w1.heap.size w1 w')
  (HD: ∀w1,Below w.heap.size w w1→Calls Tryz.prog 43 #[yi n,.string s] w1 (DecRes w1 2 ng m p 0))
  (HE: ∀vo vc w1,Below w.heap.size w w1→Rd w1 .u32 (.slice vo (Dg.dg 4294967296 m).length vc) (Dg.dg 4294967296 m)→Calls Tryz.prog 44 #[yi n,yvV 2 ng (.slice vo (Dg.dg 4294967296 m).length vc) p] w1 fun z w'=>z= .returned (.tuple #[.string s,yi 0])∧Below w1.heap.size w1 w')
  (HG: ∀w1,Below w.heap.size w w1→Calls Tryz.prog 50 #[yi n] w1 fun z w'=>z= .returned (.tuple #[ygV R D L G gr,yi 0])∧Below w1.heap.size w1 w')
  (HN: ∀vo vc w1,Below w.heap.size w w1→Rd w1 .u32 (.slice vo (Dg.dg 4294967296 m).length vc) (Dg.dg 4294967296 m)→Calls Tryz.prog 51 #[ypV ng (.slice vo (Dg.dg 4294967296 m).length vc) p false false false,ygV R D L G gr] w1 fun z w'=> ∃v,z= .returned (.tuple #[ydV x.s v x.e,yi 0])∧Rd w' .u32 v (Dg.dg 4294967296 x.n)∧Below w1.heap.size w1 w')
  (HH: ∀xo xc w1,Below w.heap.size w w1→Rd w1 .u32 (.slice xo (Dg.dg 4294967296 x.n).length xc) (Dg.dg 4294967296 x.n)→Calls Tryz.prog 52 #[yDV x xo xc,ygV R D L G gr] w1 fun z w'=>z= .returned (.tuple #[.bool true,yi 0])∧Below w1.heap.size w1 w'):
  Calls Tryz.prog 16 #[yi n,.string a,.string b,.string c0,yi way,yi wh] w fun z w'=>z= .returned (.bool true)∧Below w.heap.size w w':=by
 replace HB:Hid _:=HB;replace HB2:Hid _:=HB2;replace HB3:Hid _:=HB3;replace HX:Hid _:=HX;replace HA:Hid _:=HA;replace HD:Hid _:=HD;replace HE:Hid _:=HE;replace HG:Hid _:=HG;replace HN:Hid _:=HN;replace HH:Hid _:=HH
 go_enter Tryz.func16,Tryz.ntmps16
 have b0:=Below.refl w.heap.size w
 go_wp2_with fail
 refine(HB.out _ b0).mono ?_;rintro zz w1 ⟨rfl,bb2⟩;have b3:=below_trans b0 bb2;clear b0 bb2 HB
 go_wp2_with fail
 refine(HB2.out _ b3).mono ?_;rintro zz w4 ⟨rfl,bb5⟩;have b6:=below_trans b3 bb5;clear b3 bb5 HB2
 go_wp2_with fail
 refine(HB3.out _ b6).mono ?_;rintro zz w7 ⟨rfl,bb8⟩;have b9:=below_trans b6 bb8;clear b6 bb8 HB3
 go_wp2_with fail
 refine(HX.out _ b9).mono ?_;rintro zz w10 ⟨rfl,bb11⟩;have b12:=below_trans b9 bb11;clear b9 bb11 HX
 go_wp2_with fail
 refine(HA.out _ b12).mono ?_;rintro zz w13 ⟨rfl,bb14⟩;have b15:=below_trans b12 bb14;clear b12 bb14 HA
 go_wp2_with fail
 refine(HD.out _ b15).mono ?_;rintro zz w16 ⟨v118,rfl,r119,bb17⟩;have b20:=below_trans b15 bb17;obtain⟨vo,vc,hv⟩:=r119.shape;subst hv;clear b15 bb17 HD;obtain⟨W24,hW23,q22,al21⟩:=ent1 w16 (yvL 2 ng (.slice vo (Dg.dg 4294967296 m).length vc) p) 73;replace hW23:Hid _:=hW23;have hl25:w.heap.size≤w16.heap.size:=b20.size;have r26:=r119.later al21;have b27:=below_trans b20 al21;clear r119 b20 al21
 go_upto_region 19 with fail
 rw[hW23.out];clear hW23;obtain⟨c28,c29,c30,c31⟩:=q22.cs4
 go_wp2_with fail
 refine(HE.out _ _ _ b27 r26).mono ?_;rintro zz w32 ⟨rfl,bb33⟩;have q34:=q22.later bb33;have r35:=r26.later bb33;have b36:=below_trans b27 bb33;clear q22 r26 b27 bb33 HE c28 c29 c30 c31
 go_wp2_with fail
 refine(HG.out _ b36).mono ?_;rintro zz w37 ⟨rfl,bb38⟩;have q39:=q34.later bb38;have r40:=r35.later bb38;have b41:=below_trans b36 bb38;clear q34 r35 b36 bb38 HG;obtain⟨W45,hW44,q43,al42⟩:=ent1 w37 (ygL R D L G gr) 56;replace hW44:Hid _:=hW44;have hl46:w.heap.size≤w37.heap.size:=b41.size;have hl47:=q39.lt;have q48:=q39.later al42;have r49:=r40.later al42;have b50:=below_trans b41 al42;clear q39 r40 b41 al42
 go_upto_region 21 with fail
 rw[hW44.out];clear hW44;obtain⟨c51,c52,c53,c54⟩:=q48.cs4;obtain⟨c55,c56,c57,c58,c59⟩:=q43.cs5
 go_wp2_with fail
 refine(HN.out _ _ _ b50 r49).mono ?_;rintro zz w60 ⟨v162,rfl,r163,bb61⟩;have q64:=q43.later bb61;have b65:=below_trans b50 bb61;obtain⟨xo,xc,hv⟩:=r163.shape;subst hv;clear q48 q43 r49 b50 bb61 HN c51 c52 c53 c54 c55 c56 c57 c58 c59;obtain⟨W69,hW68,q67,al66⟩:=ent1 w60 (yDL x xo xc) 82;replace hW68:Hid _:=hW68;have hl70:w.heap.size≤w60.heap.size:=b65.size;have hl71:=q64.lt;have q72:=q64.later al66;have r73:=r163.later al66;have b74:=below_trans b65 al66;clear q64 r163 b65 al66
 go_upto_region 26 with fail
 rw[hW68.out];clear hW68;obtain⟨c75,c76,c77,c78,c79⟩:=q72.cs5;obtain⟨c80,c81,c82⟩:=q67.cs3
 go_wp2_with fail
 refine(HH.out _ _ _ b74 r73).mono ?_;rintro zz w83 ⟨rfl,bb84⟩;have b85:=below_trans b74 bb84;clear q72 q67 r73 b74 bb84 HH c75 c76 c77 c78 c79 c80 c81 c82
 go_wp2
 go_ret
 exact⟨by simp,b85⟩
set_option maxHeartbeats 3200000 in
theorem top2_err (n way wh fl e:Int) (a b c0:ByteArray) (w:World) (he:(e==0)=false)
  (HB: ∀w1,Below w.heap.size w w1→Calls Tryz.prog 20 #[] w1 fun z w'=>z= .returned (.bool true)∧Below w1.heap.size w1 w')
  (HB2: ∀w1,Below w.heap.size w w1→Calls Tryz.prog 48 #[] w1 fun z w'=>z= .returned (.bool true)∧Below w1.heap.size w1 w')
  (HB3: ∀w1,Below w.heap.size w w1→Calls Tryz.prog 49 #[] w1 fun z w'=>z= .returned (.bool true)∧Below w1.heap.size w1 w')
  (HX: ∀w1,Below w.heap.size w w1→Calls Tryz.prog 47 #[yi wh,yi 6] w1 fun z w'=>z= .returned (yi 2)∧Below w1.heap.size w1 w')
  (HA: ∀w1,Below w.heap.size w w1→Calls Tryz.prog 24 #[yi n,.string a,.string b,yi way] w1 fun z w'=>z= .returned (.tuple #[.string ⟨#[]⟩,yi fl,yi e])∧Below w1.heap.size w1 w'):
  Calls Tryz.prog 16 #[yi n,.string a,.string b,.string c0,yi way,yi wh] w fun z w'=>z= .returned (.bool true)∧Below w.heap.size w w':=by
 replace HB:Hid _:=HB;replace HB2:Hid _:=HB2;replace HB3:Hid _:=HB3;replace HX:Hid _:=HX;replace HA:Hid _:=HA
 go_enter Tryz.func16,Tryz.ntmps16
 have b0:=Below.refl w.heap.size w
 go_wp2_with fail
 refine(HB.out _ b0).mono ?_;rintro zz w1 ⟨rfl,bb2⟩;have b3:=below_trans b0 bb2;clear b0 bb2 HB
 go_wp2_with fail
 refine(HB2.out _ b3).mono ?_;rintro zz w4 ⟨rfl,bb5⟩;have b6:=below_trans b3 bb5;clear b3 bb5 HB2
 go_wp2_with fail
 refine(HB3.out _ b6).mono ?_;rintro zz w7 ⟨rfl,bb8⟩;have b9:=below_trans b6 bb8;clear b6 bb8 HB3
 go_wp2_with fail
 refine(HX.out _ b9).mono ?_;rintro zz w10 ⟨rfl,bb11⟩;have b12:=below_trans b9 bb11;clear b9 bb11 HX
 go_wp2_with fail
 refine(HA.out _ b12).mono ?_;rintro zz w13 ⟨rfl,bb14⟩;have b15:=below_trans b12 bb14;clear b12 bb14 HA
 go_wp2
 go_ret
 exact⟨by simp,b15⟩
set_option maxHeartbeats 3200000 in
theorem top2_oth (c:Int) (n way wh fl p R D L G:Int) (gr ng:Bool) (m:Nat) (a b c0 s:ByteArray) (w:World) (hc:(c==2)=false)
  (HB: ∀w1,Below w.heap.size w w1→Calls Tryz.prog 20 #[] w1 fun z w'=>z= .returned (.bool true)∧Below w1.heap.size w1 w')
  (HB2: ∀w1,Below w.heap.size w w1→Calls Tryz.prog 48 #[] w1 fun z w'=>z= .returned (.bool true)∧Below w1.heap.size w1 w')
  (HB3: ∀w1,Below w.heap.size w w1→Calls Tryz.prog 49 #[] w1 fun z w'=>z= .returned (.bool true)∧Below w1.heap.size w1 w')
  (HX: ∀w1,Below w.heap.size w w1→Calls Tryz.prog 47 #[yi wh,yi 6] w1 fun z w'=>z= .returned (yi 2)∧Below w1.heap.size w1 w')
  (HA: ∀w1,Below w.heap.size w w1→Calls Tryz.prog 24 #[yi n,.string a,.string b,yi way] w1 fun z w'=>z= .returned (.tuple #[.string s,yi fl,yi 0])∧Below w1.heap.size w1 w')
  (HD: ∀w1,Below w.heap.size w w1→Calls Tryz.prog 43 #[yi n,.string s] w1 (DecRes w1 c ng m p 0))
  (HE: ∀vo vc w1,Below w.heap.size w w1→Rd w1 .u32 (.slice vo (Dg.dg 4294967296 m).length vc) (Dg.dg 4294967296 m)→Calls Tryz.prog 44 #[yi n,yvV c ng (.slice vo (Dg.dg 4294967296 m).length vc) p] w1 fun z w'=>z= .returned (.tuple #[.string s,yi 0])∧Below w1.heap.size w1 w')
  (HG: ∀w1,Below w.heap.size w w1→Calls Tryz.prog 50 #[yi n] w1 fun z w'=>z= .returned (.tuple #[ygV R D L G gr,yi 0])∧Below w1.heap.size w1 w'):
  Calls Tryz.prog 16 #[yi n,.string a,.string b,.string c0,yi way,yi wh] w fun z w'=>z= .returned (.bool true)∧Below w.heap.size w w':=by
 replace HB:Hid _:=HB;replace HB2:Hid _:=HB2;replace HB3:Hid _:=HB3;replace HX:Hid _:=HX;replace HA:Hid _:=HA;replace HD:Hid _:=HD;replace HE:Hid _:=HE;replace HG:Hid _:=HG
 go_enter Tryz.func16,Tryz.ntmps16
 have b0:=Below.refl w.heap.size w
 go_wp2_with fail
 refine(HB.out _ b0).mono ?_;rintro zz w1 ⟨rfl,bb2⟩;have b3:=below_trans b0 bb2;clear b0 bb2 HB
 go_wp2_with fail
 refine(HB2.out _ b3).mono ?_;rintro zz w4 ⟨rfl,bb5⟩;have b6:=below_trans b3 bb5;clear b3 bb5 HB2
 go_wp2_with fail
 refine(HB3.out _ b6).mono ?_;rintro zz w7 ⟨rfl,bb8⟩;have b9:=below_trans b6 bb8;clear b6 bb8 HB3
 go_wp2_with fail
 refine(HX.out _ b9).mono ?_;rintro zz w10 ⟨rfl,bb11⟩;have b12:=below_trans b9 bb11;clear b9 bb11 HX
 go_wp2_with fail
 refine(HA.out _ b12).mono ?_;rintro zz w13 ⟨rfl,bb14⟩;have b15:=below_trans b12 bb14;clear b12 bb14 HA
 go_wp2_with fail
 refine(HD.out _ b15).mono ?_;rintro zz w16 ⟨v118,rfl,r119,bb17⟩;have b20:=below_trans b15 bb17;obtain⟨vo,vc,hv⟩:=r119.shape;subst hv;clear b15 bb17 HD;obtain⟨W24,hW23,q22,al21⟩:=ent1 w16 (yvL c ng (.slice vo (Dg.dg 4294967296 m).length vc) p) 73;replace hW23:Hid _:=hW23;have hl25:w.heap.size≤w16.heap.size:=b20.size;have r26:=r119.later al21;have b27:=below_trans b20 al21;clear r119 b20 al21
 go_upto_region 19 with fail
 rw[hW23.out];clear hW23;obtain⟨c28,c29,c30,c31⟩:=q22.cs4
 go_wp2_with fail
 refine(HE.out _ _ _ b27 r26).mono ?_;rintro zz w32 ⟨rfl,bb33⟩;have q34:=q22.later bb33;have b35:=below_trans b27 bb33;clear q22 r26 b27 bb33 HE c28 c29 c30 c31
 go_wp2_with fail
 refine(HG.out _ b35).mono ?_;rintro zz w36 ⟨rfl,bb37⟩;have q38:=q34.later bb37;have b39:=below_trans b35 bb37;clear q34 b35 bb37 HG;obtain⟨W43,hW42,q41,al40⟩:=ent1 w36 (ygL R D L G gr) 56;replace hW42:Hid _:=hW42;have hl44:w.heap.size≤w36.heap.size:=b39.size;have hl45:=q38.lt;have q46:=q38.later al40;have b47:=below_trans b39 al40;clear q38 b39 al40 q41
 go_upto_region 21 with fail
 rw[hW42.out];clear hW42;have c48:=q46.cell 0 rfl
 go_wp2
 go_ret
 exact⟨by simp,b47⟩
set_option maxHeartbeats 3200000 in
theorem top2_num (x:Trip) (n way wh fl p R D L G:Int) (gr ng:Bool) (m:Nat) (a b c0 s:ByteArray) (w:World)
  (HB: ∀w1,Below w.heap.size w w1→Calls Tryz.prog 20 #[] w1 fun z w'=>z= .returned (.bool true)∧Below w1.heap.size w1 w')
  (HB2: ∀w1,Below w.heap.size w w1→Calls Tryz.prog 48 #[] w1 fun z w'=>z= .returned (.bool true)∧Below w1.heap.size w1 w')
  (HB3: ∀w1,Below w.heap.size w w1→Calls Tryz.prog 49 #[] w1 fun z w'=>z= .returned (.bool true)∧Below w1.heap.size w1 w')
  (HX: ∀w1,Below w.heap.size w w1→Calls Tryz.prog 47 #[yi wh,yi 6] w1 fun z w'=>z= .returned (yi 2)∧Below w1.heap.size w1 w')
  (HA: ∀w1,Below w.heap.size w w1→Calls Tryz.prog 24 #[yi n,.string a,.string b,yi way] w1 fun z w'=>z= .returned (.tuple #[.string s,yi fl,yi 0])∧Below w1.heap.size w1 w')
  (HD: ∀w1,Below w.heap.size w w1→Calls Tryz.prog 43 #[yi n,.string s] w1 (DecRes w1 2 ng m p 0))
  (HE: ∀vo vc w1,Below w.heap.size w w1→Rd w1 .u32 (.slice vo (Dg.dg 4294967296 m).length vc) (Dg.dg 4294967296 m)→Calls Tryz.prog 44 #[yi n,yvV 2 ng (.slice vo (Dg.dg 4294967296 m).length vc) p] w1 fun z w'=>z= .returned (.tuple #[.string s,yi 0])∧Below w1.heap.size w1 w')
  (HG: ∀w1,Below w.heap.size w w1→Calls Tryz.prog 50 #[yi n] w1 fun z w'=>z= .returned (.tuple #[ygV R D L G gr,yi 0])∧Below w1.heap.size w1 w')
  (HN: ∀vo vc w1,Below w.heap.size w w1→Rd w1 .u32 (.slice vo (Dg.dg 4294967296 m).length vc) (Dg.dg 4294967296 m)→Calls Tryz.prog 51 #[ypV ng (.slice vo (Dg.dg 4294967296 m).length vc) p false false false,ygV R D L G gr] w1 fun z w'=> ∃v,z= .returned (.tuple #[ydV x.s v x.e,yi 0])∧Rd w' .u32 v (Dg.dg 4294967296 x.n)∧Below w1.heap.size w1 w')
  (HH: ∀xo xc w1,Below w.heap.size w w1→Rd w1 .u32 (.slice xo (Dg.dg 4294967296 x.n).length xc) (Dg.dg 4294967296 x.n)→Calls Tryz.prog 52 #[yDV x xo xc,ygV R D L G gr] w1 fun z w'=>z= .returned (.tuple #[.bool true,yi 0])∧Below w1.heap.size w1 w'):
  Calls Tryz.prog 16 #[yi n,.string a,.string b,.string c0,yi way,yi wh] w fun z w'=>z= .returned (.bool true)∧Below w.heap.size w w':=by
 replace HB:Hid _:=HB;replace HB2:Hid _:=HB2;replace HB3:Hid _:=HB3;replace HX:Hid _:=HX;replace HA:Hid _:=HA;replace HD:Hid _:=HD;replace HE:Hid _:=HE;replace HG:Hid _:=HG;replace HN:Hid _:=HN;replace HH:Hid _:=HH
 go_enter Tryz.func16,Tryz.ntmps16
 have b0:=Below.refl w.heap.size w
 go_wp2_with fail
 refine(HB.out _ b0).mono ?_;rintro zz w1 ⟨rfl,bb2⟩;have b3:=below_trans b0 bb2;clear b0 bb2 HB
 go_wp2_with fail
 refine(HB2.out _ b3).mono ?_;rintro zz w4 ⟨rfl,bb5⟩;have b6:=below_trans b3 bb5;clear b3 bb5 HB2
 go_wp2_with fail
 refine(HB3.out _ b6).mono ?_;rintro zz w7 ⟨rfl,bb8⟩;have b9:=below_trans b6 bb8;clear b6 bb8 HB3
 go_wp2_with fail
 refine(HX.out _ b9).mono ?_;rintro zz w10 ⟨rfl,bb11⟩;have b12:=below_trans b9 bb11;clear b9 bb11 HX
 go_wp2_with fail
 refine(HA.out _ b12).mono ?_;rintro zz w13 ⟨rfl,bb14⟩;have b15:=below_trans b12 bb14;clear b12 bb14 HA
 go_wp2_with fail
 refine(HD.out _ b15).mono ?_;rintro zz w16 ⟨v118,rfl,r119,bb17⟩;have b20:=below_trans b15 bb17;obtain⟨vo,vc,hv⟩:=r119.shape;subst hv;clear b15 bb17 HD;obtain⟨W24,hW23,q22,al21⟩:=ent1 w16 (yvL 2 ng (.slice vo (Dg.dg 4294967296 m).length vc) p) 73;replace hW23:Hid _:=hW23;have hl25:w.heap.size≤w16.heap.size:=b20.size;have r26:=r119.later al21;have b27:=below_trans b20 al21;clear r119 b20 al21
 go_upto_region 19 with fail
 rw[hW23.out];clear hW23;obtain⟨c28,c29,c30,c31⟩:=q22.cs4
 go_wp2_with fail
 refine(HE.out _ _ _ b27 r26).mono ?_;rintro zz w32 ⟨rfl,bb33⟩;have q34:=q22.later bb33;have r35:=r26.later bb33;have b36:=below_trans b27 bb33;clear q22 r26 b27 bb33 HE c28 c29 c30 c31
 go_wp2_with fail
 refine(HG.out _ b36).mono ?_;rintro zz w37 ⟨rfl,bb38⟩;have q39:=q34.later bb38;have r40:=r35.later bb38;have b41:=below_trans b36 bb38;clear q34 r35 b36 bb38 HG;obtain⟨W45,hW44,q43,al42⟩:=ent1 w37 (ygL R D L G gr) 56;replace hW44:Hid _:=hW44;have hl46:w.heap.size≤w37.heap.size:=b41.size;have hl47:=q39.lt;have q48:=q39.later al42;have r49:=r40.later al42;have b50:=below_trans b41 al42;clear q39 r40 b41 al42
 go_upto_region 21 with fail
 rw[hW44.out];clear hW44;obtain⟨c51,c52,c53,c54⟩:=q48.cs4;obtain⟨c55,c56,c57,c58,c59⟩:=q43.cs5
 go_wp2_with fail
 refine(HN.out _ _ _ b50 r49).mono ?_;rintro zz w60 ⟨v162,rfl,r163,bb61⟩;have q64:=q43.later bb61;have b65:=below_trans b50 bb61;obtain⟨xo,xc,hv⟩:=r163.shape;subst hv;clear q48 q43 r49 b50 bb61 HN c51 c52 c53 c54 c55 c56 c57 c58 c59;obtain⟨W69,hW68,q67,al66⟩:=ent1 w60 (yDL x xo xc) 82;replace hW68:Hid _:=hW68;have hl70:w.heap.size≤w60.heap.size:=b65.size;have hl71:=q64.lt;have q72:=q64.later al66;have r73:=r163.later al66;have b74:=below_trans b65 al66;clear q64 r163 b65 al66
 go_upto_region 26 with fail
 rw[hW68.out];clear hW68;obtain⟨c75,c76,c77,c78,c79⟩:=q72.cs5;obtain⟨c80,c81,c82⟩:=q67.cs3
 go_wp2_with fail
 refine(HH.out _ _ _ b74 r73).mono ?_;rintro zz w83 ⟨rfl,bb84⟩;have b85:=below_trans b74 bb84;clear q72 q67 r73 b74 bb84 HH c75 c76 c77 c78 c79 c80 c81 c82
 go_wp2
 go_ret
 exact⟨by simp,b85⟩
set_option maxHeartbeats 3200000 in
theorem top3_err (n way wh fl e:Int) (a b c0:ByteArray) (w:World) (he:(e==0)=false)
  (HB: ∀w1,Below w.heap.size w w1→Calls Tryz.prog 20 #[] w1 fun z w'=>z= .returned (.bool true)∧Below w1.heap.size w1 w')
  (HB2: ∀w1,Below w.heap.size w w1→Calls Tryz.prog 48 #[] w1 fun z w'=>z= .returned (.bool true)∧Below w1.heap.size w1 w')
  (HB3: ∀w1,Below w.heap.size w w1→Calls Tryz.prog 49 #[] w1 fun z w'=>z= .returned (.bool true)∧Below w1.heap.size w1 w')
  (HX: ∀w1,Below w.heap.size w w1→Calls Tryz.prog 47 #[yi wh,yi 6] w1 fun z w'=>z= .returned (yi 3)∧Below w1.heap.size w1 w')
  (HA: ∀w1,Below w.heap.size w w1→Calls Tryz.prog 26 #[yi n,.string a,.string b,yi way] w1 fun z w'=>z= .returned (.tuple #[.string ⟨#[]⟩,yi fl,yi e])∧Below w1.heap.size w1 w'):
  Calls Tryz.prog 16 #[yi n,.string a,.string b,.string c0,yi way,yi wh] w fun z w'=>z= .returned (.bool true)∧Below w.heap.size w w':=by
 replace HB:Hid _:=HB;replace HB2:Hid _:=HB2;replace HB3:Hid _:=HB3;replace HX:Hid _:=HX;replace HA:Hid _:=HA
 go_enter Tryz.func16,Tryz.ntmps16
 have b0:=Below.refl w.heap.size w
 go_wp2_with fail
 refine(HB.out _ b0).mono ?_;rintro zz w1 ⟨rfl,bb2⟩;have b3:=below_trans b0 bb2;clear b0 bb2 HB
 go_wp2_with fail
 refine(HB2.out _ b3).mono ?_;rintro zz w4 ⟨rfl,bb5⟩;have b6:=below_trans b3 bb5;clear b3 bb5 HB2
 go_wp2_with fail
 refine(HB3.out _ b6).mono ?_;rintro zz w7 ⟨rfl,bb8⟩;have b9:=below_trans b6 bb8;clear b6 bb8 HB3
 go_wp2_with fail
 refine(HX.out _ b9).mono ?_;rintro zz w10 ⟨rfl,bb11⟩;have b12:=below_trans b9 bb11;clear b9 bb11 HX
 go_wp2_with fail
 refine(HA.out _ b12).mono ?_;rintro zz w13 ⟨rfl,bb14⟩;have b15:=below_trans b12 bb14;clear b12 bb14 HA
 go_wp2
 go_ret
 exact⟨by simp,b15⟩
set_option maxHeartbeats 3200000 in
theorem top3_oth (c:Int) (n way wh fl p R D L G:Int) (gr ng:Bool) (m:Nat) (a b c0 s:ByteArray) (w:World) (hc:(c==2)=false)
  (HB: ∀w1,Below w.heap.size w w1→Calls Tryz.prog 20 #[] w1 fun z w'=>z= .returned (.bool true)∧Below w1.heap.size w1 w')
  (HB2: ∀w1,Below w.heap.size w w1→Calls Tryz.prog 48 #[] w1 fun z w'=>z= .returned (.bool true)∧Below w1.heap.size w1 w')
  (HB3: ∀w1,Below w.heap.size w w1→Calls Tryz.prog 49 #[] w1 fun z w'=>z= .returned (.bool true)∧Below w1.heap.size w1 w')
  (HX: ∀w1,Below w.heap.size w w1→Calls Tryz.prog 47 #[yi wh,yi 6] w1 fun z w'=>z= .returned (yi 3)∧Below w1.heap.size w1 w')
  (HA: ∀w1,Below w.heap.size w w1→Calls Tryz.prog 26 #[yi n,.string a,.string b,yi way] w1 fun z w'=>z= .returned (.tuple #[.string s,yi fl,yi 0])∧Below w1.heap.size w1 w')
  (HD: ∀w1,Below w.heap.size w w1→Calls Tryz.prog 43 #[yi n,.string s] w1 (DecRes w1 c ng m p 0))
  (HE: ∀vo vc w1,Below w.heap.size w w1→Rd w1 .u32 (.slice vo (Dg.dg 4294967296 m).length vc) (Dg.dg 4294967296 m)→Calls Tryz.prog 44 #[yi n,yvV c ng (.slice vo (Dg.dg 4294967296 m).length vc) p] w1 fun z w'=>z= .returned (.tuple #[.string s,yi 0])∧Below w1.heap.size w1 w')
  (HG: ∀w1,Below w.heap.size w w1→Calls Tryz.prog 50 #[yi n] w1 fun z w'=>z= .returned (.tuple #[ygV R D L G gr,yi 0])∧Below w1.heap.size w1 w'):
  Calls Tryz.prog 16 #[yi n,.string a,.string b,.string c0,yi way,yi wh] w fun z w'=>z= .returned (.bool true)∧Below w.heap.size w w':=by
 replace HB:Hid _:=HB;replace HB2:Hid _:=HB2;replace HB3:Hid _:=HB3;replace HX:Hid _:=HX;replace HA:Hid _:=HA;replace HD:Hid _:=HD;replace HE:Hid _:=HE;replace HG:Hid _:=HG
 go_enter Tryz.func16,Tryz.ntmps16
 have b0:=Below.refl w.heap.size w
 go_wp2_with fail
 refine(HB.out _ b0).mono ?_;rintro zz w1 ⟨rfl,bb2⟩;have b3:=below_trans b0 bb2;clear b0 bb2 HB
 go_wp2_with fail
 refine(HB2.out _ b3).mono ?_;rintro zz w4 ⟨rfl,bb5⟩;have b6:=below_trans b3 bb5;clear b3 bb5 HB2
 go_wp2_with fail
 refine(HB3.out _ b6).mono ?_;rintro zz w7 ⟨rfl,bb8⟩;have b9:=below_trans b6 bb8;clear b6 bb8 HB3
 go_wp2_with fail
 refine(HX.out _ b9).mono ?_;rintro zz w10 ⟨rfl,bb11⟩;have b12:=below_trans b9 bb11;clear b9 bb11 HX
 go_wp2_with fail
 refine(HA.out _ b12).mono ?_;rintro zz w13 ⟨rfl,bb14⟩;have b15:=below_trans b12 bb14;clear b12 bb14 HA
 go_wp2_with fail
 refine(HD.out _ b15).mono ?_;rintro zz w16 ⟨v118,rfl,r119,bb17⟩;have b20:=below_trans b15 bb17;obtain⟨vo,vc,hv⟩:=r119.shape;subst hv;clear b15 bb17 HD;obtain⟨W24,hW23,q22,al21⟩:=ent1 w16 (yvL c ng (.slice vo (Dg.dg 4294967296 m).length vc) p) 73;replace hW23:Hid _:=hW23;have hl25:w.heap.size≤w16.heap.size:=b20.size;have r26:=r119.later al21;have b27:=below_trans b20 al21;clear r119 b20 al21
 go_upto_region 19 with fail
 rw[hW23.out];clear hW23;obtain⟨c28,c29,c30,c31⟩:=q22.cs4
 go_wp2_with fail
 refine(HE.out _ _ _ b27 r26).mono ?_;rintro zz w32 ⟨rfl,bb33⟩;have q34:=q22.later bb33;have b35:=below_trans b27 bb33;clear q22 r26 b27 bb33 HE c28 c29 c30 c31
 go_wp2_with fail
 refine(HG.out _ b35).mono ?_;rintro zz w36 ⟨rfl,bb37⟩;have q38:=q34.later bb37;have b39:=below_trans b35 bb37;clear q34 b35 bb37 HG;obtain⟨W43,hW42,q41,al40⟩:=ent1 w36 (ygL R D L G gr) 56;replace hW42:Hid _:=hW42;have hl44:w.heap.size≤w36.heap.size:=b39.size;have hl45:=q38.lt;have q46:=q38.later al40;have b47:=below_trans b39 al40;clear q38 b39 al40 q41
 go_upto_region 21 with fail
 rw[hW42.out];clear hW42;have c48:=q46.cell 0 rfl
 go_wp2
 go_ret
 exact⟨by simp,b47⟩
set_option maxHeartbeats 3200000 in
theorem top3_num (x:Trip) (n way wh fl p R D L G:Int) (gr ng:Bool) (m:Nat) (a b c0 s:ByteArray) (w:World)
  (HB: ∀w1,Below w.heap.size w w1→Calls Tryz.prog 20 #[] w1 fun z w'=>z= .returned (.bool true)∧Below w1.heap.size w1 w')
  (HB2: ∀w1,Below w.heap.size w w1→Calls Tryz.prog 48 #[] w1 fun z w'=>z= .returned (.bool true)∧Below w1.heap.size w1 w')
  (HB3: ∀w1,Below w.heap.size w w1→Calls Tryz.prog 49 #[] w1 fun z w'=>z= .returned (.bool true)∧Below w1.heap.size w1 w')
  (HX: ∀w1,Below w.heap.size w w1→Calls Tryz.prog 47 #[yi wh,yi 6] w1 fun z w'=>z= .returned (yi 3)∧Below w1.heap.size w1 w')
  (HA: ∀w1,Below w.heap.size w w1→Calls Tryz.prog 26 #[yi n,.string a,.string b,yi way] w1 fun z w'=>z= .returned (.tuple #[.string s,yi fl,yi 0])∧Below w1.heap.size w1 w')
  (HD: ∀w1,Below w.heap.size w w1→Calls Tryz.prog 43 #[yi n,.string s] w1 (DecRes w1 2 ng m p 0))
  (HE: ∀vo vc w1,Below w.heap.size w w1→Rd w1 .u32 (.slice vo (Dg.dg 4294967296 m).length vc) (Dg.dg 4294967296 m)→Calls Tryz.prog 44 #[yi n,yvV 2 ng (.slice vo (Dg.dg 4294967296 m).length vc) p] w1 fun z w'=>z= .returned (.tuple #[.string s,yi 0])∧Below w1.heap.size w1 w')
  (HG: ∀w1,Below w.heap.size w w1→Calls Tryz.prog 50 #[yi n] w1 fun z w'=>z= .returned (.tuple #[ygV R D L G gr,yi 0])∧Below w1.heap.size w1 w')
  (HN: ∀vo vc w1,Below w.heap.size w w1→Rd w1 .u32 (.slice vo (Dg.dg 4294967296 m).length vc) (Dg.dg 4294967296 m)→Calls Tryz.prog 51 #[ypV ng (.slice vo (Dg.dg 4294967296 m).length vc) p false false false,ygV R D L G gr] w1 fun z w'=> ∃v,z= .returned (.tuple #[ydV x.s v x.e,yi 0])∧Rd w' .u32 v (Dg.dg 4294967296 x.n)∧Below w1.heap.size w1 w')
  (HH: ∀xo xc w1,Below w.heap.size w w1→Rd w1 .u32 (.slice xo (Dg.dg 4294967296 x.n).length xc) (Dg.dg 4294967296 x.n)→Calls Tryz.prog 52 #[yDV x xo xc,ygV R D L G gr] w1 fun z w'=>z= .returned (.tuple #[.bool true,yi 0])∧Below w1.heap.size w1 w'):
  Calls Tryz.prog 16 #[yi n,.string a,.string b,.string c0,yi way,yi wh] w fun z w'=>z= .returned (.bool true)∧Below w.heap.size w w':=by
 replace HB:Hid _:=HB;replace HB2:Hid _:=HB2;replace HB3:Hid _:=HB3;replace HX:Hid _:=HX;replace HA:Hid _:=HA;replace HD:Hid _:=HD;replace HE:Hid _:=HE;replace HG:Hid _:=HG;replace HN:Hid _:=HN;replace HH:Hid _:=HH
 go_enter Tryz.func16,Tryz.ntmps16
 have b0:=Below.refl w.heap.size w
 go_wp2_with fail
 refine(HB.out _ b0).mono ?_;rintro zz w1 ⟨rfl,bb2⟩;have b3:=below_trans b0 bb2;clear b0 bb2 HB
 go_wp2_with fail
 refine(HB2.out _ b3).mono ?_;rintro zz w4 ⟨rfl,bb5⟩;have b6:=below_trans b3 bb5;clear b3 bb5 HB2
 go_wp2_with fail
 refine(HB3.out _ b6).mono ?_;rintro zz w7 ⟨rfl,bb8⟩;have b9:=below_trans b6 bb8;clear b6 bb8 HB3
 go_wp2_with fail
 refine(HX.out _ b9).mono ?_;rintro zz w10 ⟨rfl,bb11⟩;have b12:=below_trans b9 bb11;clear b9 bb11 HX
 go_wp2_with fail
 refine(HA.out _ b12).mono ?_;rintro zz w13 ⟨rfl,bb14⟩;have b15:=below_trans b12 bb14;clear b12 bb14 HA
 go_wp2_with fail
 refine(HD.out _ b15).mono ?_;rintro zz w16 ⟨v118,rfl,r119,bb17⟩;have b20:=below_trans b15 bb17;obtain⟨vo,vc,hv⟩:=r119.shape;subst hv;clear b15 bb17 HD;obtain⟨W24,hW23,q22,al21⟩:=ent1 w16 (yvL 2 ng (.slice vo (Dg.dg 4294967296 m).length vc) p) 73;replace hW23:Hid _:=hW23;have hl25:w.heap.size≤w16.heap.size:=b20.size;have r26:=r119.later al21;have b27:=below_trans b20 al21;clear r119 b20 al21
 go_upto_region 19 with fail
 rw[hW23.out];clear hW23;obtain⟨c28,c29,c30,c31⟩:=q22.cs4
 go_wp2_with fail
 refine(HE.out _ _ _ b27 r26).mono ?_;rintro zz w32 ⟨rfl,bb33⟩;have q34:=q22.later bb33;have r35:=r26.later bb33;have b36:=below_trans b27 bb33;clear q22 r26 b27 bb33 HE c28 c29 c30 c31
 go_wp2_with fail
 refine(HG.out _ b36).mono ?_;rintro zz w37 ⟨rfl,bb38⟩;have q39:=q34.later bb38;have r40:=r35.later bb38;have b41:=below_trans b36 bb38;clear q34 r35 b36 bb38 HG;obtain⟨W45,hW44,q43,al42⟩:=ent1 w37 (ygL R D L G gr) 56;replace hW44:Hid _:=hW44;have hl46:w.heap.size≤w37.heap.size:=b41.size;have hl47:=q39.lt;have q48:=q39.later al42;have r49:=r40.later al42;have b50:=below_trans b41 al42;clear q39 r40 b41 al42
 go_upto_region 21 with fail
 rw[hW44.out];clear hW44;obtain⟨c51,c52,c53,c54⟩:=q48.cs4;obtain⟨c55,c56,c57,c58,c59⟩:=q43.cs5
 go_wp2_with fail
 refine(HN.out _ _ _ b50 r49).mono ?_;rintro zz w60 ⟨v162,rfl,r163,bb61⟩;have q64:=q43.later bb61;have b65:=below_trans b50 bb61;obtain⟨xo,xc,hv⟩:=r163.shape;subst hv;clear q48 q43 r49 b50 bb61 HN c51 c52 c53 c54 c55 c56 c57 c58 c59;obtain⟨W69,hW68,q67,al66⟩:=ent1 w60 (yDL x xo xc) 82;replace hW68:Hid _:=hW68;have hl70:w.heap.size≤w60.heap.size:=b65.size;have hl71:=q64.lt;have q72:=q64.later al66;have r73:=r163.later al66;have b74:=below_trans b65 al66;clear q64 r163 b65 al66
 go_upto_region 26 with fail
 rw[hW68.out];clear hW68;obtain⟨c75,c76,c77,c78,c79⟩:=q72.cs5;obtain⟨c80,c81,c82⟩:=q67.cs3
 go_wp2_with fail
 refine(HH.out _ _ _ b74 r73).mono ?_;rintro zz w83 ⟨rfl,bb84⟩;have b85:=below_trans b74 bb84;clear q72 q67 r73 b74 bb84 HH c75 c76 c77 c78 c79 c80 c81 c82
 go_wp2
 go_ret
 exact⟨by simp,b85⟩
set_option maxHeartbeats 3200000 in
theorem top4_err (n way wh fl e:Int) (a b c0:ByteArray) (w:World) (he:(e==0)=false)
  (HB: ∀w1,Below w.heap.size w w1→Calls Tryz.prog 20 #[] w1 fun z w'=>z= .returned (.bool true)∧Below w1.heap.size w1 w')
  (HB2: ∀w1,Below w.heap.size w w1→Calls Tryz.prog 48 #[] w1 fun z w'=>z= .returned (.bool true)∧Below w1.heap.size w1 w')
  (HB3: ∀w1,Below w.heap.size w w1→Calls Tryz.prog 49 #[] w1 fun z w'=>z= .returned (.bool true)∧Below w1.heap.size w1 w')
  (HX: ∀w1,Below w.heap.size w w1→Calls Tryz.prog 47 #[yi wh,yi 6] w1 fun z w'=>z= .returned (yi 4)∧Below w1.heap.size w1 w')
  (HA: ∀w1,Below w.heap.size w w1→Calls Tryz.prog 28 #[yi n,.string a,.string b,.string c0,yi way] w1 fun z w'=>z= .returned (.tuple #[.string ⟨#[]⟩,yi fl,yi e])∧Below w1.heap.size w1 w'):
  Calls Tryz.prog 16 #[yi n,.string a,.string b,.string c0,yi way,yi wh] w fun z w'=>z= .returned (.bool true)∧Below w.heap.size w w':=by
 replace HB:Hid _:=HB;replace HB2:Hid _:=HB2;replace HB3:Hid _:=HB3;replace HX:Hid _:=HX;replace HA:Hid _:=HA
 go_enter Tryz.func16,Tryz.ntmps16
 have b0:=Below.refl w.heap.size w
 go_wp2_with fail
 refine(HB.out _ b0).mono ?_;rintro zz w1 ⟨rfl,bb2⟩;have b3:=below_trans b0 bb2;clear b0 bb2 HB
 go_wp2_with fail
 refine(HB2.out _ b3).mono ?_;rintro zz w4 ⟨rfl,bb5⟩;have b6:=below_trans b3 bb5;clear b3 bb5 HB2
 go_wp2_with fail
 refine(HB3.out _ b6).mono ?_;rintro zz w7 ⟨rfl,bb8⟩;have b9:=below_trans b6 bb8;clear b6 bb8 HB3
 go_wp2_with fail
 refine(HX.out _ b9).mono ?_;rintro zz w10 ⟨rfl,bb11⟩;have b12:=below_trans b9 bb11;clear b9 bb11 HX
 go_wp2_with fail
 refine(HA.out _ b12).mono ?_;rintro zz w13 ⟨rfl,bb14⟩;have b15:=below_trans b12 bb14;clear b12 bb14 HA
 go_wp2
 go_ret
 exact⟨by simp,b15⟩
set_option maxHeartbeats 3200000 in
theorem top4_oth (c:Int) (n way wh fl p R D L G:Int) (gr ng:Bool) (m:Nat) (a b c0 s:ByteArray) (w:World) (hc:(c==2)=false)
  (HB: ∀w1,Below w.heap.size w w1→Calls Tryz.prog 20 #[] w1 fun z w'=>z= .returned (.bool true)∧Below w1.heap.size w1 w')
  (HB2: ∀w1,Below w.heap.size w w1→Calls Tryz.prog 48 #[] w1 fun z w'=>z= .returned (.bool true)∧Below w1.heap.size w1 w')
  (HB3: ∀w1,Below w.heap.size w w1→Calls Tryz.prog 49 #[] w1 fun z w'=>z= .returned (.bool true)∧Below w1.heap.size w1 w')
  (HX: ∀w1,Below w.heap.size w w1→Calls Tryz.prog 47 #[yi wh,yi 6] w1 fun z w'=>z= .returned (yi 4)∧Below w1.heap.size w1 w')
  (HA: ∀w1,Below w.heap.size w w1→Calls Tryz.prog 28 #[yi n,.string a,.string b,.string c0,yi way] w1 fun z w'=>z= .returned (.tuple #[.string s,yi fl,yi 0])∧Below w1.heap.size w1 w')
  (HD: ∀w1,Below w.heap.size w w1→Calls Tryz.prog 43 #[yi n,.string s] w1 (DecRes w1 c ng m p 0))
  (HE: ∀vo vc w1,Below w.heap.size w w1→Rd w1 .u32 (.slice vo (Dg.dg 4294967296 m).length vc) (Dg.dg 4294967296 m)→Calls Tryz.prog 44 #[yi n,yvV c ng (.slice vo (Dg.dg 4294967296 m).length vc) p] w1 fun z w'=>z= .returned (.tuple #[.string s,yi 0])∧Below w1.heap.size w1 w')
  (HG: ∀w1,Below w.heap.size w w1→Calls Tryz.prog 50 #[yi n] w1 fun z w'=>z= .returned (.tuple #[ygV R D L G gr,yi 0])∧Below w1.heap.size w1 w'):
  Calls Tryz.prog 16 #[yi n,.string a,.string b,.string c0,yi way,yi wh] w fun z w'=>z= .returned (.bool true)∧Below w.heap.size w w':=by
 replace HB:Hid _:=HB;replace HB2:Hid _:=HB2;replace HB3:Hid _:=HB3;replace HX:Hid _:=HX;replace HA:Hid _:=HA;replace HD:Hid _:=HD;replace HE:Hid _:=HE;replace HG:Hid _:=HG
 go_enter Tryz.func16,Tryz.ntmps16
 have b0:=Below.refl w.heap.size w
 go_wp2_with fail
 refine(HB.out _ b0).mono ?_;rintro zz w1 ⟨rfl,bb2⟩;have b3:=below_trans b0 bb2;clear b0 bb2 HB
 go_wp2_with fail
 refine(HB2.out _ b3).mono ?_;rintro zz w4 ⟨rfl,bb5⟩;have b6:=below_trans b3 bb5;clear b3 bb5 HB2
 go_wp2_with fail
 refine(HB3.out _ b6).mono ?_;rintro zz w7 ⟨rfl,bb8⟩;have b9:=below_trans b6 bb8;clear b6 bb8 HB3
 go_wp2_with fail
 refine(HX.out _ b9).mono ?_;rintro zz w10 ⟨rfl,bb11⟩;have b12:=below_trans b9 bb11;clear b9 bb11 HX
 go_wp2_with fail
 refine(HA.out _ b12).mono ?_;rintro zz w13 ⟨rfl,bb14⟩;have b15:=below_trans b12 bb14;clear b12 bb14 HA
 go_wp2_with fail
 refine(HD.out _ b15).mono ?_;rintro zz w16 ⟨v118,rfl,r119,bb17⟩;have b20:=below_trans b15 bb17;obtain⟨vo,vc,hv⟩:=r119.shape;subst hv;clear b15 bb17 HD;obtain⟨W24,hW23,q22,al21⟩:=ent1 w16 (yvL c ng (.slice vo (Dg.dg 4294967296 m).length vc) p) 73;replace hW23:Hid _:=hW23;have hl25:w.heap.size≤w16.heap.size:=b20.size;have r26:=r119.later al21;have b27:=below_trans b20 al21;clear r119 b20 al21
 go_upto_region 19 with fail
 rw[hW23.out];clear hW23;obtain⟨c28,c29,c30,c31⟩:=q22.cs4
 go_wp2_with fail
 refine(HE.out _ _ _ b27 r26).mono ?_;rintro zz w32 ⟨rfl,bb33⟩;have q34:=q22.later bb33;have b35:=below_trans b27 bb33;clear q22 r26 b27 bb33 HE c28 c29 c30 c31
 go_wp2_with fail
 refine(HG.out _ b35).mono ?_;rintro zz w36 ⟨rfl,bb37⟩;have q38:=q34.later bb37;have b39:=below_trans b35 bb37;clear q34 b35 bb37 HG;obtain⟨W43,hW42,q41,al40⟩:=ent1 w36 (ygL R D L G gr) 56;replace hW42:Hid _:=hW42;have hl44:w.heap.size≤w36.heap.size:=b39.size;have hl45:=q38.lt;have q46:=q38.later al40;have b47:=below_trans b39 al40;clear q38 b39 al40 q41
 go_upto_region 21 with fail
 rw[hW42.out];clear hW42;have c48:=q46.cell 0 rfl
 go_wp2
 go_ret
 exact⟨by simp,b47⟩
set_option maxHeartbeats 3200000 in
theorem top4_num (x:Trip) (n way wh fl p R D L G:Int) (gr ng:Bool) (m:Nat) (a b c0 s:ByteArray) (w:World)
  (HB: ∀w1,Below w.heap.size w w1→Calls Tryz.prog 20 #[] w1 fun z w'=>z= .returned (.bool true)∧Below w1.heap.size w1 w')
  (HB2: ∀w1,Below w.heap.size w w1→Calls Tryz.prog 48 #[] w1 fun z w'=>z= .returned (.bool true)∧Below w1.heap.size w1 w')
  (HB3: ∀w1,Below w.heap.size w w1→Calls Tryz.prog 49 #[] w1 fun z w'=>z= .returned (.bool true)∧Below w1.heap.size w1 w')
  (HX: ∀w1,Below w.heap.size w w1→Calls Tryz.prog 47 #[yi wh,yi 6] w1 fun z w'=>z= .returned (yi 4)∧Below w1.heap.size w1 w')
  (HA: ∀w1,Below w.heap.size w w1→Calls Tryz.prog 28 #[yi n,.string a,.string b,.string c0,yi way] w1 fun z w'=>z= .returned (.tuple #[.string s,yi fl,yi 0])∧Below w1.heap.size w1 w')
  (HD: ∀w1,Below w.heap.size w w1→Calls Tryz.prog 43 #[yi n,.string s] w1 (DecRes w1 2 ng m p 0))
  (HE: ∀vo vc w1,Below w.heap.size w w1→Rd w1 .u32 (.slice vo (Dg.dg 4294967296 m).length vc) (Dg.dg 4294967296 m)→Calls Tryz.prog 44 #[yi n,yvV 2 ng (.slice vo (Dg.dg 4294967296 m).length vc) p] w1 fun z w'=>z= .returned (.tuple #[.string s,yi 0])∧Below w1.heap.size w1 w')
  (HG: ∀w1,Below w.heap.size w w1→Calls Tryz.prog 50 #[yi n] w1 fun z w'=>z= .returned (.tuple #[ygV R D L G gr,yi 0])∧Below w1.heap.size w1 w')
  (HN: ∀vo vc w1,Below w.heap.size w w1→Rd w1 .u32 (.slice vo (Dg.dg 4294967296 m).length vc) (Dg.dg 4294967296 m)→Calls Tryz.prog 51 #[ypV ng (.slice vo (Dg.dg 4294967296 m).length vc) p false false false,ygV R D L G gr] w1 fun z w'=> ∃v,z= .returned (.tuple #[ydV x.s v x.e,yi 0])∧Rd w' .u32 v (Dg.dg 4294967296 x.n)∧Below w1.heap.size w1 w')
  (HH: ∀xo xc w1,Below w.heap.size w w1→Rd w1 .u32 (.slice xo (Dg.dg 4294967296 x.n).length xc) (Dg.dg 4294967296 x.n)→Calls Tryz.prog 52 #[yDV x xo xc,ygV R D L G gr] w1 fun z w'=>z= .returned (.tuple #[.bool true,yi 0])∧Below w1.heap.size w1 w'):
  Calls Tryz.prog 16 #[yi n,.string a,.string b,.string c0,yi way,yi wh] w fun z w'=>z= .returned (.bool true)∧Below w.heap.size w w':=by
 replace HB:Hid _:=HB;replace HB2:Hid _:=HB2;replace HB3:Hid _:=HB3;replace HX:Hid _:=HX;replace HA:Hid _:=HA;replace HD:Hid _:=HD;replace HE:Hid _:=HE;replace HG:Hid _:=HG;replace HN:Hid _:=HN;replace HH:Hid _:=HH
 go_enter Tryz.func16,Tryz.ntmps16
 have b0:=Below.refl w.heap.size w
 go_wp2_with fail
 refine(HB.out _ b0).mono ?_;rintro zz w1 ⟨rfl,bb2⟩;have b3:=below_trans b0 bb2;clear b0 bb2 HB
 go_wp2_with fail
 refine(HB2.out _ b3).mono ?_;rintro zz w4 ⟨rfl,bb5⟩;have b6:=below_trans b3 bb5;clear b3 bb5 HB2
 go_wp2_with fail
 refine(HB3.out _ b6).mono ?_;rintro zz w7 ⟨rfl,bb8⟩;have b9:=below_trans b6 bb8;clear b6 bb8 HB3
 go_wp2_with fail
 refine(HX.out _ b9).mono ?_;rintro zz w10 ⟨rfl,bb11⟩;have b12:=below_trans b9 bb11;clear b9 bb11 HX
 go_wp2_with fail
 refine(HA.out _ b12).mono ?_;rintro zz w13 ⟨rfl,bb14⟩;have b15:=below_trans b12 bb14;clear b12 bb14 HA
 go_wp2_with fail
 refine(HD.out _ b15).mono ?_;rintro zz w16 ⟨v118,rfl,r119,bb17⟩;have b20:=below_trans b15 bb17;obtain⟨vo,vc,hv⟩:=r119.shape;subst hv;clear b15 bb17 HD;obtain⟨W24,hW23,q22,al21⟩:=ent1 w16 (yvL 2 ng (.slice vo (Dg.dg 4294967296 m).length vc) p) 73;replace hW23:Hid _:=hW23;have hl25:w.heap.size≤w16.heap.size:=b20.size;have r26:=r119.later al21;have b27:=below_trans b20 al21;clear r119 b20 al21
 go_upto_region 19 with fail
 rw[hW23.out];clear hW23;obtain⟨c28,c29,c30,c31⟩:=q22.cs4
 go_wp2_with fail
 refine(HE.out _ _ _ b27 r26).mono ?_;rintro zz w32 ⟨rfl,bb33⟩;have q34:=q22.later bb33;have r35:=r26.later bb33;have b36:=below_trans b27 bb33;clear q22 r26 b27 bb33 HE c28 c29 c30 c31
 go_wp2_with fail
 refine(HG.out _ b36).mono ?_;rintro zz w37 ⟨rfl,bb38⟩;have q39:=q34.later bb38;have r40:=r35.later bb38;have b41:=below_trans b36 bb38;clear q34 r35 b36 bb38 HG;obtain⟨W45,hW44,q43,al42⟩:=ent1 w37 (ygL R D L G gr) 56;replace hW44:Hid _:=hW44;have hl46:w.heap.size≤w37.heap.size:=b41.size;have hl47:=q39.lt;have q48:=q39.later al42;have r49:=r40.later al42;have b50:=below_trans b41 al42;clear q39 r40 b41 al42
 go_upto_region 21 with fail
 rw[hW44.out];clear hW44;obtain⟨c51,c52,c53,c54⟩:=q48.cs4;obtain⟨c55,c56,c57,c58,c59⟩:=q43.cs5
 go_wp2_with fail
 refine(HN.out _ _ _ b50 r49).mono ?_;rintro zz w60 ⟨v162,rfl,r163,bb61⟩;have q64:=q43.later bb61;have b65:=below_trans b50 bb61;obtain⟨xo,xc,hv⟩:=r163.shape;subst hv;clear q48 q43 r49 b50 bb61 HN c51 c52 c53 c54 c55 c56 c57 c58 c59;obtain⟨W69,hW68,q67,al66⟩:=ent1 w60 (yDL x xo xc) 82;replace hW68:Hid _:=hW68;have hl70:w.heap.size≤w60.heap.size:=b65.size;have hl71:=q64.lt;have q72:=q64.later al66;have r73:=r163.later al66;have b74:=below_trans b65 al66;clear q64 r163 b65 al66
 go_upto_region 26 with fail
 rw[hW68.out];clear hW68;obtain⟨c75,c76,c77,c78,c79⟩:=q72.cs5;obtain⟨c80,c81,c82⟩:=q67.cs3
 go_wp2_with fail
 refine(HH.out _ _ _ b74 r73).mono ?_;rintro zz w83 ⟨rfl,bb84⟩;have b85:=below_trans b74 bb84;clear q72 q67 r73 b74 bb84 HH c75 c76 c77 c78 c79 c80 c81 c82
 go_wp2
 go_ret
 exact⟨by simp,b85⟩
set_option maxHeartbeats 3200000 in
theorem top5_err (n way wh fl e:Int) (a b c0:ByteArray) (w:World) (he:(e==0)=false)
  (HB: ∀w1,Below w.heap.size w w1→Calls Tryz.prog 20 #[] w1 fun z w'=>z= .returned (.bool true)∧Below w1.heap.size w1 w')
  (HB2: ∀w1,Below w.heap.size w w1→Calls Tryz.prog 48 #[] w1 fun z w'=>z= .returned (.bool true)∧Below w1.heap.size w1 w')
  (HB3: ∀w1,Below w.heap.size w w1→Calls Tryz.prog 49 #[] w1 fun z w'=>z= .returned (.bool true)∧Below w1.heap.size w1 w')
  (HX: ∀w1,Below w.heap.size w w1→Calls Tryz.prog 47 #[yi wh,yi 6] w1 fun z w'=>z= .returned (yi 5)∧Below w1.heap.size w1 w')
  (HA: ∀w1,Below w.heap.size w w1→Calls Tryz.prog 30 #[yi n,.string a,yi way] w1 fun z w'=>z= .returned (.tuple #[.string ⟨#[]⟩,yi fl,yi e])∧Below w1.heap.size w1 w'):
  Calls Tryz.prog 16 #[yi n,.string a,.string b,.string c0,yi way,yi wh] w fun z w'=>z= .returned (.bool true)∧Below w.heap.size w w':=by
 replace HB:Hid _:=HB;replace HB2:Hid _:=HB2;replace HB3:Hid _:=HB3;replace HX:Hid _:=HX;replace HA:Hid _:=HA
 go_enter Tryz.func16,Tryz.ntmps16
 have b0:=Below.refl w.heap.size w
 go_wp2_with fail
 refine(HB.out _ b0).mono ?_;rintro zz w1 ⟨rfl,bb2⟩;have b3:=below_trans b0 bb2;clear b0 bb2 HB
 go_wp2_with fail
 refine(HB2.out _ b3).mono ?_;rintro zz w4 ⟨rfl,bb5⟩;have b6:=below_trans b3 bb5;clear b3 bb5 HB2
 go_wp2_with fail
 refine(HB3.out _ b6).mono ?_;rintro zz w7 ⟨rfl,bb8⟩;have b9:=below_trans b6 bb8;clear b6 bb8 HB3
 go_wp2_with fail
 refine(HX.out _ b9).mono ?_;rintro zz w10 ⟨rfl,bb11⟩;have b12:=below_trans b9 bb11;clear b9 bb11 HX
 go_wp2_with fail
 refine(HA.out _ b12).mono ?_;rintro zz w13 ⟨rfl,bb14⟩;have b15:=below_trans b12 bb14;clear b12 bb14 HA
 go_wp2
 go_ret
 exact⟨by simp,b15⟩
set_option maxHeartbeats 3200000 in
theorem top5_oth (c:Int) (n way wh fl p R D L G:Int) (gr ng:Bool) (m:Nat) (a b c0 s:ByteArray) (w:World) (hc:(c==2)=false)
  (HB: ∀w1,Below w.heap.size w w1→Calls Tryz.prog 20 #[] w1 fun z w'=>z= .returned (.bool true)∧Below w1.heap.size w1 w')
  (HB2: ∀w1,Below w.heap.size w w1→Calls Tryz.prog 48 #[] w1 fun z w'=>z= .returned (.bool true)∧Below w1.heap.size w1 w')
  (HB3: ∀w1,Below w.heap.size w w1→Calls Tryz.prog 49 #[] w1 fun z w'=>z= .returned (.bool true)∧Below w1.heap.size w1 w')
  (HX: ∀w1,Below w.heap.size w w1→Calls Tryz.prog 47 #[yi wh,yi 6] w1 fun z w'=>z= .returned (yi 5)∧Below w1.heap.size w1 w')
  (HA: ∀w1,Below w.heap.size w w1→Calls Tryz.prog 30 #[yi n,.string a,yi way] w1 fun z w'=>z= .returned (.tuple #[.string s,yi fl,yi 0])∧Below w1.heap.size w1 w')
  (HD: ∀w1,Below w.heap.size w w1→Calls Tryz.prog 43 #[yi n,.string s] w1 (DecRes w1 c ng m p 0))
  (HE: ∀vo vc w1,Below w.heap.size w w1→Rd w1 .u32 (.slice vo (Dg.dg 4294967296 m).length vc) (Dg.dg 4294967296 m)→Calls Tryz.prog 44 #[yi n,yvV c ng (.slice vo (Dg.dg 4294967296 m).length vc) p] w1 fun z w'=>z= .returned (.tuple #[.string s,yi 0])∧Below w1.heap.size w1 w')
  (HG: ∀w1,Below w.heap.size w w1→Calls Tryz.prog 50 #[yi n] w1 fun z w'=>z= .returned (.tuple #[ygV R D L G gr,yi 0])∧Below w1.heap.size w1 w'):
  Calls Tryz.prog 16 #[yi n,.string a,.string b,.string c0,yi way,yi wh] w fun z w'=>z= .returned (.bool true)∧Below w.heap.size w w':=by
 replace HB:Hid _:=HB;replace HB2:Hid _:=HB2;replace HB3:Hid _:=HB3;replace HX:Hid _:=HX;replace HA:Hid _:=HA;replace HD:Hid _:=HD;replace HE:Hid _:=HE;replace HG:Hid _:=HG
 go_enter Tryz.func16,Tryz.ntmps16
 have b0:=Below.refl w.heap.size w
 go_wp2_with fail
 refine(HB.out _ b0).mono ?_;rintro zz w1 ⟨rfl,bb2⟩;have b3:=below_trans b0 bb2;clear b0 bb2 HB
 go_wp2_with fail
 refine(HB2.out _ b3).mono ?_;rintro zz w4 ⟨rfl,bb5⟩;have b6:=below_trans b3 bb5;clear b3 bb5 HB2
 go_wp2_with fail
 refine(HB3.out _ b6).mono ?_;rintro zz w7 ⟨rfl,bb8⟩;have b9:=below_trans b6 bb8;clear b6 bb8 HB3
 go_wp2_with fail
 refine(HX.out _ b9).mono ?_;rintro zz w10 ⟨rfl,bb11⟩;have b12:=below_trans b9 bb11;clear b9 bb11 HX
 go_wp2_with fail
 refine(HA.out _ b12).mono ?_;rintro zz w13 ⟨rfl,bb14⟩;have b15:=below_trans b12 bb14;clear b12 bb14 HA
 go_wp2_with fail
 refine(HD.out _ b15).mono ?_;rintro zz w16 ⟨v118,rfl,r119,bb17⟩;have b20:=below_trans b15 bb17;obtain⟨vo,vc,hv⟩:=r119.shape;subst hv;clear b15 bb17 HD;obtain⟨W24,hW23,q22,al21⟩:=ent1 w16 (yvL c ng (.slice vo (Dg.dg 4294967296 m).length vc) p) 73;replace hW23:Hid _:=hW23;have hl25:w.heap.size≤w16.heap.size:=b20.size;have r26:=r119.later al21;have b27:=below_trans b20 al21;clear r119 b20 al21
 go_upto_region 19 with fail
 rw[hW23.out];clear hW23;obtain⟨c28,c29,c30,c31⟩:=q22.cs4
 go_wp2_with fail
 refine(HE.out _ _ _ b27 r26).mono ?_;rintro zz w32 ⟨rfl,bb33⟩;have q34:=q22.later bb33;have b35:=below_trans b27 bb33;clear q22 r26 b27 bb33 HE c28 c29 c30 c31
 go_wp2_with fail
 refine(HG.out _ b35).mono ?_;rintro zz w36 ⟨rfl,bb37⟩;have q38:=q34.later bb37;have b39:=below_trans b35 bb37;clear q34 b35 bb37 HG;obtain⟨W43,hW42,q41,al40⟩:=ent1 w36 (ygL R D L G gr) 56;replace hW42:Hid _:=hW42;have hl44:w.heap.size≤w36.heap.size:=b39.size;have hl45:=q38.lt;have q46:=q38.later al40;have b47:=below_trans b39 al40;clear q38 b39 al40 q41
 go_upto_region 21 with fail
 rw[hW42.out];clear hW42;have c48:=q46.cell 0 rfl
 go_wp2
 go_ret
 exact⟨by simp,b47⟩
set_option maxHeartbeats 3200000 in
theorem top5_num (x:Trip) (n way wh fl p R D L G:Int) (gr ng:Bool) (m:Nat) (a b c0 s:ByteArray) (w:World)
  (HB: ∀w1,Below w.heap.size w w1→Calls Tryz.prog 20 #[] w1 fun z w'=>z= .returned (.bool true)∧Below w1.heap.size w1 w')
  (HB2: ∀w1,Below w.heap.size w w1→Calls Tryz.prog 48 #[] w1 fun z w'=>z= .returned (.bool true)∧Below w1.heap.size w1 w')
  (HB3: ∀w1,Below w.heap.size w w1→Calls Tryz.prog 49 #[] w1 fun z w'=>z= .returned (.bool true)∧Below w1.heap.size w1 w')
  (HX: ∀w1,Below w.heap.size w w1→Calls Tryz.prog 47 #[yi wh,yi 6] w1 fun z w'=>z= .returned (yi 5)∧Below w1.heap.size w1 w')
  (HA: ∀w1,Below w.heap.size w w1→Calls Tryz.prog 30 #[yi n,.string a,yi way] w1 fun z w'=>z= .returned (.tuple #[.string s,yi fl,yi 0])∧Below w1.heap.size w1 w')
  (HD: ∀w1,Below w.heap.size w w1→Calls Tryz.prog 43 #[yi n,.string s] w1 (DecRes w1 2 ng m p 0))
  (HE: ∀vo vc w1,Below w.heap.size w w1→Rd w1 .u32 (.slice vo (Dg.dg 4294967296 m).length vc) (Dg.dg 4294967296 m)→Calls Tryz.prog 44 #[yi n,yvV 2 ng (.slice vo (Dg.dg 4294967296 m).length vc) p] w1 fun z w'=>z= .returned (.tuple #[.string s,yi 0])∧Below w1.heap.size w1 w')
  (HG: ∀w1,Below w.heap.size w w1→Calls Tryz.prog 50 #[yi n] w1 fun z w'=>z= .returned (.tuple #[ygV R D L G gr,yi 0])∧Below w1.heap.size w1 w')
  (HN: ∀vo vc w1,Below w.heap.size w w1→Rd w1 .u32 (.slice vo (Dg.dg 4294967296 m).length vc) (Dg.dg 4294967296 m)→Calls Tryz.prog 51 #[ypV ng (.slice vo (Dg.dg 4294967296 m).length vc) p false false false,ygV R D L G gr] w1 fun z w'=> ∃v,z= .returned (.tuple #[ydV x.s v x.e,yi 0])∧Rd w' .u32 v (Dg.dg 4294967296 x.n)∧Below w1.heap.size w1 w')
  (HH: ∀xo xc w1,Below w.heap.size w w1→Rd w1 .u32 (.slice xo (Dg.dg 4294967296 x.n).length xc) (Dg.dg 4294967296 x.n)→Calls Tryz.prog 52 #[yDV x xo xc,ygV R D L G gr] w1 fun z w'=>z= .returned (.tuple #[.bool true,yi 0])∧Below w1.heap.size w1 w'):
  Calls Tryz.prog 16 #[yi n,.string a,.string b,.string c0,yi way,yi wh] w fun z w'=>z= .returned (.bool true)∧Below w.heap.size w w':=by
 replace HB:Hid _:=HB;replace HB2:Hid _:=HB2;replace HB3:Hid _:=HB3;replace HX:Hid _:=HX;replace HA:Hid _:=HA;replace HD:Hid _:=HD;replace HE:Hid _:=HE;replace HG:Hid _:=HG;replace HN:Hid _:=HN;replace HH:Hid _:=HH
 go_enter Tryz.func16,Tryz.ntmps16
 have b0:=Below.refl w.heap.size w
 go_wp2_with fail
 refine(HB.out _ b0).mono ?_;rintro zz w1 ⟨rfl,bb2⟩;have b3:=below_trans b0 bb2;clear b0 bb2 HB
 go_wp2_with fail
 refine(HB2.out _ b3).mono ?_;rintro zz w4 ⟨rfl,bb5⟩;have b6:=below_trans b3 bb5;clear b3 bb5 HB2
 go_wp2_with fail
 refine(HB3.out _ b6).mono ?_;rintro zz w7 ⟨rfl,bb8⟩;have b9:=below_trans b6 bb8;clear b6 bb8 HB3
 go_wp2_with fail
 refine(HX.out _ b9).mono ?_;rintro zz w10 ⟨rfl,bb11⟩;have b12:=below_trans b9 bb11;clear b9 bb11 HX
 go_wp2_with fail
 refine(HA.out _ b12).mono ?_;rintro zz w13 ⟨rfl,bb14⟩;have b15:=below_trans b12 bb14;clear b12 bb14 HA
 go_wp2_with fail
 refine(HD.out _ b15).mono ?_;rintro zz w16 ⟨v118,rfl,r119,bb17⟩;have b20:=below_trans b15 bb17;obtain⟨vo,vc,hv⟩:=r119.shape;subst hv;clear b15 bb17 HD;obtain⟨W24,hW23,q22,al21⟩:=ent1 w16 (yvL 2 ng (.slice vo (Dg.dg 4294967296 m).length vc) p) 73;replace hW23:Hid _:=hW23;have hl25:w.heap.size≤w16.heap.size:=b20.size;have r26:=r119.later al21;have b27:=below_trans b20 al21;clear r119 b20 al21
 go_upto_region 19 with fail
 rw[hW23.out];clear hW23;obtain⟨c28,c29,c30,c31⟩:=q22.cs4
 go_wp2_with fail
 refine(HE.out _ _ _ b27 r26).mono ?_;rintro zz w32 ⟨rfl,bb33⟩;have q34:=q22.later bb33;have r35:=r26.later bb33;have b36:=below_trans b27 bb33;clear q22 r26 b27 bb33 HE c28 c29 c30 c31
 go_wp2_with fail
 refine(HG.out _ b36).mono ?_;rintro zz w37 ⟨rfl,bb38⟩;have q39:=q34.later bb38;have r40:=r35.later bb38;have b41:=below_trans b36 bb38;clear q34 r35 b36 bb38 HG;obtain⟨W45,hW44,q43,al42⟩:=ent1 w37 (ygL R D L G gr) 56;replace hW44:Hid _:=hW44;have hl46:w.heap.size≤w37.heap.size:=b41.size;have hl47:=q39.lt;have q48:=q39.later al42;have r49:=r40.later al42;have b50:=below_trans b41 al42;clear q39 r40 b41 al42
 go_upto_region 21 with fail
 rw[hW44.out];clear hW44;obtain⟨c51,c52,c53,c54⟩:=q48.cs4;obtain⟨c55,c56,c57,c58,c59⟩:=q43.cs5
 go_wp2_with fail
 refine(HN.out _ _ _ b50 r49).mono ?_;rintro zz w60 ⟨v162,rfl,r163,bb61⟩;have q64:=q43.later bb61;have b65:=below_trans b50 bb61;obtain⟨xo,xc,hv⟩:=r163.shape;subst hv;clear q48 q43 r49 b50 bb61 HN c51 c52 c53 c54 c55 c56 c57 c58 c59;obtain⟨W69,hW68,q67,al66⟩:=ent1 w60 (yDL x xo xc) 82;replace hW68:Hid _:=hW68;have hl70:w.heap.size≤w60.heap.size:=b65.size;have hl71:=q64.lt;have q72:=q64.later al66;have r73:=r163.later al66;have b74:=below_trans b65 al66;clear q64 r163 b65 al66
 go_upto_region 26 with fail
 rw[hW68.out];clear hW68;obtain⟨c75,c76,c77,c78,c79⟩:=q72.cs5;obtain⟨c80,c81,c82⟩:=q67.cs3
 go_wp2_with fail
 refine(HH.out _ _ _ b74 r73).mono ?_;rintro zz w83 ⟨rfl,bb84⟩;have b85:=below_trans b74 bb84;clear q72 q67 r73 b74 bb84 HH c75 c76 c77 c78 c79 c80 c81 c82
 go_wp2
 go_ret
 exact⟨by simp,b85⟩
end Go.Proofs.YtnhackdjplppjaaGreatDoor
