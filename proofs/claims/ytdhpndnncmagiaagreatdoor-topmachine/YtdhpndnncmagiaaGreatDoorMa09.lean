/-
  Texts laid together: Dz, Dy2, Lk, Dy3, Aw0, Co6, Co9, Gr1, Tx4, Tx7, Co17, Co18, Ar1, Tx10, Tx2, Read3, Co5, Cr1, Dl3, Em1, Ef2, Eb2, Nx2, Ar2, Ar6, As2, As4, As6, Pa1, Ra1, Pa3, As9, Gr11, Oq5, Ra4, Tx5, Bl1, Inv, BlN, BlM, Tx6, Tx16, Tx17, DyCs.
-/
import Derived.Test.YtdhpndnncmagiaaGreatDoorTie
import Derived.Test.YtdhpndnncmagiaaGreatDoorCards
import Derived.ProofKit
import Derived.ShutString
import Derived.ChangeOld
import Derived.Below
import Derived.LaidMore
import Derived.SevenTiedAt
import Derived.Lib.LaidTab
import Derived.Test.YtdhpndnncmagiaaGreatDoorMa02
import Derived.Test.YtdhpndnncmagiaaGreatDoorMa03
import Derived.Test.YtdhpndnncmagiaaGreatDoorMa04
set_option maxRecDepth 100000
set_option maxHeartbeats 3200000
namespace Go.Proofs.YtdhpndnncmagiaaGreatDoor
open Go.RowKit
theorem eL {K:Nat}{a:ak}(ha: -(K:Int)≤a.e): -(K:Int)≤(bare a).e:=by
 unfold bare
 by_cases h:a.n=0
 ·rw[if_pos h];simp
 ·rw[if_neg h];simp only;omega
def dV (a:ak):ak:=⟨!a.s,a.n,a.e⟩
theorem aN (w:World)(k:IntKind):Rd w k yN []:=(aQ w 0 0 k).rd
theorem iK (b:Bool)(ao:Option Addr)(n ca:Nat)(e:Int)(w:World):yC 132 #[ydV b (.slice ao n ca) e] w (yR w (ydV b (.slice ao n ca) e)):=by
 go_enter Tryz.func132,Tryz.ntmps132
 go_wp2
 go_returns
 exact⟨rfl,((Below.refl _ _).alloc (Nat.le_refl _) _).alloc (by simp[World.size_alloc]) _⟩
theorem au.cs8 {w:World}{b:Nat}{ty:TypeId}{x0 x1 x2 x3 x4 x5 x6 x7:Value}{l:List Value}(h:au w b ty (x0::x1::x2::x3::x4::x5::x6::x7::l)):w.cell? ⟨b,0,none⟩=some x0∧w.cell? ⟨b,1,none⟩=some x1∧w.cell? ⟨b,2,none⟩=some x2∧w.cell? ⟨b,3,none⟩=some x3∧w.cell? ⟨b,4,none⟩=some x4∧w.cell? ⟨b,5,none⟩=some x5∧w.cell? ⟨b,6,none⟩=some x6∧w.cell? ⟨b,7,none⟩=some x7:=⟨h.c 0 rfl,h.c 1 rfl,h.c 2 rfl,h.c 3 rfl,h.c 4 rfl,h.c 5 rfl,h.c 6 rfl,h.c 7 rfl⟩
theorem au.ne {w:World}{b c:Nat}{ty tz:TypeId}{vs us:List Value}(h:au w b ty vs)(g:au w c tz us)(hn:vs≠us∨ty≠tz):c≠b:=fun e=>by
 subst e;unfold au at h g;rw[h] at g;simp only[Option.some.injEq,Obj.cells.injEq] at g
 rcases hn with hn|hn
 ·exact hn (by simpa using congrArg Array.toList g.1)
 ·exact hn g.2.1
def gR (w:World)(r:ak×Int)(e:Ending)(w':World):Prop:=
 ∃s,e= .returned (.tuple #[ydV r.1.s s r.1.e,yi r.2])∧Own w' w.heap.size 116 .u32 s (Dg.dg 4294967296 r.1.n)∧yB w w'
theorem Loc.apart {w:World}{b c:Nat}{v0 v1 v2:Value}(h:Loc w b v0 v1 v2)(hne:c≠b)(x0 x1 x2:Value):
  Loc (((w.setCell ⟨c,0,none⟩ x0).setCell ⟨c,1,none⟩ x1).setCell ⟨c,2,none⟩ x2) b v0 v1 v2:=by
 obtain⟨hl,⟨c0,c1,c2⟩,f0,f1,f2⟩:=h;refine⟨by simpa using hl,⟨?_, ?_, ?_⟩,by simpa using f0,by simpa using f1,by simpa using f2⟩
 ·rw[World.cell?_setCell_other (h:=by simp),World.cell?_setCell_other (h:=by simp),World.cell?_setCell_other (h:=by simp)];exact c0
 ·rw[World.cell?_setCell_other (h:=by simp),World.cell?_setCell_other (h:=by simp),World.cell?_setCell_other (h:=by simp)];exact c1
 ·rw[World.cell?_setCell_other (h:=by simp),World.cell?_setCell_other (h:=by simp),World.cell?_setCell_other (h:=by simp)];exact c2
theorem afA {w:World}{b:Nat}{ty:TypeId}{z0 z1 z2:Value}(h:au w b ty [z0,z1,z2]):(w.cell? ⟨b,0,none⟩=some z0∧w.cell? ⟨b,1,none⟩=some z1∧w.cell? ⟨b,2,none⟩=some z2)∧w.frozen? ⟨b,0,none⟩=false∧w.frozen? ⟨b,1,none⟩=false∧w.frozen? ⟨b,2,none⟩=false:=
 ⟨⟨h.c 0 rfl,h.c 1 rfl,h.c 2 rfl⟩,h.f 0,h.f 1,h.f 2⟩
theorem afB {w:World}{b:Nat}{ty:TypeId}{z0 z1 z2 z3:Value}(h:au w b ty [z0,z1,z2,z3]):(w.cell? ⟨b,0,none⟩=some z0∧w.cell? ⟨b,1,none⟩=some z1∧w.cell? ⟨b,2,none⟩=some z2∧w.cell? ⟨b,3,none⟩=some z3)∧w.frozen? ⟨b,0,none⟩=false∧w.frozen? ⟨b,1,none⟩=false∧w.frozen? ⟨b,2,none⟩=false∧w.frozen? ⟨b,3,none⟩=false:=
 ⟨⟨h.c 0 rfl,h.c 1 rfl,h.c 2 rfl,h.c 3 rfl⟩,h.f 0,h.f 1,h.f 2,h.f 3⟩
theorem dN {w:World}{b:Nat}{ty:TypeId}{z0 z1 z2 z3 z4:Value}(h:au w b ty [z0,z1,z2,z3,z4]):(w.cell? ⟨b,0,none⟩=some z0∧w.cell? ⟨b,1,none⟩=some z1∧w.cell? ⟨b,2,none⟩=some z2∧w.cell? ⟨b,3,none⟩=some z3∧w.cell? ⟨b,4,none⟩=some z4)∧w.frozen? ⟨b,0,none⟩=false∧w.frozen? ⟨b,1,none⟩=false∧w.frozen? ⟨b,2,none⟩=false∧w.frozen? ⟨b,3,none⟩=false∧w.frozen? ⟨b,4,none⟩=false:=
 ⟨⟨h.c 0 rfl,h.c 1 rfl,h.c 2 rfl,h.c 3 rfl,h.c 4 rfl⟩,h.f 0,h.f 1,h.f 2,h.f 3,h.f 4⟩
theorem dZ {w w':World}{b g o:Nat}{cs:List Value}(bu:But b w w')(h:w.rangeAt g o cs)(hg:g≠b):w'.rangeAt g o cs:=fun j v hj=>by rw[bu.c (by exact hg)];exact h j v hj
theorem zU (s:ByteArray):Dg.Small 256 (jr s):=by
 intro i;unfold jr;simp only[List.getD_eq_getElem?_getD,List.getElem?_map]
 cases h:s.data.toList[i]? with
 |none=>simp
 |some b=>simpa using b.toNat_lt
def fmN:Nat→Nat
 |1=>1|2=>1|3=>1|4=>2|5=>2|_=>3
theorem MY (qs:Bool)(ao:Option Addr)(ca la:Nat)(bo:Option Addr)(cb lb:Nat)(E R D L G:Int)(gr:Bool)(cx cy:Int)(fe:Bool)(gc:Int)(w:World)
  (H1: ∀w1,yB w w1→yC 90 #[.slice ao la ca] w1 fun z w'=>z= .returned (yi cx)∧w'=w1)
  (H2: ∀w1,yB w w1→yC 90 #[.slice bo lb cb] w1 fun z w'=>z= .returned (yi cy)∧w'=w1)
  (H3: ∀w1,yC 147 #[yi E,yi 20000] w1 fun z w'=>z= .returned (.bool fe)∧w'=w1)
  (H4:yJ 146 #[ygV R D L G gr] (yi gc)):
  yC 128 #[yrV qs (.slice ao la ca) (.slice bo lb cb) E,ygV R D L G gr] w (yR w (yi (nL cx cy lb fe gc))):=by
 replace H1:Hid _:=H1;replace H2:Hid _:=H2;replace H3:Hid _:=H3;replace H4:Hid _:=H4;have b1:=aa (af w (.cells (yrA qs (.slice ao la ca) (.slice bo lb cb) E) 77)) (af _ (.cells (ygA R D L G gr) 49))
 by_cases hx:cx=0
 ·subst hx
  by_cases hy:cy=0
  ·subst hy
   by_cases hl:lb=0
   ·subst hl
    rw[show nL 0 0 0 fe gc=3 from by unfold nL;simp]
    go_enter Tryz.func128,Tryz.ntmps128
    go_wp2_with fail
    refine(H1.out _ b1).mono ?_;rintro z w2 ⟨rfl,rfl⟩
    go_wp2_with fail
    refine(H2.out _ b1).mono ?_;rintro z w2 ⟨rfl,rfl⟩
    go_wp2
    go_ret
    exact⟨rfl,b1⟩
   ·have hlf:((lb:Int)==0)=false:=by simp;exact hl
    cases fe
    ·rw[show nL 0 0 lb false gc=gc from by unfold nL;simp[hl]]
     go_enter Tryz.func128,Tryz.ntmps128
     go_wp2_with fail
     refine(H1.out _ b1).mono ?_;rintro z w2 ⟨rfl,rfl⟩
     go_wp2_with fail
     refine(H2.out _ b1).mono ?_;rintro z w2 ⟨rfl,rfl⟩
     go_wp2_with fail
     refine(H3.out _).mono ?_;rintro z w2 ⟨rfl,rfl⟩
     go_wp2_with fail
     refine(H4.out _).mono ?_;rintro z w4 ⟨rfl,b4⟩;have b04:=aa b1 b4
     go_wp2
     go_ret
     exact⟨rfl,b04⟩
    ·rw[show nL 0 0 lb true gc=3 from by unfold nL;simp]
     go_enter Tryz.func128,Tryz.ntmps128
     go_wp2_with fail
     refine(H1.out _ b1).mono ?_;rintro z w2 ⟨rfl,rfl⟩
     go_wp2_with fail
     refine(H2.out _ b1).mono ?_;rintro z w2 ⟨rfl,rfl⟩
     go_wp2_with fail
     refine(H3.out _).mono ?_;rintro z w2 ⟨rfl,rfl⟩
     go_wp2
     go_ret
     exact⟨rfl,b1⟩
  ·have hyf:(cy==0)=false:=by simp;exact hy
   rw[show nL 0 cy lb fe gc=cy from by unfold nL;simp[hy]]
   go_enter Tryz.func128,Tryz.ntmps128
   go_wp2_with fail
   refine(H1.out _ b1).mono ?_;rintro z w2 ⟨rfl,rfl⟩
   go_wp2_with fail
   refine(H2.out _ b1).mono ?_;rintro z w2 ⟨rfl,rfl⟩
   go_wp2
   go_ret
   exact⟨rfl,b1⟩
 ·have hxf:(cx==0)=false:=by simp;exact hx
  rw[show nL cx cy lb fe gc=cx from by unfold nL;simp[hx]]
  go_enter Tryz.func128,Tryz.ntmps128
  go_wp2_with fail
  refine(H1.out _ b1).mono ?_;rintro z w2 ⟨rfl,rfl⟩
  go_wp2
  go_ret
  exact⟨rfl,b1⟩
def RtZ (w:World)(z:Ending)(w':World):Prop:=
 ∃q,z= .returned (yrV false yN (.slice (some ⟨q,0,none⟩) 1 1) 0)∧au w' q 116 [.int .u32 1]∧yB w w'
def RtE (w:World)(ng:Bool)(a b:Nat)(e er:Int)(z:Ending)(w':World):Prop:=
 ∃v u,z= .returned (.tuple #[yrV ng v u e,yi er])∧Rd w' .u32 v (Dg.dg 4294967296 a)∧Rd w' .u32 u (Dg.dg 4294967296 b)∧yB w w'
theorem tparse_none (n way:Int)(tx:ByteArray)(w:World)
  (HF:yJ 30 #[yi n] (yi 0)):
  yC 14 #[yi n,.string tx,yi way] w (yR w (.tuple #[.string ⟨#[]⟩,yi 0,yi 6])):=by
 replace HF:Hid _:=HF
 go_enter Tryz.func14,Tryz.ntmps14
 have b0:=Below.refl w.heap.size w
 go_wp2_with fail
 refine(HF.out _).mono ?_;rintro zz w1 ⟨rfl,bb2⟩;have b3:=aa b0 bb2;clear b0 bb2 HF
 go_wp2
 go_ret3
 exact⟨rfl,b3⟩
theorem tparse_err (f n way er:Int)(tx:ByteArray)(w:World)(hf:(f==0)=false)(he: ¬er=0)
  (HF:yJ 30 #[yi n] (yi f))
  (HE:yH w 31 #[.string tx] (.tuple #[yrV false yN yN 0,yi er])):
  yC 14 #[yi n,.string tx,yi way] w (yR w (.tuple #[.string ⟨#[]⟩,yi 0,yi er])):=by
 replace HF:Hid _:=HF;replace HE:Hid _:=HE
 go_enter Tryz.func14,Tryz.ntmps14
 have b0:=Below.refl w.heap.size w
 go_wp2_with fail
 refine(HF.out _).mono ?_;rintro zz w1 ⟨rfl,bb2⟩;have b3:=aa b0 bb2;clear b0 bb2 HF
 go_wp2_with fail
 refine(HE.out _ b3).mono ?_;rintro zz w4 ⟨rfl,bb5⟩;have b6:=aa b3 bb5;clear b3 bb5 HE;obtain⟨W9,hW8,q10,al7⟩:=cA w4 (yrL false yN yN 0) 77;replace hW8:Hid _:=hW8;have hl11:w.heap.size≤w4.heap.size:=b6.size;have b12:=aa b6 al7;clear b6 al7 q10
 go_upto_region 4 with fail
 rw[hW8.out];clear hW8
 go_wp2
 go_ret3
 exact⟨rfl,b12⟩
def DcR (w:World)(s:Bool)(h:Nat)(c p:Int)(z:Ending)(w':World):Prop:= ∃v,z= .returned (.agg #[.bool s,v,yi c,yi p])∧Rd w' .u32 v (Dg.dg 4294967296 h)∧yB w w'
theorem pbelow_any (n:Int)(w:World)(h1: -100000≤n)(h2:n≤100000):yC 43 #[yi n] w (yR w (yi (pbV n))):=by
 have hb1: -40000≤(n*30103).tdiv 100000:=by
  rw[pb_is n]
  split<;>omega
 have hb2:(n*30103).tdiv 100000≤40000:=by
  rw[pb_is n]
  split<;>omega
 go_enter Tryz.func43,Tryz.ntmps43
 go_wp2
 go_ret
 exact⟨rfl,Below.refl _ _⟩
theorem DV (k:Nat)(ng:Bool)(e f:Nat):dh k ng e f=1∨dh k ng e f=2∨dh k ng e f=3∨dh k ng e f=4∨dh k ng e f=5:=by
 unfold dh
 repeat' split
 all_goals decide
theorem kg {P:Program}{fn:Func}{a b t:Nat}{ta tb:TypeId}{tmps:Array Value}{w:World}{ba bb:Nat}{va vb u:Value}(hres:fn.results= #[.cell a ta,.cell b tb,.tmp t])(ha:tmps.getD a undef= .pointer (some ⟨ba,0,none⟩))(hb:tmps.getD b undef= .pointer (some ⟨bb,0,none⟩))(hu:tmps.getD t undef=u)(hla:(loadVar ta ⟨ba,0,none⟩).run P w= .ok va w)(hlb:(loadVar tb ⟨bb,0,none⟩).run P w= .ok vb w):(results fn tmps).run P w= .ok (.tuple #[va,vb,u]) w:=by
 rw[Array.getD_eq_getD_getElem?] at ha hb hu;unfold results;simp[hres,ha,hb,hu,asAddr,hla,hlb]
def eP (w:World)(c:Int)(ng:Bool)(m:Nat)(p:Int)(er:Int)(z:Ending)(w':World):Prop:=
 ∃v,z= .returned (.tuple #[yvV c ng v p,yi er])∧Rd w' .u32 v (Dg.dg 4294967296 m)∧yB w w'
theorem fF {n:Int}(h:dK n≠0):1≤n.toNat∧n.toNat≤8∧((n.toNat:Nat):Int)=n:=by
 unfold dK at h
 by_cases c:n<1∨8<n
 ·rw[if_pos c] at h
  exact absurd rfl h
 ·omega
def acy (w:World)(t:ak)(z:Ending)(w':World):Prop:=
 ∃v,z= .returned (ydV t.s v t.e)∧Rd w' .u32 v (Dg.dg 4294967296 t.n)∧Far w.heap.size v∧yB w w'
def Ys (w:World)(c:Int)(ng:Bool)(m:Nat)(p:Int)(t:ak)(er:Int)(z:Ending)(w':World):Prop:=
 ∃v x,z= .returned (.tuple #[yvV c ng v p,ydV t.s x t.e,yi er])∧Rd w' .u32 v (Dg.dg 4294967296 m)∧Rd w' .u32 x (Dg.dg 4294967296 t.n)∧Far w.heap.size x∧yB w w'
def ShW (w:World)(a:Nat)(cs:List Value)(v:Value)(m:Nat)(wr:World):Prop:=yB w wr∧au wr a 66 cs∧Rd wr .u32 v (Dg.dg 4294967296 m)
theorem tpower_long (af zs:ByteArray)(ng:Bool)(w:World)(h:5<zs.size)
  (HC:yJ 121 #[.string af,.string ⟨#[45]⟩] (.tuple #[.string zs,.bool ng])):
  yC 123 #[.string af] w (yR w (.tuple #[yi 0,.bool false])):=by
 replace HC:Hid _:=HC
 go_enter Tryz.func123,Tryz.ntmps123
 have b0:=Below.refl w.heap.size w
 go_wp2_with fail
 refine(HC.out _).mono ?_;rintro zz w1 ⟨rfl,bb2⟩;have b3:=aa b0 bb2;clear b0 bb2 HC
 go_wp2
 go_ret2
 exact⟨rfl,b3⟩
theorem tpower_no (af zs:ByteArray)(ng:Bool)(w:World)(h:zs.size≤5)
  (HC:yJ 121 #[.string af,.string ⟨#[45]⟩] (.tuple #[.string zs,.bool ng]))
  (HD:yJ 124 #[.string zs] (.bool false)):
  yC 123 #[.string af] w (yR w (.tuple #[yi 0,.bool false])):=by
 replace HC:Hid _:=HC;replace HD:Hid _:=HD
 go_enter Tryz.func123,Tryz.ntmps123
 have b0:=Below.refl w.heap.size w
 go_wp2_with fail
 refine(HC.out _).mono ?_;rintro zz w1 ⟨rfl,bb2⟩;have b3:=aa b0 bb2;clear b0 bb2 HC
 go_wp2_with fail
 refine(HD.out _).mono ?_;rintro zz w4 ⟨rfl,bb5⟩;have b6:=aa b3 bb5;clear b3 bb5 HD
 go_wp2
 go_ret2
 exact⟨rfl,b6⟩
theorem tpower_plus (af zs:ByteArray)(n:Int)(w:World)(h:zs.size≤5)
  (HC:yJ 121 #[.string af,.string ⟨#[45]⟩] (.tuple #[.string zs,.bool false]))
  (HD:yJ 124 #[.string zs] (.bool true))
  (HA:yJ 182 #[.string zs] (.tuple #[yi n,.nilIface])):
  yC 123 #[.string af] w (yR w (.tuple #[yi n,.bool true])):=by
 replace HC:Hid _:=HC;replace HD:Hid _:=HD;replace HA:Hid _:=HA
 go_enter Tryz.func123,Tryz.ntmps123
 have b0:=Below.refl w.heap.size w
 go_wp2_with fail
 refine(HC.out _).mono ?_;rintro zz w1 ⟨rfl,bb2⟩;have b3:=aa b0 bb2;clear b0 bb2 HC
 go_wp2_with fail
 refine(HD.out _).mono ?_;rintro zz w4 ⟨rfl,bb5⟩;have b6:=aa b3 bb5;clear b3 bb5 HD
 go_wp2_with fail
 refine(HA.out _).mono ?_;rintro zz w7 ⟨rfl,bb8⟩;have b9:=aa b6 bb8;clear b6 bb8 HA
 go_wp2
 go_ret2
 exact⟨rfl,b9⟩
theorem tpower_minus (af zs:ByteArray)(n m:Int)(w:World)(h:zs.size≤5)(hm:IntKind.i64.wrap (-n)=m)
  (HC:yJ 121 #[.string af,.string ⟨#[45]⟩] (.tuple #[.string zs,.bool true]))
  (HD:yJ 124 #[.string zs] (.bool true))
  (HA:yJ 182 #[.string zs] (.tuple #[yi n,.nilIface])):
  yC 123 #[.string af] w (yR w (.tuple #[yi m,.bool true])):=by
 replace HC:Hid _:=HC;replace HD:Hid _:=HD;replace HA:Hid _:=HA
 go_enter Tryz.func123,Tryz.ntmps123
 have b0:=Below.refl w.heap.size w
 go_wp2_with fail
 refine(HC.out _).mono ?_;rintro zz w1 ⟨rfl,bb2⟩;have b3:=aa b0 bb2;clear b0 bb2 HC
 go_wp2_with fail
 refine(HD.out _).mono ?_;rintro zz w4 ⟨rfl,bb5⟩;have b6:=aa b3 bb5;clear b3 bb5 HD
 go_wp2_with fail
 refine(HA.out _).mono ?_;rintro zz w7 ⟨rfl,bb8⟩;have b9:=aa b6 bb8;clear b6 bb8 HA
 go_wp2
 go_ret2
 exact⟨rfl,b9⟩
def ae3 (w:World)(s:ByteArray)(r:Nat)(tv av:Value)(wr:World):Prop:=
 ∃(p:Nat) (T:ByteArray),tv= .string T∧adS s T p∧T.size=r∧Own wr w.heap.size 116 .u32 av (Dg.dg 4294967296 (pv s p))∧yB w wr
theorem nD (a b c d e f g:Int)(w:World):yC 38 #[yi a,yi b,yi c,yi d,yi e,yi f,yi g] w (yR w (yhV a b c 2 d e f (g==1) g)):=by
 go_enter Tryz.func38,Tryz.ntmps38
 go_wp2
 go_returns
 exact⟨rfl,af _ _⟩
def afl:Nat→List Value
 |1=>(yhL 4 8 23 2 24 (-149) 104 true 1)
 |2=>(yhL 8 11 52 2 53 (-1074) 971 true 1)
 |3=>(yhL 10 15 64 2 64 (-16445) 16320 true 1)
 |4=>(yhL 4 7 24 16 6 (-70) 57 false 2)
 |5=>(yhL 8 7 56 16 14 (-78) 49 false 2)
 |6=>(yhL 4 8 23 2 24 (-151) 103 false 3)
 |7=>(yhL 8 8 55 2 56 (-183) 71 false 3)
 |8=>(yhL 8 11 52 2 53 (-1076) 970 false 3)
 |_=>(yhL 0 0 0 0 0 0 0 false 0)
theorem kR (t:ak):(bare t).n≤t.n:=by
 unfold bare
 split
 ·exact Nat.zero_le _
 ·exact Nat.div_le_self _ _
theorem Jv (n:Nat)(x:Int):eZ n x/dX 1 x=shN n x:=by
 unfold eZ dX shN
 by_cases h:x<0
 ·rw[if_pos h,if_pos h,if_pos h,Nat.one_mul]
 ·rw[if_neg h,if_neg h,if_neg h,Nat.div_one]
theorem zr (R:Int):wdI R=(ai R:Int):=by
 unfold wdI ai
 split<;>rfl
theorem eR {k:Nat}(hk:1≤k∧k≤8):1≤exN k∧1≤frN k∧1≤dgN k∧dgN k≤64∧ -16445≤lsI k∧lsI k≤0∧lsI k≤gsI k∧gsI k≤16320∧ai (rdN k)*dgN k≤64∧ai (rdN k)≤4∧1≤ai (rdN k)∧bk (rdN k) (dgN k) (lsI k) (gsI k)=0:=by
 rcases bO hk with rfl|rfl|rfl|rfl|rfl|rfl|rfl|rfl<;>exact⟨by decide,by decide,by decide,by decide,by decide,by decide,by decide,by decide,by decide,by decide,by decide,by decide⟩
theorem NQ {s:Bool}{a:ak}(h:a.n≠0)(hs:a.s=s):(⟨s,(bare a).n,(bare a).e⟩:ak)=bare a:=by
 unfold bare;rw[if_neg h,←hs]
theorem wQ {k:Nat}(hk:1≤k∧k≤8):wdI (rdN k)=(ai (rdN k):Int):=by
 rcases bO hk with rfl|rfl|rfl|rfl|rfl|rfl|rfl|rfl<;>decide
theorem Hv {w:World}{base base' e size k:Nat}{v:Value}{xs:List Value}(h:w.ownsRow base e size v k xs)(hb:base'≤base):w.ownsRow base' e size v k xs:=by
 obtain⟨hl,h2⟩:=h;refine⟨hl, ?_⟩
 rcases h2 with h2| ⟨g,cap,cur,hv,hbg,r⟩
 ·exact .inl h2
 ·exact .inr ⟨g,cap,cur,hv,Nat.le_trans hb hbg,r⟩
theorem iz (c:Int)(g s:Bool)(ao:Option Addr)(la ca:Nat)(e:Int)(w:World):yC 68 #[yoV c g s (.slice ao la ca) e] w (yR w (.bool (c==3))):=by
 have b0:=af w (.cells (yoA c g s (.slice ao la ca) e) 88)
 go_enter Tryz.func68,Tryz.ntmps68
 go_wp2
 go_ret
 exact⟨rfl,b0⟩
def xj (w:World)(c:Int)(g:Bool)(t:ak)(z:Ending)(w':World):Prop:=
 ∃v,z= .returned (yoV c g t.s v t.e)∧Rd w' .u32 v (Dg.dg 4294967296 t.n)∧yB w w'
def dU (w:World)(c:Int)(g:Bool)(t:ak)(fl:Int)(z:Ending)(w':World):Prop:=
 ∃v,z= .returned (.tuple #[yoV c g t.s v t.e,yi fl])∧Rd w' .u32 v (Dg.dg 4294967296 t.n)∧yB w w'
def vI (t:ak):Int:=if t.n=0 then 1 else 2
def xr (t:ak)(ng:Bool):Bool:=if t.n=0 then ng else t.s
def tF (t:ak):ak:=if t.n=0 then⟨false,0,0⟩ else t
def B6 (w:World)(c:Int)(g:Bool)(m:Nat)(q fl:Int)(z:Ending)(w':World):Prop:=
 ∃v,z= .returned (.tuple #[yvV c g v q,yi fl])∧Rd w' .u32 v (Dg.dg 4294967296 m)∧yB w w'
def Kx (w:World)(s:Bool)(N M:Nat)(e:Int)(z:Ending)(w':World):Prop:=
 ∃no nc mo mc,z= .returned (.agg #[.bool s,.slice no (Dg.dg 4294967296 N).length nc,.slice mo (Dg.dg 4294967296 M).length mc,.int .i64 e])∧Rd w' .u32 (.slice no (Dg.dg 4294967296 N).length nc) (Dg.dg 4294967296 N)∧Rd w' .u32 (.slice mo (Dg.dg 4294967296 M).length mc) (Dg.dg 4294967296 M)∧Below w.heap.size w w'
abbrev dsk (k:Nat)(wy:Int):Value:=(ykV k wy (dK k) (rdN k) (dgN k) (lsI k) (gsI k) (decide (k≤3)))
theorem qt {k:Nat}(hk:1≤k∧k≤8):dK k=1∨dK k=2∨dK k=3:=by
 rcases bO hk with rfl|rfl|rfl|rfl|rfl|rfl|rfl|rfl<;>decide
abbrev mM (r:ByteArray×Int×Int)(w:World)(z:Ending)(w':World):Prop:=z= .returned (.tuple #[.string r.1,yi r.2.1,yi r.2.2])∧yB w w'
theorem fm_is {k:Nat}(hk:1≤k∧k≤8):((fmN k:Nat):Int)=dK k:=by
 rcases bO hk with rfl|rfl|rfl|rfl|rfl|rfl|rfl|rfl<;>rfl
def iZ (t:ak):Prop:=t.n<2^64∧ -16500≤t.e∧t.e≤16500
def nu (t:ak)(sg:Bool):Int×Bool×ak×Int:=(vI t,xr t sg,tF t,0)
abbrev rdT (w:World)(t:ak)(o:Option Addr)(k:Nat):Prop:=Rd w .u32 (yT o t.n k) (Dg.dg 4294967296 t.n)
abbrev RE (w:World)(f:Int×Bool×ak×Int):Ending→World→Prop:=dU w f.1 f.2.1 f.2.2.1 f.2.2.2
def Mid (t:ak):Prop:=(Dg.dg 4294967296 t.n).length≤100000∧ -100000≤t.e∧t.e≤100000
theorem ne3 {c:Int}(h:c≠3):(c==3)=false:=by simpa using h
theorem ne1 {c:Int}(h:c≠1):(c==1)=false:=by simpa using h
theorem X8:aG ⟨false,1,0⟩ ⟨false,1,0⟩=⟨false,2,0⟩:=by kernel_rfl
theorem qi (way:Int)(w:World):yC 22 #[yi way] w fun z w'=>z= .returned (.bool (iC way))∧w'=w:=by
 unfold iC
 by_cases h:1≤way
 ·go_enter Tryz.func22,Tryz.ntmps22
  go_wp2
  go_ret
  simp[h]
 ·go_enter Tryz.func22,Tryz.ntmps22
  go_wp2
  go_ret
  simp;omega
theorem eU {n:Int}: ∀{ps:List ByteArray},fT n ps=0→ ∀p∈ps,dF n p=0
 | [],_,p,hp=>by simp at hp
 |q::ps,h,p,hp=>by
  unfold fT at h
  by_cases c:dF n q=0
  ·rw[if_pos c] at h
   rcases List.mem_cons.1 hp with rfl|h2
   ·exact c
   ·exact eU h p h2
  ·rw[if_neg c] at h
   exact absurd h c
theorem way_is {way:Int}:iC way=true↔1≤way∧way≤5:=by
 unfold iC;simp
def NmE (w:World)(r:(Bool×ByteArray×Int)×Int)(z:Ending)(w':World):Prop:=z= .returned (.tuple #[.agg #[.bool r.1.1,.string r.1.2.1,yi r.1.2.2],yi r.2])∧yB w w'
def mL (w:World)(b:Nat)(v0 v1 v2 v3 v4 v5:Value):Prop:=
 b<w.heap.size∧(w.cell? ⟨b,0,none⟩=some v0∧w.cell? ⟨b,1,none⟩=some v1∧w.cell? ⟨b,2,none⟩=some v2∧w.cell? ⟨b,3,none⟩=some v3∧w.cell? ⟨b,4,none⟩=some v4∧w.cell? ⟨b,5,none⟩=some v5)∧
  (w.frozen? ⟨b,0,none⟩=false∧w.frozen? ⟨b,1,none⟩=false∧w.frozen? ⟨b,2,none⟩=false∧w.frozen? ⟨b,3,none⟩=false∧w.frozen? ⟨b,4,none⟩=false∧w.frozen? ⟨b,5,none⟩=false)
def left (listed:Array Bool):Nat:=(listed.toList.filter (fun b=> !b)).length
def Ag (W:World)(base:Nat)(v:Value):Prop:= ∃p,v= .pointer (some ⟨p,0,none⟩)∧base≤p∧Loc W p (.bool false) yN (yi 0)
def V4 (W:World)(base:Nat)(v:Value):Prop:= ∃p,v= .pointer (some ⟨p,0,none⟩)∧base≤p∧Loc W p (.bool false) yN (yi 0)∧ZB W p
def raE (t:ByteArray):Int:=(nmV t).2
theorem textBegun_W (st:ByteArray)(w:World)
  (HP:yH w 14 #[yi 2,.string ⟨#[48,46,49]⟩,yi 1] (.tuple #[.string st,yi 1,yi 0]))
  (HS:yH w 27 #[yi 2,.string st] (.tuple #[.string ⟨#[49,101,45,49]⟩,yi 0])):
  yC 11 #[] w (yR w (.bool true)):=by
 replace HP:Hid _:=HP;replace HS:Hid _:=HS
 go_enter Tryz.func11,Tryz.ntmps11
 have b0:=Below.refl w.heap.size w
 go_wp2_with fail
 refine(HP.out _ b0).mono ?_;rintro zz w1 ⟨rfl,bb2⟩;have b3:=aa b0 bb2;clear b0 bb2 HP
 go_wp2_with fail
 refine(HS.out _ b3).mono ?_;rintro zz w4 ⟨rfl,bb5⟩;have b6:=aa b3 bb5;clear b3 bb5 HS
 go_wp2
 go_ret
 exact⟨by simp,b6⟩
def tenS:ByteArray:=⟨#[63,185,153,153,153,153,153,154]⟩
end Go.Proofs.YtdhpndnncmagiaaGreatDoor
namespace Go.Proofs.YtdhpndnncmagiaaGreatDoor.dy
open Go.ChangeShapes Go.WideShapes Go.ChangeAt Go.RowKit Go.Joins
theorem own:ownKnob Tryz.prog.godebug=none:=by kernel_rfl
theorem cellsT:Tryz.prog.cellsOf 284=32:=by kernel_rfl
theorem cellsU:Tryz.prog.cellsOf 5=1:=by kernel_rfl
theorem gTab:Tryz.prog.globalNamed (Rows.machineChecksRow.laid.headD (Rows.machineChecksRow.func,.nil)).1=some 1:=by kernel_rfl
theorem tTab:(Tryz.prog.globals[1]?).map (·.type)=some 284:=by kernel_rfl
theorem tab_of_laid {W:World}(h:laidMetH Tryz.prog Rows.machineChecksRow.laid W):Tab W:=by
 rw[MakeChecks.laidMetH_plain _ _ _ (by kernel_rfl)] at h;obtain⟨ps,⟨g0,t0,cs0,f0,p0,q0,hg0,ht0,hv0,hd0,_⟩,_⟩:=h;obtain rfl:=Option.some.inj (gTab.symm.trans hg0);obtain rfl:=Option.some.inj (tTab.symm.trans ht0);intro j hj;have hc:=Lib.cells_of_tab (zs:=Lib.deBruijn32tab.map (fun n:Nat=>(n:Int))) Tryz.underlying284 Tryz.underlying5 cellsU cellsT hd0
 have hv:=World.var?_cell hg0 hv0 j;have hl:j<Lib.deBruijn32tab.length:=hj;rw[hv,←Array.getElem?_toList,hc,List.getElem?_map,List.getElem?_map,List.getElem?_eq_getElem hl];simp[List.getD_eq_getElem?_getD,List.getElem?_eq_getElem hl]
theorem behind_of {P:Program}{s:List Char}{ws:List (List Char)}(h:wordsSigns P.initOrder.toList=("harness" :String).toList::s::ws)(hs:isSumSigns s=true):behindMainWord (wordsSigns P.initOrder.toList)=ws:=by
 rw[h];unfold behindMainWord;simp only[hs,beq_self_eq_true,Bool.true_or,Bool.and_true,if_true]
theorem strip_none (w:List Char)(ws:List (List Char)): ∀os:List String,(∀o∈os,(w==o.toList)=false)→stripLifts os (w::ws)=([],w::ws)
 | [],_=>rfl
 |o::os,h=>by
  rw[stripLifts,if_neg (by rw[h o (by simp)];decide)];exact strip_none w ws os (fun x hx=>h x (by simp[hx]))
theorem cut_none: ∀o∈liftWords,(("cut" :String).toList==o.toList)=false:=by decide+kernel
theorem enter_of {P:Program}{s:List Char}{ws:List (List Char)}(h:wordsSigns P.initOrder.toList=("harness" :String).toList::s::("cut" :String).toList::ws)(hs:isSumSigns s=true)
  (h1:P.laysLater=false) (h2:P.bearsReflect=false) (h3:P.doorFits []=true):P.mayEnter=true:=by
 unfold Program.mayEnter;rw[behind_of h hs];simp only[strip_none _ _ _ cut_none,h1,h2,h3,List.head?_cons,beq_self_eq_true,List.contains_nil,Bool.not_false,Bool.or_true,Bool.and_self]
end Go.Proofs.YtdhpndnncmagiaaGreatDoor.dy
