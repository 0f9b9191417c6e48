/-
  Texts laid together: DivBy, DecW, Plus, Dy3, Co6, Co3, Co12, Co20, Tx4, Tx10, Tx2, Pa1, Tx5, BlM, Tx6, Tx16, DyCs.
-/
import Derived.Test.YtpgijbdgljkeeaaGreatDoorTie
import Derived.Test.YtpgijbdgljkeeaaGreatDoorCards
import Derived.ProofKit
import Derived.ShutString
import Derived.ChangeOld
import Derived.Below
import Derived.LaidMore
import Derived.SevenTiedAt
import Derived.Lib.LaidTab
import Derived.Test.YtpgijbdgljkeeaaGreatDoorUx09
import Derived.Test.YtpgijbdgljkeeaaGreatDoorUx10
import Derived.Test.YtpgijbdgljkeeaaGreatDoorUx11
import Derived.Test.YtpgijbdgljkeeaaGreatDoorUx12
set_option maxRecDepth 100000
set_option maxHeartbeats 3200000
namespace Go.Proofs.YtpgijbdgljkeeaaGreatDoor
open Go.RowKit
theorem uG (g n cap base:Nat)(zs:List Nat)(d:Nat)(w:World)(ho:Own w base 138 .u32 (.slice (some ⟨g,0,none⟩) n cap) zs)(hs:Dg.Small 4294967296 zs)(hd:0<d)(hd2:d<4294967296)(hl:zs.length≤1000000):
  yC 136 #[.slice (some ⟨g,0,none⟩) n cap,.int .u32 d] w fun e w'=>
   ∃qs,e= .returned (.int .u32 ((Dg.vl 4294967296 zs % d:Nat):Int))∧Own w' base 138 .u32 (.slice (some ⟨g,0,none⟩) n cap) qs∧qs.length=zs.length∧Dg.Small 4294967296 qs∧Dg.vl 4294967296 qs=Dg.vl 4294967296 zs/d∧w.grownBy w' (some g):=by
 have hn:=ho.len;subst hn
 go_enter Tryz.func136,Tryz.ntmps136
 go_wp2
 go_loopw [5,6] (fun rv iv wr=> ∃(k r:Nat) (cur:List Nat),k≤zs.length∧iv=yi ((k:Int)-1)∧rv= .int .u32 r∧Own wr base 138 .u32 (.slice (some ⟨g,0,none⟩) zs.length cap) cur∧acQ zs cur d k r∧w.grownBy wr (some g))
  (fun _ iv _=>(intOf iv+1).toNat)
 case atStart=>exact⟨zs.length,0,zs,Nat.le_refl _,rfl,rfl,ho,⟨rfl,hs,hd,fun _ _=>rfl,by simp[Dg.vl]⟩,ib _ _⟩
 case round=>
  obtain⟨k,r,cur,hk,rfl,rfl,own,hI,gr⟩:=hrel
  by_cases hk0:k=0
  ·subst hk0
   go_wp2
   go_ret
   obtain⟨h1,h2,h3,h4,h5⟩:=hI;simp only[List.drop_zero] at h5;have e1:Dg.vl 4294967296 zs/d=Dg.vl 4294967296 cur:=by
    rw[h5,Nat.mul_comm,Nat.mul_add_div hd,Nat.div_eq_of_lt h3];omega
   have e2:Dg.vl 4294967296 zs % d=r:=by
    rw[h5,Nat.mul_comm,Nat.mul_add_mod,Nat.mod_eq_of_lt h3]
   exact⟨cur,by rw[e2];rfl,own,h1,h2,e1.symm,gr⟩
  ·obtain⟨m,rfl⟩: ∃m,k=m+1:=⟨k-1,by omega⟩
   have hlen:=hI.1;have hz:=own.c m (by omega);have hf:=own.f m;have hr:=hI.2.2.1;have hzs:=hs m;rw[hI.2.2.2.1 m (by omega)] at hz;obtain⟨z,ez⟩: ∃z,zs.getD m 0=z:=⟨_,rfl⟩;rw[ez] at hz hzs;have Hz:Hid _:=ez;clear ez;have hq:=I6 (t:=r*4294967296+z) hr hzs rfl
   go_wp2_with fail
   refine(Vb r z d wr hr hzs hd2).mono ?_;rintro e w1 ⟨rfl,bel⟩;have own1:=own.l bel;have hz1:=own1.c m (by omega);have hf1:=own1.f m;have gr1:=eF gr (Ew (some g) bel)
   go_wp2
   go_roundw
   case rel=>exact⟨m,_,_,by omega,by go_num,rfl,own1.store m _,Tx hI (by omega) (by rw[Hz.out]) hd hq,eF gr1 (bI _ _ _ _)⟩
   case measure=>simp[intOf]
theorem Kv (g n cap base m:Nat)(w:World)(ho:Own w base 138 .u32 (.slice (some ⟨g,0,none⟩) n cap) (Dg.dg 4294967296 m))(hl:(Dg.dg 4294967296 m).length≤1000000):
  yC 136 #[.slice (some ⟨g,0,none⟩) n cap,.int .u32 1000000000] w fun e w'=>
   ∃qs,e= .returned (.int .u32 ((m % 1000000000:Nat):Int))∧Own w' base 138 .u32 (.slice (some ⟨g,0,none⟩) n cap) qs∧Dg.Small 4294967296 qs∧Dg.vl 4294967296 qs=m/1000000000∧w.grownBy w' (some g):=by
 have:=uG g n cap base (Dg.dg 4294967296 m) 1000000000 w ho (Dg.small_dg _ _ (by omega)) (by omega) (by omega) hl;rw[Dg.vl_dg _ _ (by omega)] at this;refine Calls.mono this ?_;rintro e w' ⟨qs,h1,h2,h3,h4,h5,h6⟩;exact⟨qs,h1,h2,h4,h5,h6⟩
theorem rj (va vb:Value)(xs ys:List Nat)(w:World)(ha:Rd w .u32 va xs)(hb:Rd w .u32 vb ys)(sa:Dg.Small 4294967296 xs)(sb:Dg.Small 4294967296 ys)(hla:xs.length≤1000000)(hlb:ys.length≤1000000):
  yC 99 #[va,vb] w (Num w (Dg.vl 4294967296 xs+Dg.vl 4294967296 ys)):=by
 by_cases h:ys.length≤xs.length
 ·exact abc va vb xs ys w ha hb sa sb hla h
 ·rw[Nat.add_comm]
  exact abd vb va ys xs w hb ha sb sa hlb (by omega)
theorem Loc.apart {w:World}{b c:Nat}{v0 v1 v2:Value}(h:Loc w b v0 v1 v2)(hne:c≠b)(x0 x1 x2:Value):
  Loc (((w.setCell ⟨c,0,none⟩ x0).setCell ⟨c,1,none⟩ x1).setCell ⟨c,2,none⟩ x2) b v0 v1 v2:=by
 obtain⟨hl,⟨c0,c1,c2⟩,f0,f1,f2⟩:=h;refine⟨by simpa using hl,⟨?_, ?_, ?_⟩,by simpa using f0,by simpa using f1,by simpa using f2⟩
 ·rw[World.cell?_setCell_other (h:=by simp),World.cell?_setCell_other (h:=by simp),World.cell?_setCell_other (h:=by simp)];exact c0
 ·rw[World.cell?_setCell_other (h:=by simp),World.cell?_setCell_other (h:=by simp),World.cell?_setCell_other (h:=by simp)];exact c1
 ·rw[World.cell?_setCell_other (h:=by simp),World.cell?_setCell_other (h:=by simp),World.cell?_setCell_other (h:=by simp)];exact c2
theorem zU (s:ByteArray):Dg.Small 256 (jr s):=by
 intro i;unfold jr;simp only[List.getD_eq_getElem?_getD,List.getElem?_map]
 cases h:s.data.toList[i]? with
 |none=>simp
 |some b=>simpa using b.toNat_lt
def tC (w:World)(n:Nat)(c:Int)(e:Ending)(w':World):Prop:=
 e= .returned (.tuple #[.agg (tS n).toArray,yi c])∧yB w w'
theorem Gd (R D L G sz ex c:Int)(gr ng:Bool)(F e f:Nat)(w:World)(HC:yJ 151 #[ylV R D L G gr sz ex 1 F,yfV ng e f] (yi c)):yC 117 #[ylV R D L G gr sz ex 1 F,yfV ng e f] w (yR w (yi c)):=by
 replace HC:Hid _:=HC;have hsf:=cD;have l0:=(ah w (ylL R D L G gr sz ex 1 F) 124).l (af _ (.cells (yfA ng e f) 127));have m0:=ah (w.alloc (.cells (ylA R D L G gr sz ex 1 F) 124)) (yfL ng e f) 127;have b0:=aa (af w (.cells (ylA R D L G gr sz ex 1 F) 124)) (af _ (.cells (yfA ng e f) 127));rw[World.size_alloc] at m0
 go_enter Tryz.func117,Tryz.ntmps117
 go_wp2_with fail
 refine(HC.out _).mono ?_;rintro z w1 ⟨rfl,b1⟩
 go_wp2
 go_ret
 exact⟨rfl,aa b0 b1⟩
theorem Za (R D L G sz ex:Int)(gr ng:Bool)(F e f:Nat)(w:World):yC 117 #[ylV R D L G gr sz ex 2 F,yfV ng e f] w (yR w (yi (((if f=0 then 1 else 2:Nat):Nat):Int))):=by
 have hsf:=cD;have l0:=(ah w (ylL R D L G gr sz ex 2 F) 124).l (af _ (.cells (yfA ng e f) 127));have m0:=ah (w.alloc (.cells (ylA R D L G gr sz ex 2 F) 124)) (yfL ng e f) 127;have b0:=aa (af w (.cells (ylA R D L G gr sz ex 2 F) 124)) (af _ (.cells (yfA ng e f) 127));rw[World.size_alloc] at m0;have HZ:Hid (∀b w1,yC 152 #[.bool b] w1 fun z w'=>z= .returned (yi (if b then 1 else 2))∧w'=w1):=fun b w1=>Aj b w1
 by_cases h:f=0
 ·subst h
  go_enter Tryz.func117,Tryz.ntmps117
  go_wp2_with fail
  refine(HZ.out true _).mono ?_;rintro z w1 ⟨rfl,rfl⟩
  go_wp2
  go_ret
  exact⟨rfl,b0⟩
 ·have h1:((f:Int)==0)=false:=by simp;omega
  rw[if_neg h];clear h
  go_enter Tryz.func117,Tryz.ntmps117
  go_wp2_with fail
  refine(HZ.out false _).mono ?_;rintro z w1 ⟨rfl,rfl⟩
  go_wp2
  go_ret
  exact⟨rfl,b0⟩
theorem Zb (R D L G sz ex:Int)(gr ng:Bool)(F e f:Nat)(w:World):yC 117 #[ylV R D L G gr sz ex 3 F,yfV ng e f] w (yR w (yi (((if e=0 then(if ng then 5 else 1) else 2:Nat):Nat):Int))):=by
 have hsf:=cD;have l0:=(ah w (ylL R D L G gr sz ex 3 F) 124).l (af _ (.cells (yfA ng e f) 127));have m0:=ah (w.alloc (.cells (ylA R D L G gr sz ex 3 F) 124)) (yfL ng e f) 127;have b0:=aa (af w (.cells (ylA R D L G gr sz ex 3 F) 124)) (af _ (.cells (yfA ng e f) 127));rw[World.size_alloc] at m0;have HZ:Hid (∀b w1,yC 152 #[.bool b] w1 fun z w'=>z= .returned (yi (if b then 1 else 2))∧w'=w1):=fun b w1=>Aj b w1
 by_cases h:e=0
 ·subst h
  rw[if_pos rfl]
  cases ng
  ·go_enter Tryz.func117,Tryz.ntmps117
   go_wp2_with fail
   refine(HZ.out true _).mono ?_;rintro z w1 ⟨rfl,rfl⟩
   go_wp2
   go_ret
   exact⟨rfl,b0⟩
  ·go_enter Tryz.func117,Tryz.ntmps117
   go_wp2
   go_ret
   exact⟨rfl,b0⟩
 ·have h1:((e:Int)==0)=false:=by simp;omega
  rw[if_neg h];clear h
  cases ng
  all_goals
   go_enter Tryz.func117,Tryz.ntmps117
   go_wp2_with fail
   refine(HZ.out false _).mono ?_;rintro z w1 ⟨rfl,rfl⟩
   go_wp2
   go_ret
   exact⟨rfl,b0⟩
theorem Vi (D L G sz ex fam:Int)(gr ng:Bool)(F e f:Nat)(w:World)(hw1:IntKind.i64.wrap (L+(e:Int))=L+(e:Int)):yC 119 #[ylV 16 D L G gr sz ex fam F,yfV ng e f] w (yR w (.tuple #[.int .u64 f,yi (L+(e:Int))])):=by
 have hsf:=cD;have l0:=(ah w (ylL 16 D L G gr sz ex fam F) 124).l (af _ (.cells (yfA ng e f) 127));have m0:=ah (w.alloc (.cells (ylA 16 D L G gr sz ex fam F) 124)) (yfL ng e f) 127;have b0:=aa (af w (.cells (ylA 16 D L G gr sz ex fam F) 124)) (af _ (.cells (yfA ng e f) 127));rw[World.size_alloc] at m0
 go_enter Tryz.func119,Tryz.ntmps119
 go_wp2
 go_quiet (fail)
 go_wp2
 go_ret2
 exact⟨by first|rfl| (rw[hw1];rfl)|simp[hw1,Act.put],aL b0 _⟩
theorem Zc (D L G sz ex fam:Int)(gr ng:Bool)(F f:Nat)(w:World):yC 119 #[ylV 2 D L G gr sz ex fam F,yfV ng 0 f] w (yR w (.tuple #[.int .u64 f,yi L])):=by
 have hsf:=cD;have l0:=(ah w (ylL 2 D L G gr sz ex fam F) 124).l (af _ (.cells (yfA ng 0 f) 127));have m0:=ah (w.alloc (.cells (ylA 2 D L G gr sz ex fam F) 124)) (yfL ng 0 f) 127;have b0:=aa (af w (.cells (ylA 2 D L G gr sz ex fam F) 124)) (af _ (.cells (yfA ng 0 f) 127));rw[World.size_alloc] at m0
 go_enter Tryz.func119,Tryz.ntmps119
 go_wp2
 go_quiet (fail)
 go_wp2
 go_ret2
 exact⟨rfl,aL b0 _⟩
theorem MQ (R D L G fam:Int)(gr:Bool)(sz ex:Nat)(F:Nat)(c:Int)(q3 q1 qf:Bool)(w:World)(h3:(c==3)=q3)(h1:(c==1)=q1)(hf:(fam != 3)=qf):yC 149 #[ylV R D L G gr sz ex fam F,yi c] w (yR w (.bool (q3||q1&&qf))):=by
 have hsf:=cD;have b0:=af w (.cells (ylA R D L G gr sz ex fam F) 124)
 cases q3<;>cases q1<;>cases qf
 all_goals go_enter Tryz.func149,Tryz.ntmps149
 all_goals go_wp2
 all_goals go_ret
 all_goals exact⟨rfl,b0⟩
theorem Qa (k c:Nat)(hk:1≤k∧k≤8)(hc:c=1∨c=3∨c=4∨c=5)(w:World):
  yC 149 #[.agg (tS k).toArray,yi c] w (yR w (.bool (Bk k c))):=by
 rcases bO hk with rfl|rfl|rfl|rfl|rfl|rfl|rfl|rfl
 all_goals rcases hc with rfl|rfl|rfl|rfl
 all_goals first
  |exact MQ _ _ _ _ _ _ _ _ _ _ _ _ true w rfl rfl rfl
  |exact MQ _ _ _ _ _ _ _ _ _ _ _ _ false w rfl rfl rfl
def RtE (w:World)(ng:Bool)(a b:Nat)(e er:Int)(z:Ending)(w':World):Prop:=
 ∃v u,z= .returned (.tuple #[yrV ng v u e,yi er])∧Rd w' .u32 v (Dg.dg 4294967296 a)∧Rd w' .u32 u (Dg.dg 4294967296 b)∧yB w w'
theorem tparse_none (n way:Int)(tx:ByteArray)(w:World)
  (HF:yJ 38 #[yi n] (yi 0)):
  yC 13 #[yi n,.string tx,yi way] w (yR w (.tuple #[.string ⟨#[]⟩,yi 0,yi 6])):=by
 replace HF:Hid _:=HF
 go_enter Tryz.func13,Tryz.ntmps13
 have b0:=Below.refl w.heap.size w
 go_wp2_with fail
 refine(HF.out _).mono ?_;rintro zz w1 ⟨rfl,bb2⟩;have b3:=aa b0 bb2;clear b0 bb2 HF
 go_wp2
 go_ret3
 exact⟨rfl,b3⟩
def ShW (w:World)(a:Nat)(cs:List Value)(v:Value)(m:Nat)(wr:World):Prop:=yB w wr∧au wr a 102 cs∧Rd wr .u32 v (Dg.dg 4294967296 m)
theorem tpower_long (af zs:ByteArray)(ng:Bool)(w:World)(h:5<zs.size)
  (HC:yJ 66 #[.string af,.string ⟨#[45]⟩] (.tuple #[.string zs,.bool ng])):
  yC 68 #[.string af] w (yR w (.tuple #[yi 0,.bool false])):=by
 replace HC:Hid _:=HC
 go_enter Tryz.func68,Tryz.ntmps68
 have b0:=Below.refl w.heap.size w
 go_wp2_with fail
 refine(HC.out _).mono ?_;rintro zz w1 ⟨rfl,bb2⟩;have b3:=aa b0 bb2;clear b0 bb2 HC
 go_wp2
 go_ret2
 exact⟨rfl,b3⟩
theorem tpower_no (af zs:ByteArray)(ng:Bool)(w:World)(h:zs.size≤5)
  (HC:yJ 66 #[.string af,.string ⟨#[45]⟩] (.tuple #[.string zs,.bool ng]))
  (HD:yJ 69 #[.string zs] (.bool false)):
  yC 68 #[.string af] w (yR w (.tuple #[yi 0,.bool false])):=by
 replace HC:Hid _:=HC;replace HD:Hid _:=HD
 go_enter Tryz.func68,Tryz.ntmps68
 have b0:=Below.refl w.heap.size w
 go_wp2_with fail
 refine(HC.out _).mono ?_;rintro zz w1 ⟨rfl,bb2⟩;have b3:=aa b0 bb2;clear b0 bb2 HC
 go_wp2_with fail
 refine(HD.out _).mono ?_;rintro zz w4 ⟨rfl,bb5⟩;have b6:=aa b3 bb5;clear b3 bb5 HD
 go_wp2
 go_ret2
 exact⟨rfl,b6⟩
theorem tpower_plus (af zs:ByteArray)(n:Int)(w:World)(h:zs.size≤5)
  (HC:yJ 66 #[.string af,.string ⟨#[45]⟩] (.tuple #[.string zs,.bool false]))
  (HD:yJ 69 #[.string zs] (.bool true))
  (HA:yJ 123 #[.string zs] (.tuple #[yi n,.nilIface])):
  yC 68 #[.string af] w (yR w (.tuple #[yi n,.bool true])):=by
 replace HC:Hid _:=HC;replace HD:Hid _:=HD;replace HA:Hid _:=HA
 go_enter Tryz.func68,Tryz.ntmps68
 have b0:=Below.refl w.heap.size w
 go_wp2_with fail
 refine(HC.out _).mono ?_;rintro zz w1 ⟨rfl,bb2⟩;have b3:=aa b0 bb2;clear b0 bb2 HC
 go_wp2_with fail
 refine(HD.out _).mono ?_;rintro zz w4 ⟨rfl,bb5⟩;have b6:=aa b3 bb5;clear b3 bb5 HD
 go_wp2_with fail
 refine(HA.out _).mono ?_;rintro zz w7 ⟨rfl,bb8⟩;have b9:=aa b6 bb8;clear b6 bb8 HA
 go_wp2
 go_ret2
 exact⟨rfl,b9⟩
theorem tpower_minus (af zs:ByteArray)(n m:Int)(w:World)(h:zs.size≤5)(hm:IntKind.i64.wrap (-n)=m)
  (HC:yJ 66 #[.string af,.string ⟨#[45]⟩] (.tuple #[.string zs,.bool true]))
  (HD:yJ 69 #[.string zs] (.bool true))
  (HA:yJ 123 #[.string zs] (.tuple #[yi n,.nilIface])):
  yC 68 #[.string af] w (yR w (.tuple #[yi m,.bool true])):=by
 replace HC:Hid _:=HC;replace HD:Hid _:=HD;replace HA:Hid _:=HA
 go_enter Tryz.func68,Tryz.ntmps68
 have b0:=Below.refl w.heap.size w
 go_wp2_with fail
 refine(HC.out _).mono ?_;rintro zz w1 ⟨rfl,bb2⟩;have b3:=aa b0 bb2;clear b0 bb2 HC
 go_wp2_with fail
 refine(HD.out _).mono ?_;rintro zz w4 ⟨rfl,bb5⟩;have b6:=aa b3 bb5;clear b3 bb5 HD
 go_wp2_with fail
 refine(HA.out _).mono ?_;rintro zz w7 ⟨rfl,bb8⟩;have b9:=aa b6 bb8;clear b6 bb8 HA
 go_wp2
 go_ret2
 exact⟨rfl,b9⟩
abbrev mM (r:ByteArray×Int×Int)(w:World)(z:Ending)(w':World):Prop:=z= .returned (.tuple #[.string r.1,yi r.2.1,yi r.2.2])∧yB w w'
def NmE (w:World)(r:(Bool×ByteArray×Int)×Int)(z:Ending)(w':World):Prop:=z= .returned (.tuple #[.agg #[.bool r.1.1,.string r.1.2.1,yi r.1.2.2],yi r.2])∧yB w w'
def V4 (W:World)(base:Nat)(v:Value):Prop:= ∃p,v= .pointer (some ⟨p,0,none⟩)∧base≤p∧Loc W p (.bool false) yN (yi 0)∧ZB W p
theorem ZB.off {w w':World}{q b:Nat}(h:ZB w q)(hg:w.grownBy w' (some b))(hne:q≠b):ZB w' q:=by
 obtain⟨hl,ty,hh⟩:=h;exact⟨Nat.lt_of_lt_of_le hl hg.size,ty,(hg.block q hl (by intro e;cases e;exact hne rfl)).trans hh⟩
def raV (t:ByteArray):Bool×Nat×Nat×Int:=nrV (nmV t).1
theorem nmV_zero {t:ByteArray}(h:(nmV t).2=0):(nmV t).1.2.1.size≤400∧digB (nmV t).1.2.1=true∧ -6000≤(nmV t).1.2.2∧(nmV t).1.2.2≤6000:=by
 unfold nmV at h⊢
 by_cases h4:400<t.size
 ·rw[if_pos h4] at h
  exact absurd h (by decide)
 rw[if_neg h4] at h⊢
 split at h
 ·exact absurd h (by decide)
 rename_i h1
 rw[if_neg h1]
 split at h
 ·exact absurd h (by decide)
 rename_i h2
 rw[if_neg h2];have hu:=undash_size t;have hc:=cutS_size 101 (undash t);have hd:=cutS_size 46 (nmC t).1;have hc1:(nmC t).1.size+(nmC t).2.1.size≤400:=by unfold nmC;omega
 have hd1:(nmD t).1.size+(nmD t).2.1.size≤400:=by unfold nmD;omega
 refine⟨?_, ?_, ?_, ?_⟩
 ·show((nmD t).1++(nmD t).2.1).size≤400
  rw[ByteArray.size_append];exact hd1
 ·show digB ((nmD t).1++(nmD t).2.1)=true
  cases hg:digB ((nmD t).1++(nmD t).2.1)
  ·exact absurd (.inr (.inl hg)) h1
  ·rfl
 ·show-6000≤nmQ t
  omega
 ·show nmQ t≤6000
  omega
theorem textBegun_W (st:ByteArray)(w:World)
  (HP:yH w 13 #[yi 2,.string ⟨#[48,46,49]⟩,yi 1] (.tuple #[.string st,yi 1,yi 0]))
  (HS:yH w 23 #[yi 2,.string st] (.tuple #[.string ⟨#[49,101,45,49]⟩,yi 0])):
  yC 11 #[] w (yR w (.bool true)):=by
 replace HP:Hid _:=HP;replace HS:Hid _:=HS
 go_enter Tryz.func11,Tryz.ntmps11
 have b0:=Below.refl w.heap.size w
 go_wp2_with fail
 refine(HP.out _ b0).mono ?_;rintro zz w1 ⟨rfl,bb2⟩;have b3:=aa b0 bb2;clear b0 bb2 HP
 go_wp2_with fail
 refine(HS.out _ b3).mono ?_;rintro zz w4 ⟨rfl,bb5⟩;have b6:=aa b3 bb5;clear b3 bb5 HS
 go_wp2
 go_ret
 exact⟨by simp,b6⟩
end Go.Proofs.YtpgijbdgljkeeaaGreatDoor
namespace Go.Proofs.YtpgijbdgljkeeaaGreatDoor.dy
open Go.ChangeShapes Go.WideShapes Go.ChangeAt Go.RowKit Go.Joins
theorem own:ownKnob Tryz.prog.godebug=none:=by kernel_rfl
theorem cellsT:Tryz.prog.cellsOf 229=32:=by kernel_rfl
theorem cellsU:Tryz.prog.cellsOf 5=1:=by kernel_rfl
theorem gTab:Tryz.prog.globalNamed (Rows.textRatiosRow.laid.headD (Rows.textRatiosRow.func,.nil)).1=some 0:=by kernel_rfl
theorem tTab:(Tryz.prog.globals[0]?).map (·.type)=some 229:=by kernel_rfl
theorem tab_of_laid {W:World}(h:laidMetH Tryz.prog Rows.textRatiosRow.laid W):Tab W:=by
 rw[MakeChecks.laidMetH_plain _ _ _ (by kernel_rfl)] at h;obtain⟨ps,⟨g0,t0,cs0,f0,p0,q0,hg0,ht0,hv0,hd0,_⟩,_⟩:=h;obtain rfl:=Option.some.inj (gTab.symm.trans hg0);obtain rfl:=Option.some.inj (tTab.symm.trans ht0);intro j hj;have hc:=Lib.cells_of_tab (zs:=Lib.deBruijn32tab.map (fun n:Nat=>(n:Int))) Tryz.underlying229 Tryz.underlying5 cellsU cellsT hd0
 have hv:=World.var?_cell hg0 hv0 j;have hl:j<Lib.deBruijn32tab.length:=hj;rw[hv,←Array.getElem?_toList,hc,List.getElem?_map,List.getElem?_map,List.getElem?_eq_getElem hl];simp[List.getD_eq_getElem?_getD,List.getElem?_eq_getElem hl]
theorem behind_of {P:Program}{s:List Char}{ws:List (List Char)}(h:wordsSigns P.initOrder.toList=("harness" :String).toList::s::ws)(hs:isSumSigns s=true):behindMainWord (wordsSigns P.initOrder.toList)=ws:=by
 rw[h];unfold behindMainWord;simp only[hs,beq_self_eq_true,Bool.true_or,Bool.and_true,if_true]
theorem strip_none (w:List Char)(ws:List (List Char)): ∀os:List String,(∀o∈os,(w==o.toList)=false)→stripLifts os (w::ws)=([],w::ws)
 | [],_=>rfl
 |o::os,h=>by
  rw[stripLifts,if_neg (by rw[h o (by simp)];decide)];exact strip_none w ws os (fun x hx=>h x (by simp[hx]))
theorem cut_none: ∀o∈liftWords,(("cut" :String).toList==o.toList)=false:=by decide+kernel
theorem enter_of {P:Program}{s:List Char}{ws:List (List Char)}(h:wordsSigns P.initOrder.toList=("harness" :String).toList::s::("cut" :String).toList::ws)(hs:isSumSigns s=true)
  (h1:P.laysLater=false) (h2:P.bearsReflect=false) (h3:P.doorFits []=true):P.mayEnter=true:=by
 unfold Program.mayEnter;rw[behind_of h hs];simp only[strip_none _ _ _ cut_none,h1,h2,h3,List.head?_cons,beq_self_eq_true,List.contains_nil,Bool.not_false,Bool.or_true,Bool.and_self]
end Go.Proofs.YtpgijbdgljkeeaaGreatDoor.dy
