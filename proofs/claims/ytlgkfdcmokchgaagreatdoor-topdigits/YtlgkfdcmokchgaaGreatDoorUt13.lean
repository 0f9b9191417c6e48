/-
  Texts laid together: Co12, Co20, Co21, Ce10, Co17, Ce5, Co22, Ce8, Co25, Rk1, Rk2, Tx5.
-/
import Derived.Test.YtlgkfdcmokchgaaGreatDoorUt06
import Derived.Test.YtlgkfdcmokchgaaGreatDoorUt07
import Derived.Test.YtlgkfdcmokchgaaGreatDoorUt08
import Derived.Test.YtlgkfdcmokchgaaGreatDoorUt09
set_option maxRecDepth 100000
set_option maxHeartbeats 6400000
namespace Go.Proofs.YtlgkfdcmokchgaaGreatDoor
open _root_.Go.Proofs.Tryz
open Go.RowKit
theorem Gd (R D L G sz ex c:Int)(gr ng:Bool)(F e f:Nat)(w:World)(HC:yJ 140 #[ylV R D L G gr sz ex 1 F,yfV ng e f] (yi c)):yC 96 #[ylV R D L G gr sz ex 1 F,yfV ng e f] w (yR w (yi c)):=by
 replace HC:Hid _:=HC;have hsf:=cD;have l0:=(ah w (ylL R D L G gr sz ex 1 F) 110).l (af _ (.cells (yfA ng e f) 112));have m0:=ah (w.alloc (.cells (ylA R D L G gr sz ex 1 F) 110)) (yfL ng e f) 112;have b0:=aa (af w (.cells (ylA R D L G gr sz ex 1 F) 110)) (af _ (.cells (yfA ng e f) 112));rw[World.size_alloc] at m0
 go_enter func96,ntmps96
 go_wp2_with fail
 refine(HC.out _).mono ?_;rintro z w1 ⟨rfl,b1⟩
 go_wp2
 go_ret
 exact⟨rfl,aa b0 b1⟩
def lS (k c:Nat):Nat:=if k≤3 then(if c=3 then wrN k else if c=4 then wrN k|||gW k/2 else 0) else 0
theorem MQ (R D L G fam:Int)(gr:Bool)(sz ex:Nat)(F:Nat)(c:Int)(q3 q1 qf:Bool)(w:World)(h3:(c==3)=q3)(h1:(c==1)=q1)(hf:(fam != 3)=qf):yC 131 #[ylV R D L G gr sz ex fam F,yi c] w (yR w (.bool (q3||q1&&qf))):=by
 have hsf:=cD;have b0:=af w (.cells (ylA R D L G gr sz ex fam F) 110)
 cases q3<;>cases q1<;>cases qf
 all_goals go_enter func131,ntmps131
 all_goals go_wp2
 all_goals go_ret
 all_goals exact⟨rfl,b0⟩
theorem Qa (k c:Nat)(hk:1≤k∧k≤8)(hc:c=1∨c=3∨c=4∨c=5)(w:World):
  yC 131 #[.agg (tS k).toArray,yi c] w (yR w (.bool (Bk k c))):=by
 rcases bO hk with rfl|rfl|rfl|rfl|rfl|rfl|rfl|rfl
 all_goals rcases hc with rfl|rfl|rfl|rfl
 all_goals first
  |exact MQ _ _ _ _ _ _ _ _ _ _ _ _ true w rfl rfl rfl
  |exact MQ _ _ _ _ _ _ _ _ _ _ _ _ false w rfl rfl rfl
theorem P8 (R D L G fam:Int)(gr:Bool)(sz ex:Nat)(F:Nat)(c p:Int)(ng:Bool)(ao:Option Addr)(dn dc:Nat)(sg0:Bool)(se sf:Nat)(w:World)
  (HS:yJ 130 #[ylV R D L G gr sz ex fam F,yi c] (.tuple #[yfV sg0 se sf,.bool false])):
  yC 87 #[ylV R D L G gr sz ex fam F,yvV c ng (.slice ao dn dc) p] w (yR w (.tuple #[.string ⟨#[]⟩,yi 5])):=by
 have hsf:=cD;have bf:=af (w.alloc (.cells (ylA R D L G gr sz ex fam F) 110)) (.cells (yvA c ng (.slice ao dn dc) p) 48);have l0:=(ah w (ylL R D L G gr sz ex fam F) 110).l bf;have m0:=ah (w.alloc (.cells (ylA R D L G gr sz ex fam F) 110)) (yvL c ng (.slice ao dn dc) p) 48;have b0:=aa (af w (.cells (ylA R D L G gr sz ex fam F) 110)) bf;rw[World.size_alloc] at m0;have HS':Hid _:=HS;clear HS bf
 go_enter func87,ntmps87
 go_wp2_with fail
 refine(HS'.out _).mono ?_;rintro z w1 ⟨rfl,b1⟩;have bq:=af w1 (.cells (yfA sg0 se sf) 112);have l1:=(l0.l b1).l bq;have m1:=(m0.l b1).l bq;have q1:=ah w1 (yfL sg0 se sf) 112;have b01:=aa (aa b0 b1) bq;obtain⟨x0,x1,x2,x3,x4,x5,x6,x7,x8⟩:=l1.cs9;obtain⟨u0,u1,u2,u3⟩:=m1.cs4;obtain⟨s0,s1,s2⟩:=q1.cs3;clear l0 m0 b0 b1 bq HS'
 go_wp2
 go_ret2
 exact⟨rfl,b01⟩
theorem Kt (R D L G fam:Int)(gr:Bool)(sz ex:Nat)(F:Nat)(c p:Int)(ng:Bool)(ao:Option Addr)(dn dc:Nat)(sg0:Bool)(se sf:Nat)(w:World)
  (HS:yJ 130 #[ylV R D L G gr sz ex fam F,yi c] (.tuple #[yfV sg0 se sf,.bool true])) (hd:0<dn):
  yC 87 #[ylV R D L G gr sz ex fam F,yvV c ng (.slice ao dn dc) p] w (yR w (.tuple #[.string ⟨#[]⟩,yi 4])):=by
 have hdI:(0:Int)< (dn:Int):=by omega
 have hsf:=cD;have bf:=af (w.alloc (.cells (ylA R D L G gr sz ex fam F) 110)) (.cells (yvA c ng (.slice ao dn dc) p) 48);have l0:=(ah w (ylL R D L G gr sz ex fam F) 110).l bf;have m0:=ah (w.alloc (.cells (ylA R D L G gr sz ex fam F) 110)) (yvL c ng (.slice ao dn dc) p) 48;have b0:=aa (af w (.cells (ylA R D L G gr sz ex fam F) 110)) bf;rw[World.size_alloc] at m0;have HS':Hid _:=HS;clear HS bf
 go_enter func87,ntmps87
 go_wp2_with fail
 refine(HS'.out _).mono ?_;rintro z w1 ⟨rfl,b1⟩;have bq:=af w1 (.cells (yfA sg0 se sf) 112);have l1:=(l0.l b1).l bq;have m1:=(m0.l b1).l bq;have q1:=ah w1 (yfL sg0 se sf) 112;have b01:=aa (aa b0 b1) bq;obtain⟨x0,x1,x2,x3,x4,x5,x6,x7,x8⟩:=l1.cs9;obtain⟨u0,u1,u2,u3⟩:=m1.cs4;obtain⟨s0,s1,s2⟩:=q1.cs3;clear l0 m0 b0 b1 bq HS'
 go_wp2
 go_ret2
 exact⟨rfl,b01⟩
theorem MI (R D L G fam:Int)(gr:Bool)(sz ex:Nat)(F:Nat)(c p:Int)(ng:Bool)(ao:Option Addr)(dn dc:Nat)(sg0:Bool)(se sf:Nat)(w:World)
  (HS:yJ 130 #[ylV R D L G gr sz ex fam F,yi c] (.tuple #[yfV sg0 se sf,.bool true])) (hd:dn=0) (hp:p≠0):
  yC 87 #[ylV R D L G gr sz ex fam F,yvV c ng (.slice ao dn dc) p] w (yR w (.tuple #[.string ⟨#[]⟩,yi 4])):=by
 subst hd;have hpb:(p==0)=false:=by simpa using hp
 have hsf:=cD;have bf:=af (w.alloc (.cells (ylA R D L G gr sz ex fam F) 110)) (.cells (yvA c ng (.slice ao 0 dc) p) 48);have l0:=(ah w (ylL R D L G gr sz ex fam F) 110).l bf;have m0:=ah (w.alloc (.cells (ylA R D L G gr sz ex fam F) 110)) (yvL c ng (.slice ao 0 dc) p) 48;have b0:=aa (af w (.cells (ylA R D L G gr sz ex fam F) 110)) bf;rw[World.size_alloc] at m0;have HS':Hid _:=HS;clear HS bf
 go_enter func87,ntmps87
 go_wp2_with fail
 refine(HS'.out _).mono ?_;rintro z w1 ⟨rfl,b1⟩;have bq:=af w1 (.cells (yfA sg0 se sf) 112);have l1:=(l0.l b1).l bq;have m1:=(m0.l b1).l bq;have q1:=ah w1 (yfL sg0 se sf) 112;have b01:=aa (aa b0 b1) bq;obtain⟨x0,x1,x2,x3,x4,x5,x6,x7,x8⟩:=l1.cs9;obtain⟨u0,u1,u2,u3⟩:=m1.cs4;obtain⟨s0,s1,s2⟩:=q1.cs3;clear l0 m0 b0 b1 bq HS'
 go_wp2
 go_ret2
 exact⟨rfl,b01⟩
theorem P9 (R D L G fam:Int)(gr:Bool)(sz ex:Nat)(F:Nat)(c p:Int)(ng:Bool)(ao:Option Addr)(dn dc:Nat)(sg0:Bool)(se sf:Nat)(w:World)
  (HS:yJ 130 #[ylV R D L G gr sz ex fam F,yi c] (.tuple #[yfV sg0 se sf,.bool true]))
  (HG:yJ 131 #[ylV R D L G gr sz ex fam F,yi c] (.bool false)) (hd:dn=0) (hp:p=0) (hn:ng=true):
  yC 87 #[ylV R D L G gr sz ex fam F,yvV c ng (.slice ao dn dc) p] w (yR w (.tuple #[.string ⟨#[]⟩,yi 4])):=by
 subst hd hp hn;have HG':Hid _:=HG;have hsf:=cD;have bf:=af (w.alloc (.cells (ylA R D L G gr sz ex fam F) 110)) (.cells (yvA c true (.slice ao 0 dc) 0) 48);have l0:=(ah w (ylL R D L G gr sz ex fam F) 110).l bf;have m0:=ah (w.alloc (.cells (ylA R D L G gr sz ex fam F) 110)) (yvL c true (.slice ao 0 dc) 0) 48;have b0:=aa (af w (.cells (ylA R D L G gr sz ex fam F) 110)) bf;rw[World.size_alloc] at m0;have HS':Hid _:=HS;clear HS bf
 go_enter func87,ntmps87
 go_wp2_with fail
 refine(HS'.out _).mono ?_;rintro z w1 ⟨rfl,b1⟩;have bq:=af w1 (.cells (yfA sg0 se sf) 112);have l1:=(l0.l b1).l bq;have m1:=(m0.l b1).l bq;have q1:=ah w1 (yfL sg0 se sf) 112;have b01:=aa (aa b0 b1) bq;obtain⟨x0,x1,x2,x3,x4,x5,x6,x7,x8⟩:=l1.cs9;obtain⟨u0,u1,u2,u3⟩:=m1.cs4;obtain⟨s0,s1,s2⟩:=q1.cs3;clear l0 m0 b0 b1 bq HS'
 go_wp2_with fail
 refine(HG'.out _).mono ?_;rintro z w2 ⟨rfl,b2⟩;have l2:=l1.l b2;have m2:=m1.l b2;have q2:=q1.l b2;have b02:=aa b01 b2;clear l1 m1 q1 b01 b2 x0 x1 x2 x3 x4 x5 x6 x7 x8 u0 u1 u2 u3 s0 s1 s2;obtain⟨x0,x1,x2,x3,x4,x5,x6,x7,x8⟩:=l2.cs9;obtain⟨u0,u1,u2,u3⟩:=m2.cs4;obtain⟨s0,s1,s2⟩:=q2.cs3
 go_wp2
 go_ret2
 exact⟨rfl,b02⟩
theorem Ui (R D L G fam:Int)(gr:Bool)(sz ex:Nat)(F:Nat)(c p:Int)(ng:Bool)(ao:Option Addr)(dn dc:Nat)(sg0:Bool)(se sf:Nat)(w:World)
  (HS:yJ 130 #[ylV R D L G gr sz ex fam F,yi c] (.tuple #[yfV sg0 se sf,.bool true]))
  (st:ByteArray) (HW:yJ 132 #[ylV R D L G gr sz ex fam F,yfV (sg0||ng) se sf] (.string st)) (hd:dn=0) (hp:p=0) (hn:ng=false):
  yC 87 #[ylV R D L G gr sz ex fam F,yvV c ng (.slice ao dn dc) p] w (yR w (.tuple #[.string st,yi 0])):=by
 subst hd hp hn;have HW':Hid _:=HW;have hsf:=cD;have bf:=af (w.alloc (.cells (ylA R D L G gr sz ex fam F) 110)) (.cells (yvA c false (.slice ao 0 dc) 0) 48);have l0:=(ah w (ylL R D L G gr sz ex fam F) 110).l bf;have m0:=ah (w.alloc (.cells (ylA R D L G gr sz ex fam F) 110)) (yvL c false (.slice ao 0 dc) 0) 48;have b0:=aa (af w (.cells (ylA R D L G gr sz ex fam F) 110)) bf;rw[World.size_alloc] at m0;have HS':Hid _:=HS;clear HS bf
 go_enter func87,ntmps87
 go_wp2_with fail
 refine(HS'.out _).mono ?_;rintro z w1 ⟨rfl,b1⟩;have bq:=af w1 (.cells (yfA sg0 se sf) 112);have l1:=(l0.l b1).l bq;have m1:=(m0.l b1).l bq;have q1:=ah w1 (yfL sg0 se sf) 112;have b01:=aa (aa b0 b1) bq;obtain⟨x0,x1,x2,x3,x4,x5,x6,x7,x8⟩:=l1.cs9;obtain⟨u0,u1,u2,u3⟩:=m1.cs4;obtain⟨s0,s1,s2⟩:=q1.cs3;clear l0 m0 b0 b1 bq HS';clear HW
 cases sg0
 all_goals go_wp2_with fail
 all_goals (refine(HW'.out _).mono ?_;rintro z w3 ⟨rfl,b3⟩;go_wp2;go_ret2;exact⟨rfl,aa b01 b3⟩)
theorem Fx {k:Nat}(c:Nat)(hk:1≤k∧k≤8):lS k c<18446744073709551616:=by
 have h1:wrN k<2^64:=by rcases bO hk with rfl|rfl|rfl|rfl|rfl|rfl|rfl|rfl<;>decide
 have h2:gW k<2^64:=by rcases bO hk with rfl|rfl|rfl|rfl|rfl|rfl|rfl|rfl<;>decide
 unfold lS
 split
 ·split
  ·exact h1
  ·split
   ·exact Nat.or_lt_two_pow (n:=64) h1 (by omega)
   ·omega
 ·omega
theorem Re {k:Nat}(hk:1≤k∧k≤8):gW k<18446744073709551616:=by
 rcases bO hk with rfl|rfl|rfl|rfl|rfl|rfl|rfl|rfl<;>decide
theorem ab9 {k:Nat}(hk:1≤k∧k≤8){e:Nat}(he:e<65536): -100000≤ii k e∧ii k e≤100000:=by
 have h: -20000≤lsI k∧lsI k≤0:=by rcases bO hk with rfl|rfl|rfl|rfl|rfl|rfl|rfl|rfl<;>decide
 unfold ii
 split
 ·omega
 ·split<;>omega
theorem Q7 (R D L G fam:Int)(gr:Bool)(sz ex:Nat)(F:Nat)(c p:Int)(ng:Bool)(ao:Option Addr)(dn dc:Nat)(w:World)(hp:p< -20000):
  yC 86 #[ylV R D L G gr sz ex fam F,yvV c ng (.slice ao dn dc) p] w (yR w (.tuple #[.string ⟨#[]⟩,yi 3])):=by
 have hsf:=cD;have bv:=af (w.alloc (.cells (ylA R D L G gr sz ex fam F) 110)) (.cells (yvA c ng (.slice ao dn dc) p) 48);have l0:=(ah w (ylL R D L G gr sz ex fam F) 110).l bv;have m0:=ah (w.alloc (.cells (ylA R D L G gr sz ex fam F) 110)) (yvL c ng (.slice ao dn dc) p) 48;have b0:=aa (af w (.cells (ylA R D L G gr sz ex fam F) 110)) bv;rw[World.size_alloc] at m0;clear bv;obtain⟨x0,x1,x2,x3,x4,x5,x6,x7,x8⟩:=l0.cs9;obtain⟨u0,u1,u2,u3⟩:=m0.cs4
 go_enter func86,ntmps86
 go_wp2
 go_ret2
 exact⟨rfl,b0⟩
theorem NN (R D L G fam:Int)(gr:Bool)(sz ex:Nat)(F:Nat)(c p:Int)(ng:Bool)(ao:Option Addr)(dn dc:Nat)(w:World)(hp:20000<p):
  yC 86 #[ylV R D L G gr sz ex fam F,yvV c ng (.slice ao dn dc) p] w (yR w (.tuple #[.string ⟨#[]⟩,yi 3])):=by
 have hp1: ¬p< -20000:=by omega
 have hsf:=cD;have bv:=af (w.alloc (.cells (ylA R D L G gr sz ex fam F) 110)) (.cells (yvA c ng (.slice ao dn dc) p) 48);have l0:=(ah w (ylL R D L G gr sz ex fam F) 110).l bv;have m0:=ah (w.alloc (.cells (ylA R D L G gr sz ex fam F) 110)) (yvL c ng (.slice ao dn dc) p) 48;have b0:=aa (af w (.cells (ylA R D L G gr sz ex fam F) 110)) bv;rw[World.size_alloc] at m0;clear bv;obtain⟨x0,x1,x2,x3,x4,x5,x6,x7,x8⟩:=l0.cs9;obtain⟨u0,u1,u2,u3⟩:=m0.cs4
 go_enter func86,ntmps86
 go_wp2
 go_ret2
 exact⟨rfl,b0⟩
theorem KO (R D L G fam:Int)(gr:Bool)(sz ex:Nat)(F:Nat)(c p:Int)(ng:Bool)(ao:Option Addr)(dn dc:Nat)(w:World)(hpa: -20000≤p)(hpb:p≤20000)(hd:dn=0):
  yC 86 #[ylV R D L G gr sz ex fam F,yvV c ng (.slice ao dn dc) p] w (yR w (.tuple #[.string ⟨#[]⟩,yi 4])):=by
 subst hd;have hp1: ¬p< -20000:=by omega
 have hp2: ¬20000<p:=by omega
 have hsf:=cD;have bv:=af (w.alloc (.cells (ylA R D L G gr sz ex fam F) 110)) (.cells (yvA c ng (.slice ao 0 dc) p) 48);have l0:=(ah w (ylL R D L G gr sz ex fam F) 110).l bv;have m0:=ah (w.alloc (.cells (ylA R D L G gr sz ex fam F) 110)) (yvL c ng (.slice ao 0 dc) p) 48;have b0:=aa (af w (.cells (ylA R D L G gr sz ex fam F) 110)) bv;rw[World.size_alloc] at m0;clear bv;obtain⟨x0,x1,x2,x3,x4,x5,x6,x7,x8⟩:=l0.cs9;obtain⟨u0,u1,u2,u3⟩:=m0.cs4
 go_enter func86,ntmps86
 go_wp2
 go_ret2
 exact⟨rfl,b0⟩
theorem LX (n:Int)(c p:Int)(ng:Bool)(ao:Option Addr)(dn dc:Nat)(w:World)
  (HL:yJ 79 #[yi n] (.tuple #[yzV 0 0 0 0 false 0 0 0,yi 6])):
  yC 47 #[yi n,yvV c ng (.slice ao dn dc) p] w (yR w (.tuple #[.string ⟨#[]⟩,yi 6])):=by
 have hsf:=cD;have hsn:=gn;have m0:=ah w (yvL c ng (.slice ao dn dc) p) 48;have b0:=af w (.cells (yvA c ng (.slice ao dn dc) p) 48);have HL':Hid _:=HL;clear HL
 go_enter func47,ntmps47
 go_wp2_with fail
 refine(HL'.out _).mono ?_;rintro z w1 ⟨rfl,b1⟩;have bq:=af w1 (.cells (yzA 0 0 0 0 false 0 0 0) 110);have m1:=(m0.l b1).l bq;have q1:=ah w1 (yzL 0 0 0 0 false 0 0 0) 110;have b01:=aa (aa b0 b1) bq;obtain⟨u0,u1,u2,u3⟩:=m1.cs4;obtain⟨s0,s1,s2,s3,s4,s5,s6,s7,s8⟩:=q1.cs9;clear m0 b0 b1 bq HL'
 go_wp2
 go_ret2
 exact⟨rfl,b01⟩
theorem aaS (n:Int)(R D L G fam:Int)(gr:Bool)(sz ex:Nat)(F:Nat)(c p:Int)(ng:Bool)(ao:Option Addr)(dn dc:Nat)(w:World)
  (HL:yJ 79 #[yi n] (.tuple #[ylV R D L G gr sz ex fam F,yi 0])) (hc:c<1):
  yC 47 #[yi n,yvV c ng (.slice ao dn dc) p] w (yR w (.tuple #[.string ⟨#[]⟩,yi 6])):=by
 have hsf:=cD;have hsn:=gn;have m0:=ah w (yvL c ng (.slice ao dn dc) p) 48;have b0:=af w (.cells (yvA c ng (.slice ao dn dc) p) 48);have HL':Hid _:=HL;clear HL
 go_enter func47,ntmps47
 go_wp2_with fail
 refine(HL'.out _).mono ?_;rintro z w1 ⟨rfl,b1⟩;have bq:=af w1 (.cells (ylA R D L G gr sz ex fam F) 110);have m1:=(m0.l b1).l bq;have q1:=ah w1 (ylL R D L G gr sz ex fam F) 110;have b01:=aa (aa b0 b1) bq;obtain⟨u0,u1,u2,u3⟩:=m1.cs4;obtain⟨s0,s1,s2,s3,s4,s5,s6,s7,s8⟩:=q1.cs9;clear m0 b0 b1 bq HL'
 go_wp2
 go_ret2
 exact⟨rfl,b01⟩
theorem Xj (n:Int)(R D L G fam:Int)(gr:Bool)(sz ex:Nat)(F:Nat)(c p:Int)(ng:Bool)(ao:Option Addr)(dn dc:Nat)(w:World)
  (HL:yJ 79 #[yi n] (.tuple #[ylV R D L G gr sz ex fam F,yi 0])) (hc:5<c):
  yC 47 #[yi n,yvV c ng (.slice ao dn dc) p] w (yR w (.tuple #[.string ⟨#[]⟩,yi 6])):=by
 have hc1: ¬c<1:=by omega
 have hsf:=cD;have hsn:=gn;have m0:=ah w (yvL c ng (.slice ao dn dc) p) 48;have b0:=af w (.cells (yvA c ng (.slice ao dn dc) p) 48);have HL':Hid _:=HL;clear HL
 go_enter func47,ntmps47
 go_wp2_with fail
 refine(HL'.out _).mono ?_;rintro z w1 ⟨rfl,b1⟩;have bq:=af w1 (.cells (ylA R D L G gr sz ex fam F) 110);have m1:=(m0.l b1).l bq;have q1:=ah w1 (ylL R D L G gr sz ex fam F) 110;have b01:=aa (aa b0 b1) bq;obtain⟨u0,u1,u2,u3⟩:=m1.cs4;obtain⟨s0,s1,s2,s3,s4,s5,s6,s7,s8⟩:=q1.cs9;clear m0 b0 b1 bq HL'
 go_wp2
 go_ret2
 exact⟨rfl,b01⟩
theorem EF (n:Int)(R D L G fam:Int)(gr:Bool)(sz ex:Nat)(F:Nat)(c p:Int)(ng:Bool)(ao:Option Addr)(dn dc:Nat)(w:World)
  (HL:yJ 79 #[yi n] (.tuple #[ylV R D L G gr sz ex fam F,yi 0]))
  (nc:Int) (HN:yH w 69 #[.slice ao dn dc] (yi nc)) (h1:1≤c) (h5:c≤5) (hn:nc≠0):
  yC 47 #[yi n,yvV c ng (.slice ao dn dc) p] w (yR w (.tuple #[.string ⟨#[]⟩,yi nc])):=by
 have HN':Hid _:=HN;clear HN;have hc1: ¬c<1:=by omega
 have hc5: ¬5<c:=by omega
 have hnb:(nc==0)=false:=by simpa using hn
 clear hn;have hsf:=cD;have hsn:=gn;have m0:=ah w (yvL c ng (.slice ao dn dc) p) 48;have b0:=af w (.cells (yvA c ng (.slice ao dn dc) p) 48);have HL':Hid _:=HL;clear HL
 go_enter func47,ntmps47
 go_wp2_with fail
 refine(HL'.out _).mono ?_;rintro z w1 ⟨rfl,b1⟩;have bq:=af w1 (.cells (ylA R D L G gr sz ex fam F) 110);have m1:=(m0.l b1).l bq;have q1:=ah w1 (ylL R D L G gr sz ex fam F) 110;have b01:=aa (aa b0 b1) bq;obtain⟨u0,u1,u2,u3⟩:=m1.cs4;obtain⟨s0,s1,s2,s3,s4,s5,s6,s7,s8⟩:=q1.cs9;clear m0 b0 b1 bq HL'
 go_wp2_with fail
 refine(HN'.out _ b01).mono ?_;rintro z w2 ⟨rfl,b2⟩;have m2:=m1.l b2;have q2:=q1.l b2;have b02:=aa b01 b2;obtain⟨v0,v1,v2,v3⟩:=m2.cs4;obtain⟨t0,t1,t2,t3,t4,t5,t6,t7,t8⟩:=q2.cs9
 go_wp2
 go_ret2
 exact⟨rfl,b02⟩
theorem Ip (n:Int)(R D L G fam:Int)(gr:Bool)(sz ex:Nat)(F:Nat)(c p:Int)(ng:Bool)(ao:Option Addr)(dn dc:Nat)(w:World)
  (HL:yJ 79 #[yi n] (.tuple #[ylV R D L G gr sz ex fam F,yi 0]))
  (nc:Int) (HN:yH w 69 #[.slice ao dn dc] (yi nc))
  (st:ByteArray) (er:Int) (HO:yJ 87 #[ylV R D L G gr sz ex fam F,yvV c ng (.slice ao dn dc) p] (.tuple #[.string st,yi er])) (h1:1≤c) (h5:c≤5) (h2:c≠2) (hn:nc=0):
  yC 47 #[yi n,yvV c ng (.slice ao dn dc) p] w (yR w (.tuple #[.string st,yi er])):=by
 subst hn;have HN':Hid _:=HN;clear HN;have hc1: ¬c<1:=by omega
 have hc5: ¬5<c:=by omega
 have HO':Hid _:=HO;clear HO;have hcb:(c==2)=false:=by simpa using h2
 clear h2;have hsf:=cD;have hsn:=gn;have m0:=ah w (yvL c ng (.slice ao dn dc) p) 48;have b0:=af w (.cells (yvA c ng (.slice ao dn dc) p) 48);have HL':Hid _:=HL;clear HL
 go_enter func47,ntmps47
 go_wp2_with fail
 refine(HL'.out _).mono ?_;rintro z w1 ⟨rfl,b1⟩;have bq:=af w1 (.cells (ylA R D L G gr sz ex fam F) 110);have m1:=(m0.l b1).l bq;have q1:=ah w1 (ylL R D L G gr sz ex fam F) 110;have b01:=aa (aa b0 b1) bq;obtain⟨u0,u1,u2,u3⟩:=m1.cs4;obtain⟨s0,s1,s2,s3,s4,s5,s6,s7,s8⟩:=q1.cs9;clear m0 b0 b1 bq HL'
 go_wp2_with fail
 refine(HN'.out _ b01).mono ?_;rintro z w2 ⟨rfl,b2⟩;have m2:=m1.l b2;have q2:=q1.l b2;have b02:=aa b01 b2;obtain⟨v0,v1,v2,v3⟩:=m2.cs4;obtain⟨t0,t1,t2,t3,t4,t5,t6,t7,t8⟩:=q2.cs9
 go_wp2_with fail
 refine(HO'.out _).mono ?_;rintro z w3 ⟨rfl,b3⟩
 go_wp2
 go_ret2
 exact⟨rfl,aa b02 b3⟩
theorem QD (n:Int)(R D L G fam:Int)(gr:Bool)(sz ex:Nat)(F:Nat)(p:Int)(ng:Bool)(ao:Option Addr)(dn dc:Nat)(w:World)
  (HL:yJ 79 #[yi n] (.tuple #[ylV R D L G gr sz ex fam F,yi 0]))
  (nc:Int) (HN:yH w 69 #[.slice ao dn dc] (yi nc))
  (st:ByteArray) (er:Int) (HO:yH w 86 #[ylV R D L G gr sz ex fam F,yvV 2 ng (.slice ao dn dc) p] (.tuple #[.string st,yi er])) (hn:nc=0):
  yC 47 #[yi n,yvV 2 ng (.slice ao dn dc) p] w (yR w (.tuple #[.string st,yi er])):=by
 subst hn;have HN':Hid _:=HN;clear HN;have HO':Hid _:=HO;clear HO;have hsf:=cD;have hsn:=gn;have m0:=ah w (yvL 2 ng (.slice ao dn dc) p) 48;have b0:=af w (.cells (yvA 2 ng (.slice ao dn dc) p) 48);have HL':Hid _:=HL;clear HL
 go_enter func47,ntmps47
 go_wp2_with fail
 refine(HL'.out _).mono ?_;rintro z w1 ⟨rfl,b1⟩;have bq:=af w1 (.cells (ylA R D L G gr sz ex fam F) 110);have m1:=(m0.l b1).l bq;have q1:=ah w1 (ylL R D L G gr sz ex fam F) 110;have b01:=aa (aa b0 b1) bq;obtain⟨u0,u1,u2,u3⟩:=m1.cs4;obtain⟨s0,s1,s2,s3,s4,s5,s6,s7,s8⟩:=q1.cs9;clear m0 b0 b1 bq HL'
 go_wp2_with fail
 refine(HN'.out _ b01).mono ?_;rintro z w2 ⟨rfl,b2⟩;have m2:=m1.l b2;have q2:=q1.l b2;have b02:=aa b01 b2;obtain⟨v0,v1,v2,v3⟩:=m2.cs4;obtain⟨t0,t1,t2,t3,t4,t5,t6,t7,t8⟩:=q2.cs9
 go_wp2_with fail
 refine(HO'.out _ b02).mono ?_;rintro z w3 ⟨rfl,b3⟩
 go_wp2
 go_ret2
 exact⟨rfl,aa b02 b3⟩
theorem Vk (n:Int)(er:Int)(her:er≠0)(s:ByteArray)(w:World)
  (HR:yJ 53 #[yi n,.string s] (.tuple #[yzV 0 0 0 0 false 0 0 0,yfV false 0 0,yi er])):
  yC 51 #[yi n,.string s] w (yR w (.tuple #[yi 0,.bool false,yi er])):=by
 have hsn:=gn;have HR':Hid _:=HR;have he:(er==0)=false:=by simpa using her
 clear HR her
 go_enter func51,ntmps51
 go_wp2_with fail
 refine(HR'.out _).mono ?_;rintro z w1 ⟨rfl,b1⟩;have bl:=af w1 (.cells (yzA 0 0 0 0 false 0 0 0) 110);have bf:=af (w1.alloc (.cells (yzA 0 0 0 0 false 0 0 0) 110)) (.cells (yfA false 0 0) 112);have b0:=aa (aa b1 bl) bf
 go_wp2
 go_ret3
 exact⟨rfl,b0⟩
theorem Gk {X Y X' Y':Nat}(hY:0<Y)(hY':0<Y')(h:X*Y'=2*X'*Y):
  X'/Y'=X/Y/2∧(X' % Y'=0↔X/Y % 2=0∧X % Y=0)∧dm ((X' % Y'*2:Nat):Int) Y'=if X/Y % 2=1 then(if X % Y=0 then 0 else 1) else-1:=by
 obtain⟨q,hq⟩: ∃q,X/Y=q:=⟨_,rfl⟩;obtain⟨r,hr⟩: ∃r,X % Y=r:=⟨_,rfl⟩;have hX:X=Y*q+r:=by rw[←hq,←hr];exact(Nat.div_add_mod X Y).symm
 have hrY:r<Y:=by rw[←hr];exact Nat.mod_lt _ hY
 have hb:q % 2<2:=Nat.mod_lt _ (by omega);have hq2:q=2*(q/2)+q % 2:=(Nat.div_add_mod q 2).symm;generalize hA:q/2=a at hq2;generalize hB:q % 2=b at hq2 hb;have e1:2*X'*Y=(Y*(2*a+b)+r)*Y':=by rw[←h,hX,←hq2]
 have hlt:X'<Y'*(a+1):=by
  refine Nat.lt_of_mul_lt_mul_left (a:=2*Y) ?_;have e2:(Y*(2*a+b)+r)*Y'< (2*Y*(a+1))*Y':=by
   refine Nat.mul_lt_mul_of_pos_right ?_ hY';have:Y*(2*a+b)≤Y*(2*a+1):=Nat.mul_le_mul_left _ (by omega);have e3:2*Y*(a+1)=Y*(2*a+1)+Y:=by
    rw[Nat.mul_add,Nat.mul_add,Nat.mul_comm 2 Y,Nat.mul_assoc];omega
   omega
  calc 2*Y*X'=2*X'*Y:=by rw[Nat.mul_assoc,Nat.mul_comm Y X',Nat.mul_assoc]
   _< (2*Y*(a+1))*Y':=by rw[e1];exact e2
   _=2*Y*(Y'*(a+1)):=by rw[Nat.mul_assoc,Nat.mul_comm (a+1) Y']
 have hge:Y'*a≤X':=by
  refine Nat.le_of_mul_le_mul_left (show 2*Y*(Y'*a)≤2*Y*X' from ?_) (by omega)
  have c1:2*Y*(Y'*a)=(Y*(2*a))*Y':=by rw[Nat.mul_comm Y' a,←Nat.mul_assoc,Nat.mul_comm 2 Y,Nat.mul_assoc Y 2 a]
  have c2:Y*(2*a)≤Y*(2*a+b)+r:=Nat.le_trans (Nat.mul_le_mul_left _ (by omega)) (Nat.le_add_right _ _);have c3:(Y*(2*a+b)+r)*Y'=2*Y*X':=by rw[←e1,Nat.mul_assoc,Nat.mul_comm X' Y,Nat.mul_assoc]
  rw[c1,←c3];exact Nat.mul_le_mul_right _ c2
 have hd:X'/Y'=a:=Nat.div_eq_of_lt_le (by rw[Nat.mul_comm];exact hge) (by rw[Nat.mul_comm];exact hlt);obtain⟨r',hr'⟩: ∃r',X' % Y'=r':=⟨_,rfl⟩;have hX':X'=Y'*a+r':=by rw[←hd,←hr'];exact(Nat.div_add_mod X' Y').symm
 have hr'Y:r'<Y':=by rw[←hr'];exact Nat.mod_lt _ hY'
 have e4:2*r'*Y=(b*Y+r)*Y':=by
  have e5:2*(Y'*a+r')*Y=(Y*(2*a+b)+r)*Y':=by rw[←hX'];exact e1
  have e6:2*(Y'*a+r')*Y=2*Y'*a*Y+2*r'*Y:=by rw[Nat.mul_add,Nat.add_mul,←Nat.mul_assoc]
  have e7:(Y*(2*a+b)+r)*Y'=2*Y'*a*Y+(b*Y+r)*Y':=by
   rw[Nat.mul_add,Nat.add_assoc,Nat.add_mul,Nat.mul_comm Y b]
   congr 1
   rw[Nat.mul_comm Y (2*a),Nat.mul_assoc,Nat.mul_comm Y Y',←Nat.mul_assoc,Nat.mul_assoc 2 a Y',Nat.mul_comm a Y',←Nat.mul_assoc]
  omega
 rw[hq,hr,hd,hr',hA,hB];have hb01:b=0∨b=1:=by omega
 refine⟨rfl, ?_, ?_⟩
 ·constructor
  ·intro h0
   subst h0;have:(b*Y+r)*Y'=0:=by rw[←e4];simp
   have h2:b*Y+r=0:=by
    rcases Nat.mul_eq_zero.1 this with h|h
    ·exact h
    ·omega
   rcases hb01 with rfl|rfl
   ·exact⟨rfl,by omega⟩
   ·omega
  ·rintro⟨rfl,rfl⟩
   have:2*r'*Y=0:=by rw[e4];simp
   rcases Nat.mul_eq_zero.1 this with h|h<;>omega
 ·unfold dm
  rcases hb01 with rfl|rfl
  ·rw[if_neg (show¬(0:Nat)=1 by omega)]
   have:r'*2<Y':=by
    refine Nat.lt_of_mul_lt_mul_right (a:=Y) ?_;rw[Nat.mul_comm r' 2,e4,Nat.zero_mul,Nat.zero_add,Nat.mul_comm Y' Y];exact Nat.mul_lt_mul_of_pos_right hrY hY'
   rw[if_pos (by omega)]
  ·rw[if_pos (show(1:Nat)=1 from rfl)]
   rw[Nat.one_mul] at e4
   by_cases h0:r=0
   ·rw[if_pos h0]
    subst h0;have:r'*2=Y':=by
     refine Nat.eq_of_mul_eq_mul_right hY ?_;rw[Nat.mul_comm r' 2,e4,Nat.add_zero,Nat.mul_comm]
    rw[if_neg (by omega),if_neg (by omega)]
   ·rw[if_neg h0]
    have:Y'<r'*2:=by
     refine Nat.lt_of_mul_lt_mul_right (a:=Y) ?_;rw[Nat.mul_comm r' 2,e4,Nat.mul_comm Y' Y];exact Nat.mul_lt_mul_of_pos_right (by omega) hY'
    rw[if_neg (by omega),if_pos (by omega)]
theorem Zv {J:Int}{N1 M1 N2 M2:Nat}{E1 E2:Int}(n1:N1≠0)(m1:M1≠0)(n2:N2≠0)(m2:M2≠0)(h:ut J N1 M1 E1 N2 M2 E2)(hJ:J≤dY N1 M1 E1):dY N1 M1 E1=dY N2 M2 E2:=by
 have key: ∀{N M:Nat} {E:Int} (i:Int),N≠0→M≠0→(1≤eZ N (E-i)/dX M (E-i)↔i≤dY N M E):=fun {N M E} i hN hM=>by
  have:=BD N M (E-i) 0 hN hM;rw[qD N M E];rw[Nat.pow_zero] at this
  constructor
  ·intro g;have:=this.1 g;omega
  ·intro g;exact this.2 (by omega)
 have a1:=(key (E:=E1) (dY N1 M1 E1) n1 m1).2 (Int.le_refl _);have a2:=fun g=>(key (E:=E1) (dY N1 M1 E1+1) n1 m1).1 g
 rw[(h _ hJ).1] at a1;have b1:=(key (E:=E2) _ n2 m2).1 a1;have b2: ¬dY N1 M1 E1+1≤dY N2 M2 E2:=fun g=>by
  have:=(key (E:=E2) _ n2 m2).2 g;rw[←(h _ (by omega)).1] at this;have:=a2 this;omega
 omega
theorem qG {X1 Y1 X2 Y2:Nat}(h1:0<Y1)(h2:0<Y2)(h:X1*Y2=X2*Y1):X1/Y1=X2/Y2∧(X1 % Y1=0↔X2 % Y2=0):=by
 have key: ∀{X1 Y1 X2 Y2:Nat},0<Y1→0<Y2→X1*Y2=X2*Y1→X2/Y2≤X1/Y1∧(X2 % Y2=0→X1 % Y1=0):=fun {X1 Y1 X2 Y2} h1 h2 h=>by
  refine⟨?_,fun g=> ?_⟩
  ·refine(Nat.le_div_iff_mul_le h1).2 ?_
   refine Nat.le_of_mul_le_mul_right ?_ h2;rw[h,Nat.mul_assoc,Nat.mul_comm Y1 Y2,←Nat.mul_assoc];exact Nat.mul_le_mul_right _ (Nat.div_mul_le_self X2 Y2)
  ·obtain⟨k,hk⟩:=Nat.dvd_of_mod_eq_zero g
   have:X1=Y1*k:=by
    refine Nat.eq_of_mul_eq_mul_right h2 ?_;rw[h,hk,Nat.mul_assoc,Nat.mul_comm k Y1,Nat.mul_comm Y2,Nat.mul_assoc]
   rw[this];exact Nat.mul_mod_right _ _
 have a:=key h1 h2 h;have b:=key h2 h1 h.symm;exact⟨Nat.le_antisymm b.1 a.1,b.2,a.2⟩
theorem FC {n k:Nat}(h:n≠0):2^k∣n↔k≤tz n:=by
 obtain⟨m,hm⟩:=fO h
 constructor
 ·intro hd
  by_cases g:k≤tz n
  ·exact g
  exfalso
  obtain⟨c,hc⟩:=hd;have e:2^k=2^tz n*(2*2^ (k-tz n-1)):=by
   rw[←Nat.pow_succ',←Nat.pow_add]
   congr 1
   omega
  have h2:2^tz n*(2*m+1)=2^tz n*(2*(2^ (k-tz n-1)*c)):=by
   refine hm.symm.trans (hc.trans ?_);rw[e,Nat.mul_assoc,Nat.mul_assoc]
  have:=Nat.eq_of_mul_eq_mul_left (bG (tz n)) h2;omega
 ·intro g
  refine⟨2^ (tz n-k)*(2*m+1), ?_⟩;rw[←Nat.mul_assoc,←Nat.pow_add,show k+(tz n-k)=tz n from by omega]
  exact hm
theorem atoi_dig (z:ByteArray)(h:digB z=true):Lib.atoi z.data.toList=some ((pv z z.size:Nat):Int):=by
 obtain⟨h0,hd⟩:=(digB_iff z).1 h;have hlen:z.data.toList.length=z.size:=Array.length_toList;have hget: ∀k,k<z.size→ ∃b,z.data.toList[k]? =some b∧b.toNat=byt z k:=fun k hk=>by
  refine⟨z[k], ?_,KD z k hk⟩;rw[List.getElem?_eq_getElem (by rw[hlen];exact hk),Array.getElem_toList];rfl
 have hk: ∀k,k≤z.size→Lib.decFrom 0 (z.data.toList.take k)=some (pv z k):=by
  intro k
  induction k with
  |zero=>intro _;rfl
  |succ k ih=>
   intro hk;obtain⟨b,e1,e2⟩:=hget k (by omega);have hb:=hd k (by omega);exact Lib.decFrom_take _ k 0 (pv z k) b _ (ih (by omega)) e1 (by
    unfold Lib.digitVal;rw[if_pos (by rw[e2];exact hb),e2])
 have ht:=hk z.size (Nat.le_refl _);rw[←hlen,List.take_length,hlen] at ht;obtain⟨b0,e1,e2⟩:=hget 0 (by omega);have hb:=hd 0 (by omega);rw[←e2] at hb
 cases hl:z.data.toList with
 |nil=>rw[hl] at hlen;exact absurd hlen.symm h0
 |cons b r=>
  rw[hl] at ht e1;obtain rfl:b=b0:=by simpa using e1
  have n1:(b==45)=false:=by
   rw[beq_eq_false_iff_ne];rintro rfl;exact absurd hb.1 (by decide)
  have n2:(b==43)=false:=by
   rw[beq_eq_false_iff_ne];rintro rfl;exact absurd hb.1 (by decide)
  show(if(b==45)=true then Option.map (fun(m:Nat)=> -(m:Int)) (Lib.decNat r) else if(b==43)=true then Option.map (fun(m:Nat)=>(m:Int)) (Lib.decNat r) else Option.map (fun(m:Nat)=>(m:Int)) (Lib.decNat (b::r)))=_
  rw[n1,n2,if_neg (by decide),if_neg (by decide)];unfold Lib.decNat;rw[if_neg (by simp),ht];rfl
theorem readPower_any (a:ByteArray)(w:World):yC 104 #[.string a] w (yR w (.tuple #[yi (rpV a).1,.bool (rpV a).2])):=by
 have HC:=fun w1=>prefix_any a ⟨#[45]⟩ w1
 unfold rpV
 by_cases h5:(undash a).size≤5
 rotate_left
 ·rw[if_neg (fun c=>h5 c.1)]
  exact tpower_long a (undash a) (dash a) w (by omega) HC
 have HD:=fun w1=>tdecimals_any (undash a) w1 (by omega)
 cases hd:digB (undash a)
 ·rw[if_neg (fun c=>by cases c.2)]
  rw[hd] at HD;exact tpower_no a (undash a) (dash a) w h5 HC HD
 ·rw[if_pos ⟨h5,rfl⟩]
  rw[hd] at HD;have HA:=fun w1=>atoi_any (undash a) _ w1 (by omega) (atoi_dig _ hd)
  have hp:=Tb (undash a) ((digB_iff _).1 hd).2 _ (Nat.le_refl _);have hp5:10^ (undash a).size≤10^5:=Nat.pow_le_pow_right (by omega) h5
  cases hg:dash a
  ·rw[if_neg (by decide)]
   have e:Lib.hasPrefix a.data.toList [45]=false:=hg;exact tpower_plus a (undash a) _ w h5 (fun w1=>by
    have:=HC w1;rw[show(⟨#[45]⟩:ByteArray).data.toList=[45] from rfl,e] at this
    exact this) HD HA
  ·rw[if_pos rfl]
   have e:Lib.hasPrefix a.data.toList [45]=true:=hg;exact tpower_minus a (undash a) _ _ w h5 (IntWalk.i64_in _ ⟨by omega,by omega⟩) (fun w1=>by
    have:=HC w1;rw[show(⟨#[45]⟩:ByteArray).data.toList=[45] from rfl,e] at this
    exact this) HD HA
end Go.Proofs.YtlgkfdcmokchgaaGreatDoor
