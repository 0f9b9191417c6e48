/-
  Texts laid together: Co21, Ce1.
-/
import Derived.Test.YtpainhklfoaniaaGreatDoorSc17
import Derived.Test.YtpainhklfoaniaaGreatDoorSc18
set_option maxRecDepth 100000
set_option maxHeartbeats 3200000
namespace Go.Proofs.YtpainhklfoaniaaGreatDoor
open _root_.Go.Proofs.Tryz
open Go.RowKit
theorem P8 (R D L G fam:Int)(gr:Bool)(sz ex:Nat)(F:Nat)(c p:Int)(ng:Bool)(ao:Option Addr)(dn dc:Nat)(sg0:Bool)(se sf:Nat)(w:World)
  (HS:yJ 100 #[ylV R D L G gr sz ex fam F,yi c] (.tuple #[yfV sg0 se sf,.bool false])):
  yC 73 #[ylV R D L G gr sz ex fam F,yvV c ng (.slice ao dn dc) p] w (yR w (.tuple #[.string ⟨#[]⟩,yi 5])):=by
 have hsf:=cD;have bf:=af (w.alloc (.cells (ylA R D L G gr sz ex fam F) 131)) (.cells (yvA c ng (.slice ao dn dc) p) 77);have l0:=(ah w (ylL R D L G gr sz ex fam F) 131).l bf;have m0:=ah (w.alloc (.cells (ylA R D L G gr sz ex fam F) 131)) (yvL c ng (.slice ao dn dc) p) 77;have b0:=aa (af w (.cells (ylA R D L G gr sz ex fam F) 131)) bf;rw[World.size_alloc] at m0;have HS':Hid _:=HS;clear HS bf
 go_enter func73,ntmps73
 go_wp2_with fail
 refine(HS'.out _).mono ?_;rintro z w1 ⟨rfl,b1⟩;have bq:=af w1 (.cells (yfA sg0 se sf) 133);have l1:=(l0.l b1).l bq;have m1:=(m0.l b1).l bq;have q1:=ah w1 (yfL sg0 se sf) 133;have b01:=aa (aa b0 b1) bq;obtain⟨x0,x1,x2,x3,x4,x5,x6,x7,x8⟩:=l1.cs9;obtain⟨u0,u1,u2,u3⟩:=m1.cs4;obtain⟨s0,s1,s2⟩:=q1.cs3;clear l0 m0 b0 b1 bq HS'
 go_wp2
 go_ret2
 exact⟨rfl,b01⟩
theorem Kt (R D L G fam:Int)(gr:Bool)(sz ex:Nat)(F:Nat)(c p:Int)(ng:Bool)(ao:Option Addr)(dn dc:Nat)(sg0:Bool)(se sf:Nat)(w:World)
  (HS:yJ 100 #[ylV R D L G gr sz ex fam F,yi c] (.tuple #[yfV sg0 se sf,.bool true])) (hd:0<dn):
  yC 73 #[ylV R D L G gr sz ex fam F,yvV c ng (.slice ao dn dc) p] w (yR w (.tuple #[.string ⟨#[]⟩,yi 4])):=by
 have hdI:(0:Int)< (dn:Int):=by omega
 have hsf:=cD;have bf:=af (w.alloc (.cells (ylA R D L G gr sz ex fam F) 131)) (.cells (yvA c ng (.slice ao dn dc) p) 77);have l0:=(ah w (ylL R D L G gr sz ex fam F) 131).l bf;have m0:=ah (w.alloc (.cells (ylA R D L G gr sz ex fam F) 131)) (yvL c ng (.slice ao dn dc) p) 77;have b0:=aa (af w (.cells (ylA R D L G gr sz ex fam F) 131)) bf;rw[World.size_alloc] at m0;have HS':Hid _:=HS;clear HS bf
 go_enter func73,ntmps73
 go_wp2_with fail
 refine(HS'.out _).mono ?_;rintro z w1 ⟨rfl,b1⟩;have bq:=af w1 (.cells (yfA sg0 se sf) 133);have l1:=(l0.l b1).l bq;have m1:=(m0.l b1).l bq;have q1:=ah w1 (yfL sg0 se sf) 133;have b01:=aa (aa b0 b1) bq;obtain⟨x0,x1,x2,x3,x4,x5,x6,x7,x8⟩:=l1.cs9;obtain⟨u0,u1,u2,u3⟩:=m1.cs4;obtain⟨s0,s1,s2⟩:=q1.cs3;clear l0 m0 b0 b1 bq HS'
 go_wp2
 go_ret2
 exact⟨rfl,b01⟩
theorem MI (R D L G fam:Int)(gr:Bool)(sz ex:Nat)(F:Nat)(c p:Int)(ng:Bool)(ao:Option Addr)(dn dc:Nat)(sg0:Bool)(se sf:Nat)(w:World)
  (HS:yJ 100 #[ylV R D L G gr sz ex fam F,yi c] (.tuple #[yfV sg0 se sf,.bool true])) (hd:dn=0) (hp:p≠0):
  yC 73 #[ylV R D L G gr sz ex fam F,yvV c ng (.slice ao dn dc) p] w (yR w (.tuple #[.string ⟨#[]⟩,yi 4])):=by
 subst hd;have hpb:(p==0)=false:=by simpa using hp
 have hsf:=cD;have bf:=af (w.alloc (.cells (ylA R D L G gr sz ex fam F) 131)) (.cells (yvA c ng (.slice ao 0 dc) p) 77);have l0:=(ah w (ylL R D L G gr sz ex fam F) 131).l bf;have m0:=ah (w.alloc (.cells (ylA R D L G gr sz ex fam F) 131)) (yvL c ng (.slice ao 0 dc) p) 77;have b0:=aa (af w (.cells (ylA R D L G gr sz ex fam F) 131)) bf;rw[World.size_alloc] at m0;have HS':Hid _:=HS;clear HS bf
 go_enter func73,ntmps73
 go_wp2_with fail
 refine(HS'.out _).mono ?_;rintro z w1 ⟨rfl,b1⟩;have bq:=af w1 (.cells (yfA sg0 se sf) 133);have l1:=(l0.l b1).l bq;have m1:=(m0.l b1).l bq;have q1:=ah w1 (yfL sg0 se sf) 133;have b01:=aa (aa b0 b1) bq;obtain⟨x0,x1,x2,x3,x4,x5,x6,x7,x8⟩:=l1.cs9;obtain⟨u0,u1,u2,u3⟩:=m1.cs4;obtain⟨s0,s1,s2⟩:=q1.cs3;clear l0 m0 b0 b1 bq HS'
 go_wp2
 go_ret2
 exact⟨rfl,b01⟩
theorem P9 (R D L G fam:Int)(gr:Bool)(sz ex:Nat)(F:Nat)(c p:Int)(ng:Bool)(ao:Option Addr)(dn dc:Nat)(sg0:Bool)(se sf:Nat)(w:World)
  (HS:yJ 100 #[ylV R D L G gr sz ex fam F,yi c] (.tuple #[yfV sg0 se sf,.bool true]))
  (HG:yJ 101 #[ylV R D L G gr sz ex fam F,yi c] (.bool false)) (hd:dn=0) (hp:p=0) (hn:ng=true):
  yC 73 #[ylV R D L G gr sz ex fam F,yvV c ng (.slice ao dn dc) p] w (yR w (.tuple #[.string ⟨#[]⟩,yi 4])):=by
 subst hd hp hn;have HG':Hid _:=HG;have hsf:=cD;have bf:=af (w.alloc (.cells (ylA R D L G gr sz ex fam F) 131)) (.cells (yvA c true (.slice ao 0 dc) 0) 77);have l0:=(ah w (ylL R D L G gr sz ex fam F) 131).l bf;have m0:=ah (w.alloc (.cells (ylA R D L G gr sz ex fam F) 131)) (yvL c true (.slice ao 0 dc) 0) 77;have b0:=aa (af w (.cells (ylA R D L G gr sz ex fam F) 131)) bf;rw[World.size_alloc] at m0;have HS':Hid _:=HS;clear HS bf
 go_enter func73,ntmps73
 go_wp2_with fail
 refine(HS'.out _).mono ?_;rintro z w1 ⟨rfl,b1⟩;have bq:=af w1 (.cells (yfA sg0 se sf) 133);have l1:=(l0.l b1).l bq;have m1:=(m0.l b1).l bq;have q1:=ah w1 (yfL sg0 se sf) 133;have b01:=aa (aa b0 b1) bq;obtain⟨x0,x1,x2,x3,x4,x5,x6,x7,x8⟩:=l1.cs9;obtain⟨u0,u1,u2,u3⟩:=m1.cs4;obtain⟨s0,s1,s2⟩:=q1.cs3;clear l0 m0 b0 b1 bq HS'
 go_wp2_with fail
 refine(HG'.out _).mono ?_;rintro z w2 ⟨rfl,b2⟩;have l2:=l1.l b2;have m2:=m1.l b2;have q2:=q1.l b2;have b02:=aa b01 b2;clear l1 m1 q1 b01 b2 x0 x1 x2 x3 x4 x5 x6 x7 x8 u0 u1 u2 u3 s0 s1 s2;obtain⟨x0,x1,x2,x3,x4,x5,x6,x7,x8⟩:=l2.cs9;obtain⟨u0,u1,u2,u3⟩:=m2.cs4;obtain⟨s0,s1,s2⟩:=q2.cs3
 go_wp2
 go_ret2
 exact⟨rfl,b02⟩
theorem Ui (R D L G fam:Int)(gr:Bool)(sz ex:Nat)(F:Nat)(c p:Int)(ng:Bool)(ao:Option Addr)(dn dc:Nat)(sg0:Bool)(se sf:Nat)(w:World)
  (HS:yJ 100 #[ylV R D L G gr sz ex fam F,yi c] (.tuple #[yfV sg0 se sf,.bool true]))
  (st:ByteArray) (HW:yJ 102 #[ylV R D L G gr sz ex fam F,yfV (sg0||ng) se sf] (.string st)) (hd:dn=0) (hp:p=0) (hn:ng=false):
  yC 73 #[ylV R D L G gr sz ex fam F,yvV c ng (.slice ao dn dc) p] w (yR w (.tuple #[.string st,yi 0])):=by
 subst hd hp hn;have HW':Hid _:=HW;have hsf:=cD;have bf:=af (w.alloc (.cells (ylA R D L G gr sz ex fam F) 131)) (.cells (yvA c false (.slice ao 0 dc) 0) 77);have l0:=(ah w (ylL R D L G gr sz ex fam F) 131).l bf;have m0:=ah (w.alloc (.cells (ylA R D L G gr sz ex fam F) 131)) (yvL c false (.slice ao 0 dc) 0) 77;have b0:=aa (af w (.cells (ylA R D L G gr sz ex fam F) 131)) bf;rw[World.size_alloc] at m0;have HS':Hid _:=HS;clear HS bf
 go_enter func73,ntmps73
 go_wp2_with fail
 refine(HS'.out _).mono ?_;rintro z w1 ⟨rfl,b1⟩;have bq:=af w1 (.cells (yfA sg0 se sf) 133);have l1:=(l0.l b1).l bq;have m1:=(m0.l b1).l bq;have q1:=ah w1 (yfL sg0 se sf) 133;have b01:=aa (aa b0 b1) bq;obtain⟨x0,x1,x2,x3,x4,x5,x6,x7,x8⟩:=l1.cs9;obtain⟨u0,u1,u2,u3⟩:=m1.cs4;obtain⟨s0,s1,s2⟩:=q1.cs3;clear l0 m0 b0 b1 bq HS';clear HW
 cases sg0
 all_goals go_wp2_with fail
 all_goals (refine(HW'.out _).mono ?_;rintro z w3 ⟨rfl,b3⟩;go_wp2;go_ret2;exact⟨rfl,aa b01 b3⟩)
theorem Uj (R D L G fam:Int)(gr:Bool)(sz ex:Nat)(F:Nat)(c p:Int)(ng:Bool)(ao:Option Addr)(dn dc:Nat)(sg0:Bool)(se sf:Nat)(w:World)
  (HS:yJ 100 #[ylV R D L G gr sz ex fam F,yi c] (.tuple #[yfV sg0 se sf,.bool true]))
  (HG:yJ 101 #[ylV R D L G gr sz ex fam F,yi c] (.bool true))
  (st:ByteArray) (HW:yJ 102 #[ylV R D L G gr sz ex fam F,yfV (sg0||ng) se sf] (.string st)) (hd:dn=0) (hp:p=0) (hn:ng=true):
  yC 73 #[ylV R D L G gr sz ex fam F,yvV c ng (.slice ao dn dc) p] w (yR w (.tuple #[.string st,yi 0])):=by
 subst hd hp hn;have HG':Hid _:=HG;have HW':Hid _:=HW;have hsf:=cD;have bf:=af (w.alloc (.cells (ylA R D L G gr sz ex fam F) 131)) (.cells (yvA c true (.slice ao 0 dc) 0) 77);have l0:=(ah w (ylL R D L G gr sz ex fam F) 131).l bf;have m0:=ah (w.alloc (.cells (ylA R D L G gr sz ex fam F) 131)) (yvL c true (.slice ao 0 dc) 0) 77;have b0:=aa (af w (.cells (ylA R D L G gr sz ex fam F) 131)) bf;rw[World.size_alloc] at m0;have HS':Hid _:=HS;clear HS bf
 go_enter func73,ntmps73
 go_wp2_with fail
 refine(HS'.out _).mono ?_;rintro z w1 ⟨rfl,b1⟩;have bq:=af w1 (.cells (yfA sg0 se sf) 133);have l1:=(l0.l b1).l bq;have m1:=(m0.l b1).l bq;have q1:=ah w1 (yfL sg0 se sf) 133;have b01:=aa (aa b0 b1) bq;obtain⟨x0,x1,x2,x3,x4,x5,x6,x7,x8⟩:=l1.cs9;obtain⟨u0,u1,u2,u3⟩:=m1.cs4;obtain⟨s0,s1,s2⟩:=q1.cs3;have hlw:w.heap.size<w1.heap.size:=(l0.l b1).lt;clear l0 m0 b0 b1 bq HS'
 go_wp2_with fail
 refine(HG'.out _).mono ?_;rintro z w2 ⟨rfl,b2⟩;have l2:=l1.l b2;have m2:=m1.l b2;have q2:=q1.l b2;have b02:=aa b01 b2;clear l1 m1 q1 b01 b2 x0 x1 x2 x3 x4 x5 x6 x7 x8 u0 u1 u2 u3 s0 s1 s2;obtain⟨x0,x1,x2,x3,x4,x5,x6,x7,x8⟩:=l2.cs9;obtain⟨u0,u1,u2,u3⟩:=m2.cs4;obtain⟨s0,s1,s2⟩:=q2.cs3;have k0:=q2.f 0;have hne0:w1.heap.size≠w.heap.size:=Nat.ne_of_gt hlw;have b03:=(ag _ w1.heap.size 0 (.bool true)).below b02 (Nat.le_of_lt hlw);clear HW HG
 cases sg0
 all_goals go_wp2_with fail
 all_goals (refine(HW'.out _).mono ?_;rintro z w3 ⟨rfl,b3⟩;go_wp2;go_ret2;exact⟨rfl,aa b03 b3⟩)
def qX (k c dn:Nat)(ng:Bool)(p:Int):Int:=if iR k c=false then 5 else if 0<dn∨p≠0∨ng=true∧Bk k c=false then 4 else 0
def Fv (k c dn:Nat)(ng:Bool)(p:Int):ByteArray:=if qX k c dn ng p=0 then cF (kU k (pI k c||ng) (pg k c) (lS k c)) else⟨#[]⟩
theorem Fw {k:Nat}(c:Nat)(hk:1≤k∧k≤8):pg k c<65536:=by
 have h:kp k<65536:=by rcases bO hk with rfl|rfl|rfl|rfl|rfl|rfl|rfl|rfl<;>decide
 unfold pg
 split<;>omega
theorem Fx {k:Nat}(c:Nat)(hk:1≤k∧k≤8):lS k c<18446744073709551616:=by
 have h1:wrN k<2^64:=by rcases bO hk with rfl|rfl|rfl|rfl|rfl|rfl|rfl|rfl<;>decide
 have h2:gW k<2^64:=by rcases bO hk with rfl|rfl|rfl|rfl|rfl|rfl|rfl|rfl<;>decide
 unfold lS
 split
 ·split
  ·exact h1
  ·split
   ·exact Nat.or_lt_two_pow (n:=64) h1 (by omega)
   ·omega
 ·omega
theorem wE (k c:Nat)(hk:1≤k∧k≤8)(hc:c=1∨c=3∨c=4∨c=5)(ng:Bool)(ao:Option Addr)(dn dc:Nat)(p:Int)(w:World):
  yC 73 #[.agg (tS k).toArray,yvV c ng (.slice ao dn dc) p] w (yR w (.tuple #[.string (Fv k c dn ng p),yi (qX k c dn ng p)])):=by
 have HS:=fun w1=>MP k c hk hc w1
 have HG:=fun w1=>Qa k c hk hc w1
 have HW:=fun w1=>Aq k hk (pI k c||ng) (pg k c) (lS k c) w1 (Fw c hk) (Fx c hk)
 have key: ∀er,qX k c dn ng p=er→Fv k c dn ng p=if er=0 then cF (kU k (pI k c||ng) (pg k c) (lS k c)) else⟨#[]⟩:=fun er h=>by unfold Fv;rw[h]
 by_cases hok:iR k c=false
 ·have hE:qX k c dn ng p=5:=by unfold qX;rw[if_pos hok]
  rw[key 5 hE,hE,if_neg (by omega)];rw[hok] at HS;generalize pI k c=sg0 at*;generalize pg k c=se at*;generalize lS k c=sf at*;clear HG HW key hE hok
  rcases bO hk with rfl|rfl|rfl|rfl|rfl|rfl|rfl|rfl
  all_goals exact P8 _ _ _ _ _ _ _ _ _ _ p ng ao dn dc sg0 se sf w HS
 ·have hok':iR k c=true:=by simpa using hok
  rw[hok'] at HS
  by_cases h1:0<dn
  ·have hE:qX k c dn ng p=4:=by unfold qX;rw[if_neg hok,if_pos (.inl h1)]
   rw[key 4 hE,hE,if_neg (by omega)];generalize pI k c=sg0 at*;generalize pg k c=se at*;generalize lS k c=sf at*;clear HG HW key hE hok hok'
   rcases bO hk with rfl|rfl|rfl|rfl|rfl|rfl|rfl|rfl
   all_goals exact Kt _ _ _ _ _ _ _ _ _ _ p ng ao dn dc sg0 se sf w HS h1
  ·have hd:dn=0:=by omega
   by_cases h2:p=0
   ·by_cases h3:ng=true∧Bk k c=false
    ·have hE:qX k c dn ng p=4:=by unfold qX;rw[if_neg hok,if_pos (.inr (.inr h3))]
     rw[key 4 hE,hE,if_neg (by omega)];rw[h3.2] at HG;have hng:=h3.1;generalize pI k c=sg0 at*;generalize pg k c=se at*;generalize lS k c=sf at*;clear HW key hE hok hok' h3
     rcases bO hk with rfl|rfl|rfl|rfl|rfl|rfl|rfl|rfl
     all_goals exact P9 _ _ _ _ _ _ _ _ _ _ p ng ao dn dc sg0 se sf w HS HG hd h2 hng
    ·have hE:qX k c dn ng p=0:=by
      unfold qX;rw[if_neg hok,if_neg];rintro(h|h|h)
      ·exact h1 h
      ·exact h h2
      ·exact h3 h
     rw[key 0 hE,hE,if_pos rfl];have hsg:ng=true→Bk k c=true:=fun h=>by
      cases hs:Bk k c
      ·exact absurd ⟨h,hs⟩ h3
      ·rfl
     generalize cF (kU k (pI k c||ng) (pg k c) (lS k c))=st at*
     generalize pI k c=sg0 at*;generalize pg k c=se at*;generalize lS k c=sf at*;clear key hE hok hok' h3
     cases ng
     ·rcases bO hk with rfl|rfl|rfl|rfl|rfl|rfl|rfl|rfl
      all_goals exact Ui _ _ _ _ _ _ _ _ _ _ p false ao dn dc sg0 se sf w HS st HW hd h2 rfl
     ·rw[hsg rfl] at HG
      rcases bO hk with rfl|rfl|rfl|rfl|rfl|rfl|rfl|rfl
      all_goals exact Uj _ _ _ _ _ _ _ _ _ _ p true ao dn dc sg0 se sf w HS HG st HW hd h2 rfl
   ·have hE:qX k c dn ng p=4:=by unfold qX;rw[if_neg hok,if_pos (.inr (.inl h2))]
    rw[key 4 hE,hE,if_neg (by omega)];generalize pI k c=sg0 at*;generalize pg k c=se at*;generalize lS k c=sf at*;clear HG HW key hE hok hok'
    rcases bO hk with rfl|rfl|rfl|rfl|rfl|rfl|rfl|rfl
    all_goals exact MI _ _ _ _ _ _ _ _ _ _ p ng ao dn dc sg0 se sf w HS hd h2
theorem TZ (x a:Nat)(hx:x<4294967296)(ha:a<4294967296):bits .or .u64 ((x:Int)*4294967296) a=((a+4294967296*x:Nat):Int):=by
 rw[show x*4294967296=((4294967296*x:Nat):Int) from by omega]
 rw[u64_or_nat _ _ (by omega) (by omega),nat_join 32 _ _ (by omega) (by omega)]
 congr 1
 omega
theorem XF (va:Value)(xs:List Nat)(w:World)(ha:Rd w .u32 va xs)(sa:Dg.Small 4294967296 xs)(hl:xs.length≤2):
  yC 87 #[va] w fun z w'=>z= .returned (.int .u64 ((Dg.vl 4294967296 xs:Nat):Int))∧w'=w:=by
 obtain⟨ao,ca,rfl,-,-,hca⟩:=ha
 go_enter func87,ntmps87
 go_wp2
 go_loop [3,4] (fun xv iv=> ∃j x:Nat,j≤xs.length∧iv=yi ((j:Int)-1)∧xv= .int .u64 (x:Int)∧Hid (x=Dg.vl 4294967296 (xs.drop j))) (fun _ iv=>(intOf iv+1).toNat)
 case atStart=>exact⟨xs.length,0,Nat.le_refl _,by go_num,rfl,by rw[List.drop_of_length_le (Nat.le_refl _)];rfl⟩
 case round=>
  obtain⟨j,x,hj,rfl,rfl,HX⟩:=hrel
  by_cases h0:0<j
  ·obtain⟨i,rfl⟩: ∃i,j=i+1:=⟨j-1,by omega⟩
   rw[show((i+1:Nat):Int)-1=(i:Int) from by omega]
   obtain⟨b,off,rfl,hcell⟩:=hca (by omega);have hc:=hcell i (by omega);have hs:=sa i;have hx:=HX.out;have hxl:x<4294967296:=by
    have h1:=Dg.vl_lt 4294967296 (xs.drop (i+1)) (fun k=>by
     rw[List.getD_eq_getElem?_getD,List.getElem?_drop,←List.getD_eq_getElem?_getD];exact sa _)
    rw[←hx,List.length_drop] at h1;have h2:(4294967296:Nat)^ (xs.length-(i+1))≤4294967296^1:=Nat.pow_le_pow_right (by omega) (by omega);omega
   have hst:Dg.vl 4294967296 (xs.drop i)=xs.getD i 0+4294967296*x:=by
    rw[hx,List.drop_eq_getElem_cons (show i<xs.length by omega),Dg.vl]
    simp[List.getD_eq_getElem?_getD,show i<xs.length by omega]
   obtain⟨a,ea⟩: ∃a,xs.getD i 0=a:=⟨_,rfl⟩;rw[ea] at hc hs hst;have hil:i<xs.length:=by omega
   have HST:Hid _:=hst;clear ea hst hx hcell hca HX
   go_wp2
   have hst:=HST.out;refine⟨⟨i,a+4294967296*x,by omega,rfl, ?_,hst.symm⟩, ?_⟩
   ·rw[TZ x a hxl hs]
   ·simp only[intOf]
    omega
  ·have hd: ¬((0:Int)≤(j:Int)-1):=by omega
   have HJ:Hid (j=0):=(by omega:j=0)
   go_wp2
   go_ret
   have h1:=HJ.out;subst h1;have:=HX.out;rw[List.drop_zero] at this;rw[←this];exact⟨rfl,rfl⟩
end Go.Proofs.YtpainhklfoaniaaGreatDoor
