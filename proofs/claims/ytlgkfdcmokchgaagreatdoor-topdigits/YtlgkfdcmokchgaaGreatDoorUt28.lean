/-
  Texts laid together: Dz, Co7, Gr2, Gr5, Gm2, Dp2, Gk6, Ce11, Cr11, Eg2, Cv1, Tx6, Tx11, Tx14, Cv5.
-/
import Derived.Test.YtlgkfdcmokchgaaGreatDoorUt14
import Derived.Test.YtlgkfdcmokchgaaGreatDoorUt15
import Derived.Test.YtlgkfdcmokchgaaGreatDoorUt19
import Derived.Test.YtlgkfdcmokchgaaGreatDoorUt20
import Derived.Test.YtlgkfdcmokchgaaGreatDoorUt21
import Derived.Test.YtlgkfdcmokchgaaGreatDoorUt22
import Derived.Test.YtlgkfdcmokchgaaGreatDoorUt23
set_option maxRecDepth 100000
set_option maxHeartbeats 3200000
namespace Go.Proofs.YtlgkfdcmokchgaaGreatDoor
open _root_.Go.Proofs.Tryz
open Go.RowKit
theorem iH (a:ak):bare (bare a)=bare a:=by
 have h1: -((a.e.natAbs:Nat):Int)≤a.e:=by omega
 exact fH (eL h1) h1 (dw h1)
theorem Ko (g cap:Nat)(zs:List Nat)(w:World)(ho:ik w g zs)(hl:zs.length≤1000000000):
  yC 72 #[.slice (some ⟨g,0,none⟩) zs.length cap] w fun e w'=>
   e= .returned (.tuple #[])∧ik w' g zs.reverse∧w.grownBy w' (some g):=by
 go_enter func72,ntmps72
 go_wp2
 go_loopw [2,3] (fun iv jv wr=> ∃(i:Nat) (cur:List Nat),iv=yi i∧jv=yi ((zs.length:Int)-1-i)∧ik wr g cur∧XT zs cur i∧w.grownBy wr (some g))
  (fun iv jv _=>(intOf jv+1-intOf iv).toNat)
 case atStart=>exact⟨0,zs,rfl,by go_num,ho,⟨rfl,by omega,fun k hk=>by rw[if_neg (by omega)]⟩,ib _ _⟩
 case round=>
  obtain⟨i,cur,rfl,rfl,own,hI,gr⟩:=hrel;have h1:=hI.1;have h2:=hI.2.1
  by_cases hij:i<zs.length-1-i
  ·obtain⟨j,hj⟩: ∃j,zs.length-1-i=j:=⟨_,rfl⟩
   have hjI:(zs.length:Int)-1-i=(j:Int):=by omega
   have ci:=own.c i (by omega);have cj:=own.c j (by omega);have fi:=own.f i (by omega);have fj:=own.f j (by omega);have hst:=IJ hI hij;rw[hj] at hst hij;rw[hjI];have hjl:j<zs.length:=by omega
   have Hj:Hid _:=hjI;obtain⟨x,ex⟩: ∃x,cur.getD i 0=x:=⟨_,rfl⟩;obtain⟨y,ey⟩: ∃y,cur.getD j 0=y:=⟨_,rfl⟩;rw[ex] at ci hst;rw[ey] at cj hst;clear hj hjI ex ey hI
   go_wp2
   go_region
   all_goals go_wp2
   all_goals go_roundw
   case rel=>exact⟨i+1,_,by go_num,by have:=Hj.out;go_num,((own.store i y).store j x).drew,hst,eF (eF gr (bI _ _ _ _)) ((eF (bI _ _ _ _) (vm _ _)))⟩
   case measure=>have:=Hj.out;simp[intOf];omega
  ·have hd: ¬((i:Int)< (zs.length:Int)-1-i):=by omega
   go_wp2
   go_end0
   rw[←MG hI hij];exact⟨rfl,own,gr⟩
theorem Eh (qs:Bool)(ao:Option Addr)(ca:Nat)(bo:Option Addr)(cb:Nat)(N M:Nat)(E n:Int)(w:World)
  (ha:Rd w .u32 (.slice ao (Dg.dg 4294967296 N).length ca) (Dg.dg 4294967296 N)) (hb:Rd w .u32 (.slice bo (Dg.dg 4294967296 M).length cb) (Dg.dg 4294967296 M)) (hla:(Dg.dg 4294967296 N).length≤100000) (hlb:(Dg.dg 4294967296 M).length≤100000) (hM:0<M) (n1: -500000≤n) (n2:n≤500000):
  Calls Tryz.prog 118 #[.agg #[.bool qs,.slice ao (Dg.dg 4294967296 N).length ca,.slice bo (Dg.dg 4294967296 M).length cb,.int .i64 E],.int .i64 n] w (WH w (eZ N n/dX M n) (eZ N n % dX M n) (dX M n)):=by
 have b1:=af w (.cells #[.bool qs,.slice ao (Dg.dg 4294967296 N).length ca,.slice bo (Dg.dg 4294967296 M).length cb,.int .i64 E] 60);have l1:=ah w [.bool qs,.slice ao (Dg.dg 4294967296 N).length ca,.slice bo (Dg.dg 4294967296 M).length cb,.int .i64 E] 60;have hM0:0<dX M n:=by unfold dX;split<;>first|exact Nat.mul_pos hM (Nat.pow_pos (by omega))|exact hM
 have hNl:(Dg.dg 4294967296 (eZ N n)).length≤115626:=by
  unfold eZ
  split
  ·omega
  ·exact Nat.le_trans (Eg N n.toNat 100000 15626 hla (by omega)) (by omega)
 have HOV:Hid (∀v u w1,Rd w1 .u32 v (Dg.dg 4294967296 (eZ N n))→Rd w1 .u32 u (Dg.dg 4294967296 (dX M n))→Calls Tryz.prog 92 #[v,u] w1 (Two w1 (eZ N n/dX M n) (eZ N n % dX M n))):=fun v u w1 r1 r2=>by
  have:=A9 v u _ _ w1 r1 r2 (Dg.small_dg _ _ (by omega)) (Dg.small_dg _ _ (by omega)) (Dg.norm_dg _ _ (by omega)) (Dg.norm_dg _ _ (by omega)) (by rw[Ne,Dg.dg_nil_iff _ _ (by omega)];omega) (by omega)
  rwa [Dg.vl_dg _ _ (by omega),Dg.vl_dg _ _ (by omega)] at this
 have HSN:Hid (∀w1,Below w.heap.size w w1→ ¬n<0→Calls Tryz.prog 91 #[.slice ao (Dg.dg 4294967296 N).length ca,.int .i64 n] w1 (Num w1 (eZ N n))):=fun w1 b hn=>by
  have:=eO _ _ n w1 (ha.l b) (Dg.small_dg _ _ (by omega)) (by omega) (by omega) (by omega);unfold eZ;rw[if_neg hn]
  rwa [CE _ _ (by omega),Dg.vl_dg _ _ (by omega)] at this
 have HSD:Hid (∀w1,Below w.heap.size w w1→n<0→Calls Tryz.prog 91 #[.slice bo (Dg.dg 4294967296 M).length cb,.int .i64 (-n)] w1 (Num w1 (dX M n))):=fun w1 b hn=>by
  have:=eO _ _ (-n) w1 (hb.l b) (Dg.small_dg _ _ (by omega)) (by omega) (by omega) (by omega);unfold dX;rw[if_pos hn]
  rwa [CE _ _ (by omega),Dg.vl_dg _ _ (by omega)] at this
 have HN0:Hid (n<0→eZ N n=N):=fun h=>if_pos h
 have HD0:Hid (¬n<0→dX M n=M):=fun h=>if_neg h
 have RA:Hid (Rd _ _ _ _):=ha.l b1;have RB:Hid (Rd _ _ _ _):=hb.l b1;obtain⟨ln,hln⟩: ∃l,(Dg.dg 4294967296 N).length=l:=⟨_,rfl⟩;obtain⟨lm,hlm⟩: ∃l,(Dg.dg 4294967296 M).length=l:=⟨_,rfl⟩;obtain⟨X,hX⟩: ∃X,eZ N n=X:=⟨_,rfl⟩;obtain⟨Y,hY⟩: ∃Y,dX M n=Y:=⟨_,rfl⟩;rw[hX] at HOV HSN HN0⊢;rw[hY] at HOV HSD HD0⊢;simp only[hln,hlm] at b1 l1 HSN HSD RA RB⊢;clear ha hb hla hlb hNl hX hY hM0 hln hlm;have c1:=l1.c 1 rfl;have c2:=l1.c 2 rfl
 by_cases hn:n<0
 ·have hw:IntKind.i64.wrap (-n)= -n:=IntWalk.i64_in _ ⟨by omega,by omega⟩
  obtain rfl:=HN0.out hn
  go_enter func118,ntmps118
  go_wp2_with fail
  go_quiet (fail)
  have bd:=aL b1 nq;have ra:=Rd.l RA.out (aL (Below.refl _ _) nq)
  go_wp2_with fail
  refine(HSD.out _ bd hn).mono ?_;rintro z w2 ⟨v2,rfl,o2,b2⟩;have b02:=aa bd b2
  go_wp2_with fail
  refine(HOV.out _ _ _ (ra.l b2) o2.rd).mono ?_;rintro z w3 ⟨v3,v4,rfl,o3,o4,b3⟩;have b03:=aa b02 b3
  go_wp2
  go_ret3
  exact⟨_,_,_,rfl,o3.lower b02.size,o4.lower b02.size,(o2.l b3).rd,b03⟩
 ·have hnf:decide (n<0)=false:=by simp;omega
  obtain rfl:=HD0.out hn
  go_enter func118,ntmps118
  go_wp2_with fail
  go_quiet (fail)
  have bd:=aL b1 nq;have rb:=Rd.l RB.out (aL (Below.refl _ _) nq)
  go_wp2_with fail
  refine(HSN.out _ bd hn).mono ?_;rintro z w2 ⟨v2,rfl,o2,b2⟩;have b02:=aa bd b2;have rb2:=rb.l b2
  go_wp2_with fail
  refine(HOV.out _ _ _ o2.rd rb2).mono ?_;rintro z w3 ⟨v3,v4,rfl,o3,o4,b3⟩;have b03:=aa b02 b3
  go_wp2
  go_ret3
  exact⟨_,_,_,rfl,o3.lower b02.size,o4.lower b02.size,rb2.l b3,b03⟩
theorem WO (qs:Bool)(ao:Option Addr)(ca:Nat)(bo:Option Addr)(cb:Nat)(N M:Nat)(E:Int)(w:World)
  (ha:Rd w .u32 (.slice ao (Dg.dg 4294967296 N).length ca) (Dg.dg 4294967296 N)) (hb:Rd w .u32 (.slice bo (Dg.dg 4294967296 M).length cb) (Dg.dg 4294967296 M)) (hla:(Dg.dg 4294967296 N).length≤10000) (hlb:(Dg.dg 4294967296 M).length≤10000) (hM:0<M) (e1: -500000≤E) (e2:E≤500000):
  Calls Tryz.prog 117 #[.agg #[.bool qs,.slice ao (Dg.dg 4294967296 N).length ca,.slice bo (Dg.dg 4294967296 M).length cb,.int .i64 E]] w fun z w'=>z= .returned (.int .i64 (dY N M E))∧Below w.heap.size w w':=by
 have b1:=af w (.cells #[.bool qs,.slice ao (Dg.dg 4294967296 N).length ca,.slice bo (Dg.dg 4294967296 M).length cb,.int .i64 E] 60);have l1:=ah w [.bool qs,.slice ao (Dg.dg 4294967296 N).length ca,.slice bo (Dg.dg 4294967296 M).length cb,.int .i64 E] 60;have hbn:bitLen N≤32*10000:=oP hla;have hbm:bitLen M≤32*10000:=oP hlb;have HB1:Hid (∀w1,Below w.heap.size w w1→Calls Tryz.prog 89 #[.slice ao (Dg.dg 4294967296 N).length ca] w1 fun z w'=>z= .returned (.int .i64 (bitLen N:Nat))∧w'=w1):=fun w1 b=>by
  have:=kE _ _ w1 (ha.l b) (Dg.small_dg _ _ (by omega)) (Dg.norm_dg _ _ (by omega)) (by omega)
  rwa [Dg.vl_dg _ _ (by omega)] at this
 have HB2:Hid (∀w1,Below w.heap.size w w1→Calls Tryz.prog 89 #[.slice bo (Dg.dg 4294967296 M).length cb] w1 fun z w'=>z= .returned (.int .i64 (bitLen M:Nat))∧w'=w1):=fun w1 b=>by
  have:=kE _ _ w1 (hb.l b) (Dg.small_dg _ _ (by omega)) (Dg.norm_dg _ _ (by omega)) (by omega)
  rwa [Dg.vl_dg _ _ (by omega)] at this
 obtain⟨ld,hld⟩: ∃l,(bitLen N:Int)-(bitLen M:Int)=l:=⟨_,rfl⟩;have HP:Hid (∀w1,Below w.heap.size w w1→Calls Tryz.prog 118 #[.agg #[.bool qs,.slice ao (Dg.dg 4294967296 N).length ca,.slice bo (Dg.dg 4294967296 M).length cb,.int .i64 E],.int .i64 (-ld)] w1 (WH w1 (eZ N (-ld)/dX M (-ld)) (eZ N (-ld) % dX M (-ld)) (dX M (-ld)))):=fun w1 b=>
  Eh qs ao ca bo cb N M E (-ld) w1 (ha.l b) (hb.l b) (by omega) (by omega) hM (by omega) (by omega)
 unfold dY;rw[hld];obtain⟨Q,hQ⟩: ∃Q,eZ N (-ld)/dX M (-ld)=Q:=⟨_,rfl⟩;rw[hQ] at HP⊢;have hQn:=Dg.dg_nil_iff 4294967296 Q (by omega);obtain⟨T,hT⟩: ∃T,E+(ld-(if Q=0 then 1 else 0))=T:=⟨_,rfl⟩
 have HT:Hid _:=hT;rw[hT];clear hT;obtain⟨x,hx⟩: ∃x,bitLen N=x:=⟨_,rfl⟩;obtain⟨y,hy⟩: ∃y,bitLen M=y:=⟨_,rfl⟩;rw[hx] at HB1 hld hbn;rw[hy] at HB2 hld hbm;obtain⟨ln,hln⟩: ∃l,(Dg.dg 4294967296 N).length=l:=⟨_,rfl⟩;obtain⟨lm,hlm⟩: ∃l,(Dg.dg 4294967296 M).length=l:=⟨_,rfl⟩;simp only[hln,hlm] at b1 l1 HB1 HB2 HP⊢;have w1:IntKind.i64.wrap (-ld)= -ld:=IntWalk.i64_in _ ⟨by omega,by omega⟩;have w0:IntKind.i64.wrap ld=ld:=IntWalk.i64_in _ ⟨by omega,by omega⟩;clear ha hb hla hlb hx hy hln hlm hQ hM;have l2:=l1.drew;have bd:=aa b1 ((Below.refl _ _).drew);have c1:=l2.c 1 rfl;have c2:=l2.c 2 rfl;clear l1 b1;have hlde:(x:Int)-(y:Int)=ld:=hld;clear hld
 go_enter func117,ntmps117
 go_wp2_with fail
 go_region_held3 (fun wq=>wq.cell? ⟨w.heap.size,1,none⟩=some (.slice ao ln ca)∧wq.cell? ⟨w.heap.size,2,none⟩=some (.slice bo lm cb)) (go_keep) (first
  | (go_at_call 89;(with_reducible (refine(HB1.out _ bd).mono ?_));rintro z w3 ⟨rfl,rfl⟩)
  | (go_at_call 89;(with_reducible (refine(HB2.out _ bd).mono ?_));rintro z w3 ⟨rfl,rfl⟩))
 have c0:=l2.c 0 rfl;have c3:=l2.c 3 rfl
 go_goals
 go_wp2_with fail
 refine(HP.out _ bd).mono ?_;rintro z w4 ⟨v1,v2,v3,rfl,o1,o2,r3,b4⟩;have b04:=aa bd b4;have l4:=l2.l b4;obtain⟨so,sc,hs⟩:=o1.rd.shape;subst hs;have c4:=l4.c 3 rfl;obtain⟨lq,hlq⟩: ∃l,(Dg.dg 4294967296 Q).length=l:=⟨_,rfl⟩;have hz:lq=0↔Q=0:=by rw[←hlq,List.length_eq_zero_iff];exact hQn
 rw[hlq];clear hlq hQn o1 o2 r3
 by_cases h0:Q=0
 ·have hT2:E+(ld-1)=T:=by rw[←HT.out,if_pos h0]
  subst hT2;have hl0:=hz.2 h0;clear hz h0 HT;subst hl0;have w2:IntKind.i64.wrap (ld-1)=ld-1:=IntWalk.i64_in _ ⟨by omega,by omega⟩;have w3:IntKind.i64.wrap (E+(ld-1))=E+(ld-1):=IntWalk.i64_in _ ⟨by omega,by omega⟩
  go_wp2
  go_ret
  exact⟨rfl,b04⟩
 ·have hT2:E+ld=T:=by rw[←HT.out,if_neg h0,Int.sub_zero]
  subst hT2;have hqf:((lq:Int)==0)=false:=by simp;exact fun h=>h0 (hz.1 h)
  have w3:IntKind.i64.wrap (E+ld)=E+ld:=IntWalk.i64_in _ ⟨by omega,by omega⟩
  go_wp2
  go_ret
  exact⟨rfl,b04⟩
theorem Qh (R D L G:Int)(gr qs:Bool)(ao:Option Addr)(ca:Nat)(bo:Option Addr)(cb:Nat)(N M:Nat)(E way:Int)(fn:FuncId)(w:World)(hg:bk R D L G=0)
  (ha:Rd w .u32 (.slice ao (Dg.dg 4294967296 N).length ca) (Dg.dg 4294967296 N)) (hb:Rd w .u32 (.slice bo (Dg.dg 4294967296 M).length cb) (Dg.dg 4294967296 M)) (hla:(Dg.dg 4294967296 N).length≤10000) (hlb:(Dg.dg 4294967296 M).length≤10000) (hM:0<M) (e1: -20000≤E) (e2:E≤20000)
  (HE: ∀args W,Sem.run Tryz.prog (callFunc fn args) W= .ok (.enter fn args) W)
  (HAW: ∀half odd neg w1,Calls Tryz.prog fn #[.agg #[.int .i64 half,.bool odd,.bool neg]] w1 fun z w'=>z= .returned (.bool (gY way half odd neg))∧Below w1.heap.size w1 w'):
  Calls Tryz.prog 77 #[.agg #[.int .i64 R,.int .i64 D,.int .i64 L,.int .i64 G,.bool gr],.agg #[.bool qs,.slice ao (Dg.dg 4294967296 N).length ca,.slice bo (Dg.dg 4294967296 M).length cb,.int .i64 E],.func (.func fn) #[] #[]] w (Fk w (cI R D L G gr qs N M E way)):=by
 obtain⟨hR,d1,d2,l1,l2,g1,g2,lg,l16⟩:=cB hg;obtain⟨t1,t2⟩:=FJ N M E hla hlb e1 e2;obtain⟨c1,c2,c3,c4⟩:=Qg (gr:=gr) hg hla hlb e1 e2;have hM0:0<dX M (shP R D L gr N M E):=by unfold dX;split<;>first|exact Nat.mul_pos hM (Nat.pow_pos (by omega))|exact hM
 have n1: -500000≤shP R D L gr N M E:=by unfold shP;omega
 have n2:shP R D L gr N M E≤500000:=by unfold shP;omega
 have hNl:(Dg.dg 4294967296 (eZ N (shP R D L gr N M E))).length≤25626:=by
  unfold eZ
  split
  ·omega
  ·exact Nat.le_trans (Eg N _ 10000 15626 hla (by omega)) (by omega)
 have hMl:(Dg.dg 4294967296 (dX M (shP R D L gr N M E))).length≤25626:=by
  unfold dX
  split
  ·exact Nat.le_trans (Eg M _ 10000 15626 hlb (by omega)) (by omega)
  ·omega
 have hq:(Dg.dg 4294967296 (cH R D L gr N M E)).length≤25626:=Nat.le_trans (aH _ _ _ (by omega) (Nat.div_le_self _ _)) hNl;have hr:(Dg.dg 4294967296 (gF R D L gr N M E)).length≤25626:=Nat.le_trans (aH _ _ _ (by omega) (Nat.le_of_lt (Nat.mod_lt _ hM0))) hMl;refine Mt R D L G gr qs ao _ ca bo _ cb E fn (dY N M E) (aT R D (dY N M E)) (dj R D L gr N M E) (ai R) (cH R D L gr N M E) (gF R D L gr N M E) (dX M (shP R D L gr N M E)) (dm ((gF R D L gr N M E*2:Nat):Int) ((dX M (shP R D L gr N M E):Nat):Int)) (decide (cH R D L gr N M E % 2=1)) (rf R D L gr qs N M E way) (decide (aT R D (dY N M E)<L)) (decide (gF R D L gr N M E=0)) (decide (aT R D (dY N M E)<L)&&gr) (fM R D L gr qs N M E way) (io R D (fM R D L gr qs N M E way)) (gD R D (fM R D L gr qs N M E way) (dj R D L gr N M E)) (cI R D L G gr qs N M E way) w rfl rfl rfl ?_ ?_ ?_ ?_ ?_ ?_ ?_ ?_ HE ?_ ?_ ?_ ?_ ?_ ?_ ?_ ?_ ?_ ?_
 ·intro h
  exact if_pos h
 ·intro h
  exact if_neg (by rw[h];decide)
 ·exact M4 _ (by omega) (by omega)
 ·exact M4 _ (by omega) (by omega)
 ·intro h1 h2
  exact if_pos ⟨h1,h2⟩
 ·intro h
  refine if_neg ?_;rintro⟨h1,h2⟩
  rcases h with h|h
  ·rw[h1] at h
   cases h
  ·rw[h2] at h
   cases h
 ·intro h
  exact if_pos h
 ·intro h
  exact if_neg h
 ·intro w1 b
  exact WO qs ao ca bo cb N M E w1 (ha.l b) (hb.l b) hla hlb hM (by omega) (by omega)
 ·intro w1
  exact FE R D L G gr _ w1 d1 d2 (by omega) (by omega)
 ·intro w1
  have:=tY R D L G gr w1
  rwa [jf] at this
 ·intro w1 b
  exact Eh qs ao ca bo cb N M E (shP R D L gr N M E) w1 (ha.l b) (hb.l b) (by omega) (by omega) hM n1 n2
 ·intro v w1 h
  have:=eO v _ 1 w1 h (Dg.small_dg _ _ (by omega)) (by omega) (by omega) (by omega);rw[Dg.vl_dg _ _ (by omega)] at this;exact this
 ·intro v u w1 h1 h2
  have:=jF v u _ _ w1 h1 h2 (Dg.small_dg _ _ (by omega)) (Dg.small_dg _ _ (by omega)) (Dg.norm_dg _ _ (by omega)) (Dg.norm_dg _ _ (by omega))
  rwa [Dg.vl_dg _ _ (by omega),Dg.vl_dg _ _ (by omega)] at this
 ·intro v w1 h
  exact aaI v _ w1 h
 ·intro w1
  exact HAW _ _ _ w1
 ·intro v u w1 h1 h2
  have:=rj v u _ _ w1 h1 h2 (Dg.small_dg _ _ (by omega)) (Dg.small_cons.2 ⟨by omega,Dg.small_nil _ (by omega)⟩) (by omega) (by simp)
  rwa [Dg.vl_dg _ _ (by omega),show Dg.vl 4294967296 [1]=1 from rfl] at this
 ·intro v base w1 ho hbs
  exact Br R D L G gr v _ _ base w1 ho hbs d1 d2 (by omega) (by omega)
theorem jK {R D L G:Int}(gr:Bool)(t:ak)(hLG:L≤G):inR R D L G gr (bare t).n (bare t).e=dA R D L G gr t.n t.e:=by
 unfold inR dA;refine decide_eq_decide.2 ?_
 by_cases h:t.n=0
 ·have:(bare t).n=0:=by unfold bare;rw[if_pos h]
  simp only[h,this,true_or]
 ·obtain⟨h1,h2,h3⟩:=gN h
  rw[h3];simp only[h1,h,false_or,h2];unfold cP;rw[show t.e+(bitLen t.n:Int)-1=(bitLen t.n:Int)-1+t.e by omega]
  obtain⟨p,hp⟩: ∃p,(bitLen t.n:Int)-1+t.e=p:=⟨_,rfl⟩;rw[show t.e+(bitLen t.n:Int)=p+1 by omega,hp]
  clear h1 h2 h3 h;obtain⟨z,hz⟩: ∃z,t.e+(tz t.n:Int)=z:=⟨_,rfl⟩;rw[hz];have hw:aT R D p=p/(ai R:Int)-(D-1):=rfl;obtain⟨k,hk⟩: ∃k,aT R D p=k:=⟨_,rfl⟩;rw[hk] at hw⊢;clear hp hz hk;unfold ai at*
  cases gr<;>by_cases h16:R=16<;>simp only[h16,if_true,if_false] at hw⊢ <;>by_cases hl:k<L<;>simp[hl]<;>omega
theorem vM (v u:Value)(a b:ak)(w:World)(hv:Rv w v a)(hu:Rv w u b)(hLa:(Dg.dg 65536 a.n).length≤30000)(hLb:(Dg.dg 65536 b.n).length≤30000)
  (ha1: -200000≤a.e) (ha2:a.e≤200000) (hb1: -200000≤b.e) (hb2:b.e≤200000):
  yC 29 #[v,u] w (di w (bare (cO a b))):=by
 obtain⟨s0,rfl,ra⟩:=hv;obtain⟨ao,ca,rfl⟩:=ra.shape;obtain⟨s1,rfl,rb⟩:=hu;obtain⟨bo,cb,rfl⟩:=rb.shape;obtain⟨sa,an,ae⟩:=a;obtain⟨sb,bn,be⟩:=b;simp only at ra rb hLa hLb ha1 ha2 hb1 hb2⊢;obtain⟨E,hE⟩: ∃E:Int,(if bn=0 then ae else if an=0 then be else min ae be)=E:=⟨_,rfl⟩
 have hl: -200000≤E∧E≤200000:=by
  rw[←hE];split
  ·omega
  ·split<;>omega
 obtain⟨X,hX⟩: ∃X,an*2^ (max 0 (ae-E)).toNat=X:=⟨_,rfl⟩;obtain⟨Y,hY⟩: ∃Y,bn*2^ (max 0 (be-E)).toNat=Y:=⟨_,rfl⟩;have hd:cO ⟨sa,an,ae⟩ ⟨sb,bn,be⟩=if sa=sb then⟨sa,X+Y,E⟩ else if Y≤X then⟨sa,X-Y,E⟩ else⟨sb,Y-X,E⟩:=by
  simp only[cO,hE,hX,hY]
 have hc:((((Dg.dg 65536 an).length:Int)==0)=false∧(((Dg.dg 65536 bn).length:Int)==0)=false∧min ae be=E)∨((((Dg.dg 65536 an).length:Int)==0)=true∧(((Dg.dg 65536 bn).length:Int)==0)=false∧be=E)∨((((Dg.dg 65536 an).length:Int)==0)=false∧(((Dg.dg 65536 bn).length:Int)==0)=true∧ae=E)∨((((Dg.dg 65536 an).length:Int)==0)=true∧(((Dg.dg 65536 bn).length:Int)==0)=true∧ae=E):=by
  rw[len_zero,len_zero,←hE]
  by_cases h1:an=0<;>by_cases h2:bn=0<;>simp[h1,h2]
 have lx:(Dg.dg 65536 X).length≤55001:=by rw[←hX];exact Nat.le_trans (jZ an _ 30000 25001 hLa (by omega)) (by omega)
 have ly:(Dg.dg 65536 Y).length≤55001:=by rw[←hY];exact Nat.le_trans (jZ bn _ 30000 25001 hLb (by omega)) (by omega)
 have wr: ∀e:Int,-200000≤e→e≤200000→IntKind.i64.wrap (e-E)=e-E:=fun e h1 h2=>IntWalk.i64_in _ ⟨by omega,by omega⟩
 have HU: ∀w1,yB w w1→yC 26 #[yS ao an ca,yi (max 0 (ae-E))] w1 (cG w1 X):=fun w1 b1=>by
  have:=kD _ _ (max 0 (ae-E)).toNat w1 (ra.l b1) (Dg.small_dg _ _ (by omega)) (by omega) (by omega)
  rwa [Dg.vl_dg _ _ (by omega),Int.toNat_of_nonneg (by omega),hX] at this
 have HV: ∀w1,yB w w1→yC 26 #[yS bo bn cb,yi (max 0 (be-E))] w1 (cG w1 Y):=fun w1 b1=>by
  have:=kD _ _ (max 0 (be-E)).toNat w1 (rb.l b1) (Dg.small_dg _ _ (by omega)) (by omega) (by omega)
  rwa [Dg.vl_dg _ _ (by omega),Int.toNat_of_nonneg (by omega),hY] at this
 have HB: ∀s Z zo zc w1,(Dg.dg 65536 Z).length≤100000→yB w w1→Rd w1 .i64 (yS zo Z zc) (Dg.dg 65536 Z)→yC 30 #[ydV s (yS zo Z zc) E] w1 (Xi w.heap.size w1 (bare ⟨s,Z,E⟩)):=
  fun s Z zo zc w1 h b1 r=>(lA _ ⟨s,Z,E⟩ w1 ⟨_,rfl,r⟩ h (by simp only;omega) (by simp only;omega)).mono fun _ _ h=>h.hid b1.size
 have ml: ∀P Q:Nat,(Dg.dg 65536 P).length≤55001→(Dg.dg 65536 (P-Q)).length≤100000:=fun P Q h=>Nat.le_trans (aH 65536 _ P (by omega) (Nat.sub_le _ _)) (by omega)
 have HC: ∀xo xc yo yc w1,yB w w1→Rd w1 .i64 (yS xo X xc) (Dg.dg 65536 X)→Rd w1 .i64 (yS yo Y yc) (Dg.dg 65536 Y)→yC 63 #[yS xo X xc,yS yo Y yc] w1 (yR w1 (yi (dm X Y))):=fun xo xc yo yc w1 _ h1 h2=>by
  have:=fm _ _ _ _ w1 h1 h2 (Dg.small_dg _ _ (by omega)) (Dg.small_dg _ _ (by omega)) (Dg.norm_dg _ _ (by omega)) (Dg.norm_dg _ _ (by omega))
  rwa [Dg.vl_dg _ _ (by omega),Dg.vl_dg _ _ (by omega)] at this
 rw[hd]
 by_cases hs:sa=sb
 ·subst hs
  rw[if_pos rfl];refine refDP_same ae be E _ _ _ _ sa ao bo _ _ ca cb X Y (X+Y) _ w hc (wr _ ha1 ha2) (wr _ hb1 hb2) rfl rfl HU HV (fun xo xc yo yc w1 _ h1 h2=> ?_) (fun zo zc w1 b1 r=>HB _ _ _ _ _ ?_ b1 r)
  ·have:=ew _ _ _ _ w1 h1 h2 (Dg.small_dg _ _ (by omega)) (Dg.small_dg _ _ (by omega)) (Dg.norm_dg _ _ (by omega)) (Dg.norm_dg _ _ (by omega)) (by omega) (by omega)
   rwa [Dg.vl_dg _ _ (by omega),Dg.vl_dg _ _ (by omega)] at this
  ·exact Nat.le_trans (og X Y 55001 lx ly) (by omega)
 ·have hs':(sa==sb)=false:=by simpa using hs
  rw[if_neg hs]
  by_cases hq:Y≤X
  ·rw[if_pos hq]
   refine refDP_geq ae be E _ _ _ _ sa sb ao bo _ _ ca cb X Y (X-Y) _ w (dm X Y) hs' ?_ hc (wr _ ha1 ha2) (wr _ hb1 hb2) rfl rfl HU HV HC (fun xo xc yo yc w1 _ h1 h2=> ?_) (fun zo zc w1 b1 r=>HB _ _ _ _ _ (ml _ _ lx) b1 r)
   ·unfold dm;split
    ·omega
    ·split<;>omega
   ·have:=kI _ _ _ _ w1 h1 h2 (Dg.small_dg _ _ (by omega)) (Dg.small_dg _ _ (by omega)) (by omega) (aH _ _ _ (by omega) hq) (by rw[Dg.vl_dg _ _ (by omega),Dg.vl_dg _ _ (by omega)];exact hq)
    rwa [Dg.vl_dg _ _ (by omega),Dg.vl_dg _ _ (by omega)] at this
  ·rw[if_neg hq]
   refine refDP_less ae be E _ _ _ _ sa sb ao bo _ _ ca cb X Y (Y-X) _ w (dm X Y) hs' ?_ hc (wr _ ha1 ha2) (wr _ hb1 hb2) rfl rfl HU HV HC (fun xo xc yo yc w1 _ h1 h2=> ?_) (fun zo zc w1 b1 r=>HB _ _ _ _ _ (ml _ _ ly) b1 r)
   ·unfold dm;split
    ·omega
    ·split<;>omega
   ·have:=kI _ _ _ _ w1 h2 h1 (Dg.small_dg _ _ (by omega)) (Dg.small_dg _ _ (by omega)) (by omega) (aH _ _ _ (by omega) (by omega)) (by rw[Dg.vl_dg _ _ (by omega),Dg.vl_dg _ _ (by omega)];omega)
    rwa [Dg.vl_dg _ _ (by omega),Dg.vl_dg _ _ (by omega)] at this
theorem nN {R D L G:Int}(gr:Bool)(t:ak)(hLG:L≤G):dA R D L G gr (bare t).n (bare t).e=dA R D L G gr t.n t.e:=by
 rw[←jK gr t hLG,←jK gr (bare t) hLG,iH]
def enN (k:Nat)(ng:Bool)(xs:List Nat)(p:Int):ak×Int:=
 cC (ix xs p (rdN k) (dgN k) (lsI k) (gsI k)) ⟨ng,Dg.vl 4294967296 xs,(ai (rdN k):Int)*p⟩
def enE (k:Nat)(ng:Bool)(xs:List Nat)(p:Int):Int:=
 if p< -20000∨20000<p then 3 else if xs.length=0 then 4 else if(enN k ng xs p).2=0∧enH k (enN k ng xs p).1=true then 0 else 4
theorem I5 {k:Nat}(hk:1≤k∧k≤8){ng:Bool}{E F:Nat}(hE:E<2^exN k)(hF:F<2^frN k)(hF64:F<2^64)(hc:dh k ng E F=2)(hr:rdN k=16):
  4*gw k ng E F≤(ji k ng E F).e∧(ji k ng E F).e<4*gw k ng E F+4∧ge k ng E F=shN (ji k ng E F).n ((ji k ng E F).e-4*gw k ng E F):=by
 rw[iq hk hE hF hc];unfold ge gw;rw[if_pos hc,if_pos hc,hr];have h0:=jX hc;have hl:=vS hk E hF64;generalize iI k E F=D at*;generalize ii k E=P at*;obtain⟨m,hm⟩:=fO (n:=D) (by omega);have hd:=lI hm;obtain⟨a,b,hab,hb⟩: ∃a b,tz D=4*a+b∧b<4:=⟨tz D/4,tz D % 4,by omega,Nat.mod_lt _ (by omega)⟩;have e16:D=16^a*(2^b*(2*m+1)):=by
  rw[hm,hab,Nat.pow_add,Nat.pow_mul,Nat.mul_assoc]
 have hq:2^b*(2*m+1) % 16≠0:=by
  rcases(show b=0∨b=1∨b=2∨b=3 by omega) with rfl|rfl|rfl|rfl<;>omega
 have hs:=FZ 16 (by omega) a 64 (2^b*(2*m+1)) P hq (by rw[←e16];exact hl);rw[←e16] at hs;rw[hs];unfold bare;rw[if_neg (by show¬D=0;omega),show wdI ((16:Nat):Int)=4 from by decide]
 simp only;rw[hab];refine⟨by push_cast;omega,by push_cast;omega, ?_⟩;rw[show 4*P+((4*a+b:Nat):Int)-4*(P+(a:Int))=(b:Int) from by push_cast;omega]
 unfold shN;rw[if_neg (by omega),Int.toNat_natCast,←hab,hd,Nat.mul_comm]
theorem mY {k:Nat}(hk:1≤k∧k≤8){ng:Bool}{xs:List Nat}{p:Int}(hc:chk xs=0)(hx:xs.length≠0)(hp: ¬(p< -20000∨20000<p)):
  enE k ng xs p=if inR (rdN k) (dgN k) (lsI k) (gsI k) (decide (k≤3)) (bare ⟨ng,Dg.vl 4294967296 xs,(ai (rdN k):Int)*p⟩).n (bare ⟨ng,Dg.vl 4294967296 xs,(ai (rdN k):Int)*p⟩).e=true then 0 else 4:=by
 obtain⟨f1,f2,f3,f4,f5,f6,f7,f8,f9,f10,f11,hgc⟩:=eR hk;obtain⟨g1,g2⟩:=Gm hk;have hvn:Dg.vl 4294967296 xs≠0:=fun h=>by
  obtain⟨n1,-⟩:=aF hc;exact Dg.vl_ne_zero 4294967296 (by omega) xs (by intro e;subst e;simp at hx) n1 h
 have hpl:ix xs p (rdN k) (dgN k) (lsI k) (gsI k)=0:=by
  unfold ix;rw[if_pos hc,if_pos hgc,if_neg];unfold eJ;simp;omega
 have hen:enN k ng xs p=bU ⟨ng,Dg.vl 4294967296 xs,(ai (rdN k):Int)*p⟩:=by
  unfold enN cC;rw[if_pos hpl]
 unfold enE;rw[if_neg hp,if_neg hx,hen];have hbn:(bare ⟨ng,Dg.vl 4294967296 xs,(ai (rdN k):Int)*p⟩).n≠0:=fun h=>hvn ((fI _).1 h)
 generalize htt:(⟨ng,Dg.vl 4294967296 xs,(ai (rdN k):Int)*p⟩:ak)=t at*;have hin: ∀hh: ¬1200< (Dg.dg 4294967296 (bare t).n).length,∀h2: ¬((bare t).e< -20000∨20000< (bare t).e),enH k (bare t)=inR (rdN k) (dgN k) (lsI k) (gsI k) (decide (k≤3)) (bare t).n (bare t).e:=fun hh h2=>by
  unfold enH um;have hd:aS (Dg.dg 4294967296 (bare t).n) (bare t).e=0:=by
   unfold aS;rw[if_pos (pJ (Dg.norm_dg 4294967296 (bare t).n (by omega)) (by omega)),if_neg h2]
  have hon:onC (aS (Dg.dg 4294967296 (bare t).n) (bare t).e) (bk (rdN k) (dgN k) (lsI k) (gsI k))=0:=by unfold onC;rw[if_pos hd];exact hgc
  rw[if_pos hon,Dg.vl_dg _ _ (by omega),nN _ _ f7,jK _ _ f7]
 by_cases hi:inR (rdN k) (dgN k) (lsI k) (gsI k) (decide (k≤3)) (bare t).n (bare t).e=true
 ·rw[if_pos hi]
  have hq:(ai (rdN k):Int)*lsI k≤(bare t).e∧(bare t).e+(bitLen (bare t).n:Int)≤(ai (rdN k):Int)*(gsI k+(dgN k:Int)):=by
   have:=hi;unfold inR at this
   rcases of_decide_eq_true this with h|h
   ·exact absurd h hbn
   ·exact⟨h.1,h.2.1⟩
  have hlen: ¬1200< (Dg.dg 4294967296 (bare t).n).length:=by
   have:=jq (d:=(bare t).n) (k:=bitLen (bare t).n) (L:=1200) (bitLen_spec _).1 (by omega);omega
  have h2: ¬((bare t).e< -20000∨20000< (bare t).e):=by omega
  have hsh:bU t=(bare t,0):=by unfold bU;rw[if_neg hlen,if_neg h2]
  rw[hsh,if_pos ⟨rfl,by rw[hin hlen h2];exact hi⟩]
 ·rw[if_neg hi,if_neg]
  rintro⟨h1,h3⟩;unfold bU at h1 h3
  by_cases hlen:1200< (Dg.dg 4294967296 (bare t).n).length
  ·rw[if_pos hlen] at h1
   simp at h1
  ·rw[if_neg hlen] at h1 h3
   by_cases h2:(bare t).e< -20000∨20000< (bare t).e
   ·rw[if_pos h2] at h1
    simp at h1
   ·rw[if_neg h2] at h3
    rw[hin hlen h2] at h3;exact hi h3
theorem convert_oth (fm c p c2 p2 fl:Int)(g2:Bool)(m2:Nat)(st:ByteArray)(g:Bool)(m:Nat)(t:ak)(n k wy:Int)(s:ByteArray)(w:World)(hf:(fm==0)=false)(hc:(c==2)=false)(HF:yJ 36 #[yi k] (yi fm))
  (HQ: ∀w1,yB w w1→yC 38 #[yi n,.string s,yi wy] w1 (CRes w1 c g m p t 0))
  (HM: ∀vo vc w1,yB w w1→Rd w1 .u32 (yT vo m vc) (Dg.dg 4294967296 m)→yC 52 #[yvV c g (yT vo m vc) p,yi fm] w1 (B6 w1 c2 g2 m2 p2 fl))
  (HE: ∀ao ac w1,yB w w1→Rd w1 .u32 (yT ao m2 ac) (Dg.dg 4294967296 m2)→yC 47 #[yi k,yvV c2 g2 (yT ao m2 ac) p2] w1 (yR w1 (.tuple #[.string st,yi 0]))):
  yC 19 #[yi n,.string s,yi k,yi wy] w (yR w (.tuple #[.string st,yi fl,yi 0])):=by
 replace HF:Hid _:=HF;replace HQ:Hid _:=HQ;replace HM:Hid _:=HM;replace HE:Hid _:=HE
 go_enter func19,ntmps19
 have b0:=Below.refl w.heap.size w
 go_wp2_with fail
 refine(HF.out _).mono ?_;rintro zz w1 ⟨rfl,bb2⟩;have b3:=aa b0 bb2;clear b0 bb2
 go_wp2_with fail
 refine(HQ.out _ b3).mono ?_;rintro zz w4 ⟨v16,v27,rfl,r18,r29,bb5⟩;have b10:=aa b3 bb5;obtain⟨vo,vc,hv⟩:=r18.shape;subst hv;obtain⟨xo,xc,hv⟩:=r29.shape;subst hv;clear b3 bb5 HQ;obtain⟨W13,hW12,q14,q15,al11⟩:=iG w4 (yvL c g (yT vo m vc) p) 48 (yDL t xo xc) 78;replace hW12:Hid _:=hW12;have hl16:w.heap.size≤w4.heap.size:=b10.size;have r17:=r18.l al11;have b18:=aa b10 al11;clear r18 r29 b10 al11 q15
 go_upto_region 4 with fail
 rw[hW12.out];clear hW12;have c19:=q14.c 0 rfl
 go_upto_region 8 with fail
 clear c19;have bW20:yB W13 W13.drew:=(Below.refl _ _).drew;have q21:=q14.l bW20;have r22:=r17.l bW20;have b23:=aa b18 bW20;clear q14 r17 b18 bW20;refine wp_region_held_drew (S:=fun _=>True) (by kernel_rfl) trivial (fun hS0=> ?_)
 generalize W13.drew=WD24 at q21 r22 b23 hS0⊢;refine tq 1 (yi k) rfl (fun _ _=>by kernel_rfl) hS0 ?_
 refine wpAnyH_ready (rs:=[0,2]) (by kernel_rfl) (by simp) ?_;refine AllReadyH.cons rfl (fun K hK=> ?_) (AllReadyH.cons rfl (fun K hK=> ?_) AllReadyH.nil)
 ·rw[if_pos (by kernel_rfl)]
  refine wp_yield (yvV c g (yT vo m vc) p) (fy 48 (.tmp 11) rfl w4.heap.size 0 (by kernel_rfl) _ _ q21.range underlying48 rfl (by kernel_rfl)) ?_;refine hK.out _ _ trivial (fun hS25=> ?_)
  clear hK K;refine wpAnyH_ready (rs:=[2]) (by kernel_rfl) (by simp) ?_;refine AllReadyH.cons rfl (fun K hK=> ?_) AllReadyH.nil
  go_simp
  refine(HF.out _).mono ?_;rintro zz w26 ⟨rfl,bb27⟩;have q28:=q21.l bb27;have r29:=r22.l bb27;have b30:=aa b23 bb27;clear q21 r22 b23 bb27;refine hK.out _ _ trivial (fun hS31=> ?_)
  clear hK K;refine wpAnyH_ready (rs:=[3]) (by kernel_rfl) (by simp) ?_;refine AllReadyH.cons rfl (fun K hK=> ?_) AllReadyH.nil
  go_simp
  refine(HM.out _ _ _ b30 r29).mono ?_;rintro zz w32 ⟨v134,rfl,r135,bb33⟩;have q36:=q28.l bb33;have b37:=aa b30 bb33;obtain⟨ao,ac,hv⟩:=r135.shape;subst hv;clear q28 r29 b30 bb33 HM;refine hK.out _ _ trivial (fun hS38=> ?_)
  clear hK K;refine tq 4 (.tuple #[yvV c2 g2 (yT ao m2 ac) p2,yi fl]) rfl (fun _ _=>by kernel_rfl) hS38 ?_
  refine tq 5 (yvV c2 g2 (yT ao m2 ac) p2) rfl (fun _ _=>by go_simp) hS38 ?_
  refine tq 6 (yi fl) rfl (fun _ _=>by go_simp) hS38 ?_
  refine wpAnyH_ready (rs:=[7]) (by kernel_rfl) (by simp) ?_;refine AllReadyH.cons rfl (fun K hK=> ?_) AllReadyH.nil
  have bu:But w4.heap.size w32 (w32.setCells w4.heap.size 0 (yvL c2 g2 (yT ao m2 ac) p2)):=de _ _ _ _;have hth:w32.there w4.heap.size 0 4:=dD q36;have q39:au (w32.setCells w4.heap.size 0 (yvL c2 g2 (yT ao m2 ac) p2)) w4.heap.size 48 (yvL c2 g2 (yT ao m2 ac) p2):=q36.sets _ rfl;have r40:=bu.rd r135 (aX r135 q36 (by simp));have b41:=bu.below b37 (by omega);rw[if_pos (by kernel_rfl)];refine wp_store_mid 48 (.tmp 11) (.tmp 46) rfl w4.heap.size 0 (yvA c2 g2 (yT ao m2 ac) p2) (by kernel_rfl) (by kernel_rfl) hth (by kernel_rfl) (by simp[Value.oneCell']) ?_;refine hK.out _ _ trivial (fun hS42=> ?_)
  clear hK K;clear q36 r135 b37 bu hth;refine tq 8 (yi fl) rfl (fun _ _=>by kernel_rfl) hS42 ?_
  refine wpAnyH_done (by kernel_rfl) ?_ _;clear hS0 hS25 hS31 hS38 hS42;change Exit.then _ _ _ _ (World.setCells w32 w4.heap.size 0 (yvL c2 g2 (yT ao m2 ac) p2));generalize World.setCells w32 w4.heap.size 0 (yvL c2 g2 (yT ao m2 ac) p2)=W43 at q39 r40 b41⊢;simp only[Act.put,List.getElem_toArray,List.getElem_cons_succ,List.getElem_cons_zero,List.setIfInBounds_toArray,List.set_cons_zero,List.set_cons_succ];obtain⟨c44,c45,c46,c47⟩:=q39.cs4
  go_wp2_with fail
  refine(HE.out _ _ _ b41 r40).mono ?_;rintro zz w48 ⟨rfl,bb49⟩;have b50:=aa b41 bb49;clear q39 r40 b41 bb49 HE c44 c45 c46 c47
  go_wp2
  go_ret3
  exact⟨by simp,b50⟩
 ·go_simp
  refine(HF.out _).mono ?_;rintro zz w25 ⟨rfl,bb26⟩;have q27:=q21.l bb26;have r28:=r22.l bb26;have b29:=aa b23 bb26;clear q21 r22 b23 bb26;refine hK.out _ _ trivial (fun hS30=> ?_)
  clear hK K;refine wpAnyH_ready (rs:=[0]) (by kernel_rfl) (by simp) ?_;refine AllReadyH.cons rfl (fun K hK=> ?_) AllReadyH.nil
  rw[if_pos (by kernel_rfl)];refine wp_yield (yvV c g (yT vo m vc) p) (fy 48 (.tmp 11) rfl w4.heap.size 0 (by kernel_rfl) _ _ q27.range underlying48 rfl (by kernel_rfl)) ?_;refine hK.out _ _ trivial (fun hS31=> ?_)
  clear hK K;refine wpAnyH_ready (rs:=[3]) (by kernel_rfl) (by simp) ?_;refine AllReadyH.cons rfl (fun K hK=> ?_) AllReadyH.nil
  go_simp
  refine(HM.out _ _ _ b29 r28).mono ?_;rintro zz w32 ⟨v134,rfl,r135,bb33⟩;have q36:=q27.l bb33;have b37:=aa b29 bb33;obtain⟨ao,ac,hv⟩:=r135.shape;subst hv;clear q27 r28 b29 bb33 HM;refine hK.out _ _ trivial (fun hS38=> ?_)
  clear hK K;refine tq 4 (.tuple #[yvV c2 g2 (yT ao m2 ac) p2,yi fl]) rfl (fun _ _=>by kernel_rfl) hS38 ?_
  refine tq 5 (yvV c2 g2 (yT ao m2 ac) p2) rfl (fun _ _=>by go_simp) hS38 ?_
  refine tq 6 (yi fl) rfl (fun _ _=>by go_simp) hS38 ?_
  refine wpAnyH_ready (rs:=[7]) (by kernel_rfl) (by simp) ?_;refine AllReadyH.cons rfl (fun K hK=> ?_) AllReadyH.nil
  have bu:But w4.heap.size w32 (w32.setCells w4.heap.size 0 (yvL c2 g2 (yT ao m2 ac) p2)):=de _ _ _ _;have hth:w32.there w4.heap.size 0 4:=dD q36;have q39:au (w32.setCells w4.heap.size 0 (yvL c2 g2 (yT ao m2 ac) p2)) w4.heap.size 48 (yvL c2 g2 (yT ao m2 ac) p2):=q36.sets _ rfl;have r40:=bu.rd r135 (aX r135 q36 (by simp));have b41:=bu.below b37 (by omega);rw[if_pos (by kernel_rfl)];refine wp_store_mid 48 (.tmp 11) (.tmp 46) rfl w4.heap.size 0 (yvA c2 g2 (yT ao m2 ac) p2) (by kernel_rfl) (by kernel_rfl) hth (by kernel_rfl) (by simp[Value.oneCell']) ?_;refine hK.out _ _ trivial (fun hS42=> ?_)
  clear hK K;clear q36 r135 b37 bu hth;refine tq 8 (yi fl) rfl (fun _ _=>by kernel_rfl) hS42 ?_
  refine wpAnyH_done (by kernel_rfl) ?_ _;clear hS0 hS30 hS31 hS38 hS42;change Exit.then _ _ _ _ (World.setCells w32 w4.heap.size 0 (yvL c2 g2 (yT ao m2 ac) p2));generalize World.setCells w32 w4.heap.size 0 (yvL c2 g2 (yT ao m2 ac) p2)=W43 at q39 r40 b41⊢;simp only[Act.put,List.getElem_toArray,List.getElem_cons_succ,List.getElem_cons_zero,List.setIfInBounds_toArray,List.set_cons_zero,List.set_cons_succ];obtain⟨c44,c45,c46,c47⟩:=q39.cs4
  go_wp2_with fail
  refine(HE.out _ _ _ b41 r40).mono ?_;rintro zz w48 ⟨rfl,bb49⟩;have b50:=aa b41 bb49;clear q39 r40 b41 bb49 HE c44 c45 c46 c47
  go_wp2
  go_ret3
  exact⟨by simp,b50⟩
theorem num_nmR {w:World}{n:Nat}{z:Ending}{w':World}(h:Num w n z w'):NmR w n z w':=by
 obtain⟨v,h1,h2,h3⟩:=h;exact⟨v,h1,h2.rd,h3⟩
theorem two_tw {w:World}{a b:Nat}{z:Ending}{w':World}(h:Two w a b z w'):TwR w a b z w':=by
 obtain⟨v,u,h1,h2,h3,h4⟩:=h;exact⟨v,u,h1,h2.rd,h3.rd,h4⟩
theorem shift1_any (m:Nat)(o:Option Addr)(k:Nat)(w1:World)(hl:(Dg.dg 4294967296 m).length≤900000)(hr:Rd w1 .u32 (yT o m k) (Dg.dg 4294967296 m)):yC 91 #[yT o m k,yi 1] w1 (NmR w1 (m*2)):=by
 have:=eO _ _ 1 w1 hr (Dg.small_dg _ _ (by omega)) (by omega) (by omega) (by omega);rw[Dg.vl_dg _ _ (by omega),CE m 1 (by omega)] at this;exact this.mono fun _ _ h=>num_nmR h
theorem ov_any (m d:Nat)(o:Option Addr)(k:Nat)(o2:Option Addr)(k2:Nat)(w1:World)(hl:(Dg.dg 4294967296 m).length≤900000)(hd:d≠0)(h1:Rd w1 .u32 (yT o m k) (Dg.dg 4294967296 m))(h2:Rd w1 .u32 (yT o2 d k2) (Dg.dg 4294967296 d)):yC 92 #[yT o m k,yT o2 d k2] w1 (TwR w1 (m/d) (m % d)):=by
 have:=A9 _ _ _ _ w1 h1 h2 (Dg.small_dg _ _ (by omega)) (Dg.small_dg _ _ (by omega)) (Dg.norm_dg _ _ (by omega)) (Dg.norm_dg _ _ (by omega)) (fun c=>hd ((Dg.dg_nil_iff 4294967296 _ (by omega)).1 c)) hl
 rw[Dg.vl_dg _ _ (by omega),Dg.vl_dg _ _ (by omega)] at this;exact this.mono fun _ _ h=>two_tw h
theorem fromN_any (d:Nat)(w:World)(hd:d<9223372036854775808):yC 28 #[yi d] w (cG w d):=by
 obtain⟨i0,hi,hz0,hz1,hz2⟩:=info_parts Tryz.infoI64
 go_enter func28,ntmps28
 go_wp2
 go_loopw [0,3] (fun nv av wr=> ∃(x:Nat) (ys:List Nat),x≤d∧nv=yi x∧Own wr w.heap.size 3 .i64 av ys∧Hid (FromI d x ys)∧yB w wr) (fun nv _ _=>(intOf nv).toNat)
 case atStart=>exact⟨d,[],Nat.le_refl _,rfl,aQ _ _ _ _,⟨by show 0+65536^0*d=d;omega,fun i=>by simp,fun _ c=>absurd rfl c⟩,Below.refl _ _⟩
 case round=>
  obtain⟨x,ys,hxd,rfl,own,HI,bel⟩:=hrel
  by_cases hx:x=0
  ·subst hx
   have he:=fromI_end HI.out;subst he;clear HI
   go_wp2
   go_ret
   exact⟨_,rfl,own.rd,bel⟩
  ·have hbs:=bel.size
   have hl:=fromI_len HI.out hx (by omega);have HS:Hid _:=fromI_step HI.out hx;have e1:(x:Int) % 65536=((x % 65536:Nat):Int):=by omega
   have e2:(x:Int)/65536=((x/65536:Nat):Int):=by omega
   have hpos:(0:Int)< (x:Int):=by omega
   have hlt:x/65536<x:=by omega
   obtain⟨r,er⟩: ∃r,x % 65536=r:=⟨_,rfl⟩;obtain⟨q,eq⟩: ∃q,x/65536=q:=⟨_,rfl⟩;rw[er] at e1 HS;rw[eq] at e2 HS hlt;have hql:q≤d:=by omega
   clear HI er eq
   go_wp2_with (at_builtin;refine wpList_append_own _ rfl _ _ 27 rfl w.heap.size 3 i0 (yi 0) 1 8 underlying27 hi hz0 hz1 hz2 rfl (by decide) _ _ _ rfl (World.ownsRow.alloc own _) ⟨wr.heap.size,0,none⟩ 1 1 [yi (r:Int)] rfl rfl ?c1 ?c2 ?c3 ?c4 ?c5 ?_)
   case c1=>exact cell_one_new _ _ _
   case c2=>intro u hu;simp at hu;subst hu;rfl
   case c3=>unfold maxLen;omega
   case c4=>omega
   case c5=>simp;omega
   intro v' w3 hown' hgrow _;have R:=iW bel own hown' hgrow;clear hown' hgrow own
   go_wp2
   go_roundw
   case rel=>exact⟨q,ys++[r],hql,rfl,R.1,HS,R.2⟩
   case measure=>simp[intOf];omega
end Go.Proofs.YtlgkfdcmokchgaaGreatDoor
