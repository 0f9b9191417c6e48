/-
  Texts laid together: Gr2, Gh1, Cv9.
-/
import Derived.Test.YtddkchlamdhgcaaGreatDoorSu12
import Derived.Test.YtddkchlamdhgcaaGreatDoorSu19
set_option maxRecDepth 100000
set_option maxHeartbeats 6400000
namespace Go.Proofs.YtddkchlamdhgcaaGreatDoor
open _root_.Go.Proofs.Tryz
open Go.RowKit
theorem Eh (qs:Bool)(ao:Option Addr)(ca:Nat)(bo:Option Addr)(cb:Nat)(N M:Nat)(E n:Int)(w:World)
  (ha:Rd w .u32 (.slice ao (Dg.dg 4294967296 N).length ca) (Dg.dg 4294967296 N)) (hb:Rd w .u32 (.slice bo (Dg.dg 4294967296 M).length cb) (Dg.dg 4294967296 M)) (hla:(Dg.dg 4294967296 N).length≤100000) (hlb:(Dg.dg 4294967296 M).length≤100000) (hM:0<M) (n1: -500000≤n) (n2:n≤500000):
  Calls Tryz.prog 97 #[.agg #[.bool qs,.slice ao (Dg.dg 4294967296 N).length ca,.slice bo (Dg.dg 4294967296 M).length cb,.int .i64 E],.int .i64 n] w (WH w (eZ N n/dX M n) (eZ N n % dX M n) (dX M n)):=by
 have b1:=af w (.cells #[.bool qs,.slice ao (Dg.dg 4294967296 N).length ca,.slice bo (Dg.dg 4294967296 M).length cb,.int .i64 E] 84);have l1:=ah w [.bool qs,.slice ao (Dg.dg 4294967296 N).length ca,.slice bo (Dg.dg 4294967296 M).length cb,.int .i64 E] 84;have hM0:0<dX M n:=by unfold dX;split<;>first|exact Nat.mul_pos hM (Nat.pow_pos (by omega))|exact hM
 have hNl:(Dg.dg 4294967296 (eZ N n)).length≤115626:=by
  unfold eZ
  split
  ·omega
  ·exact Nat.le_trans (Eg N n.toNat 100000 15626 hla (by omega)) (by omega)
 have HOV:Hid (∀v u w1,Rd w1 .u32 v (Dg.dg 4294967296 (eZ N n))→Rd w1 .u32 u (Dg.dg 4294967296 (dX M n))→Calls Tryz.prog 127 #[v,u] w1 (Two w1 (eZ N n/dX M n) (eZ N n % dX M n))):=fun v u w1 r1 r2=>by
  have:=A9 v u _ _ w1 r1 r2 (Dg.small_dg _ _ (by omega)) (Dg.small_dg _ _ (by omega)) (Dg.norm_dg _ _ (by omega)) (Dg.norm_dg _ _ (by omega)) (by rw[Ne,Dg.dg_nil_iff _ _ (by omega)];omega) (by omega)
  rwa [Dg.vl_dg _ _ (by omega),Dg.vl_dg _ _ (by omega)] at this
 have HSN:Hid (∀w1,Below w.heap.size w w1→ ¬n<0→Calls Tryz.prog 99 #[.slice ao (Dg.dg 4294967296 N).length ca,.int .i64 n] w1 (Num w1 (eZ N n))):=fun w1 b hn=>by
  have:=eO _ _ n w1 (ha.l b) (Dg.small_dg _ _ (by omega)) (by omega) (by omega) (by omega);unfold eZ;rw[if_neg hn]
  rwa [CE _ _ (by omega),Dg.vl_dg _ _ (by omega)] at this
 have HSD:Hid (∀w1,Below w.heap.size w w1→n<0→Calls Tryz.prog 99 #[.slice bo (Dg.dg 4294967296 M).length cb,.int .i64 (-n)] w1 (Num w1 (dX M n))):=fun w1 b hn=>by
  have:=eO _ _ (-n) w1 (hb.l b) (Dg.small_dg _ _ (by omega)) (by omega) (by omega) (by omega);unfold dX;rw[if_pos hn]
  rwa [CE _ _ (by omega),Dg.vl_dg _ _ (by omega)] at this
 have HN0:Hid (n<0→eZ N n=N):=fun h=>if_pos h
 have HD0:Hid (¬n<0→dX M n=M):=fun h=>if_neg h
 have RA:Hid (Rd _ _ _ _):=ha.l b1;have RB:Hid (Rd _ _ _ _):=hb.l b1;obtain⟨ln,hln⟩: ∃l,(Dg.dg 4294967296 N).length=l:=⟨_,rfl⟩;obtain⟨lm,hlm⟩: ∃l,(Dg.dg 4294967296 M).length=l:=⟨_,rfl⟩;obtain⟨X,hX⟩: ∃X,eZ N n=X:=⟨_,rfl⟩;obtain⟨Y,hY⟩: ∃Y,dX M n=Y:=⟨_,rfl⟩;rw[hX] at HOV HSN HN0⊢;rw[hY] at HOV HSD HD0⊢;simp only[hln,hlm] at b1 l1 HSN HSD RA RB⊢;clear ha hb hla hlb hNl hX hY hM0 hln hlm;have c1:=l1.c 1 rfl;have c2:=l1.c 2 rfl
 by_cases hn:n<0
 ·have hw:IntKind.i64.wrap (-n)= -n:=IntWalk.i64_in _ ⟨by omega,by omega⟩
  obtain rfl:=HN0.out hn
  go_enter func97,ntmps97
  go_wp2_with fail
  go_quiet (fail)
  have bd:=aL b1 nq;have ra:=Rd.l RA.out (aL (Below.refl _ _) nq)
  go_wp2_with fail
  refine(HSD.out _ bd hn).mono ?_;rintro z w2 ⟨v2,rfl,o2,b2⟩;have b02:=aa bd b2
  go_wp2_with fail
  refine(HOV.out _ _ _ (ra.l b2) o2.rd).mono ?_;rintro z w3 ⟨v3,v4,rfl,o3,o4,b3⟩;have b03:=aa b02 b3
  go_wp2
  go_ret3
  exact⟨_,_,_,rfl,o3.lower b02.size,o4.lower b02.size,(o2.l b3).rd,b03⟩
 ·have hnf:decide (n<0)=false:=by simp;omega
  obtain rfl:=HD0.out hn
  go_enter func97,ntmps97
  go_wp2_with fail
  go_quiet (fail)
  have bd:=aL b1 nq;have rb:=Rd.l RB.out (aL (Below.refl _ _) nq)
  go_wp2_with fail
  refine(HSN.out _ bd hn).mono ?_;rintro z w2 ⟨v2,rfl,o2,b2⟩;have b02:=aa bd b2;have rb2:=rb.l b2
  go_wp2_with fail
  refine(HOV.out _ _ _ o2.rd rb2).mono ?_;rintro z w3 ⟨v3,v4,rfl,o3,o4,b3⟩;have b03:=aa b02 b3
  go_wp2
  go_ret3
  exact⟨_,_,_,rfl,o3.lower b02.size,o4.lower b02.size,rb2.l b3,b03⟩
theorem WO (qs:Bool)(ao:Option Addr)(ca:Nat)(bo:Option Addr)(cb:Nat)(N M:Nat)(E:Int)(w:World)
  (ha:Rd w .u32 (.slice ao (Dg.dg 4294967296 N).length ca) (Dg.dg 4294967296 N)) (hb:Rd w .u32 (.slice bo (Dg.dg 4294967296 M).length cb) (Dg.dg 4294967296 M)) (hla:(Dg.dg 4294967296 N).length≤10000) (hlb:(Dg.dg 4294967296 M).length≤10000) (hM:0<M) (e1: -500000≤E) (e2:E≤500000):
  Calls Tryz.prog 96 #[.agg #[.bool qs,.slice ao (Dg.dg 4294967296 N).length ca,.slice bo (Dg.dg 4294967296 M).length cb,.int .i64 E]] w fun z w'=>z= .returned (.int .i64 (dY N M E))∧Below w.heap.size w w':=by
 have b1:=af w (.cells #[.bool qs,.slice ao (Dg.dg 4294967296 N).length ca,.slice bo (Dg.dg 4294967296 M).length cb,.int .i64 E] 84);have l1:=ah w [.bool qs,.slice ao (Dg.dg 4294967296 N).length ca,.slice bo (Dg.dg 4294967296 M).length cb,.int .i64 E] 84;have hbn:bitLen N≤32*10000:=oP hla;have hbm:bitLen M≤32*10000:=oP hlb;have HB1:Hid (∀w1,Below w.heap.size w w1→Calls Tryz.prog 126 #[.slice ao (Dg.dg 4294967296 N).length ca] w1 fun z w'=>z= .returned (.int .i64 (bitLen N:Nat))∧w'=w1):=fun w1 b=>by
  have:=kE _ _ w1 (ha.l b) (Dg.small_dg _ _ (by omega)) (Dg.norm_dg _ _ (by omega)) (by omega)
  rwa [Dg.vl_dg _ _ (by omega)] at this
 have HB2:Hid (∀w1,Below w.heap.size w w1→Calls Tryz.prog 126 #[.slice bo (Dg.dg 4294967296 M).length cb] w1 fun z w'=>z= .returned (.int .i64 (bitLen M:Nat))∧w'=w1):=fun w1 b=>by
  have:=kE _ _ w1 (hb.l b) (Dg.small_dg _ _ (by omega)) (Dg.norm_dg _ _ (by omega)) (by omega)
  rwa [Dg.vl_dg _ _ (by omega)] at this
 obtain⟨ld,hld⟩: ∃l,(bitLen N:Int)-(bitLen M:Int)=l:=⟨_,rfl⟩;have HP:Hid (∀w1,Below w.heap.size w w1→Calls Tryz.prog 97 #[.agg #[.bool qs,.slice ao (Dg.dg 4294967296 N).length ca,.slice bo (Dg.dg 4294967296 M).length cb,.int .i64 E],.int .i64 (-ld)] w1 (WH w1 (eZ N (-ld)/dX M (-ld)) (eZ N (-ld) % dX M (-ld)) (dX M (-ld)))):=fun w1 b=>
  Eh qs ao ca bo cb N M E (-ld) w1 (ha.l b) (hb.l b) (by omega) (by omega) hM (by omega) (by omega)
 unfold dY;rw[hld];obtain⟨Q,hQ⟩: ∃Q,eZ N (-ld)/dX M (-ld)=Q:=⟨_,rfl⟩;rw[hQ] at HP⊢;have hQn:=Dg.dg_nil_iff 4294967296 Q (by omega);obtain⟨T,hT⟩: ∃T,E+(ld-(if Q=0 then 1 else 0))=T:=⟨_,rfl⟩
 have HT:Hid _:=hT;rw[hT];clear hT;obtain⟨x,hx⟩: ∃x,bitLen N=x:=⟨_,rfl⟩;obtain⟨y,hy⟩: ∃y,bitLen M=y:=⟨_,rfl⟩;rw[hx] at HB1 hld hbn;rw[hy] at HB2 hld hbm;obtain⟨ln,hln⟩: ∃l,(Dg.dg 4294967296 N).length=l:=⟨_,rfl⟩;obtain⟨lm,hlm⟩: ∃l,(Dg.dg 4294967296 M).length=l:=⟨_,rfl⟩;simp only[hln,hlm] at b1 l1 HB1 HB2 HP⊢;have w1:IntKind.i64.wrap (-ld)= -ld:=IntWalk.i64_in _ ⟨by omega,by omega⟩;have w0:IntKind.i64.wrap ld=ld:=IntWalk.i64_in _ ⟨by omega,by omega⟩;clear ha hb hla hlb hx hy hln hlm hQ hM;have l2:=l1.drew;have bd:=aa b1 ((Below.refl _ _).drew);have c1:=l2.c 1 rfl;have c2:=l2.c 2 rfl;clear l1 b1;have hlde:(x:Int)-(y:Int)=ld:=hld;clear hld
 go_enter func96,ntmps96
 go_wp2_with fail
 go_region_held3 (fun wq=>wq.cell? ⟨w.heap.size,1,none⟩=some (.slice ao ln ca)∧wq.cell? ⟨w.heap.size,2,none⟩=some (.slice bo lm cb)) (go_keep) (first
  | (go_at_call 126;(with_reducible (refine(HB1.out _ bd).mono ?_));rintro z w3 ⟨rfl,rfl⟩)
  | (go_at_call 126;(with_reducible (refine(HB2.out _ bd).mono ?_));rintro z w3 ⟨rfl,rfl⟩))
 have c0:=l2.c 0 rfl;have c3:=l2.c 3 rfl
 go_goals
 go_wp2_with fail
 refine(HP.out _ bd).mono ?_;rintro z w4 ⟨v1,v2,v3,rfl,o1,o2,r3,b4⟩;have b04:=aa bd b4;have l4:=l2.l b4;obtain⟨so,sc,hs⟩:=o1.rd.shape;subst hs;have c4:=l4.c 3 rfl;obtain⟨lq,hlq⟩: ∃l,(Dg.dg 4294967296 Q).length=l:=⟨_,rfl⟩;have hz:lq=0↔Q=0:=by rw[←hlq,List.length_eq_zero_iff];exact hQn
 rw[hlq];clear hlq hQn o1 o2 r3
 by_cases h0:Q=0
 ·have hT2:E+(ld-1)=T:=by rw[←HT.out,if_pos h0]
  subst hT2;have hl0:=hz.2 h0;clear hz h0 HT;subst hl0;have w2:IntKind.i64.wrap (ld-1)=ld-1:=IntWalk.i64_in _ ⟨by omega,by omega⟩;have w3:IntKind.i64.wrap (E+(ld-1))=E+(ld-1):=IntWalk.i64_in _ ⟨by omega,by omega⟩
  go_wp2
  go_ret
  exact⟨rfl,b04⟩
 ·have hT2:E+ld=T:=by rw[←HT.out,if_neg h0,Int.sub_zero]
  subst hT2;have hqf:((lq:Int)==0)=false:=by simp;exact fun h=>h0 (hz.1 h)
  have w3:IntKind.i64.wrap (E+ld)=E+ld:=IntWalk.i64_in _ ⟨by omega,by omega⟩
  go_wp2
  go_ret
  exact⟨rfl,b04⟩
theorem adT (R D L G:Int)(gr s:Bool)(ao:Option Addr)(la ca:Nat)(e sg bl pw K wd:Int)(bs:Bool)(bn:Nat)(be:Int)(un bb hb:Bool)(rd:Nat)(rk:Int)(w:World)
  (hsg:(sg==0)=false) (W1:IntKind.i64.wrap (bl-1)=bl-1) (W2:IntKind.i64.wrap (bl-1+e)=bl-1+e) (W3:IntKind.i64.wrap (wd*K)=wd*K) (W4:IntKind.i64.wrap (e-wd*K)=e-wd*K)
  (hun:un=decide (pw<L)) (hbb:(un&&gr)=bb) (HP1:bb=true→K=L) (HP2:bb=false→K=pw)
  (HH1:hb=true→ ¬K<L∧ ¬G<K∧ ¬be<wd*K) (HH2:hb=false→K<L∨(¬K<L∧G<K)∨(¬K<L∧ ¬G<K∧be<wd*K)) (HR1:hb=true→rk=K) (HR2:hb=false→rd=0∧rk=0)
  (HSG:yH w 137 #[ydV s (.slice ao la ca) e] (yi sg))
  (HDI:yJ 138 #[ydV s (.slice ao la ca) e] (.slice ao la ca))
  (HBI:yH w 126 #[.slice ao la ca] (yi bl))
  (HPW:yJ 95 #[ygV R D L G gr,yi (bl-1+e)] (yi pw))
  (HWD:yJ 98 #[ygV R D L G gr] (yi wd))
  (HBA: ∀w1,yB w w1→yC 139 #[ydV s (.slice ao la ca) e] w1 (jN w1 ⟨bs,bn,be⟩))
  (HSH:hb=true→ ∀w1,yB w w1→yC 99 #[.slice ao la ca,yi (e-wd*K)] w1 (Num w1 rd)):
  yC 108 #[ygV R D L G gr,ydV s (.slice ao la ca) e] w (D7 w hb rd rk):=by
 replace HP1:Hid _:=HP1;replace HP2:Hid _:=HP2;replace HH1:Hid _:=HH1;replace HH2:Hid _:=HH2;replace HR1:Hid _:=HR1;replace HR2:Hid _:=HR2;replace HSG:Hid _:=HSG;replace HDI:Hid _:=HDI;replace HBI:Hid _:=HBI;replace HPW:Hid _:=HPW;replace HWD:Hid _:=HWD;replace HBA:Hid _:=HBA;replace HSH:Hid _:=HSH;have HUN:Hid _:=hun;have HBB:Hid _:=hbb;clear hun hbb;have b1:=aa (aa (af w (.cells (ygA R D L G gr) 133)) (af _ (.cells (ydA s (.slice ao la ca) e) 187))) (af _ (.cells #[yN,yi 0] 145));have g1:=((ah w (ygL R D L G gr) 133).l (af _ (.cells (ydA s (.slice ao la ca) e) 187))).l (af _ (.cells #[yN,yi 0] 145));have q1:=(ah (w.alloc (.cells (ygA R D L G gr) 133)) (ydL s (.slice ao la ca) e) 187).l (af _ (.cells #[yN,yi 0] 145));have c1:=ah ((w.alloc (.cells (ygA R D L G gr) 133)).alloc (.cells (ydA s (.slice ao la ca) e) 187)) [yN,yi 0] 145;simp only[World.size_alloc] at q1 c1;obtain⟨y0,y1,y2⟩:=q1.cs3
 go_enter func108,ntmps108
 go_wp2_with fail
 refine(HSG.out _ b1).mono ?_;rintro z w2 ⟨rfl,bb2⟩;clear y0 y1 y2;have g_2:=g1.l bb2;have q_2:=q1.l bb2;have c_2:=c1.l bb2;have b0_2:=aa b1 bb2;clear g1 q1 c1 b1 bb2;have bd_2:yB w2 w2.drew:=(Below.refl _ _).drew;have g_3:=g_2.l bd_2;have q_3:=q_2.l bd_2;have c_3:=c_2.l bd_2;have b0_3:=aa b0_2 bd_2;clear g_2 q_2 c_2 b0_2 bd_2;obtain⟨x0,x1,x2,x3,x4⟩:=g_3.cs5;obtain⟨y0,y1,y2⟩:=q_3.cs3
 go_wp2_with fail
 go_region_held3 (fun wq=>(wq.cell? ⟨w.heap.size,0,none⟩=some (yi R)∧wq.cell? ⟨w.heap.size,1,none⟩=some (yi D)∧wq.cell? ⟨w.heap.size,2,none⟩=some (yi L)∧wq.cell? ⟨w.heap.size,3,none⟩=some (yi G)∧wq.cell? ⟨w.heap.size,4,none⟩=some (.bool gr))∧wq.cell? ⟨w.heap.size+1,0,none⟩=some (.bool s)∧wq.cell? ⟨w.heap.size+1,1,none⟩=some (.slice ao la ca)∧wq.cell? ⟨w.heap.size+1,2,none⟩=some (yi e)) (go_keep) (first
  | (go_at_call 138;have hgd:=b0_3;clear hgd;refine(HDI.out _).mono ?_;rintro z wa ⟨rfl,bb_wa⟩;have b0_wa:=aa b0_3 bb_wa;have g_wa:=g_3.l bb_wa;have q_wa:=q_3.l bb_wa;have c_wa:=c_3.l bb_wa;obtain⟨xwa0,xwa1,xwa2,xwa3,xwa4⟩:=g_wa.cs5;obtain⟨ywa0,ywa1,ywa2⟩:=q_wa.cs3;clear b0_3)
  | (go_at_call 126;have hgd:=b0_wa;clear hgd;refine(HBI.out _ b0_wa).mono ?_;rintro z wb ⟨rfl,bb_wb⟩;have b0_wb:=aa b0_wa bb_wb;have g_wb:=g_wa.l bb_wb;have q_wb:=q_wa.l bb_wb;have c_wb:=c_wa.l bb_wb;obtain⟨xwb0,xwb1,xwb2,xwb3,xwb4⟩:=g_wb.cs5;obtain⟨ywb0,ywb1,ywb2⟩:=q_wb.cs3;clear b0_wa)
  | (go_at_call 95;have hgd:=b0_wb;clear hgd;refine(HPW.out _).mono ?_;rintro z wc ⟨rfl,bb_wc⟩;have b0_wc:=aa b0_wb bb_wc;have g_wc:=g_wb.l bb_wc;have q_wc:=q_wb.l bb_wc;have c_wc:=c_wb.l bb_wc;obtain⟨xwc0,xwc1,xwc2,xwc3,xwc4⟩:=g_wc.cs5;obtain⟨ywc0,ywc1,ywc2⟩:=q_wc.cs3;clear b0_wb))
 go_goals
 clear x0 x1 x2 x3 x4 y0 y1 y2 xwa0 xwa1 xwa2 xwa3 xwa4 xwb0 xwb1 xwb2 xwb3 xwb4 xwc0 xwc1 xwc2 xwc3 xwc4 ywa0 ywa1 ywa2 ywb0 ywb1 ywb2 ywc0 ywc1 ywc2;have x2:=g_wc.c 2 rfl;have x4:=g_wc.c 4 rfl;have hlt:decide (pw<L)=un:=HUN.out.symm
 go_upto_region 4 with fail
 skip
 go_cut [34] (fun s34 wx=>s34= .bool bb∧wx=wc)
 case first=>
  cases un
  ·go_wp2_with fail
   go_meet
   exact⟨by rw[←HBB.out];rfl,rfl⟩
  ·go_wp2_with fail
   go_meet
   exact⟨by rw[←HBB.out];rfl,rfl⟩
 case rest=>
  obtain⟨rfl,hw34⟩:=hcut;subst hw34
  go_upto_if 34 with fail
  go_cut [6] (fun s6 wx=>s6=yi K∧wx=wc)
  case first=>
   cases bb
   ·have eK:Hid (K=pw):=HP2.out rfl
    go_wp2_with fail
    go_meet
    exact⟨by rw[eK.out],rfl⟩
   ·have eK:Hid (K=L):=HP1.out rfl
    go_wp2_with fail
    go_meet
    exact⟨by rw[eK.out],rfl⟩
  case rest=>
   obtain⟨rfl,hw6⟩:=hcut;subst hw6;clear x2 x4 hlt HP1 HP2;obtain⟨x0,x1,x2,x3,x4⟩:=g_wc.cs5
   go_wp2_with fail
   refine(HWD.out _).mono ?_;rintro z w5 ⟨rfl,bb5⟩;clear x0 x1 x2 x3 x4;have g_11:=g_wc.l bb5;have q_11:=q_wc.l bb5;have c_11:=c_wc.l bb5;have b0_11:=aa b0_wc bb5;clear g_wc q_wc c_wc b0_wc bb5;obtain⟨x0,x1,x2,x3,x4⟩:=g_11.cs5;obtain⟨y0,y1,y2⟩:=q_11.cs3
   cases hb
   ·obtain⟨rfl,rfl⟩:=HR2.out rfl
    have hx:=HH2.out rfl;clear HH1 HH2 HR1 HR2 HSH
    rcases hx with hx| ⟨hx1,hx⟩| ⟨hx1,hx2,hx⟩
    ·skip
     have d0:=c_11.c 0 rfl;have f0:=c_11.f 0;have d1:=c_11.c 1 rfl;have f1:=c_11.f 1
     go_wp2
     have bu:But (w.heap.size+1+1) w5 ((w5.setCell ⟨w.heap.size+1+1,0,none⟩ yN).setCell ⟨w.heap.size+1+1,1,none⟩ (yi 0)):=(ag w5 (w.heap.size+1+1) 0 yN).trans (ag _ (w.heap.size+1+1) 1 (yi 0));have cX:au ((w5.setCell ⟨w.heap.size+1+1,0,none⟩ yN).setCell ⟨w.heap.size+1+1,1,none⟩ (yi 0)) (w.heap.size+1+1) 145 [yN,yi 0]:=(c_11.set 0 yN).set 1 (yi 0);have bX:=bu.below b0_11 (show w.heap.size≤w.heap.size+1+1 by omega)
     obtain⟨s0,s1⟩:=cX.cs2;refine bodyPost_ret (v:= .tuple #[.agg #[yN,yi 0],.bool false]) (by simp[results,results108,go_sem,s0,s1]) rfl ?_;exact⟨_,rfl,aQ _ _ _ _,bX⟩
    ·have e1:decide (K<L)=false:=decide_eq_false (by omega)
     have d0:=c_11.c 0 rfl;have f0:=c_11.f 0;have d1:=c_11.c 1 rfl;have f1:=c_11.f 1
     go_wp2
     have bu:But (w.heap.size+1+1) w5 ((w5.setCell ⟨w.heap.size+1+1,0,none⟩ yN).setCell ⟨w.heap.size+1+1,1,none⟩ (yi 0)):=(ag w5 (w.heap.size+1+1) 0 yN).trans (ag _ (w.heap.size+1+1) 1 (yi 0));have cX:au ((w5.setCell ⟨w.heap.size+1+1,0,none⟩ yN).setCell ⟨w.heap.size+1+1,1,none⟩ (yi 0)) (w.heap.size+1+1) 145 [yN,yi 0]:=(c_11.set 0 yN).set 1 (yi 0);have bX:=bu.below b0_11 (show w.heap.size≤w.heap.size+1+1 by omega)
     obtain⟨s0,s1⟩:=cX.cs2;refine bodyPost_ret (v:= .tuple #[.agg #[yN,yi 0],.bool false]) (by simp[results,results108,go_sem,s0,s1]) rfl ?_;exact⟨_,rfl,aQ _ _ _ _,bX⟩
    ·have e1:decide (K<L)=false:=decide_eq_false (by omega)
     have e2:decide (G<K)=false:=decide_eq_false (by omega)
     go_wp2_with fail
     refine(HBA.out _ b0_11).mono ?_;rintro z w6 ⟨vb,rfl,ob6,bb6⟩;obtain⟨vo6,vc6,hvb6⟩:=ob6.rd.shape;subst hvb6;clear ob6;have hfd:=fun W=>G0 bs vo6 (Dg.dg 4294967296 bn).length vc6 be W
     have hfe:=fun W=>Ju bs vo6 (Dg.dg 4294967296 bn).length vc6 be W
     clear x0 x1 x2 x3 x4 y0 y1 y2;have g_12:=g_11.l bb6;have q_12:=q_11.l bb6;have c_12:=c_11.l bb6;have b0_12:=aa b0_11 bb6;clear g_11 q_11 c_11 b0_11 bb6;have d0:=c_12.c 0 rfl;have f0:=c_12.f 0;have d1:=c_12.c 1 rfl;have f1:=c_12.f 1
     go_wp2
     have bu:But (w.heap.size+1+1) w6 ((w6.setCell ⟨w.heap.size+1+1,0,none⟩ yN).setCell ⟨w.heap.size+1+1,1,none⟩ (yi 0)):=(ag w6 (w.heap.size+1+1) 0 yN).trans (ag _ (w.heap.size+1+1) 1 (yi 0));have cX:au ((w6.setCell ⟨w.heap.size+1+1,0,none⟩ yN).setCell ⟨w.heap.size+1+1,1,none⟩ (yi 0)) (w.heap.size+1+1) 145 [yN,yi 0]:=(c_12.set 0 yN).set 1 (yi 0);have bX:=bu.below b0_12 (show w.heap.size≤w.heap.size+1+1 by omega)
     obtain⟨s0,s1⟩:=cX.cs2;refine bodyPost_ret (v:= .tuple #[.agg #[yN,yi 0],.bool false]) (by simp[results,results108,go_sem,s0,s1]) rfl ?_;exact⟨_,rfl,aQ _ _ _ _,bX⟩
   ·obtain⟨h1,h2,h3⟩:=HH1.out rfl
    have hrk:=HR1.out rfl;have HS1:Hid _:=HSH.out rfl;clear HH1 HH2 HR1 HR2 HSH;subst hrk;have e1:decide (rk<L)=false:=decide_eq_false (by omega);have e2:decide (G<rk)=false:=decide_eq_false (by omega);have e3:decide (be<wd*rk)=false:=decide_eq_false (by omega)
    go_wp2_with fail
    refine(HBA.out _ b0_11).mono ?_;rintro z w6 ⟨vb,rfl,ob6,bb6⟩;obtain⟨vo6,vc6,hvb6⟩:=ob6.rd.shape;subst hvb6;clear ob6;have hfd:=fun W=>G0 bs vo6 (Dg.dg 4294967296 bn).length vc6 be W
    have hfe:=fun W=>Ju bs vo6 (Dg.dg 4294967296 bn).length vc6 be W
    clear x0 x1 x2 x3 x4 y0 y1 y2;have g_12:=g_11.l bb6;have q_12:=q_11.l bb6;have c_12:=c_11.l bb6;have b0_12:=aa b0_11 bb6;clear g_11 q_11 c_11 b0_11 bb6;have bd_12:yB w6 w6.drew:=(Below.refl _ _).drew;have g_13:=g_12.l bd_12;have q_13:=q_12.l bd_12;have c_13:=c_12.l bd_12;have b0_13:=aa b0_12 bd_12;clear g_12 q_12 c_12 b0_12 bd_12;obtain⟨y0,y1,y2⟩:=q_13.cs3;have nA:w.heap.size+1+1≠w.heap.size+1:=by omega
    go_wp2_with fail
    go_region_held3 (fun wq=>wq.cell? ⟨w.heap.size+1,0,none⟩=some (.bool s)∧wq.cell? ⟨w.heap.size+1,1,none⟩=some (.slice ao la ca)∧wq.cell? ⟨w.heap.size+1,2,none⟩=some (yi e)) (go_keep) (first
     | (go_at_call 138;have hgd:=b0_13;clear hgd;refine(HDI.out _).mono ?_;rintro z wf ⟨rfl,bb_wf⟩;have b0_wf:=aa b0_13 bb_wf;have g_wf:=g_13.l bb_wf;have q_wf:=q_13.l bb_wf;have c_wf:=c_13.l bb_wf;obtain⟨ywf0,ywf1,ywf2⟩:=q_wf.cs3;clear b0_13)
     | (go_at_call 99;have hgd:=b0_wf;clear hgd;refine(HS1.out _ b0_wf).mono ?_;rintro z wg ⟨vs,rfl,os,bb_wg⟩;have b0_wg:=aa b0_wf bb_wg;have g_wg:=g_wf.l bb_wg;have q_wg:=q_wf.l bb_wg;have c_wg:=c_wf.l bb_wg;obtain⟨ywg0,ywg1,ywg2⟩:=q_wg.cs3;obtain⟨so,sc,hvs⟩:=os.rd.shape;subst hvs;obtain⟨d0,d1⟩:=c_wg.cs2;have f0:=c_wg.f 0;have f1:=c_wg.f 1;have oL:=os.lower b0_wf.size;clear b0_wf))
    go_goals
    clear d0 d1 f0 f1;have d0:=c_wg.c 0 rfl;have f0:=c_wg.f 0;have d1:=c_wg.c 1 rfl;have f1:=c_wg.f 1
    go_wp2
    have bu:But (w.heap.size+1+1) wg ((wg.setCell ⟨w.heap.size+1+1,0,none⟩ (yT so rd sc)).setCell ⟨w.heap.size+1+1,1,none⟩ (yi rk)):=(ag wg (w.heap.size+1+1) 0 (yT so rd sc)).trans (ag _ (w.heap.size+1+1) 1 (yi rk));have cX:au ((wg.setCell ⟨w.heap.size+1+1,0,none⟩ (yT so rd sc)).setCell ⟨w.heap.size+1+1,1,none⟩ (yi rk)) (w.heap.size+1+1) 145 [yT so rd sc,yi rk]:=(c_wg.set 0 (yT so rd sc)).set 1 (yi rk);have bX:=bu.below b0_wg (show w.heap.size≤w.heap.size+1+1 by omega)
    have oX:=bu.own oL c_wg (by decide);obtain⟨s0,s1⟩:=cX.cs2;refine bodyPost_ret (v:= .tuple #[.agg #[yT so rd sc,yi rk],.bool true]) (by simp[results,results108,go_sem,s0,s1]) rfl ?_;exact⟨_,rfl,oX,bX⟩
theorem toInts_in (gx ps ex ov un:Bool)(x ua ub lw:ak)(P H:Nat)(pp c1 c2:Int)(FL:Nat)(n wy r fl:Int)(s:ByteArray)(w:World)(h1:c1<0)(h2:c2<0)(hlen:(Dg.dg 65536 FL).length≤4)(hfl63:FL≤9223372036854775808)(hps:ps=false→FL<9223372036854775808)(hr:r=if ps=true then-(FL:Int) else FL)(hfl:fl=if ex=true then 0 else 1)
  (HA:yH w 7 #[yi n,.string s,yi wy] (.tuple #[yi r,yi fl,yi 0]))
  (HO: ∀pb w1,au w1 pb 9 [.string s]→yC 8 #[yi n,yi wy,.slice (some ⟨pb,0,none⟩) 1 1] w1 fun zz w'=> ∃gb cap xo xc,zz= .returned (.tuple #[.slice (some ⟨gb,0,none⟩) 1 cap,yi 0])∧w'.rangeAt gb 0 (yoL 2 gx x.s (yS xo x.n xc) x.e)∧Rd w' .i64 (yS xo x.n xc) (Dg.dg 65536 x.n)∧yB w1 w')
  (HD: ∀xo xc w1,yC 10 #[ydV x.s (yS xo x.n xc) x.e] w1 fun z w'=> ∃eo ec,z= .returned (yrV x.s (yS xo x.n xc) (.slice eo 1 ec) x.e)∧Rd w' .i64 (.slice eo 1 ec) [1]∧yB w1 w')
  (HR: ∀xo xc eo ec w1,yB w w1→Rd w1 .i64 (yS xo x.n xc) (Dg.dg 65536 x.n)→Rd w1 .i64 (.slice eo 1 ec) [1]→yC 9 #[yrV x.s (yS xo x.n xc) (.slice eo 1 ec) x.e,ygV 2 17000 0 17000 true,yi wy] w1 fun z w'=> ∃qo qc,z= .returned (ypV ps (yS qo P qc) pp ex ov un)∧Rd w' .i64 (yS qo P qc) (Dg.dg 65536 P)∧yB w1 w')
  (HP: ∀w1,yC 13 #[yi 63] w1 (cG w1 H))
  (HM: ∀mo mc w1,yB w w1→Rd w1 .i64 (yS mo H mc) (Dg.dg 65536 H)→yC 12 #[ydV false (yS mo H mc) 0] w1 (dr w1 ua))
  (HN: ∀q w1,au w1 q 3 [yi 1]→yC 12 #[ydV false (.slice (some ⟨q,0,none⟩) 1 1) 0] w1 (dr w1 ub))
  (HL: ∀uo uc vo vc w1,yB w w1→Rd w1 .i64 (yS uo ua.n uc) (Dg.dg 65536 ua.n)→Rd w1 .i64 (yS vo ub.n vc) (Dg.dg 65536 ub.n)→yC 11 #[ydV ua.s (yS uo ua.n uc) ua.e,ydV ub.s (yS vo ub.n vc) ub.e] w1 (dr w1 lw))
  (HC: ∀jo jc qo qc w1,yB w w1→Rd w1 .i64 (yS jo lw.n jc) (Dg.dg 65536 lw.n)→Rd w1 .i64 (yS qo P qc) (Dg.dg 65536 P)→yC 14 #[ydV lw.s (yS jo lw.n jc) lw.e,ydV ps (yS qo P qc) pp] w1 (yR w1 (yi c1)))
  (HE: ∀qo qc ko kc w1,yB w w1→Rd w1 .i64 (yS qo P qc) (Dg.dg 65536 P)→Rd w1 .i64 (yS ko H kc) (Dg.dg 65536 H)→yC 14 #[ydV ps (yS qo P qc) pp,ydV false (yS ko H kc) 0] w1 (yR w1 (yi c2)))
  (HG: ∀qo qc w1,yB w w1→Rd w1 .i64 (yS qo P qc) (Dg.dg 65536 P)→yC 15 #[ydV false (yS qo P qc) pp] w1 (cG w1 FL))
  (HB:yH w 16 #[] (.bool true)):
  yC 3 #[yi n,.string s,yi wy] w (yR w (.bool true)):=by
 replace HA:Hid _:=HA;replace HO:Hid _:=HO;replace HD:Hid _:=HD;replace HR:Hid _:=HR;replace HP:Hid _:=HP;replace HM:Hid _:=HM;replace HN:Hid _:=HN;replace HL:Hid _:=HL;replace HC:Hid _:=HC;replace HE:Hid _:=HE;replace HG:Hid _:=HG;replace HB:Hid _:=HB;replace hr:Hid _:=hr;replace hfl:Hid _:=hfl;replace hps:Hid _:=hps
 go_enter func3,ntmps3
 have b0:=Below.refl w.heap.size w
 go_wp2_with fail
 refine(HA.out _ b0).mono ?_;rintro zz w1 ⟨rfl,bb2⟩;have b3:=aa b0 bb2;clear b0 bb2 HA;have al4:=af w1 (.cells #[.string s] 9);have q5:=ah w1 [.string s] 9;have b6:=aa b3 al4
 go_wp2_with fail
 refine(HO.out _ _ q5).mono ?_;rintro zz w7 ⟨gb,cap,xo,xc,rfl,h0,rxx9,bb8⟩;have b10:=aa b6 bb8;clear q5 b6 bb8 HO b3 al4;have c11:=h0 0 _ rfl;have c12:=h0 2 _ rfl;have c13:=h0 3 _ rfl;have c14:=h0 4 _ rfl
 go_wp2_with fail
 refine(HD.out _ _ _).mono ?_;rintro zz w15 ⟨eo,ec,rfl,r1x17,bb16⟩;have r18:=rxx9.l bb16;have b19:=aa b10 bb16;clear h0 rxx9 b10 bb16 HD c11 c12 c13 c14
 go_wp2_with fail
 refine(HR.out _ _ _ _ _ b19 r18 r1x17).mono ?_;rintro zz w20 ⟨qo,qc,rfl,r1x22,bb21⟩;have b23:=aa b19 bb21;clear r18 r1x17 b19 bb21 HR;obtain⟨W26,hW25,q27,al24⟩:=cA w20 (ypL ps (yS qo P qc) pp ex ov un) 34;replace hW25:Hid _:=hW25;have hl28:w.heap.size≤w20.heap.size:=b23.size;have r29:=r1x22.l al24;have b30:=aa b23 al24;clear r1x22 b23 al24
 go_upto_region 10 with fail
 rw[hW25.out];clear hW25;obtain⟨W33,hW32,q34,al31⟩:=cA W26 (ydL ps (yS qo P qc) pp) 30;replace hW32:Hid _:=hW32;have hl35:w.heap.size≤W26.heap.size:=b30.size;have hl36:=q27.lt;have c37:=q27.c 0 rfl;have c38:=q27.c 1 rfl;have c39:=q27.c 2 rfl;have q40:=q27.l al31;have r41:=r29.l al31;have b42:=aa b30 al31;clear q27 r29 b30 al31
 go_upto_region 11 with fail
 rw[hW32.out];clear c37 c38 c39 hW32
 go_wp2_with fail
 refine(HP.out _).mono ?_;rintro zz w43 ⟨v1x45,rfl,r1x46,bb44⟩;have q47:=q40.l bb44;have q48:=q34.l bb44;have r49:=r41.l bb44;have b50:=aa b42 bb44;obtain⟨mo,mc,hv⟩:=r1x46.shape;subst hv;clear q40 q34 r41 b42 bb44
 go_wp2_with fail
 refine(HM.out _ _ _ b50 r1x46).mono ?_;rintro zz w51 ⟨v1x53,rfl,r1x54,bb52⟩;have q55:=q47.l bb52;have q56:=q48.l bb52;have r57:=r49.l bb52;have b58:=aa b50 bb52;obtain⟨uo,uc,hv⟩:=r1x54.shape;subst hv;clear q47 q48 r49 r1x46 b50 bb52 HM;have al59:=af w51 (.cells #[yi 1] 3);have q60:=ah w51 [yi 1] 3;have q61:=q55.l al59;have q62:=q56.l al59;have r63:=r57.l al59;have r64:=r1x54.l al59;have b65:=aa b58 al59
 go_wp2_with fail
 refine(HN.out _ _ q60).mono ?_;rintro zz w66 ⟨v1x68,rfl,r1x69,bb67⟩;have q70:=q61.l bb67;have q71:=q62.l bb67;have r72:=r63.l bb67;have r73:=r64.l bb67;have b74:=aa b65 bb67;obtain⟨vo,vc,hv⟩:=r1x69.shape;subst hv;clear q61 q62 q60 r63 r64 b65 bb67 HN q55 q56 r57 r1x54 b58 al59
 go_wp2_with fail
 refine(HL.out _ _ _ _ _ b74 r73 r1x69).mono ?_;rintro zz w75 ⟨v1x77,rfl,r1x78,bb76⟩;have q79:=q70.l bb76;have q80:=q71.l bb76;have r81:=r72.l bb76;have b82:=aa b74 bb76;obtain⟨jo,jc,hv⟩:=r1x78.shape;subst hv;clear q70 q71 r72 r73 r1x69 b74 bb76 HL;obtain⟨W85,hW84,q86,al83⟩:=cA w75 (ydL lw.s (yS jo lw.n jc) lw.e) 30;replace hW84:Hid _:=hW84;have hl87:w.heap.size≤w75.heap.size:=b82.size;have hl88:=q79.lt;have hl89:=q80.lt;have q90:=q79.l al83;have q91:=q80.l al83;have r92:=r81.l al83;have r93:=r1x78.l al83;have b94:=aa b82 al83;clear q79 q80 r81 r1x78 b82 al83
 go_upto_region 12 with fail
 rw[hW84.out];clear hW84
 go_upto_region 12 with fail
 have bW95:yB W85 W85.drew:=(Below.refl _ _).drew;have q96:=q90.l bW95;have q97:=q91.l bW95;have q98:=q86.l bW95;have r99:=r92.l bW95;have r100:=r93.l bW95;have b101:=aa b94 bW95;clear q90 q91 q86 r92 r93 b94 bW95;refine wp_region_held_drew (S:=fun wq=>au wq W26.heap.size 30 (ydL ps (yS qo P qc) pp)∧au wq w75.heap.size 30 (ydL lw.s (yS jo lw.n jc) lw.e)) (by kernel_rfl) ⟨q97,q98⟩ (fun hS0=> ?_)
 generalize W85.drew=WD102 at q96 q97 q98 r99 r100 b101 hS0⊢;refine tq 0 (ydV lw.s (yS jo lw.n jc) lw.e) rfl (fun _ hw0=>fy 30 (.tmp 16) rfl w75.heap.size 0 (by kernel_rfl) _ _ hw0.2.range underlying30 rfl (by kernel_rfl)) hS0 ?_
 refine tq 1 (ydV ps (yS qo P qc) pp) rfl (fun _ hw0=>fy 30 (.tmp 15) rfl W26.heap.size 0 (by kernel_rfl) _ _ hw0.1.range underlying30 rfl (by kernel_rfl)) hS0 ?_
 refine wpAnyH_ready (rs:=[2]) (by kernel_rfl) (by simp) ?_;refine AllReadyH.cons rfl (fun K hK=> ?_) AllReadyH.nil
 go_simp
 refine(HC.out _ _ _ _ _ b101 r100 r99).mono ?_;rintro zz w103 ⟨rfl,bb104⟩;have q105:=q96.l bb104;have q106:=q97.l bb104;have q107:=q98.l bb104;have r108:=r99.l bb104;have b109:=aa b101 bb104;clear q96 q97 q98 r99 r100 b101 bb104 HC;refine hK.out _ _ ⟨q106,q107⟩ (fun hS110=> ?_)
 clear hK K;refine tq 3 (.bool true) rfl (fun _ _=>by go_simp) hS110 ?_
 refine tq 4 (.bool true) rfl (fun _ _=>by kernel_rfl) hS110 ?_
 refine tq 5 (ydV ps (yS qo P qc) pp) rfl (fun _ hw0=>fy 30 (.tmp 15) rfl W26.heap.size 0 (by kernel_rfl) _ _ hw0.1.range underlying30 rfl (by kernel_rfl)) hS110 ?_
 refine wpAnyH_ready (rs:=[6]) (by kernel_rfl) (by simp) ?_;refine AllReadyH.cons rfl (fun K hK=> ?_) AllReadyH.nil
 go_simp
 refine(HP.out _).mono ?_;rintro zz w111 ⟨v1x113,rfl,r1x114,bb112⟩;have q115:=q105.l bb112;have q116:=q106.l bb112;have q117:=q107.l bb112;have r118:=r108.l bb112;have b119:=aa b109 bb112;obtain⟨ko,kc,hv⟩:=r1x114.shape;subst hv;clear q105 q106 q107 r108 b109 bb112 HP;refine hK.out _ _ ⟨q116,q117⟩ (fun hS120=> ?_)
 clear hK K;refine tq 7 (ydV false (yS ko H kc) 0) rfl (fun _ _=>by kernel_rfl) hS120 ?_
 refine wpAnyH_ready (rs:=[8]) (by kernel_rfl) (by simp) ?_;refine AllReadyH.cons rfl (fun K hK=> ?_) AllReadyH.nil
 go_simp
 refine(HE.out _ _ _ _ _ b119 r118 r1x114).mono ?_;rintro zz w121 ⟨rfl,bb122⟩;have q123:=q115.l bb122;have q124:=q116.l bb122;have q125:=q117.l bb122;have r126:=r118.l bb122;have b127:=aa b119 bb122;clear q115 q116 q117 r118 r1x114 b119 bb122 HE;refine hK.out _ _ ⟨q124,q125⟩ (fun hS128=> ?_)
 clear hK K;refine tq 9 (.bool true) rfl (fun _ _=>by go_simp) hS128 ?_
 refine tq 10 (.bool true) rfl (fun _ _=>by kernel_rfl) hS128 ?_
 refine wpAnyH_done (by kernel_rfl) ?_ _;clear hS0 hS110 hS120 hS128;simp only[Act.put,List.getElem_toArray,List.getElem_cons_succ,List.getElem_cons_zero,List.setIfInBounds_toArray,List.set_cons_zero,List.set_cons_succ];have c129:=q123.c 1 rfl;have c130:=q123.c 2 rfl
 go_wp2_with fail
 refine(HG.out _ _ _ b127 r126).mono ?_;rintro zz w131 ⟨v1x133,rfl,r1x134,bb132⟩;have q135:=q123.l bb132;have b136:=aa b127 bb132;obtain⟨yo,yc,hv⟩:=r1x134.shape;subst hv;clear q123 q124 q125 r126 b127 bb132 HG c129 c130;have ry:=r1x134;have lq:=q135;have bz:=b136;obtain⟨ds,hds⟩: ∃ds,Dg.dg 65536 FL=ds:=⟨_,rfl⟩;rw[hds] at ry hlen⊢;have hvl:Dg.vl 65536 ds=FL:=by rw[←hds];exact Dg.vl_dg _ _ (by omega)
 clear hds;obtain⟨ao1,ca1,hve,-,-,hrow⟩:=ry
 cases hve
 clear q135 r1x134 b136
 go_wp2
 go_loopw [12,18] (fun av iv wr=> ∃j:Nat,j≤ds.length∧iv=yi ((ds.length:Int)-1-(j:Int))∧av=yi (-((Dg.vl 65536 (ds.drop (ds.length-j)):Nat):Int))∧wr=w131) (fun _ iv _=>(intOf iv+1).toNat)
 case atStart=>exact⟨0,by omega,by simp,by rw[Nat.sub_zero,List.drop_length];rfl,rfl⟩
 case round=>
  obtain⟨j,hj,rfl,rfl,hwr⟩:=hrel;subst hwr
  by_cases hlt:j<ds.length
  ·obtain⟨i,hi⟩: ∃i,ds.length-1-j=i:=⟨_,rfl⟩
   have hiI:(ds.length:Int)-1-(j:Int)=(i:Int):=by omega
   have e1:ds.length-j=i+1:=by omega
   have e2:ds.length-(j+1)=i:=by omega
   have hil:i<ds.length:=by omega
   obtain⟨hV,hle⟩:=drop_vl65 ds i hil;rw[hvl] at hle;obtain⟨cb,off,hao,hc⟩:=hrow (by omega);have hx:=hc i hil;subst hao;rw[hiI,e1];obtain⟨dg0,hdg⟩: ∃d,ds.getD i 0=d:=⟨_,rfl⟩;obtain⟨V1,hV1⟩: ∃d,Dg.vl 65536 (ds.drop (i+1))=d:=⟨_,rfl⟩;obtain⟨V0,hV0⟩: ∃d,Dg.vl 65536 (ds.drop i)=d:=⟨_,rfl⟩;rw[hdg,hV1,hV0] at hV;rw[hV0] at hle;rw[hdg] at hx;rw[hV1];have HK:Hid (_∧_∧_):=⟨hV0,hV,e2⟩;have hb1:(dg0:Int)+65536*(V1:Int)≤9223372036854775808:=by omega
   clear hV0 hV1 hV hdg hc e1 e2 hi hle
   go_wp2
   go_roundw
   case rel=>exact⟨j+1,by omega,by go_num,by rw[HK.out.2.2,HK.out.1,HK.out.2.1];go_num,trivial⟩
   case measure=>simp[intOf]
  ·obtain rfl:j=ds.length:=by omega
   rw[Nat.sub_self,List.drop_zero,hvl];obtain⟨k0,k1,k2,k3,k4,k5⟩:=lq.cs6;clear hrow lq;replace hr:=hr.out;replace hfl:=hfl.out;replace hps:=hps.out
   cases ps
   all_goals cases ex
   all_goals simp at hr hfl hps
   all_goals subst hr hfl
   all_goals
    go_wp2_with fail
    refine(HB.out _ bz).mono ?_;rintro zz wz ⟨rfl,bb⟩;have bf:=aa bz bb;clear k0 k1 k2 k3 k4 k5 bz bb
    go_wp2
    go_ret
    exact⟨by simp,bf⟩
end Go.Proofs.YtddkchlamdhgcaaGreatDoor
