/-
  Texts laid together: Over, Gr2, Gh1.
-/
import Derived.Test.YtpgijbdgljkeeaaGreatDoorUx14
import Derived.Test.YtpgijbdgljkeeaaGreatDoorUx15
import Derived.Test.YtpgijbdgljkeeaaGreatDoorUx16
set_option maxRecDepth 100000
set_option maxHeartbeats 6400000
namespace Go.Proofs.YtpgijbdgljkeeaaGreatDoor
open _root_.Go.Proofs.Tryz
open Go.RowKit
theorem A9 (va vb:Value)(xs ys:List Nat)(w:World)(ha:Rd w .u32 va xs)(hb:Rd w .u32 vb ys)(sa:Dg.Small 4294967296 xs)(sb:Dg.Small 4294967296 ys)(na:Dg.Norm xs)(nb:Dg.Norm ys)(hne:ys≠[])(hla:xs.length≤900000):
  yC 101 #[va,vb] w (Two w (Dg.vl 4294967296 xs/Dg.vl 4294967296 ys) (Dg.vl 4294967296 xs % Dg.vl 4294967296 ys)):=by
 have hcm:=jF va vb xs ys w ha hb sa sb na nb;have hY0:0<Dg.vl 4294967296 ys:=Nat.pos_of_ne_zero (Dg.vl_ne_zero 4294967296 (by omega) ys hne nb);have hln:0<ys.length:=List.length_pos_iff.2 hne
 by_cases hlt:Dg.vl 4294967296 xs<Dg.vl 4294967296 ys
 ·rw[gX (by omega)] at hcm
  rw[Nat.div_eq_of_lt hlt,Nat.mod_eq_of_lt hlt];have HX:Hid (xs=Dg.dg 4294967296 (Dg.vl 4294967296 xs)):=Dg.eq_dg 4294967296 (by omega) xs _ sa na rfl;have HA:Hid (Rd w .u32 va xs):=ha;obtain⟨ao,ca,rfl⟩:=ha.shape;obtain⟨bo,cb,rfl⟩:=hb.shape;clear ha hb sa sb na nb hne hlt hY0
  go_enter func101,ntmps101
  go_wp2_with fail
  refine hcm.mono ?_;rintro e w1 ⟨rfl,b1⟩;clear hcm
  go_wp2_with fail
  refine(Bz _ xs w1 (HA.out.l b1) (by omega)).mono ?_;rintro e w2 ⟨rfl,own2,b2⟩;have own2:=own2.lower b1.size;have b12:=aa b1 b2;clear b1 b2 HA
  go_wp2
  go_ret2
  exact⟨_,_,rfl,aQ _ _ _ _,HX.out▸own2,b12⟩
 ·have hd:=Xx (a:=(Dg.vl 4294967296 xs:Int)) (b:=(Dg.vl 4294967296 ys:Int)) (by omega)
  obtain⟨r,hr⟩: ∃r,dm (Dg.vl 4294967296 xs) (Dg.vl 4294967296 ys)=r:=⟨_,rfl⟩;rw[hr] at hd hcm;clear hr;have HA:Hid (Rd w .u32 va xs):=ha;have HB:Hid (Rd w .u32 vb ys):=hb;obtain⟨ao,ca,rfl⟩:=ha.shape;obtain⟨bo,cb,rfl⟩:=hb.shape
  by_cases h1:ys.length=1
  ·obtain⟨d,rfl⟩: ∃d,ys=[d]:=List.length_eq_one_iff.1 h1
   have hv:Dg.vl 4294967296 [d]=d:=by simp[Dg.vl]
   have hdl:d<4294967296:=(Dg.small_cons.1 sb).1;rw[hv] at hY0⊢;clear ha hb hlt hv h1 hln hne nb sb
   go_enter func101,ntmps101
   go_wp2_with fail
   refine hcm.mono ?_;rintro e w1 ⟨rfl,b1⟩;clear hcm
   go_wp2_with fail
   refine(Bz _ xs w1 (HA.out.l b1) (by omega)).mono ?_;rintro e w2 ⟨rfl,own2,b2⟩;have b12:=aa b1 b2;obtain⟨-,-,hcb⟩:=iQ (HB.out.l b12);obtain⟨bb,boff,rfl,hcell⟩:=hcb (by simp);have hc:=hcell 0 (by simp);simp only[List.getD_cons_zero,Nat.add_zero] at hc;clear hcell hcb
   go_wp2_with fail
   refine(uG _ _ _ _ xs d w2 own2 sa hY0 hdl (by omega)).mono ?_;rintro e w3 ⟨qs,rfl,own3,hql,hqs,hqv,gr3⟩;have b13:=b12.grown gr3 b12.size (fun k hk=>by cases hk;exact b1.size)
   have r3:=own3.rd;have own3:=own3.lower b1.size;obtain⟨rm,hrm⟩: ∃rm,Dg.vl 4294967296 xs % d=rm:=⟨_,rfl⟩;rw[hrm];have hrl:rm<4294967296:=by have:=Nat.mod_lt (Dg.vl 4294967296 xs) hY0;omega
   clear gr3 own2 b12 b2 hc
   go_wp2_with fail
   refine(jD _ _ _ _ _ r3).mono ?_;rintro e w4 ⟨m,rfl,hm,rfl⟩;have t3:=jW 4294967296 (by omega) own3 hqs hm;rw[hqv] at t3;have ownd:=zf w4 w.heap.size 138 rm b13.size;have b4:yB w4 (w4.alloc (.cells #[.int .u32 (rm:Int)] 138)):=(Below.refl _ _).alloc (Nat.le_refl _) _;have t4:=t3.l b4;have b14:=aa b13 b4;have rd4:=ownd.rd;clear own3 r3 hm t3 b4 b13 b1 hqv
   go_wp2_with fail
   refine(jD _ _ _ _ _ rd4).mono ?_;rintro e w5 ⟨m2,rfl,hm2,rfl⟩;have t5:=jW 4294967296 (by omega) ownd (Dg.small_cons.2 ⟨hrl,Dg.small_nil _ (by omega)⟩) hm2;rw[show Dg.vl 4294967296 [rm]=rm from by simp[Dg.vl]] at t5
   clear ownd rd4 hm2
   go_wp2
   go_ret2
   exact⟨_,_,rfl,t4,by rw[hrm];exact t5,b14⟩
  ·have hll:ys.length≤xs.length:=by
    rcases Nat.lt_or_ge xs.length ys.length with e|e
    ·exact absurd (Dg.vl_lt_of_len 4294967296 (by omega) xs ys sa nb e) hlt
    ·exact e
   have HLO:Hid (∀w1,yB w w1→yC 140 #[.slice ao xs.length ca,.slice bo ys.length cb] w1 (Two w1 (Dg.vl 4294967296 xs/Dg.vl 4294967296 ys) (Dg.vl 4294967296 xs % Dg.vl 4294967296 ys))):=fun w1 b1=>
    JS _ _ xs ys w1 (ha.l b1) (hb.l b1) sa sb nb (by omega) hll hla
   obtain⟨q,hq⟩: ∃q,Dg.vl 4294967296 xs/Dg.vl 4294967296 ys=q:=⟨_,rfl⟩;obtain⟨m,hm⟩: ∃m,Dg.vl 4294967296 xs % Dg.vl 4294967296 ys=m:=⟨_,rfl⟩;rw[hq,hm] at HLO⊢;have h2:((ys.length:Int)==1)=false:=by simp;omega
   clear ha hb hlt hne nb sb na sa hY0 hq hm HA HB
   go_enter func101,ntmps101
   go_wp2_with fail
   refine hcm.mono ?_;rintro e w1 ⟨rfl,b1⟩;clear hcm
   go_wp2_with fail
   refine(HLO.out w1 b1).mono ?_;rintro e w2 ⟨v1,v2,rfl,o1,o2,b2⟩;have o1:=o1.lower b1.size;have o2:=o2.lower b1.size;have b12:=aa b1 b2;clear b1 b2 HLO
   go_wp2
   go_ret2
   exact⟨_,_,rfl,o1,o2,b12⟩
theorem Eh (qs:Bool)(ao:Option Addr)(ca:Nat)(bo:Option Addr)(cb:Nat)(N M:Nat)(E n:Int)(w:World)
  (ha:Rd w .u32 (.slice ao (Dg.dg 4294967296 N).length ca) (Dg.dg 4294967296 N)) (hb:Rd w .u32 (.slice bo (Dg.dg 4294967296 M).length cb) (Dg.dg 4294967296 M)) (hla:(Dg.dg 4294967296 N).length≤100000) (hlb:(Dg.dg 4294967296 M).length≤100000) (hM:0<M) (n1: -500000≤n) (n2:n≤500000):
  Calls Tryz.prog 169 #[.agg #[.bool qs,.slice ao (Dg.dg 4294967296 N).length ca,.slice bo (Dg.dg 4294967296 M).length cb,.int .i64 E],.int .i64 n] w (WH w (eZ N n/dX M n) (eZ N n % dX M n) (dX M n)):=by
 have b1:=af w (.cells #[.bool qs,.slice ao (Dg.dg 4294967296 N).length ca,.slice bo (Dg.dg 4294967296 M).length cb,.int .i64 E] 25);have l1:=ah w [.bool qs,.slice ao (Dg.dg 4294967296 N).length ca,.slice bo (Dg.dg 4294967296 M).length cb,.int .i64 E] 25;have hM0:0<dX M n:=by unfold dX;split<;>first|exact Nat.mul_pos hM (Nat.pow_pos (by omega))|exact hM
 have hNl:(Dg.dg 4294967296 (eZ N n)).length≤115626:=by
  unfold eZ
  split
  ·omega
  ·exact Nat.le_trans (Eg N n.toNat 100000 15626 hla (by omega)) (by omega)
 have HOV:Hid (∀v u w1,Rd w1 .u32 v (Dg.dg 4294967296 (eZ N n))→Rd w1 .u32 u (Dg.dg 4294967296 (dX M n))→Calls Tryz.prog 101 #[v,u] w1 (Two w1 (eZ N n/dX M n) (eZ N n % dX M n))):=fun v u w1 r1 r2=>by
  have:=A9 v u _ _ w1 r1 r2 (Dg.small_dg _ _ (by omega)) (Dg.small_dg _ _ (by omega)) (Dg.norm_dg _ _ (by omega)) (Dg.norm_dg _ _ (by omega)) (by rw[Ne,Dg.dg_nil_iff _ _ (by omega)];omega) (by omega)
  rwa [Dg.vl_dg _ _ (by omega),Dg.vl_dg _ _ (by omega)] at this
 have HSN:Hid (∀w1,Below w.heap.size w w1→ ¬n<0→Calls Tryz.prog 75 #[.slice ao (Dg.dg 4294967296 N).length ca,.int .i64 n] w1 (Num w1 (eZ N n))):=fun w1 b hn=>by
  have:=eO _ _ n w1 (ha.l b) (Dg.small_dg _ _ (by omega)) (by omega) (by omega) (by omega);unfold eZ;rw[if_neg hn]
  rwa [CE _ _ (by omega),Dg.vl_dg _ _ (by omega)] at this
 have HSD:Hid (∀w1,Below w.heap.size w w1→n<0→Calls Tryz.prog 75 #[.slice bo (Dg.dg 4294967296 M).length cb,.int .i64 (-n)] w1 (Num w1 (dX M n))):=fun w1 b hn=>by
  have:=eO _ _ (-n) w1 (hb.l b) (Dg.small_dg _ _ (by omega)) (by omega) (by omega) (by omega);unfold dX;rw[if_pos hn]
  rwa [CE _ _ (by omega),Dg.vl_dg _ _ (by omega)] at this
 have HN0:Hid (n<0→eZ N n=N):=fun h=>if_pos h
 have HD0:Hid (¬n<0→dX M n=M):=fun h=>if_neg h
 have RA:Hid (Rd _ _ _ _):=ha.l b1;have RB:Hid (Rd _ _ _ _):=hb.l b1;obtain⟨ln,hln⟩: ∃l,(Dg.dg 4294967296 N).length=l:=⟨_,rfl⟩;obtain⟨lm,hlm⟩: ∃l,(Dg.dg 4294967296 M).length=l:=⟨_,rfl⟩;obtain⟨X,hX⟩: ∃X,eZ N n=X:=⟨_,rfl⟩;obtain⟨Y,hY⟩: ∃Y,dX M n=Y:=⟨_,rfl⟩;rw[hX] at HOV HSN HN0⊢;rw[hY] at HOV HSD HD0⊢;simp only[hln,hlm] at b1 l1 HSN HSD RA RB⊢;clear ha hb hla hlb hNl hX hY hM0 hln hlm;have c1:=l1.c 1 rfl;have c2:=l1.c 2 rfl
 by_cases hn:n<0
 ·have hw:IntKind.i64.wrap (-n)= -n:=IntWalk.i64_in _ ⟨by omega,by omega⟩
  obtain rfl:=HN0.out hn
  go_enter func169,ntmps169
  go_wp2_with fail
  go_quiet (fail)
  have bd:=aL b1 nq;have ra:=Rd.l RA.out (aL (Below.refl _ _) nq)
  go_wp2_with fail
  refine(HSD.out _ bd hn).mono ?_;rintro z w2 ⟨v2,rfl,o2,b2⟩;have b02:=aa bd b2
  go_wp2_with fail
  refine(HOV.out _ _ _ (ra.l b2) o2.rd).mono ?_;rintro z w3 ⟨v3,v4,rfl,o3,o4,b3⟩;have b03:=aa b02 b3
  go_wp2
  go_ret3
  exact⟨_,_,_,rfl,o3.lower b02.size,o4.lower b02.size,(o2.l b3).rd,b03⟩
 ·have hnf:decide (n<0)=false:=by simp;omega
  obtain rfl:=HD0.out hn
  go_enter func169,ntmps169
  go_wp2_with fail
  go_quiet (fail)
  have bd:=aL b1 nq;have rb:=Rd.l RB.out (aL (Below.refl _ _) nq)
  go_wp2_with fail
  refine(HSN.out _ bd hn).mono ?_;rintro z w2 ⟨v2,rfl,o2,b2⟩;have b02:=aa bd b2;have rb2:=rb.l b2
  go_wp2_with fail
  refine(HOV.out _ _ _ o2.rd rb2).mono ?_;rintro z w3 ⟨v3,v4,rfl,o3,o4,b3⟩;have b03:=aa b02 b3
  go_wp2
  go_ret3
  exact⟨_,_,_,rfl,o3.lower b02.size,o4.lower b02.size,rb2.l b3,b03⟩
theorem adT (R D L G:Int)(gr s:Bool)(ao:Option Addr)(la ca:Nat)(e sg bl pw K wd:Int)(bs:Bool)(bn:Nat)(be:Int)(un bb hb:Bool)(rd:Nat)(rk:Int)(w:World)
  (hsg:(sg==0)=false) (W1:IntKind.i64.wrap (bl-1)=bl-1) (W2:IntKind.i64.wrap (bl-1+e)=bl-1+e) (W3:IntKind.i64.wrap (wd*K)=wd*K) (W4:IntKind.i64.wrap (e-wd*K)=e-wd*K)
  (hun:un=decide (pw<L)) (hbb:(un&&gr)=bb) (HP1:bb=true→K=L) (HP2:bb=false→K=pw)
  (HH1:hb=true→ ¬K<L∧ ¬G<K∧ ¬be<wd*K) (HH2:hb=false→K<L∨(¬K<L∧G<K)∨(¬K<L∧ ¬G<K∧be<wd*K)) (HR1:hb=true→rk=K) (HR2:hb=false→rd=0∧rk=0)
  (HSG:yH w 230 #[ydV s (.slice ao la ca) e] (yi sg))
  (HDI:yJ 224 #[ydV s (.slice ao la ca) e] (.slice ao la ca))
  (HBI:yH w 96 #[.slice ao la ca] (yi bl))
  (HPW:yJ 167 #[ygV R D L G gr,yi (bl-1+e)] (yi pw))
  (HWD:yJ 170 #[ygV R D L G gr] (yi wd))
  (HBA: ∀w1,yB w w1→yC 208 #[ydV s (.slice ao la ca) e] w1 (jN w1 ⟨bs,bn,be⟩))
  (HSH:hb=true→ ∀w1,yB w w1→yC 75 #[.slice ao la ca,yi (e-wd*K)] w1 (Num w1 rd)):
  yC 215 #[ygV R D L G gr,ydV s (.slice ao la ca) e] w (D7 w hb rd rk):=by
 replace HP1:Hid _:=HP1;replace HP2:Hid _:=HP2;replace HH1:Hid _:=HH1;replace HH2:Hid _:=HH2;replace HR1:Hid _:=HR1;replace HR2:Hid _:=HR2;replace HSG:Hid _:=HSG;replace HDI:Hid _:=HDI;replace HBI:Hid _:=HBI;replace HPW:Hid _:=HPW;replace HWD:Hid _:=HWD;replace HBA:Hid _:=HBA;replace HSH:Hid _:=HSH;have HUN:Hid _:=hun;have HBB:Hid _:=hbb;clear hun hbb;have b1:=aa (aa (af w (.cells (ygA R D L G gr) 202)) (af _ (.cells (ydA s (.slice ao la ca) e) 242))) (af _ (.cells #[yN,yi 0] 238));have g1:=((ah w (ygL R D L G gr) 202).l (af _ (.cells (ydA s (.slice ao la ca) e) 242))).l (af _ (.cells #[yN,yi 0] 238));have q1:=(ah (w.alloc (.cells (ygA R D L G gr) 202)) (ydL s (.slice ao la ca) e) 242).l (af _ (.cells #[yN,yi 0] 238));have c1:=ah ((w.alloc (.cells (ygA R D L G gr) 202)).alloc (.cells (ydA s (.slice ao la ca) e) 242)) [yN,yi 0] 238;simp only[World.size_alloc] at q1 c1;obtain⟨y0,y1,y2⟩:=q1.cs3
 go_enter func215,ntmps215
 go_wp2_with fail
 refine(HSG.out _ b1).mono ?_;rintro z w2 ⟨rfl,bb2⟩;clear y0 y1 y2;have g_2:=g1.l bb2;have q_2:=q1.l bb2;have c_2:=c1.l bb2;have b0_2:=aa b1 bb2;clear g1 q1 c1 b1 bb2;have bd_2:yB w2 w2.drew:=(Below.refl _ _).drew;have g_3:=g_2.l bd_2;have q_3:=q_2.l bd_2;have c_3:=c_2.l bd_2;have b0_3:=aa b0_2 bd_2;clear g_2 q_2 c_2 b0_2 bd_2;obtain⟨x0,x1,x2,x3,x4⟩:=g_3.cs5;obtain⟨y0,y1,y2⟩:=q_3.cs3
 go_wp2_with fail
 go_region_held3 (fun wq=>(wq.cell? ⟨w.heap.size,0,none⟩=some (yi R)∧wq.cell? ⟨w.heap.size,1,none⟩=some (yi D)∧wq.cell? ⟨w.heap.size,2,none⟩=some (yi L)∧wq.cell? ⟨w.heap.size,3,none⟩=some (yi G)∧wq.cell? ⟨w.heap.size,4,none⟩=some (.bool gr))∧wq.cell? ⟨w.heap.size+1,0,none⟩=some (.bool s)∧wq.cell? ⟨w.heap.size+1,1,none⟩=some (.slice ao la ca)∧wq.cell? ⟨w.heap.size+1,2,none⟩=some (yi e)) (go_keep) (first
  | (go_at_call 224;have hgd:=b0_3;clear hgd;refine(HDI.out _).mono ?_;rintro z wa ⟨rfl,bb_wa⟩;have b0_wa:=aa b0_3 bb_wa;have g_wa:=g_3.l bb_wa;have q_wa:=q_3.l bb_wa;have c_wa:=c_3.l bb_wa;obtain⟨xwa0,xwa1,xwa2,xwa3,xwa4⟩:=g_wa.cs5;obtain⟨ywa0,ywa1,ywa2⟩:=q_wa.cs3;clear b0_3)
  | (go_at_call 96;have hgd:=b0_wa;clear hgd;refine(HBI.out _ b0_wa).mono ?_;rintro z wb ⟨rfl,bb_wb⟩;have b0_wb:=aa b0_wa bb_wb;have g_wb:=g_wa.l bb_wb;have q_wb:=q_wa.l bb_wb;have c_wb:=c_wa.l bb_wb;obtain⟨xwb0,xwb1,xwb2,xwb3,xwb4⟩:=g_wb.cs5;obtain⟨ywb0,ywb1,ywb2⟩:=q_wb.cs3;clear b0_wa)
  | (go_at_call 167;have hgd:=b0_wb;clear hgd;refine(HPW.out _).mono ?_;rintro z wc ⟨rfl,bb_wc⟩;have b0_wc:=aa b0_wb bb_wc;have g_wc:=g_wb.l bb_wc;have q_wc:=q_wb.l bb_wc;have c_wc:=c_wb.l bb_wc;obtain⟨xwc0,xwc1,xwc2,xwc3,xwc4⟩:=g_wc.cs5;obtain⟨ywc0,ywc1,ywc2⟩:=q_wc.cs3;clear b0_wb))
 go_goals
 clear x0 x1 x2 x3 x4 y0 y1 y2 xwa0 xwa1 xwa2 xwa3 xwa4 xwb0 xwb1 xwb2 xwb3 xwb4 xwc0 xwc1 xwc2 xwc3 xwc4 ywa0 ywa1 ywa2 ywb0 ywb1 ywb2 ywc0 ywc1 ywc2;have x2:=g_wc.c 2 rfl;have x4:=g_wc.c 4 rfl;have hlt:decide (pw<L)=un:=HUN.out.symm
 go_upto_region 4 with fail
 skip
 go_cut [34] (fun s34 wx=>s34= .bool bb∧wx=wc)
 case first=>
  cases un
  ·go_wp2_with fail
   go_meet
   exact⟨by rw[←HBB.out];rfl,rfl⟩
  ·go_wp2_with fail
   go_meet
   exact⟨by rw[←HBB.out];rfl,rfl⟩
 case rest=>
  obtain⟨rfl,hw34⟩:=hcut;subst hw34
  go_upto_if 34 with fail
  go_cut [6] (fun s6 wx=>s6=yi K∧wx=wc)
  case first=>
   cases bb
   ·have eK:Hid (K=pw):=HP2.out rfl
    go_wp2_with fail
    go_meet
    exact⟨by rw[eK.out],rfl⟩
   ·have eK:Hid (K=L):=HP1.out rfl
    go_wp2_with fail
    go_meet
    exact⟨by rw[eK.out],rfl⟩
  case rest=>
   obtain⟨rfl,hw6⟩:=hcut;subst hw6;clear x2 x4 hlt HP1 HP2;obtain⟨x0,x1,x2,x3,x4⟩:=g_wc.cs5
   go_wp2_with fail
   refine(HWD.out _).mono ?_;rintro z w5 ⟨rfl,bb5⟩;clear x0 x1 x2 x3 x4;have g_11:=g_wc.l bb5;have q_11:=q_wc.l bb5;have c_11:=c_wc.l bb5;have b0_11:=aa b0_wc bb5;clear g_wc q_wc c_wc b0_wc bb5;obtain⟨x0,x1,x2,x3,x4⟩:=g_11.cs5;obtain⟨y0,y1,y2⟩:=q_11.cs3
   cases hb
   ·obtain⟨rfl,rfl⟩:=HR2.out rfl
    have hx:=HH2.out rfl;clear HH1 HH2 HR1 HR2 HSH
    rcases hx with hx| ⟨hx1,hx⟩| ⟨hx1,hx2,hx⟩
    ·skip
     have d0:=c_11.c 0 rfl;have f0:=c_11.f 0;have d1:=c_11.c 1 rfl;have f1:=c_11.f 1
     go_wp2
     have bu:But (w.heap.size+1+1) w5 ((w5.setCell ⟨w.heap.size+1+1,0,none⟩ yN).setCell ⟨w.heap.size+1+1,1,none⟩ (yi 0)):=(ag w5 (w.heap.size+1+1) 0 yN).trans (ag _ (w.heap.size+1+1) 1 (yi 0));have cX:au ((w5.setCell ⟨w.heap.size+1+1,0,none⟩ yN).setCell ⟨w.heap.size+1+1,1,none⟩ (yi 0)) (w.heap.size+1+1) 238 [yN,yi 0]:=(c_11.set 0 yN).set 1 (yi 0);have bX:=bu.below b0_11 (show w.heap.size≤w.heap.size+1+1 by omega)
     obtain⟨s0,s1⟩:=cX.cs2;refine bodyPost_ret (v:= .tuple #[.agg #[yN,yi 0],.bool false]) (by simp[results,results215,go_sem,s0,s1]) rfl ?_;exact⟨_,rfl,aQ _ _ _ _,bX⟩
    ·have e1:decide (K<L)=false:=decide_eq_false (by omega)
     have d0:=c_11.c 0 rfl;have f0:=c_11.f 0;have d1:=c_11.c 1 rfl;have f1:=c_11.f 1
     go_wp2
     have bu:But (w.heap.size+1+1) w5 ((w5.setCell ⟨w.heap.size+1+1,0,none⟩ yN).setCell ⟨w.heap.size+1+1,1,none⟩ (yi 0)):=(ag w5 (w.heap.size+1+1) 0 yN).trans (ag _ (w.heap.size+1+1) 1 (yi 0));have cX:au ((w5.setCell ⟨w.heap.size+1+1,0,none⟩ yN).setCell ⟨w.heap.size+1+1,1,none⟩ (yi 0)) (w.heap.size+1+1) 238 [yN,yi 0]:=(c_11.set 0 yN).set 1 (yi 0);have bX:=bu.below b0_11 (show w.heap.size≤w.heap.size+1+1 by omega)
     obtain⟨s0,s1⟩:=cX.cs2;refine bodyPost_ret (v:= .tuple #[.agg #[yN,yi 0],.bool false]) (by simp[results,results215,go_sem,s0,s1]) rfl ?_;exact⟨_,rfl,aQ _ _ _ _,bX⟩
    ·have e1:decide (K<L)=false:=decide_eq_false (by omega)
     have e2:decide (G<K)=false:=decide_eq_false (by omega)
     go_wp2_with fail
     refine(HBA.out _ b0_11).mono ?_;rintro z w6 ⟨vb,rfl,ob6,bb6⟩;obtain⟨vo6,vc6,hvb6⟩:=ob6.rd.shape;subst hvb6;clear ob6;have hfd:=fun W=>G0 bs vo6 (Dg.dg 4294967296 bn).length vc6 be W
     have hfe:=fun W=>Ju bs vo6 (Dg.dg 4294967296 bn).length vc6 be W
     clear x0 x1 x2 x3 x4 y0 y1 y2;have g_12:=g_11.l bb6;have q_12:=q_11.l bb6;have c_12:=c_11.l bb6;have b0_12:=aa b0_11 bb6;clear g_11 q_11 c_11 b0_11 bb6;have d0:=c_12.c 0 rfl;have f0:=c_12.f 0;have d1:=c_12.c 1 rfl;have f1:=c_12.f 1
     go_wp2
     have bu:But (w.heap.size+1+1) w6 ((w6.setCell ⟨w.heap.size+1+1,0,none⟩ yN).setCell ⟨w.heap.size+1+1,1,none⟩ (yi 0)):=(ag w6 (w.heap.size+1+1) 0 yN).trans (ag _ (w.heap.size+1+1) 1 (yi 0));have cX:au ((w6.setCell ⟨w.heap.size+1+1,0,none⟩ yN).setCell ⟨w.heap.size+1+1,1,none⟩ (yi 0)) (w.heap.size+1+1) 238 [yN,yi 0]:=(c_12.set 0 yN).set 1 (yi 0);have bX:=bu.below b0_12 (show w.heap.size≤w.heap.size+1+1 by omega)
     obtain⟨s0,s1⟩:=cX.cs2;refine bodyPost_ret (v:= .tuple #[.agg #[yN,yi 0],.bool false]) (by simp[results,results215,go_sem,s0,s1]) rfl ?_;exact⟨_,rfl,aQ _ _ _ _,bX⟩
   ·obtain⟨h1,h2,h3⟩:=HH1.out rfl
    have hrk:=HR1.out rfl;have HS1:Hid _:=HSH.out rfl;clear HH1 HH2 HR1 HR2 HSH;subst hrk;have e1:decide (rk<L)=false:=decide_eq_false (by omega);have e2:decide (G<rk)=false:=decide_eq_false (by omega);have e3:decide (be<wd*rk)=false:=decide_eq_false (by omega)
    go_wp2_with fail
    refine(HBA.out _ b0_11).mono ?_;rintro z w6 ⟨vb,rfl,ob6,bb6⟩;obtain⟨vo6,vc6,hvb6⟩:=ob6.rd.shape;subst hvb6;clear ob6;have hfd:=fun W=>G0 bs vo6 (Dg.dg 4294967296 bn).length vc6 be W
    have hfe:=fun W=>Ju bs vo6 (Dg.dg 4294967296 bn).length vc6 be W
    clear x0 x1 x2 x3 x4 y0 y1 y2;have g_12:=g_11.l bb6;have q_12:=q_11.l bb6;have c_12:=c_11.l bb6;have b0_12:=aa b0_11 bb6;clear g_11 q_11 c_11 b0_11 bb6;have bd_12:yB w6 w6.drew:=(Below.refl _ _).drew;have g_13:=g_12.l bd_12;have q_13:=q_12.l bd_12;have c_13:=c_12.l bd_12;have b0_13:=aa b0_12 bd_12;clear g_12 q_12 c_12 b0_12 bd_12;obtain⟨y0,y1,y2⟩:=q_13.cs3;have nA:w.heap.size+1+1≠w.heap.size+1:=by omega
    go_wp2_with fail
    go_region_held3 (fun wq=>wq.cell? ⟨w.heap.size+1,0,none⟩=some (.bool s)∧wq.cell? ⟨w.heap.size+1,1,none⟩=some (.slice ao la ca)∧wq.cell? ⟨w.heap.size+1,2,none⟩=some (yi e)) (go_keep) (first
     | (go_at_call 224;have hgd:=b0_13;clear hgd;refine(HDI.out _).mono ?_;rintro z wf ⟨rfl,bb_wf⟩;have b0_wf:=aa b0_13 bb_wf;have g_wf:=g_13.l bb_wf;have q_wf:=q_13.l bb_wf;have c_wf:=c_13.l bb_wf;obtain⟨ywf0,ywf1,ywf2⟩:=q_wf.cs3;clear b0_13)
     | (go_at_call 75;have hgd:=b0_wf;clear hgd;refine(HS1.out _ b0_wf).mono ?_;rintro z wg ⟨vs,rfl,os,bb_wg⟩;have b0_wg:=aa b0_wf bb_wg;have g_wg:=g_wf.l bb_wg;have q_wg:=q_wf.l bb_wg;have c_wg:=c_wf.l bb_wg;obtain⟨ywg0,ywg1,ywg2⟩:=q_wg.cs3;obtain⟨so,sc,hvs⟩:=os.rd.shape;subst hvs;obtain⟨d0,d1⟩:=c_wg.cs2;have f0:=c_wg.f 0;have f1:=c_wg.f 1;have oL:=os.lower b0_wf.size;clear b0_wf))
    go_goals
    clear d0 d1 f0 f1;have d0:=c_wg.c 0 rfl;have f0:=c_wg.f 0;have d1:=c_wg.c 1 rfl;have f1:=c_wg.f 1
    go_wp2
    have bu:But (w.heap.size+1+1) wg ((wg.setCell ⟨w.heap.size+1+1,0,none⟩ (yT so rd sc)).setCell ⟨w.heap.size+1+1,1,none⟩ (yi rk)):=(ag wg (w.heap.size+1+1) 0 (yT so rd sc)).trans (ag _ (w.heap.size+1+1) 1 (yi rk));have cX:au ((wg.setCell ⟨w.heap.size+1+1,0,none⟩ (yT so rd sc)).setCell ⟨w.heap.size+1+1,1,none⟩ (yi rk)) (w.heap.size+1+1) 238 [yT so rd sc,yi rk]:=(c_wg.set 0 (yT so rd sc)).set 1 (yi rk);have bX:=bu.below b0_wg (show w.heap.size≤w.heap.size+1+1 by omega)
    have oX:=bu.own oL c_wg (by decide);obtain⟨s0,s1⟩:=cX.cs2;refine bodyPost_ret (v:= .tuple #[.agg #[yT so rd sc,yi rk],.bool true]) (by simp[results,results215,go_sem,s0,s1]) rfl ?_;exact⟨_,rfl,oX,bX⟩
end Go.Proofs.YtpgijbdgljkeeaaGreatDoor
