/-
  Texts laid together: Dy2, Aw0, Over, Gr1, Gr2.
-/
import Derived.Test.YtdhpndnncmagiaaGreatDoorMa10
import Derived.Test.YtdhpndnncmagiaaGreatDoorMa15
set_option maxRecDepth 100000
set_option maxHeartbeats 1600000
namespace Go.Proofs.YtdhpndnncmagiaaGreatDoor
open _root_.Go.Proofs.Tryz
open Go.RowKit
theorem II (v:Value)(t:ak)(w:World)(hv:Dv w v t)(hL:(Dg.dg 4294967296 t.n).length≤500000)(he: -1000000≤t.e∧t.e≤1000000)(hT:Tab w)(htz:tz t.n≤1000000):
  Calls Tryz.prog 206 #[v] w (jN w (bare t)):=by
 obtain⟨s,rfl,hr⟩:=hv;obtain⟨ts,n,e⟩:=t;simp only at hr hL he htz⊢;obtain⟨ao,ca,rfl⟩:=hr.shape;obtain⟨e1,e2⟩:=he
 by_cases hn:n=0
 ·subst hn
  rw[show Dg.dg 4294967296 0=[] from rfl] at hr⊢
  go_enter func206,ntmps206
  rw[show bare ⟨ts,0,e⟩=⟨false,0,0⟩ from by unfold bare;rfl]
  go_wp2
  go_returns
  exact⟨_,rfl,aQ _ _ _ _,((Below.refl _ _).alloc (Nat.le_refl _) _).alloc (by simp[World.size_alloc]) _⟩
 ·have h0:(((Dg.dg 4294967296 n).length:Int)==0)=false:=by simp[Dg.dg_nil_iff 4294967296 n (by omega)];exact hn
  have HB:Hid (bare ⟨ts,n,e⟩=⟨ts,n/2^tz n,e+tz n⟩):=by show bare ⟨ts,n,e⟩=_;unfold bare;rw[if_neg hn]
  have hsm:=Dg.small_dg 4294967296 n (by omega);have hvl:=Dg.vl_dg 4294967296 n (by omega);have HTW:Hid (∀w1,Below w.heap.size w w1→Calls Tryz.prog 127 #[.slice ao (Dg.dg 4294967296 n).length ca] w1 fun e w'=>e= .returned (.int .i64 ((tz n:Nat):Int))∧w'=w1):=fun w1 b1=>by
   have:=Gl _ n w1 (hr.l b1) (by omega) (hT.l b1)
   rwa [if_neg hn] at this
  have HSH:Hid (∀w1,Below w.heap.size w w1→Calls Tryz.prog 47 #[.slice ao (Dg.dg 4294967296 n).length ca,.int .i64 (-((tz n:Nat):Int))] w1 (Num w1 (n/2^tz n))):=fun w1 b1=>by
   have:=eO _ _ (-((tz n:Nat):Int)) w1 (hr.l b1) hsm (by omega) (by omega) (by omega);rw[hvl] at this;have e:shN n (-((tz n:Nat):Int))=n/2^tz n:=by
    unfold shN
    by_cases hz: -((tz n:Nat):Int)<0
    ·rw[if_pos hz];congr 2;omega
    ·rw[if_neg hz]
     have h0:tz n=0:=by omega
     rw[h0];simp
   rwa [e] at this
  obtain⟨m,hm⟩: ∃m,(Dg.dg 4294967296 n).length=m:=⟨_,rfl⟩;obtain⟨k,hk⟩: ∃k,tz n=k:=⟨_,rfl⟩;obtain⟨q,hq⟩: ∃q,n/2^tz n=q:=⟨_,rfl⟩;rw[hq,hk] at HB;rw[hq,hk,hm] at HSH;rw[hk,hm] at HTW;rw[hm] at h0 hL⊢;rw[hk] at htz;rw[HB.out];clear hm hk hq hr hsm hvl HB hn hT;have l1:=(aA w (.bool ts) (.slice ao m ca) (.int .i64 e) 86).l (af _ (.cells #[.bool false,.slice none 0 0,.int .i64 0] 86));have l2:=aA (w.alloc (.cells #[.bool ts,.slice ao m ca,.int .i64 e] 86)) (.bool false) (.slice none 0 0) (.int .i64 0) 86;have bA:=aa (af w (.cells #[.bool ts,.slice ao m ca,.int .i64 e] 86)) (af _ (.cells #[.bool false,.slice none 0 0,.int .i64 0] 86));rw[World.size_alloc] at l2
  go_enter func206,ntmps206
  go_wp2_with fail
  refine(cN ts ao m ca e _).mono ?_;rintro x w1 ⟨rfl,b1⟩;have l1:=l1.l b1;have l2:=l2.l b1;have b01:=aa bA b1;clear bA b1
  go_wp2_with fail
  refine(HTW.out w1 b01).mono ?_;rintro x w2 ⟨rfl,rfl⟩;have bd:Below w2.heap.size w2 w2.drew:=(Below.refl _ _).drew;have l1:=l1.l bd;have l2:=l2.l bd;have b02:=aa b01 bd;obtain⟨-,⟨c0,c1,c2⟩,-⟩:=id l1;clear b01 bd;have e3:IntKind.i64.wrap (-(k:Int))= -(k:Int):=IntWalk.i64_in _ ⟨by omega,by omega⟩;have e4:IntKind.i64.wrap (e+(k:Int))=e+(k:Int):=IntWalk.i64_in _ ⟨by omega,by omega⟩
  go_wp2_with fail
  go_region_held3 (fun wq=>wq.cell? ⟨w.heap.size,0,none⟩=some (.bool ts)∧wq.cell? ⟨w.heap.size,1,none⟩=some (.slice ao m ca)∧wq.cell? ⟨w.heap.size,2,none⟩=some (.int .i64 e)) (go_keep) (first
   | (go_at_call 198;refine(cN ts ao m ca e _).mono ?_;rintro x w3 ⟨rfl,b3⟩;have l13:=l1.l b3;have l23:=l2.l b3;have b03:=aa b02 b3;obtain⟨-,⟨p0,p1,p2⟩,-⟩:=id l13)
   | (go_at_call 47;refine(HSH.out _ b03).mono ?_;rintro x w4 ⟨vs,rfl,own4,b4⟩;have l14:=l13.l b4;have l24:=l23.l b4;have b04:=aa b03 b4;obtain⟨so,sc,hvs⟩:=own4.rd.shape;subst hvs;obtain⟨-,⟨q0,q1,q2⟩,-⟩:=id l14)
   | (go_at_call 137;refine(l9 ts so _ sc _ _).mono ?_;rintro x w5 ⟨rfl,b5⟩;have l25:=l24.l b5;have l15:=l14.l b5;obtain⟨-,⟨r0,r1,r2⟩,-⟩:=id l15;have b05:=aa b04 b5;have rd5:=own4.rd.l b5;obtain⟨hl5,⟨d0,d1,d2⟩,f0,f1,f2⟩:=id l25))
  all_goals go_wp2
  have l5:=aD l25 (.bool ts) (.slice so (Dg.dg 4294967296 q).length sc) (.int .i64 (e+(k:Int)));have hbw:w.heap.size≤w.heap.size+1:=by omega
  have b5':=((b05.setCell (p:=⟨w.heap.size+1,0,none⟩) hbw (.bool ts)).setCell (p:=⟨w.heap.size+1,1,none⟩) hbw (.slice so (Dg.dg 4294967296 q).length sc)).setCell (p:=⟨w.heap.size+1,2,none⟩) hbw (.int .i64 (e+(k:Int)));have own5:=(own4.l b5).apart3 (b:=w.heap.size+1) l23.1 (.bool ts) (.slice so (Dg.dg 4294967296 q).length sc) (.int .i64 (e+(k:Int)));obtain⟨-,⟨g0,g1,g2⟩,-⟩:=l5;refine bodyPost_ret (v:= .agg #[.bool ts,.slice so (Dg.dg 4294967296 q).length sc,.int .i64 (e+(k:Int))]) (by simp[results,results206,go_sem,g0,g1,g2]) rfl ?_;exact⟨_,rfl,own5.lower b03.size,b5'⟩
theorem iG (w:World)(c0:List Value)(t0:TypeId)(c1:List Value)(t1:TypeId): ∃W,(w.alloc (.cells c0.toArray t0)).alloc (.cells c1.toArray t1)=W∧au W w.heap.size t0 c0∧au W (w.heap.size+1) t1 c1∧yB w W:=by
 obtain⟨W,rfl,h0,b0⟩:=cA w c0 t0;have h1:=ah (w.alloc (.cells c0.toArray t0)) c1 t1;have b1:=af (w.alloc (.cells c0.toArray t0)) (.cells c1.toArray t1);rw[World.size_alloc] at h1;exact⟨_,rfl,h0.l b1,h1,aa b0 b1⟩
theorem A9 (va vb:Value)(xs ys:List Nat)(w:World)(ha:Rd w .u32 va xs)(hb:Rd w .u32 vb ys)(sa:Dg.Small 4294967296 xs)(sb:Dg.Small 4294967296 ys)(na:Dg.Norm xs)(nb:Dg.Norm ys)(hne:ys≠[])(hla:xs.length≤900000):
  yC 50 #[va,vb] w (Two w (Dg.vl 4294967296 xs/Dg.vl 4294967296 ys) (Dg.vl 4294967296 xs % Dg.vl 4294967296 ys)):=by
 have hcm:=jF va vb xs ys w ha hb sa sb na nb;have hY0:0<Dg.vl 4294967296 ys:=Nat.pos_of_ne_zero (Dg.vl_ne_zero 4294967296 (by omega) ys hne nb);have hln:0<ys.length:=List.length_pos_iff.2 hne
 by_cases hlt:Dg.vl 4294967296 xs<Dg.vl 4294967296 ys
 ·rw[gX (by omega)] at hcm
  rw[Nat.div_eq_of_lt hlt,Nat.mod_eq_of_lt hlt];have HX:Hid (xs=Dg.dg 4294967296 (Dg.vl 4294967296 xs)):=Dg.eq_dg 4294967296 (by omega) xs _ sa na rfl;have HA:Hid (Rd w .u32 va xs):=ha;obtain⟨ao,ca,rfl⟩:=ha.shape;obtain⟨bo,cb,rfl⟩:=hb.shape;clear ha hb sa sb na nb hne hlt hY0
  go_enter func50,ntmps50
  go_wp2_with fail
  refine hcm.mono ?_;rintro e w1 ⟨rfl,b1⟩;clear hcm
  go_wp2_with fail
  refine(Bz _ xs w1 (HA.out.l b1) (by omega)).mono ?_;rintro e w2 ⟨rfl,own2,b2⟩;have own2:=own2.lower b1.size;have b12:=aa b1 b2;clear b1 b2 HA
  go_wp2
  go_ret2
  exact⟨_,_,rfl,aQ _ _ _ _,HX.out▸own2,b12⟩
 ·have hd:=Xx (a:=(Dg.vl 4294967296 xs:Int)) (b:=(Dg.vl 4294967296 ys:Int)) (by omega)
  obtain⟨r,hr⟩: ∃r,dm (Dg.vl 4294967296 xs) (Dg.vl 4294967296 ys)=r:=⟨_,rfl⟩;rw[hr] at hd hcm;clear hr;have HA:Hid (Rd w .u32 va xs):=ha;have HB:Hid (Rd w .u32 vb ys):=hb;obtain⟨ao,ca,rfl⟩:=ha.shape;obtain⟨bo,cb,rfl⟩:=hb.shape
  by_cases h1:ys.length=1
  ·obtain⟨d,rfl⟩: ∃d,ys=[d]:=List.length_eq_one_iff.1 h1
   have hv:Dg.vl 4294967296 [d]=d:=by simp[Dg.vl]
   have hdl:d<4294967296:=(Dg.small_cons.1 sb).1;rw[hv] at hY0⊢;clear ha hb hlt hv h1 hln hne nb sb
   go_enter func50,ntmps50
   go_wp2_with fail
   refine hcm.mono ?_;rintro e w1 ⟨rfl,b1⟩;clear hcm
   go_wp2_with fail
   refine(Bz _ xs w1 (HA.out.l b1) (by omega)).mono ?_;rintro e w2 ⟨rfl,own2,b2⟩;have b12:=aa b1 b2;obtain⟨-,-,hcb⟩:=iQ (HB.out.l b12);obtain⟨bb,boff,rfl,hcell⟩:=hcb (by simp);have hc:=hcell 0 (by simp);simp only[List.getD_cons_zero,Nat.add_zero] at hc;clear hcell hcb
   go_wp2_with fail
   refine(uG _ _ _ _ xs d w2 own2 sa hY0 hdl (by omega)).mono ?_;rintro e w3 ⟨qs,rfl,own3,hql,hqs,hqv,gr3⟩;have b13:=b12.grown gr3 b12.size (fun k hk=>by cases hk;exact b1.size)
   have r3:=own3.rd;have own3:=own3.lower b1.size;obtain⟨rm,hrm⟩: ∃rm,Dg.vl 4294967296 xs % d=rm:=⟨_,rfl⟩;rw[hrm];have hrl:rm<4294967296:=by have:=Nat.mod_lt (Dg.vl 4294967296 xs) hY0;omega
   clear gr3 own2 b12 b2 hc
   go_wp2_with fail
   refine(jD _ _ _ _ _ r3).mono ?_;rintro e w4 ⟨m,rfl,hm,rfl⟩;have t3:=jW 4294967296 (by omega) own3 hqs hm;rw[hqv] at t3;have ownd:=zf w4 w.heap.size 116 rm b13.size;have b4:yB w4 (w4.alloc (.cells #[.int .u32 (rm:Int)] 116)):=(Below.refl _ _).alloc (Nat.le_refl _) _;have t4:=t3.l b4;have b14:=aa b13 b4;have rd4:=ownd.rd;clear own3 r3 hm t3 b4 b13 b1 hqv
   go_wp2_with fail
   refine(jD _ _ _ _ _ rd4).mono ?_;rintro e w5 ⟨m2,rfl,hm2,rfl⟩;have t5:=jW 4294967296 (by omega) ownd (Dg.small_cons.2 ⟨hrl,Dg.small_nil _ (by omega)⟩) hm2;rw[show Dg.vl 4294967296 [rm]=rm from by simp[Dg.vl]] at t5
   clear ownd rd4 hm2
   go_wp2
   go_ret2
   exact⟨_,_,rfl,t4,by rw[hrm];exact t5,b14⟩
  ·have hll:ys.length≤xs.length:=by
    rcases Nat.lt_or_ge xs.length ys.length with e|e
    ·exact absurd (Dg.vl_lt_of_len 4294967296 (by omega) xs ys sa nb e) hlt
    ·exact e
   have HLO:Hid (∀w1,yB w w1→yC 86 #[.slice ao xs.length ca,.slice bo ys.length cb] w1 (Two w1 (Dg.vl 4294967296 xs/Dg.vl 4294967296 ys) (Dg.vl 4294967296 xs % Dg.vl 4294967296 ys))):=fun w1 b1=>
    JS _ _ xs ys w1 (ha.l b1) (hb.l b1) sa sb nb (by omega) hll hla
   obtain⟨q,hq⟩: ∃q,Dg.vl 4294967296 xs/Dg.vl 4294967296 ys=q:=⟨_,rfl⟩;obtain⟨m,hm⟩: ∃m,Dg.vl 4294967296 xs % Dg.vl 4294967296 ys=m:=⟨_,rfl⟩;rw[hq,hm] at HLO⊢;have h2:((ys.length:Int)==1)=false:=by simp;omega
   clear ha hb hlt hne nb sb na sa hY0 hq hm HA HB
   go_enter func50,ntmps50
   go_wp2_with fail
   refine hcm.mono ?_;rintro e w1 ⟨rfl,b1⟩;clear hcm
   go_wp2_with fail
   refine(HLO.out w1 b1).mono ?_;rintro e w2 ⟨v1,v2,rfl,o1,o2,b2⟩;have o1:=o1.lower b1.size;have o2:=o2.lower b1.size;have b12:=aa b1 b2;clear b1 b2 HLO
   go_wp2
   go_ret2
   exact⟨_,_,rfl,o1,o2,b12⟩
theorem FE (R D L G:Int)(gr:Bool)(top:Int)(w:World)(h1:1≤D)(h2:D≤120)(t1: -1000000≤top)(t2:top≤1000000):
  yC 190 #[ygV R D L G gr,yi top] w (yR w (yi (aT R D top))):=by
 have b1:=af w (.cells (ygA R D L G gr) 197);have l1:=ah w (ygL R D L G gr) 197;have HW:Hid (yJ 193 #[ygV R D L G gr] (yi (xg R))):=fun w1=>tY R D L G gr w1
 have hwl:=eN R;have hfl:=Qd top (ai R) (by omega);unfold aT;rw[jf] at HW;obtain⟨wd,hwd⟩: ∃k,ai R=k:=⟨_,rfl⟩;rw[hwd] at HW hwl hfl⊢;have hne:((wd:Int)==0)=false:=by simp;omega
 have hne2: ¬(wd:Int)=0:=by omega
 have q1: -1000000≤top.tdiv wd∧top.tdiv wd≤1000000:=by
  have:=Int.natAbs_tdiv_le_natAbs top wd;omega
 have q2: -1000004≤top.tdiv wd*wd∧top.tdiv wd*wd≤1000004:=by
  have e:=Int.tmod_add_mul_tdiv top wd;have e2:(wd:Int)*top.tdiv wd=top.tdiv wd*wd:=Int.mul_comm _ _;have hx:=Int.tmod_lt_of_pos top (b:=(wd:Int)) (by omega);have hy:=Int.tmod_lt_of_pos (-top) (b:=(wd:Int)) (by omega);rw[Int.neg_tmod] at hy;omega
 obtain⟨q,hq⟩: ∃q,top.tdiv wd=q:=⟨_,rfl⟩;rw[hq] at hfl q1 q2;obtain⟨m,hm⟩: ∃m,q*(wd:Int)=m:=⟨_,rfl⟩;rw[hm] at hfl q2;have w0:IntKind.i64.wrap q=q:=IntWalk.i64_in _ ⟨by omega,by omega⟩;have w1:IntKind.i64.wrap m=m:=IntWalk.i64_in _ ⟨by omega,by omega⟩;have w2:IntKind.i64.wrap (D-1)=D-1:=IntWalk.i64_in _ ⟨by omega,by omega⟩;clear hwd
 by_cases hlt:top<m
 ·rw[hfl.1 hlt]
  have w3:IntKind.i64.wrap (q-1)=q-1:=IntWalk.i64_in _ ⟨by omega,by omega⟩;have w4:IntKind.i64.wrap (q-1-(D-1))=q-1-(D-1):=IntWalk.i64_in _ ⟨by omega,by omega⟩;clear hfl
  go_enter func190,ntmps190
  go_wp2_with fail
  refine(HW.out _).mono ?_;rintro z w3' ⟨rfl,b3⟩;have b03:=aa b1 b3;have c1:=(l1.l b3).c 1 rfl
  go_wp2
  go_ret
  exact⟨rfl,b03⟩
 ·rw[hfl.2 hlt]
  have hltf:decide (top<m)=false:=by simp;omega
  have w4:IntKind.i64.wrap (q-(D-1))=q-(D-1):=IntWalk.i64_in _ ⟨by omega,by omega⟩;clear hfl
  go_enter func190,ntmps190
  go_wp2_with fail
  refine(HW.out _).mono ?_;rintro z w3' ⟨rfl,b3⟩;have b03:=aa b1 b3;have c1:=(l1.l b3).c 1 rfl
  go_wp2
  go_ret
  exact⟨rfl,b03⟩
theorem Eh (qs:Bool)(ao:Option Addr)(ca:Nat)(bo:Option Addr)(cb:Nat)(N M:Nat)(E n:Int)(w:World)
  (ha:Rd w .u32 (.slice ao (Dg.dg 4294967296 N).length ca) (Dg.dg 4294967296 N)) (hb:Rd w .u32 (.slice bo (Dg.dg 4294967296 M).length cb) (Dg.dg 4294967296 M)) (hla:(Dg.dg 4294967296 N).length≤100000) (hlb:(Dg.dg 4294967296 M).length≤100000) (hM:0<M) (n1: -500000≤n) (n2:n≤500000):
  Calls Tryz.prog 192 #[.agg #[.bool qs,.slice ao (Dg.dg 4294967296 N).length ca,.slice bo (Dg.dg 4294967296 M).length cb,.int .i64 E],.int .i64 n] w (WH w (eZ N n/dX M n) (eZ N n % dX M n) (dX M n)):=by
 have b1:=af w (.cells #[.bool qs,.slice ao (Dg.dg 4294967296 N).length ca,.slice bo (Dg.dg 4294967296 M).length cb,.int .i64 E] 77);have l1:=ah w [.bool qs,.slice ao (Dg.dg 4294967296 N).length ca,.slice bo (Dg.dg 4294967296 M).length cb,.int .i64 E] 77;have hM0:0<dX M n:=by unfold dX;split<;>first|exact Nat.mul_pos hM (Nat.pow_pos (by omega))|exact hM
 have hNl:(Dg.dg 4294967296 (eZ N n)).length≤115626:=by
  unfold eZ
  split
  ·omega
  ·exact Nat.le_trans (Eg N n.toNat 100000 15626 hla (by omega)) (by omega)
 have HOV:Hid (∀v u w1,Rd w1 .u32 v (Dg.dg 4294967296 (eZ N n))→Rd w1 .u32 u (Dg.dg 4294967296 (dX M n))→Calls Tryz.prog 50 #[v,u] w1 (Two w1 (eZ N n/dX M n) (eZ N n % dX M n))):=fun v u w1 r1 r2=>by
  have:=A9 v u _ _ w1 r1 r2 (Dg.small_dg _ _ (by omega)) (Dg.small_dg _ _ (by omega)) (Dg.norm_dg _ _ (by omega)) (Dg.norm_dg _ _ (by omega)) (by rw[Ne,Dg.dg_nil_iff _ _ (by omega)];omega) (by omega)
  rwa [Dg.vl_dg _ _ (by omega),Dg.vl_dg _ _ (by omega)] at this
 have HSN:Hid (∀w1,Below w.heap.size w w1→ ¬n<0→Calls Tryz.prog 47 #[.slice ao (Dg.dg 4294967296 N).length ca,.int .i64 n] w1 (Num w1 (eZ N n))):=fun w1 b hn=>by
  have:=eO _ _ n w1 (ha.l b) (Dg.small_dg _ _ (by omega)) (by omega) (by omega) (by omega);unfold eZ;rw[if_neg hn]
  rwa [CE _ _ (by omega),Dg.vl_dg _ _ (by omega)] at this
 have HSD:Hid (∀w1,Below w.heap.size w w1→n<0→Calls Tryz.prog 47 #[.slice bo (Dg.dg 4294967296 M).length cb,.int .i64 (-n)] w1 (Num w1 (dX M n))):=fun w1 b hn=>by
  have:=eO _ _ (-n) w1 (hb.l b) (Dg.small_dg _ _ (by omega)) (by omega) (by omega) (by omega);unfold dX;rw[if_pos hn]
  rwa [CE _ _ (by omega),Dg.vl_dg _ _ (by omega)] at this
 have HN0:Hid (n<0→eZ N n=N):=fun h=>if_pos h
 have HD0:Hid (¬n<0→dX M n=M):=fun h=>if_neg h
 have RA:Hid (Rd _ _ _ _):=ha.l b1;have RB:Hid (Rd _ _ _ _):=hb.l b1;obtain⟨ln,hln⟩: ∃l,(Dg.dg 4294967296 N).length=l:=⟨_,rfl⟩;obtain⟨lm,hlm⟩: ∃l,(Dg.dg 4294967296 M).length=l:=⟨_,rfl⟩;obtain⟨X,hX⟩: ∃X,eZ N n=X:=⟨_,rfl⟩;obtain⟨Y,hY⟩: ∃Y,dX M n=Y:=⟨_,rfl⟩;rw[hX] at HOV HSN HN0⊢;rw[hY] at HOV HSD HD0⊢;simp only[hln,hlm] at b1 l1 HSN HSD RA RB⊢;clear ha hb hla hlb hNl hX hY hM0 hln hlm;have c1:=l1.c 1 rfl;have c2:=l1.c 2 rfl
 by_cases hn:n<0
 ·have hw:IntKind.i64.wrap (-n)= -n:=IntWalk.i64_in _ ⟨by omega,by omega⟩
  obtain rfl:=HN0.out hn
  go_enter func192,ntmps192
  go_wp2_with fail
  go_quiet (fail)
  have bd:=aL b1 nq;have ra:=Rd.l RA.out (aL (Below.refl _ _) nq)
  go_wp2_with fail
  refine(HSD.out _ bd hn).mono ?_;rintro z w2 ⟨v2,rfl,o2,b2⟩;have b02:=aa bd b2
  go_wp2_with fail
  refine(HOV.out _ _ _ (ra.l b2) o2.rd).mono ?_;rintro z w3 ⟨v3,v4,rfl,o3,o4,b3⟩;have b03:=aa b02 b3
  go_wp2
  go_ret3
  exact⟨_,_,_,rfl,o3.lower b02.size,o4.lower b02.size,(o2.l b3).rd,b03⟩
 ·have hnf:decide (n<0)=false:=by simp;omega
  obtain rfl:=HD0.out hn
  go_enter func192,ntmps192
  go_wp2_with fail
  go_quiet (fail)
  have bd:=aL b1 nq;have rb:=Rd.l RB.out (aL (Below.refl _ _) nq)
  go_wp2_with fail
  refine(HSN.out _ bd hn).mono ?_;rintro z w2 ⟨v2,rfl,o2,b2⟩;have b02:=aa bd b2;have rb2:=rb.l b2
  go_wp2_with fail
  refine(HOV.out _ _ _ o2.rd rb2).mono ?_;rintro z w3 ⟨v3,v4,rfl,o3,o4,b3⟩;have b03:=aa b02 b3
  go_wp2
  go_ret3
  exact⟨_,_,_,rfl,o3.lower b02.size,o4.lower b02.size,rb2.l b3,b03⟩
theorem WO (qs:Bool)(ao:Option Addr)(ca:Nat)(bo:Option Addr)(cb:Nat)(N M:Nat)(E:Int)(w:World)
  (ha:Rd w .u32 (.slice ao (Dg.dg 4294967296 N).length ca) (Dg.dg 4294967296 N)) (hb:Rd w .u32 (.slice bo (Dg.dg 4294967296 M).length cb) (Dg.dg 4294967296 M)) (hla:(Dg.dg 4294967296 N).length≤10000) (hlb:(Dg.dg 4294967296 M).length≤10000) (hM:0<M) (e1: -500000≤E) (e2:E≤500000):
  Calls Tryz.prog 191 #[.agg #[.bool qs,.slice ao (Dg.dg 4294967296 N).length ca,.slice bo (Dg.dg 4294967296 M).length cb,.int .i64 E]] w fun z w'=>z= .returned (.int .i64 (dY N M E))∧Below w.heap.size w w':=by
 have b1:=af w (.cells #[.bool qs,.slice ao (Dg.dg 4294967296 N).length ca,.slice bo (Dg.dg 4294967296 M).length cb,.int .i64 E] 77);have l1:=ah w [.bool qs,.slice ao (Dg.dg 4294967296 N).length ca,.slice bo (Dg.dg 4294967296 M).length cb,.int .i64 E] 77;have hbn:bitLen N≤32*10000:=oP hla;have hbm:bitLen M≤32*10000:=oP hlb;have HB1:Hid (∀w1,Below w.heap.size w w1→Calls Tryz.prog 44 #[.slice ao (Dg.dg 4294967296 N).length ca] w1 fun z w'=>z= .returned (.int .i64 (bitLen N:Nat))∧w'=w1):=fun w1 b=>by
  have:=kE _ _ w1 (ha.l b) (Dg.small_dg _ _ (by omega)) (Dg.norm_dg _ _ (by omega)) (by omega)
  rwa [Dg.vl_dg _ _ (by omega)] at this
 have HB2:Hid (∀w1,Below w.heap.size w w1→Calls Tryz.prog 44 #[.slice bo (Dg.dg 4294967296 M).length cb] w1 fun z w'=>z= .returned (.int .i64 (bitLen M:Nat))∧w'=w1):=fun w1 b=>by
  have:=kE _ _ w1 (hb.l b) (Dg.small_dg _ _ (by omega)) (Dg.norm_dg _ _ (by omega)) (by omega)
  rwa [Dg.vl_dg _ _ (by omega)] at this
 obtain⟨ld,hld⟩: ∃l,(bitLen N:Int)-(bitLen M:Int)=l:=⟨_,rfl⟩;have HP:Hid (∀w1,Below w.heap.size w w1→Calls Tryz.prog 192 #[.agg #[.bool qs,.slice ao (Dg.dg 4294967296 N).length ca,.slice bo (Dg.dg 4294967296 M).length cb,.int .i64 E],.int .i64 (-ld)] w1 (WH w1 (eZ N (-ld)/dX M (-ld)) (eZ N (-ld) % dX M (-ld)) (dX M (-ld)))):=fun w1 b=>
  Eh qs ao ca bo cb N M E (-ld) w1 (ha.l b) (hb.l b) (by omega) (by omega) hM (by omega) (by omega)
 unfold dY;rw[hld];obtain⟨Q,hQ⟩: ∃Q,eZ N (-ld)/dX M (-ld)=Q:=⟨_,rfl⟩;rw[hQ] at HP⊢;have hQn:=Dg.dg_nil_iff 4294967296 Q (by omega);obtain⟨T,hT⟩: ∃T,E+(ld-(if Q=0 then 1 else 0))=T:=⟨_,rfl⟩
 have HT:Hid _:=hT;rw[hT];clear hT;obtain⟨x,hx⟩: ∃x,bitLen N=x:=⟨_,rfl⟩;obtain⟨y,hy⟩: ∃y,bitLen M=y:=⟨_,rfl⟩;rw[hx] at HB1 hld hbn;rw[hy] at HB2 hld hbm;obtain⟨ln,hln⟩: ∃l,(Dg.dg 4294967296 N).length=l:=⟨_,rfl⟩;obtain⟨lm,hlm⟩: ∃l,(Dg.dg 4294967296 M).length=l:=⟨_,rfl⟩;simp only[hln,hlm] at b1 l1 HB1 HB2 HP⊢;have w1:IntKind.i64.wrap (-ld)= -ld:=IntWalk.i64_in _ ⟨by omega,by omega⟩;have w0:IntKind.i64.wrap ld=ld:=IntWalk.i64_in _ ⟨by omega,by omega⟩;clear ha hb hla hlb hx hy hln hlm hQ hM;have l2:=l1.drew;have bd:=aa b1 ((Below.refl _ _).drew);have c1:=l2.c 1 rfl;have c2:=l2.c 2 rfl;clear l1 b1;have hlde:(x:Int)-(y:Int)=ld:=hld;clear hld
 go_enter func191,ntmps191
 go_wp2_with fail
 go_region_held3 (fun wq=>wq.cell? ⟨w.heap.size,1,none⟩=some (.slice ao ln ca)∧wq.cell? ⟨w.heap.size,2,none⟩=some (.slice bo lm cb)) (go_keep) (first
  | (go_at_call 44;(with_reducible (refine(HB1.out _ bd).mono ?_));rintro z w3 ⟨rfl,rfl⟩)
  | (go_at_call 44;(with_reducible (refine(HB2.out _ bd).mono ?_));rintro z w3 ⟨rfl,rfl⟩))
 have c0:=l2.c 0 rfl;have c3:=l2.c 3 rfl
 go_goals
 go_wp2_with fail
 refine(HP.out _ bd).mono ?_;rintro z w4 ⟨v1,v2,v3,rfl,o1,o2,r3,b4⟩;have b04:=aa bd b4;have l4:=l2.l b4;obtain⟨so,sc,hs⟩:=o1.rd.shape;subst hs;have c4:=l4.c 3 rfl;obtain⟨lq,hlq⟩: ∃l,(Dg.dg 4294967296 Q).length=l:=⟨_,rfl⟩;have hz:lq=0↔Q=0:=by rw[←hlq,List.length_eq_zero_iff];exact hQn
 rw[hlq];clear hlq hQn o1 o2 r3
 by_cases h0:Q=0
 ·have hT2:E+(ld-1)=T:=by rw[←HT.out,if_pos h0]
  subst hT2;have hl0:=hz.2 h0;clear hz h0 HT;subst hl0;have w2:IntKind.i64.wrap (ld-1)=ld-1:=IntWalk.i64_in _ ⟨by omega,by omega⟩;have w3:IntKind.i64.wrap (E+(ld-1))=E+(ld-1):=IntWalk.i64_in _ ⟨by omega,by omega⟩
  go_wp2
  go_ret
  exact⟨rfl,b04⟩
 ·have hT2:E+ld=T:=by rw[←HT.out,if_neg h0,Int.sub_zero]
  subst hT2;have hqf:((lq:Int)==0)=false:=by simp;exact fun h=>h0 (hz.1 h)
  have w3:IntKind.i64.wrap (E+ld)=E+ld:=IntWalk.i64_in _ ⟨by omega,by omega⟩
  go_wp2
  go_ret
  exact⟨rfl,b04⟩
end Go.Proofs.YtdhpndnncmagiaaGreatDoor
