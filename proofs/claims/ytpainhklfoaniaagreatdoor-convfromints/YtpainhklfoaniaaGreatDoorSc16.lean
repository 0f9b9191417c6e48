/-
  Texts laid together: Gr2, Gr3.
-/
import Derived.ChangeMaps4
import Derived.Test.YtpainhklfoaniaaGreatDoorSc15
set_option maxRecDepth 100000
set_option maxHeartbeats 1600000
namespace Go.Proofs.YtpainhklfoaniaaGreatDoor
open _root_.Go.Proofs.Tryz
open Go.RowKit
def eZ (N:Nat)(n:Int):Nat:=if n<0 then N else N*2^n.toNat
def dX (M:Nat)(n:Int):Nat:=if n<0 then M*2^ (-n).toNat else M
def WH (w:World)(q r d:Nat)(e:Ending)(w':World):Prop:=
 ∃v1 v2 v3,e= .returned (.tuple #[v1,v2,v3])∧Own w' w.heap.size 108 .u32 v1 (Dg.dg 4294967296 q)∧Own w' w.heap.size 108 .u32 v2 (Dg.dg 4294967296 r)∧Rd w' .u32 v3 (Dg.dg 4294967296 d)∧yB w w'
theorem Eg (n k L j:Nat)(h:(Dg.dg 4294967296 n).length≤L)(hk:k≤32*j):(Dg.dg 4294967296 (n*2^k)).length≤L+j:=by
 apply Dg.dg_len_le 4294967296 _ _ (by omega);have h1:=Dg.vl_lt 4294967296 (Dg.dg 4294967296 n) (Dg.small_dg _ _ (by omega));rw[Dg.vl_dg _ _ (by omega)] at h1;have h2:4294967296^ (Dg.dg 4294967296 n).length≤4294967296^L:=Nat.pow_le_pow_right (by omega) h;have h3:2^k≤4294967296^j:=by
  rw[show(4294967296:Nat)=2^32 from rfl,←Nat.pow_mul]
  exact Nat.pow_le_pow_right (by omega) hk
 rw[Nat.pow_add];exact Nat.lt_of_lt_of_le (Nat.mul_lt_mul_of_pos_right (Nat.lt_of_lt_of_le h1 h2) (Nat.pow_pos (by omega))) (Nat.mul_le_mul_left _ h3)
theorem Eh (qs:Bool)(ao:Option Addr)(ca:Nat)(bo:Option Addr)(cb:Nat)(N M:Nat)(E n:Int)(w:World)
  (ha:Rd w .u32 (.slice ao (Dg.dg 4294967296 N).length ca) (Dg.dg 4294967296 N)) (hb:Rd w .u32 (.slice bo (Dg.dg 4294967296 M).length cb) (Dg.dg 4294967296 M)) (hla:(Dg.dg 4294967296 N).length≤100000) (hlb:(Dg.dg 4294967296 M).length≤100000) (hM:0<M) (n1: -500000≤n) (n2:n≤500000):
  Calls Tryz.prog 116 #[.agg #[.bool qs,.slice ao (Dg.dg 4294967296 N).length ca,.slice bo (Dg.dg 4294967296 M).length cb,.int .i64 E],.int .i64 n] w (WH w (eZ N n/dX M n) (eZ N n % dX M n) (dX M n)):=by
 have b1:=af w (.cells #[.bool qs,.slice ao (Dg.dg 4294967296 N).length ca,.slice bo (Dg.dg 4294967296 M).length cb,.int .i64 E] 91);have l1:=ah w [.bool qs,.slice ao (Dg.dg 4294967296 N).length ca,.slice bo (Dg.dg 4294967296 M).length cb,.int .i64 E] 91;have hM0:0<dX M n:=by unfold dX;split<;>first|exact Nat.mul_pos hM (Nat.pow_pos (by omega))|exact hM
 have hNl:(Dg.dg 4294967296 (eZ N n)).length≤115626:=by
  unfold eZ
  split
  ·omega
  ·exact Nat.le_trans (Eg N n.toNat 100000 15626 hla (by omega)) (by omega)
 have HOV:Hid (∀v u w1,Rd w1 .u32 v (Dg.dg 4294967296 (eZ N n))→Rd w1 .u32 u (Dg.dg 4294967296 (dX M n))→Calls Tryz.prog 144 #[v,u] w1 (Two w1 (eZ N n/dX M n) (eZ N n % dX M n))):=fun v u w1 r1 r2=>by
  have:=A9 v u _ _ w1 r1 r2 (Dg.small_dg _ _ (by omega)) (Dg.small_dg _ _ (by omega)) (Dg.norm_dg _ _ (by omega)) (Dg.norm_dg _ _ (by omega)) (by rw[Ne,Dg.dg_nil_iff _ _ (by omega)];omega) (by omega)
  rwa [Dg.vl_dg _ _ (by omega),Dg.vl_dg _ _ (by omega)] at this
 have HSN:Hid (∀w1,Below w.heap.size w w1→ ¬n<0→Calls Tryz.prog 118 #[.slice ao (Dg.dg 4294967296 N).length ca,.int .i64 n] w1 (Num w1 (eZ N n))):=fun w1 b hn=>by
  have:=eO _ _ n w1 (ha.l b) (Dg.small_dg _ _ (by omega)) (by omega) (by omega) (by omega);unfold eZ;rw[if_neg hn]
  rwa [CE _ _ (by omega),Dg.vl_dg _ _ (by omega)] at this
 have HSD:Hid (∀w1,Below w.heap.size w w1→n<0→Calls Tryz.prog 118 #[.slice bo (Dg.dg 4294967296 M).length cb,.int .i64 (-n)] w1 (Num w1 (dX M n))):=fun w1 b hn=>by
  have:=eO _ _ (-n) w1 (hb.l b) (Dg.small_dg _ _ (by omega)) (by omega) (by omega) (by omega);unfold dX;rw[if_pos hn]
  rwa [CE _ _ (by omega),Dg.vl_dg _ _ (by omega)] at this
 have HN0:Hid (n<0→eZ N n=N):=fun h=>if_pos h
 have HD0:Hid (¬n<0→dX M n=M):=fun h=>if_neg h
 have RA:Hid (Rd _ _ _ _):=ha.l b1;have RB:Hid (Rd _ _ _ _):=hb.l b1;obtain⟨ln,hln⟩: ∃l,(Dg.dg 4294967296 N).length=l:=⟨_,rfl⟩;obtain⟨lm,hlm⟩: ∃l,(Dg.dg 4294967296 M).length=l:=⟨_,rfl⟩;obtain⟨X,hX⟩: ∃X,eZ N n=X:=⟨_,rfl⟩;obtain⟨Y,hY⟩: ∃Y,dX M n=Y:=⟨_,rfl⟩;rw[hX] at HOV HSN HN0⊢;rw[hY] at HOV HSD HD0⊢;simp only[hln,hlm] at b1 l1 HSN HSD RA RB⊢;clear ha hb hla hlb hNl hX hY hM0 hln hlm;have c1:=l1.c 1 rfl;have c2:=l1.c 2 rfl
 by_cases hn:n<0
 ·have hw:IntKind.i64.wrap (-n)= -n:=IntWalk.i64_in _ ⟨by omega,by omega⟩
  obtain rfl:=HN0.out hn
  go_enter func116,ntmps116
  go_wp2_with fail
  go_quiet (fail)
  have bd:=aL b1 nq;have ra:=Rd.l RA.out (aL (Below.refl _ _) nq)
  go_wp2_with fail
  refine(HSD.out _ bd hn).mono ?_;rintro z w2 ⟨v2,rfl,o2,b2⟩;have b02:=aa bd b2
  go_wp2_with fail
  refine(HOV.out _ _ _ (ra.l b2) o2.rd).mono ?_;rintro z w3 ⟨v3,v4,rfl,o3,o4,b3⟩;have b03:=aa b02 b3
  go_wp2
  go_ret3
  exact⟨_,_,_,rfl,o3.lower b02.size,o4.lower b02.size,(o2.l b3).rd,b03⟩
 ·have hnf:decide (n<0)=false:=by simp;omega
  obtain rfl:=HD0.out hn
  go_enter func116,ntmps116
  go_wp2_with fail
  go_quiet (fail)
  have bd:=aL b1 nq;have rb:=Rd.l RB.out (aL (Below.refl _ _) nq)
  go_wp2_with fail
  refine(HSN.out _ bd hn).mono ?_;rintro z w2 ⟨v2,rfl,o2,b2⟩;have b02:=aa bd b2;have rb2:=rb.l b2
  go_wp2_with fail
  refine(HOV.out _ _ _ o2.rd rb2).mono ?_;rintro z w3 ⟨v3,v4,rfl,o3,o4,b3⟩;have b03:=aa b02 b3
  go_wp2
  go_ret3
  exact⟨_,_,_,rfl,o3.lower b02.size,o4.lower b02.size,rb2.l b3,b03⟩
theorem oP {a L:Nat}(h:(Dg.dg 4294967296 a).length≤L):bitLen a≤32*L:=by
 refine bF a _ ?_;rw[Nat.pow_mul];have h1:=Dg.vl_lt 4294967296 _ (Dg.small_dg 4294967296 a (by omega));rw[Dg.vl_dg _ _ (by omega)] at h1;exact Nat.lt_of_lt_of_le h1 (Nat.pow_le_pow_right (by omega) h)
def dY (N M:Nat)(E:Int):Int:=
 E+(((bitLen N:Int)-(bitLen M:Int))-(if eZ N (-((bitLen N:Int)-(bitLen M:Int)))/dX M (-((bitLen N:Int)-(bitLen M:Int)))=0 then 1 else 0))
theorem WO (qs:Bool)(ao:Option Addr)(ca:Nat)(bo:Option Addr)(cb:Nat)(N M:Nat)(E:Int)(w:World)
  (ha:Rd w .u32 (.slice ao (Dg.dg 4294967296 N).length ca) (Dg.dg 4294967296 N)) (hb:Rd w .u32 (.slice bo (Dg.dg 4294967296 M).length cb) (Dg.dg 4294967296 M)) (hla:(Dg.dg 4294967296 N).length≤10000) (hlb:(Dg.dg 4294967296 M).length≤10000) (hM:0<M) (e1: -500000≤E) (e2:E≤500000):
  Calls Tryz.prog 115 #[.agg #[.bool qs,.slice ao (Dg.dg 4294967296 N).length ca,.slice bo (Dg.dg 4294967296 M).length cb,.int .i64 E]] w fun z w'=>z= .returned (.int .i64 (dY N M E))∧Below w.heap.size w w':=by
 have b1:=af w (.cells #[.bool qs,.slice ao (Dg.dg 4294967296 N).length ca,.slice bo (Dg.dg 4294967296 M).length cb,.int .i64 E] 91);have l1:=ah w [.bool qs,.slice ao (Dg.dg 4294967296 N).length ca,.slice bo (Dg.dg 4294967296 M).length cb,.int .i64 E] 91;have hbn:bitLen N≤32*10000:=oP hla;have hbm:bitLen M≤32*10000:=oP hlb;have HB1:Hid (∀w1,Below w.heap.size w w1→Calls Tryz.prog 143 #[.slice ao (Dg.dg 4294967296 N).length ca] w1 fun z w'=>z= .returned (.int .i64 (bitLen N:Nat))∧w'=w1):=fun w1 b=>by
  have:=kE _ _ w1 (ha.l b) (Dg.small_dg _ _ (by omega)) (Dg.norm_dg _ _ (by omega)) (by omega)
  rwa [Dg.vl_dg _ _ (by omega)] at this
 have HB2:Hid (∀w1,Below w.heap.size w w1→Calls Tryz.prog 143 #[.slice bo (Dg.dg 4294967296 M).length cb] w1 fun z w'=>z= .returned (.int .i64 (bitLen M:Nat))∧w'=w1):=fun w1 b=>by
  have:=kE _ _ w1 (hb.l b) (Dg.small_dg _ _ (by omega)) (Dg.norm_dg _ _ (by omega)) (by omega)
  rwa [Dg.vl_dg _ _ (by omega)] at this
 obtain⟨ld,hld⟩: ∃l,(bitLen N:Int)-(bitLen M:Int)=l:=⟨_,rfl⟩;have HP:Hid (∀w1,Below w.heap.size w w1→Calls Tryz.prog 116 #[.agg #[.bool qs,.slice ao (Dg.dg 4294967296 N).length ca,.slice bo (Dg.dg 4294967296 M).length cb,.int .i64 E],.int .i64 (-ld)] w1 (WH w1 (eZ N (-ld)/dX M (-ld)) (eZ N (-ld) % dX M (-ld)) (dX M (-ld)))):=fun w1 b=>
  Eh qs ao ca bo cb N M E (-ld) w1 (ha.l b) (hb.l b) (by omega) (by omega) hM (by omega) (by omega)
 unfold dY;rw[hld];obtain⟨Q,hQ⟩: ∃Q,eZ N (-ld)/dX M (-ld)=Q:=⟨_,rfl⟩;rw[hQ] at HP⊢;have hQn:=Dg.dg_nil_iff 4294967296 Q (by omega);obtain⟨T,hT⟩: ∃T,E+(ld-(if Q=0 then 1 else 0))=T:=⟨_,rfl⟩
 have HT:Hid _:=hT;rw[hT];clear hT;obtain⟨x,hx⟩: ∃x,bitLen N=x:=⟨_,rfl⟩;obtain⟨y,hy⟩: ∃y,bitLen M=y:=⟨_,rfl⟩;rw[hx] at HB1 hld hbn;rw[hy] at HB2 hld hbm;obtain⟨ln,hln⟩: ∃l,(Dg.dg 4294967296 N).length=l:=⟨_,rfl⟩;obtain⟨lm,hlm⟩: ∃l,(Dg.dg 4294967296 M).length=l:=⟨_,rfl⟩;simp only[hln,hlm] at b1 l1 HB1 HB2 HP⊢;have w1:IntKind.i64.wrap (-ld)= -ld:=IntWalk.i64_in _ ⟨by omega,by omega⟩;have w0:IntKind.i64.wrap ld=ld:=IntWalk.i64_in _ ⟨by omega,by omega⟩;clear ha hb hla hlb hx hy hln hlm hQ hM;have l2:=l1.drew;have bd:=aa b1 ((Below.refl _ _).drew);have c1:=l2.c 1 rfl;have c2:=l2.c 2 rfl;clear l1 b1;have hlde:(x:Int)-(y:Int)=ld:=hld;clear hld
 go_enter func115,ntmps115
 go_wp2_with fail
 go_region_held3 (fun wq=>wq.cell? ⟨w.heap.size,1,none⟩=some (.slice ao ln ca)∧wq.cell? ⟨w.heap.size,2,none⟩=some (.slice bo lm cb)) (go_keep) (first
  | (go_at_call 143;(with_reducible (refine(HB1.out _ bd).mono ?_));rintro z w3 ⟨rfl,rfl⟩)
  | (go_at_call 143;(with_reducible (refine(HB2.out _ bd).mono ?_));rintro z w3 ⟨rfl,rfl⟩))
 have c0:=l2.c 0 rfl;have c3:=l2.c 3 rfl
 go_goals
 go_wp2_with fail
 refine(HP.out _ bd).mono ?_;rintro z w4 ⟨v1,v2,v3,rfl,o1,o2,r3,b4⟩;have b04:=aa bd b4;have l4:=l2.l b4;obtain⟨so,sc,hs⟩:=o1.rd.shape;subst hs;have c4:=l4.c 3 rfl;obtain⟨lq,hlq⟩: ∃l,(Dg.dg 4294967296 Q).length=l:=⟨_,rfl⟩;have hz:lq=0↔Q=0:=by rw[←hlq,List.length_eq_zero_iff];exact hQn
 rw[hlq];clear hlq hQn o1 o2 r3
 by_cases h0:Q=0
 ·have hT2:E+(ld-1)=T:=by rw[←HT.out,if_pos h0]
  subst hT2;have hl0:=hz.2 h0;clear hz h0 HT;subst hl0;have w2:IntKind.i64.wrap (ld-1)=ld-1:=IntWalk.i64_in _ ⟨by omega,by omega⟩;have w3:IntKind.i64.wrap (E+(ld-1))=E+(ld-1):=IntWalk.i64_in _ ⟨by omega,by omega⟩
  go_wp2
  go_ret
  exact⟨rfl,b04⟩
 ·have hT2:E+ld=T:=by rw[←HT.out,if_neg h0,Int.sub_zero]
  subst hT2;have hqf:((lq:Int)==0)=false:=by simp;exact fun h=>h0 (hz.1 h)
  have w3:IntKind.i64.wrap (E+ld)=E+ld:=IntWalk.i64_in _ ⟨by omega,by omega⟩
  go_wp2
  go_ret
  exact⟨rfl,b04⟩
theorem Sb (B n:Nat)(hB:2≤B):(Dg.dg B n).getD 0 0=n % B:=by
 by_cases h:n=0
 ·subst h
  rw[show Dg.dg B 0=[] from(Dg.dg_nil_iff B 0 hB).2 rfl]
  simp
 ·have hs:=Dg.small_dg B n hB
  have hv:=Dg.vl_dg B n hB;obtain⟨x,xs,hx⟩: ∃x xs,Dg.dg B n=x::xs:=by
   rcases hd:Dg.dg B n with _| ⟨x,xs⟩
   ·exact absurd ((Dg.dg_nil_iff B n hB).1 hd) h
   ·exact⟨x,xs,rfl⟩
  rw[hx] at hs hv⊢;have h0:x<B:=by simpa using hs 0
  simp only[Dg.vl] at hv;rw[←hv];simp[Nat.mod_eq_of_lt h0]
theorem aaI (v:Value)(n:Nat)(w:World)(h:Rd w .u32 v (Dg.dg 4294967296 n)):yC 120 #[v] w fun z w'=>z= .returned (.bool (decide (n % 2=1)))∧w'=w:=by
 have hh:=Sb 4294967296 n (by omega);have hnl:=Dg.dg_nil_iff 4294967296 n (by omega);obtain⟨ao,ca,rfl⟩:=h.shape;obtain⟨h1,h2,h3⟩:=iQ h;have hm2:n % 4294967296 % 2=n % 2:=by omega
 obtain⟨m,hm⟩: ∃m,n % 4294967296=m:=⟨_,rfl⟩;rw[hm] at hh hm2;have hml:m<4294967296:=by omega
 by_cases h0:n=0
 ·have hl:(Dg.dg 4294967296 n).length=0:=by rw[List.length_eq_zero_iff];exact hnl.2 h0
  rw[hl];have hd:decide (n % 2=1)=false:=by rw[h0];rfl
  rw[hd];clear h0 hh hm2 hm hml hnl h1 h2 h3 h hl hd
  go_enter func120,ntmps120
  go_wp2
  go_ret
  exact⟨rfl,rfl⟩
 ·have hl:0< (Dg.dg 4294967296 n).length:=by
   rcases Nat.eq_zero_or_pos (Dg.dg 4294967296 n).length with h4|h4
   ·exact absurd (hnl.1 (List.length_eq_zero_iff.1 h4)) h0
   ·exact h4
  obtain⟨b,off,rfl,hc⟩:=h3 hl;have c0:=hc 0 hl;rw[hh,Nat.add_zero] at c0;obtain⟨L,hL⟩: ∃L,(Dg.dg 4294967296 n).length=L:=⟨_,rfl⟩;rw[hL] at hl h1⊢;have hl0:(0:Int)< (L:Int):=by omega
  have ht:(m:Int).tmod 2=((m % 2:Nat):Int):=by
   rw[Int.tmod_eq_emod_of_nonneg (by omega)];omega
  have ht2:(m:Int) % 2=((m % 2:Nat):Int):=by omega
  clear hc h3 hL hh hm hnl h
  by_cases hodd:n % 2=1
  ·have e1:m % 2=1:=by omega
   rw[e1] at ht ht2
   go_enter func120,ntmps120
   go_wp2
   go_ret
   simp[hodd]
  ·have e1:m % 2=0:=by omega
   rw[e1] at ht ht2
   go_enter func120,ntmps120
   go_wp2
   go_ret
   simp[hodd]
open Go.RowKit Go.ChangeMaps Go.MapKept
theorem sS {P:Program}{t k e:TypeId}(ht:P.underlying t=some (.map k e))(hk:P.underlying k=some (.int .i64)){w W:World}{r:Nat}{es:Array MapEntry}{c:Nat}(hb:W.heap[r]? =some (.map es c))(hr:w.heap.size≤r)(bel:yB w W)(x:Int)(v:Value)(hno:Instr.findNow (.int .i64) (yi x) es.toList 0=some none):
  ∃W',(Instr.mapUpdate t (.map (some r)) (yi x) v).run P W= .ok () W'∧W'.heap[r]? =some (.map (es.push ⟨yi x,v,c⟩) (c+1))∧yB w W':=by
 have hkey:IsKey (.int .i64) (yi x):=rfl;refine⟨setBlock W r (.map (es.push ⟨yi x,v,c⟩) (c+1)), ?_, ?_, ?_⟩
 ·simp[Instr.mapUpdate,run_underlying ht,MapKept.run_getObj_map hb,run_checkKey hk hkey,run_findKey hk hno,MapKept.run_setObj_map _ hb,Result.andThen,setBlock]
 ·exact(MapKept.heap_set hb).1
 ·refine⟨bel.os,bel.tape,bel.output, ?_,fun i hi=> ?_⟩
  ·show w.heap.size≤(W.heap.setIfInBounds r _).size
   rw[Array.size_setIfInBounds];exact bel.size
  ·show(W.heap.setIfInBounds r _)[i]? =_
   rw[(MapKept.heap_set (o':=Obj.map (es.push ⟨yi x,v,c⟩) (c+1)) hb).2 i (by omega)];exact bel.block i hi
theorem pj {P:Program}{t k e:TypeId}(ht:P.underlying t=some (.map k e))(hk:P.underlying k=some (.int .i64)){W:World}{r:Nat}{es:Array MapEntry}{c:Nat}(hb:W.heap[r]? =some (.map es c))(x:Int){i:Nat}{v:Value}(h:Instr.findNow (.int .i64) (yi x) es.toList 0=some (some (i,v))):
  (Instr.lookup t (.map (some r)) (yi x) false).run P W= .ok v W:=by
 have hkey:IsKey (.int .i64) (yi x):=rfl;simp[Instr.lookup,run_underlying ht,MapKept.run_getObj_map hb,run_checkKey hk hkey,run_findKey hk h,Result.andThen]
theorem Yc {P:Program}{t k e:TypeId}(ht:P.underlying t=some (.map k e))(hk:P.underlying k=some (.int .i64)){W:World}{r:Nat}{es:Array MapEntry}{c:Nat}(hb:W.heap[r]? =some (.map es c))(x:Int){z:Value}(hz:(zeroValue e).run P W= .ok z W)(h:Instr.findNow (.int .i64) (yi x) es.toList 0=some none):
  (Instr.lookup t (.map (some r)) (yi x) false).run P W= .ok z W:=by
 have hkey:IsKey (.int .i64) (yi x):=rfl;simp[Instr.lookup,run_underlying ht,MapKept.run_getObj_map hb,run_checkKey hk hkey,run_findKey hk h,hz,Result.andThen]
def Yd:Array MapEntry:= #[⟨yi 1,.func (.func 109) #[] #[],0⟩,⟨yi 2,.func (.func 110) #[] #[],1⟩,⟨yi 3,.func (.func 111) #[] #[],2⟩,⟨yi 4,.func (.func 112) #[] #[],3⟩,⟨yi 5,.func (.func 113) #[] #[],4⟩]
theorem Ye (w:World):yC 85 #[] w fun z w'=>z= .returned (.map (some w.heap.size))∧w'.heap[w.heap.size]? =some (.map Yd 5)∧yB w w':=by
 have ht:=underlying157;have hk:=underlying3;have hb0:(w.alloc (.map #[] 0)).heap[w.heap.size]? =some (.map #[] 0):=heap_alloc_new _ _;have b0:=af w (.map #[] 0);have e0:=run_makeMap (P:=Tryz.prog) 157 w;obtain⟨W1,e1,hb1,b1⟩:=sS ht hk hb0 (Nat.le_refl _) b0 1 (.func (.func 109) #[] #[]) rfl;obtain⟨W2,e2,hb2,b2⟩:=sS ht hk hb1 (Nat.le_refl _) b1 2 (.func (.func 110) #[] #[]) rfl;obtain⟨W3,e3,hb3,b3⟩:=sS ht hk hb2 (Nat.le_refl _) b2 3 (.func (.func 111) #[] #[]) rfl;obtain⟨W4,e4,hb4,b4⟩:=sS ht hk hb3 (Nat.le_refl _) b3 4 (.func (.func 112) #[] #[]) rfl;obtain⟨W5,e5,hb5,b5⟩:=sS ht hk hb4 (Nat.le_refl _) b4 5 (.func (.func 113) #[] #[]) rfl;have HB:Hid (W5.heap[w.heap.size]? =some (.map Yd 5)):=hb5;clear hb1 hb2 hb3 hb4 hb5 b1 b2 b3 b4 ht hk hb0
 go_enter func85,ntmps85
 go_wp2
 go_ret
 exact⟨rfl,HB.out,b5⟩
def gY (way half:Int)(odd neg:Bool):Bool:=
 if way=1 then(decide (0<half)||(decide (half=0)&&odd)) else if way=2 then decide (0≤half) else if way=4 then !neg else if way=5 then neg else false
theorem Yf (half:Int)(odd neg:Bool)(w:World):yC 109 #[.agg #[yi half,.bool odd,.bool neg]] w (yR w (.bool (gY 1 half odd neg))):=by
 have bA:=af w (.cells #[yi half,.bool odd,.bool neg] 191);have hv:gY 1 half odd neg=(decide (0<half)||(decide (half=0)&&odd)):=by simp[gY]
 rw[hv]
 by_cases h:0<half
 ·go_enter func109,ntmps109
  go_wp2
  go_ret
  exact⟨by simp[h],bA⟩
 ·have hf:decide (0<half)=false:=by simp;omega
  by_cases h0:half=0
  ·subst h0
   clear hv h hf
   go_enter func109,ntmps109
   go_wp2
   go_ret
   exact⟨by simp,bA⟩
  ·have h0f:(half==0)=false:=by simp;exact h0
   rw[hf,show decide (half=0)=false by simp;exact h0]
   clear hv
   go_enter func109,ntmps109
   go_wp2
   go_ret
   exact⟨by simp,bA⟩
theorem Yg (half:Int)(odd neg:Bool)(w:World):yC 110 #[.agg #[yi half,.bool odd,.bool neg]] w (yR w (.bool (gY 2 half odd neg))):=by
 have bA:=af w (.cells #[yi half,.bool odd,.bool neg] 191);have hv:gY 2 half odd neg=decide (0≤half):=by simp[gY]
 rw[hv];clear hv
 go_enter func110,ntmps110
 go_wp2
 go_ret
 exact⟨rfl,bA⟩
theorem Yh (half:Int)(odd neg:Bool)(w:World):yC 111 #[.agg #[yi half,.bool odd,.bool neg]] w (yR w (.bool (gY 3 half odd neg))):=by
 have hv:gY 3 half odd neg=false:=by simp[gY]
 have bA:=af w (.cells #[yi half,.bool odd,.bool neg] 191);rw[hv];clear hv
 go_enter func111,ntmps111
 go_wp2
 go_ret
 exact⟨rfl,bA⟩
theorem Yi (half:Int)(odd neg:Bool)(w:World):yC 112 #[.agg #[yi half,.bool odd,.bool neg]] w (yR w (.bool (gY 4 half odd neg))):=by
 have bA:=af w (.cells #[yi half,.bool odd,.bool neg] 191);have hv:gY 4 half odd neg= !neg:=by simp[gY]
 rw[hv];clear hv
 go_enter func112,ntmps112
 go_wp2
 go_ret
 exact⟨rfl,bA⟩
theorem Yj (half:Int)(odd neg:Bool)(w:World):yC 113 #[.agg #[yi half,.bool odd,.bool neg]] w (yR w (.bool (gY 5 half odd neg))):=by
 have bA:=af w (.cells #[yi half,.bool odd,.bool neg] 191);have hv:gY 5 half odd neg=neg:=by simp[gY]
 rw[hv];clear hv
 go_enter func113,ntmps113
 go_wp2
 go_ret
 exact⟨rfl,bA⟩
def io (R D:Int)(d:Nat):Nat:=if d=2^ (ai R*D.toNat) then 2^ (ai R*(D-1).toNat) else d
def gD (R D:Int)(d:Nat)(p:Int):Int:=if d=2^ (ai R*D.toNat) then p+1 else p
theorem Br (R D L G:Int)(gr:Bool)(v:Value)(d:Nat)(p:Int)(base:Nat)(w:World)(ho:Own w base 108 .u32 v (Dg.dg 4294967296 d))(hbs:base≤w.heap.size)(h1:1≤D)(h2:D≤120)(p1: -1000000≤p)(p2:p≤1000000):
  yC 121 #[ygV R D L G gr,.agg #[v,yi p]] w fun z w'=> ∃u,z= .returned (.agg #[u,yi (gD R D d p)])∧Own w' base 108 .u32 u (Dg.dg 4294967296 (io R D d))∧yB w w':=by
 obtain⟨ao,ca,hv⟩:=ho.rd.shape;subst hv;obtain⟨m,hm⟩: ∃m,(Dg.dg 4294967296 d).length=m:=⟨_,rfl⟩;have HE:Hid (∀w1,yC 149 #[ygV R D L G gr] w1 (Num w1 (2^ (ai R*D.toNat)))):=fun w1=>MX R D L G gr w1 h1 h2
 have HF:Hid (∀w1,yC 150 #[ygV R D L G gr] w1 (Num w1 (2^ (ai R*(D-1).toNat)))):=fun w1=>Ax R D L G gr w1 h1 h2
 obtain⟨X,hX⟩: ∃X,2^ (ai R*D.toNat)=X:=⟨_,rfl⟩;obtain⟨Y,hY⟩: ∃Y,2^ (ai R*(D-1).toNat)=Y:=⟨_,rfl⟩;rw[hX] at HE;rw[hY] at HF;have HCM:Hid (∀u w1,Rd w1 .u32 (.slice ao m ca) (Dg.dg 4294967296 d)→Rd w1 .u32 u (Dg.dg 4294967296 X)→yC 119 #[.slice ao m ca,u] w1 (yR w1 (yi (dm d (X:Int))))):=fun u w1 r1 r2=>by
  have:=jF _ u _ _ w1 r1 r2 (Dg.small_dg _ _ (by omega)) (Dg.small_dg _ _ (by omega)) (Dg.norm_dg _ _ (by omega)) (Dg.norm_dg _ _ (by omega))
  rwa [Dg.vl_dg _ _ (by omega),Dg.vl_dg _ _ (by omega)] at this
 obtain⟨cd,hcd⟩: ∃x,io R D d=x:=⟨_,rfl⟩;obtain⟨cp,hcp⟩: ∃x,gD R D d p=x:=⟨_,rfl⟩;have HPOS:Hid (d=X→Y=cd∧p+1=cp):=fun h=>by
  rw[←hcd,←hcp,←hY];unfold io gD;rw[if_pos (h.trans hX.symm),if_pos (h.trans hX.symm)];exact⟨rfl,rfl⟩
 have HNEG:Hid (¬d=X→d=cd∧p=cp):=fun h=>by
  rw[←hcd,←hcp];unfold io gD;rw[if_neg (fun e=>h (e.trans hX)),if_neg (fun e=>h (e.trans hX))]
  exact⟨rfl,rfl⟩
 rw[hcd,hcp];clear hcd hcp;rw[hm] at ho⊢;obtain⟨ds,hds⟩: ∃ds,Dg.dg 4294967296 d=ds:=⟨_,rfl⟩;have HDS:Hid (Dg.dg 4294967296 d=ds):=hds;rw[hds] at ho HCM;clear hX hY hm hds;obtain⟨cc,hcc⟩: ∃c,dm d (X:Int)=c:=⟨_,rfl⟩;have hc0:cc=0↔d=X:=by
  rw[←hcc];unfold dm
  split
  ·omega
  ·split<;>omega
 rw[hcc] at HCM;clear hcc;have b1:=aa (aa (af w (.cells (ygA R D L G gr) 160)) (af _ (.cells #[.slice ao m ca,yi p] 168))) (af _ (.cells #[yN,yi 0] 168));have g1:=((ah w (ygL R D L G gr) 160).l (af _ (.cells #[.slice ao m ca,yi p] 168))).l (af _ (.cells #[yN,yi 0] 168));have s1:=(ah (w.alloc (.cells (ygA R D L G gr) 160)) [.slice ao m ca,yi p] 168).l (af _ (.cells #[yN,yi 0] 168));have z1:=ah ((w.alloc (.cells (ygA R D L G gr) 160)).alloc (.cells #[.slice ao m ca,yi p] 168)) [yN,yi 0] 168;simp only[World.size_alloc] at s1 z1;have bd:=aa b1 ((Below.refl _ _).drew);replace g1:=g1.drew;replace s1:=s1.drew;replace z1:=z1.drew;have o1:=ho.l bd;clear b1 ho;obtain⟨c0,c1,c2,c3,c4⟩:=g1.cs5;have d0:=s1.c 0 rfl;have ne1:w.heap.size+1+1≠w.heap.size:=by omega
 have ne2:w.heap.size+1+1≠w.heap.size+1:=by omega
 have w1:IntKind.i64.wrap (p+1)=p+1:=IntWalk.i64_in _ ⟨by omega,by omega⟩
 go_enter func121,ntmps121
 go_wp2_with fail
 go_region_held3 (fun wq=>wq.cell? ⟨w.heap.size+1,0,none⟩=some (.slice ao m ca)∧(wq.cell? ⟨w.heap.size,0,none⟩=some (yi R)∧wq.cell? ⟨w.heap.size,1,none⟩=some (yi D)∧wq.cell? ⟨w.heap.size,2,none⟩=some (yi L)∧wq.cell? ⟨w.heap.size,3,none⟩=some (yi G)∧wq.cell? ⟨w.heap.size,4,none⟩=some (.bool gr))) (go_keep) (first
  | (go_at_call 149;refine(HE.out _).mono ?_;rintro z w3 ⟨v3,rfl,o3,b3⟩;have b03:=aa bd b3;have g3:=g1.l b3;have s3:=s1.l b3;have z3:=z1.l b3;have o13:=o1.l b3;obtain⟨k0,k1,k2,k3,k4⟩:=g3.cs5;have k5:=s3.c 0 rfl)
  | (go_at_call 119;refine(HCM.out _ w3 (HDS.out▸o13.rd) o3.rd).mono ?_;rintro z w4 ⟨rfl,b4⟩;have b04:=aa b03 b4;have g4:=g3.l b4;have s4:=s3.l b4;have z4:=z3.l b4;have o14:=o13.l b4;obtain⟨j0,j1,j2,j3,j4⟩:=g4.cs5;have j5:=s4.c 0 rfl))
 by_cases h0:cc=0
 ·obtain⟨h3,h4⟩:=HPOS.out (hc0.1 h0)
  subst h3;subst h4;subst h0;clear hc0 HPOS HNEG k0 k1 k2 k3 k4 k5 c0 c1 c2 c3 c4 d0 o3 g1 g3 s1 s3 z1 z3 o1 o13 bd b03 b3 b4 HE HCM;have bd4:yB w4 w4.drew:=(Below.refl _ _).drew;have b05:=aa b04 bd4;have g5:=g4.l bd4;have s5:=s4.l bd4;have z5:=z4.l bd4;clear b04 g4 s4 z4 o14 bd4 j0 j1 j2 j3 j4 j5;obtain⟨j0,j1,j2,j3,j4⟩:=g5.cs5;have j5:=s5.c 1 rfl
  go_goals
  go_wp2_with fail
  go_region_held3 (fun wq=>wq.cell? ⟨w.heap.size+1,1,none⟩=some (yi p)∧(wq.cell? ⟨w.heap.size,0,none⟩=some (yi R)∧wq.cell? ⟨w.heap.size,1,none⟩=some (yi D)∧wq.cell? ⟨w.heap.size,2,none⟩=some (yi L)∧wq.cell? ⟨w.heap.size,3,none⟩=some (yi G)∧wq.cell? ⟨w.heap.size,4,none⟩=some (.bool gr))) (go_keep) (first
   | (go_at_call 150;refine(HF.out _).mono ?_;rintro z w6 ⟨v6,rfl,o6,b6⟩;have b06:=aa b05 b6;have g6:=g5.l b6;have s6:=s5.l b6;have z6:=z5.l b6;obtain⟨k0,k1,k2,k3,k4⟩:=g6.cs5;have k5:=s6.c 1 rfl;obtain⟨y0,y1⟩:=z6.cs2;have f0:=z6.f 0;have f1:=z6.f 1;obtain⟨so,sc,hs⟩:=o6.rd.shape;subst hs))
  all_goals go_wp2
  have z7:au _ _ _ [yT so Y sc,yi (p+1)]:=(z6.set 0 (yT so Y sc)).set 1 (yi (p+1));have o7:=(o6.setE z6 (by decide) 0 (yT so Y sc)).setE (z6.set 0 (yT so Y sc)) (by decide) 1 (yi (p+1));have b7:=(b06.setCell (p:=⟨w.heap.size+1+1,0,none⟩) (by show w.heap.size≤w.heap.size+1+1;omega) (yT so Y sc)).setCell (p:=⟨w.heap.size+1+1,1,none⟩) (by show w.heap.size≤w.heap.size+1+1;omega) (yi (p+1))
  obtain⟨x0,x1⟩:=z7.cs2;refine bodyPost_ret (v:= .agg #[yT so Y sc,yi (p+1)]) (by simp[results,results121,go_sem,x0,x1]) rfl ?_;exact⟨_,rfl,o7.lower (Nat.le_trans hbs b05.size),b7⟩
 ·obtain⟨h3,h4⟩:=HNEG.out (fun h=>h0 (hc0.2 h))
  subst h3;subst h4;have hcf:(cc==0)=false:=by simp;exact h0
  clear hc0 HPOS HNEG k0 k1 k2 k3 k4 k5 c0 c1 c2 c3 c4 d0 o3 g1 g3 s1 s3 z1 z3 o1 o13 bd b03 b3 b4 HE HCM HF j0 j1 j2 j3 j4 g4;have j6:=s4.c 1 rfl;obtain⟨y0,y1⟩:=z4.cs2;have f0:=z4.f 0;have f1:=z4.f 1
  go_goals
  go_wp2
  have z7:au _ _ _ [.slice ao m ca,yi p]:=(z4.set 0 (.slice ao m ca)).set 1 (yi p);have o7:=(o14.setE z4 (by decide) 0 (.slice ao m ca)).setE (z4.set 0 (.slice ao m ca)) (by decide) 1 (yi p);have b7:=(b04.setCell (p:=⟨w.heap.size+1+1,0,none⟩) (by show w.heap.size≤w.heap.size+1+1;omega) (.slice ao m ca)).setCell (p:=⟨w.heap.size+1+1,1,none⟩) (by show w.heap.size≤w.heap.size+1+1;omega) (yi p)
  obtain⟨x0,x1⟩:=z7.cs2;refine bodyPost_ret (v:= .agg #[.slice ao m ca,yi p]) (by simp[results,results121,go_sem,x0,x1]) rfl ?_;exact⟨_,rfl,HDS.out▸o7,b7⟩
end Go.Proofs.YtpainhklfoaniaaGreatDoor
