/-
  Texts laid together: Math, RootM, Roo1, Cr10, Gr11, Du2, Pa6, Pa7.
-/
import Derived.WalkKit
import Derived.WalkSpells
import Derived.Deep.QuietTactic
import Derived.BigQuiet
import Derived.Test.YtnhackdjplppjaaGreatDoorChecked
import Derived.Handy
import Derived.Laws.CopyOwn
import Derived.BigRegion
import Derived.Deep.LoopGhost
import Derived.Deep.RegionLaw
import Derived.WalkSmall
import Derived.OpenShut
import Derived.Laws.MathBits
import Derived.Lib.BitFns
import Derived.Lib.Walk
import Derived.Lib.Small
import Derived.Lib.TrailingZeros
import Derived.Shelf.Spec.TrailingZeros
import Derived.Deep.RegionHeld3
import Derived.Deep.MidRow
import Derived.Deep.Cut
import Derived.Laws.IdiomStrings
import Derived.Laws.ResultCell
import Derived.ChangeMaps4
import Derived.Deep.DeepCutAuto
import Derived.Deep.RegionWith
import Derived.Laws.OwnMore
import Derived.Deep.AppendLies
import Derived.Deep.CutBlock
import Derived.Maps.AppendAt
import Derived.Test.YtnhackdjplppjaaGreatDoorSp34
import Derived.Test.YtnhackdjplppjaaGreatDoorDyCom
set_option maxRecDepth 100000
namespace Go.Proofs.YtnhackdjplppjaaGreatDoor
namespace Dg
theorem dg_inj (B n m:Nat) (hB:2≤B) (h:dg B n=dg B m):n=m:=by
 have:=congrArg (vl B) h
 rwa [vl_dg B n hB,vl_dg B m hB] at this
end Dg
end Go.Proofs.YtnhackdjplppjaaGreatDoor
namespace Go.Proofs.YtnhackdjplppjaaGreatDoor
theorem mean_ge (r x:Int) (hr:0≤r) (hx:0≤x) (m:Nat):((m:Int)+1)*r*x^m≤r^ (m+1)+m*x^ (m+1):=by
 induction m with
 |zero=>simp[Int.pow_succ]
 |succ m ih=>
  have h1:r*(((m:Int)+1)*r*x^m)≤r*(r^ (m+1)+m*x^ (m+1)):=Int.mul_le_mul_of_nonneg_left ih hr;have h2:0≤((m:Int)+1)*x^m*((x-r)*(x-r)):=by
   refine Int.mul_nonneg (Int.mul_nonneg (by omega) (Int.pow_nonneg hx)) ?_
   rcases Int.le_total 0 (x-r) with h|h
   ·exact Int.mul_nonneg h h
   ·exact Int.mul_nonneg_of_nonpos_of_nonpos h h
  have e1:((m+1:Nat):Int)=(m:Int)+1:=by omega
  rw[e1,Int.pow_succ r (m+1),Int.pow_succ x (m+1)];rw[Int.pow_succ x m] at h1⊢;generalize r^ (m+1)=P at h1⊢;generalize x^m=X at h1 h2⊢;generalize(m:Int)=M at h1 h2⊢;have key:P*r+(M+1)*(X*x*x)-(M+1+1)*r*(X*x)=(r*(P+M*(X*x))-r*((M+1)*r*X))+(M+1)*X*((x-r)*(x-r)):=by grind
  omega
theorem mean_nat (r x m:Nat):(m+1)*r*x^m≤r^ (m+1)+m*x^ (m+1):=by
 have:=mean_ge (r:Int) (x:Int) (by omega) (by omega) m
 exact_mod_cast this
def meanN (a x m:Nat):Nat:=(m*x+a/x^m)/(m+1)
theorem mean_above {a x m z:Nat} (hx:0<x) (hz:z^ (m+1)≤a):z≤meanN a x m:=by
 unfold meanN;rw[Nat.le_div_iff_mul_le (by omega),Nat.mul_comm];have h1:=mean_nat z x m;have hp:0<x^m:=Nat.pow_pos hx
 rcases Nat.lt_or_ge ((m+1)*z) (m*x) with h|h
 ·exact Nat.le_trans (Nat.le_of_lt h) (Nat.le_add_right _ _)
 ·have h2:((m+1)*z-m*x)*x^m≤a:=by
   have e:m*x*x^m=m*x^ (m+1):=by rw[Nat.mul_assoc,←Nat.pow_succ']
   rw[Nat.sub_mul,e];exact Nat.sub_le_of_le_add (Nat.le_trans h1 (Nat.add_le_add_right hz _))
  have h3:=(Nat.le_div_iff_mul_le hp).2 h2;exact Nat.sub_le_iff_le_add'.1 h3
theorem mean_stop {a x m:Nat} (hx:0<x) (h:x≤meanN a x m):x^ (m+1)≤a:=by
 unfold meanN at h;rw[Nat.le_div_iff_mul_le (by omega),Nat.mul_add,Nat.mul_one,Nat.mul_comm x m] at h;have hp:0<x^m:=Nat.pow_pos hx;have h2:x≤a/x^m:=by omega
 rw[Nat.le_div_iff_mul_le hp] at h2;rw[Nat.pow_succ'];exact h2
def Above (a k x:Nat):Prop:= ∀z,z^k≤a→z≤x
theorem above_start {a k bits n:Nat} (ha:a<2^bits) (hn:bits≤n*k):Above a k (2^n):=fun z hz=>by
 rcases Nat.lt_or_ge (2^n) z with h|h
 ·exfalso
  have h1:(2^n)^k≤z^k:=Nat.pow_le_pow_left (by omega) k;rw[←Nat.pow_mul] at h1;have h2:(2:Nat)^bits≤2^ (n*k):=Nat.pow_le_pow_right (by omega) hn;omega
 ·exact h
theorem above_step {a x m:Nat} (hx:0<x):Above a (m+1) (meanN a x m):=fun _ hz=>mean_above hx hz
theorem above_pos {a k x:Nat} (h:Above a k x) (ha:0<a):0<x:=h 1 (by rw[Nat.one_pow];exact ha)
def IsRoot (a k x:Nat):Prop:=x^k≤a∧a< (x+1)^k
theorem root_end {a x m:Nat} (h:Above a (m+1) x) (hx:0<x) (hs:x≤meanN a x m):IsRoot a (m+1) x:=
 ⟨mean_stop hx hs,by
  rcases Nat.lt_or_ge a ((x+1)^ (m+1)) with h1|h1
  ·exact h1
  ·have:=h (x+1) h1;omega⟩
theorem root_one (a:Nat):IsRoot a 1 a:=⟨by simp,by simp⟩
theorem root_zero {k:Nat} (hk:0<k):IsRoot 0 k 0:=⟨by rw[Nat.zero_pow hk];exact Nat.le_refl _,by simp⟩
theorem root_le {a k x:Nat} (hk:0<k) (h:IsRoot a k x):x≤a:=by
 rcases Nat.eq_zero_or_pos x with e|e
 ·omega
 ·exact Nat.le_trans (Nat.le_self_pow (by omega) x) h.1
end Go.Proofs.YtnhackdjplppjaaGreatDoor
namespace Go.Proofs.YtnhackdjplppjaaGreatDoor
open Go.RowKit
theorem rd_same {w:World} {k:IntKind} {v:Value} {xs ys:List Nat} (h:Rd w k v xs) (g:Rd w k v ys):xs=ys:=by
 obtain⟨ao,ca,rfl⟩:=h.shape;have hl:=rd_len g;obtain⟨_,_,h1⟩:=rd_open h;rw[hl] at g;obtain⟨_,_,g1⟩:=rd_open g;refine Dg.eq_of_all xs ys hl fun j=> ?_
 by_cases hj:j<xs.length
 ·obtain⟨b,off,e1,c1⟩:=h1 (by omega)
  obtain⟨b2,off2,e2,c2⟩:=g1 (by omega);rw[e1] at e2
  cases e2
  have a1:=c1 j hj;rw[c2 j (by omega)] at a1
  injection a1 with a1
  injection a1 with _ a1
  omega
 ·rw[Dg.getD_of_le xs j (by omega),Dg.getD_of_le ys j (by omega)]
theorem numOf_eq {w:World} {v:Value} {n:Nat} (h:Rd w .u32 v (Dg.dg 4294967296 n)):(Classical.epsilon fun n=>Rd w .u32 v (Dg.dg 4294967296 n))=n:=
 Dg.dg_inj 4294967296 _ _ (by omega) (rd_same (Classical.epsilon_spec (p:=fun n=>Rd w .u32 v (Dg.dg 4294967296 n)) ⟨n,h⟩) h)
end Go.Proofs.YtnhackdjplppjaaGreatDoor
namespace Go.Proofs.YtnhackdjplppjaaGreatDoor
open Go.RowKit
set_option maxHeartbeats 3200000 in
theorem sameValue_true (c p:Int) (g:Bool) (ao bo:Option Addr) (zs:List Nat) (ca cb:Nat) (w:World) (ha:Rd w .u32 (.slice ao zs.length ca) zs) (hb:Rd w .u32 (.slice bo zs.length cb) zs):
  Calls Tryz.prog 45 #[yvV c g (.slice ao zs.length ca) p,yvV c g (.slice bo zs.length cb) p] w fun z w'=>z= .returned (.bool true)∧Below w.heap.size w w':=by
 have b0:=below_trans (below_alloc w (.cells (yvL c g (.slice ao zs.length ca) p).toArray 73)) (below_alloc _ (.cells (yvL c g (.slice bo zs.length cb) p).toArray 73));have hs:=same_any _ _ zs zs _ (ha.later b0) (hb.later b0);rw[decide_eq_true (rfl:zs=zs)] at hs;have HS:Hid (Calls Tryz.prog 101 #[.slice ao zs.length ca,.slice bo zs.length cb] ((w.alloc (.cells (yvL c g (.slice ao zs.length ca) p).toArray 73)).alloc (.cells (yvL c g (.slice bo zs.length cb) p).toArray 73)) fun e w'=>e= .returned (.bool true)∧Below ((w.alloc (.cells (yvL c g (.slice ao zs.length ca) p).toArray 73)).alloc (.cells (yvL c g (.slice bo zs.length cb) p).toArray 73)).heap.size ((w.alloc (.cells (yvL c g (.slice ao zs.length ca) p).toArray 73)).alloc (.cells (yvL c g (.slice bo zs.length cb) p).toArray 73)) w'):=hs
 clear hs ha hb
 cases g
 all_goals go_enter Tryz.func45,Tryz.ntmps45
 all_goals go_wp2_with fail
 all_goals (refine Calls.mono HS.out ?_;rintro z w1 ⟨rfl,b1⟩;go_wp2;go_ret;exact⟨rfl,below_trans b0 b1⟩)
end Go.Proofs.YtnhackdjplppjaaGreatDoor
namespace Go.Proofs.YtnhackdjplppjaaGreatDoor
open Go.RowKit
theorem refIsWay_any (way:Int) (w:World):Calls Tryz.prog 37 #[yi way] w fun z w'=>z= .returned (.bool (isWay way))∧w'=w:=by
 unfold isWay
 by_cases h:1≤way
 ·go_enter Tryz.func37,Tryz.ntmps37
  go_wp2
  go_ret
  simp[h]
 ·go_enter Tryz.func37,Tryz.ntmps37
  go_wp2
  go_ret
  simp;omega
end Go.Proofs.YtnhackdjplppjaaGreatDoor
namespace Go.Proofs.YtnhackdjplppjaaGreatDoor
open Go.RowKit
def overS (a b:Trip) (B:Nat):Nat:=B+bitLen b.n-bitLen a.n
def overT (a b:Trip) (B:Nat):Trip:=endlessT (a.s != b.s) (a.n*2^overS a b B/b.n) (a.e-b.e-(overS a b B:Int)) (decide (0<a.n*2^overS a b B % b.n))
set_option maxHeartbeats 3200000 in
theorem dover_any (v u:Value) (a b:Trip) (B:Nat) (w:World) (hv:Dv w v a) (hu:Dv w u b) (hb0:0<b.n) (hLa:(Dg.dg 4294967296 a.n).length≤3000) (hLb:(Dg.dg 4294967296 b.n).length≤3000)
  (ha1: -100000≤a.e) (ha2:a.e≤100000) (hb1: -100000≤b.e) (hb2:b.e≤100000) (hB:B≤10000):
  Calls Tryz.prog 129 #[v,u,yi B] w (DRes w (overT a b B)):=by
 obtain⟨s0,rfl,ra⟩:=hv;obtain⟨s1,rfl,rb⟩:=hu;obtain⟨sa,an,ae⟩:=a;obtain⟨sb,bn,be⟩:=b;simp only at ra rb hLa hLb ha1 ha2 hb1 hb2 hb0⊢;have hla:=bitLen_of_len2 hLa;have hlb:=bitLen_of_len2 hLb;have HBA:Hid (∀w1,Below w.heap.size w w1→Calls Tryz.prog 176 #[s0] w1 fun z w'=>z= .returned (yi (bitLen an:Nat))∧w'=w1):=fun w1 b1=>by
  have:=bits_any s0 _ w1 (ra.later b1) (Dg.small_dg _ _ (by omega)) (Dg.norm_dg _ _ (by omega)) (by omega)
  rwa [Dg.vl_dg _ _ (by omega)] at this
 have HBB:Hid (∀w1,Below w.heap.size w w1→Calls Tryz.prog 176 #[s1] w1 fun z w'=>z= .returned (yi (bitLen bn:Nat))∧w'=w1):=fun w1 b1=>by
  have:=bits_any s1 _ w1 (rb.later b1) (Dg.small_dg _ _ (by omega)) (Dg.norm_dg _ _ (by omega)) (by omega)
  rwa [Dg.vl_dg _ _ (by omega)] at this
 unfold overT overS;simp only;have hsm:max (0:Int) ((B:Int)+(bitLen bn:Int)-(bitLen an:Int))=((B+bitLen bn-bitLen an:Nat):Int):=by omega
 have hshl:B+bitLen bn-bitLen an≤106000:=by omega
 obtain⟨sh,hsh⟩: ∃sh,B+bitLen bn-bitLen an=sh:=⟨_,rfl⟩;rw[hsh] at hsm hshl⊢;have HSF:Hid (∀w1,Below w.heap.size w w1→Calls Tryz.prog 177 #[s0,yi sh] w1 (Num w1 (an*2^sh))):=fun w1 b1=>by
  have:=shifted_any s0 _ (sh:Int) w1 (ra.later b1) (Dg.small_dg _ _ (by omega)) (by omega) (by omega) (by omega);rw[Dg.vl_dg _ _ (by omega),shN_up _ _ (by omega),Int.toNat_natCast] at this;exact this
 have hml:=up_len an sh 3000 3313 hLa (by omega);have HOV:Hid (∀v1 w1,Below w.heap.size w w1→Rd w1 .u32 v1 (Dg.dg 4294967296 (an*2^sh))→Calls Tryz.prog 178 #[v1,s1] w1 (Two w1 (an*2^sh/bn) (an*2^sh % bn))):=fun v1 w1 b1 r=>by
  have:=over_any v1 s1 _ _ w1 r (rb.later b1) (Dg.small_dg _ _ (by omega)) (Dg.small_dg _ _ (by omega)) (Dg.norm_dg _ _ (by omega)) (Dg.norm_dg _ _ (by omega)) (by rw[Ne,Dg.dg_nil_iff _ _ (by omega)];omega) (by omega)
  rwa [Dg.vl_dg _ _ (by omega),Dg.vl_dg _ _ (by omega)] at this
 have hql:(Dg.dg 4294967296 (an*2^sh/bn)).length≤500000:=Nat.le_trans (dg_len_mono 4294967296 _ _ (by omega) (Nat.div_le_self _ _)) (by omega);obtain⟨Q,hQ⟩: ∃Q,an*2^sh/bn=Q:=⟨_,rfl⟩;obtain⟨M,hM⟩: ∃M,an*2^sh % bn=M:=⟨_,rfl⟩;rw[hQ,hM] at HOV⊢;rw[hQ] at hql;have HEN:Hid (∀v1 lf w1,decide (0<M)=lf→Rd w1 .u32 v1 (Dg.dg 4294967296 Q)→Calls Tryz.prog 179 #[.bool (sa != sb),v1,yi (ae-be-(sh:Int)),.bool lf] w1 (DRes w1 (endlessT (sa != sb) Q (ae-be-(sh:Int)) (decide (0<M))))):=fun v1 lf w1 h r=>by
  rw[h];exact endless_any _ v1 Q _ lf w1 r hql (by omega) (by omega)
 obtain⟨⟨zs,zn,ze⟩,hz⟩: ∃r,endlessT (sa != sb) Q (ae-be-(sh:Int)) (decide (0<M))=r:=⟨_,rfl⟩;rw[hz] at HEN⊢;have hMz:(0< (Dg.dg 4294967296 M).length)↔0<M:=by
  rw[List.length_pos_iff,Ne,Dg.dg_nil_iff _ _ (by omega)];omega
 obtain⟨ao,ca,rfl⟩:=ra.shape;obtain⟨bo,cb,rfl⟩:=rb.shape;obtain⟨ma,hma⟩: ∃m,(Dg.dg 4294967296 an).length=m:=⟨_,rfl⟩;obtain⟨mb,hmb⟩: ∃m,(Dg.dg 4294967296 bn).length=m:=⟨_,rfl⟩;obtain⟨la0,hla0⟩: ∃m,bitLen an=m:=⟨_,rfl⟩;obtain⟨lb0,hlb0⟩: ∃m,bitLen bn=m:=⟨_,rfl⟩;rw[hma] at HBA HSF⊢;rw[hmb] at HBB HOV⊢;rw[hla0] at HBA hla hsm;rw[hlb0] at HBB hlb hsm;clear hz hma hmb hla0 hlb0 hQ hM ra rb hLa hLb hsh hml hb0 hql;obtain⟨la,lb,lc,bb,-⟩:=locals3 w (.bool sa) (.slice ao ma ca) (yi ae) (.bool sb) (.slice bo mb cb) (yi be) (.bool false) (.slice none 0 0) (yi 0) 96 96 96;obtain⟨W,hW⟩: ∃W,(((w.alloc (.cells (ydL sa (.slice ao ma ca) ae).toArray 96)).alloc (.cells (ydL sb (.slice bo mb cb) be).toArray 96)).alloc (.cells (ydL false (.slice none 0 0) 0).toArray 96))=W:=⟨_,rfl⟩;rw[hW] at la lb lc bb;have bd:Below W.heap.size W W.drew:=(Below.refl _ _).drew;have la1:=la.later bd;have lb1:=lb.later bd;have lc1:=lc.later bd;have b01:=below_trans bb bd;rw[←hW] at la1 lb1 lc1 b01;obtain⟨-,⟨c0,c1,c2⟩,-⟩:=id la1;obtain⟨-,⟨c3,c4,c5⟩,-⟩:=id lb1;have hw1:IntKind.i64.wrap ((B:Int)+(lb0:Int))=(B:Int)+(lb0:Int):=IntWalk.i64_in _ ⟨by omega,by omega⟩;have hw2:IntKind.i64.wrap ((B:Int)+(lb0:Int)-(la0:Int))=(B:Int)+(lb0:Int)-(la0:Int):=IntWalk.i64_in _ ⟨by omega,by omega⟩;clear la lb lc bb bd hW
 go_enter Tryz.func129,Tryz.ntmps129
 go_wp2_with fail
 go_region_held3 (fun wq=>(wq.cell? ⟨w.heap.size,0,none⟩=some (.bool sa)∧wq.cell? ⟨w.heap.size,1,none⟩=some (.slice ao ma ca)∧wq.cell? ⟨w.heap.size,2,none⟩=some (yi ae))∧wq.cell? ⟨w.heap.size+1,0,none⟩=some (.bool sb)∧wq.cell? ⟨w.heap.size+1,1,none⟩=some (.slice bo mb cb)∧wq.cell? ⟨w.heap.size+1,2,none⟩=some (yi be)) (go_keep) (first
  | (go_at_call 172;refine(digits_any sb bo mb cb be _).mono ?_;rintro z w2 ⟨rfl,b2⟩;have la2:=la1.later b2;have lb2:=lb1.later b2;have lc2:=lc1.later b2;have b02:=below_trans b01 b2;obtain⟨-,⟨p0,p1,p2⟩,-⟩:=id la2;obtain⟨-,⟨p3,p4,p5⟩,-⟩:=id lb2;clear b01)
  | (go_at_call 176;refine(HBB.out w2 b02).mono ?_;rintro z w3 ⟨rfl,rfl⟩;clear HBB)
  | (go_at_call 172;refine(digits_any sa ao ma ca ae _).mono ?_;rintro z w4 ⟨rfl,b4⟩;have la4:=la2.later b4;have lb4:=lb2.later b4;have lc4:=lc2.later b4;have b04:=below_trans b02 b4;obtain⟨-,⟨q0,q1,q2⟩,-⟩:=id la4;obtain⟨-,⟨q3,q4,q5⟩,-⟩:=id lb4)
  | (go_at_call 176;refine(HBA.out w4 b04).mono ?_;rintro z w5 ⟨rfl,rfl⟩))
 clear c0 c1 c2 c3 c4 c5 p0 p1 p2 p3 p4 p5 q0 q1 q2 q3 q4 q5 la1 lb1 lc1 la2 lb2 lc2 b02 b2 b4;have bd:Below w5.heap.size w5 w5.drew:=(Below.refl _ _).drew;have la5:=la4.later bd;have lb5:=lb4.later bd;have lc5:=lc4.later bd;have b05:=below_trans b04 bd;obtain⟨-,⟨c0,c1,c2⟩,-⟩:=id la5;obtain⟨-,⟨c3,c4,c5⟩,-⟩:=id lb5;clear la4 lb4 lc4 b04 bd
 go_wp2_with fail
 go_region_held3 (fun wq=>(wq.cell? ⟨w.heap.size,0,none⟩=some (.bool sa)∧wq.cell? ⟨w.heap.size,1,none⟩=some (.slice ao ma ca)∧wq.cell? ⟨w.heap.size,2,none⟩=some (yi ae))∧wq.cell? ⟨w.heap.size+1,0,none⟩=some (.bool sb)∧wq.cell? ⟨w.heap.size+1,1,none⟩=some (.slice bo mb cb)∧wq.cell? ⟨w.heap.size+1,2,none⟩=some (yi be)) (go_keep) (first
  | (go_at_call 172;refine(digits_any sa ao ma ca ae _).mono ?_;rintro z w6 ⟨rfl,b6⟩;have la6:=la5.later b6;have lb6:=lb5.later b6;have lc6:=lc5.later b6;have b06:=below_trans b05 b6;obtain⟨-,⟨p0,p1,p2⟩,-⟩:=id la6;obtain⟨-,⟨p3,p4,p5⟩,-⟩:=id lb6;clear b05)
  | (go_at_call 177;refine(HSF.out w6 b06).mono ?_;rintro z w7 ⟨v7,rfl,o7,b7⟩;have la7:=la6.later b7;have lb7:=lb6.later b7;have lc7:=lc6.later b7;have b07:=below_trans b06 b7;obtain⟨-,⟨q0,q1,q2⟩,-⟩:=id la7;obtain⟨-,⟨q3,q4,q5⟩,-⟩:=id lb7)
  | (go_at_call 172;refine(digits_any sb bo mb cb be _).mono ?_;rintro z w8 ⟨rfl,b8⟩;have la8:=la7.later b8;have lb8:=lb7.later b8;have lc8:=lc7.later b8;have b08:=below_trans b07 b8;have r8:=(o7.later b8).rd;obtain⟨-,⟨t0,t1,t2⟩,-⟩:=id la8;obtain⟨-,⟨t3,t4,t5⟩,-⟩:=id lb8)
  | (go_at_call 178;refine(HOV.out _ w8 b08 r8).mono ?_;rintro z w9 ⟨vq,vr,rfl,oq,orr,b9⟩;have la9:=la8.later b9;have lb9:=lb8.later b9;have lc9:=lc8.later b9;have b09:=below_trans b08 b9;obtain⟨-,⟨x0,x1,x2⟩,-⟩:=id la9;obtain⟨-,⟨x3,x4,x5⟩,-⟩:=id lb9))
 have rq:=oq.rd;obtain⟨ro,rc,hvr⟩:=orr.rd.shape;subst hvr;have hlt:=lc9.1;clear c0 c1 c2 c3 c4 c5 p0 p1 p2 p3 p4 p5 q0 q1 q2 q3 q4 q5 t0 t1 t2 t3 t4 t5 la5 lb5 lc5 la6 lb6 lc6 la7 lb7 lc7 la8 lb8 lc8 b06 b6 b07 b7 b08 b8 b9 o7 r8 oq orr HBA HSF HOV;have hw3:IntKind.i64.wrap (ae-be)=ae-be:=IntWalk.i64_in _ ⟨by omega,by omega⟩;have hw4:IntKind.i64.wrap (ae-be-(sh:Int))=ae-be-(sh:Int):=IntWalk.i64_in _ ⟨by omega,by omega⟩
 by_cases hM0:0<M
 ·have hlen:=hMz.2 hM0
  have HD:Hid (decide (0<M)=true):=decide_eq_true hM0;clear hMz hM0
  go_wp2_with fail
  refine(HEN.out _ true _ HD.out rq).mono ?_;rintro z w10 ⟨vz,rfl,oz,b10⟩;have lc10:=lc9.later b10;have b010:=below_trans b09 b10;obtain⟨zo,zc,hvz⟩:=oz.rd.shape;subst hvz;obtain⟨hl6,⟨d0,d1,d2⟩,f0,f1,f2⟩:=id lc10;clear x0 x1 x2 x3 x4 x5 b10 rq la9 lb9;obtain⟨-,⟨g0,g1,g2⟩,-⟩:=loc_set lc10 (.bool zs) (.slice zo (Dg.dg 4294967296 zn).length zc) (yi ze);have o11:=oz.apart3 (b:=w.heap.size+1+1) hlt (.bool zs) (.slice zo (Dg.dg 4294967296 zn).length zc) (yi ze);have b11:=below_set3 b010 (show w.heap.size≤w.heap.size+1+1 by omega) (.bool zs) (.slice zo (Dg.dg 4294967296 zn).length zc) (yi ze)
  go_wp2
  refine bodyPost_ret (v:=(ydV zs (.slice zo (Dg.dg 4294967296 zn).length zc) ze)) (by simp[results,Tryz.results129,go_sem,g0,g1,g2]) rfl ?_;exact⟨_,rfl,o11.lower b09.size,b11⟩
 ·have hlen: ¬0< (Dg.dg 4294967296 M).length:=fun h=>hM0 (hMz.1 h)
  have HD:Hid (decide (0<M)=false):=decide_eq_false hM0;clear hMz hM0
  go_wp2_with fail
  refine(HEN.out _ false _ HD.out rq).mono ?_;rintro z w10 ⟨vz,rfl,oz,b10⟩;have lc10:=lc9.later b10;have b010:=below_trans b09 b10;obtain⟨zo,zc,hvz⟩:=oz.rd.shape;subst hvz;obtain⟨hl6,⟨d0,d1,d2⟩,f0,f1,f2⟩:=id lc10;clear x0 x1 x2 x3 x4 x5 b10 rq la9 lb9;obtain⟨-,⟨g0,g1,g2⟩,-⟩:=loc_set lc10 (.bool zs) (.slice zo (Dg.dg 4294967296 zn).length zc) (yi ze);have o11:=oz.apart3 (b:=w.heap.size+1+1) hlt (.bool zs) (.slice zo (Dg.dg 4294967296 zn).length zc) (yi ze);have b11:=below_set3 b010 (show w.heap.size≤w.heap.size+1+1 by omega) (.bool zs) (.slice zo (Dg.dg 4294967296 zn).length zc) (yi ze)
  go_wp2
  refine bodyPost_ret (v:=(ydV zs (.slice zo (Dg.dg 4294967296 zn).length zc) ze)) (by simp[results,Tryz.results129,go_sem,g0,g1,g2]) rfl ?_;exact⟨_,rfl,o11.lower b09.size,b11⟩
end Go.Proofs.YtnhackdjplppjaaGreatDoor
namespace Go.Proofs.YtnhackdjplppjaaGreatDoor
open Go.RowKit
def oppT (t:Trip):Trip:=⟨!t.s,t.n,t.e⟩
def subF (n way:Int) (a b:ByteArray):Int×Bool×Trip×Int:=sumV n.toNat way ((decC n a:Nat):Int) (decG n a) (opT n a) ((decC n b:Nat):Int) (!decG n b) (oppT (opT n b))
theorem sub_any (n way:Int) (a b:ByteArray) (w:World) (hT:Tab w):Calls Tryz.prog 22 #[yi n,.string a,.string b,yi way] w (ans3 (recT n way [a,b] (subF n way a b)) w):=by
 refine sub_W n way _ _ a b _ w (fun pb w1 b1 hl=> ?_)
 refine reckon_any n way [a,b] _ _ pb w1 (by simp) (by simp) hl (enter_of Tryz.func62 (by kernel_rfl) rfl) (hT.later b1) (fun k hk hn he hN=> ?_)
 subst hn;unfold subF;rw[Int.toNat_natCast];obtain⟨sa,-,-⟩:=op_small hk (errL_zero he a (by simp));obtain⟨sb,-,-⟩:=op_small hk (errL_zero he b (by simp));have sb':Small64 (oppT (opT (k:Int) b)):=sb;refine⟨fun h=>sum_near (small_near sa sb').1 h,fun g cap w2 b2 h=> ?_⟩
 obtain⟨xo,xc,r0,k0⟩:=h.each 0 a rfl;obtain⟨yo,yc,r1,k1⟩:=h.each 1 b rfl;exact sub1_W _ _ _ _ _ _ _ _ _ _ _ _ _ _ _ _ _ _ _ _ _ _ _ _ w2 r0 r1 (fun w3 b3=>oopposite_any _ _ _ _ _ w3 (k1.later b3)) (fun qo qc w3 b3 hq=>dsum_any k hk way _ _ _ _ _ (oppT (opT (k:Int) b)) _ _ _ _ w3 (k0.later b3) hq (small_mid sa) (small_mid sb'))
def poleV (k:Nat) (ng:Bool):Int×Bool×Trip×Int:=
 if famC (k:Int)=1 then(3,ng,⟨false,0,0⟩,8) else if famC (k:Int)=2 then((numV (bare ⟨ng,rdN k^dgN k-1,(widthN (rdN k:Int):Int)*gsI k⟩) ng).1,(numV (bare ⟨ng,rdN k^dgN k-1,(widthN (rdN k:Int):Int)*gsI k⟩) ng).2.1,(numV (bare ⟨ng,rdN k^dgN k-1,(widthN (rdN k:Int):Int)*gsI k⟩) ng).2.2.1,8) else noV k 8
def quotV (k:Nat) (cx:Int) (gx:Bool) (x:Trip) (cy:Int) (gy:Bool) (y:Trip):Int×Bool×Trip×Int:=
 if cx=3∧cy=3∨cx=1∧cy=1 then noV k 16 else if cx=3 then(3,gx != gy,⟨false,0,0⟩,0) else if cy=3 then(1,gx != gy,⟨false,0,0⟩,0) else if cy=1 then poleV k (gx != gy) else numV (overT x y 128) (gx != gy)
theorem great_spot {k:Nat} (hk:1≤k∧k≤8):InSpot (rdN k:Int) (dgN k:Int) (lsI k) (gsI k) (decide (k≤3)) (rdN k^dgN k-1) (gsI k):=by
 refine .inr ?_
 rcases eight hk with rfl|rfl|rfl|rfl|rfl|rfl|rfl|rfl<;>decide
theorem dbyZero_any (k:Nat) (hk:1≤k∧k≤8) (wy:Int) (ng:Bool) (w:World) (hT:Tab w):Calls Tryz.prog 128 #[dsk k wy,.bool ng] w (resV w (poleV k ng)):=by
 unfold poleV;have HG:=fun w1=>greatest_any k hk wy ng w1
 have HN:=fun w1=>noth_any k hk wy 8 w1
 unfold dsk at HG HN⊢
 rcases fam_cases hk with h|h|h
 ·rw[h,if_pos rfl]
  exact dbyZero_1 _ _ _ _ _ _ _ _ w
 ·rw[h] at HG⊢
  rw[if_neg (by decide),if_pos rfl];refine dbyZero_2 _ _ (rdN k^dgN k-1) (bare ⟨ng,rdN k^dgN k-1,(widthN (rdN k:Int):Int)*gsI k⟩) _ _ _ _ _ _ _ _ _ w (fun w1 _=>HG w1) (fun mo mc w1 b r=> ?_) (fun xo xc w1=>of_dy _ _ _ _ _ w1) (fun xo xc w1 r=>numberOf_any _ ng xo xc w1 r)
  have hg:=(fmt_fit hk).2.2.2.2.2.2.2.2.2.2.2;have hs:=spot_short (s:=ng) hg (great_spot hk);refine(wnumber_W _ _ _ _ _ _ 0 _ _ _ _ _ (bare ⟨ng,rdN k^dgN k-1,(widthN (rdN k:Int):Int)*gsI k⟩) w1 (fun w2 b2=> ?_)).mono (fun z w' hz=> ?_)
  ·have:=gNumber_any (rdN k:Int) (dgN k:Int) (lsI k) (gsI k) (decide (k≤3)) ng mo mc (Dg.dg 4294967296 (rdN k^dgN k-1)) (gsI k) false false false w2 (r.later b2) (Dg.small_dg _ _ (by omega)) (hT.later (below_trans b b2))
   rw[hs] at this;exact this
  ·obtain⟨v,h1,h2,-,h3⟩:=hz
   exact⟨v,h1,h2,h3⟩
 ·rw[h,if_neg (by decide),if_neg (by decide)]
  unfold noV;rw[h] at HN⊢;exact dbyZero_3 _ _ _ _ _ _ _ _ _ w HN
theorem over_near {x y:Trip} (hx:Small64 x) (hy:Small64 y):Near (overT x y 128):=by
 obtain⟨x1,x2,x3⟩:=hx;obtain⟨y1,y2,y3⟩:=hy;have hb:=bitLen_le_of _ _ y1;have ha:=bitLen_le_of _ _ x1;have hS:overS x y 128≤192∧bitLen x.n+overS x y 128≤192:=by unfold overS;omega
 have h1:x.n*2^overS x y 128/y.n<2^192:=by
  refine Nat.lt_of_le_of_lt (Nat.div_le_self _ _) ?_;refine pow_le_of (a:=bitLen x.n+overS x y 128) ?_ hS.2;rw[Nat.pow_add];exact Nat.mul_lt_mul_of_pos_right (bit_lt (Nat.le_refl _)) (two_pos _)
 have h2:(overT x y 128).n<2^193:=by
  show x.n*2^overS x y 128/y.n*2+(if _ then 1 else 0)<2^193
  have e:2^193=2^192*2:=Nat.pow_succ ..
  split<;>omega
 have h3:=bitLen_le_of _ _ h2;have he:(overT x y 128).e=x.e-y.e-(overS x y 128:Int)-1:=rfl;exact⟨by omega,by omega⟩
theorem dquotient_any (k:Nat) (hk:1≤k∧k≤8) (wy cx cy:Int) (gx gy:Bool) (x y:Trip) (xo yo:Option Addr) (xc yc:Nat) (w:World) (rx:rdT w x xo xc) (ry:rdT w y yo yc) (sx:Small64 x) (sy:Small64 y) (hy0:cy≠1→cy≠3→y.n≠0) (hT:Tab w):
  Calls Tryz.prog 69 #[dsk k wy,opV cx gx x xo xc,opV cy gy y yo yc] w (resV w (quotV k cx gx x cy gy y)):=by
 have HT:=fun(h:y.n≠0) w1 (b:Below w.heap.size w w1)=>dover_any _ _ x y 128 w1 ⟨_,rfl,rx.later b⟩ ⟨_,rfl,ry.later b⟩ (Nat.pos_of_ne_zero h) (two_len sx.1 (by omega)) (two_len sy.1 (by omega)) (by have:=sx.2;omega) (by have:=sx.2;omega) (by have:=sy.2;omega) (by have:=sy.2;omega) (by omega)
 have HM:=fun uo uc w1 h=>numberOf_any (overT x y 128) (gx != gy) uo uc w1 h
 unfold quotV
 by_cases hx:cx=3
 ·subst hx
  by_cases hy:cy=3
  ·subst hy
   rw[if_pos (.inl ⟨rfl,rfl⟩)];exact dquotient_33 _ _ _ _ _ _ _ _ _ _ _ _ _ _ _ _ _ w (fun w1=>noth_any k hk wy 16 w1)
  ·rw[if_neg (by omega),if_pos rfl]
   exact dquotient_3y _ _ _ _ _ _ _ _ _ _ _ _ _ _ _ _ _ w (ne3 hy)
 ·by_cases hy:cy=3
  ·subst hy
   rw[if_neg (by omega),if_neg hx,if_pos rfl]
   by_cases h1:cx=1
   ·subst h1
    exact dquotient_13 _ _ _ _ _ _ _ _ _ _ _ _ _ _ _ _ w
   ·exact dquotient_x3 _ _ _ _ _ _ _ _ _ _ _ _ _ _ _ _ _ w (ne3 hx) (ne1 h1)
  ·by_cases h1:cy=1
   ·subst h1
    by_cases h2:cx=1
    ·subst h2
     rw[if_pos (.inr ⟨rfl,rfl⟩)];exact dquotient_11 _ _ _ _ _ _ _ _ _ _ _ _ _ _ _ _ _ w (fun w1=>noth_any k hk wy 16 w1)
    ·rw[if_neg (by omega),if_neg hx,if_neg hy,if_pos rfl]
     exact dquotient_x1 _ _ _ _ _ _ _ _ _ _ _ _ _ _ _ _ _ _ _ _ _ w (ne3 hx) (ne1 h2) (fun w1 b=>dbyZero_any k hk wy (gx != gy) w1 (hT.later b))
   ·rw[if_neg (by omega),if_neg hx,if_neg hy,if_neg h1]
    by_cases h2:cx=1
    ·subst h2
     exact dquotient_n1 _ _ _ _ _ _ _ _ _ _ _ _ _ _ _ _ _ _ _ _ _ w (ne3 hy) (ne1 h1) (HT (hy0 h1 hy)) HM
    ·exact dquotient_num _ _ _ _ _ _ _ _ _ _ _ _ _ _ _ _ _ _ _ _ _ _ w (ne3 hx) (ne1 h2) (ne3 hy) (ne1 h1) (HT (hy0 h1 hy)) HM
end Go.Proofs.YtnhackdjplppjaaGreatDoor
namespace Go.Proofs.YtnhackdjplppjaaGreatDoor
open Go.RowKit
def divF (n:Int) (a b:ByteArray):Int×Bool×Trip×Int:=quotV n.toNat ((decC n a:Nat):Int) (decG n a) (opT n a) ((decC n b:Nat):Int) (decG n b) (opT n b)
theorem pole_near {k:Nat} (hk:1≤k∧k≤8) {ng:Bool} (h:(poleV k ng).1=2):(poleV k ng).2.2.1.n≠0∧Near (poleV k ng).2.2.1:=by
 obtain⟨f1,f2,f3,f4,f5,f6⟩:=spot_fits (fmt_fit hk).2.2.2.2.2.2.2.2.2.2.2 (great_spot hk);unfold poleV at h⊢
 by_cases c1:famC (k:Int)=1
 ·rw[if_pos c1] at h
  simp at h
 rw[if_neg c1] at h⊢
 by_cases c2:famC (k:Int)=2
 ·rw[if_pos c2] at h⊢
  refine num_near (sg:=ng) ?_ h;have hb:bitLen (rdN k^dgN k-1)≤32*15:=bitLen_of_len2 f1;have hp:rdN k^dgN k-1≠0:=by rcases eight hk with rfl|rfl|rfl|rfl|rfl|rfl|rfl|rfl<;>decide
  obtain⟨t1,t2,t3⟩:=bare_top (t:=⟨ng,rdN k^dgN k-1,(widthN (rdN k:Int):Int)*gsI k⟩) hp;refine⟨?_, ?_⟩
  ·rw[t2]
   show-50000≤(widthN (rdN k:Int):Int)*gsI k+((tz (rdN k^dgN k-1):Nat):Int)
   omega
  ·rw[t3]
   show(widthN (rdN k:Int):Int)*gsI k+((bitLen (rdN k^dgN k-1):Nat):Int)≤50000
   omega
 ·rw[if_neg c2] at h
  exact(no_near h).elim
theorem quot_near {k:Nat} (hk:1≤k∧k≤8) {cx cy:Int} {gx gy:Bool} {x y:Trip} (hn:Near (overT x y 128)) (h:(quotV k cx gx x cy gy y).1=2):(quotV k cx gx x cy gy y).2.2.1.n≠0∧Near (quotV k cx gx x cy gy y).2.2.1:=by
 unfold quotV at h⊢
 by_cases c1:cx=3∧cy=3∨cx=1∧cy=1
 ·rw[if_pos c1] at h
  exact(no_near h).elim
 rw[if_neg c1] at h⊢
 by_cases c2:cx=3
 ·rw[if_pos c2] at h
  simp at h
 rw[if_neg c2] at h⊢
 by_cases c3:cy=3
 ·rw[if_pos c3] at h
  simp at h
 rw[if_neg c3] at h⊢
 by_cases c4:cy=1
 ·rw[if_pos c4] at h⊢
  exact pole_near hk h
 ·rw[if_neg c4] at h⊢
  exact num_near hn h
theorem div_any (n way:Int) (a b:ByteArray) (w:World) (hT:Tab w):Calls Tryz.prog 26 #[yi n,.string a,.string b,yi way] w (ans3 (recT n way [a,b] (divF n a b)) w):=by
 refine div_W n way _ _ a b _ w (fun pb w1 b1 hl=> ?_)
 refine reckon_any n way [a,b] _ _ pb w1 (by simp) (by simp) hl (enter_of Tryz.func68 (by kernel_rfl) rfl) (hT.later b1) (fun k hk hn he hN=> ?_)
 subst hn;unfold divF;rw[Int.toNat_natCast];have hpb:=errL_zero he b (by simp);obtain⟨sa,-,-⟩:=op_small hk (errL_zero he a (by simp));obtain⟨sb,-,zb⟩:=op_small hk hpb;have cb:=decC_in hpb;have nb:noNum (k:Int) b=false:=by
  simp only[List.any_cons,List.any_nil,Bool.or_false,Bool.or_eq_false_iff] at hN;exact hN.2
 have nb': ¬(decC (k:Int) b=4∨decC (k:Int) b=5):=by
  unfold noNum at nb;exact of_decide_eq_false nb
 refine⟨fun h=>quot_near hk (over_near sa sb) h,fun g cap w2 b2 h=> ?_⟩
 obtain⟨xo,xc,r0,k0⟩:=h.each 0 a rfl;obtain⟨yo,yc,r1,k1⟩:=h.each 1 b rfl;exact div1_W _ _ _ _ _ _ _ _ _ _ _ _ _ _ _ _ _ _ _ _ _ _ _ _ w2 r0 r1 (fun w3 b3=>dquotient_any k hk way _ _ _ _ _ _ _ _ _ _ w3 (k0.later b3) (k1.later b3) sa sb (fun h1 h3=>zb (by omega)) ((hT.later b1).later (below_trans b2 b3)))
end Go.Proofs.YtnhackdjplppjaaGreatDoor
