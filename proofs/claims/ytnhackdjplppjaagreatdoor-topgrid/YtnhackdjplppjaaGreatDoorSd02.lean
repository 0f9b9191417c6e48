/-
  Texts laid together: Roo2, Roo3, Du3.
-/
import Derived.Test.YtnhackdjplppjaaGreatDoorSd01
set_option maxRecDepth 100000
namespace Go.Proofs.YtnhackdjplppjaaGreatDoor
open Go.RowKit
theorem lt_pow_of_len {x L:Nat} (h:(Dg.dg 4294967296 x).length≤L):x<4294967296^L:=by
 have h1:=Dg.vl_lt 4294967296 _ (Dg.small_dg 4294967296 x (by omega));rw[Dg.vl_dg _ _ (by omega)] at h1;exact Nat.lt_of_lt_of_le h1 (Nat.pow_le_pow_right (by omega) h)
theorem sum_len (x y L:Nat) (hx:(Dg.dg 4294967296 x).length≤L) (hy:(Dg.dg 4294967296 y).length≤L):(Dg.dg 4294967296 (x+y)).length≤L+1:=by
 have h1:=lt_pow_of_len hx;have h2:=lt_pow_of_len hy;refine Dg.dg_len_le 4294967296 _ (L+1) (by omega) ?_;rw[Nat.pow_succ];omega
set_option maxHeartbeats 1600000 in
theorem nearer_any (va vr:Value) (a x m L:Nat) (w:World) (ha:Rd w .u32 va (Dg.dg 4294967296 a)) (hr:Rd w .u32 vr (Dg.dg 4294967296 x)) (hx:0<x) (hm1:1≤m) (hm2:m≤9)
  (hla:(Dg.dg 4294967296 a).length≤5000) (hL:x<4294967296^L) (hLl:L≤5000):
  Calls Tryz.prog 222 #[va,vr,yi ((m:Int)+1)] w (Num w (meanN a x m)):=by
 have hxl:(Dg.dg 4294967296 x).length≤L:=Dg.dg_len_le 4294967296 x L (by omega) hL;have hxm:0<x^m:=Nat.pow_pos hx;have HP:Hid (∀wr,Below w.heap.size w wr→Calls Tryz.prog 215 #[vr,yi m] wr (Num wr (x^m))):=fun wr b=>power_any vr x m L wr (hr.later b) hL (Nat.le_trans (Nat.mul_le_mul hLl hm2) (by omega)) (by omega) (by omega)
 have HO:Hid (∀v wr,Below w.heap.size w wr→Rd wr .u32 v (Dg.dg 4294967296 (x^m))→Calls Tryz.prog 178 #[va,v] wr (Two wr (a/x^m) (a % x^m))):=fun v wr b r=>by
  have:=over_any va v _ _ wr (ha.later b) r (Dg.small_dg _ _ (by omega)) (Dg.small_dg _ _ (by omega)) (Dg.norm_dg _ _ (by omega)) (Dg.norm_dg _ _ (by omega)) (by rw[Ne,Dg.dg_nil_iff _ _ (by omega)];omega) (by omega);rw[Dg.vl_dg _ _ (by omega),Dg.vl_dg _ _ (by omega)] at this;exact this
 have HT:Hid (∀v wr,Below w.heap.size w wr→Rd wr .u32 v [m]→Calls Tryz.prog 173 #[vr,v] wr (Num wr (x*m))):=fun v wr b r=>by
  have:=times_any vr v _ _ wr (hr.later b) r (Dg.small_dg _ _ (by omega)) (Dg.small_cons.2 ⟨by omega,Dg.small_nil _ (by omega)⟩) (by omega) (by simp);rw[Dg.vl_dg _ _ (by omega),show Dg.vl 4294967296 [m]=m from by simp[Dg.vl]] at this
  exact this
 have l1:(Dg.dg 4294967296 (x*m)).length≤5001:=by
  refine Nat.le_trans (Dg.dg_len_le 4294967296 _ (L+1) (by omega) ?_) (by omega);rw[Nat.pow_succ];exact Nat.mul_lt_mul_of_lt_of_le hL (by omega) (by omega)
 have l2:(Dg.dg 4294967296 (a/x^m)).length≤5000:=by
  refine Nat.le_trans (Dg.dg_len_le 4294967296 _ (Dg.dg 4294967296 a).length (by omega) ?_) hla;refine Nat.lt_of_le_of_lt (Nat.div_le_self _ _) ?_;have:=Dg.vl_lt 4294967296 _ (Dg.small_dg 4294967296 a (by omega))
  rwa [Dg.vl_dg _ _ (by omega)] at this
 have HS:Hid (∀v1 v2 wr,Rd wr .u32 v1 (Dg.dg 4294967296 (x*m))→Rd wr .u32 v2 (Dg.dg 4294967296 (a/x^m))→Calls Tryz.prog 168 #[v1,v2] wr (Num wr (x*m+a/x^m))):=fun v1 v2 wr r1 r2=>by
  have:=plus_any v1 v2 _ _ wr r1 r2 (Dg.small_dg _ _ (by omega)) (Dg.small_dg _ _ (by omega)) (by omega) (by omega);rw[Dg.vl_dg _ _ (by omega),Dg.vl_dg _ _ (by omega)] at this;exact this
 have l3:(Dg.dg 4294967296 (x*m+a/x^m)).length≤6000:=by
  exact Nat.le_trans (sum_len _ _ 5001 l1 (by omega)) (by omega)
 have hpos:0<x*m+a/x^m:=Nat.add_pos_left (Nat.mul_pos hx (by omega)) _;have l4:0< (Dg.dg 4294967296 (x*m+a/x^m)).length:=List.length_pos_iff.2 (by rw[Ne,Dg.dg_nil_iff _ _ (by omega)];omega);have HE:Hid ((x*m+a/x^m)/(m+1)=meanN a x m):=by unfold meanN;rw[Nat.mul_comm x m];rfl
 have HV:=Dg.vl_dg 4294967296 (x*m+a/x^m) (by omega);have HSM:=Dg.small_dg 4294967296 (x*m+a/x^m) (by omega);obtain⟨ao,ca,rfl⟩:=ha.shape;obtain⟨ro,cr,rfl⟩:=hr.shape;obtain⟨ma,hma⟩: ∃m,(Dg.dg 4294967296 a).length=m:=⟨_,rfl⟩;obtain⟨mr,hmr⟩: ∃m,(Dg.dg 4294967296 x).length=m:=⟨_,rfl⟩;obtain⟨S,hS⟩: ∃S,x*m+a/x^m=S:=⟨_,rfl⟩;obtain⟨ds,hds⟩: ∃ds,Dg.dg 4294967296 S=ds:=⟨_,rfl⟩;rw[hS] at HS l3 l4 HE HV HSM;rw[hds] at l3 l4 HV HSM;rw[hma] at HO⊢;rw[hmr] at HP HT⊢;have HDS:Hid (Dg.dg 4294967296 S=ds):=hds;have HV2:Hid (Dg.vl 4294967296 ds=S):=HV;have HSM2:Hid (Dg.Small 4294967296 ds):=HSM;clear ha hr hma hmr hla hL hLl hxl hxm l1 l2 hpos hS hds HV HSM
 go_enter Tryz.func222,Tryz.ntmps222
 go_wp2_with fail
 refine(HP.out w (Below.refl _ _)).mono ?_;rintro e w1 ⟨v1,rfl,o1,b1⟩
 go_wp2_with fail
 refine(HO.out v1 w1 b1 o1.rd).mono ?_;rintro e w2 ⟨v2,v3,rfl,o2,-,b2⟩;have b02:=below_trans b1 b2;have b3:Below w2.heap.size w2 (w2.alloc (.cells #[.int .u32 (m:Int)] 141)):=(Below.refl _ _).alloc (Nat.le_refl _) _;have b03:=below_trans b02 b3;have o2r:=o2.rd.later b3;have od:=(own_digit w2 w2.heap.size 141 m (Nat.le_refl _)).rd;clear o1 o2 b1 b2 b3
 go_wp2_with fail
 refine(HT.out _ _ b03 od).mono ?_;rintro e w4 ⟨v4,rfl,o4,b4⟩;have b04:=below_trans b03 b4;have o2r:=o2r.later b4;clear od b4
 go_wp2_with fail
 refine(HS.out _ _ _ o4.rd o2r).mono ?_;rintro e w5 ⟨v5,rfl,o5,b5⟩;rw[HDS.out] at o5;have b05:=below_trans b04 b5;obtain⟨g,cap,rfl,hg1,hg2⟩:=World.ownsRow.form o5 l4;have o5:=o5.lower b04.size;clear o4 o2r
 go_wp2_with fail
 refine(divideBy_any g ds.length cap w.heap.size ds (m+1) w5 o5 HSM2.out (by omega) (by omega) (by omega)).mono ?_;rintro e w6 ⟨qs,rfl,o6,hql,hqs,hqv,gr⟩;rw[HV2.out,HE.out] at hqv;have b06:=b05.grown gr b05.size (fun k hk=>by cases hk;exact Nat.le_trans b04.size hg1)
 have r6:=o6.rd;clear o5 gr
 go_wp2_with fail
 refine(trim_any _ _ _ _ _ r6).mono ?_;rintro e w7 ⟨n7,rfl,hm7,rfl⟩;have t7:=own_trim 4294967296 (by omega) o6 hqs hm7;rw[hqv] at t7;clear r6 o6 hm7 hqs hql
 go_wp2
 go_ret
 exact⟨_,rfl,t7,b06⟩
end Go.Proofs.YtnhackdjplppjaaGreatDoor
namespace Go.Proofs.YtnhackdjplppjaaGreatDoor
open Go.RowKit
def RootA (w:World) (a k:Nat) (e:Ending) (w':World):Prop:=
 ∃x v,e= .returned v∧IsRoot a k x∧Own w' w.heap.size 141 .u32 v (Dg.dg 4294967296 x)∧Below w.heap.size w w'
theorem pow_splitR (n:Nat):(2:Nat)^n<4294967296^ (n/32+1):=by
 have e:(4294967296:Nat)=2^32:=by decide
 rw[e,←Nat.pow_mul];exact Nat.pow_lt_pow_right (by omega) (by omega)
theorem up_div (b k:Nat) (hk:0<k):b≤(b+k-1)/k*k:=by
 have h1:=Nat.div_add_mod (b+k-1) k;have h2:=Nat.mod_lt (b+k-1) hk;rw[Nat.mul_comm] at h1;omega
theorem bitLen_of_len {a L:Nat} (h:(Dg.dg 4294967296 a).length≤L):bitLen a≤32*L:=by
 refine bitLen_le_of a _ ?_;rw[Nat.pow_mul];exact lt_pow_of_len h
theorem cmpI_nonneg {a b:Int} (h:b≤a):(0:Int)≤cmpI a b:=by
 unfold cmpI;rw[if_neg (by omega)]
 split<;>omega
set_option maxHeartbeats 1600000 in
theorem root_any (va:Value) (a k:Nat) (w:World) (ha:Rd w .u32 va (Dg.dg 4294967296 a)) (hk1:1≤k) (hk2:k≤10) (hla:(Dg.dg 4294967296 a).length≤1300):
  Calls Tryz.prog 180 #[va,yi k] w (RootA w a k):=by
 have hcp:=copy_any va _ w ha (by omega);have hnl:=Dg.dg_nil_iff 4294967296 a (by omega)
 by_cases hk:k=1
 ·subst hk
  obtain⟨ao,ca,rfl⟩:=ha.shape;obtain⟨ds,hds⟩: ∃ds,Dg.dg 4294967296 a=ds:=⟨_,rfl⟩;rw[hds] at hcp⊢;have HD:Hid (Dg.dg 4294967296 a=ds):=hds;clear ha hla hds hnl
  go_enter Tryz.func180,Tryz.ntmps180
  go_wp2_with fail
  refine hcp.mono ?_;rintro e w1 ⟨rfl,o1,b1⟩;clear hcp
  go_wp2
  go_ret
  exact⟨a,_,rfl,root_one a,HD.out▸o1,b1⟩
 ·have hk3:((k:Int)==1)=false:=by simp;omega
  by_cases ha0:a=0
  ·subst ha0
   obtain⟨ao,ca,rfl⟩:=ha.shape;have hl0:(Dg.dg 4294967296 0).length=0:=rfl;rw[hl0] at hcp⊢;clear ha hla hnl hl0
   go_enter Tryz.func180,Tryz.ntmps180
   go_wp2_with fail
   refine hcp.mono ?_;rintro e w1 ⟨rfl,o1,b1⟩;clear hcp
   go_wp2
   go_ret
   exact⟨0,_,rfl,root_zero (by omega),o1,b1⟩
  ·obtain⟨m,rfl⟩: ∃m,k=m+1:=⟨k-1,by omega⟩
   have hbt:=fun wr (b:Below w.heap.size w wr)=>bits_any va _ wr (ha.later b) (Dg.small_dg _ _ (by omega)) (Dg.norm_dg _ _ (by omega)) (by omega)
   rw[Dg.vl_dg _ _ (by omega)] at hbt;have hb1:=(bitLen_spec a).1;have hb2:bitLen a≤32*1300:=bitLen_of_len hla;obtain⟨bt,hbte⟩: ∃bt,bitLen a=bt:=⟨_,rfl⟩;rw[hbte] at hbt hb1 hb2;have hup:=up_div bt (m+1) (by omega);have hnle:(bt+(m+1)-1)/(m+1)≤50000:=Nat.le_trans (Nat.div_le_self _ _) (by omega);have hni:(((bt:Int)+((m:Int)+1)-1).tdiv ((m:Int)+1))=(((bt+(m+1)-1)/(m+1):Nat):Int):=by
    rw[Int.tdiv_eq_ediv_of_nonneg (by omega)];have:((bt:Int)+((m:Int)+1)-1)=((bt+(m+1)-1:Nat):Int):=by omega
    rw[this];exact(Int.natCast_ediv _ (m+1)).symm
   have hni2:(((bt:Int)+((m:Int)+1)-1)/((m:Int)+1))=(((bt+(m+1)-1)/(m+1):Nat):Int):=by
    have:((bt:Int)+((m:Int)+1)-1)=((bt+(m+1)-1:Nat):Int):=by omega
    rw[this];exact(Int.natCast_ediv _ (m+1)).symm
   obtain⟨n,hn⟩: ∃n,(bt+(m+1)-1)/(m+1)=n:=⟨_,rfl⟩;rw[hn] at hup hnle hni hni2;have HAB:Hid (Above a (m+1) (2^n)):=above_start hb1 hup;have HX0:Hid ((2:Nat)^n<4294967296^ (n/32+1)):=pow_splitR n;have hL:n/32+1≤5000:=by omega
   obtain⟨L,hLe⟩: ∃L,n/32+1=L:=⟨_,rfl⟩;rw[hLe] at HX0 hL;have HR:Hid (∀v wr,Rd wr .u32 v [1]→Calls Tryz.prog 218 #[v,yi n] wr (Num wr (2^n))):=fun v wr r=>by
    have:=raised_any v [1] n (n/32) (n % 32) (2^ (n % 32)) wr r (Dg.small_cons.2 ⟨by omega,Dg.small_nil _ (by omega)⟩) (by simp) (by omega) (by omega) rfl (by omega) (by simp);rw[show Dg.vl 4294967296 [1]=1 from rfl,Nat.one_mul] at this
    exact this
   have HN:Hid (∀v x wr,Below w.heap.size w wr→Rd wr .u32 v (Dg.dg 4294967296 x)→0<x→x<4294967296^L→Calls Tryz.prog 222 #[va,v,yi ((m:Int)+1)] wr (Num wr (meanN a x m))):=fun v x wr b r hx hxl=>
    nearer_any va v a x m L wr (ha.later b) r hx (by omega) (by omega) (by omega) hxl hL
   have HBT:Hid _:=hbt;obtain⟨ao,ca,rfl⟩:=ha.shape;have hm0: ¬(Dg.dg 4294967296 a).length=0:=by rw[List.length_eq_zero_iff,hnl];exact ha0
   obtain⟨ma,hma⟩: ∃m,(Dg.dg 4294967296 a).length=m:=⟨_,rfl⟩;rw[hma] at hm0 HN HBT⊢;have hml:((ma:Int)==0)=false:=by simp;exact hm0
   have HA0:Hid (0<a):=Nat.pos_of_ne_zero ha0;have b1:Below w.heap.size w (w.alloc (.cells #[.int .u32 ((1:Nat):Int)] 141)):=(Below.refl _ _).alloc (Nat.le_refl _) _;have od:=(own_digit w w.heap.size 141 1 (Nat.le_refl _)).rd;clear ha hcp hnl hla hma hbt hbte hn hLe hup hb1 ha0
   go_enter Tryz.func180,Tryz.ntmps180
   go_wp2_with fail
   refine(HBT.out _ b1).mono ?_;rintro e w1 ⟨rfl,rfl⟩;clear HBT
   go_wp2_with fail
   refine(HR.out _ _ od).mono ?_;rintro e w2 ⟨v2,rfl,o2,b2⟩;have b02:=below_trans b1 b2;have o2:=o2.lower b1.size;clear od b1 b2 HR
   go_wp2
   go_loopw [5] (fun rv wr=> ∃x,Own wr w.heap.size 141 .u32 rv (Dg.dg 4294967296 x)∧Above a (m+1) x∧x<4294967296^L∧Below w.heap.size w wr) (fun rv wr=>Classical.epsilon fun n=>Rd wr .u32 rv (Dg.dg 4294967296 n))
   case atStart=>exact⟨2^n,o2,HAB.out,HX0.out,b02⟩
   case round=>
    clear o2 b02 HAB HX0;obtain⟨x,own,hab,hxl,bel⟩:=hrel;have hx:=above_pos hab HA0.out;have hst:=above_step (a:=a) (m:=m) hx;have hcm:=fun v wr (r:Rd wr .u32 v (Dg.dg 4294967296 (meanN a x m))) v' (r':Rd wr .u32 v' (Dg.dg 4294967296 x))=>compare_any v v' _ _ wr r r' (Dg.small_dg _ _ (by omega)) (Dg.small_dg _ _ (by omega)) (Dg.norm_dg _ _ (by omega)) (Dg.norm_dg _ _ (by omega))
    simp only[Dg.vl_dg _ _ (show 2≤4294967296 by omega)] at hcm
    have hnr:=HN.out _ x _ bel own.rd hx hxl;have HEN:Hid (x≤meanN a x m→IsRoot a (m+1) x):=fun h=>root_end hab hx h
    obtain⟨y,hy⟩: ∃y,meanN a x m=y:=⟨_,rfl⟩;rw[hy] at hnr hcm HEN hst;have HCM:Hid _:=hcm;clear hcm hy
    by_cases hlt:y<x
    ·go_wp2_with fail
     refine hnr.mono ?_;rintro e w3 ⟨v3,rfl,o3,b3⟩;have b03:=below_trans bel b3
     go_wp2_with fail
     refine(HCM.out _ _ o3.rd _ (own.later b3).rd).mono ?_;rintro e w4 ⟨rfl,b4⟩;rw[cmpI_lt (by omega)];have b04:=below_trans b03 b4;have o4:=(o3.lower bel.size).later b4;have e1:=numOf_eq own.rd;have e2:=numOf_eq o4.rd
     go_wp2
     go_roundw
     case rel=>exact⟨y,o4,hst,Nat.lt_trans hlt hxl,b04⟩
     case measure=>rw[e1,e2];exact hlt
    ·go_wp2_with fail
     refine hnr.mono ?_;rintro e w3 ⟨v3,rfl,o3,b3⟩;have b03:=below_trans bel b3
     go_wp2_with fail
     refine(HCM.out _ _ o3.rd _ (own.later b3).rd).mono ?_;rintro e w4 ⟨rfl,b4⟩;have hge:=cmpI_nonneg (a:=(y:Int)) (b:=(x:Int)) (by omega);obtain⟨r,hr⟩: ∃r,cmpI (y:Int) (x:Int)=r:=⟨_,rfl⟩;rw[hr] at hge⊢;have b04:=below_trans b03 b4;have o4:=(own.later b3).later b4
     go_wp2
     go_ret
     exact⟨x,_,rfl,HEN.out (by omega),o4,b04⟩
end Go.Proofs.YtnhackdjplppjaaGreatDoor
namespace Go.Proofs.YtnhackdjplppjaaGreatDoor
open Go.RowKit
def rootG (a k:Nat):Nat→Nat
 |0=>0
 |n+1=>if(n+1)^k≤a then n+1 else rootG a k n
def rootOf (a k:Nat):Nat:=rootG a k a
theorem rootG_eq {a k x:Nat} (h:IsRoot a k x): ∀m,x≤m→rootG a k m=x
 |0,hm=>by rw[Nat.le_zero.1 hm,rootG]
 |m+1,hm=>by
  rw[rootG]
  by_cases c:(m+1)^k≤a
  ·rw[if_pos c]
   rcases Nat.lt_or_ge x (m+1) with g|g
   ·have h1:(x+1)^k≤(m+1)^k:=Nat.pow_le_pow_left g k
    have h2:=h.2;omega
   ·omega
  ·rw[if_neg c]
   refine rootG_eq h m (Nat.le_of_not_lt fun g=>c ?_)
   obtain rfl:x=m+1:=by omega
   exact h.1
theorem rootOf_eq {a k x:Nat} (h:IsRoot a k x):rootOf a k=x:=by
 refine rootG_eq h a (root_le (Nat.pos_of_ne_zero fun c=> ?_) h)
 subst c;have h1:=h.1;have h2:=h.2;rw[Nat.pow_zero] at h1 h2;omega
def rootS (t:Trip) (B:Nat):Nat:=if(t.e-((2*B-bitLen t.n:Nat):Int)) % 2=0 then 2*B-bitLen t.n else 2*B-bitLen t.n+1
def rootT (t:Trip) (B:Nat):Trip:=
 endlessT false (rootOf (t.n*2^rootS t B) 2) ((t.e-(rootS t B:Int))/2) (decide (rootOf (t.n*2^rootS t B) 2*rootOf (t.n*2^rootS t B) 2<t.n*2^rootS t B))
theorem rootS_even (t:Trip) (B:Nat):(t.e-(rootS t B:Int)) % 2=0:=by
 unfold rootS
 split
 ·assumption
 ·rename_i h
  omega
set_option maxHeartbeats 3200000 in
theorem droot_any (v:Value) (t:Trip) (B:Nat) (w:World) (hv:Dv w v t) (hL:(Dg.dg 4294967296 t.n).length≤1299) (he1: -100000≤t.e) (he2:t.e≤100000) (hB:B≤10000) (hw:(Dg.dg 4294967296 (t.n*2^rootS t B)).length≤1300):
  Calls Tryz.prog 131 #[v,yi B] w (DRes w (rootT t B)):=by
 obtain⟨v0,rfl,hr⟩:=hv;obtain⟨ts,n,e⟩:=t;have hev:=rootS_even ⟨ts,n,e⟩ B;unfold rootT;have hbl:=bitLen_of_len2 hL;have hsd:rootS ⟨ts,n,e⟩ B=if(e-((2*B-bitLen n:Nat):Int)) % 2=0 then 2*B-bitLen n else 2*B-bitLen n+1:=rfl
 simp only at hr hL he1 he2 hw hev hbl⊢;have HBT:Hid (∀w1,Below w.heap.size w w1→Calls Tryz.prog 176 #[v0] w1 fun z w'=>z= .returned (yi (bitLen n:Nat))∧w'=w1):=fun w1 b1=>by
  have:=bits_any v0 _ w1 (hr.later b1) (Dg.small_dg _ _ (by omega)) (Dg.norm_dg _ _ (by omega)) (by omega)
  rwa [Dg.vl_dg _ _ (by omega)] at this
 obtain⟨L,hLe⟩: ∃L,bitLen n=L:=⟨_,rfl⟩;rw[hLe] at HBT hbl hsd;obtain⟨s0,hs0⟩: ∃s0,2*B-L=s0:=⟨_,rfl⟩;rw[hs0] at hsd;obtain⟨sh,hsh⟩: ∃sh,rootS ⟨ts,n,e⟩ B=sh:=⟨_,rfl⟩;rw[hsh] at hsd hw hev⊢;have hshl:sh≤20001:=by rw[hsd];split<;>omega
 have HSF:Hid (∀w1,Below w.heap.size w w1→Calls Tryz.prog 177 #[v0,yi sh] w1 (Num w1 (n*2^sh))):=fun w1 b1=>by
  have:=shifted_any v0 _ (sh:Int) w1 (hr.later b1) (Dg.small_dg _ _ (by omega)) (by omega) (by omega) (by omega);rw[Dg.vl_dg _ _ (by omega),shN_up _ _ (by omega),Int.toNat_natCast] at this;exact this
 obtain⟨N,hN⟩: ∃N,n*2^sh=N:=⟨_,rfl⟩;rw[hN] at HSF hw⊢;have HRO:Hid (∀v1 w1,Rd w1 .u32 v1 (Dg.dg 4294967296 N)→Calls Tryz.prog 180 #[v1,yi 2] w1 (RootA w1 N 2)):=fun v1 w1 r=>root_any v1 N 2 w1 r (by omega) (by omega) hw
 have HXE:Hid (∀x,IsRoot N 2 x→rootOf N 2=x):=fun x h=>rootOf_eq h
 have HLE:Hid (∀x,IsRoot N 2 x→x*x≤N∧(Dg.dg 4294967296 x).length≤1300):=fun x h=>⟨by have:=h.1;rwa [Nat.pow_two] at this,Nat.le_trans (dg_len_mono 4294967296 _ N (by omega) (root_le (by omega) h)) hw⟩
 obtain⟨R,hR⟩: ∃R,rootOf N 2=R:=⟨_,rfl⟩;rw[hR] at HXE⊢;obtain⟨ao,ca,rfl⟩:=hr.shape;obtain⟨m,hm⟩: ∃m,(Dg.dg 4294967296 n).length=m:=⟨_,rfl⟩;rw[hm] at HBT HSF⊢;have hmax:max (0:Int) (2*(B:Int)-(L:Int))=(s0:Int):=by omega
 have hq1:(e-(sh:Int)).tdiv 2=(e-(sh:Int))/2:=by
  obtain⟨k,hk⟩: ∃k:Int,e-(sh:Int)=2*k:=⟨(e-(sh:Int))/2,by omega⟩;rw[hk,Int.mul_tdiv_cancel_left k (by omega),Int.mul_ediv_cancel_left k (by omega)]
 have HTM:Hid (∀v1 w1,Rd w1 .u32 v1 (Dg.dg 4294967296 R)→(Dg.dg 4294967296 R).length≤1300→Calls Tryz.prog 173 #[v1,v1] w1 (Num w1 (R*R))):=fun v1 w1 r hl=>by
  have:=times_any v1 v1 _ _ w1 r r (Dg.small_dg _ _ (by omega)) (Dg.small_dg _ _ (by omega)) (by omega) (by omega);rw[Dg.vl_dg _ _ (by omega)] at this;exact this
 have HCM:Hid (∀v1 v2 w1,Rd w1 .u32 v1 (Dg.dg 4294967296 (R*R))→Rd w1 .u32 v2 (Dg.dg 4294967296 N)→Calls Tryz.prog 169 #[v1,v2] w1 fun z w'=>z= .returned (yi (cmpI ((R*R:Nat):Int) N))∧Below w1.heap.size w1 w'):=fun v1 v2 w1 h1 h2=>by
  have:=compare_any v1 v2 _ _ w1 h1 h2 (Dg.small_dg _ _ (by omega)) (Dg.small_dg _ _ (by omega)) (Dg.norm_dg _ _ (by omega)) (Dg.norm_dg _ _ (by omega))
  rwa [Dg.vl_dg _ _ (by omega),Dg.vl_dg _ _ (by omega)] at this
 obtain⟨g,hg⟩: ∃g,cmpI ((R*R:Nat):Int) (N:Int)=g:=⟨_,rfl⟩;have HG:Hid (R*R≤N→decide (R*R<N)=decide (g<0)):=fun hle=>by
  rw[←hg]
  rcases Nat.lt_or_ge (R*R) N with h|h
  ·rw[cmpI_lt (Int.ofNat_lt.2 h)]
   simp[h]
  ·have he:R*R=N:=by omega
   rw[he,cmpI_eq];simp
 rw[hg] at HCM;have HEN:Hid (∀v1 lf w1,decide (R*R<N)=lf→(Dg.dg 4294967296 R).length≤1300→Rd w1 .u32 v1 (Dg.dg 4294967296 R)→Calls Tryz.prog 179 #[.bool false,v1,yi ((e-(sh:Int))/2),.bool lf] w1 (DRes w1 (endlessT false R ((e-(sh:Int))/2) (decide (R*R<N))))):=fun v1 lf w1 h hl r=>by
  rw[h];exact endless_any _ v1 R _ lf w1 r (by omega) (by omega) (by omega)
 obtain⟨⟨zs,zn,ze⟩,hz⟩: ∃r,endlessT false R ((e-(sh:Int))/2) (decide (R*R<N))=r:=⟨_,rfl⟩;rw[hz] at HEN⊢;obtain⟨q,hq⟩: ∃q,(e-(sh:Int))/2=q:=⟨_,rfl⟩;rw[hq] at HEN hq1;have hw1:IntKind.i64.wrap (e-(sh:Int))=e-(sh:Int):=IntWalk.i64_in _ ⟨by omega,by omega⟩;have hw2:IntKind.i64.wrap q=q:=IntWalk.i64_in _ ⟨by omega,by omega⟩;have bA:=below_trans (below_alloc w (.cells (ydL ts (.slice ao m ca) e).toArray 96)) (below_alloc _ (.cells (ydL false (.slice none 0 0) 0).toArray 96));have l1:=(loc_new w (.bool ts) (.slice ao m ca) (yi e) 96).later (below_alloc _ (.cells (ydL false (.slice none 0 0) 0).toArray 96));have l2:=loc_new (w.alloc (.cells (ydL ts (.slice ao m ca) e).toArray 96)) (.bool false) (.slice none 0 0) (yi 0) 96;rw[World.size_alloc] at l2;have hs0l:s0≤20000:=by omega
 clear hr hN hR hm hz hg hw hL hLe hs0 hsh
 by_cases hpar:(e-(s0:Int)) % 2=0
 ·rw[if_pos hpar] at hsd
  subst hsd;have ht:(e-(sh:Int)).tmod 2=0:=by
   obtain⟨k,hk⟩: ∃k:Int,e-(sh:Int)=2*k:=⟨(e-(sh:Int))/2,by omega⟩;rw[hk];exact Int.mul_tmod_right 2 k
  clear hpar hev
  go_enter Tryz.func131,Tryz.ntmps131
  go_wp2_with fail
  refine(digits_any ts ao m ca e _).mono ?_;rintro z w1 ⟨rfl,b1⟩;replace l1:=l1.later b1;replace l2:=l2.later b1;replace bA:=below_trans bA b1;clear b1
  go_wp2_with fail
  refine(HBT.out _ bA).mono ?_;rintro z w2 ⟨rfl,rfl⟩;obtain⟨-,⟨c0,c1,c2⟩,-⟩:=id l1
  go_wp2_with fail
  refine(digits_any ts ao m ca e _).mono ?_;rintro z w3 ⟨rfl,b3⟩;replace l1:=l1.later b3;replace l2:=l2.later b3;replace bA:=below_trans bA b3;clear b3 c0 c1 c2
  go_wp2_with fail
  refine(HSF.out _ bA).mono ?_;rintro z w4 ⟨v4,rfl,o4,b4⟩;replace l1:=l1.later b4;replace l2:=l2.later b4;replace bA:=below_trans bA b4;have r4:=o4.rd;clear b4 o4
  go_wp2_with fail
  refine(HRO.out _ _ r4).mono ?_;rintro z w5 ⟨x,v5,rfl,hx,o5,b5⟩;have hxe:=HXE.out x hx;subst hxe;obtain⟨hle,hxl⟩:=HLE.out _ hx;have HLF:Hid _:=HG.out hle;replace l1:=l1.later b5;replace l2:=l2.later b5;replace bA:=below_trans bA b5;replace r4:=r4.later b5;have r5:=o5.rd;have bd:Below w5.heap.size w5 w5.drew:=(Below.refl _ _).drew;replace l1:=l1.later bd;replace l2:=l2.later bd;replace bA:=below_trans bA bd;replace r4:=r4.later bd;replace r5:=r5.later bd;obtain⟨-,⟨c0,c1,c2⟩,-⟩:=id l1;clear b5 o5 hx bd HBT HSF HRO
  go_wp2_with fail
  go_region_held3 (fun wq=>wq.cell? ⟨w.heap.size,0,none⟩=some (.bool ts)∧wq.cell? ⟨w.heap.size,1,none⟩=some (.slice ao m ca)∧wq.cell? ⟨w.heap.size,2,none⟩=some (yi e)) (go_keep) (first
   | (go_at_call 173;refine(HTM.out _ _ r5 hxl).mono ?_;rintro z w6 ⟨v6,rfl,o6,b6⟩;have l16:=l1.later b6;have l26:=l2.later b6;have b06:=below_trans bA b6;have r46:=r4.later b6;have r56:=r5.later b6;have r6:=o6.rd;obtain⟨-,⟨p0,p1,p2⟩,-⟩:=id l16)
   | (go_at_call 169;refine(HCM.out _ _ w6 r6 r46).mono ?_;rintro z w7 ⟨rfl,b7⟩;have l17:=l16.later b7;have l27:=l26.later b7;have b07:=below_trans b06 b7;have r57:=r56.later b7;obtain⟨-,⟨q0,q1,q2⟩,-⟩:=id l17)
   | (go_at_call 179;refine(HEN.out _ _ w7 HLF.out hxl r57).mono ?_;rintro z w8 ⟨v8,rfl,o8,b8⟩;have l28:=l27.later b8;have b08:=below_trans b07 b8;have l18:=l17.later b8;obtain⟨so,sc,hvs⟩:=o8.rd.shape;subst hvs;obtain⟨-,⟨t0,t1,t2⟩,-⟩:=id l18;obtain⟨hl8,⟨d0,d1,d2⟩,f0,f1,f2⟩:=id l28))
  all_goals go_wp2
  obtain⟨-,⟨g0,g1,g2⟩,-⟩:=loc_set l28 (.bool zs) (.slice so (Dg.dg 4294967296 zn).length sc) (yi ze);have o9:=o8.apart3 (b:=w.heap.size+1) l27.1 (.bool zs) (.slice so (Dg.dg 4294967296 zn).length sc) (yi ze);have b9:=below_set3 b08 (show w.heap.size≤w.heap.size+1 by omega) (.bool zs) (.slice so (Dg.dg 4294967296 zn).length sc) (yi ze)
  refine bodyPost_ret (v:=(ydV zs (.slice so (Dg.dg 4294967296 zn).length sc) ze)) (by simp[results,Tryz.results131,go_sem,g0,g1,g2]) rfl ?_;exact⟨_,rfl,o9.lower b07.size,b9⟩
 ·rw[if_neg hpar] at hsd
  subst hsd;have ht:((e-(s0:Int)).tmod 2==0)=false:=by
   simp;intro h;have:=Int.dvd_of_tmod_eq_zero h;omega
  clear hpar hev;have hw3:IntKind.i64.wrap (e-(s0:Int))=e-(s0:Int):=IntWalk.i64_in _ ⟨by omega,by omega⟩;have hcast:((s0+1:Nat):Int)=(s0:Int)+1:=by omega
  rw[hcast] at HSF hq1 hw1;clear hcast hq
  go_enter Tryz.func131,Tryz.ntmps131
  go_wp2_with fail
  refine(digits_any ts ao m ca e _).mono ?_;rintro z w1 ⟨rfl,b1⟩;replace l1:=l1.later b1;replace l2:=l2.later b1;replace bA:=below_trans bA b1;clear b1
  go_wp2_with fail
  refine(HBT.out _ bA).mono ?_;rintro z w2 ⟨rfl,rfl⟩;obtain⟨-,⟨c0,c1,c2⟩,-⟩:=id l1
  go_wp2_with fail
  refine(digits_any ts ao m ca e _).mono ?_;rintro z w3 ⟨rfl,b3⟩;replace l1:=l1.later b3;replace l2:=l2.later b3;replace bA:=below_trans bA b3;clear b3 c0 c1 c2
  go_wp2_with fail
  refine(HSF.out _ bA).mono ?_;rintro z w4 ⟨v4,rfl,o4,b4⟩;replace l1:=l1.later b4;replace l2:=l2.later b4;replace bA:=below_trans bA b4;have r4:=o4.rd;clear b4 o4
  go_wp2_with fail
  refine(HRO.out _ _ r4).mono ?_;rintro z w5 ⟨x,v5,rfl,hx,o5,b5⟩;have hxe:=HXE.out x hx;subst hxe;obtain⟨hle,hxl⟩:=HLE.out _ hx;have HLF:Hid _:=HG.out hle;replace l1:=l1.later b5;replace l2:=l2.later b5;replace bA:=below_trans bA b5;replace r4:=r4.later b5;have r5:=o5.rd;have bd:Below w5.heap.size w5 w5.drew:=(Below.refl _ _).drew;replace l1:=l1.later bd;replace l2:=l2.later bd;replace bA:=below_trans bA bd;replace r4:=r4.later bd;replace r5:=r5.later bd;obtain⟨-,⟨c0,c1,c2⟩,-⟩:=id l1;clear b5 o5 hx bd HBT HSF HRO
  go_wp2_with fail
  go_region_held3 (fun wq=>wq.cell? ⟨w.heap.size,0,none⟩=some (.bool ts)∧wq.cell? ⟨w.heap.size,1,none⟩=some (.slice ao m ca)∧wq.cell? ⟨w.heap.size,2,none⟩=some (yi e)) (go_keep) (first
   | (go_at_call 173;refine(HTM.out _ _ r5 hxl).mono ?_;rintro z w6 ⟨v6,rfl,o6,b6⟩;have l16:=l1.later b6;have l26:=l2.later b6;have b06:=below_trans bA b6;have r46:=r4.later b6;have r56:=r5.later b6;have r6:=o6.rd;obtain⟨-,⟨p0,p1,p2⟩,-⟩:=id l16)
   | (go_at_call 169;refine(HCM.out _ _ w6 r6 r46).mono ?_;rintro z w7 ⟨rfl,b7⟩;have l17:=l16.later b7;have l27:=l26.later b7;have b07:=below_trans b06 b7;have r57:=r56.later b7;obtain⟨-,⟨q0,q1,q2⟩,-⟩:=id l17)
   | (go_at_call 179;refine(HEN.out _ _ w7 HLF.out hxl r57).mono ?_;rintro z w8 ⟨v8,rfl,o8,b8⟩;have l28:=l27.later b8;have b08:=below_trans b07 b8;have l18:=l17.later b8;obtain⟨so,sc,hvs⟩:=o8.rd.shape;subst hvs;obtain⟨-,⟨t0,t1,t2⟩,-⟩:=id l18;obtain⟨hl8,⟨d0,d1,d2⟩,f0,f1,f2⟩:=id l28))
  all_goals go_wp2
  obtain⟨-,⟨g0,g1,g2⟩,-⟩:=loc_set l28 (.bool zs) (.slice so (Dg.dg 4294967296 zn).length sc) (yi ze);have o9:=o8.apart3 (b:=w.heap.size+1) l27.1 (.bool zs) (.slice so (Dg.dg 4294967296 zn).length sc) (yi ze);have b9:=below_set3 b08 (show w.heap.size≤w.heap.size+1 by omega) (.bool zs) (.slice so (Dg.dg 4294967296 zn).length sc) (yi ze)
  refine bodyPost_ret (v:=(ydV zs (.slice so (Dg.dg 4294967296 zn).length sc) ze)) (by simp[results,Tryz.results131,go_sem,g0,g1,g2]) rfl ?_;exact⟨_,rfl,o9.lower b07.size,b9⟩
end Go.Proofs.YtnhackdjplppjaaGreatDoor
