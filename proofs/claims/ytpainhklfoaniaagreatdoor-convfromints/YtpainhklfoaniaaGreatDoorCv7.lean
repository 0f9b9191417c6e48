/-
  ConvFromInts, paid.
-/
import Derived.Test.YtpainhklfoaniaaGreatDoorYb01
namespace Go.Proofs.YtpainhklfoaniaaGreatDoor
open Go.RowKit
def intT (n:Int):ak:=⟨decide (n<0),n.natAbs,0⟩
def frT (n k way:Int):ByteArray×Int×Int:=if dK k=0 then(⟨#[]⟩,0,6) else fitT k.toNat way (decide (n<0)) (Dg.dg 4294967296 n.natAbs) [1] 0
theorem fromInt_any (n k way:Int)(h1: -9223372036854775808≤n)(h2:n≤9223372036854775807)(w:World)(hT:Tab w):yC 17 #[yi n,yi k,yi way] w (mM (frT n k way) w):=by
 have HW:=fun w1 (_:yB w w1)=>(KH n.natAbs (by omega) w1).mono (fun z w' h=>by
  obtain⟨v,e,o,b⟩:=h;exact(⟨v,e,o.rd,b⟩: ∃v,z= .returned v∧Rd w' .u32 v (Dg.dg 4294967296 n.natAbs)∧yB w1 w'))
 have HA: ∀(ng:Bool),decide (n<0)=ng→ ∀ao ac q w1,yB w w1→Rd w1 .u32 (yT ao n.natAbs ac) (Dg.dg 4294967296 n.natAbs)→au w1 q 108 [.int .u32 1]→yC 40 #[yi k,yrV ng (yT ao n.natAbs ac) (.slice (some ⟨q,0,none⟩) 1 1) 0,yi way] w1 (yR w1 (.tuple #[.string (frT n k way).1,yi (frT n k way).2.1,yi (frT n k way).2.2])):=fun ng hng ao ac q w1 b r l=>by
  subst hng;unfold frT
  by_cases hf:dK k=0
  ·rw[if_pos hf]
   exact afh k 6 way (by decide) _ ao _ ac _ _ _ 0 w1 (fun w2=>FM k 6 (by decide) w2 (fun w3=>vU k w3 hf))
  ·rw[if_neg hf]
   obtain⟨k1,k2,k3⟩:=fF hf;obtain⟨j,rfl⟩: ∃j:Nat,k=(j:Int):=⟨k.toNat,k3.symm⟩;rw[Int.toNat_natCast] at k1 k2⊢;exact fit_any j ⟨k1,k2⟩ way _ ao ac (Dg.dg 4294967296 n.natAbs) (some ⟨q,0,none⟩) 1 [1] 0 w1 r (aa0 (r:=1) (l.c 0 rfl)) (Dg.small_dg _ _ (by omega)) small_one (hT.l b)
 by_cases hn:n<0
 ·exact fromInt_neg (n+18446744073709551616) n k way _ _ n.natAbs _ w hn (by rw[IntKind.wrap_u64];omega) (by rw[IntKind.wrap_u64];omega) HW (HA true (decide_eq_true hn))
 ·exact fromInt_pos n k way _ _ n.natAbs _ w hn (by rw[IntKind.wrap_u64];omega) HW (HA false (decide_eq_false hn))
theorem lwhole_any (n:Int)(h1: -9223372036854775808≤n)(h2:n≤9223372036854775807)(w:World):yC 20 #[yi n] w (dr w (bare (intT n))):=by
 have hq:n.tdiv 2=if n<0 then-((n.natAbs/2:Nat):Int) else((n.natAbs/2:Nat):Int):=by
  by_cases hn:n<0
  ·have e:n.tdiv 2= -((-n).tdiv 2):=by rw[Int.neg_tdiv,Int.neg_neg]
   rw[if_pos hn,e,Int.tdiv_eq_ediv_of_nonneg (by omega)];omega
  ·rw[if_neg hn,Int.tdiv_eq_ediv_of_nonneg (by omega)]
   omega
 have hr:n.tmod 2=if n<0 then-((n.natAbs % 2:Nat):Int) else((n.natAbs % 2:Nat):Int):=by
  by_cases hn:n<0
  ·have e:n.tmod 2= -((-n).tmod 2):=by rw[Int.neg_tmod,Int.neg_neg]
   rw[if_pos hn,e,Int.tmod_eq_emod_of_nonneg (by omega)];omega
  ·rw[if_neg hn,Int.tmod_eq_emod_of_nonneg (by omega)]
   omega
 have e1:IntKind.i64.wrap (n.tdiv 2)=n.tdiv 2:=IntWalk.i64_in _ ⟨by split at hq<;>omega,by split at hq<;>omega⟩
 have e2:IntKind.i64.wrap (-(n.tdiv 2))= -(n.tdiv 2):=IntWalk.i64_in _ ⟨by split at hq<;>omega,by split at hq<;>omega⟩
 have e3:max (n.tdiv 2) (-(n.tdiv 2))=((n.natAbs/2:Nat):Int):=by split at hq<;>omega
 have e4:IntKind.i64.wrap (-(n.tmod 2))= -(n.tmod 2):=IntWalk.i64_in _ ⟨by split at hr<;>omega,by split at hr<;>omega⟩
 have e5:max (n.tmod 2) (-(n.tmod 2))=((n.natAbs % 2:Nat):Int):=by split at hr<;>omega
 have hB:bare (cO (bare ⟨decide (n<0),n.natAbs/2,1⟩) (bare ⟨decide (n<0),n.natAbs % 2,0⟩))=bare (intT n):=by
  rw[plus_bare];have k0: -((0:Nat):Int)≤(⟨decide (n<0),n.natAbs/2,1⟩:ak).e:=by show 0≤1;omega
  have k1: -((0:Nat):Int)≤(⟨decide (n<0),n.natAbs % 2,0⟩:ak).e:=by show 0≤0;omega
  have k2: -((0:Nat):Int)≤(intT n).e:=by show 0≤0;omega
  refine fH (K:=0) (eS (eL k0) (eL k1)) k2 ?_;rw[dH (eL k0) (eL k1),dw k0,dw k1];unfold intT V sz
  cases decide (n<0)<;>simp<;>omega
 rw[←hB];have hl: ∀{z:ak},z.n<2^64→(Dg.dg 65536 (bare z).n).length≤30000:=fun {z} h=>Nat.le_trans (Dg.dg_len_le 65536 _ 4 (by omega) (Nat.lt_of_le_of_lt (kR z) (Nat.lt_of_lt_of_le h (by decide)))) (by omega)
 have hE: ∀{z:ak},z.n<2^64→0≤z.e→z.e≤1→ -200000≤(bare z).e∧(bare z).e≤200000:=fun {z} h g1 g2=>by
  by_cases h0:z.n=0
  ·rw[bare_0 h0]
   exact⟨by show(-200000:Int)≤0;omega,by show 0≤200000;omega⟩
  ·obtain⟨-,t2,t3⟩:=gN h0
   have:=bF _ _ h;omega
 have hu:(⟨decide (n<0),n.natAbs/2,1⟩:ak).n<2^64:=by show n.natAbs/2<18446744073709551616;omega
 have hv:(⟨decide (n<0),n.natAbs % 2,0⟩:ak).n<2^64:=by show n.natAbs % 2<18446744073709551616;omega
 have hbar:=fun(t:ak) (ht:t.n<2^64) (g1:0≤t.e) (g2:t.e≤1) (xo:Option Addr) (xc:Nat) w1 (r:Rd w1 .i64 (yS xo t.n xc) (Dg.dg 65536 t.n))=>iJ _ t w1 ⟨_,rfl,r⟩ (Nat.le_trans (Dg.dg_len_le 65536 _ 4 (by omega) (Nat.lt_of_lt_of_le ht (by decide))) (by omega)) (by omega) (by omega)
 exact lwhole_W n (n.tdiv 2) (-(n.tdiv 2)) (-(n.tmod 2)) (n.natAbs/2) (n.natAbs % 2) _ _ _ w e1 e2 e3 e4 e5 (fun w1 _=>fromN_any _ w1 (by omega)) (fun w1 _=>fromN_any _ w1 (by omega)) (fun xo xc w1 _ r=>hbar ⟨decide (n<0),n.natAbs/2,1⟩ hu (by show 0≤1;omega) (by show(1:Int)≤1;omega) xo xc w1 r) (fun xo xc w1 _ r=>hbar ⟨decide (n<0),n.natAbs % 2,0⟩ hv (by show 0≤0;omega) (by show 0≤1;omega) xo xc w1 r) (fun uo uc vo vc w1 _ ru rv=>lw _ _ _ _ w1 ⟨_,rfl,ru⟩ ⟨_,rfl,rv⟩ (hl hu) (hl hv) (hE hu (by show 0≤1;omega) (by show(1:Int)≤1;omega)).1 (hE hu (by show 0≤1;omega) (by show(1:Int)≤1;omega)).2 (hE hv (by show 0≤0;omega) (by show 0≤1;omega)).1 (hE hv (by show 0≤0;omega) (by show 0≤1;omega)).2)
theorem convFromInts_walk (n k way:Int)(w:World)(h1: -9223372036854775808≤n)(h2:n≤9223372036854775807)(hT:Tab w):yC 4 #[yi n,yi k,yi way] w (yR w (.bool true)):=by
 have HB:=fun w1 (b:yB w w1)=>convBegun_any w1 (hT.l b)
 have HA:=fun w1 (b:yB w w1)=>fromInt_any n k way h1 h2 w1 (hT.l b)
 have HY:=fun w1=>qi way w1
 have HE: ∀e:Int,e≠0→yH w 16 #[yi k,.string ⟨#[]⟩,yi 0,yi e,yi e,yoV 0 false false yN 0,yi 0] (.bool true):=fun e he w1 _=>aal k 0 e 0 false ⟨false,0,0⟩ none 0 w1 (by simpa using he)
 unfold mM frT at HA
 by_cases fk:dK k=0
 ·rw[if_pos fk] at HA
  exact fromInts_err 6 n k way _ _ _ w (by decide) HA (fun w1 _=>opened_none k way 6 false (iC way) _ _ _ _ _ _ _ _ _ w1 rfl (fun w2=>oT k w2 fk) HY) HB (HE 6 (by decide))
 rw[if_neg fk] at HA;obtain⟨k1,k2,k3⟩:=fF fk;obtain⟨k,rfl⟩: ∃j:Nat,k=(j:Int):=⟨k.toNat,k3.symm⟩;rw[Int.toNat_natCast] at k1 k2 HA;have hk:1≤k∧k≤8:=⟨k1,k2⟩;have hg:=(eR hk).2.2.2.2.2.2.2.2.2.2.2;have HF:=fun w1=>form_any k hk w1
 by_cases hw:1≤way∧way≤5
 rotate_left
 ·have hy:iC way=false:=by
   cases hy:iC way
   ·rfl
   ·exact absurd (way_is.1 hy) hw
  have hl:(Dg.dg 4294967296 n.natAbs).length≤1200:=jq (k:=64) (by show n.natAbs<18446744073709551616;omega) (by omega)
  have hq:eA (Dg.dg 4294967296 n.natAbs) [1] 0=0:=by
   unfold eA;rw[if_pos (pJ (Dg.norm_dg _ _ (by omega)) hl),if_pos (show chk [1]=0 from rfl),if_neg]
   rintro(c|c)
   ·cases c
   ·cases c
  have e6:eE (Dg.dg 4294967296 n.natAbs) [1] 0 (rdN k) (dgN k) (lsI k) (gsI k) way=6:=by rw[Bq hq hg,if_neg (by rw[hy];decide)]
  unfold fitT at HA;rw[if_neg (by rw[e6];decide),e6] at HA;exact fromInts_err 6 n (k:Int) way _ _ _ w (by decide) HA (fun w1 _=>opened_none (k:Int) way 6 true (iC way) _ _ _ _ _ _ _ _ _ w1 (by rw[hy];rfl) HF HY) HB (HE 6 (by decide))
 have HO:=fun w1 (_:yB w w1)=>opened_none (k:Int) way 0 true (iC way) _ _ _ _ _ _ _ _ _ w1 (by rw[way_is.2 hw];rfl) HF HY
 have HW:=fun w1 (_:yB w w1)=>lwhole_any n h1 h2 w1
 by_cases h0:n.natAbs=0
 ·have hb:bare (intT n)=⟨false,0,0⟩:=bare_0 h0
  rw[hb] at HW;have hs:SameV k (Dw k 1 false 0 0 0) (1,false,⟨false,0,0⟩,0):=same_oth hk (c:=1) (by decide) false 0 rfl (fun c=>by cases c)
  have hq:eA (Dg.dg 4294967296 n.natAbs) [1] 0=0:=by rw[h0];rfl
  have hC:eE (Dg.dg 4294967296 n.natAbs) [1] 0 (rdN k) (dgN k) (lsI k) (gsI k) way=0:=by rw[Bq hq hg,if_pos (way_is.2 hw)]
  have hP:df (Dg.dg 4294967296 n.natAbs) [1] 0 (rdN k) (dgN k) (lsI k) (gsI k) (decide (k≤3)) (decide (n<0)) way=⟨false,0,0,true,false,false⟩:=by
   unfold df;rw[if_pos hC,if_pos (by rw[h0];rfl)]
  unfold fitT at HA;rw[if_pos hC,hP] at HA;exact fromInts_ok _ _ _ ⟨false,0,0⟩ ⟨false,0,0⟩ n (k:Int) way _ _ _ w HA HO HW (fun uo uc w1 _ _=>refFitD_zero (k:Int) way 0 false _ uo uc w1 (fun w2=>refZero_any k hk false w2)) HB (fun so sc w1 _ r=>pat_ok hs so sc w1 r)
 ·have sx:iZ (intT n):=⟨by show n.natAbs<18446744073709551616;omega,by show(-16500:Int)≤0;omega,by show(0:Int)≤16500;omega⟩
  have hfit:=fit_num (x:=intT n) hk hw sx h0;have hs:=same_plc hk way _ (rnd_of hk (intT n).s (intT n).n 1 (intT n).e way h0 (by omega));rw[or_set] at hs;obtain⟨b1,b2,b3⟩:=gN (t:=intT n) h0;have hbl:=bF _ _ sx.1;have he0:(intT n).e=0:=rfl;rw[show fitT k way (decide (n<0)) (Dg.dg 4294967296 n.natAbs) [1] 0=_ from hfit] at HA
  have HD:=fun uo uc w1 (_:yB w w1) (r:Rd w1 .i64 (.slice uo (Dg.dg 65536 (bare (intT n)).n).length uc) (Dg.dg 65536 (bare (intT n)).n))=>fitD_any k hk way hw (bare (intT n)) uo uc w1 b1 r (by omega) (by omega) (by omega)
  rw[plc_bare hk way _ h0] at HD;exact fromInts_ok _ _ _ (bare (intT n)) _ n (k:Int) way _ _ _ w HA HO HW HD HB (fun so sc w1 _ r=>pat_ok hs so sc w1 r)
end Go.Proofs.YtpainhklfoaniaaGreatDoor
