/-
  ConvConverts, paid.
-/
import Derived.Test.YtpainhklfoaniaaGreatDoorYa01
namespace Go.Proofs.YtpainhklfoaniaaGreatDoor
open Go.RowKit
theorem convread_any n (s:ByteArray)(way:Int)(w:World)(hT:Tab w):
  (dF n s≠0→yC 39 #[yi n,.string s,yi way] w (CRes w 0 false 0 0 ⟨false,0,0⟩ (dF n s)))∧
  (dF n s=0→ ¬(1≤way∧way≤5)→yC 39 #[yi n,.string s,yi way] w (CRes w 0 false 0 0 ⟨false,0,0⟩ 6))∧
  (dF n s=0→1≤way∧way≤5→yC 39 #[yi n,.string s,yi way] w (CRes w ((bM n s:Nat):Int) (dz n s) (gJ n s) (iF n s) (opT n s) 0)):=by
 have HR:=fun w1 (b:yB w w1)=>zj n s w1 (hT.l b)
 refine⟨fun h=>cread_err n way _ _ _ _ _ _ s w h HR,fun h hw=> ?_,fun h hw=> ?_⟩
 ·rw[h] at HR
  by_cases h1:way<1
  ·exact cread_low n way _ _ _ _ _ s w h1 HR
  ·exact cread_high n way _ _ _ _ _ s w h1 (by omega) HR
 ·rw[h] at HR
  exact cread_ok n way _ _ _ _ _ s w (by omega) (by omega) HR
def mvV (c:Int)(g:Bool)(fm:Int):Int×Bool×Int:=if c=1 then(1,g&&decide (fm=1),0) else if c≠5∧fm=1 then(c,g,0) else(AZ fm,false,16)
theorem moved_any (c:Int)(g:Bool)(fm:Int)(hf:fm=1∨fm=2∨fm=3)(vo:Option Addr)(vc:Nat)(w:World)(rv:Rd w .u32 (yT vo 0 vc) (Dg.dg 4294967296 0)):
  yC 42 #[yvV c g (yT vo 0 vc) 0,yi fm] w (B6 w (mvV c g fm).1 (mvV c g fm).2.1 0 0 (mvV c g fm).2.2):=by
 unfold mvV
 by_cases h1:c=1
 ·subst h1
  rw[if_pos rfl]
  cases g
  ·exact moved_zf fm 0 0 vo vc w
  ·exact moved_zt fm 0 0 vo vc w
 rw[if_neg h1]
 by_cases h5:c=5
 ·subst h5
  rw[if_neg (fun c=>c.1 rfl)]
  exact moved_5 _ fm 0 g 0 vo vc w (fun w1=>A5 fm hf w1)
 by_cases hm:fm=1
 ·subst hm
  rw[if_pos ⟨h5,rfl⟩];exact moved_same c 0 g 0 vo vc w (by simpa using h1) h5 rv
 ·rw[if_neg (fun c=>hm c.2)]
  exact moved_no _ c fm 0 g 0 vo vc w (by simpa using h1) h5 (by simpa using hm) (fun w1=>A5 fm hf w1)
def cvT (k:Nat)(way c:Int)(g:Bool)(x:ak):ByteArray×Int×Int:=
 if c=2 then fitT k way x.s (Dg.dg 4294967296 x.n) [1] x.e else Dw k (mvV c g (dK k)).1 (mvV c g (dK k)).2.1 0 0 (mvV c g (dK k)).2.2
theorem small_one:Dg.Small 4294967296 [1]:=fun i=>by
 rcases i with- |i
 ·show 1<4294967296
  omega
 ·show([]:List Nat).getD i 0<4294967296
  simp
theorem fam_any (k:Int)(w:World):yC 38 #[yi k] w (yR w (yi (dK k))):=
 (jk k w).mono (fun z w' h=>⟨h.1,by rw[h.2];exact Below.refl _ _⟩)
theorem convert_any n (s:ByteArray)(k:Nat)(hk:1≤k∧k≤8)(way:Int)(w:World)(hT:Tab w)(hp:dF n s=0)(hw:1≤way∧way≤5):
  yC 9 #[yi n,.string s,yi k,yi way] w (mM (cvT k way ((bM n s:Nat):Int) (dz n s) (opT n s)) w):=by
 have hf:(dK k==0)=false:=by
  rcases qt hk with h|h|h<;>rw[h]<;>rfl
 have HF:=fun w1=>fam_any k w1
 have HQ:=fun w1 (b:yB w w1)=>(convread_any n s way w1 (hT.l b)).2.2 hp hw
 unfold cvT
 by_cases h2:((bM n s:Nat):Int)=2
 ·rw[if_pos h2]
  rw[h2] at HQ;exact convert_num _ _ _ _ _ _ _ (opT n s) n k way s w hf HF HQ (fun xo xc w1=>wratio_any (opT n s) xo xc w1) (fun xo xc eo ec w1 b rx re=>fit_any k hk way (opT n s).s xo xc (Dg.dg 4294967296 (opT n s).n) eo ec [1] (opT n s).e w1 rx re (Dg.small_dg _ _ (by omega)) small_one (hT.l b))
 ·rw[if_neg h2]
  have hM:gJ n s=0∧iF n s=0:=by
   have hc:dh n.toNat (aZ n.toNat s) (aR n.toNat s) (aU n.toNat s)≠2:=fun c=>h2 (by
    unfold bM;rw[if_pos hp,c];rfl)
   unfold gJ iF ge gw;rw[if_pos hp,if_pos hp,if_neg hc,if_neg hc];exact⟨rfl,rfl⟩
  rw[hM.1,hM.2] at HQ;have HE:=fun ao ac w1 (b:yB w w1) (r:Rd w1 .u32 (yT ao 0 ac) (Dg.dg 4294967296 0))=>jj k (mvV ((bM n s:Nat):Int) (dz n s) (dK k)).1 (mvV ((bM n s:Nat):Int) (dz n s) (dK k)).2.1 ao ac (Dg.dg 4294967296 0) 0 w1 r (Dg.small_dg _ _ (by omega)) (hT.l b)
  have HM:=fun vo vc w1 (_:yB w w1) (r:Rd w1 .u32 (yT vo 0 vc) (Dg.dg 4294967296 0))=>moved_any ((bM n s:Nat):Int) (dz n s) (dK k) (qt hk) vo vc w1 r
  unfold Dw;generalize mvV ((bM n s:Nat):Int) (dz n s) (dK k)=v at*
  by_cases he:gI k v.1 v.2.1 (Dg.dg 4294967296 0) 0=0
  ·rw[if_pos he]
   rw[he] at HE;exact convert_oth _ _ _ _ _ _ _ 0 _ _ 0 (opT n s) n k way s w hf (by simpa using h2) HF HQ HM HE
  ·rw[if_neg he]
   exact convert_bad _ _ _ _ _ _ _ _ 0 _ _ 0 (opT n s) n k way s w hf (by simpa using h2) he HF HQ HM HE
theorem fit_num {k:Nat}(hk:1≤k∧k≤8){way:Int}(hw:1≤way∧way≤5){x:ak}(sx:iZ x)(h0:x.n≠0):
  fitT k way x.s (Dg.dg 4294967296 x.n) [1] x.e=Dw k (pG k way (fY k way x)).1 (pG k way (fY k way x)).2.1 (pG k way (fY k way x)).2.2.1 (pG k way (fY k way x)).2.2.2.1 (pG k way (fY k way x)).2.2.2.2:=by
 have hg:=(eR hk).2.2.2.2.2.2.2.2.2.2.2;have hl:(Dg.dg 4294967296 x.n).length≤1200:=jq sx.1 (by omega);have hne: ¬(Dg.dg 4294967296 x.n).length=0:=fun c=>h0 ((Dg.dg_nil_iff 4294967296 _ (by omega)).1 (List.length_eq_zero_iff.1 c))
 have hq:eA (Dg.dg 4294967296 x.n) [1] x.e=0:=by
  unfold eA;rw[if_pos (pJ (Dg.norm_dg _ _ (by omega)) hl),if_pos (show chk [1]=0 from rfl),if_neg]
  rintro(c|c)
  ·cases c
  ·unfold eJ at c
   simp at c;have:=sx.2;omega
 have hC:eE (Dg.dg 4294967296 x.n) [1] x.e (rdN k) (dgN k) (lsI k) (gsI k) way=0:=by rw[Bq hq hg,if_pos (way_is.2 hw)]
 have hP:df (Dg.dg 4294967296 x.n) [1] x.e (rdN k) (dgN k) (lsI k) (gsI k) (decide (k≤3)) x.s way=fY k way x:=by
  unfold df;rw[if_pos hC,if_neg hne,Dg.vl_dg _ _ (by omega)];rfl
 unfold fitT;rw[if_pos hC,hP]
theorem take_ref {k j:Nat}(hk:1≤k∧k≤8)(hj:1≤j∧j≤8){way:Int}(hw:1≤way∧way≤5){s:ByteArray}(hp:dF j s=0):
  ∃v:Int×Bool×ak×Int,(∀xo xc w,Rd w .i64 (.slice xo (Dg.dg 65536 (opT j s).n).length xc) (Dg.dg 65536 (opT j s).n)→yC 14 #[yi k,.agg #[yi ((bM j s:Nat):Int),.bool (dz j s),.bool (opT j s).s,.slice xo (Dg.dg 65536 (opT j s).n).length xc,yi (opT j s).e],yi way] w (RVF w v.1 v.2.1 v.2.2.1 v.2.2.2))∧SameV k (cvT k way ((bM j s:Nat):Int) (dz j s) (opT j s)) v:=by
 obtain⟨sx,z2,n2⟩:=ir hj hp;have hc:=zl hp;have HF:=fun w1=>form_any k hk w1
 have e4:bM j s=4→dz j s=false:=fun c=>by
  unfold dz kt;rw[if_pos hp,Int.toNat_natCast];unfold bM at c;rw[if_pos hp,Int.toNat_natCast] at c;rw[if_neg (by omega)]
 have L: ∀fl,SameV k (Dw k (AZ (dK k)) false 0 0 fl) (nthV k fl):=fun fl=>by
  have:=same_off hk way fl;unfold m8 at this;rw[if_neg (show¬AZ (dK k)=2 from fun h=>vN (k:=k) (fl:=0) h)] at this
  by_cases h1:AZ (dK k)=1
  ·rw[if_pos h1,Bool.false_and] at this
   rw[h1];exact this
  ·rwa [if_neg h1] at this
 unfold cvT;have h5:bM j s=1∨bM j s=2∨bM j s=3∨bM j s=4∨bM j s=5:=by omega
 rcases h5 with h|h|h|h|h
 ·rw[show((bM j s:Nat):Int)=1 by omega,if_neg (by decide)]
  refine⟨(1,dz j s&&decide (dK k=1),⟨false,0,0⟩,0),fun xo xc w _=>takeOf_1 _ _ _ _ _ _ _ _ _ _ _ _ _ _ _ _ w HF (fun w1=>refZero_any k hk _ w1), ?_⟩
  have:=same_nil hk way (dz j s) ⟨false,0,0⟩ 0;unfold m8 at this
  rwa [if_neg (by decide),if_pos rfl] at this
 ·have h0:=n2 h
  rw[show((bM j s:Nat):Int)=2 by omega,if_pos rfl,fit_num hk hw sx h0]
  have hs:=same_plc hk way _ (rnd_of hk (opT j s).s (opT j s).n 1 (opT j s).e way h0 (by omega));rw[or_set] at hs;exact⟨plV k way (fY k way (opT j s)),fun xo xc w rx=>takeOf_2 _ _ _ _ _ _ _ _ _ _ _ _ _ _ _ _ _ _ _ w HF (fun w1 b=>fitD_any k hk way hw (opT j s) xo xc w1 h0 (rx.l b) (by have:=adR sx;omega) (by have:=sx.2;omega) (by have:=sx.2;omega)),hs⟩
 ·have hx:=z2 (by omega)
  rw[show((bM j s:Nat):Int)=3 by omega,if_neg (by decide)]
  unfold mvV;rw[if_neg (by decide)]
  by_cases hf:dK k=1
  ·rw[if_pos ⟨by decide,hf⟩]
   rw[hf] at HF;refine⟨(3,dz j s,opT j s,0),fun xo xc w rx=>takeOf_3 _ _ _ _ _ _ _ _ _ _ _ _ _ _ w rx HF, ?_⟩
   rw[hx];have:=same_inf hk ((fam_one hk).1 hf) way (dz j s) ⟨false,0,0⟩ 0;unfold m8 at this
   rwa [if_neg (by decide),if_neg (by decide)] at this
  ·rw[if_neg (fun c=>hf c.2)]
   exact⟨nthV k 16,fun xo xc w _=>takeOf_l3 _ _ _ _ _ _ _ _ _ _ _ _ _ _ _ _ w (by simpa using hf) HF (fun w1=>lost_any k hk w1),L 16⟩
 ·rw[show((bM j s:Nat):Int)=4 by omega,if_neg (by decide),e4 h]
  unfold mvV;rw[if_neg (by decide)]
  by_cases hf:dK k=1
  ·rw[if_pos ⟨by decide,hf⟩]
   have hL:=L 0;have hN:AZ (dK k)=4:=by rw[hf];rfl
   rw[hN] at hL;rw[hf] at HF;exact⟨nthV k 0,fun xo xc w _=>takeOf_4 _ _ _ _ _ _ _ _ _ _ _ _ _ _ _ w HF (fun w1=>refNothing_any k hk w1),hL⟩
  ·rw[if_neg (fun c=>hf c.2)]
   exact⟨nthV k 16,fun xo xc w _=>takeOf_l4 _ _ _ _ _ _ _ _ _ _ _ _ _ _ _ _ w (by simpa using hf) HF (fun w1=>lost_any k hk w1),L 16⟩
 ·rw[show((bM j s:Nat):Int)=5 by omega,if_neg (by decide)]
  unfold mvV;rw[if_neg (by decide),if_neg (fun c=>c.1 rfl)]
  exact⟨nthV k 16,fun xo xc w _=>takeOf_l5 _ _ _ _ _ _ _ _ _ _ _ _ _ _ _ _ w HF (fun w1=>lost_any k hk w1),L 16⟩
def pat3:ByteArray:=(fitT 4 1 false (Dg.dg 4294967296 3) [1] 0).1
theorem pat3_fit:fitT 4 1 false (Dg.dg 4294967296 3) [1] 0=(pat3,0,0):=by
 have h1:(fitT 4 1 false (Dg.dg 4294967296 3) [1] 0).2.1=0:=by kernel_rfl
 have h2:(fitT 4 1 false (Dg.dg 4294967296 3) [1] 0).2.2=0:=by kernel_rfl
 unfold pat3;generalize fitT 4 1 false (Dg.dg 4294967296 3) [1] 0=r at*;obtain⟨a,b,c⟩:=r;simp only at h1 h2;rw[h1,h2]
theorem pat3_dec:dF 4 pat3=0∧bM 4 pat3=2∧opT 4 pat3=⟨false,3,0⟩:=by
 refine⟨?_, ?_, ?_⟩<;>kernel_rfl
theorem three_round:eE (Dg.dg 4294967296 3) [1] 0 2 64 0 0 1=0∧df (Dg.dg 4294967296 3) [1] 0 2 64 0 0 true false 1=⟨false,3,0,true,false,true⟩:=by
 refine⟨?_, ?_⟩<;>kernel_rfl
theorem convBegun_any (w:World)(hT:Tab w):yC 15 #[] w (yR w (.bool true)):=by
 obtain⟨p1,p2,p3⟩:=pat3_dec;obtain⟨r1,r2⟩:=three_round;refine convBegun_W pat3 w (fun w1 b1=> ?_) (fun w1 b1=> ?_)
 ·refine fromInt_pos 3 4 1 0 0 3 pat3 w1 (by decide) (by decide) (fun w2 b2=>(KH 3 (by omega) w2).mono (fun z w' h=>by
   obtain⟨v,e,o,b⟩:=h;exact⟨v,e,o.rd,b⟩)) (fun ao ac q w2 b2 r l=> ?_)
  have:=fit_any 4 (by omega) 1 false ao ac (Dg.dg 4294967296 3) (some ⟨q,0,none⟩) 1 [1] 0 w2 r (aa0 (r:=1) (l.c 0 rfl)) (Dg.small_dg _ _ (by omega)) small_one ((hT.l b1).l b2);rw[pat3_fit] at this;exact this
 ·have HQ:=fun w2 (b2:yB w1 w2)=>(convread_any 4 pat3 1 w2 ((hT.l b1).l b2)).2.2 p1 (by decide)
  rw[p2,p3] at HQ;refine toInt_exact 4 1 _ 0 3 _ false false true _ 3 ⟨false,3,0⟩ pat3 w1 HQ (fun xo xc w2=>wratio_any ⟨false,3,0⟩ xo xc w2) (fun xo xc eo ec w2 b2 rx re=> ?_) (fun po pc w2 b2 r=> ?_)
  ·have:=jM false xo xc (Dg.dg 4294967296 3) eo ec [1] 0 2 64 0 0 true 1 w2 rx re (Dg.small_dg _ _ (by omega)) small_one
   rw[r1,r2] at this;refine this.mono (fun z w' h=> ?_)
   obtain⟨v,h1,h2,h3⟩:=h;obtain⟨po,pc,e⟩:=h2.rd.shape;subst e;exact⟨po,pc,h1,h2.rd,h3⟩
  ·exact cwhole_pos 0 true true 3 po pc w2 (by decide) (by decide) (by decide) (fun w3 b3=>by
    have:=XF (yT po 3 pc) (Dg.dg 4294967296 3) w3 (r.l b3) (Dg.small_dg _ _ (by omega)) (by decide);rw[Dg.vl_dg _ _ (by omega)] at this;exact this)
theorem convConverts_walk (n:Int)(s:ByteArray)(k way:Int)(w:World)(hT:Tab w):yC 3 #[yi n,.string s,yi k,yi way] w (yR w (.bool true)):=by
 have HB:=fun w1 (b:yB w w1)=>convBegun_any w1 (hT.l b)
 have HE: ∀e:Int,e≠0→yH w 16 #[yi k,.string ⟨#[]⟩,yi 0,yi e,yi e,yoV 0 false false yN 0,yi 0] (.bool true):=fun e he w1 _=>aal k 0 e 0 false ⟨false,0,0⟩ none 0 w1 (by simpa using he)
 by_cases fk:dK k=0
 ·have HA:=fun w1 (_:yB w w1)=>convert_none n k way s w1 (fun w2=>by
   have:=fam_any k w2;rw[fk] at this;exact this)
  by_cases fn:dK n=0
  ·exact converts_nf _ _ _ _ _ _ _ _ _ _ _ _ _ _ _ _ _ _ false n k way _ _ s _ w HA (fun w1=>oT n w1 fn) (fun w1=>oT k w1 fk) HB (HE 6 (by decide))
  ·obtain⟨k1,k2,k3⟩:=fF fn
   obtain⟨j,rfl⟩: ∃j:Nat,n=(j:Int):=⟨n.toNat,k3.symm⟩;rw[Int.toNat_natCast] at k1 k2;exact converts_nt _ _ _ _ _ _ _ _ _ _ _ _ _ _ _ _ _ _ (j:Int) k way _ _ s _ w HA (fun w1=>form_any j ⟨k1,k2⟩ w1) (fun w1=>oT k w1 fk) HB (HE 6 (by decide))
 obtain⟨k1,k2,k3⟩:=fF fk;obtain⟨k,rfl⟩: ∃j:Nat,k=(j:Int):=⟨k.toNat,k3.symm⟩;rw[Int.toNat_natCast] at k1 k2;have hk:1≤k∧k≤8:=⟨k1,k2⟩;have HG:=fun w1=>form_any k hk w1
 have hf0:(dK (k:Int)==0)=false:=by simpa using fk
 have HF:=fun w1=>fam_any (k:Int) w1
 by_cases hp:dF n s=0
 rotate_left
 ·have HA:=fun w1 (b1:yB w w1)=>convert_err _ _ _ _ _ _ _ n (k:Int) way s w1 hf0 hp HF (fun w2 b2=>(convread_any n s way w2 ((hT.l b1).l b2)).1 hp)
  by_cases fn:dK n=0
  ·have h6:dF n s=6:=if_pos fn
   rw[h6] at HA;exact converts_nf _ _ _ _ _ _ _ _ _ _ _ _ _ _ _ _ _ _ true n (k:Int) way _ _ s _ w HA (fun w1=>oT n w1 fn) HG HB (HE 6 (by decide))
  ·obtain⟨j1,j2,j3⟩:=fF fn
   obtain⟨j,rfl⟩: ∃j:Nat,n=(j:Int):=⟨n.toNat,j3.symm⟩;rw[Int.toNat_natCast] at j1 j2;exact converts_bad _ _ _ _ _ _ _ _ _ _ _ _ _ _ _ _ _ _ _ (j:Int) (k:Int) way _ _ s _ w (by simpa using hp) HA (fun w1=>form_any j ⟨j1,j2⟩ w1) HG (fun w1=>xu (j:Int) s w1) HB (HE _ hp)
 have fn:dK n≠0:=fun c=>by
  rw[show dF n s=6 from if_pos c] at hp
  omega
 obtain⟨j1,j2,j3⟩:=fF fn;obtain⟨j,rfl⟩: ∃j:Nat,n=(j:Int):=⟨n.toNat,j3.symm⟩;rw[Int.toNat_natCast] at j1 j2;have HN:=fun w1=>form_any j ⟨j1,j2⟩ w1
 have HO:=fun w1=>xu (j:Int) s w1
 have HY:=fun w1=>qi way w1
 rw[hp] at HO
 by_cases hw:1≤way∧way≤5
 rotate_left
 ·have HA:=fun w1 (b1:yB w w1)=>convert_err _ _ _ _ _ _ _ (j:Int) (k:Int) way s w1 hf0 (show¬(6:Int)=0 by decide) HF (fun w2 b2=>(convread_any (j:Int) s way w2 ((hT.l b1).l b2)).2.1 hp hw)
  rw[show iC way=false from by
   cases hy:iC way
   ·rfl
   ·exact absurd (way_is.1 hy) hw] at HY
  exact converts_way _ _ _ _ _ _ _ _ _ _ _ _ _ _ _ _ _ _ (j:Int) (k:Int) way _ _ s _ w HA HN HG HO HY HB (HE 6 (by decide))
 rw[way_is.2 hw] at HY;obtain⟨v,hv,hs⟩:=take_ref hk ⟨j1,j2⟩ hw hp;obtain⟨a1,a2,-,-⟩:=acu ⟨j1,j2⟩ hp;have HD:=fun w1 (_:yB w w1)=>(mW (j:Int) s w1 hp).mono (fun z w' h=>by
  obtain⟨sv,h1,h2,h3,-⟩:=h;obtain⟨xo,xc,e⟩:=h2.shape;subst e;exact(⟨xo,xc,_,h1,h2,h3⟩: ∃xo xc cg,z= .returned (.tuple #[.agg #[yi ((bM (j:Int) s:Nat):Int),.bool (rfG (j:Int) s),.bool (rfT (j:Int) s).s,.slice xo (Dg.dg 65536 (rfT (j:Int) s).n).length xc,yi (rfT (j:Int) s).e],.bool cg])∧Rd w' .i64 (.slice xo (Dg.dg 65536 (rfT (j:Int) s).n).length xc) (Dg.dg 65536 (rfT (j:Int) s).n)∧yB w1 w'))
 rw[←a1,←a2] at HD;exact converts_ok _ _ _ _ _ (opT (j:Int) s) v.2.2.1 _ _ _ _ _ _ _ _ _ _ _ _ _ _ _ _ _ _ (j:Int) (k:Int) way _ _ s _ w (fun w1 b=>convert_any (j:Int) s k hk way w1 (hT.l b) hp hw) HN HG HO HY HD (fun xo xc w1 _ rx=>hv xo xc w1 rx) HB (fun so sc w1 _ hr=>pat_ok hs so sc w1 hr)
end Go.Proofs.YtpainhklfoaniaaGreatDoor
