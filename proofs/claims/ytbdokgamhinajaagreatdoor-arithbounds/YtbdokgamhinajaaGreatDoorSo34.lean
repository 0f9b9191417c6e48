/-
  Texts laid together: Du2, Pa6, Ra2, Ra3, Ra4, Gg3, Gg5, Pa7.
-/
import Derived.Test.YtbdokgamhinajaaGreatDoorSo33
set_option maxRecDepth 100000
set_option maxHeartbeats 3200000
namespace Go.Proofs.YtbdokgamhinajaaGreatDoor
open _root_.Go.Proofs.Tryz
open Go.RowKit
def gV (a b:ak)(B:Nat):Nat:=B+bitLen b.n-bitLen a.n
def cK (a b:ak)(B:Nat):ak:=d8 (a.s != b.s) (a.n*2^gV a b B/b.n) (a.e-b.e-(gV a b B:Int)) (decide (0<a.n*2^gV a b B % b.n))
theorem Jw (v u:Value)(a b:ak)(B:Nat)(w:World)(hv:Dv w v a)(hu:Dv w u b)(hb0:0<b.n)(hLa:(Dg.dg 4294967296 a.n).length≤3000)(hLb:(Dg.dg 4294967296 b.n).length≤3000)
  (ha1: -100000≤a.e) (ha2:a.e≤100000) (hb1: -100000≤b.e) (hb2:b.e≤100000) (hB:B≤10000):
  yC 96 #[v,u,yi B] w (jN w (cK a b B)):=by
 obtain⟨s0,rfl,ra⟩:=hv;obtain⟨s1,rfl,rb⟩:=hu;obtain⟨sa,an,ae⟩:=a;obtain⟨sb,bn,be⟩:=b;simp only at ra rb hLa hLb ha1 ha2 hb1 hb2 hb0⊢;have hla:=gf hLa;have hlb:=gf hLb;have HBA:Hid (∀w1,yB w w1→yC 138 #[s0] w1 fun z w'=>z= .returned (yi (bitLen an:Nat))∧w'=w1):=fun w1 b1=>by
  have:=kE s0 _ w1 (ra.l b1) (Dg.small_dg _ _ (by omega)) (Dg.norm_dg _ _ (by omega)) (by omega)
  rwa [Dg.vl_dg _ _ (by omega)] at this
 have HBB:Hid (∀w1,yB w w1→yC 138 #[s1] w1 fun z w'=>z= .returned (yi (bitLen bn:Nat))∧w'=w1):=fun w1 b1=>by
  have:=kE s1 _ w1 (rb.l b1) (Dg.small_dg _ _ (by omega)) (Dg.norm_dg _ _ (by omega)) (by omega)
  rwa [Dg.vl_dg _ _ (by omega)] at this
 unfold cK gV;simp only;have hsm:max (0:Int) ((B:Int)+(bitLen bn:Int)-(bitLen an:Int))=((B+bitLen bn-bitLen an:Nat):Int):=by omega
 have hshl:B+bitLen bn-bitLen an≤106000:=by omega
 obtain⟨sh,hsh⟩: ∃sh,B+bitLen bn-bitLen an=sh:=⟨_,rfl⟩;rw[hsh] at hsm hshl⊢;have HSF:Hid (∀w1,yB w w1→yC 130 #[s0,yi sh] w1 (Num w1 (an*2^sh))):=fun w1 b1=>by
  have:=eO s0 _ (sh:Int) w1 (ra.l b1) (Dg.small_dg _ _ (by omega)) (by omega) (by omega) (by omega);rw[Dg.vl_dg _ _ (by omega),CE _ _ (by omega),Int.toNat_natCast] at this;exact this
 have hml:=CF an sh 3000 3313 hLa (by omega);have HOV:Hid (∀v1 w1,yB w w1→Rd w1 .u32 v1 (Dg.dg 4294967296 (an*2^sh))→yC 139 #[v1,s1] w1 (Two w1 (an*2^sh/bn) (an*2^sh % bn))):=fun v1 w1 b1 r=>by
  have:=A9 v1 s1 _ _ w1 r (rb.l b1) (Dg.small_dg _ _ (by omega)) (Dg.small_dg _ _ (by omega)) (Dg.norm_dg _ _ (by omega)) (Dg.norm_dg _ _ (by omega)) (by rw[Ne,Dg.dg_nil_iff _ _ (by omega)];omega) (by omega)
  rwa [Dg.vl_dg _ _ (by omega),Dg.vl_dg _ _ (by omega)] at this
 have hql:(Dg.dg 4294967296 (an*2^sh/bn)).length≤500000:=Nat.le_trans (aH 4294967296 _ _ (by omega) (Nat.div_le_self _ _)) (by omega);obtain⟨Q,hQ⟩: ∃Q,an*2^sh/bn=Q:=⟨_,rfl⟩;obtain⟨M,hM⟩: ∃M,an*2^sh % bn=M:=⟨_,rfl⟩;rw[hQ,hM] at HOV⊢;rw[hQ] at hql;have HEN:Hid (∀v1 lf w1,decide (0<M)=lf→Rd w1 .u32 v1 (Dg.dg 4294967296 Q)→yC 140 #[.bool (sa != sb),v1,yi (ae-be-(sh:Int)),.bool lf] w1 (jN w1 (d8 (sa != sb) Q (ae-be-(sh:Int)) (decide (0<M))))):=fun v1 lf w1 h r=>by
  rw[h];exact xG _ v1 Q _ lf w1 r hql (by omega) (by omega)
 obtain⟨⟨zs,zn,ze⟩,hz⟩: ∃r,d8 (sa != sb) Q (ae-be-(sh:Int)) (decide (0<M))=r:=⟨_,rfl⟩;rw[hz] at HEN⊢;have hMz:(0< (Dg.dg 4294967296 M).length)↔0<M:=by
  rw[List.length_pos_iff,Ne,Dg.dg_nil_iff _ _ (by omega)];omega
 obtain⟨ao,ca,rfl⟩:=ra.shape;obtain⟨bo,cb,rfl⟩:=rb.shape;obtain⟨ma,hma⟩: ∃m,(Dg.dg 4294967296 an).length=m:=⟨_,rfl⟩;obtain⟨mb,hmb⟩: ∃m,(Dg.dg 4294967296 bn).length=m:=⟨_,rfl⟩;obtain⟨la0,hla0⟩: ∃m,bitLen an=m:=⟨_,rfl⟩;obtain⟨lb0,hlb0⟩: ∃m,bitLen bn=m:=⟨_,rfl⟩;rw[hma] at HBA HSF⊢;rw[hmb] at HBB HOV⊢;rw[hla0] at HBA hla hsm;rw[hlb0] at HBB hlb hsm;clear hz hma hmb hla0 hlb0 hQ hM ra rb hLa hLb hsh hml hb0 hql;obtain⟨la,lb,lc,bb,-⟩:=ju w (.bool sa) (.slice ao ma ca) (yi ae) (.bool sb) (.slice bo mb cb) (yi be) (.bool false) yN (yi 0) 74 74 74;obtain⟨W,hW⟩: ∃W,(((w.alloc (.cells (ydA sa (.slice ao ma ca) ae) 74)).alloc (.cells (ydA sb (.slice bo mb cb) be) 74)).alloc (.cells (ydA false yN 0) 74))=W:=⟨_,rfl⟩;rw[hW] at la lb lc bb;have bd:yB W W.drew:=(Below.refl _ _).drew;have la1:=la.l bd;have lb1:=lb.l bd;have lc1:=lc.l bd;have b01:=aa bb bd;rw[←hW] at la1 lb1 lc1 b01;obtain⟨-,⟨c0,c1,c2⟩,-⟩:=id la1;obtain⟨-,⟨c3,c4,c5⟩,-⟩:=id lb1;have hw1:IntKind.i64.wrap ((B:Int)+(lb0:Int))=(B:Int)+(lb0:Int):=IntWalk.i64_in _ ⟨by omega,by omega⟩;have hw2:IntKind.i64.wrap ((B:Int)+(lb0:Int)-(la0:Int))=(B:Int)+(lb0:Int)-(la0:Int):=IntWalk.i64_in _ ⟨by omega,by omega⟩;clear la lb lc bb bd hW
 go_enter func96,ntmps96
 go_wp2_with fail
 go_region_held3 (fun wq=>(wq.cell? ⟨w.heap.size,0,none⟩=some (.bool sa)∧wq.cell? ⟨w.heap.size,1,none⟩=some (.slice ao ma ca)∧wq.cell? ⟨w.heap.size,2,none⟩=some (yi ae))∧wq.cell? ⟨w.heap.size+1,0,none⟩=some (.bool sb)∧wq.cell? ⟨w.heap.size+1,1,none⟩=some (.slice bo mb cb)∧wq.cell? ⟨w.heap.size+1,2,none⟩=some (yi be)) (go_keep) (first
  | (go_at_call 115;refine(cN sb bo mb cb be _).mono ?_;rintro z w2 ⟨rfl,b2⟩;have la2:=la1.l b2;have lb2:=lb1.l b2;have lc2:=lc1.l b2;have b02:=aa b01 b2;obtain⟨-,⟨p0,p1,p2⟩,-⟩:=id la2;obtain⟨-,⟨p3,p4,p5⟩,-⟩:=id lb2;clear b01)
  | (go_at_call 138;refine(HBB.out w2 b02).mono ?_;rintro z w3 ⟨rfl,rfl⟩;clear HBB)
  | (go_at_call 115;refine(cN sa ao ma ca ae _).mono ?_;rintro z w4 ⟨rfl,b4⟩;have la4:=la2.l b4;have lb4:=lb2.l b4;have lc4:=lc2.l b4;have b04:=aa b02 b4;obtain⟨-,⟨q0,q1,q2⟩,-⟩:=id la4;obtain⟨-,⟨q3,q4,q5⟩,-⟩:=id lb4)
  | (go_at_call 138;refine(HBA.out w4 b04).mono ?_;rintro z w5 ⟨rfl,rfl⟩))
 clear c0 c1 c2 c3 c4 c5 p0 p1 p2 p3 p4 p5 q0 q1 q2 q3 q4 q5 la1 lb1 lc1 la2 lb2 lc2 b02 b2 b4;have bd:yB w5 w5.drew:=(Below.refl _ _).drew;have la5:=la4.l bd;have lb5:=lb4.l bd;have lc5:=lc4.l bd;have b05:=aa b04 bd;obtain⟨-,⟨c0,c1,c2⟩,-⟩:=id la5;obtain⟨-,⟨c3,c4,c5⟩,-⟩:=id lb5;clear la4 lb4 lc4 b04 bd
 go_wp2_with fail
 go_region_held3 (fun wq=>(wq.cell? ⟨w.heap.size,0,none⟩=some (.bool sa)∧wq.cell? ⟨w.heap.size,1,none⟩=some (.slice ao ma ca)∧wq.cell? ⟨w.heap.size,2,none⟩=some (yi ae))∧wq.cell? ⟨w.heap.size+1,0,none⟩=some (.bool sb)∧wq.cell? ⟨w.heap.size+1,1,none⟩=some (.slice bo mb cb)∧wq.cell? ⟨w.heap.size+1,2,none⟩=some (yi be)) (go_keep) (first
  | (go_at_call 115;refine(cN sa ao ma ca ae _).mono ?_;rintro z w6 ⟨rfl,b6⟩;have la6:=la5.l b6;have lb6:=lb5.l b6;have lc6:=lc5.l b6;have b06:=aa b05 b6;obtain⟨-,⟨p0,p1,p2⟩,-⟩:=id la6;obtain⟨-,⟨p3,p4,p5⟩,-⟩:=id lb6;clear b05)
  | (go_at_call 130;refine(HSF.out w6 b06).mono ?_;rintro z w7 ⟨v7,rfl,o7,b7⟩;have la7:=la6.l b7;have lb7:=lb6.l b7;have lc7:=lc6.l b7;have b07:=aa b06 b7;obtain⟨-,⟨q0,q1,q2⟩,-⟩:=id la7;obtain⟨-,⟨q3,q4,q5⟩,-⟩:=id lb7)
  | (go_at_call 115;refine(cN sb bo mb cb be _).mono ?_;rintro z w8 ⟨rfl,b8⟩;have la8:=la7.l b8;have lb8:=lb7.l b8;have lc8:=lc7.l b8;have b08:=aa b07 b8;have r8:=(o7.l b8).rd;obtain⟨-,⟨t0,t1,t2⟩,-⟩:=id la8;obtain⟨-,⟨t3,t4,t5⟩,-⟩:=id lb8)
  | (go_at_call 139;refine(HOV.out _ w8 b08 r8).mono ?_;rintro z w9 ⟨vq,vr,rfl,oq,orr,b9⟩;have la9:=la8.l b9;have lb9:=lb8.l b9;have lc9:=lc8.l b9;have b09:=aa b08 b9;obtain⟨-,⟨x0,x1,x2⟩,-⟩:=id la9;obtain⟨-,⟨x3,x4,x5⟩,-⟩:=id lb9))
 have rq:=oq.rd;obtain⟨ro,rc,hvr⟩:=orr.rd.shape;subst hvr;have hlt:=lc9.1;clear c0 c1 c2 c3 c4 c5 p0 p1 p2 p3 p4 p5 q0 q1 q2 q3 q4 q5 t0 t1 t2 t3 t4 t5 la5 lb5 lc5 la6 lb6 lc6 la7 lb7 lc7 la8 lb8 lc8 b06 b6 b07 b7 b08 b8 b9 o7 r8 oq orr HBA HSF HOV;have hw3:IntKind.i64.wrap (ae-be)=ae-be:=IntWalk.i64_in _ ⟨by omega,by omega⟩;have hw4:IntKind.i64.wrap (ae-be-(sh:Int))=ae-be-(sh:Int):=IntWalk.i64_in _ ⟨by omega,by omega⟩
 by_cases hM0:0<M
 ·have hlen:=hMz.2 hM0
  have HD:Hid (decide (0<M)=true):=decide_eq_true hM0;clear hMz hM0
  go_wp2_with fail
  refine(HEN.out _ true _ HD.out rq).mono ?_;rintro z w10 ⟨vz,rfl,oz,b10⟩;have lc10:=lc9.l b10;have b010:=aa b09 b10;obtain⟨zo,zc,hvz⟩:=oz.rd.shape;subst hvz;obtain⟨hl6,⟨d0,d1,d2⟩,f0,f1,f2⟩:=id lc10;clear x0 x1 x2 x3 x4 x5 b10 rq la9 lb9;obtain⟨-,⟨g0,g1,g2⟩,-⟩:=aD lc10 (.bool zs) (yT zo zn zc) (yi ze);have o11:=oz.apart3 (b:=w.heap.size+1+1) hlt (.bool zs) (yT zo zn zc) (yi ze);have b11:=am b010 (show w.heap.size≤w.heap.size+1+1 by omega) (.bool zs) (yT zo zn zc) (yi ze)
  go_wp2
  refine bodyPost_ret (v:=(ydV zs (yT zo zn zc) ze)) (by simp[results,results96,go_sem,g0,g1,g2]) rfl ?_;exact⟨_,rfl,o11.lower b09.size,b11⟩
 ·have hlen: ¬0< (Dg.dg 4294967296 M).length:=fun h=>hM0 (hMz.1 h)
  have HD:Hid (decide (0<M)=false):=decide_eq_false hM0;clear hMz hM0
  go_wp2_with fail
  refine(HEN.out _ false _ HD.out rq).mono ?_;rintro z w10 ⟨vz,rfl,oz,b10⟩;have lc10:=lc9.l b10;have b010:=aa b09 b10;obtain⟨zo,zc,hvz⟩:=oz.rd.shape;subst hvz;obtain⟨hl6,⟨d0,d1,d2⟩,f0,f1,f2⟩:=id lc10;clear x0 x1 x2 x3 x4 x5 b10 rq la9 lb9;obtain⟨-,⟨g0,g1,g2⟩,-⟩:=aD lc10 (.bool zs) (yT zo zn zc) (yi ze);have o11:=oz.apart3 (b:=w.heap.size+1+1) hlt (.bool zs) (yT zo zn zc) (yi ze);have b11:=am b010 (show w.heap.size≤w.heap.size+1+1 by omega) (.bool zs) (yT zo zn zc) (yi ze)
  go_wp2
  refine bodyPost_ret (v:=(ydV zs (yT zo zn zc) ze)) (by simp[results,results96,go_sem,g0,g1,g2]) rfl ?_;exact⟨_,rfl,o11.lower b09.size,b11⟩
def EU (k:Nat)(ng:Bool):Int×Bool×ak×Int:=
 if dK k=1 then(3,ng,⟨false,0,0⟩,8) else if dK k=2 then((nu (bare ⟨ng,rdN k^dgN k-1,(ai (rdN k):Int)*gsI k⟩) ng).1,(nu (bare ⟨ng,rdN k^dgN k-1,(ai (rdN k):Int)*gsI k⟩) ng).2.1,(nu (bare ⟨ng,rdN k^dgN k-1,(ai (rdN k):Int)*gsI k⟩) ng).2.2.1,8) else noV k 8
def wu (k:Nat)(cx:Int)(gx:Bool)(x:ak)(cy:Int)(gy:Bool)(y:ak):Int×Bool×ak×Int:=
 if cx=3∧cy=3∨cx=1∧cy=1 then noV k 16 else if cx=3 then(3,gx != gy,⟨false,0,0⟩,0) else if cy=3 then(1,gx != gy,⟨false,0,0⟩,0) else if cy=1 then EU k (gx != gy) else nu (cK x y 128) (gx != gy)
theorem EV {k:Nat}(hk:1≤k∧k≤8):ia (rdN k) (dgN k) (lsI k) (gsI k) (decide (k≤3)) (rdN k^dgN k-1) (gsI k):=by
 refine .inr ?_
 rcases bO hk with rfl|rfl|rfl|rfl|rfl|rfl|rfl|rfl<;>decide
theorem Mb (k:Nat)(hk:1≤k∧k≤8)(wy:Int)(ng:Bool)(w:World)(hT:Tab w):yC 95 #[dsk k wy,.bool ng] w (RE w (EU k ng)):=by
 unfold EU;have HG:=fun w1=>Ba k hk wy ng w1
 have HN:=fun w1=>lV k hk wy 8 w1
 unfold dsk at HG HN⊢
 rcases qt hk with h|h|h
 ·rw[h,if_pos rfl]
  exact UY _ _ _ _ _ _ _ _ w
 ·rw[h] at HG⊢
  rw[if_neg (by decide),if_pos rfl];refine U0 _ _ (rdN k^dgN k-1) (bare ⟨ng,rdN k^dgN k-1,(ai (rdN k):Int)*gsI k⟩) _ _ _ _ _ _ _ _ _ w (fun w1 _=>HG w1) (fun mo mc w1 b r=> ?_) (fun xo xc w1=>iK _ _ _ _ _ w1) (fun xo xc w1 r=>mT _ ng xo xc w1 r)
  have hg:=(eR hk).2.2.2.2.2.2.2.2.2.2.2;have hs:=Af (s:=ng) hg (EV hk);refine(IY _ _ _ _ _ _ 0 _ _ _ _ _ (bare ⟨ng,rdN k^dgN k-1,(ai (rdN k):Int)*gsI k⟩) w1 (fun w2 b2=> ?_)).mono (fun z w' hz=> ?_)
  ·have:=kB (rdN k) (dgN k) (lsI k) (gsI k) (decide (k≤3)) ng mo mc (Dg.dg 4294967296 (rdN k^dgN k-1)) (gsI k) false false false w2 (r.l b2) (Dg.small_dg _ _ (by omega)) (hT.l (aa b b2))
   rw[hs] at this;exact this
  ·obtain⟨v,h1,h2,-,h3⟩:=hz
   exact⟨v,h1,h2,h3⟩
 ·rw[h,if_neg (by decide),if_neg (by decide)]
  unfold noV;rw[h] at HN⊢;exact UZ _ _ _ _ _ _ _ _ _ w HN
theorem TO {x y:ak}(hx:iZ x)(hy:iZ y):sH (cK x y 128):=by
 obtain⟨x1,x2,x3⟩:=hx;obtain⟨y1,y2,y3⟩:=hy;have hb:=bF _ _ y1;have ha:=bF _ _ x1;have hS:gV x y 128≤192∧bitLen x.n+gV x y 128≤192:=by unfold gV;omega
 have h1:x.n*2^gV x y 128/y.n<2^192:=by
  refine Nat.lt_of_le_of_lt (Nat.div_le_self _ _) ?_;refine zw (a:=bitLen x.n+gV x y 128) ?_ hS.2;rw[Nat.pow_add];exact Nat.mul_lt_mul_of_pos_right (wZ (Nat.le_refl _)) (bG _)
 have h2:(cK x y 128).n<2^193:=by
  show x.n*2^gV x y 128/y.n*2+(if _ then 1 else 0)<2^193
  have e:2^193=2^192*2:=Nat.pow_succ ..
  split<;>omega
 have h3:=bF _ _ h2;have he:(cK x y 128).e=x.e-y.e-(gV x y 128:Int)-1:=rfl;exact⟨by omega,by omega⟩
theorem Hg (k:Nat)(hk:1≤k∧k≤8)(wy cx cy:Int)(gx gy:Bool)(x y:ak)(xo yo:Option Addr)(xc yc:Nat)(w:World)(rx:rdT w x xo xc)(ry:rdT w y yo yc)(sx:iZ x)(sy:iZ y)(hy0:cy≠1→cy≠3→y.n≠0)(hT:Tab w):
  yC 54 #[dsk k wy,opV cx gx x xo xc,opV cy gy y yo yc] w (RE w (wu k cx gx x cy gy y)):=by
 have HT:=fun(h:y.n≠0) w1 (b:yB w w1)=>Jw _ _ x y 128 w1 ⟨_,rfl,rx.l b⟩ ⟨_,rfl,ry.l b⟩ (Nat.pos_of_ne_zero h) (jq sx.1 (by omega)) (jq sy.1 (by omega)) (by have:=sx.2;omega) (by have:=sx.2;omega) (by have:=sy.2;omega) (by have:=sy.2;omega) (by omega)
 have HM:=fun uo uc w1 h=>mT (cK x y 128) (gx != gy) uo uc w1 h
 unfold wu
 by_cases hx:cx=3
 ·subst hx
  by_cases hy:cy=3
  ·subst hy
   rw[if_pos (.inl ⟨rfl,rfl⟩)];exact K6 _ _ _ _ _ _ _ _ _ _ _ _ _ _ _ _ _ w (fun w1=>lV k hk wy 16 w1)
  ·rw[if_neg (by omega),if_pos rfl]
   exact K8 _ _ _ _ _ _ _ _ _ _ _ _ _ _ _ _ _ w (ne3 hy)
 ·by_cases hy:cy=3
  ·subst hy
   rw[if_neg (by omega),if_neg hx,if_pos rfl]
   by_cases h1:cx=1
   ·subst h1
    exact K9 _ _ _ _ _ _ _ _ _ _ _ _ _ _ _ _ w
   ·exact La _ _ _ _ _ _ _ _ _ _ _ _ _ _ _ _ _ w (ne3 hx) (ne1 h1)
  ·by_cases h1:cy=1
   ·subst h1
    by_cases h2:cx=1
    ·subst h2
     rw[if_pos (.inr ⟨rfl,rfl⟩)];exact K7 _ _ _ _ _ _ _ _ _ _ _ _ _ _ _ _ _ w (fun w1=>lV k hk wy 16 w1)
    ·rw[if_neg (by omega),if_neg hx,if_neg hy,if_pos rfl]
     exact Lb _ _ _ _ _ _ _ _ _ _ _ _ _ _ _ _ _ _ _ _ _ w (ne3 hx) (ne1 h2) (fun w1 b=>Mb k hk wy (gx != gy) w1 (hT.l b))
   ·rw[if_neg (by omega),if_neg hx,if_neg hy,if_neg h1]
    by_cases h2:cx=1
    ·subst h2
     exact Lc _ _ _ _ _ _ _ _ _ _ _ _ _ _ _ _ _ _ _ _ _ w (ne3 hy) (ne1 h1) (HT (hy0 h1 hy)) HM
    ·exact H8 _ _ _ _ _ _ _ _ _ _ _ _ _ _ _ _ _ _ _ _ _ _ w (ne3 hx) (ne1 h2) (ne3 hy) (ne1 h1) (HT (hy0 h1 hy)) HM
theorem fam_one {k:Nat}(hk:1≤k∧k≤8):dK k=1↔k≤3:=by
 rcases bO hk with rfl|rfl|rfl|rfl|rfl|rfl|rfl|rfl<;>decide
structure Rnd (k:Nat) (P:fz):Prop where
 plc:Plc k P
 nil0:P.d=0→P.p=0
 spot:P.ov=false→ ¬(P.un=true∧P.p<lsI k)→P.d≠0→ia (rdN k) (dgN k) (lsI k) (gsI k) (decide (k≤3)) P.d P.p
theorem rnd_of {k:Nat}(hk:1≤k∧k≤8)(s:Bool)(N M:Nat)(E way:Int)(hN:N≠0)(hM:M≠0):Rnd k (cI (rdN k) (dgN k) (lsI k) (gsI k) (decide (k≤3)) s N M E way):=by
 obtain⟨-,-,d1,-,l1,l0,lg,g2,w64,-,ww,hg⟩:=eR hk;have hD:(1:Int)≤(dgN k:Int):=by omega
 have hfk:=fam_one hk;have hrs:=nW (R:=(rdN k:Int)) (D:=(dgN k:Int)) (L:=lsI k) (G:=gsI k) (gr:=decide (k≤3)) (qs:=s) (N:=N) (M:=M) (E:=E) (way:=way) hD lg hN hM;rw[kJ _ s N M E way hD lg hN hM] at hrs⊢;have hwl:=rP (rdN k) (dgN k) (lsI k) (decide (k≤3)) N M E hD hN hM;have hwp:=Vf (rdN k) (dgN k) (lsI k) (decide (k≤3)) N M E hD hN hM;have hds:=uh (rdN k) (dgN k) (lsI k) (decide (k≤3)) N M E hD hN hM (dj (rdN k) (dgN k) (lsI k) (decide (k≤3)) N M E);have hdz:=CD (rdN k) (dgN k) (fM (rdN k) (dgN k) (lsI k) (decide (k≤3)) s N M E way);have hdg:=KL (rdN k) (dgN k) (lsI k) (decide (k≤3)) s N M E way;have hd1:fM (rdN k) (dgN k) (lsI k) (decide (k≤3)) s N M E way≤cH (rdN k) (dgN k) (lsI k) (decide (k≤3)) N M E+1:=by
  unfold fM
  split<;>omega
 have hdn:gF (rdN k) (dgN k) (lsI k) (decide (k≤3)) N M E=0→fM (rdN k) (dgN k) (lsI k) (decide (k≤3)) s N M E way=cH (rdN k) (dgN k) (lsI k) (decide (k≤3)) N M E:=fun h=>by
  unfold fM;rw[if_neg (fun c=>of_decide_eq_false c.1 h)]
 have hcut:(k≤3→lsI k≤dj (rdN k) (dgN k) (lsI k) (decide (k≤3)) N M E)∧(¬k≤3→dj (rdN k) (dgN k) (lsI k) (decide (k≤3)) N M E=aT (rdN k) (dgN k) (dY N M E)):=by
  unfold dj;refine⟨fun h=> ?_,fun h=> ?_⟩
  ·rw[decide_eq_true h,Bool.and_true]
   split
   ·exact Int.le_refl _
   ·rename_i c
    simpa using c
  ·rw[decide_eq_false h,Bool.and_false,if_neg (by decide)]
 have hcP:gD (rdN k) (dgN k) (fM (rdN k) (dgN k) (lsI k) (decide (k≤3)) s N M E way) (dj (rdN k) (dgN k) (lsI k) (decide (k≤3)) N M E)=dj (rdN k) (dgN k) (lsI k) (decide (k≤3)) N M E∨(gD (rdN k) (dgN k) (fM (rdN k) (dgN k) (lsI k) (decide (k≤3)) s N M E way) (dj (rdN k) (dgN k) (lsI k) (decide (k≤3)) N M E)=dj (rdN k) (dgN k) (lsI k) (decide (k≤3)) N M E+1∧io (rdN k) (dgN k) (fM (rdN k) (dgN k) (lsI k) (decide (k≤3)) s N M E way)=2^ (ai (rdN k)*((dgN k:Int)-1).toNat)):=by
  unfold gD io
  split
  ·exact .inr ⟨rfl,rfl⟩
  ·exact .inl rfl
 have hpw:2^ (ai (rdN k)*((dgN k:Int)-1).toNat)<2^ (ai (rdN k)*(dgN k:Int).toNat):=by
  refine Nat.pow_lt_pow_right (by omega) (Nat.mul_lt_mul_of_pos_left ?_ (by omega));omega
 have hcl:io (rdN k) (dgN k) (fM (rdN k) (dgN k) (lsI k) (decide (k≤3)) s N M E way)<2^ (ai (rdN k)*(dgN k:Int).toNat):=by
  unfold io
  split
  ·exact hpw
  ·omega
 have hlen:(Dg.dg 65536 (io (rdN k) (dgN k) (fM (rdN k) (dgN k) (lsI k) (decide (k≤3)) s N M E way))).length≤100000:=by
  refine Nat.le_trans (Dg.dg_len_le 65536 _ 4 (by omega) (Nat.lt_of_lt_of_le hcl ?_)) (by omega);rw[Int.toNat_natCast];exact Nat.le_trans (Nat.pow_le_pow_right (by omega) w64) (by decide)
 generalize fM (rdN k) (dgN k) (lsI k) (decide (k≤3)) s N M E way=dg at*;generalize dj (rdN k) (dgN k) (lsI k) (decide (k≤3)) N M E=ct at*;generalize aT (rdN k) (dgN k) (dY N M E)=pw at*;generalize cH (rdN k) (dgN k) (lsI k) (decide (k≤3)) N M E=wh at*;generalize gF (rdN k) (dgN k) (lsI k) (decide (k≤3)) N M E=lf at*;generalize hcPe:gD (rdN k) (dgN k) dg ct=cp at*;generalize hcDe:io (rdN k) (dgN k) dg=cd at*;have hpos: ¬k≤3→cd≠0:=fun h c=>by
  have:=hwp (hcut.2 h);have:=hdz.1 c;omega
 refine⟨⟨fun hf hl=> ?_,fun hf ho hu he=> ?_,fun ho hd=> ?_,hlen,fun ho=> ?_⟩,fun hd=>if_pos hd,fun ho hnl hd=> ?_⟩
 ·simp only at hl
  have h3:=hfk.1 hf;have:=hcut.1 h3
  exfalso
  split at hl<;>omega
 ·simp only at ho hu he⊢
  have h3: ¬k≤3:=fun c=>hf (hfk.2 c)
  have e1:=hdn (of_decide_eq_true he);have e2:=hcut.2 h3;have e3:=of_decide_eq_true hu;rw[if_neg (hpos h3)];rw[e1,hds.2] at hcPe;omega
 ·exact hfk.2 (Decidable.byContradiction fun h3=>hpos h3 hd)
 ·simp only at ho⊢
  have hG:=of_decide_eq_false ho
  by_cases h3:k≤3
  ·have:=hcut.1 h3
   right
   split<;>omega
  ·rw[if_neg (hpos h3)]
   have e2:=hcut.2 h3
   by_cases hl:cp<lsI k
   ·left
    exact⟨decide_eq_true (by omega),hl⟩
   ·right
    omega
 ·simp only at ho hnl hd⊢
  rw[if_neg hd] at hnl⊢
  by_cases h3:k≤3
  ·have:=hrs ho (.inr (decide_eq_true h3))
   rw[if_neg hd] at this;exact this
  ·by_cases hu:pw<lsI k
   ·have e2:=hcut.2 h3
    have hl: ¬cp<lsI k:=fun c=>hnl ⟨decide_eq_true hu,c⟩
    have hG:=of_decide_eq_false ho;obtain⟨c1,c2⟩:=hcP.resolve_left (by omega);exact .inr ⟨hd,by omega,by omega,hcl,.inl (by omega)⟩
   ·have:=hrs ho (.inl (decide_eq_false hu))
    rw[if_neg hd] at this;exact this
def SameV (k:Nat)(r:ByteArray×Int×Int)(v:Int×Bool×ak×Int):Prop:=
 r.2.2=0∧r.2.1=v.2.2.2∧ ∀so sc w,Rd w .i64 (yS so v.2.2.1.n sc) (Dg.dg 65536 v.2.2.1.n)→yC 37 #[yi k,yoV v.1 v.2.1 v.2.2.1.s (yS so v.2.2.1.n sc) v.2.2.1.e] w (yR w (.string r.1))
theorem same_num {k:Nat}(hk:1≤k∧k≤8)(g:Bool){m:Nat}{p:Int}(fl:Int)(hm:m≠0)(hs:ia (rdN k) (dgN k) (lsI k) (gsI k) (decide (k≤3)) m p):SameV k (Dw k 2 g m p fl) (2,g,bare ⟨g,m,(ai (rdN k):Int)*p⟩,fl):=by
 obtain⟨-,-,d1,-,-,-,lg,-,w64,-,-,hg⟩:=eR hk;obtain⟨l15,p1,p2,w1',w2',t480⟩:=qj hg hs;have hh:=mI (s:=g) hg hs;have hc:chk (Dg.dg 4294967296 m)=0:=pJ (Dg.norm_dg _ _ (by omega)) (by omega);have hl0:(Dg.dg 4294967296 m).length≠0:=fun c=>hm ((Dg.dg_nil_iff 4294967296 _ (by omega)).1 (List.length_eq_zero_iff.1 c))
 have hsh:=Af (s:=g) hg hs;have hb0:(bare ⟨g,m,(ai (rdN k):Int)*p⟩).n≠0:=fun c=>hm ((fI _).1 c)
 have hbs:(bare ⟨g,m,(ai (rdN k):Int)*p⟩).s=g:=by unfold bare;rw[if_neg hm]
 have hE:enE k g (Dg.dg 4294967296 m) p=0:=by
  rw[mY hk hc hl0 (by omega),Dg.vl_dg _ _ (by omega),jK _ _ lg];rw[nN _ _ lg] at hh;rw[hh,if_pos rfl]
 have hS:fq k 2 g (Dg.dg 4294967296 m) p=cF (kU k g (heE (rdN k) (lsI k) (gW k) (plT k g (bare ⟨g,m,(ai (rdN k):Int)*p⟩).n (bare ⟨g,m,(ai (rdN k):Int)*p⟩).e)) (plT k g (bare ⟨g,m,(ai (rdN k):Int)*p⟩).n (bare ⟨g,m,(ai (rdN k):Int)*p⟩).e).d):=by
  have hN:enN k g (Dg.dg 4294967296 m) p=(bare ⟨g,m,(ai (rdN k):Int)*p⟩,0):=hsh;have hps:(plT k g (bare ⟨g,m,(ai (rdN k):Int)*p⟩).n (bare ⟨g,m,(ai (rdN k):Int)*p⟩).e).s=g:=(oj (s:=g) (way:=3) (by omega) lg hb0 hh).1;rw[(xH hk hc).2];unfold enS;rw[if_pos hE,hN];simp only;rw[hbs,hps]
 unfold Dw;rw[(xH hk hc).1,hE,if_pos rfl,hS];refine⟨rfl,rfl,fun so sc w hr=> ?_⟩
 simp only at hr⊢;have hbn:=kR ⟨g,m,(ai (rdN k):Int)*p⟩;obtain⟨b1,b2,b3⟩:=gN (t:=⟨g,m,(ai (rdN k):Int)*p⟩) hm;simp only at b2 hbn;have hlen:(Dg.dg 65536 (bare ⟨g,m,(ai (rdN k):Int)*p⟩).n).length≤20000:=by
  have hlt:m<4294967296^15:=by
   have:=Dg.vl_lt 4294967296 _ (Dg.small_dg 4294967296 m (by omega));rw[Dg.vl_dg _ _ (by omega)] at this;exact Nat.lt_of_lt_of_le this (Nat.pow_le_pow_right (by omega) l15)
  refine Nat.le_trans (Dg.dg_len_le 65536 _ 30 (by omega) (Nat.lt_of_le_of_lt hbn (Nat.lt_of_lt_of_le hlt ?_))) (by omega);exact Nat.le_of_eq (by rw[show(4294967296:Nat)=65536^2 from rfl,←Nat.pow_mul])
 exact Bu k hk g g _ so _ sc _ w hr hlen (by omega) (by omega) hb0 hh
theorem same_oth {k:Nat}(hk:1≤k∧k≤8){c:Nat}(hc:c=1∨c=3∨c=4∨c=5)(g:Bool)(fl:Int)(hs:iR k c=true)(hg:g=true→Bk k c=true):SameV k (Dw k c g 0 0 fl) ((c:Int),g,⟨false,0,0⟩,fl):=by
 have hf: ¬(dK k=0∨(c:Int)<1∨5< (c:Int)):=by
  rcases qt hk with h|h|h<;>omega
 have ho:qX k c 0 g 0=0:=by
  unfold qX;rw[if_neg (by rw[hs];decide),if_neg];rintro(h|h|h)
  ·omega
  ·exact h rfl
  ·rw[hg h.1] at h
   exact absurd h.2 (by decide)
 have hE:gI k c g (Dg.dg 4294967296 0) 0=0:=by
  unfold gI;rw[if_neg hf,if_neg (fun h=>h (by decide)),if_neg (by omega),Int.toNat_natCast,Int.toNat_natCast]
  exact ho
 have hS:fq k c g (Dg.dg 4294967296 0) 0=cF (kU k (pI k c||g) (pg k c) (lS k c)):=by
  unfold fq Fv;rw[if_neg hf,if_neg (fun h=>h (by decide)),if_neg (by omega),Int.toNat_natCast,Int.toNat_natCast]
  exact if_pos ho
 unfold Dw;rw[hE,if_pos rfl,hS];exact⟨rfl,rfl,fun so sc w hr=>Bt k c hk hc hs g false so 0 sc 0 w⟩
theorem same_plc {k:Nat}(hk:1≤k∧k≤8)(wy:Int)(P:fz)(h:Rnd k P):SameV k (Dw k (pG k wy P).1 (pG k wy P).2.1 (pG k wy P).2.2.1 (pG k wy P).2.2.2.1 (bits .or .i64 0 (pG k wy P).2.2.2.2)) (plV k wy P):=by
 have hp1:rdN k^dgN k-1≠0:=by
  rcases bO hk with rfl|rfl|rfl|rfl|rfl|rfl|rfl|rfl<;>decide
 have b5:bits .or .i64 0 5=5:=rfl;have b3:bits .or .i64 0 3=3:=rfl;unfold pG plV
 by_cases ho:P.ov=true
 ·simp only[if_pos ho]
  unfold ovV;rw[b5]
  rcases qt hk with hf|hf|hf
  ·have h3: ¬dK k=3:=by omega
   simp only[if_neg h3]
   by_cases hb:aaV wy P.s=true
   ·have hc:dK k=1∧aaV wy P.s=true:=⟨hf,hb⟩
    simp only[if_pos hc];have h3:=(fam_one hk).1 hf;exact same_oth hk (c:=3) (by decide) P.s 5 (by simp[iR,h3]) (fun _=>rfl)
   ·have hc: ¬(dK k=1∧aaV wy P.s=true):=fun c=>hb c.2
    simp only[if_neg hc];exact same_num hk P.s 5 hp1 (EV hk)
  ·have h3: ¬dK k=3:=by omega
   have hc: ¬(dK k=1∧aaV wy P.s=true):=fun c=>by omega
   simp only[if_neg h3,if_neg hc];exact same_num hk P.s 5 hp1 (EV hk)
  ·simp only[if_pos hf]
   have h6:6≤k:=by
    revert hf
    rcases bO hk with rfl|rfl|rfl|rfl|rfl|rfl|rfl|rfl<;>decide
   exact same_oth hk (c:=5) (by decide) false 5 (by simp[iR,h6]) (fun c=>by cases c)
 simp only[if_neg ho]
 by_cases hl:P.un=true∧P.p<lsI k
 ·simp only[if_pos hl]
  rw[b3];exact same_oth hk (c:=1) (by decide) false 3 rfl (fun c=>by cases c)
 simp only[if_neg hl];have hfl:bits .or .i64 0 (if P.ex=true then 0 else if P.un=true then 3 else 1)=(if P.ex=true then 0 else if P.un=true then 3 else 1):=by
  split
  ·rfl
  ·split<;>rfl
 rw[hfl]
 by_cases hd:P.d=0
 ·simp only[if_pos hd]
  rw[hd,h.nil0 hd];have h3:=(fam_one hk).1 (h.plc.nil (by simpa using ho) hd);exact same_oth hk (c:=1) (by decide) P.s _ rfl (fun _=>by simp[Bk];omega)
 ·simp only[if_neg hd]
  exact same_num hk P.s _ hd (h.spot (by simpa using ho) hl hd)
def nthV (k:Nat)(fl:Int):Int×Bool×ak×Int:=(AZ (dK k),false,⟨false,0,0⟩,fl)
theorem same_off {k:Nat}(hk:1≤k∧k≤8)(way fl:Int):SameV k (m8 k way (AZ (dK k)) false ⟨false,0,0⟩ fl) (nthV k fl):=by
 unfold m8 nthV;rw[if_neg (show¬AZ (dK k)=2 from fun h=>vN (k:=k) (fl:=0) h)]
 have key: ∀c:Nat,AZ (dK k)=(c:Int)→(c=1∨c=3∨c=4∨c=5)→iR k c=true→SameV k (Dw k (c:Int) false 0 0 fl) ((c:Int),false,⟨false,0,0⟩,fl):=fun c _ hc hs=>same_oth hk hc false fl hs (fun c=>by cases c)
 rcases qt hk with hf|hf|hf
 ·have e:AZ (dK k)=((4:Nat):Int):=by rw[hf];rfl
  rw[e,if_neg (by decide)];exact key 4 e (by decide) (by have:=(fam_one hk).1 hf;simp[iR,this])
 ·have e:AZ (dK k)=((1:Nat):Int):=by rw[hf];rfl
  rw[e,if_pos (by decide)];exact key 1 e (by decide) rfl
 ·have e:AZ (dK k)=((5:Nat):Int):=by rw[hf];rfl
  rw[e,if_neg (by decide)];have h6:6≤k:=by
   revert hf
   rcases bO hk with rfl|rfl|rfl|rfl|rfl|rfl|rfl|rfl<;>decide
  exact key 5 e (by decide) (by simp[iR,h6])
theorem same_inf {k:Nat}(hk:1≤k∧k≤8)(h3:k≤3)(way:Int)(g:Bool)(t:ak)(fl:Int):SameV k (m8 k way 3 g t fl) (3,g,⟨false,0,0⟩,fl):=by
 unfold m8;rw[if_neg (by decide),if_neg (by decide)];exact same_oth hk (c:=3) (by decide) g fl (by simp[iR,h3]) (fun _=>rfl)
theorem same_nil {k:Nat}(hk:1≤k∧k≤8)(way:Int)(g:Bool)(t:ak)(fl:Int):SameV k (m8 k way 1 g t fl) (1,g&&decide (dK k=1),⟨false,0,0⟩,fl):=by
 unfold m8;rw[if_neg (by decide),if_pos rfl];refine same_oth hk (c:=1) (by decide) _ fl rfl (fun h=> ?_)
 have:=(fam_one hk).1 (of_decide_eq_true (Bool.and_eq_true_iff.1 h).2);simp[Bk];omega
theorem same_fit {k:Nat}(hk:1≤k∧k≤8)(way:Int)(g:Bool)(t:ak)(h0:t.n≠0):SameV k (m8 k way 2 g t 0) (plV k way (fY k way t)):=by
 unfold m8;rw[if_pos rfl];exact same_plc hk way _ (rnd_of hk t.s t.n 1 t.e way h0 (by omega))
theorem way_is {way:Int}:iC way=true↔1≤way∧way≤5:=by
 unfold iC;simp
theorem rec_wrong {n way:Int}{ps:List ByteArray}(f:Int×Bool×ak×Int)(h:CK n way ps≠0):jV n way ps f=(⟨#[]⟩,0,CK n way ps):=by
 unfold CK at h⊢;unfold jV
 by_cases hf:dK n=0
 ·rw[if_pos hf,if_pos hf]
 rw[if_neg hf] at h⊢;rw[if_neg hf]
 by_cases he:fT n ps=0
 ·rw[if_pos he] at h⊢
  rw[if_neg (fun c=>c he)]
  cases hw:iC way
  ·rw[if_pos (by
    have: ¬(1≤way∧way≤5):=fun c=>by rw[way_is.2 c] at hw;cases hw
    omega)]
   rfl
  ·rw[hw] at h
   exact absurd rfl h
 ·rw[if_neg he,if_pos he]
theorem opn_right {n way:Int}{ps:List ByteArray}(h:CK n way ps=0): ∃k:Nat,(1≤k∧k≤8)∧n=(k:Int)∧dK n≠0∧fT n ps=0∧1≤way∧way≤5:=by
 unfold CK at h
 by_cases hf:dK n=0
 ·rw[if_pos hf] at h
  exact absurd h (by decide)
 rw[if_neg hf] at h;obtain⟨k1,k2,k3⟩:=fF hf;refine⟨n.toNat,⟨k1,k2⟩,k3.symm,hf, ?_⟩
 by_cases he:fT n ps=0
 ·rw[if_pos he] at h
  cases hw:iC way
  ·rw[hw] at h
   exact absurd h (by decide)
  ·exact⟨he,way_is.1 hw⟩
 ·rw[if_neg he] at h
  exact absurd h he
theorem rec_right {k:Nat}{way:Int}{ps:List ByteArray}(f:Int×Bool×ak×Int)(hf:dK k≠0)(he:fT k ps=0)(hw:1≤way∧way≤5):jV k way ps f=if ps.any (dO k)=true then m8 k way (AZ (dK k)) false ⟨false,0,0⟩ (if dK k=1 then 0 else 16) else m8 k way f.1 f.2.1 f.2.2.1 f.2.2.2:=by
 unfold jV;rw[if_neg hf,if_neg (by omega),if_neg (by omega),Int.toNat_natCast]
theorem inf_few {k:Nat}{a:ByteArray}(ha:dF k a=0)(h:bM k a=3):k≤3:=by
 refine Decidable.byContradiction fun h3=> ?_
 revert h
 unfold bM;rw[if_pos ha,Int.toNat_natCast];unfold dh;rw[if_neg h3]
 split
 ·split<;>omega
 ·split
  ·split<;>omega
  ·omega
theorem Wd (J:Nat)(s:Bool)(d:Nat)(k:Int):V J ⟨s,d,k⟩=if s=true then-((d*2^ (k+J).toNat:Nat):Int) else((d*2^ (k+J).toNat:Nat):Int):=by
 rw[eV];unfold sz
 cases s<;>simp
theorem OP {K:Nat}{a b:ak}(ha: -(K:Int)≤a.e)(hb: -(K:Int)≤b.e):dJ (aG a (dV b))=sgn (V K a-V K b):=by
 have h1:V K (aG a (dV b))=V K a-V K b:=by rw[dH ha (by exact hb),pC];omega
 rw[←h1,Di];rfl
theorem OQ (z:Int):(z<0↔sgn z<0)∧(0<z↔0<sgn z)∧(z=0↔sgn z=0):=by
 unfold sgn
 split
 ·omega
 ·split<;>omega
def Wl (n:Int)(a b:ByteArray):Int×Bool×ak×Int:=wu n.toNat ((bM n a:Nat):Int) (dz n a) (opT n a) ((bM n b:Nat):Int) (dz n b) (opT n b)
theorem Tg {k:Nat}(hk:1≤k∧k≤8){ng:Bool}(h:(EU k ng).1=2):(EU k ng).2.2.1.n≠0∧sH (EU k ng).2.2.1:=by
 obtain⟨f1,f2,f3,f4,f5,f6⟩:=qj (eR hk).2.2.2.2.2.2.2.2.2.2.2 (EV hk);unfold EU at h⊢
 by_cases c1:dK k=1
 ·rw[if_pos c1] at h
  simp at h
 rw[if_neg c1] at h⊢
 by_cases c2:dK k=2
 ·rw[if_pos c2] at h⊢
  refine xt (sg:=ng) ?_ h;have hb:bitLen (rdN k^dgN k-1)≤32*15:=gf f1;have hp:rdN k^dgN k-1≠0:=by rcases bO hk with rfl|rfl|rfl|rfl|rfl|rfl|rfl|rfl<;>decide
  obtain⟨t1,t2,t3⟩:=gN (t:=⟨ng,rdN k^dgN k-1,(ai (rdN k):Int)*gsI k⟩) hp;refine⟨?_, ?_⟩
  ·rw[t2]
   show-50000≤(ai (rdN k):Int)*gsI k+((tz (rdN k^dgN k-1):Nat):Int)
   omega
  ·rw[t3]
   show(ai (rdN k):Int)*gsI k+((bitLen (rdN k^dgN k-1):Nat):Int)≤50000
   omega
 ·rw[if_neg c2] at h
  exact(vN h).elim
theorem Th {k:Nat}(hk:1≤k∧k≤8){cx cy:Int}{gx gy:Bool}{x y:ak}(hn:sH (cK x y 128))(h:(wu k cx gx x cy gy y).1=2):(wu k cx gx x cy gy y).2.2.1.n≠0∧sH (wu k cx gx x cy gy y).2.2.1:=by
 unfold wu at h⊢
 by_cases c1:cx=3∧cy=3∨cx=1∧cy=1
 ·rw[if_pos c1] at h
  exact(vN h).elim
 rw[if_neg c1] at h⊢
 by_cases c2:cx=3
 ·rw[if_pos c2] at h
  simp at h
 rw[if_neg c2] at h⊢
 by_cases c3:cy=3
 ·rw[if_pos c3] at h
  simp at h
 rw[if_neg c3] at h⊢
 by_cases c4:cy=1
 ·rw[if_pos c4] at h⊢
  exact Tg hk h
 ·rw[if_neg c4] at h⊢
  exact xt hn h
theorem Jx (n way:Int)(a b:ByteArray)(w:World)(hT:Tab w):yC 27 #[yi n,.string a,.string b,yi way] w (mM (jV n way [a,b] (Wl n a b)) w):=by
 refine aeS n way _ _ a b _ w (fun pb w1 b1 hl=> ?_)
 refine nQ n way [a,b] _ _ pb w1 (by simp) (by simp) hl (enter_of func53 (by kernel_rfl) rfl) (hT.l b1) (fun k hk hn he hN=> ?_)
 subst hn;unfold Wl;rw[Int.toNat_natCast];have hpb:=eU he b (by simp);obtain⟨sa,-,-⟩:=ir hk (eU he a (by simp));obtain⟨sb,-,zb⟩:=ir hk hpb;have cb:=zl hpb;have nb:dO (k:Int) b=false:=by
  simp only[List.any_cons,List.any_nil,Bool.or_false,Bool.or_eq_false_iff] at hN;exact hN.2
 have nb': ¬(bM (k:Int) b=4∨bM (k:Int) b=5):=by
  unfold dO at nb;exact of_decide_eq_false nb
 refine⟨fun h=>Th hk (TO sa sb) h,fun g cap w2 b2 h=> ?_⟩
 obtain⟨xo,xc,r0,k0⟩:=h.each 0 a rfl;obtain⟨yo,yc,r1,k1⟩:=h.each 1 b rfl;exact adc _ _ _ _ _ _ _ _ _ _ _ _ _ _ _ _ _ _ _ _ _ _ _ _ w2 r0 r1 (fun w3 b3=>Hg k hk way _ _ _ _ _ _ _ _ _ _ w3 (k0.l b3) (k1.l b3) sa sb (fun h1 h3=>zb (by omega)) ((hT.l b1).l (aa b2 b3)))
end Go.Proofs.YtbdokgamhinajaaGreatDoor
