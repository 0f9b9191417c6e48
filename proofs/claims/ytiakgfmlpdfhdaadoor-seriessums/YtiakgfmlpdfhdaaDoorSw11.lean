/-
  Texts laid together: Sp10, Sr1, Sr2, Sr3, Sr4, Sr5.
-/
import Derived.Test.YtiakgfmlpdfhdaaDoorSw10
import Derived.Test.YtiakgfmlpdfhdaaDoorSw06
import Derived.Test.YtiakgfmlpdfhdaaDoorSw07
set_option maxHeartbeats 1600000
namespace Go.Proofs.YtiakgfmlpdfhdaaDoor
open Go.RowKit
def XLn:Nat:=18*XA 26 0 1120+8*XA 8749 0 1120-2*XA 4801 0 1120
theorem lies_I {n tn b D:Nat}(hn:2≤n)(ht:tn≤1)(hb:10≤b∧b≤1000)(hD:2^ (1120-(b+64))=D):(XA n tn (b+64):Int)*(D:Int)≤(XA n tn 1120:Int)+((3+3*NA n tn (b+64):Nat):Int)*(D:Int)∧(XA n tn 1120:Int)≤(XA n tn (b+64):Int)*(D:Int)+((3+3*NA n tn (b+64):Nat):Int)*(D:Int)∧((3+3*NA n tn (b+64):Nat):Int)≤4000:=by
 obtain⟨p1,p2,p3⟩:=inv_lies hn ht hb;rw[hD] at p1 p2;refine⟨?_, ?_,by omega⟩
 ·rw[←Int.natCast_mul,←Int.natCast_mul,←Int.natCast_add];exact Int.ofNat_le.2 p1
 ·rw[←Int.add_mul,←Int.natCast_add,←Int.natCast_mul];exact Int.ofNat_le.2 p2
theorem ln_tell {b:Nat}(hb:10≤b∧b≤1000)(hX:chkN XLn=true)(hL:1119≤Nat.log2 XLn):
  ∃c q B,2^b≤2*c∧c<2^b∧((c*2^q:Nat):Int)≤V (b+64) (lnLo (b+64))∧V (b+64) (lnLo (b+64))≤V (b+64) (lnHi (b+64))∧V (b+64) (lnHi (b+64))< (((c+1)*2^q:Nat):Int)∧(c+1)*2^q≤2^B∧B≤9000∧GoodB XLn b (bare (aY (lnLo (b+64)) b false)) (bare (aY (lnHi (b+64)) b true)):=by
 obtain⟨L,L1,L2,L0,L3,L4,-⟩:=chk_len hX;obtain⟨-,⟨v1,v2⟩,⟨-,-,-,-,e1,e2⟩,-⟩:=ln_V (b+64);obtain⟨D,hD⟩: ∃D,2^ (1120-(b+64))=D:=⟨_,rfl⟩;obtain⟨p1,p2,p3⟩:=lies_I (n:=26) (tn:=0) (by omega) (by omega) hb hD;obtain⟨q1,q2,q3⟩:=lies_I (n:=4801) (tn:=0) (by omega) (by omega) hb hD;obtain⟨r1,r2,r3⟩:=lies_I (n:=8749) (tn:=0) (by omega) (by omega) hb hD;have h16:2*XA 4801 0 1120≤18*XA 26 0 1120+8*XA 8749 0 1120:=by
  have:XLn≠0:=by
   intro e;rw[e] at hL;simp at hL
  unfold XLn at this;omega
 have hXI:(XLn:Int)=18*(XA 26 0 1120:Int)+8*(XA 8749 0 1120:Int)-2*(XA 4801 0 1120:Int):=by
  unfold XLn;rw[Int.ofNat_sub h16];omega
 obtain⟨lo,hlo⟩: ∃x,V (b+64) (lnLo (b+64))=x:=⟨_,rfl⟩;obtain⟨hi,hhi⟩: ∃x,V (b+64) (lnHi (b+64))=x:=⟨_,rfl⟩;rw[hlo] at v1;rw[hhi] at v2;clear h16;generalize(XA 26 0 1120:Int)=X1 at*;generalize(XA 4801 0 1120:Int)=X2 at*;generalize(XA 8749 0 1120:Int)=X3 at*;generalize((3+3*NA 26 0 (b+64):Nat):Int)=w1 at*;generalize((3+3*NA 4801 0 (b+64):Nat):Int)=w2 at*;generalize((3+3*NA 8749 0 (b+64):Nat):Int)=w3 at*;generalize(XA 26 0 (b+64):Int)=x1 at*;generalize(XA 4801 0 (b+64):Int)=x2 at*;generalize(XA 8749 0 (b+64):Int)=x3 at*;have z1:lo*(D:Int)≤(XLn:Int):=by
  rw[v1,hXI];simp only[Int.sub_mul,Int.add_mul,Int.mul_assoc];clear v1 v2 hXI e1 e2 hX hL L3 L4;omega
 have z2:(XLn:Int)≤hi*(D:Int):=by
  rw[v2,hXI];simp only[Int.sub_mul,Int.add_mul,Int.mul_assoc];clear v1 v2 hXI e1 e2 hX hL L3 L4;omega
 have h25:(2:Nat)^23=8388608:=by decide
 have z3:hi≤lo+((2^23:Nat):Int):=by
  rw[h25];omega
 have z4:2^23*D<XLn:=by
  rw[←hD,←Nat.pow_add];exact Nat.lt_of_lt_of_le (Nat.pow_lt_pow_right (by omega) (by omega)) L3
 have z0:=to_nat z2 z3 z4;clear p1 p2 q1 q2 r1 r2 v1 v2 hXI;obtain⟨lN,rfl⟩: ∃n:Nat,lo=(n:Int):=⟨lo.toNat,by omega⟩;have hz:0≤hi:=by
  rcases Int.lt_trichotomy hi 0 with c|c|c
  ·have:=Int.mul_nonpos_of_nonpos_of_nonneg (Int.le_of_lt c) (Int.natCast_nonneg D)
   have:=Int.natCast_nonneg XLn;have:XLn=0:=by omega
   rw[this] at hL;simp at hL
  ·omega
  ·omega
 obtain⟨hN,rfl⟩: ∃n:Nat,hi=(n:Int):=⟨hi.toNat,by omega⟩;rw[←Int.natCast_mul] at z1 z2;refine fam_tell (A:=1119) hX (by omega) hL hb (by omega) (by omega) hlo hhi ?_ ?_ ?_
 ·rw[hD];exact Int.ofNat_le.1 z1
 ·rw[hD];exact Int.ofNat_le.1 z2
 ·exact Int.ofNat_le.1 (by rw[Int.natCast_add];exact z3)
theorem serLn_ex (b:Nat)(hb:10≤b∧b≤1000)(hX:chkN XLn=true)(hL:1119≤Nat.log2 XLn):
  ∃l h,GoodB XLn b l h∧ ∀w,Tab w→yC 13 #[yi b] w (BRd w l h 0):=by
 obtain⟨c,q,B,c1,c2,t1,t2,t3,t4,t5,hG⟩:=ln_tell hb hX hL;obtain⟨-,-,-,-,f1,f2⟩:=ln_fits (b+64) (by omega);obtain⟨-,-,⟨-,-,-,-,e1,e2⟩,-⟩:=ln_V (b+64);exact⟨_,_,hG,fun w hT=>serLn2_W _ _ _ 0 w (fun w1 q1=>told_ln_any _ _ b c q B w1 hb (hT.l q1) f1 f2 (by omega) (by omega) c1 c2 t1 t2 t3 t4 t5 (fun w2 _=>sln_any (b+64) w2 (by omega)))⟩
theorem told_out (b:Int)(f:FuncId)(cp:Array Value)(w:World)(h:b<10∨1000<b):yC 19 #[yi b,.func (.func f) #[] cp] w (BRd w ⟨false,0,0⟩ ⟨false,0,0⟩ 3):=by
 have key:yC 19 #[yi b,.func (.func f) #[] cp] w (yR w (.tuple #[.agg #[.bool false,yN,yi 0,.bool false,yN,yi 0],yi 3])):=by
  by_cases c:b<10
  ·exact told_err b f cp w c
  ·exact told_err2 b f cp w c (by omega)
 refine key.mono ?_;rintro z w1 ⟨rfl,q⟩;exact⟨_,_,rfl,aN _ _,aN _ _,q⟩
theorem serPi_out (b:Int)(w:World)(h:b<10∨1000<b):yC 7 #[yi b] w (BRd w ⟨false,0,0⟩ ⟨false,0,0⟩ 3):=
 serPi_W _ _ b 3 w (fun w1 _=>told_out b _ _ w1 h)
theorem serLn_out (b:Int)(w:World)(h:b<10∨1000<b):yC 13 #[yi b] w (BRd w ⟨false,0,0⟩ ⟨false,0,0⟩ 3):=
 serLn2_W _ _ b 3 w (fun w1 _=>told_out b _ _ w1 h)
theorem bare_nilS {t:ak}(h:(bare t).n=0):bare t=⟨false,0,0⟩:=by
 unfold bare at h⊢
 by_cases c:t.n=0
 ·rw[if_pos c]
 ·rw[if_neg c] at h
  obtain⟨m,hm⟩:=fO c;have:=lI hm;simp only at h;omega
theorem whole_bare {t:ak}{c:Nat}(he:0≤t.e)(hV:V 0 t=(c:Int)):(bare t).s=false∧0≤(bare t).e∧(bare t).n*2^ (bare t).e.toNat=c:=by
 have e1:=dw (K:=0) (a:=t) (by omega);have e2:=eL (K:=0) (a:=t) (by omega);rw[hV] at e1
 rcases Nat.eq_zero_or_pos c with h|h
 ·subst h
  rw[eV] at e1;have hn:(bare t).n=0:=by
   have hp:0<2^ ((bare t).e+((0:Nat):Int)).toNat:=Nat.pow_pos (by omega)
   rcases Nat.eq_zero_or_pos (bare t).n with d|d
   ·exact d
   ·have hm:=Nat.mul_pos d hp
    unfold sz at e1;generalize(bare t).n*2^ ((bare t).e+((0:Nat):Int)).toNat=m at*
    split at e1<;>omega
  rw[bare_nilS hn];exact⟨rfl,by simp,by simp⟩
 ·obtain⟨f1,f2⟩:=V_flat e2 (by omega)
  refine⟨f1,by omega, ?_⟩;rw[e1,show((bare t).e+((0:Nat):Int)).toNat=(bare t).e.toNat by omega] at f2
  omega
theorem two_lenS16 {d k L:Nat}(h:d≤2^k)(hk:k+1≤16*L):(Dg.dg 65536 d).length≤L:=by
 refine Dg.dg_len_le 65536 _ _ (by omega) (Nat.lt_of_le_of_lt h ?_);rw[show(65536:Nat)=2^16 from by decide,←Nat.pow_mul]
 exact Nat.pow_lt_pow_right (by omega) (by omega)
theorem len16_pow {m k:Nat}(h:m≤2^k)(hk:k≤60000):(Dg.dg 65536 m).length≤3800:=two_lenS16 h (by omega)
theorem len16_big {m k:Nat}(h:m≤(k+2)*2^k)(hk:k≤60000):(Dg.dg 65536 m).length≤3800:=two_lenS16 (Nat.le_of_lt (big_pow h hk)) (by omega)
theorem len16_64 {m:Nat}(h:m<9223372036854775808):(Dg.dg 65536 m).length≤5:=two_lenS16 (k:=63) (by omega) (by omega)
theorem pow2S (k m:Nat)(w:World)(h:m≤k)(hk:k≤60000):yC 37 #[yi m] w (cG w (2^m)):=pf m (m/16) (m % 16) w (by omega) (by omega) (by omega)
theorem intoS (k m d:Nat)(v u:Value)(w:World)(hv:Rd w .i64 v (Dg.dg 65536 m))(hu:Rd w .i64 u (Dg.dg 65536 d))(h:0<d∧d<9223372036854775808∧m≤2^k)(hk:k≤60000):yC 36 #[v,u] w (JI w (m/d) (m % d)):=by
 have l1:=len16_pow h.2.2 hk;have l2:=len16_64 h.2.1;exact qM v u m d w hv hu (by omega) (by omega) h.1
theorem rplusS (k a b:Nat)(v u:Value)(w:World)(hv:Rd w .i64 v (Dg.dg 65536 a))(hu:Rd w .i64 u (Dg.dg 65536 b))(h:a≤(k+2)*2^k∧b≤2^k)(hk:k≤60000):yC 34 #[v,u] w (cG w (a+b)):=by
 have l1:=len16_big h.1 hk;have l2:=len16_pow h.2 hk;have:=ew v u _ _ w hv hu (Dg.small_dg _ _ (by omega)) (Dg.small_dg _ _ (by omega)) (Dg.norm_dg _ _ (by omega)) (Dg.norm_dg _ _ (by omega)) (by omega) (by omega)
 rwa [Dg.vl_dg _ _ (by omega),Dg.vl_dg _ _ (by omega)] at this
theorem zplusS (k:Nat)(g:Bool)(a b c:Nat)(ao:Option Addr)(ac:Nat)(bo:Option Addr)(bc:Nat)(w:World)(ra:Rd w .i64 (yS ao a ac) (Dg.dg 65536 a))(rb:Rd w .i64 (yS bo b bc) (Dg.dg 65536 b))(h:a≤(k+2)*2^k∧b≤2^k∧(g=false→c=a+b)∧(g=true→b≤a∧c=a-b))(hk:k≤60000):
  yC 55 #[.agg #[.bool false,yS ao a ac],.agg #[.bool g,yS bo b bc]] w (RZs w false c):=by
 have l1:=len16_big h.1 hk;have l2:=len16_pow h.2.1 hk;have v1:=zx (K:=0) (a:=⟨false,a,0⟩) (b:=⟨g,b,0⟩) (by simp) (by simp);have e1:=zy (K:=0) (a:=⟨false,a,0⟩) (b:=⟨g,b,0⟩) (by simp) (by simp);have hc:V 0 (cO ⟨false,a,0⟩ ⟨g,b,0⟩)=(c:Int):=by
  rw[v1];have hb:V 0 ⟨g,b,0⟩=sz g b:=by
   rw[eV]
   show sz g (b*2^ ((0:Int)+((0:Nat):Int)).toNat)=_
   rw[show((0:Int)+((0:Nat):Int)).toNat=0 by omega,Nat.pow_zero,Nat.mul_one]
  have ha:V 0 ⟨false,a,0⟩=(a:Int):=by
   rw[eV]
   show sz false (a*2^ ((0:Int)+((0:Nat):Int)).toNat)=_
   rw[show((0:Int)+((0:Nat):Int)).toNat=0 by omega,Nat.pow_zero,Nat.mul_one]
   rfl
  rw[ha,hb];unfold sz
  cases g
  ·have:=h.2.2.1 rfl
   simp;omega
  ·obtain⟨h1,h2⟩:=h.2.2.2 rfl
   simp;omega
 obtain⟨x1,x2,x3⟩:=whole_bare (by omega) hc;have hcb:c≤(k+3)*2^k:=by
  have:(k+3)*2^k=(k+2)*2^k+2^k:=by rw[←Nat.succ_mul]
  cases g
  ·have:=h.2.2.1 rfl;omega
  ·have:=h.2.2.2 rfl;omega
 generalize hx:bare (cO ⟨false,a,0⟩ ⟨g,b,0⟩)=x at*;have hw:=zplus_W false g a b (x.n*2^x.e.toNat) ao bo ac bc x w
  (fun w1 q=>by
   have:=lw _ _ ⟨false,a,0⟩ ⟨g,b,0⟩ w1 ⟨_,rfl,ra.l q⟩ ⟨_,rfl,rb.l q⟩ (by show(Dg.dg 65536 a).length≤_;omega) (by show(Dg.dg 65536 b).length≤_;omega) (by simp) (by simp) (by simp) (by simp)
   rwa [hx] at this)
  (fun xo xc w1 q rx=>by
   have hxn:x.n≤2^ (k+20):=by
    have hp:0<2^x.e.toNat:=Nat.pow_pos (by omega);have:x.n≤x.n*2^x.e.toNat:=Nat.le_mul_of_pos_right _ hp;have h9:(k+3)*2^k≤2^ (k+20):=by
     rw[Nat.pow_add,Nat.mul_comm];exact Nat.mul_le_mul_left _ (by omega)
    omega
   have hxe:x.e.toNat≤100000:=by
    by_cases hn0:x.n=0
    ·have:x=⟨false,0,0⟩:=by rw[←hx] at hn0⊢;exact bare_nilS hn0
     rw[this];simp
    ·have h5:2^x.e.toNat≤x.n*2^x.e.toNat:=Nat.le_mul_of_pos_left _ (by omega)
     have h9:(k+3)*2^k≤2^ (k+20):=by
      rw[Nat.pow_add,Nat.mul_comm];exact Nat.mul_le_mul_left _ (by omega)
     have:=(Nat.pow_le_pow_iff_right (a:=2) (by omega)).1 (show 2^x.e.toNat≤2^ (k+20) by omega)
     omega
   have l3:(Dg.dg 65536 x.n).length≤9000:=two_lenS16 hxn (by omega);have hu:=kD _ _ x.e.toNat w1 rx (Dg.small_dg _ _ (by omega)) (by omega) (by omega);rw[Dg.vl_dg _ _ (by omega),show((x.e.toNat:Nat):Int)=x.e by omega] at hu
   exact hu)
 rw[x3,x1] at hw;exact hw
theorem atanOf_any (n k:Nat)(w:World)(hn:2≤n∧n<65536)(hk:k≤60000):yC 31 #[yi n,yi k] w (RZs w false (XA n 1 k)):=
 atanOf_W n k w hn hk (fun m w1 h=>pow2S k m w1 h hk) (fun m w1 h=>fromN_any m w1 h) (fun m d v u w1 hv hu h=>intoS k m d v u w1 hv hu h hk) (fun g a b c ao ac bo bc w1 ra rb h=>zplusS k g a b c ao ac bo bc w1 ra rb h hk)
theorem ln2Of_any (k:Nat)(w:World)(hk:k≤60000):yC 14 #[yi k] w (RZs w false (lnS k k)):=
 ln2Of_W k w hk (fun m w1 h=>pow2S k m w1 h hk) (fun m w1 h=>fromN_any m w1 h) (fun m d v u w1 hv hu h=>intoS k m d v u w1 hv hu h hk) (fun a b v u w1 hv hu h=>rplusS k a b v u w1 hv hu h hk)
theorem rd_cell16 {w:World}{q d:Nat}(h:au w q 3 [yi d])(hd:Dg.dg 65536 d=[d]):Rd w .i64 (.slice (some ⟨q,0,none⟩) 1 1) (Dg.dg 65536 d):=by
 rw[hd];exact⟨_,_,rfl,by simp,by unfold maxLen;simp,fun _=>⟨_,0,rfl,fun i hi=>by
  obtain rfl:i=0:=by simpa using hi
  exact h.c 0 rfl⟩⟩
def FitsR (t:ak):Prop:=(∃y,t=bare y)∧(Dg.dg 65536 t.n).length≤9000∧ -1200≤t.e∧t.e≤100000
theorem cmp_le {K:Nat}{a b:ak}(ha: ∃y,a=bare y)(hb: ∃y,b=bare y)(ea: -(K:Int)≤a.e)(eb: -(K:Int)≤b.e):(V K a≤V K b→dJ (bare (cO a (dB b)))≤0)∧(V K a<V K b→dJ (bare (cO a (dB b)))<0):=by
 rw[OL ha hb,oY ea eb];unfold sgn;refine⟨fun h=> ?_,fun h=> ?_⟩
 ·split
  ·omega
  ·rw[if_pos (by omega)];omega
 ·rw[if_neg (by omega),if_pos (by omega)]
  omega
theorem bare_oneS (e:Int):(⟨false,1,e⟩:ak)=bare ⟨false,1,e⟩:=by
 have:tz 1=0:=F8 (m:=0) (by simp);unfold bare;rw[if_neg (by simp)];simp[this]
theorem chk_ofS {zs:List Nat}(hn:Dg.Norm zs)(hl:zs.length≤1200):chk zs=0:=by
 unfold chk;rw[if_neg (fun c=>hn (by intro e;rw[e] at c;simp at c) c.2),if_neg (by omega)]
theorem dyad_lenS {n:Nat}(h:n<2^1000):(Dg.dg 4294967296 n).length≤32:=jq h (by omega)
theorem dyad_len16 {n:Nat}(h:n<2^1000):(Dg.dg 65536 n).length≤63:=two_lenS16 (Nat.le_of_lt h) (by omega)
theorem ofDyad_good {t:ak}(ht: ∃y,t=bare y)(hn:t.n<2^1000)(h1: -1120≤t.e)(h2:t.e≤9000)(xo:Option Addr)(xc:Nat)(w:World)(hr:Rd w .u32 (yT xo t.n xc) (Dg.dg 4294967296 t.n)):
  yC 22 #[yDV t xo xc] w (dr w t):=by
 have hl:=dyad_lenS hn;have h:=bQ t.s xo xc _ t.e w hr (Dg.small_dg _ _ (by omega)) (by omega) (by omega) (by omega);rw[Dg.vl_dg _ _ (by omega)] at h;obtain⟨y,hy⟩:=ht;rw[show(⟨t.s,t.n,t.e⟩:ak)=t from rfl,hy,iH,←hy] at h
 exact h
theorem bracketed_any {X b:Nat}{p q u v:ak}(hG:GoodB X b p q)(hb:b≤1000)(fu:FitsR u)(fv:FitsR v)(hu:V 1120 u≤(X:Int))(hv:(X:Int)≤V 1120 v)(eu: -1120≤u.e)(ev: -1120≤v.e)(po qo uo vo:Option Addr)(pc qc uc vc:Nat)(w:World)
  (rp:Rd w .u32 (yT po p.n pc) (Dg.dg 4294967296 p.n)) (rq:Rd w .u32 (yT qo q.n qc) (Dg.dg 4294967296 q.n)) (ru:Rd w .i64 (yS uo u.n uc) (Dg.dg 65536 u.n)) (rv:Rd w .i64 (yS vo v.n vc) (Dg.dg 65536 v.n)):
  yC 10 #[.agg #[.bool p.s,yT po p.n pc,yi p.e,.bool q.s,yT qo q.n qc,yi q.e],.agg #[.bool u.s,yS uo u.n uc,yi u.e,.bool v.s,yS vo v.n vc,yi v.e],yi b] w (yR w (.bool true)):=by
 obtain⟨bp,bq,⟨p1,p2,p3⟩,⟨q1,q2,q3⟩,g1,g2,g3,g4⟩:=hG;have lp':=dyad_lenS p3;have lq:=dyad_lenS q3;have mp:=dyad_len16 p3;have mq:=dyad_len16 q3;obtain⟨bu,lu,u1,u2⟩:=fu;obtain⟨bv,lv,v1,v2⟩:=fv;have hpq:dJ (aG p (dV q))≤0:=by
  have:=oY (K:=1120) (a:=p) (b:=q) (by omega) (by omega);unfold bJ at this;rw[this];unfold sgn
  split
  ·omega
  ·rw[if_pos (by omega)];omega
 have hck:cu p.s (Dg.dg 4294967296 p.n) p.e q.s (Dg.dg 4294967296 q.n) q.e=0:=by
  have k1:chk (Dg.dg 4294967296 p.n)=0:=chk_ofS (Dg.norm_dg _ _ (by omega)) (by omega);have k2:chk (Dg.dg 4294967296 q.n)=0:=chk_ofS (Dg.norm_dg _ _ (by omega)) (by omega);have d1:aS (Dg.dg 4294967296 p.n) p.e=0:=by unfold aS;rw[if_pos k1,if_neg (by omega)]
  have d2:aS (Dg.dg 4294967296 q.n) q.e=0:=by unfold aS;rw[if_pos k2,if_neg (by omega)]
  have d3:dQ (Dg.dg 4294967296 p.n) p.e (Dg.dg 4294967296 q.n) q.e=0:=by unfold dQ;rw[if_pos d1,d2]
  unfold cu;rw[if_pos d3,Dg.vl_dg _ _ (by omega),Dg.vl_dg _ _ (by omega),if_neg (by show¬0<dJ (aG p (dV q));omega)]
 have mpn:(Dg.dg 65536 (dB p).n).length≤63:=mp;have vw:V 1120 (bare (cO q (dB p)))=V 1120 q-V 1120 p:=by
  have h1:=zx (K:=1120) (a:=q) (b:=dB p) (by omega) (by show _≤p.e;omega)
  have h2:=zy (K:=1120) (a:=q) (b:=dB p) (by omega) (by show _≤p.e;omega)
  rw[dw h2,h1,EI];omega
 have ew: -(1120:Int)≤(bare (cO q (dB p))).e:=by
  have h2:=zy (K:=1120) (a:=q) (b:=dB p) (by omega) (by show _≤p.e;omega)
  have:=eL (K:=1120) h2;omega
 have hwid:0≤V 1120 (bare (cO q (dB p)))∧V 1120 (bare (cO q (dB p)))≤((2^ (1124-b):Nat):Int):=by rw[vw];exact⟨by omega,by omega⟩
 obtain⟨W,hW⟩: ∃t,bare (cO q (dB p))=t:=⟨_,rfl⟩;have hbW: ∃y,W=bare y:=⟨_,hW.symm⟩;rw[hW] at ew hwid;have hWs:(Dg.dg 65536 W.n).length≤80∧W.e≤9000:=by
  rcases Nat.eq_zero_or_pos W.n with c|c
  ·obtain⟨y,hy⟩:=hbW
   rw[hy] at c;have:=bare_nilS c;rw[hy,this];exact⟨by decide,by simp⟩
  ·have hp:0<2^ (W.e+((1120:Nat):Int)).toNat:=Nat.pow_pos (by omega)
   have hm:0<W.n*2^ (W.e+((1120:Nat):Int)).toNat:=Nat.mul_pos c hp;have hv1:=eV 1120 W;obtain⟨h1,h2⟩:=hwid;have hpos:0<V 1120 W:=by
    rcases Int.lt_trichotomy (V 1120 W) 0 with d|d|d
    ·omega
    ·rw[hv1] at d
     unfold sz at d;generalize W.n*2^ (W.e+((1120:Nat):Int)).toNat=m at*
     split at d<;>omega
    ·exact d
   obtain⟨-,f2⟩:=V_flat (w:=1120) (A:=W) (by omega) hpos;rw[f2] at h2;have h3:W.n*2^ (W.e+((1120:Nat):Int)).toNat≤2^ (1124-b):=Int.ofNat_le.1 h2;have h4:W.n≤2^ (1124-b):=Nat.le_trans (Nat.le_mul_of_pos_right _ hp) h3;have h5:2^ (W.e+((1120:Nat):Int)).toNat≤2^ (1124-b):=Nat.le_trans (Nat.le_mul_of_pos_left _ c) h3;have h6:=(Nat.pow_le_pow_iff_right (a:=2) (by omega)).1 h5;exact⟨two_lenS16 h4 (by omega),by omega⟩
 have hE:IntKind.i64.wrap (4-(b:Int))=4-(b:Int):=IntWalk.i64_in _ ⟨by omega,by omega⟩;have b1:=(cmp_le (K:=1120) bp bv (by omega) (by omega)).1 (by omega);have b2:=(cmp_le (K:=1120) bu bq (by omega) (by omega)).1 (by omega);have hone:V 1120 ⟨false,1,4-(b:Int)⟩=((2^ (1124-b):Nat):Int):=by
  rw[eV]
  show sz false (1*2^ (4-(b:Int)+((1120:Nat):Int)).toNat)=_
  rw[show(4-(b:Int)+((1120:Nat):Int)).toNat=1124-b by omega,Nat.one_mul]
  rfl
 have b3:=(cmp_le (K:=1120) (a:=W) (b:=⟨false,1,4-(b:Int)⟩) hbW ⟨_,bare_oneS _⟩ (by omega) (by show _≤4-(b:Int);omega)).1 (by rw[hone];exact hwid.2)
 exact bracketed_W p q _ _ _ _ u v _ _ _ _ p q (dB p) W b (4-(b:Int)) _ _ _ w hE b1 b2 b3
  (fun w1 h1=>by
   have:=kV p.s po pc _ p.e q.s qo qc _ q.e w1 (rp.l h1) (rq.l h1) (Dg.small_dg _ _ (by omega)) (Dg.small_dg _ _ (by omega))
   rwa [hck] at this)
  (fun w1 h1=>ie _ _ _ _ _ _ _ _ _ _ p q w1 (fun w2 h2=>ofDyad_good bp p3 p1 p2 po pc w2 ((rp.l h1).l h2)) (fun w2 h2=>ofDyad_good bq q3 q1 q2 qo qc w2 ((rq.l h1).l h2)))
  (fun xo xc w1 _ rx=>uI _ p w1 ⟨_,rfl,rx⟩)
  (fun yo yc zo zc w1 _ ry rz=>by
   have:=lw _ _ q (dB p) w1 ⟨_,rfl,ry⟩ ⟨_,rfl,rz⟩ (by omega) (by omega) (by omega) (by omega) (by show _≤p.e;omega) (by show p.e≤_;omega)
   rwa [hW] at this)
  (fun xo xc w1 h1 rx=>gQ _ _ p v w1 ⟨_,rfl,rx⟩ ⟨_,rfl,rv.l h1⟩ (by omega) (by omega) (by omega) (by omega) (by omega) (by omega))
  (fun yo yc w1 h1 ry=>gQ _ _ u q w1 ⟨_,rfl,ru.l h1⟩ ⟨_,rfl,ry⟩ (by omega) (by omega) (by omega) (by omega) (by omega) (by omega))
  (fun xo xc r w1 h1 rx hr=>gQ _ _ W ⟨false,1,4-(b:Int)⟩ w1 ⟨_,rfl,rx⟩ ⟨_,rfl,rd_cell16 (d:=1) hr (by decide)⟩ (by omega) (by show(Dg.dg 65536 1).length≤30000;decide) (by omega) (by omega) (by show _≤4-(b:Int);omega) (by show 4-(b:Int)≤_;omega))
theorem narrow_ex (m k:Nat)(hm:m<2^ (k+10))(hm2:2^40<m)(hk:40≤k∧k≤1100):
  ∃u v,FitsR u∧FitsR v∧V k u=(m:Int)-((2^40:Nat):Int)∧V k v=(m:Int)+((2^40:Nat):Int)∧ -(k:Int)≤u.e∧ -(k:Int)≤v.e∧ ∀mo mc w,Rd w .i64 (yS mo m mc) (Dg.dg 65536 m)→yC 11 #[yS mo m mc,yi k] w (tR w u v):=by
 have hx:V k (bare ⟨false,m,-(k:Int)⟩)=(m:Int):=by
  rw[dw (by show-(k:Int)≤ -(k:Int);omega),eV]
  show sz false (m*2^ (-(k:Int)+(k:Int)).toNat)=_
  rw[show(-(k:Int)+(k:Int)).toNat=0 by omega,Nat.pow_zero,Nat.mul_one]
  rfl
 have ex: -(k:Int)≤(bare ⟨false,m,-(k:Int)⟩).e:=eL (by show-(k:Int)≤ -(k:Int);omega)
 have ho:V k ⟨false,1,40-(k:Int)⟩=((2^40:Nat):Int):=by
  rw[eV]
  show sz false (1*2^ (40-(k:Int)+(k:Int)).toNat)=_
  rw[show(40-(k:Int)+(k:Int)).toNat=40 by omega,Nat.one_mul]
  rfl
 have eo: -(k:Int)≤40-(k:Int):=by omega
 have xs:(bare ⟨false,m,-(k:Int)⟩).s=false∧(bare ⟨false,m,-(k:Int)⟩).e≤((k+11:Nat):Int)-(k:Int)∧(bare ⟨false,m,-(k:Int)⟩).n≤m:=by
  have hp:=two_mono (a:=k+10) (b:=k+11) (by omega);have hV:V k ⟨false,m,-(k:Int)⟩=(m:Int):=by rw[←dw (by show-(k:Int)≤ -(k:Int);omega)];exact hx
  obtain⟨f1,f2,f3,f4,f5⟩:=bare_smallS (t:=⟨false,m,-(k:Int)⟩) (w:=k) (B:=k+11) (by show-(k:Int)≤ -(k:Int);omega) (by rw[hV];omega) (by rw[hV];exact Int.ofNat_le.2 (by omega))
  refine⟨f1,f3, ?_⟩;obtain⟨-,g⟩:=V_flat f2 (by rw[hx];omega);rw[hx] at g;have hp:0<2^ ((bare ⟨false,m,-(k:Int)⟩).e+(k:Int)).toNat:=Nat.pow_pos (by omega);have:=Nat.le_mul_of_pos_right (bare ⟨false,m,-(k:Int)⟩).n hp;omega
 obtain⟨x,hxe⟩: ∃x,bare ⟨false,m,-(k:Int)⟩=x:=⟨_,rfl⟩;rw[hxe] at hx ex xs;have my:dB ⟨false,1,40-(k:Int)⟩=⟨true,1,40-(k:Int)⟩:=rfl;have hy:V k ⟨true,1,40-(k:Int)⟩= -((2^40:Nat):Int):=by rw[←my,EI,ho]
 have lm:(Dg.dg 65536 m).length≤100:=two_lenS16 (Nat.le_of_lt hm) (by omega);have lx:(Dg.dg 65536 x.n).length≤100:=two_lenS16 (Nat.le_trans xs.2.2 (Nat.le_of_lt hm)) (by omega);have key: ∀(o:ak) (c:Nat),o.e=40-(k:Int)→V k x+V k o=(c:Int)→0<c→c<2^ (k+11)→FitsR (bare (cO x o))∧V k (bare (cO x o))=V k x+V k o∧ -(k:Int)≤(bare (cO x o)).e:=fun o c he hc h0 h1=>by
  have d1:=zx (K:=k) (a:=x) (b:=o) (by omega) (by omega);have d2:=zy (K:=k) (a:=x) (b:=o) (by omega) (by omega);obtain⟨f1,f2,f3,f4,f5⟩:=bare_smallS (t:=cO x o) (w:=k) (B:=k+11) d2 (by rw[d1,hc];omega) (by rw[d1,hc];exact Int.ofNat_le.2 (by omega));refine⟨⟨⟨_,rfl⟩, ?_,by omega,by omega⟩,by rw[f4,d1],f2⟩;obtain⟨-,g⟩:=V_flat f2 (by rw[f4,d1,hc];omega);rw[f4,d1,hc] at g;have hp:0<2^ ((bare (cO x o)).e+(k:Int)).toNat:=Nat.pow_pos (by omega);have h2:=Nat.le_mul_of_pos_right (bare (cO x o)).n hp;have h3:(bare (cO x o)).n≤2^ (k+11):=by
   have:c=(bare (cO x o)).n*2^ ((bare (cO x o)).e+(k:Int)).toNat:=Int.ofNat.inj g;omega
  exact two_lenS16 h3 (by omega)
 have p11:(2:Nat)^ (k+11)=2^ (k+10)+2^ (k+10):=by rw[show k+11=(k+10)+1 by omega,Nat.pow_succ];omega
 have p40:(2:Nat)^40≤2^ (k+10):=two_mono (by omega);obtain⟨a1,a2,a3⟩:=key ⟨true,1,40-(k:Int)⟩ (m-2^40) rfl (by rw[hx,hy,Int.ofNat_sub (by omega)];omega) (by omega) (by omega);obtain⟨b1,b2,b3⟩:=key ⟨false,1,40-(k:Int)⟩ (m+2^40) rfl (by rw[hx,ho,Int.natCast_add]) (by omega) (by omega);refine⟨_,_,a1,b1,by rw[a2,hx,hy];omega,by rw[b2,hx,ho],a3,b3,fun mo mc w rm=> ?_⟩
 exact narrow_W m mo mc k (40-(k:Int)) (-(k:Int)) x ⟨true,1,40-(k:Int)⟩ _ _ w rm (IntWalk.i64_in _ ⟨by omega,by omega⟩) (IntWalk.i64_in _ ⟨by omega,by omega⟩)
  (fun w1 _ r=>by
   have:=iJ _ ⟨false,m,-(k:Int)⟩ w1 ⟨_,rfl,r⟩ (by show(Dg.dg 65536 m).length≤_;omega) (by show _≤ -(k:Int);omega) (by show-(k:Int)≤_;omega)
   rwa [hxe] at this)
  (fun q w1 _ hq=>by
   have:=uI _ ⟨false,1,40-(k:Int)⟩ w1 ⟨_,rfl,rd_cell16 (d:=1) hq (by decide)⟩
   rwa [my] at this)
  (fun xo xc yo yc w1 _ rx ry=>lw _ _ x ⟨true,1,40-(k:Int)⟩ w1 ⟨_,rfl,rx⟩ ⟨_,rfl,ry⟩ (by omega) (by show(Dg.dg 65536 1).length≤30000;decide) (by omega) (by omega) (by show _≤40-(k:Int);omega) (by show 40-(k:Int)≤_;omega))
  (fun xo xc q w1 _ rx hq=>lw _ _ x ⟨false,1,40-(k:Int)⟩ w1 ⟨_,rfl,rx⟩ ⟨_,rfl,rd_cell16 (d:=1) hq (by decide)⟩ (by omega) (by show(Dg.dg 65536 1).length≤30000;decide) (by omega) (by omega) (by show _≤40-(k:Int);omega) (by show 40-(k:Int)≤_;omega))
def pw (k:Nat):Nat:=2^k
theorem pw_eq {a b:Nat}(h:a=b):2^a=pw b:=by rw[h];rfl
def leB (a b:Nat):Bool:=Nat.ble a b
def lgS (X:Nat):Nat:=Nat.log2 X
theorem of_leB {a b:Nat}(h:leB a b=true):a≤b:=Nat.le_of_ble_eq_true h
theorem lgS_eq (X:Nat):lgS X=Nat.log2 X:=rfl
theorem chk_ln:chkN XLn=true:=by kernel_rfl
theorem log_ln:leB 1119 (lgS XLn)=true:=by kernel_rfl
theorem log_piS:leB 1121 (lgS XPi)=true:=by kernel_rfl
theorem pi_low:leB (3*pw 1120+pw 1104) XPi=true:=by kernel_rfl
theorem pi_high:leB (XPi+pw 1104+1) (4*pw 1120)=true:=by kernel_rfl
theorem pi_ref1:leB (XA 18 1 1120*48+XA 57 1 1120*32) (XPi+XA 239 1 1120*20+pw 20)=true:=by kernel_rfl
theorem pi_ref2:leB (XPi+XA 239 1 1120*20) (XA 18 1 1120*48+XA 57 1 1120*32+pw 20)=true:=by kernel_rfl
theorem ln_ref1:leB (lnS 1120 1120) (XLn+pw 20)=true:=by kernel_rfl
theorem ln_ref2:leB XLn (lnS 1120 1120+pw 20)=true:=by kernel_rfl
theorem log_pi':1121≤Nat.log2 XPi:=by
 have h:=of_leB log_piS;rw[lgS_eq] at h
 assumption
theorem log_ln':1119≤Nat.log2 XLn:=by
 have h:=of_leB log_ln;rw[lgS_eq] at h
 assumption
theorem pi_low':3*pw 1120+pw 1104≤XPi:=of_leB pi_low
theorem pi_high':XPi+pw 1104+1≤4*pw 1120:=of_leB pi_high
theorem pi_ref1':XA 18 1 1120*48+XA 57 1 1120*32≤XPi+XA 239 1 1120*20+pw 20:=of_leB pi_ref1
theorem pi_ref2':XPi+XA 239 1 1120*20≤XA 18 1 1120*48+XA 57 1 1120*32+pw 20:=of_leB pi_ref2
theorem ln_ref1':lnS 1120 1120≤XLn+pw 20:=of_leB ln_ref1
theorem ln_ref2':XLn≤lnS 1120 1120+pw 20:=of_leB ln_ref2
theorem V_whole (d:Nat):V 1120 ⟨false,d,0⟩=((d*pw 1120:Nat):Int):=by
 rw[eV]
 show sz false (d*2^ ((0:Int)+((1120:Nat):Int)).toNat)=_
 rw[pw_eq (show((0:Int)+((1120:Nat):Int)).toNat=1120 by omega)]
 rfl
theorem V_zeroTS (K:Nat):V K fL=0:=by
 unfold fL;rw[eV];simp[sz]
theorem bare_dig {d m t:Nat}(hd:d=2^t*(2*m+1))(e:Int):bare ⟨false,d,e⟩=⟨false,2*m+1,e+t⟩:=by
 have h0:d≠0:=by
  rw[hd];exact Nat.ne_of_gt (Nat.mul_pos (Nat.pow_pos (by omega)) (by omega))
 unfold bare;rw[if_neg h0];simp only;rw[F8 hd,lI hd]
theorem serBegun_any (w:World)(hT:Tab w):yC 8 #[] w (yR w (.bool true)):=by
 obtain⟨a,b,hG,hP⟩:=serPi_ex 20 ⟨by omega,by omega⟩ chk_pi log_pi';obtain⟨p,q,hG2,hL⟩:=serLn_ex 20 ⟨by omega,by omega⟩ chk_ln log_ln';obtain⟨ba,bb,⟨a1,a2,a3⟩,⟨b1,b2,b3⟩,g1,g2,g3,g4⟩:=hG;obtain⟨bp,-,⟨p1,p2,p3⟩,-,k1,-,-,-⟩:=hG2;have ma:=dyad_len16 a3;have mb:=dyad_len16 b3;have mp:=dyad_len16 p3;rw[pw_eq (show 1124-20=1104 from rfl)] at g4
 have n1:=pi_low';have n2:=pi_high';have v3:=V_whole 3;have v4:=V_whole 4;generalize pw 1120=P at*;generalize pw 1104=Q at*;have c1:dJ (bare (cO ⟨false,3,0⟩ (dB a)))≤0:=(cmp_le (K:=1120) (a:=⟨false,3,0⟩) (b:=a) ⟨⟨false,3,0⟩,(bare_dig (t:=0) (m:=1) (by decide) 0).symm⟩ ba (by show-((1120:Nat):Int)≤0;omega) (by omega)).1 (by rw[v3];omega)
 have c3:0<bJ p fL:=by
  rw[oY (K:=1120) (by omega) (by show-((1120:Nat):Int)≤fL.e;unfold fL;simp),V_zeroTS 1120]
  unfold sgn;rw[if_neg (by omega),if_neg (by omega)];omega
 have c2:dJ (bare (cO b (dB ⟨false,4,0⟩)))<0:=by
  have h1:=zx (K:=1120) (a:=b) (b:=dB ⟨false,4,0⟩) (by omega) (by show-((1120:Nat):Int)≤0;omega)
  have h2:=zy (K:=1120) (a:=b) (b:=dB ⟨false,4,0⟩) (by omega) (by show-((1120:Nat):Int)≤0;omega)
  rw[EI,v4] at h1;have h3:=Di 1120 (bare (cO b (dB ⟨false,4,0⟩)));rw[dw h2,h1] at h3;unfold dJ;rw[←h3];unfold sgn;rw[if_neg (by omega),if_pos (by omega)];omega
 exact serBegun_W a b p q a b p _ _ _ w c1 c2 c3 (fun w1 h=>hP w1 (hT.l h)) (fun w1 h=>hL w1 (hT.l h))
  (fun xo xc w1 _ r=>ofDyad_good ba a3 a1 a2 xo xc w1 r) (fun xo xc w1 _ r=>ofDyad_good bb b3 b1 b2 xo xc w1 r) (fun xo xc w1 _ r=>ofDyad_good bp p3 p1 p2 xo xc w1 r)
  (fun r xo xc w1 _ hr rx=>gQ _ _ ⟨false,3,0⟩ a w1 ⟨_,rfl,rd_cell16 (d:=3) hr (by decide)⟩ ⟨_,rfl,rx⟩ (by decide) (by omega) (by decide) (by decide) (by omega) (by omega))
  (fun r yo yc w1 _ hr ry=>gQ _ _ b ⟨false,4,0⟩ w1 ⟨_,rfl,ry⟩ ⟨_,rfl,rd_cell16 (d:=4) hr (by decide)⟩ (by omega) (by decide) (by omega) (by omega) (by decide) (by decide))
  (fun zo zc w1 _ rz=>by
   obtain⟨y,hy⟩:=bp;have hbp:bare p=p:=by rw[hy,iH]
   exact BL _ p w1 (by rw[hbp];exact⟨_,rfl,rz⟩) (by rw[hbp];omega) (by rw[hbp];omega) (by rw[hbp];omega))
theorem ref_good {X m k D:Nat}(hX:chkN X=true)(hk:110≤k∧k≤1100)(hD:2^ (1120-k)=D)(h1:m*D≤X+2^39*D)(h2:X≤m*D+2^39*D):
  2^40<m∧m<2^ (k+10)∧(m-2^40)*D≤X∧X≤(m+2^40)*D:=by
 obtain⟨L,L1,L2,L0,L3,L4,-⟩:=chk_len hX;have hD0:0<D:=by rw[←hD];exact Nat.pow_pos (by omega)
 have p40:(2:Nat)^40=2*2^39:=by decide
 have e1:2^ (L-1)=2^ (L-1-(1120-k))*D:=by rw[←hD,←Nat.pow_add];congr 1;omega
 have e2:2^L=2^ (L-(1120-k))*D:=by rw[←hD,←Nat.pow_add];congr 1;omega
 have f1:2^43≤2^ (L-1-(1120-k)):=two_mono (by omega);have f2:2^ (L-(1120-k))≤2^ (k+2):=two_mono (by omega);have f3:(2:Nat)^ (k+10)=2^ (k+2)*256:=by rw[show k+10=k+2+8 by omega,Nat.pow_add]
 have f4:(2:Nat)^43≤2^ (k+2):=two_mono (by omega);have g1:2^ (L-1-(1120-k))≤m+2^39:=Nat.le_of_mul_le_mul_right (c:=D) (by rw[←e1,Nat.add_mul];omega) hD0;have g2:m<2^ (L-(1120-k))+2^39:=Nat.lt_of_mul_lt_mul_right (a:=D) (by rw[Nat.add_mul,←e2];omega);have n43:(2:Nat)^43=16*2^39:=by decide
 refine⟨by omega,by omega, ?_, ?_⟩
 ·rw[Nat.sub_mul,p40,Nat.mul_assoc]
  omega
 ·rw[Nat.add_mul,p40,Nat.mul_assoc]
  omega
theorem xa_len (n k tn:Nat)(hn:2≤n)(ht:tn≤1)(hk:k≤60000):XA n tn k<2^ (k+17):=by
 have:=(inv_fits n k tn hn ht hk).2.2;omega
theorem rtimesS (k a m:Nat)(v u:Value)(w:World)(hv:Rd w .i64 v (Dg.dg 65536 a))(hu:Rd w .i64 u (Dg.dg 65536 m))(ha:a<2^ (k+17))(hm:m<100)(hk:k≤60000):yC 30 #[v,u] w (cG w (a*m)):=by
 have l1:(Dg.dg 65536 a).length≤9000:=two_lenS16 (Nat.le_of_lt ha) (by omega);have l2:=len16_64 (m:=m) (by omega);have:=fN v u _ _ w hv hu (Dg.small_dg _ _ (by omega)) (Dg.small_dg _ _ (by omega)) (by omega) (by omega)
 rwa [Dg.vl_dg _ _ (by omega),Dg.vl_dg _ _ (by omega)] at this
theorem piOf_any (k:Nat)(w:World)(hk:k≤50000)(hc:XA 239 1 k*20≤XA 18 1 k*48+XA 57 1 k*32):yC 12 #[yi k] w (RZs w false (XA 18 1 k*48+XA 57 1 k*32-XA 239 1 k*20)):=by
 have x1:=xa_len 18 k 1 (by omega) (by omega) (by omega);have x2:=xa_len 57 k 1 (by omega) (by omega) (by omega);have x3:=xa_len 239 k 1 (by omega) (by omega) (by omega);have p24:(2:Nat)^ (k+24)=2^ (k+17)*128:=by rw[show k+24=k+17+7 by omega,Nat.pow_add]
 have l1:(Dg.dg 65536 (XA 18 1 k*48)).length≤9000:=two_lenS16 (k:=k+24) (by omega) (by omega);have l2:(Dg.dg 65536 (XA 57 1 k*32)).length≤9000:=two_lenS16 (k:=k+24) (by omega) (by omega);have l3:(Dg.dg 65536 (XA 18 1 k*48+XA 57 1 k*32)).length≤9000:=two_lenS16 (k:=k+24) (by omega) (by omega);exact piOf_W false false false _ _ _ k w (fun w1 _=>atanOf_any 18 k w1 ⟨by omega,by omega⟩ (by omega)) (fun w1=>fromN_any 48 w1 (by omega)) (fun ao ac eo ec w1 _ ra re=>rtimesS k _ 48 _ _ w1 ra re x1 (by omega) (by omega))
  (fun w1 _=>atanOf_any 57 k w1 ⟨by omega,by omega⟩ (by omega)) (fun w1=>fromN_any 32 w1 (by omega)) (fun ao ac eo ec w1 _ ra re=>rtimesS k _ 32 _ _ w1 ra re x2 (by omega) (by omega))
  (fun w1 _=>atanOf_any 239 k w1 ⟨by omega,by omega⟩ (by omega)) (fun w1=>fromN_any 20 w1 (by omega)) (fun ao ac eo ec w1 _ ra re=>rtimesS k _ 20 _ _ w1 ra re x3 (by omega) (by omega))
  (fun Ao Ac Bo Bc w1 _ ra rb=>by
   have:=ew _ _ _ _ w1 ra rb (Dg.small_dg _ _ (by omega)) (Dg.small_dg _ _ (by omega)) (Dg.norm_dg _ _ (by omega)) (Dg.norm_dg _ _ (by omega)) (by omega) (by omega)
   rwa [Dg.vl_dg _ _ (by omega),Dg.vl_dg _ _ (by omega)] at this)
  (fun so sc Co Cc w1 _ rs rc=>by
   have:=kI _ _ _ _ w1 rs rc (Dg.small_dg _ _ (by omega)) (Dg.small_dg _ _ (by omega)) (by omega) (Nat.le_of_not_lt fun hl=>absurd (Dg.vl_lt_of_len _ (by omega) _ _ (Dg.small_dg _ _ (by omega)) (Dg.norm_dg _ _ (by omega)) hl) (by rw[Dg.vl_dg _ _ (by omega),Dg.vl_dg _ _ (by omega)];omega)) (by rw[Dg.vl_dg _ _ (by omega),Dg.vl_dg _ _ (by omega)];exact hc)
   rwa [Dg.vl_dg _ _ (by omega),Dg.vl_dg _ _ (by omega)] at this)
theorem ref_pair {n tn k D:Nat}(hn:2≤n)(ht:tn≤1)(hk:k≤1100)(hD:2^ (1120-k)=D):XA n tn k*D≤XA n tn 1120+1200*D∧XA n tn 1120≤XA n tn k*D+1200*D:=by
 obtain⟨p1,p2⟩:=xa_pair (k:=k) (W:=1120) hn ht (by omega);have h1:(NA n tn k+2)*2^ (1120-k)≤1200*2^ (1120-k):=Nat.mul_le_mul_right _ (by have:=na_le (k:=k) hn ht;omega);rw[hD] at p1 p2 h1;omega
theorem pi_lies {k D:Nat}(hk:110≤k∧k≤1100)(hD:2^ (1120-k)=D):XA 239 1 k*20≤XA 18 1 k*48+XA 57 1 k*32∧(XA 18 1 k*48+XA 57 1 k*32-XA 239 1 k*20)*D≤XPi+2^39*D∧XPi≤(XA 18 1 k*48+XA 57 1 k*32-XA 239 1 k*20)*D+2^39*D:=by
 obtain⟨a1,a2⟩:=ref_pair (n:=18) (tn:=1) (by omega) (by omega) hk.2 hD;obtain⟨b1,b2⟩:=ref_pair (n:=57) (tn:=1) (by omega) (by omega) hk.2 hD;obtain⟨c1,c2⟩:=ref_pair (n:=239) (tn:=1) (by omega) (by omega) hk.2 hD;have r1:=pi_ref1';have r2:=pi_ref2';have hX:=log_pi';obtain⟨L,L1,L2,L0,L3,L4,-⟩:=chk_len chk_pi;have hp20:pw 20≤D:=by rw[←hD];exact two_mono (b:=1120-k) (by omega)
 have n39:(2:Nat)^39=549755813888:=by decide
 have hbig:2^39*D<XPi:=by
  rw[←hD,←Nat.pow_add];exact Nat.lt_of_lt_of_le (Nat.pow_lt_pow_right (by omega) (by omega)) L3
 have hD0:0<D:=by rw[←hD];exact Nat.pow_pos (by omega)
 rw[n39] at hbig⊢;clear L3 L4 L0 L1 L2;generalize XA 18 1 1120=A at*;generalize XA 57 1 1120=B at*;generalize XA 239 1 1120=C at*;generalize XA 18 1 k=a at*;generalize XA 57 1 k=b at*;generalize XA 239 1 k=c at*;generalize XPi=X at*;generalize pw 20=P at*;have hc:c*20≤a*48+b*32:=by
  refine Nat.le_of_mul_le_mul_right (c:=D) ?_ hD0;rw[Nat.add_mul,Nat.mul_right_comm,Nat.mul_right_comm a,Nat.mul_right_comm b];generalize a*D=aD at*;generalize b*D=bD at*;generalize c*D=cD at*;omega
 refine⟨hc, ?_, ?_⟩
 ·rw[Nat.sub_mul,Nat.add_mul,Nat.mul_right_comm a,Nat.mul_right_comm b,Nat.mul_right_comm c]
  generalize a*D=aD at*;generalize b*D=bD at*;generalize c*D=cD at*;omega
 ·rw[Nat.sub_mul,Nat.add_mul,Nat.mul_right_comm a,Nat.mul_right_comm b,Nat.mul_right_comm c]
  generalize a*D=aD at*;generalize b*D=bD at*;generalize c*D=cD at*;omega
theorem held_ok {X b m:Nat}{p q:ak}(hX:chkN X=true)(hb:10≤b∧b≤1000)(hG:GoodB X b p q)(h1:m*2^ (1120-(b+100))≤X+2^39*2^ (1120-(b+100)))(h2:X≤m*2^ (1120-(b+100))+2^39*2^ (1120-(b+100))):
  ∃u v,(∀mo mc w1,Rd w1 .i64 (yS mo m mc) (Dg.dg 65536 m)→yC 11 #[yS mo m mc,yi ((b+100:Nat):Int)] w1 (tR w1 u v))∧
   ∀po pc qo qc uo uc vo vc w1,Rd w1 .u32 (yT po p.n pc) (Dg.dg 4294967296 p.n)→Rd w1 .u32 (yT qo q.n qc) (Dg.dg 4294967296 q.n)→Rd w1 .i64 (yS uo u.n uc) (Dg.dg 65536 u.n)→Rd w1 .i64 (yS vo v.n vc) (Dg.dg 65536 v.n)→
    yC 10 #[.agg #[.bool p.s,yT po p.n pc,yi p.e,.bool q.s,yT qo q.n qc,yi q.e],.agg #[.bool u.s,yS uo u.n uc,yi u.e,.bool v.s,yS vo v.n vc,yi v.e],yi b] w1 (yR w1 (.bool true)):=by
 obtain⟨m1,m2,m3,m4⟩:=ref_good (k:=b+100) hX (by omega) rfl h1 h2;obtain⟨u,v,fu,fv,vu,vv,eu,ev,hN⟩:=narrow_ex m (b+100) m2 m1 (by omega);refine⟨u,v,hN,fun po pc qo qc uo uc vo vc w1 rp rq ru rv=> ?_⟩
 ·have l1:=V_lift (w:=b+100) (j:=1120-(b+100)) eu
  have l2:=V_lift (w:=b+100) (j:=1120-(b+100)) ev;rw[show b+100+(1120-(b+100))=1120 by omega] at l1 l2
  refine bracketed_any hG hb.2 fu fv ?_ ?_ (by omega) (by omega) _ _ _ _ _ _ _ _ w1 rp rq ru rv
  ·rw[l1,vu,←Int.ofNat_sub (Nat.le_of_lt m1),←Int.natCast_mul]
   exact Int.ofNat_le.2 m3
  ·rw[l2,vv,←Int.natCast_add,←Int.natCast_mul]
   exact Int.ofNat_le.2 m4
theorem BRd.nil {w:World}{er:Int}{z:Ending}{w':World}(h:BRd w ⟨false,0,0⟩ ⟨false,0,0⟩ er z w'): ∃po pc qo qc,z= .returned (.tuple #[.agg #[.bool false,.slice po 0 pc,yi 0,.bool false,.slice qo 0 qc,yi 0],yi er])∧Hid (pc≤maxLen∧qc≤maxLen)∧yB w w':=by
 obtain⟨p,q,h1,h2,h3,h4⟩:=h;obtain⟨po,pc,rfl,-,c1,-⟩:=h2;obtain⟨qo,qc,rfl,-,c2,-⟩:=h3;exact⟨po,pc,qo,qc,h1,⟨c1,c2⟩,h4⟩
theorem rd_emptyS (w:World)(k:IntKind)(o:Option Addr)(c:Nat)(hc:c≤maxLen):Rd w k (.slice o 0 c) []:=⟨o,c,rfl,by simp,hc,fun h=>(by simp at h)⟩
theorem lnS_pair {k W D:Nat}(hD:2^ (W-k)=D)(hk:k≤W): ∀j,j≤k→lnS k j*D≤lnS W j∧lnS W j≤lnS k j*D+j*D:=by
 intro j
 induction j with
 |zero=>intro _;simp[lnS]
 |succ j ih=>
  intro hj;obtain⟨h1,h2⟩:=ih (by omega);have e:2^ (W-(j+1))=2^ (k-(j+1))*D:=by rw[←hD,←Nat.pow_add];congr 1;omega
  have hD0:0<D:=by rw[←hD];exact Nat.pow_pos (by omega)
  obtain⟨p1,p2⟩:=div_pair (t:=2^ (k-(j+1))) (T:=2^ (W-(j+1))) (D:=D) (k:=j+1) (by omega) (by rw[e];exact Nat.le_refl _) (by rw[e,Nat.add_mul];omega);unfold lnS;rw[Nat.add_mul,Nat.add_mul j 1,Nat.one_mul];rw[Nat.add_mul,Nat.one_mul] at p2;generalize 2^ (k-(j+1))/(j+1)*D=x at*;generalize 2^ (W-(j+1))/(j+1)=y at*;omega
theorem lnS_tail {k W:Nat}: ∀i,k+i≤W→lnS W k≤lnS W (k+i)∧lnS W (k+i)+2^ (W-(k+i))≤lnS W k+2^ (W-k):=by
 intro i
 induction i with
 |zero=>intro _;exact⟨Nat.le_refl _,Nat.le_refl _⟩
 |succ i ih=>
  intro h;obtain⟨h1,h2⟩:=ih (by omega);have e:2^ (W-(k+i))=2*2^ (W-(k+(i+1))):=by rw[←Nat.pow_succ'];congr 1;omega
  have h3:=Nat.div_le_self (2^ (W-(k+i+1))) (k+i+1)
  show lnS W k≤lnS W (k+i)+_∧lnS W (k+i)+2^ (W-(k+i+1))/(k+i+1)+_≤_
  rw[show k+(i+1)=k+i+1 by omega] at e⊢
  generalize 2^ (W-(k+i+1))/(k+i+1)=x at*;omega
theorem ln_lies {k D:Nat}(hk:110≤k∧k≤1100)(hD:2^ (1120-k)=D):lnS k k*D≤XLn+2^39*D∧XLn≤lnS k k*D+2^39*D:=by
 obtain⟨p1,p2⟩:=lnS_pair (k:=k) (W:=1120) hD (by omega) k (Nat.le_refl _);obtain⟨t1,t2⟩:=lnS_tail (k:=k) (W:=1120) (1120-k) (by omega);rw[show k+(1120-k)=1120 by omega,hD] at t2
 rw[show k+(1120-k)=1120 by omega] at t1
 have r1:=ln_ref1';have r2:=ln_ref2';have hp20:pw 20≤D:=by rw[←hD];exact two_mono (b:=1120-k) (by omega)
 have n39:(2:Nat)^39=549755813888:=by decide
 have hkD:k*D≤1100*D:=Nat.mul_le_mul_right _ hk.2;rw[n39];generalize 2^ (1120-1120)=o at*;generalize pw 20=P at*;generalize XLn=X at*;generalize lnS 1120 1120=S at*;generalize lnS 1120 k=T at*;generalize lnS k k*D=U at*;generalize k*D=kD at*;omega
theorem same_nilS (po:Option Addr)(pc:Nat)(qo:Option Addr)(qc:Nat)(w:World)(hp:pc≤maxLen)(hq:qc≤maxLen):yC 9 #[.agg #[.bool false,.slice po 0 pc,yi 0,.bool false,.slice qo 0 qc,yi 0],.agg #[.bool false,yN,yi 0,.bool false,yN,yi 0]] w (yR w (.bool true)):=
 vD false po pc [] 0 false qo qc [] 0 none 0 none 0 w (rd_emptyS _ _ _ _ hp) (rd_emptyS _ _ _ _ hq) (aN _ _) (aN _ _)
theorem seriesPis_walk (b:Int)(w:World)(hT:Tab w):yC 3 #[yi b] w (yR w (.bool true)):=by
 have HB:yH w 8 #[] (.bool true):=fun w1 h=>serBegun_any w1 (hT.l h)
 by_cases c1:b<10
 ·exact serSeriesPis_e1 b w c1 (fun w1 _=>(serPi_out b w1 (.inl c1)).mono fun _ _ h=>h.nil) HB (fun po pc qo qc w1 hm _=>same_nilS po pc qo qc w1 hm.out.1 hm.out.2)
 ·by_cases c2:1000<b
  ·exact serSeriesPis_e2 b w c1 c2 (fun w1 _=>(serPi_out b w1 (.inr c2)).mono fun _ _ h=>h.nil) HB (fun po pc qo qc w1 hm _=>same_nilS po pc qo qc w1 hm.out.1 hm.out.2)
  ·obtain⟨n,rfl⟩: ∃n:Nat,b=(n:Int):=⟨b.toNat,by omega⟩
   obtain⟨l,h,hG,hP⟩:=serPi_ex n ⟨by omega,by omega⟩ chk_pi log_pi';obtain⟨d1,d2,d3⟩:=pi_lies (k:=n+100) (by omega) rfl;obtain⟨u,v,hN,hK⟩:=held_ok chk_pi ⟨by omega,by omega⟩ hG d2 d3;exact serSeriesPis_ok (n:Int) ((n+100:Nat):Int) _ l h u v w c1 c2 (by rw[show(n:Int)+100=((n+100:Nat):Int) by omega];exact IntWalk.i64_in _ ⟨by omega,by omega⟩)
    (fun w1 q=>hP w1 (hT.l q)) HB (fun w1 _=>piOf_any (n+100) w1 (by omega) d1) (fun mo mc w1 _ r=>hN mo mc w1 r) (fun po pc qo qc uo uc vo vc w1 _ r1 r2 r3 r4=>hK po pc qo qc uo uc vo vc w1 r1 r2 r3 r4)
theorem seriesLn2s_walk (b:Int)(w:World)(hT:Tab w):yC 4 #[yi b] w (yR w (.bool true)):=by
 have HB:yH w 8 #[] (.bool true):=fun w1 h=>serBegun_any w1 (hT.l h)
 by_cases c1:b<10
 ·exact serSeriesLn2s_e1 b w c1 (fun w1 _=>(serLn_out b w1 (.inl c1)).mono fun _ _ h=>h.nil) HB (fun po pc qo qc w1 hm _=>same_nilS po pc qo qc w1 hm.out.1 hm.out.2)
 ·by_cases c2:1000<b
  ·exact serSeriesLn2s_e2 b w c1 c2 (fun w1 _=>(serLn_out b w1 (.inr c2)).mono fun _ _ h=>h.nil) HB (fun po pc qo qc w1 hm _=>same_nilS po pc qo qc w1 hm.out.1 hm.out.2)
  ·obtain⟨n,rfl⟩: ∃n:Nat,b=(n:Int):=⟨b.toNat,by omega⟩
   obtain⟨l,h,hG,hP⟩:=serLn_ex n ⟨by omega,by omega⟩ chk_ln log_ln';obtain⟨d2,d3⟩:=ln_lies (k:=n+100) (by omega) rfl;obtain⟨u,v,hN,hK⟩:=held_ok chk_ln ⟨by omega,by omega⟩ hG d2 d3;exact serSeriesLn2s_ok (n:Int) ((n+100:Nat):Int) _ l h u v w c1 c2 (by rw[show(n:Int)+100=((n+100:Nat):Int) by omega];exact IntWalk.i64_in _ ⟨by omega,by omega⟩)
    (fun w1 q=>hP w1 (hT.l q)) HB (fun w1 _=>ln2Of_any (n+100) w1 (by omega)) (fun mo mc w1 _ r=>hN mo mc w1 r) (fun po pc qo qc uo uc vo vc w1 _ r1 r2 r3 r4=>hK po pc qo qc uo uc vo vc w1 r1 r2 r3 r4)
end Go.Proofs.YtiakgfmlpdfhdaaDoor
