/-
  Texts laid together: Begun, Minus, Lk, Dy3, Co1, Co2, Co9, Co13, Co14, Co21, Dy6, Dt1, Roo2, Roo4, Co17, Gh5, Gn2, Dn2, Ce11, Ef2, Cr11, Ce12, Eg2, Eb2, Nx2, Pa1, Ar8, Tx5, BlM, Tx6, Tx12, Tx13.
-/
import Derived.Test.YtpgijbdgljkeeaaGreatDoorUx01
import Derived.Test.YtpgijbdgljkeeaaGreatDoorUx04
import Derived.Test.YtpgijbdgljkeeaaGreatDoorUx05
set_option maxRecDepth 100000
namespace Go.Proofs.YtpgijbdgljkeeaaGreatDoor
open _root_.Go.Proofs.Tryz
open Go.RowKit
theorem aF {zs:List Nat}(h:chk zs=0):Dg.Norm zs∧zs.length≤1200:=by
 unfold chk at h
 by_cases h1:0<zs.length∧zs.getD (zs.length-1) 0=0
 ·rw[if_pos h1] at h;omega
 ·rw[if_neg h1] at h
  by_cases h2:1200<zs.length
  ·rw[if_pos h2] at h;omega
  ·refine⟨fun hne e=>h1 ⟨List.length_pos_iff.2 hne,e⟩,by omega⟩
theorem pJ {zs:List Nat}(h:Dg.Norm zs)(hl:zs.length≤1200):chk zs=0:=by
 unfold chk;rw[if_neg (fun c=>h (List.length_pos_iff.1 c.1) c.2),if_neg (by omega)]
def Z7 (xs ys ps:List Nat)(k c:Nat):Prop:=
 ps.length=xs.length∧Dg.Small 4294967296 ps∧c≤1∧Dg.vl 4294967296 (xs.take k)+4294967296^k*c=Dg.vl 4294967296 (ps.take k)+Dg.vl 4294967296 (ys.take k)
theorem Z8 {xs ys ps:List Nat}{c:Nat}(h:Z7 xs ys ps xs.length c)(hl:ys.length≤xs.length)(hv:Dg.vl 4294967296 ys≤Dg.vl 4294967296 xs):Dg.vl 4294967296 ps=Dg.vl 4294967296 xs-Dg.vl 4294967296 ys:=by
 obtain⟨h1,h2,h3,h4⟩:=h;rw[List.take_of_length_le (Nat.le_refl xs.length),List.take_of_length_le hl,List.take_of_length_le (by omega)] at h4;have hlt:=Dg.vl_lt 4294967296 ps h2;rw[h1] at hlt;have hc:c=0:=by
  rcases Nat.eq_zero_or_pos c with e|e
  ·exact e
  ·have:c=1:=by omega
   subst this;omega
 subst hc;omega
theorem gn (a:Addr)(W:World):(store a Value.nilFunc).run Tryz.prog W=stored Tryz.prog W a Value.nilFunc .plain:=run_store _ W a _ _ rfl
def bU (t:ak):ak×Int:=
 if 1200< (Dg.dg 4294967296 (bare t).n).length then(⟨false,0,0⟩,2) else if(bare t).e< -20000∨20000< (bare t).e then(⟨false,0,0⟩,3) else(bare t,0)
theorem jk (n:Int)(w:World):yC 38 #[yi n] w fun z w'=>z= .returned (yi (dK n))∧w'=w:=by
 unfold dK
 by_cases h1:n<1
 ·rw[if_pos (.inl h1)]
  go_enter func38,ntmps38
  go_wp2
  go_ret
  exact⟨rfl,rfl⟩
 ·by_cases h2:8<n
  ·rw[if_pos (.inr h2)]
   go_enter func38,ntmps38
   go_wp2
   go_ret
   exact⟨rfl,rfl⟩
  ·rw[if_neg (by omega)]
   by_cases h3:n≤3
   ·rw[if_pos h3]
    go_enter func38,ntmps38
    go_wp2
    go_ret
    exact⟨rfl,rfl⟩
   ·rw[if_neg h3]
    by_cases h4:n≤5
    ·rw[if_pos h4]
     go_enter func38,ntmps38
     go_wp2
     go_ret
     exact⟨rfl,rfl⟩
    ·rw[if_neg h4]
     go_enter func38,ntmps38
     go_wp2
     go_ret
     exact⟨rfl,rfl⟩
def tS:Nat→List Value
 |1=>[yi 2,yi 24,yi (-149),yi 104,.bool true,yi 4,yi 8,yi 1,.func (.func 186) #[] #[]]
 |2=>[yi 2,yi 53,yi (-1074),yi 971,.bool true,yi 8,yi 11,yi 1,.func (.func 186) #[] #[]]
 |3=>[yi 2,yi 64,yi (-16445),yi 16320,.bool true,yi 10,yi 15,yi 1,.func (.func 187) #[] #[]]
 |4=>[yi 16,yi 6,yi (-70),yi 57,.bool false,yi 4,yi 7,yi 2,.func (.func 186) #[] #[]]
 |5=>[yi 16,yi 14,yi (-78),yi 49,.bool false,yi 8,yi 7,yi 2,.func (.func 186) #[] #[]]
 |6=>[yi 2,yi 24,yi (-151),yi 103,.bool false,yi 4,yi 8,yi 3,.func (.func 188) #[] #[]]
 |7=>[yi 2,yi 56,yi (-183),yi 71,.bool false,yi 8,yi 8,yi 3,.func (.func 188) #[] #[]]
 |8=>[yi 2,yi 53,yi (-1076),yi 970,.bool false,yi 8,yi 11,yi 3,.func (.func 188) #[] #[]]
 |_=>(yzL 0 0 0 0 false 0 0 0)
def Ar:List Value:=[yi 0,yi 0,yi 0,yi 0,.bool false,yi 0,yi 0,yi 0,.nilFunc,yi 2,yi 24,yi (-149),yi 104,.bool true,yi 4,yi 8,yi 1,.func (.func 186) #[] #[],yi 2,yi 53,yi (-1074),yi 971,.bool true,yi 8,yi 11,yi 1,.func (.func 186) #[] #[],yi 2,yi 64,yi (-16445),yi 16320,.bool true,yi 10,yi 15,yi 1,.func (.func 187) #[] #[],yi 16,yi 6,yi (-70),yi 57,.bool false,yi 4,yi 7,yi 2,.func (.func 186) #[] #[],yi 16,yi 14,yi (-78),yi 49,.bool false,yi 8,yi 7,yi 2,.func (.func 186) #[] #[],yi 2,yi 24,yi (-151),yi 103,.bool false,yi 4,yi 8,yi 3,.func (.func 188) #[] #[],yi 2,yi 56,yi (-183),yi 71,.bool false,yi 8,yi 8,yi 3,.func (.func 188) #[] #[],yi 2,yi 53,yi (-1076),yi 970,.bool false,yi 8,yi 11,yi 3,.func (.func 188) #[] #[]]
theorem Aj (b:Bool)(w:World):yC 152 #[.bool b] w fun z w'=>z= .returned (yi (if b then 1 else 2))∧w'=w:=by
 cases b
 ·go_enter func152,ntmps152
  go_wp2
  go_ret
  exact⟨rfl,rfl⟩
 ·go_enter func152,ntmps152
  go_wp2
  go_ret
  exact⟨rfl,rfl⟩
theorem Ux (v:Value)(w:World):yC 186 #[v] w fun e w'=>e= .returned (.tuple #[])∧w'=w:=by
 go_enter func186,ntmps186
 go_wp2
 go_end0
 exact⟨rfl,rfl⟩
theorem fZ {k:Nat}(hk:1≤k∧k≤8):1+exN k+frN k=8*szN k∧exN k≤15∧szN k≤10∧frN k≤64∧(∃m,szN k=2*m)∧7≤exN k:=by
 rcases bO hk with rfl|rfl|rfl|rfl|rfl|rfl|rfl|rfl
 ·exact⟨by decide,by decide,by decide,by decide,⟨2,rfl⟩,by decide⟩
 ·exact⟨by decide,by decide,by decide,by decide,⟨4,rfl⟩,by decide⟩
 ·exact⟨by decide,by decide,by decide,by decide,⟨5,rfl⟩,by decide⟩
 ·exact⟨by decide,by decide,by decide,by decide,⟨2,rfl⟩,by decide⟩
 ·exact⟨by decide,by decide,by decide,by decide,⟨4,rfl⟩,by decide⟩
 ·exact⟨by decide,by decide,by decide,by decide,⟨2,rfl⟩,by decide⟩
 ·exact⟨by decide,by decide,by decide,by decide,⟨4,rfl⟩,by decide⟩
 ·exact⟨by decide,by decide,by decide,by decide,⟨4,rfl⟩,by decide⟩
theorem Fw {k:Nat}(c:Nat)(hk:1≤k∧k≤8):pg k c<65536:=by
 have h:kp k<65536:=by rcases bO hk with rfl|rfl|rfl|rfl|rfl|rfl|rfl|rfl<;>decide
 unfold pg
 split<;>omega
def cC (c:Int)(t:ak):ak×Int:=if c=0 then bU t else(⟨false,0,0⟩,c)
theorem nt {n:Nat}{e:Int}(h:(Dg.dg 4294967296 n).length≤1200)(h1: -20000≤e)(h2:e≤20000):aS (Dg.dg 4294967296 n) e=0:=by
 unfold aS;rw[pJ (Dg.norm_dg _ _ (by omega)) h,if_pos rfl,if_neg (by omega)]
theorem om {x L:Nat}(h:(Dg.dg 4294967296 x).length≤L):x<4294967296^L:=by
 have h1:=Dg.vl_lt 4294967296 _ (Dg.small_dg 4294967296 x (by omega));rw[Dg.vl_dg _ _ (by omega)] at h1;exact Nat.lt_of_lt_of_le h1 (Nat.pow_le_pow_right (by omega) h)
theorem tD {x y:Nat}(h:x≤y):(Dg.dg 4294967296 x).length≤(Dg.dg 4294967296 y).length:=
 Dg.dg_len_le 4294967296 _ _ (by omega) (Nat.lt_of_le_of_lt h (om (Nat.le_refl _)))
def ge (k:Nat)(ng:Bool)(e f:Nat):Nat:=if dh k ng e f=2 then(lJ (rdN k) 64 (iI k e f) (ii k e)).1 else 0
def gw (k:Nat)(ng:Bool)(e f:Nat):Int:=if dh k ng e f=2 then(lJ (rdN k) 64 (iI k e f) (ii k e)).2 else 0
theorem jX {k:Nat}{ng:Bool}{e f:Nat}(h:dh k ng e f=2):0<iI k e f:=by
 unfold iI
 by_cases h0:e=0
 ·subst h0
  rw[if_pos rfl,ite_self]
  rcases Nat.eq_zero_or_pos f with hf|hf
  ·subst hf
   unfold dh at h;simp only[if_true] at h
   split at h
   ·omega
   ·split at h
    ·omega
    ·split at h<;>omega
  ·exact hf
 ·rw[if_neg h0]
  by_cases hr:rdN k=16
  ·rw[if_pos hr]
   have h45:k=4∨k=5:=by
    unfold rdN at hr
    split at hr
    ·exact .inl rfl
    ·exact .inr rfl
    ·omega
   unfold dh at h;rw[if_neg (by omega),if_pos (by omega)] at h
   rcases Nat.eq_zero_or_pos f with hf|hf
   ·rw[if_pos hf] at h
    omega
   ·exact hf
  ·rw[if_neg hr]
   exact adB (VL k)
def um (xs:List Nat)(e R D L G:Int)(gr:Bool):Bool:=if onC (aS xs e) (bk R D L G)=0 then dA R D L G gr (Dg.vl 4294967296 xs) e else false
def Zo (xs:List Nat)(e R D L G:Int)(gr:Bool):Nat:=if onC (aS xs e) (bk R D L G)=0 then fD R D L G gr (Dg.vl 4294967296 xs) e else 0
def Zp (xs:List Nat)(e R D L G:Int)(gr:Bool):Int:=if onC (aS xs e) (bk R D L G)=0 then fK R D L G gr (Dg.vl 4294967296 xs) e else 0
theorem Xw {c:Int}(h: ¬c=0)(t:ak):cC c t=(⟨false,0,0⟩,c):=if_neg h
theorem wK {t:ak}(h1:(Dg.dg 4294967296 (bare t).n).length≤1200)(h2: -20000≤(bare t).e)(h3:(bare t).e≤20000):bU t=(bare t,0):=by
 unfold bU;rw[if_neg (by omega),if_neg (by omega)]
theorem wI {c:Int}{t r:ak}(h:cC c t=(r,0)):r=bare t∧aS (Dg.dg 4294967296 r.n) r.e=0:=by
 unfold cC at h
 by_cases h0:c=0
 ·rw[if_pos h0] at h
  unfold bU at h
  by_cases h1:1200< (Dg.dg 4294967296 (bare t).n).length
  ·rw[if_pos h1] at h
   simp at h
  ·rw[if_neg h1] at h
   by_cases h2:(bare t).e< -20000∨20000< (bare t).e
   ·rw[if_pos h2] at h
    simp at h
   ·rw[if_neg h2] at h
    simp only[Prod.mk.injEq,and_true] at h;subst h;have hn:=Dg.norm_dg 4294967296 (bare t).n (by omega);refine⟨rfl, ?_⟩;unfold aS;rw[if_pos (pJ hn (by omega)),if_neg h2]
 ·rw[if_neg h0] at h
  simp only[Prod.mk.injEq] at h;exact absurd h.2 h0
def enN (k:Nat)(ng:Bool)(xs:List Nat)(p:Int):ak×Int:=
 cC (ix xs p (rdN k) (dgN k) (lsI k) (gsI k)) ⟨ng,Dg.vl 4294967296 xs,(ai (rdN k):Int)*p⟩
def enH (k:Nat)(t:ak):Bool:=um (Dg.dg 4294967296 t.n) t.e (rdN k) (dgN k) (lsI k) (gsI k) (decide (k≤3))
def enE (k:Nat)(ng:Bool)(xs:List Nat)(p:Int):Int:=
 if p< -20000∨20000<p then 3 else if xs.length=0 then 4 else if(enN k ng xs p).2=0∧enH k (enN k ng xs p).1=true then 0 else 4
theorem eR {k:Nat}(hk:1≤k∧k≤8):1≤exN k∧1≤frN k∧1≤dgN k∧dgN k≤64∧ -16445≤lsI k∧lsI k≤0∧lsI k≤gsI k∧gsI k≤16320∧ai (rdN k)*dgN k≤64∧ai (rdN k)≤4∧1≤ai (rdN k)∧bk (rdN k) (dgN k) (lsI k) (gsI k)=0:=by
 rcases bO hk with rfl|rfl|rfl|rfl|rfl|rfl|rfl|rfl<;>exact⟨by decide,by decide,by decide,by decide,by decide,by decide,by decide,by decide,by decide,by decide,by decide,by decide⟩
theorem IZ {a b:Nat}(h:a≤b):(Dg.dg 65536 a).length≤(Dg.dg 65536 b).length:=by
 refine Dg.dg_len_le 65536 a _ (by omega) (Nat.lt_of_le_of_lt h ?_);have:=Dg.vl_lt 65536 (Dg.dg 65536 b) (Dg.small_dg 65536 b (by omega))
 rwa [Dg.vl_dg 65536 b (by omega)] at this
theorem iq {k:Nat}(hk:1≤k∧k≤8){ng:Bool}{E F:Nat}(hE:E<2^exN k)(hF:F<2^frN k)(hc:dh k ng E F=2):ji k ng E F=bare ⟨ng,iI k E F,wdI (rdN k)*ii k E⟩:=by
 unfold ji
 by_cases h3:k=3
 ·subst h3
  rw[if_pos rfl];unfold dh at hc;rw[if_pos (show 3≤3 by omega),show kp 3=2^exN 3-1 from rfl] at hc
  have hp:2≤2^exN 3:=by decide
  have hF':F<2^64:=hF;have hlead:gW 3=2^63:=rfl;unfold iI ii;rw[if_neg (show¬rdN 3=16 by decide),if_neg (show¬rdN 3=16 by decide),hlead]
  generalize(2:Nat)^exN 3=px at*
  by_cases e0:E=0
  ·rw[if_neg (show¬(E+1=px∨0<E∧F<2^ (dgN 3-1)) by omega),if_pos e0,if_pos e0]
   subst e0;simp
  ·rw[if_neg e0] at hc
   by_cases e1:E=px-1
   ·rw[if_pos e1] at hc
    by_cases hz:F=(if 3=3 then 2^63 else 0)
    ·rw[if_pos hz] at hc
     omega
    ·rw[if_neg hz] at hc
     omega
   ·rw[if_neg e1] at hc
    have hf: ¬F<2^63:=fun hf=>by
     rw[if_pos ⟨rfl,hf⟩] at hc;omega
    rw[if_neg (show¬(E+1=px∨0<E∧F<2^ (dgN 3-1)) from fun h=>by
     rcases h with h|h
     ·omega
     ·exact hf h.2),if_neg e0,if_neg e0,adg (by omega) hF',show lsI 3+(((E-1:Nat):Nat):Int)=lsI 3+(E:Int)-1 from by omega]
 ·rw[if_neg h3]
  by_cases h2:k≤2
  ·rw[if_pos h2]
   have hfd:frN k=dgN k-1∧rdN k=2∧2≤2^exN k:=by rcases(show k=1∨k=2 by omega) with rfl|rfl<;>decide
   unfold dh at hc;rw[if_pos (show k≤3 by omega),show kp k=2^exN k-1 from rfl,if_neg h3] at hc
   rw[hfd.1] at hF;unfold iI ii;rw[if_neg (show¬rdN k=16 by omega),if_neg (show¬rdN k=16 by omega)]
   have hp:=hfd.2.2;have hL:gW k=2^ (dgN k-1):=rfl;rw[hL]
   by_cases e0:E=0
   ·rw[if_neg (show¬E+1=2^exN k by omega),if_pos e0,if_pos e0,if_neg (show¬0<E by omega)]
    subst e0;simp
   ·rw[if_neg e0] at hc
    by_cases e1:E=2^exN k-1
    ·rw[if_pos e1] at hc
     split at hc<;>omega
    ·rw[if_neg (show¬E+1=2^exN k by omega),if_neg e0,if_neg e0,if_pos (show 0<E by omega),YZ hF,show lsI k+(((E-1:Nat):Nat):Int)=lsI k+(E:Int)-1 from by omega]
  ·rw[if_neg h2]
   by_cases h5:k≤5
   ·rw[if_pos h5]
    have hr:rdN k=16:=by rcases(show k=4∨k=5 by omega) with rfl|rfl<;>rfl
    unfold iI ii;rw[if_pos hr,if_pos hr]
   ·rw[if_neg h5]
    have hfd:frN k=dgN k-1∧rdN k=2:=by rcases(show k=6∨k=7∨k=8 by omega) with rfl|rfl|rfl<;>decide
    rw[hfd.1] at hF;unfold dh at hc;rw[if_neg (show¬k≤3 by omega),if_neg h5] at hc
    have e0:E≠0:=fun e0=>by
     rw[if_pos e0] at hc
     split at hc<;>omega
    unfold iI ii;rw[if_neg (show¬rdN k=16 by omega),if_neg (show¬rdN k=16 by omega),if_neg e0,if_neg e0,if_neg e0,show gW k=2^ (dgN k-1) from rfl,YZ hF]
theorem Va {k:Nat}(hk:1≤k∧k≤8){ng:Bool}{E F:Nat}(hE:E<2^exN k)(hF:F<2^frN k)(hF64:F<2^64)(hc:dh k ng E F=2)(hr:rdN k=2):
  ge k ng E F=(ji k ng E F).n∧gw k ng E F=(ji k ng E F).e:=by
 rw[iq hk hE hF hc];unfold ge gw;rw[if_pos hc,if_pos hc,hr];have h0:=jX hc;have hl:=vS hk E hF64;generalize iI k E F=D at*;generalize ii k E=P at*;obtain⟨m,hm⟩:=fO (n:=D) (by omega);have hd:=lI hm;have hs:=FZ 2 (by omega) (tz D) 64 (2*m+1) P (by omega) (by rw[←hm];exact hl);rw[←hm] at hs;rw[hs];unfold bare;rw[if_neg (by show¬D=0;omega)]
 refine⟨hd.symm, ?_⟩
 show P+(tz D:Int)=wdI ((2:Nat):Int)*P+(tz D:Int)
 rw[show wdI ((2:Nat):Int)=1 from by decide,Int.one_mul]
theorem I5 {k:Nat}(hk:1≤k∧k≤8){ng:Bool}{E F:Nat}(hE:E<2^exN k)(hF:F<2^frN k)(hF64:F<2^64)(hc:dh k ng E F=2)(hr:rdN k=16):
  4*gw k ng E F≤(ji k ng E F).e∧(ji k ng E F).e<4*gw k ng E F+4∧ge k ng E F=shN (ji k ng E F).n ((ji k ng E F).e-4*gw k ng E F):=by
 rw[iq hk hE hF hc];unfold ge gw;rw[if_pos hc,if_pos hc,hr];have h0:=jX hc;have hl:=vS hk E hF64;generalize iI k E F=D at*;generalize ii k E=P at*;obtain⟨m,hm⟩:=fO (n:=D) (by omega);have hd:=lI hm;obtain⟨a,b,hab,hb⟩: ∃a b,tz D=4*a+b∧b<4:=⟨tz D/4,tz D % 4,by omega,Nat.mod_lt _ (by omega)⟩;have e16:D=16^a*(2^b*(2*m+1)):=by
  rw[hm,hab,Nat.pow_add,Nat.pow_mul,Nat.mul_assoc]
 have hq:2^b*(2*m+1) % 16≠0:=by
  rcases(show b=0∨b=1∨b=2∨b=3 by omega) with rfl|rfl|rfl|rfl<;>omega
 have hs:=FZ 16 (by omega) a 64 (2^b*(2*m+1)) P hq (by rw[←e16];exact hl);rw[←e16] at hs;rw[hs];unfold bare;rw[if_neg (by show¬D=0;omega),show wdI ((16:Nat):Int)=4 from by decide]
 simp only;rw[hab];refine⟨by push_cast;omega,by push_cast;omega, ?_⟩;rw[show 4*P+((4*a+b:Nat):Int)-4*(P+(a:Int))=(b:Int) from by push_cast;omega]
 unfold shN;rw[if_neg (by omega),Int.toNat_natCast,←hab,hd,Nat.mul_comm]
def gI (n c:Int)(ng:Bool)(xs:List Nat)(p:Int):Int:=
 if dK n=0∨c<1∨5<c then 6 else if chk xs≠0 then chk xs else if c=2 then enE n.toNat ng xs p else qX n.toNat c.toNat xs.length ng p
theorem AE {t:ak}(h0:t.n≠0):(Dg.dg 65536 (bare t).n).length≤(Dg.dg 65536 t.n).length∧t.e≤(bare t).e∧(bare t).e≤t.e+(bitLen t.n:Int):=by
 obtain⟨-,h2,h3⟩:=gN h0;refine⟨IZ (kR t),by omega,by omega⟩
theorem rT {k:Nat}(hk:1≤k∧k≤8){ng:Bool}{E F:Nat}(hE:E<2^exN k)(hF:F<2^frN k)(hF64:F<2^64)(hc:dh k ng E F=2)(h0:iI k E F≠0):
  bare ⟨ng,ge k ng E F,(ai (rdN k):Int)*gw k ng E F⟩=bare ⟨ng,iI k E F,(ai (rdN k):Int)*ii k E⟩:=by
 have hT:=iq hk hE hF hc;rw[zr] at hT
 by_cases hr:rdN k=2
 ·obtain⟨v1,v2⟩:=Va hk hE hF hF64 hc hr
  have hw:ai (rdN k)=1:=by rw[hr];rfl
  rw[v1,v2,hT,hw,show((1:Nat):Int)*(bare ⟨ng,iI k E F,((1:Nat):Int)*ii k E⟩).e=(bare ⟨ng,iI k E F,((1:Nat):Int)*ii k E⟩).e from by omega,NQ (a:=⟨ng,iI k E F,((1:Nat):Int)*ii k E⟩) h0 rfl,iH]
 ·have hr16:rdN k=16:=by rcases bO hk with rfl|rfl|rfl|rfl|rfl|rfl|rfl|rfl<;>revert hr<;>decide
  obtain⟨v1,v2,v3⟩:=I5 hk hE hF hF64 hc hr16;have hw:ai (rdN k)=4:=by rw[hr16];rfl
  rw[hw] at hT⊢;rw[v3,hT];rw[hT] at v1;have hp:=(nV ng (bare ⟨ng,iI k E F,((4:Nat):Int)*ii k E⟩).n (bare ⟨ng,iI k E F,((4:Nat):Int)*ii k E⟩).e (((4:Nat):Int)*gw k ng E F) (by omega)).2;rw[Jv] at hp;rw[show 4*gw k ng E F=((4:Nat):Int)*gw k ng E F from rfl,hp,NQ (a:=⟨ng,iI k E F,((4:Nat):Int)*ii k E⟩) h0 rfl,iH]
theorem mZ {k:Nat}(hk:1≤k∧k≤8){f:Nat}(h:f<2^frN k):f<2^64:=
 Nat.lt_of_lt_of_le h (Nat.pow_le_pow_right (by omega) (fZ hk).2.2.2.1)
theorem uR (s:Bool)(e:Int):bU ⟨s,0,e⟩=(⟨false,0,0⟩,0):=by
 have hb:bare ⟨s,0,e⟩=⟨false,0,0⟩:=by simp[bare]
 unfold bU;rw[hb];simp only;rw[show Dg.dg 4294967296 0=[] from(Dg.dg_nil_iff _ _ (by omega)).2 rfl]
 rfl
theorem wQ {k:Nat}(hk:1≤k∧k≤8):wdI (rdN k)=(ai (rdN k):Int):=by
 rcases bO hk with rfl|rfl|rfl|rfl|rfl|rfl|rfl|rfl<;>decide
theorem zd {k:Nat}(hk:1≤k∧k≤8){ng:Bool}{E F:Nat}(hc:dh k ng E F=1):ji k ng E F=⟨false,0,0⟩:=by
 have key: ∀(s:Bool) (e:Int),bare ⟨s,0,e⟩=⟨false,0,0⟩:=fun s e=>by simp[bare]
 have h2:2≤2^exN k:=by
  rcases bO hk with rfl|rfl|rfl|rfl|rfl|rfl|rfl|rfl<;>decide
 unfold dh at hc;unfold ji
 by_cases h3:k≤3
 ·rw[if_pos h3] at hc
  by_cases he:E=0
  ·rw[if_pos he] at hc
   by_cases hf:F=0
   ·subst he hf
    by_cases h4:k=3
    ·rw[if_pos h4,if_neg (by rintro(h|h)<;>omega)]
     exact key _ _
    ·rw[if_neg h4,if_pos (by omega),if_neg (by omega),if_neg (by omega)]
     exact key _ _
   ·rw[if_neg hf] at hc
    omega
  ·rw[if_neg he] at hc
   exfalso
   repeat' split at hc
   all_goals omega
 ·rw[if_neg h3] at hc
  rw[if_neg (show¬k=3 by omega),if_neg (show¬k≤2 by omega)]
  by_cases h5:k≤5
  ·rw[if_pos h5] at hc⊢
   by_cases hf:F=0
   ·subst hf
    exact key _ _
   ·rw[if_neg hf] at hc
    omega
  ·rw[if_neg h5] at hc⊢
   by_cases he:E=0
   ·rw[if_pos he]
   ·rw[if_neg he] at hc
    omega
theorem TS {k:Nat}(hk:1≤k∧k≤8){E:Nat}(hE:E<2^exN k): -16445≤(ai (rdN k):Int)*ii k E∧(ai (rdN k):Int)*ii k E≤16400∧ -16445≤ii k E∧ii k E≤16400:=by
 have hf:(rdN k=16∧ai (rdN k)=4∧ -78≤lsI k∧lsI k≤0∧2^exN k=128)∨(rdN k≠16∧ai (rdN k)=1∧ -16445≤lsI k∧lsI k+((2^exN k:Nat):Int)≤16400):=by
  rcases bO hk with rfl|rfl|rfl|rfl|rfl|rfl|rfl|rfl<;>decide
 unfold ii
 rcases hf with⟨h1,h2,h3,h4,h5⟩| ⟨h1,h2,h3,h4⟩
 ·rw[if_pos h1,h2]
  omega
 ·rw[if_neg h1,h2]
  split<;>omega
theorem J8 {k:Nat}(hk:1≤k∧k≤8)(ng:Bool)(E:Nat){F:Nat}(hF:F<2^64):ge k ng E F<2^64:=by
 unfold ge
 split
 ·exact Nat.lt_of_le_of_lt (GI _ _ _ _) (vS hk E hF)
 ·decide
theorem J9 {k:Nat}(hk:1≤k∧k≤8){ng:Bool}{E F:Nat}(hE:E<2^exN k)(hF:F<2^frN k)(hc:dh k ng E F=2):
  -16445≤(ji k ng E F).e∧(ji k ng E F).e≤16464∧ -16460≤gw k ng E F∧gw k ng E F≤16464:=by
 have h64:=mZ hk hF;obtain⟨p1,p2,-,-⟩:=TS hk hE;have hT:=iq hk hE hF hc;rw[wQ hk] at hT;have hp:=jX hc;have hl:=vS hk E h64;have hb:=AE (t:=⟨ng,iI k E F,(ai (rdN k):Int)*ii k E⟩) (Nat.ne_of_gt hp);have hbl:bitLen (iI k E F)≤64:=bF _ _ hl;rw[←hT] at hb;simp only at hb;obtain⟨-,b1,b2⟩:=hb;refine⟨by omega,by omega, ?_⟩;have hr:rdN k=2∨rdN k=16:=by
  rcases bO hk with rfl|rfl|rfl|rfl|rfl|rfl|rfl|rfl<;>decide
 rcases hr with hr|hr
 ·have:=(Va hk hE hF h64 hc hr).2
  omega
 ·have:=I5 hk hE hF h64 hc hr
  omega
abbrev dsk (k:Nat)(wy:Int):Value:=(ykV k wy (dK k) (rdN k) (dgN k) (lsI k) (gsI k) (decide (k≤3)))
theorem Fm {k:Nat}(hk:1≤k∧k≤8){ng:Bool}{E F:Nat}(hc:dh k ng E F≠2):ji k ng E F=⟨false,0,0⟩:=by
 by_cases h1:dh k ng E F=1
 ·exact zd hk h1
 have h2:2^exN k=kp k+1:=by
  rcases bO hk with rfl|rfl|rfl|rfl|rfl|rfl|rfl|rfl<;>decide
 have h63:k=3→2^ (dgN k-1)=2^63:=fun h=>by subst h;rfl
 unfold dh at hc h1;unfold ji
 by_cases h3:k≤3
 ·rw[if_pos h3] at hc h1
  by_cases he:E=0
  ·rw[if_pos he] at hc h1
   by_cases hf:F=0
   ·rw[if_pos hf] at h1
    exact absurd rfl h1
   ·rw[if_neg hf] at hc
    exact absurd rfl hc
  ·rw[if_neg he] at hc
   by_cases ho:E=kp k
   ·by_cases h4:k=3
    ·rw[if_pos h4,if_pos (.inl (by omega))]
    ·rw[if_neg h4,if_pos (by omega),if_pos (by omega)]
   ·rw[if_neg ho] at hc
    by_cases h4:k=3∧F<2^63
    ·rw[if_pos h4.1,if_pos (.inr ⟨by omega,by rw[h63 h4.1];exact h4.2⟩)]
    ·rw[if_neg h4] at hc
     exact absurd rfl hc
 ·rw[if_neg h3] at hc h1
  rw[if_neg (show¬k=3 by omega),if_neg (show¬k≤2 by omega)]
  by_cases h5:k≤5
  ·rw[if_pos h5] at hc h1
   by_cases hf:F=0
   ·rw[if_pos hf] at h1
    exact absurd rfl h1
   ·rw[if_neg hf] at hc
    exact absurd rfl hc
  ·rw[if_neg h5] at hc⊢
   by_cases he:E=0
   ·rw[if_pos he]
   ·rw[if_neg he] at hc
    exact absurd rfl hc
theorem atoi_dig (z:ByteArray)(h:digB z=true):Lib.atoi z.data.toList=some ((pv z z.size:Nat):Int):=by
 obtain⟨h0,hd⟩:=(digB_iff z).1 h;have hlen:z.data.toList.length=z.size:=Array.length_toList;have hget: ∀k,k<z.size→ ∃b,z.data.toList[k]? =some b∧b.toNat=byt z k:=fun k hk=>by
  refine⟨z[k], ?_,KD z k hk⟩;rw[List.getElem?_eq_getElem (by rw[hlen];exact hk),Array.getElem_toList];rfl
 have hk: ∀k,k≤z.size→Lib.decFrom 0 (z.data.toList.take k)=some (pv z k):=by
  intro k
  induction k with
  |zero=>intro _;rfl
  |succ k ih=>
   intro hk;obtain⟨b,e1,e2⟩:=hget k (by omega);have hb:=hd k (by omega);exact Lib.decFrom_take _ k 0 (pv z k) b _ (ih (by omega)) e1 (by
    unfold Lib.digitVal;rw[if_pos (by rw[e2];exact hb),e2])
 have ht:=hk z.size (Nat.le_refl _);rw[←hlen,List.take_length,hlen] at ht;obtain⟨b0,e1,e2⟩:=hget 0 (by omega);have hb:=hd 0 (by omega);rw[←e2] at hb
 cases hl:z.data.toList with
 |nil=>rw[hl] at hlen;exact absurd hlen.symm h0
 |cons b r=>
  rw[hl] at ht e1;obtain rfl:b=b0:=by simpa using e1
  have n1:(b==45)=false:=by
   rw[beq_eq_false_iff_ne];rintro rfl;exact absurd hb.1 (by decide)
  have n2:(b==43)=false:=by
   rw[beq_eq_false_iff_ne];rintro rfl;exact absurd hb.1 (by decide)
  show(if(b==45)=true then Option.map (fun(m:Nat)=> -(m:Int)) (Lib.decNat r) else if(b==43)=true then Option.map (fun(m:Nat)=>(m:Int)) (Lib.decNat r) else Option.map (fun(m:Nat)=>(m:Int)) (Lib.decNat (b::r)))=_
  rw[n1,n2,if_neg (by decide),if_neg (by decide)];unfold Lib.decNat;rw[if_neg (by simp),ht];rfl
theorem cutS_size (c:UInt8)(s:ByteArray):(cutS c s).1.size+(cutS c s).2.1.size≤s.size:=by
 have e1:(cutS c s).1.size=(Lib.cut s.data.toList [c]).1.length:=mk_size _;have e2:(cutS c s).2.1.size=(Lib.cut s.data.toList [c]).2.1.length:=mk_size _;rw[e1,e2,size_list s];unfold Lib.cut
 split
 ·show(List.take _ _).length+(List.drop _ _).length≤_
  rw[List.length_take,List.length_drop]
  show _+(_-(_+1))≤_
  omega
 ·exact Nat.le_refl _
def RB6 (W:World)(v:Value)(x y:ak):Prop:= ∃p q,v= .agg #[.bool x.s,p,yi x.e,.bool y.s,q,yi y.e]∧Rd W .i64 p (Dg.dg 65536 x.n)∧Rd W .i64 q (Dg.dg 65536 y.n)
def nrV (r:Bool×ByteArray×Int):Bool×Nat×Nat×Int:=
 if pv r.2.1 r.2.1.size=0 then(false,0,1,0) else
  (r.1,(nrM (pv r.2.1 r.2.1.size) r.2.2).1/2^tz (nrM (pv r.2.1 r.2.1.size) r.2.2).1,(nrM (pv r.2.1 r.2.1.size) r.2.2).2,r.2.2+(tz (nrM (pv r.2.1 r.2.1.size) r.2.2).1:Int))
def dcG (x:ak):Int:=pbV ((bitLen x.n:Int)-1+x.e)
def dcW (x:ak):Nat:=scA x.n x.e (60-dcG x)/scB x.e (60-dcG x)
def dcL (x:ak):Bool:=decide (0< (Dg.dg 4294967296 (scA x.n x.e (60-dcG x) % scB x.e (60-dcG x))).length)
def dcH (x:ak):Nat:=if dcL x=true then dcW x*2+1 else dcW x*2
theorem dc_many {x:ak}(hx:x.n<2^64)(e1: -16500≤x.e)(e2:x.e≤16500)(h0:x.n≠0):10^60≤dcW x:=by
 have hb:=bF x.n 64 hx;have hb1:=Gq h0;have hxb:2^ (bitLen x.n-1)≤x.n:=(uB x.n h0).2.1;obtain⟨b,hbb⟩: ∃b,bitLen x.n-1=b:=⟨_,rfl⟩;rw[hbb] at hxb;have hnb:(bitLen x.n:Int)-1+x.e=(b:Int)+x.e:=by omega
 have key:=pb_key (n:=(b:Int)+x.e) (by omega) (by omega);have hG:dcG x=pbV ((b:Int)+x.e):=by unfold dcG;rw[hnb]
 unfold dcW;rw[hG];have hr:=pb_in (n:=(b:Int)+x.e) (by omega) (by omega);generalize pbV ((b:Int)+x.e)=g at key hr⊢;obtain⟨gp,h1⟩: ∃k,g.toNat=k:=⟨_,rfl⟩;obtain⟨gm,h2⟩: ∃k,(-g).toNat=k:=⟨_,rfl⟩;obtain⟨np,h3⟩: ∃k,((b:Int)+x.e).toNat=k:=⟨_,rfl⟩;obtain⟨nm,h4⟩: ∃k,(-((b:Int)+x.e)).toNat=k:=⟨_,rfl⟩;rw[h1,h2,h3,h4] at key;unfold scA scB;rw[Nat.le_div_iff_mul_le (Nat.mul_pos (Nat.pow_pos (by omega)) (Nat.pow_pos (by omega)))];obtain⟨up,h5⟩: ∃k,(60-g).toNat=k:=⟨_,rfl⟩;obtain⟨um,h6⟩: ∃k,(-(60-g)).toNat=k:=⟨_,rfl⟩;obtain⟨tp,h7⟩: ∃k,(x.e+(60-g)).toNat=k:=⟨_,rfl⟩;obtain⟨tm,h8⟩: ∃k,(-(x.e+(60-g))).toNat=k:=⟨_,rfl⟩;rw[h5,h6,h7,h8];refine Nat.le_trans ?_ (Nat.mul_le_mul_right _ (Nat.mul_le_mul_right _ hxb));have a1:60+um+gm=up+gp:=by omega
 have a2:60+tm+np+gm=b+tp+gp+nm:=by omega
 clear h1 h2 h3 h4 h5 h6 h7 h8 hr;refine Nat.le_of_mul_le_mul_right (c:=2^np*10^gm) (Nat.le_trans (Nat.le_of_eq ?_) (Nat.mul_le_mul_left _ key)) (Nat.mul_pos (Nat.pow_pos (by omega)) (Nat.pow_pos (by omega)));rw[ten_parts 60,ten_parts gm,ten_parts gp];have l:2^60*5^60*(5^um*2^tm)*(2^np*(2^gm*5^gm))=2^ (60+tm+np+gm)*5^ (60+um+gm):=by
  simp only[Nat.pow_add]
  ac_rfl
 have r:2^b*5^up*2^tp*(2^gp*5^gp*2^nm)=2^ (b+tp+gp+nm)*5^ (up+gp):=by
  simp only[Nat.pow_add]
  ac_rfl
 rw[l,r,a1,a2]
end Go.Proofs.YtpgijbdgljkeeaaGreatDoor
