/-
  Texts laid together: Dz, Leaf, Begun, Lk, Dy3, Co1, Co6, Co2, Co9, Co13, Co14, Co12, Co20, Gm1, Dy6, Dy9, Gm2, Gr6, Ce10, Roo2, Roo4, Co17, Read1, Read3, Gn2, Ce11, Ef2, Cr11, Nx2, Du1, As5, As6, Rk1, Rk2, Pa2, Tx5, BlM, Tx6, Tx12.
-/
import Derived.Test.YtdhpndnncmagiaaGreatDoorMa01
import Derived.Test.YtdhpndnncmagiaaGreatDoorMa02
import Derived.Test.YtdhpndnncmagiaaGreatDoorMa03
set_option maxRecDepth 100000
namespace Go.Proofs.YtdhpndnncmagiaaGreatDoor
open _root_.Go.Proofs.Tryz
open Go.RowKit
def V (K:Nat)(a:ak):Int:=sz a.s a.n*((2^ (a.e+K).toNat:Nat):Int)
theorem Y5 (s:Bool)(n k:Nat):sz s n*(k:Int)=sz s (n*k):=by
 unfold sz
 cases s<;>simp[Int.neg_mul]
theorem QI {s t:Bool}{n m:Nat}(h:sz s n=sz t m)(hn:n≠0):s=t∧n=m:=by
 unfold sz at h
 cases s<;>cases t<;>simp at h<;>first|exact⟨rfl,by omega⟩| (exfalso;omega)
theorem eV (K:Nat)(a:ak):V K a=sz a.s (a.n*2^ (a.e+K).toNat):=Y5 _ _ _
theorem fH {K:Nat}{a b:ak}(ha: -(K:Int)≤a.e)(hb: -(K:Int)≤b.e)(h:V K a=V K b):bare a=bare b:=by
 rw[eV,eV] at h;have p1:0<2^ (a.e+K).toNat:=Nat.pow_pos (by omega);have p2:0<2^ (b.e+K).toNat:=Nat.pow_pos (by omega);unfold bare
 by_cases h0:a.n=0
 ·have:b.n=0:=by
   rw[h0,Nat.zero_mul] at h
   by_cases hb0:b.n=0
   ·exact hb0
   ·have hne:b.n*2^ (b.e+K).toNat≠0:=Nat.ne_of_gt (Nat.mul_pos (by omega) p2)
    have:=(QI h.symm hne).2;omega
  rw[if_pos h0,if_pos this]
 ·have hne:a.n*2^ (a.e+K).toNat≠0:=Nat.ne_of_gt (Nat.mul_pos (by omega) p1)
  obtain⟨hs,hm⟩:=QI h hne;have hb0:b.n≠0:=by
   intro e;rw[e,Nat.zero_mul] at hm;exact hne hm
  rw[if_neg h0,if_neg hb0];obtain⟨m,h1⟩:=fO h0;obtain⟨k,h2⟩:=fO hb0;have e1:=lI h1;have e2:=lI h2;have h3:2^ (tz a.n+(a.e+K).toNat)*(2*m+1)=2^ (tz b.n+(b.e+K).toNat)*(2*k+1):=by
   rw[Nat.pow_add,Nat.pow_add,Nat.mul_assoc,Nat.mul_comm (2^ (a.e+K).toNat),←Nat.mul_assoc,←h1,Nat.mul_assoc,Nat.mul_comm (2^ (b.e+K).toNat),←Nat.mul_assoc,←h2];exact hm
  obtain⟨h4,h5⟩:=Dh h3;rw[e1,e2,hs,h5];have:a.e+(tz a.n:Int)=b.e+(tz b.n:Int):=by omega
  rw[this]
def aK (a b:ak):ak:=⟨a.s != b.s,a.n*b.n,a.e+b.e⟩
theorem jC (v:Value)(zs:List Nat)(w:World)(h:Rd w .u32 v zs):
  yC 90 #[v] w fun e w'=>e= .returned (yi (chk zs))∧w'=w:=by
 obtain⟨ao,cap,rfl,hlc,hm,hc⟩:=h;unfold maxLen at hm
 by_cases h0:zs.length=0
 ·have hz:zs=[]:=List.eq_nil_of_length_eq_zero h0
  subst hz
  go_enter func90,ntmps90
  go_wp2
  go_ret
  exact⟨rfl,rfl⟩
 ·obtain⟨b,off,rfl,hcell⟩:=hc (by omega)
  have h1:=hcell (zs.length-1) (by omega)
  by_cases hz:zs.getD (zs.length-1) 0=0
  ·have e1:chk zs=1:=Oq (by omega) hz
   rw[e1];rw[hz] at h1;clear hcell hc e1 hz
   go_enter func90,ntmps90
   go_wp2
   go_ret
   exact⟨rfl,rfl⟩
  ·obtain⟨d,hd⟩: ∃d,zs.getD (zs.length-1) 0=d:=⟨_,rfl⟩
   by_cases hg:1200<zs.length
   ·rw[Ot hz hg]
    rw[hd] at h1 hz;clear hcell hc hd
    go_enter func90,ntmps90
    go_wp2
    go_ret
    exact⟨rfl,rfl⟩
   ·rw[ZT hz hg]
    rw[hd] at h1 hz;clear hcell hc hd
    go_enter func90,ntmps90
    go_wp2
    go_ret
    exact⟨rfl,rfl⟩
theorem aF {zs:List Nat}(h:chk zs=0):Dg.Norm zs∧zs.length≤1200:=by
 unfold chk at h
 by_cases h1:0<zs.length∧zs.getD (zs.length-1) 0=0
 ·rw[if_pos h1] at h;omega
 ·rw[if_neg h1] at h
  by_cases h2:1200<zs.length
  ·rw[if_pos h2] at h;omega
  ·refine⟨fun hne e=>h1 ⟨List.length_pos_iff.2 hne,e⟩,by omega⟩
theorem pJ {zs:List Nat}(h:Dg.Norm zs)(hl:zs.length≤1200):chk zs=0:=by
 unfold chk;rw[if_neg (fun c=>h (List.length_pos_iff.1 c.1) c.2),if_neg (by omega)]
theorem gn (a:Addr)(W:World):(store a Value.nilFunc).run Tryz.prog W=stored Tryz.prog W a Value.nilFunc .plain:=run_store _ W a _ _ rfl
def bU (t:ak):ak×Int:=
 if 1200< (Dg.dg 4294967296 (bare t).n).length then(⟨false,0,0⟩,2) else if(bare t).e< -20000∨20000< (bare t).e then(⟨false,0,0⟩,3) else(bare t,0)
theorem jk (n:Int)(w:World):yC 30 #[yi n] w fun z w'=>z= .returned (yi (dK n))∧w'=w:=by
 unfold dK
 by_cases h1:n<1
 ·rw[if_pos (.inl h1)]
  go_enter func30,ntmps30
  go_wp2
  go_ret
  exact⟨rfl,rfl⟩
 ·by_cases h2:8<n
  ·rw[if_pos (.inr h2)]
   go_enter func30,ntmps30
   go_wp2
   go_ret
   exact⟨rfl,rfl⟩
  ·rw[if_neg (by omega)]
   by_cases h3:n≤3
   ·rw[if_pos h3]
    go_enter func30,ntmps30
    go_wp2
    go_ret
    exact⟨rfl,rfl⟩
   ·rw[if_neg h3]
    by_cases h4:n≤5
    ·rw[if_pos h4]
     go_enter func30,ntmps30
     go_wp2
     go_ret
     exact⟨rfl,rfl⟩
    ·rw[if_neg h4]
     go_enter func30,ntmps30
     go_wp2
     go_ret
     exact⟨rfl,rfl⟩
theorem oV (s:ByteArray):(jr s).length=s.size:=by
 unfold jr;rw[List.length_map,Array.length_toList];rfl
def tS:Nat→List Value
 |1=>[yi 2,yi 24,yi (-149),yi 104,.bool true,yi 4,yi 8,yi 1,.func (.func 139) #[] #[]]
 |2=>[yi 2,yi 53,yi (-1074),yi 971,.bool true,yi 8,yi 11,yi 1,.func (.func 139) #[] #[]]
 |3=>[yi 2,yi 64,yi (-16445),yi 16320,.bool true,yi 10,yi 15,yi 1,.func (.func 140) #[] #[]]
 |4=>[yi 16,yi 6,yi (-70),yi 57,.bool false,yi 4,yi 7,yi 2,.func (.func 139) #[] #[]]
 |5=>[yi 16,yi 14,yi (-78),yi 49,.bool false,yi 8,yi 7,yi 2,.func (.func 139) #[] #[]]
 |6=>[yi 2,yi 24,yi (-151),yi 103,.bool false,yi 4,yi 8,yi 3,.func (.func 141) #[] #[]]
 |7=>[yi 2,yi 56,yi (-183),yi 71,.bool false,yi 8,yi 8,yi 3,.func (.func 141) #[] #[]]
 |8=>[yi 2,yi 53,yi (-1076),yi 970,.bool false,yi 8,yi 11,yi 3,.func (.func 141) #[] #[]]
 |_=>(yzL 0 0 0 0 false 0 0 0)
def Ar:List Value:=[yi 0,yi 0,yi 0,yi 0,.bool false,yi 0,yi 0,yi 0,.nilFunc,yi 2,yi 24,yi (-149),yi 104,.bool true,yi 4,yi 8,yi 1,.func (.func 139) #[] #[],yi 2,yi 53,yi (-1074),yi 971,.bool true,yi 8,yi 11,yi 1,.func (.func 139) #[] #[],yi 2,yi 64,yi (-16445),yi 16320,.bool true,yi 10,yi 15,yi 1,.func (.func 140) #[] #[],yi 16,yi 6,yi (-70),yi 57,.bool false,yi 4,yi 7,yi 2,.func (.func 139) #[] #[],yi 16,yi 14,yi (-78),yi 49,.bool false,yi 8,yi 7,yi 2,.func (.func 139) #[] #[],yi 2,yi 24,yi (-151),yi 103,.bool false,yi 4,yi 8,yi 3,.func (.func 141) #[] #[],yi 2,yi 56,yi (-183),yi 71,.bool false,yi 8,yi 8,yi 3,.func (.func 141) #[] #[],yi 2,yi 53,yi (-1076),yi 970,.bool false,yi 8,yi 11,yi 3,.func (.func 141) #[] #[]]
def gW (k:Nat):Nat:=2^ (dgN k-1)
theorem Aj (b:Bool)(w:World):yC 204 #[.bool b] w fun z w'=>z= .returned (yi (if b then 1 else 2))∧w'=w:=by
 cases b
 ·go_enter func204,ntmps204
  go_wp2
  go_ret
  exact⟨rfl,rfl⟩
 ·go_enter func204,ntmps204
  go_wp2
  go_ret
  exact⟨rfl,rfl⟩
theorem Ux (v:Value)(w:World):yC 139 #[v] w fun e w'=>e= .returned (.tuple #[])∧w'=w:=by
 go_enter func139,ntmps139
 go_wp2
 go_end0
 exact⟨rfl,rfl⟩
theorem fZ {k:Nat}(hk:1≤k∧k≤8):1+exN k+frN k=8*szN k∧exN k≤15∧szN k≤10∧frN k≤64∧(∃m,szN k=2*m)∧7≤exN k:=by
 rcases bO hk with rfl|rfl|rfl|rfl|rfl|rfl|rfl|rfl
 ·exact⟨by decide,by decide,by decide,by decide,⟨2,rfl⟩,by decide⟩
 ·exact⟨by decide,by decide,by decide,by decide,⟨4,rfl⟩,by decide⟩
 ·exact⟨by decide,by decide,by decide,by decide,⟨5,rfl⟩,by decide⟩
 ·exact⟨by decide,by decide,by decide,by decide,⟨2,rfl⟩,by decide⟩
 ·exact⟨by decide,by decide,by decide,by decide,⟨4,rfl⟩,by decide⟩
 ·exact⟨by decide,by decide,by decide,by decide,⟨2,rfl⟩,by decide⟩
 ·exact⟨by decide,by decide,by decide,by decide,⟨4,rfl⟩,by decide⟩
 ·exact⟨by decide,by decide,by decide,by decide,⟨4,rfl⟩,by decide⟩
def iI (k e f:Nat):Nat:=if rdN k=16 then f else if e=0 then f else f|||gW k
def ii (k e:Nat):Int:=if rdN k=16 then lsI k+e else if e=0 then lsI k else lsI k+e-1
def pg (k c:Nat):Nat:=if(c=3∨c=4)∧k≤3 then kp k else 0
def lS (k c:Nat):Nat:=if k≤3 then(if c=3 then wrN k else if c=4 then wrN k|||gW k/2 else 0) else 0
theorem qD (N M:Nat)(E:Int):dY N M E=E+dY N M 0:=by
 unfold dY;omega
theorem pP (d m:Nat):bitLen d<m+1↔ ¬2^m≤d:=by
 constructor
 ·intro h c
  have hd:d≠0:=by
   have:=bG m;omega
  obtain⟨-,-,h3⟩:=uB d hd;have:(2:Nat)^bitLen d≤2^m:=Nat.pow_le_pow_right (by omega) (by omega);omega
 ·intro h
  have:=bF d m (by omega);omega
theorem gZ (n L:Nat)(h:(Dg.dg 4294967296 n).length≤L):tz n≤32*L:=by
 by_cases h0:n=0
 ·subst h0;exact Nat.zero_le _
 ·obtain⟨m,hm⟩:=fO h0
  have h1:=Dg.vl_lt 4294967296 (Dg.dg 4294967296 n) (Dg.small_dg _ _ (by omega));rw[Dg.vl_dg _ _ (by omega)] at h1;have h2:4294967296^ (Dg.dg 4294967296 n).length≤4294967296^L:=Nat.pow_le_pow_right (by omega) h;have h3:(4294967296:Nat)^L=2^ (32*L):=by rw[Nat.pow_mul]
  have h4:2^tz n*1≤2^tz n*(2*m+1):=Nat.mul_le_mul_left _ (by omega);rw[←hm,Nat.mul_one] at h4;have h5:2^tz n<2^ (32*L):=by rw[←h3];omega
  exact Nat.le_of_lt ((Nat.pow_lt_pow_iff_right (by omega)).1 h5)
def cC (c:Int)(t:ak):ak×Int:=if c=0 then bU t else(⟨false,0,0⟩,c)
def dJ (t:ak):Int:=if t.n=0 then 0 else if t.s then-1 else 1
theorem gN {t:ak}(h:t.n≠0):(bare t).n≠0∧(bare t).e=t.e+(tz t.n:Int)∧(bare t).e+(bitLen (bare t).n:Int)=t.e+(bitLen t.n:Int):=by
 obtain⟨m,hm⟩:=fO h;have e:(bare t).n=2*m+1∧(bare t).e=t.e+(tz t.n:Int):=by
  unfold bare;rw[if_neg h];exact⟨lI hm,rfl⟩
 have hb:bitLen t.n=tz t.n+bitLen (2*m+1):=by
  have:=Ad (2*m+1) (tz t.n) (by omega)
  rwa [←hm] at this
 refine⟨by omega,e.2, ?_⟩;rw[e.1,e.2,hb];omega
def oI:fz:=⟨false,0,0,false,false,false⟩
theorem fI (a:ak):(bare a).n=0↔a.n=0:=by
 by_cases h:a.n=0
 ·unfold bare
  rw[if_pos h];exact⟨fun _=>h,fun _=>rfl⟩
 ·unfold bare
  rw[if_neg h];obtain⟨m,hm⟩:=fO h;have:=lI hm;exact⟨fun h2=>by simp only at h2;omega,fun h2=>absurd h2 h⟩
theorem Re {k:Nat}(hk:1≤k∧k≤8):gW k<18446744073709551616:=by
 rcases bO hk with rfl|rfl|rfl|rfl|rfl|rfl|rfl|rfl<;>decide
def heE (R L:Int)(ld:Nat)(t:fz):Nat:=(t.p-L).toNat+if R=2∧t.d&&& ld≠0 then 1 else 0
theorem om {x L:Nat}(h:(Dg.dg 4294967296 x).length≤L):x<4294967296^L:=by
 have h1:=Dg.vl_lt 4294967296 _ (Dg.small_dg 4294967296 x (by omega));rw[Dg.vl_dg _ _ (by omega)] at h1;exact Nat.lt_of_lt_of_le h1 (Nat.pow_le_pow_right (by omega) h)
theorem tD {x y:Nat}(h:x≤y):(Dg.dg 4294967296 x).length≤(Dg.dg 4294967296 y).length:=
 Dg.dg_len_le 4294967296 _ _ (by omega) (Nat.lt_of_le_of_lt h (om (Nat.le_refl _)))
def ge (k:Nat)(ng:Bool)(e f:Nat):Nat:=if dh k ng e f=2 then(lJ (rdN k) 64 (iI k e f) (ii k e)).1 else 0
def gw (k:Nat)(ng:Bool)(e f:Nat):Int:=if dh k ng e f=2 then(lJ (rdN k) 64 (iI k e f) (ii k e)).2 else 0
theorem VL (k:Nat):0<gW k:=Nat.pow_pos (by omega)
theorem ZM {k:Nat}(hk:1≤k∧k≤8):gW k<2^64:=by
 rcases bO hk with rfl|rfl|rfl|rfl|rfl|rfl|rfl|rfl<;>decide
theorem jX {k:Nat}{ng:Bool}{e f:Nat}(h:dh k ng e f=2):0<iI k e f:=by
 unfold iI
 by_cases h0:e=0
 ·subst h0
  rw[if_pos rfl,ite_self]
  rcases Nat.eq_zero_or_pos f with hf|hf
  ·subst hf
   unfold dh at h;simp only[if_true] at h
   split at h
   ·omega
   ·split at h
    ·omega
    ·split at h<;>omega
  ·exact hf
 ·rw[if_neg h0]
  by_cases hr:rdN k=16
  ·rw[if_pos hr]
   have h45:k=4∨k=5:=by
    unfold rdN at hr
    split at hr
    ·exact .inl rfl
    ·exact .inr rfl
    ·omega
   unfold dh at h;rw[if_neg (by omega),if_pos (by omega)] at h
   rcases Nat.eq_zero_or_pos f with hf|hf
   ·rw[if_pos hf] at h
    omega
   ·exact hf
  ·rw[if_neg hr]
   exact adB (VL k)
theorem vS {k:Nat}(hk:1≤k∧k≤8)(e:Nat){f:Nat}(hf:f<2^64):iI k e f<2^64:=by
 unfold iI
 split
 ·exact hf
 ·split
  ·exact hf
  ·exact Nat.or_lt_two_pow hf (ZM hk)
theorem li (s:ByteArray)(i:Nat)(h:i<s.size): ∀w,(Instr.index 9 (.string s) (yi i)).run Tryz.prog w= .ok (.int .u8 ((byt s i:Nat):Int)) w:=by
 intro w;rw[run_index_string w 9 s .i64 i underlying9,dif_pos ⟨by omega,by omega⟩];have:=KD s i h;simp only[Int.toNat_natCast];rw[this]
theorem Wb (s:ByteArray)(hd: ∀i,i<s.size→48≤byt s i∧byt s i≤57)(hs:s.size≤12000)(p:Nat)(hp:p≤s.size):(Dg.dg 4294967296 (pv s p)).length≤12000:=by
 refine Nat.le_trans (Dg.dg_len_le 4294967296 _ p (by omega) ?_) (by omega);exact Nat.lt_of_lt_of_le (Tb s hd p hp) (Nat.pow_le_pow_left (by omega) p)
theorem wS {R p:Int}(h: -20000≤p∧p≤20000): -80000≤(ai R:Int)*p∧(ai R:Int)*p≤80000:=by
 unfold ai
 split<;>simp<;>omega
theorem Xw {c:Int}(h: ¬c=0)(t:ak):cC c t=(⟨false,0,0⟩,c):=if_neg h
theorem wI {c:Int}{t r:ak}(h:cC c t=(r,0)):r=bare t∧aS (Dg.dg 4294967296 r.n) r.e=0:=by
 unfold cC at h
 by_cases h0:c=0
 ·rw[if_pos h0] at h
  unfold bU at h
  by_cases h1:1200< (Dg.dg 4294967296 (bare t).n).length
  ·rw[if_pos h1] at h
   simp at h
  ·rw[if_neg h1] at h
   by_cases h2:(bare t).e< -20000∨20000< (bare t).e
   ·rw[if_pos h2] at h
    simp at h
   ·rw[if_neg h2] at h
    simp only[Prod.mk.injEq,and_true] at h;subst h;have hn:=Dg.norm_dg 4294967296 (bare t).n (by omega);refine⟨rfl, ?_⟩;unfold aS;rw[if_pos (pJ hn (by omega)),if_neg h2]
 ·rw[if_neg h0] at h
  simp only[Prod.mk.injEq] at h;exact absurd h.2 h0
def enN (k:Nat)(ng:Bool)(xs:List Nat)(p:Int):ak×Int:=
 cC (ix xs p (rdN k) (dgN k) (lsI k) (gsI k)) ⟨ng,Dg.vl 4294967296 xs,(ai (rdN k):Int)*p⟩
theorem IZ {a b:Nat}(h:a≤b):(Dg.dg 65536 a).length≤(Dg.dg 65536 b).length:=by
 refine Dg.dg_len_le 65536 a _ (by omega) (Nat.lt_of_le_of_lt h ?_);have:=Dg.vl_lt 65536 (Dg.dg 65536 b) (Dg.small_dg 65536 b (by omega))
 rwa [Dg.vl_dg 65536 b (by omega)] at this
theorem iq {k:Nat}(hk:1≤k∧k≤8){ng:Bool}{E F:Nat}(hE:E<2^exN k)(hF:F<2^frN k)(hc:dh k ng E F=2):ji k ng E F=bare ⟨ng,iI k E F,wdI (rdN k)*ii k E⟩:=by
 unfold ji
 by_cases h3:k=3
 ·subst h3
  rw[if_pos rfl];unfold dh at hc;rw[if_pos (show 3≤3 by omega),show kp 3=2^exN 3-1 from rfl] at hc
  have hp:2≤2^exN 3:=by decide
  have hF':F<2^64:=hF;have hlead:gW 3=2^63:=rfl;unfold iI ii;rw[if_neg (show¬rdN 3=16 by decide),if_neg (show¬rdN 3=16 by decide),hlead]
  generalize(2:Nat)^exN 3=px at*
  by_cases e0:E=0
  ·rw[if_neg (show¬(E+1=px∨0<E∧F<2^ (dgN 3-1)) by omega),if_pos e0,if_pos e0]
   subst e0;simp
  ·rw[if_neg e0] at hc
   by_cases e1:E=px-1
   ·rw[if_pos e1] at hc
    by_cases hz:F=(if 3=3 then 2^63 else 0)
    ·rw[if_pos hz] at hc
     omega
    ·rw[if_neg hz] at hc
     omega
   ·rw[if_neg e1] at hc
    have hf: ¬F<2^63:=fun hf=>by
     rw[if_pos ⟨rfl,hf⟩] at hc;omega
    rw[if_neg (show¬(E+1=px∨0<E∧F<2^ (dgN 3-1)) from fun h=>by
     rcases h with h|h
     ·omega
     ·exact hf h.2),if_neg e0,if_neg e0,adg (by omega) hF',show lsI 3+(((E-1:Nat):Nat):Int)=lsI 3+(E:Int)-1 from by omega]
 ·rw[if_neg h3]
  by_cases h2:k≤2
  ·rw[if_pos h2]
   have hfd:frN k=dgN k-1∧rdN k=2∧2≤2^exN k:=by rcases(show k=1∨k=2 by omega) with rfl|rfl<;>decide
   unfold dh at hc;rw[if_pos (show k≤3 by omega),show kp k=2^exN k-1 from rfl,if_neg h3] at hc
   rw[hfd.1] at hF;unfold iI ii;rw[if_neg (show¬rdN k=16 by omega),if_neg (show¬rdN k=16 by omega)]
   have hp:=hfd.2.2;have hL:gW k=2^ (dgN k-1):=rfl;rw[hL]
   by_cases e0:E=0
   ·rw[if_neg (show¬E+1=2^exN k by omega),if_pos e0,if_pos e0,if_neg (show¬0<E by omega)]
    subst e0;simp
   ·rw[if_neg e0] at hc
    by_cases e1:E=2^exN k-1
    ·rw[if_pos e1] at hc
     split at hc<;>omega
    ·rw[if_neg (show¬E+1=2^exN k by omega),if_neg e0,if_neg e0,if_pos (show 0<E by omega),YZ hF,show lsI k+(((E-1:Nat):Nat):Int)=lsI k+(E:Int)-1 from by omega]
  ·rw[if_neg h2]
   by_cases h5:k≤5
   ·rw[if_pos h5]
    have hr:rdN k=16:=by rcases(show k=4∨k=5 by omega) with rfl|rfl<;>rfl
    unfold iI ii;rw[if_pos hr,if_pos hr]
   ·rw[if_neg h5]
    have hfd:frN k=dgN k-1∧rdN k=2:=by rcases(show k=6∨k=7∨k=8 by omega) with rfl|rfl|rfl<;>decide
    rw[hfd.1] at hF;unfold dh at hc;rw[if_neg (show¬k≤3 by omega),if_neg h5] at hc
    have e0:E≠0:=fun e0=>by
     rw[if_pos e0] at hc
     split at hc<;>omega
    unfold iI ii;rw[if_neg (show¬rdN k=16 by omega),if_neg (show¬rdN k=16 by omega),if_neg e0,if_neg e0,if_neg e0,show gW k=2^ (dgN k-1) from rfl,YZ hF]
theorem I5 {k:Nat}(hk:1≤k∧k≤8){ng:Bool}{E F:Nat}(hE:E<2^exN k)(hF:F<2^frN k)(hF64:F<2^64)(hc:dh k ng E F=2)(hr:rdN k=16):
  4*gw k ng E F≤(ji k ng E F).e∧(ji k ng E F).e<4*gw k ng E F+4∧ge k ng E F=shN (ji k ng E F).n ((ji k ng E F).e-4*gw k ng E F):=by
 rw[iq hk hE hF hc];unfold ge gw;rw[if_pos hc,if_pos hc,hr];have h0:=jX hc;have hl:=vS hk E hF64;generalize iI k E F=D at*;generalize ii k E=P at*;obtain⟨m,hm⟩:=fO (n:=D) (by omega);have hd:=lI hm;obtain⟨a,b,hab,hb⟩: ∃a b,tz D=4*a+b∧b<4:=⟨tz D/4,tz D % 4,by omega,Nat.mod_lt _ (by omega)⟩;have e16:D=16^a*(2^b*(2*m+1)):=by
  rw[hm,hab,Nat.pow_add,Nat.pow_mul,Nat.mul_assoc]
 have hq:2^b*(2*m+1) % 16≠0:=by
  rcases(show b=0∨b=1∨b=2∨b=3 by omega) with rfl|rfl|rfl|rfl<;>omega
 have hs:=FZ 16 (by omega) a 64 (2^b*(2*m+1)) P hq (by rw[←e16];exact hl);rw[←e16] at hs;rw[hs];unfold bare;rw[if_neg (by show¬D=0;omega),show wdI ((16:Nat):Int)=4 from by decide]
 simp only;rw[hab];refine⟨by push_cast;omega,by push_cast;omega, ?_⟩;rw[show 4*P+((4*a+b:Nat):Int)-4*(P+(a:Int))=(b:Int) from by push_cast;omega]
 unfold shN;rw[if_neg (by omega),Int.toNat_natCast,←hab,hd,Nat.mul_comm]
theorem zd {k:Nat}(hk:1≤k∧k≤8){ng:Bool}{E F:Nat}(hc:dh k ng E F=1):ji k ng E F=⟨false,0,0⟩:=by
 have key: ∀(s:Bool) (e:Int),bare ⟨s,0,e⟩=⟨false,0,0⟩:=fun s e=>by simp[bare]
 have h2:2≤2^exN k:=by
  rcases bO hk with rfl|rfl|rfl|rfl|rfl|rfl|rfl|rfl<;>decide
 unfold dh at hc;unfold ji
 by_cases h3:k≤3
 ·rw[if_pos h3] at hc
  by_cases he:E=0
  ·rw[if_pos he] at hc
   by_cases hf:F=0
   ·subst he hf
    by_cases h4:k=3
    ·rw[if_pos h4,if_neg (by rintro(h|h)<;>omega)]
     exact key _ _
    ·rw[if_neg h4,if_pos (by omega),if_neg (by omega),if_neg (by omega)]
     exact key _ _
   ·rw[if_neg hf] at hc
    omega
  ·rw[if_neg he] at hc
   exfalso
   repeat' split at hc
   all_goals omega
 ·rw[if_neg h3] at hc
  rw[if_neg (show¬k=3 by omega),if_neg (show¬k≤2 by omega)]
  by_cases h5:k≤5
  ·rw[if_pos h5] at hc⊢
   by_cases hf:F=0
   ·subst hf
    exact key _ _
   ·rw[if_neg hf] at hc
    omega
  ·rw[if_neg h5] at hc⊢
   by_cases he:E=0
   ·rw[if_pos he]
   ·rw[if_neg he] at hc
    omega
def d8 (s:Bool)(m:Nat)(e:Int)(left:Bool):ak:=⟨s,m*2+(if left=true then 1 else 0),e-1⟩
def eQ (t:ak):ak:=if bitLen t.n≤128 then t else d8 t.s (t.n/2^ (bitLen t.n-128)) (t.e+((bitLen t.n-128:Nat):Int)) (decide (tz t.n<bitLen t.n-128))
theorem MU:Dg.dg 4294967296 1=[1]:=rfl
theorem ut.symm {J:Int}{N1 M1 N2 M2:Nat}{E1 E2:Int}(h:ut J N1 M1 E1 N2 M2 E2):ut J N2 M2 E2 N1 M1 E1:=fun j hj=>⟨(h j hj).1.symm,(h j hj).2.symm⟩
theorem Gk {X Y X' Y':Nat}(hY:0<Y)(hY':0<Y')(h:X*Y'=2*X'*Y):
  X'/Y'=X/Y/2∧(X' % Y'=0↔X/Y % 2=0∧X % Y=0)∧dm ((X' % Y'*2:Nat):Int) Y'=if X/Y % 2=1 then(if X % Y=0 then 0 else 1) else-1:=by
 obtain⟨q,hq⟩: ∃q,X/Y=q:=⟨_,rfl⟩;obtain⟨r,hr⟩: ∃r,X % Y=r:=⟨_,rfl⟩;have hX:X=Y*q+r:=by rw[←hq,←hr];exact(Nat.div_add_mod X Y).symm
 have hrY:r<Y:=by rw[←hr];exact Nat.mod_lt _ hY
 have hb:q % 2<2:=Nat.mod_lt _ (by omega);have hq2:q=2*(q/2)+q % 2:=(Nat.div_add_mod q 2).symm;generalize hA:q/2=a at hq2;generalize hB:q % 2=b at hq2 hb;have e1:2*X'*Y=(Y*(2*a+b)+r)*Y':=by rw[←h,hX,←hq2]
 have hlt:X'<Y'*(a+1):=by
  refine Nat.lt_of_mul_lt_mul_left (a:=2*Y) ?_;have e2:(Y*(2*a+b)+r)*Y'< (2*Y*(a+1))*Y':=by
   refine Nat.mul_lt_mul_of_pos_right ?_ hY';have:Y*(2*a+b)≤Y*(2*a+1):=Nat.mul_le_mul_left _ (by omega);have e3:2*Y*(a+1)=Y*(2*a+1)+Y:=by
    rw[Nat.mul_add,Nat.mul_add,Nat.mul_comm 2 Y,Nat.mul_assoc];omega
   omega
  calc 2*Y*X'=2*X'*Y:=by rw[Nat.mul_assoc,Nat.mul_comm Y X',Nat.mul_assoc]
   _< (2*Y*(a+1))*Y':=by rw[e1];exact e2
   _=2*Y*(Y'*(a+1)):=by rw[Nat.mul_assoc,Nat.mul_comm (a+1) Y']
 have hge:Y'*a≤X':=by
  refine Nat.le_of_mul_le_mul_left (show 2*Y*(Y'*a)≤2*Y*X' from ?_) (by omega)
  have c1:2*Y*(Y'*a)=(Y*(2*a))*Y':=by rw[Nat.mul_comm Y' a,←Nat.mul_assoc,Nat.mul_comm 2 Y,Nat.mul_assoc Y 2 a]
  have c2:Y*(2*a)≤Y*(2*a+b)+r:=Nat.le_trans (Nat.mul_le_mul_left _ (by omega)) (Nat.le_add_right _ _);have c3:(Y*(2*a+b)+r)*Y'=2*Y*X':=by rw[←e1,Nat.mul_assoc,Nat.mul_comm X' Y,Nat.mul_assoc]
  rw[c1,←c3];exact Nat.mul_le_mul_right _ c2
 have hd:X'/Y'=a:=Nat.div_eq_of_lt_le (by rw[Nat.mul_comm];exact hge) (by rw[Nat.mul_comm];exact hlt);obtain⟨r',hr'⟩: ∃r',X' % Y'=r':=⟨_,rfl⟩;have hX':X'=Y'*a+r':=by rw[←hd,←hr'];exact(Nat.div_add_mod X' Y').symm
 have hr'Y:r'<Y':=by rw[←hr'];exact Nat.mod_lt _ hY'
 have e4:2*r'*Y=(b*Y+r)*Y':=by
  have e5:2*(Y'*a+r')*Y=(Y*(2*a+b)+r)*Y':=by rw[←hX'];exact e1
  have e6:2*(Y'*a+r')*Y=2*Y'*a*Y+2*r'*Y:=by rw[Nat.mul_add,Nat.add_mul,←Nat.mul_assoc]
  have e7:(Y*(2*a+b)+r)*Y'=2*Y'*a*Y+(b*Y+r)*Y':=by
   rw[Nat.mul_add,Nat.add_assoc,Nat.add_mul,Nat.mul_comm Y b]
   congr 1
   rw[Nat.mul_comm Y (2*a),Nat.mul_assoc,Nat.mul_comm Y Y',←Nat.mul_assoc,Nat.mul_assoc 2 a Y',Nat.mul_comm a Y',←Nat.mul_assoc]
  omega
 rw[hq,hr,hd,hr',hA,hB];have hb01:b=0∨b=1:=by omega
 refine⟨rfl, ?_, ?_⟩
 ·constructor
  ·intro h0
   subst h0;have:(b*Y+r)*Y'=0:=by rw[←e4];simp
   have h2:b*Y+r=0:=by
    rcases Nat.mul_eq_zero.1 this with h|h
    ·exact h
    ·omega
   rcases hb01 with rfl|rfl
   ·exact⟨rfl,by omega⟩
   ·omega
  ·rintro⟨rfl,rfl⟩
   have:2*r'*Y=0:=by rw[e4];simp
   rcases Nat.mul_eq_zero.1 this with h|h<;>omega
 ·unfold dm
  rcases hb01 with rfl|rfl
  ·rw[if_neg (show¬(0:Nat)=1 by omega)]
   have:r'*2<Y':=by
    refine Nat.lt_of_mul_lt_mul_right (a:=Y) ?_;rw[Nat.mul_comm r' 2,e4,Nat.zero_mul,Nat.zero_add,Nat.mul_comm Y' Y];exact Nat.mul_lt_mul_of_pos_right hrY hY'
   rw[if_pos (by omega)]
  ·rw[if_pos (show(1:Nat)=1 from rfl)]
   rw[Nat.one_mul] at e4
   by_cases h0:r=0
   ·rw[if_pos h0]
    subst h0;have:r'*2=Y':=by
     refine Nat.eq_of_mul_eq_mul_right hY ?_;rw[Nat.mul_comm r' 2,e4,Nat.add_zero,Nat.mul_comm]
    rw[if_neg (by omega),if_neg (by omega)]
   ·rw[if_neg h0]
    have:Y'<r'*2:=by
     refine Nat.lt_of_mul_lt_mul_right (a:=Y) ?_;rw[Nat.mul_comm r' 2,e4,Nat.mul_comm Y' Y];exact Nat.mul_lt_mul_of_pos_right (by omega) hY'
    rw[if_neg (by omega),if_pos (by omega)]
theorem qG {X1 Y1 X2 Y2:Nat}(h1:0<Y1)(h2:0<Y2)(h:X1*Y2=X2*Y1):X1/Y1=X2/Y2∧(X1 % Y1=0↔X2 % Y2=0):=by
 have key: ∀{X1 Y1 X2 Y2:Nat},0<Y1→0<Y2→X1*Y2=X2*Y1→X2/Y2≤X1/Y1∧(X2 % Y2=0→X1 % Y1=0):=fun {X1 Y1 X2 Y2} h1 h2 h=>by
  refine⟨?_,fun g=> ?_⟩
  ·refine(Nat.le_div_iff_mul_le h1).2 ?_
   refine Nat.le_of_mul_le_mul_right ?_ h2;rw[h,Nat.mul_assoc,Nat.mul_comm Y1 Y2,←Nat.mul_assoc];exact Nat.mul_le_mul_right _ (Nat.div_mul_le_self X2 Y2)
  ·obtain⟨k,hk⟩:=Nat.dvd_of_mod_eq_zero g
   have:X1=Y1*k:=by
    refine Nat.eq_of_mul_eq_mul_right h2 ?_;rw[h,hk,Nat.mul_assoc,Nat.mul_comm k Y1,Nat.mul_comm Y2,Nat.mul_assoc]
   rw[this];exact Nat.mul_mod_right _ _
 have a:=key h1 h2 h;have b:=key h2 h1 h.symm;exact⟨Nat.le_antisymm b.1 a.1,b.2,a.2⟩
theorem ac4 {n j:Nat}(h:j<bitLen n):2^j≤n:=Nat.le_of_not_lt fun g=>by
 have:=bF n j g;omega
theorem qY (t:ak)(h0:t.n≠0):(eQ t).n≠0∧(eQ t).s=t.s∧(eQ t).n<2^129∧t.e-1≤(eQ t).e∧(eQ t).e≤t.e+((bitLen t.n-128:Nat):Int):=by
 unfold eQ
 by_cases g:bitLen t.n≤128
 ·rw[if_pos g]
  exact⟨h0,rfl,wZ (by omega),by omega,by omega⟩
 ·rw[if_neg g]
  obtain⟨sp,hs⟩: ∃s,bitLen t.n-128=s:=⟨_,rfl⟩;rw[hs];have l1:2^ (sp+127)≤t.n:=ac4 (by omega);have l2:t.n<2^ (sp+128):=wZ (by omega);have d1:2^127≤t.n/2^sp:=(Nat.le_div_iff_mul_le (bG sp)).2 (by rw[←Nat.pow_add,Nat.add_comm];exact l1);have d2:t.n/2^sp<2^128:=(Nat.div_lt_iff_lt_mul (bG sp)).2 (by rw[←Nat.pow_add,Nat.add_comm];exact l2);generalize t.n/2^sp=q at d1 d2;refine⟨?_,rfl, ?_, ?_, ?_⟩
  ·show q*2+(if decide (tz t.n<sp)=true then 1 else 0)≠0
   have:0<2^127:=bG _;omega
  ·show q*2+(if decide (tz t.n<sp)=true then 1 else 0)<2^129
   have e:2^129=2^128*2:=Nat.pow_succ ..;have:(if decide (tz t.n<sp)=true then 1 else 0)≤1:=by split<;>omega
   omega
  ·show t.e-1≤t.e+(sp:Int)-1
   omega
  ·show t.e+(sp:Int)-1≤t.e+(sp:Int)
   omega
def rtE (t:ak):Int:=min (max (eQ t).e (-20000)) 20000
def rtN (t:ak):Nat:=(eQ t).n*2^ ((eQ t).e-rtE t).toNat
def rtM (t:ak):Nat:=2^ (rtE t-(eQ t).e).toNat
def sH (t:ak):Prop:= -50000≤t.e∧t.e+(bitLen t.n:Int)≤50000
theorem atoi_dig (z:ByteArray)(h:digB z=true):Lib.atoi z.data.toList=some ((pv z z.size:Nat):Int):=by
 obtain⟨h0,hd⟩:=(digB_iff z).1 h;have hlen:z.data.toList.length=z.size:=Array.length_toList;have hget: ∀k,k<z.size→ ∃b,z.data.toList[k]? =some b∧b.toNat=byt z k:=fun k hk=>by
  refine⟨z[k], ?_,KD z k hk⟩;rw[List.getElem?_eq_getElem (by rw[hlen];exact hk),Array.getElem_toList];rfl
 have hk: ∀k,k≤z.size→Lib.decFrom 0 (z.data.toList.take k)=some (pv z k):=by
  intro k
  induction k with
  |zero=>intro _;rfl
  |succ k ih=>
   intro hk;obtain⟨b,e1,e2⟩:=hget k (by omega);have hb:=hd k (by omega);exact Lib.decFrom_take _ k 0 (pv z k) b _ (ih (by omega)) e1 (by
    unfold Lib.digitVal;rw[if_pos (by rw[e2];exact hb),e2])
 have ht:=hk z.size (Nat.le_refl _);rw[←hlen,List.take_length,hlen] at ht;obtain⟨b0,e1,e2⟩:=hget 0 (by omega);have hb:=hd 0 (by omega);rw[←e2] at hb
 cases hl:z.data.toList with
 |nil=>rw[hl] at hlen;exact absurd hlen.symm h0
 |cons b r=>
  rw[hl] at ht e1;obtain rfl:b=b0:=by simpa using e1
  have n1:(b==45)=false:=by
   rw[beq_eq_false_iff_ne];rintro rfl;exact absurd hb.1 (by decide)
  have n2:(b==43)=false:=by
   rw[beq_eq_false_iff_ne];rintro rfl;exact absurd hb.1 (by decide)
  show(if(b==45)=true then Option.map (fun(m:Nat)=> -(m:Int)) (Lib.decNat r) else if(b==43)=true then Option.map (fun(m:Nat)=>(m:Int)) (Lib.decNat r) else Option.map (fun(m:Nat)=>(m:Int)) (Lib.decNat (b::r)))=_
  rw[n1,n2,if_neg (by decide),if_neg (by decide)];unfold Lib.decNat;rw[if_neg (by simp),ht];rfl
def RB6 (W:World)(v:Value)(x y:ak):Prop:= ∃p q,v= .agg #[.bool x.s,p,yi x.e,.bool y.s,q,yi y.e]∧Rd W .i64 p (Dg.dg 65536 x.n)∧Rd W .i64 q (Dg.dg 65536 y.n)
theorem tz_bits {m k:Nat}(h0:m≠0)(h:m<2^k):tz m≤k:=by
 obtain⟨b1,t2,t3⟩:=gN (t:=⟨false,m,0⟩) h0;have hb:=bF m k h;simp only at t2 t3;have:(0:Int)≤(bitLen (bare ⟨false,m,0⟩).n:Int):=by omega
 omega
theorem shN_down (m t:Nat):shN m (-(t:Int))=m/2^t:=by
 unfold shN
 by_cases h:t=0
 ·subst h
  rw[if_neg (by decide)];simp
 ·rw[if_pos (by omega)]
  congr 2
  omega
def nrV (r:Bool×ByteArray×Int):Bool×Nat×Nat×Int:=
 if pv r.2.1 r.2.1.size=0 then(false,0,1,0) else
  (r.1,(nrM (pv r.2.1 r.2.1.size) r.2.2).1/2^tz (nrM (pv r.2.1 r.2.1.size) r.2.2).1,(nrM (pv r.2.1 r.2.1.size) r.2.2).2,r.2.2+(tz (nrM (pv r.2.1 r.2.1.size) r.2.2).1:Int))
def dcG (x:ak):Int:=pbV ((bitLen x.n:Int)-1+x.e)
def dcW (x:ak):Nat:=scA x.n x.e (60-dcG x)/scB x.e (60-dcG x)
def dcL (x:ak):Bool:=decide (0< (Dg.dg 4294967296 (scA x.n x.e (60-dcG x) % scB x.e (60-dcG x))).length)
def dcH (x:ak):Nat:=if dcL x=true then dcW x*2+1 else dcW x*2
end Go.Proofs.YtdhpndnncmagiaaGreatDoor
