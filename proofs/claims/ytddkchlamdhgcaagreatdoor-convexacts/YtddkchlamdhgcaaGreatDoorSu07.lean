/-
  Texts laid together: Dz, Leaf, Rev, Begun, Minus, Laws2, Dy3, Co9, Co12, Co15, Co16, Co17, Co18, Ar1, Gr1, Roo1, Gm1, Gr6, Gr7, Dy6, Dr3a, Dp2, Dy9, Dl8, Gm2, Gh3, Gn2, Ce4, Ce10, Ef2, Ce9, Eb1, Cr11, Ar2, As4, Gq6, Gq7, Gq10, Eh1, Eh3.
-/
import Derived.Test.YtddkchlamdhgcaaGreatDoorSu01
import Derived.Test.YtddkchlamdhgcaaGreatDoorSu02
import Derived.Test.YtddkchlamdhgcaaGreatDoorSu03
set_option maxRecDepth 100000
set_option maxHeartbeats 4000000
namespace Go.Proofs.YtddkchlamdhgcaaGreatDoor
open _root_.Go.Proofs.Tryz
open Go.RowKit
theorem Y5 (s:Bool)(n k:Nat):sz s n*(k:Int)=sz s (n*k):=by
 unfold sz
 cases s<;>simp[Int.neg_mul]
theorem QI {s t:Bool}{n m:Nat}(h:sz s n=sz t m)(hn:n≠0):s=t∧n=m:=by
 unfold sz at h
 cases s<;>cases t<;>simp at h<;>first|exact⟨rfl,by omega⟩| (exfalso;omega)
theorem eV (K:Nat)(a:ak):V K a=sz a.s (a.n*2^ (a.e+K).toNat):=Y5 _ _ _
theorem fH {K:Nat}{a b:ak}(ha: -(K:Int)≤a.e)(hb: -(K:Int)≤b.e)(h:V K a=V K b):bare a=bare b:=by
 rw[eV,eV] at h;have p1:0<2^ (a.e+K).toNat:=Nat.pow_pos (by omega);have p2:0<2^ (b.e+K).toNat:=Nat.pow_pos (by omega);unfold bare
 by_cases h0:a.n=0
 ·have:b.n=0:=by
   rw[h0,Nat.zero_mul] at h
   by_cases hb0:b.n=0
   ·exact hb0
   ·have hne:b.n*2^ (b.e+K).toNat≠0:=Nat.ne_of_gt (Nat.mul_pos (by omega) p2)
    have:=(QI h.symm hne).2;omega
  rw[if_pos h0,if_pos this]
 ·have hne:a.n*2^ (a.e+K).toNat≠0:=Nat.ne_of_gt (Nat.mul_pos (by omega) p1)
  obtain⟨hs,hm⟩:=QI h hne;have hb0:b.n≠0:=by
   intro e;rw[e,Nat.zero_mul] at hm;exact hne hm
  rw[if_neg h0,if_neg hb0];obtain⟨m,h1⟩:=fO h0;obtain⟨k,h2⟩:=fO hb0;have e1:=lI h1;have e2:=lI h2;have h3:2^ (tz a.n+(a.e+K).toNat)*(2*m+1)=2^ (tz b.n+(b.e+K).toNat)*(2*k+1):=by
   rw[Nat.pow_add,Nat.pow_add,Nat.mul_assoc,Nat.mul_comm (2^ (a.e+K).toNat),←Nat.mul_assoc,←h1,Nat.mul_assoc,Nat.mul_comm (2^ (b.e+K).toNat),←Nat.mul_assoc,←h2];exact hm
  obtain⟨h4,h5⟩:=Dh h3;rw[e1,e2,hs,h5];have:a.e+(tz a.n:Int)=b.e+(tz b.n:Int):=by omega
  rw[this]
def cO (a b:ak):ak:=
 let e0:=min a.e b.e
 let e1:=if a.n=0 then b.e else e0
 let e:=if b.n=0 then a.e else e1
 let x:=a.n*2^ (max 0 (a.e-e)).toNat
 let y:=b.n*2^ (max 0 (b.e-e)).toNat
 if a.s=b.s then⟨a.s,x+y,e⟩ else if y≤x then⟨a.s,x-y,e⟩ else⟨b.s,y-x,e⟩
theorem jC (v:Value)(zs:List Nat)(w:World)(h:Rd w .u32 v zs):
  yC 58 #[v] w fun e w'=>e= .returned (yi (chk zs))∧w'=w:=by
 obtain⟨ao,cap,rfl,hlc,hm,hc⟩:=h;unfold maxLen at hm
 by_cases h0:zs.length=0
 ·have hz:zs=[]:=List.eq_nil_of_length_eq_zero h0
  subst hz
  go_enter func58,ntmps58
  go_wp2
  go_ret
  exact⟨rfl,rfl⟩
 ·obtain⟨b,off,rfl,hcell⟩:=hc (by omega)
  have h1:=hcell (zs.length-1) (by omega)
  by_cases hz:zs.getD (zs.length-1) 0=0
  ·have e1:chk zs=1:=Oq (by omega) hz
   rw[e1];rw[hz] at h1;clear hcell hc e1 hz
   go_enter func58,ntmps58
   go_wp2
   go_ret
   exact⟨rfl,rfl⟩
  ·obtain⟨d,hd⟩: ∃d,zs.getD (zs.length-1) 0=d:=⟨_,rfl⟩
   by_cases hg:1200<zs.length
   ·rw[Ot hz hg]
    rw[hd] at h1 hz;clear hcell hc hd
    go_enter func58,ntmps58
    go_wp2
    go_ret
    exact⟨rfl,rfl⟩
   ·rw[ZT hz hg]
    rw[hd] at h1 hz;clear hcell hc hd
    go_enter func58,ntmps58
    go_wp2
    go_ret
    exact⟨rfl,rfl⟩
theorem IJ {zs cur:List Nat}{i:Nat}(h:XT zs cur i)(hi:i<zs.length-1-i):XT zs ((cur.set i (cur.getD (zs.length-1-i) 0)).set (zs.length-1-i) (cur.getD i 0)) (i+1):=by
 obtain⟨h1,h2,h3⟩:=h;refine⟨by simpa using h1,by omega,fun k hk=> ?_⟩
 rw[Dg.getD_set _ _ _ _ (by simp;omega),Dg.getD_set _ _ _ _ (by omega)]
 by_cases e1:zs.length-1-i=k
 ·rw[if_pos e1,if_pos (by omega),h3 i (by omega),if_neg (by omega)]
  rw[←e1,show zs.length-1-(zs.length-1-i)=i from by omega]
 ·rw[if_neg e1]
  by_cases e2:i=k
  ·rw[if_pos e2,if_pos (by omega),h3 _ (by omega),if_neg (by omega),←e2]
  ·rw[if_neg e2,h3 k hk]
   by_cases e3:k<i∨zs.length-1-i<k
   ·rw[if_pos e3,if_pos (by omega)]
   ·rw[if_neg e3,if_neg (by omega)]
theorem aF {zs:List Nat}(h:chk zs=0):Dg.Norm zs∧zs.length≤1200:=by
 unfold chk at h
 by_cases h1:0<zs.length∧zs.getD (zs.length-1) 0=0
 ·rw[if_pos h1] at h;omega
 ·rw[if_neg h1] at h
  by_cases h2:1200<zs.length
  ·rw[if_pos h2] at h;omega
  ·refine⟨fun hne e=>h1 ⟨List.length_pos_iff.2 hne,e⟩,by omega⟩
def Z7 (xs ys ps:List Nat)(k c:Nat):Prop:=
 ps.length=xs.length∧Dg.Small 4294967296 ps∧c≤1∧Dg.vl 4294967296 (xs.take k)+4294967296^k*c=Dg.vl 4294967296 (ps.take k)+Dg.vl 4294967296 (ys.take k)
theorem Z8 {xs ys ps:List Nat}{c:Nat}(h:Z7 xs ys ps xs.length c)(hl:ys.length≤xs.length)(hv:Dg.vl 4294967296 ys≤Dg.vl 4294967296 xs):Dg.vl 4294967296 ps=Dg.vl 4294967296 xs-Dg.vl 4294967296 ys:=by
 obtain⟨h1,h2,h3,h4⟩:=h;rw[List.take_of_length_le (Nat.le_refl xs.length),List.take_of_length_le hl,List.take_of_length_le (by omega)] at h4;have hlt:=Dg.vl_lt 4294967296 ps h2;rw[h1] at hlt;have hc:c=0:=by
  rcases Nat.eq_zero_or_pos c with e|e
  ·exact e
  ·have:c=1:=by omega
   subst this;omega
 subst hc;omega
theorem aH (B n m:Nat)(hB:2≤B)(h:n≤m):(Dg.dg B n).length≤(Dg.dg B m).length:=by
 refine Dg.dg_len_le B n _ hB ?_;have:=Dg.vl_lt B (Dg.dg B m) (Dg.small_dg B m hB);rw[Dg.vl_dg B m hB] at this;omega
def bU (t:ak):ak×Int:=
 if 1200< (Dg.dg 4294967296 (bare t).n).length then(⟨false,0,0⟩,2) else if(bare t).e< -20000∨20000< (bare t).e then(⟨false,0,0⟩,3) else(bare t,0)
def gR (w:World)(r:ak×Int)(e:Ending)(w':World):Prop:=
 ∃s,e= .returned (.tuple #[ydV r.1.s s r.1.e,yi r.2])∧Own w' w.heap.size 135 .u32 s (Dg.dg 4294967296 r.1.n)∧yB w w'
def gW (k:Nat):Nat:=2^ (dgN k-1)
def iI (k e f:Nat):Nat:=if rdN k=16 then f else if e=0 then f else f|||gW k
def ii (k e:Nat):Int:=if rdN k=16 then lsI k+e else if e=0 then lsI k else lsI k+e-1
theorem Nq (x:Nat):Dg.vl 4294967296 [x % 4294967296,x/4294967296]=x:=by
 simp only[Dg.vl];omega
def iT (w:World)(c:Int)(ng:Bool)(m:Nat)(p:Int)(z:Ending)(w':World):Prop:=
 ∃v,z= .returned (yvV c ng v p)∧Rd w' .u32 v (Dg.dg 4294967296 m)∧yB w w'
def ge (k:Nat)(ng:Bool)(e f:Nat):Nat:=if dh k ng e f=2 then(lJ (rdN k) 64 (iI k e f) (ii k e)).1 else 0
def gw (k:Nat)(ng:Bool)(e f:Nat):Int:=if dh k ng e f=2 then(lJ (rdN k) 64 (iI k e f) (ii k e)).2 else 0
theorem VL (k:Nat):0<gW k:=Nat.pow_pos (by omega)
theorem ZM {k:Nat}(hk:1≤k∧k≤8):gW k<2^64:=by
 rcases bO hk with rfl|rfl|rfl|rfl|rfl|rfl|rfl|rfl<;>decide
theorem jX {k:Nat}{ng:Bool}{e f:Nat}(h:dh k ng e f=2):0<iI k e f:=by
 unfold iI
 by_cases h0:e=0
 ·subst h0
  rw[if_pos rfl,ite_self]
  rcases Nat.eq_zero_or_pos f with hf|hf
  ·subst hf
   unfold dh at h;simp only[if_true] at h
   split at h
   ·omega
   ·split at h
    ·omega
    ·split at h<;>omega
  ·exact hf
 ·rw[if_neg h0]
  by_cases hr:rdN k=16
  ·rw[if_pos hr]
   have h45:k=4∨k=5:=by
    unfold rdN at hr
    split at hr
    ·exact .inl rfl
    ·exact .inr rfl
    ·omega
   unfold dh at h;rw[if_neg (by omega),if_pos (by omega)] at h
   rcases Nat.eq_zero_or_pos f with hf|hf
   ·rw[if_pos hf] at h
    omega
   ·exact hf
  ·rw[if_neg hr]
   exact adB (VL k)
theorem vS {k:Nat}(hk:1≤k∧k≤8)(e:Nat){f:Nat}(hf:f<2^64):iI k e f<2^64:=by
 unfold iI
 split
 ·exact hf
 ·split
  ·exact hf
  ·exact Nat.or_lt_two_pow hf (ZM hk)
def eP (w:World)(c:Int)(ng:Bool)(m:Nat)(p:Int)(er:Int)(z:Ending)(w':World):Prop:=
 ∃v,z= .returned (.tuple #[yvV c ng v p,yi er])∧Rd w' .u32 v (Dg.dg 4294967296 m)∧yB w w'
def acy (w:World)(t:ak)(z:Ending)(w':World):Prop:=
 ∃v,z= .returned (ydV t.s v t.e)∧Rd w' .u32 v (Dg.dg 4294967296 t.n)∧Far w.heap.size v∧yB w w'
def Ys (w:World)(c:Int)(ng:Bool)(m:Nat)(p:Int)(t:ak)(er:Int)(z:Ending)(w':World):Prop:=
 ∃v x,z= .returned (.tuple #[yvV c ng v p,ydV t.s x t.e,yi er])∧Rd w' .u32 v (Dg.dg 4294967296 m)∧Rd w' .u32 x (Dg.dg 4294967296 t.n)∧Far w.heap.size x∧yB w w'
theorem nK (n m:Int)(w:World)(h0:0≤m)(h1:m≤1000000):yC 88 #[yi n,yi m] w fun z w'=>z= .returned (.bool (eJ m n))∧w'=w:=by
 have hw:IntKind.i64.wrap (-m)= -m:=IntWalk.i64_in _ ⟨by omega,by omega⟩;unfold eJ
 by_cases h:n< -m
 ·go_enter func88,ntmps88
  go_wp2
  go_ret
  simp[h]
 ·go_enter func88,ntmps88
  go_wp2
  go_ret
  simp;omega
theorem aaT {n L j:Nat}(h:n<4294967296^L):(Dg.dg 4294967296 (n^j)).length≤L*j+1:=by
 refine Dg.dg_len_le 4294967296 _ _ (by omega) ?_;rw[Nat.pow_succ,Nat.pow_mul];have h1:n^j≤(4294967296^L)^j:=Nat.pow_le_pow_left (by omega) j;have h2:0< (4294967296^L)^j:=Nat.pow_pos (Nat.pow_pos (by omega));omega
theorem TH (x:Int)(w:World)(h0:0≤x)(h1:x≤4294967295):
  yC 135 #[.int .u64 x] w fun e w'=>e= .returned (yi (bitLen x.toNat:Nat))∧w'=w:=by
 go_enter func135,ntmps135
 go_wp2
 all_goals try (exfalso;have hz:=Lib.len8tab_size;omega)
 all_goals (go_ret;refine⟨congrArg Ending.returned (congrArg (Value.int IntKind.i64) ?_),rfl⟩)
 all_goals simp only[X4]
 ·exact qz 24 _ x.toNat (by have:=bitLen_shift x.toNat 24 (by omega);rw[this];congr 2;omega) (by omega)
 ·exact qz 16 _ x.toNat (by have:=bitLen_shift x.toNat 16 (by omega);rw[this];congr 2;omega) (by omega)
 ·exact qz 8 _ x.toNat (by have:=bitLen_shift x.toNat 8 (by omega);rw[this];congr 2;omega) (by omega)
 ·have hb:=bitLen_le8 x.toNat (by omega)
  have e1:=IntWalk.wrap64_in ((bitLen x.toNat:Nat):Int) ⟨by omega,by omega⟩;rw[e1,e1]
theorem LZ (k:Nat)(w:World)(h:k≤4294967295):
  yC 105 #[.int .u64 k] w fun e w'=>e= .returned (yi (bitLen k:Nat))∧w'=w:=by
 have h64:=TH k w (by omega) (by omega);rw[Int.toNat_natCast] at h64;have H:Hid _:=h64;clear h64
 go_enter func105,ntmps105
 go_wp2_with fail
 refine Calls.mono H.out ?_;rintro e w' ⟨rfl,rfl⟩
 go_wp2
 go_ret
 exact⟨rfl,rfl⟩
def aex (w:World)(n k bl:Nat)(pv iv:Value)(wr:World):Prop:=
 ∃j:Nat,j≤bl∧iv=yi ((j:Int)-1)∧Own wr w.heap.size 135 .u32 pv (Dg.dg 4294967296 (n^ (k/2^j)))∧yB w wr
theorem qD (N M:Nat)(E:Int):dY N M E=E+dY N M 0:=by
 unfold dY;omega
theorem pP (d m:Nat):bitLen d<m+1↔ ¬2^m≤d:=by
 constructor
 ·intro h c
  have hd:d≠0:=by
   have:=bG m;omega
  obtain⟨-,-,h3⟩:=uB d hd;have:(2:Nat)^bitLen d≤2^m:=Nat.pow_le_pow_right (by omega) (by omega);omega
 ·intro h
  have:=bF d m (by omega);omega
def sq (w:World)(c:Int)(t:fz)(e:Ending)(w':World):Prop:=
 ∃v,e= .returned (.tuple #[ypV t.s v t.p t.ex t.ov t.un,yi c])∧Own w' w.heap.size 135 .u32 v (Dg.dg 4294967296 t.d)∧yB w w'
def oI:fz:=⟨false,0,0,false,false,false⟩
theorem XI (x y:Int):Instr.sameNow (.int .i64) (yi x) (yi y)=some (decide (x=y)):=by
 simp[Instr.sameNow]
 by_cases h:x=y<;>simp[h]
theorem gZ (n L:Nat)(h:(Dg.dg 4294967296 n).length≤L):tz n≤32*L:=by
 by_cases h0:n=0
 ·subst h0;exact Nat.zero_le _
 ·obtain⟨m,hm⟩:=fO h0
  have h1:=Dg.vl_lt 4294967296 (Dg.dg 4294967296 n) (Dg.small_dg _ _ (by omega));rw[Dg.vl_dg _ _ (by omega)] at h1;have h2:4294967296^ (Dg.dg 4294967296 n).length≤4294967296^L:=Nat.pow_le_pow_right (by omega) h;have h3:(4294967296:Nat)^L=2^ (32*L):=by rw[Nat.pow_mul]
  have h4:2^tz n*1≤2^tz n*(2*m+1):=Nat.mul_le_mul_left _ (by omega);rw[←hm,Nat.mul_one] at h4;have h5:2^tz n<2^ (32*L):=by rw[←h3];omega
  exact Nat.le_of_lt ((Nat.pow_lt_pow_iff_right (by omega)).1 h5)
def cC (c:Int)(t:ak):ak×Int:=if c=0 then bU t else(⟨false,0,0⟩,c)
theorem og (x y L:Nat)(hx:(Dg.dg 65536 x).length≤L)(hy:(Dg.dg 65536 y).length≤L):(Dg.dg 65536 (x+y)).length≤L+1:=by
 apply Dg.dg_len_le 65536 _ _ (by omega);have h1:=Dg.vl_lt 65536 (Dg.dg 65536 x) (Dg.small_dg _ _ (by omega));have h2:=Dg.vl_lt 65536 (Dg.dg 65536 y) (Dg.small_dg _ _ (by omega));rw[Dg.vl_dg _ _ (by omega)] at h1 h2;have h3:65536^ (Dg.dg 65536 x).length≤65536^L:=Nat.pow_le_pow_right (by omega) hx;have h4:65536^ (Dg.dg 65536 y).length≤65536^L:=Nat.pow_le_pow_right (by omega) hy;rw[Nat.pow_succ];omega
theorem len_zero (n:Nat):(((Dg.dg 65536 n).length:Int)==0)=decide (n=0):=by
 have n1:=Dg.dg_nil_iff 65536 n (by omega)
 by_cases h:n=0
 ·rw[decide_eq_true h,n1.2 h];rfl
 ·rw[decide_eq_false h];simp;exact fun e=>h (n1.1 e)
def dJ (t:ak):Int:=if t.n=0 then 0 else if t.s then-1 else 1
def dB (t:ak):ak:=⟨!t.s&&decide (0<t.n),t.n,t.e⟩
theorem gN {t:ak}(h:t.n≠0):(bare t).n≠0∧(bare t).e=t.e+(tz t.n:Int)∧(bare t).e+(bitLen (bare t).n:Int)=t.e+(bitLen t.n:Int):=by
 obtain⟨m,hm⟩:=fO h;have e:(bare t).n=2*m+1∧(bare t).e=t.e+(tz t.n:Int):=by
  unfold bare;rw[if_neg h];exact⟨lI hm,rfl⟩
 have hb:bitLen t.n=tz t.n+bitLen (2*m+1):=by
  have:=Ad (2*m+1) (tz t.n) (by omega)
  rwa [←hm] at this
 refine⟨by omega,e.2, ?_⟩;rw[e.1,e.2,hb];omega
def DM (w:World)(h:Bool)(d:Nat)(k c:Int)(e:Ending)(w':World):Prop:=
 ∃u,e= .returned (.tuple #[.agg #[u,yi k],.bool h,yi c])∧Own w' w.heap.size 135 .u32 u (Dg.dg 4294967296 d)∧yB w w'
theorem wS {R p:Int}(h: -20000≤p∧p≤20000): -80000≤(ai R:Int)*p∧(ai R:Int)*p≤80000:=by
 unfold ai
 split<;>simp<;>omega
theorem Xw {c:Int}(h: ¬c=0)(t:ak):cC c t=(⟨false,0,0⟩,c):=if_neg h
theorem Ib (zs:List Nat)(i:Nat):fU zs i=((zs.getD (i/8) 0).testBit (7-i % 8)).toNat:=by
 unfold fU;rw[Nat.testBit_eq_decide_div_mod_eq];have h:=Nat.mod_lt (zs.getD (i/8) 0/2^ (7-i % 8)) (show 0<2 by omega)
 rcases(show zs.getD (i/8) 0/2^ (7-i % 8) % 2=0∨zs.getD (i/8) 0/2^ (7-i % 8) % 2=1 by omega) with e|e<;>rw[e]<;>rfl
theorem Tk (y:Nat)(h:y<256):jY (fun j=>decide (y/2^ (7-j) % 2=1)) 8=y:=by
 have e: ∀n,(if decide (n % 2=1)=true then 1 else 0)=n % 2:=fun n=>by
  rcases(show n % 2=0∨n % 2=1 by omega) with h|h<;>rw[h]<;>rfl
 simp only[jY,e];omega
theorem nz {f g:Nat→Bool}: ∀n,(∀j,j<n→f j=g j)→jY f n=jY g n
 |0,_=>rfl
 |n+1,h=>by
  rw[jY,jY,nz n (fun j hj=>h j (by omega)),h n (by omega)]
theorem Ea (n i:Nat):fU (List.replicate n 0) i=0:=by
 unfold fU;have:(List.replicate n 0).getD (i/8) 0=0:=by
  by_cases h:i/8<n
  ·simp[List.getD_eq_getElem?_getD,h]
  ·simp[List.getD_eq_getElem?_getD,h]
 rw[this];simp
theorem fI (a:ak):(bare a).n=0↔a.n=0:=by
 by_cases h:a.n=0
 ·unfold bare
  rw[if_pos h];exact⟨fun _=>h,fun _=>rfl⟩
 ·unfold bare
  rw[if_neg h];obtain⟨m,hm⟩:=fO h;have:=lI hm;exact⟨fun h2=>by simp only at h2;omega,fun h2=>absurd h2 h⟩
def heE (R L:Int)(ld:Nat)(t:fz):Nat:=(t.p-L).toNat+if R=2∧t.d&&& ld≠0 then 1 else 0
theorem Ni {d j:Nat}(h:d<2^ (j+1)):d&&& 2^j≠0↔bitLen d=j+1:=by
 have hb:=bF d (j+1) h;rw[SK];have hp:0<2^j:=Nat.pow_pos (by omega)
 by_cases hc:2^j≤d
 ·have h1:bitLen d=j+1:=by
   have:=(pP d j).1;have h2: ¬bitLen d<j+1:=fun c=>this c hc
   omega
  have ht:d.testBit j=true:=by
   rw[Nat.testBit_eq_decide_div_mod_eq];have:d/2^j=1:=by
    rw[Nat.pow_succ] at h;have h3:1≤d/2^j:=(Nat.le_div_iff_mul_le hp).2 (by omega);have h4:d/2^j<2:=(Nat.div_lt_iff_lt_mul hp).2 (by omega);omega
   rw[this];rfl
  rw[if_pos ht];exact⟨fun _=>h1,fun _=>by omega⟩
 ·have h1:bitLen d<j+1:=(pP d j).2 hc
  have ht:d.testBit j=false:=by
   rw[Nat.testBit_eq_decide_div_mod_eq,Nat.div_eq_of_lt (by omega)];rfl
  rw[if_neg (by rw[ht];simp)];exact⟨fun c=>absurd rfl c,fun c=>by omega⟩
theorem MF (bf:Nat→Bool): ∀n r,r<n→jY bf n/2^ (n-1-r) % 2=if bf r then 1 else 0
 |0,_,h=>absurd h (Nat.not_lt_zero _)
 |n+1,r,h=>by
  rw[jY]
  by_cases e:r=n
  ·subst e
   rw[show r+1-1-r=0 from by omega,Nat.pow_zero,Nat.div_one]
   split<;>omega
  ·have ih:=MF bf n r (by omega)
   rw[show n+1-1-r=(n-1-r)+1 from by omega,Nat.pow_succ,Nat.mul_comm (2^ (n-1-r)) 2,←Nat.div_div_eq_div_mul]
   rw[show(jY bf n*2+if bf n=true then 1 else 0)/2=jY bf n from by split<;>omega]
   exact ih
theorem JK {L:Int}{j:Nat}{t:fz}(hlt:t.d<2^ (j+1)):heE 2 L (2^j) t=(t.p-L).toNat+if 2^j≤t.d then 1 else 0:=by
 have h:=Ni hlt;have hb:=pP t.d j;have hle:=bF t.d (j+1) hlt;unfold heE
 by_cases hc:2^j≤t.d
 ·have h1: ¬bitLen t.d<j+1:=fun c=>(hb.1 c) hc
  rw[if_pos ⟨rfl,h.2 (by omega)⟩,if_pos hc]
 ·have h1:=hb.2 hc
  rw[if_neg (fun c=>by have:=h.1 c.2;omega),if_neg hc]
theorem aaP {L:Int}{ld:Nat}{t:fz}:heE 16 L ld t=(t.p-L).toNat:=by
 unfold heE;rw[if_neg (fun c=>by have:=c.1;omega),Nat.add_zero]
theorem CQ {k:Nat}(hk:1≤k∧k≤8)(ng:Bool)(t:fz)(h1:lsI k≤t.p)(h2:t.p≤gsI k)(h0:t.d≠0)(hlt:t.d<2^ (ai (rdN k)*dgN k))(hf:2^ (ai (rdN k)*(dgN k-1))≤t.d∨(k≤3∧t.p=lsI k)):
  heE (rdN k) (lsI k) (gW k) t<2^exN k∧dh k ng (heE (rdN k) (lsI k) (gW k) t) (t.d % 2^frN k)=2∧iI k (heE (rdN k) (lsI k) (gW k) t) (t.d % 2^frN k)=t.d∧ii k (heE (rdN k) (lsI k) (gW k) t)=t.p:=by
 have hex:(k=4∨k=5)∨k=3∨(k=1∨k=2)∨(k=6∨k=7∨k=8):=by omega
 rcases hex with hx|hx|hx|hx
 ·have hR:(rdN k:Int)=16:=by rcases hx with rfl|rfl<;>rfl
  have hfr:ai (rdN k)*dgN k=frN k:=by rcases hx with rfl|rfl<;>decide
  have hrd:rdN k=16:=by rcases hx with rfl|rfl<;>rfl
  have hgl:gsI k-lsI k<128∧2^exN k=128:=by rcases hx with rfl|rfl<;>decide
  rw[hfr] at hlt;rw[hR,aaP,Nat.mod_eq_of_lt hlt];refine⟨by omega, ?_, ?_, ?_⟩
  ·unfold dh
   rw[if_neg (by omega),if_pos (by omega),if_neg h0]
  ·unfold iI
   rw[if_pos hrd]
  ·unfold ii
   rw[if_pos hrd];omega
 ·subst hx
  have hw:ai ((rdN 3:Nat):Int)=1:=rfl;rw[hw,Nat.one_mul] at hlt hf;have hlt':t.d<2^ (63+1):=hlt;have hf':2^63≤t.d∨(3≤3∧t.p=lsI 3):=hf;have hh:heE ((rdN 3:Nat):Int) (lsI 3) (gW 3) t=(t.p-lsI 3).toNat+if 2^63≤t.d then 1 else 0:=JK (L:=lsI 3) (j:=63) hlt'
  have hm:t.d % 2^frN 3=t.d:=Nat.mod_eq_of_lt hlt';have hl3:lsI 3= -16445:=rfl;have hg3:gsI 3=16320:=rfl;have he3:2^exN 3=32768:=rfl;have ho3:kp 3=32767:=rfl;rw[hh,hm]
  by_cases hc:2^63≤t.d
  ·rw[if_pos hc]
   refine⟨by omega, ?_, ?_, ?_⟩
   ·unfold dh
    rw[if_pos (by omega),if_neg (by omega),if_neg (by omega),if_neg (fun c=>by have:=c.2;omega)]
   ·unfold iI
    rw[if_neg (by decide),if_neg (by omega)];exact aaQ hc hlt'
   ·unfold ii
    rw[if_neg (by decide),if_neg (by omega)];omega
  ·have hp:=(hf'.resolve_left hc).2
   rw[if_neg hc,hp];have hz:(lsI 3-lsI 3).toNat+0=0:=by omega
   rw[hz];refine⟨by omega, ?_, ?_, ?_⟩
   ·unfold dh
    rw[if_pos (by omega),if_pos rfl,if_neg h0]
   ·unfold iI
    rw[if_neg (by decide),if_pos rfl]
   ·unfold ii
    rw[if_neg (by decide),if_pos rfl]
 ·have hR:(rdN k:Int)=2:=by rcases hx with rfl|rfl<;>rfl
  have hrd: ¬rdN k=16:=by rcases hx with rfl|rfl<;>decide
  have hw:ai (rdN k)=1:=by rw[hR];rfl
  have hfr:dgN k=frN k+1:=by rcases hx with rfl|rfl<;>decide
  have hld:gW k=2^frN k:=by rcases hx with rfl|rfl<;>rfl
  have hgl:gsI k-lsI k+1< (kp k:Int)∧2^exN k=kp k+1:=by rcases hx with rfl|rfl<;>decide
  rw[hw,Nat.one_mul,hfr] at hlt hf;rw[Nat.add_sub_cancel] at hf;rw[hR,hld,JK hlt]
  by_cases hc:2^frN k≤t.d
  ·rw[if_pos hc,LT hc hlt]
   have hr:t.d-2^frN k<2^frN k:=by rw[Nat.pow_succ] at hlt;omega
   refine⟨by omega, ?_, ?_, ?_⟩
   ·unfold dh
    rw[if_pos (by omega),if_neg (by omega),if_neg (by omega),if_neg (fun c=>by have:=c.1;omega)]
   ·unfold iI
    rw[if_neg hrd,if_neg (by omega),hld,JL hr];omega
   ·unfold ii
    rw[if_neg hrd,if_neg (by omega)];omega
  ·have hp:=(hf.resolve_left hc).2
   rw[if_neg hc,hp,Nat.mod_eq_of_lt (by omega)];have hz:(lsI k-lsI k).toNat+0=0:=by omega
   rw[hz];refine⟨by omega, ?_, ?_, ?_⟩
   ·unfold dh
    rw[if_pos (by omega),if_pos rfl,if_neg h0]
   ·unfold iI
    rw[if_neg hrd,if_pos rfl]
   ·unfold ii
    rw[if_neg hrd,if_pos rfl]
 ·have hR:(rdN k:Int)=2:=by rcases hx with rfl|rfl|rfl<;>rfl
  have hrd: ¬rdN k=16:=by rcases hx with rfl|rfl|rfl<;>decide
  have hw:ai (rdN k)=1:=by rw[hR];rfl
  have hfr:dgN k=frN k+1:=by rcases hx with rfl|rfl|rfl<;>decide
  have hld:gW k=2^frN k:=by rcases hx with rfl|rfl|rfl<;>rfl
  have hgl:gsI k-lsI k+1< (2^exN k:Nat):=by rcases hx with rfl|rfl|rfl<;>decide
  rw[hw,Nat.one_mul,hfr] at hlt hf;rw[Nat.add_sub_cancel] at hf;have hc:2^frN k≤t.d:=hf.resolve_right (fun c=>by have:=c.1;omega)
  rw[hR,hld,JK hlt,if_pos hc,LT hc hlt];have hr:t.d-2^frN k<2^frN k:=by rw[Nat.pow_succ] at hlt;omega
  refine⟨by omega, ?_, ?_, ?_⟩
  ·unfold dh
   rw[if_neg (by omega),if_neg (by omega),if_neg (by omega)]
  ·unfold iI
   rw[if_neg hrd,if_neg (by omega),hld,JL hr];omega
  ·unfold ii
   rw[if_neg hrd,if_neg (by omega)];omega
theorem iq {k:Nat}(hk:1≤k∧k≤8){ng:Bool}{E F:Nat}(hE:E<2^exN k)(hF:F<2^frN k)(hc:dh k ng E F=2):ji k ng E F=bare ⟨ng,iI k E F,wdI (rdN k)*ii k E⟩:=by
 unfold ji
 by_cases h3:k=3
 ·subst h3
  rw[if_pos rfl];unfold dh at hc;rw[if_pos (show 3≤3 by omega),show kp 3=2^exN 3-1 from rfl] at hc
  have hp:2≤2^exN 3:=by decide
  have hF':F<2^64:=hF;have hlead:gW 3=2^63:=rfl;unfold iI ii;rw[if_neg (show¬rdN 3=16 by decide),if_neg (show¬rdN 3=16 by decide),hlead]
  generalize(2:Nat)^exN 3=px at*
  by_cases e0:E=0
  ·rw[if_neg (show¬(E+1=px∨0<E∧F<2^ (dgN 3-1)) by omega),if_pos e0,if_pos e0]
   subst e0;simp
  ·rw[if_neg e0] at hc
   by_cases e1:E=px-1
   ·rw[if_pos e1] at hc
    by_cases hz:F=(if 3=3 then 2^63 else 0)
    ·rw[if_pos hz] at hc
     omega
    ·rw[if_neg hz] at hc
     omega
   ·rw[if_neg e1] at hc
    have hf: ¬F<2^63:=fun hf=>by
     rw[if_pos ⟨rfl,hf⟩] at hc;omega
    rw[if_neg (show¬(E+1=px∨0<E∧F<2^ (dgN 3-1)) from fun h=>by
     rcases h with h|h
     ·omega
     ·exact hf h.2),if_neg e0,if_neg e0,adg (by omega) hF',show lsI 3+(((E-1:Nat):Nat):Int)=lsI 3+(E:Int)-1 from by omega]
 ·rw[if_neg h3]
  by_cases h2:k≤2
  ·rw[if_pos h2]
   have hfd:frN k=dgN k-1∧rdN k=2∧2≤2^exN k:=by rcases(show k=1∨k=2 by omega) with rfl|rfl<;>decide
   unfold dh at hc;rw[if_pos (show k≤3 by omega),show kp k=2^exN k-1 from rfl,if_neg h3] at hc
   rw[hfd.1] at hF;unfold iI ii;rw[if_neg (show¬rdN k=16 by omega),if_neg (show¬rdN k=16 by omega)]
   have hp:=hfd.2.2;have hL:gW k=2^ (dgN k-1):=rfl;rw[hL]
   by_cases e0:E=0
   ·rw[if_neg (show¬E+1=2^exN k by omega),if_pos e0,if_pos e0,if_neg (show¬0<E by omega)]
    subst e0;simp
   ·rw[if_neg e0] at hc
    by_cases e1:E=2^exN k-1
    ·rw[if_pos e1] at hc
     split at hc<;>omega
    ·rw[if_neg (show¬E+1=2^exN k by omega),if_neg e0,if_neg e0,if_pos (show 0<E by omega),YZ hF,show lsI k+(((E-1:Nat):Nat):Int)=lsI k+(E:Int)-1 from by omega]
  ·rw[if_neg h2]
   by_cases h5:k≤5
   ·rw[if_pos h5]
    have hr:rdN k=16:=by rcases(show k=4∨k=5 by omega) with rfl|rfl<;>rfl
    unfold iI ii;rw[if_pos hr,if_pos hr]
   ·rw[if_neg h5]
    have hfd:frN k=dgN k-1∧rdN k=2:=by rcases(show k=6∨k=7∨k=8 by omega) with rfl|rfl|rfl<;>decide
    rw[hfd.1] at hF;unfold dh at hc;rw[if_neg (show¬k≤3 by omega),if_neg h5] at hc
    have e0:E≠0:=fun e0=>by
     rw[if_pos e0] at hc
     split at hc<;>omega
    unfold iI ii;rw[if_neg (show¬rdN k=16 by omega),if_neg (show¬rdN k=16 by omega),if_neg e0,if_neg e0,if_neg e0,show gW k=2^ (dgN k-1) from rfl,YZ hF]
theorem I5 {k:Nat}(hk:1≤k∧k≤8){ng:Bool}{E F:Nat}(hE:E<2^exN k)(hF:F<2^frN k)(hF64:F<2^64)(hc:dh k ng E F=2)(hr:rdN k=16):
  4*gw k ng E F≤(ji k ng E F).e∧(ji k ng E F).e<4*gw k ng E F+4∧ge k ng E F=shN (ji k ng E F).n ((ji k ng E F).e-4*gw k ng E F):=by
 rw[iq hk hE hF hc];unfold ge gw;rw[if_pos hc,if_pos hc,hr];have h0:=jX hc;have hl:=vS hk E hF64;generalize iI k E F=D at*;generalize ii k E=P at*;obtain⟨m,hm⟩:=fO (n:=D) (by omega);have hd:=lI hm;obtain⟨a,b,hab,hb⟩: ∃a b,tz D=4*a+b∧b<4:=⟨tz D/4,tz D % 4,by omega,Nat.mod_lt _ (by omega)⟩;have e16:D=16^a*(2^b*(2*m+1)):=by
  rw[hm,hab,Nat.pow_add,Nat.pow_mul,Nat.mul_assoc]
 have hq:2^b*(2*m+1) % 16≠0:=by
  rcases(show b=0∨b=1∨b=2∨b=3 by omega) with rfl|rfl|rfl|rfl<;>omega
 have hs:=FZ 16 (by omega) a 64 (2^b*(2*m+1)) P hq (by rw[←e16];exact hl);rw[←e16] at hs;rw[hs];unfold bare;rw[if_neg (by show¬D=0;omega),show wdI ((16:Nat):Int)=4 from by decide]
 simp only;rw[hab];refine⟨by push_cast;omega,by push_cast;omega, ?_⟩;rw[show 4*P+((4*a+b:Nat):Int)-4*(P+(a:Int))=(b:Int) from by push_cast;omega]
 unfold shN;rw[if_neg (by omega),Int.toNat_natCast,←hab,hd,Nat.mul_comm]
theorem Hv {w:World}{base base' e size k:Nat}{v:Value}{xs:List Value}(h:w.ownsRow base e size v k xs)(hb:base'≤base):w.ownsRow base' e size v k xs:=by
 obtain⟨hl,h2⟩:=h;refine⟨hl, ?_⟩
 rcases h2 with h2| ⟨g,cap,cur,hv,hbg,r⟩
 ·exact .inl h2
 ·exact .inr ⟨g,cap,cur,hv,Nat.le_trans hb hbg,r⟩
def B6 (w:World)(c:Int)(g:Bool)(m:Nat)(q fl:Int)(z:Ending)(w':World):Prop:=
 ∃v,z= .returned (.tuple #[yvV c g v q,yi fl])∧Rd w' .u32 v (Dg.dg 4294967296 m)∧yB w w'
theorem Pc (R D E:Int)(ln lm:Nat)(h1: -700000≤(ln:Int)-lm+E):((ln:Int)-lm+E+800000).tdiv (ai R)-(800000:Int).tdiv (ai R)-D+2=((ln:Int)-lm+E)/(ai R:Int)-D+2:=by
 rw[Int.tdiv_eq_ediv_of_nonneg (by omega),Int.tdiv_eq_ediv_of_nonneg (by omega)];unfold ai
 split<;>simp<;>omega
theorem EN (R D:Int)(h:0≤D):((ai R*D.toNat:Nat):Int)=(ai R:Int)*D:=by
 rw[Int.natCast_mul,Int.toNat_of_nonneg h]
theorem CU {R k:Int}{a:Int}(h1: -a≤k)(h2:k≤a): -(4*a)≤(ai R:Int)*k∧(ai R:Int)*k≤4*a:=by
 unfold ai
 split<;>simp<;>omega
theorem KT (B x y L:Nat)(hB:2≤B)(h:x≤y)(hy:(Dg.dg B y).length≤L):(Dg.dg B x).length≤L:=Nat.le_trans (aH B x y hB h) hy
theorem ZG {x L:Nat}(h:(Dg.dg 65536 x).length≤L):(Dg.dg 65536 (x+1)).length≤L+1:=by
 refine Dg.dg_len_le 65536 _ _ (by omega) ?_;have h1:=Dg.vl_lt 65536 (Dg.dg 65536 x) (Dg.small_dg _ _ (by omega));rw[Dg.vl_dg _ _ (by omega)] at h1;have h2:65536^ (Dg.dg 65536 x).length≤65536^L:=Nat.pow_le_pow_right (by omega) h;have h3:(65536:Nat)^ (L+1)=65536^L*65536:=Nat.pow_succ ..;have h4:0< (65536:Nat)^L:=Nat.pow_pos (by omega);generalize(65536:Nat)^L=c at*;omega
theorem vR {a L:Nat}(h:(Dg.dg 65536 a).length≤L):bitLen a≤16*L:=by
 refine bF a _ ?_;rw[Nat.pow_mul];have h1:=Dg.vl_lt 65536 _ (Dg.small_dg 65536 a (by omega));rw[Dg.vl_dg _ _ (by omega)] at h1;exact Nat.lt_of_lt_of_le h1 (Nat.pow_le_pow_right (by omega) h)
theorem seek_long {R D k t b:Int}(hR:R=2)(hD:D=17000)(h1:t/(ai R:Int)-(D-1)≤k)(h2:k≤b/(ai R:Int)-D+2)(t1: -110000≤t)(b2:b≤110000): -360000≤(ai R:Int)*k∧(ai R:Int)*k≤360000:=by
 have hw:ai R=1:=by
  rw[hR];rfl
 rw[hw] at h1 h2⊢;omega
def hdB (nb:Nat→Int→ak)(L G:Int)(d i:Nat):List ak:=[nb d (L+(i:Int)),nb d (G-(i:Int))]
def hdD (nb:Nat→Int→ak)(L G:Int)(d:Nat):Nat→List ak
 |0=>[]
 |i+1=>hdD nb L G d i++hdB nb L G d i
def hdF (nb:Nat→Int→ak)(L G:Int)(U:Nat)(ts:List ak):Nat→List ak
 |0=>ts
 |i+1=>hdF nb L G U ts i++hdD nb L G (U*2^i+1) 4
theorem dg32_one:Dg.dg 4294967296 1=[1]:=by decide
end Go.Proofs.YtddkchlamdhgcaaGreatDoor
