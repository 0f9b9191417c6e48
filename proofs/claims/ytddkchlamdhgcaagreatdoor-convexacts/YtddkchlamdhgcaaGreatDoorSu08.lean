/-
  Texts laid together: Dz, Begun, Dy2, Aw0, Co1, Co2, Co3, Co9, Co13, Co17, Co18, Dl3, Dt1, Gk3, Ce3, Co20, Co21, Em1, Ef2, Cr9, Eg2, Eg3, Eb2, Eb3, Nx2, Rk1, Pa1, Fi6, Ar8, Pa3, Gr11, Gq9, BlM, Cv4, Cb1, Ps1.
-/
import Derived.Test.YtddkchlamdhgcaaGreatDoorSu01
import Derived.Test.YtddkchlamdhgcaaGreatDoorSu02
import Derived.Test.YtddkchlamdhgcaaGreatDoorSu03
set_option maxRecDepth 100000
set_option maxHeartbeats 3200000
namespace Go.Proofs.YtddkchlamdhgcaaGreatDoor
open _root_.Go.Proofs.Tryz
open Go.RowKit
theorem eL {K:Nat}{a:ak}(ha: -(K:Int)≤a.e): -(K:Int)≤(bare a).e:=by
 unfold bare
 by_cases h:a.n=0
 ·rw[if_pos h];simp
 ·rw[if_neg h];simp only;omega
def aG (a b:ak):ak:=
 let e:=min a.e b.e
 let x:=a.n*2^ (a.e-e).toNat
 let y:=b.n*2^ (b.e-e).toNat
 if a.s=b.s then⟨a.s,x+y,e⟩ else if x<y then⟨b.s,y-x,e⟩ else⟨a.s,x-y,e⟩
theorem Y6 (s t:Bool)(x y:Nat):sz s x+sz t y=if s=t then sz s (x+y) else if x<y then sz t (y-x) else sz s (x-y):=by
 unfold sz
 cases s<;>cases t<;>simp<;>(try split)<;>omega
def dV (a:ak):ak:=⟨!a.s,a.n,a.e⟩
theorem pC (K:Nat)(a:ak):V K (dV a)= -V K a:=by
 unfold V dV sz
 cases a.s<;>simp[Int.neg_mul]
theorem pJ {zs:List Nat}(h:Dg.Norm zs)(hl:zs.length≤1200):chk zs=0:=by
 unfold chk;rw[if_neg (fun c=>h (List.length_pos_iff.1 c.1) c.2),if_neg (by omega)]
theorem iK (b:Bool)(ao:Option Addr)(n ca:Nat)(e:Int)(w:World):yC 109 #[ydV b (.slice ao n ca) e] w (yR w (ydV b (.slice ao n ca) e)):=by
 go_enter func109,ntmps109
 go_wp2
 go_returns
 exact⟨rfl,((Below.refl _ _).alloc (Nat.le_refl _) _).alloc (by simp[World.size_alloc]) _⟩
def RVF (w:World)(c:Int)(g:Bool)(t:ak)(fl:Int)(z:Ending)(w':World):Prop:=
 ∃s,z= .returned (.tuple #[yoV c g t.s s t.e,yi fl])∧Rd w' .i64 s (Dg.dg 65536 t.n)∧yB w w'
theorem jk (n:Int)(w:World):yC 51 #[yi n] w fun z w'=>z= .returned (yi (dK n))∧w'=w:=by
 unfold dK
 by_cases h1:n<1
 ·rw[if_pos (.inl h1)]
  go_enter func51,ntmps51
  go_wp2
  go_ret
  exact⟨rfl,rfl⟩
 ·by_cases h2:8<n
  ·rw[if_pos (.inr h2)]
   go_enter func51,ntmps51
   go_wp2
   go_ret
   exact⟨rfl,rfl⟩
  ·rw[if_neg (by omega)]
   by_cases h3:n≤3
   ·rw[if_pos h3]
    go_enter func51,ntmps51
    go_wp2
    go_ret
    exact⟨rfl,rfl⟩
   ·rw[if_neg h3]
    by_cases h4:n≤5
    ·rw[if_pos h4]
     go_enter func51,ntmps51
     go_wp2
     go_ret
     exact⟨rfl,rfl⟩
    ·rw[if_neg h4]
     go_enter func51,ntmps51
     go_wp2
     go_ret
     exact⟨rfl,rfl⟩
def tS:Nat→List Value
 |1=>[yi 2,yi 24,yi (-149),yi 104,.bool true,yi 4,yi 8,yi 1,.func (.func 117) #[] #[]]
 |2=>[yi 2,yi 53,yi (-1074),yi 971,.bool true,yi 8,yi 11,yi 1,.func (.func 117) #[] #[]]
 |3=>[yi 2,yi 64,yi (-16445),yi 16320,.bool true,yi 10,yi 15,yi 1,.func (.func 118) #[] #[]]
 |4=>[yi 16,yi 6,yi (-70),yi 57,.bool false,yi 4,yi 7,yi 2,.func (.func 117) #[] #[]]
 |5=>[yi 16,yi 14,yi (-78),yi 49,.bool false,yi 8,yi 7,yi 2,.func (.func 117) #[] #[]]
 |6=>[yi 2,yi 24,yi (-151),yi 103,.bool false,yi 4,yi 8,yi 3,.func (.func 120) #[] #[]]
 |7=>[yi 2,yi 56,yi (-183),yi 71,.bool false,yi 8,yi 8,yi 3,.func (.func 120) #[] #[]]
 |8=>[yi 2,yi 53,yi (-1076),yi 970,.bool false,yi 8,yi 11,yi 3,.func (.func 120) #[] #[]]
 |_=>(yzL 0 0 0 0 false 0 0 0)
def Ar:List Value:=[yi 0,yi 0,yi 0,yi 0,.bool false,yi 0,yi 0,yi 0,.nilFunc,yi 2,yi 24,yi (-149),yi 104,.bool true,yi 4,yi 8,yi 1,.func (.func 117) #[] #[],yi 2,yi 53,yi (-1074),yi 971,.bool true,yi 8,yi 11,yi 1,.func (.func 117) #[] #[],yi 2,yi 64,yi (-16445),yi 16320,.bool true,yi 10,yi 15,yi 1,.func (.func 118) #[] #[],yi 16,yi 6,yi (-70),yi 57,.bool false,yi 4,yi 7,yi 2,.func (.func 117) #[] #[],yi 16,yi 14,yi (-78),yi 49,.bool false,yi 8,yi 7,yi 2,.func (.func 117) #[] #[],yi 2,yi 24,yi (-151),yi 103,.bool false,yi 4,yi 8,yi 3,.func (.func 120) #[] #[],yi 2,yi 56,yi (-183),yi 71,.bool false,yi 8,yi 8,yi 3,.func (.func 120) #[] #[],yi 2,yi 53,yi (-1076),yi 970,.bool false,yi 8,yi 11,yi 3,.func (.func 120) #[] #[]]
def tC (w:World)(n:Nat)(c:Int)(e:Ending)(w':World):Prop:=
 e= .returned (.tuple #[.agg (tS n).toArray,yi c])∧yB w w'
theorem Aj (b:Bool)(w:World):yC 113 #[.bool b] w fun z w'=>z= .returned (yi (if b then 1 else 2))∧w'=w:=by
 cases b
 ·go_enter func113,ntmps113
  go_wp2
  go_ret
  exact⟨rfl,rfl⟩
 ·go_enter func113,ntmps113
  go_wp2
  go_ret
  exact⟨rfl,rfl⟩
theorem Ux (v:Value)(w:World):yC 117 #[v] w fun e w'=>e= .returned (.tuple #[])∧w'=w:=by
 go_enter func117,ntmps117
 go_wp2
 go_end0
 exact⟨rfl,rfl⟩
theorem DV (k:Nat)(ng:Bool)(e f:Nat):dh k ng e f=1∨dh k ng e f=2∨dh k ng e f=3∨dh k ng e f=4∨dh k ng e f=5:=by
 unfold dh
 repeat' split
 all_goals decide
theorem fF {n:Int}(h:dK n≠0):1≤n.toNat∧n.toNat≤8∧((n.toNat:Nat):Int)=n:=by
 unfold dK at h
 by_cases c:n<1∨8<n
 ·rw[if_pos c] at h
  exact absurd rfl h
 ·omega
theorem kR (t:ak):(bare t).n≤t.n:=by
 unfold bare
 split
 ·exact Nat.zero_le _
 ·exact Nat.div_le_self _ _
theorem nt {n:Nat}{e:Int}(h:(Dg.dg 4294967296 n).length≤1200)(h1: -20000≤e)(h2:e≤20000):aS (Dg.dg 4294967296 n) e=0:=by
 unfold aS;rw[pJ (Dg.norm_dg _ _ (by omega)) h,if_pos rfl,if_neg (by omega)]
def ia (R D L G:Int)(gr:Bool)(d:Nat)(p:Int):Prop:=
 (d=0∧p=0)∨(d≠0∧L≤p∧p≤G∧d<2^ (ai R*D.toNat)∧(2^ (ai R*(D-1).toNat)≤d∨(gr=true∧p=L)))
theorem jq {d k L:Nat}(h:d<2^k)(hk:k≤32*L):(Dg.dg 4294967296 d).length≤L:=by
 refine Dg.dg_len_le 4294967296 _ _ (by omega) (Nat.lt_of_lt_of_le h ?_);rw[show(4294967296:Nat)=2^32 from by decide,←Nat.pow_mul]
 exact Nat.pow_le_pow_right (by omega) hk
theorem xU {k i:Nat}(hk:1≤k∧k≤8)(hi:i<szN k):plN k (plN k i)=i:=by
 obtain⟨m,hm⟩:=(fZ hk).2.2.2.2.1;unfold plN
 by_cases h3:k=3
 ·rw[if_pos h3,if_pos h3]
  omega
 ·rw[if_neg h3,if_neg h3]
  by_cases h6:6≤k
  ·rw[if_pos h6,if_pos h6]
   omega
  ·rw[if_neg h6,if_neg h6]
def pg (k c:Nat):Nat:=if(c=3∨c=4)∧k≤3 then kp k else 0
theorem Fw {k:Nat}(c:Nat)(hk:1≤k∧k≤8):pg k c<65536:=by
 have h:kp k<65536:=by rcases bO hk with rfl|rfl|rfl|rfl|rfl|rfl|rfl|rfl<;>decide
 unfold pg
 split<;>omega
theorem Jv (n:Nat)(x:Int):eZ n x/dX 1 x=shN n x:=by
 unfold eZ dX shN
 by_cases h:x<0
 ·rw[if_pos h,if_pos h,if_pos h,Nat.one_mul]
 ·rw[if_neg h,if_neg h,if_neg h,Nat.div_one]
theorem zr (R:Int):wdI R=(ai R:Int):=by
 unfold wdI ai
 split<;>rfl
theorem eR {k:Nat}(hk:1≤k∧k≤8):1≤exN k∧1≤frN k∧1≤dgN k∧dgN k≤64∧ -16445≤lsI k∧lsI k≤0∧lsI k≤gsI k∧gsI k≤16320∧ai (rdN k)*dgN k≤64∧ai (rdN k)≤4∧1≤ai (rdN k)∧bk (rdN k) (dgN k) (lsI k) (gsI k)=0:=by
 rcases bO hk with rfl|rfl|rfl|rfl|rfl|rfl|rfl|rfl<;>exact⟨by decide,by decide,by decide,by decide,by decide,by decide,by decide,by decide,by decide,by decide,by decide,by decide⟩
theorem IZ {a b:Nat}(h:a≤b):(Dg.dg 65536 a).length≤(Dg.dg 65536 b).length:=by
 refine Dg.dg_len_le 65536 a _ (by omega) (Nat.lt_of_le_of_lt h ?_);have:=Dg.vl_lt 65536 (Dg.dg 65536 b) (Dg.small_dg 65536 b (by omega))
 rwa [Dg.vl_dg 65536 b (by omega)] at this
def FV (k:Nat)(ng:Bool)(E FF:Nat):Int:=
 if k=3 then(if E+1=2^exN k then(if FF=2^ (dgN k-1) then 3 else 4) else if 0<E∧FF<2^ (dgN k-1) then 4 else if FF=0 then 1 else 2)
 else if k≤2 then(if E+1=2^exN k then(if FF=0 then 3 else 4) else if FF+(if 0<E then 2^ (dgN k-1) else 0)=0 then 1 else 2)
 else if k≤5 then(if FF=0 then 1 else 2)
 else(if E=0 then(if ng then 5 else 1) else 2)
theorem YC {k:Nat}(hk:1≤k∧k≤8):1≤frN k∧dgN k-1≤63∧ -20000≤lsI k∧lsI k≤0∧1≤wdI (rdN k)∧wdI (rdN k)≤4:=by
 rcases bO hk with rfl|rfl|rfl|rfl|rfl|rfl|rfl|rfl<;>exact⟨by decide,by decide,by decide,by decide,by decide,by decide⟩
theorem YD (k:Nat)(hk:1≤k∧k≤8)(ng:Bool)(E FF:Nat):FV k ng E FF=((dh k ng E FF:Nat):Int):=by
 unfold FV dh;have ho:kp k=2^exN k-1:=rfl;have hp:0<2^exN k:=Nat.pow_pos (by omega);have hd:0<2^ (dgN k-1):=Nat.pow_pos (by omega);have h1:2≤2^exN k:=by
  have h7:=(fZ hk).2.2.2.2.2;have:2^1≤2^exN k:=Nat.pow_le_pow_right (by omega) (by omega);omega
 by_cases h3:k=3
 ·have hd3:2^ (dgN k-1)=2^63:=by rw[h3];rfl
  rw[if_pos h3,if_pos (show k≤3 by omega),ho,hd3,if_pos h3]
  generalize(2:Nat)^exN k=px at*;generalize(2:Nat)^63=p63 at*
  by_cases e0:E=0
  ·rw[if_neg (show¬E+1=px by omega),if_pos e0,if_neg (show¬(0<E∧FF<p63) by omega)]
   split<;>rfl
  ·rw[if_neg e0]
   by_cases e1:E+1=px
   ·rw[if_pos e1,if_pos (show E=px-1 by omega)]
    split<;>rfl
   ·rw[if_neg e1,if_neg (show¬E=px-1 by omega)]
    by_cases ef:FF<p63
    ·rw[if_pos (show 0<E∧FF<p63 by omega),if_pos (show k=3∧FF<p63 from⟨h3,ef⟩)]
     rfl
    ·rw[if_neg (show¬(0<E∧FF<p63) by omega),if_neg (show¬(k=3∧FF<p63) from fun h=>ef h.2),if_neg (show¬FF=0 by omega)]
     rfl
 ·rw[if_neg h3]
  by_cases h2:k≤2
  ·rw[if_pos h2,if_pos (show k≤3 by omega),ho,if_neg h3]
   generalize(2:Nat)^exN k=px at*;generalize(2:Nat)^ (dgN k-1)=pd at*
   by_cases e0:E=0
   ·rw[if_neg (show¬E+1=px by omega),if_pos e0,if_neg (show¬0<E by omega),Nat.add_zero]
    split<;>rfl
   ·rw[if_neg e0]
    by_cases e1:E+1=px
    ·rw[if_pos e1,if_pos (show E=px-1 by omega)]
     split<;>rfl
    ·rw[if_neg e1,if_neg (show¬E=px-1 by omega),if_pos (show 0<E by omega),if_neg (show¬FF+pd=0 by omega),if_neg (show¬(k=3∧FF<2^63) from fun h=>h3 h.1)]
     rfl
  ·rw[if_neg h2,if_neg (show¬k≤3 by omega)]
   by_cases h5:k≤5
   ·rw[if_pos h5,if_pos h5]
    split<;>rfl
   ·rw[if_neg h5,if_neg h5]
    split
    ·split<;>rfl
    ·rfl
theorem Gm {k:Nat}(hk:1≤k∧k≤8): -16445≤(ai (rdN k):Int)*lsI k∧(ai (rdN k):Int)*(gsI k+(dgN k:Int))≤16384:=by
 rcases bO hk with rfl|rfl|rfl|rfl|rfl|rfl|rfl|rfl<;>decide
theorem KN {xs:List Nat}{L:Nat}(sa:Dg.Small 4294967296 xs)(h:xs.length≤L):(Dg.dg 65536 (Dg.vl 4294967296 xs)).length≤2*L:=by
 refine Dg.dg_len_le 65536 _ _ (by omega) ?_;rw[Nat.pow_mul];exact Nat.lt_of_lt_of_le (Dg.vl_lt 4294967296 xs sa) (Nat.pow_le_pow_right (by omega) h)
theorem qr {s:Bool}{n:Nat}{e:Int}(h:n≠0):(bare ⟨s,n,e⟩).s=s:=by
 unfold bare;rw[if_neg h]
theorem NQ {s:Bool}{a:ak}(h:a.n≠0)(hs:a.s=s):(⟨s,(bare a).n,(bare a).e⟩:ak)=bare a:=by
 unfold bare;rw[if_neg h,←hs]
theorem mZ {k:Nat}(hk:1≤k∧k≤8){f:Nat}(h:f<2^frN k):f<2^64:=
 Nat.lt_of_lt_of_le h (Nat.pow_le_pow_right (by omega) (fZ hk).2.2.2.1)
theorem nj {k:Nat}(hk:1≤k∧k≤8){s:ByteArray}(h:s.size=szN k):dF k s=0:=by
 have hf:dK k≠0:=by
  rcases bO hk with rfl|rfl|rfl|rfl|rfl|rfl|rfl|rfl<;>decide
 unfold dF;rw[if_neg hf,Int.toNat_natCast,if_pos h]
theorem wQ {k:Nat}(hk:1≤k∧k≤8):wdI (rdN k)=(ai (rdN k):Int):=by
 rcases bO hk with rfl|rfl|rfl|rfl|rfl|rfl|rfl|rfl<;>decide
theorem zd {k:Nat}(hk:1≤k∧k≤8){ng:Bool}{E F:Nat}(hc:dh k ng E F=1):ji k ng E F=⟨false,0,0⟩:=by
 have key: ∀(s:Bool) (e:Int),bare ⟨s,0,e⟩=⟨false,0,0⟩:=fun s e=>by simp[bare]
 have h2:2≤2^exN k:=by
  rcases bO hk with rfl|rfl|rfl|rfl|rfl|rfl|rfl|rfl<;>decide
 unfold dh at hc;unfold ji
 by_cases h3:k≤3
 ·rw[if_pos h3] at hc
  by_cases he:E=0
  ·rw[if_pos he] at hc
   by_cases hf:F=0
   ·subst he hf
    by_cases h4:k=3
    ·rw[if_pos h4,if_neg (by rintro(h|h)<;>omega)]
     exact key _ _
    ·rw[if_neg h4,if_pos (by omega),if_neg (by omega),if_neg (by omega)]
     exact key _ _
   ·rw[if_neg hf] at hc
    omega
  ·rw[if_neg he] at hc
   exfalso
   repeat' split at hc
   all_goals omega
 ·rw[if_neg h3] at hc
  rw[if_neg (show¬k=3 by omega),if_neg (show¬k≤2 by omega)]
  by_cases h5:k≤5
  ·rw[if_pos h5] at hc⊢
   by_cases hf:F=0
   ·subst hf
    exact key _ _
   ·rw[if_neg hf] at hc
    omega
  ·rw[if_neg h5] at hc⊢
   by_cases he:E=0
   ·rw[if_pos he]
   ·rw[if_neg he] at hc
    omega
theorem ut.symm {J:Int}{N1 M1 N2 M2:Nat}{E1 E2:Int}(h:ut J N1 M1 E1 N2 M2 E2):ut J N2 M2 E2 N1 M1 E1:=fun j hj=>⟨(h j hj).1.symm,(h j hj).2.symm⟩
abbrev dsk (k:Nat)(wy:Int):Value:=(ykV k wy (dK k) (rdN k) (dgN k) (lsI k) (gsI k) (decide (k≤3)))
theorem qt {k:Nat}(hk:1≤k∧k≤8):dK k=1∨dK k=2∨dK k=3:=by
 rcases bO hk with rfl|rfl|rfl|rfl|rfl|rfl|rfl|rfl<;>decide
abbrev mM (r:ByteArray×Int×Int)(w:World)(z:Ending)(w':World):Prop:=z= .returned (.tuple #[.string r.1,yi r.2.1,yi r.2.2])∧yB w w'
def RVG (w:World)(c:Int)(g:Bool)(t:ak)(fl:Int)(z:Ending)(w':World):Prop:=
 ∃s,z= .returned (.tuple #[yoV c g t.s s t.e,yi fl])∧Rd w' .i64 s (Dg.dg 65536 t.n)∧Far w.heap.size s∧yB w w'
theorem Fm {k:Nat}(hk:1≤k∧k≤8){ng:Bool}{E F:Nat}(hc:dh k ng E F≠2):ji k ng E F=⟨false,0,0⟩:=by
 by_cases h1:dh k ng E F=1
 ·exact zd hk h1
 have h2:2^exN k=kp k+1:=by
  rcases bO hk with rfl|rfl|rfl|rfl|rfl|rfl|rfl|rfl<;>decide
 have h63:k=3→2^ (dgN k-1)=2^63:=fun h=>by subst h;rfl
 unfold dh at hc h1;unfold ji
 by_cases h3:k≤3
 ·rw[if_pos h3] at hc h1
  by_cases he:E=0
  ·rw[if_pos he] at hc h1
   by_cases hf:F=0
   ·rw[if_pos hf] at h1
    exact absurd rfl h1
   ·rw[if_neg hf] at hc
    exact absurd rfl hc
  ·rw[if_neg he] at hc
   by_cases ho:E=kp k
   ·by_cases h4:k=3
    ·rw[if_pos h4,if_pos (.inl (by omega))]
    ·rw[if_neg h4,if_pos (by omega),if_pos (by omega)]
   ·rw[if_neg ho] at hc
    by_cases h4:k=3∧F<2^63
    ·rw[if_pos h4.1,if_pos (.inr ⟨by omega,by rw[h63 h4.1];exact h4.2⟩)]
    ·rw[if_neg h4] at hc
     exact absurd rfl hc
 ·rw[if_neg h3] at hc h1
  rw[if_neg (show¬k=3 by omega),if_neg (show¬k≤2 by omega)]
  by_cases h5:k≤5
  ·rw[if_pos h5] at hc h1
   by_cases hf:F=0
   ·rw[if_pos hf] at h1
    exact absurd rfl h1
   ·rw[if_neg hf] at hc
    exact absurd rfl hc
  ·rw[if_neg h5] at hc⊢
   by_cases he:E=0
   ·rw[if_pos he]
   ·rw[if_neg he] at hc
    exact absurd rfl hc
def iZ (t:ak):Prop:=t.n<2^64∧ -16500≤t.e∧t.e≤16500
theorem adR {t:ak}(h:iZ t):bitLen t.n≤64:=bF _ _ h.1
theorem qi (way:Int)(w:World):yC 34 #[yi way] w fun z w'=>z= .returned (.bool (iC way))∧w'=w:=by
 unfold iC
 by_cases h:1≤way
 ·go_enter func34,ntmps34
  go_wp2
  go_ret
  simp[h]
 ·go_enter func34,ntmps34
  go_wp2
  go_ret
  simp;omega
theorem UI {d k L:Nat}(h:d≤2^k)(hk:k+1≤16*L):(Dg.dg 65536 d).length≤L:=by
 refine Dg.dg_len_le 65536 _ _ (by omega) (Nat.lt_of_le_of_lt h ?_);rw[show(65536:Nat)=2^16 from by decide,←Nat.pow_mul]
 exact Nat.pow_lt_pow_right (by omega) (by omega)
def RB6 (W:World)(v:Value)(x y:ak):Prop:= ∃p q,v= .agg #[.bool x.s,p,yi x.e,.bool y.s,q,yi y.e]∧Rd W .i64 p (Dg.dg 65536 x.n)∧Rd W .i64 q (Dg.dg 65536 y.n)
theorem small_one:Dg.Small 4294967296 [1]:=fun i=>by
 rcases i with- |i
 ·show 1<4294967296
  omega
 ·show([]:List Nat).getD i 0<4294967296
  simp
theorem cback_1 (n j wy e fl f:Int)(s t:ByteArray)(ok:Bool)(w:World)(he: ¬e=0)
  (HB:yH w 16 #[] (.bool true))
  (HX:yH w 17 #[yi n,yi j] (.tuple #[.bool ok,yi e]))
  (HC:yH w 26 #[yi n,.string s,yi j,yi wy] (.tuple #[.string t,yi fl,yi f])):
  yC 5 #[yi n,.string s,yi j,yi wy] w (yR w (.bool true)):=by
 replace HB:Hid _:=HB;replace HX:Hid _:=HX;replace HC:Hid _:=HC
 go_enter func5,ntmps5
 have b0:=Below.refl w.heap.size w
 go_wp2_with fail
 refine(HB.out _ b0).mono ?_;rintro zz w1 ⟨rfl,bb2⟩;have b3:=aa b0 bb2;clear b0 bb2 HB
 go_wp2_with fail
 refine(HX.out _ b3).mono ?_;rintro zz w4 ⟨rfl,bb5⟩;have b6:=aa b3 bb5;clear b3 bb5 HX
 go_wp2_with fail
 refine(HC.out _ b6).mono ?_;rintro zz w7 ⟨rfl,bb8⟩;have b9:=aa b6 bb8;clear b6 bb8 HC
 go_wp2
 go_ret
 exact⟨by simp,b9⟩
theorem cback_2 (n j wy fl f:Int)(s t:ByteArray)(ok:Bool)(w:World)(hf: ¬f=0)
  (HB:yH w 16 #[] (.bool true))
  (HX:yH w 17 #[yi n,yi j] (.tuple #[.bool ok,yi 0]))
  (HC:yH w 26 #[yi n,.string s,yi j,yi wy] (.tuple #[.string t,yi fl,yi f])):
  yC 5 #[yi n,.string s,yi j,yi wy] w (yR w (.bool true)):=by
 replace HB:Hid _:=HB;replace HX:Hid _:=HX;replace HC:Hid _:=HC
 go_enter func5,ntmps5
 have b0:=Below.refl w.heap.size w
 go_wp2_with fail
 refine(HB.out _ b0).mono ?_;rintro zz w1 ⟨rfl,bb2⟩;have b3:=aa b0 bb2;clear b0 bb2 HB
 go_wp2_with fail
 refine(HX.out _ b3).mono ?_;rintro zz w4 ⟨rfl,bb5⟩;have b6:=aa b3 bb5;clear b3 bb5 HX
 go_wp2_with fail
 refine(HC.out _ b6).mono ?_;rintro zz w7 ⟨rfl,bb8⟩;have b9:=aa b6 bb8;clear b6 bb8 HC
 go_wp2
 go_ret
 exact⟨by simp,b9⟩
theorem cback_3 (n j wy fl:Int)(s t:ByteArray)(w:World)
  (HB:yH w 16 #[] (.bool true))
  (HX:yH w 17 #[yi n,yi j] (.tuple #[.bool false,yi 0]))
  (HC:yH w 26 #[yi n,.string s,yi j,yi wy] (.tuple #[.string t,yi fl,yi 0])):
  yC 5 #[yi n,.string s,yi j,yi wy] w (yR w (.bool true)):=by
 replace HB:Hid _:=HB;replace HX:Hid _:=HX;replace HC:Hid _:=HC
 go_enter func5,ntmps5
 have b0:=Below.refl w.heap.size w
 go_wp2_with fail
 refine(HB.out _ b0).mono ?_;rintro zz w1 ⟨rfl,bb2⟩;have b3:=aa b0 bb2;clear b0 bb2 HB
 go_wp2_with fail
 refine(HX.out _ b3).mono ?_;rintro zz w4 ⟨rfl,bb5⟩;have b6:=aa b3 bb5;clear b3 bb5 HX
 go_wp2_with fail
 refine(HC.out _ b6).mono ?_;rintro zz w7 ⟨rfl,bb8⟩;have b9:=aa b6 bb8;clear b6 bb8 HC
 go_wp2
 go_ret
 exact⟨by simp,b9⟩
theorem cback_4 (n j wy fl c:Int)(s t:ByteArray)(w:World)(hc:(c != 2)=true)
  (HB:yH w 16 #[] (.bool true))
  (HX:yH w 17 #[yi n,yi j] (.tuple #[.bool true,yi 0]))
  (HC:yH w 26 #[yi n,.string s,yi j,yi wy] (.tuple #[.string t,yi fl,yi 0]))
  (HK:yH w 27 #[yi n,.string s] (yi c)):
  yC 5 #[yi n,.string s,yi j,yi wy] w (yR w (.bool true)):=by
 replace HB:Hid _:=HB;replace HX:Hid _:=HX;replace HC:Hid _:=HC;replace HK:Hid _:=HK
 go_enter func5,ntmps5
 have b0:=Below.refl w.heap.size w
 go_wp2_with fail
 refine(HB.out _ b0).mono ?_;rintro zz w1 ⟨rfl,bb2⟩;have b3:=aa b0 bb2;clear b0 bb2 HB
 go_wp2_with fail
 refine(HX.out _ b3).mono ?_;rintro zz w4 ⟨rfl,bb5⟩;have b6:=aa b3 bb5;clear b3 bb5 HX
 go_wp2_with fail
 refine(HC.out _ b6).mono ?_;rintro zz w7 ⟨rfl,bb8⟩;have b9:=aa b6 bb8;clear b6 bb8 HC
 go_wp2_with fail
 refine(HK.out _ b9).mono ?_;rintro zz w10 ⟨rfl,bb11⟩;have b12:=aa b9 bb11;clear b9 bb11 HK
 go_wp2
 go_ret
 exact⟨by simp,b12⟩
theorem cthru_1 (n j l wy e fa fb fc f1 f2 f3:Int)(s a b c:ByteArray)(ok:Bool)(w:World)(he: ¬e=0)
  (HB:yH w 16 #[] (.bool true))
  (HX:yH w 17 #[yi n,yi j] (.tuple #[.bool ok,yi e]))
  (HC:yH w 26 #[yi n,.string s,yi l,yi wy] (.tuple #[.string a,yi fa,yi f1]))
  (HE1:yH w 26 #[yi n,.string s,yi j,yi wy] (.tuple #[.string b,yi fb,yi f2]))
  (HF:yH w 26 #[yi j,.string b,yi l,yi wy] (.tuple #[.string c,yi fc,yi f3])):
  yC 6 #[yi n,.string s,yi j,yi l,yi wy] w (yR w (.bool true)):=by
 replace HB:Hid _:=HB;replace HX:Hid _:=HX;replace HC:Hid _:=HC;replace HE1:Hid _:=HE1;replace HF:Hid _:=HF
 go_enter func6,ntmps6
 have b0:=Below.refl w.heap.size w
 go_wp2_with fail
 refine(HB.out _ b0).mono ?_;rintro zz w1 ⟨rfl,bb2⟩;have b3:=aa b0 bb2;clear b0 bb2 HB
 go_wp2_with fail
 refine(HX.out _ b3).mono ?_;rintro zz w4 ⟨rfl,bb5⟩;have b6:=aa b3 bb5;clear b3 bb5 HX
 go_wp2_with fail
 refine(HC.out _ b6).mono ?_;rintro zz w7 ⟨rfl,bb8⟩;have b9:=aa b6 bb8;clear b6 bb8 HC
 go_wp2_with fail
 refine(HE1.out _ b9).mono ?_;rintro zz w10 ⟨rfl,bb11⟩;have b12:=aa b9 bb11;clear b9 bb11 HE1
 go_wp2_with fail
 refine(HF.out _ b12).mono ?_;rintro zz w13 ⟨rfl,bb14⟩;have b15:=aa b12 bb14;clear b12 bb14 HF
 go_wp2
 go_ret
 exact⟨by simp,b15⟩
theorem cthru_2 (n j l wy fa fb fc f1 f2 f3:Int)(s a b c:ByteArray)(ok:Bool)(w:World)(hf: ¬f1=0)
  (HB:yH w 16 #[] (.bool true))
  (HX:yH w 17 #[yi n,yi j] (.tuple #[.bool ok,yi 0]))
  (HC:yH w 26 #[yi n,.string s,yi l,yi wy] (.tuple #[.string a,yi fa,yi f1]))
  (HE1:yH w 26 #[yi n,.string s,yi j,yi wy] (.tuple #[.string b,yi fb,yi f2]))
  (HF:yH w 26 #[yi j,.string b,yi l,yi wy] (.tuple #[.string c,yi fc,yi f3])):
  yC 6 #[yi n,.string s,yi j,yi l,yi wy] w (yR w (.bool true)):=by
 replace HB:Hid _:=HB;replace HX:Hid _:=HX;replace HC:Hid _:=HC;replace HE1:Hid _:=HE1;replace HF:Hid _:=HF
 go_enter func6,ntmps6
 have b0:=Below.refl w.heap.size w
 go_wp2_with fail
 refine(HB.out _ b0).mono ?_;rintro zz w1 ⟨rfl,bb2⟩;have b3:=aa b0 bb2;clear b0 bb2 HB
 go_wp2_with fail
 refine(HX.out _ b3).mono ?_;rintro zz w4 ⟨rfl,bb5⟩;have b6:=aa b3 bb5;clear b3 bb5 HX
 go_wp2_with fail
 refine(HC.out _ b6).mono ?_;rintro zz w7 ⟨rfl,bb8⟩;have b9:=aa b6 bb8;clear b6 bb8 HC
 go_wp2_with fail
 refine(HE1.out _ b9).mono ?_;rintro zz w10 ⟨rfl,bb11⟩;have b12:=aa b9 bb11;clear b9 bb11 HE1
 go_wp2_with fail
 refine(HF.out _ b12).mono ?_;rintro zz w13 ⟨rfl,bb14⟩;have b15:=aa b12 bb14;clear b12 bb14 HF
 go_wp2
 go_ret
 exact⟨by simp,b15⟩
theorem cthru_3 (n j l wy fa fb fc f2 f3:Int)(s a b c:ByteArray)(ok:Bool)(w:World)(hf: ¬f2=0)
  (HB:yH w 16 #[] (.bool true))
  (HX:yH w 17 #[yi n,yi j] (.tuple #[.bool ok,yi 0]))
  (HC:yH w 26 #[yi n,.string s,yi l,yi wy] (.tuple #[.string a,yi fa,yi 0]))
  (HE1:yH w 26 #[yi n,.string s,yi j,yi wy] (.tuple #[.string b,yi fb,yi f2]))
  (HF:yH w 26 #[yi j,.string b,yi l,yi wy] (.tuple #[.string c,yi fc,yi f3])):
  yC 6 #[yi n,.string s,yi j,yi l,yi wy] w (yR w (.bool true)):=by
 replace HB:Hid _:=HB;replace HX:Hid _:=HX;replace HC:Hid _:=HC;replace HE1:Hid _:=HE1;replace HF:Hid _:=HF
 go_enter func6,ntmps6
 have b0:=Below.refl w.heap.size w
 go_wp2_with fail
 refine(HB.out _ b0).mono ?_;rintro zz w1 ⟨rfl,bb2⟩;have b3:=aa b0 bb2;clear b0 bb2 HB
 go_wp2_with fail
 refine(HX.out _ b3).mono ?_;rintro zz w4 ⟨rfl,bb5⟩;have b6:=aa b3 bb5;clear b3 bb5 HX
 go_wp2_with fail
 refine(HC.out _ b6).mono ?_;rintro zz w7 ⟨rfl,bb8⟩;have b9:=aa b6 bb8;clear b6 bb8 HC
 go_wp2_with fail
 refine(HE1.out _ b9).mono ?_;rintro zz w10 ⟨rfl,bb11⟩;have b12:=aa b9 bb11;clear b9 bb11 HE1
 go_wp2_with fail
 refine(HF.out _ b12).mono ?_;rintro zz w13 ⟨rfl,bb14⟩;have b15:=aa b12 bb14;clear b12 bb14 HF
 go_wp2
 go_ret
 exact⟨by simp,b15⟩
theorem cthru_4 (n j l wy fa fb fc f3:Int)(s a b c:ByteArray)(ok:Bool)(w:World)(hf: ¬f3=0)
  (HB:yH w 16 #[] (.bool true))
  (HX:yH w 17 #[yi n,yi j] (.tuple #[.bool ok,yi 0]))
  (HC:yH w 26 #[yi n,.string s,yi l,yi wy] (.tuple #[.string a,yi fa,yi 0]))
  (HE1:yH w 26 #[yi n,.string s,yi j,yi wy] (.tuple #[.string b,yi fb,yi 0]))
  (HF:yH w 26 #[yi j,.string b,yi l,yi wy] (.tuple #[.string c,yi fc,yi f3])):
  yC 6 #[yi n,.string s,yi j,yi l,yi wy] w (yR w (.bool true)):=by
 replace HB:Hid _:=HB;replace HX:Hid _:=HX;replace HC:Hid _:=HC;replace HE1:Hid _:=HE1;replace HF:Hid _:=HF
 go_enter func6,ntmps6
 have b0:=Below.refl w.heap.size w
 go_wp2_with fail
 refine(HB.out _ b0).mono ?_;rintro zz w1 ⟨rfl,bb2⟩;have b3:=aa b0 bb2;clear b0 bb2 HB
 go_wp2_with fail
 refine(HX.out _ b3).mono ?_;rintro zz w4 ⟨rfl,bb5⟩;have b6:=aa b3 bb5;clear b3 bb5 HX
 go_wp2_with fail
 refine(HC.out _ b6).mono ?_;rintro zz w7 ⟨rfl,bb8⟩;have b9:=aa b6 bb8;clear b6 bb8 HC
 go_wp2_with fail
 refine(HE1.out _ b9).mono ?_;rintro zz w10 ⟨rfl,bb11⟩;have b12:=aa b9 bb11;clear b9 bb11 HE1
 go_wp2_with fail
 refine(HF.out _ b12).mono ?_;rintro zz w13 ⟨rfl,bb14⟩;have b15:=aa b12 bb14;clear b12 bb14 HF
 go_wp2
 go_ret
 exact⟨by simp,b15⟩
theorem cthru_5 (n j l wy fa fb fc:Int)(s a b c:ByteArray)(w:World)
  (HB:yH w 16 #[] (.bool true))
  (HX:yH w 17 #[yi n,yi j] (.tuple #[.bool false,yi 0]))
  (HC:yH w 26 #[yi n,.string s,yi l,yi wy] (.tuple #[.string a,yi fa,yi 0]))
  (HE1:yH w 26 #[yi n,.string s,yi j,yi wy] (.tuple #[.string b,yi fb,yi 0]))
  (HF:yH w 26 #[yi j,.string b,yi l,yi wy] (.tuple #[.string c,yi fc,yi 0])):
  yC 6 #[yi n,.string s,yi j,yi l,yi wy] w (yR w (.bool true)):=by
 replace HB:Hid _:=HB;replace HX:Hid _:=HX;replace HC:Hid _:=HC;replace HE1:Hid _:=HE1;replace HF:Hid _:=HF
 go_enter func6,ntmps6
 have b0:=Below.refl w.heap.size w
 go_wp2_with fail
 refine(HB.out _ b0).mono ?_;rintro zz w1 ⟨rfl,bb2⟩;have b3:=aa b0 bb2;clear b0 bb2 HB
 go_wp2_with fail
 refine(HX.out _ b3).mono ?_;rintro zz w4 ⟨rfl,bb5⟩;have b6:=aa b3 bb5;clear b3 bb5 HX
 go_wp2_with fail
 refine(HC.out _ b6).mono ?_;rintro zz w7 ⟨rfl,bb8⟩;have b9:=aa b6 bb8;clear b6 bb8 HC
 go_wp2_with fail
 refine(HE1.out _ b9).mono ?_;rintro zz w10 ⟨rfl,bb11⟩;have b12:=aa b9 bb11;clear b9 bb11 HE1
 go_wp2_with fail
 refine(HF.out _ b12).mono ?_;rintro zz w13 ⟨rfl,bb14⟩;have b15:=aa b12 bb14;clear b12 bb14 HF
 go_wp2
 go_ret
 exact⟨by simp,b15⟩
theorem cthru_6 (n j l wy fa fb fc x:Int)(s a b c:ByteArray)(w:World)(hc:(x != 2)=true)
  (HB:yH w 16 #[] (.bool true))
  (HX:yH w 17 #[yi n,yi j] (.tuple #[.bool true,yi 0]))
  (HC:yH w 26 #[yi n,.string s,yi l,yi wy] (.tuple #[.string a,yi fa,yi 0]))
  (HE1:yH w 26 #[yi n,.string s,yi j,yi wy] (.tuple #[.string b,yi fb,yi 0]))
  (HF:yH w 26 #[yi j,.string b,yi l,yi wy] (.tuple #[.string c,yi fc,yi 0]))
  (HK:yH w 27 #[yi n,.string s] (yi x)):
  yC 6 #[yi n,.string s,yi j,yi l,yi wy] w (yR w (.bool true)):=by
 replace HB:Hid _:=HB;replace HX:Hid _:=HX;replace HC:Hid _:=HC;replace HE1:Hid _:=HE1;replace HF:Hid _:=HF;replace HK:Hid _:=HK
 go_enter func6,ntmps6
 have b0:=Below.refl w.heap.size w
 go_wp2_with fail
 refine(HB.out _ b0).mono ?_;rintro zz w1 ⟨rfl,bb2⟩;have b3:=aa b0 bb2;clear b0 bb2 HB
 go_wp2_with fail
 refine(HX.out _ b3).mono ?_;rintro zz w4 ⟨rfl,bb5⟩;have b6:=aa b3 bb5;clear b3 bb5 HX
 go_wp2_with fail
 refine(HC.out _ b6).mono ?_;rintro zz w7 ⟨rfl,bb8⟩;have b9:=aa b6 bb8;clear b6 bb8 HC
 go_wp2_with fail
 refine(HE1.out _ b9).mono ?_;rintro zz w10 ⟨rfl,bb11⟩;have b12:=aa b9 bb11;clear b9 bb11 HE1
 go_wp2_with fail
 refine(HF.out _ b12).mono ?_;rintro zz w13 ⟨rfl,bb14⟩;have b15:=aa b12 bb14;clear b12 bb14 HF
 go_wp2_with fail
 refine(HK.out _ b15).mono ?_;rintro zz w16 ⟨rfl,bb17⟩;have b18:=aa b15 bb17;clear b15 bb17 HK
 go_wp2
 go_ret
 exact⟨by simp,b18⟩
theorem VI (n c:Int)(g:Bool)(s:ByteArray)(w:World)
  (HC:yJ 54 #[yi n,.string s] (.tuple #[yi c,.bool g,yi 0])):
  yC 27 #[yi n,.string s] w (yR w (yi c)):=by
 replace HC:Hid _:=HC
 go_enter func27,ntmps27
 have b0:=Below.refl w.heap.size w
 go_wp2_with fail
 refine(HC.out _).mono ?_;rintro zz w1 ⟨rfl,bb2⟩;have b3:=aa b0 bb2;clear b0 bb2 HC
 go_wp2
 go_ret
 exact⟨rfl,b3⟩
end Go.Proofs.YtddkchlamdhgcaaGreatDoor
