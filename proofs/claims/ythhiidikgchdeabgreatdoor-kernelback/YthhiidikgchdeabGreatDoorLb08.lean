/- Texts laid together. -/
import Derived.Test.YthhiidikgchdeabGreatDoorLb01
import Derived.Test.YthhiidikgchdeabGreatDoorLb02
import Derived.Test.YthhiidikgchdeabGreatDoorLb03
import Derived.Test.YthhiidikgchdeabGreatDoorLb04
set_option maxRecDepth 100000
set_option maxHeartbeats 4000000
namespace Go.Proofs.YthhiidikgchdeabGreatDoor
open _root_.Go.Proofs.Tryz
open Go.RowKit
def bare (a:ak):ak:=if a.n=0 then⟨false,0,0⟩ else⟨a.s,a.n/2^tz a.n,a.e+tz a.n⟩
def V (K:Nat)(a:ak):Int:=sz a.s a.n*((2^ (a.e+K).toNat:Nat):Int)
theorem eV (K:Nat)(a:ak):V K a=sz a.s (a.n*2^ (a.e+K).toNat):=Y5 _ _ _
theorem adk {K:Nat}{a:ak}{e:Int}(b: -(K:Int)≤e)(c:e≤a.e):V K a=sz a.s (a.n*2^ (a.e-e).toNat)*((2^ (e+K).toNat:Nat):Int):=by
 rw[eV,Y5,Nat.mul_assoc,←Nat.pow_add];have:(a.e+K).toNat=(a.e-e).toNat+(e+K).toNat:=by omega
 rw[this]
theorem dH {K:Nat}{a b:ak}(d: -(K:Int)≤a.e)(f: -(K:Int)≤b.e):V K (aG a b)=V K a+V K b:=by
 have c: -(K:Int)≤min a.e b.e:=by omega
 rw[adk c (Int.min_le_left a.e b.e),adk c (Int.min_le_right a.e b.e),←Int.add_mul,Y6];unfold aG V;simp only
 split
 ·rfl
 ·split<;>rfl
theorem pC (K:Nat)(a:ak):V K (dV a)= -V K a:=by
 unfold V dV sz
 cases a.s<;>simp[Int.neg_mul]
theorem Di (K:Nat)(a:ak):sgn (V K a)=if a.n=0 then 0 else if a.s then-1 else 1:=by
 rw[eV];have p1:0<2^ (a.e+K).toNat:=Nat.pow_pos (by omega)
 by_cases h:a.n=0
 ·rw[if_pos h,h,Nat.zero_mul];simp[sz,sgn]
 ·rw[if_neg h]
  have b:0<a.n*2^ (a.e+K).toNat:=Nat.mul_pos (by omega) p1;generalize a.n*2^ (a.e+K).toNat=q at b;unfold sz sgn
  cases a.s
  ·simp;omega
  ·simp;omega
abbrev yOL (c:Int)(g:Bool)(t:ak)(o:Option Addr)(k:Nat):List Value:=[.int .i64 c,.bool g,.bool t.s,.slice o (Dg.dg 4294967296 t.n).length k,.int .i64 t.e]
abbrev yOV (c:Int)(g:Bool)(t:ak)(o:Option Addr)(k:Nat):Value:= .agg #[.int .i64 c,.bool g,.bool t.s,.slice o (Dg.dg 4294967296 t.n).length k,.int .i64 t.e]
abbrev yOA (c:Int)(g:Bool)(t:ak)(o:Option Addr)(k:Nat):Array Value:= #[.int .i64 c,.bool g,.bool t.s,.slice o (Dg.dg 4294967296 t.n).length k,.int .i64 t.e]
abbrev yDL (t:ak)(o:Option Addr)(k:Nat):List Value:=[.bool t.s,.slice o (Dg.dg 4294967296 t.n).length k,.int .i64 t.e]
abbrev yDV (t:ak)(o:Option Addr)(k:Nat):Value:= .agg #[.bool t.s,.slice o (Dg.dg 4294967296 t.n).length k,.int .i64 t.e]
abbrev yDA (t:ak)(o:Option Addr)(k:Nat):Array Value:= #[.bool t.s,.slice o (Dg.dg 4294967296 t.n).length k,.int .i64 t.e]
theorem AM (a b:Int)(w:World):yC 104 #[yi a,yi b] w fun e w'=>e= .returned (yi (dm a b))∧w'=w:=by
 unfold dm
 by_cases c:a<b
 ·rw[if_pos c]
  go_enter func104,ntmps104
  go_wp2
  go_ret
  exact⟨rfl,rfl⟩
 ·by_cases d:b<a
  ·rw[if_neg c,if_pos d]
   go_enter func104,ntmps104
   go_wp2
   go_ret
   exact⟨rfl,rfl⟩
  ·rw[if_neg c,if_neg d]
   go_enter func104,ntmps104
   go_wp2
   go_ret
   exact⟨rfl,rfl⟩
theorem RF (a b:Int)(w:World):yC 105 #[.int .u32 a,.int .u32 b] w fun e w'=>e= .returned (yi (dm a b))∧w'=w:=by
 unfold dm
 by_cases c:a<b
 ·rw[if_pos c]
  go_enter func105,ntmps105
  go_wp2
  go_ret
  exact⟨rfl,rfl⟩
 ·by_cases d:b<a
  ·rw[if_neg c,if_pos d]
   go_enter func105,ntmps105
   go_wp2
   go_ret
   exact⟨rfl,rfl⟩
  ·rw[if_neg c,if_neg d]
   go_enter func105,ntmps105
   go_wp2
   go_ret
   exact⟨rfl,rfl⟩
theorem Vb (a b y:Nat)(w:World)(g:a<y)(f:b<4294967296)(k:y<4294967296):
  yC 134 #[.int .u32 a,.int .u32 b,.int .u32 y] w (yR w (.tuple #[.int .u32 ((a*4294967296+b)/y:Nat),.int .u32 ((a*4294967296+b) % y:Nat)])):=by
 have h:=KJ a b (by omega) f;obtain⟨t,e⟩: ∃t,a*4294967296+b=t:=⟨_,rfl⟩;have i:=I6 g f e.symm;have o:t<18446744073709551616:=by omega
 rw[e] at h⊢;have j:t % y<y:=Nat.mod_lt _ (by omega);obtain⟨q,c⟩: ∃q,t/y=q:=⟨_,rfl⟩;obtain⟨r,d⟩: ∃r,t % y=r:=⟨_,rfl⟩;have m:(t:Int)/(y:Int)=(q:Int):=by rw[←c];exact(Int.natCast_ediv t y).symm
 have n:(t:Int) % (y:Int)=(r:Int):=by rw[←d];exact(Int.natCast_emod t y).symm
 rw[c] at i⊢;rw[d] at j⊢;clear c d e;have l:decide (y≤a)=false:=by simp;omega
 have p:((y:Int) != 0)=true:=by rw[bne_iff_ne];omega
 go_enter func134,ntmps134
 go_wp2
 go_quiet (fail)
 go_wp2
 go_ret2
 exact⟨rfl,aL (Below.refl _ _) _⟩
theorem zA (x y c:Nat)(w:World)(h:x<4294967296)(i:y<4294967296)(g:c≤1):
  yC 106 #[.int .u32 x,.int .u32 y,.int .u32 c] w fun e w'=>e= .returned (.tuple #[.int .u32 ((x+4294967296-y-c) % 4294967296:Nat),.int .u32 ((brw x y c:Nat):Int)])∧w'=w:=by
 have j:=NE x y c h i g;have k: ¬IntKind.u32.signed=true:=by decide
 have a:(((x:Int)-(y:Int)) % 4294967296-(c:Int)) % 4294967296=(((x+4294967296-y-c) % 4294967296:Nat):Int):=by omega
 obtain⟨d,b⟩: ∃d,(x+4294967296-y-c) % 4294967296=d:=⟨_,rfl⟩;rw[b] at a⊢;have f:Hid _:=a;clear a b
 go_enter func106,ntmps106
 go_wp2
 go_ret2
 exact⟨by rw[←f.out];rfl,rfl⟩
theorem Un (x:Int)(w:World)(b:0≤x)(c:x≤4294967295):
  yC 108 #[.int .u32 x] w fun e w'=>e= .returned (yi (bitLen x.toNat:Nat))∧w'=w:=by
 go_enter func108,ntmps108
 go_wp2
 all_goals try (exfalso;have f:=Lib.len8tab_size;omega)
 all_goals (go_ret;refine⟨congrArg Ending.returned (congrArg (Value.int IntKind.i64) ?_),rfl⟩)
 all_goals simp only[X4]
 ·exact qz 24 _ x.toNat (by have:=bitLen_shift x.toNat 24 (by omega);rw[this];congr 2;omega) (by omega)
 ·exact qz 16 _ x.toNat (by have:=bitLen_shift x.toNat 16 (by omega);rw[this];congr 2;omega) (by omega)
 ·exact qz 8 _ x.toNat (by have:=bitLen_shift x.toNat 8 (by omega);rw[this];congr 2;omega) (by omega)
 ·have d:=bitLen_le8 x.toNat (by omega)
  have a:=IntWalk.wrap64_in ((bitLen x.toNat:Nat):Int) ⟨by omega,by omega⟩;rw[a,a]
theorem IK (x:Nat)(w:World)(h:x<4294967296):
  yC 108 #[.int .u32 x] w fun e w'=>e= .returned (yi (bitLen x:Nat))∧w'=w:=by
 have:=Un x w (by omega) (by omega);rw[Int.toNat_natCast] at this;exact this
theorem Y9 {xs b:List Nat}{a P Q k v:Nat}(h:abK xs b a P Q k)(i:k<xs.length-a)(g:v=xs.getD (a+k) 0/P+xs.getD (a+k+1) 0 % P*Q):abK xs (b.set k v) a P Q (k+1):=by
 obtain⟨d,f⟩:=h;refine⟨by simpa using d,fun j=> ?_⟩
 rw[Dg.getD_set _ _ _ _ (by omega)]
 by_cases e:k=j
 ·subst e;rw[if_pos rfl,if_pos (by omega)];exact g
 ·rw[if_neg e,f j]
  by_cases c:j<k
  ·rw[if_pos c,if_pos (by omega)]
  ·rw[if_neg c,if_neg (by omega)]
theorem Ug (P Q:Nat)(l:List Nat)(a:P*Q=65536)(f:Dg.Small 65536 l):Dg.Small 65536 (low P Q l):=by
 intro j
 by_cases d:j<l.length
 ·rw[Gb P Q l j d]
  have b:0<P:=by
   rcases Nat.eq_zero_or_pos P with e|e
   ·subst e;simp at a
   ·exact e
  have g:l.getD j 0/P<Q:=by rw[Nat.div_lt_iff_lt_mul b,Nat.mul_comm,a];exact f j
  have c:(l.getD (j+1) 0 % P+1)*Q≤P*Q:=Nat.mul_le_mul_right _ (Nat.mod_lt _ b);rw[Nat.add_mul,a] at c;omega
 ·rw[Dg.getD_of_le _ _ (by rw[mA];omega)];omega
def Dv (w:World)(v:Value)(t:ak):Prop:= ∃s,v=(ydV t.s s t.e)∧Rd w .u32 s (Dg.dg 4294967296 t.n)
def Rv (w:World)(v:Value)(t:ak):Prop:= ∃s,v=(ydV t.s s t.e)∧Rd w .i64 s (Dg.dg 65536 t.n)
theorem gZ (n L:Nat)(h:(Dg.dg 4294967296 n).length≤L):tz n≤32*L:=by
 by_cases a:n=0
 ·subst a;exact Nat.zero_le _
 ·obtain⟨m,f⟩:=fO a
  have b:=Dg.vl_lt 4294967296 (Dg.dg 4294967296 n) (Dg.small_dg _ _ (by omega));rw[Dg.vl_dg _ _ (by omega)] at b;have g:4294967296^ (Dg.dg 4294967296 n).length≤4294967296^L:=Nat.pow_le_pow_right (by omega) h;have c:(4294967296:Nat)^L=2^ (32*L):=by rw[Nat.pow_mul]
  have d:2^tz n*1≤2^tz n*(2*m+1):=Nat.mul_le_mul_left _ (by omega);rw[←f,Nat.mul_one] at d;have e:2^tz n<2^ (32*L):=by rw[←c];omega
  exact Nat.le_of_lt ((Nat.pow_lt_pow_iff_right (by omega)).1 e)
def dJ (t:ak):Int:=if t.n=0 then 0 else if t.s then-1 else 1
def bJ (a b:ak):Int:=dJ (aG a (dV b))
theorem oY {K:Nat}{a b:ak}(d: -(K:Int)≤a.e)(f: -(K:Int)≤b.e):bJ a b=sgn (V K a-V K b):=by
 have c:V K (aG a (dV b))=V K a-V K b:=by rw[dH d (by exact f),pC];omega
 rw[←c,Di];rfl
theorem uO {K:Nat}{a b:ak}(c: -(K:Int)≤a.e)(d: -(K:Int)≤b.e):bJ a b<0↔V K a<V K b:=by
 rw[oY c d];unfold sgn
 split
 ·omega
 ·split<;>omega
theorem ol {K:Nat}{a b:ak}(c: -(K:Int)≤a.e)(d: -(K:Int)≤b.e):0<bJ a b↔V K b<V K a:=by
 rw[oY c d];unfold sgn
 split
 ·omega
 ·split<;>omega
def loI (x:Nat→ak):Nat→Nat
 |0=>0
 |i+1=>if bJ (x (i+1)) (x (loI x i))<0 then i+1 else loI x i
def hiI (x:Nat→ak):Nat→Nat
 |0=>0
 |i+1=>if 0<bJ (x (i+1)) (x (hiI x i)) then i+1 else hiI x i
def loT (x:Nat→ak)(i:Nat):ak:=x (loI x i)
def hiT (x:Nat→ak)(i:Nat):ak:=x (hiI x i)
theorem tB (x:Nat→ak)(i:Nat):loI x i≤i:=by
 induction i with
 |zero=>exact Nat.le_refl _
 |succ i ih=>unfold loI;split<;>omega
theorem wN (x:Nat→ak)(i:Nat):hiI x i≤i:=by
 induction i with
 |zero=>exact Nat.le_refl _
 |succ i ih=>unfold hiI;split<;>omega
theorem DN {x:Nat→ak}{i:Nat}(h:bJ (x (i+1)) (x (loI x i))<0):loI x (i+1)=i+1:=if_pos h
theorem DO {x:Nat→ak}{i:Nat}(h: ¬bJ (x (i+1)) (x (loI x i))<0):loI x (i+1)=loI x i:=if_neg h
theorem uP {x:Nat→ak}{i:Nat}(h:0<bJ (x (i+1)) (x (hiI x i))):hiI x (i+1)=i+1:=if_pos h
theorem uQ {x:Nat→ak}{i:Nat}(h: ¬0<bJ (x (i+1)) (x (hiI x i))):hiI x (i+1)=hiI x i:=if_neg h
theorem Po (x:Nat→ak)(i:Nat): ∃j,j≤i∧loT x i=x j:=⟨_,tB x i,rfl⟩
theorem Pp (x:Nat→ak)(i:Nat): ∃j,j≤i∧hiT x i=x j:=⟨_,wN x i,rfl⟩
theorem kP (x:Nat→ak)(i:Nat)(P:ak→Prop)(h: ∀j,j≤i→P (x j)):P (loT x i):=by
 obtain⟨j,a,b⟩:=Po x i;rw[b];exact h j a
theorem kQ (x:Nat→ak)(i:Nat)(P:ak→Prop)(h: ∀j,j≤i→P (x j)):P (hiT x i):=by
 obtain⟨j,a,b⟩:=Pp x i;rw[b];exact h j a
theorem Al {K:Nat}(x:Nat→ak)(i:Nat)(h: ∀j,j≤i→ -(K:Int)≤(x j).e): ∀j,j≤i→V K (loT x i)≤V K (x j):=by
 induction i with
 |zero=>
  intro j d;have:j=0:=by omega
  subst this;exact Int.le_refl _
 |succ i b=>
  intro j d;have k:=h (i+1) (Nat.le_refl _);have l: -(K:Int)≤(loT x i).e:=kP x i (fun t=> -(K:Int)≤t.e) (fun j d=>h j (by omega))
  have b:=b (fun j d=>h j (by omega))
  have g:=uO k l
  by_cases a:bJ (x (i+1)) (loT x i)<0
  ·have c:loT x (i+1)=x (i+1):=congrArg x (DN a)
   rw[c];have:=g.1 a
   by_cases f:j=i+1
   ·subst f;exact Int.le_refl _
   ·have:=b j (by omega);omega
  ·have c:loT x (i+1)=loT x i:=congrArg x (DO a)
   rw[c]
   by_cases f:j=i+1
   ·subst f
    by_cases m:V K (x (i+1))<V K (loT x i)
    ·exact absurd (g.2 m) a
    ·omega
   ·exact b j (by omega)
theorem Ao {K:Nat}(x:Nat→ak)(i:Nat)(h: ∀j,j≤i→ -(K:Int)≤(x j).e): ∀j,j≤i→V K (x j)≤V K (hiT x i):=by
 induction i with
 |zero=>
  intro j d;have:j=0:=by omega
  subst this;exact Int.le_refl _
 |succ i b=>
  intro j d;have k:=h (i+1) (Nat.le_refl _);have l: -(K:Int)≤(hiT x i).e:=kQ x i (fun t=> -(K:Int)≤t.e) (fun j d=>h j (by omega))
  have b:=b (fun j d=>h j (by omega))
  have g:=ol k l
  by_cases a:0<bJ (x (i+1)) (hiT x i)
  ·have c:hiT x (i+1)=x (i+1):=congrArg x (uP a)
   rw[c];have:=g.1 a
   by_cases f:j=i+1
   ·subst f;exact Int.le_refl _
   ·have:=b j (by omega);omega
  ·have c:hiT x (i+1)=hiT x i:=congrArg x (uQ a)
   rw[c]
   by_cases f:j=i+1
   ·subst f
    by_cases m:V K (hiT x i)<V K (x (i+1))
    ·exact absurd (g.2 m) a
    ·omega
   ·exact b j (by omega)
def aY (t:ak)(b:Int)(up:Bool):ak:=
 if(bitLen t.n:Int)-b≤((if t.n=0 then 0 else tz t.n:Nat):Int) then t
 else⟨t.s,t.n/2^ ((bitLen t.n:Int)-b).toNat+(if(up != t.s)=true then 1 else 0),t.e+((bitLen t.n:Int)-b)⟩
theorem gf {a L:Nat}(h:(Dg.dg 4294967296 a).length≤L):bitLen a≤32*L:=by
 refine bF a _ ?_;rw[Nat.pow_mul];have b:=Dg.vl_lt 4294967296 _ (Dg.small_dg 4294967296 a (by omega));rw[Dg.vl_dg _ _ (by omega)] at b;exact Nat.lt_of_lt_of_le b (Nat.pow_le_pow_right (by omega) h)
theorem lp_tail (nn tn:Nat)(g:4≤nn): ∀f i t s r,i≤(lp nn tn f i t s r).1∧s≤(lp nn tn f i t s r).2.1∧r≤(lp nn tn f i t s r).2.2∧(lp nn tn f i t s r).2.1+(lp nn tn f i t s r).2.2≤s+r+2*t:=by
 intro f
 induction f with
 |zero=>intro i t s r;simp[lp]
 |succ f ih=>
  intro i t s r;have j:=Nat.div_le_self t (2*i+1);have k:=two_div (t:=t) g
  by_cases e:t=0
  ·subst e;rw[lp_zero];simp
  ·by_cases h:tn*(i % 2)=0
   ·rw[lp_up _ _ _ _ _ _ _ e h]
    obtain⟨a,b,c,d⟩:=ih (i+1) (t/nn) (s+t/(2*i+1)) r;generalize lp nn tn f (i+1) (t/nn) (s+t/(2*i+1)) r=x at*;generalize t/(2*i+1)=q at*;omega
   ·rw[lp_down _ _ _ _ _ _ _ e h]
    obtain⟨a,b,c,d⟩:=ih (i+1) (t/nn) s (r+t/(2*i+1));generalize lp nn tn f (i+1) (t/nn) s (r+t/(2*i+1))=x at*;generalize t/(2*i+1)=q at*;omega
theorem mX (A:ak)(b:Int)(up:Bool)(r:1≤b):
  (bitLen (bare A).n≤b∧aY A b up=A)∨
  (∃j q:Nat,¬(bitLen (bare A).n:Int)≤b∧A.n≠0∧(bitLen A.n:Int)-b=(j:Int)∧A.n/2^j=q∧q*2^j≤A.n∧A.n< (q+1)*2^j∧q<2^b.toNat∧0<q∧tz A.n≤j∧aY A b up=⟨A.s,q+(if(up != A.s)=true then 1 else 0),A.e+(j:Int)⟩):=by
 by_cases c:A.n=0
 ·refine Or.inl ⟨?_,if_pos ?_⟩
  ·unfold bare
   rw[if_pos c]
   show((bitLen 0:Nat):Int)≤b
   rw[gP];omega
  ·rw[c,gP,if_pos rfl];omega
 ·obtain⟨m,i⟩:=fO c
  have l:=lI i;have f:=Ad (2*m+1) (tz A.n) (by omega);rw[←i] at f;have k:(bare A).n=2*m+1:=by
   unfold bare;rw[if_neg c];exact l
  rw[k]
  by_cases h:(bitLen (2*m+1):Int)≤b
  ·refine Or.inl ⟨h,if_pos ?_⟩
   rw[if_neg c,f];omega
  ·refine Or.inr ?_
   obtain⟨j,g⟩: ∃j:Nat,(bitLen A.n:Int)-b=(j:Int):=⟨((bitLen A.n:Int)-b).toNat,by omega⟩;obtain⟨o,p⟩:=bitLen_spec A.n;have d:0<2^j:=Nat.pow_pos (by omega);refine⟨j,A.n/2^j,h,c,g,rfl,Nat.div_mul_le_self _ _, ?_, ?_, ?_,by omega, ?_⟩
   ·have:=Nat.lt_div_mul_add (a:=A.n) d
    rw[Nat.add_mul,Nat.one_mul];exact this
   ·rw[Nat.div_lt_iff_lt_mul d,←Nat.pow_add]
    have e:b.toNat+j=bitLen A.n:=by omega
    rw[e];exact o
   ·apply Nat.div_pos _ d
    refine Nat.le_trans (Nat.pow_le_pow_right (by omega) ?_) (p c);omega
   ·unfold aY
    rw[if_neg c,if_neg (by rw[f] at g⊢;omega),g,Int.toNat_natCast]
def RB6 (W:World)(v:Value)(x y:ak):Prop:= ∃p q,v= .agg #[.bool x.s,p,yi x.e,.bool y.s,q,yi y.e]∧Rd W .i64 p (Dg.dg 65536 x.n)∧Rd W .i64 q (Dg.dg 65536 y.n)
theorem inv_ord {n k tn:Nat}(j:2≤n)(l:tn≤1): ∀f i t s r R,InvN n k tn R f i t s r→R.2.2≤R.2.1∧R.1≤k+1:=by
 intro f
 induction f with
 |zero=>
  intro i t s r R h;obtain rfl:t=0:=by simpa using h.2.1
  obtain⟨e,a,g,-⟩:=inv_end h;subst e;exact⟨a,g⟩
 |succ f ih=>
  intro i t s r R h
  by_cases d:t=0
  ·subst d
   obtain⟨e,a,g,-⟩:=inv_end h;subst e;exact⟨a,g⟩
  ·rcases Nat.mod_two_eq_zero_or_one i with c|c
   ·obtain⟨b,e,a⟩:=inv_up j h d (by rw[c,Nat.mul_zero]) l
    obtain rfl:f=b:=by omega
    exact ih _ _ _ _ _ a
   ·by_cases m:tn=0
    ·obtain⟨b,e,a⟩:=inv_up j h d (by rw[m,Nat.zero_mul]) l
     obtain rfl:f=b:=by omega
     exact ih _ _ _ _ _ a
    ·obtain⟨b,e,a⟩:=inv_down j h d (by rw[c];omega)
     obtain rfl:f=b:=by omega
     exact ih _ _ _ _ _ a
def XA (n tn k:Nat):Nat:=(lp (n*n) tn (k+1) 0 (2^k/n) 0 0).2.1-(lp (n*n) tn (k+1) 0 (2^k/n) 0 0).2.2
def NA (n tn k:Nat):Nat:=(lp (n*n) tn (k+1) 0 (2^k/n) 0 0).1
def SpanV (w:World)(v:Value)(a b:ak):Prop:= ∃p q,v= .agg #[.bool a.s,p,yi a.e,.bool b.s,q,yi b.e]∧Rd w .u32 p (Dg.dg 4294967296 a.n)∧Rd w .u32 q (Dg.dg 4294967296 b.n)
def FitsT (t:ak):Prop:=(∃k,k≤70000∧t.n<2^k)∧ -90000≤t.e∧t.e≤90000
def upT (t:ak)(n:Int):ak:=⟨t.s,t.n,t.e+n⟩
theorem V_at_e (k:Nat)(s:Bool)(n:Nat):V k ⟨s,n,0-(k:Int)⟩=V 0 ⟨s,n,0⟩:=by
 rw[eV,eV]
 show sz s (n*2^ (0-(k:Int)+(k:Int)).toNat)=sz s (n*2^ ((0:Int)+((0:Nat):Int)).toNat)
 rw[show(0-(k:Int)+(k:Int)).toNat=0 by omega,show((0:Int)+((0:Nat):Int)).toNat=0 by omega]
theorem V_zero (n:Nat):V 0 ⟨false,n,0⟩=(n:Int):=by
 rw[eV]
 show sz false (n*2^ ((0:Int)+((0:Nat):Int)).toNat)=(n:Int)
 rw[show((0:Int)+((0:Nat):Int)).toNat=0 by omega,Nat.pow_zero,Nat.mul_one]
 rfl
theorem inv_e (R:Nat×Nat×Nat)(k:Nat):(invLo R k).e=0-(k:Int)∧(invHi R k).e=0-(k:Int):=by
 have a:=plus_e0 ⟨false,R.2.1-R.2.2,0⟩ (dV ⟨false,3+3*R.1,0⟩) rfl rfl;have b:=plus_e0 ⟨false,R.2.1-R.2.2,0⟩ ⟨false,3+3*R.1,0⟩ rfl rfl
 constructor
 ·show(aG ⟨false,R.2.1-R.2.2,0⟩ (dV ⟨false,3+3*R.1,0⟩)).e-(k:Int)=_
  rw[a]
 ·show(aG ⟨false,R.2.1-R.2.2,0⟩ ⟨false,3+3*R.1,0⟩).e-(k:Int)=_
  rw[b]
theorem V_inv (R:Nat×Nat×Nat)(k:Nat):V k (invLo R k)=((R.2.1-R.2.2:Nat):Int)-((3+3*R.1:Nat):Int)∧V k (invHi R k)=((R.2.1-R.2.2:Nat):Int)+((3+3*R.1:Nat):Int):=by
 have c:=plus_e0 ⟨false,R.2.1-R.2.2,0⟩ (dV ⟨false,3+3*R.1,0⟩) rfl rfl;have d:=plus_e0 ⟨false,R.2.1-R.2.2,0⟩ ⟨false,3+3*R.1,0⟩ rfl rfl;have e:=dH (K:=0) (a:=⟨false,R.2.1-R.2.2,0⟩) (b:=dV ⟨false,3+3*R.1,0⟩) (by simp) (by simp[dV]);have f:=dH (K:=0) (a:=⟨false,R.2.1-R.2.2,0⟩) (b:=⟨false,3+3*R.1,0⟩) (by simp) (by simp);rw[pC,V_zero,V_zero] at e;rw[V_zero,V_zero] at f
 constructor
 ·unfold invLo
  generalize aG ⟨false,R.2.1-R.2.2,0⟩ (dV ⟨false,3+3*R.1,0⟩)=y at*;obtain⟨i,h,g⟩:=y;simp only at c⊢;subst c;rw[V_at_e,e];omega
 ·unfold invHi
  generalize aG ⟨false,R.2.1-R.2.2,0⟩ ⟨false,3+3*R.1,0⟩=y at*;obtain⟨i,h,g⟩:=y;simp only at d⊢;subst d;rw[V_at_e,f]
theorem V_up {k:Nat}{t:ak}(n:Nat)(h: -(k:Int)≤t.e):V k (upT t n)=V k t*((2^n:Nat):Int):=by
 unfold V upT;simp only;rw[show(t.e+(n:Int)+(k:Int)).toNat=(t.e+(k:Int)).toNat+n by omega,Nat.pow_add,Int.natCast_mul,Int.mul_assoc]
theorem inv_fits (n k tn:Nat)(b:2≤n)(p:tn≤1)(y:k≤60000):FitsT (invLo (lp (n*n) tn (k+1) 0 (2^k/n) 0 0) k)∧FitsT (invHi (lp (n*n) tn (k+1) 0 (2^k/n) 0 0) k)∧XA n tn k+(3+3*NA n tn k)<2^ (k+17):=by
 have l:=(inv_ord b p _ _ _ _ _ _ (inv_zero (k:=k) (tn:=tn) b)).2;have u:=lp_tail (n*n) tn (Nat.mul_le_mul b b) (k+1) 0 (2^k/n) 0 0;have v:=Nat.div_le_self (2^k) n;have z:0<2^k:=Nat.pow_pos (by omega);have A:XA n tn k≤2*2^k:=by
  unfold XA;generalize lp (n*n) tn (k+1) 0 (2^k/n) 0 0=R at*;omega
 have x:NA n tn k≤k+1:=l;have g:XA n tn k+(3+3*NA n tn k)<2^ (k+17):=by
  rw[Nat.pow_add];have:(2:Nat)^17=131072:=by decide
  have w:k<2^k:=Nat.lt_two_pow_self;rw[this];omega
 obtain⟨i,j⟩:=inv_e (lp (n*n) tn (k+1) 0 (2^k/n) 0 0) k;obtain⟨q,r⟩:=V_inv (lp (n*n) tn (k+1) 0 (2^k/n) 0 0) k;have h: ∀t:ak,t.e=0-(k:Int)→(V k t< ((2^ (k+17):Nat):Int)∧ -((2^ (k+17):Nat):Int)<V k t)→FitsT t:=fun t o a=>by
  refine⟨⟨k+17,by omega, ?_⟩,by omega,by omega⟩;have m:V k t=sz t.s t.n:=by
   rw[eV,o,show(0-(k:Int)+(k:Int)).toNat=0 by omega,Nat.pow_zero,Nat.mul_one]
  rw[m] at a;unfold sz at a
  split at a
  ·have:=a.2
   exact Int.ofNat_lt.1 (by omega)
  ·exact Int.ofNat_lt.1 a.1
 have c:((XA n tn k:Nat):Int)+((3+3*NA n tn k:Nat):Int)< ((2^ (k+17):Nat):Int):=by rw[←Int.natCast_add];exact Int.ofNat_lt.2 g
 refine⟨h _ i ?_,h _ j ?_,g⟩
 ·rw[q]
  have d:=Int.natCast_nonneg (XA n tn k);have f:=Int.natCast_nonneg (3+3*NA n tn k);unfold XA at c d;unfold NA at c f;generalize((2^ (k+17):Nat):Int)=P at*
  constructor<;>omega
 ·rw[r]
  have d:=Int.natCast_nonneg (XA n tn k);have f:=Int.natCast_nonneg (3+3*NA n tn k);unfold XA at c d;unfold NA at c f;generalize((2^ (k+17):Nat):Int)=P at*
  constructor<;>omega
theorem fits_of_V {t:ak}{k j:Nat}(h: -(k:Int)≤t.e)(c:t.e≤90000)(i:k≤60000)(d:j≤70000)(a:V k t< ((2^j:Nat):Int))(b: -((2^j:Nat):Int)<V k t):FitsT t:=by
 refine⟨⟨j,d, ?_⟩,by omega,c⟩;rw[eV] at a b;have g:0<2^ (t.e+(k:Int)).toNat:=Nat.pow_pos (by omega);have f:t.n≤t.n*2^ (t.e+(k:Int)).toNat:=Nat.le_mul_of_pos_right _ g;generalize t.n*2^ (t.e+(k:Int)).toNat=m at*;refine Nat.lt_of_le_of_lt f (Int.ofNat_lt.1 ?_);generalize((2^j:Nat):Int)=P at*;unfold sz at a b
 split at a<;>simp_all<;>omega
theorem plus_e_min (a b:ak):(aG a b).e=min a.e b.e:=by
 unfold aG;simp only
 split
 ·rfl
 ·split<;>rfl
def fourT (a b p q:ak):Nat→ak
 |0=>aK a p
 |1=>aK a q
 |2=>aK b p
 |_=>aK b q
theorem V_by18 (k:Nat)(a:ak):V k (aK a ⟨false,18,0⟩)=18*V k a:=by
 rw[eV,eV]
 show sz (a.s != false) (a.n*18*2^ (a.e+0+(k:Int)).toNat)=_
 rw[show a.e+0+(k:Int)=a.e+(k:Int) by omega,Nat.mul_right_comm]
 generalize a.n*2^ (a.e+(k:Int)).toNat=m;unfold sz
 cases a.s<;>simp<;>omega
theorem four18 {k:Nat}{a b:ak}(t: -(k:Int)≤a.e)(u: -(k:Int)≤b.e)(h:V k a≤V k b):
  V k (loT (fourT a b ⟨false,18,0⟩ ⟨false,18,0⟩) 3)=18*V k a∧V k (hiT (fourT a b ⟨false,18,0⟩ ⟨false,18,0⟩) 3)=18*V k b:=by
 have d: ∀j,j≤3→ -(k:Int)≤(fourT a b ⟨false,18,0⟩ ⟨false,18,0⟩ j).e:=by
  intro j c
  match j,c with
  |0,_=>show _≤a.e+0;omega
  |1,_=>show _≤a.e+0;omega
  |2,_=>show _≤b.e+0;omega
  |3,_=>show _≤b.e+0;omega
 have f: ∀j,j≤3→V k (fourT a b ⟨false,18,0⟩ ⟨false,18,0⟩ j)=18*V k a∨V k (fourT a b ⟨false,18,0⟩ ⟨false,18,0⟩ j)=18*V k b:=by
  intro j c
  match j,c with
  |0,_=>exact .inl (V_by18 k a)
  |1,_=>exact .inl (V_by18 k a)
  |2,_=>exact .inr (V_by18 k b)
  |3,_=>exact .inr (V_by18 k b)
 have p:=Al (K:=k) _ 3 d 0 (by omega);have q:=Ao (K:=k) _ 3 d 2 (by omega);rw[show fourT a b ⟨false,18,0⟩ ⟨false,18,0⟩ 0=aK a ⟨false,18,0⟩ from rfl,V_by18] at p
 rw[show fourT a b ⟨false,18,0⟩ ⟨false,18,0⟩ 2=aK b ⟨false,18,0⟩ from rfl,V_by18] at q
 obtain⟨n,g,i⟩:=Po (fourT a b ⟨false,18,0⟩ ⟨false,18,0⟩) 3;obtain⟨o,l,m⟩:=Pp (fourT a b ⟨false,18,0⟩ ⟨false,18,0⟩) 3;have r:=f n g;have s:=f o l;rw[←i] at r;rw[←m] at s;omega
theorem four_e {a b:ak}{E:Int}(f:a.e=E)(g:b.e=E):(loT (fourT a b ⟨false,18,0⟩ ⟨false,18,0⟩) 3).e=E∧(hiT (fourT a b ⟨false,18,0⟩ ⟨false,18,0⟩) 3).e=E:=by
 have c: ∀j,j≤3→(fourT a b ⟨false,18,0⟩ ⟨false,18,0⟩ j).e=E:=by
  intro j d
  match j,d with
  |0,_=>show a.e+0=E;omega
  |1,_=>show a.e+0=E;omega
  |2,_=>show b.e+0=E;omega
  |3,_=>show b.e+0=E;omega
 exact⟨kP _ 3 (fun t=>t.e=E) c,kQ _ 3 (fun t=>t.e=E) c⟩
theorem bits_le {n k:Nat}(h:n<2^k):bitLen n≤k:=by
 by_cases c:n=0
 ·rw[c,gP];omega
 ·obtain⟨d,b,e⟩:=uB n c
  have:=(Nat.pow_lt_pow_iff_right (a:=2) (by omega)).1 (Nat.lt_of_le_of_lt b h);omega
def lnA (n k:Nat):ak:=invLo (lp (n*n) 0 (k+1) 0 (2^k/n) 0 0) k
def lnB (n k:Nat):ak:=invHi (lp (n*n) 0 (k+1) 0 (2^k/n) 0 0) k
def lnM (k:Nat):ak:=loT (fourT (lnA 26 k) (lnB 26 k) ⟨false,18,0⟩ ⟨false,18,0⟩) 3
def lnN (k:Nat):ak:=hiT (fourT (lnA 26 k) (lnB 26 k) ⟨false,18,0⟩ ⟨false,18,0⟩) 3
def lnU (k:Nat):ak:=aG (lnM k) (dV (upT (lnB 4801 k) 1))
def lnV (k:Nat):ak:=aG (lnN k) (dV (upT (lnA 4801 k) 1))
def lnLo (k:Nat):ak:=aG (lnU k) (upT (lnA 8749 k) 3)
def lnHi (k:Nat):ak:=aG (lnV k) (upT (lnB 8749 k) 3)
theorem lnA_V (n k:Nat):V k (lnA n k)=(XA n 0 k:Int)-((3+3*NA n 0 k:Nat):Int)∧V k (lnB n k)=(XA n 0 k:Int)+((3+3*NA n 0 k:Nat):Int)∧(lnA n k).e=0-(k:Int)∧(lnB n k).e=0-(k:Int):=by
 obtain⟨a,b⟩:=inv_e (lp (n*n) 0 (k+1) 0 (2^k/n) 0 0) k;obtain⟨c,d⟩:=V_inv (lp (n*n) 0 (k+1) 0 (2^k/n) 0 0) k;exact⟨c,d,a,b⟩
theorem ln_V (k:Nat):(V k (lnU k)=18*((XA 26 0 k:Int)-((3+3*NA 26 0 k:Nat):Int))-2*((XA 4801 0 k:Int)+((3+3*NA 4801 0 k:Nat):Int))∧V k (lnV k)=18*((XA 26 0 k:Int)+((3+3*NA 26 0 k:Nat):Int))-2*((XA 4801 0 k:Int)-((3+3*NA 4801 0 k:Nat):Int)))∧
  (V k (lnLo k)=18*((XA 26 0 k:Int)-((3+3*NA 26 0 k:Nat):Int))-2*((XA 4801 0 k:Int)+((3+3*NA 4801 0 k:Nat):Int))+8*((XA 8749 0 k:Int)-((3+3*NA 8749 0 k:Nat):Int))∧V k (lnHi k)=18*((XA 26 0 k:Int)+((3+3*NA 26 0 k:Nat):Int))-2*((XA 4801 0 k:Int)-((3+3*NA 4801 0 k:Nat):Int))+8*((XA 8749 0 k:Int)+((3+3*NA 8749 0 k:Nat):Int)))∧
  ((lnM k).e=0-(k:Int)∧(lnN k).e=0-(k:Int)∧(lnU k).e=0-(k:Int)∧(lnV k).e=0-(k:Int)∧(lnLo k).e=0-(k:Int)∧(lnHi k).e=0-(k:Int))∧V k (lnM k)=18*((XA 26 0 k:Int)-((3+3*NA 26 0 k:Nat):Int))∧V k (lnN k)=18*((XA 26 0 k:Int)+((3+3*NA 26 0 k:Nat):Int)):=by
 obtain⟨H,I,r,s⟩:=lnA_V 26 k;obtain⟨J,K,u,v⟩:=lnA_V 4801 k;obtain⟨L,M,w,z⟩:=lnA_V 8749 k;obtain⟨f,h⟩:=four18 (k:=k) (a:=lnA 26 k) (b:=lnB 26 k) (by omega) (by omega) (by omega);obtain⟨F,G⟩:=four_e r s;have m:=V_up (k:=k) (t:=lnA 4801 k) 1 (by omega);have n:=V_up (k:=k) (t:=lnB 4801 k) 1 (by omega);have o:=V_up (k:=k) (t:=lnA 8749 k) 3 (by omega);have p:=V_up (k:=k) (t:=lnB 8749 k) 3 (by omega);rw[J] at m;rw[K] at n;rw[L] at o;rw[M] at p;rw[H] at f;rw[I] at h;have g:V k (lnM k)=_:=f;have i:V k (lnN k)=_:=h;have j:(lnM k).e=0-(k:Int):=F;have l:(lnN k).e=0-(k:Int):=G;have A:(dV (upT (lnA 4801 k) 1)).e=0-(k:Int)+1:=by show _+_=_;rw[u]
 have B:(dV (upT (lnB 4801 k) 1)).e=0-(k:Int)+1:=by show _+_=_;rw[v]
 have C:(upT (lnA 8749 k) 3).e=0-(k:Int)+3:=by show _+_=_;rw[w]
 have D:(upT (lnB 8749 k) 3).e=0-(k:Int)+3:=by show _+_=_;rw[z]
 have c: ∀x y E:Int,x=E→E≤y→min x y=E:=fun x y E R S=>by omega
 have d:(lnU k).e=0-(k:Int):=by unfold lnU;rw[plus_e_min,j,B];exact c _ _ _ rfl (by omega)
 have eV:(lnV k).e=0-(k:Int):=by unfold lnV;rw[plus_e_min,l,A];exact c _ _ _ rfl (by omega)
 have eL:(lnLo k).e=0-(k:Int):=by unfold lnLo;rw[plus_e_min,d,C];exact c _ _ _ rfl (by omega)
 have eH:(lnHi k).e=0-(k:Int):=by unfold lnHi;rw[plus_e_min,eV,D];exact c _ _ _ rfl (by omega)
 have N:V k (upT (lnA 4801 k) 1)=((XA 4801 0 k:Int)-((3+3*NA 4801 0 k:Nat):Int))*2:=m;have O:V k (upT (lnB 4801 k) 1)=((XA 4801 0 k:Int)+((3+3*NA 4801 0 k:Nat):Int))*2:=n;have P:V k (upT (lnA 8749 k) 3)=((XA 8749 0 k:Int)-((3+3*NA 8749 0 k:Nat):Int))*8:=o;have Q:V k (upT (lnB 8749 k) 3)=((XA 8749 0 k:Int)+((3+3*NA 8749 0 k:Nat):Int))*8:=p;have q:V k (lnU k)=18*((XA 26 0 k:Int)-((3+3*NA 26 0 k:Nat):Int))-2*((XA 4801 0 k:Int)+((3+3*NA 4801 0 k:Nat):Int)):=by
  unfold lnU;rw[dH (by omega) (by omega),pC,g,O];omega
 have vV:V k (lnV k)=18*((XA 26 0 k:Int)+((3+3*NA 26 0 k:Nat):Int))-2*((XA 4801 0 k:Int)-((3+3*NA 4801 0 k:Nat):Int)):=by
  unfold lnV;rw[dH (by omega) (by omega),pC,i,N];omega
 refine⟨⟨q,vV⟩,⟨?_, ?_⟩,⟨j,l,d,eV,eL,eH⟩,g,i⟩
 ·unfold lnLo
  rw[dH (by omega) (by omega),q,P];omega
 ·unfold lnHi
  rw[dH (by omega) (by omega),vV,Q];omega
end Go.Proofs.YthhiidikgchdeabGreatDoor
