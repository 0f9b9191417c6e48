/- Texts laid together. -/
import Derived.Test.YthhiidikgchdeabGreatDoorLb12
import Derived.Test.YthhiidikgchdeabGreatDoorLb15
set_option maxRecDepth 100000
set_option maxHeartbeats 3200000
namespace Go.Proofs.YthhiidikgchdeabGreatDoor
open _root_.Go.Proofs.Tryz
open Go.RowKit
theorem fH {K:Nat}{a b:ak}(t: -(K:Int)≤a.e)(u: -(K:Int)≤b.e)(h:V K a=V K b):bare a=bare b:=by
 rw[eV,eV] at h;have p1:0<2^ (a.e+K).toNat:=Nat.pow_pos (by omega);have p2:0<2^ (b.e+K).toNat:=Nat.pow_pos (by omega);unfold bare
 by_cases c:a.n=0
 ·have:b.n=0:=by
   rw[c,Nat.zero_mul] at h
   by_cases d:b.n=0
   ·exact d
   ·have f:b.n*2^ (b.e+K).toNat≠0:=Nat.ne_of_gt (Nat.mul_pos (by omega) p2)
    have:=(QI h.symm f).2;omega
  rw[if_pos c,if_pos this]
 ·have f:a.n*2^ (a.e+K).toNat≠0:=Nat.ne_of_gt (Nat.mul_pos (by omega) p1)
  obtain⟨r,g⟩:=QI h f;have d:b.n≠0:=by
   intro e;rw[e,Nat.zero_mul] at g;exact f g
  rw[if_neg c,if_neg d];obtain⟨m,i⟩:=fO c;obtain⟨k,j⟩:=fO d;have l:=lI i;have o:=lI j;have p:2^ (tz a.n+(a.e+K).toNat)*(2*m+1)=2^ (tz b.n+(b.e+K).toNat)*(2*k+1):=by
   rw[Nat.pow_add,Nat.pow_add,Nat.mul_assoc,Nat.mul_comm (2^ (a.e+K).toNat),←Nat.mul_assoc,←i,Nat.mul_assoc,Nat.mul_comm (2^ (b.e+K).toNat),←Nat.mul_assoc,←j];exact g
  obtain⟨s,q⟩:=Dh p;rw[l,o,r,q];have:a.e+(tz a.n:Int)=b.e+(tz b.n:Int):=by omega
  rw[this]
theorem eL {K:Nat}{a:ak}(b: -(K:Int)≤a.e): -(K:Int)≤(bare a).e:=by
 unfold bare
 by_cases h:a.n=0
 ·rw[if_pos h];simp
 ·rw[if_neg h];simp only;omega
theorem dw {K:Nat}{a:ak}(c: -(K:Int)≤a.e):V K (bare a)=V K a:=by
 rw[eV,eV];unfold bare
 by_cases h:a.n=0
 ·rw[if_pos h,h];simp[sz]
 ·rw[if_neg h]
  obtain⟨m,b⟩:=fO h;simp only;rw[lI b];have:(a.e+(tz a.n:Int)+K).toNat=tz a.n+(a.e+K).toNat:=by omega
  rw[this,Nat.pow_add,←Nat.mul_assoc,Nat.mul_comm _ (2^tz a.n),←b]
theorem iH (a:ak):bare (bare a)=bare a:=by
 have b: -((a.e.natAbs:Nat):Int)≤a.e:=by omega
 exact fH (eL b) b (dw b)
theorem iK (b:Bool)(a:Option Addr)(n c:Nat)(e:Int)(w:World):yC 36 #[ydV b (.slice a n c) e] w (yR w (ydV b (.slice a n c) e)):=by
 go_enter func36,ntmps36
 go_wp2
 go_returns
 exact⟨rfl,((Below.refl _ _).alloc (Nat.le_refl _) _).alloc (by simp[World.size_alloc]) _⟩
def dr (w:World)(t:ak)(e:Ending)(w':World):Prop:= ∃s,e= .returned (ydV t.s s t.e)∧Rd w' .i64 s (Dg.dg 65536 t.n)∧yB w w'
theorem di.near {w:World}{t:ak}{e:Ending}{w':World}(h:di w t e w'):dr w t e w':=by
 obtain⟨s,a,b,-,c⟩:=h;exact⟨s,a,b,c⟩
def cC (c:Int)(t:ak):ak×Int:=if c=0 then bU t else(⟨false,0,0⟩,c)
theorem kR (t:ak):(bare t).n≤t.n:=by
 unfold bare
 split
 ·exact Nat.zero_le _
 ·exact Nat.div_le_self _ _
theorem ja (f:Value)(t:ak)(w:World)(b:Rd w .i64 f (Dg.dg 65536 t.n)):yC 51 #[ydV t.s f t.e] w (yR w (.agg #[.bool (dB t).s,f,yi (dB t).e])):=by
 obtain⟨j,k,rfl⟩:=b.shape;obtain⟨g,n,e⟩:=t;have d:=Dg.dg_nil_iff 65536 n (by omega);simp only at b⊢;unfold dB;simp only;have a:(0< (Dg.dg 65536 n).length)↔0<n:=by
  rw[List.length_pos_iff,Ne,d];omega
 obtain⟨m,c⟩: ∃m,(Dg.dg 65536 n).length=m:=⟨_,rfl⟩;rw[c] at a b⊢;clear b
 by_cases h:0<n
 ·have i:=a.2 h
  rw[decide_eq_true h,Bool.and_true];clear a h c d
  cases g
  ·go_enter func51,ntmps51
   go_wp2
   go_returns
   exact⟨rfl,aa (af w _) (af _ _)⟩
  ·go_enter func51,ntmps51
   go_wp2
   go_returns
   exact⟨rfl,aa (af w _) (af _ _)⟩
 ·have i: ¬0<m:=fun e=>h (a.1 e)
  rw[decide_eq_false h,Bool.and_false];clear a h c d
  cases g
  ·go_enter func51,ntmps51
   go_wp2
   go_returns
   exact⟨rfl,aa (af w _) (af _ _)⟩
  ·go_enter func51,ntmps51
   go_wp2
   go_returns
   exact⟨rfl,aa (af w _) (af _ _)⟩
theorem Own.apart6 {w:World}{base e b:Nat}{k:IntKind}{v:Value}{zs:List Nat}(h:Own w base e k v zs)(a:b<base)(c d f g i j:Value):
  Own ((((((w.setCell ⟨b,0,none⟩ c).setCell ⟨b,1,none⟩ d).setCell ⟨b,2,none⟩ f).setCell ⟨b,3,none⟩ g).setCell ⟨b,4,none⟩ i).setCell ⟨b,5,none⟩ j) base e k v zs:=
 (((((h.apart (bI w b 0 c) a).apart (bI _ b 1 d) a).apart (bI _ b 2 f) a).apart (bI _ b 3 g) a).apart (bI _ b 4 i) a).apart (bI _ b 5 j) a
def jE (w:World)(r:ak×ak×Int)(e:Ending)(w':World):Prop:=
 ∃p q,e= .returned (.tuple #[.agg #[.bool r.1.s,p,yi r.1.e,.bool r.2.1.s,q,yi r.2.1.e],yi r.2.2])∧Own w' w.heap.size 36 .u32 p (Dg.dg 4294967296 r.1.n)∧Own w' w.heap.size 36 .u32 q (Dg.dg 4294967296 r.2.1.n)∧yB w w'
def BRd (w:World)(l h:ak)(er:Int)(z:Ending)(w':World):Prop:=
 ∃p q,z= .returned (.tuple #[.agg #[.bool l.s,p,yi l.e,.bool h.s,q,yi h.e],yi er])∧Rd w' .u32 p (Dg.dg 4294967296 l.n)∧Rd w' .u32 q (Dg.dg 4294967296 h.n)∧yB w w'
theorem refined2_W (pi:Nat)(x y:ak)(g i:Option Addr)(f h:Nat)(b m:Int)(w:World)(k:w.rangeAt pi 0 [yi b])(B:IntKind.i64.wrap (b-6)=m)
  (a:yH w 58 #[.agg #[.bool x.s,yT g x.n f,yi x.e,.bool y.s,yT i y.n h,yi y.e],yi m] (.bool true)):
  yC 57 #[.agg #[.bool x.s,yT g x.n f,yi x.e,.bool y.s,yT i y.n h,yi y.e],.pointer (some ⟨pi,0,none⟩)] w (yR w (.bool true)):=by
 replace a:Hid _:=a;obtain⟨A,d,q1,c⟩:=cA w [.bool x.s,yT g x.n f,yi x.e,.bool y.s,yT i y.n h,yi y.e] 54;replace d:Hid _:=d;have l:=aC k c;clear k
 go_enter func57,ntmps57
 go_upto_region 1 with fail
 rw[d.out];clear d;have t:=l 0 _ rfl;obtain⟨u,v,z,p,q,r⟩:=q1.cs6
 go_wp2_with fail
 refine(a.out _ c).mono ?_;rintro D C ⟨rfl,j⟩;have o:=aa c j;clear l q1 c j a t u v z p q r
 go_wp2
 go_ret
 exact⟨by simp,o⟩
theorem FW (t:ak):(bare t).n≤t.n:=by
 unfold bare
 split
 ·exact Nat.zero_le _
 ·exact Nat.div_le_self _ _
theorem gN {t:ak}(h:t.n≠0):(bare t).n≠0∧(bare t).e=t.e+(tz t.n:Int)∧(bare t).e+(bitLen (bare t).n:Int)=t.e+(bitLen t.n:Int):=by
 obtain⟨m,a⟩:=fO h;have e:(bare t).n=2*m+1∧(bare t).e=t.e+(tz t.n:Int):=by
  unfold bare;rw[if_neg h];exact⟨lI a,rfl⟩
 have b:bitLen t.n=tz t.n+bitLen (2*m+1):=by
  have:=Ad (2*m+1) (tz t.n) (by omega)
  rwa [←a] at this
 refine⟨by omega,e.2, ?_⟩;rw[e.1,e.2,b];omega
theorem jK {R D L G:Int}(gr:Bool)(t:ak)(m:L≤G):inR R D L G gr (bare t).n (bare t).e=dA R D L G gr t.n t.e:=by
 unfold inR dA;refine decide_eq_decide.2 ?_
 by_cases h:t.n=0
 ·have:(bare t).n=0:=by unfold bare;rw[if_pos h]
  simp only[h,this,true_or]
 ·obtain⟨a,b,c⟩:=gN h
  rw[c];simp only[a,h,false_or,b];unfold cP;rw[show t.e+(bitLen t.n:Int)-1=(bitLen t.n:Int)-1+t.e by omega]
  obtain⟨p,f⟩: ∃p,(bitLen t.n:Int)-1+t.e=p:=⟨_,rfl⟩;rw[show t.e+(bitLen t.n:Int)=p+1 by omega,f]
  clear a b c h;obtain⟨z,i⟩: ∃z,t.e+(tz t.n:Int)=z:=⟨_,rfl⟩;rw[i];have g:aT R D p=p/(ai R:Int)-(D-1):=rfl;obtain⟨k,d⟩: ∃k,aT R D p=k:=⟨_,rfl⟩;rw[d] at g⊢;clear f i d;unfold ai at*
  cases gr<;>by_cases j:R=16<;>simp only[j,if_true,if_false] at g⊢ <;>by_cases l:k<L<;>simp[l]<;>omega
theorem wK {t:ak}(a:(Dg.dg 4294967296 (bare t).n).length≤1200)(b: -20000≤(bare t).e)(c:(bare t).e≤20000):bU t=(bare t,0):=by
 unfold bU;rw[if_neg (by omega),if_neg (by omega)]
theorem nE {t:ak}(h:t.n≠0):t.e≤(bare t).e∧(bare t).e=t.e+tz t.n:=by
 unfold bare;rw[if_neg h];exact⟨by show t.e≤t.e+(tz t.n:Int);omega,rfl⟩
theorem qj {R D L G:Int}{gr:Bool}{d:Nat}{p:Int}(c:bk R D L G=0)(h:ia R D L G gr d p):
  (Dg.dg 4294967296 d).length≤15∧ -17000≤p∧p≤17000∧ -17000≤(ai R:Int)*p∧(ai R:Int)*p≤17000∧tz d≤480:=by
 obtain⟨m,e,f,o,r,g,i,lg,q⟩:=cB c
 rcases h with⟨rfl,rfl⟩| ⟨j,k,l,b,-⟩
 ·refine⟨Nat.zero_le _,by omega,by omega,by simp,by simp, ?_⟩
  exact Nat.le_trans (gZ 0 0 (Nat.le_refl _)) (by omega)
 ·have n:=Nat.mul_le_mul (eN R).2 (show D.toNat≤120 by omega)
  have a:(Dg.dg 4294967296 d).length≤15:=jq b (by omega);have:=gZ d 15 a;refine⟨a,by omega,by omega, ?_, ?_,by omega⟩<;>(unfold ai;split<;>simp<;>omega)
theorem Af {R D L G:Int}{gr s:Bool}{d:Nat}{p:Int}(b:bk R D L G=0)(h:ia R D L G gr d p):
  cC (ix (Dg.dg 4294967296 d) p R D L G) ⟨s,Dg.vl 4294967296 (Dg.dg 4294967296 d),(ai R:Int)*p⟩=(bare ⟨s,d,(ai R:Int)*p⟩,0):=by
 obtain⟨l,p1,p2,g,i,f⟩:=qj b h;have c:ix (Dg.dg 4294967296 d) p R D L G=0:=kA ((bL (nt (n:=d) (e:=0) (by omega) (by omega) (by omega))).1) b (by unfold eJ;simp;omega);rw[c,Dg.vl_dg _ _ (by omega)]
 show bU _=_
 refine wK ?_ ?_ ?_
 ·exact Nat.le_trans (aH _ _ d (by omega) (kR _)) (by omega)
 ·by_cases a:d=0
  ·simp[bare,a]
  ·have:=(nE (t:=⟨s,d,(ai R:Int)*p⟩) a).2
   simp only at this;omega
 ·by_cases a:d=0
  ·simp[bare,a]
  ·have:=(nE (t:=⟨s,d,(ai R:Int)*p⟩) a).2
   simp only at this;omega
theorem NrN.trans {f g h:Nat→Rat}(a:NrN f g)(b:NrN g h):NrN f h:=fun e d=>by
 obtain⟨N,H⟩:=a (e/2) (by grind);obtain⟨M,c⟩:=b (e/2) (by grind);refine⟨N+M,fun n i=> ?_⟩
 have x:=H n (by omega);have y:=c n (by omega);rw[ab_le] at x y⊢
 constructor<;>grind
theorem rp_p2 (k:Nat):rp 2 k=p2 k:=by
 induction k with
 |zero=>rfl
 |succ k ih=>
  have:rp 2 (k+1)=rp 2 k*2:=by simp only[rp]
  rw[this,ih,show((k+1:Nat):Int)=(k:Int)+1 by omega,p2_add,p2_one]
theorem cut_is_grid {t:ak}{b:Nat}(_hb:1≤b)(g:t.s=false)(up:Bool):Grid b (qT (aY t b up)):=by
 unfold aY
 by_cases c:(bitLen t.n:Int)-(b:Int)≤((if t.n=0 then 0 else tz t.n:Nat):Int)
 ·rw[if_pos c]
  by_cases a:t.n=0
  ·exact⟨0,0,Nat.zero_le _,by rw[qT_zero a];show(0:Rat)=((0:Nat):Rat)*p2 0;have:((0:Nat):Rat)=0:=rfl;grind⟩
  ·rw[if_neg a] at c
   obtain⟨h,i,d⟩:=uB t.n a;obtain⟨m,f⟩:=fO a;refine⟨2*m+1,t.e+(tz t.n:Int), ?_, ?_⟩
   ·have j:2^tz t.n*(2*m+1)<2^tz t.n*2^b:=by
     rw[←f,←Nat.pow_add];exact Nat.lt_of_lt_of_le d (Nat.pow_le_pow_right (by omega) (by omega))
    exact Nat.le_of_lt (Nat.lt_of_mul_lt_mul_left j)
   ·rw[qT_sq,g]
    simp only[sqT,Bool.false_eq_true,if_false];rw[show t.e+(tz t.n:Int)=(tz t.n:Int)+t.e by omega,p2_add,p2_nat]
    have:(t.n:Rat)=((2^tz t.n:Nat):Rat)*((2*m+1:Nat):Rat):=by rw[←Rat.natCast_mul,←f]
    rw[this]
    grind
 ·rw[if_neg c]
  obtain⟨k,l,a,-⟩:=bit_pos c;rw[l,Int.toNat_natCast];obtain⟨h,i,d⟩:=uB t.n a;refine⟨t.n/2^ (k+1)+(if(up != t.s)=true then 1 else 0),t.e+((k+1:Nat):Int), ?_, ?_⟩
  rotate_left
  ·rw[qT_sq,g]
   simp only[sqT,Bool.false_eq_true,if_false,Rat.one_mul]
  ·have:t.n/2^ (k+1)<2^b:=by
    refine Nat.div_lt_of_lt_mul ?_;rw[←Nat.pow_add];exact Nat.lt_of_lt_of_le d (Nat.pow_le_pow_right (by omega) (by omega))
   split<;>omega
theorem cut_grid {t:ak}{b:Nat}(N:1≤b)(o:t.s=false){g:Rat}(E:Grid b g):(g≤qT t→g≤qT (aY t b false))∧(qT t≤g→qT (aY t b true)≤g):=by
 unfold aY
 by_cases c:(bitLen t.n:Int)-(b:Int)≤((if t.n=0 then 0 else tz t.n:Nat):Int)
 ·rw[if_pos c,if_pos c]
  exact⟨id,id⟩
 ·rw[if_neg c,if_neg c]
  obtain⟨k,F,H,z⟩:=bit_pos c;rw[F,Int.toNat_natCast];obtain⟨L,p,M⟩:=uB t.n H;obtain⟨m,e,G,rfl⟩:=E;have w:=p2_pos t.e;have D:=Nat.div_add_mod t.n (2^ (k+1));have O:=Nat.mod_lt t.n (show 0<2^ (k+1) from Nat.pow_pos (by omega))
  obtain⟨q,x⟩: ∃q,t.n/2^ (k+1)=q:=⟨_,rfl⟩;rw[x] at D⊢;have v: ∀j:Nat,qT ⟨t.s,j,t.e+((k+1:Nat):Int)⟩=((j*2^ (k+1):Nat):Rat)*p2 t.e:=fun j=>by
   rw[qT_sq,o];simp only[sqT,Bool.false_eq_true,if_false];rw[show t.e+((k+1:Nat):Int)=((k+1:Nat):Int)+t.e by omega,p2_add,p2_nat,Rat.natCast_mul]
   grind
  have K:qT t=(t.n:Rat)*p2 t.e:=by
   rw[qT_sq,o];simp only[sqT,Bool.false_eq_true,if_false]
   grind
  have I:(false != t.s)=false:=by rw[o];rfl
  have J:(true != t.s)=true:=by rw[o];rfl
  simp only[I,J,Bool.false_eq_true,if_false,if_true,Nat.add_zero];rw[v,v,K]
  by_cases A:t.e+((k+1:Nat):Int)≤e
  ·obtain⟨i,u,-⟩:=p2_split A
   have B:(m:Rat)*p2 e=((m*2^i*2^ (k+1):Nat):Rat)*p2 t.e:=by
    rw[u,show t.e+((k+1:Nat):Int)=((k+1:Nat):Int)+t.e by omega,p2_add,p2_nat,Rat.natCast_mul,Rat.natCast_mul]
    grind
   rw[B]
   constructor
   ·intro h
    have l:m*2^i*2^ (k+1)≤t.n:=by
     have:=cancel_le w h;exact Rat.natCast_le_natCast.1 this
    have f:m*2^i≤q:=by rw[←x];exact(Nat.le_div_iff_mul_le (Nat.pow_pos (by omega))).2 l
    exact Rat.mul_le_mul_of_nonneg_right (nat_le (Nat.mul_le_mul_right _ f)) (by grind)
   ·intro h
    have l:t.n≤m*2^i*2^ (k+1):=by
     have:=cancel_le w h;exact Rat.natCast_le_natCast.1 this
    have f:q<m*2^i:=by
     by_cases d:q<m*2^i
     ·exact d
     ·have:=Nat.mul_le_mul_right (2^ (k+1)) (show m*2^i≤q by omega)
      rw[Nat.mul_comm q] at this;omega
    exact Rat.mul_le_mul_of_nonneg_right (nat_le (Nat.mul_le_mul_right _ f)) (by grind)
  ·--so small a number is not above the first bit of t
   have r:(m:Rat)*p2 e≤((2^ (bitLen t.n-1):Nat):Rat)*p2 t.e:=by
    have C:=Rat.mul_le_mul_of_nonneg_right (nat_le G) (show 0≤p2 e by have:=p2_pos e;grind)
    have y:=p2_mono (show b+e≤((bitLen t.n-1:Nat):Int)+t.e by omega)
    rw[p2_add,p2_add,p2_nat,p2_nat] at y;exact Rat.le_trans C y
   obtain⟨i,u⟩: ∃i,bitLen t.n-1=i+(k+1):=⟨bitLen t.n-1-(k+1),by omega⟩;rw[u,Nat.pow_add] at r p
   constructor
   ·intro _
    refine Rat.le_trans r (Rat.mul_le_mul_of_nonneg_right (nat_le (Nat.mul_le_mul_right _ ?_)) (by grind));rw[←x];exact(Nat.le_div_iff_mul_le (Nat.pow_pos (by omega))).2 p
   ·intro h
    exfalso
    have l:t.n≤2^i*2^ (k+1):=by
     have:=cancel_le w (Rat.le_trans h r);exact Rat.natCast_le_natCast.1 this
    have f:t.n=2^i*2^ (k+1):=Nat.le_antisymm l p;rw[f,Nat.mul_mod_left] at z;exact z rfl
theorem cut_sign (t:ak)(b:Int)(up:Bool):(aY t b up).s=t.s:=by
 unfold aY
 by_cases c:(bitLen t.n:Int)-b≤((if t.n=0 then 0 else tz t.n:Nat):Int)
 ·rw[if_pos c]
 ·rw[if_neg c]
theorem SIn.inv {S:IvN}{f g:Nat→Rat}{X1 X2:Rat}(h:SIn S f)(k:0<S.lo)(ho:S.lo≤S.hi)(M:NrN (fun n=>f n*g n) (fun _=>1))(D:X1*S.hi=1)(u:X2*S.lo=1):SIn ⟨X1,X2⟩ g:=by
 obtain⟨j,m,N,w⟩:=h;refine⟨fun n=>1/j n,fun e L=> ?_,N,fun n m=> ?_⟩
 ·obtain⟨c,v⟩: ∃c,S.lo=c:=⟨_,rfl⟩
  rw[v] at k;have P:0<e*c*c/(c+4):=by
   have a:=Rat.mul_pos (Rat.mul_pos L k) k;have b:e*c*c/(c+4)*(c+4)=e*c*c:=Rat.div_mul_cancel (by grind);exact cancel_lt (show 0<c+4 by grind) (by rw[b];grind)
  have Q:e*c*c/(c+4)*(c+4)=e*c*c:=Rat.div_mul_cancel (by grind);obtain⟨q,R⟩: ∃q,e*c*c/(c+4)=q:=⟨_,rfl⟩;rw[R] at P Q;obtain⟨d,s,Z,d2,B⟩: ∃d:Rat,0<d∧d≤c/2∧d≤1∧d≤q:=by
   refine⟨IvN.mn (IvN.mn (c/2) 1) q, ?_, ?_, ?_, ?_⟩<;>unfold IvN.mn<;>grind
  obtain⟨x,T⟩:=m d s;obtain⟨y,U⟩:=M d s;refine⟨N+x+y,fun n m=> ?_⟩
  have o:=T n (by omega);have p:=U n (by omega);obtain⟨r,-⟩:=w n (by omega);rw[v] at r;simp only at p
  show ab (g n-1/j n)≤e
  generalize f n=F at*;generalize j n=i at*;generalize g n=G at*;have E:0<i:=by grind
  rw[ab_le] at o;have hF:c/2≤F:=by grind
  have H:ab G*c≤4:=by
   have z:ab F*ab G≤2:=by
    rw[←ab_mul];have:=ab_add (F*G-1) 1;rw[show F*G-1+1=F*G by grind] at this
    have t:ab 1=1:=by unfold ab;grind
    grind
   have A:ab F=F:=by unfold ab;grind
   rw[A] at z;have Y:=Rat.mul_le_mul_of_nonneg_right hF (ab_nonneg G)
   grind
  have l:1/i*i=1:=Rat.div_mul_cancel (by grind);have K:(G-1/i)*i=F*G-1+G*(i-F):=by
   have:(G-1/i)*i=G*i-1/i*i:=by grind
   rw[this,l]
   grind
  have O:ab (G-1/i)*i≤d+ab G*d:=by
   have t:ab (G-1/i)*i=ab ((G-1/i)*i):=by
    rw[ab_mul];have:ab i=i:=by unfold ab;grind
    rw[this]
   rw[t,K];have W:=ab_add (F*G-1) (G*(i-F));rw[ab_mul G (i-F)] at W;have X:ab (i-F)≤d:=by rw[ab_le];constructor<;>grind
   have t3:=Rat.mul_le_mul_of_nonneg_left X (ab_nonneg G)
   grind
  refine cancel_le (Rat.mul_pos E k) ?_;have m1:=Rat.mul_le_mul_of_nonneg_right O (show 0≤c by grind)
  have m2:=Rat.mul_le_mul_of_nonneg_left H (show 0≤d by grind)
  have m3:=Rat.mul_le_mul_of_nonneg_right B (show 0≤c+4 by grind)
  have m4:=Rat.mul_le_mul_of_nonneg_left r (Rat.mul_nonneg (show 0≤e by grind) (show 0≤c by grind))
  have C:ab (G-1/i)*(i*c)=ab (G-1/i)*i*c:=by grind
  rw[C]
  grind
 ·obtain⟨o,p⟩:=w n m
  have hF:0<j n:=by grind
  have l:1/j n*j n=1:=Rat.div_mul_cancel (by grind);have J:0<X2:=cancel_lt k (by rw[u];grind);have I:0<1/j n:=cancel_lt hF (by rw[l];grind)
  constructor
  ·show X1≤1/j n
   refine cancel_le (show 0<S.hi by grind) ?_
   have:=Rat.mul_le_mul_of_nonneg_left p (Rat.le_of_lt I);rw[l] at this;rw[D];exact this
  ·show 1/j n≤X2
   refine cancel_le hF ?_;have:=Rat.mul_le_mul_of_nonneg_left o (Rat.le_of_lt J);rw[u] at this;rw[l];exact this
theorem narrow_cut2 {S a:IvN}{d r:Rat}(o:0<S.lo)(p:S.lo≤S.hi)(b:0≤d)(f:r≤1/16)(j:16*d≤r)(k:S.wd≤r*S.lo)(c:IvN.Cut d S a):0<a.lo∧a.lo≤a.hi∧a.wd≤2*r*a.lo:=by
 have m:=c.lo;have n:=c.hi;have e:=c.lo';have g:=c.hi';have h:ab S.lo=S.lo:=by unfold ab;grind
 have i:ab S.hi=S.hi:=by unfold ab;grind
 rw[h] at e;rw[i] at g;unfold IvN.wd at*;have q:=Rat.mul_le_mul_of_nonneg_right j (show 0≤S.lo by grind)
 have l:=Rat.mul_le_mul_of_nonneg_right f (show 0≤S.lo by grind)
 have s:=Rat.mul_le_mul_of_nonneg_left k b;have t:=Rat.mul_le_mul_of_nonneg_left l b;have u:=Rat.mul_le_mul_of_nonneg_left e (show 0≤2*r by grind)
 have v:=Rat.mul_le_mul_of_nonneg_right f (Rat.mul_nonneg b (show 0≤S.lo by grind))
 have w:=Rat.mul_nonneg b (show 0≤S.lo by grind)
 refine⟨by grind,by grind,by grind⟩
theorem aw_tm (w:Rat)(n:Nat):aw w n=w*rs (tmS (w*w) cArc) n:=by
 unfold aw;rw[rs_congr fun j _=>tm_ath w j,rs_mulL]
theorem nrw_pos {S a:IvN}{aim:Nat}{v:Rat}(r:5≤aim)(m:S.has v)(q:0<v)(n:S.wd≤p2 (-(aim:Int))*v)(c:IvN.Cut (p2 (2-(aim:Int))) S a):0<a.lo∧a.hi-a.lo≤p2 (6-(aim:Int))*a.lo:=by
 obtain⟨B,C⟩:=m;have o:=c.lo;have p:=c.hi;have d:=c.lo';have f:=c.hi';have g:p2 (2-(aim:Int))=4*p2 (-(aim:Int)):=by
  rw[show 2-(aim:Int)=2+ -(aim:Int) by omega,p2_add]
  have:p2 2=4:=by decide+kernel
  rw[this]
 have h:p2 (6-(aim:Int))=64*p2 (-(aim:Int)):=by
  rw[show 6-(aim:Int)=6+ -(aim:Int) by omega,p2_add]
  have:p2 6=64:=by decide+kernel
  rw[this]
 have i:p2 (-(aim:Int))≤1/32:=by
  have:=p2_mono (show-(aim:Int)≤ -5 by omega)
  have e:p2 (-5)=1/32:=by
   have:=p2_neg 5;have b:p2 5=32:=by decide+kernel
   rw[b] at this
   grind
  rwa [e] at this
 have t:=p2_pos (-(aim:Int));rw[g] at d f;rw[h];generalize p2 (-(aim:Int))=z at*;unfold IvN.wd at n;have u:=Rat.mul_le_mul_of_nonneg_right i (show 0≤v by grind)
 have s:31/32*v≤S.lo:=by grind
 have k:S.hi≤33/32*v:=by grind
 have j:ab S.lo=S.lo:=by unfold ab;grind
 have b:ab S.hi=S.hi:=by unfold ab;grind
 rw[j] at d;rw[b] at f;have w:=Rat.mul_le_mul_of_nonneg_left (show S.lo≤v by grind) (show 0≤4*z by grind)
 have x:=Rat.mul_le_mul_of_nonneg_left k (show 0≤4*z by grind)
 have l:3/4*v≤a.lo:=by grind
 have y:=Rat.mul_le_mul_of_nonneg_left l (show 0≤64*z by grind)
 have A:=Rat.mul_nonneg (show 0≤z by grind) (show 0≤v by grind)
 constructor<;>grind
theorem nrw_cut {S a:IvN}{aim:Nat}{v:Rat}(d:5≤aim)(e:S.has v)(l:v≠0)(b:S.wd≤p2 (-(aim:Int))*ab v)(c:IvN.Cut (p2 (2-(aim:Int))) S a):Nrw a (p2 (6-(aim:Int))):=by
 by_cases i:0<v
 ·left
  have:ab v=v:=by unfold ab;grind
  rw[this] at b;exact nrw_pos d e i b c
 ·right
  have:ab v= -v:=by unfold ab;grind
  rw[this] at b;have h:(IvN.neg S).wd=S.wd:=by unfold IvN.wd IvN.neg;simp only;grind
  obtain⟨f,g⟩:=nrw_pos d (IvN.neg_has e) (by grind) (by rw[h];exact b) (cut_negR c);have j:0< -a.hi:=f;have k: -a.lo- -a.hi≤p2 (6-(aim:Int))* -a.hi:=g
  constructor<;>grind
theorem aw_far {X:Rat}(g:ab X≤1/5)(m:Nat)(t:2≤m):ab X≤2*ab (aw X m)∧2*ab (aw X m)≤42/100:=by
 have a:=ab_nonneg X;have d:ab (X*X)≤1/25:=by
  rw[ab_mul];have:=Rat.mul_le_mul_of_nonneg_right g a
  grind
 have b: ∀k,ab (X*X)*cArc (k+1)≤1/2:=fun k=>by
  have f:=(cA_in k).1;have:=Rat.mul_le_mul_of_nonneg_right d f.1
  grind
 obtain⟨n,rfl⟩: ∃n,m=1+n+1:=⟨m-2,by omega⟩;have h:=rs_bd (u:=X*X) (c:=cArc) (fun k=>(cA_in k).1.1) b (1+n)
 obtain⟨r,z,o,-,-,p⟩:=tm_tail (u:=X*X) (c:=cArc) (fun k=>(cA_in k).1.1) b n 1
 have q:tmS (X*X) cArc 1=X*X*cArc 1:=by simp only[tmS];grind
 have e:cArc 1=1/3:=by decide+kernel
 have l:rs (tmS (X*X) cArc) 1=1:=by simp only[rs,tmS];grind
 rw[q,e,l] at p;rw[aw_tm,ab_mul];generalize rs (tmS (X*X) cArc) (1+n+1)=s at*;have i:ab s=s:=by unfold ab;grind
 rw[i];have w:X*X≤1/25:=(ab_le.1 d).1;have v:0≤X*X:=by
  have:X*X=ab X*ab X:=by unfold ab;grind
  rw[this];exact Rat.mul_nonneg a a
 have j:s≤1+2/75:=by
  have:=Rat.mul_le_mul_of_nonneg_left o (show 0≤X*X*(1/3) by grind)
  grind
 have x:=Rat.mul_le_mul_of_nonneg_left h.1 a;have y:=Rat.mul_le_mul_of_nonneg_left j a
 constructor<;>grind
def bM (n:Int)(s:ByteArray):Nat:=if dF n s=0 then dh n.toNat (aZ n.toNat s) (aR n.toNat s) (aU n.toNat s) else 0
def dz (n:Int)(s:ByteArray):Bool:=if dF n s=0 then kt n.toNat (aZ n.toNat s) (aR n.toNat s) (aU n.toNat s) else false
theorem nN {R D L G:Int}(gr:Bool)(t:ak)(a:L≤G):dA R D L G gr (bare t).n (bare t).e=dA R D L G gr t.n t.e:=by
 rw[←jK gr t a,←jK gr (bare t) a,iH]
theorem uL {R D L G:Int}{gr s:Bool}{d:Nat}{p:Int}(c:1≤D)(a:d≠0)(j:L≤p)(r:p≤G)(g:d<2^ (ai R*D.toNat))(hf:2^ (ai R*(D-1).toNat)≤d∨(gr=true∧p=L)):
  fD R D L G gr (bare ⟨s,d,(ai R:Int)*p⟩).n (bare ⟨s,d,(ai R:Int)*p⟩).e=d∧fK R D L G gr (bare ⟨s,d,(ai R:Int)*p⟩).n (bare ⟨s,d,(ai R:Int)*p⟩).e=p:=by
 have f:=gN (t:=⟨s,d,(ai R:Int)*p⟩) a;simp only at f;obtain⟨b,l,v⟩:=f;have u:L≤G:=by omega
 have h:dA R D L G gr (bare ⟨s,d,(ai R:Int)*p⟩).n (bare ⟨s,d,(ai R:Int)*p⟩).e=true:=by
  rw[nN gr _ u,tN c g j hf a];exact decide_eq_true r
 have k:cP R D L gr (bare ⟨s,d,(ai R:Int)*p⟩).n (bare ⟨s,d,(ai R:Int)*p⟩).e=p:=by
  have o:cP R D L gr (bare ⟨s,d,(ai R:Int)*p⟩).n (bare ⟨s,d,(ai R:Int)*p⟩).e=cP R D L gr d ((ai R:Int)*p):=by
   unfold cP;rw[show(bitLen (bare ⟨s,d,(ai R:Int)*p⟩).n:Int)-1+(bare ⟨s,d,(ai R:Int)*p⟩).e=(bitLen d:Int)-1+(ai R:Int)*p by omega]
  exact o.trans (Sg c g j hf)
 refine⟨?_,(if_neg b).trans ((if_pos h).trans k)⟩;rw[show fD R D L G gr (bare ⟨s,d,(ai R:Int)*p⟩).n (bare ⟨s,d,(ai R:Int)*p⟩).e=nm R D L gr (bare ⟨s,d,(ai R:Int)*p⟩).n (bare ⟨s,d,(ai R:Int)*p⟩).e from(if_neg b).trans (if_pos h)]
 unfold nm;rw[k,l,show(ai R)*p+(tz d:Int)-(ai R:Int)*p=(tz d:Int) by omega]
 unfold shN;rw[if_neg (by omega),Int.toNat_natCast];obtain⟨m,i⟩:=fO a;have q:(bare ⟨s,d,(ai R:Int)*p⟩).n=2*m+1:=by
  unfold bare;rw[if_neg a];exact lI i
 rw[q,Nat.mul_comm];exact i.symm
theorem sD (R D:Int)(s:Bool)(d:Nat)(p:Int)(e:1≤D):bare ⟨s,io R D d,(ai R:Int)*gD R D d p⟩=bare ⟨s,d,(ai R:Int)*p⟩:=by
 unfold io gD
 by_cases h:d=2^ (ai R*D.toNat)
 ·rw[if_pos h,if_pos h]
  have a:=Int.natCast_mul (ai R) D.toNat;have b:=Int.natCast_mul (ai R) (D-1).toNat;rw[Int.toNat_of_nonneg (by omega)] at a b;have c:(ai R:Int)*(p+1)+((ai R*(D-1).toNat:Nat):Int)=(ai R:Int)*p+((ai R*D.toNat:Nat):Int):=by
   rw[a,b,Int.mul_add,Int.mul_sub];omega
  refine fH (K:=(max (-((ai R:Int)*p)) (max (-((ai R:Int)*(p+1))) 0)).toNat) (by simp only;omega) (by simp only;omega) ?_;rw[eV,eV];simp only;rw[h,←Nat.pow_add,←Nat.pow_add]
  congr 2
  omega
 ·rw[if_neg h,if_neg h]
def opT (n:Int)(p:ByteArray):ak:=if dF n p=0 then nxT n.toNat p else⟨false,0,0⟩
def opC (n : Int) (p : ByteArray) (v : Value) : List Value := [.int .i64 ((bM n p : Nat) : Int), .bool (dz n p), .bool (opT n p).s, v, .int .i64 (opT n p).e]
def F7 (w:World)(n:Int)(g:Option Nat)(p:ByteArray)(v:Value):Prop:=
 (∃so sc,v= .slice so (Dg.dg 4294967296 (opT n p).n).length sc)∧Rd w .u32 v (Dg.dg 4294967296 (opT n p).n)∧ ∀b,g=some b→wF b v (Dg.dg 4294967296 (opT n p).n)
def sV (w:World)(n:Int)(g:Option Nat):List ByteArray→List Value→Prop
 | [],cs=>cs=[]
 |p::ps,cs=> ∃v rest,cs=opC n p v++rest∧F7 w n g p v∧sV w n g ps rest
theorem sV.mono {w w':World}{n:Int}{g a:Option Nat}(h: ∀p v,F7 w n g p v→F7 w' n a p v): ∀{ps:List ByteArray} {cs:List Value},sV w n g ps cs→sV w' n a ps cs
 | [],_,hc=>hc
 |p::_,_,hc=>by
  obtain⟨v,e,b,c,d⟩:=hc;exact⟨v,e,b,h p v c,sV.mono h d⟩
structure sF (w:World) (n:Int) (ps:List ByteArray) (g cap:Nat):Prop where
 fit:ps.length≤cap
 most:cap≤maxLen
 each: ∀(i:Nat) p,ps[i]? =some p→ ∃so sc,w.rangeAt g (i*5) (opC n p (.slice so (Dg.dg 4294967296 (opT n p).n).length sc))∧Rd w .u32 (.slice so (Dg.dg 4294967296 (opT n p).n).length sc) (Dg.dg 4294967296 (opT n p).n)
theorem ut.mono {J K:Int}{e c f d:Nat}{a b:Int}(h:ut J e c a f d b)(i:J≤K):ut K e c a f d b:=fun j g=>h j (by omega)
theorem own_brd {w:World}{p q:ak}{er:Int}{z:Ending}{w':World}(h:jE w (p,q,er) z w'):BRd w p q er z w':=by
 obtain⟨v,u,e,a,c,b⟩:=h;exact⟨v,u,e,a.rd,c.rd,b⟩
def numR (s:Bool)(xs:List Nat)(e b:Int):Int:=
 if aS xs e≠0 then aS xs e else if b<20∨600<b then 3
 else if 1200<bitLen (bare ⟨s,Dg.vl 4294967296 xs,e⟩).n∨(bare ⟨s,Dg.vl 4294967296 xs,e⟩).e< -18000 then 2 else 0
theorem bare_wOne:bare (wTr 1)=wTr 1:=by kernel_rfl
theorem short_one:iD (bU (wTr 1)) (bU (wTr 1))=(wTr 1,wTr 1,0):=by
 have h:bU (wTr 1)=(wTr 1,0):=by
  unfold bU;rw[bare_wOne,if_neg (by decide+kernel),if_neg (by decide)]
 rw[h];rfl
theorem fit_num {s:Bool}{xs:List Nat}{e b:Int}(h:Dg.Small 4294967296 xs)(a:numR s xs e b=0):
  bitLen (bare ⟨s,Dg.vl 4294967296 xs,e⟩).n≤1200∧ -18000≤(bare ⟨s,Dg.vl 4294967296 xs,e⟩).e∧(bare ⟨s,Dg.vl 4294967296 xs,e⟩).e≤60000∧20≤b∧b≤600:=by
 unfold numR at a
 by_cases c:aS xs e≠0
 ·rw[if_pos c] at a
  exact absurd a c
 ·rw[if_neg c] at a
  obtain⟨m,j,k,o,p⟩:=aO (by omega:aS xs e=0) h;have g:(Dg.dg 4294967296 (Dg.vl 4294967296 xs)).length≤1200:=by rw[j];exact k
  have i:(bare ⟨s,Dg.vl 4294967296 xs,e⟩).e≤60000:=by
   have l:=gZ (Dg.vl 4294967296 xs) 1200 g;unfold bare
   split
   ·show(0:Int)≤60000
    omega
   ·show e+(tz (Dg.vl 4294967296 xs):Int)≤60000
    omega
  by_cases d:b<20∨600<b
  ·rw[if_pos d] at a
   omega
  ·rw[if_neg d] at a
   generalize bare ⟨s,Dg.vl 4294967296 xs,e⟩=x at*
   by_cases f:1200<bitLen x.n∨x.e< -18000
   ·rw[if_pos f] at a
    omega
   ·exact⟨by omega,by omega,i,by omega,by omega⟩
theorem sign_pos {x:ak}(h: ¬dJ x≤0):x.s=false∧x.n≠0:=by
 unfold dJ at h
 by_cases c:x.n=0
 ·rw[if_pos c] at h
  omega
 ·rw[if_neg c] at h
  refine⟨?_,c⟩
  cases hs:x.s
  ·rfl
  ·rw[hs] at h
   simp at h
end Go.Proofs.YthhiidikgchdeabGreatDoor
