/-
  Texts laid together: Dz, Row, Dy9, Dl7, Dl8, Bl1, Dk1, Sm1, Bm3, Sm2, Sm3, Sp2, Sp4, Sp5, Sp6, Sp7, Bl11, Bl12, Bl18, Sp10, Sx0, Sr3, Br4.
-/
import Derived.Deep.CutBlock
import Derived.Maps.AppendAt
import Derived.Test.YtiakgfmlpdfhdaaGreatDoorTa01
import Derived.Test.YtiakgfmlpdfhdaaGreatDoorTa04
namespace Go.Proofs.YtiakgfmlpdfhdaaGreatDoor
open Go.RowKit
theorem fH {K:Nat}{a b:ak}(ha: -(K:Int)≤a.e)(hb: -(K:Int)≤b.e)(h:V K a=V K b):bare a=bare b:=by
 rw[eV,eV] at h;have p1:0<2^ (a.e+K).toNat:=Nat.pow_pos (by omega);have p2:0<2^ (b.e+K).toNat:=Nat.pow_pos (by omega);unfold bare
 by_cases h0:a.n=0
 ·have:b.n=0:=by
   rw[h0,Nat.zero_mul] at h
   by_cases hb0:b.n=0
   ·exact hb0
   ·have hne:b.n*2^ (b.e+K).toNat≠0:=Nat.ne_of_gt (Nat.mul_pos (by omega) p2)
    have:=(QI h.symm hne).2;omega
  rw[if_pos h0,if_pos this]
 ·have hne:a.n*2^ (a.e+K).toNat≠0:=Nat.ne_of_gt (Nat.mul_pos (by omega) p1)
  obtain⟨hs,hm⟩:=QI h hne;have hb0:b.n≠0:=by
   intro e;rw[e,Nat.zero_mul] at hm;exact hne hm
  rw[if_neg h0,if_neg hb0];obtain⟨m,h1⟩:=fO h0;obtain⟨k,h2⟩:=fO hb0;have e1:=lI h1;have e2:=lI h2;have h3:2^ (tz a.n+(a.e+K).toNat)*(2*m+1)=2^ (tz b.n+(b.e+K).toNat)*(2*k+1):=by
   rw[Nat.pow_add,Nat.pow_add,Nat.mul_assoc,Nat.mul_comm (2^ (a.e+K).toNat),←Nat.mul_assoc,←h1,Nat.mul_assoc,Nat.mul_comm (2^ (b.e+K).toNat),←Nat.mul_assoc,←h2];exact hm
  obtain⟨h4,h5⟩:=Dh h3;rw[e1,e2,hs,h5];have:a.e+(tz a.n:Int)=b.e+(tz b.n:Int):=by omega
  rw[this]
theorem dw {K:Nat}{a:ak}(ha: -(K:Int)≤a.e):V K (bare a)=V K a:=by
 rw[eV,eV];unfold bare
 by_cases h:a.n=0
 ·rw[if_pos h,h];simp[sz]
 ·rw[if_neg h]
  obtain⟨m,h1⟩:=fO h;simp only;rw[lI h1];have:(a.e+(tz a.n:Int)+K).toNat=tz a.n+(a.e+K).toNat:=by omega
  rw[this,Nat.pow_add,←Nat.mul_assoc,Nat.mul_comm _ (2^tz a.n),←h1]
theorem acz {K:Nat}{a:ak}{e:Int}(h1: -(K:Int)≤e)(h2:a.n=0∨e≤a.e):V K a=sz a.s (a.n*2^ (max 0 (a.e-e)).toNat)*((2^ (e+K).toNat:Nat):Int):=by
 rcases h2 with h2|h2
 ·rw[eV,h2,Nat.zero_mul,Nat.zero_mul];simp[sz]
 ·rw[adk h1 h2]
  have:max 0 (a.e-e)=a.e-e:=by omega
  rw[this]
theorem zx {K:Nat}{a b:ak}(ha: -(K:Int)≤a.e)(hb: -(K:Int)≤b.e):V K (cO a b)=V K a+V K b:=by
 obtain⟨e,he⟩: ∃e,(if b.n=0 then a.e else if a.n=0 then b.e else min a.e b.e)=e:=⟨_,rfl⟩
 have h0: -(K:Int)≤e:=by rw[←he];split<;>(try split)<;>omega
 have h1:a.n=0∨e≤a.e:=by
  rw[←he]
  by_cases x:b.n=0
  ·rw[if_pos x];exact .inr (Int.le_refl _)
  ·rw[if_neg x]
   by_cases y:a.n=0
   ·exact .inl y
   ·rw[if_neg y];exact .inr (Int.min_le_left _ _)
 have h2:b.n=0∨e≤b.e:=by
  rw[←he]
  by_cases x:b.n=0
  ·exact .inl x
  ·rw[if_neg x]
   by_cases y:a.n=0
   ·rw[if_pos y];exact .inr (Int.le_refl _)
   ·rw[if_neg y];exact .inr (Int.min_le_right _ _)
 rw[acz h0 h1,acz h0 h2,←Int.add_mul,Y6];unfold cO V;simp only[he]
 split
 ·rfl
 ·by_cases hle:b.n*2^ (max 0 (b.e-e)).toNat≤a.n*2^ (max 0 (a.e-e)).toNat
  ·rw[if_pos hle,if_neg (by omega)]
  ·rw[if_neg hle,if_pos (by omega)]
theorem zy {K:Nat}{a b:ak}(ha: -(K:Int)≤a.e)(hb: -(K:Int)≤b.e): -(K:Int)≤(cO a b).e:=by
 obtain⟨e,he⟩: ∃e,(if b.n=0 then a.e else if a.n=0 then b.e else min a.e b.e)=e:=⟨_,rfl⟩
 have h0: -(K:Int)≤e:=by rw[←he];split<;>(try split)<;>omega
 have h:(cO a b).e=e:=by
  unfold cO;simp only[he]
  by_cases h1:a.s=b.s
  ·rw[if_pos h1]
  ·rw[if_neg h1]
   by_cases h2:b.n*2^ (max 0 (b.e-e)).toNat≤a.n*2^ (max 0 (a.e-e)).toNat
   ·rw[if_pos h2]
   ·rw[if_neg h2]
 rw[h];exact h0
theorem uw {w:World}{a:Option Addr}{len cap:Nat}{zs:List Int}
  (h:(a=none∧len=0∧cap=0∧zs=[])∨ ∃x,a=some x∧len≤cap∧cap≤maxLen∧zs.length=cap∧(∀i,i<zs.length→w.cell? (x.add i)=some (.int .u32 (zs.getD i 0)))∧ ∀n∈zs,(Lit.int .u32 n).wf=true):
  ∃xs,Rd w .u32 (.slice a len cap) xs∧Dg.Small 4294967296 xs:=by
 rcases h with⟨rfl,rfl,rfl,rfl⟩| ⟨x,rfl,hl,hm,hz,hcell,hwz⟩
 ·exact⟨[],⟨none,0,rfl,by simp,by unfold maxLen;omega,fun h=>by simp at h⟩,Dg.small_nil _ (by omega)⟩
 ·obtain⟨b,off,spot⟩:=x
  have hb: ∀i,i<zs.length→0≤zs.getD i 0∧zs.getD i 0<4294967296:=fun i hi=>by
   have:=bounds_u32 (hwz (zs.getD i 0) (by simp[List.getD_eq_getElem?_getD,hi]));omega
  have hlen:((zs.take len).map Int.toNat).length=len:=by simp;omega
  have hget: ∀i,i<len→(((zs.take len).map Int.toNat).getD i 0:Nat)=(zs.getD i 0).toNat:=fun i hi=>by
   have h1:i<zs.length:=by omega
   simp[List.getD_eq_getElem?_getD,hi,h1]
  refine⟨(zs.take len).map Int.toNat,⟨_,cap,by rw[hlen],by rw[hlen];exact hl,hm,fun hp=> ?_⟩,fun i=> ?_⟩
  ·rw[hlen] at hp
   have h0:=hcell 0 (by omega);have hspot:spot=none:=by simpa[Addr.add] using World.cell?_spot h0
   subst hspot;refine⟨b,off,rfl,fun i hi=> ?_⟩
   rw[hlen] at hi;have:=hcell i (by omega);rw[rO] at this;rw[this,hget i hi];have:=(hb i (by omega)).1
   congr 2
   omega
  ·by_cases hi:i<len
   ·rw[hget i hi];have:=hb i (by omega);omega
   ·rw[Dg.getD_of_le _ _ (by rw[hlen];omega)];omega
theorem CB (a b:ak):dJ (aG a (dV b))=sgn (V (a.e.natAbs+b.e.natAbs) a-V (a.e.natAbs+b.e.natAbs) b):=by
 have h1: -((a.e.natAbs+b.e.natAbs:Nat):Int)≤a.e:=by omega
 have h2: -((a.e.natAbs+b.e.natAbs:Nat):Int)≤(dV b).e:=by show _≤b.e;omega
 have h3:=dH h1 h2;rw[pC] at h3;have h4:=Di (a.e.natAbs+b.e.natAbs) (aG a (dV b));rw[h3] at h4;unfold dJ;rw[←h4]
 congr 1
def xw (c:Int)(a b:ak):Int:=if c=0 then dJ (aG a (dV b)) else 0
theorem EI (K:Nat)(t:ak):V K (dB t)= -V K t:=by
 rw[←pC,eV,eV];unfold dB dV;simp only
 by_cases h:0<t.n
 ·simp[h]
 ·have h0:t.n=0:=by omega
  rw[h0,Nat.zero_mul];simp[sz]
theorem acR (K:Nat)(t:ak):dJ t=sgn (V K t):=(Di K t).symm
def cu (s:Bool)(xs:List Nat)(e:Int)(t:Bool)(ys:List Nat)(f:Int):Int:=
 if dQ xs e ys f=0 then(if 0<dJ (aG ⟨s,Dg.vl 4294967296 xs,e⟩ (dV ⟨t,Dg.vl 4294967296 ys,f⟩)) then 4 else 0) else dQ xs e ys f
theorem oQ (A:ak)(b:Int)(up:Bool)(hb:1≤b):bare (aY A b up)=dE (bare A) b up:=by
 obtain⟨s,n,e⟩:=A
 by_cases h0:n=0
 ·subst h0
  have hz:bare ⟨s,0,e⟩=⟨false,0,0⟩:=rfl;have c1:aY ⟨s,0,e⟩ b up=⟨s,0,e⟩:=if_pos (by
   show((bitLen 0:Nat):Int)-b≤((if(0:Nat)=0 then 0 else tz 0:Nat):Int)
   rw[gP,if_pos rfl];omega)
  have c2:dE ⟨false,0,0⟩ b up=⟨false,0,0⟩:=if_pos (by
   show((bitLen 0:Nat):Int)-b≤0
   rw[gP];omega)
  rw[c1,hz,c2]
 ·obtain⟨m,hm⟩:=fO h0
  have hd:=lI hm;have hba:bare ⟨s,n,e⟩=⟨s,2*m+1,e+tz n⟩:=by
   unfold bare;rw[if_neg h0];simp only[hd]
  obtain⟨k,hk⟩: ∃k,tz n=k:=⟨_,rfl⟩;rw[hk] at hba hm;have hbl:=Ad (2*m+1) k (by omega);rw[←hm] at hbl;rw[hba];unfold aY dE;simp only[if_neg h0,hk,hbl];obtain⟨L,hL⟩: ∃L,bitLen (2*m+1)=L:=⟨_,rfl⟩;rw[hL]
  by_cases h1:(L:Int)-b≤0
  ·rw[if_pos h1,if_pos (by omega)]
   exact hba
  ·rw[if_neg h1,if_neg (by omega)]
   obtain⟨j,hj⟩: ∃j:Nat,(L:Int)-b=(j:Int):=⟨((L:Int)-b).toNat,by omega⟩;have hj2:((k+L:Nat):Int)-b=((k+j:Nat):Int):=by omega
   rw[hj2,hj,Int.toNat_natCast,Int.toNat_natCast];have hdiv:n/2^ (k+j)=(2*m+1)/2^j:=by
    rw[hm,Nat.pow_add,Nat.mul_div_mul_left _ _ (Nat.pow_pos (by omega))]
   have hmod:0< (2*m+1) % 2^j:=by
    rcases Nat.eq_zero_or_pos ((2*m+1) % 2^j) with h|h
    ·exfalso
     obtain⟨i,hi⟩: ∃i,j=i+1:=⟨j-1,by omega⟩;have hdv:=Nat.dvd_of_mod_eq_zero h;rw[hi,Nat.pow_succ'] at hdv;have:2∣2*m+1:=Nat.dvd_trans (Nat.dvd_mul_right 2 _) hdv;omega
    ·exact h
   rw[hdiv];have he:e+((k+j:Nat):Int)=e+(k:Int)+(j:Int):=by omega
   rw[he];simp only[hmod,true_and]
theorem lp_pair (nn tn D:Nat)(hn:4≤nn): ∀f F i t T s r S R,t<4^f→T<4^F→t*D≤T→T< (t+1)*D→
  i≤(lp nn tn f i t s r).1∧
  (S+(lp nn tn f i t s r).2.1*D≤(lp nn tn F i T S R).2.1+s*D∧(lp nn tn F i T S R).2.1+s*D≤S+(lp nn tn f i t s r).2.1*D+((lp nn tn f i t s r).1-i+2)*D)∧
  (R+(lp nn tn f i t s r).2.2*D≤(lp nn tn F i T S R).2.2+r*D∧(lp nn tn F i T S R).2.2+r*D≤R+(lp nn tn f i t s r).2.2*D+((lp nn tn f i t s r).1-i+2)*D):=by
 intro f
 induction f with
 |zero=>
  intro F i t T s r S R h1 h2 h3 h4;obtain rfl:t=0:=by simpa using h1
  rw[lp_zero];obtain⟨a,b,c,d⟩:=lp_tail nn tn hn F i T S R;simp only[Nat.zero_add,Nat.one_mul,Nat.sub_self] at h4⊢;omega
 |succ f ih=>
  intro F i t T s r S R h1 h2 h3 h4
  by_cases h0:t=0
  ·subst h0
   rw[lp_zero];obtain⟨a,b,c,d⟩:=lp_tail nn tn hn F i T S R;simp only[Nat.zero_add,Nat.one_mul,Nat.sub_self] at h4⊢;omega
  ·have hD:0<D:=by
    rcases Nat.eq_zero_or_pos D with c|c
    ·subst c;simp at h4
    ·exact c
   have hT:T≠0:=by
    have:1*D≤t*D:=Nat.mul_le_mul_right _ (by omega);omega
   cases F with
   |zero=>exact absurd (show T=0 by simpa using h2) hT
   |succ F=>
    obtain⟨p1,p2⟩:=div_pair (k:=nn) (by omega) h3 h4;obtain⟨q1,q2⟩:=div_pair (k:=2*i+1) (by omega) h3 h4;rw[Nat.add_mul,Nat.one_mul] at q2
    by_cases h:tn*(i % 2)=0
    ·rw[lp_up _ _ _ _ _ _ _ h0 h,lp_up _ _ _ _ _ _ _ hT h]
     obtain⟨a,⟨b1,b2⟩,c1,c2⟩:=ih F (i+1) (t/nn) (T/nn) (s+t/(2*i+1)) r (S+T/(2*i+1)) R (div_step hn h1) (div_step hn h2) p1 p2;generalize lp nn tn f (i+1) (t/nn) (s+t/(2*i+1)) r=x at*;generalize lp nn tn F (i+1) (T/nn) (S+T/(2*i+1)) R=y at*;obtain⟨e,he⟩: ∃e,x.1=i+1+e:=⟨x.1-(i+1),by omega⟩;have e1:x.1-i=e+1:=by omega
     have e2:x.1-(i+1)=e:=by omega
     rw[e1];rw[e2] at b2 c2;simp only[Nat.add_mul,Nat.one_mul] at b1 b2 c1 c2⊢;omega
    ·rw[lp_down _ _ _ _ _ _ _ h0 h,lp_down _ _ _ _ _ _ _ hT h]
     obtain⟨a,⟨b1,b2⟩,c1,c2⟩:=ih F (i+1) (t/nn) (T/nn) s (r+t/(2*i+1)) S (R+T/(2*i+1)) (div_step hn h1) (div_step hn h2) p1 p2;generalize lp nn tn f (i+1) (t/nn) s (r+t/(2*i+1))=x at*;generalize lp nn tn F (i+1) (T/nn) S (R+T/(2*i+1))=y at*;obtain⟨e,he⟩: ∃e,x.1=i+1+e:=⟨x.1-(i+1),by omega⟩;have e1:x.1-i=e+1:=by omega
     have e2:x.1-(i+1)=e:=by omega
     rw[e1];rw[e2] at b2 c2;simp only[Nat.add_mul,Nat.one_mul] at b1 b2 c1 c2⊢;omega
theorem aaW (A:ak)(b:Int)(up:Bool):aY (dV A) b (!up)=dV (aY A b up):=by
 unfold aY dV;simp only
 by_cases h:(bitLen A.n:Int)-b≤((if A.n=0 then 0 else tz A.n:Nat):Int)
 ·rw[if_pos h,if_pos h]
 ·rw[if_neg h,if_neg h]
  cases up<;>cases A.s<;>rfl
theorem xZ {K:Nat}(A y:ak)(b:Int)(hb:1≤b)(hA: -(K:Int)≤A.e)(hn:y.n<2^b.toNat)(h:V K A≤V K y):V K (aY A b true)≤V K y:=by
 have h1:=wM (K:=K) (dV A) (dV y) b hb hA hn (by rw[pC,pC];omega);have h2:=aaW A b true;simp only[Bool.not_true] at h2;rw[h2,pC,pC] at h1;omega
theorem na_le {n tn k:Nat}(hn:2≤n)(ht:tn≤1):NA n tn k≤k+1:=(inv_ord hn ht _ _ _ _ _ _ (inv_zero hn)).2
theorem xa_pair {n tn k W:Nat}(hn:2≤n)(ht:tn≤1)(hk:k≤W):
  XA n tn k*2^ (W-k)≤XA n tn W+(NA n tn k+2)*2^ (W-k)∧XA n tn W≤XA n tn k*2^ (W-k)+(NA n tn k+2)*2^ (W-k):=by
 obtain⟨D,hD⟩: ∃D,2^ (W-k)=D:=⟨_,rfl⟩;have hW:(2:Nat)^W=2^k*D:=by rw[←hD,←Nat.pow_add];congr 1;omega
 have hD0:0<D:=by rw[←hD];exact Nat.pow_pos (by omega)
 obtain⟨p1,p2⟩:=div_pair (t:=2^k) (T:=2^W) (D:=D) (k:=n) (by omega) (by rw[hW];exact Nat.le_refl _) (by rw[hW,Nat.add_mul];omega);have h:=lp_pair (n*n) tn D (Nat.mul_le_mul hn hn) (k+1) (W+1) 0 (2^k/n) (2^W/n) 0 0 0 0 (pow4_le k n) (pow4_le W n) p1 p2;have o1:=(inv_ord hn ht _ _ _ _ _ _ (inv_zero (k:=k) (tn:=tn) hn)).1;have o2:=(inv_ord hn ht _ _ _ _ _ _ (inv_zero (k:=W) (tn:=tn) hn)).1;unfold XA NA;rw[hD];generalize lp (n*n) tn (k+1) 0 (2^k/n) 0 0=x at*;generalize lp (n*n) tn (W+1) 0 (2^W/n) 0 0=y at*;obtain⟨-,⟨a1,a2⟩,b1,b2⟩:=h;simp only[Nat.zero_mul,Nat.add_zero,Nat.zero_add,Nat.sub_zero] at a1 a2 b1 b2;have e:(x.2.1-x.2.2)*D+x.2.2*D=x.2.1*D:=by rw[←Nat.add_mul];congr 1;omega
 generalize(x.2.1-x.2.2)*D=A at*;generalize x.2.1*D=B at*;generalize x.2.2*D=C at*;generalize(x.1+2)*D=E at*;omega
theorem V_make (w c q:Nat):V w ⟨false,c,(q:Int)-(w:Int)⟩=((c*2^q:Nat):Int):=by
 rw[eV]
 show sz false (c*2^ ((q:Int)-(w:Int)+(w:Int)).toNat)=_
 rw[show((q:Int)-(w:Int)+(w:Int)).toNat=q by omega]
 rfl
theorem V_flat {w:Nat}{A:ak}(_hA: -(w:Int)≤A.e)(hp:0<V w A):A.s=false∧V w A=((A.n*2^ (A.e+w).toNat:Nat):Int):=by
 rw[eV] at hp⊢
 cases h:A.s
 ·exact⟨rfl,rfl⟩
 ·rw[h] at hp
  unfold sz at hp;rw[if_pos rfl] at hp;have hz:=Int.natCast_nonneg (A.n*2^ (A.e+(w:Int)).toNat);generalize((A.n*2^ (A.e+(w:Int)).toNat:Nat):Int)=z at*;omega
theorem cut_up_c {w b c q:Nat}{A:ak}(hb:1≤b)(hA: -(w:Int)≤A.e)(c2:c<2^b)(h2:V w A< (((c+1)*2^q:Nat):Int)):
  V w A≤V w (aY A b true)∧V w (aY A b true)≤(((c+1)*2^q:Nat):Int)∧ -(w:Int)≤(aY A b true).e:=by
 have hb':(1:Int)≤(b:Int):=by omega
 obtain⟨a1,a2,a3,a4⟩:=lE A b hb' hA;refine⟨by omega, ?_,a4⟩
 by_cases hc:c+1<2^b
 ·have l1:=xZ (K:=w) A ⟨false,c+1,(q:Int)-(w:Int)⟩ b hb' hA (by simpa using hc) (by rw[V_make];omega)
  rwa [V_make] at l1
 ·have hc1:c+1=2^b:=by omega
  have hone:1<2^b:=Nat.one_lt_two_pow (by omega);have e:(c+1)*2^q=1*2^ (b+q):=by rw[hc1,Nat.one_mul,←Nat.pow_add]
  have l1:=xZ (K:=w) A ⟨false,1,((b+q:Nat):Int)-(w:Int)⟩ b hb' hA (by simpa using hone) (by rw[V_make,←e];omega)
  rwa [V_make,←e] at l1
theorem sgn_pos {w:Nat}{A:ak}(h:0<V w A):dJ A=1:=by
 have h1:=Di w A;unfold dJ;rw[←h1];unfold sgn;rw[if_neg (by omega),if_neg (by omega)]
def GoodB (X b:Nat)(l h:ak):Prop:=
 (∃t,l=bare t)∧(∃t,h=bare t)∧(-1120≤l.e∧l.e≤9000∧l.n<2^1000)∧(-1120≤h.e∧h.e≤9000∧h.n<2^1000)∧
  0<V 1120 l∧V 1120 l≤(X:Int)∧(X:Int)≤V 1120 h∧V 1120 h≤V 1120 l+((2^ (1124-b):Nat):Int)
theorem V_lift {w j:Nat}{t:ak}(h: -(w:Int)≤t.e):V (w+j) t=V w t*((2^j:Nat):Int):=by
 unfold V;rw[show(t.e+((w+j:Nat):Int)).toNat=(t.e+(w:Int)).toNat+j by omega,Nat.pow_add,Int.natCast_mul,Int.mul_assoc]
theorem inv_lies {n tn b:Nat}(hn:2≤n)(ht:tn≤1)(hb:10≤b∧b≤1000):
  XA n tn (b+64)*2^ (1120-(b+64))≤XA n tn 1120+(3+3*NA n tn (b+64))*2^ (1120-(b+64))∧XA n tn 1120≤(XA n tn (b+64)+(3+3*NA n tn (b+64)))*2^ (1120-(b+64))∧NA n tn (b+64)≤b+65:=by
 obtain⟨p1,p2⟩:=xa_pair (k:=b+64) (W:=1120) hn ht (by omega);have h1:(NA n tn (b+64)+2)*2^ (1120-(b+64))≤(3+3*NA n tn (b+64))*2^ (1120-(b+64)):=Nat.mul_le_mul_right _ (by omega);refine⟨by omega, ?_,na_le hn ht⟩;rw[Nat.add_mul];omega
theorem not_small {X D a wr k:Nat}(hX:2^k*D≤X)(h:X≤(a+wr)*D)(hD:0<D)(hw:2*wr≤2^k):wr≤a:=by
 have h1:2^k≤a+wr:=Nat.le_of_mul_le_mul_right (Nat.le_trans hX h) hD;omega
def piLo (k:Nat):ak:=aG (upT (invLo (lp (5*5) 1 (k+1) 0 (2^k/5) 0 0) k) 4) (dV (upT (invHi (lp (239*239) 1 (k+1) 0 (2^k/239) 0 0) k) 2))
def piHi (k:Nat):ak:=aG (upT (invHi (lp (5*5) 1 (k+1) 0 (2^k/5) 0 0) k) 4) (dV (upT (invLo (lp (239*239) 1 (k+1) 0 (2^k/239) 0 0) k) 2))
def XPi:Nat:=16*XA 5 1 1120-4*XA 239 1 1120
theorem pi_V (k:Nat):V k (piLo k)=16*((XA 5 1 k:Int)-((3+3*NA 5 1 k:Nat):Int))-4*((XA 239 1 k:Int)+((3+3*NA 239 1 k:Nat):Int))∧V k (piHi k)=16*((XA 5 1 k:Int)+((3+3*NA 5 1 k:Nat):Int))-4*((XA 239 1 k:Int)-((3+3*NA 239 1 k:Nat):Int))∧ -(k:Int)≤(piLo k).e∧ -(k:Int)≤(piHi k).e∧(piLo k).e≤90000∧(piHi k).e≤90000:=by
 obtain⟨e1,e2⟩:=inv_e (lp (5*5) 1 (k+1) 0 (2^k/5) 0 0) k;obtain⟨e3,e4⟩:=inv_e (lp (239*239) 1 (k+1) 0 (2^k/239) 0 0) k;obtain⟨v1,v2⟩:=V_inv (lp (5*5) 1 (k+1) 0 (2^k/5) 0 0) k;obtain⟨v3,v4⟩:=V_inv (lp (239*239) 1 (k+1) 0 (2^k/239) 0 0) k;have u1:=V_up (k:=k) (t:=invLo (lp (5*5) 1 (k+1) 0 (2^k/5) 0 0) k) 4 (by omega);have u2:=V_up (k:=k) (t:=invHi (lp (5*5) 1 (k+1) 0 (2^k/5) 0 0) k) 4 (by omega);have u3:=V_up (k:=k) (t:=invLo (lp (239*239) 1 (k+1) 0 (2^k/239) 0 0) k) 2 (by omega);have u4:=V_up (k:=k) (t:=invHi (lp (239*239) 1 (k+1) 0 (2^k/239) 0 0) k) 2 (by omega);rw[v1] at u1;rw[v2] at u2;rw[v3] at u3;rw[v4] at u4;have i1:(upT (invLo (lp (5*5) 1 (k+1) 0 (2^k/5) 0 0) k) 4).e=0-(k:Int)+4:=by show _+_=_;rw[e1]
 have i2:(upT (invHi (lp (5*5) 1 (k+1) 0 (2^k/5) 0 0) k) 4).e=0-(k:Int)+4:=by show _+_=_;rw[e2]
 have i3:(dV (upT (invLo (lp (239*239) 1 (k+1) 0 (2^k/239) 0 0) k) 2)).e=0-(k:Int)+2:=by show _+_=_;rw[e3]
 have i4:(dV (upT (invHi (lp (239*239) 1 (k+1) 0 (2^k/239) 0 0) k) 2)).e=0-(k:Int)+2:=by show _+_=_;rw[e4]
 refine⟨?_, ?_, ?_, ?_, ?_, ?_⟩
 ·unfold piLo
  rw[dH (by omega) (by omega),pC];rw[show((4:Nat):Int)=4 from rfl] at u1
  rw[show((2:Nat):Int)=2 from rfl] at u4
  rw[u1,u4]
  show((XA 5 1 k:Int)-((3+3*NA 5 1 k:Nat):Int))*16+ -(((XA 239 1 k:Int)+((3+3*NA 239 1 k:Nat):Int))*4)=_
  omega
 ·unfold piHi
  rw[dH (by omega) (by omega),pC];rw[show((4:Nat):Int)=4 from rfl] at u2
  rw[show((2:Nat):Int)=2 from rfl] at u3
  rw[u2,u3]
  show((XA 5 1 k:Int)+((3+3*NA 5 1 k:Nat):Int))*16+ -(((XA 239 1 k:Int)-((3+3*NA 239 1 k:Nat):Int))*4)=_
  omega
 all_goals first| (unfold piLo;rw[plus_e_min];omega)| (unfold piHi;rw[plus_e_min];omega)
theorem pi_fits (k:Nat)(hk:k≤60000):FitsT (piLo k)∧FitsT (piHi k):=by
 obtain⟨v1,v2,e1,e2,e3,e4⟩:=pi_V k;obtain⟨-,-,s1⟩:=inv_fits 5 k 1 (by omega) (by omega) hk;obtain⟨-,-,s2⟩:=inv_fits 239 k 1 (by omega) (by omega) hk;have hp:(2:Nat)^ (k+23)=2^ (k+17)*64:=by rw[show k+23=k+17+6 by omega,Nat.pow_add]
 have hI:((2^ (k+23):Nat):Int)=((2^ (k+17):Nat):Int)*64:=by rw[hp,Int.natCast_mul];rfl
 have a1:(XA 5 1 k:Int)+((3+3*NA 5 1 k:Nat):Int)< ((2^ (k+17):Nat):Int):=by rw[←Int.natCast_add];exact Int.ofNat_lt.2 s1
 have a2:(XA 239 1 k:Int)+((3+3*NA 239 1 k:Nat):Int)< ((2^ (k+17):Nat):Int):=by rw[←Int.natCast_add];exact Int.ofNat_lt.2 s2
 generalize hP:((2^ (k+17):Nat):Int)=P at*
 constructor
 ·refine fits_of_V (j:=k+23) e1 e3 hk (by omega) ?_ ?_<;>rw[v1,hI]<;>omega
 ·refine fits_of_V (j:=k+23) e2 e4 hk (by omega) ?_ ?_<;>rw[v2,hI]<;>omega
theorem dx {s t:Bool}{xs ys:List Nat}{e f:Int}(h:cu s xs e t ys f=0):aS xs e=0∧aS ys f=0∧bJ ⟨s,Dg.vl 4294967296 xs,e⟩ ⟨t,Dg.vl 4294967296 ys,f⟩≤0:=by
 unfold cu at h
 by_cases h1:dQ xs e ys f=0
 ·rw[if_pos h1] at h
  obtain⟨a,b⟩:=iN h1;refine⟨a,b, ?_⟩
  by_cases h2:0<dJ (aG ⟨s,Dg.vl 4294967296 xs,e⟩ (dV ⟨t,Dg.vl 4294967296 ys,f⟩))
  ·rw[if_pos h2] at h;omega
  ·unfold bJ;omega
 ·rw[if_neg h1] at h;exact absurd h h1
def dk (T:ak→ak→ak)(A0 A1 B0 B1:ak):Nat→ak
 |0=>T A0 B0
 |1=>T A0 B1
 |2=>T A1 B0
 |_=>T A1 B1
theorem j8 {n k L:Nat}(h:n<2^k)(hk:k≤32*L):(Dg.dg 4294967296 n).length≤L:=by
 refine Dg.dg_len_le 4294967296 n L (by omega) (Nat.lt_of_lt_of_le h ?_);rw[show(4294967296:Nat)=2^32 from rfl,←Nat.pow_mul]
 exact Nat.pow_le_pow_right (by omega) hk
theorem uH {a b:ak}(ha:bitLen a.n≤38400)(hb:bitLen b.n≤38400)(a1: -20000≤a.e)(a2:a.e≤20000)(b1: -20000≤b.e)(b2:b.e≤20000):
  (Dg.dg 4294967296 (aK a b).n).length≤9000∧ -100000≤(aK a b).e∧(aK a b).e≤100000:=by
 have h1:a.n*b.n<2^bitLen a.n*2^bitLen b.n:=Nat.mul_lt_mul'' (bitLen_spec a.n).1 (bitLen_spec b.n).1;rw[←Nat.pow_add] at h1;exact⟨j8 h1 (by omega),by show-100000≤a.e+b.e;omega,by show a.e+b.e≤100000;omega⟩
def XLn:Nat:=18*XA 26 0 1120+8*XA 8749 0 1120-2*XA 4801 0 1120
theorem lies_I {n tn b D:Nat}(hn:2≤n)(ht:tn≤1)(hb:10≤b∧b≤1000)(hD:2^ (1120-(b+64))=D):(XA n tn (b+64):Int)*(D:Int)≤(XA n tn 1120:Int)+((3+3*NA n tn (b+64):Nat):Int)*(D:Int)∧(XA n tn 1120:Int)≤(XA n tn (b+64):Int)*(D:Int)+((3+3*NA n tn (b+64):Nat):Int)*(D:Int)∧((3+3*NA n tn (b+64):Nat):Int)≤4000:=by
 obtain⟨p1,p2,p3⟩:=inv_lies hn ht hb;rw[hD] at p1 p2;refine⟨?_, ?_,by omega⟩
 ·rw[←Int.natCast_mul,←Int.natCast_mul,←Int.natCast_add];exact Int.ofNat_le.2 p1
 ·rw[←Int.add_mul,←Int.natCast_add,←Int.natCast_mul];exact Int.ofNat_le.2 p2
theorem chk_pi:chkN XPi=true:=by kernel_rfl
theorem chk_ln:chkN XLn=true:=by kernel_rfl
def sameP (a b:ak)(m:Int):Bool:=decide (0<dJ a*dJ b)&&(bJ (aY a m a.s) (aY b m b.s)==0)
theorem sign_abs (a:ak):dJ a=0∨dJ a=1∨dJ a= -1:=by
 unfold dJ
 split
 ·exact .inl rfl
 ·split
  ·exact .inr (.inr rfl)
  ·exact .inr (.inl rfl)
theorem sgn_zero {z:Int}:sgn z=0↔z=0:=by
 unfold sgn
 split
 ·rename_i h
  exact⟨fun _=>h,fun _=>rfl⟩
 ·split<;>constructor<;>intro h<;>omega
theorem sgn_mul {y z:Int}:0<sgn y*sgn z↔(0<y∧0<z)∨(y<0∧z<0):=by
 unfold sgn
 split
 ·rw[Int.zero_mul]
  omega
 ·split
  ·split
   ·rw[Int.mul_zero]
    omega
   ·split<;>omega
  ·split
   ·rw[Int.mul_zero]
    omega
   ·split<;>omega
def lawA (a b:ak):ak:=if(bare a).s=true then dV b else a
def lawB (a b:ak):ak:=if(bare a).s=true then dV a else b
theorem bareNeg_iff (K:Nat){a:ak}:(bare a).s=true↔V K a<0:=by
 have hp:0<2^ (a.e+(K:Int)).toNat:=Nat.pow_pos (by omega);rw[eV];unfold bare sz
 split
 ·rename_i h
  rw[h,Nat.zero_mul];simp
 ·rename_i h
  have:0<a.n*2^ (a.e+(K:Int)).toNat:=Nat.mul_pos (Nat.pos_of_ne_zero h) hp;simp only
  cases a.s
  ·rw[if_neg (by decide)]
   constructor
   ·intro h;cases h
   ·intro h;omega
  ·rw[if_pos rfl]
   constructor
   ·intro _;omega
   ·intro _;rfl
theorem sign_pos {K:Nat}{a:ak}(h:0<V K a):a.s=false:=by
 rw[eV] at h;unfold sz at h
 cases hs:a.s
 ·rfl
 ·rw[hs,if_pos rfl] at h
  omega
theorem sign_neg {K:Nat}{a:ak}(h:V K a<0):a.s=true:=by
 rw[eV] at h;unfold sz at h
 cases hs:a.s
 ·rw[hs,if_neg (by decide)] at h
  omega
 ·rfl
theorem spanSame_iff {K:Nat}{a b:ak}{m:Int}(hm:1≤m)(ha: -(K:Int)≤a.e)(hb: -(K:Int)≤b.e)(hab:V K a≤V K b):
  sameP a b m=true↔0<V K (lawA a b)∧V K (aY (lawA a b) m false)=V K (aY (lawB a b) m false):=by
 have key:sameP a b m=true↔((0<V K a∧0<V K b)∨(V K a<0∧V K b<0))∧V K (aY a m a.s)=V K (aY b m b.s):=by
  unfold sameP;rw[Bool.and_eq_true,decide_eq_true_eq,acR K a,acR K b,sgn_mul,beq_iff_eq];have e1: ∀up,-(K:Int)≤(aY a m up).e:=fun up=>by cases up;exact(lE (K:=K) a m hm ha).2.2.1;exact(lE (K:=K) a m hm ha).2.2.2
  have e2: ∀up,-(K:Int)≤(aY b m up).e:=fun up=>by cases up;exact(lE (K:=K) b m hm hb).2.2.1;exact(lE (K:=K) b m hm hb).2.2.2
  rw[oY (K:=K) (e1 _) (e2 _),sgn_zero]
  constructor
  ·rintro⟨h1,h2⟩
   exact⟨h1,by omega⟩
  ·rintro⟨h1,h2⟩
   exact⟨h1,by omega⟩
 rw[key];have bs:=bareNeg_iff K (a:=a);unfold lawA lawB
 cases hs:(bare a).s
 ·have h0: ¬V K a<0:=fun c=>by
   rw[bs.2 c] at hs
   cases hs
  rw[if_neg (by decide),if_neg (by decide)]
  constructor
  ·rintro⟨h1,h2⟩
   have hp:0<V K a:=by omega
   rw[sign_pos hp,sign_pos (a:=b) (K:=K) (by omega)] at h2;exact⟨hp,h2⟩
  ·rintro⟨h1,h2⟩
   refine⟨.inl ⟨h1,by omega⟩, ?_⟩;rw[sign_pos h1,sign_pos (a:=b) (K:=K) (by omega)];exact h2
 ·have h0:=bs.1 hs
  have hn: ∀t:ak,V K (aY (dV t) m false)= -V K (aY t m true):=fun t=>by
   have:=aaW t m true;rw[show(!true)=false from rfl] at this
   rw[this,pC]
  rw[if_pos rfl,if_pos rfl,pC,hn,hn,sign_neg h0]
  constructor
  ·rintro⟨h1,h2⟩
   have hbn:V K b<0:=by omega
   rw[sign_neg hbn] at h2;exact⟨by omega,by omega⟩
  ·rintro⟨h1,h2⟩
   refine⟨.inr ⟨h0,by omega⟩, ?_⟩;rw[sign_neg (a:=b) (K:=K) (by omega)];omega
end Go.Proofs.YtiakgfmlpdfhdaaGreatDoor
