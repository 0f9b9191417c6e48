/-
  Texts laid together: Rk1, Rk2, Pa1, Ra1, Pa2.
-/
import Derived.Test.YtbdokgamhinajaaGreatDoorSo31
namespace Go.Proofs.YtbdokgamhinajaaGreatDoor
def ut (J:Int)(N1 M1:Nat)(E1:Int)(N2 M2:Nat)(E2:Int):Prop:=
 ∀j,J≤j→eZ N1 (E1-j)/dX M1 (E1-j)=eZ N2 (E2-j)/dX M2 (E2-j)∧(eZ N1 (E1-j) % dX M1 (E1-j)=0↔eZ N2 (E2-j) % dX M2 (E2-j)=0)
theorem ut.trans {J K:Int}{N1 M1 N2 M2 N3 M3:Nat}{E1 E2 E3:Int}(h:ut J N1 M1 E1 N2 M2 E2)(g:ut K N2 M2 E2 N3 M3 E3):ut (max J K) N1 M1 E1 N3 M3 E3:=fun j hj=>by
 obtain⟨a1,a2⟩:=h j (by omega);obtain⟨b1,b2⟩:=g j (by omega);exact⟨a1.trans b1,a2.trans b2⟩
theorem ut.symm {J:Int}{N1 M1 N2 M2:Nat}{E1 E2:Int}(h:ut J N1 M1 E1 N2 M2 E2):ut J N2 M2 E2 N1 M1 E1:=fun j hj=>⟨(h j hj).1.symm,(h j hj).2.symm⟩
theorem ut.mono {J K:Int}{N1 M1 N2 M2:Nat}{E1 E2:Int}(h:ut J N1 M1 E1 N2 M2 E2)(hk:J≤K):ut K N1 M1 E1 N2 M2 E2:=fun j hj=>h j (by omega)
theorem Gk {X Y X' Y':Nat}(hY:0<Y)(hY':0<Y')(h:X*Y'=2*X'*Y):
  X'/Y'=X/Y/2∧(X' % Y'=0↔X/Y % 2=0∧X % Y=0)∧dm ((X' % Y'*2:Nat):Int) Y'=if X/Y % 2=1 then(if X % Y=0 then 0 else 1) else-1:=by
 obtain⟨q,hq⟩: ∃q,X/Y=q:=⟨_,rfl⟩;obtain⟨r,hr⟩: ∃r,X % Y=r:=⟨_,rfl⟩;have hX:X=Y*q+r:=by rw[←hq,←hr];exact(Nat.div_add_mod X Y).symm
 have hrY:r<Y:=by rw[←hr];exact Nat.mod_lt _ hY
 have hb:q % 2<2:=Nat.mod_lt _ (by omega);have hq2:q=2*(q/2)+q % 2:=(Nat.div_add_mod q 2).symm;generalize hA:q/2=a at hq2;generalize hB:q % 2=b at hq2 hb;have e1:2*X'*Y=(Y*(2*a+b)+r)*Y':=by rw[←h,hX,←hq2]
 have hlt:X'<Y'*(a+1):=by
  refine Nat.lt_of_mul_lt_mul_left (a:=2*Y) ?_;have e2:(Y*(2*a+b)+r)*Y'< (2*Y*(a+1))*Y':=by
   refine Nat.mul_lt_mul_of_pos_right ?_ hY';have:Y*(2*a+b)≤Y*(2*a+1):=Nat.mul_le_mul_left _ (by omega);have e3:2*Y*(a+1)=Y*(2*a+1)+Y:=by
    rw[Nat.mul_add,Nat.mul_add,Nat.mul_comm 2 Y,Nat.mul_assoc];omega
   omega
  calc 2*Y*X'=2*X'*Y:=by rw[Nat.mul_assoc,Nat.mul_comm Y X',Nat.mul_assoc]
   _< (2*Y*(a+1))*Y':=by rw[e1];exact e2
   _=2*Y*(Y'*(a+1)):=by rw[Nat.mul_assoc,Nat.mul_comm (a+1) Y']
 have hge:Y'*a≤X':=by
  refine Nat.le_of_mul_le_mul_left (show 2*Y*(Y'*a)≤2*Y*X' from ?_) (by omega)
  have c1:2*Y*(Y'*a)=(Y*(2*a))*Y':=by rw[Nat.mul_comm Y' a,←Nat.mul_assoc,Nat.mul_comm 2 Y,Nat.mul_assoc Y 2 a]
  have c2:Y*(2*a)≤Y*(2*a+b)+r:=Nat.le_trans (Nat.mul_le_mul_left _ (by omega)) (Nat.le_add_right _ _);have c3:(Y*(2*a+b)+r)*Y'=2*Y*X':=by rw[←e1,Nat.mul_assoc,Nat.mul_comm X' Y,Nat.mul_assoc]
  rw[c1,←c3];exact Nat.mul_le_mul_right _ c2
 have hd:X'/Y'=a:=Nat.div_eq_of_lt_le (by rw[Nat.mul_comm];exact hge) (by rw[Nat.mul_comm];exact hlt);obtain⟨r',hr'⟩: ∃r',X' % Y'=r':=⟨_,rfl⟩;have hX':X'=Y'*a+r':=by rw[←hd,←hr'];exact(Nat.div_add_mod X' Y').symm
 have hr'Y:r'<Y':=by rw[←hr'];exact Nat.mod_lt _ hY'
 have e4:2*r'*Y=(b*Y+r)*Y':=by
  have e5:2*(Y'*a+r')*Y=(Y*(2*a+b)+r)*Y':=by rw[←hX'];exact e1
  have e6:2*(Y'*a+r')*Y=2*Y'*a*Y+2*r'*Y:=by rw[Nat.mul_add,Nat.add_mul,←Nat.mul_assoc]
  have e7:(Y*(2*a+b)+r)*Y'=2*Y'*a*Y+(b*Y+r)*Y':=by
   rw[Nat.mul_add,Nat.add_assoc,Nat.add_mul,Nat.mul_comm Y b]
   congr 1
   rw[Nat.mul_comm Y (2*a),Nat.mul_assoc,Nat.mul_comm Y Y',←Nat.mul_assoc,Nat.mul_assoc 2 a Y',Nat.mul_comm a Y',←Nat.mul_assoc]
  omega
 rw[hq,hr,hd,hr',hA,hB];have hb01:b=0∨b=1:=by omega
 refine⟨rfl, ?_, ?_⟩
 ·constructor
  ·intro h0
   subst h0;have:(b*Y+r)*Y'=0:=by rw[←e4];simp
   have h2:b*Y+r=0:=by
    rcases Nat.mul_eq_zero.1 this with h|h
    ·exact h
    ·omega
   rcases hb01 with rfl|rfl
   ·exact⟨rfl,by omega⟩
   ·omega
  ·rintro⟨rfl,rfl⟩
   have:2*r'*Y=0:=by rw[e4];simp
   rcases Nat.mul_eq_zero.1 this with h|h<;>omega
 ·unfold dm
  rcases hb01 with rfl|rfl
  ·rw[if_neg (show¬(0:Nat)=1 by omega)]
   have:r'*2<Y':=by
    refine Nat.lt_of_mul_lt_mul_right (a:=Y) ?_;rw[Nat.mul_comm r' 2,e4,Nat.zero_mul,Nat.zero_add,Nat.mul_comm Y' Y];exact Nat.mul_lt_mul_of_pos_right hrY hY'
   rw[if_pos (by omega)]
  ·rw[if_pos (show(1:Nat)=1 from rfl)]
   rw[Nat.one_mul] at e4
   by_cases h0:r=0
   ·rw[if_pos h0]
    subst h0;have:r'*2=Y':=by
     refine Nat.eq_of_mul_eq_mul_right hY ?_;rw[Nat.mul_comm r' 2,e4,Nat.add_zero,Nat.mul_comm]
    rw[if_neg (by omega),if_neg (by omega)]
   ·rw[if_neg h0]
    have:Y'<r'*2:=by
     refine Nat.lt_of_mul_lt_mul_right (a:=Y) ?_;rw[Nat.mul_comm r' 2,e4,Nat.mul_comm Y' Y];exact Nat.mul_lt_mul_of_pos_right (by omega) hY'
    rw[if_neg (by omega),if_pos (by omega)]
theorem jO {M:Nat}(h:M≠0)(n:Int):0<dX M n:=by
 rw[eM];exact Nat.mul_pos (by omega) (bG _)
theorem NH (N M:Nat)(n:Int):eZ N (n+1)*dX M n=2*eZ N n*dX M (n+1):=by
 rw[fw,fw,eM,eM]
 by_cases h:0≤n
 ·rw[show(-n).toNat=0 from by omega,show(-(n+1)).toNat=0 from by omega,show(n+1).toNat=n.toNat+1 from by omega,Nat.pow_succ]
  simp only[Nat.pow_zero,Nat.mul_one];rw[←Nat.mul_assoc N,Nat.mul_comm _ 2,←Nat.mul_assoc 2,Nat.mul_assoc 2]
 ·rw[show n.toNat=0 from by omega,show(n+1).toNat=0 from by omega,show(-n).toNat=(-(n+1)).toNat+1 from by omega,Nat.pow_succ]
  simp only[Nat.pow_zero,Nat.mul_one];rw[←Nat.mul_assoc M,←Nat.mul_assoc N,Nat.mul_comm _ 2,←Nat.mul_assoc 2]
theorem QX {R D L G:Int}{gr qs:Bool}{N1 M1 N2 M2:Nat}{E1 E2 way:Int}(m1:M1≠0)(m2:M2≠0)(ht:dY N1 M1 E1=dY N2 M2 E2)
  (h1:eZ N1 (E1-((ai R:Int)*dj R D L gr N1 M1 E1-1))/dX M1 (E1-((ai R:Int)*dj R D L gr N1 M1 E1-1))=eZ N2 (E2-((ai R:Int)*dj R D L gr N1 M1 E1-1))/dX M2 (E2-((ai R:Int)*dj R D L gr N1 M1 E1-1)))
  (h2:eZ N1 (E1-((ai R:Int)*dj R D L gr N1 M1 E1-1)) % dX M1 (E1-((ai R:Int)*dj R D L gr N1 M1 E1-1))=0↔eZ N2 (E2-((ai R:Int)*dj R D L gr N1 M1 E1-1)) % dX M2 (E2-((ai R:Int)*dj R D L gr N1 M1 E1-1))=0):
  cI R D L G gr qs N1 M1 E1 way=cI R D L G gr qs N2 M2 E2 way:=by
 have hc:dj R D L gr N2 M2 E2=dj R D L gr N1 M1 E1:=by unfold dj;rw[ht]
 obtain⟨c,hC⟩: ∃c,(ai R:Int)*dj R D L gr N1 M1 E1=c:=⟨_,rfl⟩;have s1:=Gk (jO m1 (E1-c+1)) (jO m1 (E1-c)) (NH N1 M1 (E1-c));have s2:=Gk (jO m2 (E2-c+1)) (jO m2 (E2-c)) (NH N2 M2 (E2-c));rw[hC,show E1-(c-1)=E1-c+1 from by omega,show E2-(c-1)=E2-c+1 from by omega] at h1 h2
 rw[h1] at s1;have hz: ∀x:Int,(if eZ N1 (E1-c+1) % dX M1 (E1-c+1)=0 then(0:Int) else x)=if eZ N2 (E2-c+1) % dX M2 (E2-c+1)=0 then 0 else x:=fun x=>by
  by_cases g:eZ N1 (E1-c+1) % dX M1 (E1-c+1)=0
  ·rw[if_pos g,if_pos (h2.1 g)]
  ·rw[if_neg g,if_neg (fun k=>g (h2.2 k))]
 have w:cH R D L gr N1 M1 E1=cH R D L gr N2 M2 E2:=by
  unfold cH shP;rw[hc,hC,s1.1,s2.1]
 have l:(gF R D L gr N1 M1 E1=0)=(gF R D L gr N2 M2 E2=0):=by
  unfold gF shP;rw[hc,hC];refine propext (s1.2.1.trans (Iff.trans ?_ s2.2.1.symm));rw[h2]
 have l':decide (gF R D L gr N1 M1 E1=0)=decide (gF R D L gr N2 M2 E2=0):=by simp only[l]
 have g:rf R D L gr qs N1 M1 E1 way=rf R D L gr qs N2 M2 E2 way:=by
  unfold rf;rw[w];have k1:=s1.2.2;have k2:=s2.2.2;rw[hz] at k1;unfold gF shP;rw[hc,hC,k1,k2]
 have d:fM R D L gr qs N1 M1 E1 way=fM R D L gr qs N2 M2 E2 way:=by
  unfold fM;rw[w,g,l']
 unfold cI;rw[d,l',ht,hc]
theorem Zv {J:Int}{N1 M1 N2 M2:Nat}{E1 E2:Int}(n1:N1≠0)(m1:M1≠0)(n2:N2≠0)(m2:M2≠0)(h:ut J N1 M1 E1 N2 M2 E2)(hJ:J≤dY N1 M1 E1):dY N1 M1 E1=dY N2 M2 E2:=by
 have key: ∀{N M:Nat} {E:Int} (i:Int),N≠0→M≠0→(1≤eZ N (E-i)/dX M (E-i)↔i≤dY N M E):=fun {N M E} i hN hM=>by
  have:=BD N M (E-i) 0 hN hM;rw[qD N M E];rw[Nat.pow_zero] at this
  constructor
  ·intro g;have:=this.1 g;omega
  ·intro g;exact this.2 (by omega)
 have a1:=(key (E:=E1) (dY N1 M1 E1) n1 m1).2 (Int.le_refl _);have a2:=fun g=>(key (E:=E1) (dY N1 M1 E1+1) n1 m1).1 g
 rw[(h _ hJ).1] at a1;have b1:=(key (E:=E2) _ n2 m2).1 a1;have b2: ¬dY N1 M1 E1+1≤dY N2 M2 E2:=fun g=>by
  have:=(key (E:=E2) _ n2 m2).2 g;rw[←(h _ (by omega)).1] at this;have:=a2 this;omega
 omega
theorem AC {R D L G J:Int}{gr qs:Bool}{N1 M1 N2 M2:Nat}{E1 E2 way:Int}(n1:N1≠0)(m1:M1≠0)(n2:N2≠0)(m2:M2≠0)(hD:1≤D)(hw:ai R*D.toNat≤64)(h:ut J N1 M1 E1 N2 M2 E2)(hJ:J+64≤dY N1 M1 E1):
  cI R D L G gr qs N1 M1 E1 way=cI R D L G gr qs N2 M2 E2 way:=by
 have hc:J≤(ai R:Int)*dj R D L gr N1 M1 E1-1:=by
  have h1:aT R D (dY N1 M1 E1)≤dj R D L gr N1 M1 E1:=by
   unfold dj
   split
   ·rename_i g
    simp at g;omega
   ·omega
  have h2:(ai R:Int)*aT R D (dY N1 M1 E1)≤(ai R:Int)*dj R D L gr N1 M1 E1:=Int.mul_le_mul_of_nonneg_left h1 (by omega);have h3:dY N1 M1 E1-63≤(ai R:Int)*aT R D (dY N1 M1 E1):=by
   unfold aT;have hw1:=eN R;have e:=Int.mul_ediv_add_emod (dY N1 M1 E1) (ai R);have l:=Int.emod_lt_of_pos (dY N1 M1 E1) (b:=(ai R:Int)) (by omega);rw[Int.mul_sub];have hd:((ai R*D.toNat:Nat):Int)=(ai R:Int)*D:=by rw[Int.natCast_mul,Int.toNat_of_nonneg (by omega)]
   rw[Int.mul_sub,Int.mul_one];omega
  omega
 obtain⟨g1,g2⟩:=h _ hc;exact QX m1 m2 (Zv n1 m1 n2 m2 h (by omega)) g1 g2
theorem qG {X1 Y1 X2 Y2:Nat}(h1:0<Y1)(h2:0<Y2)(h:X1*Y2=X2*Y1):X1/Y1=X2/Y2∧(X1 % Y1=0↔X2 % Y2=0):=by
 have key: ∀{X1 Y1 X2 Y2:Nat},0<Y1→0<Y2→X1*Y2=X2*Y1→X2/Y2≤X1/Y1∧(X2 % Y2=0→X1 % Y1=0):=fun {X1 Y1 X2 Y2} h1 h2 h=>by
  refine⟨?_,fun g=> ?_⟩
  ·refine(Nat.le_div_iff_mul_le h1).2 ?_
   refine Nat.le_of_mul_le_mul_right ?_ h2;rw[h,Nat.mul_assoc,Nat.mul_comm Y1 Y2,←Nat.mul_assoc];exact Nat.mul_le_mul_right _ (Nat.div_mul_le_self X2 Y2)
  ·obtain⟨k,hk⟩:=Nat.dvd_of_mod_eq_zero g
   have:X1=Y1*k:=by
    refine Nat.eq_of_mul_eq_mul_right h2 ?_;rw[h,hk,Nat.mul_assoc,Nat.mul_comm k Y1,Nat.mul_comm Y2,Nat.mul_assoc]
   rw[this];exact Nat.mul_mod_right _ _
 have a:=key h1 h2 h;have b:=key h2 h1 h.symm;exact⟨Nat.le_antisymm b.1 a.1,b.2,a.2⟩
theorem NI {M d x y:Nat}(hM:M≠0)(e:x=M*y):M*2^d∣x↔2^d∣y:=by
 subst e
 constructor
 ·rintro⟨k,hk⟩
  refine⟨k,Nat.eq_of_mul_eq_mul_left (by omega:0<M) ?_⟩;rw[hk,Nat.mul_assoc]
 ·rintro⟨k,rfl⟩
  exact⟨k,by rw[Nat.mul_assoc]⟩
theorem vP (N M sh:Nat)(E:Int)(s left:Bool)(hM:M≠0)(hl:left=decide (0<N*2^sh % M)):ut (E-sh) N M E (d8 s (N*2^sh/M) (E-sh) left).n 1 (d8 s (N*2^sh/M) (E-sh) left).e:=fun j hj=>by
 obtain⟨d,hd⟩: ∃d:Nat,j=E-sh+d:=⟨(j-(E-sh)).toNat,by omega⟩;subst hd;have c1:=qG (X1:=eZ N (E-(E-sh+d))) (Y1:=dX M (E-(E-sh+d))) (X2:=N*2^sh) (Y2:=M*2^d) (jO hM _) (Nat.mul_pos (by omega) (bG _)) (by
  rw[fw,eM]
  by_cases g:(d:Int)≤sh
  ·rw[show(E-(E-(sh:Int)+(d:Int))).toNat=sh-d from by omega,show(-(E-(E-(sh:Int)+(d:Int)))).toNat=0 from by omega,Nat.pow_zero,Nat.mul_one]
   rw[Nat.mul_assoc,Nat.mul_assoc,Nat.mul_comm M (2^d),←Nat.mul_assoc (2^ (sh-d)),←Nat.pow_add,show sh-d+d=sh from by omega]
  ·rw[show(E-(E-(sh:Int)+(d:Int))).toNat=0 from by omega,show(-(E-(E-(sh:Int)+(d:Int)))).toNat=d-sh from by omega,Nat.pow_zero,Nat.mul_one]
   rw[Nat.mul_assoc N,Nat.mul_comm (2^sh),Nat.mul_assoc M,←Nat.pow_add,show d-sh+sh=d from by omega])
 have hsh:N*2^sh/(M*2^d)=N*2^sh/M/2^d:=(Nat.div_div_eq_div_mul ..).symm;have c2:eZ (d8 s (N*2^sh/M) (E-sh) left).n ((d8 s (N*2^sh/M) (E-sh) left).e-(E-sh+d))=N*2^sh/M*2+(if left=true then 1 else 0):=by
  rw[fw]
  show(N*2^sh/M*2+(if left=true then 1 else 0))*2^ (E-(sh:Int)-1-(E-(sh:Int)+(d:Int))).toNat=_
  rw[show(E-(sh:Int)-1-(E-(sh:Int)+(d:Int))).toNat=0 from by omega,Nat.pow_zero,Nat.mul_one]
 have c3:dX 1 ((d8 s (N*2^sh/M) (E-sh) left).e-(E-sh+d))=2*2^d:=by
  rw[eM]
  show 1*2^ (-(E-(sh:Int)-1-(E-(sh:Int)+(d:Int)))).toNat=_
  rw[show(-(E-(sh:Int)-1-(E-(sh:Int)+(d:Int)))).toNat=d+1 from by omega,Nat.pow_succ,Nat.one_mul,Nat.mul_comm]
 rw[c1.1,c2,c3,hsh];obtain⟨q,hq⟩: ∃q,N*2^sh/M=q:=⟨_,rfl⟩;have hdm:=Nat.div_add_mod (N*2^sh) M;rw[hq] at hdm⊢;have hbit:(q*2+(if left=true then 1 else 0))/2=q:=by cases left<;>simp<;>omega
 refine⟨by rw[←Nat.div_div_eq_div_mul,hbit],c1.2.trans ?_⟩;have e2: ∀x y:Nat,x % y=0↔y∣x:=fun x y=>⟨Nat.dvd_of_mod_eq_zero,Nat.mod_eq_zero_of_dvd⟩
 by_cases h0:N*2^sh % M=0
 ·rw[h0,Nat.add_zero] at hdm
  have hlf:left=false:=by rw[hl,h0];rfl
  subst hlf;rw[e2,e2,NI hM hdm.symm];simp only[Bool.false_eq_true,if_false,Nat.add_zero];rw[Nat.mul_comm q 2]
  constructor
  ·rintro⟨k,hk⟩
   exact⟨k,by rw[hk,Nat.mul_assoc]⟩
  ·rintro⟨k,hk⟩
   exact⟨k,by rw[Nat.mul_assoc] at hk;omega⟩
 ·have hlf:left=true:=by rw[hl];simp;omega
  subst hlf;rw[e2,e2]
  constructor
  ·rintro⟨k,hk⟩
   exfalso
   refine h0 (Nat.mod_eq_zero_of_dvd ⟨2^d*k, ?_⟩);rw[hk,Nat.mul_assoc]
  ·rintro⟨k,hk⟩
   simp only[if_true] at hk;rw[Nat.mul_assoc] at hk;omega
theorem wZ {n k:Nat}(h:bitLen n≤k):n<2^k:=Nat.lt_of_lt_of_le (bitLen_spec n).1 (Nat.pow_le_pow_right (by omega) h)
theorem ac4 {n j:Nat}(h:j<bitLen n):2^j≤n:=Nat.le_of_not_lt fun g=>by
 have:=bF n j g;omega
theorem FC {n k:Nat}(h:n≠0):2^k∣n↔k≤tz n:=by
 obtain⟨m,hm⟩:=fO h
 constructor
 ·intro hd
  by_cases g:k≤tz n
  ·exact g
  exfalso
  obtain⟨c,hc⟩:=hd;have e:2^k=2^tz n*(2*2^ (k-tz n-1)):=by
   rw[←Nat.pow_succ',←Nat.pow_add]
   congr 1
   omega
  have h2:2^tz n*(2*m+1)=2^tz n*(2*(2^ (k-tz n-1)*c)):=by
   refine hm.symm.trans (hc.trans ?_);rw[e,Nat.mul_assoc,Nat.mul_assoc]
  have:=Nat.eq_of_mul_eq_mul_left (bG (tz n)) h2;omega
 ·intro g
  refine⟨2^ (tz n-k)*(2*m+1), ?_⟩;rw[←Nat.mul_assoc,←Nat.pow_add,show k+(tz n-k)=tz n from by omega]
  exact hm
theorem Um (t:ak)(h0:t.n≠0):ut (t.e+((bitLen t.n-128:Nat):Int)) t.n 1 t.e (eQ t).n 1 (eQ t).e:=by
 unfold eQ
 by_cases g:bitLen t.n≤128
 ·rw[if_pos g]
  exact fun j _=>⟨rfl,Iff.rfl⟩
 ·rw[if_neg g]
  obtain⟨sp,hs⟩: ∃s,bitLen t.n-128=s:=⟨_,rfl⟩;rw[hs];have h1:ut (t.e+(sp:Int)) t.n 1 t.e t.n (2^sp) (t.e+(sp:Int)):=fun j _=>by
   refine qG (jO (by omega) _) (jO (by have:=bG sp;omega) _) ?_;rw[fw,fw,eM,eM];rw[Nat.one_mul,Nat.mul_assoc,Nat.mul_assoc,←Nat.pow_add,←Nat.pow_add,←Nat.pow_add];refine congrArg (fun x=>t.n*2^x) ?_
   omega
  have h2:=vP t.n (2^sp) 0 (t.e+(sp:Int)) t.s (decide (tz t.n<sp)) (by have:=bG sp;omega) (by
   rw[Nat.pow_zero,Nat.mul_one,decide_eq_decide];have:=FC (k:=sp) h0;rw[Nat.dvd_iff_mod_eq_zero] at this;omega)
  simp only[Nat.pow_zero,Nat.mul_one,Int.natCast_zero,Int.sub_zero] at h2;have h3:=h1.trans h2;exact h3.mono (by omega)
theorem qY (t:ak)(h0:t.n≠0):(eQ t).n≠0∧(eQ t).s=t.s∧(eQ t).n<2^129∧t.e-1≤(eQ t).e∧(eQ t).e≤t.e+((bitLen t.n-128:Nat):Int):=by
 unfold eQ
 by_cases g:bitLen t.n≤128
 ·rw[if_pos g]
  exact⟨h0,rfl,wZ (by omega),by omega,by omega⟩
 ·rw[if_neg g]
  obtain⟨sp,hs⟩: ∃s,bitLen t.n-128=s:=⟨_,rfl⟩;rw[hs];have l1:2^ (sp+127)≤t.n:=ac4 (by omega);have l2:t.n<2^ (sp+128):=wZ (by omega);have d1:2^127≤t.n/2^sp:=(Nat.le_div_iff_mul_le (bG sp)).2 (by rw[←Nat.pow_add,Nat.add_comm];exact l1);have d2:t.n/2^sp<2^128:=(Nat.div_lt_iff_lt_mul (bG sp)).2 (by rw[←Nat.pow_add,Nat.add_comm];exact l2);generalize t.n/2^sp=q at d1 d2;refine⟨?_,rfl, ?_, ?_, ?_⟩
  ·show q*2+(if decide (tz t.n<sp)=true then 1 else 0)≠0
   have:0<2^127:=bG _;omega
  ·show q*2+(if decide (tz t.n<sp)=true then 1 else 0)<2^129
   have e:2^129=2^128*2:=Nat.pow_succ ..;have:(if decide (tz t.n<sp)=true then 1 else 0)≤1:=by split<;>omega
   omega
  ·show t.e-1≤t.e+(sp:Int)-1
   omega
  ·show t.e+(sp:Int)-1≤t.e+(sp:Int)
   omega
def rtE (t:ak):Int:=min (max (eQ t).e (-20000)) 20000
def rtN (t:ak):Nat:=(eQ t).n*2^ ((eQ t).e-rtE t).toNat
def rtM (t:ak):Nat:=2^ (rtE t-(eQ t).e).toNat
theorem aba (t:ak)(h0:t.n≠0):ut (t.e+((bitLen t.n-128:Nat):Int)) t.n 1 t.e (rtN t) (rtM t) (rtE t):=by
 refine((Um t h0).trans (K:=t.e+((bitLen t.n-128:Nat):Int)) ?_).mono (by omega);refine fun j _=>qG (jO (by omega) _) (jO (by unfold rtM;have:=bG (rtE t-(eQ t).e).toNat;omega) _) ?_
 unfold rtN rtM;generalize rtE t=r;rw[fw,fw,eM,eM];rw[Nat.one_mul,Nat.mul_assoc,Nat.mul_assoc,Nat.mul_assoc,←Nat.pow_add,←Nat.pow_add,←Nat.pow_add,←Nat.pow_add]
 congr 2
 omega
theorem X3 {R D L G:Int}{gr:Bool}{way:Int}(t:ak)(h0:t.n≠0)(hD:1≤D)(hw:ai R*D.toNat≤64):
  cI R D L G gr t.s (rtN t) (rtM t) (rtE t) way=cI R D L G gr t.s t.n 1 t.e way:=by
 have hm:rtM t≠0:=by unfold rtM;have:=bG (rtE t-(eQ t).e).toNat;omega
 have hn:rtN t≠0:=by
  unfold rtN;have h1:=(qY t h0).1;have h2:=bG ((eQ t).e-rtE t).toNat;exact Nat.mul_ne_zero h1 (by omega)
 by_cases hb:bitLen t.n≤128
 ·--nothing is lost
  have hl:ut (t.e-70) t.n 1 t.e (rtN t) (rtM t) (rtE t):=by
   have hk:eQ t=t:=if_pos hb;refine fun j _=>qG (jO (by omega) _) (jO hm _) ?_
   unfold rtN rtM;rw[hk];generalize rtE t=r;rw[fw,fw,eM,eM];rw[Nat.one_mul,Nat.mul_assoc,Nat.mul_assoc,Nat.mul_assoc,←Nat.pow_add,←Nat.pow_add,←Nat.pow_add,←Nat.pow_add]
   congr 2
   omega
  refine(AC h0 (by omega) hn hm hD hw hl ?_).symm;rw[lU h0];have:bitLen t.n≠0:=fun h=>by
   have:=wZ (Nat.le_of_eq h);rw[Nat.pow_zero] at this;omega
  omega
 ·refine(AC h0 (by omega) hn hm hD hw (aba t h0) ?_).symm
  rw[lU h0];omega
open Go.RowKit
abbrev dsk (k:Nat)(wy:Int):Value:=(ykV k wy (dK k) (rdN k) (dgN k) (lsI k) (gsI k) (decide (k≤3)))
theorem aa0 {w:World}{q r:Nat}(h:w.cell? ⟨q,0,none⟩=some (.int .u32 r)):Rd w .u32 (.slice (some ⟨q,0,none⟩) 1 1) [r]:=
 ⟨_,1,rfl,Nat.le_refl _,by unfold maxLen;omega,fun _=>⟨q,0,rfl,fun i hi=>by
  obtain rfl:i=0:=by simpa using hi
  exact h⟩⟩
theorem Ba (k:Nat)(hk:1≤k∧k≤8)(wy:Int)(ng:Bool)(w:World):yC 136 #[dsk k wy,.bool ng] w (iT w 2 ng (rdN k^dgN k-1) (gsI k)):=by
 have hr:(rdN k=2∨rdN k=16)∧dgN k≤64:=by rcases bO hk with rfl|rfl|rfl|rfl|rfl|rfl|rfl|rfl<;>decide
 have hd:Dg.dg 4294967296 (rdN k)=[rdN k]:=by rcases hr.1 with h|h<;>rw[h]<;>rfl
 have hp:1≤rdN k^dgN k:=Nat.pow_pos (by omega);have hl:(Dg.dg 4294967296 (rdN k^dgN k)).length≤64:=by
  have h4:rdN k^dgN k<2^ (4*dgN k+1):=by
   have:rdN k^dgN k≤16^dgN k:=Nat.pow_le_pow_left (by omega) _;have e:(16:Nat)^dgN k=2^ (4*dgN k):=by rw[Nat.pow_mul]
   rw[Nat.pow_succ];have:=bG (4*dgN k);omega
  exact jq h4 (by omega)
 have hn:(Dg.dg 4294967296 (rdN k^dgN k)).length≠0:=fun h=>by
  have:=(Dg.dg_nil_iff 4294967296 (rdN k^dgN k) (by omega)).1 (List.length_eq_zero_iff.1 h);omega
 refine QM k wy (dK k) (rdN k) (dgN k) (lsI k) (gsI k) (decide (k≤3)) ng (rdN k) (rdN k^dgN k) w ?_ (fun q w1 _ hq=> ?_) (fun vo vc q w1 hv hq=> ?_)
 ·rcases hr.1 with h|h<;>rw[h]<;>rfl
 ·have h1:=aa0 hq
  rw[←hd] at h1;exact Iq _ (rdN k) (dgN k) 1 w1 h1 (by omega) (by omega) (by omega) (by omega)
 ·have:=zL (.slice vo (Dg.dg 4294967296 (rdN k^dgN k)).length vc) (.slice (some ⟨q,0,none⟩) 1 1) (Dg.dg 4294967296 (rdN k^dgN k)) [1] w1 hv (xD hq) (Dg.small_dg _ _ (by omega)) (Dg.small_cons.2 ⟨by omega,Dg.small_nil _ (by omega)⟩) (by omega) (by simp;omega) (by rw[Dg.vl_dg _ _ (by omega),show Dg.vl 4294967296 [1]=1 from rfl];exact hp)
  rwa [Dg.vl_dg _ _ (by omega),show Dg.vl 4294967296 [1]=1 from rfl] at this
def ovV (k:Nat)(wy:Int)(ng:Bool):Int×Bool×Nat×Int:=
 if dK k=3 then(5,false,0,0) else if dK k=1∧aaV wy ng=true then(3,ng,0,0) else(2,ng,rdN k^dgN k-1,gsI k)
theorem qt {k:Nat}(hk:1≤k∧k≤8):dK k=1∨dK k=2∨dK k=3:=by
 rcases bO hk with rfl|rfl|rfl|rfl|rfl|rfl|rfl|rfl<;>decide
theorem Pw (k:Nat)(hk:1≤k∧k≤8)(wy:Int)(hw:1≤wy∧wy≤5)(ng:Bool)(w:World):yC 89 #[dsk k wy,.bool ng] w (iT w (ovV k wy ng).1 (ovV k wy ng).2.1 (ovV k wy ng).2.2.1 (ovV k wy ng).2.2.2):=by
 unfold ovV;have HG:=fun w1=>Ba k hk wy ng w1
 unfold dsk at HG⊢
 rcases qt hk with h|h|h
 ·rw[h] at HG⊢
  rw[if_neg (by decide)]
  by_cases ho:aaV wy ng=true
  ·rw[if_pos ⟨rfl,ho⟩]
   exact abM _ _ _ _ _ _ _ _ w (fun w1=>by have:=CT k wy 1 (rdN k) (dgN k) (lsI k) (gsI k) (decide (k≤3)) ng hw w1;rw[ho] at this;exact this)
  ·rw[if_neg (fun c=>ho c.2)]
   exact abN _ _ _ _ _ _ _ _ _ w (fun w1=>by have:=CT k wy 1 (rdN k) (dgN k) (lsI k) (gsI k) (decide (k≤3)) ng hw w1;rw[show aaV wy ng=false by simpa using ho] at this;exact this) (fun w1 _=>HG w1)
 ·rw[h] at HG⊢
  rw[if_neg (by decide),if_neg (fun c=>absurd c.1 (by decide))]
  exact ado _ _ _ _ _ _ _ _ _ w (fun w1 _=>HG w1)
 ·rw[h,if_pos rfl]
  exact adn _ _ _ _ _ _ _ _ w (fun w1=>A5 3 (.inr (.inr rfl)) w1)
def pG (k:Nat)(wy:Int)(P:fz):Int×Bool×Nat×Int×Int:=
 if P.ov=true then((ovV k wy P.s).1,(ovV k wy P.s).2.1,(ovV k wy P.s).2.2.1,(ovV k wy P.s).2.2.2,5)
 else if P.un=true∧P.p<lsI k then(1,false,0,0,3)
 else((if P.d=0 then 1 else 2),P.s,P.d,P.p,if P.ex=true then 0 else if P.un=true then 3 else 1)
theorem Px (k:Nat)(hk:1≤k∧k≤8)(wy:Int)(hw:1≤wy∧wy≤5)(P:fz)(ao:Option Addr)(ca:Nat)(w:World)(hr:Rd w .u32 (yT ao P.d ca) (Dg.dg 4294967296 P.d)):
  yC 46 #[dsk k wy,ypV P.s (yT ao P.d ca) P.p P.ex P.ov P.un] w (B6 w (pG k wy P).1 (pG k wy P).2.1 (pG k wy P).2.2.1 (pG k wy P).2.2.2.1 (pG k wy P).2.2.2.2):=by
 obtain⟨ps,pd,pp,ex,ov,un⟩:=P;unfold pG;simp only at hr⊢
 cases ov
 ·rw[if_neg (by decide)]
  by_cases hl:un=true∧pp<lsI k
  ·rw[if_pos hl]
   obtain⟨rfl,hl⟩:=hl;exact OU _ _ _ _ _ _ _ _ _ _ _ _ _ _ w hl
  ·rw[if_neg hl]
   have hz:(if pd=0 then(1:Int) else 2)=if(Dg.dg 4294967296 pd).length=0 then 1 else 2:=by
    by_cases h:pd=0
    ·rw[if_pos h,if_pos (by rw[h];rfl)]
    ·rw[if_neg h,if_neg (fun c=>h ((Dg.dg_nil_iff 4294967296 pd (by omega)).1 (List.length_eq_zero_iff.1 c)))]
   exact Id _ _ _ _ _ _ _ _ _ _ _ _ _ _ _ pd w rfl hr (fun h c=>hl ⟨h,c⟩) _ _ hz rfl
 ·rw[if_pos rfl]
  exact Lr _ _ _ _ _ _ _ _ _ _ _ _ _ _ _ _ _ _ _ w (fun w1 _=>Pw k hk wy hw ps w1)
def Dw (k:Nat)(c:Int)(g:Bool)(m:Nat)(p fl:Int):ByteArray×Int×Int:=
 if gI k c g (Dg.dg 4294967296 m) p=0 then(fq k c g (Dg.dg 4294967296 m) p,fl,0) else(⟨#[]⟩,0,gI k c g (Dg.dg 4294967296 m) p)
abbrev mM (r:ByteArray×Int×Int)(w:World)(z:Ending)(w':World):Prop:=z= .returned (.tuple #[.string r.1,yi r.2.1,yi r.2.2])∧yB w w'
theorem CZ (k:Nat)(wy c p fl:Int)(g:Bool)(m:Nat)(ao:Option Addr)(ca:Nat)(w:World)(hr:Rd w .u32 (yT ao m ca) (Dg.dg 4294967296 m))(hT:Tab w):
  yC 45 #[dsk k wy,yvV c g (yT ao m ca) p,yi fl] w (mM (Dw k c g m p fl) w):=by
 have:=It k wy (dK k) (rdN k) (dgN k) (lsI k) (gsI k) c p fl _ (decide (k≤3)) g ao (Dg.dg 4294967296 m).length ca _ w (fun w1 b1=>jj k c g ao ca (Dg.dg 4294967296 m) p w1 (hr.l b1) (Dg.small_dg _ _ (by omega)) (hT.l b1))
 refine this.mono (fun z w' h=>⟨?_,h.2⟩)
 rw[h.1];unfold Dw
 by_cases c0:gI k c g (Dg.dg 4294967296 m) p=0
 ·rw[if_pos c0,if_pos c0]
 ·rw[if_neg c0,if_neg c0]
theorem XA (t:ak)(to0:Option Addr)(tc:Nat)(w:World)(hr:Rd w .u32 (yT to0 t.n tc) (Dg.dg 4294967296 t.n))(hb:bitLen t.n≤100000)(e1: -100000≤t.e)(e2:t.e≤100000)(hT:Tab w):
  yC 144 #[yDV t to0 tc,yi 128] w fun z w'=> ∃v,z= .returned (.agg #[.bool (eQ t).s,v,yi (eQ t).e])∧Rd w' .u32 v (Dg.dg 4294967296 (eQ t).n)∧yB w w':=by
 have hL:(Dg.dg 4294967296 t.n).length≤100000:=jq (wZ (Nat.le_refl _)) (by omega)
 by_cases hs:bitLen t.n≤128
 ·rw[show eQ t=t from if_pos hs]
  exact(EQ t to0 tc w hr hL hs).mono (fun z w' h=>⟨_,h.1,hr.l h.2,h.2⟩)
 ·have h0:t.n≠0:=fun h=>hs (by rw[h];exact Nat.le_of_lt_succ (by rw[show bitLen 0=0 from rfl];omega))
  obtain⟨sp,hsp⟩: ∃s:Nat,bitLen t.n-128=s:=⟨_,rfl⟩;have hk:eQ t=d8 t.s (t.n/2^sp) (t.e+(sp:Int)) (decide (tz t.n<sp)):=by
   unfold eQ;rw[if_neg hs,hsp]
  rw[hk];have hL2:(Dg.dg 4294967296 (t.n/2^sp)).length≤100000:=Nat.le_trans (aH 4294967296 _ _ (by omega) (Nat.div_le_self _ _)) hL;refine adz t _ to0 tc (t.n/2^sp) (bitLen t.n:Int) (sp:Int) (-(sp:Int)) (tz t.n:Int) (t.e+(sp:Int)) w ?_ (by omega) ?_ ?_ (fun w1=>cN _ _ _ _ _ w1) (fun w1 b=> ?_) (fun w1 b=> ?_) (fun w1 b=> ?_) (fun mo mc w1 hm=> ?_)
  ·rw[show((bitLen t.n:Nat):Int)-128=(sp:Int) from by omega]
   exact IntWalk.i64_in _ ⟨by omega,by omega⟩
  ·exact IntWalk.i64_in _ ⟨by omega,by omega⟩
  ·exact IntWalk.i64_in _ ⟨by omega,by omega⟩
  ·have:=kE _ (Dg.dg 4294967296 t.n) w1 (hr.l b) (Dg.small_dg _ _ (by omega)) (Dg.norm_dg _ _ (by omega)) (by omega)
   rwa [Dg.vl_dg _ _ (by omega)] at this
  ·have:=Gl _ t.n w1 (hr.l b) (by omega) (hT.l b)
   rwa [if_neg h0] at this
  ·have:=eO _ (Dg.dg 4294967296 t.n) (-(sp:Int)) w1 (hr.l b) (Dg.small_dg _ _ (by omega)) (by omega) (by omega) (by omega)
   rwa [Dg.vl_dg _ _ (by omega),show shN t.n (-(sp:Int))=t.n/2^sp from by
    unfold shN;rw[if_pos (by omega),show(-(-(sp:Int))).toNat=sp from by omega]] at this
  ·have:=xG t.s _ (t.n/2^sp) (t.e+(sp:Int)) (decide ((tz t.n:Int)< (sp:Int))) w1 hm (by omega) (by omega) (by omega)
   rwa [show decide ((tz t.n:Int)< (sp:Int))=decide (tz t.n<sp) from decide_eq_decide.2 (by omega)] at this⊢
def gtT (k:Nat)(ng:Bool):ak:=bare ⟨ng,rdN k^dgN k-1,(ai (rdN k):Int)*gsI k⟩
def plV (k:Nat)(wy:Int)(P:fz):Int×Bool×ak×Int:=
 if P.ov=true then(if dK k=3 then(5,false,⟨false,0,0⟩,5) else if dK k=1∧aaV wy P.s=true then(3,P.s,⟨false,0,0⟩,5) else(2,P.s,gtT k P.s,5))
 else if P.un=true∧P.p<lsI k then(1,false,⟨false,0,0⟩,3)
 else if P.d=0 then(1,P.s,⟨false,0,0⟩,if P.ex=true then 0 else if P.un=true then 3 else 1)
 else(2,P.s,bare ⟨P.s,P.d,(ai (rdN k):Int)*P.p⟩,if P.ex=true then 0 else if P.un=true then 3 else 1)
structure Plc (k:Nat) (P:fz):Prop where
 low:dK k=1→P.p<lsI k→P.ov=true
 same:dK k≠1→P.ov=false→P.un=true→P.ex=true→P.p<lsI k
 nil:P.ov=false→P.d=0→dK k=1
 len:(Dg.dg 65536 P.d).length≤100000
 far:P.ov=false→(P.un=true∧P.p<lsI k)∨(-17000≤P.p∧P.p≤17000)
def sH (t:ak):Prop:= -50000≤t.e∧t.e+(bitLen t.n:Int)≤50000
theorem ab7 {t:ak}(h0:t.n≠0)(h:sH t):(Dg.dg 4294967296 (rtN t)).length≤1200∧(Dg.dg 4294967296 (rtM t)).length≤1200∧ -20000≤rtE t∧rtE t≤20000:=by
 obtain⟨h1,h2⟩:=h;obtain⟨k1,k2,k3,k4,k5⟩:=qY t h0;have hk:(eQ t).e≤50000:=by
  by_cases g:bitLen t.n≤128
  ·rw[show eQ t=t from if_pos g]
   omega
  ·omega
 have hE: -20000≤rtE t∧rtE t≤20000:=by unfold rtE;omega
 refine⟨?_, ?_,hE⟩
 ·have:rtN t<2^ (129+((eQ t).e-rtE t).toNat):=by
   unfold rtN;rw[Nat.pow_add];exact Nat.mul_lt_mul_of_pos_right k3 (bG _)
  exact jq this (by unfold rtE;omega)
 ·have:rtM t<2^ ((rtE t-(eQ t).e).toNat+1):=by
   unfold rtM;exact Nat.pow_lt_pow_right (by omega) (by omega)
  exact jq this (by unfold rtE;omega)
theorem NV (t:ak)(to0:Option Addr)(tc:Nat)(w:World)(h0:t.n≠0)(hn:sH t)(hr:Rd w .u32 (yT to0 t.n tc) (Dg.dg 4294967296 t.n))(hT:Tab w):
  yC 102 #[yDV t to0 tc] w (Kx w t.s (rtN t) (rtM t) (rtE t)):=by
 obtain⟨h1,h2⟩:=hn;obtain⟨k1,k2,k3,k4,k5⟩:=qY t h0;have hk:(eQ t).e≤50000:=by
  by_cases g:bitLen t.n≤128
  ·rw[show eQ t=t from if_pos g]
   omega
  ·omega
 have hL:(Dg.dg 4294967296 (eQ t).n).length≤5:=jq k3 (by omega);have HK:=fun w1 (b:yB w w1)=>XA t to0 tc w1 (hr.l b) (by omega) (by omega) (by omega) (hT.l b)
 have hmx:min (max (eQ t).e (-20000)) 20000=rtE t:=by rw[rtE]
 have key:yC 102 #[yDV t to0 tc] w (Kx w (eQ t).s (rtN t) (rtM t) (rtE t)):=by
  by_cases hlt:rtE t< (eQ t).e
  ·have h20:rtE t=20000∨rtE t= -20000:=by unfold rtE at hlt⊢;omega
   refine Ct t (eQ t) to0 tc (rtE t) ((eQ t).e-rtE t) (rtN t) (rtM t) w hmx HK (fun _=>⟨IntWalk.i64_in _ ⟨by omega,by omega⟩, ?_,fun ko kc w1 hk2=> ?_⟩) (fun h=>by omega)
   ·unfold rtM
    rw[show(rtE t-(eQ t).e).toNat=0 from by omega,Nat.pow_zero]
   ·have:=eO _ (Dg.dg 4294967296 (eQ t).n) ((eQ t).e-rtE t) w1 hk2 (Dg.small_dg _ _ (by omega)) (by omega) (by omega) (by omega)
    rwa [Dg.vl_dg _ _ (by omega),show shN (eQ t).n ((eQ t).e-rtE t)=rtN t from by unfold shN rtN;rw[if_neg (by omega)]] at this
  ·have hE: -20000≤rtE t∧rtE t≤20000:=by unfold rtE;omega
   refine Ct t (eQ t) to0 tc (rtE t) (rtE t-(eQ t).e) (rtN t) (rtM t) w hmx HK (fun h=>by omega) (fun _=>⟨IntWalk.i64_in _ ⟨by omega,by omega⟩, ?_,fun q w1 hq=> ?_⟩)
   ·unfold rtN
    rw[show((eQ t).e-rtE t).toNat=0 from by omega,Nat.pow_zero,Nat.mul_one]
   ·have:=eO (.slice (some ⟨q,0,none⟩) 1 1) [1] (rtE t-(eQ t).e) w1 (xD hq) (Dg.small_cons.2 ⟨by omega,Dg.small_nil _ (by omega)⟩) (by simp) (by omega) (by omega)
    rwa [show Dg.vl 4294967296 [1]=1 from rfl,show shN 1 (rtE t-(eQ t).e)=rtM t from by unfold shN rtM;rw[if_neg (by omega),Nat.one_mul]] at this
 rw[k2] at key;exact key
def fY (k:Nat)(wy:Int)(t:ak):fz:=cI (rdN k) (dgN k) (lsI k) (gsI k) (decide (k≤3)) t.s t.n 1 t.e wy
theorem VA (k:Nat)(hk:1≤k∧k≤8)(wy:Int)(hw:1≤wy∧wy≤5)(t:ak)(h0:t.n≠0)(hn:sH t):
  eE (Dg.dg 4294967296 (rtN t)) (Dg.dg 4294967296 (rtM t)) (rtE t) (rdN k) (dgN k) (lsI k) (gsI k) wy=0∧df (Dg.dg 4294967296 (rtN t)) (Dg.dg 4294967296 (rtM t)) (rtE t) (rdN k) (dgN k) (lsI k) (gsI k) (decide (k≤3)) t.s wy=fY k wy t:=by
 obtain⟨l1,l2,l3,l4⟩:=ab7 h0 hn;obtain⟨-,-,d1,-,-,-,-,-,w64,-,-,hg⟩:=eR hk;have hm:rtM t≠0:=by unfold rtM;have:=bG (rtE t-(eQ t).e).toNat;omega
 have hnn:rtN t≠0:=by
  unfold rtN;exact Nat.mul_ne_zero (qY t h0).1 (by have:=bG ((eQ t).e-rtE t).toNat;omega)
 have ne: ∀{x:Nat},x≠0→(Dg.dg 4294967296 x).length≠0:=fun {x} h c=>h ((Dg.dg_nil_iff 4294967296 x (by omega)).1 (List.length_eq_zero_iff.1 c))
 have hC:eE (Dg.dg 4294967296 (rtN t)) (Dg.dg 4294967296 (rtM t)) (rtE t) (rdN k) (dgN k) (lsI k) (gsI k) wy=0:=by
  have hno: ¬((Dg.dg 4294967296 (rtM t)).length=0∨eJ 20000 (rtE t)=true):=fun c=>by
   rcases c with c|c
   ·exact ne hm c
   ·unfold eJ at c
    simp at c;omega
  have hq:eA (Dg.dg 4294967296 (rtN t)) (Dg.dg 4294967296 (rtM t)) (rtE t)=0:=by
   unfold eA;rw[if_pos (pJ (Dg.norm_dg _ _ (by omega)) l1),if_pos (pJ (Dg.norm_dg _ _ (by omega)) l2),if_neg hno]
  have hy:iC wy=true:=by unfold iC;simpa using hw
  have hwg:jg (eA (Dg.dg 4294967296 (rtN t)) (Dg.dg 4294967296 (rtM t)) (rtE t)) (bk (rdN k) (dgN k) (lsI k) (gsI k))=0:=by
   unfold jg;rw[if_pos hq,hg]
  unfold eE;rw[if_pos hwg,if_pos hy]
 refine⟨hC, ?_⟩;unfold df;rw[if_pos hC,if_neg (ne hnn),Dg.vl_dg _ _ (by omega),Dg.vl_dg _ _ (by omega)];exact X3 t h0 (by omega) (by rw[Int.toNat_natCast];exact w64)
def m8 (k:Nat)(wy c:Int)(g:Bool)(t:ak)(fl:Int):ByteArray×Int×Int:=
 if c=2 then Dw k (pG k wy (fY k wy t)).1 (pG k wy (fY k wy t)).2.1 (pG k wy (fY k wy t)).2.2.1 (pG k wy (fY k wy t)).2.2.2.1 (bits .or .i64 fl (pG k wy (fY k wy t)).2.2.2.2)
 else if c=1 then Dw k 1 (g&&decide (dK k=1)) 0 0 fl else Dw k c g 0 0 fl
theorem AJ (k:Nat)(hk:1≤k∧k≤8)(wy:Int)(hw:1≤wy∧wy≤5)(c fl:Int)(g:Bool)(t:ak)(ro:Option Addr)(rc:Nat)(w:World)(hc:c=2→t.n≠0∧sH t)(hr:Rd w .u32 (yT ro t.n rc) (Dg.dg 4294967296 t.n))(hT:Tab w):
  yC 58 #[dsk k wy,yOV c g t ro rc,yi fl] w (mM (m8 k wy c g t fl) w):=by
 unfold m8
 by_cases h2:c=2
 ·subst h2
  rw[if_pos rfl];obtain⟨h0,hn⟩:=hc rfl;obtain⟨p1,p2⟩:=VA k hk wy hw t h0 hn;refine El k wy (dK k) (rdN k) (dgN k) (lsI k) (gsI k) fl (decide (k≤3)) g t ro rc t.s (rtN t) (rtM t) (rtE t) (fY k wy t).s (fY k wy t).d (fY k wy t).p (fY k wy t).ex (fY k wy t).ov (fY k wy t).un _ _ _ _ _ _ _ _ _ w rfl (fun w1 b=>NV t ro rc w1 h0 hn (hr.l b) (hT.l b)) (fun no nc mo mc w1 b r1 r2=> ?_) (fun po pc w1 b r1=>Px k hk wy hw (fY k wy t) po pc w1 r1) (fun vo vc w1 b r1=>CZ k wy _ _ _ _ _ vo vc w1 r1 (hT.l b))
  have:=jM t.s no nc (Dg.dg 4294967296 (rtN t)) mo mc (Dg.dg 4294967296 (rtM t)) (rtE t) (rdN k) (dgN k) (lsI k) (gsI k) (decide (k≤3)) wy w1 r1 r2 (Dg.small_dg _ _ (by omega)) (Dg.small_dg _ _ (by omega));rw[p1,p2] at this;exact this.mono (fun z w' h=>by
   obtain⟨v,rfl,own,b2⟩:=h;obtain⟨po,pc,hv⟩:=own.rd.shape;subst hv;exact⟨po,pc,rfl,own.rd,b2⟩)
 ·rw[if_neg h2]
  have HE:=fun c' g' w1 (b:yB w w1)=>CZ k wy c' 0 fl g' 0 none 0 w1 (aN _ _) (hT.l b)
  by_cases h1:c=1
  ·subst h1
   rw[if_pos rfl]
   cases g
   ·exact VF _ _ _ _ _ _ _ _ _ _ _ _ _ _ _ w (fun w1 b=>HE 1 false w1 b)
   ·rcases qt hk with hf|hf
    ·rw[hf]
     unfold dsk;rw[hf];exact VG _ _ _ _ _ _ _ _ _ _ _ _ _ _ w (fun w1 b=>by have:=HE 1 true w1 b;unfold dsk at this;rw[hf] at this;exact this)
    ·rw[decide_eq_false (by omega)]
     exact VH _ _ _ _ _ _ _ _ _ _ _ _ _ _ _ w (by simp;omega) (fun w1 b=>HE 1 false w1 b)
  ·rw[if_neg h1]
   exact Rj c g _ _ _ _ _ _ _ _ _ _ _ _ _ _ _ w (by simpa using h2) (by simpa using h1) (fun w1 b=>HE c g w1 b)
end Go.Proofs.YtbdokgamhinajaaGreatDoor
