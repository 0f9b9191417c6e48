/-
  Texts laid together: Rk3.
-/
import Derived.OrdersHeld
import Derived.Test.YtnhackdjplppjaaGreatDoorUb01
namespace Go.Proofs.YtnhackdjplppjaaGreatDoor
theorem Te {m d r:Nat}(h:fJ (m*2^ (2*d)) 2 r):fJ m 2 (r/2^d)∧(r/2^d*(r/2^d)=m↔r*r=m*2^ (2*d)∧r % 2^d=0):=by
 obtain⟨h1,h2⟩:=h;have hp:=bG d;have e2:(2:Nat)^ (2*d)=2^d*2^d:=by rw[←Nat.pow_add];congr 1;omega
 obtain⟨P,hP⟩: ∃P,(2:Nat)^d=P:=⟨_,rfl⟩;rw[e2,hP] at h1 h2⊢;rw[hP] at hp;rw[Nat.pow_two] at h1 h2;have hd:=Nat.div_add_mod r P;have hm:=Nat.mod_lt r hp;obtain⟨q,hq⟩: ∃q,r/P=q:=⟨_,rfl⟩;obtain⟨z,hz⟩: ∃z,r % P=z:=⟨_,rfl⟩;rw[hq,hz] at hd;rw[hz] at hm;rw[hq,hz];have s1:P*q*(P*q)=q*q*(P*P):=by rw[Nat.mul_mul_mul_comm,Nat.mul_comm]
 have a1:q*q≤m:=by
  refine Nat.le_of_mul_le_mul_right (c:=P*P) ?_ (Nat.mul_pos hp hp);rw[←s1];exact Nat.le_trans (Nat.mul_le_mul (by omega) (by omega)) h1
 have a2:m< (q+1)*(q+1):=by
  refine Nat.lt_of_mul_lt_mul_right (a:=P*P) ?_;refine Nat.lt_of_lt_of_le h2 ?_;have:r+1≤P*(q+1):=by rw[Nat.mul_add];omega
  have s2:P*(q+1)*(P*(q+1))=(q+1)*(q+1)*(P*P):=by rw[Nat.mul_mul_mul_comm,Nat.mul_comm]
  rw[←s2];exact Nat.mul_le_mul this this
 refine⟨⟨by rw[Nat.pow_two];exact a1,by rw[Nat.pow_two];exact a2⟩, ?_, ?_⟩
 ·intro e
  have e3:m*(P*P)=P*q*(P*q):=by rw[s1,e]
  rw[e3] at h1 h2;have b1:r≤P*q:=by
   rcases Nat.lt_or_ge (P*q) r with g|g
   ·have:=Nat.mul_lt_mul'' g g
    omega
   ·exact g
  exact⟨by rw[e3,show r=P*q from by omega],by omega⟩
 ·rintro⟨e,rfl⟩
  have:r=P*q:=by omega
  subst this;rw[s1] at e;exact Nat.eq_of_mul_eq_mul_right (Nat.mul_pos hp hp) e
theorem adU {n s1 s2 r1 r2 d:Nat}{e x1 x2:Int}{s:Bool}(hs:s2=s1+2*d)(h1:fJ (n*2^s1) 2 r1)(h2:fJ (n*2^s2) 2 r2)(e1:2*x1=e-s1)(e2:2*x2=e-s2):
  ut x1 (d8 s r2 x2 (decide (r2*r2<n*2^s2))).n 1 (d8 s r2 x2 (decide (r2*r2<n*2^s2))).e (d8 s r1 x1 (decide (r1*r1<n*2^s1))).n 1 (d8 s r1 x1 (decide (r1*r1<n*2^s1))).e:=by
 have hx:x1=x2+d:=by omega
 have hm:n*2^s2=n*2^s1*2^ (2*d):=by rw[hs,Nat.pow_add,Nat.mul_assoc]
 rw[hm] at h2⊢;obtain⟨g1,g2⟩:=Te h2;have hr:r1=r2/2^d:=by
  have one: ∀{u v:Nat},fJ (n*2^s1) 2 u→fJ (n*2^s1) 2 v→u≤v:=fun {u v} hu hv=>by
   rcases Nat.lt_or_ge v u with h|h
   ·exfalso
    have k1:(v+1)^2≤u^2:=Nat.pow_le_pow_left h 2;have k2:=hu.1;have k3:=hv.2;omega
   ·exact h
  exact Nat.le_antisymm (one h1 g1) (one g1 h1)
 have q2:=h2.1;have q1:=h1.1;rw[Nat.pow_two] at q1 q2;obtain⟨l2,hl2⟩: ∃l,decide (r2*r2<n*2^s1*2^ (2*d))=l:=⟨_,rfl⟩;obtain⟨l1,hl1⟩: ∃l,decide (r1*r1<n*2^s1)=l:=⟨_,rfl⟩;have hll:l1=decide (0< (r2*2+(if l2=true then 1 else 0))*2^0 % (2*2^d)):=by
  rw[←hl1,Nat.pow_zero,Nat.mul_one,decide_eq_decide];rw[←hr] at g2;have hz:(r2*2+(if l2=true then 1 else 0)) % (2*2^d)=0↔l2=false∧r2 % 2^d=0:=by
   cases l2
   ·simp only[Bool.false_eq_true,if_false,Nat.add_zero,true_and]
    rw[Nat.mul_comm r2 2,Nat.mul_mod_mul_left];omega
   ·simp only[if_true,Bool.true_eq_false,false_and,iff_false]
    intro g;obtain⟨k,hk⟩:=Nat.dvd_of_mod_eq_zero g;rw[Nat.mul_assoc] at hk;omega
  have hl:l2=false↔r2*r2=n*2^s1*2^ (2*d):=by
   rw[←hl2,decide_eq_false_iff_not];omega
  rw[hl] at hz
  constructor
  ·intro g
   rcases Nat.eq_zero_or_pos ((r2*2+(if l2=true then 1 else 0)) % (2*2^d)) with k|k
   ·have:=g2.2 (hz.1 k)
    omega
   ·exact k
  ·intro g
   rcases Nat.lt_or_ge (r1*r1) (n*2^s1) with k|k
   ·exact k
   ·have:=hz.2 (g2.1 (by omega))
    omega
 have key:=vP (r2*2+(if l2=true then 1 else 0)) (2*2^d) 0 x1 s l1 (by have:=bG d;omega) hll
 rw[hl2,hl1];have hq:(r2*2+(if l2=true then 1 else 0))*2^0/(2*2^d)=r1:=by
  rw[Nat.pow_zero,Nat.mul_one,←Nat.div_div_eq_div_mul,hr]
  congr 1
  cases l2<;>simp<;>omega
 rw[hq] at key;simp only[Int.natCast_zero,Int.sub_zero] at key;refine(ut.trans (J:=x1) ?_ key).mono (by omega);refine fun j _=>qG (jO (by omega) _) (jO (by have:=bG d;omega) _) ?_
 show eZ (r2*2+(if l2=true then 1 else 0)) (x2-1-j)*dX (2*2^d) (x1-j)=eZ (r2*2+(if l2=true then 1 else 0)) (x1-j)*dX 1 (x2-1-j)
 generalize r2*2+(if l2=true then 1 else 0)=y
 rw[fw,fw,eM,eM,←Nat.pow_succ',Nat.one_mul,Nat.mul_assoc,Nat.mul_assoc,←Nat.pow_add,←Nat.pow_add,←Nat.pow_add];refine congrArg (fun z=>y*2^z) ?_
 omega
end Go.Proofs.YtnhackdjplppjaaGreatDoor
