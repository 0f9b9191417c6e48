/-
  Texts laid together: Rr1, Rk3.
-/
import Derived.Test.YtnhackdjplppjaaGreatDoorUd02
set_option maxRecDepth 100000
set_option maxHeartbeats 1600000
namespace Go.Proofs.YtnhackdjplppjaaGreatDoor
open _root_.Go.Proofs.Tryz
open Go.RowKit
theorem GU {w:World}{v:Value}{n:Nat}(h:Rd w .i64 v (Dg.dg 65536 n)):(Classical.epsilon fun n=>Rd w .i64 v (Dg.dg 65536 n))=n:=
 Dg.dg_inj 65536 _ _ (by omega) (Sm (Classical.epsilon_spec (p:=fun n=>Rd w .i64 v (Dg.dg 65536 n)) ⟨n,h⟩) h)
def acL (w:World)(a n:Nat)(rv:Value)(wr:World):Prop:=
 ∃x,Rd wr .i64 rv (Dg.dg 65536 x)∧C0 a 2 x∧x≤2^n∧yB w wr
theorem ae1 (a x:Nat):mQ a x 1=(x+a/x)/2:=by
 unfold mQ;rw[Nat.one_mul,Nat.pow_one]
theorem Oz (va:Value)(a:Nat)(w:World)(ha:Rd w .i64 va (Dg.dg 65536 a))(hla:(Dg.dg 65536 a).length≤3000)(ha0:0<a):
  yC 75 #[va,yi 2] w (cG w (gG a 2)):=by
 have hb1:=(bitLen_spec a).1;have hb2:bitLen a≤16*3000:=l8 hla;have HLN:Hid (∀wr,yB w wr→yC 119 #[va] wr fun e w'=>e= .returned (yi (bitLen a:Nat))∧w'=wr):=fun wr b=>by
  have:=kF va _ wr (ha.l b) (Dg.small_dg _ _ (by omega)) (Dg.norm_dg _ _ (by omega)) (by omega)
  rwa [Dg.vl_dg _ _ (by omega)] at this
 obtain⟨bt,hbt⟩: ∃bt,bitLen a=bt:=⟨_,rfl⟩;rw[hbt] at HLN hb1 hb2;obtain⟨n,hn⟩: ∃n,(bt+1)/2=n:=⟨_,rfl⟩;have hnl:n≤24001:=by omega
 have HAB:Hid (C0 a 2 (2^n)):=C3 hb1 (by omega);have HP2:Hid (∀wr,yC 114 #[yi n] wr (cG wr (2^n))):=fun wr=>pf n (n/16) (n % 16) wr (by omega) (by omega) (by omega)
 have HXL:Hid (∀x,x≤2^n→(Dg.dg 65536 x).length≤3000):=fun x hx=>tU (k:=n+1) (Nat.lt_of_le_of_lt hx (Nat.pow_lt_pow_right (by omega) (by omega))) (by omega)
 have HIN:Hid (∀v x wr,yB w wr→Rd wr .i64 v (Dg.dg 65536 x)→0<x→x≤2^n→yC 132 #[va,v] wr (JI wr (a/x) (a % x))):=fun v x wr b r h0 hx=>
  qM va v _ _ wr (ha.l b) r (by omega) (by have:=HXL.out x hx;omega) h0
 have HPL:Hid (∀v u x wr,Rd wr .i64 v (Dg.dg 65536 x)→Rd wr .i64 u (Dg.dg 65536 (a/x))→x≤2^n→yC 78 #[v,u] wr (cG wr (x+a/x))):=fun v u x wr r1 r2 hx=>by
  have l1:=HXL.out x hx;have l2:=aH 65536 (a/x) a (by omega) (Nat.div_le_self _ _);have:=ew v u _ _ wr r1 r2 (Dg.small_dg _ _ (by omega)) (Dg.small_dg _ _ (by omega)) (Dg.norm_dg _ _ (by omega)) (Dg.norm_dg _ _ (by omega)) (by omega) (by omega)
  rwa [Dg.vl_dg _ _ (by omega),Dg.vl_dg _ _ (by omega)] at this
 have HDN:Hid (∀v x wr,Rd wr .i64 v (Dg.dg 65536 (x+a/x))→x≤2^n→yC 133 #[v,yi 1] wr (cG wr (mQ a x 1))):=fun v x wr r hx=>by
  have l1:=HXL.out x hx;have l2:=aH 65536 (a/x) a (by omega) (Nat.div_le_self _ _);have l3:=og x (a/x) 3000 l1 (by omega);have:=Ft v _ 1 0 1 2 32768 wr r (Dg.small_dg _ _ (by omega)) (by omega) (by omega) (by omega) (by omega) (by rfl) (by rfl);rw[Dg.vl_dg _ _ (by omega),Nat.pow_one] at this;rw[ae1];exact this
 have HCM:Hid (∀v u x y wr,Rd wr .i64 v (Dg.dg 65536 y)→Rd wr .i64 u (Dg.dg 65536 x)→yC 77 #[v,u] wr (yR wr (yi (dm (y:Int) (x:Int))))):=fun v u x y wr r1 r2=>by
  have:=fm v u _ _ wr r1 r2 (Dg.small_dg _ _ (by omega)) (Dg.small_dg _ _ (by omega)) (Dg.norm_dg _ _ (by omega)) (Dg.norm_dg _ _ (by omega))
  rwa [Dg.vl_dg _ _ (by omega),Dg.vl_dg _ _ (by omega)] at this
 have hdiv:((bt:Int)+1).tdiv 2=(n:Int):=by
  rw[Int.tdiv_eq_ediv_of_nonneg (by omega)];omega
 have hdiv2:((bt:Int)+1)/2=(n:Int):=by omega
 have HRT:Hid (∀x,fJ a 2 x→gG a 2=x):=fun x h=>tT h
 obtain⟨R,hR⟩: ∃R,gG a 2=R:=⟨_,rfl⟩;rw[hR] at HRT⊢;have hm0: ¬(Dg.dg 65536 a).length=0:=by rw[List.length_eq_zero_iff,Dg.dg_nil_iff _ _ (by omega)];omega
 obtain⟨ao,ca,rfl⟩:=ha.shape;obtain⟨ma,hma⟩: ∃m,(Dg.dg 65536 a).length=m:=⟨_,rfl⟩;rw[hma] at hm0 HLN HIN⊢;have hml:(0:Int)< (ma:Int):=by omega
 have HA0:Hid (0<a):=ha0;clear ha hla hma hbt hn hb1 ha0 hm0 HXL hR
 go_enter func75,ntmps75
 go_wp2_with fail
 refine(HLN.out _ (Below.refl _ _)).mono ?_;rintro e w1 ⟨rfl,rfl⟩;clear HLN
 go_wp2_with fail
 refine(HP2.out _).mono ?_;rintro e w2 ⟨v2,rfl,r2,b2⟩;clear HP2
 go_wp2
 have L0:acL w1 a n v2 w2:=⟨2^n,r2,HAB.out,Nat.le_refl _,b2⟩
 go_loopw [5] (acL w1 a n) (fun rv wr=>Classical.epsilon fun n=>Rd wr .i64 rv (Dg.dg 65536 n))
 case atStart=>exact L0
 case round=>
  clear L0 r2 b2 HAB;obtain⟨x,rx,hab,hxl,bel⟩:=hrel;have hx:=ID hab HA0.out;have hst:=Ff (a:=a) (m:=1) hx;have HEN:Hid (x≤mQ a x 1→fJ a 2 x):=fun h=>Ml hab hx h
  have H1:Hid _:=HIN.out _ x _ bel rx hx hxl;have H2:Hid (∀v u wr,Rd wr .i64 v (Dg.dg 65536 x)→Rd wr .i64 u (Dg.dg 65536 (a/x))→yC 78 #[v,u] wr (cG wr (x+a/x))):=fun v u wr r1 r2=>HPL.out v u x wr r1 r2 hxl
  have H3:Hid (∀v wr,Rd wr .i64 v (Dg.dg 65536 (x+a/x))→yC 133 #[v,yi 1] wr (cG wr (mQ a x 1))):=fun v wr r=>HDN.out v x wr r hxl
  clear HIN HPL HDN;obtain⟨y,hy⟩: ∃y,mQ a x 1=y:=⟨_,rfl⟩;rw[hy] at H3 HEN hst;have H4:Hid (∀v u wr,Rd wr .i64 v (Dg.dg 65536 y)→Rd wr .i64 u (Dg.dg 65536 x)→yC 77 #[v,u] wr (yR wr (yi (dm (y:Int) (x:Int))))):=fun v u wr r1 r2=>HCM.out v u x y wr r1 r2
  clear HCM hy;obtain⟨s,hs⟩: ∃s,x+a/x=s:=⟨_,rfl⟩;obtain⟨q,hq⟩: ∃q,a/x=q:=⟨_,rfl⟩;rw[hs,hq] at H2;rw[hs] at H3;rw[hq] at H1;clear hs hq
  go_wp2_with fail
  refine Calls.mono H1.out ?_;rintro e w3 ⟨vq,vr,rfl,rq,-,b3⟩;have b03:=aa bel b3;have rx3:=rx.l b3;clear H1 b3
  go_wp2_with fail
  refine(H2.out _ _ _ rx3 rq).mono ?_;rintro e w4 ⟨v4,rfl,r4,b4⟩;have b04:=aa b03 b4;have rx4:=rx3.l b4;clear H2 b4 rq rx3 b03
  go_wp2_with fail
  refine(H3.out _ _ r4).mono ?_;rintro e w5 ⟨v5,rfl,r5,b5⟩;have b05:=aa b04 b5;have rx5:=rx4.l b5;clear H3 b5 r4 rx4 b04
  go_wp2_with fail
  refine(H4.out _ _ _ r5 rx5).mono ?_;rintro e w6 ⟨rfl,b6⟩;have b06:=aa b05 b6;have rx6:=rx5.l b6;have r6:=r5.l b6;clear H4 b6 r5 rx5 b05
  by_cases hlt:y<x
  ·rw[gX (by omega)]
   have e1:=GU rx;have e2:=GU r6
   go_wp2
   go_roundw
   case rel=>exact⟨y,r6,hst,Nat.le_trans (Nat.le_of_lt hlt) hxl,b06⟩
   case measure=>rw[e1,e2];exact hlt
  ·have hge:=Dm (a:=(y:Int)) (b:=(x:Int)) (by omega)
   obtain⟨r,hr⟩: ∃r,dm (y:Int) (x:Int)=r:=⟨_,rfl⟩;rw[hr] at hge⊢;have hx2:=HRT.out x (HEN.out (by omega));subst hx2
   go_wp2
   go_ret
   exact⟨_,rfl,rx6,b06⟩
theorem Te {m d r:Nat}(h:fJ (m*2^ (2*d)) 2 r):fJ m 2 (r/2^d)∧(r/2^d*(r/2^d)=m↔r*r=m*2^ (2*d)∧r % 2^d=0):=by
 obtain⟨h1,h2⟩:=h;have hp:=bG d;have e2:(2:Nat)^ (2*d)=2^d*2^d:=by rw[←Nat.pow_add];congr 1;omega
 obtain⟨P,hP⟩: ∃P,(2:Nat)^d=P:=⟨_,rfl⟩;rw[e2,hP] at h1 h2⊢;rw[hP] at hp;rw[Nat.pow_two] at h1 h2;have hd:=Nat.div_add_mod r P;have hm:=Nat.mod_lt r hp;obtain⟨q,hq⟩: ∃q,r/P=q:=⟨_,rfl⟩;obtain⟨z,hz⟩: ∃z,r % P=z:=⟨_,rfl⟩;rw[hq,hz] at hd;rw[hz] at hm;rw[hq,hz];have s1:P*q*(P*q)=q*q*(P*P):=by rw[Nat.mul_mul_mul_comm,Nat.mul_comm]
 have a1:q*q≤m:=by
  refine Nat.le_of_mul_le_mul_right (c:=P*P) ?_ (Nat.mul_pos hp hp);rw[←s1];exact Nat.le_trans (Nat.mul_le_mul (by omega) (by omega)) h1
 have a2:m< (q+1)*(q+1):=by
  refine Nat.lt_of_mul_lt_mul_right (a:=P*P) ?_;refine Nat.lt_of_lt_of_le h2 ?_;have:r+1≤P*(q+1):=by rw[Nat.mul_add];omega
  have s2:P*(q+1)*(P*(q+1))=(q+1)*(q+1)*(P*P):=by rw[Nat.mul_mul_mul_comm,Nat.mul_comm]
  rw[←s2];exact Nat.mul_le_mul this this
 refine⟨⟨by rw[Nat.pow_two];exact a1,by rw[Nat.pow_two];exact a2⟩, ?_, ?_⟩
 ·intro e
  have e3:m*(P*P)=P*q*(P*q):=by rw[s1,e]
  rw[e3] at h1 h2;have b1:r≤P*q:=by
   rcases Nat.lt_or_ge (P*q) r with g|g
   ·have:=Nat.mul_lt_mul'' g g
    omega
   ·exact g
  exact⟨by rw[e3,show r=P*q from by omega],by omega⟩
 ·rintro⟨e,rfl⟩
  have:r=P*q:=by omega
  subst this;rw[s1] at e;exact Nat.eq_of_mul_eq_mul_right (Nat.mul_pos hp hp) e
theorem adU {n s1 s2 r1 r2 d:Nat}{e x1 x2:Int}{s:Bool}(hs:s2=s1+2*d)(h1:fJ (n*2^s1) 2 r1)(h2:fJ (n*2^s2) 2 r2)(e1:2*x1=e-s1)(e2:2*x2=e-s2):
  ut x1 (d8 s r2 x2 (decide (r2*r2<n*2^s2))).n 1 (d8 s r2 x2 (decide (r2*r2<n*2^s2))).e (d8 s r1 x1 (decide (r1*r1<n*2^s1))).n 1 (d8 s r1 x1 (decide (r1*r1<n*2^s1))).e:=by
 have hx:x1=x2+d:=by omega
 have hm:n*2^s2=n*2^s1*2^ (2*d):=by rw[hs,Nat.pow_add,Nat.mul_assoc]
 rw[hm] at h2⊢;obtain⟨g1,g2⟩:=Te h2;have hr:r1=r2/2^d:=by
  have one: ∀{u v:Nat},fJ (n*2^s1) 2 u→fJ (n*2^s1) 2 v→u≤v:=fun {u v} hu hv=>by
   rcases Nat.lt_or_ge v u with h|h
   ·exfalso
    have k1:(v+1)^2≤u^2:=Nat.pow_le_pow_left h 2;have k2:=hu.1;have k3:=hv.2;omega
   ·exact h
  exact Nat.le_antisymm (one h1 g1) (one g1 h1)
 have q2:=h2.1;have q1:=h1.1;rw[Nat.pow_two] at q1 q2;obtain⟨l2,hl2⟩: ∃l,decide (r2*r2<n*2^s1*2^ (2*d))=l:=⟨_,rfl⟩;obtain⟨l1,hl1⟩: ∃l,decide (r1*r1<n*2^s1)=l:=⟨_,rfl⟩;have hll:l1=decide (0< (r2*2+(if l2=true then 1 else 0))*2^0 % (2*2^d)):=by
  rw[←hl1,Nat.pow_zero,Nat.mul_one,decide_eq_decide];rw[←hr] at g2;have hz:(r2*2+(if l2=true then 1 else 0)) % (2*2^d)=0↔l2=false∧r2 % 2^d=0:=by
   cases l2
   ·simp only[Bool.false_eq_true,if_false,Nat.add_zero,true_and]
    rw[Nat.mul_comm r2 2,Nat.mul_mod_mul_left];omega
   ·simp only[if_true,Bool.true_eq_false,false_and,iff_false]
    intro g;obtain⟨k,hk⟩:=Nat.dvd_of_mod_eq_zero g;rw[Nat.mul_assoc] at hk;omega
  have hl:l2=false↔r2*r2=n*2^s1*2^ (2*d):=by
   rw[←hl2,decide_eq_false_iff_not];omega
  rw[hl] at hz
  constructor
  ·intro g
   rcases Nat.eq_zero_or_pos ((r2*2+(if l2=true then 1 else 0)) % (2*2^d)) with k|k
   ·have:=g2.2 (hz.1 k)
    omega
   ·exact k
  ·intro g
   rcases Nat.lt_or_ge (r1*r1) (n*2^s1) with k|k
   ·exact k
   ·have:=hz.2 (g2.1 (by omega))
    omega
 have key:=vP (r2*2+(if l2=true then 1 else 0)) (2*2^d) 0 x1 s l1 (by have:=bG d;omega) hll
 rw[hl2,hl1];have hq:(r2*2+(if l2=true then 1 else 0))*2^0/(2*2^d)=r1:=by
  rw[Nat.pow_zero,Nat.mul_one,←Nat.div_div_eq_div_mul,hr]
  congr 1
  cases l2<;>simp<;>omega
 rw[hq] at key;simp only[Int.natCast_zero,Int.sub_zero] at key;refine(ut.trans (J:=x1) ?_ key).mono (by omega);refine fun j _=>qG (jO (by omega) _) (jO (by have:=bG d;omega) _) ?_
 show eZ (r2*2+(if l2=true then 1 else 0)) (x2-1-j)*dX (2*2^d) (x1-j)=eZ (r2*2+(if l2=true then 1 else 0)) (x1-j)*dX 1 (x2-1-j)
 generalize r2*2+(if l2=true then 1 else 0)=y
 rw[fw,fw,eM,eM,←Nat.pow_succ',Nat.one_mul,Nat.mul_assoc,Nat.mul_assoc,←Nat.pow_add,←Nat.pow_add,←Nat.pow_add];refine congrArg (fun z=>y*2^z) ?_
 omega
end Go.Proofs.YtnhackdjplppjaaGreatDoor
