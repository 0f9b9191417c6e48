/-
  Kernel: KernelBack, paid.
-/
import Derived.Test.YthhiidikgchdeabGreatDoorLc01
set_option maxRecDepth 100000
namespace Go.Proofs.YthhiidikgchdeabGreatDoor
open _root_.Go.Proofs.Tryz
open Go.RowKit
theorem choose150_any (c:Int)(w:World)(h1: -9223372036854775808≤c)(h2:c≤9223372036854775807):
  ∃m:Nat,m<150∧yH w 6 #[yi c,yi 150] (yi (m:Int)):=by
 by_cases h:c<0
 ·have ht:(c+1).tmod 150= -((-(c+1)) % 150):=by
   have:=Int.neg_tmod (-(c+1)) 150;rw[Int.neg_neg] at this;rw[this,Int.tmod_eq_emod_of_nonneg (by omega)]
  have hb1:=Int.emod_nonneg (-(c+1)) (show(150:Int)≠0 by omega)
  have hb2:=Int.emod_lt_of_pos (-(c+1)) (show(0:Int)<150 by omega)
  obtain⟨m,hm⟩: ∃m:Nat,(-(c+1)) % 150=(m:Int):=⟨((-(c+1)) % 150).toNat,by omega⟩;refine⟨m,by omega,fun w1 _=> ?_⟩
  have ht2:(c+1).tmod 150= -(m:Int):=by rw[ht,hm]
  clear ht hm hb1 hb2
  go_enter func6,ntmps6
  go_wp2
  go_ret
  exact⟨by simp,Below.refl _ _⟩
 ·have ht:c.tmod 150=c % 150:=Int.tmod_eq_emod_of_nonneg (by omega)
  have hb1:=Int.emod_nonneg c (show(150:Int)≠0 by omega)
  have hb2:=Int.emod_lt_of_pos c (show(0:Int)<150 by omega)
  obtain⟨m,hm⟩: ∃m:Nat,c % 150=(m:Int):=⟨(c % 150).toNat,by omega⟩;refine⟨m,by omega,fun w1 _=> ?_⟩
  have ht2:c.tmod 150=(m:Int):=by rw[ht,hm]
  clear ht hm hb1 hb2
  go_enter func6,ntmps6
  go_wp2
  go_ret
  exact⟨by simp,Below.refl _ _⟩
theorem le_limit {a:Rat}{A B:Nat→Rat}(h1:EvN fun n=>a≤A n)(h2: ∀e:Rat,0<e→ ∃N,∀n,N≤n→A n≤B n+e): ∀e:Rat,0<e→ ∃N,∀n,N≤n→a≤B n+e:=fun e he=>by
 obtain⟨N1,k1⟩:=h1;obtain⟨N2,k2⟩:=h2 e he;exact⟨N1+N2,fun n hn=>Rat.le_trans (k1 n (by omega)) (k2 n (by omega))⟩
theorem le_const {a b:Rat}(h: ∀e:Rat,0<e→ ∃N:Nat,∀n,N≤n→a≤b+e):a≤b:=by
 by_cases c:a≤b
 ·exact c
 ·obtain⟨N,k⟩:=h ((a-b)/2) (by grind)
  have:=k N (Nat.le_refl _)
  grind
theorem back_lo {S:IvN}{a x:Rat}{L:Nat→Rat}(hS:SIn S (er x))(ha:a≤S.lo)(hL:NrN (fun n=>er (L n) n) (fun _=>a))(hb: ∃K,∀n,ab (L n)≤K): ∀e:Rat,0<e→ ∃N,∀n,N≤n→L n≤x+e:=by
 obtain⟨K,hK⟩:=hb;obtain⟨f,f1,N0,f2⟩:=hS;have hx: ∀n:Nat,ab ((fun _:Nat=>x) n)≤K+ab x:=fun n=>by
  have:=ab_nonneg (L 0);have:=hK 0
  show ab x≤_
  grind
 have hl: ∀n,ab (L n)≤K+ab x:=fun n=>by
  have:=ab_nonneg x;have:=hK n
  grind
 refine le_of_er (B:=fun _=>x) hl hx (fun e he=> ?_)
 obtain⟨N1,k1⟩:=hL (e/2) (by grind);obtain⟨N2,k2⟩:=f1 (e/2) (by grind);refine⟨N0+N1+N2,fun n hn=> ?_⟩
 have a1:=k1 n (by omega);have a2:=k2 n (by omega);have a3:=(f2 n (by omega)).1;rw[ab_le] at a1 a2
 show er (L n) n≤er x n+e
 grind
theorem back_hi {S:IvN}{a x:Rat}{L:Nat→Rat}(hS:SIn S (er x))(ha:S.hi≤a)(hL:NrN (fun n=>er (L n) n) (fun _=>a))(hb: ∃K,∀n,ab (L n)≤K): ∀e:Rat,0<e→ ∃N,∀n,N≤n→x≤L n+e:=by
 obtain⟨K,hK⟩:=hb;obtain⟨f,f1,N0,f2⟩:=hS;have hx: ∀n:Nat,ab ((fun _:Nat=>x) n)≤K+ab x:=fun n=>by
  have:=ab_nonneg (L 0);have:=hK 0
  show ab x≤_
  grind
 have hl: ∀n,ab (L n)≤K+ab x:=fun n=>by
  have:=ab_nonneg x;have:=hK n
  grind
 refine le_of_er (A:=fun _=>x) hx hl (fun e he=> ?_)
 obtain⟨N1,k1⟩:=hL (e/2) (by grind);obtain⟨N2,k2⟩:=f1 (e/2) (by grind);refine⟨N0+N1+N2,fun n hn=> ?_⟩
 have a1:=k1 n (by omega);have a2:=k2 n (by omega);have a3:=(f2 n (by omega)).2;rw[ab_le] at a1 a2
 show er x n≤er (L n) n+e
 grind
theorem exp_chk {s:Bool}{xs:List Nat}{e b:Int}(h:(expOut s xs e b).2.2=0):aS xs e=0:=by
 by_cases c:aS xs e=0
 ·exact c
 ·have hn:numR s xs e b=aS xs e:=by unfold numR;rw[if_pos c]
  unfold expOut at h;rw[if_pos (by rw[hn];exact c)] at h;have h':numR s xs e b=0:=h;rw[hn] at h';exact absurd h' c
theorem kernelBack_walk (s:Bool)(ao:Option Addr)(ca:Nat)(xs:List Nat)(e k:Int)(w:World)(hr:Rd w .u32 (.slice ao xs.length ca) xs)(hs:Dg.Small 4294967296 xs)
  (h1: -9223372036854775808≤k) (h2:k≤9223372036854775807) (hT:Tab w):
  yC 4 #[ydV s (.slice ao xs.length ca) e,yi k] w (yR w (.bool true)):=by
 obtain⟨m,hm,HC⟩:=choose150_any k w h1 h2;obtain⟨n,hn⟩: ∃n,20+m=n:=⟨_,rfl⟩;have hw:IntKind.i64.wrap (20+(m:Int))=(n:Int):=by rw[IntWalk.i64_in _ ⟨by omega,by omega⟩];omega
 have hl:IntKind.i64.wrap ((n:Int)+20)=((n+20:Nat):Int):=by rw[IntWalk.i64_in _ ⟨by omega,by omega⟩];omega
 have HB:=fun w1 (h:yB w w1)=>kernelBegun_any w1 (hT.l h)
 have H1:=fun w1 (h:yB w w1)=>kexp_any s ao ca xs e (n:Int) w1 (hr.l h) hs (hT.l h)
 have o1:= @expOut_ok s xs e (n:Int);have oc:= @exp_chk s xs e (n:Int);generalize expOut s xs e (n:Int)=A at*;obtain⟨a,b,er1⟩:=A;simp only at H1 o1 oc;have H2:=fun(xo:Option Addr) (xc:Nat) w1 (h:yB w w1) (hx:Rd w1 .u32 (yT xo a.n xc) (Dg.dg 4294967296 a.n))=>klog_any a.s xo xc (Dg.dg 4294967296 a.n) a.e ((n+20:Nat):Int) w1 hx (Dg.small_dg _ _ (by omega)) (hT.l h)
 have o2:= @logOut_ok a.s (Dg.dg 4294967296 a.n) a.e ((n+20:Nat):Int) (Dg.small_dg _ _ (by omega));have H3:=fun(xo:Option Addr) (xc:Nat) w1 (h:yB w w1) (hx:Rd w1 .u32 (yT xo b.n xc) (Dg.dg 4294967296 b.n))=>klog_any b.s xo xc (Dg.dg 4294967296 b.n) b.e ((n+20:Nat):Int) w1 hx (Dg.small_dg _ _ (by omega)) (hT.l h)
 have o3:= @logOut_ok b.s (Dg.dg 4294967296 b.n) b.e ((n+20:Nat):Int) (Dg.small_dg _ _ (by omega));rw[Dg.vl_dg _ _ (by omega)] at o2 o3;generalize logOut a.s (Dg.dg 4294967296 a.n) a.e ((n+20:Nat):Int)=C at*;generalize logOut b.s (Dg.dg 4294967296 b.n) b.e ((n+20:Nat):Int)=D at*;obtain⟨c,z,er2⟩:=C;obtain⟨p,q,er3⟩:=D;simp only at H2 o2 H3 o3
 by_cases g1:er1=0
 ·by_cases g2:er2=0
  ·by_cases g3:er3=0
   ·obtain⟨a1,a2,a3⟩:=o1 g1
    obtain⟨c1,c2,L,l1,l2,l3⟩:=o2 g2;obtain⟨d1,d2,M,m1,m2,m3⟩:=o3 g3;obtain⟨n1,n2,n3,n4,n5⟩:=aO (oc g1) hs;have hlen:(Dg.dg 4294967296 (Dg.vl 4294967296 xs)).length≤1200:=by rw[n2];exact n3
    have hqb:=qT_bare ⟨s,Dg.vl 4294967296 xs,e⟩;have hlo:qT c≤qT (⟨s,Dg.vl 4294967296 xs,e⟩:ak):=le_const (le_limit (B:=fun _=>qT (⟨s,Dg.vl 4294967296 xs,e⟩:ak)) (by
     obtain⟨N,hN⟩:=l3;exact⟨N,fun k hk=>(hN k hk).1⟩) (back_lo a3 Rat.le_refl l1 l2))
    have hhi:qT (⟨s,Dg.vl 4294967296 xs,e⟩:ak)≤qT q:=by
     have:=back_hi a3 Rat.le_refl m1 m2;refine le_const (fun d hd=> ?_)
     obtain⟨N1,k1⟩:=this d hd;obtain⟨N2,k2⟩:=m3;refine⟨N1+N2,fun k hk=> ?_⟩
     have x1:=k1 k (by omega);have x2:=(k2 k (by omega)).2;have x2':M k≤qT q:=x2
     grind
    obtain⟨X,hX⟩: ∃X,bare ⟨s,Dg.vl 4294967296 xs,e⟩=X:=⟨_,rfl⟩;have H4: ∀w1,yB w w1→yC 16 #[ydV s (.slice ao xs.length ca) e] w1 (dr w1 X):=fun w1 h=>by
     have:=bQ s ao ca xs e w1 (hr.l h) hs (by omega) (by omega) (by omega)
     rwa [hX] at this
    have hXb: ∃y,X=bare y:=⟨_,hX.symm⟩;have hXe: -20000≤X.e∧X.e≤60000:=by
     have htz:=gZ (Dg.vl 4294967296 xs) 1200 hlen;rw[←hX];unfold bare
     split
     ·exact⟨by show(-20000:Int)≤0;omega,by show(0:Int)≤60000;omega⟩
     ·exact⟨by show-20000≤e+(tz (Dg.vl 4294967296 xs):Int);omega,by show e+(tz (Dg.vl 4294967296 xs):Int)≤60000;omega⟩
    have hXl:(Dg.dg 65536 X.n).length≤2401:=by
     have h3:(Dg.dg 4294967296 X.n).length≤1200:=by
      rw[←hX];exact Nat.le_trans (aH 4294967296 _ _ (by omega) (FW _)) hlen
     have:=gf h3;exact UI (Nat.le_of_lt (bits_lt X.n)) (by omega)
    rw[←hqb,hX] at hlo hhi;have lc:=c1.len16;have lq:=d2.len16;obtain⟨-,-,e1,e2⟩:=id c1;obtain⟨-,-,e3,e4⟩:=id d2;have b1:=(cmp_le (K:=20000) c1.1 hXb (by omega) (by omega)).1 ((le_V (by omega) (by omega)).2 hlo);have b2:=(cmp_le (K:=20000) hXb d2.1 (by omega) (by omega)).1 ((le_V (by omega) (by omega)).2 hhi);exact kBack_W s ao _ ca e a b c z p q X c q k (m:Int) (n:Int) er1 er2 er3 _ _ _ w hw hl g1 g2 g3 b1 b2 HB HC H1 H2 H3 H4
     (fun co cc w1 _ hc=>ofDyad_K c1 co cc w1 hc)
     (fun xo xc uo uc w1 _ rx ru=>gQ _ _ c X w1 ⟨_,rfl,rx⟩ ⟨_,rfl,ru⟩ (by omega) (by omega) (by omega) (by omega) (by omega) (by omega))
     (fun qo qc w1 _ hq=>ofDyad_K d2 qo qc w1 hq)
     (fun uo uc yo yc w1 _ ru ry=>gQ _ _ X q w1 ⟨_,rfl,ru⟩ ⟨_,rfl,ry⟩ (by omega) (by omega) (by omega) (by omega) (by omega) (by omega))
   ·exact kBack_e2 s ao _ ca e a b c z p q k (m:Int) (n:Int) er1 er2 er3 _ w hw hl g1 g2 g3 HB HC H1 H2 H3
  ·exact kBack_e1 s ao _ ca e a b c z p q k (m:Int) (n:Int) er1 er2 er3 _ w hw hl g1 g2 HB HC H1 H2 H3
 ·exact kBack_e0 s ao _ ca e a b k (m:Int) (n:Int) er1 w hw g1 HB HC H1
end Go.Proofs.YthhiidikgchdeabGreatDoor
