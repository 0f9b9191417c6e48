/- Texts laid together. -/
import Derived.Test.YtlhkndcmbpcpgaaGreatDoorXs18
import Derived.Test.YtlhkndcmbpcpgaaGreatDoorXs19
import Derived.Test.YtlhkndcmbpcpgaaGreatDoorXs20
set_option maxRecDepth 100000
set_option maxHeartbeats 12800000
namespace Go.Proofs.YtlhkndcmbpcpgaaGreatDoor
open _root_.Go.Proofs.Tryz
open Go.RowKit
theorem dw {K:Nat}{a:ak}(c: -(K:Int)≤a.e):V K (bare a)=V K a:=by
 rw[eV,eV];unfold bare
 by_cases h:a.n=0
 ·rw[if_pos h,h];simp[sz]
 ·rw[if_neg h]
  obtain⟨m,b⟩:=fO h;simp only;rw[lI b];have:(a.e+(tz a.n:Int)+K).toNat=tz a.n+(a.e+K).toNat:=by omega
  rw[this,Nat.pow_add,←Nat.mul_assoc,Nat.mul_comm _ (2^tz a.n),←b]
theorem KU (R D L G:Int)(gr qs:Bool)(no:Option Addr)(t:Nat)(p:Option Addr)(o:Nat)(N M:Nat)(E way:Int)(w:World)(T:bk R D L G=0)(X:iC way=true)
  (z:Rd w .i64 (yS no N t) (Dg.dg 65536 N)) (A:Rd w .i64 (yS p M o) (Dg.dg 65536 M)) (H:(Dg.dg 65536 N).length≤20000) (I:(Dg.dg 65536 M).length≤20000) (m:N≠0) (i:M≠0) (e1: -100000≤E) (e2:E≤100000) (s1: -340000≤(bitLen N:Int)-(bitLen M:Int)+E) (s2:(bitLen N:Int)-(bitLen M:Int)+E≤340000):
  yC 61 #[yrV qs (yS no N t) (yS p M o) E,ygV R D L G gr,yi way] w (GT w (cI R D L G gr qs N M E way)):=by
 obtain⟨hR,j,O,l1,l2,g1,g2,lg,Z⟩:=cB T;have a4:=vR H;have a3:=vR I;have J:=Ve R D N M E;have K:=Pc R D E (bitLen N) (bitLen M) (by omega);have C: -400000≤aT R D (dY N M E):=by
  have: -350000≤dY N M E:=by unfold dY;split<;>omega
  unfold aT ai
  split<;>simp<;>omega
 have U:((bitLen N:Int)-(bitLen M:Int)+E)/(ai R:Int)-D+2≤400000:=by
  unfold ai
  split<;>simp<;>omega
 have Y:=eN R;have s: ∀k,aT R D (dY N M E)≤k→k≤((bitLen N:Int)-(bitLen M:Int)+E)/(ai R:Int)-D+2→ -360000≤(ai R:Int)*k∧(ai R:Int)*k≤360000:=fun k f g=>
  Rh f g (by unfold dY;split<;>omega) (by omega) j O
 have F: ∀n:Int,n≤900000→(Dg.dg 65536 (eZ N n)).length≤160000:=fun n h=>GB (Nat.le_trans H (by omega)) h
 have P: ∀n:Int,-900000≤n→(Dg.dg 65536 (dX M n)).length≤160000:=fun n h=>GC (Nat.le_trans I (by omega)) h
 have a5: -360000≤(ai R:Int)*dj R D L gr N M E∧(ai R:Int)*dj R D L gr N M E≤360000∧ -400000≤dj R D L gr N M E∧dj R D L gr N M E≤400000:=by
  by_cases h:(decide (aT R D (dY N M E)<L)&&gr)=true
  ·rw[CJ h]
   have:=Z;refine⟨?_, ?_,by omega,by omega⟩<;>(clear s J K C U;unfold ai;split<;>simp<;>omega)
  ·rw[Gu (by simpa using h)]
   have:=s _ (Int.le_refl _) (by omega);exact⟨this.1,this.2,C,by omega⟩
 have W:(Dg.dg 65536 (cH R D L gr N M E)).length≤160000:=KT 65536 _ _ _ (by omega) (Nat.div_le_self _ _) (F _ (by unfold shP;omega));have S:0<dX M (shP R D L gr N M E):=N8 _ (Nat.pos_of_ne_zero i);have hr:(Dg.dg 65536 (gF R D L gr N M E)).length≤160000:=KT 65536 _ _ _ (by omega) (Nat.le_of_lt (Nat.mod_lt _ S)) (P _ (by unfold shP;omega));have a0:=EN R D (by omega);have Q:=EN R (D-1) (by omega);have a9:ai R*(D-1).toNat≤480:=by
  have:(D-1).toNat≤119:=by omega
  exact Nat.le_trans (Nat.mul_le_mul Y.2 this) (by omega)
 have a6:(ai R:Int)*(D-1)≤480:=by omega
 have a7:(ai R:Int)*D≤480:=by
  have:=CU (R:=R) (k:=D) (a:=120) (by omega) (by omega);omega
 have a8:0≤(ai R:Int)*D:=by omega
 have a1:=Int.natAbs_tdiv_le_natAbs ((bitLen N:Int)-(bitLen M:Int)+E+800000) (ai R);have a2:=Int.natAbs_tdiv_le_natAbs (800000:Int) (ai R);refine ZY R D L G gr qs no _ t p _ o E way (ai R) (bitLen N) (bitLen M) (((bitLen N:Int)-(bitLen M:Int)+E+800000).tdiv (ai R)) ((800000:Int).tdiv (ai R)) (aT R D (dY N M E)) (((bitLen N:Int)-(bitLen M:Int)+E)/(ai R:Int)-D+2) (dj R D L gr N M E)
  (fun k=>eZ N (E-(ai R:Int)*k)/dX M (E-(ai R:Int)*k)) (fun k=>eZ N (E-(ai R:Int)*k) % dX M (E-(ai R:Int)*k)) (fun k=>dX M (E-(ai R:Int)*k)) (fun k=>bitLen (eZ N (E-(ai R:Int)*k)/dX M (E-(ai R:Int)*k)))
  (cH R D L gr N M E) (gF R D L gr N M E) (dX M (shP R D L gr N M E)) (bitLen (cH R D L gr N M E+1)) (dm ((gF R D L gr N M E*2:Nat):Int) ((dX M (shP R D L gr N M E):Nat):Int)) (decide (cH R D L gr N M E % 2=1)) (rf R D L gr qs N M E way) (decide (aT R D (dY N M E)<L)) (decide (gF R D L gr N M E=0)) (decide (aT R D (dY N M E)<L)&&gr) (decide (ai R*D.toNat<bitLen (cH R D L gr N M E+1)))
  (io R D (fM R D L gr qs N M E way)) (gD R D (fM R D L gr qs N M E way) (dj R D L gr N M E)) (cI R D L G gr qs N M E way) w ?_ ?_ ?_ (Int.le_of_lt J) ?_ ?_ ?_ rfl rfl ?_ ?_ ?_ ?_ ?_ ?_ ?_ ?_ ?_ ?_ ?_ ?_ rfl rfl rfl rfl CJ ?_ ?_ ?_ ?_ ?_ ?_ ?_ ?_ (kJ gr qs N M E way j lg m i) ?_ ?_ ?_ ?_ ?_ ?_ ?_ ?_ ?_ ?_ ?_ ?_
 ·simp
  rw[Dg.dg_nil_iff _ _ (by omega)];exact m
 ·simp
  omega
 ·omega
 ·exact IntWalk.i64_in _ ⟨by omega,by omega⟩
 ·exact IntWalk.i64_in _ ⟨by omega,by omega⟩
 ·exact IntWalk.i64_in _ ⟨by omega,by omega⟩
 ·exact IntWalk.i64_in _ ⟨by omega,by omega⟩
 ·exact IntWalk.i64_in _ ⟨by omega,by omega⟩
 ·exact IntWalk.i64_in _ ⟨by omega,by omega⟩
 ·exact IntWalk.i64_in _ ⟨by omega,by omega⟩
 ·rw[K]
  exact IntWalk.i64_in _ ⟨by omega,by omega⟩
 ·intro k f g
  have:=s k f g;exact⟨IntWalk.i64_in _ ⟨by omega,by omega⟩,IntWalk.i64_in _ ⟨by omega,by omega⟩⟩
 ·have:=CU (R:=R) (k:=L) (a:=17000) (by omega) (by omega)
  exact IntWalk.i64_in _ ⟨by omega,by omega⟩
 ·exact IntWalk.i64_in _ ⟨by omega,by omega⟩
 ·exact IntWalk.i64_in _ ⟨by omega,by omega⟩
 ·exact IntWalk.i64_in _ ⟨by omega,by omega⟩
 ·exact IntWalk.i64_in _ ⟨by omega,by omega⟩
 ·exact IntWalk.i64_in _ ⟨by omega,by omega⟩
 ·intro h
  have e:=Gu h;refine⟨e, ?_, ?_, ?_⟩
  ·unfold cH shP
   rw[e]
  ·unfold gF shP
   rw[e]
  ·unfold shP
   rw[e]
 ·intro k f g
  have:=(xx R D k N M E j m i).2 f;omega
 ·have:=mt (xx R D (aT R D (dY N M E)) N M E j m i).1 (Int.lt_irrefl _)
  omega
 ·intro h
  have:=of_decide_eq_true h;omega
 ·intro h
  have:=of_decide_eq_false h;omega
 ·intro f g q
  rw[KS f g];exact if_pos ((Ga R D L gr N M E j m i).1 (of_decide_eq_true q))
 ·intro f g q
  have B: ¬cH R D L gr N M E+1=2^ (ai R*D.toNat):=fun c=>of_decide_eq_false q ((Ga R D L gr N M E j m i).2 c)
  rw[KS f g];exact⟨if_neg B,if_neg B⟩
 ·intro h
  rw[ZF h];exact uh R D L gr N M E j m i _
 ·intro d
  have:=nh R D L G gr d
  rwa [jf] at this
 ·intro d b
  exact pQ _ N d (z.l b) (by omega)
 ·intro d b
  exact pQ _ M d (A.l b) (by omega)
 ·intro k d f g b
  have:=s k f g;exact BM qs no _ t p _ o N M E _ d (z.l b) (A.l b) (by omega) (by omega) (Nat.pos_of_ne_zero i) (by omega) (by omega)
 ·intro h d b
  have:=BM qs no _ t p _ o N M E ((ai R:Int)*dj R D L gr N M E) d (z.l b) (A.l b) (by omega) (by omega) (Nat.pos_of_ne_zero i) (by omega) (by omega);rw[show E-(ai R:Int)*dj R D L gr N M E=shP R D L gr N M E from rfl,CJ h] at this
  exact this
 ·intro k v d f g r
  have:=s k f g;exact pQ v _ d r (Nat.le_trans (KT 65536 _ _ _ (by omega) (Nat.div_le_self _ _) (F _ (by omega))) (by omega))
 ·intro v u d x y
  have:=fN v u _ _ d x y (Dg.small_dg _ _ (by omega)) (Dg.small_cons.2 ⟨by omega,Dg.small_nil _ (by omega)⟩) (by omega) (by simp)
  rwa [Dg.vl_dg _ _ (by omega),show Dg.vl 65536 [2]=2 from rfl] at this
 ·intro v u d x y
  have:=fm v u _ _ d x y (Dg.small_dg _ _ (by omega)) (Dg.small_dg _ _ (by omega)) (Dg.norm_dg _ _ (by omega)) (Dg.norm_dg _ _ (by omega))
  rwa [Dg.vl_dg _ _ (by omega),Dg.vl_dg _ _ (by omega)] at this
 ·intro d
  exact Od X qs _ _ d
 ·intro v u d x y
  have:=ew v u _ _ d x y (Dg.small_dg _ _ (by omega)) (Dg.small_cons.2 ⟨by omega,Dg.small_nil _ (by omega)⟩) (Dg.norm_dg _ _ (by omega)) (by rw[show([1]:List Nat)=Dg.dg 65536 1 from by decide];exact Dg.norm_dg _ _ (by omega)) (by omega) (by simp)
  rwa [Dg.vl_dg _ _ (by omega),show Dg.vl 65536 [1]=1 from rfl] at this
 ·intro v d r
  exact pQ v _ d r (Nat.le_trans (ZG W) (by omega))
 ·intro f g q d
  rw[KS g q,show io R D (cH R D L gr N M E+1)=2^ (ai R*(D-1).toNat) from if_pos ((Ga R D L gr N M E j m i).1 (of_decide_eq_true f)),←Q]
  exact ZQ _ (ai R*(D-1).toNat/16) (ai R*(D-1).toNat % 16) d (by omega) (by omega) (by omega)
theorem MJ (R D L G a:Int)(gr:Bool)(sz b:Nat)(F:Nat)(w:World)(m:(a==1)=false):yC 74 #[ylV R D L G gr sz b a F,yi 3] w (yR w (.tuple #[yfV false 0 0,.bool false])):=by
 have n:=cD;have g:=af (w.alloc (.cells (ylA R D L G gr sz b a F) 93)) (.cells (yfA false 0 0) 134);have j:=(ah w (ylL R D L G gr sz b a F) 93).l g;have c:=ah (w.alloc (.cells (ylA R D L G gr sz b a F) 93)) (yfL false 0 0) 134;have k:=aa (af w (.cells (ylA R D L G gr sz b a F) 93)) g;rw[World.size_alloc] at c;clear g;obtain⟨u,v,x,y,z,A,B,C,E⟩:=j.cs9;obtain⟨r,s,t⟩:=c.cs3;have o:=c.f 0;have p:=c.f 1;have q:=c.f 2;have h:=ah (w.alloc (.cells (ylA R D L G gr sz b a F) 93)) (yfL false 0 0) 134;rw[World.size_alloc] at h;have d:=aa (af w (.cells (ylA R D L G gr sz b a F) 93)) (af _ (.cells (yfA false 0 0) 134));have e:=run_loadVar_mid (P:=Tryz.prog) _ (w.heap.size+1) 0 134 (yfL false 0 0) _ h.range underlying134 rfl (by kernel_rfl);have i:Hid (_∧_):=⟨e,d⟩;clear e d h
 go_enter func74,ntmps74
 go_wp2
 obtain⟨e,d⟩:=i.out;exact bodyPost_ret (aj results74 rfl rfl e) rfl ⟨rfl,d⟩
theorem MK (R D L G a:Int)(gr:Bool)(sz b:Nat)(F:Nat)(w:World)(m:(a==1)=false):yC 74 #[ylV R D L G gr sz b a F,yi 4] w (yR w (.tuple #[yfV false 0 0,.bool false])):=by
 have n:=cD;have g:=af (w.alloc (.cells (ylA R D L G gr sz b a F) 93)) (.cells (yfA false 0 0) 134);have j:=(ah w (ylL R D L G gr sz b a F) 93).l g;have c:=ah (w.alloc (.cells (ylA R D L G gr sz b a F) 93)) (yfL false 0 0) 134;have k:=aa (af w (.cells (ylA R D L G gr sz b a F) 93)) g;rw[World.size_alloc] at c;clear g;obtain⟨u,v,x,y,z,A,B,C,E⟩:=j.cs9;obtain⟨r,s,t⟩:=c.cs3;have o:=c.f 0;have p:=c.f 1;have q:=c.f 2;have h:=ah (w.alloc (.cells (ylA R D L G gr sz b a F) 93)) (yfL false 0 0) 134;rw[World.size_alloc] at h;have d:=aa (af w (.cells (ylA R D L G gr sz b a F) 93)) (af _ (.cells (yfA false 0 0) 134));have e:=run_loadVar_mid (P:=Tryz.prog) _ (w.heap.size+1) 0 134 (yfL false 0 0) _ h.range underlying134 rfl (by kernel_rfl);have i:Hid (_∧_):=⟨e,d⟩;clear e d h
 go_enter func74,ntmps74
 go_wp2
 obtain⟨e,d⟩:=i.out;exact bodyPost_ret (aj results74 rfl rfl e) rfl ⟨rfl,d⟩
theorem ML (R D L G a:Int)(gr:Bool)(sz b:Nat)(F:Nat)(w:World)(m:(a==3)=false):yC 74 #[ylV R D L G gr sz b a F,yi 5] w (yR w (.tuple #[yfV false 0 0,.bool false])):=by
 have n:=cD;have g:=af (w.alloc (.cells (ylA R D L G gr sz b a F) 93)) (.cells (yfA false 0 0) 134);have j:=(ah w (ylL R D L G gr sz b a F) 93).l g;have c:=ah (w.alloc (.cells (ylA R D L G gr sz b a F) 93)) (yfL false 0 0) 134;have k:=aa (af w (.cells (ylA R D L G gr sz b a F) 93)) g;rw[World.size_alloc] at c;clear g;obtain⟨u,v,x,y,z,A,B,C,E⟩:=j.cs9;obtain⟨r,s,t⟩:=c.cs3;have o:=c.f 0;have p:=c.f 1;have q:=c.f 2;have h:=ah (w.alloc (.cells (ylA R D L G gr sz b a F) 93)) (yfL false 0 0) 134;rw[World.size_alloc] at h;have d:=aa (af w (.cells (ylA R D L G gr sz b a F) 93)) (af _ (.cells (yfA false 0 0) 134));have e:=run_loadVar_mid (P:=Tryz.prog) _ (w.heap.size+1) 0 134 (yfL false 0 0) _ h.range underlying134 rfl (by kernel_rfl);have i:Hid (_∧_):=⟨e,d⟩;clear e d h
 go_enter func74,ntmps74
 go_wp2
 obtain⟨e,d⟩:=i.out;exact bodyPost_ret (aj results74 rfl rfl e) rfl ⟨rfl,d⟩
theorem MM (R D L G h:Int)(gr:Bool)(sz a:Nat)(F:Nat)(w:World)(j:h=3):yC 74 #[ylV R D L G gr sz a h F,yi 5] w (yR w (.tuple #[yfV true 0 0,.bool true])):=by
 subst j;have n:=cD;have e:=af (w.alloc (.cells (ylA R D L G gr sz a 3 F) 93)) (.cells (yfA false 0 0) 134);have k:=(ah w (ylL R D L G gr sz a 3 F) 93).l e;have b:=ah (w.alloc (.cells (ylA R D L G gr sz a 3 F) 93)) (yfL false 0 0) 134;have m:=aa (af w (.cells (ylA R D L G gr sz a 3 F) 93)) e;rw[World.size_alloc] at b;clear e;obtain⟨u,v,x,y,z,A,B,C,E⟩:=k.cs9;obtain⟨r,s,t⟩:=b.cs3;have o:=b.f 0;have p:=b.f 1;have q:=b.f 2;have g:=ah (w.alloc (.cells (ylA R D L G gr sz a 3 F) 93)) (yfL true 0 0) 134;rw[World.size_alloc] at g;have c:=aa (af w (.cells (ylA R D L G gr sz a 3 F) 93)) (af _ (.cells (yfA true 0 0) 134));have d:=run_loadVar_mid (P:=Tryz.prog) _ (w.heap.size+1) 0 134 (yfL true 0 0) _ g.range underlying134 rfl (by kernel_rfl);have i:Hid (_∧_):=⟨d,c⟩;clear d c g
 go_enter func74,ntmps74
 go_wp2
 obtain⟨d,c⟩:=i.out;exact bodyPost_ret (aj results74 rfl rfl d) rfl ⟨rfl,c⟩
theorem reduced_any (H:Option Addr)(L I m n:Nat)(w:World)(f:Rd w .u32 (.slice H L I) (Dg.dg 4294967296 m))(T:(Dg.dg 4294967296 m).length≤10000)(K:n≤300000):
  yC 144 #[.slice H L I,yi n] w (TwR w (redF m n).1 (5^ (redF m n).2)):=by
 have F:Hid (∀(k:Nat) d,k≤300000→yC 79 #[yi k] d (NmR d (5^k))):=fun k d h=>fives_any k d h
 have O:Hid (∀(v:Value) (a q:Nat) d,a≤m→Rd d .u32 v (Dg.dg 4294967296 a)→au d q 105 [.int .u32 5]→yC 46 #[v,.slice (some ⟨q,0,none⟩) 1 1] d (Two d (a/5) (a % 5))):=fun v a q d X o Y=>by
  have p:Rd d .u32 (.slice (some ⟨q,0,none⟩) 1 1) [5]:=⟨_,_,rfl,by simp,by unfold maxLen;simp,fun _=>⟨_,0,rfl,fun i S=>by
   obtain rfl:i=0:=by simpa using S
   exact Y.c 0 rfl⟩⟩
  have W:(Dg.dg 4294967296 a).length≤900000:=Nat.le_trans (tD X) (by omega);have:=A9 v _ (Dg.dg 4294967296 a) [5] d o p (Dg.small_dg _ _ (by omega)) (Dg.small_cons.2 ⟨by omega,Dg.small_nil _ (by omega)⟩) (Dg.norm_dg _ _ (by omega)) (by have:=Dg.norm_dg 4294967296 5 (by omega);rwa [show Dg.dg 4294967296 5=[5] by decide] at this) (by simp) W
  rw[Dg.vl_dg _ _ (by omega)] at this;exact this
 obtain⟨R,A⟩: ∃r,redF m n=r:=⟨_,rfl⟩;rw[A];have j:=Below.refl w.heap.size w;have g:Hid (redF m n=R∧m≤m∧n≤300000):=⟨A,Nat.le_refl _,K⟩;clear T A
 go_enter func144,ntmps144
 go_wp2
 go_loopw [0,1] (fun Z B wr=> ∃a k:Nat,B=yi k∧Rd wr .u32 Z (Dg.dg 4294967296 a)∧yB w wr∧Hid (redF a k=R∧a≤m∧k≤300000)) (fun _ B _=>(intOf B).toNat)
 case atStart=>exact⟨m,n,rfl,f,j,g⟩
 case round=>
  clear f j g K;obtain⟨a,k,rfl,f,j,g⟩:=hrel;obtain⟨vo,vc,o⟩:=f.shape;subst o
  cases k with
  |zero=>
   obtain⟨e,-,-⟩:=g.out;have s:Hid _:=F.out 0 wr (by omega)
   go_wp2_with fail
   refine Calls.mono s.out ?_;rintro z d ⟨v,rfl,E,b⟩;have u:=f.l b;have t:=aa j b;clear f j b s
   go_wp2
   go_ret2
   rw[←e];exact⟨_,_,rfl,u,E,t⟩
  |succ k=>
   have J:Hid (k+1≤300000):=g.out.2.2;have a0:k≤300000:=by have:=J.out;omega
   have x:=af wr (.cells #[.int .u32 5] 105);have q:=ah wr [.int .u32 5] 105;have G:Hid _:=O.out _ a _ _ g.out.2.1 (f.l x) q;have a1:(0:Int)< ((k+1:Nat):Int):=by omega
   go_wp2_with fail
   refine Calls.mono G.out ?_;rintro z d ⟨v1,v2,rfl,M,N,b⟩;have y:=aa x b;have C:=f.l y;have D:=M.rd;have u:=N.rd;have t:=aa j y;obtain⟨po,pc,o⟩:=D.shape;subst o;obtain⟨so,sc,o⟩:=u.shape;subst o;clear x q G b f j M N y u
   by_cases p:a % 5=0
   ·have U:(Dg.dg 4294967296 (a % 5)).length=0:=by rw[p];rfl
    clear C
    go_wp2
    go_roundw
    case rel=>exact⟨a/5,k,by go_num,D,t,by
     obtain⟨e,Q,h3⟩:=g.out;unfold redF at e;rw[if_pos p] at e;exact⟨e,Nat.le_trans (Nat.div_le_self _ _) Q,by omega⟩⟩
    case measure=>simp[intOf]
   ·have U:0< (Dg.dg 4294967296 (a % 5)).length:=by
     rcases Nat.eq_zero_or_pos (Dg.dg 4294967296 (a % 5)).length with c|c
     ·exact absurd ((Dg.dg_nil_iff 4294967296 _ (by omega)).1 (List.length_eq_zero_iff.1 c)) p
     ·exact c
    have s:Hid _:=F.out (k+1) d J.out
    go_wp2_with fail
    refine Calls.mono s.out ?_;rintro z w2 ⟨v,rfl,E,b⟩;have r3:=C.l b;have P:=aa t b;clear C D t b s
    go_wp2
    go_ret2
    have e:=g.out.1;unfold redF at e;rw[if_neg p] at e;rw[←e];exact⟨_,_,rfl,r3,E,P⟩
theorem tratio_0 (ng:Bool)(j:ByteArray)(p:Int)(w:World)
  (a: ∀u,yC 143 #[.string j] u fun z w'=> ∃o n,z= .returned (.slice o 0 n)∧yB u w'):
  yC 107 #[.agg #[.bool ng,.string j,yi p]] w (RtZ w):=by
 replace a:Hid _:=a;obtain⟨D,b,s,t,r⟩:=iG w [.bool ng,.string j,yi p] 170 (yrL false yN yN 0) 128;replace b:Hid _:=b
 go_enter func107,ntmps107
 go_upto_region 1 with fail
 rw[b.out];clear b;have y:=s.c 1 rfl
 go_wp2_with fail
 refine(a.out _).mono ?_;rintro N f ⟨o,n,rfl,i⟩;have m:=t.l i;have q:=aa r i;clear s t r i a y;have E:=m.lt;have g:=af f (.cells #[.int .u32 1] 105);have k:=ah f [.int .u32 1] 105;have e:=m.l g;have h:=aa q g
 go_upto_region 3 with fail
 clear m q g;generalize f.alloc (.cells #[.int .u32 1] 105)=C at e k h⊢;have d:=afz (P:=Tryz.prog) e h (by omega) underlying128 rfl (by kernel_rfl) (.bool false) yN (.slice (some ⟨f.heap.size,0,none⟩) 1 1) (yi 0);have v:Hid (_∧_∧_):=⟨d.1,d.2.2.loc k (by omega),d.2.1⟩;obtain⟨⟨J,K,L,M⟩,F,G,H,I⟩:=afB e;clear d e k h
 go_wp2
 obtain⟨A,B,x⟩:=v.out;exact bodyPost_ret (br results107 rfl A) rfl ⟨_,rfl,B,x⟩
theorem Z5 {s:ByteArray}{p i g d x:Nat}(h:ack s p i g d)(e:byt s (p+i)=x)(f:48≤x)(j:x≤57):ack s p (i+1) (g*10+(x-48)) (d*10):=by
 obtain⟨a,b,c⟩:=h;refine⟨?_, ?_, ?_⟩
 ·show pv s (p+i)*10+(byt s (p+i)-48)=_
  rw[a,e,Nat.pow_succ,Nat.add_mul,Nat.mul_assoc];omega
 ·rw[Nat.pow_succ];omega
 ·rw[c,Nat.pow_succ]
theorem refPl_u1_mg:
  (∀(a:Bool) (n h i j R D L G f:Int) (gr k m g:Bool) (e:Option Addr) (d b:Nat) (w:World) (_:yJ 15 #[yi n] (.tuple #[yhV h i j R D L G gr 1,.bool k])),
  yC 60 #[yi n,ypV m (yS e d b) f a true g,yi 1] w (RVG w 3 m ⟨false,0,0⟩ 5))∧
  (∀(a:Bool) (n h i j R D L G f:Int) (gr k m g:Bool) (e:Option Addr) (d b:Nat) (w:World) (_:yJ 15 #[yi n] (.tuple #[yhV h i j R D L G gr 1,.bool k])),
  yC 60 #[yi n,ypV m (yS e d b) f a true g,yi 2] w (RVG w 3 m ⟨false,0,0⟩ 5))∧
  (∀(a:Bool) (n h i j R D L G f:Int) (gr k g:Bool) (e:Option Addr) (d b:Nat) (w:World) (_:yJ 15 #[yi n] (.tuple #[yhV h i j R D L G gr 1,.bool k])),
  yC 60 #[yi n,ypV false (yS e d b) f a true g,yi 4] w (RVG w 3 false ⟨false,0,0⟩ 5))∧
  (∀(a:Bool) (n h i j R D L G f:Int) (gr k g:Bool) (e:Option Addr) (d b:Nat) (w:World) (_:yJ 15 #[yi n] (.tuple #[yhV h i j R D L G gr 1,.bool k])),
  yC 60 #[yi n,ypV true (yS e d b) f a true g,yi 5] w (RVG w 3 true ⟨false,0,0⟩ 5)):=by
 refine⟨?_, ?_, ?_, ?_⟩;have _z:Mgk 0:=mgkI 0
 rotate_left
 have _z:Mgk 1:=mgkI 1
 rotate_left
 have _z:Mgk 2:=mgkI 2
 rotate_left
 rotate_left
 all_goals
  first| (rename Mgk 0=>_z;intro a n h i j R D L G f gr k m g e d b w o)| (rename Mgk 1=>_z;intro a n h i j R D L G f gr k m g e d b w o)| (rename Mgk 2=>_z;intro a n h i j R D L G f gr k g e d b w o)| (intro a n h i j R D L G f gr k g e d b w o)
  replace o:Hid _:=o
  first| (rename Mgk 0=>_z;obtain⟨B,p,u,v,t⟩:=iG w (ypL m (yS e d b) f a true g) 123 (yoL 0 false false yN 0) 30)| (rename Mgk 1=>_z;obtain⟨B,p,u,v,t⟩:=iG w (ypL m (yS e d b) f a true g) 123 (yoL 0 false false yN 0) 30)| (rename Mgk 2=>_z;obtain⟨B,p,u,v,t⟩:=iG w (ypL false (yS e d b) f a true g) 123 (yoL 0 false false yN 0) 30)| (obtain⟨B,p,u,v,t⟩:=iG w (ypL true (yS e d b) f a true g) 123 (yoL 0 false false yN 0) 30)
  replace p:Hid _:=p
  cases a
  all_goals
   go_enter func60,ntmps60
   go_upto_region 1 with fail
   rw[p.out];clear p
   go_wp2_with fail
   refine(o.out _).mono ?_;rintro zz I ⟨rfl,y⟩;have H:=u.l y;have E:=v.l y;have C:=aa t y;clear u v t y o;obtain⟨N,z,F,x⟩:=cA I (yhL h i j R D L G gr 1) 56;replace z:Hid _:=z;have U:w.heap.size≤I.heap.size:=C.size;have W:=E.lt;have A:=H.l x;have r:=E.l x;have s:=aa C x;clear H E C x
   go_upto_region 2 with fail
   rw[z.out];clear z;have O:=A.c 0 rfl;have Q:=A.c 3 rfl;have S:=A.c 4 rfl;have T:=F.c 8 rfl
   first| (rename Mgk 0=>_z;have q:=dL (P:=Tryz.prog) r s (by omega) underlying30 rfl (by kernel_rfl) (yi 3) (.bool m) (.bool false) yN (yi 0))| (rename Mgk 1=>_z;have q:=dL (P:=Tryz.prog) r s (by omega) underlying30 rfl (by kernel_rfl) (yi 3) (.bool m) (.bool false) yN (yi 0))| (rename Mgk 2=>_z;have q:=dL (P:=Tryz.prog) r s (by omega) underlying30 rfl (by kernel_rfl) (yi 3) (.bool false) (.bool false) yN (yi 0))| (have q:=dL (P:=Tryz.prog) r s (by omega) underlying30 rfl (by kernel_rfl) (yi 3) (.bool true) (.bool false) yN (yi 0))
   have J:Hid (_∧_):=⟨q.1,q.2.1⟩;obtain⟨⟨z0,z1,z2,z3,z4⟩,X,Y,Z,y3,y4⟩:=dN r;clear q A r F s
   go_wp2
   obtain⟨M,K⟩:=J.out;exact bodyPost_ret (aj results60 rfl rfl M) rfl ⟨_,rfl,aN _ _,jt _ _ _,K⟩
theorem nU (R D L G:Int)(gr:Bool)(v:Value)(t:ak)(w:World)(B:bk R D L G=0)(C:Rv w v t)(r:(Dg.dg 65536 t.n).length≤20000)(x: -79000≤t.e)(y:t.e≤200000):
  yC 25 #[v,ygV R D L G gr] w (yR w (.bool (inR R D L G gr t.n t.e))):=by
 obtain⟨s,n,e⟩:=t;simp only at r x y;obtain⟨W,rfl,m⟩:=C;obtain⟨p,q,rfl⟩:=m.shape;simp only at m⊢;obtain⟨N,H,I,Q,T,J,K,U,S⟩:=cB B
 by_cases f:n=0
 ·rw[show inR R D L G gr n e=true from decide_eq_true (.inl f)]
  subst f;exact LU R D L G gr s p q e w
 ·have O:bitLen n≤16*20000:=BE r
  have P:=eN R;have j:=Gh R D e (bitLen n) (by omega);have u: -600000≤aT R D (e+(bitLen n:Int)-1)∧aT R D (e+(bitLen n:Int)-1)≤600000∧ -2400000≤(ai R:Int)*aT R D (e+(bitLen n:Int)-1)∧(ai R:Int)*aT R D (e+(bitLen n:Int)-1)≤2400000:=by
   clear j;unfold aT ai
   split<;>simp<;>omega
  have A: -68000≤(ai R:Int)*L∧(ai R:Int)*L≤68000:=by
   clear j u;unfold ai
   split<;>simp<;>omega
  have M: -70000≤(ai R:Int)*(G+D)∧(ai R:Int)*(G+D)≤70000:=by
   clear j u A;unfold ai
   split<;>simp<;>omega
  have E:=Int.natAbs_tdiv_le_natAbs (e+(bitLen n:Int)-1+80000) (ai R);have F:=Int.natAbs_tdiv_le_natAbs (80000:Int) (ai R);have a:inR R D L G gr n e=true↔((ai R:Int)*L≤e∧e+(bitLen n:Int)≤(ai R:Int)*(G+D)∧(gr=true∨L≤aT R D (e+(bitLen n:Int)-1))∧(ai R:Int)*max L (aT R D (e+(bitLen n:Int)-1))≤e):=by
   unfold inR;rw[decide_eq_true_iff]
   constructor
   ·rintro(h|h)
    ·exact absurd h f
    ·exact h
   ·exact .inr
  have i: ∀{b:Bool},¬b=true→b=false:=fun h=>by simpa using h
  refine Sj R D L G gr s p _ q e (ai R) (bitLen n) _ _ (aT R D (e+(bitLen n:Int)-1)) (inR R D L G gr n e) w ?_ ?_ ?_ ?_ ?_ ?_ ?_ ?_ ?_ rfl rfl ?_ ?_ ?_ ?_ ?_ ?_ ?_ ?_ ?_ ?_ ?_ ?_ ?_ ?_
  ·simp
   rw[Dg.dg_nil_iff _ _ (by omega)];exact f
  ·simp
   omega
  ·omega
  ·exact IntWalk.i64_in _ ⟨by omega,by omega⟩
  ·exact IntWalk.i64_in _ ⟨by omega,by omega⟩
  ·exact IntWalk.i64_in _ ⟨by omega,by omega⟩
  ·exact IntWalk.i64_in _ ⟨by omega,by omega⟩
  ·exact IntWalk.i64_in _ ⟨by omega,by omega⟩
  ·exact IntWalk.i64_in _ ⟨by omega,by omega⟩
  ·exact IntWalk.i64_in _ ⟨by omega,by omega⟩
  ·exact IntWalk.i64_in _ ⟨by omega,by omega⟩
  ·exact IntWalk.i64_in _ ⟨by omega,by omega⟩
  ·exact IntWalk.i64_in _ ⟨by omega,by omega⟩
  ·rw[j]
   exact IntWalk.i64_in _ ⟨by omega,by omega⟩
  ·exact IntWalk.i64_in _ ⟨by omega,by omega⟩
  ·intro h
   refine i fun c=> ?_
   have:=a.1 c;omega
  ·intro h g
   refine i fun c=> ?_
   have:=a.1 c;omega
  ·intro h g k d
   refine i fun c=> ?_
   rcases(a.1 c).2.2.1 with h5|h5
   ·rw[d] at h5
    cases h5
   ·omega
  ·intro h g k d
   refine a.2 ⟨by omega,by omega,.inl d, ?_⟩;rw[Int.max_eq_left (by omega)];omega
  ·intro h g k d
   refine a.2 ⟨by omega,by omega,.inr (by omega), ?_⟩;rw[Int.max_eq_right (by omega)];omega
  ·intro h g k d
   refine i fun c=> ?_
   have:=(a.1 c).2.2.2;rw[Int.max_eq_right (by omega)] at this;omega
  ·intro o
   have:=nh R D L G gr o
   rwa [jf] at this
  ·intro o b
   have:=kF _ _ o (m.l b) (Dg.small_dg _ _ (by omega)) (Dg.norm_dg _ _ (by omega)) (by omega);rw[Dg.vl_dg _ _ (by omega)] at this;refine this.mono ?_;rintro z w' ⟨rfl,rfl⟩;exact⟨rfl,Below.refl _ _⟩
theorem xO (f:Nat): ∀(c x:Nat) (zs:List Nat) (i:Nat),f+c≤8*zs.length→fU (iS f c x zs) i=if f≤i∧i<f+c then(if x/2^ (f+c-1-i) % 2=1 then 1 else fU zs i) else fU zs i
 |0,x,zs,i,_=>by
  rw[iS,if_neg (by omega)]
 |c+1,x,zs,i,h=>by
  rw[iS,xO f c (x/2) _ i (by rw[List.length_set];omega),Wp _ _ _ _ (Nat.mod_lt _ (by omega)) (by omega)]
  by_cases a:f≤i∧i<f+c
  ·rw[if_pos a,if_pos (show f≤i∧i<f+(c+1) by omega),if_neg (show¬i=f+c by omega),Nat.div_div_eq_div_mul,←Nat.pow_succ',show(f+c-1-i).succ=f+(c+1)-1-i from by omega]
  ·rw[if_neg a]
   by_cases b:i=f+c
   ·rw[if_pos b,if_pos (show f≤i∧i<f+(c+1) by omega),show f+(c+1)-1-i=0 from by omega,Nat.pow_zero,Nat.div_one]
   ·rw[if_neg b,if_neg (show¬(f≤i∧i<f+(c+1)) by omega)]
theorem Id (n N M R D L G d:Int)(gr ng z E:Bool)(e:Option Addr)(b g:Nat)(m:Nat)(w:World)(a9:b=(Dg.dg 4294967296 m).length)(hr:Rd w .u32 (.slice e b g) (Dg.dg 4294967296 m))(a7:E=true→ ¬d<L)(Y fl:Int)(H:Y=if b=0 then 1 else 2)(v:fl=if z=true then 0 else if E=true then 3 else 1):
  yC 111 #[ykV n N M R D L G gr,ypV ng (.slice e b g) d z false E] w (B6 w Y ng m d fl):=by
 have t:Hid (b=(Dg.dg 4294967296 m).length∧Y=(if b=0 then 1 else 2)∧fl=if z=true then 0 else if E=true then 3 else 1):=⟨a9,H,v⟩
 clear H v a9;have a1:=af w (.cells (ykA n N M R D L G gr) 175);have a2:=af (w.alloc (.cells (ykA n N M R D L G gr) 175)) (.cells (ypA ng (.slice e b g) d z false E) 141);have a3:=af ((w.alloc (.cells (ykA n N M R D L G gr) 175)).alloc (.cells (ypA ng (.slice e b g) d z false E) 141)) (.cells (yvA 0 false yN 0) 39);have d0:=((ah w (ykL n N M R D L G gr) 175).l a2).l a3;have p0:=(ah (w.alloc (.cells (ykA n N M R D L G gr) 175)) (ypL ng (.slice e b g) d z false E) 141).l a3;have v0:=ah ((w.alloc (.cells (ykA n N M R D L G gr) 175)).alloc (.cells (ypA ng (.slice e b g) d z false E) 141)) (yvL 0 false yN 0) 39;rw[World.size_alloc] at p0;rw[World.size_alloc,World.size_alloc] at v0;have b0:=aa (aa a1 a2) a3;clear a1 a2 a3
 go_enter func111,ntmps111
 go_upto_block 0 with fail
 generalize((w.alloc (.cells (ykA n N M R D L G gr) 175)).alloc (.cells (ypA ng (.slice e b g) d z false E) 141)).alloc (.cells (yvA 0 false yN 0) 39)=W0 at d0 p0 v0 b0⊢;have r0:=hr.l b0;clear hr;have al:=af W0 (.cells (yvA 2 ng (.slice e b g) d) 39);have x:=ah W0 (yvL 2 ng (.slice e b g) d) 39;have I:=p0.l al;have J:=v0.l al;have A:=r0.l al;have F:=aa b0 al;have hq:w.heap.size+1+1<W0.heap.size:=v0.lt;have ab:W0.heap.size≠w.heap.size+1:=by omega
 obtain⟨O,S,T,U,W,X⟩:=p0.cs6;have y5:=d0.c 5 rfl;clear al p0 v0 b0 r0;have go: ∀UU,UU=E→(UU=false∨(UU=true∧ ¬d<L)):=fun UU h=>by
  subst h
  cases UU
  ·exact .inl rfl
  ·exact .inr ⟨rfl,a7 rfl⟩
 rcases go E rfl with a8| ⟨a8,ac⟩
 ·subst a8
  clear a7 go
  go_upto_region 6 with fail
  generalize W0.alloc (.cells (yvA 2 ng (.slice e b g) d) 39)=K at x I J A F⊢;generalize W0.heap.size=Q at x hq ab⊢;clear O S T U W X y5 d0;obtain⟨O,S,T,U,W,X⟩:=I.cs6
  by_cases C:b=0
  ·have a6:(((b:Nat):Int)==0)=true:=by rw[C];rfl
   have H:Y=1:=by rw[t.out.2.1,if_pos C]
   subst H;clear C;have c0:=x.c 0 rfl;have f0:=x.f 0;have B:=ag K Q 0 (yi 1);have s:au (K.setCell ⟨Q,0,none⟩ (yi 1)) Q 39 (yvL 1 ng (.slice e b g) d):=x.set 0 (yi 1);have p2:=B.loc I (by omega);have a:=B.loc J (by omega);have p:=B.rd A (aX A x (by simp));have r:=B.below F (by omega)
   go_upto_block 1 with fail
   generalize K.setCell ⟨Q,0,none⟩ (yi 1)=u at s p2 a p r⊢;clear c0 f0 B x I J A F O S T U W X a6;obtain⟨O,S,T,U,W,X⟩:=p2.cs6;clear p2
   cases z
   ·have v:fl=1:=t.out.2.2
    subst v;clear t;have q:au ((((u.setCell ⟨w.heap.size+1+1,0,none⟩ (yi 1)).setCell ⟨w.heap.size+1+1,1,none⟩ (.bool ng)).setCell ⟨w.heap.size+1+1,2,none⟩ (.slice e b g)).setCell ⟨w.heap.size+1+1,3,none⟩ (yi d)) (w.heap.size+1+1) 39 (yvL 1 ng (.slice e b g) d):=((((a.set 0 (yi 1)).set 1 (.bool ng)).set 2 (.slice e b g)).set 3 (yi d));have o:=(((ag u (w.heap.size+1+1) 0 (yi 1)).trans (ag _ (w.heap.size+1+1) 1 (.bool ng))).trans (ag _ (w.heap.size+1+1) 2 (.slice e b g))).trans (ag _ (w.heap.size+1+1) 3 (yi d));have i:=o.below r (by omega);have k:=o.rd p (aX p a (by simp));have j:=run_loadVar_mid (P:=Tryz.prog) _ (w.heap.size+1+1) 0 39 (yvL 1 ng (.slice e b g) d) _ q.range underlying39 rfl (by kernel_rfl);have y:Hid (_∧_∧_):=⟨j,k,i⟩;obtain⟨z0,z1,z2,z3⟩:=a.cs4;have Z:=a.f 0;have a0:=a.f 1;have a4:=a.f 2;have a5:=a.f 3;clear j i o q k;obtain⟨k0,k1,k2,k3⟩:=s.cs4;clear a r p s
    go_wp2
    obtain⟨j,k,i⟩:=y.out;exact bodyPost_ret (aj results111 rfl rfl j) rfl ⟨_,rfl,k,i⟩
   ·have v:fl=0:=t.out.2.2
    subst v;clear t;have q:au ((((u.setCell ⟨w.heap.size+1+1,0,none⟩ (yi 1)).setCell ⟨w.heap.size+1+1,1,none⟩ (.bool ng)).setCell ⟨w.heap.size+1+1,2,none⟩ (.slice e b g)).setCell ⟨w.heap.size+1+1,3,none⟩ (yi d)) (w.heap.size+1+1) 39 (yvL 1 ng (.slice e b g) d):=((((a.set 0 (yi 1)).set 1 (.bool ng)).set 2 (.slice e b g)).set 3 (yi d));have o:=(((ag u (w.heap.size+1+1) 0 (yi 1)).trans (ag _ (w.heap.size+1+1) 1 (.bool ng))).trans (ag _ (w.heap.size+1+1) 2 (.slice e b g))).trans (ag _ (w.heap.size+1+1) 3 (yi d));have i:=o.below r (by omega);have k:=o.rd p (aX p a (by simp));have j:=run_loadVar_mid (P:=Tryz.prog) _ (w.heap.size+1+1) 0 39 (yvL 1 ng (.slice e b g) d) _ q.range underlying39 rfl (by kernel_rfl);have y:Hid (_∧_∧_):=⟨j,k,i⟩;obtain⟨z0,z1,z2,z3⟩:=a.cs4;have Z:=a.f 0;have a0:=a.f 1;have a4:=a.f 2;have a5:=a.f 3;clear j i o q k;obtain⟨k0,k1,k2,k3⟩:=s.cs4;clear a r p s
    go_wp2
    obtain⟨j,k,i⟩:=y.out;exact bodyPost_ret (aj results111 rfl rfl j) rfl ⟨_,rfl,k,i⟩
  ·have a6:(((b:Nat):Int)==0)=false:=beq_eq_false_iff_ne.2 (by omega)
   have H:Y=2:=by rw[t.out.2.1,if_neg C]
   subst H;clear C
   go_upto_block 1 with fail
   have s:=x;have a:=J;have p:=A;have r:=F;clear x J A F I a6;generalize K=u at*
   cases z
   ·have v:fl=1:=t.out.2.2
    subst v;clear t;have q:au ((((u.setCell ⟨w.heap.size+1+1,0,none⟩ (yi 2)).setCell ⟨w.heap.size+1+1,1,none⟩ (.bool ng)).setCell ⟨w.heap.size+1+1,2,none⟩ (.slice e b g)).setCell ⟨w.heap.size+1+1,3,none⟩ (yi d)) (w.heap.size+1+1) 39 (yvL 2 ng (.slice e b g) d):=((((a.set 0 (yi 2)).set 1 (.bool ng)).set 2 (.slice e b g)).set 3 (yi d));have o:=(((ag u (w.heap.size+1+1) 0 (yi 2)).trans (ag _ (w.heap.size+1+1) 1 (.bool ng))).trans (ag _ (w.heap.size+1+1) 2 (.slice e b g))).trans (ag _ (w.heap.size+1+1) 3 (yi d));have i:=o.below r (by omega);have k:=o.rd p (aX p a (by simp));have j:=run_loadVar_mid (P:=Tryz.prog) _ (w.heap.size+1+1) 0 39 (yvL 2 ng (.slice e b g) d) _ q.range underlying39 rfl (by kernel_rfl);have y:Hid (_∧_∧_):=⟨j,k,i⟩;obtain⟨z0,z1,z2,z3⟩:=a.cs4;have Z:=a.f 0;have a0:=a.f 1;have a4:=a.f 2;have a5:=a.f 3;clear j i o q k;obtain⟨k0,k1,k2,k3⟩:=s.cs4;clear a r p s
    go_wp2
    obtain⟨j,k,i⟩:=y.out;exact bodyPost_ret (aj results111 rfl rfl j) rfl ⟨_,rfl,k,i⟩
   ·have v:fl=0:=t.out.2.2
    subst v;clear t;have q:au ((((u.setCell ⟨w.heap.size+1+1,0,none⟩ (yi 2)).setCell ⟨w.heap.size+1+1,1,none⟩ (.bool ng)).setCell ⟨w.heap.size+1+1,2,none⟩ (.slice e b g)).setCell ⟨w.heap.size+1+1,3,none⟩ (yi d)) (w.heap.size+1+1) 39 (yvL 2 ng (.slice e b g) d):=((((a.set 0 (yi 2)).set 1 (.bool ng)).set 2 (.slice e b g)).set 3 (yi d));have o:=(((ag u (w.heap.size+1+1) 0 (yi 2)).trans (ag _ (w.heap.size+1+1) 1 (.bool ng))).trans (ag _ (w.heap.size+1+1) 2 (.slice e b g))).trans (ag _ (w.heap.size+1+1) 3 (yi d));have i:=o.below r (by omega);have k:=o.rd p (aX p a (by simp));have j:=run_loadVar_mid (P:=Tryz.prog) _ (w.heap.size+1+1) 0 39 (yvL 2 ng (.slice e b g) d) _ q.range underlying39 rfl (by kernel_rfl);have y:Hid (_∧_∧_):=⟨j,k,i⟩;obtain⟨z0,z1,z2,z3⟩:=a.cs4;have Z:=a.f 0;have a0:=a.f 1;have a4:=a.f 2;have a5:=a.f 3;clear j i o q k;obtain⟨k0,k1,k2,k3⟩:=s.cs4;clear a r p s
    go_wp2
    obtain⟨j,k,i⟩:=y.out;exact bodyPost_ret (aj results111 rfl rfl j) rfl ⟨_,rfl,k,i⟩
 ·subst a8
  clear a7 go
  go_upto_region 6 with fail
  generalize W0.alloc (.cells (yvA 2 ng (.slice e b g) d) 39)=K at x I J A F⊢;generalize W0.heap.size=Q at x hq ab⊢;clear O S T U W X y5 d0;obtain⟨O,S,T,U,W,X⟩:=I.cs6
  by_cases C:b=0
  ·have a6:(((b:Nat):Int)==0)=true:=by rw[C];rfl
   have H:Y=1:=by rw[t.out.2.1,if_pos C]
   subst H;clear C;have c0:=x.c 0 rfl;have f0:=x.f 0;have B:=ag K Q 0 (yi 1);have s:au (K.setCell ⟨Q,0,none⟩ (yi 1)) Q 39 (yvL 1 ng (.slice e b g) d):=x.set 0 (yi 1);have p2:=B.loc I (by omega);have a:=B.loc J (by omega);have p:=B.rd A (aX A x (by simp));have r:=B.below F (by omega)
   go_upto_block 1 with fail
   generalize K.setCell ⟨Q,0,none⟩ (yi 1)=u at s p2 a p r⊢;clear c0 f0 B x I J A F O S T U W X a6;obtain⟨O,S,T,U,W,X⟩:=p2.cs6;clear p2
   cases z
   ·have v:fl=3:=t.out.2.2
    subst v;clear t;have q:au ((((u.setCell ⟨w.heap.size+1+1,0,none⟩ (yi 1)).setCell ⟨w.heap.size+1+1,1,none⟩ (.bool ng)).setCell ⟨w.heap.size+1+1,2,none⟩ (.slice e b g)).setCell ⟨w.heap.size+1+1,3,none⟩ (yi d)) (w.heap.size+1+1) 39 (yvL 1 ng (.slice e b g) d):=((((a.set 0 (yi 1)).set 1 (.bool ng)).set 2 (.slice e b g)).set 3 (yi d));have o:=(((ag u (w.heap.size+1+1) 0 (yi 1)).trans (ag _ (w.heap.size+1+1) 1 (.bool ng))).trans (ag _ (w.heap.size+1+1) 2 (.slice e b g))).trans (ag _ (w.heap.size+1+1) 3 (yi d));have i:=o.below r (by omega);have k:=o.rd p (aX p a (by simp));have j:=run_loadVar_mid (P:=Tryz.prog) _ (w.heap.size+1+1) 0 39 (yvL 1 ng (.slice e b g) d) _ q.range underlying39 rfl (by kernel_rfl);have y:Hid (_∧_∧_):=⟨j,k,i⟩;obtain⟨z0,z1,z2,z3⟩:=a.cs4;have Z:=a.f 0;have a0:=a.f 1;have a4:=a.f 2;have a5:=a.f 3;clear j i o q k;obtain⟨k0,k1,k2,k3⟩:=s.cs4;clear a r p s
    go_wp2
    obtain⟨j,k,i⟩:=y.out;exact bodyPost_ret (aj results111 rfl rfl j) rfl ⟨_,rfl,k,i⟩
   ·have v:fl=0:=t.out.2.2
    subst v;clear t;have q:au ((((u.setCell ⟨w.heap.size+1+1,0,none⟩ (yi 1)).setCell ⟨w.heap.size+1+1,1,none⟩ (.bool ng)).setCell ⟨w.heap.size+1+1,2,none⟩ (.slice e b g)).setCell ⟨w.heap.size+1+1,3,none⟩ (yi d)) (w.heap.size+1+1) 39 (yvL 1 ng (.slice e b g) d):=((((a.set 0 (yi 1)).set 1 (.bool ng)).set 2 (.slice e b g)).set 3 (yi d));have o:=(((ag u (w.heap.size+1+1) 0 (yi 1)).trans (ag _ (w.heap.size+1+1) 1 (.bool ng))).trans (ag _ (w.heap.size+1+1) 2 (.slice e b g))).trans (ag _ (w.heap.size+1+1) 3 (yi d));have i:=o.below r (by omega);have k:=o.rd p (aX p a (by simp));have j:=run_loadVar_mid (P:=Tryz.prog) _ (w.heap.size+1+1) 0 39 (yvL 1 ng (.slice e b g) d) _ q.range underlying39 rfl (by kernel_rfl);have y:Hid (_∧_∧_):=⟨j,k,i⟩;obtain⟨z0,z1,z2,z3⟩:=a.cs4;have Z:=a.f 0;have a0:=a.f 1;have a4:=a.f 2;have a5:=a.f 3;clear j i o q k;obtain⟨k0,k1,k2,k3⟩:=s.cs4;clear a r p s
    go_wp2
    obtain⟨j,k,i⟩:=y.out;exact bodyPost_ret (aj results111 rfl rfl j) rfl ⟨_,rfl,k,i⟩
  ·have a6:(((b:Nat):Int)==0)=false:=beq_eq_false_iff_ne.2 (by omega)
   have H:Y=2:=by rw[t.out.2.1,if_neg C]
   subst H;clear C
   go_upto_block 1 with fail
   have s:=x;have a:=J;have p:=A;have r:=F;clear x J A F I a6;generalize K=u at*
   cases z
   ·have v:fl=3:=t.out.2.2
    subst v;clear t;have q:au ((((u.setCell ⟨w.heap.size+1+1,0,none⟩ (yi 2)).setCell ⟨w.heap.size+1+1,1,none⟩ (.bool ng)).setCell ⟨w.heap.size+1+1,2,none⟩ (.slice e b g)).setCell ⟨w.heap.size+1+1,3,none⟩ (yi d)) (w.heap.size+1+1) 39 (yvL 2 ng (.slice e b g) d):=((((a.set 0 (yi 2)).set 1 (.bool ng)).set 2 (.slice e b g)).set 3 (yi d));have o:=(((ag u (w.heap.size+1+1) 0 (yi 2)).trans (ag _ (w.heap.size+1+1) 1 (.bool ng))).trans (ag _ (w.heap.size+1+1) 2 (.slice e b g))).trans (ag _ (w.heap.size+1+1) 3 (yi d));have i:=o.below r (by omega);have k:=o.rd p (aX p a (by simp));have j:=run_loadVar_mid (P:=Tryz.prog) _ (w.heap.size+1+1) 0 39 (yvL 2 ng (.slice e b g) d) _ q.range underlying39 rfl (by kernel_rfl);have y:Hid (_∧_∧_):=⟨j,k,i⟩;obtain⟨z0,z1,z2,z3⟩:=a.cs4;have Z:=a.f 0;have a0:=a.f 1;have a4:=a.f 2;have a5:=a.f 3;clear j i o q k;obtain⟨k0,k1,k2,k3⟩:=s.cs4;clear a r p s
    go_wp2
    obtain⟨j,k,i⟩:=y.out;exact bodyPost_ret (aj results111 rfl rfl j) rfl ⟨_,rfl,k,i⟩
   ·have v:fl=0:=t.out.2.2
    subst v;clear t;have q:au ((((u.setCell ⟨w.heap.size+1+1,0,none⟩ (yi 2)).setCell ⟨w.heap.size+1+1,1,none⟩ (.bool ng)).setCell ⟨w.heap.size+1+1,2,none⟩ (.slice e b g)).setCell ⟨w.heap.size+1+1,3,none⟩ (yi d)) (w.heap.size+1+1) 39 (yvL 2 ng (.slice e b g) d):=((((a.set 0 (yi 2)).set 1 (.bool ng)).set 2 (.slice e b g)).set 3 (yi d));have o:=(((ag u (w.heap.size+1+1) 0 (yi 2)).trans (ag _ (w.heap.size+1+1) 1 (.bool ng))).trans (ag _ (w.heap.size+1+1) 2 (.slice e b g))).trans (ag _ (w.heap.size+1+1) 3 (yi d));have i:=o.below r (by omega);have k:=o.rd p (aX p a (by simp));have j:=run_loadVar_mid (P:=Tryz.prog) _ (w.heap.size+1+1) 0 39 (yvL 2 ng (.slice e b g) d) _ q.range underlying39 rfl (by kernel_rfl);have y:Hid (_∧_∧_):=⟨j,k,i⟩;obtain⟨z0,z1,z2,z3⟩:=a.cs4;have Z:=a.f 0;have a0:=a.f 1;have a4:=a.f 2;have a5:=a.f 3;clear j i o q k;obtain⟨k0,k1,k2,k3⟩:=s.cs4;clear a r p s
    go_wp2
    obtain⟨j,k,i⟩:=y.out;exact bodyPost_ret (aj results111 rfl rfl j) rfl ⟨_,rfl,k,i⟩
theorem scaled_any (xg:Bool)(xn:Nat)(g:Option Addr)(f:Nat)(e n:Int)(w:World)(E:Rd w .u32 (yT g xn f) (Dg.dg 4294967296 xn))(I:xn<2^64)(e1: -16500≤e)(Y:e≤16500)(n1: -5100≤n)(n2:n≤5100):
  yC 41 #[ydV xg (yT g xn f) e,yi n] w (NbR w (scA xn e n/scB e n) (decide (0< (Dg.dg 4294967296 (scA xn e n % scB e n)).length))):=by
 obtain⟨a,P⟩: ∃a,a=64:=⟨_,rfl⟩;obtain⟨c,hc⟩: ∃c,c=36964:=⟨_,rfl⟩;rw[←P] at I;obtain⟨l1,U,l3⟩:=sc_in P hc I Y n2;have a2:(Dg.dg 4294967296 xn).length≤2:=jq I (by omega);have C:IntKind.i64.wrap (e+n)=e+n:=IntWalk.i64_in _ ⟨by omega,by omega⟩;have T:IntKind.i64.wrap (-(e+n))= -(e+n):=IntWalk.i64_in _ ⟨by omega,by omega⟩;have S:IntKind.i64.wrap (-n)= -n:=IntWalk.i64_in _ ⟨by omega,by omega⟩;have z: ∀(m:Nat) (t:Int) o k b,(Dg.dg 4294967296 m).length≤900000→0≤t→t≤900000→Rd b .u32 (yT o m k) (Dg.dg 4294967296 m)→yC 43 #[yT o m k,yi t] b (NmR b (m*2^t.toNat)):=fun m t o k b R t0 t1 hr=>by
  have:=eO _ _ t b hr (Dg.small_dg _ _ (by omega)) (by omega) (by omega) (by omega);rw[Dg.vl_dg _ _ (by omega),CE m t t0] at this;exact this.mono fun _ _ h=>num_nmR h
 have y: ∀(m d:Nat) o k M J b,(Dg.dg 4294967296 m).length≤900000→d≠0→Rd b .u32 (yT o m k) (Dg.dg 4294967296 m)→Rd b .u32 (yT M d J) (Dg.dg 4294967296 d)→yC 46 #[yT o m k,yT M d J] b (TwR b (m/d) (m % d)):=fun m d o k M J b R Q i j=>by
  have:=A9 _ _ _ _ b i j (Dg.small_dg _ _ (by omega)) (Dg.small_dg _ _ (by omega)) (Dg.norm_dg _ _ (by omega)) (Dg.norm_dg _ _ (by omega)) (fun c=>Q ((Dg.dg_nil_iff 4294967296 _ (by omega)).1 c)) R
  rw[Dg.vl_dg _ _ (by omega),Dg.vl_dg _ _ (by omega)] at this;exact this.mono fun _ _ h=>two_tw h
 have G:Dg.dg 4294967296 1=[1]:=by decide
 have D: ∀m,m<2^c→(Dg.dg 4294967296 m).length≤900000:=fun m h=>Nat.le_trans (jq (L:=1156) h (by omega)) (by omega)
 have X: ∀k:Nat,5^k≠0:=fun k=>Nat.ne_of_gt (Nat.pow_pos (by omega))
 have W: ∀k:Nat,2^k≠0:=fun k=>Nat.ne_of_gt (Nat.pow_pos (by omega))
 obtain⟨d,Q⟩: ∃d,d=15301:=⟨_,rfl⟩
 by_cases B:0<n
 ·have v:=fun b=>fives_int n b (by omega) (by omega)
  have Z:(Dg.dg 4294967296 (5^n.toNat)).length≤479:=jq (k:=d) (Nat.lt_of_le_of_lt (pow5_two _) (Nat.pow_lt_pow_right (by omega) (by omega))) (by omega);have N: ∀g f p l b,Rd b .u32 (yT g xn f) (Dg.dg 4294967296 xn)→Rd b .u32 (.slice p (Dg.dg 4294967296 (5^n.toNat)).length l) (Dg.dg 4294967296 (5^n.toNat))→yC 78 #[yT g xn f,.slice p (Dg.dg 4294967296 (5^n.toNat)).length l] b (NmR b (xn*5^n.toNat)):=fun g f p l b i j=>by
   have:=qC _ _ _ _ b i j (Dg.small_dg _ _ (by omega)) (Dg.small_dg _ _ (by omega)) (by omega) (by omega);rw[Dg.vl_dg _ _ (by omega),Dg.vl_dg _ _ (by omega)] at this;exact this.mono fun _ _ h=>num_nmR h
  have O:(-n).toNat=0:=by omega
  by_cases x:0<e+n
  ·have u:scB e n=1:=by
    unfold scB;rw[O,show(-(e+n)).toNat=0 by omega]
   rw[u];exact tscaled_uu xg xn g f e n _ _ _ (scA xn e n) _ _ w E C B x v N (fun s r b h=>z _ _ s r b (D _ U) (by omega) (by omega) h) (fun no K q b h H=>by
    have:=y _ 1 no K (some ⟨q,0,none⟩) 1 b (D _ l1) (by omega) h (by rw[G];exact xD (H.c 0 rfl));exact this)
  ·have A:scA xn e n=xn*5^n.toNat:=by
    unfold scA;rw[show(e+n).toNat=0 by omega,Nat.pow_zero,Nat.mul_one]
   have u:scB e n=2^ (-(e+n)).toNat:=by
    unfold scB;rw[O,Nat.pow_zero,Nat.one_mul]
   rw[A,u];exact tscaled_ud xg xn g f e n _ _ _ _ (2^ (-(e+n)).toNat) _ _ w E C B x T v N (fun q b H=>by
    have:=z 1 (-(e+n)) (some ⟨q,0,none⟩) 1 b (by rw[G];simp) (by omega) (by omega) (by rw[G];exact xD (H.c 0 rfl));rw[Nat.one_mul] at this;exact this) (fun s r go F b i j=>y _ _ s r go F b (D _ U) (W _) i j)
 ·have v:=fun b=>fives_int (-n) b (by omega) (by omega)
  have Z:(Dg.dg 4294967296 (5^ (-n).toNat)).length≤479:=jq (k:=d) (Nat.lt_of_le_of_lt (pow5_two _) (Nat.pow_lt_pow_right (by omega) (by omega))) (by omega);have a1:n.toNat=0:=by omega
  have A:scA xn e n=xn*2^ (e+n).toNat:=by
   unfold scA;rw[a1,Nat.pow_zero,Nat.mul_one]
  by_cases x:0<e+n
  ·have u:scB e n=5^ (-n).toNat:=by
    unfold scB;rw[show(-(e+n)).toNat=0 by omega,Nat.pow_zero,Nat.mul_one]
   rw[A,u];exact tscaled_du xg xn g f e n _ _ _ (xn*2^ (e+n).toNat) _ _ w E C B x S v (fun s r b h=>z _ _ s r b (by omega) (by omega) (by omega) h) (fun no K p l b i j=>y _ _ no K p l b (D _ l3) (X _) i j)
  ·have a0:scA xn e n=xn:=by
    rw[A,show(e+n).toNat=0 by omega,Nat.pow_zero,Nat.mul_one]
   have u:scB e n=5^ (-n).toNat*2^ (-(e+n)).toNat:=rfl;rw[a0];exact tscaled_dd xg xn g f e n _ _ _ _ (scB e n) _ _ w E C B x S T v (fun p l b h=>z _ _ p l b (by omega) (by omega) (by omega) h) (fun s r go F b i j=>y _ _ s r go F b (by omega) (Nat.mul_ne_zero (X _) (W _)) i j)
theorem ov_any (m d:Nat)(o:Option Addr)(k:Nat)(e:Option Addr)(b:Nat)(a:World)(j:(Dg.dg 4294967296 m).length≤900000)(i:d≠0)(f:Rd a .u32 (yT o m k) (Dg.dg 4294967296 m))(g:Rd a .u32 (yT e d b) (Dg.dg 4294967296 d)):yC 46 #[yT o m k,yT e d b] a (TwR a (m/d) (m % d)):=by
 have:=A9 _ _ _ _ a f g (Dg.small_dg _ _ (by omega)) (Dg.small_dg _ _ (by omega)) (Dg.norm_dg _ _ (by omega)) (Dg.norm_dg _ _ (by omega)) (fun c=>i ((Dg.dg_nil_iff 4294967296 _ (by omega)).1 c)) j
 rw[Dg.vl_dg _ _ (by omega),Dg.vl_dg _ _ (by omega)] at this;exact this.mono fun _ _ h=>two_tw h
theorem decS_list (n:Nat):oW n=⟨(Lib.decDigits n).toArray⟩:=by
 unfold oW
 by_cases h:n=0
 ·subst h
  rw[if_pos rfl,Lib.decDigits_one (by omega)];rfl
 ·rw[if_neg h]
  unfold cF;rw[dec_list n h]
theorem byt_list (x:List UInt8)(i:Nat)(h:i<x.length):byt ⟨x.toArray⟩ i=(x[i]).toNat:=by
 rw[←KD ⟨x.toArray⟩ i (by rw[mk_size];exact h)];rfl
theorem pv_list (x:List UInt8): ∀k,k≤x.length→pv ⟨x.toArray⟩ k=lvD (x.take k):=by
 intro k
 induction k with
 |zero=>intro _;rfl
 |succ k ih=>
  intro h;have e:x.take (k+1)=x.take k++[x[k]]:=by rw[List.take_succ_eq_append_getElem (by omega)]
  rw[e,lvD_snoc,←ih (by omega)]
  show pv _ k*10+(byt _ k-48)=_
  rw[byt_list x k (by omega)]
theorem tI (s:ByteArray)(w:World)(Y:s.size≤12000)(r: ∀i,i<s.size→48≤byt s i∧byt s i≤57):
  yC 58 #[.string s] w (cG w (pv s s.size)):=by
 have g:Hid _:=r;clear r
 go_enter func58,ntmps58
 go_wp2
 go_loopw [3,4] (fun D m wr=> ∃k:Nat,k≤s.size∧m=yi k∧Rd wr .i64 D (Dg.dg 65536 (pv s k))∧yB w wr) (fun _ m _=>s.size-(intOf m).toNat)
 case atStart=>exact⟨0,Nat.zero_le _,rfl,(aQ _ 0 0 _).rd,Below.refl _ _⟩
 case round=>
  obtain⟨k,u,rfl,j,q⟩:=hrel;obtain⟨Q,R,rfl⟩:=j.shape
  by_cases v:k<s.size
  ·have J:=li s k v
   have f:=g.out k v;have W:(Dg.dg 65536 (pv s k)).length≤12000:=by
    refine Nat.le_trans (Dg.dg_len_le 65536 _ k (by omega) ?_) (by omega);exact Nat.lt_of_lt_of_le (Tb s g.out k u) (Nat.pow_le_pow_left (by omega) k)
   have X:(Dg.dg 65536 (pv s k*10)).length≤20000:=by
    refine Nat.le_trans (Dg.dg_len_le 65536 _ (k+1) (by omega) ?_) (by omega);have H:=Tb s g.out k u;have I:10^k≤65536^k:=Nat.pow_le_pow_left (by omega) k;rw[Nat.pow_succ];omega
   have h:pv s (k+1)=pv s k*10+(byt s k-48):=rfl;obtain⟨y,A⟩: ∃y,byt s k=y:=⟨_,rfl⟩;rw[A] at J f h;have n:Hid (pv s (k+1)=pv s k*10+(y-48)):=h;obtain⟨a,t⟩: ∃a,y-48=a:=⟨_,rfl⟩;have H:=f.1;have I:=f.2;have Z:(y:Int)-48=(a:Int):=by omega
   have U:a<10:=by omega
   rw[t] at n;have S:IntKind.i64.wrap (y:Int)=(y:Int):=IntWalk.i64_in _ ⟨by omega,by omega⟩;have T:IntKind.i64.wrap (a:Int)=(a:Int):=IntWalk.i64_in _ ⟨by omega,by omega⟩;clear A t h f;have o:yB wr (wr.alloc (.cells #[yi 10] 3)).drew:=((Below.refl _ _).alloc (Nat.le_refl _) _).drew;have B:Rd (wr.alloc (.cells #[yi 10] 3)).drew .i64 (.slice (some ⟨wr.heap.size,0,none⟩) 1 1) [10]:=(cE (w:=wr) (k:= .i64) (e:=3) [10] #[yi 10] rfl (by unfold maxLen;simp)).l (Below.drew (Below.refl _ _));have z:=fN _ _ _ _ _ (j.l o) B (Dg.small_dg _ _ (by omega)) (Dg.small_cons.2 ⟨by omega,Dg.small_nil _ (by omega)⟩) (by omega) (by simp);rw[Dg.vl_dg _ _ (by omega),show Dg.vl 65536 [10]=10 from by decide] at z
   have x: ∀b c d,Rd d .i64 b (Dg.dg 65536 (pv s k*10))→Rd d .i64 c (Dg.dg 65536 a)→yC 22 #[b,c] d (cG d (pv s (k+1))):=fun b c d L M=>by
    have:=ew b c _ _ d L M (Dg.small_dg _ _ (by omega)) (Dg.small_dg _ _ (by omega)) (Dg.norm_dg _ _ (by omega)) (Dg.norm_dg _ _ (by omega)) (by omega) (Nat.le_trans (aH 65536 a 10 (by omega) (by omega)) (by rw[Cv 10 (by omega)];simp))
    rwa [Dg.vl_dg _ _ (by omega),Dg.vl_dg _ _ (by omega),←n.out] at this
   have C:Hid _:=x;have G:=aa q o;clear x B
   go_wp2
   go_region_with (first| (go_at_call 52;refine z.mono ?_;rintro e w1 ⟨b,rfl,N,E⟩)| (go_at_call 99;refine(Bj a _ (by omega)).mono ?_;rintro e w2 ⟨c,rfl,O,p⟩)| (go_at_call 22;refine(C.out b c _ (N.l p) O).mono ?_;rintro e w3 ⟨v3,rfl,P,F⟩))
   all_goals go_wp2
   all_goals go_roundw
   all_goals first
    |exact⟨k+1,by omega,by go_num,P,aa (aa (aa G E) p) F⟩
    | (simp[intOf];omega)
  ·have K:k=s.size:=by omega
   subst K
   go_wp2
   go_ret
   exact⟨_,rfl,j,q⟩
end Go.Proofs.YtlhkndcmbpcpgaaGreatDoor
