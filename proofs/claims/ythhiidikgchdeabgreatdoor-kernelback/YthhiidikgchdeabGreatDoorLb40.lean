/- Texts laid together. -/
import Derived.Test.YthhiidikgchdeabGreatDoorLb17
import Derived.Test.YthhiidikgchdeabGreatDoorLb33
import Derived.Test.YthhiidikgchdeabGreatDoorLb35
import Derived.Test.YthhiidikgchdeabGreatDoorLb36
set_option maxRecDepth 100000
set_option maxHeartbeats 3200000
namespace Go.Proofs.YthhiidikgchdeabGreatDoor
open _root_.Go.Proofs.Tryz
open Go.RowKit
theorem pws_main {u:ak×ak}{B:Nat}{nx:Nat→Nat×Nat}{c:Nat→Rat}{mu wU d:Rat}(s:1≤B)(n:d=p2 (2-(B:Int)))(l: ∀k,0≤c (k+1)∧c (k+1)≤1)(C: ∀k,(nx (k+1)).2≠0∧c (k+1)*((nx (k+1)).2:Rat)=((nx (k+1)).1:Rat))
  (i:(ivS u).inn mu) (j:(ivS u).lo≤(ivS u).hi) (x: ∀k,mu*c (k+1)≤1/2) (p:(ivS u).wd≤wU) (P:((B:Rat)+2)*(2*(wU+d)+8*d)≤1):
  ∀f k a b,PInv (ivS u) c wU d k (ivS a) (ivS b)→k≤B+1→B+2≤f+k→
   (∀v,(ivS u).has v→ ∀m,B+3≤m→(ivS (pwsT u B nx f (k+1) a b)).has (rs (tmS v c) m))∧
   (ivS (pwsT u B nx f (k+1) a b)).wd≤((B:Rat)+3)*(2*(wU+d)+8*d)+2*p2 (-(B:Int)-1)∧
   (ivS (pwsT u B nx f (k+1) a b)).lo≤(ivS (pwsT u B nx f (k+1) a b)).hi:=by
 have w:0≤d:=by rw[n];have:=p2_pos (2-(B:Int));grind
 have S:0≤wU:=by unfold IvN.wd at p;grind
 have z:0≤2*(wU+d)+8*d:=by grind
 intro f
 induction f with
 |zero=>intro k _ _ _ y F;omega
 |succ f ih=>
  intro k a b h y F;have Q:(k:Rat)≤(B:Rat)+1:=by
   have:=nat_le y
   rwa [Rat.natCast_add] at this
  have A:(k:Rat)*(2*(wU+d)+8*d)≤1:=by
   have:=Rat.mul_le_mul_of_nonneg_right (show(k:Rat)≤(B:Rat)+2 by grind) z
   grind
  obtain⟨W,X,O⟩:=IvN.times_wd h.term_in i h.term_ord j;have e:=part_ivS (timesS b u) (nx (k+1)).1 (nx (k+1)).2 B s (l k).1 (by rw[times_iv];exact O) (C k).1 (C k).2;rw[times_iv,←n] at e;obtain⟨D,q,r,E⟩:=h.term l i j x p w e;simp only[pwsT];obtain⟨t,K⟩: ∃t,partS (timesS b u) (nx (k+1)).1 (nx (k+1)).2 B=t:=⟨_,rfl⟩;rw[K] at e D q r E⊢
  by_cases o:smallS t B
  ·rw[if_pos o]
   have I:=small_in o;have G:(⟨1/2,2⟩:IvN).lo≤(⟨1/2,2⟩:IvN).hi:=by simp only;grind
   have H:(⟨1/2,2⟩:IvN).inn 2:=by constructor<;>simp only<;>grind
   obtain⟨_,_,T⟩:=IvN.times_wd q H r G;have g:=cut_ivS (plusS a (timesS t restS)) B s (by
    rw[plus_ivS,times_iv,rest_iv];have:=h.sum_ord;unfold IvN.plus
    grind)
   rw[plus_ivS,times_iv,rest_iv,←n] at g;obtain⟨M,U,N⟩:=h.done l i j x p w A e I g;refine⟨fun v L m R=>M v L m (by omega), ?_,N⟩
   have:=Rat.mul_le_mul_of_nonneg_right (show(k:Rat)+2≤(B:Rat)+3 by grind) z
   grind
  ·rw[if_neg o]
   have J:=small_of r q o;have g:=cut_ivS (plusS a t) B s (by
    rw[plus_ivS];have:=h.sum_ord;unfold IvN.plus
    grind)
   rw[plus_ivS,←n] at g;exact ih (k+1) _ _ (h.next l i j x p w A e g) J (by omega)
theorem pws_all {u:ak×ak}{B:Nat}{nx:Nat→Nat×Nat}{c:Nat→Rat}{mu wU d:Rat}(a:1≤B)(i:d=p2 (2-(B:Int)))(h: ∀k,0≤c (k+1)∧c (k+1)≤1)(n: ∀k,(nx (k+1)).2≠0∧c (k+1)*((nx (k+1)).2:Rat)=((nx (k+1)).1:Rat))
  (b:(ivS u).inn mu) (g:(ivS u).lo≤(ivS u).hi) (l: ∀k,mu*c (k+1)≤1/2) (o:(ivS u).wd≤wU) (j:((B:Rat)+2)*(2*(wU+d)+8*d)≤1) (f:Nat) (hf:B+2≤f):
  (∀v,(ivS u).has v→ ∀m,B+3≤m→(ivS (pwsT u B nx f 1 (wTr 1,wTr 1) (wTr 1,wTr 1))).has (rs (tmS v c) m))∧
   (ivS (pwsT u B nx f 1 (wTr 1,wTr 1) (wTr 1,wTr 1))).wd≤((B:Rat)+3)*(2*(wU+d)+8*d)+2*p2 (-(B:Int)-1)∧
   (ivS (pwsT u B nx f 1 (wTr 1,wTr 1) (wTr 1,wTr 1))).lo≤(ivS (pwsT u B nx f 1 (wTr 1,wTr 1) (wTr 1,wTr 1))).hi:=by
 have e:ivS (wTr 1,wTr 1)=⟨1,1⟩:=by
  unfold ivS ivT;simp only;rw[qT_w];rfl
 have:=pws_main a i h n b g l o j f 0 (wTr 1,wTr 1) (wTr 1,wTr 1) (by rw[e];exact PInv.zero _ _ _ _) (by omega) (by omega);exact this
theorem taken_any (x:ak)(one:ak×ak)(a B:Nat)(q:1≤B)(k:x.s=false)(j:x.n≠0)(v:x.e+(bitLen x.n:Int)=(a:Int))(p:1/2≤qT one.1)(f:qT one.1≤qT one.2):
  let N:=nearT (cK x one.1 (a+32))
  ab (qT x-(N:Rat)*qT one.1)≤qT one.1*(1/2+p2 (-31))∧(N:Rat)≤2*p2 a+1∧
  IvN.Cut (p2 (2-(B:Int))) ⟨qT x-(N:Rat)*qT one.2,qT x-(N:Rat)*qT one.1⟩ (ivS (cutSp (plusS (x,x) (negS (timesS one (wTr N,wTr N)))) B)):=by
 intro N;have c:0<qT one.1:=by grind
 obtain⟨w,y⟩:=pos_sign c;have E:0<qT x:=by
  rw[qT_sq,k];simp only[sqT,Bool.false_eq_true,if_false];have:=Rat.mul_pos (nat_pos' (Nat.pos_of_ne_zero j)) (p2_pos x.e)
  grind
 obtain⟨X,b⟩: ∃X,X*qT one.1=qT x:=⟨qT x/qT one.1,Rat.div_mul_cancel (by grind)⟩;have D:0<X:=cancel_lt c (by rw[b];grind);obtain⟨l,-⟩:=over_nearR x one.1 (a+32) (by omega) y b;have u:(cK x one.1 (a+32)).s=false:=by
  unfold cK d8;simp only;rw[k,w];rfl
 obtain⟨G,H⟩:=near_any _ u;have F:qT x<p2 a:=by
  have:=(qT_top j).2;rw[v] at this;have o:ab (qT x)=qT x:=by unfold ab;grind
  rwa [o] at this
 have r:X≤2*p2 a:=by
  refine cancel_le c ?_;rw[b];have:=Rat.mul_le_mul_of_nonneg_left p (show 0≤2*p2 a by have:=p2_pos a;grind)
  grind
 have t:ab X=X:=by unfold ab;grind
 rw[t] at l;have C:p2 (-((a+32:Nat):Int))*X≤p2 (-31):=by
  have h:=Rat.mul_le_mul_of_nonneg_left r (show 0≤p2 (-((a+32:Nat):Int)) by have:=p2_pos (-((a+32:Nat):Int));grind)
  have:p2 (-((a+32:Nat):Int))*(2*p2 a)=p2 (-31):=by
   rw[←p2_one,←p2_add,←p2_add]
   congr 1
   omega
  rwa [this] at h
 rw[ab_le] at l;have g:=nat_nn N;have i:X-(N:Rat)≤1/2+p2 (-31)∧ -(X-(N:Rat))≤1/2+p2 (-31):=by
  have:(N:Rat)=(nearT (cK x one.1 (a+32)):Rat):=rfl
  constructor<;>grind
 have m:qT x-(N:Rat)*qT one.1=(X-(N:Rat))*qT one.1:=by rw[←b];grind
 refine⟨?_, ?_, ?_⟩
 ·rw[m,ab_le]
  have z:=Rat.mul_le_mul_of_nonneg_right i.1 (show 0≤qT one.1 by grind)
  have A:=Rat.mul_le_mul_of_nonneg_right i.2 (show 0≤qT one.1 by grind)
  constructor<;>grind
 ·have:p2 (-31)≤1/2:=by
   have:=p2_mono (show(-31:Int)≤ -1 by omega)
   rwa [p2_mhalf] at this
  grind
 ·have d:ivS (plusS (x,x) (negS (timesS one (wTr N,wTr N))))=⟨qT x-(N:Rat)*qT one.2,qT x-(N:Rat)*qT one.1⟩:=by
   rw[plus_ivS,neg_ivS,times_iv];have:ivS (wTr N,wTr N)=⟨(N:Rat),(N:Rat)⟩:=by
    unfold ivS ivT;simp only;rw[qT_w]
   rw[this,times_whole (show(ivS one).lo≤(ivS one).hi from f) g]
   unfold IvN.plus IvN.neg ivS ivT;simp only
   congr 1<;>grind
  rw[←d];refine cut_ivS _ B q ?_;rw[d];have:=Rat.mul_le_mul_of_nonneg_left f g
  show qT x-(N:Rat)*qT one.2≤qT x-(N:Rat)*qT one.1
  grind
theorem exp_sum {u:ak×ak}{B f:Nat}(p:84≤B)(q:B≤1000)(h:(ivS u).inn (1/2))(i:(ivS u).lo≤(ivS u).hi)(w:(ivS u).wd≤p2 (17-(B:Int)))(hf:B+2≤f):
  let P:=ivS (pwsT u B nxE f 1 (wTr 1,wTr 1) (wTr 1,wTr 1))
  (∀v,(ivS u).has v→ ∀m,B+3≤m→P.has (er v m))∧P.wd≤p2 (29-(B:Int))∧P.lo≤P.hi∧1/4≤P.lo∧P.hi≤3:=by
 intro P;obtain⟨z,A⟩:=wide_of p q;have n: ∀k,(1/2:Rat)*cExp (k+1)≤1/2:=fun k=>by
  have:=(cE_in k).2.1
  grind
 obtain⟨p1,x,y⟩:=pws_all (u:=u) (B:=B) (nx:=nxE) (c:=cExp) (mu:=1/2) (wU:=p2 (17-(B:Int))) (d:=p2 (2-(B:Int))) (by omega) rfl (fun k=>⟨(cE_in k).1,(cE_in k).2.1⟩) (fun k=>(cE_in k).2.2) h i n w z f hf
 have g:P.wd≤p2 (29-(B:Int)):=Rat.le_trans x A;have l:(ivS u).has (ivS u).lo:=⟨Rat.le_refl,i⟩;have b:=p1 _ l (B+3) (by omega);have s: ∀k,ab (ivS u).lo*cExp (k+1)≤1/2:=fun k=>by
  have:=(cE_in k).1;have a:=ab_inn h l;have:=Rat.mul_le_mul_of_nonneg_right a this;have:=n k
  grind
 have j:=rs_bd (u:=(ivS u).lo) (c:=cExp) (fun k=>(cE_in k).1) s (B+2)
 have C:p2 (29-(B:Int))≤1/4:=by
  have:=p2_mono (show 29-(B:Int)≤ -2 by omega)
  have e:p2 (-2)=1/4:=by
   have:=p2_neg 2;have o:p2 2=4:=by decide+kernel
   rw[o] at this
   grind
  rwa [e] at this
 refine⟨fun v b m r=>by rw[er_tm];exact p1 v b m r,g,y, ?_, ?_⟩
 ·have t:P.lo≤rs (tmS (ivS u).lo cExp) (B+3)∧rs (tmS (ivS u).lo cExp) (B+3)≤P.hi:=b
  unfold IvN.wd at g;have:=j.1
  grind
 ·have t:P.lo≤rs (tmS (ivS u).lo cExp) (B+3)∧rs (tmS (ivS u).lo cExp) (B+3)≤P.hi:=b
  unfold IvN.wd at g;have:=j.2
  grind
def expS (x:ak)(B:Nat)(one:ak×ak):ak×ak:=upS (pwsT (restE x B one).2 B nxE (B+2) 1 (wTr 1,wTr 1) (wTr 1,wTr 1)) ((restE x B one).1:Int)
theorem restE_any {x:ak}{B:Nat}{one:ak×ak}{l:Nat→Rat}(S:84≤B)(U:B≤1000)(r:x.s=false)(d:x.n≠0)
  (F:0≤x.e+(bitLen x.n:Int)→1/2≤qT one.1∧qT one.1≤qT one.2∧qT one.2≤7/10∧qT one.2-qT one.1≤p2 (15-(B:Int)-(x.e+(bitLen x.n:Int)))∧EvN fun n=>(ivS one).has (l n)):
  (ivS (restE x B one).2).inn (1/2)∧(ivS (restE x B one).2).lo≤(ivS (restE x B one).2).hi∧(ivS (restE x B one).2).wd≤p2 (17-(B:Int))∧EvN fun n=>(ivS (restE x B one).2).has (qT x-((restE x B one).1:Rat)*l n):=by
 have a5:0<qT x:=by
  rw[qT_sq,r];simp only[sqT,Bool.false_eq_true,if_false];have:=Rat.mul_pos (nat_pos' (Nat.pos_of_ne_zero d)) (p2_pos x.e)
  grind
 have E:ab (qT x)=qT x:=by unfold ab;grind
 have X:=p2_pos (2-(B:Int));have q:p2 (17-(B:Int))=32768*p2 (2-(B:Int)):=by
  rw[show 17-(B:Int)=15+(2-(B:Int)) by omega,p2_add]
  have:p2 15=32768:=by decide+kernel
  rw[this]
 unfold restE
 by_cases c:x.e+(bitLen x.n:Int)<0
 ·rw[if_pos c]
  simp only;have I:qT x≤hf 1:=by
   have t:=(qT_top d).2;rw[E] at t;have:=p2_mono (show x.e+(bitLen x.n:Int)≤ -1 by omega)
   rw[p2_mhalf] at this;rw[hf_1]
   grind
  have Y:=hf_pos 1;have h:=cut_ivS (x,x) B (by omega) Rat.le_refl;have b:(ivS (x,x)).inn (hf 1):=⟨by show-_≤qT x;grind,I⟩
  obtain⟨m,o⟩:=h.wd (by grind) b Rat.le_refl;have H:(ivS (x,x)).wd=0:=by unfold IvN.wd;show qT x-qT x=0;grind
  rw[H,hf_1] at m;refine⟨by have:=h.pow 1 b;rwa [hf_1] at this,o,by rw[q];grind,0,fun n _=> ?_⟩
  refine h.has ?_;have:qT x-((0:Nat):Rat)*l n=qT x:=by
   have:((0:Nat):Rat)=0:=rfl
   grind
  rw[this];exact⟨Rat.le_refl,Rat.le_refl⟩
 ·rw[if_neg c]
  simp only;obtain⟨J,u,o3,v,M,K⟩:=F (by omega);obtain⟨a,k⟩: ∃a:Nat,x.e+(bitLen x.n:Int)=(a:Int):=⟨(x.e+(bitLen x.n:Int)).toNat,by omega⟩;rw[k,Int.toNat_natCast];rw[k] at v;obtain⟨t1,t2,g⟩:=taken_any x one a B (by omega) r d k J u;generalize nearT (cK x one.1 (a+32))=N at*;have f:=nat_nn N;have hz:=p2_pos (a:Int);have T:1≤p2 (a:Int):=by
   have:=p2_mono (show 0≤(a:Int) by omega)
   rwa [p2_zero] at this
  have C:(N:Rat)*(qT one.2-qT one.1)≤3*p2 (15-(B:Int)):=by
   have w:=Rat.mul_le_mul_of_nonneg_left v f;have p:=Rat.mul_le_mul_of_nonneg_right (show(N:Rat)≤3*p2 (a:Int) by grind) (show 0≤p2 (15-(B:Int)-(a:Int)) by have:=p2_pos (15-(B:Int)-(a:Int));grind)
   have y:p2 (a:Int)*p2 (15-(B:Int)-(a:Int))=p2 (15-(B:Int)):=by rw[←p2_add];congr 1;omega
   have z:3*p2 (a:Int)*p2 (15-(B:Int)-(a:Int))=3*(p2 (a:Int)*p2 (15-(B:Int)-(a:Int))):=by grind
   rw[z,y] at p
   grind
  have A:p2 (15-(B:Int))=8192*p2 (2-(B:Int)):=by
   rw[show 15-(B:Int)=13+(2-(B:Int)) by omega,p2_add]
   have:p2 13=8192:=by decide+kernel
   rw[this]
  have Z:p2 (2-(B:Int))≤1/1048576:=by
   have:=p2_mono (show 2-(B:Int)≤ -20 by omega)
   have e:p2 (-20)=1/1048576:=by
    have:=p2_neg 20;have i:p2 20=1048576:=by decide+kernel
    rw[i] at this
    grind
   rwa [e] at this
  have W:p2 (-31)≤1/1048576:=by
   have:=p2_mono (show(-31:Int)≤ -20 by omega)
   have e:p2 (-20)=1/1048576:=by
    have:=p2_neg 20;have i:p2 20=1048576:=by decide+kernel
    rw[i] at this
    grind
   rwa [e] at this
  have D:ab (qT x-(N:Rat)*qT one.1)≤36/100:=by
   have:=Rat.mul_le_mul_of_nonneg_right (show qT one.1≤7/10 by grind) (show 0≤1/2+p2 (-31) by have:=p2_pos (-31);grind)
   grind
  rw[ab_le] at D;rw[A] at C;obtain⟨Q,j⟩: ∃Q:IvN,(⟨qT x-(N:Rat)*qT one.2,qT x-(N:Rat)*qT one.1⟩:IvN)=Q:=⟨_,rfl⟩;rw[j] at g;have q1:Q.lo=qT x-(N:Rat)*qT one.2:=by rw[←j]
  have q2:Q.hi=qT x-(N:Rat)*qT one.1:=by rw[←j]
  have b:Q.inn (hf 1):=by
   rw[hf_1]
   constructor
   ·rw[q1];grind
   ·rw[q2];grind
  have a0:Q.wd≤24576*p2 (2-(B:Int)):=by
   unfold IvN.wd;rw[q1,q2]
   grind
  have G:Q.lo≤Q.hi:=by
   have:=Rat.mul_le_mul_of_nonneg_left u f;rw[q1,q2]
   grind
  obtain⟨m,o⟩:=g.wd (by grind) b G;rw[hf_1] at m;refine⟨by have:=g.pow 1 b;rwa [hf_1] at this,o,by rw[q];grind,M,fun n d=>g.has ?_⟩
  obtain⟨L,P⟩:=K n d;have O:qT one.1≤l n:=L;have R:l n≤qT one.2:=P;have w:=Rat.mul_le_mul_of_nonneg_left O f;have p:=Rat.mul_le_mul_of_nonneg_left R f
  constructor
  ·rw[q1];grind
  ·rw[q2];grind
theorem sum_gen {u:ak×ak}{B f:Nat}{nx:Nat→Nat×Nat}{c:Nat→Rat}(p:84≤B)(q:B≤1000)(b: ∀k,0≤c (k+1)∧c (k+1)≤1)(r: ∀k,(nx (k+1)).2≠0∧c (k+1)*((nx (k+1)).2:Rat)=((nx (k+1)).1:Rat))
  (h:(ivS u).inn (1/2)) (i:(ivS u).lo≤(ivS u).hi) (w:(ivS u).wd≤p2 (17-(B:Int))) (hf:B+2≤f):
  let P:=ivS (pwsT u B nx f 1 (wTr 1,wTr 1) (wTr 1,wTr 1))
  (∀v,(ivS u).has v→ ∀m,B+3≤m→P.has (rs (tmS v c) m))∧P.wd≤p2 (29-(B:Int))∧P.lo≤P.hi∧1/4≤P.lo∧P.hi≤3:=by
 intro P;obtain⟨z,A⟩:=wide_of p q;have n: ∀k,(1/2:Rat)*c (k+1)≤1/2:=fun k=>by
  have:=(b k).2
  grind
 obtain⟨p1,x,y⟩:=pws_all (u:=u) (B:=B) (nx:=nx) (c:=c) (mu:=1/2) (wU:=p2 (17-(B:Int))) (d:=p2 (2-(B:Int))) (by omega) rfl b r h i n w z f hf;have g:P.wd≤p2 (29-(B:Int)):=Rat.le_trans x A;have l:(ivS u).has (ivS u).lo:=⟨Rat.le_refl,i⟩;have t:=p1 _ l (B+3) (by omega);have s: ∀k,ab (ivS u).lo*c (k+1)≤1/2:=fun k=>by
  have:=(b k).1;have a:=ab_inn h l;have:=Rat.mul_le_mul_of_nonneg_right a this;have:=n k
  grind
 have j:=rs_bd (u:=(ivS u).lo) (c:=c) (fun k=>(b k).1) s (B+2)
 have C:p2 (29-(B:Int))≤1/4:=by
  have:=p2_mono (show 29-(B:Int)≤ -2 by omega)
  have e:p2 (-2)=1/4:=by
   have:=p2_neg 2;have o:p2 2=4:=by decide+kernel
   rw[o] at this
   grind
  rwa [e] at this
 have D:P.lo≤rs (tmS (ivS u).lo c) (B+3)∧rs (tmS (ivS u).lo c) (B+3)≤P.hi:=t;refine⟨p1,g,y, ?_, ?_⟩
 ·unfold IvN.wd at g
  have:=j.1
  grind
 ·unfold IvN.wd at g
  have:=j.2
  grind
def logS (z one:ak×ak)(B:Nat)(p:Int):ak×ak:=
 if p=0 then athS z B
 else if p<0 then plusS (athS z B) (negS (timesS one (wTr p.natAbs,wTr p.natAbs))) else plusS (athS z B) (timesS one (wTr p.natAbs,wTr p.natAbs))
theorem ln_fine {k:Nat}(r:84≤k)(s:k≤1200):69/100≤qT (lnLo k)∧qT (lnLo k)≤qT (lnHi k)∧qT (lnHi k)≤7/10∧qT (lnHi k)-qT (lnLo k)≤p2 (15-(k:Int))∧EvN fun n=>(ivT (lnLo k) (lnHi k)).has (CxN.la n):=by
 obtain⟨a,d⟩:=ln_has k;have o:=na_few (n:=26) (j:=9) (tn:=0) (k:=k) (by omega) (by decide);have p:=na_few (n:=4801) (j:=24) (tn:=0) (k:=k) (by omega) (by decide);have q:=na_few (n:=8749) (j:=26) (tn:=0) (k:=k) (by omega) (by decide);have i:(NA 26 0 k:Rat)≤135:=nat_le (show NA 26 0 k≤135 by omega)
 have l:(NA 4801 0 k:Rat)≤51:=nat_le (show NA 4801 0 k≤51 by omega)
 have m:(NA 8749 0 k:Rat)≤48:=nat_le (show NA 8749 0 k≤48 by omega)
 have g:=two_posR k;have c:p2 (15-(k:Int))*((2^k:Nat):Rat)=32768:=by
  rw[←p2_nat,←p2_add,show 15-(k:Int)+(k:Int)=15 by omega]
  decide+kernel
 have h:qT (lnHi k)-qT (lnLo k)≤p2 (15-(k:Int)):=by
  refine cancel_le g ?_;rw[d,c]
  grind
 have t:p2 (15-(k:Int))≤1/1024:=by
  have:=p2_mono (show 15-(k:Int)≤ -10 by omega)
  have e:p2 (-10)=1/1024:=by
   have:=p2_neg 10;have b:p2 10=1024:=by decide+kernel
   rw[b] at this
   grind
  rwa [e] at this
 obtain⟨u,v⟩:=a (k+1) (by omega);obtain⟨w,x⟩:=la_win (k+1) (by omega);exact⟨by grind,by grind,by grind,h,k+1,fun n f=>a n f⟩
theorem restE_fit {x:ak}{B:Nat}(r:x.s=false)(q:x.n≠0)(b:RgT 40000 14 x)(v:84≤B)(y:B≤1000):
  (restE x B (lnSpan x B)).1<2^16∧RgS 100000 200000 (restE x B (lnSpan x B)).2:=by
 unfold restE
 by_cases c:x.e+(bitLen x.n:Int)<0
 ·rw[if_pos c]
  exact⟨by omega,(RgS.cut (s:=(x,x)) ⟨b,b⟩ (by omega)).mono (by omega) (by omega)⟩
 ·rw[if_neg c]
  simp only;obtain⟨a,g⟩: ∃a:Nat,x.e+(bitLen x.n:Int)=(a:Int):=⟨(x.e+(bitLen x.n:Int)).toNat,by omega⟩;have z:a≤14:=by have:=b.2;omega
  unfold lnSpan;rw[g,Int.toNat_natCast];obtain⟨t,u,-,-,-⟩:=ln_fine (k:=B+a) (by omega) (by omega);obtain⟨-,-,-,-,i,j⟩:=ln_fits (B+a) (by omega);generalize lnLo (B+a)=L at*;generalize lnHi (B+a)=H at*;have o:(1/2:Rat)≤qT L:=Rat.le_trans half_69 t;obtain⟨-,h,-⟩:=taken_any x (L,H) a B (by omega) r q g o u;simp only at h;have f:=often_le h;obtain⟨N,p⟩: ∃N,nearT (cK x L (a+32))=N:=⟨_,rfl⟩;rw[p] at f⊢;have d:N<2^16:=Nat.lt_of_lt_of_le f (Nat.pow_le_pow_right (by omega) (by omega));refine⟨d, ?_⟩;have gN:RgS 0 16 (wTr N,wTr N):=⟨RgT.w N 16 d,RgT.w N 16 d⟩;have l:=(RgS.times (s:=(L,H)) ⟨i.rg,j.rg⟩ gN).neg;have m:=RgS.plus (s:=(x,x)) (E:=100000) (T:=180000) ⟨b.mono (by omega) (by omega),b.mono (by omega) (by omega)⟩ (l.mono (by omega) (by omega));exact(m.cut (by omega)).mono (by omega) (by omega)
theorem expU {x:ak}{B:Nat}(l:84≤B)(m:B≤1000)(b:RgT 40000 14 x):
  0≤x.e+(bitLen x.n:Int)→1/2≤qT (lnSpan x B).1∧qT (lnSpan x B).1≤qT (lnSpan x B).2∧qT (lnSpan x B).2≤7/10∧qT (lnSpan x B).2-qT (lnSpan x B).1≤p2 (15-(B:Int)-(x.e+(bitLen x.n:Int)))∧EvN fun n=>(ivS (lnSpan x B)).has (CxN.la n):=fun c=>by
 obtain⟨a,d⟩: ∃a:Nat,x.e+(bitLen x.n:Int)=(a:Int):=⟨(x.e+(bitLen x.n:Int)).toNat,by omega⟩;have o:a≤14:=by have:=b.2;omega
 obtain⟨f,g,h,i,j⟩:=ln_fine (k:=B+a) (by omega) (by omega);unfold lnSpan;rw[d,Int.toNat_natCast];generalize lnLo (B+a)=L at*;generalize lnHi (B+a)=H at*;refine⟨Rat.le_trans half_69 f,g,h, ?_,j⟩;rw[show 15-(B:Int)-(a:Int)=15-((B+a:Nat):Int) by omega]
 exact i
theorem expI {x:ak}{B:Nat}(a:84≤B)(b:B≤1000)(g:x.s=false)(f:x.n≠0)(e:RgT 40000 14 x):
  ∃I:Nat→ak×ak→ak×ak→Prop,I 0 (wTr 1,wTr 1) (wTr 1,wTr 1)∧ ∀k s t,I k s t→k≤B+1∧RgS 400000000 400000000 s∧RgS 400000000 400000000 t∧RgS 400000000 400000000 (partS (timesS t (restE x B (lnSpan x B)).2) (nxE (k+1)).1 (nxE (k+1)).2 B)∧
   (¬smallS (partS (timesS t (restE x B (lnSpan x B)).2) (nxE (k+1)).1 (nxE (k+1)).2 B) B→I (k+1) (cutSp (plusS s (partS (timesS t (restE x B (lnSpan x B)).2) (nxE (k+1)).1 (nxE (k+1)).2 B)) B) (partS (timesS t (restE x B (lnSpan x B)).2) (nxE (k+1)).1 (nxE (k+1)).2 B)):=by
 obtain⟨h,i,j,-⟩:=restE_any (l:=CxN.la) a b g f (expU a b e);obtain⟨m,-⟩:=wide_of a b;refine pws_walk (c:=cExp) (mu:=1/2) (wU:=p2 (17-(B:Int))) (d:=p2 (2-(B:Int))) (E:=100000) (T:=200000) (by omega) rfl (fun k=>⟨(cE_in k).1,(cE_in k).2.1⟩) (fun k=>(cE_in k).2.2) h i (fun k=> ?_) j m (restE_fit g f e a b).2 (by omega) (by omega) (fun k o=> ?_) ?_
 ·have:=(cE_in k).2.1
  grind
 ·have:(2:Nat)^30=1073741824:=by decide
  show 1<2^30∧k+1<2^30
  omega
 ·have:((B:Int)+3)*(100000+200000+(B:Int)+50)≤1003*(301050):=Int.mul_le_mul (by omega) (by omega) (by omega) (by omega)
  omega
def expV (x:ak)(B:Nat):ak×ak:=if x.s=true then overS4 (wTr 1,wTr 1) (expS (sizeT x) B (lnSpan (sizeT x) B)) B else expS (sizeT x) B (lnSpan (sizeT x) B)
theorem expS_rg {x:ak}{B:Nat}(g:x.s=false)(f:x.n≠0)(c:RgT 40000 14 x)(d:84≤B)(e:B≤1000):RgS 410000000 410000000 (expS x B (lnSpan x B)):=by
 obtain⟨I,I0,b⟩:=expI d e g f c;have gP:=pws_rg (nx:=nxE) (by omega) b (B+2) 0 _ _ I0 (by omega);have j:=(restE_fit g f c d e).1;have h:(2:Nat)^16=65536:=by decide
 rw[h] at j;unfold expS;obtain⟨P,a⟩: ∃P,pwsT (restE x B (lnSpan x B)).2 B nxE (B+2) 1 (wTr 1,wTr 1) (wTr 1,wTr 1)=P:=⟨_,rfl⟩;have i:RgS 400000001 400000004 P:=by rw[←a];exact gP
 rw[a];clear a gP b I0;generalize(restE x B (lnSpan x B)).1=N at*;exact(i.up (N:Int)).mono (by omega) (by omega)
def expOut (s:Bool)(xs:List Nat)(e b:Int):ak×ak×Int:=
 if numR s xs e b≠0 then(zTr,zTr,numR s xs e b)
 else if 0<bJ (sizeT (bare ⟨s,Dg.vl 4294967296 xs,e⟩)) (wTr 12000) then(zTr,zTr,2)
 else if(bare ⟨s,Dg.vl 4294967296 xs,e⟩).n=0 then(wTr 1,wTr 1,0)
 else iD (bU (cutSp (expV (bare ⟨s,Dg.vl 4294967296 xs,e⟩) (b.toNat+64)) (b.toNat+32)).1) (bU (cutSp (expV (bare ⟨s,Dg.vl 4294967296 xs,e⟩) (b.toNat+64)) (b.toNat+32)).2)
theorem lg_er {p:Int}{X m:Rat}(F:ab X≤1/5)(T:m*(1-X)=1+X):NrN (fun n=>er (lgV p X n) n) (fun _=>p2 p*m)∧ ∃K,∀n,ab (lgV p X n)≤K:=by
 have Y:ab 0=0:=by unfold ab;grind
 have a: ∀x:Rat,CxN.nm ⟨x,0⟩=ab x:=fun x=>by unfold CxN.nm;simp only;grind
 have W:X≤1/5:=Rat.le_trans (le_ab X) F;have w:CxN.nm ⟨X,0⟩≤1/4:=by rw[a];grind
 have R:1/(1-X)*(1-X)=1:=Rat.div_mul_cancel (by grind);have i:CxN.Has (fun n=>CxN.sc 2 (CxN.at' ⟨X,0⟩ n)) ⟨m,0⟩:=by
  refine CxN.Has.at (u:=⟨1/(1-X),0⟩) w ?_ ?_
  ·apply CxN.ext'<;>simp only[CxN.mul,CxN.sb,CxN.add,CxN.sc,CxN.one]<;>grind
  ·apply CxN.ext'<;>simp only[CxN.mul,CxN.sb,CxN.add,CxN.sc,CxN.one]<;>grind
 have q:(fun n=>CxN.sc 2 (CxN.at' ⟨X,0⟩ n))=fun n=>⟨2*aw X n,0⟩:=by
  funext n
  rw[CxN.at_real];apply CxN.ext'<;>simp only[CxN.sc]<;>grind
 have h: ∀n,ab (2*aw X n)≤1:=fun n=>by
  have:=CxN.bd_at w n;rw[congrFun q n,a] at this;exact this
 rw[q] at i;have s: ∀n,CxN.nm ⟨CxN.la n,0⟩≤42:=fun n=>by have:=CxN.la_bd n;rw[CxN.lnA_real] at this;grind
 have G: ∀n,ab (CxN.la n)≤42:=fun n=>by have:=s n;rwa [a] at this
 obtain⟨k,S⟩: ∃k:Nat,k=p.natAbs:=⟨_,rfl⟩;have r:=nat_nn k;have j:=CxN.Has.times s CxN.has_la k;have P:(fun n=>CxN.sc (k:Rat) ⟨CxN.la n,0⟩)=fun n=>⟨(k:Rat)*CxN.la n,0⟩:=by
  funext n
  apply CxN.ext'<;>simp only[CxN.sc]<;>grind
 rw[P,CxN.pw_two] at j;have f: ∀n,ab ((k:Rat)*CxN.la n)≤(k:Rat)*42:=fun n=>by
  rw[ab_mul];have e:ab (k:Rat)=(k:Rat):=by unfold ab;grind
  rw[e];exact Rat.mul_le_mul_of_nonneg_left (G n) r
 obtain⟨K,o⟩: ∃K:Rat,K=1+(k:Rat)*42:=⟨_,rfl⟩
 by_cases U:0≤p
 ·have c:p=(k:Int):=by omega
  have e: ∀n,lgV p X n=2*aw X n+(k:Rat)*CxN.la n:=fun n=>by unfold lgV;rw[c,Rat.intCast_natCast]
  have b: ∀n,ab (lgV p X n)≤K:=fun n=>by
   rw[e,o];exact Rat.le_trans (ab_add _ _) (by have:=h n;have:=f n;grind)
  refine⟨?_,K,b⟩;have t:=CxN.Has.mul (B:=K) (fun n=>by rw[a];have:=h n;have:=Rat.mul_nonneg r (show(0:Rat)≤42 by grind);grind) (fun n=>by rw[a];have:=f n;grind) i j
  have g:(fun n=>CxN.add (⟨2*aw X n,0⟩:CxN) ⟨(k:Rat)*CxN.la n,0⟩)=fun n=>⟨lgV p X n,0⟩:=by
   funext n
   rw[e];apply CxN.ext'<;>simp only[CxN.add]<;>grind
  have z:CxN.mul (⟨m,0⟩:CxN) ⟨rp 2 k,0⟩=⟨p2 p*m,0⟩:=by
   rw[rp_p2,←c];apply CxN.ext'<;>simp only[CxN.mul]<;>grind
  rw[g,z] at t;exact has_nr t
 ·have c:p= -(k:Int):=by omega
  have e: ∀n,lgV p X n=2*aw X n-(k:Rat)*CxN.la n:=fun n=>by
   unfold lgV;rw[c,Rat.intCast_neg,Rat.intCast_natCast]
   grind
  have b: ∀n,ab (lgV p X n)≤K:=fun n=>by
   rw[e,o];have:=ab_add (2*aw X n) (-((k:Rat)*CxN.la n));rw[ab_neg] at this;rw[show 2*aw X n-(k:Rat)*CxN.la n=2*aw X n+ -((k:Rat)*CxN.la n) by grind]
   have:=h n;have:=f n
   grind
  refine⟨?_,K,b⟩;have v:=(CxN.has_shift (A:=(k:Rat)*42) (B:=K) (fun n=>by rw[a];exact f n) (fun n=>by rw[a];exact b n) j).re
  have y:(fun n=>(ez (CxN.add (⟨(k:Rat)*CxN.la n,0⟩:CxN) ⟨lgV p X n,0⟩) n).re)=fun n=>er (2*aw X n) n:=by
   funext n
   have:CxN.add (⟨(k:Rat)*CxN.la n,0⟩:CxN) ⟨lgV p X n,0⟩=⟨2*aw X n,0⟩:=by
    rw[e];apply CxN.ext'<;>simp only[CxN.add]<;>grind
   rw[this,ez_real]
  have g:(fun n=>(CxN.mul (⟨rp 2 k,0⟩:CxN) (ez ⟨lgV p X n,0⟩ n)).re)=fun n=>rp 2 k*er (lgV p X n) n:=by
   funext n
   rw[ez_real];simp only[CxN.mul]
   grind
  rw[y,g] at v;have E:=v.symm.trans (has_nr i);have L:p2 p*rp 2 k=1:=by
   rw[rp_p2,←p2_add,show p+(k:Int)=0 by omega,p2_zero]
  have J:=p2_pos p;intro d Q;have M:d/p2 p*p2 p=d:=Rat.div_mul_cancel (by grind);have O:0<d/p2 p:=cancel_lt J (by rw[M];grind);obtain⟨N,H⟩:=E (d/p2 p) O;refine⟨N,fun n I=> ?_⟩
  have l:=H n I;simp only at l⊢;have C:er (lgV p X n) n-p2 p*m=p2 p*(rp 2 k*er (lgV p X n) n-m):=by
   have:p2 p*(rp 2 k*er (lgV p X n) n-m)=p2 p*rp 2 k*er (lgV p X n) n-p2 p*m:=by grind
   rw[this,L]
   grind
  rw[C,ab_mul];have D:ab (p2 p)=p2 p:=by unfold ab;grind
  rw[D];have:=Rat.mul_le_mul_of_nonneg_left l (show 0≤p2 p by grind)
  grind
def lgSp (x:ak)(B:Nat)(one:ak×ak):ak×ak:=logS (lgZ x B) one B (lgP x)
theorem Log_e3 (x y:ak)(s:Bool)(D:Option Addr)(O J:Nat)(e b f g:Int)(w:World)(hf: ¬f≤0)(hg:g=0)
  (q: ∀a,yB w a→yC 41 #[ydV s (.slice D O J) e,yi b] a (NRd a x 0))
  (p: ∀d c a,yB w a→Rd a .u32 (yT d x.n c) (Dg.dg 4294967296 x.n)→yC 20 #[yDV x d c] a (yR a (yi f)))
  (r: ∀a,yB w a→yC 43 #[yi 1] a (Lx a y))
  (o: ∀d c yo yc a,yB w a→Rd a .u32 (yT d x.n c) (Dg.dg 4294967296 x.n)→Rd a .u32 (yT yo y.n yc) (Dg.dg 4294967296 y.n)→yC 42 #[yDV x d c,yDV y yo yc] a (yR a (yi g))):
  yC 15 #[ydV s (.slice D O J) e,yi b] w (yR w (.tuple #[.agg #[.bool false,yN,yi 0,.bool false,yN,yi 0],yi 0])):=by
 replace q:Hid _:=q;replace p:Hid _:=p;replace r:Hid _:=r;replace o:Hid _:=o;obtain⟨W4,z,q1,q2,G⟩:=iG w (ydL s (.slice D O J) e) 25 [.bool false,yN,yi 0,.bool false,yN,yi 0] 29;replace z:Hid _:=z
 go_enter func15,ntmps15
 go_upto_region 1 with fail
 rw[z.out];clear z;obtain⟨c6,c7,c8⟩:=q1.cs3
 go_wp2_with fail
 refine(q.out _ G).mono ?_;rintro zz C ⟨az,rfl,X,I⟩;have Q:=q2.l I;have E:=aa G I;obtain⟨d,c,N⟩:=X.shape;subst N;clear q1 q2 G I q c6 c7 c8;obtain⟨ar,v,R,t⟩:=cA C (yDL x d c) 48;replace v:Hid _:=v;have ax:w.heap.size≤C.heap.size:=E.size;have ay:=Q.lt;have a4:=Q.l t;have Y:=X.l t;have F:=aa E t;clear Q X E t
 go_upto_region 2 with fail
 rw[v.out];clear v;obtain⟨ac,ad,ae⟩:=R.cs3
 go_wp2_with fail
 refine(p.out _ _ _ F Y).mono ?_;rintro zz a1 ⟨rfl,j⟩;have a5:=a4.l j;have a6:=R.l j;have a9:=Y.l j;have a2:=aa F j;clear a4 R Y F j p ac ad ae
 go_upto_region 6 with fail
 have i:yB a1 a1.drew:=(Below.refl _ _).drew;have T:=a5.l i;have A:=a6.l i;have Z:=a9.l i;have u:=aa a2 i;clear a5 a6 a9 a2 i;refine wp_region_held_drew (S:=fun wq=>au wq C.heap.size 48 (yDL x d c)) (by kernel_rfl) A (fun L=> ?_)
 generalize a1.drew=av at T A Z u L⊢;refine tq 0 (yDV x d c) rfl (fun _ an=>fy 48 (.tmp 6) rfl C.heap.size 0 (by kernel_rfl) _ _ an.range underlying48 rfl (by kernel_rfl)) L ?_
 refine wpAnyH_ready (rs:=[1]) (by kernel_rfl) (by simp) ?_;refine AllReadyH.cons rfl (fun K m=> ?_) AllReadyH.nil
 go_simp
 refine(r.out _ u).mono ?_;rintro zz b1 ⟨b0,rfl,B,k⟩;have a7:=T.l k;have U:=A.l k;have a0:=Z.l k;have H:=aa u k;obtain⟨yo,yc,N⟩:=B.shape;subst N;clear T A Z u k r;refine m.out _ _ U (fun al=> ?_)
 clear m K;refine wpAnyH_ready (rs:=[2]) (by kernel_rfl) (by simp) ?_;refine AllReadyH.cons rfl (fun K m=> ?_) AllReadyH.nil
 go_simp
 refine(o.out _ _ _ _ _ H a0 B).mono ?_;rintro zz b2 ⟨rfl,h⟩;have W:=a7.l h;have a8:=U.l h;have ap:=a0.l h;have aq:=B.l h;have a3:=aa H h;clear a7 U a0 B H h o;refine m.out _ _ a8 (fun M=> ?_)
 clear m K;refine tq 3 (.bool true) rfl (fun _ _=>by go_simp) M ?_
 refine tq 4 (.bool true) rfl (fun _ _=>by kernel_rfl) M ?_
 refine wpAnyH_done (by kernel_rfl) ?_ _;clear L al M;simp only[Act.put,List.getElem_toArray,List.getElem_cons_succ,List.getElem_cons_zero,List.setIfInBounds_toArray,List.set_cons_zero,List.set_cons_succ];have hf:=fin6 (P:=Tryz.prog) W a3 (by omega) underlying29 rfl (by kernel_rfl) (.bool false) yN (yi 0) (.bool false) yN (yi 0);have HH:Hid (_∧_):=⟨hf.1,hf.2.1⟩;obtain⟨⟨z0,z1,z2,z3,z4,z5⟩,y0,y1,y2,y3,y4,y5⟩:=csf6 W;clear hf W a8 ap aq a3
 go_wp2
 obtain⟨hl,bR⟩:=HH.out;exact bodyPost_ret (aj results15 rfl rfl hl) rfl ⟨rfl,bR⟩
end Go.Proofs.YthhiidikgchdeabGreatDoor
