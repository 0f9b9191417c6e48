/- Texts laid together. -/
import Derived.Test.YthhiidikgchdeabGreatDoorLb03
namespace Go.Proofs.YthhiidikgchdeabGreatDoor
open Go.RowKit
theorem QI {s t:Bool}{n m:Nat}(h:sz s n=sz t m)(a:n≠0):s=t∧n=m:=by
 unfold sz at h
 cases s<;>cases t<;>simp at h<;>first|exact⟨rfl,by omega⟩| (exfalso;omega)
theorem Ny (s t:Bool)(x y:Nat):sz (s != t) (x*y)=sz s x*sz t y:=by
 unfold sz
 cases s<;>cases t<;>simp[Int.neg_mul,Int.mul_neg]
theorem le_ab (x:Rat):x≤ab x:=by unfold ab;grind
theorem neg_le_ab (x:Rat): -x≤ab x:=by unfold ab;grind
theorem ab_le {x c:Rat}:ab x≤c↔x≤c∧ -x≤c:=by unfold ab;grind
theorem rs_congr {f g:Nat→Rat}: ∀{n},(∀i,i<n→f i=g i)→rs f n=rs g n
 |0,_=>rfl
 |n+1,h=>by simp only[rs,rs_congr (n:=n) (fun i a=>h i (by omega)),h n (by omega)]
theorem arch (c e:Rat)(g:0<e): ∃n:Nat,c≤(n:Rat)*e:=by
 have h:0≤1/e:=inv_nn g;have i:1/e*e=1:=by grind
 refine⟨(c*(1/e)).ceil.toNat, ?_⟩;have b:c*(1/e)≤((c*(1/e)).ceil:Rat):=Rat.le_ceil;have d:((c*(1/e)).ceil:Rat)≤(((c*(1/e)).ceil.toNat:Nat):Rat):=by
  have:(c*(1/e)).ceil≤(((c*(1/e)).ceil.toNat:Nat):Int):=by omega
  have:=Rat.intCast_le_intCast.2 this
  rwa [Rat.intCast_natCast] at this
 have a:=Rat.mul_le_mul_of_nonneg_right (Rat.le_trans b d) (show 0≤e by grind)
 have f:c*(1/e)*e=c:=by grind
 rw[f] at a;exact a
theorem hf_small (c:Rat){e:Rat}(f:0<e): ∃n,∀m,n≤m→c*hf m≤e:=by
 obtain⟨n,g⟩:=arch c e f;refine⟨n,fun m l=> ?_⟩
 by_cases k:c≤0
 ·have:=Rat.mul_nonneg (show 0≤ -c by grind) (show 0≤hf m by have:=hf_pos m;grind)
  grind
 have a:=hf_nat m;have h:=hf_pos m;have b:((n:Nat):Rat)≤((m+1:Nat):Rat):=Rat.natCast_le_natCast.2 (by omega);have d:=Rat.mul_le_mul_of_nonneg_right b (show 0≤e by grind)
 have i:=Rat.mul_le_mul_of_nonneg_left (Rat.le_trans g d) (show 0≤hf m by grind)
 have j:=Rat.mul_le_mul_of_nonneg_right a (show 0≤e by grind)
 grind
theorem pr_hf {B:Rat}(a:0≤B){K:Nat}(b:2*B≤(K:Rat)): ∀j,prE B (K+j)≤prE B K*hf j
 |0=>by simp only[hf];grind
 |j+1=>by
  have d:=pr_hf a b j;have c:((K:Nat):Rat)≤((K+j+1:Nat):Rat):=Rat.natCast_le_natCast.2 (by omega);have e:=pr_half a (k:=K+j) (Rat.le_trans b c);simp only[hf];rw[←Nat.add_assoc]
  grind
theorem nat_above (c:Rat): ∃n:Nat,c≤(n:Rat):=by
 obtain⟨n,a⟩:=arch c 1 (by grind);exact⟨n,by grind⟩
theorem er_lim {B:Rat}(a:0≤B){e:Rat}(d:0<e): ∃N,∀n m,N≤n→n≤m→er B m-er B n≤e:=by
 obtain⟨K,b⟩:=nat_above (2*B);obtain⟨j,f⟩:=hf_small (2*prE B K) d;refine⟨K+j,fun n m l g=> ?_⟩
 have h:=er_tail a b (show K≤n by omega) g
 have c:=pr_hf a b (n-K);rw[show K+(n-K)=n by omega] at c
 have i:=f (n-K) (by omega);have k:=pr_nonneg a m
 grind
def CxN.gd (w:CxN)(n:Nat):CxN:=sb (mul (ez (sc 2 (at' w n)) n) (sb one w)) (add one w)
theorem CxN.gd_step {u h:CxN}(b:nm u≤1/4)(o:nm (add u h)≤1/4)(l:nm h≤1/32){n:Nat}(m:2≤n){e:Rat}(k:6*(nm h*hf n)+400*(nm h*nm h)+2*tau n≤e):
  nm (gd (add u h) n)≤nm (gd u n)*(1+2*nm h)+2*e:=by
 have a:=ex_step b o l m;obtain⟨z,c⟩: ∃z,sb (mul (mul (ez (sc 2 (at' (add u h) n)) n) (sb one (add u h))) (add one u)) (mul (mul (ez (sc 2 (at' u n)) n) (sb one u)) (add one (add u h)))=z:=⟨_,rfl⟩;rw[c] at a;have d:mul (sb (gd (add u h) n) (gd u n)) (add one u)=add (mul (gd u n) h) z:=by
  rw[←c];unfold gd;apply ext'<;>simp only[sb,one,mul,add,sc]<;>grind
 have f:sb (gd (add u h) n) (gd u n)=sb (add (mul (gd u n) h) z) (mul (sb (gd (add u h) n) (gd u n)) u):=by
  rw[←d];apply ext'<;>simp only[sb,one,mul,add,sc]<;>grind
 have i:=nm_sb (add (mul (gd u n) h) z) (mul (sb (gd (add u h) n) (gd u n)) u);rw[←f] at i;have q:=nm_add (mul (gd u n) h) z;have r:=nm_mul (gd u n) h;have t:=nm_mul (sb (gd (add u h) n) (gd u n)) u;have v:=Rat.mul_le_mul_of_nonneg_left b (nm_nonneg (sb (gd (add u h) n) (gd u n)));have g:gd (add u h) n=add (gd u n) (sb (gd (add u h) n) (gd u n)):=by
  apply ext'<;>simp only[sb,add,sc]<;>grind
 have j:=nm_add (gd u n) (sb (gd (add u h) n) (gd u n));rw[←g] at j;have w:=Rat.mul_nonneg (nm_nonneg (gd u n)) (nm_nonneg h);have x:=nm_nonneg z;have p:nm z≤e:=Rat.le_trans a k;generalize nm (sb (gd (add u h) n) (gd u n))=s at*;generalize nm (gd (add u h) n)=y at*;generalize nm (gd u n)=A at*;generalize nm (add (mul (gd u n) h) z)=B at*;generalize nm (mul (gd u n) h)=C at*
 grind
theorem CxN.gd_zero (n:Nat)(d:1≤n):gd zero n=zero:=by
 have a: ∀m,at' zero m=zero:=fun m=>by
  unfold at'
  induction m with
  |zero=>rfl
  |succ m ih=>
   rw[sm,ih];have:pwE zero (2*m+1)=zero:=by
    rw[pwE];apply ext'<;>simp only[mul,zero]<;>grind
   rw[this];apply ext'<;>simp only[add,sc,zero]<;>grind
 have b:sc 2 zero=zero:=by apply ext'<;>simp only[sc,zero]<;>grind
 have c: ∀m,ez zero (m+1)=one:=fun m=>by
  induction m with
  |zero=>apply ext'<;>simp only[ez,sm,pz,one,zero,add]<;>grind
  |succ m ih=>
   show add (ez zero (m+1)) (pz zero (m+1))=one
   rw[ih];have:pz zero (m+1)=zero:=by
    rw[pz];apply ext'<;>simp only[mul,sc,zero]<;>grind
   rw[this];apply ext'<;>simp only[add,one,zero]<;>grind
 unfold gd;obtain⟨m,rfl⟩: ∃m,n=m+1:=⟨n-1,by omega⟩;rw[a,b,c];apply ext'<;>simp only[sb,one,mul,add,sc,zero]<;>grind
theorem CxN.gd_way {h:CxN}{M:Nat}(o:1≤M)(a:(M:Rat)*nm h≤1/4)(f:nm h≤1/32){n:Nat}(i:2≤n){e:Rat}(c:6*(nm h*hf n)+400*(nm h*nm h)+2*tau n≤e)(d:0≤e):
  ∀k:Nat,k≤M→nm (gd (sc (k:Rat) h) n)≤4*e*(k:Rat)
 |0,_=>by
  have l:sc ((0:Nat):Rat) h=zero:=by apply ext'<;>simp only[sc,zero]<;>simp
  rw[l,gd_zero n (by omega)];have:nm zero=0:=by unfold nm zero ab;grind
  rw[this];simp
 |k+1,hk=>by
  have t:=gd_way o a f i c d k (by omega);have g: ∀j:Nat,j≤M→nm (sc (j:Rat) h)≤1/4:=fun j p=>by
   have q:(0:Rat)≤(j:Rat):=by
    have:((0:Nat):Rat)≤(j:Rat):=Rat.natCast_le_natCast.2 (by omega)
    simpa using this
   rw[nm_sc' q];have:(j:Rat)≤(M:Rat):=Rat.natCast_le_natCast.2 p;exact Rat.le_trans (Rat.mul_le_mul_of_nonneg_right this (nm_nonneg h)) a
  have b:sc ((k+1:Nat):Rat) h=add (sc (k:Rat) h) h:=by
   have:((k+1:Nat):Rat)=(k:Rat)+1:=by simp
   rw[this];apply ext'<;>simp only[add,sc]<;>grind
  have s:=gd_step (g k (by omega)) (by rw[←b];exact g (k+1) hk) f i c;rw[←b] at s;have w:(0:Rat)≤(k:Rat):=by
   have:((0:Nat):Rat)≤(k:Rat):=Rat.natCast_le_natCast.2 (by omega)
   simpa using this
  have r:(k:Rat)*nm h≤1/4:=by
   have:(k:Rat)≤(M:Rat):=Rat.natCast_le_natCast.2 (by omega);exact Rat.le_trans (Rat.mul_le_mul_of_nonneg_right this (nm_nonneg h)) a
  have u:=Rat.mul_le_mul_of_nonneg_right t (show 0≤1+2*nm h by have:=nm_nonneg h;grind)
  have v:=Rat.mul_le_mul_of_nonneg_left r d;have m:((k+1:Nat):Rat)=(k:Rat)+1:=by simp
  rw[m]
  grind
theorem CxN.ex_at {e:Rat}(j:0<e): ∃N,∀n,N≤n→ ∀w,nm w≤1/4→nm (gd w n)≤e:=by
 obtain⟨g,Y⟩:=arch 400 e j;obtain⟨M,X⟩: ∃M,M=g+8:=⟨_,rfl⟩;have D:(0:Rat)< (M:Rat):=by
  have:((0:Nat):Rat)< (M:Rat):=Rat.natCast_lt_natCast.2 (by omega)
  simpa using this
 have A:(8:Rat)≤(M:Rat):=by
  have:((8:Nat):Rat)≤(M:Rat):=Rat.natCast_le_natCast.2 (by omega)
  simpa using this
 have C:400≤(M:Rat)*e:=by
  have:(g:Rat)≤(M:Rat):=Rat.natCast_le_natCast.2 (by omega);have:=Rat.mul_le_mul_of_nonneg_right this (show 0≤e by grind)
  grind
 obtain⟨p,s⟩:=hf_small 6 (e:=e/4) (by grind);obtain⟨q,x⟩:=er_lim (B:=4) (by grind) (e:=e/(32*(M:Rat))) (by
  have b:0≤1/(32*(M:Rat)):=inv_nn (by grind);have c:1/(32*(M:Rat))*(32*(M:Rat))=1:=by grind
  have d:e/(32*(M:Rat))=e*(1/(32*(M:Rat))):=by grind
  rw[d];generalize 1/(32*(M:Rat))=i at*;have:=Rat.mul_pos j (show 0<i by grind)
  grind)
 refine⟨p+q+2,fun n Z w K=> ?_⟩
 have Q:=s n (by omega);have o:tau n≤e/(32*(M:Rat)):=x n (2*n) (by omega) (by omega);have b:0≤1/(M:Rat):=inv_nn D;have c:1/(M:Rat)*(M:Rat)=1:=by grind
 have d:e/(32*(M:Rat))=e*(1/(M:Rat))*(1/32):=by grind
 rw[d] at o;have L:sc (M:Rat) (sc (1/(M:Rat)) w)=w:=by
  generalize 1/(M:Rat)=i at*;apply ext'<;>simp only[sc]<;>grind
 have l:nm (sc (1/(M:Rat)) w)=1/(M:Rat)*nm w:=nm_sc' b w;have H: ∀m i:Rat,0≤i→i*m=1→400≤m*e→8≤m→ ∀t u v:Rat,0≤v→v≤i*(1/4)→0≤u→6*u≤e/4→t≤e*i*(1/32)→
   v≤1/32∧6*(v*u)+400*(v*v)+2*t≤e*i/4:=by
  intro m i a E y z t u v J f a0 I ht;have R:=Rat.mul_le_mul_of_nonneg_left z a;have h:=Rat.mul_le_mul_of_nonneg_left y a;have r:i*(m*e)=e:=by
   have:i*(m*e)=i*m*e:=by grind
   rw[this,E];grind
  rw[r] at h;have S:=mul_le_mul' f I (by grind) (show 0≤i*(1/4) by grind)
  have T:=mul_le_mul' f f J (show 0≤i*(1/4) by grind)
  have U:=Rat.mul_le_mul_of_nonneg_right h a;have W:=Rat.mul_nonneg (show 0≤e by grind) a
  refine⟨by grind,by grind⟩
 have G:nm (sc (1/(M:Rat)) w)≤1/(M:Rat)*(1/4):=by rw[l];exact Rat.mul_le_mul_of_nonneg_left K b
 obtain⟨O,P⟩:=H _ _ b c C A (tau n) (hf n) _ (nm_nonneg _) G (by have:=hf_pos n;grind) Q o;have F:(M:Rat)*nm (sc (1/(M:Rat)) w)≤1/4:=by
  rw[l];have:(M:Rat)*(1/(M:Rat)*nm w)=1/(M:Rat)*(M:Rat)*nm w:=by grind
  rw[this,c];grind
 have a:0≤e*(1/(M:Rat))/4:=by
  have:=Rat.mul_nonneg (show 0≤e by grind) b
  grind
 have k:=gd_way (by omega) F O (by omega) P a M (Nat.le_refl _);rw[L] at k;have:4*(e*(1/(M:Rat))/4)*(M:Rat)=e*(1/(M:Rat)*(M:Rat)):=by grind
 rw[this,c] at k
 grind
def CxN.Has (x:Nat→CxN)(v:CxN):Prop:= ∀e:Rat,0<e→ ∃N,∀n,N≤n→nm (sb (ez (x n) n) v)≤e
theorem CxN.nm_of_sb (a b:CxN):nm a≤nm (sb a b)+nm b:=by
 have h:=nm_add (sb a b) b;have e:add (sb a b) b=a:=by apply ext'<;>simp only[sb,add,sc]<;>grind
 rw[e] at h;exact h
theorem CxN.Has.mul {x y:Nat→CxN}{v u:CxN}{B:Rat}(k: ∀n,nm (x n)≤B)(G: ∀n,nm (y n)≤B)(C:Has x v)(f:Has y u):Has (fun n=>add (x n) (y n)) (CxN.mul v u):=by
 intro e c;have U:0≤B:=Rat.le_trans (nm_nonneg _) (k 0);have hu:=nm_nonneg u;have F:=nm_nonneg v;have g:0<1/(3*(nm u+1)):=by
  have A:0≤1/(3*(nm u+1)):=inv_nn (by grind);have D:1/(3*(nm u+1))*(3*(nm u+1))=1:=by grind
  grind
 have h:0<1/(3*(nm v+1)):=by
  have A:0≤1/(3*(nm v+1)):=inv_nn (by grind);have D:1/(3*(nm v+1))*(3*(nm v+1))=1:=by grind
  grind
 have H:1/(3*(nm u+1))*(3*(nm u+1))=1:=by grind
 have I:1/(3*(nm v+1))*(3*(nm v+1))=1:=by grind
 generalize 1/(3*(nm u+1))=i at*;generalize 1/(3*(nm v+1))=j at*;obtain⟨r,l⟩:=C (e*i) (Rat.mul_pos c g);obtain⟨s,m⟩:=f (e*j) (Rat.mul_pos c h);obtain⟨t,o⟩:=f 1 (by grind);obtain⟨w,q⟩:=er_lim (B:=B+B) (by grind) (e:=e/3) (by grind);refine⟨r+s+t+w,fun n W=> ?_⟩
 have J:=l n (by omega);have K:=m n (by omega);have t3:=o n (by omega);have t4:=q n (2*n) (by omega) (by omega);have p:=ez_prod (x n) (y n) n;have d:=er_diff (a:=nm (x n)+nm (y n)) (b:=B+B) (by have:=nm_nonneg (x n);have:=nm_nonneg (y n);grind) (by have:=k n;have:=G n;grind) (show n≤2*n by omega)
 generalize ez (x n) n=X at*;generalize ez (y n) n=Y at*;generalize ez (add (x n) (y n)) n=Z at*;have E:nm Y≤1+nm u:=by have:=nm_of_sb Y u;grind
 have z:sb Z (CxN.mul v u)=add (sc (-1) (add (CxN.mul X Y) (sc (-1) Z))) (add (CxN.mul (sb X v) Y) (CxN.mul v (sb Y u))):=by
  apply ext'<;>simp only[sb,add,sc,CxN.mul]<;>grind
 rw[z];have L:=nm_add (sc (-1) (add (CxN.mul X Y) (sc (-1) Z))) (add (CxN.mul (sb X v) Y) (CxN.mul v (sb Y u)));have M:=nm_add (CxN.mul (sb X v) Y) (CxN.mul v (sb Y u));have N:=nm_mul (sb X v) Y;have O:=nm_mul v (sb Y u);have P:nm (sc (-1) (add (CxN.mul X Y) (sc (-1) Z)))=nm (add (CxN.mul X Y) (sc (-1) Z)):=by
  rw[nm_sc];have:ab (-1)=1:=by unfold ab;grind
  rw[this];grind
 have Q:=mul_le_mul' J E (nm_nonneg Y) (show 0≤e*i by have:=Rat.mul_pos c g;grind)
 have R:=Rat.mul_le_mul_of_nonneg_left K F;have S:e*i*(1+nm u)=e/3:=by
  have:e*i*(1+nm u)=e*(i*(3*(nm u+1)))/3:=by grind
  rw[this,H];grind
 have T:nm v*(e*j)≤e/3:=by
  have:nm v*(e*j)=e*(j*(3*(nm v+1)))/3-e*j:=by grind
  rw[this,I];have:=Rat.mul_pos c h
  grind
 grind
theorem CxN.Has.at {w v u:CxN}(k:nm w≤1/4)(a:CxN.mul u (sb one w)=one)(b:CxN.mul v (sb one w)=add one w):Has (fun n=>sc 2 (at' w n)) v:=by
 intro e c;have j:=nm_nonneg u;have r:0≤1/(nm u+1):=inv_nn (by grind);have g:1/(nm u+1)*(nm u+1)=1:=by grind
 have d:0<1/(nm u+1):=by grind
 generalize 1/(nm u+1)=i at*;obtain⟨N,H⟩:=ex_at (e:=e*i) (Rat.mul_pos c d);refine⟨N,fun n h=> ?_⟩
 have t:=H n h w k;unfold gd at t;have s:=congrArg CxN.re a;have x:=congrArg CxN.im a;have y:=congrArg CxN.re b;have z:=congrArg CxN.im b
 show nm (sb (ez (sc 2 (at' w n)) n) v)≤e
 generalize ez (sc 2 (at' w n)) n=E at*;have f:sb E v=CxN.mul u (sb (CxN.mul E (sb one w)) (add one w)):=by
  rw[←b];have:sb (CxN.mul E (sb one w)) (CxN.mul v (sb one w))=CxN.mul (sb one w) (sb E v):=by
   apply ext'<;>simp only[sb,add,sc,CxN.mul,one]<;>grind
  rw[this];have:CxN.mul u (CxN.mul (sb one w) (sb E v))=CxN.mul (CxN.mul u (sb one w)) (sb E v):=by
   generalize sb one w=p;generalize sb E v=q;apply ext'<;>simp only[CxN.mul]<;>grind
  rw[this,a];apply ext'<;>simp only[CxN.mul,one]<;>grind
 rw[f];have l:=nm_mul u (sb (CxN.mul E (sb one w)) (add one w));have m:=Rat.mul_le_mul_of_nonneg_left t j;have o:nm u*(e*i)≤e:=by
  have:nm u*(e*i)=e*(i*(nm u+1))-e*i:=by grind
  rw[this,g];have:=Rat.mul_pos c d
  grind
 grind
theorem CxN.ez_zero (m:Nat):ez zero (m+1)=one:=by
 induction m with
 |zero=>apply ext'<;>simp only[ez,sm,pz,one,zero,add]<;>grind
 |succ m ih=>
  show add (ez zero (m+1)) (pz zero (m+1))=one
  rw[ih];have:pz zero (m+1)=zero:=by
   rw[pz];apply ext'<;>simp only[mul,sc,zero]<;>grind
  rw[this];apply ext'<;>simp only[add,one,zero]<;>grind
theorem CxN.Has.times {x:Nat→CxN}{v:CxN}{B:Rat}(a: ∀n,nm (x n)≤B)(h:Has x v): ∀k:Nat,Has (fun n=>sc (k:Rat) (x n)) (pwE v k)
 |0=>by
  intro e o;refine⟨1,fun n p=> ?_⟩
  obtain⟨m,rfl⟩: ∃m,n=m+1:=⟨n-1,by omega⟩;have c:sc ((0:Nat):Rat) (x (m+1))=zero:=by apply ext'<;>simp only[sc,zero]<;>simp
  show nm (sb (ez (sc ((0:Nat):Rat) (x (m+1))) (m+1)) (pwE v 0))≤e
  rw[c,ez_zero];have:nm (sb one (pwE v 0))=0:=by
   show nm (sb one one)=0
   unfold nm sb one ab add sc
   grind
  rw[this]
  grind
 |k+1=>by
  have l:=Has.times a h k;have j: ∀n,nm (sc (k:Rat) (x n))≤(k:Rat)*B+B:=fun n=>by
   have b:(0:Rat)≤(k:Rat):=by
    have:((0:Nat):Rat)≤(k:Rat):=Rat.natCast_le_natCast.2 (by omega)
    simpa using this
   rw[nm_sc' b];have:=Rat.mul_le_mul_of_nonneg_left (a n) b;have:=nm_nonneg (x n);have:=a n
   grind
  have i: ∀n,nm (x n)≤(k:Rat)*B+B:=fun n=>by
   have b:(0:Rat)≤(k:Rat):=by
    have:((0:Nat):Rat)≤(k:Rat):=Rat.natCast_le_natCast.2 (by omega)
    simpa using this
   have g:0≤B:=Rat.le_trans (nm_nonneg _) (a n);have:=Rat.mul_nonneg b g;have:=a n
   grind
  have:=Has.mul j i l h;have d:(fun n=>add (sc (k:Rat) (x n)) (x n))=fun n=>sc ((k+1:Nat):Rat) (x n):=by
   funext n
   have f:((k+1:Nat):Rat)=(k:Rat)+1:=by simp
   rw[f];apply ext'<;>simp only[sc,add]<;>grind
  rw[d] at this;exact this
theorem CxN.bd_at {w:CxN}(a:nm w≤1/4)(n:Nat):nm (sc 2 (at' w n))≤1:=by
 rw[nm_sc' (by grind)];have:=nm_at a n
 grind
theorem CxN.nm_re {a c:Rat}(b:0≤a)(h:a≤c):nm ⟨a,0⟩≤c:=by
 unfold nm ab
 grind
def CxN.lnZ (n:Nat):CxN:=add (add (sc (9:Nat) (sc 2 (at' ⟨1/26,0⟩ n))) (sc 2 (at' ⟨-1/4801,0⟩ n))) (sc (4:Nat) (sc 2 (at' ⟨1/8749,0⟩ n)))
theorem CxN.has_lnA:Has lnZ ⟨2,0⟩:=by
 have a:nm ⟨1/26,0⟩≤1/4:=nm_re (by grind) (by grind);have i:nm ⟨-1/4801,0⟩≤1/4:=by unfold nm ab;grind
 have b:nm ⟨1/8749,0⟩≤1/4:=nm_re (by grind) (by grind);have m:=Has.at (v:=⟨27/25,0⟩) (u:=⟨26/25,0⟩) a (by apply ext'<;>simp only[mul,sb,add,sc,one]<;>grind) (by apply ext'<;>simp only[mul,sb,add,sc,one]<;>grind)
 have o:=Has.at (v:=⟨2400/2401,0⟩) (u:=⟨4801/4802,0⟩) i (by apply ext'<;>simp only[mul,sb,add,sc,one]<;>grind) (by apply ext'<;>simp only[mul,sb,add,sc,one]<;>grind)
 have p:=Has.at (v:=⟨4375/4374,0⟩) (u:=⟨8749/8748,0⟩) b (by apply ext'<;>simp only[mul,sb,add,sc,one]<;>grind) (by apply ext'<;>simp only[mul,sb,add,sc,one]<;>grind)
 have s:=Has.times (bd_at a) m 9;have t:=Has.times (bd_at b) p 4;have c: ∀(k:Nat) (x:Nat→CxN) (n:Nat),nm (x n)≤1→nm (sc (k:Rat) (x n))≤(k:Rat):=fun k x n q=>by
  have g:(0:Rat)≤(k:Rat):=by
   have:((0:Nat):Rat)≤(k:Rat):=Rat.natCast_le_natCast.2 (by omega)
   simpa using this
  rw[nm_sc' g];have:=Rat.mul_le_mul_of_nonneg_left q g
  grind
 have d: ∀n,nm (sc ((9:Nat):Rat) (sc 2 (at' ⟨1/26,0⟩ n)))≤14:=fun n=>Rat.le_trans (c 9 (fun n=>sc 2 (at' ⟨1/26,0⟩ n)) n (bd_at a n)) (by grind)
 have f: ∀n,nm (sc 2 (at' ⟨-1/4801,0⟩ n))≤14:=fun n=>Rat.le_trans (bd_at i n) (by grind)
 have l: ∀n,nm (sc ((4:Nat):Rat) (sc 2 (at' ⟨1/8749,0⟩ n)))≤14:=fun n=>Rat.le_trans (c 4 (fun n=>sc 2 (at' ⟨1/8749,0⟩ n)) n (bd_at b n)) (by grind)
 have r:=Has.mul d f s o;have j: ∀n,nm (add (sc ((9:Nat):Rat) (sc 2 (at' ⟨1/26,0⟩ n))) (sc 2 (at' ⟨-1/4801,0⟩ n)))≤28:=fun n=>by
  have:=nm_add (sc ((9:Nat):Rat) (sc 2 (at' ⟨1/26,0⟩ n))) (sc 2 (at' ⟨-1/4801,0⟩ n));have:=d n;have:=f n
  grind
 have h:=Has.mul j (fun n=>Rat.le_trans (l n) (by grind)) r t
 have e:mul (mul (pwE ⟨27/25,0⟩ 9) ⟨2400/2401,0⟩) (pwE ⟨4375/4374,0⟩ 4)=⟨2,0⟩:=by
  apply ext'<;>simp only[pwE,mul,one]<;>grind
 rw[e] at h;exact h
theorem CxN.bd_times (k:Nat)(x:Nat→CxN)(n:Nat)(b:nm (x n)≤1):nm (sc (k:Rat) (x n))≤(k:Rat):=by
 have a:(0:Rat)≤(k:Rat):=by
  have:((0:Nat):Rat)≤(k:Rat):=Rat.natCast_le_natCast.2 (by omega)
  simpa using this
 rw[nm_sc' a];have:=Rat.mul_le_mul_of_nonneg_left b a
 grind
theorem CxN.inj {z:CxN}(h:nm z≤1/2){n:Nat}(c:2≤n):nm z≤2*nm (sb (ez z n) one):=by
 have t:=ez_two z (by grind) c;have e:z=sb (sb (ez z n) one) (sb (ez z n) (add one z)):=by
  generalize ez z n=E;apply ext'<;>simp only[sb,add,sc,one]<;>grind
 have a:=nm_sb (sb (ez z n) one) (sb (ez z n) (add one z));rw[←e] at a;have b:=Rat.mul_le_mul_of_nonneg_left h (nm_nonneg z)
 grind
theorem inv_mul (k:Nat):1/((k+1:Nat):Rat)*((k+1:Nat):Rat)=1:=by
 have:=CxN.nat_ne k
 grind
theorem er_slope {d:Rat}(c:0≤d){n:Nat}(f:2≤n):1+d≤er d n:=by
 have a:=er_mono c f;have e:er d 2=1+d:=by
  have b:prE d 1=1/((0+1:Nat):Rat)*(1*d):=rfl
  show 0+1+prE d 1=_
  rw[b];simp
  grind
 grind
def CxN.Lim (x y:Nat→CxN):Prop:= ∀e:Rat,0<e→ ∃N,∀n,N≤n→nm (sb (x n) (y n))≤e
def NrN (f g:Nat→Rat):Prop:= ∀e:Rat,0<e→ ∃N,∀n,N≤n→ab (f n-g n)≤e
theorem NrN.refl (f:Nat→Rat):NrN f f:=fun e a=>⟨0,fun n _=>by rw[ab_le];constructor<;>grind⟩
theorem NrN.symm {f g:Nat→Rat}(h:NrN f g):NrN g f:=fun e a=>by
 obtain⟨N,H⟩:=h e a;refine⟨N,fun n b=> ?_⟩
 have:=H n b;rw[ab_le] at this⊢
 constructor<;>grind
theorem CxN.Lim.re {x y:Nat→CxN}(h:Lim x y):NrN (fun n=>(x n).re) (fun n=>(y n).re):=fun e b=>by
 obtain⟨N,H⟩:=h e b;refine⟨N,fun n c=> ?_⟩
 have:=H n c;unfold nm sb add sc at this;simp only at this;have:=ab_nonneg ((x n).im+ -1*(y n).im);have a:(x n).re+ -1*(y n).re=(x n).re-(y n).re:=by grind
 rw[a] at*
 grind
theorem CxN.Lim.im {x y:Nat→CxN}(h:Lim x y):NrN (fun n=>(x n).im) (fun n=>(y n).im):=fun e b=>by
 obtain⟨N,H⟩:=h e b;refine⟨N,fun n c=> ?_⟩
 have:=H n c;unfold nm sb add sc at this;simp only at this;have:=ab_nonneg ((x n).re+ -1*(y n).re);have a:(x n).im+ -1*(y n).im=(x n).im-(y n).im:=by grind
 rw[a] at*
 grind
theorem CxN.has_shift {y z:Nat→CxN}{v:CxN}{A B:Rat}(l: ∀n,nm (y n)≤A)(g: ∀n,nm (z n)≤B)(h:Has y v):Lim (fun n=>ez (add (y n) (z n)) n) (fun n=>mul v (ez (z n) n)):=by
 intro e L;have K:0≤A:=Rat.le_trans (nm_nonneg _) (l 0);have i:0≤B:=Rat.le_trans (nm_nonneg _) (g 0);obtain⟨f,m⟩:=er_lim i (e:=1) (by grind);have j: ∀n,f≤n→nm (ez (z n) n)≤er B f+1:=fun n k=>by
  have a:=nm_ez (z n) n;have b:=er_le (nm_nonneg (z n)) (g n) n;have c:=m f n (by omega) k
  grind
 obtain⟨G,D⟩: ∃G,er B f+1=G:=⟨_,rfl⟩;rw[D] at j;have J:1≤G:=by have:=er_nonneg i f;grind
 obtain⟨r,o⟩:=h (e/2*(1/G)) (Rat.mul_pos (by grind) (by have:=inv_nn (show 0<G by grind);grind))
 obtain⟨s,q⟩:=er_lim (B:=A+B) (by grind) (e:=e/2) (by grind);refine⟨f+r+s,fun n k=> ?_⟩
 have E:=j n (by omega);have F:=o n (by omega);have M:=q n (2*n) (by omega) (by omega);have p:=ez_prod (y n) (z n) n;have d:=er_diff (a:=nm (y n)+nm (z n)) (b:=A+B) (by have:=nm_nonneg (y n);have:=nm_nonneg (z n);grind) (by have:=l n;have:=g n;grind) (show n≤2*n by omega)
 show nm (sb (ez (add (y n) (z n)) n) (mul v (ez (z n) n)))≤e
 generalize ez (add (y n) (z n)) n=S at*;generalize ez (y n) n=Y at*;generalize ez (z n) n=Z at*;have C:sb S (mul v Z)=add (sc (-1) (add (mul Y Z) (sc (-1) S))) (mul (sb Y v) Z):=by apply ext'<;>simp only[sb,add,sc,mul]<;>grind
 rw[C];have H:=nm_add (sc (-1) (add (mul Y Z) (sc (-1) S))) (mul (sb Y v) Z);have t:=nm_sc (-1) (add (mul Y Z) (sc (-1) S));have u:ab (-1)=1:=by unfold ab;grind
 rw[u] at t;have I:=nm_mul (sb Y v) Z;have w:=mul_le_mul' F E (nm_nonneg _) (show 0≤e/2*(1/G) by have:=nm_nonneg (sb Y v);grind)
 have x:e/2*(1/G)*G=e/2:=by grind
 rw[x] at w
 grind
theorem CxN.la_bd (n:Nat):nm (lnZ n)≤28+14:=by
 have a:nm ⟨1/26,0⟩≤1/4:=nm_re (by grind) (by grind);have b:nm ⟨-1/4801,0⟩≤1/4:=by unfold nm ab;grind
 have c:nm ⟨1/8749,0⟩≤1/4:=nm_re (by grind) (by grind);have d:=bd_times 9 (fun n=>sc 2 (at' ⟨1/26,0⟩ n)) n (bd_at a n)
 have e:=bd_at b n;have f:=bd_times 4 (fun n=>sc 2 (at' ⟨1/8749,0⟩ n)) n (bd_at c n)
 have g:=nm_add (sc ((9:Nat):Rat) (sc 2 (at' ⟨1/26,0⟩ n))) (sc 2 (at' ⟨-1/4801,0⟩ n));have h:=nm_add (add (sc ((9:Nat):Rat) (sc 2 (at' ⟨1/26,0⟩ n))) (sc 2 (at' ⟨-1/4801,0⟩ n))) (sc ((4:Nat):Rat) (sc 2 (at' ⟨1/8749,0⟩ n)));unfold lnZ
 grind
theorem CxN.nm_natsc (k:Nat)(a:CxN){B:Rat}(h:nm a≤B):nm (sc (k:Rat) a)≤(k:Rat)*B:=by
 have b:(0:Rat)≤(k:Rat):=by
  have:((0:Nat):Rat)≤(k:Rat):=Rat.natCast_le_natCast.2 (by omega)
  simpa using this
 rw[nm_sc' b];exact Rat.mul_le_mul_of_nonneg_left h b
theorem CxN.exp_opp (x:Rat):NrN (fun n=>er x n*er (-x) n) (fun _=>1):=fun e d=>by
 obtain⟨N,H⟩:=er_lim (B:=nm ⟨x,0⟩+nm ⟨-x,0⟩) (by have:=nm_nonneg ⟨x,0⟩;have:=nm_nonneg ⟨-x,0⟩;grind) d;refine⟨N+1,fun n f=> ?_⟩
 have h:=H n (2*n) (by omega) (by omega);have p:=ez_prod ⟨x,0⟩ ⟨-x,0⟩ n;have c:add ⟨x,0⟩ ⟨-x,0⟩=zero:=by apply ext'<;>simp only[add,zero]<;>grind
 obtain⟨m,rfl⟩: ∃m,n=m+1:=⟨n-1,by omega⟩;rw[c,ez_zero,ez_real,ez_real] at p;have q:nm (add (mul ⟨er x (m+1),0⟩ ⟨er (-x) (m+1),0⟩) (sc (-1) one))=ab (er x (m+1)*er (-x) (m+1)-1):=by
  unfold nm add mul sc one;simp only;have a:er x (m+1)*er (-x) (m+1)-0*0+ -1*1=er x (m+1)*er (-x) (m+1)-1:=by grind
  have b:er x (m+1)*0+0*er (-x) (m+1)+ -1*0=0:=by grind
  rw[a,b];have:ab 0=0:=by unfold ab;grind
  rw[this]
  grind
 rw[q] at p;exact Rat.le_trans p h
def CxN.ct (x:Rat)(n:Nat):Rat:=(ez ⟨0,x⟩ n).re
theorem div_rat {a b:Nat}(d:0<b):((a/b:Nat):Rat)*(b:Rat)≤(a:Rat)∧(a:Rat)≤((a/b:Nat):Rat)*(b:Rat)+((b:Rat)-1):=by
 have h:=Nat.div_add_mod a b;have e:=Nat.mod_lt a d;have c:((a/b:Nat):Rat)*(b:Rat)=((b*(a/b):Nat):Rat):=by rw[Rat.natCast_mul];grind
 rw[c]
 constructor
 ·exact Rat.natCast_le_natCast.2 (by omega)
 ·have f:(a:Rat)+1≤((b*(a/b):Nat):Rat)+(b:Rat):=by
   have:((a+1:Nat):Rat)≤((b*(a/b)+b:Nat):Rat):=Rat.natCast_le_natCast.2 (by omega);rw[Rat.natCast_add,Rat.natCast_add] at this
   simpa using this
  grind
theorem hf_1:hf 1=1/2:=by simp only[hf];grind
theorem rs_mulL (z:Rat)(f:Nat→Rat): ∀n,rs (fun j=>z*f j) n=z*rs f n
 |0=>by simp only[rs];grind
 |n+1=>by simp only[rs,rs_mulL z f n];grind
theorem ab_two (x:Rat):ab (2*x)=2*ab x:=by unfold ab;grind
theorem er_bd {K:Rat}(d:0≤K): ∃(C:Rat) (N:Nat),1≤C∧ ∀n,N≤n→ ∀z,ab z≤K→ab (er z n)≤C:=by
 obtain⟨N,H⟩:=er_lim d (e:=1) (by grind);refine⟨er K N+1,N,by have:=er_nonneg d N;grind,fun n h z i=> ?_⟩
 have a:=CxN.nm_ez ⟨z,0⟩ n;rw[ez_real] at a;have j:ab 0=0:=by unfold ab;grind
 have f:CxN.nm ⟨er z n,0⟩=ab (er z n):=by unfold CxN.nm;simp only;grind
 have g:CxN.nm ⟨z,0⟩=ab z:=by unfold CxN.nm;simp only;grind
 rw[f,g] at a;have b:=er_le (ab_nonneg z) i n;have c:=H N n (by omega) h
 grind
theorem has_nr {x:Nat→Rat}{v:Rat}(h:CxN.Has (fun n=>⟨x n,0⟩) ⟨v,0⟩):NrN (fun n=>er (x n) n) (fun _=>v):=by
 have:=CxN.Lim.re (x:=fun n=>ez ⟨x n,0⟩ n) (y:=fun _=>⟨v,0⟩) h
 have e:(fun n=>(ez ⟨x n,0⟩ n).re)=fun n=>er (x n) n:=by funext n;rw[ez_real]
 rw[e] at this;exact this
end Go.Proofs.YthhiidikgchdeabGreatDoor
