/-
  Texts laid together: Sm2, Sm3, Gr7, Sp1, Sp2, Sp3, Sp4, Sp5, Sp6, Sp7, Sx0.
-/
import Derived.Test.YtiakgfmlpdfhdaaDoorSw03
import Derived.Test.YtiakgfmlpdfhdaaDoorSw04
namespace Go.Proofs.YtiakgfmlpdfhdaaDoor
open Go.RowKit
theorem inv_ord {n k tn:Nat}(hn:2≤n)(ht:tn≤1): ∀f i t s r R,InvN n k tn R f i t s r→R.2.2≤R.2.1∧R.1≤k+1:=by
 intro f
 induction f with
 |zero=>
  intro i t s r R h;obtain rfl:t=0:=by simpa using h.2.1
  obtain⟨e,h1,h2,-⟩:=inv_end h;subst e;exact⟨h1,h2⟩
 |succ f ih=>
  intro i t s r R h
  by_cases h0:t=0
  ·subst h0
   obtain⟨e,h1,h2,-⟩:=inv_end h;subst e;exact⟨h1,h2⟩
  ·rcases Nat.mod_two_eq_zero_or_one i with c|c
   ·obtain⟨f',e,h1⟩:=inv_up hn h h0 (by rw[c,Nat.mul_zero]) ht
    obtain rfl:f=f':=by omega
    exact ih _ _ _ _ _ h1
   ·by_cases c2:tn=0
    ·obtain⟨f',e,h1⟩:=inv_up hn h h0 (by rw[c2,Nat.zero_mul]) ht
     obtain rfl:f=f':=by omega
     exact ih _ _ _ _ _ h1
    ·obtain⟨f',e,h1⟩:=inv_down hn h h0 (by rw[c];omega)
     obtain rfl:f=f':=by omega
     exact ih _ _ _ _ _ h1
def XA (n tn k:Nat):Nat:=(lp (n*n) tn (k+1) 0 (2^k/n) 0 0).2.1-(lp (n*n) tn (k+1) 0 (2^k/n) 0 0).2.2
def NA (n tn k:Nat):Nat:=(lp (n*n) tn (k+1) 0 (2^k/n) 0 0).1
theorem na_le {n tn k:Nat}(hn:2≤n)(ht:tn≤1):NA n tn k≤k+1:=(inv_ord hn ht _ _ _ _ _ _ (inv_zero hn)).2
theorem pow4_le (k:Nat)(n:Nat):2^k/n<4^ (k+1):=by
 have h:=Nat.div_le_self (2^k) n;have h1:(2:Nat)^k≤4^k:=Nat.pow_le_pow_left (by omega) k;have h2:(4:Nat)^ (k+1)=4^k*4:=Nat.pow_succ 4 k;have h3:0< (4:Nat)^k:=Nat.pow_pos (by omega);omega
theorem xa_pair {n tn k W:Nat}(hn:2≤n)(ht:tn≤1)(hk:k≤W):
  XA n tn k*2^ (W-k)≤XA n tn W+(NA n tn k+2)*2^ (W-k)∧XA n tn W≤XA n tn k*2^ (W-k)+(NA n tn k+2)*2^ (W-k):=by
 obtain⟨D,hD⟩: ∃D,2^ (W-k)=D:=⟨_,rfl⟩;have hW:(2:Nat)^W=2^k*D:=by rw[←hD,←Nat.pow_add];congr 1;omega
 have hD0:0<D:=by rw[←hD];exact Nat.pow_pos (by omega)
 obtain⟨p1,p2⟩:=div_pair (t:=2^k) (T:=2^W) (D:=D) (k:=n) (by omega) (by rw[hW];exact Nat.le_refl _) (by rw[hW,Nat.add_mul];omega);have h:=lp_pair (n*n) tn D (Nat.mul_le_mul hn hn) (k+1) (W+1) 0 (2^k/n) (2^W/n) 0 0 0 0 (pow4_le k n) (pow4_le W n) p1 p2;have o1:=(inv_ord hn ht _ _ _ _ _ _ (inv_zero (k:=k) (tn:=tn) hn)).1;have o2:=(inv_ord hn ht _ _ _ _ _ _ (inv_zero (k:=W) (tn:=tn) hn)).1;unfold XA NA;rw[hD];generalize lp (n*n) tn (k+1) 0 (2^k/n) 0 0=x at*;generalize lp (n*n) tn (W+1) 0 (2^W/n) 0 0=y at*;obtain⟨-,⟨a1,a2⟩,b1,b2⟩:=h;simp only[Nat.zero_mul,Nat.add_zero,Nat.zero_add,Nat.sub_zero] at a1 a2 b1 b2;have e:(x.2.1-x.2.2)*D+x.2.2*D=x.2.1*D:=by rw[←Nat.add_mul];congr 1;omega
 generalize(x.2.1-x.2.2)*D=A at*;generalize x.2.1*D=B at*;generalize x.2.2*D=C at*;generalize(x.1+2)*D=E at*;omega
def win (S:Nat):Nat→Nat→Bool
 |0,_=>true
 |k+1,p=>Nat.ble (2^ (p-32)) (S % 2^p)&&Nat.ble (S % 2^p+2^ (p-32)+1) (2^p)&&win S k (p+10)
theorem win_at (S:Nat): ∀k p j,win S k p=true→j<k→2^ (p+10*j-32)≤S % 2^ (p+10*j)∧S % 2^ (p+10*j)+2^ (p+10*j-32)<2^ (p+10*j):=by
 intro k
 induction k with
 |zero=>intro p j _ h;omega
 |succ k ih=>
  intro p j h hj;unfold win at h;simp only[Bool.and_eq_true,Nat.ble_eq] at h;obtain⟨⟨h1,h2⟩,h3⟩:=h
  cases j with
  |zero=>simp only[Nat.mul_zero,Nat.add_zero];exact⟨h1,by omega⟩
  |succ j=>
   have:=ih (p+10) j h3 (by omega)
   rwa [show p+10+10*j=p+10*(j+1) by omega] at this
theorem win_all {S L:Nat}(hL:1000≤L)(hw:win S 100 (10*((L-1000)/10))=true){b:Nat}(h1:10≤b)(h2:b≤1000)(hp:42≤L-b):
  ∃m,L-b≤m+41∧2^m≤S % 2^ (L-b)∧S % 2^ (L-b)+2^m<2^ (L-b):=by
 obtain⟨j,hj⟩: ∃j,j=(L-b)/10-(L-1000)/10:=⟨_,rfl⟩;have hj2:j<100:=by omega
 obtain⟨w1,w2⟩:=win_at S 100 _ j hw hj2;obtain⟨p0,hp0⟩: ∃p,p=10*((L-1000)/10)+10*j:=⟨_,rfl⟩;have e0:p0≤L-b∧L-b≤p0+9:=by omega
 rw[←hp0] at w1 w2;obtain⟨g,hg⟩: ∃g,L-b=p0+g:=⟨L-b-p0,by omega⟩;refine⟨p0-32,by omega, ?_, ?_⟩
 ·rw[hg,Nat.pow_add,Nat.mod_mul]
  omega
 ·rw[hg,Nat.pow_add,Nat.mod_mul]
  have h3:=Nat.mod_lt (S/2^p0) (show 0<2^g from Nat.pow_pos (by omega))
  have h4:2^p0*(S/2^p0 % 2^g)+2^p0≤2^p0*2^g:=by
   rw[←Nat.mul_succ];exact Nat.mul_le_mul_left _ h3
  omega
theorem cut_same {S L W w b lo hi dl:Nat}(hLl:2^ (L-1)≤S)(hLh:S<2^L)(hb:1≤b)(hbL:b<L)(hw:w≤W)(hq:W≤L-b+w){m:Nat}(m1:2^m≤S % 2^ (L-b))(m2:S % 2^ (L-b)+2^m<2^ (L-b))
  (s1:lo*2^ (W-w)≤S) (s2:S≤hi*2^ (W-w)) (hd:hi≤lo+dl) (hm:dl*2^ (W-w)≤2^m):
  ∃c,2^b≤2*c∧c<2^b∧c*2^ (L-b+w-W)≤lo∧hi< (c+1)*2^ (L-b+w-W)∧lo≤hi:=by
 obtain⟨D,hD⟩: ∃D,2^ (W-w)=D:=⟨_,rfl⟩;obtain⟨Q,hQ⟩: ∃Q,2^ (L-b+w-W)=Q:=⟨_,rfl⟩;have hD0:0<D:=by rw[←hD];exact Nat.pow_pos (by omega)
 have hP:2^ (L-b)=Q*D:=by rw[←hD,←hQ,←Nat.pow_add];congr 1;omega
 have hL2:2^L=2^b*(Q*D):=by rw[←hP,←Nat.pow_add];congr 1;omega
 have hL1:2^L=2*2^ (L-1):=by rw[←Nat.pow_succ'];congr 1;omega
 have hP0:0<Q*D:=by rw[←hP];exact Nat.pow_pos (by omega)
 rw[hD] at s1 s2 hm;rw[hP] at m1 m2;have hS:=Nat.div_add_mod S (Q*D);obtain⟨c,hc⟩: ∃c,S/(Q*D)=c:=⟨_,rfl⟩;rw[hc] at hS;rw[hQ];have hdl:hi*D≤lo*D+dl*D:=by rw[←Nat.add_mul];exact Nat.mul_le_mul_right _ hd
 refine⟨c, ?_, ?_, ?_, ?_, ?_⟩
 ·refine Nat.le_of_mul_le_mul_right (c:=Q*D) ?_ hP0
  rw[←hL2,hL1,Nat.mul_assoc];refine Nat.mul_le_mul_left 2 ?_;have h5:2^b*(Q*D)≤2*S:=by omega
  have h6:2*(c*(Q*D))+2*(Q*D)>2*S:=by
   have:=Nat.mod_lt S hP0;rw[Nat.mul_comm c];omega
  obtain⟨b',rfl⟩: ∃b',b=b'+1:=⟨b-1,by omega⟩;rw[Nat.pow_succ] at h5 hL2;have h7:2^b'*(Q*D)≤S:=by rw[Nat.mul_right_comm] at h5;omega
  have h8:2^b'≤c:=by rw[←hc,Nat.le_div_iff_mul_le hP0];exact h7
  have h9:2^ (L-1)=2^b'*(Q*D):=by rw[Nat.mul_right_comm] at hL2;omega
  rw[h9];exact Nat.mul_le_mul_right _ h8
 ·rw[←hc,Nat.div_lt_iff_lt_mul hP0,←hL2]
  exact hLh
 ·refine Nat.le_of_mul_le_mul_right (c:=D) ?_ hD0
  rw[Nat.mul_assoc,Nat.mul_comm c];omega
 ·refine Nat.lt_of_mul_lt_mul_right (a:=D) ?_
  rw[Nat.mul_assoc,Nat.add_mul,Nat.one_mul,Nat.mul_comm c];omega
 ·refine Nat.le_of_mul_le_mul_right (c:=D) ?_ hD0
  omega
theorem V_make (w c q:Nat):V w ⟨false,c,(q:Int)-(w:Int)⟩=((c*2^q:Nat):Int):=by
 rw[eV]
 show sz false (c*2^ ((q:Int)-(w:Int)+(w:Int)).toNat)=_
 rw[show((q:Int)-(w:Int)+(w:Int)).toNat=q by omega]
 rfl
theorem V_flat {w:Nat}{A:ak}(_hA: -(w:Int)≤A.e)(hp:0<V w A):A.s=false∧V w A=((A.n*2^ (A.e+w).toNat:Nat):Int):=by
 rw[eV] at hp⊢
 cases h:A.s
 ·exact⟨rfl,rfl⟩
 ·rw[h] at hp
  unfold sz at hp;rw[if_pos rfl] at hp;have hz:=Int.natCast_nonneg (A.n*2^ (A.e+(w:Int)).toNat);generalize((A.n*2^ (A.e+(w:Int)).toNat:Nat):Int)=z at*;omega
theorem cut_is_c {w b c q:Nat}{A:ak}(hb:1≤b)(hA: -(w:Int)≤A.e)(c1:2^b≤2*c)(c2:c<2^b)(h1:((c*2^q:Nat):Int)≤V w A)(h2:V w A< (((c+1)*2^q:Nat):Int)):
  V w (aY A b false)=((c*2^q:Nat):Int)∧ -(w:Int)≤(aY A b false).e:=by
 have hb':(1:Int)≤(b:Int):=by omega
 obtain⟨a1,a2,a3,a4⟩:=lE A b hb' hA;have l1:=wM (K:=w) A ⟨false,c,(q:Int)-(w:Int)⟩ b hb' hA (by simpa using c2) (by rw[V_make];exact h1);rw[V_make] at l1;refine⟨?_,a3⟩;have hc0:0<2^b:=Nat.pow_pos (by omega);have hq0:0<2^q:=Nat.pow_pos (by omega);have hcq:0<c*2^q:=Nat.mul_pos (by omega) hq0;have e1:=dw (K:=w) a3;have hl:=mi A b false hb';rw[Int.toNat_natCast] at hl;have hbe:=eL (K:=w) a3;obtain⟨f1,f2⟩:=V_flat hbe (by rw[e1];omega);rw[e1] at f2
 by_cases hne:c*2^q< (bare (aY A b false)).n*2^ ((bare (aY A b false)).e+w).toNat
 ·exact(Ak hl c1 hne (by omega)).elim
 ·omega
theorem cut_up_c {w b c q:Nat}{A:ak}(hb:1≤b)(hA: -(w:Int)≤A.e)(c2:c<2^b)(h2:V w A< (((c+1)*2^q:Nat):Int)):
  V w A≤V w (aY A b true)∧V w (aY A b true)≤(((c+1)*2^q:Nat):Int)∧ -(w:Int)≤(aY A b true).e:=by
 have hb':(1:Int)≤(b:Int):=by omega
 obtain⟨a1,a2,a3,a4⟩:=lE A b hb' hA;refine⟨by omega, ?_,a4⟩
 by_cases hc:c+1<2^b
 ·have l1:=xZ (K:=w) A ⟨false,c+1,(q:Int)-(w:Int)⟩ b hb' hA (by simpa using hc) (by rw[V_make];omega)
  rwa [V_make] at l1
 ·have hc1:c+1=2^b:=by omega
  have hone:1<2^b:=Nat.one_lt_two_pow (by omega);have e:(c+1)*2^q=1*2^ (b+q):=by rw[hc1,Nat.one_mul,←Nat.pow_add]
  have l1:=xZ (K:=w) A ⟨false,1,((b+q:Nat):Int)-(w:Int)⟩ b hb' hA (by simpa using hone) (by rw[V_make,←e];omega)
  rwa [V_make,←e] at l1
theorem enter_of {P:Program}{f:FuncId}{fn:Func}{c:Code}(hf:P.funcs[f]? =some fn)(hname:(fn.name== "runtime.NumGoroutine")=false)(hb:fn.body=some c)(args:Array Value)(w:World):Sem.run P (callFunc f args) w= .ok (.enter f args) w:=by
 have hn: ¬fn.name= "runtime.NumGoroutine" :=by simpa using hname
 simp[callFunc,hf,hn,hb]
def SpanV (w:World)(v:Value)(a b:ak):Prop:= ∃p q,v= .agg #[.bool a.s,p,yi a.e,.bool b.s,q,yi b.e]∧Rd w .u32 p (Dg.dg 4294967296 a.n)∧Rd w .u32 q (Dg.dg 4294967296 b.n)
def FitsT (t:ak):Prop:=(∃k,k≤70000∧t.n<2^k)∧ -90000≤t.e∧t.e≤90000
theorem FitsT.len {t:ak}(h:FitsT t):(Dg.dg 4294967296 t.n).length≤9000:=by
 obtain⟨⟨k,h1,h2⟩,-⟩:=h;exact jq h2 (by omega)
theorem SpanV.l {w w':World}{v:Value}{a b:ak}(h:SpanV w v a b)(hb:yB w w'):SpanV w' v a b:=by
 obtain⟨p,q,h1,h2,h3⟩:=h;exact⟨p,q,h1,h2.l hb,h3.l hb⟩
theorem splus_any (v u:Value)(a b p q:ak)(w:World)(hv:SpanV w v a b)(hu:SpanV w u p q)(fa:FitsT a)(fb:FitsT b)(fp:FitsT p)(fq:FitsT q):yC 58 #[v,u] w (aeT w (aG a p) (aG b q)):=by
 obtain⟨s1,s2,rfl,r1,r2⟩:=hv;obtain⟨s3,s4,rfl,r3,r4⟩:=hu;obtain⟨ao,ac,rfl⟩:=r1.shape;obtain⟨bo,bc,rfl⟩:=r2.shape;obtain⟨po,pc,rfl⟩:=r3.shape;obtain⟨qo,qc,rfl⟩:=r4.shape;have la:=fa.len;have lb:=fb.len;have lp':=fp.len;have lq:=fq.len;obtain⟨-,a1,a2⟩:=fa;obtain⟨-,b1,b2⟩:=fb;obtain⟨-,p1,p2⟩:=fp;obtain⟨-,q1,q2⟩:=fq;exact spanPlus_W a b p q _ _ _ _ _ _ _ _ _ _ w
  (fun w1 hb=>(uj _ _ a p w1 ⟨_,rfl,r1.l hb⟩ ⟨_,rfl,r3.l hb⟩ (by omega) (by omega) (by omega) (by omega) (by omega) (by omega)).mono fun _ _ h=>h.vres)
  (fun w1 hb=>(uj _ _ b q w1 ⟨_,rfl,r2.l hb⟩ ⟨_,rfl,r4.l hb⟩ (by omega) (by omega) (by omega) (by omega) (by omega) (by omega)).mono fun _ _ h=>h.vres)
theorem sminus_any (v u:Value)(a b p q:ak)(w:World)(hv:SpanV w v a b)(hu:SpanV w u p q)(fa:FitsT a)(fb:FitsT b)(fp:FitsT p)(fq:FitsT q):yC 47 #[v,u] w (aeT w (aG a (dV q)) (aG b (dV p))):=by
 obtain⟨s1,s2,rfl,r1,r2⟩:=hv;obtain⟨s3,s4,rfl,r3,r4⟩:=hu;obtain⟨ao,ac,rfl⟩:=r1.shape;obtain⟨bo,bc,rfl⟩:=r2.shape;obtain⟨po,pc,rfl⟩:=r3.shape;obtain⟨qo,qc,rfl⟩:=r4.shape;exact spanMinus_W a b p q _ _ _ _ _ _ _ _ _ _ w
  (fun w1=>spanOpp_W p q _ _ _ _ w1 (fun w2=>YA q.s _ _ _ q.e w2) (fun w2=>YA p.s _ _ _ p.e w2))
  (fun w1 hb=>splus_any _ _ a b (dV q) (dV p) w1 ⟨_,_,rfl,r1.l hb,r2.l hb⟩ ⟨_,_,rfl,r4.l hb,r3.l hb⟩ fa fb fq fp)
def upT (t:ak)(n:Int):ak:=⟨t.s,t.n,t.e+n⟩
theorem whole_any (n:Nat)(w:World)(h:n<9223372036854775808):yC 71 #[yi n] w (Lx w ⟨false,n,0⟩):=
 whole_W n w (IntWalk.u64_in _ ⟨by omega,by omega⟩) (fun w1=>(KH n (by omega) w1).mono fun _ _ ⟨v,h1,h2,h3⟩=>⟨v,h1,h2.rd,h3⟩) (fun xo xc w1=>l9 _ _ _ _ _ w1)
theorem rd_cell1 {w:World}{q d:Nat}(h:au w q 87 [.int .u32 d]):Rd w .u32 (.slice (some ⟨q,0,none⟩) 1 1) [d]:=⟨_,_,rfl,by simp,by unfold maxLen;simp,fun _=>⟨_,0,rfl,fun i hi=>by
 obtain rfl:i=0:=by simpa using hi
 exact h.c 0 rfl⟩⟩
theorem len_pow {m k:Nat}(h:m≤2^k)(hk:k≤60000):(Dg.dg 4294967296 m).length≤1900:=
 jq (k:=k+1) (Nat.lt_of_le_of_lt h (Nat.pow_lt_pow_right (by omega) (by omega))) (by omega)
theorem big_pow {m k:Nat}(h:m≤(k+2)*2^k)(hk:k≤60000):m<2^ (k+16):=by
 refine Nat.lt_of_le_of_lt h ?_;rw[Nat.pow_add,Nat.mul_comm];exact Nat.mul_lt_mul_of_pos_left (by omega) (Nat.pow_pos (by omega))
theorem len_big {m k:Nat}(h:m≤(k+2)*2^k)(hk:k≤60000):(Dg.dg 4294967296 m).length≤1900:=jq (big_pow h hk) (by omega)
theorem overNS (m d:Nat)(v u:Value)(ys:List Nat)(w:World)(hv:Rd w .u32 v (Dg.dg 4294967296 m))(hu:Rd w .u32 u ys)(sb:Dg.Small 4294967296 ys)(nb:Dg.Norm ys)(hne:ys≠[])(e:Dg.vl 4294967296 ys=d)(hl:(Dg.dg 4294967296 m).length≤1900):
  yC 74 #[v,u] w (TwS w (m/d) (m % d)):=by
 have h:=A9 v u (Dg.dg 4294967296 m) ys w hv hu (Dg.small_dg _ _ (by omega)) sb (Dg.norm_dg _ _ (by omega)) nb hne (by omega);rw[Dg.vl_dg _ _ (by omega),e] at h;exact h.mono fun _ _ ⟨v1,v2,h1,h2,h3,h4⟩=>⟨v1,v2,h1,h2.rd,h3.rd,h4⟩
theorem dg_ne {d:Nat}(h:0<d):Dg.dg 4294967296 d≠[]:=fun e=>by
 have:=(Dg.dg_nil_iff 4294967296 d (by omega)).1 e;omega
theorem inverse_any (n k tn:Nat)(w:World)(hn:2≤n∧n<65536)(hk:k≤60000)(ht:tn=0∨tn=1):
  yC 60 #[yi n,yi k,yi tn] w (aeT w (invLo (lp (n*n) tn (k+1) 0 (2^k/n) 0 0) k) (invHi (lp (n*n) tn (k+1) 0 (2^k/n) 0 0) k)):=by
 have HO: ∀(m d q:Nat) v w1,Rd w1 .u32 v (Dg.dg 4294967296 m)→au w1 q 87 [.int .u32 d]→0<d∧d<4294967296∧m≤2^k→yC 74 #[v,.slice (some ⟨q,0,none⟩) 1 1] w1 (TwS w1 (m/d) (m % d)):=fun m d q v w1 hv hq hd=>
  overNS m d v _ [d] w1 hv (rd_cell1 hq) (Dg.small_cons.2 ⟨hd.2.1,Dg.small_nil _ (by omega)⟩) (fun _=>by simp;omega) (by simp) (by simp[Dg.vl]) (len_pow hd.2.2 hk)
 have HN: ∀(m d:Nat) v u w1,Rd w1 .u32 v (Dg.dg 4294967296 m)→Rd w1 .u32 u (Dg.dg 4294967296 d)→0<d∧m≤2^k→yC 74 #[v,u] w1 (TwS w1 (m/d) (m % d)):=fun m d v u w1 hv hu hd=>
  overNS m d v u _ w1 hv hu (Dg.small_dg _ _ (by omega)) (Dg.norm_dg _ _ (by omega)) (dg_ne hd.1) (Dg.vl_dg _ _ (by omega)) (len_pow hd.2 hk)
 have HT: ∀q w1,au w1 q 87 [.int .u32 n]→yC 76 #[.slice (some ⟨q,0,none⟩) 1 1,.slice (some ⟨q,0,none⟩) 1 1] w1 (NmS w1 (n*n)):=fun q w1 hq=>by
  have sm:Dg.Small 4294967296 [n]:=Dg.small_cons.2 ⟨by omega,Dg.small_nil _ (by omega)⟩;have h:=qC _ _ [n] [n] w1 (rd_cell1 hq) (rd_cell1 hq) sm sm (by simp) (by simp);rw[show Dg.vl 4294967296 [n]=n by simp[Dg.vl]] at h
  exact h.mono fun _ _ ⟨v,h1,h2,h3⟩=>⟨v,h1,h2.rd,h3⟩
 have HS: ∀q w1,au w1 q 87 [.int .u32 1]→yC 73 #[.slice (some ⟨q,0,none⟩) 1 1,yi k] w1 (NmS w1 (2^k)):=fun q w1 hq=>by
  have h:=eO _ [1] k w1 (rd_cell1 (d:=1) hq) (Dg.small_cons.2 ⟨by omega,Dg.small_nil _ (by omega)⟩) (by simp) (by omega) (by omega);rw[show Dg.vl 4294967296 [1]=1 by simp[Dg.vl],show shN 1 k=2^k by simp[shN];intro h;omega] at h
  exact h.mono fun _ _ ⟨v,h1,h2,h3⟩=>⟨v,h1,h2.rd,h3⟩
 have HP: ∀(a b:Nat) v u w1,Rd w1 .u32 v (Dg.dg 4294967296 a)→Rd w1 .u32 u (Dg.dg 4294967296 b)→a≤(k+2)*2^k∧b≤2^k→yC 75 #[v,u] w1 (NmS w1 (a+b)):=fun a b v u w1 hv hu h0=>by
  have l1:=len_big h0.1 hk;have l2:=len_pow h0.2 hk;have h:=rj v u _ _ w1 hv hu (Dg.small_dg _ _ (by omega)) (Dg.small_dg _ _ (by omega)) (by omega) (by omega);rw[Dg.vl_dg _ _ (by omega),Dg.vl_dg _ _ (by omega)] at h;exact h.mono fun _ _ ⟨v,h1,h2,h3⟩=>⟨v,h1,h2.rd,h3⟩
 have HM: ∀(a b:Nat) v u w1,Rd w1 .u32 v (Dg.dg 4294967296 a)→Rd w1 .u32 u (Dg.dg 4294967296 b)→a≤(k+2)*2^k∧b≤a→yC 78 #[v,u] w1 (NmS w1 (a-b)):=fun a b v u w1 hv hu h0=>by
  have l1:=len_big h0.1 hk;have h:=zL v u _ _ w1 hv hu (Dg.small_dg _ _ (by omega)) (Dg.small_dg _ _ (by omega)) (by omega) (Nat.le_of_not_lt fun hl=>absurd (Dg.vl_lt_of_len _ (by omega) _ _ (Dg.small_dg _ _ (by omega)) (Dg.norm_dg _ _ (by omega)) hl) (by rw[Dg.vl_dg _ _ (by omega),Dg.vl_dg _ _ (by omega)];omega)) (by rw[Dg.vl_dg _ _ (by omega),Dg.vl_dg _ _ (by omega)];exact h0.2)
  rw[Dg.vl_dg _ _ (by omega),Dg.vl_dg _ _ (by omega)] at h;exact h.mono fun _ _ ⟨v,h1,h2,h3⟩=>⟨v,h1,h2.rd,h3⟩
 have HL: ∀(m:Nat) xo xc w1,yC 77 (ydA false (yT xo m xc) 0) w1 (yR w1 (ydV false (yT xo m xc) 0)):=fun m xo xc w1=>l9 _ _ _ _ _ w1
 have HW: ∀(m:Nat) w1,m≤1000000→yC 71 #[yi m] w1 (Lx w1 ⟨false,m,0⟩):=fun m w1 h=>whole_any m w1 (by omega)
 have hsm: ∀d:Nat,d≤1000000→(Dg.dg 4294967296 d).length≤1:=fun d hd=>jq (k:=32) (by omega) (by omega)
 have HD: ∀(m d:Nat) xo xc yo yc w1,Rd w1 .u32 (yT xo m xc) (Dg.dg 4294967296 m)→Rd w1 .u32 (yT yo d yc) (Dg.dg 4294967296 d)→m≤(k+2)*2^k∧d≤1000000→yC 79 #[ydV false (yT xo m xc) 0,ydV false (yT yo d yc) 0] w1 (Lx w1 (aG ⟨false,m,0⟩ (dV ⟨false,d,0⟩))):=fun m d xo xc yo yc w1 hx hy h0=>by
  have l1:=len_big h0.1 hk;have l2:=hsm d h0.2;exact(FT _ _ ⟨false,m,0⟩ ⟨false,d,0⟩ w1 ⟨_,rfl,hx⟩ ⟨_,rfl,hy⟩ (by show(Dg.dg 4294967296 m).length≤_;omega) (by show(Dg.dg 4294967296 d).length≤_;omega) (by simp) (by simp) (by simp) (by simp)).mono fun _ _ h=>h.vres
 have HE: ∀(m d:Nat) xo xc yo yc w1,Rd w1 .u32 (yT xo m xc) (Dg.dg 4294967296 m)→Rd w1 .u32 (yT yo d yc) (Dg.dg 4294967296 d)→m≤(k+2)*2^k∧d≤1000000→yC 72 #[ydV false (yT xo m xc) 0,ydV false (yT yo d yc) 0] w1 (Lx w1 (aG ⟨false,m,0⟩ ⟨false,d,0⟩)):=fun m d xo xc yo yc w1 hx hy h0=>by
  have l1:=len_big h0.1 hk;have l2:=hsm d h0.2;exact(uj _ _ ⟨false,m,0⟩ ⟨false,d,0⟩ w1 ⟨_,rfl,hx⟩ ⟨_,rfl,hy⟩ (by show(Dg.dg 4294967296 m).length≤_;omega) (by show(Dg.dg 4294967296 d).length≤_;omega) (by simp) (by simp) (by simp) (by simp)).mono fun _ _ h=>h.vres
 have HC: ∀(x y:ak) xo xc yo yc w1,-1000000≤x.e∧x.e≤1000000∧ -1000000≤y.e∧y.e≤1000000→yC 46 #[.agg #[.bool x.s,yT xo x.n xc,yi x.e,.bool y.s,yT yo y.n yc,yi y.e],yi (-(k:Int))] w1 (yR w1 (.agg #[.bool x.s,yT xo x.n xc,yi (x.e-(k:Int)),.bool y.s,yT yo y.n yc,yi (y.e-(k:Int))])):=fun x y xo xc yo yc w1 h0=>
  spanScaled_W x y _ _ _ _ (-(k:Int)) (x.e-(k:Int)) (y.e-(k:Int)) w1 (fun w2=>dscaled_W _ _ _ _ _ _ _ w2 (by rw[show x.e+ -(k:Int)=x.e-(k:Int) by omega];exact IntWalk.i64_in _ ⟨by omega,by omega⟩)) (fun w2=>dscaled_W _ _ _ _ _ _ _ w2 (by rw[show y.e+ -(k:Int)=y.e-(k:Int) by omega];exact IntWalk.i64_in _ ⟨by omega,by omega⟩))
 rcases ht with rfl|rfl
 ·exact inverse_W0 n k _ _ w hn hk rfl rfl HO HN HT HS HP HM HL HW HD HE HC
 ·exact inverse_W1 n k _ _ w hn hk rfl rfl HO HN HT HS HP HM HL HW HD HE HC
theorem V_at_e (k:Nat)(s:Bool)(n:Nat):V k ⟨s,n,0-(k:Int)⟩=V 0 ⟨s,n,0⟩:=by
 rw[eV,eV]
 show sz s (n*2^ (0-(k:Int)+(k:Int)).toNat)=sz s (n*2^ ((0:Int)+((0:Nat):Int)).toNat)
 rw[show(0-(k:Int)+(k:Int)).toNat=0 by omega,show((0:Int)+((0:Nat):Int)).toNat=0 by omega]
theorem V_zero (n:Nat):V 0 ⟨false,n,0⟩=(n:Int):=by
 rw[eV]
 show sz false (n*2^ ((0:Int)+((0:Nat):Int)).toNat)=(n:Int)
 rw[show((0:Int)+((0:Nat):Int)).toNat=0 by omega,Nat.pow_zero,Nat.mul_one]
 rfl
theorem inv_e (R:Nat×Nat×Nat)(k:Nat):(invLo R k).e=0-(k:Int)∧(invHi R k).e=0-(k:Int):=by
 have h1:=plus_e0 ⟨false,R.2.1-R.2.2,0⟩ (dV ⟨false,3+3*R.1,0⟩) rfl rfl;have h2:=plus_e0 ⟨false,R.2.1-R.2.2,0⟩ ⟨false,3+3*R.1,0⟩ rfl rfl
 constructor
 ·show(aG ⟨false,R.2.1-R.2.2,0⟩ (dV ⟨false,3+3*R.1,0⟩)).e-(k:Int)=_
  rw[h1]
 ·show(aG ⟨false,R.2.1-R.2.2,0⟩ ⟨false,3+3*R.1,0⟩).e-(k:Int)=_
  rw[h2]
theorem V_inv (R:Nat×Nat×Nat)(k:Nat):V k (invLo R k)=((R.2.1-R.2.2:Nat):Int)-((3+3*R.1:Nat):Int)∧V k (invHi R k)=((R.2.1-R.2.2:Nat):Int)+((3+3*R.1:Nat):Int):=by
 have h1:=plus_e0 ⟨false,R.2.1-R.2.2,0⟩ (dV ⟨false,3+3*R.1,0⟩) rfl rfl;have h2:=plus_e0 ⟨false,R.2.1-R.2.2,0⟩ ⟨false,3+3*R.1,0⟩ rfl rfl;have v1:=dH (K:=0) (a:=⟨false,R.2.1-R.2.2,0⟩) (b:=dV ⟨false,3+3*R.1,0⟩) (by simp) (by simp[dV]);have v2:=dH (K:=0) (a:=⟨false,R.2.1-R.2.2,0⟩) (b:=⟨false,3+3*R.1,0⟩) (by simp) (by simp);rw[pC,V_zero,V_zero] at v1;rw[V_zero,V_zero] at v2
 constructor
 ·unfold invLo
  generalize aG ⟨false,R.2.1-R.2.2,0⟩ (dV ⟨false,3+3*R.1,0⟩)=y at*;obtain⟨ys,yn,ye⟩:=y;simp only at h1⊢;subst h1;rw[V_at_e,v1];omega
 ·unfold invHi
  generalize aG ⟨false,R.2.1-R.2.2,0⟩ ⟨false,3+3*R.1,0⟩=y at*;obtain⟨ys,yn,ye⟩:=y;simp only at h2⊢;subst h2;rw[V_at_e,v2]
theorem V_up {k:Nat}{t:ak}(n:Nat)(h: -(k:Int)≤t.e):V k (upT t n)=V k t*((2^n:Nat):Int):=by
 unfold V upT;simp only;rw[show(t.e+(n:Int)+(k:Int)).toNat=(t.e+(k:Int)).toNat+n by omega,Nat.pow_add,Int.natCast_mul,Int.mul_assoc]
theorem sgn_pos {w:Nat}{A:ak}(h:0<V w A):dJ A=1:=by
 have h1:=Di w A;unfold dJ;rw[←h1];unfold sgn;rw[if_neg (by omega),if_neg (by omega)]
theorem tell {x y:ak}{b w c q:Nat}(hb:1≤b)(ex: -(w:Int)≤x.e)(ey: -(w:Int)≤y.e)(c1:2^b≤2*c)(c2:c<2^b)(h1:((c*2^q:Nat):Int)≤V w x)(h2:V w x≤V w y)(h3:V w y< (((c+1)*2^q:Nat):Int)):
  x.s=false∧y.s=false∧dJ x=1∧dJ y=1∧dJ (aG (aY x b false) (dV (aY y b false)))=0:=by
 have hq:0<2^q:=Nat.pow_pos (by omega);have hp:0<2^b:=Nat.pow_pos (by omega);have hcq:0<c*2^q:=Nat.mul_pos (by omega) hq;obtain⟨a1,a2⟩:=cut_is_c hb ex c1 c2 h1 (by omega);obtain⟨b1,b2⟩:=cut_is_c hb ey c1 c2 (by omega) h3;refine⟨(V_flat ex (by omega)).1,(V_flat ey (by omega)).1,sgn_pos (w:=w) (by omega),sgn_pos (w:=w) (by omega), ?_⟩;have:=oY (K:=w) a2 b2;unfold bJ at this;rw[this,a1,b1];simp[sgn]
theorem bare_smallS {t:ak}{w:Nat}(he: -(w:Int)≤t.e){B:Nat}(hp:0<V w t)(hV:V w t≤((2^B:Nat):Int)):(bare t).s=false∧ -(w:Int)≤(bare t).e∧(bare t).e≤(B:Int)-(w:Int)∧V w (bare t)=V w t∧0< (bare t).n:=by
 have e1:=dw (K:=w) he;have e2:=eL (K:=w) he;obtain⟨f1,f2⟩:=V_flat e2 (by rw[e1];exact hp);have hn0:0< (bare t).n:=by
  rcases Nat.eq_zero_or_pos (bare t).n with c|c
  ·rw[c,Nat.zero_mul] at f2;omega
  ·exact c
 refine⟨f1,e2, ?_,e1,hn0⟩;have h1:2^ ((bare t).e+(w:Int)).toNat≤(bare t).n*2^ ((bare t).e+(w:Int)).toNat:=Nat.le_mul_of_pos_left _ hn0;have h2:2^ ((bare t).e+(w:Int)).toNat≤2^B:=by omega
 have h3:=(Nat.pow_le_pow_iff_right (by omega)).1 h2;omega
theorem short_is {t:ak}{b:Nat}(hb:b≤1000)(hn:(bare t).n<2^b)(h1: -20000≤(bare t).e)(h2:(bare t).e≤20000):bU t=(bare t,0):=by
 unfold bU;have hl:(Dg.dg 4294967296 (bare t).n).length≤32:=jq hn (by omega);rw[if_neg (by omega),if_neg (by omega)]
theorem cut_e_le {t:ak}{E:Int}(h:(bare t).e≤E)(hE:E≤100000)(h0:0< (bare t).n):t.e≤100000:=by
 unfold bare at h h0
 by_cases c:t.n=0
 ·rw[if_pos c] at h0
  exact absurd h0 (by simp)
 ·rw[if_neg c] at h
  simp only at h;omega
theorem told_pi_any (x y:ak)(b c q B:Nat)(w:World)(hb:10≤b∧b≤1000)(hT:Tab w)(fx:FitsT x)(fy:FitsT y)(ex: -((b+64:Nat):Int)≤x.e)(ey: -((b+64:Nat):Int)≤y.e)
  (c1:2^b≤2*c) (c2:c<2^b) (h1:((c*2^q:Nat):Int)≤V (b+64) x) (h2:V (b+64) x≤V (b+64) y) (h3:V (b+64) y< (((c+1)*2^q:Nat):Int)) (hB:(c+1)*2^q≤2^B) (hB2:B≤9000)
  (HK: ∀w1,yB w w1→yC 20 #[yi ((b+64:Nat):Int)] w1 (aeT w1 x y)):
  yC 19 #[yi b,.func (.func 20) #[] #[]] w (BRd w (bare (aY x b false)) (bare (aY y b true)) 0):=by
 have hb1:1≤b:=by omega
 have hbI:(1:Int)≤(b:Int):=by omega
 have hw:IntKind.i64.wrap ((b:Int)+64)=((b+64:Nat):Int):=by
  rw[show b+64=((b+64:Nat):Int) by omega]
  exact IntWalk.i64_in _ ⟨by omega,by omega⟩
 obtain⟨sx,sy,gx,gy,hc0⟩:=tell hb1 ex ey c1 c2 h1 h2 h3;obtain⟨u1,u2⟩:=cut_is_c hb1 ex c1 c2 h1 (by omega);obtain⟨v0,v1,v2⟩:=cut_up_c hb1 ey c2 h3;have hpb0:0<2^b:=Nat.pow_pos (by omega);have hcq:0<c*2^q:=Nat.mul_pos (by omega) (Nat.pow_pos (by omega));have hcc:c*2^q≤(c+1)*2^q:=Nat.mul_le_mul_right _ (by omega);have lx:=fx.len;have ly:=fy.len;obtain⟨-,x1,x2⟩:=fx;obtain⟨-,y1,y2⟩:=fy;have nu:=mi x b false hbI;have nv:=mi y b true hbI;rw[Int.toNat_natCast] at nu nv;obtain⟨-,su1,su2,-,su3⟩:=bare_smallS (B:=B) u2 (by omega) (by omega);obtain⟨-,sv1,sv2,-,-⟩:=bare_smallS (B:=B) v2 (by omega) (by omega);have ku:=short_is hb.2 nu (by omega) (by omega);have kv:=short_is hb.2 nv (by omega) (by omega);have lu:=tK (b:=(b:Int)) (up:=false) lx (by omega);have lv:=tK (b:=(b:Int)) (up:=true) ly (by omega);have eu:=WQ (up:=false) lx hbI;have ev:=WQ (up:=true) ly hbI;have zu:=gZ _ _ lu;have zv:=gZ _ _ lv;refine told_pi x y (aY x b false) (aY y b true) _ _ b ((b+64:Nat):Int) 0 w (by omega) (by omega) hw ?_ ?_ ?_
 ·intro pb w1 q1 hl
  refine refine_pi pb x y _ w1 (fun w2 q2=>HK w2 (aa q1 q2)) ?_
  intro xo xc yo yc w2 q2 rx ry;refine toldOk_W pb x y _ _ _ _ b w2 (hl.l q2).range ?_;intro w3 q3;have hT3:=hT.l (aa q1 (aa q2 q3));have rx3:=rx.l q3;have ry3:=ry.l q3;refine spanSame_W x y _ _ _ _ (aY x b false) (aY y b false) b w3 ?_ ?_ ?_ ?_
  ·intro w4 q4
   refine signs_pos x y _ _ _ _ w4 (fun w5 q5=> ?_) (fun w5 q5=> ?_)
   ·have:=qB _ x w5 ⟨_,rfl,(rx3.l q4).l q5⟩
    rwa [gx] at this
   ·have:=qB _ y w5 ⟨_,rfl,(ry3.l q4).l q5⟩
    rwa [gy] at this
  ·intro w4 q4
   have:=Ij _ x b x.s w4 ⟨_,rfl,rx3.l q4⟩ (by omega) (by omega) (by omega) hbI (by omega) (hT3.l q4);rw[show aY x b x.s=aY x b false by rw[sx]] at this
   exact this
  ·intro w4 q4
   have:=Ij _ y b y.s w4 ⟨_,rfl,ry3.l q4⟩ (by omega) (by omega) (by omega) hbI (by omega) (hT3.l q4);rw[show aY y b y.s=aY y b false by rw[sy]] at this
   exact this
  ·intro po pc qo qc w4 q4 rp rq
   have l2:=tK (b:=(b:Int)) (up:=false) ly (by omega);have e2:=WQ (up:=false) ly hbI;obtain⟨-,p2⟩:=cut_is_c hb1 ey c1 c2 (by omega) h3;obtain⟨-,t1,t2,-,t3⟩:=bare_smallS (B:=B) p2 (by have:=(cut_is_c hb1 ey c1 c2 (by omega) h3).1;omega) (by have:=(cut_is_c hb1 ey c1 c2 (by omega) h3).1;omega);have:=iE _ _ (aY x b false) (aY y b false) w4 ⟨_,rfl,rp⟩ ⟨_,rfl,rq⟩ (by omega) (by omega) (by omega) (cut_e_le su2 (by omega) su3) (by omega) (cut_e_le t2 (by omega) t3)
   rwa [hc0] at this
 ·intro xo xc yo yc w1 q1 rx ry
  exact Nt x.s xo xc _ x.e y.s yo yc _ y.e b _ _ w1
   (fun w2 q2=>Ij _ x b false w2 ⟨_,rfl,rx.l q2⟩ (by omega) (by omega) (by omega) hbI (by omega) (hT.l (aa q1 q2)))
   (fun w2 q2=>Ij _ y b true w2 ⟨_,rfl,ry.l q2⟩ (by omega) (by omega) (by omega) hbI (by omega) (hT.l (aa q1 q2)))
 ·intro uo uc vo vc w1 q1 ru rv
  have h:=Hu _ uo uc _ _ _ vo vc _ _ _ _ w1
   (fun w2 q2=>kL _ (aY x b false) w2 ⟨_,rfl,ru.l q2⟩ (by omega) ⟨by omega,by omega⟩ (hT.l (aa q1 q2)) (by omega))
   (fun w2 q2=>kL _ (aY y b true) w2 ⟨_,rfl,rv.l q2⟩ (by omega) ⟨by omega,by omega⟩ (hT.l (aa q1 q2)) (by omega))
  rw[ku,kv] at h;refine h.mono ?_;rintro z w2 ⟨p,q,k1,k2,k3,k4⟩;exact⟨p,q,k1,k2.rd,k3.rd,k4⟩
theorem told_ln_any (x y:ak)(b c q B:Nat)(w:World)(hb:10≤b∧b≤1000)(hT:Tab w)(fx:FitsT x)(fy:FitsT y)(ex: -((b+64:Nat):Int)≤x.e)(ey: -((b+64:Nat):Int)≤y.e)
  (c1:2^b≤2*c) (c2:c<2^b) (h1:((c*2^q:Nat):Int)≤V (b+64) x) (h2:V (b+64) x≤V (b+64) y) (h3:V (b+64) y< (((c+1)*2^q:Nat):Int)) (hB:(c+1)*2^q≤2^B) (hB2:B≤9000)
  (HK: ∀w1,yB w w1→yC 35 #[yi ((b+64:Nat):Int)] w1 (aeT w1 x y)):
  yC 19 #[yi b,.func (.func 35) #[] #[]] w (BRd w (bare (aY x b false)) (bare (aY y b true)) 0):=by
 have hb1:1≤b:=by omega
 have hbI:(1:Int)≤(b:Int):=by omega
 have hw:IntKind.i64.wrap ((b:Int)+64)=((b+64:Nat):Int):=by
  rw[show b+64=((b+64:Nat):Int) by omega]
  exact IntWalk.i64_in _ ⟨by omega,by omega⟩
 obtain⟨sx,sy,gx,gy,hc0⟩:=tell hb1 ex ey c1 c2 h1 h2 h3;obtain⟨u1,u2⟩:=cut_is_c hb1 ex c1 c2 h1 (by omega);obtain⟨v0,v1,v2⟩:=cut_up_c hb1 ey c2 h3;have hpb0:0<2^b:=Nat.pow_pos (by omega);have hcq:0<c*2^q:=Nat.mul_pos (by omega) (Nat.pow_pos (by omega));have hcc:c*2^q≤(c+1)*2^q:=Nat.mul_le_mul_right _ (by omega);have lx:=fx.len;have ly:=fy.len;obtain⟨-,x1,x2⟩:=fx;obtain⟨-,y1,y2⟩:=fy;have nu:=mi x b false hbI;have nv:=mi y b true hbI;rw[Int.toNat_natCast] at nu nv;obtain⟨-,su1,su2,-,su3⟩:=bare_smallS (B:=B) u2 (by omega) (by omega);obtain⟨-,sv1,sv2,-,-⟩:=bare_smallS (B:=B) v2 (by omega) (by omega);have ku:=short_is hb.2 nu (by omega) (by omega);have kv:=short_is hb.2 nv (by omega) (by omega);have lu:=tK (b:=(b:Int)) (up:=false) lx (by omega);have lv:=tK (b:=(b:Int)) (up:=true) ly (by omega);have eu:=WQ (up:=false) lx hbI;have ev:=WQ (up:=true) ly hbI;have zu:=gZ _ _ lu;have zv:=gZ _ _ lv;refine told_ln x y (aY x b false) (aY y b true) _ _ b ((b+64:Nat):Int) 0 w (by omega) (by omega) hw ?_ ?_ ?_
 ·intro pb w1 q1 hl
  refine refine_ln pb x y _ w1 (fun w2 q2=>HK w2 (aa q1 q2)) ?_
  intro xo xc yo yc w2 q2 rx ry;refine toldOk_W pb x y _ _ _ _ b w2 (hl.l q2).range ?_;intro w3 q3;have hT3:=hT.l (aa q1 (aa q2 q3));have rx3:=rx.l q3;have ry3:=ry.l q3;refine spanSame_W x y _ _ _ _ (aY x b false) (aY y b false) b w3 ?_ ?_ ?_ ?_
  ·intro w4 q4
   refine signs_pos x y _ _ _ _ w4 (fun w5 q5=> ?_) (fun w5 q5=> ?_)
   ·have:=qB _ x w5 ⟨_,rfl,(rx3.l q4).l q5⟩
    rwa [gx] at this
   ·have:=qB _ y w5 ⟨_,rfl,(ry3.l q4).l q5⟩
    rwa [gy] at this
  ·intro w4 q4
   have:=Ij _ x b x.s w4 ⟨_,rfl,rx3.l q4⟩ (by omega) (by omega) (by omega) hbI (by omega) (hT3.l q4);rw[show aY x b x.s=aY x b false by rw[sx]] at this
   exact this
  ·intro w4 q4
   have:=Ij _ y b y.s w4 ⟨_,rfl,ry3.l q4⟩ (by omega) (by omega) (by omega) hbI (by omega) (hT3.l q4);rw[show aY y b y.s=aY y b false by rw[sy]] at this
   exact this
  ·intro po pc qo qc w4 q4 rp rq
   have l2:=tK (b:=(b:Int)) (up:=false) ly (by omega);have e2:=WQ (up:=false) ly hbI;obtain⟨-,p2⟩:=cut_is_c hb1 ey c1 c2 (by omega) h3;obtain⟨-,t1,t2,-,t3⟩:=bare_smallS (B:=B) p2 (by have:=(cut_is_c hb1 ey c1 c2 (by omega) h3).1;omega) (by have:=(cut_is_c hb1 ey c1 c2 (by omega) h3).1;omega);have:=iE _ _ (aY x b false) (aY y b false) w4 ⟨_,rfl,rp⟩ ⟨_,rfl,rq⟩ (by omega) (by omega) (by omega) (cut_e_le su2 (by omega) su3) (by omega) (cut_e_le t2 (by omega) t3)
   rwa [hc0] at this
 ·intro xo xc yo yc w1 q1 rx ry
  exact Nt x.s xo xc _ x.e y.s yo yc _ y.e b _ _ w1
   (fun w2 q2=>Ij _ x b false w2 ⟨_,rfl,rx.l q2⟩ (by omega) (by omega) (by omega) hbI (by omega) (hT.l (aa q1 q2)))
   (fun w2 q2=>Ij _ y b true w2 ⟨_,rfl,ry.l q2⟩ (by omega) (by omega) (by omega) hbI (by omega) (hT.l (aa q1 q2)))
 ·intro uo uc vo vc w1 q1 ru rv
  have h:=Hu _ uo uc _ _ _ vo vc _ _ _ _ w1
   (fun w2 q2=>kL _ (aY x b false) w2 ⟨_,rfl,ru.l q2⟩ (by omega) ⟨by omega,by omega⟩ (hT.l (aa q1 q2)) (by omega))
   (fun w2 q2=>kL _ (aY y b true) w2 ⟨_,rfl,rv.l q2⟩ (by omega) ⟨by omega,by omega⟩ (hT.l (aa q1 q2)) (by omega))
  rw[ku,kv] at h;refine h.mono ?_;rintro z w2 ⟨p,q,k1,k2,k3,k4⟩;exact⟨p,q,k1,k2.rd,k3.rd,k4⟩
def GoodB (X b:Nat)(l h:ak):Prop:=
 (∃t,l=bare t)∧(∃t,h=bare t)∧(-1120≤l.e∧l.e≤9000∧l.n<2^1000)∧(-1120≤h.e∧h.e≤9000∧h.n<2^1000)∧
  0<V 1120 l∧V 1120 l≤(X:Int)∧(X:Int)≤V 1120 h∧V 1120 h≤V 1120 l+((2^ (1124-b):Nat):Int)
theorem V_lift {w j:Nat}{t:ak}(h: -(w:Int)≤t.e):V (w+j) t=V w t*((2^j:Nat):Int):=by
 unfold V;rw[show(t.e+((w+j:Nat):Int)).toNat=(t.e+(w:Int)).toNat+j by omega,Nat.pow_add,Int.natCast_mul,Int.mul_assoc]
def chkN (X:Nat):Bool:=Nat.ble 1110 (Nat.log2 X)&&Nat.ble (Nat.log2 X) 1121&&win X 100 (10*((Nat.log2 X+1-1000)/10))
theorem two_mono {a b:Nat}(h:a≤b):2^a≤2^b:=Nat.pow_le_pow_right (by omega) h
theorem chk_len {X:Nat}(h:chkN X=true): ∃L,1111≤L∧L≤1122∧L=Nat.log2 X+1∧2^ (L-1)≤X∧X<2^L∧win X 100 (10*((L-1000)/10))=true:=by
 unfold chkN at h;simp only[Bool.and_eq_true,Nat.ble_eq] at h;obtain⟨⟨h1,h2⟩,h3⟩:=h;have h0:X≠0:=by
  rintro rfl;simp at h1
 have l1:=Nat.log2_self_le h0;have l2:=Nat.lt_log2_self (n:=X);exact⟨Nat.log2 X+1,by omega,by omega,rfl,l1,l2,h3⟩
theorem fam_tell {X A:Nat}(hX:chkN X=true)(hA1:1110≤A)(hA:A≤Nat.log2 X){x y:ak}{b lo hi:Nat}(hb:10≤b∧b≤1000)(ex: -((b+64:Nat):Int)≤x.e)(ey: -((b+64:Nat):Int)≤y.e)(vx:V (b+64) x=(lo:Int))(vy:V (b+64) y=(hi:Int))
  (s1:lo*2^ (1120-(b+64))≤X) (s2:X≤hi*2^ (1120-(b+64))) (hd:hi≤lo+2^ (A-1096)):
  ∃c q B,2^b≤2*c∧c<2^b∧((c*2^q:Nat):Int)≤V (b+64) x∧V (b+64) x≤V (b+64) y∧V (b+64) y< (((c+1)*2^q:Nat):Int)∧(c+1)*2^q≤2^B∧B≤9000∧GoodB X b (bare (aY x b false)) (bare (aY y b true)):=by
 obtain⟨L,L1,L2,L0,L3,L4,L5⟩:=chk_len hX;obtain⟨m,m0,m1,m2⟩:=win_all (by omega) L5 hb.1 hb.2 (by omega);have hm:2^ (A-1096)*2^ (1120-(b+64))≤2^m:=by
  rw[←Nat.pow_add];exact Nat.pow_le_pow_right (by omega) (by omega)
 obtain⟨c,c1,c2,c3,c4,c5⟩:=cut_same (W:=1120) (w:=b+64) (b:=b) L3 L4 (by omega) (by omega) (by omega) (by omega) m1 m2 s1 s2 hd hm;obtain⟨q,hq⟩: ∃q,q=L-b+(b+64)-1120:=⟨_,rfl⟩;rw[←hq] at c3 c4;have hb1:1≤b:=by omega
 have hq0:0<2^q:=Nat.pow_pos (by omega);have hp0:0<2^b:=Nat.pow_pos (by omega);have hcq:0<c*2^q:=Nat.mul_pos (by omega) hq0;have t1:((c*2^q:Nat):Int)≤V (b+64) x:=by rw[vx];exact Int.ofNat_le.2 c3
 have t2:V (b+64) x≤V (b+64) y:=by rw[vx,vy];exact Int.ofNat_le.2 c5
 have t3:V (b+64) y< (((c+1)*2^q:Nat):Int):=by rw[vy];exact Int.ofNat_lt.2 c4
 have hB:(c+1)*2^q≤2^ (b+q):=by rw[Nat.pow_add];exact Nat.mul_le_mul_right _ (by omega)
 refine⟨c,q,b+q,c1,c2,t1,t2,t3,hB,by omega,⟨_,rfl⟩,⟨_,rfl⟩, ?_⟩;obtain⟨u1,u2⟩:=cut_is_c hb1 ex c1 c2 t1 (by omega);obtain⟨v0,v1,v2⟩:=cut_up_c hb1 ey c2 t3;have hcc:c*2^q≤(c+1)*2^q:=Nat.mul_le_mul_right _ (by omega);have nu:=mi x b false (by omega);have nv:=mi y b true (by omega);rw[Int.toNat_natCast] at nu nv;have hpb:=two_mono (b:=1000) hb.2;obtain⟨-,su1,su2,su3,-⟩:=bare_smallS (B:=b+q) u2 (by omega) (by omega);obtain⟨-,sv1,sv2,sv3,-⟩:=bare_smallS (B:=b+q) v2 (by omega) (by omega);obtain⟨D,hD⟩: ∃D,2^ (1120-(b+64))=D:=⟨_,rfl⟩;have hD0:0<D:=by rw[←hD];exact Nat.pow_pos (by omega)
 have w1:=V_lift (j:=1120-(b+64)) su1;have w2:=V_lift (j:=1120-(b+64)) sv1;rw[show b+64+(1120-(b+64))=1120 by omega,hD,su3,u1] at w1
 rw[show b+64+(1120-(b+64))=1120 by omega,hD,sv3] at w2
 rw[hD] at s1 s2;have hQ:2^q*D≤2^ (1124-b):=by
  rw[←hD,←Nat.pow_add];exact Nat.pow_le_pow_right (by omega) (by omega)
 obtain⟨vv,hvv⟩: ∃vv:Nat,V (b+64) (aY y b true)=(vv:Int):=⟨(V (b+64) (aY y b true)).toNat,by omega⟩;rw[hvv] at v0 v1 w2;rw[vy] at v0;have v0':hi≤vv:=Int.ofNat_le.1 v0;have v1':vv≤(c+1)*2^q:=Int.ofNat_le.1 v1;rw[←Int.natCast_mul] at w1 w2;have k1:c*2^q*D≤X:=Nat.le_trans (Nat.mul_le_mul_right _ c3) s1;have k2:X≤vv*D:=Nat.le_trans s2 (Nat.mul_le_mul_right _ v0');have k3:vv*D≤c*2^q*D+2^ (1124-b):=by
  refine Nat.le_trans (Nat.mul_le_mul_right _ v1') ?_;rw[Nat.add_mul,Nat.one_mul,Nat.add_mul];omega
 have k4:0<c*2^q*D:=Nat.mul_pos hcq hD0;refine⟨⟨by omega,by omega,by omega⟩,⟨by omega,by omega,by omega⟩, ?_, ?_, ?_, ?_⟩
 ·rw[w1];exact Int.ofNat_lt.2 k4
 ·rw[w1];exact Int.ofNat_le.2 k1
 ·rw[w2];exact Int.ofNat_le.2 k2
 ·rw[w1,w2,←Int.natCast_add];exact Int.ofNat_le.2 k3
theorem inv_fits (n k tn:Nat)(hn:2≤n)(ht:tn≤1)(hk:k≤60000):FitsT (invLo (lp (n*n) tn (k+1) 0 (2^k/n) 0 0) k)∧FitsT (invHi (lp (n*n) tn (k+1) 0 (2^k/n) 0 0) k)∧XA n tn k+(3+3*NA n tn k)<2^ (k+17):=by
 have h1:=(inv_ord hn ht _ _ _ _ _ _ (inv_zero (k:=k) (tn:=tn) hn)).2;have h2:=lp_tail (n*n) tn (Nat.mul_le_mul hn hn) (k+1) 0 (2^k/n) 0 0;have h3:=Nat.div_le_self (2^k) n;have hp:0<2^k:=Nat.pow_pos (by omega);have hx:XA n tn k≤2*2^k:=by
  unfold XA;generalize lp (n*n) tn (k+1) 0 (2^k/n) 0 0=R at*;omega
 have hN:NA n tn k≤k+1:=h1;have hs:XA n tn k+(3+3*NA n tn k)<2^ (k+17):=by
  rw[Nat.pow_add];have:(2:Nat)^17=131072:=by decide
  have h5:k<2^k:=Nat.lt_two_pow_self;rw[this];omega
 obtain⟨e1,e2⟩:=inv_e (lp (n*n) tn (k+1) 0 (2^k/n) 0 0) k;obtain⟨v1,v2⟩:=V_inv (lp (n*n) tn (k+1) 0 (2^k/n) 0 0) k;have key: ∀t:ak,t.e=0-(k:Int)→(V k t< ((2^ (k+17):Nat):Int)∧ -((2^ (k+17):Nat):Int)<V k t)→FitsT t:=fun t he hv=>by
  refine⟨⟨k+17,by omega, ?_⟩,by omega,by omega⟩;have hV:V k t=sz t.s t.n:=by
   rw[eV,he,show(0-(k:Int)+(k:Int)).toNat=0 by omega,Nat.pow_zero,Nat.mul_one]
  rw[hV] at hv;unfold sz at hv
  split at hv
  ·have:=hv.2
   exact Int.ofNat_lt.1 (by omega)
  ·exact Int.ofNat_lt.1 hv.1
 have hxI:((XA n tn k:Nat):Int)+((3+3*NA n tn k:Nat):Int)< ((2^ (k+17):Nat):Int):=by rw[←Int.natCast_add];exact Int.ofNat_lt.2 hs
 refine⟨key _ e1 ?_,key _ e2 ?_,hs⟩
 ·rw[v1]
  have a1:=Int.natCast_nonneg (XA n tn k);have a2:=Int.natCast_nonneg (3+3*NA n tn k);unfold XA at hxI a1;unfold NA at hxI a2;generalize((2^ (k+17):Nat):Int)=P at*
  constructor<;>omega
 ·rw[v2]
  have a1:=Int.natCast_nonneg (XA n tn k);have a2:=Int.natCast_nonneg (3+3*NA n tn k);unfold XA at hxI a1;unfold NA at hxI a2;generalize((2^ (k+17):Nat):Int)=P at*
  constructor<;>omega
theorem inv_lies {n tn b:Nat}(hn:2≤n)(ht:tn≤1)(hb:10≤b∧b≤1000):
  XA n tn (b+64)*2^ (1120-(b+64))≤XA n tn 1120+(3+3*NA n tn (b+64))*2^ (1120-(b+64))∧XA n tn 1120≤(XA n tn (b+64)+(3+3*NA n tn (b+64)))*2^ (1120-(b+64))∧NA n tn (b+64)≤b+65:=by
 obtain⟨p1,p2⟩:=xa_pair (k:=b+64) (W:=1120) hn ht (by omega);have h1:(NA n tn (b+64)+2)*2^ (1120-(b+64))≤(3+3*NA n tn (b+64))*2^ (1120-(b+64)):=Nat.mul_le_mul_right _ (by omega);refine⟨by omega, ?_,na_le hn ht⟩;rw[Nat.add_mul];omega
theorem satan_any (n k:Nat)(w:World)(hn:2≤n∧n<65536)(hk:k≤60000):yC 40 #[yi n,yi k] w (aeT w (invLo (lp (n*n) 1 (k+1) 0 (2^k/n) 0 0) k) (invHi (lp (n*n) 1 (k+1) 0 (2^k/n) 0 0) k)):=
 sumsAtan_W _ _ _ _ w (fun w1 _=>inverse_any n k 1 w1 hn hk (.inr rfl))
theorem satanh_any (n k:Nat)(w:World)(hn:2≤n∧n<65536)(hk:k≤60000):yC 39 #[yi n,yi k] w (aeT w (invLo (lp (n*n) 0 (k+1) 0 (2^k/n) 0 0) k) (invHi (lp (n*n) 0 (k+1) 0 (2^k/n) 0 0) k)):=
 sumsAtanh_W _ _ _ _ w (fun w1 _=>inverse_any n k 0 w1 hn hk (.inl rfl))
theorem fits_up {t:ak}{n:Nat}(h:FitsT t)(hn:n≤10)(he:t.e≤80000):FitsT (upT t n):=by
 obtain⟨h1,h2,h3⟩:=h;exact⟨h1,by show-90000≤t.e+(n:Int);omega,by show t.e+(n:Int)≤90000;omega⟩
theorem scaled_ret (a b:ak)(ao bo:Option Addr)(ac bc:Nat)(n:Int)(w:World)(ha: -1000000≤a.e∧a.e≤1000000)(hb: -1000000≤b.e∧b.e≤1000000)(hn: -1000000≤n∧n≤1000000):
  yC 46 #[.agg #[.bool a.s,yT ao a.n ac,yi a.e,.bool b.s,yT bo b.n bc,yi b.e],yi n] w (yR w (.agg #[.bool a.s,yT ao a.n ac,yi (a.e+n),.bool b.s,yT bo b.n bc,yi (b.e+n)])):=
 spanScaled_W a b _ _ _ _ n (a.e+n) (b.e+n) w (fun w1=>dscaled_W _ _ _ _ _ _ _ w1 (IntWalk.i64_in _ ⟨by omega,by omega⟩)) (fun w1=>dscaled_W _ _ _ _ _ _ _ w1 (IntWalk.i64_in _ ⟨by omega,by omega⟩))
def piLo (k:Nat):ak:=aG (upT (invLo (lp (5*5) 1 (k+1) 0 (2^k/5) 0 0) k) 4) (dV (upT (invHi (lp (239*239) 1 (k+1) 0 (2^k/239) 0 0) k) 2))
def piHi (k:Nat):ak:=aG (upT (invHi (lp (5*5) 1 (k+1) 0 (2^k/5) 0 0) k) 4) (dV (upT (invLo (lp (239*239) 1 (k+1) 0 (2^k/239) 0 0) k) 2))
theorem spi_any (k:Nat)(w:World)(hk:k≤60000):yC 20 #[yi k] w (aeT w (piLo k) (piHi k)):=by
 obtain⟨f1,f2,-⟩:=inv_fits 5 k 1 (by omega) (by omega) hk;obtain⟨f3,f4,-⟩:=inv_fits 239 k 1 (by omega) (by omega) hk;obtain⟨e1,e2⟩:=inv_e (lp (5*5) 1 (k+1) 0 (2^k/5) 0 0) k;obtain⟨e3,e4⟩:=inv_e (lp (239*239) 1 (k+1) 0 (2^k/239) 0 0) k;have s5:=fun w1=>satan_any 5 k w1 ⟨by omega,by omega⟩ hk
 have s239:=fun w1=>satan_any 239 k w1 ⟨by omega,by omega⟩ hk
 unfold piLo piHi;generalize invLo (lp (5*5) 1 (k+1) 0 (2^k/5) 0 0) k=a at*;generalize invHi (lp (5*5) 1 (k+1) 0 (2^k/5) 0 0) k=b at*;generalize invLo (lp (239*239) 1 (k+1) 0 (2^k/239) 0 0) k=p at*;generalize invHi (lp (239*239) 1 (k+1) 0 (2^k/239) 0 0) k=q at*;exact sumsPi_W a b p q _ _ _ _ _ _ _ w (fun w1 _=>s5 w1) (fun ao ac bo bc w1=>scaled_ret a b ao bo ac bc 4 w1 ⟨by omega,by omega⟩ ⟨by omega,by omega⟩ ⟨by omega,by omega⟩) (fun w1 _=>s239 w1) (fun ao ac bo bc w1=>scaled_ret p q ao bo ac bc 2 w1 ⟨by omega,by omega⟩ ⟨by omega,by omega⟩ ⟨by omega,by omega⟩)
  (fun ao ac bo bc po pc qo qc w1 _ ra rb rp rq=>sminus_any _ _ (upT a 4) (upT b 4) (upT p 2) (upT q 2) w1 ⟨_,_,rfl,ra,rb⟩ ⟨_,_,rfl,rp,rq⟩ (fits_up (n:=4) f1 (by omega) (by omega)) (fits_up (n:=4) f2 (by omega) (by omega)) (fits_up (n:=2) f3 (by omega) (by omega)) (fits_up (n:=2) f4 (by omega) (by omega)))
theorem fits_of_V {t:ak}{k j:Nat}(he: -(k:Int)≤t.e)(he2:t.e≤90000)(hk:k≤60000)(hj:j≤70000)(h1:V k t< ((2^j:Nat):Int))(h2: -((2^j:Nat):Int)<V k t):FitsT t:=by
 refine⟨⟨j,hj, ?_⟩,by omega,he2⟩;rw[eV] at h1 h2;have hp:0<2^ (t.e+(k:Int)).toNat:=Nat.pow_pos (by omega);have hn:t.n≤t.n*2^ (t.e+(k:Int)).toNat:=Nat.le_mul_of_pos_right _ hp;generalize t.n*2^ (t.e+(k:Int)).toNat=m at*;refine Nat.lt_of_le_of_lt hn (Int.ofNat_lt.1 ?_);generalize((2^j:Nat):Int)=P at*;unfold sz at h1 h2
 split at h1<;>simp_all<;>omega
theorem plus_e_min (a b:ak):(aG a b).e=min a.e b.e:=by
 unfold aG;simp only
 split
 ·rfl
 ·split<;>rfl
theorem to_nat {lo hi:Int}{D X dl:Nat}(h2:(X:Int)≤hi*(D:Int))(hd:hi≤lo+(dl:Int))(hX:dl*D<X):0≤lo:=by
 by_cases c:lo<0
 ·have h3:hi*(D:Int)≤(dl:Int)*(D:Int):=Int.mul_le_mul_of_nonneg_right (by omega) (Int.natCast_nonneg D)
  rw[←Int.natCast_mul] at h3;omega
 ·omega
def XPi:Nat:=16*XA 5 1 1120-4*XA 239 1 1120
theorem pi_V (k:Nat):V k (piLo k)=16*((XA 5 1 k:Int)-((3+3*NA 5 1 k:Nat):Int))-4*((XA 239 1 k:Int)+((3+3*NA 239 1 k:Nat):Int))∧V k (piHi k)=16*((XA 5 1 k:Int)+((3+3*NA 5 1 k:Nat):Int))-4*((XA 239 1 k:Int)-((3+3*NA 239 1 k:Nat):Int))∧ -(k:Int)≤(piLo k).e∧ -(k:Int)≤(piHi k).e∧(piLo k).e≤90000∧(piHi k).e≤90000:=by
 obtain⟨e1,e2⟩:=inv_e (lp (5*5) 1 (k+1) 0 (2^k/5) 0 0) k;obtain⟨e3,e4⟩:=inv_e (lp (239*239) 1 (k+1) 0 (2^k/239) 0 0) k;obtain⟨v1,v2⟩:=V_inv (lp (5*5) 1 (k+1) 0 (2^k/5) 0 0) k;obtain⟨v3,v4⟩:=V_inv (lp (239*239) 1 (k+1) 0 (2^k/239) 0 0) k;have u1:=V_up (k:=k) (t:=invLo (lp (5*5) 1 (k+1) 0 (2^k/5) 0 0) k) 4 (by omega);have u2:=V_up (k:=k) (t:=invHi (lp (5*5) 1 (k+1) 0 (2^k/5) 0 0) k) 4 (by omega);have u3:=V_up (k:=k) (t:=invLo (lp (239*239) 1 (k+1) 0 (2^k/239) 0 0) k) 2 (by omega);have u4:=V_up (k:=k) (t:=invHi (lp (239*239) 1 (k+1) 0 (2^k/239) 0 0) k) 2 (by omega);rw[v1] at u1;rw[v2] at u2;rw[v3] at u3;rw[v4] at u4;have i1:(upT (invLo (lp (5*5) 1 (k+1) 0 (2^k/5) 0 0) k) 4).e=0-(k:Int)+4:=by show _+_=_;rw[e1]
 have i2:(upT (invHi (lp (5*5) 1 (k+1) 0 (2^k/5) 0 0) k) 4).e=0-(k:Int)+4:=by show _+_=_;rw[e2]
 have i3:(dV (upT (invLo (lp (239*239) 1 (k+1) 0 (2^k/239) 0 0) k) 2)).e=0-(k:Int)+2:=by show _+_=_;rw[e3]
 have i4:(dV (upT (invHi (lp (239*239) 1 (k+1) 0 (2^k/239) 0 0) k) 2)).e=0-(k:Int)+2:=by show _+_=_;rw[e4]
 refine⟨?_, ?_, ?_, ?_, ?_, ?_⟩
 ·unfold piLo
  rw[dH (by omega) (by omega),pC];rw[show((4:Nat):Int)=4 from rfl] at u1
  rw[show((2:Nat):Int)=2 from rfl] at u4
  rw[u1,u4]
  show((XA 5 1 k:Int)-((3+3*NA 5 1 k:Nat):Int))*16+ -(((XA 239 1 k:Int)+((3+3*NA 239 1 k:Nat):Int))*4)=_
  omega
 ·unfold piHi
  rw[dH (by omega) (by omega),pC];rw[show((4:Nat):Int)=4 from rfl] at u2
  rw[show((2:Nat):Int)=2 from rfl] at u3
  rw[u2,u3]
  show((XA 5 1 k:Int)+((3+3*NA 5 1 k:Nat):Int))*16+ -(((XA 239 1 k:Int)-((3+3*NA 239 1 k:Nat):Int))*4)=_
  omega
 all_goals first| (unfold piLo;rw[plus_e_min];omega)| (unfold piHi;rw[plus_e_min];omega)
theorem pi_tell {b:Nat}(hb:10≤b∧b≤1000)(hX:chkN XPi=true)(hL:1121≤Nat.log2 XPi):
  ∃c q B,2^b≤2*c∧c<2^b∧((c*2^q:Nat):Int)≤V (b+64) (piLo (b+64))∧V (b+64) (piLo (b+64))≤V (b+64) (piHi (b+64))∧V (b+64) (piHi (b+64))< (((c+1)*2^q:Nat):Int)∧(c+1)*2^q≤2^B∧B≤9000∧GoodB XPi b (bare (aY (piLo (b+64)) b false)) (bare (aY (piHi (b+64)) b true)):=by
 obtain⟨p1,p2,p3⟩:=inv_lies (n:=5) (tn:=1) (by omega) (by omega) hb;obtain⟨r1,r2,r3⟩:=inv_lies (n:=239) (tn:=1) (by omega) (by omega) hb;obtain⟨L,L1,L2,L0,L3,L4,-⟩:=chk_len hX;obtain⟨v1,v2,e1,e2,-,-⟩:=pi_V (b+64);obtain⟨D,hD⟩: ∃D,2^ (1120-(b+64))=D:=⟨_,rfl⟩;rw[hD] at p1 p2 r1 r2;have h16:4*XA 239 1 1120≤16*XA 5 1 1120:=by
  have:XPi≠0:=by
   intro e;rw[e] at hL;simp at hL
  unfold XPi at this;omega
 have hXI:(XPi:Int)=16*(XA 5 1 1120:Int)-4*(XA 239 1 1120:Int):=by
  unfold XPi;rw[Int.ofNat_sub h16];omega
 have q1:(XA 5 1 (b+64):Int)*(D:Int)≤(XA 5 1 1120:Int)+((3+3*NA 5 1 (b+64):Nat):Int)*(D:Int):=by rw[←Int.natCast_mul,←Int.natCast_mul,←Int.natCast_add];exact Int.ofNat_le.2 p1
 have q2:(XA 5 1 1120:Int)≤((XA 5 1 (b+64):Int)+((3+3*NA 5 1 (b+64):Nat):Int))*(D:Int):=by rw[←Int.natCast_add,←Int.natCast_mul];exact Int.ofNat_le.2 p2
 have q3:(XA 239 1 (b+64):Int)*(D:Int)≤(XA 239 1 1120:Int)+((3+3*NA 239 1 (b+64):Nat):Int)*(D:Int):=by rw[←Int.natCast_mul,←Int.natCast_mul,←Int.natCast_add];exact Int.ofNat_le.2 r1
 have q4:(XA 239 1 1120:Int)≤((XA 239 1 (b+64):Int)+((3+3*NA 239 1 (b+64):Nat):Int))*(D:Int):=by rw[←Int.natCast_add,←Int.natCast_mul];exact Int.ofNat_le.2 r2
 have n1:((3+3*NA 5 1 (b+64):Nat):Int)≤4000:=by omega
 have n2:((3+3*NA 239 1 (b+64):Nat):Int)≤4000:=by omega
 obtain⟨lo,hlo⟩: ∃x,V (b+64) (piLo (b+64))=x:=⟨_,rfl⟩;obtain⟨hi,hhi⟩: ∃x,V (b+64) (piHi (b+64))=x:=⟨_,rfl⟩;rw[hlo] at v1;rw[hhi] at v2;have z1:lo*(D:Int)≤(XPi:Int):=by
  rw[v1,hXI];simp only[Int.sub_mul,Int.add_mul,Int.mul_assoc] at q1 q2 q3 q4⊢;omega
 have z2:(XPi:Int)≤hi*(D:Int):=by
  rw[v2,hXI];simp only[Int.sub_mul,Int.add_mul,Int.mul_assoc] at q1 q2 q3 q4⊢;omega
 have h25:(2:Nat)^25=33554432:=by decide
 have z3:hi≤lo+((2^25:Nat):Int):=by
  rw[h25];omega
 have z4:2^25*D<XPi:=by
  rw[←hD,←Nat.pow_add];exact Nat.lt_of_lt_of_le (Nat.pow_lt_pow_right (by omega) (by omega)) L3
 have z0:=to_nat z2 z3 z4;obtain⟨lN,rfl⟩: ∃n:Nat,lo=(n:Int):=⟨lo.toNat,by omega⟩;have hz:0≤hi:=by omega
 obtain⟨hN,rfl⟩: ∃n:Nat,hi=(n:Int):=⟨hi.toNat,by omega⟩;rw[←Int.natCast_mul] at z1 z2;refine fam_tell (A:=1121) hX (by omega) hL hb e1 e2 hlo hhi ?_ ?_ ?_
 ·rw[hD];exact Int.ofNat_le.1 z1
 ·rw[hD];exact Int.ofNat_le.1 z2
 ·exact Int.ofNat_le.1 (by rw[Int.natCast_add];exact z3)
theorem pi_fits (k:Nat)(hk:k≤60000):FitsT (piLo k)∧FitsT (piHi k):=by
 obtain⟨v1,v2,e1,e2,e3,e4⟩:=pi_V k;obtain⟨-,-,s1⟩:=inv_fits 5 k 1 (by omega) (by omega) hk;obtain⟨-,-,s2⟩:=inv_fits 239 k 1 (by omega) (by omega) hk;have hp:(2:Nat)^ (k+23)=2^ (k+17)*64:=by rw[show k+23=k+17+6 by omega,Nat.pow_add]
 have hI:((2^ (k+23):Nat):Int)=((2^ (k+17):Nat):Int)*64:=by rw[hp,Int.natCast_mul];rfl
 have a1:(XA 5 1 k:Int)+((3+3*NA 5 1 k:Nat):Int)< ((2^ (k+17):Nat):Int):=by rw[←Int.natCast_add];exact Int.ofNat_lt.2 s1
 have a2:(XA 239 1 k:Int)+((3+3*NA 239 1 k:Nat):Int)< ((2^ (k+17):Nat):Int):=by rw[←Int.natCast_add];exact Int.ofNat_lt.2 s2
 generalize hP:((2^ (k+17):Nat):Int)=P at*
 constructor
 ·refine fits_of_V (j:=k+23) e1 e3 hk (by omega) ?_ ?_<;>rw[v1,hI]<;>omega
 ·refine fits_of_V (j:=k+23) e2 e4 hk (by omega) ?_ ?_<;>rw[v2,hI]<;>omega
theorem serPi_ex (b:Nat)(hb:10≤b∧b≤1000)(hX:chkN XPi=true)(hL:1121≤Nat.log2 XPi):
  ∃l h,GoodB XPi b l h∧ ∀w,Tab w→yC 7 #[yi b] w (BRd w l h 0):=by
 obtain⟨c,q,B,c1,c2,t1,t2,t3,t4,t5,hG⟩:=pi_tell hb hX hL;obtain⟨f1,f2⟩:=pi_fits (b+64) (by omega);obtain⟨-,-,e1,e2,-,-⟩:=pi_V (b+64);exact⟨_,_,hG,fun w hT=>serPi_W _ _ _ 0 w (fun w1 q1=>told_pi_any _ _ b c q B w1 hb (hT.l q1) f1 f2 e1 e2 c1 c2 t1 t2 t3 t4 t5 (fun w2 _=>spi_any (b+64) w2 (by omega)))⟩
theorem chk_pi:chkN XPi=true:=by kernel_rfl
end Go.Proofs.YtiakgfmlpdfhdaaDoor
