/- Texts laid together. -/
import Derived.Test.YthhiidikgchdeabGreatDoorLb44
import Derived.Test.YthhiidikgchdeabGreatDoorLb45
namespace Go.Proofs.YthhiidikgchdeabGreatDoor
open Go.RowKit
theorem lP (A B:ak):dJ (bare (cO (bare A) (dB (bare B))))=dJ (aG A (dV B)):=by
 have a: -((A.e.natAbs+B.e.natAbs:Nat):Int)≤A.e:=by omega
 have b: -((A.e.natAbs+B.e.natAbs:Nat):Int)≤B.e:=by omega
 have c: -((A.e.natAbs+B.e.natAbs:Nat):Int)≤(dB (bare B)).e:=eL b;rw[acR (A.e.natAbs+B.e.natAbs),dw (zy (eL a) c),zx (eL a) c,EI,dw a,dw b,CB]
 congr 1
theorem OL {a b:ak}(c: ∃y,a=bare y)(d: ∃y,b=bare y):dJ (bare (cO a (dB b)))=bJ a b:=by
 obtain⟨y,rfl⟩:=c;obtain⟨z,rfl⟩:=d;rw[tM];exact lP y z
theorem cmp_le {K:Nat}{a b:ak}(f: ∃y,a=bare y)(g: ∃y,b=bare y)(c: -(K:Int)≤a.e)(d: -(K:Int)≤b.e):(V K a≤V K b→dJ (bare (cO a (dB b)))≤0)∧(V K a<V K b→dJ (bare (cO a (dB b)))<0):=by
 rw[OL f g,oY c d];unfold sgn;refine⟨fun h=> ?_,fun h=> ?_⟩
 ·split
  ·omega
  ·rw[if_pos (by omega)];omega
 ·rw[if_neg (by omega),if_pos (by omega)]
  omega
theorem short_end {t:ak}(h:(bU t).2=0):EndK (bU t).1∧qT (bU t).1=qT t:=by
 unfold bU at*
 by_cases a:1200< (Dg.dg 4294967296 (bare t).n).length
 ·rw[if_pos a] at h
  cases h
 ·rw[if_neg a] at h⊢
  by_cases b:(bare t).e< -20000∨20000< (bare t).e
  ·rw[if_pos b] at h
   cases h
  ·rw[if_neg b]
   exact⟨⟨⟨t,rfl⟩,by show(Dg.dg 4294967296 (bare t).n).length≤1200;omega,by show-20000≤(bare t).e;omega,by show(bare t).e≤20000;omega⟩,qT_bare t⟩
theorem ball_end {a b:ak}(h:(iD (bU a) (bU b)).2.2=0):EndK (iD (bU a) (bU b)).1∧EndK (iD (bU a) (bU b)).2.1∧ivT (iD (bU a) (bU b)).1 (iD (bU a) (bU b)).2.1=ivT a b:=by
 unfold iD at*
 by_cases c:(bU a).2=0
 ·rw[if_pos c] at h⊢
  by_cases d:(bU b).2=0
  ·rw[if_pos d]
   obtain⟨e,q1⟩:=short_end c;obtain⟨f,q2⟩:=short_end d;refine⟨e,f, ?_⟩
   show IvN.mk _ _=IvN.mk _ _
   rw[q1,q2]
  ·rw[if_neg d] at h
   exact absurd h d
 ·rw[if_neg c] at h
  exact absurd h c
theorem expOut_ok {s:Bool}{xs:List Nat}{e b:Int}(h:(expOut s xs e b).2.2=0):
  EndK (expOut s xs e b).1∧EndK (expOut s xs e b).2.1∧SIn (ivT (expOut s xs e b).1 (expOut s xs e b).2.1) (er (qT ⟨s,Dg.vl 4294967296 xs,e⟩)):=by
 unfold expOut at*
 by_cases c:numR s xs e b≠0
 ·rw[if_pos c] at h
  exact absurd h c
 ·rw[if_neg c] at h⊢
  have k:numR s xs e b=0:=by omega
  have l:= @fit_exp s xs e b k;have m:=qT_bare ⟨s,Dg.vl 4294967296 xs,e⟩;generalize bare ⟨s,Dg.vl 4294967296 xs,e⟩=x at*;rw[←m]
  by_cases d:0<bJ (sizeT x) (wTr 12000)
  ·rw[if_pos d] at h
   cases h
  ·rw[if_neg d] at h⊢
   by_cases a:x.n=0
   ·rw[if_pos a]
    refine⟨end_one,end_one,fun _=>1, ?_,0,fun n _=> ?_⟩
    ·rw[qT_zero a]
     exact er_zero
    ·have:qT (wTr 1)=1:=by rw[qT_w];rfl
     constructor
     ·show qT (wTr 1)≤1
      rw[this];exact Rat.le_refl
     ·show(1:Rat)≤qT (wTr 1)
      rw[this];exact Rat.le_refl
   ·rw[if_neg a] at h⊢
    obtain⟨j,q,r⟩:=l d a;obtain⟨o,t,p,u⟩:=expV_any (B:=b.toNat+64) a j (by omega) (by omega);obtain⟨f,g,i⟩:=ball_end h;refine⟨f,g, ?_⟩;rw[i];exact o.cut (cut_ivS (expV x (b.toNat+64)) (b.toNat+32) (by omega) p)
theorem kernelBegun_any (w:World)(q:Tab w):yC 5 #[] w (yR w (.bool true)):=by
 have v: ∀a:World,Rd a .u32 (.slice none ([]:List Nat).length 0) []:=fun a=>aN _ _
 have y:numR false [] 0 30=0:=by
  have:=expOut_zero;unfold expOut at this
  by_cases c:numR false [] 0 30≠0
  ·rw[if_pos c] at this
   exact absurd (congrArg (fun p=>p.1.n) this) (by decide)
  ·omega
 have u:Fit9 (wTr 1):=(RgT.w 1 1 (by omega)).fit (by omega) (by omega);have x:dJ zTr=0:=rfl;have t: ∀g (f:Option Addr) b a,Rd a .u32 (.slice f (Dg.dg 4294967296 (wTr 1).n).length b) (Dg.dg 4294967296 (wTr 1).n)→au a g 36 [.int .u32 1]→yC 18 #[.agg #[.bool (wTr 1).s,.slice f (Dg.dg 4294967296 (wTr 1).n).length b,yi (wTr 1).e],ydV false (.slice (some ⟨g,0,none⟩) 1 1) 0] a (yR a (.bool true)):=fun g f b a k j=>by
  have:=ig (wTr 1).s f b _ (wTr 1).e false (some ⟨g,0,none⟩) 1 [1] 0 a k (rd_cell1 (d:=1) j);rw[show decide ((wTr 1).s=false∧(wTr 1).e=0∧Dg.dg 4294967296 (wTr 1).n=[1])=true by decide+kernel] at this
  exact this
 refine kernelBegun_W (wTr 1) (wTr 1) (wTr 1) (wTr 1) w (fun a m=> ?_) (fun a m=> ?_) (fun g f b a _ k j=>t g f b a k j) (fun g f b a _ k j=>t g f b a k j)
 ·have:=kexp_any false none 0 [] 0 30 a (v a) (Dg.small_nil _ (by omega)) (q.l m)
  rw[expOut_zero] at this;exact this
 ·refine Cos_e3 zTr (wTr 1) (wTr 1) (wTr 1) false none 0 0 0 30 (dJ zTr) 0 a x (fun i r=> ?_) (fun f b i _ h=>qB _ zTr i ⟨_,rfl,h⟩) (fun i _=>swhole9 1 i (by omega)) (fun D C F E i r A B=> ?_)
  ·refine angle_zero zTr false none 0 0 0 30 (dJ zTr) i x (fun o z=> ?_) (fun f b o _ h=>qB _ zTr o ⟨_,rfl,h⟩)
   have:=(number9 false none 0 [] 0 30 o (v o) (Dg.small_nil _ (by omega)) (((q.l m).l r).l z)).2 y;exact this
  ·have:=sshort9 _ (wTr 1) (wTr 1) i ⟨_,_,rfl,A,B⟩ u u ((q.l m).l r)
   rw[short_one] at this;exact this
theorem ofDyad_K {t:ak}(h:EndK t)(b:Option Addr)(a:Nat)(w:World)(d:Rd w .u32 (yT b t.n a) (Dg.dg 4294967296 t.n)):
  yC 16 #[yDV t b a] w (dr w t):=by
 obtain⟨⟨y,c⟩,f,g,i⟩:=h;have h:=bQ t.s b a _ t.e w d (Dg.small_dg _ _ (by omega)) (by omega) (by omega) (by omega);rw[Dg.vl_dg _ _ (by omega)] at h;rw[show(⟨t.s,t.n,t.e⟩:ak)=t from rfl,c,iH,←c] at h
 exact h
theorem le_of_er {A B:Nat→Rat}{K:Rat}(j: ∀n,ab (A n)≤K)(k: ∀n,ab (B n)≤K)(h: ∀e:Rat,0<e→ ∃N,∀n,N≤n→er (A n) n≤er (B n) n+e):
  ∀e:Rat,0<e→ ∃N,∀n,N≤n→A n≤B n+e:=fun e E=>by
 have D:0≤K:=Rat.le_trans (ab_nonneg _) (j 0);have f: ∀n,ab (-B n)≤K:=fun n=>by rw[ab_neg];exact k n
 obtain⟨C,l,I,z⟩:=er_bd D;obtain⟨d,b,J,L⟩:=small_for (show(0:Rat)<C+3 by grind) E
 obtain⟨o,w⟩:=er_mul2 j f d b;obtain⟨p,x⟩:=er_mul2 k f d b;obtain⟨q,y⟩:=h d b;refine⟨l+o+p+q+2,fun n M=> ?_⟩
 have i:=w n (by omega);have a:=x n (by omega);have s:=y n (by omega);have t:=z n (by omega) (-B n) (f n);simp only at i a;have H:er (B n+ -B n) n=1:=by
  rw[show B n+ -B n=0 by grind]
  obtain⟨m,rfl⟩: ∃m,n=m+1:=⟨n-1,by omega⟩;have F:=CxN.ez_zero m;have v:(⟨0,0⟩:CxN)=CxN.zero:=rfl;have r:=ez_real 0 (m+1);rw[v,F] at r;exact(congrArg CxN.re r).symm
 rw[H] at a;have G:0≤er (-B n) n:=by
  by_cases c:0≤B n
  ·have:=er_slope c (show 2≤n by omega)
   by_cases g:0≤er (-B n) n
   ·exact g
   ·have:=Rat.mul_nonneg (show 0≤er (B n) n by grind) (show 0≤ -er (-B n) n by grind)
    rw[ab_le] at a
    grind
  ·have:=er_slope (d:= -B n) (by grind) (show 2≤n by omega)
   grind
 have P:=Rat.mul_le_mul_of_nonneg_right s G;have u:er (-B n) n≤C:=Rat.le_trans (le_ab _) t;have Q:=Rat.mul_le_mul_of_nonneg_left u (show 0≤d by grind)
 rw[ab_le] at i a;have O:er (A n+ -B n) n≤1+e:=by grind
 by_cases c:0≤A n+ -B n
 ·have:=er_slope c (show 2≤n by omega)
  grind
 ·grind
theorem logm9 (v:Value)(x:ak)(B:Nat)(w:World)(Q:Dv w v x)(hx:x.s=false)(hn:x.n≠0)(hb:bitLen x.n≤1200)(he: -20000≤x.e∧x.e≤60000)(h1:84≤B)(h2:B≤1000)(hT:Tab w):
  yC 47 #[v,yi B] w (aeT w (lgSp x B (lnLo B,lnHi B)).1 (lgSp x B (lnLo B,lnHi B)).2):=by
 have fx:Fit9 x:=⟨by omega,by omega⟩;obtain⟨-,ga⟩:=ath_fit h1 h2 hx hn hb;have a2:=fun v a Q a7=>beside9 v x B a Q hx hn hb h1 h2 a7
 have a1:(lgP x).natAbs<2^17:=by
  have ad:(2:Nat)^17=131072:=by decide
  unfold lgP
  split<;>omega
 have a0:=log_fit h1 h2 hx hn hb a1;have hY:lgY x=⟨x.s,x.n,x.e+ -lgP x⟩:=rfl;rw[hY] at a2;obtain⟨G,hG⟩: ∃G:Int,(bitLen x.n:Int)+x.e=G:=⟨_,rfl⟩;have al: -20000≤G∧G≤61200:=by omega
 have M:lgP x=if bJ x (upT (wTr 3) (G-2))<0 then G-1 else G:=by
  unfold lgP;rw[show x.e+(bitLen x.n:Int)=G by omega]
 obtain⟨s0,rfl,m⟩:=Q;obtain⟨d,b,rfl⟩:=m.shape;have F: ∀a,yB w a→Rd a .u32 (yT d x.n b) (Dg.dg 4294967296 x.n)→yC 53 #[yDV x d b] a (yR a (yi G)):=fun a _ h=>by
  have:=dtop9 _ x a ⟨_,rfl,h⟩ fx
  rwa [hG] at this
 have I: ∀a,yB w a→yC 43 #[yi 3] a (Lx a (wTr 3)):=fun a _=>whole_any 3 a (by omega)
 have ae:(wTr 3).e=0:=rfl;have f3:RgT 2000000000 2000000000 (upT (wTr 3) (G-2)):=((RgT.w 3 2 (by omega)).up (G-2)).mono (by omega) (by omega);generalize wTr 3=o at*;have J: ∀D C a,yC 84 #[yDV o D C,yi (G-2)] a (yR a (.agg #[.bool o.s,yT D o.n C,yi (upT o (G-2)).e])):=fun D C a=>dscaled_W _ _ _ _ _ _ _ a (by show _=o.e+(G-2);exact IntWalk.i64_in _ ⟨by omega,by omega⟩)
 have K: ∀D C a,yB w a→Rd a .u32 (yT d x.n b) (Dg.dg 4294967296 x.n)→Rd a .u32 (yT D o.n C) (Dg.dg 4294967296 o.n)→yC 42 #[yDV x d b,.agg #[.bool o.s,yT D o.n C,yi (upT o (G-2)).e]] a (yR a (yi (bJ x (upT o (G-2))))):=fun D C a _ ha ho=>dcmp9 _ _ x (upT o (G-2)) a ⟨_,rfl,ha⟩ ⟨_,rfl,ho⟩ (RgT.mono (E:=1000000000) (T:=1000000000) fx (by omega) (by omega)) f3
 have O:IntKind.i64.wrap (G-2)=G-2:=IntWalk.i64_in _ ⟨by omega,by omega⟩;unfold lgSp logS at a0⊢;generalize bJ x (upT o (G-2))=c at*;have X:=fun a=>sln_any B a (by omega)
 obtain⟨-,-,-,-,f1,f2⟩:=ln_fits B (by omega);have a5:Fit9 (lnLo B):=f1.rg.fit (by omega) (by omega);have a6:Fit9 (lnHi B):=f2.rg.fit (by omega) (by omega);generalize lnLo B=L at*;generalize lnHi B=H at*;generalize athS (lgZ x B) B=A at*;obtain⟨p,q⟩:=A;have fp:Fit9 p:=ga.1.fit (by omega) (by omega);have fq:Fit9 q:=ga.2.fit (by omega) (by omega);obtain⟨pw,a9⟩: ∃pw,lgP x=pw:=⟨_,rfl⟩;rw[a9] at a2 a1 a0 M⊢;have an: -20001≤pw∧pw≤61200:=by
  rw[M]
  split<;>omega
 have P:IntKind.i64.wrap (-pw)= -pw:=IntWalk.i64_in _ ⟨by omega,by omega⟩;have T5:yJ 84 #[yDV x d b,yi (-pw)] (ydV x.s (yT d x.n b) (x.e+ -pw)):=fun a=>dscaled_W _ _ _ _ _ _ _ a (IntWalk.i64_in _ ⟨by omega,by omega⟩)
 have T6: ∀a,yB w a→Rd a .u32 (yT d x.n b) (Dg.dg 4294967296 x.n)→yC 85 #[ydV x.s (yT d x.n b) (x.e+ -pw),yi B] a (aeT a p q):=fun a a8 h=>a2 _ a ⟨_,rfl,h⟩ (hT.l a8)
 obtain⟨N,hN⟩: ∃N,pw.natAbs=N:=⟨_,rfl⟩;rw[hN] at a1 a0⊢;have gN:=RgT.w N 17 a1;have fN:Fit9 (wTr N):=gN.fit (by omega) (by omega);have Y: ∀a,yB w a→yC 25 #[yi (N:Int)] a (aeT a (wTr N) (wTr N)):=fun a _=>swhole9 N a (by omega)
 generalize wTr N=nn at*;obtain⟨-,gT⟩:=a0;obtain⟨⟨r,s⟩,a4⟩: ∃t,timesS (L,H) (nn,nn)=t:=⟨_,rfl⟩;rw[a4] at gT⊢;have fr:Fit9 r:=gT.1.fit (by omega) (by omega);have fs:Fit9 s:=gT.2.fit (by omega) (by omega);have Z: ∀uo uc vo vc zo zc io ic a,yB w a→Rd a .u32 (yT uo L.n uc) (Dg.dg 4294967296 L.n)→Rd a .u32 (yT vo H.n vc) (Dg.dg 4294967296 H.n)→Rd a .u32 (yT zo nn.n zc) (Dg.dg 4294967296 nn.n)→Rd a .u32 (yT io nn.n ic) (Dg.dg 4294967296 nn.n)→
   yC 86 #[.agg #[.bool L.s,yT uo L.n uc,yi L.e,.bool H.s,yT vo H.n vc,yi H.e],.agg #[.bool nn.s,yT zo nn.n zc,yi nn.e,.bool nn.s,yT io nn.n ic,yi nn.e]] a (aeT a r s):=fun uo uc vo vc zo zc io ic a _ hu Q hz hi=>by
  have:=stimes9 _ _ L H nn nn a ⟨_,_,rfl,hu,Q⟩ ⟨_,_,rfl,hz,hi⟩ a5 a6 fN fN
  rwa [a4] at this
 by_cases i:c<0
 ·rw[if_pos i] at M
  have a3:IntKind.i64.wrap (G-1)=pw:=by rw[←M];exact IntWalk.i64_in _ ⟨by omega,by omega⟩
  by_cases f:pw=0
  ·rw[if_pos f]
   exact log_01 x d b o p q B G (G-2) (upT o (G-2)).e c (x.e+ -pw) (-pw) pw w m O i a3 P f F I J K T5 T6
  ·rw[if_neg f]
   by_cases g:pw<0
   ·rw[if_pos g]
    exact log_n1 x d b o p q L H nn r s (aG p (dV s)) (aG q (dV r)) B G (G-2) (upT o (G-2)).e c (x.e+ -pw) (-pw) pw (N:Int) w m O i a3 P f (by omega) g F I J K T5 T6 (fun a _=>X a) Y Z (fun S R W U a=>spanOpp_W r s _ _ _ _ a (fun z=>YA _ _ _ _ _ z) (fun z=>YA _ _ _ _ _ z)) (fun po pc qo qc S R W U a _ j k u y=>splus9 _ _ p q (dV s) (dV r) a ⟨_,_,rfl,j,k⟩ ⟨_,_,rfl,y,u⟩ fp fq fs fr)
   ·rw[if_neg g]
    exact log_p1 x d b o p q L H nn r s (aG p r) (aG q s) B G (G-2) (upT o (G-2)).e c (x.e+ -pw) (-pw) pw (N:Int) w m O i a3 P f (by omega) g F I J K T5 T6 (fun a _=>X a) Y Z (fun po pc qo qc S R W U a _ j k u y=>splus9 _ _ p q r s a ⟨_,_,rfl,j,k⟩ ⟨_,_,rfl,u,y⟩ fp fq fr fs)
 ·rw[if_neg i] at M
  subst M
  by_cases f:pw=0
  ·rw[if_pos f]
   exact log_00 x d b o p q B pw (pw-2) (upT o (pw-2)).e c (x.e+ -pw) (-pw) w m O i P f F I J K T5 T6
  ·rw[if_neg f]
   by_cases g:pw<0
   ·rw[if_pos g]
    exact log_n0 x d b o p q L H nn r s (aG p (dV s)) (aG q (dV r)) B pw (pw-2) (upT o (pw-2)).e c (x.e+ -pw) (-pw) (N:Int) w m O i P f (by omega) g F I J K T5 T6 (fun a _=>X a) Y Z (fun S R W U a=>spanOpp_W r s _ _ _ _ a (fun z=>YA _ _ _ _ _ z) (fun z=>YA _ _ _ _ _ z)) (fun po pc qo qc S R W U a _ j k u y=>splus9 _ _ p q (dV s) (dV r) a ⟨_,_,rfl,j,k⟩ ⟨_,_,rfl,y,u⟩ fp fq fs fr)
   ·rw[if_neg g]
    exact log_p0 x d b o p q L H nn r s (aG p r) (aG q s) B pw (pw-2) (upT o (pw-2)).e c (x.e+ -pw) (-pw) (N:Int) w m O i P f (by omega) g F I J K T5 T6 (fun a _=>X a) Y Z (fun po pc qo qc S R W U a _ j k u y=>splus9 _ _ p q r s a ⟨_,_,rfl,j,k⟩ ⟨_,_,rfl,u,y⟩ fp fq fr fs)
theorem klog_any (s:Bool)(g:Option Addr)(q:Nat)(xs:List Nat)(e b:Int)(w:World)(hr:Rd w .u32 (.slice g xs.length q) xs)(hs:Dg.Small 4294967296 xs)(H:Tab w):
  yC 15 #[ydV s (.slice g xs.length q) e,yi b] w (BRd w (logOut s xs e b).1 (logOut s xs e b).2.1 (logOut s xs e b).2.2):=by
 have hN:=fun a (d:yB w a)=>number9 s g q xs e b a (hr.l d) hs (H.l d)
 have S: ∀{z:Ending} {a:World} {c:Int},z= .returned (.tuple #[.agg #[.bool false,yN,yi 0,.bool false,yN,yi 0],yi c])∧yB w a→BRd w zTr zTr c z a:=fun h=>⟨_,_,h.1,aN _ _,aN _ _,h.2⟩
 unfold logOut
 by_cases G:numR s xs e b≠0
 ·rw[if_pos G]
  exact(Log_e1 s g _ q e b _ w G (fun a d=>(hN a d).1 G)).mono fun _ _ h=>S h
 ·rw[if_neg G]
  have a0:numR s xs e b=0:=by omega
  have D:=fun a (d:yB w a)=>(hN a d).2 a0
  obtain⟨n1,n2,n3,n4,n5⟩:=fit_num hs a0;generalize bare ⟨s,Dg.vl 4294967296 xs,e⟩=x at*;have fx:Fit9 x:=⟨by omega,by omega⟩;have J: ∀j i a,yB w a→Rd a .u32 (yT j x.n i) (Dg.dg 4294967296 x.n)→yC 20 #[yDV x j i] a (yR a (yi (dJ x))):=fun j i a _ h=>qB _ x a ⟨_,rfl,h⟩
  by_cases r:dJ x≤0
  ·rw[if_pos r]
   exact(Log_e2 x s g _ q e b _ w r D J).mono fun _ _ h=>S h
  ·rw[if_neg r]
   obtain⟨R,Q⟩:=sign_pos r;have HW: ∀a,yB w a→yC 43 #[yi 1] a (Lx a (wTr 1)):=fun a _=>whole_any 1 a (by omega)
   have fw:RgT 2000000000 2000000000 (wTr 1):=(RgT.w 1 1 (by omega)).mono (by omega) (by omega);have a7:qT (wTr 1)=1:=by rw[qT_w];rfl
   generalize wTr 1=o at*;have HC: ∀j i yo Z a,yB w a→Rd a .u32 (yT j x.n i) (Dg.dg 4294967296 x.n)→Rd a .u32 (yT yo o.n Z) (Dg.dg 4294967296 o.n)→yC 42 #[yDV x j i,yDV o yo Z] a (yR a (yi (bJ x o))):=fun j i yo Z a _ ha d=>dcmp9 _ _ x o a ⟨_,rfl,ha⟩ ⟨_,rfl,d⟩ (RgT.mono (E:=1000000000) (T:=1000000000) fx (by omega) (by omega)) fw
   by_cases C:bJ x o=0
   ·rw[if_pos C]
    exact(Log_e3 x o s g _ q e b _ _ w r C D J HW HC).mono fun _ _ h=>S h
   ·rw[if_neg C]
    obtain⟨n,a2⟩: ∃n:Nat,b=(n:Int):=⟨b.toNat,by omega⟩;rw[a2,Int.toNat_natCast];rw[a2] at D n4 n5;have hq:qT x≠1:=fun c=>C (cmpT_zero.2 (by rw[a7];exact c))
    obtain⟨⟨U,I⟩,-⟩:=log_nrw (n:=n) R Q (by omega) (by omega) hq;have a9:(2:Nat)^17=131072:=by decide
    have a6:(lgP x).natAbs<2^17:=by
     unfold lgP
     split<;>omega
    obtain⟨gV,-⟩:=log_fit (B:=n+64) (by omega) (by omega) R Q n1 a6;have hL:=fun v a hv a5=>logm9 v x (n+64) a hv R Q n1 (by omega) (by omega) (by omega) a5
    obtain⟨V,hV⟩: ∃V,lgSp x (n+64) (lnLo (n+64),lnHi (n+64))=V:=⟨_,rfl⟩;rw[hV] at U I gV hL⊢;have gF:=gV.cut (b:=n+32) (by omega);obtain⟨F,hF⟩: ∃F,cutSp V (n+32)=F:=⟨_,rfl⟩;rw[hF] at U I gF⊢;obtain⟨K,L⟩:=V;obtain⟨k,m⟩:=F;have O:Fit9 k:=gF.1.fit (by omega) (by omega);have P:Fit9 m:=gF.2.fit (by omega) (by omega);have a3:Fit9 K:=gV.1.fit (by omega) (by omega);have a4:Fit9 L:=gV.2.fit (by omega) (by omega);refine Log_W x o _ _ s g _ q e (n:Int) _ _ _ w r C D J HW HC (fun W j i a d la a8=> ?_)
    refine refined_Log W k m _ _ (n:Int) ((n+32:Nat):Int) ((n+64:Nat):Int) _ a
     (by rw[show(n:Int)+32=((n+32:Nat):Int) by omega];exact IntWalk.i64_in _ ⟨by omega,by omega⟩)
     (by rw[show((n+32:Nat):Int)+32=((n+64:Nat):Int) by omega];exact IntWalk.i64_in _ ⟨by omega,by omega⟩)
     (fun pf pi X y lf li=> ?_) (fun g ac bo bc X y t u=>sshort9 _ k m X ⟨_,_,rfl,t,u⟩ O P ((H.l d).l y))
    refine refine_once pf pi k m _ X (fun Y p=> ?_) (fun fo fc go gc Y p t u=> ?_)
    ·refine refined1_Log W pf pi K L k m _ _ Y (lf.l p).range (li.l p).range (fun A f=> ?_) (fun g ac bo bc A f t u=> ?_)
     ·exact Log1_W W x j i _ _ _ A (((la.l y).l p).l f).range (fun w5 a1=>hL _ w5 ⟨_,rfl,(((a8.l y).l p).l f).l a1⟩ (((((H.l d).l y).l p).l f).l a1))
     ·have:=scut9 _ K L (n+32) A ⟨_,_,rfl,t,u⟩ a3 a4 (by omega) (by omega) ((((H.l d).l y).l p).l f)
      rwa [hF] at this
    ·refine refined2_W pi k m _ _ _ _ ((n+32:Nat):Int) ((n+26:Nat):Int) Y (li.l p).range
      (by rw[show((n+32:Nat):Int)-6=((n+26:Nat):Int) by omega];exact IntWalk.i64_in _ ⟨by omega,by omega⟩) (fun A f=> ?_)
     rcases U with⟨M,N⟩| ⟨M,N⟩
     ·exact snarrow9 _ k m (n+26) A ⟨_,_,rfl,t.l f,u.l f⟩ O P M N I (by omega)
     ·exact snarrowN _ k m (n+26) A ⟨_,_,rfl,t.l f,u.l f⟩ O P M N I (by omega)
theorem logOut_ok {s:Bool}{xs:List Nat}{e b:Int}(y:Dg.Small 4294967296 xs)(h:(logOut s xs e b).2.2=0):
  EndK (logOut s xs e b).1∧EndK (logOut s xs e b).2.1∧ ∃L:Nat→Rat,(NrN (fun n=>er (L n) n) (fun _=>qT ⟨s,Dg.vl 4294967296 xs,e⟩))∧(∃K,∀n,ab (L n)≤K)∧EvN fun k=>(ivT (logOut s xs e b).1 (logOut s xs e b).2.1).has (L k):=by
 unfold logOut at*
 by_cases d:numR s xs e b≠0
 ·rw[if_pos d] at h
  exact absurd h d
 ·rw[if_neg d] at h⊢
  have t:numR s xs e b=0:=by omega
  obtain⟨B,C,D,E,F⟩:=fit_num y t;have v:=qT_bare ⟨s,Dg.vl 4294967296 xs,e⟩;generalize bare ⟨s,Dg.vl 4294967296 xs,e⟩=x at*;rw[←v]
  by_cases f:dJ x≤0
  ·rw[if_pos f] at h
   cases h
  ·rw[if_neg f] at h⊢
   obtain⟨z,u⟩:=sign_pos f;have g:qT (wTr 1)=1:=by rw[qT_w];rfl
   by_cases a:bJ x (wTr 1)=0
   ·rw[if_pos a]
    have i:EndK zTr:=⟨⟨zTr,rfl⟩,by decide,by decide,by decide⟩;have j:qT zTr=0:=qT_zero rfl;have A:=cmpT_zero.1 a;refine⟨i,i,fun _=>0, ?_,⟨0,fun n=>by unfold ab;grind⟩,0,fun k _=> ?_⟩
    ·rw[A,g]
     exact er_zero
    ·constructor
     ·show qT zTr≤0
      rw[j];exact Rat.le_refl
     ·show 0≤qT zTr
      rw[j];exact Rat.le_refl
   ·rw[if_neg a] at h⊢
    have w:qT x≠1:=fun c=>a (cmpT_zero.2 (by rw[g];exact c))
    obtain⟨-,L,p,q,r⟩:=log_nrw (n:=b.toNat) z u (by omega) (by omega) w;obtain⟨l,m,o⟩:=ball_end h;refine⟨l,m,L,p,q, ?_⟩;rw[o];exact r
end Go.Proofs.YthhiidikgchdeabGreatDoor
