/- Texts laid together. -/
import Derived.Test.YthhiidikgchdeabGreatDoorLb27
import Derived.Test.YthhiidikgchdeabGreatDoorLb39
import Derived.Test.YthhiidikgchdeabGreatDoorLb41
import Derived.Test.YthhiidikgchdeabGreatDoorLb42
import Derived.Test.YthhiidikgchdeabGreatDoorLb43
namespace Go.Proofs.YthhiidikgchdeabGreatDoor
open Go.RowKit
theorem bQ (s:Bool)(a:Option Addr)(b:Nat)(xs:List Nat)(e:Int)(w:World)(g:Rd w .u32 (.slice a xs.length b) xs)(i:Dg.Small 4294967296 xs)(c:xs.length≤20000)(d: -1000000≤e)(f:e≤1000000):
  yC 16 #[ydV s (.slice a xs.length b) e] w (dr w (bare ⟨s,Dg.vl 4294967296 xs,e⟩)):=
 (Aw s a b xs e w g i c d f).mono fun _ _ h=>h.near
theorem sln_any (k:Nat)(w:World)(b:k≤60000):yC 78 #[yi k] w (aeT w (lnLo k) (lnHi k)):=by
 obtain⟨u,v,B⟩:=inv_fits 26 k 0 (by omega) (by omega) b;obtain⟨x,y,-⟩:=inv_fits 4801 k 0 (by omega) (by omega) b;obtain⟨z,A,-⟩:=inv_fits 8749 k 0 (by omega) (by omega) b;obtain⟨v1,v2,r,s⟩:=lnA_V 26 k;obtain⟨-,-,Z,e4⟩:=lnA_V 4801 k;obtain⟨-,-,e5,e6⟩:=lnA_V 8749 k;obtain⟨C,D,E,F,h5,h6⟩:=ln_fits k b;have R:=fun a=>satanh_any 26 k a ⟨by omega,by omega⟩ b
 have S:=fun a=>satanh_any 4801 k a ⟨by omega,by omega⟩ b
 have T:=fun a=>satanh_any 8749 k a ⟨by omega,by omega⟩ b
 have G: ∀j,FitsT (fourT (lnA 26 k) (lnB 26 k) ⟨false,18,0⟩ ⟨false,18,0⟩ j):=by
  have o: ∀t:ak,t.e=0-(k:Int)→V k t< ((2^ (k+17):Nat):Int)→ -((2^ (k+17):Nat):Int)<V k t→FitsT (aK t ⟨false,18,0⟩):=fun t he U W=>by
   have m:=V_by18 k t;have l:((2^ (k+23):Nat):Int)=((2^ (k+17):Nat):Int)*64:=by rw[show k+23=k+17+6 by omega,Nat.pow_add,Int.natCast_mul];rfl
   have ht:(aK t ⟨false,18,0⟩).e=0-(k:Int):=by show t.e+0=_;omega
   refine fits_of_V (k:=k) (j:=k+23) (by omega) (by omega) b (by omega) ?_ ?_
   ·rw[m,l];generalize((2^ (k+17):Nat):Int)=P at*;omega
   ·rw[m,l];generalize((2^ (k+17):Nat):Int)=P at*;omega
  have a0:(XA 26 0 k:Int)+((3+3*NA 26 0 k:Nat):Int)< ((2^ (k+17):Nat):Int):=by rw[←Int.natCast_add];exact Int.ofNat_lt.2 B
  have ta:=o (lnA 26 k) r (by omega) (by omega);have q:=o (lnB 26 k) s (by omega) (by omega);intro j
  match j with
  |0=>exact ta
  |1=>exact ta
  |2=>exact q
  |_+3=>exact q
 have i:FitsT ⟨false,18,0⟩:=⟨⟨5,by omega,by decide⟩,by simp,by simp⟩;refine sumsLn2_W (lnA 26 k) (lnB 26 k) ⟨false,18,0⟩ (lnM k) (lnN k) (lnA 4801 k) (lnB 4801 k) (lnA 8749 k) (lnB 8749 k) (lnU k) (lnV k) _ _ _ _ _ _ _ w (fun a _=>R a) (fun a _=>spanWhole_W 18 ⟨false,18,0⟩ a (fun h=>whole_any 18 h (by omega)) (fun xo xc h=>Qy _ _ _ _ _ h))
  (fun d c g f Y X eo ec a _ H I p J=>stimes_any _ _ (lnA 26 k) (lnB 26 k) ⟨false,18,0⟩ ⟨false,18,0⟩ a ⟨_,_,rfl,H,I⟩ ⟨_,_,rfl,p,J⟩ u v i i G)
  (fun a _=>S a) (fun d c g f a=>scaled_ret (lnA 4801 k) (lnB 4801 k) d g c f 1 a ⟨by omega,by omega⟩ ⟨by omega,by omega⟩ ⟨by omega,by omega⟩)
  (fun a _=>T a) (fun d c g f a=>scaled_ret (lnA 8749 k) (lnB 8749 k) d g c f 3 a ⟨by omega,by omega⟩ ⟨by omega,by omega⟩ ⟨by omega,by omega⟩)
  (fun mo mc no nc po pc qo qc a _ K L rp M=>sminus_any _ _ (lnM k) (lnN k) (upT (lnA 4801 k) 1) (upT (lnB 4801 k) 1) a ⟨_,_,rfl,K,L⟩ ⟨_,_,rfl,rp,M⟩ C D (fits_up (n:=1) x (by omega) (by show(lnA 4801 k).e≤_;omega)) (fits_up (n:=1) y (by omega) (by show(lnB 4801 k).e≤_;omega)))
  (fun uo uc vo vc ro p so sc a _ O Q N rs=>splus_any _ _ (lnU k) (lnV k) (upT (lnA 8749 k) 3) (upT (lnB 8749 k) 3) a ⟨_,_,rfl,O,Q⟩ ⟨_,_,rfl,N,rs⟩ E F (fits_up (n:=3) z (by omega) (by show(lnA 8749 k).e≤_;omega)) (fits_up (n:=3) A (by omega) (by show(lnB 8749 k).e≤_;omega)))
theorem taken9 (v:Value)(x:ak)(B:Nat)(w:World)(D:Dv w v x)(hx:x.s=false)(hn:x.n≠0)(g:RgT 40000 14 x)(h1:84≤B)(h2:B≤1000)(M:Tab w):
  yC 77 #[v,yi B,.func (.func 78) #[] #[]] w (KRd w (restE x B (lnSpan x B)).1 (restE x B (lnSpan x B)).2.1 (restE x B (lnSpan x B)).2.2):=by
 have f:Fit9 x:=g.fit (by omega) (by omega);obtain⟨s,rfl,C⟩:=D;obtain⟨j,i,rfl⟩:=C.shape;have G: ∀a,yB w a→Rd a .u32 (yT j x.n i) (Dg.dg 4294967296 x.n)→yC 53 #[yDV x j i] a (yR a (yi ((bitLen x.n:Int)+x.e))):=fun a _ h=>dtop9 _ x a ⟨_,rfl,h⟩ f
 unfold restE
 by_cases c:x.e+(bitLen x.n:Int)<0
 ·rw[if_pos c]
  exact taken_none_ln x j i _ _ _ _ w C (by omega) G (fun a=>Qy _ _ _ _ _ a) (fun a z h=>scut9 _ x x B a ⟨_,_,rfl,h,h⟩ f f (by omega) (by omega) (M.l z))
 ·rw[if_neg c]
  simp only;obtain⟨d,P⟩: ∃d:Nat,x.e+(bitLen x.n:Int)=(d:Int):=⟨(x.e+(bitLen x.n:Int)).toNat,by omega⟩;have a2:d≤14:=by have:=g.2;omega
  unfold lnSpan;rw[P,Int.toNat_natCast];obtain⟨l1,l2,-,-,-⟩:=ln_fine (k:=B+d) (by omega) (by omega);obtain⟨-,-,-,-,p,I⟩:=ln_fits (B+d) (by omega);have U:=fun a=>sln_any (B+d) a (by omega)
  generalize lnLo (B+d)=L at*;generalize lnHi (B+d)=H at*;have Y:(1/2:Rat)≤qT L:=Rat.le_trans half_69 l1;obtain⟨-,S,-⟩:=taken_any x (L,H) d B (by omega) hx hn P Y l2;simp only at S;have r:=often_le S;have a0:L.n≠0:=(pos_sign (t:=L) (by grind)).2;obtain⟨y,F⟩: ∃y,cK x L (d+32)=y:=⟨_,rfl⟩;have glR:=p.rg;have X:RgT 900000000 900000000 y:=by
   rw[←F];exact(g.over (b:=L) (B:=d+32) (by omega)).mono (by have:=glR.2;omega) (by have:=glR.1;omega)
  rw[F] at r⊢;obtain⟨N,K⟩: ∃N,nearT y=N:=⟨_,rfl⟩;rw[K] at r⊢;have Z:N<2^16:=Nat.lt_of_lt_of_le r (Nat.pow_le_pow_right (by omega) (by omega));have gN:=RgT.w N 16 Z;have fN:Fit9 (wTr N):=gN.fit (by omega) (by omega);have m:=RgS.times (s:=(L,H)) (t:=(wTr N,wTr N)) ⟨p.rg,I.rg⟩ ⟨gN,gN⟩;have q:=RgS.plus (s:=(x,x)) (t:=negS (timesS (L,H) (wTr N,wTr N))) (E:=100000) (T:=180000) ⟨g.mono (by omega) (by omega),g.mono (by omega) (by omega)⟩ (m.neg.mono (by omega) (by omega));obtain⟨⟨u,v⟩,Q⟩: ∃t,timesS (L,H) (wTr N,wTr N)=t:=⟨_,rfl⟩;rw[Q] at m q⊢;have J:Fit9 L:=p.rg.fit (by omega) (by omega);have W:Fit9 H:=I.rg.fit (by omega) (by omega);exact taken_some_ln x j i L H y u v (aG x (dV v)) (aG x (dV u)) _ _ N B ((bitLen x.n:Int)+x.e) ((B+d:Nat):Int) ((d+32:Nat):Int) w C (by omega)
   (by rw[show B+((bitLen x.n:Int)+x.e)=((B+d:Nat):Int) by omega];exact IntWalk.i64_in _ ⟨by omega,by omega⟩)
   (by rw[show(bitLen x.n:Int)+x.e+32=((d+32:Nat):Int) by omega];exact IntWalk.i64_in _ ⟨by omega,by omega⟩)
   G (fun a _=>U a)
   (fun po pc a _ o A=>by
    have:=dover9 _ _ x L (d+32) a ⟨_,rfl,o⟩ ⟨_,rfl,A⟩ a0 f J (by omega)
    rwa [F] at this)
   (fun yo yc a _ h=>by
    have:=nearest9 _ y a ⟨_,rfl,h⟩ X
    rwa [K] at this)
   (fun no R a=>l9 _ _ _ _ _ a) (fun no R a=>Qy _ _ _ _ _ a)
   (fun po pc qo qc no R a _ A hq O=>by
    have:=stimes9 _ _ L H (wTr N) (wTr N) a ⟨_,_,rfl,A,hq⟩ ⟨_,_,rfl,O,O⟩ J W fN fN
    rwa [Q] at this)
   (fun a=>Qy _ _ _ _ _ a)
   (fun uo uc vo vc a _ o hu D=>sminus9 _ _ x x u v a ⟨_,_,rfl,o,o⟩ ⟨_,_,rfl,hu,D⟩ f f (m.1.fit (by omega) (by omega)) (m.2.fit (by omega) (by omega)))
   (fun ro rc so sc a z a1 hs=>scut9 _ _ _ B a ⟨_,_,rfl,a1,hs⟩ (q.1.fit (by omega) (by omega)) (q.2.fit (by omega) (by omega)) (by omega) (by omega) (M.l z))
theorem exp9 (v:Value)(x:ak)(B:Nat)(w:World)(j:Dv w v x)(p:x.n≠0)(fx:RgT 40000 14 x)(f:84≤B)(g:B≤1000)(i:Tab w):
  yC 45 #[v,yi B] w (aeT w (expV x B).1 (expV x B).2):=by
 have m:RgT 40000 14 (sizeT x):=fx;have hI:=expI (x:=sizeT x) f g rfl p m;obtain⟨I,I0,L⟩:=hI;have a0:=pws_rg (nx:=nxE) (by omega) L (B+2) 0 _ _ I0 (by omega);obtain⟨k1,X⟩:=restE_fit (x:=sizeT x) rfl p m f g;have hP:=expS_any (x:=sizeT x) (one:=lnSpan (sizeT x) B) (l:=CxN.la) f g rfl p (expU f g m) CxN.has_la (fun n=>by have:=CxN.la_bd n;rwa [CxN.lnA_real] at this)
 obtain⟨-,q,H,-⟩:=hP;unfold expV;obtain⟨P,o⟩: ∃P,pwsT (restE (sizeT x) B (lnSpan (sizeT x) B)).2 B nxE (B+2) 1 (wTr 1,wTr 1) (wTr 1,wTr 1)=P:=⟨_,rfl⟩;have gP:RgS 400000001 400000004 P:=by rw[←o];exact a0
 have hE:expS (sizeT x) B (lnSpan (sizeT x) B)=upS P ((restE (sizeT x) B (lnSpan (sizeT x) B)).1:Int):=by unfold expS;rw[o]
 rw[hE] at q H⊢;obtain⟨N,Q⟩: ∃N,(restE (sizeT x) B (lnSpan (sizeT x) B)).1=N:=⟨_,rfl⟩;obtain⟨R,F⟩: ∃R,(restE (sizeT x) B (lnSpan (sizeT x) B)).2=R:=⟨_,rfl⟩;have G:=fun v a j=>taken9 v (sizeT x) B a j rfl p m f g
 rw[Q,F] at G;rw[Q] at k1 q H⊢;rw[F] at X o;have a5:(2:Nat)^16=65536:=by decide
 have a6:N<65536:=by omega
 have gU:RgS 410000000 410000000 (upS P (N:Int)):=(gP.up (N:Int)).mono (by omega) (by omega);have n1:(upS P (N:Int)).1.n≠0:=(pos_sign (t:=(upS P (N:Int)).1) q).2;have a4:0<qT (upS P (N:Int)).2:=by
  have Z:0<qT (upS P (N:Int)).1:=q;have a2:qT (upS P (N:Int)).1≤qT (upS P (N:Int)).2:=H
  grind
 have n2:(upS P (N:Int)).2.n≠0:=(pos_sign a4).2;have T: ∀v a,SpanV a v R.1 R.2→Tab a→yC 79 #[v,yi B,.func (.func 80) #[] #[]] a (aeT a P.1 P.2):=fun v a j a3=>by
  have:=powersE nxE R B v a j a3 (X.mono (by omega) (by omega)) (by omega) (by omega) (by rw[←F];exact⟨I,I0,L⟩) (fun k hk=>⟨by show 1<2^30;decide,by
   have:(2:Nat)^30=1073741824:=by decide
   show k+1<2^30
   omega,by show k+1≠0;omega⟩) (fun k d _=>expNext_any k d)
  rwa [o] at this
 have W: ∀no c a,Rd a .u32 (yT no N c) (Dg.dg 4294967296 N)→yC 82 #[yT no N c] a (yR a (.int .u64 (N:Int))):=fun no c a h=>by
  have:=XF _ _ a h (Dg.small_dg _ _ (by omega)) (jq (k:=16) (by omega) (by omega));rw[Dg.vl_dg _ _ (by omega)] at this;refine this.mono ?_;rintro z d ⟨rfl,rfl⟩;exact⟨rfl,Below.refl _ _⟩
 have U: ∀y u C A a,yC 81 #[.agg #[.bool P.1.s,yT y P.1.n u,yi P.1.e,.bool P.2.s,yT C P.2.n A,yi P.2.e],yi (N:Int)] a (yR a (.agg #[.bool P.1.s,yT y P.1.n u,yi (P.1.e+(N:Int)),.bool P.2.s,yT C P.2.n A,yi (P.2.e+(N:Int))])):=fun y u C A a=>by
  obtain⟨-,Z,a2⟩:=(gP.1.fit (by omega) (by omega):Fit9 P.1).all;obtain⟨-,b1,b2⟩:=(gP.2.fit (by omega) (by omega):Fit9 P.2).all;exact spanScaled_W P.1 P.2 _ _ _ _ (N:Int) _ _ a (fun d=>dscaled_W _ _ _ _ _ _ _ d (IntWalk.i64_in _ ⟨by omega,by omega⟩)) (fun d=>dscaled_W _ _ _ _ _ _ _ d (IntWalk.i64_in _ ⟨by omega,by omega⟩))
 obtain⟨s0,rfl,r⟩:=j;obtain⟨O,M,rfl⟩:=r.shape;obtain⟨xs,E,D⟩:=x;simp only at r⊢;have S:IntKind.i64.wrap (N:Int)=(N:Int):=IntWalk.i64_in _ ⟨by omega,by omega⟩
 cases xs
 ·rw[if_neg (by decide)]
  exact exp_pos ⟨false,E,D⟩ O M R.1 R.2 P.1 P.2 N B _ _ w r S (fun a=>dsize_W ⟨false,E,D⟩ _ _ a) (fun a b h=>G _ a ⟨_,rfl,h⟩ (i.l b)) (fun xo xc yo yc a b J K=>T _ a ⟨_,_,rfl,J,K⟩ (i.l b)) (fun no c a _ h=>W no c a h) U
 ·rw[if_pos rfl]
  have g1:RgT 500000000 500000000 (upS P (N:Int)).1:=gU.1.mono (by omega) (by omega);have g2:RgT 500000000 500000000 (upS P (N:Int)).2:=gU.2.mono (by omega) (by omega);have Y:RgT 400000000 400000000 (wTr 1):=(RgT.w 1 1 (by omega)).mono (by omega) (by omega);exact exp_neg ⟨true,E,D⟩ O M R.1 R.2 P.1 P.2 (wTr 1) _ _ N B _ _ w r S (fun a=>dsize_W ⟨true,E,D⟩ _ _ a) (fun a b h=>G _ a ⟨_,rfl,h⟩ (i.l b)) (fun xo xc yo yc a b J K=>T _ a ⟨_,_,rfl,J,K⟩ (i.l b)) (fun no c a _ h=>W no c a h) U
   (fun a _=>swhole9 1 a (by omega)) (fun co cc zo zc y u C A a b hc hz hp hq=>sover9 _ _ (wTr 1) (wTr 1) (upT P.1 (N:Int)) (upT P.2 (N:Int)) B a ⟨_,_,rfl,hc,hz⟩ ⟨_,_,rfl,hp,hq⟩ Y Y g1 g2 n1 n2 (by omega) (by omega) (i.l b))
theorem kexp_any (s:Bool)(g:Option Addr)(m:Nat)(xs:List Nat)(e b:Int)(w:World)(hr:Rd w .u32 (.slice g xs.length m) xs)(hs:Dg.Small 4294967296 xs)(v:Tab w):
  yC 14 #[ydV s (.slice g xs.length m) e,yi b] w (BRd w (expOut s xs e b).1 (expOut s xs e b).2.1 (expOut s xs e b).2.2):=by
 have hN:=fun a (c:yB w a)=>number9 s g m xs e b a (hr.l c) hs (v.l c)
 unfold expOut
 by_cases A:numR s xs e b≠0
 ·rw[if_pos A]
  refine(Exp_e1 s g _ m e b _ w A (fun a c=>(hN a c).1 A)).mono ?_
  rintro z a ⟨rfl,c⟩;exact⟨_,_,rfl,aN _ _,aN _ _,c⟩
 ·rw[if_neg A]
  have J:numR s xs e b=0:=by omega
  have q:=fun a (c:yB w a)=>(hN a c).2 J
  have a1:= @fit_exp s xs e b J;have K:=J;unfold numR at K
  by_cases r:aS xs e≠0
  ·rw[if_pos r] at K
   exact absurd K r
  obtain⟨m1,m2,m3,m4,m5⟩:=aO (by omega:aS xs e=0) hs;obtain⟨x,M⟩: ∃x,bare ⟨s,Dg.vl 4294967296 xs,e⟩=x:=⟨_,rfl⟩;have a2:(Dg.dg 4294967296 (Dg.vl 4294967296 xs)).length≤1200:=by rw[m2];exact m3
  have a5:(Dg.dg 4294967296 x.n).length≤1200:=by
   rw[←M];exact Nat.le_trans (aH 4294967296 _ _ (by omega) (FW _)) a2
  have a8:=gf a5;have a9: -20000≤x.e∧x.e≤60000:=by
   have a7:=gZ (Dg.vl 4294967296 xs) 1200 a2;rw[←M];unfold bare
   split
   ·exact⟨by show(-20000:Int)≤0;omega,by show(0:Int)≤60000;omega⟩
   ·exact⟨by show-20000≤e+(tz (Dg.vl 4294967296 xs):Int);omega,by show e+(tz (Dg.vl 4294967296 xs):Int)≤60000;omega⟩
  have fx:Fit9 x:=⟨by omega,by omega⟩;have fw:Fit9 (wTr 12000):=(RgT.w 12000 14 (by decide)).fit (by omega) (by omega);rw[M] at q a1⊢;have C: ∀f d S R a,yB w a→Rd a .u32 (yT f x.n d) (Dg.dg 4294967296 x.n)→Rd a .u32 (.slice S (Dg.dg 4294967296 (wTr 12000).n).length R) (Dg.dg 4294967296 (wTr 12000).n)→yC 42 #[ydV false (yT f x.n d) x.e,.agg #[.bool (wTr 12000).s,.slice S (Dg.dg 4294967296 (wTr 12000).n).length R,yi (wTr 12000).e]] a (yR a (yi (bJ (sizeT x) (wTr 12000)))):=fun f d S R a _ ha c=>dcmp9 _ _ (sizeT x) (wTr 12000) a ⟨_,rfl,ha⟩ ⟨_,rfl,c⟩ (RgT.mono (E:=1000000000) (T:=1000000000) fx (by omega) (by omega)) (fw.mono (by omega) (by omega))
  have D:=fun(f:Option Addr) (d:Nat) (a:World)=>dsize_W x f d a
  by_cases o:0<bJ (sizeT x) (wTr 12000)
  ·rw[if_pos o]
   refine(Exp_e2 x (wTr 12000) s g _ m e b _ w o q D (fun a _=>whole_any 12000 a (by omega)) C).mono ?_
   rintro z a ⟨rfl,c⟩;exact⟨_,_,rfl,aN _ _,aN _ _,c⟩
  ·rw[if_neg o]
   have U: ∀f d a,yB w a→Rd a .u32 (yT f x.n d) (Dg.dg 4294967296 x.n)→yC 20 #[yDV x f d] a (yR a (yi (dJ x))):=fun f d a _ h=>qB _ x a ⟨_,rfl,h⟩
   by_cases i:x.n=0
   ·rw[if_pos i]
    refine Exp_e3 x (wTr 12000) (wTr 1) (wTr 1) (wTr 1) s g _ m e b _ _ 0 w o (by unfold dJ;rw[if_pos i]) q D (fun a _=>whole_any 12000 a (by omega)) C U (fun a _=>swhole9 1 a (by omega)) (fun uo uc vo vc a c hu hv=> ?_)
    have:=sshort9 _ (wTr 1) (wTr 1) a ⟨_,_,rfl,hu,hv⟩ ((RgT.w 1 1 (by omega)).fit (by omega) (by omega)) ((RgT.w 1 1 (by omega)).fit (by omega) (by omega)) (v.l c);rw[short_one] at this;exact this
   ·rw[if_neg i]
    obtain⟨I,b1,b2⟩:=a1 o i;obtain⟨n,hn⟩: ∃n:Nat,b=(n:Int):=⟨b.toNat,by omega⟩;rw[hn,Int.toNat_natCast];rw[hn] at q b1 b2;obtain⟨v1,v2,O,v4⟩:=expV_any (B:=n+64) i I (by omega) (by omega);have L:=expV_fit i I (B:=n+64) (by omega) (by omega);have H:=cut_ivS (expV x (n+64)) (n+32) (by omega) O;obtain⟨r,G⟩:=nrw_pos (aim:=n+32) (by omega) (show(ivS (expV x (n+64))).has (ivS (expV x (n+64))).lo from⟨Rat.le_refl,O⟩) v2 (by rw[show-((n+32:Nat):Int)=32-((n+64:Nat):Int) by omega];exact v4) H
    rw[show 6-((n+32:Nat):Int)= -((n+26:Nat):Int) by omega] at G
    have W:=Rat.le_trans H.lo (Rat.le_trans O H.hi);have hF:=L.cut (b:=n+32) (by omega);obtain⟨F,Z⟩: ∃F,cutSp (expV x (n+64)) (n+32)=F:=⟨_,rfl⟩;rw[Z] at r G W hF⊢;have X:Fit9 F.1:=hF.1.fit (by omega) (by omega);have Y:Fit9 F.2:=hF.2.fit (by omega) (by omega);have a3:Fit9 (expV x (n+64)).1:=L.1.fit (by omega) (by omega);have a4:Fit9 (expV x (n+64)).2:=L.2.fit (by omega) (by omega);refine Exp_W x (wTr 12000) _ _ s g _ m e (n:Int) _ _ _ w o (by unfold dJ;rw[if_neg i];split<;>omega) q D (fun a _=>whole_any 12000 a (by omega)) C U (fun N f d a c la a6=> ?_)
    refine refined_Exp N F.1 F.2 _ _ (n:Int) ((n+32:Nat):Int) ((n+64:Nat):Int) _ a
     (by rw[show(n:Int)+32=((n+32:Nat):Int) by omega];exact IntWalk.i64_in _ ⟨by omega,by omega⟩)
     (by rw[show((n+32:Nat):Int)+32=((n+64:Nat):Int) by omega];exact IntWalk.i64_in _ ⟨by omega,by omega⟩)
     (fun pf pi P p lf li=> ?_) (fun g ac bo bc P p t u=>sshort9 _ F.1 F.2 P ⟨_,_,rfl,t,u⟩ X Y ((v.l c).l p))
    refine refine_once pf pi F.1 F.2 _ P (fun Q j=> ?_) (fun fo fc go gc Q j t u=> ?_)
    ·refine refined1_Exp N pf pi (expV x (n+64)).1 (expV x (n+64)).2 F.1 F.2 _ _ Q (lf.l j).range (li.l j).range (fun y k=> ?_) (fun g ac bo bc y k t u=> ?_)
     ·exact Exp1_W N x f d _ _ _ y (((la.l p).l j).l k).range (fun w5 a0=>exp9 _ x (n+64) w5 ⟨_,rfl,(((a6.l p).l j).l k).l a0⟩ i I (by omega) (by omega) (((((v.l c).l p).l j).l k).l a0))
     ·have:=scut9 _ (expV x (n+64)).1 (expV x (n+64)).2 (n+32) y ⟨_,_,rfl,t,u⟩ a3 a4 (by omega) (by omega) ((((v.l c).l p).l j).l k)
      rw[show cutSp ((expV x (n+64)).1,(expV x (n+64)).2) (n+32)=F from Z] at this
      exact this
    ·exact refined2_W pi F.1 F.2 _ _ _ _ ((n+32:Nat):Int) ((n+26:Nat):Int) Q (li.l j).range
      (by rw[show((n+32:Nat):Int)-6=((n+26:Nat):Int) by omega];exact IntWalk.i64_in _ ⟨by omega,by omega⟩)
      (fun y k=>snarrow9 _ F.1 F.2 (n+26) y ⟨_,_,rfl,t.l k,u.l k⟩ X Y r G W (by omega))
theorem log_nrw {x:ak}{n:Nat}(p:x.s=false)(m:x.n≠0)(u:20≤n)(w:n≤600)(h:qT x≠1):
  NrwS (cutSp (lgSp x (n+64) (lnLo (n+64),lnHi (n+64))) (n+32)) (n+26)∧ ∃L:Nat→Rat,(NrN (fun n=>er (L n) n) (fun _=>qT x))∧(∃K,∀n,ab (L n)≤K)∧EvN fun k=>(ivS (cutSp (lgSp x (n+64) (lnLo (n+64),lnHi (n+64))) (n+32))).has (L k):=by
 have l:=ln_fine (k:=n+64) (by omega) (by omega);generalize lnLo (n+64)=c at*;generalize lnHi (n+64)=b at*;obtain⟨L,e,f,g,⟨v,q,r,t⟩,d⟩:=lgSp_any (B:=n+64) (one:=(c,b)) (by omega) (by omega) p m h l;generalize lgSp x (n+64) (c,b)=S at*;have a:=cut_ivS S (n+32) (by omega) d;have o:(ivS S).wd≤p2 (-((n+32:Nat):Int))*ab v:=by rw[show-((n+32:Nat):Int)=32-((n+64:Nat):Int) by omega];exact t
 have:=nrw_cut (aim:=n+32) (by omega) q r o a;rw[show 6-((n+32:Nat):Int)= -((n+26:Nat):Int) by omega] at this
 refine⟨⟨this,Rat.le_trans a.lo (Rat.le_trans d a.hi)⟩,L,e,f, ?_⟩;obtain⟨N,i⟩:=g;exact⟨N,fun k j=>a.has (i k j)⟩
end Go.Proofs.YthhiidikgchdeabGreatDoor
