/- Texts laid together. -/
import Derived.Test.YthhiidikgchdeaaGreatDoorKs41
import Derived.Test.YthhiidikgchdeaaGreatDoorKs42
import Derived.Test.YthhiidikgchdeaaGreatDoorKs43
namespace Go.Proofs.YthhiidikgchdeaaGreatDoor
open Go.RowKit
theorem exp9 (v:Value)(x:ak)(B:Nat)(w:World)(j:Dv w v x)(p:x.n≠0)(fx:RgT 40000 14 x)(f:84≤B)(g:B≤1000)(i:Tab w):
  yC 29 #[v,yi B] w (aeT w (expV x B).1 (expV x B).2):=by
 have m:RgT 40000 14 (sizeT x):=fx;have hI:=expI (x:=sizeT x) f g rfl p m;obtain⟨I,I0,L⟩:=hI;have a0:=pws_rg (nx:=nxE) (by omega) L (B+2) 0 _ _ I0 (by omega);obtain⟨k1,X⟩:=restE_fit (x:=sizeT x) rfl p m f g;have hP:=expS_any (x:=sizeT x) (one:=lnSpan (sizeT x) B) (l:=CxN.la) f g rfl p (expU f g m) CxN.has_la (fun n=>by have:=CxN.la_bd n;rwa [CxN.lnA_real] at this)
 obtain⟨-,q,H,-⟩:=hP;unfold expV;obtain⟨P,o⟩: ∃P,pwsT (restE (sizeT x) B (lnSpan (sizeT x) B)).2 B nxE (B+2) 1 (wTr 1,wTr 1) (wTr 1,wTr 1)=P:=⟨_,rfl⟩;have gP:RgS 400000001 400000004 P:=by rw[←o];exact a0
 have hE:expS (sizeT x) B (lnSpan (sizeT x) B)=upS P ((restE (sizeT x) B (lnSpan (sizeT x) B)).1:Int):=by unfold expS;rw[o]
 rw[hE] at q H⊢;obtain⟨N,Q⟩: ∃N,(restE (sizeT x) B (lnSpan (sizeT x) B)).1=N:=⟨_,rfl⟩;obtain⟨R,F⟩: ∃R,(restE (sizeT x) B (lnSpan (sizeT x) B)).2=R:=⟨_,rfl⟩;have G:=fun v a j=>taken9 v (sizeT x) B a j rfl p m f g
 rw[Q,F] at G;rw[Q] at k1 q H⊢;rw[F] at X o;have a5:(2:Nat)^16=65536:=by decide
 have a6:N<65536:=by omega
 have gU:RgS 410000000 410000000 (upS P (N:Int)):=(gP.up (N:Int)).mono (by omega) (by omega);have n1:(upS P (N:Int)).1.n≠0:=(pos_sign (t:=(upS P (N:Int)).1) q).2;have a4:0<qT (upS P (N:Int)).2:=by
  have Z:0<qT (upS P (N:Int)).1:=q;have a2:qT (upS P (N:Int)).1≤qT (upS P (N:Int)).2:=H
  grind
 have n2:(upS P (N:Int)).2.n≠0:=(pos_sign a4).2;have T: ∀v a,SpanV a v R.1 R.2→Tab a→yC 75 #[v,yi B,.func (.func 76) #[] #[]] a (aeT a P.1 P.2):=fun v a j a3=>by
  have:=powersE nxE R B v a j a3 (X.mono (by omega) (by omega)) (by omega) (by omega) (by rw[←F];exact⟨I,I0,L⟩) (fun k hk=>⟨by show 1<2^30;decide,by
   have:(2:Nat)^30=1073741824:=by decide
   show k+1<2^30
   omega,by show k+1≠0;omega⟩) (fun k d _=>expNext_any k d)
  rwa [o] at this
 have W: ∀no c a,Rd a .u32 (yT no N c) (Dg.dg 4294967296 N)→yC 78 #[yT no N c] a (yR a (.int .u64 (N:Int))):=fun no c a h=>by
  have:=XF _ _ a h (Dg.small_dg _ _ (by omega)) (jq (k:=16) (by omega) (by omega));rw[Dg.vl_dg _ _ (by omega)] at this;refine this.mono ?_;rintro z d ⟨rfl,rfl⟩;exact⟨rfl,Below.refl _ _⟩
 have U: ∀y u C A a,yC 77 #[.agg #[.bool P.1.s,yT y P.1.n u,yi P.1.e,.bool P.2.s,yT C P.2.n A,yi P.2.e],yi (N:Int)] a (yR a (.agg #[.bool P.1.s,yT y P.1.n u,yi (P.1.e+(N:Int)),.bool P.2.s,yT C P.2.n A,yi (P.2.e+(N:Int))])):=fun y u C A a=>by
  obtain⟨-,Z,a2⟩:=(gP.1.fit (by omega) (by omega):Fit9 P.1).all;obtain⟨-,b1,b2⟩:=(gP.2.fit (by omega) (by omega):Fit9 P.2).all;exact spanScaled_W P.1 P.2 _ _ _ _ (N:Int) _ _ a (fun d=>dscaled_W _ _ _ _ _ _ _ d (IntWalk.i64_in _ ⟨by omega,by omega⟩)) (fun d=>dscaled_W _ _ _ _ _ _ _ d (IntWalk.i64_in _ ⟨by omega,by omega⟩))
 obtain⟨s0,rfl,r⟩:=j;obtain⟨O,M,rfl⟩:=r.shape;obtain⟨xs,E,D⟩:=x;simp only at r⊢;have S:IntKind.i64.wrap (N:Int)=(N:Int):=IntWalk.i64_in _ ⟨by omega,by omega⟩
 cases xs
 ·rw[if_neg (by decide)]
  exact exp_pos ⟨false,E,D⟩ O M R.1 R.2 P.1 P.2 N B _ _ w r S (fun a=>dsize_W ⟨false,E,D⟩ _ _ a) (fun a b h=>G _ a ⟨_,rfl,h⟩ (i.l b)) (fun xo xc yo yc a b J K=>T _ a ⟨_,_,rfl,J,K⟩ (i.l b)) (fun no c a _ h=>W no c a h) U
 ·rw[if_pos rfl]
  have g1:RgT 500000000 500000000 (upS P (N:Int)).1:=gU.1.mono (by omega) (by omega);have g2:RgT 500000000 500000000 (upS P (N:Int)).2:=gU.2.mono (by omega) (by omega);have Y:RgT 400000000 400000000 (wTr 1):=(RgT.w 1 1 (by omega)).mono (by omega) (by omega);exact exp_neg ⟨true,E,D⟩ O M R.1 R.2 P.1 P.2 (wTr 1) _ _ N B _ _ w r S (fun a=>dsize_W ⟨true,E,D⟩ _ _ a) (fun a b h=>G _ a ⟨_,rfl,h⟩ (i.l b)) (fun xo xc yo yc a b J K=>T _ a ⟨_,_,rfl,J,K⟩ (i.l b)) (fun no c a _ h=>W no c a h) U
   (fun a _=>swhole9 1 a (by omega)) (fun co cc zo zc y u C A a b hc hz hp hq=>sover9 _ _ (wTr 1) (wTr 1) (upT P.1 (N:Int)) (upT P.2 (N:Int)) B a ⟨_,_,rfl,hc,hz⟩ ⟨_,_,rfl,hp,hq⟩ Y Y g1 g2 n1 n2 (by omega) (by omega) (i.l b))
theorem OL {a b:ak}(c: ∃y,a=bare y)(d: ∃y,b=bare y):dJ (bare (cO a (dB b)))=bJ a b:=by
 obtain⟨y,rfl⟩:=c;obtain⟨z,rfl⟩:=d;rw[tM];exact lP y z
theorem cmp_le {K:Nat}{a b:ak}(f: ∃y,a=bare y)(g: ∃y,b=bare y)(c: -(K:Int)≤a.e)(d: -(K:Int)≤b.e):(V K a≤V K b→dJ (bare (cO a (dB b)))≤0)∧(V K a<V K b→dJ (bare (cO a (dB b)))<0):=by
 rw[OL f g,oY c d];unfold sgn;refine⟨fun h=> ?_,fun h=> ?_⟩
 ·split
  ·omega
  ·rw[if_pos (by omega)];omega
 ·rw[if_neg (by omega),if_pos (by omega)]
  omega
theorem kexp_any (s:Bool)(g:Option Addr)(m:Nat)(xs:List Nat)(e b:Int)(w:World)(hr:Rd w .u32 (.slice g xs.length m) xs)(hs:Dg.Small 4294967296 xs)(v:Tab w):
  yC 9 #[ydV s (.slice g xs.length m) e,yi b] w (BRd w (expOut s xs e b).1 (expOut s xs e b).2.1 (expOut s xs e b).2.2):=by
 have hN:=fun a (c:yB w a)=>number9 s g m xs e b a (hr.l c) hs (v.l c)
 unfold expOut
 by_cases A:numR s xs e b≠0
 ·rw[if_pos A]
  refine(Exp_e1 s g _ m e b _ w A (fun a c=>(hN a c).1 A)).mono ?_
  rintro z a ⟨rfl,c⟩;exact⟨_,_,rfl,aN _ _,aN _ _,c⟩
 ·rw[if_neg A]
  have J:numR s xs e b=0:=by omega
  have q:=fun a (c:yB w a)=>(hN a c).2 J
  have a1:= @fit_exp s xs e b J;have K:=J;unfold numR at K
  by_cases r:aS xs e≠0
  ·rw[if_pos r] at K
   exact absurd K r
  obtain⟨m1,m2,m3,m4,m5⟩:=aO (by omega:aS xs e=0) hs;obtain⟨x,M⟩: ∃x,bare ⟨s,Dg.vl 4294967296 xs,e⟩=x:=⟨_,rfl⟩;have a2:(Dg.dg 4294967296 (Dg.vl 4294967296 xs)).length≤1200:=by rw[m2];exact m3
  have a5:(Dg.dg 4294967296 x.n).length≤1200:=by
   rw[←M];exact Nat.le_trans (aH 4294967296 _ _ (by omega) (FW _)) a2
  have a8:=gf a5;have a9: -20000≤x.e∧x.e≤60000:=by
   have a7:=gZ (Dg.vl 4294967296 xs) 1200 a2;rw[←M];unfold bare
   split
   ·exact⟨by show(-20000:Int)≤0;omega,by show(0:Int)≤60000;omega⟩
   ·exact⟨by show-20000≤e+(tz (Dg.vl 4294967296 xs):Int);omega,by show e+(tz (Dg.vl 4294967296 xs):Int)≤60000;omega⟩
  have fx:Fit9 x:=⟨by omega,by omega⟩;have fw:Fit9 (wTr 12000):=(RgT.w 12000 14 (by decide)).fit (by omega) (by omega);rw[M] at q a1⊢;have C: ∀f d S R a,yB w a→Rd a .u32 (yT f x.n d) (Dg.dg 4294967296 x.n)→Rd a .u32 (.slice S (Dg.dg 4294967296 (wTr 12000).n).length R) (Dg.dg 4294967296 (wTr 12000).n)→yC 22 #[ydV false (yT f x.n d) x.e,.agg #[.bool (wTr 12000).s,.slice S (Dg.dg 4294967296 (wTr 12000).n).length R,yi (wTr 12000).e]] a (yR a (yi (bJ (sizeT x) (wTr 12000)))):=fun f d S R a _ ha c=>dcmp9 _ _ (sizeT x) (wTr 12000) a ⟨_,rfl,ha⟩ ⟨_,rfl,c⟩ (RgT.mono (E:=1000000000) (T:=1000000000) fx (by omega) (by omega)) (fw.mono (by omega) (by omega))
  have D:=fun(f:Option Addr) (d:Nat) (a:World)=>dsize_W x f d a
  by_cases o:0<bJ (sizeT x) (wTr 12000)
  ·rw[if_pos o]
   refine(Exp_e2 x (wTr 12000) s g _ m e b _ w o q D (fun a _=>whole_any 12000 a (by omega)) C).mono ?_
   rintro z a ⟨rfl,c⟩;exact⟨_,_,rfl,aN _ _,aN _ _,c⟩
  ·rw[if_neg o]
   have U: ∀f d a,yB w a→Rd a .u32 (yT f x.n d) (Dg.dg 4294967296 x.n)→yC 24 #[yDV x f d] a (yR a (yi (dJ x))):=fun f d a _ h=>qB _ x a ⟨_,rfl,h⟩
   by_cases i:x.n=0
   ·rw[if_pos i]
    refine Exp_e3 x (wTr 12000) (wTr 1) (wTr 1) (wTr 1) s g _ m e b _ _ 0 w o (by unfold dJ;rw[if_pos i]) q D (fun a _=>whole_any 12000 a (by omega)) C U (fun a _=>swhole9 1 a (by omega)) (fun uo uc vo vc a c hu hv=> ?_)
    have:=sshort9 _ (wTr 1) (wTr 1) a ⟨_,_,rfl,hu,hv⟩ ((RgT.w 1 1 (by omega)).fit (by omega) (by omega)) ((RgT.w 1 1 (by omega)).fit (by omega) (by omega)) (v.l c);rw[short_one] at this;exact this
   ·rw[if_neg i]
    obtain⟨I,b1,b2⟩:=a1 o i;obtain⟨n,hn⟩: ∃n:Nat,b=(n:Int):=⟨b.toNat,by omega⟩;rw[hn,Int.toNat_natCast];rw[hn] at q b1 b2;obtain⟨v1,v2,O,v4⟩:=expV_any (B:=n+64) i I (by omega) (by omega);have L:=expV_fit i I (B:=n+64) (by omega) (by omega);have H:=cut_ivS (expV x (n+64)) (n+32) (by omega) O;obtain⟨r,G⟩:=nrw_pos (aim:=n+32) (by omega) (show(ivS (expV x (n+64))).has (ivS (expV x (n+64))).lo from⟨Rat.le_refl,O⟩) v2 (by rw[show-((n+32:Nat):Int)=32-((n+64:Nat):Int) by omega];exact v4) H
    rw[show 6-((n+32:Nat):Int)= -((n+26:Nat):Int) by omega] at G
    have W:=Rat.le_trans H.lo (Rat.le_trans O H.hi);have hF:=L.cut (b:=n+32) (by omega);obtain⟨F,Z⟩: ∃F,cutSp (expV x (n+64)) (n+32)=F:=⟨_,rfl⟩;rw[Z] at r G W hF⊢;have X:Fit9 F.1:=hF.1.fit (by omega) (by omega);have Y:Fit9 F.2:=hF.2.fit (by omega) (by omega);have a3:Fit9 (expV x (n+64)).1:=L.1.fit (by omega) (by omega);have a4:Fit9 (expV x (n+64)).2:=L.2.fit (by omega) (by omega);refine Exp_W x (wTr 12000) _ _ s g _ m e (n:Int) _ _ _ w o (by unfold dJ;rw[if_neg i];split<;>omega) q D (fun a _=>whole_any 12000 a (by omega)) C U (fun N f d a c la a6=> ?_)
    refine refined_Exp N F.1 F.2 _ _ (n:Int) ((n+32:Nat):Int) ((n+64:Nat):Int) _ a
     (by rw[show(n:Int)+32=((n+32:Nat):Int) by omega];exact IntWalk.i64_in _ ⟨by omega,by omega⟩)
     (by rw[show((n+32:Nat):Int)+32=((n+64:Nat):Int) by omega];exact IntWalk.i64_in _ ⟨by omega,by omega⟩)
     (fun pf pi P p lf li=> ?_) (fun g ac bo bc P p t u=>sshort9 _ F.1 F.2 P ⟨_,_,rfl,t,u⟩ X Y ((v.l c).l p))
    refine refine_once pf pi F.1 F.2 _ P (fun Q j=> ?_) (fun fo fc go gc Q j t u=> ?_)
    ·refine refined1_Exp N pf pi (expV x (n+64)).1 (expV x (n+64)).2 F.1 F.2 _ _ Q (lf.l j).range (li.l j).range (fun y k=> ?_) (fun g ac bo bc y k t u=> ?_)
     ·exact Exp1_W N x f d _ _ _ y (((la.l p).l j).l k).range (fun w5 a0=>exp9 _ x (n+64) w5 ⟨_,rfl,(((a6.l p).l j).l k).l a0⟩ i I (by omega) (by omega) (((((v.l c).l p).l j).l k).l a0))
     ·have:=scut9 _ (expV x (n+64)).1 (expV x (n+64)).2 (n+32) y ⟨_,_,rfl,t,u⟩ a3 a4 (by omega) (by omega) ((((v.l c).l p).l j).l k)
      rw[show cutSp ((expV x (n+64)).1,(expV x (n+64)).2) (n+32)=F from Z] at this
      exact this
    ·exact refined2_W pi F.1 F.2 _ _ _ _ ((n+32:Nat):Int) ((n+26:Nat):Int) Q (li.l j).range
      (by rw[show((n+32:Nat):Int)-6=((n+26:Nat):Int) by omega];exact IntWalk.i64_in _ ⟨by omega,by omega⟩)
      (fun y k=>snarrow9 _ F.1 F.2 (n+26) y ⟨_,_,rfl,t.l k,u.l k⟩ X Y r G W (by omega))
end Go.Proofs.YthhiidikgchdeaaGreatDoor
