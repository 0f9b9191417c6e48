/- Texts laid together. -/
import Derived.Test.YthhiidikgchdeaaGreatDoorKs23
import Derived.Test.YthhiidikgchdeaaGreatDoorKs35
import Derived.Test.YthhiidikgchdeaaGreatDoorKs36
import Derived.Test.YthhiidikgchdeaaGreatDoorKs37
import Derived.Test.YthhiidikgchdeaaGreatDoorKs38
set_option maxRecDepth 100000
set_option maxHeartbeats 3200000
namespace Go.Proofs.YthhiidikgchdeaaGreatDoor
open _root_.Go.Proofs.Tryz
open Go.RowKit
theorem iH (a:ak):bare (bare a)=bare a:=by
 have b: -((a.e.natAbs:Nat):Int)≤a.e:=by omega
 exact fH (eL b) b (dw b)
theorem dx {s t:Bool}{xs c:List Nat}{e f:Int}(h:cu s xs e t c f=0):aS xs e=0∧aS c f=0∧bJ ⟨s,Dg.vl 4294967296 xs,e⟩ ⟨t,Dg.vl 4294967296 c,f⟩≤0:=by
 unfold cu at h
 by_cases d:dQ xs e c f=0
 ·rw[if_pos d] at h
  obtain⟨a,b⟩:=iN d;refine⟨a,b, ?_⟩
  by_cases g:0<dJ (aG ⟨s,Dg.vl 4294967296 xs,e⟩ (dV ⟨t,Dg.vl 4294967296 c,f⟩))
  ·rw[if_pos g] at h;omega
  ·unfold bJ;omega
 ·rw[if_neg d] at h;exact absurd h d
theorem tM (a b:ak):bJ (bare a) (bare b)=bJ a b:=by
 have c: -((a.e.natAbs+b.e.natAbs:Nat):Int)≤a.e:=by omega
 have d: -((a.e.natAbs+b.e.natAbs:Nat):Int)≤b.e:=by omega
 rw[oY c d,oY (eL c) (eL d),dw c,dw d]
theorem taken9 (v:Value)(x:ak)(B:Nat)(w:World)(D:Dv w v x)(hx:x.s=false)(hn:x.n≠0)(g:RgT 40000 14 x)(h1:84≤B)(h2:B≤1000)(M:Tab w):
  yC 73 #[v,yi B,.func (.func 74) #[] #[]] w (KRd w (restE x B (lnSpan x B)).1 (restE x B (lnSpan x B)).2.1 (restE x B (lnSpan x B)).2.2):=by
 have f:Fit9 x:=g.fit (by omega) (by omega);obtain⟨s,rfl,C⟩:=D;obtain⟨j,i,rfl⟩:=C.shape;have G: ∀a,yB w a→Rd a .u32 (yT j x.n i) (Dg.dg 4294967296 x.n)→yC 98 #[yDV x j i] a (yR a (yi ((bitLen x.n:Int)+x.e))):=fun a _ h=>dtop9 _ x a ⟨_,rfl,h⟩ f
 unfold restE
 by_cases c:x.e+(bitLen x.n:Int)<0
 ·rw[if_pos c]
  exact taken_none_ln x j i _ _ _ _ w C (by omega) G (fun a=>Qy _ _ _ _ _ a) (fun a z h=>scut9 _ x x B a ⟨_,_,rfl,h,h⟩ f f (by omega) (by omega) (M.l z))
 ·rw[if_neg c]
  simp only;obtain⟨d,P⟩: ∃d:Nat,x.e+(bitLen x.n:Int)=(d:Int):=⟨(x.e+(bitLen x.n:Int)).toNat,by omega⟩;have a2:d≤14:=by have:=g.2;omega
  unfold lnSpan;rw[P,Int.toNat_natCast];obtain⟨l1,l2,-,-,-⟩:=ln_fine (k:=B+d) (by omega) (by omega);obtain⟨-,-,-,-,p,I⟩:=ln_fits (B+d) (by omega);have U:=fun a=>sln_any (B+d) a (by omega)
  generalize lnLo (B+d)=L at*;generalize lnHi (B+d)=H at*;have Y:(1/2:Rat)≤qT L:=Rat.le_trans half_69 l1;obtain⟨-,S,-⟩:=taken_any x (L,H) d B (by omega) hx hn P Y l2;simp only at S;have r:=often_le S;have a0:L.n≠0:=(pos_sign (t:=L) (by grind)).2;obtain⟨y,F⟩: ∃y,cK x L (d+32)=y:=⟨_,rfl⟩;have glR:=p.rg;have X:RgT 900000000 900000000 y:=by
   rw[←F];exact(g.over (b:=L) (B:=d+32) (by omega)).mono (by have:=glR.2;omega) (by have:=glR.1;omega)
  rw[F] at r⊢;obtain⟨N,K⟩: ∃N,nearT y=N:=⟨_,rfl⟩;rw[K] at r⊢;have Z:N<2^16:=Nat.lt_of_lt_of_le r (Nat.pow_le_pow_right (by omega) (by omega));have gN:=RgT.w N 16 Z;have fN:Fit9 (wTr N):=gN.fit (by omega) (by omega);have m:=RgS.times (s:=(L,H)) (t:=(wTr N,wTr N)) ⟨p.rg,I.rg⟩ ⟨gN,gN⟩;have q:=RgS.plus (s:=(x,x)) (t:=negS (timesS (L,H) (wTr N,wTr N))) (E:=100000) (T:=180000) ⟨g.mono (by omega) (by omega),g.mono (by omega) (by omega)⟩ (m.neg.mono (by omega) (by omega));obtain⟨⟨u,v⟩,Q⟩: ∃t,timesS (L,H) (wTr N,wTr N)=t:=⟨_,rfl⟩;rw[Q] at m q⊢;have J:Fit9 L:=p.rg.fit (by omega) (by omega);have W:Fit9 H:=I.rg.fit (by omega) (by omega);exact taken_some_ln x j i L H y u v (aG x (dV v)) (aG x (dV u)) _ _ N B ((bitLen x.n:Int)+x.e) ((B+d:Nat):Int) ((d+32:Nat):Int) w C (by omega)
   (by rw[show B+((bitLen x.n:Int)+x.e)=((B+d:Nat):Int) by omega];exact IntWalk.i64_in _ ⟨by omega,by omega⟩)
   (by rw[show(bitLen x.n:Int)+x.e+32=((d+32:Nat):Int) by omega];exact IntWalk.i64_in _ ⟨by omega,by omega⟩)
   G (fun a _=>U a)
   (fun po pc a _ o A=>by
    have:=dover9 _ _ x L (d+32) a ⟨_,rfl,o⟩ ⟨_,rfl,A⟩ a0 f J (by omega)
    rwa [F] at this)
   (fun yo yc a _ h=>by
    have:=nearest9 _ y a ⟨_,rfl,h⟩ X
    rwa [K] at this)
   (fun no R a=>l9 _ _ _ _ _ a) (fun no R a=>Qy _ _ _ _ _ a)
   (fun po pc qo qc no R a _ A hq O=>by
    have:=stimes9 _ _ L H (wTr N) (wTr N) a ⟨_,_,rfl,A,hq⟩ ⟨_,_,rfl,O,O⟩ J W fN fN
    rwa [Q] at this)
   (fun a=>Qy _ _ _ _ _ a)
   (fun uo uc vo vc a _ o hu D=>sminus9 _ _ x x u v a ⟨_,_,rfl,o,o⟩ ⟨_,_,rfl,hu,D⟩ f f (m.1.fit (by omega) (by omega)) (m.2.fit (by omega) (by omega)))
   (fun ro rc so sc a z a1 hs=>scut9 _ _ _ B a ⟨_,_,rfl,a1,hs⟩ (q.1.fit (by omega) (by omega)) (q.2.fit (by omega) (by omega)) (by omega) (by omega) (M.l z))
theorem end_cut {E:Int}{A:ak}{n:Nat}(up:Bool)(f: -1120≤A.e)(g:A.e+(bitLen A.n:Int)≤E)(h:0≤E)(i:1≤n∧n≤1000):EndB E (bare (aY A n up)):=by
 obtain⟨c,d⟩:=FQ (b:=(n:Int)) (up:=up) (by omega) f g (by omega) h;have a:=mi A n up (by omega);rw[Int.toNat_natCast] at a;exact⟨c,d,Nat.lt_of_lt_of_le a (two_mono (b:=1000) i.2)⟩
theorem end_short {E:Int}{A:ak}{n:Nat}{up:Bool}(h:EndB E (bare (aY A n up)))(e:E≤20000)(b:1≤n∧n≤1000):bU (aY A n up)=(bare (aY A n up),0):=by
 obtain⟨c,d,-⟩:=h;have a:=mi A n up (by omega);rw[Int.toNat_natCast] at a;exact short_is b.2 a (by omega) (by omega)
theorem qT_bare (t:ak):qT (bare t)=qT t:=by
 have h:=dw (K:=t.e.natAbs) (a:=t) (by omega);have c:=qT_V (K:=t.e.natAbs) (t:=t) (by omega);have b:=qT_V (K:=t.e.natAbs) (t:=bare t) (eL (by omega));rw[h,c] at b;exact qT_inj b.symm
theorem Cos_e3 (x u p q:ak)(s:Bool)(E:Option Addr)(M L:Nat)(e b f er:Int)(w:World)(hf:f=0)
  (k: ∀a,yB w a→yC 46 #[ydV s (.slice E M L) e,yi b] a (NRd a x 0))
  (j: ∀D C a,yB w a→Rd a .u32 (yT D x.n C) (Dg.dg 4294967296 x.n)→yC 24 #[yDV x D C] a (yR a (yi f)))
  (h: ∀a,yB w a→yC 25 #[yi 1] a (aeT a u u))
  (i: ∀S R U T a,yB w a→Rd a .u32 (yT S u.n R) (Dg.dg 4294967296 u.n)→Rd a .u32 (yT U u.n T) (Dg.dg 4294967296 u.n)→yC 26 #[.agg #[.bool u.s,yT S u.n R,yi u.e,.bool u.s,yT U u.n T,yi u.e]] a (BRd a p q er)):
  yC 14 #[ydV s (.slice E M L) e,yi b] w (BRd w p q er):=by
 replace k:Hid _:=k;replace j:Hid _:=j;replace h:Hid _:=h;replace i:Hid _:=i;obtain⟨W4,v,q1,q2,H⟩:=iG w (ydL s (.slice E M L) e) 25 [.bool false,yN,yi 0,.bool false,yN,yi 0] 27;replace v:Hid _:=v
 go_enter func14,ntmps14
 go_upto_region 1 with fail
 rw[v.out];clear v;obtain⟨c6,c7,c8⟩:=q1.cs3
 go_wp2_with fail
 refine(k.out _ H).mono ?_;rintro W w9 ⟨ap,rfl,O,K⟩;have N:=q2.l K;have F:=aa H K;obtain⟨D,C,c⟩:=O.shape;subst c;clear q1 q2 H K k c6 c7 c8;obtain⟨ae,t,Y,m⟩:=cA w9 (yDL x D C) 41;replace t:Hid _:=t;have al:w.heap.size≤w9.heap.size:=F.size;have an:=N.lt;have Z:=N.l m;have Q:=O.l m;have G:=aa F m;clear N O F m
 go_upto_region 2 with fail
 rw[t.out];clear t;obtain⟨a4,a5,a6⟩:=Y.cs3
 go_wp2_with fail
 refine(j.out _ _ _ G Q).mono ?_;rintro W ay ⟨rfl,o⟩;have a0:=Z.l o;have a2:=Q.l o;have I:=aa G o;clear Z Y Q G o j a4 a5 a6
 go_wp2_with fail
 refine(h.out _ I).mono ?_;rintro W az ⟨aq,av,rfl,y,A,r⟩;have a1:=a0.l r;have a3:=a2.l r;have J:=aa I r;obtain⟨S,R,c⟩:=y.shape;subst c;obtain⟨U,T,c⟩:=A.shape;subst c;clear a0 a2 I r h
 go_wp2_with fail
 refine(i.out _ _ _ _ _ J y A).mono ?_;rintro W b0 ⟨ar,ax,rfl,z,B,d⟩;have g:=a1.l d;have a7:=a3.l d;have a8:=y.l d;have a9:=A.l d;have X:=aa J d;obtain⟨po,pc,c⟩:=z.shape;subst c;obtain⟨qo,qc,c⟩:=B.shape;subst c;clear a1 a3 y A J d i;have hf:=fin6 (P:=Tryz.prog) g X (by omega) underlying27 rfl (by kernel_rfl) (.bool p.s) (yT po p.n pc) (yi p.e) (.bool q.s) (yT qo q.n qc) (yi q.e);have HH:Hid (_∧_∧_∧_):=⟨hf.1,hf.2.2.rd z (aX z g (by simp)),hf.2.2.rd B (aX B g (by simp)),hf.2.1⟩;obtain⟨⟨z0,z1,z2,z3,z4,z5⟩,y0,y1,y2,y3,y4,y5⟩:=csf6 g;clear hf g a7 a8 a9 z B X
 go_wp2
 obtain⟨hl,ac,ad,bR⟩:=HH.out;exact bodyPost_ret (aj results14 rfl rfl hl) rfl ⟨_,_,rfl,ac,ad,bR⟩
theorem kernelBegun_W (a b p q:ak)(w:World)
  (r: ∀d,yB w d→yC 9 #[ydV false yN 0,yi 30] d (BRd d a b 0))
  (o: ∀d,yB w d→yC 14 #[ydV false yN 0,yi 30] d (BRd d p q 0))
  (t: ∀m x v d,yB w d→Rd d .u32 (yT x a.n v) (Dg.dg 4294967296 a.n)→au d m 54 [.int .u32 1]→yC 30 #[yDV a x v,ydV false (.slice (some ⟨m,0,none⟩) 1 1) 0] d (yR d (.bool true)))
  (u: ∀m G F d,yB w d→Rd d .u32 (yT G q.n F) (Dg.dg 4294967296 q.n)→au d m 54 [.int .u32 1]→yC 30 #[yDV q G F,ydV false (.slice (some ⟨m,0,none⟩) 1 1) 0] d (yR d (.bool true))):
  yC 10 #[] w (yR w (.bool true)):=by
 replace r:Hid _:=r;replace o:Hid _:=o;replace t:Hid _:=t;replace u:Hid _:=u
 go_enter func10,ntmps10
 have I:=Below.refl w.heap.size w
 go_wp2_with fail
 refine(r.out _ I).mono ?_;rintro Z d ⟨bt,bv,rfl,X,ad,a1⟩;have O:=aa I a1;obtain⟨x,v,g⟩:=X.shape;subst g;obtain⟨bo,bc,g⟩:=ad.shape;subst g;clear I a1 r;obtain⟨bi,B,a3,H⟩:=cA d [.bool a.s,yT x a.n v,yi a.e,.bool b.s,yT bo b.n bc,yi b.e] 27;replace B:Hid _:=B;have bl:w.heap.size≤d.heap.size:=O.size;have a7:=X.l H;have J:=aa O H;clear X ad O H
 go_upto_region 2 with fail
 rw[B.out];clear B
 go_wp2_with fail
 refine(o.out _ J).mono ?_;rintro Z ax ⟨bs,bu,rfl,a8,Y,y⟩;have P:=a3.l y;have a9:=a7.l y;have K:=aa J y;obtain⟨po,pc,g⟩:=a8.shape;subst g;obtain⟨G,F,g⟩:=Y.shape;subst g;clear a3 a7 J y o;obtain⟨j,z,Q,k⟩:=cA ax [.bool p.s,yT po p.n pc,yi p.e,.bool q.s,yT G q.n F,yi q.e] 27;replace z:Hid _:=z;have bm:w.heap.size≤ax.heap.size:=K.size;have bn:=P.lt;have R:=P.l k;have ae:=a9.l k;have al:=Y.l k;have a0:=aa K k;clear P a9 a8 Y K k
 go_upto_region 3 with fail
 rw[z.out];clear z;have bp:=R.lt;have bq:=Q.lt;have h:=af j (.cells #[.int .u32 1] 54);have S:=ah j [.int .u32 1] 54;have T:=R.l h;have U:=Q.l h;have an:=ae.l h;have ap:=al.l h;have L:=aa a0 h;obtain⟨bj,A,C,f⟩:=cA (j.alloc (.cells #[.int .u32 1] 54)) (ydL false (.slice (some ⟨j.heap.size,0,none⟩) 1 1) 0) 25;replace A:Hid _:=A;have be:w.heap.size≤(j.alloc (.cells #[.int .u32 1] 54)).heap.size:=L.size;have bf:=T.lt;have bg:=U.lt;have bh:=S.lt;simp only[World.size_alloc] at C be bf bg bh;have D:=T.l f;have a4:=U.l f;have W:=S.l f;have aq:=an.l f;have ar:=ap.l f;have M:=aa L f;clear T U S an ap L f R Q ae al a0 h
 go_upto_region 4 with fail
 rw[A.out];clear A;have az:=D.c 0 rfl;have b1:=D.c 1 rfl;have b2:=D.c 2 rfl;obtain⟨b3,b4,b5⟩:=C.cs3
 go_wp2_with fail
 refine(t.out _ _ _ _ M aq W).mono ?_;rintro Z bw ⟨rfl,i⟩;have E:=a4.l i;have a5:=W.l i;have a6:=C.l i;have av:=ar.l i;have N:=aa M i;clear D a4 W C aq ar M i t az b1 b2 b3 b4 b5;have b6:=E.c 3 rfl;have b8:=E.c 4 rfl;have b9:=E.c 5 rfl;obtain⟨ba,bb,bd⟩:=a6.cs3
 go_wp2_with fail
 refine(u.out _ _ _ _ N av a5).mono ?_;rintro Z bx ⟨rfl,a2⟩;have ay:=aa N a2;clear E a5 a6 av N a2 u b6 b8 b9 ba bb bd
 go_wp2
 go_ret
 exact⟨by simp,ay⟩
theorem kSums_e0 (s t:Bool)(r u:Option Addr)(U W N O:Nat)(e f:Int)(x a b c z p q:ak)(k m n g h i j:Int)(w:World)(hn:IntKind.i64.wrap (20+m)=n)(hg: ¬g=0)
  (G:yH w 10 #[] (.bool true))
  (H:yH w 16 #[yi k,yi 200] (yi m))
  (F: ∀d,yB w d→yC 17 #[ydV s (.slice r U N) e,ydV t (.slice u W O) f] d (NRd d x g))
  (C: ∀d,yB w d→yC 9 #[ydV s (.slice r U N) e,yi n] d (BRd d a b h))
  (D: ∀d,yB w d→yC 9 #[ydV t (.slice u W O) f,yi n] d (BRd d c z i))
  (E: ∀Y X d,yB w d→Rd d .u32 (yT Y x.n X) (Dg.dg 4294967296 x.n)→yC 9 #[yDV x Y X,yi n] d (BRd d p q j)):
  yC 8 #[ydV s (.slice r U N) e,ydV t (.slice u W O) f,yi k] w (yR w (.bool true)):=by
 replace G:Hid _:=G;replace H:Hid _:=H;replace F:Hid _:=F;replace C:Hid _:=C;replace D:Hid _:=D;replace E:Hid _:=E;obtain⟨W4,Q,q1,q2,b3⟩:=iG w (ydL s (.slice r U N) e) 25 (ydL t (.slice u W O) f) 25;replace Q:Hid _:=Q
 go_enter func8,ntmps8
 go_upto_region 1 with fail
 rw[Q.out];clear Q
 go_wp2_with fail
 refine(G.out _ b3).mono ?_;rintro B w6 ⟨rfl,M⟩;have q8:=q1.l M;have q9:=q2.l M;have Z:=aa b3 M;clear q1 q2 b3 M G
 go_wp2_with fail
 refine(H.out _ Z).mono ?_;rintro B cy ⟨rfl,J⟩;have a8:=q8.l J;have a9:=q9.l J;have a0:=aa Z J;clear q8 q9 Z J H;obtain⟨bm,bn,bp⟩:=a8.cs3;obtain⟨bq,bs,bt⟩:=a9.cs3
 go_wp2_with fail
 refine(F.out _ a0).mono ?_;rintro B bg ⟨cp,rfl,aq,K⟩;have ad:=a8.l K;have ae:=a9.l K;have a1:=aa a0 K;obtain⟨Y,X,o⟩:=aq.shape;subst o;clear a8 a9 a0 K F bm bn bp bq bs bt;obtain⟨c7,P,ax,v⟩:=cA bg (yDL x Y X) 25;replace P:Hid _:=P;have ce:w.heap.size≤bg.heap.size:=a1.size;have cg:=ad.lt;have ch:=ae.lt;have ay:=ad.l v;have az:=ae.l v;have ba:=aq.l v;have a2:=aa a1 v;clear ad ae aq a1 v
 go_upto_region 5 with fail
 rw[P.out];clear P;obtain⟨bu,bv,bw⟩:=ay.cs3
 go_wp2_with fail
 refine(C.out _ a2).mono ?_;rintro B bh ⟨cr,cv,rfl,b4,b7,A⟩;have al:=az.l A;have an:=ax.l A;have bb:=ba.l A;have a3:=aa a2 A;obtain⟨r,ac,o⟩:=b4.shape;subst o;obtain⟨u,bc,o⟩:=b7.shape;subst o;clear ay az ax ba a2 A C bu bv bw;obtain⟨c8,R,c4,y⟩:=cA bh [.bool a.s,yT r a.n ac,yi a.e,.bool b.s,yT u b.n bc,yi b.e] 27;replace R:Hid _:=R;have ci:w.heap.size≤bh.heap.size:=a3.size;have cj:=al.lt;have ck:=an.lt;have b0:=al.l y;have b1:=an.l y;have bd:=bb.l y;have a4:=aa a3 y;clear al an bb b4 b7 a3 y c4
 go_upto_region 6 with fail
 rw[R.out];clear R;obtain⟨bx,bz,c0⟩:=b0.cs3
 go_wp2_with fail
 refine(D.out _ a4).mono ?_;rintro B bi ⟨cs,cw,rfl,b5,b8,L⟩;have ap:=b1.l L;have be:=bd.l L;have a5:=aa a4 L;obtain⟨co,cc,o⟩:=b5.shape;subst o;obtain⟨zo,zc,o⟩:=b8.shape;subst o;clear b0 b1 bd a4 L D bx bz c0;obtain⟨c9,S,c5,I⟩:=cA bi [.bool c.s,yT co c.n cc,yi c.e,.bool z.s,yT zo z.n zc,yi z.e] 27;replace S:Hid _:=S;have cl:w.heap.size≤bi.heap.size:=a5.size;have cm:=ap.lt;have b2:=ap.l I;have bf:=be.l I;have a6:=aa a5 I;clear ap be b5 b8 a5 I c5
 go_upto_region 7 with fail
 rw[S.out];clear S;obtain⟨c1,c2,c3⟩:=b2.cs3
 go_wp2_with fail
 refine(E.out _ _ _ a6 bf).mono ?_;rintro B bj ⟨ct,cx,rfl,b6,b9,av⟩;have a7:=aa a6 av;obtain⟨po,pc,o⟩:=b6.shape;subst o;obtain⟨qo,qc,o⟩:=b9.shape;subst o;clear b2 bf a6 av E c1 c2 c3;obtain⟨cd,T,c6,ar⟩:=cA bj [.bool p.s,yT po p.n pc,yi p.e,.bool q.s,yT qo q.n qc,yi q.e] 27;replace T:Hid _:=T;have cn:w.heap.size≤bj.heap.size:=a7.size;have bl:=aa a7 ar;clear b6 b9 a7 ar c6
 go_upto_region 8 with fail
 rw[T.out];clear T
 go_wp2
 go_ret
 exact⟨by simp,bl⟩
theorem kSums_e1 (s t:Bool)(r u:Option Addr)(U W N O:Nat)(e f:Int)(x a b c z p q:ak)(k m n g h i j:Int)(w:World)(hn:IntKind.i64.wrap (20+m)=n)(hg:g=0)(hh: ¬h=0)
  (G:yH w 10 #[] (.bool true))
  (H:yH w 16 #[yi k,yi 200] (yi m))
  (F: ∀d,yB w d→yC 17 #[ydV s (.slice r U N) e,ydV t (.slice u W O) f] d (NRd d x g))
  (C: ∀d,yB w d→yC 9 #[ydV s (.slice r U N) e,yi n] d (BRd d a b h))
  (D: ∀d,yB w d→yC 9 #[ydV t (.slice u W O) f,yi n] d (BRd d c z i))
  (E: ∀Y X d,yB w d→Rd d .u32 (yT Y x.n X) (Dg.dg 4294967296 x.n)→yC 9 #[yDV x Y X,yi n] d (BRd d p q j)):
  yC 8 #[ydV s (.slice r U N) e,ydV t (.slice u W O) f,yi k] w (yR w (.bool true)):=by
 replace G:Hid _:=G;replace H:Hid _:=H;replace F:Hid _:=F;replace C:Hid _:=C;replace D:Hid _:=D;replace E:Hid _:=E;obtain⟨W4,Q,q1,q2,b3⟩:=iG w (ydL s (.slice r U N) e) 25 (ydL t (.slice u W O) f) 25;replace Q:Hid _:=Q
 go_enter func8,ntmps8
 go_upto_region 1 with fail
 rw[Q.out];clear Q
 go_wp2_with fail
 refine(G.out _ b3).mono ?_;rintro B w6 ⟨rfl,M⟩;have q8:=q1.l M;have q9:=q2.l M;have Z:=aa b3 M;clear q1 q2 b3 M G
 go_wp2_with fail
 refine(H.out _ Z).mono ?_;rintro B cy ⟨rfl,J⟩;have a8:=q8.l J;have a9:=q9.l J;have a0:=aa Z J;clear q8 q9 Z J H;obtain⟨bm,bn,bp⟩:=a8.cs3;obtain⟨bq,bs,bt⟩:=a9.cs3
 go_wp2_with fail
 refine(F.out _ a0).mono ?_;rintro B bg ⟨cp,rfl,aq,K⟩;have ad:=a8.l K;have ae:=a9.l K;have a1:=aa a0 K;obtain⟨Y,X,o⟩:=aq.shape;subst o;clear a8 a9 a0 K F bm bn bp bq bs bt;obtain⟨c7,P,ax,v⟩:=cA bg (yDL x Y X) 25;replace P:Hid _:=P;have ce:w.heap.size≤bg.heap.size:=a1.size;have cg:=ad.lt;have ch:=ae.lt;have ay:=ad.l v;have az:=ae.l v;have ba:=aq.l v;have a2:=aa a1 v;clear ad ae aq a1 v
 go_upto_region 5 with fail
 rw[P.out];clear P;obtain⟨bu,bv,bw⟩:=ay.cs3
 go_wp2_with fail
 refine(C.out _ a2).mono ?_;rintro B bh ⟨cr,cv,rfl,b4,b7,A⟩;have al:=az.l A;have an:=ax.l A;have bb:=ba.l A;have a3:=aa a2 A;obtain⟨r,ac,o⟩:=b4.shape;subst o;obtain⟨u,bc,o⟩:=b7.shape;subst o;clear ay az ax ba a2 A C bu bv bw;obtain⟨c8,R,c4,y⟩:=cA bh [.bool a.s,yT r a.n ac,yi a.e,.bool b.s,yT u b.n bc,yi b.e] 27;replace R:Hid _:=R;have ci:w.heap.size≤bh.heap.size:=a3.size;have cj:=al.lt;have ck:=an.lt;have b0:=al.l y;have b1:=an.l y;have bd:=bb.l y;have a4:=aa a3 y;clear al an bb b4 b7 a3 y c4
 go_upto_region 6 with fail
 rw[R.out];clear R;obtain⟨bx,bz,c0⟩:=b0.cs3
 go_wp2_with fail
 refine(D.out _ a4).mono ?_;rintro B bi ⟨cs,cw,rfl,b5,b8,L⟩;have ap:=b1.l L;have be:=bd.l L;have a5:=aa a4 L;obtain⟨co,cc,o⟩:=b5.shape;subst o;obtain⟨zo,zc,o⟩:=b8.shape;subst o;clear b0 b1 bd a4 L D bx bz c0;obtain⟨c9,S,c5,I⟩:=cA bi [.bool c.s,yT co c.n cc,yi c.e,.bool z.s,yT zo z.n zc,yi z.e] 27;replace S:Hid _:=S;have cl:w.heap.size≤bi.heap.size:=a5.size;have cm:=ap.lt;have b2:=ap.l I;have bf:=be.l I;have a6:=aa a5 I;clear ap be b5 b8 a5 I c5
 go_upto_region 7 with fail
 rw[S.out];clear S;obtain⟨c1,c2,c3⟩:=b2.cs3
 go_wp2_with fail
 refine(E.out _ _ _ a6 bf).mono ?_;rintro B bj ⟨ct,cx,rfl,b6,b9,av⟩;have a7:=aa a6 av;obtain⟨po,pc,o⟩:=b6.shape;subst o;obtain⟨qo,qc,o⟩:=b9.shape;subst o;clear b2 bf a6 av E c1 c2 c3;obtain⟨cd,T,c6,ar⟩:=cA bj [.bool p.s,yT po p.n pc,yi p.e,.bool q.s,yT qo q.n qc,yi q.e] 27;replace T:Hid _:=T;have cn:w.heap.size≤bj.heap.size:=a7.size;have bl:=aa a7 ar;clear b6 b9 a7 ar c6
 go_upto_region 8 with fail
 rw[T.out];clear T
 go_wp2
 go_ret
 exact⟨by simp,bl⟩
theorem kSums_e2 (s t:Bool)(r u:Option Addr)(U W N O:Nat)(e f:Int)(x a b c z p q:ak)(k m n g h i j:Int)(w:World)(hn:IntKind.i64.wrap (20+m)=n)(hg:g=0)(hh:h=0)(hi: ¬i=0)
  (G:yH w 10 #[] (.bool true))
  (H:yH w 16 #[yi k,yi 200] (yi m))
  (F: ∀d,yB w d→yC 17 #[ydV s (.slice r U N) e,ydV t (.slice u W O) f] d (NRd d x g))
  (C: ∀d,yB w d→yC 9 #[ydV s (.slice r U N) e,yi n] d (BRd d a b h))
  (D: ∀d,yB w d→yC 9 #[ydV t (.slice u W O) f,yi n] d (BRd d c z i))
  (E: ∀Y X d,yB w d→Rd d .u32 (yT Y x.n X) (Dg.dg 4294967296 x.n)→yC 9 #[yDV x Y X,yi n] d (BRd d p q j)):
  yC 8 #[ydV s (.slice r U N) e,ydV t (.slice u W O) f,yi k] w (yR w (.bool true)):=by
 replace G:Hid _:=G;replace H:Hid _:=H;replace F:Hid _:=F;replace C:Hid _:=C;replace D:Hid _:=D;replace E:Hid _:=E;obtain⟨W4,Q,q1,q2,b3⟩:=iG w (ydL s (.slice r U N) e) 25 (ydL t (.slice u W O) f) 25;replace Q:Hid _:=Q
 go_enter func8,ntmps8
 go_upto_region 1 with fail
 rw[Q.out];clear Q
 go_wp2_with fail
 refine(G.out _ b3).mono ?_;rintro B w6 ⟨rfl,M⟩;have q8:=q1.l M;have q9:=q2.l M;have Z:=aa b3 M;clear q1 q2 b3 M G
 go_wp2_with fail
 refine(H.out _ Z).mono ?_;rintro B cy ⟨rfl,J⟩;have a8:=q8.l J;have a9:=q9.l J;have a0:=aa Z J;clear q8 q9 Z J H;obtain⟨bm,bn,bp⟩:=a8.cs3;obtain⟨bq,bs,bt⟩:=a9.cs3
 go_wp2_with fail
 refine(F.out _ a0).mono ?_;rintro B bg ⟨cp,rfl,aq,K⟩;have ad:=a8.l K;have ae:=a9.l K;have a1:=aa a0 K;obtain⟨Y,X,o⟩:=aq.shape;subst o;clear a8 a9 a0 K F bm bn bp bq bs bt;obtain⟨c7,P,ax,v⟩:=cA bg (yDL x Y X) 25;replace P:Hid _:=P;have ce:w.heap.size≤bg.heap.size:=a1.size;have cg:=ad.lt;have ch:=ae.lt;have ay:=ad.l v;have az:=ae.l v;have ba:=aq.l v;have a2:=aa a1 v;clear ad ae aq a1 v
 go_upto_region 5 with fail
 rw[P.out];clear P;obtain⟨bu,bv,bw⟩:=ay.cs3
 go_wp2_with fail
 refine(C.out _ a2).mono ?_;rintro B bh ⟨cr,cv,rfl,b4,b7,A⟩;have al:=az.l A;have an:=ax.l A;have bb:=ba.l A;have a3:=aa a2 A;obtain⟨r,ac,o⟩:=b4.shape;subst o;obtain⟨u,bc,o⟩:=b7.shape;subst o;clear ay az ax ba a2 A C bu bv bw;obtain⟨c8,R,c4,y⟩:=cA bh [.bool a.s,yT r a.n ac,yi a.e,.bool b.s,yT u b.n bc,yi b.e] 27;replace R:Hid _:=R;have ci:w.heap.size≤bh.heap.size:=a3.size;have cj:=al.lt;have ck:=an.lt;have b0:=al.l y;have b1:=an.l y;have bd:=bb.l y;have a4:=aa a3 y;clear al an bb b4 b7 a3 y c4
 go_upto_region 6 with fail
 rw[R.out];clear R;obtain⟨bx,bz,c0⟩:=b0.cs3
 go_wp2_with fail
 refine(D.out _ a4).mono ?_;rintro B bi ⟨cs,cw,rfl,b5,b8,L⟩;have ap:=b1.l L;have be:=bd.l L;have a5:=aa a4 L;obtain⟨co,cc,o⟩:=b5.shape;subst o;obtain⟨zo,zc,o⟩:=b8.shape;subst o;clear b0 b1 bd a4 L D bx bz c0;obtain⟨c9,S,c5,I⟩:=cA bi [.bool c.s,yT co c.n cc,yi c.e,.bool z.s,yT zo z.n zc,yi z.e] 27;replace S:Hid _:=S;have cl:w.heap.size≤bi.heap.size:=a5.size;have cm:=ap.lt;have b2:=ap.l I;have bf:=be.l I;have a6:=aa a5 I;clear ap be b5 b8 a5 I c5
 go_upto_region 7 with fail
 rw[S.out];clear S;obtain⟨c1,c2,c3⟩:=b2.cs3
 go_wp2_with fail
 refine(E.out _ _ _ a6 bf).mono ?_;rintro B bj ⟨ct,cx,rfl,b6,b9,av⟩;have a7:=aa a6 av;obtain⟨po,pc,o⟩:=b6.shape;subst o;obtain⟨qo,qc,o⟩:=b9.shape;subst o;clear b2 bf a6 av E c1 c2 c3;obtain⟨cd,T,c6,ar⟩:=cA bj [.bool p.s,yT po p.n pc,yi p.e,.bool q.s,yT qo q.n qc,yi q.e] 27;replace T:Hid _:=T;have cn:w.heap.size≤bj.heap.size:=a7.size;have bl:=aa a7 ar;clear b6 b9 a7 ar c6
 go_upto_region 8 with fail
 rw[T.out];clear T
 go_wp2
 go_ret
 exact⟨by simp,bl⟩
theorem kSums_e3 (s t:Bool)(r u:Option Addr)(U W N O:Nat)(e f:Int)(x a b c z p q:ak)(k m n g h i j:Int)(w:World)(hn:IntKind.i64.wrap (20+m)=n)(hg:g=0)(hh:h=0)(hi:i=0)(hj: ¬j=0)
  (G:yH w 10 #[] (.bool true))
  (H:yH w 16 #[yi k,yi 200] (yi m))
  (F: ∀d,yB w d→yC 17 #[ydV s (.slice r U N) e,ydV t (.slice u W O) f] d (NRd d x g))
  (C: ∀d,yB w d→yC 9 #[ydV s (.slice r U N) e,yi n] d (BRd d a b h))
  (D: ∀d,yB w d→yC 9 #[ydV t (.slice u W O) f,yi n] d (BRd d c z i))
  (E: ∀Y X d,yB w d→Rd d .u32 (yT Y x.n X) (Dg.dg 4294967296 x.n)→yC 9 #[yDV x Y X,yi n] d (BRd d p q j)):
  yC 8 #[ydV s (.slice r U N) e,ydV t (.slice u W O) f,yi k] w (yR w (.bool true)):=by
 replace G:Hid _:=G;replace H:Hid _:=H;replace F:Hid _:=F;replace C:Hid _:=C;replace D:Hid _:=D;replace E:Hid _:=E;obtain⟨W4,Q,q1,q2,b3⟩:=iG w (ydL s (.slice r U N) e) 25 (ydL t (.slice u W O) f) 25;replace Q:Hid _:=Q
 go_enter func8,ntmps8
 go_upto_region 1 with fail
 rw[Q.out];clear Q
 go_wp2_with fail
 refine(G.out _ b3).mono ?_;rintro B w6 ⟨rfl,M⟩;have q8:=q1.l M;have q9:=q2.l M;have Z:=aa b3 M;clear q1 q2 b3 M G
 go_wp2_with fail
 refine(H.out _ Z).mono ?_;rintro B cy ⟨rfl,J⟩;have a8:=q8.l J;have a9:=q9.l J;have a0:=aa Z J;clear q8 q9 Z J H;obtain⟨bm,bn,bp⟩:=a8.cs3;obtain⟨bq,bs,bt⟩:=a9.cs3
 go_wp2_with fail
 refine(F.out _ a0).mono ?_;rintro B bg ⟨cp,rfl,aq,K⟩;have ad:=a8.l K;have ae:=a9.l K;have a1:=aa a0 K;obtain⟨Y,X,o⟩:=aq.shape;subst o;clear a8 a9 a0 K F bm bn bp bq bs bt;obtain⟨c7,P,ax,v⟩:=cA bg (yDL x Y X) 25;replace P:Hid _:=P;have ce:w.heap.size≤bg.heap.size:=a1.size;have cg:=ad.lt;have ch:=ae.lt;have ay:=ad.l v;have az:=ae.l v;have ba:=aq.l v;have a2:=aa a1 v;clear ad ae aq a1 v
 go_upto_region 5 with fail
 rw[P.out];clear P;obtain⟨bu,bv,bw⟩:=ay.cs3
 go_wp2_with fail
 refine(C.out _ a2).mono ?_;rintro B bh ⟨cr,cv,rfl,b4,b7,A⟩;have al:=az.l A;have an:=ax.l A;have bb:=ba.l A;have a3:=aa a2 A;obtain⟨r,ac,o⟩:=b4.shape;subst o;obtain⟨u,bc,o⟩:=b7.shape;subst o;clear ay az ax ba a2 A C bu bv bw;obtain⟨c8,R,c4,y⟩:=cA bh [.bool a.s,yT r a.n ac,yi a.e,.bool b.s,yT u b.n bc,yi b.e] 27;replace R:Hid _:=R;have ci:w.heap.size≤bh.heap.size:=a3.size;have cj:=al.lt;have ck:=an.lt;have b0:=al.l y;have b1:=an.l y;have bd:=bb.l y;have a4:=aa a3 y;clear al an bb b4 b7 a3 y c4
 go_upto_region 6 with fail
 rw[R.out];clear R;obtain⟨bx,bz,c0⟩:=b0.cs3
 go_wp2_with fail
 refine(D.out _ a4).mono ?_;rintro B bi ⟨cs,cw,rfl,b5,b8,L⟩;have ap:=b1.l L;have be:=bd.l L;have a5:=aa a4 L;obtain⟨co,cc,o⟩:=b5.shape;subst o;obtain⟨zo,zc,o⟩:=b8.shape;subst o;clear b0 b1 bd a4 L D bx bz c0;obtain⟨c9,S,c5,I⟩:=cA bi [.bool c.s,yT co c.n cc,yi c.e,.bool z.s,yT zo z.n zc,yi z.e] 27;replace S:Hid _:=S;have cl:w.heap.size≤bi.heap.size:=a5.size;have cm:=ap.lt;have b2:=ap.l I;have bf:=be.l I;have a6:=aa a5 I;clear ap be b5 b8 a5 I c5
 go_upto_region 7 with fail
 rw[S.out];clear S;obtain⟨c1,c2,c3⟩:=b2.cs3
 go_wp2_with fail
 refine(E.out _ _ _ a6 bf).mono ?_;rintro B bj ⟨ct,cx,rfl,b6,b9,av⟩;have a7:=aa a6 av;obtain⟨po,pc,o⟩:=b6.shape;subst o;obtain⟨qo,qc,o⟩:=b9.shape;subst o;clear b2 bf a6 av E c1 c2 c3;obtain⟨cd,T,c6,ar⟩:=cA bj [.bool p.s,yT po p.n pc,yi p.e,.bool q.s,yT qo q.n qc,yi q.e] 27;replace T:Hid _:=T;have cn:w.heap.size≤bj.heap.size:=a7.size;have bl:=aa a7 ar;clear b6 b9 a7 ar c6
 go_upto_region 8 with fail
 rw[T.out];clear T
 go_wp2
 go_ret
 exact⟨by simp,bl⟩
theorem kSums_e4 (s t:Bool)(A B:Option Addr)(la lb W X:Nat)(e f:Int)(x a b c z p q u v:ak)(k m n g h i j r l:Int)(w:World)(hn:IntKind.i64.wrap (20+m)=n)(hg:g=0)(hh:h=0)(hi:i=0)(hj:j=0)(hl:IntKind.i64.wrap (n+10)=l)(hr: ¬r=0)
  (O:yH w 10 #[] (.bool true))
  (P:yH w 16 #[yi k,yi 200] (yi m))
  (N: ∀d,yB w d→yC 17 #[ydV s (.slice A la W) e,ydV t (.slice B lb X) f] d (NRd d x g))
  (J: ∀d,yB w d→yC 9 #[ydV s (.slice A la W) e,yi n] d (BRd d a b h))
  (K: ∀d,yB w d→yC 9 #[ydV t (.slice B lb X) f,yi n] d (BRd d c z i))
  (L: ∀xo xc d,yB w d→Rd d .u32 (yT xo x.n xc) (Dg.dg 4294967296 x.n)→yC 9 #[yDV x xo xc,yi n] d (BRd d p q j))
  (M: ∀A Q B U Z Y zo zc d,yB w d→Rd d .u32 (yT A a.n Q) (Dg.dg 4294967296 a.n)→Rd d .u32 (yT B b.n U) (Dg.dg 4294967296 b.n)→Rd d .u32 (yT Z c.n Y) (Dg.dg 4294967296 c.n)→Rd d .u32 (yT zo z.n zc) (Dg.dg 4294967296 z.n)→yC 18 #[.agg #[.bool a.s,yT A a.n Q,yi a.e,.bool b.s,yT B b.n U,yi b.e],.agg #[.bool c.s,yT Z c.n Y,yi c.e,.bool z.s,yT zo z.n zc,yi z.e],yi l] d (BRd d u v r)):
  yC 8 #[ydV s (.slice A la W) e,ydV t (.slice B lb X) f,yi k] w (yR w (.bool true)):=by
 replace O:Hid _:=O;replace P:Hid _:=P;replace N:Hid _:=N;replace J:Hid _:=J;replace K:Hid _:=K;replace L:Hid _:=L;replace M:Hid _:=M;obtain⟨W4,a3,q1,q2,b3⟩:=iG w (ydL s (.slice A la W) e) 25 (ydL t (.slice B lb X) f) 25;replace a3:Hid _:=a3
 go_enter func8,ntmps8
 go_upto_region 1 with fail
 rw[a3.out];clear a3
 go_wp2_with fail
 refine(O.out _ b3).mono ?_;rintro G w6 ⟨rfl,T⟩;have q8:=q1.l T;have q9:=q2.l T;have a6:=aa b3 T;clear q1 q2 b3 T O
 go_wp2_with fail
 refine(P.out _ a6).mono ?_;rintro G ey ⟨rfl,R⟩;have ay:=q8.l R;have az:=q9.l R;have ad:=aa a6 R;clear q8 q9 a6 R P;obtain⟨d9,da,db⟩:=ay.cs3;obtain⟨dc,dd,dl⟩:=az.cs3
 go_wp2_with fail
 refine(N.out _ ad).mono ?_;rintro G cp ⟨eo,rfl,b7,S⟩;have b0:=ay.l S;have b1:=az.l S;have ae:=aa ad S;obtain⟨xo,xc,o⟩:=b7.shape;subst o;clear ay az ad S N d9 da db dc dd dl;obtain⟨e6,a2,bh,H⟩:=cA cp (yDL x xo xc) 25;replace a2:Hid _:=a2;have ed:w.heap.size≤cp.heap.size:=ae.size;have ee:=b0.lt;have ef:=b1.lt;have bi:=b0.l H;have bj:=b1.l H;have c6:=b7.l H;have al:=aa ae H;clear b0 b1 b7 ae H
 go_upto_region 5 with fail
 rw[a2.out];clear a2;obtain⟨dn,dp,dq⟩:=bi.cs3
 go_wp2_with fail
 refine(J.out _ al).mono ?_;rintro G cr ⟨ep,ev,rfl,b8,ba,I⟩;have b2:=bj.l I;have b4:=bh.l I;have c7:=c6.l I;have an:=aa al I;obtain⟨A,Q,o⟩:=b8.shape;subst o;obtain⟨B,U,o⟩:=ba.shape;subst o;clear bi bj bh c6 al I J dn dp dq;obtain⟨e7,a4,bl,E⟩:=cA cr [.bool a.s,yT A a.n Q,yi a.e,.bool b.s,yT B b.n U,yi b.e] 27;replace a4:Hid _:=a4;have eg:w.heap.size≤cr.heap.size:=an.size;have eh:=b2.lt;have ei:=b4.lt;have bm:=b2.l E;have bn:=b4.l E;have c8:=c7.l E;have c9:=b8.l E;have cd:=ba.l E;have ap:=aa an E;clear b2 b4 c7 b8 ba an E
 go_upto_region 6 with fail
 rw[a4.out];clear a4;obtain⟨ds,dt,dv⟩:=bm.cs3
 go_wp2_with fail
 refine(K.out _ ap).mono ?_;rintro G cs ⟨es,ex,rfl,b9,bb,F⟩;have b5:=bn.l F;have b6:=bl.l F;have ce:=c8.l F;have cg:=c9.l F;have ch:=cd.l F;have aq:=aa ap F;obtain⟨Z,Y,o⟩:=b9.shape;subst o;obtain⟨zo,zc,o⟩:=bb.shape;subst o;clear bm bn bl c8 c9 cd ap F K ds dt dv;obtain⟨e8,a5,bp,y⟩:=cA cs [.bool c.s,yT Z c.n Y,yi c.e,.bool z.s,yT zo z.n zc,yi z.e] 27;replace a5:Hid _:=a5;have ej:w.heap.size≤cs.heap.size:=aq.size;have ek:=b5.lt;have el:=b6.lt;have bq:=b5.l y;have bs:=b6.l y;have ci:=ce.l y;have cj:=cg.l y;have ck:=ch.l y;have cl:=b9.l y;have cm:=bb.l y;have ar:=aa aq y;clear b5 b6 ce cg ch b9 bb aq y
 go_upto_region 7 with fail
 rw[a5.out];clear a5;obtain⟨dy,e0,e1⟩:=bq.cs3
 go_wp2_with fail
 refine(L.out _ _ _ ar ci).mono ?_;rintro G ct ⟨em,et,rfl,c2,c4,D⟩;have av:=bs.l D;have ax:=bp.l D;have bt:=cj.l D;have bu:=ck.l D;have bv:=cl.l D;have bw:=cm.l D;have a7:=aa ar D;obtain⟨po,pc,o⟩:=c2.shape;subst o;obtain⟨qo,qc,o⟩:=c4.shape;subst o;clear bq bs bp ci cj ck cl cm ar D L dy e0 e1;obtain⟨e4,a0,e2,C⟩:=cA ct [.bool p.s,yT po p.n pc,yi p.e,.bool q.s,yT qo q.n qc,yi q.e] 27;replace a0:Hid _:=a0;have e9:w.heap.size≤ct.heap.size:=a7.size;have ea:=av.lt;have eb:=ax.lt;have bf:=av.l C;have bg:=ax.l C;have bx:=bt.l C;have bz:=bu.l C;have c0:=bv.l C;have c1:=bw.l C;have a8:=aa a7 C;clear av ax bt bu bv bw c2 c4 a7 C e2
 go_upto_region 8 with fail
 rw[a0.out];clear a0;obtain⟨cw,cx,cy,cz,d0,d1⟩:=bf.cs6;obtain⟨d2,d3,d4,d5,d6,d7⟩:=bg.cs6
 go_wp2_with fail
 refine(M.out _ _ _ _ _ _ _ _ _ a8 bx bz c0 c1).mono ?_;rintro G cn ⟨en,eu,rfl,c3,c5,be⟩;have a9:=aa a8 be;obtain⟨uo,uc,o⟩:=c3.shape;subst o;obtain⟨vo,vc,o⟩:=c5.shape;subst o;clear bf bg bx bz c0 c1 a8 be M cw cx cy cz d0 d1 d2 d3 d4 d5 d6 d7;obtain⟨e5,a1,e3,bd⟩:=cA cn [.bool u.s,yT uo u.n uc,yi u.e,.bool v.s,yT vo v.n vc,yi v.e] 27;replace a1:Hid _:=a1;have ec:w.heap.size≤cn.heap.size:=a9.size;have cv:=aa a9 bd;clear c3 c5 a9 bd e3
 go_upto_region 11 with fail
 rw[a1.out];clear a1
 go_wp2
 go_ret
 exact⟨by simp,cv⟩
theorem kSums_W (s t:Bool)(B C:Option Addr)(la lb Z cb:Nat)(e f:Int)(x a b c z p q u v:ak)(k m n g h i j r l:Int)(w:World)(hn:IntKind.i64.wrap (20+m)=n)(hg:g=0)(hh:h=0)(hi:i=0)(hj:j=0)(hl:IntKind.i64.wrap (n+10)=l)(hr:r=0)
  (R:yH w 10 #[] (.bool true))
  (S:yH w 16 #[yi k,yi 200] (yi m))
  (Q: ∀d,yB w d→yC 17 #[ydV s (.slice B la Z) e,ydV t (.slice C lb cb) f] d (NRd d x g))
  (L: ∀d,yB w d→yC 9 #[ydV s (.slice B la Z) e,yi n] d (BRd d a b h))
  (M: ∀d,yB w d→yC 9 #[ydV t (.slice C lb cb) f,yi n] d (BRd d c z i))
  (N: ∀xo xc d,yB w d→Rd d .u32 (yT xo x.n xc) (Dg.dg 4294967296 x.n)→yC 9 #[yDV x xo xc,yi n] d (BRd d p q j))
  (O: ∀B T C Y co cc zo zc d,yB w d→Rd d .u32 (yT B a.n T) (Dg.dg 4294967296 a.n)→Rd d .u32 (yT C b.n Y) (Dg.dg 4294967296 b.n)→Rd d .u32 (yT co c.n cc) (Dg.dg 4294967296 c.n)→Rd d .u32 (yT zo z.n zc) (Dg.dg 4294967296 z.n)→yC 18 #[.agg #[.bool a.s,yT B a.n T,yi a.e,.bool b.s,yT C b.n Y,yi b.e],.agg #[.bool c.s,yT co c.n cc,yi c.e,.bool z.s,yT zo z.n zc,yi z.e],yi l] d (BRd d u v r))
  (P: ∀uo uc vo vc po pc qo qc d,yB w d→Rd d .u32 (yT uo u.n uc) (Dg.dg 4294967296 u.n)→Rd d .u32 (yT vo v.n vc) (Dg.dg 4294967296 v.n)→Rd d .u32 (yT po p.n pc) (Dg.dg 4294967296 p.n)→Rd d .u32 (yT qo q.n qc) (Dg.dg 4294967296 q.n)→yC 19 #[.agg #[.bool u.s,yT uo u.n uc,yi u.e,.bool v.s,yT vo v.n vc,yi v.e],.agg #[.bool p.s,yT po p.n pc,yi p.e,.bool q.s,yT qo q.n qc,yi q.e]] d (yR d (.bool true))):
  yC 8 #[ydV s (.slice B la Z) e,ydV t (.slice C lb cb) f,yi k] w (yR w (.bool true)):=by
 replace R:Hid _:=R;replace S:Hid _:=S;replace Q:Hid _:=Q;replace L:Hid _:=L;replace M:Hid _:=M;replace N:Hid _:=N;replace O:Hid _:=O;replace P:Hid _:=P;obtain⟨W4,a3,q1,q2,b3⟩:=iG w (ydL s (.slice B la Z) e) 25 (ydL t (.slice C lb cb) f) 25;replace a3:Hid _:=a3
 go_enter func8,ntmps8
 go_upto_region 1 with fail
 rw[a3.out];clear a3
 go_wp2_with fail
 refine(R.out _ b3).mono ?_;rintro H w6 ⟨rfl,X⟩;have q8:=q1.l X;have q9:=q2.l X;have a6:=aa b3 X;clear q1 q2 b3 X R
 go_wp2_with fail
 refine(S.out _ a6).mono ?_;rintro H fo ⟨rfl,U⟩;have az:=q8.l U;have b0:=q9.l U;have ad:=aa a6 U;clear q8 q9 a6 U S;obtain⟨dy,e8,ed⟩:=az.cs3;obtain⟨ee,ef,eg⟩:=b0.cs3
 go_wp2_with fail
 refine(Q.out _ ad).mono ?_;rintro H d3 ⟨ff,rfl,bb,W⟩;have b2:=az.l W;have b4:=b0.l W;have al:=aa ad W;obtain⟨xo,xc,o⟩:=bb.shape;subst o;clear az b0 ad W Q dy e8 ed ee ef eg;obtain⟨eu,a2,bs,I⟩:=cA d3 (yDL x xo xc) 25;replace a2:Hid _:=a2;have f4:w.heap.size≤d3.heap.size:=al.size;have f5:=b2.lt;have f6:=b4.lt;have bt:=b2.l I;have bu:=b4.l I;have cm:=bb.l I;have an:=aa al I;clear b2 b4 bb al I
 go_upto_region 5 with fail
 rw[a2.out];clear a2;obtain⟨eh,ei,ej⟩:=bt.cs3
 go_wp2_with fail
 refine(L.out _ an).mono ?_;rintro H d4 ⟨fg,fl,rfl,bd,bh,K⟩;have b5:=bu.l K;have b6:=bs.l K;have cn:=cm.l K;have ap:=aa an K;obtain⟨B,T,o⟩:=bd.shape;subst o;obtain⟨C,Y,o⟩:=bh.shape;subst o;clear bt bu bs cm an K L eh ei ej;obtain⟨ev,a4,bv,F⟩:=cA d4 [.bool a.s,yT B a.n T,yi a.e,.bool b.s,yT C b.n Y,yi b.e] 27;replace a4:Hid _:=a4;have f7:w.heap.size≤d4.heap.size:=ap.size;have f8:=b5.lt;have f9:=b6.lt;have bw:=b5.l F;have bx:=b6.l F;have cp:=cn.l F;have cr:=bd.l F;have cs:=bh.l F;have aq:=aa ap F;clear b5 b6 cn bd bh ap F
 go_upto_region 6 with fail
 rw[a4.out];clear a4;obtain⟨ek,el,em⟩:=bw.cs3
 go_wp2_with fail
 refine(M.out _ aq).mono ?_;rintro H d5 ⟨fi,fn,rfl,be,bi,G⟩;have b7:=bx.l G;have b8:=bv.l G;have ct:=cp.l G;have cv:=cr.l G;have cw:=cs.l G;have ar:=aa aq G;obtain⟨co,cc,o⟩:=be.shape;subst o;obtain⟨zo,zc,o⟩:=bi.shape;subst o;clear bw bx bv cp cr cs aq G M ek el em;obtain⟨ex,a5,bz,A⟩:=cA d5 [.bool c.s,yT co c.n cc,yi c.e,.bool z.s,yT zo z.n zc,yi z.e] 27;replace a5:Hid _:=a5;have fa:w.heap.size≤d5.heap.size:=ar.size;have fb:=b7.lt;have fc:=b8.lt;have c0:=b7.l A;have c1:=b8.l A;have cx:=ct.l A;have cy:=cv.l A;have cz:=cw.l A;have d0:=be.l A;have d1:=bi.l A;have av:=aa ar A;clear b7 b8 ct cv cw be bi ar A
 go_upto_region 7 with fail
 rw[a5.out];clear a5;obtain⟨en,eo,ep⟩:=c0.cs3
 go_wp2_with fail
 refine(N.out _ _ _ av cx).mono ?_;rintro H d6 ⟨fd,fj,rfl,b9,bf,D⟩;have ax:=c1.l D;have ay:=bz.l D;have c2:=cy.l D;have c3:=cz.l D;have c4:=d0.l D;have c5:=d1.l D;have a7:=aa av D;obtain⟨po,pc,o⟩:=b9.shape;subst o;obtain⟨qo,qc,o⟩:=bf.shape;subst o;clear c0 c1 bz cx cy cz d0 d1 av D N en eo ep;obtain⟨es,a0,bl,y⟩:=cA d6 [.bool p.s,yT po p.n pc,yi p.e,.bool q.s,yT qo q.n qc,yi q.e] 27;replace a0:Hid _:=a0;have ey:w.heap.size≤d6.heap.size:=a7.size;have f0:=ax.lt;have f1:=ay.lt;have bm:=ax.l y;have bn:=ay.l y;have c6:=c2.l y;have c7:=c3.l y;have c8:=c4.l y;have c9:=c5.l y;have cd:=b9.l y;have ce:=bf.l y;have a8:=aa a7 y;clear ax ay c2 c3 c4 c5 b9 bf a7 y
 go_upto_region 8 with fail
 rw[a0.out];clear a0;obtain⟨d9,da,db,dc,dd,dl⟩:=bm.cs6;obtain⟨dn,dp,dq,ds,dt,dv⟩:=bn.cs6
 go_wp2_with fail
 refine(O.out _ _ _ _ _ _ _ _ _ a8 c6 c7 c8 c9).mono ?_;rintro H d2 ⟨fe,fk,rfl,ba,bg,J⟩;have b1:=bl.l J;have cg:=cd.l J;have ch:=ce.l J;have a9:=aa a8 J;obtain⟨uo,uc,o⟩:=ba.shape;subst o;obtain⟨vo,vc,o⟩:=bg.shape;subst o;clear bm bn bl c6 c7 c8 c9 cd ce a8 J O d9 da db dc dd dl dn dp dq ds dt dv;obtain⟨et,a1,bp,E⟩:=cA d2 [.bool u.s,yT uo u.n uc,yi u.e,.bool v.s,yT vo v.n vc,yi v.e] 27;replace a1:Hid _:=a1;have f2:w.heap.size≤d2.heap.size:=a9.size;have f3:=b1.lt;have bq:=b1.l E;have ci:=cg.l E;have cj:=ch.l E;have ck:=ba.l E;have cl:=bg.l E;have ae:=aa a9 E;clear b1 cg ch ba bg a9 E
 go_upto_region 11 with fail
 rw[a1.out];clear a1;obtain⟨e0,e1,e2,e3,e4,e5⟩:=bq.cs6;obtain⟨e6,e7,e9,ea,eb,ec⟩:=bp.cs6
 go_wp2_with fail
 refine(P.out _ _ _ _ _ _ _ _ _ ae ck cl ci cj).mono ?_;rintro H fp ⟨rfl,bj⟩;have d7:=aa ae bj;clear bq bp ci cj ck cl ae bj P e0 e1 e2 e3 e4 e5 e6 e7 e9 ea eb ec
 go_wp2
 go_ret
 exact⟨by simp,d7⟩
end Go.Proofs.YthhiidikgchdeaaGreatDoor
