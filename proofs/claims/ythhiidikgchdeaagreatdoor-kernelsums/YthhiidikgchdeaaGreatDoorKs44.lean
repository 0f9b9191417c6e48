/- Texts laid together. -/
import Derived.Test.YthhiidikgchdeaaGreatDoorKs39
import Derived.Test.YthhiidikgchdeaaGreatDoorKs41
import Derived.Test.YthhiidikgchdeaaGreatDoorKs42
namespace Go.Proofs.YthhiidikgchdeaaGreatDoor
open Go.RowKit
theorem qu (n:Int)(b:Nat)(m:Nat)(x:Nat→ak)(p:Nat→Option Addr)(q:Nat→Nat)(w:World)(z:2≤m)(A:m≤4)(y:b<w.heap.size)
  (d: ∀j,j<m→w.cell? ⟨b,3*j,none⟩=some (.bool (x j).s)∧w.cell? ⟨b,3*j+1,none⟩=some (.slice (p j) (Dg.dg 4294967296 (x j).n).length (q j))∧w.cell? ⟨b,3*j+2,none⟩=some (yi (x j).e)∧Rd w .u32 (.slice (p j) (Dg.dg 4294967296 (x j).n).length (q j)) (Dg.dg 4294967296 (x j).n))
  (t:1≤n) (F:n≤4096) (f: ∀j,j<m→(Dg.dg 4294967296 (x j).n).length≤9000) (h: ∀j,j<m→ -100000≤(x j).e) (i: ∀j,j<m→(x j).e≤100000) (r:Tab w):
  yC 113 #[yi n,.slice (some ⟨b,0,none⟩) m m] w (jE w (du x m n)):=by
 refine P6 n b m x p q w z A y (fun j a=>(d j a).1) (fun j a=>(d j a).2.1) (fun j a=>(d j a).2.2.1) (fun j k g a o c=> ?_) (fun j up g a c=> ?_) (fun j up v g a c B=> ?_)
 ·exact iE _ _ (x j) (x k) g ⟨_,rfl,(d j a).2.2.2.l c⟩ ⟨_,rfl,(d k o).2.2.2.l c⟩ (by have:=f j a;omega) (by have:=f k o;omega) (by have:=h j a;omega) (by have:=i j a;omega) (by have:=h k o;omega) (by have:=i k o;omega)
 ·exact Ij _ (x j) n up g ⟨_,rfl,(d j a).2.2.2.l c⟩ (by have:=f j a;omega) (by have:=h j a;omega) (by have:=i j a;omega) t (by omega) (r.l c)
 ·have u:=tK (b:=n) (up:=up) (f j a) (by omega)
  have C:=WQ (b:=n) (up:=up) (f j a) t;have D:=h j a;have E:=i j a;exact kL v _ g B (by omega) ⟨by omega,by omega⟩ (r.l c) (by have:=gZ _ 9001 u;omega)
theorem nN {R D L G:Int}(gr:Bool)(t:ak)(a:L≤G):dA R D L G gr (bare t).n (bare t).e=dA R D L G gr t.n t.e:=by
 rw[←jK gr t a,←jK gr (bare t) a,iH]
theorem mI {R D L G:Int}{gr s:Bool}{d:Nat}{p:Int}(j:bk R D L G=0)(h:ia R D L G gr d p):dA R D L G gr (bare ⟨s,d,(ai R:Int)*p⟩).n (bare ⟨s,d,(ai R:Int)*p⟩).e=true:=by
 obtain⟨-,a,-,-,-,-,-,lg,-⟩:=cB j;rw[nN gr _ lg]
 rcases h with⟨rfl,rfl⟩| ⟨b,c,f,g,i⟩
 ·exact tO R D L G gr _
 ·rw[tN a g c i b]
  exact decide_eq_true f
theorem uL {R D L G:Int}{gr s:Bool}{d:Nat}{p:Int}(c:1≤D)(a:d≠0)(j:L≤p)(r:p≤G)(g:d<2^ (ai R*D.toNat))(hf:2^ (ai R*(D-1).toNat)≤d∨(gr=true∧p=L)):
  fD R D L G gr (bare ⟨s,d,(ai R:Int)*p⟩).n (bare ⟨s,d,(ai R:Int)*p⟩).e=d∧fK R D L G gr (bare ⟨s,d,(ai R:Int)*p⟩).n (bare ⟨s,d,(ai R:Int)*p⟩).e=p:=by
 have f:=gN (t:=⟨s,d,(ai R:Int)*p⟩) a;simp only at f;obtain⟨b,l,v⟩:=f;have u:L≤G:=by omega
 have h:dA R D L G gr (bare ⟨s,d,(ai R:Int)*p⟩).n (bare ⟨s,d,(ai R:Int)*p⟩).e=true:=by
  rw[nN gr _ u,tN c g j hf a];exact decide_eq_true r
 have k:cP R D L gr (bare ⟨s,d,(ai R:Int)*p⟩).n (bare ⟨s,d,(ai R:Int)*p⟩).e=p:=by
  have o:cP R D L gr (bare ⟨s,d,(ai R:Int)*p⟩).n (bare ⟨s,d,(ai R:Int)*p⟩).e=cP R D L gr d ((ai R:Int)*p):=by
   unfold cP;rw[show(bitLen (bare ⟨s,d,(ai R:Int)*p⟩).n:Int)-1+(bare ⟨s,d,(ai R:Int)*p⟩).e=(bitLen d:Int)-1+(ai R:Int)*p by omega]
  exact o.trans (Sg c g j hf)
 refine⟨?_,(if_neg b).trans ((if_pos h).trans k)⟩;rw[show fD R D L G gr (bare ⟨s,d,(ai R:Int)*p⟩).n (bare ⟨s,d,(ai R:Int)*p⟩).e=nm R D L gr (bare ⟨s,d,(ai R:Int)*p⟩).n (bare ⟨s,d,(ai R:Int)*p⟩).e from(if_neg b).trans (if_pos h)]
 unfold nm;rw[k,l,show(ai R)*p+(tz d:Int)-(ai R:Int)*p=(tz d:Int) by omega]
 unfold shN;rw[if_neg (by omega),Int.toNat_natCast];obtain⟨m,i⟩:=fO a;have q:(bare ⟨s,d,(ai R:Int)*p⟩).n=2*m+1:=by
  unfold bare;rw[if_neg a];exact lI i
 rw[q,Nat.mul_comm];exact i.symm
theorem ZV {xs a:List Nat}{E R D L G:Int}{gr qs:Bool}{way:Int}(e:eE xs a E R D L G way=0)(r:Dg.Small 4294967296 xs)(s:Dg.Small 4294967296 a)(h: ¬xs.length=0):
  (dR xs a E R D L G gr qs way=false↔ ¬G<gD R D (fM R D L gr qs (Dg.vl 4294967296 xs) (Dg.vl 4294967296 a) E way) (dj R D L gr (Dg.vl 4294967296 xs) (Dg.vl 4294967296 a) E)∧(¬aT R D (dY (Dg.vl 4294967296 xs) (Dg.vl 4294967296 a) E)<L∨gr=true))∧
  (dR xs a E R D L G gr qs way=false→iu xs a E R D L G gr qs way=bare ⟨qs,fM R D L gr qs (Dg.vl 4294967296 xs) (Dg.vl 4294967296 a) E way,(ai R:Int)*dj R D L gr (Dg.vl 4294967296 xs) (Dg.vl 4294967296 a) E⟩)∧
  (df xs a E R D L G gr qs way).ex=decide (gF R D L gr (Dg.vl 4294967296 xs) (Dg.vl 4294967296 a) E=0):=by
 obtain⟨k,l,t⟩:=mh e;obtain⟨-,c,-,-,-,-,-,lg,-⟩:=cB l;obtain⟨i,j,u,-,-⟩:=gO k;have o:=nF r i h;have m:=nF s j (by omega);have b:df xs a E R D L G gr qs way=cI R D L G gr qs (Dg.vl 4294967296 xs) (Dg.vl 4294967296 a) E way:=(if_pos e).trans (if_neg h);rw[kJ gr qs _ _ E way c lg o m] at b;obtain⟨N,p⟩: ∃N,Dg.vl 4294967296 xs=N:=⟨_,rfl⟩;obtain⟨M,n⟩: ∃M,Dg.vl 4294967296 a=M:=⟨_,rfl⟩;rw[p,n] at b⊢;refine⟨?_, ?_,by rw[b]⟩
 ·unfold dR
  rw[b,e]
  by_cases d:G<gD R D (fM R D L gr qs N M E way) (dj R D L gr N M E)
  ·simp[d]
  ·by_cases g:aT R D (dY N M E)<L
   ·cases gr<;>simp[d,g]
   ·simp[d,g]
 ·intro q
  unfold iu;rw[if_neg (by rw[q];decide),b];simp only
  by_cases f:io R D (fM R D L gr qs N M E way)=0
  ·rw[if_pos f,←sD R D qs (fM R D L gr qs N M E way) _ c,f]
   exact GR _ _ _
  ·rw[if_neg f]
   exact sD R D qs _ _ c
theorem kK {R D L G:Int}{gr:Bool}(s:Bool){d:Nat}{p:Int}(b:bk R D L G=0)(h:ia R D L G gr d p):bU ⟨s,d,(ai R:Int)*p⟩=(bare ⟨s,d,(ai R:Int)*p⟩,0):=by
 have:=Af (s:=s) b h;unfold cC at this
 by_cases a:ix (Dg.dg 4294967296 d) p R D L G=0
 ·rw[if_pos a,Dg.vl_dg _ _ (by omega)] at this
  exact this
 ·rw[if_neg a] at this
  simp only[Prod.mk.injEq] at this;exact absurd this.2 a
theorem ZD {R D L G:Int}{gr:Bool}{d:Nat}{k:Int}(b:bk R D L G=0)(i:L≤k)(u:gD R D (d+1) k≤G)(h:d<2^ (ai R*D.toNat))(hf:2^ (ai R*(D-1).toNat)≤d∨(gr=true∧k=L)):
  jo R D L G gr (bare ⟨false,d,(ai R:Int)*k⟩).s true (Dg.dg 4294967296 (bare ⟨false,d,(ai R:Int)*k⟩).n) (bare ⟨false,d,(ai R:Int)*k⟩).e=(bare ⟨false,d+1,(ai R:Int)*k⟩,0):=by
 obtain⟨-,f,-,-,-,-,-,lg,-⟩:=cB b;have E:=KR R D (d+1) k;obtain⟨x,y,z,A,B⟩:=nZ f i u h hf;have v:ia R D L G gr d k∨d=0:=by
  by_cases a:d=0
  ·exact .inr a
  ·exact .inl (.inr ⟨a,i,by omega,h,hf⟩)
 have C:=bG (ai R*(D-1).toNat);have g:=kK false b (.inr ⟨x,y,z,A,B⟩:ia R D L G gr (io R D (d+1)) (gD R D (d+1) k));rw[sD R D false (d+1) k f] at g;have j:(bare ⟨false,d,(ai R:Int)*k⟩).s=false:=by
  unfold bare
  split<;>rfl
 have c: ∀l,kG false true l=false:=fun l=>by
  unfold kG
  split<;>rfl
 by_cases a:d=0
 ·subst a
  have o:gr=true∧k=L:=by
   rcases hf with hf|hf
   ·omega
   ·exact hf
  have w:bare ⟨false,0,(ai R:Int)*k⟩=⟨false,0,0⟩:=by simp[bare]
  rw[w];obtain⟨q1,q2⟩:=qO (R:=R) (D:=D) (L:=L) (gr:=gr) (d:=0) (p:=L) (.inr o.1);have:=uu (R:=R) (D:=D) (L:=L) (G:=G) (gr:=gr) (up:=true) (t:=⟨false,0,0⟩) (d:=io R D (0+1)) (k:=gD R D (0+1) k) b (nt (n:=0) (e:=0) (Nat.zero_le _) (by omega) (by omega)) (tO R D L G gr 0) ?_ ?_ (by omega)
  ·simp only at this
   rw[this,c];exact g
  ·unfold jU
   rw[c,if_neg (by decide),show fD R D L G gr 0 0=0 from if_pos rfl]
   exact q1
  ·unfold ip
   rw[c,if_neg (by decide),show fD R D L G gr 0 0=0 from if_pos rfl,show fK R D L G gr 0 0=L from if_pos rfl,o.2]
   exact q2
 ·have q:ia R D L G gr d k:=v.resolve_right a
  obtain⟨m,r⟩:=uL (G:=G) (s:=false) f a i (by omega) h hf;obtain⟨q1,q2⟩:=qO (R:=R) (D:=D) (L:=L) (gr:=gr) (d:=d) (p:=k) (.inl a);have:=uu (R:=R) (D:=D) (L:=L) (G:=G) (gr:=gr) (up:=true) (t:=bare ⟨false,d,(ai R:Int)*k⟩) (d:=io R D (d+1)) (k:=gD R D (d+1) k) b (kZ b q) (mI b q) ?_ ?_ (by omega)
  ·rw[this,j,c]
   exact g
  ·unfold jU
   rw[j,c,if_neg (by decide),m];exact q1
  ·unfold ip
   rw[j,c,if_neg (by decide),m,r];exact q2
theorem ZE {R D L G:Int}{gr:Bool}{d:Nat}{k:Int}(a:bk R D L G=0)(g:L≤k)(z:gD R D (d+1) k≤G)(o:d<2^ (ai R*D.toNat))(hf:2^ (ai R*(D-1).toNat)≤d∨(gr=true∧k=L)):
  jo R D L G gr (bare ⟨true,d+1,(ai R:Int)*k⟩).s true (Dg.dg 4294967296 (bare ⟨true,d+1,(ai R:Int)*k⟩).n) (bare ⟨true,d+1,(ai R:Int)*k⟩).e=(bare ⟨true,d,(ai R:Int)*k⟩,0):=by
 obtain⟨-,b,-,-,-,-,-,lg,-⟩:=cB a;have A:=KR R D (d+1) k;obtain⟨f,r,u,v,w⟩:=nZ b g z o hf;have q:ia R D L G gr (io R D (d+1)) (gD R D (d+1) k):= .inr ⟨f,r,u,v,w⟩;have x:bU ⟨true,d,(ai R:Int)*k⟩=(bare ⟨true,d,(ai R:Int)*k⟩,0):=by
  by_cases m:d=0
  ·subst m
   have e:=GR true ((ai R:Int)*k) ((ai R:Int)*0);rw[sE e,e];exact kK true a (.inl ⟨rfl,rfl⟩:ia R D L G gr 0 0)
  ·exact kK true a (.inr ⟨m,g,by omega,o,hf⟩:ia R D L G gr d k)
 rw[←sD R D true (d+1) k b];obtain⟨j,l⟩:=uL (G:=G) (s:=true) b f r u v w;obtain⟨q1,q2⟩:=Ir (R:=R) (L:=L) (gr:=gr) (d:=d) (p:=k) b g hf;have y:=gN (t:=⟨true,io R D (d+1),(ai R:Int)*gD R D (d+1) k⟩) f;have h:(bare ⟨true,io R D (d+1),(ai R:Int)*gD R D (d+1) k⟩).s=true:=by
  unfold bare;rw[if_neg f]
 have i:kG true true (Dg.dg 4294967296 (bare ⟨true,io R D (d+1),(ai R:Int)*gD R D (d+1) k⟩).n).length=true:=if_neg (fun c=>y.1 (mJ.1 c))
 have:=uu (R:=R) (D:=D) (L:=L) (G:=G) (gr:=gr) (up:=true) (t:=bare ⟨true,io R D (d+1),(ai R:Int)*gD R D (d+1) k⟩) (d:=d) (k:=k) a (kZ a q) (mI a q) ?_ ?_ (by omega)
 ·rw[this,h,i]
  exact x
 ·unfold jU
  rw[h,i,if_pos rfl,j,l];exact q1
 ·unfold ip
  rw[h,i,if_pos rfl,j,l];exact q2
theorem abf {xs a:List Nat}{E R D L G:Int}{gr qs:Bool}(Q:Dg.Small 4294967296 xs)(S:Dg.Small 4294967296 a)(r:dR xs a E R D L G gr qs 5=false)(F:dR xs a E R D L G gr qs 4=false):
  (∀i,1≤i→i≤3→dR xs a E R D L G gr qs i=false∧(iu xs a E R D L G gr qs i=iu xs a E R D L G gr qs 5∨iu xs a E R D L G gr qs i=iu xs a E R D L G gr qs 4))∧
  (iu xs a E R D L G gr qs 5=iu xs a E R D L G gr qs 4→eE xs a E R D L G 1=0∧(df xs a E R D L G gr qs 1).ex=true)∧
  (¬iu xs a E R D L G gr qs 5=iu xs a E R D L G gr qs 4→jo R D L G gr (iu xs a E R D L G gr qs 5).s true (Dg.dg 4294967296 (iu xs a E R D L G gr qs 5).n) (iu xs a E R D L G gr qs 5).e=(iu xs a E R D L G gr qs 4,0)):=by
 obtain⟨A,p,-⟩:=mh (kN r).1;obtain⟨-,B,-,-,-,-,-,lg,-⟩:=cB p;obtain⟨U,W,hm,-,-⟩:=gO A;have l: ∀i,1≤i→i≤5→eE xs a E R D L G i=0:=fun i b c=>Qx A p (decide_eq_true ⟨b,c⟩)
 by_cases w:xs.length=0
 ·have v: ∀i,1≤i→i≤5→df xs a E R D L G gr qs i=⟨false,0,0,true,false,false⟩:=fun i b c=>(if_pos (l i b c)).trans (if_pos w)
  have J: ∀i,1≤i→i≤5→dR xs a E R D L G gr qs i=false:=fun i b c=>by
   unfold dR;rw[v i b c,l i b c];rfl
  have q: ∀i,1≤i→i≤5→iu xs a E R D L G gr qs i=bare ⟨false,0,(ai R:Int)*0⟩:=fun i b c=>by
   unfold iu;rw[if_neg (by rw[J i b c];decide),v i b c]
  refine⟨fun i b c=>⟨J i b (by omega),.inl ?_⟩,fun _=>⟨l 1 (by omega) (by omega),by rw[v 1 (by omega) (by omega)]⟩,fun x=> ?_⟩
  ·rw[q i b (by omega),q 5 (by omega) (by omega)]
  ·exact absurd ((q 5 (by omega) (by omega)).trans (q 4 (by omega) (by omega)).symm) x
 ·have u:=nF Q U w
  have t:=nF S W (by omega);have o:=fun i (b:1≤i) (c:i≤5)=>ZV (gr:=gr) (qs:=qs) (l i b c) Q S w
  obtain⟨Y,t5,-⟩:=o 5 (by omega) (by omega);obtain⟨X,Z,-⟩:=o 4 (by omega) (by omega);have C:=(o 1 (by omega) (by omega)).2.2;have j:=Y.1 r;have k:=X.1 F;have g:=t5 r;have f:=Z F;obtain⟨N,I⟩: ∃N,Dg.vl 4294967296 xs=N:=⟨_,rfl⟩;obtain⟨M,H⟩: ∃M,Dg.vl 4294967296 a=M:=⟨_,rfl⟩;rw[I] at u;rw[H] at t;simp only[I,H] at o C j k g f;obtain⟨O,P⟩:=Bv (R:=R) (D:=D) (L:=L) (gr:=gr) (E:=E) B u t j.2;have K:=rP R D L gr N M E B u t;have y: ∀i,1≤i→i≤3→(fM R D L gr qs N M E i=fM R D L gr qs N M E 5∨fM R D L gr qs N M E i=fM R D L gr qs N M E 4)→dR xs a E R D L G gr qs i=false∧(iu xs a E R D L G gr qs i=iu xs a E R D L G gr qs 5∨iu xs a E R D L G gr qs i=iu xs a E R D L G gr qs 4):=fun i b c h=>by
   obtain⟨z,T,-⟩:=o i b (by omega)
   rcases h with h|h
   ·have:=z.2 (by rw[h];exact j)
    exact⟨this,.inl (by rw[T this,g,h])⟩
   ·have:=z.2 (by rw[h];exact k)
    exact⟨this,.inr (by rw[T this,f,h])⟩
  by_cases d:gF R D L gr N M E=0
  ·refine⟨fun i b c=>y i b c (.inl (by rw[BS d,BS d])),fun _=>⟨l 1 (by omega) (by omega),by rw[C];exact decide_eq_true d⟩,fun x=>absurd ?_ x⟩
   rw[g,f,BS d,BS d]
  ·rw[GS d] at j g
   rw[RG d] at k f
   cases qs
   ·simp only[Bool.false_eq_true,if_false] at j g k f
    refine⟨fun i b c=>y i b c ?_,fun m=> ?_,fun _=> ?_⟩
    ·rw[GS d,RG d]
     simp only[Bool.false_eq_true,if_false];exact DY R D L gr false N M E i
    ·rw[g,f] at m
     exact absurd m (S8 _ _ _)
    ·rw[g,f]
     exact ZD p O (by omega) K P
   ·simp only[if_true] at j g k f
    refine⟨fun i b c=>y i b c ?_,fun m=> ?_,fun _=> ?_⟩
    ·rw[GS d,RG d]
     simp only[if_true];exact(DY R D L gr true N M E i).symm
    ·rw[g,f] at m
     exact absurd m.symm (S8 _ _ _)
    ·rw[g,f]
     exact ZE p O (by omega) K P
theorem least_in {x:Nat→ak}{n:Nat}{E Y:Int}(b:1≤n∧n≤1000)(l:0≤E)(m:E≤20000)(a: ∀j,j≤3→ -1120≤(x j).e∧(x j).e+(bitLen (x j).n:Int)≤E)(t: ∃j,j≤3∧V 1120 (x j)≤Y)(s: ∃j,j≤3∧Y≤V 1120 (x j)):
  ∃p q,du x 4 n=(p,q,0)∧InB E Y p q∧BareB p q:=by
 have g:=tB x 3;have d:hiI x 3≤3:=wN x 3;have i:=end_cut (A:=loT x 3) false (a _ g).1 (a _ g).2 l b;have k:=end_cut (A:=hiT x 3) true (a _ d).1 (a _ d).2 l b;refine⟨_,_, ?_,⟨i,k, ?_, ?_⟩,⟨_,rfl⟩,⟨_,rfl⟩⟩
 ·unfold du
  rw[show(4-1:Nat)=3 from rfl,end_short i m b,end_short k m b]
  rfl
 ·obtain⟨j,h,u⟩:=t
  have o:=Al (K:=1120) x 3 (fun j f=>(a j f).1) j h
  obtain⟨r,-,c,-⟩:=lE (K:=1120) (loT x 3) n (by omega) (a _ g).1;rw[dw c];omega
 ·obtain⟨j,h,u⟩:=s
  have o:=Ao (K:=1120) x 3 (fun j f=>(a j f).1) j h
  obtain⟨-,r,-,c⟩:=lE (K:=1120) (hiT x 3) n (by omega) (a _ d).1;rw[dw c];omega
theorem sum_in {E Y Z:Int}{l h u v:ak}(e:InB E Y l h)(f:InB E Z u v)(n:Nat)(a:0≤E)(d:E+1001≤20000)(g:1≤n∧n≤1000):
  ∃p q,du (dk aG l h u v) 4 n=(p,q,0)∧InB (E+1001) (Y+Z) p q∧BareB p q:=by
 obtain⟨il,b,k,m⟩:=e;obtain⟨iu,c,o,r⟩:=f;refine least_in g (by omega) d (fun j i=> ?_) ⟨0,by omega, ?_⟩ ⟨3,by omega, ?_⟩
 ·obtain rfl|rfl|rfl|rfl:j=0∨j=1∨j=2∨j=3:=by omega
  ·exact plus_bits il iu a
  ·exact plus_bits il c a
  ·exact plus_bits b iu a
  ·exact plus_bits b c a
 ·show V 1120 (aG l u)≤_
  rw[dH (by have:=il.1;omega) (by have:=iu.1;omega)];omega
 ·show _≤V 1120 (aG h v)
  rw[dH (by have:=b.1;omega) (by have:=c.1;omega)];omega
theorem short_end {t:ak}(h:(bU t).2=0):EndK (bU t).1∧qT (bU t).1=qT t:=by
 unfold bU at*
 by_cases a:1200< (Dg.dg 4294967296 (bare t).n).length
 ·rw[if_pos a] at h
  cases h
 ·rw[if_neg a] at h⊢
  by_cases b:(bare t).e< -20000∨20000< (bare t).e
  ·rw[if_pos b] at h
   cases h
  ·rw[if_neg b]
   exact⟨⟨⟨t,rfl⟩,by show(Dg.dg 4294967296 (bare t).n).length≤1200;omega,by show-20000≤(bare t).e;omega,by show(bare t).e≤20000;omega⟩,qT_bare t⟩
theorem ball_end {a b:ak}(h:(iD (bU a) (bU b)).2.2=0):EndK (iD (bU a) (bU b)).1∧EndK (iD (bU a) (bU b)).2.1∧ivT (iD (bU a) (bU b)).1 (iD (bU a) (bU b)).2.1=ivT a b:=by
 unfold iD at*
 by_cases c:(bU a).2=0
 ·rw[if_pos c] at h⊢
  by_cases d:(bU b).2=0
  ·rw[if_pos d]
   obtain⟨e,q1⟩:=short_end c;obtain⟨f,q2⟩:=short_end d;refine⟨e,f, ?_⟩
   show IvN.mk _ _=IvN.mk _ _
   rw[q1,q2]
  ·rw[if_neg d] at h
   exact absurd h d
 ·rw[if_neg c] at h
  exact absurd h c
end Go.Proofs.YthhiidikgchdeaaGreatDoor
