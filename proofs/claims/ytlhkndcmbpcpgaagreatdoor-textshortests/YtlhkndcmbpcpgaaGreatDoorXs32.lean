/- Texts laid together. -/
import Derived.Test.YtlhkndcmbpcpgaaGreatDoorXs28
import Derived.Test.YtlhkndcmbpcpgaaGreatDoorXs29
import Derived.Test.YtlhkndcmbpcpgaaGreatDoorXs30
namespace Go.Proofs.YtlhkndcmbpcpgaaGreatDoor
open Go.RowKit
theorem Gf (k:Nat)(c:1≤k∧k≤8)(ng:Bool)(e f:Nat)(w:World)(b:f<18446744073709551616):yC 113 #[.agg (tS k).toArray,yfV ng e f] w (yR w (yi ((dh k ng e f:Nat):Int))):=by
 rcases bO c with rfl|rfl|rfl|rfl|rfl|rfl|rfl|rfl
 ·exact Gd _ _ _ _ _ _ _ _ ng _ e f w (fun a=>afs ng e f a b)
 ·exact Gd _ _ _ _ _ _ _ _ ng _ e f w (fun a=>aft ng e f a b)
 ·exact Gd _ _ _ _ _ _ _ _ ng _ e f w (fun a=>afu ng e f a b)
 iterate 2 exact Za _ _ _ _ _ _ _ ng _ e f w
 all_goals exact Zb _ _ _ _ _ _ _ ng _ e f w
theorem wE (k c:Nat)(e:1≤k∧k≤8)(z:c=1∨c=3∨c=4∨c=5)(ng:Bool)(n:Option Addr)(b o:Nat)(p:Int)(w:World):
  yC 38 #[.agg (tS k).toArray,yvV c ng (.slice n b o) p] w (yR w (.tuple #[.string (Fv k c b ng p),yi (qX k c b ng p)])):=by
 have l:=fun u=>MP k c e z u
 have m:=fun u=>Qa k c e z u
 have r:=fun u=>Aq k e (pI k c||ng) (pg k c) (lS k c) u (Fw c e) (Fx c e)
 have f: ∀x,qX k c b ng p=x→Fv k c b ng p=if x=0 then cF (kU k (pI k c||ng) (pg k c) (lS k c)) else⟨#[]⟩:=fun x h=>by unfold Fv;rw[h]
 by_cases d:iR k c=false
 ·have a:qX k c b ng p=5:=by unfold qX;rw[if_pos d]
  rw[f 5 a,a,if_neg (by omega)];rw[d] at l;generalize pI k c=j at*;generalize pg k c=g at*;generalize lS k c=i at*;clear m r f a d
  rcases bO e with rfl|rfl|rfl|rfl|rfl|rfl|rfl|rfl
  all_goals exact P8 _ _ _ _ _ _ _ _ _ _ p ng n b o j g i w l
 ·have t:iR k c=true:=by simpa using d
  rw[t] at l
  by_cases y:0<b
  ·have a:qX k c b ng p=4:=by unfold qX;rw[if_neg d,if_pos (.inl y)]
   rw[f 4 a,a,if_neg (by omega)];generalize pI k c=j at*;generalize pg k c=g at*;generalize lS k c=i at*;clear m r f a d t
   rcases bO e with rfl|rfl|rfl|rfl|rfl|rfl|rfl|rfl
   all_goals exact Kt _ _ _ _ _ _ _ _ _ _ p ng n b o j g i w l y
  ·have v:b=0:=by omega
   by_cases s:p=0
   ·by_cases q:ng=true∧Bk k c=false
    ·have a:qX k c b ng p=4:=by unfold qX;rw[if_neg d,if_pos (.inr (.inr q))]
     rw[f 4 a,a,if_neg (by omega)];rw[q.2] at m;have B:=q.1;generalize pI k c=j at*;generalize pg k c=g at*;generalize lS k c=i at*;clear r f a d t q
     rcases bO e with rfl|rfl|rfl|rfl|rfl|rfl|rfl|rfl
     all_goals exact P9 _ _ _ _ _ _ _ _ _ _ p ng n b o j g i w l m v s B
    ·have a:qX k c b ng p=0:=by
      unfold qX;rw[if_neg d,if_neg];rintro(h|h|h)
      ·exact y h
      ·exact h s
      ·exact q h
     rw[f 0 a,a,if_pos rfl];have C:ng=true→Bk k c=true:=fun h=>by
      cases hs:Bk k c
      ·exact absurd ⟨h,hs⟩ q
      ·rfl
     generalize cF (kU k (pI k c||ng) (pg k c) (lS k c))=A at*
     generalize pI k c=j at*;generalize pg k c=g at*;generalize lS k c=i at*;clear f a d t q
     cases ng
     ·rcases bO e with rfl|rfl|rfl|rfl|rfl|rfl|rfl|rfl
      all_goals exact Ui _ _ _ _ _ _ _ _ _ _ p false n b o j g i w l A r v s rfl
     ·rw[C rfl] at m
      rcases bO e with rfl|rfl|rfl|rfl|rfl|rfl|rfl|rfl
      all_goals exact Uj _ _ _ _ _ _ _ _ _ _ p true n b o j g i w l m A r v s rfl
   ·have a:qX k c b ng p=4:=by unfold qX;rw[if_neg d,if_pos (.inr (.inl s))]
    rw[f 4 a,a,if_neg (by omega)];generalize pI k c=j at*;generalize pg k c=g at*;generalize lS k c=i at*;clear m r f a d t
    rcases bO e with rfl|rfl|rfl|rfl|rfl|rfl|rfl|rfl
    all_goals exact MI _ _ _ _ _ _ _ _ _ _ p ng n b o j g i w l v s
theorem Gz (k:Nat)(a:1≤k∧k≤8)(ng:Bool)(e f:Nat)(w:World)(g:f<18446744073709551616)(j:e<65536):yC 68 #[.agg (tS k).toArray,yfV ng e f] w (iT w ((dh k ng e f:Nat):Int) (kt k ng e f) (ge k ng e f) (gw k ng e f)):=by
 have b:=fun i=>Gf k a ng e f i g
 have m:=fun i=>QL k a ng e f i g j
 have o:=fun h=>jX (k:=k) (ng:=ng) (e:=e) (f:=f) h
 have q:=vS a e g;have l:=ab9 a j;unfold kt ge gw;generalize iI k e f=d at*;generalize ii k e=p at*
 rcases DV k ng e f with c|c|c|c|c
 all_goals (rw[c] at b⊢)
 ·rw[if_pos (by omega),if_neg (by omega),if_neg (by omega)]
  rcases bO a with rfl|rfl|rfl|rfl|rfl|rfl|rfl|rfl
  all_goals exact aab _ _ _ _ _ _ _ _ _ ng e f w b
 ·rw[if_pos (by omega),if_pos rfl,if_pos rfl]
  have n:=o c
  rcases bO a with rfl|rfl|rfl|rfl|rfl|rfl|rfl|rfl
  all_goals exact We _ _ _ _ _ _ _ _ _ ng e f d p w (by decide) (by decide) n q l.1 l.2 b m
 ·rw[if_pos (by omega),if_neg (by omega),if_neg (by omega)]
  rcases bO a with rfl|rfl|rfl|rfl|rfl|rfl|rfl|rfl
  all_goals exact aac _ _ _ _ _ _ _ _ _ ng e f w b
 ·rw[if_neg (by omega),if_neg (by omega),if_neg (by omega)]
  rcases bO a with rfl|rfl|rfl|rfl|rfl|rfl|rfl|rfl
  all_goals exact aad _ _ _ _ _ _ _ _ _ ng e f w b
 ·rw[if_neg (by omega),if_neg (by omega),if_neg (by omega)]
  rcases bO a with rfl|rfl|rfl|rfl|rfl|rfl|rfl|rfl
  all_goals exact aae _ _ _ _ _ _ _ _ _ ng e f w b
theorem mS {k:Nat}(a:1≤k∧k≤8)(ng:Bool)(e f:Nat):
  aZ k (cF (kU k ng e f))=ng∧aR k (cF (kU k ng e f))=e % 2^exN k∧aU k (cF (kU k ng e f))=f % 2^frN k∧(cF (kU k ng e f)).size=szN k:=by
 obtain⟨c,d,g,h,-,i⟩:=fZ a;unfold aZ aR aU;rw[Kr a];refine⟨?_, ?_, ?_, ?_⟩
 ·rw[zk _ _ _ _ (by omega)]
  simp only[jY,Eb]
  cases ng<;>simp
 ·rw[zk _ _ _ _ (by omega),←Fu (exN k) e]
  refine nz _ (fun j b=> ?_)
  unfold Eb;rw[if_neg (by omega),if_pos (show 1+j≤exN k by omega),show exN k-(1+j)=exN k-1-j from by omega]
 ·rw[zk _ _ _ _ (by omega),←Fu (frN k) f]
  refine nz _ (fun j b=> ?_)
  unfold Eb;rw[if_neg (by omega),if_neg (show¬1+exN k+j≤exN k by omega),show exN k+frN k-(1+exN k+j)=frN k-1-j from by omega]
 ·rw[fS,Mx]
def fq (n c:Int)(ng:Bool)(xs:List Nat)(p:Int):ByteArray:=
 if dK n=0∨c<1∨5<c then⟨#[]⟩ else if chk xs≠0 then⟨#[]⟩ else if c=2 then enS n.toNat ng xs p else Fv n.toNat c.toNat xs.length ng p
theorem jj (n c:Int)(ng:Bool)(a:Option Addr)(d:Nat)(xs:List Nat)(p:Int)(w:World)(z:Rd w .u32 (.slice a xs.length d) xs)(D:Dg.Small 4294967296 xs)(B:Tab w):
  yC 11 #[yi n,yvV c ng (.slice a xs.length d) p] w (yR w (.tuple #[.string (fq n c ng xs p),yi (gI n c ng xs p)])):=by
 have s:yH w 36 #[.slice a xs.length d] (yi (chk xs)):=fun e b=>(jC _ xs e (z.l b)).mono (fun _ _ h=>⟨h.1,by rw[h.2];exact Below.refl _ _⟩)
 unfold gI fq
 by_cases o:dK n=0
 ·rw[if_pos (.inl o),if_pos (.inl o)]
  exact LX n c p ng a xs.length d w (fun e=>lR n e o)
 ·obtain⟨f,g,A⟩:=fF o
  obtain⟨k,rfl⟩: ∃k:Nat,n=(k:Int):=⟨n.toNat,A.symm⟩;rw[Int.toNat_natCast] at f g⊢;have j:=fun e=>pU k ⟨f,g⟩ e
  by_cases q:c<1
  ·rw[if_pos (.inr (.inl q)),if_pos (.inr (.inl q))]
   rcases bO ⟨f,g⟩ with rfl|rfl|rfl|rfl|rfl|rfl|rfl|rfl
   all_goals exact aaS _ _ _ _ _ _ _ _ _ _ c p ng a xs.length d w j q
  ·by_cases r:5<c
   ·rw[if_pos (.inr (.inr r)),if_pos (.inr (.inr r))]
    rcases bO ⟨f,g⟩ with rfl|rfl|rfl|rfl|rfl|rfl|rfl|rfl
    all_goals exact Xj _ _ _ _ _ _ _ _ _ _ c p ng a xs.length d w j r
   ·have y: ¬(dK (k:Int)=0∨c<1∨5<c):=by
     rintro(h|h|h)
     ·exact o h
     ·exact q h
     ·exact r h
    rw[if_neg y,if_neg y]
    by_cases i:chk xs=0
    ·rw[if_neg (show¬chk xs≠0 from fun h=>h i),if_neg (show¬chk xs≠0 from fun h=>h i)]
     by_cases v:c=2
     ·subst v
      rw[if_pos rfl,if_pos rfl];have t:=fun e (b:yB w e)=>B5 k ⟨f,g⟩ ng a d xs p e (z.l b) D i (B.l b)
      generalize enS k ng xs p=x at*;generalize enE k ng xs p=u at*
      rcases bO ⟨f,g⟩ with rfl|rfl|rfl|rfl|rfl|rfl|rfl|rfl
      all_goals exact QD _ _ _ _ _ _ _ _ _ _ p ng a xs.length d w j _ s x u t i
     ·rw[if_neg v,if_neg v]
      obtain⟨m,C⟩: ∃m:Nat,c=(m:Int):=⟨c.toNat,by omega⟩;subst C;rw[Int.toNat_natCast];have t:=fun e=>wE k m ⟨f,g⟩ (by omega) ng a xs.length d p e
      generalize Fv k m xs.length ng p=x at*;generalize qX k m xs.length ng p=u at*
      rcases bO ⟨f,g⟩ with rfl|rfl|rfl|rfl|rfl|rfl|rfl|rfl
      all_goals exact Ip _ _ _ _ _ _ _ _ _ _ _ p ng a xs.length d w j _ s x u t (by omega) (by omega) (by omega) i
    ·rw[if_pos i,if_pos i]
     rcases bO ⟨f,g⟩ with rfl|rfl|rfl|rfl|rfl|rfl|rfl|rfl
     all_goals exact EF _ _ _ _ _ _ _ _ _ _ c p ng a xs.length d w j _ s (by omega) (by omega) i
theorem mY {k:Nat}(o:1≤k∧k≤8){ng:Bool}{xs:List Nat}{p:Int}(j:chk xs=0)(q:xs.length≠0)(x: ¬(p< -20000∨20000<p)):
  enE k ng xs p=if inR (rdN k) (dgN k) (lsI k) (gsI k) (decide (k≤3)) (bare ⟨ng,Dg.vl 4294967296 xs,(ai (rdN k):Int)*p⟩).n (bare ⟨ng,Dg.vl 4294967296 xs,(ai (rdN k):Int)*p⟩).e=true then 0 else 4:=by
 obtain⟨C,F,G,H,I,J,i,K,M,D,E,l⟩:=eR o;obtain⟨N,O⟩:=Gm o;have A:Dg.vl 4294967296 xs≠0:=fun h=>by
  obtain⟨B,-⟩:=aF j;exact Dg.vl_ne_zero 4294967296 (by omega) xs (by intro e;subst e;simp at q) B h
 have y:ix xs p (rdN k) (dgN k) (lsI k) (gsI k)=0:=by
  unfold ix;rw[if_pos j,if_pos l,if_neg];unfold eJ;simp;omega
 have u:enN k ng xs p=bU ⟨ng,Dg.vl 4294967296 xs,(ai (rdN k):Int)*p⟩:=by
  unfold enN cC;rw[if_pos y]
 unfold enE;rw[if_neg x,if_neg q,u];have r:(bare ⟨ng,Dg.vl 4294967296 xs,(ai (rdN k):Int)*p⟩).n≠0:=fun h=>A ((fI _).1 h)
 generalize Q:(⟨ng,Dg.vl 4294967296 xs,(ai (rdN k):Int)*p⟩:ak)=t at*;have m: ∀v: ¬1200< (Dg.dg 4294967296 (bare t).n).length,∀a: ¬((bare t).e< -20000∨20000< (bare t).e),enH k (bare t)=inR (rdN k) (dgN k) (lsI k) (gsI k) (decide (k≤3)) (bare t).n (bare t).e:=fun v a=>by
  unfold enH um;have s:aS (Dg.dg 4294967296 (bare t).n) (bare t).e=0:=by
   unfold aS;rw[if_pos (pJ (Dg.norm_dg 4294967296 (bare t).n (by omega)) (by omega)),if_neg a]
  have w:onC (aS (Dg.dg 4294967296 (bare t).n) (bare t).e) (bk (rdN k) (dgN k) (lsI k) (gsI k))=0:=by unfold onC;rw[if_pos s];exact l
  rw[if_pos w,Dg.vl_dg _ _ (by omega),nN _ _ i,jK _ _ i]
 by_cases g:inR (rdN k) (dgN k) (lsI k) (gsI k) (decide (k≤3)) (bare t).n (bare t).e=true
 ·rw[if_pos g]
  have P:(ai (rdN k):Int)*lsI k≤(bare t).e∧(bare t).e+(bitLen (bare t).n:Int)≤(ai (rdN k):Int)*(gsI k+(dgN k:Int)):=by
   have:=g;unfold inR at this
   rcases of_decide_eq_true this with h|h
   ·exact absurd h r
   ·exact⟨h.1,h.2.1⟩
  have c: ¬1200< (Dg.dg 4294967296 (bare t).n).length:=by
   have:=jq (d:=(bare t).n) (k:=bitLen (bare t).n) (L:=1200) (bitLen_spec _).1 (by omega);omega
  have a: ¬((bare t).e< -20000∨20000< (bare t).e):=by omega
  have z:bU t=(bare t,0):=by unfold bU;rw[if_neg c,if_neg a]
  rw[z,if_pos ⟨rfl,by rw[m c a];exact g⟩]
 ·rw[if_neg g,if_neg]
  rintro⟨b,f⟩;unfold bU at b f
  by_cases c:1200< (Dg.dg 4294967296 (bare t).n).length
  ·rw[if_pos c] at b
   simp at b
  ·rw[if_neg c] at b f
   by_cases a:(bare t).e< -20000∨20000< (bare t).e
   ·rw[if_pos a] at b
    simp at b
   ·rw[if_neg a] at f
    rw[m c a] at f;exact g f
theorem rT {k:Nat}(c:1≤k∧k≤8){ng:Bool}{E F:Nat}(d:E<2^exN k)(hF:F<2^frN k)(l:F<2^64)(f:dh k ng E F=2)(j:iI k E F≠0):
  bare ⟨ng,ge k ng E F,(ai (rdN k):Int)*gw k ng E F⟩=bare ⟨ng,iI k E F,(ai (rdN k):Int)*ii k E⟩:=by
 have b:=iq c d hF f;rw[zr] at b
 by_cases g:rdN k=2
 ·obtain⟨i,p⟩:=Va c d hF l f g
  have h:ai (rdN k)=1:=by rw[g];rfl
  rw[i,p,b,h,show((1:Nat):Int)*(bare ⟨ng,iI k E F,((1:Nat):Int)*ii k E⟩).e=(bare ⟨ng,iI k E F,((1:Nat):Int)*ii k E⟩).e from by omega,NQ (a:=⟨ng,iI k E F,((1:Nat):Int)*ii k E⟩) j rfl,iH]
 ·have o:rdN k=16:=by rcases bO c with rfl|rfl|rfl|rfl|rfl|rfl|rfl|rfl<;>revert g<;>decide
  obtain⟨i,p,q⟩:=I5 c d hF l f o;have h:ai (rdN k)=4:=by rw[o];rfl
  rw[h] at b⊢;rw[q,b];rw[b] at i;have m:=(nV ng (bare ⟨ng,iI k E F,((4:Nat):Int)*ii k E⟩).n (bare ⟨ng,iI k E F,((4:Nat):Int)*ii k E⟩).e (((4:Nat):Int)*gw k ng E F) (by omega)).2;rw[Jv] at m;rw[show 4*gw k ng E F=((4:Nat):Int)*gw k ng E F from rfl,m,NQ (a:=⟨ng,iI k E F,((4:Nat):Int)*ii k E⟩) j rfl,iH]
theorem Q9 {k:Nat}(f:1≤k∧k≤8){ng:Bool}{xs:List Nat}{p:Int}(R:Dg.Small 4294967296 xs)(q:chk xs=0)(a:enE k ng xs p=0):
  (enS k ng xs p).size=szN k∧aZ k (enS k ng xs p)=ng∧aR k (enS k ng xs p)<2^exN k∧aU k (enS k ng xs p)<2^frN k∧dh k ng (aR k (enS k ng xs p)) (aU k (enS k ng xs p))=2∧iI k (aR k (enS k ng xs p)) (aU k (enS k ng xs p))≠0∧
   bare ⟨ng,iI k (aR k (enS k ng xs p)) (aU k (enS k ng xs p)),(ai (rdN k):Int)*ii k (aR k (enS k ng xs p))⟩=bare ⟨ng,Dg.vl 4294967296 xs,(ai (rdN k):Int)*p⟩:=by
 obtain⟨X,f2,f3,f4,f5,f6,b,f8,f9,Y,Z,a0⟩:=eR f;have o: ¬(p< -20000∨20000<p):=fun h=>by
  unfold enE at a;rw[if_pos h] at a;omega
 have m:xs.length≠0:=fun h=>by
  unfold enE at a;rw[if_neg o,if_pos h] at a;omega
 have w:=JN q m;have G:=mY f (ng:=ng) q m o;have F:inR (rdN k) (dgN k) (lsI k) (gsI k) (decide (k≤3)) (bare ⟨ng,Dg.vl 4294967296 xs,(ai (rdN k):Int)*p⟩).n (bare ⟨ng,Dg.vl 4294967296 xs,(ai (rdN k):Int)*p⟩).e=true:=by
  refine Decidable.byContradiction fun c=> ?_
  rw[a,if_neg c] at G;omega
 have i:(bare ⟨ng,Dg.vl 4294967296 xs,(ai (rdN k):Int)*p⟩).n≠0:=fun K=>w ((fI _).1 K)
 have l:(bare ⟨ng,Dg.vl 4294967296 xs,(ai (rdN k):Int)*p⟩).s=ng:=qr w;have D:=iH ⟨ng,Dg.vl 4294967296 xs,(ai (rdN k):Int)*p⟩;have u:dA (rdN k) (dgN k) (lsI k) (gsI k) (decide (k≤3)) (bare ⟨ng,Dg.vl 4294967296 xs,(ai (rdN k):Int)*p⟩).n (bare ⟨ng,Dg.vl 4294967296 xs,(ai (rdN k):Int)*p⟩).e=true:=by
  rw[nN _ _ b,←jK _ _ b];exact F
 have t:enS k ng xs p=cF (kU k (plT k (bare ⟨ng,Dg.vl 4294967296 xs,(ai (rdN k):Int)*p⟩).s (bare ⟨ng,Dg.vl 4294967296 xs,(ai (rdN k):Int)*p⟩).n (bare ⟨ng,Dg.vl 4294967296 xs,(ai (rdN k):Int)*p⟩).e).s (heE (rdN k) (lsI k) (gW k) (plT k (bare ⟨ng,Dg.vl 4294967296 xs,(ai (rdN k):Int)*p⟩).s (bare ⟨ng,Dg.vl 4294967296 xs,(ai (rdN k):Int)*p⟩).n (bare ⟨ng,Dg.vl 4294967296 xs,(ai (rdN k):Int)*p⟩).e)) (plT k (bare ⟨ng,Dg.vl 4294967296 xs,(ai (rdN k):Int)*p⟩).s (bare ⟨ng,Dg.vl 4294967296 xs,(ai (rdN k):Int)*p⟩).n (bare ⟨ng,Dg.vl 4294967296 xs,(ai (rdN k):Int)*p⟩).e).d):=by
  unfold enS;rw[if_pos a,(AW (k:=k) (ng:=ng) q m o R a).1]
 rw[l] at t;generalize bare ⟨ng,Dg.vl 4294967296 xs,(ai (rdN k):Int)*p⟩=T at*;obtain⟨r,L,p3,M⟩:=oj (s:=ng) (way:=3) (by omega:(1:Int)≤(dgN k:Int)) b i u;obtain⟨H,J,j⟩:=mC (s:=ng) (way:=3) (by omega:(1:Int)≤(dgN k:Int)) b i u;have v:=(nW (by omega) b i (by omega) H J).resolve_left (fun c=>M (by rw[←L];exact c.1))
 have I:cI (rdN k) (dgN k) (lsI k) (gsI k) (decide (k≤3)) ng T.n 1 T.e 3=plT k ng T.n T.e:=rfl;rw[I] at r j v;generalize plT k ng T.n T.e=g at*;obtain⟨x,N,O,y,z⟩:=v;have E:((dgN k:Int)-1).toNat=dgN k-1:=by omega
 rw[Int.toNat_natCast] at y;rw[E] at z;obtain⟨A,P,B,Q⟩:=CQ f ng g N O x y (z.imp_right (fun h=>⟨by simpa using h.1,h.2⟩))
 obtain⟨S,C,U,W⟩:=mS f g.s (heE (rdN k) (lsI k) (gW k) g) g.d;rw[Nat.mod_eq_of_lt A] at C;rw[t,S,C,U,W];refine⟨rfl,r,A,Nat.mod_lt _ (Nat.pow_pos (by omega)),P,by rw[B];exact x, ?_⟩;rw[B,Q];rw[r] at j;rw[j];have:(⟨ng,T.n,T.e⟩:ak)=T:=by
  cases T
  simp only at l⊢;rw[l]
 rw[this,D]
theorem oJ {k:Nat}(f:1≤k∧k≤8){c:Int}{ng:Bool}{xs:List Nat}{p:Int}(E:Dg.Small 4294967296 xs)(h:gI k c ng xs p=0):
  (fq k c ng xs p).size=szN k∧((dh k (aZ k (fq k c ng xs p)) (aR k (fq k c ng xs p)) (aU k (fq k c ng xs p)):Nat):Int)=c∧kt k (aZ k (fq k c ng xs p)) (aR k (fq k c ng xs p)) (aU k (fq k c ng xs p))=ng∧
   aR k (fq k c ng xs p)<2^exN k∧aU k (fq k c ng xs p)<2^frN k∧
   (c=2→chk xs=0∧aZ k (fq k c ng xs p)=ng∧iI k (aR k (fq k c ng xs p)) (aU k (fq k c ng xs p))≠0∧bare ⟨ng,iI k (aR k (fq k c ng xs p)) (aU k (fq k c ng xs p)),(ai (rdN k):Int)*ii k (aR k (fq k c ng xs p))⟩=bare ⟨ng,Dg.vl 4294967296 xs,(ai (rdN k):Int)*p⟩)∧
   (c≠2→xs.length=0∧p=0):=by
 by_cases d:dK k=0∨c<1∨5<c
 ·unfold gI at h
  rw[if_pos d] at h;omega
 ·by_cases a:chk xs=0
  ·unfold gI at h
   rw[if_neg d,if_neg (fun q=>q a)] at h
   unfold fq;rw[if_neg d,if_neg (fun q=>q a)]
   rw[Int.toNat_natCast] at h⊢
   by_cases b:c=2
   ·rw[if_pos b] at h⊢
    obtain⟨o,s,t,u,v,w,x⟩:=Q9 f E a h;rw[s];refine⟨o,by rw[v,b];rfl,by unfold kt;rw[if_pos (by omega)],t,u,fun _=>⟨a,rfl,w,x⟩,fun q=>absurd b q⟩
   ·rw[if_neg b] at h⊢
    obtain⟨m,B⟩: ∃m:Nat,c=(m:Int):=⟨c.toNat,by omega⟩;subst B;rw[Int.toNat_natCast] at h⊢;have y:m=1∨m=3∨m=4∨m=5:=by omega
    have g:iR k m=true:=by
     refine Decidable.byContradiction fun q=> ?_
     unfold qX at h;rw[if_pos (by simpa using q)] at h;omega
    have e: ¬(0<xs.length∨p≠0∨ng=true∧Bk k m=false):=fun q=>by
     unfold qX at h;rw[if_neg (by rw[g];simp),if_pos q] at h;omega
    have A:ng=true→Bk k m=true:=fun q=>by
     refine Decidable.byContradiction fun r=>e (.inr (.inr ⟨q,by simpa using r⟩))
    obtain⟨i,j,C,D⟩:=Ry f y ng g A;obtain⟨F,l,n,G⟩:=mS f (pI k m||ng) (pg k m) (lS k m)
    rw[Nat.mod_eq_of_lt i] at l;rw[Nat.mod_eq_of_lt j] at n;have z:Fv k m xs.length ng p=cF (kU k (pI k m||ng) (pg k m) (lS k m)):=by
     unfold Fv;rw[if_pos h]
    rw[z,F,l,n,G,C,D];refine⟨rfl,rfl,rfl,i,j,fun q=>absurd q b,fun _=>⟨?_, ?_⟩⟩
    ·rcases Nat.eq_zero_or_pos xs.length with q|q
     ·exact q
     ·exact absurd (.inl q) e
    ·exact Decidable.byContradiction fun q=>e (.inr (.inl q))
  ·unfold gI at h
   rw[if_neg d,if_pos a] at h;exact absurd h a
theorem xH {k:Nat}(e:1≤k∧k≤8){ng:Bool}{a:List Nat}{q:Int}(d:chk a=0):gI k 2 ng a q=enE k ng a q∧fq k 2 ng a q=enS k ng a q:=by
 have b: ¬(dK k=0∨(2:Int)<1∨(5:Int)<2):=by
  rcases bO e with rfl|rfl|rfl|rfl|rfl|rfl|rfl|rfl<;>decide
 unfold gI fq;rw[if_neg b,if_neg (fun c=>c d),if_pos rfl,if_neg b,if_neg (fun c=>c d),if_pos rfl,Int.toNat_natCast]
 exact⟨rfl,rfl⟩
theorem EX {k:Nat}(b:1≤k∧k≤8)(s:ByteArray)(a:dh k (aZ k s) (aR k s) (aU k s)=1∨dh k (aZ k s) (aR k s) (aU k s)=2):
  cC (ix (Dg.dg 4294967296 (ge k (aZ k s) (aR k s) (aU k s))) (gw k (aZ k s) (aR k s) (aU k s)) (rdN k) (dgN k) (lsI k) (gsI k)) ⟨kt k (aZ k s) (aR k s) (aU k s),Dg.vl 4294967296 (Dg.dg 4294967296 (ge k (aZ k s) (aR k s) (aU k s))),(ai (rdN k):Int)*gw k (aZ k s) (aR k s) (aU k s)⟩=(nxT k s,0):=by
 obtain⟨f,c⟩:=Cu k s;have g:=mZ b c;have j:=(eR b).2.2.2.2.2.2.2.2.2.2.2;unfold nxT;generalize aZ k s=ng at*;generalize aR k s=E at*;generalize aU k s=F at*;rw[Dg.vl_dg _ _ (by omega)];have r:(Dg.dg 4294967296 (ge k ng E F)).length≤2:=Dg.dg_len_le 4294967296 _ 2 (by omega) (Nat.lt_of_lt_of_le (J8 b ng E g) (by decide));have i:chk (Dg.dg 4294967296 (ge k ng E F))=0:=(bL (nt (n:=ge k ng E F) (e:=0) (by omega) (by omega) (by omega))).1
 rcases a with a|a
 ·have m:ge k ng E F=0:=if_neg (by omega)
  have o:gw k ng E F=0:=if_neg (by omega);rw[o,kA i j (by decide),m,zd b a];exact uR _ _
 ·obtain⟨p,q,t,u⟩:=J9 b f c a
  rw[kA i j (by unfold eJ;simp;omega)];have h:=rT b f c g a (Nat.ne_of_gt (jX a));have d:=iq b f c a;rw[wQ b] at d;have l:kt k ng E F=ng:=by
   unfold kt;rw[if_pos (by omega)]
  rw[l]
  show bU _=_
  rw[d,←h];rw[d,←h] at p q;exact wK (Nat.le_trans (aH _ _ _ (by omega) (kR _)) (by simp only;omega)) (by omega) (by omega)
def Dw (k:Nat)(c:Int)(g:Bool)(m:Nat)(p fl:Int):ByteArray×Int×Int:=
 if gI k c g (Dg.dg 4294967296 m) p=0 then(fq k c g (Dg.dg 4294967296 m) p,fl,0) else(⟨#[]⟩,0,gI k c g (Dg.dg 4294967296 m) p)
def m8 (k:Nat)(wy c:Int)(g:Bool)(t:ak)(fl:Int):ByteArray×Int×Int:=
 if c=2 then Dw k (pG k wy (fY k wy t)).1 (pG k wy (fY k wy t)).2.1 (pG k wy (fY k wy t)).2.2.1 (pG k wy (fY k wy t)).2.2.2.1 (bits .or .i64 fl (pG k wy (fY k wy t)).2.2.2.2)
 else if c=1 then Dw k 1 (g&&decide (dK k=1)) 0 0 fl else Dw k c g 0 0 fl
theorem VZ {k:Nat}(a:1≤k∧k≤8)(s:ByteArray)(b:dh k (aZ k s) (aR k s) (aU k s)=2):(ji k (aZ k s) (aR k s) (aU k s)).n<2^64∧ -16445≤(ji k (aZ k s) (aR k s) (aU k s)).e∧(ji k (aZ k s) (aR k s) (aU k s)).e≤16464∧(ji k (aZ k s) (aR k s) (aU k s)).n≠0:=by
 obtain⟨f,c⟩:=Cu k s;have g:=mZ a c;obtain⟨i,j,-,-⟩:=J9 a f c b;have h:=rT a f c g b (Nat.ne_of_gt (jX b));have d:=iq a f c b;rw[wQ a] at d;refine⟨?_,i,j, ?_⟩
 ·rw[d,←h]
  exact Nat.lt_of_le_of_lt (kR _) (J8 a _ _ g)
 ·rw[d]
  exact(gN (t:=⟨_,_,_⟩) (Nat.ne_of_gt (jX b))).1
theorem ir {k:Nat}(b:1≤k∧k≤8){p:ByteArray}(h:dF k p=0):iZ (opT k p)∧(bM k p≠2→opT k p=⟨false,0,0⟩)∧(bM k p=2→(opT k p).n≠0):=by
 have e:opT k p=ji k (aZ k p) (aR k p) (aU k p):=by
  unfold opT nxT;rw[if_pos h,Int.toNat_natCast]
 have d:bM k p=dh k (aZ k p) (aR k p) (aU k p):=by
  unfold bM;rw[if_pos h,Int.toNat_natCast]
 rw[e,d]
 by_cases a:dh k (aZ k p) (aR k p) (aU k p)=2
 ·obtain⟨f,i,j,g⟩:=VZ b p a
  exact⟨⟨f,by omega,by omega⟩,fun c=>absurd a c,fun _=>g⟩
 ·have:=Fm b (ng:=aZ k p) (E:=aR k p) (F:=aU k p) a
  rw[this];exact⟨⟨by show(0:Nat)<2^64;exact Nat.two_pow_pos 64,by show(-16500:Int)≤0;omega,by show 0≤16500;omega⟩,fun _=>rfl,fun c=>absurd c a⟩
def fitT (k:Nat)(way:Int)(qs:Bool)(xs ys:List Nat)(E:Int):ByteArray×Int×Int:=
 if eE xs ys E (rdN k) (dgN k) (lsI k) (gsI k) way=0 then Dw k (pG k way (df xs ys E (rdN k) (dgN k) (lsI k) (gsI k) (decide (k≤3)) qs way)).1 (pG k way (df xs ys E (rdN k) (dgN k) (lsI k) (gsI k) (decide (k≤3)) qs way)).2.1 (pG k way (df xs ys E (rdN k) (dgN k) (lsI k) (gsI k) (decide (k≤3)) qs way)).2.2.1 (pG k way (df xs ys E (rdN k) (dgN k) (lsI k) (gsI k) (decide (k≤3)) qs way)).2.2.2.1 (pG k way (df xs ys E (rdN k) (dgN k) (lsI k) (gsI k) (decide (k≤3)) qs way)).2.2.2.2
 else(⟨#[]⟩,0,eE xs ys E (rdN k) (dgN k) (lsI k) (gsI k) way)
theorem or_set (k:Nat)(a:Int)(P:fz):bits .or .i64 0 (pG k a P).2.2.2.2=(pG k a P).2.2.2.2:=by
 unfold pG
 split
 ·show bits .or .i64 0 5=5
  rfl
 ·split
  ·show bits .or .i64 0 3=3
   rfl
  ·show bits .or .i64 0 (if P.ex=true then 0 else if P.un=true then 3 else 1)=if P.ex=true then 0 else if P.un=true then 3 else 1
   split
   ·rfl
   ·split<;>rfl
theorem read_any (t:ByteArray)(w:World)(A:TxW w):yC 106 #[.string t] w (NmE w (nmV t)):=by
 unfold nmV
 by_cases u:400<t.size
 ·rw[if_pos u]
  exact tread_many t w u
 rw[if_neg u];have G:=undash_size t;have B:=cutS_size 101 (undash t);have E:=cutS_size 46 (nmC t).1;have C:(nmC t).1.size+(nmC t).2.1.size≤400:=by unfold nmC;omega
 have m:(nmD t).1.size+(nmD t).2.1.size≤400:=by unfold nmD;omega
 have D:((nmD t).1++(nmD t).2.1).size=(nmD t).1.size+(nmD t).2.1.size:=ByteArray.size_append;have g:=fun d=>prefix_any t ⟨#[45]⟩ d
 have y:=fun d (b:yB w d)=>cut_any (undash t) ⟨#[101]⟩ d (by omega) (A.l b)
 have z:=fun d (b:yB w d)=>cut_any (nmC t).1 ⟨#[46]⟩ d (by omega) (A.l b)
 have a:=fun d=>tdecimals_any ((nmD t).1++(nmD t).2.1) d (by omega)
 have j:=fun d=>readPower_any (nmC t).2.1 d
 have f: ∀b,(nmC t).2.2=b→yH w 140 #[.string (undash t),.string ⟨#[101]⟩] (.tuple #[.string (nmC t).1,.string (nmC t).2.1,.bool b]):=fun b v d s=>by
  rw[←v];exact y d s
 have h: ∀b,(nmD t).2.2=b→yH w 140 #[.string (nmC t).1,.string ⟨#[46]⟩] (.tuple #[.string (nmD t).1,.string (nmD t).2.1,.bool b]):=fun b v d s=>by
  rw[←v];exact z d s
 clear y z;have i:t.size≤400:=by omega
 have F:=rpV_in (nmC t).2.1
 cases hr:(nmC t).2.2
 ·have r:nmP t=(0,true):=by unfold nmP;rw[hr];rfl
  have p:nmQ t= -((nmD t).2.1.size:Int):=by unfold nmQ;rw[r];show(0:Int)-_=_;omega
  rw[r,p]
  cases hg:digB ((nmD t).1++(nmD t).2.1)
  ·rw[if_pos (.inr (.inl rfl))]
   rw[hg] at a;exact tread_dig_n t (undash t) (nmC t).1 (nmC t).2.1 (nmD t).1 (nmD t).2.1 (dash t) (nmD t).2.2 w i m g (f _ hr) (h _ rfl) a
  rw[hg] at a
  cases hpo:(nmD t).2.2
  ·rw[if_neg (fun c=>by rcases c with c|c|c;cases c;cases c;cases c.1),if_neg (by omega)]
   exact tread_okf_n t (undash t) (nmC t).1 (nmC t).2.1 (nmD t).1 (nmD t).2.1 (dash t) w i m g (f _ hr) (h _ hpo) a
  by_cases o:(nmD t).2.1.size=0
  ·rw[if_pos (.inr (.inr ⟨rfl,o⟩))]
   have e:=IX _ o;have q:=h _ hpo;rw[e] at a q;exact tread_pt_n t (undash t) (nmC t).1 (nmC t).2.1 (nmD t).1 (dash t) w i (by omega) g (f _ hr) q a
  ·rw[if_neg (fun c=>by rcases c with c|c|c;cases c;cases c;exact o c.2),if_neg (by omega)]
   exact tread_okt_n t (undash t) (nmC t).1 (nmC t).2.1 (nmD t).1 (nmD t).2.1 (dash t) w i m (Qw _ o) g (f _ hr) (h _ hpo) a
 ·have r:nmP t=rpV (nmC t).2.1:=by unfold nmP;rw[hr];rfl
  have p:IntKind.i64.wrap ((rpV (nmC t).2.1).1-((nmD t).2.1.size:Int))=nmQ t:=by unfold nmQ;rw[r];exact IntWalk.i64_in _ ⟨by omega,by omega⟩
  rw[r]
  cases hk:(rpV (nmC t).2.1).2
  ·rw[if_pos (.inl rfl)]
   rw[hk] at j;exact tread_bad t (undash t) (nmC t).1 (nmC t).2.1 (nmD t).1 (nmD t).2.1 (dash t) (nmD t).2.2 _ w i g (f _ hr) j (h _ rfl)
  rw[hk] at j
  cases hg:digB ((nmD t).1++(nmD t).2.1)
  ·rw[if_pos (.inr (.inl rfl))]
   rw[hg] at a;exact tread_dig_e t (undash t) (nmC t).1 (nmC t).2.1 (nmD t).1 (nmD t).2.1 (dash t) (nmD t).2.2 _ w i m g (f _ hr) j (h _ rfl) a
  rw[hg] at a
  cases hpo:(nmD t).2.2
  ·rw[if_neg (fun c=>by rcases c with c|c|c;cases c;cases c;cases c.1)]
   by_cases k:nmQ t< -6000
   ·rw[if_pos (.inl k)]
    exact tread_lof_e _ t (undash t) (nmC t).1 (nmC t).2.1 (nmD t).1 (nmD t).2.1 (dash t) _ w i m p k g (f _ hr) j (h _ hpo) a
   by_cases n:6000<nmQ t
   ·rw[if_pos (.inr n)]
    exact tread_hif_e _ t (undash t) (nmC t).1 (nmC t).2.1 (nmD t).1 (nmD t).2.1 (dash t) _ w i m p k n g (f _ hr) j (h _ hpo) a
   ·rw[if_neg (fun c=>c.elim k n)]
    exact tread_okf_e _ t (undash t) (nmC t).1 (nmC t).2.1 (nmD t).1 (nmD t).2.1 (dash t) _ w i m p k n g (f _ hr) j (h _ hpo) a
  by_cases o:(nmD t).2.1.size=0
  ·rw[if_pos (.inr (.inr ⟨rfl,o⟩))]
   have e:=IX _ o;have q:=h _ hpo;rw[e] at a q;exact tread_pt_e t (undash t) (nmC t).1 (nmC t).2.1 (nmD t).1 (dash t) _ w i (by omega) g (f _ hr) j q a
  ·rw[if_neg (fun c=>by rcases c with c|c|c;cases c;cases c;exact o c.2)]
   have x:=Qw _ o
   by_cases k:nmQ t< -6000
   ·rw[if_pos (.inl k)]
    exact tread_lot_e _ t (undash t) (nmC t).1 (nmC t).2.1 (nmD t).1 (nmD t).2.1 (dash t) _ w i m x p k g (f _ hr) j (h _ hpo) a
   by_cases n:6000<nmQ t
   ·rw[if_pos (.inr n)]
    exact tread_hit_e _ t (undash t) (nmC t).1 (nmC t).2.1 (nmD t).1 (nmD t).2.1 (dash t) _ w i m x p k n g (f _ hr) j (h _ hpo) a
   ·rw[if_neg (fun c=>c.elim k n)]
    exact tread_okt_e _ t (undash t) (nmC t).1 (nmC t).2.1 (nmD t).1 (nmD t).2.1 (dash t) _ w i m x p k n g (f _ hr) j (h _ hpo) a
theorem Jo {k:Nat}(b:1≤k∧k≤8){g:Bool}{xs:List Nat}{p:Int}(x:Dg.Small 4294967296 xs)(i:chk xs=0)(h:enE k g xs p=0):
  ¬(p< -20000∨20000<p)∧dA (rdN k) (dgN k) (lsI k) (gsI k) (decide (k≤3)) (bare ⟨g,Dg.vl 4294967296 xs,(ai (rdN k):Int)*p⟩).n (bare ⟨g,Dg.vl 4294967296 xs,(ai (rdN k):Int)*p⟩).e=true∧aS (Dg.dg 4294967296 (bare ⟨g,Dg.vl 4294967296 xs,(ai (rdN k):Int)*p⟩).n) (bare ⟨g,Dg.vl 4294967296 xs,(ai (rdN k):Int)*p⟩).e=0:=by
 obtain⟨-,-,-,-,-,-,l,-,-,-,-,w⟩:=eR b;obtain⟨u,v⟩:=Gm b;have f: ¬(p< -20000∨20000<p):=fun c=>by
  unfold enE at h;rw[if_pos c] at h;exact absurd h (by decide)
 have j:xs.length≠0:=fun c=>by
  unfold enE at h;rw[if_neg f,if_pos c] at h;exact absurd h (by decide)
 have d:=mY b (ng:=g) i j f;rw[h] at d;have a:inR (rdN k) (dgN k) (lsI k) (gsI k) (decide (k≤3)) (bare ⟨g,Dg.vl 4294967296 xs,(ai (rdN k):Int)*p⟩).n (bare ⟨g,Dg.vl 4294967296 xs,(ai (rdN k):Int)*p⟩).e=true:=by
  by_cases c:inR (rdN k) (dgN k) (lsI k) (gsI k) (decide (k≤3)) (bare ⟨g,Dg.vl 4294967296 xs,(ai (rdN k):Int)*p⟩).n (bare ⟨g,Dg.vl 4294967296 xs,(ai (rdN k):Int)*p⟩).e=true
  ·exact c
  ·rw[if_neg c] at d
   exact absurd d (by decide)
 have o:Dg.vl 4294967296 xs≠0:=fun h=>by
  obtain⟨q,-⟩:=aF i;exact Dg.vl_ne_zero 4294967296 (by omega) xs (by intro e;subst e;simp at j) q h
 have m:=(gN (t:=⟨g,Dg.vl 4294967296 xs,(ai (rdN k):Int)*p⟩) o).1;refine⟨f, ?_, ?_⟩
 ·rw[nN _ _ l,←jK _ _ l]
  exact a
 ·unfold inR at a
  rcases of_decide_eq_true a with c| ⟨r,s,-,-⟩
  ·exact absurd c m
  refine nt ?_ (by omega) (by omega);refine Nat.le_trans (jq (L:=1200) (wZ (Nat.le_refl _)) ?_) (Nat.le_refl _);omega
theorem OC {k:Nat}(a:1≤k∧k≤8)(way:Int)(g:Bool)(t:ak)(fl:Int)(f:t.n≠0)(j:dA (rdN k) (dgN k) (lsI k) (gsI k) (decide (k≤3)) t.n t.e=true)
  {xs:List Nat} {p:Int} (J:Dg.Small 4294967296 xs) (o:chk xs=0) (x:enE k t.s xs p=0) (w:bare ⟨t.s,Dg.vl 4294967296 xs,(ai (rdN k):Int)*p⟩=bare t):
  m8 k way 2 g t fl=(fq k 2 t.s xs p,bits .or .i64 fl 0,0):=by
 obtain⟨-,-,K,-,-,-,b,-,P,-,-,y⟩:=eR a;have h:(1:Int)≤(dgN k:Int):=by omega
 obtain⟨r,E,F⟩:=mC (s:=t.s) (way:=way) h b f j;obtain⟨u,G,H,I⟩:=oj (s:=t.s) (way:=way) h b f j;obtain⟨v,L⟩:=RK (s:=t.s) (way:=way) h b f j;have C:ia (rdN k) (dgN k) (lsI k) (gsI k) (decide (k≤3)) (fY k way t).d (fY k way t).p:=nW h b f (by omega) r E;obtain⟨M,N,O,-,-,-⟩:=qj y C;have q:(fY k way t).d≠0:=fun c=>I (G.symm.trans c)
 have A:(fY k way t).s=t.s:=u;have B:pG k way (fY k way t)=(2,t.s,(fY k way t).d,(fY k way t).p,0):=by
  unfold pG;rw[if_neg (fun c=>by rw[show(fY k way t).ov=false from r] at c;cases c),if_neg (fun c=>by have:=c.2;rw[show(fY k way t).p=cP (rdN k) (dgN k) (lsI k) (decide (k≤3)) t.n t.e from H] at this;omega),if_neg q,if_pos (show(fY k way t).ex=true from v),A]
 have i:chk (Dg.dg 4294967296 (fY k way t).d)=0:=pJ (Dg.norm_dg _ _ (by omega)) (by omega);have z:(Dg.dg 4294967296 (fY k way t).d).length≠0:=fun c=>q ((Dg.dg_nil_iff 4294967296 _ (by omega)).1 (List.length_eq_zero_iff.1 c))
 have D:=Dg.vl_dg 4294967296 (fY k way t).d (by omega);have m:bare ⟨t.s,Dg.vl 4294967296 (Dg.dg 4294967296 (fY k way t).d),(ai (rdN k):Int)*(fY k way t).p⟩=bare t:=by
  rw[D];have:=F;rw[u] at this;exact this
 have l:enE k t.s (Dg.dg 4294967296 (fY k way t).d) (fY k way t).p=0:=by
  rw[mY a i z (by omega),m,jK _ _ b,j,if_pos rfl]
 unfold m8 Dw;rw[if_pos rfl,B];simp only;rw[(xH a i).1,l,if_pos rfl,(xH a i).2,(xH a o).2];rw[Oe J (Dg.small_dg _ _ (by omega)) o i x l (m.trans w.symm)]
def cvT (k:Nat)(way c:Int)(g:Bool)(x:ak):ByteArray×Int×Int:=
 if c=2 then fitT k way x.s (Dg.dg 4294967296 x.n) [1] x.e else Dw k (mvV c g (dK k)).1 (mvV c g (dK k)).2.1 0 0 (mvV c g (dK k)).2.2
theorem fit_num {k:Nat}(h:1≤k∧k≤8){way:Int}(m:1≤way∧way≤5){x:ak}(b:iZ x)(d:x.n≠0):
  fitT k way x.s (Dg.dg 4294967296 x.n) [1] x.e=Dw k (pG k way (fY k way x)).1 (pG k way (fY k way x)).2.1 (pG k way (fY k way x)).2.2.1 (pG k way (fY k way x)).2.2.2.1 (pG k way (fY k way x)).2.2.2.2:=by
 have g:=(eR h).2.2.2.2.2.2.2.2.2.2.2;have i:(Dg.dg 4294967296 x.n).length≤1200:=jq b.1 (by omega);have j: ¬(Dg.dg 4294967296 x.n).length=0:=fun c=>d ((Dg.dg_nil_iff 4294967296 _ (by omega)).1 (List.length_eq_zero_iff.1 c))
 have l:eA (Dg.dg 4294967296 x.n) [1] x.e=0:=by
  unfold eA;rw[if_pos (pJ (Dg.norm_dg _ _ (by omega)) i),if_pos (show chk [1]=0 from rfl),if_neg]
  rintro(c|c)
  ·cases c
  ·unfold eJ at c
   simp at c;have:=b.2;omega
 have a:eE (Dg.dg 4294967296 x.n) [1] x.e (rdN k) (dgN k) (lsI k) (gsI k) way=0:=by rw[Bq l g,if_pos (way_is.2 m)]
 have f:df (Dg.dg 4294967296 x.n) [1] x.e (rdN k) (dgN k) (lsI k) (gsI k) (decide (k≤3)) x.s way=fY k way x:=by
  unfold df;rw[if_pos a,if_neg j,Dg.vl_dg _ _ (by omega)];rfl
 unfold fitT;rw[if_pos a,f]
def psV (n:Int)(t:ByteArray)(way:Int):ByteArray×Int×Int:=
 if dK n=0 then(⟨#[]⟩,0,6) else if raE t≠0 then(⟨#[]⟩,0,raE t) else fitT n.toNat way (raV t).1 (Dg.dg 4294967296 (raV t).2.1) (Dg.dg 4294967296 (raV t).2.2.1) (raV t).2.2.2
theorem G5 {k:Nat}(d:1≤k∧k≤8){p:ByteArray}(h:dF k p=0)(c:bM k p=2):
  (opT k p).n≠0∧(opT k p).s=dz k p∧bare ⟨dz k p,gJ k p,(ai (rdN k):Int)*iF k p⟩=opT k p:=by
 have a:=(ir d h).2.2 c;have g:dh k (aZ k p) (aR k p) (aU k p)=2:=by
  unfold bM at c
  rwa [if_pos h,Int.toNat_natCast] at c
 have e:=(wI (EX d p (.inr g))).1;rw[Dg.vl_dg _ _ (by omega)] at e;have f:opT k p=nxT k p:=by unfold opT;rw[if_pos h,Int.toNat_natCast]
 have b:bare ⟨dz k p,gJ k p,(ai (rdN k):Int)*iF k p⟩=opT k p:=by
  unfold dz gJ iF;rw[if_pos h,if_pos h,if_pos h,Int.toNat_natCast,f];exact e.symm
 refine⟨a, ?_,b⟩;rw[←b] at a⊢;exact qr (fun c=>a ((fI _).2 c))
theorem nm_list (t:ByteArray)(z:t.size≤400):
  nmV t=match nmL (undash t).data.toList with
   |none=>(nmZ,1)
   |some (d,p)=>if p< -6000∨6000<p then(nmZ,3) else((dash t,⟨d.toArray⟩,p),0):=by
 obtain⟨l,o⟩: ∃l,(undash t).data.toList=l:=⟨_,rfl⟩;have n:nmC t=(⟨(cutc 101 l).1.toArray⟩,⟨(cutc 101 l).2.1.toArray⟩,(cutc 101 l).2.2):=by
  unfold nmC cutS;rw[o,cut_is]
 have v:nmD t=(⟨(cutc 46 (cutc 101 l).1).1.toArray⟩,⟨(cutc 46 (cutc 101 l).1).2.1.toArray⟩,(cutc 46 (cutc 101 l).1).2.2):=by
  unfold nmD cutS;rw[n];simp only;rw[cut_is]
 have w:nmP t=if(cutc 101 l).2.2=true then rpV ⟨(cutc 101 l).2.1.toArray⟩ else(0,true):=by
  unfold nmP;rw[n]
 rw[o];unfold nmV nmQ;rw[if_neg (by omega),w,v,rp_list];unfold nmL;simp only;generalize cutc 101 l=c;generalize cutc 46 c.1=d;obtain⟨y,s,u⟩:=c;obtain⟨f,a,k⟩:=d;simp only;have x:(⟨f.toArray⟩:ByteArray)++⟨a.toArray⟩=⟨(f++a).toArray⟩:=by
  apply ByteArray.ext;rw[ByteArray.data_append];simp
 rw[x,mk_size];have j:=digB_list (f++a);have r:a.length=0↔a=[]:=List.length_eq_zero_iff
 by_cases i:f++a=[]∨ ¬(∀b∈f++a,isDg b=true)∨(k=true∧a=[])
 ·rw[if_pos i,if_pos]
  rcases i with h|h|h
  ·refine .inr (.inl ?_)
   cases hb:digB ⟨(f++a).toArray⟩
   ·rfl
   ·exact absurd h (j.1 hb).1
  ·refine .inr (.inl ?_)
   cases hb:digB ⟨(f++a).toArray⟩
   ·rfl
   ·exact absurd (j.1 hb).2 h
  ·exact .inr (.inr ⟨h.1,r.2 h.2⟩)
 ·have g:digB ⟨(f++a).toArray⟩=true:=j.2 ⟨fun e=>i (.inl e),Classical.byContradiction fun e=>i (.inr (.inl e))⟩
  have m: ¬(k=true∧a.length=0):=fun e=>i (.inr (.inr ⟨e.1,r.1 e.2⟩))
  rw[if_neg i]
  cases u with
  |false=>
   simp only[Bool.false_eq_true,if_false];rw[if_neg (fun h=>by
    rcases h with h|h|h
    ·cases h
    ·rw[g] at h;cases h
    ·exact m h),Int.zero_sub]
  |true=>
   rw[if_pos rfl,if_pos rfl]
   cases rpL s with
   |none=>
    simp only[Option.map_none];rw[if_pos (.inl trivial)]
   |some q=>
    simp only[Option.map_some];rw[if_neg (fun h=>by
     rcases h with h|h|h
     ·cases h
     ·rw[g] at h;cases h
     ·exact m h)]
theorem nuS_nm (g:Bool)(S:ByteArray)(N:Int)(d: ∀b∈S.data.toList,isDg b=true)(u:1≤S.size)(x:S.size≤60)(v: -5900<N)(w:N<5900):
  nmV (nuS g S ⟨(Lib.itoa N).toArray⟩)=((g,S,N-((S.size-1:Nat):Int)),0):=by
 have a:=nuS_list g S (Lib.itoa N) (by omega);obtain⟨t,q⟩: ∃t,nuS g S ⟨(Lib.itoa N).toArray⟩=t:=⟨_,rfl⟩;rw[q] at a⊢;obtain⟨L,e⟩: ∃L,S.data.toList=L:=⟨_,rfl⟩;rw[e] at a d;have f:L.length=S.size:=by rw[←e,←size_list]
 have k:L≠[]:=fun c=>by rw[c] at f;simp at f;omega
 obtain⟨R,h⟩: ∃R,(if 1<L.length then L.take 1++46::L.drop 1 else L)++101::Lib.itoa N=R:=⟨_,rfl⟩
 have m:=nmL_print d k (N:=N) (by omega) (by omega);rw[h] at a m;have n:R.head? ≠some 45:=by
  rw[←h]
  split
  ·rw[List.append_assoc]
   refine head_dig (fun b o=>d b (List.mem_of_mem_take o)) _ (fun c=> ?_)
   have:=congrArg List.length c;rw[List.length_take,List.length_nil] at this;omega
  ·exact head_dig d _ k
 have r:t=⟨((if g=true then[45] else[])++R).toArray⟩:=by rw[←a,mk_list]
 have y:=Lib.itoa_length_le N (by omega) (by omega);have p:t.size≤400:=by
  rw[size_list,a,List.length_append,←h,List.length_append,List.length_cons];have:(if 1<L.length then L.take 1++46::L.drop 1 else L).length≤62:=by
   split
   ·rw[List.length_append,List.length_cons,List.length_take,List.length_drop];omega
   ·omega
  have:(if g=true then[(45:UInt8)] else[]).length≤1:=by split<;>simp
  omega
 obtain⟨i,j⟩:=dash_list ((if g=true then[45] else[])++R)
 rw[←r] at i j;have l:decide (((if g=true then[(45:UInt8)] else[])++R).head? =some 45)=g:=by
  cases g
  ·exact decide_eq_false n
  ·rfl
 have s:(undash t).data.toList=R:=by
  rw[j,l]
  cases g<;>rfl
 rw[nm_list t p,s,m];simp only;rw[if_neg (by omega),i,l,f,←e,mk_list]
theorem refRatio_any (t:ByteArray)(w:World):
  (raE t≠0→yC 27 #[.string t] w (yR w (.tuple #[yrV false yN yN 0,yi (raE t)])))∧
  (raE t=0→yC 27 #[.string t] w (RqE w (raV t).1 (raV t).2.1 (raV t).2.2.1 (raV t).2.2.2 0)):=by
 by_cases X:400<t.size
 ·have e:raE t=2:=by
   unfold raE nmV;rw[if_pos X]
  exact⟨fun _=>by rw[e];exact ratioOf_many t w X,fun h=>absurd (e.symm.trans h) (by decide)⟩
 have o:t.size≤400:=by omega
 have i:=nm_list t o;have W:=fun f=>numeral_any t f o
 have H:=nu_nm (undash t).data.toList
 cases hl:nmL (undash t).data.toList with
 |none=>
  rw[hl] at i H;have e:raE t=1:=by
   unfold raE;rw[i]
  refine⟨fun _=> ?_,fun h=>absurd (e.symm.trans h) (by decide)⟩
  rw[e];refine ratioOf_formE t w o (fun f _=>(W f).mono fun z w' y=> ?_)
  obtain⟨rfl,g,d,p,ok,T,K⟩:=y
  rcases K with⟨-,rfl⟩| ⟨D,P,j,-⟩
  ·exact⟨g,d,p,T,Below.refl _ _⟩
  ·rw[H] at j
   cases j
 |some dp=>
  obtain⟨D,P⟩:=dp;rw[hl] at i H;have J:yH w 57 #[.string t] (.tuple #[.bool (dash t),.string ⟨D.toArray⟩,yi P,.bool true]):=fun f _=>(W f).mono fun z w' y=>by
   obtain⟨rfl,g,d,p,ok,T,K⟩:=y
   rcases K with⟨j,-⟩| ⟨D2,P2,j,rfl,rfl,rfl,rfl⟩
   ·rw[H] at j
    cases j
   ·rw[H] at j
    cases j
    exact⟨T,Below.refl _ _⟩
  simp only at i
  by_cases E:P< -6000
  ·rw[if_pos (.inl E)] at i
   have e:raE t=3:=by
    unfold raE;rw[i]
   exact⟨fun _=>by rw[e];exact ratioOf_low _ _ t P w o E J,fun h=>absurd (e.symm.trans h) (by decide)⟩
  by_cases F:6000<P
  ·rw[if_pos (.inr F)] at i
   have e:raE t=3:=by
    unfold raE;rw[i]
   exact⟨fun _=>by rw[e];exact ratioOf_high _ _ t P w o E F J,fun h=>absurd (e.symm.trans h) (by decide)⟩
  rw[if_neg (fun c=>c.elim E F)] at i
  have e:raE t=0:=by
   unfold raE;rw[i]
  obtain⟨z1,U,-,-⟩:=nmV_zero e;rw[i] at z1 U;simp only at z1 U;have a1:=((digB_iff _).1 U).2;refine⟨fun h=>absurd e h,fun _=> ?_⟩
  have O:=fun f=>tI ⟨D.toArray⟩ f (by omega) a1
  have hv:raV t=nrV (dash t,⟨D.toArray⟩,P):=by
   unfold raV;rw[i]
  rw[hv];obtain⟨N,hN⟩: ∃N,pv ⟨D.toArray⟩ (⟨D.toArray⟩:ByteArray).size=N:=⟨_,rfl⟩;obtain⟨a,ha⟩: ∃a,a=1600:=⟨_,rfl⟩;have R:N<2^a:=by
   rw[←hN];exact Nat.lt_of_lt_of_le (Tb _ a1 _ (Nat.le_refl _)) (Nat.le_trans (pow10_two _) (Nat.pow_le_pow_right (by omega) (by omega)))
  have a6:(Dg.dg 65536 N).length≤110:=UI (k:=a) (Nat.le_of_lt R) (by omega);unfold nrV;simp only;rw[hN] at O⊢;have M: ∀no I f,Rd f .i64 (yS no N I) (Dg.dg 65536 N)→yC 20 #[ydV (dash t) (yS no N I) 0] f (dr f (bare ⟨dash t,N,0⟩)):=fun no I f u=>iJ _ ⟨dash t,N,0⟩ f ⟨_,rfl,u⟩ (by show(Dg.dg 65536 N).length≤100000;omega) (by show-1000000≤(0:Int);omega) (by show(0:Int)≤1000000;omega)
  by_cases C:N=0
  ·subst C
   rw[if_pos rfl];refine(ratioOf_zero 0 0 (dash t) false ⟨D.toArray⟩ t P w o E F J O (fun no I f u=>(M no I f u).mono fun z w' y=> ?_)).mono fun z w' y=> ?_
   ·obtain⟨s,Q,r,b⟩:=y
    obtain⟨ao,ac,rfl⟩:=r.shape;exact⟨ao,ac,Q,b⟩
   ·obtain⟨q,Q,l,b⟩:=y
    refine⟨_,_,Q, ?_, ?_,b⟩
    ·rw[show Dg.dg 65536 0=[] from rfl]
     exact aN _ _
    ·rw[show Dg.dg 65536 1=[1] by decide]
     exact rd_one16 (l.c 0 rfl)
  ·rw[if_neg C]
   obtain⟨x,hx⟩: ∃x,bare ⟨dash t,N,0⟩=x:=⟨_,rfl⟩;have L:=hx;unfold bare at L;rw[if_neg C] at L;have xn:x.n=N/2^tz N:=by rw[←L]
   have xe:x.e=(tz N:Int):=by rw[←L];exact Int.zero_add _
   rw[hx] at M;obtain⟨q1,q2,q3⟩:=nr_rq C P;rw[←xn] at q1 q2;have a7:=tz_bits C R;have a5: ¬(Dg.dg 65536 x.n).length=0:=fun c=>by
    have:=(Dg.dg_nil_iff 65536 _ (by omega)).1 (List.length_eq_zero_iff.1 c);have ho:=(odd_of C).1;rw[←xn,this] at ho
    cases ho
   have a4:x.n≤N:=by rw[xn];exact Nat.div_le_self _ _
   obtain⟨c,hc⟩: ∃c,c=18000:=⟨_,rfl⟩;have Y: ∀k:Nat,k≤6000→5^k≤2^c:=fun k K=>Nat.le_trans (pow5_two k) (Nat.pow_le_pow_right (by omega) (by omega))
   obtain⟨B,Z⟩: ∃B,x.n*5^P.toNat+5^ (-P).toNat=B:=⟨_,rfl⟩;obtain⟨A,hA⟩: ∃A,A=20000:=⟨_,rfl⟩;have a2:B<2^A:=by
    have k1:x.n*5^P.toNat≤2^a*2^c:=Nat.mul_le_mul (Nat.le_of_lt (Nat.lt_of_le_of_lt a4 R)) (Y _ (by omega));have k2:=Y (-P).toNat (by omega);rw[←Nat.pow_add] at k1;have k3:2^ (a+c)<2^ (A-1):=Nat.pow_lt_pow_right (by omega) (by omega);have k4:2^c<2^ (A-1):=Nat.pow_lt_pow_right (by omega) (by omega);have k5:2^A=2^ (A-1)+2^ (A-1):=by
     conv=>lhs;rw[show A=A-1+1 by omega,Nat.pow_succ,Nat.mul_two]
    omega
   have a0: ∀m,m≤B→(Dg.dg 65536 m).length≤1260:=fun m G=>UI (k:=A) (Nat.le_of_lt (Nat.lt_of_le_of_lt G a2)) (by omega)
   have a3:IntKind.i64.wrap (x.e+P)=x.e+P:=IntWalk.i64_in _ ⟨by omega,by omega⟩;have:=refRatioOf_W N B x (dash t) ⟨D.toArray⟩ t P (x.e+P) w o E F a3 a5 (Z▸Nat.le_add_right _ _) (Z▸Nat.le_add_left _ _) _ rfl J O M
    (fun m v q f G u S=>by
     have:=fN v _ _ _ f u (rd_five S) (Dg.small_dg _ _ (by omega)) (Dg.small_dg _ _ (by omega)) (by have:=a0 m G;omega) (by rw[show Dg.dg 65536 5=[5] by decide];simp)
     rwa [Dg.vl_dg _ _ (by omega),Dg.vl_dg _ _ (by omega)] at this)
    (fun m v q f G u S=>qM v _ m 5 f u (rd_five S) (by have:=a0 m G;omega) (by rw[show Dg.dg 65536 5=[5] by decide];simp) (by omega))
   rw[q1,q2,show x.e+P=P+(tz (nrM N P).1:Int) by rw[q3,xe];omega] at this
   exact this
theorem ra_fine {t:ByteArray}(h:raE t=0):eA (Dg.dg 4294967296 (raV t).2.1) (Dg.dg 4294967296 (raV t).2.2.1) (raV t).2.2.2=0:=by
 obtain⟨a,b,d,e,f,-,-⟩:=raV_in h;unfold eA;rw[if_pos (pJ (Dg.norm_dg _ _ (by omega)) a),if_pos (pJ (Dg.norm_dg _ _ (by omega)) b),if_neg];rintro(c|c)
 ·exact d ((Dg.dg_nil_iff 4294967296 _ (by omega)).1 (List.length_eq_zero_iff.1 c))
 ·unfold eJ at c
  simp at c;omega
theorem num_back {k:Nat}(a:1≤k∧k≤8){s:ByteArray}(o:dF k s=0)(q:bM k s=2)(m:gI k 2 (dz k s) (Dg.dg 4294967296 (gJ k s)) (iF k s)=0):
  iZ (opT k s)∧(opT k s).n≠0∧bare (opT k s)=opT k s∧dA (rdN k) (dgN k) (lsI k) (gsI k) (decide (k≤3)) (opT k s).n (opT k s).e=true∧
   ∀way,1≤way∧way≤5→ ∀g,cvT k way 2 g (opT k s)=(fq k 2 (dz k s) (Dg.dg 4294967296 (gJ k s)) (iF k s),0,0):=by
 obtain⟨p,-,t⟩:=ir a o;obtain⟨b,j,h⟩:=G5 a o q;have d:chk (Dg.dg 4294967296 (gJ k s))=0:=by
  have:=(oJ a (Dg.small_dg _ _ (by omega)) m).2.2.2.2.2.1 rfl;exact this.1
 have c:=m;rw[(xH a d).1] at c;obtain⟨-,i,-⟩:=Jo a (Dg.small_dg _ _ (by omega)) d c;rw[Dg.vl_dg _ _ (by omega),h] at i;have l:bare (opT k s)=opT k s:=by rw[←h,iH]
 refine⟨p,b,l,i,fun way r g=> ?_⟩
 have f:=OC a way g (opT k s) 0 b i (Dg.small_dg _ _ (by omega)) d (by rw[j];exact c) (by rw[j,Dg.vl_dg _ _ (by omega),h,l]);unfold m8 at f;rw[if_pos rfl,or_set] at f;unfold cvT;rw[if_pos rfl,fit_num a r p b,f,j];rfl
theorem ps_fit {k:Nat}(d:1≤k∧k≤8){t:ByteArray}(b:raE t=0)(f:(raV t).2.1≠0):
  psV k t 1=Dw k (pG k 1 (cI (rdN k) (dgN k) (lsI k) (gsI k) (decide (k≤3)) (raV t).1 (raV t).2.1 (raV t).2.2.1 (raV t).2.2.2 1)).1 (pG k 1 (cI (rdN k) (dgN k) (lsI k) (gsI k) (decide (k≤3)) (raV t).1 (raV t).2.1 (raV t).2.2.1 (raV t).2.2.2 1)).2.1 (pG k 1 (cI (rdN k) (dgN k) (lsI k) (gsI k) (decide (k≤3)) (raV t).1 (raV t).2.1 (raV t).2.2.1 (raV t).2.2.2 1)).2.2.1 (pG k 1 (cI (rdN k) (dgN k) (lsI k) (gsI k) (decide (k≤3)) (raV t).1 (raV t).2.1 (raV t).2.2.1 (raV t).2.2.2 1)).2.2.2.1 (pG k 1 (cI (rdN k) (dgN k) (lsI k) (gsI k) (decide (k≤3)) (raV t).1 (raV t).2.1 (raV t).2.2.1 (raV t).2.2.2 1)).2.2.2.2:=by
 have i:=(eR d).2.2.2.2.2.2.2.2.2.2.2;have g:dK k≠0:=by rcases qt d with h|h|h<;>omega
 have a:eE (Dg.dg 4294967296 (raV t).2.1) (Dg.dg 4294967296 (raV t).2.2.1) (raV t).2.2.2 (rdN k) (dgN k) (lsI k) (gsI k) 1=0:=by rw[Bq (ra_fine b) i,if_pos (by decide)]
 have e:df (Dg.dg 4294967296 (raV t).2.1) (Dg.dg 4294967296 (raV t).2.2.1) (raV t).2.2.2 (rdN k) (dgN k) (lsI k) (gsI k) (decide (k≤3)) (raV t).1 1=if(Dg.dg 4294967296 (raV t).2.1).length=0 then⟨false,0,0,true,false,false⟩ else cI (rdN k) (dgN k) (lsI k) (gsI k) (decide (k≤3)) (raV t).1 (Dg.vl 4294967296 (Dg.dg 4294967296 (raV t).2.1)) (Dg.vl 4294967296 (Dg.dg 4294967296 (raV t).2.2.1)) (raV t).2.2.2 1:=if_pos a
 rw[Dg.vl_dg _ _ (by omega),Dg.vl_dg _ _ (by omega),if_neg (fun c=>f ((dg_len0 (by omega)).1 c))] at e
 unfold psV;rw[if_neg g,if_neg (fun c=>c b),Int.toNat_natCast]
 unfold fitT;rw[if_pos a,e]
theorem print_ra {x:ak}{j:Nat}(g:x.n<2^64)(b: -16500≤x.e)(d:x.e≤16500)(f:x.n≠0)(i:1≤j)(k:j≤60):
  raE (prR x.s (dcH x) (dcC x) (dcP x) j)=0∧ ∃(a Q' m M0:Nat) (p:Int),p+((j:Int)-1-dcP x)=(a:Int)∧Q'*10^a=prQ (dcH x) (dcC x) j∧m≠0∧M0≠0∧m*5^ (-p).toNat=Q'*M0*5^p.toNat∧raV (prR x.s (dcH x) (dcC x) (dcP x) j)=(x.s,m/2^tz m,M0,p+(tz m:Int)):=by
 obtain⟨w,r⟩:=prR_nm x.s g b d f i k;obtain⟨t,a,y,z,u,h⟩:=dgS_val g b d f i k;have v:=dcP_in g b d f;have nm:=nuS_nm x.s (dgS x j) (prN (dcH x) (dcC x) (dcP x) j) t (by omega) (by omega) (by omega) (by omega);rw[←r] at nm;have q:pv (dgS x j) (dgS x j).size=lvD (dgS x j).data.toList:=by
  have:=pv_all (dgS x j).data.toList
  rwa [mk_list,←size_list] at this
 have l:raE (prR x.s (dcH x) (dcC x) (dcP x) j)=0:=by
  unfold raE;rw[nm]
 obtain⟨p,o⟩: ∃p,prN (dcH x) (dcC x) (dcP x) j-(((dgS x j).size-1:Nat):Int)=p:=⟨_,rfl⟩;rw[o] at nm;refine⟨l,a,lvD (dgS x j).data.toList,(nrM (lvD (dgS x j).data.toList) p).1,(nrM (lvD (dgS x j).data.toList) p).2,p,by omega,u, ?_, ?_, ?_, ?_⟩
 ·unfold nrM
  split
  ·exact Nat.mul_ne_zero h (Nat.ne_of_gt (Nat.pow_pos (by omega)))
  ·exact redF_pos _ _ h
 ·unfold nrM
  split
  ·exact Nat.one_ne_zero
  ·exact Nat.ne_of_gt (Nat.pow_pos (by omega))
 ·unfold nrM
  by_cases c:0<p
  ·rw[if_pos c,show(-p).toNat=0 by omega,Nat.pow_zero,Nat.mul_one,Nat.mul_one]
  ·rw[if_neg c,show p.toNat=0 by omega,Nat.pow_zero,Nat.mul_one]
   exact redF_keep _ _
 ·unfold raV nrV
  rw[nm];simp only;rw[q,if_neg h]
end Go.Proofs.YtlhkndcmbpcpgaaGreatDoor
