/- Texts laid together. -/
import Derived.Test.YtlhkndcmbpcpgaaGreatDoorXs31
import Derived.Test.YtlhkndcmbpcpgaaGreatDoorXs32
namespace Go.Proofs.YtlhkndcmbpcpgaaGreatDoor
open Go.RowKit
theorem Nb {xs c:List Nat}{E R D L G way:Int}(h:eE xs c E R D L G way=0):eA xs c E=0∧bk R D L G=0∧iC way=true:=by
 by_cases a:eA xs c E=0
 ·by_cases b:bk R D L G=0
  ·refine⟨a,b, ?_⟩
   rw[Bq a b] at h
   by_cases d:iC way=true
   ·exact d
   ·rw[if_neg d] at h
    cases h
  ·rw[Na a b] at h
   exact absurd h b
 ·rw[M9 a] at h
  exact absurd h a
theorem VY (k:Nat)(d:1≤k∧k≤8)(s:ByteArray)(w:World)(b:s.size=szN k):
  yC 112 #[.agg (tS k).toArray,.string s] w (yR w (yfV (aZ k s) ((aR k s:Nat):Int) ((aU k s:Nat):Int))):=by
 obtain⟨l,m,n,o,p,-⟩:=fZ d;have c:=oV s;have i: ∀g cap a,ik a g (jr s)→yC (C9 k) #[.slice (some ⟨g,0,none⟩) (szN k) cap] a fun z w'=>z= .returned (.tuple #[])∧ik w' g (wG k s)∧a.grownBy w' (some g):=fun g cap a h=>by
  have:=IV k g cap (jr s) a h (by omega) (by rw[c,b];exact p);rw[c,b] at this;exact this
 have f:=fun a=>tm k d a
 have q:(wG k s).length=szN k:=by rw[wG,nM,c,b]
 have r:=xi k _ (zU s);have e:=fun j W=>Db k j W
 unfold aZ aR aU
 rcases bO d with rfl|rfl|rfl|rfl|rfl|rfl|rfl|rfl
 all_goals exact acf _ _ _ _ _ _ _ _ _ _ s _ w b q r l m n o i f e
theorem uM (n:Int)(s:ByteArray)(w:World)(h:dF n s=0):
  yC 67 #[yi n,.string s] w (yR w (.tuple #[.agg (tS n.toNat).toArray,yfV (aZ n.toNat s) ((aR n.toNat s:Nat):Int) ((aU n.toNat s:Nat):Int),yi 0])):=by
 unfold dF at h
 by_cases d:dK n=0
 ·rw[if_pos d] at h
  omega
 ·rw[if_neg d] at h
  obtain⟨a,b,m⟩:=fF d;obtain⟨k,rfl⟩: ∃k:Nat,n=(k:Int):=⟨n.toNat,m.symm⟩;rw[Int.toNat_natCast] at h a b⊢;have i:s.size=szN k:=by
   by_cases c:s.size=szN k
   ·exact c
   ·rw[if_neg c] at h
    omega
  have j:=fun g=>pU k ⟨a,b⟩ g
  have l:=fun g=>VY k ⟨a,b⟩ s g i
  generalize aZ k s=ng at*;generalize aR k s=e at*;generalize aU k s=f at*
  rcases bO ⟨a,b⟩ with rfl|rfl|rfl|rfl|rfl|rfl|rfl|rfl
  all_goals exact N7 _ _ _ _ _ _ _ _ _ _ ng e f s w i j l
theorem fR n (s:ByteArray)(w:World):yC 32 #[yi n,.string s] w (eP w ((bM n s:Nat):Int) (dz n s) (gJ n s) (iF n s) (dF n s)):=by
 unfold bM dz gJ iF
 by_cases h:dF n s=0
 ·rw[if_pos h,if_pos h,if_pos h,if_pos h]
  have i:dK n≠0:=fun i=>by
   unfold dF at h;rw[if_pos i] at h;omega
  obtain⟨b,d,o⟩:=fF i;have j:=fun a=>uM n s a h
  have l:=fun a=>Gz n.toNat ⟨b,d⟩ (aZ n.toNat s) (aR n.toNat s) (aU n.toNat s) a (vW ⟨b,d⟩ s) (GM ⟨b,d⟩ s)
  rw[h];generalize n.toNat=k at*;generalize dh k (aZ k s) (aR k s) (aU k s)=c at*;generalize kt k (aZ k s) (aR k s) (aU k s)=g at*;generalize ge k (aZ k s) (aR k s) (aU k s)=m at*;generalize gw k (aZ k s) (aR k s) (aU k s)=p at*;generalize aZ k s=ng at*;generalize aR k s=e at*;generalize aU k s=f at*
  rcases bO ⟨b,d⟩ with rfl|rfl|rfl|rfl|rfl|rfl|rfl|rfl
  all_goals exact Xt _ _ _ _ _ _ _ _ _ _ ng e f _ _ _ _ s w j l
 ·rw[if_neg h,if_neg h,if_neg h,if_neg h]
  exact Pk n _ h s w (fun a=>tA n s a h)
abbrev afp:=wrd1_mg.1
abbrev afq:=wrd1_mg.2
abbrev aa4:=refNothing_1_mg.1
abbrev aa5:=refNothing_1_mg.2.1
abbrev aa6:=refNothing_1_mg.2.2
theorem RVG.near {w:World}{c:Int}{g:Bool}{t:ak}{fl:Int}{z:Ending}{w':World}(h:RVG w c g t fl z w'):RVF w c g t fl z w':=by
 obtain⟨s,a,b,-,d⟩:=h;exact⟨s,a,b,d⟩
theorem mI {R D L G:Int}{gr s:Bool}{d:Nat}{p:Int}(j:bk R D L G=0)(h:ia R D L G gr d p):dA R D L G gr (bare ⟨s,d,(ai R:Int)*p⟩).n (bare ⟨s,d,(ai R:Int)*p⟩).e=true:=by
 obtain⟨-,a,-,-,-,-,-,k,-⟩:=cB j;rw[nN gr _ k]
 rcases h with⟨rfl,rfl⟩| ⟨b,c,f,g,i⟩
 ·exact tO R D L G gr _
 ·rw[tN a g c i b]
  exact decide_eq_true f
theorem jp.store {w:World}{base g n cap:Nat}{a:List Bool}(h:jp w base (.slice (some ⟨g,0,none⟩) n cap) a)(b:n=a.length)(j:Nat)(x:Bool):
  jp (w.setCell ⟨g,j,none⟩ (.bool x)) base (.slice (some ⟨g,0,none⟩) n cap) (a.set j x):=by
 subst b;have:=(World.ownsRow.stored h j (.bool x)).1;unfold jp;rw[List.length_set,List.map_set];exact this
theorem Jj {k:Nat}(a:1≤k∧k≤8){c:Int}{ng:Bool}{xs:List Nat}{p:Int}(E:Dg.Small 4294967296 xs)(h:gI k c ng xs p=0)(t:ByteArray)(i:fq k c ng xs p=t):
  gI k c ng (Dg.dg 4294967296 (ge k (aZ k t) (aR k t) (aU k t))) (gw k (aZ k t) (aR k t) (aU k t))=0∧fq k c ng (Dg.dg 4294967296 (ge k (aZ k t) (aR k t) (aU k t))) (gw k (aZ k t) (aR k t) (aU k t))=t:=by
 obtain⟨F,w,G,f,b,x,H⟩:=oJ a E h;rw[i] at F w G f b x
 by_cases j:c=2
 ·obtain⟨m,O,y,s⟩:=x j
  rw[O] at w⊢;have d:dh k ng (aR k t) (aU k t)=2:=by omega
  have g:=rT a f b (mZ a b) d y;rw[s] at g;have I:ge k ng (aR k t) (aU k t)≠0:=fun q=>by
   have z:(bare ⟨ng,ge k ng (aR k t) (aU k t),(ai (rdN k):Int)*gw k ng (aR k t) (aU k t)⟩).n=0:=(fI _).2 q;rw[g,←s] at z;exact y ((fI _).1 z)
  subst j;obtain⟨U,W⟩:=xH a (ng:=ng) (q:=p) m;rw[U] at h;rw[W] at i;have N:ge k ng (aR k t) (aU k t)<2^64:=by
   unfold ge;rw[if_pos d];exact Nat.lt_of_le_of_lt (GI _ _ _ _) (vS a _ (mZ a b))
  have a1:(Dg.dg 4294967296 (ge k ng (aR k t) (aU k t))).length≤2:=jq N (by omega);have l:chk (Dg.dg 4294967296 (ge k ng (aR k t) (aU k t)))=0:=pJ (Dg.norm_dg _ _ (by omega)) (by omega);obtain⟨X,Y⟩:=xH a (ng:=ng) (q:=gw k ng (aR k t) (aU k t)) l;have u:=Dg.vl_dg 4294967296 (ge k ng (aR k t) (aU k t)) (by omega);have C: ¬(p< -20000∨20000<p):=fun q=>by
   unfold enE at h;rw[if_pos q] at h;omega
  have B:xs.length≠0:=fun q=>by
   unfold enE at h;rw[if_neg C,if_pos q] at h;omega
  have P:=mY a (ng:=ng) m B C;have A:inR (rdN k) (dgN k) (lsI k) (gsI k) (decide (k≤3)) (bare ⟨ng,Dg.vl 4294967296 xs,(ai (rdN k):Int)*p⟩).n (bare ⟨ng,Dg.vl 4294967296 xs,(ai (rdN k):Int)*p⟩).e=true:=by
   refine Decidable.byContradiction fun c=> ?_
   rw[h,if_neg c] at P;omega
  obtain⟨g1,g2⟩:=Gm a;have K:(bare ⟨ng,Dg.vl 4294967296 xs,(ai (rdN k):Int)*p⟩).n≠0:=fun q=>JN m B ((fI _).1 q)
  have a0: -16445≤(bare ⟨ng,Dg.vl 4294967296 xs,(ai (rdN k):Int)*p⟩).e∧(bare ⟨ng,Dg.vl 4294967296 xs,(ai (rdN k):Int)*p⟩).e≤16384:=by
   have:=A;unfold inR at this
   rcases of_decide_eq_true this with q|q
   ·exact absurd q K
   ·omega
  have J: ¬(gw k ng (aR k t) (aU k t)< -20000∨20000<gw k ng (aR k t) (aU k t)):=by
   have r:=iq a f b d;rw[zr,s] at r
   by_cases D:rdN k=2
   ·obtain⟨-,v⟩:=Va a f b (mZ a b) d D
    rw[v,r];omega
   ·have Q:rdN k=16:=by rcases bO a with rfl|rfl|rfl|rfl|rfl|rfl|rfl|rfl<;>revert D<;>decide
    obtain⟨Z,v,-⟩:=I5 a f b (mZ a b) d Q;rw[r] at Z v;omega
  have M:(Dg.dg 4294967296 (ge k ng (aR k t) (aU k t))).length≠0:=fun q=>I ((Dg.dg_nil_iff 4294967296 _ (by omega)).1 (List.length_eq_zero_iff.1 q))
  have o:enE k ng (Dg.dg 4294967296 (ge k ng (aR k t) (aU k t))) (gw k ng (aR k t) (aU k t))=0:=by
   rw[mY a l M J,u,g,if_pos A]
  refine⟨by rw[X];exact o, ?_⟩;rw[Y,←i];rw[←i] at o l u g;exact Oe E (Dg.small_dg _ _ (by omega)) m l h o (by rw[u];exact g)
 ·obtain⟨S,T⟩:=H j
  have d:dh k (aZ k t) (aR k t) (aU k t)≠2:=fun q=>j (by omega)
  have R:xs=[]:=List.length_eq_zero_iff.1 S;subst R;subst T;have L:Dg.dg 4294967296 0=[]:=(Dg.dg_nil_iff 4294967296 0 (by omega)).2 rfl;unfold ge gw;rw[if_neg d,if_neg d,L];exact⟨h,i⟩
theorem sF.off {w w':World}{n:Int}{e:List ByteArray}{g cap b:Nat}{y:TypeId}{f:List Value}(h:sF w n e g cap)(a:But b w w')(q:au w b y f)(s: ∀x∈f,∀k:Int,x≠ .int .u32 k)(m:g≠b):sF w' n e g cap:=
 ⟨h.fit,h.most,fun i p r=>by
  obtain⟨u,t,l,d⟩:=h.each i p r;exact⟨u,t,fun j v o=>by rw[a.c (by exact m)];exact l j v o,a.rd d (aX d q s)⟩⟩
theorem Pw (k:Nat)(f:1≤k∧k≤8)(a:Int)(g:1≤a∧a≤5)(ng:Bool)(w:World):yC 149 #[dsk k a,.bool ng] w (iT w (ovV k a ng).1 (ovV k a ng).2.1 (ovV k a ng).2.2.1 (ovV k a ng).2.2.2):=by
 unfold ovV;have d:=fun b=>Ba k f a ng b
 unfold dsk at d⊢
 rcases qt f with h|h|h
 ·rw[h] at d⊢
  rw[if_neg (by decide)]
  by_cases e:aaV a ng=true
  ·rw[if_pos ⟨rfl,e⟩]
   exact abM _ _ _ _ _ _ _ _ w (fun b=>by have:=CT k a 1 (rdN k) (dgN k) (lsI k) (gsI k) (decide (k≤3)) ng g b;rw[e] at this;exact this)
  ·rw[if_neg (fun c=>e c.2)]
   exact abN _ _ _ _ _ _ _ _ _ w (fun b=>by have:=CT k a 1 (rdN k) (dgN k) (lsI k) (gsI k) (decide (k≤3)) ng g b;rw[show aaV a ng=false by simpa using e] at this;exact this) (fun b _=>d b)
 ·rw[h] at d⊢
  rw[if_neg (by decide),if_neg (fun c=>absurd c.1 (by decide))]
  exact ado _ _ _ _ _ _ _ _ _ w (fun b _=>d b)
 ·rw[h,if_pos rfl]
  exact adn _ _ _ _ _ _ _ _ w (fun b=>A5 3 (.inr (.inr rfl)) b)
theorem Px (k:Nat)(j:1≤k∧k≤8)(a:Int)(l:1≤a∧a≤5)(P:fz)(f:Option Addr)(g:Nat)(w:World)(i:Rd w .u32 (yT f P.d g) (Dg.dg 4294967296 P.d)):
  yC 111 #[dsk k a,ypV P.s (yT f P.d g) P.p P.ex P.ov P.un] w (B6 w (pG k a P).1 (pG k a P).2.1 (pG k a P).2.2.1 (pG k a P).2.2.2.1 (pG k a P).2.2.2.2):=by
 obtain⟨q,e,o,u,n,r⟩:=P;unfold pG;simp only at i⊢
 cases n
 ·rw[if_neg (by decide)]
  by_cases b:r=true∧o<lsI k
  ·rw[if_pos b]
   obtain⟨rfl,b⟩:=b;exact OU _ _ _ _ _ _ _ _ _ _ _ _ _ _ w b
  ·rw[if_neg b]
   have m:(if e=0 then(1:Int) else 2)=if(Dg.dg 4294967296 e).length=0 then 1 else 2:=by
    by_cases h:e=0
    ·rw[if_pos h,if_pos (by rw[h];rfl)]
    ·rw[if_neg h,if_neg (fun c=>h ((Dg.dg_nil_iff 4294967296 e (by omega)).1 (List.length_eq_zero_iff.1 c)))]
   exact Id _ _ _ _ _ _ _ _ _ _ _ _ _ _ _ e w rfl i (fun h c=>b ⟨h,c⟩) _ _ m rfl
 ·rw[if_pos rfl]
  exact Lr _ _ _ _ _ _ _ _ _ _ _ _ _ _ _ _ _ _ _ w (fun t _=>Pw k j a l q t)
theorem CZ (k:Nat)(f c p fl:Int)(g:Bool)(m:Nat)(a:Option Addr)(d:Nat)(w:World)(j:Rd w .u32 (yT a m d) (Dg.dg 4294967296 m))(i:Tab w):
  yC 110 #[dsk k f,yvV c g (yT a m d) p,yi fl] w (mM (Dw k c g m p fl) w):=by
 have:=It k f (dK k) (rdN k) (dgN k) (lsI k) (gsI k) c p fl _ (decide (k≤3)) g a (Dg.dg 4294967296 m).length d _ w (fun n e=>jj k c g a d (Dg.dg 4294967296 m) p n (j.l e) (Dg.small_dg _ _ (by omega)) (i.l e))
 refine this.mono (fun z w' h=>⟨?_,h.2⟩)
 rw[h.1];unfold Dw
 by_cases b:gI k c g (Dg.dg 4294967296 m) p=0
 ·rw[if_pos b,if_pos b]
 ·rw[if_neg b,if_neg b]
theorem refNothing_any (k:Nat)(b:1≤k∧k≤8)(w:World):yC 102 #[yi k] w (yR w (yoV (AZ (dK k)) false false yN 0)):=by
 have a:=fun c=>form_any k b c
 rcases qt b with h|h|h<;>rw[h] at a⊢
 ·exact aa4 _ _ _ _ _ _ _ _ _ _ w a
 ·exact aa5 _ _ _ _ _ _ _ _ _ _ w a
 ·exact aa6 _ _ _ _ _ _ _ _ _ _ w a
theorem placed_any (k:Nat)(r:1≤k∧k≤8)(m:Int)(Y:1≤m∧m≤5)(P:fz)(T:Plc k P)(H:Option Addr)(F:Nat)(w:World)(S:Rd w .i64 (yS H P.d F) (Dg.dg 65536 P.d)):
  yC 60 #[yi k,ypV P.s (yS H P.d F) P.p P.ex P.ov P.un,yi m] w (RVG w (plV k m P).1 (plV k m P).2.1 (plV k m P).2.2.1 (plV k m P).2.2.2):=by
 have e:=fun a=>form_any k r a
 have I:=fun a=>refNothing_any k r a
 have z:=fun g a=>refGreatest_any k r g a
 have J:=fun g a=>refZero_any k r g a
 have u:=fun D L G gr a=>refW_any k r D L G gr a
 have Z:=eN (rdN k);obtain⟨K,M,N,O,Q⟩:=T;obtain⟨i,x,y,j,X,C⟩:=P;simp only at K M N O Q S;unfold plV;simp only
 cases X
 ·rw[if_neg (by decide)]
  by_cases n:C=true∧y<lsI k
  ·rw[if_pos n]
   obtain⟨rfl,n⟩:=n;have f:dK k≠1:=fun c=>absurd (K c n) (by decide)
   have E:1<dK k:=by rcases qt r with h|h|h<;>omega
   have o:(false&&decide (dK k=1))=false:=rfl;have q:=J false;rw[o] at q;exact refPl_low j false _ _ _ _ _ _ _ _ _ _ _ _ _ _ _ _ _ w (by simpa using f) E n e q
  rw[if_neg n]
  by_cases A:x=0
  ·rw[if_pos A]
   subst A;have f:=N rfl rfl;have q:=J i;rw[show(i&&decide (dK k=1))=i from by rw[f];simp] at q
   rw[f] at e
   cases j<;>cases C
   ·exact aeG i _ _ _ _ _ _ _ _ _ _ _ _ _ _ _ _ w e q
   ·exact aeh i _ _ _ _ _ _ _ _ _ _ _ _ _ _ _ w e q
   ·exact aeE i _ _ _ _ _ _ _ _ _ _ _ _ _ _ _ _ w e q
   ·exact aef i _ _ _ _ _ _ _ _ _ _ _ _ _ _ _ w e q
  rw[if_neg A];have o:(((Dg.dg 65536 x).length:Int)==0)=false:=by
   have:(Dg.dg 65536 x).length≠0:=fun c=>A ((Dg.dg_nil_iff 65536 _ (by omega)).1 (List.length_eq_zero_iff.1 c))
   simpa using this
  have B:=(Q rfl).resolve_left n;have v:IntKind.i64.wrap ((ai (rdN k):Int)*y)=(ai (rdN k):Int)*y:=by
   have:=CU (R:=(rdN k:Int)) B.1 B.2;exact IntWalk.i64_in _ ⟨by omega,by omega⟩
  have t: ∀a,yB w a→yC 20 #[ydV i (yS H x F) ((ai (rdN k):Int)*y)] a (di a (bare ⟨i,x,(ai (rdN k):Int)*y⟩)):=fun a b=>by
   have:=CU (R:=(rdN k:Int)) B.1 B.2;exact lA _ ⟨i,x,(ai (rdN k):Int)*y⟩ a ⟨_,rfl,S.l b⟩ O (by simp only;omega) (by simp only;omega)
  by_cases f:dK k=1
  ·rw[f] at e
   cases j<;>cases C
   ·exact aeH _ _ _ _ _ _ _ _ _ _ _ _ _ _ _ _ _ _ _ _ w o v e (fun a=>u _ _ _ _ a) t
   ·exact aei _ _ _ _ _ _ _ _ _ _ _ _ _ _ _ _ _ _ _ w o v e (fun a=>u _ _ _ _ a) t
   ·exact aeF _ _ _ _ _ _ _ _ _ _ _ _ _ _ _ _ _ _ _ _ w o v e (fun a=>u _ _ _ _ a) t
   ·exact aeg _ _ _ _ _ _ _ _ _ _ _ _ _ _ _ _ _ _ _ w o v e (fun a=>u _ _ _ _ a) t
  ·have E:1<dK k:=by rcases qt r with h|h|h<;>omega
   cases j<;>cases C
   ·exact aeH _ _ _ _ _ _ _ _ _ _ _ _ _ _ _ _ _ _ _ _ w o v e (fun a=>u _ _ _ _ a) t
   ·exact aeI _ _ _ _ _ _ _ _ _ _ _ _ _ _ _ _ _ _ _ _ w (by simpa using f) E (fun c=>n ⟨rfl,c⟩) o v e (fun a=>u _ _ _ _ a) t
   ·exact aeF _ _ _ _ _ _ _ _ _ _ _ _ _ _ _ _ _ _ _ _ w o v e (fun a=>u _ _ _ _ a) t
   ·exact absurd (M f rfl rfl rfl) (fun c=>n ⟨rfl,c⟩)
 ·rw[if_pos rfl]
  rcases qt r with f|f|f
  ·rw[if_neg (by omega)]
   rw[f] at e;have W:m=1∨m=2∨m=3∨m=4∨m=5:=by omega
   rcases W with rfl|rfl|rfl|rfl|rfl
   ·rw[if_pos ⟨f,rfl⟩]
    exact refPl_u1 j _ _ _ _ _ _ _ _ _ _ _ _ _ _ _ _ w e
   ·rw[if_pos ⟨f,rfl⟩]
    exact refPl_u2 j _ _ _ _ _ _ _ _ _ _ _ _ _ _ _ _ w e
   ·have U:aaV 3 i=false:=by cases i<;>rfl
    rw[if_neg (by rw[U];simp)];exact refPl_i3 j _ _ _ _ _ _ _ _ _ _ _ _ _ _ _ _ _ w e (fun a=>z i a)
   ·cases i
    ·rw[if_pos ⟨f,rfl⟩]
     exact refPl_u4 j _ _ _ _ _ _ _ _ _ _ _ _ _ _ _ w e
    ·rw[if_neg (by simp[aaV])]
     exact refPl_i4 j _ _ _ _ _ _ _ _ _ _ _ _ _ _ _ _ w e (fun a=>z true a)
   ·cases i
    ·rw[if_neg (by simp[aaV])]
     exact refPl_i5 j _ _ _ _ _ _ _ _ _ _ _ _ _ _ _ _ w e (fun a=>z false a)
    ·rw[if_pos ⟨f,rfl⟩]
     exact refPl_u5 j _ _ _ _ _ _ _ _ _ _ _ _ _ _ _ w e
  ·rw[if_neg (by omega),if_neg (fun c=>by omega)]
   rw[f] at e;exact refPl_o2 j _ _ _ _ _ _ _ _ _ _ _ _ _ _ _ _ _ _ w e (fun a=>z i a)
  ·rw[if_pos f]
   rw[f] at e I;exact refPl_o3 j _ _ _ _ _ _ _ _ _ _ _ _ _ _ _ _ _ w e I
theorem XP {k:Nat}(b:1≤k∧k≤8)(s:ByteArray):
  cC (ix (Dg.dg 4294967296 (ge k (aZ k s) (aR k s) (aU k s))) (gw k (aZ k s) (aR k s) (aU k s)) (rdN k) (dgN k) (lsI k) (gsI k)) ⟨kt k (aZ k s) (aR k s) (aU k s),Dg.vl 4294967296 (Dg.dg 4294967296 (ge k (aZ k s) (aR k s) (aU k s))),(ai (rdN k):Int)*gw k (aZ k s) (aR k s) (aU k s)⟩=(nxT k s,0):=by
 by_cases a:dh k (aZ k s) (aR k s) (aU k s)=2
 ·exact EX b s (.inr a)
 ·have e:=(eR b).2.2.2.2.2.2.2.2.2.2.2
  have c:ge k (aZ k s) (aR k s) (aU k s)=0:=if_neg a;have d:gw k (aZ k s) (aR k s) (aU k s)=0:=if_neg a;have f:Dg.dg 4294967296 0=[]:=(Dg.dg_nil_iff _ _ (by omega)).2 rfl;rw[c,d,f,kA (by decide) e (by decide)];unfold nxT;rw[Fm b a];exact uR _ _
theorem zj n (s:ByteArray)(w:World)(hT:Tab w):yC 9 #[yi n,.string s] w (Ys w ((bM n s:Nat):Int) (dz n s) (gJ n s) (iF n s) (opT n s) (dF n s)):=by
 have g:=fun c=>fR n s c
 by_cases a:dF n s=0
 ·have d:dK n≠0:=fun d=>by
   unfold dF at a;rw[if_pos d] at a;omega
  obtain⟨e,f,p⟩:=fF d;obtain⟨k,rfl⟩: ∃k:Nat,n=(k:Int):=⟨n.toNat,p.symm⟩;rw[Int.toNat_natCast] at e f;have t:1≤k∧k≤8:=⟨e,f⟩;have h:dz (k:Int) s=kt k (aZ k s) (aR k s) (aU k s):=by
   unfold dz;rw[if_pos a,Int.toNat_natCast]
  have i:gJ (k:Int) s=ge k (aZ k s) (aR k s) (aU k s):=by
   unfold gJ;rw[if_pos a,Int.toNat_natCast]
  have o:iF (k:Int) s=gw k (aZ k s) (aR k s) (aU k s):=by
   unfold iF;rw[if_pos a,Int.toNat_natCast]
  have m:opT (k:Int) s=nxT k s:=by
   unfold opT;rw[if_pos a,Int.toNat_natCast]
  rw[a] at g⊢;rw[m];refine abe (k:Int) _ _ _ _ _ _ _ _ _ (nxT k s) s w (fun c=>vj k t c) g (fun v u c b r=> ?_)
  have A:=XP t s;have j:=fun x (q:yB c x)=>kB (rdN k) (dgN k) (lsI k) (gsI k) (decide (k≤3)) (dz (k:Int) s) v u _ (iF (k:Int) s) false false false x (r.l q) (Dg.small_dg 4294967296 _ (by omega)) (hT.l (aa b q))
  rw[h,i,o] at j⊢;rw[A] at j;exact IY _ _ _ _ _ _ 0 _ _ v _ u (nxT k s) c j
 ·have z:bM n s=0:=if_neg a
  have h:dz n s=false:=if_neg a;have i:gJ n s=0:=if_neg a;have o:iF n s=0:=if_neg a;have m:opT n s=⟨false,0,0⟩:=if_neg a;rw[z,h,i,o,m]
  by_cases d:dK n=0
  ·have y:dF n s=6:=by
    unfold dF;rw[if_pos d]
   rw[y];exact afp n 6 (by decide) s w (fun c=>vU n c d)
  ·obtain⟨e,f,p⟩:=fF d
   obtain⟨k,rfl⟩: ∃k:Nat,n=(k:Int):=⟨n.toNat,p.symm⟩;rw[Int.toNat_natCast] at e f;exact afq (k:Int) _ a _ _ _ _ _ _ _ _ _ s w (fun c=>vj k ⟨e,f⟩ c) g
theorem fit_any (k:Nat)(q:1≤k∧k≤8)(way:Int)(qs:Bool)(f:Option Addr)(i:Nat)(xs:List Nat)(g:Option Addr)(j:Nat)(c:List Nat)(E:Int)(w:World)(A:Rd w .u32 (.slice f xs.length i) xs)(B:Rd w .u32 (.slice g c.length j) c)(F:Dg.Small 4294967296 xs)(G:Dg.Small 4294967296 c)(y:Tab w):
  yC 66 #[yi k,yrV qs (.slice f xs.length i) (.slice g c.length j) E,yi way] w (mM (fitT k way qs xs c E) w):=by
 unfold fitT;have t:=fun a (b:yB w a)=>jM qs f i xs g j c E (rdN k) (dgN k) (lsI k) (gsI k) (decide (k≤3)) way a (A.l b) (B.l b) F G
 have C:eE xs c E (rdN k) (dgN k) (lsI k) (gsI k) way=0→1≤way∧way≤5:=fun h=>way_is.1 (Nb h).2.2
 generalize K:df xs c E (rdN k) (dgN k) (lsI k) (gsI k) (decide (k≤3)) qs way=P at*;generalize J:eE xs c E (rdN k) (dgN k) (lsI k) (gsI k) way=D at*;exact afx k way (dK k) (rdN k) (dgN k) (lsI k) (gsI k) D (decide (k≤3)) qs f xs.length i g c.length j E P.s P.d P.p P.ex P.ov P.un (pG k way P).1 (pG k way P).2.1 (pG k way P).2.2.1 (pG k way P).2.2.2.1 (pG k way P).2.2.2.2 (Dw k (pG k way P).1 (pG k way P).2.1 (pG k way P).2.2.1 (pG k way P).2.2.2.1 (pG k way P).2.2.2.2).1 (Dw k (pG k way P).1 (pG k way P).2.1 (pG k way P).2.2.1 (pG k way P).2.2.2.1 (pG k way P).2.2.2.2).2.1 (Dw k (pG k way P).1 (pG k way P).2.1 (pG k way P).2.2.1 (pG k way P).2.2.2.1 (pG k way P).2.2.2.2).2.2 _ w (fun h=>by rw[if_neg h]) (fun h=>by rw[if_pos h]) (fun a=>mp k q a) (fun a b=>(t a b).mono (fun z w' h=>by
   obtain⟨v,u,o,x⟩:=h;obtain⟨n,m,e⟩:=o.rd.shape;subst e;exact⟨n,m,u,o.rd,x⟩)) (fun h n m a _ r=>Px k q way (C h) P n m a r) (fun _ I H a b r=>CZ k way _ _ _ _ _ I H a r (y.l b))
theorem fittedG_any (k:Nat)(d:1≤k∧k≤8)(a:Int)(m:iC a=true)(qs:Bool)(N M:Nat)(E:Int)(no f:Option Addr)(g e:Nat)(w:World)(j:N≠0)(i:M≠0)(u:Rd w .i64 (yS no N g) (Dg.dg 65536 N))(t:Rd w .i64 (yS f M e) (Dg.dg 65536 M))
  (q:(Dg.dg 65536 N).length≤20000) (p:(Dg.dg 65536 M).length≤20000) (n: -20000≤E) (o:E≤20000):
  yC 28 #[yi k,yrV qs (yS no N g) (yS f M e) E,yi a] w (RVG w (plV k a (cI (rdN k) (dgN k) (lsI k) (gsI k) (decide (k≤3)) qs N M E a)).1 (plV k a (cI (rdN k) (dgN k) (lsI k) (gsI k) (decide (k≤3)) qs N M E a)).2.1 (plV k a (cI (rdN k) (dgN k) (lsI k) (gsI k) (decide (k≤3)) qs N M E a)).2.2.1 (plV k a (cI (rdN k) (dgN k) (lsI k) (gsI k) (decide (k≤3)) qs N M E a)).2.2.2):=
 acs k _ _ _ (rdN k) (dgN k) (lsI k) (gsI k) _ _ a E _ (decide (k≤3)) _ _ qs N M no f g e (cI (rdN k) (dgN k) (lsI k) (gsI k) (decide (k≤3)) qs N M E a) _ w (fun c=>form_any k d c) (fun c b=>NT _ _ _ _ _ qs no g f e N M E a c (eR d).2.2.2.2.2.2.2.2.2.2.2 m (u.l b) (t.l b) q p j i n o) (fun s r c h=>placed_any k d a (way_is.1 m) _ (rnd_of d qs N M E a j i).plc s r c h)
theorem ZB6.off {w w':World}{q b:Nat}(h:ZB6 w q)(a:w.grownBy w' (some b))(f:q≠b):ZB6 w' q:=by
 obtain⟨c,g,d⟩:=h;exact⟨Nat.lt_of_lt_of_le c a.size,g,(a.block q c (by intro e;cases e;exact f rfl)).trans d⟩
theorem tRatio_any (t:ByteArray)(w:World)(d:TxW w):
  (raE t=0→yC 65 #[.string t] w (RtE w (raV t).1 (raV t).2.1 (raV t).2.2.1 (raV t).2.2.2 0))∧
  (raE t≠0→yC 65 #[.string t] w (yR w (.tuple #[yrV false yN yN 0,yi (raE t)]))):=by
 have c:=fun a (b:yB w a)=>read_any t a (d.l b)
 refine⟨fun h=> ?_,fun h=> ?_⟩
 ·obtain⟨f,g,i,j⟩:=nmV_zero h
  have e:yH w 106 #[.string t] (.tuple #[.agg #[.bool (nmV t).1.1,.string (nmV t).1.2.1,yi (nmV t).1.2.2],yi 0]):=fun a b=>by
   have:=c a b;unfold NmE at this;rw[show(nmV t).2=0 from h] at this
   exact this
  exact tRatio_ok _ _ _ _ _ _ _ t w e (fun a b=>ratio_any _ _ _ a f ((digB_iff _).1 g).2 i j (d.l b).1)
 ·exact tRatio_err (raE t) _ _ _ t w h c
theorem tParse_any (n:Int)(t:ByteArray)(way:Int)(w:World)(f:TxW w):yC 30 #[yi n,.string t,yi way] w (mM (psV n t way) w):=by
 unfold psV
 by_cases d:dK n=0
 ·rw[if_pos d]
  exact tparse_none n way t w (fun a=>by
   have:=fam_any n a;rw[d] at this;exact this)
 rw[if_neg d];have h:(dK n==0)=false:=by simpa using d
 have g:=fun a=>fam_any n a
 by_cases e:raE t=0
 rotate_left
 ·rw[if_pos e]
  exact tparse_err _ n way _ t w h e g (fun a b=>(tRatio_any t a (f.l b)).2 e)
 rw[if_neg (fun c=>c e)]
 obtain⟨j,m,v⟩:=fF d;obtain⟨k,rfl⟩: ∃i:Nat,n=(i:Int):=⟨n.toNat,v.symm⟩;rw[Int.toNat_natCast] at j m⊢;exact tparse_ok _ (k:Int) way _ _ _ _ _ _ t _ w h g (fun a b=>(tRatio_any t a (f.l b)).1 e) (fun p o r q a b s u=>fit_any k ⟨j,m⟩ way _ p o _ r q _ _ a s u (Dg.small_dg _ _ (by omega)) (Dg.small_dg _ _ (by omega)) (f.l b).1)
def mkB (n:Int)(t md:ByteArray):Bool:=decide ((psV n t 1).2.2=0)&&((psV n t 1).1.toList==md.toList)
theorem makes_any (n:Int)(t md:ByteArray)(w:World)(e:TxW w):yC 13 #[.string t,yi n,.string md] w (yR w (.bool (mkB n t md))):=by
 have a:=fun d (b:yB w d)=>tParse_any n t 1 d (e.l b)
 unfold mM at a;unfold mkB
 by_cases c:(psV n t 1).2.2=0
 rotate_left
 ·rw[decide_eq_false c,Bool.false_and]
  exact tmakes_err n _ _ t _ md w (by simpa using c) a
 rw[decide_eq_true c,Bool.true_and];rw[c] at a
 cases hb:(psV n t 1).1.toList==md.toList
 ·exact tmakes_no n _ t _ md w hb a
 ·exact tmakes_yes n _ t _ md w hb a
theorem num_of {n:Int}{s:ByteArray}(a:dF n s=0)(h:(wdV ((bM n s:Nat):Int)).2.2=false):(opT n s).n<2^64∧ -16500≤(opT n s).e∧(opT n s).e≤16500∧(opT n s).n≠0:=by
 have b:dK n≠0:=fun b=>by
  unfold dF at a;rw[if_pos b] at a;omega
 obtain⟨c,d,j⟩:=fF b;obtain⟨k,rfl⟩: ∃i:Nat,n=(i:Int):=⟨n.toNat,j.symm⟩;rw[Int.toNat_natCast] at c d;obtain⟨f,g⟩:=zl a;obtain⟨⟨m,o,p⟩,-,l⟩:=ir ⟨c,d⟩ a;exact⟨m,o,p,l (word_no f g h)⟩
def shE (n:Int)(s:ByteArray):Int:=gI n ((bM n s:Nat):Int) (dz n s) (Dg.dg 4294967296 (gJ n s)) (iF n s)
def shM (n:Int)(s:ByteArray):ByteArray:=fq n ((bM n s:Nat):Int) (dz n s) (Dg.dg 4294967296 (gJ n s)) (iF n s)
def shK (n:Int)(s:ByteArray):Nat:=shF (fun k=>mkB n (ptS n s k) (shM n s)) 59 1
def shV (n:Int)(s:ByteArray):ByteArray×Int:=
 if dF n s≠0 then(⟨#[]⟩,dF n s) else
  if(wdV ((bM n s:Nat):Int)).2.2=true then(wdS ((bM n s:Nat):Int) (dz n s),0) else
   if shE n s≠0 then(⟨#[]⟩,shE n s) else(ptS n s (shK n s),0)
theorem tShortest_any n (s:ByteArray)(w:World)(hT:TxW w):yC 4 #[yi n,.string s] w (yR w (.tuple #[.string (shV n s).1,yi (shV n s).2])):=by
 have f:=fun a (b:yB w a)=>zj n s a (hT.l b).1
 unfold shV
 by_cases i:dF n s=0
 rotate_left
 ·rw[if_pos i]
  exact tShort_err _ n _ _ _ _ _ s w i f
 rw[if_neg (fun c=>c i)]
 rw[i] at f;have g:=fun e d a=>wordOf_any ((bM n s:Nat):Int) (iF n s) (dz n s) e (Dg.dg 4294967296 (gJ n s)).length d a
 cases hw:(wdV ((bM n s:Nat):Int)).2.2
 rotate_left
 ·rw[if_pos rfl]
  rw[hw] at g;exact tShort_word _ n _ _ _ _ _ s w f g
 rw[if_neg (by decide)];rw[hw] at g;have m: ∀e d a,yB w a→Rd a .u32 (.slice e (Dg.dg 4294967296 (gJ n s)).length d) (Dg.dg 4294967296 (gJ n s))→yC 11 #[yi n,yvV ((bM n s:Nat):Int) (dz n s) (.slice e (Dg.dg 4294967296 (gJ n s)).length d) (iF n s)] a (yR a (.tuple #[.string (shM n s),yi (shE n s)])):=fun e d a b h=>jj n _ _ e d _ _ a h (Dg.small_dg _ _ (by omega)) (hT.l b).1
 by_cases j:shE n s=0
 rotate_left
 ·rw[if_pos j]
  exact tShort_enc _ _ _ n _ _ _ _ _ s w j f g m
 rw[if_neg (fun c=>c j)]
 rw[j] at m;obtain⟨o,p,q,r⟩:=num_of i hw;obtain⟨t,u,E,v,x⟩:=dc_all o p q r;exact tShort_num _ (shM n s) _ _ _ _ (fun k=>ptS n s k) (fun k=>mkB n (ptS n s k) (shM n s)) n _ _ _ _ _ s w f g m (fun D C a _ h=>decimalOf_any _ D C a h o p q r) (fun k A B z y a b h=>tprint_any _ _ _ k _ z y a h (hT.l b) t u A B (by omega) v x) (fun k a b=>makes_any n _ _ a (hT.l b))
theorem begun_ps:psV 2 ⟨#[48,46,49]⟩ 1=(tenS,1,0):=by kernel_rfl
theorem begun_sh:shV 2 tenS=(⟨#[49,101,45,49]⟩,0):=by kernel_rfl
theorem textBegun_any (w:World)(c:TxW w):yC 8 #[] w (yR w (.bool true)):=by
 refine textBegun_W tenS w (fun a b=> ?_) (fun a b=> ?_)
 ·have:=tParse_any 2 ⟨#[48,46,49]⟩ 1 a (c.l b)
  rw[begun_ps] at this;exact this
 ·have:=tShortest_any 2 tenS a (c.l b)
  rw[begun_sh] at this;exact this
theorem printOf_any (c:Int)(g:Bool)(x:ak)(k:Nat)(t:c=1∨c=2∨c=3∨c=4∨c=5)(F:c=4∨c=5→g=false)(G:c=2→x.n<2^64∧ -16500≤x.e∧x.e≤16500∧x.n≠0)(u:1≤k)(v:k≤60)(f:Option Addr)(d:Nat)(w:World)(y:Rd w .i64 (yS f x.n d) (Dg.dg 65536 x.n)):
  yC 26 #[yoV c g x.s (yS f x.n d) x.e,yi k] w (yR w (.string (rpR c g x k))):=by
 have C:=fun f d a=>refWord_any c g x t F f d a
 unfold rpR
 by_cases m:c=2
 ·subst m
  rw[if_pos rfl];obtain⟨o,p,q,r⟩:=G rfl;obtain⟨L,H⟩:=prR_nm g o p q r u v;have J:=dcP_in o p q r;have I: -5201≤prN (dcH x) (dcC x) (dcP x) k∧prN (dcH x) (dcC x) (dcP x) k≤5201:=by
   unfold prN
   split<;>omega
  rw[H];have K:=Lib.itoa_length_le (prN (dcH x) (dcC x) (dcP x) k) (by omega) (by omega);have l:(ByteArray.mk (Lib.itoa (prN (dcH x) (dcC x) (dcP x) k)).toArray).size≤100:=by rw[mk_size];omega
  have A:=fun a (_:yB w a)=>intText_any (prN (dcH x) (dcC x) (dcP x) k) a (by omega) (by omega)
  have B:yH w 56 #[.bool g,.string (dgS x k),yi (prN (dcH x) (dcC x) (dcP x) k)] (.string (nuS g (dgS x k) ⟨(Lib.itoa (prN (dcH x) (dcC x) (dcP x) k)).toArray⟩)):=fun a b=>by
   have i:=fun z (E:yB a z)=>A z (aa b E)
   by_cases j:1< (dgS x k).size
   ·cases g
    ·exact numeralOf_gp _ _ _ a (by omega) (by omega) l j i
    ·exact numeralOf_gn _ _ _ a (by omega) (by omega) l j i
   ·cases g
    ·exact numeralOf_lp _ _ _ a (by omega) (by omega) l j i
    ·exact numeralOf_ln _ _ _ a (by omega) (by omega) l j i
  have D: ∀f d a,yC 24 #[yoV 2 g x.s (yS f x.n d) x.e] a (yR a (.string ⟨#[]⟩)):=fun f d a=>refWord_2 g x f d a
  exact printOf_num (dgS x k) _ _ 2 k g x f d w y D (fun f d a _ h=>digitsOf_any x k f d a h o p q r u v) B
 ·rw[if_neg m]
  refine printOf_word (wdS c g) c k g x f d w y ?_ C
  rcases t with rfl|rfl|rfl|rfl|rfl
  ·cases g<;>kernel_rfl
  ·exact absurd rfl m
  ·cases g<;>kernel_rfl
  ·cases g<;>kernel_rfl
  ·cases g<;>kernel_rfl
theorem HdW.l {w wr w':World}{c d up:Value}{U:Nat}{b:List Value}{e:List ak}(h:HdW w c d up U b e wr)(a:yB wr w'):HdW w c d up U b e w':=
 ⟨aa h.1 a,h.2.1.l a,h.2.2.1.l a,h.2.2.2.1.l a,h.2.2.2.2.l a⟩
def hdL (k:Nat):List ak:=hdF (nbT k) (lsI k) (gsI k) (rdN k^ (dgN k-1)) (if decide (k≤3)=true then[nbT k 1 (lsI k)] else[]) (ai (rdN k))
theorem dec_of {k:Nat}(a:1≤k∧k≤8){c:Int}{g:Bool}{m:Nat}{p fl:Int}(h:(Dw k c g m p fl).2.2=0):
  dF k (Dw k c g m p fl).1=0∧((bM k (Dw k c g m p fl).1:Nat):Int)=c∧dz k (Dw k c g m p fl).1=g∧opT k (Dw k c g m p fl).1=if c=2 then bare ⟨g,m,(ai (rdN k):Int)*p⟩ else⟨false,0,0⟩:=by
 unfold Dw at h⊢
 by_cases b:gI k c g (Dg.dg 4294967296 m) p=0
 rotate_left
 ·rw[if_neg b] at h
  exact absurd h b
 rw[if_pos b];obtain⟨f,i,j,l,n,o,s⟩:=oJ a (Dg.small_dg _ _ (by omega)) b;simp only;have d:=nj a f;refine⟨d, ?_, ?_, ?_⟩
 ·unfold bM
  rw[if_pos d,Int.toNat_natCast];exact i
 ·unfold dz
  rw[if_pos d,Int.toNat_natCast];exact j
 ·unfold opT nxT
  rw[if_pos d,Int.toNat_natCast]
  by_cases e:c=2
  ·rw[if_pos e]
   obtain⟨-,q,t,r⟩:=o e;rw[iq a l n (by omega),wQ a,q,r,Dg.vl_dg _ _ (by omega)]
  ·rw[if_neg e]
   exact Fm a (by omega)
theorem fit_two {k:Nat}{P:fz}{g:Bool}{d:Nat}{a:Int}(b:P.s=g)(e:P.d=d)(f:P.p=a)(h:P.ov=false)(j:lsI k≤a)(i:d≠0): ∃fl,pG k 1 P=(2,g,d,a,fl):=by
 refine⟨if P.ex=true then 0 else if P.un=true then 3 else 1, ?_⟩
 unfold pG;rw[if_neg (by rw[h];decide),if_neg (by rintro⟨-,c⟩;omega),b,e,f,if_neg i]
theorem print_back {k:Nat}(J:1≤k∧k≤8){s:ByteArray}(hp:dF k s=0)(hc:bM k s=2)(he:gI k 2 (dz k s) (Dg.dg 4294967296 (gJ k s)) (iF k s)=0)
  {j:Nat} (Y:1≤j) (j2:j≤60) (hT:2^ (ai (rdN k)*dgN k)<10^ (j-1)):
  ∃fl,psV k (ptS k s j) 1=(fq k 2 (dz k s) (Dg.dg 4294967296 (gJ k s)) (iF k s),fl,0):=by
 obtain⟨⟨z,C,F⟩,i,a3,U,a4⟩:=num_back J hp hc he;have f:=a4 1 ⟨by decide,by decide⟩ false;unfold ptS;generalize opT k s=x at z C F i a3 U f⊢;clear a4;obtain⟨-,-,d1,-,-,-,Z,-,ac,-,-,hg⟩:=eR J;have I:(1:Int)≤(dgN k:Int):=by omega
 obtain⟨M,o2,v⟩:=mC (s:=x.s) (way:=1) I Z i U;obtain⟨N,q2,q3,q4⟩:=oj (s:=x.s) (way:=1) I Z i U;have a5:=nW I Z i (show(1:Nat)≠0 by omega) M o2
 unfold cvT at f;rw[if_pos rfl,fit_num J ⟨by decide,by decide⟩ ⟨z,C,F⟩ i] at f;unfold fY at f;rw[N] at v;generalize cI (rdN k) (dgN k) (lsI k) (gsI k) (decide (k≤3)) x.s x.n 1 x.e 1=P at M v N q2 a5 f;have l:P.d≠0:=by rw[q2];exact q4
 clear q2 q3 q4 o2;obtain⟨l,H,G1,a1,T⟩:=a5.resolve_left (fun c=>l c.1)
 obtain⟨a8,f0⟩:=fit_two N rfl rfl M H l;rw[f0] at f;have a6:bare ⟨x.s,x.n,x.e⟩=x:=a3;rw[a6] at v;obtain⟨O,b2,-⟩:=bare_parts l v;generalize P.d=d at l a1 T f O b2 v;generalize P.p=u at H G1 T f O b2 v;clear M N f0 a6;obtain⟨r0,δ,Q',m,M0,p,r1,r2,m0,a0,r3,r4⟩:=print_ra z C F i Y j2;have a2:m/2^tz m≠0:=fun c=>by
  have:=(odd_of m0).1;omega
 have t:=ps_fit J r0 (by rw[r4];exact a2);rw[r4] at t;simp only at t;have w:=near_cross (tz:=tz m) (wk:=(ai (rdN k):Int)*u) (e:=x.e) (xn:=x.n) (d:=d) r3 (odd_of m0).2.symm (by
  have e1:x.e.toNat+(-((ai (rdN k):Int)*u)).toNat=tz d+((ai (rdN k):Int)*u).toNat+(-x.e).toNat:=by omega
  rw[Nat.mul_assoc,←Nat.pow_add,e1,Nat.pow_add,Nat.pow_add,←Nat.mul_assoc,←Nat.mul_assoc,←O]) r2 r1
 obtain⟨n0,K⟩:=dg_round (k:=j) z C F i Y j2 rfl rfl;have W:=ten_move (P:=dcP x) (a:=dqN x) (b:=dqD x) (fun c=>by
  have:=(dc_less z C F i (dcP x)).1 c;omega) Y
 have S:0<dqD x*10^ (-((j:Int)-1-dcP x)).toNat:=Nat.mul_pos (Nat.pow_pos (by omega)) (Nat.pow_pos (by omega));rw[show x.n*2^x.e.toNat*10^ ((j:Int)-1-dcP x).toNat=dqN x*10^ ((j:Int)-1-dcP x).toNat from rfl,show(2:Nat)^ (-x.e).toNat=dqD x from rfl] at w
 generalize dqN x*10^ ((j:Int)-1-dcP x).toNat=y at w K W n0;generalize dqD x*10^ (-((j:Int)-1-dcP x)).toNat=g at w K W S n0;generalize prQ (dcH x) (dcC x) j=Q at w K r2;have a9:=Nat.div_add_mod y g;have ab:=Nat.mod_lt y S;have a7: ∀a:Nat,(0<dm ((a:Nat):Int) ((g:Nat):Int)→g<a)∧(dm ((a:Nat):Int) ((g:Nat):Int)=0→a=g)∧(dm ((a:Nat):Int) ((g:Nat):Int)<0→a<g):=fun a=>by
  unfold dm;refine⟨fun h=> ?_,fun h=> ?_,fun h=> ?_⟩
  all_goals
   split at h
   ·omega
   ·split at h<;>omega
 have hQ:2*(Q*g)≤2*y+g∧2*y≤2*(Q*g)+g:=by
  obtain⟨c1,c2,c3⟩:=a7 (y % g*2);rw[Nat.mul_comm Q]
  rcases K with⟨o,q⟩| ⟨o,-,q⟩| ⟨o,-,q⟩| ⟨o,q⟩
  ·have:=c1 o
   rw[q,Nat.mul_add,Nat.mul_one];omega
  ·have:=c2 o
   rw[q,Nat.mul_add,Nat.mul_one];omega
  ·have:=c2 o
   rw[q];omega
  ·have:=c3 o
   rw[q];omega
 obtain⟨u1,u2⟩:=dec_near S hT W hQ.1 hQ.2;have eD:((dgN k:Int)).toNat=dgN k:=Int.toNat_natCast _;obtain⟨t1,t2⟩:=near_move (A:=eZ (m/2^tz m) (p+(tz m:Int)-(ai (rdN k):Int)*u)) (B:=dX M0 (p+(tz m:Int)-(ai (rdN k):Int)*u)) (d:=d) (by rw[fw,eM];exact w) (Nat.mul_pos (Nat.pos_of_ne_zero l) (by rw[eM];exact Nat.mul_pos (Nat.pos_of_ne_zero a0) (bG _))) u1 u2;obtain⟨z1,z2,z3,z4⟩:=near_round (R:=(rdN k:Int)) (D:=(dgN k:Int)) (L:=lsI k) (G:=gsI k) (gr:=decide (k≤3)) (qs:=x.s) (E:=p+(tz m:Int)) (k:=u) I a2 a0 l a1 H T (by rw[eD];exact t1) (by rw[eD];exact t2);obtain⟨fl,f1⟩:=fit_two z1 z2 z3 (by rw[z4];exact decide_eq_false (by omega)) H l;rw[f1] at t;simp only at t f;unfold Dw at t f
 by_cases X:gI k 2 x.s (Dg.dg 4294967296 d) u=0
 ·rw[if_pos X] at t f
  refine⟨fl, ?_⟩;rw[t];have e:=congrArg Prod.fst f;simp only at e;rw[e]
 ·rw[if_neg X] at f
  have:=congrArg (fun r=>r.2.2) f
  exact absurd this X
theorem enc0_num {k:Nat}(a:1≤k∧k≤8)(g:Bool){m:Nat}{p:Int}(fl:Int)(l:m≠0)(f:ia (rdN k) (dgN k) (lsI k) (gsI k) (decide (k≤3)) m p):(Dw k 2 g m p fl).2.2=0:=by
 obtain⟨-,-,n,-,-,-,h,-,w,-,-,d⟩:=eR a;obtain⟨o,q,r,u,v,t⟩:=qj d f;have e:=mI (s:=g) d f;have b:chk (Dg.dg 4294967296 m)=0:=pJ (Dg.norm_dg _ _ (by omega)) (by omega);have j:(Dg.dg 4294967296 m).length≠0:=fun c=>l ((Dg.dg_nil_iff 4294967296 _ (by omega)).1 (List.length_eq_zero_iff.1 c))
 have i:enE k g (Dg.dg 4294967296 m) p=0:=by
  rw[mY a b j (by omega),Dg.vl_dg _ _ (by omega),jK _ _ h];rw[nN _ _ h] at e;rw[e,if_pos rfl]
 unfold Dw;rw[(xH a b).1,i,if_pos rfl]
theorem enc0_oth {k:Nat}(e:1≤k∧k≤8){c:Nat}(j:c=1∨c=3∨c=4∨c=5)(g:Bool)(fl:Int)(i:iR k c=true)(d:g=true→Bk k c=true):(Dw k c g 0 0 fl).2.2=0:=by
 have b: ¬(dK k=0∨(c:Int)<1∨5< (c:Int)):=by
  rcases qt e with h|h|h<;>omega
 have f:qX k c 0 g 0=0:=by
  unfold qX;rw[if_neg (by rw[i];decide),if_neg];rintro(h|h|h)
  ·omega
  ·exact h rfl
  ·rw[d h.1] at h
   exact absurd h.2 (by decide)
 have a:gI k c g (Dg.dg 4294967296 0) 0=0:=by
  unfold gI;rw[if_neg b,if_neg (fun h=>h (by decide)),if_neg (by omega),Int.toNat_natCast,Int.toNat_natCast]
  exact f
 unfold Dw;rw[a,if_pos rfl]
theorem enc0_plc {k:Nat}(a:1≤k∧k≤8)(b:Int)(P:fz)(h:Rnd k P)(fl:Int):(Dw k (pG k b P).1 (pG k b P).2.1 (pG k b P).2.2.1 (pG k b P).2.2.2.1 fl).2.2=0:=by
 have n:rdN k^dgN k-1≠0:=by
  rcases bO a with rfl|rfl|rfl|rfl|rfl|rfl|rfl|rfl<;>decide
 unfold pG
 by_cases j:P.ov=true
 ·simp only[if_pos j]
  unfold ovV
  rcases qt a with g|g|g
  ·have f: ¬dK k=3:=by omega
   simp only[if_neg f]
   by_cases m:aaV b P.s=true
   ·have i:dK k=1∧aaV b P.s=true:=⟨g,m⟩
    simp only[if_pos i];have f:=(fam_one a).1 g;exact enc0_oth a (c:=3) (by decide) P.s fl (by simp[iR,f]) (fun _=>rfl)
   ·have i: ¬(dK k=1∧aaV b P.s=true):=fun c=>m c.2
    simp only[if_neg i];exact enc0_num a P.s fl n (EV a)
  ·have f: ¬dK k=3:=by omega
   have i: ¬(dK k=1∧aaV b P.s=true):=fun c=>by omega
   simp only[if_neg f,if_neg i];exact enc0_num a P.s fl n (EV a)
  ·simp only[if_pos g]
   have o:6≤k:=by
    revert g
    rcases bO a with rfl|rfl|rfl|rfl|rfl|rfl|rfl|rfl<;>decide
   exact enc0_oth a (c:=5) (by decide) false fl (by simp[iR,o]) (fun c=>by cases c)
 simp only[if_neg j]
 by_cases l:P.un=true∧P.p<lsI k
 ·simp only[if_pos l]
  exact enc0_oth a (c:=1) (by decide) false fl rfl (fun c=>by cases c)
 simp only[if_neg l]
 by_cases e:P.d=0
 ·simp only[if_pos e]
  have f:=(fam_one a).1 (h.plc.nil (by simpa using j) e);rw[e,h.nil0 e];exact enc0_oth a (c:=1) (by decide) P.s fl rfl (fun _=>by simp[Bk];omega)
 ·simp only[if_neg e]
  exact enc0_num a P.s fl e (h.spot (by simpa using j) l e)
theorem OL {a b:ak}(c: ∃y,a=bare y)(d: ∃y,b=bare y):dJ (bare (cO a (dB b)))=bJ a b:=by
 obtain⟨y,rfl⟩:=c;obtain⟨z,rfl⟩:=d;rw[tM];exact lP y z
end Go.Proofs.YtlhkndcmbpcpgaaGreatDoor
