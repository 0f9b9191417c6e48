/-
  Texts laid together: Eg3, Eb2, Eb3, Eb4, Ar2, Rk2, Ra1, Pa2, Pa6, Ra2, Gq9, Rb3, Tx20.
-/
import Derived.Test.YtpgijbdgljkeeaaGreatDoorRows
import Derived.Test.YtpgijbdgljkeeaaGreatDoorUe05
namespace Go.Proofs.YtpgijbdgljkeeaaGreatDoor
open Go.RowKit
theorem JN {xs:List Nat}(hc:chk xs=0)(hx:xs.length≠0):Dg.vl 4294967296 xs≠0:=fun h=>by
 obtain⟨n1,-⟩:=aF hc;exact Dg.vl_ne_zero 4294967296 (by omega) xs (by intro e;subst e;simp at hx) n1 h
theorem qr {s:Bool}{n:Nat}{e:Int}(h:n≠0):(bare ⟨s,n,e⟩).s=s:=by
 unfold bare;rw[if_neg h]
theorem AW {k:Nat}{ng:Bool}{xs:List Nat}{p:Int}(hx:chk xs=0)(hl:xs.length≠0)(hp: ¬(p< -20000∨20000<p))(sa:Dg.Small 4294967296 xs)(hE:enE k ng xs p=0):
  (enN k ng xs p).1=bare ⟨ng,Dg.vl 4294967296 xs,(ai (rdN k):Int)*p⟩∧(Dg.dg 65536 (bare ⟨ng,Dg.vl 4294967296 xs,(ai (rdN k):Int)*p⟩).n).length≤20000∧ -79000≤(bare ⟨ng,Dg.vl 4294967296 xs,(ai (rdN k):Int)*p⟩).e∧(bare ⟨ng,Dg.vl 4294967296 xs,(ai (rdN k):Int)*p⟩).e≤200000:=by
 have h2:(enN k ng xs p).2=0:=by
  refine Decidable.byContradiction fun c=> ?_
  unfold enE at hE;rw[if_neg hp,if_neg hl,if_neg (fun h=>c h.1)] at hE
  omega
 have hr:=wI (show cC (ix xs p (rdN k) (dgN k) (lsI k) (gsI k)) ⟨ng,Dg.vl 4294967296 xs,(ai (rdN k):Int)*p⟩=((enN k ng xs p).1,0) from Prod.ext rfl h2)
 have hd:=hr.2;rw[hr.1] at hd;obtain⟨-,e1,e2⟩:=bL hd;have hb:=AE (t:=⟨ng,Dg.vl 4294967296 xs,(ai (rdN k):Int)*p⟩) (JN hx hl);have hl2:=KN sa (aF hx).2;refine⟨hr.1,Nat.le_trans hb.1 ?_,by omega,by omega⟩
 show(Dg.dg 65536 (Dg.vl 4294967296 xs)).length≤20000
 omega
theorem AF {k:Nat}(hk:1≤k∧k≤8){ng:Bool}{E F E' F':Nat}(hE:E<2^exN k)(hF:F<2^frN k)(hF64:F<2^64)(hc:dh k ng E F=2)(hE':E'<2^exN k)(hF':F'<2^frN k)(hF64':F'<2^64)(hc':dh k ng E' F'=2)
  (h:bare ⟨ng,iI k E F,(ai (rdN k):Int)*ii k E⟩=bare ⟨ng,iI k E' F',(ai (rdN k):Int)*ii k E'⟩):ge k ng E F=ge k ng E' F'∧gw k ng E F=gw k ng E' F':=by
 have hT:=iq hk hE hF hc;have hT':=iq hk hE' hF' hc';rw[zr,h] at hT;rw[zr,←hT] at hT'
 by_cases hr:rdN k=2
 ·obtain⟨v1,v2⟩:=Va hk hE hF hF64 hc hr
  obtain⟨u1,u2⟩:=Va hk hE' hF' hF64' hc' hr;rw[v1,v2,u1,u2,hT'];exact⟨rfl,rfl⟩
 ·have hr16:rdN k=16:=by rcases bO hk with rfl|rfl|rfl|rfl|rfl|rfl|rfl|rfl<;>revert hr<;>decide
  obtain⟨v1,v2,v3⟩:=I5 hk hE hF hF64 hc hr16;obtain⟨u1,u2,u3⟩:=I5 hk hE' hF' hF64' hc' hr16;rw[hT'] at u1 u2 u3;have hp:gw k ng E F=gw k ng E' F':=by omega
  rw[v3,u3,hp];exact⟨rfl,rfl⟩
theorem Q9 {k:Nat}(hk:1≤k∧k≤8){ng:Bool}{xs:List Nat}{p:Int}(sa:Dg.Small 4294967296 xs)(hx:chk xs=0)(hE:enE k ng xs p=0):
  (enS k ng xs p).size=szN k∧aZ k (enS k ng xs p)=ng∧aR k (enS k ng xs p)<2^exN k∧aU k (enS k ng xs p)<2^frN k∧dh k ng (aR k (enS k ng xs p)) (aU k (enS k ng xs p))=2∧iI k (aR k (enS k ng xs p)) (aU k (enS k ng xs p))≠0∧
   bare ⟨ng,iI k (aR k (enS k ng xs p)) (aU k (enS k ng xs p)),(ai (rdN k):Int)*ii k (aR k (enS k ng xs p))⟩=bare ⟨ng,Dg.vl 4294967296 xs,(ai (rdN k):Int)*p⟩:=by
 obtain⟨f1,f2,f3,f4,f5,f6,f7,f8,f9,f10,f11,hgc⟩:=eR hk;have hp: ¬(p< -20000∨20000<p):=fun h=>by
  unfold enE at hE;rw[if_pos h] at hE;omega
 have hl:xs.length≠0:=fun h=>by
  unfold enE at hE;rw[if_neg hp,if_pos h] at hE;omega
 have hvn:=JN hx hl;have hnum:=mY hk (ng:=ng) hx hl hp;have hin:inR (rdN k) (dgN k) (lsI k) (gsI k) (decide (k≤3)) (bare ⟨ng,Dg.vl 4294967296 xs,(ai (rdN k):Int)*p⟩).n (bare ⟨ng,Dg.vl 4294967296 xs,(ai (rdN k):Int)*p⟩).e=true:=by
  refine Decidable.byContradiction fun c=> ?_
  rw[hE,if_neg c] at hnum;omega
 have hbn:(bare ⟨ng,Dg.vl 4294967296 xs,(ai (rdN k):Int)*p⟩).n≠0:=fun hv=>hvn ((fI _).1 hv)
 have hbs:(bare ⟨ng,Dg.vl 4294967296 xs,(ai (rdN k):Int)*p⟩).s=ng:=qr hvn;have hbb:=iH ⟨ng,Dg.vl 4294967296 xs,(ai (rdN k):Int)*p⟩;have hheld:dA (rdN k) (dgN k) (lsI k) (gsI k) (decide (k≤3)) (bare ⟨ng,Dg.vl 4294967296 xs,(ai (rdN k):Int)*p⟩).n (bare ⟨ng,Dg.vl 4294967296 xs,(ai (rdN k):Int)*p⟩).e=true:=by
  rw[nN _ _ f7,←jK _ _ f7];exact hin
 have hS:enS k ng xs p=cF (kU k (plT k (bare ⟨ng,Dg.vl 4294967296 xs,(ai (rdN k):Int)*p⟩).s (bare ⟨ng,Dg.vl 4294967296 xs,(ai (rdN k):Int)*p⟩).n (bare ⟨ng,Dg.vl 4294967296 xs,(ai (rdN k):Int)*p⟩).e).s (heE (rdN k) (lsI k) (gW k) (plT k (bare ⟨ng,Dg.vl 4294967296 xs,(ai (rdN k):Int)*p⟩).s (bare ⟨ng,Dg.vl 4294967296 xs,(ai (rdN k):Int)*p⟩).n (bare ⟨ng,Dg.vl 4294967296 xs,(ai (rdN k):Int)*p⟩).e)) (plT k (bare ⟨ng,Dg.vl 4294967296 xs,(ai (rdN k):Int)*p⟩).s (bare ⟨ng,Dg.vl 4294967296 xs,(ai (rdN k):Int)*p⟩).n (bare ⟨ng,Dg.vl 4294967296 xs,(ai (rdN k):Int)*p⟩).e).d):=by
  unfold enS;rw[if_pos hE,(AW (k:=k) (ng:=ng) hx hl hp sa hE).1]
 rw[hbs] at hS;generalize bare ⟨ng,Dg.vl 4294967296 xs,(ai (rdN k):Int)*p⟩=T at*;obtain⟨p1,p2,p3,p4⟩:=oj (s:=ng) (way:=3) (by omega:(1:Int)≤(dgN k:Int)) f7 hbn hheld;obtain⟨ho,hu,hbr⟩:=mC (s:=ng) (way:=3) (by omega:(1:Int)≤(dgN k:Int)) f7 hbn hheld;have hsp:=(nW (by omega) f7 hbn (by omega) ho hu).resolve_left (fun c=>p4 (by rw[←p2];exact c.1))
 have hpl:cI (rdN k) (dgN k) (lsI k) (gsI k) (decide (k≤3)) ng T.n 1 T.e 3=plT k ng T.n T.e:=rfl;rw[hpl] at p1 hbr hsp;generalize plT k ng T.n T.e=pt at*;obtain⟨q0,q1,q2,q3,q4⟩:=hsp;have hdg:((dgN k:Int)-1).toNat=dgN k-1:=by omega
 rw[Int.toNat_natCast] at q3;rw[hdg] at q4;obtain⟨r1,r2,r3,r4⟩:=CQ hk ng pt q1 q2 q0 q3 (q4.imp_right (fun h=>⟨by simpa using h.1,h.2⟩))
 obtain⟨w1,w2,w3,w4⟩:=mS hk pt.s (heE (rdN k) (lsI k) (gW k) pt) pt.d;rw[Nat.mod_eq_of_lt r1] at w2;rw[hS,w1,w2,w3,w4];refine⟨rfl,p1,r1,Nat.mod_lt _ (Nat.pow_pos (by omega)),r2,by rw[r3];exact q0, ?_⟩;rw[r3,r4];rw[p1] at hbr;rw[hbr];have:(⟨ng,T.n,T.e⟩:ak)=T:=by
  cases T
  simp only at hbs⊢;rw[hbs]
 rw[this,hbb]
theorem Ry {k m:Nat}(hk:1≤k∧k≤8)(hm:m=1∨m=3∨m=4∨m=5)(g:Bool)(hs:iR k m=true)(hg:g=true→Bk k m=true):
  pg k m<2^exN k∧lS k m<2^frN k∧dh k (pI k m||g) (pg k m) (lS k m)=m∧kt k (pI k m||g) (pg k m) (lS k m)=g:=by
 revert hs hg
 rcases bO hk with rfl|rfl|rfl|rfl|rfl|rfl|rfl|rfl<;>rcases hm with rfl|rfl|rfl|rfl<;>cases g<;>decide
theorem nj {k:Nat}(hk:1≤k∧k≤8){s:ByteArray}(h:s.size=szN k):dF k s=0:=by
 have hf:dK k≠0:=by
  rcases bO hk with rfl|rfl|rfl|rfl|rfl|rfl|rfl|rfl<;>decide
 unfold dF;rw[if_neg hf,Int.toNat_natCast,if_pos h]
theorem oJ {k:Nat}(hk:1≤k∧k≤8){c:Int}{ng:Bool}{xs:List Nat}{p:Int}(sa:Dg.Small 4294967296 xs)(h:gI k c ng xs p=0):
  (fq k c ng xs p).size=szN k∧((dh k (aZ k (fq k c ng xs p)) (aR k (fq k c ng xs p)) (aU k (fq k c ng xs p)):Nat):Int)=c∧kt k (aZ k (fq k c ng xs p)) (aR k (fq k c ng xs p)) (aU k (fq k c ng xs p))=ng∧
   aR k (fq k c ng xs p)<2^exN k∧aU k (fq k c ng xs p)<2^frN k∧
   (c=2→chk xs=0∧aZ k (fq k c ng xs p)=ng∧iI k (aR k (fq k c ng xs p)) (aU k (fq k c ng xs p))≠0∧bare ⟨ng,iI k (aR k (fq k c ng xs p)) (aU k (fq k c ng xs p)),(ai (rdN k):Int)*ii k (aR k (fq k c ng xs p))⟩=bare ⟨ng,Dg.vl 4294967296 xs,(ai (rdN k):Int)*p⟩)∧
   (c≠2→xs.length=0∧p=0):=by
 by_cases hf:dK k=0∨c<1∨5<c
 ·unfold gI at h
  rw[if_pos hf] at h;omega
 ·by_cases hx:chk xs=0
  ·unfold gI at h
   rw[if_neg hf,if_neg (fun q=>q hx)] at h
   unfold fq;rw[if_neg hf,if_neg (fun q=>q hx)]
   rw[Int.toNat_natCast] at h⊢
   by_cases hc:c=2
   ·rw[if_pos hc] at h⊢
    obtain⟨e1,e2,e3,e4,e5,e6,e7⟩:=Q9 hk sa hx h;rw[e2];refine⟨e1,by rw[e5,hc];rfl,by unfold kt;rw[if_pos (by omega)],e3,e4,fun _=>⟨hx,rfl,e6,e7⟩,fun q=>absurd hc q⟩
   ·rw[if_neg hc] at h⊢
    obtain⟨m,hm⟩: ∃m:Nat,c=(m:Int):=⟨c.toNat,by omega⟩;subst hm;rw[Int.toNat_natCast] at h⊢;have h4:m=1∨m=3∨m=4∨m=5:=by omega
    have hs:iR k m=true:=by
     refine Decidable.byContradiction fun q=> ?_
     unfold qX at h;rw[if_pos (by simpa using q)] at h;omega
    have hbad: ¬(0<xs.length∨p≠0∨ng=true∧Bk k m=false):=fun q=>by
     unfold qX at h;rw[if_neg (by rw[hs];simp),if_pos q] at h;omega
    have hg:ng=true→Bk k m=true:=fun q=>by
     refine Decidable.byContradiction fun r=>hbad (.inr (.inr ⟨q,by simpa using r⟩))
    obtain⟨o1,o2,o3,o4⟩:=Ry hk h4 ng hs hg;obtain⟨w1,w2,w3,w4⟩:=mS hk (pI k m||ng) (pg k m) (lS k m)
    rw[Nat.mod_eq_of_lt o1] at w2;rw[Nat.mod_eq_of_lt o2] at w3;have hS:Fv k m xs.length ng p=cF (kU k (pI k m||ng) (pg k m) (lS k m)):=by
     unfold Fv;rw[if_pos h]
    rw[hS,w1,w2,w3,w4,o3,o4];refine⟨rfl,rfl,rfl,o1,o2,fun q=>absurd q hc,fun _=>⟨?_, ?_⟩⟩
    ·rcases Nat.eq_zero_or_pos xs.length with q|q
     ·exact q
     ·exact absurd (.inl q) hbad
    ·exact Decidable.byContradiction fun q=>hbad (.inr (.inl q))
  ·unfold gI at h
   rw[if_neg hf,if_pos hx] at h;exact absurd h hx
theorem Oe {k:Nat}{ng:Bool}{xs ys:List Nat}{p q:Int}(sa:Dg.Small 4294967296 xs)(sb:Dg.Small 4294967296 ys)(hx:chk xs=0)(hy:chk ys=0)(h:enE k ng xs p=0)(h':enE k ng ys q=0)
  (hb:bare ⟨ng,Dg.vl 4294967296 ys,(ai (rdN k):Int)*q⟩=bare ⟨ng,Dg.vl 4294967296 xs,(ai (rdN k):Int)*p⟩):enS k ng ys q=enS k ng xs p:=by
 have key: ∀(zs:List Nat) (r:Int),enE k ng zs r=0→ ¬(r< -20000∨20000<r)∧zs.length≠0:=fun zs r hz=>by
  have hp: ¬(r< -20000∨20000<r):=fun c=>by
   unfold enE at hz;rw[if_pos c] at hz;omega
  refine⟨hp,fun c=> ?_⟩
  unfold enE at hz;rw[if_neg hp,if_pos c] at hz;omega
 obtain⟨a1,a2⟩:=key xs p h;obtain⟨b1,b2⟩:=key ys q h';unfold enS;rw[if_pos h,if_pos h',(AW (k:=k) (ng:=ng) hx a2 a1 sa h).1,(AW (k:=k) (ng:=ng) hy b2 b1 sb h').1,hb]
theorem xH {k:Nat}(hk:1≤k∧k≤8){ng:Bool}{ys:List Nat}{q:Int}(hy:chk ys=0):gI k 2 ng ys q=enE k ng ys q∧fq k 2 ng ys q=enS k ng ys q:=by
 have hf: ¬(dK k=0∨(2:Int)<1∨(5:Int)<2):=by
  rcases bO hk with rfl|rfl|rfl|rfl|rfl|rfl|rfl|rfl<;>decide
 unfold gI fq;rw[if_neg hf,if_neg (fun c=>c hy),if_pos rfl,if_neg hf,if_neg (fun c=>c hy),if_pos rfl,Int.toNat_natCast]
 exact⟨rfl,rfl⟩
theorem Jj {k:Nat}(hk:1≤k∧k≤8){c:Int}{ng:Bool}{xs:List Nat}{p:Int}(sa:Dg.Small 4294967296 xs)(h:gI k c ng xs p=0)(t:ByteArray)(ht:fq k c ng xs p=t):
  gI k c ng (Dg.dg 4294967296 (ge k (aZ k t) (aR k t) (aU k t))) (gw k (aZ k t) (aR k t) (aU k t))=0∧fq k c ng (Dg.dg 4294967296 (ge k (aZ k t) (aR k t) (aU k t))) (gw k (aZ k t) (aR k t) (aU k t))=t:=by
 obtain⟨e1,e2,e3,e4,e5,e6,e7⟩:=oJ hk sa h;rw[ht] at e1 e2 e3 e4 e5 e6
 by_cases hc:c=2
 ·obtain⟨hx,hn,h0,hb⟩:=e6 hc
  rw[hn] at e2⊢;have hcl:dh k ng (aR k t) (aU k t)=2:=by omega
  have hbv:=rT hk e4 e5 (mZ hk e5) hcl h0;rw[hb] at hbv;have hM0:ge k ng (aR k t) (aU k t)≠0:=fun q=>by
   have h1:(bare ⟨ng,ge k ng (aR k t) (aU k t),(ai (rdN k):Int)*gw k ng (aR k t) (aU k t)⟩).n=0:=(fI _).2 q;rw[hbv,←hb] at h1;exact h0 ((fI _).1 h1)
  subst hc;obtain⟨t1,t2⟩:=xH hk (ng:=ng) (q:=p) hx;rw[t1] at h;rw[t2] at ht;have hlt:ge k ng (aR k t) (aU k t)<2^64:=by
   unfold ge;rw[if_pos hcl];exact Nat.lt_of_le_of_lt (GI _ _ _ _) (vS hk _ (mZ hk e5))
  have hlen:(Dg.dg 4294967296 (ge k ng (aR k t) (aU k t))).length≤2:=jq hlt (by omega);have hcy:chk (Dg.dg 4294967296 (ge k ng (aR k t) (aU k t)))=0:=pJ (Dg.norm_dg _ _ (by omega)) (by omega);obtain⟨u1,u2⟩:=xH hk (ng:=ng) (q:=gw k ng (aR k t) (aU k t)) hcy;have hvl:=Dg.vl_dg 4294967296 (ge k ng (aR k t) (aU k t)) (by omega);have hp: ¬(p< -20000∨20000<p):=fun q=>by
   unfold enE at h;rw[if_pos q] at h;omega
  have hl:xs.length≠0:=fun q=>by
   unfold enE at h;rw[if_neg hp,if_pos q] at h;omega
  have hnum:=mY hk (ng:=ng) hx hl hp;have hin:inR (rdN k) (dgN k) (lsI k) (gsI k) (decide (k≤3)) (bare ⟨ng,Dg.vl 4294967296 xs,(ai (rdN k):Int)*p⟩).n (bare ⟨ng,Dg.vl 4294967296 xs,(ai (rdN k):Int)*p⟩).e=true:=by
   refine Decidable.byContradiction fun c=> ?_
   rw[h,if_neg c] at hnum;omega
  obtain⟨g1,g2⟩:=Gm hk;have hTn:(bare ⟨ng,Dg.vl 4294967296 xs,(ai (rdN k):Int)*p⟩).n≠0:=fun q=>JN hx hl ((fI _).1 q)
  have hTe: -16445≤(bare ⟨ng,Dg.vl 4294967296 xs,(ai (rdN k):Int)*p⟩).e∧(bare ⟨ng,Dg.vl 4294967296 xs,(ai (rdN k):Int)*p⟩).e≤16384:=by
   have:=hin;unfold inR at this
   rcases of_decide_eq_true this with q|q
   ·exact absurd q hTn
   ·omega
  have hP: ¬(gw k ng (aR k t) (aU k t)< -20000∨20000<gw k ng (aR k t) (aU k t)):=by
   have hT:=iq hk e4 e5 hcl;rw[zr,hb] at hT
   by_cases hr:rdN k=2
   ·obtain⟨-,v2⟩:=Va hk e4 e5 (mZ hk e5) hcl hr
    rw[v2,hT];omega
   ·have hr16:rdN k=16:=by rcases bO hk with rfl|rfl|rfl|rfl|rfl|rfl|rfl|rfl<;>revert hr<;>decide
    obtain⟨v1,v2,-⟩:=I5 hk e4 e5 (mZ hk e5) hcl hr16;rw[hT] at v1 v2;omega
  have hdl:(Dg.dg 4294967296 (ge k ng (aR k t) (aU k t))).length≠0:=fun q=>hM0 ((Dg.dg_nil_iff 4294967296 _ (by omega)).1 (List.length_eq_zero_iff.1 q))
  have hE':enE k ng (Dg.dg 4294967296 (ge k ng (aR k t) (aU k t))) (gw k ng (aR k t) (aU k t))=0:=by
   rw[mY hk hcy hdl hP,hvl,hbv,if_pos hin]
  refine⟨by rw[u1];exact hE', ?_⟩;rw[u2,←ht];rw[←ht] at hE' hcy hvl hbv;exact Oe sa (Dg.small_dg _ _ (by omega)) hx hcy h hE' (by rw[hvl];exact hbv)
 ·obtain⟨l0,p0⟩:=e7 hc
  have hcl:dh k (aZ k t) (aR k t) (aU k t)≠2:=fun q=>hc (by omega)
  have hxs:xs=[]:=List.length_eq_zero_iff.1 l0;subst hxs;subst p0;have hd:Dg.dg 4294967296 0=[]:=(Dg.dg_nil_iff 4294967296 0 (by omega)).2 rfl;unfold ge gw;rw[if_neg hcl,if_neg hcl,hd];exact⟨h,ht⟩
theorem Ut {k:Nat}(hk:1≤k∧k≤8){s t:ByteArray}
  (h:gI k ((dh k (aZ k s) (aR k s) (aU k s):Nat):Int) (kt k (aZ k s) (aR k s) (aU k s)) (Dg.dg 4294967296 (ge k (aZ k s) (aR k s) (aU k s))) (gw k (aZ k s) (aR k s) (aU k s))=0)
  (ht:fq k ((dh k (aZ k s) (aR k s) (aU k s):Nat):Int) (kt k (aZ k s) (aR k s) (aU k s)) (Dg.dg 4294967296 (ge k (aZ k s) (aR k s) (aU k s))) (gw k (aZ k s) (aR k s) (aU k s))=t):
  t.size=szN k∧dh k (aZ k t) (aR k t) (aU k t)=dh k (aZ k s) (aR k s) (aU k s)∧kt k (aZ k t) (aR k t) (aU k t)=kt k (aZ k s) (aR k s) (aU k s)∧ge k (aZ k t) (aR k t) (aU k t)=ge k (aZ k s) (aR k s) (aU k s)∧gw k (aZ k t) (aR k t) (aU k t)=gw k (aZ k s) (aR k s) (aU k s):=by
 obtain⟨e1,e2,e3,e4,e5,e6,e7⟩:=oJ hk (Dg.small_dg 4294967296 _ (by omega)) h;rw[ht] at e1 e2 e3 e4 e5 e6;obtain⟨s1,s2⟩:=Cu k s;have hcc:dh k (aZ k t) (aR k t) (aU k t)=dh k (aZ k s) (aR k s) (aU k s):=by omega
 refine⟨e1,hcc,e3, ?_⟩
 by_cases hc:dh k (aZ k s) (aR k s) (aU k s)=2
 ·obtain⟨-,hn,h0,hb⟩:=e6 (by rw[hc];rfl)
  have hg:kt k (aZ k s) (aR k s) (aU k s)=aZ k s:=by
   unfold kt;rw[if_pos (by omega)]
  rw[hg] at hn hb;rw[Dg.vl_dg 4294967296 _ (by omega)] at hb;have hbv:=rT hk s1 s2 (mZ hk s2) hc (Nat.ne_of_gt (jX hc));rw[hbv] at hb;rw[hn] at hcc⊢;exact AF hk e4 e5 (mZ hk e5) (by omega) s1 s2 (mZ hk s2) hc hb
 ·unfold ge gw
  rw[if_neg (by omega),if_neg hc,if_neg (by omega),if_neg hc];exact⟨rfl,rfl⟩
theorem Nx {w w':World}{g:Nat}{k:IntKind}{v:Value}{zs:List Nat}(r:Rd w k v zs)(hg:w.grownBy w' (some g))(ho:wF g v zs):Rd w' k v zs:=by
 obtain⟨ao,cap,rfl,h1,h2,h3⟩:=r;refine⟨ao,cap,rfl,h1,h2,fun hp=> ?_⟩
 obtain⟨b,off,rfl,h4⟩:=h3 hp;refine⟨b,off,rfl,fun i hi=> ?_⟩
 have h5:=h4 i hi;have hlt:b<w.heap.size:=World.block_lt_of_cell? w _ h5;have hne:b≠g:=ho hp _ _ _ rfl;rw[←h5];unfold World.cell?;simp only;rw[hg.block b hlt (fun e=>hne (Option.some.inj e))]
theorem au.grownO {w w':World}{b:Nat}{ty:TypeId}{vs:List Value}{row:Option Nat}(h:au w b ty vs)(hg:w.grownBy w' row)(hne: ∀g,row=some g→b≠g):au w' b ty vs:=
 (hg.block b h.lt (fun e=>hne b e.symm rfl)).trans h
theorem Hv {w:World}{base base' e size k:Nat}{v:Value}{xs:List Value}(h:w.ownsRow base e size v k xs)(hb:base'≤base):w.ownsRow base' e size v k xs:=by
 obtain⟨hl,h2⟩:=h;refine⟨hl, ?_⟩
 rcases h2 with h2| ⟨g,cap,cur,hv,hbg,r⟩
 ·exact .inl h2
 ·exact .inr ⟨g,cap,cur,hv,Nat.le_trans hb hbg,r⟩
theorem wZ {n k:Nat}(h:bitLen n≤k):n<2^k:=Nat.lt_of_lt_of_le (bitLen_spec n).1 (Nat.pow_le_pow_right (by omega) h)
def gtT (k:Nat)(ng:Bool):ak:=bare ⟨ng,rdN k^dgN k-1,(ai (rdN k):Int)*gsI k⟩
def plV (k:Nat)(wy:Int)(P:fz):Int×Bool×ak×Int:=
 if P.ov=true then(if dK k=3 then(5,false,⟨false,0,0⟩,5) else if dK k=1∧aaV wy P.s=true then(3,P.s,⟨false,0,0⟩,5) else(2,P.s,gtT k P.s,5))
 else if P.un=true∧P.p<lsI k then(1,false,⟨false,0,0⟩,3)
 else if P.d=0 then(1,P.s,⟨false,0,0⟩,if P.ex=true then 0 else if P.un=true then 3 else 1)
 else(2,P.s,bare ⟨P.s,P.d,(ai (rdN k):Int)*P.p⟩,if P.ex=true then 0 else if P.un=true then 3 else 1)
structure Plc (k:Nat) (P:fz):Prop where
 low:dK k=1→P.p<lsI k→P.ov=true
 same:dK k≠1→P.ov=false→P.un=true→P.ex=true→P.p<lsI k
 nil:P.ov=false→P.d=0→dK k=1
 len:(Dg.dg 65536 P.d).length≤100000
 far:P.ov=false→(P.un=true∧P.p<lsI k)∨(-17000≤P.p∧P.p≤17000)
def fY (k:Nat)(wy:Int)(t:ak):fz:=cI (rdN k) (dgN k) (lsI k) (gsI k) (decide (k≤3)) t.s t.n 1 t.e wy
def m8 (k:Nat)(wy c:Int)(g:Bool)(t:ak)(fl:Int):ByteArray×Int×Int:=
 if c=2 then Dw k (pG k wy (fY k wy t)).1 (pG k wy (fY k wy t)).2.1 (pG k wy (fY k wy t)).2.2.1 (pG k wy (fY k wy t)).2.2.2.1 (bits .or .i64 fl (pG k wy (fY k wy t)).2.2.2.2)
 else if c=1 then Dw k 1 (g&&decide (dK k=1)) 0 0 fl else Dw k c g 0 0 fl
theorem EV {k:Nat}(hk:1≤k∧k≤8):ia (rdN k) (dgN k) (lsI k) (gsI k) (decide (k≤3)) (rdN k^dgN k-1) (gsI k):=by
 refine .inr ?_
 rcases bO hk with rfl|rfl|rfl|rfl|rfl|rfl|rfl|rfl<;>decide
theorem fam_one {k:Nat}(hk:1≤k∧k≤8):dK k=1↔k≤3:=by
 rcases bO hk with rfl|rfl|rfl|rfl|rfl|rfl|rfl|rfl<;>decide
structure Rnd (k:Nat) (P:fz):Prop where
 plc:Plc k P
 nil0:P.d=0→P.p=0
 spot:P.ov=false→ ¬(P.un=true∧P.p<lsI k)→P.d≠0→ia (rdN k) (dgN k) (lsI k) (gsI k) (decide (k≤3)) P.d P.p
theorem rnd_of {k:Nat}(hk:1≤k∧k≤8)(s:Bool)(N M:Nat)(E way:Int)(hN:N≠0)(hM:M≠0):Rnd k (cI (rdN k) (dgN k) (lsI k) (gsI k) (decide (k≤3)) s N M E way):=by
 obtain⟨-,-,d1,-,l1,l0,lg,g2,w64,-,ww,hg⟩:=eR hk;have hD:(1:Int)≤(dgN k:Int):=by omega
 have hfk:=fam_one hk;have hrs:=nW (R:=(rdN k:Int)) (D:=(dgN k:Int)) (L:=lsI k) (G:=gsI k) (gr:=decide (k≤3)) (qs:=s) (N:=N) (M:=M) (E:=E) (way:=way) hD lg hN hM;rw[kJ _ s N M E way hD lg hN hM] at hrs⊢;have hwl:=rP (rdN k) (dgN k) (lsI k) (decide (k≤3)) N M E hD hN hM;have hwp:=Vf (rdN k) (dgN k) (lsI k) (decide (k≤3)) N M E hD hN hM;have hds:=uh (rdN k) (dgN k) (lsI k) (decide (k≤3)) N M E hD hN hM (dj (rdN k) (dgN k) (lsI k) (decide (k≤3)) N M E);have hdz:=CD (rdN k) (dgN k) (fM (rdN k) (dgN k) (lsI k) (decide (k≤3)) s N M E way);have hdg:=KL (rdN k) (dgN k) (lsI k) (decide (k≤3)) s N M E way;have hd1:fM (rdN k) (dgN k) (lsI k) (decide (k≤3)) s N M E way≤cH (rdN k) (dgN k) (lsI k) (decide (k≤3)) N M E+1:=by
  unfold fM
  split<;>omega
 have hdn:gF (rdN k) (dgN k) (lsI k) (decide (k≤3)) N M E=0→fM (rdN k) (dgN k) (lsI k) (decide (k≤3)) s N M E way=cH (rdN k) (dgN k) (lsI k) (decide (k≤3)) N M E:=fun h=>by
  unfold fM;rw[if_neg (fun c=>of_decide_eq_false c.1 h)]
 have hcut:(k≤3→lsI k≤dj (rdN k) (dgN k) (lsI k) (decide (k≤3)) N M E)∧(¬k≤3→dj (rdN k) (dgN k) (lsI k) (decide (k≤3)) N M E=aT (rdN k) (dgN k) (dY N M E)):=by
  unfold dj;refine⟨fun h=> ?_,fun h=> ?_⟩
  ·rw[decide_eq_true h,Bool.and_true]
   split
   ·exact Int.le_refl _
   ·rename_i c
    simpa using c
  ·rw[decide_eq_false h,Bool.and_false,if_neg (by decide)]
 have hcP:gD (rdN k) (dgN k) (fM (rdN k) (dgN k) (lsI k) (decide (k≤3)) s N M E way) (dj (rdN k) (dgN k) (lsI k) (decide (k≤3)) N M E)=dj (rdN k) (dgN k) (lsI k) (decide (k≤3)) N M E∨(gD (rdN k) (dgN k) (fM (rdN k) (dgN k) (lsI k) (decide (k≤3)) s N M E way) (dj (rdN k) (dgN k) (lsI k) (decide (k≤3)) N M E)=dj (rdN k) (dgN k) (lsI k) (decide (k≤3)) N M E+1∧io (rdN k) (dgN k) (fM (rdN k) (dgN k) (lsI k) (decide (k≤3)) s N M E way)=2^ (ai (rdN k)*((dgN k:Int)-1).toNat)):=by
  unfold gD io
  split
  ·exact .inr ⟨rfl,rfl⟩
  ·exact .inl rfl
 have hpw:2^ (ai (rdN k)*((dgN k:Int)-1).toNat)<2^ (ai (rdN k)*(dgN k:Int).toNat):=by
  refine Nat.pow_lt_pow_right (by omega) (Nat.mul_lt_mul_of_pos_left ?_ (by omega));omega
 have hcl:io (rdN k) (dgN k) (fM (rdN k) (dgN k) (lsI k) (decide (k≤3)) s N M E way)<2^ (ai (rdN k)*(dgN k:Int).toNat):=by
  unfold io
  split
  ·exact hpw
  ·omega
 have hlen:(Dg.dg 65536 (io (rdN k) (dgN k) (fM (rdN k) (dgN k) (lsI k) (decide (k≤3)) s N M E way))).length≤100000:=by
  refine Nat.le_trans (Dg.dg_len_le 65536 _ 4 (by omega) (Nat.lt_of_lt_of_le hcl ?_)) (by omega);rw[Int.toNat_natCast];exact Nat.le_trans (Nat.pow_le_pow_right (by omega) w64) (by decide)
 generalize fM (rdN k) (dgN k) (lsI k) (decide (k≤3)) s N M E way=dg at*;generalize dj (rdN k) (dgN k) (lsI k) (decide (k≤3)) N M E=ct at*;generalize aT (rdN k) (dgN k) (dY N M E)=pw at*;generalize cH (rdN k) (dgN k) (lsI k) (decide (k≤3)) N M E=wh at*;generalize gF (rdN k) (dgN k) (lsI k) (decide (k≤3)) N M E=lf at*;generalize hcPe:gD (rdN k) (dgN k) dg ct=cp at*;generalize hcDe:io (rdN k) (dgN k) dg=cd at*;have hpos: ¬k≤3→cd≠0:=fun h c=>by
  have:=hwp (hcut.2 h);have:=hdz.1 c;omega
 refine⟨⟨fun hf hl=> ?_,fun hf ho hu he=> ?_,fun ho hd=> ?_,hlen,fun ho=> ?_⟩,fun hd=>if_pos hd,fun ho hnl hd=> ?_⟩
 ·simp only at hl
  have h3:=hfk.1 hf;have:=hcut.1 h3
  exfalso
  split at hl<;>omega
 ·simp only at ho hu he⊢
  have h3: ¬k≤3:=fun c=>hf (hfk.2 c)
  have e1:=hdn (of_decide_eq_true he);have e2:=hcut.2 h3;have e3:=of_decide_eq_true hu;rw[if_neg (hpos h3)];rw[e1,hds.2] at hcPe;omega
 ·exact hfk.2 (Decidable.byContradiction fun h3=>hpos h3 hd)
 ·simp only at ho⊢
  have hG:=of_decide_eq_false ho
  by_cases h3:k≤3
  ·have:=hcut.1 h3
   right
   split<;>omega
  ·rw[if_neg (hpos h3)]
   have e2:=hcut.2 h3
   by_cases hl:cp<lsI k
   ·left
    exact⟨decide_eq_true (by omega),hl⟩
   ·right
    omega
 ·simp only at ho hnl hd⊢
  rw[if_neg hd] at hnl⊢
  by_cases h3:k≤3
  ·have:=hrs ho (.inr (decide_eq_true h3))
   rw[if_neg hd] at this;exact this
  ·by_cases hu:pw<lsI k
   ·have e2:=hcut.2 h3
    have hl: ¬cp<lsI k:=fun c=>hnl ⟨decide_eq_true hu,c⟩
    have hG:=of_decide_eq_false ho;obtain⟨c1,c2⟩:=hcP.resolve_left (by omega);exact .inr ⟨hd,by omega,by omega,hcl,.inl (by omega)⟩
   ·have:=hrs ho (.inl (decide_eq_false hu))
    rw[if_neg hd] at this;exact this
def SameV (k:Nat)(r:ByteArray×Int×Int)(v:Int×Bool×ak×Int):Prop:=
 r.2.2=0∧r.2.1=v.2.2.2∧ ∀so sc w,Rd w .i64 (yS so v.2.2.1.n sc) (Dg.dg 65536 v.2.2.1.n)→yC 43 #[yi k,yoV v.1 v.2.1 v.2.2.1.s (yS so v.2.2.1.n sc) v.2.2.1.e] w (yR w (.string r.1))
theorem same_num {k:Nat}(hk:1≤k∧k≤8)(g:Bool){m:Nat}{p:Int}(fl:Int)(hm:m≠0)(hs:ia (rdN k) (dgN k) (lsI k) (gsI k) (decide (k≤3)) m p):SameV k (Dw k 2 g m p fl) (2,g,bare ⟨g,m,(ai (rdN k):Int)*p⟩,fl):=by
 obtain⟨-,-,d1,-,-,-,lg,-,w64,-,-,hg⟩:=eR hk;obtain⟨l15,p1,p2,w1',w2',t480⟩:=qj hg hs;have hh:=mI (s:=g) hg hs;have hc:chk (Dg.dg 4294967296 m)=0:=pJ (Dg.norm_dg _ _ (by omega)) (by omega);have hl0:(Dg.dg 4294967296 m).length≠0:=fun c=>hm ((Dg.dg_nil_iff 4294967296 _ (by omega)).1 (List.length_eq_zero_iff.1 c))
 have hsh:=Af (s:=g) hg hs;have hb0:(bare ⟨g,m,(ai (rdN k):Int)*p⟩).n≠0:=fun c=>hm ((fI _).1 c)
 have hbs:(bare ⟨g,m,(ai (rdN k):Int)*p⟩).s=g:=by unfold bare;rw[if_neg hm]
 have hE:enE k g (Dg.dg 4294967296 m) p=0:=by
  rw[mY hk hc hl0 (by omega),Dg.vl_dg _ _ (by omega),jK _ _ lg];rw[nN _ _ lg] at hh;rw[hh,if_pos rfl]
 have hS:fq k 2 g (Dg.dg 4294967296 m) p=cF (kU k g (heE (rdN k) (lsI k) (gW k) (plT k g (bare ⟨g,m,(ai (rdN k):Int)*p⟩).n (bare ⟨g,m,(ai (rdN k):Int)*p⟩).e)) (plT k g (bare ⟨g,m,(ai (rdN k):Int)*p⟩).n (bare ⟨g,m,(ai (rdN k):Int)*p⟩).e).d):=by
  have hN:enN k g (Dg.dg 4294967296 m) p=(bare ⟨g,m,(ai (rdN k):Int)*p⟩,0):=hsh;have hps:(plT k g (bare ⟨g,m,(ai (rdN k):Int)*p⟩).n (bare ⟨g,m,(ai (rdN k):Int)*p⟩).e).s=g:=(oj (s:=g) (way:=3) (by omega) lg hb0 hh).1;rw[(xH hk hc).2];unfold enS;rw[if_pos hE,hN];simp only;rw[hbs,hps]
 unfold Dw;rw[(xH hk hc).1,hE,if_pos rfl,hS];refine⟨rfl,rfl,fun so sc w hr=> ?_⟩
 simp only at hr⊢;have hbn:=kR ⟨g,m,(ai (rdN k):Int)*p⟩;obtain⟨b1,b2,b3⟩:=gN (t:=⟨g,m,(ai (rdN k):Int)*p⟩) hm;simp only at b2 hbn;have hlen:(Dg.dg 65536 (bare ⟨g,m,(ai (rdN k):Int)*p⟩).n).length≤20000:=by
  have hlt:m<4294967296^15:=by
   have:=Dg.vl_lt 4294967296 _ (Dg.small_dg 4294967296 m (by omega));rw[Dg.vl_dg _ _ (by omega)] at this;exact Nat.lt_of_lt_of_le this (Nat.pow_le_pow_right (by omega) l15)
  refine Nat.le_trans (Dg.dg_len_le 65536 _ 30 (by omega) (Nat.lt_of_le_of_lt hbn (Nat.lt_of_lt_of_le hlt ?_))) (by omega);exact Nat.le_of_eq (by rw[show(4294967296:Nat)=65536^2 from rfl,←Nat.pow_mul])
 exact Bu k hk g g _ so _ sc _ w hr hlen (by omega) (by omega) hb0 hh
theorem same_oth {k:Nat}(hk:1≤k∧k≤8){c:Nat}(hc:c=1∨c=3∨c=4∨c=5)(g:Bool)(fl:Int)(hs:iR k c=true)(hg:g=true→Bk k c=true):SameV k (Dw k c g 0 0 fl) ((c:Int),g,⟨false,0,0⟩,fl):=by
 have hf: ¬(dK k=0∨(c:Int)<1∨5< (c:Int)):=by
  rcases qt hk with h|h|h<;>omega
 have ho:qX k c 0 g 0=0:=by
  unfold qX;rw[if_neg (by rw[hs];decide),if_neg];rintro(h|h|h)
  ·omega
  ·exact h rfl
  ·rw[hg h.1] at h
   exact absurd h.2 (by decide)
 have hE:gI k c g (Dg.dg 4294967296 0) 0=0:=by
  unfold gI;rw[if_neg hf,if_neg (fun h=>h (by decide)),if_neg (by omega),Int.toNat_natCast,Int.toNat_natCast]
  exact ho
 have hS:fq k c g (Dg.dg 4294967296 0) 0=cF (kU k (pI k c||g) (pg k c) (lS k c)):=by
  unfold fq Fv;rw[if_neg hf,if_neg (fun h=>h (by decide)),if_neg (by omega),Int.toNat_natCast,Int.toNat_natCast]
  exact if_pos ho
 unfold Dw;rw[hE,if_pos rfl,hS];exact⟨rfl,rfl,fun so sc w hr=>Bt k c hk hc hs g false so 0 sc 0 w⟩
theorem same_plc {k:Nat}(hk:1≤k∧k≤8)(wy:Int)(P:fz)(h:Rnd k P):SameV k (Dw k (pG k wy P).1 (pG k wy P).2.1 (pG k wy P).2.2.1 (pG k wy P).2.2.2.1 (bits .or .i64 0 (pG k wy P).2.2.2.2)) (plV k wy P):=by
 have hp1:rdN k^dgN k-1≠0:=by
  rcases bO hk with rfl|rfl|rfl|rfl|rfl|rfl|rfl|rfl<;>decide
 have b5:bits .or .i64 0 5=5:=rfl;have b3:bits .or .i64 0 3=3:=rfl;unfold pG plV
 by_cases ho:P.ov=true
 ·simp only[if_pos ho]
  unfold ovV;rw[b5]
  rcases qt hk with hf|hf|hf
  ·have h3: ¬dK k=3:=by omega
   simp only[if_neg h3]
   by_cases hb:aaV wy P.s=true
   ·have hc:dK k=1∧aaV wy P.s=true:=⟨hf,hb⟩
    simp only[if_pos hc];have h3:=(fam_one hk).1 hf;exact same_oth hk (c:=3) (by decide) P.s 5 (by simp[iR,h3]) (fun _=>rfl)
   ·have hc: ¬(dK k=1∧aaV wy P.s=true):=fun c=>hb c.2
    simp only[if_neg hc];exact same_num hk P.s 5 hp1 (EV hk)
  ·have h3: ¬dK k=3:=by omega
   have hc: ¬(dK k=1∧aaV wy P.s=true):=fun c=>by omega
   simp only[if_neg h3,if_neg hc];exact same_num hk P.s 5 hp1 (EV hk)
  ·simp only[if_pos hf]
   have h6:6≤k:=by
    revert hf
    rcases bO hk with rfl|rfl|rfl|rfl|rfl|rfl|rfl|rfl<;>decide
   exact same_oth hk (c:=5) (by decide) false 5 (by simp[iR,h6]) (fun c=>by cases c)
 simp only[if_neg ho]
 by_cases hl:P.un=true∧P.p<lsI k
 ·simp only[if_pos hl]
  rw[b3];exact same_oth hk (c:=1) (by decide) false 3 rfl (fun c=>by cases c)
 simp only[if_neg hl];have hfl:bits .or .i64 0 (if P.ex=true then 0 else if P.un=true then 3 else 1)=(if P.ex=true then 0 else if P.un=true then 3 else 1):=by
  split
  ·rfl
  ·split<;>rfl
 rw[hfl]
 by_cases hd:P.d=0
 ·simp only[if_pos hd]
  rw[hd,h.nil0 hd];have h3:=(fam_one hk).1 (h.plc.nil (by simpa using ho) hd);exact same_oth hk (c:=1) (by decide) P.s _ rfl (fun _=>by simp[Bk];omega)
 ·simp only[if_neg hd]
  exact same_num hk P.s _ hd (h.spot (by simpa using ho) hl hd)
theorem UI {d k L:Nat}(h:d≤2^k)(hk:k+1≤16*L):(Dg.dg 65536 d).length≤L:=by
 refine Dg.dg_len_le 65536 _ _ (by omega) (Nat.lt_of_le_of_lt h ?_);rw[show(65536:Nat)=2^16 from by decide,←Nat.pow_mul]
 exact Nat.pow_lt_pow_right (by omega) (by omega)
theorem or_set (k:Nat)(wy:Int)(P:fz):bits .or .i64 0 (pG k wy P).2.2.2.2=(pG k wy P).2.2.2.2:=by
 unfold pG
 split
 ·show bits .or .i64 0 5=5
  rfl
 ·split
  ·show bits .or .i64 0 3=3
   rfl
  ·show bits .or .i64 0 (if P.ex=true then 0 else if P.un=true then 3 else 1)=if P.ex=true then 0 else if P.un=true then 3 else 1
   split
   ·rfl
   ·split<;>rfl
def cutc (c:UInt8):List UInt8→List UInt8×List UInt8×Bool
 | []=>([],[],false)
 |b::r=>if b=c then([],r,true) else(b::(cutc c r).1,(cutc c r).2.1,(cutc c r).2.2)
theorem cutc_spec (c:UInt8): ∀l,((cutc c l).2.2=true→l=(cutc c l).1++c::(cutc c l).2.1∧Lib.index l [c]=((cutc c l).1.length:Int))∧((cutc c l).2.2=false→l=(cutc c l).1∧(cutc c l).2.1=[]∧c∉l∧Lib.index l [c]= -1)∧c∉(cutc c l).1:=by
 intro l
 induction l with
 |nil=>exact⟨fun h=>(by cases h),fun _=>⟨rfl,rfl,List.not_mem_nil,rfl⟩,List.not_mem_nil⟩
 |cons b r ih=>
  obtain⟨i1,i2,i3⟩:=ih
  by_cases hb:b=c
  ·subst hb
   have e:cutc b (b::r)=([],r,true):=if_pos rfl;rw[e];exact⟨fun _=>⟨rfl,by simp[Lib.index]⟩,fun h=>(by cases h),List.not_mem_nil⟩
  ·have e:cutc c (b::r)=(b::(cutc c r).1,(cutc c r).2.1,(cutc c r).2.2):=if_neg hb
   have hx:Lib.index (b::r) [c]=if Lib.index r [c]== -1 then-1 else Lib.index r [c]+1:=by
    show(if[c].isPrefixOf (b::r) then _ else _)=_
    rw[if_neg (by simp[List.isPrefixOf];exact fun h=>hb h.symm)]
   rw[e];refine⟨fun h=> ?_,fun h=> ?_, ?_⟩
   ·obtain⟨j1,j2⟩:=i1 h
    refine⟨by rw[List.cons_append,←j1], ?_⟩;rw[hx,j2,if_neg (by simp)]
    show _=(((cutc c r).1.length+1:Nat):Int)
    omega
   ·obtain⟨j1,j2,j3,j4⟩:=i2 h
    refine⟨by rw[←j1],j2, ?_, ?_⟩
    ·intro hm
     rcases List.mem_cons.1 hm with q|q
     ·exact hb q.symm
     ·exact j3 q
    ·rw[hx,j4]
     rfl
   ·intro hm
    rcases List.mem_cons.1 hm with q|q
    ·exact hb q.symm
    ·exact i3 q
theorem cut_is (c:UInt8)(l:List UInt8):Lib.cut l [c]=cutc c l:=by
 obtain⟨h1,h2,-⟩:=cutc_spec c l;unfold Lib.cut
 cases h:(cutc c l).2.2
 ·obtain⟨j1,j2,-,j4⟩:=h2 h
  rw[j4,if_neg (by decide)];exact Prod.ext j1 (Prod.ext j2.symm h.symm)
 ·obtain⟨j1,j2⟩:=h1 h
  rw[j2,if_pos (by omega),Int.toNat_natCast];generalize cutc c l=q at h j1⊢;obtain⟨x,y,f⟩:=q;simp only at h j1⊢;subst h;subst j1;refine Prod.ext List.take_left (Prod.ext ?_ rfl)
  show List.drop (x.length+1) (x++c::y)=y
  rw[←List.drop_drop,List.drop_left];rfl
end Go.Proofs.YtpgijbdgljkeeaaGreatDoor
set_option maxRecDepth 100000
namespace Go.Proofs.YtpgijbdgljkeeaaGreatDoor
open _root_.Go.Proofs.Tryz
open Go.RowKit
def isDg (b:UInt8):Bool:=decide (48≤b.toNat∧b.toNat≤57)
def spD:List UInt8→List UInt8×List UInt8
 | []=>([],[])
 |b::r=>if isDg b=true then(b::(spD r).1,(spD r).2) else([],b::r)
def lvD (l:List UInt8):Nat:=l.foldl (fun a b=>a*10+(b.toNat-48)) 0
theorem lvD_snoc (l:List UInt8)(b:UInt8):lvD (l++[b])=lvD l*10+(b.toNat-48):=by
 unfold lvD;rw[List.foldl_append];rfl
theorem spD_eq (l:List UInt8):l=(spD l).1++(spD l).2:=by
 induction l with
 |nil=>rfl
 |cons b r ih=>
  unfold spD
  split
  ·rw[List.cons_append,←ih]
  ·rfl
theorem spD_dig (l:List UInt8): ∀b∈(spD l).1,isDg b=true:=by
 induction l with
 |nil=>intro b hb;exact absurd hb List.not_mem_nil
 |cons c r ih=>
  unfold spD
  split
  ·rename_i h
   intro b hb
   rcases List.mem_cons.1 hb with rfl|hb
   ·exact h
   ·exact ih b hb
  ·intro b hb
   exact absurd hb List.not_mem_nil
def noD:List UInt8→Prop
 | []=>True
 |b::_=>isDg b=false
theorem spD_app: ∀(x r:List UInt8),(∀b∈x,isDg b=true)→noD r→spD (x++r)=(x,r):=by
 intro x
 induction x with
 |nil=>
  intro r _ hr
  cases r with
  |nil=>rfl
  |cons b r=>
   show(if isDg b=true then _ else _)=_
   rw[if_neg (by rw[show isDg b=false from hr];decide)]
 |cons b x ih=>
  intro r hx hr;have:=ih r (fun c hc=>hx c (List.mem_cons_of_mem _ hc)) hr
  rw[List.cons_append];unfold spD;rw[if_pos (hx b (List.mem_cons_self ..)),this]
def nuE (d:List UInt8)(p:Int):List UInt8→Option (List UInt8×Int)
 | []=>if d=[] then none else some (d,p)
 |b::r=>
  if d=[]∨b≠101 then none else
  let m:=decide (r.head? =some 45)
  let q:=spD (if m=true then r.tail else r)
  if q.1.length<1∨5<q.1.length∨q.2≠[] then none else some (d,p+(if m=true then-(lvD q.1:Int) else(lvD q.1:Int)))
def nuL (l:List UInt8):Option (List UInt8×Int):=
 if(spD l).2.head? =some 46 then
  let v:=spD (spD l).2.tail
  if v.1=[] then none else nuE ((spD l).1++v.1) (-(v.1.length:Int)) v.2
 else nuE (spD l).1 0 (spD l).2
theorem cutc_app (c:UInt8): ∀x r,c∉x→cutc c (x++c::r)=(x,r,true):=by
 intro x
 induction x with
 |nil=>intro r _;exact if_pos rfl
 |cons b x ih=>
  intro r h;have:=ih r (fun e=>h (List.mem_cons_of_mem _ e))
  rw[List.cons_append];unfold cutc;rw[if_neg (fun e=>h (by rw[e];exact List.mem_cons_self ..)),this]
theorem cutc_none (c:UInt8): ∀x,c∉x→cutc c x=(x,[],false):=by
 intro x
 induction x with
 |nil=>intro _;rfl
 |cons b x ih=>
  intro h
  show(if b=c then _ else _)=_
  rw[if_neg (fun e=>h (by rw[e];exact List.mem_cons_self ..)),ih (fun e=>h (List.mem_cons_of_mem _ e))]
theorem cutc_true (c:UInt8): ∀l,(cutc c l).2.2=true→l=(cutc c l).1++c::(cutc c l).2.1:=by
 intro l
 induction l with
 |nil=>intro h;cases h
 |cons b r ih=>
  intro h;unfold cutc at h⊢
  split at h
  ·rename_i e
   rw[if_pos e,e];rfl
  ·rename_i e
   rw[if_neg e]
   show b::r=b::(_++_)
   rw[←ih h]
theorem cutc_false (c:UInt8): ∀l,(cutc c l).2.2=false→(cutc c l).1=l∧(cutc c l).2.1=[]:=by
 intro l
 induction l with
 |nil=>intro _;exact⟨rfl,rfl⟩
 |cons b r ih=>
  intro h;unfold cutc at h⊢
  split at h
  ·cases h
  ·rename_i e
   rw[if_neg e];exact⟨by rw[(ih h).1],(ih h).2⟩
def rpL (y:List UInt8):Option Int:=
 let m:=decide (y.head? =some 45)
 let x:=if m=true then y.tail else y
 if x.length≤5∧x≠[]∧(∀b∈x,isDg b=true) then some (if m=true then-(lvD x:Int) else(lvD x:Int)) else none
def nmL (l:List UInt8):Option (List UInt8×Int):=
 let c:=cutc 101 l
 let d:=cutc 46 c.1
 let x:=d.1++d.2.1
 if x=[]∨ ¬(∀b∈x,isDg b=true)∨(d.2.2=true∧d.2.1=[]) then none else
 if c.2.2=true then(rpL c.2.1).map (fun p=>(x,p-(d.2.1.length:Int))) else some (x,-(d.2.1.length:Int))
theorem dig_ne {x:List UInt8}{c:UInt8}(hc:isDg c=false)(h: ∀b∈x,isDg b=true):c∉x:=fun e=>by
 rw[h c e] at hc
 cases hc
theorem nuE_e {d:List UInt8}{p:Int}(y:List UInt8)(hd:d≠[]):nuE d p (101::y)=(rpL y).map (fun q=>(d,p+q)):=by
 have e0:nuE d p (101::y)=if d=[]∨(101:UInt8)≠101 then none else
  if(spD (if decide (y.head? =some 45)=true then y.tail else y)).1.length<1∨5< (spD (if decide (y.head? =some 45)=true then y.tail else y)).1.length∨(spD (if decide (y.head? =some 45)=true then y.tail else y)).2≠[] then none else some (d,p+(if decide (y.head? =some 45)=true then-(lvD (spD (if decide (y.head? =some 45)=true then y.tail else y)).1:Int) else(lvD (spD (if decide (y.head? =some 45)=true then y.tail else y)).1:Int))):=rfl
 rw[e0,if_neg (fun h=>Or.elim h hd (fun e=>e rfl))]
 unfold rpL;simp only;generalize decide (y.head? =some 45)=m;generalize(if m=true then y.tail else y)=x
 have e:=spD_eq x;have ed:=spD_dig x
 by_cases h:x.length≤5∧x≠[]∧(∀b∈x,isDg b=true)
 ·have es:=spD_app x [] h.2.2 trivial
  rw[List.append_nil] at es;have hl:0<x.length:=List.length_pos_iff.2 h.2.1;have hno: ¬(x.length<1∨5<x.length∨([]:List UInt8)≠[]):=fun c=>by
   rcases c with c|c|c
   ·omega
   ·have:=h.1
    omega
   ·exact c rfl
  rw[if_pos h,es,if_neg hno];rfl
 ·rw[if_neg h]
  split
  ·rfl
  ·rename_i g
   refine absurd ?_ h;have g3:(spD x).2=[]:=Classical.byContradiction fun c=>g (.inr (.inr c))
   rw[g3,List.append_nil] at e;rw[←e] at g ed;refine⟨?_, ?_,ed⟩
   ·exact Nat.le_of_not_lt fun c=>g (.inr (.inl c))
   ·rintro rfl
    exact g (.inl (by decide))
theorem nuE_nil {d:List UInt8}{p:Int}(hd:d≠[]):nuE d p []=some (d,p):=if_neg hd
theorem nuE_bad {d:List UInt8}{p:Int}(r:List UInt8)(h:r≠[])(h2:r.head? ≠some 101):nuE d p r=none:=by
 cases r with
 |nil=>exact absurd rfl h
 |cons b r=>
  unfold nuE;exact if_pos (Or.inr fun e=>h2 (by rw[e];rfl))
theorem nuE_none {p:Int}(r:List UInt8):nuE [] p r=none:=by
 cases r with
 |nil=>rfl
 |cons b r=>
  unfold nuE;exact if_pos (Or.inl rfl)
theorem nuL_pt {l x y:List UInt8}{q:List UInt8×List UInt8}(h:spD l=(x,46::y))(hq:spD y=q):nuL l=if q.1=[] then none else nuE (x++q.1) (-(q.1.length:Int)) q.2:=by
 subst hq;unfold nuL;rw[h];exact if_pos rfl
theorem head_cons {r:List UInt8}{b:UInt8}(h:r.head? =some b):r=b::r.tail:=by
 cases r with
 |nil=>cases h
 |cons c r=>cases h;rfl
theorem nu_nm (l:List UInt8):nuL l=nmL l:=by
 have n46:isDg 46=false:=by decide
 have n101:isDg 101=false:=by decide
 have A: ∀(x t:List UInt8),(∀b∈x,isDg b=true)→noD t→t.head? ≠some 46→nuL (x++t)=nuE x 0 t:=fun x t hx ht h=>by
  unfold nuL;rw[spD_app x t hx ht,if_neg h]
 have B: ∀(x v t:List UInt8),(∀b∈x,isDg b=true)→(∀b∈v,isDg b=true)→noD t→v≠[]→nuL (x++46::(v++t))=nuE (x++v) (-(v.length:Int)) t:=fun x v t hx hv ht h=>by
  rw[nuL_pt (spD_app x (46::(v++t)) hx n46) (spD_app v t hv ht),if_neg h]
 unfold nmL;simp only;obtain⟨c,hc⟩: ∃c,cutc 101 l=c:=⟨_,rfl⟩;obtain⟨d,hd⟩: ∃d,cutc 46 c.1=d:=⟨_,rfl⟩;have ct:=cutc_true 101 l;have cf:=cutc_false 101 l;have dt:=cutc_true 46 c.1;have df:=cutc_false 46 c.1;rw[hc] at ct cf⊢;rw[hd] at dt df⊢;obtain⟨c1,c2,c3⟩:=c;obtain⟨d1,d2,d3⟩:=d;simp only at ct cf dt df hd⊢
 by_cases hbad:d1++d2=[]∨ ¬(∀b∈d1++d2,isDg b=true)∨(d3=true∧d2=[])
 ·rw[if_pos hbad]
  cases hn:nuL l with
  |none=>rfl
  |some z=>
   exfalso
   unfold nuL at hn;have e:=spD_eq l;have ed:=spD_dig l;obtain⟨x,hx⟩: ∃x,(spD l).1=x:=⟨_,rfl⟩;obtain⟨t,ht⟩: ∃t,(spD l).2=t:=⟨_,rfl⟩;rw[hx,ht] at e hn;rw[hx] at ed;have fin: ∀(y:List UInt8) (D:List UInt8) (p:Int) (r:List UInt8),D≠[]→nuE D p r=some z→101∉y→l=y++r→c1=y:=fun y D p r hD h h1 hl=>by
    cases r with
    |nil=>
     rw[List.append_nil] at hl;have:=cutc_none 101 y h1;rw[←hl,hc] at this;rw[hl] at this;exact congrArg Prod.fst this
    |cons b r=>
     have hb:b=101:=Classical.byContradiction fun c=>by
      rw[nuE_bad (b::r) (by simp) (by simpa using c)] at h
      cases h
     subst hb;have:=cutc_app 101 y r h1;rw[←hl,hc] at this;exact congrArg Prod.fst this
   by_cases h46:t.head? =some 46
   ·rw[if_pos h46] at hn
    simp only at hn;have et:=head_cons h46;have e2:=spD_eq t.tail;have ed2:=spD_dig t.tail;obtain⟨v,hv⟩: ∃x,(spD t.tail).1=x:=⟨_,rfl⟩;obtain⟨s,hs⟩: ∃x,(spD t.tail).2=x:=⟨_,rfl⟩;rw[hv,hs] at e2 hn;rw[hv] at ed2
    by_cases hv0:v=[]
    ·rw[if_pos hv0] at hn
     cases hn
    rw[if_neg hv0] at hn;have hD:x++v≠[]:=fun c=>hv0 (List.append_eq_nil_iff.1 c).2
    have hl:l=(x++46::v)++s:=by rw[e,et,e2];simp
    have h101:101∉x++46::v:=by
     rw[List.mem_append,List.mem_cons];rintro(q|q|q)
     ·exact dig_ne n101 ed q
     ·cases q
     ·exact dig_ne n101 ed2 q
    have hc1:=fin (x++46::v) (x++v) _ s hD hn h101 hl;have:=cutc_app 46 x v (dig_ne n46 ed);rw[←hc1,hd] at this;obtain⟨rfl,rfl,rfl⟩:=Prod.mk.injEq .. ▸(by simpa using this:d1=x∧d2=v∧d3=true)
    rcases hbad with h|h|h
    ·exact hD h
    ·refine h fun b hb=> ?_
     rcases List.mem_append.1 hb with q|q
     ·exact ed b q
     ·exact ed2 b q
    ·exact hv0 h.2
   ·rw[if_neg h46] at hn
    by_cases hx0:x=[]
    ·rw[hx0,nuE_none] at hn
     cases hn
    have h101:=dig_ne n101 ed;have hc1:=fin x x _ t hx0 hn h101 e;have:=cutc_none 46 x (dig_ne n46 ed);rw[←hc1,hd] at this;obtain⟨rfl,rfl,rfl⟩:d1=c1∧d2=[]∧d3=false:=by simpa using this
    rw[List.append_nil,hc1] at hbad
    rcases hbad with h|h|h
    ·exact hx0 h
    ·exact h ed
    ·cases h.1
 ·rw[if_neg hbad]
  have g1:d1++d2≠[]:=fun c=>hbad (.inl c)
  have g2: ∀b∈d1++d2,isDg b=true:=Classical.byContradiction fun c=>hbad (.inr (.inl c))
  have g2a: ∀b∈d1,isDg b=true:=fun b hb=>g2 b (List.mem_append.2 (.inl hb))
  have g2b: ∀b∈d2,isDg b=true:=fun b hb=>g2 b (List.mem_append.2 (.inr hb))
  have key: ∀t,noD t→t.head? ≠some 46→nuL (c1++t)=nuE (d1++d2) (-(d2.length:Int)) t:=fun t ht h46=>by
   cases d3 with
   |true=>
    have hd2:d2≠[]:=fun c=>hbad (.inr (.inr ⟨rfl,c⟩))
    have e:=dt rfl;rw[e,List.append_assoc,List.cons_append];exact B d1 d2 t g2a g2b ht hd2
   |false=>
    obtain⟨e1,e2⟩:=df rfl;subst e1 e2;rw[List.append_nil];exact A d1 t g2a ht h46
  cases c3 with
  |true=>
   rw[if_pos rfl,ct rfl,key (101::c2) n101 (by simp),nuE_e _ g1]
   congr 1
   funext q
   rw[Int.add_comm,←Int.sub_eq_add_neg]
  |false=>
   rw[if_neg (by decide)];obtain⟨e1,-⟩:=cf rfl;have:=key [] trivial (by simp);rw[List.append_nil,nuE_nil g1] at this;rw[←e1];exact this
def RestAt (s:ByteArray)(k:Nat)(r:List UInt8):Prop:=k≤s.size∧s.data.toList.drop k=r
theorem rest_nil {s:ByteArray}{k:Nat}(h:RestAt s k []):k=s.size:=by
 obtain⟨h1,h2⟩:=h;have:=congrArg List.length h2;rw[List.length_drop,List.length_nil,←size_list] at this;omega
theorem rest_cons {s:ByteArray}{k:Nat}{b:UInt8}{r:List UInt8}(h:RestAt s k (b::r)):k<s.size∧byt s k=b.toNat∧RestAt s (k+1) r∧s.extract k (k+1)=⟨#[b]⟩:=by
 obtain⟨h1,h2⟩:=h;have hl:=congrArg List.length h2;rw[List.length_drop,List.length_cons,←size_list] at hl;have hk:k<s.size:=by omega
 have hk2:k<s.data.toList.length:=by rw[←size_list];exact hk
 have hd:=List.drop_eq_getElem_cons hk2;rw[h2] at hd;have hb:b=s.data.toList[k]:=by injection hd
 have hr:r=s.data.toList.drop (k+1):=by injection hd
 refine⟨hk, ?_,⟨by omega,hr.symm⟩, ?_⟩
 ·rw[←KD s k hk,hb,Array.getElem_toList]
  rfl
 ·apply ByteArray.ext
  rw[ByteArray.data_extract];apply Array.ext';rw[Array.toList_extract];simp only[List.extract_eq_take_drop];rw[h2,show k+1-k=1 by omega]
  rfl
def hdDg:List UInt8→Bool
 | []=>false
 |b::_=>isDg b
theorem isDigit_at (s:ByteArray)(k:Nat)(r:List UInt8)(w:World)(h:RestAt s k r)(_:s.size≤1000):
  yC 65 #[.string s,yi k] w fun e w'=>e= .returned (.bool (hdDg r))∧w'=w:=by
 cases r with
 |nil=>
  have hk:=rest_nil h
  show Calls _ _ _ _ fun e w'=>e= .returned (.bool false)∧w'=w
  have hlt: ¬((k:Int)< (s.size:Int)):=by omega
  clear h
  go_enter func65,ntmps65
  go_wp2
  go_ret
  exact⟨rfl,rfl⟩
 |cons b r=>
  obtain⟨hk,hb,-,-⟩:=rest_cons h
  show Calls _ _ _ _ fun e w'=>e= .returned (.bool (isDg b))∧w'=w
  have hix:=li s k hk;have h8:=Ay s k;rw[hb] at hix h8;unfold isDg;obtain⟨y,hy⟩: ∃y,b.toNat=y:=⟨_,rfl⟩;rw[hy] at hix h8⊢;have hlt:(k:Int)< (s.size:Int):=by omega
  clear hy h hb
  by_cases h1:48≤y
  ·by_cases h2:y≤57
   ·rw[decide_eq_true ⟨h1,h2⟩]
    have hle:decide ((y:Int)≤57)=true:=by simp;omega
    go_enter func65,ntmps65
    go_wp2
    go_ret
    exact⟨rfl,rfl⟩
   ·rw[decide_eq_false (fun h=>h2 h.2)]
    have hle:decide ((y:Int)≤57)=false:=by simp;omega
    go_enter func65,ntmps65
    go_wp2
    go_ret
    exact⟨rfl,rfl⟩
  ·rw[decide_eq_false (fun h=>h1 h.1)]
   go_enter func65,ntmps65
   go_wp2
   go_ret
   exact⟨rfl,rfl⟩
theorem spD_cons {b:UInt8}{r:List UInt8}(h:isDg b=true):spD (b::r)=(b::(spD r).1,(spD r).2):=if_pos h
theorem spD_stop {r:List UInt8}(h:hdDg r=false):spD r=([],r):=by
 cases r with
 |nil=>rfl
 |cons b r=>exact if_neg (by rw[show isDg b=false from h];decide)
theorem str_snoc (d:List UInt8)(b:UInt8):(⟨d.toArray⟩:ByteArray)++⟨#[b]⟩=⟨(d++[b]).toArray⟩:=by
 apply ByteArray.ext;rw[ByteArray.data_append];simp
end Go.Proofs.YtpgijbdgljkeeaaGreatDoor
