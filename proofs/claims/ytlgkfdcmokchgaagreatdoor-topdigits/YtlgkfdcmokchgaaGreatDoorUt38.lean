/-
  Texts laid together: Co21, Co18, Ce11, Eb2, Eb3, Pa1, Pa2, Ar8, Rb3, Tx5, Oa0, Cv4, Tx6, Eh5, Cb2, Ty12, Cv7.
-/
import Derived.Test.YtlgkfdcmokchgaaGreatDoorUt36
import Derived.Test.YtlgkfdcmokchgaaGreatDoorUt37
set_option maxHeartbeats 1600000
namespace Go.Proofs.YtlgkfdcmokchgaaGreatDoor
open Go.RowKit
theorem wE (k c:Nat)(hk:1≤k∧k≤8)(hc:c=1∨c=3∨c=4∨c=5)(ng:Bool)(ao:Option Addr)(dn dc:Nat)(p:Int)(w:World):
  yC 87 #[.agg (tS k).toArray,yvV c ng (.slice ao dn dc) p] w (yR w (.tuple #[.string (Fv k c dn ng p),yi (qX k c dn ng p)])):=by
 have HS:=fun w1=>MP k c hk hc w1
 have HG:=fun w1=>Qa k c hk hc w1
 have HW:=fun w1=>Aq k hk (pI k c||ng) (pg k c) (lS k c) w1 (Fw c hk) (Fx c hk)
 have key: ∀er,qX k c dn ng p=er→Fv k c dn ng p=if er=0 then cF (kU k (pI k c||ng) (pg k c) (lS k c)) else⟨#[]⟩:=fun er h=>by unfold Fv;rw[h]
 by_cases hok:iR k c=false
 ·have hE:qX k c dn ng p=5:=by unfold qX;rw[if_pos hok]
  rw[key 5 hE,hE,if_neg (by omega)];rw[hok] at HS;generalize pI k c=sg0 at*;generalize pg k c=se at*;generalize lS k c=sf at*;clear HG HW key hE hok
  rcases bO hk with rfl|rfl|rfl|rfl|rfl|rfl|rfl|rfl
  all_goals exact P8 _ _ _ _ _ _ _ _ _ _ p ng ao dn dc sg0 se sf w HS
 ·have hok':iR k c=true:=by simpa using hok
  rw[hok'] at HS
  by_cases h1:0<dn
  ·have hE:qX k c dn ng p=4:=by unfold qX;rw[if_neg hok,if_pos (.inl h1)]
   rw[key 4 hE,hE,if_neg (by omega)];generalize pI k c=sg0 at*;generalize pg k c=se at*;generalize lS k c=sf at*;clear HG HW key hE hok hok'
   rcases bO hk with rfl|rfl|rfl|rfl|rfl|rfl|rfl|rfl
   all_goals exact Kt _ _ _ _ _ _ _ _ _ _ p ng ao dn dc sg0 se sf w HS h1
  ·have hd:dn=0:=by omega
   by_cases h2:p=0
   ·by_cases h3:ng=true∧Bk k c=false
    ·have hE:qX k c dn ng p=4:=by unfold qX;rw[if_neg hok,if_pos (.inr (.inr h3))]
     rw[key 4 hE,hE,if_neg (by omega)];rw[h3.2] at HG;have hng:=h3.1;generalize pI k c=sg0 at*;generalize pg k c=se at*;generalize lS k c=sf at*;clear HW key hE hok hok' h3
     rcases bO hk with rfl|rfl|rfl|rfl|rfl|rfl|rfl|rfl
     all_goals exact P9 _ _ _ _ _ _ _ _ _ _ p ng ao dn dc sg0 se sf w HS HG hd h2 hng
    ·have hE:qX k c dn ng p=0:=by
      unfold qX;rw[if_neg hok,if_neg];rintro(h|h|h)
      ·exact h1 h
      ·exact h h2
      ·exact h3 h
     rw[key 0 hE,hE,if_pos rfl];have hsg:ng=true→Bk k c=true:=fun h=>by
      cases hs:Bk k c
      ·exact absurd ⟨h,hs⟩ h3
      ·rfl
     generalize cF (kU k (pI k c||ng) (pg k c) (lS k c))=st at*
     generalize pI k c=sg0 at*;generalize pg k c=se at*;generalize lS k c=sf at*;clear key hE hok hok' h3
     cases ng
     ·rcases bO hk with rfl|rfl|rfl|rfl|rfl|rfl|rfl|rfl
      all_goals exact Ui _ _ _ _ _ _ _ _ _ _ p false ao dn dc sg0 se sf w HS st HW hd h2 rfl
     ·rw[hsg rfl] at HG
      rcases bO hk with rfl|rfl|rfl|rfl|rfl|rfl|rfl|rfl
      all_goals exact Uj _ _ _ _ _ _ _ _ _ _ p true ao dn dc sg0 se sf w HS HG st HW hd h2 rfl
   ·have hE:qX k c dn ng p=4:=by unfold qX;rw[if_neg hok,if_pos (.inr (.inl h2))]
    rw[key 4 hE,hE,if_neg (by omega)];generalize pI k c=sg0 at*;generalize pg k c=se at*;generalize lS k c=sf at*;clear HG HW key hE hok hok'
    rcases bO hk with rfl|rfl|rfl|rfl|rfl|rfl|rfl|rfl
    all_goals exact MI _ _ _ _ _ _ _ _ _ _ p ng ao dn dc sg0 se sf w HS hd h2
theorem fR n (s:ByteArray)(w:World):yC 20 #[yi n,.string s] w (eP w ((bM n s:Nat):Int) (dz n s) (gJ n s) (iF n s) (dF n s)):=by
 unfold bM dz gJ iF
 by_cases h:dF n s=0
 ·rw[if_pos h,if_pos h,if_pos h,if_pos h]
  have hf:dK n≠0:=fun hf=>by
   unfold dF at h;rw[if_pos hf] at h;omega
  obtain⟨h1,h2,h3⟩:=fF hf;have HR:=fun w1=>uM n s w1 h
  have HV:=fun w1=>Gz n.toNat ⟨h1,h2⟩ (aZ n.toNat s) (aR n.toNat s) (aU n.toNat s) w1 (vW ⟨h1,h2⟩ s) (GM ⟨h1,h2⟩ s)
  rw[h];generalize n.toNat=k at*;generalize dh k (aZ k s) (aR k s) (aU k s)=c at*;generalize kt k (aZ k s) (aR k s) (aU k s)=g at*;generalize ge k (aZ k s) (aR k s) (aU k s)=m at*;generalize gw k (aZ k s) (aR k s) (aU k s)=p at*;generalize aZ k s=ng at*;generalize aR k s=e at*;generalize aU k s=f at*
  rcases bO ⟨h1,h2⟩ with rfl|rfl|rfl|rfl|rfl|rfl|rfl|rfl
  all_goals exact Xt _ _ _ _ _ _ _ _ _ _ ng e f _ _ _ _ s w HR HV
 ·rw[if_neg h,if_neg h,if_neg h,if_neg h]
  exact Pk n _ h s w (fun w1=>tA n s w1 h)
theorem B5 (k:Nat)(hk:1≤k∧k≤8)(ng:Bool)(ao:Option Addr)(ca:Nat)(xs:List Nat)(p:Int)(w:World)(hr:Rd w .u32 (.slice ao xs.length ca) xs)(sa:Dg.Small 4294967296 xs)(hc:chk xs=0)(hT:Tab w):
  yC 86 #[.agg (tS k).toArray,yvV 2 ng (.slice ao xs.length ca) p] w (yR w (.tuple #[.string (enS k ng xs p),yi (enE k ng xs p)])):=by
 have key: ∀er,enE k ng xs p=er→enS k ng xs p=if er=0 then cF (kU k (plT k (enN k ng xs p).1.s (enN k ng xs p).1.n (enN k ng xs p).1.e).s (heE (rdN k) (lsI k) (gW k) (plT k (enN k ng xs p).1.s (enN k ng xs p).1.n (enN k ng xs p).1.e)) (plT k (enN k ng xs p).1.s (enN k ng xs p).1.n (enN k ng xs p).1.e).d) else⟨#[]⟩:=fun er h=>by unfold enS;rw[h]
 by_cases hp:p< -20000∨20000<p
 ·have hE:enE k ng xs p=3:=if_pos hp
  rw[key 3 hE,hE,if_neg (by omega)]
  rcases hp with hp|hp
  ·rcases bO hk with rfl|rfl|rfl|rfl|rfl|rfl|rfl|rfl
   all_goals exact Q7 _ _ _ _ _ _ _ _ _ 2 p ng ao xs.length ca w hp
  ·rcases bO hk with rfl|rfl|rfl|rfl|rfl|rfl|rfl|rfl
   all_goals exact NN _ _ _ _ _ _ _ _ _ 2 p ng ao xs.length ca w hp
 ·have hp1: -20000≤p:=by omega
  have hp2:p≤20000:=by omega
  by_cases hl:xs.length=0
  ·have hE:enE k ng xs p=4:=by unfold enE;rw[if_neg hp,if_pos hl]
   rw[key 4 hE,hE,if_neg (by omega)]
   rcases bO hk with rfl|rfl|rfl|rfl|rfl|rfl|rfl|rfl
   all_goals exact KO _ _ _ _ _ _ _ _ _ 2 p ng ao xs.length ca w hp1 hp2 hl
  ·have hnx:Dg.vl 4294967296 xs≠0:=fun h=>by
    obtain⟨n1,-⟩:=aF hc;exact Dg.vl_ne_zero 4294967296 (by omega) xs (by intro e;subst e;simp at hl) n1 h
   have HN1:=fun w1 (b:yB w w1)=>kB (rdN k) (dgN k) (lsI k) (gsI k) (decide (k≤3)) ng ao ca xs p false false false w1 (hr.l b) sa (hT.l b)
   have hen:cC (ix xs p (rdN k) (dgN k) (lsI k) (gsI k)) ⟨ng,Dg.vl 4294967296 xs,(ai (rdN k):Int)*p⟩=enN k ng xs p:=rfl;rw[hen] at HN1;have hE:enE k ng xs p=if(enN k ng xs p).2=0∧enH k (enN k ng xs p).1=true then 0 else 4:=by unfold enE;rw[if_neg hp,if_neg hl]
   have hfact:(enN k ng xs p).2=0→(enN k ng xs p).1.n≠0∧aS (Dg.dg 4294967296 (enN k ng xs p).1.n) (enN k ng xs p).1.e=0:=fun h=>by
    have h2:=wI (show cC (ix xs p (rdN k) (dgN k) (lsI k) (gsI k)) ⟨ng,Dg.vl 4294967296 xs,(ai (rdN k):Int)*p⟩=((enN k ng xs p).1,0) from by rw[hen];exact Prod.ext rfl h)
    obtain⟨h3,h4⟩:=h2;refine⟨fun h5=> ?_,h4⟩
    rw[h3] at h5;exact hnx ((fI ⟨ng,Dg.vl 4294967296 xs,(ai (rdN k):Int)*p⟩).1 h5)
   clear hen;generalize enN k ng xs p=r at*;obtain⟨t,er⟩:=r;simp only at hE hfact key HN1⊢;have HN: ∀w1,yB w w1→yC 128 #[.agg (tS k).toArray,yvV 2 ng (.slice ao xs.length ca) p] w1 (gR w1 (t,er)):=fun w1 b=>by
    rcases bO hk with rfl|rfl|rfl|rfl|rfl|rfl|rfl|rfl
    all_goals exact Je _ _ _ _ _ _ _ _ _ 2 p ng ao xs.length ca (t,er) w1 (fun w2 b2=>HN1 w2 (aa b b2))
   by_cases her:er=0
   ·obtain⟨hn0,hdc⟩:=hfact her
    have sm:=Dg.small_dg 4294967296 t.n (by omega);have HH:=fun so sc w1 (b:yB w w1) (h:Rd w1 .u32 (yT so t.n sc) (Dg.dg 4294967296 t.n))=>qR (rdN k) (dgN k) (lsI k) (gsI k) (decide (k≤3)) t.s so sc (Dg.dg 4294967296 t.n) t.e w1 h sm (hT.l b)
    have hgr:bk (rdN k) (dgN k) (lsI k) (gsI k)=0:=by
     rcases bO hk with rfl|rfl|rfl|rfl|rfl|rfl|rfl|rfl<;>decide
    have hon:onC (aS (Dg.dg 4294967296 t.n) t.e) (bk (rdN k) (dgN k) (lsI k) (gsI k))=0:=by unfold onC;rw[if_pos hdc];exact hgr
    rw[hon] at HH
    by_cases hq:enH k t=true
    ·rw[if_pos ⟨her,hq⟩] at hE
     rw[key 0 hE,hE,if_pos rfl];have hq':um (Dg.dg 4294967296 t.n) t.e (rdN k) (dgN k) (lsI k) (gsI k) (decide (k≤3))=true:=hq;have hheld:dA (rdN k) (dgN k) (lsI k) (gsI k) (decide (k≤3)) (Dg.vl 4294967296 (Dg.dg 4294967296 t.n)) t.e=true:=by
      have h:=hq';unfold um at h;rw[if_pos hon] at h;exact h
     have HE:=fun so sc w1 (_b:yB w w1) (h:Rd w1 .u32 (yT so t.n sc) (Dg.dg 4294967296 t.n))=>xE k hk t.s so sc (Dg.dg 4294967296 t.n) t.e w1 h sm hdc (by rw[Dg.vl_dg 4294967296 t.n (by omega)];exact hn0) hheld
     rw[Dg.vl_dg 4294967296 t.n (by omega)] at HE;rw[hq'] at HH;generalize cF (kU k (plT k t.s t.n t.e).s (heE (rdN k) (lsI k) (gW k) (plT k t.s t.n t.e)) (plT k t.s t.n t.e).d)=st at*
     rcases bO hk with rfl|rfl|rfl|rfl|rfl|rfl|rfl|rfl
     all_goals exact NP _ _ _ _ _ _ _ _ _ 2 p ng ao xs.length ca w t er HN true 0 HH st 0 HE hp1 hp2 (by omega) her rfl rfl
    ·have hqf:um (Dg.dg 4294967296 t.n) t.e (rdN k) (dgN k) (lsI k) (gsI k) (decide (k≤3))=false:=by
      have:enH k t=false:=by simpa using hq
      exact this
     rw[if_neg (fun h=>hq h.2)] at hE
     rw[key 4 hE,hE,if_neg (by omega)];rw[hqf] at HH
     rcases bO hk with rfl|rfl|rfl|rfl|rfl|rfl|rfl|rfl
     all_goals exact NO _ _ _ _ _ _ _ _ _ 2 p ng ao xs.length ca w t er HN false 0 HH hp1 hp2 (by omega) her rfl rfl
   ·rw[if_neg (fun h=>her h.1)] at hE
    rw[key 4 hE,hE,if_neg (by omega)]
    rcases bO hk with rfl|rfl|rfl|rfl|rfl|rfl|rfl|rfl
    all_goals exact Q8 _ _ _ _ _ _ _ _ _ 2 p ng ao xs.length ca w t er HN hp1 hp2 (by omega) her
theorem Q9 {k:Nat}(hk:1≤k∧k≤8){ng:Bool}{xs:List Nat}{p:Int}(sa:Dg.Small 4294967296 xs)(hx:chk xs=0)(hE:enE k ng xs p=0):
  (enS k ng xs p).size=szN k∧aZ k (enS k ng xs p)=ng∧aR k (enS k ng xs p)<2^exN k∧aU k (enS k ng xs p)<2^frN k∧dh k ng (aR k (enS k ng xs p)) (aU k (enS k ng xs p))=2∧iI k (aR k (enS k ng xs p)) (aU k (enS k ng xs p))≠0∧
   bare ⟨ng,iI k (aR k (enS k ng xs p)) (aU k (enS k ng xs p)),(ai (rdN k):Int)*ii k (aR k (enS k ng xs p))⟩=bare ⟨ng,Dg.vl 4294967296 xs,(ai (rdN k):Int)*p⟩:=by
 obtain⟨f1,f2,f3,f4,f5,f6,f7,f8,f9,f10,f11,hgc⟩:=eR hk;have hp: ¬(p< -20000∨20000<p):=fun h=>by
  unfold enE at hE;rw[if_pos h] at hE;omega
 have hl:xs.length≠0:=fun h=>by
  unfold enE at hE;rw[if_neg hp,if_pos h] at hE;omega
 have hvn:=JN hx hl;have hnum:=mY hk (ng:=ng) hx hl hp;have hin:inR (rdN k) (dgN k) (lsI k) (gsI k) (decide (k≤3)) (bare ⟨ng,Dg.vl 4294967296 xs,(ai (rdN k):Int)*p⟩).n (bare ⟨ng,Dg.vl 4294967296 xs,(ai (rdN k):Int)*p⟩).e=true:=by
  refine Decidable.byContradiction fun c=> ?_
  rw[hE,if_neg c] at hnum;omega
 have hbn:(bare ⟨ng,Dg.vl 4294967296 xs,(ai (rdN k):Int)*p⟩).n≠0:=fun hv=>hvn ((fI _).1 hv)
 have hbs:(bare ⟨ng,Dg.vl 4294967296 xs,(ai (rdN k):Int)*p⟩).s=ng:=qr hvn;have hbb:=iH ⟨ng,Dg.vl 4294967296 xs,(ai (rdN k):Int)*p⟩;have hheld:dA (rdN k) (dgN k) (lsI k) (gsI k) (decide (k≤3)) (bare ⟨ng,Dg.vl 4294967296 xs,(ai (rdN k):Int)*p⟩).n (bare ⟨ng,Dg.vl 4294967296 xs,(ai (rdN k):Int)*p⟩).e=true:=by
  rw[nN _ _ f7,←jK _ _ f7];exact hin
 have hS:enS k ng xs p=cF (kU k (plT k (bare ⟨ng,Dg.vl 4294967296 xs,(ai (rdN k):Int)*p⟩).s (bare ⟨ng,Dg.vl 4294967296 xs,(ai (rdN k):Int)*p⟩).n (bare ⟨ng,Dg.vl 4294967296 xs,(ai (rdN k):Int)*p⟩).e).s (heE (rdN k) (lsI k) (gW k) (plT k (bare ⟨ng,Dg.vl 4294967296 xs,(ai (rdN k):Int)*p⟩).s (bare ⟨ng,Dg.vl 4294967296 xs,(ai (rdN k):Int)*p⟩).n (bare ⟨ng,Dg.vl 4294967296 xs,(ai (rdN k):Int)*p⟩).e)) (plT k (bare ⟨ng,Dg.vl 4294967296 xs,(ai (rdN k):Int)*p⟩).s (bare ⟨ng,Dg.vl 4294967296 xs,(ai (rdN k):Int)*p⟩).n (bare ⟨ng,Dg.vl 4294967296 xs,(ai (rdN k):Int)*p⟩).e).d):=by
  unfold enS;rw[if_pos hE,(AW (k:=k) (ng:=ng) hx hl hp sa hE).1]
 rw[hbs] at hS;generalize bare ⟨ng,Dg.vl 4294967296 xs,(ai (rdN k):Int)*p⟩=T at*;obtain⟨p1,p2,p3,p4⟩:=oj (s:=ng) (way:=3) (by omega:(1:Int)≤(dgN k:Int)) f7 hbn hheld;obtain⟨ho,hu,hbr⟩:=mC (s:=ng) (way:=3) (by omega:(1:Int)≤(dgN k:Int)) f7 hbn hheld;have hsp:=(nW (by omega) f7 hbn (by omega) ho hu).resolve_left (fun c=>p4 (by rw[←p2];exact c.1))
 have hpl:cI (rdN k) (dgN k) (lsI k) (gsI k) (decide (k≤3)) ng T.n 1 T.e 3=plT k ng T.n T.e:=rfl;rw[hpl] at p1 hbr hsp;generalize plT k ng T.n T.e=pt at*;obtain⟨q0,q1,q2,q3,q4⟩:=hsp;have hdg:((dgN k:Int)-1).toNat=dgN k-1:=by omega
 rw[Int.toNat_natCast] at q3;rw[hdg] at q4;obtain⟨r1,r2,r3,r4⟩:=CQ hk ng pt q1 q2 q0 q3 (q4.imp_right (fun h=>⟨by simpa using h.1,h.2⟩))
 obtain⟨w1,w2,w3,w4⟩:=mS hk pt.s (heE (rdN k) (lsI k) (gW k) pt) pt.d;rw[Nat.mod_eq_of_lt r1] at w2;rw[hS,w1,w2,w3,w4];refine⟨rfl,p1,r1,Nat.mod_lt _ (Nat.pow_pos (by omega)),r2,by rw[r3];exact q0, ?_⟩;rw[r3,r4];rw[p1] at hbr;rw[hbr];have:(⟨ng,T.n,T.e⟩:ak)=T:=by
  cases T
  simp only at hbs⊢;rw[hbs]
 rw[this,hbb]
theorem oJ {k:Nat}(hk:1≤k∧k≤8){c:Int}{ng:Bool}{xs:List Nat}{p:Int}(sa:Dg.Small 4294967296 xs)(h:gI k c ng xs p=0):
  (fq k c ng xs p).size=szN k∧((dh k (aZ k (fq k c ng xs p)) (aR k (fq k c ng xs p)) (aU k (fq k c ng xs p)):Nat):Int)=c∧kt k (aZ k (fq k c ng xs p)) (aR k (fq k c ng xs p)) (aU k (fq k c ng xs p))=ng∧
   aR k (fq k c ng xs p)<2^exN k∧aU k (fq k c ng xs p)<2^frN k∧
   (c=2→chk xs=0∧aZ k (fq k c ng xs p)=ng∧iI k (aR k (fq k c ng xs p)) (aU k (fq k c ng xs p))≠0∧bare ⟨ng,iI k (aR k (fq k c ng xs p)) (aU k (fq k c ng xs p)),(ai (rdN k):Int)*ii k (aR k (fq k c ng xs p))⟩=bare ⟨ng,Dg.vl 4294967296 xs,(ai (rdN k):Int)*p⟩)∧
   (c≠2→xs.length=0∧p=0):=by
 by_cases hf:dK k=0∨c<1∨5<c
 ·unfold gI at h
  rw[if_pos hf] at h;omega
 ·by_cases hx:chk xs=0
  ·unfold gI at h
   rw[if_neg hf,if_neg (fun q=>q hx)] at h
   unfold fq;rw[if_neg hf,if_neg (fun q=>q hx)]
   rw[Int.toNat_natCast] at h⊢
   by_cases hc:c=2
   ·rw[if_pos hc] at h⊢
    obtain⟨e1,e2,e3,e4,e5,e6,e7⟩:=Q9 hk sa hx h;rw[e2];refine⟨e1,by rw[e5,hc];rfl,by unfold kt;rw[if_pos (by omega)],e3,e4,fun _=>⟨hx,rfl,e6,e7⟩,fun q=>absurd hc q⟩
   ·rw[if_neg hc] at h⊢
    obtain⟨m,hm⟩: ∃m:Nat,c=(m:Int):=⟨c.toNat,by omega⟩;subst hm;rw[Int.toNat_natCast] at h⊢;have h4:m=1∨m=3∨m=4∨m=5:=by omega
    have hs:iR k m=true:=by
     refine Decidable.byContradiction fun q=> ?_
     unfold qX at h;rw[if_pos (by simpa using q)] at h;omega
    have hbad: ¬(0<xs.length∨p≠0∨ng=true∧Bk k m=false):=fun q=>by
     unfold qX at h;rw[if_neg (by rw[hs];simp),if_pos q] at h;omega
    have hg:ng=true→Bk k m=true:=fun q=>by
     refine Decidable.byContradiction fun r=>hbad (.inr (.inr ⟨q,by simpa using r⟩))
    obtain⟨o1,o2,o3,o4⟩:=Ry hk h4 ng hs hg;obtain⟨w1,w2,w3,w4⟩:=mS hk (pI k m||ng) (pg k m) (lS k m)
    rw[Nat.mod_eq_of_lt o1] at w2;rw[Nat.mod_eq_of_lt o2] at w3;have hS:Fv k m xs.length ng p=cF (kU k (pI k m||ng) (pg k m) (lS k m)):=by
     unfold Fv;rw[if_pos h]
    rw[hS,w1,w2,w3,w4,o3,o4];refine⟨rfl,rfl,rfl,o1,o2,fun q=>absurd q hc,fun _=>⟨?_, ?_⟩⟩
    ·rcases Nat.eq_zero_or_pos xs.length with q|q
     ·exact q
     ·exact absurd (.inl q) hbad
    ·exact Decidable.byContradiction fun q=>hbad (.inr (.inl q))
  ·unfold gI at h
   rw[if_neg hf,if_pos hx] at h;exact absurd h hx
theorem Oe {k:Nat}{ng:Bool}{xs ys:List Nat}{p q:Int}(sa:Dg.Small 4294967296 xs)(sb:Dg.Small 4294967296 ys)(hx:chk xs=0)(hy:chk ys=0)(h:enE k ng xs p=0)(h':enE k ng ys q=0)
  (hb:bare ⟨ng,Dg.vl 4294967296 ys,(ai (rdN k):Int)*q⟩=bare ⟨ng,Dg.vl 4294967296 xs,(ai (rdN k):Int)*p⟩):enS k ng ys q=enS k ng xs p:=by
 have key: ∀(zs:List Nat) (r:Int),enE k ng zs r=0→ ¬(r< -20000∨20000<r)∧zs.length≠0:=fun zs r hz=>by
  have hp: ¬(r< -20000∨20000<r):=fun c=>by
   unfold enE at hz;rw[if_pos c] at hz;omega
  refine⟨hp,fun c=> ?_⟩
  unfold enE at hz;rw[if_neg hp,if_pos c] at hz;omega
 obtain⟨a1,a2⟩:=key xs p h;obtain⟨b1,b2⟩:=key ys q h';unfold enS;rw[if_pos h,if_pos h',(AW (k:=k) (ng:=ng) hx a2 a1 sa h).1,(AW (k:=k) (ng:=ng) hy b2 b1 sb h').1,hb]
theorem xH {k:Nat}(hk:1≤k∧k≤8){ng:Bool}{ys:List Nat}{q:Int}(hy:chk ys=0):gI k 2 ng ys q=enE k ng ys q∧fq k 2 ng ys q=enS k ng ys q:=by
 have hf: ¬(dK k=0∨(2:Int)<1∨(5:Int)<2):=by
  rcases bO hk with rfl|rfl|rfl|rfl|rfl|rfl|rfl|rfl<;>decide
 unfold gI fq;rw[if_neg hf,if_neg (fun c=>c hy),if_pos rfl,if_neg hf,if_neg (fun c=>c hy),if_pos rfl,Int.toNat_natCast]
 exact⟨rfl,rfl⟩
def Dw (k:Nat)(c:Int)(g:Bool)(m:Nat)(p fl:Int):ByteArray×Int×Int:=
 if gI k c g (Dg.dg 4294967296 m) p=0 then(fq k c g (Dg.dg 4294967296 m) p,fl,0) else(⟨#[]⟩,0,gI k c g (Dg.dg 4294967296 m) p)
def m8 (k:Nat)(wy c:Int)(g:Bool)(t:ak)(fl:Int):ByteArray×Int×Int:=
 if c=2 then Dw k (pG k wy (fY k wy t)).1 (pG k wy (fY k wy t)).2.1 (pG k wy (fY k wy t)).2.2.1 (pG k wy (fY k wy t)).2.2.2.1 (bits .or .i64 fl (pG k wy (fY k wy t)).2.2.2.2)
 else if c=1 then Dw k 1 (g&&decide (dK k=1)) 0 0 fl else Dw k c g 0 0 fl
theorem zj n (s:ByteArray)(w:World)(hT:Tab w):yC 45 #[yi n,.string s] w (Ys w ((bM n s:Nat):Int) (dz n s) (gJ n s) (iF n s) (opT n s) (dF n s)):=by
 have HD:=fun w1=>fR n s w1
 by_cases hp:dF n s=0
 ·have hf:dK n≠0:=fun hf=>by
   unfold dF at hp;rw[if_pos hf] at hp;omega
  obtain⟨k1,k2,k3⟩:=fF hf;obtain⟨k,rfl⟩: ∃k:Nat,n=(k:Int):=⟨n.toNat,k3.symm⟩;rw[Int.toNat_natCast] at k1 k2;have hk:1≤k∧k≤8:=⟨k1,k2⟩;have hG:dz (k:Int) s=kt k (aZ k s) (aR k s) (aU k s):=by
   unfold dz;rw[if_pos hp,Int.toNat_natCast]
  have hM:gJ (k:Int) s=ge k (aZ k s) (aR k s) (aU k s):=by
   unfold gJ;rw[if_pos hp,Int.toNat_natCast]
  have hP:iF (k:Int) s=gw k (aZ k s) (aR k s) (aU k s):=by
   unfold iF;rw[if_pos hp,Int.toNat_natCast]
  have hO:opT (k:Int) s=nxT k s:=by
   unfold opT;rw[if_pos hp,Int.toNat_natCast]
  rw[hp] at HD⊢;rw[hO];refine abe (k:Int) _ _ _ _ _ _ _ _ _ (nxT k s) s w (fun w1=>vj k hk w1) HD (fun vo vc w1 b r=> ?_)
  have hn:=XP hk s;have hN:=fun w2 (b2:yB w1 w2)=>kB (rdN k) (dgN k) (lsI k) (gsI k) (decide (k≤3)) (dz (k:Int) s) vo vc _ (iF (k:Int) s) false false false w2 (r.l b2) (Dg.small_dg 4294967296 _ (by omega)) (hT.l (aa b b2))
  rw[hG,hM,hP] at hN⊢;rw[hn] at hN;exact IY _ _ _ _ _ _ 0 _ _ vo _ vc (nxT k s) w1 hN
 ·have hC:bM n s=0:=if_neg hp
  have hG:dz n s=false:=if_neg hp;have hM:gJ n s=0:=if_neg hp;have hP:iF n s=0:=if_neg hp;have hO:opT n s=⟨false,0,0⟩:=if_neg hp;rw[hC,hG,hM,hP,hO]
  by_cases hf:dK n=0
  ·have h6:dF n s=6:=by
    unfold dF;rw[if_pos hf]
   rw[h6];exact afp n 6 (by decide) s w (fun w1=>vU n w1 hf)
  ·obtain⟨k1,k2,k3⟩:=fF hf
   obtain⟨k,rfl⟩: ∃k:Nat,n=(k:Int):=⟨n.toNat,k3.symm⟩;rw[Int.toNat_natCast] at k1 k2;exact afq (k:Int) _ hp _ _ _ _ _ _ _ _ _ s w (fun w1=>vj k ⟨k1,k2⟩ w1) HD
def fitT (k:Nat)(way:Int)(qs:Bool)(xs ys:List Nat)(E:Int):ByteArray×Int×Int:=
 if eE xs ys E (rdN k) (dgN k) (lsI k) (gsI k) way=0 then Dw k (pG k way (df xs ys E (rdN k) (dgN k) (lsI k) (gsI k) (decide (k≤3)) qs way)).1 (pG k way (df xs ys E (rdN k) (dgN k) (lsI k) (gsI k) (decide (k≤3)) qs way)).2.1 (pG k way (df xs ys E (rdN k) (dgN k) (lsI k) (gsI k) (decide (k≤3)) qs way)).2.2.1 (pG k way (df xs ys E (rdN k) (dgN k) (lsI k) (gsI k) (decide (k≤3)) qs way)).2.2.2.1 (pG k way (df xs ys E (rdN k) (dgN k) (lsI k) (gsI k) (decide (k≤3)) qs way)).2.2.2.2
 else(⟨#[]⟩,0,eE xs ys E (rdN k) (dgN k) (lsI k) (gsI k) way)
theorem read_any (t:ByteArray)(w:World)(hT:TxW w):yC 73 #[.string t] w (NmE w (nmV t)):=by
 unfold nmV
 by_cases h4:400<t.size
 ·rw[if_pos h4]
  exact tread_many t w h4
 rw[if_neg h4];have hu:=undash_size t;have hc:=cutS_size 101 (undash t);have hd:=cutS_size 46 (nmC t).1;have hc1:(nmC t).1.size+(nmC t).2.1.size≤400:=by unfold nmC;omega
 have hd1:(nmD t).1.size+(nmD t).2.1.size≤400:=by unfold nmD;omega
 have hcat:((nmD t).1++(nmD t).2.1).size=(nmD t).1.size+(nmD t).2.1.size:=ByteArray.size_append;have HP:=fun w1=>prefix_any t ⟨#[45]⟩ w1
 have HE:=fun w1 (b:yB w w1)=>cut_any (undash t) ⟨#[101]⟩ w1 (by omega) (hT.l b)
 have HQ:=fun w1 (b:yB w w1)=>cut_any (nmC t).1 ⟨#[46]⟩ w1 (by omega) (hT.l b)
 have HD:=fun w1=>tdecimals_any ((nmD t).1++(nmD t).2.1) w1 (by omega)
 have HR:=fun w1=>readPower_any (nmC t).2.1 w1
 have HE': ∀b,(nmC t).2.2=b→yH w 103 #[.string (undash t),.string ⟨#[101]⟩] (.tuple #[.string (nmC t).1,.string (nmC t).2.1,.bool b]):=fun b hb w1 b1=>by
  rw[←hb];exact HE w1 b1
 have HQ': ∀b,(nmD t).2.2=b→yH w 103 #[.string (nmC t).1,.string ⟨#[46]⟩] (.tuple #[.string (nmD t).1,.string (nmD t).2.1,.bool b]):=fun b hb w1 b1=>by
  rw[←hb];exact HQ w1 b1
 clear HE HQ;have hle:t.size≤400:=by omega
 have hrp:=rpV_in (nmC t).2.1
 cases hr:(nmC t).2.2
 ·have hP:nmP t=(0,true):=by unfold nmP;rw[hr];rfl
  have hQ:nmQ t= -((nmD t).2.1.size:Int):=by unfold nmQ;rw[hP];show(0:Int)-_=_;omega
  rw[hP,hQ]
  cases hg:digB ((nmD t).1++(nmD t).2.1)
  ·rw[if_pos (.inr (.inl rfl))]
   rw[hg] at HD;exact tread_dig_n t (undash t) (nmC t).1 (nmC t).2.1 (nmD t).1 (nmD t).2.1 (dash t) (nmD t).2.2 w hle hd1 HP (HE' _ hr) (HQ' _ rfl) HD
  rw[hg] at HD
  cases hpo:(nmD t).2.2
  ·rw[if_neg (fun c=>by rcases c with c|c|c;cases c;cases c;cases c.1),if_neg (by omega)]
   exact tread_okf_n t (undash t) (nmC t).1 (nmC t).2.1 (nmD t).1 (nmD t).2.1 (dash t) w hle hd1 HP (HE' _ hr) (HQ' _ hpo) HD
  by_cases hb0:(nmD t).2.1.size=0
  ·rw[if_pos (.inr (.inr ⟨rfl,hb0⟩))]
   have e:=IX _ hb0;have HQ2:=HQ' _ hpo;rw[e] at HD HQ2;exact tread_pt_n t (undash t) (nmC t).1 (nmC t).2.1 (nmD t).1 (dash t) w hle (by omega) HP (HE' _ hr) HQ2 HD
  ·rw[if_neg (fun c=>by rcases c with c|c|c;cases c;cases c;exact hb0 c.2),if_neg (by omega)]
   exact tread_okt_n t (undash t) (nmC t).1 (nmC t).2.1 (nmD t).1 (nmD t).2.1 (dash t) w hle hd1 (Qw _ hb0) HP (HE' _ hr) (HQ' _ hpo) HD
 ·have hP:nmP t=rpV (nmC t).2.1:=by unfold nmP;rw[hr];rfl
  have hQ:IntKind.i64.wrap ((rpV (nmC t).2.1).1-((nmD t).2.1.size:Int))=nmQ t:=by unfold nmQ;rw[hP];exact IntWalk.i64_in _ ⟨by omega,by omega⟩
  rw[hP]
  cases hk:(rpV (nmC t).2.1).2
  ·rw[if_pos (.inl rfl)]
   rw[hk] at HR;exact tread_bad t (undash t) (nmC t).1 (nmC t).2.1 (nmD t).1 (nmD t).2.1 (dash t) (nmD t).2.2 _ w hle HP (HE' _ hr) HR (HQ' _ rfl)
  rw[hk] at HR
  cases hg:digB ((nmD t).1++(nmD t).2.1)
  ·rw[if_pos (.inr (.inl rfl))]
   rw[hg] at HD;exact tread_dig_e t (undash t) (nmC t).1 (nmC t).2.1 (nmD t).1 (nmD t).2.1 (dash t) (nmD t).2.2 _ w hle hd1 HP (HE' _ hr) HR (HQ' _ rfl) HD
  rw[hg] at HD
  cases hpo:(nmD t).2.2
  ·rw[if_neg (fun c=>by rcases c with c|c|c;cases c;cases c;cases c.1)]
   by_cases h1:nmQ t< -6000
   ·rw[if_pos (.inl h1)]
    exact tread_lof_e _ t (undash t) (nmC t).1 (nmC t).2.1 (nmD t).1 (nmD t).2.1 (dash t) _ w hle hd1 hQ h1 HP (HE' _ hr) HR (HQ' _ hpo) HD
   by_cases h2:6000<nmQ t
   ·rw[if_pos (.inr h2)]
    exact tread_hif_e _ t (undash t) (nmC t).1 (nmC t).2.1 (nmD t).1 (nmD t).2.1 (dash t) _ w hle hd1 hQ h1 h2 HP (HE' _ hr) HR (HQ' _ hpo) HD
   ·rw[if_neg (fun c=>c.elim h1 h2)]
    exact tread_okf_e _ t (undash t) (nmC t).1 (nmC t).2.1 (nmD t).1 (nmD t).2.1 (dash t) _ w hle hd1 hQ h1 h2 HP (HE' _ hr) HR (HQ' _ hpo) HD
  by_cases hb0:(nmD t).2.1.size=0
  ·rw[if_pos (.inr (.inr ⟨rfl,hb0⟩))]
   have e:=IX _ hb0;have HQ2:=HQ' _ hpo;rw[e] at HD HQ2;exact tread_pt_e t (undash t) (nmC t).1 (nmC t).2.1 (nmD t).1 (dash t) _ w hle (by omega) HP (HE' _ hr) HR HQ2 HD
  ·rw[if_neg (fun c=>by rcases c with c|c|c;cases c;cases c;exact hb0 c.2)]
   have he:=Qw _ hb0
   by_cases h1:nmQ t< -6000
   ·rw[if_pos (.inl h1)]
    exact tread_lot_e _ t (undash t) (nmC t).1 (nmC t).2.1 (nmD t).1 (nmD t).2.1 (dash t) _ w hle hd1 he hQ h1 HP (HE' _ hr) HR (HQ' _ hpo) HD
   by_cases h2:6000<nmQ t
   ·rw[if_pos (.inr h2)]
    exact tread_hit_e _ t (undash t) (nmC t).1 (nmC t).2.1 (nmD t).1 (nmD t).2.1 (dash t) _ w hle hd1 he hQ h1 h2 HP (HE' _ hr) HR (HQ' _ hpo) HD
   ·rw[if_neg (fun c=>c.elim h1 h2)]
    exact tread_okt_e _ t (undash t) (nmC t).1 (nmC t).2.1 (nmD t).1 (nmD t).2.1 (dash t) _ w hle hd1 he hQ h1 h2 HP (HE' _ hr) HR (HQ' _ hpo) HD
theorem OC {k:Nat}(hk:1≤k∧k≤8)(way:Int)(g:Bool)(t:ak)(fl:Int)(h0:t.n≠0)(hh:dA (rdN k) (dgN k) (lsI k) (gsI k) (decide (k≤3)) t.n t.e=true)
  {xs:List Nat} {p:Int} (sa:Dg.Small 4294967296 xs) (hc:chk xs=0) (he:enE k t.s xs p=0) (hb:bare ⟨t.s,Dg.vl 4294967296 xs,(ai (rdN k):Int)*p⟩=bare t):
  m8 k way 2 g t fl=(fq k 2 t.s xs p,bits .or .i64 fl 0,0):=by
 obtain⟨-,-,d1,-,-,-,lg,-,w64,-,-,hg⟩:=eR hk;have hD:(1:Int)≤(dgN k:Int):=by omega
 obtain⟨o1,o2,o3⟩:=mC (s:=t.s) (way:=way) hD lg h0 hh;obtain⟨q1,q2,q3,q4⟩:=oj (s:=t.s) (way:=way) hD lg h0 hh;obtain⟨ex,hL⟩:=RK (s:=t.s) (way:=way) hD lg h0 hh;have hsp:ia (rdN k) (dgN k) (lsI k) (gsI k) (decide (k≤3)) (fY k way t).d (fY k way t).p:=nW hD lg h0 (by omega) o1 o2;obtain⟨l15,p1,p2,-,-,-⟩:=qj hg hsp;have hd:(fY k way t).d≠0:=fun c=>q4 (q2.symm.trans c)
 have hs:(fY k way t).s=t.s:=q1;have hset:pG k way (fY k way t)=(2,t.s,(fY k way t).d,(fY k way t).p,0):=by
  unfold pG;rw[if_neg (fun c=>by rw[show(fY k way t).ov=false from o1] at c;cases c),if_neg (fun c=>by have:=c.2;rw[show(fY k way t).p=cP (rdN k) (dgN k) (lsI k) (decide (k≤3)) t.n t.e from q3] at this;omega),if_neg hd,if_pos (show(fY k way t).ex=true from ex),hs]
 have hcd:chk (Dg.dg 4294967296 (fY k way t).d)=0:=pJ (Dg.norm_dg _ _ (by omega)) (by omega);have hl0:(Dg.dg 4294967296 (fY k way t).d).length≠0:=fun c=>hd ((Dg.dg_nil_iff 4294967296 _ (by omega)).1 (List.length_eq_zero_iff.1 c))
 have hv:=Dg.vl_dg 4294967296 (fY k way t).d (by omega);have hb2:bare ⟨t.s,Dg.vl 4294967296 (Dg.dg 4294967296 (fY k way t).d),(ai (rdN k):Int)*(fY k way t).p⟩=bare t:=by
  rw[hv];have:=o3;rw[q1] at this;exact this
 have hE:enE k t.s (Dg.dg 4294967296 (fY k way t).d) (fY k way t).p=0:=by
  rw[mY hk hcd hl0 (by omega),hb2,jK _ _ lg,hh,if_pos rfl]
 unfold m8 Dw;rw[if_pos rfl,hset];simp only;rw[(xH hk hcd).1,hE,if_pos rfl,(xH hk hcd).2,(xH hk hc).2];rw[Oe sa (Dg.small_dg _ _ (by omega)) hc hcd he hE (hb2.trans hb.symm)]
def cvT (k:Nat)(way c:Int)(g:Bool)(x:ak):ByteArray×Int×Int:=
 if c=2 then fitT k way x.s (Dg.dg 4294967296 x.n) [1] x.e else Dw k (mvV c g (dK k)).1 (mvV c g (dK k)).2.1 0 0 (mvV c g (dK k)).2.2
theorem fit_num {k:Nat}(hk:1≤k∧k≤8){way:Int}(hw:1≤way∧way≤5){x:ak}(sx:iZ x)(h0:x.n≠0):
  fitT k way x.s (Dg.dg 4294967296 x.n) [1] x.e=Dw k (pG k way (fY k way x)).1 (pG k way (fY k way x)).2.1 (pG k way (fY k way x)).2.2.1 (pG k way (fY k way x)).2.2.2.1 (pG k way (fY k way x)).2.2.2.2:=by
 have hg:=(eR hk).2.2.2.2.2.2.2.2.2.2.2;have hl:(Dg.dg 4294967296 x.n).length≤1200:=jq sx.1 (by omega);have hne: ¬(Dg.dg 4294967296 x.n).length=0:=fun c=>h0 ((Dg.dg_nil_iff 4294967296 _ (by omega)).1 (List.length_eq_zero_iff.1 c))
 have hq:eA (Dg.dg 4294967296 x.n) [1] x.e=0:=by
  unfold eA;rw[if_pos (pJ (Dg.norm_dg _ _ (by omega)) hl),if_pos (show chk [1]=0 from rfl),if_neg]
  rintro(c|c)
  ·cases c
  ·unfold eJ at c
   simp at c;have:=sx.2;omega
 have hC:eE (Dg.dg 4294967296 x.n) [1] x.e (rdN k) (dgN k) (lsI k) (gsI k) way=0:=by rw[Bq hq hg,if_pos (way_is.2 hw)]
 have hP:df (Dg.dg 4294967296 x.n) [1] x.e (rdN k) (dgN k) (lsI k) (gsI k) (decide (k≤3)) x.s way=fY k way x:=by
  unfold df;rw[if_pos hC,if_neg hne,Dg.vl_dg _ _ (by omega)];rfl
 unfold fitT;rw[if_pos hC,hP]
def psV (n:Int)(t:ByteArray)(way:Int):ByteArray×Int×Int:=
 if dK n=0 then(⟨#[]⟩,0,6) else if raE t≠0 then(⟨#[]⟩,0,raE t) else fitT n.toNat way (raV t).1 (Dg.dg 4294967296 (raV t).2.1) (Dg.dg 4294967296 (raV t).2.2.1) (raV t).2.2.2
theorem cnumber_any (k:Nat)(ao:Option Addr)(la ac d:Nat)(p:Int)(w:World)(hr:Rd w .u32 (.slice ao la ac) (Dg.dg 4294967296 d))(hT:Tab w):
  yC 80 #[ygV (rdN k) (dgN k) (lsI k) (gsI k) (decide (k≤3)),.slice ao la ac,yi p] w (acy w (nbT k d p)):=by
 obtain⟨so,sc,e⟩:=hr.shape
 cases e
 exact cnumber_W _ _ _ _ p _ ao _ ac _ w (fun w1 b1=>IY _ _ _ _ 2 p (cC (ix (Dg.dg 4294967296 d) p (rdN k) (dgN k) (lsI k) (gsI k)) ⟨false,Dg.vl 4294967296 (Dg.dg 4294967296 d),(ai (rdN k):Int)*p⟩).2 _ false ao _ ac _ w1 (fun w2 b2=>kB _ _ _ _ _ false ao ac (Dg.dg 4294967296 d) p false false false w2 ((hr.l b1).l b2) (Dg.small_dg _ _ (by omega)) ((hT.l b1).l b2)))
theorem hardest_any (k:Nat)(hk:1≤k∧k≤8)(w:World)(hT:Tab w):
  yC 43 #[ygV (rdN k) (dgN k) (lsI k) (gsI k) (decide (k≤3))] w (HdRes w (hdL k)):=by
 have hF:((rdN k:Nat):Int)=((2^ai (rdN k):Nat):Int)∧1≤ai (rdN k)∧ai (rdN k)≤4∧rdN k≤16∧2≤rdN k∧ -100000≤lsI k∧lsI k≤100000∧ -100000≤gsI k∧gsI k≤100000∧1≤dgN k∧dgN k≤64:=by
  rcases bO hk with rfl|rfl|rfl|rfl|rfl|rfl|rfl|rfl<;>decide
 obtain⟨f1,f2,f3,f4,f5,l1,l2,g1,g2,d1,d2⟩:=hF;have hU:rdN k^ (dgN k-1)<2^64:=by rcases bO hk with rfl|rfl|rfl|rfl|rfl|rfl|rfl|rfl<;>decide
 have hdg:Dg.dg 4294967296 (rdN k)=[rdN k]:=by rcases bO hk with rfl|rfl|rfl|rfl|rfl|rfl|rfl|rfl<;>rfl
 refine hardest_W _ _ _ _ _ (ai (rdN k)) (rdN k^ (dgN k-1)) (nbT k) w f1 ⟨f2,f3⟩ ⟨l1,l2⟩ ⟨g1,g2⟩ ⟨by omega,by omega⟩ (fun ao la ac d p w1 b1 hr=>cnumber_any k ao la ac d p w1 hr (hT.l b1)) (fun q w1 hl=> ?_) (fun v q i w1 hi hv hl=> ?_) (fun v u m w1 hm hv hu=> ?_)
 ·have:=Iq (.slice (some ⟨q,0,none⟩) 1 1) (rdN k) (dgN k-1) 1 w1 (by rw[hdg];exact(row_one (g:=none) hl (fun _ h=>nomatch h)).1) (by omega) (by omega) (by omega) (by omega)
  rw[show((dgN k-1:Nat):Int)=(dgN k:Int)-1 by omega] at this
  exact this
 ·have h2:2^i≤2^4:=Nat.pow_le_pow_right (by omega) (by omega)
  have:=qC v (.slice (some ⟨q,0,none⟩) 1 1) (Dg.dg 4294967296 (rdN k^ (dgN k-1))) [2^i] w1 hv (row_one (g:=none) hl (fun _ h=>nomatch h)).1 (Dg.small_dg _ _ (by omega)) (Dg.small_cons.2 ⟨by omega,Dg.small_nil _ (by omega)⟩) (Nat.le_trans (jq (L:=8) hU (by omega)) (by omega)) (by simp)
  rw[Dg.vl_dg _ _ (by omega),show Dg.vl 4294967296 [2^i]=2^i by simp[Dg.vl]] at this
  exact this
 ·have hm2:m<2^68:=by omega
  have:=rj v u (Dg.dg 4294967296 m) [1] w1 hv hu (Dg.small_dg _ _ (by omega)) (Dg.small_cons.2 ⟨by omega,Dg.small_nil _ (by omega)⟩) (Nat.le_trans (jq (L:=9) hm2 (by omega)) (by omega)) (by simp);rw[Dg.vl_dg _ _ (by omega),show Dg.vl 4294967296 [1]=1 from rfl] at this
  exact this
theorem num_back {k:Nat}(hk:1≤k∧k≤8){s:ByteArray}(hp:dF k s=0)(hc:bM k s=2)(he:gI k 2 (dz k s) (Dg.dg 4294967296 (gJ k s)) (iF k s)=0):
  iZ (opT k s)∧(opT k s).n≠0∧bare (opT k s)=opT k s∧dA (rdN k) (dgN k) (lsI k) (gsI k) (decide (k≤3)) (opT k s).n (opT k s).e=true∧
   ∀way,1≤way∧way≤5→ ∀g,cvT k way 2 g (opT k s)=(fq k 2 (dz k s) (Dg.dg 4294967296 (gJ k s)) (iF k s),0,0):=by
 obtain⟨sx,-,n2⟩:=ir hk hp;obtain⟨h0,hs,hb⟩:=G5 hk hp hc;have hM:chk (Dg.dg 4294967296 (gJ k s))=0:=by
  have:=(oJ hk (Dg.small_dg _ _ (by omega)) he).2.2.2.2.2.1 rfl;exact this.1
 have hE:=he;rw[(xH hk hM).1] at hE;obtain⟨-,hh,-⟩:=Jo hk (Dg.small_dg _ _ (by omega)) hM hE;rw[Dg.vl_dg _ _ (by omega),hb] at hh;have hbb:bare (opT k s)=opT k s:=by rw[←hb,iH]
 refine⟨sx,h0,hbb,hh,fun way hw g=> ?_⟩
 have ha:=OC hk way g (opT k s) 0 h0 hh (Dg.small_dg _ _ (by omega)) hM (by rw[hs];exact hE) (by rw[hs,Dg.vl_dg _ _ (by omega),hb,hbb]);unfold m8 at ha;rw[if_pos rfl,or_set] at ha;unfold cvT;rw[if_pos rfl,fit_num hk hw sx h0,ha,hs];rfl
theorem ps_fit {k:Nat}(hk:1≤k∧k≤8){t:ByteArray}(he:raE t=0)(hN:(raV t).2.1≠0):
  psV k t 1=Dw k (pG k 1 (cI (rdN k) (dgN k) (lsI k) (gsI k) (decide (k≤3)) (raV t).1 (raV t).2.1 (raV t).2.2.1 (raV t).2.2.2 1)).1 (pG k 1 (cI (rdN k) (dgN k) (lsI k) (gsI k) (decide (k≤3)) (raV t).1 (raV t).2.1 (raV t).2.2.1 (raV t).2.2.2 1)).2.1 (pG k 1 (cI (rdN k) (dgN k) (lsI k) (gsI k) (decide (k≤3)) (raV t).1 (raV t).2.1 (raV t).2.2.1 (raV t).2.2.2 1)).2.2.1 (pG k 1 (cI (rdN k) (dgN k) (lsI k) (gsI k) (decide (k≤3)) (raV t).1 (raV t).2.1 (raV t).2.2.1 (raV t).2.2.2 1)).2.2.2.1 (pG k 1 (cI (rdN k) (dgN k) (lsI k) (gsI k) (decide (k≤3)) (raV t).1 (raV t).2.1 (raV t).2.2.1 (raV t).2.2.2 1)).2.2.2.2:=by
 have hg:=(eR hk).2.2.2.2.2.2.2.2.2.2.2;have hf:dK k≠0:=by rcases qt hk with h|h|h<;>omega
 have e0:eE (Dg.dg 4294967296 (raV t).2.1) (Dg.dg 4294967296 (raV t).2.2.1) (raV t).2.2.2 (rdN k) (dgN k) (lsI k) (gsI k) 1=0:=by rw[Bq (ra_fine he) hg,if_pos (by decide)]
 have hp:df (Dg.dg 4294967296 (raV t).2.1) (Dg.dg 4294967296 (raV t).2.2.1) (raV t).2.2.2 (rdN k) (dgN k) (lsI k) (gsI k) (decide (k≤3)) (raV t).1 1=if(Dg.dg 4294967296 (raV t).2.1).length=0 then⟨false,0,0,true,false,false⟩ else cI (rdN k) (dgN k) (lsI k) (gsI k) (decide (k≤3)) (raV t).1 (Dg.vl 4294967296 (Dg.dg 4294967296 (raV t).2.1)) (Dg.vl 4294967296 (Dg.dg 4294967296 (raV t).2.2.1)) (raV t).2.2.2 1:=if_pos e0
 rw[Dg.vl_dg _ _ (by omega),Dg.vl_dg _ _ (by omega),if_neg (fun c=>hN ((dg_len0 (by omega)).1 c))] at hp
 unfold psV;rw[if_neg hf,if_neg (fun c=>c he),Int.toNat_natCast]
 unfold fitT;rw[if_pos e0,hp]
theorem print_back {k:Nat}(hk:1≤k∧k≤8){s:ByteArray}(hp:dF k s=0)(hc:bM k s=2)(he:gI k 2 (dz k s) (Dg.dg 4294967296 (gJ k s)) (iF k s)=0)
  {j:Nat} (j1:1≤j) (j2:j≤60) (hT:2^ (ai (rdN k)*dgN k)<10^ (j-1)):
  ∃fl,psV k (ptS k s j) 1=(fq k 2 (dz k s) (Dg.dg 4294967296 (gJ k s)) (iF k s),fl,0):=by
 obtain⟨⟨x1,x2,x3⟩,h0,hbb,hh,hcv⟩:=num_back hk hp hc he;have hcv1:=hcv 1 ⟨by decide,by decide⟩ false;unfold ptS;generalize opT k s=x at x1 x2 x3 h0 hbb hh hcv1⊢;clear hcv;obtain⟨-,-,d1,-,-,-,lg,-,w64,-,-,hg⟩:=eR hk;have hD:(1:Int)≤(dgN k:Int):=by omega
 obtain⟨o1,o2,o3⟩:=mC (s:=x.s) (way:=1) hD lg h0 hh;obtain⟨q1,q2,q3,q4⟩:=oj (s:=x.s) (way:=1) hD lg h0 hh;have hsp:=nW hD lg h0 (show(1:Nat)≠0 by omega) o1 o2
 unfold cvT at hcv1;rw[if_pos rfl,fit_num hk ⟨by decide,by decide⟩ ⟨x1,x2,x3⟩ h0] at hcv1;unfold fY at hcv1;rw[q1] at o3;generalize cI (rdN k) (dgN k) (lsI k) (gsI k) (decide (k≤3)) x.s x.n 1 x.e 1=P at o1 o3 q1 q2 hsp hcv1;have hd:P.d≠0:=by rw[q2];exact q4
 clear q2 q3 q4 o2;obtain⟨hd,L1,G1,dlt,hf⟩:=hsp.resolve_left (fun c=>hd c.1)
 obtain⟨fl0,f0⟩:=fit_two q1 rfl rfl o1 L1 hd;rw[f0] at hcv1;have hxx:bare ⟨x.s,x.n,x.e⟩=x:=hbb;rw[hxx] at o3;obtain⟨b1,b2,-⟩:=bare_parts hd o3;generalize P.d=d at hd dlt hf hcv1 b1 b2 o3;generalize P.p=κ at L1 G1 hf hcv1 b1 b2 o3;clear o1 q1 f0 hxx;obtain⟨r0,δ,Q',m,M0,p,r1,r2,m0,M00,r3,r4⟩:=print_ra x1 x2 x3 h0 j1 j2;have hN0:m/2^tz m≠0:=fun c=>by
  have:=(odd_of m0).1;omega
 have hfit:=ps_fit hk r0 (by rw[r4];exact hN0);rw[r4] at hfit;simp only at hfit;have hw:=near_cross (tz:=tz m) (wk:=(ai (rdN k):Int)*κ) (e:=x.e) (xn:=x.n) (d:=d) r3 (odd_of m0).2.symm (by
  have e1:x.e.toNat+(-((ai (rdN k):Int)*κ)).toNat=tz d+((ai (rdN k):Int)*κ).toNat+(-x.e).toNat:=by omega
  rw[Nat.mul_assoc,←Nat.pow_add,e1,Nat.pow_add,Nat.pow_add,←Nat.mul_assoc,←Nat.mul_assoc,←b1]) r2 r1
 obtain⟨n0,hr⟩:=dg_round (k:=j) x1 x2 x3 h0 j1 j2 rfl rfl;have hten:=ten_move (P:=dcP x) (a:=dqN x) (b:=dqD x) (fun c=>by
  have:=(dc_less x1 x2 x3 h0 (dcP x)).1 c;omega) j1
 have hd2:0<dqD x*10^ (-((j:Int)-1-dcP x)).toNat:=Nat.mul_pos (Nat.pow_pos (by omega)) (Nat.pow_pos (by omega));rw[show x.n*2^x.e.toNat*10^ ((j:Int)-1-dcP x).toNat=dqN x*10^ ((j:Int)-1-dcP x).toNat from rfl,show(2:Nat)^ (-x.e).toNat=dqD x from rfl] at hw
 generalize dqN x*10^ ((j:Int)-1-dcP x).toNat=n2 at hw hr hten n0;generalize dqD x*10^ (-((j:Int)-1-dcP x)).toNat=d2 at hw hr hten hd2 n0;generalize prQ (dcH x) (dcC x) j=Q at hw hr r2;have hdm:=Nat.div_add_mod n2 d2;have hml:=Nat.mod_lt n2 hd2;have hcm: ∀a:Nat,(0<dm ((a:Nat):Int) ((d2:Nat):Int)→d2<a)∧(dm ((a:Nat):Int) ((d2:Nat):Int)=0→a=d2)∧(dm ((a:Nat):Int) ((d2:Nat):Int)<0→a<d2):=fun a=>by
  unfold dm;refine⟨fun h=> ?_,fun h=> ?_,fun h=> ?_⟩
  all_goals
   split at h
   ·omega
   ·split at h<;>omega
 have hQ:2*(Q*d2)≤2*n2+d2∧2*n2≤2*(Q*d2)+d2:=by
  obtain⟨c1,c2,c3⟩:=hcm (n2 % d2*2);rw[Nat.mul_comm Q]
  rcases hr with⟨h1,h2⟩| ⟨h1,-,h2⟩| ⟨h1,-,h2⟩| ⟨h1,h2⟩
  ·have:=c1 h1
   rw[h2,Nat.mul_add,Nat.mul_one];omega
  ·have:=c2 h1
   rw[h2,Nat.mul_add,Nat.mul_one];omega
  ·have:=c2 h1
   rw[h2];omega
  ·have:=c3 h1
   rw[h2];omega
 obtain⟨u1,u2⟩:=dec_near hd2 hT hten hQ.1 hQ.2;have eD:((dgN k:Int)).toNat=dgN k:=Int.toNat_natCast _;obtain⟨t1,t2⟩:=near_move (A:=eZ (m/2^tz m) (p+(tz m:Int)-(ai (rdN k):Int)*κ)) (B:=dX M0 (p+(tz m:Int)-(ai (rdN k):Int)*κ)) (d:=d) (by rw[fw,eM];exact hw) (Nat.mul_pos (Nat.pos_of_ne_zero hd) (by rw[eM];exact Nat.mul_pos (Nat.pos_of_ne_zero M00) (bG _))) u1 u2;obtain⟨z1,z2,z3,z4⟩:=near_round (R:=(rdN k:Int)) (D:=(dgN k:Int)) (L:=lsI k) (G:=gsI k) (gr:=decide (k≤3)) (qs:=x.s) (E:=p+(tz m:Int)) (k:=κ) hD hN0 M00 hd dlt L1 hf (by rw[eD];exact t1) (by rw[eD];exact t2);obtain⟨fl,f1⟩:=fit_two z1 z2 z3 (by rw[z4];exact decide_eq_false (by omega)) L1 hd;rw[f1] at hfit;simp only at hfit hcv1;unfold Dw at hfit hcv1
 by_cases hz:gI k 2 x.s (Dg.dg 4294967296 d) κ=0
 ·rw[if_pos hz] at hfit hcv1
  refine⟨fl, ?_⟩;rw[hfit];have e:=congrArg Prod.fst hcv1;simp only at e;rw[e]
 ·rw[if_neg hz] at hcv1
  have:=congrArg (fun r=>r.2.2) hcv1
  exact absurd this hz
theorem lwhole_any (n:Int)(h1: -9223372036854775808≤n)(h2:n≤9223372036854775807)(w:World):yC 11 #[yi n] w (dr w (bare (intT n))):=by
 have hq:n.tdiv 2=if n<0 then-((n.natAbs/2:Nat):Int) else((n.natAbs/2:Nat):Int):=by
  by_cases hn:n<0
  ·have e:n.tdiv 2= -((-n).tdiv 2):=by rw[Int.neg_tdiv,Int.neg_neg]
   rw[if_pos hn,e,Int.tdiv_eq_ediv_of_nonneg (by omega)];omega
  ·rw[if_neg hn,Int.tdiv_eq_ediv_of_nonneg (by omega)]
   omega
 have hr:n.tmod 2=if n<0 then-((n.natAbs % 2:Nat):Int) else((n.natAbs % 2:Nat):Int):=by
  by_cases hn:n<0
  ·have e:n.tmod 2= -((-n).tmod 2):=by rw[Int.neg_tmod,Int.neg_neg]
   rw[if_pos hn,e,Int.tmod_eq_emod_of_nonneg (by omega)];omega
  ·rw[if_neg hn,Int.tmod_eq_emod_of_nonneg (by omega)]
   omega
 have e1:IntKind.i64.wrap (n.tdiv 2)=n.tdiv 2:=IntWalk.i64_in _ ⟨by split at hq<;>omega,by split at hq<;>omega⟩
 have e2:IntKind.i64.wrap (-(n.tdiv 2))= -(n.tdiv 2):=IntWalk.i64_in _ ⟨by split at hq<;>omega,by split at hq<;>omega⟩
 have e3:max (n.tdiv 2) (-(n.tdiv 2))=((n.natAbs/2:Nat):Int):=by split at hq<;>omega
 have e4:IntKind.i64.wrap (-(n.tmod 2))= -(n.tmod 2):=IntWalk.i64_in _ ⟨by split at hr<;>omega,by split at hr<;>omega⟩
 have e5:max (n.tmod 2) (-(n.tmod 2))=((n.natAbs % 2:Nat):Int):=by split at hr<;>omega
 have hB:bare (cO (bare ⟨decide (n<0),n.natAbs/2,1⟩) (bare ⟨decide (n<0),n.natAbs % 2,0⟩))=bare (intT n):=by
  rw[plus_bare];have k0: -((0:Nat):Int)≤(⟨decide (n<0),n.natAbs/2,1⟩:ak).e:=by show 0≤1;omega
  have k1: -((0:Nat):Int)≤(⟨decide (n<0),n.natAbs % 2,0⟩:ak).e:=by show 0≤0;omega
  have k2: -((0:Nat):Int)≤(intT n).e:=by show 0≤0;omega
  refine fH (K:=0) (eS (eL k0) (eL k1)) k2 ?_;rw[dH (eL k0) (eL k1),dw k0,dw k1];unfold intT V sz
  cases decide (n<0)<;>simp<;>omega
 rw[←hB];have hl: ∀{z:ak},z.n<2^64→(Dg.dg 65536 (bare z).n).length≤30000:=fun {z} h=>Nat.le_trans (Dg.dg_len_le 65536 _ 4 (by omega) (Nat.lt_of_le_of_lt (kR z) (Nat.lt_of_lt_of_le h (by decide)))) (by omega)
 have hE: ∀{z:ak},z.n<2^64→0≤z.e→z.e≤1→ -200000≤(bare z).e∧(bare z).e≤200000:=fun {z} h g1 g2=>by
  by_cases h0:z.n=0
  ·rw[bare_0 h0]
   exact⟨by show(-200000:Int)≤0;omega,by show 0≤200000;omega⟩
  ·obtain⟨-,t2,t3⟩:=gN h0
   have:=bF _ _ h;omega
 have hu:(⟨decide (n<0),n.natAbs/2,1⟩:ak).n<2^64:=by show n.natAbs/2<18446744073709551616;omega
 have hv:(⟨decide (n<0),n.natAbs % 2,0⟩:ak).n<2^64:=by show n.natAbs % 2<18446744073709551616;omega
 have hbar:=fun(t:ak) (ht:t.n<2^64) (g1:0≤t.e) (g2:t.e≤1) (xo:Option Addr) (xc:Nat) w1 (r:Rd w1 .i64 (yS xo t.n xc) (Dg.dg 65536 t.n))=>iJ _ t w1 ⟨_,rfl,r⟩ (Nat.le_trans (Dg.dg_len_le 65536 _ 4 (by omega) (Nat.lt_of_lt_of_le ht (by decide))) (by omega)) (by omega) (by omega)
 exact lwhole_W n (n.tdiv 2) (-(n.tdiv 2)) (-(n.tmod 2)) (n.natAbs/2) (n.natAbs % 2) _ _ _ w e1 e2 e3 e4 e5 (fun w1 _=>fromN_any _ w1 (by omega)) (fun w1 _=>fromN_any _ w1 (by omega)) (fun xo xc w1 _ r=>hbar ⟨decide (n<0),n.natAbs/2,1⟩ hu (by show 0≤1;omega) (by show(1:Int)≤1;omega) xo xc w1 r) (fun xo xc w1 _ r=>hbar ⟨decide (n<0),n.natAbs % 2,0⟩ hv (by show 0≤0;omega) (by show 0≤1;omega) xo xc w1 r) (fun uo uc vo vc w1 _ ru rv=>lw _ _ _ _ w1 ⟨_,rfl,ru⟩ ⟨_,rfl,rv⟩ (hl hu) (hl hv) (hE hu (by show 0≤1;omega) (by show(1:Int)≤1;omega)).1 (hE hu (by show 0≤1;omega) (by show(1:Int)≤1;omega)).2 (hE hv (by show 0≤0;omega) (by show 0≤1;omega)).1 (hE hv (by show 0≤0;omega) (by show 0≤1;omega)).2)
end Go.Proofs.YtlgkfdcmokchgaaGreatDoor
