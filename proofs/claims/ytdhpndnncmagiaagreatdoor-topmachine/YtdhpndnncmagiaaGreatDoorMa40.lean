/-
  Texts laid together: Co18, Ce11, Ce12, Pa1, Pa2, Ar8, Pa4, As10, Rb3, Tx6, Tx11, Tx15, Tx17.
-/
import Derived.Test.YtdhpndnncmagiaaGreatDoorMa34
import Derived.Test.YtdhpndnncmagiaaGreatDoorMa35
import Derived.Test.YtdhpndnncmagiaaGreatDoorMa38
set_option maxRecDepth 100000
set_option maxHeartbeats 3200000
namespace Go.Proofs.YtdhpndnncmagiaaGreatDoor
open _root_.Go.Proofs.Tryz
open Go.RowKit
theorem fR n (s:ByteArray)(w:World):yC 40 #[yi n,.string s] w (eP w ((bM n s:Nat):Int) (dz n s) (gJ n s) (iF n s) (dF n s)):=by
 unfold bM dz gJ iF
 by_cases h:dF n s=0
 ·rw[if_pos h,if_pos h,if_pos h,if_pos h]
  have hf:dK n≠0:=fun hf=>by
   unfold dF at h;rw[if_pos hf] at h;omega
  obtain⟨h1,h2,h3⟩:=fF hf;have HR:=fun w1=>uM n s w1 h
  have HV:=fun w1=>Gz n.toNat ⟨h1,h2⟩ (aZ n.toNat s) (aR n.toNat s) (aU n.toNat s) w1 (vW ⟨h1,h2⟩ s) (GM ⟨h1,h2⟩ s)
  rw[h];generalize n.toNat=k at*;generalize dh k (aZ k s) (aR k s) (aU k s)=c at*;generalize kt k (aZ k s) (aR k s) (aU k s)=g at*;generalize ge k (aZ k s) (aR k s) (aU k s)=m at*;generalize gw k (aZ k s) (aR k s) (aU k s)=p at*;generalize aZ k s=ng at*;generalize aR k s=e at*;generalize aU k s=f at*
  rcases bO ⟨h1,h2⟩ with rfl|rfl|rfl|rfl|rfl|rfl|rfl|rfl
  all_goals exact Xt _ _ _ _ _ _ _ _ _ _ ng e f _ _ _ _ s w HR HV
 ·rw[if_neg h,if_neg h,if_neg h,if_neg h]
  exact Pk n _ h s w (fun w1=>tA n s w1 h)
theorem B5 (k:Nat)(hk:1≤k∧k≤8)(ng:Bool)(ao:Option Addr)(ca:Nat)(xs:List Nat)(p:Int)(w:World)(hr:Rd w .u32 (.slice ao xs.length ca) xs)(sa:Dg.Small 4294967296 xs)(hc:chk xs=0)(hT:Tab w):
  yC 91 #[.agg (tS k).toArray,yvV 2 ng (.slice ao xs.length ca) p] w (yR w (.tuple #[.string (enS k ng xs p),yi (enE k ng xs p)])):=by
 have key: ∀er,enE k ng xs p=er→enS k ng xs p=if er=0 then cF (kU k (plT k (enN k ng xs p).1.s (enN k ng xs p).1.n (enN k ng xs p).1.e).s (heE (rdN k) (lsI k) (gW k) (plT k (enN k ng xs p).1.s (enN k ng xs p).1.n (enN k ng xs p).1.e)) (plT k (enN k ng xs p).1.s (enN k ng xs p).1.n (enN k ng xs p).1.e).d) else⟨#[]⟩:=fun er h=>by unfold enS;rw[h]
 by_cases hp:p< -20000∨20000<p
 ·have hE:enE k ng xs p=3:=if_pos hp
  rw[key 3 hE,hE,if_neg (by omega)]
  rcases hp with hp|hp
  ·rcases bO hk with rfl|rfl|rfl|rfl|rfl|rfl|rfl|rfl
   all_goals exact Q7 _ _ _ _ _ _ _ _ _ 2 p ng ao xs.length ca w hp
  ·rcases bO hk with rfl|rfl|rfl|rfl|rfl|rfl|rfl|rfl
   all_goals exact NN _ _ _ _ _ _ _ _ _ 2 p ng ao xs.length ca w hp
 ·have hp1: -20000≤p:=by omega
  have hp2:p≤20000:=by omega
  by_cases hl:xs.length=0
  ·have hE:enE k ng xs p=4:=by unfold enE;rw[if_neg hp,if_pos hl]
   rw[key 4 hE,hE,if_neg (by omega)]
   rcases bO hk with rfl|rfl|rfl|rfl|rfl|rfl|rfl|rfl
   all_goals exact KO _ _ _ _ _ _ _ _ _ 2 p ng ao xs.length ca w hp1 hp2 hl
  ·have hnx:Dg.vl 4294967296 xs≠0:=fun h=>by
    obtain⟨n1,-⟩:=aF hc;exact Dg.vl_ne_zero 4294967296 (by omega) xs (by intro e;subst e;simp at hl) n1 h
   have HN1:=fun w1 (b:yB w w1)=>kB (rdN k) (dgN k) (lsI k) (gsI k) (decide (k≤3)) ng ao ca xs p false false false w1 (hr.l b) sa (hT.l b)
   have hen:cC (ix xs p (rdN k) (dgN k) (lsI k) (gsI k)) ⟨ng,Dg.vl 4294967296 xs,(ai (rdN k):Int)*p⟩=enN k ng xs p:=rfl;rw[hen] at HN1;have hE:enE k ng xs p=if(enN k ng xs p).2=0∧enH k (enN k ng xs p).1=true then 0 else 4:=by unfold enE;rw[if_neg hp,if_neg hl]
   have hfact:(enN k ng xs p).2=0→(enN k ng xs p).1.n≠0∧aS (Dg.dg 4294967296 (enN k ng xs p).1.n) (enN k ng xs p).1.e=0:=fun h=>by
    have h2:=wI (show cC (ix xs p (rdN k) (dgN k) (lsI k) (gsI k)) ⟨ng,Dg.vl 4294967296 xs,(ai (rdN k):Int)*p⟩=((enN k ng xs p).1,0) from by rw[hen];exact Prod.ext rfl h)
    obtain⟨h3,h4⟩:=h2;refine⟨fun h5=> ?_,h4⟩
    rw[h3] at h5;exact hnx ((fI ⟨ng,Dg.vl 4294967296 xs,(ai (rdN k):Int)*p⟩).1 h5)
   clear hen;generalize enN k ng xs p=r at*;obtain⟨t,er⟩:=r;simp only at hE hfact key HN1⊢;have HN: ∀w1,yB w w1→yC 159 #[.agg (tS k).toArray,yvV 2 ng (.slice ao xs.length ca) p] w1 (gR w1 (t,er)):=fun w1 b=>by
    rcases bO hk with rfl|rfl|rfl|rfl|rfl|rfl|rfl|rfl
    all_goals exact Je _ _ _ _ _ _ _ _ _ 2 p ng ao xs.length ca (t,er) w1 (fun w2 b2=>HN1 w2 (aa b b2))
   by_cases her:er=0
   ·obtain⟨hn0,hdc⟩:=hfact her
    have sm:=Dg.small_dg 4294967296 t.n (by omega);have HH:=fun so sc w1 (b:yB w w1) (h:Rd w1 .u32 (yT so t.n sc) (Dg.dg 4294967296 t.n))=>qR (rdN k) (dgN k) (lsI k) (gsI k) (decide (k≤3)) t.s so sc (Dg.dg 4294967296 t.n) t.e w1 h sm (hT.l b)
    have hgr:bk (rdN k) (dgN k) (lsI k) (gsI k)=0:=by
     rcases bO hk with rfl|rfl|rfl|rfl|rfl|rfl|rfl|rfl<;>decide
    have hon:onC (aS (Dg.dg 4294967296 t.n) t.e) (bk (rdN k) (dgN k) (lsI k) (gsI k))=0:=by unfold onC;rw[if_pos hdc];exact hgr
    rw[hon] at HH
    by_cases hq:enH k t=true
    ·rw[if_pos ⟨her,hq⟩] at hE
     rw[key 0 hE,hE,if_pos rfl];have hq':um (Dg.dg 4294967296 t.n) t.e (rdN k) (dgN k) (lsI k) (gsI k) (decide (k≤3))=true:=hq;have hheld:dA (rdN k) (dgN k) (lsI k) (gsI k) (decide (k≤3)) (Dg.vl 4294967296 (Dg.dg 4294967296 t.n)) t.e=true:=by
      have h:=hq';unfold um at h;rw[if_pos hon] at h;exact h
     have HE:=fun so sc w1 (_b:yB w w1) (h:Rd w1 .u32 (yT so t.n sc) (Dg.dg 4294967296 t.n))=>xE k hk t.s so sc (Dg.dg 4294967296 t.n) t.e w1 h sm hdc (by rw[Dg.vl_dg 4294967296 t.n (by omega)];exact hn0) hheld
     rw[Dg.vl_dg 4294967296 t.n (by omega)] at HE;rw[hq'] at HH;generalize cF (kU k (plT k t.s t.n t.e).s (heE (rdN k) (lsI k) (gW k) (plT k t.s t.n t.e)) (plT k t.s t.n t.e).d)=st at*
     rcases bO hk with rfl|rfl|rfl|rfl|rfl|rfl|rfl|rfl
     all_goals exact NP _ _ _ _ _ _ _ _ _ 2 p ng ao xs.length ca w t er HN true 0 HH st 0 HE hp1 hp2 (by omega) her rfl rfl
    ·have hqf:um (Dg.dg 4294967296 t.n) t.e (rdN k) (dgN k) (lsI k) (gsI k) (decide (k≤3))=false:=by
      have:enH k t=false:=by simpa using hq
      exact this
     rw[if_neg (fun h=>hq h.2)] at hE
     rw[key 4 hE,hE,if_neg (by omega)];rw[hqf] at HH
     rcases bO hk with rfl|rfl|rfl|rfl|rfl|rfl|rfl|rfl
     all_goals exact NO _ _ _ _ _ _ _ _ _ 2 p ng ao xs.length ca w t er HN false 0 HH hp1 hp2 (by omega) her rfl rfl
   ·rw[if_neg (fun h=>her h.1)] at hE
    rw[key 4 hE,hE,if_neg (by omega)]
    rcases bO hk with rfl|rfl|rfl|rfl|rfl|rfl|rfl|rfl
    all_goals exact Q8 _ _ _ _ _ _ _ _ _ 2 p ng ao xs.length ca w t er HN hp1 hp2 (by omega) her
theorem jj (n c:Int)(ng:Bool)(ao:Option Addr)(ca:Nat)(xs:List Nat)(p:Int)(w:World)(hr:Rd w .u32 (.slice ao xs.length ca) xs)(sa:Dg.Small 4294967296 xs)(hT:Tab w):
  yC 54 #[yi n,yvV c ng (.slice ao xs.length ca) p] w (yR w (.tuple #[.string (fq n c ng xs p),yi (gI n c ng xs p)])):=by
 have HN:yH w 90 #[.slice ao xs.length ca] (yi (chk xs)):=fun w1 b=>(jC _ xs w1 (hr.l b)).mono (fun _ _ h=>⟨h.1,by rw[h.2];exact Below.refl _ _⟩)
 unfold gI fq
 by_cases hf:dK n=0
 ·rw[if_pos (.inl hf),if_pos (.inl hf)]
  exact LX n c p ng ao xs.length ca w (fun w1=>lR n w1 hf)
 ·obtain⟨h1,h2,h3⟩:=fF hf
  obtain⟨k,rfl⟩: ∃k:Nat,n=(k:Int):=⟨n.toNat,h3.symm⟩;rw[Int.toNat_natCast] at h1 h2⊢;have HL:=fun w1=>pU k ⟨h1,h2⟩ w1
  by_cases hc1:c<1
  ·rw[if_pos (.inr (.inl hc1)),if_pos (.inr (.inl hc1))]
   rcases bO ⟨h1,h2⟩ with rfl|rfl|rfl|rfl|rfl|rfl|rfl|rfl
   all_goals exact aaS _ _ _ _ _ _ _ _ _ _ c p ng ao xs.length ca w HL hc1
  ·by_cases hc5:5<c
   ·rw[if_pos (.inr (.inr hc5)),if_pos (.inr (.inr hc5))]
    rcases bO ⟨h1,h2⟩ with rfl|rfl|rfl|rfl|rfl|rfl|rfl|rfl
    all_goals exact Xj _ _ _ _ _ _ _ _ _ _ c p ng ao xs.length ca w HL hc5
   ·have hno: ¬(dK (k:Int)=0∨c<1∨5<c):=by
     rintro(h|h|h)
     ·exact hf h
     ·exact hc1 h
     ·exact hc5 h
    rw[if_neg hno,if_neg hno]
    by_cases hn:chk xs=0
    ·rw[if_neg (show¬chk xs≠0 from fun h=>h hn),if_neg (show¬chk xs≠0 from fun h=>h hn)]
     by_cases hc2:c=2
     ·subst hc2
      rw[if_pos rfl,if_pos rfl];have HO:=fun w1 (b:yB w w1)=>B5 k ⟨h1,h2⟩ ng ao ca xs p w1 (hr.l b) sa hn (hT.l b)
      generalize enS k ng xs p=st at*;generalize enE k ng xs p=er at*
      rcases bO ⟨h1,h2⟩ with rfl|rfl|rfl|rfl|rfl|rfl|rfl|rfl
      all_goals exact QD _ _ _ _ _ _ _ _ _ _ p ng ao xs.length ca w HL _ HN st er HO hn
     ·rw[if_neg hc2,if_neg hc2]
      obtain⟨m,hm⟩: ∃m:Nat,c=(m:Int):=⟨c.toNat,by omega⟩;subst hm;rw[Int.toNat_natCast];have HO:=fun w1=>wE k m ⟨h1,h2⟩ (by omega) ng ao xs.length ca p w1
      generalize Fv k m xs.length ng p=st at*;generalize qX k m xs.length ng p=er at*
      rcases bO ⟨h1,h2⟩ with rfl|rfl|rfl|rfl|rfl|rfl|rfl|rfl
      all_goals exact Ip _ _ _ _ _ _ _ _ _ _ _ p ng ao xs.length ca w HL _ HN st er HO (by omega) (by omega) (by omega) hn
    ·rw[if_pos hn,if_pos hn]
     rcases bO ⟨h1,h2⟩ with rfl|rfl|rfl|rfl|rfl|rfl|rfl|rfl
     all_goals exact EF _ _ _ _ _ _ _ _ _ _ c p ng ao xs.length ca w HL _ HN (by omega) (by omega) hn
theorem CZ (k:Nat)(wy c p fl:Int)(g:Bool)(m:Nat)(ao:Option Addr)(ca:Nat)(w:World)(hr:Rd w .u32 (yT ao m ca) (Dg.dg 4294967296 m))(hT:Tab w):
  yC 62 #[dsk k wy,yvV c g (yT ao m ca) p,yi fl] w (mM (Dw k c g m p fl) w):=by
 have:=It k wy (dK k) (rdN k) (dgN k) (lsI k) (gsI k) c p fl _ (decide (k≤3)) g ao (Dg.dg 4294967296 m).length ca _ w (fun w1 b1=>jj k c g ao ca (Dg.dg 4294967296 m) p w1 (hr.l b1) (Dg.small_dg _ _ (by omega)) (hT.l b1))
 refine this.mono (fun z w' h=>⟨?_,h.2⟩)
 rw[h.1];unfold Dw
 by_cases c0:gI k c g (Dg.dg 4294967296 m) p=0
 ·rw[if_pos c0,if_pos c0]
 ·rw[if_neg c0,if_neg c0]
def m8 (k:Nat)(wy c:Int)(g:Bool)(t:ak)(fl:Int):ByteArray×Int×Int:=
 if c=2 then Dw k (pG k wy (fY k wy t)).1 (pG k wy (fY k wy t)).2.1 (pG k wy (fY k wy t)).2.2.1 (pG k wy (fY k wy t)).2.2.2.1 (bits .or .i64 fl (pG k wy (fY k wy t)).2.2.2.2)
 else if c=1 then Dw k 1 (g&&decide (dK k=1)) 0 0 fl else Dw k c g 0 0 fl
theorem zj n (s:ByteArray)(w:World)(hT:Tab w):yC 23 #[yi n,.string s] w (Ys w ((bM n s:Nat):Int) (dz n s) (gJ n s) (iF n s) (opT n s) (dF n s)):=by
 have HD:=fun w1=>fR n s w1
 by_cases hp:dF n s=0
 ·have hf:dK n≠0:=fun hf=>by
   unfold dF at hp;rw[if_pos hf] at hp;omega
  obtain⟨k1,k2,k3⟩:=fF hf;obtain⟨k,rfl⟩: ∃k:Nat,n=(k:Int):=⟨n.toNat,k3.symm⟩;rw[Int.toNat_natCast] at k1 k2;have hk:1≤k∧k≤8:=⟨k1,k2⟩;have hG:dz (k:Int) s=kt k (aZ k s) (aR k s) (aU k s):=by
   unfold dz;rw[if_pos hp,Int.toNat_natCast]
  have hM:gJ (k:Int) s=ge k (aZ k s) (aR k s) (aU k s):=by
   unfold gJ;rw[if_pos hp,Int.toNat_natCast]
  have hP:iF (k:Int) s=gw k (aZ k s) (aR k s) (aU k s):=by
   unfold iF;rw[if_pos hp,Int.toNat_natCast]
  have hO:opT (k:Int) s=nxT k s:=by
   unfold opT;rw[if_pos hp,Int.toNat_natCast]
  rw[hp] at HD⊢;rw[hO];refine abe (k:Int) _ _ _ _ _ _ _ _ _ (nxT k s) s w (fun w1=>vj k hk w1) HD (fun vo vc w1 b r=> ?_)
  have hn:=XP hk s;have hN:=fun w2 (b2:yB w1 w2)=>kB (rdN k) (dgN k) (lsI k) (gsI k) (decide (k≤3)) (dz (k:Int) s) vo vc _ (iF (k:Int) s) false false false w2 (r.l b2) (Dg.small_dg 4294967296 _ (by omega)) (hT.l (aa b b2))
  rw[hG,hM,hP] at hN⊢;rw[hn] at hN;exact IY _ _ _ _ _ _ 0 _ _ vo _ vc (nxT k s) w1 hN
 ·have hC:bM n s=0:=if_neg hp
  have hG:dz n s=false:=if_neg hp;have hM:gJ n s=0:=if_neg hp;have hP:iF n s=0:=if_neg hp;have hO:opT n s=⟨false,0,0⟩:=if_neg hp;rw[hC,hG,hM,hP,hO]
  by_cases hf:dK n=0
  ·have h6:dF n s=6:=by
    unfold dF;rw[if_pos hf]
   rw[h6];exact afp n 6 (by decide) s w (fun w1=>vU n w1 hf)
  ·obtain⟨k1,k2,k3⟩:=fF hf
   obtain⟨k,rfl⟩: ∃k:Nat,n=(k:Int):=⟨n.toNat,k3.symm⟩;rw[Int.toNat_natCast] at k1 k2;exact afq (k:Int) _ hp _ _ _ _ _ _ _ _ _ s w (fun w1=>vj k ⟨k1,k2⟩ w1) HD
def jV (n way:Int)(ps:List ByteArray)(f:Int×Bool×ak×Int):ByteArray×Int×Int:=
 if dK n=0 then(⟨#[]⟩,0,6) else if fT n ps≠0 then(⟨#[]⟩,0,fT n ps) else if way<1∨5<way then(⟨#[]⟩,0,6)
 else if ps.any (dO n)=true then m8 n.toNat way (AZ (dK n)) false ⟨false,0,0⟩ (if dK n=1 then 0 else 16) else m8 n.toNat way f.1 f.2.1 f.2.2.1 f.2.2.2
theorem Jy (w:World)(ro:Option Addr)(rc:Nat)(hr:Rd w .u32 (yT ro 2 rc) (Dg.dg 4294967296 2))(hT:Tab w):
  yC 66 #[ykV 1 1 1 2 24 (-149) 104 true,yoV 2 false false (yT ro 2 rc) 0,yi 0] w (yR w (.tuple #[.string tE,yi 0,yi 0])):=by
 refine El 1 1 1 2 24 (-149) 104 0 true false ⟨false,2,0⟩ ro rc false 2 1 0 false 8388608 (-22) true false false 2 false 8388608 (-22) 0 0 tE 0 0 w (by kernel_rfl) ?_ ?_ ?_ ?_
 ·intro w1 b1
  refine Ct ⟨false,2,0⟩ ⟨false,2,0⟩ ro rc 0 0 2 1 w1 rfl ?_ (fun h=>absurd h (by decide)) (fun _=>⟨rfl,rfl, ?_⟩)
  ·intro w2 b2
   exact(EQ ⟨false,2,0⟩ ro rc w2 ((hr.l b1).l b2) (by decide) (by decide)).mono (fun z w' h=>⟨_,h.1,((hr.l b1).l b2).l h.2,h.2⟩)
  ·intro q w2 hq
   have:=eO (.slice (some ⟨q,0,none⟩) 1 1) [1] 0 w2 (xD hq) (fun i=>by
    match i with
    |0=>decide
    |i+1=>simp) (by simp) (by decide) (by decide)
   rw[show shN (Dg.vl 4294967296 [1]) 0=1 from rfl] at this
   exact this
 ·intro no nc mo mc w1 b1 h1 h2
  have:=jM false no nc [2] mo mc [1] 0 2 24 (-149) 104 true 1 w1 h1 h2 (fun i=>by
    match i with
    |0=>decide
    |i+1=>simp) (fun i=>by
    match i with
    |0=>decide
    |i+1=>simp)
  rw[IR.1,IR.2] at this;exact this.mono (fun z w' h=>by
   obtain⟨v,rfl,own,b2⟩:=h;obtain⟨po,pc,hv⟩:=own.rd.shape;subst hv;exact⟨po,pc,rfl,own.rd,b2⟩)
 ·intro po pc w1 b1 h1
  exact Id 1 1 1 2 24 (-149) 104 (-22) true false true false po _ pc 8388608 w1 rfl h1 (fun h=>by cases h) 2 0 rfl rfl
 ·intro vo vc w1 b1 h1
  have:=It 1 1 1 2 24 (-149) 104 2 (-22) 0 0 true false vo (Dg.dg 4294967296 8388608).length vc tE w1 (fun w2 b2=>by
   have:=jj 1 2 false vo vc [8388608] (-22) w2 (h1.l b2) (fun i=>by
    match i with
    |0=>decide
    |i+1=>simp) ((hT.l b1).l b2)
   rw[Su.1,Su.2] at this;exact this)
  rw[if_pos rfl] at this;exact this
theorem Tn (w:World)(hT:Tab w):
  yC 15 #[yi 1,.string jA,.string jA,yi 1] w (yR w (.tuple #[.string tE,yi 0,yi 0])):=by
 obtain⟨o1,o2,o3,o4⟩:=IQ;refine acw 1 1 0 0 jA jA tE w (fun pb w1 b1 hl=> ?_)
 refine IP 1 2 24 (-149) 104 1 1 2 0 0 0 true false ⟨false,2,0⟩ _ 2 [jA,jA] pb tE w1 (by decide) (by decide) rfl (by decide) (by decide) (by unfold fT fT fT;rw[if_pos o1,if_pos o1]) (by simp[dO,o2]) hl (fun args W=>by kernel_rfl) (fun w2=>mp 1 (by decide) w2) (fun w2 b2 h2=> ?_) (fun g cap w2 _ hV=>Tm w2 g cap hV) (fun ro rc w2 b2 h2=>Jy w2 ro rc h2 ((hT.l b1).l b2))
 exact vQ 1 0 _ _ _ _ _ _ [jA,jA] pb w2 h2 (by simp) (fun p w3 b3=>zj 1 p w3 (((hT.l b1).l b2).l b3))
theorem jx (w:World)(hT:Tab w):yC 12 #[] w (yR w (.bool true)):=by
 have hcA: ∀W:World,(convert 70 9 (.slice (some ⟨W.heap.size,0,none⟩) 4 4)).run Tryz.prog (W.alloc (.cells #[.int .u8 63,.int .u8 128,.int .u8 0,.int .u8 0] 5))= .ok (.string jA) (W.alloc (.cells #[.int .u8 63,.int .u8 128,.int .u8 0,.int .u8 0] 5)):=fun W=>Ig W 5 70 9 [63,128,0,0] underlying70 underlying5 underlying9 (by unfold maxLen;simp)
 have hcB: ∀W:World,(convert 70 9 (.slice (some ⟨W.heap.size,0,none⟩) 4 4)).run Tryz.prog (W.alloc (.cells #[.int .u8 64,.int .u8 0,.int .u8 0,.int .u8 0] 5))= .ok (.string tE) (W.alloc (.cells #[.int .u8 64,.int .u8 0,.int .u8 0,.int .u8 0] 5)):=fun W=>Ig W 5 70 9 [64,0,0,0] underlying70 underlying5 underlying9 (by unfold maxLen;simp)
 have HA:Hid (yH w 15 #[yi 1,.string jA,.string jA,yi 1] (.tuple #[.string tE,yi 0,yi 0])):=fun w1 b=>Tn w1 (hT.l b)
 generalize jA=pA at*;generalize tE=pB at*;have b1:=af w (.cells #[.int .u8 63,.int .u8 128,.int .u8 0,.int .u8 0] 5);clear hT
 go_enter func12,ntmps12
 go_wp2_with fail
 refine(HA.out _ b1).mono ?_;rintro z w2 ⟨rfl,b2⟩;have b02:=aa b1 b2;have b3:=aa b02 (af w2 (.cells #[.int .u8 64,.int .u8 0,.int .u8 0,.int .u8 0] 5));clear b1 b2
 go_wp2
 go_ret
 exact⟨rfl,b3⟩
def fitT (k:Nat)(way:Int)(qs:Bool)(xs ys:List Nat)(E:Int):ByteArray×Int×Int:=
 if eE xs ys E (rdN k) (dgN k) (lsI k) (gsI k) way=0 then Dw k (pG k way (df xs ys E (rdN k) (dgN k) (lsI k) (gsI k) (decide (k≤3)) qs way)).1 (pG k way (df xs ys E (rdN k) (dgN k) (lsI k) (gsI k) (decide (k≤3)) qs way)).2.1 (pG k way (df xs ys E (rdN k) (dgN k) (lsI k) (gsI k) (decide (k≤3)) qs way)).2.2.1 (pG k way (df xs ys E (rdN k) (dgN k) (lsI k) (gsI k) (decide (k≤3)) qs way)).2.2.2.1 (pG k way (df xs ys E (rdN k) (dgN k) (lsI k) (gsI k) (decide (k≤3)) qs way)).2.2.2.2
 else(⟨#[]⟩,0,eE xs ys E (rdN k) (dgN k) (lsI k) (gsI k) way)
theorem tRatio_any (t:ByteArray)(w:World)(hT:TxW w):
  (raE t=0→yC 31 #[.string t] w (RtE w (raV t).1 (raV t).2.1 (raV t).2.2.1 (raV t).2.2.2 0))∧
  (raE t≠0→yC 31 #[.string t] w (yR w (.tuple #[yrV false yN yN 0,yi (raE t)]))):=by
 have HN:=fun w1 (b:yB w w1)=>read_any t w1 (hT.l b)
 refine⟨fun h=> ?_,fun h=> ?_⟩
 ·obtain⟨h1,h2,h3,h4⟩:=nmV_zero h
  have HN2:yH w 58 #[.string t] (.tuple #[.agg #[.bool (nmV t).1.1,.string (nmV t).1.2.1,yi (nmV t).1.2.2],yi 0]):=fun w1 b=>by
   have:=HN w1 b;unfold NmE at this;rw[show(nmV t).2=0 from h] at this
   exact this
  exact tRatio_ok _ _ _ _ _ _ _ t w HN2 (fun w1 b=>ratio_any _ _ _ w1 h1 ((digB_iff _).1 h2).2 h3 h4 (hT.l b).1)
 ·exact tRatio_err (raE t) _ _ _ t w h HN
def psV (n:Int)(t:ByteArray)(way:Int):ByteArray×Int×Int:=
 if dK n=0 then(⟨#[]⟩,0,6) else if raE t≠0 then(⟨#[]⟩,0,raE t) else fitT n.toNat way (raV t).1 (Dg.dg 4294967296 (raV t).2.1) (Dg.dg 4294967296 (raV t).2.2.1) (raV t).2.2.2
def mkB (n:Int)(t md:ByteArray):Bool:=decide ((psV n t 1).2.2=0)&&((psV n t 1).1.toList==md.toList)
theorem tPrint_any n (s:ByteArray)(k:Int)(w:World)(hT:TxW w):yC 10 #[yi n,.string s,yi k] w (yR w (.tuple #[.string (ptV n s k).1,yi (ptV n s k).2])):=by
 have HR:=fun w1 (b:yB w w1)=>zj n s w1 (hT.l b).1
 unfold ptV
 by_cases hp:dF n s=0
 rotate_left
 ·rw[if_pos hp]
  exact tPrint_err _ n k _ _ _ _ _ s w hp HR
 rw[if_neg (fun c=>c hp)]
 rw[hp] at HR
 by_cases h1:k<1
 ·rw[if_pos (.inl h1)]
  exact tPrint_low n k _ _ _ _ _ s w h1 HR
 by_cases h2:60<k
 ·rw[if_pos (.inr h2)]
  exact tPrint_high n k _ _ _ _ _ s w h1 h2 HR
 rw[if_neg (fun c=>c.elim h1 h2)]
 have HW:=fun vo vc w1=>wordOf_any ((bM n s:Nat):Int) (iF n s) (dz n s) vo (Dg.dg 4294967296 (gJ n s)).length vc w1
 cases hw:(wdV ((bM n s:Nat):Int)).2.2
 ·rw[if_neg (by decide)]
  rw[hw] at HW;obtain⟨x1,x2,x3,x4⟩:=num_of hp hw;obtain⟨a1,a2,a3,a4,a5⟩:=dc_all x1 x2 x3 x4;obtain⟨j,rfl⟩: ∃j:Nat,k=(j:Int):=⟨k.toNat,by omega⟩;rw[Int.toNat_natCast];exact tPrint_num _ (ptS n s j) _ _ _ _ n (j:Int) _ _ _ _ _ s w h1 h2 HR HW (fun xo xc w1 _ h=>decimalOf_any _ xo xc w1 h x1 x2 x3 x4) (fun ho hc w1 b h=>tprint_any _ _ _ j _ ho hc w1 h (hT.l b) a1 a2 (by omega) (by omega) (by omega) a4 a5)
 ·rw[if_pos rfl]
  rw[hw] at HW;exact tPrint_word _ n k _ _ _ _ _ s w h1 h2 HR HW
def shK (n:Int)(s:ByteArray):Nat:=shF (fun k=>mkB n (ptS n s k) (shM n s)) 59 1
def shV (n:Int)(s:ByteArray):ByteArray×Int:=
 if dF n s≠0 then(⟨#[]⟩,dF n s) else
  if(wdV ((bM n s:Nat):Int)).2.2=true then(wdS ((bM n s:Nat):Int) (dz n s),0) else
   if shE n s≠0 then(⟨#[]⟩,shE n s) else(ptS n s (shK n s),0)
theorem begun_ps:psV 2 ⟨#[48,46,49]⟩ 1=(tenS,1,0):=by kernel_rfl
theorem begun_sh:shV 2 tenS=(⟨#[49,101,45,49]⟩,0):=by kernel_rfl
end Go.Proofs.YtdhpndnncmagiaaGreatDoor
