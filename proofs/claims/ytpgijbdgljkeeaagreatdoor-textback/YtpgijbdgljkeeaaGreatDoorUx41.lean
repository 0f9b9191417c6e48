/-
  Texts laid together: Co14, Co18, Co4, Ce11, Ce12, Pa1, Ar8, Rb3, Tx6, Tx11, Tx15, Tx17.
-/
import Derived.Test.YtpgijbdgljkeeaaGreatDoorUx39
import Derived.Test.YtpgijbdgljkeeaaGreatDoorUx40
set_option maxRecDepth 100000
set_option maxHeartbeats 1600000
namespace Go.Proofs.YtpgijbdgljkeeaaGreatDoor
open _root_.Go.Proofs.Tryz
open Go.RowKit
theorem VY (k:Nat)(hk:1≤k∧k≤8)(s:ByteArray)(w:World)(hs:s.size=szN k):
  yC 118 #[.agg (tS k).toArray,.string s] w (yR w (yfV (aZ k s) ((aR k s:Nat):Int) ((aU k s:Nat):Int))):=by
 obtain⟨h1,h2,h3,h4,h5,-⟩:=fZ hk;have hb:=oV s;have HT: ∀g cap w1,ik w1 g (jr s)→yC (C9 k) #[.slice (some ⟨g,0,none⟩) (szN k) cap] w1 fun z w'=>z= .returned (.tuple #[])∧ik w' g (wG k s)∧w1.grownBy w' (some g):=fun g cap w1 h=>by
  have:=IV k g cap (jr s) w1 h (by omega) (by rw[hb,hs];exact h5);rw[hb,hs] at this;exact this
 have HF:=fun w1=>tm k hk w1
 have hl:(wG k s).length=szN k:=by rw[wG,nM,hb,hs]
 have hm:=xi k _ (zU s);have HE:=fun args W=>Db k args W
 unfold aZ aR aU
 rcases bO hk with rfl|rfl|rfl|rfl|rfl|rfl|rfl|rfl
 all_goals exact acf _ _ _ _ _ _ _ _ _ _ s _ w hs hl hm h1 h2 h3 h4 HT HF HE
theorem uM (n:Int)(s:ByteArray)(w:World)(h:dF n s=0):
  yC 63 #[yi n,.string s] w (yR w (.tuple #[.agg (tS n.toNat).toArray,yfV (aZ n.toNat s) ((aR n.toNat s:Nat):Int) ((aU n.toNat s:Nat):Int),yi 0])):=by
 unfold dF at h
 by_cases hf:dK n=0
 ·rw[if_pos hf] at h
  omega
 ·rw[if_neg hf] at h
  obtain⟨h1,h2,h3⟩:=fF hf;obtain⟨k,rfl⟩: ∃k:Nat,n=(k:Int):=⟨n.toNat,h3.symm⟩;rw[Int.toNat_natCast] at h h1 h2⊢;have hs:s.size=szN k:=by
   by_cases c:s.size=szN k
   ·exact c
   ·rw[if_neg c] at h
    omega
  have HL:=fun w1=>pU k ⟨h1,h2⟩ w1
  have HR:=fun w1=>VY k ⟨h1,h2⟩ s w1 hs
  generalize aZ k s=ng at*;generalize aR k s=e at*;generalize aU k s=f at*
  rcases bO ⟨h1,h2⟩ with rfl|rfl|rfl|rfl|rfl|rfl|rfl|rfl
  all_goals exact N7 _ _ _ _ _ _ _ _ _ _ ng e f s w hs HL HR
theorem tA (n:Int)(s:ByteArray)(w:World)(h:dF n s≠0):
  yC 63 #[yi n,.string s] w (yR w (.tuple #[yzV 0 0 0 0 false 0 0 0,yfV false 0 0,yi (dF n s)])):=by
 unfold dF at h⊢
 by_cases hf:dK n=0
 ·rw[if_pos hf]
  exact GA n s w (fun w1=>lR n w1 hf)
 ·rw[if_neg hf] at h⊢
  obtain⟨h1,h2,h3⟩:=fF hf;obtain⟨k,rfl⟩: ∃k:Nat,n=(k:Int):=⟨n.toNat,h3.symm⟩;rw[Int.toNat_natCast] at h h1 h2⊢
  by_cases hs:s.size=szN k
  ·rw[if_pos hs] at h
   omega
  ·rw[if_neg hs]
   have HL:=fun w1=>pU k ⟨h1,h2⟩ w1
   rcases bO ⟨h1,h2⟩ with rfl|rfl|rfl|rfl|rfl|rfl|rfl|rfl
   all_goals exact H6 _ _ _ _ _ _ _ _ _ _ s w hs HL
theorem fR n (s:ByteArray)(w:World):yC 26 #[yi n,.string s] w (eP w ((bM n s:Nat):Int) (dz n s) (gJ n s) (iF n s) (dF n s)):=by
 unfold bM dz gJ iF
 by_cases h:dF n s=0
 ·rw[if_pos h,if_pos h,if_pos h,if_pos h]
  have hf:dK n≠0:=fun hf=>by
   unfold dF at h;rw[if_pos hf] at h;omega
  obtain⟨h1,h2,h3⟩:=fF hf;have HR:=fun w1=>uM n s w1 h
  have HV:=fun w1=>Gz n.toNat ⟨h1,h2⟩ (aZ n.toNat s) (aR n.toNat s) (aU n.toNat s) w1 (vW ⟨h1,h2⟩ s) (GM ⟨h1,h2⟩ s)
  rw[h];generalize n.toNat=k at*;generalize dh k (aZ k s) (aR k s) (aU k s)=c at*;generalize kt k (aZ k s) (aR k s) (aU k s)=g at*;generalize ge k (aZ k s) (aR k s) (aU k s)=m at*;generalize gw k (aZ k s) (aR k s) (aU k s)=p at*;generalize aZ k s=ng at*;generalize aR k s=e at*;generalize aU k s=f at*
  rcases bO ⟨h1,h2⟩ with rfl|rfl|rfl|rfl|rfl|rfl|rfl|rfl
  all_goals exact Xt _ _ _ _ _ _ _ _ _ _ ng e f _ _ _ _ s w HR HV
 ·rw[if_neg h,if_neg h,if_neg h,if_neg h]
  exact Pk n _ h s w (fun w1=>tA n s w1 h)
theorem vU (n:Int)(w:World)(h:dK n=0):yC 92 #[yi n] w (yR w (.tuple #[ygV 0 0 0 0 false,yi 6])):=by
 have HL:Hid (yJ 111 #[yi n] (.tuple #[yzV 0 0 0 0 false 0 0 0,yi 6])):=fun w1=>lR n w1 h
 have hsf:=cD;have hsn:=gn;have l0:=ah w (ygL 0 0 0 0 false) 40;have b0:=af w (.cells (ygA 0 0 0 0 false) 40)
 go_enter func92,ntmps92
 go_wp2_with fail
 refine(HL.out _).mono ?_;rintro z w2 ⟨rfl,b2⟩;have l3:=(l0.l b2).l (af w2 (.cells (yzA 0 0 0 0 false 0 0 0) 124));have cR:au ((((((w2.alloc (.cells (yzA 0 0 0 0 false 0 0 0) 124)).setCell ⟨w.heap.size,0,none⟩ (yi 0)).setCell ⟨w.heap.size,1,none⟩ (yi 0)).setCell ⟨w.heap.size,2,none⟩ (yi 0)).setCell ⟨w.heap.size,3,none⟩ (yi 0)).setCell ⟨w.heap.size,4,none⟩ (.bool false)) w.heap.size 40 (ygL 0 0 0 0 false):=(((((l3.set 0 (yi 0)).set 1 (yi 0)).set 2 (yi 0)).set 3 (yi 0)).set 4 (.bool false));have bR:=(((((ag (w2.alloc (.cells (yzA 0 0 0 0 false 0 0 0) 124)) w.heap.size 0 (yi 0)).trans (ag _ w.heap.size 1 (yi 0))).trans (ag _ w.heap.size 2 (yi 0))).trans (ag _ w.heap.size 3 (yi 0))).trans (ag _ w.heap.size 4 (.bool false))).below (aa (aa b0 b2) (af w2 (.cells (yzA 0 0 0 0 false 0 0 0) 124))) (Nat.le_refl _);have hl:=run_loadVar_mid (P:=Tryz.prog) _ w.heap.size 0 40 (ygL 0 0 0 0 false) _ cR.range underlying40 rfl (by kernel_rfl);have HH:Hid (_∧_):=⟨hl,bR⟩;have x0:=l3.c 0 rfl;have f0:=l3.f 0;have x1:=l3.c 1 rfl;have f1:=l3.f 1;have x2:=l3.c 2 rfl;have f2:=l3.f 2;have x3:=l3.c 3 rfl;have f3:=l3.f 3;have x4:=l3.c 4 rfl;have f4:=l3.f 4;have hne:w2.heap.size≠w.heap.size:=Nat.ne_of_gt (l0.l b2).lt;clear hl bR cR l0 l3 b0 b2 HL
 go_wp2
 obtain⟨hl,bR⟩:=HH.out;exact bodyPost_ret (aj results92 rfl rfl hl) rfl ⟨rfl,bR⟩
theorem B5 (k:Nat)(hk:1≤k∧k≤8)(ng:Bool)(ao:Option Addr)(ca:Nat)(xs:List Nat)(p:Int)(w:World)(hr:Rd w .u32 (.slice ao xs.length ca) xs)(sa:Dg.Small 4294967296 xs)(hc:chk xs=0)(hT:Tab w):
  yC 113 #[.agg (tS k).toArray,yvV 2 ng (.slice ao xs.length ca) p] w (yR w (.tuple #[.string (enS k ng xs p),yi (enE k ng xs p)])):=by
 have key: ∀er,enE k ng xs p=er→enS k ng xs p=if er=0 then cF (kU k (plT k (enN k ng xs p).1.s (enN k ng xs p).1.n (enN k ng xs p).1.e).s (heE (rdN k) (lsI k) (gW k) (plT k (enN k ng xs p).1.s (enN k ng xs p).1.n (enN k ng xs p).1.e)) (plT k (enN k ng xs p).1.s (enN k ng xs p).1.n (enN k ng xs p).1.e).d) else⟨#[]⟩:=fun er h=>by unfold enS;rw[h]
 by_cases hp:p< -20000∨20000<p
 ·have hE:enE k ng xs p=3:=if_pos hp
  rw[key 3 hE,hE,if_neg (by omega)]
  rcases hp with hp|hp
  ·rcases bO hk with rfl|rfl|rfl|rfl|rfl|rfl|rfl|rfl
   all_goals exact Q7 _ _ _ _ _ _ _ _ _ 2 p ng ao xs.length ca w hp
  ·rcases bO hk with rfl|rfl|rfl|rfl|rfl|rfl|rfl|rfl
   all_goals exact NN _ _ _ _ _ _ _ _ _ 2 p ng ao xs.length ca w hp
 ·have hp1: -20000≤p:=by omega
  have hp2:p≤20000:=by omega
  by_cases hl:xs.length=0
  ·have hE:enE k ng xs p=4:=by unfold enE;rw[if_neg hp,if_pos hl]
   rw[key 4 hE,hE,if_neg (by omega)]
   rcases bO hk with rfl|rfl|rfl|rfl|rfl|rfl|rfl|rfl
   all_goals exact KO _ _ _ _ _ _ _ _ _ 2 p ng ao xs.length ca w hp1 hp2 hl
  ·have hnx:Dg.vl 4294967296 xs≠0:=fun h=>by
    obtain⟨n1,-⟩:=aF hc;exact Dg.vl_ne_zero 4294967296 (by omega) xs (by intro e;subst e;simp at hl) n1 h
   have HN1:=fun w1 (b:yB w w1)=>kB (rdN k) (dgN k) (lsI k) (gsI k) (decide (k≤3)) ng ao ca xs p false false false w1 (hr.l b) sa (hT.l b)
   have hen:cC (ix xs p (rdN k) (dgN k) (lsI k) (gsI k)) ⟨ng,Dg.vl 4294967296 xs,(ai (rdN k):Int)*p⟩=enN k ng xs p:=rfl;rw[hen] at HN1;have hE:enE k ng xs p=if(enN k ng xs p).2=0∧enH k (enN k ng xs p).1=true then 0 else 4:=by unfold enE;rw[if_neg hp,if_neg hl]
   have hfact:(enN k ng xs p).2=0→(enN k ng xs p).1.n≠0∧aS (Dg.dg 4294967296 (enN k ng xs p).1.n) (enN k ng xs p).1.e=0:=fun h=>by
    have h2:=wI (show cC (ix xs p (rdN k) (dgN k) (lsI k) (gsI k)) ⟨ng,Dg.vl 4294967296 xs,(ai (rdN k):Int)*p⟩=((enN k ng xs p).1,0) from by rw[hen];exact Prod.ext rfl h)
    obtain⟨h3,h4⟩:=h2;refine⟨fun h5=> ?_,h4⟩
    rw[h3] at h5;exact hnx ((fI ⟨ng,Dg.vl 4294967296 xs,(ai (rdN k):Int)*p⟩).1 h5)
   clear hen;generalize enN k ng xs p=r at*;obtain⟨t,er⟩:=r;simp only at hE hfact key HN1⊢;have HN: ∀w1,yB w w1→yC 145 #[.agg (tS k).toArray,yvV 2 ng (.slice ao xs.length ca) p] w1 (gR w1 (t,er)):=fun w1 b=>by
    rcases bO hk with rfl|rfl|rfl|rfl|rfl|rfl|rfl|rfl
    all_goals exact Je _ _ _ _ _ _ _ _ _ 2 p ng ao xs.length ca (t,er) w1 (fun w2 b2=>HN1 w2 (aa b b2))
   by_cases her:er=0
   ·obtain⟨hn0,hdc⟩:=hfact her
    have sm:=Dg.small_dg 4294967296 t.n (by omega);have HH:=fun so sc w1 (b:yB w w1) (h:Rd w1 .u32 (yT so t.n sc) (Dg.dg 4294967296 t.n))=>qR (rdN k) (dgN k) (lsI k) (gsI k) (decide (k≤3)) t.s so sc (Dg.dg 4294967296 t.n) t.e w1 h sm (hT.l b)
    have hgr:bk (rdN k) (dgN k) (lsI k) (gsI k)=0:=by
     rcases bO hk with rfl|rfl|rfl|rfl|rfl|rfl|rfl|rfl<;>decide
    have hon:onC (aS (Dg.dg 4294967296 t.n) t.e) (bk (rdN k) (dgN k) (lsI k) (gsI k))=0:=by unfold onC;rw[if_pos hdc];exact hgr
    rw[hon] at HH
    by_cases hq:enH k t=true
    ·rw[if_pos ⟨her,hq⟩] at hE
     rw[key 0 hE,hE,if_pos rfl];have hq':um (Dg.dg 4294967296 t.n) t.e (rdN k) (dgN k) (lsI k) (gsI k) (decide (k≤3))=true:=hq;have hheld:dA (rdN k) (dgN k) (lsI k) (gsI k) (decide (k≤3)) (Dg.vl 4294967296 (Dg.dg 4294967296 t.n)) t.e=true:=by
      have h:=hq';unfold um at h;rw[if_pos hon] at h;exact h
     have HE:=fun so sc w1 (_b:yB w w1) (h:Rd w1 .u32 (yT so t.n sc) (Dg.dg 4294967296 t.n))=>xE k hk t.s so sc (Dg.dg 4294967296 t.n) t.e w1 h sm hdc (by rw[Dg.vl_dg 4294967296 t.n (by omega)];exact hn0) hheld
     rw[Dg.vl_dg 4294967296 t.n (by omega)] at HE;rw[hq'] at HH;generalize cF (kU k (plT k t.s t.n t.e).s (heE (rdN k) (lsI k) (gW k) (plT k t.s t.n t.e)) (plT k t.s t.n t.e).d)=st at*
     rcases bO hk with rfl|rfl|rfl|rfl|rfl|rfl|rfl|rfl
     all_goals exact NP _ _ _ _ _ _ _ _ _ 2 p ng ao xs.length ca w t er HN true 0 HH st 0 HE hp1 hp2 (by omega) her rfl rfl
    ·have hqf:um (Dg.dg 4294967296 t.n) t.e (rdN k) (dgN k) (lsI k) (gsI k) (decide (k≤3))=false:=by
      have:enH k t=false:=by simpa using hq
      exact this
     rw[if_neg (fun h=>hq h.2)] at hE
     rw[key 4 hE,hE,if_neg (by omega)];rw[hqf] at HH
     rcases bO hk with rfl|rfl|rfl|rfl|rfl|rfl|rfl|rfl
     all_goals exact NO _ _ _ _ _ _ _ _ _ 2 p ng ao xs.length ca w t er HN false 0 HH hp1 hp2 (by omega) her rfl rfl
   ·rw[if_neg (fun h=>her h.1)] at hE
    rw[key 4 hE,hE,if_neg (by omega)]
    rcases bO hk with rfl|rfl|rfl|rfl|rfl|rfl|rfl|rfl
    all_goals exact Q8 _ _ _ _ _ _ _ _ _ 2 p ng ao xs.length ca w t er HN hp1 hp2 (by omega) her
theorem jj (n c:Int)(ng:Bool)(ao:Option Addr)(ca:Nat)(xs:List Nat)(p:Int)(w:World)(hr:Rd w .u32 (.slice ao xs.length ca) xs)(sa:Dg.Small 4294967296 xs)(hT:Tab w):
  yC 58 #[yi n,yvV c ng (.slice ao xs.length ca) p] w (yR w (.tuple #[.string (fq n c ng xs p),yi (gI n c ng xs p)])):=by
 have HN:yH w 112 #[.slice ao xs.length ca] (yi (chk xs)):=fun w1 b=>(jC _ xs w1 (hr.l b)).mono (fun _ _ h=>⟨h.1,by rw[h.2];exact Below.refl _ _⟩)
 unfold gI fq
 by_cases hf:dK n=0
 ·rw[if_pos (.inl hf),if_pos (.inl hf)]
  exact LX n c p ng ao xs.length ca w (fun w1=>lR n w1 hf)
 ·obtain⟨h1,h2,h3⟩:=fF hf
  obtain⟨k,rfl⟩: ∃k:Nat,n=(k:Int):=⟨n.toNat,h3.symm⟩;rw[Int.toNat_natCast] at h1 h2⊢;have HL:=fun w1=>pU k ⟨h1,h2⟩ w1
  by_cases hc1:c<1
  ·rw[if_pos (.inr (.inl hc1)),if_pos (.inr (.inl hc1))]
   rcases bO ⟨h1,h2⟩ with rfl|rfl|rfl|rfl|rfl|rfl|rfl|rfl
   all_goals exact aaS _ _ _ _ _ _ _ _ _ _ c p ng ao xs.length ca w HL hc1
  ·by_cases hc5:5<c
   ·rw[if_pos (.inr (.inr hc5)),if_pos (.inr (.inr hc5))]
    rcases bO ⟨h1,h2⟩ with rfl|rfl|rfl|rfl|rfl|rfl|rfl|rfl
    all_goals exact Xj _ _ _ _ _ _ _ _ _ _ c p ng ao xs.length ca w HL hc5
   ·have hno: ¬(dK (k:Int)=0∨c<1∨5<c):=by
     rintro(h|h|h)
     ·exact hf h
     ·exact hc1 h
     ·exact hc5 h
    rw[if_neg hno,if_neg hno]
    by_cases hn:chk xs=0
    ·rw[if_neg (show¬chk xs≠0 from fun h=>h hn),if_neg (show¬chk xs≠0 from fun h=>h hn)]
     by_cases hc2:c=2
     ·subst hc2
      rw[if_pos rfl,if_pos rfl];have HO:=fun w1 (b:yB w w1)=>B5 k ⟨h1,h2⟩ ng ao ca xs p w1 (hr.l b) sa hn (hT.l b)
      generalize enS k ng xs p=st at*;generalize enE k ng xs p=er at*
      rcases bO ⟨h1,h2⟩ with rfl|rfl|rfl|rfl|rfl|rfl|rfl|rfl
      all_goals exact QD _ _ _ _ _ _ _ _ _ _ p ng ao xs.length ca w HL _ HN st er HO hn
     ·rw[if_neg hc2,if_neg hc2]
      obtain⟨m,hm⟩: ∃m:Nat,c=(m:Int):=⟨c.toNat,by omega⟩;subst hm;rw[Int.toNat_natCast];have HO:=fun w1=>wE k m ⟨h1,h2⟩ (by omega) ng ao xs.length ca p w1
      generalize Fv k m xs.length ng p=st at*;generalize qX k m xs.length ng p=er at*
      rcases bO ⟨h1,h2⟩ with rfl|rfl|rfl|rfl|rfl|rfl|rfl|rfl
      all_goals exact Ip _ _ _ _ _ _ _ _ _ _ _ p ng ao xs.length ca w HL _ HN st er HO (by omega) (by omega) (by omega) hn
    ·rw[if_pos hn,if_pos hn]
     rcases bO ⟨h1,h2⟩ with rfl|rfl|rfl|rfl|rfl|rfl|rfl|rfl
     all_goals exact EF _ _ _ _ _ _ _ _ _ _ c p ng ao xs.length ca w HL _ HN (by omega) (by omega) hn
def ovV (k:Nat)(wy:Int)(ng:Bool):Int×Bool×Nat×Int:=
 if dK k=3 then(5,false,0,0) else if dK k=1∧aaV wy ng=true then(3,ng,0,0) else(2,ng,rdN k^dgN k-1,gsI k)
theorem Pw (k:Nat)(hk:1≤k∧k≤8)(wy:Int)(hw:1≤wy∧wy≤5)(ng:Bool)(w:World):yC 132 #[dsk k wy,.bool ng] w (iT w (ovV k wy ng).1 (ovV k wy ng).2.1 (ovV k wy ng).2.2.1 (ovV k wy ng).2.2.2):=by
 unfold ovV;have HG:=fun w1=>Ba k hk wy ng w1
 unfold dsk at HG⊢
 rcases qt hk with h|h|h
 ·rw[h] at HG⊢
  rw[if_neg (by decide)]
  by_cases ho:aaV wy ng=true
  ·rw[if_pos ⟨rfl,ho⟩]
   exact abM _ _ _ _ _ _ _ _ w (fun w1=>by have:=CT k wy 1 (rdN k) (dgN k) (lsI k) (gsI k) (decide (k≤3)) ng hw w1;rw[ho] at this;exact this)
  ·rw[if_neg (fun c=>ho c.2)]
   exact abN _ _ _ _ _ _ _ _ _ w (fun w1=>by have:=CT k wy 1 (rdN k) (dgN k) (lsI k) (gsI k) (decide (k≤3)) ng hw w1;rw[show aaV wy ng=false by simpa using ho] at this;exact this) (fun w1 _=>HG w1)
 ·rw[h] at HG⊢
  rw[if_neg (by decide),if_neg (fun c=>absurd c.1 (by decide))]
  exact ado _ _ _ _ _ _ _ _ _ w (fun w1 _=>HG w1)
 ·rw[h,if_pos rfl]
  exact adn _ _ _ _ _ _ _ _ w (fun w1=>A5 3 (.inr (.inr rfl)) w1)
def pG (k:Nat)(wy:Int)(P:fz):Int×Bool×Nat×Int×Int:=
 if P.ov=true then((ovV k wy P.s).1,(ovV k wy P.s).2.1,(ovV k wy P.s).2.2.1,(ovV k wy P.s).2.2.2,5)
 else if P.un=true∧P.p<lsI k then(1,false,0,0,3)
 else((if P.d=0 then 1 else 2),P.s,P.d,P.p,if P.ex=true then 0 else if P.un=true then 3 else 1)
theorem Px (k:Nat)(hk:1≤k∧k≤8)(wy:Int)(hw:1≤wy∧wy≤5)(P:fz)(ao:Option Addr)(ca:Nat)(w:World)(hr:Rd w .u32 (yT ao P.d ca) (Dg.dg 4294967296 P.d)):
  yC 83 #[dsk k wy,ypV P.s (yT ao P.d ca) P.p P.ex P.ov P.un] w (B6 w (pG k wy P).1 (pG k wy P).2.1 (pG k wy P).2.2.1 (pG k wy P).2.2.2.1 (pG k wy P).2.2.2.2):=by
 obtain⟨ps,pd,pp,ex,ov,un⟩:=P;unfold pG;simp only at hr⊢
 cases ov
 ·rw[if_neg (by decide)]
  by_cases hl:un=true∧pp<lsI k
  ·rw[if_pos hl]
   obtain⟨rfl,hl⟩:=hl;exact OU _ _ _ _ _ _ _ _ _ _ _ _ _ _ w hl
  ·rw[if_neg hl]
   have hz:(if pd=0 then(1:Int) else 2)=if(Dg.dg 4294967296 pd).length=0 then 1 else 2:=by
    by_cases h:pd=0
    ·rw[if_pos h,if_pos (by rw[h];rfl)]
    ·rw[if_neg h,if_neg (fun c=>h ((Dg.dg_nil_iff 4294967296 pd (by omega)).1 (List.length_eq_zero_iff.1 c)))]
   exact Id _ _ _ _ _ _ _ _ _ _ _ _ _ _ _ pd w rfl hr (fun h c=>hl ⟨h,c⟩) _ _ hz rfl
 ·rw[if_pos rfl]
  exact Lr _ _ _ _ _ _ _ _ _ _ _ _ _ _ _ _ _ _ _ w (fun w1 _=>Pw k hk wy hw ps w1)
def Dw (k:Nat)(c:Int)(g:Bool)(m:Nat)(p fl:Int):ByteArray×Int×Int:=
 if gI k c g (Dg.dg 4294967296 m) p=0 then(fq k c g (Dg.dg 4294967296 m) p,fl,0) else(⟨#[]⟩,0,gI k c g (Dg.dg 4294967296 m) p)
theorem CZ (k:Nat)(wy c p fl:Int)(g:Bool)(m:Nat)(ao:Option Addr)(ca:Nat)(w:World)(hr:Rd w .u32 (yT ao m ca) (Dg.dg 4294967296 m))(hT:Tab w):
  yC 82 #[dsk k wy,yvV c g (yT ao m ca) p,yi fl] w (mM (Dw k c g m p fl) w):=by
 have:=It k wy (dK k) (rdN k) (dgN k) (lsI k) (gsI k) c p fl _ (decide (k≤3)) g ao (Dg.dg 4294967296 m).length ca _ w (fun w1 b1=>jj k c g ao ca (Dg.dg 4294967296 m) p w1 (hr.l b1) (Dg.small_dg _ _ (by omega)) (hT.l b1))
 refine this.mono (fun z w' h=>⟨?_,h.2⟩)
 rw[h.1];unfold Dw
 by_cases c0:gI k c g (Dg.dg 4294967296 m) p=0
 ·rw[if_pos c0,if_pos c0]
 ·rw[if_neg c0,if_neg c0]
theorem vj (k:Nat)(hk:1≤k∧k≤8)(w:World):yC 92 #[yi k] w (yR w (.tuple #[ygV (rdN k) (dgN k) (lsI k) (gsI k) (decide (k≤3)),yi 0])):=by
 rcases bO hk with rfl|rfl|rfl|rfl|rfl|rfl|rfl|rfl
 ·exact SN w
 ·exact SO w
 ·exact SP w
 ·exact SQ w
 ·exact SR w
 ·exact SS w
 ·exact ST w
 ·exact SU w
theorem zj n (s:ByteArray)(w:World)(hT:Tab w):yC 44 #[yi n,.string s] w (Ys w ((bM n s:Nat):Int) (dz n s) (gJ n s) (iF n s) (opT n s) (dF n s)):=by
 have HD:=fun w1=>fR n s w1
 by_cases hp:dF n s=0
 ·have hf:dK n≠0:=fun hf=>by
   unfold dF at hp;rw[if_pos hf] at hp;omega
  obtain⟨k1,k2,k3⟩:=fF hf;obtain⟨k,rfl⟩: ∃k:Nat,n=(k:Int):=⟨n.toNat,k3.symm⟩;rw[Int.toNat_natCast] at k1 k2;have hk:1≤k∧k≤8:=⟨k1,k2⟩;have hG:dz (k:Int) s=kt k (aZ k s) (aR k s) (aU k s):=by
   unfold dz;rw[if_pos hp,Int.toNat_natCast]
  have hM:gJ (k:Int) s=ge k (aZ k s) (aR k s) (aU k s):=by
   unfold gJ;rw[if_pos hp,Int.toNat_natCast]
  have hP:iF (k:Int) s=gw k (aZ k s) (aR k s) (aU k s):=by
   unfold iF;rw[if_pos hp,Int.toNat_natCast]
  have hO:opT (k:Int) s=nxT k s:=by
   unfold opT;rw[if_pos hp,Int.toNat_natCast]
  rw[hp] at HD⊢;rw[hO];refine abe (k:Int) _ _ _ _ _ _ _ _ _ (nxT k s) s w (fun w1=>vj k hk w1) HD (fun vo vc w1 b r=> ?_)
  have hn:=XP hk s;have hN:=fun w2 (b2:yB w1 w2)=>kB (rdN k) (dgN k) (lsI k) (gsI k) (decide (k≤3)) (dz (k:Int) s) vo vc _ (iF (k:Int) s) false false false w2 (r.l b2) (Dg.small_dg 4294967296 _ (by omega)) (hT.l (aa b b2))
  rw[hG,hM,hP] at hN⊢;rw[hn] at hN;exact IY _ _ _ _ _ _ 0 _ _ vo _ vc (nxT k s) w1 hN
 ·have hC:bM n s=0:=if_neg hp
  have hG:dz n s=false:=if_neg hp;have hM:gJ n s=0:=if_neg hp;have hP:iF n s=0:=if_neg hp;have hO:opT n s=⟨false,0,0⟩:=if_neg hp;rw[hC,hG,hM,hP,hO]
  by_cases hf:dK n=0
  ·have h6:dF n s=6:=by
    unfold dF;rw[if_pos hf]
   rw[h6];exact afp n 6 (by decide) s w (fun w1=>vU n w1 hf)
  ·obtain⟨k1,k2,k3⟩:=fF hf
   obtain⟨k,rfl⟩: ∃k:Nat,n=(k:Int):=⟨n.toNat,k3.symm⟩;rw[Int.toNat_natCast] at k1 k2;exact afq (k:Int) _ hp _ _ _ _ _ _ _ _ _ s w (fun w1=>vj k ⟨k1,k2⟩ w1) HD
theorem mp (k:Nat)(hk:1≤k∧k≤8)(w:World):yC 80 #[yi k] w (yR w (.tuple #[ykV k 0 (dK k) (rdN k) (dgN k) (lsI k) (gsI k) (decide (k≤3)),yi 0])):=
 Yr k _ _ _ _ _ _ w (fun w1=>vj k hk w1) (fun w1=>jk k w1)
def fitT (k:Nat)(way:Int)(qs:Bool)(xs ys:List Nat)(E:Int):ByteArray×Int×Int:=
 if eE xs ys E (rdN k) (dgN k) (lsI k) (gsI k) way=0 then Dw k (pG k way (df xs ys E (rdN k) (dgN k) (lsI k) (gsI k) (decide (k≤3)) qs way)).1 (pG k way (df xs ys E (rdN k) (dgN k) (lsI k) (gsI k) (decide (k≤3)) qs way)).2.1 (pG k way (df xs ys E (rdN k) (dgN k) (lsI k) (gsI k) (decide (k≤3)) qs way)).2.2.1 (pG k way (df xs ys E (rdN k) (dgN k) (lsI k) (gsI k) (decide (k≤3)) qs way)).2.2.2.1 (pG k way (df xs ys E (rdN k) (dgN k) (lsI k) (gsI k) (decide (k≤3)) qs way)).2.2.2.2
 else(⟨#[]⟩,0,eE xs ys E (rdN k) (dgN k) (lsI k) (gsI k) way)
theorem fit_any (k:Nat)(hk:1≤k∧k≤8)(way:Int)(qs:Bool)(ao:Option Addr)(ca:Nat)(xs:List Nat)(bo:Option Addr)(cb:Nat)(ys:List Nat)(E:Int)(w:World)(ha:Rd w .u32 (.slice ao xs.length ca) xs)(hb:Rd w .u32 (.slice bo ys.length cb) ys)(sa:Dg.Small 4294967296 xs)(sb:Dg.Small 4294967296 ys)(hT:Tab w):
  yC 39 #[yi k,yrV qs (.slice ao xs.length ca) (.slice bo ys.length cb) E,yi way] w (mM (fitT k way qs xs ys E) w):=by
 unfold fitT;have HR:=fun w1 (b:yB w w1)=>jM qs ao ca xs bo cb ys E (rdN k) (dgN k) (lsI k) (gsI k) (decide (k≤3)) way w1 (ha.l b) (hb.l b) sa sb
 have hway:eE xs ys E (rdN k) (dgN k) (lsI k) (gsI k) way=0→1≤way∧way≤5:=fun h=>way_is.1 (Nb h).2.2
 generalize hP:df xs ys E (rdN k) (dgN k) (lsI k) (gsI k) (decide (k≤3)) qs way=P at*;generalize hC:eE xs ys E (rdN k) (dgN k) (lsI k) (gsI k) way=rc at*;exact afx k way (dK k) (rdN k) (dgN k) (lsI k) (gsI k) rc (decide (k≤3)) qs ao xs.length ca bo ys.length cb E P.s P.d P.p P.ex P.ov P.un (pG k way P).1 (pG k way P).2.1 (pG k way P).2.2.1 (pG k way P).2.2.2.1 (pG k way P).2.2.2.2 (Dw k (pG k way P).1 (pG k way P).2.1 (pG k way P).2.2.1 (pG k way P).2.2.2.1 (pG k way P).2.2.2.2).1 (Dw k (pG k way P).1 (pG k way P).2.1 (pG k way P).2.2.1 (pG k way P).2.2.2.1 (pG k way P).2.2.2.2).2.1 (Dw k (pG k way P).1 (pG k way P).2.1 (pG k way P).2.2.1 (pG k way P).2.2.2.1 (pG k way P).2.2.2.2).2.2 _ w (fun h=>by rw[if_neg h]) (fun h=>by rw[if_pos h]) (fun w1=>mp k hk w1) (fun w1 b=>(HR w1 b).mono (fun z w' h=>by
   obtain⟨v,h1,h2,h3⟩:=h;obtain⟨po,pc,e⟩:=h2.rd.shape;subst e;exact⟨po,pc,h1,h2.rd,h3⟩)) (fun h po pc w1 _ r=>Px k hk way (hway h) P po pc w1 r) (fun _ vo vc w1 b r=>CZ k way _ _ _ _ _ vo vc w1 r (hT.l b))
theorem tRatio_any (t:ByteArray)(w:World)(hT:TxW w):
  (raE t=0→yC 9 #[.string t] w (RtE w (raV t).1 (raV t).2.1 (raV t).2.2.1 (raV t).2.2.2 0))∧
  (raE t≠0→yC 9 #[.string t] w (yR w (.tuple #[yrV false yN yN 0,yi (raE t)]))):=by
 have HN:=fun w1 (b:yB w w1)=>read_any t w1 (hT.l b)
 refine⟨fun h=> ?_,fun h=> ?_⟩
 ·obtain⟨h1,h2,h3,h4⟩:=nmV_zero h
  have HN2:yH w 30 #[.string t] (.tuple #[.agg #[.bool (nmV t).1.1,.string (nmV t).1.2.1,yi (nmV t).1.2.2],yi 0]):=fun w1 b=>by
   have:=HN w1 b;unfold NmE at this;rw[show(nmV t).2=0 from h] at this
   exact this
  exact tRatio_ok _ _ _ _ _ _ _ t w HN2 (fun w1 b=>ratio_any _ _ _ w1 h1 ((digB_iff _).1 h2).2 h3 h4 (hT.l b).1)
 ·exact tRatio_err (raE t) _ _ _ t w h HN
def psV (n:Int)(t:ByteArray)(way:Int):ByteArray×Int×Int:=
 if dK n=0 then(⟨#[]⟩,0,6) else if raE t≠0 then(⟨#[]⟩,0,raE t) else fitT n.toNat way (raV t).1 (Dg.dg 4294967296 (raV t).2.1) (Dg.dg 4294967296 (raV t).2.2.1) (raV t).2.2.2
theorem tParse_any (n:Int)(t:ByteArray)(way:Int)(w:World)(hT:TxW w):yC 13 #[yi n,.string t,yi way] w (mM (psV n t way) w):=by
 unfold psV
 by_cases fn:dK n=0
 ·rw[if_pos fn]
  exact tparse_none n way t w (fun w1=>by
   have:=fam_any n w1;rw[fn] at this;exact this)
 rw[if_neg fn];have hf0:(dK n==0)=false:=by simpa using fn
 have HF:=fun w1=>fam_any n w1
 by_cases he:raE t=0
 rotate_left
 ·rw[if_pos he]
  exact tparse_err _ n way _ t w hf0 he HF (fun w1 b=>(tRatio_any t w1 (hT.l b)).2 he)
 rw[if_neg (fun c=>c he)]
 obtain⟨k1,k2,k3⟩:=fF fn;obtain⟨k,rfl⟩: ∃i:Nat,n=(i:Int):=⟨n.toNat,k3.symm⟩;rw[Int.toNat_natCast] at k1 k2⊢;exact tparse_ok _ (k:Int) way _ _ _ _ _ _ t _ w hf0 HF (fun w1 b=>(tRatio_any t w1 (hT.l b)).1 he) (fun ao ac bo bc w1 b ha hb=>fit_any k ⟨k1,k2⟩ way _ ao ac _ bo bc _ _ w1 ha hb (Dg.small_dg _ _ (by omega)) (Dg.small_dg _ _ (by omega)) (hT.l b).1)
def mkB (n:Int)(t md:ByteArray):Bool:=decide ((psV n t 1).2.2=0)&&((psV n t 1).1.toList==md.toList)
theorem makes_any (n:Int)(t md:ByteArray)(w:World)(hT:TxW w):yC 59 #[.string t,yi n,.string md] w (yR w (.bool (mkB n t md))):=by
 have HP:=fun w1 (b:yB w w1)=>tParse_any n t 1 w1 (hT.l b)
 unfold mM at HP;unfold mkB
 by_cases he:(psV n t 1).2.2=0
 rotate_left
 ·rw[decide_eq_false he,Bool.false_and]
  exact tmakes_err n _ _ t _ md w (by simpa using he) HP
 rw[decide_eq_true he,Bool.true_and];rw[he] at HP
 cases hb:(psV n t 1).1.toList==md.toList
 ·exact tmakes_no n _ t _ md w hb HP
 ·exact tmakes_yes n _ t _ md w hb HP
theorem tPrint_any n (s:ByteArray)(k:Int)(w:World)(hT:TxW w):yC 19 #[yi n,.string s,yi k] w (yR w (.tuple #[.string (ptV n s k).1,yi (ptV n s k).2])):=by
 have HR:=fun w1 (b:yB w w1)=>zj n s w1 (hT.l b).1
 unfold ptV
 by_cases hp:dF n s=0
 rotate_left
 ·rw[if_pos hp]
  exact tPrint_err _ n k _ _ _ _ _ s w hp HR
 rw[if_neg (fun c=>c hp)]
 rw[hp] at HR
 by_cases h1:k<1
 ·rw[if_pos (.inl h1)]
  exact tPrint_low n k _ _ _ _ _ s w h1 HR
 by_cases h2:60<k
 ·rw[if_pos (.inr h2)]
  exact tPrint_high n k _ _ _ _ _ s w h1 h2 HR
 rw[if_neg (fun c=>c.elim h1 h2)]
 have HW:=fun vo vc w1=>wordOf_any ((bM n s:Nat):Int) (iF n s) (dz n s) vo (Dg.dg 4294967296 (gJ n s)).length vc w1
 cases hw:(wdV ((bM n s:Nat):Int)).2.2
 ·rw[if_neg (by decide)]
  rw[hw] at HW;obtain⟨x1,x2,x3,x4⟩:=num_of hp hw;obtain⟨a1,a2,a3,a4,a5⟩:=dc_all x1 x2 x3 x4;obtain⟨j,rfl⟩: ∃j:Nat,k=(j:Int):=⟨k.toNat,by omega⟩;rw[Int.toNat_natCast];exact tPrint_num _ (ptS n s j) _ _ _ _ n (j:Int) _ _ _ _ _ s w h1 h2 HR HW (fun xo xc w1 _ h=>decimalOf_any _ xo xc w1 h x1 x2 x3 x4) (fun ho hc w1 b h=>tprint_any _ _ _ j _ ho hc w1 h (hT.l b) a1 a2 (by omega) (by omega) (by omega) a4 a5)
 ·rw[if_pos rfl]
  rw[hw] at HW;exact tPrint_word _ n k _ _ _ _ _ s w h1 h2 HR HW
def shM (n:Int)(s:ByteArray):ByteArray:=fq n ((bM n s:Nat):Int) (dz n s) (Dg.dg 4294967296 (gJ n s)) (iF n s)
def shK (n:Int)(s:ByteArray):Nat:=shF (fun k=>mkB n (ptS n s k) (shM n s)) 59 1
def shV (n:Int)(s:ByteArray):ByteArray×Int:=
 if dF n s≠0 then(⟨#[]⟩,dF n s) else
  if(wdV ((bM n s:Nat):Int)).2.2=true then(wdS ((bM n s:Nat):Int) (dz n s),0) else
   if shE n s≠0 then(⟨#[]⟩,shE n s) else(ptS n s (shK n s),0)
theorem tShortest_any n (s:ByteArray)(w:World)(hT:TxW w):yC 23 #[yi n,.string s] w (yR w (.tuple #[.string (shV n s).1,yi (shV n s).2])):=by
 have HR:=fun w1 (b:yB w w1)=>zj n s w1 (hT.l b).1
 unfold shV
 by_cases hp:dF n s=0
 rotate_left
 ·rw[if_pos hp]
  exact tShort_err _ n _ _ _ _ _ s w hp HR
 rw[if_neg (fun c=>c hp)]
 rw[hp] at HR;have HW:=fun vo vc w1=>wordOf_any ((bM n s:Nat):Int) (iF n s) (dz n s) vo (Dg.dg 4294967296 (gJ n s)).length vc w1
 cases hw:(wdV ((bM n s:Nat):Int)).2.2
 rotate_left
 ·rw[if_pos rfl]
  rw[hw] at HW;exact tShort_word _ n _ _ _ _ _ s w HR HW
 rw[if_neg (by decide)];rw[hw] at HW;have HE: ∀vo vc w1,yB w w1→Rd w1 .u32 (.slice vo (Dg.dg 4294967296 (gJ n s)).length vc) (Dg.dg 4294967296 (gJ n s))→yC 58 #[yi n,yvV ((bM n s:Nat):Int) (dz n s) (.slice vo (Dg.dg 4294967296 (gJ n s)).length vc) (iF n s)] w1 (yR w1 (.tuple #[.string (shM n s),yi (shE n s)])):=fun vo vc w1 b h=>jj n _ _ vo vc _ _ w1 h (Dg.small_dg _ _ (by omega)) (hT.l b).1
 by_cases he:shE n s=0
 rotate_left
 ·rw[if_pos he]
  exact tShort_enc _ _ _ n _ _ _ _ _ s w he HR HW HE
 rw[if_neg (fun c=>c he)]
 rw[he] at HE;obtain⟨x1,x2,x3,x4⟩:=num_of hp hw;obtain⟨a1,a2,a3,a4,a5⟩:=dc_all x1 x2 x3 x4;exact tShort_num _ (shM n s) _ _ _ _ (fun k=>ptS n s k) (fun k=>mkB n (ptS n s k) (shM n s)) n _ _ _ _ _ s w HR HW HE (fun xo xc w1 _ h=>decimalOf_any _ xo xc w1 h x1 x2 x3 x4) (fun k k1 k2 ho hc w1 b h=>tprint_any _ _ _ k _ ho hc w1 h (hT.l b) a1 a2 k1 k2 (by omega) a4 a5) (fun k w1 b=>makes_any n _ _ w1 (hT.l b))
theorem begun_ps:psV 2 ⟨#[48,46,49]⟩ 1=(tenS,1,0):=by kernel_rfl
theorem begun_sh:shV 2 tenS=(⟨#[49,101,45,49]⟩,0):=by kernel_rfl
theorem textBegun_any (w:World)(hT:TxW w):yC 11 #[] w (yR w (.bool true)):=by
 refine textBegun_W tenS w (fun w1 b=> ?_) (fun w1 b=> ?_)
 ·have:=tParse_any 2 ⟨#[48,46,49]⟩ 1 w1 (hT.l b)
  rw[begun_ps] at this;exact this
 ·have:=tShortest_any 2 tenS w1 (hT.l b)
  rw[begun_sh] at this;exact this
end Go.Proofs.YtpgijbdgljkeeaaGreatDoor
