/-
  Texts laid together: Co25, Ce12, Eb4, Pa1, Rb3, Cv4, Tx6, Tx11, Tx15, Tx17, Ps2, Laws6, Eh5, Bd2, Cb2, Ty15, Cv7, Cv10.
-/
import Derived.Test.YtlgkfdcmokchgaaGreatDoorUt38
namespace Go.Proofs.YtlgkfdcmokchgaaGreatDoor
open Go.RowKit
theorem Jb n (s:ByteArray)(w:World):yC 51 #[yi n,.string s] w (yR w (.tuple #[yi ((bM n s:Nat):Int),.bool (Gi n s),yi (dF n s)])):=by
 unfold bM Gi
 by_cases h:dF n s=0
 ·rw[if_pos h,if_pos h]
  have hf:dK n≠0:=fun hf=>by
   unfold dF at h;rw[if_pos hf] at h;omega
  obtain⟨h1,h2,h3⟩:=fF hf;have HR:=fun w1=>uM n s w1 h
  have HC:=fun w1=>Gf n.toNat ⟨h1,h2⟩ (aZ n.toNat s) (aR n.toNat s) (aU n.toNat s) w1 (vW ⟨h1,h2⟩ s)
  rw[h];generalize n.toNat=k at*;generalize dh k (aZ k s) (aR k s) (aU k s)=c at*;generalize aZ k s=ng at*;generalize aR k s=e at*;generalize aU k s=f at*
  rcases bO ⟨h1,h2⟩ with rfl|rfl|rfl|rfl|rfl|rfl|rfl|rfl
  all_goals exact abR _ _ _ _ _ _ _ _ _ _ ng e f _ s w HR HC
 ·rw[if_neg h,if_neg h]
  exact Vk n _ h s w (fun w1=>tA n s w1 h)
theorem jj (n c:Int)(ng:Bool)(ao:Option Addr)(ca:Nat)(xs:List Nat)(p:Int)(w:World)(hr:Rd w .u32 (.slice ao xs.length ca) xs)(sa:Dg.Small 4294967296 xs)(hT:Tab w):
  yC 47 #[yi n,yvV c ng (.slice ao xs.length ca) p] w (yR w (.tuple #[.string (fq n c ng xs p),yi (gI n c ng xs p)])):=by
 have HN:yH w 69 #[.slice ao xs.length ca] (yi (chk xs)):=fun w1 b=>(jC _ xs w1 (hr.l b)).mono (fun _ _ h=>⟨h.1,by rw[h.2];exact Below.refl _ _⟩)
 unfold gI fq
 by_cases hf:dK n=0
 ·rw[if_pos (.inl hf),if_pos (.inl hf)]
  exact LX n c p ng ao xs.length ca w (fun w1=>lR n w1 hf)
 ·obtain⟨h1,h2,h3⟩:=fF hf
  obtain⟨k,rfl⟩: ∃k:Nat,n=(k:Int):=⟨n.toNat,h3.symm⟩;rw[Int.toNat_natCast] at h1 h2⊢;have HL:=fun w1=>pU k ⟨h1,h2⟩ w1
  by_cases hc1:c<1
  ·rw[if_pos (.inr (.inl hc1)),if_pos (.inr (.inl hc1))]
   rcases bO ⟨h1,h2⟩ with rfl|rfl|rfl|rfl|rfl|rfl|rfl|rfl
   all_goals exact aaS _ _ _ _ _ _ _ _ _ _ c p ng ao xs.length ca w HL hc1
  ·by_cases hc5:5<c
   ·rw[if_pos (.inr (.inr hc5)),if_pos (.inr (.inr hc5))]
    rcases bO ⟨h1,h2⟩ with rfl|rfl|rfl|rfl|rfl|rfl|rfl|rfl
    all_goals exact Xj _ _ _ _ _ _ _ _ _ _ c p ng ao xs.length ca w HL hc5
   ·have hno: ¬(dK (k:Int)=0∨c<1∨5<c):=by
     rintro(h|h|h)
     ·exact hf h
     ·exact hc1 h
     ·exact hc5 h
    rw[if_neg hno,if_neg hno]
    by_cases hn:chk xs=0
    ·rw[if_neg (show¬chk xs≠0 from fun h=>h hn),if_neg (show¬chk xs≠0 from fun h=>h hn)]
     by_cases hc2:c=2
     ·subst hc2
      rw[if_pos rfl,if_pos rfl];have HO:=fun w1 (b:yB w w1)=>B5 k ⟨h1,h2⟩ ng ao ca xs p w1 (hr.l b) sa hn (hT.l b)
      generalize enS k ng xs p=st at*;generalize enE k ng xs p=er at*
      rcases bO ⟨h1,h2⟩ with rfl|rfl|rfl|rfl|rfl|rfl|rfl|rfl
      all_goals exact QD _ _ _ _ _ _ _ _ _ _ p ng ao xs.length ca w HL _ HN st er HO hn
     ·rw[if_neg hc2,if_neg hc2]
      obtain⟨m,hm⟩: ∃m:Nat,c=(m:Int):=⟨c.toNat,by omega⟩;subst hm;rw[Int.toNat_natCast];have HO:=fun w1=>wE k m ⟨h1,h2⟩ (by omega) ng ao xs.length ca p w1
      generalize Fv k m xs.length ng p=st at*;generalize qX k m xs.length ng p=er at*
      rcases bO ⟨h1,h2⟩ with rfl|rfl|rfl|rfl|rfl|rfl|rfl|rfl
      all_goals exact Ip _ _ _ _ _ _ _ _ _ _ _ p ng ao xs.length ca w HL _ HN st er HO (by omega) (by omega) (by omega) hn
    ·rw[if_pos hn,if_pos hn]
     rcases bO ⟨h1,h2⟩ with rfl|rfl|rfl|rfl|rfl|rfl|rfl|rfl
     all_goals exact EF _ _ _ _ _ _ _ _ _ _ c p ng ao xs.length ca w HL _ HN (by omega) (by omega) hn
theorem Ut {k:Nat}(hk:1≤k∧k≤8){s t:ByteArray}
  (h:gI k ((dh k (aZ k s) (aR k s) (aU k s):Nat):Int) (kt k (aZ k s) (aR k s) (aU k s)) (Dg.dg 4294967296 (ge k (aZ k s) (aR k s) (aU k s))) (gw k (aZ k s) (aR k s) (aU k s))=0)
  (ht:fq k ((dh k (aZ k s) (aR k s) (aU k s):Nat):Int) (kt k (aZ k s) (aR k s) (aU k s)) (Dg.dg 4294967296 (ge k (aZ k s) (aR k s) (aU k s))) (gw k (aZ k s) (aR k s) (aU k s))=t):
  t.size=szN k∧dh k (aZ k t) (aR k t) (aU k t)=dh k (aZ k s) (aR k s) (aU k s)∧kt k (aZ k t) (aR k t) (aU k t)=kt k (aZ k s) (aR k s) (aU k s)∧ge k (aZ k t) (aR k t) (aU k t)=ge k (aZ k s) (aR k s) (aU k s)∧gw k (aZ k t) (aR k t) (aU k t)=gw k (aZ k s) (aR k s) (aU k s):=by
 obtain⟨e1,e2,e3,e4,e5,e6,e7⟩:=oJ hk (Dg.small_dg 4294967296 _ (by omega)) h;rw[ht] at e1 e2 e3 e4 e5 e6;obtain⟨s1,s2⟩:=Cu k s;have hcc:dh k (aZ k t) (aR k t) (aU k t)=dh k (aZ k s) (aR k s) (aU k s):=by omega
 refine⟨e1,hcc,e3, ?_⟩
 by_cases hc:dh k (aZ k s) (aR k s) (aU k s)=2
 ·obtain⟨-,hn,h0,hb⟩:=e6 (by rw[hc];rfl)
  have hg:kt k (aZ k s) (aR k s) (aU k s)=aZ k s:=by
   unfold kt;rw[if_pos (by omega)]
  rw[hg] at hn hb;rw[Dg.vl_dg 4294967296 _ (by omega)] at hb;have hbv:=rT hk s1 s2 (mZ hk s2) hc (Nat.ne_of_gt (jX hc));rw[hbv] at hb;rw[hn] at hcc⊢;exact AF hk e4 e5 (mZ hk e5) (by omega) s1 s2 (mZ hk s2) hc hb
 ·unfold ge gw
  rw[if_neg (by omega),if_neg hc,if_neg (by omega),if_neg hc];exact⟨rfl,rfl⟩
theorem Pw (k:Nat)(hk:1≤k∧k≤8)(wy:Int)(hw:1≤wy∧wy≤5)(ng:Bool)(w:World):yC 100 #[dsk k wy,.bool ng] w (iT w (ovV k wy ng).1 (ovV k wy ng).2.1 (ovV k wy ng).2.2.1 (ovV k wy ng).2.2.2):=by
 unfold ovV;have HG:=fun w1=>Ba k hk wy ng w1
 unfold dsk at HG⊢
 rcases qt hk with h|h|h
 ·rw[h] at HG⊢
  rw[if_neg (by decide)]
  by_cases ho:aaV wy ng=true
  ·rw[if_pos ⟨rfl,ho⟩]
   exact abM _ _ _ _ _ _ _ _ w (fun w1=>by have:=CT k wy 1 (rdN k) (dgN k) (lsI k) (gsI k) (decide (k≤3)) ng hw w1;rw[ho] at this;exact this)
  ·rw[if_neg (fun c=>ho c.2)]
   exact abN _ _ _ _ _ _ _ _ _ w (fun w1=>by have:=CT k wy 1 (rdN k) (dgN k) (lsI k) (gsI k) (decide (k≤3)) ng hw w1;rw[show aaV wy ng=false by simpa using ho] at this;exact this) (fun w1 _=>HG w1)
 ·rw[h] at HG⊢
  rw[if_neg (by decide),if_neg (fun c=>absurd c.1 (by decide))]
  exact ado _ _ _ _ _ _ _ _ _ w (fun w1 _=>HG w1)
 ·rw[h,if_pos rfl]
  exact adn _ _ _ _ _ _ _ _ w (fun w1=>A5 3 (.inr (.inr rfl)) w1)
theorem Px (k:Nat)(hk:1≤k∧k≤8)(wy:Int)(hw:1≤wy∧wy≤5)(P:fz)(ao:Option Addr)(ca:Nat)(w:World)(hr:Rd w .u32 (yT ao P.d ca) (Dg.dg 4294967296 P.d)):
  yC 60 #[dsk k wy,ypV P.s (yT ao P.d ca) P.p P.ex P.ov P.un] w (B6 w (pG k wy P).1 (pG k wy P).2.1 (pG k wy P).2.2.1 (pG k wy P).2.2.2.1 (pG k wy P).2.2.2.2):=by
 obtain⟨ps,pd,pp,ex,ov,un⟩:=P;unfold pG;simp only at hr⊢
 cases ov
 ·rw[if_neg (by decide)]
  by_cases hl:un=true∧pp<lsI k
  ·rw[if_pos hl]
   obtain⟨rfl,hl⟩:=hl;exact OU _ _ _ _ _ _ _ _ _ _ _ _ _ _ w hl
  ·rw[if_neg hl]
   have hz:(if pd=0 then(1:Int) else 2)=if(Dg.dg 4294967296 pd).length=0 then 1 else 2:=by
    by_cases h:pd=0
    ·rw[if_pos h,if_pos (by rw[h];rfl)]
    ·rw[if_neg h,if_neg (fun c=>h ((Dg.dg_nil_iff 4294967296 pd (by omega)).1 (List.length_eq_zero_iff.1 c)))]
   exact Id _ _ _ _ _ _ _ _ _ _ _ _ _ _ _ pd w rfl hr (fun h c=>hl ⟨h,c⟩) _ _ hz rfl
 ·rw[if_pos rfl]
  exact Lr _ _ _ _ _ _ _ _ _ _ _ _ _ _ _ _ _ _ _ w (fun w1 _=>Pw k hk wy hw ps w1)
theorem CZ (k:Nat)(wy c p fl:Int)(g:Bool)(m:Nat)(ao:Option Addr)(ca:Nat)(w:World)(hr:Rd w .u32 (yT ao m ca) (Dg.dg 4294967296 m))(hT:Tab w):
  yC 59 #[dsk k wy,yvV c g (yT ao m ca) p,yi fl] w (mM (Dw k c g m p fl) w):=by
 have:=It k wy (dK k) (rdN k) (dgN k) (lsI k) (gsI k) c p fl _ (decide (k≤3)) g ao (Dg.dg 4294967296 m).length ca _ w (fun w1 b1=>jj k c g ao ca (Dg.dg 4294967296 m) p w1 (hr.l b1) (Dg.small_dg _ _ (by omega)) (hT.l b1))
 refine this.mono (fun z w' h=>⟨?_,h.2⟩)
 rw[h.1];unfold Dw
 by_cases c0:gI k c g (Dg.dg 4294967296 m) p=0
 ·rw[if_pos c0,if_pos c0]
 ·rw[if_neg c0,if_neg c0]
theorem fit_any (k:Nat)(hk:1≤k∧k≤8)(way:Int)(qs:Bool)(ao:Option Addr)(ca:Nat)(xs:List Nat)(bo:Option Addr)(cb:Nat)(ys:List Nat)(E:Int)(w:World)(ha:Rd w .u32 (.slice ao xs.length ca) xs)(hb:Rd w .u32 (.slice bo ys.length cb) ys)(sa:Dg.Small 4294967296 xs)(sb:Dg.Small 4294967296 ys)(hT:Tab w):
  yC 23 #[yi k,yrV qs (.slice ao xs.length ca) (.slice bo ys.length cb) E,yi way] w (mM (fitT k way qs xs ys E) w):=by
 unfold fitT;have HR:=fun w1 (b:yB w w1)=>jM qs ao ca xs bo cb ys E (rdN k) (dgN k) (lsI k) (gsI k) (decide (k≤3)) way w1 (ha.l b) (hb.l b) sa sb
 have hway:eE xs ys E (rdN k) (dgN k) (lsI k) (gsI k) way=0→1≤way∧way≤5:=fun h=>way_is.1 (Nb h).2.2
 generalize hP:df xs ys E (rdN k) (dgN k) (lsI k) (gsI k) (decide (k≤3)) qs way=P at*;generalize hC:eE xs ys E (rdN k) (dgN k) (lsI k) (gsI k) way=rc at*;exact afx k way (dK k) (rdN k) (dgN k) (lsI k) (gsI k) rc (decide (k≤3)) qs ao xs.length ca bo ys.length cb E P.s P.d P.p P.ex P.ov P.un (pG k way P).1 (pG k way P).2.1 (pG k way P).2.2.1 (pG k way P).2.2.2.1 (pG k way P).2.2.2.2 (Dw k (pG k way P).1 (pG k way P).2.1 (pG k way P).2.2.1 (pG k way P).2.2.2.1 (pG k way P).2.2.2.2).1 (Dw k (pG k way P).1 (pG k way P).2.1 (pG k way P).2.2.1 (pG k way P).2.2.2.1 (pG k way P).2.2.2.2).2.1 (Dw k (pG k way P).1 (pG k way P).2.1 (pG k way P).2.2.1 (pG k way P).2.2.2.1 (pG k way P).2.2.2.2).2.2 _ w (fun h=>by rw[if_neg h]) (fun h=>by rw[if_pos h]) (fun w1=>mp k hk w1) (fun w1 b=>(HR w1 b).mono (fun z w' h=>by
   obtain⟨v,h1,h2,h3⟩:=h;obtain⟨po,pc,e⟩:=h2.rd.shape;subst e;exact⟨po,pc,h1,h2.rd,h3⟩)) (fun h po pc w1 _ r=>Px k hk way (hway h) P po pc w1 r) (fun _ vo vc w1 b r=>CZ k way _ _ _ _ _ vo vc w1 r (hT.l b))
theorem convread_any n (s:ByteArray)(way:Int)(w:World)(hT:Tab w):
  (dF n s≠0→yC 38 #[yi n,.string s,yi way] w (CRes w 0 false 0 0 ⟨false,0,0⟩ (dF n s)))∧
  (dF n s=0→ ¬(1≤way∧way≤5)→yC 38 #[yi n,.string s,yi way] w (CRes w 0 false 0 0 ⟨false,0,0⟩ 6))∧
  (dF n s=0→1≤way∧way≤5→yC 38 #[yi n,.string s,yi way] w (CRes w ((bM n s:Nat):Int) (dz n s) (gJ n s) (iF n s) (opT n s) 0)):=by
 have HR:=fun w1 (b:yB w w1)=>zj n s w1 (hT.l b)
 refine⟨fun h=>cread_err n way _ _ _ _ _ _ s w h HR,fun h hw=> ?_,fun h hw=> ?_⟩
 ·rw[h] at HR
  by_cases h1:way<1
  ·exact cread_low n way _ _ _ _ _ s w h1 HR
  ·exact cread_high n way _ _ _ _ _ s w h1 (by omega) HR
 ·rw[h] at HR
  exact cread_ok n way _ _ _ _ _ s w (by omega) (by omega) HR
theorem moved_any (c:Int)(g:Bool)(fm:Int)(hf:fm=1∨fm=2∨fm=3)(vo:Option Addr)(vc:Nat)(w:World)(rv:Rd w .u32 (yT vo 0 vc) (Dg.dg 4294967296 0)):
  yC 52 #[yvV c g (yT vo 0 vc) 0,yi fm] w (B6 w (mvV c g fm).1 (mvV c g fm).2.1 0 0 (mvV c g fm).2.2):=by
 unfold mvV
 by_cases h1:c=1
 ·subst h1
  rw[if_pos rfl]
  cases g
  ·exact moved_zf fm 0 0 vo vc w
  ·exact moved_zt fm 0 0 vo vc w
 rw[if_neg h1]
 by_cases h5:c=5
 ·subst h5
  rw[if_neg (fun c=>c.1 rfl)]
  exact moved_5 _ fm 0 g 0 vo vc w (fun w1=>A5 fm hf w1)
 by_cases hm:fm=1
 ·subst hm
  rw[if_pos ⟨h5,rfl⟩];exact moved_same c 0 g 0 vo vc w (by simpa using h1) h5 rv
 ·rw[if_neg (fun c=>hm c.2)]
  exact moved_no _ c fm 0 g 0 vo vc w (by simpa using h1) h5 (by simpa using hm) (fun w1=>A5 fm hf w1)
theorem convert_any n (s:ByteArray)(k:Nat)(hk:1≤k∧k≤8)(way:Int)(w:World)(hT:Tab w)(hp:dF n s=0)(hw:1≤way∧way≤5):
  yC 19 #[yi n,.string s,yi k,yi way] w (mM (cvT k way ((bM n s:Nat):Int) (dz n s) (opT n s)) w):=by
 have hf:(dK k==0)=false:=by
  rcases qt hk with h|h|h<;>rw[h]<;>rfl
 have HF:=fun w1=>fam_any k w1
 have HQ:=fun w1 (b:yB w w1)=>(convread_any n s way w1 (hT.l b)).2.2 hp hw
 unfold cvT
 by_cases h2:((bM n s:Nat):Int)=2
 ·rw[if_pos h2]
  rw[h2] at HQ;exact convert_num _ _ _ _ _ _ _ (opT n s) n k way s w hf HF HQ (fun xo xc w1=>wratio_any (opT n s) xo xc w1) (fun xo xc eo ec w1 b rx re=>fit_any k hk way (opT n s).s xo xc (Dg.dg 4294967296 (opT n s).n) eo ec [1] (opT n s).e w1 rx re (Dg.small_dg _ _ (by omega)) small_one (hT.l b))
 ·rw[if_neg h2]
  have hM:gJ n s=0∧iF n s=0:=by
   have hc:dh n.toNat (aZ n.toNat s) (aR n.toNat s) (aU n.toNat s)≠2:=fun c=>h2 (by
    unfold bM;rw[if_pos hp,c];rfl)
   unfold gJ iF ge gw;rw[if_pos hp,if_pos hp,if_neg hc,if_neg hc];exact⟨rfl,rfl⟩
  rw[hM.1,hM.2] at HQ;have HE:=fun ao ac w1 (b:yB w w1) (r:Rd w1 .u32 (yT ao 0 ac) (Dg.dg 4294967296 0))=>jj k (mvV ((bM n s:Nat):Int) (dz n s) (dK k)).1 (mvV ((bM n s:Nat):Int) (dz n s) (dK k)).2.1 ao ac (Dg.dg 4294967296 0) 0 w1 r (Dg.small_dg _ _ (by omega)) (hT.l b)
  have HM:=fun vo vc w1 (_:yB w w1) (r:Rd w1 .u32 (yT vo 0 vc) (Dg.dg 4294967296 0))=>moved_any ((bM n s:Nat):Int) (dz n s) (dK k) (qt hk) vo vc w1 r
  unfold Dw;generalize mvV ((bM n s:Nat):Int) (dz n s) (dK k)=v at*
  by_cases he:gI k v.1 v.2.1 (Dg.dg 4294967296 0) 0=0
  ·rw[if_pos he]
   rw[he] at HE;exact convert_oth _ _ _ _ _ _ _ 0 _ _ 0 (opT n s) n k way s w hf (by simpa using h2) HF HQ HM HE
  ·rw[if_neg he]
   exact convert_bad _ _ _ _ _ _ _ _ 0 _ _ 0 (opT n s) n k way s w hf (by simpa using h2) he HF HQ HM HE
def pat3:ByteArray:=(fitT 4 1 false (Dg.dg 4294967296 3) [1] 0).1
theorem pat3_fit:fitT 4 1 false (Dg.dg 4294967296 3) [1] 0=(pat3,0,0):=by
 have h1:(fitT 4 1 false (Dg.dg 4294967296 3) [1] 0).2.1=0:=by kernel_rfl
 have h2:(fitT 4 1 false (Dg.dg 4294967296 3) [1] 0).2.2=0:=by kernel_rfl
 unfold pat3;generalize fitT 4 1 false (Dg.dg 4294967296 3) [1] 0=r at*;obtain⟨a,b,c⟩:=r;simp only at h1 h2;rw[h1,h2]
theorem pat3_dec:dF 4 pat3=0∧bM 4 pat3=2∧opT 4 pat3=⟨false,3,0⟩:=by
 refine⟨?_, ?_, ?_⟩<;>kernel_rfl
theorem convBegun_any (w:World)(hT:Tab w):yC 5 #[] w (yR w (.bool true)):=by
 obtain⟨p1,p2,p3⟩:=pat3_dec;obtain⟨r1,r2⟩:=three_round;refine convBegun_W pat3 w (fun w1 b1=> ?_) (fun w1 b1=> ?_)
 ·refine fromInt_pos 3 4 1 0 0 3 pat3 w1 (by decide) (by decide) (fun w2 b2=>(KH 3 (by omega) w2).mono (fun z w' h=>by
   obtain⟨v,e,o,b⟩:=h;exact⟨v,e,o.rd,b⟩)) (fun ao ac q w2 b2 r l=> ?_)
  have:=fit_any 4 (by omega) 1 false ao ac (Dg.dg 4294967296 3) (some ⟨q,0,none⟩) 1 [1] 0 w2 r (aa0 (r:=1) (l.c 0 rfl)) (Dg.small_dg _ _ (by omega)) small_one ((hT.l b1).l b2);rw[pat3_fit] at this;exact this
 ·have HQ:=fun w2 (b2:yB w1 w2)=>(convread_any 4 pat3 1 w2 ((hT.l b1).l b2)).2.2 p1 (by decide)
  rw[p2,p3] at HQ;refine toInt_exact 4 1 _ 0 3 _ false false true _ 3 ⟨false,3,0⟩ pat3 w1 HQ (fun xo xc w2=>wratio_any ⟨false,3,0⟩ xo xc w2) (fun xo xc eo ec w2 b2 rx re=> ?_) (fun po pc w2 b2 r=> ?_)
  ·have:=jM false xo xc (Dg.dg 4294967296 3) eo ec [1] 0 2 64 0 0 true 1 w2 rx re (Dg.small_dg _ _ (by omega)) small_one
   rw[r1,r2] at this;refine this.mono (fun z w' h=> ?_)
   obtain⟨v,h1,h2,h3⟩:=h;obtain⟨po,pc,e⟩:=h2.rd.shape;subst e;exact⟨po,pc,h1,h2.rd,h3⟩
  ·exact cwhole_pos 0 true true 3 po pc w2 (by decide) (by decide) (by decide) (fun w3 b3=>by
    have:=XF (yT po 3 pc) (Dg.dg 4294967296 3) w3 (r.l b3) (Dg.small_dg _ _ (by omega)) (by decide);rw[Dg.vl_dg _ _ (by omega)] at this;exact this)
theorem tRatio_any (t:ByteArray)(w:World)(hT:TxW w):
  (raE t=0→yC 37 #[.string t] w (RtE w (raV t).1 (raV t).2.1 (raV t).2.2.1 (raV t).2.2.2 0))∧
  (raE t≠0→yC 37 #[.string t] w (yR w (.tuple #[yrV false yN yN 0,yi (raE t)]))):=by
 have HN:=fun w1 (b:yB w w1)=>read_any t w1 (hT.l b)
 refine⟨fun h=> ?_,fun h=> ?_⟩
 ·obtain⟨h1,h2,h3,h4⟩:=nmV_zero h
  have HN2:yH w 73 #[.string t] (.tuple #[.agg #[.bool (nmV t).1.1,.string (nmV t).1.2.1,yi (nmV t).1.2.2],yi 0]):=fun w1 b=>by
   have:=HN w1 b;unfold NmE at this;rw[show(nmV t).2=0 from h] at this
   exact this
  exact tRatio_ok _ _ _ _ _ _ _ t w HN2 (fun w1 b=>ratio_any _ _ _ w1 h1 ((digB_iff _).1 h2).2 h3 h4 (hT.l b).1)
 ·exact tRatio_err (raE t) _ _ _ t w h HN
theorem tParse_any (n:Int)(t:ByteArray)(way:Int)(w:World)(hT:TxW w):yC 14 #[yi n,.string t,yi way] w (mM (psV n t way) w):=by
 unfold psV
 by_cases fn:dK n=0
 ·rw[if_pos fn]
  exact tparse_none n way t w (fun w1=>by
   have:=fam_any n w1;rw[fn] at this;exact this)
 rw[if_neg fn];have hf0:(dK n==0)=false:=by simpa using fn
 have HF:=fun w1=>fam_any n w1
 by_cases he:raE t=0
 rotate_left
 ·rw[if_pos he]
  exact tparse_err _ n way _ t w hf0 he HF (fun w1 b=>(tRatio_any t w1 (hT.l b)).2 he)
 rw[if_neg (fun c=>c he)]
 obtain⟨k1,k2,k3⟩:=fF fn;obtain⟨k,rfl⟩: ∃i:Nat,n=(i:Int):=⟨n.toNat,k3.symm⟩;rw[Int.toNat_natCast] at k1 k2⊢;exact tparse_ok _ (k:Int) way _ _ _ _ _ _ t _ w hf0 HF (fun w1 b=>(tRatio_any t w1 (hT.l b)).1 he) (fun ao ac bo bc w1 b ha hb=>fit_any k ⟨k1,k2⟩ way _ ao ac _ bo bc _ _ w1 ha hb (Dg.small_dg _ _ (by omega)) (Dg.small_dg _ _ (by omega)) (hT.l b).1)
def mkB (n:Int)(t md:ByteArray):Bool:=decide ((psV n t 1).2.2=0)&&((psV n t 1).1.toList==md.toList)
theorem makes_any (n:Int)(t md:ByteArray)(w:World)(hT:TxW w):yC 49 #[.string t,yi n,.string md] w (yR w (.bool (mkB n t md))):=by
 have HP:=fun w1 (b:yB w w1)=>tParse_any n t 1 w1 (hT.l b)
 unfold mM at HP;unfold mkB
 by_cases he:(psV n t 1).2.2=0
 rotate_left
 ·rw[decide_eq_false he,Bool.false_and]
  exact tmakes_err n _ _ t _ md w (by simpa using he) HP
 rw[decide_eq_true he,Bool.true_and];rw[he] at HP
 cases hb:(psV n t 1).1.toList==md.toList
 ·exact tmakes_no n _ t _ md w hb HP
 ·exact tmakes_yes n _ t _ md w hb HP
theorem num_of {n:Int}{s:ByteArray}(hp:dF n s=0)(hw:(wdV ((bM n s:Nat):Int)).2.2=false):(opT n s).n<2^64∧ -16500≤(opT n s).e∧(opT n s).e≤16500∧(opT n s).n≠0:=by
 have hf:dK n≠0:=fun hf=>by
  unfold dF at hp;rw[if_pos hf] at hp;omega
 obtain⟨k1,k2,k3⟩:=fF hf;obtain⟨k,rfl⟩: ∃i:Nat,n=(i:Int):=⟨n.toNat,k3.symm⟩;rw[Int.toNat_natCast] at k1 k2;obtain⟨c1,c2⟩:=zl hp;obtain⟨⟨s1,s2,s3⟩,-,n2⟩:=ir ⟨k1,k2⟩ hp;exact⟨s1,s2,s3,n2 (word_no c1 c2 hw)⟩
def shK (n:Int)(s:ByteArray):Nat:=shF (fun k=>mkB n (ptS n s k) (shM n s)) 59 1
def shV (n:Int)(s:ByteArray):ByteArray×Int:=
 if dF n s≠0 then(⟨#[]⟩,dF n s) else
  if(wdV ((bM n s:Nat):Int)).2.2=true then(wdS ((bM n s:Nat):Int) (dz n s),0) else
   if shE n s≠0 then(⟨#[]⟩,shE n s) else(ptS n s (shK n s),0)
theorem tShortest_any n (s:ByteArray)(w:World)(hT:TxW w):yC 17 #[yi n,.string s] w (yR w (.tuple #[.string (shV n s).1,yi (shV n s).2])):=by
 have HR:=fun w1 (b:yB w w1)=>zj n s w1 (hT.l b).1
 unfold shV
 by_cases hp:dF n s=0
 rotate_left
 ·rw[if_pos hp]
  exact tShort_err _ n _ _ _ _ _ s w hp HR
 rw[if_neg (fun c=>c hp)]
 rw[hp] at HR;have HW:=fun vo vc w1=>wordOf_any ((bM n s:Nat):Int) (iF n s) (dz n s) vo (Dg.dg 4294967296 (gJ n s)).length vc w1
 cases hw:(wdV ((bM n s:Nat):Int)).2.2
 rotate_left
 ·rw[if_pos rfl]
  rw[hw] at HW;exact tShort_word _ n _ _ _ _ _ s w HR HW
 rw[if_neg (by decide)];rw[hw] at HW;have HE: ∀vo vc w1,yB w w1→Rd w1 .u32 (.slice vo (Dg.dg 4294967296 (gJ n s)).length vc) (Dg.dg 4294967296 (gJ n s))→yC 47 #[yi n,yvV ((bM n s:Nat):Int) (dz n s) (.slice vo (Dg.dg 4294967296 (gJ n s)).length vc) (iF n s)] w1 (yR w1 (.tuple #[.string (shM n s),yi (shE n s)])):=fun vo vc w1 b h=>jj n _ _ vo vc _ _ w1 h (Dg.small_dg _ _ (by omega)) (hT.l b).1
 by_cases he:shE n s=0
 rotate_left
 ·rw[if_pos he]
  exact tShort_enc _ _ _ n _ _ _ _ _ s w he HR HW HE
 rw[if_neg (fun c=>c he)]
 rw[he] at HE;obtain⟨x1,x2,x3,x4⟩:=num_of hp hw;obtain⟨a1,a2,a3,a4,a5⟩:=dc_all x1 x2 x3 x4;exact tShort_num _ (shM n s) _ _ _ _ (fun k=>ptS n s k) (fun k=>mkB n (ptS n s k) (shM n s)) n _ _ _ _ _ s w HR HW HE (fun xo xc w1 _ h=>decimalOf_any _ xo xc w1 h x1 x2 x3 x4) (fun k k1 k2 ho hc w1 b h=>tprint_any _ _ _ k _ ho hc w1 h (hT.l b) a1 a2 k1 k2 (by omega) a4 a5) (fun k w1 b=>makes_any n _ _ w1 (hT.l b))
theorem begun_ps:psV 2 ⟨#[48,46,49]⟩ 1=(tenS,1,0):=by kernel_rfl
theorem begun_sh:shV 2 tenS=(⟨#[49,101,45,49]⟩,0):=by kernel_rfl
theorem textBegun_any (w:World)(hT:TxW w):yC 6 #[] w (yR w (.bool true)):=by
 refine textBegun_W tenS w (fun w1 b=> ?_) (fun w1 b=> ?_)
 ·have:=tParse_any 2 ⟨#[48,46,49]⟩ 1 w1 (hT.l b)
  rw[begun_ps] at this;exact this
 ·have:=tShortest_any 2 tenS w1 (hT.l b)
  rw[begun_sh] at this;exact this
theorem vF n (s:ByteArray)(w:World)(h:dF n s=0):yC 18 #[yi n,.string s] w (yR w (yi ((bM n s:Nat):Int))):=
 VI n _ _ s w (fun w1=>by have:=Jb n s w1;rw[h] at this;exact this)
theorem Ud (xs:List Nat)(w:World)(sa:Dg.Small 4294967296 xs)(h:chk xs=0):yC 12 #[.string (oW (Dg.vl 4294967296 xs))] w (Ans w (xs,0)):=by
 have hl:=(aF h).2;have hd:=Uc (Dg.vl 4294967296 xs) (2*xs.length) (oZ sa) (by omega);obtain⟨r,hr,hc⟩:=xI (oW (Dg.vl 4294967296 xs)) w (by omega);have e:=hr.2.2 hd.1 hd.2.1;rw[hd.2.2,rU (AK sa h),Dg.dg_vl _ (by omega) xs sa (aF h).1] at e
 rwa [e] at hc
theorem exact_any (k j:Nat)(hk:1≤k∧k≤8)(hj:1≤j∧j≤8)(w:World)(hT:Tab w):
  yC 16 #[yi k,yi j] w (yR w (.tuple #[.bool (exB k j),yi 0])):=by
 obtain⟨hf,hne⟩:=hd_fine hk;refine exact_W k j _ _ _ _ _ _ _ _ _ _ (exB k j) (hdL k) (hdB8 j) w hne rfl (fun w1=>vj k hk w1) (fun w1=>vj j hj w1) (fun w1 b1=>hardest_any k hk w1 (hT.l b1)) (fun t ht ao ac w1 b1 hr=> ?_)
 have hc:aS (Dg.dg 4294967296 t.n) t.e=0:=by
  have:=List.all_eq_true.1 hf t ht
  simpa using this
 have hg:=(eR hj).2.2.2.2.2.2.2.2.2.2.2;have ho:onC (aS (Dg.dg 4294967296 t.n) t.e) (bk (rdN j) (dgN j) (lsI j) (gsI j))=0:=by
  unfold onC;rw[if_pos hc,hg]
 have:=qR (rdN j) (dgN j) (lsI j) (gsI j) (decide (j≤3)) t.s ao ac (Dg.dg 4294967296 t.n) t.e w1 hr (Dg.small_dg _ _ (by omega)) (hT.l b1);unfold um at this;rw[ho,if_pos rfl,Dg.vl_dg _ _ (by omega)] at this;exact this
theorem dec_of {k:Nat}(hk:1≤k∧k≤8){c:Int}{g:Bool}{m:Nat}{p fl:Int}(h:(Dw k c g m p fl).2.2=0):
  dF k (Dw k c g m p fl).1=0∧((bM k (Dw k c g m p fl).1:Nat):Int)=c∧dz k (Dw k c g m p fl).1=g∧opT k (Dw k c g m p fl).1=if c=2 then bare ⟨g,m,(ai (rdN k):Int)*p⟩ else⟨false,0,0⟩:=by
 unfold Dw at h⊢
 by_cases he:gI k c g (Dg.dg 4294967296 m) p=0
 rotate_left
 ·rw[if_neg he] at h
  exact absurd h he
 rw[if_pos he];obtain⟨e1,e2,e3,e4,e5,e6,e7⟩:=oJ hk (Dg.small_dg _ _ (by omega)) he;simp only;have hp:=nj hk e1;refine⟨hp, ?_, ?_, ?_⟩
 ·unfold bM
  rw[if_pos hp,Int.toNat_natCast];exact e2
 ·unfold dz
  rw[if_pos hp,Int.toNat_natCast];exact e3
 ·unfold opT nxT
  rw[if_pos hp,Int.toNat_natCast]
  by_cases hc:c=2
  ·rw[if_pos hc]
   obtain⟨-,f1,f2,f3⟩:=e6 hc;rw[iq hk e4 e5 (by omega),wQ hk,f1,f3,Dg.vl_dg _ _ (by omega)]
  ·rw[if_neg hc]
   exact Fm hk (by omega)
def cvA (n:Int)(s:ByteArray)(k way:Int):ByteArray×Int×Int:=
 if dK k=0 then(⟨#[]⟩,0,6) else if dF n s≠0 then(⟨#[]⟩,0,dF n s) else if 1≤way∧way≤5 then cvT k.toNat way ((bM n s:Nat):Int) (dz n s) (opT n s) else(⟨#[]⟩,0,6)
theorem convertA (n:Int)(s:ByteArray)(k way:Int)(w:World)(hT:Tab w):yC 19 #[yi n,.string s,yi k,yi way] w (mM (cvA n s k way) w):=by
 unfold cvA
 by_cases fk:dK k=0
 ·rw[if_pos fk]
  exact convert_none n k way s w (fun w2=>by
   have:=fam_any k w2;rw[fk] at this;exact this)
 rw[if_neg fk];have hf0:(dK k==0)=false:=by simpa using fk
 have HF:=fun w1=>fam_any k w1
 by_cases hp:dF n s=0
 rotate_left
 ·rw[if_pos hp]
  exact convert_err _ _ _ _ _ _ _ n k way s w hf0 hp HF (fun w2 b2=>(convread_any n s way w2 (hT.l b2)).1 hp)
 rw[if_neg (fun c=>c hp)]
 by_cases hw:1≤way∧way≤5
 rotate_left
 ·rw[if_neg hw]
  exact convert_err _ _ _ _ _ _ _ n k way s w hf0 (show¬(6:Int)=0 by decide) HF (fun w2 b2=>(convread_any n s way w2 (hT.l b2)).2.1 hp hw)
 rw[if_pos hw];obtain⟨k1,k2,k3⟩:=fF fk;obtain⟨k,rfl⟩: ∃j:Nat,k=(j:Int):=⟨k.toNat,k3.symm⟩;rw[Int.toNat_natCast] at k1 k2⊢;exact convert_any n s k ⟨k1,k2⟩ way w hT hp hw
theorem held_set {k:Nat}(hk:1≤k∧k≤8)(way:Int)(t:ak)(h0:t.n≠0)(hh:dA (rdN k) (dgN k) (lsI k) (gsI k) (decide (k≤3)) t.n t.e=true):
  ∃d p,pG k way (fY k way t)=(2,t.s,d,p,0)∧gI k 2 t.s (Dg.dg 4294967296 d) p=0∧bare ⟨t.s,d,(ai (rdN k):Int)*p⟩=bare t:=by
 obtain⟨-,-,d1,-,-,-,lg,-,w64,-,-,hg⟩:=eR hk;have hD:(1:Int)≤(dgN k:Int):=by omega
 obtain⟨o1,o2,o3⟩:=mC (s:=t.s) (way:=way) hD lg h0 hh;obtain⟨q1,q2,q3,q4⟩:=oj (s:=t.s) (way:=way) hD lg h0 hh;obtain⟨ex,hL⟩:=RK (s:=t.s) (way:=way) hD lg h0 hh;have hsp:ia (rdN k) (dgN k) (lsI k) (gsI k) (decide (k≤3)) (fY k way t).d (fY k way t).p:=nW hD lg h0 (by omega) o1 o2;obtain⟨l15,p1,p2,-,-,-⟩:=qj hg hsp;have hd:(fY k way t).d≠0:=fun c=>q4 (q2.symm.trans c)
 have hs:(fY k way t).s=t.s:=q1;have hcd:chk (Dg.dg 4294967296 (fY k way t).d)=0:=pJ (Dg.norm_dg _ _ (by omega)) (by omega);have hl0:(Dg.dg 4294967296 (fY k way t).d).length≠0:=fun c=>hd ((Dg.dg_nil_iff 4294967296 _ (by omega)).1 (List.length_eq_zero_iff.1 c))
 have hv:=Dg.vl_dg 4294967296 (fY k way t).d (by omega);have hb2:bare ⟨t.s,(fY k way t).d,(ai (rdN k):Int)*(fY k way t).p⟩=bare t:=by
  have:=o3;rw[q1] at this;exact this
 refine⟨(fY k way t).d,(fY k way t).p, ?_, ?_,hb2⟩
 ·unfold pG
  rw[if_neg (fun c=>by rw[show(fY k way t).ov=false from o1] at c;cases c),if_neg (fun c=>by have:=c.2;rw[show(fY k way t).p=cP (rdN k) (dgN k) (lsI k) (decide (k≤3)) t.n t.e from q3] at this;omega),if_neg hd,if_pos (show(fY k way t).ex=true from ex),hs]
 ·rw[(xH hk hcd).1,mY hk hcd hl0 (by omega),hv,hb2,jK _ _ lg,hh,if_pos rfl]
theorem cv_held {j:Nat}(hj:1≤j∧j≤8){way:Int}(hw:1≤way∧way≤5)(g:Bool){x:ak}(sx:iZ x)(h0:x.n≠0)(hh:dA (rdN j) (dgN j) (lsI j) (gsI j) (decide (j≤3)) x.n x.e=true):
  (cvT j way 2 g x).2=(0,0)∧dF j (cvT j way 2 g x).1=0∧((bM j (cvT j way 2 g x).1:Nat):Int)=2∧dz j (cvT j way 2 g x).1=x.s∧opT j (cvT j way 2 g x).1=bare x:=by
 obtain⟨d,p,e1,e2,e3⟩:=held_set hj way x h0 hh;have e:cvT j way 2 g x=Dw j 2 x.s d p 0:=by
  unfold cvT;rw[if_pos rfl,fit_num hj hw sx h0,e1]
 have hz:Dw j 2 x.s d p 0=(fq j 2 x.s (Dg.dg 4294967296 d) p,0,0):=if_pos e2;obtain⟨k1,k2,k3,k4⟩:=dec_of hj (c:=2) (g:=x.s) (m:=d) (p:=p) (fl:=0) (by rw[hz]);rw[e];refine⟨by rw[hz],k1,k2,k3, ?_⟩;rw[k4,if_pos rfl,e3]
theorem mk_ps {n:Int}{t md:ByteArray}(h:mkB n t md=true):psV n t 1=(md,(psV n t 1).2.1,0):=by
 unfold mkB at h;obtain⟨h1,h2⟩:=Bool.and_eq_true_iff.1 h;have e:=eq_of_beq h2;rw[ByteArray.toList_eq,ByteArray.toList_eq] at e;have e1:=WideShapes.bytes_inj e;have e2:=of_decide_eq_true h1;rw[←e1,←e2]
theorem shV_pat {n:Int}{s:ByteArray}(h:(shV n s).2=0):dF n s=0:=by
 unfold shV at h
 by_cases hp:dF n s=0
 ·exact hp
 ·rw[if_pos hp] at h
  exact absurd h hp
theorem sh_facts {k:Nat}(hk:1≤k∧k≤8){s:ByteArray}(h:(shV k s).2=0)(hc:bM k s=2):
  gI k 2 (dz k s) (Dg.dg 4294967296 (gJ k s)) (iF k s)=0∧shM k s=fq k 2 (dz k s) (Dg.dg 4294967296 (gJ k s)) (iF k s)∧
  (shV k s).1=ptS k s (shK k s)∧1≤shK k s∧shK k s≤21∧mkB k (ptS k s (shK k s)) (shM k s)=true∧ ∀j,1≤j→j<shK k s→mkB k (ptS k s j) (shM k s)=false:=by
 have hp:=shV_pat h;have hcc:((bM k s:Nat):Int)=2:=by omega
 have hw:(wdV ((bM k s:Nat):Int)).2.2=false:=by rw[hcc];rfl
 have hM:shM k s=fq k 2 (dz k s) (Dg.dg 4294967296 (gJ k s)) (iF k s):=by
  unfold shM;rw[hcc]
 unfold shV at h⊢;rw[if_neg (fun c=>c hp),if_neg (by rw[hw];decide)] at h⊢
 have hE:shE k s=0:=by
  by_cases c:shE k s=0
  ·exact c
  ·rw[if_pos c] at h
   exact h
 rw[if_neg (fun c=>c hE)]
 have he:gI k 2 (dz k s) (Dg.dg 4294967296 (gJ k s)) (iF k s)=0:=by
  have:=hE;unfold shE at this
  rwa [hcc] at this
 obtain⟨i1,i2,i3,i4⟩:=shF_spec (fun j=>mkB k (ptS k s j) (shM k s)) 59 1
 have e21:mkB k (ptS k s 21) (shM k s)=true:=by
  obtain⟨fl,h⟩:=print_back hk hp hc he (j:=21) (by omega) (by omega) (bits_fit hk);unfold mkB;rw[h,hM];simp
 have hKK:shK k s=shF (fun j=>mkB k (ptS k s j) (shM k s)) 59 1:=rfl
 rw[←hKK] at i1 i2 i3 i4;have hK21:shK k s≤21:=by
  rcases Nat.lt_or_ge 21 (shK k s) with c|c
  ·have:mkB k (ptS k s 21) (shM k s)=false:=i3 21 (by omega) c
   rw[e21] at this
   cases this
  ·exact c
 exact⟨he,hM,rfl,i1,hK21,i4 (by omega),i3⟩
theorem sh_dec {k:Nat}(hk:1≤k∧k≤8){s:ByteArray}(hp:dF k s=0)(hc:bM k s=2)(he:gI k 2 (dz k s) (Dg.dg 4294967296 (gJ k s)) (iF k s)=0){t:ByteArray}(ht:fq k 2 (dz k s) (Dg.dg 4294967296 (gJ k s)) (iF k s)=t):
  dF k t=0∧bM k t=2∧dz k t=dz k s∧gJ k t=gJ k s∧iF k t=iF k s:=by
 have hcl:dh k (aZ k s) (aR k s) (aU k s)=2:=by
  unfold bM at hc
  rwa [if_pos hp,Int.toNat_natCast] at hc
 have dG:dz k s=kt k (aZ k s) (aR k s) (aU k s):=by unfold dz;rw[if_pos hp,Int.toNat_natCast]
 have dM:gJ k s=ge k (aZ k s) (aR k s) (aU k s):=by unfold gJ;rw[if_pos hp,Int.toNat_natCast]
 have dP:iF k s=gw k (aZ k s) (aR k s) (aU k s):=by unfold iF;rw[if_pos hp,Int.toNat_natCast]
 have hmd:Dw k 2 (dz k s) (gJ k s) (iF k s) 0=(fq k 2 (dz k s) (Dg.dg 4294967296 (gJ k s)) (iF k s),0,0):=if_pos he;have hpt:dF k t=0:=by
  have:=(dec_of hk (c:=2) (g:=dz k s) (m:=gJ k s) (p:=iF k s) (fl:=0) (by rw[hmd])).1;rw[hmd] at this;rw[←ht];exact this
 rw[dG,dM,dP] at he ht;obtain⟨-,a2,a3,a4,a5⟩:=Ut hk (t:=t) (by rw[hcl];exact he) (by rw[hcl];exact ht);rw[dG,dM,dP];unfold bM dz gJ iF;rw[if_pos hpt,if_pos hpt,if_pos hpt,if_pos hpt,Int.toNat_natCast];exact⟨hpt,a2.trans hcl,a3,a4,a5⟩
def frT (n k way:Int):ByteArray×Int×Int:=if dK k=0 then(⟨#[]⟩,0,6) else fitT k.toNat way (decide (n<0)) (Dg.dg 4294967296 n.natAbs) [1] 0
theorem fromInt_any (n k way:Int)(h1: -9223372036854775808≤n)(h2:n≤9223372036854775807)(w:World)(hT:Tab w):yC 8 #[yi n,yi k,yi way] w (mM (frT n k way) w):=by
 have HW:=fun w1 (_:yB w w1)=>(KH n.natAbs (by omega) w1).mono (fun z w' h=>by
  obtain⟨v,e,o,b⟩:=h;exact(⟨v,e,o.rd,b⟩: ∃v,z= .returned v∧Rd w' .u32 v (Dg.dg 4294967296 n.natAbs)∧yB w1 w'))
 have HA: ∀(ng:Bool),decide (n<0)=ng→ ∀ao ac q w1,yB w w1→Rd w1 .u32 (yT ao n.natAbs ac) (Dg.dg 4294967296 n.natAbs)→au w1 q 54 [.int .u32 1]→yC 23 #[yi k,yrV ng (yT ao n.natAbs ac) (.slice (some ⟨q,0,none⟩) 1 1) 0,yi way] w1 (yR w1 (.tuple #[.string (frT n k way).1,yi (frT n k way).2.1,yi (frT n k way).2.2])):=fun ng hng ao ac q w1 b r l=>by
  subst hng;unfold frT
  by_cases hf:dK k=0
  ·rw[if_pos hf]
   exact afh k 6 way (by decide) _ ao _ ac _ _ _ 0 w1 (fun w2=>FM k 6 (by decide) w2 (fun w3=>vU k w3 hf))
  ·rw[if_neg hf]
   obtain⟨k1,k2,k3⟩:=fF hf;obtain⟨j,rfl⟩: ∃j:Nat,k=(j:Int):=⟨k.toNat,k3.symm⟩;rw[Int.toNat_natCast] at k1 k2⊢;exact fit_any j ⟨k1,k2⟩ way _ ao ac (Dg.dg 4294967296 n.natAbs) (some ⟨q,0,none⟩) 1 [1] 0 w1 r (aa0 (r:=1) (l.c 0 rfl)) (Dg.small_dg _ _ (by omega)) small_one (hT.l b)
 by_cases hn:n<0
 ·exact fromInt_neg (n+18446744073709551616) n k way _ _ n.natAbs _ w hn (by rw[IntKind.wrap_u64];omega) (by rw[IntKind.wrap_u64];omega) HW (HA true (decide_eq_true hn))
 ·exact fromInt_pos n k way _ _ n.natAbs _ w hn (by rw[IntKind.wrap_u64];omega) HW (HA false (decide_eq_false hn))
theorem toInt_any (k:Nat)(hk:1≤k∧k≤8)(s:ByteArray)(way:Int)(w:World)(hT:Tab w)(hp:dF k s=0)(hw:1≤way∧way≤5):
  yC 15 #[yi k,.string s,yi way] w (yR w (.tuple #[yi (tiT ((bM k s:Nat):Int) way (opT k s)).1,yi (tiT ((bM k s:Nat):Int) way (opT k s)).2,yi 0])):=by
 obtain⟨sx,z2,n2⟩:=ir hk hp;have HQ:=fun w1 (b:yB w w1)=>(convread_any k s way w1 (hT.l b)).2.2 hp hw
 have HR:=fun xo xc eo ec w1 (_:yB w w1) (rx:Rd w1 .u32 (.slice xo (Dg.dg 4294967296 (opT k s).n).length xc) (Dg.dg 4294967296 (opT k s).n)) (re:Rd w1 .u32 (.slice eo 1 ec) [1])=>(jM (opT k s).s xo xc (Dg.dg 4294967296 (opT k s).n) eo ec [1] (opT k s).e 2 64 0 0 true way w1 rx re (Dg.small_dg _ _ (by omega)) small_one).mono (fun z w' h=>by
  obtain⟨v,h1,h2,h3⟩:=h;obtain⟨po,pc,e⟩:=h2.rd.shape;subst e;exact(⟨po,pc,h1,h2.rd,h3⟩: ∃po pc,z= .returned (.tuple #[.agg #[.bool (df (Dg.dg 4294967296 (opT k s).n) [1] (opT k s).e 2 64 0 0 true (opT k s).s way).s,.slice po (Dg.dg 4294967296 (df (Dg.dg 4294967296 (opT k s).n) [1] (opT k s).e 2 64 0 0 true (opT k s).s way).d).length pc,yi (df (Dg.dg 4294967296 (opT k s).n) [1] (opT k s).e 2 64 0 0 true (opT k s).s way).p,.bool (df (Dg.dg 4294967296 (opT k s).n) [1] (opT k s).e 2 64 0 0 true (opT k s).s way).ex,.bool (df (Dg.dg 4294967296 (opT k s).n) [1] (opT k s).e 2 64 0 0 true (opT k s).s way).ov,.bool (df (Dg.dg 4294967296 (opT k s).n) [1] (opT k s).e 2 64 0 0 true (opT k s).s way).un],yi (eE (Dg.dg 4294967296 (opT k s).n) [1] (opT k s).e 2 64 0 0 way)])∧Rd w' .u32 (.slice po (Dg.dg 4294967296 (df (Dg.dg 4294967296 (opT k s).n) [1] (opT k s).e 2 64 0 0 true (opT k s).s way).d).length pc) (Dg.dg 4294967296 (df (Dg.dg 4294967296 (opT k s).n) [1] (opT k s).e 2 64 0 0 true (opT k s).s way).d)∧yB w1 w'))
 have HT:=fun xo xc w1=>wratio_any (opT k s) xo xc w1
 have hW: ∀(t:fz),t.d<2^64→ ∀po pc w1,yB w w1→Rd w1 .u32 (yT po t.d pc) (Dg.dg 4294967296 t.d)→yC 41 #[ypV t.s (yT po t.d pc) t.p t.ex t.ov t.un] w1 (yR w1 (.tuple #[yi (whR t.ov t.s (t.d:Int)),.bool (whB t.ov t.s (t.d:Int))])):=fun t ht po pc w1 _ r=>cwhole_any (t.d:Int) t.s t.ov t.p t.ex t.un t.d po pc w1 (fun w2 b2=>by
  have:=XF (yT po t.d pc) (Dg.dg 4294967296 t.d) w2 (r.l b2) (Dg.small_dg _ _ (by omega)) (jq ht (by omega));rw[Dg.vl_dg _ _ (by omega)] at this;exact this.mono (fun z w' h=>⟨h.1,by rw[h.2];exact Below.refl _ _⟩))
 have hl:(Dg.dg 4294967296 (opT k s).n).length≤1200:=jq sx.1 (by omega);have hq:eA (Dg.dg 4294967296 (opT k s).n) [1] (opT k s).e=0:=by
  unfold eA;rw[if_pos (pJ (Dg.norm_dg _ _ (by omega)) hl),if_pos (show chk [1]=0 from rfl),if_neg]
  rintro(c|c)
  ·cases c
  ·unfold eJ at c
   simp at c;have:=sx.2;omega
 have hC:eE (Dg.dg 4294967296 (opT k s).n) [1] (opT k s).e 2 64 0 0 way=0:=by rw[Bq hq (by decide),if_pos (way_is.2 hw)]
 rw[hC] at HR;have hc:=zl hp
 by_cases h2:((bM k s:Nat):Int)=2
 ·have h0:=n2 (by omega)
  have hP:df (Dg.dg 4294967296 (opT k s).n) [1] (opT k s).e 2 64 0 0 true (opT k s).s way=cI 2 64 0 0 true (opT k s).s (opT k s).n 1 (opT k s).e way:=by
   unfold df;rw[if_pos hC,if_neg (fun c=>h0 ((Dg.dg_nil_iff 4294967296 _ (by omega)).1 (List.length_eq_zero_iff.1 c))),Dg.vl_dg _ _ (by omega)]
   rfl
  rw[hP] at HR;have hd:=(unit_s (D:=64) (G:=0) true (opT k s).s (opT k s).n 1 (opT k s).e way (by omega) (by omega) h0 (by omega)).2;have he:=unit_prog (opT k s) way h0;rw[h2] at HQ⊢;exact toInt_num2 2 k way _ _ _ _ _ _ _ _ _ _ _ _ _ (opT k s) s w (by decide) (by decide) he.1.symm he.2.symm HQ HT HR (hW _ hd)
 ·have hx:=z2 (by omega)
  by_cases h1:((bM k s:Nat):Int)=1
  ·have hP:df (Dg.dg 4294967296 (opT k s).n) [1] (opT k s).e 2 64 0 0 true (opT k s).s way=⟨false,0,0,true,false,false⟩:=by
    unfold df;rw[if_pos hC,if_pos (by rw[hx];rfl)]
   rw[hP] at HR;rw[h1] at HQ⊢;exact toInt_num1 1 k way _ _ _ _ _ _ _ _ _ _ _ _ _ (opT k s) s w (by decide) rfl rfl HQ HT HR (hW ⟨false,0,0,true,false,false⟩ (by decide))
  ·have e:tiT ((bM k s:Nat):Int) way (opT k s)=(0,16):=by
    unfold tiT;rw[if_neg h1,if_neg h2]
   rw[e];exact toInt_oth _ k way _ _ _ _ s w (by simpa using h1) (by simpa using h2) HQ
end Go.Proofs.YtlgkfdcmokchgaaGreatDoor
