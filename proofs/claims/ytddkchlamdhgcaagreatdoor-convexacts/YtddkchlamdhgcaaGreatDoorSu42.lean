/-
  Texts laid together: Co18, Ce2, Ce12, Eb3, Pa1, Cv1, Oq5, Ra4, Rb3, Cv4, Bd2.
-/
import Derived.Test.YtddkchlamdhgcaaGreatDoorSu38
import Derived.Test.YtddkchlamdhgcaaGreatDoorSu39
import Derived.Test.YtddkchlamdhgcaaGreatDoorSu40
set_option maxRecDepth 100000
set_option maxHeartbeats 3200000
namespace Go.Proofs.YtddkchlamdhgcaaGreatDoor
open _root_.Go.Proofs.Tryz
open Go.RowKit
theorem fR n (s:ByteArray)(w:World):yC 28 #[yi n,.string s] w (eP w ((bM n s:Nat):Int) (dz n s) (gJ n s) (iF n s) (dF n s)):=by
 unfold bM dz gJ iF
 by_cases h:dF n s=0
 ·rw[if_pos h,if_pos h,if_pos h,if_pos h]
  have hf:dK n≠0:=fun hf=>by
   unfold dF at h;rw[if_pos hf] at h;omega
  obtain⟨h1,h2,h3⟩:=fF hf;have HR:=fun w1=>uM n s w1 h
  have HV:=fun w1=>Gz n.toNat ⟨h1,h2⟩ (aZ n.toNat s) (aR n.toNat s) (aU n.toNat s) w1 (vW ⟨h1,h2⟩ s) (GM ⟨h1,h2⟩ s)
  rw[h];generalize n.toNat=k at*;generalize dh k (aZ k s) (aR k s) (aU k s)=c at*;generalize kt k (aZ k s) (aR k s) (aU k s)=g at*;generalize ge k (aZ k s) (aR k s) (aU k s)=m at*;generalize gw k (aZ k s) (aR k s) (aU k s)=p at*;generalize aZ k s=ng at*;generalize aR k s=e at*;generalize aU k s=f at*
  rcases bO ⟨h1,h2⟩ with rfl|rfl|rfl|rfl|rfl|rfl|rfl|rfl
  all_goals exact Xt _ _ _ _ _ _ _ _ _ _ ng e f _ _ _ _ s w HR HV
 ·rw[if_neg h,if_neg h,if_neg h,if_neg h]
  exact Pk n _ h s w (fun w1=>tA n s w1 h)
theorem jp.store {w:World}{base g n cap:Nat}{bs:List Bool}(h:jp w base (.slice (some ⟨g,0,none⟩) n cap) bs)(hn:n=bs.length)(j:Nat)(x:Bool):
  jp (w.setCell ⟨g,j,none⟩ (.bool x)) base (.slice (some ⟨g,0,none⟩) n cap) (bs.set j x):=by
 subst hn;have:=(World.ownsRow.stored h j (.bool x)).1;unfold jp;rw[List.length_set,List.map_set];exact this
theorem jp.f {w:World}{base g n cap:Nat}{bs:List Bool}(h:jp w base (.slice (some ⟨g,0,none⟩) n cap) bs)(hn:n=bs.length)(j:Nat):w.frozen? ⟨g,j,none⟩=false:=by
 subst hn;exact World.ownsRow.frozenAt h j
theorem jj (n c:Int)(ng:Bool)(ao:Option Addr)(ca:Nat)(xs:List Nat)(p:Int)(w:World)(hr:Rd w .u32 (.slice ao xs.length ca) xs)(sa:Dg.Small 4294967296 xs)(hT:Tab w):
  yC 29 #[yi n,yvV c ng (.slice ao xs.length ca) p] w (yR w (.tuple #[.string (fq n c ng xs p),yi (gI n c ng xs p)])):=by
 have HN:yH w 58 #[.slice ao xs.length ca] (yi (chk xs)):=fun w1 b=>(jC _ xs w1 (hr.l b)).mono (fun _ _ h=>⟨h.1,by rw[h.2];exact Below.refl _ _⟩)
 unfold gI fq
 by_cases hf:dK n=0
 ·rw[if_pos (.inl hf),if_pos (.inl hf)]
  exact LX n c p ng ao xs.length ca w (fun w1=>lR n w1 hf)
 ·obtain⟨h1,h2,h3⟩:=fF hf
  obtain⟨k,rfl⟩: ∃k:Nat,n=(k:Int):=⟨n.toNat,h3.symm⟩;rw[Int.toNat_natCast] at h1 h2⊢;have HL:=fun w1=>pU k ⟨h1,h2⟩ w1
  by_cases hc1:c<1
  ·rw[if_pos (.inr (.inl hc1)),if_pos (.inr (.inl hc1))]
   rcases bO ⟨h1,h2⟩ with rfl|rfl|rfl|rfl|rfl|rfl|rfl|rfl
   all_goals exact aaS _ _ _ _ _ _ _ _ _ _ c p ng ao xs.length ca w HL hc1
  ·by_cases hc5:5<c
   ·rw[if_pos (.inr (.inr hc5)),if_pos (.inr (.inr hc5))]
    rcases bO ⟨h1,h2⟩ with rfl|rfl|rfl|rfl|rfl|rfl|rfl|rfl
    all_goals exact Xj _ _ _ _ _ _ _ _ _ _ c p ng ao xs.length ca w HL hc5
   ·have hno: ¬(dK (k:Int)=0∨c<1∨5<c):=by
     rintro(h|h|h)
     ·exact hf h
     ·exact hc1 h
     ·exact hc5 h
    rw[if_neg hno,if_neg hno]
    by_cases hn:chk xs=0
    ·rw[if_neg (show¬chk xs≠0 from fun h=>h hn),if_neg (show¬chk xs≠0 from fun h=>h hn)]
     by_cases hc2:c=2
     ·subst hc2
      rw[if_pos rfl,if_pos rfl];have HO:=fun w1 (b:yB w w1)=>B5 k ⟨h1,h2⟩ ng ao ca xs p w1 (hr.l b) sa hn (hT.l b)
      generalize enS k ng xs p=st at*;generalize enE k ng xs p=er at*
      rcases bO ⟨h1,h2⟩ with rfl|rfl|rfl|rfl|rfl|rfl|rfl|rfl
      all_goals exact QD _ _ _ _ _ _ _ _ _ _ p ng ao xs.length ca w HL _ HN st er HO hn
     ·rw[if_neg hc2,if_neg hc2]
      obtain⟨m,hm⟩: ∃m:Nat,c=(m:Int):=⟨c.toNat,by omega⟩;subst hm;rw[Int.toNat_natCast];have HO:=fun w1=>wE k m ⟨h1,h2⟩ (by omega) ng ao xs.length ca p w1
      generalize Fv k m xs.length ng p=st at*;generalize qX k m xs.length ng p=er at*
      rcases bO ⟨h1,h2⟩ with rfl|rfl|rfl|rfl|rfl|rfl|rfl|rfl
      all_goals exact Ip _ _ _ _ _ _ _ _ _ _ _ p ng ao xs.length ca w HL _ HN st er HO (by omega) (by omega) (by omega) hn
    ·rw[if_pos hn,if_pos hn]
     rcases bO ⟨h1,h2⟩ with rfl|rfl|rfl|rfl|rfl|rfl|rfl|rfl
     all_goals exact EF _ _ _ _ _ _ _ _ _ _ c p ng ao xs.length ca w HL _ HN (by omega) (by omega) hn
theorem oJ {k:Nat}(hk:1≤k∧k≤8){c:Int}{ng:Bool}{xs:List Nat}{p:Int}(sa:Dg.Small 4294967296 xs)(h:gI k c ng xs p=0):
  (fq k c ng xs p).size=szN k∧((dh k (aZ k (fq k c ng xs p)) (aR k (fq k c ng xs p)) (aU k (fq k c ng xs p)):Nat):Int)=c∧kt k (aZ k (fq k c ng xs p)) (aR k (fq k c ng xs p)) (aU k (fq k c ng xs p))=ng∧
   aR k (fq k c ng xs p)<2^exN k∧aU k (fq k c ng xs p)<2^frN k∧
   (c=2→chk xs=0∧aZ k (fq k c ng xs p)=ng∧iI k (aR k (fq k c ng xs p)) (aU k (fq k c ng xs p))≠0∧bare ⟨ng,iI k (aR k (fq k c ng xs p)) (aU k (fq k c ng xs p)),(ai (rdN k):Int)*ii k (aR k (fq k c ng xs p))⟩=bare ⟨ng,Dg.vl 4294967296 xs,(ai (rdN k):Int)*p⟩)∧
   (c≠2→xs.length=0∧p=0):=by
 by_cases hf:dK k=0∨c<1∨5<c
 ·unfold gI at h
  rw[if_pos hf] at h;omega
 ·by_cases hx:chk xs=0
  ·unfold gI at h
   rw[if_neg hf,if_neg (fun q=>q hx)] at h
   unfold fq;rw[if_neg hf,if_neg (fun q=>q hx)]
   rw[Int.toNat_natCast] at h⊢
   by_cases hc:c=2
   ·rw[if_pos hc] at h⊢
    obtain⟨e1,e2,e3,e4,e5,e6,e7⟩:=Q9 hk sa hx h;rw[e2];refine⟨e1,by rw[e5,hc];rfl,by unfold kt;rw[if_pos (by omega)],e3,e4,fun _=>⟨hx,rfl,e6,e7⟩,fun q=>absurd hc q⟩
   ·rw[if_neg hc] at h⊢
    obtain⟨m,hm⟩: ∃m:Nat,c=(m:Int):=⟨c.toNat,by omega⟩;subst hm;rw[Int.toNat_natCast] at h⊢;have h4:m=1∨m=3∨m=4∨m=5:=by omega
    have hs:iR k m=true:=by
     refine Decidable.byContradiction fun q=> ?_
     unfold qX at h;rw[if_pos (by simpa using q)] at h;omega
    have hbad: ¬(0<xs.length∨p≠0∨ng=true∧Bk k m=false):=fun q=>by
     unfold qX at h;rw[if_neg (by rw[hs];simp),if_pos q] at h;omega
    have hg:ng=true→Bk k m=true:=fun q=>by
     refine Decidable.byContradiction fun r=>hbad (.inr (.inr ⟨q,by simpa using r⟩))
    obtain⟨o1,o2,o3,o4⟩:=Ry hk h4 ng hs hg;obtain⟨w1,w2,w3,w4⟩:=mS hk (pI k m||ng) (pg k m) (lS k m)
    rw[Nat.mod_eq_of_lt o1] at w2;rw[Nat.mod_eq_of_lt o2] at w3;have hS:Fv k m xs.length ng p=cF (kU k (pI k m||ng) (pg k m) (lS k m)):=by
     unfold Fv;rw[if_pos h]
    rw[hS,w1,w2,w3,w4,o3,o4];refine⟨rfl,rfl,rfl,o1,o2,fun q=>absurd q hc,fun _=>⟨?_, ?_⟩⟩
    ·rcases Nat.eq_zero_or_pos xs.length with q|q
     ·exact q
     ·exact absurd (.inl q) hbad
    ·exact Decidable.byContradiction fun q=>hbad (.inr (.inl q))
  ·unfold gI at h
   rw[if_neg hf,if_pos hx] at h;exact absurd h hx
theorem xH {k:Nat}(hk:1≤k∧k≤8){ng:Bool}{ys:List Nat}{q:Int}(hy:chk ys=0):gI k 2 ng ys q=enE k ng ys q∧fq k 2 ng ys q=enS k ng ys q:=by
 have hf: ¬(dK k=0∨(2:Int)<1∨(5:Int)<2):=by
  rcases bO hk with rfl|rfl|rfl|rfl|rfl|rfl|rfl|rfl<;>decide
 unfold gI fq;rw[if_neg hf,if_neg (fun c=>c hy),if_pos rfl,if_neg hf,if_neg (fun c=>c hy),if_pos rfl,Int.toNat_natCast]
 exact⟨rfl,rfl⟩
theorem Pw (k:Nat)(hk:1≤k∧k≤8)(wy:Int)(hw:1≤wy∧wy≤5)(ng:Bool)(w:World):yC 110 #[dsk k wy,.bool ng] w (iT w (ovV k wy ng).1 (ovV k wy ng).2.1 (ovV k wy ng).2.2.1 (ovV k wy ng).2.2.2):=by
 unfold ovV;have HG:=fun w1=>Ba k hk wy ng w1
 unfold dsk at HG⊢
 rcases qt hk with h|h|h
 ·rw[h] at HG⊢
  rw[if_neg (by decide)]
  by_cases ho:aaV wy ng=true
  ·rw[if_pos ⟨rfl,ho⟩]
   exact abM _ _ _ _ _ _ _ _ w (fun w1=>by have:=CT k wy 1 (rdN k) (dgN k) (lsI k) (gsI k) (decide (k≤3)) ng hw w1;rw[ho] at this;exact this)
  ·rw[if_neg (fun c=>ho c.2)]
   exact abN _ _ _ _ _ _ _ _ _ w (fun w1=>by have:=CT k wy 1 (rdN k) (dgN k) (lsI k) (gsI k) (decide (k≤3)) ng hw w1;rw[show aaV wy ng=false by simpa using ho] at this;exact this) (fun w1 _=>HG w1)
 ·rw[h] at HG⊢
  rw[if_neg (by decide),if_neg (fun c=>absurd c.1 (by decide))]
  exact ado _ _ _ _ _ _ _ _ _ w (fun w1 _=>HG w1)
 ·rw[h,if_pos rfl]
  exact adn _ _ _ _ _ _ _ _ w (fun w1=>A5 3 (.inr (.inr rfl)) w1)
theorem Px (k:Nat)(hk:1≤k∧k≤8)(wy:Int)(hw:1≤wy∧wy≤5)(P:fz)(ao:Option Addr)(ca:Nat)(w:World)(hr:Rd w .u32 (yT ao P.d ca) (Dg.dg 4294967296 P.d)):
  yC 76 #[dsk k wy,ypV P.s (yT ao P.d ca) P.p P.ex P.ov P.un] w (B6 w (pG k wy P).1 (pG k wy P).2.1 (pG k wy P).2.2.1 (pG k wy P).2.2.2.1 (pG k wy P).2.2.2.2):=by
 obtain⟨ps,pd,pp,ex,ov,un⟩:=P;unfold pG;simp only at hr⊢
 cases ov
 ·rw[if_neg (by decide)]
  by_cases hl:un=true∧pp<lsI k
  ·rw[if_pos hl]
   obtain⟨rfl,hl⟩:=hl;exact OU _ _ _ _ _ _ _ _ _ _ _ _ _ _ w hl
  ·rw[if_neg hl]
   have hz:(if pd=0 then(1:Int) else 2)=if(Dg.dg 4294967296 pd).length=0 then 1 else 2:=by
    by_cases h:pd=0
    ·rw[if_pos h,if_pos (by rw[h];rfl)]
    ·rw[if_neg h,if_neg (fun c=>h ((Dg.dg_nil_iff 4294967296 pd (by omega)).1 (List.length_eq_zero_iff.1 c)))]
   exact Id _ _ _ _ _ _ _ _ _ _ _ _ _ _ _ pd w rfl hr (fun h c=>hl ⟨h,c⟩) _ _ hz rfl
 ·rw[if_pos rfl]
  exact Lr _ _ _ _ _ _ _ _ _ _ _ _ _ _ _ _ _ _ _ w (fun w1 _=>Pw k hk wy hw ps w1)
def Dw (k:Nat)(c:Int)(g:Bool)(m:Nat)(p fl:Int):ByteArray×Int×Int:=
 if gI k c g (Dg.dg 4294967296 m) p=0 then(fq k c g (Dg.dg 4294967296 m) p,fl,0) else(⟨#[]⟩,0,gI k c g (Dg.dg 4294967296 m) p)
theorem CZ (k:Nat)(wy c p fl:Int)(g:Bool)(m:Nat)(ao:Option Addr)(ca:Nat)(w:World)(hr:Rd w .u32 (yT ao m ca) (Dg.dg 4294967296 m))(hT:Tab w):
  yC 75 #[dsk k wy,yvV c g (yT ao m ca) p,yi fl] w (mM (Dw k c g m p fl) w):=by
 have:=It k wy (dK k) (rdN k) (dgN k) (lsI k) (gsI k) c p fl _ (decide (k≤3)) g ao (Dg.dg 4294967296 m).length ca _ w (fun w1 b1=>jj k c g ao ca (Dg.dg 4294967296 m) p w1 (hr.l b1) (Dg.small_dg _ _ (by omega)) (hT.l b1))
 refine this.mono (fun z w' h=>⟨?_,h.2⟩)
 rw[h.1];unfold Dw
 by_cases c0:gI k c g (Dg.dg 4294967296 m) p=0
 ·rw[if_pos c0,if_pos c0]
 ·rw[if_neg c0,if_neg c0]
theorem cread_err (n wy c p er:Int)(g:Bool)(m:Nat)(t:ak)(s:ByteArray)(w:World)(he: ¬er=0)(HR: ∀w1,yB w w1→yC 61 #[yi n,.string s] w1 (Ys w1 c g m p t er)):
  yC 30 #[yi n,.string s,yi wy] w (CRes w 0 false 0 0 ⟨false,0,0⟩ er):=by
 replace HR:Hid _:=HR;obtain⟨W4,hW5,q1,q2,b3⟩:=iG w (yvL 0 false yN 0) 68 (ydL false yN 0) 76;replace hW5:Hid _:=hW5
 go_enter func30,ntmps30
 go_upto_region 1 with fail
 rw[hW5.out];clear hW5
 go_wp2_with fail
 refine(HR.out _ b3).mono ?_;rintro zz w6 ⟨v18,v29,rfl,r110,r211,-,bb7⟩;have q12:=q1.l bb7;have q13:=q2.l bb7;have b14:=aa b3 bb7;obtain⟨vo,vc,hv⟩:=r110.shape;subst hv;obtain⟨xo,xc,hv⟩:=r211.shape;subst hv;clear q1 q2 b3 bb7 HR;obtain⟨W17,hW16,q18,q19,al15⟩:=iG w6 (yvL c g (yT vo m vc) p) 68 (yDL t xo xc) 76;replace hW16:Hid _:=hW16;have hl20:w.heap.size≤w6.heap.size:=b14.size;have hl21:=q13.lt;have q22:=q12.l al15;have q23:=q13.l al15;have r24:=r110.l al15;have r25:=r211.l al15;have b26:=aa b14 al15;clear q12 q13 r110 r211 b14 al15 q18 q19
 go_upto_region 2 with fail
 rw[hW16.out];clear hW16;have hf:=fin43 (P:=Tryz.prog) q22 q23 b26 (by omega) underlying68 rfl (by kernel_rfl) underlying76 rfl (by kernel_rfl) (by simp) (by simp) (yi 0) (.bool false) yN (yi 0) (.bool false) yN (yi 0);have HH:Hid (_∧_∧_):=⟨hf.1,hf.2.1,hf.2.2.1⟩;obtain⟨⟨z0,z1,z2,z3⟩,y0,y1,y2,y3⟩:=afB q22;obtain⟨⟨u0,u1,u2⟩,k0,k1,k2⟩:=afA q23;clear hf q22 q23 r24 r25 b26
 go_wp2
 obtain⟨hl1,hl2,bR⟩:=HH.out;exact bodyPost_ret (kg results30 rfl rfl rfl hl1 hl2) rfl ⟨_,_,rfl,aN _ _,aN _ _,bR⟩
theorem cread_low (n wy c p:Int)(g:Bool)(m:Nat)(t:ak)(s:ByteArray)(w:World)(hy:wy<1)(HR: ∀w1,yB w w1→yC 61 #[yi n,.string s] w1 (Ys w1 c g m p t 0)):
  yC 30 #[yi n,.string s,yi wy] w (CRes w 0 false 0 0 ⟨false,0,0⟩ 6):=by
 replace HR:Hid _:=HR;obtain⟨W4,hW5,q1,q2,b3⟩:=iG w (yvL 0 false yN 0) 68 (ydL false yN 0) 76;replace hW5:Hid _:=hW5
 go_enter func30,ntmps30
 go_upto_region 1 with fail
 rw[hW5.out];clear hW5
 go_wp2_with fail
 refine(HR.out _ b3).mono ?_;rintro zz w6 ⟨v18,v29,rfl,r110,r211,-,bb7⟩;have q12:=q1.l bb7;have q13:=q2.l bb7;have b14:=aa b3 bb7;obtain⟨vo,vc,hv⟩:=r110.shape;subst hv;obtain⟨xo,xc,hv⟩:=r211.shape;subst hv;clear q1 q2 b3 bb7 HR;obtain⟨W17,hW16,q18,q19,al15⟩:=iG w6 (yvL c g (yT vo m vc) p) 68 (yDL t xo xc) 76;replace hW16:Hid _:=hW16;have hl20:w.heap.size≤w6.heap.size:=b14.size;have hl21:=q13.lt;have q22:=q12.l al15;have q23:=q13.l al15;have r24:=r110.l al15;have r25:=r211.l al15;have b26:=aa b14 al15;clear q12 q13 r110 r211 b14 al15 q18 q19
 go_upto_region 2 with fail
 rw[hW16.out];clear hW16;have hf:=fin43 (P:=Tryz.prog) q22 q23 b26 (by omega) underlying68 rfl (by kernel_rfl) underlying76 rfl (by kernel_rfl) (by simp) (by simp) (yi 0) (.bool false) yN (yi 0) (.bool false) yN (yi 0);have HH:Hid (_∧_∧_):=⟨hf.1,hf.2.1,hf.2.2.1⟩;obtain⟨⟨z0,z1,z2,z3⟩,y0,y1,y2,y3⟩:=afB q22;obtain⟨⟨u0,u1,u2⟩,k0,k1,k2⟩:=afA q23;clear hf q22 q23 r24 r25 b26
 go_wp2
 obtain⟨hl1,hl2,bR⟩:=HH.out;exact bodyPost_ret (kg results30 rfl rfl rfl hl1 hl2) rfl ⟨_,_,rfl,aN _ _,aN _ _,bR⟩
theorem cread_high (n wy c p:Int)(g:Bool)(m:Nat)(t:ak)(s:ByteArray)(w:World)(hy: ¬wy<1)(hz:5<wy)(HR: ∀w1,yB w w1→yC 61 #[yi n,.string s] w1 (Ys w1 c g m p t 0)):
  yC 30 #[yi n,.string s,yi wy] w (CRes w 0 false 0 0 ⟨false,0,0⟩ 6):=by
 replace HR:Hid _:=HR;obtain⟨W4,hW5,q1,q2,b3⟩:=iG w (yvL 0 false yN 0) 68 (ydL false yN 0) 76;replace hW5:Hid _:=hW5
 go_enter func30,ntmps30
 go_upto_region 1 with fail
 rw[hW5.out];clear hW5
 go_wp2_with fail
 refine(HR.out _ b3).mono ?_;rintro zz w6 ⟨v18,v29,rfl,r110,r211,-,bb7⟩;have q12:=q1.l bb7;have q13:=q2.l bb7;have b14:=aa b3 bb7;obtain⟨vo,vc,hv⟩:=r110.shape;subst hv;obtain⟨xo,xc,hv⟩:=r211.shape;subst hv;clear q1 q2 b3 bb7 HR;obtain⟨W17,hW16,q18,q19,al15⟩:=iG w6 (yvL c g (yT vo m vc) p) 68 (yDL t xo xc) 76;replace hW16:Hid _:=hW16;have hl20:w.heap.size≤w6.heap.size:=b14.size;have hl21:=q13.lt;have q22:=q12.l al15;have q23:=q13.l al15;have r24:=r110.l al15;have r25:=r211.l al15;have b26:=aa b14 al15;clear q12 q13 r110 r211 b14 al15 q18 q19
 go_upto_region 2 with fail
 rw[hW16.out];clear hW16;have hf:=fin43 (P:=Tryz.prog) q22 q23 b26 (by omega) underlying68 rfl (by kernel_rfl) underlying76 rfl (by kernel_rfl) (by simp) (by simp) (yi 0) (.bool false) yN (yi 0) (.bool false) yN (yi 0);have HH:Hid (_∧_∧_):=⟨hf.1,hf.2.1,hf.2.2.1⟩;obtain⟨⟨z0,z1,z2,z3⟩,y0,y1,y2,y3⟩:=afB q22;obtain⟨⟨u0,u1,u2⟩,k0,k1,k2⟩:=afA q23;clear hf q22 q23 r24 r25 b26
 go_wp2
 obtain⟨hl1,hl2,bR⟩:=HH.out;exact bodyPost_ret (kg results30 rfl rfl rfl hl1 hl2) rfl ⟨_,_,rfl,aN _ _,aN _ _,bR⟩
theorem acu {k:Nat}(hk:1≤k∧k≤8){p:ByteArray}(h:dF k p=0):
  opT k p=rfT k p∧dz k p=rfG k p∧bM k p=dh k (aZ k p) (aR k p) (aU k p)∧rfT k p=nxT k p:=by
 unfold opT rfT dz rfG bM nxT;rw[if_pos h,if_pos h,if_pos h,Int.toNat_natCast,Nu hk];exact⟨rfl,rfl,rfl,rfl⟩
theorem opn_right {n way:Int}{ps:List ByteArray}(h:CK n way ps=0): ∃k:Nat,(1≤k∧k≤8)∧n=(k:Int)∧dK n≠0∧fT n ps=0∧1≤way∧way≤5:=by
 unfold CK at h
 by_cases hf:dK n=0
 ·rw[if_pos hf] at h
  exact absurd h (by decide)
 rw[if_neg hf] at h;obtain⟨k1,k2,k3⟩:=fF hf;refine⟨n.toNat,⟨k1,k2⟩,k3.symm,hf, ?_⟩
 by_cases he:fT n ps=0
 ·rw[if_pos he] at h
  cases hw:iC way
  ·rw[hw] at h
   exact absurd h (by decide)
  ·exact⟨he,way_is.1 hw⟩
 ·rw[if_neg he] at h
  exact absurd h he
def fitT (k:Nat)(way:Int)(qs:Bool)(xs ys:List Nat)(E:Int):ByteArray×Int×Int:=
 if eE xs ys E (rdN k) (dgN k) (lsI k) (gsI k) way=0 then Dw k (pG k way (df xs ys E (rdN k) (dgN k) (lsI k) (gsI k) (decide (k≤3)) qs way)).1 (pG k way (df xs ys E (rdN k) (dgN k) (lsI k) (gsI k) (decide (k≤3)) qs way)).2.1 (pG k way (df xs ys E (rdN k) (dgN k) (lsI k) (gsI k) (decide (k≤3)) qs way)).2.2.1 (pG k way (df xs ys E (rdN k) (dgN k) (lsI k) (gsI k) (decide (k≤3)) qs way)).2.2.2.1 (pG k way (df xs ys E (rdN k) (dgN k) (lsI k) (gsI k) (decide (k≤3)) qs way)).2.2.2.2
 else(⟨#[]⟩,0,eE xs ys E (rdN k) (dgN k) (lsI k) (gsI k) way)
theorem or_set (k:Nat)(wy:Int)(P:fz):bits .or .i64 0 (pG k wy P).2.2.2.2=(pG k wy P).2.2.2.2:=by
 unfold pG
 split
 ·show bits .or .i64 0 5=5
  rfl
 ·split
  ·show bits .or .i64 0 3=3
   rfl
  ·show bits .or .i64 0 (if P.ex=true then 0 else if P.un=true then 3 else 1)=if P.ex=true then 0 else if P.un=true then 3 else 1
   split
   ·rfl
   ·split<;>rfl
def pat3:ByteArray:=(fitT 4 1 false (Dg.dg 4294967296 3) [1] 0).1
theorem pat3_fit:fitT 4 1 false (Dg.dg 4294967296 3) [1] 0=(pat3,0,0):=by
 have h1:(fitT 4 1 false (Dg.dg 4294967296 3) [1] 0).2.1=0:=by kernel_rfl
 have h2:(fitT 4 1 false (Dg.dg 4294967296 3) [1] 0).2.2=0:=by kernel_rfl
 unfold pat3;generalize fitT 4 1 false (Dg.dg 4294967296 3) [1] 0=r at*;obtain⟨a,b,c⟩:=r;simp only at h1 h2;rw[h1,h2]
theorem pat3_dec:dF 4 pat3=0∧bM 4 pat3=2∧opT 4 pat3=⟨false,3,0⟩:=by
 refine⟨?_, ?_, ?_⟩<;>kernel_rfl
theorem dec_of {k:Nat}(hk:1≤k∧k≤8){c:Int}{g:Bool}{m:Nat}{p fl:Int}(h:(Dw k c g m p fl).2.2=0):
  dF k (Dw k c g m p fl).1=0∧((bM k (Dw k c g m p fl).1:Nat):Int)=c∧dz k (Dw k c g m p fl).1=g∧opT k (Dw k c g m p fl).1=if c=2 then bare ⟨g,m,(ai (rdN k):Int)*p⟩ else⟨false,0,0⟩:=by
 unfold Dw at h⊢
 by_cases he:gI k c g (Dg.dg 4294967296 m) p=0
 rotate_left
 ·rw[if_neg he] at h
  exact absurd h he
 rw[if_pos he];obtain⟨e1,e2,e3,e4,e5,e6,e7⟩:=oJ hk (Dg.small_dg _ _ (by omega)) he;simp only;have hp:=nj hk e1;refine⟨hp, ?_, ?_, ?_⟩
 ·unfold bM
  rw[if_pos hp,Int.toNat_natCast];exact e2
 ·unfold dz
  rw[if_pos hp,Int.toNat_natCast];exact e3
 ·unfold opT nxT
  rw[if_pos hp,Int.toNat_natCast]
  by_cases hc:c=2
  ·rw[if_pos hc]
   obtain⟨-,f1,f2,f3⟩:=e6 hc;rw[iq hk e4 e5 (by omega),wQ hk,f1,f3,Dg.vl_dg _ _ (by omega)]
  ·rw[if_neg hc]
   exact Fm hk (by omega)
end Go.Proofs.YtddkchlamdhgcaaGreatDoor
