/-
  Texts laid together: Ty15, DyCs.
-/
import Derived.Test.YtpgijbdgljkeeaaGreatDoorTie
import Derived.Test.YtpgijbdgljkeeaaGreatDoorCards
import Derived.Test.YtpgijbdgljkeeaaGreatDoorUe10
import Derived.Test.YtpgijbdgljkeeaaGreatDoorUe11
set_option maxRecDepth 100000
namespace Go.Proofs.YtpgijbdgljkeeaaGreatDoor
open Go.RowKit
theorem mk_ps {n:Int}{t md:ByteArray}(h:mkB n t md=true):psV n t 1=(md,(psV n t 1).2.1,0):=by
 unfold mkB at h;obtain⟨h1,h2⟩:=Bool.and_eq_true_iff.1 h;have e:=eq_of_beq h2;rw[ByteArray.toList_eq,ByteArray.toList_eq] at e;have e1:=WideShapes.bytes_inj e;have e2:=of_decide_eq_true h1;rw[←e1,←e2]
theorem shV_pat {n:Int}{s:ByteArray}(h:(shV n s).2=0):dF n s=0:=by
 unfold shV at h
 by_cases hp:dF n s=0
 ·exact hp
 ·rw[if_pos hp] at h
  exact absurd h hp
theorem sh_facts {k:Nat}(hk:1≤k∧k≤8){s:ByteArray}(h:(shV k s).2=0)(hc:bM k s=2):
  gI k 2 (dz k s) (Dg.dg 4294967296 (gJ k s)) (iF k s)=0∧shM k s=fq k 2 (dz k s) (Dg.dg 4294967296 (gJ k s)) (iF k s)∧
  (shV k s).1=ptS k s (shK k s)∧1≤shK k s∧shK k s≤21∧mkB k (ptS k s (shK k s)) (shM k s)=true∧ ∀j,1≤j→j<shK k s→mkB k (ptS k s j) (shM k s)=false:=by
 have hp:=shV_pat h;have hcc:((bM k s:Nat):Int)=2:=by omega
 have hw:(wdV ((bM k s:Nat):Int)).2.2=false:=by rw[hcc];rfl
 have hM:shM k s=fq k 2 (dz k s) (Dg.dg 4294967296 (gJ k s)) (iF k s):=by
  unfold shM;rw[hcc]
 unfold shV at h⊢;rw[if_neg (fun c=>c hp),if_neg (by rw[hw];decide)] at h⊢
 have hE:shE k s=0:=by
  by_cases c:shE k s=0
  ·exact c
  ·rw[if_pos c] at h
   exact h
 rw[if_neg (fun c=>c hE)]
 have he:gI k 2 (dz k s) (Dg.dg 4294967296 (gJ k s)) (iF k s)=0:=by
  have:=hE;unfold shE at this
  rwa [hcc] at this
 obtain⟨i1,i2,i3,i4⟩:=shF_spec (fun j=>mkB k (ptS k s j) (shM k s)) 59 1
 have e21:mkB k (ptS k s 21) (shM k s)=true:=by
  obtain⟨fl,h⟩:=print_back hk hp hc he (j:=21) (by omega) (by omega) (bits_fit hk);unfold mkB;rw[h,hM];simp
 have hKK:shK k s=shF (fun j=>mkB k (ptS k s j) (shM k s)) 59 1:=rfl
 rw[←hKK] at i1 i2 i3 i4;have hK21:shK k s≤21:=by
  rcases Nat.lt_or_ge 21 (shK k s) with c|c
  ·have:mkB k (ptS k s 21) (shM k s)=false:=i3 21 (by omega) c
   rw[e21] at this
   cases this
  ·exact c
 exact⟨he,hM,rfl,i1,hK21,i4 (by omega),i3⟩
theorem sh_dec {k:Nat}(hk:1≤k∧k≤8){s:ByteArray}(hp:dF k s=0)(hc:bM k s=2)(he:gI k 2 (dz k s) (Dg.dg 4294967296 (gJ k s)) (iF k s)=0){t:ByteArray}(ht:fq k 2 (dz k s) (Dg.dg 4294967296 (gJ k s)) (iF k s)=t):
  dF k t=0∧bM k t=2∧dz k t=dz k s∧gJ k t=gJ k s∧iF k t=iF k s:=by
 have hcl:dh k (aZ k s) (aR k s) (aU k s)=2:=by
  unfold bM at hc
  rwa [if_pos hp,Int.toNat_natCast] at hc
 have dG:dz k s=kt k (aZ k s) (aR k s) (aU k s):=by unfold dz;rw[if_pos hp,Int.toNat_natCast]
 have dM:gJ k s=ge k (aZ k s) (aR k s) (aU k s):=by unfold gJ;rw[if_pos hp,Int.toNat_natCast]
 have dP:iF k s=gw k (aZ k s) (aR k s) (aU k s):=by unfold iF;rw[if_pos hp,Int.toNat_natCast]
 have hmd:Dw k 2 (dz k s) (gJ k s) (iF k s) 0=(fq k 2 (dz k s) (Dg.dg 4294967296 (gJ k s)) (iF k s),0,0):=if_pos he;have hpt:dF k t=0:=by
  have:=(dec_of hk (c:=2) (g:=dz k s) (m:=gJ k s) (p:=iF k s) (fl:=0) (by rw[hmd])).1;rw[hmd] at this;rw[←ht];exact this
 rw[dG,dM,dP] at he ht;obtain⟨-,a2,a3,a4,a5⟩:=Ut hk (t:=t) (by rw[hcl];exact he) (by rw[hcl];exact ht);rw[dG,dM,dP];unfold bM dz gJ iF;rw[if_pos hpt,if_pos hpt,if_pos hpt,if_pos hpt,Int.toNat_natCast];exact⟨hpt,a2.trans hcl,a3,a4,a5⟩
theorem pt_num {k:Nat}{s:ByteArray}(hp:dF k s=0)(hc:bM k s=2){j:Nat}(j1:1≤j)(j2:j≤60):ptV k s j=(ptS k s j,0):=by
 unfold ptV;rw[if_neg (fun c=>c hp),if_neg (by omega),show((bM k s:Nat):Int)=2 by omega,if_neg (by decide),Int.toNat_natCast]
theorem textBack_walk n (s:ByteArray)(w:World)(hT:TxW w):yC 7 #[yi n,.string s] w (yR w (.bool true)):=by
 have HB:=fun w1 (h:yB w w1)=>textBegun_any w1 (hT.l h)
 have HS:=fun w1 (h:yB w w1)=>tShortest_any n s w1 (hT.l h)
 by_cases h0:(shV n s).2=0
 rotate_left
 ·exact tback_err _ _ n s w h0 HB HS
 have hp:=shV_pat h0;rw[h0] at HS;have HC:=fun w1=>vF n s w1 hp
 by_cases hc:((bM n s:Nat):Int)=2
 rotate_left
 ·exact tback_cls _ _ n s w hc HB HS HC
 rw[hc] at HC;have hf:dK n≠0:=fun hf=>by
  unfold dF at hp;rw[if_pos hf] at hp;omega
 obtain⟨j1,j2,j3⟩:=fF hf;obtain⟨k,rfl⟩: ∃i:Nat,n=(i:Int):=⟨n.toNat,j3.symm⟩;rw[Int.toNat_natCast] at j1 j2;have hk:1≤k∧k≤8:=⟨j1,j2⟩;have hc2:bM (k:Int) s=2:=by omega
 obtain⟨he,hM,hV,k1,k21,hm,-⟩:=sh_facts hk h0 hc2;obtain⟨m1,m2,m3,m4,m5⟩:=sh_dec hk hp hc2 he hM.symm;have HD: ∀w1,yB w w1→yC 26 #[yi (k:Int),.string s] w1 (eP w1 2 (dz (k:Int) s) (gJ (k:Int) s) (iF (k:Int) s) 0):=fun w1 _=>by
  have:=fR (k:Int) s w1
  rwa [hp,hc] at this
 have HE: ∀w1,yB w w1→yC 26 #[yi (k:Int),.string (shM (k:Int) s)] w1 (eP w1 2 (dz (k:Int) s) (gJ (k:Int) s) (iF (k:Int) s) 0):=fun w1 _=>by
  have:=fR (k:Int) (shM (k:Int) s) w1
  rwa [m1,m2,m3,m4,m5] at this
 have HP:yH w 13 #[yi (k:Int),.string (shV (k:Int) s).1,yi 1] (.tuple #[.string (shM (k:Int) s),yi (psV (k:Int) (ptS (k:Int) s (shK (k:Int) s)) 1).2.1,yi 0]):=fun w1 b=>by
  have:=tParse_any (k:Int) (ptS (k:Int) s (shK (k:Int) s)) 1 w1 (hT.l b);rw[hV];rw[mk_ps hm] at this;exact this
 have HV: ∀ao ac bo bc w1,yB w w1→Rd w1 .u32 (.slice ao (Dg.dg 4294967296 (gJ (k:Int) s)).length ac) (Dg.dg 4294967296 (gJ (k:Int) s))→Rd w1 .u32 (.slice bo (Dg.dg 4294967296 (gJ (k:Int) s)).length bc) (Dg.dg 4294967296 (gJ (k:Int) s))→yC 28 #[yvV 2 (dz (k:Int) s) (.slice ao (Dg.dg 4294967296 (gJ (k:Int) s)).length ac) (iF (k:Int) s),yvV 2 (dz (k:Int) s) (.slice bo (Dg.dg 4294967296 (gJ (k:Int) s)).length bc) (iF (k:Int) s)] w1 (yR w1 (.bool true)):=fun ao ac bo bc w1 _ ra rb=>
  iO 2 (iF (k:Int) s) (dz (k:Int) s) ao bo _ ac bc w1 ra rb
 have PR: ∀j:Nat,1≤j→j≤60→yH w 19 #[yi (k:Int),.string s,yi (j:Int)] (.tuple #[.string (ptS (k:Int) s j),yi 0]):=fun j a1 a2 w1 b=>by
  have:=tPrint_any (k:Int) s (j:Int) w1 (hT.l b)
  rwa [pt_num hp hc2 a1 a2] at this
 have PA: ∀j:Nat,1≤j→j≤60→2^ (ai (rdN k)*dgN k)<10^ (j-1)→ ∃fl,yH w 13 #[yi (k:Int),.string (ptS (k:Int) s j),yi 1] (.tuple #[.string (shM (k:Int) s),yi fl,yi 0]):=fun j a1 a2 a3=>by
  obtain⟨fl,h⟩:=print_back hk hp hc2 he a1 a2 a3;refine⟨fl,fun w1 b=> ?_⟩
  have:=tParse_any (k:Int) (ptS (k:Int) s j) 1 w1 (hT.l b);rw[h,←hM] at this;exact this
 clear hV m1 m2 m3 m4 m5 hm hc hc2 he hM k1 k21 h0 hp
 rcases bO hk with rfl|rfl|rfl|rfl|rfl|rfl|rfl|rfl
 ·obtain⟨fl,h⟩:=PA 9 (by decide) (by decide) (by decide)
  exact tback_1 _ _ _ _ fl _ _ _ _ s w HB HS HC HD HP (fun w1 _=>choose9_1 w1) (PR 9 (by decide) (by decide)) h HE HV
 ·obtain⟨fl,h⟩:=PA 17 (by decide) (by decide) (by decide)
  exact tback_2 _ _ _ _ fl _ _ _ _ s w HB HS HC HD HP (fun w1 _=>choose9_2 w1) (PR 17 (by decide) (by decide)) h HE HV
 ·obtain⟨fl,h⟩:=PA 21 (by decide) (by decide) (by decide)
  exact tback_3 _ _ _ _ fl _ _ _ _ s w HB HS HC HD HP (fun w1 _=>choose9_3 w1) (PR 21 (by decide) (by decide)) h HE HV
 ·obtain⟨fl,h⟩:=PA 9 (by decide) (by decide) (by decide)
  exact tback_4 _ _ _ _ fl _ _ _ _ s w HB HS HC HD HP (fun w1 _=>choose9_4 w1) (PR 9 (by decide) (by decide)) h HE HV
 ·obtain⟨fl,h⟩:=PA 18 (by decide) (by decide) (by decide)
  exact tback_5 _ _ _ _ fl _ _ _ _ s w HB HS HC HD HP (fun w1 _=>choose9_5 w1) (PR 18 (by decide) (by decide)) h HE HV
 ·obtain⟨fl,h⟩:=PA 9 (by decide) (by decide) (by decide)
  exact tback_6 _ _ _ _ fl _ _ _ _ s w HB HS HC HD HP (fun w1 _=>choose9_6 w1) (PR 9 (by decide) (by decide)) h HE HV
 ·obtain⟨fl,h⟩:=PA 18 (by decide) (by decide) (by decide)
  exact tback_7 _ _ _ _ fl _ _ _ _ s w HB HS HC HD HP (fun w1 _=>choose9_7 w1) (PR 18 (by decide) (by decide)) h HE HV
 ·obtain⟨fl,h⟩:=PA 17 (by decide) (by decide) (by decide)
  exact tback_8 _ _ _ _ fl _ _ _ _ s w HB HS HC HD HP (fun w1 _=>choose9_8 w1) (PR 17 (by decide) (by decide)) h HE HV
theorem textNoShorter_walk n (s:ByteArray)(w:World)(hT:TxW w):yC 8 #[yi n,.string s] w (yR w (.bool true)):=by
 have HB:=fun w1 (h:yB w w1)=>textBegun_any w1 (hT.l h)
 have HS:=fun w1 (h:yB w w1)=>tShortest_any n s w1 (hT.l h)
 by_cases h0:(shV n s).2=0
 rotate_left
 ·exact tnosh_err _ _ n s w h0 HB HS
 have hp:=shV_pat h0;rw[h0] at HS;have HC:=fun w1=>vF n s w1 hp
 by_cases hc:((bM n s:Nat):Int)=2
 rotate_left
 ·exact tnosh_cls _ _ n s w hc HB HS HC
 rw[hc] at HC;have hf:dK n≠0:=fun hf=>by
  unfold dF at hp;rw[if_pos hf] at hp;omega
 obtain⟨j1,j2,j3⟩:=fF hf;obtain⟨k,rfl⟩: ∃i:Nat,n=(i:Int):=⟨n.toNat,j3.symm⟩;rw[Int.toNat_natCast] at j1 j2;have hk:1≤k∧k≤8:=⟨j1,j2⟩;have hc2:bM (k:Int) s=2:=by omega
 obtain⟨he,hM,hV,k1,k21,hm,hlt⟩:=sh_facts hk h0 hc2;have hw:(wdV ((bM (k:Int) s:Nat):Int)).2.2=false:=by rw[hc];rfl
 obtain⟨x1,x2,x3,x4⟩:=num_of hp hw;rw[hV] at HS;have PR: ∀j:Nat,1≤j→j≤60→yH w 19 #[yi (k:Int),.string s,yi (j:Int)] (.tuple #[.string (ptS (k:Int) s j),yi 0]):=fun j a1 a2 w1 b=>by
  have:=tPrint_any (k:Int) s (j:Int) w1 (hT.l b)
  rwa [pt_num hp hc2 a1 a2] at this
 obtain⟨K,hK⟩: ∃K,shK (k:Int) s=K:=⟨_,rfl⟩;rw[hK] at HS hm hlt k1 k21;obtain⟨s1,s2⟩:=prR_nm (opT (k:Int) s).s x1 x2 x3 x4 k1 (show K≤60 by omega)
 obtain⟨v1,-⟩:=dgS_val x1 x2 x3 x4 k1 (show K≤60 by omega)
 have hP:=dcP_in x1 x2 x3 x4;have hNr: -5900<prN (dcH (opT (k:Int) s)) (dcC (opT (k:Int) s)) (dcP (opT (k:Int) s)) K∧prN (dcH (opT (k:Int) s)) (dcC (opT (k:Int) s)) (dcP (opT (k:Int) s)) K<5900:=by
  unfold prN
  split<;>omega
 have nm:=nuS_nm (opT (k:Int) s).s (dgS (opT (k:Int) s) K) _ v1 (by omega) (by omega) hNr.1 hNr.2;rw[←s2] at nm;have nm':nmV (ptS (k:Int) s K)=_:=nm;have hsz:(ptS (k:Int) s K).size≤400:=by
  rcases Nat.lt_or_ge 400 (ptS (k:Int) s K).size with c|c
  ·unfold nmV at nm'
   rw[if_pos c] at nm';have:(2:Int)=0:=congrArg Prod.snd nm';omega
  ·exact c
 have hnu:nuL (undash (ptS (k:Int) s K)).data.toList=some ((dgS (opT (k:Int) s) K).data.toList,prN (dcH (opT (k:Int) s)) (dcC (opT (k:Int) s)) (dcP (opT (k:Int) s)) K-(((dgS (opT (k:Int) s) K).size-1:Nat):Int)):=by
  rw[nu_nm];rw[nm_list _ hsz] at nm'
  cases h:nmL (undash (ptS (k:Int) s K)).data.toList with
  |none=>
   rw[h] at nm';have:(1:Int)=0:=congrArg Prod.snd nm';omega
  |some q=>
   obtain⟨d,p⟩:=q;rw[h] at nm';simp only at nm'
   by_cases c:p< -6000∨6000<p
   ·rw[if_pos c] at nm'
    have:(3:Int)=0:=congrArg Prod.snd nm';omega
   ·rw[if_neg c] at nm'
    have e1:=congrArg (fun r=>r.1.2.1) nm'
    have e2:=congrArg (fun r=>r.1.2.2) nm'
    simp only at e1 e2;rw[←e2,←e1]
 have HN:yH w 29 #[.string (ptS (k:Int) s K)] (.tuple #[.bool (dash (ptS (k:Int) s K)),.string (dgS (opT (k:Int) s) K),yi (prN (dcH (opT (k:Int) s)) (dcC (opT (k:Int) s)) (dcP (opT (k:Int) s)) K-(((dgS (opT (k:Int) s) K).size-1:Nat):Int)),.bool true]):=fun w1 _=>by
  refine(numeral_any (ptS (k:Int) s K) w1 hsz).mono fun z w' h=> ?_
  obtain⟨rfl,g,d,p,ok,rfl,h⟩:=h
  rcases h with⟨h,-⟩| ⟨D,P,h,rfl,rfl,rfl,rfl⟩
  ·rw[hnu] at h
   cases h
  ·rw[hnu] at h
   injection h with h
   injection h with h1 h2
   subst h1;subst h2;rw[mk_list];exact⟨rfl,Below.refl _ _⟩
 have HP:=PR K k1 (by omega);have es:((dgS (opT (k:Int) s) K).size:Int)=(K:Int):=by omega
 rw[←es] at HP
 by_cases h2:(dgS (opT (k:Int) s) K).size<2
 ·exact tnosh_one _ _ _ _ (k:Int) s w h2 HB HS HC HN HP
 have j1':1≤K-1:=by omega
 obtain⟨r0,δ,Q',m,M0,p,r1,r2,m0,M00,r3,r4⟩:=print_ra x1 x2 x3 x4 j1' (show K-1≤60 by omega)
 have hN0:m/2^tz m≠0:=fun c=>by
  have:=(odd_of m0).1;omega
 have hpt:ptS (k:Int) s (K-1)=prR (opT (k:Int) s).s (dcH (opT (k:Int) s)) (dcC (opT (k:Int) s)) (dcP (opT (k:Int) s)) (K-1):=rfl;rw[←hpt] at r0 r4;have hN:(raV (ptS (k:Int) s (K-1))).2.1≠0:=by rw[r4];exact hN0
 obtain⟨-,-,n0,-,-,-,-⟩:=raV_in r0;have hfit:=ps_fit hk r0 hN;have hS:=(same_plc hk 1 _ (rnd_of hk (raV (ptS (k:Int) s (K-1))).1 (raV (ptS (k:Int) s (K-1))).2.1 (raV (ptS (k:Int) s (K-1))).2.2.1 (raV (ptS (k:Int) s (K-1))).2.2.2 1 hN n0)).1;rw[or_set,←hfit] at hS;have hbad:=hlt (K-1) j1' (by omega);have hpa:psV (k:Int) (ptS (k:Int) s (K-1)) 1=((psV (k:Int) (ptS (k:Int) s (K-1)) 1).1,(psV (k:Int) (ptS (k:Int) s (K-1)) 1).2.1,0):=by rw[←hS]
 obtain⟨r,hr⟩: ∃r,(psV (k:Int) (ptS (k:Int) s (K-1)) 1).1=r:=⟨_,rfl⟩;obtain⟨u,hu⟩: ∃u,pG k 1 (cI (rdN k) (dgN k) (lsI k) (gsI k) (decide (k≤3)) (raV (ptS (k:Int) s (K-1))).1 (raV (ptS (k:Int) s (K-1))).2.1 (raV (ptS (k:Int) s (K-1))).2.2.1 (raV (ptS (k:Int) s (K-1))).2.2.2 1)=u:=⟨_,rfl⟩;rw[hu] at hfit;rw[hfit] at hS;obtain⟨y1,y2,y3,y4⟩:=dec_of hk hS;rw[←hfit,hr] at y1 y2 y3;have hez:gI (k:Int) u.1 u.2.1 (Dg.dg 4294967296 u.2.2.1) u.2.2.2.1=0:=by
  unfold Dw at hS
  by_cases c:gI (k:Int) u.1 u.2.1 (Dg.dg 4294967296 u.2.2.1) u.2.2.2.1=0
  ·exact c
  ·rw[if_neg c] at hS
   exact absurd hS c
 have hrs:fq (k:Int) u.1 u.2.1 (Dg.dg 4294967296 u.2.2.1) u.2.2.2.1=r:=by
  rw[←hr,hfit];unfold Dw;rw[if_pos hez]
 obtain⟨-,a2⟩:=Jj hk (Dg.small_dg _ _ (by omega)) hez r hrs;have dM:gJ (k:Int) r=ge k (aZ k r) (aR k r) (aU k r):=by unfold gJ;rw[if_pos y1,Int.toNat_natCast]
 have dP:iF (k:Int) r=gw k (aZ k r) (aR k r) (aU k r):=by unfold iF;rw[if_pos y1,Int.toNat_natCast]
 rw[←dM,←dP,←y3,←y2] at a2;have hne:r≠shM (k:Int) s:=fun c=>by
  unfold mkB at hbad;rw[hpa,hr,c] at hbad;simp at hbad
 have HD: ∀w1,yB w w1→yC 26 #[yi (k:Int),.string s] w1 (eP w1 2 (dz (k:Int) s) (gJ (k:Int) s) (iF (k:Int) s) 0):=fun w1 _=>by
  have:=fR (k:Int) s w1
  rwa [hp,hc] at this
 have HE: ∀w1,yB w w1→yC 26 #[yi (k:Int),.string r] w1 (eP w1 ((bM (k:Int) r:Nat):Int) (dz (k:Int) r) (gJ (k:Int) r) (iF (k:Int) r) 0):=fun w1 _=>by
  have:=fR (k:Int) r w1
  rwa [y1] at this
 have HR:yH w 13 #[yi (k:Int),.string (ptS (k:Int) s (K-1)),yi 1] (.tuple #[.string r,yi (psV (k:Int) (ptS (k:Int) s (K-1)) 1).2.1,yi 0]):=fun w1 b=>by
  have:=tParse_any (k:Int) (ptS (k:Int) s (K-1)) 1 w1 (hT.l b);rw[hpa,hr] at this;exact this
 have HQ:=PR (K-1) j1' (by omega);refine tnosh_two (dz (k:Int) s) (dz (k:Int) r) (gJ (k:Int) s) (gJ (k:Int) r) (iF (k:Int) s) (iF (k:Int) r) ((bM (k:Int) r:Nat):Int) ((K-1:Nat):Int) _ _ r _ _ _ _ (k:Int) s w h2 (by rw[es,IntWalk.i64_in _ ⟨by omega,by omega⟩];omega) HB HS HC HN HP HQ HR HD HE (fun ao ac bo bc w1 _ ra rb=> ?_)
 by_cases q1:(2:Int)=((bM (k:Int) r:Nat):Int)
 rotate_left
 ·exact sameV_c 2 _ _ _ _ _ _ _ ao bo ac bc w1 ra rb (by rw[beq_eq_false_iff_ne];exact q1)
 rw[←q1] at a2⊢
 by_cases q2:dz (k:Int) s=dz (k:Int) r
 rotate_left
 ·exact sameV_g 2 _ _ _ _ _ _ ao bo ac bc w1 ra rb (by rw[beq_eq_false_iff_ne];exact q2)
 rw[←q2] at a2⊢
 by_cases q3:iF (k:Int) s=iF (k:Int) r
 rotate_left
 ·exact sameV_p 2 _ _ _ _ _ ao bo ac bc w1 ra rb (by rw[beq_eq_false_iff_ne];exact q3)
 rw[←q3] at a2⊢;refine sameV_m false 2 _ _ _ _ ao bo ac bc w1 ra rb (fun w2 r5 r6=> ?_)
 have:=gM _ _ _ _ w2 r5 r6
 rwa [decide_eq_false] at this
 intro c;have:=congrArg (Dg.vl 4294967296) c;rw[Dg.vl_dg _ _ (by omega),Dg.vl_dg _ _ (by omega)] at this;rw[←this,←hM] at a2;exact hne a2.symm
end Go.Proofs.YtpgijbdgljkeeaaGreatDoor
namespace Go.Proofs.YtpgijbdgljkeeaaGreatDoor.dy
open Go.ChangeShapes Go.WideShapes Go.ChangeAt Go.RowKit Go.Joins
theorem laidOut:laidOutB Tryz.prog=true:=by kernel_rfl
theorem door_met (os:Os)(args:Array Value):laidMetH Tryz.prog Rows.textRatiosRow.laid ((World.doorLaid Tryz.prog 400 os).forCall (fun _ _=>0) ⟨#[],args,[]⟩).memory:=
 laidMetH_of_parts3 (fuel:=8) (laidMet_of_run' 8 (by kernel_rfl) (by kernel_rfl)) (by kernel_rfl) (by kernel_rfl)
theorem open_int' {H:Type}{enc:TypeId×Value→H}{W:World}{base:Nat}{v:Value}{d:DataW H}{p:List MemPlace}(hv:Value.okWide Tryz.prog W .any base 3 v)(h:DataW.Trod enc Tryz.prog W 0 (fun _=>true) true 3 v d p):
  ∃n:Int,v=yi n∧(Lit.int .i64 n).wf=true:=by
 obtain⟨n,rfl,-,-,hw⟩:=open_int Tryz.underlying3 hv h;exact⟨n,rfl,hw⟩
theorem and_mk {a b:Bool}(ha:a=true)(hb:b=true):(a&&b)=true:=by rw[ha,hb];rfl
theorem words_cut (a r:List Char)(h: ∀c∈a,c≠Char.ofNat 32):wordsSigns (a++Char.ofNat 32::r)=a::wordsSigns r:=by
 induction a with
 |nil=>rfl
 |cons c a ih=>
  have h1:c≠Char.ofNat 32:=h c (by simp);have h2:=ih (fun x hx=>h x (by simp[hx]))
  show wordsSigns (c::(a++Char.ofNat 32::r))=_
  rw[wordsSigns]
  ·rw[h2]
  ·intro e;exact h1 e
theorem initS:Tryz.prog.initOrder= "harness" ++(" " ++("a852d428f9119d5542430a37dbc93668ed18b05fa7ff4b0deebe9d9f97c84673" ++(" " ++("cut" ++(" " ++ "at slipstick/slipsticklaw.TextRatios slipstick/slipsticklaw.TextParses slipstick/slipsticklaw.TextPrints slipstick/slipsticklaw.TextShortests slipstick/slipsticklaw.TextBack slipstick/slipsticklaw.TextNoShorter"))))):=by kernel_rfl
theorem blank:(" " :String).toList=[Char.ofNat 32]:=by decide+kernel
theorem no_blank1: ∀c∈("harness" :String).toList,c≠Char.ofNat 32:=by decide+kernel
theorem no_blank2: ∀c∈("a852d428f9119d5542430a37dbc93668ed18b05fa7ff4b0deebe9d9f97c84673" :String).toList,c≠Char.ofNat 32:=by decide+kernel
theorem no_blank3: ∀c∈("cut" :String).toList,c≠Char.ofNat 32:=by decide+kernel
theorem sum_signs:isSumSigns ("a852d428f9119d5542430a37dbc93668ed18b05fa7ff4b0deebe9d9f97c84673" :String).toList=true:=by decide+kernel
theorem words_of {P:Program}{s r:String}(h:P.initOrder= "harness" ++(" " ++(s++(" " ++("cut" ++(" " ++r))))))(hn: ∀c∈s.toList,c≠Char.ofNat 32):
  wordsSigns P.initOrder.toList=("harness" :String).toList::s.toList::("cut" :String).toList::wordsSigns r.toList:=by
 rw[h,String.toList_append,String.toList_append,String.toList_append,String.toList_append,String.toList_append,String.toList_append,blank];simp only[List.singleton_append];rw[words_cut _ _ no_blank1,words_cut _ _ hn,words_cut _ _ no_blank3]
theorem main_of {P:Program}{s:List Char}{ws:List (List Char)}(h:wordsSigns P.initOrder.toList=("harness" :String).toList::s::ws)(hs:isSumSigns s=true):P.mainIs=some (true,s):=by
 unfold Program.mainIs;rw[h];simp only[hs,Bool.not_true,Bool.false_eq_true,if_false,beq_self_eq_true,if_true]
theorem cut_gc:(("cut" :String).toList==("gc" :String).toList)=false:=by decide+kernel
theorem cut_spec:(("cut" :String).toList==("spec" :String).toList)=false:=by decide+kernel
theorem lifts_of {P:Program}{s:List Char}{ws:List (List Char)}(h:wordsSigns P.initOrder.toList=("harness" :String).toList::s::("cut" :String).toList::ws)(hs:isSumSigns s=true):P.headLifts=[]:=by
 unfold Program.headLifts;rw[behind_of h hs,strip_none _ _ _ cut_none];simp
theorem make_of {P:Program}{s:List Char}{ws:List (List Char)}(h:wordsSigns P.initOrder.toList=("harness" :String).toList::s::("cut" :String).toList::ws)(hs:isSumSigns s=true):P.make=some .cut:=by
 unfold Program.make;rw[behind_of h hs];simp only[cut_gc,cut_spec,Bool.or_self,Bool.false_eq_true,if_false,beq_self_eq_true,Bool.true_or,if_true]
theorem final_of {P:Program}{s:List Char}{ws:List (List Char)}(h:wordsSigns P.initOrder.toList=("harness" :String).toList::s::("cut" :String).toList::ws)(hs:isSumSigns s=true):P.liftsFinal=false:=by
 unfold Program.liftsFinal;rw[behind_of h hs,lifts_of h hs];have e:((some ("cut" :String).toList:Option (List Char))==some ("carried" :String).toList)=false:=by decide+kernel
 simp only[List.head?_cons,e,Bool.false_and,List.contains_nil,Bool.or_self]
theorem words_is:wordsSigns Tryz.prog.initOrder.toList=("harness" :String).toList::("a852d428f9119d5542430a37dbc93668ed18b05fa7ff4b0deebe9d9f97c84673" :String).toList::("cut" :String).toList::wordsSigns ("at slipstick/slipsticklaw.TextRatios slipstick/slipsticklaw.TextParses slipstick/slipsticklaw.TextPrints slipstick/slipsticklaw.TextShortests slipstick/slipsticklaw.TextBack slipstick/slipsticklaw.TextNoShorter" :String).toList:=words_of initS no_blank2
theorem main_is:Tryz.prog.mainIs=some (true,("a852d428f9119d5542430a37dbc93668ed18b05fa7ff4b0deebe9d9f97c84673" :String).toList):=main_of words_is sum_signs
theorem make_is:Tryz.prog.make=some .cut:=make_of words_is sum_signs
theorem final_is:Tryz.prog.liftsFinal=false:=final_of words_is sum_signs
theorem enter_is:Tryz.prog.mayEnter=true:=enter_of words_is sum_signs (by kernel_rfl) (by kernel_rfl) (by kernel_rfl)
end Go.Proofs.YtpgijbdgljkeeaaGreatDoor.dy
