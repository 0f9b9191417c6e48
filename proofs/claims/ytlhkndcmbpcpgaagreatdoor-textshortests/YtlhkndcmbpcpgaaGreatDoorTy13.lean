/-
  Text: TextShortests, paid.
-/
import Derived.Test.YtlhkndcmbpcpgaaGreatDoorXs33
import Derived.Test.YtlhkndcmbpcpgaaGreatDoorXs34
namespace Go.Proofs.YtlhkndcmbpcpgaaGreatDoor
open Go.RowKit
theorem shF_spec (mk:Nat→Bool): ∀f a,a≤shF mk f a∧shF mk f a≤a+f∧(∀j,a≤j→j<shF mk f a→mk j=false)∧(shF mk f a<a+f→mk (shF mk f a)=true)
 |0,a=>⟨Nat.le_refl _,Nat.le_refl _,fun j h1 h2=>absurd (show j<a from h2) (by omega),fun h=>absurd (show a<a+0 from h) (by omega)⟩
 |f+1,a=>by
  unfold shF
  by_cases h:mk a=true
  ·rw[if_pos h]
   exact⟨Nat.le_refl _,by omega,fun j h1 h2=>by omega,fun _=>h⟩
  ·rw[if_neg h]
   obtain⟨i1,i2,i3,i4⟩:=shF_spec mk f (a+1);refine⟨by omega,by omega,fun j h1 h2=> ?_,fun h5=>i4 (by omega)⟩
   rcases Nat.lt_or_ge a j with c|c
   ·exact i3 j c h2
   ·obtain rfl:j=a:=by omega
    simpa using h
theorem plV_setV (k:Nat)(P:fz):(plV k 1 P).1=(pG k 1 P).1∧((plV k 1 P).1=2→(plV k 1 P).2.2.1=bare ⟨(pG k 1 P).2.1,(pG k 1 P).2.2.1,(ai (rdN k):Int)*(pG k 1 P).2.2.2.1⟩):=by
 unfold plV pG
 by_cases ho:P.ov=true
 ·simp only[if_pos ho]
  unfold ovV
  by_cases h3:dK k=3
  ·simp only[if_pos h3]
   first|exact⟨rfl,fun _=>rfl⟩|exact⟨trivial,fun _=>rfl⟩|exact⟨trivial,fun _=>trivial⟩|exact⟨rfl,fun c=>by cases c⟩|exact⟨trivial,fun c=>by cases c⟩
  ·simp only[if_neg h3]
   by_cases hb:dK k=1∧aaV 1 P.s=true
   ·simp only[if_pos hb]
    first|exact⟨rfl,fun _=>rfl⟩|exact⟨trivial,fun _=>rfl⟩|exact⟨trivial,fun _=>trivial⟩|exact⟨rfl,fun c=>by cases c⟩|exact⟨trivial,fun c=>by cases c⟩
   ·simp only[if_neg hb]
    first|exact⟨rfl,fun _=>rfl⟩|exact⟨trivial,fun _=>rfl⟩|exact⟨trivial,fun _=>trivial⟩|exact⟨rfl,fun c=>by cases c⟩|exact⟨trivial,fun c=>by cases c⟩
 ·simp only[if_neg ho]
  by_cases hl:P.un=true∧P.p<lsI k
  ·simp only[if_pos hl]
   first|exact⟨rfl,fun _=>rfl⟩|exact⟨trivial,fun _=>rfl⟩|exact⟨trivial,fun _=>trivial⟩|exact⟨rfl,fun c=>by cases c⟩|exact⟨trivial,fun c=>by cases c⟩
  ·simp only[if_neg hl]
   by_cases hd:P.d=0
   ·simp only[if_pos hd]
    first|exact⟨rfl,fun _=>rfl⟩|exact⟨trivial,fun _=>rfl⟩|exact⟨trivial,fun _=>trivial⟩|exact⟨rfl,fun c=>by cases c⟩|exact⟨trivial,fun c=>by cases c⟩
   ·simp only[if_neg hd]
    first|exact⟨rfl,fun _=>rfl⟩|exact⟨trivial,fun _=>rfl⟩|exact⟨trivial,fun _=>trivial⟩|exact⟨rfl,fun c=>by cases c⟩|exact⟨trivial,fun c=>by cases c⟩
theorem bare_eq {a b:ak}(ha:bare a=a)(hb:bare b=b):bJ a b=0↔a=b:=by
 obtain⟨K,hK⟩: ∃K:Nat,-(K:Int)≤a.e∧ -(K:Int)≤b.e:=⟨a.e.natAbs+b.e.natAbs,by omega,by omega⟩;rw[oY hK.1 hK.2,←(OQ _).2.2]
 constructor
 ·intro h
  have:=fH hK.1 hK.2 (show V K a=V K b by omega)
  rwa [ha,hb] at this
 ·rintro rfl
  omega
theorem mk_iff {k:Nat}(hk:1≤k∧k≤8){s:ByteArray}(hp:dF k s=0)(hc:bM k s=2)(he:gI k 2 (dz k s) (Dg.dg 4294967296 (gJ k s)) (iF k s)=0)
  {t:ByteArray} (ht:raE t=0) (hN:(raV t).2.1≠0):
  mkB k t (fq k 2 (dz k s) (Dg.dg 4294967296 (gJ k s)) (iF k s))=true↔
   (plV k 1 (cI (rdN k) (dgN k) (lsI k) (gsI k) (decide (k≤3)) (raV t).1 (raV t).2.1 (raV t).2.2.1 (raV t).2.2.2 1)).1=2∧
   (plV k 1 (cI (rdN k) (dgN k) (lsI k) (gsI k) (decide (k≤3)) (raV t).1 (raV t).2.1 (raV t).2.2.1 (raV t).2.2.2 1)).2.2.1=opT k s:=by
 obtain⟨l1,l2,m0,-,-,-,-⟩:=raV_in ht;have hfit:=ps_fit hk ht hN;have hS:=enc0_plc hk 1 _ (rnd_of hk (raV t).1 (raV t).2.1 (raV t).2.2.1 (raV t).2.2.2 1 hN m0) (pG k 1 (cI (rdN k) (dgN k) (lsI k) (gsI k) (decide (k≤3)) (raV t).1 (raV t).2.1 (raV t).2.2.1 (raV t).2.2.2 1)).2.2.2.2;obtain⟨w1,w2⟩:=plV_setV k (cI (rdN k) (dgN k) (lsI k) (gsI k) (decide (k≤3)) (raV t).1 (raV t).2.1 (raV t).2.2.1 (raV t).2.2.2 1);generalize plV k 1 (cI (rdN k) (dgN k) (lsI k) (gsI k) (decide (k≤3)) (raV t).1 (raV t).2.1 (raV t).2.2.1 (raV t).2.2.2 1)=v at w1 w2⊢;generalize pG k 1 (cI (rdN k) (dgN k) (lsI k) (gsI k) (decide (k≤3)) (raV t).1 (raV t).2.1 (raV t).2.2.1 (raV t).2.2.2 1)=u at w1 w2 hfit hS;obtain⟨y1,y2,y3,y4⟩:=dec_of hk hS;have hmd:Dw k 2 (dz k s) (gJ k s) (iF k s) 0=(fq k 2 (dz k s) (Dg.dg 4294967296 (gJ k s)) (iF k s),0,0):=if_pos he;obtain⟨-,z2,-,z4⟩:=dec_of hk (c:=2) (g:=dz k s) (m:=gJ k s) (p:=iF k s) (fl:=0) (by rw[hmd]);have z2':((bM k (fq k 2 (dz k s) (Dg.dg 4294967296 (gJ k s)) (iF k s)):Nat):Int)=2:=by rw[hmd] at z2;exact z2
 have z4':opT k (fq k 2 (dz k s) (Dg.dg 4294967296 (gJ k s)) (iF k s))=opT k s:=by rw[hmd,if_pos rfl,(G5 hk hp hc).2.2] at z4;exact z4
 unfold mkB;rw[hfit,hS,decide_eq_true rfl,Bool.true_and];rw[w1];generalize hr:(Dw k u.1 u.2.1 u.2.2.1 u.2.2.2.1 u.2.2.2.2).1=r at y1 y2 y3 y4
 constructor
 ·intro h
  have e:r=fq k 2 (dz k s) (Dg.dg 4294967296 (gJ k s)) (iF k s):=by
   have:=eq_of_beq h;rw[ByteArray.toList_eq,ByteArray.toList_eq] at this;exact WideShapes.bytes_inj this
  rw[e] at y2 y4;have h2:u.1=2:=y2.symm.trans z2';refine⟨h2, ?_⟩;rw[w2 (w1.trans h2)];rw[z4',if_pos h2] at y4;exact y4.symm
 ·rintro⟨h2,h3⟩
  rw[w2 (w1.trans h2)] at h3;rw[if_pos h2,h3] at y4;have hez:gI k u.1 u.2.1 (Dg.dg 4294967296 u.2.2.1) u.2.2.2.1=0:=by
   unfold Dw at hS
   by_cases c:gI k u.1 u.2.1 (Dg.dg 4294967296 u.2.2.1) u.2.2.2.1=0
   ·exact c
   ·rw[if_neg c] at hS
    exact absurd hS c
  have hrs:fq k u.1 u.2.1 (Dg.dg 4294967296 u.2.2.1) u.2.2.2.1=r:=by
   rw[←hr];unfold Dw;rw[if_pos hez]
  obtain⟨a1,a2⟩:=Jj hk (Dg.small_dg _ _ (by omega)) hez r hrs;rw[h2] at a1 a2 y2;have hdc:bM k r=2:=by omega
  have dM:gJ k r=ge k (aZ k r) (aR k r) (aU k r):=by unfold gJ;rw[if_pos y1,Int.toNat_natCast]
  have dP:iF k r=gw k (aZ k r) (aR k r) (aU k r):=by unfold iF;rw[if_pos y1,Int.toNat_natCast]
  rw[←dM,←dP,←y3] at a1 a2;have b1:=(num_back hk y1 hdc a1).2.2.2.2 1 ⟨by decide,by decide⟩ false;have b2:=(num_back hk hp hc he).2.2.2.2 1 ⟨by decide,by decide⟩ false;rw[y4,b2,a2] at b1;have:=congrArg Prod.fst b1;simp only at this;rw[this];exact beq_self_eq_true _
theorem fit_small {k:Nat}(hk:1≤k∧k≤8){t:ByteArray}(ht:raE t=0)(hN:(raV t).2.1≠0)
  (h2:(plV k 1 (cI (rdN k) (dgN k) (lsI k) (gsI k) (decide (k≤3)) (raV t).1 (raV t).2.1 (raV t).2.2.1 (raV t).2.2.2 1)).1=2):
  iZ (plV k 1 (cI (rdN k) (dgN k) (lsI k) (gsI k) (decide (k≤3)) (raV t).1 (raV t).2.1 (raV t).2.2.1 (raV t).2.2.2 1)).2.2.1∧bare (plV k 1 (cI (rdN k) (dgN k) (lsI k) (gsI k) (decide (k≤3)) (raV t).1 (raV t).2.1 (raV t).2.2.1 (raV t).2.2.2 1)).2.2.1=(plV k 1 (cI (rdN k) (dgN k) (lsI k) (gsI k) (decide (k≤3)) (raV t).1 (raV t).2.1 (raV t).2.2.1 (raV t).2.2.2 1)).2.2.1:=by
 obtain⟨-,-,m0,-,-,-,-⟩:=raV_in ht;have hS:=enc0_plc hk 1 _ (rnd_of hk (raV t).1 (raV t).2.1 (raV t).2.2.1 (raV t).2.2.2 1 hN m0) (pG k 1 (cI (rdN k) (dgN k) (lsI k) (gsI k) (decide (k≤3)) (raV t).1 (raV t).2.1 (raV t).2.2.1 (raV t).2.2.2 1)).2.2.2.2;obtain⟨w1,w2⟩:=plV_setV k (cI (rdN k) (dgN k) (lsI k) (gsI k) (decide (k≤3)) (raV t).1 (raV t).2.1 (raV t).2.2.1 (raV t).2.2.2 1);obtain⟨y1,-,-,y4⟩:=dec_of hk hS;rw[if_pos (w1.symm.trans h2)] at y4;rw[w2 h2,←y4];refine⟨(ir hk y1).1, ?_⟩;rw[y4,iH]
theorem bits_fit {k:Nat}(hk:1≤k∧k≤8):2^ (ai (rdN k)*dgN k)<10^ (21-1):=by
 rcases bO hk with rfl|rfl|rfl|rfl|rfl|rfl|rfl|rfl<;>decide
theorem sh_enc {k:Nat}(hk:1≤k∧k≤8){s:ByteArray}(hp:dF k s=0)(hc:bM k s=2):
  gI k 2 (dz k s) (Dg.dg 4294967296 (gJ k s)) (iF k s)=if inR (rdN k) (dgN k) (lsI k) (gsI k) (decide (k≤3)) (opT k s).n (opT k s).e=true then 0 else 4:=by
 obtain⟨o1,o2,o3⟩:=G5 hk hp hc;have hcl:dh k (aZ k s) (aR k s) (aU k s)=2:=by
  unfold bM at hc
  rwa [if_pos hp,Int.toNat_natCast] at hc
 obtain⟨s1,s2⟩:=Cu k s;obtain⟨-,-,v3,v4⟩:=J9 (ng:=aZ k s) hk s1 s2 hcl;have hM:gJ k s<2^64:=by
  unfold gJ;rw[if_pos hp,Int.toNat_natCast];exact J8 hk _ _ (mZ hk s2)
 have hP:iF k s=gw k (aZ k s) (aR k s) (aU k s):=by unfold iF;rw[if_pos hp,Int.toNat_natCast]
 have h0:gJ k s≠0:=fun c=>by
  rw[←o3,c] at o1;exact o1 rfl
 have hchk:chk (Dg.dg 4294967296 (gJ k s))=0:=pJ (Dg.norm_dg _ _ (by omega)) (Nat.le_trans (jq (L:=2) hM (by omega)) (by omega));rw[(xH hk hchk).1,mY hk hchk (fun c=>h0 ((dg_len0 (by omega)).1 c)) (by omega),Dg.vl_dg _ _ (by omega),o3]
theorem textShortests_walk (n:Int)(s:ByteArray)(w:World)(hT:TxW w):yC 3 #[yi n,.string s] w (yR w (.bool true)):=by
 have HB:=fun w1 (h:yB w w1)=>textBegun_any w1 (hT.l h)
 have HP:=fun w1 (h:yB w w1)=>tShortest_any n s w1 (hT.l h)
 have HO:=fun w1=>xu n s w1
 by_cases hp:dF n s=0
 rotate_left
 ·unfold shV at HP
  rw[if_pos hp] at HP;exact shorts_bad _ n s w (by simpa using hp) HP HO HB
 rw[hp] at HO;have hf:dK n≠0:=fun hf=>by
  unfold dF at hp;rw[if_pos hf] at hp;omega
 obtain⟨j1,j2,j3⟩:=fF hf;obtain⟨k,rfl⟩: ∃i:Nat,n=(i:Int):=⟨n.toNat,j3.symm⟩;rw[Int.toNat_natCast] at j1 j2;have hk:1≤k∧k≤8:=⟨j1,j2⟩;have hg:=(eR hk).2.2.2.2.2.2.2.2.2.2.2;have a1:opT (k:Int) s=ji (k:Int).toNat (aZ (k:Int).toNat s) (aR (k:Int).toNat s) (aU (k:Int).toNat s):=by
  unfold opT nxT;rw[if_pos hp]
 have a2:dz (k:Int) s=zR (k:Int).toNat (aZ (k:Int).toNat s) (aR (k:Int).toNat s) (aU (k:Int).toNat s):=by
  unfold dz;rw[if_pos hp,Int.toNat_natCast,Nu ⟨j1,j2⟩]
 have HD:=fun w1 (_:yB w w1)=>(mW (k:Int) s w1 hp).mono (fun z w' h=>by
  obtain⟨sv,h1,h2,h3,-⟩:=h;rw[←a1] at h1 h2;rw[←a2] at h1;obtain⟨xo,xc,e⟩:=h2.shape;subst e;exact(⟨xo,xc,_,h1,h2,h3⟩: ∃xo xc cg,z= .returned (.tuple #[.agg #[yi ((bM (k:Int) s:Nat):Int),.bool (dz (k:Int) s),.bool (opT (k:Int) s).s,.slice xo (Dg.dg 65536 (opT (k:Int) s).n).length xc,yi (opT (k:Int) s).e],.bool cg])∧Rd w' .i64 (.slice xo (Dg.dg 65536 (opT (k:Int) s).n).length xc) (Dg.dg 65536 (opT (k:Int) s).n)∧yB w1 w'))
 refine shorts_ok _ (shV (k:Int) s).2 _ (opT (k:Int) s) (shV (k:Int) s).1 (k:Int) s w HP HO HD (fun xo xc w1 _ rx=> ?_) HB
 have hcd:=zl hp;have hcc:((bM (k:Int) s:Nat):Int)=1∨((bM (k:Int) s:Nat):Int)=2∨((bM (k:Int) s:Nat):Int)=3∨((bM (k:Int) s:Nat):Int)=4∨((bM (k:Int) s:Nat):Int)=5:=by omega
 have HW:=fun xo xc w2=>refWord_any ((bM (k:Int) s:Nat):Int) (dz (k:Int) s) (opT (k:Int) s) hcc dec45 xo xc w2
 have HF:=fun w2=>form_any k hk w2
 unfold shV;rw[if_neg (fun c=>c hp)]
 by_cases hc:((bM (k:Int) s:Nat):Int)=2
 rotate_left
 ·have hw:(wdV ((bM (k:Int) s:Nat):Int)).2.2=true:=by
   rcases hcc with c|c|c|c|c<;>rw[c] at hc⊢ <;>first|rfl|exact absurd rfl hc
  rw[if_pos hw];refine shortestOf_word _ (k:Int) _ _ _ _ _ _ _ _ _ _ _ _ xo xc w1 rx ?_ HW HF
  rcases hcc with c|c|c|c|c<;>rw[c] at hc⊢
  ·cases dz (k:Int) s<;>kernel_rfl
  ·exact absurd rfl hc
  all_goals cases dz (k:Int) s<;>kernel_rfl
 have hc2:bM (k:Int) s=2:=by omega
 have hw:(wdV ((bM (k:Int) s:Nat):Int)).2.2=false:=by rw[hc];rfl
 rw[if_neg (by rw[hw];decide)];obtain⟨x1,x2,x3,x4⟩:=num_of hp hw;obtain⟨o1,o2,o3⟩:=G5 hk hp hc2;have hxl:(Dg.dg 65536 (opT (k:Int) s).n).length≤5:=by
  obtain⟨a,ha⟩: ∃a,a=64:=⟨_,rfl⟩;exact UI (k:=a) (by rw[ha];exact Nat.le_of_lt x1) (by omega)
 have hE:shE (k:Int) s=if inR (rdN k) (dgN k) (lsI k) (gsI k) (decide (k≤3)) (opT (k:Int) s).n (opT (k:Int) s).e=true then 0 else 4:=by
  unfold shE;rw[hc];exact sh_enc hk hp hc2
 have hM:shM (k:Int) s=fq (k:Int) 2 (dz (k:Int) s) (Dg.dg 4294967296 (gJ (k:Int) s)) (iF (k:Int) s):=by
  unfold shM;rw[hc]
 have HW2: ∀xo xc w2,yC 24 #[.agg #[yi ((bM (k:Int) s:Nat):Int),.bool (dz (k:Int) s),.bool (opT (k:Int) s).s,.slice xo (Dg.dg 65536 (opT (k:Int) s).n).length xc,yi (opT (k:Int) s).e]] w2 (yR w2 (.string ⟨#[]⟩)):=fun xo xc w2=>by
  rw[hc];exact refWord_2 _ _ xo xc w2
 have HG: ∀b,inR (rdN k) (dgN k) (lsI k) (gsI k) (decide (k≤3)) (opT (k:Int) s).n (opT (k:Int) s).e=b→ ∀xo xc w2,yB w1 w2→Rd w2 .i64 (.slice xo (Dg.dg 65536 (opT (k:Int) s).n).length xc) (Dg.dg 65536 (opT (k:Int) s).n)→yC 25 #[.agg #[.bool (opT (k:Int) s).s,.slice xo (Dg.dg 65536 (opT (k:Int) s).n).length xc,yi (opT (k:Int) s).e],ygV (rdN k) (dgN k) (lsI k) (gsI k) (decide (k≤3))] w2 (yR w2 (.bool b)):=fun b hb xo xc w2 _ r=>by
  have:=nU (rdN k) (dgN k) (lsI k) (gsI k) (decide (k≤3)) _ (opT (k:Int) s) w2 hg ⟨_,rfl,r⟩ (by omega) (by omega) (by omega)
  rwa [hb] at this
 cases hin:inR (rdN k) (dgN k) (lsI k) (gsI k) (decide (k≤3)) (opT (k:Int) s).n (opT (k:Int) s).e
 ·rw[hin,if_neg (by decide)] at hE
  rw[if_pos (by rw[hE];decide),hE];exact shortestOf_off (k:Int) _ _ _ _ _ _ _ _ _ _ _ _ xo xc w1 rx HW2 HF (HG _ hin)
 rw[hin,if_pos rfl] at hE;rw[if_neg (fun c=>c hE)]
 have he:gI (k:Int) 2 (dz (k:Int) s) (Dg.dg 4294967296 (gJ (k:Int) s)) (iF (k:Int) s)=0:=by
  have:=hE;unfold shE at this
  rwa [hc] at this
 obtain⟨i1,i2,i3,i4⟩:=shF_spec (fun j=>mkB (k:Int) (ptS (k:Int) s j) (shM (k:Int) s)) 59 1
 have e21:mkB (k:Int) (ptS (k:Int) s 21) (shM (k:Int) s)=true:=by
  obtain⟨fl,h⟩:=print_back hk hp hc2 he (j:=21) (by omega) (by omega) (bits_fit hk);unfold mkB;rw[h,hM];simp
 have hKK:shK (k:Int) s=shF (fun j=>mkB (k:Int) (ptS (k:Int) s j) (shM (k:Int) s)) 59 1:=rfl
 rw[←hKK] at i1 i2 i3 i4;have hK21:shK (k:Int) s≤21:=by
  rcases Nat.lt_or_ge 21 (shK (k:Int) s) with c|c
  ·have:mkB (k:Int) (ptS (k:Int) s 21) (shM (k:Int) s)=false:=i3 21 (by omega) c
   rw[e21] at this
   cases this
  ·exact c
 have hKm:mkB (k:Int) (ptS (k:Int) s (shK (k:Int) s)) (shM (k:Int) s)=true:=i4 (by omega);have hbb:bare (opT (k:Int) s)=opT (k:Int) s:=by rw[←o3,iH]
 refine shortestOf_num (shK (k:Int) s) _ (k:Int) _ _ _ _ _ _ _ _ _ _ _ _ xo xc w1 rx ⟨i1,by omega⟩ HW2 HF (HG _ hin) (fun j h1 h2=> ?_)
 obtain⟨r0,δ,Q',m,M0,p,r1,r2,m0,M00,r3,r4⟩:=print_ra x1 x2 x3 x4 h1 (show j≤60 by omega)
 have hN0:m/2^tz m≠0:=fun c=>by
  have:=(odd_of m0).1;omega
 have hpt:ptS (k:Int) s j=prR (opT (k:Int) s).s (dcH (opT (k:Int) s)) (dcC (opT (k:Int) s)) (dcP (opT (k:Int) s)) j:=rfl;rw[←hpt] at r0 r4;have hN:(raV (ptS (k:Int) s j)).2.1≠0:=by rw[r4];exact hN0
 have hiff:=mk_iff hk hp hc2 he r0 hN;rw[←hM] at hiff;obtain⟨l1,l2,n0,e1,e2,l3,l4⟩:=raV_in r0;have hlt:j<shK (k:Int) s→mkB (k:Int) (ptS (k:Int) s j) (shM (k:Int) s)=false:=i3 j h1;have hsm:=fit_small hk r0 hN;have hT':=fun yo yc zo zc w2 r5 r6=>fittedG_any k hk 1 (by decide) (raV (ptS (k:Int) s j)).1 (raV (ptS (k:Int) s j)).2.1 (raV (ptS (k:Int) s j)).2.2.1 (raV (ptS (k:Int) s j)).2.2.2 yo zo yc zc w2 hN n0 r5 r6 l3 l4 e1 e2
 generalize plV k 1 (cI (rdN k) (dgN k) (lsI k) (gsI k) (decide (k≤3)) (raV (ptS (k:Int) s j)).1 (raV (ptS (k:Int) s j)).2.1 (raV (ptS (k:Int) s j)).2.2.1 (raV (ptS (k:Int) s j)).2.2.2 1)=v at hiff hsm hT';refine⟨ptS (k:Int) s j,(raV (ptS (k:Int) s j)).1,v.2.1,(raV (ptS (k:Int) s j)).2.1,(raV (ptS (k:Int) s j)).2.2.1,(raV (ptS (k:Int) s j)).2.2.2,v.1,v.2.2.2,dJ (bare (cO v.2.2.1 (dB (opT (k:Int) s)))),v.2.2.1,fun xo xc w2 _ r=> ?_,fun w2 _=>(refRatio_any (ptS (k:Int) s j) w2).2 r0,hT',fun hv so sc xo xc w2 r5 r6=> ?_, ?_⟩
 ·have:=printOf_any 2 (dz (k:Int) s) (opT (k:Int) s) j (.inr (.inl rfl)) (fun c=>by rcases c with c|c<;>cases c) (fun _=>⟨x1,x2,x3,x4⟩) h1 (by omega) xo xc w2 r
  unfold rpR at this;rw[if_pos rfl,←o2] at this;rw[hc,←o2];exact this
 ·obtain⟨⟨b1,b2,b3⟩,-⟩:=hsm hv
  have htl:(Dg.dg 65536 v.2.2.1.n).length≤5:=by
   obtain⟨a,ha⟩: ∃a,a=64:=⟨_,rfl⟩;exact UI (k:=a) (by rw[ha];exact Nat.le_of_lt b1) (by omega)
  exact gQ _ _ v.2.2.1 (opT (k:Int) s) w2 ⟨_,rfl,r5⟩ ⟨_,rfl,r6⟩ (by omega) (by omega) (by omega) (by omega) (by omega) (by omega)
 ·have hd:v.1=2→(dJ (bare (cO v.2.2.1 (dB (opT (k:Int) s))))=0↔v.2.2.1=opT (k:Int) s):=fun hv=>by
   rw[OL ⟨_,(hsm hv).2.symm⟩ ⟨_,hbb.symm⟩];exact bare_eq (hsm hv).2 hbb
  rcases Nat.lt_or_ge j (shK (k:Int) s) with c|c
  ·refine .inl ⟨c, ?_⟩
   have hm:=hlt c
   by_cases hv:v.1=2
   ·refine .inr ⟨hv, ?_⟩
    rw[beq_eq_false_iff_ne];intro h0;rw[hiff.2 ⟨hv,(hd hv).1 h0⟩] at hm
    cases hm
   ·exact .inl (by rw[beq_eq_false_iff_ne];exact hv)
  ·obtain rfl:j=shK (k:Int) s:=by omega
   obtain⟨hv,ht⟩:=hiff.1 hKm;exact .inr ⟨rfl,hv,(hd hv).2 ht,rfl⟩
end Go.Proofs.YtlhkndcmbpcpgaaGreatDoor
