/-
  Texts laid together: Rk2, Pa1, Pa2, Ar8, Pa3, As9, Pa4.
-/
import Derived.Test.YtbdokgamhinajaaGreatDoorSm33
set_option maxRecDepth 100000
set_option maxHeartbeats 3200000
namespace Go.Proofs.YtbdokgamhinajaaGreatDoor
open _root_.Go.Proofs.Tryz
theorem wZ {n k:Nat}(h:bitLen n≤k):n<2^k:=Nat.lt_of_lt_of_le (bitLen_spec n).1 (Nat.pow_le_pow_right (by omega) h)
theorem ac4 {n j:Nat}(h:j<bitLen n):2^j≤n:=Nat.le_of_not_lt fun g=>by
 have:=bF n j g;omega
theorem FC {n k:Nat}(h:n≠0):2^k∣n↔k≤tz n:=by
 obtain⟨m,hm⟩:=fO h
 constructor
 ·intro hd
  by_cases g:k≤tz n
  ·exact g
  exfalso
  obtain⟨c,hc⟩:=hd;have e:2^k=2^tz n*(2*2^ (k-tz n-1)):=by
   rw[←Nat.pow_succ',←Nat.pow_add]
   congr 1
   omega
  have h2:2^tz n*(2*m+1)=2^tz n*(2*(2^ (k-tz n-1)*c)):=by
   refine hm.symm.trans (hc.trans ?_);rw[e,Nat.mul_assoc,Nat.mul_assoc]
  have:=Nat.eq_of_mul_eq_mul_left (bG (tz n)) h2;omega
 ·intro g
  refine⟨2^ (tz n-k)*(2*m+1), ?_⟩;rw[←Nat.mul_assoc,←Nat.pow_add,show k+(tz n-k)=tz n from by omega]
  exact hm
theorem Um (t:ak)(h0:t.n≠0):ut (t.e+((bitLen t.n-128:Nat):Int)) t.n 1 t.e (eQ t).n 1 (eQ t).e:=by
 unfold eQ
 by_cases g:bitLen t.n≤128
 ·rw[if_pos g]
  exact fun j _=>⟨rfl,Iff.rfl⟩
 ·rw[if_neg g]
  obtain⟨sp,hs⟩: ∃s,bitLen t.n-128=s:=⟨_,rfl⟩;rw[hs];have h1:ut (t.e+(sp:Int)) t.n 1 t.e t.n (2^sp) (t.e+(sp:Int)):=fun j _=>by
   refine qG (jO (by omega) _) (jO (by have:=bG sp;omega) _) ?_;rw[fw,fw,eM,eM];rw[Nat.one_mul,Nat.mul_assoc,Nat.mul_assoc,←Nat.pow_add,←Nat.pow_add,←Nat.pow_add];refine congrArg (fun x=>t.n*2^x) ?_
   omega
  have h2:=vP t.n (2^sp) 0 (t.e+(sp:Int)) t.s (decide (tz t.n<sp)) (by have:=bG sp;omega) (by
   rw[Nat.pow_zero,Nat.mul_one,decide_eq_decide];have:=FC (k:=sp) h0;rw[Nat.dvd_iff_mod_eq_zero] at this;omega)
  simp only[Nat.pow_zero,Nat.mul_one,Int.natCast_zero,Int.sub_zero] at h2;have h3:=h1.trans h2;exact h3.mono (by omega)
theorem qY (t:ak)(h0:t.n≠0):(eQ t).n≠0∧(eQ t).s=t.s∧(eQ t).n<2^129∧t.e-1≤(eQ t).e∧(eQ t).e≤t.e+((bitLen t.n-128:Nat):Int):=by
 unfold eQ
 by_cases g:bitLen t.n≤128
 ·rw[if_pos g]
  exact⟨h0,rfl,wZ (by omega),by omega,by omega⟩
 ·rw[if_neg g]
  obtain⟨sp,hs⟩: ∃s,bitLen t.n-128=s:=⟨_,rfl⟩;rw[hs];have l1:2^ (sp+127)≤t.n:=ac4 (by omega);have l2:t.n<2^ (sp+128):=wZ (by omega);have d1:2^127≤t.n/2^sp:=(Nat.le_div_iff_mul_le (bG sp)).2 (by rw[←Nat.pow_add,Nat.add_comm];exact l1);have d2:t.n/2^sp<2^128:=(Nat.div_lt_iff_lt_mul (bG sp)).2 (by rw[←Nat.pow_add,Nat.add_comm];exact l2);generalize t.n/2^sp=q at d1 d2;refine⟨?_,rfl, ?_, ?_, ?_⟩
  ·show q*2+(if decide (tz t.n<sp)=true then 1 else 0)≠0
   have:0<2^127:=bG _;omega
  ·show q*2+(if decide (tz t.n<sp)=true then 1 else 0)<2^129
   have e:2^129=2^128*2:=Nat.pow_succ ..;have:(if decide (tz t.n<sp)=true then 1 else 0)≤1:=by split<;>omega
   omega
  ·show t.e-1≤t.e+(sp:Int)-1
   omega
  ·show t.e+(sp:Int)-1≤t.e+(sp:Int)
   omega
def rtE (t:ak):Int:=min (max (eQ t).e (-20000)) 20000
def rtN (t:ak):Nat:=(eQ t).n*2^ ((eQ t).e-rtE t).toNat
def rtM (t:ak):Nat:=2^ (rtE t-(eQ t).e).toNat
theorem aba (t:ak)(h0:t.n≠0):ut (t.e+((bitLen t.n-128:Nat):Int)) t.n 1 t.e (rtN t) (rtM t) (rtE t):=by
 refine((Um t h0).trans (K:=t.e+((bitLen t.n-128:Nat):Int)) ?_).mono (by omega);refine fun j _=>qG (jO (by omega) _) (jO (by unfold rtM;have:=bG (rtE t-(eQ t).e).toNat;omega) _) ?_
 unfold rtN rtM;generalize rtE t=r;rw[fw,fw,eM,eM];rw[Nat.one_mul,Nat.mul_assoc,Nat.mul_assoc,Nat.mul_assoc,←Nat.pow_add,←Nat.pow_add,←Nat.pow_add,←Nat.pow_add]
 congr 2
 omega
theorem X3 {R D L G:Int}{gr:Bool}{way:Int}(t:ak)(h0:t.n≠0)(hD:1≤D)(hw:ai R*D.toNat≤64):
  cI R D L G gr t.s (rtN t) (rtM t) (rtE t) way=cI R D L G gr t.s t.n 1 t.e way:=by
 have hm:rtM t≠0:=by unfold rtM;have:=bG (rtE t-(eQ t).e).toNat;omega
 have hn:rtN t≠0:=by
  unfold rtN;have h1:=(qY t h0).1;have h2:=bG ((eQ t).e-rtE t).toNat;exact Nat.mul_ne_zero h1 (by omega)
 by_cases hb:bitLen t.n≤128
 ·--nothing is lost
  have hl:ut (t.e-70) t.n 1 t.e (rtN t) (rtM t) (rtE t):=by
   have hk:eQ t=t:=if_pos hb;refine fun j _=>qG (jO (by omega) _) (jO hm _) ?_
   unfold rtN rtM;rw[hk];generalize rtE t=r;rw[fw,fw,eM,eM];rw[Nat.one_mul,Nat.mul_assoc,Nat.mul_assoc,Nat.mul_assoc,←Nat.pow_add,←Nat.pow_add,←Nat.pow_add,←Nat.pow_add]
   congr 2
   omega
  refine(AC h0 (by omega) hn hm hD hw hl ?_).symm;rw[lU h0];have:bitLen t.n≠0:=fun h=>by
   have:=wZ (Nat.le_of_eq h);rw[Nat.pow_zero] at this;omega
  omega
 ·refine(AC h0 (by omega) hn hm hD hw (aba t h0) ?_).symm
  rw[lU h0];omega
open Go.RowKit
abbrev dsk (k:Nat)(wy:Int):Value:=(ykV k wy (dK k) (rdN k) (dgN k) (lsI k) (gsI k) (decide (k≤3)))
theorem aa0 {w:World}{q r:Nat}(h:w.cell? ⟨q,0,none⟩=some (.int .u32 r)):Rd w .u32 (.slice (some ⟨q,0,none⟩) 1 1) [r]:=
 ⟨_,1,rfl,Nat.le_refl _,by unfold maxLen;omega,fun _=>⟨q,0,rfl,fun i hi=>by
  obtain rfl:i=0:=by simpa using hi
  exact h⟩⟩
theorem Ba (k:Nat)(hk:1≤k∧k≤8)(wy:Int)(ng:Bool)(w:World):yC 136 #[dsk k wy,.bool ng] w (iT w 2 ng (rdN k^dgN k-1) (gsI k)):=by
 have hr:(rdN k=2∨rdN k=16)∧dgN k≤64:=by rcases bO hk with rfl|rfl|rfl|rfl|rfl|rfl|rfl|rfl<;>decide
 have hd:Dg.dg 4294967296 (rdN k)=[rdN k]:=by rcases hr.1 with h|h<;>rw[h]<;>rfl
 have hp:1≤rdN k^dgN k:=Nat.pow_pos (by omega);have hl:(Dg.dg 4294967296 (rdN k^dgN k)).length≤64:=by
  have h4:rdN k^dgN k<2^ (4*dgN k+1):=by
   have:rdN k^dgN k≤16^dgN k:=Nat.pow_le_pow_left (by omega) _;have e:(16:Nat)^dgN k=2^ (4*dgN k):=by rw[Nat.pow_mul]
   rw[Nat.pow_succ];have:=bG (4*dgN k);omega
  exact jq h4 (by omega)
 have hn:(Dg.dg 4294967296 (rdN k^dgN k)).length≠0:=fun h=>by
  have:=(Dg.dg_nil_iff 4294967296 (rdN k^dgN k) (by omega)).1 (List.length_eq_zero_iff.1 h);omega
 refine QM k wy (dK k) (rdN k) (dgN k) (lsI k) (gsI k) (decide (k≤3)) ng (rdN k) (rdN k^dgN k) w ?_ (fun q w1 _ hq=> ?_) (fun vo vc q w1 hv hq=> ?_)
 ·rcases hr.1 with h|h<;>rw[h]<;>rfl
 ·have h1:=aa0 hq
  rw[←hd] at h1;exact Iq _ (rdN k) (dgN k) 1 w1 h1 (by omega) (by omega) (by omega) (by omega)
 ·have:=zL (.slice vo (Dg.dg 4294967296 (rdN k^dgN k)).length vc) (.slice (some ⟨q,0,none⟩) 1 1) (Dg.dg 4294967296 (rdN k^dgN k)) [1] w1 hv (xD hq) (Dg.small_dg _ _ (by omega)) (Dg.small_cons.2 ⟨by omega,Dg.small_nil _ (by omega)⟩) (by omega) (by simp;omega) (by rw[Dg.vl_dg _ _ (by omega),show Dg.vl 4294967296 [1]=1 from rfl];exact hp)
  rwa [Dg.vl_dg _ _ (by omega),show Dg.vl 4294967296 [1]=1 from rfl] at this
def ovV (k:Nat)(wy:Int)(ng:Bool):Int×Bool×Nat×Int:=
 if dK k=3 then(5,false,0,0) else if dK k=1∧aaV wy ng=true then(3,ng,0,0) else(2,ng,rdN k^dgN k-1,gsI k)
theorem qt {k:Nat}(hk:1≤k∧k≤8):dK k=1∨dK k=2∨dK k=3:=by
 rcases bO hk with rfl|rfl|rfl|rfl|rfl|rfl|rfl|rfl<;>decide
theorem Pw (k:Nat)(hk:1≤k∧k≤8)(wy:Int)(hw:1≤wy∧wy≤5)(ng:Bool)(w:World):yC 89 #[dsk k wy,.bool ng] w (iT w (ovV k wy ng).1 (ovV k wy ng).2.1 (ovV k wy ng).2.2.1 (ovV k wy ng).2.2.2):=by
 unfold ovV;have HG:=fun w1=>Ba k hk wy ng w1
 unfold dsk at HG⊢
 rcases qt hk with h|h|h
 ·rw[h] at HG⊢
  rw[if_neg (by decide)]
  by_cases ho:aaV wy ng=true
  ·rw[if_pos ⟨rfl,ho⟩]
   exact abM _ _ _ _ _ _ _ _ w (fun w1=>by have:=CT k wy 1 (rdN k) (dgN k) (lsI k) (gsI k) (decide (k≤3)) ng hw w1;rw[ho] at this;exact this)
  ·rw[if_neg (fun c=>ho c.2)]
   exact abN _ _ _ _ _ _ _ _ _ w (fun w1=>by have:=CT k wy 1 (rdN k) (dgN k) (lsI k) (gsI k) (decide (k≤3)) ng hw w1;rw[show aaV wy ng=false by simpa using ho] at this;exact this) (fun w1 _=>HG w1)
 ·rw[h] at HG⊢
  rw[if_neg (by decide),if_neg (fun c=>absurd c.1 (by decide))]
  exact ado _ _ _ _ _ _ _ _ _ w (fun w1 _=>HG w1)
 ·rw[h,if_pos rfl]
  exact adn _ _ _ _ _ _ _ _ w (fun w1=>A5 3 (.inr (.inr rfl)) w1)
def pG (k:Nat)(wy:Int)(P:fz):Int×Bool×Nat×Int×Int:=
 if P.ov=true then((ovV k wy P.s).1,(ovV k wy P.s).2.1,(ovV k wy P.s).2.2.1,(ovV k wy P.s).2.2.2,5)
 else if P.un=true∧P.p<lsI k then(1,false,0,0,3)
 else((if P.d=0 then 1 else 2),P.s,P.d,P.p,if P.ex=true then 0 else if P.un=true then 3 else 1)
theorem Px (k:Nat)(hk:1≤k∧k≤8)(wy:Int)(hw:1≤wy∧wy≤5)(P:fz)(ao:Option Addr)(ca:Nat)(w:World)(hr:Rd w .u32 (yT ao P.d ca) (Dg.dg 4294967296 P.d)):
  yC 46 #[dsk k wy,ypV P.s (yT ao P.d ca) P.p P.ex P.ov P.un] w (B6 w (pG k wy P).1 (pG k wy P).2.1 (pG k wy P).2.2.1 (pG k wy P).2.2.2.1 (pG k wy P).2.2.2.2):=by
 obtain⟨ps,pd,pp,ex,ov,un⟩:=P;unfold pG;simp only at hr⊢
 cases ov
 ·rw[if_neg (by decide)]
  by_cases hl:un=true∧pp<lsI k
  ·rw[if_pos hl]
   obtain⟨rfl,hl⟩:=hl;exact OU _ _ _ _ _ _ _ _ _ _ _ _ _ _ w hl
  ·rw[if_neg hl]
   have hz:(if pd=0 then(1:Int) else 2)=if(Dg.dg 4294967296 pd).length=0 then 1 else 2:=by
    by_cases h:pd=0
    ·rw[if_pos h,if_pos (by rw[h];rfl)]
    ·rw[if_neg h,if_neg (fun c=>h ((Dg.dg_nil_iff 4294967296 pd (by omega)).1 (List.length_eq_zero_iff.1 c)))]
   exact Id _ _ _ _ _ _ _ _ _ _ _ _ _ _ _ pd w rfl hr (fun h c=>hl ⟨h,c⟩) _ _ hz rfl
 ·rw[if_pos rfl]
  exact Lr _ _ _ _ _ _ _ _ _ _ _ _ _ _ _ _ _ _ _ w (fun w1 _=>Pw k hk wy hw ps w1)
def Dw (k:Nat)(c:Int)(g:Bool)(m:Nat)(p fl:Int):ByteArray×Int×Int:=
 if gI k c g (Dg.dg 4294967296 m) p=0 then(fq k c g (Dg.dg 4294967296 m) p,fl,0) else(⟨#[]⟩,0,gI k c g (Dg.dg 4294967296 m) p)
abbrev mM (r:ByteArray×Int×Int)(w:World)(z:Ending)(w':World):Prop:=z= .returned (.tuple #[.string r.1,yi r.2.1,yi r.2.2])∧yB w w'
theorem CZ (k:Nat)(wy c p fl:Int)(g:Bool)(m:Nat)(ao:Option Addr)(ca:Nat)(w:World)(hr:Rd w .u32 (yT ao m ca) (Dg.dg 4294967296 m))(hT:Tab w):
  yC 45 #[dsk k wy,yvV c g (yT ao m ca) p,yi fl] w (mM (Dw k c g m p fl) w):=by
 have:=It k wy (dK k) (rdN k) (dgN k) (lsI k) (gsI k) c p fl _ (decide (k≤3)) g ao (Dg.dg 4294967296 m).length ca _ w (fun w1 b1=>jj k c g ao ca (Dg.dg 4294967296 m) p w1 (hr.l b1) (Dg.small_dg _ _ (by omega)) (hT.l b1))
 refine this.mono (fun z w' h=>⟨?_,h.2⟩)
 rw[h.1];unfold Dw
 by_cases c0:gI k c g (Dg.dg 4294967296 m) p=0
 ·rw[if_pos c0,if_pos c0]
 ·rw[if_neg c0,if_neg c0]
theorem XA (t:ak)(to0:Option Addr)(tc:Nat)(w:World)(hr:Rd w .u32 (yT to0 t.n tc) (Dg.dg 4294967296 t.n))(hb:bitLen t.n≤100000)(e1: -100000≤t.e)(e2:t.e≤100000)(hT:Tab w):
  yC 144 #[yDV t to0 tc,yi 128] w fun z w'=> ∃v,z= .returned (.agg #[.bool (eQ t).s,v,yi (eQ t).e])∧Rd w' .u32 v (Dg.dg 4294967296 (eQ t).n)∧yB w w':=by
 have hL:(Dg.dg 4294967296 t.n).length≤100000:=jq (wZ (Nat.le_refl _)) (by omega)
 by_cases hs:bitLen t.n≤128
 ·rw[show eQ t=t from if_pos hs]
  exact(EQ t to0 tc w hr hL hs).mono (fun z w' h=>⟨_,h.1,hr.l h.2,h.2⟩)
 ·have h0:t.n≠0:=fun h=>hs (by rw[h];exact Nat.le_of_lt_succ (by rw[show bitLen 0=0 from rfl];omega))
  obtain⟨sp,hsp⟩: ∃s:Nat,bitLen t.n-128=s:=⟨_,rfl⟩;have hk:eQ t=d8 t.s (t.n/2^sp) (t.e+(sp:Int)) (decide (tz t.n<sp)):=by
   unfold eQ;rw[if_neg hs,hsp]
  rw[hk];have hL2:(Dg.dg 4294967296 (t.n/2^sp)).length≤100000:=Nat.le_trans (aH 4294967296 _ _ (by omega) (Nat.div_le_self _ _)) hL;refine adz t _ to0 tc (t.n/2^sp) (bitLen t.n:Int) (sp:Int) (-(sp:Int)) (tz t.n:Int) (t.e+(sp:Int)) w ?_ (by omega) ?_ ?_ (fun w1=>cN _ _ _ _ _ w1) (fun w1 b=> ?_) (fun w1 b=> ?_) (fun w1 b=> ?_) (fun mo mc w1 hm=> ?_)
  ·rw[show((bitLen t.n:Nat):Int)-128=(sp:Int) from by omega]
   exact IntWalk.i64_in _ ⟨by omega,by omega⟩
  ·exact IntWalk.i64_in _ ⟨by omega,by omega⟩
  ·exact IntWalk.i64_in _ ⟨by omega,by omega⟩
  ·have:=kE _ (Dg.dg 4294967296 t.n) w1 (hr.l b) (Dg.small_dg _ _ (by omega)) (Dg.norm_dg _ _ (by omega)) (by omega)
   rwa [Dg.vl_dg _ _ (by omega)] at this
  ·have:=Gl _ t.n w1 (hr.l b) (by omega) (hT.l b)
   rwa [if_neg h0] at this
  ·have:=eO _ (Dg.dg 4294967296 t.n) (-(sp:Int)) w1 (hr.l b) (Dg.small_dg _ _ (by omega)) (by omega) (by omega) (by omega)
   rwa [Dg.vl_dg _ _ (by omega),show shN t.n (-(sp:Int))=t.n/2^sp from by
    unfold shN;rw[if_pos (by omega),show(-(-(sp:Int))).toNat=sp from by omega]] at this
  ·have:=xG t.s _ (t.n/2^sp) (t.e+(sp:Int)) (decide ((tz t.n:Int)< (sp:Int))) w1 hm (by omega) (by omega) (by omega)
   rwa [show decide ((tz t.n:Int)< (sp:Int))=decide (tz t.n<sp) from decide_eq_decide.2 (by omega)] at this⊢
def sH (t:ak):Prop:= -50000≤t.e∧t.e+(bitLen t.n:Int)≤50000
theorem ab7 {t:ak}(h0:t.n≠0)(h:sH t):(Dg.dg 4294967296 (rtN t)).length≤1200∧(Dg.dg 4294967296 (rtM t)).length≤1200∧ -20000≤rtE t∧rtE t≤20000:=by
 obtain⟨h1,h2⟩:=h;obtain⟨k1,k2,k3,k4,k5⟩:=qY t h0;have hk:(eQ t).e≤50000:=by
  by_cases g:bitLen t.n≤128
  ·rw[show eQ t=t from if_pos g]
   omega
  ·omega
 have hE: -20000≤rtE t∧rtE t≤20000:=by unfold rtE;omega
 refine⟨?_, ?_,hE⟩
 ·have:rtN t<2^ (129+((eQ t).e-rtE t).toNat):=by
   unfold rtN;rw[Nat.pow_add];exact Nat.mul_lt_mul_of_pos_right k3 (bG _)
  exact jq this (by unfold rtE;omega)
 ·have:rtM t<2^ ((rtE t-(eQ t).e).toNat+1):=by
   unfold rtM;exact Nat.pow_lt_pow_right (by omega) (by omega)
  exact jq this (by unfold rtE;omega)
theorem NV (t:ak)(to0:Option Addr)(tc:Nat)(w:World)(h0:t.n≠0)(hn:sH t)(hr:Rd w .u32 (yT to0 t.n tc) (Dg.dg 4294967296 t.n))(hT:Tab w):
  yC 102 #[yDV t to0 tc] w (Kx w t.s (rtN t) (rtM t) (rtE t)):=by
 obtain⟨h1,h2⟩:=hn;obtain⟨k1,k2,k3,k4,k5⟩:=qY t h0;have hk:(eQ t).e≤50000:=by
  by_cases g:bitLen t.n≤128
  ·rw[show eQ t=t from if_pos g]
   omega
  ·omega
 have hL:(Dg.dg 4294967296 (eQ t).n).length≤5:=jq k3 (by omega);have HK:=fun w1 (b:yB w w1)=>XA t to0 tc w1 (hr.l b) (by omega) (by omega) (by omega) (hT.l b)
 have hmx:min (max (eQ t).e (-20000)) 20000=rtE t:=by rw[rtE]
 have key:yC 102 #[yDV t to0 tc] w (Kx w (eQ t).s (rtN t) (rtM t) (rtE t)):=by
  by_cases hlt:rtE t< (eQ t).e
  ·have h20:rtE t=20000∨rtE t= -20000:=by unfold rtE at hlt⊢;omega
   refine Ct t (eQ t) to0 tc (rtE t) ((eQ t).e-rtE t) (rtN t) (rtM t) w hmx HK (fun _=>⟨IntWalk.i64_in _ ⟨by omega,by omega⟩, ?_,fun ko kc w1 hk2=> ?_⟩) (fun h=>by omega)
   ·unfold rtM
    rw[show(rtE t-(eQ t).e).toNat=0 from by omega,Nat.pow_zero]
   ·have:=eO _ (Dg.dg 4294967296 (eQ t).n) ((eQ t).e-rtE t) w1 hk2 (Dg.small_dg _ _ (by omega)) (by omega) (by omega) (by omega)
    rwa [Dg.vl_dg _ _ (by omega),show shN (eQ t).n ((eQ t).e-rtE t)=rtN t from by unfold shN rtN;rw[if_neg (by omega)]] at this
  ·have hE: -20000≤rtE t∧rtE t≤20000:=by unfold rtE;omega
   refine Ct t (eQ t) to0 tc (rtE t) (rtE t-(eQ t).e) (rtN t) (rtM t) w hmx HK (fun h=>by omega) (fun _=>⟨IntWalk.i64_in _ ⟨by omega,by omega⟩, ?_,fun q w1 hq=> ?_⟩)
   ·unfold rtN
    rw[show((eQ t).e-rtE t).toNat=0 from by omega,Nat.pow_zero,Nat.mul_one]
   ·have:=eO (.slice (some ⟨q,0,none⟩) 1 1) [1] (rtE t-(eQ t).e) w1 (xD hq) (Dg.small_cons.2 ⟨by omega,Dg.small_nil _ (by omega)⟩) (by simp) (by omega) (by omega)
    rwa [show Dg.vl 4294967296 [1]=1 from rfl,show shN 1 (rtE t-(eQ t).e)=rtM t from by unfold shN rtM;rw[if_neg (by omega),Nat.one_mul]] at this
 rw[k2] at key;exact key
def fY (k:Nat)(wy:Int)(t:ak):fz:=cI (rdN k) (dgN k) (lsI k) (gsI k) (decide (k≤3)) t.s t.n 1 t.e wy
theorem VA (k:Nat)(hk:1≤k∧k≤8)(wy:Int)(hw:1≤wy∧wy≤5)(t:ak)(h0:t.n≠0)(hn:sH t):
  eE (Dg.dg 4294967296 (rtN t)) (Dg.dg 4294967296 (rtM t)) (rtE t) (rdN k) (dgN k) (lsI k) (gsI k) wy=0∧df (Dg.dg 4294967296 (rtN t)) (Dg.dg 4294967296 (rtM t)) (rtE t) (rdN k) (dgN k) (lsI k) (gsI k) (decide (k≤3)) t.s wy=fY k wy t:=by
 obtain⟨l1,l2,l3,l4⟩:=ab7 h0 hn;obtain⟨-,-,d1,-,-,-,-,-,w64,-,-,hg⟩:=eR hk;have hm:rtM t≠0:=by unfold rtM;have:=bG (rtE t-(eQ t).e).toNat;omega
 have hnn:rtN t≠0:=by
  unfold rtN;exact Nat.mul_ne_zero (qY t h0).1 (by have:=bG ((eQ t).e-rtE t).toNat;omega)
 have ne: ∀{x:Nat},x≠0→(Dg.dg 4294967296 x).length≠0:=fun {x} h c=>h ((Dg.dg_nil_iff 4294967296 x (by omega)).1 (List.length_eq_zero_iff.1 c))
 have hC:eE (Dg.dg 4294967296 (rtN t)) (Dg.dg 4294967296 (rtM t)) (rtE t) (rdN k) (dgN k) (lsI k) (gsI k) wy=0:=by
  have hno: ¬((Dg.dg 4294967296 (rtM t)).length=0∨eJ 20000 (rtE t)=true):=fun c=>by
   rcases c with c|c
   ·exact ne hm c
   ·unfold eJ at c
    simp at c;omega
  have hq:eA (Dg.dg 4294967296 (rtN t)) (Dg.dg 4294967296 (rtM t)) (rtE t)=0:=by
   unfold eA;rw[if_pos (pJ (Dg.norm_dg _ _ (by omega)) l1),if_pos (pJ (Dg.norm_dg _ _ (by omega)) l2),if_neg hno]
  have hy:iC wy=true:=by unfold iC;simpa using hw
  have hwg:jg (eA (Dg.dg 4294967296 (rtN t)) (Dg.dg 4294967296 (rtM t)) (rtE t)) (bk (rdN k) (dgN k) (lsI k) (gsI k))=0:=by
   unfold jg;rw[if_pos hq,hg]
  unfold eE;rw[if_pos hwg,if_pos hy]
 refine⟨hC, ?_⟩;unfold df;rw[if_pos hC,if_neg (ne hnn),Dg.vl_dg _ _ (by omega),Dg.vl_dg _ _ (by omega)];exact X3 t h0 (by omega) (by rw[Int.toNat_natCast];exact w64)
def m8 (k:Nat)(wy c:Int)(g:Bool)(t:ak)(fl:Int):ByteArray×Int×Int:=
 if c=2 then Dw k (pG k wy (fY k wy t)).1 (pG k wy (fY k wy t)).2.1 (pG k wy (fY k wy t)).2.2.1 (pG k wy (fY k wy t)).2.2.2.1 (bits .or .i64 fl (pG k wy (fY k wy t)).2.2.2.2)
 else if c=1 then Dw k 1 (g&&decide (dK k=1)) 0 0 fl else Dw k c g 0 0 fl
theorem AJ (k:Nat)(hk:1≤k∧k≤8)(wy:Int)(hw:1≤wy∧wy≤5)(c fl:Int)(g:Bool)(t:ak)(ro:Option Addr)(rc:Nat)(w:World)(hc:c=2→t.n≠0∧sH t)(hr:Rd w .u32 (yT ro t.n rc) (Dg.dg 4294967296 t.n))(hT:Tab w):
  yC 58 #[dsk k wy,yOV c g t ro rc,yi fl] w (mM (m8 k wy c g t fl) w):=by
 unfold m8
 by_cases h2:c=2
 ·subst h2
  rw[if_pos rfl];obtain⟨h0,hn⟩:=hc rfl;obtain⟨p1,p2⟩:=VA k hk wy hw t h0 hn;refine El k wy (dK k) (rdN k) (dgN k) (lsI k) (gsI k) fl (decide (k≤3)) g t ro rc t.s (rtN t) (rtM t) (rtE t) (fY k wy t).s (fY k wy t).d (fY k wy t).p (fY k wy t).ex (fY k wy t).ov (fY k wy t).un _ _ _ _ _ _ _ _ _ w rfl (fun w1 b=>NV t ro rc w1 h0 hn (hr.l b) (hT.l b)) (fun no nc mo mc w1 b r1 r2=> ?_) (fun po pc w1 b r1=>Px k hk wy hw (fY k wy t) po pc w1 r1) (fun vo vc w1 b r1=>CZ k wy _ _ _ _ _ vo vc w1 r1 (hT.l b))
  have:=jM t.s no nc (Dg.dg 4294967296 (rtN t)) mo mc (Dg.dg 4294967296 (rtM t)) (rtE t) (rdN k) (dgN k) (lsI k) (gsI k) (decide (k≤3)) wy w1 r1 r2 (Dg.small_dg _ _ (by omega)) (Dg.small_dg _ _ (by omega));rw[p1,p2] at this;exact this.mono (fun z w' h=>by
   obtain⟨v,rfl,own,b2⟩:=h;obtain⟨po,pc,hv⟩:=own.rd.shape;subst hv;exact⟨po,pc,rfl,own.rd,b2⟩)
 ·rw[if_neg h2]
  have HE:=fun c' g' w1 (b:yB w w1)=>CZ k wy c' 0 fl g' 0 none 0 w1 (aN _ _) (hT.l b)
  by_cases h1:c=1
  ·subst h1
   rw[if_pos rfl]
   cases g
   ·exact VF _ _ _ _ _ _ _ _ _ _ _ _ _ _ _ w (fun w1 b=>HE 1 false w1 b)
   ·rcases qt hk with hf|hf
    ·rw[hf]
     unfold dsk;rw[hf];exact VG _ _ _ _ _ _ _ _ _ _ _ _ _ _ w (fun w1 b=>by have:=HE 1 true w1 b;unfold dsk at this;rw[hf] at this;exact this)
    ·rw[decide_eq_false (by omega)]
     exact VH _ _ _ _ _ _ _ _ _ _ _ _ _ _ _ w (by simp;omega) (fun w1 b=>HE 1 false w1 b)
  ·rw[if_neg h1]
   exact Rj c g _ _ _ _ _ _ _ _ _ _ _ _ _ _ _ w (by simpa using h2) (by simpa using h1) (fun w1 b=>HE c g w1 b)
theorem vj (k:Nat)(hk:1≤k∧k≤8)(w:World):yC 83 #[yi k] w (yR w (.tuple #[ygV (rdN k) (dgN k) (lsI k) (gsI k) (decide (k≤3)),yi 0])):=by
 rcases bO hk with rfl|rfl|rfl|rfl|rfl|rfl|rfl|rfl
 ·exact SN w
 ·exact SO w
 ·exact SP w
 ·exact SQ w
 ·exact SR w
 ·exact SS w
 ·exact ST w
 ·exact SU w
theorem Fm {k:Nat}(hk:1≤k∧k≤8){ng:Bool}{E F:Nat}(hc:dh k ng E F≠2):ji k ng E F=⟨false,0,0⟩:=by
 by_cases h1:dh k ng E F=1
 ·exact zd hk h1
 have h2:2^exN k=kp k+1:=by
  rcases bO hk with rfl|rfl|rfl|rfl|rfl|rfl|rfl|rfl<;>decide
 have h63:k=3→2^ (dgN k-1)=2^63:=fun h=>by subst h;rfl
 unfold dh at hc h1;unfold ji
 by_cases h3:k≤3
 ·rw[if_pos h3] at hc h1
  by_cases he:E=0
  ·rw[if_pos he] at hc h1
   by_cases hf:F=0
   ·rw[if_pos hf] at h1
    exact absurd rfl h1
   ·rw[if_neg hf] at hc
    exact absurd rfl hc
  ·rw[if_neg he] at hc
   by_cases ho:E=kp k
   ·by_cases h4:k=3
    ·rw[if_pos h4,if_pos (.inl (by omega))]
    ·rw[if_neg h4,if_pos (by omega),if_pos (by omega)]
   ·rw[if_neg ho] at hc
    by_cases h4:k=3∧F<2^63
    ·rw[if_pos h4.1,if_pos (.inr ⟨by omega,by rw[h63 h4.1];exact h4.2⟩)]
    ·rw[if_neg h4] at hc
     exact absurd rfl hc
 ·rw[if_neg h3] at hc h1
  rw[if_neg (show¬k=3 by omega),if_neg (show¬k≤2 by omega)]
  by_cases h5:k≤5
  ·rw[if_pos h5] at hc h1
   by_cases hf:F=0
   ·rw[if_pos hf] at h1
    exact absurd rfl h1
   ·rw[if_neg hf] at hc
    exact absurd rfl hc
  ·rw[if_neg h5] at hc⊢
   by_cases he:E=0
   ·rw[if_pos he]
   ·rw[if_neg he] at hc
    exact absurd rfl hc
theorem XP {k:Nat}(hk:1≤k∧k≤8)(s:ByteArray):
  cC (ix (Dg.dg 4294967296 (ge k (aZ k s) (aR k s) (aU k s))) (gw k (aZ k s) (aR k s) (aU k s)) (rdN k) (dgN k) (lsI k) (gsI k)) ⟨kt k (aZ k s) (aR k s) (aU k s),Dg.vl 4294967296 (Dg.dg 4294967296 (ge k (aZ k s) (aR k s) (aU k s))),(ai (rdN k):Int)*gw k (aZ k s) (aR k s) (aU k s)⟩=(nxT k s,0):=by
 by_cases hc:dh k (aZ k s) (aR k s) (aU k s)=2
 ·exact EX hk s (.inr hc)
 ·have hgr:=(eR hk).2.2.2.2.2.2.2.2.2.2.2
  have hM:ge k (aZ k s) (aR k s) (aU k s)=0:=if_neg hc;have hP:gw k (aZ k s) (aR k s) (aU k s)=0:=if_neg hc;have hnil:Dg.dg 4294967296 0=[]:=(Dg.dg_nil_iff _ _ (by omega)).2 rfl;rw[hM,hP,hnil,kA (by decide) hgr (by decide)];unfold nxT;rw[Fm hk hc];exact uR _ _
theorem zj n (s:ByteArray)(w:World)(hT:Tab w):yC 97 #[yi n,.string s] w (Ys w ((bM n s:Nat):Int) (dz n s) (gJ n s) (iF n s) (opT n s) (dF n s)):=by
 have HD:=fun w1=>fR n s w1
 by_cases hp:dF n s=0
 ·have hf:dK n≠0:=fun hf=>by
   unfold dF at hp;rw[if_pos hf] at hp;omega
  obtain⟨k1,k2,k3⟩:=fF hf;obtain⟨k,rfl⟩: ∃k:Nat,n=(k:Int):=⟨n.toNat,k3.symm⟩;rw[Int.toNat_natCast] at k1 k2;have hk:1≤k∧k≤8:=⟨k1,k2⟩;have hG:dz (k:Int) s=kt k (aZ k s) (aR k s) (aU k s):=by
   unfold dz;rw[if_pos hp,Int.toNat_natCast]
  have hM:gJ (k:Int) s=ge k (aZ k s) (aR k s) (aU k s):=by
   unfold gJ;rw[if_pos hp,Int.toNat_natCast]
  have hP:iF (k:Int) s=gw k (aZ k s) (aR k s) (aU k s):=by
   unfold iF;rw[if_pos hp,Int.toNat_natCast]
  have hO:opT (k:Int) s=nxT k s:=by
   unfold opT;rw[if_pos hp,Int.toNat_natCast]
  rw[hp] at HD⊢;rw[hO];refine abe (k:Int) _ _ _ _ _ _ _ _ _ (nxT k s) s w (fun w1=>vj k hk w1) HD (fun vo vc w1 b r=> ?_)
  have hn:=XP hk s;have hN:=fun w2 (b2:yB w1 w2)=>kB (rdN k) (dgN k) (lsI k) (gsI k) (decide (k≤3)) (dz (k:Int) s) vo vc _ (iF (k:Int) s) false false false w2 (r.l b2) (Dg.small_dg 4294967296 _ (by omega)) (hT.l (aa b b2))
  rw[hG,hM,hP] at hN⊢;rw[hn] at hN;exact IY _ _ _ _ _ _ 0 _ _ vo _ vc (nxT k s) w1 hN
 ·have hC:bM n s=0:=if_neg hp
  have hG:dz n s=false:=if_neg hp;have hM:gJ n s=0:=if_neg hp;have hP:iF n s=0:=if_neg hp;have hO:opT n s=⟨false,0,0⟩:=if_neg hp;rw[hC,hG,hM,hP,hO]
  by_cases hf:dK n=0
  ·have h6:dF n s=6:=by
    unfold dF;rw[if_pos hf]
   rw[h6];exact afp n 6 (by decide) s w (fun w1=>vU n w1 hf)
  ·obtain⟨k1,k2,k3⟩:=fF hf
   obtain⟨k,rfl⟩: ∃k:Nat,n=(k:Int):=⟨n.toNat,k3.symm⟩;rw[Int.toNat_natCast] at k1 k2;exact afq (k:Int) _ hp _ _ _ _ _ _ _ _ _ s w (fun w1=>vj k ⟨k1,k2⟩ w1) HD
theorem mp (k:Nat)(hk:1≤k∧k≤8)(w:World):yC 43 #[yi k] w (yR w (.tuple #[ykV k 0 (dK k) (rdN k) (dgN k) (lsI k) (gsI k) (decide (k≤3)),yi 0])):=
 Yr k _ _ _ _ _ _ w (fun w1=>vj k hk w1) (fun w1=>jk k w1)
def iZ (t:ak):Prop:=t.n<2^64∧ -16500≤t.e∧t.e≤16500
theorem VZ {k:Nat}(hk:1≤k∧k≤8)(s:ByteArray)(hc:dh k (aZ k s) (aR k s) (aU k s)=2):(ji k (aZ k s) (aR k s) (aU k s)).n<2^64∧ -16445≤(ji k (aZ k s) (aR k s) (aU k s)).e∧(ji k (aZ k s) (aR k s) (aU k s)).e≤16464∧(ji k (aZ k s) (aR k s) (aU k s)).n≠0:=by
 obtain⟨s1,s2⟩:=Cu k s;have h64:=mZ hk s2;obtain⟨v1,v2,-,-⟩:=J9 hk s1 s2 hc;have hb:=rT hk s1 s2 h64 hc (Nat.ne_of_gt (jX hc));have hT:=iq hk s1 s2 hc;rw[wQ hk] at hT;refine⟨?_,v1,v2, ?_⟩
 ·rw[hT,←hb]
  exact Nat.lt_of_le_of_lt (kR _) (J8 hk _ _ h64)
 ·rw[hT]
  exact(gN (t:=⟨_,_,_⟩) (Nat.ne_of_gt (jX hc))).1
theorem ir {k:Nat}(hk:1≤k∧k≤8){p:ByteArray}(h:dF k p=0):iZ (opT k p)∧(bM k p≠2→opT k p=⟨false,0,0⟩)∧(bM k p=2→(opT k p).n≠0):=by
 have e:opT k p=ji k (aZ k p) (aR k p) (aU k p):=by
  unfold opT nxT;rw[if_pos h,Int.toNat_natCast]
 have ec:bM k p=dh k (aZ k p) (aR k p) (aU k p):=by
  unfold bM;rw[if_pos h,Int.toNat_natCast]
 rw[e,ec]
 by_cases hc:dh k (aZ k p) (aR k p) (aU k p)=2
 ·obtain⟨s1,s2,s3,s4⟩:=VZ hk p hc
  exact⟨⟨s1,by omega,by omega⟩,fun c=>absurd hc c,fun _=>s4⟩
 ·have:=Fm hk (ng:=aZ k p) (E:=aR k p) (F:=aU k p) hc
  rw[this];exact⟨⟨by show(0:Nat)<2^64;exact Nat.two_pow_pos 64,by show(-16500:Int)≤0;omega,by show 0≤16500;omega⟩,fun _=>rfl,fun c=>absurd c hc⟩
def noV (k:Nat)(fl:Int):Int×Bool×ak×Int:=(AZ (dK k),false,⟨false,0,0⟩,fl)
def nu (t:ak)(sg:Bool):Int×Bool×ak×Int:=(vI t,xr t sg,tF t,0)
def vY (k:Nat)(wy cx:Int)(gx:Bool)(x:ak)(cy:Int)(gy:Bool)(y:ak):Int×Bool×ak×Int:=
 if cx=3∧cy=3∧gx≠gy then noV k 16 else if cx=3 then(3,gx,x,0) else if cy=3 then(3,gy,y,0) else nu (aG x y) (if gx=gy then gx else decide (wy=5))
abbrev opV (c:Int)(g:Bool)(t:ak)(o:Option Addr)(k:Nat):Value:=(yOV c g t o k)
abbrev rdT (w:World)(t:ak)(o:Option Addr)(k:Nat):Prop:=Rd w .u32 (yT o t.n k) (Dg.dg 4294967296 t.n)
abbrev RE (w:World)(f:Int×Bool×ak×Int):Ending→World→Prop:=dU w f.1 f.2.1 f.2.2.1 f.2.2.2
theorem lV (k:Nat)(hk:1≤k∧k≤8)(wy fl:Int)(w:World):yC 59 #[dsk k wy,yi fl] w (yR w (.tuple #[yoV (AZ (dK k)) false false yN 0,yi fl])):=
 Pb _ _ _ _ _ _ _ _ _ _ w (fun w1=>A5 _ (qt hk) w1)
def Mid (t:ak):Prop:=(Dg.dg 4294967296 t.n).length≤100000∧ -100000≤t.e∧t.e≤100000
theorem ne3 {c:Int}(h:c≠3):(c==3)=false:=by simpa using h
theorem ne1 {c:Int}(h:c≠1):(c==1)=false:=by simpa using h
theorem GQ (k:Nat)(hk:1≤k∧k≤8)(wy cx cy:Int)(gx gy:Bool)(x y:ak)(xo yo:Option Addr)(xc yc:Nat)(w:World)(rx:rdT w x xo xc)(ry:rdT w y yo yc)(mx:Mid x)(my:Mid y):
  yC 31 #[dsk k wy,opV cx gx x xo xc,opV cy gy y yo yc] w (RE w (vY k wy cx gx x cy gy y)):=by
 unfold vY
 by_cases hx:cx=3
 ·subst hx
  by_cases hy:cy=3
  ·subst hy
   cases gx<;>cases gy
   ·rw[if_neg (by simp),if_pos rfl]
    exact S4 _ _ _ _ _ _ _ _ _ _ _ _ _ _ _ w rx
   ·rw[if_pos (by simp)]
    exact RC _ _ _ _ _ _ _ _ _ _ _ _ _ _ _ w (fun w1=>lV k hk wy 16 w1)
   ·rw[if_pos (by simp)]
    exact Rz _ _ _ _ _ _ _ _ _ _ _ _ _ _ _ w (fun w1=>lV k hk wy 16 w1)
   ·rw[if_neg (by simp),if_pos rfl]
    exact S4 _ _ _ _ _ _ _ _ _ _ _ _ _ _ _ w rx
  ·rw[if_neg (fun c=>hy c.2.1),if_pos rfl]
   exact adM _ _ _ _ _ _ _ _ _ _ _ _ _ _ _ _ _ w (ne3 hy) rx
 ·rw[if_neg (fun c=>hx c.1),if_neg hx]
  by_cases hy:cy=3
  ·subst hy
   rw[if_pos rfl];exact adN _ _ _ _ _ _ _ _ _ _ _ _ _ _ _ _ _ w (ne3 hx) ry
  ·rw[if_neg hy]
   exact Ng _ _ _ _ _ _ _ _ _ _ _ _ _ _ _ _ _ _ _ w rfl (ne3 hx) (ne3 hy) (fun w1 b=>uj _ _ x y w1 ⟨_,rfl,rx.l b⟩ ⟨_,rfl,ry.l b⟩ mx.1 my.1 mx.2.1 mx.2.2 my.2.1 my.2.2)
theorem acw (n way f1 e1:Int)(a b st:ByteArray)(w:World)
  (HR: ∀pb w1,yB w w1→au w1 pb 9 [.string a,.string b]→yC 29 #[yi n,yi way,.func (.func 30) #[] #[],.slice (some ⟨pb,0,none⟩) 2 2] w1 (yR w1 (.tuple #[.string st,yi f1,yi e1]))):
  yC 8 #[yi n,.string a,.string b,yi way] w (yR w (.tuple #[.string st,yi f1,yi e1])):=by
 replace HR:Hid _:=HR;have al:=af w (.cells #[.string a,.string b] 9);have ln:=ah w [.string a,.string b] 9
 go_enter func8,ntmps8
 go_wp2_with fail
 refine(HR.out _ _ al ln).mono ?_;rintro z w1 ⟨rfl,b1⟩;have b2:=aa al b1
 go_wp2
 go_ret3
 exact⟨rfl,b2⟩
def jA:ByteArray:=cF [63,128,0,0]
def tE:ByteArray:=cF [64,0,0,0]
theorem IQ:dF 1 jA=0∧bM 1 jA=2∧dz 1 jA=false∧opT 1 jA=⟨false,1,0⟩:=by
 refine⟨?_, ?_, ?_, ?_⟩<;>kernel_rfl
theorem X8:aG ⟨false,1,0⟩ ⟨false,1,0⟩=⟨false,2,0⟩:=by kernel_rfl
theorem IR:eE [2] [1] 0 2 24 (-149) 104 1=0∧df [2] [1] 0 2 24 (-149) 104 true false 1=⟨false,8388608,-22,true,false,false⟩:=by
 refine⟨?_, ?_⟩<;>kernel_rfl
theorem Su:gI 1 2 false [8388608] (-22)=0∧fq 1 2 false [8388608] (-22)=tE:=by
 refine⟨?_, ?_⟩<;>kernel_rfl
theorem zw {a b x:Nat}(h:x<2^a)(hab:a≤b):x<2^b:=Nat.lt_of_lt_of_le h (Nat.pow_le_pow_right (by omega) hab)
theorem I3 {a b:ak}{A B:Nat}{H:Int}(ha:a.n<2^A)(hb:b.n<2^B)(h1:a.e+A≤H)(h2:b.e+B≤H):(aG a b).e=min a.e b.e∧(aG a b).e+(bitLen (aG a b).n:Int)≤H+1:=by
 obtain⟨e,he⟩: ∃e,min a.e b.e=e:=⟨_,rfl⟩;have x1:a.n*2^ (a.e-e).toNat<2^ (H-e).toNat:=by
  refine zw (a:=A+(a.e-e).toNat) ?_ (by omega);rw[Nat.pow_add];exact Nat.mul_lt_mul_of_pos_right ha (bG _)
 have y1:b.n*2^ (b.e-e).toNat<2^ (H-e).toNat:=by
  refine zw (a:=B+(b.e-e).toNat) ?_ (by omega);rw[Nat.pow_add];exact Nat.mul_lt_mul_of_pos_right hb (bG _)
 have key:(aG a b).e=e∧(aG a b).n<2^ ((H-e).toNat+1):=by
  unfold aG;simp only;rw[he,Nat.pow_succ]
  split
  ·exact⟨rfl,by show _+_<_;omega⟩
  ·split
   ·exact⟨rfl,by show _-_<_;omega⟩
   ·exact⟨rfl,by show _-_<_;omega⟩
 have:=bF _ _ key.2;refine⟨key.1.trans he.symm, ?_⟩;rw[key.1];omega
theorem xt {t:ak}{sg:Bool}(hn:sH t)(h:(nu t sg).1=2):(nu t sg).2.2.1.n≠0∧sH (nu t sg).2.2.1:=by
 have h0:t.n≠0:=fun c=>by
  have:vI t=2:=h;unfold vI at this;rw[if_pos c] at this;omega
 have e:(nu t sg).2.2.1=t:=if_neg h0;rw[e];exact⟨h0,hn⟩
theorem vN {k:Nat}{fl:Int}(h:(noV k fl).1=2):False:=by
 have:AZ (dK k)=2:=h;unfold AZ at this
 split at this
 ·omega
 ·split at this<;>omega
theorem FU {k:Nat}{wy cx cy:Int}{gx gy:Bool}{x y:ak}(hn:sH (aG x y))(h:(vY k wy cx gx x cy gy y).1=2):(vY k wy cx gx x cy gy y).2.2.1.n≠0∧sH (vY k wy cx gx x cy gy y).2.2.1:=by
 unfold vY at h⊢
 by_cases c1:cx=3∧cy=3∧gx≠gy
 ·rw[if_pos c1] at h
  exact(vN h).elim
 rw[if_neg c1] at h⊢
 by_cases c2:cx=3
 ·rw[if_pos c2] at h
  simp at h
 rw[if_neg c2] at h⊢
 by_cases c3:cy=3
 ·rw[if_pos c3] at h
  simp at h
 rw[if_neg c3] at h⊢;exact xt hn h
theorem jB {t:ak}(h:iZ t):Mid t:=⟨jq h.1 (by omega),by have:=h.2;omega,by have:=h.2;omega⟩
theorem rJ {x y:ak}(hx:iZ x)(hy:iZ y):sH (aG x y)∧sH (aK x y)∧(aK x y).n<2^128∧ -33000≤(aK x y).e∧(aK x y).e≤33000:=by
 obtain⟨x1,x2,x3⟩:=hx;obtain⟨y1,y2,y3⟩:=hy;have hp:=I3 (H:=16564) x1 y1 (by omega) (by omega);have ht:(aK x y).n<2^128:=by
  show x.n*y.n<_
  rw[show(128:Nat)=64+64 from rfl,Nat.pow_add]
  exact Nat.mul_lt_mul'' x1 y1
 have hb:=bF _ _ ht;have he:(aK x y).e=x.e+y.e:=rfl;refine⟨⟨by omega,by omega⟩,⟨by omega,by omega⟩,ht,by omega,by omega⟩
def jV (n way:Int)(ps:List ByteArray)(f:Int×Bool×ak×Int):ByteArray×Int×Int:=
 if dK n=0 then(⟨#[]⟩,0,6) else if fT n ps≠0 then(⟨#[]⟩,0,fT n ps) else if way<1∨5<way then(⟨#[]⟩,0,6)
 else if ps.any (dO n)=true then m8 n.toNat way (AZ (dK n)) false ⟨false,0,0⟩ (if dK n=1 then 0 else 16) else m8 n.toNat way f.1 f.2.1 f.2.2.1 f.2.2.2
theorem nQ (n way:Int)(ps:List ByteArray)(f:Int×Bool×ak×Int)(F pb:Nat)(w:World)(hm3:ps.length≤3)(hm0:1≤ps.length)(hp:au w pb 9 (ps.map Value.string))(hfn: ∀args W,(callFunc F args).run Tryz.prog W= .ok (.enter F args) W)(hT:Tab w)
  (HF: ∀k:Nat,1≤k∧k≤8→n=(k:Int)→fT n ps=0→ps.any (dO n)=false→(f.1=2→f.2.2.1.n≠0∧sH f.2.2.1)∧ ∀g cap w1,yB w w1→sF w1 n ps g cap→yC F #[dsk k way,.slice (some ⟨g,0,none⟩) ps.length cap] w1 (RE w1 f)):
  yC 29 #[yi n,yi way,.func (.func F) #[] #[],.slice (some ⟨pb,0,none⟩) ps.length ps.length] w (mM (jV n way ps f) w):=by
 unfold jV
 by_cases hf:dK n=0
 ·rw[if_pos hf]
  exact Rk n way 6 F ps.length pb w (by decide) (fun w1=>FM n 6 (by decide) w1 (fun w3=>vU n w3 hf))
 rw[if_neg hf];obtain⟨k1,k2,k3⟩:=fF hf;obtain⟨k,rfl⟩: ∃k:Nat,n=(k:Int):=⟨n.toNat,k3.symm⟩;rw[Int.toNat_natCast] at k1 k2;have hk:1≤k∧k≤8:=⟨k1,k2⟩;have HD:=fun w1=>mp k hk w1
 have HO:=fun w1 (b:yB w w1)=>vQ (k:Int) 0 (dK (k:Int)) (rdN k) (dgN k) (lsI k) (gsI k) (decide (k≤3)) ps pb w1 (hp.l b) hm3 (fun p w3 b3=>zj (k:Int) p w3 ((hT.l b).l b3))
 by_cases he:fT (k:Int) ps=0
 ·rw[if_neg (fun c=>c he)]
  have HO2: ∀w1,yB w w1→yC 55 #[dsk k 0,.slice (some ⟨pb,0,none⟩) ps.length ps.length] w1 fun z w'=> ∃g cap,z= .returned (.tuple #[.slice (some ⟨g,0,none⟩) ps.length cap,yi 0])∧sF w' (k:Int) ps g cap∧w1.heap.size≤g∧yB w1 w':=fun w1 b=>by
   refine(HO w1 b).mono (fun z w' hz=> ?_)
   obtain⟨-,v,cs,rfl,hown,hat,b2⟩:=hz.resolve_right (fun h=>h.1 he)
   obtain⟨g,cap,hv,hV⟩:=JF (fun h=>by subst h;simp at hm0) hown hat
   subst hv;exact⟨g,cap,rfl,hV,(World.ownsRow.lt hown g rfl).1,b2⟩
  by_cases hw1:way<1
  ·rw[if_pos (.inl hw1)]
   exact NX (k:Int) _ _ _ _ _ way _ F ps.length ps pb w hw1 HD HO2
  by_cases hw2:5<way
  ·rw[if_pos (.inr hw2)]
   exact NY (k:Int) _ _ _ _ _ way _ F ps.length ps pb w hw1 hw2 HD HO2
  rw[if_neg (by omega)];have hw:1≤way∧way≤5:=by omega
  rw[Int.toNat_natCast]
  by_cases hN:ps.any (dO (k:Int))=true
  ·rw[if_pos hN]
   have HX: ∀g cap w1,sF w1 (k:Int) ps g cap→yC 56 #[.slice (some ⟨g,0,none⟩) ps.length cap] w1 (yR w1 (.bool true)):=fun g cap w1 h=>by
    have:=wJ (k:Int) ps g cap w1 h hm3
    rwa [hN] at this
   have hc:AZ (dK (k:Int))=2→(⟨false,0,0⟩:ak).n≠0∧sH ⟨false,0,0⟩:=fun h=>(vN (k:=k) (fl:=0) h).elim
   by_cases h1:dK (k:Int)=1
   ·rw[if_pos h1]
    have HA:=fun w1 (b:yB w w1)=>AJ k hk way hw (AZ (dK (k:Int))) 0 false ⟨false,0,0⟩ none 0 w1 hc (aN _ _) (hT.l b)
    have HN:=fun w1=>lV k hk way 0 w1
    unfold dsk at HA HN HO2;rw[h1] at HD HO2 HA HN⊢;exact Rm _ _ _ _ (k:Int) _ _ _ _ way _ F ps.length ps pb w hw1 hw2 HD HO2 HX HN HA
   ·rw[if_neg h1]
    exact Rn _ _ _ _ (k:Int) _ _ _ _ _ way _ F ps.length ps pb w hw1 hw2 (by simpa using h1) HD HO2 HX (fun w1=>lV k hk way 16 w1) (fun w1 b=>AJ k hk way hw _ 16 false ⟨false,0,0⟩ none 0 w1 hc (aN _ _) (hT.l b))
  ·rw[if_neg hN]
   have hN':ps.any (dO (k:Int))=false:=by simpa using hN
   obtain⟨hc,HFc⟩:=HF k hk rfl he hN';exact IP (k:Int) _ _ _ _ _ way _ _ _ _ _ _ _ F ps.length ps pb _ w hw.1 hw.2 rfl hm3 hm0 he hN' hp hfn HD (fun w1 b _=>HO w1 b) (fun g cap w1 b h=>HFc g cap w1 b h) (fun ro rc w1 b r=>AJ k hk way hw _ _ _ _ ro rc w1 hc r (hT.l b))
 ·rw[if_pos he]
  refine Rl _ (k:Int) _ _ _ _ _ way _ F ps.length pb w (by simpa using he) HD (fun w1 b=>(HO w1 b).mono (fun z w' hz=> ?_))
  rcases hz with h|h
  ·exact absurd h.1 he
  ·exact h.2
end Go.Proofs.YtbdokgamhinajaaGreatDoor
