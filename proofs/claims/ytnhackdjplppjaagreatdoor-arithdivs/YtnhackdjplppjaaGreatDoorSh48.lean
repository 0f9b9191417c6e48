/-
  Texts laid together: Pa2, Pa3, Pa4, Pa6.
-/
import Derived.Test.YtnhackdjplppjaaGreatDoorSh47
import Derived.Test.YtnhackdjplppjaaGreatDoorSh41
namespace Go.Proofs.YtnhackdjplppjaaGreatDoor
open Go.RowKit
def sH (t:ak):Prop:= -50000≤t.e∧t.e+(bitLen t.n:Int)≤50000
theorem ab7 {t:ak}(h0:t.n≠0)(h:sH t):(Dg.dg 4294967296 (rtN t)).length≤1200∧(Dg.dg 4294967296 (rtM t)).length≤1200∧ -20000≤rtE t∧rtE t≤20000:=by
 obtain⟨h1,h2⟩:=h;obtain⟨k1,k2,k3,k4,k5⟩:=qY t h0;have hk:(eQ t).e≤50000:=by
  by_cases g:bitLen t.n≤128
  ·rw[show eQ t=t from if_pos g]
   omega
  ·omega
 have hE: -20000≤rtE t∧rtE t≤20000:=by unfold rtE;omega
 refine⟨?_, ?_,hE⟩
 ·have:rtN t<2^ (129+((eQ t).e-rtE t).toNat):=by
   unfold rtN;rw[Nat.pow_add];exact Nat.mul_lt_mul_of_pos_right k3 (bG _)
  exact jq this (by unfold rtE;omega)
 ·have:rtM t<2^ ((rtE t-(eQ t).e).toNat+1):=by
   unfold rtM;exact Nat.pow_lt_pow_right (by omega) (by omega)
  exact jq this (by unfold rtE;omega)
theorem NV (t:ak)(to0:Option Addr)(tc:Nat)(w:World)(h0:t.n≠0)(hn:sH t)(hr:Rd w .u32 (.slice to0 (Dg.dg 4294967296 t.n).length tc) (Dg.dg 4294967296 t.n))(hT:Tab w):
  yC 164 #[yDV t to0 tc] w (Kx w t.s (rtN t) (rtM t) (rtE t)):=by
 obtain⟨h1,h2⟩:=hn;obtain⟨k1,k2,k3,k4,k5⟩:=qY t h0;have hk:(eQ t).e≤50000:=by
  by_cases g:bitLen t.n≤128
  ·rw[show eQ t=t from if_pos g]
   omega
  ·omega
 have hL:(Dg.dg 4294967296 (eQ t).n).length≤5:=jq k3 (by omega);have HK:=fun w1 (b:yB w w1)=>XA t to0 tc w1 (hr.l b) (by omega) (by omega) (by omega) (hT.l b)
 have hmx:min (max (eQ t).e (-20000)) 20000=rtE t:=by rw[rtE]
 have key:yC 164 #[yDV t to0 tc] w (Kx w (eQ t).s (rtN t) (rtM t) (rtE t)):=by
  by_cases hlt:rtE t< (eQ t).e
  ·have h20:rtE t=20000∨rtE t= -20000:=by unfold rtE at hlt⊢;omega
   refine Ct t (eQ t) to0 tc (rtE t) ((eQ t).e-rtE t) (rtN t) (rtM t) w hmx HK (fun _=>⟨IntWalk.i64_in _ ⟨by omega,by omega⟩, ?_,fun ko kc w1 hk2=> ?_⟩) (fun h=>by omega)
   ·unfold rtM
    rw[show(rtE t-(eQ t).e).toNat=0 from by omega,Nat.pow_zero]
   ·have:=eO _ (Dg.dg 4294967296 (eQ t).n) ((eQ t).e-rtE t) w1 hk2 (Dg.small_dg _ _ (by omega)) (by omega) (by omega) (by omega)
    rwa [Dg.vl_dg _ _ (by omega),show shN (eQ t).n ((eQ t).e-rtE t)=rtN t from by unfold shN rtN;rw[if_neg (by omega)]] at this
  ·have hE: -20000≤rtE t∧rtE t≤20000:=by unfold rtE;omega
   refine Ct t (eQ t) to0 tc (rtE t) (rtE t-(eQ t).e) (rtN t) (rtM t) w hmx HK (fun h=>by omega) (fun _=>⟨IntWalk.i64_in _ ⟨by omega,by omega⟩, ?_,fun q w1 hq=> ?_⟩)
   ·unfold rtN
    rw[show((eQ t).e-rtE t).toNat=0 from by omega,Nat.pow_zero,Nat.mul_one]
   ·have:=eO (.slice (some ⟨q,0,none⟩) 1 1) [1] (rtE t-(eQ t).e) w1 (xD hq) (Dg.small_cons.2 ⟨by omega,Dg.small_nil _ (by omega)⟩) (by simp) (by omega) (by omega)
    rwa [show Dg.vl 4294967296 [1]=1 from rfl,show shN 1 (rtE t-(eQ t).e)=rtM t from by unfold shN rtM;rw[if_neg (by omega),Nat.one_mul]] at this
 rw[k2] at key;exact key
def fY (k:Nat)(wy:Int)(t:ak):fz:=cI (rdN k:Int) (dgN k:Int) (lsI k) (gsI k) (decide (k≤3)) t.s t.n 1 t.e wy
theorem VA (k:Nat)(hk:1≤k∧k≤8)(wy:Int)(hw:1≤wy∧wy≤5)(t:ak)(h0:t.n≠0)(hn:sH t):
  eE (Dg.dg 4294967296 (rtN t)) (Dg.dg 4294967296 (rtM t)) (rtE t) (rdN k:Int) (dgN k:Int) (lsI k) (gsI k) wy=0∧df (Dg.dg 4294967296 (rtN t)) (Dg.dg 4294967296 (rtM t)) (rtE t) (rdN k:Int) (dgN k:Int) (lsI k) (gsI k) (decide (k≤3)) t.s wy=fY k wy t:=by
 obtain⟨l1,l2,l3,l4⟩:=ab7 h0 hn;obtain⟨-,-,d1,-,-,-,-,-,w64,-,-,hg⟩:=eR hk;have hm:rtM t≠0:=by unfold rtM;have:=bG (rtE t-(eQ t).e).toNat;omega
 have hnn:rtN t≠0:=by
  unfold rtN;exact Nat.mul_ne_zero (qY t h0).1 (by have:=bG ((eQ t).e-rtE t).toNat;omega)
 have ne: ∀{x:Nat},x≠0→(Dg.dg 4294967296 x).length≠0:=fun {x} h c=>h ((Dg.dg_nil_iff 4294967296 x (by omega)).1 (List.length_eq_zero_iff.1 c))
 have hC:eE (Dg.dg 4294967296 (rtN t)) (Dg.dg 4294967296 (rtM t)) (rtE t) (rdN k:Int) (dgN k:Int) (lsI k) (gsI k) wy=0:=by
  have hno: ¬((Dg.dg 4294967296 (rtM t)).length=0∨eJ 20000 (rtE t)=true):=fun c=>by
   rcases c with c|c
   ·exact ne hm c
   ·unfold eJ at c
    simp at c;omega
  have hq:eA (Dg.dg 4294967296 (rtN t)) (Dg.dg 4294967296 (rtM t)) (rtE t)=0:=by
   unfold eA;rw[if_pos (pJ (Dg.norm_dg _ _ (by omega)) l1),if_pos (pJ (Dg.norm_dg _ _ (by omega)) l2),if_neg hno]
  have hy:iC wy=true:=by unfold iC;simpa using hw
  have hwg:jg (eA (Dg.dg 4294967296 (rtN t)) (Dg.dg 4294967296 (rtM t)) (rtE t)) (bk (rdN k:Int) (dgN k:Int) (lsI k) (gsI k))=0:=by
   unfold jg;rw[if_pos hq,hg]
  unfold eE;rw[if_pos hwg,if_pos hy]
 refine⟨hC, ?_⟩;unfold df;rw[if_pos hC,if_neg (ne hnn),Dg.vl_dg _ _ (by omega),Dg.vl_dg _ _ (by omega)];exact X3 t h0 (by omega) (by rw[Int.toNat_natCast];exact w64)
def m8 (k:Nat)(wy c:Int)(g:Bool)(t:ak)(fl:Int):ByteArray×Int×Int:=
 if c=2 then Dw k (pG k wy (fY k wy t)).1 (pG k wy (fY k wy t)).2.1 (pG k wy (fY k wy t)).2.2.1 (pG k wy (fY k wy t)).2.2.2.1 (bits .or .i64 fl (pG k wy (fY k wy t)).2.2.2.2)
 else if c=1 then Dw k 1 (g&&decide (dK (k:Int)=1)) 0 0 fl else Dw k c g 0 0 fl
theorem AJ (k:Nat)(hk:1≤k∧k≤8)(wy:Int)(hw:1≤wy∧wy≤5)(c fl:Int)(g:Bool)(t:ak)(ro:Option Addr)(rc:Nat)(w:World)(hc:c=2→t.n≠0∧sH t)(hr:Rd w .u32 (.slice ro (Dg.dg 4294967296 t.n).length rc) (Dg.dg 4294967296 t.n))(hT:Tab w):
  yC 107 #[dsk k wy,yOV c g t ro rc,yi fl] w (mM (m8 k wy c g t fl) w):=by
 unfold m8
 by_cases h2:c=2
 ·subst h2
  rw[if_pos rfl];obtain⟨h0,hn⟩:=hc rfl;obtain⟨p1,p2⟩:=VA k hk wy hw t h0 hn;refine El (k:Int) wy (dK (k:Int)) (rdN k:Int) (dgN k:Int) (lsI k) (gsI k) fl (decide (k≤3)) g t ro rc t.s (rtN t) (rtM t) (rtE t) (fY k wy t).s (fY k wy t).d (fY k wy t).p (fY k wy t).ex (fY k wy t).ov (fY k wy t).un _ _ _ _ _ _ _ _ _ w rfl (fun w1 b=>NV t ro rc w1 h0 hn (hr.l b) (hT.l b)) (fun no nc mo mc w1 b r1 r2=> ?_) (fun po pc w1 b r1=>Px k hk wy hw (fY k wy t) po pc w1 r1) (fun vo vc w1 b r1=>CZ k wy _ _ _ _ _ vo vc w1 r1 (hT.l b))
  have:=jM t.s no nc (Dg.dg 4294967296 (rtN t)) mo mc (Dg.dg 4294967296 (rtM t)) (rtE t) (rdN k:Int) (dgN k:Int) (lsI k) (gsI k) (decide (k≤3)) wy w1 r1 r2 (Dg.small_dg _ _ (by omega)) (Dg.small_dg _ _ (by omega));rw[p1,p2] at this;exact this.mono (fun z w' h=>by
   obtain⟨v,rfl,own,b2⟩:=h;obtain⟨po,pc,hv⟩:=own.rd.shape;subst hv;exact⟨po,pc,rfl,own.rd,b2⟩)
 ·rw[if_neg h2]
  have HE:=fun c' g' w1 (b:yB w w1)=>CZ k wy c' 0 fl g' 0 none 0 w1 (aN _ _) (hT.l b)
  by_cases h1:c=1
  ·subst h1
   rw[if_pos rfl]
   cases g
   ·exact VF _ _ _ _ _ _ _ _ _ _ _ _ _ _ _ w (fun w1 b=>HE 1 false w1 b)
   ·rcases qt hk with hf|hf
    ·rw[hf]
     unfold dsk;rw[hf];exact VG _ _ _ _ _ _ _ _ _ _ _ _ _ _ w (fun w1 b=>by have:=HE 1 true w1 b;unfold dsk at this;rw[hf] at this;exact this)
    ·rw[decide_eq_false (by omega)]
     exact VH _ _ _ _ _ _ _ _ _ _ _ _ _ _ _ w (by simp;omega) (fun w1 b=>HE 1 false w1 b)
  ·rw[if_neg h1]
   exact Rj c g _ _ _ _ _ _ _ _ _ _ _ _ _ _ _ w (by simpa using h2) (by simpa using h1) (fun w1 b=>HE c g w1 b)
def noV (k:Nat)(fl:Int):Int×Bool×ak×Int:=(AZ (dK (k:Int)),false,⟨false,0,0⟩,fl)
abbrev RE (w:World)(f:Int×Bool×ak×Int):Ending→World→Prop:=dU w f.1 f.2.1 f.2.2.1 f.2.2.2
theorem lV (k:Nat)(hk:1≤k∧k≤8)(wy fl:Int)(w:World):yC 108 #[dsk k wy,yi fl] w (yR w (.tuple #[yoV (AZ (dK (k:Int))) false false (.slice none 0 0) 0,yi fl])):=
 Pb _ _ _ _ _ _ _ _ _ _ w (fun w1=>A5 _ (qt hk) w1)
theorem ne3 {c:Int}(h:c≠3):(c==3)=false:=by simpa using h
theorem ne1 {c:Int}(h:c≠1):(c==1)=false:=by simpa using h
theorem vN {k:Nat}{fl:Int}(h:(noV k fl).1=2):False:=by
 have:AZ (dK (k:Int))=2:=h;unfold AZ at this
 split at this
 ·omega
 ·split at this<;>omega
def jV (n way:Int)(ps:List ByteArray)(f:Int×Bool×ak×Int):ByteArray×Int×Int:=
 if dK n=0 then(⟨#[]⟩,0,6) else if fT n ps≠0 then(⟨#[]⟩,0,fT n ps) else if way<1∨5<way then(⟨#[]⟩,0,6)
 else if ps.any (dO n)=true then m8 n.toNat way (AZ (dK n)) false ⟨false,0,0⟩ (if dK n=1 then 0 else 16) else m8 n.toNat way f.1 f.2.1 f.2.2.1 f.2.2.2
theorem nQ (n way:Int)(ps:List ByteArray)(f:Int×Bool×ak×Int)(F pb:Nat)(w:World)(hm3:ps.length≤3)(hm0:1≤ps.length)(hp:au w pb 9 (ps.map Value.string))(hfn: ∀args W,(callFunc F args).run Tryz.prog W= .ok (.enter F args) W)(hT:Tab w)
  (HF: ∀k:Nat,1≤k∧k≤8→n=(k:Int)→fT n ps=0→ps.any (dO n)=false→(f.1=2→f.2.2.1.n≠0∧sH f.2.2.1)∧ ∀g cap w1,yB w w1→sF w1 n ps g cap→yC F #[dsk k way,.slice (some ⟨g,0,none⟩) ps.length cap] w1 (RE w1 f)):
  yC 53 #[yi n,yi way,.func (.func F) #[] #[],.slice (some ⟨pb,0,none⟩) ps.length ps.length] w (mM (jV n way ps f) w):=by
 unfold jV
 by_cases hf:dK n=0
 ·rw[if_pos hf]
  exact Rk n way 6 F ps.length pb w (by decide) (fun w1=>FM n 6 (by decide) w1 (fun w3=>vU n w3 hf))
 rw[if_neg hf];obtain⟨k1,k2,k3⟩:=fF hf;obtain⟨k,rfl⟩: ∃k:Nat,n=(k:Int):=⟨n.toNat,k3.symm⟩;rw[Int.toNat_natCast] at k1 k2;have hk:1≤k∧k≤8:=⟨k1,k2⟩;have HD:=fun w1=>mp k hk w1
 have HO:=fun w1 (b:yB w w1)=>vQ (k:Int) 0 (dK (k:Int)) (rdN k:Int) (dgN k:Int) (lsI k) (gsI k) (decide (k≤3)) ps pb w1 (hp.l b) hm3 (fun p w3 b3=>zj (k:Int) p w3 ((hT.l b).l b3))
 by_cases he:fT (k:Int) ps=0
 ·rw[if_neg (fun c=>c he)]
  have HO2: ∀w1,yB w w1→yC 81 #[dsk k 0,.slice (some ⟨pb,0,none⟩) ps.length ps.length] w1 fun z w'=> ∃g cap,z= .returned (.tuple #[.slice (some ⟨g,0,none⟩) ps.length cap,yi 0])∧sF w' (k:Int) ps g cap∧w1.heap.size≤g∧yB w1 w':=fun w1 b=>by
   refine(HO w1 b).mono (fun z w' hz=> ?_)
   obtain⟨-,v,cs,rfl,hown,hat,b2⟩:=hz.resolve_right (fun h=>h.1 he)
   obtain⟨g,cap,hv,hV⟩:=JF (fun h=>by subst h;simp at hm0) hown hat
   subst hv;exact⟨g,cap,rfl,hV,(World.ownsRow.lt hown g rfl).1,b2⟩
  by_cases hw1:way<1
  ·rw[if_pos (.inl hw1)]
   exact NX (k:Int) _ _ _ _ _ way _ F ps.length ps pb w hw1 HD HO2
  by_cases hw2:5<way
  ·rw[if_pos (.inr hw2)]
   exact NY (k:Int) _ _ _ _ _ way _ F ps.length ps pb w hw1 hw2 HD HO2
  rw[if_neg (by omega)];have hw:1≤way∧way≤5:=by omega
  rw[Int.toNat_natCast]
  by_cases hN:ps.any (dO (k:Int))=true
  ·rw[if_pos hN]
   have HX: ∀g cap w1,sF w1 (k:Int) ps g cap→yC 82 #[.slice (some ⟨g,0,none⟩) ps.length cap] w1 (yR w1 (.bool true)):=fun g cap w1 h=>by
    have:=wJ (k:Int) ps g cap w1 h hm3
    rwa [hN] at this
   have hc:AZ (dK (k:Int))=2→(⟨false,0,0⟩:ak).n≠0∧sH ⟨false,0,0⟩:=fun h=>(vN (k:=k) (fl:=0) h).elim
   by_cases h1:dK (k:Int)=1
   ·rw[if_pos h1]
    have HA:=fun w1 (b:yB w w1)=>AJ k hk way hw (AZ (dK (k:Int))) 0 false ⟨false,0,0⟩ none 0 w1 hc (aN _ _) (hT.l b)
    have HN:=fun w1=>lV k hk way 0 w1
    unfold dsk at HA HN HO2;rw[h1] at HD HO2 HA HN⊢;exact Rm _ _ _ _ (k:Int) _ _ _ _ way _ F ps.length ps pb w hw1 hw2 HD HO2 HX HN HA
   ·rw[if_neg h1]
    exact Rn _ _ _ _ (k:Int) _ _ _ _ _ way _ F ps.length ps pb w hw1 hw2 (by simpa using h1) HD HO2 HX (fun w1=>lV k hk way 16 w1) (fun w1 b=>AJ k hk way hw _ 16 false ⟨false,0,0⟩ none 0 w1 hc (aN _ _) (hT.l b))
  ·rw[if_neg hN]
   have hN':ps.any (dO (k:Int))=false:=by simpa using hN
   obtain⟨hc,HFc⟩:=HF k hk rfl he hN';exact IP (k:Int) _ _ _ _ _ way _ _ _ _ _ _ _ F ps.length ps pb _ w hw.1 hw.2 rfl hm3 hm0 he hN' hp hfn HD (fun w1 b _=>HO w1 b) (fun g cap w1 b h=>HFc g cap w1 b h) (fun ro rc w1 b r=>AJ k hk way hw _ _ _ _ ro rc w1 hc r (hT.l b))
 ·rw[if_pos he]
  refine Rl _ (k:Int) _ _ _ _ _ way _ F ps.length pb w (by simpa using he) HD (fun w1 b=>(HO w1 b).mono (fun z w' hz=> ?_))
  rcases hz with h|h
  ·exact absurd h.1 he
  ·exact h.2
theorem EV {k:Nat}(hk:1≤k∧k≤8):ia (rdN k:Int) (dgN k:Int) (lsI k) (gsI k) (decide (k≤3)) (rdN k^dgN k-1) (gsI k):=by
 refine .inr ?_
 rcases bO hk with rfl|rfl|rfl|rfl|rfl|rfl|rfl|rfl<;>decide
end Go.Proofs.YtnhackdjplppjaaGreatDoor
