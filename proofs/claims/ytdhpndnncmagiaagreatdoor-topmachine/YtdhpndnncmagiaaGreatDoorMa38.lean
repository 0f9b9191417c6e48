/-
  Texts laid together: Co12, Co21, Co17, Co18, Ar1, Ce2, Ef2, Ce12, Pa1, Ra1, Pa2, Ar8, As9, Pa4, As10, Pa5, Tx5, Tx15.
-/
import Derived.Test.YtdhpndnncmagiaaGreatDoorMa16
import Derived.Test.YtdhpndnncmagiaaGreatDoorMa28
import Derived.Test.YtdhpndnncmagiaaGreatDoorMa32
import Derived.Test.YtdhpndnncmagiaaGreatDoorMa36
import Derived.Test.YtdhpndnncmagiaaGreatDoorMa37
set_option maxHeartbeats 3200000
namespace Go.Proofs.YtdhpndnncmagiaaGreatDoor
open Go.RowKit
theorem Gf (k:Nat)(hk:1≤k∧k≤8)(ng:Bool)(e f:Nat)(w:World)(hf:f<18446744073709551616):yC 143 #[.agg (tS k).toArray,yfV ng e f] w (yR w (yi ((dh k ng e f:Nat):Int))):=by
 rcases bO hk with rfl|rfl|rfl|rfl|rfl|rfl|rfl|rfl
 ·exact Gd _ _ _ _ _ _ _ _ ng _ e f w (fun w1=>afs ng e f w1 hf)
 ·exact Gd _ _ _ _ _ _ _ _ ng _ e f w (fun w1=>aft ng e f w1 hf)
 ·exact Gd _ _ _ _ _ _ _ _ ng _ e f w (fun w1=>afu ng e f w1 hf)
 iterate 2 exact Za _ _ _ _ _ _ _ ng _ e f w
 all_goals exact Zb _ _ _ _ _ _ _ ng _ e f w
theorem wE (k c:Nat)(hk:1≤k∧k≤8)(hc:c=1∨c=3∨c=4∨c=5)(ng:Bool)(ao:Option Addr)(dn dc:Nat)(p:Int)(w:World):
  yC 92 #[.agg (tS k).toArray,yvV c ng (.slice ao dn dc) p] w (yR w (.tuple #[.string (Fv k c dn ng p),yi (qX k c dn ng p)])):=by
 have HS:=fun w1=>MP k c hk hc w1
 have HG:=fun w1=>Qa k c hk hc w1
 have HW:=fun w1=>Aq k hk (pI k c||ng) (pg k c) (lS k c) w1 (Fw c hk) (Fx c hk)
 have key: ∀er,qX k c dn ng p=er→Fv k c dn ng p=if er=0 then cF (kU k (pI k c||ng) (pg k c) (lS k c)) else⟨#[]⟩:=fun er h=>by unfold Fv;rw[h]
 by_cases hok:iR k c=false
 ·have hE:qX k c dn ng p=5:=by unfold qX;rw[if_pos hok]
  rw[key 5 hE,hE,if_neg (by omega)];rw[hok] at HS;generalize pI k c=sg0 at*;generalize pg k c=se at*;generalize lS k c=sf at*;clear HG HW key hE hok
  rcases bO hk with rfl|rfl|rfl|rfl|rfl|rfl|rfl|rfl
  all_goals exact P8 _ _ _ _ _ _ _ _ _ _ p ng ao dn dc sg0 se sf w HS
 ·have hok':iR k c=true:=by simpa using hok
  rw[hok'] at HS
  by_cases h1:0<dn
  ·have hE:qX k c dn ng p=4:=by unfold qX;rw[if_neg hok,if_pos (.inl h1)]
   rw[key 4 hE,hE,if_neg (by omega)];generalize pI k c=sg0 at*;generalize pg k c=se at*;generalize lS k c=sf at*;clear HG HW key hE hok hok'
   rcases bO hk with rfl|rfl|rfl|rfl|rfl|rfl|rfl|rfl
   all_goals exact Kt _ _ _ _ _ _ _ _ _ _ p ng ao dn dc sg0 se sf w HS h1
  ·have hd:dn=0:=by omega
   by_cases h2:p=0
   ·by_cases h3:ng=true∧Bk k c=false
    ·have hE:qX k c dn ng p=4:=by unfold qX;rw[if_neg hok,if_pos (.inr (.inr h3))]
     rw[key 4 hE,hE,if_neg (by omega)];rw[h3.2] at HG;have hng:=h3.1;generalize pI k c=sg0 at*;generalize pg k c=se at*;generalize lS k c=sf at*;clear HW key hE hok hok' h3
     rcases bO hk with rfl|rfl|rfl|rfl|rfl|rfl|rfl|rfl
     all_goals exact P9 _ _ _ _ _ _ _ _ _ _ p ng ao dn dc sg0 se sf w HS HG hd h2 hng
    ·have hE:qX k c dn ng p=0:=by
      unfold qX;rw[if_neg hok,if_neg];rintro(h|h|h)
      ·exact h1 h
      ·exact h h2
      ·exact h3 h
     rw[key 0 hE,hE,if_pos rfl];have hsg:ng=true→Bk k c=true:=fun h=>by
      cases hs:Bk k c
      ·exact absurd ⟨h,hs⟩ h3
      ·rfl
     generalize cF (kU k (pI k c||ng) (pg k c) (lS k c))=st at*
     generalize pI k c=sg0 at*;generalize pg k c=se at*;generalize lS k c=sf at*;clear key hE hok hok' h3
     cases ng
     ·rcases bO hk with rfl|rfl|rfl|rfl|rfl|rfl|rfl|rfl
      all_goals exact Ui _ _ _ _ _ _ _ _ _ _ p false ao dn dc sg0 se sf w HS st HW hd h2 rfl
     ·rw[hsg rfl] at HG
      rcases bO hk with rfl|rfl|rfl|rfl|rfl|rfl|rfl|rfl
      all_goals exact Uj _ _ _ _ _ _ _ _ _ _ p true ao dn dc sg0 se sf w HS HG st HW hd h2 rfl
   ·have hE:qX k c dn ng p=4:=by unfold qX;rw[if_neg hok,if_pos (.inr (.inl h2))]
    rw[key 4 hE,hE,if_neg (by omega)];generalize pI k c=sg0 at*;generalize pg k c=se at*;generalize lS k c=sf at*;clear HG HW key hE hok hok'
    rcases bO hk with rfl|rfl|rfl|rfl|rfl|rfl|rfl|rfl
    all_goals exact MI _ _ _ _ _ _ _ _ _ _ p ng ao dn dc sg0 se sf w HS hd h2
theorem Gz (k:Nat)(hk:1≤k∧k≤8)(ng:Bool)(e f:Nat)(w:World)(hf:f<18446744073709551616)(he:e<65536):yC 73 #[.agg (tS k).toArray,yfV ng e f] w (iT w ((dh k ng e f:Nat):Int) (kt k ng e f) (ge k ng e f) (gw k ng e f)):=by
 have HC:=fun w1=>Gf k hk ng e f w1 hf
 have HP:=fun w1=>QL k hk ng e f w1 hf he
 have hd:=fun h=>jX (k:=k) (ng:=ng) (e:=e) (f:=f) h
 have hl:=vS hk e hf;have hp:=ab9 hk he;unfold kt ge gw;generalize iI k e f=d at*;generalize ii k e=p at*
 rcases DV k ng e f with hc|hc|hc|hc|hc
 all_goals (rw[hc] at HC⊢)
 ·rw[if_pos (by omega),if_neg (by omega),if_neg (by omega)]
  rcases bO hk with rfl|rfl|rfl|rfl|rfl|rfl|rfl|rfl
  all_goals exact aab _ _ _ _ _ _ _ _ _ ng e f w HC
 ·rw[if_pos (by omega),if_pos rfl,if_pos rfl]
  have h0:=hd hc
  rcases bO hk with rfl|rfl|rfl|rfl|rfl|rfl|rfl|rfl
  all_goals exact We _ _ _ _ _ _ _ _ _ ng e f d p w (by decide) (by decide) h0 hl hp.1 hp.2 HC HP
 ·rw[if_pos (by omega),if_neg (by omega),if_neg (by omega)]
  rcases bO hk with rfl|rfl|rfl|rfl|rfl|rfl|rfl|rfl
  all_goals exact aac _ _ _ _ _ _ _ _ _ ng e f w HC
 ·rw[if_neg (by omega),if_neg (by omega),if_neg (by omega)]
  rcases bO hk with rfl|rfl|rfl|rfl|rfl|rfl|rfl|rfl
  all_goals exact aad _ _ _ _ _ _ _ _ _ ng e f w HC
 ·rw[if_neg (by omega),if_neg (by omega),if_neg (by omega)]
  rcases bO hk with rfl|rfl|rfl|rfl|rfl|rfl|rfl|rfl
  all_goals exact aae _ _ _ _ _ _ _ _ _ ng e f w HC
abbrev H6:=codecRead_len_mg.1
abbrev GA:=codecRead_len_mg.2
theorem uM (n:Int)(s:ByteArray)(w:World)(h:dF n s=0):
  yC 72 #[yi n,.string s] w (yR w (.tuple #[.agg (tS n.toNat).toArray,yfV (aZ n.toNat s) ((aR n.toNat s:Nat):Int) ((aU n.toNat s:Nat):Int),yi 0])):=by
 unfold dF at h
 by_cases hf:dK n=0
 ·rw[if_pos hf] at h
  omega
 ·rw[if_neg hf] at h
  obtain⟨h1,h2,h3⟩:=fF hf;obtain⟨k,rfl⟩: ∃k:Nat,n=(k:Int):=⟨n.toNat,h3.symm⟩;rw[Int.toNat_natCast] at h h1 h2⊢;have hs:s.size=szN k:=by
   by_cases c:s.size=szN k
   ·exact c
   ·rw[if_neg c] at h
    omega
  have HL:=fun w1=>pU k ⟨h1,h2⟩ w1
  have HR:=fun w1=>VY k ⟨h1,h2⟩ s w1 hs
  generalize aZ k s=ng at*;generalize aR k s=e at*;generalize aU k s=f at*
  rcases bO ⟨h1,h2⟩ with rfl|rfl|rfl|rfl|rfl|rfl|rfl|rfl
  all_goals exact N7 _ _ _ _ _ _ _ _ _ _ ng e f s w hs HL HR
theorem tA (n:Int)(s:ByteArray)(w:World)(h:dF n s≠0):
  yC 72 #[yi n,.string s] w (yR w (.tuple #[yzV 0 0 0 0 false 0 0 0,yfV false 0 0,yi (dF n s)])):=by
 unfold dF at h⊢
 by_cases hf:dK n=0
 ·rw[if_pos hf]
  exact GA n s w (fun w1=>lR n w1 hf)
 ·rw[if_neg hf] at h⊢
  obtain⟨h1,h2,h3⟩:=fF hf;obtain⟨k,rfl⟩: ∃k:Nat,n=(k:Int):=⟨n.toNat,h3.symm⟩;rw[Int.toNat_natCast] at h h1 h2⊢
  by_cases hs:s.size=szN k
  ·rw[if_pos hs] at h
   omega
  ·rw[if_neg hs]
   have HL:=fun w1=>pU k ⟨h1,h2⟩ w1
   rcases bO ⟨h1,h2⟩ with rfl|rfl|rfl|rfl|rfl|rfl|rfl|rfl
   all_goals exact H6 _ _ _ _ _ _ _ _ _ _ s w hs HL
abbrev afp:=wrd1_mg.1
abbrev afq:=wrd1_mg.2
theorem jp.store {w:World}{base g n cap:Nat}{bs:List Bool}(h:jp w base (.slice (some ⟨g,0,none⟩) n cap) bs)(hn:n=bs.length)(j:Nat)(x:Bool):
  jp (w.setCell ⟨g,j,none⟩ (.bool x)) base (.slice (some ⟨g,0,none⟩) n cap) (bs.set j x):=by
 subst hn;have:=(World.ownsRow.stored h j (.bool x)).1;unfold jp;rw[List.length_set,List.map_set];exact this
theorem sU (k:Nat)(hk:1≤k∧k≤8)(w:World):yC 21 #[yi k] w (yR w (.tuple #[yhV (szN k) (exN k) (frN k:Int) (rdN k) (dgN k) (lsI k) (gsI k) (decide (k≤3)) (fmN k:Int),.bool true])):=by
 have h:=qU k hk w
 rcases bO hk with rfl|rfl|rfl|rfl|rfl|rfl|rfl|rfl
 all_goals exact h
def fq (n c:Int)(ng:Bool)(xs:List Nat)(p:Int):ByteArray:=
 if dK n=0∨c<1∨5<c then⟨#[]⟩ else if chk xs≠0 then⟨#[]⟩ else if c=2 then enS n.toNat ng xs p else Fv n.toNat c.toNat xs.length ng p
def Dw (k:Nat)(c:Int)(g:Bool)(m:Nat)(p fl:Int):ByteArray×Int×Int:=
 if gI k c g (Dg.dg 4294967296 m) p=0 then(fq k c g (Dg.dg 4294967296 m) p,fl,0) else(⟨#[]⟩,0,gI k c g (Dg.dg 4294967296 m) p)
theorem form_any (k:Nat)(hk:1≤k∧k≤8)(w:World):yC 21 #[yi k] w (yR w (.tuple #[yhV (szN k) (exN k) (frN k:Int) (rdN k) (dgN k) (lsI k) (gsI k) (decide (k≤3)) (dK k),.bool true])):=by
 have:=sU k hk w;rw[fm_is hk] at this;exact this
theorem VA (k:Nat)(hk:1≤k∧k≤8)(wy:Int)(hw:1≤wy∧wy≤5)(t:ak)(h0:t.n≠0)(hn:sH t):
  eE (Dg.dg 4294967296 (rtN t)) (Dg.dg 4294967296 (rtM t)) (rtE t) (rdN k) (dgN k) (lsI k) (gsI k) wy=0∧df (Dg.dg 4294967296 (rtN t)) (Dg.dg 4294967296 (rtM t)) (rtE t) (rdN k) (dgN k) (lsI k) (gsI k) (decide (k≤3)) t.s wy=fY k wy t:=by
 obtain⟨l1,l2,l3,l4⟩:=ab7 h0 hn;obtain⟨-,-,d1,-,-,-,-,-,w64,-,-,hg⟩:=eR hk;have hm:rtM t≠0:=by unfold rtM;have:=bG (rtE t-(eQ t).e).toNat;omega
 have hnn:rtN t≠0:=by
  unfold rtN;exact Nat.mul_ne_zero (qY t h0).1 (by have:=bG ((eQ t).e-rtE t).toNat;omega)
 have ne: ∀{x:Nat},x≠0→(Dg.dg 4294967296 x).length≠0:=fun {x} h c=>h ((Dg.dg_nil_iff 4294967296 x (by omega)).1 (List.length_eq_zero_iff.1 c))
 have hC:eE (Dg.dg 4294967296 (rtN t)) (Dg.dg 4294967296 (rtM t)) (rtE t) (rdN k) (dgN k) (lsI k) (gsI k) wy=0:=by
  have hno: ¬((Dg.dg 4294967296 (rtM t)).length=0∨eJ 20000 (rtE t)=true):=fun c=>by
   rcases c with c|c
   ·exact ne hm c
   ·unfold eJ at c
    simp at c;omega
  have hq:eA (Dg.dg 4294967296 (rtN t)) (Dg.dg 4294967296 (rtM t)) (rtE t)=0:=by
   unfold eA;rw[if_pos (pJ (Dg.norm_dg _ _ (by omega)) l1),if_pos (pJ (Dg.norm_dg _ _ (by omega)) l2),if_neg hno]
  have hy:iC wy=true:=by unfold iC;simpa using hw
  have hwg:jg (eA (Dg.dg 4294967296 (rtN t)) (Dg.dg 4294967296 (rtM t)) (rtE t)) (bk (rdN k) (dgN k) (lsI k) (gsI k))=0:=by
   unfold jg;rw[if_pos hq,hg]
  unfold eE;rw[if_pos hwg,if_pos hy]
 refine⟨hC, ?_⟩;unfold df;rw[if_pos hC,if_neg (ne hnn),Dg.vl_dg _ _ (by omega),Dg.vl_dg _ _ (by omega)];exact X3 t h0 (by omega) (by rw[Int.toNat_natCast];exact w64)
theorem mp (k:Nat)(hk:1≤k∧k≤8)(w:World):yC 60 #[yi k] w (yR w (.tuple #[ykV k 0 (dK k) (rdN k) (dgN k) (lsI k) (gsI k) (decide (k≤3)),yi 0])):=
 Yr k _ _ _ _ _ _ w (fun w1=>vj k hk w1) (fun w1=>jk k w1)
theorem Su:gI 1 2 false [8388608] (-22)=0∧fq 1 2 false [8388608] (-22)=tE:=by
 refine⟨?_, ?_⟩<;>kernel_rfl
theorem FU {k:Nat}{wy cx cy:Int}{gx gy:Bool}{x y:ak}(hn:sH (aG x y))(h:(vY k wy cx gx x cy gy y).1=2):(vY k wy cx gx x cy gy y).2.2.1.n≠0∧sH (vY k wy cx gx x cy gy y).2.2.1:=by
 unfold vY at h⊢
 by_cases c1:cx=3∧cy=3∧gx≠gy
 ·rw[if_pos c1] at h
  exact(vN h).elim
 rw[if_neg c1] at h⊢
 by_cases c2:cx=3
 ·rw[if_pos c2] at h
  simp at h
 rw[if_neg c2] at h⊢
 by_cases c3:cy=3
 ·rw[if_pos c3] at h
  simp at h
 rw[if_neg c3] at h⊢;exact xt hn h
theorem I4 {k:Nat}{cx cy:Int}{gx gy:Bool}{x y:ak}(hn:sH (aK x y))(h:(mK k cx gx x cy gy y).1=2):(mK k cx gx x cy gy y).2.2.1.n≠0∧sH (mK k cx gx x cy gy y).2.2.1:=by
 unfold mK at h⊢
 by_cases c1:cx=3∧cy=1∨cx=1∧cy=3
 ·rw[if_pos c1] at h
  exact(vN h).elim
 rw[if_neg c1] at h⊢
 by_cases c2:cx=3∨cy=3
 ·rw[if_pos c2] at h
  simp at h
 rw[if_neg c2] at h⊢;exact xt hn h
theorem Tm (w:World)(g cap:Nat)(h:sF w 1 [jA,jA] g cap):
  yC 34 #[ykV 1 1 1 2 24 (-149) 104 true,.slice (some ⟨g,0,none⟩) 2 cap] w (dU w 2 false ⟨false,2,0⟩ 0):=by
 obtain⟨o1,o2,o3,o4⟩:=IQ;obtain⟨xo,xc,hx,rx⟩:=h.each 0 jA rfl;obtain⟨yo,yc,hy,ry⟩:=h.each 1 jA rfl;unfold opC at hx hy;rw[o2,o3,o4] at hx hy;rw[o4] at rx ry;have hs:=fun w1 (b:yB w w1)=>Ng 1 1 1 2 24 (-149) 104 2 2 true false false ⟨false,1,0⟩ ⟨false,1,0⟩ xo yo xc yc false w1 rfl rfl rfl (fun w2 b2=>uj _ _ ⟨false,1,0⟩ ⟨false,1,0⟩ w2 ⟨_,rfl,(rx.l b).l b2⟩ ⟨_,rfl,(ry.l b).l b2⟩ (by decide) (by decide) (by decide) (by decide) (by decide) (by decide))
 rw[X8,show vI ⟨false,2,0⟩=2 from rfl,show xr ⟨false,2,0⟩ false=false from rfl,show tF ⟨false,2,0⟩=⟨false,2,0⟩ from rfl] at hs
 exact X7 1 1 1 2 24 (-149) 104 2 2 2 0 true false false false ⟨false,1,0⟩ ⟨false,1,0⟩ ⟨false,2,0⟩ xo yo xc yc g cap w hx hy hs
def OX (n way:Int)(a b:ByteArray):Int×Bool×ak×Int:=vY n.toNat way ((bM n a:Nat):Int) (dz n a) (opT n a) ((bM n b:Nat):Int) (dz n b) (opT n b)
def qL (n : Int) (a b : ByteArray) : Int × Bool × ak × Int := mK n.toNat ((bM n a : Nat) : Int) (dz n a) (opT n a) ((bM n b : Nat) : Int) (dz n b) (opT n b)
theorem read_any (t:ByteArray)(w:World)(hT:TxW w):yC 58 #[.string t] w (NmE w (nmV t)):=by
 unfold nmV
 by_cases h4:400<t.size
 ·rw[if_pos h4]
  exact tread_many t w h4
 rw[if_neg h4];have hu:=undash_size t;have hc:=cutS_size 101 (undash t);have hd:=cutS_size 46 (nmC t).1;have hc1:(nmC t).1.size+(nmC t).2.1.size≤400:=by unfold nmC;omega
 have hd1:(nmD t).1.size+(nmD t).2.1.size≤400:=by unfold nmD;omega
 have hcat:((nmD t).1++(nmD t).2.1).size=(nmD t).1.size+(nmD t).2.1.size:=ByteArray.size_append;have HP:=fun w1=>prefix_any t ⟨#[45]⟩ w1
 have HE:=fun w1 (b:yB w w1)=>cut_any (undash t) ⟨#[101]⟩ w1 (by omega) (hT.l b)
 have HQ:=fun w1 (b:yB w w1)=>cut_any (nmC t).1 ⟨#[46]⟩ w1 (by omega) (hT.l b)
 have HD:=fun w1=>tdecimals_any ((nmD t).1++(nmD t).2.1) w1 (by omega)
 have HR:=fun w1=>readPower_any (nmC t).2.1 w1
 have HE': ∀b,(nmC t).2.2=b→yH w 122 #[.string (undash t),.string ⟨#[101]⟩] (.tuple #[.string (nmC t).1,.string (nmC t).2.1,.bool b]):=fun b hb w1 b1=>by
  rw[←hb];exact HE w1 b1
 have HQ': ∀b,(nmD t).2.2=b→yH w 122 #[.string (nmC t).1,.string ⟨#[46]⟩] (.tuple #[.string (nmD t).1,.string (nmD t).2.1,.bool b]):=fun b hb w1 b1=>by
  rw[←hb];exact HQ w1 b1
 clear HE HQ;have hle:t.size≤400:=by omega
 have hrp:=rpV_in (nmC t).2.1
 cases hr:(nmC t).2.2
 ·have hP:nmP t=(0,true):=by unfold nmP;rw[hr];rfl
  have hQ:nmQ t= -((nmD t).2.1.size:Int):=by unfold nmQ;rw[hP];show(0:Int)-_=_;omega
  rw[hP,hQ]
  cases hg:digB ((nmD t).1++(nmD t).2.1)
  ·rw[if_pos (.inr (.inl rfl))]
   rw[hg] at HD;exact tread_dig_n t (undash t) (nmC t).1 (nmC t).2.1 (nmD t).1 (nmD t).2.1 (dash t) (nmD t).2.2 w hle hd1 HP (HE' _ hr) (HQ' _ rfl) HD
  rw[hg] at HD
  cases hpo:(nmD t).2.2
  ·rw[if_neg (fun c=>by rcases c with c|c|c;cases c;cases c;cases c.1),if_neg (by omega)]
   exact tread_okf_n t (undash t) (nmC t).1 (nmC t).2.1 (nmD t).1 (nmD t).2.1 (dash t) w hle hd1 HP (HE' _ hr) (HQ' _ hpo) HD
  by_cases hb0:(nmD t).2.1.size=0
  ·rw[if_pos (.inr (.inr ⟨rfl,hb0⟩))]
   have e:=IX _ hb0;have HQ2:=HQ' _ hpo;rw[e] at HD HQ2;exact tread_pt_n t (undash t) (nmC t).1 (nmC t).2.1 (nmD t).1 (dash t) w hle (by omega) HP (HE' _ hr) HQ2 HD
  ·rw[if_neg (fun c=>by rcases c with c|c|c;cases c;cases c;exact hb0 c.2),if_neg (by omega)]
   exact tread_okt_n t (undash t) (nmC t).1 (nmC t).2.1 (nmD t).1 (nmD t).2.1 (dash t) w hle hd1 (Qw _ hb0) HP (HE' _ hr) (HQ' _ hpo) HD
 ·have hP:nmP t=rpV (nmC t).2.1:=by unfold nmP;rw[hr];rfl
  have hQ:IntKind.i64.wrap ((rpV (nmC t).2.1).1-((nmD t).2.1.size:Int))=nmQ t:=by unfold nmQ;rw[hP];exact IntWalk.i64_in _ ⟨by omega,by omega⟩
  rw[hP]
  cases hk:(rpV (nmC t).2.1).2
  ·rw[if_pos (.inl rfl)]
   rw[hk] at HR;exact tread_bad t (undash t) (nmC t).1 (nmC t).2.1 (nmD t).1 (nmD t).2.1 (dash t) (nmD t).2.2 _ w hle HP (HE' _ hr) HR (HQ' _ rfl)
  rw[hk] at HR
  cases hg:digB ((nmD t).1++(nmD t).2.1)
  ·rw[if_pos (.inr (.inl rfl))]
   rw[hg] at HD;exact tread_dig_e t (undash t) (nmC t).1 (nmC t).2.1 (nmD t).1 (nmD t).2.1 (dash t) (nmD t).2.2 _ w hle hd1 HP (HE' _ hr) HR (HQ' _ rfl) HD
  rw[hg] at HD
  cases hpo:(nmD t).2.2
  ·rw[if_neg (fun c=>by rcases c with c|c|c;cases c;cases c;cases c.1)]
   by_cases h1:nmQ t< -6000
   ·rw[if_pos (.inl h1)]
    exact tread_lof_e _ t (undash t) (nmC t).1 (nmC t).2.1 (nmD t).1 (nmD t).2.1 (dash t) _ w hle hd1 hQ h1 HP (HE' _ hr) HR (HQ' _ hpo) HD
   by_cases h2:6000<nmQ t
   ·rw[if_pos (.inr h2)]
    exact tread_hif_e _ t (undash t) (nmC t).1 (nmC t).2.1 (nmD t).1 (nmD t).2.1 (dash t) _ w hle hd1 hQ h1 h2 HP (HE' _ hr) HR (HQ' _ hpo) HD
   ·rw[if_neg (fun c=>c.elim h1 h2)]
    exact tread_okf_e _ t (undash t) (nmC t).1 (nmC t).2.1 (nmD t).1 (nmD t).2.1 (dash t) _ w hle hd1 hQ h1 h2 HP (HE' _ hr) HR (HQ' _ hpo) HD
  by_cases hb0:(nmD t).2.1.size=0
  ·rw[if_pos (.inr (.inr ⟨rfl,hb0⟩))]
   have e:=IX _ hb0;have HQ2:=HQ' _ hpo;rw[e] at HD HQ2;exact tread_pt_e t (undash t) (nmC t).1 (nmC t).2.1 (nmD t).1 (dash t) _ w hle (by omega) HP (HE' _ hr) HR HQ2 HD
  ·rw[if_neg (fun c=>by rcases c with c|c|c;cases c;cases c;exact hb0 c.2)]
   have he:=Qw _ hb0
   by_cases h1:nmQ t< -6000
   ·rw[if_pos (.inl h1)]
    exact tread_lot_e _ t (undash t) (nmC t).1 (nmC t).2.1 (nmD t).1 (nmD t).2.1 (dash t) _ w hle hd1 he hQ h1 HP (HE' _ hr) HR (HQ' _ hpo) HD
   by_cases h2:6000<nmQ t
   ·rw[if_pos (.inr h2)]
    exact tread_hit_e _ t (undash t) (nmC t).1 (nmC t).2.1 (nmD t).1 (nmD t).2.1 (dash t) _ w hle hd1 he hQ h1 h2 HP (HE' _ hr) HR (HQ' _ hpo) HD
   ·rw[if_neg (fun c=>c.elim h1 h2)]
    exact tread_okt_e _ t (undash t) (nmC t).1 (nmC t).2.1 (nmD t).1 (nmD t).2.1 (dash t) _ w hle hd1 he hQ h1 h2 HP (HE' _ hr) HR (HQ' _ hpo) HD
def shM (n:Int)(s:ByteArray):ByteArray:=fq n ((bM n s:Nat):Int) (dz n s) (Dg.dg 4294967296 (gJ n s)) (iF n s)
end Go.Proofs.YtdhpndnncmagiaaGreatDoor
