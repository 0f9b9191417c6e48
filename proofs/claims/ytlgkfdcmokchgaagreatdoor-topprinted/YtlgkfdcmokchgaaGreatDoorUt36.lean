/-
  Texts laid together: Co12, Co20, Co17, Tx2, Gn2, Ce11, Ce12, Eb2, Nx2, Pa1, Ar8, Pa3, Rb3, Cv0, Ra8, Cv4, Tx6, Tx15, Oa3, Laws6, Ty11, Eh5, Ty12, Cv10, Sq2.
-/
import Derived.Test.YtlgkfdcmokchgaaGreatDoorUt28
import Derived.Test.YtlgkfdcmokchgaaGreatDoorUt29
import Derived.Test.YtlgkfdcmokchgaaGreatDoorUt30
import Derived.Test.YtlgkfdcmokchgaaGreatDoorUt31
import Derived.Test.YtlgkfdcmokchgaaGreatDoorUt32
set_option maxRecDepth 100000
set_option maxHeartbeats 3200000
namespace Go.Proofs.YtlgkfdcmokchgaaGreatDoor
open _root_.Go.Proofs.Tryz
open Go.RowKit
theorem Gf (k:Nat)(hk:1≤k∧k≤8)(ng:Bool)(e f:Nat)(w:World)(hf:f<18446744073709551616):yC 96 #[.agg (tS k).toArray,yfV ng e f] w (yR w (yi ((dh k ng e f:Nat):Int))):=by
 rcases bO hk with rfl|rfl|rfl|rfl|rfl|rfl|rfl|rfl
 ·exact Gd _ _ _ _ _ _ _ _ ng _ e f w (fun w1=>afs ng e f w1 hf)
 ·exact Gd _ _ _ _ _ _ _ _ ng _ e f w (fun w1=>aft ng e f w1 hf)
 ·exact Gd _ _ _ _ _ _ _ _ ng _ e f w (fun w1=>afu ng e f w1 hf)
 iterate 2 exact Za _ _ _ _ _ _ _ ng _ e f w
 all_goals exact Zb _ _ _ _ _ _ _ ng _ e f w
theorem MP (k c:Nat)(hk:1≤k∧k≤8)(hc:c=1∨c=3∨c=4∨c=5)(w:World):
  yC 130 #[.agg (tS k).toArray,yi c] w (yR w (.tuple #[yfV (pI k c) ((pg k c:Nat):Int) ((lS k c:Nat):Int),.bool (iR k c)])):=by
 have HO:=fun w1=>jy k hk w1
 have HW:=fun w1=>gj k hk w1
 have HL:=fun w1=>xX k hk w1
 rcases hc with rfl|rfl|rfl|rfl
 ·rw[show pI k 1=false from rfl,show pg k 1=0 from if_neg (fun h=>by omega),show lS k 1=0 from by unfold lS;simp,show iR k 1=true from rfl]
  rcases bO hk with rfl|rfl|rfl|rfl|rfl|rfl|rfl|rfl
  all_goals exact Ku _ _ _ _ _ _ _ _ _ w
 ·rw[show pI k 3=false from rfl]
  by_cases h3:k≤3
  ·rw[show pg k 3=kp k from if_pos ⟨.inl rfl,h3⟩,show lS k 3=wrN k from by unfold lS;rw[if_pos h3,if_pos rfl],show iR k 3=true from by simp[iR,h3]]
   generalize kp k=on at*;generalize wrN k=wr at*
   rcases(by omega:k=1∨k=2∨k=3) with rfl|rfl|rfl
   all_goals exact MN _ _ _ _ _ _ _ _ w _ _ HO HW
  ·rw[show pg k 3=0 from if_neg (fun h=>h3 h.2),show lS k 3=0 from if_neg h3,show iR k 3=false from by simp[iR,h3]]
   rcases(by omega:k=4∨k=5∨k=6∨k=7∨k=8) with rfl|rfl|rfl|rfl|rfl
   all_goals exact MJ _ _ _ _ _ _ _ _ _ w rfl
 ·rw[show pI k 4=false from rfl]
  by_cases h3:k≤3
  ·rw[show pg k 4=kp k from if_pos ⟨.inr rfl,h3⟩,show lS k 4=wrN k|||gW k/2 from by unfold lS;rw[if_pos h3,if_neg (by omega),if_pos rfl],show iR k 4=true from by simp[iR,h3]]
   have hw:wrN k<18446744073709551616:=by rcases(by omega:k=1∨k=2∨k=3) with rfl|rfl|rfl<;>decide
   have hl:gW k<18446744073709551616:=by rcases(by omega:k=1∨k=2∨k=3) with rfl|rfl|rfl<;>decide
   generalize kp k=on at*;generalize wrN k=wr at*;generalize gW k=ld at*
   rcases(by omega:k=1∨k=2∨k=3) with rfl|rfl|rfl
   all_goals exact MO _ _ _ _ _ _ _ _ w _ _ _ hw hl HO HW HL
  ·rw[show pg k 4=0 from if_neg (fun h=>h3 h.2),show lS k 4=0 from if_neg h3,show iR k 4=false from by simp[iR,h3]]
   rcases(by omega:k=4∨k=5∨k=6∨k=7∨k=8) with rfl|rfl|rfl|rfl|rfl
   all_goals exact MK _ _ _ _ _ _ _ _ _ w rfl
 ·rw[show pg k 5=0 from if_neg (fun h=>by omega),show lS k 5=0 from by unfold lS;simp]
  by_cases h6:6≤k
  ·rw[show pI k 5=true from by simp[pI,h6],show iR k 5=true from by simp[iR,h6]]
   rcases(by omega:k=6∨k=7∨k=8) with rfl|rfl|rfl
   all_goals exact MM _ _ _ _ _ _ _ _ _ w rfl
  ·rw[show pI k 5=false from by simp[pI,h6],show iR k 5=false from by simp[iR,h6]]
   rcases(by omega:k=1∨k=2∨k=3∨k=4∨k=5) with rfl|rfl|rfl|rfl|rfl
   all_goals exact ML _ _ _ _ _ _ _ _ _ w rfl
theorem Gz (k:Nat)(hk:1≤k∧k≤8)(ng:Bool)(e f:Nat)(w:World)(hf:f<18446744073709551616)(he:e<65536):yC 54 #[.agg (tS k).toArray,yfV ng e f] w (iT w ((dh k ng e f:Nat):Int) (kt k ng e f) (ge k ng e f) (gw k ng e f)):=by
 have HC:=fun w1=>Gf k hk ng e f w1 hf
 have HP:=fun w1=>QL k hk ng e f w1 hf he
 have hd:=fun h=>jX (k:=k) (ng:=ng) (e:=e) (f:=f) h
 have hl:=vS hk e hf;have hp:=ab9 hk he;unfold kt ge gw;generalize iI k e f=d at*;generalize ii k e=p at*
 rcases DV k ng e f with hc|hc|hc|hc|hc
 all_goals (rw[hc] at HC⊢)
 ·rw[if_pos (by omega),if_neg (by omega),if_neg (by omega)]
  rcases bO hk with rfl|rfl|rfl|rfl|rfl|rfl|rfl|rfl
  all_goals exact aab _ _ _ _ _ _ _ _ _ ng e f w HC
 ·rw[if_pos (by omega),if_pos rfl,if_pos rfl]
  have h0:=hd hc
  rcases bO hk with rfl|rfl|rfl|rfl|rfl|rfl|rfl|rfl
  all_goals exact We _ _ _ _ _ _ _ _ _ ng e f d p w (by decide) (by decide) h0 hl hp.1 hp.2 HC HP
 ·rw[if_pos (by omega),if_neg (by omega),if_neg (by omega)]
  rcases bO hk with rfl|rfl|rfl|rfl|rfl|rfl|rfl|rfl
  all_goals exact aac _ _ _ _ _ _ _ _ _ ng e f w HC
 ·rw[if_neg (by omega),if_neg (by omega),if_neg (by omega)]
  rcases bO hk with rfl|rfl|rfl|rfl|rfl|rfl|rfl|rfl
  all_goals exact aad _ _ _ _ _ _ _ _ _ ng e f w HC
 ·rw[if_neg (by omega),if_neg (by omega),if_neg (by omega)]
  rcases bO hk with rfl|rfl|rfl|rfl|rfl|rfl|rfl|rfl
  all_goals exact aae _ _ _ _ _ _ _ _ _ ng e f w HC
theorem tread_many (tx:ByteArray)(w:World)(h:400<tx.size):
  yC 73 #[.string tx] w (yR w (.tuple #[.agg #[.bool false,.string ⟨#[]⟩,yi 0],yi 2])):=by
 obtain⟨W3,hW4,q1,b2⟩:=cA w [.bool false,.string ⟨#[]⟩,yi 0] 136;replace hW4:Hid _:=hW4
 go_enter func73,ntmps73
 go_upto_region 1 with fail
 rw[hW4.out];clear hW4;have hf:=afy (P:=Tryz.prog) q1 b2 (by omega) underlying136 rfl (by kernel_rfl) (.bool false) (.string ⟨#[]⟩) (yi 0);have HH:Hid (_∧_):=⟨hf.1,hf.2.1⟩;obtain⟨⟨z0,z1,z2⟩,y0,y1,y2⟩:=afA q1;clear hf q1 b2
 go_wp2
 obtain⟨hl,bR⟩:=HH.out;exact bodyPost_ret (aj results73 rfl rfl hl) rfl ⟨rfl,bR⟩
theorem kB (R D L G:Int)(gr s:Bool)(ao:Option Addr)(ca:Nat)(xs:List Nat)(p:Int)(x1 x2 x3:Bool)(w:World)(hr:Rd w .u32 (.slice ao xs.length ca) xs)(sa:Dg.Small 4294967296 xs)(hT:Tab w):
  yC 127 #[ypV s (.slice ao xs.length ca) p x1 x2 x3,ygV R D L G gr] w (gR w (cC (ix xs p R D L G) ⟨s,Dg.vl 4294967296 xs,(ai R:Int)*p⟩)):=by
 obtain⟨⟨⟨rs,rn,re⟩,c⟩,hrr⟩: ∃r,cC (ix xs p R D L G) ⟨s,Dg.vl 4294967296 xs,(ai R:Int)*p⟩=r:=⟨_,rfl⟩;have herr: ∀k,ix xs p R D L G=k→ ¬k=0→rs=false∧rn=0∧re=0∧c=k:=fun k h1 h2=>by
  rw[h1,Xw h2] at hrr;simp only[Prod.mk.injEq,ak.mk.injEq] at hrr;exact⟨hrr.1.1.symm,hrr.1.2.1.symm,hrr.1.2.2.symm,hrr.2.symm⟩
 rw[hrr];refine Zr R D L G gr s ao _ ca p x1 x2 x3 (ai R) (chk xs) (bk R D L G) c (eJ 20000 p) rs rn re w ?_ ?_ ?_ ?_ ?_ ?_ ?_ ?_
 ·intro h
  exact herr _ (if_neg h) h
 ·intro h h2
  exact herr _ ((if_pos h).trans (if_neg h2)) h2
 ·intro h h2 h3
  exact herr 3 ((if_pos h).trans ((if_pos h2).trans (if_pos h3))) (by decide)
 ·intro w1 b
  refine(jC _ xs w1 (hr.l b)).mono ?_;rintro z w' ⟨rfl,rfl⟩;exact⟨rfl,Below.refl _ _⟩
 ·intro w1
  exact vE R D L G gr w1
 ·intro w1
  exact nK p 20000 w1 (by omega) (by omega)
 ·intro h h2 h3 w1
  have:=wS (R:=R) (A8 h3);exact CW R D L G gr s ao _ ca p w1 ⟨by omega,by omega⟩
 ·intro h h2 h3 w1 b
  have hp:=wS (R:=R) (A8 h3);obtain⟨n1,l1⟩:=aF h;have x1:(Dg.dg 4294967296 (Dg.vl 4294967296 xs)).length≤1200:=by rw[←Dg.eq_dg 4294967296 (by omega) xs _ sa n1 rfl];exact l1
  rw[kA h h2 h3] at hrr;rw[←hrr];exact kL _ _ w1 (jw (hr.l b) sa n1) (by simp only;omega) ⟨by simp only;omega,by simp only;omega⟩ (hT.l b) (by have:=gZ (Dg.vl 4294967296 xs) 1200 x1;simp only;omega)
def enS (k:Nat)(ng:Bool)(xs:List Nat)(p:Int):ByteArray:=
 if enE k ng xs p=0 then cF (kU k (plT k (enN k ng xs p).1.s (enN k ng xs p).1.n (enN k ng xs p).1.e).s (heE (rdN k) (lsI k) (gW k) (plT k (enN k ng xs p).1.s (enN k ng xs p).1.n (enN k ng xs p).1.e)) (plT k (enN k ng xs p).1.s (enN k ng xs p).1.n (enN k ng xs p).1.e).d) else⟨#[]⟩
def fq (n c:Int)(ng:Bool)(xs:List Nat)(p:Int):ByteArray:=
 if dK n=0∨c<1∨5<c then⟨#[]⟩ else if chk xs≠0 then⟨#[]⟩ else if c=2 then enS n.toNat ng xs p else Fv n.toNat c.toNat xs.length ng p
theorem rT {k:Nat}(hk:1≤k∧k≤8){ng:Bool}{E F:Nat}(hE:E<2^exN k)(hF:F<2^frN k)(hF64:F<2^64)(hc:dh k ng E F=2)(h0:iI k E F≠0):
  bare ⟨ng,ge k ng E F,(ai (rdN k):Int)*gw k ng E F⟩=bare ⟨ng,iI k E F,(ai (rdN k):Int)*ii k E⟩:=by
 have hT:=iq hk hE hF hc;rw[zr] at hT
 by_cases hr:rdN k=2
 ·obtain⟨v1,v2⟩:=Va hk hE hF hF64 hc hr
  have hw:ai (rdN k)=1:=by rw[hr];rfl
  rw[v1,v2,hT,hw,show((1:Nat):Int)*(bare ⟨ng,iI k E F,((1:Nat):Int)*ii k E⟩).e=(bare ⟨ng,iI k E F,((1:Nat):Int)*ii k E⟩).e from by omega,NQ (a:=⟨ng,iI k E F,((1:Nat):Int)*ii k E⟩) h0 rfl,iH]
 ·have hr16:rdN k=16:=by rcases bO hk with rfl|rfl|rfl|rfl|rfl|rfl|rfl|rfl<;>revert hr<;>decide
  obtain⟨v1,v2,v3⟩:=I5 hk hE hF hF64 hc hr16;have hw:ai (rdN k)=4:=by rw[hr16];rfl
  rw[hw] at hT⊢;rw[v3,hT];rw[hT] at v1;have hp:=(nV ng (bare ⟨ng,iI k E F,((4:Nat):Int)*ii k E⟩).n (bare ⟨ng,iI k E F,((4:Nat):Int)*ii k E⟩).e (((4:Nat):Int)*gw k ng E F) (by omega)).2;rw[Jv] at hp;rw[show 4*gw k ng E F=((4:Nat):Int)*gw k ng E F from rfl,hp,NQ (a:=⟨ng,iI k E F,((4:Nat):Int)*ii k E⟩) h0 rfl,iH]
theorem AF {k:Nat}(hk:1≤k∧k≤8){ng:Bool}{E F E' F':Nat}(hE:E<2^exN k)(hF:F<2^frN k)(hF64:F<2^64)(hc:dh k ng E F=2)(hE':E'<2^exN k)(hF':F'<2^frN k)(hF64':F'<2^64)(hc':dh k ng E' F'=2)
  (h:bare ⟨ng,iI k E F,(ai (rdN k):Int)*ii k E⟩=bare ⟨ng,iI k E' F',(ai (rdN k):Int)*ii k E'⟩):ge k ng E F=ge k ng E' F'∧gw k ng E F=gw k ng E' F':=by
 have hT:=iq hk hE hF hc;have hT':=iq hk hE' hF' hc';rw[zr,h] at hT;rw[zr,←hT] at hT'
 by_cases hr:rdN k=2
 ·obtain⟨v1,v2⟩:=Va hk hE hF hF64 hc hr
  obtain⟨u1,u2⟩:=Va hk hE' hF' hF64' hc' hr;rw[v1,v2,u1,u2,hT'];exact⟨rfl,rfl⟩
 ·have hr16:rdN k=16:=by rcases bO hk with rfl|rfl|rfl|rfl|rfl|rfl|rfl|rfl<;>revert hr<;>decide
  obtain⟨v1,v2,v3⟩:=I5 hk hE hF hF64 hc hr16;obtain⟨u1,u2,u3⟩:=I5 hk hE' hF' hF64' hc' hr16;rw[hT'] at u1 u2 u3;have hp:gw k ng E F=gw k ng E' F':=by omega
  rw[v3,u3,hp];exact⟨rfl,rfl⟩
theorem J9 {k:Nat}(hk:1≤k∧k≤8){ng:Bool}{E F:Nat}(hE:E<2^exN k)(hF:F<2^frN k)(hc:dh k ng E F=2):
  -16445≤(ji k ng E F).e∧(ji k ng E F).e≤16464∧ -16460≤gw k ng E F∧gw k ng E F≤16464:=by
 have h64:=mZ hk hF;obtain⟨p1,p2,-,-⟩:=TS hk hE;have hT:=iq hk hE hF hc;rw[wQ hk] at hT;have hp:=jX hc;have hl:=vS hk E h64;have hb:=AE (t:=⟨ng,iI k E F,(ai (rdN k):Int)*ii k E⟩) (Nat.ne_of_gt hp);have hbl:bitLen (iI k E F)≤64:=bF _ _ hl;rw[←hT] at hb;simp only at hb;obtain⟨-,b1,b2⟩:=hb;refine⟨by omega,by omega, ?_⟩;have hr:rdN k=2∨rdN k=16:=by
  rcases bO hk with rfl|rfl|rfl|rfl|rfl|rfl|rfl|rfl<;>decide
 rcases hr with hr|hr
 ·have:=(Va hk hE hF h64 hc hr).2
  omega
 ·have:=I5 hk hE hF h64 hc hr
  omega
theorem EX {k:Nat}(hk:1≤k∧k≤8)(s:ByteArray)(hc:dh k (aZ k s) (aR k s) (aU k s)=1∨dh k (aZ k s) (aR k s) (aU k s)=2):
  cC (ix (Dg.dg 4294967296 (ge k (aZ k s) (aR k s) (aU k s))) (gw k (aZ k s) (aR k s) (aU k s)) (rdN k) (dgN k) (lsI k) (gsI k)) ⟨kt k (aZ k s) (aR k s) (aU k s),Dg.vl 4294967296 (Dg.dg 4294967296 (ge k (aZ k s) (aR k s) (aU k s))),(ai (rdN k):Int)*gw k (aZ k s) (aR k s) (aU k s)⟩=(nxT k s,0):=by
 obtain⟨s1,s2⟩:=Cu k s;have h64:=mZ hk s2;have hgr:=(eR hk).2.2.2.2.2.2.2.2.2.2.2;unfold nxT;generalize aZ k s=ng at*;generalize aR k s=E at*;generalize aU k s=F at*;rw[Dg.vl_dg _ _ (by omega)];have hm:(Dg.dg 4294967296 (ge k ng E F)).length≤2:=Dg.dg_len_le 4294967296 _ 2 (by omega) (Nat.lt_of_lt_of_le (J8 hk ng E h64) (by decide));have hck:chk (Dg.dg 4294967296 (ge k ng E F))=0:=(bL (nt (n:=ge k ng E F) (e:=0) (by omega) (by omega) (by omega))).1
 rcases hc with hc|hc
 ·have hM:ge k ng E F=0:=if_neg (by omega)
  have hP:gw k ng E F=0:=if_neg (by omega);rw[hP,kA hck hgr (by decide),hM,zd hk hc];exact uR _ _
 ·obtain⟨v1,v2,v3,v4⟩:=J9 hk s1 s2 hc
  rw[kA hck hgr (by unfold eJ;simp;omega)];have hb:=rT hk s1 s2 h64 hc (Nat.ne_of_gt (jX hc));have hT:=iq hk s1 s2 hc;rw[wQ hk] at hT;have hG:kt k ng E F=ng:=by
   unfold kt;rw[if_pos (by omega)]
  rw[hG]
  show bU _=_
  rw[hT,←hb];rw[hT,←hb] at v1 v2;exact wK (Nat.le_trans (aH _ _ _ (by omega) (kR _)) (by simp only;omega)) (by omega) (by omega)
theorem Ba (k:Nat)(hk:1≤k∧k≤8)(wy:Int)(ng:Bool)(w:World):yC 147 #[dsk k wy,.bool ng] w (iT w 2 ng (rdN k^dgN k-1) (gsI k)):=by
 have hr:(rdN k=2∨rdN k=16)∧dgN k≤64:=by rcases bO hk with rfl|rfl|rfl|rfl|rfl|rfl|rfl|rfl<;>decide
 have hd:Dg.dg 4294967296 (rdN k)=[rdN k]:=by rcases hr.1 with h|h<;>rw[h]<;>rfl
 have hp:1≤rdN k^dgN k:=Nat.pow_pos (by omega);have hl:(Dg.dg 4294967296 (rdN k^dgN k)).length≤64:=by
  have h4:rdN k^dgN k<2^ (4*dgN k+1):=by
   have:rdN k^dgN k≤16^dgN k:=Nat.pow_le_pow_left (by omega) _;have e:(16:Nat)^dgN k=2^ (4*dgN k):=by rw[Nat.pow_mul]
   rw[Nat.pow_succ];have:=bG (4*dgN k);omega
  exact jq h4 (by omega)
 have hn:(Dg.dg 4294967296 (rdN k^dgN k)).length≠0:=fun h=>by
  have:=(Dg.dg_nil_iff 4294967296 (rdN k^dgN k) (by omega)).1 (List.length_eq_zero_iff.1 h);omega
 refine QM k wy (dK k) (rdN k) (dgN k) (lsI k) (gsI k) (decide (k≤3)) ng (rdN k) (rdN k^dgN k) w ?_ (fun q w1 _ hq=> ?_) (fun vo vc q w1 hv hq=> ?_)
 ·rcases hr.1 with h|h<;>rw[h]<;>rfl
 ·have h1:=aa0 hq
  rw[←hd] at h1;exact Iq _ (rdN k) (dgN k) 1 w1 h1 (by omega) (by omega) (by omega) (by omega)
 ·have:=zL (.slice vo (Dg.dg 4294967296 (rdN k^dgN k)).length vc) (.slice (some ⟨q,0,none⟩) 1 1) (Dg.dg 4294967296 (rdN k^dgN k)) [1] w1 hv (xD hq) (Dg.small_dg _ _ (by omega)) (Dg.small_cons.2 ⟨by omega,Dg.small_nil _ (by omega)⟩) (by omega) (by simp;omega) (by rw[Dg.vl_dg _ _ (by omega),show Dg.vl 4294967296 [1]=1 from rfl];exact hp)
  rwa [Dg.vl_dg _ _ (by omega),show Dg.vl 4294967296 [1]=1 from rfl] at this
def ovV (k:Nat)(wy:Int)(ng:Bool):Int×Bool×Nat×Int:=
 if dK k=3 then(5,false,0,0) else if dK k=1∧aaV wy ng=true then(3,ng,0,0) else(2,ng,rdN k^dgN k-1,gsI k)
def pG (k:Nat)(wy:Int)(P:fz):Int×Bool×Nat×Int×Int:=
 if P.ov=true then((ovV k wy P.s).1,(ovV k wy P.s).2.1,(ovV k wy P.s).2.2.1,(ovV k wy P.s).2.2.2,5)
 else if P.un=true∧P.p<lsI k then(1,false,0,0,3)
 else((if P.d=0 then 1 else 2),P.s,P.d,P.p,if P.ex=true then 0 else if P.un=true then 3 else 1)
theorem XP {k:Nat}(hk:1≤k∧k≤8)(s:ByteArray):
  cC (ix (Dg.dg 4294967296 (ge k (aZ k s) (aR k s) (aU k s))) (gw k (aZ k s) (aR k s) (aU k s)) (rdN k) (dgN k) (lsI k) (gsI k)) ⟨kt k (aZ k s) (aR k s) (aU k s),Dg.vl 4294967296 (Dg.dg 4294967296 (ge k (aZ k s) (aR k s) (aU k s))),(ai (rdN k):Int)*gw k (aZ k s) (aR k s) (aU k s)⟩=(nxT k s,0):=by
 by_cases hc:dh k (aZ k s) (aR k s) (aU k s)=2
 ·exact EX hk s (.inr hc)
 ·have hgr:=(eR hk).2.2.2.2.2.2.2.2.2.2.2
  have hM:ge k (aZ k s) (aR k s) (aU k s)=0:=if_neg hc;have hP:gw k (aZ k s) (aR k s) (aU k s)=0:=if_neg hc;have hnil:Dg.dg 4294967296 0=[]:=(Dg.dg_nil_iff _ _ (by omega)).2 rfl;rw[hM,hP,hnil,kA (by decide) hgr (by decide)];unfold nxT;rw[Fm hk hc];exact uR _ _
theorem VZ {k:Nat}(hk:1≤k∧k≤8)(s:ByteArray)(hc:dh k (aZ k s) (aR k s) (aU k s)=2):(ji k (aZ k s) (aR k s) (aU k s)).n<2^64∧ -16445≤(ji k (aZ k s) (aR k s) (aU k s)).e∧(ji k (aZ k s) (aR k s) (aU k s)).e≤16464∧(ji k (aZ k s) (aR k s) (aU k s)).n≠0:=by
 obtain⟨s1,s2⟩:=Cu k s;have h64:=mZ hk s2;obtain⟨v1,v2,-,-⟩:=J9 hk s1 s2 hc;have hb:=rT hk s1 s2 h64 hc (Nat.ne_of_gt (jX hc));have hT:=iq hk s1 s2 hc;rw[wQ hk] at hT;refine⟨?_,v1,v2, ?_⟩
 ·rw[hT,←hb]
  exact Nat.lt_of_le_of_lt (kR _) (J8 hk _ _ h64)
 ·rw[hT]
  exact(gN (t:=⟨_,_,_⟩) (Nat.ne_of_gt (jX hc))).1
theorem ir {k:Nat}(hk:1≤k∧k≤8){p:ByteArray}(h:dF k p=0):iZ (opT k p)∧(bM k p≠2→opT k p=⟨false,0,0⟩)∧(bM k p=2→(opT k p).n≠0):=by
 have e:opT k p=ji k (aZ k p) (aR k p) (aU k p):=by
  unfold opT nxT;rw[if_pos h,Int.toNat_natCast]
 have ec:bM k p=dh k (aZ k p) (aR k p) (aU k p):=by
  unfold bM;rw[if_pos h,Int.toNat_natCast]
 rw[e,ec]
 by_cases hc:dh k (aZ k p) (aR k p) (aU k p)=2
 ·obtain⟨s1,s2,s3,s4⟩:=VZ hk p hc
  exact⟨⟨s1,by omega,by omega⟩,fun c=>absurd hc c,fun _=>s4⟩
 ·have:=Fm hk (ng:=aZ k p) (E:=aR k p) (F:=aU k p) hc
  rw[this];exact⟨⟨by show(0:Nat)<2^64;exact Nat.two_pow_pos 64,by show(-16500:Int)≤0;omega,by show 0≤16500;omega⟩,fun _=>rfl,fun c=>absurd c hc⟩
theorem or_set (k:Nat)(wy:Int)(P:fz):bits .or .i64 0 (pG k wy P).2.2.2.2=(pG k wy P).2.2.2.2:=by
 unfold pG
 split
 ·show bits .or .i64 0 5=5
  rfl
 ·split
  ·show bits .or .i64 0 3=3
   rfl
  ·show bits .or .i64 0 (if P.ex=true then 0 else if P.un=true then 3 else 1)=if P.ex=true then 0 else if P.un=true then 3 else 1
   split
   ·rfl
   ·split<;>rfl
theorem wratio_any (x:ak)(xo:Option Addr)(xc:Nat)(w:World):
  yC 40 #[yDV x xo xc] w fun z w'=> ∃eo ec,z= .returned (yrV x.s (yT xo x.n xc) (.slice eo 1 ec) x.e)∧Rd w' .u32 (.slice eo 1 ec) [1]∧yB w w':=by
 obtain⟨W,hW,q1,q2,b⟩:=iG w (yDL x xo xc) 78 (yrL false yN yN 0) 60;replace hW:Hid _:=hW
 go_enter func40,ntmps40
 go_upto_region 1 with fail
 rw[hW.out];clear hW;have al:=af W (.cells #[.int .u32 1] 54);have hn:=ah W [.int .u32 1] 54;have hlt:=q2.lt;have q3:=q2.l al;have b3:=aa b al;have hf:=afz (P:=Tryz.prog) q3 b3 (by omega) underlying60 rfl (by kernel_rfl) (.bool x.s) (yT xo x.n xc) (.slice (some ⟨W.heap.size,0,none⟩) 1 1) (yi x.e);have HH:Hid (_∧_∧_):=⟨hf.1,hf.2.2.loc hn (by omega),hf.2.1⟩;obtain⟨c0,c1,c2⟩:=q1.cs3;obtain⟨d0,d1,d2⟩:=(q1.l al).cs3;obtain⟨⟨z0,z1,z2,z3⟩,y0,y1,y2,y3⟩:=afB q3;clear hf q1 q2 q3 b b3 al hn hlt
 go_wp2
 obtain⟨hl,hq,bR⟩:=HH.out;exact bodyPost_ret (br results40 rfl hl) rfl ⟨_,_,rfl,aa0 (hq.c 0 rfl),bR⟩
theorem plus_bare (a b:ak):bare (cO a b)=bare (aG a b):=by
 have k0: -((a.e.natAbs+b.e.natAbs:Nat):Int)≤a.e:=by omega
 have k1: -((a.e.natAbs+b.e.natAbs:Nat):Int)≤b.e:=by omega
 refine fH (zy k0 k1) (eS k0 k1) ?_;rw[zx k0 k1,dH k0 k1]
def mvV (c:Int)(g:Bool)(fm:Int):Int×Bool×Int:=if c=1 then(1,g&&decide (fm=1),0) else if c≠5∧fm=1 then(c,g,0) else(AZ fm,false,16)
theorem ratio_any (ng:Bool)(ds:ByteArray)(p:Int)(w:World)(hs:ds.size≤400)(hd: ∀i,i<ds.size→48≤byt ds i∧byt ds i≤57)(p1: -6000≤p)(p2:p≤6000)(hT:Tab w):
  yC 74 #[.agg #[.bool ng,.string ds,yi p]] w (RtR w (nrV (ng,ds,p)).1 (nrV (ng,ds,p)).2.1 (nrV (ng,ds,p)).2.2.1 (nrV (ng,ds,p)).2.2.2):=by
 have HD:=fun w1=>DF ds w1 (by omega) hd
 obtain⟨a,ha⟩: ∃a,a=1600:=⟨_,rfl⟩;have hN:pv ds ds.size<2^a:=Nat.lt_of_lt_of_le (Tb ds hd _ (Nat.le_refl _)) (Nat.le_trans (pow10_two _) (Nat.pow_le_pow_right (by omega) (by omega)));unfold nrV
 by_cases h0:pv ds ds.size=0
 ·rw[if_pos h0]
  refine(tratio_0 ng ds p w fun w1=>(HD w1).mono fun z w' h=> ?_).mono fun z w' h=> ?_
  ·obtain⟨v,e,o,b⟩:=h
   rw[h0] at o;obtain⟨ao,ac,hv⟩:=o.rd.shape;exact⟨ao,ac,by rw[e,hv];rfl,b⟩
  ·obtain⟨q,e,l,b⟩:=h
   exact⟨_,_,e,by rw[show Dg.dg 4294967296 0=[] from rfl];exact aN _ _,rd_one1 (l.c 0 rfl),b⟩
 rw[if_neg h0];obtain⟨m0,mlt⟩:=nrM_in (p:=p) h0 hN p2;have htz:=tz_bits m0 mlt;have hlen:(Dg.dg 4294967296 (nrM (pv ds ds.size) p).1).length≤613:=jq mlt (by omega);have hNl:(Dg.dg 4294967296 (pv ds ds.size)).length≤50:=jq hN (by omega);have hl0:0< (Dg.dg 4294967296 (pv ds ds.size)).length:=by
  rcases Nat.eq_zero_or_pos (Dg.dg 4294967296 (pv ds ds.size)).length with c|c
  ·exact absurd ((Dg.dg_nil_iff 4294967296 _ (by omega)).1 (List.length_eq_zero_iff.1 c)) h0
  ·exact c
 have HW: ∀mo mc w1,yB w w1→Rd w1 .u32 (.slice mo (Dg.dg 4294967296 (nrM (pv ds ds.size) p).1).length mc) (Dg.dg 4294967296 (nrM (pv ds ds.size) p).1)→yC 108 #[.slice mo (Dg.dg 4294967296 (nrM (pv ds ds.size) p).1).length mc] w1 (yR w1 (yi ((tz (nrM (pv ds ds.size) p).1:Nat):Int))):=fun mo mc w1 b hr=>by
  refine(Gl _ _ w1 hr (by omega) (hT.l b)).mono fun z w' h=> ?_
  obtain⟨h1,h2⟩:=h;rw[if_neg m0] at h1;subst h2;exact⟨h1,Below.refl _ _⟩
 have HS: ∀mo mc w1,Rd w1 .u32 (.slice mo (Dg.dg 4294967296 (nrM (pv ds ds.size) p).1).length mc) (Dg.dg 4294967296 (nrM (pv ds ds.size) p).1)→yC 91 #[.slice mo (Dg.dg 4294967296 (nrM (pv ds ds.size) p).1).length mc,yi (-((tz (nrM (pv ds ds.size) p).1:Nat):Int))] w1 (NmR w1 ((nrM (pv ds ds.size) p).1/2^tz (nrM (pv ds ds.size) p).1)):=fun mo mc w1 hr=>by
  have:=eO _ _ (-((tz (nrM (pv ds ds.size) p).1:Nat):Int)) w1 hr (Dg.small_dg _ _ (by omega)) (by omega) (by omega) (by omega);rw[Dg.vl_dg _ _ (by omega),shN_down] at this;exact this.mono fun _ _ h=>num_nmR h
 have hmt:IntKind.i64.wrap (-((tz (nrM (pv ds ds.size) p).1:Nat):Int))= -((tz (nrM (pv ds ds.size) p).1:Nat):Int):=IntWalk.i64_in _ ⟨by omega,by omega⟩;have hex:IntKind.i64.wrap (p+((tz (nrM (pv ds ds.size) p).1:Nat):Int))=p+((tz (nrM (pv ds ds.size) p).1:Nat):Int):=IntWalk.i64_in _ ⟨by omega,by omega⟩;have HD2:=fun w1=>(HD w1).mono fun _ _ h=>num_nmR h
 by_cases hp:0<p
 ·have eM:nrM (pv ds ds.size) p=(pv ds ds.size*5^p.toNat,1):=if_pos hp
  have HF: ∀w1,yC 106 #[yi p] w1 (NmR w1 (5^p.toNat)):=fun w1=>by
   have:=fives_any p.toNat w1 (by omega);rw[show((p.toNat:Nat):Int)=p by omega] at this
   exact this
  obtain⟨c,hc⟩: ∃c,c=18001:=⟨_,rfl⟩;have h5:5^p.toNat<2^c:=Nat.lt_of_le_of_lt (pow5_two _) (Nat.pow_lt_pow_right (by omega) (by omega));have h5l:(Dg.dg 4294967296 (5^p.toNat)).length≤563:=jq h5 (by omega);have HT: ∀xo xc fo fc w1,Rd w1 .u32 (.slice xo (Dg.dg 4294967296 (pv ds ds.size)).length xc) (Dg.dg 4294967296 (pv ds ds.size))→Rd w1 .u32 (.slice fo (Dg.dg 4294967296 (5^p.toNat)).length fc) (Dg.dg 4294967296 (5^p.toNat))→yC 57 #[.slice xo (Dg.dg 4294967296 (pv ds ds.size)).length xc,.slice fo (Dg.dg 4294967296 (5^p.toNat)).length fc] w1 (NmR w1 (nrM (pv ds ds.size) p).1):=fun xo xc fo fc w1 h1 h2=>by
   have:=qC _ _ _ _ w1 h1 h2 (Dg.small_dg _ _ (by omega)) (Dg.small_dg _ _ (by omega)) (by omega) (by omega);rw[Dg.vl_dg _ _ (by omega),Dg.vl_dg _ _ (by omega)] at this;rw[eM];exact this.mono fun _ _ h=>num_nmR h
  have:=tratio_up ng ds p _ _ _ _ _ _ _ w hl0 hmt hex hp HD2 HF HT HW HS;rw[show(nrM (pv ds ds.size) p).2=1 by rw[eM]]
  exact this
 ·have eM:nrM (pv ds ds.size) p=((redF (pv ds ds.size) (-p).toNat).1,5^ (redF (pv ds ds.size) (-p).toNat).2):=if_neg hp
  have HR: ∀xo xc w1,Rd w1 .u32 (.slice xo (Dg.dg 4294967296 (pv ds ds.size)).length xc) (Dg.dg 4294967296 (pv ds ds.size))→yC 107 #[.slice xo (Dg.dg 4294967296 (pv ds ds.size)).length xc,yi (-p)] w1 (TwR w1 (nrM (pv ds ds.size) p).1 (nrM (pv ds ds.size) p).2):=fun xo xc w1 h=>by
   have:=reduced_any xo _ xc _ (-p).toNat w1 h (by omega) (by omega);rw[show(((-p).toNat:Nat):Int)= -p by omega] at this
   rw[eM];exact this
  exact tratio_down ng ds p _ _ _ _ _ _ _ _ w hl0 hmt hex hp (IntWalk.i64_in _ ⟨by omega,by omega⟩) HD2 HR HW HS
def shM (n:Int)(s:ByteArray):ByteArray:=fq n ((bM n s:Nat):Int) (dz n s) (Dg.dg 4294967296 (gJ n s)) (iF n s)
theorem G5 {k:Nat}(hk:1≤k∧k≤8){p:ByteArray}(h:dF k p=0)(c:bM k p=2):
  (opT k p).n≠0∧(opT k p).s=dz k p∧bare ⟨dz k p,gJ k p,(ai (rdN k):Int)*iF k p⟩=opT k p:=by
 have h0:=(ir hk h).2.2 c;have hc:dh k (aZ k p) (aR k p) (aU k p)=2:=by
  unfold bM at c
  rwa [if_pos h,Int.toNat_natCast] at c
 have e:=(wI (EX hk p (.inr hc))).1;rw[Dg.vl_dg _ _ (by omega)] at e;have e2:opT k p=nxT k p:=by unfold opT;rw[if_pos h,Int.toNat_natCast]
 have hb:bare ⟨dz k p,gJ k p,(ai (rdN k):Int)*iF k p⟩=opT k p:=by
  unfold dz gJ iF;rw[if_pos h,if_pos h,if_pos h,Int.toNat_natCast,e2];exact e.symm
 refine⟨h0, ?_,hb⟩;rw[←hb] at h0⊢;exact qr (fun c=>h0 ((fI _).2 c))
theorem Uc (N k:Nat)(hk:N<65536^k)(hk2:k≤2400):(oW N).size≤12000∧Pr (oW N)∧pv (oW N) (oW N).size=N:=by
 by_cases h:N=0
 ·subst h
  have hs:Dg.Small 10 [0]:=Dg.small_cons.2 ⟨by omega,Dg.small_nil _ (by omega)⟩;rw[Ub];have hz:(cF (txt [0])).size=1:=by rw[strOf_size8];rfl
  refine⟨by omega,⟨by omega,fun _=>hz,fun i hi=> ?_⟩, ?_⟩
  ·rw[DQ [0] hs i (by simpa[hz] using hi)]
   have hi0:i=0:=by omega
   subst hi0;exact⟨by simp,by simp⟩
  ·rw[hz,XL [0] hs 1 (by simp)]
   simp[Dg.vl]
 ·rw[XM h]
  have hs:=Dg.small_dg 10 N (by omega);have hne:Dg.dg 10 N≠[]:=fun e=>h ((Dg.dg_nil_iff 10 N (by omega)).1 e)
  have hlp:0< (Dg.dg 10 N).length:=List.length_pos_iff.2 hne;have hlen:(Dg.dg 10 N).length≤5*k:=Dg.dg_len_le 10 N _ (by omega) (afm N k hk);have hno:=Dg.norm_dg 10 N (by omega) hne;have hz:(cF (txt (Dg.dg 10 N))).size=(Dg.dg 10 N).length:=by rw[strOf_size8,jL]
  refine⟨by omega,⟨by omega,fun h0=> ?_,fun i hi=> ?_⟩, ?_⟩
  ·rw[DQ _ hs 0 hlp] at h0
   exact absurd (by simpa using h0) hno
  ·rw[DQ _ hs i (by omega)]
   have:=hs ((Dg.dg 10 N).length-1-i);omega
  ·rw[hz,XL _ hs _ (Nat.le_refl _)]
   simp[Dg.vl_dg]
theorem ra_fine {t:ByteArray}(h:raE t=0):eA (Dg.dg 4294967296 (raV t).2.1) (Dg.dg 4294967296 (raV t).2.2.1) (raV t).2.2.2=0:=by
 obtain⟨l1,l2,m0,e1,e2,-,-⟩:=raV_in h;unfold eA;rw[if_pos (pJ (Dg.norm_dg _ _ (by omega)) l1),if_pos (pJ (Dg.norm_dg _ _ (by omega)) l2),if_neg];rintro(c|c)
 ·exact m0 ((Dg.dg_nil_iff 4294967296 _ (by omega)).1 (List.length_eq_zero_iff.1 c))
 ·unfold eJ at c
  simp at c;omega
theorem hd_fine {k:Nat}(hk:1≤k∧k≤8):(hdL k).all (fun t=>aS (Dg.dg 4294967296 t.n) t.e==0)=true∧hdL k≠[]:=by
 rcases bO hk with rfl|rfl|rfl|rfl|rfl|rfl|rfl|rfl<;>exact⟨by kernel_rfl,fun c=>by cases c⟩
theorem fit_two {k:Nat}{P:fz}{g:Bool}{d:Nat}{κ:Int}(h1:P.s=g)(h2:P.d=d)(h3:P.p=κ)(h4:P.ov=false)(hκ:lsI k≤κ)(hd:d≠0): ∃fl,pG k 1 P=(2,g,d,κ,fl):=by
 refine⟨if P.ex=true then 0 else if P.un=true then 3 else 1, ?_⟩
 unfold pG;rw[if_neg (by rw[h4];decide),if_neg (by rintro⟨-,c⟩;omega),h1,h2,h3,if_neg hd]
theorem unit_s {D G:Int}(gr qs:Bool)(N M:Nat)(E way:Int)(d1:1≤D)(hG:0≤G)(hN:N≠0)(hM:M≠0):(cI 2 D 0 G gr qs N M E way).s=qs∧(cI 2 D 0 G gr qs N M E way).d<2^D.toNat:=by
 rw[kJ gr qs N M E way d1 hG hN hM];refine⟨rfl, ?_⟩
 show io 2 D (fM 2 D 0 gr qs N M E way)<2^D.toNat
 have h:=rP 2 D 0 gr N M E d1 hN hM;have h2:fM 2 D 0 gr qs N M E way≤cH 2 D 0 gr N M E+1:=by
  unfold fM
  split<;>omega
 rw[show ai 2=1 from rfl,Nat.one_mul] at h
 unfold io;rw[show ai 2=1 from rfl,Nat.one_mul,Nat.one_mul]
 by_cases hc:fM 2 D 0 gr qs N M E way=2^D.toNat
 ·rw[if_pos hc]
  exact Nat.pow_lt_pow_right (by omega) (by omega)
 ·rw[if_neg hc]
  omega
theorem Q6 {R D L G:Int}{gr s:Bool}{n:Nat}{e way:Int}(h1:1≤D)(hLG:L≤G)(h0:n≠0)(hx:(cI R D L G gr s n 1 e way).ex=true):
  (cI R D L G gr s n 1 e way).s=s∧bare ⟨s,(cI R D L G gr s n 1 e way).d,(ai R:Int)*(cI R D L G gr s n 1 e way).p⟩=bare ⟨s,n,e⟩∧(cI R D L G gr s n 1 e way).d≠0∧(cI R D L G gr s n 1 e way).p=dj R D L gr n 1 e∧(cI R D L G gr s n 1 e way).un=decide (aT R D (dY n 1 e)<L):=by
 have hM:(1:Nat)≠0:=by omega
 rw[kJ gr s n 1 e way h1 hLG h0 hM] at hx⊢;have hl:gF R D L gr n 1 e=0:=of_decide_eq_true hx;have hd:fM R D L gr s n 1 e way=cH R D L gr n 1 e:=by
  unfold fM;rw[if_neg];rintro⟨c,-⟩;exact of_decide_eq_false c hl
 obtain⟨c1,c2⟩:=uh R D L gr n 1 e h1 h0 hM (dj R D L gr n 1 e);have hK:(ai R:Int)*dj R D L gr n 1 e≤e+(tz n:Int):=by
  unfold gF shP at hl;generalize(ai R)*dj R D L gr n 1 e=K at hl⊢
  by_cases hle:K≤e
  ·omega
  have e1:eZ n (e-K)=n:=by rw[fw,show(e-K).toNat=0 by omega,Nat.pow_zero,Nat.mul_one]
  have e2:dX 1 (e-K)=2^ (K-e).toNat:=by rw[eM,Nat.one_mul,show-(e-K)=K-e by omega]
  rw[e1,e2] at hl;have:=(FC h0).1 (Nat.dvd_of_mod_eq_zero hl);omega
 obtain⟨-,p2⟩:=nV s n e _ hK;have hw:cH R D L gr n 1 e=eZ n (e-(ai R:Int)*dj R D L gr n 1 e)/dX 1 (e-(ai R:Int)*dj R D L gr n 1 e):=rfl;rw[←hw] at p2;have hwn:cH R D L gr n 1 e≠0:=fun hz=>by
  have h2:(bare ⟨s,cH R D L gr n 1 e,(ai R:Int)*dj R D L gr n 1 e⟩).n=0:=(fI _).2 hz;rw[p2] at h2;exact h0 ((fI _).1 h2)
 rw[hd,c1,c2];simp only;rw[if_neg hwn];exact⟨trivial,p2,hwn,rfl,trivial⟩
end Go.Proofs.YtlgkfdcmokchgaaGreatDoor
