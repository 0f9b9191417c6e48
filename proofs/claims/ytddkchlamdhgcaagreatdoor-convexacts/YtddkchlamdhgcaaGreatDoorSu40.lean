/-
  Texts laid together: Gn2, Co19, Co20, Co21, Ce10, Ce11, Df1, Eb3, As4, Pa1.
-/
import Derived.Test.YtddkchlamdhgcaaGreatDoorSu29
import Derived.Test.YtddkchlamdhgcaaGreatDoorSu35
import Derived.Test.YtddkchlamdhgcaaGreatDoorSu36
set_option maxRecDepth 100000
set_option maxHeartbeats 3200000
namespace Go.Proofs.YtddkchlamdhgcaaGreatDoor
open _root_.Go.Proofs.Tryz
open Go.RowKit
theorem kB (R D L G:Int)(gr s:Bool)(ao:Option Addr)(ca:Nat)(xs:List Nat)(p:Int)(x1 x2 x3:Bool)(w:World)(hr:Rd w .u32 (.slice ao xs.length ca) xs)(sa:Dg.Small 4294967296 xs)(hT:Tab w):
  yC 121 #[ypV s (.slice ao xs.length ca) p x1 x2 x3,ygV R D L G gr] w (gR w (cC (ix xs p R D L G) ⟨s,Dg.vl 4294967296 xs,(ai R:Int)*p⟩)):=by
 obtain⟨⟨⟨rs,rn,re⟩,c⟩,hrr⟩: ∃r,cC (ix xs p R D L G) ⟨s,Dg.vl 4294967296 xs,(ai R:Int)*p⟩=r:=⟨_,rfl⟩;have herr: ∀k,ix xs p R D L G=k→ ¬k=0→rs=false∧rn=0∧re=0∧c=k:=fun k h1 h2=>by
  rw[h1,Xw h2] at hrr;simp only[Prod.mk.injEq,ak.mk.injEq] at hrr;exact⟨hrr.1.1.symm,hrr.1.2.1.symm,hrr.1.2.2.symm,hrr.2.symm⟩
 rw[hrr];refine Zr R D L G gr s ao _ ca p x1 x2 x3 (ai R) (chk xs) (bk R D L G) c (eJ 20000 p) rs rn re w ?_ ?_ ?_ ?_ ?_ ?_ ?_ ?_
 ·intro h
  exact herr _ (if_neg h) h
 ·intro h h2
  exact herr _ ((if_pos h).trans (if_neg h2)) h2
 ·intro h h2 h3
  exact herr 3 ((if_pos h).trans ((if_pos h2).trans (if_pos h3))) (by decide)
 ·intro w1 b
  refine(jC _ xs w1 (hr.l b)).mono ?_;rintro z w' ⟨rfl,rfl⟩;exact⟨rfl,Below.refl _ _⟩
 ·intro w1
  exact vE R D L G gr w1
 ·intro w1
  exact nK p 20000 w1 (by omega) (by omega)
 ·intro h h2 h3 w1
  have:=wS (R:=R) (A8 h3);exact CW R D L G gr s ao _ ca p w1 ⟨by omega,by omega⟩
 ·intro h h2 h3 w1 b
  have hp:=wS (R:=R) (A8 h3);obtain⟨n1,l1⟩:=aF h;have x1:(Dg.dg 4294967296 (Dg.vl 4294967296 xs)).length≤1200:=by rw[←Dg.eq_dg 4294967296 (by omega) xs _ sa n1 rfl];exact l1
  rw[kA h h2 h3] at hrr;rw[←hrr];exact kL _ _ w1 (jw (hr.l b) sa n1) (by simp only;omega) ⟨by simp only;omega,by simp only;omega⟩ (hT.l b) (by have:=gZ (Dg.vl 4294967296 xs) 1200 x1;simp only;omega)
theorem Aq (k:Nat)(hk:1≤k∧k≤8)(ng:Bool)(e f:Nat)(w:World)(he:e<65536)(hf:f<18446744073709551616):
  yC 86 #[.agg (tS k).toArray,yfV ng e f] w (yR w (.string (cF (kU k ng e f)))):=by
 obtain⟨h1,h2,h3,h4,h5,-⟩:=fZ hk;have hl:=Mx k ng e f;have HF:=fun w1=>tm k hk w1
 have HE:=fun args W=>Db k args W
 have HT:=fun zs (hz:zs.length=szN k) g cap w1 h=>IV k g cap zs w1 h (by omega) (by rw[hz];exact h5)
 cases ng
 ·have HT': ∀g cap w1,ik w1 g (iS (1+exN k) (frN k) f (iS 1 (exN k) e (List.replicate (szN k) 0)))→yC (C9 k) #[.slice (some ⟨g,0,none⟩) (szN k) cap] w1 fun z w'=>z= .returned (.tuple #[])∧ik w' g (kU k false e f)∧w1.grownBy w' (some g):=fun g cap w1 h=>by
   have hz:(iS (1+exN k) (frN k) f (iS 1 (exN k) e (List.replicate (szN k) 0))).length=szN k:=by rw[il,il,List.length_replicate]
   have:=HT _ hz g cap w1 h;rw[hz] at this;exact this
  rcases bO hk with rfl|rfl|rfl|rfl|rfl|rfl|rfl|rfl
  all_goals exact Km _ _ _ _ _ _ _ _ _ _ e f _ w h1 h2 h3 he hf hl HT' HF HE
 ·have HT': ∀g cap w1,ik w1 g (iS (1+exN k) (frN k) f (iS 1 (exN k) e (iS 0 1 1 (List.replicate (szN k) 0))))→yC (C9 k) #[.slice (some ⟨g,0,none⟩) (szN k) cap] w1 fun z w'=>z= .returned (.tuple #[])∧ik w' g (kU k true e f)∧w1.grownBy w' (some g):=fun g cap w1 h=>by
   have hz:(iS (1+exN k) (frN k) f (iS 1 (exN k) e (iS 0 1 1 (List.replicate (szN k) 0)))).length=szN k:=by rw[il,il,il,List.length_replicate]
   have:=HT _ hz g cap w1 h;rw[hz] at this;exact this
  rcases bO hk with rfl|rfl|rfl|rfl|rfl|rfl|rfl|rfl
  all_goals exact Mw _ _ _ _ _ _ _ _ _ _ e f _ w h1 h2 h3 he hf hl HT' HF HE
theorem MP (k c:Nat)(hk:1≤k∧k≤8)(hc:c=1∨c=3∨c=4∨c=5)(w:World):
  yC 84 #[.agg (tS k).toArray,yi c] w (yR w (.tuple #[yfV (pI k c) ((pg k c:Nat):Int) ((lS k c:Nat):Int),.bool (iR k c)])):=by
 have HO:=fun w1=>jy k hk w1
 have HW:=fun w1=>gj k hk w1
 have HL:=fun w1=>xX k hk w1
 rcases hc with rfl|rfl|rfl|rfl
 ·rw[show pI k 1=false from rfl,show pg k 1=0 from if_neg (fun h=>by omega),show lS k 1=0 from by unfold lS;simp,show iR k 1=true from rfl]
  rcases bO hk with rfl|rfl|rfl|rfl|rfl|rfl|rfl|rfl
  all_goals exact Ku _ _ _ _ _ _ _ _ _ w
 ·rw[show pI k 3=false from rfl]
  by_cases h3:k≤3
  ·rw[show pg k 3=kp k from if_pos ⟨.inl rfl,h3⟩,show lS k 3=wrN k from by unfold lS;rw[if_pos h3,if_pos rfl],show iR k 3=true from by simp[iR,h3]]
   generalize kp k=on at*;generalize wrN k=wr at*
   rcases(by omega:k=1∨k=2∨k=3) with rfl|rfl|rfl
   all_goals exact MN _ _ _ _ _ _ _ _ w _ _ HO HW
  ·rw[show pg k 3=0 from if_neg (fun h=>h3 h.2),show lS k 3=0 from if_neg h3,show iR k 3=false from by simp[iR,h3]]
   rcases(by omega:k=4∨k=5∨k=6∨k=7∨k=8) with rfl|rfl|rfl|rfl|rfl
   all_goals exact MJ _ _ _ _ _ _ _ _ _ w rfl
 ·rw[show pI k 4=false from rfl]
  by_cases h3:k≤3
  ·rw[show pg k 4=kp k from if_pos ⟨.inr rfl,h3⟩,show lS k 4=wrN k|||gW k/2 from by unfold lS;rw[if_pos h3,if_neg (by omega),if_pos rfl],show iR k 4=true from by simp[iR,h3]]
   have hw:wrN k<18446744073709551616:=by rcases(by omega:k=1∨k=2∨k=3) with rfl|rfl|rfl<;>decide
   have hl:gW k<18446744073709551616:=by rcases(by omega:k=1∨k=2∨k=3) with rfl|rfl|rfl<;>decide
   generalize kp k=on at*;generalize wrN k=wr at*;generalize gW k=ld at*
   rcases(by omega:k=1∨k=2∨k=3) with rfl|rfl|rfl
   all_goals exact MO _ _ _ _ _ _ _ _ w _ _ _ hw hl HO HW HL
  ·rw[show pg k 4=0 from if_neg (fun h=>h3 h.2),show lS k 4=0 from if_neg h3,show iR k 4=false from by simp[iR,h3]]
   rcases(by omega:k=4∨k=5∨k=6∨k=7∨k=8) with rfl|rfl|rfl|rfl|rfl
   all_goals exact MK _ _ _ _ _ _ _ _ _ w rfl
 ·rw[show pg k 5=0 from if_neg (fun h=>by omega),show lS k 5=0 from by unfold lS;simp]
  by_cases h6:6≤k
  ·rw[show pI k 5=true from by simp[pI,h6],show iR k 5=true from by simp[iR,h6]]
   rcases(by omega:k=6∨k=7∨k=8) with rfl|rfl|rfl
   all_goals exact MM _ _ _ _ _ _ _ _ _ w rfl
  ·rw[show pI k 5=false from by simp[pI,h6],show iR k 5=false from by simp[iR,h6]]
   rcases(by omega:k=1∨k=2∨k=3∨k=4∨k=5) with rfl|rfl|rfl|rfl|rfl
   all_goals exact ML _ _ _ _ _ _ _ _ _ w rfl
theorem wE (k c:Nat)(hk:1≤k∧k≤8)(hc:c=1∨c=3∨c=4∨c=5)(ng:Bool)(ao:Option Addr)(dn dc:Nat)(p:Int)(w:World):
  yC 60 #[.agg (tS k).toArray,yvV c ng (.slice ao dn dc) p] w (yR w (.tuple #[.string (Fv k c dn ng p),yi (qX k c dn ng p)])):=by
 have HS:=fun w1=>MP k c hk hc w1
 have HG:=fun w1=>Qa k c hk hc w1
 have HW:=fun w1=>Aq k hk (pI k c||ng) (pg k c) (lS k c) w1 (Fw c hk) (Fx c hk)
 have key: ∀er,qX k c dn ng p=er→Fv k c dn ng p=if er=0 then cF (kU k (pI k c||ng) (pg k c) (lS k c)) else⟨#[]⟩:=fun er h=>by unfold Fv;rw[h]
 by_cases hok:iR k c=false
 ·have hE:qX k c dn ng p=5:=by unfold qX;rw[if_pos hok]
  rw[key 5 hE,hE,if_neg (by omega)];rw[hok] at HS;generalize pI k c=sg0 at*;generalize pg k c=se at*;generalize lS k c=sf at*;clear HG HW key hE hok
  rcases bO hk with rfl|rfl|rfl|rfl|rfl|rfl|rfl|rfl
  all_goals exact P8 _ _ _ _ _ _ _ _ _ _ p ng ao dn dc sg0 se sf w HS
 ·have hok':iR k c=true:=by simpa using hok
  rw[hok'] at HS
  by_cases h1:0<dn
  ·have hE:qX k c dn ng p=4:=by unfold qX;rw[if_neg hok,if_pos (.inl h1)]
   rw[key 4 hE,hE,if_neg (by omega)];generalize pI k c=sg0 at*;generalize pg k c=se at*;generalize lS k c=sf at*;clear HG HW key hE hok hok'
   rcases bO hk with rfl|rfl|rfl|rfl|rfl|rfl|rfl|rfl
   all_goals exact Kt _ _ _ _ _ _ _ _ _ _ p ng ao dn dc sg0 se sf w HS h1
  ·have hd:dn=0:=by omega
   by_cases h2:p=0
   ·by_cases h3:ng=true∧Bk k c=false
    ·have hE:qX k c dn ng p=4:=by unfold qX;rw[if_neg hok,if_pos (.inr (.inr h3))]
     rw[key 4 hE,hE,if_neg (by omega)];rw[h3.2] at HG;have hng:=h3.1;generalize pI k c=sg0 at*;generalize pg k c=se at*;generalize lS k c=sf at*;clear HW key hE hok hok' h3
     rcases bO hk with rfl|rfl|rfl|rfl|rfl|rfl|rfl|rfl
     all_goals exact P9 _ _ _ _ _ _ _ _ _ _ p ng ao dn dc sg0 se sf w HS HG hd h2 hng
    ·have hE:qX k c dn ng p=0:=by
      unfold qX;rw[if_neg hok,if_neg];rintro(h|h|h)
      ·exact h1 h
      ·exact h h2
      ·exact h3 h
     rw[key 0 hE,hE,if_pos rfl];have hsg:ng=true→Bk k c=true:=fun h=>by
      cases hs:Bk k c
      ·exact absurd ⟨h,hs⟩ h3
      ·rfl
     generalize cF (kU k (pI k c||ng) (pg k c) (lS k c))=st at*
     generalize pI k c=sg0 at*;generalize pg k c=se at*;generalize lS k c=sf at*;clear key hE hok hok' h3
     cases ng
     ·rcases bO hk with rfl|rfl|rfl|rfl|rfl|rfl|rfl|rfl
      all_goals exact Ui _ _ _ _ _ _ _ _ _ _ p false ao dn dc sg0 se sf w HS st HW hd h2 rfl
     ·rw[hsg rfl] at HG
      rcases bO hk with rfl|rfl|rfl|rfl|rfl|rfl|rfl|rfl
      all_goals exact Uj _ _ _ _ _ _ _ _ _ _ p true ao dn dc sg0 se sf w HS HG st HW hd h2 rfl
   ·have hE:qX k c dn ng p=4:=by unfold qX;rw[if_neg hok,if_pos (.inr (.inl h2))]
    rw[key 4 hE,hE,if_neg (by omega)];generalize pI k c=sg0 at*;generalize pg k c=se at*;generalize lS k c=sf at*;clear HG HW key hE hok hok'
    rcases bO hk with rfl|rfl|rfl|rfl|rfl|rfl|rfl|rfl
    all_goals exact MI _ _ _ _ _ _ _ _ _ _ p ng ao dn dc sg0 se sf w HS hd h2
theorem ZC (R D L G fam:Int)(gr:Bool)(sz ex:Nat)(F ld:Nat)(s:Bool)(ao:Option Addr)(ca:Nat)(xs:List Nat)(E:Int)(w:World)(WB:Bool→Nat→Nat→ByteArray)
  (hr:Rd w .u32 (.slice ao xs.length ca) xs) (sa:Dg.Small 4294967296 xs) (hd:aS xs E=0) (h0:Dg.vl 4294967296 xs≠0) (hg:bk R D L G=0) (h1:1≤D) (hLG:L≤G) (hD:ai R*D.toNat≤64) (hGL:G-L<60000) (hRc:R=2∨R=16) (hld:ld<18446744073709551616)
  (hh:dA R D L G gr (Dg.vl 4294967296 xs) E=true)
  (HL:yJ 116 #[ylV R D L G gr sz ex fam F] (.int .u64 ld))
  (HW: ∀ng e f w1,e<65536→f<18446744073709551616→yC 86 #[ylV R D L G gr sz ex fam F,yfV ng ((e:Nat):Int) ((f:Nat):Int)] w1 (yR w1 (.string (WB ng e f)))):
  yC 83 #[ylV R D L G gr sz ex fam F,ydV s (.slice ao xs.length ca) E] w (yR w (.tuple #[.string (WB (cI R D L G gr s (Dg.vl 4294967296 xs) 1 E 3).s (heE R L ld (cI R D L G gr s (Dg.vl 4294967296 xs) 1 E 3)) (cI R D L G gr s (Dg.vl 4294967296 xs) 1 E 3).d),yi 0])):=by
 obtain⟨c1,e1,e2⟩:=bL hd;have hlen:xs.length≠0:=fun h=>h0 (by rw[List.eq_nil_of_length_eq_zero h];rfl)
 have hC:eE xs [1] E R D L G 3=0:=by
  have hq:eA xs [1] E=0:=by
   unfold eA;rw[if_pos c1,if_pos (show chk [1]=0 by decide),if_neg]
   rintro(h|h)
   ·simp at h
   ·unfold eJ at h
    simp at h;omega
  have hw:jg (eA xs [1] E) (bk R D L G)=0:=by unfold jg;rw[if_pos hq];exact hg
  unfold eE;rw[if_pos hw,if_pos (by decide)]
 have hP:df xs [1] E R D L G gr s 3=cI R D L G gr s (Dg.vl 4294967296 xs) 1 E 3:=by
  unfold df;rw[if_pos hC,if_neg hlen];rfl
 obtain⟨hov,hun,hbare⟩:=mC (s:=s) (way:=3) h1 hLG h0 hh;have hsp:=nW h1 hLG h0 (by omega:(1:Nat)≠0) hov hun;have hR:=fun q w1 (b:yB w w1) (hc:w1.cell? ⟨q,0,none⟩=some (.int .u32 1))=>jM s ao ca xs (some ⟨q,0,none⟩) 1 [1] E R D L G gr 3 w1 (hr.l b) (xD hc) sa (fun i=>by
  match i with
  |0=>decide
  |i+1=>simp)
 rw[hC,hP] at hR;obtain⟨t,ht⟩: ∃t,cI R D L G gr s (Dg.vl 4294967296 xs) 1 E 3=t:=⟨_,rfl⟩;rw[ht] at hsp hbare hR⊢;have hd0:t.d≠0:=fun h=>by
  have hz:=congrArg ak.n hbare;have a1:=(fI ⟨t.s,t.d,(ai R:Int)*t.p⟩).2 h;rw[hz] at a1;exact h0 ((fI ⟨s,Dg.vl 4294967296 xs,E⟩).1 a1)
 obtain⟨-,hp1,hp2,hdl,-⟩:=hsp.resolve_left (fun h=>hd0 h.1)
 have hd64:t.d<18446744073709551616:=by
  have:(2:Nat)^ (ai R*D.toNat)≤2^64:=Nat.pow_le_pow_right (by omega) hD;omega
 clear ht hov hun hbare hsp hC hP hh;obtain⟨e,he⟩: ∃e:Nat,t.p-L=(e:Int):=⟨(t.p-L).toNat,by omega⟩;have hel:e<60000:=by omega
 have hew:IntKind.i64.wrap (t.p-L)=(e:Int):=by rw[he];exact IntWalk.i64_in _ ⟨by omega,by omega⟩
 have hzl:(Dg.dg 4294967296 t.d).length≤2:=Dg.dg_len_le 4294967296 t.d 2 (by omega) hd64;have hzp:0< (Dg.dg 4294967296 t.d).length:=List.length_pos_iff.2 (by rw[Ne,Dg.dg_nil_iff 4294967296 t.d (by omega)];exact hd0);have HWd: ∀po pc w1,Rd w1 .u32 (yT po t.d pc) (Dg.dg 4294967296 t.d)→ ∀w2,yB w1 w2→yC 65 #[yT po t.d pc] w2 fun z w'=>z= .returned (.int .u64 (t.d:Int))∧w2=w':=fun po pc w1 h w2 b=>by
  have:=XF _ _ w2 (h.l b) (Dg.small_dg 4294967296 t.d (by omega)) hzl;rw[Dg.vl_dg 4294967296 t.d (by omega)] at this;exact this.mono (fun _ _ h=>⟨h.1,h.2.symm⟩)
 have hen:(t.p-L).toNat=e:=by omega
 unfold heE;rw[hen];have HR2: ∀q w1,yB w w1→w1.cell? ⟨q,0,none⟩=some (.int .u32 1)→yC 31 #[yrV s (.slice ao xs.length ca) (.slice (some ⟨q,0,none⟩) 1 1) E,ygV R D L G gr,yi 3] w1 fun z w'=> ∃po pc,z= .returned (.tuple #[ypV t.s (yT po t.d pc) t.p t.ex t.ov t.un,yi 0])∧Rd w' .u32 (yT po t.d pc) (Dg.dg 4294967296 t.d)∧yB w1 w':=fun q w1 b hc=>(hR q w1 b hc).mono (fun z w' h=>by
  obtain⟨v,rfl,own,b2⟩:=h;obtain⟨po,pc,hv⟩:=own.rd.shape;subst hv;exact⟨po,pc,rfl,own.rd,b2⟩)
 rcases hRc with rfl|rfl
 ·by_cases hb:t.d&&& ld=0
  ·rw[if_neg (fun h=>h.2 hb),Nat.add_zero]
   exact CC _ D L G fam gr sz ex F s ao xs.length ca E w (Dg.dg 4294967296 t.d) _ t.s t.ex t.ov t.un t.p 0 HR2 t.s e t.d (fun po pc w1 _ h=>KG D L G fam gr sz ex F t.s t.ex t.ov t.un po _ pc t.p e t.d w1 hew (by omega) (HWd po pc w1 h) ld 0 (by rw[u64_and_nat t.d ld hd64 hld,hb];rfl) rfl HL) _ (fun w1=>HW t.s e t.d w1 (by omega) hd64) rfl hzp
  ·rw[if_pos ⟨rfl,hb⟩]
   have hF: ∀po pc w1,yB w w1→Rd w1 .u32 (yT po t.d pc) (Dg.dg 4294967296 t.d)→_:=fun po pc w1 _ h=>KF D L G fam gr sz ex F t.s t.ex t.ov t.un po _ pc t.p e t.d w1 hew (by omega) (HWd po pc w1 h) ld ((t.d&&& ld:Nat):Int) (u64_and_nat t.d ld hd64 hld) (by omega) HL
   exact CC _ D L G fam gr sz ex F s ao xs.length ca E w (Dg.dg 4294967296 t.d) _ t.s t.ex t.ov t.un t.p 0 HR2 t.s (e+1) t.d hF _ (fun w1=>HW t.s (e+1) t.d w1 (by omega) hd64) rfl hzp
 ·rw[if_neg (fun h=>by have:=h.1;omega),Nat.add_zero]
  exact CC _ D L G fam gr sz ex F s ao xs.length ca E w (Dg.dg 4294967296 t.d) _ t.s t.ex t.ov t.un t.p 0 HR2 t.s e t.d (fun po pc w1 _ h=>KE D L G fam gr sz ex F t.s t.ex t.ov t.un po _ pc t.p e t.d w1 hew (by omega) (HWd po pc w1 h)) _ (fun w1=>HW t.s e t.d w1 (by omega) hd64) rfl hzp
theorem xE (k:Nat)(hk:1≤k∧k≤8)(s:Bool)(ao:Option Addr)(ca:Nat)(xs:List Nat)(E:Int)(w:World)(hr:Rd w .u32 (.slice ao xs.length ca) xs)(sa:Dg.Small 4294967296 xs)(hd:aS xs E=0)(h0:Dg.vl 4294967296 xs≠0)
  (hh:dA (rdN k) (dgN k) (lsI k) (gsI k) (decide (k≤3)) (Dg.vl 4294967296 xs) E=true):
  yC 83 #[.agg (tS k).toArray,ydV s (.slice ao xs.length ca) E] w (yR w (.tuple #[.string (cF (kU k (plT k s (Dg.vl 4294967296 xs) E).s (heE (rdN k) (lsI k) (gW k) (plT k s (Dg.vl 4294967296 xs) E)) (plT k s (Dg.vl 4294967296 xs) E).d)),yi 0])):=by
 have HL:=fun w1=>xX k hk w1
 have HW:=fun ng e f w1 (he:e<65536) (hf:f<18446744073709551616)=>Aq k hk ng e f w1 he hf
 have hl:=Re hk;unfold plT
 rcases bO hk with rfl|rfl|rfl|rfl|rfl|rfl|rfl|rfl
 all_goals exact ZC _ _ _ _ _ _ _ _ _ _ s ao ca xs E w (fun ng e f=>cF (kU _ ng e f)) hr sa hd h0 (by decide) (by decide) (by decide) (by decide) (by decide) (by decide) hl hh HL HW
theorem B5 (k:Nat)(hk:1≤k∧k≤8)(ng:Bool)(ao:Option Addr)(ca:Nat)(xs:List Nat)(p:Int)(w:World)(hr:Rd w .u32 (.slice ao xs.length ca) xs)(sa:Dg.Small 4294967296 xs)(hc:chk xs=0)(hT:Tab w):
  yC 59 #[.agg (tS k).toArray,yvV 2 ng (.slice ao xs.length ca) p] w (yR w (.tuple #[.string (enS k ng xs p),yi (enE k ng xs p)])):=by
 have key: ∀er,enE k ng xs p=er→enS k ng xs p=if er=0 then cF (kU k (plT k (enN k ng xs p).1.s (enN k ng xs p).1.n (enN k ng xs p).1.e).s (heE (rdN k) (lsI k) (gW k) (plT k (enN k ng xs p).1.s (enN k ng xs p).1.n (enN k ng xs p).1.e)) (plT k (enN k ng xs p).1.s (enN k ng xs p).1.n (enN k ng xs p).1.e).d) else⟨#[]⟩:=fun er h=>by unfold enS;rw[h]
 by_cases hp:p< -20000∨20000<p
 ·have hE:enE k ng xs p=3:=if_pos hp
  rw[key 3 hE,hE,if_neg (by omega)]
  rcases hp with hp|hp
  ·rcases bO hk with rfl|rfl|rfl|rfl|rfl|rfl|rfl|rfl
   all_goals exact Q7 _ _ _ _ _ _ _ _ _ 2 p ng ao xs.length ca w hp
  ·rcases bO hk with rfl|rfl|rfl|rfl|rfl|rfl|rfl|rfl
   all_goals exact NN _ _ _ _ _ _ _ _ _ 2 p ng ao xs.length ca w hp
 ·have hp1: -20000≤p:=by omega
  have hp2:p≤20000:=by omega
  by_cases hl:xs.length=0
  ·have hE:enE k ng xs p=4:=by unfold enE;rw[if_neg hp,if_pos hl]
   rw[key 4 hE,hE,if_neg (by omega)]
   rcases bO hk with rfl|rfl|rfl|rfl|rfl|rfl|rfl|rfl
   all_goals exact KO _ _ _ _ _ _ _ _ _ 2 p ng ao xs.length ca w hp1 hp2 hl
  ·have hnx:Dg.vl 4294967296 xs≠0:=fun h=>by
    obtain⟨n1,-⟩:=aF hc;exact Dg.vl_ne_zero 4294967296 (by omega) xs (by intro e;subst e;simp at hl) n1 h
   have HN1:=fun w1 (b:yB w w1)=>kB (rdN k) (dgN k) (lsI k) (gsI k) (decide (k≤3)) ng ao ca xs p false false false w1 (hr.l b) sa (hT.l b)
   have hen:cC (ix xs p (rdN k) (dgN k) (lsI k) (gsI k)) ⟨ng,Dg.vl 4294967296 xs,(ai (rdN k):Int)*p⟩=enN k ng xs p:=rfl;rw[hen] at HN1;have hE:enE k ng xs p=if(enN k ng xs p).2=0∧enH k (enN k ng xs p).1=true then 0 else 4:=by unfold enE;rw[if_neg hp,if_neg hl]
   have hfact:(enN k ng xs p).2=0→(enN k ng xs p).1.n≠0∧aS (Dg.dg 4294967296 (enN k ng xs p).1.n) (enN k ng xs p).1.e=0:=fun h=>by
    have h2:=wI (show cC (ix xs p (rdN k) (dgN k) (lsI k) (gsI k)) ⟨ng,Dg.vl 4294967296 xs,(ai (rdN k):Int)*p⟩=((enN k ng xs p).1,0) from by rw[hen];exact Prod.ext rfl h)
    obtain⟨h3,h4⟩:=h2;refine⟨fun h5=> ?_,h4⟩
    rw[h3] at h5;exact hnx ((fI ⟨ng,Dg.vl 4294967296 xs,(ai (rdN k):Int)*p⟩).1 h5)
   clear hen;generalize enN k ng xs p=r at*;obtain⟨t,er⟩:=r;simp only at hE hfact key HN1⊢;have HN: ∀w1,yB w w1→yC 82 #[.agg (tS k).toArray,yvV 2 ng (.slice ao xs.length ca) p] w1 (gR w1 (t,er)):=fun w1 b=>by
    rcases bO hk with rfl|rfl|rfl|rfl|rfl|rfl|rfl|rfl
    all_goals exact Je _ _ _ _ _ _ _ _ _ 2 p ng ao xs.length ca (t,er) w1 (fun w2 b2=>HN1 w2 (aa b b2))
   by_cases her:er=0
   ·obtain⟨hn0,hdc⟩:=hfact her
    have sm:=Dg.small_dg 4294967296 t.n (by omega);have HH:=fun so sc w1 (b:yB w w1) (h:Rd w1 .u32 (yT so t.n sc) (Dg.dg 4294967296 t.n))=>qR (rdN k) (dgN k) (lsI k) (gsI k) (decide (k≤3)) t.s so sc (Dg.dg 4294967296 t.n) t.e w1 h sm (hT.l b)
    have hgr:bk (rdN k) (dgN k) (lsI k) (gsI k)=0:=by
     rcases bO hk with rfl|rfl|rfl|rfl|rfl|rfl|rfl|rfl<;>decide
    have hon:onC (aS (Dg.dg 4294967296 t.n) t.e) (bk (rdN k) (dgN k) (lsI k) (gsI k))=0:=by unfold onC;rw[if_pos hdc];exact hgr
    rw[hon] at HH
    by_cases hq:enH k t=true
    ·rw[if_pos ⟨her,hq⟩] at hE
     rw[key 0 hE,hE,if_pos rfl];have hq':um (Dg.dg 4294967296 t.n) t.e (rdN k) (dgN k) (lsI k) (gsI k) (decide (k≤3))=true:=hq;have hheld:dA (rdN k) (dgN k) (lsI k) (gsI k) (decide (k≤3)) (Dg.vl 4294967296 (Dg.dg 4294967296 t.n)) t.e=true:=by
      have h:=hq';unfold um at h;rw[if_pos hon] at h;exact h
     have HE:=fun so sc w1 (_b:yB w w1) (h:Rd w1 .u32 (yT so t.n sc) (Dg.dg 4294967296 t.n))=>xE k hk t.s so sc (Dg.dg 4294967296 t.n) t.e w1 h sm hdc (by rw[Dg.vl_dg 4294967296 t.n (by omega)];exact hn0) hheld
     rw[Dg.vl_dg 4294967296 t.n (by omega)] at HE;rw[hq'] at HH;generalize cF (kU k (plT k t.s t.n t.e).s (heE (rdN k) (lsI k) (gW k) (plT k t.s t.n t.e)) (plT k t.s t.n t.e).d)=st at*
     rcases bO hk with rfl|rfl|rfl|rfl|rfl|rfl|rfl|rfl
     all_goals exact NP _ _ _ _ _ _ _ _ _ 2 p ng ao xs.length ca w t er HN true 0 HH st 0 HE hp1 hp2 (by omega) her rfl rfl
    ·have hqf:um (Dg.dg 4294967296 t.n) t.e (rdN k) (dgN k) (lsI k) (gsI k) (decide (k≤3))=false:=by
      have:enH k t=false:=by simpa using hq
      exact this
     rw[if_neg (fun h=>hq h.2)] at hE
     rw[key 4 hE,hE,if_neg (by omega)];rw[hqf] at HH
     rcases bO hk with rfl|rfl|rfl|rfl|rfl|rfl|rfl|rfl
     all_goals exact NO _ _ _ _ _ _ _ _ _ 2 p ng ao xs.length ca w t er HN false 0 HH hp1 hp2 (by omega) her rfl rfl
   ·rw[if_neg (fun h=>her h.1)] at hE
    rw[key 4 hE,hE,if_neg (by omega)]
    rcases bO hk with rfl|rfl|rfl|rfl|rfl|rfl|rfl|rfl
    all_goals exact Q8 _ _ _ _ _ _ _ _ _ 2 p ng ao xs.length ca w t er HN hp1 hp2 (by omega) her
theorem sN (v:Value)(t:ak)(w:World)(hv:Rv w v t)(hL:(Dg.dg 65536 t.n).length≤100000)(h1: -1000000≤t.e)(h2:t.e≤1000000):
  yC 15 #[v] w (cG w (shN t.n t.e)):=by
 obtain⟨s0,rfl,hr⟩:=hv;have HU:Hid (¬t.e<0→ ∀w1,yB w w1→yC 41 #[s0,yi t.e] w1 (cG w1 (shN t.n t.e))):=fun h w1 b=>by
  unfold shN;rw[if_neg h];obtain⟨m,hm⟩: ∃m:Nat,t.e=(m:Int):=⟨t.e.toNat,by omega⟩;rw[hm,Int.toNat_natCast];have:=kD s0 _ m w1 (hr.l b) (Dg.small_dg _ _ (by omega)) (by omega) (by omega)
  rwa [Dg.vl_dg _ _ (by omega)] at this
 have HD:Hid (t.e<0→ ∀w1,yB w w1→yC 25 #[s0,yi (-t.e)] w1 (cG w1 (shN t.n t.e))):=fun h w1 b=>by
  unfold shN;rw[if_pos h];obtain⟨m,hm⟩: ∃m:Nat,-t.e=(m:Int):=⟨(-t.e).toNat,by omega⟩;rw[hm,Int.toNat_natCast];have:=Ft s0 _ m (m/16) (m % 16) (2^ (m % 16)) (2^ (16-m % 16)) w1 (hr.l b) (Dg.small_dg _ _ (by omega)) (by omega) (by omega) (by omega) (by omega) rfl rfl
  rwa [Dg.vl_dg _ _ (by omega)] at this
 obtain⟨ao,ca,rfl⟩:=hr.shape;obtain⟨ts,n,e⟩:=t;simp only at HU HD h1 h2⊢;obtain⟨R,hR⟩: ∃R,shN n e=R:=⟨_,rfl⟩;rw[hR] at HU HD⊢;obtain⟨m,hm⟩: ∃m,(Dg.dg 65536 n).length=m:=⟨_,rfl⟩;rw[hm] at HU HD⊢;have bA:=af w (.cells (ydA ts (.slice ao m ca) e) 30);clear hr hL hR hm
 by_cases h:e<0
 ·have h3: ¬0≤e:=by omega
  go_enter func15,ntmps15
  go_wp2_with fail
  refine(HD.out h _ bA).mono ?_;rintro z w1 ⟨v1,rfl,r1,b1⟩;have b01:=aa bA b1
  go_wp2
  go_ret
  exact⟨_,rfl,r1,b01⟩
 ·have h3:0≤e:=by omega
  go_enter func15,ntmps15
  go_wp2_with fail
  refine(HU.out h _ bA).mono ?_;rintro z w1 ⟨v1,rfl,r1,b1⟩;have b01:=aa bA b1
  go_wp2
  go_ret
  exact⟨_,rfl,r1,b01⟩
theorem Oe {k:Nat}{ng:Bool}{xs ys:List Nat}{p q:Int}(sa:Dg.Small 4294967296 xs)(sb:Dg.Small 4294967296 ys)(hx:chk xs=0)(hy:chk ys=0)(h:enE k ng xs p=0)(h':enE k ng ys q=0)
  (hb:bare ⟨ng,Dg.vl 4294967296 ys,(ai (rdN k):Int)*q⟩=bare ⟨ng,Dg.vl 4294967296 xs,(ai (rdN k):Int)*p⟩):enS k ng ys q=enS k ng xs p:=by
 have key: ∀(zs:List Nat) (r:Int),enE k ng zs r=0→ ¬(r< -20000∨20000<r)∧zs.length≠0:=fun zs r hz=>by
  have hp: ¬(r< -20000∨20000<r):=fun c=>by
   unfold enE at hz;rw[if_pos c] at hz;omega
  refine⟨hp,fun c=> ?_⟩
  unfold enE at hz;rw[if_neg hp,if_pos c] at hz;omega
 obtain⟨a1,a2⟩:=key xs p h;obtain⟨b1,b2⟩:=key ys q h';unfold enS;rw[if_pos h,if_pos h',(AW (k:=k) (ng:=ng) hx a2 a1 sa h).1,(AW (k:=k) (ng:=ng) hy b2 b1 sb h').1,hb]
theorem Lr (n wy fam R D L G pw:Int)(gr ng ex un:Bool)(ao:Option Addr)(la ca:Nat)(c q:Int)(g:Bool)(m:Nat)(w:World)
  (HO: ∀w1,yB w w1→yC 110 #[ykV n wy fam R D L G gr,.bool ng] w1 (iT w1 c g m q)):
  yC 76 #[ykV n wy fam R D L G gr,ypV ng (.slice ao la ca) pw ex true un] w (B6 w c g m q 5):=by
 replace HO:Hid _:=HO;have a1:=af w (.cells (ykA n wy fam R D L G gr) 150);have a2:=af (w.alloc (.cells (ykA n wy fam R D L G gr) 150)) (.cells (ypA ng (.slice ao la ca) pw ex true un) 80);have a3:=af ((w.alloc (.cells (ykA n wy fam R D L G gr) 150)).alloc (.cells (ypA ng (.slice ao la ca) pw ex true un) 80)) (.cells (yvA 0 false yN 0) 68);have d0:=((ah w (ykL n wy fam R D L G gr) 150).l a2).l a3;have p0:=(ah (w.alloc (.cells (ykA n wy fam R D L G gr) 150)) (ypL ng (.slice ao la ca) pw ex true un) 80).l a3;have v0:=ah ((w.alloc (.cells (ykA n wy fam R D L G gr) 150)).alloc (.cells (ypA ng (.slice ao la ca) pw ex true un) 80)) (yvL 0 false yN 0) 68;rw[World.size_alloc] at p0;rw[World.size_alloc,World.size_alloc] at v0;have b0:=aa (aa a1 a2) a3;clear a1 a2 a3
 go_enter func76,ntmps76
 go_upto_block 0 with fail
 generalize((w.alloc (.cells (ykA n wy fam R D L G gr) 150)).alloc (.cells (ypA ng (.slice ao la ca) pw ex true un) 80)).alloc (.cells (yvA 0 false yN 0) 68)=W0 at d0 p0 v0 b0⊢;obtain⟨y0,y1,y2,y3,y4,y5,y6,y7⟩:=d0.cs8;obtain⟨x0,x1,x2,x3,x4,x5⟩:=p0.cs6
 go_wp2_with fail
 refine(HO.out _ b0).mono ?_;rintro z w1 ⟨u,rfl,r1,b1⟩;obtain⟨mo,mc,hu⟩:=r1.shape;subst hu;have v1:=v0.l b1;have b01:=aa b0 b1;clear y0 y1 y2 y3 y4 y5 y6 y7 x0 x1 x2 x3 x4 x5 d0 p0 v0 b0 b1 HO;have cR:au ((((w1.setCell ⟨w.heap.size+1+1,0,none⟩ (yi c)).setCell ⟨w.heap.size+1+1,1,none⟩ (.bool g)).setCell ⟨w.heap.size+1+1,2,none⟩ (yT mo m mc)).setCell ⟨w.heap.size+1+1,3,none⟩ (yi q)) (w.heap.size+1+1) 68 (yvL c g (yT mo m mc) q):=((((v1.set 0 (yi c)).set 1 (.bool g)).set 2 (yT mo m mc)).set 3 (yi q));have bu:=(((ag w1 (w.heap.size+1+1) 0 (yi c)).trans (ag _ (w.heap.size+1+1) 1 (.bool g))).trans (ag _ (w.heap.size+1+1) 2 (yT mo m mc))).trans (ag _ (w.heap.size+1+1) 3 (yi q));have bR:=bu.below b01 (by omega);have rR:=bu.rd r1 (aX r1 v1 (by simp));have hl:=run_loadVar_mid (P:=Tryz.prog) _ (w.heap.size+1+1) 0 68 (yvL c g (yT mo m mc) q) _ cR.range underlying68 rfl (by kernel_rfl);have HH:Hid (_∧_∧_):=⟨hl,rR,bR⟩;obtain⟨z0,z1,z2,z3⟩:=v1.cs4;have fz0:=v1.f 0;have fz1:=v1.f 1;have fz2:=v1.f 2;have fz3:=v1.f 3;clear hl bR bu cR rR;clear v1 b01 r1
 go_wp2
 obtain⟨hl,rR,bR⟩:=HH.out;exact bodyPost_ret (aj results76 rfl rfl hl) rfl ⟨_,rfl,rR,bR⟩
theorem OU (n wy fam R D L G pw:Int)(gr ng ex:Bool)(ao:Option Addr)(la ca:Nat)(w:World)(hlt:pw<L):
  yC 76 #[ykV n wy fam R D L G gr,ypV ng (.slice ao la ca) pw ex false true] w (B6 w 1 false 0 0 3):=by
 have a1:=af w (.cells (ykA n wy fam R D L G gr) 150);have a2:=af (w.alloc (.cells (ykA n wy fam R D L G gr) 150)) (.cells (ypA ng (.slice ao la ca) pw ex false true) 80);have a3:=af ((w.alloc (.cells (ykA n wy fam R D L G gr) 150)).alloc (.cells (ypA ng (.slice ao la ca) pw ex false true) 80)) (.cells (yvA 0 false yN 0) 68);have d0:=((ah w (ykL n wy fam R D L G gr) 150).l a2).l a3;have p0:=(ah (w.alloc (.cells (ykA n wy fam R D L G gr) 150)) (ypL ng (.slice ao la ca) pw ex false true) 80).l a3;have v0:=ah ((w.alloc (.cells (ykA n wy fam R D L G gr) 150)).alloc (.cells (ypA ng (.slice ao la ca) pw ex false true) 80)) (yvL 0 false yN 0) 68;rw[World.size_alloc] at p0;rw[World.size_alloc,World.size_alloc] at v0;have b0:=aa (aa a1 a2) a3;clear a1 a2 a3
 go_enter func76,ntmps76
 go_upto_block 0 with fail
 generalize((w.alloc (.cells (ykA n wy fam R D L G gr) 150)).alloc (.cells (ypA ng (.slice ao la ca) pw ex false true) 80)).alloc (.cells (yvA 0 false yN 0) 68)=W0 at d0 p0 v0 b0⊢;obtain⟨x0,x1,x2,x3,x4,x5⟩:=p0.cs6;have y5:=d0.c 5 rfl;have cR:au ((((W0.setCell ⟨w.heap.size+1+1,0,none⟩ (yi 1)).setCell ⟨w.heap.size+1+1,1,none⟩ (.bool false)).setCell ⟨w.heap.size+1+1,2,none⟩ yN).setCell ⟨w.heap.size+1+1,3,none⟩ (yi 0)) (w.heap.size+1+1) 68 (yvL 1 false yN 0):=((((v0.set 0 (yi 1)).set 1 (.bool false)).set 2 yN).set 3 (yi 0));have bu:=(((ag W0 (w.heap.size+1+1) 0 (yi 1)).trans (ag _ (w.heap.size+1+1) 1 (.bool false))).trans (ag _ (w.heap.size+1+1) 2 yN)).trans (ag _ (w.heap.size+1+1) 3 (yi 0));have bR:=bu.below b0 (by omega);have hl:=run_loadVar_mid (P:=Tryz.prog) _ (w.heap.size+1+1) 0 68 (yvL 1 false yN 0) _ cR.range underlying68 rfl (by kernel_rfl);have HH:Hid (_∧_):=⟨hl,bR⟩;obtain⟨z0,z1,z2,z3⟩:=v0.cs4;have fz0:=v0.f 0;have fz1:=v0.f 1;have fz2:=v0.f 2;have fz3:=v0.f 3;clear hl bR bu cR;clear v0 b0 d0 p0
 go_wp2
 obtain⟨hl,bR⟩:=HH.out;exact bodyPost_ret (aj results76 rfl rfl hl) rfl ⟨_,rfl,aN _ _,bR⟩
def ovV (k:Nat)(wy:Int)(ng:Bool):Int×Bool×Nat×Int:=
 if dK k=3 then(5,false,0,0) else if dK k=1∧aaV wy ng=true then(3,ng,0,0) else(2,ng,rdN k^dgN k-1,gsI k)
def pG (k:Nat)(wy:Int)(P:fz):Int×Bool×Nat×Int×Int:=
 if P.ov=true then((ovV k wy P.s).1,(ovV k wy P.s).2.1,(ovV k wy P.s).2.2.1,(ovV k wy P.s).2.2.2,5)
 else if P.un=true∧P.p<lsI k then(1,false,0,0,3)
 else((if P.d=0 then 1 else 2),P.s,P.d,P.p,if P.ex=true then 0 else if P.un=true then 3 else 1)
end Go.Proofs.YtddkchlamdhgcaaGreatDoor
