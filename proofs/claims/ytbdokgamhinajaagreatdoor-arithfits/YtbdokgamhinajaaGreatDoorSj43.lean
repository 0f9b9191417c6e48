/-
  Texts laid together: Gc1, Ra3, Ga5, Ra4.
-/
import Derived.Test.YtbdokgamhinajaaGreatDoorSj42
set_option maxRecDepth 100000
set_option maxHeartbeats 6400000
namespace Go.Proofs.YtbdokgamhinajaaGreatDoor
open _root_.Go.Proofs.Tryz
open Go.RowKit
theorem wT {P:Program}{fn:Func}{a t s:Nat}{ty:TypeId}{tmps:Array Value}{w:World}{b:Nat}{v u x:Value}(hres:fn.results= #[.cell a ty,.tmp t,.tmp s])(hp:tmps.getD a undef= .pointer (some ⟨b,0,none⟩))(hu:tmps.getD t undef=u)(hx:tmps.getD s undef=x)(hl:(loadVar ty ⟨b,0,none⟩).run P w= .ok v w):(results fn tmps).run P w= .ok (.tuple #[v,u,x]) w:=by
 rw[Array.getD_eq_getD_getElem?] at hp hu hx;unfold results;simp[hres,hp,hu,hx,asAddr,hl]
theorem aey (n f0 f1 f2 R D L G fam:Int)(gr ok:Bool)(cl:List Int)(pb:Nat)(w:World)(hm:cl.length≤3)(hc: ∀(i:Nat) c,cl[i]? =some c→w.cell? ⟨pb,i*5,none⟩=some (yi c))(hx: ∀c∈cl,c≤3)
  (HF:yJ 18 #[yi n] (.tuple #[.agg #[yi f0,yi f1,yi f2,yi R,yi D,yi L,yi G,.bool gr,yi fam],.bool ok])):
  yC 34 #[yi n,.slice (some ⟨pb,0,none⟩) cl.length cl.length] w (yR w (.tuple #[yoV 0 false false (.slice none 0 0) 0,yi 0,.bool false])):=by
 obtain⟨m,hmE⟩: ∃m,cl.length=m:=⟨_,rfl⟩;rw[hmE] at hm⊢;have HM:Hid (cl.length=m):=hmE;have HC:Hid _:=hc;have HX:Hid _:=hx;replace HF:Hid _:=HF;clear hmE hc hx;obtain⟨W0,hW0,q0,b0⟩:=cA w (yoL 0 false false (.slice none 0 0) 0) 32;replace hW0:Hid _:=hW0
 go_enter func34,ntmps34
 go_upto_region 1 with fail
 rw[hW0.out];clear hW0
 go_wp2_with fail
 refine(HF.out _).mono ?_;rintro z w1 ⟨rfl,b1⟩;have q1:=q0.l b1;have b01:=aa b0 b1;obtain⟨W2,hW2,f2',al⟩:=cA w1 [yi f0,yi f1,yi f2,yi R,yi D,yi L,yi G,.bool gr,yi fam] 50;replace hW2:Hid _:=hW2;have hl:=q1.lt;have q2:=q1.l al;have b02:=aa b01 al;clear q0 b0 q1 b1 b01 al HF
 go_upto_region 2 with fail
 rw[hW2.out];clear hW2;have CR:Hid (∀(i:Nat) c,cl[i]? =some c→W2.cell? ⟨pb,i*5,none⟩=some (yi c)):=fun i c hi=>cell_later b02 (HC.out i c hi)
 clear HC
 go_wp2
 go_loopw [9] (fun iv wr=> ∃i:Nat,iv=yi (i:Int)∧i≤m∧wr=W2) (fun iv _=>m-(intOf iv).toNat)
 case atStart=>exact⟨0,rfl,by omega,rfl⟩
 case round=>
  obtain⟨i,rfl,him,rfl⟩:=hrel
  by_cases hlt:i<m
  ·have hil:i<cl.length:=by have:=HM.out;omega
   obtain⟨c,hp⟩: ∃c,cl[i]? =some c:=⟨_,List.getElem?_eq_getElem hil⟩;have y:=CR.out i c hp;have hle:c≤3:=HX.out c (List.mem_of_getElem? hp);clear hp hil
   go_wp2
   go_roundw
   case rel=>exact⟨i+1,by go_num,by omega,trivial⟩
   case measure=>simp[intOf];omega
  ·have hf:=dL (P:=Tryz.prog) q2 b02 (by omega) underlying32 rfl (by kernel_rfl) (yi 0) (.bool false) (.bool false) (.slice none 0 0) (yi 0)
   have HH:Hid (_∧_):=⟨hf.1,hf.2.1⟩;obtain⟨⟨z0,z1,z2,z3,z4⟩,y0,y1,y2,y3,y4⟩:=dN q2;clear hf q2 b02
   go_wp2
   obtain⟨hl,bR⟩:=HH.out;exact bodyPost_ret (wT results34 rfl rfl rfl hl) rfl ⟨rfl,bR⟩
theorem aez (n f0 f1 f2 R D L G c0:Int)(gr ok:Bool)(cl:List Int)(pb:Nat)(w:World)(hm:cl.length≤3)(hc: ∀(i:Nat) c,cl[i]? =some c→w.cell? ⟨pb,i*5,none⟩=some (yi c))(hx: ∃j c,0≤j∧cl[j]? =some c∧4≤c)
  (HF:yJ 18 #[yi n] (.tuple #[.agg #[yi f0,yi f1,yi f2,yi R,yi D,yi L,yi G,.bool gr,yi 3],.bool ok]))
  (HN:yJ 71 #[yi n] (yoV c0 false false (.slice none 0 0) 0)):
  yC 34 #[yi n,.slice (some ⟨pb,0,none⟩) cl.length cl.length] w (yR w (.tuple #[yoV c0 false false (.slice none 0 0) 0,yi 16,.bool true])):=by
 obtain⟨m,hmE⟩: ∃m,cl.length=m:=⟨_,rfl⟩;rw[hmE] at hm⊢;have HM:Hid (cl.length=m):=hmE;have HC:Hid _:=hc;have HX:Hid _:=hx;replace HF:Hid _:=HF;replace HN:Hid _:=HN;clear hmE hc hx;obtain⟨W0,hW0,q0,b0⟩:=cA w (yoL 0 false false (.slice none 0 0) 0) 32;replace hW0:Hid _:=hW0
 go_enter func34,ntmps34
 go_upto_region 1 with fail
 rw[hW0.out];clear hW0
 go_wp2_with fail
 refine(HF.out _).mono ?_;rintro z w1 ⟨rfl,b1⟩;have q1:=q0.l b1;have b01:=aa b0 b1;obtain⟨W2,hW2,f2',al⟩:=cA w1 [yi f0,yi f1,yi f2,yi R,yi D,yi L,yi G,.bool gr,yi 3] 50;replace hW2:Hid _:=hW2;have hl:=q1.lt;have q2:=q1.l al;have b02:=aa b01 al;clear q0 b0 q1 b1 b01 al HF
 go_upto_region 2 with fail
 rw[hW2.out];clear hW2;have CR:Hid (∀(i:Nat) c,cl[i]? =some c→W2.cell? ⟨pb,i*5,none⟩=some (yi c)):=fun i c hi=>cell_later b02 (HC.out i c hi)
 clear HC
 go_wp2
 go_loopw [9] (fun iv wr=> ∃i:Nat,iv=yi (i:Int)∧i≤m∧Hid (∃j c,i≤j∧cl[j]? =some c∧4≤c)∧wr=W2) (fun iv _=>m-(intOf iv).toNat)
 case atStart=>exact⟨0,rfl,by omega,HX.out,rfl⟩
 case round=>
  obtain⟨i,rfl,him,HJ,rfl⟩:=hrel
  by_cases hlt:i<m
  ·have hil:i<cl.length:=by have:=HM.out;omega
   obtain⟨c,hp⟩: ∃c,cl[i]? =some c:=⟨_,List.getElem?_eq_getElem hil⟩;have y:=CR.out i c hp
   by_cases h4:4≤c
   ·clear hp hil
    have g8:=f2'.c 8 rfl
    go_wp2_with fail
    refine(HN.out _).mono ?_;rintro z w3 ⟨rfl,b3⟩;have q3:=q2.l b3;have b03:=aa b02 b3;clear g8 f2' q2 b02 b3 CR y;have hf:=dL (P:=Tryz.prog) q3 b03 (by omega) underlying32 rfl (by kernel_rfl) (yi c0) (.bool false) (.bool false) (.slice none 0 0) (yi 0);have HH:Hid (_∧_):=⟨hf.1,hf.2.1⟩;obtain⟨⟨z0,z1,z2,z3,z4⟩,y0,y1,y2,y3,y4⟩:=dN q3;clear hf q3 b03
    go_wp2
    obtain⟨hl,bR⟩:=HH.out;exact bodyPost_ret (wT results34 rfl rfl rfl hl) rfl ⟨rfl,bR⟩
   ·have HJ2:Hid (∃j c,i+1≤j∧cl[j]? =some c∧4≤c):=by
     obtain⟨j,d,h1,h2,h5⟩:=HJ.out;refine⟨j,d, ?_,h2,h5⟩
     rcases Nat.lt_or_ge i j with g|g
     ·exact g
     ·have:j=i:=by omega
      subst this;rw[hp] at h2
      cases h2
      omega
    clear hp hil HJ
    go_wp2
    go_roundw
    case rel=>exact⟨i+1,by go_num,by omega,HJ2,trivial⟩
    case measure=>simp[intOf];omega
  ·exfalso
   obtain⟨j,d,h1,h2,h5⟩:=HJ.out;have h6:=(List.getElem?_eq_some_iff.1 h2).1;have:=HM.out;omega
theorem aff (n f0 f1 f2 R D L G fam c0:Int)(gr ok:Bool)(cl:List Int)(pb:Nat)(w:World)(hm:cl.length≤3)(hc: ∀(i:Nat) c,cl[i]? =some c→w.cell? ⟨pb,i*5,none⟩=some (yi c))(hf3:(fam==3)=false)(hx: ∃j c,0≤j∧cl[j]? =some c∧4≤c)
  (HF:yJ 18 #[yi n] (.tuple #[.agg #[yi f0,yi f1,yi f2,yi R,yi D,yi L,yi G,.bool gr,yi fam],.bool ok]))
  (HN:yJ 71 #[yi n] (yoV c0 false false (.slice none 0 0) 0)):
  yC 34 #[yi n,.slice (some ⟨pb,0,none⟩) cl.length cl.length] w (yR w (.tuple #[yoV c0 false false (.slice none 0 0) 0,yi 0,.bool true])):=by
 obtain⟨m,hmE⟩: ∃m,cl.length=m:=⟨_,rfl⟩;rw[hmE] at hm⊢;have HM:Hid (cl.length=m):=hmE;have HC:Hid _:=hc;have HX:Hid _:=hx;replace HF:Hid _:=HF;replace HN:Hid _:=HN;clear hmE hc hx;obtain⟨W0,hW0,q0,b0⟩:=cA w (yoL 0 false false (.slice none 0 0) 0) 32;replace hW0:Hid _:=hW0
 go_enter func34,ntmps34
 go_upto_region 1 with fail
 rw[hW0.out];clear hW0
 go_wp2_with fail
 refine(HF.out _).mono ?_;rintro z w1 ⟨rfl,b1⟩;have q1:=q0.l b1;have b01:=aa b0 b1;obtain⟨W2,hW2,f2',al⟩:=cA w1 [yi f0,yi f1,yi f2,yi R,yi D,yi L,yi G,.bool gr,yi fam] 50;replace hW2:Hid _:=hW2;have hl:=q1.lt;have q2:=q1.l al;have b02:=aa b01 al;clear q0 b0 q1 b1 b01 al HF
 go_upto_region 2 with fail
 rw[hW2.out];clear hW2;have CR:Hid (∀(i:Nat) c,cl[i]? =some c→W2.cell? ⟨pb,i*5,none⟩=some (yi c)):=fun i c hi=>cell_later b02 (HC.out i c hi)
 clear HC
 go_wp2
 go_loopw [9] (fun iv wr=> ∃i:Nat,iv=yi (i:Int)∧i≤m∧Hid (∃j c,i≤j∧cl[j]? =some c∧4≤c)∧wr=W2) (fun iv _=>m-(intOf iv).toNat)
 case atStart=>exact⟨0,rfl,by omega,HX.out,rfl⟩
 case round=>
  obtain⟨i,rfl,him,HJ,rfl⟩:=hrel
  by_cases hlt:i<m
  ·have hil:i<cl.length:=by have:=HM.out;omega
   obtain⟨c,hp⟩: ∃c,cl[i]? =some c:=⟨_,List.getElem?_eq_getElem hil⟩;have y:=CR.out i c hp
   by_cases h4:4≤c
   ·clear hp hil
    have g8:=f2'.c 8 rfl
    go_wp2_with fail
    refine(HN.out _).mono ?_;rintro z w3 ⟨rfl,b3⟩;have q3:=q2.l b3;have b03:=aa b02 b3;clear g8 f2' q2 b02 b3 CR y;have hf:=dL (P:=Tryz.prog) q3 b03 (by omega) underlying32 rfl (by kernel_rfl) (yi c0) (.bool false) (.bool false) (.slice none 0 0) (yi 0);have HH:Hid (_∧_):=⟨hf.1,hf.2.1⟩;obtain⟨⟨z0,z1,z2,z3,z4⟩,y0,y1,y2,y3,y4⟩:=dN q3;clear hf q3 b03
    go_wp2
    obtain⟨hl,bR⟩:=HH.out;exact bodyPost_ret (wT results34 rfl rfl rfl hl) rfl ⟨rfl,bR⟩
   ·have HJ2:Hid (∃j c,i+1≤j∧cl[j]? =some c∧4≤c):=by
     obtain⟨j,d,h1,h2,h5⟩:=HJ.out;refine⟨j,d, ?_,h2,h5⟩
     rcases Nat.lt_or_ge i j with g|g
     ·exact g
     ·have:j=i:=by omega
      subst this;rw[hp] at h2
      cases h2
      omega
    clear hp hil HJ
    go_wp2
    go_roundw
    case rel=>exact⟨i+1,by go_num,by omega,HJ2,trivial⟩
    case measure=>simp[intOf];omega
  ·exfalso
   obtain⟨j,d,h1,h2,h5⟩:=HJ.out;have h6:=(List.getElem?_eq_some_iff.1 h2).1;have:=HM.out;omega
theorem rd_one16 {w:World}{q:Nat}(h:w.cell? ⟨q,0,none⟩=some (yi 1)):Rd w .i64 (.slice (some ⟨q,0,none⟩) 1 1) [1]:=
 ⟨_,1,rfl,Nat.le_refl _,by unfold maxLen;omega,fun _=>⟨q,0,rfl,fun i hi=>by
  obtain rfl:i=0:=by simpa using hi
  exact h⟩⟩
theorem refOfD_any (x:ak)(xo:Option Addr)(xc:Nat)(w:World):
  yC 113 #[ydV x.s (.slice xo (Dg.dg 65536 x.n).length xc) x.e] w fun z w'=> ∃eo ec,z= .returned (yrV x.s (.slice xo (Dg.dg 65536 x.n).length xc) (.slice eo 1 ec) x.e)∧Rd w' .i64 (.slice eo 1 ec) [1]∧yB w w':=by
 obtain⟨W,hW,q1,q2,b⟩:=iG w (ydL x.s (.slice xo (Dg.dg 65536 x.n).length xc) x.e) 30 (yrL false (.slice none 0 0) (.slice none 0 0) 0) 58;replace hW:Hid _:=hW
 go_enter func113,ntmps113
 go_upto_region 1 with fail
 rw[hW.out];clear hW;have al:=af W (.cells #[yi 1] 3);have hn:=ah W [yi 1] 3;have hlt:=q2.lt;have q3:=q2.l al;have b3:=aa b al;have hf:=afz (P:=Tryz.prog) q3 b3 (by omega) underlying58 rfl (by kernel_rfl) (.bool x.s) (.slice xo (Dg.dg 65536 x.n).length xc) (.slice (some ⟨W.heap.size,0,none⟩) 1 1) (yi x.e);have HH:Hid (_∧_∧_):=⟨hf.1,hf.2.2.loc hn (by omega),hf.2.1⟩;obtain⟨c0,c1,c2⟩:=q1.cs3;obtain⟨d0,d1,d2⟩:=(q1.l al).cs3;obtain⟨⟨z0,z1,z2,z3⟩,y0,y1,y2,y3⟩:=afB q3;clear hf q1 q2 q3 b b3 al hn hlt
 go_wp2
 obtain⟨hl,hq,bR⟩:=HH.out;exact bodyPost_ret (br results113 rfl hl) rfl ⟨_,_,rfl,rd_one16 (hq.c 0 rfl),bR⟩
theorem round_bare {R D L G:Int}{gr:Bool}{way:Int}(t:ak)(h0:t.n≠0)(hD:1≤D)(hw:ai R*D.toNat≤64)(s:Bool):
  cI R D L G gr s (bare t).n 1 (bare t).e way=cI R D L G gr s t.n 1 t.e way:=by
 obtain⟨b1,b2,-⟩:=gN h0;obtain⟨m,hm⟩:=fO h0;have hn:(bare t).n=2*m+1:=by
  unfold bare;rw[if_neg h0];exact lI hm
 refine AC b1 (by omega) h0 (by omega) hD hw (J:=dY (bare t).n 1 (bare t).e-64) (aep ((max (-t.e) 0).toNat) (by omega) (by omega) (by omega) (by omega) ?_ _) (by omega);rw[hn,b2,Nat.mul_one,Nat.mul_one,show(t.e+(tz t.n:Int)+((max (-t.e) 0).toNat:Int)).toNat=tz t.n+(t.e+((max (-t.e) 0).toNat:Int)).toNat by omega,Nat.pow_add]
 generalize(t.e+((max (-t.e) 0).toNat:Int)).toNat=q at*
 conv=>rhs;rw[hm]
 rw[←Nat.mul_assoc,Nat.mul_comm (2*m+1)]
theorem fitted_any (k:Nat)(hk:1≤k∧k≤8)(wy:Int)(hw:1≤wy∧wy≤5)(qs:Bool)(N M:Nat)(E:Int)(no mo:Option Addr)(nc mc:Nat)(w:World)(hN:N≠0)(hM:M≠0)(rN:Rd w .i64 (.slice no (Dg.dg 65536 N).length nc) (Dg.dg 65536 N))(rM:Rd w .i64 (.slice mo (Dg.dg 65536 M).length mc) (Dg.dg 65536 M))
  (lN:bitLen N≤100000) (lM:bitLen M≤100000) (e1: -100000≤E) (e2:E≤100000):
  yC 22 #[yi (k:Int),yrV qs (.slice no (Dg.dg 65536 N).length nc) (.slice mo (Dg.dg 65536 M).length mc) E,yi wy] w (RVF w (plV k wy (cI (rdN k:Int) (dgN k:Int) (lsI k) (gsI k) (decide (k≤3)) qs N M E wy)).1 (plV k wy (cI (rdN k:Int) (dgN k:Int) (lsI k) (gsI k) (decide (k≤3)) qs N M E wy)).2.1 (plV k wy (cI (rdN k:Int) (dgN k:Int) (lsI k) (gsI k) (decide (k≤3)) qs N M E wy)).2.2.1 (plV k wy (cI (rdN k:Int) (dgN k:Int) (lsI k) (gsI k) (decide (k≤3)) qs N M E wy)).2.2.2):=by
 obtain⟨-,-,-,-,-,-,-,-,-,-,-,hg⟩:=eR hk;have key: ∀L:Nat,100000≤16*L→ ∀{x:Nat},bitLen x≤100000→(Dg.dg 65536 x).length≤L:=fun L hL {x} h=>by
  refine Dg.dg_len_le 65536 x L (by omega) ?_;rw[show(65536:Nat)=2^16 from rfl,←Nat.pow_mul]
  exact wZ (Nat.le_trans h hL)
 have hlen: ∀{x:Nat},bitLen x≤100000→(Dg.dg 65536 x).length≤20000:=fun {x} h=>key 20000 (by omega) h
 have hy:iC wy=true:=by unfold iC;simpa using hw
 refine(acs (k:Int) _ _ _ (rdN k:Int) (dgN k:Int) (lsI k) (gsI k) _ _ wy E _ (decide (k≤3)) _ _ qs N M no mo nc mc (cI (rdN k:Int) (dgN k:Int) (lsI k) (gsI k) (decide (k≤3)) qs N M E wy) _ w (fun w1=>form_any k hk w1) (fun w1 b=>KU _ _ _ _ _ qs no nc mo mc N M E wy w1 hg hy (rN.l b) (rM.l b) (hlen lN) (hlen lM) hN hM e1 e2 (by omega) (by omega)) (fun po pc w1 h=>placed_any k hk wy hw _ (rnd_of hk qs N M E wy hN hM).plc po pc w1 h)).mono (fun z w' h=>h.near)
theorem fitD_any (k:Nat)(hk:1≤k∧k≤8)(wy:Int)(hw:1≤wy∧wy≤5)(x:ak)(xo:Option Addr)(xc:Nat)(w:World)(h0:x.n≠0)(rx:Rd w .i64 (.slice xo (Dg.dg 65536 x.n).length xc) (Dg.dg 65536 x.n))(lN:bitLen x.n≤100000)(e1: -100000≤x.e)(e2:x.e≤100000):
  yC 73 #[yi (k:Int),ydV x.s (.slice xo (Dg.dg 65536 x.n).length xc) x.e,yi wy] w (RVF w (plV k wy (fY k wy x)).1 (plV k wy (fY k wy x)).2.1 (plV k wy (fY k wy x)).2.2.1 (plV k wy (fY k wy x)).2.2.2):=by
 have hz:(((Dg.dg 65536 x.n).length:Int)==0)=false:=by
  have:(Dg.dg 65536 x.n).length≠0:=fun c=>h0 ((Dg.dg_nil_iff 65536 _ (by omega)).1 (List.length_eq_zero_iff.1 c))
  simpa using this
 exact aeo (k:Int) _ wy _ _ x _ xo xc w hz (fun w1 b=>refOfD_any x xo xc w1) (fun eo ec w1 b h=>fitted_any k hk wy hw x.s x.n 1 x.e xo eo xc ec w1 h0 (by omega) (rx.l b) h lN (by decide) e1 e2)
def nthV (k:Nat)(fl:Int):Int×Bool×ak×Int:=(AZ (dK (k:Int)),false,⟨false,0,0⟩,fl)
theorem same_off {k:Nat}(hk:1≤k∧k≤8)(way fl:Int):SameV k (m8 k way (AZ (dK (k:Int))) false ⟨false,0,0⟩ fl) (nthV k fl):=by
 unfold m8 nthV;rw[if_neg (show¬AZ (dK (k:Int))=2 from fun h=>vN (k:=k) (fl:=0) h)]
 have key: ∀c:Nat,AZ (dK (k:Int))=(c:Int)→(c=1∨c=3∨c=4∨c=5)→iR k c=true→SameV k (Dw k (c:Int) false 0 0 fl) ((c:Int),false,⟨false,0,0⟩,fl):=fun c _ hc hs=>same_oth hk hc false fl hs (fun c=>by cases c)
 rcases qt hk with hf|hf|hf
 ·have e:AZ (dK (k:Int))=((4:Nat):Int):=by rw[hf];rfl
  rw[e,if_neg (by decide)];exact key 4 e (by decide) (by have:=(fam_one hk).1 hf;simp[iR,this])
 ·have e:AZ (dK (k:Int))=((1:Nat):Int):=by rw[hf];rfl
  rw[e,if_pos (by decide)];exact key 1 e (by decide) rfl
 ·have e:AZ (dK (k:Int))=((5:Nat):Int):=by rw[hf];rfl
  rw[e,if_neg (by decide)];have h6:6≤k:=by
   revert hf
   rcases bO hk with rfl|rfl|rfl|rfl|rfl|rfl|rfl|rfl<;>decide
  exact key 5 e (by decide) (by simp[iR,h6])
theorem same_inf {k:Nat}(hk:1≤k∧k≤8)(h3:k≤3)(way:Int)(g:Bool)(t:ak)(fl:Int):SameV k (m8 k way 3 g t fl) (3,g,⟨false,0,0⟩,fl):=by
 unfold m8;rw[if_neg (by decide),if_neg (by decide)];exact same_oth hk (c:=3) (by decide) g fl (by simp[iR,h3]) (fun _=>rfl)
theorem same_nil {k:Nat}(hk:1≤k∧k≤8)(way:Int)(g:Bool)(t:ak)(fl:Int):SameV k (m8 k way 1 g t fl) (1,g&&decide (dK (k:Int)=1),⟨false,0,0⟩,fl):=by
 unfold m8;rw[if_neg (by decide),if_pos rfl];refine same_oth hk (c:=1) (by decide) _ fl rfl (fun h=> ?_)
 have:=(fam_one hk).1 (of_decide_eq_true (Bool.and_eq_true_iff.1 h).2);simp[Bk];omega
theorem same_fit {k:Nat}(hk:1≤k∧k≤8)(way:Int)(g:Bool)(t:ak)(h0:t.n≠0):SameV k (m8 k way 2 g t 0) (plV k way (fY k way t)):=by
 unfold m8;rw[if_pos rfl];exact same_plc hk way _ (rnd_of hk t.s t.n 1 t.e way h0 (by omega))
theorem lost_any (k:Nat)(hk:1≤k∧k≤8)(w:World):yC 35 #[yi (k:Int)] w (RVF w (AZ (dK (k:Int))) false ⟨false,0,0⟩ 16):=
 aen (k:Int) _ w (fun w1=>refNothing_any k hk w1)
theorem off_row (k:Nat)(hk:1≤k∧k≤8)(cl:List Int)(pb:Nat)(w:World)(hm:cl.length≤3)(hc: ∀(i:Nat) c,cl[i]? =some c→w.cell? ⟨pb,i*5,none⟩=some (yi c)):
  ((∀c∈cl,c≤3)→yC 34 #[yi (k:Int),.slice (some ⟨pb,0,none⟩) cl.length cl.length] w (yR w (.tuple #[yoV 0 false false (.slice none 0 0) 0,yi 0,.bool false])))∧
  ((∃j c,0≤j∧cl[j]? =some c∧4≤c)→yC 34 #[yi (k:Int),.slice (some ⟨pb,0,none⟩) cl.length cl.length] w (yR w (.tuple #[yoV (AZ (dK (k:Int))) false false (.slice none 0 0) 0,yi (if dK (k:Int)=3 then 16 else 0),.bool true]))):=by
 have HF:=fun w1=>form_any k hk w1
 have HN:=fun w1=>refNothing_any k hk w1
 refine⟨fun h=>aey _ _ _ _ _ _ _ _ _ _ _ cl pb w hm hc h HF,fun h=> ?_⟩
 by_cases hf:dK (k:Int)=3
 ·rw[if_pos hf]
  rw[hf] at HF;exact aez _ _ _ _ _ _ _ _ _ _ _ cl pb w hm hc h HF HN
 ·rw[if_neg hf]
  exact aff _ _ _ _ _ _ _ _ _ _ _ _ cl pb w hm hc (by simpa using hf) h HF HN
theorem aaY (n c fl:Int)(g:Bool)(t:ak)(so:Option Addr)(sc:Nat)(st:ByteArray)(w:World)
  (HE:yH w 37 #[yi n,yoV c g t.s (.slice so (Dg.dg 65536 t.n).length sc) t.e] (.string st)):
  yC 12 #[yi n,.string st,yi fl,yi 0,yi 0,yoV c g t.s (.slice so (Dg.dg 65536 t.n).length sc) t.e,yi fl] w (yR w (.bool true)):=by
 replace HE:Hid _:=HE;obtain⟨W3,hW4,q1,b2⟩:=cA w (yoL c g t.s (.slice so (Dg.dg 65536 t.n).length sc) t.e) 32;replace hW4:Hid _:=hW4
 go_enter func12,ntmps12
 go_upto_region 1 with fail
 rw[hW4.out];clear hW4;obtain⟨c5,c6,c7,c8,c9⟩:=q1.cs5
 go_wp2_with fail
 refine(HE.out _ b2).mono ?_;rintro zz w10 ⟨rfl,bb11⟩;have b12:=aa b2 bb11;clear q1 b2 bb11 HE c5 c6 c7 c8 c9
 go_wp2
 go_ret
 exact⟨by simp,b12⟩
theorem aal (n c e wt:Int)(g:Bool)(t:ak)(so:Option Addr)(sc:Nat)(w:World)(he:(e==0)=false):
  yC 12 #[yi n,.string ⟨#[]⟩,yi 0,yi e,yi e,yoV c g t.s (.slice so (Dg.dg 65536 t.n).length sc) t.e,yi wt] w (yR w (.bool true)):=by
 obtain⟨W3,hW4,q1,b2⟩:=cA w (yoL c g t.s (.slice so (Dg.dg 65536 t.n).length sc) t.e) 32;replace hW4:Hid _:=hW4;clear q1
 go_enter func12,ntmps12
 go_upto_region 1 with fail
 rw[hW4.out];clear hW4
 go_wp2
 go_ret
 exact⟨by simp,b2⟩
theorem way_is {way:Int}:iC way=true↔1≤way∧way≤5:=by
 unfold iC;simp
theorem rec_wrong {n way:Int}{ps:List ByteArray}(f:Int×Bool×ak×Int)(h:CK n way ps≠0):jV n way ps f=(⟨#[]⟩,0,CK n way ps):=by
 unfold CK at h⊢;unfold jV
 by_cases hf:dK n=0
 ·rw[if_pos hf,if_pos hf]
 rw[if_neg hf] at h⊢;rw[if_neg hf]
 by_cases he:fT n ps=0
 ·rw[if_pos he] at h⊢
  rw[if_neg (fun c=>c he)]
  cases hw:iC way
  ·rw[if_pos (by
    have: ¬(1≤way∧way≤5):=fun c=>by rw[way_is.2 c] at hw;cases hw
    omega)]
   rfl
  ·rw[hw] at h
   exact absurd rfl h
 ·rw[if_neg he,if_pos he]
theorem opn_right {n way:Int}{ps:List ByteArray}(h:CK n way ps=0): ∃k:Nat,(1≤k∧k≤8)∧n=(k:Int)∧dK n≠0∧fT n ps=0∧1≤way∧way≤5:=by
 unfold CK at h
 by_cases hf:dK n=0
 ·rw[if_pos hf] at h
  exact absurd h (by decide)
 rw[if_neg hf] at h;obtain⟨k1,k2,k3⟩:=fF hf;refine⟨n.toNat,⟨k1,k2⟩,k3.symm,hf, ?_⟩
 by_cases he:fT n ps=0
 ·rw[if_pos he] at h
  cases hw:iC way
  ·rw[hw] at h
   exact absurd h (by decide)
  ·exact⟨he,way_is.1 hw⟩
 ·rw[if_neg he] at h
  exact absurd h he
theorem rec_right {k:Nat}{way:Int}{ps:List ByteArray}(f:Int×Bool×ak×Int)(hf:dK (k:Int)≠0)(he:fT (k:Int) ps=0)(hw:1≤way∧way≤5):jV (k:Int) way ps f=if ps.any (dO (k:Int))=true then m8 k way (AZ (dK (k:Int))) false ⟨false,0,0⟩ (if dK (k:Int)=1 then 0 else 16) else m8 k way f.1 f.2.1 f.2.2.1 f.2.2.2:=by
 unfold jV;rw[if_neg hf,if_neg (by omega),if_neg (by omega),Int.toNat_natCast]
theorem open_err {n way:Int}{ps:List ByteArray}(h:CK n way ps≠0)(hm:ps.length≤3)(pb:Nat)(w:World)(hl:au w pb 9 (ps.map Value.string)):yC 9 #[yi n,yi way,.slice (some ⟨pb,0,none⟩) ps.length ps.length] w (yR w (.tuple #[.slice none 0 0,yi (CK n way ps)])):=
 (Qc n way ps pb w hl hm).mono (fun z w' h2=>by
  rcases h2 with⟨e,-⟩| ⟨-,e,b⟩
  ·exact absurd e h
  ·exact⟨e,b⟩)
theorem open_ok {n way:Int}{ps:List ByteArray}(h:CK n way ps=0)(hm:ps.length≤3)(h0:ps≠[])(pb:Nat)(w:World)(hl:au w pb 9 (ps.map Value.string)):yC 9 #[yi n,yi way,.slice (some ⟨pb,0,none⟩) ps.length ps.length] w fun z w'=> ∃gb cap,z= .returned (.tuple #[.slice (some ⟨gb,0,none⟩) ps.length cap,yi 0])∧ab5 w' n ps gb cap∧yB w w':=
 (Qc n way ps pb w hl hm).mono (fun z w' h2=>by
  rcases h2 with⟨-,v,cs,e,ho,hat,b⟩| ⟨e,-⟩
  ·obtain⟨g,cap,rfl,hv⟩:=ab6 h0 ho hat
   exact⟨g,cap,e,hv,b⟩
  ·exact absurd h e)
def RefOf (k:Nat)(wy:Int)(cx cy:Int)(gx gy:Bool)(x y:ak)(F:Nat)(v:Int×Bool×ak×Int):Prop:=
 ∀xo xc yo yc w,Rd w .i64 (.slice xo (Dg.dg 65536 x.n).length xc) (Dg.dg 65536 x.n)→Rd w .i64 (.slice yo (Dg.dg 65536 y.n).length yc) (Dg.dg 65536 y.n)→yC F #[yi (k:Int),yoV cx gx x.s (.slice xo (Dg.dg 65536 x.n).length xc) x.e,yoV cy gy y.s (.slice yo (Dg.dg 65536 y.n).length yc) y.e,yi wy] w (RVF w v.1 v.2.1 v.2.2.1 v.2.2.2)
theorem off_pair (k:Nat)(hk:1≤k∧k≤8)(cx cy:Int)(gx gy sx sy:Bool)(vx vy:Value)(ex ey:Int)(pb:Nat)(w:World)(hl:au w pb 32 [yi cx,.bool gx,.bool sx,vx,yi ex,yi cy,.bool gy,.bool sy,vy,yi ey]):
  (cx≤3∧cy≤3→yC 34 #[yi (k:Int),.slice (some ⟨pb,0,none⟩) 2 2] w (yR w (.tuple #[yoV 0 false false (.slice none 0 0) 0,yi 0,.bool false])))∧
  (¬(cx≤3∧cy≤3)→yC 34 #[yi (k:Int),.slice (some ⟨pb,0,none⟩) 2 2] w (yR w (.tuple #[yoV (AZ (dK (k:Int))) false false (.slice none 0 0) 0,yi (if dK (k:Int)=3 then 16 else 0),.bool true]))):=by
 have hc: ∀(i:Nat) c,[cx,cy][i]? =some c→w.cell? ⟨pb,i*5,none⟩=some (yi c):=fun i c h=>by
  rcases i with- | - |i
  ·obtain rfl:cx=c:=by simpa using h
   exact hl.c 0 rfl
  ·obtain rfl:cy=c:=by simpa using h
   exact hl.c 5 rfl
  ·simp at h
 obtain⟨h1,h2⟩:=off_row k hk [cx,cy] pb w (by simp) hc;refine⟨fun h=>h1 (fun c hc=>by
  rcases List.mem_cons.1 hc with rfl|hc
  ·exact h.1
  ·rw[List.mem_singleton.1 hc]
   exact h.2),fun h=>h2 ?_⟩
 by_cases c:cx≤3
 ·exact⟨1,cy,by omega,rfl,by omega⟩
 ·exact⟨0,cx,by omega,rfl,by omega⟩
theorem hex_num {k:Nat}(hk:1≤k∧k≤8)(hf:dK (k:Int)=2){a:ByteArray}(ha:dF (k:Int) a=0):bM (k:Int) a≤2:=by
 have h45: ¬k≤3∧k≤5:=by
  revert hf
  rcases bO hk with rfl|rfl|rfl|rfl|rfl|rfl|rfl|rfl<;>decide
 unfold bM;rw[if_pos ha,Int.toNat_natCast];unfold dh;rw[if_neg h45.1,if_pos h45.2]
 split<;>omega
theorem inf_few {k:Nat}{a:ByteArray}(ha:dF (k:Int) a=0)(h:bM (k:Int) a=3):k≤3:=by
 refine Decidable.byContradiction fun h3=> ?_
 revert h
 unfold bM;rw[if_pos ha,Int.toNat_natCast];unfold dh;rw[if_neg h3]
 split
 ·split<;>omega
 ·split
  ·split<;>omega
  ·omega
theorem pat_ok {k:Nat}{r:ByteArray×Int×Int}{v:Int×Bool×ak×Int}(h:SameV k r v)(so:Option Addr)(sc:Nat)(w:World)(hr:Rd w .i64 (.slice so (Dg.dg 65536 v.2.2.1.n).length sc) (Dg.dg 65536 v.2.2.1.n)):yC 12 #[yi (k:Int),.string r.1,yi r.2.1,yi r.2.2,yi 0,yoV v.1 v.2.1 v.2.2.1.s (.slice so (Dg.dg 65536 v.2.2.1.n).length sc) v.2.2.1.e,yi v.2.2.2] w (yR w (.bool true)):=by
 obtain⟨h1,h2,h3⟩:=h;rw[h1,h2];exact aaY (k:Int) _ _ _ v.2.2.1 so sc r.1 w (fun w1 b=>h3 so sc w1 (hr.l b))
end Go.Proofs.YtbdokgamhinajaaGreatDoor
