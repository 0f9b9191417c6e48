/-
  Texts laid together: Ga1, Ga5, Gc1, Gq6, Gq7, Oq1.
-/
import Derived.Test.YtnhackdjplppjaaGreatDoorSh43
import Derived.Test.YtnhackdjplppjaaGreatDoorSh38
set_option maxRecDepth 100000
set_option maxHeartbeats 6400000
namespace Go.Proofs.YtnhackdjplppjaaGreatDoor
open _root_.Go.Proofs.Tryz
open Go.RowKit
theorem aen (n c:Int)(w:World)(HN:yJ 117 #[yi n] (yoV c false false (.slice none 0 0) 0)):
  yC 59 #[yi n] w (RVF w c false ⟨false,0,0⟩ 16):=by
 replace HN:Hid _:=HN;obtain⟨W3,hW4,q1,b2⟩:=cA w (yoL 0 false false (.slice none 0 0) 0) 32;replace hW4:Hid _:=hW4
 go_enter func59,ntmps59
 go_upto_region 1 with fail
 rw[hW4.out];clear hW4
 go_wp2_with fail
 refine(HN.out _).mono ?_;rintro zz w5 ⟨rfl,bb6⟩;have q7:=q1.l bb6;have b8:=aa b2 bb6;clear q1 b2 bb6;have hf:=dL (P:=Tryz.prog) q7 b8 (by omega) underlying32 rfl (by kernel_rfl) (yi c) (.bool false) (.bool false) (.slice none 0 0) (yi 0);have HH:Hid (_∧_):=⟨hf.1,hf.2.1⟩;obtain⟨⟨z0,z1,z2,z3,z4⟩,y0,y1,y2,y3,y4⟩:=dN q7;clear hf q7 b8
 go_wp2
 obtain⟨hl,bR⟩:=HH.out;exact bodyPost_ret (aj results59 rfl rfl hl) rfl ⟨_,rfl,aN _ _,bR⟩
theorem aeo (n c wy fl:Int)(g:Bool)(x t:ak)(xo:Option Addr)(xc:Nat)(w:World)(hz:(((Dg.dg 65536 x.n).length:Int)==0)=false)
  (HO: ∀w1,yB w w1→yC 127 #[ydV x.s (.slice xo (Dg.dg 65536 x.n).length xc) x.e] w1 fun z w'=> ∃eo ec,z= .returned (yrV x.s (.slice xo (Dg.dg 65536 x.n).length xc) (.slice eo 1 ec) x.e)∧Rd w' .i64 (.slice eo 1 ec) [1]∧yB w1 w')
  (HT: ∀eo ec w1,yB w w1→Rd w1 .i64 (.slice eo 1 ec) [1]→yC 39 #[yi n,yrV x.s (.slice xo (Dg.dg 65536 x.n).length xc) (.slice eo 1 ec) x.e,yi wy] w1 (RVF w1 c g t fl)):
  yC 66 #[yi n,ydV x.s (.slice xo (Dg.dg 65536 x.n).length xc) x.e,yi wy] w (RVF w c g t fl):=by
 replace HO:Hid _:=HO;replace HT:Hid _:=HT;obtain⟨W4,hW5,q1,q2,b3⟩:=iG w (ydL x.s (.slice xo (Dg.dg 65536 x.n).length xc) x.e) 30 (yoL 0 false false (.slice none 0 0) 0) 32;replace hW5:Hid _:=hW5
 go_enter func66,ntmps66
 go_upto_region 1 with fail
 rw[hW5.out];clear hW5;obtain⟨c6,c7,c8⟩:=q1.cs3
 go_wp2_with fail
 refine(HO.out _ b3).mono ?_;rintro zz w9 ⟨eo,ec,rfl,r111,bb10⟩;have q12:=q2.l bb10;have b13:=aa b3 bb10;clear q1 q2 b3 bb10 HO c6 c7 c8
 go_wp2_with fail
 refine(HT.out _ _ _ b13 r111).mono ?_;rintro zz w14 ⟨v116,rfl,r117,bb15⟩;have q18:=q12.l bb15;have r19:=r111.l bb15;have b20:=aa b13 bb15;obtain⟨so,sc,hv⟩:=r117.shape;subst hv;clear q12 r111 b13 bb15 HT;have hf:=dL (P:=Tryz.prog) q18 b20 (by omega) underlying32 rfl (by kernel_rfl) (yi c) (.bool g) (.bool t.s) (.slice so (Dg.dg 65536 t.n).length sc) (yi t.e);have HH:Hid (_∧_∧_):=⟨hf.1,hf.2.2.rd r117 (mu r117 q18),hf.2.1⟩;obtain⟨⟨z0,z1,z2,z3,z4⟩,y0,y1,y2,y3,y4⟩:=dN q18;clear hf q18 r19 r117 b20
 go_wp2
 obtain⟨hl,rRs,bR⟩:=HH.out;exact bodyPost_ret (aj results66 rfl rfl hl) rfl ⟨_,rfl,rRs,bR⟩
theorem aaY (n c fl:Int)(g:Bool)(t:ak)(so:Option Addr)(sc:Nat)(st:ByteArray)(w:World)
  (HE:yH w 61 #[yi n,yoV c g t.s (.slice so (Dg.dg 65536 t.n).length sc) t.e] (.string st)):
  yC 21 #[yi n,.string st,yi fl,yi 0,yi 0,yoV c g t.s (.slice so (Dg.dg 65536 t.n).length sc) t.e,yi fl] w (yR w (.bool true)):=by
 replace HE:Hid _:=HE;obtain⟨W3,hW4,q1,b2⟩:=cA w (yoL c g t.s (.slice so (Dg.dg 65536 t.n).length sc) t.e) 32;replace hW4:Hid _:=hW4
 go_enter func21,ntmps21
 go_upto_region 1 with fail
 rw[hW4.out];clear hW4;obtain⟨c5,c6,c7,c8,c9⟩:=q1.cs5
 go_wp2_with fail
 refine(HE.out _ b2).mono ?_;rintro zz w10 ⟨rfl,bb11⟩;have b12:=aa b2 bb11;clear q1 b2 bb11 HE c5 c6 c7 c8 c9
 go_wp2
 go_ret
 exact⟨by simp,b12⟩
theorem wT {P:Program}{fn:Func}{a t s:Nat}{ty:TypeId}{tmps:Array Value}{w:World}{b:Nat}{v u x:Value}(hres:fn.results= #[.cell a ty,.tmp t,.tmp s])(hp:tmps.getD a undef= .pointer (some ⟨b,0,none⟩))(hu:tmps.getD t undef=u)(hx:tmps.getD s undef=x)(hl:(loadVar ty ⟨b,0,none⟩).run P w= .ok v w):(results fn tmps).run P w= .ok (.tuple #[v,u,x]) w:=by
 rw[Array.getD_eq_getD_getElem?] at hp hu hx;unfold results;simp[hres,hp,hu,hx,asAddr,hl]
theorem aey (n f0 f1 f2 R D L G fam:Int)(gr ok:Bool)(cl:List Int)(pb:Nat)(w:World)(hm:cl.length≤3)(hc: ∀(i:Nat) c,cl[i]? =some c→w.cell? ⟨pb,i*5,none⟩=some (yi c))(hx: ∀c∈cl,c≤3)
  (HF:yJ 35 #[yi n] (.tuple #[.agg #[yi f0,yi f1,yi f2,yi R,yi D,yi L,yi G,.bool gr,yi fam],.bool ok])):
  yC 58 #[yi n,.slice (some ⟨pb,0,none⟩) cl.length cl.length] w (yR w (.tuple #[yoV 0 false false (.slice none 0 0) 0,yi 0,.bool false])):=by
 obtain⟨m,hmE⟩: ∃m,cl.length=m:=⟨_,rfl⟩;rw[hmE] at hm⊢;have HM:Hid (cl.length=m):=hmE;have HC:Hid _:=hc;have HX:Hid _:=hx;replace HF:Hid _:=HF;clear hmE hc hx;obtain⟨W0,hW0,q0,b0⟩:=cA w (yoL 0 false false (.slice none 0 0) 0) 32;replace hW0:Hid _:=hW0
 go_enter func58,ntmps58
 go_upto_region 1 with fail
 rw[hW0.out];clear hW0
 go_wp2_with fail
 refine(HF.out _).mono ?_;rintro z w1 ⟨rfl,b1⟩;have q1:=q0.l b1;have b01:=aa b0 b1;obtain⟨W2,hW2,f2',al⟩:=cA w1 [yi f0,yi f1,yi f2,yi R,yi D,yi L,yi G,.bool gr,yi fam] 58;replace hW2:Hid _:=hW2;have hl:=q1.lt;have q2:=q1.l al;have b02:=aa b01 al;clear q0 b0 q1 b1 b01 al HF
 go_upto_region 2 with fail
 rw[hW2.out];clear hW2;have CR:Hid (∀(i:Nat) c,cl[i]? =some c→W2.cell? ⟨pb,i*5,none⟩=some (yi c)):=fun i c hi=>cell_later b02 (HC.out i c hi)
 clear HC
 go_wp2
 go_loopw [9] (fun iv wr=> ∃i:Nat,iv=yi (i:Int)∧i≤m∧wr=W2) (fun iv _=>m-(intOf iv).toNat)
 case atStart=>exact⟨0,rfl,by omega,rfl⟩
 case round=>
  obtain⟨i,rfl,him,rfl⟩:=hrel
  by_cases hlt:i<m
  ·have hil:i<cl.length:=by have:=HM.out;omega
   obtain⟨c,hp⟩: ∃c,cl[i]? =some c:=⟨_,List.getElem?_eq_getElem hil⟩;have y:=CR.out i c hp;have hle:c≤3:=HX.out c (List.mem_of_getElem? hp);clear hp hil
   go_wp2
   go_roundw
   case rel=>exact⟨i+1,by go_num,by omega,trivial⟩
   case measure=>simp[intOf];omega
  ·have hf:=dL (P:=Tryz.prog) q2 b02 (by omega) underlying32 rfl (by kernel_rfl) (yi 0) (.bool false) (.bool false) (.slice none 0 0) (yi 0)
   have HH:Hid (_∧_):=⟨hf.1,hf.2.1⟩;obtain⟨⟨z0,z1,z2,z3,z4⟩,y0,y1,y2,y3,y4⟩:=dN q2;clear hf q2 b02
   go_wp2
   obtain⟨hl,bR⟩:=HH.out;exact bodyPost_ret (wT results58 rfl rfl rfl hl) rfl ⟨rfl,bR⟩
theorem aez (n f0 f1 f2 R D L G c0:Int)(gr ok:Bool)(cl:List Int)(pb:Nat)(w:World)(hm:cl.length≤3)(hc: ∀(i:Nat) c,cl[i]? =some c→w.cell? ⟨pb,i*5,none⟩=some (yi c))(hx: ∃j c,0≤j∧cl[j]? =some c∧4≤c)
  (HF:yJ 35 #[yi n] (.tuple #[.agg #[yi f0,yi f1,yi f2,yi R,yi D,yi L,yi G,.bool gr,yi 3],.bool ok]))
  (HN:yJ 117 #[yi n] (yoV c0 false false (.slice none 0 0) 0)):
  yC 58 #[yi n,.slice (some ⟨pb,0,none⟩) cl.length cl.length] w (yR w (.tuple #[yoV c0 false false (.slice none 0 0) 0,yi 16,.bool true])):=by
 obtain⟨m,hmE⟩: ∃m,cl.length=m:=⟨_,rfl⟩;rw[hmE] at hm⊢;have HM:Hid (cl.length=m):=hmE;have HC:Hid _:=hc;have HX:Hid _:=hx;replace HF:Hid _:=HF;replace HN:Hid _:=HN;clear hmE hc hx;obtain⟨W0,hW0,q0,b0⟩:=cA w (yoL 0 false false (.slice none 0 0) 0) 32;replace hW0:Hid _:=hW0
 go_enter func58,ntmps58
 go_upto_region 1 with fail
 rw[hW0.out];clear hW0
 go_wp2_with fail
 refine(HF.out _).mono ?_;rintro z w1 ⟨rfl,b1⟩;have q1:=q0.l b1;have b01:=aa b0 b1;obtain⟨W2,hW2,f2',al⟩:=cA w1 [yi f0,yi f1,yi f2,yi R,yi D,yi L,yi G,.bool gr,yi 3] 58;replace hW2:Hid _:=hW2;have hl:=q1.lt;have q2:=q1.l al;have b02:=aa b01 al;clear q0 b0 q1 b1 b01 al HF
 go_upto_region 2 with fail
 rw[hW2.out];clear hW2;have CR:Hid (∀(i:Nat) c,cl[i]? =some c→W2.cell? ⟨pb,i*5,none⟩=some (yi c)):=fun i c hi=>cell_later b02 (HC.out i c hi)
 clear HC
 go_wp2
 go_loopw [9] (fun iv wr=> ∃i:Nat,iv=yi (i:Int)∧i≤m∧Hid (∃j c,i≤j∧cl[j]? =some c∧4≤c)∧wr=W2) (fun iv _=>m-(intOf iv).toNat)
 case atStart=>exact⟨0,rfl,by omega,HX.out,rfl⟩
 case round=>
  obtain⟨i,rfl,him,HJ,rfl⟩:=hrel
  by_cases hlt:i<m
  ·have hil:i<cl.length:=by have:=HM.out;omega
   obtain⟨c,hp⟩: ∃c,cl[i]? =some c:=⟨_,List.getElem?_eq_getElem hil⟩;have y:=CR.out i c hp
   by_cases h4:4≤c
   ·clear hp hil
    have g8:=f2'.c 8 rfl
    go_wp2_with fail
    refine(HN.out _).mono ?_;rintro z w3 ⟨rfl,b3⟩;have q3:=q2.l b3;have b03:=aa b02 b3;clear g8 f2' q2 b02 b3 CR y;have hf:=dL (P:=Tryz.prog) q3 b03 (by omega) underlying32 rfl (by kernel_rfl) (yi c0) (.bool false) (.bool false) (.slice none 0 0) (yi 0);have HH:Hid (_∧_):=⟨hf.1,hf.2.1⟩;obtain⟨⟨z0,z1,z2,z3,z4⟩,y0,y1,y2,y3,y4⟩:=dN q3;clear hf q3 b03
    go_wp2
    obtain⟨hl,bR⟩:=HH.out;exact bodyPost_ret (wT results58 rfl rfl rfl hl) rfl ⟨rfl,bR⟩
   ·have HJ2:Hid (∃j c,i+1≤j∧cl[j]? =some c∧4≤c):=by
     obtain⟨j,d,h1,h2,h5⟩:=HJ.out;refine⟨j,d, ?_,h2,h5⟩
     rcases Nat.lt_or_ge i j with g|g
     ·exact g
     ·have:j=i:=by omega
      subst this;rw[hp] at h2
      cases h2
      omega
    clear hp hil HJ
    go_wp2
    go_roundw
    case rel=>exact⟨i+1,by go_num,by omega,HJ2,trivial⟩
    case measure=>simp[intOf];omega
  ·exfalso
   obtain⟨j,d,h1,h2,h5⟩:=HJ.out;have h6:=(List.getElem?_eq_some_iff.1 h2).1;have:=HM.out;omega
theorem aff (n f0 f1 f2 R D L G fam c0:Int)(gr ok:Bool)(cl:List Int)(pb:Nat)(w:World)(hm:cl.length≤3)(hc: ∀(i:Nat) c,cl[i]? =some c→w.cell? ⟨pb,i*5,none⟩=some (yi c))(hf3:(fam==3)=false)(hx: ∃j c,0≤j∧cl[j]? =some c∧4≤c)
  (HF:yJ 35 #[yi n] (.tuple #[.agg #[yi f0,yi f1,yi f2,yi R,yi D,yi L,yi G,.bool gr,yi fam],.bool ok]))
  (HN:yJ 117 #[yi n] (yoV c0 false false (.slice none 0 0) 0)):
  yC 58 #[yi n,.slice (some ⟨pb,0,none⟩) cl.length cl.length] w (yR w (.tuple #[yoV c0 false false (.slice none 0 0) 0,yi 0,.bool true])):=by
 obtain⟨m,hmE⟩: ∃m,cl.length=m:=⟨_,rfl⟩;rw[hmE] at hm⊢;have HM:Hid (cl.length=m):=hmE;have HC:Hid _:=hc;have HX:Hid _:=hx;replace HF:Hid _:=HF;replace HN:Hid _:=HN;clear hmE hc hx;obtain⟨W0,hW0,q0,b0⟩:=cA w (yoL 0 false false (.slice none 0 0) 0) 32;replace hW0:Hid _:=hW0
 go_enter func58,ntmps58
 go_upto_region 1 with fail
 rw[hW0.out];clear hW0
 go_wp2_with fail
 refine(HF.out _).mono ?_;rintro z w1 ⟨rfl,b1⟩;have q1:=q0.l b1;have b01:=aa b0 b1;obtain⟨W2,hW2,f2',al⟩:=cA w1 [yi f0,yi f1,yi f2,yi R,yi D,yi L,yi G,.bool gr,yi fam] 58;replace hW2:Hid _:=hW2;have hl:=q1.lt;have q2:=q1.l al;have b02:=aa b01 al;clear q0 b0 q1 b1 b01 al HF
 go_upto_region 2 with fail
 rw[hW2.out];clear hW2;have CR:Hid (∀(i:Nat) c,cl[i]? =some c→W2.cell? ⟨pb,i*5,none⟩=some (yi c)):=fun i c hi=>cell_later b02 (HC.out i c hi)
 clear HC
 go_wp2
 go_loopw [9] (fun iv wr=> ∃i:Nat,iv=yi (i:Int)∧i≤m∧Hid (∃j c,i≤j∧cl[j]? =some c∧4≤c)∧wr=W2) (fun iv _=>m-(intOf iv).toNat)
 case atStart=>exact⟨0,rfl,by omega,HX.out,rfl⟩
 case round=>
  obtain⟨i,rfl,him,HJ,rfl⟩:=hrel
  by_cases hlt:i<m
  ·have hil:i<cl.length:=by have:=HM.out;omega
   obtain⟨c,hp⟩: ∃c,cl[i]? =some c:=⟨_,List.getElem?_eq_getElem hil⟩;have y:=CR.out i c hp
   by_cases h4:4≤c
   ·clear hp hil
    have g8:=f2'.c 8 rfl
    go_wp2_with fail
    refine(HN.out _).mono ?_;rintro z w3 ⟨rfl,b3⟩;have q3:=q2.l b3;have b03:=aa b02 b3;clear g8 f2' q2 b02 b3 CR y;have hf:=dL (P:=Tryz.prog) q3 b03 (by omega) underlying32 rfl (by kernel_rfl) (yi c0) (.bool false) (.bool false) (.slice none 0 0) (yi 0);have HH:Hid (_∧_):=⟨hf.1,hf.2.1⟩;obtain⟨⟨z0,z1,z2,z3,z4⟩,y0,y1,y2,y3,y4⟩:=dN q3;clear hf q3 b03
    go_wp2
    obtain⟨hl,bR⟩:=HH.out;exact bodyPost_ret (wT results58 rfl rfl rfl hl) rfl ⟨rfl,bR⟩
   ·have HJ2:Hid (∃j c,i+1≤j∧cl[j]? =some c∧4≤c):=by
     obtain⟨j,d,h1,h2,h5⟩:=HJ.out;refine⟨j,d, ?_,h2,h5⟩
     rcases Nat.lt_or_ge i j with g|g
     ·exact g
     ·have:j=i:=by omega
      subst this;rw[hp] at h2
      cases h2
      omega
    clear hp hil HJ
    go_wp2
    go_roundw
    case rel=>exact⟨i+1,by go_num,by omega,HJ2,trivial⟩
    case measure=>simp[intOf];omega
  ·exfalso
   obtain⟨j,d,h1,h2,h5⟩:=HJ.out;have h6:=(List.getElem?_eq_some_iff.1 h2).1;have:=HM.out;omega
theorem Pc (R D E:Int)(ln lm:Nat)(h1: -700000≤(ln:Int)-lm+E):((ln:Int)-lm+E+800000).tdiv (ai R:Int)-(800000:Int).tdiv (ai R:Int)-D+2=((ln:Int)-lm+E)/(ai R:Int)-D+2:=by
 rw[Int.tdiv_eq_ediv_of_nonneg (by omega),Int.tdiv_eq_ediv_of_nonneg (by omega)];unfold ai
 split<;>simp<;>omega
theorem EN (R D:Int)(h:0≤D):((ai R*D.toNat:Nat):Int)=(ai R:Int)*D:=by
 rw[Int.natCast_mul,Int.toNat_of_nonneg h]
theorem CU {R k:Int}{a:Int}(h1: -a≤k)(h2:k≤a): -(4*a)≤(ai R:Int)*k∧(ai R:Int)*k≤4*a:=by
 unfold ai
 split<;>simp<;>omega
theorem CJ {R D L:Int}{gr:Bool}{N M:Nat}{E:Int}(h:(decide (aT R D (dY N M E)<L)&&gr)=true):dj R D L gr N M E=L:=if_pos h
theorem Gu {R D L:Int}{gr:Bool}{N M:Nat}{E:Int}(h:(decide (aT R D (dY N M E)<L)&&gr)=false):dj R D L gr N M E=aT R D (dY N M E):=if_neg (by rw[h];decide)
theorem KS {R D L:Int}{gr qs:Bool}{N M:Nat}{E way:Int}(h1:decide (gF R D L gr N M E=0)=false)(h2:rf R D L gr qs N M E way=true):fM R D L gr qs N M E way=cH R D L gr N M E+1:=if_pos ⟨h1,h2⟩
theorem ZF {R D L:Int}{gr qs:Bool}{N M:Nat}{E way:Int}(h:decide (gF R D L gr N M E=0)=true∨rf R D L gr qs N M E way=false):fM R D L gr qs N M E way=cH R D L gr N M E:=by
 refine if_neg ?_;rintro⟨h1,h2⟩
 rcases h with h|h
 ·rw[h1] at h
  cases h
 ·rw[h2] at h
  cases h
theorem KT (B x y L:Nat)(hB:2≤B)(h:x≤y)(hy:(Dg.dg B y).length≤L):(Dg.dg B x).length≤L:=Nat.le_trans (aH B x y hB h) hy
theorem ZG {x L:Nat}(h:(Dg.dg 65536 x).length≤L):(Dg.dg 65536 (x+1)).length≤L+1:=by
 refine Dg.dg_len_le 65536 _ _ (by omega) ?_;have h1:=Dg.vl_lt 65536 (Dg.dg 65536 x) (Dg.small_dg _ _ (by omega));rw[Dg.vl_dg _ _ (by omega)] at h1;have h2:65536^ (Dg.dg 65536 x).length≤65536^L:=Nat.pow_le_pow_right (by omega) h;have h3:(65536:Nat)^ (L+1)=65536^L*65536:=Nat.pow_succ ..;have h4:0< (65536:Nat)^L:=Nat.pow_pos (by omega);generalize(65536:Nat)^L=c at*;omega
theorem vR {a L:Nat}(h:(Dg.dg 65536 a).length≤L):bitLen a≤16*L:=by
 refine bF a _ ?_;rw[Nat.pow_mul];have h1:=Dg.vl_lt 65536 _ (Dg.small_dg 65536 a (by omega));rw[Dg.vl_dg _ _ (by omega)] at h1;exact Nat.lt_of_lt_of_le h1 (Nat.pow_le_pow_right (by omega) h)
theorem pQ (v:Value)(n:Nat)(w:World)(h:Rd w .i64 v (Dg.dg 65536 n))(hl:(Dg.dg 65536 n).length≤3000000):yC 119 #[v] w (yR w (yi (bitLen n:Nat))):=by
 have:=kF v _ w h (Dg.small_dg _ _ (by omega)) (Dg.norm_dg _ _ (by omega)) hl;rw[Dg.vl_dg _ _ (by omega)] at this;refine this.mono ?_;rintro z w' ⟨rfl,rfl⟩;exact⟨rfl,Below.refl _ _⟩
theorem Rh {R D k t b:Int}(h1:t/(ai R:Int)-(D-1)≤k)(h2:k≤b/(ai R:Int)-D+2)(t1: -341000≤t)(b2:b≤341000)(d1:1≤D)(d2:D≤120): -360000≤(ai R:Int)*k∧(ai R:Int)*k≤360000:=by
 unfold ai at*
 split at h1<;>simp_all<;>omega
theorem KU (R D L G:Int)(gr qs:Bool)(no:Option Addr)(nc:Nat)(eo:Option Addr)(ec:Nat)(N M:Nat)(E way:Int)(w:World)(hg:bk R D L G=0)(hway:iC way=true)
  (ha:Rd w .i64 (.slice no (Dg.dg 65536 N).length nc) (Dg.dg 65536 N)) (hb:Rd w .i64 (.slice eo (Dg.dg 65536 M).length ec) (Dg.dg 65536 M)) (hla:(Dg.dg 65536 N).length≤20000) (hlb:(Dg.dg 65536 M).length≤20000) (hN:N≠0) (hM:M≠0) (e1: -100000≤E) (e2:E≤100000) (s1: -340000≤(bitLen N:Int)-(bitLen M:Int)+E) (s2:(bitLen N:Int)-(bitLen M:Int)+E≤340000):
  yC 92 #[yrV qs (.slice no (Dg.dg 65536 N).length nc) (.slice eo (Dg.dg 65536 M).length ec) E,ygV R D L G gr,yi way] w (GT w (cI R D L G gr qs N M E way)):=by
 obtain⟨hR,d1,d2,l1,l2,g1,g2,lg,l16⟩:=cB hg;have hbn:=vR hla;have hbm:=vR hlb;have hs:=Ve R D N M E;have hst:=Pc R D E (bitLen N) (bitLen M) (by omega);have hK1: -400000≤aT R D (dY N M E):=by
  have: -350000≤dY N M E:=by unfold dY;split<;>omega
  unfold aT ai
  split<;>simp<;>omega
 have hk0:((bitLen N:Int)-(bitLen M:Int)+E)/(ai R:Int)-D+2≤400000:=by
  unfold ai
  split<;>simp<;>omega
 have hwn:=eN R;have hWK: ∀k,aT R D (dY N M E)≤k→k≤((bitLen N:Int)-(bitLen M:Int)+E)/(ai R:Int)-D+2→ -360000≤(ai R:Int)*k∧(ai R:Int)*k≤360000:=fun k h1 h2=>
  Rh h1 h2 (by unfold dY;split<;>omega) (by omega) d1 d2
 have hNM: ∀n:Int,n≤900000→(Dg.dg 65536 (eZ N n)).length≤160000:=fun n h=>GB (Nat.le_trans hla (by omega)) h
 have hDM: ∀n:Int,-900000≤n→(Dg.dg 65536 (dX M n)).length≤160000:=fun n h=>GC (Nat.le_trans hlb (by omega)) h
 have hcr: -360000≤(ai R:Int)*dj R D L gr N M E∧(ai R:Int)*dj R D L gr N M E≤360000∧ -400000≤dj R D L gr N M E∧dj R D L gr N M E≤400000:=by
  by_cases h:(decide (aT R D (dY N M E)<L)&&gr)=true
  ·rw[CJ h]
   have:=l16;refine⟨?_, ?_,by omega,by omega⟩<;>(clear hWK hs hst hK1 hk0;unfold ai;split<;>simp<;>omega)
  ·rw[Gu (by simpa using h)]
   have:=hWK _ (Int.le_refl _) (by omega);exact⟨this.1,this.2,hK1,by omega⟩
 have hq:(Dg.dg 65536 (cH R D L gr N M E)).length≤160000:=KT 65536 _ _ _ (by omega) (Nat.div_le_self _ _) (hNM _ (by unfold shP;omega));have hY0:0<dX M (shP R D L gr N M E):=N8 _ (Nat.pos_of_ne_zero hM);have hr:(Dg.dg 65536 (gF R D L gr N M E)).length≤160000:=KT 65536 _ _ _ (by omega) (Nat.le_of_lt (Nat.mod_lt _ hY0)) (hDM _ (by unfold shP;omega));have hDc:=EN R D (by omega);have hDc1:=EN R (D-1) (by omega);have hpow:ai R*(D-1).toNat≤480:=by
  have:(D-1).toNat≤119:=by omega
  exact Nat.le_trans (Nat.mul_le_mul hwn.2 this) (by omega)
 have hm1:(ai R:Int)*(D-1)≤480:=by omega
 have hm2:(ai R:Int)*D≤480:=by
  have:=CU (R:=R) (k:=D) (a:=120) (by omega) (by omega);omega
 have hm3:0≤(ai R:Int)*D:=by omega
 have a1:=Int.natAbs_tdiv_le_natAbs ((bitLen N:Int)-(bitLen M:Int)+E+800000) (ai R:Int);have a2:=Int.natAbs_tdiv_le_natAbs (800000:Int) (ai R:Int);refine ZY R D L G gr qs no _ nc eo _ ec E way (ai R) (bitLen N) (bitLen M) (((bitLen N:Int)-(bitLen M:Int)+E+800000).tdiv (ai R:Int)) ((800000:Int).tdiv (ai R:Int)) (aT R D (dY N M E)) (((bitLen N:Int)-(bitLen M:Int)+E)/(ai R:Int)-D+2) (dj R D L gr N M E)
  (fun k=>eZ N (E-(ai R:Int)*k)/dX M (E-(ai R:Int)*k)) (fun k=>eZ N (E-(ai R:Int)*k) % dX M (E-(ai R:Int)*k)) (fun k=>dX M (E-(ai R:Int)*k)) (fun k=>bitLen (eZ N (E-(ai R:Int)*k)/dX M (E-(ai R:Int)*k)))
  (cH R D L gr N M E) (gF R D L gr N M E) (dX M (shP R D L gr N M E)) (bitLen (cH R D L gr N M E+1)) (dm ((gF R D L gr N M E*2:Nat):Int) ((dX M (shP R D L gr N M E):Nat):Int)) (decide (cH R D L gr N M E % 2=1)) (rf R D L gr qs N M E way) (decide (aT R D (dY N M E)<L)) (decide (gF R D L gr N M E=0)) (decide (aT R D (dY N M E)<L)&&gr) (decide (ai R*D.toNat<bitLen (cH R D L gr N M E+1)))
  (io R D (fM R D L gr qs N M E way)) (gD R D (fM R D L gr qs N M E way) (dj R D L gr N M E)) (cI R D L G gr qs N M E way) w ?_ ?_ ?_ (Int.le_of_lt hs) ?_ ?_ ?_ rfl rfl ?_ ?_ ?_ ?_ ?_ ?_ ?_ ?_ ?_ ?_ ?_ ?_ rfl rfl rfl rfl CJ ?_ ?_ ?_ ?_ ?_ ?_ ?_ ?_ (kJ gr qs N M E way d1 lg hN hM) ?_ ?_ ?_ ?_ ?_ ?_ ?_ ?_ ?_ ?_ ?_ ?_
 ·simp
  rw[Dg.dg_nil_iff _ _ (by omega)];exact hN
 ·simp
  omega
 ·omega
 ·exact IntWalk.i64_in _ ⟨by omega,by omega⟩
 ·exact IntWalk.i64_in _ ⟨by omega,by omega⟩
 ·exact IntWalk.i64_in _ ⟨by omega,by omega⟩
 ·exact IntWalk.i64_in _ ⟨by omega,by omega⟩
 ·exact IntWalk.i64_in _ ⟨by omega,by omega⟩
 ·exact IntWalk.i64_in _ ⟨by omega,by omega⟩
 ·exact IntWalk.i64_in _ ⟨by omega,by omega⟩
 ·rw[hst]
  exact IntWalk.i64_in _ ⟨by omega,by omega⟩
 ·intro k h1 h2
  have:=hWK k h1 h2;exact⟨IntWalk.i64_in _ ⟨by omega,by omega⟩,IntWalk.i64_in _ ⟨by omega,by omega⟩⟩
 ·have:=CU (R:=R) (k:=L) (a:=17000) (by omega) (by omega)
  exact IntWalk.i64_in _ ⟨by omega,by omega⟩
 ·exact IntWalk.i64_in _ ⟨by omega,by omega⟩
 ·exact IntWalk.i64_in _ ⟨by omega,by omega⟩
 ·exact IntWalk.i64_in _ ⟨by omega,by omega⟩
 ·exact IntWalk.i64_in _ ⟨by omega,by omega⟩
 ·exact IntWalk.i64_in _ ⟨by omega,by omega⟩
 ·intro h
  have e:=Gu h;refine⟨e, ?_, ?_, ?_⟩
  ·unfold cH shP
   rw[e]
  ·unfold gF shP
   rw[e]
  ·unfold shP
   rw[e]
 ·intro k h1 h2
  have:=(xx R D k N M E d1 hN hM).2 h1;omega
 ·have:=mt (xx R D (aT R D (dY N M E)) N M E d1 hN hM).1 (Int.lt_irrefl _)
  omega
 ·intro h
  have:=of_decide_eq_true h;omega
 ·intro h
  have:=of_decide_eq_false h;omega
 ·intro h1 h2 h3
  rw[KS h1 h2];exact if_pos ((Ga R D L gr N M E d1 hN hM).1 (of_decide_eq_true h3))
 ·intro h1 h2 h3
  have h4: ¬cH R D L gr N M E+1=2^ (ai R*D.toNat):=fun c=>of_decide_eq_false h3 ((Ga R D L gr N M E d1 hN hM).2 c)
  rw[KS h1 h2];exact⟨if_neg h4,if_neg h4⟩
 ·intro h
  rw[ZF h];exact uh R D L gr N M E d1 hN hM _
 ·intro w1
  have:=nh R D L G gr w1
  rwa [jf] at this
 ·intro w1 b
  exact pQ _ N w1 (ha.l b) (by omega)
 ·intro w1 b
  exact pQ _ M w1 (hb.l b) (by omega)
 ·intro k w1 h1 h2 b
  have:=hWK k h1 h2;exact BM qs no _ nc eo _ ec N M E _ w1 (ha.l b) (hb.l b) (by omega) (by omega) (Nat.pos_of_ne_zero hM) (by omega) (by omega)
 ·intro h w1 b
  have:=BM qs no _ nc eo _ ec N M E ((ai R:Int)*dj R D L gr N M E) w1 (ha.l b) (hb.l b) (by omega) (by omega) (Nat.pos_of_ne_zero hM) (by omega) (by omega);rw[show E-(ai R:Int)*dj R D L gr N M E=shP R D L gr N M E from rfl,CJ h] at this
  exact this
 ·intro k v w1 h1 h2 r
  have:=hWK k h1 h2;exact pQ v _ w1 r (Nat.le_trans (KT 65536 _ _ _ (by omega) (Nat.div_le_self _ _) (hNM _ (by omega))) (by omega))
 ·intro v u w1 r1 r2
  have:=fN v u _ _ w1 r1 r2 (Dg.small_dg _ _ (by omega)) (Dg.small_cons.2 ⟨by omega,Dg.small_nil _ (by omega)⟩) (by omega) (by simp)
  rwa [Dg.vl_dg _ _ (by omega),show Dg.vl 65536 [2]=2 from rfl] at this
 ·intro v u w1 r1 r2
  have:=fm v u _ _ w1 r1 r2 (Dg.small_dg _ _ (by omega)) (Dg.small_dg _ _ (by omega)) (Dg.norm_dg _ _ (by omega)) (Dg.norm_dg _ _ (by omega))
  rwa [Dg.vl_dg _ _ (by omega),Dg.vl_dg _ _ (by omega)] at this
 ·intro w1
  exact Od hway qs _ _ w1
 ·intro v u w1 r1 r2
  have:=ew v u _ _ w1 r1 r2 (Dg.small_dg _ _ (by omega)) (Dg.small_cons.2 ⟨by omega,Dg.small_nil _ (by omega)⟩) (Dg.norm_dg _ _ (by omega)) (by rw[show([1]:List Nat)=Dg.dg 65536 1 from by decide];exact Dg.norm_dg _ _ (by omega)) (by omega) (by simp)
  rwa [Dg.vl_dg _ _ (by omega),show Dg.vl 65536 [1]=1 from rfl] at this
 ·intro v w1 r
  exact pQ v _ w1 r (Nat.le_trans (ZG hq) (by omega))
 ·intro h1 h2 h3 w1
  rw[KS h2 h3,show io R D (cH R D L gr N M E+1)=2^ (ai R*(D-1).toNat) from if_pos ((Ga R D L gr N M E d1 hN hM).1 (of_decide_eq_true h1)),←hDc1]
  exact ZQ _ (ai R*(D-1).toNat/16) (ai R*(D-1).toNat % 16) w1 (by omega) (by omega) (by omega)
def rfG (n:Int)(p:ByteArray):Bool:=zR n.toNat (aZ n.toNat p) (aR n.toNat p) (aU n.toNat p)
def rfT (n:Int)(p:ByteArray):ak:=ji n.toNat (aZ n.toNat p) (aR n.toNat p) (aU n.toNat p)
def CK (n way:Int)(ps:List ByteArray):Int:=if dK n=0 then 6 else if fT n ps=0 then(if iC way then 0 else 6) else fT n ps
def rfC (n:Int)(p:ByteArray)(v:Value):List Value:=[yi ((bM n p:Nat):Int),.bool (rfG n p),.bool (rfT n p).s,v,yi (rfT n p).e]
def Gw (w:World)(n:Int)(g:Option Nat)(p:ByteArray)(v:Value):Prop:=
 (∃so sc,v= .slice so (Dg.dg 65536 (rfT n p).n).length sc)∧Rd w .i64 v (Dg.dg 65536 (rfT n p).n)∧ ∀b,g=some b→wF b v (Dg.dg 65536 (rfT n p).n)
def tg (w:World)(n:Int)(g:Option Nat):List ByteArray→List Value→Prop
 | [],cs=>cs=[]
 |p::ps,cs=> ∃v rest,cs=rfC n p v++rest∧Gw w n g p v∧tg w n g ps rest
theorem tg.mono {w w':World}{n:Int}{g g':Option Nat}(h: ∀p v,Gw w n g p v→Gw w' n g' p v): ∀{ps:List ByteArray} {cs:List Value},tg w n g ps cs→tg w' n g' ps cs
 | [],_,hc=>hc
 |p::_,_,hc=>by
  obtain⟨v,rest,h1,h2,h3⟩:=hc;exact⟨v,rest,h1,h p v h2,tg.mono h h3⟩
theorem tg.snoc {w:World}{n:Int}{g:Option Nat}{p:ByteArray}{v:Value}(hv:Gw w n g p v): ∀{ps:List ByteArray} {cs:List Value},tg w n g ps cs→tg w n g (ps++[p]) (cs++rfC n p v)
 | [],cs,hc=>by
  have:cs=[]:=hc;subst this;exact⟨v,[],by simp,hv,rfl⟩
 |q::_,_,hc=>by
  obtain⟨u,rest,h1,h2,h3⟩:=hc;subst h1;exact⟨u,rest++rfC n p v,by simp,h2,tg.snoc hv h3⟩
def Ri (w:World)(n:Int)(ps:List ByteArray)(e:Int)(z:Ending)(w':World):Prop:=
 (e=0∧ ∃v cs,z= .returned (.tuple #[v,yi 0])∧w'.ownsRow w.heap.size 32 5 v ps.length cs∧tg w' n v.ownBlock ps cs∧yB w w')∨
 (e≠0∧z= .returned (.tuple #[.slice none 0 0,yi e])∧yB w w')
def Vz (w:World)(n:Int)(ps:List ByteArray)(i:Nat)(lv:Value)(wr:World):Prop:=
 ∃cs,wr.ownsRow w.heap.size 32 5 lv i cs∧tg wr n lv.ownBlock (ps.take i) cs∧fT n ps=fT n (ps.drop i)
theorem Gw.l {w w':World}{n:Int}{g:Option Nat}{p:ByteArray}{v:Value}(h:Gw w n g p v)(hb:yB w w'):Gw w' n g p v:=⟨h.1,h.2.1.l hb,h.2.2⟩
theorem Vz.l {w wr w':World}{n:Int}{ps:List ByteArray}{i:Nat}{lv:Value}(h:Vz w n ps i lv wr)(hb:yB wr w'):Vz w n ps i lv w':=by
 obtain⟨cs,h1,h2,h3⟩:=h;exact⟨cs,zZ h1 hb,h2.mono (fun p v k=>k.l hb),h3⟩
theorem ZI {w w1 w2:World}{n:Int}{ps:List ByteArray}{i:Nat}{lv v' x:Value}{p:ByteArray}{cs:List Value}(hp:ps[i]? =some p)(he:dF n p=0)(h2:tg w1 n lv.ownBlock (ps.take i) cs)(h3:fT n ps=fT n (ps.drop i))(hx:Gw w1 n lv.ownBlock p x)
  (hown:w2.ownsRow w.heap.size 32 5 v' (i+1) (cs++rfC n p x)) (hg:w1.grownBy w2 lv.ownBlock) (hat:v'.ownBlock=lv.ownBlock∨v'.ownBlock=some w1.heap.size):
  Vz w n ps (i+1) v' w2:=by
 have hil:i<ps.length:=by
  rw[List.getElem?_eq_some_iff] at hp;exact hp.1
 have hm: ∀q v,Gw w1 n lv.ownBlock q v→Gw w2 n v'.ownBlock q v:=fun q v k=>by
  obtain⟨k1,k2,k3⟩:=k;refine⟨k1, ?_, ?_⟩
  ·obtain⟨so,sc,rfl⟩:=k1
   cases hb:lv.ownBlock with
   |none=>exact k2.l ⟨hg.os,hg.tape,hg.output,hg.size,fun j hj=>hg.block j hj (by rw[hb];exact fun e=>nomatch e)⟩
   |some b=>exact Nx k2 (hb▸hg) (k3 b hb)
  ·intro b hb
   rcases hat with e|e
   ·exact k3 b (by rw[←e];exact hb)
   ·have hbw:b=w1.heap.size:=by rw[e] at hb;exact(Option.some.inj hb).symm
    exact t9 k2 (by omega)
 refine⟨_,hown, ?_, ?_⟩
 ·rw[List.take_add_one,hp]
  exact(h2.mono hm).snoc (hm p x hx)
 ·rw[h3]
  have hd:ps.drop i=p::ps.drop (i+1):=by
   rw[List.drop_eq_getElem_cons hil]
   congr 1
   rw[List.getElem?_eq_getElem hil] at hp;exact Option.some.inj hp
  rw[hd];exact if_pos he
theorem SL {w:World}{n:Int}{g:Option Nat}: ∀{ps:List ByteArray} {cs:List Value} {i:Nat} {p:ByteArray},tg w n g ps cs→ps[i]? =some p→ ∃v,Gw w n g p v∧ ∀j u,(rfC n p v)[j]? =some u→cs[5*i+j]? =some u
 | [],_,_,_,_,hp=>by simp at hp
 |q::ps,cs,0,p,hc,hp=>by
  obtain⟨v,rest,h1,h2,h3⟩:=hc;have:q=p:=by simpa using hp
  subst this;refine⟨v,h2,fun j u hj=> ?_⟩
  subst h1;rw[List.getElem?_append_left]
  ·simpa using hj
  ·have:=(List.getElem?_eq_some_iff.1 hj).1
   omega
 |q::ps,cs,i+1,p,hc,hp=>by
  obtain⟨v,rest,h1,h2,h3⟩:=hc;obtain⟨u,h4,h5⟩:=SL h3 (by simpa using hp);refine⟨u,h4,fun j x hj=> ?_⟩
  subst h1;rw[List.getElem?_append_right (by simp[rfC];omega)];have:=h5 j x hj;rw[show 5*(i+1)+j-(rfC n q v).length=5*i+j from by simp[rfC];omega]
  exact this
structure ab5 (w:World) (n:Int) (ps:List ByteArray) (g cap:Nat):Prop where
 fit:ps.length≤cap
 most:cap≤maxLen
 each: ∀(i:Nat) p,ps[i]? =some p→ ∃so sc,w.rangeAt g (i*5) (rfC n p (.slice so (Dg.dg 65536 (rfT n p).n).length sc))∧Rd w .i64 (.slice so (Dg.dg 65536 (rfT n p).n).length sc) (Dg.dg 65536 (rfT n p).n)
theorem ab5.l {w w':World}{n:Int}{ps:List ByteArray}{g cap:Nat}(h:ab5 w n ps g cap)(hb:yB w w'):ab5 w' n ps g cap:=
 ⟨h.fit,h.most,fun i p hp=>by
  obtain⟨so,sc,h1,h2⟩:=h.each i p hp;exact⟨so,sc,aC h1 hb,h2.l hb⟩⟩
theorem ab6 {w:World}{n:Int}{ps:List ByteArray}{base:Nat}{v:Value}{cs:List Value}(h0:ps≠[])(ho:w.ownsRow base 32 5 v ps.length cs)(hat:tg w n v.ownBlock ps cs):
  ∃g cap,v= .slice (some ⟨g,0,none⟩) ps.length cap∧ab5 w n ps g cap:=by
 rcases ho.2 with⟨-,h⟩| ⟨g,cap,cur,hv,-,-,h1,h2,-,-⟩
 ·exact absurd (List.eq_nil_of_length_eq_zero h) h0
 ·refine⟨g,cap,hv,h1,h2,fun i p hp=> ?_⟩
  obtain⟨u,⟨⟨so,sc,rfl⟩,k2,k3⟩,k4⟩:=SL hat hp;refine⟨so,sc,fun j x hj=> ?_,k2⟩
  have:=ho.cells (g:=g) (by rw[hv];rfl) (5*i+j) x (k4 j x hj);rw[Addr.add_mid,Nat.zero_add] at this;rw[Nat.mul_comm i 5];exact this
end Go.Proofs.YtnhackdjplppjaaGreatDoor
