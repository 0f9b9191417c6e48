/-
  Texts laid together: Gn2, Dn2, Gk3, Gh6, Gh7, Gk6, Co4.
-/
import Derived.Test.YtpainhklfoaniaaGreatDoorSc33
set_option maxRecDepth 100000
set_option maxHeartbeats 1600000
namespace Go.Proofs.YtpainhklfoaniaaGreatDoor
open _root_.Go.Proofs.Tryz
open Go.RowKit
def ix (xs:List Nat)(p R D L G:Int):Int:=
 if chk xs=0 then(if bk R D L G=0 then(if eJ 20000 p=true then 3 else 0) else bk R D L G) else chk xs
theorem A8 {m n:Int}(h:eJ m n=false): -m≤n∧n≤m:=by
 unfold eJ at h;simp at h;omega
theorem kA {xs:List Nat}{p R D L G:Int}(h1:chk xs=0)(h2:bk R D L G=0)(h3:eJ 20000 p=false):ix xs p R D L G=0:=by
 unfold ix;rw[if_pos h1,if_pos h2,if_neg (by rw[h3];decide)]
theorem wS {R p:Int}(h: -20000≤p∧p≤20000): -80000≤(ai R:Int)*p∧(ai R:Int)*p≤80000:=by
 unfold ai
 split<;>simp<;>omega
theorem CW (R D L G:Int)(gr ng:Bool)(ao:Option Addr)(la ca:Nat)(p:Int)(w:World)(h: -1000000≤(ai R:Int)*p∧(ai R:Int)*p≤1000000):
  yC 157 #[ygV R D L G gr,.bool ng,.agg #[.slice ao la ca,yi p]] w (yR w (ydV ng (.slice ao la ca) ((ai R:Int)*p))):=by
 refine Zq R D L G gr ng ao la ca p (ai R) w (IntWalk.i64_in _ ⟨by omega,by omega⟩) (fun w1=> ?_)
 have:=tY R D L G gr w1
 rwa [jf] at this
theorem Xw {c:Int}(h: ¬c=0)(t:ak):cC c t=(⟨false,0,0⟩,c):=if_neg h
theorem kB (R D L G:Int)(gr s:Bool)(ao:Option Addr)(ca:Nat)(xs:List Nat)(p:Int)(x1 x2 x3:Bool)(w:World)(hr:Rd w .u32 (.slice ao xs.length ca) xs)(sa:Dg.Small 4294967296 xs)(hT:Tab w):
  yC 136 #[ypV s (.slice ao xs.length ca) p x1 x2 x3,ygV R D L G gr] w (gR w (cC (ix xs p R D L G) ⟨s,Dg.vl 4294967296 xs,(ai R:Int)*p⟩)):=by
 obtain⟨⟨⟨rs,rn,re⟩,c⟩,hrr⟩: ∃r,cC (ix xs p R D L G) ⟨s,Dg.vl 4294967296 xs,(ai R:Int)*p⟩=r:=⟨_,rfl⟩;have herr: ∀k,ix xs p R D L G=k→ ¬k=0→rs=false∧rn=0∧re=0∧c=k:=fun k h1 h2=>by
  rw[h1,Xw h2] at hrr;simp only[Prod.mk.injEq,ak.mk.injEq] at hrr;exact⟨hrr.1.1.symm,hrr.1.2.1.symm,hrr.1.2.2.symm,hrr.2.symm⟩
 rw[hrr];refine Zr R D L G gr s ao _ ca p x1 x2 x3 (ai R) (chk xs) (bk R D L G) c (eJ 20000 p) rs rn re w ?_ ?_ ?_ ?_ ?_ ?_ ?_ ?_
 ·intro h
  exact herr _ (if_neg h) h
 ·intro h h2
  exact herr _ ((if_pos h).trans (if_neg h2)) h2
 ·intro h h2 h3
  exact herr 3 ((if_pos h).trans ((if_pos h2).trans (if_pos h3))) (by decide)
 ·intro w1 b
  refine(jC _ xs w1 (hr.l b)).mono ?_;rintro z w' ⟨rfl,rfl⟩;exact⟨rfl,Below.refl _ _⟩
 ·intro w1
  exact vE R D L G gr w1
 ·intro w1
  exact nK p 20000 w1 (by omega) (by omega)
 ·intro h h2 h3 w1
  have:=wS (R:=R) (A8 h3);exact CW R D L G gr s ao _ ca p w1 ⟨by omega,by omega⟩
 ·intro h h2 h3 w1 b
  have hp:=wS (R:=R) (A8 h3);obtain⟨n1,l1⟩:=aF h;have x1:(Dg.dg 4294967296 (Dg.vl 4294967296 xs)).length≤1200:=by rw[←Dg.eq_dg 4294967296 (by omega) xs _ sa n1 rfl];exact l1
  rw[kA h h2 h3] at hrr;rw[←hrr];exact kL _ _ w1 (jw (hr.l b) sa n1) (by simp only;omega) ⟨by simp only;omega,by simp only;omega⟩ (hT.l b) (by have:=gZ (Dg.vl 4294967296 xs) 1200 x1;simp only;omega)
theorem wK {t:ak}(h1:(Dg.dg 4294967296 (bare t).n).length≤1200)(h2: -20000≤(bare t).e)(h3:(bare t).e≤20000):bU t=(bare t,0):=by
 unfold bU;rw[if_neg (by omega),if_neg (by omega)]
theorem nE {t:ak}(h:t.n≠0):t.e≤(bare t).e∧(bare t).e=t.e+tz t.n:=by
 unfold bare;rw[if_neg h];exact⟨by show t.e≤t.e+(tz t.n:Int);omega,rfl⟩
def ia (R D L G:Int)(gr:Bool)(d:Nat)(p:Int):Prop:=
 (d=0∧p=0)∨(d≠0∧L≤p∧p≤G∧d<2^ (ai R*D.toNat)∧(2^ (ai R*(D-1).toNat)≤d∨(gr=true∧p=L)))
theorem jq {d k L:Nat}(h:d<2^k)(hk:k≤32*L):(Dg.dg 4294967296 d).length≤L:=by
 refine Dg.dg_len_le 4294967296 _ _ (by omega) (Nat.lt_of_lt_of_le h ?_);rw[show(4294967296:Nat)=2^32 from by decide,←Nat.pow_mul]
 exact Nat.pow_le_pow_right (by omega) hk
theorem qj {R D L G:Int}{gr:Bool}{d:Nat}{p:Int}(hg:bk R D L G=0)(h:ia R D L G gr d p):
  (Dg.dg 4294967296 d).length≤15∧ -17000≤p∧p≤17000∧ -17000≤(ai R:Int)*p∧(ai R:Int)*p≤17000∧tz d≤480:=by
 obtain⟨hR,d1,d2,l1,l2,g1,g2,lg,l16⟩:=cB hg
 rcases h with⟨rfl,rfl⟩| ⟨h0,h1,h2,h3,-⟩
 ·refine⟨Nat.zero_le _,by omega,by omega,by simp,by simp, ?_⟩
  exact Nat.le_trans (gZ 0 0 (Nat.le_refl _)) (by omega)
 ·have hw:=Nat.mul_le_mul (eN R).2 (show D.toNat≤120 by omega)
  have hl:(Dg.dg 4294967296 d).length≤15:=jq h3 (by omega);have:=gZ d 15 hl;refine⟨hl,by omega,by omega, ?_, ?_,by omega⟩<;>(unfold ai;split<;>simp<;>omega)
theorem Af {R D L G:Int}{gr s:Bool}{d:Nat}{p:Int}(hg:bk R D L G=0)(h:ia R D L G gr d p):
  cC (ix (Dg.dg 4294967296 d) p R D L G) ⟨s,Dg.vl 4294967296 (Dg.dg 4294967296 d),(ai R:Int)*p⟩=(bare ⟨s,d,(ai R:Int)*p⟩,0):=by
 obtain⟨l,p1,p2,w1,w2,tzl⟩:=qj hg h;have hp:ix (Dg.dg 4294967296 d) p R D L G=0:=kA ((bL (nt (n:=d) (e:=0) (by omega) (by omega) (by omega))).1) hg (by unfold eJ;simp;omega);rw[hp,Dg.vl_dg _ _ (by omega)]
 show bU _=_
 refine wK ?_ ?_ ?_
 ·exact Nat.le_trans (aH _ _ d (by omega) (kR _)) (by omega)
 ·by_cases h0:d=0
  ·simp[bare,h0]
  ·have:=(nE (t:=⟨s,d,(ai R:Int)*p⟩) h0).2
   simp only at this;omega
 ·by_cases h0:d=0
  ·simp[bare,h0]
  ·have:=(nE (t:=⟨s,d,(ai R:Int)*p⟩) h0).2
   simp only at this;omega
theorem aa8 (R D L G:Int)(gr s:Bool)(ao:Option Addr)(la ca:Nat)(e c:Int)(hd:Bool)(rd:Nat)(rk:Int)(w:World)
  (HF: ∀w1,yB w w1→yC 93 #[ydV s (.slice ao la ca) e,ygV R D L G gr] w1 (DM w1 hd rd rk c)):
  yC 65 #[ydV s (.slice ao la ca) e,ygV R D L G gr] w (yR w (.tuple #[.bool hd,yi c])):=by
 replace HF:Hid _:=HF;have b1:=aa (af w (.cells (ydA s (.slice ao la ca) e) 86)) (af _ (.cells (ygA R D L G gr) 26));have q1:=(ah w (ydL s (.slice ao la ca) e) 86).l (af _ (.cells (ygA R D L G gr) 26));have g1:=ah (w.alloc (.cells (ydA s (.slice ao la ca) e) 86)) (ygL R D L G gr) 26;simp only[World.size_alloc] at g1;obtain⟨x0,x1,x2,x3,x4⟩:=g1.cs5;obtain⟨y0,y1,y2⟩:=q1.cs3
 go_enter func65,ntmps65
 go_wp2_with fail
 refine(HF.out _ b1).mono ?_;rintro z w2 ⟨u,rfl,ou,bb2⟩;obtain⟨so,sc,hu⟩:=ou.rd.shape;subst hu;clear ou x0 x1 x2 x3 x4 y0 y1 y2;have b2:=aa b1 bb2;have b3:=aa b2 (af w2 (.cells #[yT so rd sc,yi rk] 168))
 go_wp2
 go_ret2
 exact⟨rfl,b3⟩
theorem qR (R D L G:Int)(gr s:Bool)(ao:Option Addr)(ca:Nat)(xs:List Nat)(e:Int)(w:World)(hr:Rd w .u32 (.slice ao xs.length ca) xs)(sa:Dg.Small 4294967296 xs)(hT:Tab w):
  yC 65 #[ydV s (.slice ao xs.length ca) e,ygV R D L G gr] w (yR w (.tuple #[.bool (um xs e R D L G gr),yi (onC (aS xs e) (bk R D L G))])):=
 aa8 R D L G gr s ao _ ca e _ _ _ _ w (fun w1 b=>Ja R D L G gr s ao ca xs e w1 (hr.l b) sa (hT.l b))
theorem nN {R D L G:Int}(gr:Bool)(t:ak)(hLG:L≤G):dA R D L G gr (bare t).n (bare t).e=dA R D L G gr t.n t.e:=by
 rw[←jK gr t hLG,←jK gr (bare t) hLG,iH]
theorem mI {R D L G:Int}{gr s:Bool}{d:Nat}{p:Int}(hg:bk R D L G=0)(h:ia R D L G gr d p):dA R D L G gr (bare ⟨s,d,(ai R:Int)*p⟩).n (bare ⟨s,d,(ai R:Int)*p⟩).e=true:=by
 obtain⟨-,d1,-,-,-,-,-,lg,-⟩:=cB hg;rw[nN gr _ lg]
 rcases h with⟨rfl,rfl⟩| ⟨h0,h1,h2,h3,h4⟩
 ·exact tO R D L G gr _
 ·rw[tN d1 h3 h1 h4 h0]
  exact decide_eq_true h2
theorem vU (n:Int)(w:World)(h:dK n=0):yC 63 #[yi n] w (yR w (.tuple #[ygV 0 0 0 0 false,yi 6])):=by
 have HL:Hid (yJ 70 #[yi n] (.tuple #[yzV 0 0 0 0 false 0 0 0,yi 6])):=fun w1=>lR n w1 h
 have hsf:=cD;have hsn:=gn;have l0:=ah w (ygL 0 0 0 0 false) 26;have b0:=af w (.cells (ygA 0 0 0 0 false) 26)
 go_enter func63,ntmps63
 go_wp2_with fail
 refine(HL.out _).mono ?_;rintro z w2 ⟨rfl,b2⟩;have l3:=(l0.l b2).l (af w2 (.cells (yzA 0 0 0 0 false 0 0 0) 131));have cR:au ((((((w2.alloc (.cells (yzA 0 0 0 0 false 0 0 0) 131)).setCell ⟨w.heap.size,0,none⟩ (yi 0)).setCell ⟨w.heap.size,1,none⟩ (yi 0)).setCell ⟨w.heap.size,2,none⟩ (yi 0)).setCell ⟨w.heap.size,3,none⟩ (yi 0)).setCell ⟨w.heap.size,4,none⟩ (.bool false)) w.heap.size 26 (ygL 0 0 0 0 false):=(((((l3.set 0 (yi 0)).set 1 (yi 0)).set 2 (yi 0)).set 3 (yi 0)).set 4 (.bool false));have bR:=(((((ag (w2.alloc (.cells (yzA 0 0 0 0 false 0 0 0) 131)) w.heap.size 0 (yi 0)).trans (ag _ w.heap.size 1 (yi 0))).trans (ag _ w.heap.size 2 (yi 0))).trans (ag _ w.heap.size 3 (yi 0))).trans (ag _ w.heap.size 4 (.bool false))).below (aa (aa b0 b2) (af w2 (.cells (yzA 0 0 0 0 false 0 0 0) 131))) (Nat.le_refl _);have hl:=run_loadVar_mid (P:=Tryz.prog) _ w.heap.size 0 26 (ygL 0 0 0 0 false) _ cR.range underlying26 rfl (by kernel_rfl);have HH:Hid (_∧_):=⟨hl,bR⟩;have x0:=l3.c 0 rfl;have f0:=l3.f 0;have x1:=l3.c 1 rfl;have f1:=l3.f 1;have x2:=l3.c 2 rfl;have f2:=l3.f 2;have x3:=l3.c 3 rfl;have f3:=l3.f 3;have x4:=l3.c 4 rfl;have f4:=l3.f 4;have hne:w2.heap.size≠w.heap.size:=Nat.ne_of_gt (l0.l b2).lt;clear hl bR cR l0 l3 b0 b2 HL
 go_wp2
 obtain⟨hl,bR⟩:=HH.out;exact bodyPost_ret (aj results63 rfl rfl hl) rfl ⟨rfl,bR⟩
theorem SN (w:World):yC 63 #[yi 1] w (yR w (.tuple #[ygV 2 24 (-149) 104 true,yi 0])):=by
 have HL:Hid (yJ 70 #[yi 1] (.tuple #[.agg #[yi 2,yi 24,yi (-149),yi 104,.bool true,yi 4,yi 8,yi 1,.func (.func 132) #[] #[]],yi 0])):=fun w1=>uU w1
 have hsf:=cD;have hsn:=gn;have l0:=ah w (ygL 0 0 0 0 false) 26;have b0:=af w (.cells (ygA 0 0 0 0 false) 26)
 go_enter func63,ntmps63
 go_wp2_with fail
 refine(HL.out _).mono ?_;rintro z w2 ⟨rfl,b2⟩;have l3:=(l0.l b2).l (af w2 (.cells #[yi 2,yi 24,yi (-149),yi 104,.bool true,yi 4,yi 8,yi 1,.func (.func 132) #[] #[]] 131));have cR:au ((((((w2.alloc (.cells #[yi 2,yi 24,yi (-149),yi 104,.bool true,yi 4,yi 8,yi 1,.func (.func 132) #[] #[]] 131)).setCell ⟨w.heap.size,0,none⟩ (yi 2)).setCell ⟨w.heap.size,1,none⟩ (yi 24)).setCell ⟨w.heap.size,2,none⟩ (yi (-149))).setCell ⟨w.heap.size,3,none⟩ (yi 104)).setCell ⟨w.heap.size,4,none⟩ (.bool true)) w.heap.size 26 (ygL 2 24 (-149) 104 true):=(((((l3.set 0 (yi 2)).set 1 (yi 24)).set 2 (yi (-149))).set 3 (yi 104)).set 4 (.bool true));have bR:=(((((ag (w2.alloc (.cells #[yi 2,yi 24,yi (-149),yi 104,.bool true,yi 4,yi 8,yi 1,.func (.func 132) #[] #[]] 131)) w.heap.size 0 (yi 2)).trans (ag _ w.heap.size 1 (yi 24))).trans (ag _ w.heap.size 2 (yi (-149)))).trans (ag _ w.heap.size 3 (yi 104))).trans (ag _ w.heap.size 4 (.bool true))).below (aa (aa b0 b2) (af w2 (.cells #[yi 2,yi 24,yi (-149),yi 104,.bool true,yi 4,yi 8,yi 1,.func (.func 132) #[] #[]] 131))) (Nat.le_refl _);have hl:=run_loadVar_mid (P:=Tryz.prog) _ w.heap.size 0 26 (ygL 2 24 (-149) 104 true) _ cR.range underlying26 rfl (by kernel_rfl);have HH:Hid (_∧_):=⟨hl,bR⟩;have x0:=l3.c 0 rfl;have f0:=l3.f 0;have x1:=l3.c 1 rfl;have f1:=l3.f 1;have x2:=l3.c 2 rfl;have f2:=l3.f 2;have x3:=l3.c 3 rfl;have f3:=l3.f 3;have x4:=l3.c 4 rfl;have f4:=l3.f 4;have hne:w2.heap.size≠w.heap.size:=Nat.ne_of_gt (l0.l b2).lt;clear hl bR cR l0 l3 b0 b2 HL
 go_wp2
 obtain⟨hl,bR⟩:=HH.out;exact bodyPost_ret (aj results63 rfl rfl hl) rfl ⟨rfl,bR⟩
theorem SO (w:World):yC 63 #[yi 2] w (yR w (.tuple #[ygV 2 53 (-1074) 971 true,yi 0])):=by
 have HL:Hid (yJ 70 #[yi 2] (.tuple #[.agg #[yi 2,yi 53,yi (-1074),yi 971,.bool true,yi 8,yi 11,yi 1,.func (.func 132) #[] #[]],yi 0])):=fun w1=>uV w1
 have hsf:=cD;have hsn:=gn;have l0:=ah w (ygL 0 0 0 0 false) 26;have b0:=af w (.cells (ygA 0 0 0 0 false) 26)
 go_enter func63,ntmps63
 go_wp2_with fail
 refine(HL.out _).mono ?_;rintro z w2 ⟨rfl,b2⟩;have l3:=(l0.l b2).l (af w2 (.cells #[yi 2,yi 53,yi (-1074),yi 971,.bool true,yi 8,yi 11,yi 1,.func (.func 132) #[] #[]] 131));have cR:au ((((((w2.alloc (.cells #[yi 2,yi 53,yi (-1074),yi 971,.bool true,yi 8,yi 11,yi 1,.func (.func 132) #[] #[]] 131)).setCell ⟨w.heap.size,0,none⟩ (yi 2)).setCell ⟨w.heap.size,1,none⟩ (yi 53)).setCell ⟨w.heap.size,2,none⟩ (yi (-1074))).setCell ⟨w.heap.size,3,none⟩ (yi 971)).setCell ⟨w.heap.size,4,none⟩ (.bool true)) w.heap.size 26 (ygL 2 53 (-1074) 971 true):=(((((l3.set 0 (yi 2)).set 1 (yi 53)).set 2 (yi (-1074))).set 3 (yi 971)).set 4 (.bool true));have bR:=(((((ag (w2.alloc (.cells #[yi 2,yi 53,yi (-1074),yi 971,.bool true,yi 8,yi 11,yi 1,.func (.func 132) #[] #[]] 131)) w.heap.size 0 (yi 2)).trans (ag _ w.heap.size 1 (yi 53))).trans (ag _ w.heap.size 2 (yi (-1074)))).trans (ag _ w.heap.size 3 (yi 971))).trans (ag _ w.heap.size 4 (.bool true))).below (aa (aa b0 b2) (af w2 (.cells #[yi 2,yi 53,yi (-1074),yi 971,.bool true,yi 8,yi 11,yi 1,.func (.func 132) #[] #[]] 131))) (Nat.le_refl _);have hl:=run_loadVar_mid (P:=Tryz.prog) _ w.heap.size 0 26 (ygL 2 53 (-1074) 971 true) _ cR.range underlying26 rfl (by kernel_rfl);have HH:Hid (_∧_):=⟨hl,bR⟩;have x0:=l3.c 0 rfl;have f0:=l3.f 0;have x1:=l3.c 1 rfl;have f1:=l3.f 1;have x2:=l3.c 2 rfl;have f2:=l3.f 2;have x3:=l3.c 3 rfl;have f3:=l3.f 3;have x4:=l3.c 4 rfl;have f4:=l3.f 4;have hne:w2.heap.size≠w.heap.size:=Nat.ne_of_gt (l0.l b2).lt;clear hl bR cR l0 l3 b0 b2 HL
 go_wp2
 obtain⟨hl,bR⟩:=HH.out;exact bodyPost_ret (aj results63 rfl rfl hl) rfl ⟨rfl,bR⟩
theorem SP (w:World):yC 63 #[yi 3] w (yR w (.tuple #[ygV 2 64 (-16445) 16320 true,yi 0])):=by
 have HL:Hid (yJ 70 #[yi 3] (.tuple #[.agg #[yi 2,yi 64,yi (-16445),yi 16320,.bool true,yi 10,yi 15,yi 1,.func (.func 133) #[] #[]],yi 0])):=fun w1=>uW w1
 have hsf:=cD;have hsn:=gn;have l0:=ah w (ygL 0 0 0 0 false) 26;have b0:=af w (.cells (ygA 0 0 0 0 false) 26)
 go_enter func63,ntmps63
 go_wp2_with fail
 refine(HL.out _).mono ?_;rintro z w2 ⟨rfl,b2⟩;have l3:=(l0.l b2).l (af w2 (.cells #[yi 2,yi 64,yi (-16445),yi 16320,.bool true,yi 10,yi 15,yi 1,.func (.func 133) #[] #[]] 131));have cR:au ((((((w2.alloc (.cells #[yi 2,yi 64,yi (-16445),yi 16320,.bool true,yi 10,yi 15,yi 1,.func (.func 133) #[] #[]] 131)).setCell ⟨w.heap.size,0,none⟩ (yi 2)).setCell ⟨w.heap.size,1,none⟩ (yi 64)).setCell ⟨w.heap.size,2,none⟩ (yi (-16445))).setCell ⟨w.heap.size,3,none⟩ (yi 16320)).setCell ⟨w.heap.size,4,none⟩ (.bool true)) w.heap.size 26 (ygL 2 64 (-16445) 16320 true):=(((((l3.set 0 (yi 2)).set 1 (yi 64)).set 2 (yi (-16445))).set 3 (yi 16320)).set 4 (.bool true));have bR:=(((((ag (w2.alloc (.cells #[yi 2,yi 64,yi (-16445),yi 16320,.bool true,yi 10,yi 15,yi 1,.func (.func 133) #[] #[]] 131)) w.heap.size 0 (yi 2)).trans (ag _ w.heap.size 1 (yi 64))).trans (ag _ w.heap.size 2 (yi (-16445)))).trans (ag _ w.heap.size 3 (yi 16320))).trans (ag _ w.heap.size 4 (.bool true))).below (aa (aa b0 b2) (af w2 (.cells #[yi 2,yi 64,yi (-16445),yi 16320,.bool true,yi 10,yi 15,yi 1,.func (.func 133) #[] #[]] 131))) (Nat.le_refl _);have hl:=run_loadVar_mid (P:=Tryz.prog) _ w.heap.size 0 26 (ygL 2 64 (-16445) 16320 true) _ cR.range underlying26 rfl (by kernel_rfl);have HH:Hid (_∧_):=⟨hl,bR⟩;have x0:=l3.c 0 rfl;have f0:=l3.f 0;have x1:=l3.c 1 rfl;have f1:=l3.f 1;have x2:=l3.c 2 rfl;have f2:=l3.f 2;have x3:=l3.c 3 rfl;have f3:=l3.f 3;have x4:=l3.c 4 rfl;have f4:=l3.f 4;have hne:w2.heap.size≠w.heap.size:=Nat.ne_of_gt (l0.l b2).lt;clear hl bR cR l0 l3 b0 b2 HL
 go_wp2
 obtain⟨hl,bR⟩:=HH.out;exact bodyPost_ret (aj results63 rfl rfl hl) rfl ⟨rfl,bR⟩
theorem SQ (w:World):yC 63 #[yi 4] w (yR w (.tuple #[ygV 16 6 (-70) 57 false,yi 0])):=by
 have HL:Hid (yJ 70 #[yi 4] (.tuple #[.agg #[yi 16,yi 6,yi (-70),yi 57,.bool false,yi 4,yi 7,yi 2,.func (.func 132) #[] #[]],yi 0])):=fun w1=>uX w1
 have hsf:=cD;have hsn:=gn;have l0:=ah w (ygL 0 0 0 0 false) 26;have b0:=af w (.cells (ygA 0 0 0 0 false) 26)
 go_enter func63,ntmps63
 go_wp2_with fail
 refine(HL.out _).mono ?_;rintro z w2 ⟨rfl,b2⟩;have l3:=(l0.l b2).l (af w2 (.cells #[yi 16,yi 6,yi (-70),yi 57,.bool false,yi 4,yi 7,yi 2,.func (.func 132) #[] #[]] 131));have cR:au ((((((w2.alloc (.cells #[yi 16,yi 6,yi (-70),yi 57,.bool false,yi 4,yi 7,yi 2,.func (.func 132) #[] #[]] 131)).setCell ⟨w.heap.size,0,none⟩ (yi 16)).setCell ⟨w.heap.size,1,none⟩ (yi 6)).setCell ⟨w.heap.size,2,none⟩ (yi (-70))).setCell ⟨w.heap.size,3,none⟩ (yi 57)).setCell ⟨w.heap.size,4,none⟩ (.bool false)) w.heap.size 26 (ygL 16 6 (-70) 57 false):=(((((l3.set 0 (yi 16)).set 1 (yi 6)).set 2 (yi (-70))).set 3 (yi 57)).set 4 (.bool false));have bR:=(((((ag (w2.alloc (.cells #[yi 16,yi 6,yi (-70),yi 57,.bool false,yi 4,yi 7,yi 2,.func (.func 132) #[] #[]] 131)) w.heap.size 0 (yi 16)).trans (ag _ w.heap.size 1 (yi 6))).trans (ag _ w.heap.size 2 (yi (-70)))).trans (ag _ w.heap.size 3 (yi 57))).trans (ag _ w.heap.size 4 (.bool false))).below (aa (aa b0 b2) (af w2 (.cells #[yi 16,yi 6,yi (-70),yi 57,.bool false,yi 4,yi 7,yi 2,.func (.func 132) #[] #[]] 131))) (Nat.le_refl _);have hl:=run_loadVar_mid (P:=Tryz.prog) _ w.heap.size 0 26 (ygL 16 6 (-70) 57 false) _ cR.range underlying26 rfl (by kernel_rfl);have HH:Hid (_∧_):=⟨hl,bR⟩;have x0:=l3.c 0 rfl;have f0:=l3.f 0;have x1:=l3.c 1 rfl;have f1:=l3.f 1;have x2:=l3.c 2 rfl;have f2:=l3.f 2;have x3:=l3.c 3 rfl;have f3:=l3.f 3;have x4:=l3.c 4 rfl;have f4:=l3.f 4;have hne:w2.heap.size≠w.heap.size:=Nat.ne_of_gt (l0.l b2).lt;clear hl bR cR l0 l3 b0 b2 HL
 go_wp2
 obtain⟨hl,bR⟩:=HH.out;exact bodyPost_ret (aj results63 rfl rfl hl) rfl ⟨rfl,bR⟩
theorem SR (w:World):yC 63 #[yi 5] w (yR w (.tuple #[ygV 16 14 (-78) 49 false,yi 0])):=by
 have HL:Hid (yJ 70 #[yi 5] (.tuple #[.agg #[yi 16,yi 14,yi (-78),yi 49,.bool false,yi 8,yi 7,yi 2,.func (.func 132) #[] #[]],yi 0])):=fun w1=>uY w1
 have hsf:=cD;have hsn:=gn;have l0:=ah w (ygL 0 0 0 0 false) 26;have b0:=af w (.cells (ygA 0 0 0 0 false) 26)
 go_enter func63,ntmps63
 go_wp2_with fail
 refine(HL.out _).mono ?_;rintro z w2 ⟨rfl,b2⟩;have l3:=(l0.l b2).l (af w2 (.cells #[yi 16,yi 14,yi (-78),yi 49,.bool false,yi 8,yi 7,yi 2,.func (.func 132) #[] #[]] 131));have cR:au ((((((w2.alloc (.cells #[yi 16,yi 14,yi (-78),yi 49,.bool false,yi 8,yi 7,yi 2,.func (.func 132) #[] #[]] 131)).setCell ⟨w.heap.size,0,none⟩ (yi 16)).setCell ⟨w.heap.size,1,none⟩ (yi 14)).setCell ⟨w.heap.size,2,none⟩ (yi (-78))).setCell ⟨w.heap.size,3,none⟩ (yi 49)).setCell ⟨w.heap.size,4,none⟩ (.bool false)) w.heap.size 26 (ygL 16 14 (-78) 49 false):=(((((l3.set 0 (yi 16)).set 1 (yi 14)).set 2 (yi (-78))).set 3 (yi 49)).set 4 (.bool false));have bR:=(((((ag (w2.alloc (.cells #[yi 16,yi 14,yi (-78),yi 49,.bool false,yi 8,yi 7,yi 2,.func (.func 132) #[] #[]] 131)) w.heap.size 0 (yi 16)).trans (ag _ w.heap.size 1 (yi 14))).trans (ag _ w.heap.size 2 (yi (-78)))).trans (ag _ w.heap.size 3 (yi 49))).trans (ag _ w.heap.size 4 (.bool false))).below (aa (aa b0 b2) (af w2 (.cells #[yi 16,yi 14,yi (-78),yi 49,.bool false,yi 8,yi 7,yi 2,.func (.func 132) #[] #[]] 131))) (Nat.le_refl _);have hl:=run_loadVar_mid (P:=Tryz.prog) _ w.heap.size 0 26 (ygL 16 14 (-78) 49 false) _ cR.range underlying26 rfl (by kernel_rfl);have HH:Hid (_∧_):=⟨hl,bR⟩;have x0:=l3.c 0 rfl;have f0:=l3.f 0;have x1:=l3.c 1 rfl;have f1:=l3.f 1;have x2:=l3.c 2 rfl;have f2:=l3.f 2;have x3:=l3.c 3 rfl;have f3:=l3.f 3;have x4:=l3.c 4 rfl;have f4:=l3.f 4;have hne:w2.heap.size≠w.heap.size:=Nat.ne_of_gt (l0.l b2).lt;clear hl bR cR l0 l3 b0 b2 HL
 go_wp2
 obtain⟨hl,bR⟩:=HH.out;exact bodyPost_ret (aj results63 rfl rfl hl) rfl ⟨rfl,bR⟩
theorem SS (w:World):yC 63 #[yi 6] w (yR w (.tuple #[ygV 2 24 (-151) 103 false,yi 0])):=by
 have HL:Hid (yJ 70 #[yi 6] (.tuple #[.agg #[yi 2,yi 24,yi (-151),yi 103,.bool false,yi 4,yi 8,yi 3,.func (.func 135) #[] #[]],yi 0])):=fun w1=>uZ w1
 have hsf:=cD;have hsn:=gn;have l0:=ah w (ygL 0 0 0 0 false) 26;have b0:=af w (.cells (ygA 0 0 0 0 false) 26)
 go_enter func63,ntmps63
 go_wp2_with fail
 refine(HL.out _).mono ?_;rintro z w2 ⟨rfl,b2⟩;have l3:=(l0.l b2).l (af w2 (.cells #[yi 2,yi 24,yi (-151),yi 103,.bool false,yi 4,yi 8,yi 3,.func (.func 135) #[] #[]] 131));have cR:au ((((((w2.alloc (.cells #[yi 2,yi 24,yi (-151),yi 103,.bool false,yi 4,yi 8,yi 3,.func (.func 135) #[] #[]] 131)).setCell ⟨w.heap.size,0,none⟩ (yi 2)).setCell ⟨w.heap.size,1,none⟩ (yi 24)).setCell ⟨w.heap.size,2,none⟩ (yi (-151))).setCell ⟨w.heap.size,3,none⟩ (yi 103)).setCell ⟨w.heap.size,4,none⟩ (.bool false)) w.heap.size 26 (ygL 2 24 (-151) 103 false):=(((((l3.set 0 (yi 2)).set 1 (yi 24)).set 2 (yi (-151))).set 3 (yi 103)).set 4 (.bool false));have bR:=(((((ag (w2.alloc (.cells #[yi 2,yi 24,yi (-151),yi 103,.bool false,yi 4,yi 8,yi 3,.func (.func 135) #[] #[]] 131)) w.heap.size 0 (yi 2)).trans (ag _ w.heap.size 1 (yi 24))).trans (ag _ w.heap.size 2 (yi (-151)))).trans (ag _ w.heap.size 3 (yi 103))).trans (ag _ w.heap.size 4 (.bool false))).below (aa (aa b0 b2) (af w2 (.cells #[yi 2,yi 24,yi (-151),yi 103,.bool false,yi 4,yi 8,yi 3,.func (.func 135) #[] #[]] 131))) (Nat.le_refl _);have hl:=run_loadVar_mid (P:=Tryz.prog) _ w.heap.size 0 26 (ygL 2 24 (-151) 103 false) _ cR.range underlying26 rfl (by kernel_rfl);have HH:Hid (_∧_):=⟨hl,bR⟩;have x0:=l3.c 0 rfl;have f0:=l3.f 0;have x1:=l3.c 1 rfl;have f1:=l3.f 1;have x2:=l3.c 2 rfl;have f2:=l3.f 2;have x3:=l3.c 3 rfl;have f3:=l3.f 3;have x4:=l3.c 4 rfl;have f4:=l3.f 4;have hne:w2.heap.size≠w.heap.size:=Nat.ne_of_gt (l0.l b2).lt;clear hl bR cR l0 l3 b0 b2 HL
 go_wp2
 obtain⟨hl,bR⟩:=HH.out;exact bodyPost_ret (aj results63 rfl rfl hl) rfl ⟨rfl,bR⟩
theorem ST (w:World):yC 63 #[yi 7] w (yR w (.tuple #[ygV 2 56 (-183) 71 false,yi 0])):=by
 have HL:Hid (yJ 70 #[yi 7] (.tuple #[.agg #[yi 2,yi 56,yi (-183),yi 71,.bool false,yi 8,yi 8,yi 3,.func (.func 135) #[] #[]],yi 0])):=fun w1=>vf w1
 have hsf:=cD;have hsn:=gn;have l0:=ah w (ygL 0 0 0 0 false) 26;have b0:=af w (.cells (ygA 0 0 0 0 false) 26)
 go_enter func63,ntmps63
 go_wp2_with fail
 refine(HL.out _).mono ?_;rintro z w2 ⟨rfl,b2⟩;have l3:=(l0.l b2).l (af w2 (.cells #[yi 2,yi 56,yi (-183),yi 71,.bool false,yi 8,yi 8,yi 3,.func (.func 135) #[] #[]] 131));have cR:au ((((((w2.alloc (.cells #[yi 2,yi 56,yi (-183),yi 71,.bool false,yi 8,yi 8,yi 3,.func (.func 135) #[] #[]] 131)).setCell ⟨w.heap.size,0,none⟩ (yi 2)).setCell ⟨w.heap.size,1,none⟩ (yi 56)).setCell ⟨w.heap.size,2,none⟩ (yi (-183))).setCell ⟨w.heap.size,3,none⟩ (yi 71)).setCell ⟨w.heap.size,4,none⟩ (.bool false)) w.heap.size 26 (ygL 2 56 (-183) 71 false):=(((((l3.set 0 (yi 2)).set 1 (yi 56)).set 2 (yi (-183))).set 3 (yi 71)).set 4 (.bool false));have bR:=(((((ag (w2.alloc (.cells #[yi 2,yi 56,yi (-183),yi 71,.bool false,yi 8,yi 8,yi 3,.func (.func 135) #[] #[]] 131)) w.heap.size 0 (yi 2)).trans (ag _ w.heap.size 1 (yi 56))).trans (ag _ w.heap.size 2 (yi (-183)))).trans (ag _ w.heap.size 3 (yi 71))).trans (ag _ w.heap.size 4 (.bool false))).below (aa (aa b0 b2) (af w2 (.cells #[yi 2,yi 56,yi (-183),yi 71,.bool false,yi 8,yi 8,yi 3,.func (.func 135) #[] #[]] 131))) (Nat.le_refl _);have hl:=run_loadVar_mid (P:=Tryz.prog) _ w.heap.size 0 26 (ygL 2 56 (-183) 71 false) _ cR.range underlying26 rfl (by kernel_rfl);have HH:Hid (_∧_):=⟨hl,bR⟩;have x0:=l3.c 0 rfl;have f0:=l3.f 0;have x1:=l3.c 1 rfl;have f1:=l3.f 1;have x2:=l3.c 2 rfl;have f2:=l3.f 2;have x3:=l3.c 3 rfl;have f3:=l3.f 3;have x4:=l3.c 4 rfl;have f4:=l3.f 4;have hne:w2.heap.size≠w.heap.size:=Nat.ne_of_gt (l0.l b2).lt;clear hl bR cR l0 l3 b0 b2 HL
 go_wp2
 obtain⟨hl,bR⟩:=HH.out;exact bodyPost_ret (aj results63 rfl rfl hl) rfl ⟨rfl,bR⟩
theorem SU (w:World):yC 63 #[yi 8] w (yR w (.tuple #[ygV 2 53 (-1076) 970 false,yi 0])):=by
 have HL:Hid (yJ 70 #[yi 8] (.tuple #[.agg #[yi 2,yi 53,yi (-1076),yi 970,.bool false,yi 8,yi 11,yi 3,.func (.func 135) #[] #[]],yi 0])):=fun w1=>vh w1
 have hsf:=cD;have hsn:=gn;have l0:=ah w (ygL 0 0 0 0 false) 26;have b0:=af w (.cells (ygA 0 0 0 0 false) 26)
 go_enter func63,ntmps63
 go_wp2_with fail
 refine(HL.out _).mono ?_;rintro z w2 ⟨rfl,b2⟩;have l3:=(l0.l b2).l (af w2 (.cells #[yi 2,yi 53,yi (-1076),yi 970,.bool false,yi 8,yi 11,yi 3,.func (.func 135) #[] #[]] 131));have cR:au ((((((w2.alloc (.cells #[yi 2,yi 53,yi (-1076),yi 970,.bool false,yi 8,yi 11,yi 3,.func (.func 135) #[] #[]] 131)).setCell ⟨w.heap.size,0,none⟩ (yi 2)).setCell ⟨w.heap.size,1,none⟩ (yi 53)).setCell ⟨w.heap.size,2,none⟩ (yi (-1076))).setCell ⟨w.heap.size,3,none⟩ (yi 970)).setCell ⟨w.heap.size,4,none⟩ (.bool false)) w.heap.size 26 (ygL 2 53 (-1076) 970 false):=(((((l3.set 0 (yi 2)).set 1 (yi 53)).set 2 (yi (-1076))).set 3 (yi 970)).set 4 (.bool false));have bR:=(((((ag (w2.alloc (.cells #[yi 2,yi 53,yi (-1076),yi 970,.bool false,yi 8,yi 11,yi 3,.func (.func 135) #[] #[]] 131)) w.heap.size 0 (yi 2)).trans (ag _ w.heap.size 1 (yi 53))).trans (ag _ w.heap.size 2 (yi (-1076)))).trans (ag _ w.heap.size 3 (yi 970))).trans (ag _ w.heap.size 4 (.bool false))).below (aa (aa b0 b2) (af w2 (.cells #[yi 2,yi 53,yi (-1076),yi 970,.bool false,yi 8,yi 11,yi 3,.func (.func 135) #[] #[]] 131))) (Nat.le_refl _);have hl:=run_loadVar_mid (P:=Tryz.prog) _ w.heap.size 0 26 (ygL 2 53 (-1076) 970 false) _ cR.range underlying26 rfl (by kernel_rfl);have HH:Hid (_∧_):=⟨hl,bR⟩;have x0:=l3.c 0 rfl;have f0:=l3.f 0;have x1:=l3.c 1 rfl;have f1:=l3.f 1;have x2:=l3.c 2 rfl;have f2:=l3.f 2;have x3:=l3.c 3 rfl;have f3:=l3.f 3;have x4:=l3.c 4 rfl;have f4:=l3.f 4;have hne:w2.heap.size≠w.heap.size:=Nat.ne_of_gt (l0.l b2).lt;clear hl bR cR l0 l3 b0 b2 HL
 go_wp2
 obtain⟨hl,bR⟩:=HH.out;exact bodyPost_ret (aj results63 rfl rfl hl) rfl ⟨rfl,bR⟩
end Go.Proofs.YtpainhklfoaniaaGreatDoor
