/-
  Texts laid together: Co9, Co11, Gh2, Gn2, Gh6, Co20, Ce5, Cv9.
-/
import Derived.Test.YtddkchlamdhgcaaGreatDoorSu23
import Derived.Test.YtddkchlamdhgcaaGreatDoorSu24
import Derived.Test.YtddkchlamdhgcaaGreatDoorSu26
set_option maxRecDepth 100000
set_option maxHeartbeats 6400000
namespace Go.Proofs.YtddkchlamdhgcaaGreatDoor
open _root_.Go.Proofs.Tryz
open Go.RowKit
theorem gj (k:Nat)(hk:1≤k∧k≤8)(w:World):yC 124 #[.agg (tS k).toArray] w (yR w (.int .u64 ((wrN k:Nat):Int))):=by
 have HF:=fun w1=>tm k hk w1
 have HL:=fun w1=>xX k hk w1
 rcases bO hk with rfl|rfl|rfl|rfl|rfl|rfl|rfl|rfl
 all_goals first|exact L6 _ _ _ _ _ _ _ _ _ _ w (by decide) HF|exact L7 _ _ _ _ _ _ _ _ _ _ _ w (by decide) HF HL
theorem zD (R D L G fam sz ex:Int)(gr ng:Bool)(F:Nat)(e f:Int)(w:World)(c:Int)(h0:e=0)(hc:(if f=0 then 1 else 2)=c):yC 112 #[ylV R D L G gr sz ex fam F,yfV ng e f] w (yR w (yi c)):=by
 have hsf:=cD;have l0:=(ah w (ylL R D L G gr sz ex fam F) 116).l (af _ (.cells (yfA ng e f) 119));have m0:=ah (w.alloc (.cells (ylA R D L G gr sz ex fam F) 116)) (yfL ng e f) 119;have b0:=aa (af w (.cells (ylA R D L G gr sz ex fam F) 116)) (af _ (.cells (yfA ng e f) 119));rw[World.size_alloc] at m0;subst h0 hc;have hz:=fun b=>Aj b
 by_cases hf:f=0
 ·subst hf
  have HZ:Hid (∀w1,yC 113 #[.bool true] w1 fun z w'=>z= .returned (yi 1)∧w'=w1):=hz true
  clear hz
  go_enter func112,ntmps112
  go_wp2_with fail
  refine(HZ.out _).mono ?_;rintro z w1 ⟨rfl,rfl⟩
  go_wp2
  go_ret
  exact⟨rfl,b0⟩
 ·have hfb:(f==0)=false:=by simpa using hf
  have HZ:Hid (∀w1,yC 113 #[.bool false] w1 fun z w'=>z= .returned (yi 2)∧w'=w1):=hz false
  rw[if_neg hf];clear hz hf
  go_enter func112,ntmps112
  go_wp2_with fail
  refine(HZ.out _).mono ?_;rintro z w1 ⟨rfl,rfl⟩
  go_wp2
  go_ret
  exact⟨rfl,b0⟩
theorem VU (R D L G:Int)(gr s:Bool)(ao:Option Addr)(ca n:Nat)(e:Int)(w:World)(hg:bk R D L G=0)(hr:Rd w .u32 (.slice ao (Dg.dg 4294967296 n).length ca) (Dg.dg 4294967296 n))(hl:(Dg.dg 4294967296 n).length≤1200)(e1: -20000≤e)(e2:e≤20000)(hT:Tab w):
  Calls Tryz.prog 108 #[.agg #[.int .i64 R,.int .i64 D,.int .i64 L,.int .i64 G,.bool gr],.agg #[.bool s,.slice ao (Dg.dg 4294967296 n).length ca,.int .i64 e]] w (D7 w (dA R D L G gr n e) (fD R D L G gr n e) (fK R D L G gr n e)):=by
 have hdv:Dv w (.agg #[.bool s,.slice ao (Dg.dg 4294967296 n).length ca,.int .i64 e]) ⟨s,n,e⟩:=⟨_,rfl,hr⟩;obtain⟨hR,d1,d2,l1,l2,g1,g2,lg,l16⟩:=cB hg
 by_cases h0:n=0
 ·have hh:dA R D L G gr n e=true:=decide_eq_true (.inl h0)
  rw[hh,show fD R D L G gr n e=0 from if_pos h0,show fK R D L G gr n e=L from if_pos h0]
  refine RT R D L G gr s ao _ ca e w (fun w1 b=> ?_)
  have:=qB _ _ w1 (hdv.l b)
  rwa [show dJ ⟨s,n,e⟩=0 from if_pos h0] at this
 ·have hbn:bitLen n≤32*1200:=oP hl
  have htz:=gZ n 1200 hl;obtain⟨k1,k2,k3,k4⟩:=Og (gr:=gr) (n:=n) (e:=e) hg (by omega) (by omega) (by omega);have hbe:(bare ⟨s,n,e⟩).e=e+(tz n:Int):=(gN (t:=⟨s,n,e⟩) h0).2.1;obtain⟨⟨bs,bn,be⟩,hbt⟩: ∃b,bare ⟨s,n,e⟩=b:=⟨_,rfl⟩;rw[hbt] at hbe;simp only at hbe;have hi:=GK (R:=R) (D:=D) (L:=L) (G:=G) (gr:=gr) (e:=e) h0;refine adT R D L G gr s ao _ ca e (dJ ⟨s,n,e⟩) (bitLen n) (aT R D ((bitLen n:Int)-1+e)) (cP R D L gr n e) (ai R) bs bn be (decide (aT R D ((bitLen n:Int)-1+e)<L)) (decide (aT R D ((bitLen n:Int)-1+e)<L)&&gr) (dA R D L G gr n e) (fD R D L G gr n e) (fK R D L G gr n e) w ?_ ?_ ?_ ?_ ?_ rfl rfl ?_ ?_ ?_ ?_ ?_ ?_ ?_ ?_ ?_ ?_ ?_ ?_ ?_
  ·have:dJ ⟨s,n,e⟩≠0:=by
    unfold dJ;rw[if_neg h0]
    split<;>decide
   simpa using this
  ·exact IntWalk.i64_in _ ⟨by omega,by omega⟩
  ·exact IntWalk.i64_in _ ⟨by omega,by omega⟩
  ·exact IntWalk.i64_in _ ⟨by omega,by omega⟩
  ·exact IntWalk.i64_in _ ⟨by omega,by omega⟩
  ·intro h
   exact if_pos h
  ·intro h
   exact if_neg (by rw[h];decide)
  ·intro h
   have:=hi.1 h;omega
  ·intro h
   have: ¬(L≤cP R D L gr n e∧cP R D L gr n e≤G∧(ai R:Int)*cP R D L gr n e≤e+(tz n:Int)):=fun c=>by
    rw[hi.2 c] at h
    cases h
   omega
  ·intro h
   exact(if_neg h0).trans (if_pos h)
  ·intro h
   have h2: ¬dA R D L G gr n e=true:=by rw[h];decide
   exact⟨(if_neg h0).trans (if_neg h2),(if_neg h0).trans (if_neg h2)⟩
  ·intro w1 b
   exact qB _ _ w1 (hdv.l b)
  ·intro w1
   exact cN s ao _ ca e w1
  ·intro w1 b
   have:=kE _ _ w1 (hr.l b) (Dg.small_dg _ _ (by omega)) (Dg.norm_dg _ _ (by omega)) (by omega);rw[Dg.vl_dg _ _ (by omega)] at this;refine this.mono ?_;rintro z w' ⟨rfl,rfl⟩;exact⟨rfl,Below.refl _ _⟩
  ·intro w1
   exact FE R D L G gr _ w1 d1 d2 (by omega) (by omega)
  ·intro w1
   have:=tY R D L G gr w1
   rwa [jf] at this
  ·intro w1 b
   have:=II _ ⟨s,n,e⟩ w1 (hdv.l b) (by simp only;omega) ⟨by simp only;omega,by simp only;omega⟩ (hT.l b) (by simp only;omega)
   rwa [hbt] at this
  ·intro h w1 b
   have:=eO _ _ (e-(ai R:Int)*cP R D L gr n e) w1 (hr.l b) (Dg.small_dg _ _ (by omega)) (by omega) (by omega) (by omega);rw[Dg.vl_dg _ _ (by omega)] at this;rw[show fD R D L G gr n e=shN n (e-(ai R:Int)*cP R D L gr n e) from(if_neg h0).trans (if_pos h)]
   exact this
theorem CW (R D L G:Int)(gr ng:Bool)(ao:Option Addr)(la ca:Nat)(p:Int)(w:World)(h: -1000000≤(ai R:Int)*p∧(ai R:Int)*p≤1000000):
  yC 142 #[ygV R D L G gr,.bool ng,.agg #[.slice ao la ca,yi p]] w (yR w (ydV ng (.slice ao la ca) ((ai R:Int)*p))):=by
 refine Zq R D L G gr ng ao la ca p (ai R) w (IntWalk.i64_in _ ⟨by omega,by omega⟩) (fun w1=> ?_)
 have:=tY R D L G gr w1
 rwa [jf] at this
theorem aa8 (R D L G:Int)(gr s:Bool)(ao:Option Addr)(la ca:Nat)(e c:Int)(hd:Bool)(rd:Nat)(rk:Int)(w:World)
  (HF: ∀w1,yB w w1→yC 72 #[ydV s (.slice ao la ca) e,ygV R D L G gr] w1 (DM w1 hd rd rk c)):
  yC 45 #[ydV s (.slice ao la ca) e,ygV R D L G gr] w (yR w (.tuple #[.bool hd,yi c])):=by
 replace HF:Hid _:=HF;have b1:=aa (af w (.cells (ydA s (.slice ao la ca) e) 76)) (af _ (.cells (ygA R D L G gr) 40));have q1:=(ah w (ydL s (.slice ao la ca) e) 76).l (af _ (.cells (ygA R D L G gr) 40));have g1:=ah (w.alloc (.cells (ydA s (.slice ao la ca) e) 76)) (ygL R D L G gr) 40;simp only[World.size_alloc] at g1;obtain⟨x0,x1,x2,x3,x4⟩:=g1.cs5;obtain⟨y0,y1,y2⟩:=q1.cs3
 go_enter func45,ntmps45
 go_wp2_with fail
 refine(HF.out _ b1).mono ?_;rintro z w2 ⟨u,rfl,ou,bb2⟩;obtain⟨so,sc,hu⟩:=ou.rd.shape;subst hu;clear ou x0 x1 x2 x3 x4 y0 y1 y2;have b2:=aa b1 bb2;have b3:=aa b2 (af w2 (.cells #[yT so rd sc,yi rk] 145))
 go_wp2
 go_ret2
 exact⟨rfl,b3⟩
theorem Ku (R D L G fam:Int)(gr:Bool)(sz ex:Nat)(F:Nat)(w:World):yC 84 #[ylV R D L G gr sz ex fam F,yi 1] w (yR w (.tuple #[yfV false 0 0,.bool true])):=by
 have hsf:=cD;have bf:=af (w.alloc (.cells (ylA R D L G gr sz ex fam F) 116)) (.cells (yfA false 0 0) 119);have l0:=(ah w (ylL R D L G gr sz ex fam F) 116).l bf;have m0:=ah (w.alloc (.cells (ylA R D L G gr sz ex fam F) 116)) (yfL false 0 0) 119;have b0:=aa (af w (.cells (ylA R D L G gr sz ex fam F) 116)) bf;rw[World.size_alloc] at m0;clear bf;obtain⟨x0,x1,x2,x3,x4,x5,x6,x7,x8⟩:=l0.cs9;obtain⟨u0,u1,u2⟩:=m0.cs3;have j0:=m0.f 0;have j1:=m0.f 1;have j2:=m0.f 2;have cR:=ah (w.alloc (.cells (ylA R D L G gr sz ex fam F) 116)) (yfL false 0 0) 119;rw[World.size_alloc] at cR;have bR:=aa (af w (.cells (ylA R D L G gr sz ex fam F) 116)) (af _ (.cells (yfA false 0 0) 119));have hl:=run_loadVar_mid (P:=Tryz.prog) _ (w.heap.size+1) 0 119 (yfL false 0 0) _ cR.range underlying119 rfl (by kernel_rfl);have HH:Hid (_∧_):=⟨hl,bR⟩;clear hl bR cR
 go_enter func84,ntmps84
 go_wp2
 obtain⟨hl,bR⟩:=HH.out;exact bodyPost_ret (aj results84 rfl rfl hl) rfl ⟨rfl,bR⟩
theorem MJ (R D L G fam:Int)(gr:Bool)(sz ex:Nat)(F:Nat)(w:World)(hfa:(fam==1)=false):yC 84 #[ylV R D L G gr sz ex fam F,yi 3] w (yR w (.tuple #[yfV false 0 0,.bool false])):=by
 have hsf:=cD;have bf:=af (w.alloc (.cells (ylA R D L G gr sz ex fam F) 116)) (.cells (yfA false 0 0) 119);have l0:=(ah w (ylL R D L G gr sz ex fam F) 116).l bf;have m0:=ah (w.alloc (.cells (ylA R D L G gr sz ex fam F) 116)) (yfL false 0 0) 119;have b0:=aa (af w (.cells (ylA R D L G gr sz ex fam F) 116)) bf;rw[World.size_alloc] at m0;clear bf;obtain⟨x0,x1,x2,x3,x4,x5,x6,x7,x8⟩:=l0.cs9;obtain⟨u0,u1,u2⟩:=m0.cs3;have j0:=m0.f 0;have j1:=m0.f 1;have j2:=m0.f 2;have cR:=ah (w.alloc (.cells (ylA R D L G gr sz ex fam F) 116)) (yfL false 0 0) 119;rw[World.size_alloc] at cR;have bR:=aa (af w (.cells (ylA R D L G gr sz ex fam F) 116)) (af _ (.cells (yfA false 0 0) 119));have hl:=run_loadVar_mid (P:=Tryz.prog) _ (w.heap.size+1) 0 119 (yfL false 0 0) _ cR.range underlying119 rfl (by kernel_rfl);have HH:Hid (_∧_):=⟨hl,bR⟩;clear hl bR cR
 go_enter func84,ntmps84
 go_wp2
 obtain⟨hl,bR⟩:=HH.out;exact bodyPost_ret (aj results84 rfl rfl hl) rfl ⟨rfl,bR⟩
theorem MK (R D L G fam:Int)(gr:Bool)(sz ex:Nat)(F:Nat)(w:World)(hfa:(fam==1)=false):yC 84 #[ylV R D L G gr sz ex fam F,yi 4] w (yR w (.tuple #[yfV false 0 0,.bool false])):=by
 have hsf:=cD;have bf:=af (w.alloc (.cells (ylA R D L G gr sz ex fam F) 116)) (.cells (yfA false 0 0) 119);have l0:=(ah w (ylL R D L G gr sz ex fam F) 116).l bf;have m0:=ah (w.alloc (.cells (ylA R D L G gr sz ex fam F) 116)) (yfL false 0 0) 119;have b0:=aa (af w (.cells (ylA R D L G gr sz ex fam F) 116)) bf;rw[World.size_alloc] at m0;clear bf;obtain⟨x0,x1,x2,x3,x4,x5,x6,x7,x8⟩:=l0.cs9;obtain⟨u0,u1,u2⟩:=m0.cs3;have j0:=m0.f 0;have j1:=m0.f 1;have j2:=m0.f 2;have cR:=ah (w.alloc (.cells (ylA R D L G gr sz ex fam F) 116)) (yfL false 0 0) 119;rw[World.size_alloc] at cR;have bR:=aa (af w (.cells (ylA R D L G gr sz ex fam F) 116)) (af _ (.cells (yfA false 0 0) 119));have hl:=run_loadVar_mid (P:=Tryz.prog) _ (w.heap.size+1) 0 119 (yfL false 0 0) _ cR.range underlying119 rfl (by kernel_rfl);have HH:Hid (_∧_):=⟨hl,bR⟩;clear hl bR cR
 go_enter func84,ntmps84
 go_wp2
 obtain⟨hl,bR⟩:=HH.out;exact bodyPost_ret (aj results84 rfl rfl hl) rfl ⟨rfl,bR⟩
theorem ML (R D L G fam:Int)(gr:Bool)(sz ex:Nat)(F:Nat)(w:World)(hfa:(fam==3)=false):yC 84 #[ylV R D L G gr sz ex fam F,yi 5] w (yR w (.tuple #[yfV false 0 0,.bool false])):=by
 have hsf:=cD;have bf:=af (w.alloc (.cells (ylA R D L G gr sz ex fam F) 116)) (.cells (yfA false 0 0) 119);have l0:=(ah w (ylL R D L G gr sz ex fam F) 116).l bf;have m0:=ah (w.alloc (.cells (ylA R D L G gr sz ex fam F) 116)) (yfL false 0 0) 119;have b0:=aa (af w (.cells (ylA R D L G gr sz ex fam F) 116)) bf;rw[World.size_alloc] at m0;clear bf;obtain⟨x0,x1,x2,x3,x4,x5,x6,x7,x8⟩:=l0.cs9;obtain⟨u0,u1,u2⟩:=m0.cs3;have j0:=m0.f 0;have j1:=m0.f 1;have j2:=m0.f 2;have cR:=ah (w.alloc (.cells (ylA R D L G gr sz ex fam F) 116)) (yfL false 0 0) 119;rw[World.size_alloc] at cR;have bR:=aa (af w (.cells (ylA R D L G gr sz ex fam F) 116)) (af _ (.cells (yfA false 0 0) 119));have hl:=run_loadVar_mid (P:=Tryz.prog) _ (w.heap.size+1) 0 119 (yfL false 0 0) _ cR.range underlying119 rfl (by kernel_rfl);have HH:Hid (_∧_):=⟨hl,bR⟩;clear hl bR cR
 go_enter func84,ntmps84
 go_wp2
 obtain⟨hl,bR⟩:=HH.out;exact bodyPost_ret (aj results84 rfl rfl hl) rfl ⟨rfl,bR⟩
theorem MM (R D L G fam:Int)(gr:Bool)(sz ex:Nat)(F:Nat)(w:World)(hfa:fam=3):yC 84 #[ylV R D L G gr sz ex fam F,yi 5] w (yR w (.tuple #[yfV true 0 0,.bool true])):=by
 subst hfa;have hsf:=cD;have bf:=af (w.alloc (.cells (ylA R D L G gr sz ex 3 F) 116)) (.cells (yfA false 0 0) 119);have l0:=(ah w (ylL R D L G gr sz ex 3 F) 116).l bf;have m0:=ah (w.alloc (.cells (ylA R D L G gr sz ex 3 F) 116)) (yfL false 0 0) 119;have b0:=aa (af w (.cells (ylA R D L G gr sz ex 3 F) 116)) bf;rw[World.size_alloc] at m0;clear bf;obtain⟨x0,x1,x2,x3,x4,x5,x6,x7,x8⟩:=l0.cs9;obtain⟨u0,u1,u2⟩:=m0.cs3;have j0:=m0.f 0;have j1:=m0.f 1;have j2:=m0.f 2;have cR:=ah (w.alloc (.cells (ylA R D L G gr sz ex 3 F) 116)) (yfL true 0 0) 119;rw[World.size_alloc] at cR;have bR:=aa (af w (.cells (ylA R D L G gr sz ex 3 F) 116)) (af _ (.cells (yfA true 0 0) 119));have hl:=run_loadVar_mid (P:=Tryz.prog) _ (w.heap.size+1) 0 119 (yfL true 0 0) _ cR.range underlying119 rfl (by kernel_rfl);have HH:Hid (_∧_):=⟨hl,bR⟩;clear hl bR cR
 go_enter func84,ntmps84
 go_wp2
 obtain⟨hl,bR⟩:=HH.out;exact bodyPost_ret (aj results84 rfl rfl hl) rfl ⟨rfl,bR⟩
theorem Je (R D L G fam:Int)(gr:Bool)(sz ex:Nat)(F:Nat)(c p:Int)(ng:Bool)(ao:Option Addr)(dn dc:Nat)(r:ak×Int)(w:World)
  (HN: ∀w1,yB w w1→yC 121 #[ypV ng (.slice ao dn dc) p false false false,ygV R D L G gr] w1 (gR w1 r)):
  yC 82 #[ylV R D L G gr sz ex fam F,yvV c ng (.slice ao dn dc) p] w (gR w r):=by
 have hsf:=cD;have HN':Hid _:=HN;have bl:=af w (.cells (ylA R D L G gr sz ex fam F) 116);have bv:=af (w.alloc (.cells (ylA R D L G gr sz ex fam F) 116)) (.cells (yvA c ng (.slice ao dn dc) p) 68);have bd:=af ((w.alloc (.cells (ylA R D L G gr sz ex fam F) 116)).alloc (.cells (yvA c ng (.slice ao dn dc) p) 68)) (.cells (ydA false yN 0) 76);have d0:=ah ((w.alloc (.cells (ylA R D L G gr sz ex fam F) 116)).alloc (.cells (yvA c ng (.slice ao dn dc) p) 68)) (ydL false yN 0) 76;have b0:=aa (aa bl bv) bd;rw[World.size_alloc,World.size_alloc] at d0;clear HN bl bv bd
 go_enter func82,ntmps82
 go_wp2_with fail
 refine(HN'.out _ b0).mono ?_;rintro z w1 ⟨s1,rfl,own1,b1⟩;obtain⟨so,sc,hs1⟩:=own1.rd.shape;subst hs1;have d1:=d0.l b1;have b01:=aa b0 b1;have bu:=((ag w1 (w.heap.size+1+1) 0 (.bool r.1.s)).trans (ag _ (w.heap.size+1+1) 1 (yT so r.1.n sc))).trans (ag _ (w.heap.size+1+1) 2 (yi r.1.e));have cR:au (((w1.setCell ⟨w.heap.size+1+1,0,none⟩ (.bool r.1.s)).setCell ⟨w.heap.size+1+1,1,none⟩ (yT so r.1.n sc)).setCell ⟨w.heap.size+1+1,2,none⟩ (yi r.1.e)) (w.heap.size+1+1) 76 (ydL r.1.s (yT so r.1.n sc) r.1.e):=(((d1.set 0 (.bool r.1.s)).set 1 (yT so r.1.n sc)).set 2 (yi r.1.e));have oR:=(bu.own own1 d1 (by decide)).lower b0.size;have bR:=bu.below b01 (by omega);have hl:=run_loadVar_mid (P:=Tryz.prog) _ (w.heap.size+1+1) 0 76 (ydL r.1.s (yT so r.1.n sc) r.1.e) _ cR.range underlying76 rfl (by kernel_rfl);have HH:Hid (_∧_∧_):=⟨hl,oR,bR⟩;obtain⟨x0,x1,x2⟩:=d1.cs3;have j0:=d1.f 0;have j1:=d1.f 1;have j2:=d1.f 2;clear hl oR bR cR bu d1 d0 b01 b1 own1 b0
 go_wp2
 obtain⟨hl,oR,bR⟩:=HH.out;exact bodyPost_ret (aj results82 rfl rfl hl) rfl ⟨_,rfl,oR,bR⟩
theorem KO (R D L G fam:Int)(gr:Bool)(sz ex:Nat)(F:Nat)(c p:Int)(ng:Bool)(ao:Option Addr)(dn dc:Nat)(w:World)(hpa: -20000≤p)(hpb:p≤20000)(hd:dn=0):
  yC 59 #[ylV R D L G gr sz ex fam F,yvV c ng (.slice ao dn dc) p] w (yR w (.tuple #[.string ⟨#[]⟩,yi 4])):=by
 subst hd;have hp1: ¬p< -20000:=by omega
 have hp2: ¬20000<p:=by omega
 have hsf:=cD;have bv:=af (w.alloc (.cells (ylA R D L G gr sz ex fam F) 116)) (.cells (yvA c ng (.slice ao 0 dc) p) 68);have l0:=(ah w (ylL R D L G gr sz ex fam F) 116).l bv;have m0:=ah (w.alloc (.cells (ylA R D L G gr sz ex fam F) 116)) (yvL c ng (.slice ao 0 dc) p) 68;have b0:=aa (af w (.cells (ylA R D L G gr sz ex fam F) 116)) bv;rw[World.size_alloc] at m0;clear bv;obtain⟨x0,x1,x2,x3,x4,x5,x6,x7,x8⟩:=l0.cs9;obtain⟨u0,u1,u2,u3⟩:=m0.cs4
 go_enter func59,ntmps59
 go_wp2
 go_ret2
 exact⟨rfl,b0⟩
theorem Q8 (R D L G fam:Int)(gr:Bool)(sz ex:Nat)(F:Nat)(c p:Int)(ng:Bool)(ao:Option Addr)(dn dc:Nat)(w:World)
  (r:ak) (er:Int) (HN: ∀w1,yB w w1→yC 82 #[ylV R D L G gr sz ex fam F,yvV c ng (.slice ao dn dc) p] w1 (gR w1 (r,er))) (hpa: -20000≤p) (hpb:p≤20000) (hd:0<dn) (he:er≠0):
  yC 59 #[ylV R D L G gr sz ex fam F,yvV c ng (.slice ao dn dc) p] w (yR w (.tuple #[.string ⟨#[]⟩,yi 4])):=by
 have hp1: ¬p< -20000:=by omega
 have hp2: ¬20000<p:=by omega
 have HN':Hid _:=HN;have hdI:((dn:Int)==0)=false:=by simp;omega
 clear HN;have heb:(er==0)=false:=by simpa using he
 have hsf:=cD;have bv:=af (w.alloc (.cells (ylA R D L G gr sz ex fam F) 116)) (.cells (yvA c ng (.slice ao dn dc) p) 68);have l0:=(ah w (ylL R D L G gr sz ex fam F) 116).l bv;have m0:=ah (w.alloc (.cells (ylA R D L G gr sz ex fam F) 116)) (yvL c ng (.slice ao dn dc) p) 68;have b0:=aa (af w (.cells (ylA R D L G gr sz ex fam F) 116)) bv;rw[World.size_alloc] at m0;clear bv;obtain⟨x0,x1,x2,x3,x4,x5,x6,x7,x8⟩:=l0.cs9;obtain⟨u0,u1,u2,u3⟩:=m0.cs4
 go_enter func59,ntmps59
 go_wp2_with fail
 refine(HN'.out _ b0).mono ?_;rintro z w1 ⟨s1,rfl,own1,b1⟩;obtain⟨so,sc,hs1⟩:=own1.rd.shape;subst hs1;simp only;have bq:=af w1 (.cells (yDA r so sc) 76);have l1:=(l0.l b1).l bq;have q1:=ah w1 (yDL r so sc) 76;have r1:=own1.rd.l bq;have b01:=aa (aa b0 b1) bq;clear own1 b1 bq l0 m0 x0 x1 x2 x3 x4 x5 x6 x7 x8 u0 u1 u2 u3;obtain⟨x0,x1,x2,x3,x4,x5,x6,x7,x8⟩:=l1.cs9;obtain⟨q0,qq1,q2⟩:=q1.cs3
 go_wp2
 go_ret2
 exact⟨rfl,b01⟩
theorem NO (R D L G fam:Int)(gr:Bool)(sz ex:Nat)(F:Nat)(c p:Int)(ng:Bool)(ao:Option Addr)(dn dc:Nat)(w:World)
  (r:ak) (er:Int) (HN: ∀w1,yB w w1→yC 82 #[ylV R D L G gr sz ex fam F,yvV c ng (.slice ao dn dc) p] w1 (gR w1 (r,er)))
  (hq:Bool) (he2:Int) (HH: ∀so sc w1,yB w w1→Rd w1 .u32 (yT so r.n sc) (Dg.dg 4294967296 r.n)→yC 45 #[yDV r so sc,ygV R D L G gr] w1 (yR w1 (.tuple #[.bool hq,yi he2]))) (hpa: -20000≤p) (hpb:p≤20000) (hd:0<dn) (he:er=0) (h2:he2=0) (hqf:hq=false):
  yC 59 #[ylV R D L G gr sz ex fam F,yvV c ng (.slice ao dn dc) p] w (yR w (.tuple #[.string ⟨#[]⟩,yi 4])):=by
 subst he h2 hqf;have hp1: ¬p< -20000:=by omega
 have hp2: ¬20000<p:=by omega
 have HN':Hid _:=HN;have hdI:((dn:Int)==0)=false:=by simp;omega
 clear HN;have HH':Hid _:=HH;clear HH;have hsf:=cD;have bv:=af (w.alloc (.cells (ylA R D L G gr sz ex fam F) 116)) (.cells (yvA c ng (.slice ao dn dc) p) 68);have l0:=(ah w (ylL R D L G gr sz ex fam F) 116).l bv;have m0:=ah (w.alloc (.cells (ylA R D L G gr sz ex fam F) 116)) (yvL c ng (.slice ao dn dc) p) 68;have b0:=aa (af w (.cells (ylA R D L G gr sz ex fam F) 116)) bv;rw[World.size_alloc] at m0;clear bv;obtain⟨x0,x1,x2,x3,x4,x5,x6,x7,x8⟩:=l0.cs9;obtain⟨u0,u1,u2,u3⟩:=m0.cs4
 go_enter func59,ntmps59
 go_wp2_with fail
 refine(HN'.out _ b0).mono ?_;rintro z w1 ⟨s1,rfl,own1,b1⟩;obtain⟨so,sc,hs1⟩:=own1.rd.shape;subst hs1;simp only;have bq:=af w1 (.cells (yDA r so sc) 76);have l1:=(l0.l b1).l bq;have q1:=ah w1 (yDL r so sc) 76;have r1:=own1.rd.l bq;have b01:=aa (aa b0 b1) bq;clear own1 b1 bq l0 m0 x0 x1 x2 x3 x4 x5 x6 x7 x8 u0 u1 u2 u3;obtain⟨x0,x1,x2,x3,x4,x5,x6,x7,x8⟩:=l1.cs9;obtain⟨q0,qq1,q2⟩:=q1.cs3
 go_wp2_with fail
 refine(HH'.out _ _ _ b01 r1).mono ?_;rintro z w2 ⟨rfl,b2⟩;have l2:=l1.l b2;have q2:=q1.l b2;have r2:=r1.l b2;have b02:=aa b01 b2;clear l1 q1 r1 b01 b2 x0 x1 x2 x3 x4 x5 x6 x7 x8 q0 qq1;obtain⟨x0,x1,x2,x3,x4,x5,x6,x7,x8⟩:=l2.cs9;obtain⟨qq0,qq1,qq2⟩:=q2.cs3
 go_wp2
 go_ret2
 exact⟨rfl,b02⟩
theorem NP (R D L G fam:Int)(gr:Bool)(sz ex:Nat)(F:Nat)(c p:Int)(ng:Bool)(ao:Option Addr)(dn dc:Nat)(w:World)
  (r:ak) (er:Int) (HN: ∀w1,yB w w1→yC 82 #[ylV R D L G gr sz ex fam F,yvV c ng (.slice ao dn dc) p] w1 (gR w1 (r,er)))
  (hq:Bool) (he2:Int) (HH: ∀so sc w1,yB w w1→Rd w1 .u32 (yT so r.n sc) (Dg.dg 4294967296 r.n)→yC 45 #[yDV r so sc,ygV R D L G gr] w1 (yR w1 (.tuple #[.bool hq,yi he2])))
  (st:ByteArray) (es:Int) (HE: ∀so sc w1,yB w w1→Rd w1 .u32 (yT so r.n sc) (Dg.dg 4294967296 r.n)→yC 83 #[ylV R D L G gr sz ex fam F,yDV r so sc] w1 (yR w1 (.tuple #[.string st,yi es]))) (hpa: -20000≤p) (hpb:p≤20000) (hd:0<dn) (he:er=0) (h2:he2=0) (hqt:hq=true):
  yC 59 #[ylV R D L G gr sz ex fam F,yvV c ng (.slice ao dn dc) p] w (yR w (.tuple #[.string st,yi es])):=by
 subst he h2 hqt;have hp1: ¬p< -20000:=by omega
 have hp2: ¬20000<p:=by omega
 have HN':Hid _:=HN;have hdI:((dn:Int)==0)=false:=by simp;omega
 clear HN;have HH':Hid _:=HH;clear HH;have HE':Hid _:=HE;clear HE;have hsf:=cD;have bv:=af (w.alloc (.cells (ylA R D L G gr sz ex fam F) 116)) (.cells (yvA c ng (.slice ao dn dc) p) 68);have l0:=(ah w (ylL R D L G gr sz ex fam F) 116).l bv;have m0:=ah (w.alloc (.cells (ylA R D L G gr sz ex fam F) 116)) (yvL c ng (.slice ao dn dc) p) 68;have b0:=aa (af w (.cells (ylA R D L G gr sz ex fam F) 116)) bv;rw[World.size_alloc] at m0;clear bv;obtain⟨x0,x1,x2,x3,x4,x5,x6,x7,x8⟩:=l0.cs9;obtain⟨u0,u1,u2,u3⟩:=m0.cs4
 go_enter func59,ntmps59
 go_wp2_with fail
 refine(HN'.out _ b0).mono ?_;rintro z w1 ⟨s1,rfl,own1,b1⟩;obtain⟨so,sc,hs1⟩:=own1.rd.shape;subst hs1;simp only;have bq:=af w1 (.cells (yDA r so sc) 76);have l1:=(l0.l b1).l bq;have q1:=ah w1 (yDL r so sc) 76;have r1:=own1.rd.l bq;have b01:=aa (aa b0 b1) bq;clear own1 b1 bq l0 m0 x0 x1 x2 x3 x4 x5 x6 x7 x8 u0 u1 u2 u3;obtain⟨x0,x1,x2,x3,x4,x5,x6,x7,x8⟩:=l1.cs9;obtain⟨q0,qq1,q2⟩:=q1.cs3
 go_wp2_with fail
 refine(HH'.out _ _ _ b01 r1).mono ?_;rintro z w2 ⟨rfl,b2⟩;have l2:=l1.l b2;have q2:=q1.l b2;have r2:=r1.l b2;have b02:=aa b01 b2;clear l1 q1 r1 b01 b2 x0 x1 x2 x3 x4 x5 x6 x7 x8 q0 qq1;obtain⟨x0,x1,x2,x3,x4,x5,x6,x7,x8⟩:=l2.cs9;obtain⟨qq0,qq1,qq2⟩:=q2.cs3
 go_wp2_with fail
 refine(HE'.out _ _ _ b02 r2).mono ?_;rintro z w3 ⟨rfl,b3⟩
 go_wp2
 go_ret2
 exact⟨rfl,aa b02 b3⟩
theorem toInts_low (gx ps ex ov un:Bool)(x ua ub lw:ak)(P H:Nat)(pp c1:Int)(n wy:Int)(s:ByteArray)(w:World)(h1: ¬c1<0)
  (HA:yH w 7 #[yi n,.string s,yi wy] (.tuple #[yi 0,yi 16,yi 0]))
  (HO: ∀pb w1,au w1 pb 9 [.string s]→yC 8 #[yi n,yi wy,.slice (some ⟨pb,0,none⟩) 1 1] w1 fun zz w'=> ∃gb cap xo xc,zz= .returned (.tuple #[.slice (some ⟨gb,0,none⟩) 1 cap,yi 0])∧w'.rangeAt gb 0 (yoL 2 gx x.s (yS xo x.n xc) x.e)∧Rd w' .i64 (yS xo x.n xc) (Dg.dg 65536 x.n)∧yB w1 w')
  (HD: ∀xo xc w1,yC 10 #[ydV x.s (yS xo x.n xc) x.e] w1 fun z w'=> ∃eo ec,z= .returned (yrV x.s (yS xo x.n xc) (.slice eo 1 ec) x.e)∧Rd w' .i64 (.slice eo 1 ec) [1]∧yB w1 w')
  (HR: ∀xo xc eo ec w1,yB w w1→Rd w1 .i64 (yS xo x.n xc) (Dg.dg 65536 x.n)→Rd w1 .i64 (.slice eo 1 ec) [1]→yC 9 #[yrV x.s (yS xo x.n xc) (.slice eo 1 ec) x.e,ygV 2 17000 0 17000 true,yi wy] w1 fun z w'=> ∃qo qc,z= .returned (ypV ps (yS qo P qc) pp ex ov un)∧Rd w' .i64 (yS qo P qc) (Dg.dg 65536 P)∧yB w1 w')
  (HP: ∀w1,yC 13 #[yi 63] w1 (cG w1 H))
  (HM: ∀mo mc w1,yB w w1→Rd w1 .i64 (yS mo H mc) (Dg.dg 65536 H)→yC 12 #[ydV false (yS mo H mc) 0] w1 (dr w1 ua))
  (HN: ∀q w1,au w1 q 3 [yi 1]→yC 12 #[ydV false (.slice (some ⟨q,0,none⟩) 1 1) 0] w1 (dr w1 ub))
  (HL: ∀uo uc vo vc w1,yB w w1→Rd w1 .i64 (yS uo ua.n uc) (Dg.dg 65536 ua.n)→Rd w1 .i64 (yS vo ub.n vc) (Dg.dg 65536 ub.n)→yC 11 #[ydV ua.s (yS uo ua.n uc) ua.e,ydV ub.s (yS vo ub.n vc) ub.e] w1 (dr w1 lw))
  (HC: ∀jo jc qo qc w1,yB w w1→Rd w1 .i64 (yS jo lw.n jc) (Dg.dg 65536 lw.n)→Rd w1 .i64 (yS qo P qc) (Dg.dg 65536 P)→yC 14 #[ydV lw.s (yS jo lw.n jc) lw.e,ydV ps (yS qo P qc) pp] w1 (yR w1 (yi c1)))
  (HB:yH w 16 #[] (.bool true)):
  yC 3 #[yi n,.string s,yi wy] w (yR w (.bool true)):=by
 replace HA:Hid _:=HA;replace HO:Hid _:=HO;replace HD:Hid _:=HD;replace HR:Hid _:=HR;replace HP:Hid _:=HP;replace HM:Hid _:=HM;replace HN:Hid _:=HN;replace HL:Hid _:=HL;replace HC:Hid _:=HC;replace HB:Hid _:=HB
 go_enter func3,ntmps3
 have b0:=Below.refl w.heap.size w
 go_wp2_with fail
 refine(HA.out _ b0).mono ?_;rintro zz w1 ⟨rfl,bb2⟩;have b3:=aa b0 bb2;clear b0 bb2 HA;have al4:=af w1 (.cells #[.string s] 9);have q5:=ah w1 [.string s] 9;have b6:=aa b3 al4
 go_wp2_with fail
 refine(HO.out _ _ q5).mono ?_;rintro zz w7 ⟨gb,cap,xo,xc,rfl,h0,rxx9,bb8⟩;have b10:=aa b6 bb8;clear q5 b6 bb8 HO b3 al4;have c11:=h0 0 _ rfl;have c12:=h0 2 _ rfl;have c13:=h0 3 _ rfl;have c14:=h0 4 _ rfl
 go_wp2_with fail
 refine(HD.out _ _ _).mono ?_;rintro zz w15 ⟨eo,ec,rfl,r1x17,bb16⟩;have r18:=rxx9.l bb16;have b19:=aa b10 bb16;clear h0 rxx9 b10 bb16 HD c11 c12 c13 c14
 go_wp2_with fail
 refine(HR.out _ _ _ _ _ b19 r18 r1x17).mono ?_;rintro zz w20 ⟨qo,qc,rfl,r1x22,bb21⟩;have b23:=aa b19 bb21;clear r18 r1x17 b19 bb21 HR;obtain⟨W26,hW25,q27,al24⟩:=cA w20 (ypL ps (yS qo P qc) pp ex ov un) 34;replace hW25:Hid _:=hW25;have hl28:w.heap.size≤w20.heap.size:=b23.size;have r29:=r1x22.l al24;have b30:=aa b23 al24;clear r1x22 b23 al24
 go_upto_region 10 with fail
 rw[hW25.out];clear hW25;obtain⟨W33,hW32,q34,al31⟩:=cA W26 (ydL ps (yS qo P qc) pp) 30;replace hW32:Hid _:=hW32;have hl35:w.heap.size≤W26.heap.size:=b30.size;have c36:=q27.c 0 rfl;have c37:=q27.c 1 rfl;have c38:=q27.c 2 rfl;have r39:=r29.l al31;have b40:=aa b30 al31;clear q27 r29 b30 al31
 go_upto_region 11 with fail
 rw[hW32.out];clear c36 c37 c38 hW32
 go_wp2_with fail
 refine(HP.out _).mono ?_;rintro zz w41 ⟨v1x43,rfl,r1x44,bb42⟩;have q45:=q34.l bb42;have r46:=r39.l bb42;have b47:=aa b40 bb42;obtain⟨mo,mc,hv⟩:=r1x44.shape;subst hv;clear q34 r39 b40 bb42
 go_wp2_with fail
 refine(HM.out _ _ _ b47 r1x44).mono ?_;rintro zz w48 ⟨v1x50,rfl,r1x51,bb49⟩;have q52:=q45.l bb49;have r53:=r46.l bb49;have b54:=aa b47 bb49;obtain⟨uo,uc,hv⟩:=r1x51.shape;subst hv;clear q45 r46 r1x44 b47 bb49 HM;have al55:=af w48 (.cells #[yi 1] 3);have q56:=ah w48 [yi 1] 3;have q57:=q52.l al55;have r58:=r53.l al55;have r59:=r1x51.l al55;have b60:=aa b54 al55
 go_wp2_with fail
 refine(HN.out _ _ q56).mono ?_;rintro zz w61 ⟨v1x63,rfl,r1x64,bb62⟩;have q65:=q57.l bb62;have r66:=r58.l bb62;have r67:=r59.l bb62;have b68:=aa b60 bb62;obtain⟨vo,vc,hv⟩:=r1x64.shape;subst hv;clear q57 q56 r58 r59 b60 bb62 HN q52 r53 r1x51 b54 al55
 go_wp2_with fail
 refine(HL.out _ _ _ _ _ b68 r67 r1x64).mono ?_;rintro zz w69 ⟨v1x71,rfl,r1x72,bb70⟩;have q73:=q65.l bb70;have r74:=r66.l bb70;have b75:=aa b68 bb70;obtain⟨jo,jc,hv⟩:=r1x72.shape;subst hv;clear q65 r66 r67 r1x64 b68 bb70 HL;obtain⟨W78,hW77,q79,al76⟩:=cA w69 (ydL lw.s (yS jo lw.n jc) lw.e) 30;replace hW77:Hid _:=hW77;have hl80:w.heap.size≤w69.heap.size:=b75.size;have hl81:=q73.lt;have q82:=q73.l al76;have r83:=r74.l al76;have r84:=r1x72.l al76;have b85:=aa b75 al76;clear q73 r74 r1x72 b75 al76
 go_upto_region 12 with fail
 rw[hW77.out];clear hW77
 go_upto_region 12 with fail
 have bW86:yB W78 W78.drew:=(Below.refl _ _).drew;have q87:=q82.l bW86;have q88:=q79.l bW86;have r89:=r83.l bW86;have r90:=r84.l bW86;have b91:=aa b85 bW86;clear q82 q79 r83 r84 b85 bW86;refine wp_region_held_drew (S:=fun wq=>au wq W26.heap.size 30 (ydL ps (yS qo P qc) pp)∧au wq w69.heap.size 30 (ydL lw.s (yS jo lw.n jc) lw.e)) (by kernel_rfl) ⟨q87,q88⟩ (fun hS0=> ?_)
 generalize W78.drew=WD92 at q87 q88 r89 r90 b91 hS0⊢;refine tq 0 (ydV lw.s (yS jo lw.n jc) lw.e) rfl (fun _ hw0=>fy 30 (.tmp 16) rfl w69.heap.size 0 (by kernel_rfl) _ _ hw0.2.range underlying30 rfl (by kernel_rfl)) hS0 ?_
 refine tq 1 (ydV ps (yS qo P qc) pp) rfl (fun _ hw0=>fy 30 (.tmp 15) rfl W26.heap.size 0 (by kernel_rfl) _ _ hw0.1.range underlying30 rfl (by kernel_rfl)) hS0 ?_
 refine wpAnyH_ready (rs:=[2]) (by kernel_rfl) (by simp) ?_;refine AllReadyH.cons rfl (fun K hK=> ?_) AllReadyH.nil
 go_simp
 refine(HC.out _ _ _ _ _ b91 r90 r89).mono ?_;rintro zz w93 ⟨rfl,bb94⟩;have q95:=q87.l bb94;have q96:=q88.l bb94;have b97:=aa b91 bb94;clear q87 q88 r89 r90 b91 bb94 HC;refine hK.out _ _ ⟨q95,q96⟩ (fun hS98=> ?_)
 clear hK K;refine tq 3 (.bool false) rfl (fun _ _=>by go_simp) hS98 ?_
 refine tq 4 (.bool false) rfl (fun _ _=>by kernel_rfl) hS98 ?_
 refine wpAnyH_take (i:=5) (v:=undef) rfl (by kernel_rfl) (by kernel_rfl) (by kernel_rfl) (fun _ _ _ h=>h) (Or.inr ⟨by kernel_rfl,rfl⟩) hS98 ?_
 refine wpAnyH_take (i:=6) (v:=undef) rfl (by kernel_rfl) (by kernel_rfl) (by kernel_rfl) (fun _ _ _ h=>h) (Or.inr ⟨by kernel_rfl,rfl⟩) hS98 ?_
 refine wpAnyH_take (i:=7) (v:=undef) rfl (by kernel_rfl) (by kernel_rfl) (by kernel_rfl) (fun _ _ _ h=>h) (Or.inr ⟨by kernel_rfl,rfl⟩) hS98 ?_
 refine wpAnyH_take (i:=8) (v:=undef) rfl (by kernel_rfl) (by kernel_rfl) (by kernel_rfl) (fun _ _ _ h=>h) (Or.inr ⟨by kernel_rfl,rfl⟩) hS98 ?_
 refine wpAnyH_take (i:=9) (v:=undef) rfl (by kernel_rfl) (by kernel_rfl) (by kernel_rfl) (fun _ _ _ h=>h) (Or.inr ⟨by kernel_rfl,rfl⟩) hS98 ?_
 refine tq 10 (.bool false) rfl (fun _ _=>by kernel_rfl) hS98 ?_
 refine wpAnyH_done (by kernel_rfl) ?_ _;clear hS0 hS98;simp only[Act.put,List.getElem_toArray,List.getElem_cons_succ,List.getElem_cons_zero,List.setIfInBounds_toArray,List.set_cons_zero,List.set_cons_succ]
 go_wp2_with fail
 refine(HB.out _ b97).mono ?_;rintro zz w99 ⟨rfl,bb100⟩;have b101:=aa b97 bb100;clear q95 q96 b97 bb100 HB
 go_wp2
 go_ret
 exact⟨by simp,b101⟩
end Go.Proofs.YtddkchlamdhgcaaGreatDoor
