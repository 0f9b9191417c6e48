/-
  Texts laid together: Co9, Co19, Co20, Co21, Gh6, Ce5, Ce11, Fi1.
-/
import Derived.Test.YtpgijbdgljkeeaaGreatDoorUx17
import Derived.Test.YtpgijbdgljkeeaaGreatDoorUx29
set_option maxRecDepth 100000
set_option maxHeartbeats 6400000
namespace Go.Proofs.YtpgijbdgljkeeaaGreatDoor
open _root_.Go.Proofs.Tryz
open Go.RowKit
theorem gj (k:Nat)(hk:1≤k∧k≤8)(w:World):yC 192 #[.agg (tS k).toArray] w (yR w (.int .u64 ((wrN k:Nat):Int))):=by
 have HF:=fun w1=>tm k hk w1
 have HL:=fun w1=>xX k hk w1
 rcases bO hk with rfl|rfl|rfl|rfl|rfl|rfl|rfl|rfl
 all_goals first|exact L6 _ _ _ _ _ _ _ _ _ _ w (by decide) HF|exact L7 _ _ _ _ _ _ _ _ _ _ _ w (by decide) HF HL
def kU (k:Nat)(ng:Bool)(e f:Nat):List Nat:=jT k (iS (1+exN k) (frN k) f (iS 1 (exN k) e (if ng then iS 0 1 1 (List.replicate (szN k) 0) else List.replicate (szN k) 0)))
theorem Mx (k:Nat)(ng:Bool)(e f:Nat):(kU k ng e f).length=szN k:=by
 unfold kU;rw[nM,il,il]
 split
 ·rw[il,List.length_replicate]
 ·rw[List.length_replicate]
theorem Ku (R D L G fam:Int)(gr:Bool)(sz ex:Nat)(F:Nat)(w:World):yC 148 #[ylV R D L G gr sz ex fam F,yi 1] w (yR w (.tuple #[yfV false 0 0,.bool true])):=by
 have hsf:=cD;have bf:=af (w.alloc (.cells (ylA R D L G gr sz ex fam F) 124)) (.cells (yfA false 0 0) 127);have l0:=(ah w (ylL R D L G gr sz ex fam F) 124).l bf;have m0:=ah (w.alloc (.cells (ylA R D L G gr sz ex fam F) 124)) (yfL false 0 0) 127;have b0:=aa (af w (.cells (ylA R D L G gr sz ex fam F) 124)) bf;rw[World.size_alloc] at m0;clear bf;obtain⟨x0,x1,x2,x3,x4,x5,x6,x7,x8⟩:=l0.cs9;obtain⟨u0,u1,u2⟩:=m0.cs3;have j0:=m0.f 0;have j1:=m0.f 1;have j2:=m0.f 2;have cR:=ah (w.alloc (.cells (ylA R D L G gr sz ex fam F) 124)) (yfL false 0 0) 127;rw[World.size_alloc] at cR;have bR:=aa (af w (.cells (ylA R D L G gr sz ex fam F) 124)) (af _ (.cells (yfA false 0 0) 127));have hl:=run_loadVar_mid (P:=Tryz.prog) _ (w.heap.size+1) 0 127 (yfL false 0 0) _ cR.range underlying127 rfl (by kernel_rfl);have HH:Hid (_∧_):=⟨hl,bR⟩;clear hl bR cR
 go_enter func148,ntmps148
 go_wp2
 obtain⟨hl,bR⟩:=HH.out;exact bodyPost_ret (aj results148 rfl rfl hl) rfl ⟨rfl,bR⟩
theorem MJ (R D L G fam:Int)(gr:Bool)(sz ex:Nat)(F:Nat)(w:World)(hfa:(fam==1)=false):yC 148 #[ylV R D L G gr sz ex fam F,yi 3] w (yR w (.tuple #[yfV false 0 0,.bool false])):=by
 have hsf:=cD;have bf:=af (w.alloc (.cells (ylA R D L G gr sz ex fam F) 124)) (.cells (yfA false 0 0) 127);have l0:=(ah w (ylL R D L G gr sz ex fam F) 124).l bf;have m0:=ah (w.alloc (.cells (ylA R D L G gr sz ex fam F) 124)) (yfL false 0 0) 127;have b0:=aa (af w (.cells (ylA R D L G gr sz ex fam F) 124)) bf;rw[World.size_alloc] at m0;clear bf;obtain⟨x0,x1,x2,x3,x4,x5,x6,x7,x8⟩:=l0.cs9;obtain⟨u0,u1,u2⟩:=m0.cs3;have j0:=m0.f 0;have j1:=m0.f 1;have j2:=m0.f 2;have cR:=ah (w.alloc (.cells (ylA R D L G gr sz ex fam F) 124)) (yfL false 0 0) 127;rw[World.size_alloc] at cR;have bR:=aa (af w (.cells (ylA R D L G gr sz ex fam F) 124)) (af _ (.cells (yfA false 0 0) 127));have hl:=run_loadVar_mid (P:=Tryz.prog) _ (w.heap.size+1) 0 127 (yfL false 0 0) _ cR.range underlying127 rfl (by kernel_rfl);have HH:Hid (_∧_):=⟨hl,bR⟩;clear hl bR cR
 go_enter func148,ntmps148
 go_wp2
 obtain⟨hl,bR⟩:=HH.out;exact bodyPost_ret (aj results148 rfl rfl hl) rfl ⟨rfl,bR⟩
theorem MK (R D L G fam:Int)(gr:Bool)(sz ex:Nat)(F:Nat)(w:World)(hfa:(fam==1)=false):yC 148 #[ylV R D L G gr sz ex fam F,yi 4] w (yR w (.tuple #[yfV false 0 0,.bool false])):=by
 have hsf:=cD;have bf:=af (w.alloc (.cells (ylA R D L G gr sz ex fam F) 124)) (.cells (yfA false 0 0) 127);have l0:=(ah w (ylL R D L G gr sz ex fam F) 124).l bf;have m0:=ah (w.alloc (.cells (ylA R D L G gr sz ex fam F) 124)) (yfL false 0 0) 127;have b0:=aa (af w (.cells (ylA R D L G gr sz ex fam F) 124)) bf;rw[World.size_alloc] at m0;clear bf;obtain⟨x0,x1,x2,x3,x4,x5,x6,x7,x8⟩:=l0.cs9;obtain⟨u0,u1,u2⟩:=m0.cs3;have j0:=m0.f 0;have j1:=m0.f 1;have j2:=m0.f 2;have cR:=ah (w.alloc (.cells (ylA R D L G gr sz ex fam F) 124)) (yfL false 0 0) 127;rw[World.size_alloc] at cR;have bR:=aa (af w (.cells (ylA R D L G gr sz ex fam F) 124)) (af _ (.cells (yfA false 0 0) 127));have hl:=run_loadVar_mid (P:=Tryz.prog) _ (w.heap.size+1) 0 127 (yfL false 0 0) _ cR.range underlying127 rfl (by kernel_rfl);have HH:Hid (_∧_):=⟨hl,bR⟩;clear hl bR cR
 go_enter func148,ntmps148
 go_wp2
 obtain⟨hl,bR⟩:=HH.out;exact bodyPost_ret (aj results148 rfl rfl hl) rfl ⟨rfl,bR⟩
theorem ML (R D L G fam:Int)(gr:Bool)(sz ex:Nat)(F:Nat)(w:World)(hfa:(fam==3)=false):yC 148 #[ylV R D L G gr sz ex fam F,yi 5] w (yR w (.tuple #[yfV false 0 0,.bool false])):=by
 have hsf:=cD;have bf:=af (w.alloc (.cells (ylA R D L G gr sz ex fam F) 124)) (.cells (yfA false 0 0) 127);have l0:=(ah w (ylL R D L G gr sz ex fam F) 124).l bf;have m0:=ah (w.alloc (.cells (ylA R D L G gr sz ex fam F) 124)) (yfL false 0 0) 127;have b0:=aa (af w (.cells (ylA R D L G gr sz ex fam F) 124)) bf;rw[World.size_alloc] at m0;clear bf;obtain⟨x0,x1,x2,x3,x4,x5,x6,x7,x8⟩:=l0.cs9;obtain⟨u0,u1,u2⟩:=m0.cs3;have j0:=m0.f 0;have j1:=m0.f 1;have j2:=m0.f 2;have cR:=ah (w.alloc (.cells (ylA R D L G gr sz ex fam F) 124)) (yfL false 0 0) 127;rw[World.size_alloc] at cR;have bR:=aa (af w (.cells (ylA R D L G gr sz ex fam F) 124)) (af _ (.cells (yfA false 0 0) 127));have hl:=run_loadVar_mid (P:=Tryz.prog) _ (w.heap.size+1) 0 127 (yfL false 0 0) _ cR.range underlying127 rfl (by kernel_rfl);have HH:Hid (_∧_):=⟨hl,bR⟩;clear hl bR cR
 go_enter func148,ntmps148
 go_wp2
 obtain⟨hl,bR⟩:=HH.out;exact bodyPost_ret (aj results148 rfl rfl hl) rfl ⟨rfl,bR⟩
theorem MM (R D L G fam:Int)(gr:Bool)(sz ex:Nat)(F:Nat)(w:World)(hfa:fam=3):yC 148 #[ylV R D L G gr sz ex fam F,yi 5] w (yR w (.tuple #[yfV true 0 0,.bool true])):=by
 subst hfa;have hsf:=cD;have bf:=af (w.alloc (.cells (ylA R D L G gr sz ex 3 F) 124)) (.cells (yfA false 0 0) 127);have l0:=(ah w (ylL R D L G gr sz ex 3 F) 124).l bf;have m0:=ah (w.alloc (.cells (ylA R D L G gr sz ex 3 F) 124)) (yfL false 0 0) 127;have b0:=aa (af w (.cells (ylA R D L G gr sz ex 3 F) 124)) bf;rw[World.size_alloc] at m0;clear bf;obtain⟨x0,x1,x2,x3,x4,x5,x6,x7,x8⟩:=l0.cs9;obtain⟨u0,u1,u2⟩:=m0.cs3;have j0:=m0.f 0;have j1:=m0.f 1;have j2:=m0.f 2;have cR:=ah (w.alloc (.cells (ylA R D L G gr sz ex 3 F) 124)) (yfL true 0 0) 127;rw[World.size_alloc] at cR;have bR:=aa (af w (.cells (ylA R D L G gr sz ex 3 F) 124)) (af _ (.cells (yfA true 0 0) 127));have hl:=run_loadVar_mid (P:=Tryz.prog) _ (w.heap.size+1) 0 127 (yfL true 0 0) _ cR.range underlying127 rfl (by kernel_rfl);have HH:Hid (_∧_):=⟨hl,bR⟩;clear hl bR cR
 go_enter func148,ntmps148
 go_wp2
 obtain⟨hl,bR⟩:=HH.out;exact bodyPost_ret (aj results148 rfl rfl hl) rfl ⟨rfl,bR⟩
theorem MP (k c:Nat)(hk:1≤k∧k≤8)(hc:c=1∨c=3∨c=4∨c=5)(w:World):
  yC 148 #[.agg (tS k).toArray,yi c] w (yR w (.tuple #[yfV (pI k c) ((pg k c:Nat):Int) ((lS k c:Nat):Int),.bool (iR k c)])):=by
 have HO:=fun w1=>jy k hk w1
 have HW:=fun w1=>gj k hk w1
 have HL:=fun w1=>xX k hk w1
 rcases hc with rfl|rfl|rfl|rfl
 ·rw[show pI k 1=false from rfl,show pg k 1=0 from if_neg (fun h=>by omega),show lS k 1=0 from by unfold lS;simp,show iR k 1=true from rfl]
  rcases bO hk with rfl|rfl|rfl|rfl|rfl|rfl|rfl|rfl
  all_goals exact Ku _ _ _ _ _ _ _ _ _ w
 ·rw[show pI k 3=false from rfl]
  by_cases h3:k≤3
  ·rw[show pg k 3=kp k from if_pos ⟨.inl rfl,h3⟩,show lS k 3=wrN k from by unfold lS;rw[if_pos h3,if_pos rfl],show iR k 3=true from by simp[iR,h3]]
   generalize kp k=on at*;generalize wrN k=wr at*
   rcases(by omega:k=1∨k=2∨k=3) with rfl|rfl|rfl
   all_goals exact MN _ _ _ _ _ _ _ _ w _ _ HO HW
  ·rw[show pg k 3=0 from if_neg (fun h=>h3 h.2),show lS k 3=0 from if_neg h3,show iR k 3=false from by simp[iR,h3]]
   rcases(by omega:k=4∨k=5∨k=6∨k=7∨k=8) with rfl|rfl|rfl|rfl|rfl
   all_goals exact MJ _ _ _ _ _ _ _ _ _ w rfl
 ·rw[show pI k 4=false from rfl]
  by_cases h3:k≤3
  ·rw[show pg k 4=kp k from if_pos ⟨.inr rfl,h3⟩,show lS k 4=wrN k|||gW k/2 from by unfold lS;rw[if_pos h3,if_neg (by omega),if_pos rfl],show iR k 4=true from by simp[iR,h3]]
   have hw:wrN k<18446744073709551616:=by rcases(by omega:k=1∨k=2∨k=3) with rfl|rfl|rfl<;>decide
   have hl:gW k<18446744073709551616:=by rcases(by omega:k=1∨k=2∨k=3) with rfl|rfl|rfl<;>decide
   generalize kp k=on at*;generalize wrN k=wr at*;generalize gW k=ld at*
   rcases(by omega:k=1∨k=2∨k=3) with rfl|rfl|rfl
   all_goals exact MO _ _ _ _ _ _ _ _ w _ _ _ hw hl HO HW HL
  ·rw[show pg k 4=0 from if_neg (fun h=>h3 h.2),show lS k 4=0 from if_neg h3,show iR k 4=false from by simp[iR,h3]]
   rcases(by omega:k=4∨k=5∨k=6∨k=7∨k=8) with rfl|rfl|rfl|rfl|rfl
   all_goals exact MK _ _ _ _ _ _ _ _ _ w rfl
 ·rw[show pg k 5=0 from if_neg (fun h=>by omega),show lS k 5=0 from by unfold lS;simp]
  by_cases h6:6≤k
  ·rw[show pI k 5=true from by simp[pI,h6],show iR k 5=true from by simp[iR,h6]]
   rcases(by omega:k=6∨k=7∨k=8) with rfl|rfl|rfl
   all_goals exact MM _ _ _ _ _ _ _ _ _ w rfl
  ·rw[show pI k 5=false from by simp[pI,h6],show iR k 5=false from by simp[iR,h6]]
   rcases(by omega:k=1∨k=2∨k=3∨k=4∨k=5) with rfl|rfl|rfl|rfl|rfl
   all_goals exact ML _ _ _ _ _ _ _ _ _ w rfl
theorem P9 (R D L G fam:Int)(gr:Bool)(sz ex:Nat)(F:Nat)(c p:Int)(ng:Bool)(ao:Option Addr)(dn dc:Nat)(sg0:Bool)(se sf:Nat)(w:World)
  (HS:yJ 148 #[ylV R D L G gr sz ex fam F,yi c] (.tuple #[yfV sg0 se sf,.bool true]))
  (HG:yJ 149 #[ylV R D L G gr sz ex fam F,yi c] (.bool false)) (hd:dn=0) (hp:p=0) (hn:ng=true):
  yC 114 #[ylV R D L G gr sz ex fam F,yvV c ng (.slice ao dn dc) p] w (yR w (.tuple #[.string ⟨#[]⟩,yi 4])):=by
 subst hd hp hn;have HG':Hid _:=HG;have hsf:=cD;have bf:=af (w.alloc (.cells (ylA R D L G gr sz ex fam F) 124)) (.cells (yvA c true (.slice ao 0 dc) 0) 66);have l0:=(ah w (ylL R D L G gr sz ex fam F) 124).l bf;have m0:=ah (w.alloc (.cells (ylA R D L G gr sz ex fam F) 124)) (yvL c true (.slice ao 0 dc) 0) 66;have b0:=aa (af w (.cells (ylA R D L G gr sz ex fam F) 124)) bf;rw[World.size_alloc] at m0;have HS':Hid _:=HS;clear HS bf
 go_enter func114,ntmps114
 go_wp2_with fail
 refine(HS'.out _).mono ?_;rintro z w1 ⟨rfl,b1⟩;have bq:=af w1 (.cells (yfA sg0 se sf) 127);have l1:=(l0.l b1).l bq;have m1:=(m0.l b1).l bq;have q1:=ah w1 (yfL sg0 se sf) 127;have b01:=aa (aa b0 b1) bq;obtain⟨x0,x1,x2,x3,x4,x5,x6,x7,x8⟩:=l1.cs9;obtain⟨u0,u1,u2,u3⟩:=m1.cs4;obtain⟨s0,s1,s2⟩:=q1.cs3;clear l0 m0 b0 b1 bq HS'
 go_wp2_with fail
 refine(HG'.out _).mono ?_;rintro z w2 ⟨rfl,b2⟩;have l2:=l1.l b2;have m2:=m1.l b2;have q2:=q1.l b2;have b02:=aa b01 b2;clear l1 m1 q1 b01 b2 x0 x1 x2 x3 x4 x5 x6 x7 x8 u0 u1 u2 u3 s0 s1 s2;obtain⟨x0,x1,x2,x3,x4,x5,x6,x7,x8⟩:=l2.cs9;obtain⟨u0,u1,u2,u3⟩:=m2.cs4;obtain⟨s0,s1,s2⟩:=q2.cs3
 go_wp2
 go_ret2
 exact⟨rfl,b02⟩
theorem Uj (R D L G fam:Int)(gr:Bool)(sz ex:Nat)(F:Nat)(c p:Int)(ng:Bool)(ao:Option Addr)(dn dc:Nat)(sg0:Bool)(se sf:Nat)(w:World)
  (HS:yJ 148 #[ylV R D L G gr sz ex fam F,yi c] (.tuple #[yfV sg0 se sf,.bool true]))
  (HG:yJ 149 #[ylV R D L G gr sz ex fam F,yi c] (.bool true))
  (st:ByteArray) (HW:yJ 150 #[ylV R D L G gr sz ex fam F,yfV (sg0||ng) se sf] (.string st)) (hd:dn=0) (hp:p=0) (hn:ng=true):
  yC 114 #[ylV R D L G gr sz ex fam F,yvV c ng (.slice ao dn dc) p] w (yR w (.tuple #[.string st,yi 0])):=by
 subst hd hp hn;have HG':Hid _:=HG;have HW':Hid _:=HW;have hsf:=cD;have bf:=af (w.alloc (.cells (ylA R D L G gr sz ex fam F) 124)) (.cells (yvA c true (.slice ao 0 dc) 0) 66);have l0:=(ah w (ylL R D L G gr sz ex fam F) 124).l bf;have m0:=ah (w.alloc (.cells (ylA R D L G gr sz ex fam F) 124)) (yvL c true (.slice ao 0 dc) 0) 66;have b0:=aa (af w (.cells (ylA R D L G gr sz ex fam F) 124)) bf;rw[World.size_alloc] at m0;have HS':Hid _:=HS;clear HS bf
 go_enter func114,ntmps114
 go_wp2_with fail
 refine(HS'.out _).mono ?_;rintro z w1 ⟨rfl,b1⟩;have bq:=af w1 (.cells (yfA sg0 se sf) 127);have l1:=(l0.l b1).l bq;have m1:=(m0.l b1).l bq;have q1:=ah w1 (yfL sg0 se sf) 127;have b01:=aa (aa b0 b1) bq;obtain⟨x0,x1,x2,x3,x4,x5,x6,x7,x8⟩:=l1.cs9;obtain⟨u0,u1,u2,u3⟩:=m1.cs4;obtain⟨s0,s1,s2⟩:=q1.cs3;have hlw:w.heap.size<w1.heap.size:=(l0.l b1).lt;clear l0 m0 b0 b1 bq HS'
 go_wp2_with fail
 refine(HG'.out _).mono ?_;rintro z w2 ⟨rfl,b2⟩;have l2:=l1.l b2;have m2:=m1.l b2;have q2:=q1.l b2;have b02:=aa b01 b2;clear l1 m1 q1 b01 b2 x0 x1 x2 x3 x4 x5 x6 x7 x8 u0 u1 u2 u3 s0 s1 s2;obtain⟨x0,x1,x2,x3,x4,x5,x6,x7,x8⟩:=l2.cs9;obtain⟨u0,u1,u2,u3⟩:=m2.cs4;obtain⟨s0,s1,s2⟩:=q2.cs3;have k0:=q2.f 0;have hne0:w1.heap.size≠w.heap.size:=Nat.ne_of_gt hlw;have b03:=(ag _ w1.heap.size 0 (.bool true)).below b02 (Nat.le_of_lt hlw);clear HW HG
 cases sg0
 all_goals go_wp2_with fail
 all_goals (refine(HW'.out _).mono ?_;rintro z w3 ⟨rfl,b3⟩;go_wp2;go_ret2;exact⟨rfl,aa b03 b3⟩)
theorem aa8 (R D L G:Int)(gr s:Bool)(ao:Option Addr)(la ca:Nat)(e c:Int)(hd:Bool)(rd:Nat)(rk:Int)(w:World)
  (HF: ∀w1,yB w w1→yC 189 #[ydV s (.slice ao la ca) e,ygV R D L G gr] w1 (DM w1 hd rd rk c)):
  yC 146 #[ydV s (.slice ao la ca) e,ygV R D L G gr] w (yR w (.tuple #[.bool hd,yi c])):=by
 replace HF:Hid _:=HF;have b1:=aa (af w (.cells (ydA s (.slice ao la ca) e) 95)) (af _ (.cells (ygA R D L G gr) 40));have q1:=(ah w (ydL s (.slice ao la ca) e) 95).l (af _ (.cells (ygA R D L G gr) 40));have g1:=ah (w.alloc (.cells (ydA s (.slice ao la ca) e) 95)) (ygL R D L G gr) 40;simp only[World.size_alloc] at g1;obtain⟨x0,x1,x2,x3,x4⟩:=g1.cs5;obtain⟨y0,y1,y2⟩:=q1.cs3
 go_enter func146,ntmps146
 go_wp2_with fail
 refine(HF.out _ b1).mono ?_;rintro z w2 ⟨u,rfl,ou,bb2⟩;obtain⟨so,sc,hu⟩:=ou.rd.shape;subst hu;clear ou x0 x1 x2 x3 x4 y0 y1 y2;have b2:=aa b1 bb2;have b3:=aa b2 (af w2 (.cells #[yT so rd sc,yi rk] 238))
 go_wp2
 go_ret2
 exact⟨rfl,b3⟩
theorem Je (R D L G fam:Int)(gr:Bool)(sz ex:Nat)(F:Nat)(c p:Int)(ng:Bool)(ao:Option Addr)(dn dc:Nat)(r:ak×Int)(w:World)
  (HN: ∀w1,yB w w1→yC 133 #[ypV ng (.slice ao dn dc) p false false false,ygV R D L G gr] w1 (gR w1 r)):
  yC 145 #[ylV R D L G gr sz ex fam F,yvV c ng (.slice ao dn dc) p] w (gR w r):=by
 have hsf:=cD;have HN':Hid _:=HN;have bl:=af w (.cells (ylA R D L G gr sz ex fam F) 124);have bv:=af (w.alloc (.cells (ylA R D L G gr sz ex fam F) 124)) (.cells (yvA c ng (.slice ao dn dc) p) 66);have bd:=af ((w.alloc (.cells (ylA R D L G gr sz ex fam F) 124)).alloc (.cells (yvA c ng (.slice ao dn dc) p) 66)) (.cells (ydA false yN 0) 95);have d0:=ah ((w.alloc (.cells (ylA R D L G gr sz ex fam F) 124)).alloc (.cells (yvA c ng (.slice ao dn dc) p) 66)) (ydL false yN 0) 95;have b0:=aa (aa bl bv) bd;rw[World.size_alloc,World.size_alloc] at d0;clear HN bl bv bd
 go_enter func145,ntmps145
 go_wp2_with fail
 refine(HN'.out _ b0).mono ?_;rintro z w1 ⟨s1,rfl,own1,b1⟩;obtain⟨so,sc,hs1⟩:=own1.rd.shape;subst hs1;have d1:=d0.l b1;have b01:=aa b0 b1;have bu:=((ag w1 (w.heap.size+1+1) 0 (.bool r.1.s)).trans (ag _ (w.heap.size+1+1) 1 (yT so r.1.n sc))).trans (ag _ (w.heap.size+1+1) 2 (yi r.1.e));have cR:au (((w1.setCell ⟨w.heap.size+1+1,0,none⟩ (.bool r.1.s)).setCell ⟨w.heap.size+1+1,1,none⟩ (yT so r.1.n sc)).setCell ⟨w.heap.size+1+1,2,none⟩ (yi r.1.e)) (w.heap.size+1+1) 95 (ydL r.1.s (yT so r.1.n sc) r.1.e):=(((d1.set 0 (.bool r.1.s)).set 1 (yT so r.1.n sc)).set 2 (yi r.1.e));have oR:=(bu.own own1 d1 (by decide)).lower b0.size;have bR:=bu.below b01 (by omega);have hl:=run_loadVar_mid (P:=Tryz.prog) _ (w.heap.size+1+1) 0 95 (ydL r.1.s (yT so r.1.n sc) r.1.e) _ cR.range underlying95 rfl (by kernel_rfl);have HH:Hid (_∧_∧_):=⟨hl,oR,bR⟩;obtain⟨x0,x1,x2⟩:=d1.cs3;have j0:=d1.f 0;have j1:=d1.f 1;have j2:=d1.f 2;clear hl oR bR cR bu d1 d0 b01 b1 own1 b0
 go_wp2
 obtain⟨hl,oR,bR⟩:=HH.out;exact bodyPost_ret (aj results145 rfl rfl hl) rfl ⟨_,rfl,oR,bR⟩
theorem Q7 (R D L G fam:Int)(gr:Bool)(sz ex:Nat)(F:Nat)(c p:Int)(ng:Bool)(ao:Option Addr)(dn dc:Nat)(w:World)(hp:p< -20000):
  yC 113 #[ylV R D L G gr sz ex fam F,yvV c ng (.slice ao dn dc) p] w (yR w (.tuple #[.string ⟨#[]⟩,yi 3])):=by
 have hsf:=cD;have bv:=af (w.alloc (.cells (ylA R D L G gr sz ex fam F) 124)) (.cells (yvA c ng (.slice ao dn dc) p) 66);have l0:=(ah w (ylL R D L G gr sz ex fam F) 124).l bv;have m0:=ah (w.alloc (.cells (ylA R D L G gr sz ex fam F) 124)) (yvL c ng (.slice ao dn dc) p) 66;have b0:=aa (af w (.cells (ylA R D L G gr sz ex fam F) 124)) bv;rw[World.size_alloc] at m0;clear bv;obtain⟨x0,x1,x2,x3,x4,x5,x6,x7,x8⟩:=l0.cs9;obtain⟨u0,u1,u2,u3⟩:=m0.cs4
 go_enter func113,ntmps113
 go_wp2
 go_ret2
 exact⟨rfl,b0⟩
theorem NN (R D L G fam:Int)(gr:Bool)(sz ex:Nat)(F:Nat)(c p:Int)(ng:Bool)(ao:Option Addr)(dn dc:Nat)(w:World)(hp:20000<p):
  yC 113 #[ylV R D L G gr sz ex fam F,yvV c ng (.slice ao dn dc) p] w (yR w (.tuple #[.string ⟨#[]⟩,yi 3])):=by
 have hp1: ¬p< -20000:=by omega
 have hsf:=cD;have bv:=af (w.alloc (.cells (ylA R D L G gr sz ex fam F) 124)) (.cells (yvA c ng (.slice ao dn dc) p) 66);have l0:=(ah w (ylL R D L G gr sz ex fam F) 124).l bv;have m0:=ah (w.alloc (.cells (ylA R D L G gr sz ex fam F) 124)) (yvL c ng (.slice ao dn dc) p) 66;have b0:=aa (af w (.cells (ylA R D L G gr sz ex fam F) 124)) bv;rw[World.size_alloc] at m0;clear bv;obtain⟨x0,x1,x2,x3,x4,x5,x6,x7,x8⟩:=l0.cs9;obtain⟨u0,u1,u2,u3⟩:=m0.cs4
 go_enter func113,ntmps113
 go_wp2
 go_ret2
 exact⟨rfl,b0⟩
theorem KO (R D L G fam:Int)(gr:Bool)(sz ex:Nat)(F:Nat)(c p:Int)(ng:Bool)(ao:Option Addr)(dn dc:Nat)(w:World)(hpa: -20000≤p)(hpb:p≤20000)(hd:dn=0):
  yC 113 #[ylV R D L G gr sz ex fam F,yvV c ng (.slice ao dn dc) p] w (yR w (.tuple #[.string ⟨#[]⟩,yi 4])):=by
 subst hd;have hp1: ¬p< -20000:=by omega
 have hp2: ¬20000<p:=by omega
 have hsf:=cD;have bv:=af (w.alloc (.cells (ylA R D L G gr sz ex fam F) 124)) (.cells (yvA c ng (.slice ao 0 dc) p) 66);have l0:=(ah w (ylL R D L G gr sz ex fam F) 124).l bv;have m0:=ah (w.alloc (.cells (ylA R D L G gr sz ex fam F) 124)) (yvL c ng (.slice ao 0 dc) p) 66;have b0:=aa (af w (.cells (ylA R D L G gr sz ex fam F) 124)) bv;rw[World.size_alloc] at m0;clear bv;obtain⟨x0,x1,x2,x3,x4,x5,x6,x7,x8⟩:=l0.cs9;obtain⟨u0,u1,u2,u3⟩:=m0.cs4
 go_enter func113,ntmps113
 go_wp2
 go_ret2
 exact⟨rfl,b0⟩
theorem Q8 (R D L G fam:Int)(gr:Bool)(sz ex:Nat)(F:Nat)(c p:Int)(ng:Bool)(ao:Option Addr)(dn dc:Nat)(w:World)
  (r:ak) (er:Int) (HN: ∀w1,yB w w1→yC 145 #[ylV R D L G gr sz ex fam F,yvV c ng (.slice ao dn dc) p] w1 (gR w1 (r,er))) (hpa: -20000≤p) (hpb:p≤20000) (hd:0<dn) (he:er≠0):
  yC 113 #[ylV R D L G gr sz ex fam F,yvV c ng (.slice ao dn dc) p] w (yR w (.tuple #[.string ⟨#[]⟩,yi 4])):=by
 have hp1: ¬p< -20000:=by omega
 have hp2: ¬20000<p:=by omega
 have HN':Hid _:=HN;have hdI:((dn:Int)==0)=false:=by simp;omega
 clear HN;have heb:(er==0)=false:=by simpa using he
 have hsf:=cD;have bv:=af (w.alloc (.cells (ylA R D L G gr sz ex fam F) 124)) (.cells (yvA c ng (.slice ao dn dc) p) 66);have l0:=(ah w (ylL R D L G gr sz ex fam F) 124).l bv;have m0:=ah (w.alloc (.cells (ylA R D L G gr sz ex fam F) 124)) (yvL c ng (.slice ao dn dc) p) 66;have b0:=aa (af w (.cells (ylA R D L G gr sz ex fam F) 124)) bv;rw[World.size_alloc] at m0;clear bv;obtain⟨x0,x1,x2,x3,x4,x5,x6,x7,x8⟩:=l0.cs9;obtain⟨u0,u1,u2,u3⟩:=m0.cs4
 go_enter func113,ntmps113
 go_wp2_with fail
 refine(HN'.out _ b0).mono ?_;rintro z w1 ⟨s1,rfl,own1,b1⟩;obtain⟨so,sc,hs1⟩:=own1.rd.shape;subst hs1;simp only;have bq:=af w1 (.cells (yDA r so sc) 95);have l1:=(l0.l b1).l bq;have q1:=ah w1 (yDL r so sc) 95;have r1:=own1.rd.l bq;have b01:=aa (aa b0 b1) bq;clear own1 b1 bq l0 m0 x0 x1 x2 x3 x4 x5 x6 x7 x8 u0 u1 u2 u3;obtain⟨x0,x1,x2,x3,x4,x5,x6,x7,x8⟩:=l1.cs9;obtain⟨q0,qq1,q2⟩:=q1.cs3
 go_wp2
 go_ret2
 exact⟨rfl,b01⟩
theorem NO (R D L G fam:Int)(gr:Bool)(sz ex:Nat)(F:Nat)(c p:Int)(ng:Bool)(ao:Option Addr)(dn dc:Nat)(w:World)
  (r:ak) (er:Int) (HN: ∀w1,yB w w1→yC 145 #[ylV R D L G gr sz ex fam F,yvV c ng (.slice ao dn dc) p] w1 (gR w1 (r,er)))
  (hq:Bool) (he2:Int) (HH: ∀so sc w1,yB w w1→Rd w1 .u32 (yT so r.n sc) (Dg.dg 4294967296 r.n)→yC 146 #[yDV r so sc,ygV R D L G gr] w1 (yR w1 (.tuple #[.bool hq,yi he2]))) (hpa: -20000≤p) (hpb:p≤20000) (hd:0<dn) (he:er=0) (h2:he2=0) (hqf:hq=false):
  yC 113 #[ylV R D L G gr sz ex fam F,yvV c ng (.slice ao dn dc) p] w (yR w (.tuple #[.string ⟨#[]⟩,yi 4])):=by
 subst he h2 hqf;have hp1: ¬p< -20000:=by omega
 have hp2: ¬20000<p:=by omega
 have HN':Hid _:=HN;have hdI:((dn:Int)==0)=false:=by simp;omega
 clear HN;have HH':Hid _:=HH;clear HH;have hsf:=cD;have bv:=af (w.alloc (.cells (ylA R D L G gr sz ex fam F) 124)) (.cells (yvA c ng (.slice ao dn dc) p) 66);have l0:=(ah w (ylL R D L G gr sz ex fam F) 124).l bv;have m0:=ah (w.alloc (.cells (ylA R D L G gr sz ex fam F) 124)) (yvL c ng (.slice ao dn dc) p) 66;have b0:=aa (af w (.cells (ylA R D L G gr sz ex fam F) 124)) bv;rw[World.size_alloc] at m0;clear bv;obtain⟨x0,x1,x2,x3,x4,x5,x6,x7,x8⟩:=l0.cs9;obtain⟨u0,u1,u2,u3⟩:=m0.cs4
 go_enter func113,ntmps113
 go_wp2_with fail
 refine(HN'.out _ b0).mono ?_;rintro z w1 ⟨s1,rfl,own1,b1⟩;obtain⟨so,sc,hs1⟩:=own1.rd.shape;subst hs1;simp only;have bq:=af w1 (.cells (yDA r so sc) 95);have l1:=(l0.l b1).l bq;have q1:=ah w1 (yDL r so sc) 95;have r1:=own1.rd.l bq;have b01:=aa (aa b0 b1) bq;clear own1 b1 bq l0 m0 x0 x1 x2 x3 x4 x5 x6 x7 x8 u0 u1 u2 u3;obtain⟨x0,x1,x2,x3,x4,x5,x6,x7,x8⟩:=l1.cs9;obtain⟨q0,qq1,q2⟩:=q1.cs3
 go_wp2_with fail
 refine(HH'.out _ _ _ b01 r1).mono ?_;rintro z w2 ⟨rfl,b2⟩;have l2:=l1.l b2;have q2:=q1.l b2;have r2:=r1.l b2;have b02:=aa b01 b2;clear l1 q1 r1 b01 b2 x0 x1 x2 x3 x4 x5 x6 x7 x8 q0 qq1;obtain⟨x0,x1,x2,x3,x4,x5,x6,x7,x8⟩:=l2.cs9;obtain⟨qq0,qq1,qq2⟩:=q2.cs3
 go_wp2
 go_ret2
 exact⟨rfl,b02⟩
def enS (k:Nat)(ng:Bool)(xs:List Nat)(p:Int):ByteArray:=
 if enE k ng xs p=0 then cF (kU k (plT k (enN k ng xs p).1.s (enN k ng xs p).1.n (enN k ng xs p).1.e).s (heE (rdN k) (lsI k) (gW k) (plT k (enN k ng xs p).1.s (enN k ng xs p).1.n (enN k ng xs p).1.e)) (plT k (enN k ng xs p).1.s (enN k ng xs p).1.n (enN k ng xs p).1.e).d) else⟨#[]⟩
theorem afx (n wy fam R D L G rc:Int)(gr qs:Bool)(ao:Option Addr)(la ca:Nat)(bo:Option Addr)(lb cb:Nat)(E:Int)(ps:Bool)(pd:Nat)(pp:Int)(ex ov un:Bool)(c:Int)(g:Bool)(m:Nat)(q fl:Int)(st:ByteArray)(f1 e1:Int)(X:Value)(w:World)
  (hX0:rc≠0→X= .tuple #[.string ⟨#[]⟩,yi 0,yi rc]) (hX1:rc=0→X= .tuple #[.string st,yi f1,yi e1])
  (HD:yJ 80 #[yi n] (.tuple #[ykV n 0 fam R D L G gr,yi 0]))
  (HR: ∀w1,yB w w1→yC 81 #[yrV qs (.slice ao la ca) (.slice bo lb cb) E,ygV R D L G gr,yi wy] w1 fun z w'=> ∃po pc,z= .returned (.tuple #[ypV ps (yT po pd pc) pp ex ov un,yi rc])∧Rd w' .u32 (yT po pd pc) (Dg.dg 4294967296 pd)∧yB w1 w')
  (HSt:rc=0→ ∀po pc w1,yB w w1→Rd w1 .u32 (yT po pd pc) (Dg.dg 4294967296 pd)→yC 83 #[ykV n wy fam R D L G gr,ypV ps (yT po pd pc) pp ex ov un] w1 (B6 w1 c g m q fl))
  (HEn:rc=0→ ∀vo vc w1,yB w w1→Rd w1 .u32 (yT vo m vc) (Dg.dg 4294967296 m)→yC 82 #[ykV n wy fam R D L G gr,yvV c g (yT vo m vc) q,yi fl] w1 (yR w1 (.tuple #[.string st,yi f1,yi e1]))):
  yC 39 #[yi n,yrV qs (.slice ao la ca) (.slice bo lb cb) E,yi wy] w fun z w'=>z= .returned X∧yB w w':=by
 replace HD:Hid _:=HD;replace HR:Hid _:=HR;replace HSt:Hid _:=HSt;replace HEn:Hid _:=HEn;replace hX0:Hid _:=hX0;replace hX1:Hid _:=hX1;have a0:=af w (.cells (yrA qs (.slice ao la ca) (.slice bo lb cb) E) 25);have q0:=ah w (yrL qs (.slice ao la ca) (.slice bo lb cb) E) 25
 go_enter func39,ntmps39
 go_wp2_with fail
 refine(HD.out _).mono ?_;rintro z w1 ⟨rfl,b1⟩;have al:=af w1 (.cells (ykA n 0 fam R D L G gr) 147);have d1:=ah w1 (ykL n 0 fam R D L G gr) 147;have q1:=(q0.l b1).l al;have b2:=aa (aa a0 b1) al;have hqd:w.heap.size<w1.heap.size:=(q0.l b1).lt;clear a0 b1 al q0 HD
 go_upto_region 2 with fail
 generalize w1.alloc (.cells (ykA n 0 fam R D L G gr) 147)=W1 at b2 d1 q1⊢;generalize w1.heap.size=PD at d1 hqd⊢;have bu:=ag W1 PD 1 (yi wy);have d2:au (W1.setCell ⟨PD,1,none⟩ (yi wy)) PD 147 (ykL n wy fam R D L G gr):=d1.set 1 (yi wy);have q2:=bu.loc q1 (by omega);have b3:=bu.below b2 (by omega);have x1:=d1.c 1 rfl;have f1':=d1.f 1;clear bu d1 q1 b2
 go_upto_region 5 with fail
 generalize W1.setCell ⟨PD,1,none⟩ (yi wy)=W2 at d2 q2 b3⊢;obtain⟨y0,y1,y2,y3,y4,y5,y6,y7⟩:=d2.cs8;obtain⟨z0,z1,z2,z3⟩:=q2.cs4
 go_wp2_with fail
 refine(HR.out _ b3).mono ?_;rintro z w3 ⟨po,pc,rfl,rp,bp⟩;have al:=af w3 (.cells (ypA ps (yT po pd pc) pp ex ov un) 151);have p4:=ah w3 (ypL ps (yT po pd pc) pp ex ov un) 151;have d4:=(d2.l bp).l al;have r4:=rp.l al;have b4:=aa (aa b3 bp) al;clear y0 y1 y2 y3 y4 y5 y6 y7 z0 z1 z2 z3 d2 q2 b3 rp bp al HR x1 f1'
 go_upto_region 6 with fail
 generalize w3.alloc (.cells (ypA ps (yT po pd pc) pp ex ov un) 151)=W4 at d4 p4 r4 b4⊢;generalize w3.heap.size=PP at p4⊢
 by_cases hrc:rc=0
 ·replace HSt:Hid _:=HSt.out hrc
  replace HEn:Hid _:=HEn.out hrc;have hx:=hX1.out hrc;subst hx hrc;clear hX0 hX1
  go_upto_region 8 with fail
  have bW:yB W4 W4.drew:=(Below.refl _ _).drew;have d5:=d4.l bW;have p5:=p4.l bW;have r5:=r4.l bW;have b5:=aa b4 bW;clear bW d4 p4 r4 b4;refine wp_region_held_drew (S:=fun wq=>wq.rangeAt PD 0 (ykL n wy fam R D L G gr)∧wq.rangeAt PP 0 (ypL ps (yT po pd pc) pp ex ov un)) (by kernel_rfl) ⟨d5.range,p5.range⟩ (fun hS0=> ?_)
  refine tq 0 ((ykV n wy fam R D L G gr)) rfl (fun w0 hw0=>fy 147 (.tmp 9) rfl PD 0 (by kernel_rfl) _ _ hw0.1 underlying147 rfl (by kernel_rfl)) hS0 ?_
  refine tq 1 ((ykV n wy fam R D L G gr)) rfl (fun w0 hw0=>fy 147 (.tmp 9) rfl PD 0 (by kernel_rfl) _ _ hw0.1 underlying147 rfl (by kernel_rfl)) hS0 ?_
  refine tq 2 ((ypV ps (yT po pd pc) pp ex ov un)) rfl (fun w0 hw0=>fy 151 (.tmp 11) rfl PP 0 (by kernel_rfl) _ _ hw0.2 underlying151 rfl (by kernel_rfl)) hS0 ?_
  refine wpAnyH_ready (rs:=[3]) (by kernel_rfl) (by simp) ?_;refine AllReadyH.cons rfl (fun K hK=> ?_) AllReadyH.nil
  go_simp
  refine(HSt.out _ _ _ b5 r5).mono ?_;rintro z w6 ⟨u,rfl,r6,b6⟩;obtain⟨vo,vc,hu⟩:=r6.shape;subst hu;refine hK.out _ _ ⟨(d5.l b6).range,(p5.l b6).range⟩ (fun hS6=> ?_)
  have d6:=d5.l b6;have p6:=p5.l b6;have b06:=aa b5 b6;clear hK K b6 d5 p5 r5 b5;refine tq 4 ((yvV c g (yT vo m vc) q)) rfl (fun w0 _=>by go_simp) hS6 ?_
  refine tq 5 (yi fl) rfl (fun w0 _=>by go_simp) hS6 ?_
  refine wpAnyH_ready (rs:=[6]) (by kernel_rfl) (by simp) ?_;refine AllReadyH.cons rfl (fun K hK=> ?_) AllReadyH.nil
  go_simp
  refine(HEn.out _ _ _ b06 r6).mono ?_;rintro z w7 ⟨rfl,b7⟩;refine hK.out _ _ ⟨(d6.l b7).range,(p6.l b7).range⟩ (fun hS7=> ?_)
  have b07:=aa b06 b7;clear hK K b7 d6 p6 b06 r6;refine tq 7 (.string st) rfl (fun w0 _=>by go_simp) hS7 ?_
  refine tq 8 (yi f1) rfl (fun w0 _=>by go_simp) hS7 ?_
  refine tq 9 (yi e1) rfl (fun w0 _=>by go_simp) hS7 ?_
  refine tq 10 (.string st) rfl (fun w0 _=>by go_simp) hS7 ?_
  refine tq 11 (yi f1) rfl (fun w0 _=>by go_simp) hS7 ?_
  refine tq 12 (yi e1) rfl (fun w0 _=>by go_simp) hS7 ?_
  simp only[Act.put,List.getElem_toArray,List.getElem_cons_succ,List.getElem_cons_zero,List.setIfInBounds_toArray,List.set_cons_zero,List.set_cons_succ];refine wpAnyH_done (by kernel_rfl) ?_ _
  go_wp2
  go_ret3
  exact⟨rfl,b07⟩
 ·have hx:=hX0.out hrc
  have hrf:(rc==0)=false:=by simpa using hrc
  subst hx;clear hX0 hX1 HSt HEn hrc
  go_wp2
  go_ret3
  exact⟨rfl,b4⟩
end Go.Proofs.YtpgijbdgljkeeaaGreatDoor
