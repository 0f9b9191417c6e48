/-
  Texts laid together: Co9, Co19, Co20, Ce10, Tx4, Tx7, Tx2, Gh6, Ce5, Rk1, Rk2, BlM.
-/
import Derived.Test.YtdhpndnncmagiaaGreatDoorMa14
import Derived.Test.YtdhpndnncmagiaaGreatDoorMa22
import Derived.Test.YtdhpndnncmagiaaGreatDoorMa23
import Derived.Test.YtdhpndnncmagiaaGreatDoorMa25
set_option maxRecDepth 100000
set_option maxHeartbeats 19200000
namespace Go.Proofs.YtdhpndnncmagiaaGreatDoor
open _root_.Go.Proofs.Tryz
open Go.RowKit
theorem gj (k:Nat)(hk:1≤k∧k≤8)(w:World):yC 214 #[.agg (tS k).toArray] w (yR w (.int .u64 ((wrN k:Nat):Int))):=by
 have HF:=fun w1=>tm k hk w1
 have HL:=fun w1=>xX k hk w1
 rcases bO hk with rfl|rfl|rfl|rfl|rfl|rfl|rfl|rfl
 all_goals first|exact L6 _ _ _ _ _ _ _ _ _ _ w (by decide) HF|exact L7 _ _ _ _ _ _ _ _ _ _ _ w (by decide) HF HL
abbrev Mw:=cwrite_true_mg.1
abbrev Km:=cwrite_true_mg.2
theorem Ku (R D L G fam:Int)(gr:Bool)(sz ex:Nat)(F:Nat)(w:World):yC 162 #[ylV R D L G gr sz ex fam F,yi 1] w (yR w (.tuple #[yfV false 0 0,.bool true])):=by
 have hsf:=cD;have bf:=af (w.alloc (.cells (ylA R D L G gr sz ex fam F) 94)) (.cells (yfA false 0 0) 157);have l0:=(ah w (ylL R D L G gr sz ex fam F) 94).l bf;have m0:=ah (w.alloc (.cells (ylA R D L G gr sz ex fam F) 94)) (yfL false 0 0) 157;have b0:=aa (af w (.cells (ylA R D L G gr sz ex fam F) 94)) bf;rw[World.size_alloc] at m0;clear bf;obtain⟨x0,x1,x2,x3,x4,x5,x6,x7,x8⟩:=l0.cs9;obtain⟨u0,u1,u2⟩:=m0.cs3;have j0:=m0.f 0;have j1:=m0.f 1;have j2:=m0.f 2;have cR:=ah (w.alloc (.cells (ylA R D L G gr sz ex fam F) 94)) (yfL false 0 0) 157;rw[World.size_alloc] at cR;have bR:=aa (af w (.cells (ylA R D L G gr sz ex fam F) 94)) (af _ (.cells (yfA false 0 0) 157));have hl:=run_loadVar_mid (P:=Tryz.prog) _ (w.heap.size+1) 0 157 (yfL false 0 0) _ cR.range underlying157 rfl (by kernel_rfl);have HH:Hid (_∧_):=⟨hl,bR⟩;clear hl bR cR
 go_enter func162,ntmps162
 go_wp2
 obtain⟨hl,bR⟩:=HH.out;exact bodyPost_ret (aj results162 rfl rfl hl) rfl ⟨rfl,bR⟩
theorem MJ (R D L G fam:Int)(gr:Bool)(sz ex:Nat)(F:Nat)(w:World)(hfa:(fam==1)=false):yC 162 #[ylV R D L G gr sz ex fam F,yi 3] w (yR w (.tuple #[yfV false 0 0,.bool false])):=by
 have hsf:=cD;have bf:=af (w.alloc (.cells (ylA R D L G gr sz ex fam F) 94)) (.cells (yfA false 0 0) 157);have l0:=(ah w (ylL R D L G gr sz ex fam F) 94).l bf;have m0:=ah (w.alloc (.cells (ylA R D L G gr sz ex fam F) 94)) (yfL false 0 0) 157;have b0:=aa (af w (.cells (ylA R D L G gr sz ex fam F) 94)) bf;rw[World.size_alloc] at m0;clear bf;obtain⟨x0,x1,x2,x3,x4,x5,x6,x7,x8⟩:=l0.cs9;obtain⟨u0,u1,u2⟩:=m0.cs3;have j0:=m0.f 0;have j1:=m0.f 1;have j2:=m0.f 2;have cR:=ah (w.alloc (.cells (ylA R D L G gr sz ex fam F) 94)) (yfL false 0 0) 157;rw[World.size_alloc] at cR;have bR:=aa (af w (.cells (ylA R D L G gr sz ex fam F) 94)) (af _ (.cells (yfA false 0 0) 157));have hl:=run_loadVar_mid (P:=Tryz.prog) _ (w.heap.size+1) 0 157 (yfL false 0 0) _ cR.range underlying157 rfl (by kernel_rfl);have HH:Hid (_∧_):=⟨hl,bR⟩;clear hl bR cR
 go_enter func162,ntmps162
 go_wp2
 obtain⟨hl,bR⟩:=HH.out;exact bodyPost_ret (aj results162 rfl rfl hl) rfl ⟨rfl,bR⟩
theorem MK (R D L G fam:Int)(gr:Bool)(sz ex:Nat)(F:Nat)(w:World)(hfa:(fam==1)=false):yC 162 #[ylV R D L G gr sz ex fam F,yi 4] w (yR w (.tuple #[yfV false 0 0,.bool false])):=by
 have hsf:=cD;have bf:=af (w.alloc (.cells (ylA R D L G gr sz ex fam F) 94)) (.cells (yfA false 0 0) 157);have l0:=(ah w (ylL R D L G gr sz ex fam F) 94).l bf;have m0:=ah (w.alloc (.cells (ylA R D L G gr sz ex fam F) 94)) (yfL false 0 0) 157;have b0:=aa (af w (.cells (ylA R D L G gr sz ex fam F) 94)) bf;rw[World.size_alloc] at m0;clear bf;obtain⟨x0,x1,x2,x3,x4,x5,x6,x7,x8⟩:=l0.cs9;obtain⟨u0,u1,u2⟩:=m0.cs3;have j0:=m0.f 0;have j1:=m0.f 1;have j2:=m0.f 2;have cR:=ah (w.alloc (.cells (ylA R D L G gr sz ex fam F) 94)) (yfL false 0 0) 157;rw[World.size_alloc] at cR;have bR:=aa (af w (.cells (ylA R D L G gr sz ex fam F) 94)) (af _ (.cells (yfA false 0 0) 157));have hl:=run_loadVar_mid (P:=Tryz.prog) _ (w.heap.size+1) 0 157 (yfL false 0 0) _ cR.range underlying157 rfl (by kernel_rfl);have HH:Hid (_∧_):=⟨hl,bR⟩;clear hl bR cR
 go_enter func162,ntmps162
 go_wp2
 obtain⟨hl,bR⟩:=HH.out;exact bodyPost_ret (aj results162 rfl rfl hl) rfl ⟨rfl,bR⟩
theorem ML (R D L G fam:Int)(gr:Bool)(sz ex:Nat)(F:Nat)(w:World)(hfa:(fam==3)=false):yC 162 #[ylV R D L G gr sz ex fam F,yi 5] w (yR w (.tuple #[yfV false 0 0,.bool false])):=by
 have hsf:=cD;have bf:=af (w.alloc (.cells (ylA R D L G gr sz ex fam F) 94)) (.cells (yfA false 0 0) 157);have l0:=(ah w (ylL R D L G gr sz ex fam F) 94).l bf;have m0:=ah (w.alloc (.cells (ylA R D L G gr sz ex fam F) 94)) (yfL false 0 0) 157;have b0:=aa (af w (.cells (ylA R D L G gr sz ex fam F) 94)) bf;rw[World.size_alloc] at m0;clear bf;obtain⟨x0,x1,x2,x3,x4,x5,x6,x7,x8⟩:=l0.cs9;obtain⟨u0,u1,u2⟩:=m0.cs3;have j0:=m0.f 0;have j1:=m0.f 1;have j2:=m0.f 2;have cR:=ah (w.alloc (.cells (ylA R D L G gr sz ex fam F) 94)) (yfL false 0 0) 157;rw[World.size_alloc] at cR;have bR:=aa (af w (.cells (ylA R D L G gr sz ex fam F) 94)) (af _ (.cells (yfA false 0 0) 157));have hl:=run_loadVar_mid (P:=Tryz.prog) _ (w.heap.size+1) 0 157 (yfL false 0 0) _ cR.range underlying157 rfl (by kernel_rfl);have HH:Hid (_∧_):=⟨hl,bR⟩;clear hl bR cR
 go_enter func162,ntmps162
 go_wp2
 obtain⟨hl,bR⟩:=HH.out;exact bodyPost_ret (aj results162 rfl rfl hl) rfl ⟨rfl,bR⟩
theorem MM (R D L G fam:Int)(gr:Bool)(sz ex:Nat)(F:Nat)(w:World)(hfa:fam=3):yC 162 #[ylV R D L G gr sz ex fam F,yi 5] w (yR w (.tuple #[yfV true 0 0,.bool true])):=by
 subst hfa;have hsf:=cD;have bf:=af (w.alloc (.cells (ylA R D L G gr sz ex 3 F) 94)) (.cells (yfA false 0 0) 157);have l0:=(ah w (ylL R D L G gr sz ex 3 F) 94).l bf;have m0:=ah (w.alloc (.cells (ylA R D L G gr sz ex 3 F) 94)) (yfL false 0 0) 157;have b0:=aa (af w (.cells (ylA R D L G gr sz ex 3 F) 94)) bf;rw[World.size_alloc] at m0;clear bf;obtain⟨x0,x1,x2,x3,x4,x5,x6,x7,x8⟩:=l0.cs9;obtain⟨u0,u1,u2⟩:=m0.cs3;have j0:=m0.f 0;have j1:=m0.f 1;have j2:=m0.f 2;have cR:=ah (w.alloc (.cells (ylA R D L G gr sz ex 3 F) 94)) (yfL true 0 0) 157;rw[World.size_alloc] at cR;have bR:=aa (af w (.cells (ylA R D L G gr sz ex 3 F) 94)) (af _ (.cells (yfA true 0 0) 157));have hl:=run_loadVar_mid (P:=Tryz.prog) _ (w.heap.size+1) 0 157 (yfL true 0 0) _ cR.range underlying157 rfl (by kernel_rfl);have HH:Hid (_∧_):=⟨hl,bR⟩;clear hl bR cR
 go_enter func162,ntmps162
 go_wp2
 obtain⟨hl,bR⟩:=HH.out;exact bodyPost_ret (aj results162 rfl rfl hl) rfl ⟨rfl,bR⟩
abbrev MO:=special_nan_mg.1
abbrev MN:=special_nan_mg.2
theorem MP (k c:Nat)(hk:1≤k∧k≤8)(hc:c=1∨c=3∨c=4∨c=5)(w:World):
  yC 162 #[.agg (tS k).toArray,yi c] w (yR w (.tuple #[yfV (pI k c) ((pg k c:Nat):Int) ((lS k c:Nat):Int),.bool (iR k c)])):=by
 have HO:=fun w1=>jy k hk w1
 have HW:=fun w1=>gj k hk w1
 have HL:=fun w1=>xX k hk w1
 rcases hc with rfl|rfl|rfl|rfl
 ·rw[show pI k 1=false from rfl,show pg k 1=0 from if_neg (fun h=>by omega),show lS k 1=0 from by unfold lS;simp,show iR k 1=true from rfl]
  rcases bO hk with rfl|rfl|rfl|rfl|rfl|rfl|rfl|rfl
  all_goals exact Ku _ _ _ _ _ _ _ _ _ w
 ·rw[show pI k 3=false from rfl]
  by_cases h3:k≤3
  ·rw[show pg k 3=kp k from if_pos ⟨.inl rfl,h3⟩,show lS k 3=wrN k from by unfold lS;rw[if_pos h3,if_pos rfl],show iR k 3=true from by simp[iR,h3]]
   generalize kp k=on at*;generalize wrN k=wr at*
   rcases(by omega:k=1∨k=2∨k=3) with rfl|rfl|rfl
   all_goals exact MN _ _ _ _ _ _ _ _ w _ _ HO HW
  ·rw[show pg k 3=0 from if_neg (fun h=>h3 h.2),show lS k 3=0 from if_neg h3,show iR k 3=false from by simp[iR,h3]]
   rcases(by omega:k=4∨k=5∨k=6∨k=7∨k=8) with rfl|rfl|rfl|rfl|rfl
   all_goals exact MJ _ _ _ _ _ _ _ _ _ w rfl
 ·rw[show pI k 4=false from rfl]
  by_cases h3:k≤3
  ·rw[show pg k 4=kp k from if_pos ⟨.inr rfl,h3⟩,show lS k 4=wrN k|||gW k/2 from by unfold lS;rw[if_pos h3,if_neg (by omega),if_pos rfl],show iR k 4=true from by simp[iR,h3]]
   have hw:wrN k<18446744073709551616:=by rcases(by omega:k=1∨k=2∨k=3) with rfl|rfl|rfl<;>decide
   have hl:gW k<18446744073709551616:=by rcases(by omega:k=1∨k=2∨k=3) with rfl|rfl|rfl<;>decide
   generalize kp k=on at*;generalize wrN k=wr at*;generalize gW k=ld at*
   rcases(by omega:k=1∨k=2∨k=3) with rfl|rfl|rfl
   all_goals exact MO _ _ _ _ _ _ _ _ w _ _ _ hw hl HO HW HL
  ·rw[show pg k 4=0 from if_neg (fun h=>h3 h.2),show lS k 4=0 from if_neg h3,show iR k 4=false from by simp[iR,h3]]
   rcases(by omega:k=4∨k=5∨k=6∨k=7∨k=8) with rfl|rfl|rfl|rfl|rfl
   all_goals exact MK _ _ _ _ _ _ _ _ _ w rfl
 ·rw[show pg k 5=0 from if_neg (fun h=>by omega),show lS k 5=0 from by unfold lS;simp]
  by_cases h6:6≤k
  ·rw[show pI k 5=true from by simp[pI,h6],show iR k 5=true from by simp[iR,h6]]
   rcases(by omega:k=6∨k=7∨k=8) with rfl|rfl|rfl
   all_goals exact MM _ _ _ _ _ _ _ _ _ w rfl
  ·rw[show pI k 5=false from by simp[pI,h6],show iR k 5=false from by simp[iR,h6]]
   rcases(by omega:k=1∨k=2∨k=3∨k=4∨k=5) with rfl|rfl|rfl|rfl|rfl
   all_goals exact ML _ _ _ _ _ _ _ _ _ w rfl
def plT (k:Nat)(s:Bool)(n:Nat)(E:Int):fz:=cI (rdN k) (dgN k) (lsI k) (gsI k) (decide (k≤3)) s n 1 E 3
theorem tratio_0 (ng:Bool)(ds:ByteArray)(p:Int)(w:World)
  (HD: ∀w1,yC 125 #[.string ds] w1 fun z w'=> ∃ao ac,z= .returned (.slice ao 0 ac)∧yB w1 w'):
  yC 59 #[.agg #[.bool ng,.string ds,yi p]] w (RtZ w):=by
 replace HD:Hid _:=HD;obtain⟨W4,hW5,q1,q2,b3⟩:=iG w [.bool ng,.string ds,yi p] 133 (yrL false yN yN 0) 77;replace hW5:Hid _:=hW5
 go_enter func59,ntmps59
 go_upto_region 1 with fail
 rw[hW5.out];clear hW5;have c6:=q1.c 1 rfl
 go_wp2_with fail
 refine(HD.out _).mono ?_;rintro zz w7 ⟨ao,ac,rfl,bb8⟩;have q9:=q2.l bb8;have b10:=aa b3 bb8;clear q1 q2 b3 bb8 HD c6;have hl13:=q9.lt;have al11:=af w7 (.cells #[.int .u32 1] 116);have q12:=ah w7 [.int .u32 1] 116;have q14:=q9.l al11;have b15:=aa b10 al11
 go_upto_region 3 with fail
 clear q9 b10 al11;generalize w7.alloc (.cells #[.int .u32 1] 116)=W16 at q14 q12 b15⊢;have hf:=afz (P:=Tryz.prog) q14 b15 (by omega) underlying77 rfl (by kernel_rfl) (.bool false) yN (.slice (some ⟨w7.heap.size,0,none⟩) 1 1) (yi 0);have HH:Hid (_∧_∧_):=⟨hf.1,hf.2.2.loc q12 (by omega),hf.2.1⟩;obtain⟨⟨z0,z1,z2,z3⟩,y0,y1,y2,y3⟩:=afB q14;clear hf q14 q12 b15
 go_wp2
 obtain⟨hl,lR2,bR⟩:=HH.out;exact bodyPost_ret (br results59 rfl hl) rfl ⟨_,rfl,lR2,bR⟩
abbrev tratio_up:=tratio_up_mg.1
abbrev tratio_down:=tratio_up_mg.2
abbrev tdecOf_t:=tdecOf_t_mg.1
abbrev tdecOf_f:=tdecOf_t_mg.2
theorem tread_okt_e_mg:
  (∀(pp:Int) (tx rz ro af wh be:ByteArray) (ng:Bool) (pw:Int) (w:World) (_:tx.size≤400) (_:wh.size+be.size≤400) (_:be.toList.isEmpty=false) (_:IntKind.i64.wrap (pw-(be.size:Int))=pp) (_: ¬pp< -6000) (_: ¬6000<pp)
  (_:yJ 121 #[.string tx,.string ⟨#[45]⟩] (.tuple #[.string rz,.bool ng]))
  (_:yH w 122 #[.string rz,.string ⟨#[101]⟩] (.tuple #[.string ro,.string af,.bool true]))
  (_:yJ 123 #[.string af] (.tuple #[yi pw,.bool true]))
  (_:yH w 122 #[.string ro,.string ⟨#[46]⟩] (.tuple #[.string wh,.string be,.bool true]))
  (_:yJ 124 #[.string (wh++be)] (.bool true)),
  yC 58 #[.string tx] w (yR w (.tuple #[.agg #[.bool ng,.string (wh++be),yi pp],yi 0])))∧
  (∀(pp:Int) (tx rz ro af wh be:ByteArray) (ng:Bool) (pw:Int) (w:World) (_:tx.size≤400) (_:wh.size+be.size≤400) (_:IntKind.i64.wrap (pw-(be.size:Int))=pp) (_: ¬pp< -6000) (_: ¬6000<pp)
  (_:yJ 121 #[.string tx,.string ⟨#[45]⟩] (.tuple #[.string rz,.bool ng]))
  (_:yH w 122 #[.string rz,.string ⟨#[101]⟩] (.tuple #[.string ro,.string af,.bool true]))
  (_:yJ 123 #[.string af] (.tuple #[yi pw,.bool true]))
  (_:yH w 122 #[.string ro,.string ⟨#[46]⟩] (.tuple #[.string wh,.string be,.bool false]))
  (_:yJ 124 #[.string (wh++be)] (.bool true)),
  yC 58 #[.string tx] w (yR w (.tuple #[.agg #[.bool ng,.string (wh++be),yi pp],yi 0])))∧
  (∀(pp:Int) (tx rz ro af wh be:ByteArray) (ng:Bool) (pw:Int) (w:World) (_:tx.size≤400) (_:wh.size+be.size≤400) (_:be.toList.isEmpty=false) (_:IntKind.i64.wrap (pw-(be.size:Int))=pp) (_: ¬pp< -6000) (_:6000<pp)
  (_:yJ 121 #[.string tx,.string ⟨#[45]⟩] (.tuple #[.string rz,.bool ng]))
  (_:yH w 122 #[.string rz,.string ⟨#[101]⟩] (.tuple #[.string ro,.string af,.bool true]))
  (_:yJ 123 #[.string af] (.tuple #[yi pw,.bool true]))
  (_:yH w 122 #[.string ro,.string ⟨#[46]⟩] (.tuple #[.string wh,.string be,.bool true]))
  (_:yJ 124 #[.string (wh++be)] (.bool true)),
  yC 58 #[.string tx] w (yR w (.tuple #[.agg #[.bool false,.string ⟨#[]⟩,yi 0],yi 3])))∧
  (∀(pp:Int) (tx rz ro af wh be:ByteArray) (ng:Bool) (pw:Int) (w:World) (_:tx.size≤400) (_:wh.size+be.size≤400) (_:IntKind.i64.wrap (pw-(be.size:Int))=pp) (_: ¬pp< -6000) (_:6000<pp)
  (_:yJ 121 #[.string tx,.string ⟨#[45]⟩] (.tuple #[.string rz,.bool ng]))
  (_:yH w 122 #[.string rz,.string ⟨#[101]⟩] (.tuple #[.string ro,.string af,.bool true]))
  (_:yJ 123 #[.string af] (.tuple #[yi pw,.bool true]))
  (_:yH w 122 #[.string ro,.string ⟨#[46]⟩] (.tuple #[.string wh,.string be,.bool false]))
  (_:yJ 124 #[.string (wh++be)] (.bool true)),
  yC 58 #[.string tx] w (yR w (.tuple #[.agg #[.bool false,.string ⟨#[]⟩,yi 0],yi 3])))∧
  (∀(pp:Int) (tx rz ro af wh be:ByteArray) (ng:Bool) (pw:Int) (w:World) (_:tx.size≤400) (_:wh.size+be.size≤400) (_:be.toList.isEmpty=false) (_:IntKind.i64.wrap (pw-(be.size:Int))=pp) (_:pp< -6000)
  (_:yJ 121 #[.string tx,.string ⟨#[45]⟩] (.tuple #[.string rz,.bool ng]))
  (_:yH w 122 #[.string rz,.string ⟨#[101]⟩] (.tuple #[.string ro,.string af,.bool true]))
  (_:yJ 123 #[.string af] (.tuple #[yi pw,.bool true]))
  (_:yH w 122 #[.string ro,.string ⟨#[46]⟩] (.tuple #[.string wh,.string be,.bool true]))
  (_:yJ 124 #[.string (wh++be)] (.bool true)),
  yC 58 #[.string tx] w (yR w (.tuple #[.agg #[.bool false,.string ⟨#[]⟩,yi 0],yi 3])))∧
  (∀(pp:Int) (tx rz ro af wh be:ByteArray) (ng:Bool) (pw:Int) (w:World) (_:tx.size≤400) (_:wh.size+be.size≤400) (_:IntKind.i64.wrap (pw-(be.size:Int))=pp) (_:pp< -6000)
  (_:yJ 121 #[.string tx,.string ⟨#[45]⟩] (.tuple #[.string rz,.bool ng]))
  (_:yH w 122 #[.string rz,.string ⟨#[101]⟩] (.tuple #[.string ro,.string af,.bool true]))
  (_:yJ 123 #[.string af] (.tuple #[yi pw,.bool true]))
  (_:yH w 122 #[.string ro,.string ⟨#[46]⟩] (.tuple #[.string wh,.string be,.bool false]))
  (_:yJ 124 #[.string (wh++be)] (.bool true)),
  yC 58 #[.string tx] w (yR w (.tuple #[.agg #[.bool false,.string ⟨#[]⟩,yi 0],yi 3]))):=by
 refine⟨?_, ?_, ?_, ?_, ?_, ?_⟩;have _z:Mgk 0:=mgkI 0
 rotate_left
 have _z:Mgk 1:=mgkI 1
 rotate_left
 have _z:Mgk 2:=mgkI 2
 rotate_left
 have _z:Mgk 3:=mgkI 3
 rotate_left
 have _z:Mgk 4:=mgkI 4
 rotate_left
 rotate_left
 all_goals
  first| (rename Mgk 0=>_z;intro pp tx rz ro af wh be ng pw w h4 hsz hbe hpp hl hh HP HE HR HQ HD)| (rename Mgk 1=>_z;intro pp tx rz ro af wh be ng pw w h4 hsz hpp hl hh HP HE HR HQ HD)| (rename Mgk 2=>_z;intro pp tx rz ro af wh be ng pw w h4 hsz hbe hpp hl hh HP HE HR HQ HD)| (rename Mgk 3=>_z;intro pp tx rz ro af wh be ng pw w h4 hsz hpp hl hh HP HE HR HQ HD)| (rename Mgk 4=>_z;intro pp tx rz ro af wh be ng pw w h4 hsz hbe hpp hl HP HE HR HQ HD)| (intro pp tx rz ro af wh be ng pw w h4 hsz hpp hl HP HE HR HQ HD)
  replace HP:Hid _:=HP;replace HE:Hid _:=HE;replace HR:Hid _:=HR;replace HQ:Hid _:=HQ;replace HD:Hid _:=HD;obtain⟨W3,hW4,q1,b2⟩:=cA w [.bool false,.string ⟨#[]⟩,yi 0] 133;replace hW4:Hid _:=hW4
  go_enter func58,ntmps58
  go_upto_region 1 with fail
  rw[hW4.out];clear hW4
  go_wp2_with fail
  refine(HP.out _).mono ?_;rintro zz w5 ⟨rfl,bb6⟩;have q7:=q1.l bb6;have b8:=aa b2 bb6;clear q1 b2 bb6 HP
  go_wp2_with fail
  refine(HE.out _ b8).mono ?_;rintro zz w9 ⟨rfl,bb10⟩;have q11:=q7.l bb10;have b12:=aa b8 bb10;clear q7 b8 bb10 HE
  go_wp2_with fail
  refine(HR.out _).mono ?_;rintro zz w13 ⟨rfl,bb14⟩;have q15:=q11.l bb14;have b16:=aa b12 bb14;clear q11 b12 bb14 HR
  go_wp2_with fail
  refine(HQ.out _ b16).mono ?_;rintro zz w17 ⟨rfl,bb18⟩;have q19:=q15.l bb18;have b20:=aa b16 bb18;clear q15 b16 bb18 HQ
  go_wp2_with fail
  refine(HD.out _).mono ?_;rintro zz w21 ⟨rfl,bb22⟩;have q23:=q19.l bb22;have b24:=aa b20 bb22;clear q19 b20 bb22 HD
  first| (rename Mgk 0=>_z;have hf:=afy (P:=Tryz.prog) q23 b24 (by omega) underlying133 rfl (by kernel_rfl) (.bool ng) (.string (wh++be)) (yi pp))| (rename Mgk 1=>_z;have hf:=afy (P:=Tryz.prog) q23 b24 (by omega) underlying133 rfl (by kernel_rfl) (.bool ng) (.string (wh++be)) (yi pp))| (rename Mgk 2=>_z;have hf:=afy (P:=Tryz.prog) q23 b24 (by omega) underlying133 rfl (by kernel_rfl) (.bool false) (.string ⟨#[]⟩) (yi 0))| (rename Mgk 3=>_z;have hf:=afy (P:=Tryz.prog) q23 b24 (by omega) underlying133 rfl (by kernel_rfl) (.bool false) (.string ⟨#[]⟩) (yi 0))| (rename Mgk 4=>_z;have hf:=afy (P:=Tryz.prog) q23 b24 (by omega) underlying133 rfl (by kernel_rfl) (.bool false) (.string ⟨#[]⟩) (yi 0))| (have hf:=afy (P:=Tryz.prog) q23 b24 (by omega) underlying133 rfl (by kernel_rfl) (.bool false) (.string ⟨#[]⟩) (yi 0))
  have HH:Hid (_∧_):=⟨hf.1,hf.2.1⟩;obtain⟨⟨z0,z1,z2⟩,y0,y1,y2⟩:=afA q23;clear hf q23 b24
  go_wp2
  obtain⟨hl,bR⟩:=HH.out;exact bodyPost_ret (aj results58 rfl rfl hl) rfl ⟨rfl,bR⟩
theorem aa8 (R D L G:Int)(gr s:Bool)(ao:Option Addr)(la ca:Nat)(e c:Int)(hd:Bool)(rd:Nat)(rk:Int)(w:World)
  (HF: ∀w1,yB w w1→yC 211 #[ydV s (.slice ao la ca) e,ygV R D L G gr] w1 (DM w1 hd rd rk c)):
  yC 160 #[ydV s (.slice ao la ca) e,ygV R D L G gr] w (yR w (.tuple #[.bool hd,yi c])):=by
 replace HF:Hid _:=HF;have b1:=aa (af w (.cells (ydA s (.slice ao la ca) e) 59)) (af _ (.cells (ygA R D L G gr) 49));have q1:=(ah w (ydL s (.slice ao la ca) e) 59).l (af _ (.cells (ygA R D L G gr) 49));have g1:=ah (w.alloc (.cells (ydA s (.slice ao la ca) e) 59)) (ygL R D L G gr) 49;simp only[World.size_alloc] at g1;obtain⟨x0,x1,x2,x3,x4⟩:=g1.cs5;obtain⟨y0,y1,y2⟩:=q1.cs3
 go_enter func160,ntmps160
 go_wp2_with fail
 refine(HF.out _ b1).mono ?_;rintro z w2 ⟨u,rfl,ou,bb2⟩;obtain⟨so,sc,hu⟩:=ou.rd.shape;subst hu;clear ou x0 x1 x2 x3 x4 y0 y1 y2;have b2:=aa b1 bb2;have b3:=aa b2 (af w2 (.cells #[yT so rd sc,yi rk] 212))
 go_wp2
 go_ret2
 exact⟨rfl,b3⟩
theorem Je (R D L G fam:Int)(gr:Bool)(sz ex:Nat)(F:Nat)(c p:Int)(ng:Bool)(ao:Option Addr)(dn dc:Nat)(r:ak×Int)(w:World)
  (HN: ∀w1,yB w w1→yC 74 #[ypV ng (.slice ao dn dc) p false false false,ygV R D L G gr] w1 (gR w1 r)):
  yC 159 #[ylV R D L G gr sz ex fam F,yvV c ng (.slice ao dn dc) p] w (gR w r):=by
 have hsf:=cD;have HN':Hid _:=HN;have bl:=af w (.cells (ylA R D L G gr sz ex fam F) 94);have bv:=af (w.alloc (.cells (ylA R D L G gr sz ex fam F) 94)) (.cells (yvA c ng (.slice ao dn dc) p) 57);have bd:=af ((w.alloc (.cells (ylA R D L G gr sz ex fam F) 94)).alloc (.cells (yvA c ng (.slice ao dn dc) p) 57)) (.cells (ydA false yN 0) 59);have d0:=ah ((w.alloc (.cells (ylA R D L G gr sz ex fam F) 94)).alloc (.cells (yvA c ng (.slice ao dn dc) p) 57)) (ydL false yN 0) 59;have b0:=aa (aa bl bv) bd;rw[World.size_alloc,World.size_alloc] at d0;clear HN bl bv bd
 go_enter func159,ntmps159
 go_wp2_with fail
 refine(HN'.out _ b0).mono ?_;rintro z w1 ⟨s1,rfl,own1,b1⟩;obtain⟨so,sc,hs1⟩:=own1.rd.shape;subst hs1;have d1:=d0.l b1;have b01:=aa b0 b1;have bu:=((ag w1 (w.heap.size+1+1) 0 (.bool r.1.s)).trans (ag _ (w.heap.size+1+1) 1 (yT so r.1.n sc))).trans (ag _ (w.heap.size+1+1) 2 (yi r.1.e));have cR:au (((w1.setCell ⟨w.heap.size+1+1,0,none⟩ (.bool r.1.s)).setCell ⟨w.heap.size+1+1,1,none⟩ (yT so r.1.n sc)).setCell ⟨w.heap.size+1+1,2,none⟩ (yi r.1.e)) (w.heap.size+1+1) 59 (ydL r.1.s (yT so r.1.n sc) r.1.e):=(((d1.set 0 (.bool r.1.s)).set 1 (yT so r.1.n sc)).set 2 (yi r.1.e));have oR:=(bu.own own1 d1 (by decide)).lower b0.size;have bR:=bu.below b01 (by omega);have hl:=run_loadVar_mid (P:=Tryz.prog) _ (w.heap.size+1+1) 0 59 (ydL r.1.s (yT so r.1.n sc) r.1.e) _ cR.range underlying59 rfl (by kernel_rfl);have HH:Hid (_∧_∧_):=⟨hl,oR,bR⟩;obtain⟨x0,x1,x2⟩:=d1.cs3;have j0:=d1.f 0;have j1:=d1.f 1;have j2:=d1.f 2;clear hl oR bR cR bu d1 d0 b01 b1 own1 b0
 go_wp2
 obtain⟨hl,oR,bR⟩:=HH.out;exact bodyPost_ret (aj results159 rfl rfl hl) rfl ⟨_,rfl,oR,bR⟩
theorem encNum_low_mg:
  (∀(R D L G fam:Int) (gr:Bool) (sz ex:Nat) (F:Nat) (c p:Int) (ng:Bool) (ao:Option Addr) (dn dc:Nat) (w:World) (_:p< -20000),
  yC 91 #[ylV R D L G gr sz ex fam F,yvV c ng (.slice ao dn dc) p] w (yR w (.tuple #[.string ⟨#[]⟩,yi 3])))∧
  (∀(R D L G fam:Int) (gr:Bool) (sz ex:Nat) (F:Nat) (c p:Int) (ng:Bool) (ao:Option Addr) (dn dc:Nat) (w:World) (_:20000<p),
  yC 91 #[ylV R D L G gr sz ex fam F,yvV c ng (.slice ao dn dc) p] w (yR w (.tuple #[.string ⟨#[]⟩,yi 3]))):=by
 refine⟨?_, ?_⟩;have _z:Mgk 0:=mgkI 0
 all_goals
  intro R D L G fam gr sz ex F c p ng ao dn dc w hp
  first| (rename Mgk 0=>_z)| (have hp1: ¬p< -20000:=by omega)
  have hsf:=cD;have bv:=af (w.alloc (.cells (ylA R D L G gr sz ex fam F) 94)) (.cells (yvA c ng (.slice ao dn dc) p) 57);have l0:=(ah w (ylL R D L G gr sz ex fam F) 94).l bv;have m0:=ah (w.alloc (.cells (ylA R D L G gr sz ex fam F) 94)) (yvL c ng (.slice ao dn dc) p) 57;have b0:=aa (af w (.cells (ylA R D L G gr sz ex fam F) 94)) bv;rw[World.size_alloc] at m0;clear bv;obtain⟨x0,x1,x2,x3,x4,x5,x6,x7,x8⟩:=l0.cs9;obtain⟨u0,u1,u2,u3⟩:=m0.cs4
  go_enter func91,ntmps91
  go_wp2
  go_ret2
  exact⟨rfl,b0⟩
theorem KO (R D L G fam:Int)(gr:Bool)(sz ex:Nat)(F:Nat)(c p:Int)(ng:Bool)(ao:Option Addr)(dn dc:Nat)(w:World)(hpa: -20000≤p)(hpb:p≤20000)(hd:dn=0):
  yC 91 #[ylV R D L G gr sz ex fam F,yvV c ng (.slice ao dn dc) p] w (yR w (.tuple #[.string ⟨#[]⟩,yi 4])):=by
 subst hd;have hp1: ¬p< -20000:=by omega
 have hp2: ¬20000<p:=by omega
 have hsf:=cD;have bv:=af (w.alloc (.cells (ylA R D L G gr sz ex fam F) 94)) (.cells (yvA c ng (.slice ao 0 dc) p) 57);have l0:=(ah w (ylL R D L G gr sz ex fam F) 94).l bv;have m0:=ah (w.alloc (.cells (ylA R D L G gr sz ex fam F) 94)) (yvL c ng (.slice ao 0 dc) p) 57;have b0:=aa (af w (.cells (ylA R D L G gr sz ex fam F) 94)) bv;rw[World.size_alloc] at m0;clear bv;obtain⟨x0,x1,x2,x3,x4,x5,x6,x7,x8⟩:=l0.cs9;obtain⟨u0,u1,u2,u3⟩:=m0.cs4
 go_enter func91,ntmps91
 go_wp2
 go_ret2
 exact⟨rfl,b0⟩
theorem Q8 (R D L G fam:Int)(gr:Bool)(sz ex:Nat)(F:Nat)(c p:Int)(ng:Bool)(ao:Option Addr)(dn dc:Nat)(w:World)
  (r:ak) (er:Int) (HN: ∀w1,yB w w1→yC 159 #[ylV R D L G gr sz ex fam F,yvV c ng (.slice ao dn dc) p] w1 (gR w1 (r,er))) (hpa: -20000≤p) (hpb:p≤20000) (hd:0<dn) (he:er≠0):
  yC 91 #[ylV R D L G gr sz ex fam F,yvV c ng (.slice ao dn dc) p] w (yR w (.tuple #[.string ⟨#[]⟩,yi 4])):=by
 have hp1: ¬p< -20000:=by omega
 have hp2: ¬20000<p:=by omega
 have HN':Hid _:=HN;have hdI:((dn:Int)==0)=false:=by simp;omega
 clear HN;have heb:(er==0)=false:=by simpa using he
 have hsf:=cD;have bv:=af (w.alloc (.cells (ylA R D L G gr sz ex fam F) 94)) (.cells (yvA c ng (.slice ao dn dc) p) 57);have l0:=(ah w (ylL R D L G gr sz ex fam F) 94).l bv;have m0:=ah (w.alloc (.cells (ylA R D L G gr sz ex fam F) 94)) (yvL c ng (.slice ao dn dc) p) 57;have b0:=aa (af w (.cells (ylA R D L G gr sz ex fam F) 94)) bv;rw[World.size_alloc] at m0;clear bv;obtain⟨x0,x1,x2,x3,x4,x5,x6,x7,x8⟩:=l0.cs9;obtain⟨u0,u1,u2,u3⟩:=m0.cs4
 go_enter func91,ntmps91
 go_wp2_with fail
 refine(HN'.out _ b0).mono ?_;rintro z w1 ⟨s1,rfl,own1,b1⟩;obtain⟨so,sc,hs1⟩:=own1.rd.shape;subst hs1;simp only;have bq:=af w1 (.cells (yDA r so sc) 59);have l1:=(l0.l b1).l bq;have q1:=ah w1 (yDL r so sc) 59;have r1:=own1.rd.l bq;have b01:=aa (aa b0 b1) bq;clear own1 b1 bq l0 m0 x0 x1 x2 x3 x4 x5 x6 x7 x8 u0 u1 u2 u3;obtain⟨x0,x1,x2,x3,x4,x5,x6,x7,x8⟩:=l1.cs9;obtain⟨q0,qq1,q2⟩:=q1.cs3
 go_wp2
 go_ret2
 exact⟨rfl,b01⟩
theorem QX {R D L G:Int}{gr qs:Bool}{N1 M1 N2 M2:Nat}{E1 E2 way:Int}(m1:M1≠0)(m2:M2≠0)(ht:dY N1 M1 E1=dY N2 M2 E2)
  (h1:eZ N1 (E1-((ai R:Int)*dj R D L gr N1 M1 E1-1))/dX M1 (E1-((ai R:Int)*dj R D L gr N1 M1 E1-1))=eZ N2 (E2-((ai R:Int)*dj R D L gr N1 M1 E1-1))/dX M2 (E2-((ai R:Int)*dj R D L gr N1 M1 E1-1)))
  (h2:eZ N1 (E1-((ai R:Int)*dj R D L gr N1 M1 E1-1)) % dX M1 (E1-((ai R:Int)*dj R D L gr N1 M1 E1-1))=0↔eZ N2 (E2-((ai R:Int)*dj R D L gr N1 M1 E1-1)) % dX M2 (E2-((ai R:Int)*dj R D L gr N1 M1 E1-1))=0):
  cI R D L G gr qs N1 M1 E1 way=cI R D L G gr qs N2 M2 E2 way:=by
 have hc:dj R D L gr N2 M2 E2=dj R D L gr N1 M1 E1:=by unfold dj;rw[ht]
 obtain⟨c,hC⟩: ∃c,(ai R:Int)*dj R D L gr N1 M1 E1=c:=⟨_,rfl⟩;have s1:=Gk (jO m1 (E1-c+1)) (jO m1 (E1-c)) (NH N1 M1 (E1-c));have s2:=Gk (jO m2 (E2-c+1)) (jO m2 (E2-c)) (NH N2 M2 (E2-c));rw[hC,show E1-(c-1)=E1-c+1 from by omega,show E2-(c-1)=E2-c+1 from by omega] at h1 h2
 rw[h1] at s1;have hz: ∀x:Int,(if eZ N1 (E1-c+1) % dX M1 (E1-c+1)=0 then(0:Int) else x)=if eZ N2 (E2-c+1) % dX M2 (E2-c+1)=0 then 0 else x:=fun x=>by
  by_cases g:eZ N1 (E1-c+1) % dX M1 (E1-c+1)=0
  ·rw[if_pos g,if_pos (h2.1 g)]
  ·rw[if_neg g,if_neg (fun k=>g (h2.2 k))]
 have w:cH R D L gr N1 M1 E1=cH R D L gr N2 M2 E2:=by
  unfold cH shP;rw[hc,hC,s1.1,s2.1]
 have l:(gF R D L gr N1 M1 E1=0)=(gF R D L gr N2 M2 E2=0):=by
  unfold gF shP;rw[hc,hC];refine propext (s1.2.1.trans (Iff.trans ?_ s2.2.1.symm));rw[h2]
 have l':decide (gF R D L gr N1 M1 E1=0)=decide (gF R D L gr N2 M2 E2=0):=by simp only[l]
 have g:rf R D L gr qs N1 M1 E1 way=rf R D L gr qs N2 M2 E2 way:=by
  unfold rf;rw[w];have k1:=s1.2.2;have k2:=s2.2.2;rw[hz] at k1;unfold gF shP;rw[hc,hC,k1,k2]
 have d:fM R D L gr qs N1 M1 E1 way=fM R D L gr qs N2 M2 E2 way:=by
  unfold fM;rw[w,g,l']
 unfold cI;rw[d,l',ht,hc]
theorem AC {R D L G J:Int}{gr qs:Bool}{N1 M1 N2 M2:Nat}{E1 E2 way:Int}(n1:N1≠0)(m1:M1≠0)(n2:N2≠0)(m2:M2≠0)(hD:1≤D)(hw:ai R*D.toNat≤64)(h:ut J N1 M1 E1 N2 M2 E2)(hJ:J+64≤dY N1 M1 E1):
  cI R D L G gr qs N1 M1 E1 way=cI R D L G gr qs N2 M2 E2 way:=by
 have hc:J≤(ai R:Int)*dj R D L gr N1 M1 E1-1:=by
  have h1:aT R D (dY N1 M1 E1)≤dj R D L gr N1 M1 E1:=by
   unfold dj
   split
   ·rename_i g
    simp at g;omega
   ·omega
  have h2:(ai R:Int)*aT R D (dY N1 M1 E1)≤(ai R:Int)*dj R D L gr N1 M1 E1:=Int.mul_le_mul_of_nonneg_left h1 (by omega);have h3:dY N1 M1 E1-63≤(ai R:Int)*aT R D (dY N1 M1 E1):=by
   unfold aT;have hw1:=eN R;have e:=Int.mul_ediv_add_emod (dY N1 M1 E1) (ai R);have l:=Int.emod_lt_of_pos (dY N1 M1 E1) (b:=(ai R:Int)) (by omega);rw[Int.mul_sub];have hd:((ai R*D.toNat:Nat):Int)=(ai R:Int)*D:=by rw[Int.natCast_mul,Int.toNat_of_nonneg (by omega)]
   rw[Int.mul_sub,Int.mul_one];omega
  omega
 obtain⟨g1,g2⟩:=h _ hc;exact QX m1 m2 (Zv n1 m1 n2 m2 h (by omega)) g1 g2
theorem Um (t:ak)(h0:t.n≠0):ut (t.e+((bitLen t.n-128:Nat):Int)) t.n 1 t.e (eQ t).n 1 (eQ t).e:=by
 unfold eQ
 by_cases g:bitLen t.n≤128
 ·rw[if_pos g]
  exact fun j _=>⟨rfl,Iff.rfl⟩
 ·rw[if_neg g]
  obtain⟨sp,hs⟩: ∃s,bitLen t.n-128=s:=⟨_,rfl⟩;rw[hs];have h1:ut (t.e+(sp:Int)) t.n 1 t.e t.n (2^sp) (t.e+(sp:Int)):=fun j _=>by
   refine qG (jO (by omega) _) (jO (by have:=bG sp;omega) _) ?_;rw[fw,fw,eM,eM];rw[Nat.one_mul,Nat.mul_assoc,Nat.mul_assoc,←Nat.pow_add,←Nat.pow_add,←Nat.pow_add];refine congrArg (fun x=>t.n*2^x) ?_
   omega
  have h2:=vP t.n (2^sp) 0 (t.e+(sp:Int)) t.s (decide (tz t.n<sp)) (by have:=bG sp;omega) (by
   rw[Nat.pow_zero,Nat.mul_one,decide_eq_decide];have:=FC (k:=sp) h0;rw[Nat.dvd_iff_mod_eq_zero] at this;omega)
  simp only[Nat.pow_zero,Nat.mul_one,Int.natCast_zero,Int.sub_zero] at h2;have h3:=h1.trans h2;exact h3.mono (by omega)
theorem BT.l {W W':World}{base:Nat}{v:Value}(h:BT W base v)(hb:yB W W'):BT W' base v:=by
 obtain⟨p,h1,h2,h3,h4⟩:=h;exact⟨p,h1,h2,h3.l hb,h4.l hb⟩
theorem V4.l {W W':World}{base:Nat}{v:Value}(h:V4 W base v)(hb:yB W W'):V4 W' base v:=by
 obtain⟨p,h1,h2,h3,h4⟩:=h;exact⟨p,h1,h2,h3.l hb,h4.l hb⟩
theorem RB6.l {W W':World}{v:Value}{x y:ak}(h:RB6 W v x y)(hb:yB W W'):RB6 W' v x y:=by
 obtain⟨p,q,h1,h2,h3⟩:=h;exact⟨p,q,h1,h2.l hb,h3.l hb⟩
end Go.Proofs.YtdhpndnncmagiaaGreatDoor
