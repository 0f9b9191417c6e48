/-
  Texts laid together: Fi6.
-/
import Derived.Test.YtpgijbdgljkeeaaGreatDoorUc04
set_option maxRecDepth 100000
set_option maxHeartbeats 3200000
namespace Go.Proofs.YtpgijbdgljkeeaaGreatDoor
open _root_.Go.Proofs.Tryz
open Go.RowKit
def RVG (w:World)(c:Int)(g:Bool)(t:ak)(fl:Int)(z:Ending)(w':World):Prop:=
 ∃s,z= .returned (.tuple #[yoV c g t.s s t.e,yi fl])∧Rd w' .i64 s (Dg.dg 65536 t.n)∧Far w.heap.size s∧yB w w'
theorem RVG.near {w:World}{c:Int}{g:Bool}{t:ak}{fl:Int}{z:Ending}{w':World}(h:RVG w c g t fl z w'):RVF w c g t fl z w':=by
 obtain⟨s,h1,h2,-,h3⟩:=h;exact⟨s,h1,h2,h3⟩
theorem jt (B n c:Nat):Far B (.slice none n c):=fun a n' c' h=>by cases h
theorem refPl_o3 (ex:Bool)(n f0 f1 f2 R D L G pp wy:Int)(gr ok ps un:Bool)(po:Option Addr)(pd pc:Nat)(w:World)(HF:yJ 14 #[yi n] (.tuple #[yhV f0 f1 f2 R D L G gr 3,.bool ok]))
  (HN:yJ 85 #[yi n] (yoV 5 false false yN 0)):
  yC 41 #[yi n,ypV ps (yS po pd pc) pp ex true un,yi wy] w (RVG w 5 false ⟨false,0,0⟩ 5):=by
 replace HF:Hid _:=HF;replace HN:Hid _:=HN;obtain⟨W4,hW5,q1,q2,b3⟩:=iG w (ypL ps (yS po pd pc) pp ex true un) 91 (yoL 0 false false yN 0) 49;replace hW5:Hid _:=hW5
 cases ex
 all_goals
  go_enter func41,ntmps41
  go_upto_region 1 with fail
  rw[hW5.out];clear hW5
  go_wp2_with fail
  refine(HF.out _).mono ?_;rintro zz w6 ⟨rfl,bb7⟩;have q8:=q1.l bb7;have q9:=q2.l bb7;have b10:=aa b3 bb7;clear q1 q2 b3 bb7 HF;obtain⟨W14,hW13,q12,al11⟩:=cA w6 (yhL f0 f1 f2 R D L G gr 3) 42;replace hW13:Hid _:=hW13;have hl15:w.heap.size≤w6.heap.size:=b10.size;have hl16:=q9.lt;have q17:=q8.l al11;have q18:=q9.l al11;have b19:=aa b10 al11;clear q8 q9 b10 al11
  go_upto_region 2 with fail
  rw[hW13.out];clear hW13;have c20:=q17.c 3 rfl;have c21:=q17.c 4 rfl;have c22:=q12.c 8 rfl
  go_wp2_with fail
  refine(HN.out _).mono ?_;rintro zz w23 ⟨rfl,bb24⟩;have q25:=q18.l bb24;have b26:=aa b19 bb24;clear q17 q18 q12 b19 bb24 HN c20 c21 c22;have hf:=dL (P:=Tryz.prog) q25 b26 (by omega) underlying49 rfl (by kernel_rfl) (yi 5) (.bool false) (.bool false) yN (yi 0);have HH:Hid (_∧_):=⟨hf.1,hf.2.1⟩;obtain⟨⟨z0,z1,z2,z3,z4⟩,y0,y1,y2,y3,y4⟩:=dN q25;clear hf q25 b26
  go_wp2
  obtain⟨hl,bR⟩:=HH.out;exact bodyPost_ret (aj results41 rfl rfl hl) rfl ⟨_,rfl,aN _ _,jt _ _ _,bR⟩
theorem refPl_o2 (ex:Bool)(t:ak)(n f0 f1 f2 R D L G pp wy:Int)(gr ok ps un:Bool)(po:Option Addr)(pd pc:Nat)(w:World)(HF:yJ 14 #[yi n] (.tuple #[yhV f0 f1 f2 R D L G gr 2,.bool ok]))
  (HG: ∀w1,yC 84 #[yi n,.bool ps] w1 (RVg w1 2 ps t)):
  yC 41 #[yi n,ypV ps (yS po pd pc) pp ex true un,yi wy] w (RVG w 2 ps t 5):=by
 replace HF:Hid _:=HF;replace HG:Hid _:=HG;obtain⟨W4,hW5,q1,q2,b3⟩:=iG w (ypL ps (yS po pd pc) pp ex true un) 91 (yoL 0 false false yN 0) 49;replace hW5:Hid _:=hW5
 cases ex
 all_goals
  go_enter func41,ntmps41
  go_upto_region 1 with fail
  rw[hW5.out];clear hW5
  go_wp2_with fail
  refine(HF.out _).mono ?_;rintro zz w6 ⟨rfl,bb7⟩;have q8:=q1.l bb7;have q9:=q2.l bb7;have b10:=aa b3 bb7;clear q1 q2 b3 bb7 HF;obtain⟨W14,hW13,q12,al11⟩:=cA w6 (yhL f0 f1 f2 R D L G gr 2) 42;replace hW13:Hid _:=hW13;have hl15:w.heap.size≤w6.heap.size:=b10.size;have hl16:=q9.lt;have q17:=q8.l al11;have q18:=q9.l al11;have b19:=aa b10 al11;clear q8 q9 b10 al11
  go_upto_region 2 with fail
  rw[hW13.out];clear hW13;have c20:=q17.c 0 rfl;have c21:=q17.c 3 rfl;have c22:=q17.c 4 rfl;have c23:=q12.c 8 rfl
  go_wp2_with fail
  refine(HG.out _).mono ?_;rintro zz w24 ⟨v126,rfl,r127,ff1,bb25⟩;have ff:=ff1.mono b19.size;clear ff1;have q28:=q18.l bb25;have b29:=aa b19 bb25;obtain⟨so,sc,hv⟩:=r127.shape;subst hv;clear q17 q18 q12 b19 bb25 HG c20 c21 c22 c23;have hf:=dL (P:=Tryz.prog) q28 b29 (by omega) underlying49 rfl (by kernel_rfl) (yi 2) (.bool ps) (.bool t.s) (yS so t.n sc) (yi t.e);have HH:Hid (_∧_∧_):=⟨hf.1,hf.2.2.rd r127 (mu r127 q28),hf.2.1⟩;obtain⟨⟨z0,z1,z2,z3,z4⟩,y0,y1,y2,y3,y4⟩:=dN q28;clear hf q28 r127 b29
  go_wp2
  obtain⟨hl,rRs,bR⟩:=HH.out;exact bodyPost_ret (aj results41 rfl rfl hl) rfl ⟨_,rfl,rRs,ff,bR⟩
theorem refPl_i3 (ex:Bool)(t:ak)(n f0 f1 f2 R D L G pp:Int)(gr ok ps un:Bool)(po:Option Addr)(pd pc:Nat)(w:World)(HF:yJ 14 #[yi n] (.tuple #[yhV f0 f1 f2 R D L G gr 1,.bool ok]))
  (HG: ∀w1,yC 84 #[yi n,.bool ps] w1 (RVg w1 2 ps t)):
  yC 41 #[yi n,ypV ps (yS po pd pc) pp ex true un,yi 3] w (RVG w 2 ps t 5):=by
 replace HF:Hid _:=HF;replace HG:Hid _:=HG;obtain⟨W4,hW5,q1,q2,b3⟩:=iG w (ypL ps (yS po pd pc) pp ex true un) 91 (yoL 0 false false yN 0) 49;replace hW5:Hid _:=hW5
 cases ex
 all_goals
  go_enter func41,ntmps41
  go_upto_region 1 with fail
  rw[hW5.out];clear hW5
  go_wp2_with fail
  refine(HF.out _).mono ?_;rintro zz w6 ⟨rfl,bb7⟩;have q8:=q1.l bb7;have q9:=q2.l bb7;have b10:=aa b3 bb7;clear q1 q2 b3 bb7 HF;obtain⟨W14,hW13,q12,al11⟩:=cA w6 (yhL f0 f1 f2 R D L G gr 1) 42;replace hW13:Hid _:=hW13;have hl15:w.heap.size≤w6.heap.size:=b10.size;have hl16:=q9.lt;have q17:=q8.l al11;have q18:=q9.l al11;have b19:=aa b10 al11;clear q8 q9 b10 al11
  go_upto_region 2 with fail
  rw[hW13.out];clear hW13;have c20:=q17.c 0 rfl;have c21:=q17.c 3 rfl;have c22:=q17.c 4 rfl;have c23:=q12.c 8 rfl
  go_wp2_with fail
  refine(HG.out _).mono ?_;rintro zz w24 ⟨v126,rfl,r127,ff1,bb25⟩;have ff:=ff1.mono b19.size;clear ff1;have q28:=q18.l bb25;have b29:=aa b19 bb25;obtain⟨so,sc,hv⟩:=r127.shape;subst hv;clear q17 q18 q12 b19 bb25 HG c20 c21 c22 c23;have hf:=dL (P:=Tryz.prog) q28 b29 (by omega) underlying49 rfl (by kernel_rfl) (yi 2) (.bool ps) (.bool t.s) (yS so t.n sc) (yi t.e);have HH:Hid (_∧_∧_):=⟨hf.1,hf.2.2.rd r127 (mu r127 q28),hf.2.1⟩;obtain⟨⟨z0,z1,z2,z3,z4⟩,y0,y1,y2,y3,y4⟩:=dN q28;clear hf q28 r127 b29
  go_wp2
  obtain⟨hl,rRs,bR⟩:=HH.out;exact bodyPost_ret (aj results41 rfl rfl hl) rfl ⟨_,rfl,rRs,ff,bR⟩
theorem refPl_i4 (ex:Bool)(t:ak)(n f0 f1 f2 R D L G pp:Int)(gr ok un:Bool)(po:Option Addr)(pd pc:Nat)(w:World)(HF:yJ 14 #[yi n] (.tuple #[yhV f0 f1 f2 R D L G gr 1,.bool ok]))
  (HG: ∀w1,yC 84 #[yi n,.bool true] w1 (RVg w1 2 true t)):
  yC 41 #[yi n,ypV true (yS po pd pc) pp ex true un,yi 4] w (RVG w 2 true t 5):=by
 replace HF:Hid _:=HF;replace HG:Hid _:=HG;obtain⟨W4,hW5,q1,q2,b3⟩:=iG w (ypL true (yS po pd pc) pp ex true un) 91 (yoL 0 false false yN 0) 49;replace hW5:Hid _:=hW5
 cases ex
 all_goals
  go_enter func41,ntmps41
  go_upto_region 1 with fail
  rw[hW5.out];clear hW5
  go_wp2_with fail
  refine(HF.out _).mono ?_;rintro zz w6 ⟨rfl,bb7⟩;have q8:=q1.l bb7;have q9:=q2.l bb7;have b10:=aa b3 bb7;clear q1 q2 b3 bb7 HF;obtain⟨W14,hW13,q12,al11⟩:=cA w6 (yhL f0 f1 f2 R D L G gr 1) 42;replace hW13:Hid _:=hW13;have hl15:w.heap.size≤w6.heap.size:=b10.size;have hl16:=q9.lt;have q17:=q8.l al11;have q18:=q9.l al11;have b19:=aa b10 al11;clear q8 q9 b10 al11
  go_upto_region 2 with fail
  rw[hW13.out];clear hW13;have c20:=q17.c 0 rfl;have c21:=q17.c 3 rfl;have c22:=q17.c 4 rfl;have c23:=q12.c 8 rfl
  go_wp2_with fail
  refine(HG.out _).mono ?_;rintro zz w24 ⟨v126,rfl,r127,ff1,bb25⟩;have ff:=ff1.mono b19.size;clear ff1;have q28:=q18.l bb25;have b29:=aa b19 bb25;obtain⟨so,sc,hv⟩:=r127.shape;subst hv;clear q17 q18 q12 b19 bb25 HG c20 c21 c22 c23;have hf:=dL (P:=Tryz.prog) q28 b29 (by omega) underlying49 rfl (by kernel_rfl) (yi 2) (.bool true) (.bool t.s) (yS so t.n sc) (yi t.e);have HH:Hid (_∧_∧_):=⟨hf.1,hf.2.2.rd r127 (mu r127 q28),hf.2.1⟩;obtain⟨⟨z0,z1,z2,z3,z4⟩,y0,y1,y2,y3,y4⟩:=dN q28;clear hf q28 r127 b29
  go_wp2
  obtain⟨hl,rRs,bR⟩:=HH.out;exact bodyPost_ret (aj results41 rfl rfl hl) rfl ⟨_,rfl,rRs,ff,bR⟩
theorem refPl_i5 (ex:Bool)(t:ak)(n f0 f1 f2 R D L G pp:Int)(gr ok un:Bool)(po:Option Addr)(pd pc:Nat)(w:World)(HF:yJ 14 #[yi n] (.tuple #[yhV f0 f1 f2 R D L G gr 1,.bool ok]))
  (HG: ∀w1,yC 84 #[yi n,.bool false] w1 (RVg w1 2 false t)):
  yC 41 #[yi n,ypV false (yS po pd pc) pp ex true un,yi 5] w (RVG w 2 false t 5):=by
 replace HF:Hid _:=HF;replace HG:Hid _:=HG;obtain⟨W4,hW5,q1,q2,b3⟩:=iG w (ypL false (yS po pd pc) pp ex true un) 91 (yoL 0 false false yN 0) 49;replace hW5:Hid _:=hW5
 cases ex
 all_goals
  go_enter func41,ntmps41
  go_upto_region 1 with fail
  rw[hW5.out];clear hW5
  go_wp2_with fail
  refine(HF.out _).mono ?_;rintro zz w6 ⟨rfl,bb7⟩;have q8:=q1.l bb7;have q9:=q2.l bb7;have b10:=aa b3 bb7;clear q1 q2 b3 bb7 HF;obtain⟨W14,hW13,q12,al11⟩:=cA w6 (yhL f0 f1 f2 R D L G gr 1) 42;replace hW13:Hid _:=hW13;have hl15:w.heap.size≤w6.heap.size:=b10.size;have hl16:=q9.lt;have q17:=q8.l al11;have q18:=q9.l al11;have b19:=aa b10 al11;clear q8 q9 b10 al11
  go_upto_region 2 with fail
  rw[hW13.out];clear hW13;have c20:=q17.c 0 rfl;have c21:=q17.c 3 rfl;have c22:=q17.c 4 rfl;have c23:=q12.c 8 rfl
  go_wp2_with fail
  refine(HG.out _).mono ?_;rintro zz w24 ⟨v126,rfl,r127,ff1,bb25⟩;have ff:=ff1.mono b19.size;clear ff1;have q28:=q18.l bb25;have b29:=aa b19 bb25;obtain⟨so,sc,hv⟩:=r127.shape;subst hv;clear q17 q18 q12 b19 bb25 HG c20 c21 c22 c23;have hf:=dL (P:=Tryz.prog) q28 b29 (by omega) underlying49 rfl (by kernel_rfl) (yi 2) (.bool false) (.bool t.s) (yS so t.n sc) (yi t.e);have HH:Hid (_∧_∧_):=⟨hf.1,hf.2.2.rd r127 (mu r127 q28),hf.2.1⟩;obtain⟨⟨z0,z1,z2,z3,z4⟩,y0,y1,y2,y3,y4⟩:=dN q28;clear hf q28 r127 b29
  go_wp2
  obtain⟨hl,rRs,bR⟩:=HH.out;exact bodyPost_ret (aj results41 rfl rfl hl) rfl ⟨_,rfl,rRs,ff,bR⟩
theorem refPl_u1 (ex:Bool)(n f0 f1 f2 R D L G pp:Int)(gr ok ps un:Bool)(po:Option Addr)(pd pc:Nat)(w:World)(HF:yJ 14 #[yi n] (.tuple #[yhV f0 f1 f2 R D L G gr 1,.bool ok])):
  yC 41 #[yi n,ypV ps (yS po pd pc) pp ex true un,yi 1] w (RVG w 3 ps ⟨false,0,0⟩ 5):=by
 replace HF:Hid _:=HF;obtain⟨W4,hW5,q1,q2,b3⟩:=iG w (ypL ps (yS po pd pc) pp ex true un) 91 (yoL 0 false false yN 0) 49;replace hW5:Hid _:=hW5
 cases ex
 all_goals
  go_enter func41,ntmps41
  go_upto_region 1 with fail
  rw[hW5.out];clear hW5
  go_wp2_with fail
  refine(HF.out _).mono ?_;rintro zz w6 ⟨rfl,bb7⟩;have q8:=q1.l bb7;have q9:=q2.l bb7;have b10:=aa b3 bb7;clear q1 q2 b3 bb7 HF;obtain⟨W14,hW13,q12,al11⟩:=cA w6 (yhL f0 f1 f2 R D L G gr 1) 42;replace hW13:Hid _:=hW13;have hl15:w.heap.size≤w6.heap.size:=b10.size;have hl16:=q9.lt;have q17:=q8.l al11;have q18:=q9.l al11;have b19:=aa b10 al11;clear q8 q9 b10 al11
  go_upto_region 2 with fail
  rw[hW13.out];clear hW13;have c20:=q17.c 0 rfl;have c21:=q17.c 3 rfl;have c22:=q17.c 4 rfl;have c23:=q12.c 8 rfl;have hf:=dL (P:=Tryz.prog) q18 b19 (by omega) underlying49 rfl (by kernel_rfl) (yi 3) (.bool ps) (.bool false) yN (yi 0);have HH:Hid (_∧_):=⟨hf.1,hf.2.1⟩;obtain⟨⟨z0,z1,z2,z3,z4⟩,y0,y1,y2,y3,y4⟩:=dN q18;clear hf q17 q18 q12 b19
  go_wp2
  obtain⟨hl,bR⟩:=HH.out;exact bodyPost_ret (aj results41 rfl rfl hl) rfl ⟨_,rfl,aN _ _,jt _ _ _,bR⟩
theorem refPl_u2 (ex:Bool)(n f0 f1 f2 R D L G pp:Int)(gr ok ps un:Bool)(po:Option Addr)(pd pc:Nat)(w:World)(HF:yJ 14 #[yi n] (.tuple #[yhV f0 f1 f2 R D L G gr 1,.bool ok])):
  yC 41 #[yi n,ypV ps (yS po pd pc) pp ex true un,yi 2] w (RVG w 3 ps ⟨false,0,0⟩ 5):=by
 replace HF:Hid _:=HF;obtain⟨W4,hW5,q1,q2,b3⟩:=iG w (ypL ps (yS po pd pc) pp ex true un) 91 (yoL 0 false false yN 0) 49;replace hW5:Hid _:=hW5
 cases ex
 all_goals
  go_enter func41,ntmps41
  go_upto_region 1 with fail
  rw[hW5.out];clear hW5
  go_wp2_with fail
  refine(HF.out _).mono ?_;rintro zz w6 ⟨rfl,bb7⟩;have q8:=q1.l bb7;have q9:=q2.l bb7;have b10:=aa b3 bb7;clear q1 q2 b3 bb7 HF;obtain⟨W14,hW13,q12,al11⟩:=cA w6 (yhL f0 f1 f2 R D L G gr 1) 42;replace hW13:Hid _:=hW13;have hl15:w.heap.size≤w6.heap.size:=b10.size;have hl16:=q9.lt;have q17:=q8.l al11;have q18:=q9.l al11;have b19:=aa b10 al11;clear q8 q9 b10 al11
  go_upto_region 2 with fail
  rw[hW13.out];clear hW13;have c20:=q17.c 0 rfl;have c21:=q17.c 3 rfl;have c22:=q17.c 4 rfl;have c23:=q12.c 8 rfl;have hf:=dL (P:=Tryz.prog) q18 b19 (by omega) underlying49 rfl (by kernel_rfl) (yi 3) (.bool ps) (.bool false) yN (yi 0);have HH:Hid (_∧_):=⟨hf.1,hf.2.1⟩;obtain⟨⟨z0,z1,z2,z3,z4⟩,y0,y1,y2,y3,y4⟩:=dN q18;clear hf q17 q18 q12 b19
  go_wp2
  obtain⟨hl,bR⟩:=HH.out;exact bodyPost_ret (aj results41 rfl rfl hl) rfl ⟨_,rfl,aN _ _,jt _ _ _,bR⟩
theorem refPl_u4 (ex:Bool)(n f0 f1 f2 R D L G pp:Int)(gr ok un:Bool)(po:Option Addr)(pd pc:Nat)(w:World)(HF:yJ 14 #[yi n] (.tuple #[yhV f0 f1 f2 R D L G gr 1,.bool ok])):
  yC 41 #[yi n,ypV false (yS po pd pc) pp ex true un,yi 4] w (RVG w 3 false ⟨false,0,0⟩ 5):=by
 replace HF:Hid _:=HF;obtain⟨W4,hW5,q1,q2,b3⟩:=iG w (ypL false (yS po pd pc) pp ex true un) 91 (yoL 0 false false yN 0) 49;replace hW5:Hid _:=hW5
 cases ex
 all_goals
  go_enter func41,ntmps41
  go_upto_region 1 with fail
  rw[hW5.out];clear hW5
  go_wp2_with fail
  refine(HF.out _).mono ?_;rintro zz w6 ⟨rfl,bb7⟩;have q8:=q1.l bb7;have q9:=q2.l bb7;have b10:=aa b3 bb7;clear q1 q2 b3 bb7 HF;obtain⟨W14,hW13,q12,al11⟩:=cA w6 (yhL f0 f1 f2 R D L G gr 1) 42;replace hW13:Hid _:=hW13;have hl15:w.heap.size≤w6.heap.size:=b10.size;have hl16:=q9.lt;have q17:=q8.l al11;have q18:=q9.l al11;have b19:=aa b10 al11;clear q8 q9 b10 al11
  go_upto_region 2 with fail
  rw[hW13.out];clear hW13;have c20:=q17.c 0 rfl;have c21:=q17.c 3 rfl;have c22:=q17.c 4 rfl;have c23:=q12.c 8 rfl;have hf:=dL (P:=Tryz.prog) q18 b19 (by omega) underlying49 rfl (by kernel_rfl) (yi 3) (.bool false) (.bool false) yN (yi 0);have HH:Hid (_∧_):=⟨hf.1,hf.2.1⟩;obtain⟨⟨z0,z1,z2,z3,z4⟩,y0,y1,y2,y3,y4⟩:=dN q18;clear hf q17 q18 q12 b19
  go_wp2
  obtain⟨hl,bR⟩:=HH.out;exact bodyPost_ret (aj results41 rfl rfl hl) rfl ⟨_,rfl,aN _ _,jt _ _ _,bR⟩
theorem refPl_u5 (ex:Bool)(n f0 f1 f2 R D L G pp:Int)(gr ok un:Bool)(po:Option Addr)(pd pc:Nat)(w:World)(HF:yJ 14 #[yi n] (.tuple #[yhV f0 f1 f2 R D L G gr 1,.bool ok])):
  yC 41 #[yi n,ypV true (yS po pd pc) pp ex true un,yi 5] w (RVG w 3 true ⟨false,0,0⟩ 5):=by
 replace HF:Hid _:=HF;obtain⟨W4,hW5,q1,q2,b3⟩:=iG w (ypL true (yS po pd pc) pp ex true un) 91 (yoL 0 false false yN 0) 49;replace hW5:Hid _:=hW5
 cases ex
 all_goals
  go_enter func41,ntmps41
  go_upto_region 1 with fail
  rw[hW5.out];clear hW5
  go_wp2_with fail
  refine(HF.out _).mono ?_;rintro zz w6 ⟨rfl,bb7⟩;have q8:=q1.l bb7;have q9:=q2.l bb7;have b10:=aa b3 bb7;clear q1 q2 b3 bb7 HF;obtain⟨W14,hW13,q12,al11⟩:=cA w6 (yhL f0 f1 f2 R D L G gr 1) 42;replace hW13:Hid _:=hW13;have hl15:w.heap.size≤w6.heap.size:=b10.size;have hl16:=q9.lt;have q17:=q8.l al11;have q18:=q9.l al11;have b19:=aa b10 al11;clear q8 q9 b10 al11
  go_upto_region 2 with fail
  rw[hW13.out];clear hW13;have c20:=q17.c 0 rfl;have c21:=q17.c 3 rfl;have c22:=q17.c 4 rfl;have c23:=q12.c 8 rfl;have hf:=dL (P:=Tryz.prog) q18 b19 (by omega) underlying49 rfl (by kernel_rfl) (yi 3) (.bool true) (.bool false) yN (yi 0);have HH:Hid (_∧_):=⟨hf.1,hf.2.1⟩;obtain⟨⟨z0,z1,z2,z3,z4⟩,y0,y1,y2,y3,y4⟩:=dN q18;clear hf q17 q18 q12 b19
  go_wp2
  obtain⟨hl,bR⟩:=HH.out;exact bodyPost_ret (aj results41 rfl rfl hl) rfl ⟨_,rfl,aN _ _,jt _ _ _,bR⟩
theorem refPl_low (ex:Bool)(zg:Bool)(n f0 f1 f2 R D L G fam pp wy:Int)(gr ok ps:Bool)(po:Option Addr)(pd pc:Nat)(w:World)(h1:(fam==1)=false)(h2:1<fam)(h3:pp<L)(HF:yJ 14 #[yi n] (.tuple #[yhV f0 f1 f2 R D L G gr fam,.bool ok]))
  (HZ:yJ 16 #[yi n,.bool false] (yoV 1 zg false yN 0)):
  yC 41 #[yi n,ypV ps (yS po pd pc) pp ex false true,yi wy] w (RVG w 1 zg ⟨false,0,0⟩ 3):=by
 replace HF:Hid _:=HF;replace HZ:Hid _:=HZ;obtain⟨W4,hW5,q1,q2,b3⟩:=iG w (ypL ps (yS po pd pc) pp ex false true) 91 (yoL 0 false false yN 0) 49;replace hW5:Hid _:=hW5
 cases ex
 all_goals
  go_enter func41,ntmps41
  go_upto_region 1 with fail
  rw[hW5.out];clear hW5
  go_wp2_with fail
  refine(HF.out _).mono ?_;rintro zz w6 ⟨rfl,bb7⟩;have q8:=q1.l bb7;have q9:=q2.l bb7;have b10:=aa b3 bb7;clear q1 q2 b3 bb7 HF;obtain⟨W14,hW13,q12,al11⟩:=cA w6 (yhL f0 f1 f2 R D L G gr fam) 42;replace hW13:Hid _:=hW13;have hl15:w.heap.size≤w6.heap.size:=b10.size;have hl16:=q9.lt;have q17:=q8.l al11;have q18:=q9.l al11;have b19:=aa b10 al11;clear q8 q9 b10 al11
  go_upto_region 2 with fail
  rw[hW13.out];clear hW13;have c20:=q17.c 2 rfl;have c21:=q17.c 3 rfl;have c22:=q17.c 4 rfl;have c23:=q17.c 5 rfl;have c24:=q12.c 5 rfl;have c25:=q12.c 8 rfl
  go_wp2_with fail
  refine(HZ.out _).mono ?_;rintro zz w26 ⟨rfl,bb27⟩;have q28:=q18.l bb27;have b29:=aa b19 bb27;clear q17 q18 q12 b19 bb27 HZ c20 c21 c22 c23 c24 c25;have hf:=dL (P:=Tryz.prog) q28 b29 (by omega) underlying49 rfl (by kernel_rfl) (yi 1) (.bool zg) (.bool false) yN (yi 0);have HH:Hid (_∧_):=⟨hf.1,hf.2.1⟩;obtain⟨⟨z0,z1,z2,z3,z4⟩,y0,y1,y2,y3,y4⟩:=dN q28;clear hf q28 b29
  go_wp2
  obtain⟨hl,bR⟩:=HH.out;exact bodyPost_ret (aj results41 rfl rfl hl) rfl ⟨_,rfl,aN _ _,jt _ _ _,bR⟩
theorem aeE (zg:Bool)(n f0 f1 f2 R D L G fam pp wy:Int)(gr ok ps:Bool)(po:Option Addr)(pc:Nat)(w:World)(HF:yJ 14 #[yi n] (.tuple #[yhV f0 f1 f2 R D L G gr fam,.bool ok]))
  (HZ:yJ 16 #[yi n,.bool ps] (yoV 1 zg false yN 0)):
  yC 41 #[yi n,ypV ps (.slice po 0 pc) pp true false false,yi wy] w (RVG w 1 zg ⟨false,0,0⟩ 0):=by
 replace HF:Hid _:=HF;replace HZ:Hid _:=HZ;obtain⟨W4,hW5,q1,q2,b3⟩:=iG w (ypL ps (.slice po 0 pc) pp true false false) 91 (yoL 0 false false yN 0) 49;replace hW5:Hid _:=hW5
 go_enter func41,ntmps41
 go_upto_region 1 with fail
 rw[hW5.out];clear hW5
 go_wp2_with fail
 refine(HF.out _).mono ?_;rintro zz w6 ⟨rfl,bb7⟩;have q8:=q1.l bb7;have q9:=q2.l bb7;have b10:=aa b3 bb7;clear q1 q2 b3 bb7 HF;obtain⟨W14,hW13,q12,al11⟩:=cA w6 (yhL f0 f1 f2 R D L G gr fam) 42;replace hW13:Hid _:=hW13;have hl15:w.heap.size≤w6.heap.size:=b10.size;have hl16:=q9.lt;have q17:=q8.l al11;have q18:=q9.l al11;have b19:=aa b10 al11;clear q8 q9 b10 al11 q12
 go_upto_region 2 with fail
 rw[hW13.out];clear hW13;have c20:=q17.c 0 rfl;have c21:=q17.c 1 rfl;have c22:=q17.c 3 rfl;have c23:=q17.c 4 rfl;have c24:=q17.c 5 rfl
 go_wp2_with fail
 refine(HZ.out _).mono ?_;rintro zz w25 ⟨rfl,bb26⟩;have q27:=q18.l bb26;have b28:=aa b19 bb26;clear q17 q18 b19 bb26 HZ c20 c21 c22 c23 c24;have hf:=dL (P:=Tryz.prog) q27 b28 (by omega) underlying49 rfl (by kernel_rfl) (yi 1) (.bool zg) (.bool false) yN (yi 0);have HH:Hid (_∧_):=⟨hf.1,hf.2.1⟩;obtain⟨⟨z0,z1,z2,z3,z4⟩,y0,y1,y2,y3,y4⟩:=dN q27;clear hf q27 b28
 go_wp2
 obtain⟨hl,bR⟩:=HH.out;exact bodyPost_ret (aj results41 rfl rfl hl) rfl ⟨_,rfl,aN _ _,jt _ _ _,bR⟩
theorem aef (zg:Bool)(n f0 f1 f2 R D L G pp wy:Int)(gr ok ps:Bool)(po:Option Addr)(pc:Nat)(w:World)(HF:yJ 14 #[yi n] (.tuple #[yhV f0 f1 f2 R D L G gr 1,.bool ok]))
  (HZ:yJ 16 #[yi n,.bool ps] (yoV 1 zg false yN 0)):
  yC 41 #[yi n,ypV ps (.slice po 0 pc) pp true false true,yi wy] w (RVG w 1 zg ⟨false,0,0⟩ 0):=by
 replace HF:Hid _:=HF;replace HZ:Hid _:=HZ;obtain⟨W4,hW5,q1,q2,b3⟩:=iG w (ypL ps (.slice po 0 pc) pp true false true) 91 (yoL 0 false false yN 0) 49;replace hW5:Hid _:=hW5
 go_enter func41,ntmps41
 go_upto_region 1 with fail
 rw[hW5.out];clear hW5
 go_wp2_with fail
 refine(HF.out _).mono ?_;rintro zz w6 ⟨rfl,bb7⟩;have q8:=q1.l bb7;have q9:=q2.l bb7;have b10:=aa b3 bb7;clear q1 q2 b3 bb7 HF;obtain⟨W14,hW13,q12,al11⟩:=cA w6 (yhL f0 f1 f2 R D L G gr 1) 42;replace hW13:Hid _:=hW13;have hl15:w.heap.size≤w6.heap.size:=b10.size;have hl16:=q9.lt;have q17:=q8.l al11;have q18:=q9.l al11;have b19:=aa b10 al11;clear q8 q9 b10 al11
 go_upto_region 2 with fail
 rw[hW13.out];clear hW13;have c20:=q17.c 0 rfl;have c21:=q17.c 1 rfl;have c22:=q17.c 3 rfl;have c23:=q17.c 4 rfl;have c24:=q17.c 5 rfl;have c25:=q12.c 8 rfl
 go_wp2_with fail
 refine(HZ.out _).mono ?_;rintro zz w26 ⟨rfl,bb27⟩;have q28:=q18.l bb27;have b29:=aa b19 bb27;clear q17 q18 q12 b19 bb27 HZ c20 c21 c22 c23 c24 c25;have hf:=dL (P:=Tryz.prog) q28 b29 (by omega) underlying49 rfl (by kernel_rfl) (yi 1) (.bool zg) (.bool false) yN (yi 0);have HH:Hid (_∧_):=⟨hf.1,hf.2.1⟩;obtain⟨⟨z0,z1,z2,z3,z4⟩,y0,y1,y2,y3,y4⟩:=dN q28;clear hf q28 b29
 go_wp2
 obtain⟨hl,bR⟩:=HH.out;exact bodyPost_ret (aj results41 rfl rfl hl) rfl ⟨_,rfl,aN _ _,jt _ _ _,bR⟩
theorem aeF (wd E:Int)(t:ak)(n f0 f1 f2 R D L G fam pp wy:Int)(gr ok ps:Bool)(po:Option Addr)(pd pc:Nat)(w:World)(hz:(((Dg.dg 65536 pd).length:Int)==0)=false)(hE:IntKind.i64.wrap (wd*pp)=E)(HF:yJ 14 #[yi n] (.tuple #[yhV f0 f1 f2 R D L G gr fam,.bool ok]))
  (HW:yJ 52 #[ygV R D L G gr] (yi wd))
  (HB: ∀w1,yB w w1→yC 32 #[ydV ps (yS po pd pc) E] w1 (di w1 t)):
  yC 41 #[yi n,ypV ps (yS po pd pc) pp true false false,yi wy] w (RVG w 2 ps t 0):=by
 replace HF:Hid _:=HF;replace HW:Hid _:=HW;replace HB:Hid _:=HB;obtain⟨W4,hW5,q1,q2,b3⟩:=iG w (ypL ps (yS po pd pc) pp true false false) 91 (yoL 0 false false yN 0) 49;replace hW5:Hid _:=hW5
 go_enter func41,ntmps41
 go_upto_region 1 with fail
 rw[hW5.out];clear hW5
 go_wp2_with fail
 refine(HF.out _).mono ?_;rintro zz w6 ⟨rfl,bb7⟩;have q8:=q1.l bb7;have q9:=q2.l bb7;have b10:=aa b3 bb7;clear q1 q2 b3 bb7 HF;obtain⟨W14,hW13,q12,al11⟩:=cA w6 (yhL f0 f1 f2 R D L G gr fam) 42;replace hW13:Hid _:=hW13;have hl15:w.heap.size≤w6.heap.size:=b10.size;have hl16:=q9.lt;have q17:=q8.l al11;have q18:=q9.l al11;have b19:=aa b10 al11;clear q8 q9 b10 al11
 go_upto_region 2 with fail
 rw[hW13.out];clear hW13;have c20:=q17.c 1 rfl;have c21:=q17.c 3 rfl;have c22:=q17.c 4 rfl;have c23:=q17.c 5 rfl
 go_upto_region 24 with fail
 clear c20 c21 c22 c23;have bW24:yB W14 W14.drew:=(Below.refl _ _).drew;have q25:=q17.l bW24;have q26:=q18.l bW24;have q27:=q12.l bW24;have b28:=aa b19 bW24;clear q17 q18 q12 b19 bW24;refine wp_region_held_drew (S:=fun wq=>au wq w.heap.size 91 (ypL ps (yS po pd pc) pp true false false)∧au wq w6.heap.size 42 (yhL f0 f1 f2 R D L G gr fam)) (by kernel_rfl) ⟨q25,q27⟩ (fun hS0=> ?_)
 generalize W14.drew=WD29 at q25 q26 q27 b28 hS0⊢;refine tq 0 (.pointer (some ⟨w.heap.size,0,none⟩)) rfl (fun _ _=>by kernel_rfl) hS0 ?_
 refine tq 1 (.bool ps) rfl (fun _ hw0=>gU 4 (.tmp 94) rfl w.heap.size 0 (by kernel_rfl) _ _ underlying4 rfl (hw0.1.c 0 rfl)) hS0 ?_
 refine tq 2 (.pointer (some ⟨w.heap.size,0,none⟩)) rfl (fun _ _=>by kernel_rfl) hS0 ?_
 refine tq 3 (.bool ps) rfl (fun _ hw0=>gU 4 (.tmp 96) rfl w.heap.size 0 (by kernel_rfl) _ _ underlying4 rfl (hw0.1.c 0 rfl)) hS0 ?_
 refine tq 4 (.pointer (some ⟨w.heap.size,1,none⟩)) rfl (fun _ _=>by kernel_rfl) hS0 ?_
 refine tq 5 (yS po pd pc) rfl (fun _ hw0=>gU 29 (.tmp 98) rfl w.heap.size 1 (by kernel_rfl) _ _ underlying29 rfl (hw0.1.c 1 rfl)) hS0 ?_
 refine tq 6 (.pointer (some ⟨w6.heap.size,3,none⟩)) rfl (fun _ _=>by kernel_rfl) hS0 ?_
 refine tq 7 (ygV R D L G gr) rfl (fun _ hw0=>fy 40 (.tmp 100) rfl w6.heap.size 3 (by kernel_rfl) _ _ (kY hw0.2 3 5 rfl) underlying40 rfl (by kernel_rfl)) hS0 ?_
 refine tq 9 (.pointer (some ⟨w.heap.size,2,none⟩)) rfl (fun _ _=>by kernel_rfl) hS0 ?_
 refine tq 10 (yi pp) rfl (fun _ hw0=>gU 3 (.tmp 103) rfl w.heap.size 2 (by kernel_rfl) _ _ underlying3 rfl (hw0.1.c 2 rfl)) hS0 ?_
 refine tq 15 (yi 0) rfl (fun _ _=>by kernel_rfl) hS0 ?_
 refine wpAnyH_ready (rs:=[8]) (by kernel_rfl) (by simp) ?_;refine AllReadyH.cons rfl (fun K hK=> ?_) AllReadyH.nil
 go_simp
 refine(HW.out _).mono ?_;rintro zz w30 ⟨rfl,bb31⟩;have q32:=q25.l bb31;have q33:=q26.l bb31;have q34:=q27.l bb31;have b35:=aa b28 bb31;clear q25 q26 q27 b28 bb31 HW;refine hK.out _ _ ⟨q32,q34⟩ (fun hS36=> ?_)
 clear hK K;refine tq 11 (yi E) rfl (fun _ _=>by go_simp) hS36 ?_
 refine tq 12 (ydV ps (yS po pd pc) E) rfl (fun _ _=>by kernel_rfl) hS36 ?_
 refine wpAnyH_ready (rs:=[13]) (by kernel_rfl) (by simp) ?_;refine AllReadyH.cons rfl (fun K hK=> ?_) AllReadyH.nil
 go_simp
 refine(HB.out _ b35).mono ?_;rintro zz w37 ⟨v139,rfl,r140,ff1,bb38⟩;have ff:=ff1.mono b35.size;clear ff1;have q41:=q32.l bb38;have q42:=q33.l bb38;have q43:=q34.l bb38;have b44:=aa b35 bb38;obtain⟨so,sc,hv⟩:=r140.shape;subst hv;clear q32 q33 q34 b35 bb38 HB;refine hK.out _ _ ⟨q41,q43⟩ (fun hS45=> ?_)
 clear hK K;refine tq 14 (yEV 2 ps t so sc) rfl (fun _ _=>by kernel_rfl) hS45 ?_
 refine wpAnyH_ready (rs:=[16]) (by kernel_rfl) (by simp) ?_;refine AllReadyH.cons rfl (fun K hK=> ?_) AllReadyH.nil
 have bu:But (w.heap.size+1) w37 (w37.setCells (w.heap.size+1) 0 (yEL 2 ps t so sc)):=de _ _ _ _;have hth:w37.there (w.heap.size+1) 0 5:=dD q42;have q46:au (w37.setCells (w.heap.size+1) 0 (yEL 2 ps t so sc)) (w.heap.size+1) 49 (yEL 2 ps t so sc):=q42.sets _ rfl;have r47:=bu.rd r140 (cq r140 (Dg.norm_dg _ _ (by omega)) q42 (fun x hx n hn=>by simp at hx;rcases hx with rfl|rfl|rfl|rfl|rfl<;>simp;all_goals omega))
 have q48:=bu.loc q41 (by omega);have q49:=bu.loc q43 (by omega);have b50:=bu.below b44 (by omega);rw[if_pos (by kernel_rfl)];refine wp_store_mid 49 (.tmp 6) (.tmp 108) rfl (w.heap.size+1) 0 (yEA 2 ps t so sc) (by kernel_rfl) (by kernel_rfl) hth (by kernel_rfl) (by simp[Value.oneCell']) ?_;refine hK.out _ _ ⟨q48,q49⟩ (fun hS51=> ?_)
 clear hK K;clear q42 r140 q41 q43 b44 bu hth;refine tq 17 (yi 0) rfl (fun _ _=>by kernel_rfl) hS51 ?_
 refine wpAnyH_done (by kernel_rfl) ?_ _;clear hS0 hS36 hS45 hS51;change Exit.then _ _ _ _ (World.setCells w37 (w.heap.size+1) 0 (yEL 2 ps t so sc));generalize World.setCells w37 (w.heap.size+1) 0 (yEL 2 ps t so sc)=W52 at q48 q46 q49 r47 b50⊢;simp only[Act.put,List.getElem_toArray,List.getElem_cons_succ,List.getElem_cons_zero,List.setIfInBounds_toArray,List.set_cons_zero,List.set_cons_succ];have hl:=run_loadVar_mid (P:=Tryz.prog) _ (w.heap.size+1) 0 49 (yEL 2 ps t so sc) _ q46.range underlying49 rfl (by kernel_rfl)
 go_wp2
 exact bodyPost_ret (aj results41 rfl rfl hl) rfl ⟨_,rfl,r47,ff,b50⟩
theorem aeg (wd E:Int)(t:ak)(n f0 f1 f2 R D L G pp wy:Int)(gr ok ps:Bool)(po:Option Addr)(pd pc:Nat)(w:World)(hz:(((Dg.dg 65536 pd).length:Int)==0)=false)(hE:IntKind.i64.wrap (wd*pp)=E)(HF:yJ 14 #[yi n] (.tuple #[yhV f0 f1 f2 R D L G gr 1,.bool ok]))
  (HW:yJ 52 #[ygV R D L G gr] (yi wd))
  (HB: ∀w1,yB w w1→yC 32 #[ydV ps (yS po pd pc) E] w1 (di w1 t)):
  yC 41 #[yi n,ypV ps (yS po pd pc) pp true false true,yi wy] w (RVG w 2 ps t 0):=by
 replace HF:Hid _:=HF;replace HW:Hid _:=HW;replace HB:Hid _:=HB;obtain⟨W4,hW5,q1,q2,b3⟩:=iG w (ypL ps (yS po pd pc) pp true false true) 91 (yoL 0 false false yN 0) 49;replace hW5:Hid _:=hW5
 go_enter func41,ntmps41
 go_upto_region 1 with fail
 rw[hW5.out];clear hW5
 go_wp2_with fail
 refine(HF.out _).mono ?_;rintro zz w6 ⟨rfl,bb7⟩;have q8:=q1.l bb7;have q9:=q2.l bb7;have b10:=aa b3 bb7;clear q1 q2 b3 bb7 HF;obtain⟨W14,hW13,q12,al11⟩:=cA w6 (yhL f0 f1 f2 R D L G gr 1) 42;replace hW13:Hid _:=hW13;have hl15:w.heap.size≤w6.heap.size:=b10.size;have hl16:=q9.lt;have q17:=q8.l al11;have q18:=q9.l al11;have b19:=aa b10 al11;clear q8 q9 b10 al11
 go_upto_region 2 with fail
 rw[hW13.out];clear hW13;have c20:=q17.c 1 rfl;have c21:=q17.c 3 rfl;have c22:=q17.c 4 rfl;have c23:=q17.c 5 rfl;have c24:=q12.c 8 rfl
 go_upto_region 24 with fail
 clear c20 c21 c22 c23 c24;have bW25:yB W14 W14.drew:=(Below.refl _ _).drew;have q26:=q17.l bW25;have q27:=q18.l bW25;have q28:=q12.l bW25;have b29:=aa b19 bW25;clear q17 q18 q12 b19 bW25;refine wp_region_held_drew (S:=fun wq=>au wq w.heap.size 91 (ypL ps (yS po pd pc) pp true false true)∧au wq w6.heap.size 42 (yhL f0 f1 f2 R D L G gr 1)) (by kernel_rfl) ⟨q26,q28⟩ (fun hS0=> ?_)
 generalize W14.drew=WD30 at q26 q27 q28 b29 hS0⊢;refine tq 0 (.pointer (some ⟨w.heap.size,0,none⟩)) rfl (fun _ _=>by kernel_rfl) hS0 ?_
 refine tq 1 (.bool ps) rfl (fun _ hw0=>gU 4 (.tmp 94) rfl w.heap.size 0 (by kernel_rfl) _ _ underlying4 rfl (hw0.1.c 0 rfl)) hS0 ?_
 refine tq 2 (.pointer (some ⟨w.heap.size,0,none⟩)) rfl (fun _ _=>by kernel_rfl) hS0 ?_
 refine tq 3 (.bool ps) rfl (fun _ hw0=>gU 4 (.tmp 96) rfl w.heap.size 0 (by kernel_rfl) _ _ underlying4 rfl (hw0.1.c 0 rfl)) hS0 ?_
 refine tq 4 (.pointer (some ⟨w.heap.size,1,none⟩)) rfl (fun _ _=>by kernel_rfl) hS0 ?_
 refine tq 5 (yS po pd pc) rfl (fun _ hw0=>gU 29 (.tmp 98) rfl w.heap.size 1 (by kernel_rfl) _ _ underlying29 rfl (hw0.1.c 1 rfl)) hS0 ?_
 refine tq 6 (.pointer (some ⟨w6.heap.size,3,none⟩)) rfl (fun _ _=>by kernel_rfl) hS0 ?_
 refine tq 7 (ygV R D L G gr) rfl (fun _ hw0=>fy 40 (.tmp 100) rfl w6.heap.size 3 (by kernel_rfl) _ _ (kY hw0.2 3 5 rfl) underlying40 rfl (by kernel_rfl)) hS0 ?_
 refine tq 9 (.pointer (some ⟨w.heap.size,2,none⟩)) rfl (fun _ _=>by kernel_rfl) hS0 ?_
 refine tq 10 (yi pp) rfl (fun _ hw0=>gU 3 (.tmp 103) rfl w.heap.size 2 (by kernel_rfl) _ _ underlying3 rfl (hw0.1.c 2 rfl)) hS0 ?_
 refine tq 15 (yi 0) rfl (fun _ _=>by kernel_rfl) hS0 ?_
 refine wpAnyH_ready (rs:=[8]) (by kernel_rfl) (by simp) ?_;refine AllReadyH.cons rfl (fun K hK=> ?_) AllReadyH.nil
 go_simp
 refine(HW.out _).mono ?_;rintro zz w31 ⟨rfl,bb32⟩;have q33:=q26.l bb32;have q34:=q27.l bb32;have q35:=q28.l bb32;have b36:=aa b29 bb32;clear q26 q27 q28 b29 bb32 HW;refine hK.out _ _ ⟨q33,q35⟩ (fun hS37=> ?_)
 clear hK K;refine tq 11 (yi E) rfl (fun _ _=>by go_simp) hS37 ?_
 refine tq 12 (ydV ps (yS po pd pc) E) rfl (fun _ _=>by kernel_rfl) hS37 ?_
 refine wpAnyH_ready (rs:=[13]) (by kernel_rfl) (by simp) ?_;refine AllReadyH.cons rfl (fun K hK=> ?_) AllReadyH.nil
 go_simp
 refine(HB.out _ b36).mono ?_;rintro zz w38 ⟨v140,rfl,r141,ff1,bb39⟩;have ff:=ff1.mono b36.size;clear ff1;have q42:=q33.l bb39;have q43:=q34.l bb39;have q44:=q35.l bb39;have b45:=aa b36 bb39;obtain⟨so,sc,hv⟩:=r141.shape;subst hv;clear q33 q34 q35 b36 bb39 HB;refine hK.out _ _ ⟨q42,q44⟩ (fun hS46=> ?_)
 clear hK K;refine tq 14 (yEV 2 ps t so sc) rfl (fun _ _=>by kernel_rfl) hS46 ?_
 refine wpAnyH_ready (rs:=[16]) (by kernel_rfl) (by simp) ?_;refine AllReadyH.cons rfl (fun K hK=> ?_) AllReadyH.nil
 have bu:But (w.heap.size+1) w38 (w38.setCells (w.heap.size+1) 0 (yEL 2 ps t so sc)):=de _ _ _ _;have hth:w38.there (w.heap.size+1) 0 5:=dD q43;have q47:au (w38.setCells (w.heap.size+1) 0 (yEL 2 ps t so sc)) (w.heap.size+1) 49 (yEL 2 ps t so sc):=q43.sets _ rfl;have r48:=bu.rd r141 (cq r141 (Dg.norm_dg _ _ (by omega)) q43 (fun x hx n hn=>by simp at hx;rcases hx with rfl|rfl|rfl|rfl|rfl<;>simp;all_goals omega))
 have q49:=bu.loc q42 (by omega);have q50:=bu.loc q44 (by omega);have b51:=bu.below b45 (by omega);rw[if_pos (by kernel_rfl)];refine wp_store_mid 49 (.tmp 6) (.tmp 108) rfl (w.heap.size+1) 0 (yEA 2 ps t so sc) (by kernel_rfl) (by kernel_rfl) hth (by kernel_rfl) (by simp[Value.oneCell']) ?_;refine hK.out _ _ ⟨q49,q50⟩ (fun hS52=> ?_)
 clear hK K;clear q43 r141 q42 q44 b45 bu hth;refine tq 17 (yi 0) rfl (fun _ _=>by kernel_rfl) hS52 ?_
 refine wpAnyH_done (by kernel_rfl) ?_ _;clear hS0 hS37 hS46 hS52;change Exit.then _ _ _ _ (World.setCells w38 (w.heap.size+1) 0 (yEL 2 ps t so sc));generalize World.setCells w38 (w.heap.size+1) 0 (yEL 2 ps t so sc)=W53 at q49 q47 q50 r48 b51⊢;simp only[Act.put,List.getElem_toArray,List.getElem_cons_succ,List.getElem_cons_zero,List.setIfInBounds_toArray,List.set_cons_zero,List.set_cons_succ];have hl:=run_loadVar_mid (P:=Tryz.prog) _ (w.heap.size+1) 0 49 (yEL 2 ps t so sc) _ q47.range underlying49 rfl (by kernel_rfl)
 go_wp2
 exact bodyPost_ret (aj results41 rfl rfl hl) rfl ⟨_,rfl,r48,ff,b51⟩
theorem aeG (zg:Bool)(n f0 f1 f2 R D L G fam pp wy:Int)(gr ok ps:Bool)(po:Option Addr)(pc:Nat)(w:World)(HF:yJ 14 #[yi n] (.tuple #[yhV f0 f1 f2 R D L G gr fam,.bool ok]))
  (HZ:yJ 16 #[yi n,.bool ps] (yoV 1 zg false yN 0)):
  yC 41 #[yi n,ypV ps (.slice po 0 pc) pp false false false,yi wy] w (RVG w 1 zg ⟨false,0,0⟩ 1):=by
 replace HF:Hid _:=HF;replace HZ:Hid _:=HZ;obtain⟨W4,hW5,q1,q2,b3⟩:=iG w (ypL ps (.slice po 0 pc) pp false false false) 91 (yoL 0 false false yN 0) 49;replace hW5:Hid _:=hW5
 go_enter func41,ntmps41
 go_upto_region 1 with fail
 rw[hW5.out];clear hW5
 go_wp2_with fail
 refine(HF.out _).mono ?_;rintro zz w6 ⟨rfl,bb7⟩;have q8:=q1.l bb7;have q9:=q2.l bb7;have b10:=aa b3 bb7;clear q1 q2 b3 bb7 HF;obtain⟨W14,hW13,q12,al11⟩:=cA w6 (yhL f0 f1 f2 R D L G gr fam) 42;replace hW13:Hid _:=hW13;have hl15:w.heap.size≤w6.heap.size:=b10.size;have hl16:=q9.lt;have q17:=q8.l al11;have q18:=q9.l al11;have b19:=aa b10 al11;clear q8 q9 b10 al11 q12
 go_upto_region 2 with fail
 rw[hW13.out];clear hW13;have c20:=q17.c 0 rfl;have c21:=q17.c 1 rfl;have c22:=q17.c 3 rfl;have c23:=q17.c 4 rfl;have c24:=q17.c 5 rfl
 go_wp2_with fail
 refine(HZ.out _).mono ?_;rintro zz w25 ⟨rfl,bb26⟩;have q27:=q18.l bb26;have b28:=aa b19 bb26;clear q17 q18 b19 bb26 HZ c20 c21 c22 c23 c24;have hf:=dL (P:=Tryz.prog) q27 b28 (by omega) underlying49 rfl (by kernel_rfl) (yi 1) (.bool zg) (.bool false) yN (yi 0);have HH:Hid (_∧_):=⟨hf.1,hf.2.1⟩;obtain⟨⟨z0,z1,z2,z3,z4⟩,y0,y1,y2,y3,y4⟩:=dN q27;clear hf q27 b28
 go_wp2
 obtain⟨hl,bR⟩:=HH.out;exact bodyPost_ret (aj results41 rfl rfl hl) rfl ⟨_,rfl,aN _ _,jt _ _ _,bR⟩
theorem aeh (zg:Bool)(n f0 f1 f2 R D L G pp wy:Int)(gr ok ps:Bool)(po:Option Addr)(pc:Nat)(w:World)(HF:yJ 14 #[yi n] (.tuple #[yhV f0 f1 f2 R D L G gr 1,.bool ok]))
  (HZ:yJ 16 #[yi n,.bool ps] (yoV 1 zg false yN 0)):
  yC 41 #[yi n,ypV ps (.slice po 0 pc) pp false false true,yi wy] w (RVG w 1 zg ⟨false,0,0⟩ 3):=by
 replace HF:Hid _:=HF;replace HZ:Hid _:=HZ;obtain⟨W4,hW5,q1,q2,b3⟩:=iG w (ypL ps (.slice po 0 pc) pp false false true) 91 (yoL 0 false false yN 0) 49;replace hW5:Hid _:=hW5
 go_enter func41,ntmps41
 go_upto_region 1 with fail
 rw[hW5.out];clear hW5
 go_wp2_with fail
 refine(HF.out _).mono ?_;rintro zz w6 ⟨rfl,bb7⟩;have q8:=q1.l bb7;have q9:=q2.l bb7;have b10:=aa b3 bb7;clear q1 q2 b3 bb7 HF;obtain⟨W14,hW13,q12,al11⟩:=cA w6 (yhL f0 f1 f2 R D L G gr 1) 42;replace hW13:Hid _:=hW13;have hl15:w.heap.size≤w6.heap.size:=b10.size;have hl16:=q9.lt;have q17:=q8.l al11;have q18:=q9.l al11;have b19:=aa b10 al11;clear q8 q9 b10 al11
 go_upto_region 2 with fail
 rw[hW13.out];clear hW13;have c20:=q17.c 0 rfl;have c21:=q17.c 1 rfl;have c22:=q17.c 3 rfl;have c23:=q17.c 4 rfl;have c24:=q17.c 5 rfl;have c25:=q12.c 8 rfl
 go_wp2_with fail
 refine(HZ.out _).mono ?_;rintro zz w26 ⟨rfl,bb27⟩;have q28:=q18.l bb27;have b29:=aa b19 bb27;clear q17 q18 q12 b19 bb27 HZ c20 c21 c22 c23 c24 c25;have hf:=dL (P:=Tryz.prog) q28 b29 (by omega) underlying49 rfl (by kernel_rfl) (yi 1) (.bool zg) (.bool false) yN (yi 0);have HH:Hid (_∧_):=⟨hf.1,hf.2.1⟩;obtain⟨⟨z0,z1,z2,z3,z4⟩,y0,y1,y2,y3,y4⟩:=dN q28;clear hf q28 b29
 go_wp2
 obtain⟨hl,bR⟩:=HH.out;exact bodyPost_ret (aj results41 rfl rfl hl) rfl ⟨_,rfl,aN _ _,jt _ _ _,bR⟩
theorem aeH (wd E:Int)(t:ak)(n f0 f1 f2 R D L G fam pp wy:Int)(gr ok ps:Bool)(po:Option Addr)(pd pc:Nat)(w:World)(hz:(((Dg.dg 65536 pd).length:Int)==0)=false)(hE:IntKind.i64.wrap (wd*pp)=E)(HF:yJ 14 #[yi n] (.tuple #[yhV f0 f1 f2 R D L G gr fam,.bool ok]))
  (HW:yJ 52 #[ygV R D L G gr] (yi wd))
  (HB: ∀w1,yB w w1→yC 32 #[ydV ps (yS po pd pc) E] w1 (di w1 t)):
  yC 41 #[yi n,ypV ps (yS po pd pc) pp false false false,yi wy] w (RVG w 2 ps t 1):=by
 replace HF:Hid _:=HF;replace HW:Hid _:=HW;replace HB:Hid _:=HB;obtain⟨W4,hW5,q1,q2,b3⟩:=iG w (ypL ps (yS po pd pc) pp false false false) 91 (yoL 0 false false yN 0) 49;replace hW5:Hid _:=hW5
 go_enter func41,ntmps41
 go_upto_region 1 with fail
 rw[hW5.out];clear hW5
 go_wp2_with fail
 refine(HF.out _).mono ?_;rintro zz w6 ⟨rfl,bb7⟩;have q8:=q1.l bb7;have q9:=q2.l bb7;have b10:=aa b3 bb7;clear q1 q2 b3 bb7 HF;obtain⟨W14,hW13,q12,al11⟩:=cA w6 (yhL f0 f1 f2 R D L G gr fam) 42;replace hW13:Hid _:=hW13;have hl15:w.heap.size≤w6.heap.size:=b10.size;have hl16:=q9.lt;have q17:=q8.l al11;have q18:=q9.l al11;have b19:=aa b10 al11;clear q8 q9 b10 al11
 go_upto_region 2 with fail
 rw[hW13.out];clear hW13;have c20:=q17.c 1 rfl;have c21:=q17.c 3 rfl;have c22:=q17.c 4 rfl;have c23:=q17.c 5 rfl
 go_upto_region 24 with fail
 clear c20 c21 c22 c23;have bW24:yB W14 W14.drew:=(Below.refl _ _).drew;have q25:=q17.l bW24;have q26:=q18.l bW24;have q27:=q12.l bW24;have b28:=aa b19 bW24;clear q17 q18 q12 b19 bW24;refine wp_region_held_drew (S:=fun wq=>au wq w.heap.size 91 (ypL ps (yS po pd pc) pp false false false)∧au wq w6.heap.size 42 (yhL f0 f1 f2 R D L G gr fam)) (by kernel_rfl) ⟨q25,q27⟩ (fun hS0=> ?_)
 generalize W14.drew=WD29 at q25 q26 q27 b28 hS0⊢;refine tq 0 (.pointer (some ⟨w.heap.size,0,none⟩)) rfl (fun _ _=>by kernel_rfl) hS0 ?_
 refine tq 1 (.bool ps) rfl (fun _ hw0=>gU 4 (.tmp 94) rfl w.heap.size 0 (by kernel_rfl) _ _ underlying4 rfl (hw0.1.c 0 rfl)) hS0 ?_
 refine tq 2 (.pointer (some ⟨w.heap.size,0,none⟩)) rfl (fun _ _=>by kernel_rfl) hS0 ?_
 refine tq 3 (.bool ps) rfl (fun _ hw0=>gU 4 (.tmp 96) rfl w.heap.size 0 (by kernel_rfl) _ _ underlying4 rfl (hw0.1.c 0 rfl)) hS0 ?_
 refine tq 4 (.pointer (some ⟨w.heap.size,1,none⟩)) rfl (fun _ _=>by kernel_rfl) hS0 ?_
 refine tq 5 (yS po pd pc) rfl (fun _ hw0=>gU 29 (.tmp 98) rfl w.heap.size 1 (by kernel_rfl) _ _ underlying29 rfl (hw0.1.c 1 rfl)) hS0 ?_
 refine tq 6 (.pointer (some ⟨w6.heap.size,3,none⟩)) rfl (fun _ _=>by kernel_rfl) hS0 ?_
 refine tq 7 (ygV R D L G gr) rfl (fun _ hw0=>fy 40 (.tmp 100) rfl w6.heap.size 3 (by kernel_rfl) _ _ (kY hw0.2 3 5 rfl) underlying40 rfl (by kernel_rfl)) hS0 ?_
 refine tq 9 (.pointer (some ⟨w.heap.size,2,none⟩)) rfl (fun _ _=>by kernel_rfl) hS0 ?_
 refine tq 10 (yi pp) rfl (fun _ hw0=>gU 3 (.tmp 103) rfl w.heap.size 2 (by kernel_rfl) _ _ underlying3 rfl (hw0.1.c 2 rfl)) hS0 ?_
 refine tq 15 (yi 1) rfl (fun _ _=>by kernel_rfl) hS0 ?_
 refine wpAnyH_ready (rs:=[8]) (by kernel_rfl) (by simp) ?_;refine AllReadyH.cons rfl (fun K hK=> ?_) AllReadyH.nil
 go_simp
 refine(HW.out _).mono ?_;rintro zz w30 ⟨rfl,bb31⟩;have q32:=q25.l bb31;have q33:=q26.l bb31;have q34:=q27.l bb31;have b35:=aa b28 bb31;clear q25 q26 q27 b28 bb31 HW;refine hK.out _ _ ⟨q32,q34⟩ (fun hS36=> ?_)
 clear hK K;refine tq 11 (yi E) rfl (fun _ _=>by go_simp) hS36 ?_
 refine tq 12 (ydV ps (yS po pd pc) E) rfl (fun _ _=>by kernel_rfl) hS36 ?_
 refine wpAnyH_ready (rs:=[13]) (by kernel_rfl) (by simp) ?_;refine AllReadyH.cons rfl (fun K hK=> ?_) AllReadyH.nil
 go_simp
 refine(HB.out _ b35).mono ?_;rintro zz w37 ⟨v139,rfl,r140,ff1,bb38⟩;have ff:=ff1.mono b35.size;clear ff1;have q41:=q32.l bb38;have q42:=q33.l bb38;have q43:=q34.l bb38;have b44:=aa b35 bb38;obtain⟨so,sc,hv⟩:=r140.shape;subst hv;clear q32 q33 q34 b35 bb38 HB;refine hK.out _ _ ⟨q41,q43⟩ (fun hS45=> ?_)
 clear hK K;refine tq 14 (yEV 2 ps t so sc) rfl (fun _ _=>by kernel_rfl) hS45 ?_
 refine wpAnyH_ready (rs:=[16]) (by kernel_rfl) (by simp) ?_;refine AllReadyH.cons rfl (fun K hK=> ?_) AllReadyH.nil
 have bu:But (w.heap.size+1) w37 (w37.setCells (w.heap.size+1) 0 (yEL 2 ps t so sc)):=de _ _ _ _;have hth:w37.there (w.heap.size+1) 0 5:=dD q42;have q46:au (w37.setCells (w.heap.size+1) 0 (yEL 2 ps t so sc)) (w.heap.size+1) 49 (yEL 2 ps t so sc):=q42.sets _ rfl;have r47:=bu.rd r140 (cq r140 (Dg.norm_dg _ _ (by omega)) q42 (fun x hx n hn=>by simp at hx;rcases hx with rfl|rfl|rfl|rfl|rfl<;>simp;all_goals omega))
 have q48:=bu.loc q41 (by omega);have q49:=bu.loc q43 (by omega);have b50:=bu.below b44 (by omega);rw[if_pos (by kernel_rfl)];refine wp_store_mid 49 (.tmp 6) (.tmp 108) rfl (w.heap.size+1) 0 (yEA 2 ps t so sc) (by kernel_rfl) (by kernel_rfl) hth (by kernel_rfl) (by simp[Value.oneCell']) ?_;refine hK.out _ _ ⟨q48,q49⟩ (fun hS51=> ?_)
 clear hK K;clear q42 r140 q41 q43 b44 bu hth;refine tq 17 (yi 1) rfl (fun _ _=>by kernel_rfl) hS51 ?_
 refine wpAnyH_done (by kernel_rfl) ?_ _;clear hS0 hS36 hS45 hS51;change Exit.then _ _ _ _ (World.setCells w37 (w.heap.size+1) 0 (yEL 2 ps t so sc));generalize World.setCells w37 (w.heap.size+1) 0 (yEL 2 ps t so sc)=W52 at q48 q46 q49 r47 b50⊢;simp only[Act.put,List.getElem_toArray,List.getElem_cons_succ,List.getElem_cons_zero,List.setIfInBounds_toArray,List.set_cons_zero,List.set_cons_succ];have hl:=run_loadVar_mid (P:=Tryz.prog) _ (w.heap.size+1) 0 49 (yEL 2 ps t so sc) _ q46.range underlying49 rfl (by kernel_rfl)
 go_wp2
 exact bodyPost_ret (aj results41 rfl rfl hl) rfl ⟨_,rfl,r47,ff,b50⟩
theorem aei (wd E:Int)(t:ak)(n f0 f1 f2 R D L G pp wy:Int)(gr ok ps:Bool)(po:Option Addr)(pd pc:Nat)(w:World)(hz:(((Dg.dg 65536 pd).length:Int)==0)=false)(hE:IntKind.i64.wrap (wd*pp)=E)(HF:yJ 14 #[yi n] (.tuple #[yhV f0 f1 f2 R D L G gr 1,.bool ok]))
  (HW:yJ 52 #[ygV R D L G gr] (yi wd))
  (HB: ∀w1,yB w w1→yC 32 #[ydV ps (yS po pd pc) E] w1 (di w1 t)):
  yC 41 #[yi n,ypV ps (yS po pd pc) pp false false true,yi wy] w (RVG w 2 ps t 3):=by
 replace HF:Hid _:=HF;replace HW:Hid _:=HW;replace HB:Hid _:=HB;obtain⟨W4,hW5,q1,q2,b3⟩:=iG w (ypL ps (yS po pd pc) pp false false true) 91 (yoL 0 false false yN 0) 49;replace hW5:Hid _:=hW5
 go_enter func41,ntmps41
 go_upto_region 1 with fail
 rw[hW5.out];clear hW5
 go_wp2_with fail
 refine(HF.out _).mono ?_;rintro zz w6 ⟨rfl,bb7⟩;have q8:=q1.l bb7;have q9:=q2.l bb7;have b10:=aa b3 bb7;clear q1 q2 b3 bb7 HF;obtain⟨W14,hW13,q12,al11⟩:=cA w6 (yhL f0 f1 f2 R D L G gr 1) 42;replace hW13:Hid _:=hW13;have hl15:w.heap.size≤w6.heap.size:=b10.size;have hl16:=q9.lt;have q17:=q8.l al11;have q18:=q9.l al11;have b19:=aa b10 al11;clear q8 q9 b10 al11
 go_upto_region 2 with fail
 rw[hW13.out];clear hW13;have c20:=q17.c 1 rfl;have c21:=q17.c 3 rfl;have c22:=q17.c 4 rfl;have c23:=q17.c 5 rfl;have c24:=q12.c 8 rfl
 go_upto_region 24 with fail
 clear c20 c21 c22 c23 c24;have bW25:yB W14 W14.drew:=(Below.refl _ _).drew;have q26:=q17.l bW25;have q27:=q18.l bW25;have q28:=q12.l bW25;have b29:=aa b19 bW25;clear q17 q18 q12 b19 bW25;refine wp_region_held_drew (S:=fun wq=>au wq w.heap.size 91 (ypL ps (yS po pd pc) pp false false true)∧au wq w6.heap.size 42 (yhL f0 f1 f2 R D L G gr 1)) (by kernel_rfl) ⟨q26,q28⟩ (fun hS0=> ?_)
 generalize W14.drew=WD30 at q26 q27 q28 b29 hS0⊢;refine tq 0 (.pointer (some ⟨w.heap.size,0,none⟩)) rfl (fun _ _=>by kernel_rfl) hS0 ?_
 refine tq 1 (.bool ps) rfl (fun _ hw0=>gU 4 (.tmp 94) rfl w.heap.size 0 (by kernel_rfl) _ _ underlying4 rfl (hw0.1.c 0 rfl)) hS0 ?_
 refine tq 2 (.pointer (some ⟨w.heap.size,0,none⟩)) rfl (fun _ _=>by kernel_rfl) hS0 ?_
 refine tq 3 (.bool ps) rfl (fun _ hw0=>gU 4 (.tmp 96) rfl w.heap.size 0 (by kernel_rfl) _ _ underlying4 rfl (hw0.1.c 0 rfl)) hS0 ?_
 refine tq 4 (.pointer (some ⟨w.heap.size,1,none⟩)) rfl (fun _ _=>by kernel_rfl) hS0 ?_
 refine tq 5 (yS po pd pc) rfl (fun _ hw0=>gU 29 (.tmp 98) rfl w.heap.size 1 (by kernel_rfl) _ _ underlying29 rfl (hw0.1.c 1 rfl)) hS0 ?_
 refine tq 6 (.pointer (some ⟨w6.heap.size,3,none⟩)) rfl (fun _ _=>by kernel_rfl) hS0 ?_
 refine tq 7 (ygV R D L G gr) rfl (fun _ hw0=>fy 40 (.tmp 100) rfl w6.heap.size 3 (by kernel_rfl) _ _ (kY hw0.2 3 5 rfl) underlying40 rfl (by kernel_rfl)) hS0 ?_
 refine tq 9 (.pointer (some ⟨w.heap.size,2,none⟩)) rfl (fun _ _=>by kernel_rfl) hS0 ?_
 refine tq 10 (yi pp) rfl (fun _ hw0=>gU 3 (.tmp 103) rfl w.heap.size 2 (by kernel_rfl) _ _ underlying3 rfl (hw0.1.c 2 rfl)) hS0 ?_
 refine tq 15 (yi 3) rfl (fun _ _=>by kernel_rfl) hS0 ?_
 refine wpAnyH_ready (rs:=[8]) (by kernel_rfl) (by simp) ?_;refine AllReadyH.cons rfl (fun K hK=> ?_) AllReadyH.nil
 go_simp
 refine(HW.out _).mono ?_;rintro zz w31 ⟨rfl,bb32⟩;have q33:=q26.l bb32;have q34:=q27.l bb32;have q35:=q28.l bb32;have b36:=aa b29 bb32;clear q26 q27 q28 b29 bb32 HW;refine hK.out _ _ ⟨q33,q35⟩ (fun hS37=> ?_)
 clear hK K;refine tq 11 (yi E) rfl (fun _ _=>by go_simp) hS37 ?_
 refine tq 12 (ydV ps (yS po pd pc) E) rfl (fun _ _=>by kernel_rfl) hS37 ?_
 refine wpAnyH_ready (rs:=[13]) (by kernel_rfl) (by simp) ?_;refine AllReadyH.cons rfl (fun K hK=> ?_) AllReadyH.nil
 go_simp
 refine(HB.out _ b36).mono ?_;rintro zz w38 ⟨v140,rfl,r141,ff1,bb39⟩;have ff:=ff1.mono b36.size;clear ff1;have q42:=q33.l bb39;have q43:=q34.l bb39;have q44:=q35.l bb39;have b45:=aa b36 bb39;obtain⟨so,sc,hv⟩:=r141.shape;subst hv;clear q33 q34 q35 b36 bb39 HB;refine hK.out _ _ ⟨q42,q44⟩ (fun hS46=> ?_)
 clear hK K;refine tq 14 (yEV 2 ps t so sc) rfl (fun _ _=>by kernel_rfl) hS46 ?_
 refine wpAnyH_ready (rs:=[16]) (by kernel_rfl) (by simp) ?_;refine AllReadyH.cons rfl (fun K hK=> ?_) AllReadyH.nil
 have bu:But (w.heap.size+1) w38 (w38.setCells (w.heap.size+1) 0 (yEL 2 ps t so sc)):=de _ _ _ _;have hth:w38.there (w.heap.size+1) 0 5:=dD q43;have q47:au (w38.setCells (w.heap.size+1) 0 (yEL 2 ps t so sc)) (w.heap.size+1) 49 (yEL 2 ps t so sc):=q43.sets _ rfl;have r48:=bu.rd r141 (cq r141 (Dg.norm_dg _ _ (by omega)) q43 (fun x hx n hn=>by simp at hx;rcases hx with rfl|rfl|rfl|rfl|rfl<;>simp;all_goals omega))
 have q49:=bu.loc q42 (by omega);have q50:=bu.loc q44 (by omega);have b51:=bu.below b45 (by omega);rw[if_pos (by kernel_rfl)];refine wp_store_mid 49 (.tmp 6) (.tmp 108) rfl (w.heap.size+1) 0 (yEA 2 ps t so sc) (by kernel_rfl) (by kernel_rfl) hth (by kernel_rfl) (by simp[Value.oneCell']) ?_;refine hK.out _ _ ⟨q49,q50⟩ (fun hS52=> ?_)
 clear hK K;clear q43 r141 q42 q44 b45 bu hth;refine tq 17 (yi 3) rfl (fun _ _=>by kernel_rfl) hS52 ?_
 refine wpAnyH_done (by kernel_rfl) ?_ _;clear hS0 hS37 hS46 hS52;change Exit.then _ _ _ _ (World.setCells w38 (w.heap.size+1) 0 (yEL 2 ps t so sc));generalize World.setCells w38 (w.heap.size+1) 0 (yEL 2 ps t so sc)=W53 at q49 q47 q50 r48 b51⊢;simp only[Act.put,List.getElem_toArray,List.getElem_cons_succ,List.getElem_cons_zero,List.setIfInBounds_toArray,List.set_cons_zero,List.set_cons_succ];have hl:=run_loadVar_mid (P:=Tryz.prog) _ (w.heap.size+1) 0 49 (yEL 2 ps t so sc) _ q47.range underlying49 rfl (by kernel_rfl)
 go_wp2
 exact bodyPost_ret (aj results41 rfl rfl hl) rfl ⟨_,rfl,r48,ff,b51⟩
theorem aeI (wd E:Int)(t:ak)(n f0 f1 f2 R D L G fam pp wy:Int)(gr ok ps:Bool)(po:Option Addr)(pd pc:Nat)(w:World)(h1:(fam==1)=false)(h2:1<fam)(h3: ¬pp<L)(hz:(((Dg.dg 65536 pd).length:Int)==0)=false)(hE:IntKind.i64.wrap (wd*pp)=E)(HF:yJ 14 #[yi n] (.tuple #[yhV f0 f1 f2 R D L G gr fam,.bool ok]))
  (HW:yJ 52 #[ygV R D L G gr] (yi wd))
  (HB: ∀w1,yB w w1→yC 32 #[ydV ps (yS po pd pc) E] w1 (di w1 t)):
  yC 41 #[yi n,ypV ps (yS po pd pc) pp false false true,yi wy] w (RVG w 2 ps t 3):=by
 replace HF:Hid _:=HF;replace HW:Hid _:=HW;replace HB:Hid _:=HB;obtain⟨W4,hW5,q1,q2,b3⟩:=iG w (ypL ps (yS po pd pc) pp false false true) 91 (yoL 0 false false yN 0) 49;replace hW5:Hid _:=hW5
 go_enter func41,ntmps41
 go_upto_region 1 with fail
 rw[hW5.out];clear hW5
 go_wp2_with fail
 refine(HF.out _).mono ?_;rintro zz w6 ⟨rfl,bb7⟩;have q8:=q1.l bb7;have q9:=q2.l bb7;have b10:=aa b3 bb7;clear q1 q2 b3 bb7 HF;obtain⟨W14,hW13,q12,al11⟩:=cA w6 (yhL f0 f1 f2 R D L G gr fam) 42;replace hW13:Hid _:=hW13;have hl15:w.heap.size≤w6.heap.size:=b10.size;have hl16:=q9.lt;have q17:=q8.l al11;have q18:=q9.l al11;have b19:=aa b10 al11;clear q8 q9 b10 al11
 go_upto_region 2 with fail
 rw[hW13.out];clear hW13;have c20:=q17.c 1 rfl;have c21:=q17.c 2 rfl;have c22:=q17.c 3 rfl;have c23:=q17.c 4 rfl;have c24:=q17.c 5 rfl;have c25:=q12.c 5 rfl;have c26:=q12.c 8 rfl
 go_upto_region 24 with fail
 clear c20 c21 c22 c23 c24 c25 c26;have bW27:yB W14 W14.drew:=(Below.refl _ _).drew;have q28:=q17.l bW27;have q29:=q18.l bW27;have q30:=q12.l bW27;have b31:=aa b19 bW27;clear q17 q18 q12 b19 bW27;refine wp_region_held_drew (S:=fun wq=>au wq w.heap.size 91 (ypL ps (yS po pd pc) pp false false true)∧au wq w6.heap.size 42 (yhL f0 f1 f2 R D L G gr fam)) (by kernel_rfl) ⟨q28,q30⟩ (fun hS0=> ?_)
 generalize W14.drew=WD32 at q28 q29 q30 b31 hS0⊢;refine tq 0 (.pointer (some ⟨w.heap.size,0,none⟩)) rfl (fun _ _=>by kernel_rfl) hS0 ?_
 refine tq 1 (.bool ps) rfl (fun _ hw0=>gU 4 (.tmp 94) rfl w.heap.size 0 (by kernel_rfl) _ _ underlying4 rfl (hw0.1.c 0 rfl)) hS0 ?_
 refine tq 2 (.pointer (some ⟨w.heap.size,0,none⟩)) rfl (fun _ _=>by kernel_rfl) hS0 ?_
 refine tq 3 (.bool ps) rfl (fun _ hw0=>gU 4 (.tmp 96) rfl w.heap.size 0 (by kernel_rfl) _ _ underlying4 rfl (hw0.1.c 0 rfl)) hS0 ?_
 refine tq 4 (.pointer (some ⟨w.heap.size,1,none⟩)) rfl (fun _ _=>by kernel_rfl) hS0 ?_
 refine tq 5 (yS po pd pc) rfl (fun _ hw0=>gU 29 (.tmp 98) rfl w.heap.size 1 (by kernel_rfl) _ _ underlying29 rfl (hw0.1.c 1 rfl)) hS0 ?_
 refine tq 6 (.pointer (some ⟨w6.heap.size,3,none⟩)) rfl (fun _ _=>by kernel_rfl) hS0 ?_
 refine tq 7 (ygV R D L G gr) rfl (fun _ hw0=>fy 40 (.tmp 100) rfl w6.heap.size 3 (by kernel_rfl) _ _ (kY hw0.2 3 5 rfl) underlying40 rfl (by kernel_rfl)) hS0 ?_
 refine tq 9 (.pointer (some ⟨w.heap.size,2,none⟩)) rfl (fun _ _=>by kernel_rfl) hS0 ?_
 refine tq 10 (yi pp) rfl (fun _ hw0=>gU 3 (.tmp 103) rfl w.heap.size 2 (by kernel_rfl) _ _ underlying3 rfl (hw0.1.c 2 rfl)) hS0 ?_
 refine tq 15 (yi 3) rfl (fun _ _=>by kernel_rfl) hS0 ?_
 refine wpAnyH_ready (rs:=[8]) (by kernel_rfl) (by simp) ?_;refine AllReadyH.cons rfl (fun K hK=> ?_) AllReadyH.nil
 go_simp
 refine(HW.out _).mono ?_;rintro zz w33 ⟨rfl,bb34⟩;have q35:=q28.l bb34;have q36:=q29.l bb34;have q37:=q30.l bb34;have b38:=aa b31 bb34;clear q28 q29 q30 b31 bb34 HW;refine hK.out _ _ ⟨q35,q37⟩ (fun hS39=> ?_)
 clear hK K;refine tq 11 (yi E) rfl (fun _ _=>by go_simp) hS39 ?_
 refine tq 12 (ydV ps (yS po pd pc) E) rfl (fun _ _=>by kernel_rfl) hS39 ?_
 refine wpAnyH_ready (rs:=[13]) (by kernel_rfl) (by simp) ?_;refine AllReadyH.cons rfl (fun K hK=> ?_) AllReadyH.nil
 go_simp
 refine(HB.out _ b38).mono ?_;rintro zz w40 ⟨v142,rfl,r143,ff1,bb41⟩;have ff:=ff1.mono b38.size;clear ff1;have q44:=q35.l bb41;have q45:=q36.l bb41;have q46:=q37.l bb41;have b47:=aa b38 bb41;obtain⟨so,sc,hv⟩:=r143.shape;subst hv;clear q35 q36 q37 b38 bb41 HB;refine hK.out _ _ ⟨q44,q46⟩ (fun hS48=> ?_)
 clear hK K;refine tq 14 (yEV 2 ps t so sc) rfl (fun _ _=>by kernel_rfl) hS48 ?_
 refine wpAnyH_ready (rs:=[16]) (by kernel_rfl) (by simp) ?_;refine AllReadyH.cons rfl (fun K hK=> ?_) AllReadyH.nil
 have bu:But (w.heap.size+1) w40 (w40.setCells (w.heap.size+1) 0 (yEL 2 ps t so sc)):=de _ _ _ _;have hth:w40.there (w.heap.size+1) 0 5:=dD q45;have q49:au (w40.setCells (w.heap.size+1) 0 (yEL 2 ps t so sc)) (w.heap.size+1) 49 (yEL 2 ps t so sc):=q45.sets _ rfl;have r50:=bu.rd r143 (cq r143 (Dg.norm_dg _ _ (by omega)) q45 (fun x hx n hn=>by simp at hx;rcases hx with rfl|rfl|rfl|rfl|rfl<;>simp;all_goals omega))
 have q51:=bu.loc q44 (by omega);have q52:=bu.loc q46 (by omega);have b53:=bu.below b47 (by omega);rw[if_pos (by kernel_rfl)];refine wp_store_mid 49 (.tmp 6) (.tmp 108) rfl (w.heap.size+1) 0 (yEA 2 ps t so sc) (by kernel_rfl) (by kernel_rfl) hth (by kernel_rfl) (by simp[Value.oneCell']) ?_;refine hK.out _ _ ⟨q51,q52⟩ (fun hS54=> ?_)
 clear hK K;clear q45 r143 q44 q46 b47 bu hth;refine tq 17 (yi 3) rfl (fun _ _=>by kernel_rfl) hS54 ?_
 refine wpAnyH_done (by kernel_rfl) ?_ _;clear hS0 hS39 hS48 hS54;change Exit.then _ _ _ _ (World.setCells w40 (w.heap.size+1) 0 (yEL 2 ps t so sc));generalize World.setCells w40 (w.heap.size+1) 0 (yEL 2 ps t so sc)=W55 at q51 q49 q52 r50 b53⊢;simp only[Act.put,List.getElem_toArray,List.getElem_cons_succ,List.getElem_cons_zero,List.setIfInBounds_toArray,List.set_cons_zero,List.set_cons_succ];have hl:=run_loadVar_mid (P:=Tryz.prog) _ (w.heap.size+1) 0 49 (yEL 2 ps t so sc) _ q49.range underlying49 rfl (by kernel_rfl)
 go_wp2
 exact bodyPost_ret (aj results41 rfl rfl hl) rfl ⟨_,rfl,r50,ff,b53⟩
theorem acs (n f0 f1 f2 R D L G fam c wy E fl:Int)(gr ok g qs:Bool)(N M:Nat)(no mo:Option Addr)(nc mc:Nat)(p:fz)(t:ak)(w:World)(HF:yJ 14 #[yi n] (.tuple #[yhV f0 f1 f2 R D L G gr fam,.bool ok]))
  (HR: ∀w1,yB w w1→yC 42 #[yrV qs (yS no N nc) (yS mo M mc) E,ygV R D L G gr,yi wy] w1 (GT w1 p))
  (HP: ∀po pc w1,Rd w1 .i64 (yS po p.d pc) (Dg.dg 65536 p.d)→yC 41 #[yi n,ypV p.s (yS po p.d pc) p.p p.ex p.ov p.un,yi wy] w1 (RVG w1 c g t fl)):
  yC 17 #[yi n,yrV qs (yS no N nc) (yS mo M mc) E,yi wy] w (RVG w c g t fl):=by
 replace HF:Hid _:=HF;replace HR:Hid _:=HR;replace HP:Hid _:=HP;obtain⟨W4,hW5,q1,q2,b3⟩:=iG w (yrL qs (yS no N nc) (yS mo M mc) E) 31 (yoL 0 false false yN 0) 49;replace hW5:Hid _:=hW5
 go_enter func17,ntmps17
 go_upto_region 1 with fail
 rw[hW5.out];clear hW5
 go_wp2_with fail
 refine(HF.out _).mono ?_;rintro zz w6 ⟨rfl,bb7⟩;have q8:=q1.l bb7;have q9:=q2.l bb7;have b10:=aa b3 bb7;clear q1 q2 b3 bb7 HF;obtain⟨W14,hW13,q12,al11⟩:=cA w6 (yhL f0 f1 f2 R D L G gr fam) 42;replace hW13:Hid _:=hW13;have hl15:w.heap.size≤w6.heap.size:=b10.size;have hl16:=q9.lt;have q17:=q8.l al11;have q18:=q9.l al11;have b19:=aa b10 al11;clear q8 q9 b10 al11
 go_upto_region 2 with fail
 rw[hW13.out];clear hW13;obtain⟨c20,c21,c22,c23⟩:=q17.cs4;have c24:=q12.c 3 rfl;have c25:=q12.c 4 rfl;have c26:=q12.c 5 rfl;have c27:=q12.c 6 rfl;have c28:=q12.c 7 rfl
 go_wp2_with fail
 refine(HR.out _ b19).mono ?_;rintro zz w29 ⟨v131,rfl,r132,bb30⟩;have q33:=q18.l bb30;have b34:=aa b19 bb30;obtain⟨po,pc,hv⟩:=r132.shape;subst hv;clear q17 q18 q12 b19 bb30 HR c20 c21 c22 c23 c24 c25 c26 c27 c28
 go_wp2_with fail
 refine(HP.out _ _ _ r132).mono ?_;rintro zz w35 ⟨v137,rfl,r138,ff1,bb36⟩;have ff:=ff1.mono b34.size;clear ff1;have q39:=q33.l bb36;have r40:=r132.l bb36;have b41:=aa b34 bb36;obtain⟨so,sc,hv⟩:=r138.shape;subst hv;clear q33 r132 b34 bb36 HP;have hf:=dL (P:=Tryz.prog) q39 b41 (by omega) underlying49 rfl (by kernel_rfl) (yi c) (.bool g) (.bool t.s) (yS so t.n sc) (yi t.e);have HH:Hid (_∧_∧_):=⟨hf.1,hf.2.2.rd r138 (mu r138 q39),hf.2.1⟩;obtain⟨⟨z0,z1,z2,z3,z4⟩,y0,y1,y2,y3,y4⟩:=dN q39;clear hf q39 r40 r138 b41
 go_wp2
 obtain⟨hl,rRs,bR⟩:=HH.out;exact bodyPost_ret (aj results17 rfl rfl hl) rfl ⟨_,rfl,rRs,ff,bR⟩
end Go.Proofs.YtpgijbdgljkeeaaGreatDoor
