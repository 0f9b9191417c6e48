/-
  Texts laid together: Oa0, Fi2, Fi5, Gq1, Gq4.
-/
import Derived.Test.YtbdokgamhinajaaGreatDoorSm34
set_option maxRecDepth 100000
set_option maxHeartbeats 6400000
namespace Go.Proofs.YtbdokgamhinajaaGreatDoor
open _root_.Go.Proofs.Tryz
open Go.RowKit
theorem RK {R D L G:Int}{gr s:Bool}{n:Nat}{e way:Int}(h1:1≤D)(hLG:L≤G)(h0:n≠0)(hh:dA R D L G gr n e=true):(cI R D L G gr s n 1 e way).ex=true∧L≤cP R D L gr n e:=by
 have hs:L≤cP R D L gr n e∧cP R D L gr n e≤G∧(ai R:Int)*cP R D L gr n e≤e+(tz n:Int):=by
  unfold dA at hh
  rcases of_decide_eq_true hh with h|h
  ·exact absurd h h0
  ·exact h
 have hc:dj R D L gr n 1 e=cP R D L gr n e:=by
  unfold dj cP;rw[lU h0]
 refine⟨?_,hs.1⟩;rw[kJ gr s n 1 e way h1 hLG h0 (by omega)];refine decide_eq_true ?_;unfold gF shP;rw[hc];exact(nV s n e _ hs.2.2).1
theorem OC {k:Nat}(hk:1≤k∧k≤8)(way:Int)(g:Bool)(t:ak)(fl:Int)(h0:t.n≠0)(hh:dA (rdN k) (dgN k) (lsI k) (gsI k) (decide (k≤3)) t.n t.e=true)
  {xs:List Nat} {p:Int} (sa:Dg.Small 4294967296 xs) (hc:chk xs=0) (he:enE k t.s xs p=0) (hb:bare ⟨t.s,Dg.vl 4294967296 xs,(ai (rdN k):Int)*p⟩=bare t):
  m8 k way 2 g t fl=(fq k 2 t.s xs p,bits .or .i64 fl 0,0):=by
 obtain⟨-,-,d1,-,-,-,lg,-,w64,-,-,hg⟩:=eR hk;have hD:(1:Int)≤(dgN k:Int):=by omega
 obtain⟨o1,o2,o3⟩:=mC (s:=t.s) (way:=way) hD lg h0 hh;obtain⟨q1,q2,q3,q4⟩:=oj (s:=t.s) (way:=way) hD lg h0 hh;obtain⟨ex,hL⟩:=RK (s:=t.s) (way:=way) hD lg h0 hh;have hsp:ia (rdN k) (dgN k) (lsI k) (gsI k) (decide (k≤3)) (fY k way t).d (fY k way t).p:=nW hD lg h0 (by omega) o1 o2;obtain⟨l15,p1,p2,-,-,-⟩:=qj hg hsp;have hd:(fY k way t).d≠0:=fun c=>q4 (q2.symm.trans c)
 have hs:(fY k way t).s=t.s:=q1;have hset:pG k way (fY k way t)=(2,t.s,(fY k way t).d,(fY k way t).p,0):=by
  unfold pG;rw[if_neg (fun c=>by rw[show(fY k way t).ov=false from o1] at c;cases c),if_neg (fun c=>by have:=c.2;rw[show(fY k way t).p=cP (rdN k) (dgN k) (lsI k) (decide (k≤3)) t.n t.e from q3] at this;omega),if_neg hd,if_pos (show(fY k way t).ex=true from ex),hs]
 have hcd:chk (Dg.dg 4294967296 (fY k way t).d)=0:=pJ (Dg.norm_dg _ _ (by omega)) (by omega);have hl0:(Dg.dg 4294967296 (fY k way t).d).length≠0:=fun c=>hd ((Dg.dg_nil_iff 4294967296 _ (by omega)).1 (List.length_eq_zero_iff.1 c))
 have hv:=Dg.vl_dg 4294967296 (fY k way t).d (by omega);have hb2:bare ⟨t.s,Dg.vl 4294967296 (Dg.dg 4294967296 (fY k way t).d),(ai (rdN k):Int)*(fY k way t).p⟩=bare t:=by
  rw[hv];have:=o3;rw[q1] at this;exact this
 have hE:enE k t.s (Dg.dg 4294967296 (fY k way t).d) (fY k way t).p=0:=by
  rw[mY hk hcd hl0 (by omega),hb2,jK _ _ lg,hh,if_pos rfl]
 unfold m8 Dw;rw[if_pos rfl,hset];simp only;rw[(xH hk hcd).1,hE,if_pos rfl,(xH hk hcd).2,(xH hk hc).2];rw[Oe sa (Dg.small_dg _ _ (by omega)) hc hcd he hE (hb2.trans hb.symm)]
theorem aej (n f0 f1 f2 R D L G fam:Int)(gr ok ng:Bool)(w:World)(HF:yJ 18 #[yi n] (.tuple #[yhV f0 f1 f2 R D L G gr fam,.bool ok])):
  yC 21 #[yi n,.bool ng] w (yR w (yoV 1 (ng&&decide (fam=1)) false yN 0)):=by
 replace HF:Hid _:=HF
 cases ng
 ·rw[Bool.false_and]
  have a0:=af w (.cells (yoA 0 false false yN 0) 32);have q0:=ah w (yoL 0 false false yN 0) 32
  go_enter func21,ntmps21
  go_wp2_with fail
  refine(HF.out _).mono ?_;rintro z w1 ⟨rfl,b1⟩;have al:=af w1 (.cells (yhA f0 f1 f2 R D L G gr fam) 50);have d2:=ah w1 (yhL f0 f1 f2 R D L G gr fam) 50;have q2:=(q0.l b1).l al;have b2:=aa (aa a0 b1) al;have hne:w.heap.size≠w1.heap.size:=Nat.ne_of_lt (q0.l b1).lt;clear a0 q0 b1 al HF
  go_upto_region 2 with fail
  generalize w1.alloc (.cells (yhA f0 f1 f2 R D L G gr fam) 50)=W2 at d2 q2 b2⊢;generalize w1.heap.size=PF at d2 hne⊢;have xf:=d2.c 8 rfl;have cR:au (((((W2.setCell ⟨w.heap.size,0,none⟩ (yi 1)).setCell ⟨w.heap.size,1,none⟩ (.bool false)).setCell ⟨w.heap.size,2,none⟩ (.bool false)).setCell ⟨w.heap.size,3,none⟩ yN).setCell ⟨w.heap.size,4,none⟩ (yi 0)) (w.heap.size) 32 (yoL 1 false false yN 0):=(((((q2.set 0 (yi 1)).set 1 (.bool false)).set 2 (.bool false)).set 3 yN).set 4 (yi 0));have bu:=((((ag W2 (w.heap.size) 0 (yi 1)).trans (ag _ (w.heap.size) 1 (.bool false))).trans (ag _ (w.heap.size) 2 (.bool false))).trans (ag _ (w.heap.size) 3 yN)).trans (ag _ (w.heap.size) 4 (yi 0));have bR:=bu.below b2 (by omega);have hl:=run_loadVar_mid (P:=Tryz.prog) _ (w.heap.size) 0 32 (yoL 1 false false yN 0) _ cR.range underlying32 rfl (by kernel_rfl);have HH:Hid (_∧_):=⟨hl,bR⟩;obtain⟨z0,z1,z2,z3,z4⟩:=q2.cs5;have fz0:=q2.f 0;have fz1:=q2.f 1;have fz2:=q2.f 2;have fz3:=q2.f 3;have fz4:=q2.f 4;clear hl bR bu cR;clear q2 b2
  go_wp2
  obtain⟨hl,bR⟩:=HH.out;exact bodyPost_ret (br results21 rfl hl) rfl ⟨rfl,bR⟩
 ·rw[Bool.true_and]
  obtain⟨b,hb⟩: ∃b,(fam==1)=b:=⟨_,rfl⟩;have hd:decide (fam=1)=b:=by rw[←hb];rfl
  rw[hd];clear hd;have a0:=af w (.cells (yoA 0 false false yN 0) 32);have q0:=ah w (yoL 0 false false yN 0) 32
  go_enter func21,ntmps21
  go_wp2_with fail
  refine(HF.out _).mono ?_;rintro z w1 ⟨rfl,b1⟩;have al:=af w1 (.cells (yhA f0 f1 f2 R D L G gr fam) 50);have d2:=ah w1 (yhL f0 f1 f2 R D L G gr fam) 50;have q2:=(q0.l b1).l al;have b2:=aa (aa a0 b1) al;have hne:w.heap.size≠w1.heap.size:=Nat.ne_of_lt (q0.l b1).lt;clear a0 q0 b1 al HF
  go_upto_region 2 with fail
  generalize w1.alloc (.cells (yhA f0 f1 f2 R D L G gr fam) 50)=W2 at d2 q2 b2⊢;generalize w1.heap.size=PF at d2 hne⊢;have xf:=d2.c 8 rfl;have cR:au (((((W2.setCell ⟨w.heap.size,0,none⟩ (yi 1)).setCell ⟨w.heap.size,1,none⟩ (.bool b)).setCell ⟨w.heap.size,2,none⟩ (.bool false)).setCell ⟨w.heap.size,3,none⟩ yN).setCell ⟨w.heap.size,4,none⟩ (yi 0)) (w.heap.size) 32 (yoL 1 b false yN 0):=(((((q2.set 0 (yi 1)).set 1 (.bool b)).set 2 (.bool false)).set 3 yN).set 4 (yi 0));have bu:=((((ag W2 (w.heap.size) 0 (yi 1)).trans (ag _ (w.heap.size) 1 (.bool b))).trans (ag _ (w.heap.size) 2 (.bool false))).trans (ag _ (w.heap.size) 3 yN)).trans (ag _ (w.heap.size) 4 (yi 0));have bR:=bu.below b2 (by omega);have hl:=run_loadVar_mid (P:=Tryz.prog) _ (w.heap.size) 0 32 (yoL 1 b false yN 0) _ cR.range underlying32 rfl (by kernel_rfl);have HH:Hid (_∧_):=⟨hl,bR⟩;obtain⟨z0,z1,z2,z3,z4⟩:=q2.cs5;have fz0:=q2.f 0;have fz1:=q2.f 1;have fz2:=q2.f 2;have fz3:=q2.f 3;have fz4:=q2.f 4;clear hl bR bu cR;clear q2 b2
  go_wp2
  obtain⟨hl,bR⟩:=HH.out;exact bodyPost_ret (br results21 rfl hl) rfl ⟨rfl,bR⟩
theorem aa4 (n f0 f1 f2 R D L G:Int)(gr ok:Bool)(w:World)(HF:yJ 18 #[yi n] (.tuple #[yhV f0 f1 f2 R D L G gr 1,.bool ok])):
  yC 71 #[yi n] w (yR w (yoV 4 false false yN 0)):=by
 replace HF:Hid _:=HF;have a0:=af w (.cells (yoA 0 false false yN 0) 32);have q0:=ah w (yoL 0 false false yN 0) 32
 go_enter func71,ntmps71
 go_wp2_with fail
 refine(HF.out _).mono ?_;rintro z w1 ⟨rfl,b1⟩;have al:=af w1 (.cells (yhA f0 f1 f2 R D L G gr 1) 50);have d2:=ah w1 (yhL f0 f1 f2 R D L G gr 1) 50;have q2:=(q0.l b1).l al;have b2:=aa (aa a0 b1) al;have hne:w.heap.size≠w1.heap.size:=Nat.ne_of_lt (q0.l b1).lt;clear a0 q0 b1 al HF
 go_upto_region 2 with fail
 generalize w1.alloc (.cells (yhA f0 f1 f2 R D L G gr 1) 50)=W2 at d2 q2 b2⊢;generalize w1.heap.size=PF at d2 hne⊢;have xf:=d2.c 8 rfl;have al:=af W2 (.cells #[yi 0,yi 4,yi 1,yi 5] 3);have s3:=ah W2 [yi 0,yi 4,yi 1,yi 5] 3;have q3:=q2.l al;have d3:=d2.l al;have b3:=aa b2 al;have xf3:=d3.c 8 rfl;obtain⟨u0,u1,u2,u3⟩:=s3.cs4;have cR:au ((((((W2.alloc (.cells #[yi 0,yi 4,yi 1,yi 5] 3)).setCell ⟨w.heap.size,0,none⟩ (yi 4)).setCell ⟨w.heap.size,1,none⟩ (.bool false)).setCell ⟨w.heap.size,2,none⟩ (.bool false)).setCell ⟨w.heap.size,3,none⟩ yN).setCell ⟨w.heap.size,4,none⟩ (yi 0)) (w.heap.size) 32 (yoL 4 false false yN 0):=(((((q3.set 0 (yi 4)).set 1 (.bool false)).set 2 (.bool false)).set 3 yN).set 4 (yi 0));have bu:=((((ag (W2.alloc (.cells #[yi 0,yi 4,yi 1,yi 5] 3)) (w.heap.size) 0 (yi 4)).trans (ag _ (w.heap.size) 1 (.bool false))).trans (ag _ (w.heap.size) 2 (.bool false))).trans (ag _ (w.heap.size) 3 yN)).trans (ag _ (w.heap.size) 4 (yi 0));have bR:=bu.below b3 (by omega);have hl:=run_loadVar_mid (P:=Tryz.prog) _ (w.heap.size) 0 32 (yoL 4 false false yN 0) _ cR.range underlying32 rfl (by kernel_rfl);have HH:Hid (_∧_):=⟨hl,bR⟩;obtain⟨z0,z1,z2,z3,z4⟩:=q3.cs5;have fz0:=q3.f 0;have fz1:=q3.f 1;have fz2:=q3.f 2;have fz3:=q3.f 3;have fz4:=q3.f 4;clear hl bR bu cR;clear q2 b2 q3 b3 al s3
 go_wp2
 obtain⟨hl,bR⟩:=HH.out;exact bodyPost_ret (br results71 rfl hl) rfl ⟨rfl,bR⟩
theorem aa5 (n f0 f1 f2 R D L G:Int)(gr ok:Bool)(w:World)(HF:yJ 18 #[yi n] (.tuple #[yhV f0 f1 f2 R D L G gr 2,.bool ok])):
  yC 71 #[yi n] w (yR w (yoV 1 false false yN 0)):=by
 replace HF:Hid _:=HF;have a0:=af w (.cells (yoA 0 false false yN 0) 32);have q0:=ah w (yoL 0 false false yN 0) 32
 go_enter func71,ntmps71
 go_wp2_with fail
 refine(HF.out _).mono ?_;rintro z w1 ⟨rfl,b1⟩;have al:=af w1 (.cells (yhA f0 f1 f2 R D L G gr 2) 50);have d2:=ah w1 (yhL f0 f1 f2 R D L G gr 2) 50;have q2:=(q0.l b1).l al;have b2:=aa (aa a0 b1) al;have hne:w.heap.size≠w1.heap.size:=Nat.ne_of_lt (q0.l b1).lt;clear a0 q0 b1 al HF
 go_upto_region 2 with fail
 generalize w1.alloc (.cells (yhA f0 f1 f2 R D L G gr 2) 50)=W2 at d2 q2 b2⊢;generalize w1.heap.size=PF at d2 hne⊢;have xf:=d2.c 8 rfl;have al:=af W2 (.cells #[yi 0,yi 4,yi 1,yi 5] 3);have s3:=ah W2 [yi 0,yi 4,yi 1,yi 5] 3;have q3:=q2.l al;have d3:=d2.l al;have b3:=aa b2 al;have xf3:=d3.c 8 rfl;obtain⟨u0,u1,u2,u3⟩:=s3.cs4;have cR:au ((((((W2.alloc (.cells #[yi 0,yi 4,yi 1,yi 5] 3)).setCell ⟨w.heap.size,0,none⟩ (yi 1)).setCell ⟨w.heap.size,1,none⟩ (.bool false)).setCell ⟨w.heap.size,2,none⟩ (.bool false)).setCell ⟨w.heap.size,3,none⟩ yN).setCell ⟨w.heap.size,4,none⟩ (yi 0)) (w.heap.size) 32 (yoL 1 false false yN 0):=(((((q3.set 0 (yi 1)).set 1 (.bool false)).set 2 (.bool false)).set 3 yN).set 4 (yi 0));have bu:=((((ag (W2.alloc (.cells #[yi 0,yi 4,yi 1,yi 5] 3)) (w.heap.size) 0 (yi 1)).trans (ag _ (w.heap.size) 1 (.bool false))).trans (ag _ (w.heap.size) 2 (.bool false))).trans (ag _ (w.heap.size) 3 yN)).trans (ag _ (w.heap.size) 4 (yi 0));have bR:=bu.below b3 (by omega);have hl:=run_loadVar_mid (P:=Tryz.prog) _ (w.heap.size) 0 32 (yoL 1 false false yN 0) _ cR.range underlying32 rfl (by kernel_rfl);have HH:Hid (_∧_):=⟨hl,bR⟩;obtain⟨z0,z1,z2,z3,z4⟩:=q3.cs5;have fz0:=q3.f 0;have fz1:=q3.f 1;have fz2:=q3.f 2;have fz3:=q3.f 3;have fz4:=q3.f 4;clear hl bR bu cR;clear q2 b2 q3 b3 al s3
 go_wp2
 obtain⟨hl,bR⟩:=HH.out;exact bodyPost_ret (br results71 rfl hl) rfl ⟨rfl,bR⟩
theorem aa6 (n f0 f1 f2 R D L G:Int)(gr ok:Bool)(w:World)(HF:yJ 18 #[yi n] (.tuple #[yhV f0 f1 f2 R D L G gr 3,.bool ok])):
  yC 71 #[yi n] w (yR w (yoV 5 false false yN 0)):=by
 replace HF:Hid _:=HF;have a0:=af w (.cells (yoA 0 false false yN 0) 32);have q0:=ah w (yoL 0 false false yN 0) 32
 go_enter func71,ntmps71
 go_wp2_with fail
 refine(HF.out _).mono ?_;rintro z w1 ⟨rfl,b1⟩;have al:=af w1 (.cells (yhA f0 f1 f2 R D L G gr 3) 50);have d2:=ah w1 (yhL f0 f1 f2 R D L G gr 3) 50;have q2:=(q0.l b1).l al;have b2:=aa (aa a0 b1) al;have hne:w.heap.size≠w1.heap.size:=Nat.ne_of_lt (q0.l b1).lt;clear a0 q0 b1 al HF
 go_upto_region 2 with fail
 generalize w1.alloc (.cells (yhA f0 f1 f2 R D L G gr 3) 50)=W2 at d2 q2 b2⊢;generalize w1.heap.size=PF at d2 hne⊢;have xf:=d2.c 8 rfl;have al:=af W2 (.cells #[yi 0,yi 4,yi 1,yi 5] 3);have s3:=ah W2 [yi 0,yi 4,yi 1,yi 5] 3;have q3:=q2.l al;have d3:=d2.l al;have b3:=aa b2 al;have xf3:=d3.c 8 rfl;obtain⟨u0,u1,u2,u3⟩:=s3.cs4;have cR:au ((((((W2.alloc (.cells #[yi 0,yi 4,yi 1,yi 5] 3)).setCell ⟨w.heap.size,0,none⟩ (yi 5)).setCell ⟨w.heap.size,1,none⟩ (.bool false)).setCell ⟨w.heap.size,2,none⟩ (.bool false)).setCell ⟨w.heap.size,3,none⟩ yN).setCell ⟨w.heap.size,4,none⟩ (yi 0)) (w.heap.size) 32 (yoL 5 false false yN 0):=(((((q3.set 0 (yi 5)).set 1 (.bool false)).set 2 (.bool false)).set 3 yN).set 4 (yi 0));have bu:=((((ag (W2.alloc (.cells #[yi 0,yi 4,yi 1,yi 5] 3)) (w.heap.size) 0 (yi 5)).trans (ag _ (w.heap.size) 1 (.bool false))).trans (ag _ (w.heap.size) 2 (.bool false))).trans (ag _ (w.heap.size) 3 yN)).trans (ag _ (w.heap.size) 4 (yi 0));have bR:=bu.below b3 (by omega);have hl:=run_loadVar_mid (P:=Tryz.prog) _ (w.heap.size) 0 32 (yoL 5 false false yN 0) _ cR.range underlying32 rfl (by kernel_rfl);have HH:Hid (_∧_):=⟨hl,bR⟩;obtain⟨z0,z1,z2,z3,z4⟩:=q3.cs5;have fz0:=q3.f 0;have fz1:=q3.f 1;have fz2:=q3.f 2;have fz3:=q3.f 3;have fz4:=q3.f 4;clear hl bR bu cR;clear q2 b2 q3 b3 al s3
 go_wp2
 obtain⟨hl,bR⟩:=HH.out;exact bodyPost_ret (br results71 rfl hl) rfl ⟨rfl,bR⟩
def RVg (w:World)(c:Int)(g:Bool)(t:ak)(z:Ending)(w':World):Prop:=
 ∃s,z= .returned (yoV c g t.s s t.e)∧Rd w' .i64 s (Dg.dg 65536 t.n)∧Far w.heap.size s∧yB w w'
theorem aaB (n f0 f1 f2 R D L G fam wd PW E:Int)(gr ok ng:Bool)(pn:Nat)(t:ak)(w:World)(hPW:IntKind.i64.wrap (wd*D)=PW)(hE:IntKind.i64.wrap (wd*G)=E)(HF:yJ 18 #[yi n] (.tuple #[yhV f0 f1 f2 R D L G gr fam,.bool ok]))
  (HW:yJ 68 #[ygV R D L G gr] (yi wd))
  (HP: ∀w1,yC 65 #[yi PW] w1 (cG w1 pn))
  (HL: ∀vo vc q w1,Rd w1 .i64 (yS vo pn vc) (Dg.dg 65536 pn)→w1.cell? ⟨q,0,none⟩=some (yi 1)→yC 76 #[yS vo pn vc,.slice (some ⟨q,0,none⟩) 1 1] w1 (cG w1 (pn-1)))
  (HB: ∀vo vc w1,Rd w1 .i64 (.slice vo (Dg.dg 65536 (pn-1)).length vc) (Dg.dg 65536 (pn-1))→yC 67 #[ydV ng (.slice vo (Dg.dg 65536 (pn-1)).length vc) E] w1 (di w1 t)):
  yC 91 #[yi n,.bool ng] w (RVg w 2 ng t):=by
 replace HF:Hid _:=HF;replace HW:Hid _:=HW;replace HP:Hid _:=HP;replace HL:Hid _:=HL;replace HB:Hid _:=HB;have a0:=af w (.cells (yoA 0 false false yN 0) 32);have q0:=ah w (yoL 0 false false yN 0) 32
 go_enter func91,ntmps91
 go_wp2_with fail
 refine(HF.out _).mono ?_;rintro z w1 ⟨rfl,b1⟩;have al:=af w1 (.cells (yhA f0 f1 f2 R D L G gr fam) 50);have d2:=ah w1 (yhL f0 f1 f2 R D L G gr fam) 50;have q2:=(q0.l b1).l al;have b2:=aa (aa a0 b1) al;have hne:w.heap.size<w1.heap.size:=(q0.l b1).lt;clear a0 q0 b1 al HF
 go_upto_region 2 with fail
 generalize w1.alloc (.cells (yhA f0 f1 f2 R D L G gr fam) 50)=W2 at d2 q2 b2⊢;generalize w1.heap.size=PF at d2 hne⊢;obtain⟨x0,x1,x2,x3,x4,x5,x6,x7,x8⟩:=d2.cs9
 go_wp2_with fail
 refine(HW.out _).mono ?_;rintro z w3 ⟨rfl,b3⟩;have bb:=aa b3 (Below.refl _ _).drew;have d3:=d2.l bb;have q3:=q2.l bb;have b03:=aa b2 bb;clear x0 x1 x2 x3 x4 x5 x6 x7 x8 d2 q2 b2 b3 bb HW
 go_upto_region 3 with fail
 refine wp_region_held_drew (S:=(fun wq=>au wq PF 50 (yhL f0 f1 f2 R D L G gr fam))) (by kernel_rfl) d3 (fun hS0=> ?_)
 generalize w3.drew=WD at d3 q3 b03 hS0⊢;refine tq 0 (.bool ng) rfl (fun w0 _=>by kernel_rfl) hS0 ?_
 refine tq 1 (.bool ng) rfl (fun w0 _=>by kernel_rfl) hS0 ?_
 refine tq 2 (yi wd) rfl (fun w0 _=>by kernel_rfl) hS0 ?_
 refine tq 3 (.pointer (some ⟨PF,3,none⟩)) rfl (fun w0 _=>by kernel_rfl) hS0 ?_
 refine tq 4 (.pointer (some ⟨PF,4,none⟩)) rfl (fun w0 _=>by kernel_rfl) hS0 ?_
 refine tq 5 (yi D) rfl (fun w0 hw0=>gU 3 (.tmp 20) rfl PF 4 (by kernel_rfl) _ _ underlying3 rfl (hw0.c 4 rfl)) hS0 ?_
 refine tq 6 (yi PW) rfl (fun w0 _=>by go_simp) hS0 ?_
 refine tq 10 (yi wd) rfl (fun w0 _=>by kernel_rfl) hS0 ?_
 refine tq 11 (.pointer (some ⟨PF,3,none⟩)) rfl (fun w0 _=>by kernel_rfl) hS0 ?_
 refine tq 12 (.pointer (some ⟨PF,6,none⟩)) rfl (fun w0 _=>by kernel_rfl) hS0 ?_
 refine tq 13 (yi G) rfl (fun w0 hw0=>gU 3 (.tmp 28) rfl PF 6 (by kernel_rfl) _ _ underlying3 rfl (hw0.c 6 rfl)) hS0 ?_
 refine tq 14 (yi E) rfl (fun w0 _=>by go_simp) hS0 ?_
 refine wpAnyH_ready (rs:=[7,8]) (by kernel_rfl) (by simp) ?_;refine AllReadyH.cons rfl (fun K hK=> ?_) (AllReadyH.cons rfl (fun K hK=> ?_) AllReadyH.nil)
 ·skip
  go_simp
  refine(HP.out _).mono ?_;rintro z wp ⟨vp,rfl,rp,bp⟩;obtain⟨vo,vc,hv⟩:=rp.shape;subst hv;have dp:=d3.l bp;have qp:=q3.l bp;have b0p:=aa b03 bp;refine hK.out _ _ dp (fun hSp=> ?_)
  clear hK K bp d3 q3 b03;refine wpAnyH_ready (rs:=[8]) (by kernel_rfl) (by simp) ?_;refine AllReadyH.cons rfl (fun K hK=> ?_) AllReadyH.nil
  go_simp
  have al:=af wp (.cells #[yi 1] 3);have on:=(ah wp [yi 1] 3).c 0 rfl;have dn:=dp.l al;have qn:=qp.l al;have b0n:=aa b0p al;have rn:=rp.l al;refine hK.out _ _ dn (fun hSn=> ?_)
  clear hK K al dp qp b0p rp;generalize wp.alloc (.cells #[yi 1] 3)=WN at dn qn b0n on hSn rn⊢;generalize wp.heap.size=Q1 at on⊢;refine wpAnyH_ready (rs:=[9]) (by kernel_rfl) (by simp) ?_;refine AllReadyH.cons rfl (fun K hK=> ?_) AllReadyH.nil
  go_simp
  refine(HL.out _ _ _ _ rn on).mono ?_;rintro z wl ⟨vl,rfl,rl,bl⟩;obtain⟨lo,lc,hv⟩:=rl.shape;subst hv;have dl:=dn.l bl;have ql:=qn.l bl;have b0l:=aa b0n bl;refine hK.out _ _ dl (fun hSl=> ?_)
  clear hK K bl dn qn b0n rn on;refine tq 15 ((ydV ng (.slice lo (Dg.dg 65536 (pn-1)).length lc) E)) rfl (fun w0 _=>by kernel_rfl) hSl ?_
  refine wpAnyH_ready (rs:=[16]) (by kernel_rfl) (by simp) ?_;refine AllReadyH.cons rfl (fun K hK=> ?_) AllReadyH.nil
  go_simp
  refine(HB.out _ _ _ rl).mono ?_;rintro z wb ⟨vb,rfl,rb,fb,bb⟩;obtain⟨so,sc,hv⟩:=rb.shape;subst hv;have db:=dl.l bb;have qb:=ql.l bb;have b0b:=aa b0l bb;have fb0:=fb.mono b0l.size;refine hK.out _ _ db (fun hSb=> ?_)
  clear hK K bb dl ql b0l rl;refine tq 17 ((yoV 2 ng t.s (yS so t.n sc) t.e)) rfl (fun w0 _=>by kernel_rfl) hSb ?_
  refine wpAnyH_ready (rs:=[18]) (by kernel_rfl) (by simp) ?_;refine AllReadyH.cons rfl (fun K hK=> ?_) AllReadyH.nil
  rw[if_pos (by kernel_rfl)];have hth:wb.there w.heap.size 0 5:=dD qb;refine wp_store_mid 32 (.tmp 4) (.tmp 33) rfl w.heap.size 0 (yoA 2 ng t.s (yS so t.n sc) t.e) (by kernel_rfl) (by kernel_rfl) hth (by kernel_rfl) (by simp[Value.oneCell']) ?_;have bu:But w.heap.size wb (wb.setCells w.heap.size 0 (yoL 2 ng t.s (yS so t.n sc) t.e)):=de _ _ _ _;have dS:=bu.loc db (by omega);have bS:=bu.below b0b (by omega);have rS:=bu.rd rb (cq rb (Dg.norm_dg _ _ (by omega)) qb (fun x hx n hn=>by simp at hx;rcases hx with rfl|rfl|rfl|rfl|rfl<;>simp;all_goals omega))
  have cR:au (wb.setCells w.heap.size 0 (yoL 2 ng t.s (yS so t.n sc) t.e)) w.heap.size 32 (yoL 2 ng t.s (yS so t.n sc) t.e):=(((((qb.set 0 (yi 2)).set 1 (.bool ng)).set 2 (.bool t.s)).set 3 (yS so t.n sc)).set 4 (yi t.e));refine hK.out _ _ dS (fun hSS=> ?_)
  clear hK K bu hth db qb b0b rb;refine wpAnyH_done (by kernel_rfl) ?_ _;clear hSS;change Exit.then _ _ _ _ (World.setCells wb w.heap.size 0 (yoL 2 ng t.s (yS so t.n sc) t.e));generalize World.setCells wb w.heap.size 0 (yoL 2 ng t.s (yS so t.n sc) t.e)=WS at dS bS rS cR⊢;simp only[Act.put,List.getElem_toArray,List.getElem_cons_succ,List.getElem_cons_zero,List.setIfInBounds_toArray,List.set_cons_zero,List.set_cons_succ];have hl:=run_loadVar_mid (P:=Tryz.prog) _ w.heap.size 0 32 (yoL 2 ng t.s (yS so t.n sc) t.e) _ cR.range underlying32 rfl (by kernel_rfl);replace hl:Hid _:=hl;clear cR
  go_wp2
  exact bodyPost_ret (br results91 rfl hl.out) rfl ⟨_,rfl,rS,fb0,bS⟩
 ·skip
  go_simp
  have al:=af WD (.cells #[yi 1] 3);have on:=(ah WD [yi 1] 3).c 0 rfl;have dn:=d3.l al;have qn:=q3.l al;have b0n:=aa b03 al;refine hK.out _ _ dn (fun hSn=> ?_)
  clear hK K al d3 q3 b03;generalize WD.alloc (.cells #[yi 1] 3)=WN at dn qn b0n on hSn⊢;generalize WD.heap.size=Q1 at on⊢;refine wpAnyH_ready (rs:=[7]) (by kernel_rfl) (by simp) ?_;refine AllReadyH.cons rfl (fun K hK=> ?_) AllReadyH.nil
  go_simp
  refine(HP.out _).mono ?_;rintro z wp ⟨vp,rfl,rp,bp⟩;obtain⟨vo,vc,hv⟩:=rp.shape;subst hv;have dp:=dn.l bp;have qp:=qn.l bp;have b0p:=aa b0n bp;have op:=cell_later bp on;refine hK.out _ _ dp (fun hSp=> ?_)
  clear hK K bp dn qn b0n on;refine wpAnyH_ready (rs:=[9]) (by kernel_rfl) (by simp) ?_;refine AllReadyH.cons rfl (fun K hK=> ?_) AllReadyH.nil
  go_simp
  refine(HL.out _ _ _ _ rp op).mono ?_;rintro z wl ⟨vl,rfl,rl,bl⟩;obtain⟨lo,lc,hv⟩:=rl.shape;subst hv;have dl:=dp.l bl;have ql:=qp.l bl;have b0l:=aa b0p bl;refine hK.out _ _ dl (fun hSl=> ?_)
  clear hK K bl dp qp b0p rp op;refine tq 15 ((ydV ng (.slice lo (Dg.dg 65536 (pn-1)).length lc) E)) rfl (fun w0 _=>by kernel_rfl) hSl ?_
  refine wpAnyH_ready (rs:=[16]) (by kernel_rfl) (by simp) ?_;refine AllReadyH.cons rfl (fun K hK=> ?_) AllReadyH.nil
  go_simp
  refine(HB.out _ _ _ rl).mono ?_;rintro z wb ⟨vb,rfl,rb,fb,bb⟩;obtain⟨so,sc,hv⟩:=rb.shape;subst hv;have db:=dl.l bb;have qb:=ql.l bb;have b0b:=aa b0l bb;have fb0:=fb.mono b0l.size;refine hK.out _ _ db (fun hSb=> ?_)
  clear hK K bb dl ql b0l rl;refine tq 17 ((yoV 2 ng t.s (yS so t.n sc) t.e)) rfl (fun w0 _=>by kernel_rfl) hSb ?_
  refine wpAnyH_ready (rs:=[18]) (by kernel_rfl) (by simp) ?_;refine AllReadyH.cons rfl (fun K hK=> ?_) AllReadyH.nil
  rw[if_pos (by kernel_rfl)];have hth:wb.there w.heap.size 0 5:=dD qb;refine wp_store_mid 32 (.tmp 4) (.tmp 33) rfl w.heap.size 0 (yoA 2 ng t.s (yS so t.n sc) t.e) (by kernel_rfl) (by kernel_rfl) hth (by kernel_rfl) (by simp[Value.oneCell']) ?_;have bu:But w.heap.size wb (wb.setCells w.heap.size 0 (yoL 2 ng t.s (yS so t.n sc) t.e)):=de _ _ _ _;have dS:=bu.loc db (by omega);have bS:=bu.below b0b (by omega);have rS:=bu.rd rb (cq rb (Dg.norm_dg _ _ (by omega)) qb (fun x hx n hn=>by simp at hx;rcases hx with rfl|rfl|rfl|rfl|rfl<;>simp;all_goals omega))
  have cR:au (wb.setCells w.heap.size 0 (yoL 2 ng t.s (yS so t.n sc) t.e)) w.heap.size 32 (yoL 2 ng t.s (yS so t.n sc) t.e):=(((((qb.set 0 (yi 2)).set 1 (.bool ng)).set 2 (.bool t.s)).set 3 (yS so t.n sc)).set 4 (yi t.e));refine hK.out _ _ dS (fun hSS=> ?_)
  clear hK K bu hth db qb b0b rb;refine wpAnyH_done (by kernel_rfl) ?_ _;clear hSS;change Exit.then _ _ _ _ (World.setCells wb w.heap.size 0 (yoL 2 ng t.s (yS so t.n sc) t.e));generalize World.setCells wb w.heap.size 0 (yoL 2 ng t.s (yS so t.n sc) t.e)=WS at dS bS rS cR⊢;simp only[Act.put,List.getElem_toArray,List.getElem_cons_succ,List.getElem_cons_zero,List.setIfInBounds_toArray,List.set_cons_zero,List.set_cons_succ];have hl:=run_loadVar_mid (P:=Tryz.prog) _ w.heap.size 0 32 (yoL 2 ng t.s (yS so t.n sc) t.e) _ cR.range underlying32 rfl (by kernel_rfl);replace hl:Hid _:=hl;clear cR
  go_wp2
  exact bodyPost_ret (br results91 rfl hl.out) rfl ⟨_,rfl,rS,fb0,bS⟩
def Rp (w:World)(q r d:Nat)(e:Ending)(w':World):Prop:=
 ∃v1 v2 v3,e= .returned (.tuple #[v1,v2,v3])∧Rd w' .i64 v1 (Dg.dg 65536 q)∧Rd w' .i64 v2 (Dg.dg 65536 r)∧Rd w' .i64 v3 (Dg.dg 65536 d)∧yB w w'
theorem Jh (n k L j:Nat)(h:(Dg.dg 65536 n).length≤L)(hk:k≤16*j):(Dg.dg 65536 (n*2^k)).length≤L+j:=by
 apply Dg.dg_len_le 65536 _ _ (by omega);have h1:=Dg.vl_lt 65536 (Dg.dg 65536 n) (Dg.small_dg _ _ (by omega));rw[Dg.vl_dg _ _ (by omega)] at h1;have h2:65536^ (Dg.dg 65536 n).length≤65536^L:=Nat.pow_le_pow_right (by omega) h;have h3:2^k≤65536^j:=by
  rw[show(65536:Nat)=2^16 from rfl,←Nat.pow_mul]
  exact Nat.pow_le_pow_right (by omega) hk
 rw[Nat.pow_add];exact Nat.lt_of_lt_of_le (Nat.mul_lt_mul_of_pos_right (Nat.lt_of_lt_of_le h1 h2) (Nat.pow_pos (by omega))) (Nat.mul_le_mul_left _ h3)
theorem GB {N:Nat}{n:Int}(h:(Dg.dg 65536 N).length≤100000)(hn:n≤900000):(Dg.dg 65536 (eZ N n)).length≤160000:=by
 rw[fw];exact Nat.le_trans (Jh N n.toNat 100000 56251 h (by omega)) (by omega)
theorem GC {M:Nat}{n:Int}(h:(Dg.dg 65536 M).length≤100000)(hn: -900000≤n):(Dg.dg 65536 (dX M n)).length≤160000:=by
 rw[eM];exact Nat.le_trans (Jh M (-n).toNat 100000 56251 h (by omega)) (by omega)
theorem N8 {M:Nat}(n:Int)(hM:0<M):0<dX M n:=by
 rw[eM];exact Nat.mul_pos hM (bG _)
theorem BM (qs:Bool)(ao:Option Addr)(la ca:Nat)(bo:Option Addr)(lb cb:Nat)(N M:Nat)(E n:Int)(w:World)
  (ha:Rd w .i64 (.slice ao la ca) (Dg.dg 65536 N)) (hb:Rd w .i64 (.slice bo lb cb) (Dg.dg 65536 M)) (hla:(Dg.dg 65536 N).length≤100000) (hlb:(Dg.dg 65536 M).length≤100000) (hM:0<M) (n1: -900000≤E-n) (n2:E-n≤900000):
  yC 92 #[yrV qs (.slice ao la ca) (.slice bo lb cb) E,yi n] w (Rp w (eZ N (E-n)/dX M (E-n)) (eZ N (E-n) % dX M (E-n)) (dX M (E-n))):=by
 have b1:=af w (.cells (yrA qs (.slice ao la ca) (.slice bo lb cb) E) 58);have l1:=ah w (yrL qs (.slice ao la ca) (.slice bo lb cb) E) 58;have hX:=GB (n:=E-n) hla n2;have hY:=GC (n:=E-n) hlb n1;have hY0:=N8 (E-n) hM;have HIN:Hid (∀v u w1,Rd w1 .i64 v (Dg.dg 65536 (eZ N (E-n)))→Rd w1 .i64 u (Dg.dg 65536 (dX M (E-n)))→yC 114 #[v,u] w1 (JI w1 (eZ N (E-n)/dX M (E-n)) (eZ N (E-n) % dX M (E-n)))):=fun v u w1 r1 r2=>
  qM v u _ _ w1 r1 r2 (by omega) (by omega) hY0
 have HSN:Hid (∀w1,yB w w1→n≤E→yC 112 #[.slice ao la ca,yi (E-n)] w1 (cG w1 (eZ N (E-n)))):=fun w1 b hn=>by
  have:=kD _ _ (E-n).toNat w1 (ha.l b) (Dg.small_dg _ _ (by omega)) (by omega) (by omega);rw[Dg.vl_dg _ _ (by omega),←fw,Int.toNat_of_nonneg (by omega)] at this;exact this
 have HSD:Hid (∀w1,yB w w1→ ¬n≤E→yC 112 #[.slice bo lb cb,yi (n-E)] w1 (cG w1 (dX M (E-n)))):=fun w1 b hn=>by
  have:=kD _ _ (n-E).toNat w1 (hb.l b) (Dg.small_dg _ _ (by omega)) (by omega) (by omega);rw[Dg.vl_dg _ _ (by omega),Int.toNat_of_nonneg (by omega),show n-E= -(E-n) by omega,←eM] at this
  rw[show n-E= -(E-n) by omega]
  exact this
 have HN0:Hid (¬n≤E→eZ N (E-n)=N):=fun h=>if_pos (by omega)
 have HD0:Hid (n≤E→dX M (E-n)=M):=fun h=>if_neg (by omega)
 have RA:Hid (Rd _ _ _ _):=ha.l b1;have RB:Hid (Rd _ _ _ _):=hb.l b1;have W1:IntKind.i64.wrap (E-n)=E-n:=IntWalk.i64_in _ ⟨by omega,by omega⟩;have W2:IntKind.i64.wrap (n-E)=n-E:=IntWalk.i64_in _ ⟨by omega,by omega⟩;obtain⟨X,hX⟩: ∃X,eZ N (E-n)=X:=⟨_,rfl⟩;obtain⟨Y,hY⟩: ∃Y,dX M (E-n)=Y:=⟨_,rfl⟩;rw[hX] at HIN HSN HN0⊢;rw[hY] at HIN HSD HD0⊢;clear ha hb hla hlb hX hY hY0 hM;have c1:=l1.c 1 rfl;have c2:=l1.c 2 rfl;have c3:=l1.c 3 rfl
 by_cases hn:n≤E
 ·obtain rfl:=HD0.out hn
  go_enter func92,ntmps92
  go_wp2_with fail
  go_quiet (fail)
  have bd:=aL b1 nq;have rb:=Rd.l RB.out (aL (Below.refl _ _) nq)
  go_wp2_with fail
  refine(HSN.out _ bd hn).mono ?_;rintro z w2 ⟨v2,rfl,r2,b2⟩;have b02:=aa bd b2;have rb2:=rb.l b2
  go_wp2_with fail
  refine(HIN.out _ _ _ r2 rb2).mono ?_;rintro z w3 ⟨v3,v4,rfl,r3,r4,b3⟩;have b03:=aa b02 b3
  go_wp2
  go_ret3
  exact⟨_,_,_,rfl,r3,r4,rb2.l b3,b03⟩
 ·have hnf:decide (n≤E)=false:=by simp;omega
  obtain rfl:=HN0.out hn
  go_enter func92,ntmps92
  go_wp2_with fail
  go_quiet (fail)
  have bd:=aL b1 nq;have ra:=Rd.l RA.out (aL (Below.refl _ _) nq)
  go_wp2_with fail
  refine(HSD.out _ bd hn).mono ?_;rintro z w2 ⟨v2,rfl,r2,b2⟩;have b02:=aa bd b2;have ra2:=ra.l b2
  go_wp2_with fail
  refine(HIN.out _ _ _ ra2 r2).mono ?_;rintro z w3 ⟨v3,v4,rfl,r3,r4,b3⟩;have b03:=aa b02 b3
  go_wp2
  go_ret3
  exact⟨_,_,_,rfl,r3,r4,r2.l b3,b03⟩
theorem Rd.setC {w:World}{k:IntKind}{v:Value}{zs:List Nat}(h:Rd w k v zs){b i:Nat}{x:Value}(hx:w.cell? ⟨b,i,none⟩=some x)(hn: ∀n:Int,x≠ .int k n)(y:Value):Rd (w.setCell ⟨b,i,none⟩ y) k v zs:=by
 obtain⟨ao,cap,rfl,h1,h2,h3⟩:=h;refine⟨ao,cap,rfl,h1,h2,fun hp=> ?_⟩
 obtain⟨g,off,rfl,hc⟩:=h3 hp;refine⟨g,off,rfl,fun j hj=> ?_⟩
 have hj:=hc j hj;have hne:(⟨b,i,none⟩:Addr)≠⟨g,off+j,none⟩:=by
  intro e;rw[←e,hx] at hj;exact hn _ (Option.some.inj hj)
 exact(World.cell?_setCell_other _ _ _ _ hne).trans hj
theorem ZQ (n wh pt:Nat)(w:World)(hn:n=16*wh+pt)(hpt:pt<16)(hnl:n≤1000000):
  yC 65 #[yi n] w fun e w'=> ∃v,e= .returned v∧Own w' w.heap.size 3 .i64 v (Dg.dg 65536 (2^n))∧yB w w':=by
 have hd:=C6 wh pt hpt;rw[←hn] at hd;obtain⟨i0,hi,hz0,hz1,hz2⟩:=info_parts Tryz.infoI64;have hq:(n:Int)/16=(wh:Int):=by omega
 have hr:(n:Int) % 16=(pt:Int):=by omega
 have hwl:wh≤1000000:=by omega
 have HD:Hid ((List.replicate (wh+1) 0).set wh (2^pt)=Dg.dg 65536 (2^n)):=hd;clear hd hn
 go_enter func65,ntmps65
 go_wp2_with (at_make;refine wpList_make_full _ rfl _ _ 28 rfl w.heap.size 3 i0 (yi 0) 1 underlying28 hi hz0 hz1 _ _ _ _ (wh+1) rfl rfl (by omega) (by omega) ?b2 ?b3 (Nat.le_refl _) ?_)
 case b2=>rw[hz2];omega
 case b3=>unfold maxLen;omega
 intro w0 hown0 hgrow0;have own0:=gL hown0;have bel0:yB w w0:=(Below.refl _ _).grown hgrow0 (Nat.le_refl _) (fun k h=>by cases h)
 clear hown0 hgrow0
 go_wp2
 go_loop [4,5] (fun dv iv=> ∃k d:Nat,k≤pt∧iv=yi k∧dv=yi d∧Hid (d=2^k)) (fun _ iv=>pt-(intOf iv).toNat)
 case atStart=>exact⟨0,1,Nat.zero_le _,rfl,rfl,rfl⟩
 case round=>
  obtain⟨k,d,hk,rfl,rfl,hdk⟩:=hrel;have hdl:d≤65536:=by
   rw[hdk.out];have:2^k≤2^15:=Nat.pow_le_pow_right (by omega) (by omega);omega
  by_cases hlt:k<pt
  ·go_wp2
   go_round
   case rel=>exact⟨k+1,2*d,by omega,by go_num,by go_num,by rw[show d=2^k from hdk.out,Nat.pow_succ];exact Nat.mul_comm _ _⟩
   case measure=>simp[intOf];omega
  ·have hke:k=pt:=by omega
   subst hke;have hc:=own0.c wh (by simp);have hf:=own0.f wh;have own2:=own0.store wh d;have bel2:=bel0.setCell (p:=⟨w.heap.size,wh,none⟩) (by exact Nat.le_refl _) (yi (d:Int));have hdd:=hdk.out;rw[show(List.replicate (wh+1) 0).set wh d=Dg.dg 65536 (2^n) from by rw[hdd];exact HD.out] at own2
   have HO:Hid _:=own2;have rd2:=own2.rd;clear hdd own2
   go_wp2
   go_ret
   exact⟨_,rfl,HO.out,bel2⟩
end Go.Proofs.YtbdokgamhinajaaGreatDoor
