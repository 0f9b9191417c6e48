/-
  Texts laid together: As5, As6, As7, Ar7.
-/
import Derived.Test.YtnhackdjplppjaaGreatDoorSp28
import Derived.Test.YtnhackdjplppjaaGreatDoorSp25
set_option maxRecDepth 100000
namespace Go.Proofs.YtnhackdjplppjaaGreatDoor
open Go.RowKit
def keptT (t:Trip):Trip:=if bitLen t.n≤128 then t else endlessT t.s (t.n/2^ (bitLen t.n-128)) (t.e+((bitLen t.n-128:Nat):Int)) (decide (tz t.n<bitLen t.n-128))
set_option maxHeartbeats 3200000 in
theorem kept_short (t:Trip) (to0:Option Addr) (tc:Nat) (w:World) (hr:Rd w .u32 (.slice to0 (Dg.dg 4294967296 t.n).length tc) (Dg.dg 4294967296 t.n)) (hL:(Dg.dg 4294967296 t.n).length≤100000) (hb:bitLen t.n≤128):
  Calls Tryz.prog 210 #[yDV t to0 tc,yi 128] w fun z w'=>z= .returned (yDV t to0 tc)∧Below w.heap.size w w':=by
 have HD:Hid (∀w1,Calls Tryz.prog 172 #[yDV t to0 tc] w1 fun x w'=>x= .returned (.slice to0 (Dg.dg 4294967296 t.n).length tc)∧Below w1.heap.size w1 w'):=fun w1=>digits_any _ _ _ _ _ w1
 have HB:Hid (∀w1,Below w.heap.size w w1→Calls Tryz.prog 176 #[.slice to0 (Dg.dg 4294967296 t.n).length tc] w1 fun e w'=>e= .returned (yi ((bitLen t.n:Nat):Int))∧w'=w1):=fun w1 b=>by
  have:=bits_any _ _ w1 (hr.later b) (Dg.small_dg 4294967296 _ (by omega)) (Dg.norm_dg 4294967296 _ (by omega)) (by omega);rw[Dg.vl_dg _ _ (by omega)] at this;exact this
 have ax:=below_alloc w (.cells (yDL t to0 tc).toArray 96);have ao:=below_alloc (w.alloc (.cells (yDL t to0 tc).toArray 96)) (.cells (ydL false (.slice none 0 0) 0).toArray 96);have x0:=(locE_new w (yDL t to0 tc) 96).later ao;have o0:=locE_new (w.alloc (.cells (yDL t to0 tc).toArray 96)) (ydL false (.slice none 0 0) 0) 96;rw[World.size_alloc] at o0;have b0:=below_trans ax ao;clear ax ao hr hL;generalize bitLen t.n=k at*;have hk:IntKind.i64.wrap ((k:Int)-128)=(k:Int)-128:=IntWalk.i64_in _ ⟨by omega,by omega⟩;have hle:(k:Int)-128≤0:=by omega
 go_enter Tryz.func210,Tryz.ntmps210
 go_upto_region 1 with fail
 generalize(w.alloc (.cells (yDL t to0 tc).toArray 96)).alloc (.cells (ydL false (.slice none 0 0) 0).toArray 96)=W0 at x0 o0 b0⊢;obtain⟨y0,y1,y2⟩:=x0.cs3
 go_wp2_with fail
 refine(HD.out _).mono ?_;rintro z w1 ⟨rfl,b1⟩;have x1:=x0.later b1;have o1:=o0.later b1;have b01:=below_trans b0 b1;clear y0 y1 y2 x0 o0 b0 b1 HD
 go_wp2_with fail
 refine(HB.out _ b01).mono ?_;rintro z w2 ⟨rfl,rfl⟩;clear HB;obtain⟨y0,y1,y2⟩:=x1.cs3;have cR:LocE (((w2.setCell ⟨w.heap.size+1,0,none⟩ (.bool t.s)).setCell ⟨w.heap.size+1,1,none⟩ (.slice to0 (Dg.dg 4294967296 t.n).length tc)).setCell ⟨w.heap.size+1,2,none⟩ (yi t.e)) (w.heap.size+1) 96 (yDL t to0 tc):=(((o1.set 0 (.bool t.s)).set 1 (.slice to0 (Dg.dg 4294967296 t.n).length tc)).set 2 (yi t.e));have bu:=((but_set w2 (w.heap.size+1) 0 (.bool t.s)).trans (but_set _ (w.heap.size+1) 1 (.slice to0 (Dg.dg 4294967296 t.n).length tc))).trans (but_set _ (w.heap.size+1) 2 (yi t.e));have bR:=bu.below b01 (by omega);have hl:=run_loadVar_mid (P:=Tryz.prog) _ (w.heap.size+1) 0 96 (yDL t to0 tc) _ cR.range Tryz.underlying96 rfl (by kernel_rfl);have HH:Hid (_∧_):=⟨hl,bR⟩;obtain⟨z0,z1,z2⟩:=o1.cs3;have fz0:=o1.free 0;have fz1:=o1.free 1;have fz2:=o1.free 2;clear hl bR bu cR;clear o1 b01 x1
 go_wp2
 obtain⟨hl,bR⟩:=HH.out;exact bodyPost_ret (results_one Tryz.results210 rfl hl) rfl ⟨rfl,bR⟩
end Go.Proofs.YtnhackdjplppjaaGreatDoor
namespace Go.Proofs.YtnhackdjplppjaaGreatDoor
open Go.RowKit
def RatRes (w:World) (s:Bool) (N M:Nat) (e:Int) (z:Ending) (w':World):Prop:=
 ∃no nc mo mc,z= .returned (yrV s (.slice no (Dg.dg 4294967296 N).length nc) (.slice mo (Dg.dg 4294967296 M).length mc) e)∧Rd w' .u32 (.slice no (Dg.dg 4294967296 N).length nc) (Dg.dg 4294967296 N)∧Rd w' .u32 (.slice mo (Dg.dg 4294967296 M).length mc) (Dg.dg 4294967296 M)∧Below w.heap.size w w'
theorem dg_one32:Dg.dg 4294967296 1=[1]:=rfl
set_option maxHeartbeats 6400000 in
theorem ratioOf_W (t k:Trip) (to0:Option Addr) (tc:Nat) (e2 dn:Int) (N M:Nat) (w:World) (hmx:min (max k.e (-20000)) 20000=e2)
  (HK: ∀w1,Below w.heap.size w w1→Calls Tryz.prog 210 #[yDV t to0 tc,yi 128] w1 fun z w'=> ∃v,z= .returned (ydV k.s v k.e)∧Rd w' .u32 v (Dg.dg 4294967296 k.n)∧Below w1.heap.size w1 w')
  (HU:e2<k.e→IntKind.i64.wrap (k.e-e2)=dn∧M=1∧ ∀ko kc w1,Rd w1 .u32 (.slice ko (Dg.dg 4294967296 k.n).length kc) (Dg.dg 4294967296 k.n)→Calls Tryz.prog 177 #[.slice ko (Dg.dg 4294967296 k.n).length kc,yi dn] w1 (Num w1 N))
  (HV:k.e≤e2→IntKind.i64.wrap (e2-k.e)=dn∧N=k.n∧ ∀q w1,w1.cell? ⟨q,0,none⟩=some (.int .u32 1)→Calls Tryz.prog 177 #[.slice (some ⟨q,0,none⟩) 1 1,yi dn] w1 (Num w1 M)):
  Calls Tryz.prog 164 #[yDV t to0 tc] w (RatRes w k.s N M e2):=by
 replace HK:Hid _:=HK;replace HU:Hid _:=HU;replace HV:Hid _:=HV;have ax:=below_alloc w (.cells (yDL t to0 tc).toArray 96);have ar:=below_alloc (w.alloc (.cells (yDL t to0 tc).toArray 96)) (.cells (yrL false (.slice none 0 0) (.slice none 0 0) 0).toArray 53);have x0:=(locE_new w (yDL t to0 tc) 96).later ar;have r0:=locE_new (w.alloc (.cells (yDL t to0 tc).toArray 96)) (yrL false (.slice none 0 0) (.slice none 0 0) 0) 53;rw[World.size_alloc] at r0;have b0:=below_trans ax ar;clear ax ar
 go_enter Tryz.func164,Tryz.ntmps164
 go_upto_region 1 with fail
 generalize(w.alloc (.cells (yDL t to0 tc).toArray 96)).alloc (.cells (yrL false (.slice none 0 0) (.slice none 0 0) 0).toArray 53)=W0 at x0 r0 b0⊢;obtain⟨y0,y1,y2⟩:=x0.cs3
 go_wp2_with fail
 refine(HK.out _ b0).mono ?_;rintro z w1 ⟨v,rfl,q1,b1⟩;obtain⟨ko,kc,hv⟩:=q1.shape;subst hv;have x1:=x0.later b1;have r1:=r0.later b1;have b01:=below_trans b0 b1;clear y0 y1 y2 x0 r0 b0 b1 HK;obtain⟨z0,z1,z2⟩:=x1.cs3;have f0:=x1.free 0;have f1:=x1.free 1;have f2:=x1.free 2;have x2:LocE (((w1.setCell ⟨w.heap.size,0,none⟩ (.bool k.s)).setCell ⟨w.heap.size,1,none⟩ (.slice ko (Dg.dg 4294967296 k.n).length kc)).setCell ⟨w.heap.size,2,none⟩ (yi k.e)) w.heap.size 96 (yDL k ko kc):=(((x1.set 0 (.bool k.s)).set 1 (.slice ko (Dg.dg 4294967296 k.n).length kc)).set 2 (yi k.e));have bu:=((but_set w1 w.heap.size 0 (.bool k.s)).trans (but_set _ w.heap.size 1 (.slice ko (Dg.dg 4294967296 k.n).length kc))).trans (but_set _ w.heap.size 2 (yi k.e));have r2:=bu.loc r1 (by omega);have q2:=bu.rd q1 (rd_offU q1 x1 (by simp));have b2:=bu.below b01 (Nat.le_refl _)
 go_upto_region 2 with fail
 generalize(((w1.setCell ⟨w.heap.size,0,none⟩ (.bool k.s)).setCell ⟨w.heap.size,1,none⟩ (.slice ko (Dg.dg 4294967296 k.n).length kc)).setCell ⟨w.heap.size,2,none⟩ (yi k.e))=W2 at x2 r2 q2 b2⊢;clear z0 z1 z2 f0 f1 f2 bu x1 r1 b01 q1;obtain⟨y0,y1,y2⟩:=x2.cs3;have HD:Hid (∀w1,Calls Tryz.prog 172 #[yDV k ko kc] w1 fun x w'=>x= .returned (.slice ko (Dg.dg 4294967296 k.n).length kc)∧Below w1.heap.size w1 w'):=fun w1=>digits_any _ _ _ _ _ w1
 go_wp2_with fail
 refine(HD.out _).mono ?_;rintro z w3 ⟨rfl,b3⟩;have al:=below_alloc w3 (.cells #[.int .u32 1] 141);have ln:=locE_new w3 [.int .u32 1] 141;have x4:=(x2.later b3).later al;have r4:=(r2.later b3).later al;have q4:=(q2.later b3).later al;have b4:=below_trans (below_trans b2 b3) al;clear y0 y1 y2 x2 r2 q2 b2 b3 al HD
 go_upto_region 3 with fail
 generalize w3.alloc (.cells #[.int .u32 1] 141)=W4 at ln x4 r4 q4 b4⊢;generalize w3.heap.size=Q at ln⊢;obtain⟨y0,y1,y2⟩:=x4.cs3;have hone:=ln.cell 0 rfl
 by_cases hc:e2<k.e
 ·obtain⟨h1,h2,h3⟩:=HU.out hc
  have H3:Hid _:=h3;subst h2;clear HU HV h3
  go_wp2_with fail
  refine(H3.out _ _ _ q4).mono ?_;rintro z w5 ⟨u,rfl,o5,b5⟩;obtain⟨no,nc,hu⟩:=o5.rd.shape;subst hu;have r5:=r4.later b5;have x5:=x4.later b5;have n5:=o5.rd;have hone5:=(ln.later b5).cell 0 rfl;have m5:Rd w5 .u32 (.slice (some ⟨Q,0,none⟩) 1 1) (Dg.dg 4294967296 1):=by rw[dg_one32];exact rd_one hone5
  have b05:=below_trans b4 b5;clear y0 y1 y2 hone hone5 x4 r4 q4 b4 b5 o5 ln H3;obtain⟨y0,y1,y2⟩:=x5.cs3;have h1l:(Dg.dg 4294967296 1).length=1:=by rw[dg_one32];rfl
  have cR:LocE ((((w5.setCell ⟨w.heap.size+1,0,none⟩ (.bool k.s)).setCell ⟨w.heap.size+1,1,none⟩ (.slice no (Dg.dg 4294967296 N).length nc)).setCell ⟨w.heap.size+1,2,none⟩ (.slice (some ⟨Q,0,none⟩) 1 1)).setCell ⟨w.heap.size+1,3,none⟩ (yi e2)) (w.heap.size+1) 53 (yrL k.s (.slice no (Dg.dg 4294967296 N).length nc) (.slice (some ⟨Q,0,none⟩) 1 1) e2):=((((r5.set 0 (.bool k.s)).set 1 (.slice no (Dg.dg 4294967296 N).length nc)).set 2 (.slice (some ⟨Q,0,none⟩) 1 1)).set 3 (yi e2));have bu:=(((but_set w5 (w.heap.size+1) 0 (.bool k.s)).trans (but_set _ (w.heap.size+1) 1 (.slice no (Dg.dg 4294967296 N).length nc))).trans (but_set _ (w.heap.size+1) 2 (.slice (some ⟨Q,0,none⟩) 1 1))).trans (but_set _ (w.heap.size+1) 3 (yi e2));have bR:=bu.below b05 (by omega);have rN:=bu.rd n5 (rd_offU n5 r5 (by simp));have rM:=bu.rd m5 (rd_offU m5 r5 (by simp));have hl:=run_loadVar_mid (P:=Tryz.prog) _ (w.heap.size+1) 0 53 (yrL k.s (.slice no (Dg.dg 4294967296 N).length nc) (.slice (some ⟨Q,0,none⟩) 1 1) e2) _ cR.range Tryz.underlying53 rfl (by kernel_rfl);have HH:Hid (_∧_∧_∧_):=⟨hl,rN,rM,bR⟩;obtain⟨z0,z1,z2,z3⟩:=r5.cs4;have fz0:=r5.free 0;have fz1:=r5.free 1;have fz2:=r5.free 2;have fz3:=r5.free 3;clear hl bR bu cR rN rM;clear r5 b05 n5 m5 x5
  go_wp2
  obtain⟨hl,rN,rM,bR⟩:=HH.out;refine bodyPost_ret (results_one Tryz.results164 rfl hl) rfl ⟨no,nc,some ⟨Q,0,none⟩,1, ?_,rN, ?_,bR⟩
  ·rw[h1l]
  ·rw[h1l]
   exact rM
 ·obtain⟨h1,h2,h3⟩:=HV.out (by omega)
  have H3:Hid _:=h3;subst h2;clear HU HV h3
  go_wp2_with fail
  refine(H3.out _ _ hone).mono ?_;rintro z w5 ⟨u,rfl,o5,b5⟩;obtain⟨mo,mc,hu⟩:=o5.rd.shape;subst hu;have r5:=r4.later b5;have x5:=x4.later b5;have n5:=q4.later b5;have m5:=o5.rd;have b05:=below_trans b4 b5;clear y0 y1 y2 hone x4 r4 q4 b4 b5 o5 ln H3;obtain⟨y0,y1,y2⟩:=x5.cs3;have cR:LocE ((((w5.setCell ⟨w.heap.size+1,0,none⟩ (.bool k.s)).setCell ⟨w.heap.size+1,1,none⟩ (.slice ko (Dg.dg 4294967296 k.n).length kc)).setCell ⟨w.heap.size+1,2,none⟩ (.slice mo (Dg.dg 4294967296 M).length mc)).setCell ⟨w.heap.size+1,3,none⟩ (yi e2)) (w.heap.size+1) 53 (yrL k.s (.slice ko (Dg.dg 4294967296 k.n).length kc) (.slice mo (Dg.dg 4294967296 M).length mc) e2):=((((r5.set 0 (.bool k.s)).set 1 (.slice ko (Dg.dg 4294967296 k.n).length kc)).set 2 (.slice mo (Dg.dg 4294967296 M).length mc)).set 3 (yi e2));have bu:=(((but_set w5 (w.heap.size+1) 0 (.bool k.s)).trans (but_set _ (w.heap.size+1) 1 (.slice ko (Dg.dg 4294967296 k.n).length kc))).trans (but_set _ (w.heap.size+1) 2 (.slice mo (Dg.dg 4294967296 M).length mc))).trans (but_set _ (w.heap.size+1) 3 (yi e2));have bR:=bu.below b05 (by omega);have rN:=bu.rd n5 (rd_offU n5 r5 (by simp));have rM:=bu.rd m5 (rd_offU m5 r5 (by simp));have hl:=run_loadVar_mid (P:=Tryz.prog) _ (w.heap.size+1) 0 53 (yrL k.s (.slice ko (Dg.dg 4294967296 k.n).length kc) (.slice mo (Dg.dg 4294967296 M).length mc) e2) _ cR.range Tryz.underlying53 rfl (by kernel_rfl);have HH:Hid (_∧_∧_∧_):=⟨hl,rN,rM,bR⟩;obtain⟨z0,z1,z2,z3⟩:=r5.cs4;have fz0:=r5.free 0;have fz1:=r5.free 1;have fz2:=r5.free 2;have fz3:=r5.free 3;clear hl bR bu cR rN rM;clear r5 b05 n5 m5 x5
  go_wp2
  obtain⟨hl,rN,rM,bR⟩:=HH.out;exact bodyPost_ret (results_one Tryz.results164 rfl hl) rfl ⟨_,_,_,_,rfl,rN,rM,bR⟩
end Go.Proofs.YtnhackdjplppjaaGreatDoor
namespace Go.Proofs.YtnhackdjplppjaaGreatDoor
open Go.RowKit
theorem range_of {w:World} {b:Nat} {ty:TypeId} {vs cs:List Value} (h:LocE w b ty vs) (o n:Nat) (e:(vs.drop o).take n=cs):w.rangeAt b o cs:=fun j v hj=>by
 subst e;refine h.cell (o+j) ?_;rw[List.getElem?_take] at hj
 split at hj
 ·rw[List.getElem?_drop] at hj
  exact hj
 ·cases hj
set_option maxHeartbeats 12800000 in
theorem answer_num (n wy fam R D L G fl:Int) (gr gx:Bool) (t:Trip) (to0:Option Addr) (tc:Nat) (s:Bool) (N M:Nat) (e:Int) (ps:Bool) (pd:Nat) (pp:Int) (ex ov un:Bool) (c:Int) (g:Bool) (m:Nat) (q fl2 flo:Int) (st:ByteArray) (f1 e1:Int) (w:World)
  (hor:bits .or .i64 fl fl2=flo)
  (HQ: ∀w1,Below w.heap.size w w1→Calls Tryz.prog 164 #[yDV t to0 tc] w1 (RatRes w1 s N M e))
  (HRd: ∀no nc mo mc w1,Below w.heap.size w w1→Rd w1 .u32 (.slice no (Dg.dg 4294967296 N).length nc) (Dg.dg 4294967296 N)→Rd w1 .u32 (.slice mo (Dg.dg 4294967296 M).length mc) (Dg.dg 4294967296 M)→Calls Tryz.prog 86 #[yrV s (.slice no (Dg.dg 4294967296 N).length nc) (.slice mo (Dg.dg 4294967296 M).length mc) e,ygV R D L G gr,yi wy] w1 fun z w'=> ∃po pc,z= .returned (.tuple #[ypV ps (.slice po (Dg.dg 4294967296 pd).length pc) pp ex ov un,yi 0])∧Rd w' .u32 (.slice po (Dg.dg 4294967296 pd).length pc) (Dg.dg 4294967296 pd)∧Below w1.heap.size w1 w')
  (HSt: ∀po pc w1,Below w.heap.size w w1→Rd w1 .u32 (.slice po (Dg.dg 4294967296 pd).length pc) (Dg.dg 4294967296 pd)→Calls Tryz.prog 88 #[ykV n wy fam R D L G gr,ypV ps (.slice po (Dg.dg 4294967296 pd).length pc) pp ex ov un] w1 (SetRes w1 c g m q fl2))
  (HEn: ∀vo vc w1,Below w.heap.size w w1→Rd w1 .u32 (.slice vo (Dg.dg 4294967296 m).length vc) (Dg.dg 4294967296 m)→Calls Tryz.prog 87 #[ykV n wy fam R D L G gr,yvV c g (.slice vo (Dg.dg 4294967296 m).length vc) q,yi flo] w1 fun z w'=>z= .returned (.tuple #[.string st,yi f1,yi e1])∧Below w1.heap.size w1 w'):
  Calls Tryz.prog 107 #[ykV n wy fam R D L G gr,yOV 2 gx t to0 tc,yi fl] w fun z w'=>z= .returned (.tuple #[.string st,yi f1,yi e1])∧Below w.heap.size w w':=by
 replace HQ:Hid _:=HQ;replace HRd:Hid _:=HRd;replace HSt:Hid _:=HSt;replace HEn:Hid _:=HEn;have a1:=below_alloc w (.cells (ykL n wy fam R D L G gr).toArray 93);have a2:=below_alloc (w.alloc (.cells (ykL n wy fam R D L G gr).toArray 93)) (.cells (yOL 2 gx t to0 tc).toArray 98);have d0:=(locE_new w (ykL n wy fam R D L G gr) 93).later a2;have x0:=locE_new (w.alloc (.cells (ykL n wy fam R D L G gr).toArray 93)) (yOL 2 gx t to0 tc) 98;rw[World.size_alloc] at x0;have b0:=below_trans a1 a2;clear a1 a2
 go_enter Tryz.func107,Tryz.ntmps107
 go_upto_region 1 with fail
 generalize(w.alloc (.cells (ykL n wy fam R D L G gr).toArray 93)).alloc (.cells (yOL 2 gx t to0 tc).toArray 98)=W0 at d0 x0 b0⊢;have y0:=x0.cell 0 rfl
 go_upto_region 3 with fail
 have bW:Below W0.heap.size W0 W0.drew:=(Below.refl _ _).drew;have d1:=d0.later bW;have x1:=x0.later bW;have b1:=below_trans b0 bW;clear bW d0 x0 b0 y0;refine wp_region_held_drew (S:=(fun wq=>wq.rangeAt (w.heap.size+1) 2 (yDL t to0 tc)∧wq.rangeAt w.heap.size 3 (ygL R D L G gr)∧wq.cell? ⟨w.heap.size,1,none⟩=some (yi wy))) (by kernel_rfl) ⟨fun j v hj=>range_of x1 2 3 rfl j v hj,fun j v hj=>range_of d1 3 5 rfl j v hj,d1.cell 1 rfl⟩ (fun hS0=> ?_)
 generalize W0.drew=WD at d1 x1 b1 hS0⊢;refine wpAnyH_take (i:=0) (v:= .pointer (some ⟨w.heap.size+1,2,none⟩)) rfl (by kernel_rfl) (by kernel_rfl) (by kernel_rfl) (fun _ _ _ h=>h) (Or.inl ⟨by kernel_rfl,fun w0 _=>by kernel_rfl⟩) hS0 ?_
 refine wpAnyH_take (i:=1) (v:=(yDV t to0 tc)) rfl (by kernel_rfl) (by kernel_rfl) (by kernel_rfl) (fun _ _ _ h=>h) (Or.inl ⟨by kernel_rfl,fun w0 hw0=>xrow 96 (.tmp 18) rfl (w.heap.size+1) 2 (by kernel_rfl) _ _ hw0.1 Tryz.underlying96 rfl (by kernel_rfl)⟩) hS0 ?_
 refine wpAnyH_take (i:=3) (v:= .pointer (some ⟨w.heap.size,3,none⟩)) rfl (by kernel_rfl) (by kernel_rfl) (by kernel_rfl) (fun _ _ _ h=>h) (Or.inl ⟨by kernel_rfl,fun w0 _=>by kernel_rfl⟩) hS0 ?_
 refine wpAnyH_take (i:=4) (v:=(ygV R D L G gr)) rfl (by kernel_rfl) (by kernel_rfl) (by kernel_rfl) (fun _ _ _ h=>h) (Or.inl ⟨by kernel_rfl,fun w0 hw0=>xrow 56 (.tmp 21) rfl w.heap.size 3 (by kernel_rfl) _ _ hw0.2.1 Tryz.underlying56 rfl (by kernel_rfl)⟩) hS0 ?_
 refine wpAnyH_take (i:=5) (v:= .pointer (some ⟨w.heap.size,1,none⟩)) rfl (by kernel_rfl) (by kernel_rfl) (by kernel_rfl) (fun _ _ _ h=>h) (Or.inl ⟨by kernel_rfl,fun w0 _=>by kernel_rfl⟩) hS0 ?_
 refine wpAnyH_take (i:=6) (v:=yi wy) rfl (by kernel_rfl) (by kernel_rfl) (by kernel_rfl) (fun _ _ _ h=>h) (Or.inl ⟨by kernel_rfl,fun w0 hw0=>xload 3 (.tmp 23) rfl w.heap.size 1 (by kernel_rfl) _ _ Tryz.underlying3 rfl hw0.2.2⟩) hS0 ?_
 refine wpAnyH_ready (rs:=[2,11]) (by kernel_rfl) (by simp) ?_;refine AllReadyH.cons rfl (fun K hK=> ?_) (AllReadyH.cons rfl (fun K hK=> ?_) AllReadyH.nil)
 ·skip
  go_simp
  refine(HQ.out _ b1).mono ?_;rintro z wq ⟨no,nc,mo,mc,rfl,rn,rm,bq⟩;have d11:=d1.later bq;have x11:=x1.later bq;have b11:=below_trans b1 bq;refine hK.out _ _ ⟨fun j v hj=>range_of x11 2 3 rfl j v hj,fun j v hj=>range_of d11 3 5 rfl j v hj,d11.cell 1 rfl⟩ (fun hS11=> ?_)
  clear hK K bq d1 x1 b1;refine wpAnyH_ready (rs:=[7,11]) (by kernel_rfl) (by simp) ?_;refine AllReadyH.cons rfl (fun K hK=> ?_) (AllReadyH.cons rfl (fun K hK=> ?_) AllReadyH.nil)
  ·skip
   go_simp
   refine(HRd.out _ _ _ _ _ b11 rn rm).mono ?_;rintro z wp ⟨po,pc,rfl,rp,bp⟩;have d12:=d11.later bp;have x12:=x11.later bp;have b12:=below_trans b11 bp;refine hK.out _ _ ⟨fun j v hj=>range_of x12 2 3 rfl j v hj,fun j v hj=>range_of d12 3 5 rfl j v hj,d12.cell 1 rfl⟩ (fun hS12=> ?_)
   clear hK K bp d11 x11 b11 rn rm;refine wpAnyH_take (i:=8) (v:= .tuple #[ypV ps (.slice po (Dg.dg 4294967296 pd).length pc) pp ex ov un,yi 0]) rfl (by kernel_rfl) (by kernel_rfl) (by kernel_rfl) (fun _ _ _ h=>h) (Or.inl ⟨by kernel_rfl,fun w0 _=>by go_simp⟩) hS12 ?_
   refine wpAnyH_take (i:=9) (v:=(ypV ps (.slice po (Dg.dg 4294967296 pd).length pc) pp ex ov un)) rfl (by kernel_rfl) (by kernel_rfl) (by kernel_rfl) (fun _ _ _ h=>h) (Or.inl ⟨by kernel_rfl,fun w0 _=>by go_simp⟩) hS12 ?_
   refine wpAnyH_take (i:=10) (v:=yi 0) rfl (by kernel_rfl) (by kernel_rfl) (by kernel_rfl) (fun _ _ _ h=>h) (Or.inl ⟨by kernel_rfl,fun w0 _=>by go_simp⟩) hS12 ?_
   refine wpAnyH_ready (rs:=[11]) (by kernel_rfl) (by simp) ?_;refine AllReadyH.cons rfl (fun K hK=> ?_) AllReadyH.nil
   go_simp
   have al:=below_alloc wp (.cells (ypL false (.slice none 0 0) 0 false false false).toArray 86);have pn:=locE_new wp (ypL false (.slice none 0 0) 0 false false false) 86;have hpn:w.heap.size+1<wp.heap.size:=x12.lt;have d13:=d12.later al;have x13:=x12.later al;have b13:=below_trans b12 al;have rp_13:=rp.later al;refine hK.out _ _ ⟨fun j v hj=>range_of x13 2 3 rfl j v hj,fun j v hj=>range_of d13 3 5 rfl j v hj,d13.cell 1 rfl⟩ (fun hS13=> ?_)
   clear hK K al d12 x12 b12 rp;generalize wp.alloc (.cells (ypL false (.slice none 0 0) 0 false false false).toArray 86)=WN13 at d13 x13 b13 pn hS13 rp_13⊢;generalize wp.heap.size=PQ at pn hpn⊢;refine wpAnyH_ready (rs:=[12]) (by kernel_rfl) (by simp) ?_;refine AllReadyH.cons rfl (fun K hK=> ?_) AllReadyH.nil
   rw[if_pos (by kernel_rfl)];have hth:WN13.there PQ 0 6:=there_of pn;refine wp_store_mid 86 (.tmp 9) (.tmp 26) rfl PQ 0 (ypL ps (.slice po (Dg.dg 4294967296 pd).length pc) pp ex ov un).toArray (by kernel_rfl) (by kernel_rfl) hth (by kernel_rfl) (by simp[Value.oneCell']) ?_;have bu:But PQ WN13 (WN13.setCells PQ 0 (ypL ps (.slice po (Dg.dg 4294967296 pd).length pc) pp ex ov un)):=but_sets _ _ _ _;have dS:=bu.loc d13 (by omega);have xS:=bu.loc x13 (by omega);have bS:=bu.below b13 (by omega);have rS:=bu.rd rp_13 (rd_offU rp_13 pn (by simp));have pS:LocE (WN13.setCells PQ 0 (ypL ps (.slice po (Dg.dg 4294967296 pd).length pc) pp ex ov un)) PQ 86 (ypL ps (.slice po (Dg.dg 4294967296 pd).length pc) pp ex ov un):=((((((pn.set 0 (.bool ps)).set 1 (.slice po (Dg.dg 4294967296 pd).length pc)).set 2 (yi pp)).set 3 (.bool ex)).set 4 (.bool ov)).set 5 (.bool un));refine hK.out _ _ ⟨fun j v hj=>range_of xS 2 3 rfl j v hj,fun j v hj=>range_of dS 3 5 rfl j v hj,dS.cell 1 rfl⟩ (fun hSS=> ?_)
   clear hK K bu hth d13 x13 b13 pn rp_13;refine wpAnyH_take (i:=13) (v:=yi 0) rfl (by kernel_rfl) (by kernel_rfl) (by kernel_rfl) (fun _ _ _ h=>h) (Or.inl ⟨by kernel_rfl,fun w0 _=>by go_simp⟩) hSS ?_
   refine wpAnyH_done (by kernel_rfl) ?_ _;clear hSS;change Exit.then _ _ _ _ (World.setCells WN13 PQ 0 (ypL ps (.slice po (Dg.dg 4294967296 pd).length pc) pp ex ov un));generalize World.setCells WN13 PQ 0 (ypL ps (.slice po (Dg.dg 4294967296 pd).length pc) pp ex ov un)=WS at dS xS bS rS pS⊢;simp only[Act.put,List.getElem_toArray,List.getElem_cons_succ,List.getElem_cons_zero,List.setIfInBounds_toArray,List.set_cons_zero,List.set_cons_succ];obtain⟨y0,y1,y2,y3,y4,y5,y6,y7⟩:=dS.cs8;obtain⟨z0,z1,z2,z3,z4,z5⟩:=pS.cs6
   go_wp2_with fail
   refine(HSt.out _ _ _ bS rS).mono ?_;rintro z wt ⟨u,rfl,rt,bt⟩;obtain⟨vo,vc,hu⟩:=rt.shape;subst hu;have al:=below_alloc wt (.cells (yvL c g (.slice vo (Dg.dg 4294967296 m).length vc) q).toArray 73);have vt:=locE_new wt (yvL c g (.slice vo (Dg.dg 4294967296 m).length vc) q) 73;have dt:=(dS.later bt).later al;have rv:=rt.later al;have b9:=below_trans (below_trans bS bt) al;clear y0 y1 y2 y3 y4 y5 y6 y7 z0 z1 z2 z3 z4 z5 dS xS bS rS pS bt al rt
   go_upto_region 7 with fail
   generalize wt.alloc (.cells (yvL c g (.slice vo (Dg.dg 4294967296 m).length vc) q).toArray 73)=WT at vt dt rv b9⊢;generalize wt.heap.size=PV at vt⊢;obtain⟨y0,y1,y2,y3,y4,y5,y6,y7⟩:=dt.cs8;obtain⟨z0,z1,z2,z3⟩:=vt.cs4
   go_wp2_with fail
   refine(HEn.out _ _ _ b9 rv).mono ?_;rintro z wz ⟨rfl,bz⟩;have bE:=below_trans b9 bz
   go_wp2
   go_ret3
   exact⟨rfl,bE⟩
  ·skip
   go_simp
   have al:=below_alloc wq (.cells (ypL false (.slice none 0 0) 0 false false false).toArray 86);have pn:=locE_new wq (ypL false (.slice none 0 0) 0 false false false) 86;have hpn:w.heap.size+1<wq.heap.size:=x11.lt;have d12:=d11.later al;have x12:=x11.later al;have b12:=below_trans b11 al;have rn_12:=rn.later al;have rm_12:=rm.later al;refine hK.out _ _ ⟨fun j v hj=>range_of x12 2 3 rfl j v hj,fun j v hj=>range_of d12 3 5 rfl j v hj,d12.cell 1 rfl⟩ (fun hS12=> ?_)
   clear hK K al d11 x11 b11 rn rm;generalize wq.alloc (.cells (ypL false (.slice none 0 0) 0 false false false).toArray 86)=WN12 at d12 x12 b12 pn hS12 rn_12 rm_12⊢;generalize wq.heap.size=PQ at pn hpn⊢;refine wpAnyH_ready (rs:=[7]) (by kernel_rfl) (by simp) ?_;refine AllReadyH.cons rfl (fun K hK=> ?_) AllReadyH.nil
   go_simp
   refine(HRd.out _ _ _ _ _ b12 rn_12 rm_12).mono ?_;rintro z wp ⟨po,pc,rfl,rp,bp⟩;have d13:=d12.later bp;have x13:=x12.later bp;have b13:=below_trans b12 bp;have p13:=pn.later bp;refine hK.out _ _ ⟨fun j v hj=>range_of x13 2 3 rfl j v hj,fun j v hj=>range_of d13 3 5 rfl j v hj,d13.cell 1 rfl⟩ (fun hS13=> ?_)
   clear hK K bp d12 x12 b12 pn rn_12 rm_12;refine wpAnyH_take (i:=8) (v:= .tuple #[ypV ps (.slice po (Dg.dg 4294967296 pd).length pc) pp ex ov un,yi 0]) rfl (by kernel_rfl) (by kernel_rfl) (by kernel_rfl) (fun _ _ _ h=>h) (Or.inl ⟨by kernel_rfl,fun w0 _=>by go_simp⟩) hS13 ?_
   refine wpAnyH_take (i:=9) (v:=(ypV ps (.slice po (Dg.dg 4294967296 pd).length pc) pp ex ov un)) rfl (by kernel_rfl) (by kernel_rfl) (by kernel_rfl) (fun _ _ _ h=>h) (Or.inl ⟨by kernel_rfl,fun w0 _=>by go_simp⟩) hS13 ?_
   refine wpAnyH_take (i:=10) (v:=yi 0) rfl (by kernel_rfl) (by kernel_rfl) (by kernel_rfl) (fun _ _ _ h=>h) (Or.inl ⟨by kernel_rfl,fun w0 _=>by go_simp⟩) hS13 ?_
   refine wpAnyH_ready (rs:=[12]) (by kernel_rfl) (by simp) ?_;refine AllReadyH.cons rfl (fun K hK=> ?_) AllReadyH.nil
   rw[if_pos (by kernel_rfl)];have hth:wp.there PQ 0 6:=there_of p13;refine wp_store_mid 86 (.tmp 9) (.tmp 26) rfl PQ 0 (ypL ps (.slice po (Dg.dg 4294967296 pd).length pc) pp ex ov un).toArray (by kernel_rfl) (by kernel_rfl) hth (by kernel_rfl) (by simp[Value.oneCell']) ?_;have bu:But PQ wp (wp.setCells PQ 0 (ypL ps (.slice po (Dg.dg 4294967296 pd).length pc) pp ex ov un)):=but_sets _ _ _ _;have dS:=bu.loc d13 (by omega);have xS:=bu.loc x13 (by omega);have bS:=bu.below b13 (by omega);have rS:=bu.rd rp (rd_offU rp p13 (by simp));have pS:LocE (wp.setCells PQ 0 (ypL ps (.slice po (Dg.dg 4294967296 pd).length pc) pp ex ov un)) PQ 86 (ypL ps (.slice po (Dg.dg 4294967296 pd).length pc) pp ex ov un):=((((((p13.set 0 (.bool ps)).set 1 (.slice po (Dg.dg 4294967296 pd).length pc)).set 2 (yi pp)).set 3 (.bool ex)).set 4 (.bool ov)).set 5 (.bool un));refine hK.out _ _ ⟨fun j v hj=>range_of xS 2 3 rfl j v hj,fun j v hj=>range_of dS 3 5 rfl j v hj,dS.cell 1 rfl⟩ (fun hSS=> ?_)
   clear hK K bu hth d13 x13 b13 p13 rp;refine wpAnyH_take (i:=13) (v:=yi 0) rfl (by kernel_rfl) (by kernel_rfl) (by kernel_rfl) (fun _ _ _ h=>h) (Or.inl ⟨by kernel_rfl,fun w0 _=>by go_simp⟩) hSS ?_
   refine wpAnyH_done (by kernel_rfl) ?_ _;clear hSS;change Exit.then _ _ _ _ (World.setCells wp PQ 0 (ypL ps (.slice po (Dg.dg 4294967296 pd).length pc) pp ex ov un));generalize World.setCells wp PQ 0 (ypL ps (.slice po (Dg.dg 4294967296 pd).length pc) pp ex ov un)=WS at dS xS bS rS pS⊢;simp only[Act.put,List.getElem_toArray,List.getElem_cons_succ,List.getElem_cons_zero,List.setIfInBounds_toArray,List.set_cons_zero,List.set_cons_succ];obtain⟨y0,y1,y2,y3,y4,y5,y6,y7⟩:=dS.cs8;obtain⟨z0,z1,z2,z3,z4,z5⟩:=pS.cs6
   go_wp2_with fail
   refine(HSt.out _ _ _ bS rS).mono ?_;rintro z wt ⟨u,rfl,rt,bt⟩;obtain⟨vo,vc,hu⟩:=rt.shape;subst hu;have al:=below_alloc wt (.cells (yvL c g (.slice vo (Dg.dg 4294967296 m).length vc) q).toArray 73);have vt:=locE_new wt (yvL c g (.slice vo (Dg.dg 4294967296 m).length vc) q) 73;have dt:=(dS.later bt).later al;have rv:=rt.later al;have b9:=below_trans (below_trans bS bt) al;clear y0 y1 y2 y3 y4 y5 y6 y7 z0 z1 z2 z3 z4 z5 dS xS bS rS pS bt al rt
   go_upto_region 7 with fail
   generalize wt.alloc (.cells (yvL c g (.slice vo (Dg.dg 4294967296 m).length vc) q).toArray 73)=WT at vt dt rv b9⊢;generalize wt.heap.size=PV at vt⊢;obtain⟨y0,y1,y2,y3,y4,y5,y6,y7⟩:=dt.cs8;obtain⟨z0,z1,z2,z3⟩:=vt.cs4
   go_wp2_with fail
   refine(HEn.out _ _ _ b9 rv).mono ?_;rintro z wz ⟨rfl,bz⟩;have bE:=below_trans b9 bz
   go_wp2
   go_ret3
   exact⟨rfl,bE⟩
 ·skip
  go_simp
  have al:=below_alloc WD (.cells (ypL false (.slice none 0 0) 0 false false false).toArray 86);have pn:=locE_new WD (ypL false (.slice none 0 0) 0 false false false) 86;have hpn:w.heap.size+1<WD.heap.size:=x1.lt;have d11:=d1.later al;have x11:=x1.later al;have b11:=below_trans b1 al;refine hK.out _ _ ⟨fun j v hj=>range_of x11 2 3 rfl j v hj,fun j v hj=>range_of d11 3 5 rfl j v hj,d11.cell 1 rfl⟩ (fun hS11=> ?_)
  clear hK K al d1 x1 b1;generalize WD.alloc (.cells (ypL false (.slice none 0 0) 0 false false false).toArray 86)=WN11 at d11 x11 b11 pn hS11⊢;generalize WD.heap.size=PQ at pn hpn⊢;refine wpAnyH_ready (rs:=[2]) (by kernel_rfl) (by simp) ?_;refine AllReadyH.cons rfl (fun K hK=> ?_) AllReadyH.nil
  go_simp
  refine(HQ.out _ b11).mono ?_;rintro z wq ⟨no,nc,mo,mc,rfl,rn,rm,bq⟩;have d12:=d11.later bq;have x12:=x11.later bq;have b12:=below_trans b11 bq;have p12:=pn.later bq;refine hK.out _ _ ⟨fun j v hj=>range_of x12 2 3 rfl j v hj,fun j v hj=>range_of d12 3 5 rfl j v hj,d12.cell 1 rfl⟩ (fun hS12=> ?_)
  clear hK K bq d11 x11 b11 pn;refine wpAnyH_ready (rs:=[7]) (by kernel_rfl) (by simp) ?_;refine AllReadyH.cons rfl (fun K hK=> ?_) AllReadyH.nil
  go_simp
  refine(HRd.out _ _ _ _ _ b12 rn rm).mono ?_;rintro z wp ⟨po,pc,rfl,rp,bp⟩;have d13:=d12.later bp;have x13:=x12.later bp;have b13:=below_trans b12 bp;have p13:=p12.later bp;refine hK.out _ _ ⟨fun j v hj=>range_of x13 2 3 rfl j v hj,fun j v hj=>range_of d13 3 5 rfl j v hj,d13.cell 1 rfl⟩ (fun hS13=> ?_)
  clear hK K bp d12 x12 b12 p12 rn rm;refine wpAnyH_take (i:=8) (v:= .tuple #[ypV ps (.slice po (Dg.dg 4294967296 pd).length pc) pp ex ov un,yi 0]) rfl (by kernel_rfl) (by kernel_rfl) (by kernel_rfl) (fun _ _ _ h=>h) (Or.inl ⟨by kernel_rfl,fun w0 _=>by go_simp⟩) hS13 ?_
  refine wpAnyH_take (i:=9) (v:=(ypV ps (.slice po (Dg.dg 4294967296 pd).length pc) pp ex ov un)) rfl (by kernel_rfl) (by kernel_rfl) (by kernel_rfl) (fun _ _ _ h=>h) (Or.inl ⟨by kernel_rfl,fun w0 _=>by go_simp⟩) hS13 ?_
  refine wpAnyH_take (i:=10) (v:=yi 0) rfl (by kernel_rfl) (by kernel_rfl) (by kernel_rfl) (fun _ _ _ h=>h) (Or.inl ⟨by kernel_rfl,fun w0 _=>by go_simp⟩) hS13 ?_
  refine wpAnyH_ready (rs:=[12]) (by kernel_rfl) (by simp) ?_;refine AllReadyH.cons rfl (fun K hK=> ?_) AllReadyH.nil
  rw[if_pos (by kernel_rfl)];have hth:wp.there PQ 0 6:=there_of p13;refine wp_store_mid 86 (.tmp 9) (.tmp 26) rfl PQ 0 (ypL ps (.slice po (Dg.dg 4294967296 pd).length pc) pp ex ov un).toArray (by kernel_rfl) (by kernel_rfl) hth (by kernel_rfl) (by simp[Value.oneCell']) ?_;have bu:But PQ wp (wp.setCells PQ 0 (ypL ps (.slice po (Dg.dg 4294967296 pd).length pc) pp ex ov un)):=but_sets _ _ _ _;have dS:=bu.loc d13 (by omega);have xS:=bu.loc x13 (by omega);have bS:=bu.below b13 (by omega);have rS:=bu.rd rp (rd_offU rp p13 (by simp));have pS:LocE (wp.setCells PQ 0 (ypL ps (.slice po (Dg.dg 4294967296 pd).length pc) pp ex ov un)) PQ 86 (ypL ps (.slice po (Dg.dg 4294967296 pd).length pc) pp ex ov un):=((((((p13.set 0 (.bool ps)).set 1 (.slice po (Dg.dg 4294967296 pd).length pc)).set 2 (yi pp)).set 3 (.bool ex)).set 4 (.bool ov)).set 5 (.bool un));refine hK.out _ _ ⟨fun j v hj=>range_of xS 2 3 rfl j v hj,fun j v hj=>range_of dS 3 5 rfl j v hj,dS.cell 1 rfl⟩ (fun hSS=> ?_)
  clear hK K bu hth d13 x13 b13 p13 rp;refine wpAnyH_take (i:=13) (v:=yi 0) rfl (by kernel_rfl) (by kernel_rfl) (by kernel_rfl) (fun _ _ _ h=>h) (Or.inl ⟨by kernel_rfl,fun w0 _=>by go_simp⟩) hSS ?_
  refine wpAnyH_done (by kernel_rfl) ?_ _;clear hSS;change Exit.then _ _ _ _ (World.setCells wp PQ 0 (ypL ps (.slice po (Dg.dg 4294967296 pd).length pc) pp ex ov un));generalize World.setCells wp PQ 0 (ypL ps (.slice po (Dg.dg 4294967296 pd).length pc) pp ex ov un)=WS at dS xS bS rS pS⊢;simp only[Act.put,List.getElem_toArray,List.getElem_cons_succ,List.getElem_cons_zero,List.setIfInBounds_toArray,List.set_cons_zero,List.set_cons_succ];obtain⟨y0,y1,y2,y3,y4,y5,y6,y7⟩:=dS.cs8;obtain⟨z0,z1,z2,z3,z4,z5⟩:=pS.cs6
  go_wp2_with fail
  refine(HSt.out _ _ _ bS rS).mono ?_;rintro z wt ⟨u,rfl,rt,bt⟩;obtain⟨vo,vc,hu⟩:=rt.shape;subst hu;have al:=below_alloc wt (.cells (yvL c g (.slice vo (Dg.dg 4294967296 m).length vc) q).toArray 73);have vt:=locE_new wt (yvL c g (.slice vo (Dg.dg 4294967296 m).length vc) q) 73;have dt:=(dS.later bt).later al;have rv:=rt.later al;have b9:=below_trans (below_trans bS bt) al;clear y0 y1 y2 y3 y4 y5 y6 y7 z0 z1 z2 z3 z4 z5 dS xS bS rS pS bt al rt
  go_upto_region 7 with fail
  generalize wt.alloc (.cells (yvL c g (.slice vo (Dg.dg 4294967296 m).length vc) q).toArray 73)=WT at vt dt rv b9⊢;generalize wt.heap.size=PV at vt⊢;obtain⟨y0,y1,y2,y3,y4,y5,y6,y7⟩:=dt.cs8;obtain⟨z0,z1,z2,z3⟩:=vt.cs4
  go_wp2_with fail
  refine(HEn.out _ _ _ b9 rv).mono ?_;rintro z wz ⟨rfl,bz⟩;have bE:=below_trans b9 bz
  go_wp2
  go_ret3
  exact⟨rfl,bE⟩
end Go.Proofs.YtnhackdjplppjaaGreatDoor
namespace Go.Proofs.YtnhackdjplppjaaGreatDoor
open Go.RowKit
set_option maxHeartbeats 3200000 in
theorem acompare_err (n er:Int) (her:er≠0) (a b:ByteArray) (w:World)
  (HD: ∀w1,Calls Tryz.prog 80 #[yi n] w1 fun z w'=>z= .returned (.tuple #[ykV 0 0 0 0 0 0 0 false,yi er])∧Below w1.heap.size w1 w'):
  Calls Tryz.prog 32 #[yi n,.string a,.string b] w fun z w'=>z= .returned (.tuple #[yi 0,.bool false,yi er])∧Below w.heap.size w w':=by
 replace HD:Hid _:=HD;have he:(er==0)=false:=by simpa using her
 clear her
 go_enter Tryz.func32,Tryz.ntmps32
 go_wp2_with fail
 refine(HD.out _).mono ?_;rintro z w1 ⟨rfl,b1⟩;have b2:=below_trans b1 (below_alloc w1 (.cells (ykL 0 0 0 0 0 0 0 false).toArray 93))
 go_upto_region 2 with fail
 generalize w1.alloc (.cells (ykL 0 0 0 0 0 0 0 false).toArray 93)=W1 at b2⊢
 go_wp2
 go_ret3
 exact⟨rfl,b2⟩
set_option maxHeartbeats 6400000 in
theorem acompare_W (n R D L G fam r:Int) (gr:Bool) (a b:ByteArray) (X:Value) (w:World) (H1:errL n [a,b]≠0→errL n [a,b]=1)
  (X0:errL n [a,b]≠0→X= .tuple #[yi 0,.bool false,yi (errL n [a,b])]) (X1:errL n [a,b]=0→(noNum n a||noNum n b)=true→X= .tuple #[yi 0,.bool false,yi 0])
  (X2:errL n [a,b]=0→(noNum n a||noNum n b)=false→X= .tuple #[yi r,.bool true,yi 0])
  (HD: ∀w1,Calls Tryz.prog 80 #[yi n] w1 fun z w'=>z= .returned (.tuple #[ykV n 0 fam R D L G gr,yi 0])∧Below w1.heap.size w1 w')
  (HO: ∀pb w1,Below w.heap.size w w1→LocE w1 pb 9 [.string a,.string b]→Calls Tryz.prog 81 #[ykV n 0 fam R D L G gr,.slice (some ⟨pb,0,none⟩) 2 2] w1 (OpsRes w1 n [a,b]))
  (HC:errL n [a,b]=0→(noNum n a||noNum n b)=false→ ∀xo xc yo yc w1,Rd w1 .u32 (.slice xo (Dg.dg 4294967296 (opT n a).n).length xc) (Dg.dg 4294967296 (opT n a).n)→Rd w1 .u32 (.slice yo (Dg.dg 4294967296 (opT n b).n).length yc) (Dg.dg 4294967296 (opT n b).n)→Calls Tryz.prog 83 #[.agg #[yi ((decC n a:Nat):Int),.bool (decG n a),.bool (opT n a).s,.slice xo (Dg.dg 4294967296 (opT n a).n).length xc,yi (opT n a).e],.agg #[yi ((decC n b:Nat):Int),.bool (decG n b),.bool (opT n b).s,.slice yo (Dg.dg 4294967296 (opT n b).n).length yc,yi (opT n b).e]] w1 fun z w'=>z= .returned (yi r)∧Below w1.heap.size w1 w'):
  Calls Tryz.prog 32 #[yi n,.string a,.string b] w fun z w'=>z= .returned X∧Below w.heap.size w w':=by
 replace HD:Hid _:=HD;replace HO:Hid _:=HO;replace HC:Hid _:=HC;obtain⟨er,hE⟩: ∃x,errL n [a,b]=x:=⟨_,rfl⟩;rw[hE] at X0 X1 X2 H1 HC;replace H1:Hid _:=H1;have HE:Hid (errL n [a,b]=er):=hE;clear hE;replace X0:Hid _:=X0;replace X1:Hid _:=X1;replace X2:Hid _:=X2
 go_enter Tryz.func32,Tryz.ntmps32
 go_wp2_with fail
 refine(HD.out _).mono ?_;rintro z w1 ⟨rfl,b1⟩;have bl:=below_alloc w1 (.cells (ykL n 0 fam R D L G gr).toArray 93);have d1:=locE_new w1 (ykL n 0 fam R D L G gr) 93;have b01:=below_trans b1 bl;clear b1 bl HD
 go_upto_region 4 with fail
 generalize w1.alloc (.cells (ykL n 0 fam R D L G gr).toArray 93)=W1 at d1 b01⊢;generalize w1.heap.size=PD at d1⊢;obtain⟨x0,x1,x2,x3,x4,x5,x6,x7⟩:=d1.cs8;have al:=below_alloc W1 (.cells #[.string a,.string b] 9);have sl:=locE_new W1 [.string a,.string b] 9;have b02:=below_trans b01 al;clear d1 b01 al
 go_wp2_with fail
 refine(HO.out _ _ b02 sl).mono ?_;rintro z w2 hz;clear HO sl x0 x1 x2 x3 x4 x5 x6 x7
 rcases hz with⟨h0,v,cs,rfl,hown,hat,b2⟩| ⟨h0,rfl,b2⟩
 ·obtain⟨g,cap,hv,hV⟩:=opsV_of (by simp) hown hat
  subst hv;have b03:=below_trans b02 b2;rw[HE.out] at h0;replace X1:Hid _:=X1.out h0;replace HC:Hid _:=HC.out h0;replace X2:Hid _:=X2.out h0;clear X0;have HNN:Hid (∀w1,OpsV w1 n [a,b] g cap→Calls Tryz.prog 82 #[.slice (some ⟨g,0,none⟩) 2 cap] w1 fun z w'=>z= .returned (.bool ([a,b].any (noNum n)))∧Below w1.heap.size w1 w'):=fun w1 h=>noNumbers_W n [a,b] g cap w1 h (by simp)
  rw[show[a,b].any (noNum n)=(noNum n a||noNum n b) from by simp] at HNN
  simp only[List.length_cons,List.length_nil,Nat.zero_add,Nat.reduceAdd] at hown⊢;clear b02 b2 hown hat h0;obtain⟨nn,hn⟩: ∃x,(noNum n a||noNum n b)=x:=⟨_,rfl⟩
  rw[hn] at HNN HC X1 X2;clear hn
  go_wp2_with fail
  refine(HNN.out _ hV).mono ?_;rintro z w4 ⟨rfl,b4⟩;have hV4:=hV.later b4;have b04:=below_trans b03 b4;clear hV b03 b4 HNN
  cases nn
  ·replace HC:Hid _:=HC.out rfl
   obtain⟨xo,xc,rx,kx⟩:=hV4.each 0 a rfl;obtain⟨yo,yc,ry,ky⟩:=hV4.each 1 b rfl;unfold opC at rx ry;have hX:=X2.out rfl;subst hX;clear X1 X2
   go_upto_region 7 with fail
   have bW:Below w4.heap.size w4 w4.drew:=(Below.refl _ _).drew;have rxd:=range_later rx bW;have ryd:=range_later ry bW;have kxd:=kx.later bW;have kyd:=ky.later bW;have b05:=below_trans b04 bW;clear bW;refine wp_region_held_drew (S:=fun wq=>wq.rangeAt g (0*5) [yi ((decC n a:Nat):Int),.bool (decG n a),.bool (opT n a).s,.slice xo (Dg.dg 4294967296 (opT n a).n).length xc,yi (opT n a).e]∧wq.rangeAt g (1*5) [yi ((decC n b:Nat):Int),.bool (decG n b),.bool (opT n b).s,.slice yo (Dg.dg 4294967296 (opT n b).n).length yc,yi (opT n b).e]) (by kernel_rfl) ⟨rxd,ryd⟩ (fun hS0=> ?_)
   refine wpAnyH_take (i:=0) (v:= .slice (some ⟨g,0,none⟩) 2 cap) rfl (by kernel_rfl) (by kernel_rfl) (by kernel_rfl) (fun _ _ _ h=>h) (Or.inl ⟨by kernel_rfl,fun w0 _=>by kernel_rfl⟩) hS0 ?_
   refine wpAnyH_take (i:=1) (v:= .pointer (some ⟨g,0,none⟩)) rfl (by kernel_rfl) (by kernel_rfl) (by kernel_rfl) (fun _ _ _ h=>h) (Or.inl ⟨by kernel_rfl,fun w0 _=>by kernel_rfl⟩) hS0 ?_
   refine wpAnyH_take (i:=2) (v:= .agg #[yi ((decC n a:Nat):Int),.bool (decG n a),.bool (opT n a).s,.slice xo (Dg.dg 4294967296 (opT n a).n).length xc,yi (opT n a).e]) rfl (by kernel_rfl) (by kernel_rfl) (by kernel_rfl) (fun _ _ _ h=>h) (Or.inl ⟨by kernel_rfl,fun w0 hw0=>xrow 98 (.tmp 36) rfl g 0 (by kernel_rfl) _ _ hw0.1 Tryz.underlying98 rfl (by kernel_rfl)⟩) hS0 ?_
   refine wpAnyH_take (i:=3) (v:= .slice (some ⟨g,0,none⟩) 2 cap) rfl (by kernel_rfl) (by kernel_rfl) (by kernel_rfl) (fun _ _ _ h=>h) (Or.inl ⟨by kernel_rfl,fun w0 _=>by kernel_rfl⟩) hS0 ?_
   refine wpAnyH_take (i:=4) (v:= .pointer (some ⟨g,5,none⟩)) rfl (by kernel_rfl) (by kernel_rfl) (by kernel_rfl) (fun _ _ _ h=>h) (Or.inl ⟨by kernel_rfl,fun w0 _=>by kernel_rfl⟩) hS0 ?_
   refine wpAnyH_take (i:=5) (v:= .agg #[yi ((decC n b:Nat):Int),.bool (decG n b),.bool (opT n b).s,.slice yo (Dg.dg 4294967296 (opT n b).n).length yc,yi (opT n b).e]) rfl (by kernel_rfl) (by kernel_rfl) (by kernel_rfl) (fun _ _ _ h=>h) (Or.inl ⟨by kernel_rfl,fun w0 hw0=>xrow 98 (.tmp 39) rfl g 5 (by kernel_rfl) _ _ hw0.2 Tryz.underlying98 rfl (by kernel_rfl)⟩) hS0 ?_
   refine wpAnyH_ready (rs:=[6]) (by kernel_rfl) (by simp) ?_;refine AllReadyH.cons rfl (fun K hK=> ?_) AllReadyH.nil
   go_simp
   refine(HC.out _ _ _ _ _ kxd kyd).mono ?_;rintro z w6 ⟨rfl,b6⟩;refine hK.out _ _ ⟨range_later rxd b6,range_later ryd b6⟩ (fun hS6=> ?_)
   have b06:=below_trans b05 b6;clear hK K;refine wpAnyH_take (i:=7) (v:=yi r) rfl (by kernel_rfl) (by kernel_rfl) (by kernel_rfl) (fun _ _ _ h=>h) (Or.inl ⟨by kernel_rfl,fun w0 _=>by go_simp⟩) hS6 ?_
   refine wpAnyH_take (i:=8) (v:= .bool true) rfl (by kernel_rfl) (by kernel_rfl) (by kernel_rfl) (fun _ _ _ h=>h) (Or.inl ⟨by kernel_rfl,fun w0 _=>by go_simp⟩) hS6 ?_
   refine wpAnyH_take (i:=9) (v:=yi 0) rfl (by kernel_rfl) (by kernel_rfl) (by kernel_rfl) (fun _ _ _ h=>h) (Or.inl ⟨by kernel_rfl,fun w0 _=>by go_simp⟩) hS6 ?_
   simp only[Act.put,List.getElem_toArray,List.getElem_cons_succ,List.getElem_cons_zero,List.setIfInBounds_toArray,List.set_cons_zero,List.set_cons_succ];refine wpAnyH_done (by kernel_rfl) ?_ _
   go_wp2
   go_ret3
   exact⟨rfl,b06⟩
  ·have hX:=X1.out rfl
   subst hX;clear HC X1 X2
   go_wp2
   go_ret3
   exact⟨rfl,b04⟩
 ·have b03:=below_trans b02 b2
  rw[HE.out] at h0⊢;have hX:=X0.out h0;have h1:=H1.out h0;clear X0 X1 X2 h0 HC HE H1;subst h1;subst hX
  go_wp2
  go_ret3
  exact⟨rfl,b03⟩
end Go.Proofs.YtnhackdjplppjaaGreatDoor
