/-
  Texts laid together: Ce5, Co22, Ce8, Ce1.
-/
import Derived.Test.YtnhackdjplppjaaGreatDoorSp21
set_option maxRecDepth 100000
namespace Go.Proofs.YtnhackdjplppjaaGreatDoor
open Go.RowKit
set_option maxHeartbeats 3200000 in
theorem lnumber_W (R D L G fam:Int) (gr:Bool) (sz ex:Nat) (F:Nat) (c p:Int) (ng:Bool) (ao:Option Addr) (dn dc:Nat) (r:Trip×Int) (w:World)
  (HN: ∀w1,Below w.heap.size w w1→Calls Tryz.prog 51 #[ypV ng (.slice ao dn dc) p false false false,ygV R D L G gr] w1 (DAns w1 r)):
  Calls Tryz.prog 154 #[ylV R D L G gr (sz:Int) (ex:Int) fam F,yvV c ng (.slice ao dn dc) p] w (DAns w r):=by
 have hsf:=hsf_z;have HN':Hid _:=HN;have bl:=below_alloc w (.cells (ylL R D L G gr (sz:Int) (ex:Int) fam F).toArray 144);have bv:=below_alloc (w.alloc (.cells (ylL R D L G gr (sz:Int) (ex:Int) fam F).toArray 144)) (.cells (yvL c ng (.slice ao dn dc) p).toArray 73);have bd:=below_alloc ((w.alloc (.cells (ylL R D L G gr (sz:Int) (ex:Int) fam F).toArray 144)).alloc (.cells (yvL c ng (.slice ao dn dc) p).toArray 73)) (.cells (ydL false (.slice none 0 0) 0).toArray 82);have d0:=locE_new ((w.alloc (.cells (ylL R D L G gr (sz:Int) (ex:Int) fam F).toArray 144)).alloc (.cells (yvL c ng (.slice ao dn dc) p).toArray 73)) (ydL false (.slice none 0 0) 0) 82;have b0:=below_trans (below_trans bl bv) bd;rw[World.size_alloc,World.size_alloc] at d0;clear HN bl bv bd
 go_enter Tryz.func154,Tryz.ntmps154
 go_wp2_with fail
 refine(HN'.out _ b0).mono ?_;rintro z w1 ⟨s1,rfl,own1,b1⟩;obtain⟨so,sc,hs1⟩:=own1.rd.shape;subst hs1;have d1:=d0.later b1;have b01:=below_trans b0 b1;have bu:=((but_set w1 (w.heap.size+1+1) 0 (.bool r.1.s)).trans (but_set _ (w.heap.size+1+1) 1 (.slice so (Dg.dg 4294967296 r.1.n).length sc))).trans (but_set _ (w.heap.size+1+1) 2 (yi r.1.e));have cR:LocE (((w1.setCell ⟨w.heap.size+1+1,0,none⟩ (.bool r.1.s)).setCell ⟨w.heap.size+1+1,1,none⟩ (.slice so (Dg.dg 4294967296 r.1.n).length sc)).setCell ⟨w.heap.size+1+1,2,none⟩ (yi r.1.e)) (w.heap.size+1+1) 82 (ydL r.1.s (.slice so (Dg.dg 4294967296 r.1.n).length sc) r.1.e):=(((d1.set 0 (.bool r.1.s)).set 1 (.slice so (Dg.dg 4294967296 r.1.n).length sc)).set 2 (yi r.1.e));have oR:=(bu.own own1 d1 (by decide)).lower b0.size;have bR:=bu.below b01 (by omega);have hl:=run_loadVar_mid (P:=Tryz.prog) _ (w.heap.size+1+1) 0 82 (ydL r.1.s (.slice so (Dg.dg 4294967296 r.1.n).length sc) r.1.e) _ cR.range Tryz.underlying82 rfl (by kernel_rfl);have HH:Hid (_∧_∧_):=⟨hl,oR,bR⟩;obtain⟨x0,x1,x2⟩:=d1.cs3;have j0:=d1.free 0;have j1:=d1.free 1;have j2:=d1.free 2;clear hl oR bR cR bu d1 d0 b01 b1 own1 b0
 go_wp2
 obtain⟨hl,oR,bR⟩:=HH.out;exact bodyPost_ret (results_two Tryz.results154 rfl rfl hl) rfl ⟨_,rfl,oR,bR⟩
set_option maxHeartbeats 6400000 in
theorem encNum_low (R D L G fam:Int) (gr:Bool) (sz ex:Nat) (F:Nat) (c p:Int) (ng:Bool) (ao:Option Addr) (dn dc:Nat) (w:World) (hp:p< -20000):
  Calls Tryz.prog 99 #[ylV R D L G gr (sz:Int) (ex:Int) fam F,yvV c ng (.slice ao dn dc) p] w fun z w'=>z= .returned (.tuple #[.string ⟨#[]⟩,yi 3])∧Below w.heap.size w w':=by
 have hsf:=hsf_z;have bv:=below_alloc (w.alloc (.cells (ylL R D L G gr (sz:Int) (ex:Int) fam F).toArray 144)) (.cells (yvL c ng (.slice ao dn dc) p).toArray 73);have l0:=(locE_new w (ylL R D L G gr (sz:Int) (ex:Int) fam F) 144).later bv;have m0:=locE_new (w.alloc (.cells (ylL R D L G gr (sz:Int) (ex:Int) fam F).toArray 144)) (yvL c ng (.slice ao dn dc) p) 73;have b0:=below_trans (below_alloc w (.cells (ylL R D L G gr (sz:Int) (ex:Int) fam F).toArray 144)) bv;rw[World.size_alloc] at m0;clear bv;obtain⟨x0,x1,x2,x3,x4,x5,x6,x7,x8⟩:=l0.cs9;obtain⟨u0,u1,u2,u3⟩:=m0.cs4
 go_enter Tryz.func99,Tryz.ntmps99
 go_wp2
 go_ret2
 exact⟨rfl,b0⟩
set_option maxHeartbeats 6400000 in
theorem encNum_high (R D L G fam:Int) (gr:Bool) (sz ex:Nat) (F:Nat) (c p:Int) (ng:Bool) (ao:Option Addr) (dn dc:Nat) (w:World) (hp:20000<p):
  Calls Tryz.prog 99 #[ylV R D L G gr (sz:Int) (ex:Int) fam F,yvV c ng (.slice ao dn dc) p] w fun z w'=>z= .returned (.tuple #[.string ⟨#[]⟩,yi 3])∧Below w.heap.size w w':=by
 have hp1: ¬p< -20000:=by omega
 have hsf:=hsf_z;have bv:=below_alloc (w.alloc (.cells (ylL R D L G gr (sz:Int) (ex:Int) fam F).toArray 144)) (.cells (yvL c ng (.slice ao dn dc) p).toArray 73);have l0:=(locE_new w (ylL R D L G gr (sz:Int) (ex:Int) fam F) 144).later bv;have m0:=locE_new (w.alloc (.cells (ylL R D L G gr (sz:Int) (ex:Int) fam F).toArray 144)) (yvL c ng (.slice ao dn dc) p) 73;have b0:=below_trans (below_alloc w (.cells (ylL R D L G gr (sz:Int) (ex:Int) fam F).toArray 144)) bv;rw[World.size_alloc] at m0;clear bv;obtain⟨x0,x1,x2,x3,x4,x5,x6,x7,x8⟩:=l0.cs9;obtain⟨u0,u1,u2,u3⟩:=m0.cs4
 go_enter Tryz.func99,Tryz.ntmps99
 go_wp2
 go_ret2
 exact⟨rfl,b0⟩
set_option maxHeartbeats 6400000 in
theorem encNum_empty (R D L G fam:Int) (gr:Bool) (sz ex:Nat) (F:Nat) (c p:Int) (ng:Bool) (ao:Option Addr) (dn dc:Nat) (w:World) (hpa: -20000≤p) (hpb:p≤20000) (hd:dn=0):
  Calls Tryz.prog 99 #[ylV R D L G gr (sz:Int) (ex:Int) fam F,yvV c ng (.slice ao dn dc) p] w fun z w'=>z= .returned (.tuple #[.string ⟨#[]⟩,yi 4])∧Below w.heap.size w w':=by
 subst hd;have hp1: ¬p< -20000:=by omega
 have hp2: ¬20000<p:=by omega
 have hsf:=hsf_z;have bv:=below_alloc (w.alloc (.cells (ylL R D L G gr (sz:Int) (ex:Int) fam F).toArray 144)) (.cells (yvL c ng (.slice ao 0 dc) p).toArray 73);have l0:=(locE_new w (ylL R D L G gr (sz:Int) (ex:Int) fam F) 144).later bv;have m0:=locE_new (w.alloc (.cells (ylL R D L G gr (sz:Int) (ex:Int) fam F).toArray 144)) (yvL c ng (.slice ao 0 dc) p) 73;have b0:=below_trans (below_alloc w (.cells (ylL R D L G gr (sz:Int) (ex:Int) fam F).toArray 144)) bv;rw[World.size_alloc] at m0;clear bv;obtain⟨x0,x1,x2,x3,x4,x5,x6,x7,x8⟩:=l0.cs9;obtain⟨u0,u1,u2,u3⟩:=m0.cs4
 go_enter Tryz.func99,Tryz.ntmps99
 go_wp2
 go_ret2
 exact⟨rfl,b0⟩
set_option maxHeartbeats 6400000 in
theorem encNum_far (R D L G fam:Int) (gr:Bool) (sz ex:Nat) (F:Nat) (c p:Int) (ng:Bool) (ao:Option Addr) (dn dc:Nat) (w:World)
  (r:Trip) (er:Int) (HN: ∀w1,Below w.heap.size w w1→Calls Tryz.prog 154 #[ylV R D L G gr (sz:Int) (ex:Int) fam F,yvV c ng (.slice ao dn dc) p] w1 (DAns w1 (r,er))) (hpa: -20000≤p) (hpb:p≤20000) (hd:0<dn) (he:er≠0):
  Calls Tryz.prog 99 #[ylV R D L G gr (sz:Int) (ex:Int) fam F,yvV c ng (.slice ao dn dc) p] w fun z w'=>z= .returned (.tuple #[.string ⟨#[]⟩,yi 4])∧Below w.heap.size w w':=by
 have hp1: ¬p< -20000:=by omega
 have hp2: ¬20000<p:=by omega
 have HN':Hid _:=HN;have hdI:((dn:Int)==0)=false:=by simp;omega
 clear HN;have heb:(er==0)=false:=by simpa using he
 have hsf:=hsf_z;have bv:=below_alloc (w.alloc (.cells (ylL R D L G gr (sz:Int) (ex:Int) fam F).toArray 144)) (.cells (yvL c ng (.slice ao dn dc) p).toArray 73);have l0:=(locE_new w (ylL R D L G gr (sz:Int) (ex:Int) fam F) 144).later bv;have m0:=locE_new (w.alloc (.cells (ylL R D L G gr (sz:Int) (ex:Int) fam F).toArray 144)) (yvL c ng (.slice ao dn dc) p) 73;have b0:=below_trans (below_alloc w (.cells (ylL R D L G gr (sz:Int) (ex:Int) fam F).toArray 144)) bv;rw[World.size_alloc] at m0;clear bv;obtain⟨x0,x1,x2,x3,x4,x5,x6,x7,x8⟩:=l0.cs9;obtain⟨u0,u1,u2,u3⟩:=m0.cs4
 go_enter Tryz.func99,Tryz.ntmps99
 go_wp2_with fail
 refine(HN'.out _ b0).mono ?_;rintro z w1 ⟨s1,rfl,own1,b1⟩;obtain⟨so,sc,hs1⟩:=own1.rd.shape;subst hs1;simp only;have bq:=below_alloc w1 (.cells (yDL r so sc).toArray 82);have l1:=(l0.later b1).later bq;have q1:=locE_new w1 (yDL r so sc) 82;have r1:=own1.rd.later bq;have b01:=below_trans (below_trans b0 b1) bq;clear own1 b1 bq l0 m0 x0 x1 x2 x3 x4 x5 x6 x7 x8 u0 u1 u2 u3;obtain⟨x0,x1,x2,x3,x4,x5,x6,x7,x8⟩:=l1.cs9;obtain⟨q0,qq1,q2⟩:=q1.cs3
 go_wp2
 go_ret2
 exact⟨rfl,b01⟩
set_option maxHeartbeats 6400000 in
theorem encNum_off0 (R D L G fam:Int) (gr:Bool) (sz ex:Nat) (F:Nat) (c p:Int) (ng:Bool) (ao:Option Addr) (dn dc:Nat) (w:World)
  (r:Trip) (er:Int) (HN: ∀w1,Below w.heap.size w w1→Calls Tryz.prog 154 #[ylV R D L G gr (sz:Int) (ex:Int) fam F,yvV c ng (.slice ao dn dc) p] w1 (DAns w1 (r,er)))
  (hq:Bool) (he2:Int) (HH: ∀so sc w1,Below w.heap.size w w1→Rd w1 .u32 (.slice so (Dg.dg 4294967296 r.n).length sc) (Dg.dg 4294967296 r.n)→Calls Tryz.prog 52 #[yDV r so sc,ygV R D L G gr] w1 fun z w'=>z= .returned (.tuple #[.bool hq,yi he2])∧Below w1.heap.size w1 w') (hpa: -20000≤p) (hpb:p≤20000) (hd:0<dn) (he:er=0) (h2:he2=0) (hqf:hq=false):
  Calls Tryz.prog 99 #[ylV R D L G gr (sz:Int) (ex:Int) fam F,yvV c ng (.slice ao dn dc) p] w fun z w'=>z= .returned (.tuple #[.string ⟨#[]⟩,yi 4])∧Below w.heap.size w w':=by
 subst he h2 hqf;have hp1: ¬p< -20000:=by omega
 have hp2: ¬20000<p:=by omega
 have HN':Hid _:=HN;have hdI:((dn:Int)==0)=false:=by simp;omega
 clear HN;have HH':Hid _:=HH;clear HH;have hsf:=hsf_z;have bv:=below_alloc (w.alloc (.cells (ylL R D L G gr (sz:Int) (ex:Int) fam F).toArray 144)) (.cells (yvL c ng (.slice ao dn dc) p).toArray 73);have l0:=(locE_new w (ylL R D L G gr (sz:Int) (ex:Int) fam F) 144).later bv;have m0:=locE_new (w.alloc (.cells (ylL R D L G gr (sz:Int) (ex:Int) fam F).toArray 144)) (yvL c ng (.slice ao dn dc) p) 73;have b0:=below_trans (below_alloc w (.cells (ylL R D L G gr (sz:Int) (ex:Int) fam F).toArray 144)) bv;rw[World.size_alloc] at m0;clear bv;obtain⟨x0,x1,x2,x3,x4,x5,x6,x7,x8⟩:=l0.cs9;obtain⟨u0,u1,u2,u3⟩:=m0.cs4
 go_enter Tryz.func99,Tryz.ntmps99
 go_wp2_with fail
 refine(HN'.out _ b0).mono ?_;rintro z w1 ⟨s1,rfl,own1,b1⟩;obtain⟨so,sc,hs1⟩:=own1.rd.shape;subst hs1;simp only;have bq:=below_alloc w1 (.cells (yDL r so sc).toArray 82);have l1:=(l0.later b1).later bq;have q1:=locE_new w1 (yDL r so sc) 82;have r1:=own1.rd.later bq;have b01:=below_trans (below_trans b0 b1) bq;clear own1 b1 bq l0 m0 x0 x1 x2 x3 x4 x5 x6 x7 x8 u0 u1 u2 u3;obtain⟨x0,x1,x2,x3,x4,x5,x6,x7,x8⟩:=l1.cs9;obtain⟨q0,qq1,q2⟩:=q1.cs3
 go_wp2_with fail
 refine(HH'.out _ _ _ b01 r1).mono ?_;rintro z w2 ⟨rfl,b2⟩;have l2:=l1.later b2;have q2:=q1.later b2;have r2:=r1.later b2;have b02:=below_trans b01 b2;clear l1 q1 r1 b01 b2 x0 x1 x2 x3 x4 x5 x6 x7 x8 q0 qq1;obtain⟨x0,x1,x2,x3,x4,x5,x6,x7,x8⟩:=l2.cs9;obtain⟨qq0,qq1,qq2⟩:=q2.cs3
 go_wp2
 go_ret2
 exact⟨rfl,b02⟩
set_option maxHeartbeats 6400000 in
theorem encNum_held (R D L G fam:Int) (gr:Bool) (sz ex:Nat) (F:Nat) (c p:Int) (ng:Bool) (ao:Option Addr) (dn dc:Nat) (w:World)
  (r:Trip) (er:Int) (HN: ∀w1,Below w.heap.size w w1→Calls Tryz.prog 154 #[ylV R D L G gr (sz:Int) (ex:Int) fam F,yvV c ng (.slice ao dn dc) p] w1 (DAns w1 (r,er)))
  (hq:Bool) (he2:Int) (HH: ∀so sc w1,Below w.heap.size w w1→Rd w1 .u32 (.slice so (Dg.dg 4294967296 r.n).length sc) (Dg.dg 4294967296 r.n)→Calls Tryz.prog 52 #[yDV r so sc,ygV R D L G gr] w1 fun z w'=>z= .returned (.tuple #[.bool hq,yi he2])∧Below w1.heap.size w1 w')
  (st:ByteArray) (es:Int) (HE: ∀so sc w1,Below w.heap.size w w1→Rd w1 .u32 (.slice so (Dg.dg 4294967296 r.n).length sc) (Dg.dg 4294967296 r.n)→Calls Tryz.prog 155 #[ylV R D L G gr (sz:Int) (ex:Int) fam F,yDV r so sc] w1 fun z w'=>z= .returned (.tuple #[.string st,yi es])∧Below w1.heap.size w1 w') (hpa: -20000≤p) (hpb:p≤20000) (hd:0<dn) (he:er=0) (h2:he2=0) (hqt:hq=true):
  Calls Tryz.prog 99 #[ylV R D L G gr (sz:Int) (ex:Int) fam F,yvV c ng (.slice ao dn dc) p] w fun z w'=>z= .returned (.tuple #[.string st,yi es])∧Below w.heap.size w w':=by
 subst he h2 hqt;have hp1: ¬p< -20000:=by omega
 have hp2: ¬20000<p:=by omega
 have HN':Hid _:=HN;have hdI:((dn:Int)==0)=false:=by simp;omega
 clear HN;have HH':Hid _:=HH;clear HH;have HE':Hid _:=HE;clear HE;have hsf:=hsf_z;have bv:=below_alloc (w.alloc (.cells (ylL R D L G gr (sz:Int) (ex:Int) fam F).toArray 144)) (.cells (yvL c ng (.slice ao dn dc) p).toArray 73);have l0:=(locE_new w (ylL R D L G gr (sz:Int) (ex:Int) fam F) 144).later bv;have m0:=locE_new (w.alloc (.cells (ylL R D L G gr (sz:Int) (ex:Int) fam F).toArray 144)) (yvL c ng (.slice ao dn dc) p) 73;have b0:=below_trans (below_alloc w (.cells (ylL R D L G gr (sz:Int) (ex:Int) fam F).toArray 144)) bv;rw[World.size_alloc] at m0;clear bv;obtain⟨x0,x1,x2,x3,x4,x5,x6,x7,x8⟩:=l0.cs9;obtain⟨u0,u1,u2,u3⟩:=m0.cs4
 go_enter Tryz.func99,Tryz.ntmps99
 go_wp2_with fail
 refine(HN'.out _ b0).mono ?_;rintro z w1 ⟨s1,rfl,own1,b1⟩;obtain⟨so,sc,hs1⟩:=own1.rd.shape;subst hs1;simp only;have bq:=below_alloc w1 (.cells (yDL r so sc).toArray 82);have l1:=(l0.later b1).later bq;have q1:=locE_new w1 (yDL r so sc) 82;have r1:=own1.rd.later bq;have b01:=below_trans (below_trans b0 b1) bq;clear own1 b1 bq l0 m0 x0 x1 x2 x3 x4 x5 x6 x7 x8 u0 u1 u2 u3;obtain⟨x0,x1,x2,x3,x4,x5,x6,x7,x8⟩:=l1.cs9;obtain⟨q0,qq1,q2⟩:=q1.cs3
 go_wp2_with fail
 refine(HH'.out _ _ _ b01 r1).mono ?_;rintro z w2 ⟨rfl,b2⟩;have l2:=l1.later b2;have q2:=q1.later b2;have r2:=r1.later b2;have b02:=below_trans b01 b2;clear l1 q1 r1 b01 b2 x0 x1 x2 x3 x4 x5 x6 x7 x8 q0 qq1;obtain⟨x0,x1,x2,x3,x4,x5,x6,x7,x8⟩:=l2.cs9;obtain⟨qq0,qq1,qq2⟩:=q2.cs3
 go_wp2_with fail
 refine(HE'.out _ _ _ b02 r2).mono ?_;rintro z w3 ⟨rfl,b3⟩
 go_wp2
 go_ret2
 exact⟨rfl,below_trans b02 b3⟩
end Go.Proofs.YtnhackdjplppjaaGreatDoor
namespace Go.Proofs.YtnhackdjplppjaaGreatDoor
open Go.RowKit
set_option maxHeartbeats 3200000 in
theorem enc_none (n:Int) (c p:Int) (ng:Bool) (ao:Option Addr) (dn dc:Nat) (w:World)
  (HL: ∀w1,Calls Tryz.prog 97 #[yi n] w1 fun z w'=>z= .returned (.tuple #[yzV 0 0 0 0 false 0 0 0,yi 6])∧Below w1.heap.size w1 w'):
  Calls Tryz.prog 44 #[yi n,yvV c ng (.slice ao dn dc) p] w fun z w'=>z= .returned (.tuple #[.string ⟨#[]⟩,yi 6])∧Below w.heap.size w w':=by
 have hsf:=hsf_z;have hsn:=hsn_z;have m0:=locE_new w (yvL c ng (.slice ao dn dc) p) 73;have b0:=below_alloc w (.cells (yvL c ng (.slice ao dn dc) p).toArray 73);have HL':Hid _:=HL;clear HL
 go_enter Tryz.func44,Tryz.ntmps44
 go_wp2_with fail
 refine(HL'.out _).mono ?_;rintro z w1 ⟨rfl,b1⟩;have bq:=below_alloc w1 (.cells (yzL 0 0 0 0 false 0 0 0).toArray 144);have m1:=(m0.later b1).later bq;have q1:=locE_new w1 (yzL 0 0 0 0 false 0 0 0) 144;have b01:=below_trans (below_trans b0 b1) bq;obtain⟨u0,u1,u2,u3⟩:=m1.cs4;obtain⟨s0,s1,s2,s3,s4,s5,s6,s7,s8⟩:=q1.cs9;clear m0 b0 b1 bq HL'
 go_wp2
 go_ret2
 exact⟨rfl,b01⟩
set_option maxHeartbeats 3200000 in
theorem enc_low (n:Int) (R D L G fam:Int) (gr:Bool) (sz ex:Nat) (F:Nat) (c p:Int) (ng:Bool) (ao:Option Addr) (dn dc:Nat) (w:World)
  (HL: ∀w1,Calls Tryz.prog 97 #[yi n] w1 fun z w'=>z= .returned (.tuple #[ylV R D L G gr (sz:Int) (ex:Int) fam F,yi 0])∧Below w1.heap.size w1 w') (hc:c<1):
  Calls Tryz.prog 44 #[yi n,yvV c ng (.slice ao dn dc) p] w fun z w'=>z= .returned (.tuple #[.string ⟨#[]⟩,yi 6])∧Below w.heap.size w w':=by
 have hsf:=hsf_z;have hsn:=hsn_z;have m0:=locE_new w (yvL c ng (.slice ao dn dc) p) 73;have b0:=below_alloc w (.cells (yvL c ng (.slice ao dn dc) p).toArray 73);have HL':Hid _:=HL;clear HL
 go_enter Tryz.func44,Tryz.ntmps44
 go_wp2_with fail
 refine(HL'.out _).mono ?_;rintro z w1 ⟨rfl,b1⟩;have bq:=below_alloc w1 (.cells (ylL R D L G gr (sz:Int) (ex:Int) fam F).toArray 144);have m1:=(m0.later b1).later bq;have q1:=locE_new w1 (ylL R D L G gr (sz:Int) (ex:Int) fam F) 144;have b01:=below_trans (below_trans b0 b1) bq;obtain⟨u0,u1,u2,u3⟩:=m1.cs4;obtain⟨s0,s1,s2,s3,s4,s5,s6,s7,s8⟩:=q1.cs9;clear m0 b0 b1 bq HL'
 go_wp2
 go_ret2
 exact⟨rfl,b01⟩
set_option maxHeartbeats 3200000 in
theorem enc_high (n:Int) (R D L G fam:Int) (gr:Bool) (sz ex:Nat) (F:Nat) (c p:Int) (ng:Bool) (ao:Option Addr) (dn dc:Nat) (w:World)
  (HL: ∀w1,Calls Tryz.prog 97 #[yi n] w1 fun z w'=>z= .returned (.tuple #[ylV R D L G gr (sz:Int) (ex:Int) fam F,yi 0])∧Below w1.heap.size w1 w') (hc:5<c):
  Calls Tryz.prog 44 #[yi n,yvV c ng (.slice ao dn dc) p] w fun z w'=>z= .returned (.tuple #[.string ⟨#[]⟩,yi 6])∧Below w.heap.size w w':=by
 have hc1: ¬c<1:=by omega
 have hsf:=hsf_z;have hsn:=hsn_z;have m0:=locE_new w (yvL c ng (.slice ao dn dc) p) 73;have b0:=below_alloc w (.cells (yvL c ng (.slice ao dn dc) p).toArray 73);have HL':Hid _:=HL;clear HL
 go_enter Tryz.func44,Tryz.ntmps44
 go_wp2_with fail
 refine(HL'.out _).mono ?_;rintro z w1 ⟨rfl,b1⟩;have bq:=below_alloc w1 (.cells (ylL R D L G gr (sz:Int) (ex:Int) fam F).toArray 144);have m1:=(m0.later b1).later bq;have q1:=locE_new w1 (ylL R D L G gr (sz:Int) (ex:Int) fam F) 144;have b01:=below_trans (below_trans b0 b1) bq;obtain⟨u0,u1,u2,u3⟩:=m1.cs4;obtain⟨s0,s1,s2,s3,s4,s5,s6,s7,s8⟩:=q1.cs9;clear m0 b0 b1 bq HL'
 go_wp2
 go_ret2
 exact⟨rfl,b01⟩
set_option maxHeartbeats 3200000 in
theorem enc_digits (n:Int) (R D L G fam:Int) (gr:Bool) (sz ex:Nat) (F:Nat) (c p:Int) (ng:Bool) (ao:Option Addr) (dn dc:Nat) (w:World)
  (HL: ∀w1,Calls Tryz.prog 97 #[yi n] w1 fun z w'=>z= .returned (.tuple #[ylV R D L G gr (sz:Int) (ex:Int) fam F,yi 0])∧Below w1.heap.size w1 w')
  (nc:Int) (HN: ∀w1,Below w.heap.size w w1→Calls Tryz.prog 98 #[.slice ao dn dc] w1 fun z w'=>z= .returned (yi nc)∧Below w1.heap.size w1 w') (h1:1≤c) (h5:c≤5) (hn:nc≠0):
  Calls Tryz.prog 44 #[yi n,yvV c ng (.slice ao dn dc) p] w fun z w'=>z= .returned (.tuple #[.string ⟨#[]⟩,yi nc])∧Below w.heap.size w w':=by
 have HN':Hid _:=HN;clear HN;have hc1: ¬c<1:=by omega
 have hc5: ¬5<c:=by omega
 have hnb:(nc==0)=false:=by simpa using hn
 clear hn;have hsf:=hsf_z;have hsn:=hsn_z;have m0:=locE_new w (yvL c ng (.slice ao dn dc) p) 73;have b0:=below_alloc w (.cells (yvL c ng (.slice ao dn dc) p).toArray 73);have HL':Hid _:=HL;clear HL
 go_enter Tryz.func44,Tryz.ntmps44
 go_wp2_with fail
 refine(HL'.out _).mono ?_;rintro z w1 ⟨rfl,b1⟩;have bq:=below_alloc w1 (.cells (ylL R D L G gr (sz:Int) (ex:Int) fam F).toArray 144);have m1:=(m0.later b1).later bq;have q1:=locE_new w1 (ylL R D L G gr (sz:Int) (ex:Int) fam F) 144;have b01:=below_trans (below_trans b0 b1) bq;obtain⟨u0,u1,u2,u3⟩:=m1.cs4;obtain⟨s0,s1,s2,s3,s4,s5,s6,s7,s8⟩:=q1.cs9;clear m0 b0 b1 bq HL'
 go_wp2_with fail
 refine(HN'.out _ b01).mono ?_;rintro z w2 ⟨rfl,b2⟩;have m2:=m1.later b2;have q2:=q1.later b2;have b02:=below_trans b01 b2;obtain⟨v0,v1,v2,v3⟩:=m2.cs4;obtain⟨t0,t1,t2,t3,t4,t5,t6,t7,t8⟩:=q2.cs9
 go_wp2
 go_ret2
 exact⟨rfl,b02⟩
set_option maxHeartbeats 3200000 in
theorem enc_other (n:Int) (R D L G fam:Int) (gr:Bool) (sz ex:Nat) (F:Nat) (c p:Int) (ng:Bool) (ao:Option Addr) (dn dc:Nat) (w:World)
  (HL: ∀w1,Calls Tryz.prog 97 #[yi n] w1 fun z w'=>z= .returned (.tuple #[ylV R D L G gr (sz:Int) (ex:Int) fam F,yi 0])∧Below w1.heap.size w1 w')
  (nc:Int) (HN: ∀w1,Below w.heap.size w w1→Calls Tryz.prog 98 #[.slice ao dn dc] w1 fun z w'=>z= .returned (yi nc)∧Below w1.heap.size w1 w')
  (st:ByteArray) (er:Int) (HO: ∀w1,Calls Tryz.prog 100 #[ylV R D L G gr (sz:Int) (ex:Int) fam F,yvV c ng (.slice ao dn dc) p] w1 fun z w'=>z= .returned (.tuple #[.string st,yi er])∧Below w1.heap.size w1 w') (h1:1≤c) (h5:c≤5) (h2:c≠2) (hn:nc=0):
  Calls Tryz.prog 44 #[yi n,yvV c ng (.slice ao dn dc) p] w fun z w'=>z= .returned (.tuple #[.string st,yi er])∧Below w.heap.size w w':=by
 subst hn;have HN':Hid _:=HN;clear HN;have hc1: ¬c<1:=by omega
 have hc5: ¬5<c:=by omega
 have HO':Hid _:=HO;clear HO;have hcb:(c==2)=false:=by simpa using h2
 clear h2;have hsf:=hsf_z;have hsn:=hsn_z;have m0:=locE_new w (yvL c ng (.slice ao dn dc) p) 73;have b0:=below_alloc w (.cells (yvL c ng (.slice ao dn dc) p).toArray 73);have HL':Hid _:=HL;clear HL
 go_enter Tryz.func44,Tryz.ntmps44
 go_wp2_with fail
 refine(HL'.out _).mono ?_;rintro z w1 ⟨rfl,b1⟩;have bq:=below_alloc w1 (.cells (ylL R D L G gr (sz:Int) (ex:Int) fam F).toArray 144);have m1:=(m0.later b1).later bq;have q1:=locE_new w1 (ylL R D L G gr (sz:Int) (ex:Int) fam F) 144;have b01:=below_trans (below_trans b0 b1) bq;obtain⟨u0,u1,u2,u3⟩:=m1.cs4;obtain⟨s0,s1,s2,s3,s4,s5,s6,s7,s8⟩:=q1.cs9;clear m0 b0 b1 bq HL'
 go_wp2_with fail
 refine(HN'.out _ b01).mono ?_;rintro z w2 ⟨rfl,b2⟩;have m2:=m1.later b2;have q2:=q1.later b2;have b02:=below_trans b01 b2;obtain⟨v0,v1,v2,v3⟩:=m2.cs4;obtain⟨t0,t1,t2,t3,t4,t5,t6,t7,t8⟩:=q2.cs9
 go_wp2_with fail
 refine(HO'.out _).mono ?_;rintro z w3 ⟨rfl,b3⟩
 go_wp2
 go_ret2
 exact⟨rfl,below_trans b02 b3⟩
def encOE (n:Int) (c dn:Nat) (nc:Int) (ng:Bool) (p:Int):Int:=if famC n=0 then 6 else if nc≠0 then nc else othE n.toNat c dn ng p
def encOS (n:Int) (c dn:Nat) (nc:Int) (ng:Bool) (p:Int):ByteArray:=if famC n=0 then⟨#[]⟩ else if nc≠0 then⟨#[]⟩ else othS n.toNat c dn ng p
theorem encode_other (n:Int) (c:Nat) (hc:c=1∨c=3∨c=4∨c=5) (ng:Bool) (ao:Option Addr) (dn dc:Nat) (p nc:Int) (w:World) (HN: ∀w1,Below w.heap.size w w1→Calls Tryz.prog 98 #[.slice ao dn dc] w1 fun z w'=>z= .returned (yi nc)∧Below w1.heap.size w1 w'):
  Calls Tryz.prog 44 #[yi n,yvV (c:Int) ng (.slice ao dn dc) p] w fun z w'=>z= .returned (.tuple #[.string (encOS n c dn nc ng p),yi (encOE n c dn nc ng p)])∧Below w.heap.size w w':=by
 unfold encOS encOE
 by_cases hf:famC n=0
 ·rw[if_pos hf,if_pos hf]
  exact enc_none n _ p ng ao dn dc w (fun w1=>layoutOf_none n w1 hf)
 ·rw[if_neg hf,if_neg hf]
  obtain⟨h1,h2,h3⟩:=famC_in hf;obtain⟨k,rfl⟩: ∃k:Nat,n=(k:Int):=⟨n.toNat,h3.symm⟩;rw[Int.toNat_natCast] at h1 h2⊢;have HL:=fun w1=>layoutOf_any k ⟨h1,h2⟩ w1
  by_cases hn:nc=0
  ·rw[if_neg (by omega),if_neg (by omega)]
   have HO:=fun w1=>encodeOther_any k c ⟨h1,h2⟩ hc ng ao dn dc p w1
   generalize othS k c dn ng p=st at*;generalize othE k c dn ng p=er at*
   rcases eight ⟨h1,h2⟩ with rfl|rfl|rfl|rfl|rfl|rfl|rfl|rfl
   all_goals exact enc_other _ _ _ _ _ _ _ _ _ _ _ p ng ao dn dc w HL nc HN st er HO (by omega) (by omega) (by omega) hn
  ·rw[if_pos hn,if_pos hn]
   rcases eight ⟨h1,h2⟩ with rfl|rfl|rfl|rfl|rfl|rfl|rfl|rfl
   all_goals exact enc_digits _ _ _ _ _ _ _ _ _ _ _ p ng ao dn dc w HL nc HN (by omega) (by omega) hn
end Go.Proofs.YtnhackdjplppjaaGreatDoor
namespace Go.Proofs.YtnhackdjplppjaaGreatDoor
open Go.RowKit
set_option maxHeartbeats 3200000 in
theorem enc_number (n:Int) (R D L G fam:Int) (gr:Bool) (sz ex:Nat) (F:Nat) (p:Int) (ng:Bool) (ao:Option Addr) (dn dc:Nat) (w:World)
  (HL: ∀w1,Calls Tryz.prog 97 #[yi n] w1 fun z w'=>z= .returned (.tuple #[ylV R D L G gr (sz:Int) (ex:Int) fam F,yi 0])∧Below w1.heap.size w1 w')
  (nc:Int) (HN: ∀w1,Below w.heap.size w w1→Calls Tryz.prog 98 #[.slice ao dn dc] w1 fun z w'=>z= .returned (yi nc)∧Below w1.heap.size w1 w')
  (st:ByteArray) (er:Int) (HO: ∀w1,Below w.heap.size w w1→Calls Tryz.prog 99 #[ylV R D L G gr (sz:Int) (ex:Int) fam F,yvV 2 ng (.slice ao dn dc) p] w1 fun z w'=>z= .returned (.tuple #[.string st,yi er])∧Below w1.heap.size w1 w') (hn:nc=0):
  Calls Tryz.prog 44 #[yi n,yvV 2 ng (.slice ao dn dc) p] w fun z w'=>z= .returned (.tuple #[.string st,yi er])∧Below w.heap.size w w':=by
 subst hn;have HN':Hid _:=HN;clear HN;have HO':Hid _:=HO;clear HO;have hsf:=hsf_z;have hsn:=hsn_z;have m0:=locE_new w (yvL 2 ng (.slice ao dn dc) p) 73;have b0:=below_alloc w (.cells (yvL 2 ng (.slice ao dn dc) p).toArray 73);have HL':Hid _:=HL;clear HL
 go_enter Tryz.func44,Tryz.ntmps44
 go_wp2_with fail
 refine(HL'.out _).mono ?_;rintro z w1 ⟨rfl,b1⟩;have bq:=below_alloc w1 (.cells (ylL R D L G gr (sz:Int) (ex:Int) fam F).toArray 144);have m1:=(m0.later b1).later bq;have q1:=locE_new w1 (ylL R D L G gr (sz:Int) (ex:Int) fam F) 144;have b01:=below_trans (below_trans b0 b1) bq;obtain⟨u0,u1,u2,u3⟩:=m1.cs4;obtain⟨s0,s1,s2,s3,s4,s5,s6,s7,s8⟩:=q1.cs9;clear m0 b0 b1 bq HL'
 go_wp2_with fail
 refine(HN'.out _ b01).mono ?_;rintro z w2 ⟨rfl,b2⟩;have m2:=m1.later b2;have q2:=q1.later b2;have b02:=below_trans b01 b2;obtain⟨v0,v1,v2,v3⟩:=m2.cs4;obtain⟨t0,t1,t2,t3,t4,t5,t6,t7,t8⟩:=q2.cs9
 go_wp2_with fail
 refine(HO'.out _ b02).mono ?_;rintro z w3 ⟨rfl,b3⟩
 go_wp2
 go_ret2
 exact⟨rfl,below_trans b02 b3⟩
end Go.Proofs.YtnhackdjplppjaaGreatDoor
namespace Go.Proofs.YtnhackdjplppjaaGreatDoor
open Go.RowKit
theorem word_join (x a:Nat) (hx:x<4294967296) (ha:a<4294967296):bits .or .u64 ((x:Int)*4294967296) (a:Int)=((a+4294967296*x:Nat):Int):=by
 rw[show(x:Int)*4294967296=((4294967296*x:Nat):Int) from by omega]
 rw[u64_or_nat _ _ (by omega) (by omega),nat_join 32 _ _ (by omega) (by omega)]
 congr 1
 omega
set_option maxHeartbeats 1600000 in
theorem word_any (va:Value) (xs:List Nat) (w:World) (ha:Rd w .u32 va xs) (sa:Dg.Small 4294967296 xs) (hl:xs.length≤2):
  Calls Tryz.prog 226 #[va] w fun z w'=>z= .returned (.int .u64 ((Dg.vl 4294967296 xs:Nat):Int))∧w'=w:=by
 obtain⟨ao,ca,rfl,-,-,hca⟩:=ha
 go_enter Tryz.func226,Tryz.ntmps226
 go_wp2
 go_loop [3,4] (fun xv iv=> ∃j x:Nat,j≤xs.length∧iv=yi ((j:Int)-1)∧xv= .int .u64 (x:Int)∧Hid (x=Dg.vl 4294967296 (xs.drop j))) (fun _ iv=>(intOf iv+1).toNat)
 case atStart=>exact⟨xs.length,0,Nat.le_refl _,by go_num,rfl,by rw[List.drop_of_length_le (Nat.le_refl _)];rfl⟩
 case round=>
  obtain⟨j,x,hj,rfl,rfl,HX⟩:=hrel
  by_cases h0:0<j
  ·obtain⟨i,rfl⟩: ∃i,j=i+1:=⟨j-1,by omega⟩
   rw[show((i+1:Nat):Int)-1=(i:Int) from by omega]
   obtain⟨b,off,rfl,hcell⟩:=hca (by omega);have hc:=hcell i (by omega);have hs:=sa i;have hx:=HX.out;have hxl:x<4294967296:=by
    have h1:=Dg.vl_lt 4294967296 (xs.drop (i+1)) (fun k=>by
     rw[List.getD_eq_getElem?_getD,List.getElem?_drop,←List.getD_eq_getElem?_getD];exact sa _)
    rw[←hx,List.length_drop] at h1;have h2:(4294967296:Nat)^ (xs.length-(i+1))≤4294967296^1:=Nat.pow_le_pow_right (by omega) (by omega);omega
   have hst:Dg.vl 4294967296 (xs.drop i)=xs.getD i 0+4294967296*x:=by
    rw[hx,List.drop_eq_getElem_cons (show i<xs.length by omega),Dg.vl]
    simp[List.getD_eq_getElem?_getD,show i<xs.length by omega]
   obtain⟨a,ea⟩: ∃a,xs.getD i 0=a:=⟨_,rfl⟩;rw[ea] at hc hs hst;have hil:i<xs.length:=by omega
   have HST:Hid _:=hst;clear ea hst hx hcell hca HX
   go_wp2
   have hst:=HST.out;refine⟨⟨i,a+4294967296*x,by omega,rfl, ?_,hst.symm⟩, ?_⟩
   ·rw[word_join x a hxl hs]
   ·simp only[intOf]
    omega
  ·have hd: ¬((0:Int)≤(j:Int)-1):=by omega
   have HJ:Hid (j=0):=(by omega:j=0)
   go_wp2
   go_ret
   have h1:=HJ.out;subst h1;have:=HX.out;rw[List.drop_zero] at this;rw[←this];exact⟨rfl,rfl⟩
end Go.Proofs.YtnhackdjplppjaaGreatDoor
