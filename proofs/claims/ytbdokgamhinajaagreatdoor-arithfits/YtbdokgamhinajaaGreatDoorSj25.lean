/-
  Texts laid together: Ce5, Co22, Ce8, Ce1.
-/
import Derived.Test.YtbdokgamhinajaaGreatDoorSj09
import Derived.Test.YtbdokgamhinajaaGreatDoorSj24
set_option maxRecDepth 100000
set_option maxHeartbeats 6400000
namespace Go.Proofs.YtbdokgamhinajaaGreatDoor
open _root_.Go.Proofs.Tryz
open Go.RowKit
theorem Je (R D L G fam:Int)(gr:Bool)(sz ex:Nat)(F:Nat)(c p:Int)(ng:Bool)(ao:Option Addr)(dn dc:Nat)(r:ak×Int)(w:World)
  (HN: ∀w1,yB w w1→yC 162 #[ypV ng (.slice ao dn dc) p false false false,ygV R D L G gr] w1 (gR w1 r)):
  yC 155 #[ylV R D L G gr (sz:Int) (ex:Int) fam F,yvV c ng (.slice ao dn dc) p] w (gR w r):=by
 have hsf:=cD;have HN':Hid _:=HN;have bl:=af w (.cells (ylA R D L G gr (sz:Int) (ex:Int) fam F) 170);have bv:=af (w.alloc (.cells (ylA R D L G gr (sz:Int) (ex:Int) fam F) 170)) (.cells (yvA c ng (.slice ao dn dc) p) 100);have bd:=af ((w.alloc (.cells (ylA R D L G gr (sz:Int) (ex:Int) fam F) 170)).alloc (.cells (yvA c ng (.slice ao dn dc) p) 100)) (.cells (ydA false (.slice none 0 0) 0) 72);have d0:=ah ((w.alloc (.cells (ylA R D L G gr (sz:Int) (ex:Int) fam F) 170)).alloc (.cells (yvA c ng (.slice ao dn dc) p) 100)) (ydL false (.slice none 0 0) 0) 72;have b0:=aa (aa bl bv) bd;rw[World.size_alloc,World.size_alloc] at d0;clear HN bl bv bd
 go_enter func155,ntmps155
 go_wp2_with fail
 refine(HN'.out _ b0).mono ?_;rintro z w1 ⟨s1,rfl,own1,b1⟩;obtain⟨so,sc,hs1⟩:=own1.rd.shape;subst hs1;have d1:=d0.l b1;have b01:=aa b0 b1;have bu:=((ag w1 (w.heap.size+1+1) 0 (.bool r.1.s)).trans (ag _ (w.heap.size+1+1) 1 (.slice so (Dg.dg 4294967296 r.1.n).length sc))).trans (ag _ (w.heap.size+1+1) 2 (yi r.1.e));have cR:au (((w1.setCell ⟨w.heap.size+1+1,0,none⟩ (.bool r.1.s)).setCell ⟨w.heap.size+1+1,1,none⟩ (.slice so (Dg.dg 4294967296 r.1.n).length sc)).setCell ⟨w.heap.size+1+1,2,none⟩ (yi r.1.e)) (w.heap.size+1+1) 72 (ydL r.1.s (.slice so (Dg.dg 4294967296 r.1.n).length sc) r.1.e):=(((d1.set 0 (.bool r.1.s)).set 1 (.slice so (Dg.dg 4294967296 r.1.n).length sc)).set 2 (yi r.1.e));have oR:=(bu.own own1 d1 (by decide)).lower b0.size;have bR:=bu.below b01 (by omega);have hl:=run_loadVar_mid (P:=Tryz.prog) _ (w.heap.size+1+1) 0 72 (ydL r.1.s (.slice so (Dg.dg 4294967296 r.1.n).length sc) r.1.e) _ cR.range underlying72 rfl (by kernel_rfl);have HH:Hid (_∧_∧_):=⟨hl,oR,bR⟩;obtain⟨x0,x1,x2⟩:=d1.cs3;have j0:=d1.f 0;have j1:=d1.f 1;have j2:=d1.f 2;clear hl oR bR cR bu d1 d0 b01 b1 own1 b0
 go_wp2
 obtain⟨hl,oR,bR⟩:=HH.out;exact bodyPost_ret (aj results155 rfl rfl hl) rfl ⟨_,rfl,oR,bR⟩
theorem Q7 (R D L G fam:Int)(gr:Bool)(sz ex:Nat)(F:Nat)(c p:Int)(ng:Bool)(ao:Option Addr)(dn dc:Nat)(w:World)(hp:p< -20000):
  yC 133 #[ylV R D L G gr (sz:Int) (ex:Int) fam F,yvV c ng (.slice ao dn dc) p] w (yR w (.tuple #[.string ⟨#[]⟩,yi 3])):=by
 have hsf:=cD;have bv:=af (w.alloc (.cells (ylA R D L G gr (sz:Int) (ex:Int) fam F) 170)) (.cells (yvA c ng (.slice ao dn dc) p) 100);have l0:=(ah w (ylL R D L G gr (sz:Int) (ex:Int) fam F) 170).l bv;have m0:=ah (w.alloc (.cells (ylA R D L G gr (sz:Int) (ex:Int) fam F) 170)) (yvL c ng (.slice ao dn dc) p) 100;have b0:=aa (af w (.cells (ylA R D L G gr (sz:Int) (ex:Int) fam F) 170)) bv;rw[World.size_alloc] at m0;clear bv;obtain⟨x0,x1,x2,x3,x4,x5,x6,x7,x8⟩:=l0.cs9;obtain⟨u0,u1,u2,u3⟩:=m0.cs4
 go_enter func133,ntmps133
 go_wp2
 go_ret2
 exact⟨rfl,b0⟩
theorem NN (R D L G fam:Int)(gr:Bool)(sz ex:Nat)(F:Nat)(c p:Int)(ng:Bool)(ao:Option Addr)(dn dc:Nat)(w:World)(hp:20000<p):
  yC 133 #[ylV R D L G gr (sz:Int) (ex:Int) fam F,yvV c ng (.slice ao dn dc) p] w (yR w (.tuple #[.string ⟨#[]⟩,yi 3])):=by
 have hp1: ¬p< -20000:=by omega
 have hsf:=cD;have bv:=af (w.alloc (.cells (ylA R D L G gr (sz:Int) (ex:Int) fam F) 170)) (.cells (yvA c ng (.slice ao dn dc) p) 100);have l0:=(ah w (ylL R D L G gr (sz:Int) (ex:Int) fam F) 170).l bv;have m0:=ah (w.alloc (.cells (ylA R D L G gr (sz:Int) (ex:Int) fam F) 170)) (yvL c ng (.slice ao dn dc) p) 100;have b0:=aa (af w (.cells (ylA R D L G gr (sz:Int) (ex:Int) fam F) 170)) bv;rw[World.size_alloc] at m0;clear bv;obtain⟨x0,x1,x2,x3,x4,x5,x6,x7,x8⟩:=l0.cs9;obtain⟨u0,u1,u2,u3⟩:=m0.cs4
 go_enter func133,ntmps133
 go_wp2
 go_ret2
 exact⟨rfl,b0⟩
theorem KO (R D L G fam:Int)(gr:Bool)(sz ex:Nat)(F:Nat)(c p:Int)(ng:Bool)(ao:Option Addr)(dn dc:Nat)(w:World)(hpa: -20000≤p)(hpb:p≤20000)(hd:dn=0):
  yC 133 #[ylV R D L G gr (sz:Int) (ex:Int) fam F,yvV c ng (.slice ao dn dc) p] w (yR w (.tuple #[.string ⟨#[]⟩,yi 4])):=by
 subst hd;have hp1: ¬p< -20000:=by omega
 have hp2: ¬20000<p:=by omega
 have hsf:=cD;have bv:=af (w.alloc (.cells (ylA R D L G gr (sz:Int) (ex:Int) fam F) 170)) (.cells (yvA c ng (.slice ao 0 dc) p) 100);have l0:=(ah w (ylL R D L G gr (sz:Int) (ex:Int) fam F) 170).l bv;have m0:=ah (w.alloc (.cells (ylA R D L G gr (sz:Int) (ex:Int) fam F) 170)) (yvL c ng (.slice ao 0 dc) p) 100;have b0:=aa (af w (.cells (ylA R D L G gr (sz:Int) (ex:Int) fam F) 170)) bv;rw[World.size_alloc] at m0;clear bv;obtain⟨x0,x1,x2,x3,x4,x5,x6,x7,x8⟩:=l0.cs9;obtain⟨u0,u1,u2,u3⟩:=m0.cs4
 go_enter func133,ntmps133
 go_wp2
 go_ret2
 exact⟨rfl,b0⟩
theorem Q8 (R D L G fam:Int)(gr:Bool)(sz ex:Nat)(F:Nat)(c p:Int)(ng:Bool)(ao:Option Addr)(dn dc:Nat)(w:World)
  (r:ak) (er:Int) (HN: ∀w1,yB w w1→yC 155 #[ylV R D L G gr (sz:Int) (ex:Int) fam F,yvV c ng (.slice ao dn dc) p] w1 (gR w1 (r,er))) (hpa: -20000≤p) (hpb:p≤20000) (hd:0<dn) (he:er≠0):
  yC 133 #[ylV R D L G gr (sz:Int) (ex:Int) fam F,yvV c ng (.slice ao dn dc) p] w (yR w (.tuple #[.string ⟨#[]⟩,yi 4])):=by
 have hp1: ¬p< -20000:=by omega
 have hp2: ¬20000<p:=by omega
 have HN':Hid _:=HN;have hdI:((dn:Int)==0)=false:=by simp;omega
 clear HN;have heb:(er==0)=false:=by simpa using he
 have hsf:=cD;have bv:=af (w.alloc (.cells (ylA R D L G gr (sz:Int) (ex:Int) fam F) 170)) (.cells (yvA c ng (.slice ao dn dc) p) 100);have l0:=(ah w (ylL R D L G gr (sz:Int) (ex:Int) fam F) 170).l bv;have m0:=ah (w.alloc (.cells (ylA R D L G gr (sz:Int) (ex:Int) fam F) 170)) (yvL c ng (.slice ao dn dc) p) 100;have b0:=aa (af w (.cells (ylA R D L G gr (sz:Int) (ex:Int) fam F) 170)) bv;rw[World.size_alloc] at m0;clear bv;obtain⟨x0,x1,x2,x3,x4,x5,x6,x7,x8⟩:=l0.cs9;obtain⟨u0,u1,u2,u3⟩:=m0.cs4
 go_enter func133,ntmps133
 go_wp2_with fail
 refine(HN'.out _ b0).mono ?_;rintro z w1 ⟨s1,rfl,own1,b1⟩;obtain⟨so,sc,hs1⟩:=own1.rd.shape;subst hs1;simp only;have bq:=af w1 (.cells (yDA r so sc) 72);have l1:=(l0.l b1).l bq;have q1:=ah w1 (yDL r so sc) 72;have r1:=own1.rd.l bq;have b01:=aa (aa b0 b1) bq;clear own1 b1 bq l0 m0 x0 x1 x2 x3 x4 x5 x6 x7 x8 u0 u1 u2 u3;obtain⟨x0,x1,x2,x3,x4,x5,x6,x7,x8⟩:=l1.cs9;obtain⟨q0,qq1,q2⟩:=q1.cs3
 go_wp2
 go_ret2
 exact⟨rfl,b01⟩
theorem NO (R D L G fam:Int)(gr:Bool)(sz ex:Nat)(F:Nat)(c p:Int)(ng:Bool)(ao:Option Addr)(dn dc:Nat)(w:World)
  (r:ak) (er:Int) (HN: ∀w1,yB w w1→yC 155 #[ylV R D L G gr (sz:Int) (ex:Int) fam F,yvV c ng (.slice ao dn dc) p] w1 (gR w1 (r,er)))
  (hq:Bool) (he2:Int) (HH: ∀so sc w1,yB w w1→Rd w1 .u32 (.slice so (Dg.dg 4294967296 r.n).length sc) (Dg.dg 4294967296 r.n)→yC 156 #[yDV r so sc,ygV R D L G gr] w1 (yR w1 (.tuple #[.bool hq,yi he2]))) (hpa: -20000≤p) (hpb:p≤20000) (hd:0<dn) (he:er=0) (h2:he2=0) (hqf:hq=false):
  yC 133 #[ylV R D L G gr (sz:Int) (ex:Int) fam F,yvV c ng (.slice ao dn dc) p] w (yR w (.tuple #[.string ⟨#[]⟩,yi 4])):=by
 subst he h2 hqf;have hp1: ¬p< -20000:=by omega
 have hp2: ¬20000<p:=by omega
 have HN':Hid _:=HN;have hdI:((dn:Int)==0)=false:=by simp;omega
 clear HN;have HH':Hid _:=HH;clear HH;have hsf:=cD;have bv:=af (w.alloc (.cells (ylA R D L G gr (sz:Int) (ex:Int) fam F) 170)) (.cells (yvA c ng (.slice ao dn dc) p) 100);have l0:=(ah w (ylL R D L G gr (sz:Int) (ex:Int) fam F) 170).l bv;have m0:=ah (w.alloc (.cells (ylA R D L G gr (sz:Int) (ex:Int) fam F) 170)) (yvL c ng (.slice ao dn dc) p) 100;have b0:=aa (af w (.cells (ylA R D L G gr (sz:Int) (ex:Int) fam F) 170)) bv;rw[World.size_alloc] at m0;clear bv;obtain⟨x0,x1,x2,x3,x4,x5,x6,x7,x8⟩:=l0.cs9;obtain⟨u0,u1,u2,u3⟩:=m0.cs4
 go_enter func133,ntmps133
 go_wp2_with fail
 refine(HN'.out _ b0).mono ?_;rintro z w1 ⟨s1,rfl,own1,b1⟩;obtain⟨so,sc,hs1⟩:=own1.rd.shape;subst hs1;simp only;have bq:=af w1 (.cells (yDA r so sc) 72);have l1:=(l0.l b1).l bq;have q1:=ah w1 (yDL r so sc) 72;have r1:=own1.rd.l bq;have b01:=aa (aa b0 b1) bq;clear own1 b1 bq l0 m0 x0 x1 x2 x3 x4 x5 x6 x7 x8 u0 u1 u2 u3;obtain⟨x0,x1,x2,x3,x4,x5,x6,x7,x8⟩:=l1.cs9;obtain⟨q0,qq1,q2⟩:=q1.cs3
 go_wp2_with fail
 refine(HH'.out _ _ _ b01 r1).mono ?_;rintro z w2 ⟨rfl,b2⟩;have l2:=l1.l b2;have q2:=q1.l b2;have r2:=r1.l b2;have b02:=aa b01 b2;clear l1 q1 r1 b01 b2 x0 x1 x2 x3 x4 x5 x6 x7 x8 q0 qq1;obtain⟨x0,x1,x2,x3,x4,x5,x6,x7,x8⟩:=l2.cs9;obtain⟨qq0,qq1,qq2⟩:=q2.cs3
 go_wp2
 go_ret2
 exact⟨rfl,b02⟩
theorem NP (R D L G fam:Int)(gr:Bool)(sz ex:Nat)(F:Nat)(c p:Int)(ng:Bool)(ao:Option Addr)(dn dc:Nat)(w:World)
  (r:ak) (er:Int) (HN: ∀w1,yB w w1→yC 155 #[ylV R D L G gr (sz:Int) (ex:Int) fam F,yvV c ng (.slice ao dn dc) p] w1 (gR w1 (r,er)))
  (hq:Bool) (he2:Int) (HH: ∀so sc w1,yB w w1→Rd w1 .u32 (.slice so (Dg.dg 4294967296 r.n).length sc) (Dg.dg 4294967296 r.n)→yC 156 #[yDV r so sc,ygV R D L G gr] w1 (yR w1 (.tuple #[.bool hq,yi he2])))
  (st:ByteArray) (es:Int) (HE: ∀so sc w1,yB w w1→Rd w1 .u32 (.slice so (Dg.dg 4294967296 r.n).length sc) (Dg.dg 4294967296 r.n)→yC 157 #[ylV R D L G gr (sz:Int) (ex:Int) fam F,yDV r so sc] w1 (yR w1 (.tuple #[.string st,yi es]))) (hpa: -20000≤p) (hpb:p≤20000) (hd:0<dn) (he:er=0) (h2:he2=0) (hqt:hq=true):
  yC 133 #[ylV R D L G gr (sz:Int) (ex:Int) fam F,yvV c ng (.slice ao dn dc) p] w (yR w (.tuple #[.string st,yi es])):=by
 subst he h2 hqt;have hp1: ¬p< -20000:=by omega
 have hp2: ¬20000<p:=by omega
 have HN':Hid _:=HN;have hdI:((dn:Int)==0)=false:=by simp;omega
 clear HN;have HH':Hid _:=HH;clear HH;have HE':Hid _:=HE;clear HE;have hsf:=cD;have bv:=af (w.alloc (.cells (ylA R D L G gr (sz:Int) (ex:Int) fam F) 170)) (.cells (yvA c ng (.slice ao dn dc) p) 100);have l0:=(ah w (ylL R D L G gr (sz:Int) (ex:Int) fam F) 170).l bv;have m0:=ah (w.alloc (.cells (ylA R D L G gr (sz:Int) (ex:Int) fam F) 170)) (yvL c ng (.slice ao dn dc) p) 100;have b0:=aa (af w (.cells (ylA R D L G gr (sz:Int) (ex:Int) fam F) 170)) bv;rw[World.size_alloc] at m0;clear bv;obtain⟨x0,x1,x2,x3,x4,x5,x6,x7,x8⟩:=l0.cs9;obtain⟨u0,u1,u2,u3⟩:=m0.cs4
 go_enter func133,ntmps133
 go_wp2_with fail
 refine(HN'.out _ b0).mono ?_;rintro z w1 ⟨s1,rfl,own1,b1⟩;obtain⟨so,sc,hs1⟩:=own1.rd.shape;subst hs1;simp only;have bq:=af w1 (.cells (yDA r so sc) 72);have l1:=(l0.l b1).l bq;have q1:=ah w1 (yDL r so sc) 72;have r1:=own1.rd.l bq;have b01:=aa (aa b0 b1) bq;clear own1 b1 bq l0 m0 x0 x1 x2 x3 x4 x5 x6 x7 x8 u0 u1 u2 u3;obtain⟨x0,x1,x2,x3,x4,x5,x6,x7,x8⟩:=l1.cs9;obtain⟨q0,qq1,q2⟩:=q1.cs3
 go_wp2_with fail
 refine(HH'.out _ _ _ b01 r1).mono ?_;rintro z w2 ⟨rfl,b2⟩;have l2:=l1.l b2;have q2:=q1.l b2;have r2:=r1.l b2;have b02:=aa b01 b2;clear l1 q1 r1 b01 b2 x0 x1 x2 x3 x4 x5 x6 x7 x8 q0 qq1;obtain⟨x0,x1,x2,x3,x4,x5,x6,x7,x8⟩:=l2.cs9;obtain⟨qq0,qq1,qq2⟩:=q2.cs3
 go_wp2_with fail
 refine(HE'.out _ _ _ b02 r2).mono ?_;rintro z w3 ⟨rfl,b3⟩
 go_wp2
 go_ret2
 exact⟨rfl,aa b02 b3⟩
theorem LX (n:Int)(c p:Int)(ng:Bool)(ao:Option Addr)(dn dc:Nat)(w:World)
  (HL:yJ 117 #[yi n] (.tuple #[yzV 0 0 0 0 false 0 0 0,yi 6])):
  yC 88 #[yi n,yvV c ng (.slice ao dn dc) p] w (yR w (.tuple #[.string ⟨#[]⟩,yi 6])):=by
 have hsf:=cD;have hsn:=gn;have m0:=ah w (yvL c ng (.slice ao dn dc) p) 100;have b0:=af w (.cells (yvA c ng (.slice ao dn dc) p) 100);have HL':Hid _:=HL;clear HL
 go_enter func88,ntmps88
 go_wp2_with fail
 refine(HL'.out _).mono ?_;rintro z w1 ⟨rfl,b1⟩;have bq:=af w1 (.cells (yzA 0 0 0 0 false 0 0 0) 170);have m1:=(m0.l b1).l bq;have q1:=ah w1 (yzL 0 0 0 0 false 0 0 0) 170;have b01:=aa (aa b0 b1) bq;obtain⟨u0,u1,u2,u3⟩:=m1.cs4;obtain⟨s0,s1,s2,s3,s4,s5,s6,s7,s8⟩:=q1.cs9;clear m0 b0 b1 bq HL'
 go_wp2
 go_ret2
 exact⟨rfl,b01⟩
theorem aaS (n:Int)(R D L G fam:Int)(gr:Bool)(sz ex:Nat)(F:Nat)(c p:Int)(ng:Bool)(ao:Option Addr)(dn dc:Nat)(w:World)
  (HL:yJ 117 #[yi n] (.tuple #[ylV R D L G gr (sz:Int) (ex:Int) fam F,yi 0])) (hc:c<1):
  yC 88 #[yi n,yvV c ng (.slice ao dn dc) p] w (yR w (.tuple #[.string ⟨#[]⟩,yi 6])):=by
 have hsf:=cD;have hsn:=gn;have m0:=ah w (yvL c ng (.slice ao dn dc) p) 100;have b0:=af w (.cells (yvA c ng (.slice ao dn dc) p) 100);have HL':Hid _:=HL;clear HL
 go_enter func88,ntmps88
 go_wp2_with fail
 refine(HL'.out _).mono ?_;rintro z w1 ⟨rfl,b1⟩;have bq:=af w1 (.cells (ylA R D L G gr (sz:Int) (ex:Int) fam F) 170);have m1:=(m0.l b1).l bq;have q1:=ah w1 (ylL R D L G gr (sz:Int) (ex:Int) fam F) 170;have b01:=aa (aa b0 b1) bq;obtain⟨u0,u1,u2,u3⟩:=m1.cs4;obtain⟨s0,s1,s2,s3,s4,s5,s6,s7,s8⟩:=q1.cs9;clear m0 b0 b1 bq HL'
 go_wp2
 go_ret2
 exact⟨rfl,b01⟩
theorem Xj (n:Int)(R D L G fam:Int)(gr:Bool)(sz ex:Nat)(F:Nat)(c p:Int)(ng:Bool)(ao:Option Addr)(dn dc:Nat)(w:World)
  (HL:yJ 117 #[yi n] (.tuple #[ylV R D L G gr (sz:Int) (ex:Int) fam F,yi 0])) (hc:5<c):
  yC 88 #[yi n,yvV c ng (.slice ao dn dc) p] w (yR w (.tuple #[.string ⟨#[]⟩,yi 6])):=by
 have hc1: ¬c<1:=by omega
 have hsf:=cD;have hsn:=gn;have m0:=ah w (yvL c ng (.slice ao dn dc) p) 100;have b0:=af w (.cells (yvA c ng (.slice ao dn dc) p) 100);have HL':Hid _:=HL;clear HL
 go_enter func88,ntmps88
 go_wp2_with fail
 refine(HL'.out _).mono ?_;rintro z w1 ⟨rfl,b1⟩;have bq:=af w1 (.cells (ylA R D L G gr (sz:Int) (ex:Int) fam F) 170);have m1:=(m0.l b1).l bq;have q1:=ah w1 (ylL R D L G gr (sz:Int) (ex:Int) fam F) 170;have b01:=aa (aa b0 b1) bq;obtain⟨u0,u1,u2,u3⟩:=m1.cs4;obtain⟨s0,s1,s2,s3,s4,s5,s6,s7,s8⟩:=q1.cs9;clear m0 b0 b1 bq HL'
 go_wp2
 go_ret2
 exact⟨rfl,b01⟩
theorem EF (n:Int)(R D L G fam:Int)(gr:Bool)(sz ex:Nat)(F:Nat)(c p:Int)(ng:Bool)(ao:Option Addr)(dn dc:Nat)(w:World)
  (HL:yJ 117 #[yi n] (.tuple #[ylV R D L G gr (sz:Int) (ex:Int) fam F,yi 0]))
  (nc:Int) (HN:yH w 118 #[.slice ao dn dc] (yi nc)) (h1:1≤c) (h5:c≤5) (hn:nc≠0):
  yC 88 #[yi n,yvV c ng (.slice ao dn dc) p] w (yR w (.tuple #[.string ⟨#[]⟩,yi nc])):=by
 have HN':Hid _:=HN;clear HN;have hc1: ¬c<1:=by omega
 have hc5: ¬5<c:=by omega
 have hnb:(nc==0)=false:=by simpa using hn
 clear hn;have hsf:=cD;have hsn:=gn;have m0:=ah w (yvL c ng (.slice ao dn dc) p) 100;have b0:=af w (.cells (yvA c ng (.slice ao dn dc) p) 100);have HL':Hid _:=HL;clear HL
 go_enter func88,ntmps88
 go_wp2_with fail
 refine(HL'.out _).mono ?_;rintro z w1 ⟨rfl,b1⟩;have bq:=af w1 (.cells (ylA R D L G gr (sz:Int) (ex:Int) fam F) 170);have m1:=(m0.l b1).l bq;have q1:=ah w1 (ylL R D L G gr (sz:Int) (ex:Int) fam F) 170;have b01:=aa (aa b0 b1) bq;obtain⟨u0,u1,u2,u3⟩:=m1.cs4;obtain⟨s0,s1,s2,s3,s4,s5,s6,s7,s8⟩:=q1.cs9;clear m0 b0 b1 bq HL'
 go_wp2_with fail
 refine(HN'.out _ b01).mono ?_;rintro z w2 ⟨rfl,b2⟩;have m2:=m1.l b2;have q2:=q1.l b2;have b02:=aa b01 b2;obtain⟨v0,v1,v2,v3⟩:=m2.cs4;obtain⟨t0,t1,t2,t3,t4,t5,t6,t7,t8⟩:=q2.cs9
 go_wp2
 go_ret2
 exact⟨rfl,b02⟩
theorem Ip (n:Int)(R D L G fam:Int)(gr:Bool)(sz ex:Nat)(F:Nat)(c p:Int)(ng:Bool)(ao:Option Addr)(dn dc:Nat)(w:World)
  (HL:yJ 117 #[yi n] (.tuple #[ylV R D L G gr (sz:Int) (ex:Int) fam F,yi 0]))
  (nc:Int) (HN:yH w 118 #[.slice ao dn dc] (yi nc))
  (st:ByteArray) (er:Int) (HO:yJ 134 #[ylV R D L G gr (sz:Int) (ex:Int) fam F,yvV c ng (.slice ao dn dc) p] (.tuple #[.string st,yi er])) (h1:1≤c) (h5:c≤5) (h2:c≠2) (hn:nc=0):
  yC 88 #[yi n,yvV c ng (.slice ao dn dc) p] w (yR w (.tuple #[.string st,yi er])):=by
 subst hn;have HN':Hid _:=HN;clear HN;have hc1: ¬c<1:=by omega
 have hc5: ¬5<c:=by omega
 have HO':Hid _:=HO;clear HO;have hcb:(c==2)=false:=by simpa using h2
 clear h2;have hsf:=cD;have hsn:=gn;have m0:=ah w (yvL c ng (.slice ao dn dc) p) 100;have b0:=af w (.cells (yvA c ng (.slice ao dn dc) p) 100);have HL':Hid _:=HL;clear HL
 go_enter func88,ntmps88
 go_wp2_with fail
 refine(HL'.out _).mono ?_;rintro z w1 ⟨rfl,b1⟩;have bq:=af w1 (.cells (ylA R D L G gr (sz:Int) (ex:Int) fam F) 170);have m1:=(m0.l b1).l bq;have q1:=ah w1 (ylL R D L G gr (sz:Int) (ex:Int) fam F) 170;have b01:=aa (aa b0 b1) bq;obtain⟨u0,u1,u2,u3⟩:=m1.cs4;obtain⟨s0,s1,s2,s3,s4,s5,s6,s7,s8⟩:=q1.cs9;clear m0 b0 b1 bq HL'
 go_wp2_with fail
 refine(HN'.out _ b01).mono ?_;rintro z w2 ⟨rfl,b2⟩;have m2:=m1.l b2;have q2:=q1.l b2;have b02:=aa b01 b2;obtain⟨v0,v1,v2,v3⟩:=m2.cs4;obtain⟨t0,t1,t2,t3,t4,t5,t6,t7,t8⟩:=q2.cs9
 go_wp2_with fail
 refine(HO'.out _).mono ?_;rintro z w3 ⟨rfl,b3⟩
 go_wp2
 go_ret2
 exact⟨rfl,aa b02 b3⟩
theorem QD (n:Int)(R D L G fam:Int)(gr:Bool)(sz ex:Nat)(F:Nat)(p:Int)(ng:Bool)(ao:Option Addr)(dn dc:Nat)(w:World)
  (HL:yJ 117 #[yi n] (.tuple #[ylV R D L G gr (sz:Int) (ex:Int) fam F,yi 0]))
  (nc:Int) (HN:yH w 118 #[.slice ao dn dc] (yi nc))
  (st:ByteArray) (er:Int) (HO:yH w 133 #[ylV R D L G gr (sz:Int) (ex:Int) fam F,yvV 2 ng (.slice ao dn dc) p] (.tuple #[.string st,yi er])) (hn:nc=0):
  yC 88 #[yi n,yvV 2 ng (.slice ao dn dc) p] w (yR w (.tuple #[.string st,yi er])):=by
 subst hn;have HN':Hid _:=HN;clear HN;have HO':Hid _:=HO;clear HO;have hsf:=cD;have hsn:=gn;have m0:=ah w (yvL 2 ng (.slice ao dn dc) p) 100;have b0:=af w (.cells (yvA 2 ng (.slice ao dn dc) p) 100);have HL':Hid _:=HL;clear HL
 go_enter func88,ntmps88
 go_wp2_with fail
 refine(HL'.out _).mono ?_;rintro z w1 ⟨rfl,b1⟩;have bq:=af w1 (.cells (ylA R D L G gr (sz:Int) (ex:Int) fam F) 170);have m1:=(m0.l b1).l bq;have q1:=ah w1 (ylL R D L G gr (sz:Int) (ex:Int) fam F) 170;have b01:=aa (aa b0 b1) bq;obtain⟨u0,u1,u2,u3⟩:=m1.cs4;obtain⟨s0,s1,s2,s3,s4,s5,s6,s7,s8⟩:=q1.cs9;clear m0 b0 b1 bq HL'
 go_wp2_with fail
 refine(HN'.out _ b01).mono ?_;rintro z w2 ⟨rfl,b2⟩;have m2:=m1.l b2;have q2:=q1.l b2;have b02:=aa b01 b2;obtain⟨v0,v1,v2,v3⟩:=m2.cs4;obtain⟨t0,t1,t2,t3,t4,t5,t6,t7,t8⟩:=q2.cs9
 go_wp2_with fail
 refine(HO'.out _ b02).mono ?_;rintro z w3 ⟨rfl,b3⟩
 go_wp2
 go_ret2
 exact⟨rfl,aa b02 b3⟩
theorem TZ (x a:Nat)(hx:x<4294967296)(ha:a<4294967296):bits .or .u64 ((x:Int)*4294967296) (a:Int)=((a+4294967296*x:Nat):Int):=by
 rw[show(x:Int)*4294967296=((4294967296*x:Nat):Int) from by omega]
 rw[u64_or_nat _ _ (by omega) (by omega),nat_join 32 _ _ (by omega) (by omega)]
 congr 1
 omega
theorem XF (va:Value)(xs:List Nat)(w:World)(ha:Rd w .u32 va xs)(sa:Dg.Small 4294967296 xs)(hl:xs.length≤2):
  yC 199 #[va] w fun z w'=>z= .returned (.int .u64 ((Dg.vl 4294967296 xs:Nat):Int))∧w'=w:=by
 obtain⟨ao,ca,rfl,-,-,hca⟩:=ha
 go_enter func199,ntmps199
 go_wp2
 go_loop [3,4] (fun xv iv=> ∃j x:Nat,j≤xs.length∧iv=yi ((j:Int)-1)∧xv= .int .u64 (x:Int)∧Hid (x=Dg.vl 4294967296 (xs.drop j))) (fun _ iv=>(intOf iv+1).toNat)
 case atStart=>exact⟨xs.length,0,Nat.le_refl _,by go_num,rfl,by rw[List.drop_of_length_le (Nat.le_refl _)];rfl⟩
 case round=>
  obtain⟨j,x,hj,rfl,rfl,HX⟩:=hrel
  by_cases h0:0<j
  ·obtain⟨i,rfl⟩: ∃i,j=i+1:=⟨j-1,by omega⟩
   rw[show((i+1:Nat):Int)-1=(i:Int) from by omega]
   obtain⟨b,off,rfl,hcell⟩:=hca (by omega);have hc:=hcell i (by omega);have hs:=sa i;have hx:=HX.out;have hxl:x<4294967296:=by
    have h1:=Dg.vl_lt 4294967296 (xs.drop (i+1)) (fun k=>by
     rw[List.getD_eq_getElem?_getD,List.getElem?_drop,←List.getD_eq_getElem?_getD];exact sa _)
    rw[←hx,List.length_drop] at h1;have h2:(4294967296:Nat)^ (xs.length-(i+1))≤4294967296^1:=Nat.pow_le_pow_right (by omega) (by omega);omega
   have hst:Dg.vl 4294967296 (xs.drop i)=xs.getD i 0+4294967296*x:=by
    rw[hx,List.drop_eq_getElem_cons (show i<xs.length by omega),Dg.vl]
    simp[List.getD_eq_getElem?_getD,show i<xs.length by omega]
   obtain⟨a,ea⟩: ∃a,xs.getD i 0=a:=⟨_,rfl⟩;rw[ea] at hc hs hst;have hil:i<xs.length:=by omega
   have HST:Hid _:=hst;clear ea hst hx hcell hca HX
   go_wp2
   have hst:=HST.out;refine⟨⟨i,a+4294967296*x,by omega,rfl, ?_,hst.symm⟩, ?_⟩
   ·rw[TZ x a hxl hs]
   ·simp only[intOf]
    omega
  ·have hd: ¬((0:Int)≤(j:Int)-1):=by omega
   have HJ:Hid (j=0):=(by omega:j=0)
   go_wp2
   go_ret
   have h1:=HJ.out;subst h1;have:=HX.out;rw[List.drop_zero] at this;rw[←this];exact⟨rfl,rfl⟩
end Go.Proofs.YtbdokgamhinajaaGreatDoor
