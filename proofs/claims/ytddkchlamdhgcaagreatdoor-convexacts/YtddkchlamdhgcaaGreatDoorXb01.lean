/-
  Texts laid together: Ab3, Dr1, Gh4, Gh5, Ef2, Eg2, Ra1.
-/
import Derived.Test.YtddkchlamdhgcaaGreatDoorChecked
import Derived.Test.YtddkchlamdhgcaaGreatDoorSu45
import Derived.Test.YtddkchlamdhgcaaGreatDoorDyCs
set_option maxRecDepth 100000
set_option maxHeartbeats 6400000
namespace Go.Proofs.YtddkchlamdhgcaaGreatDoor
open _root_.Go.Proofs.Tryz
open Go.RowKit
abbrev yEL (c:Int)(g:Bool)(t:ak)(o:Option Addr)(k:Nat):List Value:=[.int .i64 c,.bool g,.bool t.s,.slice o (Dg.dg 65536 t.n).length k,.int .i64 t.e]
abbrev yEV (c:Int)(g:Bool)(t:ak)(o:Option Addr)(k:Nat):Value:= .agg #[.int .i64 c,.bool g,.bool t.s,.slice o (Dg.dg 65536 t.n).length k,.int .i64 t.e]
abbrev yEA (c:Int)(g:Bool)(t:ak)(o:Option Addr)(k:Nat):Array Value:= #[.int .i64 c,.bool g,.bool t.s,.slice o (Dg.dg 65536 t.n).length k,.int .i64 t.e]
abbrev yML (t:ak)(o:Option Addr)(k:Nat):List Value:=[.bool t.s,.slice o (Dg.dg 65536 t.n).length k,.int .i64 t.e]
abbrev yMV (t:ak)(o:Option Addr)(k:Nat):Value:= .agg #[.bool t.s,.slice o (Dg.dg 65536 t.n).length k,.int .i64 t.e]
abbrev yMA (t:ak)(o:Option Addr)(k:Nat):Array Value:= #[.bool t.s,.slice o (Dg.dg 65536 t.n).length k,.int .i64 t.e]
abbrev yXL (c:Int)(g:Bool)(t:ak)(o:Option Addr)(k:Nat)(d:Int)(h:Bool)(s:ak)(p:Option Addr)(m:Nat):List Value:=[.int .i64 c,.bool g,.bool t.s,.slice o (Dg.dg 65536 t.n).length k,.int .i64 t.e,.int .i64 d,.bool h,.bool s.s,.slice p (Dg.dg 65536 s.n).length m,.int .i64 s.e]
theorem iJ (v:Value)(t:ak)(w:World)(hv:Rv w v t)(hL:(Dg.dg 65536 t.n).length≤100000)(he1: -1000000≤t.e)(he2:t.e≤1000000):
  yC 24 #[v] w (dr w (bare t)):=
 (lA v t w hv hL he1 he2).mono fun _ _ h=>h.near
theorem Sj (R D L G:Int)(gr s:Bool)(ao:Option Addr)(la ca:Nat)(e wd bl a1 a2 k:Int)(res:Bool)(w:World)
  (hla:((la:Int)==0)=false) (_hne:(wd==0)=false) (hne2: ¬wd=0)
  (U1:IntKind.i64.wrap (wd*L)=wd*L) (U2:IntKind.i64.wrap (G+D)=G+D) (U3:IntKind.i64.wrap (wd*(G+D))=wd*(G+D)) (U4:IntKind.i64.wrap (e+bl)=e+bl) (U5:IntKind.i64.wrap (e+bl-1)=e+bl-1) (U6:IntKind.i64.wrap (e+bl-1+80000)=e+bl-1+80000)
  (Q1:(e+bl-1+80000).tdiv wd=a1) (Q2:(80000:Int).tdiv wd=a2) (U7:IntKind.i64.wrap a1=a1) (U8:IntKind.i64.wrap a2=a2) (U9:IntKind.i64.wrap (a1-a2)=a1-a2) (UA:IntKind.i64.wrap (a1-a2-D)=a1-a2-D) (UB:IntKind.i64.wrap (a1-a2-D+1)=k) (UC:IntKind.i64.wrap (wd*k)=wd*k)
  (R1:e<wd*L→res=false) (R2: ¬e<wd*L→wd*(G+D)<e+bl→res=false) (R3: ¬e<wd*L→ ¬wd*(G+D)<e+bl→k<L→gr=false→res=false) (R4: ¬e<wd*L→ ¬wd*(G+D)<e+bl→k<L→gr=true→res=true)
  (R5: ¬e<wd*L→ ¬wd*(G+D)<e+bl→ ¬k<L→ ¬e<wd*k→res=true) (R6: ¬e<wd*L→ ¬wd*(G+D)<e+bl→ ¬k<L→e<wd*k→res=false)
  (HWI:yJ 22 #[ygV R D L G gr] (yi wd))
  (HLN:yH w 35 #[.slice ao la ca] (yi bl)):
  yC 21 #[ydV s (.slice ao la ca) e,ygV R D L G gr] w (yR w (.bool res)):=by
 replace R1:Hid _:=R1;replace R2:Hid _:=R2;replace R3:Hid _:=R3;replace R4:Hid _:=R4;replace R5:Hid _:=R5;replace R6:Hid _:=R6;replace HWI:Hid _:=HWI;replace HLN:Hid _:=HLN;have b1:=aa (af w (.cells (ydA s (.slice ao la ca) e) 30)) (af _ (.cells (ygA R D L G gr) 40));have q1:=(ah w (ydL s (.slice ao la ca) e) 30).l (af _ (.cells (ygA R D L G gr) 40));have g1:=ah (w.alloc (.cells (ydA s (.slice ao la ca) e) 30)) (ygL R D L G gr) 40;simp only[World.size_alloc] at g1
 by_cases h1:e<wd*L
 ·have hr:=R1.out h1
  clear R1 R2 R3 R4 R5 R6;subst hr;obtain⟨x0,x1,x2,x3,x4⟩:=g1.cs5;obtain⟨y0,y1,y2⟩:=q1.cs3
  go_enter func21,ntmps21
  go_wp2_with fail
  refine(HWI.out _).mono ?_;rintro z w2 ⟨rfl,bb2⟩;clear x0 x1 x2 x3 x4 y0 y1 y2;have g_2:=g1.l bb2;have q_2:=q1.l bb2;have b0_2:=aa b1 bb2;clear g1 q1 b1 bb2;obtain⟨x0,x1,x2,x3,x4⟩:=g_2.cs5;have zz2:=q_2.c 2 rfl;have bd_3:yB w2 w2.drew:=(Below.refl _ _).drew;have g_d:=g_2.l bd_3;have q_d:=q_2.l bd_3;have b_d:=aa b0_2 bd_3;obtain⟨y0,y1,y2⟩:=q_d.cs3
  go_wp2_with fail
  go_region_held3 (fun wq=>wq.cell? ⟨w.heap.size,1,none⟩=some (.slice ao la ca)∧wq.cell? ⟨w.heap.size,2,none⟩=some (yi e)) (go_keep) (first
   | (go_at_call 35;have hgd:=b_d;clear hgd;refine(HLN.out _ b_d).mono ?_;rintro z wa ⟨rfl,bb_wa⟩;have b0_wa:=aa b_d bb_wa;have g_wa:=g_d.l bb_wa;have q_wa:=q_d.l bb_wa;obtain⟨ya0,ya1,ya2⟩:=q_wa.cs3;clear b_d))
  go_goals
  clear x0 x1 x2 x3 x4 y0 y1 y2 zz2 ya0 ya1 ya2;obtain⟨y0,y1,y2⟩:=q_wa.cs3
  go_wp2
  go_ret
  exact⟨rfl,b0_wa⟩
 ·have e1:decide (e<wd*L)=false:=decide_eq_false h1
  by_cases h2:wd*(G+D)<e+bl
  ·have hr:=R2.out h1 h2
   clear R1 R2 R3 R4 R5 R6;subst hr;obtain⟨x0,x1,x2,x3,x4⟩:=g1.cs5;obtain⟨y0,y1,y2⟩:=q1.cs3
   go_enter func21,ntmps21
   go_wp2_with fail
   refine(HWI.out _).mono ?_;rintro z w2 ⟨rfl,bb2⟩;clear x0 x1 x2 x3 x4 y0 y1 y2;have g_2:=g1.l bb2;have q_2:=q1.l bb2;have b0_2:=aa b1 bb2;clear g1 q1 b1 bb2;obtain⟨x0,x1,x2,x3,x4⟩:=g_2.cs5;have zz2:=q_2.c 2 rfl;have bd_3:yB w2 w2.drew:=(Below.refl _ _).drew;have g_d:=g_2.l bd_3;have q_d:=q_2.l bd_3;have b_d:=aa b0_2 bd_3;obtain⟨y0,y1,y2⟩:=q_d.cs3
   go_wp2_with fail
   go_region_held3 (fun wq=>wq.cell? ⟨w.heap.size,1,none⟩=some (.slice ao la ca)∧wq.cell? ⟨w.heap.size,2,none⟩=some (yi e)) (go_keep) (first
    | (go_at_call 35;have hgd:=b_d;clear hgd;refine(HLN.out _ b_d).mono ?_;rintro z wa ⟨rfl,bb_wa⟩;have b0_wa:=aa b_d bb_wa;have g_wa:=g_d.l bb_wa;have q_wa:=q_d.l bb_wa;obtain⟨ya0,ya1,ya2⟩:=q_wa.cs3;clear b_d))
   go_goals
   clear x0 x1 x2 x3 x4 y0 y1 y2 zz2 ya0 ya1 ya2;obtain⟨y0,y1,y2⟩:=q_wa.cs3
   go_wp2
   go_ret
   exact⟨rfl,b0_wa⟩
  ·have e2:decide (wd*(G+D)<e+bl)=false:=decide_eq_false h2
   by_cases h3:k<L
   ·cases gr
    ·have hr:=R3.out h1 h2 h3 rfl
     clear R1 R2 R3 R4 R5 R6;subst hr;obtain⟨x0,x1,x2,x3,x4⟩:=g1.cs5;obtain⟨y0,y1,y2⟩:=q1.cs3
     go_enter func21,ntmps21
     go_wp2_with fail
     refine(HWI.out _).mono ?_;rintro z w2 ⟨rfl,bb2⟩;clear x0 x1 x2 x3 x4 y0 y1 y2;have g_2:=g1.l bb2;have q_2:=q1.l bb2;have b0_2:=aa b1 bb2;clear g1 q1 b1 bb2;obtain⟨x0,x1,x2,x3,x4⟩:=g_2.cs5;have zz2:=q_2.c 2 rfl;have bd_3:yB w2 w2.drew:=(Below.refl _ _).drew;have g_d:=g_2.l bd_3;have q_d:=q_2.l bd_3;have b_d:=aa b0_2 bd_3;obtain⟨y0,y1,y2⟩:=q_d.cs3
     go_wp2_with fail
     go_region_held3 (fun wq=>wq.cell? ⟨w.heap.size,1,none⟩=some (.slice ao la ca)∧wq.cell? ⟨w.heap.size,2,none⟩=some (yi e)) (go_keep) (first
      | (go_at_call 35;have hgd:=b_d;clear hgd;refine(HLN.out _ b_d).mono ?_;rintro z wa ⟨rfl,bb_wa⟩;have b0_wa:=aa b_d bb_wa;have g_wa:=g_d.l bb_wa;have q_wa:=q_d.l bb_wa;obtain⟨ya0,ya1,ya2⟩:=q_wa.cs3;clear b_d))
     go_goals
     clear x0 x1 x2 x3 x4 y0 y1 y2 zz2 ya0 ya1 ya2;obtain⟨x0,x1,x2,x3,x4⟩:=g_wa.cs5;obtain⟨y0,y1,y2⟩:=q_wa.cs3;have xd:=(g_wa.l (Below.refl _ _).drew).c 1 rfl
     go_wp2_with fail
     go_quiet (fail)
     clear xd x0 x1 x2 x3 x4 y0 y1 y2;have g_21:=g_wa.l (aL (Below.refl _ _) nq);have q_21:=q_wa.l (aL (Below.refl _ _) nq);have b0_21:=aa b0_wa (aL (Below.refl _ _) nq);clear g_wa q_wa b0_wa;obtain⟨x0,x1,x2,x3,x4⟩:=g_21.cs5;obtain⟨y0,y1,y2⟩:=q_21.cs3
     go_wp2
     go_ret
     exact⟨rfl,b0_21⟩
    ·have hr:=R4.out h1 h2 h3 rfl
     clear R1 R2 R3 R4 R5 R6;subst hr;have e4:wd*L≤e:=by omega
     obtain⟨x0,x1,x2,x3,x4⟩:=g1.cs5;obtain⟨y0,y1,y2⟩:=q1.cs3
     go_enter func21,ntmps21
     go_wp2_with fail
     refine(HWI.out _).mono ?_;rintro z w2 ⟨rfl,bb2⟩;clear x0 x1 x2 x3 x4 y0 y1 y2;have g_2:=g1.l bb2;have q_2:=q1.l bb2;have b0_2:=aa b1 bb2;clear g1 q1 b1 bb2;obtain⟨x0,x1,x2,x3,x4⟩:=g_2.cs5;have zz2:=q_2.c 2 rfl;have bd_3:yB w2 w2.drew:=(Below.refl _ _).drew;have g_d:=g_2.l bd_3;have q_d:=q_2.l bd_3;have b_d:=aa b0_2 bd_3;obtain⟨y0,y1,y2⟩:=q_d.cs3
     go_wp2_with fail
     go_region_held3 (fun wq=>wq.cell? ⟨w.heap.size,1,none⟩=some (.slice ao la ca)∧wq.cell? ⟨w.heap.size,2,none⟩=some (yi e)) (go_keep) (first
      | (go_at_call 35;have hgd:=b_d;clear hgd;refine(HLN.out _ b_d).mono ?_;rintro z wa ⟨rfl,bb_wa⟩;have b0_wa:=aa b_d bb_wa;have g_wa:=g_d.l bb_wa;have q_wa:=q_d.l bb_wa;obtain⟨ya0,ya1,ya2⟩:=q_wa.cs3;clear b_d))
     go_goals
     clear x0 x1 x2 x3 x4 y0 y1 y2 zz2 ya0 ya1 ya2;obtain⟨x0,x1,x2,x3,x4⟩:=g_wa.cs5;obtain⟨y0,y1,y2⟩:=q_wa.cs3;have xd:=(g_wa.l (Below.refl _ _).drew).c 1 rfl
     go_wp2_with fail
     go_quiet (fail)
     clear xd x0 x1 x2 x3 x4 y0 y1 y2;have g_21:=g_wa.l (aL (Below.refl _ _) nq);have q_21:=q_wa.l (aL (Below.refl _ _) nq);have b0_21:=aa b0_wa (aL (Below.refl _ _) nq);clear g_wa q_wa b0_wa;obtain⟨x0,x1,x2,x3,x4⟩:=g_21.cs5;obtain⟨y0,y1,y2⟩:=q_21.cs3
     go_wp2
     go_ret
     exact⟨rfl,b0_21⟩
   ·have e3:decide (k<L)=false:=decide_eq_false h3
    by_cases h4:e<wd*k
    ·have hr:=R6.out h1 h2 h3 h4
     clear R1 R2 R3 R4 R5 R6;subst hr;have e5:decide (wd*k≤e)=false:=decide_eq_false (by omega);obtain⟨x0,x1,x2,x3,x4⟩:=g1.cs5;obtain⟨y0,y1,y2⟩:=q1.cs3
     go_enter func21,ntmps21
     go_wp2_with fail
     refine(HWI.out _).mono ?_;rintro z w2 ⟨rfl,bb2⟩;clear x0 x1 x2 x3 x4 y0 y1 y2;have g_2:=g1.l bb2;have q_2:=q1.l bb2;have b0_2:=aa b1 bb2;clear g1 q1 b1 bb2;obtain⟨x0,x1,x2,x3,x4⟩:=g_2.cs5;have zz2:=q_2.c 2 rfl;have bd_3:yB w2 w2.drew:=(Below.refl _ _).drew;have g_d:=g_2.l bd_3;have q_d:=q_2.l bd_3;have b_d:=aa b0_2 bd_3;obtain⟨y0,y1,y2⟩:=q_d.cs3
     go_wp2_with fail
     go_region_held3 (fun wq=>wq.cell? ⟨w.heap.size,1,none⟩=some (.slice ao la ca)∧wq.cell? ⟨w.heap.size,2,none⟩=some (yi e)) (go_keep) (first
      | (go_at_call 35;have hgd:=b_d;clear hgd;refine(HLN.out _ b_d).mono ?_;rintro z wa ⟨rfl,bb_wa⟩;have b0_wa:=aa b_d bb_wa;have g_wa:=g_d.l bb_wa;have q_wa:=q_d.l bb_wa;obtain⟨ya0,ya1,ya2⟩:=q_wa.cs3;clear b_d))
     go_goals
     clear x0 x1 x2 x3 x4 y0 y1 y2 zz2 ya0 ya1 ya2;obtain⟨x0,x1,x2,x3,x4⟩:=g_wa.cs5;obtain⟨y0,y1,y2⟩:=q_wa.cs3;have xd:=(g_wa.l (Below.refl _ _).drew).c 1 rfl
     go_wp2_with fail
     go_quiet (fail)
     clear xd x0 x1 x2 x3 x4 y0 y1 y2;have g_21:=g_wa.l (aL (Below.refl _ _) nq);have q_21:=q_wa.l (aL (Below.refl _ _) nq);have b0_21:=aa b0_wa (aL (Below.refl _ _) nq);clear g_wa q_wa b0_wa;obtain⟨x0,x1,x2,x3,x4⟩:=g_21.cs5;obtain⟨y0,y1,y2⟩:=q_21.cs3
     go_wp2
     go_ret
     exact⟨rfl,b0_21⟩
    ·have hr:=R5.out h1 h2 h3 h4
     clear R1 R2 R3 R4 R5 R6;subst hr;have e5:wd*k≤e:=by omega
     obtain⟨x0,x1,x2,x3,x4⟩:=g1.cs5;obtain⟨y0,y1,y2⟩:=q1.cs3
     go_enter func21,ntmps21
     go_wp2_with fail
     refine(HWI.out _).mono ?_;rintro z w2 ⟨rfl,bb2⟩;clear x0 x1 x2 x3 x4 y0 y1 y2;have g_2:=g1.l bb2;have q_2:=q1.l bb2;have b0_2:=aa b1 bb2;clear g1 q1 b1 bb2;obtain⟨x0,x1,x2,x3,x4⟩:=g_2.cs5;have zz2:=q_2.c 2 rfl;have bd_3:yB w2 w2.drew:=(Below.refl _ _).drew;have g_d:=g_2.l bd_3;have q_d:=q_2.l bd_3;have b_d:=aa b0_2 bd_3;obtain⟨y0,y1,y2⟩:=q_d.cs3
     go_wp2_with fail
     go_region_held3 (fun wq=>wq.cell? ⟨w.heap.size,1,none⟩=some (.slice ao la ca)∧wq.cell? ⟨w.heap.size,2,none⟩=some (yi e)) (go_keep) (first
      | (go_at_call 35;have hgd:=b_d;clear hgd;refine(HLN.out _ b_d).mono ?_;rintro z wa ⟨rfl,bb_wa⟩;have b0_wa:=aa b_d bb_wa;have g_wa:=g_d.l bb_wa;have q_wa:=q_d.l bb_wa;obtain⟨ya0,ya1,ya2⟩:=q_wa.cs3;clear b_d))
     go_goals
     clear x0 x1 x2 x3 x4 y0 y1 y2 zz2 ya0 ya1 ya2;obtain⟨x0,x1,x2,x3,x4⟩:=g_wa.cs5;obtain⟨y0,y1,y2⟩:=q_wa.cs3;have xd:=(g_wa.l (Below.refl _ _).drew).c 1 rfl
     go_wp2_with fail
     go_quiet (fail)
     clear xd x0 x1 x2 x3 x4 y0 y1 y2;have g_21:=g_wa.l (aL (Below.refl _ _) nq);have q_21:=q_wa.l (aL (Below.refl _ _) nq);have b0_21:=aa b0_wa (aL (Below.refl _ _) nq);clear g_wa q_wa b0_wa;obtain⟨x0,x1,x2,x3,x4⟩:=g_21.cs5;obtain⟨y0,y1,y2⟩:=q_21.cs3
     go_wp2
     go_ret
     exact⟨rfl,b0_21⟩
theorem LU (R D L G:Int)(gr s:Bool)(ao:Option Addr)(ca:Nat)(e:Int)(w:World):
  yC 21 #[ydV s (.slice ao 0 ca) e,ygV R D L G gr] w (yR w (.bool true)):=by
 have b1:=aa (af w (.cells (ydA s (.slice ao 0 ca) e) 30)) (af _ (.cells (ygA R D L G gr) 40))
 go_enter func21,ntmps21
 go_wp2
 go_ret
 exact⟨rfl,b1⟩
theorem BE {a L:Nat}(h:(Dg.dg 65536 a).length≤L):bitLen a≤16*L:=by
 refine bF a _ ?_;rw[Nat.pow_mul];have h1:=Dg.vl_lt 65536 _ (Dg.small_dg 65536 a (by omega));rw[Dg.vl_dg _ _ (by omega)] at h1;exact Nat.lt_of_lt_of_le h1 (Nat.pow_le_pow_right (by omega) h)
theorem Gh (R D e:Int)(bl:Nat)(h: -79000≤e+bl):(e+(bl:Int)-1+80000).tdiv (ai R)-(80000:Int).tdiv (ai R)-D+1=aT R D (e+(bl:Int)-1):=by
 rw[Int.tdiv_eq_ediv_of_nonneg (by omega),Int.tdiv_eq_ediv_of_nonneg (by omega)];unfold aT ai
 split<;>simp<;>omega
theorem nU (R D L G:Int)(gr:Bool)(v:Value)(t:ak)(w:World)(hg:bk R D L G=0)(hv:Rv w v t)(hl:(Dg.dg 65536 t.n).length≤20000)(e1: -79000≤t.e)(e2:t.e≤200000):
  yC 21 #[v,ygV R D L G gr] w (yR w (.bool (inR R D L G gr t.n t.e))):=by
 obtain⟨s,n,e⟩:=t;simp only at hl e1 e2;obtain⟨s0,rfl,hr⟩:=hv;obtain⟨ao,ca,rfl⟩:=hr.shape;simp only at hr⊢;obtain⟨hR,d1,d2,l1,l2,g1,g2,lg,l16⟩:=cB hg
 by_cases h0:n=0
 ·rw[show inR R D L G gr n e=true from decide_eq_true (.inl h0)]
  subst h0;exact LU R D L G gr s ao ca e w
 ·have hbl:bitLen n≤16*20000:=BE hl
  have hwl:=eN R;have hsk:=Gh R D e (bitLen n) (by omega);have hpr: -600000≤aT R D (e+(bitLen n:Int)-1)∧aT R D (e+(bitLen n:Int)-1)≤600000∧ -2400000≤(ai R:Int)*aT R D (e+(bitLen n:Int)-1)∧(ai R:Int)*aT R D (e+(bitLen n:Int)-1)≤2400000:=by
   clear hsk;unfold aT ai
   split<;>simp<;>omega
  have hL: -68000≤(ai R:Int)*L∧(ai R:Int)*L≤68000:=by
   clear hsk hpr;unfold ai
   split<;>simp<;>omega
  have hGD: -70000≤(ai R:Int)*(G+D)∧(ai R:Int)*(G+D)≤70000:=by
   clear hsk hpr hL;unfold ai
   split<;>simp<;>omega
  have a1:=Int.natAbs_tdiv_le_natAbs (e+(bitLen n:Int)-1+80000) (ai R);have a2:=Int.natAbs_tdiv_le_natAbs (80000:Int) (ai R);have hin:inR R D L G gr n e=true↔((ai R:Int)*L≤e∧e+(bitLen n:Int)≤(ai R:Int)*(G+D)∧(gr=true∨L≤aT R D (e+(bitLen n:Int)-1))∧(ai R:Int)*max L (aT R D (e+(bitLen n:Int)-1))≤e):=by
   unfold inR;rw[decide_eq_true_iff]
   constructor
   ·rintro(h|h)
    ·exact absurd h h0
    ·exact h
   ·exact .inr
  have hno: ∀{b:Bool},¬b=true→b=false:=fun h=>by simpa using h
  refine Sj R D L G gr s ao _ ca e (ai R) (bitLen n) _ _ (aT R D (e+(bitLen n:Int)-1)) (inR R D L G gr n e) w ?_ ?_ ?_ ?_ ?_ ?_ ?_ ?_ ?_ rfl rfl ?_ ?_ ?_ ?_ ?_ ?_ ?_ ?_ ?_ ?_ ?_ ?_ ?_ ?_
  ·simp
   rw[Dg.dg_nil_iff _ _ (by omega)];exact h0
  ·simp
   omega
  ·omega
  ·exact IntWalk.i64_in _ ⟨by omega,by omega⟩
  ·exact IntWalk.i64_in _ ⟨by omega,by omega⟩
  ·exact IntWalk.i64_in _ ⟨by omega,by omega⟩
  ·exact IntWalk.i64_in _ ⟨by omega,by omega⟩
  ·exact IntWalk.i64_in _ ⟨by omega,by omega⟩
  ·exact IntWalk.i64_in _ ⟨by omega,by omega⟩
  ·exact IntWalk.i64_in _ ⟨by omega,by omega⟩
  ·exact IntWalk.i64_in _ ⟨by omega,by omega⟩
  ·exact IntWalk.i64_in _ ⟨by omega,by omega⟩
  ·exact IntWalk.i64_in _ ⟨by omega,by omega⟩
  ·rw[hsk]
   exact IntWalk.i64_in _ ⟨by omega,by omega⟩
  ·exact IntWalk.i64_in _ ⟨by omega,by omega⟩
  ·intro h
   refine hno fun c=> ?_
   have:=hin.1 c;omega
  ·intro h h2
   refine hno fun c=> ?_
   have:=hin.1 c;omega
  ·intro h h2 h3 h4
   refine hno fun c=> ?_
   rcases(hin.1 c).2.2.1 with h5|h5
   ·rw[h4] at h5
    cases h5
   ·omega
  ·intro h h2 h3 h4
   refine hin.2 ⟨by omega,by omega,.inl h4, ?_⟩;rw[Int.max_eq_left (by omega)];omega
  ·intro h h2 h3 h4
   refine hin.2 ⟨by omega,by omega,.inr (by omega), ?_⟩;rw[Int.max_eq_right (by omega)];omega
  ·intro h h2 h3 h4
   refine hno fun c=> ?_
   have:=(hin.1 c).2.2.2;rw[Int.max_eq_right (by omega)] at this;omega
  ·intro w1
   have:=nh R D L G gr w1
   rwa [jf] at this
  ·intro w1 b
   have:=kF _ _ w1 (hr.l b) (Dg.small_dg _ _ (by omega)) (Dg.norm_dg _ _ (by omega)) (by omega);rw[Dg.vl_dg _ _ (by omega)] at this;refine this.mono ?_;rintro z w' ⟨rfl,rfl⟩;exact⟨rfl,Below.refl _ _⟩
theorem vK (v:Value)(a:Nat)(w:World)(h:Rd w .i64 v (Dg.dg 65536 a))(hl:(Dg.dg 65536 a).length≤2000000):yC 35 #[v] w (yR w (yi (bitLen a:Int))):=by
 have:=kF _ _ w h (Dg.small_dg _ _ (by omega)) (Dg.norm_dg _ _ (by omega)) (by omega);rw[Dg.vl_dg _ _ (by omega)] at this;refine this.mono ?_;rintro z w' ⟨rfl,rfl⟩;exact⟨rfl,Below.refl _ _⟩
theorem QZ (R D L G:Int)(gr:Bool)(v:Value)(t:ak)(w:World)(hg:bk R D L G=0)(hv:Rv w v t)(hl:(Dg.dg 65536 t.n).length≤20000)(e1: -200000≤t.e)(e2:t.e< -79000)(h0:t.n≠0):
  yC 21 #[v,ygV R D L G gr] w (yR w (.bool (inR R D L G gr t.n t.e))):=by
 obtain⟨s,n,e⟩:=t;simp only at hl e1 e2 h0;obtain⟨s0,rfl,hr⟩:=hv;obtain⟨ao,ca,rfl⟩:=hr.shape;simp only at hr⊢;obtain⟨hR,d1,d2,l1,l2,g1,g2,lg,l16⟩:=cB hg;have hbl:bitLen n≤16*20000:=BE hl;have hwl:=eN R;have hL: -68000≤(ai R:Int)*L∧(ai R:Int)*L≤68000:=by
  unfold ai
  split<;>simp<;>omega
 have hGD: -70000≤(ai R:Int)*(G+D)∧(ai R:Int)*(G+D)≤70000:=by
  clear hL;unfold ai
  split<;>simp<;>omega
 have a1:=Int.natAbs_tdiv_le_natAbs (e+(bitLen n:Int)-1+80000) (ai R);have a2:=Int.natAbs_tdiv_le_natAbs (80000:Int) (ai R);have hres:inR R D L G gr n e=false:=by
  unfold inR;refine decide_eq_false ?_;rintro(h|h)
  ·exact h0 h
  ·omega
 have hq:e< (ai R:Int)*L:=by omega
 have hkk: -2000000≤(ai R:Int)*((e+(bitLen n:Int)-1+80000).tdiv (ai R)-(80000:Int).tdiv (ai R)-D+1)∧(ai R:Int)*((e+(bitLen n:Int)-1+80000).tdiv (ai R)-(80000:Int).tdiv (ai R)-D+1)≤2000000:=by
  generalize(e+(bitLen n:Int)-1+80000).tdiv (ai R)=u at*;generalize(80000:Int).tdiv (ai R)=v at*
  rcases(show ai R=1∨ai R=4 from by unfold ai;split<;>omega) with h|h<;>rw[h]<;>omega
 refine Sj R D L G gr s ao _ ca e (ai R) (bitLen n) ((e+(bitLen n:Int)-1+80000).tdiv (ai R)) ((80000:Int).tdiv (ai R)) ((e+(bitLen n:Int)-1+80000).tdiv (ai R)-(80000:Int).tdiv (ai R)-D+1) (inR R D L G gr n e) w ?_ ?_ ?_ ?_ ?_ ?_ ?_ ?_ ?_ rfl rfl ?_ ?_ ?_ ?_ ?_ ?_ (fun _=>hres) (fun h=>absurd hq h) (fun h=>absurd hq h) (fun h=>absurd hq h) (fun h=>absurd hq h) (fun h=>absurd hq h) ?_ ?_
 ·simp
  rw[Dg.dg_nil_iff _ _ (by omega)];exact h0
 ·simp
  omega
 ·omega
 ·exact IntWalk.i64_in _ ⟨by omega,by omega⟩
 ·exact IntWalk.i64_in _ ⟨by omega,by omega⟩
 ·exact IntWalk.i64_in _ ⟨by omega,by omega⟩
 ·exact IntWalk.i64_in _ ⟨by omega,by omega⟩
 ·exact IntWalk.i64_in _ ⟨by omega,by omega⟩
 ·exact IntWalk.i64_in _ ⟨by omega,by omega⟩
 ·exact IntWalk.i64_in _ ⟨by omega,by omega⟩
 ·exact IntWalk.i64_in _ ⟨by omega,by omega⟩
 ·exact IntWalk.i64_in _ ⟨by omega,by omega⟩
 ·exact IntWalk.i64_in _ ⟨by omega,by omega⟩
 ·exact IntWalk.i64_in _ ⟨by omega,by omega⟩
 ·exact IntWalk.i64_in _ ⟨by omega,by omega⟩
 ·intro w1
  have:=nh R D L G gr w1
  rwa [jf] at this
 ·intro w1 b
  exact vK _ n w1 (hr.l b) (by omega)
theorem Q5 (R D L G:Int)(gr:Bool)(v:Value)(t:ak)(w:World)(hg:bk R D L G=0)(hv:Rv w v t)(hl:(Dg.dg 65536 t.n).length≤20000)(e1: -200000≤t.e)(e2:t.e≤200000)(h0:t.n≠0):
  yC 21 #[v,ygV R D L G gr] w (yR w (.bool (inR R D L G gr t.n t.e))):=by
 by_cases h: -79000≤t.e
 ·exact nU R D L G gr v t w hg hv hl h e2
 ·exact QZ R D L G gr v t w hg hv hl e1 (by omega) h0
theorem refW_any (k:Nat)(hk:1≤k∧k≤8)(D L G:Int)(gr:Bool)(w:World):yC 22 #[ygV (rdN k) D L G gr] w (yR w (yi (ai (rdN k):Int))):=by
 have:=eG (rdN k) D L G gr w;rw[wQ hk] at this;exact this
end Go.Proofs.YtddkchlamdhgcaaGreatDoor
