/-
  Texts laid together: Co13, Co11, Co12, Co21, Gm1, Gk2, Gr7, Ce10, Ce5, As2, As8, Pa1.
-/
import Derived.Test.YtdhpndnncmagiaaGreatDoorMa21
import Derived.Test.YtdhpndnncmagiaaGreatDoorMa22
import Derived.Test.YtdhpndnncmagiaaGreatDoorMa24
import Derived.Test.YtdhpndnncmagiaaGreatDoorMa26
set_option maxRecDepth 100000
set_option maxHeartbeats 6400000
namespace Go.Proofs.YtdhpndnncmagiaaGreatDoor
open _root_.Go.Proofs.Tryz
open Go.RowKit
theorem Uy (g cap:Nat)(zs:List Nat)(w:World)(ho:ik w g zs)(hl:zs.length≤1000000000):
  yC 140 #[.slice (some ⟨g,0,none⟩) zs.length cap] w fun e w'=>e= .returned (.tuple #[])∧ik w' g zs.reverse∧w.grownBy w' (some g):=by
 have hr:=Ko g cap zs w ho hl
 go_enter func140,ntmps140
 go_wp2_with fail
 refine hr.mono ?_;rintro z w1 ⟨rfl,r1,g1⟩
 go_wp2
 go_end0
 exact⟨rfl,r1,g1⟩
theorem IV (k:Nat)(g cap:Nat)(zs:List Nat)(w:World)(ho:ik w g zs)(hl:zs.length≤1000)(hev: ∃m,zs.length=2*m):
  yC (C9 k) #[.slice (some ⟨g,0,none⟩) zs.length cap] w fun e w'=>e= .returned (.tuple #[])∧ik w' g (jT k zs)∧w.grownBy w' (some g):=by
 unfold C9 jT
 by_cases h3:k=3
 ·rw[if_pos h3,if_pos h3]
  exact Uy g cap zs w ho (by omega)
 ·rw[if_neg h3,if_neg h3]
  by_cases h6:6≤k
  ·rw[if_pos h6,if_pos h6]
   obtain⟨m,hm⟩:=hev;exact T8 g cap m zs w ho (by omega) hm
  ·rw[if_neg h6,if_neg h6]
   refine(Ux _ w).mono ?_;rintro z w1 ⟨rfl,rfl⟩;exact⟨rfl,ho,ib _ _⟩
abbrev adw:=ci_mis_mg.1
abbrev Rb:=ci_mis_mg.2
theorem Vi (D L G sz ex fam:Int)(gr ng:Bool)(F e f:Nat)(w:World)(hw1:IntKind.i64.wrap (L+(e:Int))=L+(e:Int)):yC 144 #[ylV 16 D L G gr sz ex fam F,yfV ng e f] w (yR w (.tuple #[.int .u64 f,yi (L+(e:Int))])):=by
 have hsf:=cD;have l0:=(ah w (ylL 16 D L G gr sz ex fam F) 94).l (af _ (.cells (yfA ng e f) 157));have m0:=ah (w.alloc (.cells (ylA 16 D L G gr sz ex fam F) 94)) (yfL ng e f) 157;have b0:=aa (af w (.cells (ylA 16 D L G gr sz ex fam F) 94)) (af _ (.cells (yfA ng e f) 157));rw[World.size_alloc] at m0
 go_enter func144,ntmps144
 go_wp2
 go_quiet (fail)
 go_wp2
 go_ret2
 exact⟨by first|rfl| (rw[hw1];rfl)|simp[hw1,Act.put],aL b0 _⟩
theorem Zc (D L G sz ex fam:Int)(gr ng:Bool)(F f:Nat)(w:World):yC 144 #[ylV 2 D L G gr sz ex fam F,yfV ng 0 f] w (yR w (.tuple #[.int .u64 f,yi L])):=by
 have hsf:=cD;have l0:=(ah w (ylL 2 D L G gr sz ex fam F) 94).l (af _ (.cells (yfA ng 0 f) 157));have m0:=ah (w.alloc (.cells (ylA 2 D L G gr sz ex fam F) 94)) (yfL ng 0 f) 157;have b0:=aa (af w (.cells (ylA 2 D L G gr sz ex fam F) 94)) (af _ (.cells (yfA ng 0 f) 157));rw[World.size_alloc] at m0
 go_enter func144,ntmps144
 go_wp2
 go_quiet (fail)
 go_wp2
 go_ret2
 exact⟨rfl,aL b0 _⟩
theorem P8 (R D L G fam:Int)(gr:Bool)(sz ex:Nat)(F:Nat)(c p:Int)(ng:Bool)(ao:Option Addr)(dn dc:Nat)(sg0:Bool)(se sf:Nat)(w:World)
  (HS:yJ 162 #[ylV R D L G gr sz ex fam F,yi c] (.tuple #[yfV sg0 se sf,.bool false])):
  yC 92 #[ylV R D L G gr sz ex fam F,yvV c ng (.slice ao dn dc) p] w (yR w (.tuple #[.string ⟨#[]⟩,yi 5])):=by
 have hsf:=cD;have bf:=af (w.alloc (.cells (ylA R D L G gr sz ex fam F) 94)) (.cells (yvA c ng (.slice ao dn dc) p) 57);have l0:=(ah w (ylL R D L G gr sz ex fam F) 94).l bf;have m0:=ah (w.alloc (.cells (ylA R D L G gr sz ex fam F) 94)) (yvL c ng (.slice ao dn dc) p) 57;have b0:=aa (af w (.cells (ylA R D L G gr sz ex fam F) 94)) bf;rw[World.size_alloc] at m0;have HS':Hid _:=HS;clear HS bf
 go_enter func92,ntmps92
 go_wp2_with fail
 refine(HS'.out _).mono ?_;rintro z w1 ⟨rfl,b1⟩;have bq:=af w1 (.cells (yfA sg0 se sf) 157);have l1:=(l0.l b1).l bq;have m1:=(m0.l b1).l bq;have q1:=ah w1 (yfL sg0 se sf) 157;have b01:=aa (aa b0 b1) bq;obtain⟨x0,x1,x2,x3,x4,x5,x6,x7,x8⟩:=l1.cs9;obtain⟨u0,u1,u2,u3⟩:=m1.cs4;obtain⟨s0,s1,s2⟩:=q1.cs3;clear l0 m0 b0 b1 bq HS'
 go_wp2
 go_ret2
 exact⟨rfl,b01⟩
theorem Kt (R D L G fam:Int)(gr:Bool)(sz ex:Nat)(F:Nat)(c p:Int)(ng:Bool)(ao:Option Addr)(dn dc:Nat)(sg0:Bool)(se sf:Nat)(w:World)
  (HS:yJ 162 #[ylV R D L G gr sz ex fam F,yi c] (.tuple #[yfV sg0 se sf,.bool true])) (hd:0<dn):
  yC 92 #[ylV R D L G gr sz ex fam F,yvV c ng (.slice ao dn dc) p] w (yR w (.tuple #[.string ⟨#[]⟩,yi 4])):=by
 have hdI:(0:Int)< (dn:Int):=by omega
 have hsf:=cD;have bf:=af (w.alloc (.cells (ylA R D L G gr sz ex fam F) 94)) (.cells (yvA c ng (.slice ao dn dc) p) 57);have l0:=(ah w (ylL R D L G gr sz ex fam F) 94).l bf;have m0:=ah (w.alloc (.cells (ylA R D L G gr sz ex fam F) 94)) (yvL c ng (.slice ao dn dc) p) 57;have b0:=aa (af w (.cells (ylA R D L G gr sz ex fam F) 94)) bf;rw[World.size_alloc] at m0;have HS':Hid _:=HS;clear HS bf
 go_enter func92,ntmps92
 go_wp2_with fail
 refine(HS'.out _).mono ?_;rintro z w1 ⟨rfl,b1⟩;have bq:=af w1 (.cells (yfA sg0 se sf) 157);have l1:=(l0.l b1).l bq;have m1:=(m0.l b1).l bq;have q1:=ah w1 (yfL sg0 se sf) 157;have b01:=aa (aa b0 b1) bq;obtain⟨x0,x1,x2,x3,x4,x5,x6,x7,x8⟩:=l1.cs9;obtain⟨u0,u1,u2,u3⟩:=m1.cs4;obtain⟨s0,s1,s2⟩:=q1.cs3;clear l0 m0 b0 b1 bq HS'
 go_wp2
 go_ret2
 exact⟨rfl,b01⟩
theorem MI (R D L G fam:Int)(gr:Bool)(sz ex:Nat)(F:Nat)(c p:Int)(ng:Bool)(ao:Option Addr)(dn dc:Nat)(sg0:Bool)(se sf:Nat)(w:World)
  (HS:yJ 162 #[ylV R D L G gr sz ex fam F,yi c] (.tuple #[yfV sg0 se sf,.bool true])) (hd:dn=0) (hp:p≠0):
  yC 92 #[ylV R D L G gr sz ex fam F,yvV c ng (.slice ao dn dc) p] w (yR w (.tuple #[.string ⟨#[]⟩,yi 4])):=by
 subst hd;have hpb:(p==0)=false:=by simpa using hp
 have hsf:=cD;have bf:=af (w.alloc (.cells (ylA R D L G gr sz ex fam F) 94)) (.cells (yvA c ng (.slice ao 0 dc) p) 57);have l0:=(ah w (ylL R D L G gr sz ex fam F) 94).l bf;have m0:=ah (w.alloc (.cells (ylA R D L G gr sz ex fam F) 94)) (yvL c ng (.slice ao 0 dc) p) 57;have b0:=aa (af w (.cells (ylA R D L G gr sz ex fam F) 94)) bf;rw[World.size_alloc] at m0;have HS':Hid _:=HS;clear HS bf
 go_enter func92,ntmps92
 go_wp2_with fail
 refine(HS'.out _).mono ?_;rintro z w1 ⟨rfl,b1⟩;have bq:=af w1 (.cells (yfA sg0 se sf) 157);have l1:=(l0.l b1).l bq;have m1:=(m0.l b1).l bq;have q1:=ah w1 (yfL sg0 se sf) 157;have b01:=aa (aa b0 b1) bq;obtain⟨x0,x1,x2,x3,x4,x5,x6,x7,x8⟩:=l1.cs9;obtain⟨u0,u1,u2,u3⟩:=m1.cs4;obtain⟨s0,s1,s2⟩:=q1.cs3;clear l0 m0 b0 b1 bq HS'
 go_wp2
 go_ret2
 exact⟨rfl,b01⟩
theorem Ui (R D L G fam:Int)(gr:Bool)(sz ex:Nat)(F:Nat)(c p:Int)(ng:Bool)(ao:Option Addr)(dn dc:Nat)(sg0:Bool)(se sf:Nat)(w:World)
  (HS:yJ 162 #[ylV R D L G gr sz ex fam F,yi c] (.tuple #[yfV sg0 se sf,.bool true]))
  (st:ByteArray) (HW:yJ 164 #[ylV R D L G gr sz ex fam F,yfV (sg0||ng) se sf] (.string st)) (hd:dn=0) (hp:p=0) (hn:ng=false):
  yC 92 #[ylV R D L G gr sz ex fam F,yvV c ng (.slice ao dn dc) p] w (yR w (.tuple #[.string st,yi 0])):=by
 subst hd hp hn;have HW':Hid _:=HW;have hsf:=cD;have bf:=af (w.alloc (.cells (ylA R D L G gr sz ex fam F) 94)) (.cells (yvA c false (.slice ao 0 dc) 0) 57);have l0:=(ah w (ylL R D L G gr sz ex fam F) 94).l bf;have m0:=ah (w.alloc (.cells (ylA R D L G gr sz ex fam F) 94)) (yvL c false (.slice ao 0 dc) 0) 57;have b0:=aa (af w (.cells (ylA R D L G gr sz ex fam F) 94)) bf;rw[World.size_alloc] at m0;have HS':Hid _:=HS;clear HS bf
 go_enter func92,ntmps92
 go_wp2_with fail
 refine(HS'.out _).mono ?_;rintro z w1 ⟨rfl,b1⟩;have bq:=af w1 (.cells (yfA sg0 se sf) 157);have l1:=(l0.l b1).l bq;have m1:=(m0.l b1).l bq;have q1:=ah w1 (yfL sg0 se sf) 157;have b01:=aa (aa b0 b1) bq;obtain⟨x0,x1,x2,x3,x4,x5,x6,x7,x8⟩:=l1.cs9;obtain⟨u0,u1,u2,u3⟩:=m1.cs4;obtain⟨s0,s1,s2⟩:=q1.cs3;clear l0 m0 b0 b1 bq HS';clear HW
 cases sg0
 all_goals go_wp2_with fail
 all_goals (refine(HW'.out _).mono ?_;rintro z w3 ⟨rfl,b3⟩;go_wp2;go_ret2;exact⟨rfl,aa b01 b3⟩)
theorem kJ {R D L G:Int}(gr qs:Bool)(N M:Nat)(E way:Int)(h1:1≤D)(hLG:L≤G)(hN:N≠0)(hM:M≠0):
  cI R D L G gr qs N M E way=⟨qs,io R D (fM R D L gr qs N M E way),if io R D (fM R D L gr qs N M E way)=0 then 0 else gD R D (fM R D L gr qs N M E way) (dj R D L gr N M E),decide (gF R D L gr N M E=0),decide (G<gD R D (fM R D L gr qs N M E way) (dj R D L gr N M E)),decide (aT R D (dY N M E)<L)⟩:=by
 unfold cI
 by_cases h0:fM R D L gr qs N M E way=0
 ·have hw:cH R D L gr N M E=0:=by
   have:=KL R D L gr qs N M E way;omega
  have hc:dj R D L gr N M E=L:=by
   refine Decidable.byContradiction fun c=> ?_
   have e:dj R D L gr N M E=aT R D (dY N M E):=by
    unfold dj at c⊢
    split at c
    ·exact absurd rfl c
    ·rw[if_neg (by assumption)]
   have:=Vf R D L gr N M E h1 hN hM e;omega
  have hd:=uh R D L gr N M E h1 hN hM (dj R D L gr N M E);rw[if_pos h0,h0,if_pos ((CD R D 0).2 rfl),(CD R D 0).2 rfl];rw[hw] at hd;rw[hd.2,hc,decide_eq_false (show¬G<L by omega)]
 ·rw[if_neg h0,if_neg (fun c=>h0 ((CD R D _).1 c))]
theorem mC {R D L G:Int}{gr s:Bool}{n:Nat}{e way:Int}(h1:1≤D)(hLG:L≤G)(h0:n≠0)(hh:dA R D L G gr n e=true):
  (cI R D L G gr s n 1 e way).ov=false∧((cI R D L G gr s n 1 e way).un=false∨gr=true)∧bare ⟨(cI R D L G gr s n 1 e way).s,(cI R D L G gr s n 1 e way).d,(ai R:Int)*(cI R D L G gr s n 1 e way).p⟩=bare ⟨s,n,e⟩:=by
 have hM:(1:Nat)≠0:=by omega
 have hs:L≤cP R D L gr n e∧cP R D L gr n e≤G∧(ai R:Int)*cP R D L gr n e≤e+(tz n:Int):=by
  unfold dA at hh
  rcases of_decide_eq_true hh with h|h
  ·exact absurd h h0
  ·exact h
 have hc:dj R D L gr n 1 e=cP R D L gr n e:=by
  unfold dj cP;rw[lU h0]
 obtain⟨p1,p2⟩:=nV s n e ((ai R:Int)*cP R D L gr n e) hs.2.2;have hl:gF R D L gr n 1 e=0:=by
  unfold gF shP;rw[hc];exact p1
 have hd:fM R D L gr s n 1 e way=cH R D L gr n 1 e:=by
  unfold fM;rw[if_neg];rintro⟨c,-⟩;exact of_decide_eq_false c hl
 obtain⟨c1,c2⟩:=uh R D L gr n 1 e h1 h0 hM (dj R D L gr n 1 e);have hw:cH R D L gr n 1 e=eZ n (e-(ai R:Int)*cP R D L gr n e)/dX 1 (e-(ai R:Int)*cP R D L gr n e):=by
  unfold cH shP;rw[hc]
 rw[kJ gr s n 1 e way h1 hLG h0 hM,hd,c1,c2,hc];refine⟨decide_eq_false (by omega), ?_, ?_⟩
 ·by_cases hg:gr=true
  ·exact .inr hg
  ·refine .inl (decide_eq_false fun c=> ?_)
   have e1:cP R D L gr n e=aT R D (dY n 1 e):=by
    unfold cP;rw[lU h0,if_neg];intro c2;exact hg (Bool.and_eq_true_iff.1 c2).2
   omega
 ·show bare ⟨s,cH R D L gr n 1 e,(ai R:Int)*(if cH R D L gr n 1 e=0 then 0 else cP R D L gr n e)⟩=_
  by_cases hz:cH R D L gr n 1 e=0
  ·rw[←p2,←hw,hz]
   simp[bare]
  ·rw[if_neg hz,hw,p2]
theorem nW {R D L G:Int}{gr qs:Bool}{N M:Nat}{E way:Int}(h1:1≤D)(hLG:L≤G)(hN:N≠0)(hM:M≠0)(ho:(cI R D L G gr qs N M E way).ov=false)(hu:(cI R D L G gr qs N M E way).un=false∨gr=true):
  ((cI R D L G gr qs N M E way).d=0∧(cI R D L G gr qs N M E way).p=0)∨((cI R D L G gr qs N M E way).d≠0∧L≤(cI R D L G gr qs N M E way).p∧(cI R D L G gr qs N M E way).p≤G∧(cI R D L G gr qs N M E way).d<2^ (ai R*D.toNat)∧(2^ (ai R*(D-1).toNat)≤(cI R D L G gr qs N M E way).d∨(gr=true∧(cI R D L G gr qs N M E way).p=L))):=by
 rw[kJ gr qs N M E way h1 hLG hN hM] at ho hu⊢;simp only at ho hu⊢;have hov:=of_decide_eq_false ho
 by_cases hz:io R D (fM R D L gr qs N M E way)=0
 ·exact .inl ⟨hz,if_pos hz⟩
 ·refine .inr ⟨hz, ?_⟩
  rw[if_neg hz];have hwl:=rP R D L gr N M E h1 hN hM;have hge:=KL R D L gr qs N M E way;have hle:fM R D L gr qs N M E way≤cH R D L gr N M E+1:=by
   unfold fM
   split<;>omega
  have hpw:2^ (ai R*(D-1).toNat)<2^ (ai R*D.toNat):=by
   refine Nat.pow_lt_pow_right (by omega) ?_;exact Nat.mul_lt_mul_of_pos_left (by omega) (by have:=eN R;omega)
  have hcut:L≤dj R D L gr N M E∧(dj R D L gr N M E=aT R D (dY N M E)∨(gr=true∧dj R D L gr N M E=L)):=by
   unfold dj
   by_cases hc:(decide (aT R D (dY N M E)<L)&&gr)=true
   ·rw[if_pos hc]
    exact⟨Int.le_refl _,.inr ⟨(Bool.and_eq_true_iff.1 hc).2,rfl⟩⟩
   ·rw[if_neg hc]
    refine⟨?_,.inl rfl⟩
    rcases hu with hu|hu
    ·have:=of_decide_eq_false hu
     omega
    ·rw[hu,Bool.and_true] at hc
     have: ¬aT R D (dY N M E)<L:=fun c=>hc (decide_eq_true c)
     omega
  unfold io gD at*
  by_cases hq:fM R D L gr qs N M E way=2^ (ai R*D.toNat)
  ·rw[if_pos hq] at hov⊢
   rw[if_pos hq];exact⟨by omega,by omega,hpw,.inl (Nat.le_refl _)⟩
  ·rw[if_neg hq] at hov⊢
   rw[if_neg hq];refine⟨hcut.1,by omega,by omega, ?_⟩
   rcases hcut.2 with h|h
   ·refine .inl (Nat.le_trans ?_ hge)
    have:=mt (xx R D (aT R D (dY N M E)) N M E h1 hN hM).1 (Int.lt_irrefl _);rw[pP] at this;unfold cH shP;rw[h];omega
   ·exact .inr h
theorem jM (qs:Bool)(ao:Option Addr)(ca:Nat)(xs:List Nat)(bo:Option Addr)(cb:Nat)(ys:List Nat)(E R D L G:Int)(gr:Bool)(way:Int)(w:World)(ha:Rd w .u32 (.slice ao xs.length ca) xs)(hb:Rd w .u32 (.slice bo ys.length cb) ys)(sa:Dg.Small 4294967296 xs)(sb:Dg.Small 4294967296 ys):
  yC 61 #[yrV qs (.slice ao xs.length ca) (.slice bo ys.length cb) E,ygV R D L G gr,yi way] w (sq w (eE xs ys E R D L G way) (df xs ys E R D L G gr qs way)):=by
 refine Ob R D L G gr qs ao xs.length ca bo ys.length cb E way (jg (eA xs ys E) (bk R D L G)) (ac0 way) (T4 way) (iC way) ((xs.length:Int)==0) (cI R D L G gr qs (Dg.vl 4294967296 xs) (Dg.vl 4294967296 ys) E way) _ _ w ?_ ?_ rfl ?_ ?_ ?_ ?_ ?_ ?_ ?_
 ·intro h
  exact if_pos h
 ·intro h
  exact if_neg (by rw[h];decide)
 ·intro h
  have e:eE xs ys E R D L G way=jg (eA xs ys E) (bk R D L G):=if_neg h;exact⟨e,by unfold df;rw[e,if_neg h]⟩
 ·intro h hw
  have e:eE xs ys E R D L G way=6:=(if_pos h).trans (if_neg (by rw[hw];decide));exact⟨e,by unfold df;rw[e];rfl⟩
 ·intro h hw hz
  have e:eE xs ys E R D L G way=0:=(if_pos h).trans (if_pos hw);have hx:xs.length=0:=by simpa using hz
  exact⟨e,by unfold df;rw[e,if_pos rfl,if_pos hx]⟩
 ·intro h hw hz
  have e:eE xs ys E R D L G way=0:=(if_pos h).trans (if_pos hw);have hx: ¬xs.length=0:=by simpa using hz
  exact⟨e,by unfold df;rw[e,if_pos rfl,if_neg hx]⟩
 ·intro w1 b
  exact Qe qs ao ca xs bo cb ys E R D L G gr w1 (ha.l b) (hb.l b)
 ·intro w1 r hm
  exact PI way w1 r hm
 ·intro h hw hz w1 b
  obtain⟨h1,h2⟩:=C4 h;obtain⟨c1,c2,hl,e1,e2⟩:=gO h1;obtain⟨nx,lx⟩:=aF c1;obtain⟨ny,ly⟩:=aF c2;have ex:Dg.dg 4294967296 (Dg.vl 4294967296 xs)=xs:=Dg.dg_vl _ (by omega) _ sa nx;have ey:Dg.dg 4294967296 (Dg.vl 4294967296 ys)=ys:=Dg.dg_vl _ (by omega) _ sb ny;have hM:0<Dg.vl 4294967296 ys:=by
   refine Nat.pos_of_ne_zero fun c=> ?_
   rw[c] at ey;rw[←ey] at hl;exact absurd hl (by decide)
  have:=Qh R D L G gr qs ao ca bo cb (Dg.vl 4294967296 xs) (Dg.vl 4294967296 ys) E way (T4 way) w1 h2 (by rw[ex];exact ha.l b) (by rw[ey];exact hb.l b) (by rw[ex];omega) (by rw[ey];omega) hM e1 e2 (PO hw) (PK hw)
  rwa [ex,ey] at this
theorem ZC (R D L G fam:Int)(gr:Bool)(sz ex:Nat)(F ld:Nat)(s:Bool)(ao:Option Addr)(ca:Nat)(xs:List Nat)(E:Int)(w:World)(WB:Bool→Nat→Nat→ByteArray)
  (hr:Rd w .u32 (.slice ao xs.length ca) xs) (sa:Dg.Small 4294967296 xs) (hd:aS xs E=0) (h0:Dg.vl 4294967296 xs≠0) (hg:bk R D L G=0) (h1:1≤D) (hLG:L≤G) (hD:ai R*D.toNat≤64) (hGL:G-L<60000) (hRc:R=2∨R=16) (hld:ld<18446744073709551616)
  (hh:dA R D L G gr (Dg.vl 4294967296 xs) E=true)
  (HL:yJ 205 #[ylV R D L G gr sz ex fam F] (.int .u64 ld))
  (HW: ∀ng e f w1,e<65536→f<18446744073709551616→yC 164 #[ylV R D L G gr sz ex fam F,yfV ng ((e:Nat):Int) ((f:Nat):Int)] w1 (yR w1 (.string (WB ng e f)))):
  yC 161 #[ylV R D L G gr sz ex fam F,ydV s (.slice ao xs.length ca) E] w (yR w (.tuple #[.string (WB (cI R D L G gr s (Dg.vl 4294967296 xs) 1 E 3).s (heE R L ld (cI R D L G gr s (Dg.vl 4294967296 xs) 1 E 3)) (cI R D L G gr s (Dg.vl 4294967296 xs) 1 E 3).d),yi 0])):=by
 obtain⟨c1,e1,e2⟩:=bL hd;have hlen:xs.length≠0:=fun h=>h0 (by rw[List.eq_nil_of_length_eq_zero h];rfl)
 have hC:eE xs [1] E R D L G 3=0:=by
  have hq:eA xs [1] E=0:=by
   unfold eA;rw[if_pos c1,if_pos (show chk [1]=0 by decide),if_neg]
   rintro(h|h)
   ·simp at h
   ·unfold eJ at h
    simp at h;omega
  have hw:jg (eA xs [1] E) (bk R D L G)=0:=by unfold jg;rw[if_pos hq];exact hg
  unfold eE;rw[if_pos hw,if_pos (by decide)]
 have hP:df xs [1] E R D L G gr s 3=cI R D L G gr s (Dg.vl 4294967296 xs) 1 E 3:=by
  unfold df;rw[if_pos hC,if_neg hlen];rfl
 obtain⟨hov,hun,hbare⟩:=mC (s:=s) (way:=3) h1 hLG h0 hh;have hsp:=nW h1 hLG h0 (by omega:(1:Nat)≠0) hov hun;have hR:=fun q w1 (b:yB w w1) (hc:w1.cell? ⟨q,0,none⟩=some (.int .u32 1))=>jM s ao ca xs (some ⟨q,0,none⟩) 1 [1] E R D L G gr 3 w1 (hr.l b) (xD hc) sa (fun i=>by
  match i with
  |0=>decide
  |i+1=>simp)
 rw[hC,hP] at hR;obtain⟨t,ht⟩: ∃t,cI R D L G gr s (Dg.vl 4294967296 xs) 1 E 3=t:=⟨_,rfl⟩;rw[ht] at hsp hbare hR⊢;have hd0:t.d≠0:=fun h=>by
  have hz:=congrArg ak.n hbare;have a1:=(fI ⟨t.s,t.d,(ai R:Int)*t.p⟩).2 h;rw[hz] at a1;exact h0 ((fI ⟨s,Dg.vl 4294967296 xs,E⟩).1 a1)
 obtain⟨-,hp1,hp2,hdl,-⟩:=hsp.resolve_left (fun h=>hd0 h.1)
 have hd64:t.d<18446744073709551616:=by
  have:(2:Nat)^ (ai R*D.toNat)≤2^64:=Nat.pow_le_pow_right (by omega) hD;omega
 clear ht hov hun hbare hsp hC hP hh;obtain⟨e,he⟩: ∃e:Nat,t.p-L=(e:Int):=⟨(t.p-L).toNat,by omega⟩;have hel:e<60000:=by omega
 have hew:IntKind.i64.wrap (t.p-L)=(e:Int):=by rw[he];exact IntWalk.i64_in _ ⟨by omega,by omega⟩
 have hzl:(Dg.dg 4294967296 t.d).length≤2:=Dg.dg_len_le 4294967296 t.d 2 (by omega) hd64;have hzp:0< (Dg.dg 4294967296 t.d).length:=List.length_pos_iff.2 (by rw[Ne,Dg.dg_nil_iff 4294967296 t.d (by omega)];exact hd0);have HWd: ∀po pc w1,Rd w1 .u32 (yT po t.d pc) (Dg.dg 4294967296 t.d)→ ∀w2,yB w1 w2→yC 264 #[yT po t.d pc] w2 fun z w'=>z= .returned (.int .u64 (t.d:Int))∧w2=w':=fun po pc w1 h w2 b=>by
  have:=XF _ _ w2 (h.l b) (Dg.small_dg 4294967296 t.d (by omega)) hzl;rw[Dg.vl_dg 4294967296 t.d (by omega)] at this;exact this.mono (fun _ _ h=>⟨h.1,h.2.symm⟩)
 have hen:(t.p-L).toNat=e:=by omega
 unfold heE;rw[hen];have HR2: ∀q w1,yB w w1→w1.cell? ⟨q,0,none⟩=some (.int .u32 1)→yC 61 #[yrV s (.slice ao xs.length ca) (.slice (some ⟨q,0,none⟩) 1 1) E,ygV R D L G gr,yi 3] w1 fun z w'=> ∃po pc,z= .returned (.tuple #[ypV t.s (yT po t.d pc) t.p t.ex t.ov t.un,yi 0])∧Rd w' .u32 (yT po t.d pc) (Dg.dg 4294967296 t.d)∧yB w1 w':=fun q w1 b hc=>(hR q w1 b hc).mono (fun z w' h=>by
  obtain⟨v,rfl,own,b2⟩:=h;obtain⟨po,pc,hv⟩:=own.rd.shape;subst hv;exact⟨po,pc,rfl,own.rd,b2⟩)
 rcases hRc with rfl|rfl
 ·by_cases hb:t.d&&& ld=0
  ·rw[if_neg (fun h=>h.2 hb),Nat.add_zero]
   exact CC _ D L G fam gr sz ex F s ao xs.length ca E w (Dg.dg 4294967296 t.d) _ t.s t.ex t.ov t.un t.p 0 HR2 t.s e t.d (fun po pc w1 _ h=>KG D L G fam gr sz ex F t.s t.ex t.ov t.un po _ pc t.p e t.d w1 hew (by omega) (HWd po pc w1 h) ld 0 (by rw[u64_and_nat t.d ld hd64 hld,hb];rfl) rfl HL) _ (fun w1=>HW t.s e t.d w1 (by omega) hd64) rfl hzp
  ·rw[if_pos ⟨rfl,hb⟩]
   have hF: ∀po pc w1,yB w w1→Rd w1 .u32 (yT po t.d pc) (Dg.dg 4294967296 t.d)→_:=fun po pc w1 _ h=>KF D L G fam gr sz ex F t.s t.ex t.ov t.un po _ pc t.p e t.d w1 hew (by omega) (HWd po pc w1 h) ld ((t.d&&& ld:Nat):Int) (u64_and_nat t.d ld hd64 hld) (by omega) HL
   exact CC _ D L G fam gr sz ex F s ao xs.length ca E w (Dg.dg 4294967296 t.d) _ t.s t.ex t.ov t.un t.p 0 HR2 t.s (e+1) t.d hF _ (fun w1=>HW t.s (e+1) t.d w1 (by omega) hd64) rfl hzp
 ·rw[if_neg (fun h=>by have:=h.1;omega),Nat.add_zero]
  exact CC _ D L G fam gr sz ex F s ao xs.length ca E w (Dg.dg 4294967296 t.d) _ t.s t.ex t.ov t.un t.p 0 HR2 t.s e t.d (fun po pc w1 _ h=>KE D L G fam gr sz ex F t.s t.ex t.ov t.un po _ pc t.p e t.d w1 hew (by omega) (HWd po pc w1 h)) _ (fun w1=>HW t.s e t.d w1 (by omega) hd64) rfl hzp
abbrev NP:=encNum_held_mg.1
abbrev NO:=encNum_held_mg.2
theorem mT (t:ak)(ng:Bool)(to0:Option Addr)(tc:Nat)(w:World)(hr:Rd w .u32 (yT to0 t.n tc) (Dg.dg 4294967296 t.n)):
  yC 69 #[yDV t to0 tc,.bool ng] w (xj w (vI t) (xr t ng) (tF t)):=by
 have HS:Hid (yH w 135 #[yDV t to0 tc] (yi (dJ t))):=fun w1 b=>qB _ t w1 ⟨_,rfl,hr.l b⟩
 have ax:=af w (.cells (yDA t to0 tc) 86);have ao:=af (w.alloc (.cells (yDA t to0 tc) 86)) (.cells (yoA 0 false false yN 0) 88);have x0:=(ah w (yDL t to0 tc) 86).l ao;have o0:=ah (w.alloc (.cells (yDA t to0 tc) 86)) (yoL 0 false false yN 0) 88;rw[World.size_alloc] at o0;have b0:=aa ax ao;have r0:=hr.l b0;clear ax ao hr;unfold vI xr tF
 by_cases h0:t.n=0
 ·rw[if_pos h0,if_pos h0,if_pos h0]
  have hs:dJ t=0:=if_pos h0;rw[hs] at HS;clear h0 hs
  go_enter func69,ntmps69
  go_upto_region 1 with fail
  generalize(w.alloc (.cells (yDA t to0 tc) 86)).alloc (.cells (yoA 0 false false yN 0) 88)=W0 at x0 o0 b0 r0⊢;obtain⟨y0,y1,y2⟩:=x0.cs3
  go_wp2_with fail
  refine(HS.out _ b0).mono ?_;rintro z w1 ⟨rfl,b1⟩;have o1:=o0.l b1;have b01:=aa b0 b1;clear y0 y1 y2 x0 o0 b0 b1 HS r0;have cR:au (((((w1.setCell ⟨w.heap.size+1,0,none⟩ (yi 1)).setCell ⟨w.heap.size+1,1,none⟩ (.bool ng)).setCell ⟨w.heap.size+1,2,none⟩ (.bool false)).setCell ⟨w.heap.size+1,3,none⟩ yN).setCell ⟨w.heap.size+1,4,none⟩ (yi 0)) (w.heap.size+1) 88 (yoL 1 ng false yN 0):=(((((o1.set 0 (yi 1)).set 1 (.bool ng)).set 2 (.bool false)).set 3 yN).set 4 (yi 0));have bu:=((((ag w1 (w.heap.size+1) 0 (yi 1)).trans (ag _ (w.heap.size+1) 1 (.bool ng))).trans (ag _ (w.heap.size+1) 2 (.bool false))).trans (ag _ (w.heap.size+1) 3 yN)).trans (ag _ (w.heap.size+1) 4 (yi 0));have bR:=bu.below b01 (by omega);have hl:=run_loadVar_mid (P:=Tryz.prog) _ (w.heap.size+1) 0 88 (yoL 1 ng false yN 0) _ cR.range underlying88 rfl (by kernel_rfl);have HH:Hid (_∧_):=⟨hl,bR⟩;obtain⟨z0,z1,z2,z3,z4⟩:=o1.cs5;have fz0:=o1.f 0;have fz1:=o1.f 1;have fz2:=o1.f 2;have fz3:=o1.f 3;have fz4:=o1.f 4;clear hl bR bu cR;clear o1 b01
  go_wp2
  obtain⟨hl,bR⟩:=HH.out;exact bodyPost_ret (br results69 rfl hl) rfl ⟨_,rfl,aN _ _,bR⟩
 ·rw[if_neg h0,if_neg h0,if_neg h0]
  obtain⟨sg,hs⟩: ∃s,dJ t=s:=⟨_,rfl⟩;have hs1:(sg==0)=false:=by
   rw[←hs];unfold dJ;rw[if_neg h0]
   cases t.s<;>rfl
  rw[hs] at HS;clear h0 hs
  go_enter func69,ntmps69
  go_upto_region 1 with fail
  generalize(w.alloc (.cells (yDA t to0 tc) 86)).alloc (.cells (yoA 0 false false yN 0) 88)=W0 at x0 o0 b0 r0⊢;obtain⟨y0,y1,y2⟩:=x0.cs3
  go_wp2_with fail
  refine(HS.out _ b0).mono ?_;rintro z w1 ⟨rfl,b1⟩;have o1:=o0.l b1;have x1:=x0.l b1;have r1:=r0.l b1;have b01:=aa b0 b1;clear y0 y1 y2 x0 o0 b0 b1 HS r0;obtain⟨y0,y1,y2⟩:=x1.cs3;have cR:au (((((w1.setCell ⟨w.heap.size+1,0,none⟩ (yi 2)).setCell ⟨w.heap.size+1,1,none⟩ (.bool t.s)).setCell ⟨w.heap.size+1,2,none⟩ (.bool t.s)).setCell ⟨w.heap.size+1,3,none⟩ (yT to0 t.n tc)).setCell ⟨w.heap.size+1,4,none⟩ (yi t.e)) (w.heap.size+1) 88 (yOL 2 t.s t to0 tc):=(((((o1.set 0 (yi 2)).set 1 (.bool t.s)).set 2 (.bool t.s)).set 3 (yT to0 t.n tc)).set 4 (yi t.e));have bu:=((((ag w1 (w.heap.size+1) 0 (yi 2)).trans (ag _ (w.heap.size+1) 1 (.bool t.s))).trans (ag _ (w.heap.size+1) 2 (.bool t.s))).trans (ag _ (w.heap.size+1) 3 (yT to0 t.n tc))).trans (ag _ (w.heap.size+1) 4 (yi t.e));have bR:=bu.below b01 (by omega);have rR:=bu.rd r1 (aX r1 o1 (by simp));have hl:=run_loadVar_mid (P:=Tryz.prog) _ (w.heap.size+1) 0 88 (yOL 2 t.s t to0 tc) _ cR.range underlying88 rfl (by kernel_rfl);have HH:Hid (_∧_∧_):=⟨hl,rR,bR⟩;obtain⟨z0,z1,z2,z3,z4⟩:=o1.cs5;have fz0:=o1.f 0;have fz1:=o1.f 1;have fz2:=o1.f 2;have fz3:=o1.f 3;have fz4:=o1.f 4;clear hl bR bu cR rR;clear o1 b01 x1 r1
  go_wp2
  obtain⟨hl,rR,bR⟩:=HH.out;exact bodyPost_ret (br results69 rfl hl) rfl ⟨_,rfl,rR,bR⟩
theorem X7 (n wy fam R D L G cx cy c fl:Int)(gr gx gy gg:Bool)(x y t:ak)(xo yo:Option Addr)(xc yc g cap:Nat)(w:World)
  (h0:w.rangeAt g 0 (yOL cx gx x xo xc)) (h1:w.rangeAt g 5 (yOL cy gy y yo yc))
  (HS: ∀w1,yB w w1→yC 35 #[ykV n wy fam R D L G gr,yOV cx gx x xo xc,yOV cy gy y yo yc] w1 (dU w1 c gg t fl)):
  yC 34 #[ykV n wy fam R D L G gr,.slice (some ⟨g,0,none⟩) 2 cap] w (dU w c gg t fl):=by
 replace HS:Hid _:=HS;have a1:=af w (.cells (ykA n wy fam R D L G gr) 83);have a2:=af (w.alloc (.cells (ykA n wy fam R D L G gr) 83)) (.cells (yoA 0 false false yN 0) 88);have d0:=(ah w (ykL n wy fam R D L G gr) 83).l a2;have o0:=ah (w.alloc (.cells (ykA n wy fam R D L G gr) 83)) (yoL 0 false false yN 0) 88;rw[World.size_alloc] at o0;have b0:=aa a1 a2;have hgl:g<w.heap.size:=World.block_lt_of_cell? w _ (h0 0 _ rfl);have k0:=aC h0 b0;have k1:=aC h1 b0;clear a1 a2 h0 h1
 go_enter func34,ntmps34
 go_upto_region 1 with fail
 generalize(w.alloc (.cells (ykA n wy fam R D L G gr) 83)).alloc (.cells (yoA 0 false false yN 0) 88)=W0 at d0 o0 b0 k0 k1⊢;have bW:yB W0 W0.drew:=(Below.refl _ _).drew;have d1:=d0.l bW;have o1:=o0.l bW;have b1:=aa b0 bW;have r0:=aC k0 bW;have r1:=aC k1 bW;clear bW d0 o0 b0 k0 k1;refine wp_region_held_drew (S:=fun wq=>wq.rangeAt w.heap.size 0 (ykL n wy fam R D L G gr)∧wq.rangeAt g 0 (yOL cx gx x xo xc)∧wq.rangeAt g 5 (yOL cy gy y yo yc)) (by kernel_rfl) ⟨d1.range,r0,r1⟩ (fun hS0=> ?_)
 generalize W0.drew=WD at d1 o1 b1 r0 r1 hS0⊢;refine tq 0 ((ykV n wy fam R D L G gr)) rfl (fun w0 hw0=>fy 83 (.tmp 2) rfl w.heap.size 0 (by kernel_rfl) _ _ hw0.1 underlying83 rfl (by kernel_rfl)) hS0 ?_
 refine tq 1 (.slice (some ⟨g,0,none⟩) 2 cap) rfl (fun w0 _=>by kernel_rfl) hS0 ?_
 refine tq 2 (.pointer (some ⟨g,0,none⟩)) rfl (fun w0 _=>by kernel_rfl) hS0 ?_
 refine tq 3 ((yOV cx gx x xo xc)) rfl (fun w0 hw0=>fy 88 (.tmp 8) rfl g 0 (by kernel_rfl) _ _ hw0.2.1 underlying88 rfl (by kernel_rfl)) hS0 ?_
 refine tq 4 (.slice (some ⟨g,0,none⟩) 2 cap) rfl (fun w0 _=>by kernel_rfl) hS0 ?_
 refine tq 5 (.pointer (some ⟨g,5,none⟩)) rfl (fun w0 _=>by kernel_rfl) hS0 ?_
 refine tq 6 ((yOV cy gy y yo yc)) rfl (fun w0 hw0=>fy 88 (.tmp 11) rfl g 5 (by kernel_rfl) _ _ hw0.2.2 underlying88 rfl (by kernel_rfl)) hS0 ?_
 refine wpAnyH_ready (rs:=[7]) (by kernel_rfl) (by simp) ?_;refine AllReadyH.cons rfl (fun K hK=> ?_) AllReadyH.nil
 go_simp
 refine(HS.out _ b1).mono ?_;rintro z w2 ⟨u,rfl,q2,b2⟩;obtain⟨ro,rc,hu⟩:=q2.shape;subst hu;have d2:=d1.l b2;have o2:=o1.l b2;have b02:=aa b1 b2;have s0:=aC r0 b2;have s1:=aC r1 b2;refine hK.out _ _ ⟨d2.range,s0,s1⟩ (fun hS7=> ?_)
 clear hK K d1 o1 b1 r0 r1 b2 HS;have bu:But (w.heap.size+1) w2 (w2.setCells (w.heap.size+1) 0 (yOL c gg t ro rc)):=de _ _ _ _;have bR:=bu.below b02 (by omega);have rR:=bu.rd q2 (aX q2 o2 (by simp));have hth:w2.there (w.heap.size+1) 0 5:=dD o2;have hl:=run_loadVar_mid (P:=Tryz.prog) _ (w.heap.size+1) 0 88 (yOL c gg t ro rc) _ (World.rangeAt_setCells_same w2 (w.heap.size+1) 0 (yOL c gg t ro rc) hth) underlying88 rfl (by kernel_rfl);have hg:g≠w.heap.size+1:=by omega
 have HH:Hid (_∧_∧_):=⟨hl,rR,bR⟩;refine tq 8 ((yOV c gg t ro rc)) rfl (fun w0 _=>by go_simp) hS7 ?_
 refine tq 9 (yi fl) rfl (fun w0 _=>by go_simp) hS7 ?_
 refine wpAnyH_ready (rs:=[10]) (by kernel_rfl) (by simp) ?_;refine AllReadyH.cons rfl (fun K hK=> ?_) AllReadyH.nil
 rw[if_pos (by kernel_rfl)];refine wp_store_mid 88 (.tmp 4) (.tmp 14) rfl (w.heap.size+1) 0 (yOA c gg t ro rc) (by kernel_rfl) (by kernel_rfl) hth (by kernel_rfl) (by simp[Value.oneCell']) ?_;refine hK.out _ _ ⟨(bu.loc d2 (by omega)).range,World.rangeAt_setCells_apart s0 _ _ _ (.inl hg),World.rangeAt_setCells_apart s1 _ _ _ (.inl hg)⟩ (fun hS10=> ?_)
 clear hK K;refine tq 11 (yi fl) rfl (fun w0 _=>by go_simp) hS10 ?_
 refine wpAnyH_done (by kernel_rfl) ?_ _;obtain⟨hl,rR,bR⟩:=HH.out;clear HH hS0 hS7 hS10 d2 o2 b02 s0 s1 bu hth q2;change Exit.then _ _ _ _ (World.setCells w2 (w.heap.size+1) 0 (yOL c gg t ro rc));generalize World.setCells w2 (w.heap.size+1) 0 (yOL c gg t ro rc)=WE at hl rR bR⊢;simp only[Act.put,List.getElem_toArray,List.getElem_cons_succ,List.getElem_cons_zero,List.setIfInBounds_toArray,List.set_cons_zero,List.set_cons_succ]
 go_wp2
 exact bodyPost_ret (aj results34 rfl rfl hl) rfl ⟨_,rfl,rR,bR⟩
theorem aa0 {w:World}{q r:Nat}(h:w.cell? ⟨q,0,none⟩=some (.int .u32 r)):Rd w .u32 (.slice (some ⟨q,0,none⟩) 1 1) [r]:=
 ⟨_,1,rfl,Nat.le_refl _,by unfold maxLen;omega,fun _=>⟨q,0,rfl,fun i hi=>by
  obtain rfl:i=0:=by simpa using hi
  exact h⟩⟩
end Go.Proofs.YtdhpndnncmagiaaGreatDoor
