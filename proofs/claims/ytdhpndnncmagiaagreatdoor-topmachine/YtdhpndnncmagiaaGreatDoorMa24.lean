/-
  Texts laid together: Co12, Gr1, Gm1, Gr7, Co17, Ar1, Tx0, Gh1, Gn1, As5.
-/
import Derived.Test.YtdhpndnncmagiaaGreatDoorMa11
import Derived.Test.YtdhpndnncmagiaaGreatDoorMa17
import Derived.Test.YtdhpndnncmagiaaGreatDoorMa18
set_option maxRecDepth 100000
set_option maxHeartbeats 6400000
namespace Go.Proofs.YtdhpndnncmagiaaGreatDoor
open _root_.Go.Proofs.Tryz
open Go.RowKit
theorem Zd (D L G sz ex fam ld o:Int)(gr ng:Bool)(F e f:Nat)(w:World)(h1:((e:Int)==0)=false)(ho:bits .or .u64 f ld=o)
  (hw1:IntKind.i64.wrap (L+(e:Int))=L+(e:Int)) (hw2:IntKind.i64.wrap (L+(e:Int)-1)=L+(e:Int)-1)
  (HL:yJ 205 #[ylV 2 D L G gr sz ex fam F] (.int .u64 ld)):
  yC 144 #[ylV 2 D L G gr sz ex fam F,yfV ng e f] w (yR w (.tuple #[.int .u64 o,yi (L+(e:Int)-1)])):=by
 replace HL:Hid _:=HL;have hsf:=cD;have l0:=(ah w (ylL 2 D L G gr sz ex fam F) 94).l (af _ (.cells (yfA ng e f) 157));have m0:=ah (w.alloc (.cells (ylA 2 D L G gr sz ex fam F) 94)) (yfL ng e f) 157;have b0:=aa (af w (.cells (ylA 2 D L G gr sz ex fam F) 94)) (af _ (.cells (yfA ng e f) 157));rw[World.size_alloc] at m0;obtain⟨x0,x1,x2,x3,x4,x5,x6,x7,x8⟩:=l0.cs9;obtain⟨u0,u1,u2⟩:=m0.cs3
 go_enter func144,ntmps144
 go_wp2_with fail
 go_region_held3 (fun wq=>(wq.cell? ⟨w.heap.size,0,none⟩=some (yi 2)∧wq.cell? ⟨w.heap.size,1,none⟩=some (yi D)∧wq.cell? ⟨w.heap.size,2,none⟩=some (yi L)∧wq.cell? ⟨w.heap.size,3,none⟩=some (yi G)∧wq.cell? ⟨w.heap.size,4,none⟩=some (.bool gr)∧wq.cell? ⟨w.heap.size,5,none⟩=some (yi sz)∧wq.cell? ⟨w.heap.size,6,none⟩=some (yi ex)∧wq.cell? ⟨w.heap.size,7,none⟩=some (yi fam)∧wq.cell? ⟨w.heap.size,8,none⟩=some (.func (.func F) #[] #[]))∧(wq.cell? ⟨w.heap.size+1,0,none⟩=some (.bool ng)∧wq.cell? ⟨w.heap.size+1,1,none⟩=some (yi e)∧wq.cell? ⟨w.heap.size+1,2,none⟩=some (.int .u64 f))) (go_keep) (first
  | (go_at_call 205;refine(HL.out _).mono ?_;rintro z w2 ⟨rfl,b2⟩;have l2:=l0.drew.l b2;have m2:=m0.drew.l b2;have b02:=aa b0.drew b2;obtain⟨y0,y1,y2,y3,y4,y5,y6,y7,y8⟩:=l2.cs9;obtain⟨v0,v1,v2⟩:=m2.cs3))
 all_goals go_wp2
 all_goals go_ret2
 all_goals exact⟨by first|rfl|simp[Act.put],b02⟩
theorem Qe (qs:Bool)(ao:Option Addr)(ca:Nat)(xs:List Nat)(bo:Option Addr)(cb:Nat)(ys:List Nat)(E R D L G:Int)(gr:Bool)(w:World)(ha:Rd w .u32 (.slice ao xs.length ca) xs)(hb:Rd w .u32 (.slice bo ys.length cb) ys):
  yC 128 #[yrV qs (.slice ao xs.length ca) (.slice bo ys.length cb) E,ygV R D L G gr] w (yR w (yi (jg (eA xs ys E) (bk R D L G)))):=by
 rw[Uu];exact MY qs ao ca xs.length bo cb ys.length E R D L G gr _ _ _ _ w (fun w1 b1=>jC _ _ w1 (ha.l b1)) (fun w1 b1=>jC _ _ w1 (hb.l b1)) (fun w1=>nK E 20000 w1 (by omega) (by omega)) (fun w1=>vE R D L G gr w1)
theorem uh (R D L:Int)(gr:Bool)(N M:Nat)(E:Int)(h1:1≤D)(hN:N≠0)(hM:M≠0)(p:Int):io R D (cH R D L gr N M E)=cH R D L gr N M E∧gD R D (cH R D L gr N M E) p=p:=by
 have h:=rP R D L gr N M E h1 hN hM;unfold io gD;rw[if_neg (by omega),if_neg (by omega)];exact⟨rfl,rfl⟩
theorem CD (R D:Int)(d:Nat):io R D d=0↔d=0:=by
 unfold io;have h1:=bG (ai R*D.toNat);have h2:=bG (ai R*(D-1).toNat)
 split<;>omega
theorem PI (way:Int)(w1:World)(r:Nat)(hm:w1.heap[r]? =some (.map Yd 5)):(Instr.lookup 194 (.map (some r)) (yi way) false).run Tryz.prog w1= .ok (ac0 way) w1:=by
 by_cases h:iC way=true
 ·rcases zi h with rfl|rfl|rfl|rfl|rfl
  ·exact pj underlying194 underlying3 hm 1 rfl
  ·exact pj underlying194 underlying3 hm 2 rfl
  ·exact pj underlying194 underlying3 hm 3 rfl
  ·exact pj underlying194 underlying3 hm 4 rfl
  ·exact pj underlying194 underlying3 hm 5 rfl
 ·have hn: ¬(1≤way∧way≤5):=fun c=>h (decide_eq_true c)
  unfold ac0;rw[if_neg h];refine Yc underlying194 underlying3 hm way ?_ ?_
  ·kernel_rfl
  ·simp[Yd,Instr.findNow,XI,show¬way=1 by omega,show¬way=2 by omega,show¬way=3 by omega,show¬way=4 by omega,show¬way=5 by omega]
theorem PK {way:Int}(h:iC way=true)(half:Int)(odd neg:Bool)(w1:World):yC (T4 way) #[.agg #[yi half,.bool odd,.bool neg]] w1 (yR w1 (.bool (gY way half odd neg))):=by
 rcases zi h with rfl|rfl|rfl|rfl|rfl
 ·exact Yf half odd neg w1
 ·exact Yg half odd neg w1
 ·exact Yh half odd neg w1
 ·exact Yi half odd neg w1
 ·exact Yj half odd neg w1
theorem N7 (n:Int)(R sz ex:Nat)(D L G fam:Int)(gr:Bool)(F:Nat)(ng:Bool)(e f:Nat)(s:ByteArray)(w:World)(hs:s.size=sz)
  (HL:yJ 36 #[yi n] (.tuple #[ylV R D L G gr sz ex fam F,yi 0]))
  (HR:yJ 142 #[ylV R D L G gr sz ex fam F,.string s] (yfV ng e f)):
  yC 72 #[yi n,.string s] w (yR w (.tuple #[ylV R D L G gr sz ex fam F,yfV ng e f,yi 0])):=by
 have hsf:=cD;have hsn:=gn;have bl:=af w (.cells (yzA 0 0 0 0 false 0 0 0) 94);have bf:=af (w.alloc (.cells (yzA 0 0 0 0 false 0 0 0) 94)) (.cells (yfA false 0 0) 157);have l0:=(ah w (yzL 0 0 0 0 false 0 0 0) 94).l bf;have m0:=ah (w.alloc (.cells (yzA 0 0 0 0 false 0 0 0) 94)) (yfL false 0 0) 157;have b0:=aa bl bf;rw[World.size_alloc] at m0;clear bl bf;have HL':Hid _:=HL;have HR':Hid _:=HR;clear HL HR
 go_enter func72,ntmps72
 go_wp2_with fail
 refine(HL'.out _).mono ?_;rintro z w1 ⟨rfl,b1⟩;have bq:=af w1 (.cells (ylA R D L G gr sz ex fam F) 94);have l1:=((l0.l b1).l bq).drew;have m1:=((m0.l b1).l bq).drew;have q1:=ah w1 (ylL R D L G gr sz ex fam F) 94;have b01:=(aa (aa b0 b1) bq).drew;have q1d:=q1.drew;have hne0:w.heap.size≠w1.heap.size:=Nat.ne_of_lt (l0.l b1).lt;have hne1:w.heap.size+1≠w1.heap.size:=Nat.ne_of_lt (m0.l b1).lt;obtain⟨p0,p1,p2,p3,p4,p5,p6,p7,p8⟩:=q1.cs9;have hsz:((s.size:Int) != (sz:Int))=false:=by rw[hs];simp
 go_wp2_with fail
 go_region_held3 (fun wq=>wq.cell? ⟨w1.heap.size,0,none⟩=some (yi R)∧wq.cell? ⟨w1.heap.size,1,none⟩=some (yi D)∧wq.cell? ⟨w1.heap.size,2,none⟩=some (yi L)∧wq.cell? ⟨w1.heap.size,3,none⟩=some (yi G)∧wq.cell? ⟨w1.heap.size,4,none⟩=some (.bool gr)∧wq.cell? ⟨w1.heap.size,5,none⟩=some (yi sz)∧wq.cell? ⟨w1.heap.size,6,none⟩=some (yi ex)∧wq.cell? ⟨w1.heap.size,7,none⟩=some (yi fam)∧wq.cell? ⟨w1.heap.size,8,none⟩=some (.func (.func F) #[] #[])) (go_keep) (first
  | (go_at_call 142;refine(HR'.out _).mono ?_;rintro z w2 ⟨rfl,b2⟩;have l2:=l1.l b2;have m2:=m1.l b2;have q2:=q1d.l b2;have b02:=aa b01 b2;obtain⟨x0,x1,x2,x3,x4,x5,x6,x7,x8⟩:=l2.cs9;have jx0:=l2.f 0;have jx1:=l2.f 1;have jx2:=l2.f 2;have jx3:=l2.f 3;have jx4:=l2.f 4;have jx5:=l2.f 5;have jx6:=l2.f 6;have jx7:=l2.f 7;have jx8:=l2.f 8;obtain⟨y0,y1,y2⟩:=m2.cs3;have jy0:=m2.f 0;have jy1:=m2.f 1;have jy2:=m2.f 2;obtain⟨s0,s1,s2,s3,s4,s5,s6,s7,s8⟩:=q2.cs9))
 have hn1:w.heap.size+1≠w.heap.size:=Nat.succ_ne_self _;have cL:au ((((((((((((w2.setCell ⟨w.heap.size,0,none⟩ (yi R)).setCell ⟨w.heap.size,1,none⟩ (yi D)).setCell ⟨w.heap.size,2,none⟩ (yi L)).setCell ⟨w.heap.size,3,none⟩ (yi G)).setCell ⟨w.heap.size,4,none⟩ (.bool gr)).setCell ⟨w.heap.size,5,none⟩ (yi sz)).setCell ⟨w.heap.size,6,none⟩ (yi ex)).setCell ⟨w.heap.size,7,none⟩ (yi fam)).setCell ⟨w.heap.size,8,none⟩ (.func (.func F) #[] #[])).setCell ⟨w.heap.size+1,0,none⟩ (.bool ng)).setCell ⟨w.heap.size+1,1,none⟩ (yi e)).setCell ⟨w.heap.size+1,2,none⟩ (.int .u64 f)) w.heap.size 94 (ylL R D L G gr sz ex fam F):=((((((((((((l2.set 0 (yi R)).set 1 (yi D)).set 2 (yi L)).set 3 (yi G)).set 4 (.bool gr)).set 5 (yi sz)).set 6 (yi ex)).set 7 (yi fam)).set 8 (.func (.func F) #[] #[])).off hn1 0 (.bool ng)).off hn1 1 (yi e)).off hn1 2 (.int .u64 f));have cM:au ((((((((((((w2.setCell ⟨w.heap.size,0,none⟩ (yi R)).setCell ⟨w.heap.size,1,none⟩ (yi D)).setCell ⟨w.heap.size,2,none⟩ (yi L)).setCell ⟨w.heap.size,3,none⟩ (yi G)).setCell ⟨w.heap.size,4,none⟩ (.bool gr)).setCell ⟨w.heap.size,5,none⟩ (yi sz)).setCell ⟨w.heap.size,6,none⟩ (yi ex)).setCell ⟨w.heap.size,7,none⟩ (yi fam)).setCell ⟨w.heap.size,8,none⟩ (.func (.func F) #[] #[])).setCell ⟨w.heap.size+1,0,none⟩ (.bool ng)).setCell ⟨w.heap.size+1,1,none⟩ (yi e)).setCell ⟨w.heap.size+1,2,none⟩ (.int .u64 f)) (w.heap.size+1) 157 (yfL ng e f):=((((((((((((m2.off (Ne.symm hn1) 0 (yi R)).off (Ne.symm hn1) 1 (yi D)).off (Ne.symm hn1) 2 (yi L)).off (Ne.symm hn1) 3 (yi G)).off (Ne.symm hn1) 4 (.bool gr)).off (Ne.symm hn1) 5 (yi sz)).off (Ne.symm hn1) 6 (yi ex)).off (Ne.symm hn1) 7 (yi fam)).off (Ne.symm hn1) 8 (.func (.func F) #[] #[])).set 0 (.bool ng)).set 1 (yi e)).set 2 (.int .u64 f));have bR:=(((ag _ (w.heap.size+1) 0 (.bool ng)).trans (ag _ (w.heap.size+1) 1 (yi e))).trans (ag _ (w.heap.size+1) 2 (.int .u64 f))).below ((((((((((ag w2 w.heap.size 0 (yi R)).trans (ag _ w.heap.size 1 (yi D))).trans (ag _ w.heap.size 2 (yi L))).trans (ag _ w.heap.size 3 (yi G))).trans (ag _ w.heap.size 4 (.bool gr))).trans (ag _ w.heap.size 5 (yi sz))).trans (ag _ w.heap.size 6 (yi ex))).trans (ag _ w.heap.size 7 (yi fam))).trans (ag _ w.heap.size 8 (.func (.func F) #[] #[]))).below b02 (Nat.le_refl _)) (Nat.le_succ _);have hl:=run_loadVar_mid (P:=Tryz.prog) _ w.heap.size 0 94 (ylL R D L G gr sz ex fam F) _ cL.range underlying94 rfl (by kernel_rfl);have hm:=run_loadVar_mid (P:=Tryz.prog) _ (w.heap.size+1) 0 157 (yfL ng e f) _ cM.range underlying157 rfl (by kernel_rfl);have HH:Hid (_∧_∧_):=⟨hl,hm,bR⟩;clear hl hm bR cL cM l2 m2 q2 b02 l1 m1 q1 q1d b01 l0 m0 b0 bq b1 b2
 go_wp2
 obtain⟨hl,hm,bR⟩:=HH.out;exact bodyPost_ret (kg results72 rfl rfl rfl hl hm) rfl ⟨rfl,bR⟩
theorem abe (n R D L G c p:Int)(gr ng:Bool)(m:Nat)(t:ak)(s:ByteArray)(w:World)
  (HG:yJ 39 #[yi n] (.tuple #[ygV R D L G gr,yi 0]))
  (HD: ∀w1,yC 40 #[yi n,.string s] w1 (eP w1 c ng m p 0))
  (HN: ∀vo vc w1,yB w w1→Rd w1 .u32 (yT vo m vc) (Dg.dg 4294967296 m)→yC 41 #[yvV c ng (yT vo m vc) p,ygV R D L G gr] w1 (acy w1 t)):
  yC 23 #[yi n,.string s] w (Ys w c ng m p t 0):=by
 replace HG:Hid _:=HG;replace HD:Hid _:=HD;replace HN:Hid _:=HN;have bv:=af w (.cells (yvA 0 false yN 0) 57);have bx:=af (w.alloc (.cells (yvA 0 false yN 0) 57)) (.cells (ydA false yN 0) 59);have v0:=(ah w (yvL 0 false yN 0) 57).l bx;have x0:=ah (w.alloc (.cells (yvA 0 false yN 0) 57)) (ydL false yN 0) 59;have b0:=aa bv bx;rw[World.size_alloc] at x0;clear bv bx
 go_enter func23,ntmps23
 go_upto_region 1 with fail
 generalize(w.alloc (.cells (yvA 0 false yN 0) 57)).alloc (.cells (ydA false yN 0) 59)=W0 at v0 x0 b0⊢
 go_wp2_with fail
 refine(HG.out _).mono ?_;rintro z w1 ⟨rfl,b1⟩;have bg:=af w1 (.cells (ygA R D L G gr) 49);have g1:=ah w1 (ygL R D L G gr) 49;have v1:=(v0.l b1).l bg;have x1:=(x0.l b1).l bg;have b01:=aa (aa b0 b1) bg;have hlG:w.heap.size+1<w1.heap.size:=(x0.l b1).lt
 go_upto_region 4 with fail
 generalize w1.alloc (.cells (ygA R D L G gr) 49)=WG at g1 v1 x1 b01⊢;generalize w1.heap.size=PG at g1 hlG⊢;clear v0 x0 b0 b1 bg HG
 go_wp2_with fail
 refine(HD.out _).mono ?_;rintro z w2 ⟨vv,rfl,r2,b2⟩;obtain⟨vo,vc,hv⟩:=r2.shape;subst hv;have bl:=af w2 (.cells (yvA c ng (yT vo m vc) p) 57);have q2:=ah w2 (yvL c ng (yT vo m vc) p) 57;have g2:=(g1.l b2).l bl;have v2:=(v1.l b2).l bl;have x2:=(x1.l b2).l bl;have rr:=r2.l bl;have b02:=aa (aa b01 b2) bl;have hlQ:PG<w2.heap.size:=(g1.l b2).lt
 go_upto_region 7 with fail
 generalize w2.alloc (.cells (yvA c ng (yT vo m vc) p) 57)=W2 at q2 g2 v2 x2 rr b02⊢;generalize w2.heap.size=PQ at q2 hlQ⊢;clear v1 x1 g1 b01 b2 bl r2 HD;have qd:=q2.drew;have gd:=g2.drew;have vd:=v2.drew;have xd:=x2.drew;have rd:=Rd.l rr ((Below.refl _ _).drew);have n1:w.heap.size≠PG:=by omega
 have n2:w.heap.size+1≠PG:=by omega
 have n3:w.heap.size≠PQ:=by omega
 have n4:w.heap.size+1≠PQ:=by omega
 have bd:=b02.drew;obtain⟨a0,a1,a2,a3⟩:=q2.cs4;obtain⟨y0,y1,y2,y3,y4⟩:=g2.cs5
 go_region_held3 (fun wq=>(wq.cell? ⟨PQ,0,none⟩=some (yi c)∧wq.cell? ⟨PQ,1,none⟩=some (.bool ng)∧wq.cell? ⟨PQ,2,none⟩=some (yT vo m vc)∧wq.cell? ⟨PQ,3,none⟩=some (yi p))∧(wq.cell? ⟨PG,0,none⟩=some (yi R)∧wq.cell? ⟨PG,1,none⟩=some (yi D)∧wq.cell? ⟨PG,2,none⟩=some (yi L)∧wq.cell? ⟨PG,3,none⟩=some (yi G)∧wq.cell? ⟨PG,4,none⟩=some (.bool gr))) (go_keep) (first
  | (go_at_call 41;refine(HN.out _ _ _ bd rd).mono ?_;rintro z w3 ⟨sv,rfl,r4,fx,b3⟩;obtain⟨so,sc,hs⟩:=r4.shape;subst hs;have q3:=qd.l b3;have g3:=gd.l b3;have v3:=vd.l b3;have x3:=xd.l b3;have r3:=rd.l b3;have b03:=aa bd b3;obtain⟨c0,c1,c2,c3⟩:=q3.cs4;obtain⟨d0,d1,d2,d3,d4⟩:=g3.cs5;obtain⟨e0,e1,e2,e3⟩:=v3.cs4;obtain⟨k0,k1,k2⟩:=x3.cs3;have f0:=v3.f 0;have f1:=v3.f 1;have f2:=v3.f 2;have f3:=v3.f 3;have g0:=x3.f 0;have g1:=x3.f 1;have g2:=x3.f 2))
 all_goals
  have cV:au (((((((w3.setCell ⟨w.heap.size,0,none⟩ (yi c)).setCell ⟨w.heap.size,1,none⟩ (.bool ng)).setCell ⟨w.heap.size,2,none⟩ (yT vo m vc)).setCell ⟨w.heap.size,3,none⟩ (yi p)).setCell ⟨w.heap.size+1,0,none⟩ (.bool t.s)).setCell ⟨w.heap.size+1,1,none⟩ (yT so t.n sc)).setCell ⟨w.heap.size+1,2,none⟩ (yi t.e)) w.heap.size 57 (yvL c ng (yT vo m vc) p):=(((((((v3.set 0 (yi c)).set 1 (.bool ng)).set 2 (yT vo m vc)).set 3 (yi p)).off (show w.heap.size+1≠w.heap.size by omega) 0 (.bool t.s)).off (show w.heap.size+1≠w.heap.size by omega) 1 (yT so t.n sc)).off (show w.heap.size+1≠w.heap.size by omega) 2 (yi t.e))
  have cX:au (((((((w3.setCell ⟨w.heap.size,0,none⟩ (yi c)).setCell ⟨w.heap.size,1,none⟩ (.bool ng)).setCell ⟨w.heap.size,2,none⟩ (yT vo m vc)).setCell ⟨w.heap.size,3,none⟩ (yi p)).setCell ⟨w.heap.size+1,0,none⟩ (.bool t.s)).setCell ⟨w.heap.size+1,1,none⟩ (yT so t.n sc)).setCell ⟨w.heap.size+1,2,none⟩ (yi t.e)) (w.heap.size+1) 59 (yDL t so sc):=(((((((x3.off (show w.heap.size≠w.heap.size+1 by omega) 0 (yi c)).off (show w.heap.size≠w.heap.size+1 by omega) 1 (.bool ng)).off (show w.heap.size≠w.heap.size+1 by omega) 2 (yT vo m vc)).off (show w.heap.size≠w.heap.size+1 by omega) 3 (yi p)).set 0 (.bool t.s)).set 1 (yT so t.n sc)).set 2 (yi t.e))
  have cX0:=((((x3.off (show w.heap.size≠w.heap.size+1 by omega) 0 (yi c)).off (show w.heap.size≠w.heap.size+1 by omega) 1 (.bool ng)).off (show w.heap.size≠w.heap.size+1 by omega) 2 (yT vo m vc)).off (show w.heap.size≠w.heap.size+1 by omega) 3 (yi p))
  have bu1:=(((ag w3 w.heap.size 0 (yi c)).trans (ag _ w.heap.size 1 (.bool ng))).trans (ag _ w.heap.size 2 (yT vo m vc))).trans (ag _ w.heap.size 3 (yi p));have bu2:=((ag ((((w3.setCell ⟨w.heap.size,0,none⟩ (yi c)).setCell ⟨w.heap.size,1,none⟩ (.bool ng)).setCell ⟨w.heap.size,2,none⟩ (yT vo m vc)).setCell ⟨w.heap.size,3,none⟩ (yi p)) (w.heap.size+1) 0 (.bool t.s)).trans (ag _ (w.heap.size+1) 1 (yT so t.n sc))).trans (ag _ (w.heap.size+1) 2 (yi t.e));have bR:=bu2.below (bu1.below b03 (Nat.le_refl _)) (by omega);have rV1:=bu1.rd r3 (aX r3 v3 (by simp));have rV:=bu2.rd rV1 (aX rV1 cX0 (by simp));have rX1:=bu1.rd r4 (aX r4 v3 (by simp));have rX:=bu2.rd rX1 (aX rX1 cX0 (by simp));have hl1:=run_loadVar_mid (P:=Tryz.prog) _ w.heap.size 0 57 (yvL c ng (yT vo m vc) p) _ cV.range underlying57 rfl (by kernel_rfl);have hl2:=run_loadVar_mid (P:=Tryz.prog) _ (w.heap.size+1) 0 59 (yDL t so sc) _ cX.range underlying59 rfl (by kernel_rfl);have HH:Hid (_∧_∧_∧_∧_):=⟨hl1,hl2,rV,rX,bR⟩;clear hl1 hl2 bR bu1 bu2 cV cX cX0 rV rV1 rX rX1;clear v3 x3 r3 r4 b03 q3 g3
  go_wp2
  obtain⟨hl1,hl2,rV,rX,bR⟩:=HH.out;exact bodyPost_ret (kg results23 rfl rfl rfl hl1 hl2) rfl ⟨_,_,rfl,rV,rX,(fun a n c hv=>Nat.le_trans bd.size (fx a n c hv)),bR⟩
open Go.Shelf Go.RowKit
shelf_lay Lays.n145 Nm 145 at Tryz as lays145
shelf_lay Lays.n103 Nm 103 at Tryz as lays103
shelf_lay Lays.n172 Nm 172 at Tryz as lays172
shelf_lay LaysM.n171 Nm 171 at Tryz as lays171
def powN:String:=(Rows.machineChecksRow.laid.map (fun p=>p.1)).getD 2 ""
def TxW (w:World):Prop:=Tab w∧(∃m:Int,w.cell? ⟨lays145_ren.g 1,0,none⟩=some (yi m))∧Lib.TabIs Tryz.prog w powN .u64 Lib.pow10Tab
theorem TxW.l {w w':World}(h:TxW w)(hb:yB w w'):TxW w':=by
 obtain⟨h1,⟨m,h2⟩,h3⟩:=h;exact⟨h1.l hb,⟨m,cell_later hb h2⟩,Lib.tabBelow_of_tabIs h3 w' hb⟩
theorem drewN_below (w:World)(n:Nat):yB w (w.drewN n):=⟨rfl,rfl,rfl,Nat.le_refl _,fun _ _=>rfl⟩
theorem cut_any (s sep:ByteArray)(w:World)(hs:s.size≤1000)(hT:TxW w):
  yC 122 #[.string s,.string sep] w (yR w (.tuple #[.string ⟨(Lib.cut s.data.toList sep.data.toList).1.toArray⟩,.string ⟨(Lib.cut s.data.toList sep.data.toList).2.1.toArray⟩,.bool (Lib.cut s.data.toList sep.data.toList).2.2])):=by
 obtain⟨-,⟨m,hm⟩,-⟩:=hT;refine(Any.strings_Cut lays145 s sep m w (by omega) hm).mono ?_;rintro z w' ⟨rfl,n,rfl⟩;exact⟨rfl,drewN_below w n⟩
theorem prefix_any (s p:ByteArray)(w:World):
  yC 121 #[.string s,.string p] w (yR w (.tuple #[.string ⟨(Lib.trimPrefix s.data.toList p.data.toList).toArray⟩,.bool (Lib.hasPrefix s.data.toList p.data.toList)])):=by
 refine(Any.strings_CutPrefix lays103 s p w).mono ?_;rintro z w' ⟨rfl,rfl⟩;exact⟨rfl,Below.refl _ _⟩
theorem atoi_any (s:ByteArray)(n:Int)(w:World)(hs:s.size≤18)(h:Lib.atoi s.data.toList=some n):
  yC 182 #[.string s] w (yR w (.tuple #[yi n,.nilIface])):=by
 refine(Any.strconv_Atoi lays172 s n hs h w).mono ?_;rintro z w' ⟨rfl,t,rfl⟩;exact⟨rfl,Joins.below_bytesWorld _ w _ t (Nat.le_refl _)⟩
theorem itoa_any (n:Int)(w:World)(h0: -9223372036854775808≤n)(h1:n≤9223372036854775807)(hT:TxW w):
  yC 53 #[yi n] w (yR w (.string ⟨(Lib.itoa n).toArray⟩)):=by
 refine(Any.strconv_Itoa lays171 n h0 h1 w hT.2.2).mono ?_;rintro z w' ⟨rfl,k,os,rfl⟩;exact⟨rfl,Lib.below_grow _ w (Nat.le_refl _) k os⟩
theorem RT (R D L G:Int)(gr s:Bool)(ao:Option Addr)(la ca:Nat)(e:Int)(w:World)
  (HSG:yH w 135 #[ydV s (.slice ao la ca) e] (yi 0)):
  yC 263 #[ygV R D L G gr,ydV s (.slice ao la ca) e] w (D7 w true 0 L):=by
 replace HSG:Hid _:=HSG;have b1:=aa (aa (af w (.cells (ygA R D L G gr) 197)) (af _ (.cells (ydA s (.slice ao la ca) e) 86))) (af _ (.cells #[yN,yi 0] 212));have g1:=((ah w (ygL R D L G gr) 197).l (af _ (.cells (ydA s (.slice ao la ca) e) 86))).l (af _ (.cells #[yN,yi 0] 212));have q1:=(ah (w.alloc (.cells (ygA R D L G gr) 197)) (ydL s (.slice ao la ca) e) 86).l (af _ (.cells #[yN,yi 0] 212));have c1:=ah ((w.alloc (.cells (ygA R D L G gr) 197)).alloc (.cells (ydA s (.slice ao la ca) e) 86)) [yN,yi 0] 212;simp only[World.size_alloc] at q1 c1;obtain⟨y0,y1,y2⟩:=q1.cs3
 go_enter func263,ntmps263
 go_wp2_with fail
 refine(HSG.out _ b1).mono ?_;rintro z w2 ⟨rfl,bb2⟩;clear y0 y1 y2;have g_2:=g1.l bb2;have q_2:=q1.l bb2;have c_2:=c1.l bb2;have b0_2:=aa b1 bb2;clear g1 q1 c1 b1 bb2;have x2:=g_2.c 2 rfl;have d0:=c_2.c 0 rfl;have f0:=c_2.f 0;have d1:=c_2.c 1 rfl;have f1:=c_2.f 1
 go_wp2
 have bu:But (w.heap.size+1+1) w2 ((w2.setCell ⟨w.heap.size+1+1,0,none⟩ yN).setCell ⟨w.heap.size+1+1,1,none⟩ (yi L)):=(ag w2 (w.heap.size+1+1) 0 yN).trans (ag _ (w.heap.size+1+1) 1 (yi L));have cX:au ((w2.setCell ⟨w.heap.size+1+1,0,none⟩ yN).setCell ⟨w.heap.size+1+1,1,none⟩ (yi L)) (w.heap.size+1+1) 212 [yN,yi L]:=(c_2.set 0 yN).set 1 (yi L);have bX:=bu.below b0_2 (show w.heap.size≤w.heap.size+1+1 by omega)
 obtain⟨s0,s1⟩:=cX.cs2;refine bodyPost_ret (v:= .tuple #[.agg #[yN,yi L],.bool true]) (by simp[results,results263,go_sem,s0,s1]) rfl ?_;exact⟨_,rfl,aQ _ _ _ _,bX⟩
theorem Zr (R D L G:Int)(gr s:Bool)(ao:Option Addr)(la ca:Nat)(p:Int)(x1 x2 x3:Bool)(wd nc gc c:Int)(far rs:Bool)(rn:Nat)(re:Int)(w:World)
  (HA: ¬nc=0→rs=false∧rn=0∧re=0∧c=nc) (HB:nc=0→ ¬gc=0→rs=false∧rn=0∧re=0∧c=gc) (HC:nc=0→gc=0→far=true→rs=false∧rn=0∧re=0∧c=3)
  (HN:yH w 90 #[.slice ao la ca] (yi nc))
  (HG:yJ 146 #[ygV R D L G gr] (yi gc))
  (HF: ∀w1,yC 147 #[yi p,yi 20000] w1 fun z w'=>z= .returned (.bool far)∧w'=w1)
  (HM:nc=0→gc=0→far=false→yJ 148 #[ygV R D L G gr,.bool s,.agg #[.slice ao la ca,yi p]] (ydV s (.slice ao la ca) (wd*p)))
  (HS:nc=0→gc=0→far=false→ ∀w1,yB w w1→yC 149 #[ydV s (.slice ao la ca) (wd*p)] w1 (gR w1 (⟨rs,rn,re⟩,c))):
  yC 74 #[ypV s (.slice ao la ca) p x1 x2 x3,ygV R D L G gr] w (gR w (⟨rs,rn,re⟩,c)):=by
 replace HA:Hid _:=HA;replace HB:Hid _:=HB;replace HC:Hid _:=HC;replace HN:Hid _:=HN;replace HG:Hid _:=HG;replace HF:Hid _:=HF;replace HM:Hid _:=HM;replace HS:Hid _:=HS;have b1:=aa (aa (af w (.cells (ypA s (.slice ao la ca) p x1 x2 x3) 140)) (af _ (.cells (ygA R D L G gr) 49))) (af _ (.cells (ydA false yN 0) 59));have q1:=((ah w (ypL s (.slice ao la ca) p x1 x2 x3) 140).l (af _ (.cells (ygA R D L G gr) 49))).l (af _ (.cells (ydA false yN 0) 59));have g1:=(ah (w.alloc (.cells (ypA s (.slice ao la ca) p x1 x2 x3) 140)) (ygL R D L G gr) 49).l (af _ (.cells (ydA false yN 0) 59));have c1:=ah ((w.alloc (.cells (ypA s (.slice ao la ca) p x1 x2 x3) 140)).alloc (.cells (ygA R D L G gr) 49)) (ydL false yN 0) 59;simp only[World.size_alloc] at g1 c1
 by_cases hn:nc=0
 ·have HB1:Hid _:=HB.out hn
  have HC1:Hid _:=HC.out hn;have HM1:Hid _:=HM.out hn;have HS1:Hid _:=HS.out hn;clear HA HB HC HM HS;subst hn
  by_cases hg:gc=0
  ·have HC2:Hid _:=HC1.out hg
   have HM2:Hid _:=HM1.out hg;have HS2:Hid _:=HS1.out hg;clear HB1 HC1 HM1 HS1;subst hg
   cases far
   ·have HM3:Hid _:=HM2.out rfl
    have HS3:Hid _:=HS2.out rfl;clear HC2 HM2 HS2;have y1:=q1.c 1 rfl
    go_enter func74,ntmps74
    go_wp2_with fail
    refine(HN.out _ b1).mono ?_;rintro z w2 ⟨rfl,bb2⟩;clear y1;have q_2:=q1.l bb2;have g_2:=g1.l bb2;have c_2:=c1.l bb2;have b0_2:=aa b1 bb2;clear q1 g1 c1 b1 bb2;obtain⟨x0,x1,x2,x3,x4⟩:=g_2.cs5
    go_wp2_with fail
    refine(HG.out _).mono ?_;rintro z w3 ⟨rfl,bb3⟩;have q_3:=q_2.l bb3;have g_3:=g_2.l bb3;have c_3:=c_2.l bb3;have b0_3:=aa b0_2 bb3;clear q_2 g_2 c_2 b0_2 bb3;clear x0 x1 x2 x3 x4;obtain⟨y0,y1,y2⟩:=q_3.cs3;obtain⟨x0,x1,x2,x3,x4⟩:=g_3.cs5
    go_wp2_with fail
    refine(HF.out _).mono ?_;rintro z w4 ⟨rfl,rfl⟩
    go_wp2_with fail
    refine(HM3.out _).mono ?_;rintro z w5 ⟨rfl,bb5⟩;clear x0 x1 x2 x3 x4 y0 y1 y2;have q_4:=q_3.l bb5;have g_4:=g_3.l bb5;have c_4:=c_3.l bb5;have b0_4:=aa b0_3 bb5;clear q_3 g_3 c_3 b0_3 bb5;have hlt:w.heap.size+1+1<w5.heap.size:=c_4.lt
    go_wp2_with fail
    refine(HS3.out _ b0_4).mono ?_;rintro z w6 ⟨vr,rfl,o6,bb5⟩;have q_5:=q_4.l bb5;have g_5:=g_4.l bb5;have c_5:=c_4.l bb5;have b0_5:=aa b0_4 bb5;clear q_4 g_4 c_4 b0_4 bb5;obtain⟨so,sc,hvr⟩:=o6.rd.shape;subst hvr;have d0:=c_5.c 0 rfl;have f0:=c_5.f 0;have d1:=c_5.c 1 rfl;have f1:=c_5.f 1;have d2:=c_5.c 2 rfl;have f2:=c_5.f 2
    go_wp2
    have bu:But (w.heap.size+1+1) w6 (((w6.setCell ⟨w.heap.size+1+1,0,none⟩ (.bool rs)).setCell ⟨w.heap.size+1+1,1,none⟩ (yT so rn sc)).setCell ⟨w.heap.size+1+1,2,none⟩ (yi re)):=((ag w6 (w.heap.size+1+1) 0 (.bool rs)).trans (ag _ (w.heap.size+1+1) 1 (yT so rn sc))).trans (ag _ (w.heap.size+1+1) 2 (yi re));have cX:au (((w6.setCell ⟨w.heap.size+1+1,0,none⟩ (.bool rs)).setCell ⟨w.heap.size+1+1,1,none⟩ (yT so rn sc)).setCell ⟨w.heap.size+1+1,2,none⟩ (yi re)) (w.heap.size+1+1) 59 (ydL rs (yT so rn sc) re):=((c_5.set 0 (.bool rs)).set 1 (yT so rn sc)).set 2 (yi re);have bX:=bu.below b0_5 (show w.heap.size≤w.heap.size+1+1 by omega)
    have oX:=bu.own o6 c_5 (by decide);obtain⟨s0,s1,s2⟩:=cX.cs3;refine bodyPost_ret (v:= .tuple #[ydV rs (yT so rn sc) re,yi c]) (by simp[results,results74,go_sem,s0,s1,s2]) rfl ?_;exact⟨_,rfl,oX.lower (by omega),bX⟩
   ·obtain⟨h1,h2,h3,h4⟩:=HC2.out rfl
    clear HC2 HM2 HS2;subst h1 h2 h3 h4;have y1:=q1.c 1 rfl
    go_enter func74,ntmps74
    go_wp2_with fail
    refine(HN.out _ b1).mono ?_;rintro z w2 ⟨rfl,bb2⟩;clear y1;have q_2:=q1.l bb2;have g_2:=g1.l bb2;have c_2:=c1.l bb2;have b0_2:=aa b1 bb2;clear q1 g1 c1 b1 bb2;obtain⟨x0,x1,x2,x3,x4⟩:=g_2.cs5
    go_wp2_with fail
    refine(HG.out _).mono ?_;rintro z w3 ⟨rfl,bb3⟩;have q_3:=q_2.l bb3;have g_3:=g_2.l bb3;have c_3:=c_2.l bb3;have b0_3:=aa b0_2 bb3;clear q_2 g_2 c_2 b0_2 bb3;clear x0 x1 x2 x3 x4;have y2:=q_3.c 2 rfl
    go_wp2_with fail
    refine(HF.out _).mono ?_;rintro z w4 ⟨rfl,rfl⟩;clear y2;have d0:=c_3.c 0 rfl;have f0:=c_3.f 0;have d1:=c_3.c 1 rfl;have f1:=c_3.f 1;have d2:=c_3.c 2 rfl;have f2:=c_3.f 2
    go_wp2
    have bu:But (w.heap.size+1+1) w4 (((w4.setCell ⟨w.heap.size+1+1,0,none⟩ (.bool false)).setCell ⟨w.heap.size+1+1,1,none⟩ yN).setCell ⟨w.heap.size+1+1,2,none⟩ (yi 0)):=((ag w4 (w.heap.size+1+1) 0 (.bool false)).trans (ag _ (w.heap.size+1+1) 1 yN)).trans (ag _ (w.heap.size+1+1) 2 (yi 0));have cX:au (((w4.setCell ⟨w.heap.size+1+1,0,none⟩ (.bool false)).setCell ⟨w.heap.size+1+1,1,none⟩ yN).setCell ⟨w.heap.size+1+1,2,none⟩ (yi 0)) (w.heap.size+1+1) 59 (ydL false yN 0):=((c_3.set 0 (.bool false)).set 1 yN).set 2 (yi 0);have bX:=bu.below b0_3 (show w.heap.size≤w.heap.size+1+1 by omega)
    obtain⟨s0,s1,s2⟩:=cX.cs3;refine bodyPost_ret (v:= .tuple #[ydV false yN 0,yi 3]) (by simp[results,results74,go_sem,s0,s1,s2]) rfl ?_;exact⟨_,rfl,aQ _ _ _ _,bX⟩
  ·obtain⟨h1,h2,h3,h4⟩:=HB1.out hg
   clear HB1 HC1 HM1 HS1;have hgf:(gc==0)=false:=by simp[hg]
   subst h1 h2 h3 h4;have y1:=q1.c 1 rfl
   go_enter func74,ntmps74
   go_wp2_with fail
   refine(HN.out _ b1).mono ?_;rintro z w2 ⟨rfl,bb2⟩;clear y1;have q_2:=q1.l bb2;have g_2:=g1.l bb2;have c_2:=c1.l bb2;have b0_2:=aa b1 bb2;clear q1 g1 c1 b1 bb2;obtain⟨x0,x1,x2,x3,x4⟩:=g_2.cs5
   go_wp2_with fail
   refine(HG.out _).mono ?_;rintro z w3 ⟨rfl,bb3⟩;have q_3:=q_2.l bb3;have g_3:=g_2.l bb3;have c_3:=c_2.l bb3;have b0_3:=aa b0_2 bb3;clear q_2 g_2 c_2 b0_2 bb3;clear x0 x1 x2 x3 x4;have d0:=c_3.c 0 rfl;have f0:=c_3.f 0;have d1:=c_3.c 1 rfl;have f1:=c_3.f 1;have d2:=c_3.c 2 rfl;have f2:=c_3.f 2
   go_wp2
   have bu:But (w.heap.size+1+1) w3 (((w3.setCell ⟨w.heap.size+1+1,0,none⟩ (.bool false)).setCell ⟨w.heap.size+1+1,1,none⟩ yN).setCell ⟨w.heap.size+1+1,2,none⟩ (yi 0)):=((ag w3 (w.heap.size+1+1) 0 (.bool false)).trans (ag _ (w.heap.size+1+1) 1 yN)).trans (ag _ (w.heap.size+1+1) 2 (yi 0));have cX:au (((w3.setCell ⟨w.heap.size+1+1,0,none⟩ (.bool false)).setCell ⟨w.heap.size+1+1,1,none⟩ yN).setCell ⟨w.heap.size+1+1,2,none⟩ (yi 0)) (w.heap.size+1+1) 59 (ydL false yN 0):=((c_3.set 0 (.bool false)).set 1 yN).set 2 (yi 0);have bX:=bu.below b0_3 (show w.heap.size≤w.heap.size+1+1 by omega)
   obtain⟨s0,s1,s2⟩:=cX.cs3;refine bodyPost_ret (v:= .tuple #[ydV false yN 0,yi c]) (by simp[results,results74,go_sem,s0,s1,s2]) rfl ?_;exact⟨_,rfl,aQ _ _ _ _,bX⟩
 ·obtain⟨h1,h2,h3,h4⟩:=HA.out hn
  clear HA HB HC HM HS;have hnf:(nc==0)=false:=by simp[hn]
  subst h1 h2 h3 h4;have y1:=q1.c 1 rfl
  go_enter func74,ntmps74
  go_wp2_with fail
  refine(HN.out _ b1).mono ?_;rintro z w2 ⟨rfl,bb2⟩;clear y1;have q_2:=q1.l bb2;have g_2:=g1.l bb2;have c_2:=c1.l bb2;have b0_2:=aa b1 bb2;clear q1 g1 c1 b1 bb2;have d0:=c_2.c 0 rfl;have f0:=c_2.f 0;have d1:=c_2.c 1 rfl;have f1:=c_2.f 1;have d2:=c_2.c 2 rfl;have f2:=c_2.f 2
  go_wp2
  have bu:But (w.heap.size+1+1) w2 (((w2.setCell ⟨w.heap.size+1+1,0,none⟩ (.bool false)).setCell ⟨w.heap.size+1+1,1,none⟩ yN).setCell ⟨w.heap.size+1+1,2,none⟩ (yi 0)):=((ag w2 (w.heap.size+1+1) 0 (.bool false)).trans (ag _ (w.heap.size+1+1) 1 yN)).trans (ag _ (w.heap.size+1+1) 2 (yi 0));have cX:au (((w2.setCell ⟨w.heap.size+1+1,0,none⟩ (.bool false)).setCell ⟨w.heap.size+1+1,1,none⟩ yN).setCell ⟨w.heap.size+1+1,2,none⟩ (yi 0)) (w.heap.size+1+1) 59 (ydL false yN 0):=((c_2.set 0 (.bool false)).set 1 yN).set 2 (yi 0);have bX:=bu.below b0_2 (show w.heap.size≤w.heap.size+1+1 by omega)
  obtain⟨s0,s1,s2⟩:=cX.cs3;refine bodyPost_ret (v:= .tuple #[ydV false yN 0,yi c]) (by simp[results,results74,go_sem,s0,s1,s2]) rfl ?_;exact⟨_,rfl,aQ _ _ _ _,bX⟩
theorem EQ (t:ak)(to0:Option Addr)(tc:Nat)(w:World)(hr:Rd w .u32 (yT to0 t.n tc) (Dg.dg 4294967296 t.n))(hL:(Dg.dg 4294967296 t.n).length≤100000)(hb:bitLen t.n≤128):
  yC 197 #[yDV t to0 tc,yi 128] w (yR w (yDV t to0 tc)):=by
 have HD:Hid (yJ 198 #[yDV t to0 tc] (yT to0 t.n tc)):=fun w1=>cN _ _ _ _ _ w1
 have HB:Hid (∀w1,yB w w1→yC 44 #[yT to0 t.n tc] w1 fun e w'=>e= .returned (yi ((bitLen t.n:Nat):Int))∧w'=w1):=fun w1 b=>by
  have:=kE _ _ w1 (hr.l b) (Dg.small_dg 4294967296 _ (by omega)) (Dg.norm_dg 4294967296 _ (by omega)) (by omega);rw[Dg.vl_dg _ _ (by omega)] at this;exact this
 have ax:=af w (.cells (yDA t to0 tc) 86);have ao:=af (w.alloc (.cells (yDA t to0 tc) 86)) (.cells (ydA false yN 0) 86);have x0:=(ah w (yDL t to0 tc) 86).l ao;have o0:=ah (w.alloc (.cells (yDA t to0 tc) 86)) (ydL false yN 0) 86;rw[World.size_alloc] at o0;have b0:=aa ax ao;clear ax ao hr hL;generalize bitLen t.n=k at*;have hk:IntKind.i64.wrap ((k:Int)-128)=(k:Int)-128:=IntWalk.i64_in _ ⟨by omega,by omega⟩;have hle:(k:Int)-128≤0:=by omega
 go_enter func197,ntmps197
 go_upto_region 1 with fail
 generalize(w.alloc (.cells (yDA t to0 tc) 86)).alloc (.cells (ydA false yN 0) 86)=W0 at x0 o0 b0⊢;obtain⟨y0,y1,y2⟩:=x0.cs3
 go_wp2_with fail
 refine(HD.out _).mono ?_;rintro z w1 ⟨rfl,b1⟩;have x1:=x0.l b1;have o1:=o0.l b1;have b01:=aa b0 b1;clear y0 y1 y2 x0 o0 b0 b1 HD
 go_wp2_with fail
 refine(HB.out _ b01).mono ?_;rintro z w2 ⟨rfl,rfl⟩;clear HB;obtain⟨y0,y1,y2⟩:=x1.cs3;have cR:au (((w2.setCell ⟨w.heap.size+1,0,none⟩ (.bool t.s)).setCell ⟨w.heap.size+1,1,none⟩ (yT to0 t.n tc)).setCell ⟨w.heap.size+1,2,none⟩ (yi t.e)) (w.heap.size+1) 86 (yDL t to0 tc):=(((o1.set 0 (.bool t.s)).set 1 (yT to0 t.n tc)).set 2 (yi t.e));have bu:=((ag w2 (w.heap.size+1) 0 (.bool t.s)).trans (ag _ (w.heap.size+1) 1 (yT to0 t.n tc))).trans (ag _ (w.heap.size+1) 2 (yi t.e));have bR:=bu.below b01 (by omega);have hl:=run_loadVar_mid (P:=Tryz.prog) _ (w.heap.size+1) 0 86 (yDL t to0 tc) _ cR.range underlying86 rfl (by kernel_rfl);have HH:Hid (_∧_):=⟨hl,bR⟩;obtain⟨z0,z1,z2⟩:=o1.cs3;have fz0:=o1.f 0;have fz1:=o1.f 1;have fz2:=o1.f 2;clear hl bR bu cR;clear o1 b01 x1
 go_wp2
 obtain⟨hl,bR⟩:=HH.out;exact bodyPost_ret (br results197 rfl hl) rfl ⟨rfl,bR⟩
end Go.Proofs.YtdhpndnncmagiaaGreatDoor
