/-
  Texts laid together: Co7, Dy5, Dl8, Co25, As3, As4, Cv9.
-/
import Derived.Test.YtddkchlamdhgcaaGreatDoorSu24
set_option maxRecDepth 100000
set_option maxHeartbeats 6400000
namespace Go.Proofs.YtddkchlamdhgcaaGreatDoor
open _root_.Go.Proofs.Tryz
open Go.RowKit
theorem Ko (g cap:Nat)(zs:List Nat)(w:World)(ho:ik w g zs)(hl:zs.length≤1000000000):
  yC 119 #[.slice (some ⟨g,0,none⟩) zs.length cap] w fun e w'=>
   e= .returned (.tuple #[])∧ik w' g zs.reverse∧w.grownBy w' (some g):=by
 go_enter func119,ntmps119
 go_wp2
 go_loopw [2,3] (fun iv jv wr=> ∃(i:Nat) (cur:List Nat),iv=yi i∧jv=yi ((zs.length:Int)-1-i)∧ik wr g cur∧XT zs cur i∧w.grownBy wr (some g))
  (fun iv jv _=>(intOf jv+1-intOf iv).toNat)
 case atStart=>exact⟨0,zs,rfl,by go_num,ho,⟨rfl,by omega,fun k hk=>by rw[if_neg (by omega)]⟩,ib _ _⟩
 case round=>
  obtain⟨i,cur,rfl,rfl,own,hI,gr⟩:=hrel;have h1:=hI.1;have h2:=hI.2.1
  by_cases hij:i<zs.length-1-i
  ·obtain⟨j,hj⟩: ∃j,zs.length-1-i=j:=⟨_,rfl⟩
   have hjI:(zs.length:Int)-1-i=(j:Int):=by omega
   have ci:=own.c i (by omega);have cj:=own.c j (by omega);have fi:=own.f i (by omega);have fj:=own.f j (by omega);have hst:=IJ hI hij;rw[hj] at hst hij;rw[hjI];have hjl:j<zs.length:=by omega
   have Hj:Hid _:=hjI;obtain⟨x,ex⟩: ∃x,cur.getD i 0=x:=⟨_,rfl⟩;obtain⟨y,ey⟩: ∃y,cur.getD j 0=y:=⟨_,rfl⟩;rw[ex] at ci hst;rw[ey] at cj hst;clear hj hjI ex ey hI
   go_wp2
   go_region
   all_goals go_wp2
   all_goals go_roundw
   case rel=>exact⟨i+1,_,by go_num,by have:=Hj.out;go_num,((own.store i y).store j x).drew,hst,eF (eF gr (bI _ _ _ _)) ((eF (bI _ _ _ _) (vm _ _)))⟩
   case measure=>have:=Hj.out;simp[intOf];omega
  ·have hd: ¬((i:Int)< (zs.length:Int)-1-i):=by omega
   go_wp2
   go_end0
   rw[←MG hI hij];exact⟨rfl,own,gr⟩
theorem T8 (g cap m:Nat)(zs:List Nat)(w:World)(ho:ik w g zs)(hl:zs.length≤1000000000)(hm:zs.length=2*m):
  yC 120 #[.slice (some ⟨g,0,none⟩) zs.length cap] w fun e w'=>
   e= .returned (.tuple #[])∧ik w' g (Bg zs)∧w.grownBy w' (some g):=by
 go_enter func120,ntmps120
 go_wp2
 go_loopw [2] (fun iv wr=> ∃(i:Nat) (cur:List Nat),iv=yi ((2*i:Nat):Int)∧ik wr g cur∧WI zs cur i∧i≤m∧w.grownBy wr (some g))
  (fun iv _=>((zs.length:Int)-intOf iv).toNat)
 case atStart=>exact⟨0,zs,rfl,ho,⟨rfl,fun k hk=>by rw[if_neg (by omega)]⟩,by omega,ib _ _⟩
 case round=>
  obtain⟨i,cur,rfl,own,hI,him,gr⟩:=hrel;have h1:=hI.1
  by_cases hij:i<m
  ·obtain⟨a,ha⟩: ∃a,2*i=a:=⟨_,rfl⟩
   have ci:=own.c a (by omega);have cj:=own.c (a+1) (by omega);have fi:=own.f a (by omega);have fj:=own.f (a+1) (by omega);have hst:=aa3 hI (by omega);rw[ha] at hst⊢;have hal:a+1<zs.length:=by omega
   have Ha:Hid _:=ha;obtain⟨x,ex⟩: ∃x,cur.getD a 0=x:=⟨_,rfl⟩;obtain⟨y,ey⟩: ∃y,cur.getD (a+1) 0=y:=⟨_,rfl⟩;rw[ex] at ci hst;rw[ey] at cj hst;clear ha ex ey hI hm
   go_wp2
   go_region
   all_goals go_wp2
   all_goals go_roundw
   case rel=>exact⟨i+1,_,by have:=Ha.out;go_num,((own.store a y).store (a+1) x).drew,hst,by omega,eF (eF gr (bI _ _ _ _)) ((eF (bI _ _ _ _) (vm _ _)))⟩
   case measure=>simp[intOf];omega
  ·have hd: ¬(((2*i:Nat):Int)+1< (zs.length:Int)):=by omega
   go_wp2
   go_end0
   rw[←ac1 hI (by omega)];exact⟨rfl,own,gr⟩
theorem nS (s:Bool)(ao:Option Addr)(ca:Nat)(xs:List Nat)(e:Int)(w:World)(hr:Rd w .u32 (.slice ao xs.length ca) xs):
  yC 107 #[ydV s (.slice ao xs.length ca) e] w (yR w (yi (aS xs e))):=by
 have bA:=af w (.cells (ydA s (.slice ao xs.length ca) e) 76);have hk:=jC _ xs _ (hr.l bA);unfold aS;obtain⟨c,hc⟩: ∃c,chk xs=c:=⟨_,rfl⟩;rw[hc] at hk⊢;clear hc hr
 by_cases h:c=0
 ·subst h
  rw[if_pos rfl]
  by_cases h1:e< -20000
  ·rw[if_pos (Or.inl h1)]
   go_enter func107,ntmps107
   go_wp2_with fail
   refine hk.mono ?_;rintro z w' ⟨rfl,rfl⟩;clear hk
   go_wp2
   go_ret
   exact⟨rfl,bA⟩
  ·by_cases h2:20000<e
   ·rw[if_pos (Or.inr h2)]
    go_enter func107,ntmps107
    go_wp2_with fail
    refine hk.mono ?_;rintro z w' ⟨rfl,rfl⟩;clear hk
    go_wp2
    go_ret
    exact⟨rfl,bA⟩
   ·rw[if_neg (by omega)]
    go_enter func107,ntmps107
    go_wp2_with fail
    refine hk.mono ?_;rintro z w' ⟨rfl,rfl⟩;clear hk
    go_wp2
    go_ret
    exact⟨rfl,bA⟩
 ·rw[if_neg h]
  go_enter func107,ntmps107
  go_wp2_with fail
  refine hk.mono ?_;rintro z w' ⟨rfl,rfl⟩;clear hk
  go_wp2
  go_ret
  exact⟨rfl,bA⟩
theorem uI (v:Value)(t:ak)(w:World)(hv:Rv w v t):yC 12 #[v] w (dr w (dB t)):=by
 obtain⟨s0,rfl,hr⟩:=hv;refine(ja s0 t w hr).mono ?_;rintro z w' ⟨rfl,b⟩;exact⟨_,rfl,hr.l b,b⟩
theorem abR (n:Int)(R sz ex:Nat)(D L G fam:Int)(gr:Bool)(F:Nat)(ng:Bool)(e f:Nat)(c:Int)(s:ByteArray)(w:World)
  (HR:yJ 55 #[yi n,.string s] (.tuple #[ylV R D L G gr sz ex fam F,yfV ng e f,yi 0]))
  (HC:yJ 78 #[ylV R D L G gr sz ex fam F,yfV ng e f] (yi c)):
  yC 54 #[yi n,.string s] w (yR w (.tuple #[yi c,.bool ng,yi 0])):=by
 have hsf:=cD;have HR':Hid _:=HR;have HC':Hid _:=HC;clear HR HC
 go_enter func54,ntmps54
 go_wp2_with fail
 refine(HR'.out _).mono ?_;rintro z w1 ⟨rfl,b1⟩;have bl:=af w1 (.cells (ylA R D L G gr sz ex fam F) 116);have bf:=af (w1.alloc (.cells (ylA R D L G gr sz ex fam F) 116)) (.cells (yfA ng e f) 119);have l0:=((ah w1 (ylL R D L G gr sz ex fam F) 116).l bf).drew;have m0:=(ah (w1.alloc (.cells (ylA R D L G gr sz ex fam F) 116)) (yfL ng e f) 119).drew;rw[World.size_alloc] at m0;have b0:=(aa (aa b1 bl) bf).drew;obtain⟨x0,x1,x2,x3,x4,x5,x6,x7,x8⟩:=l0.cs9;obtain⟨u0,u1,u2⟩:=m0.cs3
 go_wp2_with fail
 go_region_held3 (fun wq=>(wq.cell? ⟨w1.heap.size,0,none⟩=some (yi R)∧wq.cell? ⟨w1.heap.size,1,none⟩=some (yi D)∧wq.cell? ⟨w1.heap.size,2,none⟩=some (yi L)∧wq.cell? ⟨w1.heap.size,3,none⟩=some (yi G)∧wq.cell? ⟨w1.heap.size,4,none⟩=some (.bool gr)∧wq.cell? ⟨w1.heap.size,5,none⟩=some (yi sz)∧wq.cell? ⟨w1.heap.size,6,none⟩=some (yi ex)∧wq.cell? ⟨w1.heap.size,7,none⟩=some (yi fam)∧wq.cell? ⟨w1.heap.size,8,none⟩=some (.func (.func F) #[] #[]))∧(wq.cell? ⟨w1.heap.size+1,0,none⟩=some (.bool ng)∧wq.cell? ⟨w1.heap.size+1,1,none⟩=some (yi e)∧wq.cell? ⟨w1.heap.size+1,2,none⟩=some (.int .u64 f))) (go_keep) (first
  | (go_at_call 78;refine(HC'.out _).mono ?_;rintro z w2 ⟨rfl,b2⟩;have l2:=l0.l b2;have m2:=m0.l b2;have b02:=aa b0 b2;obtain⟨y0,y1,y2,y3,y4,y5,y6,y7,y8⟩:=l2.cs9;obtain⟨v0,v1,v2⟩:=m2.cs3))
 all_goals go_wp2
 all_goals go_ret3
 all_goals exact⟨rfl,b02⟩
theorem QM (n wy fam R D L G:Int)(gr ng:Bool)(r pw:Nat)(w:World)(hR:IntKind.u32.wrap R=(r:Int))
  (HP: ∀q w1,yB w w1→w1.cell? ⟨q,0,none⟩=some (.int .u32 r)→yC 69 #[.slice (some ⟨q,0,none⟩) 1 1,yi D] w1 (Num w1 pw))
  (HM: ∀vo vc q w1,Rd w1 .u32 (yT vo pw vc) (Dg.dg 4294967296 pw)→w1.cell? ⟨q,0,none⟩=some (.int .u32 1)→yC 152 #[yT vo pw vc,.slice (some ⟨q,0,none⟩) 1 1] w1 (Num w1 (pw-1))):
  yC 141 #[ykV n wy fam R D L G gr,.bool ng] w (iT w 2 ng (pw-1) G):=by
 replace HP:Hid _:=HP;replace HM:Hid _:=HM;have ad:=af w (.cells (ykA n wy fam R D L G gr) 150);have av:=af (w.alloc (.cells (ykA n wy fam R D L G gr) 150)) (.cells (yvA 0 false yN 0) 68);have d0:=(ah w (ykL n wy fam R D L G gr) 150).l av;have v0:=ah (w.alloc (.cells (ykA n wy fam R D L G gr) 150)) (yvL 0 false yN 0) 68;rw[World.size_alloc] at v0;have b0:=aa ad av;clear ad av
 go_enter func141,ntmps141
 go_upto_region 1 with fail
 generalize(w.alloc (.cells (ykA n wy fam R D L G gr) 150)).alloc (.cells (yvA 0 false yN 0) 68)=W0 at d0 v0 b0⊢;have y3:=d0.c 3 rfl;have y4:=d0.c 4 rfl;have al:=af W0 (.cells #[.int .u32 r] 135);have hc:=(ah W0 [.int .u32 r] 135).c 0 rfl;have d1:=d0.l al;have v1:=v0.l al;have b01:=aa b0 al;have z3:=d1.c 3 rfl;have z4:=d1.c 4 rfl;clear al
 go_wp2_with fail
 refine(HP.out _ _ b01 hc).mono ?_;rintro z w2 ⟨u,rfl,o2,b2⟩;obtain⟨vo,vc,hu⟩:=o2.rd.shape;subst hu;have r2:=o2.rd;have d2:=d1.l b2;have v2:=v1.l b2;have b02:=aa b01 b2;clear y3 y4 z3 z4 hc d0 v0 b0 d1 v1 b01 b2 o2 HP hR
 go_upto_region 2 with fail
 have bW:yB w2 w2.drew:=(Below.refl _ _).drew;have d3:=d2.l bW;have v3:=v2.l bW;have r3:=r2.l bW;have b03:=aa b02 bW;clear bW d2 v2 r2 b02;refine wp_region_held_drew (S:=fun wq=>wq.cell? ⟨w.heap.size,6,none⟩=some (yi G)) (by kernel_rfl) (d3.c 6 rfl) (fun hS0=> ?_)
 refine tq 0 (.bool ng) rfl (fun w0 _=>by kernel_rfl) hS0 ?_
 refine tq 1 (yT vo pw vc) rfl (fun w0 _=>by kernel_rfl) hS0 ?_
 refine tq 4 (.pointer (some ⟨w.heap.size,3,none⟩)) rfl (fun w0 _=>by kernel_rfl) hS0 ?_
 refine tq 5 (.pointer (some ⟨w.heap.size,6,none⟩)) rfl (fun w0 _=>by kernel_rfl) hS0 ?_
 refine tq 6 (yi G) rfl (fun w0 hw0=>gU 3 (.tmp 20) rfl w.heap.size 6 (by kernel_rfl) _ _ underlying3 rfl hw0) hS0 ?_
 refine wpAnyH_ready (rs:=[2]) (by kernel_rfl) (by simp) ?_;refine AllReadyH.cons rfl (fun K hK=> ?_) AllReadyH.nil
 go_simp
 have al:=af w2.drew (.cells #[.int .u32 1] 135);have hc:=(ah w2.drew [.int .u32 1] 135).c 0 rfl;have d4:=d3.l al;have v4:=v3.l al;have r4:=r3.l al;have b04:=aa b03 al;refine hK.out _ _ (d4.c 6 rfl) (fun hS2=> ?_)
 clear hK K al d3 v3 r3 b03;refine wpAnyH_ready (rs:=[3]) (by kernel_rfl) (by simp) ?_;refine AllReadyH.cons rfl (fun K hK=> ?_) AllReadyH.nil
 go_simp
 refine(HM.out _ _ _ _ r4 hc).mono ?_;rintro z w5 ⟨u,rfl,o5,b5⟩;obtain⟨mo,mc,hu⟩:=o5.rd.shape;subst hu;have r5:=o5.rd;have d5:=d4.l b5;have v5:=v4.l b5;have b05:=aa b04 b5;refine hK.out _ _ (d5.c 6 rfl) (fun hS3=> ?_)
 clear hK K d4 v4 r4 b04 b5 o5 hc;have bu:=(((ag w5 (w.heap.size+1) 0 (yi 2)).trans (ag _ (w.heap.size+1) 1 (.bool ng))).trans (ag _ (w.heap.size+1) 2 (.slice mo (Dg.dg 4294967296 (pw-1)).length mc))).trans (ag _ (w.heap.size+1) 3 (yi G));have bR:yB w (w5.setCells (w.heap.size+1) 0 (yvL 2 ng (.slice mo (Dg.dg 4294967296 (pw-1)).length mc) G)):=bu.below b05 (by omega);have rR:Rd (w5.setCells (w.heap.size+1) 0 (yvL 2 ng (.slice mo (Dg.dg 4294967296 (pw-1)).length mc) G)) .u32 (.slice mo (Dg.dg 4294967296 (pw-1)).length mc) (Dg.dg 4294967296 (pw-1)):=bu.rd r5 (aX r5 v5 (by simp));have hth:w5.there (w.heap.size+1) 0 4:=dD v5;have hl:=run_loadVar_mid (P:=Tryz.prog) _ (w.heap.size+1) 0 68 (yvL 2 ng (.slice mo (Dg.dg 4294967296 (pw-1)).length mc) G) _ (World.rangeAt_setCells_same w5 (w.heap.size+1) 0 (yvL 2 ng (.slice mo (Dg.dg 4294967296 (pw-1)).length mc) G) hth) underlying68 rfl (by kernel_rfl);have HH:Hid (_∧_∧_):=⟨hl,rR,bR⟩;clear hl rR bR bu;refine tq 7 ((yvV 2 ng (.slice mo (Dg.dg 4294967296 (pw-1)).length mc) G)) rfl (fun w0 _=>by kernel_rfl) hS3 ?_
 refine wpAnyH_ready (rs:=[8]) (by kernel_rfl) (by simp) ?_;refine AllReadyH.cons rfl (fun K hK=> ?_) AllReadyH.nil
 rw[if_pos (by kernel_rfl)];refine wp_store_mid 68 (.tmp 4) (.tmp 22) rfl (w.heap.size+1) 0 (yvA 2 ng (.slice mo (Dg.dg 4294967296 (pw-1)).length mc) G) (by kernel_rfl) (by kernel_rfl) hth (by kernel_rfl) (by simp[Value.oneCell']) ?_;refine hK.out _ _ ?_ (fun hS8=> ?_)
 ·have hbu:But (w.heap.size+1) w5 (w5.setCells (w.heap.size+1) 0 (yvL 2 ng (.slice mo (Dg.dg 4294967296 (pw-1)).length mc) G)):=de _ _ _ _
  exact(hbu.loc d5 (by omega)).c 6 rfl
 clear hK K;refine wpAnyH_done (by kernel_rfl) ?_ _;obtain⟨hl,rR,bR⟩:=HH.out;clear HH hS0 hS2 hS3 hS8 d5 v5 r5 b05 hth HM;change Exit.then _ _ _ _ (World.setCells w5 (w.heap.size+1) 0 (yvL 2 ng (.slice mo (Dg.dg 4294967296 (pw-1)).length mc) G));generalize World.setCells w5 (w.heap.size+1) 0 (yvL 2 ng (.slice mo (Dg.dg 4294967296 (pw-1)).length mc) G)=WE at hl rR bR⊢
 go_wp2
 exact bodyPost_ret (br results141 rfl hl) rfl ⟨_,rfl,rR,bR⟩
theorem Id (n wy fam R D L G pw:Int)(gr ng ex un:Bool)(ao:Option Addr)(la ca:Nat)(m:Nat)(w:World)(hla:la=(Dg.dg 4294967296 m).length)(hr:Rd w .u32 (.slice ao la ca) (Dg.dg 4294967296 m))(hlt:un=true→ ¬pw<L)(cl fl:Int)(hcl:cl=if la=0 then 1 else 2)(hfl:fl=if ex=true then 0 else if un=true then 3 else 1):
  yC 76 #[ykV n wy fam R D L G gr,ypV ng (.slice ao la ca) pw ex false un] w (B6 w cl ng m pw fl):=by
 have HE:Hid (la=(Dg.dg 4294967296 m).length∧cl=(if la=0 then 1 else 2)∧fl=if ex=true then 0 else if un=true then 3 else 1):=⟨hla,hcl,hfl⟩
 clear hcl hfl hla;have a1:=af w (.cells (ykA n wy fam R D L G gr) 150);have a2:=af (w.alloc (.cells (ykA n wy fam R D L G gr) 150)) (.cells (ypA ng (.slice ao la ca) pw ex false un) 80);have a3:=af ((w.alloc (.cells (ykA n wy fam R D L G gr) 150)).alloc (.cells (ypA ng (.slice ao la ca) pw ex false un) 80)) (.cells (yvA 0 false yN 0) 68);have d0:=((ah w (ykL n wy fam R D L G gr) 150).l a2).l a3;have p0:=(ah (w.alloc (.cells (ykA n wy fam R D L G gr) 150)) (ypL ng (.slice ao la ca) pw ex false un) 80).l a3;have v0:=ah ((w.alloc (.cells (ykA n wy fam R D L G gr) 150)).alloc (.cells (ypA ng (.slice ao la ca) pw ex false un) 80)) (yvL 0 false yN 0) 68;rw[World.size_alloc] at p0;rw[World.size_alloc,World.size_alloc] at v0;have b0:=aa (aa a1 a2) a3;clear a1 a2 a3
 go_enter func76,ntmps76
 go_upto_block 0 with fail
 generalize((w.alloc (.cells (ykA n wy fam R D L G gr) 150)).alloc (.cells (ypA ng (.slice ao la ca) pw ex false un) 80)).alloc (.cells (yvA 0 false yN 0) 68)=W0 at d0 p0 v0 b0⊢;have r0:=hr.l b0;clear hr;have al:=af W0 (.cells (yvA 2 ng (.slice ao la ca) pw) 68);have q1:=ah W0 (yvL 2 ng (.slice ao la ca) pw) 68;have p1:=p0.l al;have v1:=v0.l al;have r1:=r0.l al;have b1:=aa b0 al;have hq:w.heap.size+1+1<W0.heap.size:=v0.lt;have hne:W0.heap.size≠w.heap.size+1:=by omega
 obtain⟨x0,x1,x2,x3,x4,x5⟩:=p0.cs6;have y5:=d0.c 5 rfl;clear al p0 v0 b0 r0;have go: ∀UU,UU=un→(UU=false∨(UU=true∧ ¬pw<L)):=fun UU h=>by
  subst h
  cases UU
  ·exact .inl rfl
  ·exact .inr ⟨rfl,hlt rfl⟩
 rcases go un rfl with hun| ⟨hun,hl0⟩
 ·subst hun
  clear hlt go
  go_upto_region 6 with fail
  generalize W0.alloc (.cells (yvA 2 ng (.slice ao la ca) pw) 68)=WA at q1 p1 v1 r1 b1⊢;generalize W0.heap.size=Q at q1 hq hne⊢;clear x0 x1 x2 x3 x4 x5 y5 d0;obtain⟨x0,x1,x2,x3,x4,x5⟩:=p1.cs6
  by_cases hz:la=0
  ·have hz1:(((la:Nat):Int)==0)=true:=by rw[hz];rfl
   have hcl:cl=1:=by rw[HE.out.2.1,if_pos hz]
   subst hcl;clear hz;have c0:=q1.c 0 rfl;have f0:=q1.f 0;have bq:=ag WA Q 0 (yi 1);have q2:au (WA.setCell ⟨Q,0,none⟩ (yi 1)) Q 68 (yvL 1 ng (.slice ao la ca) pw):=q1.set 0 (yi 1);have p2:=bq.loc p1 (by omega);have v2:=bq.loc v1 (by omega);have r2:=bq.rd r1 (aX r1 q1 (by simp));have b2:=bq.below b1 (by omega)
   go_upto_block 1 with fail
   generalize WA.setCell ⟨Q,0,none⟩ (yi 1)=W1 at q2 p2 v2 r2 b2⊢;clear c0 f0 bq q1 p1 v1 r1 b1 x0 x1 x2 x3 x4 x5 hz1;obtain⟨x0,x1,x2,x3,x4,x5⟩:=p2.cs6;clear p2
   cases ex
   ·have hfl:fl=1:=HE.out.2.2
    subst hfl;clear HE;have cR:au ((((W1.setCell ⟨w.heap.size+1+1,0,none⟩ (yi 1)).setCell ⟨w.heap.size+1+1,1,none⟩ (.bool ng)).setCell ⟨w.heap.size+1+1,2,none⟩ (.slice ao la ca)).setCell ⟨w.heap.size+1+1,3,none⟩ (yi pw)) (w.heap.size+1+1) 68 (yvL 1 ng (.slice ao la ca) pw):=((((v2.set 0 (yi 1)).set 1 (.bool ng)).set 2 (.slice ao la ca)).set 3 (yi pw));have bu:=(((ag W1 (w.heap.size+1+1) 0 (yi 1)).trans (ag _ (w.heap.size+1+1) 1 (.bool ng))).trans (ag _ (w.heap.size+1+1) 2 (.slice ao la ca))).trans (ag _ (w.heap.size+1+1) 3 (yi pw));have bR:=bu.below b2 (by omega);have rR:=bu.rd r2 (aX r2 v2 (by simp));have hl:=run_loadVar_mid (P:=Tryz.prog) _ (w.heap.size+1+1) 0 68 (yvL 1 ng (.slice ao la ca) pw) _ cR.range underlying68 rfl (by kernel_rfl);have HH:Hid (_∧_∧_):=⟨hl,rR,bR⟩;obtain⟨z0,z1,z2,z3⟩:=v2.cs4;have fz0:=v2.f 0;have fz1:=v2.f 1;have fz2:=v2.f 2;have fz3:=v2.f 3;clear hl bR bu cR rR;obtain⟨k0,k1,k2,k3⟩:=q2.cs4;clear v2 b2 r2 q2
    go_wp2
    obtain⟨hl,rR,bR⟩:=HH.out;exact bodyPost_ret (aj results76 rfl rfl hl) rfl ⟨_,rfl,rR,bR⟩
   ·have hfl:fl=0:=HE.out.2.2
    subst hfl;clear HE;have cR:au ((((W1.setCell ⟨w.heap.size+1+1,0,none⟩ (yi 1)).setCell ⟨w.heap.size+1+1,1,none⟩ (.bool ng)).setCell ⟨w.heap.size+1+1,2,none⟩ (.slice ao la ca)).setCell ⟨w.heap.size+1+1,3,none⟩ (yi pw)) (w.heap.size+1+1) 68 (yvL 1 ng (.slice ao la ca) pw):=((((v2.set 0 (yi 1)).set 1 (.bool ng)).set 2 (.slice ao la ca)).set 3 (yi pw));have bu:=(((ag W1 (w.heap.size+1+1) 0 (yi 1)).trans (ag _ (w.heap.size+1+1) 1 (.bool ng))).trans (ag _ (w.heap.size+1+1) 2 (.slice ao la ca))).trans (ag _ (w.heap.size+1+1) 3 (yi pw));have bR:=bu.below b2 (by omega);have rR:=bu.rd r2 (aX r2 v2 (by simp));have hl:=run_loadVar_mid (P:=Tryz.prog) _ (w.heap.size+1+1) 0 68 (yvL 1 ng (.slice ao la ca) pw) _ cR.range underlying68 rfl (by kernel_rfl);have HH:Hid (_∧_∧_):=⟨hl,rR,bR⟩;obtain⟨z0,z1,z2,z3⟩:=v2.cs4;have fz0:=v2.f 0;have fz1:=v2.f 1;have fz2:=v2.f 2;have fz3:=v2.f 3;clear hl bR bu cR rR;obtain⟨k0,k1,k2,k3⟩:=q2.cs4;clear v2 b2 r2 q2
    go_wp2
    obtain⟨hl,rR,bR⟩:=HH.out;exact bodyPost_ret (aj results76 rfl rfl hl) rfl ⟨_,rfl,rR,bR⟩
  ·have hz1:(((la:Nat):Int)==0)=false:=beq_eq_false_iff_ne.2 (by omega)
   have hcl:cl=2:=by rw[HE.out.2.1,if_neg hz]
   subst hcl;clear hz
   go_upto_block 1 with fail
   have q2:=q1;have v2:=v1;have r2:=r1;have b2:=b1;clear q1 v1 r1 b1 p1 hz1;generalize WA=W1 at*
   cases ex
   ·have hfl:fl=1:=HE.out.2.2
    subst hfl;clear HE;have cR:au ((((W1.setCell ⟨w.heap.size+1+1,0,none⟩ (yi 2)).setCell ⟨w.heap.size+1+1,1,none⟩ (.bool ng)).setCell ⟨w.heap.size+1+1,2,none⟩ (.slice ao la ca)).setCell ⟨w.heap.size+1+1,3,none⟩ (yi pw)) (w.heap.size+1+1) 68 (yvL 2 ng (.slice ao la ca) pw):=((((v2.set 0 (yi 2)).set 1 (.bool ng)).set 2 (.slice ao la ca)).set 3 (yi pw));have bu:=(((ag W1 (w.heap.size+1+1) 0 (yi 2)).trans (ag _ (w.heap.size+1+1) 1 (.bool ng))).trans (ag _ (w.heap.size+1+1) 2 (.slice ao la ca))).trans (ag _ (w.heap.size+1+1) 3 (yi pw));have bR:=bu.below b2 (by omega);have rR:=bu.rd r2 (aX r2 v2 (by simp));have hl:=run_loadVar_mid (P:=Tryz.prog) _ (w.heap.size+1+1) 0 68 (yvL 2 ng (.slice ao la ca) pw) _ cR.range underlying68 rfl (by kernel_rfl);have HH:Hid (_∧_∧_):=⟨hl,rR,bR⟩;obtain⟨z0,z1,z2,z3⟩:=v2.cs4;have fz0:=v2.f 0;have fz1:=v2.f 1;have fz2:=v2.f 2;have fz3:=v2.f 3;clear hl bR bu cR rR;obtain⟨k0,k1,k2,k3⟩:=q2.cs4;clear v2 b2 r2 q2
    go_wp2
    obtain⟨hl,rR,bR⟩:=HH.out;exact bodyPost_ret (aj results76 rfl rfl hl) rfl ⟨_,rfl,rR,bR⟩
   ·have hfl:fl=0:=HE.out.2.2
    subst hfl;clear HE;have cR:au ((((W1.setCell ⟨w.heap.size+1+1,0,none⟩ (yi 2)).setCell ⟨w.heap.size+1+1,1,none⟩ (.bool ng)).setCell ⟨w.heap.size+1+1,2,none⟩ (.slice ao la ca)).setCell ⟨w.heap.size+1+1,3,none⟩ (yi pw)) (w.heap.size+1+1) 68 (yvL 2 ng (.slice ao la ca) pw):=((((v2.set 0 (yi 2)).set 1 (.bool ng)).set 2 (.slice ao la ca)).set 3 (yi pw));have bu:=(((ag W1 (w.heap.size+1+1) 0 (yi 2)).trans (ag _ (w.heap.size+1+1) 1 (.bool ng))).trans (ag _ (w.heap.size+1+1) 2 (.slice ao la ca))).trans (ag _ (w.heap.size+1+1) 3 (yi pw));have bR:=bu.below b2 (by omega);have rR:=bu.rd r2 (aX r2 v2 (by simp));have hl:=run_loadVar_mid (P:=Tryz.prog) _ (w.heap.size+1+1) 0 68 (yvL 2 ng (.slice ao la ca) pw) _ cR.range underlying68 rfl (by kernel_rfl);have HH:Hid (_∧_∧_):=⟨hl,rR,bR⟩;obtain⟨z0,z1,z2,z3⟩:=v2.cs4;have fz0:=v2.f 0;have fz1:=v2.f 1;have fz2:=v2.f 2;have fz3:=v2.f 3;clear hl bR bu cR rR;obtain⟨k0,k1,k2,k3⟩:=q2.cs4;clear v2 b2 r2 q2
    go_wp2
    obtain⟨hl,rR,bR⟩:=HH.out;exact bodyPost_ret (aj results76 rfl rfl hl) rfl ⟨_,rfl,rR,bR⟩
 ·subst hun
  clear hlt go
  go_upto_region 6 with fail
  generalize W0.alloc (.cells (yvA 2 ng (.slice ao la ca) pw) 68)=WA at q1 p1 v1 r1 b1⊢;generalize W0.heap.size=Q at q1 hq hne⊢;clear x0 x1 x2 x3 x4 x5 y5 d0;obtain⟨x0,x1,x2,x3,x4,x5⟩:=p1.cs6
  by_cases hz:la=0
  ·have hz1:(((la:Nat):Int)==0)=true:=by rw[hz];rfl
   have hcl:cl=1:=by rw[HE.out.2.1,if_pos hz]
   subst hcl;clear hz;have c0:=q1.c 0 rfl;have f0:=q1.f 0;have bq:=ag WA Q 0 (yi 1);have q2:au (WA.setCell ⟨Q,0,none⟩ (yi 1)) Q 68 (yvL 1 ng (.slice ao la ca) pw):=q1.set 0 (yi 1);have p2:=bq.loc p1 (by omega);have v2:=bq.loc v1 (by omega);have r2:=bq.rd r1 (aX r1 q1 (by simp));have b2:=bq.below b1 (by omega)
   go_upto_block 1 with fail
   generalize WA.setCell ⟨Q,0,none⟩ (yi 1)=W1 at q2 p2 v2 r2 b2⊢;clear c0 f0 bq q1 p1 v1 r1 b1 x0 x1 x2 x3 x4 x5 hz1;obtain⟨x0,x1,x2,x3,x4,x5⟩:=p2.cs6;clear p2
   cases ex
   ·have hfl:fl=3:=HE.out.2.2
    subst hfl;clear HE;have cR:au ((((W1.setCell ⟨w.heap.size+1+1,0,none⟩ (yi 1)).setCell ⟨w.heap.size+1+1,1,none⟩ (.bool ng)).setCell ⟨w.heap.size+1+1,2,none⟩ (.slice ao la ca)).setCell ⟨w.heap.size+1+1,3,none⟩ (yi pw)) (w.heap.size+1+1) 68 (yvL 1 ng (.slice ao la ca) pw):=((((v2.set 0 (yi 1)).set 1 (.bool ng)).set 2 (.slice ao la ca)).set 3 (yi pw));have bu:=(((ag W1 (w.heap.size+1+1) 0 (yi 1)).trans (ag _ (w.heap.size+1+1) 1 (.bool ng))).trans (ag _ (w.heap.size+1+1) 2 (.slice ao la ca))).trans (ag _ (w.heap.size+1+1) 3 (yi pw));have bR:=bu.below b2 (by omega);have rR:=bu.rd r2 (aX r2 v2 (by simp));have hl:=run_loadVar_mid (P:=Tryz.prog) _ (w.heap.size+1+1) 0 68 (yvL 1 ng (.slice ao la ca) pw) _ cR.range underlying68 rfl (by kernel_rfl);have HH:Hid (_∧_∧_):=⟨hl,rR,bR⟩;obtain⟨z0,z1,z2,z3⟩:=v2.cs4;have fz0:=v2.f 0;have fz1:=v2.f 1;have fz2:=v2.f 2;have fz3:=v2.f 3;clear hl bR bu cR rR;obtain⟨k0,k1,k2,k3⟩:=q2.cs4;clear v2 b2 r2 q2
    go_wp2
    obtain⟨hl,rR,bR⟩:=HH.out;exact bodyPost_ret (aj results76 rfl rfl hl) rfl ⟨_,rfl,rR,bR⟩
   ·have hfl:fl=0:=HE.out.2.2
    subst hfl;clear HE;have cR:au ((((W1.setCell ⟨w.heap.size+1+1,0,none⟩ (yi 1)).setCell ⟨w.heap.size+1+1,1,none⟩ (.bool ng)).setCell ⟨w.heap.size+1+1,2,none⟩ (.slice ao la ca)).setCell ⟨w.heap.size+1+1,3,none⟩ (yi pw)) (w.heap.size+1+1) 68 (yvL 1 ng (.slice ao la ca) pw):=((((v2.set 0 (yi 1)).set 1 (.bool ng)).set 2 (.slice ao la ca)).set 3 (yi pw));have bu:=(((ag W1 (w.heap.size+1+1) 0 (yi 1)).trans (ag _ (w.heap.size+1+1) 1 (.bool ng))).trans (ag _ (w.heap.size+1+1) 2 (.slice ao la ca))).trans (ag _ (w.heap.size+1+1) 3 (yi pw));have bR:=bu.below b2 (by omega);have rR:=bu.rd r2 (aX r2 v2 (by simp));have hl:=run_loadVar_mid (P:=Tryz.prog) _ (w.heap.size+1+1) 0 68 (yvL 1 ng (.slice ao la ca) pw) _ cR.range underlying68 rfl (by kernel_rfl);have HH:Hid (_∧_∧_):=⟨hl,rR,bR⟩;obtain⟨z0,z1,z2,z3⟩:=v2.cs4;have fz0:=v2.f 0;have fz1:=v2.f 1;have fz2:=v2.f 2;have fz3:=v2.f 3;clear hl bR bu cR rR;obtain⟨k0,k1,k2,k3⟩:=q2.cs4;clear v2 b2 r2 q2
    go_wp2
    obtain⟨hl,rR,bR⟩:=HH.out;exact bodyPost_ret (aj results76 rfl rfl hl) rfl ⟨_,rfl,rR,bR⟩
  ·have hz1:(((la:Nat):Int)==0)=false:=beq_eq_false_iff_ne.2 (by omega)
   have hcl:cl=2:=by rw[HE.out.2.1,if_neg hz]
   subst hcl;clear hz
   go_upto_block 1 with fail
   have q2:=q1;have v2:=v1;have r2:=r1;have b2:=b1;clear q1 v1 r1 b1 p1 hz1;generalize WA=W1 at*
   cases ex
   ·have hfl:fl=3:=HE.out.2.2
    subst hfl;clear HE;have cR:au ((((W1.setCell ⟨w.heap.size+1+1,0,none⟩ (yi 2)).setCell ⟨w.heap.size+1+1,1,none⟩ (.bool ng)).setCell ⟨w.heap.size+1+1,2,none⟩ (.slice ao la ca)).setCell ⟨w.heap.size+1+1,3,none⟩ (yi pw)) (w.heap.size+1+1) 68 (yvL 2 ng (.slice ao la ca) pw):=((((v2.set 0 (yi 2)).set 1 (.bool ng)).set 2 (.slice ao la ca)).set 3 (yi pw));have bu:=(((ag W1 (w.heap.size+1+1) 0 (yi 2)).trans (ag _ (w.heap.size+1+1) 1 (.bool ng))).trans (ag _ (w.heap.size+1+1) 2 (.slice ao la ca))).trans (ag _ (w.heap.size+1+1) 3 (yi pw));have bR:=bu.below b2 (by omega);have rR:=bu.rd r2 (aX r2 v2 (by simp));have hl:=run_loadVar_mid (P:=Tryz.prog) _ (w.heap.size+1+1) 0 68 (yvL 2 ng (.slice ao la ca) pw) _ cR.range underlying68 rfl (by kernel_rfl);have HH:Hid (_∧_∧_):=⟨hl,rR,bR⟩;obtain⟨z0,z1,z2,z3⟩:=v2.cs4;have fz0:=v2.f 0;have fz1:=v2.f 1;have fz2:=v2.f 2;have fz3:=v2.f 3;clear hl bR bu cR rR;obtain⟨k0,k1,k2,k3⟩:=q2.cs4;clear v2 b2 r2 q2
    go_wp2
    obtain⟨hl,rR,bR⟩:=HH.out;exact bodyPost_ret (aj results76 rfl rfl hl) rfl ⟨_,rfl,rR,bR⟩
   ·have hfl:fl=0:=HE.out.2.2
    subst hfl;clear HE;have cR:au ((((W1.setCell ⟨w.heap.size+1+1,0,none⟩ (yi 2)).setCell ⟨w.heap.size+1+1,1,none⟩ (.bool ng)).setCell ⟨w.heap.size+1+1,2,none⟩ (.slice ao la ca)).setCell ⟨w.heap.size+1+1,3,none⟩ (yi pw)) (w.heap.size+1+1) 68 (yvL 2 ng (.slice ao la ca) pw):=((((v2.set 0 (yi 2)).set 1 (.bool ng)).set 2 (.slice ao la ca)).set 3 (yi pw));have bu:=(((ag W1 (w.heap.size+1+1) 0 (yi 2)).trans (ag _ (w.heap.size+1+1) 1 (.bool ng))).trans (ag _ (w.heap.size+1+1) 2 (.slice ao la ca))).trans (ag _ (w.heap.size+1+1) 3 (yi pw));have bR:=bu.below b2 (by omega);have rR:=bu.rd r2 (aX r2 v2 (by simp));have hl:=run_loadVar_mid (P:=Tryz.prog) _ (w.heap.size+1+1) 0 68 (yvL 2 ng (.slice ao la ca) pw) _ cR.range underlying68 rfl (by kernel_rfl);have HH:Hid (_∧_∧_):=⟨hl,rR,bR⟩;obtain⟨z0,z1,z2,z3⟩:=v2.cs4;have fz0:=v2.f 0;have fz1:=v2.f 1;have fz2:=v2.f 2;have fz3:=v2.f 3;clear hl bR bu cR rR;obtain⟨k0,k1,k2,k3⟩:=q2.cs4;clear v2 b2 r2 q2
    go_wp2
    obtain⟨hl,rR,bR⟩:=HH.out;exact bodyPost_ret (aj results76 rfl rfl hl) rfl ⟨_,rfl,rR,bR⟩
theorem toInts_high (gx ps ex ov un:Bool)(x ua ub lw:ak)(P H:Nat)(pp c1 c2:Int)(n wy:Int)(s:ByteArray)(w:World)(h1:c1<0)(h2: ¬c2<0)
  (HA:yH w 7 #[yi n,.string s,yi wy] (.tuple #[yi 0,yi 16,yi 0]))
  (HO: ∀pb w1,au w1 pb 9 [.string s]→yC 8 #[yi n,yi wy,.slice (some ⟨pb,0,none⟩) 1 1] w1 fun zz w'=> ∃gb cap xo xc,zz= .returned (.tuple #[.slice (some ⟨gb,0,none⟩) 1 cap,yi 0])∧w'.rangeAt gb 0 (yoL 2 gx x.s (yS xo x.n xc) x.e)∧Rd w' .i64 (yS xo x.n xc) (Dg.dg 65536 x.n)∧yB w1 w')
  (HD: ∀xo xc w1,yC 10 #[ydV x.s (yS xo x.n xc) x.e] w1 fun z w'=> ∃eo ec,z= .returned (yrV x.s (yS xo x.n xc) (.slice eo 1 ec) x.e)∧Rd w' .i64 (.slice eo 1 ec) [1]∧yB w1 w')
  (HR: ∀xo xc eo ec w1,yB w w1→Rd w1 .i64 (yS xo x.n xc) (Dg.dg 65536 x.n)→Rd w1 .i64 (.slice eo 1 ec) [1]→yC 9 #[yrV x.s (yS xo x.n xc) (.slice eo 1 ec) x.e,ygV 2 17000 0 17000 true,yi wy] w1 fun z w'=> ∃qo qc,z= .returned (ypV ps (yS qo P qc) pp ex ov un)∧Rd w' .i64 (yS qo P qc) (Dg.dg 65536 P)∧yB w1 w')
  (HP: ∀w1,yC 13 #[yi 63] w1 (cG w1 H))
  (HM: ∀mo mc w1,yB w w1→Rd w1 .i64 (yS mo H mc) (Dg.dg 65536 H)→yC 12 #[ydV false (yS mo H mc) 0] w1 (dr w1 ua))
  (HN: ∀q w1,au w1 q 3 [yi 1]→yC 12 #[ydV false (.slice (some ⟨q,0,none⟩) 1 1) 0] w1 (dr w1 ub))
  (HL: ∀uo uc vo vc w1,yB w w1→Rd w1 .i64 (yS uo ua.n uc) (Dg.dg 65536 ua.n)→Rd w1 .i64 (yS vo ub.n vc) (Dg.dg 65536 ub.n)→yC 11 #[ydV ua.s (yS uo ua.n uc) ua.e,ydV ub.s (yS vo ub.n vc) ub.e] w1 (dr w1 lw))
  (HC: ∀jo jc qo qc w1,yB w w1→Rd w1 .i64 (yS jo lw.n jc) (Dg.dg 65536 lw.n)→Rd w1 .i64 (yS qo P qc) (Dg.dg 65536 P)→yC 14 #[ydV lw.s (yS jo lw.n jc) lw.e,ydV ps (yS qo P qc) pp] w1 (yR w1 (yi c1)))
  (HE: ∀qo qc ko kc w1,yB w w1→Rd w1 .i64 (yS qo P qc) (Dg.dg 65536 P)→Rd w1 .i64 (yS ko H kc) (Dg.dg 65536 H)→yC 14 #[ydV ps (yS qo P qc) pp,ydV false (yS ko H kc) 0] w1 (yR w1 (yi c2)))
  (HB:yH w 16 #[] (.bool true)):
  yC 3 #[yi n,.string s,yi wy] w (yR w (.bool true)):=by
 replace HA:Hid _:=HA;replace HO:Hid _:=HO;replace HD:Hid _:=HD;replace HR:Hid _:=HR;replace HP:Hid _:=HP;replace HM:Hid _:=HM;replace HN:Hid _:=HN;replace HL:Hid _:=HL;replace HC:Hid _:=HC;replace HE:Hid _:=HE;replace HB:Hid _:=HB
 go_enter func3,ntmps3
 have b0:=Below.refl w.heap.size w
 go_wp2_with fail
 refine(HA.out _ b0).mono ?_;rintro zz w1 ⟨rfl,bb2⟩;have b3:=aa b0 bb2;clear b0 bb2 HA;have al4:=af w1 (.cells #[.string s] 9);have q5:=ah w1 [.string s] 9;have b6:=aa b3 al4
 go_wp2_with fail
 refine(HO.out _ _ q5).mono ?_;rintro zz w7 ⟨gb,cap,xo,xc,rfl,h0,rxx9,bb8⟩;have b10:=aa b6 bb8;clear q5 b6 bb8 HO b3 al4;have c11:=h0 0 _ rfl;have c12:=h0 2 _ rfl;have c13:=h0 3 _ rfl;have c14:=h0 4 _ rfl
 go_wp2_with fail
 refine(HD.out _ _ _).mono ?_;rintro zz w15 ⟨eo,ec,rfl,r1x17,bb16⟩;have r18:=rxx9.l bb16;have b19:=aa b10 bb16;clear h0 rxx9 b10 bb16 HD c11 c12 c13 c14
 go_wp2_with fail
 refine(HR.out _ _ _ _ _ b19 r18 r1x17).mono ?_;rintro zz w20 ⟨qo,qc,rfl,r1x22,bb21⟩;have b23:=aa b19 bb21;clear r18 r1x17 b19 bb21 HR;obtain⟨W26,hW25,q27,al24⟩:=cA w20 (ypL ps (yS qo P qc) pp ex ov un) 34;replace hW25:Hid _:=hW25;have hl28:w.heap.size≤w20.heap.size:=b23.size;have r29:=r1x22.l al24;have b30:=aa b23 al24;clear r1x22 b23 al24
 go_upto_region 10 with fail
 rw[hW25.out];clear hW25;obtain⟨W33,hW32,q34,al31⟩:=cA W26 (ydL ps (yS qo P qc) pp) 30;replace hW32:Hid _:=hW32;have hl35:w.heap.size≤W26.heap.size:=b30.size;have c36:=q27.c 0 rfl;have c37:=q27.c 1 rfl;have c38:=q27.c 2 rfl;have r39:=r29.l al31;have b40:=aa b30 al31;clear q27 r29 b30 al31
 go_upto_region 11 with fail
 rw[hW32.out];clear c36 c37 c38 hW32
 go_wp2_with fail
 refine(HP.out _).mono ?_;rintro zz w41 ⟨v1x43,rfl,r1x44,bb42⟩;have q45:=q34.l bb42;have r46:=r39.l bb42;have b47:=aa b40 bb42;obtain⟨mo,mc,hv⟩:=r1x44.shape;subst hv;clear q34 r39 b40 bb42
 go_wp2_with fail
 refine(HM.out _ _ _ b47 r1x44).mono ?_;rintro zz w48 ⟨v1x50,rfl,r1x51,bb49⟩;have q52:=q45.l bb49;have r53:=r46.l bb49;have b54:=aa b47 bb49;obtain⟨uo,uc,hv⟩:=r1x51.shape;subst hv;clear q45 r46 r1x44 b47 bb49 HM;have al55:=af w48 (.cells #[yi 1] 3);have q56:=ah w48 [yi 1] 3;have q57:=q52.l al55;have r58:=r53.l al55;have r59:=r1x51.l al55;have b60:=aa b54 al55
 go_wp2_with fail
 refine(HN.out _ _ q56).mono ?_;rintro zz w61 ⟨v1x63,rfl,r1x64,bb62⟩;have q65:=q57.l bb62;have r66:=r58.l bb62;have r67:=r59.l bb62;have b68:=aa b60 bb62;obtain⟨vo,vc,hv⟩:=r1x64.shape;subst hv;clear q57 q56 r58 r59 b60 bb62 HN q52 r53 r1x51 b54 al55
 go_wp2_with fail
 refine(HL.out _ _ _ _ _ b68 r67 r1x64).mono ?_;rintro zz w69 ⟨v1x71,rfl,r1x72,bb70⟩;have q73:=q65.l bb70;have r74:=r66.l bb70;have b75:=aa b68 bb70;obtain⟨jo,jc,hv⟩:=r1x72.shape;subst hv;clear q65 r66 r67 r1x64 b68 bb70 HL;obtain⟨W78,hW77,q79,al76⟩:=cA w69 (ydL lw.s (yS jo lw.n jc) lw.e) 30;replace hW77:Hid _:=hW77;have hl80:w.heap.size≤w69.heap.size:=b75.size;have hl81:=q73.lt;have q82:=q73.l al76;have r83:=r74.l al76;have r84:=r1x72.l al76;have b85:=aa b75 al76;clear q73 r74 r1x72 b75 al76
 go_upto_region 12 with fail
 rw[hW77.out];clear hW77
 go_upto_region 12 with fail
 have bW86:yB W78 W78.drew:=(Below.refl _ _).drew;have q87:=q82.l bW86;have q88:=q79.l bW86;have r89:=r83.l bW86;have r90:=r84.l bW86;have b91:=aa b85 bW86;clear q82 q79 r83 r84 b85 bW86;refine wp_region_held_drew (S:=fun wq=>au wq W26.heap.size 30 (ydL ps (yS qo P qc) pp)∧au wq w69.heap.size 30 (ydL lw.s (yS jo lw.n jc) lw.e)) (by kernel_rfl) ⟨q87,q88⟩ (fun hS0=> ?_)
 generalize W78.drew=WD92 at q87 q88 r89 r90 b91 hS0⊢;refine tq 0 (ydV lw.s (yS jo lw.n jc) lw.e) rfl (fun _ hw0=>fy 30 (.tmp 16) rfl w69.heap.size 0 (by kernel_rfl) _ _ hw0.2.range underlying30 rfl (by kernel_rfl)) hS0 ?_
 refine tq 1 (ydV ps (yS qo P qc) pp) rfl (fun _ hw0=>fy 30 (.tmp 15) rfl W26.heap.size 0 (by kernel_rfl) _ _ hw0.1.range underlying30 rfl (by kernel_rfl)) hS0 ?_
 refine wpAnyH_ready (rs:=[2]) (by kernel_rfl) (by simp) ?_;refine AllReadyH.cons rfl (fun K hK=> ?_) AllReadyH.nil
 go_simp
 refine(HC.out _ _ _ _ _ b91 r90 r89).mono ?_;rintro zz w93 ⟨rfl,bb94⟩;have q95:=q87.l bb94;have q96:=q88.l bb94;have r97:=r89.l bb94;have b98:=aa b91 bb94;clear q87 q88 r89 r90 b91 bb94 HC;refine hK.out _ _ ⟨q95,q96⟩ (fun hS99=> ?_)
 clear hK K;refine tq 3 (.bool true) rfl (fun _ _=>by go_simp) hS99 ?_
 refine tq 4 (.bool true) rfl (fun _ _=>by kernel_rfl) hS99 ?_
 refine tq 5 (ydV ps (yS qo P qc) pp) rfl (fun _ hw0=>fy 30 (.tmp 15) rfl W26.heap.size 0 (by kernel_rfl) _ _ hw0.1.range underlying30 rfl (by kernel_rfl)) hS99 ?_
 refine wpAnyH_ready (rs:=[6]) (by kernel_rfl) (by simp) ?_;refine AllReadyH.cons rfl (fun K hK=> ?_) AllReadyH.nil
 go_simp
 refine(HP.out _).mono ?_;rintro zz w100 ⟨v1x102,rfl,r1x103,bb101⟩;have q104:=q95.l bb101;have q105:=q96.l bb101;have r106:=r97.l bb101;have b107:=aa b98 bb101;obtain⟨ko,kc,hv⟩:=r1x103.shape;subst hv;clear q95 q96 r97 b98 bb101 HP;refine hK.out _ _ ⟨q104,q105⟩ (fun hS108=> ?_)
 clear hK K;refine tq 7 (ydV false (yS ko H kc) 0) rfl (fun _ _=>by kernel_rfl) hS108 ?_
 refine wpAnyH_ready (rs:=[8]) (by kernel_rfl) (by simp) ?_;refine AllReadyH.cons rfl (fun K hK=> ?_) AllReadyH.nil
 go_simp
 refine(HE.out _ _ _ _ _ b107 r106 r1x103).mono ?_;rintro zz w109 ⟨rfl,bb110⟩;have q111:=q104.l bb110;have q112:=q105.l bb110;have b113:=aa b107 bb110;clear q104 q105 r106 r1x103 b107 bb110 HE;refine hK.out _ _ ⟨q111,q112⟩ (fun hS114=> ?_)
 clear hK K;refine tq 9 (.bool false) rfl (fun _ _=>by go_simp) hS114 ?_
 refine tq 10 (.bool false) rfl (fun _ _=>by kernel_rfl) hS114 ?_
 refine wpAnyH_done (by kernel_rfl) ?_ _;clear hS0 hS99 hS108 hS114;simp only[Act.put,List.getElem_toArray,List.getElem_cons_succ,List.getElem_cons_zero,List.setIfInBounds_toArray,List.set_cons_zero,List.set_cons_succ]
 go_wp2_with fail
 refine(HB.out _ b113).mono ?_;rintro zz w115 ⟨rfl,bb116⟩;have b117:=aa b113 bb116;clear q111 q112 b113 bb116 HB
 go_wp2
 go_ret
 exact⟨by simp,b117⟩
end Go.Proofs.YtddkchlamdhgcaaGreatDoor
