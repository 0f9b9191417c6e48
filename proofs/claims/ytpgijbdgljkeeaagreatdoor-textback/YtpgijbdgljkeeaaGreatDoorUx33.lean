/-
  Texts laid together: Co7, Tx3, Tx4, Gn2, Ce5, As3, As4.
-/
import Derived.Test.YtpgijbdgljkeeaaGreatDoorUx17
import Derived.Test.YtpgijbdgljkeeaaGreatDoorUx27
set_option maxRecDepth 100000
set_option maxHeartbeats 6400000
namespace Go.Proofs.YtpgijbdgljkeeaaGreatDoor
open _root_.Go.Proofs.Tryz
open Go.RowKit
theorem T8 (g cap m:Nat)(zs:List Nat)(w:World)(ho:ik w g zs)(hl:zs.length≤1000000000)(hm:zs.length=2*m):
  yC 188 #[.slice (some ⟨g,0,none⟩) zs.length cap] w fun e w'=>
   e= .returned (.tuple #[])∧ik w' g (Bg zs)∧w.grownBy w' (some g):=by
 go_enter func188,ntmps188
 go_wp2
 go_loopw [2] (fun iv wr=> ∃(i:Nat) (cur:List Nat),iv=yi ((2*i:Nat):Int)∧ik wr g cur∧WI zs cur i∧i≤m∧w.grownBy wr (some g))
  (fun iv _=>((zs.length:Int)-intOf iv).toNat)
 case atStart=>exact⟨0,zs,rfl,ho,⟨rfl,fun k hk=>by rw[if_neg (by omega)]⟩,by omega,ib _ _⟩
 case round=>
  obtain⟨i,cur,rfl,own,hI,him,gr⟩:=hrel;have h1:=hI.1
  by_cases hij:i<m
  ·obtain⟨a,ha⟩: ∃a,2*i=a:=⟨_,rfl⟩
   have ci:=own.c a (by omega);have cj:=own.c (a+1) (by omega);have fi:=own.f a (by omega);have fj:=own.f (a+1) (by omega);have hst:=aa3 hI (by omega);rw[ha] at hst⊢;have hal:a+1<zs.length:=by omega
   have Ha:Hid _:=ha;obtain⟨x,ex⟩: ∃x,cur.getD a 0=x:=⟨_,rfl⟩;obtain⟨y,ey⟩: ∃y,cur.getD (a+1) 0=y:=⟨_,rfl⟩;rw[ex] at ci hst;rw[ey] at cj hst;clear ha ex ey hI hm
   go_wp2
   go_region
   all_goals go_wp2
   all_goals go_roundw
   case rel=>exact⟨i+1,_,by have:=Ha.out;go_num,((own.store a y).store (a+1) x).drew,hst,by omega,eF (eF gr (bI _ _ _ _)) ((eF (bI _ _ _ _) (vm _ _)))⟩
   case measure=>simp[intOf];omega
  ·have hd: ¬(((2*i:Nat):Int)+1< (zs.length:Int)):=by omega
   go_wp2
   go_end0
   rw[←ac1 hI (by omega)];exact⟨rfl,own,gr⟩
theorem reduced_any (ao:Option Addr)(la ca m n:Nat)(w:World)(hr:Rd w .u32 (.slice ao la ca) (Dg.dg 4294967296 m))(hl:(Dg.dg 4294967296 m).length≤10000)(hn:n≤300000):
  yC 73 #[.slice ao la ca,yi n] w (TwR w (redF m n).1 (5^ (redF m n).2)):=by
 have HF:Hid (∀(k:Nat) w1,k≤300000→yC 72 #[yi k] w1 (NmR w1 (5^k))):=fun k w1 h=>fives_any k w1 h
 have HO:Hid (∀(v:Value) (m' q:Nat) w1,m'≤m→Rd w1 .u32 v (Dg.dg 4294967296 m')→au w1 q 138 [.int .u32 5]→yC 101 #[v,.slice (some ⟨q,0,none⟩) 1 1] w1 (Two w1 (m'/5) (m' % 5))):=fun v m' q w1 hm hv hq=>by
  have h5:Rd w1 .u32 (.slice (some ⟨q,0,none⟩) 1 1) [5]:=⟨_,_,rfl,by simp,by unfold maxLen;simp,fun _=>⟨_,0,rfl,fun i hi=>by
   obtain rfl:i=0:=by simpa using hi
   exact hq.c 0 rfl⟩⟩
  have hlen:(Dg.dg 4294967296 m').length≤900000:=Nat.le_trans (tD hm) (by omega);have:=A9 v _ (Dg.dg 4294967296 m') [5] w1 hv h5 (Dg.small_dg _ _ (by omega)) (Dg.small_cons.2 ⟨by omega,Dg.small_nil _ (by omega)⟩) (Dg.norm_dg _ _ (by omega)) (by have:=Dg.norm_dg 4294967296 5 (by omega);rwa [show Dg.dg 4294967296 5=[5] by decide] at this) (by simp) hlen
  rw[Dg.vl_dg _ _ (by omega)] at this;exact this
 obtain⟨R,hR⟩: ∃r,redF m n=r:=⟨_,rfl⟩;rw[hR];have b0:=Below.refl w.heap.size w;have hst:Hid (redF m n=R∧m≤m∧n≤300000):=⟨hR,Nat.le_refl _,hn⟩;clear hl hR
 go_enter func73,ntmps73
 go_wp2
 go_loopw [0,1] (fun nv kv wr=> ∃m' k:Nat,kv=yi k∧Rd wr .u32 nv (Dg.dg 4294967296 m')∧yB w wr∧Hid (redF m' k=R∧m'≤m∧k≤300000)) (fun _ kv _=>(intOf kv).toNat)
 case atStart=>exact⟨m,n,rfl,hr,b0,hst⟩
 case round=>
  clear hr b0 hst hn;obtain⟨m',k,rfl,hr,b0,hst⟩:=hrel;obtain⟨vo,vc,hv⟩:=hr.shape;subst hv
  cases k with
  |zero=>
   obtain⟨h1,-,-⟩:=hst.out;have HF0:Hid _:=HF.out 0 wr (by omega)
   go_wp2_with fail
   refine Calls.mono HF0.out ?_;rintro z w1 ⟨v,rfl,rv,b⟩;have r2:=hr.l b;have bb:=aa b0 b;clear hr b0 b HF0
   go_wp2
   go_ret2
   rw[←h1];exact⟨_,_,rfl,r2,rv,bb⟩
  |succ k=>
   have hk:Hid (k+1≤300000):=hst.out.2.2;have hk1:k≤300000:=by have:=hk.out;omega
   have al:=af wr (.cells #[.int .u32 5] 138);have q:=ah wr [.int .u32 5] 138;have HO1:Hid _:=HO.out _ m' _ _ hst.out.2.1 (hr.l al) q;have hkp:(0:Int)< ((k+1:Nat):Int):=by omega
   go_wp2_with fail
   refine Calls.mono HO1.out ?_;rintro z w1 ⟨v1,v2,rfl,o1,o2,b⟩;have b1:=aa al b;have r0:=hr.l b1;have r1:=o1.rd;have r2:=o2.rd;have bb:=aa b0 b1;obtain⟨po,pc,hv⟩:=r1.shape;subst hv;obtain⟨so,sc,hv⟩:=r2.shape;subst hv;clear al q HO1 b hr b0 o1 o2 b1 r2
   by_cases h5:m' % 5=0
   ·have hl0:(Dg.dg 4294967296 (m' % 5)).length=0:=by rw[h5];rfl
    clear r0
    go_wp2
    go_roundw
    case rel=>exact⟨m'/5,k,by go_num,r1,bb,by
     obtain⟨h1,h2,h3⟩:=hst.out;unfold redF at h1;rw[if_pos h5] at h1;exact⟨h1,Nat.le_trans (Nat.div_le_self _ _) h2,by omega⟩⟩
    case measure=>simp[intOf]
   ·have hl0:0< (Dg.dg 4294967296 (m' % 5)).length:=by
     rcases Nat.eq_zero_or_pos (Dg.dg 4294967296 (m' % 5)).length with c|c
     ·exact absurd ((Dg.dg_nil_iff 4294967296 _ (by omega)).1 (List.length_eq_zero_iff.1 c)) h5
     ·exact c
    have HF0:Hid _:=HF.out (k+1) w1 hk.out
    go_wp2_with fail
    refine Calls.mono HF0.out ?_;rintro z w2 ⟨v,rfl,rv,b⟩;have r3:=r0.l b;have b4:=aa bb b;clear r0 r1 bb b HF0
    go_wp2
    go_ret2
    have h1:=hst.out.1;unfold redF at h1;rw[if_neg h5] at h1;rw[←h1];exact⟨_,_,rfl,r3,rv,b4⟩
theorem tratio_0 (ng:Bool)(ds:ByteArray)(p:Int)(w:World)
  (HD: ∀w1,yC 70 #[.string ds] w1 fun z w'=> ∃ao ac,z= .returned (.slice ao 0 ac)∧yB w1 w'):
  yC 31 #[.agg #[.bool ng,.string ds,yi p]] w (RtZ w):=by
 replace HD:Hid _:=HD;obtain⟨W4,hW5,q1,q2,b3⟩:=iG w [.bool ng,.string ds,yi p] 74 (yrL false yN yN 0) 25;replace hW5:Hid _:=hW5
 go_enter func31,ntmps31
 go_upto_region 1 with fail
 rw[hW5.out];clear hW5;have c6:=q1.c 1 rfl
 go_wp2_with fail
 refine(HD.out _).mono ?_;rintro zz w7 ⟨ao,ac,rfl,bb8⟩;have q9:=q2.l bb8;have b10:=aa b3 bb8;clear q1 q2 b3 bb8 HD c6;have hl13:=q9.lt;have al11:=af w7 (.cells #[.int .u32 1] 138);have q12:=ah w7 [.int .u32 1] 138;have q14:=q9.l al11;have b15:=aa b10 al11
 go_upto_region 3 with fail
 clear q9 b10 al11;generalize w7.alloc (.cells #[.int .u32 1] 138)=W16 at q14 q12 b15⊢;have hf:=afz (P:=Tryz.prog) q14 b15 (by omega) underlying25 rfl (by kernel_rfl) (.bool false) yN (.slice (some ⟨w7.heap.size,0,none⟩) 1 1) (yi 0);have HH:Hid (_∧_∧_):=⟨hf.1,hf.2.2.loc q12 (by omega),hf.2.1⟩;obtain⟨⟨z0,z1,z2,z3⟩,y0,y1,y2,y3⟩:=afB q14;clear hf q14 q12 b15
 go_wp2
 obtain⟨hl,lR2,bR⟩:=HH.out;exact bodyPost_ret (br results31 rfl hl) rfl ⟨_,rfl,lR2,bR⟩
theorem CW (R D L G:Int)(gr ng:Bool)(ao:Option Addr)(la ca:Nat)(p:Int)(w:World)(h: -1000000≤(ai R:Int)*p∧(ai R:Int)*p≤1000000):
  yC 175 #[ygV R D L G gr,.bool ng,.agg #[.slice ao la ca,yi p]] w (yR w (ydV ng (.slice ao la ca) ((ai R:Int)*p))):=by
 refine Zq R D L G gr ng ao la ca p (ai R) w (IntWalk.i64_in _ ⟨by omega,by omega⟩) (fun w1=> ?_)
 have:=tY R D L G gr w1
 rwa [jf] at this
theorem NP (R D L G fam:Int)(gr:Bool)(sz ex:Nat)(F:Nat)(c p:Int)(ng:Bool)(ao:Option Addr)(dn dc:Nat)(w:World)
  (r:ak) (er:Int) (HN: ∀w1,yB w w1→yC 145 #[ylV R D L G gr sz ex fam F,yvV c ng (.slice ao dn dc) p] w1 (gR w1 (r,er)))
  (hq:Bool) (he2:Int) (HH: ∀so sc w1,yB w w1→Rd w1 .u32 (yT so r.n sc) (Dg.dg 4294967296 r.n)→yC 146 #[yDV r so sc,ygV R D L G gr] w1 (yR w1 (.tuple #[.bool hq,yi he2])))
  (st:ByteArray) (es:Int) (HE: ∀so sc w1,yB w w1→Rd w1 .u32 (yT so r.n sc) (Dg.dg 4294967296 r.n)→yC 147 #[ylV R D L G gr sz ex fam F,yDV r so sc] w1 (yR w1 (.tuple #[.string st,yi es]))) (hpa: -20000≤p) (hpb:p≤20000) (hd:0<dn) (he:er=0) (h2:he2=0) (hqt:hq=true):
  yC 113 #[ylV R D L G gr sz ex fam F,yvV c ng (.slice ao dn dc) p] w (yR w (.tuple #[.string st,yi es])):=by
 subst he h2 hqt;have hp1: ¬p< -20000:=by omega
 have hp2: ¬20000<p:=by omega
 have HN':Hid _:=HN;have hdI:((dn:Int)==0)=false:=by simp;omega
 clear HN;have HH':Hid _:=HH;clear HH;have HE':Hid _:=HE;clear HE;have hsf:=cD;have bv:=af (w.alloc (.cells (ylA R D L G gr sz ex fam F) 124)) (.cells (yvA c ng (.slice ao dn dc) p) 66);have l0:=(ah w (ylL R D L G gr sz ex fam F) 124).l bv;have m0:=ah (w.alloc (.cells (ylA R D L G gr sz ex fam F) 124)) (yvL c ng (.slice ao dn dc) p) 66;have b0:=aa (af w (.cells (ylA R D L G gr sz ex fam F) 124)) bv;rw[World.size_alloc] at m0;clear bv;obtain⟨x0,x1,x2,x3,x4,x5,x6,x7,x8⟩:=l0.cs9;obtain⟨u0,u1,u2,u3⟩:=m0.cs4
 go_enter func113,ntmps113
 go_wp2_with fail
 refine(HN'.out _ b0).mono ?_;rintro z w1 ⟨s1,rfl,own1,b1⟩;obtain⟨so,sc,hs1⟩:=own1.rd.shape;subst hs1;simp only;have bq:=af w1 (.cells (yDA r so sc) 95);have l1:=(l0.l b1).l bq;have q1:=ah w1 (yDL r so sc) 95;have r1:=own1.rd.l bq;have b01:=aa (aa b0 b1) bq;clear own1 b1 bq l0 m0 x0 x1 x2 x3 x4 x5 x6 x7 x8 u0 u1 u2 u3;obtain⟨x0,x1,x2,x3,x4,x5,x6,x7,x8⟩:=l1.cs9;obtain⟨q0,qq1,q2⟩:=q1.cs3
 go_wp2_with fail
 refine(HH'.out _ _ _ b01 r1).mono ?_;rintro z w2 ⟨rfl,b2⟩;have l2:=l1.l b2;have q2:=q1.l b2;have r2:=r1.l b2;have b02:=aa b01 b2;clear l1 q1 r1 b01 b2 x0 x1 x2 x3 x4 x5 x6 x7 x8 q0 qq1;obtain⟨x0,x1,x2,x3,x4,x5,x6,x7,x8⟩:=l2.cs9;obtain⟨qq0,qq1,qq2⟩:=q2.cs3
 go_wp2_with fail
 refine(HE'.out _ _ _ b02 r2).mono ?_;rintro z w3 ⟨rfl,b3⟩
 go_wp2
 go_ret2
 exact⟨rfl,aa b02 b3⟩
theorem QM (n wy fam R D L G:Int)(gr ng:Bool)(r pw:Nat)(w:World)(hR:IntKind.u32.wrap R=(r:Int))
  (HP: ∀q w1,yB w w1→w1.cell? ⟨q,0,none⟩=some (.int .u32 r)→yC 100 #[.slice (some ⟨q,0,none⟩) 1 1,yi D] w1 (Num w1 pw))
  (HM: ∀vo vc q w1,Rd w1 .u32 (yT vo pw vc) (Dg.dg 4294967296 pw)→w1.cell? ⟨q,0,none⟩=some (.int .u32 1)→yC 206 #[yT vo pw vc,.slice (some ⟨q,0,none⟩) 1 1] w1 (Num w1 (pw-1))):
  yC 174 #[ykV n wy fam R D L G gr,.bool ng] w (iT w 2 ng (pw-1) G):=by
 replace HP:Hid _:=HP;replace HM:Hid _:=HM;have ad:=af w (.cells (ykA n wy fam R D L G gr) 147);have av:=af (w.alloc (.cells (ykA n wy fam R D L G gr) 147)) (.cells (yvA 0 false yN 0) 66);have d0:=(ah w (ykL n wy fam R D L G gr) 147).l av;have v0:=ah (w.alloc (.cells (ykA n wy fam R D L G gr) 147)) (yvL 0 false yN 0) 66;rw[World.size_alloc] at v0;have b0:=aa ad av;clear ad av
 go_enter func174,ntmps174
 go_upto_region 1 with fail
 generalize(w.alloc (.cells (ykA n wy fam R D L G gr) 147)).alloc (.cells (yvA 0 false yN 0) 66)=W0 at d0 v0 b0⊢;have y3:=d0.c 3 rfl;have y4:=d0.c 4 rfl;have al:=af W0 (.cells #[.int .u32 r] 138);have hc:=(ah W0 [.int .u32 r] 138).c 0 rfl;have d1:=d0.l al;have v1:=v0.l al;have b01:=aa b0 al;have z3:=d1.c 3 rfl;have z4:=d1.c 4 rfl;clear al
 go_wp2_with fail
 refine(HP.out _ _ b01 hc).mono ?_;rintro z w2 ⟨u,rfl,o2,b2⟩;obtain⟨vo,vc,hu⟩:=o2.rd.shape;subst hu;have r2:=o2.rd;have d2:=d1.l b2;have v2:=v1.l b2;have b02:=aa b01 b2;clear y3 y4 z3 z4 hc d0 v0 b0 d1 v1 b01 b2 o2 HP hR
 go_upto_region 2 with fail
 have bW:yB w2 w2.drew:=(Below.refl _ _).drew;have d3:=d2.l bW;have v3:=v2.l bW;have r3:=r2.l bW;have b03:=aa b02 bW;clear bW d2 v2 r2 b02;refine wp_region_held_drew (S:=fun wq=>wq.cell? ⟨w.heap.size,6,none⟩=some (yi G)) (by kernel_rfl) (d3.c 6 rfl) (fun hS0=> ?_)
 refine tq 0 (.bool ng) rfl (fun w0 _=>by kernel_rfl) hS0 ?_
 refine tq 1 (yT vo pw vc) rfl (fun w0 _=>by kernel_rfl) hS0 ?_
 refine tq 4 (.pointer (some ⟨w.heap.size,3,none⟩)) rfl (fun w0 _=>by kernel_rfl) hS0 ?_
 refine tq 5 (.pointer (some ⟨w.heap.size,6,none⟩)) rfl (fun w0 _=>by kernel_rfl) hS0 ?_
 refine tq 6 (yi G) rfl (fun w0 hw0=>gU 3 (.tmp 20) rfl w.heap.size 6 (by kernel_rfl) _ _ underlying3 rfl hw0) hS0 ?_
 refine wpAnyH_ready (rs:=[2]) (by kernel_rfl) (by simp) ?_;refine AllReadyH.cons rfl (fun K hK=> ?_) AllReadyH.nil
 go_simp
 have al:=af w2.drew (.cells #[.int .u32 1] 138);have hc:=(ah w2.drew [.int .u32 1] 138).c 0 rfl;have d4:=d3.l al;have v4:=v3.l al;have r4:=r3.l al;have b04:=aa b03 al;refine hK.out _ _ (d4.c 6 rfl) (fun hS2=> ?_)
 clear hK K al d3 v3 r3 b03;refine wpAnyH_ready (rs:=[3]) (by kernel_rfl) (by simp) ?_;refine AllReadyH.cons rfl (fun K hK=> ?_) AllReadyH.nil
 go_simp
 refine(HM.out _ _ _ _ r4 hc).mono ?_;rintro z w5 ⟨u,rfl,o5,b5⟩;obtain⟨mo,mc,hu⟩:=o5.rd.shape;subst hu;have r5:=o5.rd;have d5:=d4.l b5;have v5:=v4.l b5;have b05:=aa b04 b5;refine hK.out _ _ (d5.c 6 rfl) (fun hS3=> ?_)
 clear hK K d4 v4 r4 b04 b5 o5 hc;have bu:=(((ag w5 (w.heap.size+1) 0 (yi 2)).trans (ag _ (w.heap.size+1) 1 (.bool ng))).trans (ag _ (w.heap.size+1) 2 (.slice mo (Dg.dg 4294967296 (pw-1)).length mc))).trans (ag _ (w.heap.size+1) 3 (yi G));have bR:yB w (w5.setCells (w.heap.size+1) 0 (yvL 2 ng (.slice mo (Dg.dg 4294967296 (pw-1)).length mc) G)):=bu.below b05 (by omega);have rR:Rd (w5.setCells (w.heap.size+1) 0 (yvL 2 ng (.slice mo (Dg.dg 4294967296 (pw-1)).length mc) G)) .u32 (.slice mo (Dg.dg 4294967296 (pw-1)).length mc) (Dg.dg 4294967296 (pw-1)):=bu.rd r5 (aX r5 v5 (by simp));have hth:w5.there (w.heap.size+1) 0 4:=dD v5;have hl:=run_loadVar_mid (P:=Tryz.prog) _ (w.heap.size+1) 0 66 (yvL 2 ng (.slice mo (Dg.dg 4294967296 (pw-1)).length mc) G) _ (World.rangeAt_setCells_same w5 (w.heap.size+1) 0 (yvL 2 ng (.slice mo (Dg.dg 4294967296 (pw-1)).length mc) G) hth) underlying66 rfl (by kernel_rfl);have HH:Hid (_∧_∧_):=⟨hl,rR,bR⟩;clear hl rR bR bu;refine tq 7 ((yvV 2 ng (.slice mo (Dg.dg 4294967296 (pw-1)).length mc) G)) rfl (fun w0 _=>by kernel_rfl) hS3 ?_
 refine wpAnyH_ready (rs:=[8]) (by kernel_rfl) (by simp) ?_;refine AllReadyH.cons rfl (fun K hK=> ?_) AllReadyH.nil
 rw[if_pos (by kernel_rfl)];refine wp_store_mid 66 (.tmp 4) (.tmp 22) rfl (w.heap.size+1) 0 (yvA 2 ng (.slice mo (Dg.dg 4294967296 (pw-1)).length mc) G) (by kernel_rfl) (by kernel_rfl) hth (by kernel_rfl) (by simp[Value.oneCell']) ?_;refine hK.out _ _ ?_ (fun hS8=> ?_)
 ·have hbu:But (w.heap.size+1) w5 (w5.setCells (w.heap.size+1) 0 (yvL 2 ng (.slice mo (Dg.dg 4294967296 (pw-1)).length mc) G)):=de _ _ _ _
  exact(hbu.loc d5 (by omega)).c 6 rfl
 clear hK K;refine wpAnyH_done (by kernel_rfl) ?_ _;obtain⟨hl,rR,bR⟩:=HH.out;clear HH hS0 hS2 hS3 hS8 d5 v5 r5 b05 hth HM;change Exit.then _ _ _ _ (World.setCells w5 (w.heap.size+1) 0 (yvL 2 ng (.slice mo (Dg.dg 4294967296 (pw-1)).length mc) G));generalize World.setCells w5 (w.heap.size+1) 0 (yvL 2 ng (.slice mo (Dg.dg 4294967296 (pw-1)).length mc) G)=WE at hl rR bR⊢
 go_wp2
 exact bodyPost_ret (br results174 rfl hl) rfl ⟨_,rfl,rR,bR⟩
theorem Id (n wy fam R D L G pw:Int)(gr ng ex un:Bool)(ao:Option Addr)(la ca:Nat)(m:Nat)(w:World)(hla:la=(Dg.dg 4294967296 m).length)(hr:Rd w .u32 (.slice ao la ca) (Dg.dg 4294967296 m))(hlt:un=true→ ¬pw<L)(cl fl:Int)(hcl:cl=if la=0 then 1 else 2)(hfl:fl=if ex=true then 0 else if un=true then 3 else 1):
  yC 83 #[ykV n wy fam R D L G gr,ypV ng (.slice ao la ca) pw ex false un] w (B6 w cl ng m pw fl):=by
 have HE:Hid (la=(Dg.dg 4294967296 m).length∧cl=(if la=0 then 1 else 2)∧fl=if ex=true then 0 else if un=true then 3 else 1):=⟨hla,hcl,hfl⟩
 clear hcl hfl hla;have a1:=af w (.cells (ykA n wy fam R D L G gr) 147);have a2:=af (w.alloc (.cells (ykA n wy fam R D L G gr) 147)) (.cells (ypA ng (.slice ao la ca) pw ex false un) 151);have a3:=af ((w.alloc (.cells (ykA n wy fam R D L G gr) 147)).alloc (.cells (ypA ng (.slice ao la ca) pw ex false un) 151)) (.cells (yvA 0 false yN 0) 66);have d0:=((ah w (ykL n wy fam R D L G gr) 147).l a2).l a3;have p0:=(ah (w.alloc (.cells (ykA n wy fam R D L G gr) 147)) (ypL ng (.slice ao la ca) pw ex false un) 151).l a3;have v0:=ah ((w.alloc (.cells (ykA n wy fam R D L G gr) 147)).alloc (.cells (ypA ng (.slice ao la ca) pw ex false un) 151)) (yvL 0 false yN 0) 66;rw[World.size_alloc] at p0;rw[World.size_alloc,World.size_alloc] at v0;have b0:=aa (aa a1 a2) a3;clear a1 a2 a3
 go_enter func83,ntmps83
 go_upto_block 0 with fail
 generalize((w.alloc (.cells (ykA n wy fam R D L G gr) 147)).alloc (.cells (ypA ng (.slice ao la ca) pw ex false un) 151)).alloc (.cells (yvA 0 false yN 0) 66)=W0 at d0 p0 v0 b0⊢;have r0:=hr.l b0;clear hr;have al:=af W0 (.cells (yvA 2 ng (.slice ao la ca) pw) 66);have q1:=ah W0 (yvL 2 ng (.slice ao la ca) pw) 66;have p1:=p0.l al;have v1:=v0.l al;have r1:=r0.l al;have b1:=aa b0 al;have hq:w.heap.size+1+1<W0.heap.size:=v0.lt;have hne:W0.heap.size≠w.heap.size+1:=by omega
 obtain⟨x0,x1,x2,x3,x4,x5⟩:=p0.cs6;have y5:=d0.c 5 rfl;clear al p0 v0 b0 r0;have go: ∀UU,UU=un→(UU=false∨(UU=true∧ ¬pw<L)):=fun UU h=>by
  subst h
  cases UU
  ·exact .inl rfl
  ·exact .inr ⟨rfl,hlt rfl⟩
 rcases go un rfl with hun| ⟨hun,hl0⟩
 ·subst hun
  clear hlt go
  go_upto_region 6 with fail
  generalize W0.alloc (.cells (yvA 2 ng (.slice ao la ca) pw) 66)=WA at q1 p1 v1 r1 b1⊢;generalize W0.heap.size=Q at q1 hq hne⊢;clear x0 x1 x2 x3 x4 x5 y5 d0;obtain⟨x0,x1,x2,x3,x4,x5⟩:=p1.cs6
  by_cases hz:la=0
  ·have hz1:(((la:Nat):Int)==0)=true:=by rw[hz];rfl
   have hcl:cl=1:=by rw[HE.out.2.1,if_pos hz]
   subst hcl;clear hz;have c0:=q1.c 0 rfl;have f0:=q1.f 0;have bq:=ag WA Q 0 (yi 1);have q2:au (WA.setCell ⟨Q,0,none⟩ (yi 1)) Q 66 (yvL 1 ng (.slice ao la ca) pw):=q1.set 0 (yi 1);have p2:=bq.loc p1 (by omega);have v2:=bq.loc v1 (by omega);have r2:=bq.rd r1 (aX r1 q1 (by simp));have b2:=bq.below b1 (by omega)
   go_upto_block 1 with fail
   generalize WA.setCell ⟨Q,0,none⟩ (yi 1)=W1 at q2 p2 v2 r2 b2⊢;clear c0 f0 bq q1 p1 v1 r1 b1 x0 x1 x2 x3 x4 x5 hz1;obtain⟨x0,x1,x2,x3,x4,x5⟩:=p2.cs6;clear p2
   cases ex
   ·have hfl:fl=1:=HE.out.2.2
    subst hfl;clear HE;have cR:au ((((W1.setCell ⟨w.heap.size+1+1,0,none⟩ (yi 1)).setCell ⟨w.heap.size+1+1,1,none⟩ (.bool ng)).setCell ⟨w.heap.size+1+1,2,none⟩ (.slice ao la ca)).setCell ⟨w.heap.size+1+1,3,none⟩ (yi pw)) (w.heap.size+1+1) 66 (yvL 1 ng (.slice ao la ca) pw):=((((v2.set 0 (yi 1)).set 1 (.bool ng)).set 2 (.slice ao la ca)).set 3 (yi pw));have bu:=(((ag W1 (w.heap.size+1+1) 0 (yi 1)).trans (ag _ (w.heap.size+1+1) 1 (.bool ng))).trans (ag _ (w.heap.size+1+1) 2 (.slice ao la ca))).trans (ag _ (w.heap.size+1+1) 3 (yi pw));have bR:=bu.below b2 (by omega);have rR:=bu.rd r2 (aX r2 v2 (by simp));have hl:=run_loadVar_mid (P:=Tryz.prog) _ (w.heap.size+1+1) 0 66 (yvL 1 ng (.slice ao la ca) pw) _ cR.range underlying66 rfl (by kernel_rfl);have HH:Hid (_∧_∧_):=⟨hl,rR,bR⟩;obtain⟨z0,z1,z2,z3⟩:=v2.cs4;have fz0:=v2.f 0;have fz1:=v2.f 1;have fz2:=v2.f 2;have fz3:=v2.f 3;clear hl bR bu cR rR;obtain⟨k0,k1,k2,k3⟩:=q2.cs4;clear v2 b2 r2 q2
    go_wp2
    obtain⟨hl,rR,bR⟩:=HH.out;exact bodyPost_ret (aj results83 rfl rfl hl) rfl ⟨_,rfl,rR,bR⟩
   ·have hfl:fl=0:=HE.out.2.2
    subst hfl;clear HE;have cR:au ((((W1.setCell ⟨w.heap.size+1+1,0,none⟩ (yi 1)).setCell ⟨w.heap.size+1+1,1,none⟩ (.bool ng)).setCell ⟨w.heap.size+1+1,2,none⟩ (.slice ao la ca)).setCell ⟨w.heap.size+1+1,3,none⟩ (yi pw)) (w.heap.size+1+1) 66 (yvL 1 ng (.slice ao la ca) pw):=((((v2.set 0 (yi 1)).set 1 (.bool ng)).set 2 (.slice ao la ca)).set 3 (yi pw));have bu:=(((ag W1 (w.heap.size+1+1) 0 (yi 1)).trans (ag _ (w.heap.size+1+1) 1 (.bool ng))).trans (ag _ (w.heap.size+1+1) 2 (.slice ao la ca))).trans (ag _ (w.heap.size+1+1) 3 (yi pw));have bR:=bu.below b2 (by omega);have rR:=bu.rd r2 (aX r2 v2 (by simp));have hl:=run_loadVar_mid (P:=Tryz.prog) _ (w.heap.size+1+1) 0 66 (yvL 1 ng (.slice ao la ca) pw) _ cR.range underlying66 rfl (by kernel_rfl);have HH:Hid (_∧_∧_):=⟨hl,rR,bR⟩;obtain⟨z0,z1,z2,z3⟩:=v2.cs4;have fz0:=v2.f 0;have fz1:=v2.f 1;have fz2:=v2.f 2;have fz3:=v2.f 3;clear hl bR bu cR rR;obtain⟨k0,k1,k2,k3⟩:=q2.cs4;clear v2 b2 r2 q2
    go_wp2
    obtain⟨hl,rR,bR⟩:=HH.out;exact bodyPost_ret (aj results83 rfl rfl hl) rfl ⟨_,rfl,rR,bR⟩
  ·have hz1:(((la:Nat):Int)==0)=false:=beq_eq_false_iff_ne.2 (by omega)
   have hcl:cl=2:=by rw[HE.out.2.1,if_neg hz]
   subst hcl;clear hz
   go_upto_block 1 with fail
   have q2:=q1;have v2:=v1;have r2:=r1;have b2:=b1;clear q1 v1 r1 b1 p1 hz1;generalize WA=W1 at*
   cases ex
   ·have hfl:fl=1:=HE.out.2.2
    subst hfl;clear HE;have cR:au ((((W1.setCell ⟨w.heap.size+1+1,0,none⟩ (yi 2)).setCell ⟨w.heap.size+1+1,1,none⟩ (.bool ng)).setCell ⟨w.heap.size+1+1,2,none⟩ (.slice ao la ca)).setCell ⟨w.heap.size+1+1,3,none⟩ (yi pw)) (w.heap.size+1+1) 66 (yvL 2 ng (.slice ao la ca) pw):=((((v2.set 0 (yi 2)).set 1 (.bool ng)).set 2 (.slice ao la ca)).set 3 (yi pw));have bu:=(((ag W1 (w.heap.size+1+1) 0 (yi 2)).trans (ag _ (w.heap.size+1+1) 1 (.bool ng))).trans (ag _ (w.heap.size+1+1) 2 (.slice ao la ca))).trans (ag _ (w.heap.size+1+1) 3 (yi pw));have bR:=bu.below b2 (by omega);have rR:=bu.rd r2 (aX r2 v2 (by simp));have hl:=run_loadVar_mid (P:=Tryz.prog) _ (w.heap.size+1+1) 0 66 (yvL 2 ng (.slice ao la ca) pw) _ cR.range underlying66 rfl (by kernel_rfl);have HH:Hid (_∧_∧_):=⟨hl,rR,bR⟩;obtain⟨z0,z1,z2,z3⟩:=v2.cs4;have fz0:=v2.f 0;have fz1:=v2.f 1;have fz2:=v2.f 2;have fz3:=v2.f 3;clear hl bR bu cR rR;obtain⟨k0,k1,k2,k3⟩:=q2.cs4;clear v2 b2 r2 q2
    go_wp2
    obtain⟨hl,rR,bR⟩:=HH.out;exact bodyPost_ret (aj results83 rfl rfl hl) rfl ⟨_,rfl,rR,bR⟩
   ·have hfl:fl=0:=HE.out.2.2
    subst hfl;clear HE;have cR:au ((((W1.setCell ⟨w.heap.size+1+1,0,none⟩ (yi 2)).setCell ⟨w.heap.size+1+1,1,none⟩ (.bool ng)).setCell ⟨w.heap.size+1+1,2,none⟩ (.slice ao la ca)).setCell ⟨w.heap.size+1+1,3,none⟩ (yi pw)) (w.heap.size+1+1) 66 (yvL 2 ng (.slice ao la ca) pw):=((((v2.set 0 (yi 2)).set 1 (.bool ng)).set 2 (.slice ao la ca)).set 3 (yi pw));have bu:=(((ag W1 (w.heap.size+1+1) 0 (yi 2)).trans (ag _ (w.heap.size+1+1) 1 (.bool ng))).trans (ag _ (w.heap.size+1+1) 2 (.slice ao la ca))).trans (ag _ (w.heap.size+1+1) 3 (yi pw));have bR:=bu.below b2 (by omega);have rR:=bu.rd r2 (aX r2 v2 (by simp));have hl:=run_loadVar_mid (P:=Tryz.prog) _ (w.heap.size+1+1) 0 66 (yvL 2 ng (.slice ao la ca) pw) _ cR.range underlying66 rfl (by kernel_rfl);have HH:Hid (_∧_∧_):=⟨hl,rR,bR⟩;obtain⟨z0,z1,z2,z3⟩:=v2.cs4;have fz0:=v2.f 0;have fz1:=v2.f 1;have fz2:=v2.f 2;have fz3:=v2.f 3;clear hl bR bu cR rR;obtain⟨k0,k1,k2,k3⟩:=q2.cs4;clear v2 b2 r2 q2
    go_wp2
    obtain⟨hl,rR,bR⟩:=HH.out;exact bodyPost_ret (aj results83 rfl rfl hl) rfl ⟨_,rfl,rR,bR⟩
 ·subst hun
  clear hlt go
  go_upto_region 6 with fail
  generalize W0.alloc (.cells (yvA 2 ng (.slice ao la ca) pw) 66)=WA at q1 p1 v1 r1 b1⊢;generalize W0.heap.size=Q at q1 hq hne⊢;clear x0 x1 x2 x3 x4 x5 y5 d0;obtain⟨x0,x1,x2,x3,x4,x5⟩:=p1.cs6
  by_cases hz:la=0
  ·have hz1:(((la:Nat):Int)==0)=true:=by rw[hz];rfl
   have hcl:cl=1:=by rw[HE.out.2.1,if_pos hz]
   subst hcl;clear hz;have c0:=q1.c 0 rfl;have f0:=q1.f 0;have bq:=ag WA Q 0 (yi 1);have q2:au (WA.setCell ⟨Q,0,none⟩ (yi 1)) Q 66 (yvL 1 ng (.slice ao la ca) pw):=q1.set 0 (yi 1);have p2:=bq.loc p1 (by omega);have v2:=bq.loc v1 (by omega);have r2:=bq.rd r1 (aX r1 q1 (by simp));have b2:=bq.below b1 (by omega)
   go_upto_block 1 with fail
   generalize WA.setCell ⟨Q,0,none⟩ (yi 1)=W1 at q2 p2 v2 r2 b2⊢;clear c0 f0 bq q1 p1 v1 r1 b1 x0 x1 x2 x3 x4 x5 hz1;obtain⟨x0,x1,x2,x3,x4,x5⟩:=p2.cs6;clear p2
   cases ex
   ·have hfl:fl=3:=HE.out.2.2
    subst hfl;clear HE;have cR:au ((((W1.setCell ⟨w.heap.size+1+1,0,none⟩ (yi 1)).setCell ⟨w.heap.size+1+1,1,none⟩ (.bool ng)).setCell ⟨w.heap.size+1+1,2,none⟩ (.slice ao la ca)).setCell ⟨w.heap.size+1+1,3,none⟩ (yi pw)) (w.heap.size+1+1) 66 (yvL 1 ng (.slice ao la ca) pw):=((((v2.set 0 (yi 1)).set 1 (.bool ng)).set 2 (.slice ao la ca)).set 3 (yi pw));have bu:=(((ag W1 (w.heap.size+1+1) 0 (yi 1)).trans (ag _ (w.heap.size+1+1) 1 (.bool ng))).trans (ag _ (w.heap.size+1+1) 2 (.slice ao la ca))).trans (ag _ (w.heap.size+1+1) 3 (yi pw));have bR:=bu.below b2 (by omega);have rR:=bu.rd r2 (aX r2 v2 (by simp));have hl:=run_loadVar_mid (P:=Tryz.prog) _ (w.heap.size+1+1) 0 66 (yvL 1 ng (.slice ao la ca) pw) _ cR.range underlying66 rfl (by kernel_rfl);have HH:Hid (_∧_∧_):=⟨hl,rR,bR⟩;obtain⟨z0,z1,z2,z3⟩:=v2.cs4;have fz0:=v2.f 0;have fz1:=v2.f 1;have fz2:=v2.f 2;have fz3:=v2.f 3;clear hl bR bu cR rR;obtain⟨k0,k1,k2,k3⟩:=q2.cs4;clear v2 b2 r2 q2
    go_wp2
    obtain⟨hl,rR,bR⟩:=HH.out;exact bodyPost_ret (aj results83 rfl rfl hl) rfl ⟨_,rfl,rR,bR⟩
   ·have hfl:fl=0:=HE.out.2.2
    subst hfl;clear HE;have cR:au ((((W1.setCell ⟨w.heap.size+1+1,0,none⟩ (yi 1)).setCell ⟨w.heap.size+1+1,1,none⟩ (.bool ng)).setCell ⟨w.heap.size+1+1,2,none⟩ (.slice ao la ca)).setCell ⟨w.heap.size+1+1,3,none⟩ (yi pw)) (w.heap.size+1+1) 66 (yvL 1 ng (.slice ao la ca) pw):=((((v2.set 0 (yi 1)).set 1 (.bool ng)).set 2 (.slice ao la ca)).set 3 (yi pw));have bu:=(((ag W1 (w.heap.size+1+1) 0 (yi 1)).trans (ag _ (w.heap.size+1+1) 1 (.bool ng))).trans (ag _ (w.heap.size+1+1) 2 (.slice ao la ca))).trans (ag _ (w.heap.size+1+1) 3 (yi pw));have bR:=bu.below b2 (by omega);have rR:=bu.rd r2 (aX r2 v2 (by simp));have hl:=run_loadVar_mid (P:=Tryz.prog) _ (w.heap.size+1+1) 0 66 (yvL 1 ng (.slice ao la ca) pw) _ cR.range underlying66 rfl (by kernel_rfl);have HH:Hid (_∧_∧_):=⟨hl,rR,bR⟩;obtain⟨z0,z1,z2,z3⟩:=v2.cs4;have fz0:=v2.f 0;have fz1:=v2.f 1;have fz2:=v2.f 2;have fz3:=v2.f 3;clear hl bR bu cR rR;obtain⟨k0,k1,k2,k3⟩:=q2.cs4;clear v2 b2 r2 q2
    go_wp2
    obtain⟨hl,rR,bR⟩:=HH.out;exact bodyPost_ret (aj results83 rfl rfl hl) rfl ⟨_,rfl,rR,bR⟩
  ·have hz1:(((la:Nat):Int)==0)=false:=beq_eq_false_iff_ne.2 (by omega)
   have hcl:cl=2:=by rw[HE.out.2.1,if_neg hz]
   subst hcl;clear hz
   go_upto_block 1 with fail
   have q2:=q1;have v2:=v1;have r2:=r1;have b2:=b1;clear q1 v1 r1 b1 p1 hz1;generalize WA=W1 at*
   cases ex
   ·have hfl:fl=3:=HE.out.2.2
    subst hfl;clear HE;have cR:au ((((W1.setCell ⟨w.heap.size+1+1,0,none⟩ (yi 2)).setCell ⟨w.heap.size+1+1,1,none⟩ (.bool ng)).setCell ⟨w.heap.size+1+1,2,none⟩ (.slice ao la ca)).setCell ⟨w.heap.size+1+1,3,none⟩ (yi pw)) (w.heap.size+1+1) 66 (yvL 2 ng (.slice ao la ca) pw):=((((v2.set 0 (yi 2)).set 1 (.bool ng)).set 2 (.slice ao la ca)).set 3 (yi pw));have bu:=(((ag W1 (w.heap.size+1+1) 0 (yi 2)).trans (ag _ (w.heap.size+1+1) 1 (.bool ng))).trans (ag _ (w.heap.size+1+1) 2 (.slice ao la ca))).trans (ag _ (w.heap.size+1+1) 3 (yi pw));have bR:=bu.below b2 (by omega);have rR:=bu.rd r2 (aX r2 v2 (by simp));have hl:=run_loadVar_mid (P:=Tryz.prog) _ (w.heap.size+1+1) 0 66 (yvL 2 ng (.slice ao la ca) pw) _ cR.range underlying66 rfl (by kernel_rfl);have HH:Hid (_∧_∧_):=⟨hl,rR,bR⟩;obtain⟨z0,z1,z2,z3⟩:=v2.cs4;have fz0:=v2.f 0;have fz1:=v2.f 1;have fz2:=v2.f 2;have fz3:=v2.f 3;clear hl bR bu cR rR;obtain⟨k0,k1,k2,k3⟩:=q2.cs4;clear v2 b2 r2 q2
    go_wp2
    obtain⟨hl,rR,bR⟩:=HH.out;exact bodyPost_ret (aj results83 rfl rfl hl) rfl ⟨_,rfl,rR,bR⟩
   ·have hfl:fl=0:=HE.out.2.2
    subst hfl;clear HE;have cR:au ((((W1.setCell ⟨w.heap.size+1+1,0,none⟩ (yi 2)).setCell ⟨w.heap.size+1+1,1,none⟩ (.bool ng)).setCell ⟨w.heap.size+1+1,2,none⟩ (.slice ao la ca)).setCell ⟨w.heap.size+1+1,3,none⟩ (yi pw)) (w.heap.size+1+1) 66 (yvL 2 ng (.slice ao la ca) pw):=((((v2.set 0 (yi 2)).set 1 (.bool ng)).set 2 (.slice ao la ca)).set 3 (yi pw));have bu:=(((ag W1 (w.heap.size+1+1) 0 (yi 2)).trans (ag _ (w.heap.size+1+1) 1 (.bool ng))).trans (ag _ (w.heap.size+1+1) 2 (.slice ao la ca))).trans (ag _ (w.heap.size+1+1) 3 (yi pw));have bR:=bu.below b2 (by omega);have rR:=bu.rd r2 (aX r2 v2 (by simp));have hl:=run_loadVar_mid (P:=Tryz.prog) _ (w.heap.size+1+1) 0 66 (yvL 2 ng (.slice ao la ca) pw) _ cR.range underlying66 rfl (by kernel_rfl);have HH:Hid (_∧_∧_):=⟨hl,rR,bR⟩;obtain⟨z0,z1,z2,z3⟩:=v2.cs4;have fz0:=v2.f 0;have fz1:=v2.f 1;have fz2:=v2.f 2;have fz3:=v2.f 3;clear hl bR bu cR rR;obtain⟨k0,k1,k2,k3⟩:=q2.cs4;clear v2 b2 r2 q2
    go_wp2
    obtain⟨hl,rR,bR⟩:=HH.out;exact bodyPost_ret (aj results83 rfl rfl hl) rfl ⟨_,rfl,rR,bR⟩
end Go.Proofs.YtpgijbdgljkeeaaGreatDoor
