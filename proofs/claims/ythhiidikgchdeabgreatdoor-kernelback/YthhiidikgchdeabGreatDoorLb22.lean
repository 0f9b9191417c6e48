/- Texts laid together. -/
import Derived.Test.YthhiidikgchdeabGreatDoorLb20
set_option maxRecDepth 100000
set_option maxHeartbeats 25600000
namespace Go.Proofs.YthhiidikgchdeabGreatDoor
open _root_.Go.Proofs.Tryz
open Go.RowKit
theorem inverse_W0 (n k:Nat)(lo hi:ak)(w:World)(hn:2≤n∧n<65536)(hk:k≤60000)(d6:invLo (lp (n*n) 0 (k+1) 0 (2^k/n) 0 0) k=lo)(d5:invHi (lp (n*n) 0 (k+1) 0 (2^k/n) 0 0) k=hi)
  (HO: ∀(m d q:Nat) v B,Rd B .u32 v (Dg.dg 4294967296 m)→au B q 36 [.int .u32 d]→0<d∧d<4294967296∧m≤2^k→yC 126 #[v,.slice (some ⟨q,0,none⟩) 1 1] B (TwS B (m/d) (m % d)))
  (HN: ∀(m d:Nat) v u B,Rd B .u32 v (Dg.dg 4294967296 m)→Rd B .u32 u (Dg.dg 4294967296 d)→0<d∧m≤2^k→yC 126 #[v,u] B (TwS B (m/d) (m % d)))
  (HT: ∀q B,au B q 36 [.int .u32 n]→yC 66 #[.slice (some ⟨q,0,none⟩) 1 1,.slice (some ⟨q,0,none⟩) 1 1] B (NmS B (n*n)))
  (HS: ∀q B,au B q 36 [.int .u32 1]→yC 102 #[.slice (some ⟨q,0,none⟩) 1 1,yi k] B (NmS B (2^k)))
  (HP: ∀(a b:Nat) v u B,Rd B .u32 v (Dg.dg 4294967296 a)→Rd B .u32 u (Dg.dg 4294967296 b)→a≤(k+2)*2^k∧b≤2^k→yC 68 #[v,u] B (NmS B (a+b)))
  (HM: ∀(a b:Nat) v u B,Rd B .u32 v (Dg.dg 4294967296 a)→Rd B .u32 u (Dg.dg 4294967296 b)→a≤(k+2)*2^k∧b≤a→yC 70 #[v,u] B (NmS B (a-b)))
  (HL: ∀(m:Nat) p o B,yC 64 (ydA false (yT p m o) 0) B (yR B (ydV false (yT p m o) 0)))
  (HW: ∀(m:Nat) B,m≤1000000→yC 43 #[yi m] B (Lx B ⟨false,m,0⟩))
  (HD: ∀(m d:Nat) p o A z B,Rd B .u32 (yT p m o) (Dg.dg 4294967296 m)→Rd B .u32 (yT A d z) (Dg.dg 4294967296 d)→m≤(k+2)*2^k∧d≤1000000→yC 75 #[ydV false (yT p m o) 0,ydV false (yT A d z) 0] B (Lx B (aG ⟨false,m,0⟩ (dV ⟨false,d,0⟩))))
  (HE: ∀(m d:Nat) p o A z B,Rd B .u32 (yT p m o) (Dg.dg 4294967296 m)→Rd B .u32 (yT A d z) (Dg.dg 4294967296 d)→m≤(k+2)*2^k∧d≤1000000→yC 32 #[ydV false (yT p m o) 0,ydV false (yT A d z) 0] B (Lx B (aG ⟨false,m,0⟩ ⟨false,d,0⟩)))
  (HC: ∀(x y:ak) p o A z B,-1000000≤x.e∧x.e≤1000000∧ -1000000≤y.e∧y.e≤1000000→yC 81 #[.agg #[.bool x.s,yT p x.n o,yi x.e,.bool y.s,yT A y.n z,yi y.e],yi (-(k:Int))] B (yR B (.agg #[.bool x.s,yT p x.n o,yi (x.e-(k:Int)),.bool y.s,yT A y.n z,yi (y.e-(k:Int))]))):
  yC 128 #[yi n,yi k,yi 0] w (aeT w lo hi):=by
 replace HO:Hid _:=HO;replace HN:Hid _:=HN;replace HT:Hid _:=HT;replace HS:Hid _:=HS;replace HP:Hid _:=HP;replace HM:Hid _:=HM;replace HL:Hid _:=HL;replace HW:Hid _:=HW;replace HD:Hid _:=HD;replace HE:Hid _:=HE;replace HC:Hid _:=HC;have ns:IntKind.u32.wrap n=(n:Int):=IntWalk.u32_in _ ⟨by omega,by omega⟩;obtain⟨R,hR⟩: ∃R,lp (n*n) 0 (k+1) 0 (2^k/n) 0 0=R:=⟨_,rfl⟩;rw[hR] at d6 d5;replace d6:Hid _:=d6;replace d5:Hid _:=d5;replace hR:Hid _:=hR;have mf:Hid (0<n∧n<4294967296∧2^k≤2^k):=⟨by omega,by omega,Nat.le_refl _⟩;replace hn:Hid _:=hn;replace hk:Hid _:=hk;obtain⟨W3,f6,q1,b2⟩:=cA w [.bool false,yN,yi 0,.bool false,yN,yi 0] 54;replace f6:Hid _:=f6
 go_enter func128,ntmps128
 go_upto_region 1 with fail
 rw[f6.out];clear f6;have nn:=q1.lt;have g5:=af W3 (.cells #[.int .u32 n] 36);have q6:=ah W3 [.int .u32 n] 36;have q8:=q1.l g5;have b9:=aa b2 g5
 go_upto_region 2 with fail
 clear q1 b2 g5;generalize W3.alloc (.cells #[.int .u32 n] 36)=hx at q8 q6 b9⊢;have n9:=q8.lt;have na:=q6.lt;have ey:=af hx (.cells #[.int .u32 1] 36);have j6:=ah hx [.int .u32 1] 36;have jb:=q8.l ey;have je:=q6.l ey;have hy:=aa b9 ey
 go_wp2_with fail
 refine(HS.out _ _ j6).mono ?_;rintro J op ⟨o1,rfl,h6,f0⟩;have jv:=jb.l f0;have gq:=je.l f0;have i4:=aa hy f0;obtain⟨ho,hc,E⟩:=h6.shape;subst E;clear jb je j6 hy f0 q8 q6 b9 ey
 go_wp2_with fail
 refine(HO.out (2^k) n _ _ _ h6 gq mf.out).mono ?_;rintro J g1 ⟨o6,ok,rfl,h9,ko,f1⟩;have gx:=jv.l f1;have gz:=gq.l f1;have g8:=aa i4 f1;obtain⟨go,gc,E⟩:=h9.shape;subst E;obtain⟨mo,mc,E⟩:=ko.shape;subst E;clear jv gq h6 i4 f1;obtain⟨n3,f5,k8,e7⟩:=cA g1 [yN,yN] 135;replace f5:Hid _:=f5;have nh:w.heap.size≤g1.heap.size:=g8.size;have nk:=gx.lt;have nl:=gz.lt;have k9:=gx.l e7;have ka:=gz.l e7;have l7:=h9.l e7;have i8:=aa g8 e7;clear gx gz h9 ko g8 e7
 go_upto_region 4 with fail
 rw[f5.out];clear f5;have it:=i8;have kb:=k9;have h4:=ka;have h5:=k8;have rg:=l7;have ee:w.heap.size<W3.heap.size∧W3.heap.size<g1.heap.size:=⟨by omega,by omega⟩;obtain⟨ab,gg⟩: ∃x,g1.heap.size=x:=⟨_,rfl⟩;obtain⟨bb,gi⟩: ∃x,W3.heap.size=x:=⟨_,rfl⟩;clear k9 ka k8 l7 i8
 go_wp2
 try rw[gg]
 try rw[gi]
 rw[gg] at h5 ee;rw[gi] at h4 ee;clear gg gi
 go_loopw [8,11,12] (fun pv wv iv wr=>InvR w n k 0 R bb ab pv wv iv wr) (fun _ _ iv _=>(((k+1:Nat):Int)-intOf iv).toNat)
 case atStart=>exact⟨k+1,0,2^k/n,0,0,3,none,0,none,0,rfl,rfl,rg,h4,h5,aN _ _,aN _ _,kb,it,ee.1,ee.2,by rw[←hR.out];exact inv_zero hn.out.1,rfl⟩
 case round=>
  clear rg kb h4 h5 it ee;obtain⟨f,i,t,s,r,L,so,sc,ro,rc,rfl,rfl,rg,q1,q2,rs,rr,q0,f7,mb,md,hI⟩:=hrel;obtain⟨go,gc,E⟩:=rg.shape;subst E
  by_cases ht:t=0
  ·replace hk:=hk.out
   subst ht;obtain⟨lk,j4,ed,j5⟩:=inv_end hI.out.1;have gm:=hI.out.2;subst lk;replace d6:=d6.out;replace d5:=d5.out;have dd:=HD.out (s-r) L;have ci:=HE.out (s-r) L;obtain⟨g,fa⟩: ∃x,aG ⟨false,s-r,0⟩ (dV ⟨false,L,0⟩)=x:=⟨_,rfl⟩;obtain⟨xh,f9⟩: ∃x,aG ⟨false,s-r,0⟩ ⟨false,L,0⟩=x:=⟨_,rfl⟩;rw[fa] at dd;rw[f9] at ci;obtain rfl:⟨g.s,g.n,g.e-(k:Int)⟩=lo:=by rw[←d6,←fa,gm];rfl
   obtain rfl:⟨xh.s,xh.n,xh.e-(k:Int)⟩=hi:=by rw[←d5,←f9,gm];rfl
   have ln:g.e=0:=by rw[←fa];exact plus_e0 _ _ rfl rfl
   have lm:xh.e=0:=by rw[←f9];exact plus_e0 _ _ rfl rfl
   have eb:Hid (-1000000≤g.e∧g.e≤1000000∧ -1000000≤xh.e∧xh.e≤1000000):=⟨by omega,by omega,by omega,by omega⟩;have me:Hid (s≤(k+2)*2^k∧r≤s):=⟨j5,j4⟩;have d7:Hid (L≤1000000):=by show L≤1000000;omega
   have gj:s-r≤(k+2)*2^k∧L≤1000000:=⟨by omega,d7.out⟩;replace dd:Hid (∀p o A z B,Rd B .u32 (.slice p (Dg.dg 4294967296 (s-r)).length o) (Dg.dg 4294967296 (s-r))→Rd B .u32 (yT A L z) (Dg.dg 4294967296 L)→yC 75 #[ydV false (.slice p (Dg.dg 4294967296 (s-r)).length o) 0,ydV false (yT A L z) 0] B (Lx B g)):=fun p o A z B h1 h2=>dd p o A z B h1 h2 gj
   replace ci:Hid (∀p o A z B,Rd B .u32 (.slice p (Dg.dg 4294967296 (s-r)).length o) (Dg.dg 4294967296 (s-r))→Rd B .u32 (yT A L z) (Dg.dg 4294967296 L)→yC 32 #[ydV false (.slice p (Dg.dg 4294967296 (s-r)).length o) 0,ydV false (yT A L z) 0] B (Lx B xh)):=fun p o A z B h1 h2=>ci p o A z B h1 h2 gj
   have np:IntKind.i64.wrap (-(k:Int))= -(k:Int):=IntWalk.i64_in _ ⟨by omega,by omega⟩;have o0:(Dg.dg 4294967296 0).length=0:=rfl;clear hI ed j5 j4 gm d6 d5 fa f9 ln lm gj HD HE HO HN HT HS HP hR hk;obtain⟨lh,li⟩:=q2.cs2
   go_wp2_with fail
   refine(HM.out s r _ _ _ rs rr me.out).mono ?_;rintro J ou ⟨o7,rfl,ha,dq⟩;have k4:=q0.l dq;have ks:=rg.l dq;have ku:=rs.l dq;have kv:=rr.l dq;have i6:=aa f7 dq;obtain⟨jo,jc,E⟩:=ha.shape;subst E;clear q0 q1 q2 rg rs rr f7 dq lh li
   go_wp2_with fail
   refine(HL.out (s-r) _ _ _).mono ?_;rintro J ep ⟨rfl,d4⟩;have gy:=k4.l d4;have kw:=ks.l d4;have kx:=ku.l d4;have ky:=kv.l d4;have kz:=ha.l d4;have g7:=aa i6 d4;clear k4 ks ku kv ha i6 d4;obtain⟨g4,f4,k5,d1⟩:=cA ep (ydL false (.slice jo (Dg.dg 4294967296 (s-r)).length jc) 0) 48;replace f4:Hid _:=f4;have nf:w.heap.size≤ep.heap.size:=g7.size;have ng:=gy.lt;have k6:=gy.l d1;have l0:=kw.l d1;have l1:=kx.l d1;have l2:=ky.l d1;have l3:=kz.l d1;have i7:=aa g7 d1;clear gy kw kx ky kz g7 d1
   go_upto_region 14 with fail
   rw[f4.out];clear f4
   go_upto_region 14 with fail
   have cr:yB g4 g4.drew:=(Below.refl _ _).drew;have dt:=k6.l cr;have da:=k5.l cr;have ek:=l0.l cr;have el:=l1.l cr;have em:=l2.l cr;have en:=l3.l cr;have dn:=aa i7 cr;clear k6 k5 l0 l1 l2 l3 i7 cr;refine wp_region_held_drew (S:=fun wq=>au wq ep.heap.size 48 (ydL false (.slice jo (Dg.dg 4294967296 (s-r)).length jc) 0)) (by kernel_rfl) da (fun bn=> ?_)
   generalize g4.drew=e6 at dt da ek el em en dn bn⊢;refine tq 0 (ydV false (.slice jo (Dg.dg 4294967296 (s-r)).length jc) 0) rfl (fun _ gl=>fy 48 (.tmp 16) rfl ep.heap.size 0 (by kernel_rfl) _ _ gl.range underlying48 rfl (by kernel_rfl)) bn ?_
   refine tq 1 (yi (L:Int)) rfl (fun _ _=>by kernel_rfl) bn ?_
   refine tq 4 (ydV false (.slice jo (Dg.dg 4294967296 (s-r)).length jc) 0) rfl (fun _ gl=>fy 48 (.tmp 16) rfl ep.heap.size 0 (by kernel_rfl) _ _ gl.range underlying48 rfl (by kernel_rfl)) bn ?_
   refine tq 5 (yi (L:Int)) rfl (fun _ _=>by kernel_rfl) bn ?_
   refine wpAnyH_ready (rs:=[2,9]) (by kernel_rfl) (by simp) ?_;refine AllReadyH.cons rfl (fun K j=> ?_) (AllReadyH.cons rfl (fun K j=> ?_) AllReadyH.nil)
   ·go_simp
    refine(HW.out L _ d7.out).mono ?_;rintro J es ⟨o8,rfl,e2,cv⟩;have ef:=dt.l cv;have dv:=da.l cv;have fl:=ek.l cv;have fn:=el.l cv;have fo:=em.l cv;have c4:=en.l cv;have e8:=aa dn cv;obtain⟨ao,ac,E⟩:=e2.shape;subst E;clear dt da ek el em en dn cv;refine j.out _ _ dv (fun f2=> ?_)
    clear j K;refine wpAnyH_ready (rs:=[3,9]) (by kernel_rfl) (by simp) ?_;refine AllReadyH.cons rfl (fun K j=> ?_) (AllReadyH.cons rfl (fun K j=> ?_) AllReadyH.nil)
    ·go_simp
     refine(dd.out _ _ _ _ _ c4 e2).mono ?_;rintro J et ⟨o9,rfl,ej,bs⟩;have eg:=ef.l bs;have dy:=dv.l bs;have fp:=fl.l bs;have fr:=fn.l bs;have fs:=fo.l bs;have cz:=c4.l bs;have bj:=e2.l bs;have e9:=aa e8 bs;obtain⟨p,o,E⟩:=ej.shape;subst E;clear ef dv fl fn fo c4 e2 e8 bs;refine j.out _ _ dy (fun gd=> ?_)
     clear j K;refine wpAnyH_ready (rs:=[6,9]) (by kernel_rfl) (by simp) ?_;refine AllReadyH.cons rfl (fun K j=> ?_) (AllReadyH.cons rfl (fun K j=> ?_) AllReadyH.nil)
     ·go_simp
      refine(HW.out L _ d7.out).mono ?_;rintro J eu ⟨ob,rfl,e3,bm⟩;have eh:=eg.l bm;have e1:=dy.l bm;have ft:=fp.l bm;have fv:=fr.l bm;have fx:=fs.l bm;have c5:=cz.l bm;have b5:=bj.l bm;have b6:=ej.l bm;have ea:=aa e9 bm;obtain⟨bo,bc,E⟩:=e3.shape;subst E;clear eg dy fp fr fs cz bj ej e9 bm;refine j.out _ _ e1 (fun ih=> ?_)
      clear j K;refine wpAnyH_ready (rs:=[7,9]) (by kernel_rfl) (by simp) ?_;refine AllReadyH.cons rfl (fun K j=> ?_) (AllReadyH.cons rfl (fun K j=> ?_) AllReadyH.nil)
      ·go_simp
       refine(ci.out _ _ _ _ _ c5 e3).mono ?_;rintro J ev ⟨od,rfl,hb,bi⟩;have h3:=eh.l bi;have fi:=e1.l bi;have l4:=ft.l bi;have l5:=fv.l bi;have l6:=fx.l bi;have e5:=c5.l bi;have ax:=b5.l bi;have ay:=b6.l bi;have aq:=e3.l bi;have ga:=aa ea bi;obtain⟨A,z,E⟩:=hb.shape;subst E;clear eh e1 ft fv fx c5 b5 b6 e3 ea bi;refine j.out _ _ fi (fun ir=> ?_)
       clear j K;refine tq 8 (.agg #[.bool g.s,yT p g.n o,yi g.e,.bool xh.s,yT A xh.n z,yi xh.e]) rfl (fun _ _=>by kernel_rfl) ir ?_
       refine wpAnyH_ready (rs:=[9]) (by kernel_rfl) (by simp) ?_;refine AllReadyH.cons rfl (fun K j=> ?_) AllReadyH.nil
       go_simp
       have ba:=af ev (.cells #[.bool false,yN,yi 0,.bool false,yN,yi 0] 54);have b7:=ah ev [.bool false,yN,yi 0,.bool false,yN,yi 0] 54;have m7:w.heap.size≤ev.heap.size:=ga.size;have m8:=h3.lt;have ma:=fi.lt;have av:=h3.l ba;have N:=fi.l ba;have g0:=l4.l ba;have O:=l5.l ba;have Q:=l6.l ba;have T:=e5.l ba;have U:=ax.l ba;have W:=ay.l ba;have X:=aq.l ba;have Y:=hb.l ba;have ar:=aa ga ba;refine j.out _ _ N (fun b1=> ?_)
       clear j K;clear h3 fi l4 l5 l6 e5 ax ay aq hb ga ba;generalize ev.alloc (.cells #[.bool false,yN,yi 0,.bool false,yN,yi 0] 54)=dl at av N b7 g0 O Q T U W X Y ar b1⊢;generalize ev.heap.size=cn at b7 m7 m8 ma⊢;refine wpAnyH_ready (rs:=[10]) (by kernel_rfl) (by simp) ?_;refine AllReadyH.cons rfl (fun K j=> ?_) AllReadyH.nil
       have h:But cn dl (dl.setCells cn 0 [.bool g.s,yT p g.n o,yi g.e,.bool xh.s,yT A xh.n z,yi xh.e]):=de _ _ _ _;have b3:dl.there cn 0 6:=dD b7;have a0:au (dl.setCells cn 0 [.bool g.s,yT p g.n o,yi g.e,.bool xh.s,yT A xh.n z,yi xh.e]) cn 54 [.bool g.s,yT p g.n o,yi g.e,.bool xh.s,yT A xh.n z,yi xh.e]:=b7.sets _ rfl;have a4:=h.rd g0 (aX g0 b7 (by simp));have a5:=h.rd O (aX O b7 (by simp));have a6:=h.rd Q (aX Q b7 (by simp));have a7:=h.rd T (aX T b7 (by simp));have a8:=h.rd U (aX U b7 (by simp));have a9:=h.rd W (aX W b7 (by simp));have ad:=h.rd X (aX X b7 (by simp));have ae:=h.rd Y (aX Y b7 (by simp));have a1:=h.loc av (by omega);have a2:=h.loc N (by omega);have Z:=h.below ar (by omega);rw[if_pos (by kernel_rfl)];refine wp_store_mid 54 (.tmp 17) (.tmp 79) rfl cn 0 #[.bool g.s,yT p g.n o,yi g.e,.bool xh.s,yT A xh.n z,yi xh.e] (by kernel_rfl) (by kernel_rfl) b3 (by kernel_rfl) (by simp[Value.oneCell']) ?_;refine j.out _ _ a2 (fun c2=> ?_)
       clear j K;clear b7 g0 O Q T U W X Y av N ar h b3;refine wpAnyH_done (by kernel_rfl) ?_ _;clear bn f2 gd ih ir b1 c2;change Exit.then _ _ _ _ (World.setCells dl cn 0 [.bool g.s,yT p g.n o,yi g.e,.bool xh.s,yT A xh.n z,yi xh.e]);generalize World.setCells dl cn 0 [.bool g.s,yT p g.n o,yi g.e,.bool xh.s,yT A xh.n z,yi xh.e]=ex at a1 a2 a0 a4 a5 a6 a7 a8 a9 ad ae Z⊢;simp only[Act.put,List.getElem_toArray,List.getElem_cons_succ,List.getElem_cons_zero];obtain⟨bv,bw,bx,bz,c0,c1⟩:=a0.cs6
       go_wp2_with fail
       refine(HC.out g xh _ _ _ _ _ eb.out).mono ?_;rintro J g2 ⟨rfl,C⟩;have H:=a1.l C;have c9:=a4.l C;have ca:=a5.l C;have cb:=a6.l C;have cc:=a7.l C;have cd:=a8.l C;have al:=a9.l C;have ce:=ad.l C;have an:=ae.l C;have b0:=aa Z C;clear a1 a2 a0 a4 a5 a6 a7 a8 a9 ad ae Z C bv bw bx bz c0 c1;have hf:=fin6 (P:=Tryz.prog) H b0 (by omega) underlying54 rfl (by kernel_rfl) (.bool g.s) (yT p g.n o) (yi (g.e-(k:Int))) (.bool xh.s) (yT A xh.n z) (yi (xh.e-(k:Int)));have HH:Hid (_∧_∧_∧_):=⟨hf.1,hf.2.2.rd al (aX al H (by simp)),hf.2.2.rd an (aX an H (by simp)),hf.2.1⟩;obtain⟨⟨z0,z1,z2,z3,z4,z5⟩,y0,y1,y2,y3,y4,y5⟩:=csf6 H;clear hf H c9 ca cb cc cd al ce an b0
       go_wp2
       obtain⟨hl,cg,ch,bR⟩:=HH.out;exact bodyPost_ret (br results128 rfl hl) rfl ⟨_,_,rfl,cg,ch,bR⟩
      ·go_simp
       have bh:=af eu (.cells #[.bool false,yN,yi 0,.bool false,yN,yi 0] 54);have fg:=ah eu [.bool false,yN,yi 0,.bool false,yN,yi 0] 54;have m4:w.heap.size≤eu.heap.size:=ea.size;have m5:=eh.lt;have m6:=e1.lt;have bf:=eh.l bh;have ap:=e1.l bh;have e5:=ft.l bh;have ax:=fv.l bh;have ay:=fx.l bh;have aq:=c5.l bh;have az:=b5.l bh;have bg:=b6.l bh;have b8:=e3.l bh;have bd:=aa ea bh;refine j.out _ _ ap (fun cw=> ?_)
       clear j K;clear eh e1 ft fv fx c5 b5 b6 e3 ea bh;generalize eu.alloc (.cells #[.bool false,yN,yi 0,.bool false,yN,yi 0] 54)=n7 at bf ap fg e5 ax ay aq az bg b8 bd cw⊢;generalize eu.heap.size=cm at fg m4 m5 m6⊢;refine wpAnyH_ready (rs:=[7]) (by kernel_rfl) (by simp) ?_;refine AllReadyH.cons rfl (fun K j=> ?_) AllReadyH.nil
       go_simp
       refine(ci.out _ _ _ _ _ aq b8).mono ?_;rintro J I ⟨hu,rfl,a3,D⟩;have av:=bf.l D;have N:=ap.l D;have F:=fg.l D;have O:=e5.l D;have Q:=ax.l D;have T:=ay.l D;have U:=aq.l D;have W:=az.l D;have X:=bg.l D;have Y:=b8.l D;have ar:=aa bd D;obtain⟨A,z,E⟩:=a3.shape;subst E;clear bf ap fg e5 ax ay aq az bg b8 bd D;refine j.out _ _ N (fun b1=> ?_)
       clear j K;refine tq 8 (.agg #[.bool g.s,yT p g.n o,yi g.e,.bool xh.s,yT A xh.n z,yi xh.e]) rfl (fun _ _=>by kernel_rfl) b1 ?_
       refine wpAnyH_ready (rs:=[10]) (by kernel_rfl) (by simp) ?_;refine AllReadyH.cons rfl (fun K j=> ?_) AllReadyH.nil
       have h:But cm I (I.setCells cm 0 [.bool g.s,yT p g.n o,yi g.e,.bool xh.s,yT A xh.n z,yi xh.e]):=de _ _ _ _;have b3:I.there cm 0 6:=dD F;have a0:au (I.setCells cm 0 [.bool g.s,yT p g.n o,yi g.e,.bool xh.s,yT A xh.n z,yi xh.e]) cm 54 [.bool g.s,yT p g.n o,yi g.e,.bool xh.s,yT A xh.n z,yi xh.e]:=F.sets _ rfl;have a4:=h.rd O (aX O F (by simp));have a5:=h.rd Q (aX Q F (by simp));have a6:=h.rd T (aX T F (by simp));have a7:=h.rd U (aX U F (by simp));have a8:=h.rd W (aX W F (by simp));have a9:=h.rd X (aX X F (by simp));have ad:=h.rd Y (aX Y F (by simp));have ae:=h.rd a3 (aX a3 F (by simp));have a1:=h.loc av (by omega);have a2:=h.loc N (by omega);have Z:=h.below ar (by omega);rw[if_pos (by kernel_rfl)];refine wp_store_mid 54 (.tmp 17) (.tmp 79) rfl cm 0 #[.bool g.s,yT p g.n o,yi g.e,.bool xh.s,yT A xh.n z,yi xh.e] (by kernel_rfl) (by kernel_rfl) b3 (by kernel_rfl) (by simp[Value.oneCell']) ?_;refine j.out _ _ a2 (fun c2=> ?_)
       clear j K;clear F O Q T U W X Y a3 av N ar h b3;refine wpAnyH_done (by kernel_rfl) ?_ _;clear bn f2 gd ih cw b1 c2;change Exit.then _ _ _ _ (World.setCells I cm 0 [.bool g.s,yT p g.n o,yi g.e,.bool xh.s,yT A xh.n z,yi xh.e]);generalize World.setCells I cm 0 [.bool g.s,yT p g.n o,yi g.e,.bool xh.s,yT A xh.n z,yi xh.e]=ex at a1 a2 a0 a4 a5 a6 a7 a8 a9 ad ae Z⊢;simp only[Act.put,List.getElem_toArray,List.getElem_cons_succ,List.getElem_cons_zero];obtain⟨bv,bw,bx,bz,c0,c1⟩:=a0.cs6
       go_wp2_with fail
       refine(HC.out g xh _ _ _ _ _ eb.out).mono ?_;rintro J g2 ⟨rfl,C⟩;have H:=a1.l C;have c9:=a4.l C;have ca:=a5.l C;have cb:=a6.l C;have cc:=a7.l C;have cd:=a8.l C;have al:=a9.l C;have ce:=ad.l C;have an:=ae.l C;have b0:=aa Z C;clear a1 a2 a0 a4 a5 a6 a7 a8 a9 ad ae Z C bv bw bx bz c0 c1;have hf:=fin6 (P:=Tryz.prog) H b0 (by omega) underlying54 rfl (by kernel_rfl) (.bool g.s) (yT p g.n o) (yi (g.e-(k:Int))) (.bool xh.s) (yT A xh.n z) (yi (xh.e-(k:Int)));have HH:Hid (_∧_∧_∧_):=⟨hf.1,hf.2.2.rd al (aX al H (by simp)),hf.2.2.rd an (aX an H (by simp)),hf.2.1⟩;obtain⟨⟨z0,z1,z2,z3,z4,z5⟩,y0,y1,y2,y3,y4,y5⟩:=csf6 H;clear hf H c9 ca cb cc cd al ce an b0
       go_wp2
       obtain⟨hl,cg,ch,bR⟩:=HH.out;exact bodyPost_ret (br results128 rfl hl) rfl ⟨_,_,rfl,cg,ch,bR⟩
     ·go_simp
      have bl:=af et (.cells #[.bool false,yN,yi 0,.bool false,yN,yi 0] 54);have ff:=ah et [.bool false,yN,yi 0,.bool false,yN,yi 0] 54;have m1:w.heap.size≤et.heap.size:=e9.size;have m2:=eg.lt;have m3:=dy.lt;have c3:=eg.l bl;have be:=dy.l bl;have c5:=fp.l bl;have b5:=fr.l bl;have b6:=fs.l bl;have c6:=cz.l bl;have c7:=bj.l bl;have c8:=ej.l bl;have bq:=aa e9 bl;refine j.out _ _ be (fun ds=> ?_)
      clear j K;clear eg dy fp fr fs cz bj ej e9 bl;generalize et.alloc (.cells #[.bool false,yN,yi 0,.bool false,yN,yi 0] 54)=n6 at c3 be ff c5 b5 b6 c6 c7 c8 bq ds⊢;generalize et.heap.size=cl at ff m1 m2 m3⊢;refine wpAnyH_ready (rs:=[6]) (by kernel_rfl) (by simp) ?_;refine AllReadyH.cons rfl (fun K j=> ?_) AllReadyH.nil
      go_simp
      refine(HW.out L _ d7.out).mono ?_;rintro J lb ⟨la,rfl,b4,G⟩;have bf:=c3.l G;have ap:=be.l G;have cy:=ff.l G;have ax:=c5.l G;have ay:=b5.l G;have aq:=b6.l G;have az:=c6.l G;have bg:=c7.l G;have b8:=c8.l G;have bd:=aa bq G;obtain⟨bo,bc,E⟩:=b4.shape;subst E;clear c3 be ff c5 b5 b6 c6 c7 c8 bq G;refine j.out _ _ ap (fun cw=> ?_)
      clear j K;refine wpAnyH_ready (rs:=[7]) (by kernel_rfl) (by simp) ?_;refine AllReadyH.cons rfl (fun K j=> ?_) AllReadyH.nil
      go_simp
      refine(ci.out _ _ _ _ _ az b4).mono ?_;rintro J I ⟨hu,rfl,a3,D⟩;have av:=bf.l D;have N:=ap.l D;have F:=cy.l D;have O:=ax.l D;have Q:=ay.l D;have T:=aq.l D;have U:=az.l D;have W:=bg.l D;have X:=b8.l D;have Y:=b4.l D;have ar:=aa bd D;obtain⟨A,z,E⟩:=a3.shape;subst E;clear bf ap cy ax ay aq az bg b8 b4 bd D;refine j.out _ _ N (fun b1=> ?_)
      clear j K;refine tq 8 (.agg #[.bool g.s,yT p g.n o,yi g.e,.bool xh.s,yT A xh.n z,yi xh.e]) rfl (fun _ _=>by kernel_rfl) b1 ?_
      refine wpAnyH_ready (rs:=[10]) (by kernel_rfl) (by simp) ?_;refine AllReadyH.cons rfl (fun K j=> ?_) AllReadyH.nil
      have h:But cl I (I.setCells cl 0 [.bool g.s,yT p g.n o,yi g.e,.bool xh.s,yT A xh.n z,yi xh.e]):=de _ _ _ _;have b3:I.there cl 0 6:=dD F;have a0:au (I.setCells cl 0 [.bool g.s,yT p g.n o,yi g.e,.bool xh.s,yT A xh.n z,yi xh.e]) cl 54 [.bool g.s,yT p g.n o,yi g.e,.bool xh.s,yT A xh.n z,yi xh.e]:=F.sets _ rfl;have a4:=h.rd O (aX O F (by simp));have a5:=h.rd Q (aX Q F (by simp));have a6:=h.rd T (aX T F (by simp));have a7:=h.rd U (aX U F (by simp));have a8:=h.rd W (aX W F (by simp));have a9:=h.rd X (aX X F (by simp));have ad:=h.rd Y (aX Y F (by simp));have ae:=h.rd a3 (aX a3 F (by simp));have a1:=h.loc av (by omega);have a2:=h.loc N (by omega);have Z:=h.below ar (by omega);rw[if_pos (by kernel_rfl)];refine wp_store_mid 54 (.tmp 17) (.tmp 79) rfl cl 0 #[.bool g.s,yT p g.n o,yi g.e,.bool xh.s,yT A xh.n z,yi xh.e] (by kernel_rfl) (by kernel_rfl) b3 (by kernel_rfl) (by simp[Value.oneCell']) ?_;refine j.out _ _ a2 (fun c2=> ?_)
      clear j K;clear F O Q T U W X Y a3 av N ar h b3;refine wpAnyH_done (by kernel_rfl) ?_ _;clear bn f2 gd ds cw b1 c2;change Exit.then _ _ _ _ (World.setCells I cl 0 [.bool g.s,yT p g.n o,yi g.e,.bool xh.s,yT A xh.n z,yi xh.e]);generalize World.setCells I cl 0 [.bool g.s,yT p g.n o,yi g.e,.bool xh.s,yT A xh.n z,yi xh.e]=ex at a1 a2 a0 a4 a5 a6 a7 a8 a9 ad ae Z⊢;simp only[Act.put,List.getElem_toArray,List.getElem_cons_succ,List.getElem_cons_zero];obtain⟨bv,bw,bx,bz,c0,c1⟩:=a0.cs6
      go_wp2_with fail
      refine(HC.out g xh _ _ _ _ _ eb.out).mono ?_;rintro J g2 ⟨rfl,C⟩;have H:=a1.l C;have c9:=a4.l C;have ca:=a5.l C;have cb:=a6.l C;have cc:=a7.l C;have cd:=a8.l C;have al:=a9.l C;have ce:=ad.l C;have an:=ae.l C;have b0:=aa Z C;clear a1 a2 a0 a4 a5 a6 a7 a8 a9 ad ae Z C bv bw bx bz c0 c1;have hf:=fin6 (P:=Tryz.prog) H b0 (by omega) underlying54 rfl (by kernel_rfl) (.bool g.s) (yT p g.n o) (yi (g.e-(k:Int))) (.bool xh.s) (yT A xh.n z) (yi (xh.e-(k:Int)));have HH:Hid (_∧_∧_∧_):=⟨hf.1,hf.2.2.rd al (aX al H (by simp)),hf.2.2.rd an (aX an H (by simp)),hf.2.1⟩;obtain⟨⟨z0,z1,z2,z3,z4,z5⟩,y0,y1,y2,y3,y4,y5⟩:=csf6 H;clear hf H c9 ca cb cc cd al ce an b0
      go_wp2
      obtain⟨hl,cg,ch,bR⟩:=HH.out;exact bodyPost_ret (br results128 rfl hl) rfl ⟨_,_,rfl,cg,ch,bR⟩
    ·go_simp
     have bp:=af es (.cells #[.bool false,yN,yi 0,.bool false,yN,yi 0] 54);have fe:=ah es [.bool false,yN,yi 0,.bool false,yN,yi 0] 54;have ly:w.heap.size≤es.heap.size:=e8.size;have lz:=ef.lt;have m0:=dv.lt;have e0:=ef.l bp;have cx:=dv.l bp;have cz:=fl.l bp;have bj:=fn.l bp;have e4:=fo.l bp;have dc:=c4.l bp;have d0:=e2.l bp;have dp:=aa e8 bp;refine j.out _ _ cx (fun f3=> ?_)
     clear j K;clear ef dv fl fn fo c4 e2 e8 bp;generalize es.alloc (.cells #[.bool false,yN,yi 0,.bool false,yN,yi 0] 54)=n5 at e0 cx fe cz bj e4 dc d0 dp f3⊢;generalize es.heap.size=ck at fe ly lz m0⊢;refine wpAnyH_ready (rs:=[3]) (by kernel_rfl) (by simp) ?_;refine AllReadyH.cons rfl (fun K j=> ?_) AllReadyH.nil
     go_simp
     refine(dd.out _ _ _ _ _ dc d0).mono ?_;rintro J n0 ⟨mz,rfl,db,M⟩;have c3:=e0.l M;have be:=cx.l M;have ei:=fe.l M;have b5:=cz.l M;have b6:=bj.l M;have c6:=e4.l M;have c7:=dc.l M;have c8:=d0.l M;have bq:=aa dp M;obtain⟨p,o,E⟩:=db.shape;subst E;clear e0 cx fe cz bj e4 dc d0 dp M;refine j.out _ _ be (fun ds=> ?_)
     clear j K;refine wpAnyH_ready (rs:=[6]) (by kernel_rfl) (by simp) ?_;refine AllReadyH.cons rfl (fun K j=> ?_) AllReadyH.nil
     go_simp
     refine(HW.out L _ d7.out).mono ?_;rintro J lb ⟨la,rfl,b4,G⟩;have bf:=c3.l G;have ap:=be.l G;have cy:=ei.l G;have ax:=b5.l G;have ay:=b6.l G;have aq:=c6.l G;have az:=c7.l G;have bg:=c8.l G;have b8:=db.l G;have bd:=aa bq G;obtain⟨bo,bc,E⟩:=b4.shape;subst E;clear c3 be ei b5 b6 c6 c7 c8 db bq G;refine j.out _ _ ap (fun cw=> ?_)
     clear j K;refine wpAnyH_ready (rs:=[7]) (by kernel_rfl) (by simp) ?_;refine AllReadyH.cons rfl (fun K j=> ?_) AllReadyH.nil
     go_simp
     refine(ci.out _ _ _ _ _ az b4).mono ?_;rintro J I ⟨hu,rfl,a3,D⟩;have av:=bf.l D;have N:=ap.l D;have F:=cy.l D;have O:=ax.l D;have Q:=ay.l D;have T:=aq.l D;have U:=az.l D;have W:=bg.l D;have X:=b8.l D;have Y:=b4.l D;have ar:=aa bd D;obtain⟨A,z,E⟩:=a3.shape;subst E;clear bf ap cy ax ay aq az bg b8 b4 bd D;refine j.out _ _ N (fun b1=> ?_)
     clear j K;refine tq 8 (.agg #[.bool g.s,yT p g.n o,yi g.e,.bool xh.s,yT A xh.n z,yi xh.e]) rfl (fun _ _=>by kernel_rfl) b1 ?_
     refine wpAnyH_ready (rs:=[10]) (by kernel_rfl) (by simp) ?_;refine AllReadyH.cons rfl (fun K j=> ?_) AllReadyH.nil
     have h:But ck I (I.setCells ck 0 [.bool g.s,yT p g.n o,yi g.e,.bool xh.s,yT A xh.n z,yi xh.e]):=de _ _ _ _;have b3:I.there ck 0 6:=dD F;have a0:au (I.setCells ck 0 [.bool g.s,yT p g.n o,yi g.e,.bool xh.s,yT A xh.n z,yi xh.e]) ck 54 [.bool g.s,yT p g.n o,yi g.e,.bool xh.s,yT A xh.n z,yi xh.e]:=F.sets _ rfl;have a4:=h.rd O (aX O F (by simp));have a5:=h.rd Q (aX Q F (by simp));have a6:=h.rd T (aX T F (by simp));have a7:=h.rd U (aX U F (by simp));have a8:=h.rd W (aX W F (by simp));have a9:=h.rd X (aX X F (by simp));have ad:=h.rd Y (aX Y F (by simp));have ae:=h.rd a3 (aX a3 F (by simp));have a1:=h.loc av (by omega);have a2:=h.loc N (by omega);have Z:=h.below ar (by omega);rw[if_pos (by kernel_rfl)];refine wp_store_mid 54 (.tmp 17) (.tmp 79) rfl ck 0 #[.bool g.s,yT p g.n o,yi g.e,.bool xh.s,yT A xh.n z,yi xh.e] (by kernel_rfl) (by kernel_rfl) b3 (by kernel_rfl) (by simp[Value.oneCell']) ?_;refine j.out _ _ a2 (fun c2=> ?_)
     clear j K;clear F O Q T U W X Y a3 av N ar h b3;refine wpAnyH_done (by kernel_rfl) ?_ _;clear bn f2 f3 ds cw b1 c2;change Exit.then _ _ _ _ (World.setCells I ck 0 [.bool g.s,yT p g.n o,yi g.e,.bool xh.s,yT A xh.n z,yi xh.e]);generalize World.setCells I ck 0 [.bool g.s,yT p g.n o,yi g.e,.bool xh.s,yT A xh.n z,yi xh.e]=ex at a1 a2 a0 a4 a5 a6 a7 a8 a9 ad ae Z⊢;simp only[Act.put,List.getElem_toArray,List.getElem_cons_succ,List.getElem_cons_zero];obtain⟨bv,bw,bx,bz,c0,c1⟩:=a0.cs6
     go_wp2_with fail
     refine(HC.out g xh _ _ _ _ _ eb.out).mono ?_;rintro J g2 ⟨rfl,C⟩;have H:=a1.l C;have c9:=a4.l C;have ca:=a5.l C;have cb:=a6.l C;have cc:=a7.l C;have cd:=a8.l C;have al:=a9.l C;have ce:=ad.l C;have an:=ae.l C;have b0:=aa Z C;clear a1 a2 a0 a4 a5 a6 a7 a8 a9 ad ae Z C bv bw bx bz c0 c1;have hf:=fin6 (P:=Tryz.prog) H b0 (by omega) underlying54 rfl (by kernel_rfl) (.bool g.s) (yT p g.n o) (yi (g.e-(k:Int))) (.bool xh.s) (yT A xh.n z) (yi (xh.e-(k:Int)));have HH:Hid (_∧_∧_∧_):=⟨hf.1,hf.2.2.rd al (aX al H (by simp)),hf.2.2.rd an (aX an H (by simp)),hf.2.1⟩;obtain⟨⟨z0,z1,z2,z3,z4,z5⟩,y0,y1,y2,y3,y4,y5⟩:=csf6 H;clear hf H c9 ca cb cc cd al ce an b0
     go_wp2
     obtain⟨hl,cg,ch,bR⟩:=HH.out;exact bodyPost_ret (br results128 rfl hl) rfl ⟨_,_,rfl,cg,ch,bR⟩
   ·go_simp
    have cp:=af e6 (.cells #[.bool false,yN,yi 0,.bool false,yN,yi 0] 54);have fc:=ah e6 [.bool false,yN,yi 0,.bool false,yN,yi 0] 54;have lu:w.heap.size≤e6.heap.size:=dn.size;have lv:=dt.lt;have lx:=da.lt;have h0:=dt.l cp;have fd:=da.l cp;have c4:=ek.l cp;have hq:=el.l cp;have hr:=em.l cp;have hs:=en.l cp;have g9:=aa dn cp;refine j.out _ _ fd (fun ic=> ?_)
    clear j K;clear dt da ek el em en dn cp;generalize e6.alloc (.cells #[.bool false,yN,yi 0,.bool false,yN,yi 0] 54)=n4 at h0 fd fc c4 hq hr hs g9 ic⊢;generalize e6.heap.size=cj at fc lu lv lx⊢;refine wpAnyH_ready (rs:=[2]) (by kernel_rfl) (by simp) ?_;refine AllReadyH.cons rfl (fun K j=> ?_) AllReadyH.nil
    go_simp
    refine(HW.out L _ d7.out).mono ?_;rintro J ov ⟨oa,rfl,fk,bt⟩;have e0:=h0.l bt;have cx:=fd.l bt;have k7:=fc.l bt;have bj:=c4.l bt;have e4:=hq.l bt;have dc:=hr.l bt;have d0:=hs.l bt;have dp:=aa g9 bt;obtain⟨ao,ac,E⟩:=fk.shape;subst E;clear h0 fd fc c4 hq hr hs g9 bt;refine j.out _ _ cx (fun f3=> ?_)
    clear j K;refine wpAnyH_ready (rs:=[3]) (by kernel_rfl) (by simp) ?_;refine AllReadyH.cons rfl (fun K j=> ?_) AllReadyH.nil
    go_simp
    refine(dd.out _ _ _ _ _ d0 fk).mono ?_;rintro J n0 ⟨mz,rfl,db,M⟩;have c3:=e0.l M;have be:=cx.l M;have ei:=k7.l M;have b5:=bj.l M;have b6:=e4.l M;have c6:=dc.l M;have c7:=d0.l M;have c8:=fk.l M;have bq:=aa dp M;obtain⟨p,o,E⟩:=db.shape;subst E;clear e0 cx k7 bj e4 dc d0 fk dp M;refine j.out _ _ be (fun ds=> ?_)
    clear j K;refine wpAnyH_ready (rs:=[6]) (by kernel_rfl) (by simp) ?_;refine AllReadyH.cons rfl (fun K j=> ?_) AllReadyH.nil
    go_simp
    refine(HW.out L _ d7.out).mono ?_;rintro J lb ⟨la,rfl,b4,G⟩;have bf:=c3.l G;have ap:=be.l G;have cy:=ei.l G;have ax:=b5.l G;have ay:=b6.l G;have aq:=c6.l G;have az:=c7.l G;have bg:=c8.l G;have b8:=db.l G;have bd:=aa bq G;obtain⟨bo,bc,E⟩:=b4.shape;subst E;clear c3 be ei b5 b6 c6 c7 c8 db bq G;refine j.out _ _ ap (fun cw=> ?_)
    clear j K;refine wpAnyH_ready (rs:=[7]) (by kernel_rfl) (by simp) ?_;refine AllReadyH.cons rfl (fun K j=> ?_) AllReadyH.nil
    go_simp
    refine(ci.out _ _ _ _ _ az b4).mono ?_;rintro J I ⟨hu,rfl,a3,D⟩;have av:=bf.l D;have N:=ap.l D;have F:=cy.l D;have O:=ax.l D;have Q:=ay.l D;have T:=aq.l D;have U:=az.l D;have W:=bg.l D;have X:=b8.l D;have Y:=b4.l D;have ar:=aa bd D;obtain⟨A,z,E⟩:=a3.shape;subst E;clear bf ap cy ax ay aq az bg b8 b4 bd D;refine j.out _ _ N (fun b1=> ?_)
    clear j K;refine tq 8 (.agg #[.bool g.s,yT p g.n o,yi g.e,.bool xh.s,yT A xh.n z,yi xh.e]) rfl (fun _ _=>by kernel_rfl) b1 ?_
    refine wpAnyH_ready (rs:=[10]) (by kernel_rfl) (by simp) ?_;refine AllReadyH.cons rfl (fun K j=> ?_) AllReadyH.nil
    have h:But cj I (I.setCells cj 0 [.bool g.s,yT p g.n o,yi g.e,.bool xh.s,yT A xh.n z,yi xh.e]):=de _ _ _ _;have b3:I.there cj 0 6:=dD F;have a0:au (I.setCells cj 0 [.bool g.s,yT p g.n o,yi g.e,.bool xh.s,yT A xh.n z,yi xh.e]) cj 54 [.bool g.s,yT p g.n o,yi g.e,.bool xh.s,yT A xh.n z,yi xh.e]:=F.sets _ rfl;have a4:=h.rd O (aX O F (by simp));have a5:=h.rd Q (aX Q F (by simp));have a6:=h.rd T (aX T F (by simp));have a7:=h.rd U (aX U F (by simp));have a8:=h.rd W (aX W F (by simp));have a9:=h.rd X (aX X F (by simp));have ad:=h.rd Y (aX Y F (by simp));have ae:=h.rd a3 (aX a3 F (by simp));have a1:=h.loc av (by omega);have a2:=h.loc N (by omega);have Z:=h.below ar (by omega);rw[if_pos (by kernel_rfl)];refine wp_store_mid 54 (.tmp 17) (.tmp 79) rfl cj 0 #[.bool g.s,yT p g.n o,yi g.e,.bool xh.s,yT A xh.n z,yi xh.e] (by kernel_rfl) (by kernel_rfl) b3 (by kernel_rfl) (by simp[Value.oneCell']) ?_;refine j.out _ _ a2 (fun c2=> ?_)
    clear j K;clear F O Q T U W X Y a3 av N ar h b3;refine wpAnyH_done (by kernel_rfl) ?_ _;clear bn ic f3 ds cw b1 c2;change Exit.then _ _ _ _ (World.setCells I cj 0 [.bool g.s,yT p g.n o,yi g.e,.bool xh.s,yT A xh.n z,yi xh.e]);generalize World.setCells I cj 0 [.bool g.s,yT p g.n o,yi g.e,.bool xh.s,yT A xh.n z,yi xh.e]=ex at a1 a2 a0 a4 a5 a6 a7 a8 a9 ad ae Z⊢;simp only[Act.put,List.getElem_toArray,List.getElem_cons_succ,List.getElem_cons_zero];obtain⟨bv,bw,bx,bz,c0,c1⟩:=a0.cs6
    go_wp2_with fail
    refine(HC.out g xh _ _ _ _ _ eb.out).mono ?_;rintro J g2 ⟨rfl,C⟩;have H:=a1.l C;have c9:=a4.l C;have ca:=a5.l C;have cb:=a6.l C;have cc:=a7.l C;have cd:=a8.l C;have al:=a9.l C;have ce:=ad.l C;have an:=ae.l C;have b0:=aa Z C;clear a1 a2 a0 a4 a5 a6 a7 a8 a9 ad ae Z C bv bw bx bz c0 c1;have hf:=fin6 (P:=Tryz.prog) H b0 (by omega) underlying54 rfl (by kernel_rfl) (.bool g.s) (yT p g.n o) (yi (g.e-(k:Int))) (.bool xh.s) (yT A xh.n z) (yi (xh.e-(k:Int)));have HH:Hid (_∧_∧_∧_):=⟨hf.1,hf.2.2.rd al (aX al H (by simp)),hf.2.2.rd an (aX an H (by simp)),hf.2.1⟩;obtain⟨⟨z0,z1,z2,z3,z4,z5⟩,y0,y1,y2,y3,y4,y5⟩:=csf6 H;clear hf H c9 ca cb cc cd al ce an b0
    go_wp2
    obtain⟨hl,cg,ch,bR⟩:=HH.out;exact bodyPost_ret (br results128 rfl hl) rfl ⟨_,_,rfl,cg,ch,bR⟩
  ·have ls:=hk.out
   have f8:t≤2^k:=hI.out.1.2.2.2.2.1;have iz:s≤i*2^k:=hI.out.1.2.2.2.1;have lr:i+f≤k+1:=hI.out.1.2.2.1;have lq:f≠0:=by rintro rfl;exact ht (by simpa using hI.out.1.2.1)
   have ed:i≤k:=by omega
   have iw:s≤(k+2)*2^k:=Nat.le_trans iz (Nat.mul_le_mul_right _ (by omega));have j0:t≤2^k:=f8;have ll:r≤s:=by
    rcases Nat.mod_two_eq_zero_or_one i with c|c
    ·exact hI.out.1.2.2.2.2.2.1 c
    ·exact Nat.le_trans (Nat.le_add_right _ _) (hI.out.1.2.2.2.2.2.2.1 c)
   have n8:0< (Dg.dg 4294967296 t).length:=by
    rcases Nat.eq_zero_or_pos (Dg.dg 4294967296 t).length with c|c
    ·exact absurd ((Dg.dg_nil_iff 4294967296 _ (by omega)).1 (List.length_eq_zero_iff.1 c)) ht
    ·exact c
   obtain⟨d,hd⟩: ∃x,x=2*i+1:=⟨_,rfl⟩;obtain⟨i1,j1⟩: ∃x,x=i+1:=⟨_,rfl⟩;obtain⟨g3,mp⟩: ∃x,x=L+3:=⟨_,rfl⟩;have mn:=hI.out.2;obtain⟨i2,j2⟩: ∃x,2*(i:Int)=x:=⟨_,rfl⟩;have nu:IntKind.i64.wrap (2*(i:Int))=i2:=by rw[j2];exact IntWalk.i64_in _ ⟨by omega,by omega⟩
   have nv:IntKind.i64.wrap (i2+1)=(d:Int):=by rw[show i2+1=(d:Int) by omega];exact IntWalk.i64_in _ ⟨by omega,by omega⟩
   have nw:IntKind.u32.wrap d=(d:Int):=IntWalk.u32_in _ ⟨by omega,by omega⟩;have nx:IntKind.i64.wrap ((L:Int)+3)=(g3:Int):=by rw[show(L:Int)+3=(g3:Int) by omega];exact IntWalk.i64_in _ ⟨by omega,by omega⟩
   have ny:IntKind.i64.wrap ((i:Int)+1)=(i1:Int):=by rw[show(i:Int)+1=(i1:Int) by omega];exact IntWalk.i64_in _ ⟨by omega,by omega⟩
   have ml:Hid (0<d∧d<4294967296∧t≤2^k):=⟨by omega,by omega,f8⟩;have mk:Hid (0<n*n∧t≤2^k):=⟨Nat.mul_pos (by have:=hn.out;omega) (by have:=hn.out;omega),f8⟩;replace ed:Hid _:=ed;clear iz lr lq f8 j2 mn ls;have j3:0*(i % 2)=0:=Nat.zero_mul _;obtain⟨f',hf,gb⟩:=inv_up hn.out.1 hI.out.1 ht j3 (by omega);rw[←j1,←hd] at gb;have lj:Hid (InvN n k 0 R f' i1 (t/(n*n)) (s+t/d) r∧g3=3+3*i1):=⟨gb,by have:=hI.out.2;omega⟩;have mm:Hid (s≤(k+2)*2^k∧t/d≤2^k):=⟨iw,Nat.le_trans (Nat.div_le_self _ _) j0⟩;clear gb hf j3 hI hd j0 iw ll;replace ht:Hid _:=ht;have nb:=q0.lt;have nc:=q1.lt;have nd:=q2.lt;have co:=af wr (.cells #[.int .u32 d] 36);have jh:=ah wr [.int .u32 d] 36;have jj:=q0.l co;have jk:=q1.l co;have jn:=q2.l co;have he:=rg.l co;have kd:=rs.l co;have ke:=rr.l co;have hz:=aa f7 co
   go_wp2_with fail
   refine(HO.out t d _ _ _ he jh ml.out).mono ?_;rintro J oq ⟨o2,oe,rfl,h7,kn,cs⟩;have js:=jj.l cs;have jx:=jk.l cs;have gp:=jn.l cs;have kf:=he.l cs;have kh:=kd.l cs;have ki:=ke.l cs;have i0:=aa hz cs;obtain⟨A,z,E⟩:=h7.shape;subst E;obtain⟨mo,mc,E⟩:=kn.shape;subst E;clear jj jk jn jh he kd ke hz cs q0 q1 q2 rg rs rr f7 co;have ld:=gp.c 0 rfl
   go_wp2_with fail
   refine(HP.out s (t/d) _ _ _ kh h7 mm.out).mono ?_;rintro J hw ⟨o3,rfl,fj,d2⟩;have jy:=js.l d2;have k0:=jx.l d2;have d9:=gp.l d2;have hg:=kf.l d2;have hh:=ki.l d2;have i3:=aa i0 d2;obtain⟨zo,zc,E⟩:=fj.shape;subst E;clear js jx gp kf kh ki h7 kn i0 d2 ld;have h:=ag hw ab 0 (.slice zo (Dg.dg 4294967296 (s+t/d)).length zc);have gr:au (hw.setCell ⟨ab,0,none⟩ (.slice zo (Dg.dg 4294967296 (s+t/d)).length zc)) ab 135 [.slice zo (Dg.dg 4294967296 (s+t/d)).length zc,yT ro r rc]:=(d9.set 0 (.slice zo (Dg.dg 4294967296 (s+t/d)).length zc));have lf:=d9.c 0 rfl;have n1:=d9.f 0;have gv:=h.loc jy (by omega);have fb:=h.loc k0 (by omega);have hj:=h.rd hg (aX hg d9 (by simp));have hm:=h.rd hh (aX hh d9 (by simp));have hp:=h.rd fj (aX fj d9 (by simp));have g6:=h.below i3 (by omega);clear h
   go_upto_region 11 with fail
   generalize hw.setCell ⟨ab,0,none⟩ (.slice zo (Dg.dg 4294967296 (s+t/d)).length zc)=n2 at gv fb gr hj hm hp g6⊢;clear d9 jy k0 hg hh fj i3 lf n1
   go_wp2_with fail
   refine(HT.out _ _ fb).mono ?_;rintro J os ⟨o4,rfl,h8,ct⟩;have k1:=gv.l ct;have k2:=fb.l ct;have k3:=gr.l ct;have kk:=hj.l ct;have kl:=hm.l ct;have km:=hp.l ct;have i5:=aa g6 ct;obtain⟨vo,vc,E⟩:=h8.shape;subst E;clear gv fb gr hj hm hp g6 ct
   go_wp2_with fail
   refine(HN.out t (n*n) _ _ _ kk h8 mk.out).mono ?_;rintro J ot ⟨o5,oi,rfl,kc,my,d3⟩;have mq:=k1.l d3;have mr:=k2.l d3;have ms:=k3.l d3;have mw:=kl.l d3;have mx:=km.l d3;have lc:=aa i5 d3;obtain⟨eo,ec,E⟩:=kc.shape;subst E;obtain⟨oo,oc,E⟩:=my.shape;subst E;clear k1 k2 k3 kk kl km h8 i5 d3
   go_wp2
   go_roundw
   case rel=>exact⟨f',i1,t/(n*n),s+t/d,r,g3,_,_,_,_,by first|rfl| (rw[mp];rfl)| (congr 1;omega),by first|rfl| (rw[j1];rfl)| (congr 1;omega),kc,mr,ms,mx,mw,mq,lc,mb,md,lj⟩
   case measure=>have:=ed.out;simp[intOf];omega
end Go.Proofs.YthhiidikgchdeabGreatDoor
