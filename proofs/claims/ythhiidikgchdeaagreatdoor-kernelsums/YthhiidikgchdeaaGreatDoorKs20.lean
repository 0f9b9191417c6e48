/- Texts laid together. -/
import Derived.Test.YthhiidikgchdeaaGreatDoorKs13
import Derived.Test.YthhiidikgchdeaaGreatDoorKs14
set_option maxRecDepth 100000
set_option maxHeartbeats 25600000
namespace Go.Proofs.YthhiidikgchdeaaGreatDoor
open _root_.Go.Proofs.Tryz
open Go.RowKit
theorem ZB6.l {w w':World}{b:Nat}(h:ZB6 w b)(a:yB w w'):ZB6 w' b:=by
 obtain⟨c,e,d⟩:=h;exact⟨Nat.lt_of_lt_of_le c a.size,e,(a.block b c).trans d⟩
theorem inverse_W1 (n k:Nat)(lo hi:ak)(w:World)(hn:2≤n∧n<65536)(hk:k≤60000)(dc:invLo (lp (n*n) 1 (k+1) 0 (2^k/n) 0 0) k=lo)(db:invHi (lp (n*n) 1 (k+1) 0 (2^k/n) 0 0) k=hi)
  (HO: ∀(m d q:Nat) v C,Rd C .u32 v (Dg.dg 4294967296 m)→au C q 54 [.int .u32 d]→0<d∧d<4294967296∧m≤2^k→yC 154 #[v,.slice (some ⟨q,0,none⟩) 1 1] C (TwS C (m/d) (m % d)))
  (HN: ∀(m d:Nat) v u C,Rd C .u32 v (Dg.dg 4294967296 m)→Rd C .u32 u (Dg.dg 4294967296 d)→0<d∧m≤2^k→yC 154 #[v,u] C (TwS C (m/d) (m % d)))
  (HT: ∀q C,au C q 54 [.int .u32 n]→yC 114 #[.slice (some ⟨q,0,none⟩) 1 1,.slice (some ⟨q,0,none⟩) 1 1] C (NmS C (n*n)))
  (HS: ∀q C,au C q 54 [.int .u32 1]→yC 118 #[.slice (some ⟨q,0,none⟩) 1 1,yi k] C (NmS C (2^k)))
  (HP: ∀(a b:Nat) v u C,Rd C .u32 v (Dg.dg 4294967296 a)→Rd C .u32 u (Dg.dg 4294967296 b)→a≤(k+2)*2^k∧b≤2^k→yC 109 #[v,u] C (NmS C (a+b)))
  (HM: ∀(a b:Nat) v u C,Rd C .u32 v (Dg.dg 4294967296 a)→Rd C .u32 u (Dg.dg 4294967296 b)→a≤(k+2)*2^k∧b≤a→yC 111 #[v,u] C (NmS C (a-b)))
  (HL: ∀(m:Nat) A z C,yC 64 (ydA false (yT A m z) 0) C (yR C (ydV false (yT A m z) 0)))
  (HW: ∀(m:Nat) C,m≤1000000→yC 23 #[yi m] C (Lx C ⟨false,m,0⟩))
  (HD: ∀(m d:Nat) A z p o C,Rd C .u32 (yT A m z) (Dg.dg 4294967296 m)→Rd C .u32 (yT p d o) (Dg.dg 4294967296 d)→m≤(k+2)*2^k∧d≤1000000→yC 63 #[ydV false (yT A m z) 0,ydV false (yT p d o) 0] C (Lx C (aG ⟨false,m,0⟩ (dV ⟨false,d,0⟩))))
  (HE: ∀(m d:Nat) A z p o C,Rd C .u32 (yT A m z) (Dg.dg 4294967296 m)→Rd C .u32 (yT p d o) (Dg.dg 4294967296 d)→m≤(k+2)*2^k∧d≤1000000→yC 55 #[ydV false (yT A m z) 0,ydV false (yT p d o) 0] C (Lx C (aG ⟨false,m,0⟩ ⟨false,d,0⟩)))
  (HC: ∀(x y:ak) A z p o C,-1000000≤x.e∧x.e≤1000000∧ -1000000≤y.e∧y.e≤1000000→yC 77 #[.agg #[.bool x.s,yT A x.n z,yi x.e,.bool y.s,yT p y.n o,yi y.e],yi (-(k:Int))] C (yR C (.agg #[.bool x.s,yT A x.n z,yi (x.e-(k:Int)),.bool y.s,yT p y.n o,yi (y.e-(k:Int))]))):
  yC 156 #[yi n,yi k,yi 1] w (aeT w lo hi):=by
 replace HO:Hid _:=HO;replace HN:Hid _:=HN;replace HT:Hid _:=HT;replace HS:Hid _:=HS;replace HP:Hid _:=HP;replace HM:Hid _:=HM;replace HL:Hid _:=HL;replace HW:Hid _:=HW;replace HD:Hid _:=HD;replace HE:Hid _:=HE;replace HC:Hid _:=HC;have o6:IntKind.u32.wrap n=(n:Int):=IntWalk.u32_in _ ⟨by omega,by omega⟩;obtain⟨R,hR⟩: ∃R,lp (n*n) 1 (k+1) 0 (2^k/n) 0 0=R:=⟨_,rfl⟩;rw[hR] at dc db;replace dc:Hid _:=dc;replace db:Hid _:=db;replace hR:Hid _:=hR;have n5:Hid (0<n∧n<4294967296∧2^k≤2^k):=⟨by omega,by omega,Nat.le_refl _⟩;replace hn:Hid _:=hn;replace hk:Hid _:=hk;obtain⟨W3,gx,q1,b2⟩:=cA w [.bool false,yN,yi 0,.bool false,yN,yi 0] 49;replace gx:Hid _:=gx
 go_enter func156,ntmps156
 go_upto_region 1 with fail
 rw[gx.out];clear gx;have o4:=q1.lt;have i0:=af W3 (.cells #[.int .u32 n] 54);have q6:=ah W3 [.int .u32 n] 54;have q8:=q1.l i0;have b9:=aa b2 i0
 go_upto_region 2 with fail
 clear q1 b2 i0;generalize W3.alloc (.cells #[.int .u32 n] 54)=ka at q8 q6 b9⊢;have nw:=q8.lt;have nx:=q6.lt;have gi:=af ka (.cells #[.int .u32 1] 54);have kz:=ah ka [.int .u32 1] 54;have l0:=q8.l gi;have l1:=q6.l gi;have kb:=aa b9 gi
 go_wp2_with fail
 refine(HS.out _ _ kz).mono ?_;rintro H ox ⟨oe,rfl,jx,gj⟩;have l2:=l0.l gj;have j4:=l1.l gj;have kc:=aa kb gj;obtain⟨ho,hc,B⟩:=jx.shape;subst B;clear l0 l1 kz kb gj q8 q6 b9 gi
 go_wp2_with fail
 refine(HO.out (2^k) n _ _ _ jx j4 n5.out).mono ?_;rintro H hx ⟨oi,ov,rfl,jy,ld,gm⟩;have je:=l2.l gm;have jj:=j4.l gm;have i5:=aa kc gm;obtain⟨go,gc,B⟩:=jy.shape;subst B;obtain⟨mo,mc,B⟩:=ld.shape;subst B;clear l2 j4 jx kc gm;obtain⟨nl,gv,l7,eu⟩:=cA hx [yN,yN] 157;replace gv:Hid _:=gv;have o1:w.heap.size≤hx.heap.size:=i5.size;have o2:=je.lt;have o3:=jj.lt;have la:=je.l eu;have lb:=jj.l eu;have ly:=jy.l eu;have kf:=aa i5 eu;clear je jj jy ld i5 eu
 go_upto_region 4 with fail
 rw[gv.out];clear gv;have kl:=kf;have lc:=la;have js:=lb;have jv:=l7;have rg:=ly;have f6:w.heap.size<W3.heap.size∧W3.heap.size<hx.heap.size:=⟨by omega,by omega⟩;obtain⟨ab,it⟩: ∃x,hx.heap.size=x:=⟨_,rfl⟩;obtain⟨bb,iw⟩: ∃x,W3.heap.size=x:=⟨_,rfl⟩;clear la lb l7 ly kf
 go_wp2
 try rw[it]
 try rw[iw]
 rw[it] at jv f6;rw[iw] at js f6;clear it iw
 go_loopw [8,11,12] (fun pv wv iv wr=>InvR w n k 1 R bb ab pv wv iv wr) (fun _ _ iv _=>(((k+1:Nat):Int)-intOf iv).toNat)
 case atStart=>exact⟨k+1,0,2^k/n,0,0,3,none,0,none,0,rfl,rfl,rg,js,jv,aN _ _,aN _ _,lc,kl,f6.1,f6.2,by rw[←hR.out];exact inv_zero hn.out.1,rfl⟩
 case round=>
  clear rg lc js jv kl f6;obtain⟨f,i,t,s,r,L,so,sc,ro,rc,rfl,rfl,rg,q1,q2,rs,rr,q0,ee,ko,ks,hI⟩:=hrel;obtain⟨go,gc,B⟩:=rg.shape;subst B
  by_cases ht:t=0
  ·replace hk:=hk.out
   subst ht;obtain⟨m4,kw,ef,kx⟩:=inv_end hI.out.1;have j3:=hI.out.2;subst m4;replace dc:=dc.out;replace db:=db.out;have e7:=HD.out (s-r) L;have cr:=HE.out (s-r) L;obtain⟨g,h5⟩: ∃x,aG ⟨false,s-r,0⟩ (dV ⟨false,L,0⟩)=x:=⟨_,rfl⟩;obtain⟨xh,h4⟩: ∃x,aG ⟨false,s-r,0⟩ ⟨false,L,0⟩=x:=⟨_,rfl⟩;rw[h5] at e7;rw[h4] at cr;obtain rfl:⟨g.s,g.n,g.e-(k:Int)⟩=lo:=by rw[←dc,←h5,j3];rfl
   obtain rfl:⟨xh.s,xh.n,xh.e-(k:Int)⟩=hi:=by rw[←db,←h4,j3];rfl
   have m6:g.e=0:=by rw[←h5];exact plus_e0 _ _ rfl rfl
   have m5:xh.e=0:=by rw[←h4];exact plus_e0 _ _ rfl rfl
   have f4:Hid (-1000000≤g.e∧g.e≤1000000∧ -1000000≤xh.e∧xh.e≤1000000):=⟨by omega,by omega,by omega,by omega⟩;have n3:Hid (s≤(k+2)*2^k∧r≤s):=⟨kx,kw⟩;have dd:Hid (L≤1000000):=by show L≤1000000;omega
   have j0:s-r≤(k+2)*2^k∧L≤1000000:=⟨by omega,dd.out⟩;replace e7:Hid (∀A z p o C,Rd C .u32 (.slice A (Dg.dg 4294967296 (s-r)).length z) (Dg.dg 4294967296 (s-r))→Rd C .u32 (yT p L o) (Dg.dg 4294967296 L)→yC 63 #[ydV false (.slice A (Dg.dg 4294967296 (s-r)).length z) 0,ydV false (yT p L o) 0] C (Lx C g)):=fun A z p o C h1 h2=>e7 A z p o C h1 h2 j0
   replace cr:Hid (∀A z p o C,Rd C .u32 (.slice A (Dg.dg 4294967296 (s-r)).length z) (Dg.dg 4294967296 (s-r))→Rd C .u32 (yT p L o) (Dg.dg 4294967296 L)→yC 55 #[ydV false (.slice A (Dg.dg 4294967296 (s-r)).length z) 0,ydV false (yT p L o) 0] C (Lx C xh)):=fun A z p o C h1 h2=>cr A z p o C h1 h2 j0
   have o5:IntKind.i64.wrap (-(k:Int))= -(k:Int):=IntWalk.i64_in _ ⟨by omega,by omega⟩;have od:(Dg.dg 4294967296 0).length=0:=rfl;clear hI ef kx kw j3 dc db h5 h4 m6 m5 j0 HD HE HO HN HT HS HP hR hk;obtain⟨m2,m3⟩:=q2.cs2
   go_wp2_with fail
   refine(HM.out s r _ _ _ rs rr n3.out).mono ?_;rintro H oy ⟨ok,rfl,k0,eb⟩;have l3:=q0.l eb;have lf:=rg.l eb;have lh:=rs.l eb;have li:=rr.l eb;have kd:=aa ee eb;obtain⟨jo,jc,B⟩:=k0.shape;subst B;clear q0 q1 q2 rg rs rr ee eb m2 m3
   go_wp2_with fail
   refine(HL.out (s-r) _ _ _).mono ?_;rintro H g8 ⟨rfl,d9⟩;have jh:=l3.l d9;have lj:=lf.l d9;have lk:=lh.l d9;have ll:=li.l d9;have lm:=k0.l d9;have i4:=aa kd d9;clear l3 lf lh li k0 kd d9;obtain⟨hz,gr,l4,d6⟩:=cA g8 (ydL false (.slice jo (Dg.dg 4294967296 (s-r)).length jc) 0) 41;replace gr:Hid _:=gr;have ny:w.heap.size≤g8.heap.size:=i4.size;have o0:=jh.lt;have l5:=jh.l d6;have ln:=lj.l d6;have lq:=lk.l d6;have lr:=ll.l d6;have ls:=lm.l d6;have ke:=aa i4 d6;clear jh lj lk ll lm i4 d6
   go_upto_region 14 with fail
   rw[gr.out];clear gr
   go_upto_region 14 with fail
   have cz:yB hz hz.drew:=(Below.refl _ _).drew;have eg:=l5.l cz;have dq:=l4.l cz;have g4:=ln.l cz;have g5:=lq.l cz;have g6:=lr.l cz;have g7:=ls.l cz;have e9:=aa ke cz;clear l5 l4 ln lq lr ls ke cz;refine wp_region_held_drew (S:=fun wq=>au wq g8.heap.size 41 (ydL false (.slice jo (Dg.dg 4294967296 (s-r)).length jc) 0)) (by kernel_rfl) dq (fun bw=> ?_)
   generalize hz.drew=et at eg dq g4 g5 g6 g7 e9 bw⊢;refine tq 0 (ydV false (.slice jo (Dg.dg 4294967296 (s-r)).length jc) 0) rfl (fun _ j2=>fy 41 (.tmp 16) rfl g8.heap.size 0 (by kernel_rfl) _ _ j2.range underlying41 rfl (by kernel_rfl)) bw ?_
   refine tq 1 (yi (L:Int)) rfl (fun _ _=>by kernel_rfl) bw ?_
   refine tq 4 (ydV false (.slice jo (Dg.dg 4294967296 (s-r)).length jc) 0) rfl (fun _ j2=>fy 41 (.tmp 16) rfl g8.heap.size 0 (by kernel_rfl) _ _ j2.range underlying41 rfl (by kernel_rfl)) bw ?_
   refine tq 5 (yi (L:Int)) rfl (fun _ _=>by kernel_rfl) bw ?_
   refine wpAnyH_ready (rs:=[2,9]) (by kernel_rfl) (by simp) ?_;refine AllReadyH.cons rfl (fun K j=> ?_) (AllReadyH.cons rfl (fun K j=> ?_) AllReadyH.nil)
   ·go_simp
    refine(HW.out L _ dd.out).mono ?_;rintro H g9 ⟨op,rfl,el,d0⟩;have fj:=eg.l d0;have eh:=dq.l d0;have hg:=g4.l d0;have hh:=g5.l d0;have hj:=g6.l d0;have cc:=g7.l d0;have f1:=aa e9 d0;obtain⟨ao,ac,B⟩:=el.shape;subst B;clear eg dq g4 g5 g6 g7 e9 d0;refine j.out _ _ eh (fun gp=> ?_)
    clear j K;refine wpAnyH_ready (rs:=[3,9]) (by kernel_rfl) (by simp) ?_;refine AllReadyH.cons rfl (fun K j=> ?_) (AllReadyH.cons rfl (fun K j=> ?_) AllReadyH.nil)
    ·go_simp
     refine(e7.out _ _ _ _ _ cc el).mono ?_;rintro H ga ⟨oq,rfl,fp,c0⟩;have fk:=fj.l c0;have ei:=eh.l c0;have hm:=hg.l c0;have hp:=hh.l c0;have hq:=hj.l c0;have d4:=cc.l c0;have bs:=el.l c0;have f2:=aa f1 c0;obtain⟨A,z,B⟩:=fp.shape;subst B;clear fj eh hg hh hj cc el f1 c0;refine j.out _ _ ei (fun ir=> ?_)
     clear j K;refine wpAnyH_ready (rs:=[6,9]) (by kernel_rfl) (by simp) ?_;refine AllReadyH.cons rfl (fun K j=> ?_) (AllReadyH.cons rfl (fun K j=> ?_) AllReadyH.nil)
     ·go_simp
      refine(HW.out L _ dd.out).mono ?_;rintro H gb ⟨ot,rfl,em,bv⟩;have fl:=fk.l bv;have ek:=ei.l bv;have hr:=hm.l bv;have hs:=hp.l bv;have hu:=hq.l bv;have cd:=d4.l bv;have be:=bs.l bv;have bf:=fp.l bv;have f3:=aa f2 bv;obtain⟨bo,bc,B⟩:=em.shape;subst B;clear fk ei hm hp hq d4 bs fp f2 bv;refine j.out _ _ ek (fun ki=> ?_)
      clear j K;refine wpAnyH_ready (rs:=[7,9]) (by kernel_rfl) (by simp) ?_;refine AllReadyH.cons rfl (fun K j=> ?_) (AllReadyH.cons rfl (fun K j=> ?_) AllReadyH.nil)
      ·go_simp
       refine(cr.out _ _ _ _ _ cd em).mono ?_;rintro H gd ⟨ou,rfl,k1,bq⟩;have jn:=fl.l bq;have hb:=ek.l bq;have lu:=hr.l bq;have lv:=hs.l bq;have lx:=hu.l bq;have ep:=cd.l bq;have b4:=be.l bq;have b5:=bf.l bq;have ax:=em.l bq;have i7:=aa f3 bq;obtain⟨p,o,B⟩:=k1.shape;subst B;clear fl ek hr hs hu cd be bf em f3 bq;refine j.out _ _ hb (fun kk=> ?_)
       clear j K;refine tq 8 (.agg #[.bool g.s,yT A g.n z,yi g.e,.bool xh.s,yT p xh.n o,yi xh.e]) rfl (fun _ _=>by kernel_rfl) kk ?_
       refine wpAnyH_ready (rs:=[9]) (by kernel_rfl) (by simp) ?_;refine AllReadyH.cons rfl (fun K j=> ?_) AllReadyH.nil
       go_simp
       have bi:=af gd (.cells #[.bool false,yN,yi 0,.bool false,yN,yi 0] 49);have bg:=ah gd [.bool false,yN,yi 0,.bool false,yN,yi 0] 49;have mz:w.heap.size≤gd.heap.size:=i7.size;have n0:=jn.lt;have n1:=hb.lt;have b3:=jn.l bi;have N:=hb.l bi;have hw:=lu.l bi;have O:=lv.l bi;have Q:=lx.l bi;have T:=ep.l bi;have U:=b4.l bi;have W:=b5.l bi;have X:=ax.l bi;have Y:=k1.l bi;have ay:=aa i7 bi;refine j.out _ _ N (fun b8=> ?_)
       clear j K;clear jn hb lu lv lx ep b4 b5 ax k1 i7 bi;generalize gd.alloc (.cells #[.bool false,yN,yi 0,.bool false,yN,yi 0] 49)=e8 at b3 N bg hw O Q T U W X Y ay b8⊢;generalize gd.heap.size=cx at bg mz n0 n1⊢;refine wpAnyH_ready (rs:=[10]) (by kernel_rfl) (by simp) ?_;refine AllReadyH.cons rfl (fun K j=> ?_) AllReadyH.nil
       have h:But cx e8 (e8.setCells cx 0 [.bool g.s,yT A g.n z,yi g.e,.bool xh.s,yT p xh.n o,yi xh.e]):=de _ _ _ _;have ba:e8.there cx 0 6:=dD bg;have a0:au (e8.setCells cx 0 [.bool g.s,yT A g.n z,yi g.e,.bool xh.s,yT p xh.n o,yi xh.e]) cx 49 [.bool g.s,yT A g.n z,yi g.e,.bool xh.s,yT p xh.n o,yi xh.e]:=bg.sets _ rfl;have a4:=h.rd hw (aX hw bg (by simp));have a5:=h.rd O (aX O bg (by simp));have a6:=h.rd Q (aX Q bg (by simp));have a7:=h.rd T (aX T bg (by simp));have a8:=h.rd U (aX U bg (by simp));have a9:=h.rd W (aX W bg (by simp));have ad:=h.rd X (aX X bg (by simp));have ae:=h.rd Y (aX Y bg (by simp));have a1:=h.loc b3 (by omega);have a2:=h.loc N (by omega);have Z:=h.below ay (by omega);rw[if_pos (by kernel_rfl)];refine wp_store_mid 49 (.tmp 17) (.tmp 79) rfl cx 0 #[.bool g.s,yT A g.n z,yi g.e,.bool xh.s,yT p xh.n o,yi xh.e] (by kernel_rfl) (by kernel_rfl) ba (by kernel_rfl) (by simp[Value.oneCell']) ?_;refine j.out _ _ a2 (fun c8=> ?_)
       clear j K;clear bg hw O Q T U W X Y b3 N ay h ba;refine wpAnyH_done (by kernel_rfl) ?_ _;clear bw gp ir ki kk b8 c8;change Exit.then _ _ _ _ (World.setCells e8 cx 0 [.bool g.s,yT A g.n z,yi g.e,.bool xh.s,yT p xh.n o,yi xh.e]);generalize World.setCells e8 cx 0 [.bool g.s,yT A g.n z,yi g.e,.bool xh.s,yT p xh.n o,yi xh.e]=gg at a1 a2 a0 a4 a5 a6 a7 a8 a9 ad ae Z⊢;simp only[Act.put,List.getElem_toArray,List.getElem_cons_succ,List.getElem_cons_zero];obtain⟨c2,c3,c4,c5,c6,c7⟩:=a0.cs6
       go_wp2_with fail
       refine(HC.out g xh _ _ _ _ _ f4.out).mono ?_;rintro H hy ⟨rfl,D⟩;have I:=a1.l D;have ci:=a4.l D;have cj:=a5.l D;have ck:=a6.l D;have cl:=a7.l D;have cm:=a8.l D;have al:=a9.l D;have cn:=ad.l D;have an:=ae.l D;have b7:=aa Z D;clear a1 a2 a0 a4 a5 a6 a7 a8 a9 ad ae Z D c2 c3 c4 c5 c6 c7;have hf:=fin6 (P:=Tryz.prog) I b7 (by omega) underlying49 rfl (by kernel_rfl) (.bool g.s) (yT A g.n z) (yi (g.e-(k:Int))) (.bool xh.s) (yT p xh.n o) (yi (xh.e-(k:Int)));have HH:Hid (_∧_∧_∧_):=⟨hf.1,hf.2.2.rd al (aX al I (by simp)),hf.2.2.rd an (aX an I (by simp)),hf.2.1⟩;obtain⟨⟨z0,z1,z2,z3,z4,z5⟩,y0,y1,y2,y3,y4,y5⟩:=csf6 I;clear hf I ci cj ck cl cm al cn an b7
       go_wp2
       obtain⟨hl,co,cp,bR⟩:=HH.out;exact bodyPost_ret (br results156 rfl hl) rfl ⟨_,_,rfl,co,cp,bR⟩
      ·go_simp
       have bp:=af gb (.cells #[.bool false,yN,yi 0,.bool false,yN,yi 0] 49);have ha:=ah gb [.bool false,yN,yi 0,.bool false,yN,yi 0] 49;have mw:w.heap.size≤gb.heap.size:=f3.size;have mx:=fl.lt;have my:=ek.lt;have bm:=fl.l bp;have av:=ek.l bp;have ep:=hr.l bp;have b4:=hs.l bp;have b5:=hu.l bp;have ax:=cd.l bp;have b6:=be.l bp;have bn:=bf.l bp;have bh:=em.l bp;have bj:=aa f3 bp;refine j.out _ _ av (fun d1=> ?_)
       clear j K;clear fl ek hr hs hu cd be bf em f3 bp;generalize gb.alloc (.cells #[.bool false,yN,yi 0,.bool false,yN,yi 0] 49)=nu at bm av ha ep b4 b5 ax b6 bn bh bj d1⊢;generalize gb.heap.size=cw at ha mw mx my⊢;refine wpAnyH_ready (rs:=[7]) (by kernel_rfl) (by simp) ?_;refine AllReadyH.cons rfl (fun K j=> ?_) AllReadyH.nil
       go_simp
       refine(cr.out _ _ _ _ _ ax bh).mono ?_;rintro H J ⟨k8,rfl,a3,E⟩;have b3:=bm.l E;have N:=av.l E;have F:=ha.l E;have O:=ep.l E;have Q:=b4.l E;have T:=b5.l E;have U:=ax.l E;have W:=b6.l E;have X:=bn.l E;have Y:=bh.l E;have ay:=aa bj E;obtain⟨p,o,B⟩:=a3.shape;subst B;clear bm av ha ep b4 b5 ax b6 bn bh bj E;refine j.out _ _ N (fun b8=> ?_)
       clear j K;refine tq 8 (.agg #[.bool g.s,yT A g.n z,yi g.e,.bool xh.s,yT p xh.n o,yi xh.e]) rfl (fun _ _=>by kernel_rfl) b8 ?_
       refine wpAnyH_ready (rs:=[10]) (by kernel_rfl) (by simp) ?_;refine AllReadyH.cons rfl (fun K j=> ?_) AllReadyH.nil
       have h:But cw J (J.setCells cw 0 [.bool g.s,yT A g.n z,yi g.e,.bool xh.s,yT p xh.n o,yi xh.e]):=de _ _ _ _;have ba:J.there cw 0 6:=dD F;have a0:au (J.setCells cw 0 [.bool g.s,yT A g.n z,yi g.e,.bool xh.s,yT p xh.n o,yi xh.e]) cw 49 [.bool g.s,yT A g.n z,yi g.e,.bool xh.s,yT p xh.n o,yi xh.e]:=F.sets _ rfl;have a4:=h.rd O (aX O F (by simp));have a5:=h.rd Q (aX Q F (by simp));have a6:=h.rd T (aX T F (by simp));have a7:=h.rd U (aX U F (by simp));have a8:=h.rd W (aX W F (by simp));have a9:=h.rd X (aX X F (by simp));have ad:=h.rd Y (aX Y F (by simp));have ae:=h.rd a3 (aX a3 F (by simp));have a1:=h.loc b3 (by omega);have a2:=h.loc N (by omega);have Z:=h.below ay (by omega);rw[if_pos (by kernel_rfl)];refine wp_store_mid 49 (.tmp 17) (.tmp 79) rfl cw 0 #[.bool g.s,yT A g.n z,yi g.e,.bool xh.s,yT p xh.n o,yi xh.e] (by kernel_rfl) (by kernel_rfl) ba (by kernel_rfl) (by simp[Value.oneCell']) ?_;refine j.out _ _ a2 (fun c8=> ?_)
       clear j K;clear F O Q T U W X Y a3 b3 N ay h ba;refine wpAnyH_done (by kernel_rfl) ?_ _;clear bw gp ir ki d1 b8 c8;change Exit.then _ _ _ _ (World.setCells J cw 0 [.bool g.s,yT A g.n z,yi g.e,.bool xh.s,yT p xh.n o,yi xh.e]);generalize World.setCells J cw 0 [.bool g.s,yT A g.n z,yi g.e,.bool xh.s,yT p xh.n o,yi xh.e]=gg at a1 a2 a0 a4 a5 a6 a7 a8 a9 ad ae Z⊢;simp only[Act.put,List.getElem_toArray,List.getElem_cons_succ,List.getElem_cons_zero];obtain⟨c2,c3,c4,c5,c6,c7⟩:=a0.cs6
       go_wp2_with fail
       refine(HC.out g xh _ _ _ _ _ f4.out).mono ?_;rintro H hy ⟨rfl,D⟩;have I:=a1.l D;have ci:=a4.l D;have cj:=a5.l D;have ck:=a6.l D;have cl:=a7.l D;have cm:=a8.l D;have al:=a9.l D;have cn:=ad.l D;have an:=ae.l D;have b7:=aa Z D;clear a1 a2 a0 a4 a5 a6 a7 a8 a9 ad ae Z D c2 c3 c4 c5 c6 c7;have hf:=fin6 (P:=Tryz.prog) I b7 (by omega) underlying49 rfl (by kernel_rfl) (.bool g.s) (yT A g.n z) (yi (g.e-(k:Int))) (.bool xh.s) (yT p xh.n o) (yi (xh.e-(k:Int)));have HH:Hid (_∧_∧_∧_):=⟨hf.1,hf.2.2.rd al (aX al I (by simp)),hf.2.2.rd an (aX an I (by simp)),hf.2.1⟩;obtain⟨⟨z0,z1,z2,z3,z4,z5⟩,y0,y1,y2,y3,y4,y5⟩:=csf6 I;clear hf I ci cj ck cl cm al cn an b7
       go_wp2
       obtain⟨hl,co,cp,bR⟩:=HH.out;exact bodyPost_ret (br results156 rfl hl) rfl ⟨_,_,rfl,co,cp,bR⟩
     ·go_simp
      have bt:=af ga (.cells #[.bool false,yN,yi 0,.bool false,yN,yi 0] 49);have h9:=ah ga [.bool false,yN,yi 0,.bool false,yN,yi 0] 49;have mq:w.heap.size≤ga.heap.size:=f2.size;have mr:=fk.lt;have ms:=ei.lt;have ca:=fk.l bt;have bl:=ei.l bt;have cd:=hm.l bt;have be:=hp.l bt;have bf:=hq.l bt;have ce:=d4.l bt;have cg:=bs.l bt;have ch:=fp.l bt;have bz:=aa f2 bt;refine j.out _ _ bl (fun ed=> ?_)
      clear j K;clear fk ei hm hp hq d4 bs fp f2 bt;generalize ga.alloc (.cells #[.bool false,yN,yi 0,.bool false,yN,yi 0] 49)=ns at ca bl h9 cd be bf ce cg ch bz ed⊢;generalize ga.heap.size=cv at h9 mq mr ms⊢;refine wpAnyH_ready (rs:=[6]) (by kernel_rfl) (by simp) ?_;refine AllReadyH.cons rfl (fun K j=> ?_) AllReadyH.nil
      go_simp
      refine(HW.out L _ dd.out).mono ?_;rintro H m0 ⟨lz,rfl,bd,G⟩;have bm:=ca.l G;have av:=bl.l G;have d3:=h9.l G;have b4:=cd.l G;have b5:=be.l G;have ax:=bf.l G;have b6:=ce.l G;have bn:=cg.l G;have bh:=ch.l G;have bj:=aa bz G;obtain⟨bo,bc,B⟩:=bd.shape;subst B;clear ca bl h9 cd be bf ce cg ch bz G;refine j.out _ _ av (fun d1=> ?_)
      clear j K;refine wpAnyH_ready (rs:=[7]) (by kernel_rfl) (by simp) ?_;refine AllReadyH.cons rfl (fun K j=> ?_) AllReadyH.nil
      go_simp
      refine(cr.out _ _ _ _ _ b6 bd).mono ?_;rintro H J ⟨k8,rfl,a3,E⟩;have b3:=bm.l E;have N:=av.l E;have F:=d3.l E;have O:=b4.l E;have Q:=b5.l E;have T:=ax.l E;have U:=b6.l E;have W:=bn.l E;have X:=bh.l E;have Y:=bd.l E;have ay:=aa bj E;obtain⟨p,o,B⟩:=a3.shape;subst B;clear bm av d3 b4 b5 ax b6 bn bh bd bj E;refine j.out _ _ N (fun b8=> ?_)
      clear j K;refine tq 8 (.agg #[.bool g.s,yT A g.n z,yi g.e,.bool xh.s,yT p xh.n o,yi xh.e]) rfl (fun _ _=>by kernel_rfl) b8 ?_
      refine wpAnyH_ready (rs:=[10]) (by kernel_rfl) (by simp) ?_;refine AllReadyH.cons rfl (fun K j=> ?_) AllReadyH.nil
      have h:But cv J (J.setCells cv 0 [.bool g.s,yT A g.n z,yi g.e,.bool xh.s,yT p xh.n o,yi xh.e]):=de _ _ _ _;have ba:J.there cv 0 6:=dD F;have a0:au (J.setCells cv 0 [.bool g.s,yT A g.n z,yi g.e,.bool xh.s,yT p xh.n o,yi xh.e]) cv 49 [.bool g.s,yT A g.n z,yi g.e,.bool xh.s,yT p xh.n o,yi xh.e]:=F.sets _ rfl;have a4:=h.rd O (aX O F (by simp));have a5:=h.rd Q (aX Q F (by simp));have a6:=h.rd T (aX T F (by simp));have a7:=h.rd U (aX U F (by simp));have a8:=h.rd W (aX W F (by simp));have a9:=h.rd X (aX X F (by simp));have ad:=h.rd Y (aX Y F (by simp));have ae:=h.rd a3 (aX a3 F (by simp));have a1:=h.loc b3 (by omega);have a2:=h.loc N (by omega);have Z:=h.below ay (by omega);rw[if_pos (by kernel_rfl)];refine wp_store_mid 49 (.tmp 17) (.tmp 79) rfl cv 0 #[.bool g.s,yT A g.n z,yi g.e,.bool xh.s,yT p xh.n o,yi xh.e] (by kernel_rfl) (by kernel_rfl) ba (by kernel_rfl) (by simp[Value.oneCell']) ?_;refine j.out _ _ a2 (fun c8=> ?_)
      clear j K;clear F O Q T U W X Y a3 b3 N ay h ba;refine wpAnyH_done (by kernel_rfl) ?_ _;clear bw gp ir ed d1 b8 c8;change Exit.then _ _ _ _ (World.setCells J cv 0 [.bool g.s,yT A g.n z,yi g.e,.bool xh.s,yT p xh.n o,yi xh.e]);generalize World.setCells J cv 0 [.bool g.s,yT A g.n z,yi g.e,.bool xh.s,yT p xh.n o,yi xh.e]=gg at a1 a2 a0 a4 a5 a6 a7 a8 a9 ad ae Z⊢;simp only[Act.put,List.getElem_toArray,List.getElem_cons_succ,List.getElem_cons_zero];obtain⟨c2,c3,c4,c5,c6,c7⟩:=a0.cs6
      go_wp2_with fail
      refine(HC.out g xh _ _ _ _ _ f4.out).mono ?_;rintro H hy ⟨rfl,D⟩;have I:=a1.l D;have ci:=a4.l D;have cj:=a5.l D;have ck:=a6.l D;have cl:=a7.l D;have cm:=a8.l D;have al:=a9.l D;have cn:=ad.l D;have an:=ae.l D;have b7:=aa Z D;clear a1 a2 a0 a4 a5 a6 a7 a8 a9 ad ae Z D c2 c3 c4 c5 c6 c7;have hf:=fin6 (P:=Tryz.prog) I b7 (by omega) underlying49 rfl (by kernel_rfl) (.bool g.s) (yT A g.n z) (yi (g.e-(k:Int))) (.bool xh.s) (yT p xh.n o) (yi (xh.e-(k:Int)));have HH:Hid (_∧_∧_∧_):=⟨hf.1,hf.2.2.rd al (aX al I (by simp)),hf.2.2.rd an (aX an I (by simp)),hf.2.1⟩;obtain⟨⟨z0,z1,z2,z3,z4,z5⟩,y0,y1,y2,y3,y4,y5⟩:=csf6 I;clear hf I ci cj ck cl cm al cn an b7
      go_wp2
      obtain⟨hl,co,cp,bR⟩:=HH.out;exact bodyPost_ret (br results156 rfl hl) rfl ⟨_,_,rfl,co,cp,bR⟩
    ·go_simp
     have bx:=af g9 (.cells #[.bool false,yN,yi 0,.bool false,yN,yi 0] 49);have h8:=ah g9 [.bool false,yN,yi 0,.bool false,yN,yi 0] 49;have mm:w.heap.size≤g9.heap.size:=f1.size;have mn:=fj.lt;have mp:=eh.lt;have ej:=fj.l bx;have d2:=eh.l bx;have d4:=hg.l bx;have bs:=hh.l bx;have en:=hj.l bx;have e5:=cc.l bx;have d5:=el.l bx;have ea:=aa f1 bx;refine j.out _ _ d2 (fun gq=> ?_)
     clear j K;clear fj eh hg hh hj cc el f1 bx;generalize g9.alloc (.cells #[.bool false,yN,yi 0,.bool false,yN,yi 0] 49)=np at ej d2 h8 d4 bs en e5 d5 ea gq⊢;generalize g9.heap.size=ct at h8 mm mn mp⊢;refine wpAnyH_ready (rs:=[3]) (by kernel_rfl) (by simp) ?_;refine AllReadyH.cons rfl (fun K j=> ?_) AllReadyH.nil
     go_simp
     refine(e7.out _ _ _ _ _ e5 d5).mono ?_;rintro H nk ⟨nb,rfl,dv,M⟩;have ca:=ej.l M;have bl:=d2.l M;have fn:=h8.l M;have be:=d4.l M;have bf:=bs.l M;have ce:=en.l M;have cg:=e5.l M;have ch:=d5.l M;have bz:=aa ea M;obtain⟨A,z,B⟩:=dv.shape;subst B;clear ej d2 h8 d4 bs en e5 d5 ea M;refine j.out _ _ bl (fun ed=> ?_)
     clear j K;refine wpAnyH_ready (rs:=[6]) (by kernel_rfl) (by simp) ?_;refine AllReadyH.cons rfl (fun K j=> ?_) AllReadyH.nil
     go_simp
     refine(HW.out L _ dd.out).mono ?_;rintro H m0 ⟨lz,rfl,bd,G⟩;have bm:=ca.l G;have av:=bl.l G;have d3:=fn.l G;have b4:=be.l G;have b5:=bf.l G;have ax:=ce.l G;have b6:=cg.l G;have bn:=ch.l G;have bh:=dv.l G;have bj:=aa bz G;obtain⟨bo,bc,B⟩:=bd.shape;subst B;clear ca bl fn be bf ce cg ch dv bz G;refine j.out _ _ av (fun d1=> ?_)
     clear j K;refine wpAnyH_ready (rs:=[7]) (by kernel_rfl) (by simp) ?_;refine AllReadyH.cons rfl (fun K j=> ?_) AllReadyH.nil
     go_simp
     refine(cr.out _ _ _ _ _ b6 bd).mono ?_;rintro H J ⟨k8,rfl,a3,E⟩;have b3:=bm.l E;have N:=av.l E;have F:=d3.l E;have O:=b4.l E;have Q:=b5.l E;have T:=ax.l E;have U:=b6.l E;have W:=bn.l E;have X:=bh.l E;have Y:=bd.l E;have ay:=aa bj E;obtain⟨p,o,B⟩:=a3.shape;subst B;clear bm av d3 b4 b5 ax b6 bn bh bd bj E;refine j.out _ _ N (fun b8=> ?_)
     clear j K;refine tq 8 (.agg #[.bool g.s,yT A g.n z,yi g.e,.bool xh.s,yT p xh.n o,yi xh.e]) rfl (fun _ _=>by kernel_rfl) b8 ?_
     refine wpAnyH_ready (rs:=[10]) (by kernel_rfl) (by simp) ?_;refine AllReadyH.cons rfl (fun K j=> ?_) AllReadyH.nil
     have h:But ct J (J.setCells ct 0 [.bool g.s,yT A g.n z,yi g.e,.bool xh.s,yT p xh.n o,yi xh.e]):=de _ _ _ _;have ba:J.there ct 0 6:=dD F;have a0:au (J.setCells ct 0 [.bool g.s,yT A g.n z,yi g.e,.bool xh.s,yT p xh.n o,yi xh.e]) ct 49 [.bool g.s,yT A g.n z,yi g.e,.bool xh.s,yT p xh.n o,yi xh.e]:=F.sets _ rfl;have a4:=h.rd O (aX O F (by simp));have a5:=h.rd Q (aX Q F (by simp));have a6:=h.rd T (aX T F (by simp));have a7:=h.rd U (aX U F (by simp));have a8:=h.rd W (aX W F (by simp));have a9:=h.rd X (aX X F (by simp));have ad:=h.rd Y (aX Y F (by simp));have ae:=h.rd a3 (aX a3 F (by simp));have a1:=h.loc b3 (by omega);have a2:=h.loc N (by omega);have Z:=h.below ay (by omega);rw[if_pos (by kernel_rfl)];refine wp_store_mid 49 (.tmp 17) (.tmp 79) rfl ct 0 #[.bool g.s,yT A g.n z,yi g.e,.bool xh.s,yT p xh.n o,yi xh.e] (by kernel_rfl) (by kernel_rfl) ba (by kernel_rfl) (by simp[Value.oneCell']) ?_;refine j.out _ _ a2 (fun c8=> ?_)
     clear j K;clear F O Q T U W X Y a3 b3 N ay h ba;refine wpAnyH_done (by kernel_rfl) ?_ _;clear bw gp gq ed d1 b8 c8;change Exit.then _ _ _ _ (World.setCells J ct 0 [.bool g.s,yT A g.n z,yi g.e,.bool xh.s,yT p xh.n o,yi xh.e]);generalize World.setCells J ct 0 [.bool g.s,yT A g.n z,yi g.e,.bool xh.s,yT p xh.n o,yi xh.e]=gg at a1 a2 a0 a4 a5 a6 a7 a8 a9 ad ae Z⊢;simp only[Act.put,List.getElem_toArray,List.getElem_cons_succ,List.getElem_cons_zero];obtain⟨c2,c3,c4,c5,c6,c7⟩:=a0.cs6
     go_wp2_with fail
     refine(HC.out g xh _ _ _ _ _ f4.out).mono ?_;rintro H hy ⟨rfl,D⟩;have I:=a1.l D;have ci:=a4.l D;have cj:=a5.l D;have ck:=a6.l D;have cl:=a7.l D;have cm:=a8.l D;have al:=a9.l D;have cn:=ad.l D;have an:=ae.l D;have b7:=aa Z D;clear a1 a2 a0 a4 a5 a6 a7 a8 a9 ad ae Z D c2 c3 c4 c5 c6 c7;have hf:=fin6 (P:=Tryz.prog) I b7 (by omega) underlying49 rfl (by kernel_rfl) (.bool g.s) (yT A g.n z) (yi (g.e-(k:Int))) (.bool xh.s) (yT p xh.n o) (yi (xh.e-(k:Int)));have HH:Hid (_∧_∧_∧_):=⟨hf.1,hf.2.2.rd al (aX al I (by simp)),hf.2.2.rd an (aX an I (by simp)),hf.2.1⟩;obtain⟨⟨z0,z1,z2,z3,z4,z5⟩,y0,y1,y2,y3,y4,y5⟩:=csf6 I;clear hf I ci cj ck cl cm al cn an b7
     go_wp2
     obtain⟨hl,co,cp,bR⟩:=HH.out;exact bodyPost_ret (br results156 rfl hl) rfl ⟨_,_,rfl,co,cp,bR⟩
   ·go_simp
    have cy:=af et (.cells #[.bool false,yN,yi 0,.bool false,yN,yi 0] 49);have h6:=ah et [.bool false,yN,yi 0,.bool false,yN,yi 0] 49;have mf:w.heap.size≤et.heap.size:=e9.size;have mk:=eg.lt;have ml:=dq.lt;have jk:=eg.l cy;have h7:=dq.l cy;have cc:=g4.l cy;have k5:=g5.l cy;have k6:=g6.l cy;have k7:=g7.l cy;have i6:=aa e9 cy;refine j.out _ _ h7 (fun kh=> ?_)
    clear j K;clear eg dq g4 g5 g6 g7 e9 cy;generalize et.alloc (.cells #[.bool false,yN,yi 0,.bool false,yN,yi 0] 49)=nn at jk h7 h6 cc k5 k6 k7 i6 kh⊢;generalize et.heap.size=cs at h6 mf mk ml⊢;refine wpAnyH_ready (rs:=[2]) (by kernel_rfl) (by simp) ?_;refine AllReadyH.cons rfl (fun K j=> ?_) AllReadyH.nil
    go_simp
    refine(HW.out L _ dd.out).mono ?_;rintro H oz ⟨os,rfl,he,c1⟩;have ej:=jk.l c1;have d2:=h7.l c1;have l6:=h6.l c1;have bs:=cc.l c1;have en:=k5.l c1;have e5:=k6.l c1;have d5:=k7.l c1;have ea:=aa i6 c1;obtain⟨ao,ac,B⟩:=he.shape;subst B;clear jk h7 h6 cc k5 k6 k7 i6 c1;refine j.out _ _ d2 (fun gq=> ?_)
    clear j K;refine wpAnyH_ready (rs:=[3]) (by kernel_rfl) (by simp) ?_;refine AllReadyH.cons rfl (fun K j=> ?_) AllReadyH.nil
    go_simp
    refine(e7.out _ _ _ _ _ d5 he).mono ?_;rintro H nk ⟨nb,rfl,dv,M⟩;have ca:=ej.l M;have bl:=d2.l M;have fn:=l6.l M;have be:=bs.l M;have bf:=en.l M;have ce:=e5.l M;have cg:=d5.l M;have ch:=he.l M;have bz:=aa ea M;obtain⟨A,z,B⟩:=dv.shape;subst B;clear ej d2 l6 bs en e5 d5 he ea M;refine j.out _ _ bl (fun ed=> ?_)
    clear j K;refine wpAnyH_ready (rs:=[6]) (by kernel_rfl) (by simp) ?_;refine AllReadyH.cons rfl (fun K j=> ?_) AllReadyH.nil
    go_simp
    refine(HW.out L _ dd.out).mono ?_;rintro H m0 ⟨lz,rfl,bd,G⟩;have bm:=ca.l G;have av:=bl.l G;have d3:=fn.l G;have b4:=be.l G;have b5:=bf.l G;have ax:=ce.l G;have b6:=cg.l G;have bn:=ch.l G;have bh:=dv.l G;have bj:=aa bz G;obtain⟨bo,bc,B⟩:=bd.shape;subst B;clear ca bl fn be bf ce cg ch dv bz G;refine j.out _ _ av (fun d1=> ?_)
    clear j K;refine wpAnyH_ready (rs:=[7]) (by kernel_rfl) (by simp) ?_;refine AllReadyH.cons rfl (fun K j=> ?_) AllReadyH.nil
    go_simp
    refine(cr.out _ _ _ _ _ b6 bd).mono ?_;rintro H J ⟨k8,rfl,a3,E⟩;have b3:=bm.l E;have N:=av.l E;have F:=d3.l E;have O:=b4.l E;have Q:=b5.l E;have T:=ax.l E;have U:=b6.l E;have W:=bn.l E;have X:=bh.l E;have Y:=bd.l E;have ay:=aa bj E;obtain⟨p,o,B⟩:=a3.shape;subst B;clear bm av d3 b4 b5 ax b6 bn bh bd bj E;refine j.out _ _ N (fun b8=> ?_)
    clear j K;refine tq 8 (.agg #[.bool g.s,yT A g.n z,yi g.e,.bool xh.s,yT p xh.n o,yi xh.e]) rfl (fun _ _=>by kernel_rfl) b8 ?_
    refine wpAnyH_ready (rs:=[10]) (by kernel_rfl) (by simp) ?_;refine AllReadyH.cons rfl (fun K j=> ?_) AllReadyH.nil
    have h:But cs J (J.setCells cs 0 [.bool g.s,yT A g.n z,yi g.e,.bool xh.s,yT p xh.n o,yi xh.e]):=de _ _ _ _;have ba:J.there cs 0 6:=dD F;have a0:au (J.setCells cs 0 [.bool g.s,yT A g.n z,yi g.e,.bool xh.s,yT p xh.n o,yi xh.e]) cs 49 [.bool g.s,yT A g.n z,yi g.e,.bool xh.s,yT p xh.n o,yi xh.e]:=F.sets _ rfl;have a4:=h.rd O (aX O F (by simp));have a5:=h.rd Q (aX Q F (by simp));have a6:=h.rd T (aX T F (by simp));have a7:=h.rd U (aX U F (by simp));have a8:=h.rd W (aX W F (by simp));have a9:=h.rd X (aX X F (by simp));have ad:=h.rd Y (aX Y F (by simp));have ae:=h.rd a3 (aX a3 F (by simp));have a1:=h.loc b3 (by omega);have a2:=h.loc N (by omega);have Z:=h.below ay (by omega);rw[if_pos (by kernel_rfl)];refine wp_store_mid 49 (.tmp 17) (.tmp 79) rfl cs 0 #[.bool g.s,yT A g.n z,yi g.e,.bool xh.s,yT p xh.n o,yi xh.e] (by kernel_rfl) (by kernel_rfl) ba (by kernel_rfl) (by simp[Value.oneCell']) ?_;refine j.out _ _ a2 (fun c8=> ?_)
    clear j K;clear F O Q T U W X Y a3 b3 N ay h ba;refine wpAnyH_done (by kernel_rfl) ?_ _;clear bw kh gq ed d1 b8 c8;change Exit.then _ _ _ _ (World.setCells J cs 0 [.bool g.s,yT A g.n z,yi g.e,.bool xh.s,yT p xh.n o,yi xh.e]);generalize World.setCells J cs 0 [.bool g.s,yT A g.n z,yi g.e,.bool xh.s,yT p xh.n o,yi xh.e]=gg at a1 a2 a0 a4 a5 a6 a7 a8 a9 ad ae Z⊢;simp only[Act.put,List.getElem_toArray,List.getElem_cons_succ,List.getElem_cons_zero];obtain⟨c2,c3,c4,c5,c6,c7⟩:=a0.cs6
    go_wp2_with fail
    refine(HC.out g xh _ _ _ _ _ f4.out).mono ?_;rintro H hy ⟨rfl,D⟩;have I:=a1.l D;have ci:=a4.l D;have cj:=a5.l D;have ck:=a6.l D;have cl:=a7.l D;have cm:=a8.l D;have al:=a9.l D;have cn:=ad.l D;have an:=ae.l D;have b7:=aa Z D;clear a1 a2 a0 a4 a5 a6 a7 a8 a9 ad ae Z D c2 c3 c4 c5 c6 c7;have hf:=fin6 (P:=Tryz.prog) I b7 (by omega) underlying49 rfl (by kernel_rfl) (.bool g.s) (yT A g.n z) (yi (g.e-(k:Int))) (.bool xh.s) (yT p xh.n o) (yi (xh.e-(k:Int)));have HH:Hid (_∧_∧_∧_):=⟨hf.1,hf.2.2.rd al (aX al I (by simp)),hf.2.2.rd an (aX an I (by simp)),hf.2.1⟩;obtain⟨⟨z0,z1,z2,z3,z4,z5⟩,y0,y1,y2,y3,y4,y5⟩:=csf6 I;clear hf I ci cj ck cl cm al cn an b7
    go_wp2
    obtain⟨hl,co,cp,bR⟩:=HH.out;exact bodyPost_ret (br results156 rfl hl) rfl ⟨_,_,rfl,co,cp,bR⟩
  ·have ma:=hk.out
   have gy:t≤2^k:=hI.out.1.2.2.2.2.1;have km:s≤i*2^k:=hI.out.1.2.2.2.1;have m8:i+f≤k+1:=hI.out.1.2.2.1;have m7:f≠0:=by rintro rfl;exact ht (by simpa using hI.out.1.2.1)
   have ef:i≤k:=by omega
   have gz:s≤(k+2)*2^k:=Nat.le_trans km (Nat.mul_le_mul_right _ (by omega));have h0:t≤2^k:=gy;have iz:r≤s:=by
    rcases Nat.mod_two_eq_zero_or_one i with c|c
    ·exact hI.out.1.2.2.2.2.2.1 c
    ·exact Nat.le_trans (Nat.le_add_right _ _) (hI.out.1.2.2.2.2.2.2.1 c)
   have nv:0< (Dg.dg 4294967296 t).length:=by
    rcases Nat.eq_zero_or_pos (Dg.dg 4294967296 t).length with c|c
    ·exact absurd ((Dg.dg_nil_iff 4294967296 _ (by omega)).1 (List.length_eq_zero_iff.1 c)) ht
    ·exact c
   obtain⟨d,hd⟩: ∃x,x=2*i+1:=⟨_,rfl⟩;obtain⟨i1,h3⟩: ∃x,x=i+1:=⟨_,rfl⟩;obtain⟨es,ky⟩: ∃x,x=L+3:=⟨_,rfl⟩;have n6:=hI.out.2;obtain⟨i2,kn⟩: ∃x,2*(i:Int)=x:=⟨_,rfl⟩;have o7:IntKind.i64.wrap (2*(i:Int))=i2:=by rw[kn];exact IntWalk.i64_in _ ⟨by omega,by omega⟩
   have o8:IntKind.i64.wrap (i2+1)=(d:Int):=by rw[show i2+1=(d:Int) by omega];exact IntWalk.i64_in _ ⟨by omega,by omega⟩
   have o9:IntKind.u32.wrap d=(d:Int):=IntWalk.u32_in _ ⟨by omega,by omega⟩;have oa:IntKind.i64.wrap ((L:Int)+3)=(es:Int):=by rw[show(L:Int)+3=(es:Int) by omega];exact IntWalk.i64_in _ ⟨by omega,by omega⟩
   have ob:IntKind.i64.wrap ((i:Int)+1)=(i1:Int):=by rw[show(i:Int)+1=(i1:Int) by omega];exact IntWalk.i64_in _ ⟨by omega,by omega⟩
   have kv:Hid (0<d∧d<4294967296∧t≤2^k):=⟨by omega,by omega,gy⟩;have ku:Hid (0<n*n∧t≤2^k):=⟨Nat.mul_pos (by have:=hn.out;omega) (by have:=hn.out;omega),gy⟩;replace ef:Hid _:=ef;clear km m8 m7 gy kn n6 ma
   rcases Nat.mod_two_eq_zero_or_one i with n4|n4
   ·have f5:1*(i % 2)=0:=by omega
    obtain⟨f',hf,da⟩:=inv_up hn.out.1 hI.out.1 ht f5 (by omega);rw[←h3,←hd] at da;have ih:Hid (InvN n k 1 R f' i1 (t/(n*n)) (s+t/d) r∧es=3+3*i1):=⟨da,by have:=hI.out.2;omega⟩;have j1:Hid (s≤(k+2)*2^k∧t/d≤2^k):=⟨gz,Nat.le_trans (Nat.div_le_self _ _) h0⟩;clear da hf f5 hI hd h0 gz iz;have n2:(i:Int).tmod 2=0:=by rw[Int.tmod_eq_emod_of_nonneg (by omega)];omega
    replace ht:Hid _:=ht;have mb:=q0.lt;have md:=q1.lt;have me:=q2.lt;have ap:=af wr (.cells #[.int .u32 d] 54);have f7:=ah wr [.int .u32 d] 54;have f8:=q0.l ap;have f9:=q1.l ap;have fa:=q2.l ap;have dy:=rg.l ap;have fr:=rs.l ap;have fs:=rr.l ap;have ev:=aa ee ap
    go_wp2_with fail
    refine(HO.out t d _ _ _ dy f7 kv.out).mono ?_;rintro H nf ⟨n7,nc,rfl,ds,g3,aq⟩;have fb:=f8.l aq;have fc:=f9.l aq;have dl:=fa.l aq;have ft:=dy.l aq;have fv:=fr.l aq;have fx:=fs.l aq;have ex:=aa ev aq;obtain⟨p,o,B⟩:=ds.shape;subst B;obtain⟨mo,mc,B⟩:=g3.shape;subst B;clear f8 f9 fa f7 dy fr fs ev aq q0 q1 q2 rg rs rr ee ap;have i8:=dl.c 0 rfl
    go_wp2_with fail
    refine(HP.out s (t/d) _ _ _ fv ds j1.out).mono ?_;rintro H e6 ⟨n8,rfl,cb,az⟩;have fd:=fb.l az;have fe:=fc.l az;have b1:=dl.l az;have e0:=ft.l az;have e1:=fx.l az;have ey:=aa ex az;obtain⟨zo,zc,B⟩:=cb.shape;subst B;clear fb fc dl ft fv fx ds g3 ex az i8;have h:=ag e6 ab 0 (.slice zo (Dg.dg 4294967296 (s+t/d)).length zc);have dn:au (e6.setCell ⟨ab,0,none⟩ (.slice zo (Dg.dg 4294967296 (s+t/d)).length zc)) ab 157 [.slice zo (Dg.dg 4294967296 (s+t/d)).length zc,yT ro r rc]:=(b1.set 0 (.slice zo (Dg.dg 4294967296 (s+t/d)).length zc));have ic:=b1.c 0 rfl;have k9:=b1.f 0;have dp:=h.loc fd (by omega);have c9:=h.loc fe (by omega);have e2:=h.rd e0 (aX e0 b1 (by simp));have e3:=h.rd e1 (aX e1 b1 (by simp));have e4:=h.rd cb (aX cb b1 (by simp));have d7:=h.below ey (by omega);clear h
    go_upto_region 11 with fail
    generalize e6.setCell ⟨ab,0,none⟩ (.slice zo (Dg.dg 4294967296 (s+t/d)).length zc)=m1 at dp c9 dn e2 e3 e4 d7⊢;clear b1 fd fe e0 e1 cb ey ic k9
    go_wp2_with fail
    refine(HT.out _ _ c9).mono ?_;rintro H ng ⟨n9,rfl,dt,ar⟩;have ff:=dp.l ar;have fg:=c9.l ar;have fi:=dn.l ar;have g0:=e2.l ar;have g1:=e3.l ar;have g2:=e4.l ar;have f0:=aa d7 ar;obtain⟨vo,vc,B⟩:=dt.shape;subst B;clear dp c9 dn e2 e3 e4 d7 ar
    go_wp2_with fail
    refine(HN.out t (n*n) _ _ _ g0 dt ku.out).mono ?_;rintro H nh ⟨na,nd,rfl,fo,k4,b0⟩;have j5:=ff.l b0;have j6:=fg.l b0;have jb:=fi.l b0;have k2:=g1.l b0;have k3:=g2.l b0;have i3:=aa f0 b0;obtain⟨eo,ec,B⟩:=fo.shape;subst B;obtain⟨oo,oc,B⟩:=k4.shape;subst B;clear ff fg fi g0 g1 g2 dt f0 b0
    go_wp2
    go_roundw
    case rel=>exact⟨f',i1,t/(n*n),s+t/d,r,es,_,_,_,_,by first|rfl| (rw[ky];rfl)| (congr 1;omega),by first|rfl| (rw[h3];rfl)| (congr 1;omega),fo,j6,jb,k3,k2,j5,i3,ko,ks,ih⟩
    case measure=>have:=ef.out;simp[intOf];omega
   ·have f5:1*(i % 2)=1:=by omega
    obtain⟨f',hf,da⟩:=inv_down hn.out.1 hI.out.1 ht f5;rw[←h3,←hd] at da;have ih:Hid (InvN n k 1 R f' i1 (t/(n*n)) s (r+t/d)∧es=3+3*i1):=⟨da,by have:=hI.out.2;omega⟩;have j1:Hid (r≤(k+2)*2^k∧t/d≤2^k):=⟨Nat.le_trans iz gz,Nat.le_trans (Nat.div_le_self _ _) h0⟩;clear da hf f5 hI hd h0 gz iz;have n2:(i:Int).tmod 2=1:=by rw[Int.tmod_eq_emod_of_nonneg (by omega)];omega
    replace ht:Hid _:=ht;have mb:=q0.lt;have md:=q1.lt;have me:=q2.lt;have ap:=af wr (.cells #[.int .u32 d] 54);have f7:=ah wr [.int .u32 d] 54;have f8:=q0.l ap;have f9:=q1.l ap;have fa:=q2.l ap;have dy:=rg.l ap;have fr:=rs.l ap;have fs:=rr.l ap;have ev:=aa ee ap
    go_wp2_with fail
    refine(HO.out t d _ _ _ dy f7 kv.out).mono ?_;rintro H nf ⟨n7,nc,rfl,ds,g3,aq⟩;have fb:=f8.l aq;have fc:=f9.l aq;have dl:=fa.l aq;have ft:=dy.l aq;have fv:=fr.l aq;have fx:=fs.l aq;have ex:=aa ev aq;obtain⟨p,o,B⟩:=ds.shape;subst B;obtain⟨mo,mc,B⟩:=g3.shape;subst B;clear f8 f9 fa f7 dy fr fs ev aq q0 q1 q2 rg rs rr ee ap;have i8:=dl.c 1 rfl
    go_wp2_with fail
    refine(HP.out r (t/d) _ _ _ fx ds j1.out).mono ?_;rintro H e6 ⟨n8,rfl,cb,az⟩;have fd:=fb.l az;have fe:=fc.l az;have b1:=dl.l az;have e0:=ft.l az;have e1:=fv.l az;have ey:=aa ex az;obtain⟨zo,zc,B⟩:=cb.shape;subst B;clear fb fc dl ft fv fx ds g3 ex az i8;have h:=ag e6 ab 1 (.slice zo (Dg.dg 4294967296 (r+t/d)).length zc);have dn:au (e6.setCell ⟨ab,1,none⟩ (.slice zo (Dg.dg 4294967296 (r+t/d)).length zc)) ab 157 [yT so s sc,.slice zo (Dg.dg 4294967296 (r+t/d)).length zc]:=(b1.set 1 (.slice zo (Dg.dg 4294967296 (r+t/d)).length zc));have ic:=b1.c 1 rfl;have k9:=b1.f 1;have dp:=h.loc fd (by omega);have c9:=h.loc fe (by omega);have e2:=h.rd e0 (aX e0 b1 (by simp));have e3:=h.rd e1 (aX e1 b1 (by simp));have e4:=h.rd cb (aX cb b1 (by simp));have d7:=h.below ey (by omega);clear h
    go_upto_region 11 with fail
    generalize e6.setCell ⟨ab,1,none⟩ (.slice zo (Dg.dg 4294967296 (r+t/d)).length zc)=m1 at dp c9 dn e2 e3 e4 d7⊢;clear b1 fd fe e0 e1 cb ey ic k9
    go_wp2_with fail
    refine(HT.out _ _ c9).mono ?_;rintro H ng ⟨n9,rfl,dt,ar⟩;have ff:=dp.l ar;have fg:=c9.l ar;have fi:=dn.l ar;have g0:=e2.l ar;have g1:=e3.l ar;have g2:=e4.l ar;have f0:=aa d7 ar;obtain⟨vo,vc,B⟩:=dt.shape;subst B;clear dp c9 dn e2 e3 e4 d7 ar
    go_wp2_with fail
    refine(HN.out t (n*n) _ _ _ g0 dt ku.out).mono ?_;rintro H nh ⟨na,nd,rfl,fo,k4,b0⟩;have j5:=ff.l b0;have j6:=fg.l b0;have jb:=fi.l b0;have k2:=g1.l b0;have k3:=g2.l b0;have i3:=aa f0 b0;obtain⟨eo,ec,B⟩:=fo.shape;subst B;obtain⟨oo,oc,B⟩:=k4.shape;subst B;clear ff fg fi g0 g1 g2 dt f0 b0
    go_wp2
    go_roundw
    case rel=>exact⟨f',i1,t/(n*n),s,r+t/d,es,_,_,_,_,by first|rfl| (rw[ky];rfl)| (congr 1;omega),by first|rfl| (rw[h3];rfl)| (congr 1;omega),fo,j6,jb,k2,k3,j5,i3,ko,ks,ih⟩
    case measure=>have:=ef.out;simp[intOf];omega
end Go.Proofs.YthhiidikgchdeaaGreatDoor
