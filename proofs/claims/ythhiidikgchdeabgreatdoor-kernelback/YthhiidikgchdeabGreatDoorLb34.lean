/- Texts laid together. -/
import Derived.Test.YthhiidikgchdeabGreatDoorLb22
import Derived.Test.YthhiidikgchdeabGreatDoorLb29
import Derived.Test.YthhiidikgchdeabGreatDoorLb31
set_option maxRecDepth 100000
set_option maxHeartbeats 3200000
namespace Go.Proofs.YthhiidikgchdeabGreatDoor
open _root_.Go.Proofs.Tryz
open Go.RowKit
theorem inverse_any (n k tn:Nat)(w:World)(S:2≤n∧n<65536)(o:k≤60000)(Y:tn=0∨tn=1):
  yC 128 #[yi n,yi k,yi tn] w (aeT w (invLo (lp (n*n) tn (k+1) 0 (2^k/n) 0 0) k) (invHi (lp (n*n) tn (k+1) 0 (2^k/n) 0 0) k)):=by
 have N: ∀(m d q:Nat) v c,Rd c .u32 v (Dg.dg 4294967296 m)→au c q 36 [.int .u32 d]→0<d∧d<4294967296∧m≤2^k→yC 126 #[v,.slice (some ⟨q,0,none⟩) 1 1] c (TwS c (m/d) (m % d)):=fun m d q v c z B A=>
  overNS m d v _ [d] c z (rd_cell1 B) (Dg.small_cons.2 ⟨A.2.1,Dg.small_nil _ (by omega)⟩) (fun _=>by simp;omega) (by simp) (by simp[Dg.vl]) (len_pow A.2.2 o)
 have M: ∀(m d:Nat) v u c,Rd c .u32 v (Dg.dg 4294967296 m)→Rd c .u32 u (Dg.dg 4294967296 d)→0<d∧m≤2^k→yC 126 #[v,u] c (TwS c (m/d) (m % d)):=fun m d v u c z C A=>
  overNS m d v u _ c z C (Dg.small_dg _ _ (by omega)) (Dg.norm_dg _ _ (by omega)) (dg_ne A.1) (Dg.vl_dg _ _ (by omega)) (len_pow A.2 o)
 have Q: ∀q c,au c q 36 [.int .u32 n]→yC 66 #[.slice (some ⟨q,0,none⟩) 1 1,.slice (some ⟨q,0,none⟩) 1 1] c (NmS c (n*n)):=fun q c B=>by
  have W:Dg.Small 4294967296 [n]:=Dg.small_cons.2 ⟨by omega,Dg.small_nil _ (by omega)⟩;have h:=qC _ _ [n] [n] c (rd_cell1 B) (rd_cell1 B) W W (by simp) (by simp);rw[show Dg.vl 4294967296 [n]=n by simp[Dg.vl]] at h
  exact h.mono fun _ _ ⟨v,p,r,t⟩=>⟨v,p,r.rd,t⟩
 have P: ∀q c,au c q 36 [.int .u32 1]→yC 102 #[.slice (some ⟨q,0,none⟩) 1 1,yi k] c (NmS c (2^k)):=fun q c B=>by
  have h:=eO _ [1] k c (rd_cell1 (d:=1) B) (Dg.small_cons.2 ⟨by omega,Dg.small_nil _ (by omega)⟩) (by simp) (by omega) (by omega);rw[show Dg.vl 4294967296 [1]=1 by simp[Dg.vl],show shN 1 k=2^k by simp[shN];intro h;omega] at h
  exact h.mono fun _ _ ⟨v,p,r,t⟩=>⟨v,p,r.rd,t⟩
 have O: ∀(a b:Nat) v u c,Rd c .u32 v (Dg.dg 4294967296 a)→Rd c .u32 u (Dg.dg 4294967296 b)→a≤(k+2)*2^k∧b≤2^k→yC 68 #[v,u] c (NmS c (a+b)):=fun a b v u c z C i=>by
  have F:=len_big i.1 o;have U:=len_pow i.2 o;have h:=rj v u _ _ c z C (Dg.small_dg _ _ (by omega)) (Dg.small_dg _ _ (by omega)) (by omega) (by omega);rw[Dg.vl_dg _ _ (by omega),Dg.vl_dg _ _ (by omega)] at h;exact h.mono fun _ _ ⟨v,p,r,t⟩=>⟨v,p,r.rd,t⟩
 have L: ∀(a b:Nat) v u c,Rd c .u32 v (Dg.dg 4294967296 a)→Rd c .u32 u (Dg.dg 4294967296 b)→a≤(k+2)*2^k∧b≤a→yC 70 #[v,u] c (NmS c (a-b)):=fun a b v u c z C i=>by
  have F:=len_big i.1 o;have h:=zL v u _ _ c z C (Dg.small_dg _ _ (by omega)) (Dg.small_dg _ _ (by omega)) (by omega) (Nat.le_of_not_lt fun X=>absurd (Dg.vl_lt_of_len _ (by omega) _ _ (Dg.small_dg _ _ (by omega)) (Dg.norm_dg _ _ (by omega)) X) (by rw[Dg.vl_dg _ _ (by omega),Dg.vl_dg _ _ (by omega)];omega)) (by rw[Dg.vl_dg _ _ (by omega),Dg.vl_dg _ _ (by omega)];exact i.2)
  rw[Dg.vl_dg _ _ (by omega),Dg.vl_dg _ _ (by omega)] at h;exact h.mono fun _ _ ⟨v,p,r,t⟩=>⟨v,p,r.rd,t⟩
 have K: ∀(m:Nat) g f c,yC 64 (ydA false (yT g m f) 0) c (yR c (ydV false (yT g m f) 0)):=fun m g f c=>l9 _ _ _ _ _ c
 have R: ∀(m:Nat) c,m≤1000000→yC 43 #[yi m] c (Lx c ⟨false,m,0⟩):=fun m c h=>whole_any m c (by omega)
 have T: ∀d:Nat,d≤1000000→(Dg.dg 4294967296 d).length≤1:=fun d A=>jq (k:=32) (by omega) (by omega)
 have I: ∀(m d:Nat) g f l j c,Rd c .u32 (yT g m f) (Dg.dg 4294967296 m)→Rd c .u32 (yT l d j) (Dg.dg 4294967296 d)→m≤(k+2)*2^k∧d≤1000000→yC 75 #[ydV false (yT g m f) 0,ydV false (yT l d j) 0] c (Lx c (aG ⟨false,m,0⟩ (dV ⟨false,d,0⟩))):=fun m d g f l j c D E i=>by
  have F:=len_big i.1 o;have U:=T d i.2;exact(FT _ _ ⟨false,m,0⟩ ⟨false,d,0⟩ c ⟨_,rfl,D⟩ ⟨_,rfl,E⟩ (by show(Dg.dg 4294967296 m).length≤_;omega) (by show(Dg.dg 4294967296 d).length≤_;omega) (by simp) (by simp) (by simp) (by simp)).mono fun _ _ h=>h.vres
 have J: ∀(m d:Nat) g f l j c,Rd c .u32 (yT g m f) (Dg.dg 4294967296 m)→Rd c .u32 (yT l d j) (Dg.dg 4294967296 d)→m≤(k+2)*2^k∧d≤1000000→yC 32 #[ydV false (yT g m f) 0,ydV false (yT l d j) 0] c (Lx c (aG ⟨false,m,0⟩ ⟨false,d,0⟩)):=fun m d g f l j c D E i=>by
  have F:=len_big i.1 o;have U:=T d i.2;exact(uj _ _ ⟨false,m,0⟩ ⟨false,d,0⟩ c ⟨_,rfl,D⟩ ⟨_,rfl,E⟩ (by show(Dg.dg 4294967296 m).length≤_;omega) (by show(Dg.dg 4294967296 d).length≤_;omega) (by simp) (by simp) (by simp) (by simp)).mono fun _ _ h=>h.vres
 have H: ∀(x y:ak) g f l j c,-1000000≤x.e∧x.e≤1000000∧ -1000000≤y.e∧y.e≤1000000→yC 81 #[.agg #[.bool x.s,yT g x.n f,yi x.e,.bool y.s,yT l y.n j,yi y.e],yi (-(k:Int))] c (yR c (.agg #[.bool x.s,yT g x.n f,yi (x.e-(k:Int)),.bool y.s,yT l y.n j,yi (y.e-(k:Int))])):=fun x y g f l j c i=>
  spanScaled_W x y _ _ _ _ (-(k:Int)) (x.e-(k:Int)) (y.e-(k:Int)) c (fun G=>dscaled_W _ _ _ _ _ _ _ G (by rw[show x.e+ -(k:Int)=x.e-(k:Int) by omega];exact IntWalk.i64_in _ ⟨by omega,by omega⟩)) (fun G=>dscaled_W _ _ _ _ _ _ _ G (by rw[show y.e+ -(k:Int)=y.e-(k:Int) by omega];exact IntWalk.i64_in _ ⟨by omega,by omega⟩))
 rcases Y with rfl|rfl
 ·exact inverse_W0 n k _ _ w S o rfl rfl N M Q P O L K R I J H
 ·exact inverse_W1 n k _ _ w S o rfl rfl N M Q P O L K R I J H
theorem scaled_ret (a b:ak)(f h:Option Addr)(d g:Nat)(n:Int)(w:World)(i: -1000000≤a.e∧a.e≤1000000)(j: -1000000≤b.e∧b.e≤1000000)(k: -1000000≤n∧n≤1000000):
  yC 81 #[.agg #[.bool a.s,yT f a.n d,yi a.e,.bool b.s,yT h b.n g,yi b.e],yi n] w (yR w (.agg #[.bool a.s,yT f a.n d,yi (a.e+n),.bool b.s,yT h b.n g,yi (b.e+n)])):=
 spanScaled_W a b _ _ _ _ n (a.e+n) (b.e+n) w (fun c=>dscaled_W _ _ _ _ _ _ _ c (IntWalk.i64_in _ ⟨by omega,by omega⟩)) (fun c=>dscaled_W _ _ _ _ _ _ _ c (IntWalk.i64_in _ ⟨by omega,by omega⟩))
theorem dcmp9 (v u:Value)(a b:ak)(w:World)(f:Dv w v a)(e:Dv w u b)(c:RgT 2000000000 2000000000 a)(d:RgT 2000000000 2000000000 b):yC 42 #[v,u] w (yR w (yi (bJ a b))):=by
 have k:(Dg.dg 4294967296 a.n).length≤125000000:=jq (bits_lt a.n) (by have:=c.1;have:=c.2;omega);have l:(Dg.dg 4294967296 b.n).length≤125000000:=jq (bits_lt b.n) (by have:=d.1;have:=d.2;omega);obtain⟨g,h⟩:=c;obtain⟨i,j⟩:=d;exact iE _ _ a b w f e (by omega) (by omega) (by omega) (by omega) (by omega) (by omega)
theorem scaled_ret9 (a b:ak)(f h:Option Addr)(d g:Nat)(n:Int)(w:World)(i:Fit9 a)(j:Fit9 b)(p: -1000000000≤n∧n≤1000000000):
  yC 81 #[.agg #[.bool a.s,yT f a.n d,yi a.e,.bool b.s,yT h b.n g,yi b.e],yi n] w (yR w (.agg #[.bool a.s,yT f a.n d,yi (a.e+n),.bool b.s,yT h b.n g,yi (b.e+n)])):=by
 obtain⟨-,k,l⟩:=i.all;obtain⟨-,m,o⟩:=j.all;exact spanScaled_W a b _ _ _ _ n (a.e+n) (b.e+n) w (fun c=>dscaled_W _ _ _ _ _ _ _ c (IntWalk.i64_in _ ⟨by omega,by omega⟩)) (fun c=>dscaled_W _ _ _ _ _ _ _ c (IntWalk.i64_in _ ⟨by omega,by omega⟩))
theorem log_n0 (a:ak)(D:Option Addr)(C:Nat)(x p q u v z r s e h:ak)(k g j f c m n b:Int)(w:World)(ra:Rd w .u32 (yT D a.n C) (Dg.dg 4294967296 a.n))(hj:IntKind.i64.wrap (g-2)=j)(hc: ¬c<0)(hn:IntKind.i64.wrap (-g)=n)(_h0: ¬g=0)(hb:max g n=b)(h1:g<0)
  (T1: ∀d,yB w d→Rd d .u32 (yT D a.n C) (Dg.dg 4294967296 a.n)→yC 53 #[yDV a D C] d (yR d (yi g)))
  (T2: ∀d,yB w d→yC 43 #[yi 3] d (Lx d x))
  (T3: ∀W U d,yC 84 #[yDV x W U,yi j] d (yR d (ydV x.s (yT W x.n U) f)))
  (T4: ∀W U d,yB w d→Rd d .u32 (yT D a.n C) (Dg.dg 4294967296 a.n)→Rd d .u32 (yT W x.n U) (Dg.dg 4294967296 x.n)→yC 42 #[yDV a D C,ydV x.s (yT W x.n U) f] d (yR d (yi c)))
  (T5:yJ 84 #[yDV a D C,yi n] (ydV a.s (yT D a.n C) m))
  (T6: ∀d,yB w d→Rd d .u32 (yT D a.n C) (Dg.dg 4294967296 a.n)→yC 85 #[ydV a.s (yT D a.n C) m,yi k] d (aeT d p q))
  (T7: ∀d,yB w d→yC 78 #[yi k] d (aeT d u v))
  (T8: ∀d,yB w d→yC 25 #[yi b] d (aeT d z z))
  (T9: ∀uo uc vo vc zo zc io ic d,yB w d→Rd d .u32 (yT uo u.n uc) (Dg.dg 4294967296 u.n)→Rd d .u32 (yT vo v.n vc) (Dg.dg 4294967296 v.n)→Rd d .u32 (yT zo z.n zc) (Dg.dg 4294967296 z.n)→Rd d .u32 (yT io z.n ic) (Dg.dg 4294967296 z.n)→yC 86 #[.agg #[.bool u.s,yT uo u.n uc,yi u.e,.bool v.s,yT vo v.n vc,yi v.e],.agg #[.bool z.s,yT zo z.n zc,yi z.e,.bool z.s,yT io z.n ic,yi z.e]] d (aeT d r s))
  (TA: ∀H G J I d,yC 59 #[.agg #[.bool r.s,yT H r.n G,yi r.e,.bool s.s,yT J s.n I,yi s.e]] d (yR d (.agg #[.bool (!s.s),yT J s.n I,yi s.e,.bool (!r.s),yT H r.n G,yi r.e])))
  (TB: ∀po pc qo qc H G J I d,yB w d→Rd d .u32 (yT po p.n pc) (Dg.dg 4294967296 p.n)→Rd d .u32 (yT qo q.n qc) (Dg.dg 4294967296 q.n)→Rd d .u32 (yT H r.n G) (Dg.dg 4294967296 r.n)→Rd d .u32 (yT J s.n I) (Dg.dg 4294967296 s.n)→yC 87 #[.agg #[.bool p.s,yT po p.n pc,yi p.e,.bool q.s,yT qo q.n qc,yi q.e],.agg #[.bool (!s.s),yT J s.n I,yi s.e,.bool (!r.s),yT H r.n G,yi r.e]] d (aeT d e h)):
  yC 47 #[yDV a D C,yi k] w (aeT w e h):=by
 replace T1:Hid _:=T1;replace T2:Hid _:=T2;replace T3:Hid _:=T3;replace T4:Hid _:=T4;replace T5:Hid _:=T5;replace T6:Hid _:=T6;replace T7:Hid _:=T7;replace T8:Hid _:=T8;replace T9:Hid _:=T9;replace TA:Hid _:=TA;replace TB:Hid _:=TB;obtain⟨W4,a7,q1,q2,b3⟩:=iG w (yDL a D C) 48 [.bool false,yN,yi 0,.bool false,yN,yi 0] 54;replace a7:Hid _:=a7;have r6:=ra.l b3;clear ra
 go_enter func47,ntmps47
 go_upto_region 1 with fail
 rw[a7.out];clear a7;obtain⟨c7,c8,c9⟩:=q1.cs3
 go_wp2_with fail
 refine(T1.out _ b3 r6).mono ?_;rintro M ch ⟨rfl,Y⟩;have cr:=q1.l Y;have cs:=q2.l Y;have e6:=r6.l Y;have ck:=aa b3 Y;clear q1 q2 r6 b3 Y T1 c7 c8 c9
 go_upto_region 2 with fail
 have X:yB ch ch.drew:=(Below.refl _ _).drew;have a9:=cr.l X;have bb:=cs.l X;have c2:=e6.l X;have a5:=aa ck X;clear cr cs e6 ck X;refine wp_region_held_drew (S:=fun wq=>au wq w.heap.size 48 (yDL a D C)) (by kernel_rfl) a9 (fun a2=> ?_)
 generalize ch.drew=gj at a9 bb c2 a5 a2⊢;refine tq 0 (yDV a D C) rfl (fun _ fr=>fy 48 (.tmp 2) rfl w.heap.size 0 (by kernel_rfl) _ _ fr.range underlying48 rfl (by kernel_rfl)) a2 ?_
 refine tq 2 (yi g) rfl (fun _ _=>by kernel_rfl) a2 ?_
 refine tq 3 (yi j) rfl (fun _ _=>by go_simp) a2 ?_
 refine wpAnyH_ready (rs:=[1]) (by kernel_rfl) (by simp) ?_;refine AllReadyH.cons rfl (fun K O=> ?_) AllReadyH.nil
 go_simp
 refine(T2.out _ a5).mono ?_;rintro M h9 ⟨gy,rfl,c4,Z⟩;have bc:=a9.l Z;have cy:=bb.l Z;have e9:=c2.l Z;have cn:=aa a5 Z;obtain⟨W,U,o⟩:=c4.shape;subst o;clear a9 bb c2 a5 Z T2;refine O.out _ _ bc (fun fo=> ?_)
 clear O K;refine wpAnyH_ready (rs:=[4]) (by kernel_rfl) (by simp) ?_;refine AllReadyH.cons rfl (fun K O=> ?_) AllReadyH.nil
 go_simp
 refine(T3.out _ _ _).mono ?_;rintro M ha ⟨rfl,R⟩;have bd:=bc.l R;have cz:=cy.l R;have cd:=e9.l R;have ce:=c4.l R;have az:=aa cn R;clear bc cy e9 c4 cn R T3;refine O.out _ _ bd (fun fp=> ?_)
 clear O K;refine wpAnyH_ready (rs:=[5]) (by kernel_rfl) (by simp) ?_;refine AllReadyH.cons rfl (fun K O=> ?_) AllReadyH.nil
 go_simp
 refine(T4.out _ _ _ az cd ce).mono ?_;rintro M hd ⟨rfl,T⟩;have be:=bd.l T;have d0:=cz.l T;have ea:=cd.l T;have eb:=ce.l T;have co:=aa az T;clear bd cz cd ce az T T4;refine O.out _ _ be (fun cp=> ?_)
 clear O K;refine tq 6 (.bool false) rfl (fun _ _=>by go_simp) cp ?_
 refine wpAnyH_done (by kernel_rfl) ?_ _;clear a2 fo fp cp;simp only[Act.put,List.getElem_toArray,List.getElem_cons_succ,List.getElem_cons_zero,List.setIfInBounds_toArray,List.set_cons_zero,List.set_cons_succ];obtain⟨fk,fl,fn⟩:=be.cs3
 go_wp2_with fail
 refine(T5.out _).mono ?_;rintro M he ⟨rfl,a0⟩;have d1:=d0.l a0;have cg:=ea.l a0;have ed:=eb.l a0;have b0:=aa co a0;clear be d0 ea eb co a0 T5 fk fl fn
 go_wp2_with fail
 refine(T6.out _ b0 cg).mono ?_;rintro M es ⟨gz,h5,rfl,c5,cb,a1⟩;have bf:=d1.l a1;have ee:=cg.l a1;have ef:=ed.l a1;have b1:=aa b0 a1;obtain⟨po,pc,o⟩:=c5.shape;subst o;obtain⟨qo,qc,o⟩:=cb.shape;subst o;clear d1 cg ed b0 a1 T6;obtain⟨gi,a8,d2,Q⟩:=cA es [.bool p.s,yT po p.n pc,yi p.e,.bool q.s,yT qo q.n qc,yi q.e] 54;replace a8:Hid _:=a8;have gq:w.heap.size≤es.heap.size:=b1.size;have gr:=bf.lt;have d3:=bf.l Q;have eg:=ee.l Q;have eh:=ef.l Q;have ei:=c5.l Q;have ej:=cb.l Q;have b2:=aa b1 Q;clear bf ee ef c5 cb b1 Q
 go_upto_region 5 with fail
 rw[a8.out];clear a8
 go_wp2_with fail
 refine(T7.out _ b2).mono ?_;rintro M hg ⟨h0,h6,rfl,c6,cc,N⟩;have d4:=d3.l N;have d5:=d2.l N;have ek:=eg.l N;have el:=eh.l N;have em:=ei.l N;have en:=ej.l N;have b4:=aa b2 N;obtain⟨uo,uc,o⟩:=c6.shape;subst o;obtain⟨vo,vc,o⟩:=cc.shape;subst o;clear d3 d2 eg eh ei ej b2 N T7
 go_wp2_with fail
 refine(T8.out _ b4).mono ?_;rintro M hh ⟨h2,h7,rfl,aq,av,L⟩;have d6:=d4.l L;have d7:=d5.l L;have ep:=ek.l L;have d9:=el.l L;have da:=em.l L;have db:=en.l L;have bg:=c6.l L;have bh:=cc.l L;have ax:=aa b4 L;obtain⟨zo,zc,o⟩:=aq.shape;subst o;obtain⟨io,ic,o⟩:=av.shape;subst o;clear d4 d5 ek el em en c6 cc b4 L T8
 go_wp2_with fail
 refine(T9.out _ _ _ _ _ _ _ _ _ ax bg bh aq av).mono ?_;rintro M t ⟨gv,h3,rfl,c3,ca,F⟩;have b5:=d6.l F;have b6:=d7.l F;have dc:=ep.l F;have dd:=d9.l F;have dl:=da.l F;have dn:=db.l F;have dp:=bg.l F;have dq:=bh.l F;have ds:=aq.l F;have dt:=av.l F;have ay:=aa ax F;obtain⟨H,G,o⟩:=c3.shape;subst o;obtain⟨J,I,o⟩:=ca.shape;subst o;clear d6 d7 ep d9 da db bg bh aq av ax F T9;obtain⟨gg,a6,b7,A⟩:=cA t [.bool r.s,yT H r.n G,yi r.e,.bool s.s,yT J s.n I,yi s.e] 54;replace a6:Hid _:=a6;have gl:w.heap.size≤t.heap.size:=ay.size;have gm:=b5.lt;have gp:=b6.lt;have ct:=b5.l A;have cv:=b6.l A;have dv:=dc.l A;have dy:=dd.l A;have e0:=dl.l A;have e1:=dn.l A;have e2:=dp.l A;have e3:=dq.l A;have e4:=ds.l A;have e5:=dt.l A;have e7:=c3.l A;have e8:=ca.l A;have cj:=aa ay A;clear b5 b6 dc dd dl dn dp dq ds dt c3 ca ay A
 go_upto_region 8 with fail
 rw[a6.out];clear a6;obtain⟨et,eu,ev,ex,ey,f0⟩:=b7.cs6
 go_wp2_with fail
 refine(TA.out _ _ _ _ _).mono ?_;rintro M ci ⟨rfl,y⟩;have cw:=ct.l y;have cx:=cv.l y;have i:=b7.l y;have bi:=dv.l y;have bj:=dy.l y;have bl:=e0.l y;have bm:=e1.l y;have bn:=e2.l y;have bo:=e3.l y;have bp:=e4.l y;have bq:=e5.l y;have bs:=e7.l y;have bt:=e8.l y;have cl:=aa cj y;clear ct cv b7 dv dy e0 e1 e2 e3 e4 e5 e7 e8 cj y TA et eu ev ex ey f0;have B:=(((((ag ci t.heap.size 0 (.bool (!s.s))).trans (ag _ t.heap.size 1 (yT J s.n I))).trans (ag _ t.heap.size 2 (yi s.e))).trans (ag _ t.heap.size 3 (.bool (!r.s)))).trans (ag _ t.heap.size 4 (yT H r.n G))).trans (ag _ t.heap.size 5 (yi r.e));have b8:au ((((((ci.setCell ⟨t.heap.size,0,none⟩ (.bool (!s.s))).setCell ⟨t.heap.size,1,none⟩ (yT J s.n I)).setCell ⟨t.heap.size,2,none⟩ (yi s.e)).setCell ⟨t.heap.size,3,none⟩ (.bool (!r.s))).setCell ⟨t.heap.size,4,none⟩ (yT H r.n G)).setCell ⟨t.heap.size,5,none⟩ (yi r.e)) t.heap.size 54 [.bool (!s.s),yT J s.n I,yi s.e,.bool (!r.s),yT H r.n G,yi r.e]:=((((((i.set 0 (.bool (!s.s))).set 1 (yT J s.n I)).set 2 (yi s.e)).set 3 (.bool (!r.s))).set 4 (yT H r.n G)).set 5 (yi r.e));have f1:=i.c 0 rfl;have g8:=i.f 0;have f2:=i.c 1 rfl;have g9:=i.f 1;have f3:=i.c 2 rfl;have ga:=i.f 2;have f4:=i.c 3 rfl;have gb:=i.f 3;have f5:=i.c 4 rfl;have gc:=i.f 4;have f6:=i.c 5 rfl;have gd:=i.f 5;have b9:=B.loc cw (by omega);have ba:=B.loc cx (by omega);have bv:=B.rd bi (aX bi i (by simp));have bw:=B.rd bj (aX bj i (by simp));have ad:=B.rd bl (aX bl i (by simp));have ae:=B.rd bm (aX bm i (by simp));have bx:=B.rd bn (aX bn i (by simp));have bz:=B.rd bo (aX bo i (by simp));have c0:=B.rd bp (aX bp i (by simp));have c1:=B.rd bq (aX bq i (by simp));have al:=B.rd bs (aX bs i (by simp));have an:=B.rd bt (aX bt i (by simp));have a4:=B.below cl (by omega);clear B
 go_upto_region 10 with fail
 generalize(((((ci.setCell ⟨t.heap.size,0,none⟩ (.bool (!s.s))).setCell ⟨t.heap.size,1,none⟩ (yT J s.n I)).setCell ⟨t.heap.size,2,none⟩ (yi s.e)).setCell ⟨t.heap.size,3,none⟩ (.bool (!r.s))).setCell ⟨t.heap.size,4,none⟩ (yT H r.n G)).setCell ⟨t.heap.size,5,none⟩ (yi r.e)=W191 at b9 ba b8 bv bw ad ae bx bz c0 c1 al an a4⊢;clear i cw cx bi bj bl bm bn bo bp bq bs bt cl f1 g8 f2 g9 f3 ga f4 gb f5 gc f6 gd;obtain⟨f7,f8,f9,fa,fb,fc⟩:=ba.cs6;obtain⟨fd,fe,ff,fg,fi,fj⟩:=b8.cs6
 go_wp2_with fail
 refine(TB.out _ _ _ _ _ _ _ _ _ a4 ad ae al an).mono ?_;rintro M h8 ⟨gx,h4,rfl,ap,ar,E⟩;have a3:=b9.l E;have fs:=bv.l E;have ft:=bw.l E;have fv:=ad.l E;have fx:=ae.l E;have g0:=bx.l E;have g1:=bz.l E;have g2:=c0.l E;have g3:=c1.l E;have g4:=al.l E;have g5:=an.l E;have cm:=aa a4 E;obtain⟨eo,ec,o⟩:=ap.shape;subst o;obtain⟨ho,hc,o⟩:=ar.shape;subst o;clear b9 ba b8 bv bw ad ae bx bz c0 c1 al an a4 E TB f7 f8 f9 fa fb fc fd fe ff fg fi fj;have hf:=fin6 (P:=Tryz.prog) a3 cm (by omega) underlying54 rfl (by kernel_rfl) (.bool e.s) (yT eo e.n ec) (yi e.e) (.bool h.s) (yT ho h.n hc) (yi h.e);have HH:Hid (_∧_∧_∧_):=⟨hf.1,hf.2.2.rd ap (aX ap a3 (by simp)),hf.2.2.rd ar (aX ar a3 (by simp)),hf.2.1⟩;obtain⟨⟨z0,z1,z2,z3,z4,z5⟩,y0,y1,y2,y3,y4,y5⟩:=csf6 a3;clear hf a3 fs ft fv fx g0 g1 g2 g3 g4 g5 ap ar cm
 go_wp2
 obtain⟨hl,g6,g7,bR⟩:=HH.out;exact bodyPost_ret (br results47 rfl hl) rfl ⟨_,_,rfl,g6,g7,bR⟩
theorem log_n1 (a:ak)(E:Option Addr)(D:Nat)(x p q u v z r s e h:ak)(k g j f c m n y b:Int)(w:World)(ra:Rd w .u32 (yT E a.n D) (Dg.dg 4294967296 a.n))(hj:IntKind.i64.wrap (g-2)=j)(hc:c<0)(hy:IntKind.i64.wrap (g-1)=y)(hn:IntKind.i64.wrap (-y)=n)(_h0: ¬y=0)(hb:max y n=b)(h1:y<0)
  (T1: ∀d,yB w d→Rd d .u32 (yT E a.n D) (Dg.dg 4294967296 a.n)→yC 53 #[yDV a E D] d (yR d (yi g)))
  (T2: ∀d,yB w d→yC 43 #[yi 3] d (Lx d x))
  (T3: ∀X W d,yC 84 #[yDV x X W,yi j] d (yR d (ydV x.s (yT X x.n W) f)))
  (T4: ∀X W d,yB w d→Rd d .u32 (yT E a.n D) (Dg.dg 4294967296 a.n)→Rd d .u32 (yT X x.n W) (Dg.dg 4294967296 x.n)→yC 42 #[yDV a E D,ydV x.s (yT X x.n W) f] d (yR d (yi c)))
  (T5:yJ 84 #[yDV a E D,yi n] (ydV a.s (yT E a.n D) m))
  (T6: ∀d,yB w d→Rd d .u32 (yT E a.n D) (Dg.dg 4294967296 a.n)→yC 85 #[ydV a.s (yT E a.n D) m,yi k] d (aeT d p q))
  (T7: ∀d,yB w d→yC 78 #[yi k] d (aeT d u v))
  (T8: ∀d,yB w d→yC 25 #[yi b] d (aeT d z z))
  (T9: ∀uo uc vo vc zo zc io ic d,yB w d→Rd d .u32 (yT uo u.n uc) (Dg.dg 4294967296 u.n)→Rd d .u32 (yT vo v.n vc) (Dg.dg 4294967296 v.n)→Rd d .u32 (yT zo z.n zc) (Dg.dg 4294967296 z.n)→Rd d .u32 (yT io z.n ic) (Dg.dg 4294967296 z.n)→yC 86 #[.agg #[.bool u.s,yT uo u.n uc,yi u.e,.bool v.s,yT vo v.n vc,yi v.e],.agg #[.bool z.s,yT zo z.n zc,yi z.e,.bool z.s,yT io z.n ic,yi z.e]] d (aeT d r s))
  (TA: ∀I H L J d,yC 59 #[.agg #[.bool r.s,yT I r.n H,yi r.e,.bool s.s,yT L s.n J,yi s.e]] d (yR d (.agg #[.bool (!s.s),yT L s.n J,yi s.e,.bool (!r.s),yT I r.n H,yi r.e])))
  (TB: ∀po pc qo qc I H L J d,yB w d→Rd d .u32 (yT po p.n pc) (Dg.dg 4294967296 p.n)→Rd d .u32 (yT qo q.n qc) (Dg.dg 4294967296 q.n)→Rd d .u32 (yT I r.n H) (Dg.dg 4294967296 r.n)→Rd d .u32 (yT L s.n J) (Dg.dg 4294967296 s.n)→yC 87 #[.agg #[.bool p.s,yT po p.n pc,yi p.e,.bool q.s,yT qo q.n qc,yi q.e],.agg #[.bool (!s.s),yT L s.n J,yi s.e,.bool (!r.s),yT I r.n H,yi r.e]] d (aeT d e h)):
  yC 47 #[yDV a E D,yi k] w (aeT w e h):=by
 replace T1:Hid _:=T1;replace T2:Hid _:=T2;replace T3:Hid _:=T3;replace T4:Hid _:=T4;replace T5:Hid _:=T5;replace T6:Hid _:=T6;replace T7:Hid _:=T7;replace T8:Hid _:=T8;replace T9:Hid _:=T9;replace TA:Hid _:=TA;replace TB:Hid _:=TB;obtain⟨W4,a8,q1,q2,b3⟩:=iG w (yDL a E D) 48 [.bool false,yN,yi 0,.bool false,yN,yi 0] 54;replace a8:Hid _:=a8;have r6:=ra.l b3;clear ra
 go_enter func47,ntmps47
 go_upto_region 1 with fail
 rw[a8.out];clear a8;obtain⟨c7,c8,c9⟩:=q1.cs3
 go_wp2_with fail
 refine(T1.out _ b3 r6).mono ?_;rintro N ci ⟨rfl,Z⟩;have cs:=q1.l Z;have ct:=q2.l Z;have e7:=r6.l Z;have cl:=aa b3 Z;clear q1 q2 r6 b3 Z T1 c7 c8 c9
 go_upto_region 2 with fail
 have Y:yB ci ci.drew:=(Below.refl _ _).drew;have ad:=cs.l Y;have bc:=ct.l Y;have c3:=e7.l Y;have a6:=aa cl Y;clear cs ct e7 cl Y;refine wp_region_held_drew (S:=fun wq=>au wq w.heap.size 48 (yDL a E D)) (by kernel_rfl) ad (fun a3=> ?_)
 generalize ci.drew=gl at ad bc c3 a6 a3⊢;refine tq 0 (yDV a E D) rfl (fun _ fs=>fy 48 (.tmp 2) rfl w.heap.size 0 (by kernel_rfl) _ _ fs.range underlying48 rfl (by kernel_rfl)) a3 ?_
 refine tq 2 (yi g) rfl (fun _ _=>by kernel_rfl) a3 ?_
 refine tq 3 (yi j) rfl (fun _ _=>by go_simp) a3 ?_
 refine wpAnyH_ready (rs:=[1]) (by kernel_rfl) (by simp) ?_;refine AllReadyH.cons rfl (fun K Q=> ?_) AllReadyH.nil
 go_simp
 refine(T2.out _ a6).mono ?_;rintro N ha ⟨gz,rfl,c5,a0⟩;have bd:=ad.l a0;have cz:=bc.l a0;have ea:=c3.l a0;have co:=aa a6 a0;obtain⟨X,W,o⟩:=c5.shape;subst o;clear ad bc c3 a6 a0 T2;refine Q.out _ _ bd (fun fp=> ?_)
 clear Q K;refine wpAnyH_ready (rs:=[4]) (by kernel_rfl) (by simp) ?_;refine AllReadyH.cons rfl (fun K Q=> ?_) AllReadyH.nil
 go_simp
 refine(T3.out _ _ _).mono ?_;rintro N hd ⟨rfl,T⟩;have be:=bd.l T;have d0:=cz.l T;have ce:=ea.l T;have cg:=c5.l T;have b0:=aa co T;clear bd cz ea c5 co T T3;refine Q.out _ _ be (fun fr=> ?_)
 clear Q K;refine wpAnyH_ready (rs:=[5]) (by kernel_rfl) (by simp) ?_;refine AllReadyH.cons rfl (fun K Q=> ?_) AllReadyH.nil
 go_simp
 refine(T4.out _ _ _ b0 ce cg).mono ?_;rintro N he ⟨rfl,U⟩;have bf:=be.l U;have d1:=d0.l U;have eb:=ce.l U;have ed:=cg.l U;have cp:=aa b0 U;clear be d0 ce cg b0 U T4;refine Q.out _ _ bf (fun cr=> ?_)
 clear Q K;refine tq 6 (.bool true) rfl (fun _ _=>by go_simp) cr ?_
 refine wpAnyH_done (by kernel_rfl) ?_ _;clear a3 fp fr cr;simp only[Act.put,List.getElem_toArray,List.getElem_cons_succ,List.getElem_cons_zero,List.setIfInBounds_toArray,List.set_cons_zero,List.set_cons_succ];obtain⟨fl,fn,fo⟩:=bf.cs3
 go_wp2_with fail
 refine(T5.out _).mono ?_;rintro N hg ⟨rfl,a1⟩;have d2:=d1.l a1;have ch:=eb.l a1;have ee:=ed.l a1;have b1:=aa cp a1;clear bf d1 eb ed cp a1 T5 fl fn fo
 go_wp2_with fail
 refine(T6.out _ b1 ch).mono ?_;rintro N et ⟨h0,h6,rfl,c6,cc,a2⟩;have bg:=d2.l a2;have ef:=ch.l a2;have eg:=ee.l a2;have b2:=aa b1 a2;obtain⟨po,pc,o⟩:=c6.shape;subst o;obtain⟨qo,qc,o⟩:=cc.shape;subst o;clear d2 ch ee b1 a2 T6;obtain⟨gj,a9,d3,R⟩:=cA et [.bool p.s,yT po p.n pc,yi p.e,.bool q.s,yT qo q.n qc,yi q.e] 54;replace a9:Hid _:=a9;have gr:w.heap.size≤et.heap.size:=b2.size;have gv:=bg.lt;have d4:=bg.l R;have eh:=ef.l R;have ei:=eg.l R;have ej:=c6.l R;have ek:=cc.l R;have b4:=aa b2 R;clear bg ef eg c6 cc b2 R
 go_upto_region 5 with fail
 rw[a9.out];clear a9
 go_wp2_with fail
 refine(T7.out _ b4).mono ?_;rintro N hh ⟨h2,h7,rfl,ca,cd,O⟩;have d5:=d4.l O;have d6:=d3.l O;have el:=eh.l O;have em:=ei.l O;have en:=ej.l O;have ep:=ek.l O;have b5:=aa b4 O;obtain⟨uo,uc,o⟩:=ca.shape;subst o;obtain⟨vo,vc,o⟩:=cd.shape;subst o;clear d4 d3 eh ei ej ek b4 O T7
 go_wp2_with fail
 refine(T8.out _ b5).mono ?_;rintro N hi ⟨h3,h8,rfl,ar,ax,M⟩;have d7:=d5.l M;have d9:=d6.l M;have es:=el.l M;have da:=em.l M;have db:=en.l M;have dc:=ep.l M;have bh:=ca.l M;have bi:=cd.l M;have ay:=aa b5 M;obtain⟨zo,zc,o⟩:=ar.shape;subst o;obtain⟨io,ic,o⟩:=ax.shape;subst o;clear d5 d6 el em en ep ca cd b5 M T8
 go_wp2_with fail
 refine(T9.out _ _ _ _ _ _ _ _ _ ay bh bi ar ax).mono ?_;rintro N t ⟨gx,h4,rfl,c4,cb,G⟩;have b6:=d7.l G;have b7:=d9.l G;have dd:=es.l G;have dl:=da.l G;have dn:=db.l G;have dp:=dc.l G;have dq:=bh.l G;have ds:=bi.l G;have dt:=ar.l G;have dv:=ax.l G;have az:=aa ay G;obtain⟨I,H,o⟩:=c4.shape;subst o;obtain⟨L,J,o⟩:=cb.shape;subst o;clear d7 d9 es da db dc bh bi ar ax ay G T9;obtain⟨gi,a7,b8,B⟩:=cA t [.bool r.s,yT I r.n H,yi r.e,.bool s.s,yT L s.n J,yi s.e] 54;replace a7:Hid _:=a7;have gm:w.heap.size≤t.heap.size:=az.size;have gp:=b6.lt;have gq:=b7.lt;have cv:=b6.l B;have cw:=b7.l B;have dy:=dd.l B;have e0:=dl.l B;have e1:=dn.l B;have e2:=dp.l B;have e3:=dq.l B;have e4:=ds.l B;have e5:=dt.l B;have e6:=dv.l B;have e8:=c4.l B;have e9:=cb.l B;have ck:=aa az B;clear b6 b7 dd dl dn dp dq ds dt dv c4 cb az B
 go_upto_region 8 with fail
 rw[a7.out];clear a7;obtain⟨eu,ev,ex,ey,f0,f1⟩:=b8.cs6
 go_wp2_with fail
 refine(TA.out _ _ _ _ _).mono ?_;rintro N cj ⟨rfl,A⟩;have cx:=cv.l A;have cy:=cw.l A;have i:=b8.l A;have bj:=dy.l A;have bl:=e0.l A;have bm:=e1.l A;have bn:=e2.l A;have bo:=e3.l A;have bp:=e4.l A;have bq:=e5.l A;have bs:=e6.l A;have bt:=e8.l A;have bv:=e9.l A;have cm:=aa ck A;clear cv cw b8 dy e0 e1 e2 e3 e4 e5 e6 e8 e9 ck A TA eu ev ex ey f0 f1;have C:=(((((ag cj t.heap.size 0 (.bool (!s.s))).trans (ag _ t.heap.size 1 (yT L s.n J))).trans (ag _ t.heap.size 2 (yi s.e))).trans (ag _ t.heap.size 3 (.bool (!r.s)))).trans (ag _ t.heap.size 4 (yT I r.n H))).trans (ag _ t.heap.size 5 (yi r.e));have b9:au ((((((cj.setCell ⟨t.heap.size,0,none⟩ (.bool (!s.s))).setCell ⟨t.heap.size,1,none⟩ (yT L s.n J)).setCell ⟨t.heap.size,2,none⟩ (yi s.e)).setCell ⟨t.heap.size,3,none⟩ (.bool (!r.s))).setCell ⟨t.heap.size,4,none⟩ (yT I r.n H)).setCell ⟨t.heap.size,5,none⟩ (yi r.e)) t.heap.size 54 [.bool (!s.s),yT L s.n J,yi s.e,.bool (!r.s),yT I r.n H,yi r.e]:=((((((i.set 0 (.bool (!s.s))).set 1 (yT L s.n J)).set 2 (yi s.e)).set 3 (.bool (!r.s))).set 4 (yT I r.n H)).set 5 (yi r.e));have f2:=i.c 0 rfl;have g9:=i.f 0;have f3:=i.c 1 rfl;have ga:=i.f 1;have f4:=i.c 2 rfl;have gb:=i.f 2;have f5:=i.c 3 rfl;have gc:=i.f 3;have f6:=i.c 4 rfl;have gd:=i.f 4;have f7:=i.c 5 rfl;have gg:=i.f 5;have ba:=C.loc cx (by omega);have bb:=C.loc cy (by omega);have bw:=C.rd bj (aX bj i (by simp));have bx:=C.rd bl (aX bl i (by simp));have ae:=C.rd bm (aX bm i (by simp));have al:=C.rd bn (aX bn i (by simp));have bz:=C.rd bo (aX bo i (by simp));have c0:=C.rd bp (aX bp i (by simp));have c1:=C.rd bq (aX bq i (by simp));have c2:=C.rd bs (aX bs i (by simp));have an:=C.rd bt (aX bt i (by simp));have ap:=C.rd bv (aX bv i (by simp));have a5:=C.below cm (by omega);clear C
 go_upto_region 10 with fail
 generalize(((((cj.setCell ⟨t.heap.size,0,none⟩ (.bool (!s.s))).setCell ⟨t.heap.size,1,none⟩ (yT L s.n J)).setCell ⟨t.heap.size,2,none⟩ (yi s.e)).setCell ⟨t.heap.size,3,none⟩ (.bool (!r.s))).setCell ⟨t.heap.size,4,none⟩ (yT I r.n H)).setCell ⟨t.heap.size,5,none⟩ (yi r.e)=W191 at ba bb b9 bw bx ae al bz c0 c1 c2 an ap a5⊢;clear i cx cy bj bl bm bn bo bp bq bs bt bv cm f2 g9 f3 ga f4 gb f5 gc f6 gd f7 gg;obtain⟨f8,f9,fa,fb,fc,fd⟩:=bb.cs6;obtain⟨fe,ff,fg,fi,fj,fk⟩:=b9.cs6
 go_wp2_with fail
 refine(TB.out _ _ _ _ _ _ _ _ _ a5 ae al an ap).mono ?_;rintro N h9 ⟨gy,h5,rfl,aq,av,F⟩;have a4:=ba.l F;have ft:=bw.l F;have fv:=bx.l F;have fx:=ae.l F;have g0:=al.l F;have g1:=bz.l F;have g2:=c0.l F;have g3:=c1.l F;have g4:=c2.l F;have g5:=an.l F;have g6:=ap.l F;have cn:=aa a5 F;obtain⟨eo,ec,o⟩:=aq.shape;subst o;obtain⟨ho,hc,o⟩:=av.shape;subst o;clear ba bb b9 bw bx ae al bz c0 c1 c2 an ap a5 F TB f8 f9 fa fb fc fd fe ff fg fi fj fk;have hf:=fin6 (P:=Tryz.prog) a4 cn (by omega) underlying54 rfl (by kernel_rfl) (.bool e.s) (yT eo e.n ec) (yi e.e) (.bool h.s) (yT ho h.n hc) (yi h.e);have HH:Hid (_∧_∧_∧_):=⟨hf.1,hf.2.2.rd aq (aX aq a4 (by simp)),hf.2.2.rd av (aX av a4 (by simp)),hf.2.1⟩;obtain⟨⟨z0,z1,z2,z3,z4,z5⟩,y0,y1,y2,y3,y4,y5⟩:=csf6 a4;clear hf a4 ft fv fx g0 g1 g2 g3 g4 g5 g6 aq av cn
 go_wp2
 obtain⟨hl,g7,g8,bR⟩:=HH.out;exact bodyPost_ret (br results47 rfl hl) rfl ⟨_,_,rfl,g7,g8,bR⟩
end Go.Proofs.YthhiidikgchdeabGreatDoor
