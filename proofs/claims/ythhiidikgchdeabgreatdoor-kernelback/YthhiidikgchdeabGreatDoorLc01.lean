/- Texts laid together. -/
import Derived.Test.YthhiidikgchdeabGreatDoorChecked
import Derived.Test.YthhiidikgchdeabGreatDoorLb46
import Derived.Test.YthhiidikgchdeabGreatDoorDyCom
set_option maxRecDepth 100000
set_option maxHeartbeats 3200000
namespace Go.Proofs.YthhiidikgchdeabGreatDoor
open _root_.Go.Proofs.Tryz
open Go.RowKit
abbrev yEL (c:Int)(g:Bool)(t:ak)(o:Option Addr)(k:Nat):List Value:=[.int .i64 c,.bool g,.bool t.s,.slice o (Dg.dg 65536 t.n).length k,.int .i64 t.e]
abbrev yEV (c:Int)(g:Bool)(t:ak)(o:Option Addr)(k:Nat):Value:= .agg #[.int .i64 c,.bool g,.bool t.s,.slice o (Dg.dg 65536 t.n).length k,.int .i64 t.e]
abbrev yEA (c:Int)(g:Bool)(t:ak)(o:Option Addr)(k:Nat):Array Value:= #[.int .i64 c,.bool g,.bool t.s,.slice o (Dg.dg 65536 t.n).length k,.int .i64 t.e]
abbrev yML (t:ak)(o:Option Addr)(k:Nat):List Value:=[.bool t.s,.slice o (Dg.dg 65536 t.n).length k,.int .i64 t.e]
abbrev yMV (t:ak)(o:Option Addr)(k:Nat):Value:= .agg #[.bool t.s,.slice o (Dg.dg 65536 t.n).length k,.int .i64 t.e]
abbrev yMA (t:ak)(o:Option Addr)(k:Nat):Array Value:= #[.bool t.s,.slice o (Dg.dg 65536 t.n).length k,.int .i64 t.e]
abbrev yXL (c:Int)(g:Bool)(t:ak)(o:Option Addr)(k:Nat)(d:Int)(h:Bool)(s:ak)(p:Option Addr)(m:Nat):List Value:=[.int .i64 c,.bool g,.bool t.s,.slice o (Dg.dg 65536 t.n).length k,.int .i64 t.e,.int .i64 d,.bool h,.bool s.s,.slice p (Dg.dg 65536 s.n).length m,.int .i64 s.e]
theorem kBack_e0 (s:Bool)(c:Option Addr)(y v:Nat)(e:Int)(a b:ak)(k m n h:Int)(w:World)(U:IntKind.i64.wrap (20+m)=n)(S: ¬h=0)
  (f:yH w 5 #[] (.bool true))
  (g:yH w 6 #[yi k,yi 150] (yi m))
  (d: ∀z,yB w z→yC 14 #[ydV s (.slice c y v) e,yi n] z (BRd z a b h)):
  yC 4 #[ydV s (.slice c y v) e,yi k] w (yR w (.bool true)):=by
 replace f:Hid _:=f;replace g:Hid _:=g;replace d:Hid _:=d;obtain⟨R,j,q1,p⟩:=cA w (ydL s (.slice c y v) e) 25;replace j:Hid _:=j
 go_enter func4,ntmps4
 go_upto_region 1 with fail
 rw[j.out];clear j
 go_wp2_with fail
 refine(f.out _ p).mono ?_;rintro H Y ⟨rfl,u⟩;have D:=q1.l u;have r:=aa p u;clear q1 p u f
 go_wp2_with fail
 refine(g.out _ r).mono ?_;rintro H Z ⟨rfl,t⟩;have C:=D.l t;have o:=aa r t;clear D r t g;obtain⟨M,N,O⟩:=C.cs3
 go_wp2_with fail
 refine(d.out _ o).mono ?_;rintro H G ⟨W,X,rfl,E,F,B⟩;have q:=aa o B;obtain⟨c,I,x⟩:=E.shape;subst x;obtain⟨L,K,x⟩:=F.shape;subst x;clear C o B d M N O;obtain⟨Q,i,P,A⟩:=cA G [.bool a.s,yT c a.n I,yi a.e,.bool b.s,yT L b.n K,yi b.e] 29;replace i:Hid _:=i;have T:w.heap.size≤G.heap.size:=q.size;have J:=aa q A;clear E F q A P
 go_upto_region 5 with fail
 rw[i.out];clear i
 go_wp2
 go_ret
 exact⟨by simp,J⟩
theorem kBack_e1 (s:Bool)(g:Option Addr)(X W:Nat)(e:Int)(a b c z p q:ak)(k m n h i j l:Int)(w:World)(hn:IntKind.i64.wrap (20+m)=n)(hl:IntKind.i64.wrap (n+20)=l)(hh:h=0)(hi: ¬i=0)
  (v:yH w 5 #[] (.bool true))
  (x:yH w 6 #[yi k,yi 150] (yi m))
  (r: ∀d,yB w d→yC 14 #[ydV s (.slice g X W) e,yi n] d (BRd d a b h))
  (t: ∀g y d,yB w d→Rd d .u32 (yT g a.n y) (Dg.dg 4294967296 a.n)→yC 15 #[yDV a g y,yi l] d (BRd d c z i))
  (u: ∀E D d,yB w d→Rd d .u32 (yT E b.n D) (Dg.dg 4294967296 b.n)→yC 15 #[yDV b E D,yi l] d (BRd d p q j)):
  yC 4 #[ydV s (.slice g X W) e,yi k] w (yR w (.bool true)):=by
 replace v:Hid _:=v;replace x:Hid _:=x;replace r:Hid _:=r;replace t:Hid _:=t;replace u:Hid _:=u;obtain⟨W3,G,q1,M⟩:=cA w (ydL s (.slice g X W) e) 25;replace G:Hid _:=G
 go_enter func4,ntmps4
 go_upto_region 1 with fail
 rw[G.out];clear G
 go_wp2_with fail
 refine(v.out _ M).mono ?_;rintro K w5 ⟨rfl,U⟩;have q7:=q1.l U;have S:=aa M U;clear q1 M U v
 go_wp2_with fail
 refine(x.out _ S).mono ?_;rintro K w9 ⟨rfl,T⟩;have a4:=q7.l T;have L:=aa S T;clear q7 S T x;obtain⟨av,ax,ay⟩:=a4.cs3
 go_wp2_with fail
 refine(r.out _ L).mono ?_;rintro K an ⟨bh,bl,rfl,Z,a0,a2⟩;have N:=aa L a2;obtain⟨g,y,f⟩:=Z.shape;subst f;obtain⟨E,D,f⟩:=a0.shape;subst f;clear a4 L a2 r av ax ay;obtain⟨b9,F,o,A⟩:=cA an [.bool a.s,yT g a.n y,yi a.e,.bool b.s,yT E b.n D,yi b.e] 29;replace F:Hid _:=F;have bd:w.heap.size≤an.heap.size:=N.size;have a7:=Z.l A;have a8:=a0.l A;have O:=aa N A;clear Z a0 N A
 go_upto_region 5 with fail
 rw[F.out];clear F;have az:=o.c 0 rfl;have b0:=o.c 1 rfl;have b1:=o.c 2 rfl
 go_wp2_with fail
 refine(t.out _ _ _ O a7).mono ?_;rintro K ap ⟨bi,bm,rfl,a5,a9,C⟩;have Y:=o.l C;have ae:=a8.l C;have P:=aa O C;obtain⟨co,cc,f⟩:=a5.shape;subst f;obtain⟨zo,zc,f⟩:=a9.shape;subst f;clear o a7 a8 O C t az b0 b1;obtain⟨ba,H,b6,B⟩:=cA ap [.bool c.s,yT co c.n cc,yi c.e,.bool z.s,yT zo z.n zc,yi z.e] 29;replace H:Hid _:=H;have be:w.heap.size≤ap.heap.size:=P.size;have bf:=Y.lt;have J:=Y.l B;have al:=ae.l B;have Q:=aa P B;clear Y ae a5 a9 P B b6
 go_upto_region 8 with fail
 rw[H.out];clear H;have b3:=J.c 3 rfl;have b4:=J.c 4 rfl;have b5:=J.c 5 rfl
 go_wp2_with fail
 refine(u.out _ _ _ Q al).mono ?_;rintro K aq ⟨bj,bn,rfl,a6,ad,a3⟩;have R:=aa Q a3;obtain⟨po,pc,f⟩:=a6.shape;subst f;obtain⟨qo,qc,f⟩:=ad.shape;subst f;clear J al Q a3 u b3 b4 b5;obtain⟨bb,I,b7,a1⟩:=cA aq [.bool p.s,yT po p.n pc,yi p.e,.bool q.s,yT qo q.n qc,yi q.e] 29;replace I:Hid _:=I;have bg:w.heap.size≤aq.heap.size:=R.size;have ar:=aa R a1;clear a6 ad R a1 b7
 go_upto_region 9 with fail
 rw[I.out];clear I
 go_wp2
 go_ret
 exact⟨by simp,ar⟩
theorem kBack_e2 (s:Bool)(g:Option Addr)(X W:Nat)(e:Int)(a b c z p q:ak)(k m n h i j l:Int)(w:World)(hn:IntKind.i64.wrap (20+m)=n)(hl:IntKind.i64.wrap (n+20)=l)(hh:h=0)(hi:i=0)(hj: ¬j=0)
  (v:yH w 5 #[] (.bool true))
  (x:yH w 6 #[yi k,yi 150] (yi m))
  (r: ∀d,yB w d→yC 14 #[ydV s (.slice g X W) e,yi n] d (BRd d a b h))
  (t: ∀g y d,yB w d→Rd d .u32 (yT g a.n y) (Dg.dg 4294967296 a.n)→yC 15 #[yDV a g y,yi l] d (BRd d c z i))
  (u: ∀E D d,yB w d→Rd d .u32 (yT E b.n D) (Dg.dg 4294967296 b.n)→yC 15 #[yDV b E D,yi l] d (BRd d p q j)):
  yC 4 #[ydV s (.slice g X W) e,yi k] w (yR w (.bool true)):=by
 replace v:Hid _:=v;replace x:Hid _:=x;replace r:Hid _:=r;replace t:Hid _:=t;replace u:Hid _:=u;obtain⟨W3,G,q1,M⟩:=cA w (ydL s (.slice g X W) e) 25;replace G:Hid _:=G
 go_enter func4,ntmps4
 go_upto_region 1 with fail
 rw[G.out];clear G
 go_wp2_with fail
 refine(v.out _ M).mono ?_;rintro K w5 ⟨rfl,U⟩;have q7:=q1.l U;have S:=aa M U;clear q1 M U v
 go_wp2_with fail
 refine(x.out _ S).mono ?_;rintro K w9 ⟨rfl,T⟩;have a4:=q7.l T;have L:=aa S T;clear q7 S T x;obtain⟨av,ax,ay⟩:=a4.cs3
 go_wp2_with fail
 refine(r.out _ L).mono ?_;rintro K an ⟨bh,bl,rfl,Z,a0,a2⟩;have N:=aa L a2;obtain⟨g,y,f⟩:=Z.shape;subst f;obtain⟨E,D,f⟩:=a0.shape;subst f;clear a4 L a2 r av ax ay;obtain⟨b9,F,o,A⟩:=cA an [.bool a.s,yT g a.n y,yi a.e,.bool b.s,yT E b.n D,yi b.e] 29;replace F:Hid _:=F;have bd:w.heap.size≤an.heap.size:=N.size;have a7:=Z.l A;have a8:=a0.l A;have O:=aa N A;clear Z a0 N A
 go_upto_region 5 with fail
 rw[F.out];clear F;have az:=o.c 0 rfl;have b0:=o.c 1 rfl;have b1:=o.c 2 rfl
 go_wp2_with fail
 refine(t.out _ _ _ O a7).mono ?_;rintro K ap ⟨bi,bm,rfl,a5,a9,C⟩;have Y:=o.l C;have ae:=a8.l C;have P:=aa O C;obtain⟨co,cc,f⟩:=a5.shape;subst f;obtain⟨zo,zc,f⟩:=a9.shape;subst f;clear o a7 a8 O C t az b0 b1;obtain⟨ba,H,b6,B⟩:=cA ap [.bool c.s,yT co c.n cc,yi c.e,.bool z.s,yT zo z.n zc,yi z.e] 29;replace H:Hid _:=H;have be:w.heap.size≤ap.heap.size:=P.size;have bf:=Y.lt;have J:=Y.l B;have al:=ae.l B;have Q:=aa P B;clear Y ae a5 a9 P B b6
 go_upto_region 8 with fail
 rw[H.out];clear H;have b3:=J.c 3 rfl;have b4:=J.c 4 rfl;have b5:=J.c 5 rfl
 go_wp2_with fail
 refine(u.out _ _ _ Q al).mono ?_;rintro K aq ⟨bj,bn,rfl,a6,ad,a3⟩;have R:=aa Q a3;obtain⟨po,pc,f⟩:=a6.shape;subst f;obtain⟨qo,qc,f⟩:=ad.shape;subst f;clear J al Q a3 u b3 b4 b5;obtain⟨bb,I,b7,a1⟩:=cA aq [.bool p.s,yT po p.n pc,yi p.e,.bool q.s,yT qo q.n qc,yi q.e] 29;replace I:Hid _:=I;have bg:w.heap.size≤aq.heap.size:=R.size;have ar:=aa R a1;clear a6 ad R a1 b7
 go_upto_region 9 with fail
 rw[I.out];clear I
 go_wp2
 go_ret
 exact⟨by simp,ar⟩
theorem kBack_W (s:Bool)(A:Option Addr)(la ca:Nat)(e:Int)(a b c z p q u x y:ak)(k m n h i j l f g:Int)(w:World)(hn:IntKind.i64.wrap (20+m)=n)(hl:IntKind.i64.wrap (n+20)=l)(hh:h=0)(hi:i=0)(hj:j=0)(hf:f≤0)(hg:g≤0)
  (HB:yH w 5 #[] (.bool true))
  (HC:yH w 6 #[yi k,yi 150] (yi m))
  (H1: ∀d,yB w d→yC 14 #[ydV s (.slice A la ca) e,yi n] d (BRd d a b h))
  (H2: ∀A ac d,yB w d→Rd d .u32 (yT A a.n ac) (Dg.dg 4294967296 a.n)→yC 15 #[yDV a A ac,yi l] d (BRd d c z i))
  (H3: ∀bo bc d,yB w d→Rd d .u32 (yT bo b.n bc) (Dg.dg 4294967296 b.n)→yC 15 #[yDV b bo bc,yi l] d (BRd d p q j))
  (H4: ∀d,yB w d→yC 16 #[ydV s (.slice A la ca) e] d (dr d u))
  (H5: ∀N M d,yB w d→Rd d .u32 (yT N c.n M) (Dg.dg 4294967296 c.n)→yC 16 #[yDV c N M] d (dr d x))
  (H6: ∀xo xc v t d,yB w d→Rd d .i64 (yS xo x.n xc) (Dg.dg 65536 x.n)→Rd d .i64 (yS v u.n t) (Dg.dg 65536 u.n)→yC 17 #[yMV x xo xc,yMV u v t] d (yR d (yi f)))
  (H7: ∀Q P d,yB w d→Rd d .u32 (yT Q q.n P) (Dg.dg 4294967296 q.n)→yC 16 #[yDV q Q P] d (dr d y))
  (H8: ∀v t yo yc d,yB w d→Rd d .i64 (yS v u.n t) (Dg.dg 65536 u.n)→Rd d .i64 (yS yo y.n yc) (Dg.dg 65536 y.n)→yC 17 #[yMV u v t,yMV y yo yc] d (yR d (yi g))):
  yC 4 #[ydV s (.slice A la ca) e,yi k] w (yR w (.bool true)):=by
 replace HB:Hid _:=HB;replace HC:Hid _:=HC;replace H1:Hid _:=H1;replace H2:Hid _:=H2;replace H3:Hid _:=H3;replace H4:Hid _:=H4;replace H5:Hid _:=H5;replace H6:Hid _:=H6;replace H7:Hid _:=H7;replace H8:Hid _:=H8;obtain⟨W3,a5,q1,b2⟩:=cA w (ydL s (.slice A la ca) e) 25;replace a5:Hid _:=a5
 go_enter func4,ntmps4
 go_upto_region 1 with fail
 rw[a5.out];clear a5
 go_wp2_with fail
 refine(HB.out _ b2).mono ?_;rintro B w5 ⟨rfl,b7⟩;have q7:=q1.l b7;have b8:=aa b2 b7;clear q1 b2 b7 HB
 go_wp2_with fail
 refine(HC.out _ b8).mono ?_;rintro B w9 ⟨rfl,b5⟩;have b9:=q7.l b5;have ap:=aa b8 b5;clear q7 b8 b5 HC;obtain⟨d7,d9,da⟩:=b9.cs3
 go_wp2_with fail
 refine(H1.out _ ap).mono ?_;rintro B d5 ⟨ek,eo,rfl,c1,c4,b6⟩;have bl:=b9.l b6;have ax:=aa ap b6;obtain⟨A,ac,o⟩:=c1.shape;subst o;obtain⟨bo,bc,o⟩:=c4.shape;subst o;clear b9 ap b6 H1 d7 d9 da;obtain⟨e3,a4,Y,R⟩:=cA d5 [.bool a.s,yT A a.n ac,yi a.e,.bool b.s,yT bo b.n bc,yi b.e] 29;replace a4:Hid _:=a4;have ea:w.heap.size≤d5.heap.size:=ax.size;have eb:=bl.lt;have c9:=bl.l R;have cv:=c1.l R;have cw:=c4.l R;have ay:=aa ax R;clear bl c1 c4 ax R
 go_upto_region 5 with fail
 rw[a4.out];clear a4;have db:=Y.c 0 rfl;have dc:=Y.c 1 rfl;have dd:=Y.c 2 rfl
 go_wp2_with fail
 refine(H2.out _ _ _ ay cv).mono ?_;rintro B Z ⟨el,ep,rfl,c2,ct,U⟩;have bm:=c9.l U;have bn:=Y.l U;have cx:=cw.l U;have az:=aa ay U;obtain⟨N,M,o⟩:=c2.shape;subst o;obtain⟨zo,zc,o⟩:=ct.shape;subst o;clear c9 Y cv cw ay U H2 db dc dd;obtain⟨e4,a6,cb,H⟩:=cA Z [.bool c.s,yT N c.n M,yi c.e,.bool z.s,yT zo z.n zc,yi z.e] 29;replace a6:Hid _:=a6;have ec:w.heap.size≤Z.heap.size:=az.size;have ed:=bm.lt;have ee:=bn.lt;have cd:=bm.l H;have al:=bn.l H;have cy:=cx.l H;have cz:=c2.l H;have b0:=aa az H;clear bm bn cx c2 ct az H
 go_upto_region 8 with fail
 rw[a6.out];clear a6;have dl:=al.c 3 rfl;have dn:=al.c 4 rfl;have dp:=al.c 5 rfl
 go_wp2_with fail
 refine(H3.out _ _ _ b0 cy).mono ?_;rintro B a0 ⟨em,es,rfl,cs,c5,W⟩;have bp:=cd.l W;have bq:=cb.l W;have d0:=cz.l W;have b1:=aa b0 W;obtain⟨po,pc,o⟩:=cs.shape;subst o;obtain⟨Q,P,o⟩:=c5.shape;subst o;clear cd al cb cy cz b0 W H3 dl dn dp;obtain⟨e5,a7,ce,I⟩:=cA a0 [.bool p.s,yT po p.n pc,yi p.e,.bool q.s,yT Q q.n P,yi q.e] 29;replace a7:Hid _:=a7;have ef:w.heap.size≤a0.heap.size:=b1.size;have eg:=bp.lt;have eh:=bq.lt;have cg:=bp.l I;have ch:=bq.l I;have d1:=d0.l I;have d2:=c5.l I;have b3:=aa b1 I;clear bp bq d0 cs c5 b1 I
 go_upto_region 9 with fail
 rw[a7.out];clear a7;obtain⟨dq,ds,dt⟩:=cg.cs3
 go_wp2_with fail
 refine(H4.out _ b3).mono ?_;rintro B a1 ⟨en,rfl,c3,L⟩;have bs:=ch.l L;have bt:=ce.l L;have d3:=d1.l L;have d4:=d2.l L;have b4:=aa b3 L;obtain⟨v,t,o⟩:=c3.shape;subst o;clear cg ch ce d1 d2 b3 L H4 dq ds dt;obtain⟨an,a8,ci,D⟩:=cA a1 (yML u v t) 43;replace a8:Hid _:=a8;have e7:w.heap.size≤a1.heap.size:=b4.size;have e8:=bs.lt;have e9:=bt.lt;have c7:=bs.l D;have c8:=bt.l D;have cj:=d3.l D;have ck:=d4.l D;have cl:=c3.l D;have c6:=aa b4 D;clear bs bt d3 d4 c3 b4 D
 go_upto_region 12 with fail
 rw[a8.out];clear a8
 go_upto_region 12 with fail
 have C:yB an an.drew:=(Below.refl _ _).drew;have a9:=c7.l C;have ad:=c8.l C;have ae:=ci.l C;have bu:=cj.l C;have bv:=ck.l C;have bw:=cl.l C;have a2:=aa c6 C;clear c7 c8 ci cj ck cl c6 C;refine wp_region_held_drew (S:=fun wq=>au wq Z.heap.size 29 [.bool c.s,yT N c.n M,yi c.e,.bool z.s,yT zo z.n zc,yi z.e]∧au wq a0.heap.size 29 [.bool p.s,yT po p.n pc,yi p.e,.bool q.s,yT Q q.n P,yi q.e]∧au wq a1.heap.size 43 (yML u v t)) (by kernel_rfl) ⟨a9,ad,ae⟩ (fun X=> ?_)
 generalize an.drew=e6 at a9 ad ae bu bv bw a2 X⊢;refine tq 0 (.pointer (some ⟨Z.heap.size,0,none⟩)) rfl (fun _ _=>by kernel_rfl) X ?_
 refine tq 1 (yDV c N M) rfl (fun _ G=>fy 25 (.tmp 48) rfl Z.heap.size 0 (by kernel_rfl) _ _ (kY G.1 0 3 rfl) underlying25 rfl (by kernel_rfl)) X ?_
 refine tq 3 (yMV u v t) rfl (fun _ G=>fy 43 (.tmp 10) rfl a1.heap.size 0 (by kernel_rfl) _ _ G.2.2.range underlying43 rfl (by kernel_rfl)) X ?_
 refine wpAnyH_ready (rs:=[2]) (by kernel_rfl) (by simp) ?_;refine AllReadyH.cons rfl (fun K r=> ?_) AllReadyH.nil
 go_simp
 refine(H5.out _ _ _ a2 bu).mono ?_;rintro B et ⟨ei,rfl,bz,E⟩;have ba:=a9.l E;have bb:=ad.l E;have bd:=ae.l E;have cm:=bv.l E;have bx:=bw.l E;have aq:=aa a2 E;obtain⟨xo,xc,o⟩:=bz.shape;subst o;clear a9 ad ae bu bv bw a2 E H5;refine r.out _ _ ⟨ba,bb,bd⟩ (fun dv=> ?_)
 clear r K;refine wpAnyH_ready (rs:=[4]) (by kernel_rfl) (by simp) ?_;refine AllReadyH.cons rfl (fun K r=> ?_) AllReadyH.nil
 go_simp
 refine(H6.out _ _ _ _ _ aq bz bx).mono ?_;rintro B eu ⟨rfl,F⟩;have be:=ba.l F;have bf:=bb.l F;have bg:=bd.l F;have cn:=cm.l F;have cp:=bx.l F;have ar:=aa aq F;clear ba bb bd cm bx bz aq F H6;refine r.out _ _ ⟨be,bf,bg⟩ (fun O=> ?_)
 clear r K;refine tq 5 (.bool true) rfl (fun _ _=>by go_simp) O ?_
 refine tq 6 (.bool true) rfl (fun _ _=>by kernel_rfl) O ?_
 refine tq 7 (yMV u v t) rfl (fun _ G=>fy 43 (.tmp 10) rfl a1.heap.size 0 (by kernel_rfl) _ _ G.2.2.range underlying43 rfl (by kernel_rfl)) O ?_
 refine tq 8 (.pointer (some ⟨a0.heap.size,3,none⟩)) rfl (fun _ _=>by kernel_rfl) O ?_
 refine tq 9 (yDV q Q P) rfl (fun _ G=>fy 25 (.tmp 56) rfl a0.heap.size 3 (by kernel_rfl) _ _ (kY G.2.1 3 3 rfl) underlying25 rfl (by kernel_rfl)) O ?_
 refine wpAnyH_ready (rs:=[10]) (by kernel_rfl) (by simp) ?_;refine AllReadyH.cons rfl (fun K r=> ?_) AllReadyH.nil
 go_simp
 refine(H7.out _ _ _ ar cn).mono ?_;rintro B ev ⟨ej,rfl,c0,J⟩;have bh:=be.l J;have bi:=bf.l J;have bj:=bg.l J;have cr:=cp.l J;have av:=aa ar J;obtain⟨yo,yc,o⟩:=c0.shape;subst o;clear be bf bg cn cp ar J H7;refine r.out _ _ ⟨bh,bi,bj⟩ (fun dy=> ?_)
 clear r K;refine wpAnyH_ready (rs:=[11]) (by kernel_rfl) (by simp) ?_;refine AllReadyH.cons rfl (fun K r=> ?_) AllReadyH.nil
 go_simp
 refine(H8.out _ _ _ _ _ av cr c0).mono ?_;rintro B ex ⟨rfl,T⟩;have e0:=bh.l T;have e1:=bi.l T;have e2:=bj.l T;have d6:=aa av T;clear bh bi bj cr c0 av T H8;refine r.out _ _ ⟨e0,e1,e2⟩ (fun a3=> ?_)
 clear r K;refine tq 12 (.bool true) rfl (fun _ _=>by go_simp) a3 ?_
 refine tq 13 (.bool true) rfl (fun _ _=>by kernel_rfl) a3 ?_
 refine tq 14 (.bool true) rfl (fun _ _=>by kernel_rfl) a3 ?_
 refine wpAnyH_done (by kernel_rfl) ?_ _;clear X dv O dy a3;simp only[Act.put,List.getElem_toArray,List.getElem_cons_succ,List.getElem_cons_zero,List.setIfInBounds_toArray,List.set_cons_zero,List.set_cons_succ]
 go_wp2
 go_ret
 exact⟨by simp,d6⟩
end Go.Proofs.YthhiidikgchdeabGreatDoor
