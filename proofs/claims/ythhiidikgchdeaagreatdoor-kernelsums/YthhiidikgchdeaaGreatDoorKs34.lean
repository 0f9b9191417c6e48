/- Texts laid together. -/
import Derived.Test.YthhiidikgchdeaaGreatDoorKs17
import Derived.Test.YthhiidikgchdeaaGreatDoorKs29
import Derived.Test.YthhiidikgchdeaaGreatDoorKs30
set_option maxRecDepth 100000
set_option maxHeartbeats 3200000
namespace Go.Proofs.YthhiidikgchdeaaGreatDoor
open _root_.Go.Proofs.Tryz
open Go.RowKit
theorem kI (b c:Value)(xs a:List Nat)(w:World)(g:Rd w .i64 b xs)(h:Rd w .i64 c a)(l:Dg.Small 65536 xs)(m:Dg.Small 65536 a)(i:xs.length≤2000000)(j:a.length≤xs.length)(k:Dg.vl 65536 a≤Dg.vl 65536 xs):
  yC 88 #[b,c] w (cG w (Dg.vl 65536 xs-Dg.vl 65536 a)):=
 (Lt b c xs a w g h l m i j k).mono fun _ _ ⟨v,d,e,_,f⟩=>⟨v,d,e,f⟩
theorem di.hid {B:Nat}{w:World}{t:ak}{e:Ending}{w':World}(i:B≤w.heap.size)(h:di w t e w'):Xi B w t e w':=by
 obtain⟨s,b,d,f,g⟩:=h;exact⟨s,b,d,g,(fun a n c h=>Nat.le_trans i (f a n c h):Far B s)⟩
abbrev refDP_geq:=refDP_geq_mg.1
abbrev refDP_less:=refDP_geq_mg.2
theorem part_W (a b:ak)(F H:Option Addr)(E G:Nat)(x y u v:ak)(t o k:Int)(w:World)
  (O: ∀M L J d,yB w d→au d M 3 [yi t]→au d L 3 [yi o]→au d J 3 [yi k]→yC 157 #[yDV a F E,.pointer (some ⟨M,0,none⟩),.pointer (some ⟨L,0,none⟩),.pointer (some ⟨J,0,none⟩)] d (Lx d x))
  (Q: ∀M L J d,yB w d→au d M 3 [yi t]→au d L 3 [yi o]→au d J 3 [yi k]→yC 157 #[yDV b H G,.pointer (some ⟨M,0,none⟩),.pointer (some ⟨L,0,none⟩),.pointer (some ⟨J,0,none⟩)] d (Lx d y))
  (R: ∀xo xc yo yc d,yB w d→Rd d .u32 (yT xo x.n xc) (Dg.dg 4294967296 x.n)→Rd d .u32 (yT yo y.n yc) (Dg.dg 4294967296 y.n)→yC 69 #[.agg #[.bool x.s,yT xo x.n xc,yi x.e,.bool y.s,yT yo y.n yc,yi y.e],yi k] d (aeT d u v)):
  yC 128 #[.agg #[.bool a.s,yT F a.n E,yi a.e,.bool b.s,yT H b.n G,yi b.e],yi t,yi o,yi k] w (aeT w u v):=by
 replace O:Hid _:=O;replace Q:Hid _:=Q;replace R:Hid _:=R;obtain⟨W7,U,q1,q2,q3,q4,q5,b6⟩:=ent5 w [.bool a.s,yT F a.n E,yi a.e,.bool b.s,yT H b.n G,yi b.e] 49 [yi t] 3 [yi o] 3 [yi k] 3 [.bool false,yN,yi 0,.bool false,yN,yi 0] 49;replace U:Hid _:=U
 go_enter func128,ntmps128
 go_upto_region 1 with fail
 rw[U.out];clear U
 go_upto_region 2 with fail
 have i:yB W7 W7.drew:=(Below.refl _ _).drew;have W:=q1.l i;have X:=q2.l i;have Y:=q3.l i;have N:=q4.l i;have a5:=q5.l i;have T:=aa b6 i;clear q1 q2 q3 q4 q5 b6 i;refine wp_region_held_drew (S:=fun wq=>au wq w.heap.size 49 [.bool a.s,yT F a.n E,yi a.e,.bool b.s,yT H b.n G,yi b.e]∧au wq (w.heap.size+1+1+1) 3 [yi k]) (by kernel_rfl) ⟨W,N⟩ (fun g=> ?_)
 generalize W7.drew=bf at W X Y N a5 T g⊢;refine tq 0 (.func (.func 157) #[] #[.pointer (some ⟨w.heap.size+1,0,none⟩),.pointer (some ⟨w.heap.size+1+1,0,none⟩),.pointer (some ⟨w.heap.size+1+1+1,0,none⟩)]) rfl (fun _ _=>by kernel_rfl) g ?_
 refine tq 1 (.pointer (some ⟨w.heap.size,0,none⟩)) rfl (fun _ _=>by kernel_rfl) g ?_
 refine tq 2 (yDV a F E) rfl (fun _ I=>fy 41 (.tmp 12) rfl w.heap.size 0 (by kernel_rfl) _ _ (kY I.1 0 3 rfl) underlying41 rfl (by kernel_rfl)) g ?_
 refine tq 4 (.func (.func 157) #[] #[.pointer (some ⟨w.heap.size+1,0,none⟩),.pointer (some ⟨w.heap.size+1+1,0,none⟩),.pointer (some ⟨w.heap.size+1+1+1,0,none⟩)]) rfl (fun _ _=>by kernel_rfl) g ?_
 refine tq 5 (.pointer (some ⟨w.heap.size,3,none⟩)) rfl (fun _ _=>by kernel_rfl) g ?_
 refine tq 6 (yDV b H G) rfl (fun _ I=>fy 41 (.tmp 16) rfl w.heap.size 3 (by kernel_rfl) _ _ (kY I.1 3 3 rfl) underlying41 rfl (by kernel_rfl)) g ?_
 refine tq 9 (yi k) rfl (fun _ I=>gU 3 (.tmp 7) rfl (w.heap.size+1+1+1) 0 (by kernel_rfl) _ _ underlying3 rfl (I.2.c 0 rfl)) g ?_
 refine wpAnyH_ready (rs:=[3]) (by kernel_rfl) (by simp) ?_;refine AllReadyH.cons rfl (fun K f=> ?_) AllReadyH.nil
 go_simp
 refine(O.out _ _ _ _ T X Y N).mono ?_;rintro zz bl ⟨bg,rfl,ae,j⟩;have a6:=W.l j;have ay:=X.l j;have az:=Y.l j;have Z:=N.l j;have b0:=a5.l j;have a3:=aa T j;obtain⟨xo,xc,p⟩:=ae.shape;subst p;clear W X Y N a5 T j O;refine f.out _ _ ⟨a6,Z⟩ (fun b8=> ?_)
 clear f K;refine wpAnyH_ready (rs:=[7]) (by kernel_rfl) (by simp) ?_;refine AllReadyH.cons rfl (fun K f=> ?_) AllReadyH.nil
 go_simp
 refine(Q.out _ _ _ _ a3 ay az Z).mono ?_;rintro zz bm ⟨bh,rfl,a0,C⟩;have a7:=a6.l C;have a8:=Z.l C;have b1:=b0.l C;have al:=ae.l C;have a4:=aa a3 C;obtain⟨yo,yc,p⟩:=a0.shape;subst p;clear a6 ay az Z b0 ae a3 C Q;refine f.out _ _ ⟨a7,a8⟩ (fun av=> ?_)
 clear f K;refine tq 8 (.agg #[.bool x.s,yT xo x.n xc,yi x.e,.bool y.s,yT yo y.n yc,yi y.e]) rfl (fun _ _=>by kernel_rfl) av ?_
 refine wpAnyH_ready (rs:=[10]) (by kernel_rfl) (by simp) ?_;refine AllReadyH.cons rfl (fun K f=> ?_) AllReadyH.nil
 go_simp
 refine(R.out _ _ _ _ _ a4 al a0).mono ?_;rintro zz D ⟨bi,bj,rfl,a1,a2,m⟩;have a9:=a7.l m;have ad:=a8.l m;have q:=b1.l m;have an:=al.l m;have ap:=a0.l m;have aq:=aa a4 m;obtain⟨z,r,p⟩:=a1.shape;subst p;obtain⟨B,A,p⟩:=a2.shape;subst p;clear a7 a8 b1 al a0 a4 m R;refine f.out _ _ ⟨a9,ad⟩ (fun b9=> ?_)
 clear f K;refine wpAnyH_ready (rs:=[11]) (by kernel_rfl) (by simp) ?_;refine AllReadyH.cons rfl (fun K f=> ?_) AllReadyH.nil
 have h:But (w.heap.size+1+1+1+1) D (D.setCells (w.heap.size+1+1+1+1) 0 [.bool u.s,yT z u.n r,yi u.e,.bool v.s,yT B v.n A,yi v.e]):=de _ _ _ _;have ax:D.there (w.heap.size+1+1+1+1) 0 6:=dD q;have b2:au (D.setCells (w.heap.size+1+1+1+1) 0 [.bool u.s,yT z u.n r,yi u.e,.bool v.s,yT B v.n A,yi v.e]) (w.heap.size+1+1+1+1) 49 [.bool u.s,yT z u.n r,yi u.e,.bool v.s,yT B v.n A,yi v.e]:=q.sets _ rfl;have bb:=h.rd an (aX an q (by simp));have bd:=h.rd ap (aX ap q (by simp));have b5:=h.rd a1 (aX a1 q (by simp));have b7:=h.rd a2 (aX a2 q (by simp));have b3:=h.loc a9 (by omega);have b4:=h.loc ad (by omega);have ar:=h.below aq (by omega);rw[if_pos (by kernel_rfl)];refine wp_store_mid 49 (.tmp 8) (.tmp 21) rfl (w.heap.size+1+1+1+1) 0 #[.bool u.s,yT z u.n r,yi u.e,.bool v.s,yT B v.n A,yi v.e] (by kernel_rfl) (by kernel_rfl) ax (by kernel_rfl) (by simp[Value.oneCell']) ?_;refine f.out _ _ ⟨b3,b4⟩ (fun ba=> ?_)
 clear f K;clear q an ap a1 a2 a9 ad aq h ax;refine wpAnyH_done (by kernel_rfl) ?_ _;clear g b8 av b9 ba;change Exit.then _ _ _ _ (World.setCells D (w.heap.size+1+1+1+1) 0 [.bool u.s,yT z u.n r,yi u.e,.bool v.s,yT B v.n A,yi v.e]);generalize World.setCells D (w.heap.size+1+1+1+1) 0 [.bool u.s,yT z u.n r,yi u.e,.bool v.s,yT B v.n A,yi v.e]=be at b3 b4 b2 bb bd b5 b7 ar⊢;simp only[Act.put,List.getElem_toArray,List.getElem_cons_succ,List.getElem_cons_zero];have hl:=run_loadVar_mid (P:=Tryz.prog) _ (w.heap.size+1+1+1+1) 0 49 [.bool u.s,yT z u.n r,yi u.e,.bool v.s,yT B v.n A,yi v.e] _ b2.range underlying49 rfl (by kernel_rfl)
 go_wp2
 exact bodyPost_ret (br results128 rfl hl) rfl ⟨_,_,rfl,b5,b7,ar⟩
theorem exp_neg (a:ak)(H:Option Addr)(G:Nat)(x y p q c u v:ak)(n:Nat)(k e f:Int)(w:World)(ra:Rd w .u32 (yT H a.n G) (Dg.dg 4294967296 a.n))(hn:IntKind.i64.wrap n=(n:Int))
  (T:yJ 21 #[ydV true (yT H a.n G) a.e] (ydV false (yT H a.n G) a.e))
  (U: ∀b,yB w b→Rd b .u32 (yT H a.n G) (Dg.dg 4294967296 a.n)→yC 73 #[ydV false (yT H a.n G) a.e,yi k,.func (.func 74) #[] #[]] b (KRd b n x y))
  (W: ∀xo xc yo yc b,yB w b→Rd b .u32 (yT xo x.n xc) (Dg.dg 4294967296 x.n)→Rd b .u32 (yT yo y.n yc) (Dg.dg 4294967296 y.n)→yC 75 #[.agg #[.bool x.s,yT xo x.n xc,yi x.e,.bool y.s,yT yo y.n yc,yi y.e],yi k,.func (.func 76) #[] #[]] b (aeT b p q))
  (X: ∀no nc b,yB w b→Rd b .u32 (yT no n nc) (Dg.dg 4294967296 n)→yC 78 #[yT no n nc] b (yR b (.int .u64 n)))
  (Y: ∀A z C B b,yC 77 #[.agg #[.bool p.s,yT A p.n z,yi p.e,.bool q.s,yT C q.n B,yi q.e],yi n] b (yR b (.agg #[.bool p.s,yT A p.n z,yi e,.bool q.s,yT C q.n B,yi f])))
  (H6: ∀b,yB w b→yC 25 #[yi 1] b (aeT b c c))
  (H7: ∀co cc zo zc A z C B b,yB w b→Rd b .u32 (yT co c.n cc) (Dg.dg 4294967296 c.n)→Rd b .u32 (yT zo c.n zc) (Dg.dg 4294967296 c.n)→Rd b .u32 (yT A p.n z) (Dg.dg 4294967296 p.n)→Rd b .u32 (yT C q.n B) (Dg.dg 4294967296 q.n)→yC 79 #[.agg #[.bool c.s,yT co c.n cc,yi c.e,.bool c.s,yT zo c.n zc,yi c.e],.agg #[.bool p.s,yT A p.n z,yi e,.bool q.s,yT C q.n B,yi f],yi k] b (aeT b u v)):
  yC 29 #[ydV true (yT H a.n G) a.e,yi k] w (aeT w u v):=by
 replace T:Hid _:=T;replace U:Hid _:=U;replace W:Hid _:=W;replace X:Hid _:=X;replace Y:Hid _:=Y;replace H6:Hid _:=H6;replace H7:Hid _:=H7;obtain⟨W4,a2,q1,q2,b3⟩:=iG w (ydL true (yT H a.n G) a.e) 41 [.bool false,yN,yi 0,.bool false,yN,yi 0] 49;replace a2:Hid _:=a2;have r6:=ra.l b3;clear ra
 go_enter func29,ntmps29
 go_upto_region 1 with fail
 rw[a2.out];clear a2;obtain⟨c7,c8,c9⟩:=q1.cs3
 go_wp2_with fail
 refine(T.out _).mono ?_;rintro O f4 ⟨rfl,Q⟩;have c3:=q1.l Q;have c4:=q2.l Q;have bh:=r6.l Q;have al:=aa b3 Q;clear q1 q2 r6 b3 Q T c7 c8 c9
 go_wp2_with fail
 refine(U.out _ al bh).mono ?_;rintro O dv ⟨ev,f1,f3,rfl,bm,bo,bs,R⟩;have az:=c3.l R;have b0:=c4.l R;have cv:=bh.l R;have an:=aa al R;obtain⟨no,nc,d⟩:=bm.shape;subst d;obtain⟨xo,xc,d⟩:=bo.shape;subst d;obtain⟨yo,yc,d⟩:=bs.shape;subst d;clear c3 c4 bh al R U;obtain⟨ej,a1,ca,D⟩:=cA dv [.bool x.s,yT xo x.n xc,yi x.e,.bool y.s,yT yo y.n yc,yi y.e] 49;replace a1:Hid _:=a1;have el:w.heap.size≤dv.heap.size:=an.size;have em:=az.lt;have en:=b0.lt;have cb:=az.l D;have cd:=b0.l D;have cw:=cv.l D;have cx:=bm.l D;have bq:=bo.l D;have bt:=bs.l D;have ap:=aa an D;clear az b0 cv bm bo bs an D
 go_upto_region 2 with fail
 rw[a1.out];clear a1;obtain⟨dy,e0,e1,e2,e3,e4⟩:=ca.cs6
 go_wp2_with fail
 refine(W.out _ _ _ _ _ ap bq bt).mono ?_;rintro O f6 ⟨ex,f2,rfl,bn,bp,E⟩;have ce:=cb.l E;have cg:=cd.l E;have cy:=cw.l E;have bv:=cx.l E;have cz:=bq.l E;have d0:=bt.l E;have aq:=aa ap E;obtain⟨A,z,d⟩:=bn.shape;subst d;obtain⟨C,B,d⟩:=bp.shape;subst d;clear cb cd ca cw cx bq bt ap E W dy e0 e1 e2 e3 e4
 go_wp2_with fail
 refine(X.out _ _ _ aq bv).mono ?_;rintro O f7 ⟨rfl,r⟩;have ch:=ce.l r;have ci:=cg.l r;have d1:=cy.l r;have d2:=bv.l r;have d3:=cz.l r;have d4:=d0.l r;have d5:=bn.l r;have d6:=bp.l r;have bz:=aa aq r;clear ce cg cy bv cz d0 bn bp aq r X
 go_wp2_with fail
 refine(Y.out _ _ _ _ _).mono ?_;rintro O a9 ⟨rfl,t⟩;have b1:=ch.l t;have b2:=ci.l t;have d7:=d1.l t;have d9:=d2.l t;have da:=d3.l t;have db:=d4.l t;have dc:=d5.l t;have dd:=d6.l t;have ar:=aa bz t;clear ch ci d1 d2 d3 d4 d5 d6 bz t Y;obtain⟨ad,a3,cj,j⟩:=cA a9 [.bool p.s,yT A p.n z,yi e,.bool q.s,yT C q.n B,yi f] 49;replace a3:Hid _:=a3;have eo:w.heap.size≤a9.heap.size:=ar.size;have ep:=b1.lt;have es:=b2.lt;have ck:=b1.l j;have cl:=b2.l j;have dl:=d7.l j;have dn:=d9.l j;have dp:=da.l j;have dq:=db.l j;have ds:=dc.l j;have dt:=dd.l j;have c0:=aa ar j;clear b1 b2 d7 d9 da db dc dd ar j
 go_upto_region 3 with fail
 rw[a3.out];clear a3;have e5:=ck.c 0 rfl
 go_upto_region 4 with fail
 clear e5;have m:yB ad ad.drew:=(Below.refl _ _).drew;have av:=cl.l m;have a4:=cj.l m;have b4:=dl.l m;have b5:=dn.l m;have b6:=dp.l m;have b7:=dq.l m;have b8:=ds.l m;have b9:=dt.l m;have Z:=aa c0 m;clear ck cl cj dl dn dp dq ds dt c0 m;refine wp_region_held_drew (S:=fun wq=>au wq a9.heap.size 49 [.bool p.s,yT A p.n z,yi e,.bool q.s,yT C q.n B,yi f]) (by kernel_rfl) a4 (fun a0=> ?_)
 generalize ad.drew=ek at av a4 b4 b5 b6 b7 b8 b9 Z a0⊢;refine tq 1 (.agg #[.bool p.s,yT A p.n z,yi e,.bool q.s,yT C q.n B,yi f]) rfl (fun _ e9=>fy 49 (.tmp 7) rfl a9.heap.size 0 (by kernel_rfl) _ _ e9.range underlying49 rfl (by kernel_rfl)) a0 ?_
 refine tq 2 (yi k) rfl (fun _ _=>by kernel_rfl) a0 ?_
 refine wpAnyH_ready (rs:=[0]) (by kernel_rfl) (by simp) ?_;refine AllReadyH.cons rfl (fun K F=> ?_) AllReadyH.nil
 go_simp
 refine(H6.out _ Z).mono ?_;rintro O f5 ⟨et,ey,rfl,a5,a7,o⟩;have c2:=av.l o;have ax:=a4.l o;have cm:=b4.l o;have cn:=b5.l o;have cp:=b6.l o;have cr:=b7.l o;have ba:=b8.l o;have bb:=b9.l o;have ae:=aa Z o;obtain⟨co,cc,d⟩:=a5.shape;subst d;obtain⟨zo,zc,d⟩:=a7.shape;subst d;clear av a4 b4 b5 b6 b7 b8 b9 Z o H6;refine F.out _ _ ax (fun e6=> ?_)
 clear F K;refine wpAnyH_ready (rs:=[3]) (by kernel_rfl) (by simp) ?_;refine AllReadyH.cons rfl (fun K F=> ?_) AllReadyH.nil
 go_simp
 refine(H7.out _ _ _ _ _ _ _ _ _ ae a5 a7 ba bb).mono ?_;rintro O N ⟨eu,f0,rfl,a6,a8,i⟩;have h:=c2.l i;have ay:=ax.l i;have bc:=cm.l i;have bd:=cn.l i;have be:=cp.l i;have bf:=cr.l i;have bg:=ba.l i;have bi:=bb.l i;have bj:=a5.l i;have bl:=a7.l i;have bw:=aa ae i;obtain⟨J,I,d⟩:=a6.shape;subst d;obtain⟨M,L,d⟩:=a8.shape;subst d;clear c2 ax cm cn cp cr ba bb a5 a7 ae i H7;refine F.out _ _ ay (fun e7=> ?_)
 clear F K;refine wpAnyH_ready (rs:=[4]) (by kernel_rfl) (by simp) ?_;refine AllReadyH.cons rfl (fun K F=> ?_) AllReadyH.nil
 have g:But (w.heap.size+1) N (N.setCells (w.heap.size+1) 0 [.bool u.s,yT J u.n I,yi u.e,.bool v.s,yT M v.n L,yi v.e]):=de _ _ _ _;have c1:N.there (w.heap.size+1) 0 6:=dD h;have c5:au (N.setCells (w.heap.size+1) 0 [.bool u.s,yT J u.n I,yi u.e,.bool v.s,yT M v.n L,yi v.e]) (w.heap.size+1) 49 [.bool u.s,yT J u.n I,yi u.e,.bool v.s,yT M v.n L,yi v.e]:=h.sets _ rfl;have ea:=g.rd bc (aX bc h (by simp));have eb:=g.rd bd (aX bd h (by simp));have ec:=g.rd be (aX be h (by simp));have ed:=g.rd bf (aX bf h (by simp));have ee:=g.rd bg (aX bg h (by simp));have ef:=g.rd bi (aX bi h (by simp));have eg:=g.rd bj (aX bj h (by simp));have eh:=g.rd bl (aX bl h (by simp));have cs:=g.rd a6 (aX a6 h (by simp));have ct:=g.rd a8 (aX a8 h (by simp));have c6:=g.loc ay (by omega);have bx:=g.below bw (by omega);rw[if_pos (by kernel_rfl)];refine wp_store_mid 49 (.tmp 4) (.tmp 28) rfl (w.heap.size+1) 0 #[.bool u.s,yT J u.n I,yi u.e,.bool v.s,yT M v.n L,yi v.e] (by kernel_rfl) (by kernel_rfl) c1 (by kernel_rfl) (by simp[Value.oneCell']) ?_;refine F.out _ _ c6 (fun e8=> ?_)
 clear F K;clear h bc bd be bf bg bi bj bl a6 a8 ay bw g c1;refine wpAnyH_done (by kernel_rfl) ?_ _;clear a0 e6 e7 e8;change Exit.then _ _ _ _ (World.setCells N (w.heap.size+1) 0 [.bool u.s,yT J u.n I,yi u.e,.bool v.s,yT M v.n L,yi v.e]);generalize World.setCells N (w.heap.size+1) 0 [.bool u.s,yT J u.n I,yi u.e,.bool v.s,yT M v.n L,yi v.e]=ei at c5 c6 ea eb ec ed ee ef eg eh cs ct bx⊢;simp only[Act.put,List.getElem_toArray,List.getElem_cons_succ,List.getElem_cons_zero];have hl:=run_loadVar_mid (P:=Tryz.prog) _ (w.heap.size+1) 0 49 [.bool u.s,yT J u.n I,yi u.e,.bool v.s,yT M v.n L,yi v.e] _ c5.range underlying49 rfl (by kernel_rfl)
 go_wp2
 exact bodyPost_ret (br results29 rfl hl) rfl ⟨_,_,rfl,cs,ct,bx⟩
theorem fE {W:World}{base:Nat}{v:Value}(h:Ag W base v):v≠ .pointer (some ⟨W.heap.size,0,none⟩):=by
 obtain⟨p,rfl,_,a⟩:=h;intro e;have:p=W.heap.size:=by simpa using e
 have:=a.1;omega
theorem lL (W:World)(base:Nat)(a:TypeId)(h:base≤W.heap.size):Ag (W.alloc (.cells (ydA false yN 0) a)) base (.pointer (some ⟨W.heap.size,0,none⟩)):=
 ⟨_,rfl,h,aA W _ _ _ a⟩
theorem Ai (s:Bool)(q:Option Addr)(A T:Nat)(e:Int)(t:Bool)(G:Option Addr)(H U:Nat)(f:Int)(r:Bool)(L:Option Addr)(I X:Nat)(g:Int)(u:Bool)(M:Option Addr)(J Y:Nat)(k:Int)(n:Int)(fn:FuncId)(c:Int)(x:Nat→ak)(R:ak×ak×Int)(w:World)
  (HE: ∀dv W,Sem.run Tryz.prog (callFunc fn dv) W= .ok (.enter fn dv) W)
  (HW: ∀b p,yB w p→p.cell? ⟨b,0,none⟩=some (.bool s)∧p.cell? ⟨b,1,none⟩=some (.slice q T A)∧p.cell? ⟨b,2,none⟩=some (yi e)∧p.cell? ⟨b,3,none⟩=some (.bool t)∧p.cell? ⟨b,4,none⟩=some (.slice G U H)∧p.cell? ⟨b,5,none⟩=some (yi f)∧p.cell? ⟨b,6,none⟩=some (.bool r)∧p.cell? ⟨b,7,none⟩=some (.slice L X I)∧p.cell? ⟨b,8,none⟩=some (yi g)∧p.cell? ⟨b,9,none⟩=some (.bool u)∧p.cell? ⟨b,10,none⟩=some (.slice M Y J)∧p.cell? ⟨b,11,none⟩=some (yi k)→yC 112 #[yi n,.slice (some ⟨b,0,none⟩) 2 2] p (yR p (yi c)))
  (cs:c=0→ ∀p,yB w p→yC fn #[ydV s (.slice q T A) e,ydV r (.slice L X I) g] p (jN p (x 0)))
  (ct:c=0→ ∀p,yB w p→yC fn #[ydV s (.slice q T A) e,ydV u (.slice M Y J) k] p (jN p (x 1)))
  (cv:c=0→ ∀p,yB w p→yC fn #[ydV t (.slice G U H) f,ydV r (.slice L X I) g] p (jN p (x 2)))
  (cw:c=0→ ∀p,yB w p→yC fn #[ydV t (.slice G U H) f,ydV u (.slice M Y J) k] p (jN p (x 3)))
  (HL:c=0→ ∀b (q:Nat→Option Addr) (A:Nat→Nat) p,yB w p→b<p.heap.size→(∀j,j<4→p.cell? ⟨b,3*j,none⟩=some (.bool (x j).s)∧p.cell? ⟨b,3*j+1,none⟩=some (.slice (q j) (Dg.dg 4294967296 (x j).n).length (A j))∧p.cell? ⟨b,3*j+2,none⟩=some (yi (x j).e)∧Rd p .u32 (.slice (q j) (Dg.dg 4294967296 (x j).n).length (A j)) (Dg.dg 4294967296 (x j).n))→yC 113 #[yi n,.slice (some ⟨b,0,none⟩) 4 4] p (jE p R)):
  yC 56 #[.agg #[.bool s,.slice q T A,yi e,.bool t,.slice G U H,yi f],.agg #[.bool r,.slice L X I,yi g,.bool u,.slice M Y J,yi k],yi n,.func (.func fn) #[] #[]] w (jE w (if c=0 then R else(⟨false,0,0⟩,⟨false,0,0⟩,c))):=by
 have dn:Hid _:=HW;have d1:Hid _:=HL;have cx:Hid _:=cs;have cy:Hid _:=ct;have cz:Hid _:=cv;have d0:Hid _:=cw;clear HW HL cs ct cv cw;have l1:=((aJ w (.bool s) (.slice q T A) (yi e) (.bool t) (.slice G U H) (yi f) 27).l (af _ (.cells #[.bool r,.slice L X I,yi g,.bool u,.slice M Y J,yi k] 27))).l (af _ (.cells #[.bool false,yN,yi 0,.bool false,yN,yi 0] 27));have m1:=(aJ (w.alloc (.cells #[.bool s,.slice q T A,yi e,.bool t,.slice G U H,yi f] 27)) (.bool r) (.slice L X I) (yi g) (.bool u) (.slice M Y J) (yi k) 27).l (af _ (.cells #[.bool false,yN,yi 0,.bool false,yN,yi 0] 27));have k1:=aJ ((w.alloc (.cells #[.bool s,.slice q T A,yi e,.bool t,.slice G U H,yi f] 27)).alloc (.cells #[.bool r,.slice L X I,yi g,.bool u,.slice M Y J,yi k] 27)) (.bool false) yN (yi 0) (.bool false) yN (yi 0) 27;have b1:=aa (aa (af w (.cells #[.bool s,.slice q T A,yi e,.bool t,.slice G U H,yi f] 27)) (af _ (.cells #[.bool r,.slice L X I,yi g,.bool u,.slice M Y J,yi k] 27))) (af _ (.cells #[.bool false,yN,yi 0,.bool false,yN,yi 0] 27));simp only[World.size_alloc] at m1 k1;have bs:=af (((w.alloc (.cells #[.bool s,.slice q T A,yi e,.bool t,.slice G U H,yi f] 27)).alloc (.cells #[.bool r,.slice L X I,yi g,.bool u,.slice M Y J,yi k] 27)).alloc (.cells #[.bool false,yN,yi 0,.bool false,yN,yi 0] 27)) (.cells #[.bool s,.slice q T A,yi e,.bool t,.slice G U H,yi f,.bool r,.slice L X I,yi g,.bool u,.slice M Y J,yi k] 27);have l2:=l1.l bs;have m2:=m1.l bs;have k2:=k1.l bs;have b2:=aa b1 bs;have d2:=dn.out (w.heap.size+1+1+1) _ b2 (by refine⟨?_, ?_, ?_, ?_, ?_, ?_, ?_, ?_, ?_, ?_, ?_, ?_⟩<;>(rw[World.cell?_alloc_at _ _ _ _ (by simp only[World.size_alloc])];rfl))
 clear l1 m1 k1 b1 bs dn
 by_cases hc:c=0
 ·subst hc
  rw[if_pos rfl];have d1:=d1.out rfl;have cx:=cx.out rfl;have cy:=cy.out rfl;have cz:=cz.out rfl;have d0:=d0.out rfl;have HL:Hid _:=d1;have cs:Hid _:=cx;have ct:Hid _:=cy;have cv:Hid _:=cz;have cw:Hid _:=d0;clear d1 cx cy cz d0
  go_enter func56,ntmps56
  go_wp2_with fail
  refine d2.mono ?_;rintro z w3 ⟨rfl,b3⟩;have l3:=l2.l b3;have m3:=m2.l b3;have k3:=k2.l b3;have d3:=aa b2 b3;clear l2 m2 k2 b2 b3 d2
  go_wp2_with fail
  generalize w.heap.size+1+1+1=S at⊢;have ee:w.heap.size≤w.heap.size+1+1:=by omega
  generalize w.heap.size+1+1=RB at k3 ee⊢;generalize w.heap.size+1=BB at m3⊢;refine wp_region_any (by kernel_rfl) ?_;refine iX (fun ef a W=> ∃(ad Z a2 ae a3 a4 al a5 a6 an a0 a1 B C D E:Bool) (bh bi b7 bj bl b8 bm bn b9 bp bq bg a7 a8 a9 ac:Value),ef= #[ad,Z,a2,ae,a3,a4,al,a5,a6,an,a0,a1,B,C,D,E,false,false,false,false]∧a={tmps:= #[.agg #[.bool s,.slice q T A,yi e,.bool t,.slice G U H,yi f],.agg #[.bool r,.slice L X I,yi g,.bool u,.slice M Y J,yi k],yi n,.func (.func fn) #[] #[],.pointer (some ⟨w.heap.size,0,none⟩),.pointer (some ⟨BB,0,none⟩),undef,undef,.pointer (some ⟨RB,0,none⟩),yi 0,yi 0,a7,a8,a9,ac,yi n,.agg #[.bool s,.slice q T A,yi e,.bool t,.slice G U H,yi f],.agg #[.bool r,.slice L X I,yi g,.bool u,.slice M Y J,yi k],.slice (some ⟨S,0,none⟩) 2 2,yi 0,yi 0,.bool false,undef,undef,bh,bi,b7,bj,bl,b8,bm,bn,b9,bp,bq,bg,undef,undef,undef,undef,undef,undef,undef,undef,undef,undef,undef,undef,undef,undef,undef,undef,undef,undef,undef,undef,undef],defers:=[]}∧yB w3 W∧(ad=true→bh= .pointer (some ⟨w.heap.size,0,none⟩))∧(Z=true→bi=(ydV s (.slice q T A) e))∧(a2=true→b7=(ydV s (.slice q T A) e))∧(ae=true→bj= .pointer (some ⟨w.heap.size,3,none⟩))∧(a3=true→bl=(ydV t (.slice G U H) f))∧(a4=true→b8=(ydV t (.slice G U H) f))∧(al=true→bm= .pointer (some ⟨BB,0,none⟩))∧(a5=true→bn=(ydV r (.slice L X I) g))∧(a6=true→b9=(ydV r (.slice L X I) g))∧(an=true→bp= .pointer (some ⟨BB,3,none⟩))∧(a0=true→bq=(ydV u (.slice M Y J) k))∧(a1=true→bg=(ydV u (.slice M Y J) k))∧(B=true→Ag W w3.heap.size a7)∧(C=true→Ag W w3.heap.size a8)∧(D=true→Ag W w3.heap.size a9)∧(E=true→Ag W w3.heap.size ac)∧(Z=true→ad=true)∧(a2=true→Z=true)∧(a3=true→ae=true)∧(a4=true→a3=true∧a2=true)∧(a5=true→al=true)∧(a6=true→a5=true∧a4=true)∧(a0=true→an=true)∧(a1=true→a0=true∧a6=true)∧(B=true→C=true→a7≠a8)∧(B=true→D=true→a7≠a9)∧(B=true→E=true→a7≠ac)∧(C=true→D=true→a8≠a9)∧(C=true→E=true→a8≠ac)∧(D=true→E=true→a9≠ac)) #[true,true,true,true,true,true,true,true,true,true,true,true,true,true,true,true,false,false,false,false] 4 rfl ?hend ?hstep 20 _ _ _ rfl ?start
  case start=>
   refine⟨false,false,false,false,false,false,false,false,false,false,false,false,false,false,false,false,undef,undef,undef,undef,undef,undef,undef,undef,undef,undef,undef,undef,undef,undef,undef,undef,rfl,rfl,(Below.refl _ _).drew, ?_, ?_, ?_, ?_, ?_, ?_, ?_, ?_, ?_, ?_, ?_, ?_, ?_, ?_, ?_, ?_, ?_, ?_, ?_, ?_, ?_, ?_, ?_, ?_, ?_, ?_, ?_, ?_, ?_, ?_⟩<;>simp
  case hstep=>
   rintro ef a W ⟨ad,Z,a2,ae,a3,a4,al,a5,a6,an,a0,a1,B,C,D,E,bh,bi,b7,bj,bl,b8,bm,bn,b9,bp,bq,bg,a7,a8,a9,ac,rfl,rfl,y,h0,h1,h2,h3,h4,h5,h6,h7,h8,h9,b5,b6,N,O,P,Q,e1,e2,e4,e5,e7,e8,b0,ap,aq,ar,av,ax,ay,az⟩ ed;obtain⟨-,⟨c0,c1,c2,c3,c4,c5⟩,-⟩:=l3.l y;obtain⟨-,⟨x0,x1,x2,x3,x4,x5⟩,-⟩:=m3.l y
   constructor
   ·intro bt
    apply ed;obtain rfl:ad=true:=aM (j:=0) bt rfl (by kernel_rfl);obtain rfl:Z=true:=aM (j:=1) bt rfl (by kernel_rfl);obtain rfl:a2=true:=aM (j:=2) bt rfl (by kernel_rfl);obtain rfl:ae=true:=aM (j:=3) bt rfl (by kernel_rfl);obtain rfl:a3=true:=aM (j:=4) bt rfl (by kernel_rfl);obtain rfl:a4=true:=aM (j:=5) bt rfl (by kernel_rfl);obtain rfl:al=true:=aM (j:=6) bt rfl (by kernel_rfl);obtain rfl:a5=true:=aM (j:=7) bt rfl (by kernel_rfl);obtain rfl:a6=true:=aM (j:=8) bt rfl (by kernel_rfl);obtain rfl:an=true:=aM (j:=9) bt rfl (by kernel_rfl);obtain rfl:a0=true:=aM (j:=10) bt rfl (by kernel_rfl);obtain rfl:a1=true:=aM (j:=11) bt rfl (by kernel_rfl);obtain rfl:B=true:=aM (j:=12) bt rfl (by kernel_rfl);obtain rfl:C=true:=aM (j:=13) bt rfl (by kernel_rfl);obtain rfl:D=true:=aM (j:=14) bt rfl (by kernel_rfl);obtain rfl:E=true:=aM (j:=15) bt rfl (by kernel_rfl);rfl
   ·intro i o
    replace h0:Hid _:=h0;replace h1:Hid _:=h1;replace h2:Hid _:=h2;replace h3:Hid _:=h3;replace h4:Hid _:=h4;replace h5:Hid _:=h5;replace h6:Hid _:=h6;replace h7:Hid _:=h7;replace h8:Hid _:=h8;replace h9:Hid _:=h9;replace b5:Hid _:=b5;replace b6:Hid _:=b6;replace N:Hid _:=N;replace O:Hid _:=O;replace P:Hid _:=P;replace Q:Hid _:=Q;replace e1:Hid _:=e1;replace e2:Hid _:=e2;replace e4:Hid _:=e4;replace e5:Hid _:=e5;replace e7:Hid _:=e7;replace e8:Hid _:=e8;replace b0:Hid _:=b0;replace ap:Hid _:=ap;replace aq:Hid _:=aq;replace ar:Hid _:=ar;replace av:Hid _:=av;replace ax:Hid _:=ax;replace ay:Hid _:=ay;replace az:Hid _:=az;have cr:=pE o
    match i,cr,o with
    |0,_,o=>
     refine aI (i:=0) rfl rfl (fun K m=> ?_)
     go_simp
     exact m.out _ _ ⟨true,Z,a2,ae,a3,a4,al,a5,a6,an,a0,a1,B,C,D,E,_,bi,b7,bj,bl,b8,bm,bn,b9,bp,bq,bg,a7,a8,a9,ac,rfl,rfl,y,fun _=>rfl,h1,h2,h3,h4,h5,h6,h7,h8,h9,b5,b6,N,O,P,Q,fun _=>rfl,e2,e4,e5,e7,e8,b0,ap,aq,ar,av,ax,ay,az⟩
    |1,_,o=>
     obtain rfl:ad=true:=aE (d:=0) rfl (by kernel_rfl) o;obtain rfl:=h0.out rfl;refine aI (i:=1) rfl rfl (fun K m=> ?_)
     go_simp
     exact m.out _ _ ⟨true,true,a2,ae,a3,a4,al,a5,a6,an,a0,a1,B,C,D,E,_,_,b7,bj,bl,b8,bm,bn,b9,bp,bq,bg,a7,a8,a9,ac,rfl,rfl,y,fun _=>rfl,fun _=>rfl,h2,h3,h4,h5,h6,h7,h8,h9,b5,b6,N,O,P,Q,fun _=>rfl,fun _=>rfl,e4,e5,e7,e8,b0,ap,aq,ar,av,ax,ay,az⟩
    |2,_,o=>
     obtain rfl:Z=true:=aE (d:=1) rfl (by kernel_rfl) o;obtain rfl:=h1.out rfl;refine aI (i:=2) rfl rfl (fun K m=> ?_)
     go_simp
     refine(iK s q T A e _).mono ?_;rintro z W2 ⟨rfl,F⟩
     go_simp
     exact m.out _ _ ⟨ad,true,true,ae,a3,a4,al,a5,a6,an,a0,a1,B,C,D,E,bh,_,_,bj,bl,b8,bm,bn,b9,bp,bq,bg,a7,a8,a9,ac,rfl,rfl,aa y F,h0,fun _=>rfl,fun _=>rfl,h3,h4,h5,h6,h7,h8,h9,b5,b6,fun h=>(N.out h).l F,fun h=>(O.out h).l F,fun h=>(P.out h).l F,fun h=>(Q.out h).l F,e1,fun _=>rfl,e4,fun h=>⟨(e5.out h).1,rfl⟩,e7,e8,b0,ap,aq,ar,av,ax,ay,az⟩
    |3,_,o=>
     refine aI (i:=3) rfl rfl (fun K m=> ?_)
     go_simp
     exact m.out _ _ ⟨ad,Z,a2,true,a3,a4,al,a5,a6,an,a0,a1,B,C,D,E,bh,bi,b7,_,bl,b8,bm,bn,b9,bp,bq,bg,a7,a8,a9,ac,rfl,rfl,y,h0,h1,h2,fun _=>rfl,h4,h5,h6,h7,h8,h9,b5,b6,N,O,P,Q,e1,e2,fun _=>rfl,e5,e7,e8,b0,ap,aq,ar,av,ax,ay,az⟩
    |4,_,o=>
     obtain rfl:ae=true:=aE (d:=3) rfl (by kernel_rfl) o;obtain rfl:=h3.out rfl;refine aI (i:=4) rfl rfl (fun K m=> ?_)
     go_simp
     exact m.out _ _ ⟨ad,Z,a2,true,true,a4,al,a5,a6,an,a0,a1,B,C,D,E,bh,bi,b7,_,_,b8,bm,bn,b9,bp,bq,bg,a7,a8,a9,ac,rfl,rfl,y,h0,h1,h2,fun _=>rfl,fun _=>rfl,h5,h6,h7,h8,h9,b5,b6,N,O,P,Q,e1,e2,fun _=>rfl,fun h=>⟨rfl,(e5.out h).2⟩,e7,e8,b0,ap,aq,ar,av,ax,ay,az⟩
    |5,_,o=>
     obtain rfl:a3=true:=aE (d:=4) rfl (by kernel_rfl) o;obtain rfl:a2=true:=aE (d:=2) rfl (by kernel_rfl) o;obtain rfl:=h4.out rfl;refine aI (i:=5) rfl rfl (fun K m=> ?_)
     go_simp
     refine(iK t G U H f _).mono ?_;rintro z W2 ⟨rfl,F⟩
     go_simp
     exact m.out _ _ ⟨ad,Z,true,ae,true,true,al,a5,a6,an,a0,a1,B,C,D,E,bh,bi,b7,bj,_,_,bm,bn,b9,bp,bq,bg,a7,a8,a9,ac,rfl,rfl,aa y F,h0,h1,h2,h3,fun _=>rfl,fun _=>rfl,h6,h7,h8,h9,b5,b6,fun h=>(N.out h).l F,fun h=>(O.out h).l F,fun h=>(P.out h).l F,fun h=>(Q.out h).l F,e1,e2,e4,fun _=>⟨rfl,rfl⟩,e7,fun h=>⟨(e8.out h).1,rfl⟩,b0,ap,aq,ar,av,ax,ay,az⟩
    |6,_,o=>
     refine aI (i:=6) rfl rfl (fun K m=> ?_)
     go_simp
     exact m.out _ _ ⟨ad,Z,a2,ae,a3,a4,true,a5,a6,an,a0,a1,B,C,D,E,bh,bi,b7,bj,bl,b8,_,bn,b9,bp,bq,bg,a7,a8,a9,ac,rfl,rfl,y,h0,h1,h2,h3,h4,h5,fun _=>rfl,h7,h8,h9,b5,b6,N,O,P,Q,e1,e2,e4,e5,fun _=>rfl,e8,b0,ap,aq,ar,av,ax,ay,az⟩
    |7,_,o=>
     obtain rfl:al=true:=aE (d:=6) rfl (by kernel_rfl) o;obtain rfl:=h6.out rfl;refine aI (i:=7) rfl rfl (fun K m=> ?_)
     go_simp
     exact m.out _ _ ⟨ad,Z,a2,ae,a3,a4,true,true,a6,an,a0,a1,B,C,D,E,bh,bi,b7,bj,bl,b8,_,_,b9,bp,bq,bg,a7,a8,a9,ac,rfl,rfl,y,h0,h1,h2,h3,h4,h5,fun _=>rfl,fun _=>rfl,h8,h9,b5,b6,N,O,P,Q,e1,e2,e4,e5,fun _=>rfl,fun h=>⟨rfl,(e8.out h).2⟩,b0,ap,aq,ar,av,ax,ay,az⟩
    |8,_,o=>
     obtain rfl:a5=true:=aE (d:=7) rfl (by kernel_rfl) o;obtain rfl:a4=true:=aE (d:=5) rfl (by kernel_rfl) o;obtain rfl:=h7.out rfl;refine aI (i:=8) rfl rfl (fun K m=> ?_)
     go_simp
     refine(iK r L X I g _).mono ?_;rintro z W2 ⟨rfl,F⟩
     go_simp
     exact m.out _ _ ⟨ad,Z,a2,ae,a3,true,al,true,true,an,a0,a1,B,C,D,E,bh,bi,b7,bj,bl,b8,bm,_,_,bp,bq,bg,a7,a8,a9,ac,rfl,rfl,aa y F,h0,h1,h2,h3,h4,h5,h6,fun _=>rfl,fun _=>rfl,h9,b5,b6,fun h=>(N.out h).l F,fun h=>(O.out h).l F,fun h=>(P.out h).l F,fun h=>(Q.out h).l F,e1,e2,e4,e5,e7,fun _=>⟨rfl,rfl⟩,b0,fun h=>⟨(ap.out h).1,rfl⟩,aq,ar,av,ax,ay,az⟩
    |9,_,o=>
     refine aI (i:=9) rfl rfl (fun K m=> ?_)
     go_simp
     exact m.out _ _ ⟨ad,Z,a2,ae,a3,a4,al,a5,a6,true,a0,a1,B,C,D,E,bh,bi,b7,bj,bl,b8,bm,bn,b9,_,bq,bg,a7,a8,a9,ac,rfl,rfl,y,h0,h1,h2,h3,h4,h5,h6,h7,h8,fun _=>rfl,b5,b6,N,O,P,Q,e1,e2,e4,e5,e7,e8,fun _=>rfl,ap,aq,ar,av,ax,ay,az⟩
    |10,_,o=>
     obtain rfl:an=true:=aE (d:=9) rfl (by kernel_rfl) o;obtain rfl:=h9.out rfl;refine aI (i:=10) rfl rfl (fun K m=> ?_)
     go_simp
     exact m.out _ _ ⟨ad,Z,a2,ae,a3,a4,al,a5,a6,true,true,a1,B,C,D,E,bh,bi,b7,bj,bl,b8,bm,bn,b9,_,_,bg,a7,a8,a9,ac,rfl,rfl,y,h0,h1,h2,h3,h4,h5,h6,h7,h8,fun _=>rfl,fun _=>rfl,b6,N,O,P,Q,e1,e2,e4,e5,e7,e8,fun _=>rfl,fun h=>⟨rfl,(ap.out h).2⟩,aq,ar,av,ax,ay,az⟩
    |11,_,o=>
     obtain rfl:a0=true:=aE (d:=10) rfl (by kernel_rfl) o;obtain rfl:a6=true:=aE (d:=8) rfl (by kernel_rfl) o;obtain rfl:=b5.out rfl;refine aI (i:=11) rfl rfl (fun K m=> ?_)
     go_simp
     refine(iK u M Y J k _).mono ?_;rintro z W2 ⟨rfl,F⟩
     go_simp
     exact m.out _ _ ⟨ad,Z,a2,ae,a3,a4,al,a5,true,an,true,true,B,C,D,E,bh,bi,b7,bj,bl,b8,bm,bn,b9,bp,_,_,a7,a8,a9,ac,rfl,rfl,aa y F,h0,h1,h2,h3,h4,h5,h6,h7,h8,h9,fun _=>rfl,fun _=>rfl,fun h=>(N.out h).l F,fun h=>(O.out h).l F,fun h=>(P.out h).l F,fun h=>(Q.out h).l F,e1,e2,e4,e5,e7,e8,b0,fun _=>⟨rfl,rfl⟩,aq,ar,av,ax,ay,az⟩
    |12,_,o=>
     refine aI (i:=12) rfl rfl (fun K m=> ?_)
     have bz:=af W (.cells (ydA false yN 0) 41)
     go_simp
     exact m.out _ _ ⟨ad,Z,a2,ae,a3,a4,al,a5,a6,an,a0,a1,true,C,D,E,bh,bi,b7,bj,bl,b8,bm,bn,b9,bp,bq,bg,_,a8,a9,ac,rfl,rfl,aa y bz,h0,h1,h2,h3,h4,h5,h6,h7,h8,h9,b5,b6,fun _=>lL W _ 41 y.size,fun h=>(O.out h).l bz,fun h=>(P.out h).l bz,fun h=>(Q.out h).l bz,e1,e2,e4,e5,e7,e8,b0,ap,fun _ h=>(fE (O.out h)).symm,fun _ h=>(fE (P.out h)).symm,fun _ h=>(fE (Q.out h)).symm,ax,ay,az⟩
    |13,_,o=>
     refine aI (i:=13) rfl rfl (fun K m=> ?_)
     have bz:=af W (.cells (ydA false yN 0) 41)
     go_simp
     exact m.out _ _ ⟨ad,Z,a2,ae,a3,a4,al,a5,a6,an,a0,a1,B,true,D,E,bh,bi,b7,bj,bl,b8,bm,bn,b9,bp,bq,bg,a7,_,a9,ac,rfl,rfl,aa y bz,h0,h1,h2,h3,h4,h5,h6,h7,h8,h9,b5,b6,fun h=>(N.out h).l bz,fun _=>lL W _ 41 y.size,fun h=>(P.out h).l bz,fun h=>(Q.out h).l bz,e1,e2,e4,e5,e7,e8,b0,ap,fun h _=>fE (N.out h),ar,av,fun _ h=>(fE (P.out h)).symm,fun _ h=>(fE (Q.out h)).symm,az⟩
    |14,_,o=>
     refine aI (i:=14) rfl rfl (fun K m=> ?_)
     have bz:=af W (.cells (ydA false yN 0) 41)
     go_simp
     exact m.out _ _ ⟨ad,Z,a2,ae,a3,a4,al,a5,a6,an,a0,a1,B,C,true,E,bh,bi,b7,bj,bl,b8,bm,bn,b9,bp,bq,bg,a7,a8,_,ac,rfl,rfl,aa y bz,h0,h1,h2,h3,h4,h5,h6,h7,h8,h9,b5,b6,fun h=>(N.out h).l bz,fun h=>(O.out h).l bz,fun _=>lL W _ 41 y.size,fun h=>(Q.out h).l bz,e1,e2,e4,e5,e7,e8,b0,ap,aq,fun h _=>fE (N.out h),av,fun h _=>fE (O.out h),ay,fun _ h=>(fE (Q.out h)).symm⟩
    |15,_,o=>
     refine aI (i:=15) rfl rfl (fun K m=> ?_)
     have bz:=af W (.cells (ydA false yN 0) 41)
     go_simp
     exact m.out _ _ ⟨ad,Z,a2,ae,a3,a4,al,a5,a6,an,a0,a1,B,C,D,true,bh,bi,b7,bj,bl,b8,bm,bn,b9,bp,bq,bg,a7,a8,a9,_,rfl,rfl,aa y bz,h0,h1,h2,h3,h4,h5,h6,h7,h8,h9,b5,b6,fun h=>(N.out h).l bz,fun h=>(O.out h).l bz,fun h=>(P.out h).l bz,fun _=>lL W _ 41 y.size,e1,e2,e4,e5,e7,e8,b0,ap,aq,ar,fun h _=>fE (N.out h),ax,fun h _=>fE (O.out h),fun h _=>fE (P.out h)⟩
    |16,_,o=>
     exfalso
     apply ed;obtain rfl:a1=true:=aE (d:=11) rfl (by kernel_rfl) o;obtain rfl:B=true:=aE (d:=12) rfl (by kernel_rfl) o;obtain rfl:C=true:=aE (d:=13) rfl (by kernel_rfl) o;obtain rfl:D=true:=aE (d:=14) rfl (by kernel_rfl) o;obtain rfl:E=true:=aE (d:=15) rfl (by kernel_rfl) o;obtain⟨rfl,rfl⟩:=ap.out rfl;obtain⟨rfl,rfl⟩:=e8.out rfl;obtain⟨rfl,rfl⟩:=e5.out rfl;obtain rfl:=b0.out rfl;obtain rfl:=e7.out rfl;obtain rfl:=e4.out rfl;obtain rfl:=e2.out rfl;obtain rfl:=e1.out rfl;rfl
    |17,_,o=>
     exact absurd (aE (d:=16) rfl (by kernel_rfl) o) (by simp)
    |18,_,o=>
     exact absurd (aE (d:=17) rfl (by kernel_rfl) o) (by simp)
    |19,_,o=>
     exact absurd (aE (d:=18) rfl (by kernel_rfl) o) (by simp)
    |i+20,cr,_=>exact absurd cr (by simp)
  case hend=>
   rintro a W ⟨ad,Z,a2,ae,a3,a4,al,a5,a6,an,a0,a1,B,C,D,E,bh,bi,b7,bj,bl,b8,bm,bn,b9,bp,bq,bg,a7,a8,a9,ac,hl,rfl,y,h0,h1,h2,h3,h4,h5,h6,h7,h8,h9,b5,b6,N,O,P,Q,e1,e2,e4,e5,e7,e8,b0,ap,aq,ar,av,ax,ay,az⟩;have hl:=congrArg Array.toList hl;simp only[List.cons.injEq,and_true] at hl;obtain⟨rfl,rfl,rfl,rfl,rfl,rfl,rfl,rfl,rfl,rfl,rfl,rfl,rfl,rfl,rfl,rfl⟩:=hl;obtain rfl:=h0 rfl;obtain rfl:=h1 rfl;obtain rfl:=h2 rfl;obtain rfl:=h3 rfl;obtain rfl:=h4 rfl;obtain rfl:=h5 rfl;obtain rfl:=h6 rfl;obtain rfl:=h7 rfl;obtain rfl:=h8 rfl;obtain rfl:=h9 rfl;obtain rfl:=b5 rfl;obtain rfl:=b6 rfl;obtain⟨cg,rfl,e9,c7⟩:=N rfl;obtain⟨ch,rfl,ea,c8⟩:=O rfl;obtain⟨ci,rfl,eb,c9⟩:=P rfl;obtain⟨cj,rfl,ec,ce⟩:=Q rfl;have d9:cg≠ch:=fun h=>aq rfl rfl (by rw[h])
   have da:cg≠ci:=fun h=>ar rfl rfl (by rw[h])
   have db:cg≠cj:=fun h=>av rfl rfl (by rw[h])
   have dc:ch≠ci:=fun h=>ax rfl rfl (by rw[h])
   have dd:ch≠cj:=fun h=>ay rfl rfl (by rw[h])
   have dl:ci≠cj:=fun h=>az rfl rfl (by rw[h])
   clear hl e1 e2 e4 e5 e7 e8 b0 ap aq ar av ax ay az;obtain⟨g8,⟨gx,gy,gz⟩,fe,ff,fg⟩:=id c7;refine eY (i:=16) (by kernel_rfl) (aI (i:=16) rfl rfl (fun K m=> ?_))
   go_simp
   refine m.out _ _ ?_;clear m;have bu:=aD c7 (.bool s) (.slice q T A) (yi e);have bv:=c8.apart (c:=cg) d9 (.bool s) (.slice q T A) (yi e);have bw:=c9.apart (c:=cg) da (.bool s) (.slice q T A) (yi e);have c6:=ce.apart (c:=cg) db (.bool s) (.slice q T A) (yi e);have d5:=am y e9 (.bool s) (.slice q T A) (yi e);clear c7 c8 c9 ce g8 gx gy gz fe ff fg;generalize(((W.setCell ⟨cg,0,none⟩ (.bool s)).setCell ⟨cg,1,none⟩ (.slice q T A)).setCell ⟨cg,2,none⟩ (yi e))=W1 at bu bv bw c6 d5⊢;have c7:=bu;have c8:=bv;have c9:=bw;have ce:=c6;clear bu bv bw c6;obtain⟨g9,⟨ha,hb,hd⟩,fi,fj,fk⟩:=id c8;refine eY (i:=17) (by kernel_rfl) (aI (i:=17) rfl rfl (fun K m=> ?_))
   go_simp
   refine m.out _ _ ?_;clear m;have bv:=aD c8 (.bool t) (.slice G U H) (yi f);have bu:=c7.apart (c:=ch) d9.symm (.bool t) (.slice G U H) (yi f);have bw:=c9.apart (c:=ch) dc (.bool t) (.slice G U H) (yi f);have c6:=ce.apart (c:=ch) dd (.bool t) (.slice G U H) (yi f);have d6:=am d5 ea (.bool t) (.slice G U H) (yi f);clear c7 c8 c9 ce g9 ha hb hd fi fj fk;generalize(((W1.setCell ⟨ch,0,none⟩ (.bool t)).setCell ⟨ch,1,none⟩ (.slice G U H)).setCell ⟨ch,2,none⟩ (yi f))=W2 at bu bv bw c6 d6⊢;have c7:=bu;have c8:=bv;have c9:=bw;have ce:=c6;clear bu bv bw c6;obtain⟨ga,⟨he,hg,hh⟩,fl,fo,fp⟩:=id c9;refine eY (i:=18) (by kernel_rfl) (aI (i:=18) rfl rfl (fun K m=> ?_))
   go_simp
   refine m.out _ _ ?_;clear m;have bw:=aD c9 (.bool r) (.slice L X I) (yi g);have bu:=c7.apart (c:=ci) da.symm (.bool r) (.slice L X I) (yi g);have bv:=c8.apart (c:=ci) dc.symm (.bool r) (.slice L X I) (yi g);have c6:=ce.apart (c:=ci) dl (.bool r) (.slice L X I) (yi g);have d7:=am d6 eb (.bool r) (.slice L X I) (yi g);clear c7 c8 c9 ce ga he hg hh fl fo fp;generalize(((W2.setCell ⟨ci,0,none⟩ (.bool r)).setCell ⟨ci,1,none⟩ (.slice L X I)).setCell ⟨ci,2,none⟩ (yi g))=W3 at bu bv bw c6 d7⊢;have c7:=bu;have c8:=bv;have c9:=bw;have ce:=c6;clear bu bv bw c6;obtain⟨gb,⟨hk,hm,hn⟩,fr,fs,ft⟩:=id ce;refine eY (i:=19) (by kernel_rfl) (aI (i:=19) rfl rfl (fun K m=> ?_))
   go_simp
   refine m.out _ _ ?_;clear m;have c6:=aD ce (.bool u) (.slice M Y J) (yi k);have bu:=c7.apart (c:=cj) db.symm (.bool u) (.slice M Y J) (yi k);have bv:=c8.apart (c:=cj) dd.symm (.bool u) (.slice M Y J) (yi k);have bw:=c9.apart (c:=cj) dl.symm (.bool u) (.slice M Y J) (yi k);have d4:=am d7 ec (.bool u) (.slice M Y J) (yi k);clear c7 c8 c9 ce gb hk hm hn fr fs ft;generalize(((W3.setCell ⟨cj,0,none⟩ (.bool u)).setCell ⟨cj,1,none⟩ (.slice M Y J)).setCell ⟨cj,2,none⟩ (yi k))=W4 at bu bv bw c6 d4⊢;have c7:=bu;have c8:=bv;have c9:=bw;have ce:=c6;clear bu bv bw c6;refine jP (by kernel_rfl) ?_;have bd:yB W4 W4.drew:=(Below.refl _ _).drew;have bx:=aa (aa d3 d4) bd;have kx:=(k3.l d4).l bd;have fa:=c7.l bd;have fb:=c8.l bd;have fc:=c9.l bd;have fd:=ce.l bd;obtain⟨-,⟨hu,hv,hw⟩,-⟩:=id fa;obtain⟨-,⟨hx,hy,hz⟩,-⟩:=id fb;obtain⟨-,⟨i0,i1,i2⟩,-⟩:=id fc;obtain⟨-,⟨i3,i4,i5⟩,-⟩:=id fd;have ln:RB≠cg:=by have:=k3.1;omega
   have ls:cg≠RB:=by have:=k3.1;omega
   have lo:RB≠ch:=by have:=k3.1;omega
   have lu:ch≠RB:=by have:=k3.1;omega
   have lq:RB≠ci:=by have:=k3.1;omega
   have lv:ci≠RB:=by have:=k3.1;omega
   have lr:RB≠cj:=by have:=k3.1;omega
   have lx:cj≠RB:=by have:=k3.1;omega
   clear d3 d4 k3 bd c7 c8 c9 ce l3 m3 y d5 d6 d7 e9 ea eb ec d9 da db dc dd dl;obtain⟨⟨rs,rn,re⟩,⟨qs,qn,qe⟩,rc⟩:=R
   go_goals
   go_wp2_with fail
   go_region_held3 (fun wq=>(wq.cell? ⟨cg,0,none⟩=some (.bool s)∧wq.cell? ⟨cg,1,none⟩=some (.slice q T A)∧wq.cell? ⟨cg,2,none⟩=some (yi e))∧(wq.cell? ⟨ch,0,none⟩=some (.bool t)∧wq.cell? ⟨ch,1,none⟩=some (.slice G U H)∧wq.cell? ⟨ch,2,none⟩=some (yi f))∧(wq.cell? ⟨ci,0,none⟩=some (.bool r)∧wq.cell? ⟨ci,1,none⟩=some (.slice L X I)∧wq.cell? ⟨ci,2,none⟩=some (yi g))∧(wq.cell? ⟨cj,0,none⟩=some (.bool u)∧wq.cell? ⟨cj,1,none⟩=some (.slice M Y J)∧wq.cell? ⟨cj,2,none⟩=some (yi k))) (go_keep) (first
    | ((with_reducible (refine(cs.out _ bx).mono ?_));rintro z wa ⟨va,rfl,eg,cn⟩;have ba:=aa bx cn;have ka:=kx.l cn;have ek:=fa.l cn;have el:=fb.l cn;have em:=fc.l cn;have en:=fd.l cn;obtain⟨-,⟨i6,i7,i8⟩,-⟩:=id ek;obtain⟨-,⟨ic,ih,ir⟩,-⟩:=id el;obtain⟨-,⟨it,iv,iw⟩,-⟩:=id em;obtain⟨-,⟨iz,j0,j1⟩,-⟩:=id en;obtain⟨dp,dy,fv⟩:=eg.rd.shape;subst fv;clear bx kx cn)
    | ((with_reducible (refine(ct.out _ ba).mono ?_));rintro z wb ⟨vb,rfl,eh,cm⟩;have bb:=aa ba cm;have kb:=ka.l cm;have eo:=ek.l cm;have ep:=el.l cm;have es:=em.l cm;have et:=en.l cm;obtain⟨-,⟨j2,j3,j4⟩,-⟩:=id eo;obtain⟨-,⟨j5,j6,jb⟩,-⟩:=id ep;obtain⟨-,⟨jc,je,jh⟩,-⟩:=id es;obtain⟨-,⟨jj,jk,jn⟩,-⟩:=id et;obtain⟨dq,e0,fx⟩:=eh.rd.shape;subst fx;have gc:=eg.l cm;clear ba ka cm)
    | ((with_reducible (refine(cv.out _ bb).mono ?_));rintro z wc ⟨vc,rfl,ei,cl⟩;have bc:=aa bb cl;have kc:=kb.l cl;have eu:=eo.l cl;have ev:=ep.l cl;have ex:=es.l cl;have ey:=et.l cl;obtain⟨-,⟨js,jv,jx⟩,-⟩:=id eu;obtain⟨-,⟨jy,k0,k4⟩,-⟩:=id ev;obtain⟨-,⟨k5,k6,k7⟩,-⟩:=id ex;obtain⟨-,⟨k8,k9,kh⟩,-⟩:=id ey;obtain⟨ds,e3,g6⟩:=ei.rd.shape;subst g6;have gd:=gc.l cl;have gj:=eh.l cl;clear bb kb cl)
    | ((with_reducible (refine(cw.out _ bc).mono ?_));rintro z wd ⟨vd,rfl,ej,ck⟩;have bd:=aa bc ck;have kd:=kc.l ck;have f6:=eu.l ck;have f7:=ev.l ck;have f8:=ex.l ck;have f9:=ey.l ck;obtain⟨-,⟨ki,kk,kl⟩,-⟩:=id f6;obtain⟨-,⟨km,kn,ko⟩,-⟩:=id f7;obtain⟨-,⟨ks,ku,kv⟩,-⟩:=id f8;obtain⟨-,⟨kw,ky,kz⟩,-⟩:=id f9;obtain⟨dt,e6,g7⟩:=ej.rd.shape;subst g7;have gg:=gd.l ck;have gm:=gj.l ck;have gq:=ei.l ck;clear bc kc ck)
    | (go_at_call 113;have bs:=af wd (.cells #[.bool (x 0).s,.slice dp (Dg.dg 4294967296 (x 0).n).length dy,yi (x 0).e,.bool (x 1).s,.slice dq (Dg.dg 4294967296 (x 1).n).length e0,yi (x 1).e,.bool (x 2).s,.slice ds (Dg.dg 4294967296 (x 2).n).length e3,yi (x 2).e,.bool (x 3).s,.slice dt (Dg.dg 4294967296 (x 3).n).length e6,yi (x 3).e] 41);have be:=aa bd bs;have ke:=kd.l bs;have gi:=gg.l bs;have gp:=gm.l bs;have gr:=gq.l bs;have gv:=ej.l bs;refine(HL.out wd.heap.size (fun j=>match j with|0=>dp|1=>dq|2=>ds|_=>dt) (fun j=>match j with|0=>dy|1=>e0|2=>e3|_=>e6) _ be (by simp[World.size_alloc]) (by intro j hj;match j,hj with|0,_=>exact⟨by rw[World.cell?_alloc_at _ _ _ _ rfl];rfl,by rw[World.cell?_alloc_at _ _ _ _ rfl];rfl,by rw[World.cell?_alloc_at _ _ _ _ rfl];rfl,gi.rd⟩|1,_=>exact⟨by rw[World.cell?_alloc_at _ _ _ _ rfl];rfl,by rw[World.cell?_alloc_at _ _ _ _ rfl];rfl,by rw[World.cell?_alloc_at _ _ _ _ rfl];rfl,gp.rd⟩|2,_=>exact⟨by rw[World.cell?_alloc_at _ _ _ _ rfl];rfl,by rw[World.cell?_alloc_at _ _ _ _ rfl];rfl,by rw[World.cell?_alloc_at _ _ _ _ rfl];rfl,gr.rd⟩|3,_=>exact⟨by rw[World.cell?_alloc_at _ _ _ _ rfl];rfl,by rw[World.cell?_alloc_at _ _ _ _ rfl];rfl,by rw[World.cell?_alloc_at _ _ _ _ rfl];rfl,gv.rd⟩)).mono ?_;rintro z wf ⟨pp,qq,rfl,op,oq,cp⟩;have bf:=aa be cp;have kf:=ke.l cp;have cr:=ke.1;obtain⟨po,pc,hp⟩:=op.rd.shape;subst hp;obtain⟨qo,qc,hq⟩:=oq.rd.shape;subst hq;obtain⟨hl,⟨g0,g1,g2,g3,g4,g5⟩,f0,f1,f2,f3,f4,f5⟩:=id kf;have ho:=(f6.l bs).l cp;have hr:=(f7.l bs).l cp;have hs:=(f8.l bs).l cp;have ht:=(f9.l bs).l cp;obtain⟨-,⟨l0,l4,l5⟩,-⟩:=id ho;obtain⟨-,⟨l6,l7,lf⟩,-⟩:=id hr;obtain⟨-,⟨lh,li,lj⟩,-⟩:=id hs;obtain⟨-,⟨lk,ll,lm⟩,-⟩:=id ht))
   all_goals go_wp2
   obtain⟨-,⟨u0,u1,u2,u3,u4,u5⟩,-⟩:=bP kf (.bool rs) (yT po rn pc) (yi re) (.bool qs) (yT qo qn qc) (yi qe);have bb:=aW bf ee (.bool rs) (yT po rn pc) (yi re) (.bool qs) (yT qo qn qc) (yi qe);refine bodyPost_ret (v:= .tuple #[.agg #[.bool rs,yT po rn pc,yi re,.bool qs,yT qo qn qc,yi qe],yi rc]) (by simp[results,results56,go_sem,u0,u1,u2,u3,u4,u5]) rfl ?_;exact⟨_,_,rfl,((op.apart6 cr _ _ _ _ _ _).lower be.size),((oq.apart6 cr _ _ _ _ _ _).lower be.size),bb⟩
 ·rw[if_neg hc]
  go_enter func56,ntmps56
  go_wp2_with fail
  refine d2.mono ?_;rintro z w3 ⟨rfl,b3⟩;have k3:=k2.l b3;have d3:=aa b2 b3;clear l2 m2 k2 b2 b3 d2;obtain⟨hl,⟨v0,v1,v2,v3,v4,v5⟩,f0,f1,f2,f3,f4,f5⟩:=id k3
  go_wp2
  obtain⟨-,⟨u0,u1,u2,u3,u4,u5⟩,-⟩:=bP k3 (.bool false) yN (yi 0) (.bool false) yN (yi 0);have bb:=aW d3 (show w.heap.size≤w.heap.size+1+1 by omega) (.bool false) yN (yi 0) (.bool false) yN (yi 0)
  refine bodyPost_ret (v:= .tuple #[.agg #[.bool false,yN,yi 0,.bool false,yN,yi 0],yi c]) (by simp[results,results56,go_sem,u0,u1,u2,u3,u4,u5]) rfl ?_;exact⟨_,_,rfl,aQ _ _ _ _,aQ _ _ _ _,bb⟩
theorem PInv.done {U:IvN}{c:Nat→Rat}{wU d mu t:Rat}{k:Nat}{b B a R:IvN}(h:PInv U c wU d k b B)(f: ∀k,0≤c (k+1)∧c (k+1)≤1)(g:U.inn mu)(v:U.lo≤U.hi)(i: ∀k,mu*c (k+1)≤1/2)(z:U.wd≤wU)(w:0≤d)
  (L:(k:Rat)*(2*(wU+d)+8*d)≤1)
  (H:IvN.Cut d (IvN.scl (c (k+1)) (IvN.times B U)) a) (j:a.inn t) (p:IvN.Cut d (IvN.plus b (IvN.times a ⟨1/2,2⟩)) R):
  (∀u,U.has u→ ∀m,k+2≤m→R.has (rs (tmS u c) m))∧R.wd≤((k:Rat)+2)*(2*(wU+d)+8*d)+2*t∧R.lo≤R.hi:=by
 obtain⟨C,D,n,o⟩:=h.term f g v i z w H;have s3:=h.sum_in f g v i L;have a0:0≤wU:=by unfold IvN.wd at z;grind
 have Z:=hf_one (k+1);have q:(⟨1/2,2⟩:IvN).inn 2:=by constructor<;>simp only<;>grind
 have s:(⟨1/2,2⟩:IvN).lo≤(⟨1/2,2⟩:IvN).hi:=by simp only;grind
 have J:(⟨1/2,2⟩:IvN).wd=3/2:=by unfold IvN.wd;simp only;grind
 obtain⟨Q,t2,t3⟩:=IvN.times_wd j q n s;obtain⟨_,t5,_⟩:=IvN.times_wd D q n s;have hh:hf (k+1)≤1/2:=by have:=hf_one k;simp only[hf];grind
 have K:(IvN.plus b (IvN.times a ⟨1/2,2⟩)).inn 4:=by
  unfold IvN.plus IvN.inn at*
  constructor<;>grind
 have M:(IvN.plus b (IvN.times a ⟨1/2,2⟩)).lo≤(IvN.plus b (IvN.times a ⟨1/2,2⟩)).hi:=by
  have:=h.sum_ord;unfold IvN.plus
  grind
 obtain⟨S,T⟩:=p.wd w K M;refine⟨fun u l m hm=> ?_, ?_,T⟩
 ·have N: ∀k,ab u*c (k+1)≤1/2:=fun k=>Rat.le_trans (Rat.mul_le_mul_of_nonneg_right (ab_inn g l) (f k).1) (i k)
  obtain⟨r,O,P,_,_,A⟩:=tm_tail (fun k=>(f k).1) N (m-(k+2)) (k+1)
  rw[show k+1+(m-(k+2))+1=m by omega] at A
  have x:=IvN.plus_has (h.sum_has u l) (IvN.times_has (C u l) (show(⟨1/2,2⟩:IvN).has r from⟨O,P⟩))
  rw[←A] at x;have y:=p.has x;have e:rs (tmS u c) (k+1)+(rs (tmS u c) m-rs (tmS u c) (k+1))=rs (tmS u c) m:=by grind
  rwa [e] at y
 ·have e:((k+1:Nat):Rat)=(k:Rat)+1:=by simp
  have I:((k+1+1:Nat):Rat)=(k:Rat)+1+1:=by simp
  have E:=hf_nat (k+1);have W:=hf_pos (k+1);have k0:=nat_nn k;rw[I] at E;rw[e] at o;have X:=Rat.mul_le_mul_of_nonneg_right (show hf (k+1)*((k:Rat)+1)≤1 by grind) (show 0≤2*(wU+d) by grind)
  have F:hf (k+1)*(((k:Rat)+1)*(2*(wU+d)))=hf (k+1)*((k:Rat)+1)*(2*(wU+d)):=by grind
  rw[F] at o;have Y:=h.sum_wd;have G:(IvN.plus b (IvN.times a ⟨1/2,2⟩)).wd=b.wd+(IvN.times a ⟨1/2,2⟩).wd:=by unfold IvN.plus IvN.wd;grind
  rw[G] at S;rw[J] at Q;have t0:0≤t:=by have:=j.1;have:=j.2;grind
  grind
end Go.Proofs.YthhiidikgchdeaaGreatDoor
