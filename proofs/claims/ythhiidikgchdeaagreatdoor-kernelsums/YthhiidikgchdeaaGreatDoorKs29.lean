/- Texts laid together. -/
import Derived.Test.YthhiidikgchdeaaGreatDoorKs24
import Derived.Test.YthhiidikgchdeaaGreatDoorKs25
set_option maxRecDepth 100000
set_option maxHeartbeats 3200000
namespace Go.Proofs.YthhiidikgchdeaaGreatDoor
open _root_.Go.Proofs.Tryz
open Go.RowKit
theorem iE (v u:Value)(a b:ak)(w:World)(o:Dv w v a)(k:Dv w u b)(D:(Dg.dg 4294967296 a.n).length≤200000000)(E:(Dg.dg 4294967296 b.n).length≤200000000)
  (F: -2000000000≤a.e) (G:a.e≤2000000000) (H: -2000000000≤b.e) (I:b.e≤2000000000):
  yC 22 #[v,u] w (yR w (yi (dJ (aG a (dV b))))):=by
 have f:Hid (∀c,yB w c→yC 63 #[v,u] c (jN c (aG a (dV b)))):=fun c d=>FT v u a b c (o.l d) (k.l d) D E F G H I
 obtain⟨M,rfl,p⟩:=o;obtain⟨r,B,rfl⟩:=p.shape;obtain⟨N,rfl,q⟩:=k;obtain⟨A,C,rfl⟩:=q.shape;obtain⟨T,h⟩: ∃T,aG a (dV b)=T:=⟨_,rfl⟩;rw[h] at f⊢;obtain⟨J,i⟩: ∃m,(Dg.dg 4294967296 a.n).length=m:=⟨_,rfl⟩;obtain⟨K,j⟩: ∃m,(Dg.dg 4294967296 b.n).length=m:=⟨_,rfl⟩;rw[i,j] at f⊢;clear h i j p q;have g:=aa (af w (.cells (ydA a.s (.slice r J B) a.e) 41)) (af _ (.cells (ydA b.s (.slice A K C) b.e) 41))
 go_enter func22,ntmps22
 go_wp2_with fail
 refine(f.out _ g).mono ?_;rintro z c ⟨O,rfl,L,d⟩;have t:=aa g d
 go_wp2_with fail
 refine(qB _ T c ⟨_,rfl,L.rd⟩).mono ?_;rintro z P ⟨rfl,y⟩;have x:=aa t y
 go_wp2
 go_ret
 exact⟨rfl,x⟩
theorem spanOpp_W (a b:ak)(d g:Option Addr)(c f:Nat)(w:World)
  (k:yJ 120 #[yDV b g f] (ydV (!b.s) (yT g b.n f) b.e))
  (m:yJ 120 #[yDV a d c] (ydV (!a.s) (yT d a.n c) a.e)):
  yC 102 #[.agg #[.bool a.s,yT d a.n c,yi a.e,.bool b.s,yT g b.n f,yi b.e]] w (yR w (.agg #[.bool (!b.s),yT g b.n f,yi b.e,.bool (!a.s),yT d a.n c,yi a.e])):=by
 replace k:Hid _:=k;replace m:Hid _:=m;obtain⟨u,r,q1,q2,G⟩:=iG w [.bool a.s,yT d a.n c,yi a.e,.bool b.s,yT g b.n f,yi b.e] 49 [.bool false,yN,yi 0,.bool false,yN,yi 0] 49;replace r:Hid _:=r
 go_enter func102,ntmps102
 go_upto_region 1 with fail
 rw[r.out];clear r
 go_upto_region 1 with fail
 have o:yB u u.drew:=(Below.refl _ _).drew;have t:=q1.l o;have C:=q2.l o;have v:=aa G o;clear q1 q2 G o;refine wp_region_held_drew (S:=fun R=>au R w.heap.size 49 [.bool a.s,yT d a.n c,yi a.e,.bool b.s,yT g b.n f,yi b.e]) (by kernel_rfl) t (fun i=> ?_)
 generalize u.drew=W at t C v i⊢;refine tq 0 (.pointer (some ⟨w.heap.size,3,none⟩)) rfl (fun _ _=>by kernel_rfl) i ?_
 refine tq 1 (yDV b g f) rfl (fun _ y=>fy 41 (.tmp 3) rfl w.heap.size 3 (by kernel_rfl) _ _ (kY y 3 3 rfl) underlying41 rfl (by kernel_rfl)) i ?_
 refine tq 3 (.pointer (some ⟨w.heap.size,0,none⟩)) rfl (fun _ _=>by kernel_rfl) i ?_
 refine tq 4 (yDV a d c) rfl (fun _ y=>fy 41 (.tmp 6) rfl w.heap.size 0 (by kernel_rfl) _ _ (kY y 0 3 rfl) underlying41 rfl (by kernel_rfl)) i ?_
 refine wpAnyH_ready (rs:=[2]) (by kernel_rfl) (by simp) ?_;refine AllReadyH.cons rfl (fun K h=> ?_) AllReadyH.nil
 go_simp
 refine(k.out _).mono ?_;rintro T X ⟨rfl,p⟩;have z:=t.l p;have J:=C.l p;have D:=aa v p;clear t C v p k;refine h.out _ _ z (fun N=> ?_)
 clear h K;refine wpAnyH_ready (rs:=[5]) (by kernel_rfl) (by simp) ?_;refine AllReadyH.cons rfl (fun K h=> ?_) AllReadyH.nil
 go_simp
 refine(m.out _).mono ?_;rintro T j ⟨rfl,q⟩;have A:=z.l q;have B:=J.l q;have E:=aa D q;clear z J D q m;refine h.out _ _ A (fun H=> ?_)
 clear h K;refine tq 6 (.agg #[.bool (!b.s),yT g b.n f,yi b.e,.bool (!a.s),yT d a.n c,yi a.e]) rfl (fun _ _=>by kernel_rfl) H ?_
 refine wpAnyH_ready (rs:=[7]) (by kernel_rfl) (by simp) ?_;refine AllReadyH.cons rfl (fun K h=> ?_) AllReadyH.nil
 have x:But (w.heap.size+1) j (j.setCells (w.heap.size+1) 0 [.bool (!b.s),yT g b.n f,yi b.e,.bool (!a.s),yT d a.n c,yi a.e]):=de _ _ _ _;have I:j.there (w.heap.size+1) 0 6:=dD B;have L:au (j.setCells (w.heap.size+1) 0 [.bool (!b.s),yT g b.n f,yi b.e,.bool (!a.s),yT d a.n c,yi a.e]) (w.heap.size+1) 49 [.bool (!b.s),yT g b.n f,yi b.e,.bool (!a.s),yT d a.n c,yi a.e]:=B.sets _ rfl;have M:=x.loc A (by omega);have F:=x.below E (by omega);rw[if_pos (by kernel_rfl)];refine wp_store_mid 49 (.tmp 2) (.tmp 9) rfl (w.heap.size+1) 0 #[.bool (!b.s),yT g b.n f,yi b.e,.bool (!a.s),yT d a.n c,yi a.e] (by kernel_rfl) (by kernel_rfl) I (by kernel_rfl) (by simp[Value.oneCell']) ?_;refine h.out _ _ M (fun O=> ?_)
 clear h K;clear B A E x I;refine wpAnyH_done (by kernel_rfl) ?_ _;clear i N H O;change Exit.then _ _ _ _ (World.setCells j (w.heap.size+1) 0 [.bool (!b.s),yT g b.n f,yi b.e,.bool (!a.s),yT d a.n c,yi a.e]);generalize World.setCells j (w.heap.size+1) 0 [.bool (!b.s),yT g b.n f,yi b.e,.bool (!a.s),yT d a.n c,yi a.e]=U at M L F⊢;simp only[Act.put,List.getElem_toArray,List.getElem_cons_succ,List.getElem_cons_zero];have Q:=run_loadVar_mid (P:=Tryz.prog) _ (w.heap.size+1) 0 49 [.bool (!b.s),yT g b.n f,yi b.e,.bool (!a.s),yT d a.n c,yi a.e] _ L.range underlying49 rfl (by kernel_rfl)
 go_wp2
 exact bodyPost_ret (br results102 rfl Q) rfl ⟨rfl,F⟩
theorem sumsLn2_W (a b c m n p q r s u v x y:ak)(k pe qe re se:Int)(w:World)
  (H1: ∀d,yB w d→yC 127 #[yi 26,yi k] d (aeT d a b))
  (H2: ∀d,yB w d→yC 25 #[yi 18] d (aeT d c c))
  (H3: ∀ao ac bo bc co cc eo ec d,yB w d→Rd d .u32 (yT ao a.n ac) (Dg.dg 4294967296 a.n)→Rd d .u32 (yT bo b.n bc) (Dg.dg 4294967296 b.n)→Rd d .u32 (yT co c.n cc) (Dg.dg 4294967296 c.n)→Rd d .u32 (yT eo c.n ec) (Dg.dg 4294967296 c.n)→yC 101 #[.agg #[.bool a.s,yT ao a.n ac,yi a.e,.bool b.s,yT bo b.n bc,yi b.e],.agg #[.bool c.s,yT co c.n cc,yi c.e,.bool c.s,yT eo c.n ec,yi c.e]] d (aeT d m n))
  (H4: ∀d,yB w d→yC 127 #[yi 4801,yi k] d (aeT d p q))
  (H5: ∀E D G F d,yC 77 #[.agg #[.bool p.s,yT E p.n D,yi p.e,.bool q.s,yT G q.n F,yi q.e],yi 1] d (yR d (.agg #[.bool p.s,yT E p.n D,yi pe,.bool q.s,yT G q.n F,yi qe])))
  (H6: ∀d,yB w d→yC 127 #[yi 8749,yi k] d (aeT d r s))
  (H7: ∀I H L J d,yC 77 #[.agg #[.bool r.s,yT I r.n H,yi r.e,.bool s.s,yT L s.n J,yi s.e],yi 3] d (yR d (.agg #[.bool r.s,yT I r.n H,yi re,.bool s.s,yT L s.n J,yi se])))
  (H8: ∀Y X no Z E D G F d,yB w d→Rd d .u32 (yT Y m.n X) (Dg.dg 4294967296 m.n)→Rd d .u32 (yT no n.n Z) (Dg.dg 4294967296 n.n)→Rd d .u32 (yT E p.n D) (Dg.dg 4294967296 p.n)→Rd d .u32 (yT G q.n F) (Dg.dg 4294967296 q.n)→yC 126 #[.agg #[.bool m.s,yT Y m.n X,yi m.e,.bool n.s,yT no n.n Z,yi n.e],.agg #[.bool p.s,yT E p.n D,yi pe,.bool q.s,yT G q.n F,yi qe]] d (aeT d u v))
  (H9: ∀uo uc vo vc I H L J d,yB w d→Rd d .u32 (yT uo u.n uc) (Dg.dg 4294967296 u.n)→Rd d .u32 (yT vo v.n vc) (Dg.dg 4294967296 v.n)→Rd d .u32 (yT I r.n H) (Dg.dg 4294967296 r.n)→Rd d .u32 (yT L s.n J) (Dg.dg 4294967296 s.n)→yC 103 #[.agg #[.bool u.s,yT uo u.n uc,yi u.e,.bool v.s,yT vo v.n vc,yi v.e],.agg #[.bool r.s,yT I r.n H,yi re,.bool s.s,yT L s.n J,yi se]] d (aeT d x y)):
  yC 74 #[yi k] w (aeT w x y):=by
 replace H1:Hid _:=H1;replace H2:Hid _:=H2;replace H3:Hid _:=H3;replace H4:Hid _:=H4;replace H5:Hid _:=H5;replace H6:Hid _:=H6;replace H7:Hid _:=H7;replace H8:Hid _:=H8;replace H9:Hid _:=H9;obtain⟨W3,a5,q1,b2⟩:=cA w [.bool false,yN,yi 0,.bool false,yN,yi 0] 49;replace a5:Hid _:=a5
 go_enter func74,ntmps74
 go_upto_region 1 with fail
 rw[a5.out];clear a5
 go_wp2_with fail
 refine(H1.out _ b2).mono ?_;rintro O w5 ⟨g7,gg,rfl,c9,cd,b7⟩;have cp:=q1.l b7;have b0:=aa b2 b7;obtain⟨ao,ac,f⟩:=c9.shape;subst f;obtain⟨bo,bc,f⟩:=cd.shape;subst f;clear q1 b2 b7 H1
 go_wp2_with fail
 refine(H2.out _ b0).mono ?_;rintro O gj ⟨g2,ga,rfl,ar,ay,a1⟩;have cv:=cp.l a1;have ca:=c9.l a1;have cb:=cd.l a1;have b3:=aa b0 a1;obtain⟨co,cc,f⟩:=ar.shape;subst f;obtain⟨eo,ec,f⟩:=ay.shape;subst f;clear cp c9 cd b0 a1 H2
 go_wp2_with fail
 refine(H3.out _ _ _ _ _ _ _ _ _ b3 ca cb ar ay).mono ?_;rintro O gm ⟨g4,gb,rfl,c6,ce,Q⟩;have cy:=cv.l Q;have e5:=ca.l Q;have e6:=cb.l Q;have e7:=ar.l Q;have e8:=ay.l Q;have b4:=aa b3 Q;obtain⟨Y,X,f⟩:=c6.shape;subst f;obtain⟨no,Z,f⟩:=ce.shape;subst f;clear cv ca cb ar ay b3 Q H3
 go_wp2_with fail
 refine(H4.out _ b4).mono ?_;rintro O gp ⟨g5,gc,rfl,c7,cg,C⟩;have cz:=cy.l C;have e9:=e5.l C;have ea:=e6.l C;have eb:=e7.l C;have ed:=e8.l C;have ee:=c6.l C;have ef:=ce.l C;have cl:=aa b4 C;obtain⟨E,D,f⟩:=c7.shape;subst f;obtain⟨G,F,f⟩:=cg.shape;subst f;clear cy e5 e6 e7 e8 c6 ce b4 C H4
 go_wp2_with fail
 refine(H5.out _ _ _ _ _).mono ?_;rintro O gq ⟨rfl,A⟩;have d0:=cz.l A;have eg:=e9.l A;have eh:=ea.l A;have ei:=eb.l A;have ej:=ed.l A;have ek:=ee.l A;have el:=ef.l A;have em:=c7.l A;have en:=cg.l A;have b5:=aa cl A;clear cz e9 ea eb ed ee ef c7 cg cl A H5
 go_wp2_with fail
 refine(H6.out _ b5).mono ?_;rintro O gr ⟨g6,gd,rfl,c8,ch,B⟩;have d1:=d0.l B;have ep:=eg.l B;have es:=eh.l B;have et:=ei.l B;have eu:=ej.l B;have ev:=ek.l B;have ex:=el.l B;have ey:=em.l B;have f0:=en.l B;have cm:=aa b5 B;obtain⟨I,H,f⟩:=c8.shape;subst f;obtain⟨L,J,f⟩:=ch.shape;subst f;clear d0 eg eh ei ej ek el em en b5 B H6
 go_wp2_with fail
 refine(H7.out _ _ _ _ _).mono ?_;rintro O N ⟨rfl,z⟩;have bg:=d1.l z;have f1:=ep.l z;have f2:=es.l z;have f3:=et.l z;have f4:=eu.l z;have f5:=ev.l z;have f6:=ex.l z;have f7:=ey.l z;have f8:=f0.l z;have f9:=c8.l z;have fa:=ch.l z;have b6:=aa cm z;clear d1 ep es et eu ev ex ey f0 c8 ch cm z H7;obtain⟨az,a6,d2,d3,d4,t⟩:=lG N [.bool m.s,yT Y m.n X,yi m.e,.bool n.s,yT no n.n Z,yi n.e] 49 [.bool p.s,yT E p.n D,yi pe,.bool q.s,yT G q.n F,yi qe] 49 [.bool r.s,yT I r.n H,yi re,.bool s.s,yT L s.n J,yi se] 49;replace a6:Hid _:=a6;have fx:w.heap.size≤N.heap.size:=b6.size;have g0:=bg.lt;have d5:=bg.l t;have d6:=f1.l t;have d7:=f2.l t;have d9:=f3.l t;have da:=f4.l t;have db:=f5.l t;have dc:=f6.l t;have dd:=f7.l t;have dl:=f8.l t;have dn:=f9.l t;have dp:=fa.l t;have ci:=aa b6 t;clear bg f1 f2 f3 f4 f5 f6 f7 f8 f9 fa b6 t
 go_upto_region 2 with fail
 rw[a6.out];clear a6
 go_upto_region 2 with fail
 have j:yB az az.drew:=(Below.refl _ _).drew;have b8:=d5.l j;have a7:=d2.l j;have a8:=d3.l j;have a9:=d4.l j;have bh:=d6.l j;have bi:=d7.l j;have bj:=d9.l j;have bl:=da.l j;have ad:=db.l j;have ae:=dc.l j;have al:=dd.l j;have an:=dl.l j;have bm:=dn.l j;have bn:=dp.l j;have a4:=aa ci j;clear d5 d2 d3 d4 d6 d7 d9 da db dc dd dl dn dp ci j;refine wp_region_held_drew (S:=fun wq=>au wq N.heap.size 49 [.bool m.s,yT Y m.n X,yi m.e,.bool n.s,yT no n.n Z,yi n.e]∧au wq (N.heap.size+1) 49 [.bool p.s,yT E p.n D,yi pe,.bool q.s,yT G q.n F,yi qe]∧au wq (N.heap.size+1+1) 49 [.bool r.s,yT I r.n H,yi re,.bool s.s,yT L s.n J,yi se]) (by kernel_rfl) ⟨a7,a8,a9⟩ (fun a2=> ?_)
 generalize az.drew=fv at b8 a7 a8 a9 bh bi bj bl ad ae al an bm bn a4 a2⊢;refine tq 0 (.agg #[.bool m.s,yT Y m.n X,yi m.e,.bool n.s,yT no n.n Z,yi n.e]) rfl (fun _ a3=>fy 49 (.tmp 3) rfl N.heap.size 0 (by kernel_rfl) _ _ a3.1.range underlying49 rfl (by kernel_rfl)) a2 ?_
 refine tq 1 (.agg #[.bool p.s,yT E p.n D,yi pe,.bool q.s,yT G q.n F,yi qe]) rfl (fun _ a3=>fy 49 (.tmp 4) rfl (N.heap.size+1) 0 (by kernel_rfl) _ _ a3.2.1.range underlying49 rfl (by kernel_rfl)) a2 ?_
 refine tq 3 (.agg #[.bool r.s,yT I r.n H,yi re,.bool s.s,yT L s.n J,yi se]) rfl (fun _ a3=>fy 49 (.tmp 5) rfl (N.heap.size+1+1) 0 (by kernel_rfl) _ _ a3.2.2.range underlying49 rfl (by kernel_rfl)) a2 ?_
 refine wpAnyH_ready (rs:=[2]) (by kernel_rfl) (by simp) ?_;refine AllReadyH.cons rfl (fun K M=> ?_) AllReadyH.nil
 go_simp
 refine(H8.out _ _ _ _ _ _ _ _ _ a4 ad ae al an).mono ?_;rintro O gi ⟨g1,g8,rfl,ap,av,o⟩;have cr:=b8.l o;have b9:=a7.l o;have ba:=a8.l o;have bb:=a9.l o;have dq:=bh.l o;have ds:=bi.l o;have dt:=bj.l o;have dv:=bl.l o;have dy:=ad.l o;have e0:=ae.l o;have e1:=al.l o;have e2:=an.l o;have bp:=bm.l o;have bq:=bn.l o;have b1:=aa a4 o;obtain⟨uo,uc,f⟩:=ap.shape;subst f;obtain⟨vo,vc,f⟩:=av.shape;subst f;clear b8 a7 a8 a9 bh bi bj bl ad ae al an bm bn a4 o H8;refine M.out _ _ ⟨b9,ba,bb⟩ (fun fb=> ?_)
 clear M K;refine wpAnyH_ready (rs:=[4]) (by kernel_rfl) (by simp) ?_;refine AllReadyH.cons rfl (fun K M=> ?_) AllReadyH.nil
 go_simp
 refine(H9.out _ _ _ _ _ _ _ _ _ b1 ap av bp bq).mono ?_;rintro O a0 ⟨g3,g9,rfl,aq,ax,h⟩;have i:=cr.l h;have bd:=b9.l h;have be:=ba.l h;have bf:=bb.l h;have bs:=dq.l h;have bt:=ds.l h;have bv:=dt.l h;have bw:=dv.l h;have bx:=dy.l h;have bz:=e0.l h;have c0:=e1.l h;have c1:=e2.l h;have c2:=bp.l h;have c3:=bq.l h;have c4:=ap.l h;have c5:=av.l h;have cj:=aa b1 h;obtain⟨T,R,f⟩:=aq.shape;subst f;obtain⟨W,U,f⟩:=ax.shape;subst f;clear cr b9 ba bb dq ds dt dv dy e0 e1 e2 bp bq ap av b1 h H9;refine M.out _ _ ⟨bd,be,bf⟩ (fun fc=> ?_)
 clear M K;refine wpAnyH_ready (rs:=[5]) (by kernel_rfl) (by simp) ?_;refine AllReadyH.cons rfl (fun K M=> ?_) AllReadyH.nil
 have g:But w.heap.size a0 (a0.setCells w.heap.size 0 [.bool x.s,yT T x.n R,yi x.e,.bool y.s,yT W y.n U,yi y.e]):=de _ _ _ _;have cn:a0.there w.heap.size 0 6:=dD i;have cs:au (a0.setCells w.heap.size 0 [.bool x.s,yT T x.n R,yi x.e,.bool y.s,yT W y.n U,yi y.e]) w.heap.size 49 [.bool x.s,yT T x.n R,yi x.e,.bool y.s,yT W y.n U,yi y.e]:=i.sets _ rfl;have fe:=g.rd bs (aX bs i (by simp));have ff:=g.rd bt (aX bt i (by simp));have fg:=g.rd bv (aX bv i (by simp));have fi:=g.rd bw (aX bw i (by simp));have fj:=g.rd bx (aX bx i (by simp));have fk:=g.rd bz (aX bz i (by simp));have fl:=g.rd c0 (aX c0 i (by simp));have fn:=g.rd c1 (aX c1 i (by simp));have fo:=g.rd c2 (aX c2 i (by simp));have fp:=g.rd c3 (aX c3 i (by simp));have fr:=g.rd c4 (aX c4 i (by simp));have fs:=g.rd c5 (aX c5 i (by simp));have e3:=g.rd aq (aX aq i (by simp));have e4:=g.rd ax (aX ax i (by simp));have ct:=g.loc bd (by omega);have cw:=g.loc be (by omega);have cx:=g.loc bf (by omega);have ck:=g.below cj (by omega);rw[if_pos (by kernel_rfl)];refine wp_store_mid 49 (.tmp 2) (.tmp 20) rfl w.heap.size 0 #[.bool x.s,yT T x.n R,yi x.e,.bool y.s,yT W y.n U,yi y.e] (by kernel_rfl) (by kernel_rfl) cn (by kernel_rfl) (by simp[Value.oneCell']) ?_;refine M.out _ _ ⟨ct,cw,cx⟩ (fun fd=> ?_)
 clear M K;clear i bs bt bv bw bx bz c0 c1 c2 c3 c4 c5 aq ax bd be bf cj g cn;refine wpAnyH_done (by kernel_rfl) ?_ _;clear a2 fb fc fd;change Exit.then _ _ _ _ (World.setCells a0 w.heap.size 0 [.bool x.s,yT T x.n R,yi x.e,.bool y.s,yT W y.n U,yi y.e]);generalize World.setCells a0 w.heap.size 0 [.bool x.s,yT T x.n R,yi x.e,.bool y.s,yT W y.n U,yi y.e]=ft at cs ct cw cx fe ff fg fi fj fk fl fn fo fp fr fs e3 e4 ck⊢;simp only[Act.put,List.getElem_toArray,List.getElem_cons_succ,List.getElem_cons_zero];have hl:=run_loadVar_mid (P:=Tryz.prog) _ (w.heap.size) 0 49 [.bool x.s,yT T x.n R,yi x.e,.bool y.s,yT W y.n U,yi y.e] _ cs.range underlying49 rfl (by kernel_rfl)
 go_wp2
 exact bodyPost_ret (br results74 rfl hl) rfl ⟨_,_,rfl,e3,e4,ck⟩
theorem spanOver_W (a b p q:ak)(E H J M:Option Addr)(D G I L:Nat)(i j m o x y u v:ak)(k:Int)(w:World)
  (H0: ∀c,yB w c→yC 125 #[yDV a E D,yDV p J I,yi k] c (Lx c i))
  (H1: ∀c,yB w c→yC 125 #[yDV a E D,yDV q M L,yi k] c (Lx c j))
  (H2: ∀c,yB w c→yC 125 #[yDV b H G,yDV p J I,yi k] c (Lx c m))
  (H3: ∀c,yB w c→yC 125 #[yDV b H G,yDV q M L,yi k] c (Lx c o))
  (HA: ∀pb X Z a1 a3 W Y a0 a2 c,yB w c→au c pb 41 [.bool i.s,yT X i.n W,yi i.e,.bool j.s,yT Z j.n Y,yi j.e,.bool m.s,yT a1 m.n a0,yi m.e,.bool o.s,yT a3 o.n a2,yi o.e]→Rd c .u32 (yT X i.n W) (Dg.dg 4294967296 i.n)→Rd c .u32 (yT Z j.n Y) (Dg.dg 4294967296 j.n)→Rd c .u32 (yT a1 m.n a0) (Dg.dg 4294967296 m.n)→Rd c .u32 (yT a3 o.n a2) (Dg.dg 4294967296 o.n)→yC 130 #[.slice (some ⟨pb,0,none⟩) 4 4] c (aeT c x y))
  (HC: ∀xo xc yo yc c,yB w c→Rd c .u32 (yT xo x.n xc) (Dg.dg 4294967296 x.n)→Rd c .u32 (yT yo y.n yc) (Dg.dg 4294967296 y.n)→yC 69 #[.agg #[.bool x.s,yT xo x.n xc,yi x.e,.bool y.s,yT yo y.n yc,yi y.e],yi k] c (aeT c u v)):
  yC 79 #[.agg #[.bool a.s,yT E a.n D,yi a.e,.bool b.s,yT H b.n G,yi b.e],.agg #[.bool p.s,yT J p.n I,yi p.e,.bool q.s,yT M q.n L,yi q.e],yi k] w (aeT w u v):=by
 replace H0:Hid _:=H0;replace H1:Hid _:=H1;replace H2:Hid _:=H2;replace H3:Hid _:=H3;replace HA:Hid _:=HA;replace HC:Hid _:=HC;obtain⟨W5,a9,q1,q2,q3,b4⟩:=lG w [.bool a.s,yT E a.n D,yi a.e,.bool b.s,yT H b.n G,yi b.e] 49 [.bool p.s,yT J p.n I,yi p.e,.bool q.s,yT M q.n L,yi q.e] 49 [.bool false,yN,yi 0,.bool false,yN,yi 0] 49;replace a9:Hid _:=a9
 go_enter func79,ntmps79
 go_upto_region 1 with fail
 rw[a9.out];clear a9
 go_upto_region 1 with fail
 have a4:yB W5 W5.drew:=(Below.refl _ _).drew;have q8:=q1.l a4;have q9:=q2.l a4;have b8:=q3.l a4;have a7:=aa b4 a4;clear q1 q2 q3 b4 a4;refine wp_region_held_drew (S:=fun wq=>au wq w.heap.size 49 [.bool a.s,yT E a.n D,yi a.e,.bool b.s,yT H b.n G,yi b.e]∧au wq (w.heap.size+1) 49 [.bool p.s,yT J p.n I,yi p.e,.bool q.s,yT M q.n L,yi q.e]) (by kernel_rfl) ⟨q8,q9⟩ (fun f=> ?_)
 generalize W5.drew=db at q8 q9 b8 a7 f⊢;refine tq 0 (.pointer (some ⟨w.heap.size,0,none⟩)) rfl (fun _ _=>by kernel_rfl) f ?_
 refine tq 1 (yDV a E D) rfl (fun _ h=>fy 41 (.tmp 7) rfl w.heap.size 0 (by kernel_rfl) _ _ (kY h.1 0 3 rfl) underlying41 rfl (by kernel_rfl)) f ?_
 refine tq 2 (.pointer (some ⟨w.heap.size+1,0,none⟩)) rfl (fun _ _=>by kernel_rfl) f ?_
 refine tq 3 (yDV p J I) rfl (fun _ h=>fy 41 (.tmp 9) rfl (w.heap.size+1) 0 (by kernel_rfl) _ _ (kY h.2 0 3 rfl) underlying41 rfl (by kernel_rfl)) f ?_
 refine tq 4 (yi k) rfl (fun _ _=>by kernel_rfl) f ?_
 refine tq 6 (.pointer (some ⟨w.heap.size,0,none⟩)) rfl (fun _ _=>by kernel_rfl) f ?_
 refine tq 7 (yDV a E D) rfl (fun _ h=>fy 41 (.tmp 13) rfl w.heap.size 0 (by kernel_rfl) _ _ (kY h.1 0 3 rfl) underlying41 rfl (by kernel_rfl)) f ?_
 refine tq 8 (.pointer (some ⟨w.heap.size+1,3,none⟩)) rfl (fun _ _=>by kernel_rfl) f ?_
 refine tq 9 (yDV q M L) rfl (fun _ h=>fy 41 (.tmp 15) rfl (w.heap.size+1) 3 (by kernel_rfl) _ _ (kY h.2 3 3 rfl) underlying41 rfl (by kernel_rfl)) f ?_
 refine tq 10 (yi k) rfl (fun _ _=>by kernel_rfl) f ?_
 refine tq 12 (.pointer (some ⟨w.heap.size,3,none⟩)) rfl (fun _ _=>by kernel_rfl) f ?_
 refine tq 13 (yDV b H G) rfl (fun _ h=>fy 41 (.tmp 19) rfl w.heap.size 3 (by kernel_rfl) _ _ (kY h.1 3 3 rfl) underlying41 rfl (by kernel_rfl)) f ?_
 refine tq 14 (.pointer (some ⟨w.heap.size+1,0,none⟩)) rfl (fun _ _=>by kernel_rfl) f ?_
 refine tq 15 (yDV p J I) rfl (fun _ h=>fy 41 (.tmp 21) rfl (w.heap.size+1) 0 (by kernel_rfl) _ _ (kY h.2 0 3 rfl) underlying41 rfl (by kernel_rfl)) f ?_
 refine tq 16 (yi k) rfl (fun _ _=>by kernel_rfl) f ?_
 refine tq 18 (.pointer (some ⟨w.heap.size,3,none⟩)) rfl (fun _ _=>by kernel_rfl) f ?_
 refine tq 19 (yDV b H G) rfl (fun _ h=>fy 41 (.tmp 25) rfl w.heap.size 3 (by kernel_rfl) _ _ (kY h.1 3 3 rfl) underlying41 rfl (by kernel_rfl)) f ?_
 refine tq 20 (.pointer (some ⟨w.heap.size+1,3,none⟩)) rfl (fun _ _=>by kernel_rfl) f ?_
 refine tq 21 (yDV q M L) rfl (fun _ h=>fy 41 (.tmp 27) rfl (w.heap.size+1) 3 (by kernel_rfl) _ _ (kY h.2 3 3 rfl) underlying41 rfl (by kernel_rfl)) f ?_
 refine tq 22 (yi k) rfl (fun _ _=>by kernel_rfl) f ?_
 refine tq 26 (yi k) rfl (fun _ _=>by kernel_rfl) f ?_
 refine wpAnyH_ready (rs:=[5]) (by kernel_rfl) (by simp) ?_;refine AllReadyH.cons rfl (fun K d=> ?_) AllReadyH.nil
 go_simp
 refine(H0.out _ a7).mono ?_;rintro zz dy ⟨dd,rfl,bq,a5⟩;have b9:=q8.l a5;have ba:=q9.l a5;have c8:=b8.l a5;have b2:=aa a7 a5;obtain⟨X,W,g⟩:=bq.shape;subst g;clear q8 q9 b8 a7 a5 H0;refine d.out _ _ ⟨b9,ba⟩ (fun cs=> ?_)
 clear d K;refine wpAnyH_ready (rs:=[11]) (by kernel_rfl) (by simp) ?_;refine AllReadyH.cons rfl (fun K d=> ?_) AllReadyH.nil
 go_simp
 refine(H1.out _ b2).mono ?_;rintro zz e0 ⟨dl,rfl,bs,T⟩;have bb:=b9.l T;have bd:=ba.l T;have c9:=c8.l T;have ce:=bq.l T;have b3:=aa b2 T;obtain⟨Z,Y,g⟩:=bs.shape;subst g;clear b9 ba c8 bq b2 T H1;refine d.out _ _ ⟨bb,bd⟩ (fun ct=> ?_)
 clear d K;refine wpAnyH_ready (rs:=[17]) (by kernel_rfl) (by simp) ?_;refine AllReadyH.cons rfl (fun K d=> ?_) AllReadyH.nil
 go_simp
 refine(H2.out _ b3).mono ?_;rintro zz e1 ⟨dn,rfl,bt,F⟩;have be:=bb.l F;have bf:=bd.l F;have ca:=c9.l F;have cg:=ce.l F;have ch:=bs.l F;have b5:=aa b3 F;obtain⟨a1,a0,g⟩:=bt.shape;subst g;clear bb bd c9 ce bs b3 F H2;refine d.out _ _ ⟨be,bf⟩ (fun cv=> ?_)
 clear d K;refine wpAnyH_ready (rs:=[23]) (by kernel_rfl) (by simp) ?_;refine AllReadyH.cons rfl (fun K d=> ?_) AllReadyH.nil
 go_simp
 refine(H3.out _ b5).mono ?_;rintro zz a6 ⟨dp,rfl,bv,C⟩;have ad:=be.l C;have ae:=bf.l C;have bg:=ca.l C;have ci:=cg.l C;have cj:=ch.l C;have ck:=bt.l C;have b6:=aa b5 C;obtain⟨a3,a2,g⟩:=bv.shape;subst g;clear be bf ca cg ch bt b5 C H3;refine d.out _ _ ⟨ad,ae⟩ (fun cw=> ?_)
 clear d K;refine wpAnyH_ready (rs:=[24]) (by kernel_rfl) (by simp) ?_;refine AllReadyH.cons rfl (fun K d=> ?_) AllReadyH.nil
 go_simp
 have A:=af a6 (.cells #[.bool i.s,yT X i.n W,yi i.e,.bool j.s,yT Z j.n Y,yi j.e,.bool m.s,yT a1 m.n a0,yi m.e,.bool o.s,yT a3 o.n a2,yi o.e] 41);have al:=ah a6 [.bool i.s,yT X i.n W,yi i.e,.bool j.s,yT Z j.n Y,yi j.e,.bool m.s,yT a1 m.n a0,yi m.e,.bool o.s,yT a3 o.n a2,yi o.e] 41;have cy:w.heap.size≤a6.heap.size:=b6.size;have cz:=ad.lt;have d0:=ae.lt;have d1:=bg.lt;have an:=ad.l A;have ap:=ae.l A;have bh:=bg.l A;have ay:=ci.l A;have az:=cj.l A;have b0:=ck.l A;have b1:=bv.l A;have a8:=aa b6 A;refine d.out _ _ ⟨an,ap⟩ (fun c3=> ?_)
 clear d K;clear ad ae bg ci cj ck bv b6 A;generalize a6.alloc (.cells #[.bool i.s,yT X i.n W,yi i.e,.bool j.s,yT Z j.n Y,yi j.e,.bool m.s,yT a1 m.n a0,yi m.e,.bool o.s,yT a3 o.n a2,yi o.e] 41)=dc at an ap bh al ay az b0 b1 a8 c3⊢;generalize a6.heap.size=d9 at al cy cz d0 d1⊢;refine wpAnyH_ready (rs:=[25]) (by kernel_rfl) (by simp) ?_;refine AllReadyH.cons rfl (fun K d=> ?_) AllReadyH.nil
 go_simp
 refine(HA.out _ _ _ _ _ _ _ _ _ _ a8 al ay az b0 b1).mono ?_;rintro zz e2 ⟨dq,dt,rfl,aq,av,B⟩;have bi:=an.l B;have bj:=ap.l B;have cb:=bh.l B;have cl:=ay.l B;have cm:=az.l B;have cn:=b0.l B;have co:=b1.l B;have b7:=aa a8 B;obtain⟨xo,xc,g⟩:=aq.shape;subst g;obtain⟨yo,yc,g⟩:=av.shape;subst g;clear an ap bh al ay az b0 b1 a8 B HA;refine d.out _ _ ⟨bi,bj⟩ (fun cx=> ?_)
 clear d K;refine wpAnyH_ready (rs:=[27]) (by kernel_rfl) (by simp) ?_;refine AllReadyH.cons rfl (fun K d=> ?_) AllReadyH.nil
 go_simp
 refine(HC.out _ _ _ _ _ b7 aq av).mono ?_;rintro zz U ⟨ds,dv,rfl,ar,ax,t⟩;have bl:=bi.l t;have bm:=bj.l t;have z:=cb.l t;have bw:=cl.l t;have bx:=cm.l t;have bz:=cn.l t;have c0:=co.l t;have bn:=aq.l t;have bp:=av.l t;have c1:=aa b7 t;obtain⟨O,N,g⟩:=ar.shape;subst g;obtain⟨R,Q,g⟩:=ax.shape;subst g;clear bi bj cb cl cm cn co aq av b7 t HC;refine d.out _ _ ⟨bl,bm⟩ (fun cp=> ?_)
 clear d K;refine wpAnyH_ready (rs:=[28]) (by kernel_rfl) (by simp) ?_;refine AllReadyH.cons rfl (fun K d=> ?_) AllReadyH.nil
 have r:But (w.heap.size+1+1) U (U.setCells (w.heap.size+1+1) 0 [.bool u.s,yT O u.n N,yi u.e,.bool v.s,yT R v.n Q,yi v.e]):=de _ _ _ _;have c4:U.there (w.heap.size+1+1) 0 6:=dD z;have c5:au (U.setCells (w.heap.size+1+1) 0 [.bool u.s,yT O u.n N,yi u.e,.bool v.s,yT R v.n Q,yi v.e]) (w.heap.size+1+1) 49 [.bool u.s,yT O u.n N,yi u.e,.bool v.s,yT R v.n Q,yi v.e]:=z.sets _ rfl;have d2:=r.rd bw (aX bw z (by simp));have d3:=r.rd bx (aX bx z (by simp));have d4:=r.rd bz (aX bz z (by simp));have d5:=r.rd c0 (aX c0 z (by simp));have d6:=r.rd bn (aX bn z (by simp));have d7:=r.rd bp (aX bp z (by simp));have cc:=r.rd ar (aX ar z (by simp));have cd:=r.rd ax (aX ax z (by simp));have c6:=r.loc bl (by omega);have c7:=r.loc bm (by omega);have c2:=r.below c1 (by omega);rw[if_pos (by kernel_rfl)];refine wp_store_mid 49 (.tmp 6) (.tmp 34) rfl (w.heap.size+1+1) 0 #[.bool u.s,yT O u.n N,yi u.e,.bool v.s,yT R v.n Q,yi v.e] (by kernel_rfl) (by kernel_rfl) c4 (by kernel_rfl) (by simp[Value.oneCell']) ?_;refine d.out _ _ ⟨c6,c7⟩ (fun cr=> ?_)
 clear d K;clear z bw bx bz c0 bn bp ar ax bl bm c1 r c4;refine wpAnyH_done (by kernel_rfl) ?_ _;clear f cs ct cv cw c3 cx cp cr;change Exit.then _ _ _ _ (World.setCells U (w.heap.size+1+1) 0 [.bool u.s,yT O u.n N,yi u.e,.bool v.s,yT R v.n Q,yi v.e]);generalize World.setCells U (w.heap.size+1+1) 0 [.bool u.s,yT O u.n N,yi u.e,.bool v.s,yT R v.n Q,yi v.e]=da at c6 c7 c5 d2 d3 d4 d5 d6 d7 cc cd c2⊢;simp only[Act.put,List.getElem_toArray,List.getElem_cons_succ,List.getElem_cons_zero];have hl:=run_loadVar_mid (P:=Tryz.prog) _ (w.heap.size+1+1) 0 49 [.bool u.s,yT O u.n N,yi u.e,.bool v.s,yT R v.n Q,yi v.e] _ c5.range underlying49 rfl (by kernel_rfl)
 go_wp2
 exact bodyPost_ret (br results79 rfl hl) rfl ⟨_,_,rfl,cc,cd,c2⟩
theorem Ag.l {W a:World}{base:Nat}{v:Value}(h:Ag W base v)(e:yB W a):Ag a base v:=by
 obtain⟨p,b,c,d⟩:=h;exact⟨p,b,c,d.l e⟩
def BT (W:World)(base:Nat)(v:Value):Prop:= ∃p,v= .pointer (some ⟨p,0,none⟩)∧base≤p∧mL W p (.bool false) yN (yi 0) (.bool false) yN (yi 0)∧ZB6 W p
theorem BT.l {W a:World}{base:Nat}{v:Value}(h:BT W base v)(b:yB W a):BT a base v:=by
 obtain⟨p,c,d,e,f⟩:=h;exact⟨p,c,d,e.l b,f.l b⟩
theorem V4.l {W a:World}{base:Nat}{v:Value}(h:V4 W base v)(b:yB W a):V4 a base v:=by
 obtain⟨p,c,d,e,f⟩:=h;exact⟨p,c,d,e.l b,f.l b⟩
theorem RB6.l {W a:World}{v:Value}{x y:ak}(h:RB6 W v x y)(b:yB W a):RB6 a v x y:=by
 obtain⟨p,q,c,d,e⟩:=h;exact⟨p,q,c,d.l b,e.l b⟩
theorem SpanV.l {w w':World}{v:Value}{a b:ak}(h:SpanV w v a b)(c:yB w w'):SpanV w' v a b:=by
 obtain⟨p,q,d,e,f⟩:=h;exact⟨p,q,d,e.l c,f.l c⟩
theorem overNS (m d:Nat)(v u:Value)(a:List Nat)(w:World)(k:Rd w .u32 v (Dg.dg 4294967296 m))(j:Rd w .u32 u a)(n:Dg.Small 4294967296 a)(l:Dg.Norm a)(i:a≠[])(e:Dg.vl 4294967296 a=d)(q:(Dg.dg 4294967296 m).length≤1900):
  yC 154 #[v,u] w (TwS w (m/d) (m % d)):=by
 have h:=A9 v u (Dg.dg 4294967296 m) a w k j (Dg.small_dg _ _ (by omega)) n (Dg.norm_dg _ _ (by omega)) l i (by omega);rw[Dg.vl_dg _ _ (by omega),e] at h;exact h.mono fun _ _ ⟨o,p,b,c,f,g⟩=>⟨o,p,b,c.rd,f.rd,g⟩
end Go.Proofs.YthhiidikgchdeaaGreatDoor
