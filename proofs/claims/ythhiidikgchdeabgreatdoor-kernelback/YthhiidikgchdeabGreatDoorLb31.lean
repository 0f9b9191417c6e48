/- Texts laid together. -/
import Derived.Test.YthhiidikgchdeabGreatDoorLb18
import Derived.Test.YthhiidikgchdeabGreatDoorLb23
import Derived.Test.YthhiidikgchdeabGreatDoorLb24
set_option maxRecDepth 100000
set_option maxHeartbeats 3200000
namespace Go.Proofs.YthhiidikgchdeabGreatDoor
open _root_.Go.Proofs.Tryz
open Go.RowKit
theorem pi (w:World)(a:List Value)(d:TypeId)(b:List Value)(e:TypeId)(c:List Value)(f:TypeId)(h:List Value)(i:TypeId): ∃W,(((w.alloc (.cells a.toArray d)).alloc (.cells b.toArray e)).alloc (.cells c.toArray f)).alloc (.cells h.toArray i)=W∧au W w.heap.size d a∧au W (w.heap.size+1) e b∧au W (w.heap.size+1+1) f c∧au W (w.heap.size+1+1+1) i h∧yB w W:=by
 obtain⟨W,rfl,m,n,o,k⟩:=lG w a d b e c f;have j:=ah (((w.alloc (.cells a.toArray d)).alloc (.cells b.toArray e)).alloc (.cells c.toArray f)) h i;have g:=af (((w.alloc (.cells a.toArray d)).alloc (.cells b.toArray e)).alloc (.cells c.toArray f)) (.cells h.toArray i);rw[World.size_alloc,World.size_alloc,World.size_alloc] at j;exact⟨_,rfl,m.l g,n.l g,o.l g,j,aa k g⟩
theorem iE (v u:Value)(a b:ak)(w:World)(o:Dv w v a)(k:Dv w u b)(D:(Dg.dg 4294967296 a.n).length≤200000000)(E:(Dg.dg 4294967296 b.n).length≤200000000)
  (F: -2000000000≤a.e) (G:a.e≤2000000000) (H: -2000000000≤b.e) (I:b.e≤2000000000):
  yC 42 #[v,u] w (yR w (yi (dJ (aG a (dV b))))):=by
 have f:Hid (∀c,yB w c→yC 75 #[v,u] c (jN c (aG a (dV b)))):=fun c d=>FT v u a b c (o.l d) (k.l d) D E F G H I
 obtain⟨M,rfl,p⟩:=o;obtain⟨r,B,rfl⟩:=p.shape;obtain⟨N,rfl,q⟩:=k;obtain⟨A,C,rfl⟩:=q.shape;obtain⟨T,h⟩: ∃T,aG a (dV b)=T:=⟨_,rfl⟩;rw[h] at f⊢;obtain⟨J,i⟩: ∃m,(Dg.dg 4294967296 a.n).length=m:=⟨_,rfl⟩;obtain⟨K,j⟩: ∃m,(Dg.dg 4294967296 b.n).length=m:=⟨_,rfl⟩;rw[i,j] at f⊢;clear h i j p q;have g:=aa (af w (.cells (ydA a.s (.slice r J B) a.e) 48)) (af _ (.cells (ydA b.s (.slice A K C) b.e) 48))
 go_enter func42,ntmps42
 go_wp2_with fail
 refine(f.out _ g).mono ?_;rintro z c ⟨O,rfl,L,d⟩;have t:=aa g d
 go_wp2_with fail
 refine(qB _ T c ⟨_,rfl,L.rd⟩).mono ?_;rintro z P ⟨rfl,y⟩;have x:=aa t y
 go_wp2
 go_ret
 exact⟨rfl,x⟩
theorem dscaled_W (g:Bool)(a:Option Addr)(d b:Nat)(e n m:Int)(w:World)(B:IntKind.i64.wrap (e+n)=m):
  yC 84 #[ydV g (.slice a d b) e,yi n] w (yR w (ydV g (.slice a d b) m)):=by
 obtain⟨j,h,q1,q2,p⟩:=iG w (ydL g (.slice a d b) e) 48 (ydL false yN 0) 48;replace h:Hid _:=h
 go_enter func84,ntmps84
 go_upto_region 1 with fail
 rw[h.out];clear h;have s:=q1.c 2 rfl;have l:=ag j w.heap.size 2 (yi m);have o:au (j.setCell ⟨w.heap.size,2,none⟩ (yi m)) w.heap.size 48 (ydL g (.slice a d b) m):=(q1.set 2 (yi m));have t:=q1.c 2 rfl;have v:=q1.f 2;have i:=l.loc q2 (by omega);have k:=l.below p (by omega);clear l
 go_upto_region 2 with fail
 generalize j.setCell ⟨w.heap.size,2,none⟩ (yi m)=x at o i k⊢;clear q1 q2 p s t v;obtain⟨y,z,A⟩:=o.cs3;have hf:=afy (P:=Tryz.prog) i k (by omega) underlying48 rfl (by kernel_rfl) (.bool g) (.slice a d b) (yi m);have q:Hid (_∧_):=⟨hf.1,hf.2.1⟩;obtain⟨⟨F,G,H⟩,C,D,E⟩:=afA i;clear hf o i k
 go_wp2
 obtain⟨u,r⟩:=q.out;exact bodyPost_ret (br results84 rfl u) rfl ⟨rfl,r⟩
theorem whole_W (n:Nat)(w:World)(B:IntKind.u64.wrap n=(n:Int))(b: ∀a,yC 76 #[.int .u64 n] a fun z w'=> ∃v,z= .returned v∧Rd w' .u32 v (Dg.dg 4294967296 n)∧yB a w')
  (c: ∀h g a,yC 64 (ydA false (yT h n g) 0) a (yR a (ydV false (yT h n g) 0))):
  yC 43 #[yi n] w (Lx w ⟨false,n,0⟩):=by
 replace b:Hid _:=b;replace c:Hid _:=c;obtain⟨A,e,q1,p⟩:=cA w (ydL false yN 0) 48;replace e:Hid _:=e
 go_enter func43,ntmps43
 go_upto_region 1 with fail
 rw[e.out];clear e
 go_wp2_with fail
 refine(b.out _).mono ?_;rintro y E ⟨C,rfl,k,i⟩;have q:=q1.l i;have m:=aa p i;obtain⟨h,g,u⟩:=k.shape;subst u;clear q1 p i b
 go_wp2_with fail
 refine(c.out _ _ _).mono ?_;rintro y D ⟨rfl,d⟩;have f:=q.l d;have j:=k.l d;have o:=aa m d;clear q k m d c;have hf:=afy (P:=Tryz.prog) f o (by omega) underlying48 rfl (by kernel_rfl) (.bool false) (yT h n g) (yi 0);have r:Hid (_∧_∧_):=⟨hf.1,hf.2.2.rd j (aX j f (by simp)),hf.2.1⟩;obtain⟨⟨I,J,K⟩,F,G,H⟩:=afA f;clear hf f j o
 go_wp2
 obtain⟨t,x,s⟩:=r.out;exact bodyPost_ret (br results43 rfl t) rfl ⟨_,rfl,x,s⟩
theorem spanOpp_W (a b:ak)(d g:Option Addr)(c f:Nat)(w:World)
  (k:yJ 96 #[yDV b g f] (ydV (!b.s) (yT g b.n f) b.e))
  (m:yJ 96 #[yDV a d c] (ydV (!a.s) (yT d a.n c) a.e)):
  yC 59 #[.agg #[.bool a.s,yT d a.n c,yi a.e,.bool b.s,yT g b.n f,yi b.e]] w (yR w (.agg #[.bool (!b.s),yT g b.n f,yi b.e,.bool (!a.s),yT d a.n c,yi a.e])):=by
 replace k:Hid _:=k;replace m:Hid _:=m;obtain⟨u,r,q1,q2,G⟩:=iG w [.bool a.s,yT d a.n c,yi a.e,.bool b.s,yT g b.n f,yi b.e] 54 [.bool false,yN,yi 0,.bool false,yN,yi 0] 54;replace r:Hid _:=r
 go_enter func59,ntmps59
 go_upto_region 1 with fail
 rw[r.out];clear r
 go_upto_region 1 with fail
 have o:yB u u.drew:=(Below.refl _ _).drew;have t:=q1.l o;have C:=q2.l o;have v:=aa G o;clear q1 q2 G o;refine wp_region_held_drew (S:=fun R=>au R w.heap.size 54 [.bool a.s,yT d a.n c,yi a.e,.bool b.s,yT g b.n f,yi b.e]) (by kernel_rfl) t (fun i=> ?_)
 generalize u.drew=W at t C v i⊢;refine tq 0 (.pointer (some ⟨w.heap.size,3,none⟩)) rfl (fun _ _=>by kernel_rfl) i ?_
 refine tq 1 (yDV b g f) rfl (fun _ y=>fy 48 (.tmp 3) rfl w.heap.size 3 (by kernel_rfl) _ _ (kY y 3 3 rfl) underlying48 rfl (by kernel_rfl)) i ?_
 refine tq 3 (.pointer (some ⟨w.heap.size,0,none⟩)) rfl (fun _ _=>by kernel_rfl) i ?_
 refine tq 4 (yDV a d c) rfl (fun _ y=>fy 48 (.tmp 6) rfl w.heap.size 0 (by kernel_rfl) _ _ (kY y 0 3 rfl) underlying48 rfl (by kernel_rfl)) i ?_
 refine wpAnyH_ready (rs:=[2]) (by kernel_rfl) (by simp) ?_;refine AllReadyH.cons rfl (fun K h=> ?_) AllReadyH.nil
 go_simp
 refine(k.out _).mono ?_;rintro T X ⟨rfl,p⟩;have z:=t.l p;have J:=C.l p;have D:=aa v p;clear t C v p k;refine h.out _ _ z (fun N=> ?_)
 clear h K;refine wpAnyH_ready (rs:=[5]) (by kernel_rfl) (by simp) ?_;refine AllReadyH.cons rfl (fun K h=> ?_) AllReadyH.nil
 go_simp
 refine(m.out _).mono ?_;rintro T j ⟨rfl,q⟩;have A:=z.l q;have B:=J.l q;have E:=aa D q;clear z J D q m;refine h.out _ _ A (fun H=> ?_)
 clear h K;refine tq 6 (.agg #[.bool (!b.s),yT g b.n f,yi b.e,.bool (!a.s),yT d a.n c,yi a.e]) rfl (fun _ _=>by kernel_rfl) H ?_
 refine wpAnyH_ready (rs:=[7]) (by kernel_rfl) (by simp) ?_;refine AllReadyH.cons rfl (fun K h=> ?_) AllReadyH.nil
 have x:But (w.heap.size+1) j (j.setCells (w.heap.size+1) 0 [.bool (!b.s),yT g b.n f,yi b.e,.bool (!a.s),yT d a.n c,yi a.e]):=de _ _ _ _;have I:j.there (w.heap.size+1) 0 6:=dD B;have L:au (j.setCells (w.heap.size+1) 0 [.bool (!b.s),yT g b.n f,yi b.e,.bool (!a.s),yT d a.n c,yi a.e]) (w.heap.size+1) 54 [.bool (!b.s),yT g b.n f,yi b.e,.bool (!a.s),yT d a.n c,yi a.e]:=B.sets _ rfl;have M:=x.loc A (by omega);have F:=x.below E (by omega);rw[if_pos (by kernel_rfl)];refine wp_store_mid 54 (.tmp 2) (.tmp 9) rfl (w.heap.size+1) 0 #[.bool (!b.s),yT g b.n f,yi b.e,.bool (!a.s),yT d a.n c,yi a.e] (by kernel_rfl) (by kernel_rfl) I (by kernel_rfl) (by simp[Value.oneCell']) ?_;refine h.out _ _ M (fun O=> ?_)
 clear h K;clear B A E x I;refine wpAnyH_done (by kernel_rfl) ?_ _;clear i N H O;change Exit.then _ _ _ _ (World.setCells j (w.heap.size+1) 0 [.bool (!b.s),yT g b.n f,yi b.e,.bool (!a.s),yT d a.n c,yi a.e]);generalize World.setCells j (w.heap.size+1) 0 [.bool (!b.s),yT g b.n f,yi b.e,.bool (!a.s),yT d a.n c,yi a.e]=U at M L F⊢;simp only[Act.put,List.getElem_toArray,List.getElem_cons_succ,List.getElem_cons_zero];have Q:=run_loadVar_mid (P:=Tryz.prog) _ (w.heap.size+1) 0 54 [.bool (!b.s),yT g b.n f,yi b.e,.bool (!a.s),yT d a.n c,yi a.e] _ L.range underlying54 rfl (by kernel_rfl)
 go_wp2
 exact bodyPost_ret (br results59 rfl Q) rfl ⟨rfl,F⟩
theorem sumsLn2_W (a b c m n p q r s u v x y:ak)(k pe qe re se:Int)(w:World)
  (H1: ∀d,yB w d→yC 112 #[yi 26,yi k] d (aeT d a b))
  (H2: ∀d,yB w d→yC 25 #[yi 18] d (aeT d c c))
  (H3: ∀ao ac bo bc co cc eo ec d,yB w d→Rd d .u32 (yT ao a.n ac) (Dg.dg 4294967296 a.n)→Rd d .u32 (yT bo b.n bc) (Dg.dg 4294967296 b.n)→Rd d .u32 (yT co c.n cc) (Dg.dg 4294967296 c.n)→Rd d .u32 (yT eo c.n ec) (Dg.dg 4294967296 c.n)→yC 86 #[.agg #[.bool a.s,yT ao a.n ac,yi a.e,.bool b.s,yT bo b.n bc,yi b.e],.agg #[.bool c.s,yT co c.n cc,yi c.e,.bool c.s,yT eo c.n ec,yi c.e]] d (aeT d m n))
  (H4: ∀d,yB w d→yC 112 #[yi 4801,yi k] d (aeT d p q))
  (H5: ∀E D G F d,yC 81 #[.agg #[.bool p.s,yT E p.n D,yi p.e,.bool q.s,yT G q.n F,yi q.e],yi 1] d (yR d (.agg #[.bool p.s,yT E p.n D,yi pe,.bool q.s,yT G q.n F,yi qe])))
  (H6: ∀d,yB w d→yC 112 #[yi 8749,yi k] d (aeT d r s))
  (H7: ∀I H L J d,yC 81 #[.agg #[.bool r.s,yT I r.n H,yi r.e,.bool s.s,yT L s.n J,yi s.e],yi 3] d (yR d (.agg #[.bool r.s,yT I r.n H,yi re,.bool s.s,yT L s.n J,yi se])))
  (H8: ∀Y X no Z E D G F d,yB w d→Rd d .u32 (yT Y m.n X) (Dg.dg 4294967296 m.n)→Rd d .u32 (yT no n.n Z) (Dg.dg 4294967296 n.n)→Rd d .u32 (yT E p.n D) (Dg.dg 4294967296 p.n)→Rd d .u32 (yT G q.n F) (Dg.dg 4294967296 q.n)→yC 111 #[.agg #[.bool m.s,yT Y m.n X,yi m.e,.bool n.s,yT no n.n Z,yi n.e],.agg #[.bool p.s,yT E p.n D,yi pe,.bool q.s,yT G q.n F,yi qe]] d (aeT d u v))
  (H9: ∀uo uc vo vc I H L J d,yB w d→Rd d .u32 (yT uo u.n uc) (Dg.dg 4294967296 u.n)→Rd d .u32 (yT vo v.n vc) (Dg.dg 4294967296 v.n)→Rd d .u32 (yT I r.n H) (Dg.dg 4294967296 r.n)→Rd d .u32 (yT L s.n J) (Dg.dg 4294967296 s.n)→yC 87 #[.agg #[.bool u.s,yT uo u.n uc,yi u.e,.bool v.s,yT vo v.n vc,yi v.e],.agg #[.bool r.s,yT I r.n H,yi re,.bool s.s,yT L s.n J,yi se]] d (aeT d x y)):
  yC 78 #[yi k] w (aeT w x y):=by
 replace H1:Hid _:=H1;replace H2:Hid _:=H2;replace H3:Hid _:=H3;replace H4:Hid _:=H4;replace H5:Hid _:=H5;replace H6:Hid _:=H6;replace H7:Hid _:=H7;replace H8:Hid _:=H8;replace H9:Hid _:=H9;obtain⟨W3,a5,q1,b2⟩:=cA w [.bool false,yN,yi 0,.bool false,yN,yi 0] 54;replace a5:Hid _:=a5
 go_enter func78,ntmps78
 go_upto_region 1 with fail
 rw[a5.out];clear a5
 go_wp2_with fail
 refine(H1.out _ b2).mono ?_;rintro O w5 ⟨g7,gg,rfl,c9,cd,b7⟩;have cp:=q1.l b7;have b0:=aa b2 b7;obtain⟨ao,ac,f⟩:=c9.shape;subst f;obtain⟨bo,bc,f⟩:=cd.shape;subst f;clear q1 b2 b7 H1
 go_wp2_with fail
 refine(H2.out _ b0).mono ?_;rintro O gj ⟨g2,ga,rfl,ar,ay,a1⟩;have cv:=cp.l a1;have ca:=c9.l a1;have cb:=cd.l a1;have b3:=aa b0 a1;obtain⟨co,cc,f⟩:=ar.shape;subst f;obtain⟨eo,ec,f⟩:=ay.shape;subst f;clear cp c9 cd b0 a1 H2
 go_wp2_with fail
 refine(H3.out _ _ _ _ _ _ _ _ _ b3 ca cb ar ay).mono ?_;rintro O gl ⟨g4,gb,rfl,c6,ce,Q⟩;have cy:=cv.l Q;have e5:=ca.l Q;have e6:=cb.l Q;have e7:=ar.l Q;have e8:=ay.l Q;have b4:=aa b3 Q;obtain⟨Y,X,f⟩:=c6.shape;subst f;obtain⟨no,Z,f⟩:=ce.shape;subst f;clear cv ca cb ar ay b3 Q H3
 go_wp2_with fail
 refine(H4.out _ b4).mono ?_;rintro O gm ⟨g5,gc,rfl,c7,cg,C⟩;have cz:=cy.l C;have e9:=e5.l C;have ea:=e6.l C;have eb:=e7.l C;have ed:=e8.l C;have ee:=c6.l C;have ef:=ce.l C;have cl:=aa b4 C;obtain⟨E,D,f⟩:=c7.shape;subst f;obtain⟨G,F,f⟩:=cg.shape;subst f;clear cy e5 e6 e7 e8 c6 ce b4 C H4
 go_wp2_with fail
 refine(H5.out _ _ _ _ _).mono ?_;rintro O gp ⟨rfl,A⟩;have d0:=cz.l A;have eg:=e9.l A;have eh:=ea.l A;have ei:=eb.l A;have ej:=ed.l A;have ek:=ee.l A;have el:=ef.l A;have em:=c7.l A;have en:=cg.l A;have b5:=aa cl A;clear cz e9 ea eb ed ee ef c7 cg cl A H5
 go_wp2_with fail
 refine(H6.out _ b5).mono ?_;rintro O gq ⟨g6,gd,rfl,c8,ch,B⟩;have d1:=d0.l B;have ep:=eg.l B;have es:=eh.l B;have et:=ei.l B;have eu:=ej.l B;have ev:=ek.l B;have ex:=el.l B;have ey:=em.l B;have f0:=en.l B;have cm:=aa b5 B;obtain⟨I,H,f⟩:=c8.shape;subst f;obtain⟨L,J,f⟩:=ch.shape;subst f;clear d0 eg eh ei ej ek el em en b5 B H6
 go_wp2_with fail
 refine(H7.out _ _ _ _ _).mono ?_;rintro O N ⟨rfl,z⟩;have bg:=d1.l z;have f1:=ep.l z;have f2:=es.l z;have f3:=et.l z;have f4:=eu.l z;have f5:=ev.l z;have f6:=ex.l z;have f7:=ey.l z;have f8:=f0.l z;have f9:=c8.l z;have fa:=ch.l z;have b6:=aa cm z;clear d1 ep es et eu ev ex ey f0 c8 ch cm z H7;obtain⟨az,a6,d2,d3,d4,t⟩:=lG N [.bool m.s,yT Y m.n X,yi m.e,.bool n.s,yT no n.n Z,yi n.e] 54 [.bool p.s,yT E p.n D,yi pe,.bool q.s,yT G q.n F,yi qe] 54 [.bool r.s,yT I r.n H,yi re,.bool s.s,yT L s.n J,yi se] 54;replace a6:Hid _:=a6;have fx:w.heap.size≤N.heap.size:=b6.size;have g0:=bg.lt;have d5:=bg.l t;have d6:=f1.l t;have d7:=f2.l t;have d9:=f3.l t;have da:=f4.l t;have db:=f5.l t;have dc:=f6.l t;have dd:=f7.l t;have dl:=f8.l t;have dn:=f9.l t;have dp:=fa.l t;have ci:=aa b6 t;clear bg f1 f2 f3 f4 f5 f6 f7 f8 f9 fa b6 t
 go_upto_region 2 with fail
 rw[a6.out];clear a6
 go_upto_region 2 with fail
 have j:yB az az.drew:=(Below.refl _ _).drew;have b8:=d5.l j;have a7:=d2.l j;have a8:=d3.l j;have a9:=d4.l j;have bh:=d6.l j;have bi:=d7.l j;have bj:=d9.l j;have bl:=da.l j;have ad:=db.l j;have ae:=dc.l j;have al:=dd.l j;have an:=dl.l j;have bm:=dn.l j;have bn:=dp.l j;have a4:=aa ci j;clear d5 d2 d3 d4 d6 d7 d9 da db dc dd dl dn dp ci j;refine wp_region_held_drew (S:=fun wq=>au wq N.heap.size 54 [.bool m.s,yT Y m.n X,yi m.e,.bool n.s,yT no n.n Z,yi n.e]∧au wq (N.heap.size+1) 54 [.bool p.s,yT E p.n D,yi pe,.bool q.s,yT G q.n F,yi qe]∧au wq (N.heap.size+1+1) 54 [.bool r.s,yT I r.n H,yi re,.bool s.s,yT L s.n J,yi se]) (by kernel_rfl) ⟨a7,a8,a9⟩ (fun a2=> ?_)
 generalize az.drew=fv at b8 a7 a8 a9 bh bi bj bl ad ae al an bm bn a4 a2⊢;refine tq 0 (.agg #[.bool m.s,yT Y m.n X,yi m.e,.bool n.s,yT no n.n Z,yi n.e]) rfl (fun _ a3=>fy 54 (.tmp 3) rfl N.heap.size 0 (by kernel_rfl) _ _ a3.1.range underlying54 rfl (by kernel_rfl)) a2 ?_
 refine tq 1 (.agg #[.bool p.s,yT E p.n D,yi pe,.bool q.s,yT G q.n F,yi qe]) rfl (fun _ a3=>fy 54 (.tmp 4) rfl (N.heap.size+1) 0 (by kernel_rfl) _ _ a3.2.1.range underlying54 rfl (by kernel_rfl)) a2 ?_
 refine tq 3 (.agg #[.bool r.s,yT I r.n H,yi re,.bool s.s,yT L s.n J,yi se]) rfl (fun _ a3=>fy 54 (.tmp 5) rfl (N.heap.size+1+1) 0 (by kernel_rfl) _ _ a3.2.2.range underlying54 rfl (by kernel_rfl)) a2 ?_
 refine wpAnyH_ready (rs:=[2]) (by kernel_rfl) (by simp) ?_;refine AllReadyH.cons rfl (fun K M=> ?_) AllReadyH.nil
 go_simp
 refine(H8.out _ _ _ _ _ _ _ _ _ a4 ad ae al an).mono ?_;rintro O gi ⟨g1,g8,rfl,ap,av,o⟩;have cr:=b8.l o;have b9:=a7.l o;have ba:=a8.l o;have bb:=a9.l o;have dq:=bh.l o;have ds:=bi.l o;have dt:=bj.l o;have dv:=bl.l o;have dy:=ad.l o;have e0:=ae.l o;have e1:=al.l o;have e2:=an.l o;have bp:=bm.l o;have bq:=bn.l o;have b1:=aa a4 o;obtain⟨uo,uc,f⟩:=ap.shape;subst f;obtain⟨vo,vc,f⟩:=av.shape;subst f;clear b8 a7 a8 a9 bh bi bj bl ad ae al an bm bn a4 o H8;refine M.out _ _ ⟨b9,ba,bb⟩ (fun fb=> ?_)
 clear M K;refine wpAnyH_ready (rs:=[4]) (by kernel_rfl) (by simp) ?_;refine AllReadyH.cons rfl (fun K M=> ?_) AllReadyH.nil
 go_simp
 refine(H9.out _ _ _ _ _ _ _ _ _ b1 ap av bp bq).mono ?_;rintro O a0 ⟨g3,g9,rfl,aq,ax,h⟩;have i:=cr.l h;have bd:=b9.l h;have be:=ba.l h;have bf:=bb.l h;have bs:=dq.l h;have bt:=ds.l h;have bv:=dt.l h;have bw:=dv.l h;have bx:=dy.l h;have bz:=e0.l h;have c0:=e1.l h;have c1:=e2.l h;have c2:=bp.l h;have c3:=bq.l h;have c4:=ap.l h;have c5:=av.l h;have cj:=aa b1 h;obtain⟨T,R,f⟩:=aq.shape;subst f;obtain⟨W,U,f⟩:=ax.shape;subst f;clear cr b9 ba bb dq ds dt dv dy e0 e1 e2 bp bq ap av b1 h H9;refine M.out _ _ ⟨bd,be,bf⟩ (fun fc=> ?_)
 clear M K;refine wpAnyH_ready (rs:=[5]) (by kernel_rfl) (by simp) ?_;refine AllReadyH.cons rfl (fun K M=> ?_) AllReadyH.nil
 have g:But w.heap.size a0 (a0.setCells w.heap.size 0 [.bool x.s,yT T x.n R,yi x.e,.bool y.s,yT W y.n U,yi y.e]):=de _ _ _ _;have cn:a0.there w.heap.size 0 6:=dD i;have cs:au (a0.setCells w.heap.size 0 [.bool x.s,yT T x.n R,yi x.e,.bool y.s,yT W y.n U,yi y.e]) w.heap.size 54 [.bool x.s,yT T x.n R,yi x.e,.bool y.s,yT W y.n U,yi y.e]:=i.sets _ rfl;have fe:=g.rd bs (aX bs i (by simp));have ff:=g.rd bt (aX bt i (by simp));have fg:=g.rd bv (aX bv i (by simp));have fi:=g.rd bw (aX bw i (by simp));have fj:=g.rd bx (aX bx i (by simp));have fk:=g.rd bz (aX bz i (by simp));have fl:=g.rd c0 (aX c0 i (by simp));have fn:=g.rd c1 (aX c1 i (by simp));have fo:=g.rd c2 (aX c2 i (by simp));have fp:=g.rd c3 (aX c3 i (by simp));have fr:=g.rd c4 (aX c4 i (by simp));have fs:=g.rd c5 (aX c5 i (by simp));have e3:=g.rd aq (aX aq i (by simp));have e4:=g.rd ax (aX ax i (by simp));have ct:=g.loc bd (by omega);have cw:=g.loc be (by omega);have cx:=g.loc bf (by omega);have ck:=g.below cj (by omega);rw[if_pos (by kernel_rfl)];refine wp_store_mid 54 (.tmp 2) (.tmp 20) rfl w.heap.size 0 #[.bool x.s,yT T x.n R,yi x.e,.bool y.s,yT W y.n U,yi y.e] (by kernel_rfl) (by kernel_rfl) cn (by kernel_rfl) (by simp[Value.oneCell']) ?_;refine M.out _ _ ⟨ct,cw,cx⟩ (fun fd=> ?_)
 clear M K;clear i bs bt bv bw bx bz c0 c1 c2 c3 c4 c5 aq ax bd be bf cj g cn;refine wpAnyH_done (by kernel_rfl) ?_ _;clear a2 fb fc fd;change Exit.then _ _ _ _ (World.setCells a0 w.heap.size 0 [.bool x.s,yT T x.n R,yi x.e,.bool y.s,yT W y.n U,yi y.e]);generalize World.setCells a0 w.heap.size 0 [.bool x.s,yT T x.n R,yi x.e,.bool y.s,yT W y.n U,yi y.e]=ft at cs ct cw cx fe ff fg fi fj fk fl fn fo fp fr fs e3 e4 ck⊢;simp only[Act.put,List.getElem_toArray,List.getElem_cons_succ,List.getElem_cons_zero];have hl:=run_loadVar_mid (P:=Tryz.prog) _ (w.heap.size) 0 54 [.bool x.s,yT T x.n R,yi x.e,.bool y.s,yT W y.n U,yi y.e] _ cs.range underlying54 rfl (by kernel_rfl)
 go_wp2
 exact bodyPost_ret (br results78 rfl hl) rfl ⟨_,_,rfl,e3,e4,ck⟩
theorem ent5 (w:World)(b:List Value)(f:TypeId)(c:List Value)(g:TypeId)(d:List Value)(h:TypeId)(e:List Value)(i:TypeId)(j:List Value)(k:TypeId): ∃W,((((w.alloc (.cells b.toArray f)).alloc (.cells c.toArray g)).alloc (.cells d.toArray h)).alloc (.cells e.toArray i)).alloc (.cells j.toArray k)=W∧au W w.heap.size f b∧au W (w.heap.size+1) g c∧au W (w.heap.size+1+1) h d∧au W (w.heap.size+1+1+1) i e∧au W (w.heap.size+1+1+1+1) k j∧yB w W:=by
 obtain⟨W,rfl,o,p,q,r,n⟩:=pi w b f c g d h e i;have m:=ah ((((w.alloc (.cells b.toArray f)).alloc (.cells c.toArray g)).alloc (.cells d.toArray h)).alloc (.cells e.toArray i)) j k;have a:=af ((((w.alloc (.cells b.toArray f)).alloc (.cells c.toArray g)).alloc (.cells d.toArray h)).alloc (.cells e.toArray i)) (.cells j.toArray k);rw[World.size_alloc,World.size_alloc,World.size_alloc,World.size_alloc] at m;exact⟨_,rfl,o.l a,p.l a,q.l a,r.l a,m,aa n a⟩
theorem part_W (a b:ak)(F H:Option Addr)(E G:Nat)(x y u v:ak)(t o k:Int)(w:World)
  (O: ∀M L J d,yB w d→au d M 3 [yi t]→au d L 3 [yi o]→au d J 3 [yi k]→yC 129 #[yDV a F E,.pointer (some ⟨M,0,none⟩),.pointer (some ⟨L,0,none⟩),.pointer (some ⟨J,0,none⟩)] d (Lx d x))
  (Q: ∀M L J d,yB w d→au d M 3 [yi t]→au d L 3 [yi o]→au d J 3 [yi k]→yC 129 #[yDV b H G,.pointer (some ⟨M,0,none⟩),.pointer (some ⟨L,0,none⟩),.pointer (some ⟨J,0,none⟩)] d (Lx d y))
  (R: ∀xo xc yo yc d,yB w d→Rd d .u32 (yT xo x.n xc) (Dg.dg 4294967296 x.n)→Rd d .u32 (yT yo y.n yc) (Dg.dg 4294967296 y.n)→yC 55 #[.agg #[.bool x.s,yT xo x.n xc,yi x.e,.bool y.s,yT yo y.n yc,yi y.e],yi k] d (aeT d u v)):
  yC 113 #[.agg #[.bool a.s,yT F a.n E,yi a.e,.bool b.s,yT H b.n G,yi b.e],yi t,yi o,yi k] w (aeT w u v):=by
 replace O:Hid _:=O;replace Q:Hid _:=Q;replace R:Hid _:=R;obtain⟨W7,U,q1,q2,q3,q4,q5,b6⟩:=ent5 w [.bool a.s,yT F a.n E,yi a.e,.bool b.s,yT H b.n G,yi b.e] 54 [yi t] 3 [yi o] 3 [yi k] 3 [.bool false,yN,yi 0,.bool false,yN,yi 0] 54;replace U:Hid _:=U
 go_enter func113,ntmps113
 go_upto_region 1 with fail
 rw[U.out];clear U
 go_upto_region 2 with fail
 have i:yB W7 W7.drew:=(Below.refl _ _).drew;have W:=q1.l i;have X:=q2.l i;have Y:=q3.l i;have N:=q4.l i;have a5:=q5.l i;have T:=aa b6 i;clear q1 q2 q3 q4 q5 b6 i;refine wp_region_held_drew (S:=fun wq=>au wq w.heap.size 54 [.bool a.s,yT F a.n E,yi a.e,.bool b.s,yT H b.n G,yi b.e]∧au wq (w.heap.size+1+1+1) 3 [yi k]) (by kernel_rfl) ⟨W,N⟩ (fun g=> ?_)
 generalize W7.drew=bf at W X Y N a5 T g⊢;refine tq 0 (.func (.func 129) #[] #[.pointer (some ⟨w.heap.size+1,0,none⟩),.pointer (some ⟨w.heap.size+1+1,0,none⟩),.pointer (some ⟨w.heap.size+1+1+1,0,none⟩)]) rfl (fun _ _=>by kernel_rfl) g ?_
 refine tq 1 (.pointer (some ⟨w.heap.size,0,none⟩)) rfl (fun _ _=>by kernel_rfl) g ?_
 refine tq 2 (yDV a F E) rfl (fun _ I=>fy 48 (.tmp 12) rfl w.heap.size 0 (by kernel_rfl) _ _ (kY I.1 0 3 rfl) underlying48 rfl (by kernel_rfl)) g ?_
 refine tq 4 (.func (.func 129) #[] #[.pointer (some ⟨w.heap.size+1,0,none⟩),.pointer (some ⟨w.heap.size+1+1,0,none⟩),.pointer (some ⟨w.heap.size+1+1+1,0,none⟩)]) rfl (fun _ _=>by kernel_rfl) g ?_
 refine tq 5 (.pointer (some ⟨w.heap.size,3,none⟩)) rfl (fun _ _=>by kernel_rfl) g ?_
 refine tq 6 (yDV b H G) rfl (fun _ I=>fy 48 (.tmp 16) rfl w.heap.size 3 (by kernel_rfl) _ _ (kY I.1 3 3 rfl) underlying48 rfl (by kernel_rfl)) g ?_
 refine tq 9 (yi k) rfl (fun _ I=>gU 3 (.tmp 7) rfl (w.heap.size+1+1+1) 0 (by kernel_rfl) _ _ underlying3 rfl (I.2.c 0 rfl)) g ?_
 refine wpAnyH_ready (rs:=[3]) (by kernel_rfl) (by simp) ?_;refine AllReadyH.cons rfl (fun K f=> ?_) AllReadyH.nil
 go_simp
 refine(O.out _ _ _ _ T X Y N).mono ?_;rintro zz bl ⟨bg,rfl,ae,j⟩;have a6:=W.l j;have ay:=X.l j;have az:=Y.l j;have Z:=N.l j;have b0:=a5.l j;have a3:=aa T j;obtain⟨xo,xc,p⟩:=ae.shape;subst p;clear W X Y N a5 T j O;refine f.out _ _ ⟨a6,Z⟩ (fun b8=> ?_)
 clear f K;refine wpAnyH_ready (rs:=[7]) (by kernel_rfl) (by simp) ?_;refine AllReadyH.cons rfl (fun K f=> ?_) AllReadyH.nil
 go_simp
 refine(Q.out _ _ _ _ a3 ay az Z).mono ?_;rintro zz bm ⟨bh,rfl,a0,C⟩;have a7:=a6.l C;have a8:=Z.l C;have b1:=b0.l C;have al:=ae.l C;have a4:=aa a3 C;obtain⟨yo,yc,p⟩:=a0.shape;subst p;clear a6 ay az Z b0 ae a3 C Q;refine f.out _ _ ⟨a7,a8⟩ (fun av=> ?_)
 clear f K;refine tq 8 (.agg #[.bool x.s,yT xo x.n xc,yi x.e,.bool y.s,yT yo y.n yc,yi y.e]) rfl (fun _ _=>by kernel_rfl) av ?_
 refine wpAnyH_ready (rs:=[10]) (by kernel_rfl) (by simp) ?_;refine AllReadyH.cons rfl (fun K f=> ?_) AllReadyH.nil
 go_simp
 refine(R.out _ _ _ _ _ a4 al a0).mono ?_;rintro zz D ⟨bi,bj,rfl,a1,a2,m⟩;have a9:=a7.l m;have ad:=a8.l m;have q:=b1.l m;have an:=al.l m;have ap:=a0.l m;have aq:=aa a4 m;obtain⟨z,r,p⟩:=a1.shape;subst p;obtain⟨B,A,p⟩:=a2.shape;subst p;clear a7 a8 b1 al a0 a4 m R;refine f.out _ _ ⟨a9,ad⟩ (fun b9=> ?_)
 clear f K;refine wpAnyH_ready (rs:=[11]) (by kernel_rfl) (by simp) ?_;refine AllReadyH.cons rfl (fun K f=> ?_) AllReadyH.nil
 have h:But (w.heap.size+1+1+1+1) D (D.setCells (w.heap.size+1+1+1+1) 0 [.bool u.s,yT z u.n r,yi u.e,.bool v.s,yT B v.n A,yi v.e]):=de _ _ _ _;have ax:D.there (w.heap.size+1+1+1+1) 0 6:=dD q;have b2:au (D.setCells (w.heap.size+1+1+1+1) 0 [.bool u.s,yT z u.n r,yi u.e,.bool v.s,yT B v.n A,yi v.e]) (w.heap.size+1+1+1+1) 54 [.bool u.s,yT z u.n r,yi u.e,.bool v.s,yT B v.n A,yi v.e]:=q.sets _ rfl;have bb:=h.rd an (aX an q (by simp));have bd:=h.rd ap (aX ap q (by simp));have b5:=h.rd a1 (aX a1 q (by simp));have b7:=h.rd a2 (aX a2 q (by simp));have b3:=h.loc a9 (by omega);have b4:=h.loc ad (by omega);have ar:=h.below aq (by omega);rw[if_pos (by kernel_rfl)];refine wp_store_mid 54 (.tmp 8) (.tmp 21) rfl (w.heap.size+1+1+1+1) 0 #[.bool u.s,yT z u.n r,yi u.e,.bool v.s,yT B v.n A,yi v.e] (by kernel_rfl) (by kernel_rfl) ax (by kernel_rfl) (by simp[Value.oneCell']) ?_;refine f.out _ _ ⟨b3,b4⟩ (fun ba=> ?_)
 clear f K;clear q an ap a1 a2 a9 ad aq h ax;refine wpAnyH_done (by kernel_rfl) ?_ _;clear g b8 av b9 ba;change Exit.then _ _ _ _ (World.setCells D (w.heap.size+1+1+1+1) 0 [.bool u.s,yT z u.n r,yi u.e,.bool v.s,yT B v.n A,yi v.e]);generalize World.setCells D (w.heap.size+1+1+1+1) 0 [.bool u.s,yT z u.n r,yi u.e,.bool v.s,yT B v.n A,yi v.e]=be at b3 b4 b2 bb bd b5 b7 ar⊢;simp only[Act.put,List.getElem_toArray,List.getElem_cons_succ,List.getElem_cons_zero];have hl:=run_loadVar_mid (P:=Tryz.prog) _ (w.heap.size+1+1+1+1) 0 54 [.bool u.s,yT z u.n r,yi u.e,.bool v.s,yT B v.n A,yi v.e] _ b2.range underlying54 rfl (by kernel_rfl)
 go_wp2
 exact bodyPost_ret (br results113 rfl hl) rfl ⟨_,_,rfl,b5,b7,ar⟩
theorem Ag.l {W a:World}{base:Nat}{v:Value}(h:Ag W base v)(e:yB W a):Ag a base v:=by
 obtain⟨p,b,c,d⟩:=h;exact⟨p,b,c,d.l e⟩
theorem BT.l {W a:World}{base:Nat}{v:Value}(h:BT W base v)(b:yB W a):BT a base v:=by
 obtain⟨p,c,d,e,f⟩:=h;exact⟨p,c,d,e.l b,f.l b⟩
theorem V4.l {W a:World}{base:Nat}{v:Value}(h:V4 W base v)(b:yB W a):V4 a base v:=by
 obtain⟨p,c,d,e,f⟩:=h;exact⟨p,c,d,e.l b,f.l b⟩
theorem RB6.l {W a:World}{v:Value}{x y:ak}(h:RB6 W v x y)(b:yB W a):RB6 a v x y:=by
 obtain⟨p,q,c,d,e⟩:=h;exact⟨p,q,c,d.l b,e.l b⟩
theorem SpanV.l {w w':World}{v:Value}{a b:ak}(h:SpanV w v a b)(c:yB w w'):SpanV w' v a b:=by
 obtain⟨p,q,d,e,f⟩:=h;exact⟨p,q,d,e.l c,f.l c⟩
theorem whole_any (n:Nat)(w:World)(h:n<9223372036854775808):yC 43 #[yi n] w (Lx w ⟨false,n,0⟩):=
 whole_W n w (IntWalk.u64_in _ ⟨by omega,by omega⟩) (fun a=>(KH n (by omega) a).mono fun _ _ ⟨v,b,c,d⟩=>⟨v,b,c.rd,d⟩) (fun f e a=>l9 _ _ _ _ _ a)
theorem overNS (m d:Nat)(v u:Value)(a:List Nat)(w:World)(k:Rd w .u32 v (Dg.dg 4294967296 m))(j:Rd w .u32 u a)(n:Dg.Small 4294967296 a)(l:Dg.Norm a)(i:a≠[])(e:Dg.vl 4294967296 a=d)(q:(Dg.dg 4294967296 m).length≤1900):
  yC 126 #[v,u] w (TwS w (m/d) (m % d)):=by
 have h:=A9 v u (Dg.dg 4294967296 m) a w k j (Dg.small_dg _ _ (by omega)) n (Dg.norm_dg _ _ (by omega)) l i (by omega);rw[Dg.vl_dg _ _ (by omega),e] at h;exact h.mono fun _ _ ⟨o,p,b,c,f,g⟩=>⟨o,p,b,c.rd,f.rd,g⟩
end Go.Proofs.YthhiidikgchdeabGreatDoor
