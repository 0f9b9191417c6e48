/- Texts laid together. -/
import Derived.Test.YthhiidikgchdeabGreatDoorLb18
import Derived.Test.YthhiidikgchdeabGreatDoorLb23
set_option maxRecDepth 100000
set_option maxHeartbeats 3200000
namespace Go.Proofs.YthhiidikgchdeabGreatDoor
open _root_.Go.Proofs.Tryz
open Go.RowKit
theorem spanWhole_W (n:Int)(x:ak)(w:World)(f: ∀c,yC 43 #[yi n] c (Lx c x))
  (d: ∀b a c,yC 61 #[yDV x b a] c (yR c (.agg #[.bool x.s,yT b x.n a,yi x.e,.bool x.s,yT b x.n a,yi x.e]))):
  yC 25 #[yi n] w (aeT w x x):=by
 replace f:Hid _:=f;replace d:Hid _:=d;obtain⟨B,h,q1,q⟩:=cA w [.bool false,yN,yi 0,.bool false,yN,yi 0] 54;replace h:Hid _:=h
 go_enter func25,ntmps25
 go_upto_region 1 with fail
 rw[h.out];clear h
 go_wp2_with fail
 refine(f.out _).mono ?_;rintro A E ⟨C,rfl,m,j⟩;have r:=q1.l j;have o:=aa q j;obtain⟨b,a,z⟩:=m.shape;subst z;clear q1 q j f
 go_wp2_with fail
 refine(d.out _ _ _).mono ?_;rintro A D ⟨rfl,g⟩;have i:=r.l g;have k:=m.l g;have p:=aa o g;clear r m o g d;have hf:=fin6 (P:=Tryz.prog) i p (by omega) underlying54 rfl (by kernel_rfl) (.bool x.s) (yT b x.n a) (yi x.e) (.bool x.s) (yT b x.n a) (yi x.e);have u:Hid (_∧_∧_):=⟨hf.1,hf.2.2.rd k (aX k i (by simp)),hf.2.1⟩;obtain⟨⟨L,M,N,O,Q,R⟩,F,G,H,I,J,K⟩:=csf6 i;clear hf i k p
 go_wp2
 obtain⟨y,t,v⟩:=u.out;exact bodyPost_ret (br results25 rfl y) rfl ⟨_,_,rfl,t,t,v⟩
theorem spanMinus_W (a b p q:ak)(u C f h:Option Addr)(t B d g:Nat)(x y:ak)(w:World)
  (E:yJ 59 #[.agg #[.bool p.s,yT f p.n d,yi p.e,.bool q.s,yT h q.n g,yi q.e]] (.agg #[.bool (!q.s),yT h q.n g,yi q.e,.bool (!p.s),yT f p.n d,yi p.e]))
  (F: ∀w1,yB w w1→yC 87 #[.agg #[.bool a.s,yT u a.n t,yi a.e,.bool b.s,yT C b.n B,yi b.e],.agg #[.bool (!q.s),yT h q.n g,yi q.e,.bool (!p.s),yT f p.n d,yi p.e]] w1 (aeT w1 x y)):
  yC 111 #[.agg #[.bool a.s,yT u a.n t,yi a.e,.bool b.s,yT C b.n B,yi b.e],.agg #[.bool p.s,yT f p.n d,yi p.e,.bool q.s,yT h q.n g,yi q.e]] w (aeT w x y):=by
 replace E:Hid _:=E;replace F:Hid _:=F;obtain⟨N,H,q1,q2,q3,b4⟩:=lG w [.bool a.s,yT u a.n t,yi a.e,.bool b.s,yT C b.n B,yi b.e] 54 [.bool p.s,yT f p.n d,yi p.e,.bool q.s,yT h q.n g,yi q.e] 54 [.bool false,yN,yi 0,.bool false,yN,yi 0] 54;replace H:Hid _:=H
 go_enter func111,ntmps111
 go_upto_region 1 with fail
 rw[H.out];clear H
 go_upto_region 1 with fail
 have v:yB N N.drew:=(Below.refl _ _).drew;have I:=q1.l v;have J:=q2.l v;have U:=q3.l v;have O:=aa b4 v;clear q1 q2 q3 b4 v;refine wp_region_held_drew (S:=fun wq=>au wq w.heap.size 54 [.bool a.s,yT u a.n t,yi a.e,.bool b.s,yT C b.n B,yi b.e]∧au wq (w.heap.size+1) 54 [.bool p.s,yT f p.n d,yi p.e,.bool q.s,yT h q.n g,yi q.e]) (by kernel_rfl) ⟨I,J⟩ (fun G=> ?_)
 generalize N.drew=an at I J U O G⊢;refine tq 0 (.agg #[.bool a.s,yT u a.n t,yi a.e,.bool b.s,yT C b.n B,yi b.e]) rfl (fun _ T=>fy 54 (.tmp 2) rfl w.heap.size 0 (by kernel_rfl) _ _ T.1.range underlying54 rfl (by kernel_rfl)) G ?_
 refine tq 1 (.agg #[.bool p.s,yT f p.n d,yi p.e,.bool q.s,yT h q.n g,yi q.e]) rfl (fun _ T=>fy 54 (.tmp 3) rfl (w.heap.size+1) 0 (by kernel_rfl) _ _ T.2.range underlying54 rfl (by kernel_rfl)) G ?_
 refine wpAnyH_ready (rs:=[2]) (by kernel_rfl) (by simp) ?_;refine AllReadyH.cons rfl (fun K c=> ?_) AllReadyH.nil
 go_simp
 refine(E.out _).mono ?_;rintro zz ar ⟨rfl,z⟩;have W:=I.l z;have X:=J.l z;have a3:=U.l z;have Q:=aa O z;clear I J U O z E;refine c.out _ _ ⟨W,X⟩ (fun a9=> ?_)
 clear c K;refine wpAnyH_ready (rs:=[3]) (by kernel_rfl) (by simp) ?_;refine AllReadyH.cons rfl (fun K c=> ?_) AllReadyH.nil
 go_simp
 refine(F.out _ Q).mono ?_;rintro zz r ⟨ap,aq,rfl,L,M,A⟩;have Y:=W.l A;have Z:=X.l A;have D:=a3.l A;have a0:=aa Q A;obtain⟨j,i,R⟩:=L.shape;subst R;obtain⟨m,k,R⟩:=M.shape;subst R;clear W X a3 Q A F;refine c.out _ _ ⟨Y,Z⟩ (fun ad=> ?_)
 clear c K;refine wpAnyH_ready (rs:=[4]) (by kernel_rfl) (by simp) ?_;refine AllReadyH.cons rfl (fun K c=> ?_) AllReadyH.nil
 have o:But (w.heap.size+1+1) r (r.setCells (w.heap.size+1+1) 0 [.bool x.s,yT j x.n i,yi x.e,.bool y.s,yT m y.n k,yi y.e]):=de _ _ _ _;have a2:r.there (w.heap.size+1+1) 0 6:=dD D;have a4:au (r.setCells (w.heap.size+1+1) 0 [.bool x.s,yT j x.n i,yi x.e,.bool y.s,yT m y.n k,yi y.e]) (w.heap.size+1+1) 54 [.bool x.s,yT j x.n i,yi x.e,.bool y.s,yT m y.n k,yi y.e]:=D.sets _ rfl;have a7:=o.rd L (aX L D (by simp));have a8:=o.rd M (aX M D (by simp));have a5:=o.loc Y (by omega);have a6:=o.loc Z (by omega);have a1:=o.below a0 (by omega);rw[if_pos (by kernel_rfl)];refine wp_store_mid 54 (.tmp 4) (.tmp 8) rfl (w.heap.size+1+1) 0 #[.bool x.s,yT j x.n i,yi x.e,.bool y.s,yT m y.n k,yi y.e] (by kernel_rfl) (by kernel_rfl) a2 (by kernel_rfl) (by simp[Value.oneCell']) ?_;refine c.out _ _ ⟨a5,a6⟩ (fun ae=> ?_)
 clear c K;clear D L M Y Z a0 o a2;refine wpAnyH_done (by kernel_rfl) ?_ _;clear G a9 ad ae;change Exit.then _ _ _ _ (World.setCells r (w.heap.size+1+1) 0 [.bool x.s,yT j x.n i,yi x.e,.bool y.s,yT m y.n k,yi y.e]);generalize World.setCells r (w.heap.size+1+1) 0 [.bool x.s,yT j x.n i,yi x.e,.bool y.s,yT m y.n k,yi y.e]=al at a5 a6 a4 a7 a8 a1⊢;simp only[Act.put,List.getElem_toArray,List.getElem_cons_succ,List.getElem_cons_zero];have hl:=run_loadVar_mid (P:=Tryz.prog) _ (w.heap.size+1+1) 0 54 [.bool x.s,yT j x.n i,yi x.e,.bool y.s,yT m y.n k,yi y.e] _ a4.range underlying54 rfl (by kernel_rfl)
 go_wp2
 exact bodyPost_ret (br results111 rfl hl) rfl ⟨_,_,rfl,a7,a8,a1⟩
theorem sumsAtanh_W (x y:ak)(n k:Int)(w:World)
  (b: ∀j,yB w j→yC 128 #[yi n,yi k,yi 0] j (aeT j x y)):
  yC 112 #[yi n,yi k] w (aeT w x y):=by
 replace b:Hid _:=b;obtain⟨B,c,q1,g⟩:=cA w [.bool false,yN,yi 0,.bool false,yN,yi 0] 54;replace c:Hid _:=c
 go_enter func112,ntmps112
 go_upto_region 1 with fail
 rw[c.out];clear c
 go_wp2_with fail
 refine(b.out _ g).mono ?_;rintro S E ⟨C,D,rfl,d,f,h⟩;have a:=q1.l h;have m:=aa g h;obtain⟨v,u,i⟩:=d.shape;subst i;obtain⟨A,z,i⟩:=f.shape;subst i;clear q1 g h b;have hf:=fin6 (P:=Tryz.prog) a m (by omega) underlying54 rfl (by kernel_rfl) (.bool x.s) (yT v x.n u) (yi x.e) (.bool y.s) (yT A y.n z) (yi y.e);have o:Hid (_∧_∧_∧_):=⟨hf.1,hf.2.2.rd d (aX d a (by simp)),hf.2.2.rd f (aX f a (by simp)),hf.2.1⟩;obtain⟨⟨L,M,N,O,Q,R⟩,F,G,H,I,J,K⟩:=csf6 a;clear hf a d f m
 go_wp2
 obtain⟨q,r,t,p⟩:=o.out;exact bodyPost_ret (br results112 rfl q) rfl ⟨_,_,rfl,r,t,p⟩
theorem dsize_W (a:ak)(d:Option Addr)(b:Nat)(w:World):
  yC 29 #[yDV a d b] w (yR w (ydV false (yT d a.n b) a.e)):=by
 obtain⟨i,g,q1,q2,m⟩:=iG w (yDL a d b) 48 (ydL false yN 0) 48;replace g:Hid _:=g
 go_enter func29,ntmps29
 go_upto_region 1 with fail
 rw[g.out];clear g;have k:=ag i w.heap.size 0 (.bool false);have l:au (i.setCell ⟨w.heap.size,0,none⟩ (.bool false)) w.heap.size 48 (ydL false (yT d a.n b) a.e):=(q1.set 0 (.bool false));have q:=q1.c 0 rfl;have s:=q1.f 0;have h:=k.loc q2 (by omega);have j:=k.below m (by omega);clear k
 go_upto_region 2 with fail
 generalize i.setCell ⟨w.heap.size,0,none⟩ (.bool false)=t at l h j⊢;clear q1 q2 m q s;obtain⟨u,v,x⟩:=l.cs3;have hf:=afy (P:=Tryz.prog) h j (by omega) underlying48 rfl (by kernel_rfl) (.bool false) (yT d a.n b) (yi a.e);have o:Hid (_∧_):=⟨hf.1,hf.2.1⟩;obtain⟨⟨B,C,D⟩,y,z,A⟩:=afA h;clear hf l h j
 go_wp2
 obtain⟨r,p⟩:=o.out;exact bodyPost_ret (br results29 rfl r) rfl ⟨rfl,p⟩
theorem dtop_W (a:ak)(d:Option Addr)(b:Nat)(n m:Int)(w:World)(F:IntKind.i64.wrap (n+a.e)=m)
  (i:yJ 65 #[yDV a d b] (yT d a.n b))
  (h:yH w 74 #[yT d a.n b] (yi n)):
  yC 53 #[yDV a d b] w (yR w (yi m)):=by
 replace i:Hid _:=i;replace h:Hid _:=h;obtain⟨o,j,q1,y⟩:=cA w (yDL a d b) 48;replace j:Hid _:=j
 go_enter func53,ntmps53
 go_upto_region 1 with fail
 rw[j.out];clear j
 go_upto_region 1 with fail
 have r:yB o o.drew:=(Below.refl _ _).drew;have k:=q1.l r;have q:=aa y r;clear q1 y r;refine wp_region_held_drew (S:=fun C=>au C w.heap.size 48 (yDL a d b)) (by kernel_rfl) k (fun f=> ?_)
 generalize o.drew=E at k q f⊢;refine tq 0 (yDV a d b) rfl (fun _ v=>fy 48 (.tmp 1) rfl w.heap.size 0 (by kernel_rfl) _ _ v.range underlying48 rfl (by kernel_rfl)) f ?_
 refine tq 3 (.pointer (some ⟨w.heap.size,0,none⟩)) rfl (fun _ _=>by kernel_rfl) f ?_
 refine tq 4 (.pointer (some ⟨w.heap.size,2,none⟩)) rfl (fun _ _=>by kernel_rfl) f ?_
 refine tq 5 (yi a.e) rfl (fun _ v=>gU 3 (.tmp 7) rfl w.heap.size 2 (by kernel_rfl) _ _ underlying3 rfl (v.c 2 rfl)) f ?_
 refine wpAnyH_ready (rs:=[1]) (by kernel_rfl) (by simp) ?_;refine AllReadyH.cons rfl (fun K g=> ?_) AllReadyH.nil
 go_simp
 refine(i.out _).mono ?_;rintro D H ⟨rfl,s⟩;have x:=k.l s;have p:=aa q s;clear k q s i;refine g.out _ _ x (fun A=> ?_)
 clear g K;refine wpAnyH_ready (rs:=[2]) (by kernel_rfl) (by simp) ?_;refine AllReadyH.cons rfl (fun K g=> ?_) AllReadyH.nil
 go_simp
 refine(h.out _ p).mono ?_;rintro D G ⟨rfl,t⟩;have B:=x.l t;have z:=aa p t;clear x p t h;refine g.out _ _ B (fun u=> ?_)
 clear g K;refine tq 6 (yi m) rfl (fun _ _=>by go_simp) u ?_
 refine tq 7 (yi m) rfl (fun _ _=>by kernel_rfl) u ?_
 refine wpAnyH_done (by kernel_rfl) ?_ _;clear f A u;simp only[Act.put,List.getElem_toArray,List.getElem_cons_succ,List.getElem_cons_zero,List.setIfInBounds_toArray,List.set_cons_zero,List.set_cons_succ]
 go_wp2
 go_ret
 exact⟨by simp,z⟩
theorem part1_W (F E D:Nat)(a:ak)(B:Option Addr)(A:Nat)(x y u v:ak)(t o b:Int)(w:World)(lt:w.rangeAt F 0 [yi t])(lo:w.rangeAt E 0 [yi o])(lb:w.rangeAt D 0 [yi b])
  (G: ∀c,yB w c→yC 43 #[yi t] c (Lx c x))
  (H: ∀xo xc c,yB w c→Rd c .u32 (yT xo x.n xc) (Dg.dg 4294967296 x.n)→yC 31 #[yDV a B A,yDV x xo xc] c (Lx c y))
  (I: ∀c,yB w c→yC 43 #[yi o] c (Lx c u))
  (J: ∀yo yc uo uc c,yB w c→Rd c .u32 (yT yo y.n yc) (Dg.dg 4294967296 y.n)→Rd c .u32 (yT uo u.n uc) (Dg.dg 4294967296 u.n)→yC 110 #[yDV y yo yc,yDV u uo uc,yi b] c (Lx c v)):
  yC 129 #[yDV a B A,.pointer (some ⟨F,0,none⟩),.pointer (some ⟨E,0,none⟩),.pointer (some ⟨D,0,none⟩)] w (Lx w v):=by
 replace G:Hid _:=G;replace H:Hid _:=H;replace I:Hid _:=I;replace J:Hid _:=J;have bv:F<w.heap.size:=World.block_lt_of_cell? _ _ (lt 0 _ rfl);have bw:E<w.heap.size:=World.block_lt_of_cell? _ _ (lo 0 _ rfl);have bx:D<w.heap.size:=World.block_lt_of_cell? _ _ (lb 0 _ rfl);obtain⟨Y,M,q1,q2,C⟩:=iG w (yDL a B A) 48 (ydL false yN 0) 48;replace M:Hid _:=M;have q6:=aC lt C;have q7:=aC lo C;have q8:=aC lb C;clear lt lo lb
 go_enter func129,ntmps129
 go_upto_region 1 with fail
 rw[M.out];clear M
 go_upto_region 1 with fail
 have i:yB Y Y.drew:=(Below.refl _ _).drew;have N:=aC q6 i;have O:=aC q7 i;have Q:=aC q8 i;have R:=q1.l i;have a2:=q2.l i;have L:=aa C i;clear q6 q7 q8 q1 q2 C i;refine wp_region_held_drew (S:=fun X=>X.rangeAt F 0 [yi t]∧X.rangeAt E 0 [yi o]∧X.rangeAt D 0 [yi b]∧au X w.heap.size 48 (yDL a B A)) (by kernel_rfl) ⟨N,O,Q,R⟩ (fun s=> ?_)
 generalize Y.drew=bt at N O Q R a2 L s⊢;refine tq 0 (yDV a B A) rfl (fun _ m=>fy 48 (.tmp 4) rfl w.heap.size 0 (by kernel_rfl) _ _ m.2.2.2.range underlying48 rfl (by kernel_rfl)) s ?_
 refine tq 1 (yi t) rfl (fun _ m=>gU 3 (.tmp 1) rfl F 0 (by kernel_rfl) _ _ underlying3 rfl (m.1 0 _ rfl)) s ?_
 refine tq 4 (yi o) rfl (fun _ m=>gU 3 (.tmp 2) rfl E 0 (by kernel_rfl) _ _ underlying3 rfl (m.2.1 0 _ rfl)) s ?_
 refine tq 6 (yi b) rfl (fun _ m=>gU 3 (.tmp 3) rfl D 0 (by kernel_rfl) _ _ underlying3 rfl (m.2.2.1 0 _ rfl)) s ?_
 refine wpAnyH_ready (rs:=[2]) (by kernel_rfl) (by simp) ?_;refine AllReadyH.cons rfl (fun K d=> ?_) AllReadyH.nil
 go_simp
 refine(G.out _ L).mono ?_;rintro zz c3 ⟨bz,rfl,T,j⟩;have a3:=aC N j;have a4:=aC O j;have a5:=aC Q j;have a6:=R.l j;have b7:=a2.l j;have Z:=aa L j;obtain⟨xo,xc,k⟩:=T.shape;subst k;clear N O Q R a2 L j G;refine d.out _ _ ⟨a3,a4,a5,a6⟩ (fun bi=> ?_)
 clear d K;refine wpAnyH_ready (rs:=[3]) (by kernel_rfl) (by simp) ?_;refine AllReadyH.cons rfl (fun K d=> ?_) AllReadyH.nil
 go_simp
 refine(H.out _ _ _ Z T).mono ?_;rintro zz c4 ⟨c0,rfl,ay,h⟩;have a7:=aC a3 h;have a8:=aC a4 h;have a9:=aC a5 h;have ad:=a6.l h;have b8:=b7.l h;have bf:=T.l h;have a0:=aa Z h;obtain⟨yo,yc,k⟩:=ay.shape;subst k;clear a3 a4 a5 a6 b7 T Z h H;refine d.out _ _ ⟨a7,a8,a9,ad⟩ (fun bj=> ?_)
 clear d K;refine wpAnyH_ready (rs:=[5]) (by kernel_rfl) (by simp) ?_;refine AllReadyH.cons rfl (fun K d=> ?_) AllReadyH.nil
 go_simp
 refine(I.out _ a0).mono ?_;rintro zz c5 ⟨c1,rfl,U,g⟩;have ae:=aC a7 g;have al:=aC a8 g;have an:=aC a9 g;have ap:=ad.l g;have b9:=b8.l g;have bg:=bf.l g;have az:=ay.l g;have a1:=aa a0 g;obtain⟨uo,uc,k⟩:=U.shape;subst k;clear a7 a8 a9 ad b8 bf ay a0 g I;refine d.out _ _ ⟨ae,al,an,ap⟩ (fun bl=> ?_)
 clear d K;refine wpAnyH_ready (rs:=[7]) (by kernel_rfl) (by simp) ?_;refine AllReadyH.cons rfl (fun K d=> ?_) AllReadyH.nil
 go_simp
 refine(J.out _ _ _ _ _ a1 az U).mono ?_;rintro zz z ⟨c2,rfl,W,e⟩;have aq:=aC ae e;have ar:=aC al e;have av:=aC an e;have ax:=ap.l e;have p:=b9.l e;have b0:=bg.l e;have b1:=az.l e;have b2:=U.l e;have b4:=aa a1 e;obtain⟨r,q,k⟩:=W.shape;subst k;clear ae al an ap b9 bg az U a1 e J;refine d.out _ _ ⟨aq,ar,av,ax⟩ (fun bm=> ?_)
 clear d K;refine wpAnyH_ready (rs:=[8]) (by kernel_rfl) (by simp) ?_;refine AllReadyH.cons rfl (fun K d=> ?_) AllReadyH.nil
 have f:But (w.heap.size+1) z (z.setCells (w.heap.size+1) 0 (yDL v r q)):=de _ _ _ _;have b6:z.there (w.heap.size+1) 0 3:=dD p;have ba:au (z.setCells (w.heap.size+1) 0 (yDL v r q)) (w.heap.size+1) 48 (yDL v r q):=p.sets _ rfl;have bo:=f.rd b0 (aX b0 p (by simp));have bp:=f.rd b1 (aX b1 p (by simp));have bq:=f.rd b2 (aX b2 p (by simp));have bh:=f.rd W (aX W p (by simp));have bb:=dZ f aq (by omega);have bc:=dZ f ar (by omega);have bd:=dZ f av (by omega);have be:=f.loc ax (by omega);have b5:=f.below b4 (by omega);rw[if_pos (by kernel_rfl)];refine wp_store_mid 48 (.tmp 5) (.tmp 13) rfl (w.heap.size+1) 0 (yDA v r q) (by kernel_rfl) (by kernel_rfl) b6 (by kernel_rfl) (by simp[Value.oneCell']) ?_;refine d.out _ _ ⟨bb,bc,bd,be⟩ (fun bn=> ?_)
 clear d K;clear p b0 b1 b2 W aq ar av ax b4 f b6;refine wpAnyH_done (by kernel_rfl) ?_ _;clear s bi bj bl bm bn;change Exit.then _ _ _ _ (World.setCells z (w.heap.size+1) 0 (yDL v r q));generalize World.setCells z (w.heap.size+1) 0 (yDL v r q)=bs at bb bc bd be ba bo bp bq bh b5⊢;simp only[Act.put,List.getElem_toArray,List.getElem_cons_succ,List.getElem_cons_zero];have hl:=run_loadVar_mid (P:=Tryz.prog) _ (w.heap.size+1) 0 48 (yDL v r q) _ ba.range underlying48 rfl (by kernel_rfl)
 go_wp2
 exact bodyPost_ret (br results129 rfl hl) rfl ⟨_,rfl,bh,b5⟩
theorem qT_plus (a b:ak):qT (aG a b)=qT a+qT b:=by
 obtain⟨K,c,d⟩:=low2 a.e b.e;refine qT_inj (K:=K) ?_;rw[←qT_V (eS c d),dH c d,Rat.intCast_add,qT_V c,qT_V d]
 grind
theorem over_cut_near (a b:ak)(B:Nat)(j:1≤B)(m:b.n≠0){X:Rat}(l:X*qT b=qT a)(up:Bool):ab (qT (aY (cK a b B) B up)-X)≤p2 (2-(B:Int))*ab X∧ ∀k,ab X≤p2 k→ab (qT (aY (cK a b B) B up))≤p2 k:=by
 obtain⟨t,u⟩:=over_nearR a b B j m l;refine⟨?_,fun k o=>cut_pow _ _ _ (by omega) k (u k o)⟩
 have c:=cut_near (cK a b B) B up (by omega);obtain⟨q,e⟩: ∃q,qT (cK a b B)=q:=⟨_,rfl⟩;obtain⟨r,f⟩: ∃r,qT (aY (cK a b B) B up)=r:=⟨_,rfl⟩;rw[e,f] at c;rw[e] at t;rw[f];have g:p2 (1-(B:Int))=2*p2 (-(B:Int)):=by rw[show 1-(B:Int)=1+ -(B:Int) by omega,p2_add,p2_one]
 have i:p2 (2-(B:Int))=4*p2 (-(B:Int)):=by
  rw[show 2-(B:Int)=1+(1+ -(B:Int)) by omega,p2_add,p2_add,p2_one]
  grind
 rw[g] at c;rw[i];have p:p2 (-(B:Int))≤1/2:=by
  have h:=p2_mono (show-(B:Int)≤ -1 by omega)
  have:p2 (-1)=1/2:=by
   have:=p2_neg 1;rw[p2_one] at this
   grind
  rwa [this] at h
 have w:=p2_pos (-(B:Int));generalize p2 (-(B:Int))=d at*;have s:=ab_nonneg X;have v:ab q≤ab X+d*ab X:=by
  have:=ab_add (q-X) X;rw[show q-X+X=q by grind] at this
  grind
 have x:ab (r-X)≤ab (r-q)+ab (q-X):=by
  have:=ab_add (r-q) (q-X)
  rwa [show r-q+(q-X)=r-X by grind] at this
 have y:=Rat.mul_le_mul_of_nonneg_left v (show 0≤2*d by grind)
 have z:=Rat.mul_le_mul_of_nonneg_left p (Rat.mul_nonneg (show 0≤2*d by grind) s)
 grind
theorem cut_iv (a b:ak)(B:Nat)(q:1≤B)(r:qT a≤qT b):IvN.Cut (p2 (2-(B:Int))) (ivT a b) (ivT (aY a B false) (aY b B true)):=by
 have h:=cut_near a B false (by omega);have i:=cut_near b B true (by omega);have m:=(cut_lo a B (by omega)).1;have n:=(cut_lo b B (by omega)).2;have e:p2 (1-(B:Int))≤p2 (2-(B:Int)):=p2_mono (by omega);have o:=Rat.mul_le_mul_of_nonneg_right e (ab_nonneg (qT a));have p:=Rat.mul_le_mul_of_nonneg_right e (ab_nonneg (qT b));rw[ab_le] at h i;refine⟨m,n, ?_, ?_,fun k j=> ?_⟩
 ·show qT a-qT (aY a B false)≤_*ab (qT a)
  grind
 ·show qT (aY b B true)-qT b≤_*ab (qT b)
  grind
 ·have l: -(hf k)≤qT a∧qT b≤hf k:=j
  obtain⟨d,f⟩:=l;rw[←p2_hf] at d f⊢;have g:=cut_pow a B false (by omega) (-(k:Int)) (IvN.ab_of d (by grind));have c:=cut_pow b B true (by omega) (-(k:Int)) (IvN.ab_of (by grind) f);rw[ab_le] at g c;exact⟨by show-_≤qT _;grind,c.1⟩
theorem part_iv {c:Rat}(a b g h d:ak)(B:Nat)(e:1≤B)(q:0≤c)(t:qT a≤qT b)(f:d.n≠0)(j:c*qT a*qT d=qT g)(l:c*qT b*qT d=qT h):
  IvN.Cut (p2 (2-(B:Int))) (IvN.scl c (ivT a b)) (ivT (aY (cK g d B) B false) (aY (cK h d B) B true)):=by
 obtain⟨u,-⟩:=over_cut g d B e f j;obtain⟨-,v⟩:=over_cut h d B e f l;obtain⟨w,p1⟩:=over_cut_near g d B e f j false;obtain⟨x,y⟩:=over_cut_near h d B e f l true;rw[ab_le] at w x;have z:=Rat.mul_le_mul_of_nonneg_left t q;refine⟨u,v, ?_, ?_,fun k r=> ?_⟩
 ·show c*qT a-qT _≤_*ab (c*qT a)
  grind
 ·show qT _-c*qT b≤_*ab (c*qT b)
  grind
 ·have s: -(hf k)≤c*qT a∧c*qT b≤hf k:=r
  obtain⟨m,o⟩:=s;rw[←p2_hf] at m o⊢;have p:=p1 (-(k:Int)) (IvN.ab_of m (by grind));have i:=y (-(k:Int)) (IvN.ab_of (by grind) o);rw[ab_le] at p i;exact⟨by show-_≤qT _;grind,i.1⟩
theorem plus_iv (a b p q:ak):ivT (aG a p) (aG b q)=IvN.plus (ivT a b) (ivT p q):=by
 unfold ivT IvN.plus;rw[qT_plus,qT_plus]
abbrev smallS (s:ak×ak)(B:Nat):Prop:=(grS s).n=0∨(grS s).e+(bitLen (grS s).n:Int)< -(B:Int)
theorem times_iv (s t:ak×ak):ivS (timesS s t)=IvN.times (ivS s) (ivS t):=four_lo _ _ _ _
theorem plus_ivS (s t:ak×ak):ivS (plusS s t)=IvN.plus (ivS s) (ivS t):=plus_iv _ _ _ _
theorem cut_ivS (s:ak×ak)(B:Nat)(a:1≤B)(b:(ivS s).lo≤(ivS s).hi):IvN.Cut (p2 (2-(B:Int))) (ivS s) (ivS (cutSp s B)):=cut_iv _ _ B a b
theorem part_ivS {c:Rat}(s:ak×ak)(t o B:Nat)(b:1≤B)(d:0≤c)(f:(ivS s).lo≤(ivS s).hi)(e:o≠0)(a:c*(o:Rat)=(t:Rat)):IvN.Cut (p2 (2-(B:Int))) (IvN.scl c (ivS s)) (ivS (partS s t o B)):=
 part_iv s.1 s.2 (aK s.1 (wTr t)) (aK s.2 (wTr t)) (wTr o) B b d f e (by rw[qT_times,qT_w,qT_w,←a];grind) (by rw[qT_times,qT_w,qT_w,←a];grind)
theorem gr_ge (s:ak×ak):ab (qT s.1)≤qT (grS s)∧ab (qT s.2)≤qT (grS s)∧(qT (grS s)=ab (qT s.1)∨qT (grS s)=ab (qT s.2)):=by
 have a:=qhi_ge (fun i=>if i=0 then sizeT s.1 else sizeT s.2) 1 0 (by omega)
 have b:=qhi_ge (fun i=>if i=0 then sizeT s.1 else sizeT s.2) 1 1 (by omega)
 simp only[if_true,Nat.one_ne_zero,if_false] at a b;obtain⟨j,d,e⟩:=Pp (fun i=>if i=0 then sizeT s.1 else sizeT s.2) 1
 rw[←qT_size,←qT_size];refine⟨a,b, ?_⟩;unfold grS;rw[e]
 by_cases c:j=0
 ·rw[if_pos c];exact .inl rfl
 ·rw[if_neg c];exact .inr rfl
theorem gr_ab (s:ak×ak):ab (qT (grS s))=qT (grS s):=by
 have:=(gr_ge s).1;have:=ab_nonneg (qT s.1);unfold ab
 grind
theorem small_of {s:ak×ak}{B k:Nat}(f:(ivS s).lo≤(ivS s).hi)(h:(ivS s).inn (hf k))(a: ¬smallS s B):k≤B+1:=by
 unfold smallS at a;have d:(grS s).n≠0:=fun c=>a (.inl c)
 have j: -(B:Int)≤(grS s).e+(bitLen (grS s).n:Int):=by
  by_cases c: -(B:Int)≤(grS s).e+(bitLen (grS s).n:Int)
  ·exact c
  ·exact absurd (.inr (by omega)) a
 have t:=(qT_top d).1;rw[gr_ab] at t;obtain⟨-,-,e⟩:=gr_ge s;have i:qT s.1≤qT s.2:=f;have g: -(hf k)≤qT s.1∧qT s.2≤hf k:=h;have b:qT (grS s)≤hf k:=by
  rcases e with e|e<;>rw[e]<;>exact IvN.ab_of (by grind) (by grind)
 rw[←p2_hf] at b;have:=p2_le (Rat.le_trans t b);omega
theorem RgT.plus {E T:Int}{a b:ak}(h:RgT E T a)(g:RgT E T b):RgT E (T+1) (aG a b):=by
 obtain⟨l,m⟩:=h;obtain⟨i,j⟩:=g;obtain⟨e,c⟩: ∃e,min a.e b.e=e:=⟨_,rfl⟩;have d:e≤a.e:=by omega
 have f:e≤b.e:=by omega
 have p:=bits_up a.n (a.e-e).toNat;have q:=bits_up b.n (b.e-e).toNat;obtain⟨k,o⟩: ∃k:Nat,k=max (bitLen (a.n*2^ (a.e-e).toNat)) (bitLen (b.n*2^ (b.e-e).toNat)):=⟨_,rfl⟩;have r:=bits_add (a:=a.n*2^ (a.e-e).toNat) (b:=b.n*2^ (b.e-e).toNat) (k:=k) (by omega) (by omega);have s:=bits_mono (Nat.sub_le (b.n*2^ (b.e-e).toNat) (a.n*2^ (a.e-e).toNat));have t:=bits_mono (Nat.sub_le (a.n*2^ (a.e-e).toNat) (b.n*2^ (b.e-e).toNat));unfold aG;simp only[c];generalize a.n*2^ (a.e-e).toNat=x at*;generalize b.n*2^ (b.e-e).toNat=y at*;unfold RgT
 split
 ·simp only;omega
 ·split<;>simp only<;>omega
theorem RgT.cut {E T:Int}{t:ak}{b:Nat}(h:RgT E T t)(a:1≤b)(up:Bool):RgT E (T+1) (aY t b up):=by
 obtain⟨f,g⟩:=h;unfold aY
 by_cases c:(bitLen t.n:Int)-(b:Int)≤((if t.n=0 then 0 else tz t.n:Nat):Int)
 ·rw[if_pos c]
  unfold RgT;omega
 ·rw[if_neg c]
  obtain⟨k,d,i,-⟩:=bit_pos c;rw[d,Int.toNat_natCast];have e:t.n/2^ (k+1)<2^b:=by
   refine Nat.div_lt_of_lt_mul ?_;rw[←Nat.pow_add];exact Nat.lt_of_lt_of_le (bits_lt t.n) (Nat.pow_le_pow_right (by omega) (by omega))
  have j:bitLen (t.n/2^ (k+1)+(if(up != t.s)=true then 1 else 0))≤b+1:=bits_add (bits_le e) (bits_le (by
   have:=Nat.pow_le_pow_right (show 2>0 by omega) a
   split<;>omega))
  unfold RgT;simp only;omega
theorem RgS.plus {E T:Int}{s t:ak×ak}(h:RgS E T s)(g:RgS E T t):RgS E (T+1) (plusS s t):=⟨h.1.plus g.1,h.2.plus g.2⟩
theorem RgS.cut {E T:Int}{s:ak×ak}{b:Nat}(h:RgS E T s)(a:1≤b):RgS E (T+1) (cutSp s b):=⟨h.1.cut a _,h.2.cut a _⟩
theorem RgS.part {E T:Int}{s:ak×ak}{t o B k:Nat}(h:RgS E T s)(c:1≤B)(g:t<2^k)(d:o<2^k):RgS (E+(k:Int)+(B:Int)+1) (T+(k:Int)+2) (partS s t o B):=by
 have a: ∀q,RgT E T q→RgT (E+(k:Int)+(B:Int)+1) (T+(k:Int)+1) (cK (aK q (wTr t)) (wTr o) B):=fun q f=>by
  have:=(f.times (RgT.w t k g)).over (b:=wTr o) c;have e:bitLen o≤k:=bits_le d;exact this.mono (by show E+0+0+(bitLen o:Int)+(B:Int)+1≤_;omega) (by show T+(k:Int)-0+1≤_;omega)
 exact⟨((a _ h.1).cut c _).mono (by omega) (by omega),((a _ h.2).cut c _).mono (by omega) (by omega)⟩
theorem rest_rg:RgS 1 2 restS:=⟨(RgT.w 1 1 (by omega)).up (-1)|>.mono (by omega) (by omega),(RgT.w 2 2 (by omega)).mono (by omega) (by omega)⟩
theorem pws_walk {u:ak×ak}{B:Nat}{nx:Nat→Nat×Nat}{c:Nat→Rat}{mu wU d:Rat}{E T M:Int}(f:1≤B)(l:d=p2 (2-(B:Int)))(j: ∀k,0≤c (k+1)∧c (k+1)≤1)(C: ∀k,(nx (k+1)).2≠0∧c (k+1)*((nx (k+1)).2:Rat)=((nx (k+1)).1:Rat))
  (g:(ivS u).inn mu) (i:(ivS u).lo≤(ivS u).hi) (z: ∀k,mu*c (k+1)≤1/2) (m:(ivS u).wd≤wU) (hk:((B:Rat)+2)*(2*(wU+d)+8*d)≤1)
  (Q:RgS E T u) (Y:0≤E) (Z:0≤T) (A: ∀k,k≤B+1→(nx (k+1)).1<2^30∧(nx (k+1)).2<2^30) (J:((B:Int)+3)*(E+T+(B:Int)+50)≤M):
  ∃I:Nat→ak×ak→ak×ak→Prop,I 0 (wTr 1,wTr 1) (wTr 1,wTr 1)∧ ∀k s t,I k s t→k≤B+1∧RgS M M s∧RgS M M t∧RgS M M (partS (timesS t u) (nx (k+1)).1 (nx (k+1)).2 B)∧
   (¬smallS (partS (timesS t u) (nx (k+1)).1 (nx (k+1)).2 B) B→I (k+1) (cutSp (plusS s (partS (timesS t u) (nx (k+1)).1 (nx (k+1)).2 B)) B) (partS (timesS t u) (nx (k+1)).1 (nx (k+1)).2 B)):=by
 have y:0≤d:=by rw[l];have:=p2_pos (2-(B:Int));grind
 have a7:0≤wU:=by unfold IvN.wd at m;grind
 have H:0≤2*(wU+d)+8*d:=by grind
 obtain⟨S,K⟩: ∃S:Int,S=E+T+(B:Int)+50:=⟨_,rfl⟩;rw[←K] at J;have x:0≤S:=by omega
 have up: ∀k:Nat,k≤B+1→(k:Int)*S+S+10≤M:=fun k a=>by
  have U:((k:Int)+1)*S≤((B:Int)+2)*S:=Int.mul_le_mul_of_nonneg_right (by omega) x;have W:((B:Int)+3)*S=((B:Int)+2)*S+S:=by rw[show B+3=((B:Int)+2)+1 by omega,Int.add_mul];omega
  have X:((k:Int)+1)*S=(k:Int)*S+S:=by rw[Int.add_mul];omega
  omega
 refine⟨fun k s t=>PInv (ivS u) c wU d k (ivS s) (ivS t)∧k≤B+1∧RgS ((k:Int)*S) ((k:Int)*S+1) s∧RgS ((k:Int)*S) ((k:Int)*S+1) t,⟨?_,by omega, ?_, ?_⟩, ?_⟩
 ·have e:ivS (wTr 1,wTr 1)=⟨1,1⟩:=by
   unfold ivS ivT;simp only;rw[qT_w];rfl
  rw[e];exact PInv.zero _ _ _ _
 ·exact⟨(RgT.w 1 1 (by omega)).mono (by simp) (by simp),(RgT.w 1 1 (by omega)).mono (by simp) (by simp)⟩
 ·exact⟨(RgT.w 1 1 (by omega)).mono (by simp) (by simp),(RgT.w 1 1 (by omega)).mono (by simp) (by simp)⟩
 ·rintro k s t ⟨h,a,gs,gt⟩
  have a6:=up k a;have a5:(k:Rat)≤(B:Rat)+1:=by
   have:=nat_le a
   rwa [Rat.natCast_add] at this
  have N:(k:Rat)*(2*(wU+d)+8*d)≤1:=by
   have:=Rat.mul_le_mul_of_nonneg_right (show(k:Rat)≤(B:Rat)+2 by grind) H
   grind
  obtain⟨t1,t2,R⟩:=IvN.times_wd h.term_in g h.term_ord i;have b:=part_ivS (timesS t u) (nx (k+1)).1 (nx (k+1)).2 B f (j k).1 (by rw[times_iv];exact R) (C k).1 (C k).2;rw[times_iv,←l] at b;obtain⟨D,n,o,F⟩:=h.term j g i z m y b;have gn:=(gt.times Q).part f (A k a).1 (A k a).2;obtain⟨q,O⟩: ∃q,partS (timesS t u) (nx (k+1)).1 (nx (k+1)).2 B=q:=⟨_,rfl⟩;rw[O] at b D n o F gn⊢;have r:((k+1:Nat):Int)*S=(k:Int)*S+S:=by rw[Int.natCast_add,Int.add_mul];simp
  have a0:0≤(k:Int)*S:=Int.mul_nonneg (by omega) x;generalize(k:Int)*S=ks at*;refine⟨a,gs.mono (by omega) (by omega),gt.mono (by omega) (by omega),gn.mono (by omega) (by omega),fun P=> ?_⟩
  have L:=small_of o n P;have p:=cut_ivS (plusS s q) B f (by
   rw[plus_ivS];have:=h.sum_ord;unfold IvN.plus
   grind)
  rw[plus_ivS,←l] at p;have v:RgS (ks+S) (ks+S-2) q:=gn.mono (by omega) (by omega);have G:RgS (ks+S) (ks+S-2) s:=gs.mono (by omega) (by omega);refine⟨h.next j g i z m y N b p,L, ?_, ?_⟩
  ·rw[r]
   exact((G.plus v).cut f).mono (by omega) (by omega)
  ·rw[r]
   exact v.mono (by omega) (by omega)
theorem dover9 (v u:Value)(a b:ak)(B:Nat)(w:World)(g:Dv w v a)(f:Dv w u b)(m:b.n≠0)(c:Fit9 a)(d:Fit9 b)(e:B≤10000):yC 110 #[v,u,yi B] w (Lx w (cK a b B)):=by
 obtain⟨o,i,j⟩:=c.all;obtain⟨p,k,l⟩:=d.all;exact(Jw _ _ a b B w g f (by omega) (by omega) (by omega) (by omega) (by omega) (by omega) (by omega) e).mono fun _ _ h=>h.vres
theorem dcut9 (v:Value)(t:ak)(b:Nat)(up:Bool)(w:World)(c:Dv w v t)(f:Fit9 t)(g:1≤b)(h:b≤10000)(a:Tab w):yC 94 #[v,yi b,.bool up] w (Lx w (aY t b up)):=by
 obtain⟨i,d,e⟩:=f.all;exact Ij v t b up w c (by omega) (by omega) (by omega) (by omega) (by omega) a
theorem xa_near {n k tn:Nat}(a:2≤n)(c:tn≤1){w:Rat}(d:w*(n:Rat)=1)(m:Nat)(b:NA n tn k≤m):
  ab (((2^k:Nat):Rat)*awg tn w m-(XA n tn k:Rat))≤3*(NA n tn k:Rat)+3:=by
 have h:=lp_sum (k:=k) a tn d m b;have f:=xa_ord (n:=n) (k:=k) a c;have e:(XA n tn k:Rat)=((lp (n*n) tn (k+1) 0 (2^k/n) 0 0).2.1:Rat)-((lp (n*n) tn (k+1) 0 (2^k/n) 0 0).2.2:Rat):=by
  have:(((XA n tn k+(lp (n*n) tn (k+1) 0 (2^k/n) 0 0).2.2:Nat):Rat))=((lp (n*n) tn (k+1) 0 (2^k/n) 0 0).2.1:Rat):=by
   congr 1
   unfold XA;omega
  rw[Rat.natCast_add] at this
  grind
 rw[e];exact h
theorem has_ab {S:IvN}{x:Rat}(h:S.has x):ab x≤ab S.lo+ab S.hi:=by
 obtain⟨a,b⟩:=h;have:=le_ab S.hi;have:=neg_le_ab S.lo;have:=ab_nonneg S.lo;have:=ab_nonneg S.hi;rw[ab_le]
 constructor<;>grind
theorem SIn.times {S T:IvN}{f g:Nat→Rat}(h:SIn S f)(k:SIn T g):SIn (IvN.times S T) (fun n=>f n*g n):=by
 obtain⟨i,l,b,d⟩:=h;obtain⟨j,m,c,e⟩:=k;exact⟨fun n=>i n*j n,NrN.mul l m ⟨b,fun n a=>has_ab (d n a)⟩ ⟨c,fun n a=>has_ab (e n a)⟩,b+c,fun n a=>IvN.times_has (d n (by omega)) (e n (by omega))⟩
end Go.Proofs.YthhiidikgchdeabGreatDoor
