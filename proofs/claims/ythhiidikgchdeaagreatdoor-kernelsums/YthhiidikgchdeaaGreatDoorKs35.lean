/- Texts laid together. -/
import Derived.Test.YthhiidikgchdeaaGreatDoorKs29
import Derived.Test.YthhiidikgchdeaaGreatDoorKs30
import Derived.Test.YthhiidikgchdeaaGreatDoorKs32
set_option maxRecDepth 100000
set_option maxHeartbeats 3200000
namespace Go.Proofs.YthhiidikgchdeaaGreatDoor
open _root_.Go.Proofs.Tryz
open Go.RowKit
theorem nS (s:Bool)(d:Option Addr)(f:Nat)(xs:List Nat)(e:Int)(w:World)(i:Rd w .u32 (.slice d xs.length f) xs):
  yC 58 #[ydV s (.slice d xs.length f) e] w (yR w (yi (aS xs e))):=by
 have b:=af w (.cells (ydA s (.slice d xs.length f) e) 25);have a:=jC _ xs _ (i.l b);unfold aS;obtain⟨c,g⟩: ∃c,chk xs=c:=⟨_,rfl⟩;rw[g] at a⊢;clear g i
 by_cases h:c=0
 ·subst h
  rw[if_pos rfl]
  by_cases j:e< -20000
  ·rw[if_pos (Or.inl j)]
   go_enter func58,ntmps58
   go_wp2_with fail
   refine a.mono ?_;rintro z w' ⟨rfl,rfl⟩;clear a
   go_wp2
   go_ret
   exact⟨rfl,b⟩
  ·by_cases k:20000<e
   ·rw[if_pos (Or.inr k)]
    go_enter func58,ntmps58
    go_wp2_with fail
    refine a.mono ?_;rintro z w' ⟨rfl,rfl⟩;clear a
    go_wp2
    go_ret
    exact⟨rfl,b⟩
   ·rw[if_neg (by omega)]
    go_enter func58,ntmps58
    go_wp2_with fail
    refine a.mono ?_;rintro z w' ⟨rfl,rfl⟩;clear a
    go_wp2
    go_ret
    exact⟨rfl,b⟩
 ·rw[if_neg h]
  go_enter func58,ntmps58
  go_wp2_with fail
  refine a.mono ?_;rintro z w' ⟨rfl,rfl⟩;clear a
  go_wp2
  go_ret
  exact⟨rfl,b⟩
theorem xy (b:Nat)(s:Bool)(m:Option Addr)(o:Nat)(xs:List Nat)(e:Int)(t:Bool)(j:Option Addr)(k:Nat)(a:List Nat)(f:Int)(w:World)(H:w.cell? ⟨b,0,none⟩=some (.bool s))(I:w.cell? ⟨b,1,none⟩=some (.slice m xs.length o))(x:w.cell? ⟨b,2,none⟩=some (yi e))
  (E:w.cell? ⟨b,3,none⟩=some (.bool t)) (F:w.cell? ⟨b,4,none⟩=some (.slice j a.length k)) (G:w.cell? ⟨b,5,none⟩=some (yi f)) (B:Rd w .u32 (.slice m xs.length o) xs) (A:Rd w .u32 (.slice j a.length k) a):
  yC 107 #[.slice (some ⟨b,0,none⟩) 2 2] w (yR w (yi (dQ xs e a f))):=by
 unfold dQ;obtain⟨c,y⟩: ∃c,aS xs e=c:=⟨_,rfl⟩;obtain⟨d,q⟩: ∃d,aS a f=d:=⟨_,rfl⟩;have n:=af w (.cells (ydA s (.slice m xs.length o) e) 25);have p:=nS s m o xs e _ (B.l n);have C:Hid (yH w 58 #[ydV t (.slice j a.length k) f] (yi d)):=fun r i=>by
  have:=nS t j k a f r (A.l i)
  rwa [q] at this
 rw[y] at p⊢;rw[q];clear y q B A
 by_cases h:c=0
 ·subst h
  rw[if_pos rfl]
  go_enter func107,ntmps107
  go_wp2
  refine wp_loop_rounds 3 ?_;rw[rounds_succ]
  go_wp2_with fail
  refine p.mono ?_;rintro z r ⟨rfl,i⟩;have g:=aa n i;have J:=cell_later g E;have K:=cell_later g F;have L:=cell_later g G;have v:=aa g (af r (.cells (ydA t (.slice j a.length k) f) 25));clear p n i
  go_wp2
  rw[rounds_succ]
  go_wp2_with fail
  refine(C.out _ v).mono ?_;rintro z M ⟨rfl,D⟩;have u:=aa v D
  by_cases x:d=0
  ·subst x
   go_wp2
   rw[rounds_succ]
   go_wp2
   go_ret
   exact⟨rfl,u⟩
  ·go_wp2
   go_ret
   exact⟨rfl,u⟩
 ·rw[if_neg h]
  go_enter func107,ntmps107
  go_wp2
  refine wp_loop_rounds 3 ?_;rw[rounds_succ]
  go_wp2_with fail
  refine p.mono ?_;rintro z w' ⟨rfl,i⟩;have g:=aa n i
  go_wp2
  go_ret
  exact⟨rfl,g⟩
theorem signs_pos (a b:ak)(f h:Option Addr)(d g:Nat)(w:World)
  (j:yH w 24 #[yDV a f d] (yi 1))
  (k:yH w 24 #[yDV b h g] (yi 1)):
  yC 123 #[.agg #[.bool a.s,yT f a.n d,yi a.e,.bool b.s,yT h b.n g,yi b.e]] w (yR w (.bool true)):=by
 replace j:Hid _:=j;replace k:Hid _:=k;obtain⟨r,p,q1,A⟩:=cA w [.bool a.s,yT f a.n d,yi a.e,.bool b.s,yT h b.n g,yi b.e] 49;replace p:Hid _:=p
 go_enter func123,ntmps123
 go_upto_region 1 with fail
 rw[p.out];clear p
 go_upto_region 1 with fail
 have u:yB r r.drew:=(Below.refl _ _).drew;have q:=q1.l u;have m:=aa A u;clear q1 A u;refine wp_region_held_drew (S:=fun E=>au E w.heap.size 49 [.bool a.s,yT f a.n d,yi a.e,.bool b.s,yT h b.n g,yi b.e]) (by kernel_rfl) q (fun c=> ?_)
 generalize r.drew=G at q m c⊢;refine tq 0 (.pointer (some ⟨w.heap.size,0,none⟩)) rfl (fun _ _=>by kernel_rfl) c ?_
 refine tq 1 (yDV a f d) rfl (fun _ y=>fy 41 (.tmp 3) rfl w.heap.size 0 (by kernel_rfl) _ _ (kY y 0 3 rfl) underlying41 rfl (by kernel_rfl)) c ?_
 refine tq 3 (.pointer (some ⟨w.heap.size,3,none⟩)) rfl (fun _ _=>by kernel_rfl) c ?_
 refine tq 4 (yDV b h g) rfl (fun _ y=>fy 41 (.tmp 6) rfl w.heap.size 3 (by kernel_rfl) _ _ (kY y 3 3 rfl) underlying41 rfl (by kernel_rfl)) c ?_
 refine wpAnyH_ready (rs:=[2]) (by kernel_rfl) (by simp) ?_;refine AllReadyH.cons rfl (fun K i=> ?_) AllReadyH.nil
 go_simp
 refine(j.out _ m).mono ?_;rintro F I ⟨rfl,v⟩;have z:=q.l v;have t:=aa m v;clear q m v j;refine i.out _ _ z (fun C=> ?_)
 clear i K;refine wpAnyH_ready (rs:=[5]) (by kernel_rfl) (by simp) ?_;refine AllReadyH.cons rfl (fun K i=> ?_) AllReadyH.nil
 go_simp
 refine(k.out _ t).mono ?_;rintro F H ⟨rfl,x⟩;have D:=z.l x;have B:=aa t x;clear z t x k;refine i.out _ _ D (fun o=> ?_)
 clear i K;refine tq 6 (yi 1) rfl (fun _ _=>by go_simp<;>rfl) o ?_
 refine tq 7 (.bool true) rfl (fun _ _=>by go_simp<;>rfl) o ?_
 refine tq 8 (.bool true) rfl (fun _ _=>by kernel_rfl) o ?_
 refine wpAnyH_done (by kernel_rfl) ?_ _;clear c C o;simp only[Act.put,List.getElem_toArray,List.getElem_cons_succ,List.getElem_cons_zero,List.setIfInBounds_toArray,List.set_cons_zero,List.set_cons_succ]
 go_wp2
 go_ret
 exact⟨by simp,B⟩
theorem refined1_Exp (E pf pi:Nat)(x y u v:ak)(k b:Int)(w:World)(R:w.rangeAt pf 0 [.func (.func 28) #[] #[.pointer (some ⟨E,0,none⟩)]])(Q:w.rangeAt pi 0 [yi b])
  (A: ∀a,yB w a→yC 28 #[yi k,.pointer (some ⟨E,0,none⟩)] a (aeT a x y))
  (z: ∀xo xc yo yc a,yB w a→Rd a .u32 (yT xo x.n xc) (Dg.dg 4294967296 x.n)→Rd a .u32 (yT yo y.n yc) (Dg.dg 4294967296 y.n)→yC 69 #[.agg #[.bool x.s,yT xo x.n xc,yi x.e,.bool y.s,yT yo y.n yc,yi y.e],yi b] a (aeT a u v)):
  yC 68 #[yi k,.pointer (some ⟨pf,0,none⟩),.pointer (some ⟨pi,0,none⟩)] w (aeT w u v):=by
 replace A:Hid _:=A;replace z:Hid _:=z;have aq:pf<w.heap.size:=World.block_lt_of_cell? _ _ (R 0 _ rfl);have ar:pi<w.heap.size:=World.block_lt_of_cell? _ _ (Q 0 _ rfl);obtain⟨M,D,q1,C⟩:=cA w [.bool false,yN,yi 0,.bool false,yN,yi 0] 49;replace D:Hid _:=D;have q5:=aC R C;have q6:=aC Q C;clear R Q
 go_enter func68,ntmps68
 go_upto_region 1 with fail
 rw[D.out];clear D
 go_upto_region 1 with fail
 have q:yB M M.drew:=(Below.refl _ _).drew;have F:=aC q5 q;have G:=aC q6 q;have T:=q1.l q;have B:=aa C q;clear q5 q6 q1 C q;refine wp_region_held_drew (S:=fun wq=>wq.rangeAt pf 0 [.func (.func 28) #[] #[.pointer (some ⟨E,0,none⟩)]]∧wq.rangeAt pi 0 [yi b]) (by kernel_rfl) ⟨F,G⟩ (fun t=> ?_)
 generalize M.drew=ap at F G T B t⊢;refine tq 0 (.func (.func 28) #[] #[.pointer (some ⟨E,0,none⟩)]) rfl (fun _ O=>gU 50 (.tmp 1) rfl pf 0 (by kernel_rfl) _ _ underlying50 rfl (O.1 0 _ rfl)) t ?_
 refine tq 1 (yi k) rfl (fun _ _=>by kernel_rfl) t ?_
 refine tq 3 (yi b) rfl (fun _ O=>gU 3 (.tmp 2) rfl pi 0 (by kernel_rfl) _ _ underlying3 rfl (O.2 0 _ rfl)) t ?_
 refine wpAnyH_ready (rs:=[2]) (by kernel_rfl) (by simp) ?_;refine AllReadyH.cons rfl (fun K d=> ?_) AllReadyH.nil
 go_simp
 refine(A.out _ B).mono ?_;rintro zz b0 ⟨av,ay,rfl,H,J,r⟩;have U:=aC F r;have W:=aC G r;have a4:=T.l r;have N:=aa B r;obtain⟨xo,xc,g⟩:=H.shape;subst g;obtain⟨yo,yc,g⟩:=J.shape;subst g;clear F G T B r A;refine d.out _ _ ⟨U,W⟩ (fun ac=> ?_)
 clear d K;refine wpAnyH_ready (rs:=[4]) (by kernel_rfl) (by simp) ?_;refine AllReadyH.cons rfl (fun K d=> ?_) AllReadyH.nil
 go_simp
 refine(z.out _ _ _ _ _ N H J).mono ?_;rintro zz p ⟨ax,az,rfl,I,L,f⟩;have X:=aC U f;have Y:=aC W f;have h:=a4.l f;have Z:=H.l f;have a0:=J.l f;have a1:=aa N f;obtain⟨j,i,g⟩:=I.shape;subst g;obtain⟨o,m,g⟩:=L.shape;subst g;clear U W a4 H J N f z;refine d.out _ _ ⟨X,Y⟩ (fun ad=> ?_)
 clear d K;refine wpAnyH_ready (rs:=[5]) (by kernel_rfl) (by simp) ?_;refine AllReadyH.cons rfl (fun K d=> ?_) AllReadyH.nil
 have c:But w.heap.size p (p.setCells w.heap.size 0 [.bool u.s,yT j u.n i,yi u.e,.bool v.s,yT o v.n m,yi v.e]):=de _ _ _ _;have a3:p.there w.heap.size 0 6:=dD h;have a5:au (p.setCells w.heap.size 0 [.bool u.s,yT j u.n i,yi u.e,.bool v.s,yT o v.n m,yi v.e]) w.heap.size 49 [.bool u.s,yT j u.n i,yi u.e,.bool v.s,yT o v.n m,yi v.e]:=h.sets _ rfl;have al:=c.rd Z (aX Z h (by simp));have an:=c.rd a0 (aX a0 h (by simp));have a8:=c.rd I (aX I h (by simp));have a9:=c.rd L (aX L h (by simp));have a6:=dZ c X (by omega);have a7:=dZ c Y (by omega);have a2:=c.below a1 (by omega);rw[if_pos (by kernel_rfl)];refine wp_store_mid 49 (.tmp 4) (.tmp 9) rfl w.heap.size 0 #[.bool u.s,yT j u.n i,yi u.e,.bool v.s,yT o v.n m,yi v.e] (by kernel_rfl) (by kernel_rfl) a3 (by kernel_rfl) (by simp[Value.oneCell']) ?_;refine d.out _ _ ⟨a6,a7⟩ (fun ae=> ?_)
 clear d K;clear h Z a0 I L X Y a1 c a3;refine wpAnyH_done (by kernel_rfl) ?_ _;clear t ac ad ae;change Exit.then _ _ _ _ (World.setCells p w.heap.size 0 [.bool u.s,yT j u.n i,yi u.e,.bool v.s,yT o v.n m,yi v.e]);generalize World.setCells p w.heap.size 0 [.bool u.s,yT j u.n i,yi u.e,.bool v.s,yT o v.n m,yi v.e]=ao at a6 a7 a5 al an a8 a9 a2⊢;simp only[Act.put,List.getElem_toArray,List.getElem_cons_succ,List.getElem_cons_zero];have hl:=run_loadVar_mid (P:=Tryz.prog) _ (w.heap.size) 0 49 [.bool u.s,yT j u.n i,yi u.e,.bool v.s,yT o v.n m,yi v.e] _ a5.range underlying49 rfl (by kernel_rfl)
 go_wp2
 exact bodyPost_ret (br results68 rfl hl) rfl ⟨_,_,rfl,a8,a9,a2⟩
theorem number_e1 (s:Bool)(f:Option Addr)(j i:Nat)(e b c:Int)(w:World)(v: ¬c=0)
  (a:yH w 58 #[ydV s (.slice f j i) e] (yi c)):
  yC 20 #[ydV s (.slice f j i) e,yi b] w (yR w (.tuple #[ydV false yN 0,yi c])):=by
 replace a:Hid _:=a;obtain⟨u,d,q1,q2,g⟩:=iG w (ydL s (.slice f j i) e) 25 (ydL false yN 0) 41;replace d:Hid _:=d
 go_enter func20,ntmps20
 go_upto_region 1 with fail
 rw[d.out];clear d;obtain⟨p,q,r⟩:=q1.cs3
 go_wp2_with fail
 refine(a.out _ g).mono ?_;rintro E x ⟨rfl,h⟩;have k:=q2.l h;have m:=aa g h;clear q1 q2 g h a p q r;have hf:=afy (P:=Tryz.prog) k m (by omega) underlying41 rfl (by kernel_rfl) (.bool false) yN (yi 0);have n:Hid (_∧_):=⟨hf.1,hf.2.1⟩;obtain⟨⟨B,C,D⟩,y,z,A⟩:=afA k;clear hf k m
 go_wp2
 obtain⟨t,o⟩:=n.out;exact bodyPost_ret (aj results20 rfl rfl t) rfl ⟨rfl,o⟩
theorem number_e2 (s:Bool)(f:Option Addr)(j i:Nat)(e b c:Int)(w:World)(x:c=0)(v:b<20)
  (a:yH w 58 #[ydV s (.slice f j i) e] (yi c)):
  yC 20 #[ydV s (.slice f j i) e,yi b] w (yR w (.tuple #[ydV false yN 0,yi 3])):=by
 replace a:Hid _:=a;obtain⟨u,d,q1,q2,g⟩:=iG w (ydL s (.slice f j i) e) 25 (ydL false yN 0) 41;replace d:Hid _:=d
 go_enter func20,ntmps20
 go_upto_region 1 with fail
 rw[d.out];clear d;obtain⟨p,q,r⟩:=q1.cs3
 go_wp2_with fail
 refine(a.out _ g).mono ?_;rintro F y ⟨rfl,h⟩;have k:=q2.l h;have m:=aa g h;clear q1 q2 g h a p q r;have hf:=afy (P:=Tryz.prog) k m (by omega) underlying41 rfl (by kernel_rfl) (.bool false) yN (yi 0);have n:Hid (_∧_):=⟨hf.1,hf.2.1⟩;obtain⟨⟨C,D,E⟩,z,A,B⟩:=afA k;clear hf k m
 go_wp2
 obtain⟨t,o⟩:=n.out;exact bodyPost_ret (aj results20 rfl rfl t) rfl ⟨rfl,o⟩
theorem number_e3 (s:Bool)(f:Option Addr)(j i:Nat)(e b c:Int)(w:World)(y:c=0)(v: ¬b<20)(x:600<b)
  (a:yH w 58 #[ydV s (.slice f j i) e] (yi c)):
  yC 20 #[ydV s (.slice f j i) e,yi b] w (yR w (.tuple #[ydV false yN 0,yi 3])):=by
 replace a:Hid _:=a;obtain⟨u,d,q1,q2,g⟩:=iG w (ydL s (.slice f j i) e) 25 (ydL false yN 0) 41;replace d:Hid _:=d
 go_enter func20,ntmps20
 go_upto_region 1 with fail
 rw[d.out];clear d;obtain⟨p,q,r⟩:=q1.cs3
 go_wp2_with fail
 refine(a.out _ g).mono ?_;rintro G z ⟨rfl,h⟩;have k:=q2.l h;have m:=aa g h;clear q1 q2 g h a p q r;have hf:=afy (P:=Tryz.prog) k m (by omega) underlying41 rfl (by kernel_rfl) (.bool false) yN (yi 0);have n:Hid (_∧_):=⟨hf.1,hf.2.1⟩;obtain⟨⟨D,E,F⟩,A,B,C⟩:=afA k;clear hf k m
 go_wp2
 obtain⟨t,o⟩:=n.out;exact bodyPost_ret (aj results20 rfl rfl t) rfl ⟨rfl,o⟩
theorem number_e4 (x:ak)(s:Bool)(g:Option Addr)(i h:Nat)(e b c n:Int)(w:World)(hc:c=0)(h0: ¬b<20)(h1: ¬600<b)(hn:1200<n)
  (k:yH w 58 #[ydV s (.slice g i h) e] (yi c))
  (o:yJ 59 #[ydV s (.slice g i h) e] (ydV s (.slice g i h) e))
  (j: ∀a,yB w a→yC 60 #[ydV s (.slice g i h) e] a (Lx a x))
  (m: ∀f d a,yC 61 #[yDV x f d] a (yR a (yT f x.n d)))
  (p: ∀f d a,yB w a→Rd a .u32 (yT f x.n d) (Dg.dg 4294967296 x.n)→yC 62 #[yT f x.n d] a (yR a (yi n))):
  yC 20 #[ydV s (.slice g i h) e,yi b] w (yR w (.tuple #[ydV false yN 0,yi 2])):=by
 replace k:Hid _:=k;replace o:Hid _:=o;replace j:Hid _:=j;replace m:Hid _:=m;replace p:Hid _:=p;obtain⟨W4,y,q1,q2,C⟩:=iG w (ydL s (.slice g i h) e) 25 (ydL false yN 0) 41;replace y:Hid _:=y
 go_enter func20,ntmps20
 go_upto_region 1 with fail
 rw[y.out];clear y;obtain⟨c6,c7,c8⟩:=q1.cs3
 go_wp2_with fail
 refine(k.out _ C).mono ?_;rintro z w9 ⟨rfl,r⟩;have N:=q1.l r;have O:=q2.l r;have K:=aa C r;clear q1 q2 C r k c6 c7 c8;obtain⟨Z,a0,a1⟩:=N.cs3
 go_wp2_with fail
 refine(o.out _).mono ?_;rintro z ac ⟨rfl,E⟩;have Q:=O.l E;have A:=aa K E;clear N O K E o Z a0 a1
 go_wp2_with fail
 refine(j.out _ A).mono ?_;rintro z W ⟨a9,rfl,I,F⟩;have G:=Q.l F;have B:=aa A F;obtain⟨f,d,hv⟩:=I.shape;subst hv;clear Q A F j;obtain⟨a6,v,R,q⟩:=cA W (yDL x f d) 41;replace v:Hid _:=v;have a7:w.heap.size≤W.heap.size:=B.size;have a8:=G.lt;have S:=G.l q;have U:=I.l q;have L:=aa B q;clear G I B q
 go_upto_region 7 with fail
 rw[v.out];clear v;obtain⟨a2,a3,a4⟩:=R.cs3
 go_wp2_with fail
 refine(m.out _ _ _).mono ?_;rintro z ad ⟨rfl,t⟩;have T:=S.l t;have J:=U.l t;have D:=aa L t;clear S R U L t m a2 a3 a4
 go_wp2_with fail
 refine(p.out _ _ _ D J).mono ?_;rintro z ae ⟨rfl,u⟩;have H:=T.l u;have a5:=J.l u;have M:=aa D u;clear T J D u p;have hf:=afy (P:=Tryz.prog) H M (by omega) underlying41 rfl (by kernel_rfl) (.bool false) yN (yi 0);have X:Hid (_∧_):=⟨hf.1,hf.2.1⟩;obtain⟨⟨z0,z1,z2⟩,y0,y1,y2⟩:=afA H;clear hf H a5 M
 go_wp2
 obtain⟨hl,Y⟩:=X.out;exact bodyPost_ret (aj results20 rfl rfl hl) rfl ⟨rfl,Y⟩
theorem number_e5 (x:ak)(s:Bool)(g:Option Addr)(i h:Nat)(e b c n:Int)(w:World)(hc:c=0)(h0: ¬b<20)(h1: ¬600<b)(hn: ¬1200<n)(he:x.e< -18000)
  (o:yH w 58 #[ydV s (.slice g i h) e] (yi c))
  (q:yJ 59 #[ydV s (.slice g i h) e] (ydV s (.slice g i h) e))
  (m: ∀a,yB w a→yC 60 #[ydV s (.slice g i h) e] a (Lx a x))
  (p: ∀f d a,yC 61 #[yDV x f d] a (yR a (yT f x.n d)))
  (r: ∀f d a,yB w a→Rd a .u32 (yT f x.n d) (Dg.dg 4294967296 x.n)→yC 62 #[yT f x.n d] a (yR a (yi n))):
  yC 20 #[ydV s (.slice g i h) e,yi b] w (yR w (.tuple #[ydV false yN 0,yi 2])):=by
 replace o:Hid _:=o;replace q:Hid _:=q;replace m:Hid _:=m;replace p:Hid _:=p;replace r:Hid _:=r;obtain⟨W4,y,q1,q2,C⟩:=iG w (ydL s (.slice g i h) e) 25 (ydL false yN 0) 41;replace y:Hid _:=y
 go_enter func20,ntmps20
 go_upto_region 1 with fail
 rw[y.out];clear y;obtain⟨c6,c7,c8⟩:=q1.cs3
 go_wp2_with fail
 refine(o.out _ C).mono ?_;rintro z w9 ⟨rfl,u⟩;have O:=q1.l u;have Q:=q2.l u;have L:=aa C u;clear q1 q2 C u o c6 c7 c8;obtain⟨a0,a1,a2⟩:=O.cs3
 go_wp2_with fail
 refine(q.out _).mono ?_;rintro z ae ⟨rfl,E⟩;have R:=Q.l E;have A:=aa L E;clear O Q L E q a0 a1 a2
 go_wp2_with fail
 refine(m.out _ A).mono ?_;rintro z Y ⟨ad,rfl,J,F⟩;have G:=R.l F;have B:=aa A F;obtain⟨f,d,hv⟩:=J.shape;subst hv;clear R A F m;obtain⟨a7,v,H,t⟩:=cA Y (yDL x f d) 41;replace v:Hid _:=v;have a9:w.heap.size≤Y.heap.size:=B.size;have ac:=G.lt;have S:=G.l t;have X:=J.l t;have M:=aa B t;clear G J B t
 go_upto_region 7 with fail
 rw[v.out];clear v;obtain⟨a3,a4,a5⟩:=H.cs3
 go_wp2_with fail
 refine(p.out _ _ _).mono ?_;rintro z al ⟨rfl,j⟩;have T:=S.l j;have U:=H.l j;have K:=X.l j;have D:=aa M j;clear S H X M j p a3 a4 a5
 go_wp2_with fail
 refine(r.out _ _ _ D K).mono ?_;rintro z an ⟨rfl,k⟩;have I:=T.l k;have W:=U.l k;have a6:=K.l k;have N:=aa D k;clear T U K D k r;have a8:=W.c 2 rfl;have hf:=afy (P:=Tryz.prog) I N (by omega) underlying41 rfl (by kernel_rfl) (.bool false) yN (yi 0);have Z:Hid (_∧_):=⟨hf.1,hf.2.1⟩;obtain⟨⟨z0,z1,z2⟩,y0,y1,y2⟩:=afA I;clear hf I W a6 N
 go_wp2
 obtain⟨hl,bR⟩:=Z.out;exact bodyPost_ret (aj results20 rfl rfl hl) rfl ⟨rfl,bR⟩
theorem number_W (x:ak)(s:Bool)(g:Option Addr)(i h:Nat)(e b c n:Int)(w:World)(hc:c=0)(h0: ¬b<20)(h1: ¬600<b)(hn: ¬1200<n)(he: ¬x.e< -18000)
  (o:yH w 58 #[ydV s (.slice g i h) e] (yi c))
  (q:yJ 59 #[ydV s (.slice g i h) e] (ydV s (.slice g i h) e))
  (m: ∀a,yB w a→yC 60 #[ydV s (.slice g i h) e] a (Lx a x))
  (p: ∀f d a,yC 61 #[yDV x f d] a (yR a (yT f x.n d)))
  (r: ∀f d a,yB w a→Rd a .u32 (yT f x.n d) (Dg.dg 4294967296 x.n)→yC 62 #[yT f x.n d] a (yR a (yi n))):
  yC 20 #[ydV s (.slice g i h) e,yi b] w (NRd w x 0):=by
 replace o:Hid _:=o;replace q:Hid _:=q;replace m:Hid _:=m;replace p:Hid _:=p;replace r:Hid _:=r;obtain⟨W4,y,q1,q2,D⟩:=iG w (ydL s (.slice g i h) e) 25 (ydL false yN 0) 41;replace y:Hid _:=y
 go_enter func20,ntmps20
 go_upto_region 1 with fail
 rw[y.out];clear y;obtain⟨c6,c7,c8⟩:=q1.cs3
 go_wp2_with fail
 refine(o.out _ D).mono ?_;rintro A w9 ⟨rfl,u⟩;have Q:=q1.l u;have R:=q2.l u;have M:=aa D u;clear q1 q2 D u o c6 c7 c8;obtain⟨a0,a1,a2⟩:=Q.cs3
 go_wp2_with fail
 refine(q.out _).mono ?_;rintro A an ⟨rfl,F⟩;have S:=R.l F;have B:=aa M F;clear Q R M F q a0 a1 a2
 go_wp2_with fail
 refine(m.out _ B).mono ?_;rintro A Z ⟨al,rfl,J,G⟩;have H:=S.l G;have C:=aa B G;obtain⟨f,d,hv⟩:=J.shape;subst hv;clear S B G m;obtain⟨a7,v,I,t⟩:=cA Z (yDL x f d) 41;replace v:Hid _:=v;have ad:w.heap.size≤Z.heap.size:=C.size;have ae:=H.lt;have T:=H.l t;have Y:=J.l t;have N:=aa C t;clear H J C t
 go_upto_region 7 with fail
 rw[v.out];clear v;obtain⟨a3,a4,a5⟩:=I.cs3
 go_wp2_with fail
 refine(p.out _ _ _).mono ?_;rintro A ap ⟨rfl,j⟩;have U:=T.l j;have W:=I.l j;have K:=Y.l j;have E:=aa N j;clear T I Y N j p a3 a4 a5
 go_wp2_with fail
 refine(r.out _ _ _ E K).mono ?_;rintro A aq ⟨rfl,k⟩;have z:=U.l k;have X:=W.l k;have L:=K.l k;have O:=aa E k;clear U W K E k r;obtain⟨a8,a9,ac⟩:=X.cs3;have hf:=afy (P:=Tryz.prog) z O (by omega) underlying41 rfl (by kernel_rfl) (.bool x.s) (yT f x.n d) (yi x.e);have HH:Hid (_∧_∧_):=⟨hf.1,hf.2.2.rd L (aX L z (by simp)),hf.2.1⟩;obtain⟨⟨z0,z1,z2⟩,y0,y1,y2⟩:=afA z;clear hf z X L O
 go_wp2
 obtain⟨hl,a6,bR⟩:=HH.out;exact bodyPost_ret (aj results20 rfl rfl hl) rfl ⟨_,rfl,a6,bR⟩
theorem exp_pos (a:ak)(r:Option Addr)(o:Nat)(x y p q:ak)(n:Nat)(k e f:Int)(w:World)(ra:Rd w .u32 (yT r a.n o) (Dg.dg 4294967296 a.n))(hn:IntKind.i64.wrap n=(n:Int))
  (D:yJ 21 #[ydV false (yT r a.n o) a.e] (ydV false (yT r a.n o) a.e))
  (E: ∀b,yB w b→Rd b .u32 (yT r a.n o) (Dg.dg 4294967296 a.n)→yC 73 #[ydV false (yT r a.n o) a.e,yi k,.func (.func 74) #[] #[]] b (KRd b n x y))
  (F: ∀M L O N b,yB w b→Rd b .u32 (yT M x.n L) (Dg.dg 4294967296 x.n)→Rd b .u32 (yT O y.n N) (Dg.dg 4294967296 y.n)→yC 75 #[.agg #[.bool x.s,yT M x.n L,yi x.e,.bool y.s,yT O y.n N,yi y.e],yi k,.func (.func 76) #[] #[]] b (aeT b p q))
  (G: ∀no Y b,yB w b→Rd b .u32 (yT no n Y) (Dg.dg 4294967296 n)→yC 78 #[yT no n Y] b (yR b (.int .u64 n)))
  (H: ∀z v C B b,yC 77 #[.agg #[.bool p.s,yT z p.n v,yi p.e,.bool q.s,yT C q.n B,yi q.e],yi n] b (yR b (.agg #[.bool p.s,yT z p.n v,yi e,.bool q.s,yT C q.n B,yi f]))):
  yC 29 #[ydV false (yT r a.n o) a.e,yi k] w (aeT w ⟨p.s,p.n,e⟩ ⟨q.s,q.n,f⟩):=by
 replace D:Hid _:=D;replace E:Hid _:=E;replace F:Hid _:=F;replace G:Hid _:=G;replace H:Hid _:=H;obtain⟨W4,J,q1,q2,T⟩:=iG w (ydL false (yT r a.n o) a.e) 41 [.bool false,yN,yi 0,.bool false,yN,yi 0] 49;replace J:Hid _:=J;have r6:=ra.l T;clear ra
 go_enter func29,ntmps29
 go_upto_region 1 with fail
 rw[J.out];clear J;obtain⟨c7,c8,c9⟩:=q1.cs3
 go_wp2_with fail
 refine(D.out _).mono ?_;rintro Q cw ⟨rfl,t⟩;have ar:=q1.l t;have av:=q2.l t;have a3:=r6.l t;have R:=aa T t;clear q1 q2 r6 T t D c7 c8 c9
 go_wp2_with fail
 refine(E.out _ R a3).mono ?_;rintro Q bq ⟨cp,cs,cv,rfl,a4,a6,a9,u⟩;have Z:=ar.l u;have a0:=av.l u;have b7:=a3.l u;have S:=aa R u;obtain⟨no,Y,i⟩:=a4.shape;subst i;obtain⟨M,L,i⟩:=a6.shape;subst i;obtain⟨O,N,i⟩:=a9.shape;subst i;clear ar av a3 R u E;obtain⟨c6,I,ax,j⟩:=cA bq [.bool x.s,yT M x.n L,yi x.e,.bool y.s,yT O y.n N,yi y.e] 49;replace I:Hid _:=I;have cj:w.heap.size≤bq.heap.size:=S.size;have ck:=Z.lt;have cl:=a0.lt;have ay:=Z.l j;have az:=a0.l j;have b8:=b7.l j;have b9:=a4.l j;have a8:=a6.l j;have ad:=a9.l j;have U:=aa S j;clear Z a0 b7 a4 a6 a9 S j
 go_upto_region 2 with fail
 rw[I.out];clear I;obtain⟨bt,bu,bv,bw,bx,bz⟩:=ax.cs6
 go_wp2_with fail
 refine(F.out _ _ _ _ _ U a8 ad).mono ?_;rintro Q cx ⟨cr,ct,rfl,a5,a7,m⟩;have b0:=ay.l m;have b1:=az.l m;have ba:=b8.l m;have ae:=b9.l m;have bb:=a8.l m;have bc:=ad.l m;have W:=aa U m;obtain⟨z,v,i⟩:=a5.shape;subst i;obtain⟨C,B,i⟩:=a7.shape;subst i;clear ay az ax b8 b9 a8 ad U m F bt bu bv bw bx bz
 go_wp2_with fail
 refine(G.out _ _ _ W ae).mono ?_;rintro Q cy ⟨rfl,g⟩;have b2:=b0.l g;have b4:=b1.l g;have bd:=ba.l g;have be:=ae.l g;have bf:=bb.l g;have bg:=bc.l g;have bh:=a5.l g;have bi:=a7.l g;have ap:=aa W g;clear b0 b1 ba ae bb bc a5 a7 W g G
 go_wp2_with fail
 refine(H.out _ _ _ _ _).mono ?_;rintro Q bs ⟨rfl,h⟩;have a1:=b2.l h;have a2:=b4.l h;have bj:=bd.l h;have bl:=be.l h;have bm:=bf.l h;have bn:=bg.l h;have bo:=bh.l h;have bp:=bi.l h;have X:=aa ap h;clear b2 b4 bd be bf bg bh bi ap h H;obtain⟨ca,K,b5,d⟩:=cA bs [.bool p.s,yT z p.n v,yi e,.bool q.s,yT C q.n B,yi f] 49;replace K:Hid _:=K;have cm:w.heap.size≤bs.heap.size:=X.size;have cn:=a1.lt;have co:=a2.lt;have b6:=a1.l d;have A:=a2.l d;have c0:=bj.l d;have c1:=bl.l d;have c2:=bm.l d;have c3:=bn.l d;have al:=bo.l d;have an:=bp.l d;have aq:=aa X d;clear a1 a2 bj bl bm bn bo bp X d
 go_upto_region 3 with fail
 rw[K.out];clear K;have ci:=b6.c 0 rfl;obtain⟨cb,cc,cd,ce,cg,ch⟩:=b5.cs6;have hf:=fin6 (P:=Tryz.prog) A aq (by omega) underlying49 rfl (by kernel_rfl) (.bool p.s) (yT z p.n v) (yi e) (.bool q.s) (yT C q.n B) (yi f);have HH:Hid (_∧_∧_∧_):=⟨hf.1,hf.2.2.rd al (aX al A (by simp)),hf.2.2.rd an (aX an A (by simp)),hf.2.1⟩;obtain⟨⟨z0,z1,z2,z3,z4,z5⟩,y0,y1,y2,y3,y4,y5⟩:=csf6 A;clear hf b6 A b5 c0 c1 c2 c3 al an aq
 go_wp2
 obtain⟨hl,c4,c5,bR⟩:=HH.out;exact bodyPost_ret (br results29 rfl hl) rfl ⟨_,_,rfl,c4,c5,bR⟩
theorem CxN.at_real (w:Rat)(n:Nat):at' ⟨w,0⟩ n=⟨aw w n,0⟩:=by
 unfold at' aw;rw[←sm_real];refine sm_congr fun j _=> ?_
 rw[pw_real];apply ext'<;>simp only[sc,awt]<;>grind
theorem CxN.lnA_real (n:Nat):lnZ n=⟨la n,0⟩:=by
 unfold lnZ la;rw[at_real,at_real,at_real];have b:((9:Nat):Rat)=9:=rfl;have a:((4:Nat):Rat)=4:=rfl;rw[b,a];apply ext'<;>simp only[add,sc]<;>grind
theorem CxN.has_la:Has (fun n=>⟨la n,0⟩) ⟨2,0⟩:=by
 have e:lnZ=fun n=>⟨la n,0⟩:=by funext n;rw[lnA_real]
 rw[←e];exact has_lnA
theorem up_iv (a b:ak)(n:Int):ivT (upT a n) (upT b n)=IvN.scl (p2 n) (ivT a b):=by
 unfold ivT IvN.scl;rw[qT_up,qT_up]
theorem up_ivS (s:ak×ak)(n:Int):ivS (upS s n)=IvN.scl (p2 n) (ivS s):=up_iv _ _ _
theorem rest_iv:ivS restS=⟨1/2,2⟩:=by
 unfold ivS ivT restS;simp only;rw[qT_up,qT_w,qT_w];have:p2 (-1)=1/2:=by
  have:=p2_neg 1;rw[p2_one] at this
  grind
 rw[this,show((1:Nat):Rat)=1 from rfl,show((2:Nat):Rat)=2 from rfl]
 congr 1
 grind
theorem small_in {s:ak×ak}{B:Nat}(h:smallS s B):(ivS s).inn (p2 (-(B:Int)-1)):=by
 obtain⟨a,b,-⟩:=gr_ge s;have f:qT (grS s)≤p2 (-(B:Int)-1):=by
  rcases h with h|h
  ·rw[qT_zero h]
   have:=p2_pos (-(B:Int)-1)
   grind
  ·by_cases c:(grS s).n=0
   ·rw[qT_zero c]
    have:=p2_pos (-(B:Int)-1)
    grind
   ·have t:=(qT_top c).2
    rw[gr_ab] at t;have:=p2_mono (show(grS s).e+(bitLen (grS s).n:Int)≤ -(B:Int)-1 by omega)
    grind
 rw[ab_le] at a;have d:=ab_le.1 b
 constructor
 ·show-_≤qT s.1
  grind
 ·show qT s.2≤_
  grind
theorem wide_of {B:Nat}(f:84≤B)(d:B≤1000):((B:Rat)+2)*(2*(p2 (17-(B:Int))+p2 (2-(B:Int)))+8*p2 (2-(B:Int)))≤1∧
  ((B:Rat)+3)*(2*(p2 (17-(B:Int))+p2 (2-(B:Int)))+8*p2 (2-(B:Int)))+2*p2 (-(B:Int)-1)≤p2 (29-(B:Int)):=by
 have h:=p2_pos (2-(B:Int));have b:p2 (17-(B:Int))=32768*p2 (2-(B:Int)):=by
  rw[show 17-(B:Int)=15+(2-(B:Int)) by omega,p2_add]
  have:p2 15=32768:=by decide+kernel
  rw[this]
 have a:p2 (29-(B:Int))=134217728*p2 (2-(B:Int)):=by
  rw[show 29-(B:Int)=27+(2-(B:Int)) by omega,p2_add]
  have:p2 27=134217728:=by decide+kernel
  rw[this]
 have c:2*p2 (-(B:Int)-1)=1/4*p2 (2-(B:Int)):=by
  have:p2 (2-(B:Int))=p2 3*p2 (-(B:Int)-1):=by rw[←p2_add];congr 1;omega
  rw[this];have:p2 3=8:=by decide+kernel
  rw[this]
  grind
 have i:134217728*p2 (2-(B:Int))≤1:=by
  rw[←a];have:=p2_mono (show 29-(B:Int)≤0 by omega)
  rwa [p2_zero] at this
 have e:(B:Rat)≤1000:=by
  have:=nat_le d;exact this
 rw[b,a,c];generalize p2 (2-(B:Int))=z at*;have g:=nat_nn B;have:=Rat.mul_le_mul_of_nonneg_right e (show 0≤z by grind)
 constructor<;>grind
theorem rp_p2 (k:Nat):rp 2 k=p2 k:=by
 induction k with
 |zero=>rfl
 |succ k ih=>
  have:rp 2 (k+1)=rp 2 k*2:=by simp only[rp]
  rw[this,ih,show((k+1:Nat):Int)=(k:Int)+1 by omega,p2_add,p2_one]
def expS (x:ak)(B:Nat)(one:ak×ak):ak×ak:=upS (pwsT (restE x B one).2 B nxE (B+2) 1 (wTr 1,wTr 1) (wTr 1,wTr 1)) ((restE x B one).1:Int)
theorem restE_any {x:ak}{B:Nat}{one:ak×ak}{l:Nat→Rat}(S:84≤B)(U:B≤1000)(r:x.s=false)(d:x.n≠0)
  (F:0≤x.e+(bitLen x.n:Int)→1/2≤qT one.1∧qT one.1≤qT one.2∧qT one.2≤7/10∧qT one.2-qT one.1≤p2 (15-(B:Int)-(x.e+(bitLen x.n:Int)))∧EvN fun n=>(ivS one).has (l n)):
  (ivS (restE x B one).2).inn (1/2)∧(ivS (restE x B one).2).lo≤(ivS (restE x B one).2).hi∧(ivS (restE x B one).2).wd≤p2 (17-(B:Int))∧EvN fun n=>(ivS (restE x B one).2).has (qT x-((restE x B one).1:Rat)*l n):=by
 have a5:0<qT x:=by
  rw[qT_sq,r];simp only[sqT,Bool.false_eq_true,if_false];have:=Rat.mul_pos (nat_pos' (Nat.pos_of_ne_zero d)) (p2_pos x.e)
  grind
 have E:ab (qT x)=qT x:=by unfold ab;grind
 have X:=p2_pos (2-(B:Int));have q:p2 (17-(B:Int))=32768*p2 (2-(B:Int)):=by
  rw[show 17-(B:Int)=15+(2-(B:Int)) by omega,p2_add]
  have:p2 15=32768:=by decide+kernel
  rw[this]
 unfold restE
 by_cases c:x.e+(bitLen x.n:Int)<0
 ·rw[if_pos c]
  simp only;have I:qT x≤hf 1:=by
   have t:=(qT_top d).2;rw[E] at t;have:=p2_mono (show x.e+(bitLen x.n:Int)≤ -1 by omega)
   rw[p2_mhalf] at this;rw[hf_1]
   grind
  have Y:=hf_pos 1;have h:=cut_ivS (x,x) B (by omega) Rat.le_refl;have b:(ivS (x,x)).inn (hf 1):=⟨by show-_≤qT x;grind,I⟩
  obtain⟨m,o⟩:=h.wd (by grind) b Rat.le_refl;have H:(ivS (x,x)).wd=0:=by unfold IvN.wd;show qT x-qT x=0;grind
  rw[H,hf_1] at m;refine⟨by have:=h.pow 1 b;rwa [hf_1] at this,o,by rw[q];grind,0,fun n _=> ?_⟩
  refine h.has ?_;have:qT x-((0:Nat):Rat)*l n=qT x:=by
   have:((0:Nat):Rat)=0:=rfl
   grind
  rw[this];exact⟨Rat.le_refl,Rat.le_refl⟩
 ·rw[if_neg c]
  simp only;obtain⟨J,u,o3,v,M,K⟩:=F (by omega);obtain⟨a,k⟩: ∃a:Nat,x.e+(bitLen x.n:Int)=(a:Int):=⟨(x.e+(bitLen x.n:Int)).toNat,by omega⟩;rw[k,Int.toNat_natCast];rw[k] at v;obtain⟨t1,t2,g⟩:=taken_any x one a B (by omega) r d k J u;generalize nearT (cK x one.1 (a+32))=N at*;have f:=nat_nn N;have hz:=p2_pos (a:Int);have T:1≤p2 (a:Int):=by
   have:=p2_mono (show 0≤(a:Int) by omega)
   rwa [p2_zero] at this
  have C:(N:Rat)*(qT one.2-qT one.1)≤3*p2 (15-(B:Int)):=by
   have w:=Rat.mul_le_mul_of_nonneg_left v f;have p:=Rat.mul_le_mul_of_nonneg_right (show(N:Rat)≤3*p2 (a:Int) by grind) (show 0≤p2 (15-(B:Int)-(a:Int)) by have:=p2_pos (15-(B:Int)-(a:Int));grind)
   have y:p2 (a:Int)*p2 (15-(B:Int)-(a:Int))=p2 (15-(B:Int)):=by rw[←p2_add];congr 1;omega
   have z:3*p2 (a:Int)*p2 (15-(B:Int)-(a:Int))=3*(p2 (a:Int)*p2 (15-(B:Int)-(a:Int))):=by grind
   rw[z,y] at p
   grind
  have A:p2 (15-(B:Int))=8192*p2 (2-(B:Int)):=by
   rw[show 15-(B:Int)=13+(2-(B:Int)) by omega,p2_add]
   have:p2 13=8192:=by decide+kernel
   rw[this]
  have Z:p2 (2-(B:Int))≤1/1048576:=by
   have:=p2_mono (show 2-(B:Int)≤ -20 by omega)
   have e:p2 (-20)=1/1048576:=by
    have:=p2_neg 20;have i:p2 20=1048576:=by decide+kernel
    rw[i] at this
    grind
   rwa [e] at this
  have W:p2 (-31)≤1/1048576:=by
   have:=p2_mono (show(-31:Int)≤ -20 by omega)
   have e:p2 (-20)=1/1048576:=by
    have:=p2_neg 20;have i:p2 20=1048576:=by decide+kernel
    rw[i] at this
    grind
   rwa [e] at this
  have D:ab (qT x-(N:Rat)*qT one.1)≤36/100:=by
   have:=Rat.mul_le_mul_of_nonneg_right (show qT one.1≤7/10 by grind) (show 0≤1/2+p2 (-31) by have:=p2_pos (-31);grind)
   grind
  rw[ab_le] at D;rw[A] at C;obtain⟨Q,j⟩: ∃Q:IvN,(⟨qT x-(N:Rat)*qT one.2,qT x-(N:Rat)*qT one.1⟩:IvN)=Q:=⟨_,rfl⟩;rw[j] at g;have q1:Q.lo=qT x-(N:Rat)*qT one.2:=by rw[←j]
  have q2:Q.hi=qT x-(N:Rat)*qT one.1:=by rw[←j]
  have b:Q.inn (hf 1):=by
   rw[hf_1]
   constructor
   ·rw[q1];grind
   ·rw[q2];grind
  have a0:Q.wd≤24576*p2 (2-(B:Int)):=by
   unfold IvN.wd;rw[q1,q2]
   grind
  have G:Q.lo≤Q.hi:=by
   have:=Rat.mul_le_mul_of_nonneg_left u f;rw[q1,q2]
   grind
  obtain⟨m,o⟩:=g.wd (by grind) b G;rw[hf_1] at m;refine⟨by have:=g.pow 1 b;rwa [hf_1] at this,o,by rw[q];grind,M,fun n d=>g.has ?_⟩
  obtain⟨L,P⟩:=K n d;have O:qT one.1≤l n:=L;have R:l n≤qT one.2:=P;have w:=Rat.mul_le_mul_of_nonneg_left O f;have p:=Rat.mul_le_mul_of_nonneg_left R f
  constructor
  ·rw[q1];grind
  ·rw[q2];grind
theorem p2_split {e f:Int}(h:f≤e): ∃i:Nat,p2 e=((2^i:Nat):Rat)*p2 f∧e=f+(i:Int):=by
 obtain⟨i,a⟩: ∃i:Nat,e=(i:Int)+f:=⟨(e-f).toNat,by omega⟩;exact⟨i,by rw[a,p2_add,p2_nat],by omega⟩
theorem cut_grid {t:ak}{b:Nat}(N:1≤b)(o:t.s=false){g:Rat}(E:Grid b g):(g≤qT t→g≤qT (aY t b false))∧(qT t≤g→qT (aY t b true)≤g):=by
 unfold aY
 by_cases c:(bitLen t.n:Int)-(b:Int)≤((if t.n=0 then 0 else tz t.n:Nat):Int)
 ·rw[if_pos c,if_pos c]
  exact⟨id,id⟩
 ·rw[if_neg c,if_neg c]
  obtain⟨k,F,H,z⟩:=bit_pos c;rw[F,Int.toNat_natCast];obtain⟨L,p,M⟩:=uB t.n H;obtain⟨m,e,G,rfl⟩:=E;have w:=p2_pos t.e;have D:=Nat.div_add_mod t.n (2^ (k+1));have O:=Nat.mod_lt t.n (show 0<2^ (k+1) from Nat.pow_pos (by omega))
  obtain⟨q,x⟩: ∃q,t.n/2^ (k+1)=q:=⟨_,rfl⟩;rw[x] at D⊢;have v: ∀j:Nat,qT ⟨t.s,j,t.e+((k+1:Nat):Int)⟩=((j*2^ (k+1):Nat):Rat)*p2 t.e:=fun j=>by
   rw[qT_sq,o];simp only[sqT,Bool.false_eq_true,if_false];rw[show t.e+((k+1:Nat):Int)=((k+1:Nat):Int)+t.e by omega,p2_add,p2_nat,Rat.natCast_mul]
   grind
  have K:qT t=(t.n:Rat)*p2 t.e:=by
   rw[qT_sq,o];simp only[sqT,Bool.false_eq_true,if_false]
   grind
  have I:(false != t.s)=false:=by rw[o];rfl
  have J:(true != t.s)=true:=by rw[o];rfl
  simp only[I,J,Bool.false_eq_true,if_false,if_true,Nat.add_zero];rw[v,v,K]
  by_cases A:t.e+((k+1:Nat):Int)≤e
  ·obtain⟨i,u,-⟩:=p2_split A
   have B:(m:Rat)*p2 e=((m*2^i*2^ (k+1):Nat):Rat)*p2 t.e:=by
    rw[u,show t.e+((k+1:Nat):Int)=((k+1:Nat):Int)+t.e by omega,p2_add,p2_nat,Rat.natCast_mul,Rat.natCast_mul]
    grind
   rw[B]
   constructor
   ·intro h
    have l:m*2^i*2^ (k+1)≤t.n:=by
     have:=cancel_le w h;exact Rat.natCast_le_natCast.1 this
    have f:m*2^i≤q:=by rw[←x];exact(Nat.le_div_iff_mul_le (Nat.pow_pos (by omega))).2 l
    exact Rat.mul_le_mul_of_nonneg_right (nat_le (Nat.mul_le_mul_right _ f)) (by grind)
   ·intro h
    have l:t.n≤m*2^i*2^ (k+1):=by
     have:=cancel_le w h;exact Rat.natCast_le_natCast.1 this
    have f:q<m*2^i:=by
     by_cases d:q<m*2^i
     ·exact d
     ·have:=Nat.mul_le_mul_right (2^ (k+1)) (show m*2^i≤q by omega)
      rw[Nat.mul_comm q] at this;omega
    exact Rat.mul_le_mul_of_nonneg_right (nat_le (Nat.mul_le_mul_right _ f)) (by grind)
  ·--so small a number is not above the first bit of t
   have r:(m:Rat)*p2 e≤((2^ (bitLen t.n-1):Nat):Rat)*p2 t.e:=by
    have C:=Rat.mul_le_mul_of_nonneg_right (nat_le G) (show 0≤p2 e by have:=p2_pos e;grind)
    have y:=p2_mono (show b+e≤((bitLen t.n-1:Nat):Int)+t.e by omega)
    rw[p2_add,p2_add,p2_nat,p2_nat] at y;exact Rat.le_trans C y
   obtain⟨i,u⟩: ∃i,bitLen t.n-1=i+(k+1):=⟨bitLen t.n-1-(k+1),by omega⟩;rw[u,Nat.pow_add] at r p
   constructor
   ·intro _
    refine Rat.le_trans r (Rat.mul_le_mul_of_nonneg_right (nat_le (Nat.mul_le_mul_right _ ?_)) (by grind));rw[←x];exact(Nat.le_div_iff_mul_le (Nat.pow_pos (by omega))).2 p
   ·intro h
    exfalso
    have l:t.n≤2^i*2^ (k+1):=by
     have:=cancel_le w (Rat.le_trans h r);exact Rat.natCast_le_natCast.1 this
    have f:t.n=2^i*2^ (k+1):=Nat.le_antisymm l p;rw[f,Nat.mul_mod_left] at z;exact z rfl
def overS4 (s t:ak×ak)(B:Nat):ak×ak:=cutSp (loT (fourO s.1 s.2 t.1 t.2 B) 3,hiT (fourO s.1 s.2 t.1 t.2 B) 3) B
theorem scut9 (v:Value)(a b:ak)(B:Nat)(w:World)(m:SpanV w v a b)(j:Fit9 a)(k:Fit9 b)(e:1≤B)(f:B≤10000)(g:Tab w):yC 69 #[v,yi B] w (aeT w (cutSp (a,b) B).1 (cutSp (a,b) B).2):=by
 obtain⟨r,s,rfl,h,i⟩:=m;obtain⟨o,n,rfl⟩:=h.shape;obtain⟨q,p,rfl⟩:=i.shape;exact Nt _ _ _ _ _ _ _ _ _ _ _ _ _ w (fun d c=>dcut9 _ a B false d ⟨_,rfl,h.l c⟩ j e f (g.l c)) (fun d c=>dcut9 _ b B true d ⟨_,rfl,i.l c⟩ k e f (g.l c))
theorem pws_rg {u:ak×ak}{B:Nat}{nx:Nat→Nat×Nat}{I:Nat→ak×ak→ak×ak→Prop}(g:1≤B)
  (b: ∀k s t,I k s t→k≤B+1∧RgS 400000000 400000000 s∧RgS 400000000 400000000 t∧RgS 400000000 400000000 (partS (timesS t u) (nx (k+1)).1 (nx (k+1)).2 B)∧
   (¬smallS (partS (timesS t u) (nx (k+1)).1 (nx (k+1)).2 B) B→I (k+1) (cutSp (plusS s (partS (timesS t u) (nx (k+1)).1 (nx (k+1)).2 B)) B) (partS (timesS t u) (nx (k+1)).1 (nx (k+1)).2 B))):
  ∀f k s t,I k s t→B+2≤f+k→RgS 400000001 400000004 (pwsT u B nx f (k+1) s t):=by
 intro f
 induction f with
 |zero=>intro k s t h e;have:=(b k s t h).1;omega
 |succ f ih=>
  intro k s t h e;obtain⟨j,gs,gt,c,d⟩:=b k s t h;rw[pwsT];obtain⟨q,i⟩: ∃q,partS (timesS t u) (nx (k+1)).1 (nx (k+1)).2 B=q:=⟨_,rfl⟩;rw[i] at c d⊢
  by_cases a:smallS q B
  ·rw[if_pos a]
   exact(RgS.plus (gs.mono (by omega) (by omega)) ((c.times rest_rg).mono (E':=400000001) (T':=400000002) (by omega) (by omega))).cut g
  ·rw[if_neg a]
   exact ih (k+1) _ _ (d a) (by omega)
def expV (x:ak)(B:Nat):ak×ak:=if x.s=true then overS4 (wTr 1,wTr 1) (expS (sizeT x) B (lnSpan (sizeT x) B)) B else expS (sizeT x) B (lnSpan (sizeT x) B)
theorem F7.l {w w':World}{n:Int}{g:Option Nat}{p:ByteArray}{v:Value}(h:F7 w n g p v)(a:yB w w'):F7 w' n g p v:=⟨h.1,h.2.1.l a,h.2.2⟩
theorem sF.l {w w':World}{n:Int}{b:List ByteArray}{g cap:Nat}(h:sF w n b g cap)(a:yB w w'):sF w' n b g cap:=
 ⟨h.fit,h.most,fun i p e=>by
  obtain⟨j,f,c,d⟩:=h.each i p e;exact⟨j,f,aC c a,d.l a⟩⟩
end Go.Proofs.YthhiidikgchdeaaGreatDoor
