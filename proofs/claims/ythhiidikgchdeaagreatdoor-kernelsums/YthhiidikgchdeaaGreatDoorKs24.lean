/- Texts laid together. -/
import Derived.Test.YthhiidikgchdeaaGreatDoorKs12
import Derived.Test.YthhiidikgchdeaaGreatDoorKs15
import Derived.Test.YthhiidikgchdeaaGreatDoorKs20
set_option maxRecDepth 100000
set_option maxHeartbeats 3200000
namespace Go.Proofs.YthhiidikgchdeaaGreatDoor
open _root_.Go.Proofs.Tryz
open Go.RowKit
theorem spanTimes_W (a b p q:ak)(A D F H:Option Addr)(z C E G:Nat)(h i j k x y:ak)(w:World)
  (H0: ∀c,yB w c→yC 57 #[yDV a A z,yDV p F E] c (Lx c h))
  (H1: ∀c,yB w c→yC 57 #[yDV a A z,yDV q H G] c (Lx c i))
  (H2: ∀c,yB w c→yC 57 #[yDV b D C,yDV p F E] c (Lx c j))
  (H3: ∀c,yB w c→yC 57 #[yDV b D C,yDV q H G] c (Lx c k))
  (HA: ∀pb R U X Z Q T W Y c,yB w c→au c pb 41 [.bool h.s,yT R h.n Q,yi h.e,.bool i.s,yT U i.n T,yi i.e,.bool j.s,yT X j.n W,yi j.e,.bool k.s,yT Z k.n Y,yi k.e]→Rd c .u32 (yT R h.n Q) (Dg.dg 4294967296 h.n)→Rd c .u32 (yT U i.n T) (Dg.dg 4294967296 i.n)→Rd c .u32 (yT X j.n W) (Dg.dg 4294967296 j.n)→Rd c .u32 (yT Z k.n Y) (Dg.dg 4294967296 k.n)→yC 130 #[.slice (some ⟨pb,0,none⟩) 4 4] c (aeT c x y)):
  yC 101 #[.agg #[.bool a.s,yT A a.n z,yi a.e,.bool b.s,yT D b.n C,yi b.e],.agg #[.bool p.s,yT F p.n E,yi p.e,.bool q.s,yT H q.n G,yi q.e]] w (aeT w x y):=by
 replace H0:Hid _:=H0;replace H1:Hid _:=H1;replace H2:Hid _:=H2;replace H3:Hid _:=H3;replace HA:Hid _:=HA;obtain⟨W5,a5,q1,q2,q3,b4⟩:=lG w [.bool a.s,yT A a.n z,yi a.e,.bool b.s,yT D b.n C,yi b.e] 49 [.bool p.s,yT F p.n E,yi p.e,.bool q.s,yT H q.n G,yi q.e] 49 [.bool false,yN,yi 0,.bool false,yN,yi 0] 49;replace a5:Hid _:=a5
 go_enter func101,ntmps101
 go_upto_region 1 with fail
 rw[a5.out];clear a5
 go_upto_region 1 with fail
 have a0:yB W5 W5.drew:=(Below.refl _ _).drew;have q8:=q1.l a0;have q9:=q2.l a0;have b0:=q3.l a0;have a3:=aa b4 a0;clear q1 q2 q3 b4 a0;refine wp_region_held_drew (S:=fun wq=>au wq w.heap.size 49 [.bool a.s,yT A a.n z,yi a.e,.bool b.s,yT D b.n C,yi b.e]∧au wq (w.heap.size+1) 49 [.bool p.s,yT F p.n E,yi p.e,.bool q.s,yT H q.n G,yi q.e]) (by kernel_rfl) ⟨q8,q9⟩ (fun f=> ?_)
 generalize W5.drew=cp at q8 q9 b0 a3 f⊢;refine tq 0 (.pointer (some ⟨w.heap.size,0,none⟩)) rfl (fun _ _=>by kernel_rfl) f ?_
 refine tq 1 (yDV a A z) rfl (fun _ g=>fy 41 (.tmp 5) rfl w.heap.size 0 (by kernel_rfl) _ _ (kY g.1 0 3 rfl) underlying41 rfl (by kernel_rfl)) f ?_
 refine tq 2 (.pointer (some ⟨w.heap.size+1,0,none⟩)) rfl (fun _ _=>by kernel_rfl) f ?_
 refine tq 3 (yDV p F E) rfl (fun _ g=>fy 41 (.tmp 7) rfl (w.heap.size+1) 0 (by kernel_rfl) _ _ (kY g.2 0 3 rfl) underlying41 rfl (by kernel_rfl)) f ?_
 refine tq 5 (.pointer (some ⟨w.heap.size,0,none⟩)) rfl (fun _ _=>by kernel_rfl) f ?_
 refine tq 6 (yDV a A z) rfl (fun _ g=>fy 41 (.tmp 10) rfl w.heap.size 0 (by kernel_rfl) _ _ (kY g.1 0 3 rfl) underlying41 rfl (by kernel_rfl)) f ?_
 refine tq 7 (.pointer (some ⟨w.heap.size+1,3,none⟩)) rfl (fun _ _=>by kernel_rfl) f ?_
 refine tq 8 (yDV q H G) rfl (fun _ g=>fy 41 (.tmp 12) rfl (w.heap.size+1) 3 (by kernel_rfl) _ _ (kY g.2 3 3 rfl) underlying41 rfl (by kernel_rfl)) f ?_
 refine tq 10 (.pointer (some ⟨w.heap.size,3,none⟩)) rfl (fun _ _=>by kernel_rfl) f ?_
 refine tq 11 (yDV b D C) rfl (fun _ g=>fy 41 (.tmp 15) rfl w.heap.size 3 (by kernel_rfl) _ _ (kY g.1 3 3 rfl) underlying41 rfl (by kernel_rfl)) f ?_
 refine tq 12 (.pointer (some ⟨w.heap.size+1,0,none⟩)) rfl (fun _ _=>by kernel_rfl) f ?_
 refine tq 13 (yDV p F E) rfl (fun _ g=>fy 41 (.tmp 17) rfl (w.heap.size+1) 0 (by kernel_rfl) _ _ (kY g.2 0 3 rfl) underlying41 rfl (by kernel_rfl)) f ?_
 refine tq 15 (.pointer (some ⟨w.heap.size,3,none⟩)) rfl (fun _ _=>by kernel_rfl) f ?_
 refine tq 16 (yDV b D C) rfl (fun _ g=>fy 41 (.tmp 20) rfl w.heap.size 3 (by kernel_rfl) _ _ (kY g.1 3 3 rfl) underlying41 rfl (by kernel_rfl)) f ?_
 refine tq 17 (.pointer (some ⟨w.heap.size+1,3,none⟩)) rfl (fun _ _=>by kernel_rfl) f ?_
 refine tq 18 (yDV q H G) rfl (fun _ g=>fy 41 (.tmp 22) rfl (w.heap.size+1) 3 (by kernel_rfl) _ _ (kY g.2 3 3 rfl) underlying41 rfl (by kernel_rfl)) f ?_
 refine wpAnyH_ready (rs:=[4]) (by kernel_rfl) (by simp) ?_;refine AllReadyH.cons rfl (fun K d=> ?_) AllReadyH.nil
 go_simp
 refine(H0.out _ a3).mono ?_;rintro zz cz ⟨cs,rfl,bd,a1⟩;have b1:=q8.l a1;have b2:=q9.l a1;have bs:=b0.l a1;have av:=aa a3 a1;obtain⟨R,Q,m⟩:=bd.shape;subst m;clear q8 q9 b0 a3 a1 H0;refine d.out _ _ ⟨b1,b2⟩ (fun c8=> ?_)
 clear d K;refine wpAnyH_ready (rs:=[9]) (by kernel_rfl) (by simp) ?_;refine AllReadyH.cons rfl (fun K d=> ?_) AllReadyH.nil
 go_simp
 refine(H1.out _ av).mono ?_;rintro zz d0 ⟨ct,rfl,be,N⟩;have b3:=b1.l N;have b5:=b2.l N;have bt:=bs.l N;have c0:=bd.l N;have ax:=aa av N;obtain⟨U,T,m⟩:=be.shape;subst m;clear b1 b2 bs bd av N H1;refine d.out _ _ ⟨b3,b5⟩ (fun c9=> ?_)
 clear d K;refine wpAnyH_ready (rs:=[14]) (by kernel_rfl) (by simp) ?_;refine AllReadyH.cons rfl (fun K d=> ?_) AllReadyH.nil
 go_simp
 refine(H2.out _ ax).mono ?_;rintro zz d1 ⟨cv,rfl,bf,B⟩;have b6:=b3.l B;have b7:=b5.l B;have bv:=bt.l B;have c1:=c0.l B;have c2:=be.l B;have ay:=aa ax B;obtain⟨X,W,m⟩:=bf.shape;subst m;clear b3 b5 bt c0 be ax B H2;refine d.out _ _ ⟨b6,b7⟩ (fun ca=> ?_)
 clear d K;refine wpAnyH_ready (rs:=[19]) (by kernel_rfl) (by simp) ?_;refine AllReadyH.cons rfl (fun K d=> ?_) AllReadyH.nil
 go_simp
 refine(H3.out _ ay).mono ?_;rintro zz a2 ⟨cw,rfl,bg,v⟩;have a6:=b6.l v;have a7:=b7.l v;have b8:=bv.l v;have c3:=c1.l v;have c4:=c2.l v;have c5:=bf.l v;have az:=aa ay v;obtain⟨Z,Y,m⟩:=bg.shape;subst m;clear b6 b7 bv c1 c2 bf ay v H3;refine d.out _ _ ⟨a6,a7⟩ (fun cb=> ?_)
 clear d K;refine wpAnyH_ready (rs:=[20]) (by kernel_rfl) (by simp) ?_;refine AllReadyH.cons rfl (fun K d=> ?_) AllReadyH.nil
 go_simp
 have r:=af a2 (.cells #[.bool h.s,yT R h.n Q,yi h.e,.bool i.s,yT U i.n T,yi i.e,.bool j.s,yT X j.n W,yi j.e,.bool k.s,yT Z k.n Y,yi k.e] 41);have a8:=ah a2 [.bool h.s,yT R h.n Q,yi h.e,.bool i.s,yT U i.n T,yi i.e,.bool j.s,yT X j.n W,yi j.e,.bool k.s,yT Z k.n Y,yi k.e] 41;have ce:w.heap.size≤a2.heap.size:=az.size;have cg:=a6.lt;have ch:=a7.lt;have ci:=b8.lt;have a9:=a6.l r;have ad:=a7.l r;have b9:=b8.l r;have an:=c3.l r;have ap:=c4.l r;have aq:=c5.l r;have ar:=bg.l r;have a4:=aa az r;refine d.out _ _ ⟨a9,ad⟩ (fun bp=> ?_)
 clear d K;clear a6 a7 b8 c3 c4 c5 bg az r;generalize a2.alloc (.cells #[.bool h.s,yT R h.n Q,yi h.e,.bool i.s,yT U i.n T,yi i.e,.bool j.s,yT X j.n W,yi j.e,.bool k.s,yT Z k.n Y,yi k.e] 41)=cr at a9 ad b9 a8 an ap aq ar a4 bp⊢;generalize a2.heap.size=cn at a8 ce cg ch ci⊢;refine wpAnyH_ready (rs:=[21]) (by kernel_rfl) (by simp) ?_;refine AllReadyH.cons rfl (fun K d=> ?_) AllReadyH.nil
 go_simp
 refine(HA.out _ _ _ _ _ _ _ _ _ _ a4 a8 an ap aq ar).mono ?_;rintro zz O ⟨cx,cy,rfl,ae,al,t⟩;have ba:=a9.l t;have bb:=ad.l t;have u:=b9.l t;have bh:=an.l t;have bi:=ap.l t;have bj:=aq.l t;have bl:=ar.l t;have bm:=aa a4 t;obtain⟨J,I,m⟩:=ae.shape;subst m;obtain⟨M,L,m⟩:=al.shape;subst m;clear a9 ad b9 a8 an ap aq ar a4 t HA;refine d.out _ _ ⟨ba,bb⟩ (fun cc=> ?_)
 clear d K;refine wpAnyH_ready (rs:=[22]) (by kernel_rfl) (by simp) ?_;refine AllReadyH.cons rfl (fun K d=> ?_) AllReadyH.nil
 have o:But (w.heap.size+1+1) O (O.setCells (w.heap.size+1+1) 0 [.bool x.s,yT J x.n I,yi x.e,.bool y.s,yT M y.n L,yi y.e]):=de _ _ _ _;have bq:O.there (w.heap.size+1+1) 0 6:=dD u;have bw:au (O.setCells (w.heap.size+1+1) 0 [.bool x.s,yT J x.n I,yi x.e,.bool y.s,yT M y.n L,yi y.e]) (w.heap.size+1+1) 49 [.bool x.s,yT J x.n I,yi x.e,.bool y.s,yT M y.n L,yi y.e]:=u.sets _ rfl;have cj:=o.rd bh (aX bh u (by simp));have ck:=o.rd bi (aX bi u (by simp));have cl:=o.rd bj (aX bj u (by simp));have cm:=o.rd bl (aX bl u (by simp));have c6:=o.rd ae (aX ae u (by simp));have c7:=o.rd al (aX al u (by simp));have bx:=o.loc ba (by omega);have bz:=o.loc bb (by omega);have bn:=o.below bm (by omega);rw[if_pos (by kernel_rfl)];refine wp_store_mid 49 (.tmp 4) (.tmp 26) rfl (w.heap.size+1+1) 0 #[.bool x.s,yT J x.n I,yi x.e,.bool y.s,yT M y.n L,yi y.e] (by kernel_rfl) (by kernel_rfl) bq (by kernel_rfl) (by simp[Value.oneCell']) ?_;refine d.out _ _ ⟨bx,bz⟩ (fun cd=> ?_)
 clear d K;clear u bh bi bj bl ae al ba bb bm o bq;refine wpAnyH_done (by kernel_rfl) ?_ _;clear f c8 c9 ca cb bp cc cd;change Exit.then _ _ _ _ (World.setCells O (w.heap.size+1+1) 0 [.bool x.s,yT J x.n I,yi x.e,.bool y.s,yT M y.n L,yi y.e]);generalize World.setCells O (w.heap.size+1+1) 0 [.bool x.s,yT J x.n I,yi x.e,.bool y.s,yT M y.n L,yi y.e]=co at bx bz bw cj ck cl cm c6 c7 bn⊢;simp only[Act.put,List.getElem_toArray,List.getElem_cons_succ,List.getElem_cons_zero];have hl:=run_loadVar_mid (P:=Tryz.prog) _ (w.heap.size+1+1) 0 49 [.bool x.s,yT J x.n I,yi x.e,.bool y.s,yT M y.n L,yi y.e] _ bw.range underlying49 rfl (by kernel_rfl)
 go_wp2
 exact bodyPost_ret (br results101 rfl hl) rfl ⟨_,_,rfl,c6,c7,bn⟩
theorem A9 (D F:Value)(xs c:List Nat)(w:World)(h:Rd w .u32 D xs)(n:Rd w .u32 F c)(t:Dg.Small 4294967296 xs)(x:Dg.Small 4294967296 c)(E:Dg.Norm xs)(p:Dg.Norm c)(B:c≠[])(a6:xs.length≤900000000):
  yC 154 #[D,F] w (Two w (Dg.vl 4294967296 xs/Dg.vl 4294967296 c) (Dg.vl 4294967296 xs % Dg.vl 4294967296 c)):=by
 have o:=jF D F xs c w h n t x E p;have z:0<Dg.vl 4294967296 c:=Nat.pos_of_ne_zero (Dg.vl_ne_zero 4294967296 (by omega) c B p);have a8:0<c.length:=List.length_pos_iff.2 B
 by_cases u:Dg.vl 4294967296 xs<Dg.vl 4294967296 c
 ·rw[gX (by omega)] at o
  rw[Nat.div_eq_of_lt u,Nat.mod_eq_of_lt u];have HX:Hid (xs=Dg.dg 4294967296 (Dg.vl 4294967296 xs)):=Dg.eq_dg 4294967296 (by omega) xs _ t E rfl;have y:Hid (Rd w .u32 D xs):=h;obtain⟨Q,S,rfl⟩:=h.shape;obtain⟨R,T,rfl⟩:=n.shape;clear h n t x E p B u z
  go_enter func154,ntmps154
  go_wp2_with fail
  refine o.mono ?_;rintro e g ⟨rfl,f⟩;clear o
  go_wp2_with fail
  refine(Bz _ xs g (y.out.l f) (by omega)).mono ?_;rintro e N ⟨rfl,v,j⟩;have v:=v.lower f.size;have i:=aa f j;clear f j y
  go_wp2
  go_ret2
  exact⟨_,_,rfl,aQ _ _ _ _,HX.out▸v,i⟩
 ·have hd:=Xx (a:=(Dg.vl 4294967296 xs:Int)) (b:=(Dg.vl 4294967296 c:Int)) (by omega)
  obtain⟨r,hr⟩: ∃r,dm (Dg.vl 4294967296 xs) (Dg.vl 4294967296 c)=r:=⟨_,rfl⟩;rw[hr] at hd o;clear hr;have y:Hid (Rd w .u32 D xs):=h;have P:Hid (Rd w .u32 F c):=n;obtain⟨Q,S,rfl⟩:=h.shape;obtain⟨R,T,rfl⟩:=n.shape
  by_cases W:c.length=1
  ·obtain⟨d,rfl⟩: ∃d,c=[d]:=List.length_eq_one_iff.1 W
   have hv:Dg.vl 4294967296 [d]=d:=by simp[Dg.vl]
   have a5:d<4294967296:=(Dg.small_cons.1 x).1;rw[hv] at z⊢;clear h n u hv W a8 B p x
   go_enter func154,ntmps154
   go_wp2_with fail
   refine o.mono ?_;rintro e g ⟨rfl,f⟩;clear o
   go_wp2_with fail
   refine(Bz _ xs g (y.out.l f) (by omega)).mono ?_;rintro e N ⟨rfl,v,j⟩;have i:=aa f j;obtain⟨-,-,Y⟩:=iQ (P.out.l i);obtain⟨bb,ad,rfl,Z⟩:=Y (by simp);have X:=Z 0 (by simp);simp only[List.getD_cons_zero,Nat.add_zero] at X;clear Z Y
   go_wp2_with fail
   refine(uG _ _ _ _ xs d N v t z a5 (by omega)).mono ?_;rintro e w3 ⟨qs,rfl,C,ae,a9,a1,U⟩;have H:=i.grown U i.size (fun k hk=>by cases hk;exact f.size)
   have r3:=C.rd;have C:=C.lower f.size;obtain⟨s,a2⟩: ∃s,Dg.vl 4294967296 xs % d=s:=⟨_,rfl⟩;rw[a2];have ac:s<4294967296:=by have:=Nat.mod_lt (Dg.vl 4294967296 xs) z;omega
   clear U v i j X
   go_wp2_with fail
   refine(jD _ _ _ _ _ r3).mono ?_;rintro e O ⟨m,rfl,A,rfl⟩;have M:=jW 4294967296 (by omega) C a9 A;rw[a1] at M;have L:=zf O w.heap.size 54 s H.size;have I:yB O (O.alloc (.cells #[.int .u32 (s:Int)] 54)):=(Below.refl _ _).alloc (Nat.le_refl _) _;have t4:=M.l I;have a4:=aa H I;have a3:=L.rd;clear C r3 A M I H f a1
   go_wp2_with fail
   refine(jD _ _ _ _ _ a3).mono ?_;rintro e w5 ⟨m2,rfl,a0,rfl⟩;have t5:=jW 4294967296 (by omega) L (Dg.small_cons.2 ⟨ac,Dg.small_nil _ (by omega)⟩) a0;rw[show Dg.vl 4294967296 [s]=s from by simp[Dg.vl]] at t5
   clear L a3 a0
   go_wp2
   go_ret2
   exact⟨_,_,rfl,t4,by rw[a2];exact t5,a4⟩
  ·have a7:c.length≤xs.length:=by
    rcases Nat.lt_or_ge xs.length c.length with e|e
    ·exact absurd (Dg.vl_lt_of_len 4294967296 (by omega) xs c t p e) u
    ·exact e
   have G:Hid (∀g,yB w g→yC 169 #[.slice Q xs.length S,.slice R c.length T] g (Two g (Dg.vl 4294967296 xs/Dg.vl 4294967296 c) (Dg.vl 4294967296 xs % Dg.vl 4294967296 c))):=fun g f=>
    JS _ _ xs c g (h.l f) (n.l f) t x p (by omega) a7 a6
   obtain⟨q,hq⟩: ∃q,Dg.vl 4294967296 xs/Dg.vl 4294967296 c=q:=⟨_,rfl⟩;obtain⟨m,A⟩: ∃m,Dg.vl 4294967296 xs % Dg.vl 4294967296 c=m:=⟨_,rfl⟩;rw[hq,A] at G⊢;have h2:((c.length:Int)==1)=false:=by simp;omega
   clear h n u B p x E t z hq A y P
   go_enter func154,ntmps154
   go_wp2_with fail
   refine o.mono ?_;rintro e g ⟨rfl,f⟩;clear o
   go_wp2_with fail
   refine(G.out g f).mono ?_;rintro e N ⟨v1,v2,rfl,J,K,j⟩;have J:=J.lower f.size;have K:=K.lower f.size;have i:=aa f j;clear f j G
   go_wp2
   go_ret2
   exact⟨_,_,rfl,J,K,i⟩
theorem xG (s:Bool)(v:Value)(m:Nat)(e:Int)(left:Bool)(w:World)(B:Rd w .u32 v (Dg.dg 4294967296 m))(E:(Dg.dg 4294967296 m).length≤900000000)(W: -20000000000≤e)(X:e≤20000000000):
  yC 155 #[.bool s,v,yi e,.bool left] w (jN w (d8 s m e left)):=by
 have q:Hid (∀f,yB w f→yC 118 #[v,yi 1] f (Num f (m*2))):=fun f i=>by
  have:=eO v _ 1 f (B.l i) (Dg.small_dg _ _ (by omega)) (by omega) (by omega) (by omega);rw[Dg.vl_dg _ _ (by omega)] at this;exact this
 have A:(Dg.dg 4294967296 (m*2)).length≤900000001:=by
  have:=CF m 1 900000000 1 E (by omega)
  rwa [Nat.pow_one] at this
 have I:Hid (∀n p f,Rd f .u32 n (Dg.dg 4294967296 (m*2))→Rd f .u32 p [1]→yC 109 #[n,p] f (Num f (m*2+1))):=fun n p f P Q=>by
  have:=rj n p _ _ f P Q (Dg.small_dg _ _ (by omega)) (Dg.small_cons.2 ⟨by omega,Dg.small_nil _ (by omega)⟩) (by omega) (by simp)
  rwa [Dg.vl_dg _ _ (by omega),show Dg.vl 4294967296 [1]=1 from rfl] at this
 obtain⟨T,U,rfl⟩:=B.shape;obtain⟨l,F⟩: ∃l,(Dg.dg 4294967296 m).length=l:=⟨_,rfl⟩;rw[F] at q⊢;have c:=af w (.cells (ydA false yN 0) 41);have a:=aA w (.bool false) yN (yi 0) 41;have Y:IntKind.i64.wrap (e-1)=e-1:=IntWalk.i64_in _ ⟨by omega,by omega⟩;unfold d8;clear B E F A
 cases left
 ·rw[if_neg (by decide),Nat.add_zero]
  go_enter func155,ntmps155
  go_wp2_with fail
  refine(q.out _ c).mono ?_;rintro z f ⟨n,rfl,d,i⟩;have d:=d.lower (show w.heap.size+1≤_ by simp[World.size_alloc])
  replace a:=a.l i;replace c:=aa c i;obtain⟨h,g,C⟩:=d.rd.shape;subst C;clear i
  go_wp2_with fail
  refine(l9 s h (Dg.dg 4294967296 (m*2)).length g (e-1) _).mono ?_;rintro z S ⟨rfl,j⟩;replace a:=a.l j;replace c:=aa c j;replace d:=d.l j;clear j;obtain⟨A,⟨J,K,L⟩,M,N,O⟩:=id a;obtain⟨-,⟨u,x,y⟩,-⟩:=aD a (.bool s) (.slice h (Dg.dg 4294967296 (m*2)).length g) (yi (e-1));have D:=d.apart3 (b:=w.heap.size) (by omega) (.bool s) (.slice h (Dg.dg 4294967296 (m*2)).length g) (yi (e-1));have t:=am c (Nat.le_refl _) (.bool s) (.slice h (Dg.dg 4294967296 (m*2)).length g) (yi (e-1))
  go_wp2
  refine bodyPost_ret (v:=(ydV s (.slice h (Dg.dg 4294967296 (m*2)).length g) (e-1))) (by simp[results,results155,go_sem,u,x,y]) rfl ?_;exact⟨_,rfl,D.lower (by omega),t⟩
 ·rw[if_pos rfl]
  go_enter func155,ntmps155
  go_wp2_with fail
  refine(q.out _ c).mono ?_;rintro z f ⟨n,rfl,d,i⟩;replace a:=a.l i;replace c:=aa c i;have o:=af f (.cells #[.int .u32 ((1:Nat):Int)] 54);have H:=cE (w:=f) (k:= .u32) (e:=54) [1] #[.int .u32 ((1:Nat):Int)] rfl (by unfold maxLen;simp);have G:=I.out _ _ _ (d.rd.l o) H;replace a:=a.l o;replace c:=aa c o;have R:=a.1;clear i o H d
  go_wp2_with fail
  refine G.mono ?_;rintro z w3 ⟨Z,rfl,d,r⟩;have d:=d.lower (show w.heap.size+1≤_ from R)
  replace a:=a.l r;replace c:=aa c r;obtain⟨h,g,C⟩:=d.rd.shape;subst C;clear r G
  go_wp2_with fail
  refine(l9 s h (Dg.dg 4294967296 (m*2+1)).length g (e-1) _).mono ?_;rintro z S ⟨rfl,j⟩;replace a:=a.l j;replace c:=aa c j;replace d:=d.l j;clear j;obtain⟨A,⟨J,K,L⟩,M,N,O⟩:=id a;obtain⟨-,⟨u,x,y⟩,-⟩:=aD a (.bool s) (.slice h (Dg.dg 4294967296 (m*2+1)).length g) (yi (e-1));have D:=d.apart3 (b:=w.heap.size) (by omega) (.bool s) (.slice h (Dg.dg 4294967296 (m*2+1)).length g) (yi (e-1));have t:=am c (Nat.le_refl _) (.bool s) (.slice h (Dg.dg 4294967296 (m*2+1)).length g) (yi (e-1))
  go_wp2
  refine bodyPost_ret (v:=(ydV s (.slice h (Dg.dg 4294967296 (m*2+1)).length g) (e-1))) (by simp[results,results155,go_sem,u,x,y]) rfl ?_;exact⟨_,rfl,D.lower (by omega),t⟩
theorem Jw (v u:Value)(a b:ak)(B:Nat)(w:World)(hv:Dv w v a)(hu:Dv w u b)(bx:0<b.n)(a2:(Dg.dg 4294967296 a.n).length≤200000000)(av:(Dg.dg 4294967296 b.n).length≤200000000)
  (cm: -2000000000≤a.e) (cn:a.e≤2000000000) (co: -2000000000≤b.e) (cp:b.e≤2000000000) (hB:B≤10000):
  yC 125 #[v,u,yi B] w (jN w (cK a b B)):=by
 obtain⟨s0,rfl,U⟩:=hv;obtain⟨s1,rfl,X⟩:=hu;obtain⟨o,f,g⟩:=a;obtain⟨p,bn,i⟩:=b;simp only at U X a2 av cm cn co cp bx⊢;have cs:=gf a2;have ct:=gf av;have Y:Hid (∀c,yB w c→yC 62 #[s0] c fun z w'=>z= .returned (yi (bitLen f:Nat))∧w'=c):=fun c A=>by
  have:=kE s0 _ c (U.l A) (Dg.small_dg _ _ (by omega)) (Dg.norm_dg _ _ (by omega)) (by omega)
  rwa [Dg.vl_dg _ _ (by omega)] at this
 have Z:Hid (∀c,yB w c→yC 62 #[s1] c fun z w'=>z= .returned (yi (bitLen bn:Nat))∧w'=c):=fun c A=>by
  have:=kE s1 _ c (X.l A) (Dg.small_dg _ _ (by omega)) (Dg.norm_dg _ _ (by omega)) (by omega)
  rwa [Dg.vl_dg _ _ (by omega)] at this
 unfold cK gV;simp only;have ay:max (0:Int) ((B:Int)+(bitLen bn:Int)-(bitLen f:Int))=((B+bitLen bn-bitLen f:Nat):Int):=by omega
 have cx:B+bitLen bn-bitLen f≤6400010000:=by omega
 obtain⟨d,cc⟩: ∃d,B+bitLen bn-bitLen f=d:=⟨_,rfl⟩;rw[cc] at ay cx⊢;have a8:Hid (∀c,yB w c→yC 118 #[s0,yi d] c (Num c (f*2^d))):=fun c A=>by
  have:=eO s0 _ (d:Int) c (U.l A) (Dg.small_dg _ _ (by omega)) (by omega) (by omega) (by omega);rw[Dg.vl_dg _ _ (by omega),CE _ _ (by omega),Int.toNat_natCast] at this;exact this
 have cw:=CF f d 200000000 400000400 a2 (by omega);have a0:Hid (∀q c,yB w c→Rd c .u32 q (Dg.dg 4294967296 (f*2^d))→yC 154 #[q,s1] c (Two c (f*2^d/bn) (f*2^d % bn))):=fun q c A r=>by
  have:=A9 q s1 _ _ c r (X.l A) (Dg.small_dg _ _ (by omega)) (Dg.small_dg _ _ (by omega)) (Dg.norm_dg _ _ (by omega)) (Dg.norm_dg _ _ (by omega)) (by rw[Ne,Dg.dg_nil_iff _ _ (by omega)];omega) (by omega)
  rwa [Dg.vl_dg _ _ (by omega),Dg.vl_dg _ _ (by omega)] at this
 have ax:(Dg.dg 4294967296 (f*2^d/bn)).length≤900000000:=Nat.le_trans (aH 4294967296 _ _ (by omega) (Nat.div_le_self _ _)) (by omega);obtain⟨Q,hQ⟩: ∃Q,f*2^d/bn=Q:=⟨_,rfl⟩;obtain⟨M,hM⟩: ∃M,f*2^d % bn=M:=⟨_,rfl⟩;rw[hQ,hM] at a0⊢;rw[hQ] at ax;have a7:Hid (∀q lf c,decide (0<M)=lf→Rd c .u32 q (Dg.dg 4294967296 Q)→yC 155 #[.bool (o != p),q,yi (g-i-(d:Int)),.bool lf] c (jN c (d8 (o != p) Q (g-i-(d:Int)) (decide (0<M))))):=fun q lf c h r=>by
  rw[h];exact xG _ q Q _ lf c r ax (by omega) (by omega)
 obtain⟨⟨zs,y,x⟩,hz⟩: ∃r,d8 (o != p) Q (g-i-(d:Int)) (decide (0<M))=r:=⟨_,rfl⟩;rw[hz] at a7⊢;have a3:(0< (Dg.dg 4294967296 M).length)↔0<M:=by
  rw[List.length_pos_iff,Ne,Dg.dg_nil_iff _ _ (by omega)];omega
 obtain⟨D,G,rfl⟩:=U.shape;obtain⟨F,H,rfl⟩:=X.shape;obtain⟨J,c8⟩: ∃m,(Dg.dg 4294967296 f).length=m:=⟨_,rfl⟩;obtain⟨K,c9⟩: ∃m,(Dg.dg 4294967296 bn).length=m:=⟨_,rfl⟩;obtain⟨cd,bz⟩: ∃m,bitLen f=m:=⟨_,rfl⟩;obtain⟨a5,c6⟩: ∃m,bitLen bn=m:=⟨_,rfl⟩;rw[c8] at Y a8⊢;rw[c9] at Z a0⊢;rw[bz] at Y cs ay;rw[c6] at Z ct ay;clear hz c8 c9 bz c6 hQ hM U X a2 av cc cw bx ax;obtain⟨la,lb,lc,bb,-⟩:=ju w (.bool o) (.slice D J G) (yi g) (.bool p) (.slice F K H) (yi i) (.bool false) yN (yi 0) 41 41 41;obtain⟨W,hW⟩: ∃W,(((w.alloc (.cells (ydA o (.slice D J G) g) 41)).alloc (.cells (ydA p (.slice F K H) i) 41)).alloc (.cells (ydA false yN 0) 41))=W:=⟨_,rfl⟩;rw[hW] at la lb lc bb;have k:yB W W.drew:=(Below.refl _ _).drew;have a4:=la.l k;have a6:=lb.l k;have bs:=lc.l k;have a9:=aa bb k;rw[←hW] at a4 a6 bs a9;obtain⟨-,⟨c0,c1,c2⟩,-⟩:=id a4;obtain⟨-,⟨c3,c4,c5⟩,-⟩:=id a6;have d3:IntKind.i64.wrap ((B:Int)+(a5:Int))=(B:Int)+(a5:Int):=IntWalk.i64_in _ ⟨by omega,by omega⟩;have d4:IntKind.i64.wrap ((B:Int)+(a5:Int)-(cd:Int))=(B:Int)+(a5:Int)-(cd:Int):=IntWalk.i64_in _ ⟨by omega,by omega⟩;clear la lb lc bb k hW
 go_enter func125,ntmps125
 go_wp2_with fail
 go_region_held3 (fun j=>(j.cell? ⟨w.heap.size,0,none⟩=some (.bool o)∧j.cell? ⟨w.heap.size,1,none⟩=some (.slice D J G)∧j.cell? ⟨w.heap.size,2,none⟩=some (yi g))∧j.cell? ⟨w.heap.size+1,0,none⟩=some (.bool p)∧j.cell? ⟨w.heap.size+1,1,none⟩=some (.slice F K H)∧j.cell? ⟨w.heap.size+1,2,none⟩=some (yi i)) (go_keep) (first
  | (go_at_call 61;refine(cN p F K H i _).mono ?_;rintro z w2 ⟨rfl,L⟩;have b0:=a4.l L;have bh:=a6.l L;have ce:=bs.l L;have ad:=aa a9 L;obtain⟨-,⟨p0,p1,p2⟩,-⟩:=id b0;obtain⟨-,⟨p3,p4,p5⟩,-⟩:=id bh;clear a9)
  | (go_at_call 62;refine(Z.out w2 ad).mono ?_;rintro z w3 ⟨rfl,rfl⟩;clear Z)
  | (go_at_call 61;refine(cN o D J G g _).mono ?_;rintro z w4 ⟨rfl,N⟩;have b3:=b0.l N;have bi:=bh.l N;have cg:=ce.l N;have al:=aa ad N;obtain⟨-,⟨q0,q1,q2⟩,-⟩:=id b3;obtain⟨-,⟨q3,q4,q5⟩,-⟩:=id bi)
  | (go_at_call 62;refine(Y.out w4 al).mono ?_;rintro z w5 ⟨rfl,rfl⟩))
 clear c0 c1 c2 c3 c4 c5 p0 p1 p2 p3 p4 p5 q0 q1 q2 q3 q4 q5 a4 a6 bs b0 bh ce ad L N;have k:yB w5 w5.drew:=(Below.refl _ _).drew;have b5:=b3.l k;have bj:=bi.l k;have ch:=cg.l k;have bv:=aa al k;obtain⟨-,⟨c0,c1,c2⟩,-⟩:=id b5;obtain⟨-,⟨c3,c4,c5⟩,-⟩:=id bj;clear b3 bi cg al k
 go_wp2_with fail
 go_region_held3 (fun j=>(j.cell? ⟨w.heap.size,0,none⟩=some (.bool o)∧j.cell? ⟨w.heap.size,1,none⟩=some (.slice D J G)∧j.cell? ⟨w.heap.size,2,none⟩=some (yi g))∧j.cell? ⟨w.heap.size+1,0,none⟩=some (.bool p)∧j.cell? ⟨w.heap.size+1,1,none⟩=some (.slice F K H)∧j.cell? ⟨w.heap.size+1,2,none⟩=some (yi i)) (go_keep) (first
  | (go_at_call 61;refine(cN o D J G g _).mono ?_;rintro z w6 ⟨rfl,O⟩;have ba:=b5.l O;have bl:=bj.l O;have ci:=ch.l O;have ap:=aa bv O;obtain⟨-,⟨p0,p1,p2⟩,-⟩:=id ba;obtain⟨-,⟨p3,p4,p5⟩,-⟩:=id bl;clear bv)
  | (go_at_call 118;refine(a8.out w6 ap).mono ?_;rintro z w7 ⟨v7,rfl,o7,P⟩;have bc:=ba.l P;have bm:=bl.l P;have cj:=ci.l P;have bw:=aa ap P;obtain⟨-,⟨q0,q1,q2⟩,-⟩:=id bc;obtain⟨-,⟨q3,q4,q5⟩,-⟩:=id bm)
  | (go_at_call 61;refine(cN p F K H i _).mono ?_;rintro z w8 ⟨rfl,E⟩;have bf:=bc.l E;have bp:=bm.l E;have ck:=cj.l E;have aq:=aa bw E;have r8:=(o7.l E).rd;obtain⟨-,⟨t0,t1,t2⟩,-⟩:=id bf;obtain⟨-,⟨t3,t4,t5⟩,-⟩:=id bp)
  | (go_at_call 154;refine(a0.out _ w8 aq r8).mono ?_;rintro z w9 ⟨vq,vr,rfl,oq,cl,R⟩;have bg:=bf.l R;have bq:=bp.l R;have bt:=ck.l R;have a1:=aa aq R;obtain⟨-,⟨x0,x1,x2⟩,-⟩:=id bg;obtain⟨-,⟨x3,x4,x5⟩,-⟩:=id bq))
 have rq:=oq.rd;obtain⟨ro,rc,cy⟩:=cl.rd.shape;subst cy;have c7:=bt.1;clear c0 c1 c2 c3 c4 c5 p0 p1 p2 p3 p4 p5 q0 q1 q2 q3 q4 q5 t0 t1 t2 t3 t4 t5 b5 bj ch ba bl ci bc bm cj bf bp ck ap O bw P aq E R o7 r8 oq cl Y a8 a0;have d5:IntKind.i64.wrap (g-i)=g-i:=IntWalk.i64_in _ ⟨by omega,by omega⟩;have d6:IntKind.i64.wrap (g-i-(d:Int))=g-i-(d:Int):=IntWalk.i64_in _ ⟨by omega,by omega⟩
 by_cases I:0<M
 ·have cv:=a3.2 I
  have HD:Hid (decide (0<M)=true):=decide_eq_true I;clear a3 I
  go_wp2_with fail
  refine(a7.out _ true _ HD.out rq).mono ?_;rintro z cz ⟨vz,rfl,T,C⟩;have S:=bt.l C;have ac:=aa a1 C;obtain⟨t,s,az⟩:=T.rd.shape;subst az;obtain⟨cr,⟨d0,d1,d2⟩,f0,f1,f2⟩:=id S;clear x0 x1 x2 x3 x4 x5 C rq bg bq;obtain⟨-,⟨g0,g1,g2⟩,-⟩:=aD S (.bool zs) (yT t y s) (yi x);have bu:=T.apart3 (b:=w.heap.size+1+1) c7 (.bool zs) (yT t y s) (yi x);have ar:=am ac (show w.heap.size≤w.heap.size+1+1 by omega) (.bool zs) (yT t y s) (yi x)
  go_wp2
  refine bodyPost_ret (v:=(ydV zs (yT t y s) x)) (by simp[results,results125,go_sem,g0,g1,g2]) rfl ?_;exact⟨_,rfl,bu.lower a1.size,ar⟩
 ·have cv: ¬0< (Dg.dg 4294967296 M).length:=fun h=>I (a3.1 h)
  have HD:Hid (decide (0<M)=false):=decide_eq_false I;clear a3 I
  go_wp2_with fail
  refine(a7.out _ false _ HD.out rq).mono ?_;rintro z cz ⟨vz,rfl,T,C⟩;have S:=bt.l C;have ac:=aa a1 C;obtain⟨t,s,az⟩:=T.rd.shape;subst az;obtain⟨cr,⟨d0,d1,d2⟩,f0,f1,f2⟩:=id S;clear x0 x1 x2 x3 x4 x5 C rq bg bq;obtain⟨-,⟨g0,g1,g2⟩,-⟩:=aD S (.bool zs) (yT t y s) (yi x);have bu:=T.apart3 (b:=w.heap.size+1+1) c7 (.bool zs) (yT t y s) (yi x);have ar:=am ac (show w.heap.size≤w.heap.size+1+1 by omega) (.bool zs) (yT t y s) (yi x)
  go_wp2
  refine bodyPost_ret (v:=(ydV zs (yT t y s) x)) (by simp[results,results125,go_sem,g0,g1,g2]) rfl ?_;exact⟨_,rfl,bu.lower a1.size,ar⟩
end Go.Proofs.YthhiidikgchdeaaGreatDoor
