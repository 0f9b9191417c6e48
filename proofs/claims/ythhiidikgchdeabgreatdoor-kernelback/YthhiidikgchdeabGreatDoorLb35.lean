/- Texts laid together. -/
import Derived.Test.YthhiidikgchdeabGreatDoorLb28
import Derived.Test.YthhiidikgchdeabGreatDoorLb30
import Derived.Test.YthhiidikgchdeabGreatDoorLb31
set_option maxRecDepth 100000
set_option maxHeartbeats 3200000
namespace Go.Proofs.YthhiidikgchdeabGreatDoor
open _root_.Go.Proofs.Tryz
open Go.RowKit
theorem kI (b c:Value)(xs a:List Nat)(w:World)(g:Rd w .i64 b xs)(h:Rd w .i64 c a)(l:Dg.Small 65536 xs)(m:Dg.Small 65536 a)(i:xs.length≤2000000)(j:a.length≤xs.length)(k:Dg.vl 65536 a≤Dg.vl 65536 xs):
  yC 93 #[b,c] w (cG w (Dg.vl 65536 xs-Dg.vl 65536 a)):=
 (Lt b c xs a w g h l m i j k).mono fun _ _ ⟨v,d,e,_,f⟩=>⟨v,d,e,f⟩
abbrev refDP_geq:=refDP_geq_mg.1
abbrev refDP_less:=refDP_geq_mg.2
theorem splus_any (v u:Value)(a b p q:ak)(w:World)(o:SpanV w v a b)(n:SpanV w u p q)(e:FitsT a)(f:FitsT b)(g:FitsT p)(fq:FitsT q):yC 87 #[v,u] w (aeT w (aG a p) (aG b q)):=by
 obtain⟨K,L,rfl,i,j⟩:=o;obtain⟨M,N,rfl,k,m⟩:=n;obtain⟨x,t,rfl⟩:=i.shape;obtain⟨B,A,rfl⟩:=j.shape;obtain⟨H,G,rfl⟩:=k.shape;obtain⟨J,I,rfl⟩:=m.shape;have C:=e.len;have D:=f.len;have E:=g.len;have F:=fq.len;obtain⟨-,r,s⟩:=e;obtain⟨-,y,z⟩:=f;obtain⟨-,p1,p2⟩:=g;obtain⟨-,q1,q2⟩:=fq;exact spanPlus_W a b p q _ _ _ _ _ _ _ _ _ _ w
  (fun d c=>(uj _ _ a p d ⟨_,rfl,i.l c⟩ ⟨_,rfl,k.l c⟩ (by omega) (by omega) (by omega) (by omega) (by omega) (by omega)).mono fun _ _ h=>h.vres)
  (fun d c=>(uj _ _ b q d ⟨_,rfl,j.l c⟩ ⟨_,rfl,m.l c⟩ (by omega) (by omega) (by omega) (by omega) (by omega) (by omega)).mono fun _ _ h=>h.vres)
theorem stimes_any (v u:Value)(a b p q:ak)(w:World)(M:SpanV w v a b)(L:SpanV w u p q)(x:FitsT a)(y:FitsT b)(A:FitsT p)(fq:FitsT q)(m: ∀j,FitsT (fourT a b p q j)):
  yC 86 #[v,u] w (aeT w (loT (fourT a b p q) 3) (hiT (fourT a b p q) 3)):=by
 obtain⟨s1,s2,rfl,o,r⟩:=M;obtain⟨s3,s4,rfl,s,t⟩:=L;obtain⟨W,U,rfl⟩:=o.shape;obtain⟨bo,Z,rfl⟩:=r.shape;obtain⟨po,pc,rfl⟩:=s.shape;obtain⟨qo,qc,rfl⟩:=t.shape;have la:=x.len;have lb:=y.len;have a0:=A.len;have lq:=fq.len;obtain⟨-,S,T⟩:=x;obtain⟨-,X,Y⟩:=y;obtain⟨-,p1,p2⟩:=A;obtain⟨-,q1,q2⟩:=fq;refine spanTimes_W a b p q _ _ _ _ _ _ _ _ (aK a p) (aK a q) (aK b p) (aK b q) _ _ w
  (fun f e=>(Ac _ _ a p f ⟨_,rfl,o.l e⟩ ⟨_,rfl,s.l e⟩ (by omega) (by omega) (by omega) (by omega) (by omega) (by omega)).mono fun _ _ h=>h.vres)
  (fun f e=>(Ac _ _ a q f ⟨_,rfl,o.l e⟩ ⟨_,rfl,t.l e⟩ (by omega) (by omega) (by omega) (by omega) (by omega) (by omega)).mono fun _ _ h=>h.vres)
  (fun f e=>(Ac _ _ b p f ⟨_,rfl,r.l e⟩ ⟨_,rfl,s.l e⟩ (by omega) (by omega) (by omega) (by omega) (by omega) (by omega)).mono fun _ _ h=>h.vres)
  (fun f e=>(Ac _ _ b q f ⟨_,rfl,r.l e⟩ ⟨_,rfl,t.l e⟩ (by omega) (by omega) (by omega) (by omega) (by omega) (by omega)).mono fun _ _ h=>h.vres) ?_
 intro R D F H J C E G I f e d N O P Q;have i: ∀j,j<4→Rd f .u32 (.slice (four' D F H J j) (Dg.dg 4294967296 (fourT a b p q j).n).length (four' C E G I j)) (Dg.dg 4294967296 (fourT a b p q j).n):=by
  intro j g
  match j,g with
  |0,_=>exact N
  |1,_=>exact O
  |2,_=>exact P
  |3,_=>exact Q
 have h:=FN R 4 (fourT a b p q) (four' D F H J) (four' C E G I) f (by omega) (by omega) d.lt
  (fun j g=>by match j,g with
   |0,_=>exact d.c 0 rfl
   |1,_=>exact d.c 3 rfl
   |2,_=>exact d.c 6 rfl
   |3,_=>exact d.c 9 rfl)
  (fun j g=>by match j,g with
   |0,_=>exact d.c 1 rfl
   |1,_=>exact d.c 4 rfl
   |2,_=>exact d.c 7 rfl
   |3,_=>exact d.c 10 rfl)
  (fun j g=>by match j,g with
   |0,_=>exact d.c 2 rfl
   |1,_=>exact d.c 5 rfl
   |2,_=>exact d.c 8 rfl
   |3,_=>exact d.c 11 rfl)
  (fun j k B g K q2=>by
   have l1:=(m j).len;have l2:=(m k).len;obtain⟨-,e1,e2⟩:=m j;obtain⟨-,e3,e4⟩:=m k;exact iE _ _ (fourT a b p q j) (fourT a b p q k) B ⟨_,rfl,(i j g).l q2⟩ ⟨_,rfl,(i k K).l q2⟩ (by omega) (by omega) (by omega) (by omega) (by omega) (by omega))
 refine h.mono ?_;rintro z B ⟨rfl,q2⟩;exact⟨_,_,rfl,(i (loI (fourT a b p q) 3) (by have:=tB (fourT a b p q) 3;omega)).l q2,(i (hiI (fourT a b p q) 3) (by have:=wN (fourT a b p q) 3;omega)).l q2,q2⟩
theorem rest_iv:ivS restS=⟨1/2,2⟩:=by
 unfold ivS ivT restS;simp only;rw[qT_up,qT_w,qT_w];have:p2 (-1)=1/2:=by
  have:=p2_neg 1;rw[p2_one] at this
  grind
 rw[this,show((1:Nat):Rat)=1 from rfl,show((2:Nat):Rat)=2 from rfl]
 congr 1
 grind
theorem splus9 (v u:Value)(a b p q:ak)(w:World)(o:SpanV w v a b)(n:SpanV w u p q)(j:Fit9 a)(k:Fit9 b)(m:Fit9 p)(fq:Fit9 q):yC 87 #[v,u] w (aeT w (aG a p) (aG b q)):=by
 obtain⟨K,L,rfl,e,f⟩:=o;obtain⟨M,N,rfl,g,i⟩:=n;obtain⟨x,t,rfl⟩:=e.shape;obtain⟨B,A,rfl⟩:=f.shape;obtain⟨H,G,rfl⟩:=g.shape;obtain⟨J,I,rfl⟩:=i.shape;obtain⟨C,r,s⟩:=j.all;obtain⟨D,y,z⟩:=k.all;obtain⟨E,p1,p2⟩:=m.all;obtain⟨F,q1,q2⟩:=fq.all;exact spanPlus_W a b p q _ _ _ _ _ _ _ _ _ _ w
  (fun d c=>(uj _ _ a p d ⟨_,rfl,e.l c⟩ ⟨_,rfl,g.l c⟩ (by omega) (by omega) (by omega) (by omega) (by omega) (by omega)).mono fun _ _ h=>h.vres)
  (fun d c=>(uj _ _ b q d ⟨_,rfl,f.l c⟩ ⟨_,rfl,i.l c⟩ (by omega) (by omega) (by omega) (by omega) (by omega) (by omega)).mono fun _ _ h=>h.vres)
theorem log_p0 (a:ak)(y:Option Addr)(t:Nat)(x p q u v z r s e h:ak)(k g j f c m n b:Int)(w:World)(ra:Rd w .u32 (yT y a.n t) (Dg.dg 4294967296 a.n))(hj:IntKind.i64.wrap (g-2)=j)(hc: ¬c<0)(hn:IntKind.i64.wrap (-g)=n)(h0: ¬g=0)(hb:max g n=b)(h1: ¬g<0)
  (W: ∀d,yB w d→Rd d .u32 (yT y a.n t) (Dg.dg 4294967296 a.n)→yC 53 #[yDV a y t] d (yR d (yi g)))
  (X: ∀d,yB w d→yC 43 #[yi 3] d (Lx d x))
  (Y: ∀L J d,yC 84 #[yDV x L J,yi j] d (yR d (ydV x.s (yT L x.n J) f)))
  (Z: ∀L J d,yB w d→Rd d .u32 (yT y a.n t) (Dg.dg 4294967296 a.n)→Rd d .u32 (yT L x.n J) (Dg.dg 4294967296 x.n)→yC 42 #[yDV a y t,ydV x.s (yT L x.n J) f] d (yR d (yi c)))
  (T5:yJ 84 #[yDV a y t,yi n] (ydV a.s (yT y a.n t) m))
  (T6: ∀d,yB w d→Rd d .u32 (yT y a.n t) (Dg.dg 4294967296 a.n)→yC 85 #[ydV a.s (yT y a.n t) m,yi k] d (aeT d p q))
  (T7: ∀d,yB w d→yC 78 #[yi k] d (aeT d u v))
  (T8: ∀d,yB w d→yC 25 #[yi b] d (aeT d z z))
  (T9: ∀uo uc vo vc zo zc io ic d,yB w d→Rd d .u32 (yT uo u.n uc) (Dg.dg 4294967296 u.n)→Rd d .u32 (yT vo v.n vc) (Dg.dg 4294967296 v.n)→Rd d .u32 (yT zo z.n zc) (Dg.dg 4294967296 z.n)→Rd d .u32 (yT io z.n ic) (Dg.dg 4294967296 z.n)→yC 86 #[.agg #[.bool u.s,yT uo u.n uc,yi u.e,.bool v.s,yT vo v.n vc,yi v.e],.agg #[.bool z.s,yT zo z.n zc,yi z.e,.bool z.s,yT io z.n ic,yi z.e]] d (aeT d r s))
  (TB: ∀po pc qo qc ro rc so sc d,yB w d→Rd d .u32 (yT po p.n pc) (Dg.dg 4294967296 p.n)→Rd d .u32 (yT qo q.n qc) (Dg.dg 4294967296 q.n)→Rd d .u32 (yT ro r.n rc) (Dg.dg 4294967296 r.n)→Rd d .u32 (yT so s.n sc) (Dg.dg 4294967296 s.n)→yC 87 #[.agg #[.bool p.s,yT po p.n pc,yi p.e,.bool q.s,yT qo q.n qc,yi q.e],.agg #[.bool r.s,yT ro r.n rc,yi r.e,.bool s.s,yT so s.n sc,yi s.e]] d (aeT d e h)):
  yC 47 #[yDV a y t,yi k] w (aeT w e h):=by
 replace W:Hid _:=W;replace X:Hid _:=X;replace Y:Hid _:=Y;replace Z:Hid _:=Z;replace T5:Hid _:=T5;replace T6:Hid _:=T6;replace T7:Hid _:=T7;replace T8:Hid _:=T8;replace T9:Hid _:=T9;replace TB:Hid _:=TB;obtain⟨W4,a2,q1,q2,b3⟩:=iG w (yDL a y t) 48 [.bool false,yN,yi 0,.bool false,yN,yi 0] 54;replace a2:Hid _:=a2;have r6:=ra.l b3;clear ra
 go_enter func47,ntmps47
 go_upto_region 1 with fail
 rw[a2.out];clear a2;obtain⟨c7,c8,c9⟩:=q1.cs3
 go_wp2_with fail
 refine(W.out _ b3 r6).mono ?_;rintro D bm ⟨rfl,N⟩;have bt:=q1.l N;have bv:=q2.l N;have cw:=r6.l N;have bn:=aa b3 N;clear q1 q2 r6 b3 N W c7 c8 c9
 go_upto_region 2 with fail
 have M:yB bm bm.drew:=(Below.refl _ _).drew;have a4:=bt.l M;have ay:=bv.l M;have ba:=cw.l M;have a0:=aa bn M;clear bt bv cw bn M;refine wp_region_held_drew (S:=fun wq=>au wq w.heap.size 48 (yDL a y t)) (by kernel_rfl) a4 (fun T=> ?_)
 generalize bm.drew=et at a4 ay ba a0 T⊢;refine tq 0 (yDV a y t) rfl (fun _ ea=>fy 48 (.tmp 2) rfl w.heap.size 0 (by kernel_rfl) _ _ ea.range underlying48 rfl (by kernel_rfl)) T ?_
 refine tq 2 (yi g) rfl (fun _ _=>by kernel_rfl) T ?_
 refine tq 3 (yi j) rfl (fun _ _=>by go_simp) T ?_
 refine wpAnyH_ready (rs:=[1]) (by kernel_rfl) (by simp) ?_;refine AllReadyH.cons rfl (fun K F=> ?_) AllReadyH.nil
 go_simp
 refine(X.out _ a0).mono ?_;rintro D fd ⟨f3,rfl,bc,O⟩;have az:=a4.l O;have bz:=ay.l O;have cx:=ba.l O;have bp:=aa a0 O;obtain⟨L,J,i⟩:=bc.shape;subst i;clear a4 ay ba a0 O X;refine F.out _ _ az (fun e8=> ?_)
 clear F K;refine wpAnyH_ready (rs:=[4]) (by kernel_rfl) (by simp) ?_;refine AllReadyH.cons rfl (fun K F=> ?_) AllReadyH.nil
 go_simp
 refine(Y.out _ _ _).mono ?_;rintro D fe ⟨rfl,H⟩;have b0:=az.l H;have c0:=bz.l H;have bi:=cx.l H;have bj:=bc.l H;have al:=aa bp H;clear az bz cx bc bp H Y;refine F.out _ _ b0 (fun e9=> ?_)
 clear F K;refine wpAnyH_ready (rs:=[5]) (by kernel_rfl) (by simp) ?_;refine AllReadyH.cons rfl (fun K F=> ?_) AllReadyH.nil
 go_simp
 refine(Z.out _ _ _ al bi bj).mono ?_;rintro D ff ⟨rfl,I⟩;have b1:=b0.l I;have c1:=c0.l I;have cy:=bi.l I;have cz:=bj.l I;have bq:=aa al I;clear b0 c0 bi bj al I Z;refine F.out _ _ b1 (fun bs=> ?_)
 clear F K;refine tq 6 (.bool false) rfl (fun _ _=>by go_simp) bs ?_
 refine wpAnyH_done (by kernel_rfl) ?_ _;clear T e8 e9 bs;simp only[Act.put,List.getElem_toArray,List.getElem_cons_succ,List.getElem_cons_zero,List.setIfInBounds_toArray,List.set_cons_zero,List.set_cons_succ];obtain⟨e5,e6,e7⟩:=b1.cs3
 go_wp2_with fail
 refine(T5.out _).mono ?_;rintro D fg ⟨rfl,Q⟩;have c2:=c1.l Q;have bl:=cy.l Q;have d0:=cz.l Q;have an:=aa bq Q;clear b1 c1 cy cz bq Q T5 e5 e6 e7
 go_wp2_with fail
 refine(T6.out _ an bl).mono ?_;rintro D dl ⟨f4,f9,rfl,bd,bg,R⟩;have b2:=c2.l R;have d1:=bl.l R;have d2:=d0.l R;have ap:=aa an R;obtain⟨po,pc,i⟩:=bd.shape;subst i;obtain⟨qo,qc,i⟩:=bg.shape;subst i;clear c2 bl d0 an R T6;obtain⟨es,a3,c3,G⟩:=cA dl [.bool p.s,yT po p.n pc,yi p.e,.bool q.s,yT qo q.n qc,yi q.e] 54;replace a3:Hid _:=a3;have ey:w.heap.size≤dl.heap.size:=ap.size;have f0:=b2.lt;have c4:=b2.l G;have d3:=d1.l G;have d4:=d2.l G;have d5:=bd.l G;have d6:=bg.l G;have aq:=aa ap G;clear b2 d1 d2 bd bg ap G
 go_upto_region 5 with fail
 rw[a3.out];clear a3
 go_wp2_with fail
 refine(T7.out _ aq).mono ?_;rintro D fi ⟨f5,fa,rfl,be,bh,E⟩;have c5:=c4.l E;have c6:=c3.l E;have d7:=d3.l E;have d9:=d4.l E;have da:=d5.l E;have db:=d6.l E;have ar:=aa aq E;obtain⟨uo,uc,i⟩:=be.shape;subst i;obtain⟨vo,vc,i⟩:=bh.shape;subst i;clear c4 c3 d3 d4 d5 d6 aq E T7
 go_wp2_with fail
 refine(T8.out _ ar).mono ?_;rintro D fj ⟨f6,fb,rfl,a6,a8,C⟩;have ca:=c5.l C;have cb:=c6.l C;have dc:=d7.l C;have cc:=d9.l C;have cd:=da.l C;have ce:=db.l C;have b4:=be.l C;have b5:=bh.l C;have a9:=aa ar C;obtain⟨zo,zc,i⟩:=a6.shape;subst i;obtain⟨io,ic,i⟩:=a8.shape;subst i;clear c5 c6 d7 d9 da db be bh ar C T8
 go_wp2_with fail
 refine(T9.out _ _ _ _ _ _ _ _ _ a9 b4 b5 a6 a8).mono ?_;rintro D dd ⟨f1,f7,rfl,bb,bf,B⟩;have av:=ca.l B;have ax:=cb.l B;have cg:=dc.l B;have ch:=cc.l B;have ci:=cd.l B;have cj:=ce.l B;have ck:=b4.l B;have cl:=b5.l B;have cm:=a6.l B;have cn:=a8.l B;have ad:=aa a9 B;obtain⟨ro,rc,i⟩:=bb.shape;subst i;obtain⟨so,sc,i⟩:=bf.shape;subst i;clear ca cb dc cc cd ce b4 b5 a6 a8 a9 B T9;obtain⟨ep,a1,bu,o⟩:=cA dd [.bool r.s,yT ro r.n rc,yi r.e,.bool s.s,yT so s.n sc,yi s.e] 54;replace a1:Hid _:=a1;have eu:w.heap.size≤dd.heap.size:=ad.size;have ev:=av.lt;have ex:=ax.lt;have bw:=av.l o;have bx:=ax.l o;have co:=cg.l o;have cp:=ch.l o;have b6:=ci.l o;have b7:=cj.l o;have cr:=ck.l o;have cs:=cl.l o;have ct:=cm.l o;have cv:=cn.l o;have b8:=bb.l o;have b9:=bf.l o;have ae:=aa ad o;clear av ax cg ch ci cj ck cl cm cn bb bf ad o
 go_upto_region 8 with fail
 rw[a1.out];clear a1;obtain⟨dn,dp,dq,ds,dt,dv⟩:=bx.cs6;obtain⟨dy,e0,e1,e2,e3,e4⟩:=bu.cs6
 go_wp2_with fail
 refine(TB.out _ _ _ _ _ _ _ _ _ ae b6 b7 b8 b9).mono ?_;rintro D fc ⟨f2,f8,rfl,a5,a7,A⟩;have U:=bw.l A;have eb:=co.l A;have ed:=cp.l A;have ee:=b6.l A;have ef:=b7.l A;have eg:=cr.l A;have eh:=cs.l A;have ei:=ct.l A;have ej:=cv.l A;have ek:=b8.l A;have el:=b9.l A;have bo:=aa ae A;obtain⟨eo,ec,i⟩:=a5.shape;subst i;obtain⟨ho,hc,i⟩:=a7.shape;subst i;clear bw bx bu co cp b6 b7 cr cs ct cv b8 b9 ae A TB dn dp dq ds dt dv dy e0 e1 e2 e3 e4;have hf:=fin6 (P:=Tryz.prog) U bo (by omega) underlying54 rfl (by kernel_rfl) (.bool e.s) (yT eo e.n ec) (yi e.e) (.bool h.s) (yT ho h.n hc) (yi h.e);have HH:Hid (_∧_∧_∧_):=⟨hf.1,hf.2.2.rd a5 (aX a5 U (by simp)),hf.2.2.rd a7 (aX a7 U (by simp)),hf.2.1⟩;obtain⟨⟨z0,z1,z2,z3,z4,z5⟩,y0,y1,y2,y3,y4,y5⟩:=csf6 U;clear hf U eb ed ee ef eg eh ei ej ek el a5 a7 bo
 go_wp2
 obtain⟨hl,em,en,bR⟩:=HH.out;exact bodyPost_ret (br results47 rfl hl) rfl ⟨_,_,rfl,em,en,bR⟩
theorem log_p1 (a:ak)(A:Option Addr)(t:Nat)(x p q u v z r s e h:ak)(k g j f c m n y b:Int)(w:World)(ra:Rd w .u32 (yT A a.n t) (Dg.dg 4294967296 a.n))(hj:IntKind.i64.wrap (g-2)=j)(hc:c<0)(hy:IntKind.i64.wrap (g-1)=y)(hn:IntKind.i64.wrap (-y)=n)(h0: ¬y=0)(hb:max y n=b)(h1: ¬y<0)
  (X: ∀d,yB w d→Rd d .u32 (yT A a.n t) (Dg.dg 4294967296 a.n)→yC 53 #[yDV a A t] d (yR d (yi g)))
  (Y: ∀d,yB w d→yC 43 #[yi 3] d (Lx d x))
  (Z: ∀M L d,yC 84 #[yDV x M L,yi j] d (yR d (ydV x.s (yT M x.n L) f)))
  (T4: ∀M L d,yB w d→Rd d .u32 (yT A a.n t) (Dg.dg 4294967296 a.n)→Rd d .u32 (yT M x.n L) (Dg.dg 4294967296 x.n)→yC 42 #[yDV a A t,ydV x.s (yT M x.n L) f] d (yR d (yi c)))
  (T5:yJ 84 #[yDV a A t,yi n] (ydV a.s (yT A a.n t) m))
  (T6: ∀d,yB w d→Rd d .u32 (yT A a.n t) (Dg.dg 4294967296 a.n)→yC 85 #[ydV a.s (yT A a.n t) m,yi k] d (aeT d p q))
  (T7: ∀d,yB w d→yC 78 #[yi k] d (aeT d u v))
  (T8: ∀d,yB w d→yC 25 #[yi b] d (aeT d z z))
  (T9: ∀uo uc vo vc zo zc io ic d,yB w d→Rd d .u32 (yT uo u.n uc) (Dg.dg 4294967296 u.n)→Rd d .u32 (yT vo v.n vc) (Dg.dg 4294967296 v.n)→Rd d .u32 (yT zo z.n zc) (Dg.dg 4294967296 z.n)→Rd d .u32 (yT io z.n ic) (Dg.dg 4294967296 z.n)→yC 86 #[.agg #[.bool u.s,yT uo u.n uc,yi u.e,.bool v.s,yT vo v.n vc,yi v.e],.agg #[.bool z.s,yT zo z.n zc,yi z.e,.bool z.s,yT io z.n ic,yi z.e]] d (aeT d r s))
  (TB: ∀po pc qo qc ro rc so sc d,yB w d→Rd d .u32 (yT po p.n pc) (Dg.dg 4294967296 p.n)→Rd d .u32 (yT qo q.n qc) (Dg.dg 4294967296 q.n)→Rd d .u32 (yT ro r.n rc) (Dg.dg 4294967296 r.n)→Rd d .u32 (yT so s.n sc) (Dg.dg 4294967296 s.n)→yC 87 #[.agg #[.bool p.s,yT po p.n pc,yi p.e,.bool q.s,yT qo q.n qc,yi q.e],.agg #[.bool r.s,yT ro r.n rc,yi r.e,.bool s.s,yT so s.n sc,yi s.e]] d (aeT d e h)):
  yC 47 #[yDV a A t,yi k] w (aeT w e h):=by
 replace X:Hid _:=X;replace Y:Hid _:=Y;replace Z:Hid _:=Z;replace T4:Hid _:=T4;replace T5:Hid _:=T5;replace T6:Hid _:=T6;replace T7:Hid _:=T7;replace T8:Hid _:=T8;replace T9:Hid _:=T9;replace TB:Hid _:=TB;obtain⟨W4,a2,q1,q2,b3⟩:=iG w (yDL a A t) 48 [.bool false,yN,yi 0,.bool false,yN,yi 0] 54;replace a2:Hid _:=a2;have r6:=ra.l b3;clear ra
 go_enter func47,ntmps47
 go_upto_region 1 with fail
 rw[a2.out];clear a2;obtain⟨c7,c8,c9⟩:=q1.cs3
 go_wp2_with fail
 refine(X.out _ b3 r6).mono ?_;rintro E bm ⟨rfl,O⟩;have bt:=q1.l O;have bv:=q2.l O;have cw:=r6.l O;have bn:=aa b3 O;clear q1 q2 r6 b3 O X c7 c8 c9
 go_upto_region 2 with fail
 have N:yB bm bm.drew:=(Below.refl _ _).drew;have a4:=bt.l N;have ay:=bv.l N;have ba:=cw.l N;have a0:=aa bn N;clear bt bv cw bn N;refine wp_region_held_drew (S:=fun wq=>au wq w.heap.size 48 (yDL a A t)) (by kernel_rfl) a4 (fun U=> ?_)
 generalize bm.drew=et at a4 ay ba a0 U⊢;refine tq 0 (yDV a A t) rfl (fun _ ea=>fy 48 (.tmp 2) rfl w.heap.size 0 (by kernel_rfl) _ _ ea.range underlying48 rfl (by kernel_rfl)) U ?_
 refine tq 2 (yi g) rfl (fun _ _=>by kernel_rfl) U ?_
 refine tq 3 (yi j) rfl (fun _ _=>by go_simp) U ?_
 refine wpAnyH_ready (rs:=[1]) (by kernel_rfl) (by simp) ?_;refine AllReadyH.cons rfl (fun K G=> ?_) AllReadyH.nil
 go_simp
 refine(Y.out _ a0).mono ?_;rintro E fd ⟨f3,rfl,bc,Q⟩;have az:=a4.l Q;have bz:=ay.l Q;have cx:=ba.l Q;have bp:=aa a0 Q;obtain⟨M,L,i⟩:=bc.shape;subst i;clear a4 ay ba a0 Q Y;refine G.out _ _ az (fun e8=> ?_)
 clear G K;refine wpAnyH_ready (rs:=[4]) (by kernel_rfl) (by simp) ?_;refine AllReadyH.cons rfl (fun K G=> ?_) AllReadyH.nil
 go_simp
 refine(Z.out _ _ _).mono ?_;rintro E fe ⟨rfl,I⟩;have b0:=az.l I;have c0:=bz.l I;have bi:=cx.l I;have bj:=bc.l I;have al:=aa bp I;clear az bz cx bc bp I Z;refine G.out _ _ b0 (fun e9=> ?_)
 clear G K;refine wpAnyH_ready (rs:=[5]) (by kernel_rfl) (by simp) ?_;refine AllReadyH.cons rfl (fun K G=> ?_) AllReadyH.nil
 go_simp
 refine(T4.out _ _ _ al bi bj).mono ?_;rintro E ff ⟨rfl,J⟩;have b1:=b0.l J;have c1:=c0.l J;have cy:=bi.l J;have cz:=bj.l J;have bq:=aa al J;clear b0 c0 bi bj al J T4;refine G.out _ _ b1 (fun bs=> ?_)
 clear G K;refine tq 6 (.bool true) rfl (fun _ _=>by go_simp) bs ?_
 refine wpAnyH_done (by kernel_rfl) ?_ _;clear U e8 e9 bs;simp only[Act.put,List.getElem_toArray,List.getElem_cons_succ,List.getElem_cons_zero,List.setIfInBounds_toArray,List.set_cons_zero,List.set_cons_succ];obtain⟨e5,e6,e7⟩:=b1.cs3
 go_wp2_with fail
 refine(T5.out _).mono ?_;rintro E fg ⟨rfl,R⟩;have c2:=c1.l R;have bl:=cy.l R;have d0:=cz.l R;have an:=aa bq R;clear b1 c1 cy cz bq R T5 e5 e6 e7
 go_wp2_with fail
 refine(T6.out _ an bl).mono ?_;rintro E dl ⟨f4,f9,rfl,bd,bg,T⟩;have b2:=c2.l T;have d1:=bl.l T;have d2:=d0.l T;have ap:=aa an T;obtain⟨po,pc,i⟩:=bd.shape;subst i;obtain⟨qo,qc,i⟩:=bg.shape;subst i;clear c2 bl d0 an T T6;obtain⟨es,a3,c3,H⟩:=cA dl [.bool p.s,yT po p.n pc,yi p.e,.bool q.s,yT qo q.n qc,yi q.e] 54;replace a3:Hid _:=a3;have ey:w.heap.size≤dl.heap.size:=ap.size;have f0:=b2.lt;have c4:=b2.l H;have d3:=d1.l H;have d4:=d2.l H;have d5:=bd.l H;have d6:=bg.l H;have aq:=aa ap H;clear b2 d1 d2 bd bg ap H
 go_upto_region 5 with fail
 rw[a3.out];clear a3
 go_wp2_with fail
 refine(T7.out _ aq).mono ?_;rintro E fi ⟨f5,fa,rfl,be,bh,F⟩;have c5:=c4.l F;have c6:=c3.l F;have d7:=d3.l F;have d9:=d4.l F;have da:=d5.l F;have db:=d6.l F;have ar:=aa aq F;obtain⟨uo,uc,i⟩:=be.shape;subst i;obtain⟨vo,vc,i⟩:=bh.shape;subst i;clear c4 c3 d3 d4 d5 d6 aq F T7
 go_wp2_with fail
 refine(T8.out _ ar).mono ?_;rintro E fj ⟨f6,fb,rfl,a6,a8,D⟩;have ca:=c5.l D;have cb:=c6.l D;have dc:=d7.l D;have cc:=d9.l D;have cd:=da.l D;have ce:=db.l D;have b4:=be.l D;have b5:=bh.l D;have a9:=aa ar D;obtain⟨zo,zc,i⟩:=a6.shape;subst i;obtain⟨io,ic,i⟩:=a8.shape;subst i;clear c5 c6 d7 d9 da db be bh ar D T8
 go_wp2_with fail
 refine(T9.out _ _ _ _ _ _ _ _ _ a9 b4 b5 a6 a8).mono ?_;rintro E dd ⟨f1,f7,rfl,bb,bf,C⟩;have av:=ca.l C;have ax:=cb.l C;have cg:=dc.l C;have ch:=cc.l C;have ci:=cd.l C;have cj:=ce.l C;have ck:=b4.l C;have cl:=b5.l C;have cm:=a6.l C;have cn:=a8.l C;have ad:=aa a9 C;obtain⟨ro,rc,i⟩:=bb.shape;subst i;obtain⟨so,sc,i⟩:=bf.shape;subst i;clear ca cb dc cc cd ce b4 b5 a6 a8 a9 C T9;obtain⟨ep,a1,bu,o⟩:=cA dd [.bool r.s,yT ro r.n rc,yi r.e,.bool s.s,yT so s.n sc,yi s.e] 54;replace a1:Hid _:=a1;have eu:w.heap.size≤dd.heap.size:=ad.size;have ev:=av.lt;have ex:=ax.lt;have bw:=av.l o;have bx:=ax.l o;have co:=cg.l o;have cp:=ch.l o;have b6:=ci.l o;have b7:=cj.l o;have cr:=ck.l o;have cs:=cl.l o;have ct:=cm.l o;have cv:=cn.l o;have b8:=bb.l o;have b9:=bf.l o;have ae:=aa ad o;clear av ax cg ch ci cj ck cl cm cn bb bf ad o
 go_upto_region 8 with fail
 rw[a1.out];clear a1;obtain⟨dn,dp,dq,ds,dt,dv⟩:=bx.cs6;obtain⟨dy,e0,e1,e2,e3,e4⟩:=bu.cs6
 go_wp2_with fail
 refine(TB.out _ _ _ _ _ _ _ _ _ ae b6 b7 b8 b9).mono ?_;rintro E fc ⟨f2,f8,rfl,a5,a7,B⟩;have W:=bw.l B;have eb:=co.l B;have ed:=cp.l B;have ee:=b6.l B;have ef:=b7.l B;have eg:=cr.l B;have eh:=cs.l B;have ei:=ct.l B;have ej:=cv.l B;have ek:=b8.l B;have el:=b9.l B;have bo:=aa ae B;obtain⟨eo,ec,i⟩:=a5.shape;subst i;obtain⟨ho,hc,i⟩:=a7.shape;subst i;clear bw bx bu co cp b6 b7 cr cs ct cv b8 b9 ae B TB dn dp dq ds dt dv dy e0 e1 e2 e3 e4;have hf:=fin6 (P:=Tryz.prog) W bo (by omega) underlying54 rfl (by kernel_rfl) (.bool e.s) (yT eo e.n ec) (yi e.e) (.bool h.s) (yT ho h.n hc) (yi h.e);have HH:Hid (_∧_∧_∧_):=⟨hf.1,hf.2.2.rd a5 (aX a5 W (by simp)),hf.2.2.rd a7 (aX a7 W (by simp)),hf.2.1⟩;obtain⟨⟨z0,z1,z2,z3,z4,z5⟩,y0,y1,y2,y3,y4,y5⟩:=csf6 W;clear hf W eb ed ee ef eg eh ei ej ek el a5 a7 bo
 go_wp2
 obtain⟨hl,em,en,bR⟩:=HH.out;exact bodyPost_ret (br results47 rfl hl) rfl ⟨_,_,rfl,em,en,bR⟩
theorem narrow_N (a b:ak)(r g:Option Addr)(q d:Nat)(x:ak)(n k m c:Int)(w:World)(rb:Rd w .u32 (yT g b.n d) (Dg.dg 4294967296 b.n))(hk:IntKind.i64.wrap (-n)=k)(hc:c≤0)
  (C:yH w 95 #[.agg #[.bool true,yT r a.n q,yi a.e,.bool true,yT g b.n d,yi b.e]] (.bool true))
  (E: ∀p,yB w p→yC 75 #[ydV true (yT g b.n d) b.e,ydV true (yT r a.n q) a.e] p (Lx p x))
  (F:yJ 29 #[ydV true (yT g b.n d) b.e] (ydV false (yT g b.n d) b.e))
  (D:yJ 84 #[ydV false (yT g b.n d) b.e,yi k] (ydV false (yT g b.n d) m))
  (B: ∀xo xc p,yB w p→Rd p .u32 (yT xo x.n xc) (Dg.dg 4294967296 x.n)→Rd p .u32 (yT g b.n d) (Dg.dg 4294967296 b.n)→yC 42 #[yDV x xo xc,ydV false (yT g b.n d) m] p (yR p (yi c))):
  yC 58 #[.agg #[.bool true,yT r a.n q,yi a.e,.bool true,yT g b.n d,yi b.e],yi n] w (yR w (.bool true)):=by
 replace C:Hid _:=C;replace E:Hid _:=E;replace F:Hid _:=F;replace D:Hid _:=D;replace B:Hid _:=B;obtain⟨h,N,q1,H⟩:=cA w [.bool true,yT r a.n q,yi a.e,.bool true,yT g b.n d,yi b.e] 54;replace N:Hid _:=N;have r5:=rb.l H;clear rb
 go_enter func58,ntmps58
 go_upto_region 1 with fail
 rw[N.out];clear N;obtain⟨T,O,o,G⟩:=cA h (ydL true (yT r a.n q) a.e) 48;replace O:Hid _:=O;have bp:w.heap.size≤h.heap.size:=H.size;have bq:=q1.lt;have b3:=q1.c 0 rfl;have b4:=q1.c 1 rfl;have b5:=q1.c 2 rfl;have v:=q1.l G;have a9:=r5.l G;have an:=aa H G;clear q1 r5 H G
 go_upto_region 2 with fail
 rw[O.out];clear b3 b4 b5 O;have b6:=v.c 0 rfl;have b7:=v.c 3 rfl;have b8:=v.c 4 rfl;have b9:=v.c 5 rfl;have L:=((ag T h.heap.size 0 (.bool true)).trans (ag _ h.heap.size 1 (yT g b.n d))).trans (ag _ h.heap.size 2 (yi b.e));have Z:au (((T.setCell ⟨h.heap.size,0,none⟩ (.bool true)).setCell ⟨h.heap.size,1,none⟩ (yT g b.n d)).setCell ⟨h.heap.size,2,none⟩ (yi b.e)) h.heap.size 48 (ydL true (yT g b.n d) b.e):=(((o.set 0 (.bool true)).set 1 (yT g b.n d)).set 2 (yi b.e));have ba:=o.c 0 rfl;have bj:=o.f 0;have bb:=o.c 1 rfl;have bl:=o.f 1;have bd:=o.c 2 rfl;have bm:=o.f 2;have a0:=L.loc v (by omega);have ae:=L.rd a9 (aX a9 o (by simp));have U:=L.below an (by omega);clear L
 go_upto_region 4 with fail
 generalize((T.setCell ⟨h.heap.size,0,none⟩ (.bool true)).setCell ⟨h.heap.size,1,none⟩ (yT g b.n d)).setCell ⟨h.heap.size,2,none⟩ (yi b.e)=W32 at a0 Z ae U⊢;clear o v a9 an b6 b7 b8 b9 ba bj bb bl bd bm
 go_upto_region 4 with fail
 have y:yB W32 W32.drew:=(Below.refl _ _).drew;have P:=a0.l y;have Q:=Z.l y;have al:=ae.l y;have I:=aa U y;clear a0 Z ae U y;refine wp_region_held_drew (S:=fun wq=>au wq w.heap.size 54 [.bool true,yT r a.n q,yi a.e,.bool true,yT g b.n d,yi b.e]∧au wq h.heap.size 48 (ydL true (yT g b.n d) b.e)) (by kernel_rfl) ⟨P,Q⟩ (fun Y=> ?_)
 generalize W32.drew=bn at P Q al I Y⊢;refine tq 0 (.agg #[.bool true,yT r a.n q,yi a.e,.bool true,yT g b.n d,yi b.e]) rfl (fun _ s=>fy 54 (.tmp 2) rfl w.heap.size 0 (by kernel_rfl) _ _ s.1.range underlying54 rfl (by kernel_rfl)) Y ?_
 refine wpAnyH_ready (rs:=[1]) (by kernel_rfl) (by simp) ?_;refine AllReadyH.cons rfl (fun K i=> ?_) AllReadyH.nil
 go_simp
 refine(C.out _ I).mono ?_;rintro R bt ⟨rfl,z⟩;have a1:=P.l z;have a2:=Q.l z;have ar:=al.l z;have W:=aa I z;clear P Q al I z C;refine i.out _ _ ⟨a1,a2⟩ (fun j=> ?_)
 clear i K;refine tq 2 (.bool true) rfl (fun _ _=>by kernel_rfl) j ?_
 refine tq 3 (.pointer (some ⟨w.heap.size,3,none⟩)) rfl (fun _ _=>by kernel_rfl) j ?_
 refine tq 4 (ydV true (yT g b.n d) b.e) rfl (fun _ s=>fy 48 (.tmp 17) rfl w.heap.size 3 (by kernel_rfl) _ _ (kY s.1 3 3 rfl) underlying48 rfl (by kernel_rfl)) j ?_
 refine tq 5 (.pointer (some ⟨w.heap.size,0,none⟩)) rfl (fun _ _=>by kernel_rfl) j ?_
 refine tq 6 (ydV true (yT r a.n q) a.e) rfl (fun _ s=>fy 48 (.tmp 19) rfl w.heap.size 0 (by kernel_rfl) _ _ (kY s.1 0 3 rfl) underlying48 rfl (by kernel_rfl)) j ?_
 refine tq 8 (ydV true (yT g b.n d) b.e) rfl (fun _ s=>fy 48 (.tmp 5) rfl h.heap.size 0 (by kernel_rfl) _ _ s.2.range underlying48 rfl (by kernel_rfl)) j ?_
 refine tq 10 (yi n) rfl (fun _ _=>by kernel_rfl) j ?_
 refine tq 11 (yi k) rfl (fun _ _=>by go_simp) j ?_
 refine wpAnyH_ready (rs:=[7]) (by kernel_rfl) (by simp) ?_;refine AllReadyH.cons rfl (fun K i=> ?_) AllReadyH.nil
 go_simp
 refine(E.out _ W).mono ?_;rintro R bv ⟨bs,rfl,ad,A⟩;have a3:=a1.l A;have a4:=a2.l A;have av:=ar.l A;have ap:=aa W A;obtain⟨xo,xc,hv⟩:=ad.shape;subst hv;clear a1 a2 ar W A E;refine i.out _ _ ⟨a3,a4⟩ (fun be=> ?_)
 clear i K;refine wpAnyH_ready (rs:=[9]) (by kernel_rfl) (by simp) ?_;refine AllReadyH.cons rfl (fun K i=> ?_) AllReadyH.nil
 go_simp
 refine(F.out _).mono ?_;rintro R bw ⟨rfl,t⟩;have a5:=a3.l t;have a6:=a4.l t;have ax:=av.l t;have ay:=ad.l t;have aq:=aa ap t;clear a3 a4 av ad ap t F;refine i.out _ _ ⟨a5,a6⟩ (fun bf=> ?_)
 clear i K;refine wpAnyH_ready (rs:=[12]) (by kernel_rfl) (by simp) ?_;refine AllReadyH.cons rfl (fun K i=> ?_) AllReadyH.nil
 go_simp
 refine(D.out _).mono ?_;rintro R bx ⟨rfl,u⟩;have a7:=a5.l u;have a8:=a6.l u;have az:=ax.l u;have b0:=ay.l u;have X:=aa aq u;clear a5 a6 ax ay aq u D;refine i.out _ _ ⟨a7,a8⟩ (fun bg=> ?_)
 clear i K;refine wpAnyH_ready (rs:=[13]) (by kernel_rfl) (by simp) ?_;refine AllReadyH.cons rfl (fun K i=> ?_) AllReadyH.nil
 go_simp
 refine(B.out _ _ _ X b0 az).mono ?_;rintro R bz ⟨rfl,J⟩;have bh:=a7.l J;have bi:=a8.l J;have b1:=aa X J;clear a7 a8 az b0 X J B;refine i.out _ _ ⟨bh,bi⟩ (fun M=> ?_)
 clear i K;refine tq 14 (.bool true) rfl (fun _ _=>by go_simp) M ?_
 refine tq 15 (.bool true) rfl (fun _ _=>by kernel_rfl) M ?_
 refine tq 16 (.bool true) rfl (fun _ _=>by kernel_rfl) M ?_
 refine wpAnyH_done (by kernel_rfl) ?_ _;clear Y j be bf bg M;simp only[Act.put,List.getElem_toArray,List.getElem_cons_succ,List.getElem_cons_zero,List.setIfInBounds_toArray,List.set_cons_zero,List.set_cons_succ]
 go_wp2
 go_ret
 exact⟨by simp,b1⟩
end Go.Proofs.YthhiidikgchdeabGreatDoor
