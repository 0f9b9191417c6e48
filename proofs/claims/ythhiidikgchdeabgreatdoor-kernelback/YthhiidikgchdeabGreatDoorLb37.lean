/- Texts laid together. -/
import Derived.Test.YthhiidikgchdeabGreatDoorLb17
import Derived.Test.YthhiidikgchdeabGreatDoorLb28
import Derived.Test.YthhiidikgchdeabGreatDoorLb30
import Derived.Test.YthhiidikgchdeabGreatDoorLb32
import Derived.Test.YthhiidikgchdeabGreatDoorLb34
set_option maxRecDepth 100000
set_option maxHeartbeats 3200000
namespace Go.Proofs.YthhiidikgchdeabGreatDoor
open _root_.Go.Proofs.Tryz
open Go.RowKit
theorem nS (s:Bool)(d:Option Addr)(f:Nat)(xs:List Nat)(e:Int)(w:World)(i:Rd w .u32 (.slice d xs.length f) xs):
  yC 34 #[ydV s (.slice d xs.length f) e] w (yR w (yi (aS xs e))):=by
 have b:=af w (.cells (ydA s (.slice d xs.length f) e) 25);have a:=jC _ xs _ (i.l b);unfold aS;obtain⟨c,g⟩: ∃c,chk xs=c:=⟨_,rfl⟩;rw[g] at a⊢;clear g i
 by_cases h:c=0
 ·subst h
  rw[if_pos rfl]
  by_cases j:e< -20000
  ·rw[if_pos (Or.inl j)]
   go_enter func34,ntmps34
   go_wp2_with fail
   refine a.mono ?_;rintro z w' ⟨rfl,rfl⟩;clear a
   go_wp2
   go_ret
   exact⟨rfl,b⟩
  ·by_cases k:20000<e
   ·rw[if_pos (Or.inr k)]
    go_enter func34,ntmps34
    go_wp2_with fail
    refine a.mono ?_;rintro z w' ⟨rfl,rfl⟩;clear a
    go_wp2
    go_ret
    exact⟨rfl,b⟩
   ·rw[if_neg (by omega)]
    go_enter func34,ntmps34
    go_wp2_with fail
    refine a.mono ?_;rintro z w' ⟨rfl,rfl⟩;clear a
    go_wp2
    go_ret
    exact⟨rfl,b⟩
 ·rw[if_neg h]
  go_enter func34,ntmps34
  go_wp2_with fail
  refine a.mono ?_;rintro z w' ⟨rfl,rfl⟩;clear a
  go_wp2
  go_ret
  exact⟨rfl,b⟩
theorem Hu (s:Bool)(o:Option Addr)(C H:Nat)(e:Int)(t:Bool)(B:Option Addr)(D I:Nat)(f:Int)(r q:ak×Int)(w:World)
  (X: ∀j,yB w j→yC 39 #[ydV s (.slice o H C) e] j (gR j r))
  (Y: ∀j,yB w j→yC 39 #[ydV t (.slice B I D) f] j (gR j q)):
  yC 26 #[.agg #[.bool s,.slice o H C,yi e,.bool t,.slice B I D,yi f]] w (jE w (iD r q)):=by
 have H1:Hid _:=X;have H2:Hid _:=Y;clear X Y;obtain⟨⟨rs,b,a⟩,c⟩:=r;have U:=(aJ w (.bool s) (.slice o H C) (yi e) (.bool t) (.slice B I D) (yi f) 54).l (af _ (.cells #[.bool false,yN,yi 0,.bool false,yN,yi 0] 29));have R:=aJ (w.alloc (.cells #[.bool s,.slice o H C,yi e,.bool t,.slice B I D,yi f] 54)) (.bool false) yN (yi 0) (.bool false) yN (yi 0) 29;have T:=aa (af w (.cells #[.bool s,.slice o H C,yi e,.bool t,.slice B I D,yi f] 54)) (af _ (.cells #[.bool false,yN,yi 0,.bool false,yN,yi 0] 29));simp only[World.size_alloc] at R;obtain⟨-,⟨c0,c1,c2,c3,c4,c5⟩,-⟩:=id U
 go_enter func26,ntmps26
 go_wp2_with fail
 refine(H1.out _ T).mono ?_;rintro z w4 ⟨W,rfl,m,Q⟩;have a0:=aa T Q;have q4:=U.l Q;have k4:=R.l Q;have m:=m.lower (show w.heap.size+2≤_ from by have:=R.1;omega)
 clear Q U R T c0 c1 c2 c3 c4 c5;obtain⟨p,E,h4⟩:=m.rd.shape;subst h4;simp only at m⊢;have x:=af w4 (.cells (ydA rs (yT p b E) a) 25);have Z:=aA w4 (.bool rs) (yT p b E) (yi a) 25;have P:=aa a0 x;have q5:=q4.l x;have S:=k4.l x;have o5:=m.l x;clear a0 q4 k4 x m;obtain⟨-,⟨-,-,-,p3,p4,p5⟩,-⟩:=id q5
 by_cases hc:c=0
 ·subst hc
  obtain⟨⟨qs,h,g⟩,d⟩:=q
  go_wp2_with fail
  refine(H2.out _ P).mono ?_;rintro z w7 ⟨v7,rfl,n,y⟩;have a1:=aa P y;have a7:=Z.l y;have k7:=S.l y;have a2:=o5.l y;have n:=n.lower (show w.heap.size+2≤_ from by have:=S.1;omega)
  clear P Z S q5 y o5 p3 p4 p5;obtain⟨u,F,h7⟩:=n.rd.shape;subst h7;simp only at n⊢;have k:=af w7 (.cells (ydA qs (yT u h F) g) 25);have e8:=aA w7 (.bool qs) (yT u h F) (yi g) 25;have bX:=aa a1 k;have a8:=a7.l k;have i:=k7.l k;have a3:=a2.l k;have a4:=n.l k;clear a1 a7 k7 k a2 n
  by_cases hd:d=0
  ·subst hd
   have G:iD (⟨rs,b,a⟩,0) (⟨qs,h,g⟩,0)=(⟨rs,b,a⟩,⟨qs,h,g⟩,0):=by simp[iD]
   obtain⟨-,⟨i0,i1,i2⟩,-⟩:=id a8;obtain⟨-,⟨j0,j1,j2⟩,-⟩:=id e8;obtain⟨hl,⟨v0,v1,v2,v3,W,v5⟩,f0,f1,f2,f3,f4,f5⟩:=id i
   go_wp2
   obtain⟨-,⟨J,K,L,M,N,O⟩,-⟩:=bP i (.bool rs) (yT p b E) (yi a) (.bool qs) (yT u h F) (yi g);have A:=aW bX (show w.heap.size≤w.heap.size+1 by omega) (.bool rs) (yT p b E) (yi a) (.bool qs) (yT u h F) (yi g)
   refine bodyPost_ret (v:= .tuple #[.agg #[.bool rs,yT p b E,yi a,.bool qs,yT u h F,yi g],yi 0]) (by simp[results,results26,go_sem,J,K,L,M,N,O]) rfl ?_
   try rw[G]
   exact⟨_,_,rfl,(a3.apart6 (by omega) _ _ _ _ _ _).lower (by omega),(a4.apart6 (by omega) _ _ _ _ _ _).lower (by omega),A⟩
  ·have G:iD (⟨rs,b,a⟩,0) (⟨qs,h,g⟩,d)=(⟨false,0,0⟩,⟨false,0,0⟩,d):=by simp[iD,hd]
   obtain⟨hl,⟨v0,v1,v2,v3,W,v5⟩,f0,f1,f2,f3,f4,f5⟩:=id i
   go_wp2
   obtain⟨-,⟨J,K,L,M,N,O⟩,-⟩:=bP i (.bool false) yN (yi 0) (.bool false) yN (yi 0);have A:=aW bX (show w.heap.size≤w.heap.size+1 by omega) (.bool false) yN (yi 0) (.bool false) yN (yi 0)
   refine bodyPost_ret (v:= .tuple #[.agg #[.bool false,yN,yi 0,.bool false,yN,yi 0],yi d]) (by simp[results,results26,go_sem,J,K,L,M,N,O]) rfl ?_
   try rw[G]
   exact⟨_,_,rfl,aQ _ _ _ _,aQ _ _ _ _,A⟩
 ·have G:iD (⟨rs,b,a⟩,c) q=(⟨false,0,0⟩,⟨false,0,0⟩,c):=by simp[iD,hc]
  have i:=S;have bX:=P;obtain⟨hl,⟨v0,v1,v2,v3,W,v5⟩,f0,f1,f2,f3,f4,f5⟩:=id i
  go_wp2
  obtain⟨-,⟨J,K,L,M,N,O⟩,-⟩:=bP i (.bool false) yN (yi 0) (.bool false) yN (yi 0);have A:=aW bX (show w.heap.size≤w.heap.size+1 by omega) (.bool false) yN (yi 0) (.bool false) yN (yi 0)
  refine bodyPost_ret (v:= .tuple #[.agg #[.bool false,yN,yi 0,.bool false,yN,yi 0],yi c]) (by simp[results,results26,go_sem,J,K,L,M,N,O]) rfl ?_
  try rw[G]
  exact⟨_,_,rfl,aQ _ _ _ _,aQ _ _ _ _,A⟩
theorem refined1_Exp (E pf pi:Nat)(x y u v:ak)(k b:Int)(w:World)(R:w.rangeAt pf 0 [.func (.func 44) #[] #[.pointer (some ⟨E,0,none⟩)]])(Q:w.rangeAt pi 0 [yi b])
  (A: ∀a,yB w a→yC 44 #[yi k,.pointer (some ⟨E,0,none⟩)] a (aeT a x y))
  (z: ∀xo xc yo yc a,yB w a→Rd a .u32 (yT xo x.n xc) (Dg.dg 4294967296 x.n)→Rd a .u32 (yT yo y.n yc) (Dg.dg 4294967296 y.n)→yC 55 #[.agg #[.bool x.s,yT xo x.n xc,yi x.e,.bool y.s,yT yo y.n yc,yi y.e],yi b] a (aeT a u v)):
  yC 54 #[yi k,.pointer (some ⟨pf,0,none⟩),.pointer (some ⟨pi,0,none⟩)] w (aeT w u v):=by
 replace A:Hid _:=A;replace z:Hid _:=z;have aq:pf<w.heap.size:=World.block_lt_of_cell? _ _ (R 0 _ rfl);have ar:pi<w.heap.size:=World.block_lt_of_cell? _ _ (Q 0 _ rfl);obtain⟨M,D,q1,C⟩:=cA w [.bool false,yN,yi 0,.bool false,yN,yi 0] 54;replace D:Hid _:=D;have q5:=aC R C;have q6:=aC Q C;clear R Q
 go_enter func54,ntmps54
 go_upto_region 1 with fail
 rw[D.out];clear D
 go_upto_region 1 with fail
 have q:yB M M.drew:=(Below.refl _ _).drew;have F:=aC q5 q;have G:=aC q6 q;have T:=q1.l q;have B:=aa C q;clear q5 q6 q1 C q;refine wp_region_held_drew (S:=fun wq=>wq.rangeAt pf 0 [.func (.func 44) #[] #[.pointer (some ⟨E,0,none⟩)]]∧wq.rangeAt pi 0 [yi b]) (by kernel_rfl) ⟨F,G⟩ (fun t=> ?_)
 generalize M.drew=ap at F G T B t⊢;refine tq 0 (.func (.func 44) #[] #[.pointer (some ⟨E,0,none⟩)]) rfl (fun _ O=>gU 57 (.tmp 1) rfl pf 0 (by kernel_rfl) _ _ underlying57 rfl (O.1 0 _ rfl)) t ?_
 refine tq 1 (yi k) rfl (fun _ _=>by kernel_rfl) t ?_
 refine tq 3 (yi b) rfl (fun _ O=>gU 3 (.tmp 2) rfl pi 0 (by kernel_rfl) _ _ underlying3 rfl (O.2 0 _ rfl)) t ?_
 refine wpAnyH_ready (rs:=[2]) (by kernel_rfl) (by simp) ?_;refine AllReadyH.cons rfl (fun K d=> ?_) AllReadyH.nil
 go_simp
 refine(A.out _ B).mono ?_;rintro zz b0 ⟨av,ay,rfl,H,J,r⟩;have U:=aC F r;have W:=aC G r;have a4:=T.l r;have N:=aa B r;obtain⟨xo,xc,g⟩:=H.shape;subst g;obtain⟨yo,yc,g⟩:=J.shape;subst g;clear F G T B r A;refine d.out _ _ ⟨U,W⟩ (fun ac=> ?_)
 clear d K;refine wpAnyH_ready (rs:=[4]) (by kernel_rfl) (by simp) ?_;refine AllReadyH.cons rfl (fun K d=> ?_) AllReadyH.nil
 go_simp
 refine(z.out _ _ _ _ _ N H J).mono ?_;rintro zz p ⟨ax,az,rfl,I,L,f⟩;have X:=aC U f;have Y:=aC W f;have h:=a4.l f;have Z:=H.l f;have a0:=J.l f;have a1:=aa N f;obtain⟨j,i,g⟩:=I.shape;subst g;obtain⟨o,m,g⟩:=L.shape;subst g;clear U W a4 H J N f z;refine d.out _ _ ⟨X,Y⟩ (fun ad=> ?_)
 clear d K;refine wpAnyH_ready (rs:=[5]) (by kernel_rfl) (by simp) ?_;refine AllReadyH.cons rfl (fun K d=> ?_) AllReadyH.nil
 have c:But w.heap.size p (p.setCells w.heap.size 0 [.bool u.s,yT j u.n i,yi u.e,.bool v.s,yT o v.n m,yi v.e]):=de _ _ _ _;have a3:p.there w.heap.size 0 6:=dD h;have a5:au (p.setCells w.heap.size 0 [.bool u.s,yT j u.n i,yi u.e,.bool v.s,yT o v.n m,yi v.e]) w.heap.size 54 [.bool u.s,yT j u.n i,yi u.e,.bool v.s,yT o v.n m,yi v.e]:=h.sets _ rfl;have al:=c.rd Z (aX Z h (by simp));have an:=c.rd a0 (aX a0 h (by simp));have a8:=c.rd I (aX I h (by simp));have a9:=c.rd L (aX L h (by simp));have a6:=dZ c X (by omega);have a7:=dZ c Y (by omega);have a2:=c.below a1 (by omega);rw[if_pos (by kernel_rfl)];refine wp_store_mid 54 (.tmp 4) (.tmp 9) rfl w.heap.size 0 #[.bool u.s,yT j u.n i,yi u.e,.bool v.s,yT o v.n m,yi v.e] (by kernel_rfl) (by kernel_rfl) a3 (by kernel_rfl) (by simp[Value.oneCell']) ?_;refine d.out _ _ ⟨a6,a7⟩ (fun ae=> ?_)
 clear d K;clear h Z a0 I L X Y a1 c a3;refine wpAnyH_done (by kernel_rfl) ?_ _;clear t ac ad ae;change Exit.then _ _ _ _ (World.setCells p w.heap.size 0 [.bool u.s,yT j u.n i,yi u.e,.bool v.s,yT o v.n m,yi v.e]);generalize World.setCells p w.heap.size 0 [.bool u.s,yT j u.n i,yi u.e,.bool v.s,yT o v.n m,yi v.e]=ao at a6 a7 a5 al an a8 a9 a2⊢;simp only[Act.put,List.getElem_toArray,List.getElem_cons_succ,List.getElem_cons_zero];have hl:=run_loadVar_mid (P:=Tryz.prog) _ (w.heap.size) 0 54 [.bool u.s,yT j u.n i,yi u.e,.bool v.s,yT o v.n m,yi v.e] _ a5.range underlying54 rfl (by kernel_rfl)
 go_wp2
 exact bodyPost_ret (br results54 rfl hl) rfl ⟨_,_,rfl,a8,a9,a2⟩
theorem number_e1 (s:Bool)(f:Option Addr)(j i:Nat)(e b c:Int)(w:World)(v: ¬c=0)
  (a:yH w 34 #[ydV s (.slice f j i) e] (yi c)):
  yC 41 #[ydV s (.slice f j i) e,yi b] w (yR w (.tuple #[ydV false yN 0,yi c])):=by
 replace a:Hid _:=a;obtain⟨u,d,q1,q2,g⟩:=iG w (ydL s (.slice f j i) e) 25 (ydL false yN 0) 48;replace d:Hid _:=d
 go_enter func41,ntmps41
 go_upto_region 1 with fail
 rw[d.out];clear d;obtain⟨p,q,r⟩:=q1.cs3
 go_wp2_with fail
 refine(a.out _ g).mono ?_;rintro E x ⟨rfl,h⟩;have k:=q2.l h;have m:=aa g h;clear q1 q2 g h a p q r;have hf:=afy (P:=Tryz.prog) k m (by omega) underlying48 rfl (by kernel_rfl) (.bool false) yN (yi 0);have n:Hid (_∧_):=⟨hf.1,hf.2.1⟩;obtain⟨⟨B,C,D⟩,y,z,A⟩:=afA k;clear hf k m
 go_wp2
 obtain⟨t,o⟩:=n.out;exact bodyPost_ret (aj results41 rfl rfl t) rfl ⟨rfl,o⟩
theorem number_e2 (s:Bool)(f:Option Addr)(j i:Nat)(e b c:Int)(w:World)(x:c=0)(v:b<20)
  (a:yH w 34 #[ydV s (.slice f j i) e] (yi c)):
  yC 41 #[ydV s (.slice f j i) e,yi b] w (yR w (.tuple #[ydV false yN 0,yi 3])):=by
 replace a:Hid _:=a;obtain⟨u,d,q1,q2,g⟩:=iG w (ydL s (.slice f j i) e) 25 (ydL false yN 0) 48;replace d:Hid _:=d
 go_enter func41,ntmps41
 go_upto_region 1 with fail
 rw[d.out];clear d;obtain⟨p,q,r⟩:=q1.cs3
 go_wp2_with fail
 refine(a.out _ g).mono ?_;rintro F y ⟨rfl,h⟩;have k:=q2.l h;have m:=aa g h;clear q1 q2 g h a p q r;have hf:=afy (P:=Tryz.prog) k m (by omega) underlying48 rfl (by kernel_rfl) (.bool false) yN (yi 0);have n:Hid (_∧_):=⟨hf.1,hf.2.1⟩;obtain⟨⟨C,D,E⟩,z,A,B⟩:=afA k;clear hf k m
 go_wp2
 obtain⟨t,o⟩:=n.out;exact bodyPost_ret (aj results41 rfl rfl t) rfl ⟨rfl,o⟩
theorem number_e3 (s:Bool)(f:Option Addr)(j i:Nat)(e b c:Int)(w:World)(y:c=0)(v: ¬b<20)(x:600<b)
  (a:yH w 34 #[ydV s (.slice f j i) e] (yi c)):
  yC 41 #[ydV s (.slice f j i) e,yi b] w (yR w (.tuple #[ydV false yN 0,yi 3])):=by
 replace a:Hid _:=a;obtain⟨u,d,q1,q2,g⟩:=iG w (ydL s (.slice f j i) e) 25 (ydL false yN 0) 48;replace d:Hid _:=d
 go_enter func41,ntmps41
 go_upto_region 1 with fail
 rw[d.out];clear d;obtain⟨p,q,r⟩:=q1.cs3
 go_wp2_with fail
 refine(a.out _ g).mono ?_;rintro G z ⟨rfl,h⟩;have k:=q2.l h;have m:=aa g h;clear q1 q2 g h a p q r;have hf:=afy (P:=Tryz.prog) k m (by omega) underlying48 rfl (by kernel_rfl) (.bool false) yN (yi 0);have n:Hid (_∧_):=⟨hf.1,hf.2.1⟩;obtain⟨⟨D,E,F⟩,A,B,C⟩:=afA k;clear hf k m
 go_wp2
 obtain⟨t,o⟩:=n.out;exact bodyPost_ret (aj results41 rfl rfl t) rfl ⟨rfl,o⟩
theorem number_e4 (x:ak)(s:Bool)(g:Option Addr)(i h:Nat)(e b c n:Int)(w:World)(hc:c=0)(h0: ¬b<20)(h1: ¬600<b)(hn:1200<n)
  (k:yH w 34 #[ydV s (.slice g i h) e] (yi c))
  (o:yJ 36 #[ydV s (.slice g i h) e] (ydV s (.slice g i h) e))
  (j: ∀a,yB w a→yC 73 #[ydV s (.slice g i h) e] a (Lx a x))
  (m: ∀f d a,yC 65 #[yDV x f d] a (yR a (yT f x.n d)))
  (p: ∀f d a,yB w a→Rd a .u32 (yT f x.n d) (Dg.dg 4294967296 x.n)→yC 74 #[yT f x.n d] a (yR a (yi n))):
  yC 41 #[ydV s (.slice g i h) e,yi b] w (yR w (.tuple #[ydV false yN 0,yi 2])):=by
 replace k:Hid _:=k;replace o:Hid _:=o;replace j:Hid _:=j;replace m:Hid _:=m;replace p:Hid _:=p;obtain⟨W4,y,q1,q2,C⟩:=iG w (ydL s (.slice g i h) e) 25 (ydL false yN 0) 48;replace y:Hid _:=y
 go_enter func41,ntmps41
 go_upto_region 1 with fail
 rw[y.out];clear y;obtain⟨c6,c7,c8⟩:=q1.cs3
 go_wp2_with fail
 refine(k.out _ C).mono ?_;rintro z w9 ⟨rfl,r⟩;have N:=q1.l r;have O:=q2.l r;have K:=aa C r;clear q1 q2 C r k c6 c7 c8;obtain⟨Z,a0,a1⟩:=N.cs3
 go_wp2_with fail
 refine(o.out _).mono ?_;rintro z ac ⟨rfl,E⟩;have Q:=O.l E;have A:=aa K E;clear N O K E o Z a0 a1
 go_wp2_with fail
 refine(j.out _ A).mono ?_;rintro z W ⟨a9,rfl,I,F⟩;have G:=Q.l F;have B:=aa A F;obtain⟨f,d,hv⟩:=I.shape;subst hv;clear Q A F j;obtain⟨a6,v,R,q⟩:=cA W (yDL x f d) 48;replace v:Hid _:=v;have a7:w.heap.size≤W.heap.size:=B.size;have a8:=G.lt;have S:=G.l q;have U:=I.l q;have L:=aa B q;clear G I B q
 go_upto_region 7 with fail
 rw[v.out];clear v;obtain⟨a2,a3,a4⟩:=R.cs3
 go_wp2_with fail
 refine(m.out _ _ _).mono ?_;rintro z ad ⟨rfl,t⟩;have T:=S.l t;have J:=U.l t;have D:=aa L t;clear S R U L t m a2 a3 a4
 go_wp2_with fail
 refine(p.out _ _ _ D J).mono ?_;rintro z ae ⟨rfl,u⟩;have H:=T.l u;have a5:=J.l u;have M:=aa D u;clear T J D u p;have hf:=afy (P:=Tryz.prog) H M (by omega) underlying48 rfl (by kernel_rfl) (.bool false) yN (yi 0);have X:Hid (_∧_):=⟨hf.1,hf.2.1⟩;obtain⟨⟨z0,z1,z2⟩,y0,y1,y2⟩:=afA H;clear hf H a5 M
 go_wp2
 obtain⟨hl,Y⟩:=X.out;exact bodyPost_ret (aj results41 rfl rfl hl) rfl ⟨rfl,Y⟩
theorem number_e5 (x:ak)(s:Bool)(g:Option Addr)(i h:Nat)(e b c n:Int)(w:World)(hc:c=0)(h0: ¬b<20)(h1: ¬600<b)(hn: ¬1200<n)(he:x.e< -18000)
  (o:yH w 34 #[ydV s (.slice g i h) e] (yi c))
  (q:yJ 36 #[ydV s (.slice g i h) e] (ydV s (.slice g i h) e))
  (m: ∀a,yB w a→yC 73 #[ydV s (.slice g i h) e] a (Lx a x))
  (p: ∀f d a,yC 65 #[yDV x f d] a (yR a (yT f x.n d)))
  (r: ∀f d a,yB w a→Rd a .u32 (yT f x.n d) (Dg.dg 4294967296 x.n)→yC 74 #[yT f x.n d] a (yR a (yi n))):
  yC 41 #[ydV s (.slice g i h) e,yi b] w (yR w (.tuple #[ydV false yN 0,yi 2])):=by
 replace o:Hid _:=o;replace q:Hid _:=q;replace m:Hid _:=m;replace p:Hid _:=p;replace r:Hid _:=r;obtain⟨W4,y,q1,q2,C⟩:=iG w (ydL s (.slice g i h) e) 25 (ydL false yN 0) 48;replace y:Hid _:=y
 go_enter func41,ntmps41
 go_upto_region 1 with fail
 rw[y.out];clear y;obtain⟨c6,c7,c8⟩:=q1.cs3
 go_wp2_with fail
 refine(o.out _ C).mono ?_;rintro z w9 ⟨rfl,u⟩;have O:=q1.l u;have Q:=q2.l u;have L:=aa C u;clear q1 q2 C u o c6 c7 c8;obtain⟨a0,a1,a2⟩:=O.cs3
 go_wp2_with fail
 refine(q.out _).mono ?_;rintro z ae ⟨rfl,E⟩;have R:=Q.l E;have A:=aa L E;clear O Q L E q a0 a1 a2
 go_wp2_with fail
 refine(m.out _ A).mono ?_;rintro z Y ⟨ad,rfl,J,F⟩;have G:=R.l F;have B:=aa A F;obtain⟨f,d,hv⟩:=J.shape;subst hv;clear R A F m;obtain⟨a7,v,H,t⟩:=cA Y (yDL x f d) 48;replace v:Hid _:=v;have a9:w.heap.size≤Y.heap.size:=B.size;have ac:=G.lt;have S:=G.l t;have X:=J.l t;have M:=aa B t;clear G J B t
 go_upto_region 7 with fail
 rw[v.out];clear v;obtain⟨a3,a4,a5⟩:=H.cs3
 go_wp2_with fail
 refine(p.out _ _ _).mono ?_;rintro z al ⟨rfl,j⟩;have T:=S.l j;have U:=H.l j;have K:=X.l j;have D:=aa M j;clear S H X M j p a3 a4 a5
 go_wp2_with fail
 refine(r.out _ _ _ D K).mono ?_;rintro z an ⟨rfl,k⟩;have I:=T.l k;have W:=U.l k;have a6:=K.l k;have N:=aa D k;clear T U K D k r;have a8:=W.c 2 rfl;have hf:=afy (P:=Tryz.prog) I N (by omega) underlying48 rfl (by kernel_rfl) (.bool false) yN (yi 0);have Z:Hid (_∧_):=⟨hf.1,hf.2.1⟩;obtain⟨⟨z0,z1,z2⟩,y0,y1,y2⟩:=afA I;clear hf I W a6 N
 go_wp2
 obtain⟨hl,bR⟩:=Z.out;exact bodyPost_ret (aj results41 rfl rfl hl) rfl ⟨rfl,bR⟩
theorem number_W (x:ak)(s:Bool)(g:Option Addr)(i h:Nat)(e b c n:Int)(w:World)(hc:c=0)(h0: ¬b<20)(h1: ¬600<b)(hn: ¬1200<n)(he: ¬x.e< -18000)
  (o:yH w 34 #[ydV s (.slice g i h) e] (yi c))
  (q:yJ 36 #[ydV s (.slice g i h) e] (ydV s (.slice g i h) e))
  (m: ∀a,yB w a→yC 73 #[ydV s (.slice g i h) e] a (Lx a x))
  (p: ∀f d a,yC 65 #[yDV x f d] a (yR a (yT f x.n d)))
  (r: ∀f d a,yB w a→Rd a .u32 (yT f x.n d) (Dg.dg 4294967296 x.n)→yC 74 #[yT f x.n d] a (yR a (yi n))):
  yC 41 #[ydV s (.slice g i h) e,yi b] w (NRd w x 0):=by
 replace o:Hid _:=o;replace q:Hid _:=q;replace m:Hid _:=m;replace p:Hid _:=p;replace r:Hid _:=r;obtain⟨W4,y,q1,q2,D⟩:=iG w (ydL s (.slice g i h) e) 25 (ydL false yN 0) 48;replace y:Hid _:=y
 go_enter func41,ntmps41
 go_upto_region 1 with fail
 rw[y.out];clear y;obtain⟨c6,c7,c8⟩:=q1.cs3
 go_wp2_with fail
 refine(o.out _ D).mono ?_;rintro A w9 ⟨rfl,u⟩;have Q:=q1.l u;have R:=q2.l u;have M:=aa D u;clear q1 q2 D u o c6 c7 c8;obtain⟨a0,a1,a2⟩:=Q.cs3
 go_wp2_with fail
 refine(q.out _).mono ?_;rintro A an ⟨rfl,F⟩;have S:=R.l F;have B:=aa M F;clear Q R M F q a0 a1 a2
 go_wp2_with fail
 refine(m.out _ B).mono ?_;rintro A Z ⟨al,rfl,J,G⟩;have H:=S.l G;have C:=aa B G;obtain⟨f,d,hv⟩:=J.shape;subst hv;clear S B G m;obtain⟨a7,v,I,t⟩:=cA Z (yDL x f d) 48;replace v:Hid _:=v;have ad:w.heap.size≤Z.heap.size:=C.size;have ae:=H.lt;have T:=H.l t;have Y:=J.l t;have N:=aa C t;clear H J C t
 go_upto_region 7 with fail
 rw[v.out];clear v;obtain⟨a3,a4,a5⟩:=I.cs3
 go_wp2_with fail
 refine(p.out _ _ _).mono ?_;rintro A ap ⟨rfl,j⟩;have U:=T.l j;have W:=I.l j;have K:=Y.l j;have E:=aa N j;clear T I Y N j p a3 a4 a5
 go_wp2_with fail
 refine(r.out _ _ _ E K).mono ?_;rintro A aq ⟨rfl,k⟩;have z:=U.l k;have X:=W.l k;have L:=K.l k;have O:=aa E k;clear U W K E k r;obtain⟨a8,a9,ac⟩:=X.cs3;have hf:=afy (P:=Tryz.prog) z O (by omega) underlying48 rfl (by kernel_rfl) (.bool x.s) (yT f x.n d) (yi x.e);have HH:Hid (_∧_∧_):=⟨hf.1,hf.2.2.rd L (aX L z (by simp)),hf.2.1⟩;obtain⟨⟨z0,z1,z2⟩,y0,y1,y2⟩:=afA z;clear hf z X L O
 go_wp2
 obtain⟨hl,a6,bR⟩:=HH.out;exact bodyPost_ret (aj results41 rfl rfl hl) rfl ⟨_,rfl,a6,bR⟩
theorem satanh_any (n k:Nat)(w:World)(b:2≤n∧n<65536)(a:k≤60000):yC 112 #[yi n,yi k] w (aeT w (invLo (lp (n*n) 0 (k+1) 0 (2^k/n) 0 0) k) (invHi (lp (n*n) 0 (k+1) 0 (2^k/n) 0 0) k)):=
 sumsAtanh_W _ _ _ _ w (fun c _=>inverse_any n k 0 c b a (.inl rfl))
theorem up_iv (a b:ak)(n:Int):ivT (upT a n) (upT b n)=IvN.scl (p2 n) (ivT a b):=by
 unfold ivT IvN.scl;rw[qT_up,qT_up]
theorem up_ivS (s:ak×ak)(n:Int):ivS (upS s n)=IvN.scl (p2 n) (ivS s):=up_iv _ _ _
theorem around4 (x:Nat→ak)(v: ∀j,RgT 2000000000 2000000000 (x j))(u:Nat)(i o q t:Option Addr)(g m p r:Nat)(d:World)
  (a:au d u 48 [.bool (x 0).s,.slice i (Dg.dg 4294967296 (x 0).n).length g,yi (x 0).e,.bool (x 1).s,.slice o (Dg.dg 4294967296 (x 1).n).length m,yi (x 1).e,.bool (x 2).s,.slice q (Dg.dg 4294967296 (x 2).n).length p,yi (x 2).e,.bool (x 3).s,.slice t (Dg.dg 4294967296 (x 3).n).length r,yi (x 3).e])
  (A:Rd d .u32 (.slice i (Dg.dg 4294967296 (x 0).n).length g) (Dg.dg 4294967296 (x 0).n)) (B:Rd d .u32 (.slice o (Dg.dg 4294967296 (x 1).n).length m) (Dg.dg 4294967296 (x 1).n)) (C:Rd d .u32 (.slice q (Dg.dg 4294967296 (x 2).n).length p) (Dg.dg 4294967296 (x 2).n)) (D:Rd d .u32 (.slice t (Dg.dg 4294967296 (x 3).n).length r) (Dg.dg 4294967296 (x 3).n)):
  yC 100 #[.slice (some ⟨u,0,none⟩) 4 4] d (aeT d (loT x 3) (hiT x 3)):=by
 have f: ∀j,j<4→Rd d .u32 (.slice (four' i o q t j) (Dg.dg 4294967296 (x j).n).length (four' g m p r j)) (Dg.dg 4294967296 (x j).n):=by
  intro j b
  match j,b with
  |0,_=>exact A
  |1,_=>exact B
  |2,_=>exact C
  |3,_=>exact D
 have h:=FN u 4 x (four' i o q t) (four' g m p r) d (by omega) (by omega) a.lt
  (fun j b=>by match j,b with
   |0,_=>exact a.c 0 rfl
   |1,_=>exact a.c 3 rfl
   |2,_=>exact a.c 6 rfl
   |3,_=>exact a.c 9 rfl)
  (fun j b=>by match j,b with
   |0,_=>exact a.c 1 rfl
   |1,_=>exact a.c 4 rfl
   |2,_=>exact a.c 7 rfl
   |3,_=>exact a.c 10 rfl)
  (fun j b=>by match j,b with
   |0,_=>exact a.c 2 rfl
   |1,_=>exact a.c 5 rfl
   |2,_=>exact a.c 8 rfl
   |3,_=>exact a.c 11 rfl)
  (fun j k w b y q2=>dcmp9 _ _ (x j) (x k) w ⟨_,rfl,(f j b).l q2⟩ ⟨_,rfl,(f k y).l q2⟩ (v j) (v k))
 refine h.mono ?_;rintro z w ⟨rfl,q2⟩;exact⟨_,_,rfl,(f (loI x 3) (by have:=tB x 3;omega)).l q2,(f (hiI x 3) (by have:=wN x 3;omega)).l q2,q2⟩
theorem stimes9 (v u:Value)(a b p q:ak)(w:World)(x:SpanV w v a b)(r:SpanV w u p q)(k:Fit9 a)(m:Fit9 b)(n:Fit9 p)(fq:Fit9 q):
  yC 86 #[v,u] w (aeT w (timesS (a,b) (p,q)).1 (timesS (a,b) (p,q)).2):=by
 have y: ∀j,RgT 2000000000 2000000000 (fourT a b p q j):=fun j=>(rg_four (s:=(a,b)) (t:=(p,q)) ⟨k,m⟩ ⟨n,fq⟩ j).mono (by omega) (by omega)
 obtain⟨U,W,rfl,e,f⟩:=x;obtain⟨X,Y,rfl,g,i⟩:=r;obtain⟨H,G,rfl⟩:=e.shape;obtain⟨L,K,rfl⟩:=f.shape;obtain⟨R,Q,rfl⟩:=g.shape;obtain⟨T,S,rfl⟩:=i.shape;obtain⟨M,E,F⟩:=k.all;obtain⟨N,I,J⟩:=m.all;obtain⟨O,p1,p2⟩:=n.all;obtain⟨P,q1,q2⟩:=fq.all;exact spanTimes_W a b p q _ _ _ _ _ _ _ _ (aK a p) (aK a q) (aK b p) (aK b q) _ _ w
  (fun d c=>(Ac _ _ a p d ⟨_,rfl,e.l c⟩ ⟨_,rfl,g.l c⟩ (by omega) (by omega) (by omega) (by omega) (by omega) (by omega)).mono fun _ _ h=>h.vres)
  (fun d c=>(Ac _ _ a q d ⟨_,rfl,e.l c⟩ ⟨_,rfl,i.l c⟩ (by omega) (by omega) (by omega) (by omega) (by omega) (by omega)).mono fun _ _ h=>h.vres)
  (fun d c=>(Ac _ _ b p d ⟨_,rfl,f.l c⟩ ⟨_,rfl,g.l c⟩ (by omega) (by omega) (by omega) (by omega) (by omega) (by omega)).mono fun _ _ h=>h.vres)
  (fun d c=>(Ac _ _ b q d ⟨_,rfl,f.l c⟩ ⟨_,rfl,i.l c⟩ (by omega) (by omega) (by omega) (by omega) (by omega) (by omega)).mono fun _ _ h=>h.vres)
  (fun D a0 a4 a6 a8 Z a3 a5 a7 d _ o z A B C=>around4 (fourT a b p q) y D _ _ _ _ _ _ _ _ d o z A B C)
theorem sgreat9 (v:Value)(a b:ak)(w:World)(O:SpanV w v a b)(J:Fit9 a)(K:Fit9 b):
  yC 114 #[v] w (yR w (if(grS (a,b)).n=0 then .tuple #[yi 0,.bool false] else .tuple #[yi ((bitLen (grS (a,b)).n:Int)+(grS (a,b)).e),.bool true])):=by
 obtain⟨U,W,rfl,D,E⟩:=O;obtain⟨s,r,rfl⟩:=D.shape;obtain⟨u,t,rfl⟩:=E.shape;obtain⟨x,C⟩: ∃x:Nat→ak,(fun i=>if i=0 then sizeT a else sizeT b)=x:=⟨_,rfl⟩
 have p:x 0=sizeT a:=by rw[←C];rfl
 have q:x 1=sizeT b:=by rw[←C];rfl
 have M:grS (a,b)=hiT x 1:=by rw[←C];rfl
 have B: ∀j,j≤1→Fit9 (x j):=fun j f=>by
  match j,f with
  |0,_=>rw[p];exact J
  |1,_=>rw[q];exact K
 have F: ∀A d,yB w d→au d A 48 [.bool false,yT s a.n r,yi a.e,.bool false,yT u b.n t,yi b.e]→Rd d .u32 (yT s a.n r) (Dg.dg 4294967296 a.n)→Rd d .u32 (yT u b.n t) (Dg.dg 4294967296 b.n)→yC 100 #[.slice (some ⟨A,0,none⟩) 2 2] d (aeT d (loT x 1) (hiT x 1)):=fun A d _ g P Q=>by
  have y: ∀j,j<2→Rd d .u32 (.slice (four' s u none none j) (Dg.dg 4294967296 (x j).n).length (four' r t 0 0 j)) (Dg.dg 4294967296 (x j).n):=by
   intro j f
   match j,f with
   |0,_=>rw[p];exact P
   |1,_=>rw[q];exact Q
  have h:=FN A 2 x (four' s u none none) (four' r t 0 0) d (by omega) (by omega) g.lt
   (fun j f=>by match j,f with
    |0,_=>rw[p];exact g.c 0 rfl
    |1,_=>rw[q];exact g.c 3 rfl)
   (fun j f=>by match j,f with
    |0,_=>rw[p];exact g.c 1 rfl
    |1,_=>rw[q];exact g.c 4 rfl)
   (fun j f=>by match j,f with
    |0,_=>rw[p];exact g.c 2 rfl
    |1,_=>rw[q];exact g.c 5 rfl)
   (fun j k m f N q2=>dcmp9 _ _ (x j) (x k) m ⟨_,rfl,(y j f).l q2⟩ ⟨_,rfl,(y k N).l q2⟩ ((B j (by omega)).mono (by omega) (by omega)) ((B k (by omega)).mono (by omega) (by omega)))
  refine h.mono ?_;rintro z m ⟨rfl,q2⟩;exact⟨_,_,rfl,(y (loI x 1) (by have:=tB x 1;omega)).l q2,(y (hiI x 1) (by have:=wN x 1;omega)).l q2,q2⟩
 have G:Fit9 (hiT x 1):=RgT.hi B;obtain⟨lg,R,S⟩:=G.all;have T:bitLen (hiT x 1).n≤2000000000:=by have:=G.2;omega
 rw[M]
 by_cases c:(hiT x 1).n=0
 ·rw[if_pos c]
  exact great_none a b _ _ _ _ (loT x 1) (hiT x 1) 0 w D E rfl (fun d=>dsize_W a _ _ d) (fun d=>dsize_W b _ _ d) F (fun I H d _ o=>by
   have:=qB _ (hiT x 1) d ⟨_,rfl,o⟩
   rwa [show dJ (hiT x 1)=0 by unfold dJ;rw[if_pos c]] at this)
 ·rw[if_neg c]
  refine great_some a b _ _ _ _ (loT x 1) (hiT x 1) (dJ (hiT x 1)) _ w D E (by unfold dJ;rw[if_neg c];split<;>omega) (fun d=>dsize_W a _ _ d) (fun d=>dsize_W b _ _ d) F (fun I H d _ o=>qB _ (hiT x 1) d ⟨_,rfl,o⟩)
   (fun I H d _ o=>dtop_W (hiT x 1) _ _ (bitLen (hiT x 1).n:Int) _ d (IntWalk.i64_in _ ⟨by omega,by omega⟩) (fun m=>cN _ _ _ _ _ m) (fun m L=>by
    have:=kE _ _ m (o.l L) (Dg.small_dg _ _ (by omega)) (Dg.norm_dg _ _ (by omega)) (by omega);rw[Dg.vl_dg _ _ (by omega)] at this;refine this.mono ?_;rintro z X ⟨rfl,rfl⟩;exact⟨rfl,Below.refl _ _⟩))
theorem expNext_any (k:Nat)(w:World):yC 80 #[yi ((k+1:Nat):Int)] w (yR w (.tuple #[yi ((nxE (k+1)).1:Int),yi ((nxE (k+1)).2:Int)])):=by
 go_enter func80,ntmps80
 go_wp2
 go_ret2
 exact⟨rfl,Below.refl _ _⟩
theorem F7.l {w w':World}{n:Int}{g:Option Nat}{p:ByteArray}{v:Value}(h:F7 w n g p v)(a:yB w w'):F7 w' n g p v:=⟨h.1,h.2.1.l a,h.2.2⟩
theorem sF.l {w w':World}{n:Int}{b:List ByteArray}{g cap:Nat}(h:sF w n b g cap)(a:yB w w'):sF w' n b g cap:=
 ⟨h.fit,h.most,fun i p e=>by
  obtain⟨j,f,c,d⟩:=h.each i p e;exact⟨j,f,aC c a,d.l a⟩⟩
end Go.Proofs.YthhiidikgchdeabGreatDoor
