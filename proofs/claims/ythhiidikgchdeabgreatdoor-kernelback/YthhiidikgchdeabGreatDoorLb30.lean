/- Texts laid together. -/
import Derived.Test.YthhiidikgchdeabGreatDoorLb12
import Derived.Test.YthhiidikgchdeabGreatDoorLb18
import Derived.Test.YthhiidikgchdeabGreatDoorLb20
set_option maxRecDepth 100000
set_option maxHeartbeats 3200000
namespace Go.Proofs.YthhiidikgchdeabGreatDoor
open _root_.Go.Proofs.Tryz
open Go.RowKit
theorem Nt (s:Bool)(a:Option Addr)(c g:Nat)(e:Int)(t:Bool)(b:Option Addr)(d h:Nat)(f:Int)(n:Int)(x y:ak)(w:World)
  (P: ∀i,yB w i→yC 94 #[ydV s (.slice a g c) e,yi n,.bool false] i (Lx i x))
  (O: ∀i,yB w i→yC 94 #[ydV t (.slice b h d) f,yi n,.bool true] i (Lx i y)):
  yC 55 #[.agg #[.bool s,.slice a g c,yi e,.bool t,.slice b h d,yi f],yi n] w (aeT w x y):=by
 have Z:Hid _:=P;have H2:Hid _:=O;clear P O;obtain⟨xs,B,A⟩:=x;obtain⟨E,D,C⟩:=y;have M:=(aJ w (.bool s) (.slice a g c) (yi e) (.bool t) (.slice b h d) (yi f) 54).l (af _ (.cells #[.bool false,yN,yi 0,.bool false,yN,yi 0] 54));have H:=aJ (w.alloc (.cells #[.bool s,.slice a g c,yi e,.bool t,.slice b h d,yi f] 54)) (.bool false) yN (yi 0) (.bool false) yN (yi 0) 54;have I:=pM (w.alloc (.cells #[.bool s,.slice a g c,yi e,.bool t,.slice b h d,yi f] 54)) 54;have J:=aa (af w (.cells #[.bool s,.slice a g c,yi e,.bool t,.slice b h d,yi f] 54)) (af _ (.cells #[.bool false,yN,yi 0,.bool false,yN,yi 0] 54));simp only[World.size_alloc] at H I;obtain⟨W,K⟩: ∃W,((w.alloc (.cells #[.bool s,.slice a g c,yi e,.bool t,.slice b h d,yi f] 54)).alloc (.cells #[.bool false,yN,yi 0,.bool false,yN,yi 0] 54))=W:=⟨_,rfl⟩;rw[K] at M H I J;have o:yB W W.drew:=(Below.refl _ _).drew;have N:=M.l o;have Q:=H.l o;have X:=I.l o;have k:=aa J o;rw[←K] at N Q X k;clear M H I J o K;obtain⟨-,⟨c0,c1,c2,c3,c4,c5⟩,-⟩:=id N;have a2:w.heap.size+1≠w.heap.size:=by omega
 have a3:w.heap.size≠w.heap.size+1:=by omega
 go_enter func55,ntmps55
 go_wp2_with fail
 go_region_held3 (fun j=>j.cell? ⟨w.heap.size,0,none⟩=some (.bool s)∧j.cell? ⟨w.heap.size,1,none⟩=some (.slice a g c)∧j.cell? ⟨w.heap.size,2,none⟩=some (yi e)∧j.cell? ⟨w.heap.size,3,none⟩=some (.bool t)∧j.cell? ⟨w.heap.size,4,none⟩=some (.slice b h d)∧j.cell? ⟨w.heap.size,5,none⟩=some (yi f)) (go_keep) (first
  | (go_at_call 94;have L:=k;clear L;refine(Z.out _ k).mono ?_;rintro z w3 ⟨v3,rfl,T,G⟩;have S:=N.l G;have k3:=Q.l G;have z3:=X.l G;have F:=aa k G;obtain⟨q,p,hp⟩:=T.shape;subst hp;obtain⟨-,⟨d0,d1,d2,d3,d4,d5⟩,-⟩:=id S;clear k)
  | (go_at_call 94;have L:=F;clear L;refine(H2.out _ F).mono ?_;rintro z w4 ⟨v4,rfl,U,m⟩;have a1:=T.l m;have l4:=S.l m;have R:=k3.l m;have Y:=z3.l m;have a0:=aa F m;obtain⟨u,r,hq⟩:=U.shape;subst hq;obtain⟨-,⟨e0,e1,e2,e3,e4,e5⟩,-⟩:=id l4;obtain⟨hl,⟨v0,v1,v2,v3,v4,v5⟩,f0,f1,f2,f3,f4,f5⟩:=id R;clear F))
 all_goals go_wp2
 obtain⟨-,⟨u0,u1,u2,u3,u4,u5⟩,-⟩:=bP R (.bool xs) (yT q B p) (yi A) (.bool E) (yT u D r) (yi C);have bb:=aW a0 (show w.heap.size≤w.heap.size+1 by omega) (.bool xs) (yT q B p) (yi A) (.bool E) (yT u D r) (yi C)
 have r5:=Y.rd32 a1 (.bool xs) (yT q B p) (yi A) (.bool E) (yT u D r) (yi C);have r6:=Y.rd32 U (.bool xs) (yT q B p) (yi A) (.bool E) (yT u D r) (yi C);refine bodyPost_ret (v:= .agg #[.bool xs,yT q B p,yi A,.bool E,yT u D r,yi C]) (by simp[results,results55,go_sem,u0,u1,u2,u3,u4,u5]) rfl ?_;exact⟨_,_,rfl,r5,r6,bb⟩
theorem FN (b:Nat)(m:Nat)(x:Nat→ak)(a:Nat→Option Addr)(d:Nat→Nat)(w:World)(hm:2≤m)(b6:m≤4)(hb:b<w.heap.size)
  (Z: ∀j,j<m→w.cell? ⟨b,3*j,none⟩=some (.bool (x j).s)) (h1: ∀j,j<m→w.cell? ⟨b,3*j+1,none⟩=some (.slice (a j) (Dg.dg 4294967296 (x j).n).length (d j))) (h2: ∀j,j<m→w.cell? ⟨b,3*j+2,none⟩=some (yi (x j).e))
  (HC: ∀j k o,j<m→k<m→yB w o→yC 42 #[.agg #[.bool (x j).s,.slice (a j) (Dg.dg 4294967296 (x j).n).length (d j),yi (x j).e],.agg #[.bool (x k).s,.slice (a k) (Dg.dg 4294967296 (x k).n).length (d k),yi (x k).e]] o (yR o (yi (bJ (x j) (x k))))):
  yC 100 #[.slice (some ⟨b,0,none⟩) m m] w (ac8 w x a d (loI x (m-1)) (hiI x (m-1))):=by
 have a9:w.cell? ⟨b,0,none⟩=some (.bool (x 0).s):=Z 0 (by omega);have ac:w.cell? ⟨b,1,none⟩=some (.slice (a 0) (Dg.dg 4294967296 (x 0).n).length (d 0)):=h1 0 (by omega);have ad:w.cell? ⟨b,2,none⟩=some (yi (x 0).e):=h2 0 (by omega);have aq:Hid _:=Z;have ar:Hid _:=h1;have av:Hid _:=h2;have Q:Hid _:=HC;clear Z h1 h2 HC;have n1:b≠w.heap.size:=by omega
 have b5:(0:Int)< (m:Int):=by omega
 have LS: ∀P W,yB w W→mL W P (.bool (x 0).s) (.slice (a 0) (Dg.dg 4294967296 (x 0).n).length (d 0)) (yi (x 0).e) (.bool (x 0).s) (.slice (a 0) (Dg.dg 4294967296 (x 0).n).length (d 0)) (yi (x 0).e)→mL W w.heap.size (.bool false) yN (yi 0) (.bool false) yN (yi 0)→Sz w m x a d P (yi 0) W:=
  fun P W hB hP hK=>⟨0,by omega,rfl,hB,hP,hK⟩
 have S:Hid _:=LS;clear LS;obtain⟨s,hs⟩: ∃s,(x 0).s=s:=⟨_,rfl⟩;obtain⟨q,a1⟩: ∃s,a 0=s:=⟨_,rfl⟩;obtain⟨t,a2⟩: ∃s,d 0=s:=⟨_,rfl⟩;obtain⟨y,a3⟩: ∃s,(Dg.dg 4294967296 (x 0).n).length=s:=⟨_,rfl⟩;obtain⟨e,he⟩: ∃s,(x 0).e=s:=⟨_,rfl⟩;rw[hs,a1,a2,a3,he] at S;rw[hs] at a9;rw[a1,a2,a3] at ac;rw[he] at ad;clear hs a1 a2 a3 he;have k0:=aJ w (.bool false) yN (yi 0) (.bool false) yN (yi 0) 54;have b0:=af w (.cells #[.bool false,yN,yi 0,.bool false,yN,yi 0] 54)
 go_enter func100,ntmps100
 go_wp2_with fail
 refine(Qy s q y t e _).mono ?_;rintro z o ⟨rfl,L⟩;have p:=af o (.cells #[.bool s,.slice q y t,yi e,.bool s,.slice q y t,yi e] 54);have p1:=aJ o (.bool s) (.slice q y t) (yi e) (.bool s) (.slice q y t) (yi e) 54;have k2:=(k0.l L).l p;have ax:w.heap.size<o.heap.size:=(k0.l L).1;have a8:=aa (aa b0 L) p;have K:=S.out _ _ a8 p1 k2;clear k0 b0 L p p1 k2 a8 S a9 ac ad n1
 go_wp2_with fail
 generalize o.heap.size=P at ax K⊢;generalize(o.alloc (.cells #[.bool s,.slice q y t,yi e,.bool s,.slice q y t,yi e] 54))=W at K⊢;have b7:P≠w.heap.size:=by omega
 have b8:w.heap.size≤P:=by omega
 go_loopw [13] (Sz w m x a d P) (fun iv _=>m-(intOf iv).toNat)
 case atStart=>exact K
 case round=>
  clear K;obtain⟨i,hi,rfl,G,lp,N⟩:=hrel
  by_cases C:i+1<m
  ·have d0:wr.cell? ⟨b,3+i*3,none⟩=some (.bool (x (i+1)).s):=by rw[show 3+i*3=3*(i+1) by omega];exact cell_later G (aq.out (i+1) C)
   have d1:wr.cell? ⟨b,3+i*3+1,none⟩=some (.slice (a (i+1)) (Dg.dg 4294967296 (x (i+1)).n).length (d (i+1))):=by rw[show 3+i*3=3*(i+1) by omega];exact cell_later G (ar.out (i+1) C)
   have d2:wr.cell? ⟨b,3+i*3+2,none⟩=some (yi (x (i+1)).e):=by rw[show 3+i*3=3*(i+1) by omega];exact cell_later G (av.out (i+1) C)
   have az:=tB x i;have b3:=wN x i;have p:=af wr (.cells #[.bool (x (i+1)).s,.slice (a (i+1)) (Dg.dg 4294967296 (x (i+1)).n).length (d (i+1)),yi (x (i+1)).e] 48);have r1:=aA wr (.bool (x (i+1)).s) (.slice (a (i+1)) (Dg.dg 4294967296 (x (i+1)).n).length (d (i+1))) (yi (x (i+1)).e) 48;have T:=aa G p;have al:P≠wr.heap.size:=by have:=lp.1;omega
   have a5:=mL.l lp p;have an:=N.l p;clear lp N p;obtain⟨-,⟨p0,p1,p2,-⟩,-⟩:=id a5
   go_wp2_with fail
   refine(Q.out (i+1) (loI x i) _ C (by omega) T).mono ?_;rintro z w2 ⟨rfl,F⟩;have H:=aa T F;have D:=mL.l a5 F;have O:=an.l F;have E:=r1.l F;clear p0 p1 p2 a5 an r1 F T d0 d1 d2;generalize wr.heap.size=R at al E⊢;obtain⟨-,⟨e0,e1,e2⟩,-⟩:=id E
   by_cases M:bJ (x (i+1)) (x (loI x i))<0
   ·have I:=DN M
    generalize bJ (x (i+1)) (x (loI x i))=c1 at M⊢;obtain⟨b9,⟨p0,p1,p2,-⟩,f0,f1,f2,-⟩:=id D;have a6:=abg D (.bool (x (i+1)).s) (.slice (a (i+1)) (Dg.dg 4294967296 (x (i+1)).n).length (d (i+1))) (yi (x (i+1)).e);have r3:=E.apart (c:=P) al (.bool (x (i+1)).s) (.slice (a (i+1)) (Dg.dg 4294967296 (x (i+1)).n).length (d (i+1))) (yi (x (i+1)).e);have ap:=O.apart3 (c:=P) (by omega) (.bool (x (i+1)).s) (.slice (a (i+1)) (Dg.dg 4294967296 (x (i+1)).n).length (d (i+1))) (yi (x (i+1)).e);have U:=am H (b:=P) (by omega) (.bool (x (i+1)).s) (.slice (a (i+1)) (Dg.dg 4294967296 (x (i+1)).n).length (d (i+1))) (yi (x (i+1)).e);obtain⟨-,⟨J,q1,q2,q3,q4,q5⟩,-⟩:=id a6;obtain⟨-,⟨s0,s1,s2⟩,-⟩:=id r3;clear D O E H
    go_wp2_with fail
    refine(Q.out (i+1) (hiI x i) _ C (by omega) U).mono ?_;rintro z w4 ⟨rfl,f⟩;have r:=aa U f;have h:=a6.l f;have A:=ap.l f;have B:=r3.l f;clear a6 ap r3 U f J q1 q2 q3 q4 q5 s0 s1 s2;obtain⟨-,⟨t0,t1,t2⟩,-⟩:=id B
    by_cases g:0<bJ (x (i+1)) (x (hiI x i))
    ·have u:=uP g
     generalize bJ (x (i+1)) (x (hiI x i))=Y at g⊢;obtain⟨ay,⟨-,-,-,J,q1,q2⟩,-,-,-,g0,g1,g2⟩:=id h;have a7:=Sy h (.bool (x (i+1)).s) (.slice (a (i+1)) (Dg.dg 4294967296 (x (i+1)).n).length (d (i+1))) (yi (x (i+1)).e);have a4:=A.apart3h (c:=P) (by omega) (.bool (x (i+1)).s) (.slice (a (i+1)) (Dg.dg 4294967296 (x (i+1)).n).length (d (i+1))) (yi (x (i+1)).e);have X:=Dd r (b:=P) (by omega) (.bool (x (i+1)).s) (.slice (a (i+1)) (Dg.dg 4294967296 (x (i+1)).n).length (d (i+1))) (yi (x (i+1)).e);clear h A B r
     go_wp2
     go_roundw
     case rel=>exact⟨i+1,by omega,by go_num,X,by rw[I,u];exact a7,a4⟩
     case measure=>simp[intOf];omega
    ·have u:=uQ g
     generalize bJ (x (i+1)) (x (hiI x i))=Y at g⊢;clear B
     go_wp2
     go_roundw
     case rel=>exact⟨i+1,by omega,by go_num,r,by rw[I,u];exact h,A⟩
     case measure=>simp[intOf];omega
   ·have I:=DO M
    generalize bJ (x (i+1)) (x (loI x i))=c1 at M⊢;obtain⟨-,⟨-,-,-,J,q1,q2⟩,-⟩:=id D
    go_wp2_with fail
    refine(Q.out (i+1) (hiI x i) _ C (by omega) H).mono ?_;rintro z w4 ⟨rfl,f⟩;have r:=aa H f;have h:=mL.l D f;have A:=O.l f;have B:=E.l f;clear D O E H f J q1 q2;obtain⟨-,⟨t0,t1,t2⟩,-⟩:=id B
    by_cases g:0<bJ (x (i+1)) (x (hiI x i))
    ·have u:=uP g
     generalize bJ (x (i+1)) (x (hiI x i))=Y at g⊢;obtain⟨ay,⟨-,-,-,J,q1,q2⟩,-,-,-,g0,g1,g2⟩:=id h;have a7:=Sy h (.bool (x (i+1)).s) (.slice (a (i+1)) (Dg.dg 4294967296 (x (i+1)).n).length (d (i+1))) (yi (x (i+1)).e);have a4:=A.apart3h (c:=P) (by omega) (.bool (x (i+1)).s) (.slice (a (i+1)) (Dg.dg 4294967296 (x (i+1)).n).length (d (i+1))) (yi (x (i+1)).e);have X:=Dd r (b:=P) (by omega) (.bool (x (i+1)).s) (.slice (a (i+1)) (Dg.dg 4294967296 (x (i+1)).n).length (d (i+1))) (yi (x (i+1)).e);clear h A B r
     go_wp2
     go_roundw
     case rel=>exact⟨i+1,by omega,by go_num,X,by rw[I,u];exact a7,a4⟩
     case measure=>simp[intOf];omega
    ·have u:=uQ g
     generalize bJ (x (i+1)) (x (hiI x i))=Y at g⊢;clear B
     go_wp2
     go_roundw
     case rel=>exact⟨i+1,by omega,by go_num,r,by rw[I,u];exact h,A⟩
     case measure=>simp[intOf];omega
  ·have ae:m-1=i:=by omega
   rw[ae];unfold Yu at lp;unfold ac8;obtain⟨-,⟨p0,p1,p2,p3,p4,p5⟩,-⟩:=id lp;obtain⟨hl,⟨v0,v1,v2,v3,v4,v5⟩,f0,f1,f2,f3,f4,f5⟩:=id N
   go_wp2
   obtain⟨-,⟨u0,u1,u2,u3,u4,u5⟩,-⟩:=bP N (.bool (x (loI x i)).s) (.slice (a (loI x i)) (Dg.dg 4294967296 (x (loI x i)).n).length (d (loI x i))) (yi (x (loI x i)).e) (.bool (x (hiI x i)).s) (.slice (a (hiI x i)) (Dg.dg 4294967296 (x (hiI x i)).n).length (d (hiI x i))) (yi (x (hiI x i)).e);have bb:=aW G (show w.heap.size≤w.heap.size by omega) (.bool (x (loI x i)).s) (.slice (a (loI x i)) (Dg.dg 4294967296 (x (loI x i)).n).length (d (loI x i))) (yi (x (loI x i)).e) (.bool (x (hiI x i)).s) (.slice (a (hiI x i)) (Dg.dg 4294967296 (x (hiI x i)).n).length (d (hiI x i))) (yi (x (hiI x i)).e)
   refine bodyPost_ret (v:= .agg #[.bool (x (loI x i)).s,.slice (a (loI x i)) (Dg.dg 4294967296 (x (loI x i)).n).length (d (loI x i)),yi (x (loI x i)).e,.bool (x (hiI x i)).s,.slice (a (hiI x i)) (Dg.dg 4294967296 (x (hiI x i)).n).length (d (hiI x i)),yi (x (hiI x i)).e]) (by simp[results,results100,go_sem,u0,u1,u2,u3,u4,u5]) rfl ?_;rw[ae];exact⟨rfl,bb⟩
theorem spanPlus_W (a b p q:ak)(u B D G:Option Addr)(t A C F:Nat)(x y:ak)(w:World)
  (H: ∀k,yB w k→yC 32 #[yDV a u t,yDV p D C] k (Lx k x))
  (I: ∀k,yB w k→yC 32 #[yDV b B A,yDV q G F] k (Lx k y)):
  yC 87 #[.agg #[.bool a.s,yT u a.n t,yi a.e,.bool b.s,yT B b.n A,yi b.e],.agg #[.bool p.s,yT D p.n C,yi p.e,.bool q.s,yT G q.n F,yi q.e]] w (aeT w x y):=by
 replace H:Hid _:=H;replace I:Hid _:=I;obtain⟨Q,L,q1,q2,q3,b4⟩:=lG w [.bool a.s,yT u a.n t,yi a.e,.bool b.s,yT B b.n A,yi b.e] 54 [.bool p.s,yT D p.n C,yi p.e,.bool q.s,yT G q.n F,yi q.e] 54 [.bool false,yN,yi 0,.bool false,yN,yi 0] 54;replace L:Hid _:=L
 go_enter func87,ntmps87
 go_upto_region 1 with fail
 rw[L.out];clear L
 go_upto_region 1 with fail
 have v:yB Q Q.drew:=(Below.refl _ _).drew;have M:=q1.l v;have N:=q2.l v;have U:=q3.l v;have J:=aa b4 v;clear q1 q2 q3 b4 v;refine wp_region_held_drew (S:=fun wq=>au wq w.heap.size 54 [.bool a.s,yT u a.n t,yi a.e,.bool b.s,yT B b.n A,yi b.e]∧au wq (w.heap.size+1) 54 [.bool p.s,yT D p.n C,yi p.e,.bool q.s,yT G q.n F,yi q.e]) (by kernel_rfl) ⟨M,N⟩ (fun c=> ?_)
 generalize Q.drew=aq at M N U J c⊢;refine tq 0 (.pointer (some ⟨w.heap.size,0,none⟩)) rfl (fun _ _=>by kernel_rfl) c ?_
 refine tq 1 (yDV a u t) rfl (fun _ j=>fy 48 (.tmp 5) rfl w.heap.size 0 (by kernel_rfl) _ _ (kY j.1 0 3 rfl) underlying48 rfl (by kernel_rfl)) c ?_
 refine tq 2 (.pointer (some ⟨w.heap.size+1,0,none⟩)) rfl (fun _ _=>by kernel_rfl) c ?_
 refine tq 3 (yDV p D C) rfl (fun _ j=>fy 48 (.tmp 7) rfl (w.heap.size+1) 0 (by kernel_rfl) _ _ (kY j.2 0 3 rfl) underlying48 rfl (by kernel_rfl)) c ?_
 refine tq 5 (.pointer (some ⟨w.heap.size,3,none⟩)) rfl (fun _ _=>by kernel_rfl) c ?_
 refine tq 6 (yDV b B A) rfl (fun _ j=>fy 48 (.tmp 10) rfl w.heap.size 3 (by kernel_rfl) _ _ (kY j.1 3 3 rfl) underlying48 rfl (by kernel_rfl)) c ?_
 refine tq 7 (.pointer (some ⟨w.heap.size+1,3,none⟩)) rfl (fun _ _=>by kernel_rfl) c ?_
 refine tq 8 (yDV q G F) rfl (fun _ j=>fy 48 (.tmp 12) rfl (w.heap.size+1) 3 (by kernel_rfl) _ _ (kY j.2 3 3 rfl) underlying48 rfl (by kernel_rfl)) c ?_
 refine wpAnyH_ready (rs:=[4]) (by kernel_rfl) (by simp) ?_;refine AllReadyH.cons rfl (fun K d=> ?_) AllReadyH.nil
 go_simp
 refine(H.out _ J).mono ?_;rintro zz ax ⟨ar,rfl,a0,z⟩;have W:=M.l z;have X:=N.l z;have a6:=U.l z;have R:=aa J z;obtain⟨g,f,T⟩:=a0.shape;subst T;clear M N U J z H;refine d.out _ _ ⟨W,X⟩ (fun al=> ?_)
 clear d K;refine wpAnyH_ready (rs:=[9]) (by kernel_rfl) (by simp) ?_;refine AllReadyH.cons rfl (fun K d=> ?_) AllReadyH.nil
 go_simp
 refine(I.out _ R).mono ?_;rintro zz r ⟨av,rfl,O,m⟩;have Y:=W.l m;have Z:=X.l m;have E:=a6.l m;have a1:=a0.l m;have a2:=aa R m;obtain⟨i,h,T⟩:=O.shape;subst T;clear W X a6 a0 R m I;refine d.out _ _ ⟨Y,Z⟩ (fun a4=> ?_)
 clear d K;refine tq 10 (.agg #[.bool x.s,yT g x.n f,yi x.e,.bool y.s,yT i y.n h,yi y.e]) rfl (fun _ _=>by kernel_rfl) a4 ?_
 refine wpAnyH_ready (rs:=[11]) (by kernel_rfl) (by simp) ?_;refine AllReadyH.cons rfl (fun K d=> ?_) AllReadyH.nil
 have o:But (w.heap.size+1+1) r (r.setCells (w.heap.size+1+1) 0 [.bool x.s,yT g x.n f,yi x.e,.bool y.s,yT i y.n h,yi y.e]):=de _ _ _ _;have a5:r.there (w.heap.size+1+1) 0 6:=dD E;have a7:au (r.setCells (w.heap.size+1+1) 0 [.bool x.s,yT g x.n f,yi x.e,.bool y.s,yT i y.n h,yi y.e]) (w.heap.size+1+1) 54 [.bool x.s,yT g x.n f,yi x.e,.bool y.s,yT i y.n h,yi y.e]:=E.sets _ rfl;have ad:=o.rd a1 (aX a1 E (by simp));have ae:=o.rd O (aX O E (by simp));have a8:=o.loc Y (by omega);have a9:=o.loc Z (by omega);have a3:=o.below a2 (by omega);rw[if_pos (by kernel_rfl)];refine wp_store_mid 54 (.tmp 4) (.tmp 15) rfl (w.heap.size+1+1) 0 #[.bool x.s,yT g x.n f,yi x.e,.bool y.s,yT i y.n h,yi y.e] (by kernel_rfl) (by kernel_rfl) a5 (by kernel_rfl) (by simp[Value.oneCell']) ?_;refine d.out _ _ ⟨a8,a9⟩ (fun an=> ?_)
 clear d K;clear E a1 O Y Z a2 o a5;refine wpAnyH_done (by kernel_rfl) ?_ _;clear c al a4 an;change Exit.then _ _ _ _ (World.setCells r (w.heap.size+1+1) 0 [.bool x.s,yT g x.n f,yi x.e,.bool y.s,yT i y.n h,yi y.e]);generalize World.setCells r (w.heap.size+1+1) 0 [.bool x.s,yT g x.n f,yi x.e,.bool y.s,yT i y.n h,yi y.e]=ap at a8 a9 a7 ad ae a3⊢;simp only[Act.put,List.getElem_toArray,List.getElem_cons_succ,List.getElem_cons_zero];have hl:=run_loadVar_mid (P:=Tryz.prog) _ (w.heap.size+1+1) 0 54 [.bool x.s,yT g x.n f,yi x.e,.bool y.s,yT i y.n h,yi y.e] _ a7.range underlying54 rfl (by kernel_rfl)
 go_wp2
 exact bodyPost_ret (br results87 rfl hl) rfl ⟨_,_,rfl,ad,ae,a3⟩
theorem spanOver_W (a b p q:ak)(E H J M:Option Addr)(D G I L:Nat)(i j m o x y u v:ak)(k:Int)(w:World)
  (H0: ∀c,yB w c→yC 110 #[yDV a E D,yDV p J I,yi k] c (Lx c i))
  (H1: ∀c,yB w c→yC 110 #[yDV a E D,yDV q M L,yi k] c (Lx c j))
  (H2: ∀c,yB w c→yC 110 #[yDV b H G,yDV p J I,yi k] c (Lx c m))
  (H3: ∀c,yB w c→yC 110 #[yDV b H G,yDV q M L,yi k] c (Lx c o))
  (HA: ∀pb X Z a1 a3 W Y a0 a2 c,yB w c→au c pb 48 [.bool i.s,yT X i.n W,yi i.e,.bool j.s,yT Z j.n Y,yi j.e,.bool m.s,yT a1 m.n a0,yi m.e,.bool o.s,yT a3 o.n a2,yi o.e]→Rd c .u32 (yT X i.n W) (Dg.dg 4294967296 i.n)→Rd c .u32 (yT Z j.n Y) (Dg.dg 4294967296 j.n)→Rd c .u32 (yT a1 m.n a0) (Dg.dg 4294967296 m.n)→Rd c .u32 (yT a3 o.n a2) (Dg.dg 4294967296 o.n)→yC 100 #[.slice (some ⟨pb,0,none⟩) 4 4] c (aeT c x y))
  (HC: ∀xo xc yo yc c,yB w c→Rd c .u32 (yT xo x.n xc) (Dg.dg 4294967296 x.n)→Rd c .u32 (yT yo y.n yc) (Dg.dg 4294967296 y.n)→yC 55 #[.agg #[.bool x.s,yT xo x.n xc,yi x.e,.bool y.s,yT yo y.n yc,yi y.e],yi k] c (aeT c u v)):
  yC 83 #[.agg #[.bool a.s,yT E a.n D,yi a.e,.bool b.s,yT H b.n G,yi b.e],.agg #[.bool p.s,yT J p.n I,yi p.e,.bool q.s,yT M q.n L,yi q.e],yi k] w (aeT w u v):=by
 replace H0:Hid _:=H0;replace H1:Hid _:=H1;replace H2:Hid _:=H2;replace H3:Hid _:=H3;replace HA:Hid _:=HA;replace HC:Hid _:=HC;obtain⟨W5,a9,q1,q2,q3,b4⟩:=lG w [.bool a.s,yT E a.n D,yi a.e,.bool b.s,yT H b.n G,yi b.e] 54 [.bool p.s,yT J p.n I,yi p.e,.bool q.s,yT M q.n L,yi q.e] 54 [.bool false,yN,yi 0,.bool false,yN,yi 0] 54;replace a9:Hid _:=a9
 go_enter func83,ntmps83
 go_upto_region 1 with fail
 rw[a9.out];clear a9
 go_upto_region 1 with fail
 have a4:yB W5 W5.drew:=(Below.refl _ _).drew;have q8:=q1.l a4;have q9:=q2.l a4;have b8:=q3.l a4;have a7:=aa b4 a4;clear q1 q2 q3 b4 a4;refine wp_region_held_drew (S:=fun wq=>au wq w.heap.size 54 [.bool a.s,yT E a.n D,yi a.e,.bool b.s,yT H b.n G,yi b.e]∧au wq (w.heap.size+1) 54 [.bool p.s,yT J p.n I,yi p.e,.bool q.s,yT M q.n L,yi q.e]) (by kernel_rfl) ⟨q8,q9⟩ (fun f=> ?_)
 generalize W5.drew=db at q8 q9 b8 a7 f⊢;refine tq 0 (.pointer (some ⟨w.heap.size,0,none⟩)) rfl (fun _ _=>by kernel_rfl) f ?_
 refine tq 1 (yDV a E D) rfl (fun _ h=>fy 48 (.tmp 7) rfl w.heap.size 0 (by kernel_rfl) _ _ (kY h.1 0 3 rfl) underlying48 rfl (by kernel_rfl)) f ?_
 refine tq 2 (.pointer (some ⟨w.heap.size+1,0,none⟩)) rfl (fun _ _=>by kernel_rfl) f ?_
 refine tq 3 (yDV p J I) rfl (fun _ h=>fy 48 (.tmp 9) rfl (w.heap.size+1) 0 (by kernel_rfl) _ _ (kY h.2 0 3 rfl) underlying48 rfl (by kernel_rfl)) f ?_
 refine tq 4 (yi k) rfl (fun _ _=>by kernel_rfl) f ?_
 refine tq 6 (.pointer (some ⟨w.heap.size,0,none⟩)) rfl (fun _ _=>by kernel_rfl) f ?_
 refine tq 7 (yDV a E D) rfl (fun _ h=>fy 48 (.tmp 13) rfl w.heap.size 0 (by kernel_rfl) _ _ (kY h.1 0 3 rfl) underlying48 rfl (by kernel_rfl)) f ?_
 refine tq 8 (.pointer (some ⟨w.heap.size+1,3,none⟩)) rfl (fun _ _=>by kernel_rfl) f ?_
 refine tq 9 (yDV q M L) rfl (fun _ h=>fy 48 (.tmp 15) rfl (w.heap.size+1) 3 (by kernel_rfl) _ _ (kY h.2 3 3 rfl) underlying48 rfl (by kernel_rfl)) f ?_
 refine tq 10 (yi k) rfl (fun _ _=>by kernel_rfl) f ?_
 refine tq 12 (.pointer (some ⟨w.heap.size,3,none⟩)) rfl (fun _ _=>by kernel_rfl) f ?_
 refine tq 13 (yDV b H G) rfl (fun _ h=>fy 48 (.tmp 19) rfl w.heap.size 3 (by kernel_rfl) _ _ (kY h.1 3 3 rfl) underlying48 rfl (by kernel_rfl)) f ?_
 refine tq 14 (.pointer (some ⟨w.heap.size+1,0,none⟩)) rfl (fun _ _=>by kernel_rfl) f ?_
 refine tq 15 (yDV p J I) rfl (fun _ h=>fy 48 (.tmp 21) rfl (w.heap.size+1) 0 (by kernel_rfl) _ _ (kY h.2 0 3 rfl) underlying48 rfl (by kernel_rfl)) f ?_
 refine tq 16 (yi k) rfl (fun _ _=>by kernel_rfl) f ?_
 refine tq 18 (.pointer (some ⟨w.heap.size,3,none⟩)) rfl (fun _ _=>by kernel_rfl) f ?_
 refine tq 19 (yDV b H G) rfl (fun _ h=>fy 48 (.tmp 25) rfl w.heap.size 3 (by kernel_rfl) _ _ (kY h.1 3 3 rfl) underlying48 rfl (by kernel_rfl)) f ?_
 refine tq 20 (.pointer (some ⟨w.heap.size+1,3,none⟩)) rfl (fun _ _=>by kernel_rfl) f ?_
 refine tq 21 (yDV q M L) rfl (fun _ h=>fy 48 (.tmp 27) rfl (w.heap.size+1) 3 (by kernel_rfl) _ _ (kY h.2 3 3 rfl) underlying48 rfl (by kernel_rfl)) f ?_
 refine tq 22 (yi k) rfl (fun _ _=>by kernel_rfl) f ?_
 refine tq 26 (yi k) rfl (fun _ _=>by kernel_rfl) f ?_
 refine wpAnyH_ready (rs:=[5]) (by kernel_rfl) (by simp) ?_;refine AllReadyH.cons rfl (fun K d=> ?_) AllReadyH.nil
 go_simp
 refine(H0.out _ a7).mono ?_;rintro zz dy ⟨dd,rfl,bq,a5⟩;have b9:=q8.l a5;have ba:=q9.l a5;have c8:=b8.l a5;have b2:=aa a7 a5;obtain⟨X,W,g⟩:=bq.shape;subst g;clear q8 q9 b8 a7 a5 H0;refine d.out _ _ ⟨b9,ba⟩ (fun cs=> ?_)
 clear d K;refine wpAnyH_ready (rs:=[11]) (by kernel_rfl) (by simp) ?_;refine AllReadyH.cons rfl (fun K d=> ?_) AllReadyH.nil
 go_simp
 refine(H1.out _ b2).mono ?_;rintro zz e0 ⟨dl,rfl,bs,T⟩;have bb:=b9.l T;have bd:=ba.l T;have c9:=c8.l T;have ce:=bq.l T;have b3:=aa b2 T;obtain⟨Z,Y,g⟩:=bs.shape;subst g;clear b9 ba c8 bq b2 T H1;refine d.out _ _ ⟨bb,bd⟩ (fun ct=> ?_)
 clear d K;refine wpAnyH_ready (rs:=[17]) (by kernel_rfl) (by simp) ?_;refine AllReadyH.cons rfl (fun K d=> ?_) AllReadyH.nil
 go_simp
 refine(H2.out _ b3).mono ?_;rintro zz e1 ⟨dn,rfl,bt,F⟩;have be:=bb.l F;have bf:=bd.l F;have ca:=c9.l F;have cg:=ce.l F;have ch:=bs.l F;have b5:=aa b3 F;obtain⟨a1,a0,g⟩:=bt.shape;subst g;clear bb bd c9 ce bs b3 F H2;refine d.out _ _ ⟨be,bf⟩ (fun cv=> ?_)
 clear d K;refine wpAnyH_ready (rs:=[23]) (by kernel_rfl) (by simp) ?_;refine AllReadyH.cons rfl (fun K d=> ?_) AllReadyH.nil
 go_simp
 refine(H3.out _ b5).mono ?_;rintro zz a6 ⟨dp,rfl,bv,C⟩;have ad:=be.l C;have ae:=bf.l C;have bg:=ca.l C;have ci:=cg.l C;have cj:=ch.l C;have ck:=bt.l C;have b6:=aa b5 C;obtain⟨a3,a2,g⟩:=bv.shape;subst g;clear be bf ca cg ch bt b5 C H3;refine d.out _ _ ⟨ad,ae⟩ (fun cw=> ?_)
 clear d K;refine wpAnyH_ready (rs:=[24]) (by kernel_rfl) (by simp) ?_;refine AllReadyH.cons rfl (fun K d=> ?_) AllReadyH.nil
 go_simp
 have A:=af a6 (.cells #[.bool i.s,yT X i.n W,yi i.e,.bool j.s,yT Z j.n Y,yi j.e,.bool m.s,yT a1 m.n a0,yi m.e,.bool o.s,yT a3 o.n a2,yi o.e] 48);have al:=ah a6 [.bool i.s,yT X i.n W,yi i.e,.bool j.s,yT Z j.n Y,yi j.e,.bool m.s,yT a1 m.n a0,yi m.e,.bool o.s,yT a3 o.n a2,yi o.e] 48;have cy:w.heap.size≤a6.heap.size:=b6.size;have cz:=ad.lt;have d0:=ae.lt;have d1:=bg.lt;have an:=ad.l A;have ap:=ae.l A;have bh:=bg.l A;have ay:=ci.l A;have az:=cj.l A;have b0:=ck.l A;have b1:=bv.l A;have a8:=aa b6 A;refine d.out _ _ ⟨an,ap⟩ (fun c3=> ?_)
 clear d K;clear ad ae bg ci cj ck bv b6 A;generalize a6.alloc (.cells #[.bool i.s,yT X i.n W,yi i.e,.bool j.s,yT Z j.n Y,yi j.e,.bool m.s,yT a1 m.n a0,yi m.e,.bool o.s,yT a3 o.n a2,yi o.e] 48)=dc at an ap bh al ay az b0 b1 a8 c3⊢;generalize a6.heap.size=d9 at al cy cz d0 d1⊢;refine wpAnyH_ready (rs:=[25]) (by kernel_rfl) (by simp) ?_;refine AllReadyH.cons rfl (fun K d=> ?_) AllReadyH.nil
 go_simp
 refine(HA.out _ _ _ _ _ _ _ _ _ _ a8 al ay az b0 b1).mono ?_;rintro zz e2 ⟨dq,dt,rfl,aq,av,B⟩;have bi:=an.l B;have bj:=ap.l B;have cb:=bh.l B;have cl:=ay.l B;have cm:=az.l B;have cn:=b0.l B;have co:=b1.l B;have b7:=aa a8 B;obtain⟨xo,xc,g⟩:=aq.shape;subst g;obtain⟨yo,yc,g⟩:=av.shape;subst g;clear an ap bh al ay az b0 b1 a8 B HA;refine d.out _ _ ⟨bi,bj⟩ (fun cx=> ?_)
 clear d K;refine wpAnyH_ready (rs:=[27]) (by kernel_rfl) (by simp) ?_;refine AllReadyH.cons rfl (fun K d=> ?_) AllReadyH.nil
 go_simp
 refine(HC.out _ _ _ _ _ b7 aq av).mono ?_;rintro zz U ⟨ds,dv,rfl,ar,ax,t⟩;have bl:=bi.l t;have bm:=bj.l t;have z:=cb.l t;have bw:=cl.l t;have bx:=cm.l t;have bz:=cn.l t;have c0:=co.l t;have bn:=aq.l t;have bp:=av.l t;have c1:=aa b7 t;obtain⟨O,N,g⟩:=ar.shape;subst g;obtain⟨R,Q,g⟩:=ax.shape;subst g;clear bi bj cb cl cm cn co aq av b7 t HC;refine d.out _ _ ⟨bl,bm⟩ (fun cp=> ?_)
 clear d K;refine wpAnyH_ready (rs:=[28]) (by kernel_rfl) (by simp) ?_;refine AllReadyH.cons rfl (fun K d=> ?_) AllReadyH.nil
 have r:But (w.heap.size+1+1) U (U.setCells (w.heap.size+1+1) 0 [.bool u.s,yT O u.n N,yi u.e,.bool v.s,yT R v.n Q,yi v.e]):=de _ _ _ _;have c4:U.there (w.heap.size+1+1) 0 6:=dD z;have c5:au (U.setCells (w.heap.size+1+1) 0 [.bool u.s,yT O u.n N,yi u.e,.bool v.s,yT R v.n Q,yi v.e]) (w.heap.size+1+1) 54 [.bool u.s,yT O u.n N,yi u.e,.bool v.s,yT R v.n Q,yi v.e]:=z.sets _ rfl;have d2:=r.rd bw (aX bw z (by simp));have d3:=r.rd bx (aX bx z (by simp));have d4:=r.rd bz (aX bz z (by simp));have d5:=r.rd c0 (aX c0 z (by simp));have d6:=r.rd bn (aX bn z (by simp));have d7:=r.rd bp (aX bp z (by simp));have cc:=r.rd ar (aX ar z (by simp));have cd:=r.rd ax (aX ax z (by simp));have c6:=r.loc bl (by omega);have c7:=r.loc bm (by omega);have c2:=r.below c1 (by omega);rw[if_pos (by kernel_rfl)];refine wp_store_mid 54 (.tmp 6) (.tmp 34) rfl (w.heap.size+1+1) 0 #[.bool u.s,yT O u.n N,yi u.e,.bool v.s,yT R v.n Q,yi v.e] (by kernel_rfl) (by kernel_rfl) c4 (by kernel_rfl) (by simp[Value.oneCell']) ?_;refine d.out _ _ ⟨c6,c7⟩ (fun cr=> ?_)
 clear d K;clear z bw bx bz c0 bn bp ar ax bl bm c1 r c4;refine wpAnyH_done (by kernel_rfl) ?_ _;clear f cs ct cv cw c3 cx cp cr;change Exit.then _ _ _ _ (World.setCells U (w.heap.size+1+1) 0 [.bool u.s,yT O u.n N,yi u.e,.bool v.s,yT R v.n Q,yi v.e]);generalize World.setCells U (w.heap.size+1+1) 0 [.bool u.s,yT O u.n N,yi u.e,.bool v.s,yT R v.n Q,yi v.e]=da at c6 c7 c5 d2 d3 d4 d5 d6 d7 cc cd c2⊢;simp only[Act.put,List.getElem_toArray,List.getElem_cons_succ,List.getElem_cons_zero];have hl:=run_loadVar_mid (P:=Tryz.prog) _ (w.heap.size+1+1) 0 54 [.bool u.s,yT O u.n N,yi u.e,.bool v.s,yT R v.n Q,yi v.e] _ c5.range underlying54 rfl (by kernel_rfl)
 go_wp2
 exact bodyPost_ret (br results83 rfl hl) rfl ⟨_,_,rfl,cc,cd,c2⟩
end Go.Proofs.YthhiidikgchdeabGreatDoor
