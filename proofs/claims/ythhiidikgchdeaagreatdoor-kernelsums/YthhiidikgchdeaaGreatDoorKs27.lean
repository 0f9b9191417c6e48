/- Texts laid together. -/
import Derived.Test.YthhiidikgchdeaaGreatDoorKs11
import Derived.Test.YthhiidikgchdeaaGreatDoorKs20
set_option maxRecDepth 100000
set_option maxHeartbeats 3200000
namespace Go.Proofs.YthhiidikgchdeaaGreatDoor
open _root_.Go.Proofs.Tryz
open Go.RowKit
theorem FN (b:Nat)(m:Nat)(x:Nat→ak)(a:Nat→Option Addr)(d:Nat→Nat)(w:World)(hm:2≤m)(b6:m≤4)(hb:b<w.heap.size)
  (Z: ∀j,j<m→w.cell? ⟨b,3*j,none⟩=some (.bool (x j).s)) (h1: ∀j,j<m→w.cell? ⟨b,3*j+1,none⟩=some (.slice (a j) (Dg.dg 4294967296 (x j).n).length (d j))) (h2: ∀j,j<m→w.cell? ⟨b,3*j+2,none⟩=some (yi (x j).e))
  (HC: ∀j k o,j<m→k<m→yB w o→yC 22 #[.agg #[.bool (x j).s,.slice (a j) (Dg.dg 4294967296 (x j).n).length (d j),yi (x j).e],.agg #[.bool (x k).s,.slice (a k) (Dg.dg 4294967296 (x k).n).length (d k),yi (x k).e]] o (yR o (yi (bJ (x j) (x k))))):
  yC 130 #[.slice (some ⟨b,0,none⟩) m m] w (ac8 w x a d (loI x (m-1)) (hiI x (m-1))):=by
 have a9:w.cell? ⟨b,0,none⟩=some (.bool (x 0).s):=Z 0 (by omega);have ac:w.cell? ⟨b,1,none⟩=some (.slice (a 0) (Dg.dg 4294967296 (x 0).n).length (d 0)):=h1 0 (by omega);have ad:w.cell? ⟨b,2,none⟩=some (yi (x 0).e):=h2 0 (by omega);have aq:Hid _:=Z;have ar:Hid _:=h1;have av:Hid _:=h2;have Q:Hid _:=HC;clear Z h1 h2 HC;have n1:b≠w.heap.size:=by omega
 have b5:(0:Int)< (m:Int):=by omega
 have LS: ∀P W,yB w W→mL W P (.bool (x 0).s) (.slice (a 0) (Dg.dg 4294967296 (x 0).n).length (d 0)) (yi (x 0).e) (.bool (x 0).s) (.slice (a 0) (Dg.dg 4294967296 (x 0).n).length (d 0)) (yi (x 0).e)→mL W w.heap.size (.bool false) yN (yi 0) (.bool false) yN (yi 0)→Sz w m x a d P (yi 0) W:=
  fun P W hB hP hK=>⟨0,by omega,rfl,hB,hP,hK⟩
 have S:Hid _:=LS;clear LS;obtain⟨s,hs⟩: ∃s,(x 0).s=s:=⟨_,rfl⟩;obtain⟨q,a1⟩: ∃s,a 0=s:=⟨_,rfl⟩;obtain⟨t,a2⟩: ∃s,d 0=s:=⟨_,rfl⟩;obtain⟨y,a3⟩: ∃s,(Dg.dg 4294967296 (x 0).n).length=s:=⟨_,rfl⟩;obtain⟨e,he⟩: ∃s,(x 0).e=s:=⟨_,rfl⟩;rw[hs,a1,a2,a3,he] at S;rw[hs] at a9;rw[a1,a2,a3] at ac;rw[he] at ad;clear hs a1 a2 a3 he;have k0:=aJ w (.bool false) yN (yi 0) (.bool false) yN (yi 0) 49;have b0:=af w (.cells #[.bool false,yN,yi 0,.bool false,yN,yi 0] 49)
 go_enter func130,ntmps130
 go_wp2_with fail
 refine(Qy s q y t e _).mono ?_;rintro z o ⟨rfl,L⟩;have p:=af o (.cells #[.bool s,.slice q y t,yi e,.bool s,.slice q y t,yi e] 49);have p1:=aJ o (.bool s) (.slice q y t) (yi e) (.bool s) (.slice q y t) (yi e) 49;have k2:=(k0.l L).l p;have ax:w.heap.size<o.heap.size:=(k0.l L).1;have a8:=aa (aa b0 L) p;have K:=S.out _ _ a8 p1 k2;clear k0 b0 L p p1 k2 a8 S a9 ac ad n1
 go_wp2_with fail
 generalize o.heap.size=P at ax K⊢;generalize(o.alloc (.cells #[.bool s,.slice q y t,yi e,.bool s,.slice q y t,yi e] 49))=W at K⊢;have b7:P≠w.heap.size:=by omega
 have b8:w.heap.size≤P:=by omega
 go_loopw [13] (Sz w m x a d P) (fun iv _=>m-(intOf iv).toNat)
 case atStart=>exact K
 case round=>
  clear K;obtain⟨i,hi,rfl,G,lp,N⟩:=hrel
  by_cases C:i+1<m
  ·have d0:wr.cell? ⟨b,3+i*3,none⟩=some (.bool (x (i+1)).s):=by rw[show 3+i*3=3*(i+1) by omega];exact cell_later G (aq.out (i+1) C)
   have d1:wr.cell? ⟨b,3+i*3+1,none⟩=some (.slice (a (i+1)) (Dg.dg 4294967296 (x (i+1)).n).length (d (i+1))):=by rw[show 3+i*3=3*(i+1) by omega];exact cell_later G (ar.out (i+1) C)
   have d2:wr.cell? ⟨b,3+i*3+2,none⟩=some (yi (x (i+1)).e):=by rw[show 3+i*3=3*(i+1) by omega];exact cell_later G (av.out (i+1) C)
   have az:=tB x i;have b3:=wN x i;have p:=af wr (.cells #[.bool (x (i+1)).s,.slice (a (i+1)) (Dg.dg 4294967296 (x (i+1)).n).length (d (i+1)),yi (x (i+1)).e] 41);have r1:=aA wr (.bool (x (i+1)).s) (.slice (a (i+1)) (Dg.dg 4294967296 (x (i+1)).n).length (d (i+1))) (yi (x (i+1)).e) 41;have T:=aa G p;have al:P≠wr.heap.size:=by have:=lp.1;omega
   have a5:=mL.l lp p;have an:=N.l p;clear lp N p;obtain⟨-,⟨p0,p1,p2,-⟩,-⟩:=id a5
   go_wp2_with fail
   refine(Q.out (i+1) (loI x i) _ C (by omega) T).mono ?_;rintro z w2 ⟨rfl,F⟩;have H:=aa T F;have D:=mL.l a5 F;have O:=an.l F;have E:=r1.l F;clear p0 p1 p2 a5 an r1 F T d0 d1 d2;generalize wr.heap.size=R at al E⊢;obtain⟨-,⟨e0,e1,e2⟩,-⟩:=id E
   by_cases M:bJ (x (i+1)) (x (loI x i))<0
   ·have I:=DN M
    generalize bJ (x (i+1)) (x (loI x i))=c1 at M⊢;obtain⟨b9,⟨p0,p1,p2,-⟩,f0,f1,f2,-⟩:=id D;have a6:=abg D (.bool (x (i+1)).s) (.slice (a (i+1)) (Dg.dg 4294967296 (x (i+1)).n).length (d (i+1))) (yi (x (i+1)).e);have r3:=E.apart (c:=P) al (.bool (x (i+1)).s) (.slice (a (i+1)) (Dg.dg 4294967296 (x (i+1)).n).length (d (i+1))) (yi (x (i+1)).e);have ap:=O.apart3 (c:=P) (by omega) (.bool (x (i+1)).s) (.slice (a (i+1)) (Dg.dg 4294967296 (x (i+1)).n).length (d (i+1))) (yi (x (i+1)).e);have U:=am H (b:=P) (by omega) (.bool (x (i+1)).s) (.slice (a (i+1)) (Dg.dg 4294967296 (x (i+1)).n).length (d (i+1))) (yi (x (i+1)).e);obtain⟨-,⟨J,q1,q2,q3,q4,q5⟩,-⟩:=id a6;obtain⟨-,⟨s0,s1,s2⟩,-⟩:=id r3;clear D O E H
    go_wp2_with fail
    refine(Q.out (i+1) (hiI x i) _ C (by omega) U).mono ?_;rintro z w4 ⟨rfl,f⟩;have r:=aa U f;have h:=a6.l f;have A:=ap.l f;have B:=r3.l f;clear a6 ap r3 U f J q1 q2 q3 q4 q5 s0 s1 s2;obtain⟨-,⟨t0,t1,t2⟩,-⟩:=id B
    by_cases g:0<bJ (x (i+1)) (x (hiI x i))
    ·have u:=uP g
     generalize bJ (x (i+1)) (x (hiI x i))=Y at g⊢;obtain⟨ay,⟨-,-,-,J,q1,q2⟩,-,-,-,g0,g1,g2⟩:=id h;have a7:=Sy h (.bool (x (i+1)).s) (.slice (a (i+1)) (Dg.dg 4294967296 (x (i+1)).n).length (d (i+1))) (yi (x (i+1)).e);have a4:=A.apart3h (c:=P) (by omega) (.bool (x (i+1)).s) (.slice (a (i+1)) (Dg.dg 4294967296 (x (i+1)).n).length (d (i+1))) (yi (x (i+1)).e);have X:=Dd r (b:=P) (by omega) (.bool (x (i+1)).s) (.slice (a (i+1)) (Dg.dg 4294967296 (x (i+1)).n).length (d (i+1))) (yi (x (i+1)).e);clear h A B r
     go_wp2
     go_roundw
     case rel=>exact⟨i+1,by omega,by go_num,X,by rw[I,u];exact a7,a4⟩
     case measure=>simp[intOf];omega
    ·have u:=uQ g
     generalize bJ (x (i+1)) (x (hiI x i))=Y at g⊢;clear B
     go_wp2
     go_roundw
     case rel=>exact⟨i+1,by omega,by go_num,r,by rw[I,u];exact h,A⟩
     case measure=>simp[intOf];omega
   ·have I:=DO M
    generalize bJ (x (i+1)) (x (loI x i))=c1 at M⊢;obtain⟨-,⟨-,-,-,J,q1,q2⟩,-⟩:=id D
    go_wp2_with fail
    refine(Q.out (i+1) (hiI x i) _ C (by omega) H).mono ?_;rintro z w4 ⟨rfl,f⟩;have r:=aa H f;have h:=mL.l D f;have A:=O.l f;have B:=E.l f;clear D O E H f J q1 q2;obtain⟨-,⟨t0,t1,t2⟩,-⟩:=id B
    by_cases g:0<bJ (x (i+1)) (x (hiI x i))
    ·have u:=uP g
     generalize bJ (x (i+1)) (x (hiI x i))=Y at g⊢;obtain⟨ay,⟨-,-,-,J,q1,q2⟩,-,-,-,g0,g1,g2⟩:=id h;have a7:=Sy h (.bool (x (i+1)).s) (.slice (a (i+1)) (Dg.dg 4294967296 (x (i+1)).n).length (d (i+1))) (yi (x (i+1)).e);have a4:=A.apart3h (c:=P) (by omega) (.bool (x (i+1)).s) (.slice (a (i+1)) (Dg.dg 4294967296 (x (i+1)).n).length (d (i+1))) (yi (x (i+1)).e);have X:=Dd r (b:=P) (by omega) (.bool (x (i+1)).s) (.slice (a (i+1)) (Dg.dg 4294967296 (x (i+1)).n).length (d (i+1))) (yi (x (i+1)).e);clear h A B r
     go_wp2
     go_roundw
     case rel=>exact⟨i+1,by omega,by go_num,X,by rw[I,u];exact a7,a4⟩
     case measure=>simp[intOf];omega
    ·have u:=uQ g
     generalize bJ (x (i+1)) (x (hiI x i))=Y at g⊢;clear B
     go_wp2
     go_roundw
     case rel=>exact⟨i+1,by omega,by go_num,r,by rw[I,u];exact h,A⟩
     case measure=>simp[intOf];omega
  ·have ae:m-1=i:=by omega
   rw[ae];unfold Yu at lp;unfold ac8;obtain⟨-,⟨p0,p1,p2,p3,p4,p5⟩,-⟩:=id lp;obtain⟨hl,⟨v0,v1,v2,v3,v4,v5⟩,f0,f1,f2,f3,f4,f5⟩:=id N
   go_wp2
   obtain⟨-,⟨u0,u1,u2,u3,u4,u5⟩,-⟩:=bP N (.bool (x (loI x i)).s) (.slice (a (loI x i)) (Dg.dg 4294967296 (x (loI x i)).n).length (d (loI x i))) (yi (x (loI x i)).e) (.bool (x (hiI x i)).s) (.slice (a (hiI x i)) (Dg.dg 4294967296 (x (hiI x i)).n).length (d (hiI x i))) (yi (x (hiI x i)).e);have bb:=aW G (show w.heap.size≤w.heap.size by omega) (.bool (x (loI x i)).s) (.slice (a (loI x i)) (Dg.dg 4294967296 (x (loI x i)).n).length (d (loI x i))) (yi (x (loI x i)).e) (.bool (x (hiI x i)).s) (.slice (a (hiI x i)) (Dg.dg 4294967296 (x (hiI x i)).n).length (d (hiI x i))) (yi (x (hiI x i)).e)
   refine bodyPost_ret (v:= .agg #[.bool (x (loI x i)).s,.slice (a (loI x i)) (Dg.dg 4294967296 (x (loI x i)).n).length (d (loI x i)),yi (x (loI x i)).e,.bool (x (hiI x i)).s,.slice (a (hiI x i)) (Dg.dg 4294967296 (x (hiI x i)).n).length (d (hiI x i)),yi (x (hiI x i)).e]) (by simp[results,results130,go_sem,u0,u1,u2,u3,u4,u5]) rfl ?_;rw[ae];exact⟨rfl,bb⟩
theorem spanPlus_W (a b p q:ak)(u B D G:Option Addr)(t A C F:Nat)(x y:ak)(w:World)
  (H: ∀k,yB w k→yC 55 #[yDV a u t,yDV p D C] k (Lx k x))
  (I: ∀k,yB w k→yC 55 #[yDV b B A,yDV q G F] k (Lx k y)):
  yC 103 #[.agg #[.bool a.s,yT u a.n t,yi a.e,.bool b.s,yT B b.n A,yi b.e],.agg #[.bool p.s,yT D p.n C,yi p.e,.bool q.s,yT G q.n F,yi q.e]] w (aeT w x y):=by
 replace H:Hid _:=H;replace I:Hid _:=I;obtain⟨Q,L,q1,q2,q3,b4⟩:=lG w [.bool a.s,yT u a.n t,yi a.e,.bool b.s,yT B b.n A,yi b.e] 49 [.bool p.s,yT D p.n C,yi p.e,.bool q.s,yT G q.n F,yi q.e] 49 [.bool false,yN,yi 0,.bool false,yN,yi 0] 49;replace L:Hid _:=L
 go_enter func103,ntmps103
 go_upto_region 1 with fail
 rw[L.out];clear L
 go_upto_region 1 with fail
 have v:yB Q Q.drew:=(Below.refl _ _).drew;have M:=q1.l v;have N:=q2.l v;have U:=q3.l v;have J:=aa b4 v;clear q1 q2 q3 b4 v;refine wp_region_held_drew (S:=fun wq=>au wq w.heap.size 49 [.bool a.s,yT u a.n t,yi a.e,.bool b.s,yT B b.n A,yi b.e]∧au wq (w.heap.size+1) 49 [.bool p.s,yT D p.n C,yi p.e,.bool q.s,yT G q.n F,yi q.e]) (by kernel_rfl) ⟨M,N⟩ (fun c=> ?_)
 generalize Q.drew=aq at M N U J c⊢;refine tq 0 (.pointer (some ⟨w.heap.size,0,none⟩)) rfl (fun _ _=>by kernel_rfl) c ?_
 refine tq 1 (yDV a u t) rfl (fun _ j=>fy 41 (.tmp 5) rfl w.heap.size 0 (by kernel_rfl) _ _ (kY j.1 0 3 rfl) underlying41 rfl (by kernel_rfl)) c ?_
 refine tq 2 (.pointer (some ⟨w.heap.size+1,0,none⟩)) rfl (fun _ _=>by kernel_rfl) c ?_
 refine tq 3 (yDV p D C) rfl (fun _ j=>fy 41 (.tmp 7) rfl (w.heap.size+1) 0 (by kernel_rfl) _ _ (kY j.2 0 3 rfl) underlying41 rfl (by kernel_rfl)) c ?_
 refine tq 5 (.pointer (some ⟨w.heap.size,3,none⟩)) rfl (fun _ _=>by kernel_rfl) c ?_
 refine tq 6 (yDV b B A) rfl (fun _ j=>fy 41 (.tmp 10) rfl w.heap.size 3 (by kernel_rfl) _ _ (kY j.1 3 3 rfl) underlying41 rfl (by kernel_rfl)) c ?_
 refine tq 7 (.pointer (some ⟨w.heap.size+1,3,none⟩)) rfl (fun _ _=>by kernel_rfl) c ?_
 refine tq 8 (yDV q G F) rfl (fun _ j=>fy 41 (.tmp 12) rfl (w.heap.size+1) 3 (by kernel_rfl) _ _ (kY j.2 3 3 rfl) underlying41 rfl (by kernel_rfl)) c ?_
 refine wpAnyH_ready (rs:=[4]) (by kernel_rfl) (by simp) ?_;refine AllReadyH.cons rfl (fun K d=> ?_) AllReadyH.nil
 go_simp
 refine(H.out _ J).mono ?_;rintro zz ax ⟨ar,rfl,a0,z⟩;have W:=M.l z;have X:=N.l z;have a6:=U.l z;have R:=aa J z;obtain⟨g,f,T⟩:=a0.shape;subst T;clear M N U J z H;refine d.out _ _ ⟨W,X⟩ (fun al=> ?_)
 clear d K;refine wpAnyH_ready (rs:=[9]) (by kernel_rfl) (by simp) ?_;refine AllReadyH.cons rfl (fun K d=> ?_) AllReadyH.nil
 go_simp
 refine(I.out _ R).mono ?_;rintro zz r ⟨av,rfl,O,m⟩;have Y:=W.l m;have Z:=X.l m;have E:=a6.l m;have a1:=a0.l m;have a2:=aa R m;obtain⟨i,h,T⟩:=O.shape;subst T;clear W X a6 a0 R m I;refine d.out _ _ ⟨Y,Z⟩ (fun a4=> ?_)
 clear d K;refine tq 10 (.agg #[.bool x.s,yT g x.n f,yi x.e,.bool y.s,yT i y.n h,yi y.e]) rfl (fun _ _=>by kernel_rfl) a4 ?_
 refine wpAnyH_ready (rs:=[11]) (by kernel_rfl) (by simp) ?_;refine AllReadyH.cons rfl (fun K d=> ?_) AllReadyH.nil
 have o:But (w.heap.size+1+1) r (r.setCells (w.heap.size+1+1) 0 [.bool x.s,yT g x.n f,yi x.e,.bool y.s,yT i y.n h,yi y.e]):=de _ _ _ _;have a5:r.there (w.heap.size+1+1) 0 6:=dD E;have a7:au (r.setCells (w.heap.size+1+1) 0 [.bool x.s,yT g x.n f,yi x.e,.bool y.s,yT i y.n h,yi y.e]) (w.heap.size+1+1) 49 [.bool x.s,yT g x.n f,yi x.e,.bool y.s,yT i y.n h,yi y.e]:=E.sets _ rfl;have ad:=o.rd a1 (aX a1 E (by simp));have ae:=o.rd O (aX O E (by simp));have a8:=o.loc Y (by omega);have a9:=o.loc Z (by omega);have a3:=o.below a2 (by omega);rw[if_pos (by kernel_rfl)];refine wp_store_mid 49 (.tmp 4) (.tmp 15) rfl (w.heap.size+1+1) 0 #[.bool x.s,yT g x.n f,yi x.e,.bool y.s,yT i y.n h,yi y.e] (by kernel_rfl) (by kernel_rfl) a5 (by kernel_rfl) (by simp[Value.oneCell']) ?_;refine d.out _ _ ⟨a8,a9⟩ (fun an=> ?_)
 clear d K;clear E a1 O Y Z a2 o a5;refine wpAnyH_done (by kernel_rfl) ?_ _;clear c al a4 an;change Exit.then _ _ _ _ (World.setCells r (w.heap.size+1+1) 0 [.bool x.s,yT g x.n f,yi x.e,.bool y.s,yT i y.n h,yi y.e]);generalize World.setCells r (w.heap.size+1+1) 0 [.bool x.s,yT g x.n f,yi x.e,.bool y.s,yT i y.n h,yi y.e]=ap at a8 a9 a7 ad ae a3⊢;simp only[Act.put,List.getElem_toArray,List.getElem_cons_succ,List.getElem_cons_zero];have hl:=run_loadVar_mid (P:=Tryz.prog) _ (w.heap.size+1+1) 0 49 [.bool x.s,yT g x.n f,yi x.e,.bool y.s,yT i y.n h,yi y.e] _ a7.range underlying49 rfl (by kernel_rfl)
 go_wp2
 exact bodyPost_ret (br results103 rfl hl) rfl ⟨_,_,rfl,ad,ae,a3⟩
theorem great_some (a b:ak)(k o:Option Addr)(j m:Nat)(x y:ak)(s g:Int)(w:World)(ra:Rd w .u32 (yT k a.n j) (Dg.dg 4294967296 a.n))(rb:Rd w .u32 (yT o b.n m) (Dg.dg 4294967296 b.n))(hs: ¬s=0)
  (H1:yJ 21 #[yDV a k j] (ydV false (yT k a.n j) a.e))
  (H2:yJ 21 #[yDV b o m] (ydV false (yT o b.n m) b.e))
  (F: ∀pb v,yB w v→au v pb 41 [.bool false,yT k a.n j,yi a.e,.bool false,yT o b.n m,yi b.e]→Rd v .u32 (yT k a.n j) (Dg.dg 4294967296 a.n)→Rd v .u32 (yT o b.n m) (Dg.dg 4294967296 b.n)→yC 130 #[.slice (some ⟨pb,0,none⟩) 2 2] v (aeT v x y))
  (G: ∀f d v,yB w v→Rd v .u32 (yT f y.n d) (Dg.dg 4294967296 y.n)→yC 24 #[yDV y f d] v (yR v (yi s)))
  (H: ∀f d v,yB w v→Rd v .u32 (yT f y.n d) (Dg.dg 4294967296 y.n)→yC 98 #[yDV y f d] v (yR v (yi g))):
  yC 129 #[.agg #[.bool a.s,yT k a.n j,yi a.e,.bool b.s,yT o b.n m,yi b.e]] w (yR w (.tuple #[yi g,.bool true])):=by
 replace H1:Hid _:=H1;replace H2:Hid _:=H2;replace F:Hid _:=F;replace G:Hid _:=G;replace H:Hid _:=H;obtain⟨W3,cm,q1,b2⟩:=cA w [.bool a.s,yT k a.n j,yi a.e,.bool b.s,yT o b.n m,yi b.e] 49;replace cm:Hid _:=cm;have r5:=ra.l b2;have r6:=rb.l b2;clear ra rb
 go_enter func129,ntmps129
 go_upto_region 1 with fail
 rw[cm.out];clear cm
 go_upto_region 1 with fail
 have bt:yB W3 W3.drew:=(Below.refl _ _).drew;have q8:=q1.l bt;have r9:=r5.l bt;have bg:=r6.l bt;have b8:=aa b2 bt;clear q1 r5 r6 b2 bt;refine wp_region_held_drew (S:=fun wq=>au wq w.heap.size 49 [.bool a.s,yT k a.n j,yi a.e,.bool b.s,yT o b.n m,yi b.e]) (by kernel_rfl) q8 (fun P=> ?_)
 generalize W3.drew=ae at q8 r9 bg b8 P⊢;refine tq 0 (.pointer (some ⟨w.heap.size,0,none⟩)) rfl (fun _ _=>by kernel_rfl) P ?_
 refine tq 1 (yDV a k j) rfl (fun _ e2=>fy 41 (.tmp 5) rfl w.heap.size 0 (by kernel_rfl) _ _ (kY e2 0 3 rfl) underlying41 rfl (by kernel_rfl)) P ?_
 refine tq 3 (.pointer (some ⟨w.heap.size,3,none⟩)) rfl (fun _ _=>by kernel_rfl) P ?_
 refine tq 4 (yDV b o m) rfl (fun _ e2=>fy 41 (.tmp 8) rfl w.heap.size 3 (by kernel_rfl) _ _ (kY e2 3 3 rfl) underlying41 rfl (by kernel_rfl)) P ?_
 refine wpAnyH_ready (rs:=[2,9]) (by kernel_rfl) (by simp) ?_;refine AllReadyH.cons rfl (fun K c=> ?_) (AllReadyH.cons rfl (fun K c=> ?_) AllReadyH.nil)
 ·go_simp
  refine(H1.out _).mono ?_;rintro q b1 ⟨rfl,bv⟩;have bf:=q8.l bv;have c6:=r9.l bv;have c7:=bg.l bv;have bq:=aa b8 bv;clear q8 r9 bg b8 bv H1;refine c.out _ _ bf (fun cl=> ?_)
  clear c K;refine wpAnyH_ready (rs:=[5,9]) (by kernel_rfl) (by simp) ?_;refine AllReadyH.cons rfl (fun K c=> ?_) (AllReadyH.cons rfl (fun K c=> ?_) AllReadyH.nil)
  ·go_simp
   refine(H2.out _).mono ?_;rintro q C ⟨rfl,bw⟩;have av:=bf.l bw;have Q:=c6.l bw;have bh:=c7.l bw;have b9:=aa bq bw;clear bf c6 c7 bq bw H2;refine c.out _ _ av (fun ds=> ?_)
   clear c K;refine wpAnyH_ready (rs:=[6,9]) (by kernel_rfl) (by simp) ?_;refine AllReadyH.cons rfl (fun K c=> ?_) (AllReadyH.cons rfl (fun K c=> ?_) AllReadyH.nil)
   ·go_simp
    have L:=af C (.cells #[.bool false,yT k a.n j,yi a.e,.bool false,yT o b.n m,yi b.e] 41);have i:=ah C [.bool false,yT k a.n j,yi a.e,.bool false,yT o b.n m,yi b.e] 41;have dv:w.heap.size≤C.heap.size:=b9.size;have dy:=av.lt;have e3:=t9 Q (Nat.le_refl C.heap.size);have e4:=t9 bh (Nat.le_refl C.heap.size);have r:=av.l L;have M:=Q.l L;have A:=bh.l L;have I:=aa b9 L;refine c.out _ _ r (fun be=> ?_)
    clear c K;clear av Q bh b9 L;generalize C.alloc (.cells #[.bool false,yT k a.n j,yi a.e,.bool false,yT o b.n m,yi b.e] 41)=z at r i M A I be⊢;generalize C.heap.size=R at i dv dy e3 e4⊢;refine wpAnyH_ready (rs:=[7,9]) (by kernel_rfl) (by simp) ?_;refine AllReadyH.cons rfl (fun K c=> ?_) (AllReadyH.cons rfl (fun K c=> ?_) AllReadyH.nil)
    ·go_simp
     refine(F.out _ _ I i M A).mono ?_;rintro q bj ⟨gr,gy,rfl,f3,cx,dd⟩;have cr:=r.l dd;have d7:=aa I dd;obtain⟨xo,xc,p⟩:=f3.shape;subst p;obtain⟨f,d,p⟩:=cx.shape;subst p;clear r i M A I dd F;refine c.out _ _ cr (fun eo=> ?_)
     clear c K;refine tq 8 (yDV y f d) rfl (fun _ _=>by kernel_rfl) eo ?_
     refine wpAnyH_ready (rs:=[9]) (by kernel_rfl) (by simp) ?_;refine AllReadyH.cons rfl (fun K c=> ?_) AllReadyH.nil
     go_simp
     have ca:=af bj (.cells (ydA false yN 0) 41);have t:=ah bj (ydL false yN 0) 41;have g0:w.heap.size≤bj.heap.size:=d7.size;have g1:=cr.lt;have ex:=t9 cx (Nat.le_refl bj.heap.size);have cs:=cr.l ca;have ef:=cx.l ca;have d9:=aa d7 ca;refine c.out _ _ cs (fun et=> ?_)
     clear c K;clear cr f3 cx d7 ca;generalize bj.alloc (.cells (ydA false yN 0) 41)=b5 at cs t ef d9 et⊢;generalize bj.heap.size=a7 at t g0 g1 ex⊢;refine wpAnyH_ready (rs:=[10]) (by kernel_rfl) (by simp) ?_;refine AllReadyH.cons rfl (fun K c=> ?_) AllReadyH.nil
     have h:But a7 b5 (b5.setCells a7 0 (yDL y f d)):=de _ _ _ _;have B:b5.there a7 0 3:=dD t;have ct:au (b5.setCells a7 0 (yDL y f d)) a7 41 (yDL y f d):=t.sets _ rfl;have d0:=h.rd ef (ex);have u:=h.loc cs (by omega);have O:=h.below d9 (by omega);rw[if_pos (by kernel_rfl)];refine wp_store_mid 41 (.tmp 4) (.tmp 13) rfl a7 0 (yDA y f d) (by kernel_rfl) (by kernel_rfl) B (by kernel_rfl) (by simp[Value.oneCell']) ?_;refine c.out _ _ u (fun aq=> ?_)
     clear c K;clear t ef cs d9 h B;refine wpAnyH_done (by kernel_rfl) ?_ _;clear P cl ds be eo et aq;change Exit.then _ _ _ _ (World.setCells b5 a7 0 (yDL y f d));generalize World.setCells b5 a7 0 (yDL y f d)=gd at u ct d0 O⊢;simp only[Act.put,List.getElem_toArray,List.getElem_cons_succ,List.getElem_cons_zero];obtain⟨fe,ff,fg⟩:=ct.cs3
     go_wp2_with fail
     refine(G.out _ _ _ O d0).mono ?_;rintro q h2 ⟨rfl,ci⟩;have f0:=ct.l ci;have f7:=d0.l ci;have da:=aa O ci;clear u ct d0 O ci G fe ff fg;obtain⟨c0,dn,fi⟩:=f0.cs3
     go_wp2_with fail
     refine(H.out _ _ _ da f7).mono ?_;rintro q h5 ⟨rfl,ej⟩;have bs:=aa da ej;clear f0 f7 da ej H c0 dn fi
     go_wp2
     go_ret2
     exact⟨by simp,bs⟩
    ·go_simp
     have D:=af z (.cells (ydA false yN 0) 41);have a0:=ah z (ydL false yN 0) 41;have e0:w.heap.size≤z.heap.size:=I.size;have c3:=r.lt;have ar:=i.lt;have e5:=t9 M (Nat.le_refl z.heap.size);have c4:=t9 A (Nat.le_refl z.heap.size);have a1:=r.l D;have t:=i.l D;have az:=M.l D;have N:=A.l D;have U:=aa I D;refine c.out _ _ a1 (fun c2=> ?_)
     clear c K;clear r i M A I D;generalize z.alloc (.cells (ydA false yN 0) 41)=fb at a1 t a0 az N U c2⊢;generalize z.heap.size=T at a0 e0 c3 ar e5 c4⊢;refine wpAnyH_ready (rs:=[7]) (by kernel_rfl) (by simp) ?_;refine AllReadyH.cons rfl (fun K c=> ?_) AllReadyH.nil
     go_simp
     refine(F.out _ _ U t az N).mono ?_;rintro q E ⟨g7,g8,rfl,c8,a3,X⟩;have ax:=a1.l X;have u:=a0.l X;have O:=aa U X;obtain⟨xo,xc,p⟩:=c8.shape;subst p;obtain⟨f,d,p⟩:=a3.shape;subst p;clear a1 t a0 az N U X F;refine c.out _ _ ax (fun aq=> ?_)
     clear c K;refine tq 8 (yDV y f d) rfl (fun _ _=>by kernel_rfl) aq ?_
     refine wpAnyH_ready (rs:=[10]) (by kernel_rfl) (by simp) ?_;refine AllReadyH.cons rfl (fun K c=> ?_) AllReadyH.nil
     have h:But T E (E.setCells T 0 (yDL y f d)):=de _ _ _ _;have B:E.there T 0 3:=dD u;have a2:au (E.setCells T 0 (yDL y f d)) T 41 (yDL y f d):=u.sets _ rfl;have a4:=h.rd a3 (aX a3 u (by simp));have J:=h.loc ax (by omega);have W:=h.below O (by omega);rw[if_pos (by kernel_rfl)];refine wp_store_mid 41 (.tmp 4) (.tmp 13) rfl T 0 (yDA y f d) (by kernel_rfl) (by kernel_rfl) B (by kernel_rfl) (by simp[Value.oneCell']) ?_;refine c.out _ _ J (fun dt=> ?_)
     clear c K;clear u c8 a3 ax O h B;refine wpAnyH_done (by kernel_rfl) ?_ _;clear P cl ds be c2 aq dt;change Exit.then _ _ _ _ (World.setCells E T 0 (yDL y f d));generalize World.setCells E T 0 (yDL y f d)=fa at J a2 a4 W⊢;simp only[Act.put,List.getElem_toArray,List.getElem_cons_succ,List.getElem_cons_zero];obtain⟨dl,bz,an⟩:=a2.cs3
     go_wp2_with fail
     refine(G.out _ _ _ W a4).mono ?_;rintro q g9 ⟨rfl,Y⟩;have c5:=a2.l Y;have c9:=a4.l Y;have al:=aa W Y;clear J a2 a4 W Y G dl bz an;obtain⟨dp,c1,ap⟩:=c5.cs3
     go_wp2_with fail
     refine(H.out _ _ _ al c9).mono ?_;rintro q ga ⟨rfl,bx⟩;have dc:=aa al bx;clear c5 c9 al bx H dp c1 ap
     go_wp2
     go_ret2
     exact⟨by simp,dc⟩
   ·go_simp
    have L:=af C (.cells (ydA false yN 0) 41);have i:=ah C (ydL false yN 0) 41;have dv:w.heap.size≤C.heap.size:=b9.size;have dy:=av.lt;have e3:=t9 Q (Nat.le_refl C.heap.size);have e4:=t9 bh (Nat.le_refl C.heap.size);have r:=av.l L;have M:=Q.l L;have A:=bh.l L;have I:=aa b9 L;refine c.out _ _ r (fun be=> ?_)
    clear c K;clear av Q bh b9 L;generalize C.alloc (.cells (ydA false yN 0) 41)=z at r i M A I be⊢;generalize C.heap.size=R at i dv dy e3 e4⊢;refine wpAnyH_ready (rs:=[6]) (by kernel_rfl) (by simp) ?_;refine AllReadyH.cons rfl (fun K c=> ?_) AllReadyH.nil
    go_simp
    have D:=af z (.cells #[.bool false,yT k a.n j,yi a.e,.bool false,yT o b.n m,yi b.e] 41);have a0:=ah z [.bool false,yT k a.n j,yi a.e,.bool false,yT o b.n m,yi b.e] 41;have e0:w.heap.size≤z.heap.size:=I.size;have c3:=r.lt;have ar:=i.lt;have e5:=t9 M (Nat.le_refl z.heap.size);have c4:=t9 A (Nat.le_refl z.heap.size);have a1:=r.l D;have t:=i.l D;have az:=M.l D;have N:=A.l D;have U:=aa I D;refine c.out _ _ a1 (fun c2=> ?_)
    clear c K;clear r i M A I D;generalize z.alloc (.cells #[.bool false,yT k a.n j,yi a.e,.bool false,yT o b.n m,yi b.e] 41)=fb at a1 t a0 az N U c2⊢;generalize z.heap.size=T at a0 e0 c3 ar e5 c4⊢;refine wpAnyH_ready (rs:=[7]) (by kernel_rfl) (by simp) ?_;refine AllReadyH.cons rfl (fun K c=> ?_) AllReadyH.nil
    go_simp
    refine(F.out _ _ U a0 az N).mono ?_;rintro q E ⟨g7,g8,rfl,c8,a3,X⟩;have ax:=a1.l X;have u:=t.l X;have O:=aa U X;obtain⟨xo,xc,p⟩:=c8.shape;subst p;obtain⟨f,d,p⟩:=a3.shape;subst p;clear a1 t a0 az N U X F;refine c.out _ _ ax (fun aq=> ?_)
    clear c K;refine tq 8 (yDV y f d) rfl (fun _ _=>by kernel_rfl) aq ?_
    refine wpAnyH_ready (rs:=[10]) (by kernel_rfl) (by simp) ?_;refine AllReadyH.cons rfl (fun K c=> ?_) AllReadyH.nil
    have h:But R E (E.setCells R 0 (yDL y f d)):=de _ _ _ _;have B:E.there R 0 3:=dD u;have a2:au (E.setCells R 0 (yDL y f d)) R 41 (yDL y f d):=u.sets _ rfl;have a4:=h.rd a3 (aX a3 u (by simp));have J:=h.loc ax (by omega);have W:=h.below O (by omega);rw[if_pos (by kernel_rfl)];refine wp_store_mid 41 (.tmp 4) (.tmp 13) rfl R 0 (yDA y f d) (by kernel_rfl) (by kernel_rfl) B (by kernel_rfl) (by simp[Value.oneCell']) ?_;refine c.out _ _ J (fun dt=> ?_)
    clear c K;clear u c8 a3 ax O h B;refine wpAnyH_done (by kernel_rfl) ?_ _;clear P cl ds be c2 aq dt;change Exit.then _ _ _ _ (World.setCells E R 0 (yDL y f d));generalize World.setCells E R 0 (yDL y f d)=fa at J a2 a4 W⊢;simp only[Act.put,List.getElem_toArray,List.getElem_cons_succ,List.getElem_cons_zero];obtain⟨dl,bz,an⟩:=a2.cs3
    go_wp2_with fail
    refine(G.out _ _ _ W a4).mono ?_;rintro q g9 ⟨rfl,Y⟩;have c5:=a2.l Y;have c9:=a4.l Y;have al:=aa W Y;clear J a2 a4 W Y G dl bz an;obtain⟨dp,c1,ap⟩:=c5.cs3
    go_wp2_with fail
    refine(H.out _ _ _ al c9).mono ?_;rintro q ga ⟨rfl,bx⟩;have dc:=aa al bx;clear c5 c9 al bx H dp c1 ap
    go_wp2
    go_ret2
    exact⟨by simp,dc⟩
  ·go_simp
   have bp:=af b1 (.cells (ydA false yN 0) 41);have Z:=ah b1 (ydL false yN 0) 41;have ft:w.heap.size≤b1.heap.size:=bq.size;have fv:=bf.lt;have g4:=t9 c6 (Nat.le_refl b1.heap.size);have g5:=t9 c7 (Nat.le_refl b1.heap.size);have i:=bf.l bp;have ec:=c6.l bp;have bi:=c7.l bp;have d4:=aa bq bp;refine c.out _ _ i (fun en=> ?_)
   clear c K;clear bf c6 c7 bq bp;generalize b1.alloc (.cells (ydA false yN 0) 41)=gm at i Z ec bi d4 en⊢;generalize b1.heap.size=a6 at Z ft fv g4 g5⊢;refine wpAnyH_ready (rs:=[5]) (by kernel_rfl) (by simp) ?_;refine AllReadyH.cons rfl (fun K c=> ?_) AllReadyH.nil
   go_simp
   refine(H2.out _).mono ?_;rintro q b3 ⟨rfl,bb⟩;have r:=i.l bb;have a8:=Z.l bb;have A:=ec.l bb;have ay:=bi.l bb;have d5:=aa d4 bb;clear i Z ec bi d4 bb H2;refine c.out _ _ r (fun fl=> ?_)
   clear c K;refine wpAnyH_ready (rs:=[6]) (by kernel_rfl) (by simp) ?_;refine AllReadyH.cons rfl (fun K c=> ?_) AllReadyH.nil
   go_simp
   have b6:=af b3 (.cells #[.bool false,yT k a.n j,yi a.e,.bool false,yT o b.n m,yi b.e] 41);have co:=ah b3 [.bool false,yT k a.n j,yi a.e,.bool false,yT o b.n m,yi b.e] 41;have c3:w.heap.size≤b3.heap.size:=d5.size;have ar:=r.lt;have e1:=a8.lt;have c4:=t9 A (Nat.le_refl b3.heap.size);have e6:=t9 ay (Nat.le_refl b3.heap.size);have t:=r.l b6;have a9:=a8.l b6;have N:=A.l b6;have b0:=ay.l b6;have cb:=aa d5 b6;refine c.out _ _ t (fun ep=> ?_)
   clear c K;clear r a8 A ay d5 b6;generalize b3.alloc (.cells #[.bool false,yT k a.n j,yi a.e,.bool false,yT o b.n m,yi b.e] 41)=gp at t a9 co N b0 cb ep⊢;generalize b3.heap.size=gb at co c3 ar e1 c4 e6⊢;refine wpAnyH_ready (rs:=[7]) (by kernel_rfl) (by simp) ?_;refine AllReadyH.cons rfl (fun K c=> ?_) AllReadyH.nil
   go_simp
   refine(F.out _ _ cb co N b0).mono ?_;rintro q bl ⟨gv,gz,rfl,f4,cy,cg⟩;have u:=t.l cg;have ad:=a9.l cg;have eh:=aa cb cg;obtain⟨xo,xc,p⟩:=f4.shape;subst p;obtain⟨f,d,p⟩:=cy.shape;subst p;clear t a9 co N b0 cb cg F;refine c.out _ _ u (fun eu=> ?_)
   clear c K;refine tq 8 (yDV y f d) rfl (fun _ _=>by kernel_rfl) eu ?_
   refine wpAnyH_ready (rs:=[10]) (by kernel_rfl) (by simp) ?_;refine AllReadyH.cons rfl (fun K c=> ?_) AllReadyH.nil
   have h:But a6 bl (bl.setCells a6 0 (yDL y f d)):=de _ _ _ _;have B:bl.there a6 0 3:=dD ad;have cw:au (bl.setCells a6 0 (yDL y f d)) a6 41 (yDL y f d):=ad.sets _ rfl;have d1:=h.rd cy (aX cy ad (by simp));have e9:=h.loc u (by omega);have cd:=h.below eh (by omega);rw[if_pos (by kernel_rfl)];refine wp_store_mid 41 (.tmp 4) (.tmp 13) rfl a6 0 (yDA y f d) (by kernel_rfl) (by kernel_rfl) B (by kernel_rfl) (by simp[Value.oneCell']) ?_;refine c.out _ _ e9 (fun fo=> ?_)
   clear c K;clear ad f4 cy u eh h B;refine wpAnyH_done (by kernel_rfl) ?_ _;clear P cl en fl ep eu fo;change Exit.then _ _ _ _ (World.setCells bl a6 0 (yDL y f d));generalize World.setCells bl a6 0 (yDL y f d)=gg at e9 cw d1 cd⊢;simp only[Act.put,List.getElem_toArray,List.getElem_cons_succ,List.getElem_cons_zero];obtain⟨bz,an,c0⟩:=cw.cs3
   go_wp2_with fail
   refine(G.out _ _ _ cd d1).mono ?_;rintro q h3 ⟨rfl,cj⟩;have f1:=cw.l cj;have f8:=d1.l cj;have bs:=aa cd cj;clear e9 cw d1 cd cj G bz an c0;obtain⟨c1,ap,dq⟩:=f1.cs3
   go_wp2_with fail
   refine(H.out _ _ _ bs f8).mono ?_;rintro q h6 ⟨rfl,ek⟩;have fc:=aa bs ek;clear f1 f8 bs ek H c1 ap dq
   go_wp2
   go_ret2
   exact⟨by simp,fc⟩
 ·go_simp
  have bn:=af ae (.cells (ydA false yN 0) 41);have cn:=ah ae (ydL false yN 0) 41;have fr:w.heap.size≤ae.heap.size:=b8.size;have fs:=q8.lt;have g2:=t9 r9 (Nat.le_refl ae.heap.size);have g3:=t9 bg (Nat.le_refl ae.heap.size);have Z:=q8.l bn;have eb:=r9.l bn;have Q:=bg.l bn;have d3:=aa b8 bn;refine c.out _ _ Z (fun em=> ?_)
  clear c K;clear q8 r9 bg b8 bn;generalize ae.alloc (.cells (ydA false yN 0) 41)=gj at Z cn eb Q d3 em⊢;generalize ae.heap.size=a5 at cn fr fs g2 g3⊢;refine wpAnyH_ready (rs:=[2]) (by kernel_rfl) (by simp) ?_;refine AllReadyH.cons rfl (fun K c=> ?_) AllReadyH.nil
  go_simp
  refine(H1.out _).mono ?_;rintro q h1 ⟨rfl,ba⟩;have i:=Z.l ba;have ey:=cn.l ba;have bi:=eb.l ba;have f6:=Q.l ba;have eg:=aa d3 ba;clear Z cn eb Q d3 ba H1;refine c.out _ _ i (fun fk=> ?_)
  clear c K;refine wpAnyH_ready (rs:=[5]) (by kernel_rfl) (by simp) ?_;refine AllReadyH.cons rfl (fun K c=> ?_) AllReadyH.nil
  go_simp
  refine(H2.out _).mono ?_;rintro q b4 ⟨rfl,bd⟩;have a8:=i.l bd;have e7:=ey.l bd;have ay:=bi.l bd;have ed:=f6.l bd;have d6:=aa eg bd;clear i ey bi f6 eg bd H2;refine c.out _ _ a8 (fun fn=> ?_)
  clear c K;refine wpAnyH_ready (rs:=[6]) (by kernel_rfl) (by simp) ?_;refine AllReadyH.cons rfl (fun K c=> ?_) AllReadyH.nil
  go_simp
  have b7:=af b4 (.cells #[.bool false,yT k a.n j,yi a.e,.bool false,yT o b.n m,yi b.e] 41);have cp:=ah b4 [.bool false,yT k a.n j,yi a.e,.bool false,yT o b.n m,yi b.e] 41;have ar:w.heap.size≤b4.heap.size:=d6.size;have e1:=a8.lt;have fx:=e7.lt;have e6:=t9 ay (Nat.le_refl b4.heap.size);have g6:=t9 ed (Nat.le_refl b4.heap.size);have a9:=a8.l b7;have e8:=e7.l b7;have b0:=ay.l b7;have ee:=ed.l b7;have cc:=aa d6 b7;refine c.out _ _ a9 (fun es=> ?_)
  clear c K;clear a8 e7 ay ed d6 b7;generalize b4.alloc (.cells #[.bool false,yT k a.n j,yi a.e,.bool false,yT o b.n m,yi b.e] 41)=gq at a9 e8 cp b0 ee cc es⊢;generalize b4.heap.size=gc at cp ar e1 fx e6 g6⊢;refine wpAnyH_ready (rs:=[7]) (by kernel_rfl) (by simp) ?_;refine AllReadyH.cons rfl (fun K c=> ?_) AllReadyH.nil
  go_simp
  refine(F.out _ _ cc cp b0 ee).mono ?_;rintro q bm ⟨gx,h0,rfl,f5,cz,ch⟩;have ad:=a9.l ch;have cv:=e8.l ch;have ei:=aa cc ch;obtain⟨xo,xc,p⟩:=f5.shape;subst p;obtain⟨f,d,p⟩:=cz.shape;subst p;clear a9 e8 cp b0 ee cc ch F;refine c.out _ _ ad (fun ev=> ?_)
  clear c K;refine tq 8 (yDV y f d) rfl (fun _ _=>by kernel_rfl) ev ?_
  refine wpAnyH_ready (rs:=[10]) (by kernel_rfl) (by simp) ?_;refine AllReadyH.cons rfl (fun K c=> ?_) AllReadyH.nil
  have h:But a5 bm (bm.setCells a5 0 (yDL y f d)):=de _ _ _ _;have B:bm.there a5 0 3:=dD cv;have J:au (bm.setCells a5 0 (yDL y f d)) a5 41 (yDL y f d):=cv.sets _ rfl;have d2:=h.rd cz (aX cz cv (by simp));have ea:=h.loc ad (by omega);have ce:=h.below ei (by omega);rw[if_pos (by kernel_rfl)];refine wp_store_mid 41 (.tmp 4) (.tmp 13) rfl a5 0 (yDA y f d) (by kernel_rfl) (by kernel_rfl) B (by kernel_rfl) (by simp[Value.oneCell']) ?_;refine c.out _ _ ea (fun fp=> ?_)
  clear c K;clear cv f5 cz ad ei h B;refine wpAnyH_done (by kernel_rfl) ?_ _;clear P em fk fn es ev fp;change Exit.then _ _ _ _ (World.setCells bm a5 0 (yDL y f d));generalize World.setCells bm a5 0 (yDL y f d)=gi at ea J d2 ce⊢;simp only[Act.put,List.getElem_toArray,List.getElem_cons_succ,List.getElem_cons_zero];obtain⟨an,c0,dn⟩:=J.cs3
  go_wp2_with fail
  refine(G.out _ _ _ ce d2).mono ?_;rintro q h4 ⟨rfl,ck⟩;have f2:=J.l ck;have f9:=d2.l ck;have db:=aa ce ck;clear ea J d2 ce ck G an c0 dn;obtain⟨ap,dq,fj⟩:=f2.cs3
  go_wp2_with fail
  refine(H.out _ _ _ db f9).mono ?_;rintro q h7 ⟨rfl,el⟩;have fd:=aa db el;clear f2 f9 db el H ap dq fj
  go_wp2
  go_ret2
  exact⟨by simp,fd⟩
end Go.Proofs.YthhiidikgchdeaaGreatDoor
