/-
  Texts laid together: Bs1, Bs2, BlN, BlM, Bl20.
-/
import Derived.Test.YtiakgfmlpdfhdaaDoorSv26
import Derived.Test.YtiakgfmlpdfhdaaDoorSv27
import Derived.Test.YtiakgfmlpdfhdaaDoorSv28
set_option maxRecDepth 100000
set_option maxHeartbeats 1600000
namespace Go.Proofs.YtiakgfmlpdfhdaaDoor
open Go.RowKit
theorem FN (b:Nat)(m:Nat)(x:Nat→ak)(ao:Nat→Option Addr)(ca:Nat→Nat)(w:World)(hm:2≤m)(hm2:m≤4)(hb:b<w.heap.size)
  (h0: ∀j,j<m→w.cell? ⟨b,3*j,none⟩=some (.bool (x j).s)) (h1: ∀j,j<m→w.cell? ⟨b,3*j+1,none⟩=some (.slice (ao j) (Dg.dg 4294967296 (x j).n).length (ca j))) (h2: ∀j,j<m→w.cell? ⟨b,3*j+2,none⟩=some (yi (x j).e))
  (HC: ∀j k w1,j<m→k<m→yB w w1→yC 63 #[.agg #[.bool (x j).s,.slice (ao j) (Dg.dg 4294967296 (x j).n).length (ca j),yi (x j).e],.agg #[.bool (x k).s,.slice (ao k) (Dg.dg 4294967296 (x k).n).length (ca k),yi (x k).e]] w1 (yR w1 (yi (bJ (x j) (x k))))):
  yC 68 #[.slice (some ⟨b,0,none⟩) m m] w (ac8 w x ao ca (loI x (m-1)) (hiI x (m-1))):=by
 have c00:w.cell? ⟨b,0,none⟩=some (.bool (x 0).s):=h0 0 (by omega);have c01:w.cell? ⟨b,1,none⟩=some (.slice (ao 0) (Dg.dg 4294967296 (x 0).n).length (ca 0)):=h1 0 (by omega);have c02:w.cell? ⟨b,2,none⟩=some (yi (x 0).e):=h2 0 (by omega);have HH0:Hid _:=h0;have HH1:Hid _:=h1;have HH2:Hid _:=h2;have HHC:Hid _:=HC;clear h0 h1 h2 HC;have n1:b≠w.heap.size:=by omega
 have hm':(0:Int)< (m:Int):=by omega
 have LS: ∀P W,yB w W→mL W P (.bool (x 0).s) (.slice (ao 0) (Dg.dg 4294967296 (x 0).n).length (ca 0)) (yi (x 0).e) (.bool (x 0).s) (.slice (ao 0) (Dg.dg 4294967296 (x 0).n).length (ca 0)) (yi (x 0).e)→mL W w.heap.size (.bool false) yN (yi 0) (.bool false) yN (yi 0)→Sz w m x ao ca P (yi 0) W:=
  fun P W hB hP hK=>⟨0,by omega,rfl,hB,hP,hK⟩
 have LS':Hid _:=LS;clear LS;obtain⟨s,hs⟩: ∃s,(x 0).s=s:=⟨_,rfl⟩;obtain⟨a0,ha0⟩: ∃s,ao 0=s:=⟨_,rfl⟩;obtain⟨c0,hc0⟩: ∃s,ca 0=s:=⟨_,rfl⟩;obtain⟨la,hla⟩: ∃s,(Dg.dg 4294967296 (x 0).n).length=s:=⟨_,rfl⟩;obtain⟨e,he⟩: ∃s,(x 0).e=s:=⟨_,rfl⟩;rw[hs,ha0,hc0,hla,he] at LS';rw[hs] at c00;rw[ha0,hc0,hla] at c01;rw[he] at c02;clear hs ha0 hc0 hla he;have k0:=aJ w (.bool false) yN (yi 0) (.bool false) yN (yi 0) 68;have b0:=af w (.cells #[.bool false,yN,yi 0,.bool false,yN,yi 0] 68)
 go_enter Tryd.func68,Tryd.ntmps68
 go_wp2_with fail
 refine(Qy s a0 la c0 e _).mono ?_;rintro z w1 ⟨rfl,b1⟩;have ba:=af w1 (.cells #[.bool s,.slice a0 la c0,yi e,.bool s,.slice a0 la c0,yi e] 68);have p1:=aJ w1 (.bool s) (.slice a0 la c0) (yi e) (.bool s) (.slice a0 la c0) (yi e) 68;have k2:=(k0.l b1).l ba;have hPw:w.heap.size<w1.heap.size:=(k0.l b1).1;have b02:=aa (aa b0 b1) ba;have L0:=LS'.out _ _ b02 p1 k2;clear k0 b0 b1 ba p1 k2 b02 LS' c00 c01 c02 n1
 go_wp2_with fail
 generalize w1.heap.size=P at hPw L0⊢;generalize(w1.alloc (.cells #[.bool s,.slice a0 la c0,yi e,.bool s,.slice a0 la c0,yi e] 68))=W at L0⊢;have hp0:P≠w.heap.size:=by omega
 have hp1:w.heap.size≤P:=by omega
 go_loopw [13] (Sz w m x ao ca P) (fun iv _=>m-(intOf iv).toNat)
 case atStart=>exact L0
 case round=>
  clear L0;obtain⟨i,hi,rfl,bel,lp,lk⟩:=hrel
  by_cases hlt:i+1<m
  ·have d0:wr.cell? ⟨b,3+i*3,none⟩=some (.bool (x (i+1)).s):=by rw[show 3+i*3=3*(i+1) by omega];exact cell_later bel (HH0.out (i+1) hlt)
   have d1:wr.cell? ⟨b,3+i*3+1,none⟩=some (.slice (ao (i+1)) (Dg.dg 4294967296 (x (i+1)).n).length (ca (i+1))):=by rw[show 3+i*3=3*(i+1) by omega];exact cell_later bel (HH1.out (i+1) hlt)
   have d2:wr.cell? ⟨b,3+i*3+2,none⟩=some (yi (x (i+1)).e):=by rw[show 3+i*3=3*(i+1) by omega];exact cell_later bel (HH2.out (i+1) hlt)
   have hl1:=tB x i;have hl2:=wN x i;have ba:=af wr (.cells #[.bool (x (i+1)).s,.slice (ao (i+1)) (Dg.dg 4294967296 (x (i+1)).n).length (ca (i+1)),yi (x (i+1)).e] 66);have r1:=aA wr (.bool (x (i+1)).s) (.slice (ao (i+1)) (Dg.dg 4294967296 (x (i+1)).n).length (ca (i+1))) (yi (x (i+1)).e) 66;have bel1:=aa bel ba;have hrp:P≠wr.heap.size:=by have:=lp.1;omega
   have lp1:=mL.l lp ba;have lk1:=lk.l ba;clear lp lk ba;obtain⟨-,⟨p0,p1,p2,-⟩,-⟩:=id lp1
   go_wp2_with fail
   refine(HHC.out (i+1) (loI x i) _ hlt (by omega) bel1).mono ?_;rintro z w2 ⟨rfl,b2⟩;have bel2:=aa bel1 b2;have lp2:=mL.l lp1 b2;have lk2:=lk1.l b2;have r2:=r1.l b2;clear p0 p1 p2 lp1 lk1 r1 b2 bel1 d0 d1 d2;generalize wr.heap.size=R at hrp r2⊢;obtain⟨-,⟨e0,e1,e2⟩,-⟩:=id r2
   by_cases hc:bJ (x (i+1)) (x (loI x i))<0
   ·have hI:=DN hc
    generalize bJ (x (i+1)) (x (loI x i))=c1 at hc⊢;obtain⟨hpl,⟨p0,p1,p2,-⟩,f0,f1,f2,-⟩:=id lp2;have lp3:=abg lp2 (.bool (x (i+1)).s) (.slice (ao (i+1)) (Dg.dg 4294967296 (x (i+1)).n).length (ca (i+1))) (yi (x (i+1)).e);have r3:=r2.apart (c:=P) hrp (.bool (x (i+1)).s) (.slice (ao (i+1)) (Dg.dg 4294967296 (x (i+1)).n).length (ca (i+1))) (yi (x (i+1)).e);have lk3:=lk2.apart3 (c:=P) (by omega) (.bool (x (i+1)).s) (.slice (ao (i+1)) (Dg.dg 4294967296 (x (i+1)).n).length (ca (i+1))) (yi (x (i+1)).e);have bel3:=am bel2 (b:=P) (by omega) (.bool (x (i+1)).s) (.slice (ao (i+1)) (Dg.dg 4294967296 (x (i+1)).n).length (ca (i+1))) (yi (x (i+1)).e);obtain⟨-,⟨q0,q1,q2,q3,q4,q5⟩,-⟩:=id lp3;obtain⟨-,⟨s0,s1,s2⟩,-⟩:=id r3;clear lp2 lk2 r2 bel2
    go_wp2_with fail
    refine(HHC.out (i+1) (hiI x i) _ hlt (by omega) bel3).mono ?_;rintro z w4 ⟨rfl,b4⟩;have bel4:=aa bel3 b4;have lp4:=lp3.l b4;have lk4:=lk3.l b4;have r4:=r3.l b4;clear lp3 lk3 r3 bel3 b4 q0 q1 q2 q3 q4 q5 s0 s1 s2;obtain⟨-,⟨t0,t1,t2⟩,-⟩:=id r4
    by_cases hd:0<bJ (x (i+1)) (x (hiI x i))
    ·have hJ:=uP hd
     generalize bJ (x (i+1)) (x (hiI x i))=c2 at hd⊢;obtain⟨hql,⟨-,-,-,q0,q1,q2⟩,-,-,-,g0,g1,g2⟩:=id lp4;have lp5:=Sy lp4 (.bool (x (i+1)).s) (.slice (ao (i+1)) (Dg.dg 4294967296 (x (i+1)).n).length (ca (i+1))) (yi (x (i+1)).e);have lk5:=lk4.apart3h (c:=P) (by omega) (.bool (x (i+1)).s) (.slice (ao (i+1)) (Dg.dg 4294967296 (x (i+1)).n).length (ca (i+1))) (yi (x (i+1)).e);have bel5:=Dd bel4 (b:=P) (by omega) (.bool (x (i+1)).s) (.slice (ao (i+1)) (Dg.dg 4294967296 (x (i+1)).n).length (ca (i+1))) (yi (x (i+1)).e);clear lp4 lk4 r4 bel4
     go_wp2
     go_roundw
     case rel=>exact⟨i+1,by omega,by go_num,bel5,by rw[hI,hJ];exact lp5,lk5⟩
     case measure=>simp[intOf];omega
    ·have hJ:=uQ hd
     generalize bJ (x (i+1)) (x (hiI x i))=c2 at hd⊢;clear r4
     go_wp2
     go_roundw
     case rel=>exact⟨i+1,by omega,by go_num,bel4,by rw[hI,hJ];exact lp4,lk4⟩
     case measure=>simp[intOf];omega
   ·have hI:=DO hc
    generalize bJ (x (i+1)) (x (loI x i))=c1 at hc⊢;obtain⟨-,⟨-,-,-,q0,q1,q2⟩,-⟩:=id lp2
    go_wp2_with fail
    refine(HHC.out (i+1) (hiI x i) _ hlt (by omega) bel2).mono ?_;rintro z w4 ⟨rfl,b4⟩;have bel4:=aa bel2 b4;have lp4:=mL.l lp2 b4;have lk4:=lk2.l b4;have r4:=r2.l b4;clear lp2 lk2 r2 bel2 b4 q0 q1 q2;obtain⟨-,⟨t0,t1,t2⟩,-⟩:=id r4
    by_cases hd:0<bJ (x (i+1)) (x (hiI x i))
    ·have hJ:=uP hd
     generalize bJ (x (i+1)) (x (hiI x i))=c2 at hd⊢;obtain⟨hql,⟨-,-,-,q0,q1,q2⟩,-,-,-,g0,g1,g2⟩:=id lp4;have lp5:=Sy lp4 (.bool (x (i+1)).s) (.slice (ao (i+1)) (Dg.dg 4294967296 (x (i+1)).n).length (ca (i+1))) (yi (x (i+1)).e);have lk5:=lk4.apart3h (c:=P) (by omega) (.bool (x (i+1)).s) (.slice (ao (i+1)) (Dg.dg 4294967296 (x (i+1)).n).length (ca (i+1))) (yi (x (i+1)).e);have bel5:=Dd bel4 (b:=P) (by omega) (.bool (x (i+1)).s) (.slice (ao (i+1)) (Dg.dg 4294967296 (x (i+1)).n).length (ca (i+1))) (yi (x (i+1)).e);clear lp4 lk4 r4 bel4
     go_wp2
     go_roundw
     case rel=>exact⟨i+1,by omega,by go_num,bel5,by rw[hI,hJ];exact lp5,lk5⟩
     case measure=>simp[intOf];omega
    ·have hJ:=uQ hd
     generalize bJ (x (i+1)) (x (hiI x i))=c2 at hd⊢;clear r4
     go_wp2
     go_roundw
     case rel=>exact⟨i+1,by omega,by go_num,bel4,by rw[hI,hJ];exact lp4,lk4⟩
     case measure=>simp[intOf];omega
  ·have hmi:m-1=i:=by omega
   rw[hmi];unfold Yu at lp;unfold ac8;obtain⟨-,⟨p0,p1,p2,p3,p4,p5⟩,-⟩:=id lp;obtain⟨hl,⟨v0,v1,v2,v3,v4,v5⟩,f0,f1,f2,f3,f4,f5⟩:=id lk
   go_wp2
   obtain⟨-,⟨u0,u1,u2,u3,u4,u5⟩,-⟩:=bP lk (.bool (x (loI x i)).s) (.slice (ao (loI x i)) (Dg.dg 4294967296 (x (loI x i)).n).length (ca (loI x i))) (yi (x (loI x i)).e) (.bool (x (hiI x i)).s) (.slice (ao (hiI x i)) (Dg.dg 4294967296 (x (hiI x i)).n).length (ca (hiI x i))) (yi (x (hiI x i)).e);have bb:=aW bel (show w.heap.size≤w.heap.size by omega) (.bool (x (loI x i)).s) (.slice (ao (loI x i)) (Dg.dg 4294967296 (x (loI x i)).n).length (ca (loI x i))) (yi (x (loI x i)).e) (.bool (x (hiI x i)).s) (.slice (ao (hiI x i)) (Dg.dg 4294967296 (x (hiI x i)).n).length (ca (hiI x i))) (yi (x (hiI x i)).e)
   refine bodyPost_ret (v:= .agg #[.bool (x (loI x i)).s,.slice (ao (loI x i)) (Dg.dg 4294967296 (x (loI x i)).n).length (ca (loI x i)),yi (x (loI x i)).e,.bool (x (hiI x i)).s,.slice (ao (hiI x i)) (Dg.dg 4294967296 (x (hiI x i)).n).length (ca (hiI x i)),yi (x (hiI x i)).e]) (by simp[results,Tryd.results68,go_sem,u0,u1,u2,u3,u4,u5]) rfl ?_;rw[hmi];exact⟨rfl,bb⟩
theorem Hu (s:Bool)(ao:Option Addr)(ca la:Nat)(e:Int)(t:Bool)(bo:Option Addr)(cb lb:Nat)(f:Int)(r q:ak×Int)(w:World)
  (HS: ∀w1,yB w w1→yC 64 #[ydV s (.slice ao la ca) e] w1 (gR w1 r))
  (HT: ∀w1,yB w w1→yC 64 #[ydV t (.slice bo lb cb) f] w1 (gR w1 q)):
  yC 45 #[.agg #[.bool s,.slice ao la ca,yi e,.bool t,.slice bo lb cb,yi f]] w (jE w (iD r q)):=by
 have H1:Hid _:=HS;have H2:Hid _:=HT;clear HS HT;obtain⟨⟨rs,rn,re⟩,c⟩:=r;have l1:=(aJ w (.bool s) (.slice ao la ca) (yi e) (.bool t) (.slice bo lb cb) (yi f) 68).l (af _ (.cells #[.bool false,yN,yi 0,.bool false,yN,yi 0] 27));have k1:=aJ (w.alloc (.cells #[.bool s,.slice ao la ca,yi e,.bool t,.slice bo lb cb,yi f] 68)) (.bool false) yN (yi 0) (.bool false) yN (yi 0) 27;have b1:=aa (af w (.cells #[.bool s,.slice ao la ca,yi e,.bool t,.slice bo lb cb,yi f] 68)) (af _ (.cells #[.bool false,yN,yi 0,.bool false,yN,yi 0] 27));simp only[World.size_alloc] at k1;obtain⟨-,⟨c0,c1,c2,c3,c4,c5⟩,-⟩:=id l1
 go_enter Tryd.func45,Tryd.ntmps45
 go_wp2_with fail
 refine(H1.out _ b1).mono ?_;rintro z w4 ⟨v4,rfl,o4,b4⟩;have b04:=aa b1 b4;have q4:=l1.l b4;have k4:=k1.l b4;have o4:=o4.lower (show w.heap.size+2≤_ from by have:=k1.1;omega)
 clear b4 l1 k1 b1 c0 c1 c2 c3 c4 c5;obtain⟨ao4,cp4,h4⟩:=o4.rd.shape;subst h4;simp only at o4⊢;have b5:=af w4 (.cells (ydA rs (yT ao4 rn cp4) re) 25);have a5:=aA w4 (.bool rs) (yT ao4 rn cp4) (yi re) 25;have b05:=aa b04 b5;have q5:=q4.l b5;have k5:=k4.l b5;have o5:=o4.l b5;clear b04 q4 k4 b5 o4;obtain⟨-,⟨-,-,-,p3,p4,p5⟩,-⟩:=id q5
 by_cases hc:c=0
 ·subst hc
  obtain⟨⟨qs,qn,qe⟩,d⟩:=q
  go_wp2_with fail
  refine(H2.out _ b05).mono ?_;rintro z w7 ⟨v7,rfl,o7,b7⟩;have b07:=aa b05 b7;have a7:=a5.l b7;have k7:=k5.l b7;have o67:=o5.l b7;have o7:=o7.lower (show w.heap.size+2≤_ from by have:=k5.1;omega)
  clear b05 a5 k5 q5 b7 o5 p3 p4 p5;obtain⟨ao7,cp7,h7⟩:=o7.rd.shape;subst h7;simp only at o7⊢;have b8:=af w7 (.cells (ydA qs (yT ao7 qn cp7) qe) 25);have e8:=aA w7 (.bool qs) (yT ao7 qn cp7) (yi qe) 25;have bX:=aa b07 b8;have a8:=a7.l b8;have kX:=k7.l b8;have o68:=o67.l b8;have o78:=o7.l b8;clear b07 a7 k7 b8 o67 o7
  by_cases hd:d=0
  ·subst hd
   have hR:iD (⟨rs,rn,re⟩,0) (⟨qs,qn,qe⟩,0)=(⟨rs,rn,re⟩,⟨qs,qn,qe⟩,0):=by simp[iD]
   obtain⟨-,⟨i0,i1,i2⟩,-⟩:=id a8;obtain⟨-,⟨j0,j1,j2⟩,-⟩:=id e8;obtain⟨hl,⟨v0,v1,v2,v3,v4,v5⟩,f0,f1,f2,f3,f4,f5⟩:=id kX
   go_wp2
   obtain⟨-,⟨u0,u1,u2,u3,u4,u5⟩,-⟩:=bP kX (.bool rs) (yT ao4 rn cp4) (yi re) (.bool qs) (yT ao7 qn cp7) (yi qe);have bb:=aW bX (show w.heap.size≤w.heap.size+1 by omega) (.bool rs) (yT ao4 rn cp4) (yi re) (.bool qs) (yT ao7 qn cp7) (yi qe)
   refine bodyPost_ret (v:= .tuple #[.agg #[.bool rs,yT ao4 rn cp4,yi re,.bool qs,yT ao7 qn cp7,yi qe],yi 0]) (by simp[results,Tryd.results45,go_sem,u0,u1,u2,u3,u4,u5]) rfl ?_
   try rw[hR]
   exact⟨_,_,rfl,(o68.apart6 (by omega) _ _ _ _ _ _).lower (by omega),(o78.apart6 (by omega) _ _ _ _ _ _).lower (by omega),bb⟩
  ·have hR:iD (⟨rs,rn,re⟩,0) (⟨qs,qn,qe⟩,d)=(⟨false,0,0⟩,⟨false,0,0⟩,d):=by simp[iD,hd]
   obtain⟨hl,⟨v0,v1,v2,v3,v4,v5⟩,f0,f1,f2,f3,f4,f5⟩:=id kX
   go_wp2
   obtain⟨-,⟨u0,u1,u2,u3,u4,u5⟩,-⟩:=bP kX (.bool false) yN (yi 0) (.bool false) yN (yi 0);have bb:=aW bX (show w.heap.size≤w.heap.size+1 by omega) (.bool false) yN (yi 0) (.bool false) yN (yi 0)
   refine bodyPost_ret (v:= .tuple #[.agg #[.bool false,yN,yi 0,.bool false,yN,yi 0],yi d]) (by simp[results,Tryd.results45,go_sem,u0,u1,u2,u3,u4,u5]) rfl ?_
   try rw[hR]
   exact⟨_,_,rfl,aQ _ _ _ _,aQ _ _ _ _,bb⟩
 ·have hR:iD (⟨rs,rn,re⟩,c) q=(⟨false,0,0⟩,⟨false,0,0⟩,c):=by simp[iD,hc]
  have kX:=k5;have bX:=b05;obtain⟨hl,⟨v0,v1,v2,v3,v4,v5⟩,f0,f1,f2,f3,f4,f5⟩:=id kX
  go_wp2
  obtain⟨-,⟨u0,u1,u2,u3,u4,u5⟩,-⟩:=bP kX (.bool false) yN (yi 0) (.bool false) yN (yi 0);have bb:=aW bX (show w.heap.size≤w.heap.size+1 by omega) (.bool false) yN (yi 0) (.bool false) yN (yi 0)
  refine bodyPost_ret (v:= .tuple #[.agg #[.bool false,yN,yi 0,.bool false,yN,yi 0],yi c]) (by simp[results,Tryd.results45,go_sem,u0,u1,u2,u3,u4,u5]) rfl ?_
  try rw[hR]
  exact⟨_,_,rfl,aQ _ _ _ _,aQ _ _ _ _,bb⟩
theorem Ag.l {W W':World}{base:Nat}{v:Value}(h:Ag W base v)(hb:yB W W'):Ag W' base v:=by
 obtain⟨p,h1,h2,h3⟩:=h;exact⟨p,h1,h2,h3.l hb⟩
theorem BT.l {W W':World}{base:Nat}{v:Value}(h:BT W base v)(hb:yB W W'):BT W' base v:=by
 obtain⟨p,h1,h2,h3,h4⟩:=h;exact⟨p,h1,h2,h3.l hb,h4.l hb⟩
theorem V4.l {W W':World}{base:Nat}{v:Value}(h:V4 W base v)(hb:yB W W'):V4 W' base v:=by
 obtain⟨p,h1,h2,h3,h4⟩:=h;exact⟨p,h1,h2,h3.l hb,h4.l hb⟩
theorem RB6.l {W W':World}{v:Value}{x y:ak}(h:RB6 W v x y)(hb:yB W W'):RB6 W' v x y:=by
 obtain⟨p,q,h1,h2,h3⟩:=h;exact⟨p,q,h1,h2.l hb,h3.l hb⟩
theorem vD (s:Bool)(ao:Option Addr)(ca:Nat)(xs:List Nat)(e:Int)(t:Bool)(bo:Option Addr)(cb:Nat)(ys:List Nat)(f:Int)(co:Option Addr)(cc:Nat)(d':Option Addr)(cd:Nat)(w:World)
  (ha:Rd w .u32 (.slice ao xs.length ca) xs) (hb:Rd w .u32 (.slice bo ys.length cb) ys) (hc:Rd w .u32 (.slice co xs.length cc) xs) (hd:Rd w .u32 (.slice d' ys.length cd) ys):
  yC 9 #[.agg #[.bool s,.slice ao xs.length ca,yi e,.bool t,.slice bo ys.length cb,yi f],.agg #[.bool s,.slice co xs.length cc,yi e,.bool t,.slice d' ys.length cd,yi f]] w (yR w (.bool true)):=by
 have H1:Hid (yH w 24 #[ydV s (.slice ao xs.length ca) e,ydV s (.slice co xs.length cc) e] (.bool true)):=fun w1 b1=>by
  have h:=ig s ao ca xs e s co cc xs e w1 (ha.l b1) (hc.l b1)
  rwa [decide_eq_true ⟨rfl,rfl,rfl⟩] at h
 have H2:Hid (yH w 24 #[ydV t (.slice bo ys.length cb) f,ydV t (.slice d' ys.length cd) f] (.bool true)):=fun w1 b1=>by
  have h:=ig t bo cb ys f t d' cd ys f w1 (hb.l b1) (hd.l b1)
  rwa [decide_eq_true ⟨rfl,rfl,rfl⟩] at h
 obtain⟨la,hla⟩: ∃l,xs.length=l:=⟨_,rfl⟩;obtain⟨lb,hlb⟩: ∃l,ys.length=l:=⟨_,rfl⟩;rw[hla] at H1⊢;rw[hlb] at H2⊢;clear ha hb hc hd hla hlb;have bA:=aa (af w (.cells #[.bool s,.slice ao la ca,yi e,.bool t,.slice bo lb cb,yi f] 27)) (af _ (.cells #[.bool s,.slice co la cc,yi e,.bool t,.slice d' lb cd,yi f] 27));have l1:=(aJ w (.bool s) (.slice ao la ca) (yi e) (.bool t) (.slice bo lb cb) (yi f) 27).l (af _ (.cells #[.bool s,.slice co la cc,yi e,.bool t,.slice d' lb cd,yi f] 27));have m1:=aJ (w.alloc (.cells #[.bool s,.slice ao la ca,yi e,.bool t,.slice bo lb cb,yi f] 27)) (.bool s) (.slice co la cc) (yi e) (.bool t) (.slice d' lb cd) (yi f) 27;rw[World.size_alloc] at m1
 go_enter Tryd.func9,Tryd.ntmps9
 go_wp2_with fail
 refine(H1.out _ bA).mono ?_;rintro z w2 ⟨rfl,b2⟩;have b02:=aa bA b2;have l2:=l1.l b2;have m2:=m1.l b2;clear bA l1 m1 b2;obtain⟨-,⟨c0,c1,c2,c3,c4,c5⟩,-⟩:=id l2;obtain⟨-,⟨x0,x1,x2,x3,x4,x5⟩,-⟩:=id m2
 go_wp2_with fail
 refine(H2.out _ b02).mono ?_;rintro z w3 ⟨rfl,b3⟩;have b03:=aa b02 b3
 go_wp2
 go_ret
 exact⟨rfl,b03⟩
end Go.Proofs.YtiakgfmlpdfhdaaDoor
