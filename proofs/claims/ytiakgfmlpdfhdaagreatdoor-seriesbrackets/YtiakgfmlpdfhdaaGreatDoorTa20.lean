/-
  Texts laid together: Bs2, Bs1, BlN, Bl9.
-/
import Derived.Test.YtiakgfmlpdfhdaaGreatDoorTa14
import Derived.Test.YtiakgfmlpdfhdaaGreatDoorTa16
set_option maxRecDepth 100000
set_option maxHeartbeats 1600000
namespace Go.Proofs.YtiakgfmlpdfhdaaGreatDoor
open _root_.Go.Proofs.Tryz
open Go.RowKit
theorem Own.apart6 {w:World}{base e b:Nat}{k:IntKind}{v:Value}{zs:List Nat}(h:Own w base e k v zs)(hb:b<base)(x0 x1 x2 x3 x4 x5:Value):
  Own ((((((w.setCell ⟨b,0,none⟩ x0).setCell ⟨b,1,none⟩ x1).setCell ⟨b,2,none⟩ x2).setCell ⟨b,3,none⟩ x3).setCell ⟨b,4,none⟩ x4).setCell ⟨b,5,none⟩ x5) base e k v zs:=
 (((((h.apart (bI w b 0 x0) hb).apart (bI _ b 1 x1) hb).apart (bI _ b 2 x2) hb).apart (bI _ b 3 x3) hb).apart (bI _ b 4 x4) hb).apart (bI _ b 5 x5) hb
theorem FN (b:Nat)(m:Nat)(x:Nat→ak)(ao:Nat→Option Addr)(ca:Nat→Nat)(w:World)(hm:2≤m)(hm2:m≤4)(hb:b<w.heap.size)
  (h0: ∀j,j<m→w.cell? ⟨b,3*j,none⟩=some (.bool (x j).s)) (h1: ∀j,j<m→w.cell? ⟨b,3*j+1,none⟩=some (.slice (ao j) (Dg.dg 4294967296 (x j).n).length (ca j))) (h2: ∀j,j<m→w.cell? ⟨b,3*j+2,none⟩=some (yi (x j).e))
  (HC: ∀j k w1,j<m→k<m→yB w w1→yC 45 #[.agg #[.bool (x j).s,.slice (ao j) (Dg.dg 4294967296 (x j).n).length (ca j),yi (x j).e],.agg #[.bool (x k).s,.slice (ao k) (Dg.dg 4294967296 (x k).n).length (ca k),yi (x k).e]] w1 (yR w1 (yi (bJ (x j) (x k))))):
  yC 89 #[.slice (some ⟨b,0,none⟩) m m] w (ac8 w x ao ca (loI x (m-1)) (hiI x (m-1))):=by
 have c00:w.cell? ⟨b,0,none⟩=some (.bool (x 0).s):=h0 0 (by omega);have c01:w.cell? ⟨b,1,none⟩=some (.slice (ao 0) (Dg.dg 4294967296 (x 0).n).length (ca 0)):=h1 0 (by omega);have c02:w.cell? ⟨b,2,none⟩=some (yi (x 0).e):=h2 0 (by omega);have HH0:Hid _:=h0;have HH1:Hid _:=h1;have HH2:Hid _:=h2;have HHC:Hid _:=HC;clear h0 h1 h2 HC;have n1:b≠w.heap.size:=by omega
 have hm':(0:Int)< (m:Int):=by omega
 have LS: ∀P W,yB w W→mL W P (.bool (x 0).s) (.slice (ao 0) (Dg.dg 4294967296 (x 0).n).length (ca 0)) (yi (x 0).e) (.bool (x 0).s) (.slice (ao 0) (Dg.dg 4294967296 (x 0).n).length (ca 0)) (yi (x 0).e)→mL W w.heap.size (.bool false) yN (yi 0) (.bool false) yN (yi 0)→Sz w m x ao ca P (yi 0) W:=
  fun P W hB hP hK=>⟨0,by omega,rfl,hB,hP,hK⟩
 have LS':Hid _:=LS;clear LS;obtain⟨s,hs⟩: ∃s,(x 0).s=s:=⟨_,rfl⟩;obtain⟨a0,ha0⟩: ∃s,ao 0=s:=⟨_,rfl⟩;obtain⟨c0,hc0⟩: ∃s,ca 0=s:=⟨_,rfl⟩;obtain⟨la,hla⟩: ∃s,(Dg.dg 4294967296 (x 0).n).length=s:=⟨_,rfl⟩;obtain⟨e,he⟩: ∃s,(x 0).e=s:=⟨_,rfl⟩;rw[hs,ha0,hc0,hla,he] at LS';rw[hs] at c00;rw[ha0,hc0,hla] at c01;rw[he] at c02;clear hs ha0 hc0 hla he;have k0:=aJ w (.bool false) yN (yi 0) (.bool false) yN (yi 0) 57;have b0:=af w (.cells #[.bool false,yN,yi 0,.bool false,yN,yi 0] 57)
 go_enter func89,ntmps89
 go_wp2_with fail
 refine(Qy s a0 la c0 e _).mono ?_;rintro z w1 ⟨rfl,b1⟩;have ba:=af w1 (.cells #[.bool s,.slice a0 la c0,yi e,.bool s,.slice a0 la c0,yi e] 57);have p1:=aJ w1 (.bool s) (.slice a0 la c0) (yi e) (.bool s) (.slice a0 la c0) (yi e) 57;have k2:=(k0.l b1).l ba;have hPw:w.heap.size<w1.heap.size:=(k0.l b1).1;have b02:=aa (aa b0 b1) ba;have L0:=LS'.out _ _ b02 p1 k2;clear k0 b0 b1 ba p1 k2 b02 LS' c00 c01 c02 n1
 go_wp2_with fail
 generalize w1.heap.size=P at hPw L0⊢;generalize(w1.alloc (.cells #[.bool s,.slice a0 la c0,yi e,.bool s,.slice a0 la c0,yi e] 57))=W at L0⊢;have hp0:P≠w.heap.size:=by omega
 have hp1:w.heap.size≤P:=by omega
 go_loopw [13] (Sz w m x ao ca P) (fun iv _=>m-(intOf iv).toNat)
 case atStart=>exact L0
 case round=>
  clear L0;obtain⟨i,hi,rfl,bel,lp,lk⟩:=hrel
  by_cases hlt:i+1<m
  ·have d0:wr.cell? ⟨b,3+i*3,none⟩=some (.bool (x (i+1)).s):=by rw[show 3+i*3=3*(i+1) by omega];exact cell_later bel (HH0.out (i+1) hlt)
   have d1:wr.cell? ⟨b,3+i*3+1,none⟩=some (.slice (ao (i+1)) (Dg.dg 4294967296 (x (i+1)).n).length (ca (i+1))):=by rw[show 3+i*3=3*(i+1) by omega];exact cell_later bel (HH1.out (i+1) hlt)
   have d2:wr.cell? ⟨b,3+i*3+2,none⟩=some (yi (x (i+1)).e):=by rw[show 3+i*3=3*(i+1) by omega];exact cell_later bel (HH2.out (i+1) hlt)
   have hl1:=tB x i;have hl2:=wN x i;have ba:=af wr (.cells #[.bool (x (i+1)).s,.slice (ao (i+1)) (Dg.dg 4294967296 (x (i+1)).n).length (ca (i+1)),yi (x (i+1)).e] 54);have r1:=aA wr (.bool (x (i+1)).s) (.slice (ao (i+1)) (Dg.dg 4294967296 (x (i+1)).n).length (ca (i+1))) (yi (x (i+1)).e) 54;have bel1:=aa bel ba;have hrp:P≠wr.heap.size:=by have:=lp.1;omega
   have lp1:=mL.l lp ba;have lk1:=lk.l ba;clear lp lk ba;obtain⟨-,⟨p0,p1,p2,-⟩,-⟩:=id lp1
   go_wp2_with fail
   refine(HHC.out (i+1) (loI x i) _ hlt (by omega) bel1).mono ?_;rintro z w2 ⟨rfl,b2⟩;have bel2:=aa bel1 b2;have lp2:=mL.l lp1 b2;have lk2:=lk1.l b2;have r2:=r1.l b2;clear p0 p1 p2 lp1 lk1 r1 b2 bel1 d0 d1 d2;generalize wr.heap.size=R at hrp r2⊢;obtain⟨-,⟨e0,e1,e2⟩,-⟩:=id r2
   by_cases hc:bJ (x (i+1)) (x (loI x i))<0
   ·have hI:=DN hc
    generalize bJ (x (i+1)) (x (loI x i))=c1 at hc⊢;obtain⟨hpl,⟨p0,p1,p2,-⟩,f0,f1,f2,-⟩:=id lp2;have lp3:=abg lp2 (.bool (x (i+1)).s) (.slice (ao (i+1)) (Dg.dg 4294967296 (x (i+1)).n).length (ca (i+1))) (yi (x (i+1)).e);have r3:=r2.apart (c:=P) hrp (.bool (x (i+1)).s) (.slice (ao (i+1)) (Dg.dg 4294967296 (x (i+1)).n).length (ca (i+1))) (yi (x (i+1)).e);have lk3:=lk2.apart3 (c:=P) (by omega) (.bool (x (i+1)).s) (.slice (ao (i+1)) (Dg.dg 4294967296 (x (i+1)).n).length (ca (i+1))) (yi (x (i+1)).e);have bel3:=am bel2 (b:=P) (by omega) (.bool (x (i+1)).s) (.slice (ao (i+1)) (Dg.dg 4294967296 (x (i+1)).n).length (ca (i+1))) (yi (x (i+1)).e);obtain⟨-,⟨q0,q1,q2,q3,q4,q5⟩,-⟩:=id lp3;obtain⟨-,⟨s0,s1,s2⟩,-⟩:=id r3;clear lp2 lk2 r2 bel2
    go_wp2_with fail
    refine(HHC.out (i+1) (hiI x i) _ hlt (by omega) bel3).mono ?_;rintro z w4 ⟨rfl,b4⟩;have bel4:=aa bel3 b4;have lp4:=lp3.l b4;have lk4:=lk3.l b4;have r4:=r3.l b4;clear lp3 lk3 r3 bel3 b4 q0 q1 q2 q3 q4 q5 s0 s1 s2;obtain⟨-,⟨t0,t1,t2⟩,-⟩:=id r4
    by_cases hd:0<bJ (x (i+1)) (x (hiI x i))
    ·have hJ:=uP hd
     generalize bJ (x (i+1)) (x (hiI x i))=c2 at hd⊢;obtain⟨hql,⟨-,-,-,q0,q1,q2⟩,-,-,-,g0,g1,g2⟩:=id lp4;have lp5:=Sy lp4 (.bool (x (i+1)).s) (.slice (ao (i+1)) (Dg.dg 4294967296 (x (i+1)).n).length (ca (i+1))) (yi (x (i+1)).e);have lk5:=lk4.apart3h (c:=P) (by omega) (.bool (x (i+1)).s) (.slice (ao (i+1)) (Dg.dg 4294967296 (x (i+1)).n).length (ca (i+1))) (yi (x (i+1)).e);have bel5:=Dd bel4 (b:=P) (by omega) (.bool (x (i+1)).s) (.slice (ao (i+1)) (Dg.dg 4294967296 (x (i+1)).n).length (ca (i+1))) (yi (x (i+1)).e);clear lp4 lk4 r4 bel4
     go_wp2
     go_roundw
     case rel=>exact⟨i+1,by omega,by go_num,bel5,by rw[hI,hJ];exact lp5,lk5⟩
     case measure=>simp[intOf];omega
    ·have hJ:=uQ hd
     generalize bJ (x (i+1)) (x (hiI x i))=c2 at hd⊢;clear r4
     go_wp2
     go_roundw
     case rel=>exact⟨i+1,by omega,by go_num,bel4,by rw[hI,hJ];exact lp4,lk4⟩
     case measure=>simp[intOf];omega
   ·have hI:=DO hc
    generalize bJ (x (i+1)) (x (loI x i))=c1 at hc⊢;obtain⟨-,⟨-,-,-,q0,q1,q2⟩,-⟩:=id lp2
    go_wp2_with fail
    refine(HHC.out (i+1) (hiI x i) _ hlt (by omega) bel2).mono ?_;rintro z w4 ⟨rfl,b4⟩;have bel4:=aa bel2 b4;have lp4:=mL.l lp2 b4;have lk4:=lk2.l b4;have r4:=r2.l b4;clear lp2 lk2 r2 bel2 b4 q0 q1 q2;obtain⟨-,⟨t0,t1,t2⟩,-⟩:=id r4
    by_cases hd:0<bJ (x (i+1)) (x (hiI x i))
    ·have hJ:=uP hd
     generalize bJ (x (i+1)) (x (hiI x i))=c2 at hd⊢;obtain⟨hql,⟨-,-,-,q0,q1,q2⟩,-,-,-,g0,g1,g2⟩:=id lp4;have lp5:=Sy lp4 (.bool (x (i+1)).s) (.slice (ao (i+1)) (Dg.dg 4294967296 (x (i+1)).n).length (ca (i+1))) (yi (x (i+1)).e);have lk5:=lk4.apart3h (c:=P) (by omega) (.bool (x (i+1)).s) (.slice (ao (i+1)) (Dg.dg 4294967296 (x (i+1)).n).length (ca (i+1))) (yi (x (i+1)).e);have bel5:=Dd bel4 (b:=P) (by omega) (.bool (x (i+1)).s) (.slice (ao (i+1)) (Dg.dg 4294967296 (x (i+1)).n).length (ca (i+1))) (yi (x (i+1)).e);clear lp4 lk4 r4 bel4
     go_wp2
     go_roundw
     case rel=>exact⟨i+1,by omega,by go_num,bel5,by rw[hI,hJ];exact lp5,lk5⟩
     case measure=>simp[intOf];omega
    ·have hJ:=uQ hd
     generalize bJ (x (i+1)) (x (hiI x i))=c2 at hd⊢;clear r4
     go_wp2
     go_roundw
     case rel=>exact⟨i+1,by omega,by go_num,bel4,by rw[hI,hJ];exact lp4,lk4⟩
     case measure=>simp[intOf];omega
  ·have hmi:m-1=i:=by omega
   rw[hmi];unfold Yu at lp;unfold ac8;obtain⟨-,⟨p0,p1,p2,p3,p4,p5⟩,-⟩:=id lp;obtain⟨hl,⟨v0,v1,v2,v3,v4,v5⟩,f0,f1,f2,f3,f4,f5⟩:=id lk
   go_wp2
   obtain⟨-,⟨u0,u1,u2,u3,u4,u5⟩,-⟩:=bP lk (.bool (x (loI x i)).s) (.slice (ao (loI x i)) (Dg.dg 4294967296 (x (loI x i)).n).length (ca (loI x i))) (yi (x (loI x i)).e) (.bool (x (hiI x i)).s) (.slice (ao (hiI x i)) (Dg.dg 4294967296 (x (hiI x i)).n).length (ca (hiI x i))) (yi (x (hiI x i)).e);have bb:=aW bel (show w.heap.size≤w.heap.size by omega) (.bool (x (loI x i)).s) (.slice (ao (loI x i)) (Dg.dg 4294967296 (x (loI x i)).n).length (ca (loI x i))) (yi (x (loI x i)).e) (.bool (x (hiI x i)).s) (.slice (ao (hiI x i)) (Dg.dg 4294967296 (x (hiI x i)).n).length (ca (hiI x i))) (yi (x (hiI x i)).e)
   refine bodyPost_ret (v:= .agg #[.bool (x (loI x i)).s,.slice (ao (loI x i)) (Dg.dg 4294967296 (x (loI x i)).n).length (ca (loI x i)),yi (x (loI x i)).e,.bool (x (hiI x i)).s,.slice (ao (hiI x i)) (Dg.dg 4294967296 (x (hiI x i)).n).length (ca (hiI x i)),yi (x (hiI x i)).e]) (by simp[results,results89,go_sem,u0,u1,u2,u3,u4,u5]) rfl ?_;rw[hmi];exact⟨rfl,bb⟩
theorem fE {W:World}{base:Nat}{v:Value}(h:Ag W base v):v≠ .pointer (some ⟨W.heap.size,0,none⟩):=by
 obtain⟨p,rfl,_,h3⟩:=h;intro e;have:p=W.heap.size:=by simpa using e
 have:=h3.1;omega
theorem lL (W:World)(base:Nat)(ty:TypeId)(h:base≤W.heap.size):Ag (W.alloc (.cells (ydA false yN 0) ty)) base (.pointer (some ⟨W.heap.size,0,none⟩)):=
 ⟨_,rfl,h,aA W _ _ _ ty⟩
theorem Ai (s:Bool)(ao:Option Addr)(ca la:Nat)(e:Int)(t:Bool)(bo:Option Addr)(cb lb:Nat)(f:Int)(r:Bool)(co:Option Addr)(cc lc:Nat)(g:Int)(u:Bool)(d':Option Addr)(cd ld:Nat)(k:Int)(n:Int)(fn:FuncId)(c:Int)(x:Nat→ak)(R:ak×ak×Int)(w:World)
  (HE: ∀args W,Sem.run Tryz.prog (callFunc fn args) W= .ok (.enter fn args) W)
  (HW: ∀b w1,yB w w1→w1.cell? ⟨b,0,none⟩=some (.bool s)∧w1.cell? ⟨b,1,none⟩=some (.slice ao la ca)∧w1.cell? ⟨b,2,none⟩=some (yi e)∧w1.cell? ⟨b,3,none⟩=some (.bool t)∧w1.cell? ⟨b,4,none⟩=some (.slice bo lb cb)∧w1.cell? ⟨b,5,none⟩=some (yi f)∧w1.cell? ⟨b,6,none⟩=some (.bool r)∧w1.cell? ⟨b,7,none⟩=some (.slice co lc cc)∧w1.cell? ⟨b,8,none⟩=some (yi g)∧w1.cell? ⟨b,9,none⟩=some (.bool u)∧w1.cell? ⟨b,10,none⟩=some (.slice d' ld cd)∧w1.cell? ⟨b,11,none⟩=some (yi k)→yC 64 #[yi n,.slice (some ⟨b,0,none⟩) 2 2] w1 (yR w1 (yi c)))
  (HF0:c=0→ ∀w1,yB w w1→yC fn #[ydV s (.slice ao la ca) e,ydV r (.slice co lc cc) g] w1 (jN w1 (x 0)))
  (HF1:c=0→ ∀w1,yB w w1→yC fn #[ydV s (.slice ao la ca) e,ydV u (.slice d' ld cd) k] w1 (jN w1 (x 1)))
  (HF2:c=0→ ∀w1,yB w w1→yC fn #[ydV t (.slice bo lb cb) f,ydV r (.slice co lc cc) g] w1 (jN w1 (x 2)))
  (HF3:c=0→ ∀w1,yB w w1→yC fn #[ydV t (.slice bo lb cb) f,ydV u (.slice d' ld cd) k] w1 (jN w1 (x 3)))
  (HL:c=0→ ∀b (ao:Nat→Option Addr) (ca:Nat→Nat) w1,yB w w1→b<w1.heap.size→(∀j,j<4→w1.cell? ⟨b,3*j,none⟩=some (.bool (x j).s)∧w1.cell? ⟨b,3*j+1,none⟩=some (.slice (ao j) (Dg.dg 4294967296 (x j).n).length (ca j))∧w1.cell? ⟨b,3*j+2,none⟩=some (yi (x j).e)∧Rd w1 .u32 (.slice (ao j) (Dg.dg 4294967296 (x j).n).length (ca j)) (Dg.dg 4294967296 (x j).n))→yC 65 #[yi n,.slice (some ⟨b,0,none⟩) 4 4] w1 (jE w1 R)):
  yC 39 #[.agg #[.bool s,.slice ao la ca,yi e,.bool t,.slice bo lb cb,yi f],.agg #[.bool r,.slice co lc cc,yi g,.bool u,.slice d' ld cd,yi k],yi n,.func (.func fn) #[] #[]] w (jE w (if c=0 then R else(⟨false,0,0⟩,⟨false,0,0⟩,c))):=by
 have HHW:Hid _:=HW;have HHL:Hid _:=HL;have HHF0:Hid _:=HF0;have HHF1:Hid _:=HF1;have HHF2:Hid _:=HF2;have HHF3:Hid _:=HF3;clear HW HL HF0 HF1 HF2 HF3;have l1:=((aJ w (.bool s) (.slice ao la ca) (yi e) (.bool t) (.slice bo lb cb) (yi f) 27).l (af _ (.cells #[.bool r,.slice co lc cc,yi g,.bool u,.slice d' ld cd,yi k] 27))).l (af _ (.cells #[.bool false,yN,yi 0,.bool false,yN,yi 0] 27));have m1:=(aJ (w.alloc (.cells #[.bool s,.slice ao la ca,yi e,.bool t,.slice bo lb cb,yi f] 27)) (.bool r) (.slice co lc cc) (yi g) (.bool u) (.slice d' ld cd) (yi k) 27).l (af _ (.cells #[.bool false,yN,yi 0,.bool false,yN,yi 0] 27));have k1:=aJ ((w.alloc (.cells #[.bool s,.slice ao la ca,yi e,.bool t,.slice bo lb cb,yi f] 27)).alloc (.cells #[.bool r,.slice co lc cc,yi g,.bool u,.slice d' ld cd,yi k] 27)) (.bool false) yN (yi 0) (.bool false) yN (yi 0) 27;have b1:=aa (aa (af w (.cells #[.bool s,.slice ao la ca,yi e,.bool t,.slice bo lb cb,yi f] 27)) (af _ (.cells #[.bool r,.slice co lc cc,yi g,.bool u,.slice d' ld cd,yi k] 27))) (af _ (.cells #[.bool false,yN,yi 0,.bool false,yN,yi 0] 27));simp only[World.size_alloc] at m1 k1;have bs:=af (((w.alloc (.cells #[.bool s,.slice ao la ca,yi e,.bool t,.slice bo lb cb,yi f] 27)).alloc (.cells #[.bool r,.slice co lc cc,yi g,.bool u,.slice d' ld cd,yi k] 27)).alloc (.cells #[.bool false,yN,yi 0,.bool false,yN,yi 0] 27)) (.cells #[.bool s,.slice ao la ca,yi e,.bool t,.slice bo lb cb,yi f,.bool r,.slice co lc cc,yi g,.bool u,.slice d' ld cd,yi k] 27);have l2:=l1.l bs;have m2:=m1.l bs;have k2:=k1.l bs;have b2:=aa b1 bs;have HW2:=HHW.out (w.heap.size+1+1+1) _ b2 (by refine⟨?_, ?_, ?_, ?_, ?_, ?_, ?_, ?_, ?_, ?_, ?_, ?_⟩<;>(rw[World.cell?_alloc_at _ _ _ _ (by simp only[World.size_alloc])];rfl))
 clear l1 m1 k1 b1 bs HHW
 by_cases hc:c=0
 ·subst hc
  rw[if_pos rfl];have HHL:=HHL.out rfl;have HHF0:=HHF0.out rfl;have HHF1:=HHF1.out rfl;have HHF2:=HHF2.out rfl;have HHF3:=HHF3.out rfl;have HL:Hid _:=HHL;have HF0:Hid _:=HHF0;have HF1:Hid _:=HHF1;have HF2:Hid _:=HHF2;have HF3:Hid _:=HHF3;clear HHL HHF0 HHF1 HHF2 HHF3
  go_enter func39,ntmps39
  go_wp2_with fail
  refine HW2.mono ?_;rintro z w3 ⟨rfl,b3⟩;have l3:=l2.l b3;have m3:=m2.l b3;have k3:=k2.l b3;have b03:=aa b2 b3;clear l2 m2 k2 b2 b3 HW2
  go_wp2_with fail
  generalize w.heap.size+1+1+1=S at⊢;have hrb:w.heap.size≤w.heap.size+1+1:=by omega
  generalize w.heap.size+1+1=RB at k3 hrb⊢;generalize w.heap.size+1=BB at m3⊢;refine wp_region_any (by kernel_rfl) ?_;refine iX (fun listed a W=> ∃(ll0 ll1 ll2 ll3 ll4 ll5 ll6 ll7 ll8 ll9 ll10 ll11 ll12 ll13 ll14 ll15:Bool) (u24 u25 u26 u27 u28 u29 u30 u31 u32 u33 u34 u35 u11 u12 u13 u14:Value),listed= #[ll0,ll1,ll2,ll3,ll4,ll5,ll6,ll7,ll8,ll9,ll10,ll11,ll12,ll13,ll14,ll15,false,false,false,false]∧a={tmps:= #[.agg #[.bool s,.slice ao la ca,yi e,.bool t,.slice bo lb cb,yi f],.agg #[.bool r,.slice co lc cc,yi g,.bool u,.slice d' ld cd,yi k],yi n,.func (.func fn) #[] #[],.pointer (some ⟨w.heap.size,0,none⟩),.pointer (some ⟨BB,0,none⟩),undef,undef,.pointer (some ⟨RB,0,none⟩),yi 0,yi 0,u11,u12,u13,u14,yi n,.agg #[.bool s,.slice ao la ca,yi e,.bool t,.slice bo lb cb,yi f],.agg #[.bool r,.slice co lc cc,yi g,.bool u,.slice d' ld cd,yi k],.slice (some ⟨S,0,none⟩) 2 2,yi 0,yi 0,.bool false,undef,undef,u24,u25,u26,u27,u28,u29,u30,u31,u32,u33,u34,u35,undef,undef,undef,undef,undef,undef,undef,undef,undef,undef,undef,undef,undef,undef,undef,undef,undef,undef,undef,undef,undef],defers:=[]}∧yB w3 W∧(ll0=true→u24= .pointer (some ⟨w.heap.size,0,none⟩))∧(ll1=true→u25=(ydV s (.slice ao la ca) e))∧(ll2=true→u26=(ydV s (.slice ao la ca) e))∧(ll3=true→u27= .pointer (some ⟨w.heap.size,3,none⟩))∧(ll4=true→u28=(ydV t (.slice bo lb cb) f))∧(ll5=true→u29=(ydV t (.slice bo lb cb) f))∧(ll6=true→u30= .pointer (some ⟨BB,0,none⟩))∧(ll7=true→u31=(ydV r (.slice co lc cc) g))∧(ll8=true→u32=(ydV r (.slice co lc cc) g))∧(ll9=true→u33= .pointer (some ⟨BB,3,none⟩))∧(ll10=true→u34=(ydV u (.slice d' ld cd) k))∧(ll11=true→u35=(ydV u (.slice d' ld cd) k))∧(ll12=true→Ag W w3.heap.size u11)∧(ll13=true→Ag W w3.heap.size u12)∧(ll14=true→Ag W w3.heap.size u13)∧(ll15=true→Ag W w3.heap.size u14)∧(ll1=true→ll0=true)∧(ll2=true→ll1=true)∧(ll4=true→ll3=true)∧(ll5=true→ll4=true∧ll2=true)∧(ll7=true→ll6=true)∧(ll8=true→ll7=true∧ll5=true)∧(ll10=true→ll9=true)∧(ll11=true→ll10=true∧ll8=true)∧(ll12=true→ll13=true→u11≠u12)∧(ll12=true→ll14=true→u11≠u13)∧(ll12=true→ll15=true→u11≠u14)∧(ll13=true→ll14=true→u12≠u13)∧(ll13=true→ll15=true→u12≠u14)∧(ll14=true→ll15=true→u13≠u14)) #[true,true,true,true,true,true,true,true,true,true,true,true,true,true,true,true,false,false,false,false] 4 rfl ?hend ?hstep 20 _ _ _ rfl ?start
  case start=>
   refine⟨false,false,false,false,false,false,false,false,false,false,false,false,false,false,false,false,undef,undef,undef,undef,undef,undef,undef,undef,undef,undef,undef,undef,undef,undef,undef,undef,rfl,rfl,(Below.refl _ _).drew, ?_, ?_, ?_, ?_, ?_, ?_, ?_, ?_, ?_, ?_, ?_, ?_, ?_, ?_, ?_, ?_, ?_, ?_, ?_, ?_, ?_, ?_, ?_, ?_, ?_, ?_, ?_, ?_, ?_, ?_⟩<;>simp
  case hstep=>
   rintro listed a W ⟨ll0,ll1,ll2,ll3,ll4,ll5,ll6,ll7,ll8,ll9,ll10,ll11,ll12,ll13,ll14,ll15,u24,u25,u26,u27,u28,u29,u30,u31,u32,u33,u34,u35,u11,u12,u13,u14,rfl,rfl,bel,h0,h1,h2,h3,h4,h5,h6,h7,h8,h9,h10,h11,h12,h13,h14,h15,e1,e2,e4,e5,e7,e8,e10,e11,d12_13,d12_14,d12_15,d13_14,d13_15,d14_15⟩ hne;obtain⟨-,⟨c0,c1,c2,c3,c4,c5⟩,-⟩:=l3.l bel;obtain⟨-,⟨x0,x1,x2,x3,x4,x5⟩,-⟩:=m3.l bel
   constructor
   ·intro hnil
    apply hne;obtain rfl:ll0=true:=aM (j:=0) hnil rfl (by kernel_rfl);obtain rfl:ll1=true:=aM (j:=1) hnil rfl (by kernel_rfl);obtain rfl:ll2=true:=aM (j:=2) hnil rfl (by kernel_rfl);obtain rfl:ll3=true:=aM (j:=3) hnil rfl (by kernel_rfl);obtain rfl:ll4=true:=aM (j:=4) hnil rfl (by kernel_rfl);obtain rfl:ll5=true:=aM (j:=5) hnil rfl (by kernel_rfl);obtain rfl:ll6=true:=aM (j:=6) hnil rfl (by kernel_rfl);obtain rfl:ll7=true:=aM (j:=7) hnil rfl (by kernel_rfl);obtain rfl:ll8=true:=aM (j:=8) hnil rfl (by kernel_rfl);obtain rfl:ll9=true:=aM (j:=9) hnil rfl (by kernel_rfl);obtain rfl:ll10=true:=aM (j:=10) hnil rfl (by kernel_rfl);obtain rfl:ll11=true:=aM (j:=11) hnil rfl (by kernel_rfl);obtain rfl:ll12=true:=aM (j:=12) hnil rfl (by kernel_rfl);obtain rfl:ll13=true:=aM (j:=13) hnil rfl (by kernel_rfl);obtain rfl:ll14=true:=aM (j:=14) hnil rfl (by kernel_rfl);obtain rfl:ll15=true:=aM (j:=15) hnil rfl (by kernel_rfl);rfl
   ·intro i hi
    replace h0:Hid _:=h0;replace h1:Hid _:=h1;replace h2:Hid _:=h2;replace h3:Hid _:=h3;replace h4:Hid _:=h4;replace h5:Hid _:=h5;replace h6:Hid _:=h6;replace h7:Hid _:=h7;replace h8:Hid _:=h8;replace h9:Hid _:=h9;replace h10:Hid _:=h10;replace h11:Hid _:=h11;replace h12:Hid _:=h12;replace h13:Hid _:=h13;replace h14:Hid _:=h14;replace h15:Hid _:=h15;replace e1:Hid _:=e1;replace e2:Hid _:=e2;replace e4:Hid _:=e4;replace e5:Hid _:=e5;replace e7:Hid _:=e7;replace e8:Hid _:=e8;replace e10:Hid _:=e10;replace e11:Hid _:=e11;replace d12_13:Hid _:=d12_13;replace d12_14:Hid _:=d12_14;replace d12_15:Hid _:=d12_15;replace d13_14:Hid _:=d13_14;replace d13_15:Hid _:=d13_15;replace d14_15:Hid _:=d14_15;have hlt:=pE hi
    match i,hlt,hi with
    |0,_,hi=>
     refine aI (i:=0) rfl rfl (fun K hK=> ?_)
     go_simp
     exact hK.out _ _ ⟨true,ll1,ll2,ll3,ll4,ll5,ll6,ll7,ll8,ll9,ll10,ll11,ll12,ll13,ll14,ll15,_,u25,u26,u27,u28,u29,u30,u31,u32,u33,u34,u35,u11,u12,u13,u14,rfl,rfl,bel,fun _=>rfl,h1,h2,h3,h4,h5,h6,h7,h8,h9,h10,h11,h12,h13,h14,h15,fun _=>rfl,e2,e4,e5,e7,e8,e10,e11,d12_13,d12_14,d12_15,d13_14,d13_15,d14_15⟩
    |1,_,hi=>
     obtain rfl:ll0=true:=aE (d:=0) rfl (by kernel_rfl) hi;obtain rfl:=h0.out rfl;refine aI (i:=1) rfl rfl (fun K hK=> ?_)
     go_simp
     exact hK.out _ _ ⟨true,true,ll2,ll3,ll4,ll5,ll6,ll7,ll8,ll9,ll10,ll11,ll12,ll13,ll14,ll15,_,_,u26,u27,u28,u29,u30,u31,u32,u33,u34,u35,u11,u12,u13,u14,rfl,rfl,bel,fun _=>rfl,fun _=>rfl,h2,h3,h4,h5,h6,h7,h8,h9,h10,h11,h12,h13,h14,h15,fun _=>rfl,fun _=>rfl,e4,e5,e7,e8,e10,e11,d12_13,d12_14,d12_15,d13_14,d13_15,d14_15⟩
    |2,_,hi=>
     obtain rfl:ll1=true:=aE (d:=1) rfl (by kernel_rfl) hi;obtain rfl:=h1.out rfl;refine aI (i:=2) rfl rfl (fun K hK=> ?_)
     go_simp
     refine(iK s ao la ca e _).mono ?_;rintro z W2 ⟨rfl,b4⟩
     go_simp
     exact hK.out _ _ ⟨ll0,true,true,ll3,ll4,ll5,ll6,ll7,ll8,ll9,ll10,ll11,ll12,ll13,ll14,ll15,u24,_,_,u27,u28,u29,u30,u31,u32,u33,u34,u35,u11,u12,u13,u14,rfl,rfl,aa bel b4,h0,fun _=>rfl,fun _=>rfl,h3,h4,h5,h6,h7,h8,h9,h10,h11,fun h=>(h12.out h).l b4,fun h=>(h13.out h).l b4,fun h=>(h14.out h).l b4,fun h=>(h15.out h).l b4,e1,fun _=>rfl,e4,fun h=>⟨(e5.out h).1,rfl⟩,e7,e8,e10,e11,d12_13,d12_14,d12_15,d13_14,d13_15,d14_15⟩
    |3,_,hi=>
     refine aI (i:=3) rfl rfl (fun K hK=> ?_)
     go_simp
     exact hK.out _ _ ⟨ll0,ll1,ll2,true,ll4,ll5,ll6,ll7,ll8,ll9,ll10,ll11,ll12,ll13,ll14,ll15,u24,u25,u26,_,u28,u29,u30,u31,u32,u33,u34,u35,u11,u12,u13,u14,rfl,rfl,bel,h0,h1,h2,fun _=>rfl,h4,h5,h6,h7,h8,h9,h10,h11,h12,h13,h14,h15,e1,e2,fun _=>rfl,e5,e7,e8,e10,e11,d12_13,d12_14,d12_15,d13_14,d13_15,d14_15⟩
    |4,_,hi=>
     obtain rfl:ll3=true:=aE (d:=3) rfl (by kernel_rfl) hi;obtain rfl:=h3.out rfl;refine aI (i:=4) rfl rfl (fun K hK=> ?_)
     go_simp
     exact hK.out _ _ ⟨ll0,ll1,ll2,true,true,ll5,ll6,ll7,ll8,ll9,ll10,ll11,ll12,ll13,ll14,ll15,u24,u25,u26,_,_,u29,u30,u31,u32,u33,u34,u35,u11,u12,u13,u14,rfl,rfl,bel,h0,h1,h2,fun _=>rfl,fun _=>rfl,h5,h6,h7,h8,h9,h10,h11,h12,h13,h14,h15,e1,e2,fun _=>rfl,fun h=>⟨rfl,(e5.out h).2⟩,e7,e8,e10,e11,d12_13,d12_14,d12_15,d13_14,d13_15,d14_15⟩
    |5,_,hi=>
     obtain rfl:ll4=true:=aE (d:=4) rfl (by kernel_rfl) hi;obtain rfl:ll2=true:=aE (d:=2) rfl (by kernel_rfl) hi;obtain rfl:=h4.out rfl;refine aI (i:=5) rfl rfl (fun K hK=> ?_)
     go_simp
     refine(iK t bo lb cb f _).mono ?_;rintro z W2 ⟨rfl,b4⟩
     go_simp
     exact hK.out _ _ ⟨ll0,ll1,true,ll3,true,true,ll6,ll7,ll8,ll9,ll10,ll11,ll12,ll13,ll14,ll15,u24,u25,u26,u27,_,_,u30,u31,u32,u33,u34,u35,u11,u12,u13,u14,rfl,rfl,aa bel b4,h0,h1,h2,h3,fun _=>rfl,fun _=>rfl,h6,h7,h8,h9,h10,h11,fun h=>(h12.out h).l b4,fun h=>(h13.out h).l b4,fun h=>(h14.out h).l b4,fun h=>(h15.out h).l b4,e1,e2,e4,fun _=>⟨rfl,rfl⟩,e7,fun h=>⟨(e8.out h).1,rfl⟩,e10,e11,d12_13,d12_14,d12_15,d13_14,d13_15,d14_15⟩
    |6,_,hi=>
     refine aI (i:=6) rfl rfl (fun K hK=> ?_)
     go_simp
     exact hK.out _ _ ⟨ll0,ll1,ll2,ll3,ll4,ll5,true,ll7,ll8,ll9,ll10,ll11,ll12,ll13,ll14,ll15,u24,u25,u26,u27,u28,u29,_,u31,u32,u33,u34,u35,u11,u12,u13,u14,rfl,rfl,bel,h0,h1,h2,h3,h4,h5,fun _=>rfl,h7,h8,h9,h10,h11,h12,h13,h14,h15,e1,e2,e4,e5,fun _=>rfl,e8,e10,e11,d12_13,d12_14,d12_15,d13_14,d13_15,d14_15⟩
    |7,_,hi=>
     obtain rfl:ll6=true:=aE (d:=6) rfl (by kernel_rfl) hi;obtain rfl:=h6.out rfl;refine aI (i:=7) rfl rfl (fun K hK=> ?_)
     go_simp
     exact hK.out _ _ ⟨ll0,ll1,ll2,ll3,ll4,ll5,true,true,ll8,ll9,ll10,ll11,ll12,ll13,ll14,ll15,u24,u25,u26,u27,u28,u29,_,_,u32,u33,u34,u35,u11,u12,u13,u14,rfl,rfl,bel,h0,h1,h2,h3,h4,h5,fun _=>rfl,fun _=>rfl,h8,h9,h10,h11,h12,h13,h14,h15,e1,e2,e4,e5,fun _=>rfl,fun h=>⟨rfl,(e8.out h).2⟩,e10,e11,d12_13,d12_14,d12_15,d13_14,d13_15,d14_15⟩
    |8,_,hi=>
     obtain rfl:ll7=true:=aE (d:=7) rfl (by kernel_rfl) hi;obtain rfl:ll5=true:=aE (d:=5) rfl (by kernel_rfl) hi;obtain rfl:=h7.out rfl;refine aI (i:=8) rfl rfl (fun K hK=> ?_)
     go_simp
     refine(iK r co lc cc g _).mono ?_;rintro z W2 ⟨rfl,b4⟩
     go_simp
     exact hK.out _ _ ⟨ll0,ll1,ll2,ll3,ll4,true,ll6,true,true,ll9,ll10,ll11,ll12,ll13,ll14,ll15,u24,u25,u26,u27,u28,u29,u30,_,_,u33,u34,u35,u11,u12,u13,u14,rfl,rfl,aa bel b4,h0,h1,h2,h3,h4,h5,h6,fun _=>rfl,fun _=>rfl,h9,h10,h11,fun h=>(h12.out h).l b4,fun h=>(h13.out h).l b4,fun h=>(h14.out h).l b4,fun h=>(h15.out h).l b4,e1,e2,e4,e5,e7,fun _=>⟨rfl,rfl⟩,e10,fun h=>⟨(e11.out h).1,rfl⟩,d12_13,d12_14,d12_15,d13_14,d13_15,d14_15⟩
    |9,_,hi=>
     refine aI (i:=9) rfl rfl (fun K hK=> ?_)
     go_simp
     exact hK.out _ _ ⟨ll0,ll1,ll2,ll3,ll4,ll5,ll6,ll7,ll8,true,ll10,ll11,ll12,ll13,ll14,ll15,u24,u25,u26,u27,u28,u29,u30,u31,u32,_,u34,u35,u11,u12,u13,u14,rfl,rfl,bel,h0,h1,h2,h3,h4,h5,h6,h7,h8,fun _=>rfl,h10,h11,h12,h13,h14,h15,e1,e2,e4,e5,e7,e8,fun _=>rfl,e11,d12_13,d12_14,d12_15,d13_14,d13_15,d14_15⟩
    |10,_,hi=>
     obtain rfl:ll9=true:=aE (d:=9) rfl (by kernel_rfl) hi;obtain rfl:=h9.out rfl;refine aI (i:=10) rfl rfl (fun K hK=> ?_)
     go_simp
     exact hK.out _ _ ⟨ll0,ll1,ll2,ll3,ll4,ll5,ll6,ll7,ll8,true,true,ll11,ll12,ll13,ll14,ll15,u24,u25,u26,u27,u28,u29,u30,u31,u32,_,_,u35,u11,u12,u13,u14,rfl,rfl,bel,h0,h1,h2,h3,h4,h5,h6,h7,h8,fun _=>rfl,fun _=>rfl,h11,h12,h13,h14,h15,e1,e2,e4,e5,e7,e8,fun _=>rfl,fun h=>⟨rfl,(e11.out h).2⟩,d12_13,d12_14,d12_15,d13_14,d13_15,d14_15⟩
    |11,_,hi=>
     obtain rfl:ll10=true:=aE (d:=10) rfl (by kernel_rfl) hi;obtain rfl:ll8=true:=aE (d:=8) rfl (by kernel_rfl) hi;obtain rfl:=h10.out rfl;refine aI (i:=11) rfl rfl (fun K hK=> ?_)
     go_simp
     refine(iK u d' ld cd k _).mono ?_;rintro z W2 ⟨rfl,b4⟩
     go_simp
     exact hK.out _ _ ⟨ll0,ll1,ll2,ll3,ll4,ll5,ll6,ll7,true,ll9,true,true,ll12,ll13,ll14,ll15,u24,u25,u26,u27,u28,u29,u30,u31,u32,u33,_,_,u11,u12,u13,u14,rfl,rfl,aa bel b4,h0,h1,h2,h3,h4,h5,h6,h7,h8,h9,fun _=>rfl,fun _=>rfl,fun h=>(h12.out h).l b4,fun h=>(h13.out h).l b4,fun h=>(h14.out h).l b4,fun h=>(h15.out h).l b4,e1,e2,e4,e5,e7,e8,e10,fun _=>⟨rfl,rfl⟩,d12_13,d12_14,d12_15,d13_14,d13_15,d14_15⟩
    |12,_,hi=>
     refine aI (i:=12) rfl rfl (fun K hK=> ?_)
     have bz:=af W (.cells (ydA false yN 0) 54)
     go_simp
     exact hK.out _ _ ⟨ll0,ll1,ll2,ll3,ll4,ll5,ll6,ll7,ll8,ll9,ll10,ll11,true,ll13,ll14,ll15,u24,u25,u26,u27,u28,u29,u30,u31,u32,u33,u34,u35,_,u12,u13,u14,rfl,rfl,aa bel bz,h0,h1,h2,h3,h4,h5,h6,h7,h8,h9,h10,h11,fun _=>lL W _ 54 bel.size,fun h=>(h13.out h).l bz,fun h=>(h14.out h).l bz,fun h=>(h15.out h).l bz,e1,e2,e4,e5,e7,e8,e10,e11,fun _ h=>(fE (h13.out h)).symm,fun _ h=>(fE (h14.out h)).symm,fun _ h=>(fE (h15.out h)).symm,d13_14,d13_15,d14_15⟩
    |13,_,hi=>
     refine aI (i:=13) rfl rfl (fun K hK=> ?_)
     have bz:=af W (.cells (ydA false yN 0) 54)
     go_simp
     exact hK.out _ _ ⟨ll0,ll1,ll2,ll3,ll4,ll5,ll6,ll7,ll8,ll9,ll10,ll11,ll12,true,ll14,ll15,u24,u25,u26,u27,u28,u29,u30,u31,u32,u33,u34,u35,u11,_,u13,u14,rfl,rfl,aa bel bz,h0,h1,h2,h3,h4,h5,h6,h7,h8,h9,h10,h11,fun h=>(h12.out h).l bz,fun _=>lL W _ 54 bel.size,fun h=>(h14.out h).l bz,fun h=>(h15.out h).l bz,e1,e2,e4,e5,e7,e8,e10,e11,fun h _=>fE (h12.out h),d12_14,d12_15,fun _ h=>(fE (h14.out h)).symm,fun _ h=>(fE (h15.out h)).symm,d14_15⟩
    |14,_,hi=>
     refine aI (i:=14) rfl rfl (fun K hK=> ?_)
     have bz:=af W (.cells (ydA false yN 0) 54)
     go_simp
     exact hK.out _ _ ⟨ll0,ll1,ll2,ll3,ll4,ll5,ll6,ll7,ll8,ll9,ll10,ll11,ll12,ll13,true,ll15,u24,u25,u26,u27,u28,u29,u30,u31,u32,u33,u34,u35,u11,u12,_,u14,rfl,rfl,aa bel bz,h0,h1,h2,h3,h4,h5,h6,h7,h8,h9,h10,h11,fun h=>(h12.out h).l bz,fun h=>(h13.out h).l bz,fun _=>lL W _ 54 bel.size,fun h=>(h15.out h).l bz,e1,e2,e4,e5,e7,e8,e10,e11,d12_13,fun h _=>fE (h12.out h),d12_15,fun h _=>fE (h13.out h),d13_15,fun _ h=>(fE (h15.out h)).symm⟩
    |15,_,hi=>
     refine aI (i:=15) rfl rfl (fun K hK=> ?_)
     have bz:=af W (.cells (ydA false yN 0) 54)
     go_simp
     exact hK.out _ _ ⟨ll0,ll1,ll2,ll3,ll4,ll5,ll6,ll7,ll8,ll9,ll10,ll11,ll12,ll13,ll14,true,u24,u25,u26,u27,u28,u29,u30,u31,u32,u33,u34,u35,u11,u12,u13,_,rfl,rfl,aa bel bz,h0,h1,h2,h3,h4,h5,h6,h7,h8,h9,h10,h11,fun h=>(h12.out h).l bz,fun h=>(h13.out h).l bz,fun h=>(h14.out h).l bz,fun _=>lL W _ 54 bel.size,e1,e2,e4,e5,e7,e8,e10,e11,d12_13,d12_14,fun h _=>fE (h12.out h),d13_14,fun h _=>fE (h13.out h),fun h _=>fE (h14.out h)⟩
    |16,_,hi=>
     exfalso
     apply hne;obtain rfl:ll11=true:=aE (d:=11) rfl (by kernel_rfl) hi;obtain rfl:ll12=true:=aE (d:=12) rfl (by kernel_rfl) hi;obtain rfl:ll13=true:=aE (d:=13) rfl (by kernel_rfl) hi;obtain rfl:ll14=true:=aE (d:=14) rfl (by kernel_rfl) hi;obtain rfl:ll15=true:=aE (d:=15) rfl (by kernel_rfl) hi;obtain⟨rfl,rfl⟩:=e11.out rfl;obtain⟨rfl,rfl⟩:=e8.out rfl;obtain⟨rfl,rfl⟩:=e5.out rfl;obtain rfl:=e10.out rfl;obtain rfl:=e7.out rfl;obtain rfl:=e4.out rfl;obtain rfl:=e2.out rfl;obtain rfl:=e1.out rfl;rfl
    |17,_,hi=>
     exact absurd (aE (d:=16) rfl (by kernel_rfl) hi) (by simp)
    |18,_,hi=>
     exact absurd (aE (d:=17) rfl (by kernel_rfl) hi) (by simp)
    |19,_,hi=>
     exact absurd (aE (d:=18) rfl (by kernel_rfl) hi) (by simp)
    |i+20,hlt,_=>exact absurd hlt (by simp)
  case hend=>
   rintro a W ⟨ll0,ll1,ll2,ll3,ll4,ll5,ll6,ll7,ll8,ll9,ll10,ll11,ll12,ll13,ll14,ll15,u24,u25,u26,u27,u28,u29,u30,u31,u32,u33,u34,u35,u11,u12,u13,u14,hl,rfl,bel,h0,h1,h2,h3,h4,h5,h6,h7,h8,h9,h10,h11,h12,h13,h14,h15,e1,e2,e4,e5,e7,e8,e10,e11,d12_13,d12_14,d12_15,d13_14,d13_15,d14_15⟩;have hl:=congrArg Array.toList hl;simp only[List.cons.injEq,and_true] at hl;obtain⟨rfl,rfl,rfl,rfl,rfl,rfl,rfl,rfl,rfl,rfl,rfl,rfl,rfl,rfl,rfl,rfl⟩:=hl;obtain rfl:=h0 rfl;obtain rfl:=h1 rfl;obtain rfl:=h2 rfl;obtain rfl:=h3 rfl;obtain rfl:=h4 rfl;obtain rfl:=h5 rfl;obtain rfl:=h6 rfl;obtain rfl:=h7 rfl;obtain rfl:=h8 rfl;obtain rfl:=h9 rfl;obtain rfl:=h10 rfl;obtain rfl:=h11 rfl;obtain⟨q12,rfl,hb12,z12⟩:=h12 rfl;obtain⟨q13,rfl,hb13,z13⟩:=h13 rfl;obtain⟨q14,rfl,hb14,z14⟩:=h14 rfl;obtain⟨q15,rfl,hb15,z15⟩:=h15 rfl;have n12_13:q12≠q13:=fun h=>d12_13 rfl rfl (by rw[h])
   have n12_14:q12≠q14:=fun h=>d12_14 rfl rfl (by rw[h])
   have n12_15:q12≠q15:=fun h=>d12_15 rfl rfl (by rw[h])
   have n13_14:q13≠q14:=fun h=>d13_14 rfl rfl (by rw[h])
   have n13_15:q13≠q15:=fun h=>d13_15 rfl rfl (by rw[h])
   have n14_15:q14≠q15:=fun h=>d14_15 rfl rfl (by rw[h])
   clear hl e1 e2 e4 e5 e7 e8 e10 e11 d12_13 d12_14 d12_15 d13_14 d13_15 d14_15;obtain⟨hx0,⟨p00,p01,p02⟩,f00,f01,f02⟩:=id z12;refine eY (i:=16) (by kernel_rfl) (aI (i:=16) rfl rfl (fun K hK=> ?_))
   go_simp
   refine hK.out _ _ ?_;clear hK;have y12:=aD z12 (.bool s) (.slice ao la ca) (yi e);have y13:=z13.apart (c:=q12) n12_13 (.bool s) (.slice ao la ca) (yi e);have y14:=z14.apart (c:=q12) n12_14 (.bool s) (.slice ao la ca) (yi e);have y15:=z15.apart (c:=q12) n12_15 (.bool s) (.slice ao la ca) (yi e);have bl0:=am bel hb12 (.bool s) (.slice ao la ca) (yi e);clear z12 z13 z14 z15 hx0 p00 p01 p02 f00 f01 f02;generalize(((W.setCell ⟨q12,0,none⟩ (.bool s)).setCell ⟨q12,1,none⟩ (.slice ao la ca)).setCell ⟨q12,2,none⟩ (yi e))=W1 at y12 y13 y14 y15 bl0⊢;have z12:=y12;have z13:=y13;have z14:=y14;have z15:=y15;clear y12 y13 y14 y15;obtain⟨hx1,⟨p10,p11,p12⟩,f10,f11,f12⟩:=id z13;refine eY (i:=17) (by kernel_rfl) (aI (i:=17) rfl rfl (fun K hK=> ?_))
   go_simp
   refine hK.out _ _ ?_;clear hK;have y13:=aD z13 (.bool t) (.slice bo lb cb) (yi f);have y12:=z12.apart (c:=q13) n12_13.symm (.bool t) (.slice bo lb cb) (yi f);have y14:=z14.apart (c:=q13) n13_14 (.bool t) (.slice bo lb cb) (yi f);have y15:=z15.apart (c:=q13) n13_15 (.bool t) (.slice bo lb cb) (yi f);have bl1:=am bl0 hb13 (.bool t) (.slice bo lb cb) (yi f);clear z12 z13 z14 z15 hx1 p10 p11 p12 f10 f11 f12;generalize(((W1.setCell ⟨q13,0,none⟩ (.bool t)).setCell ⟨q13,1,none⟩ (.slice bo lb cb)).setCell ⟨q13,2,none⟩ (yi f))=W2 at y12 y13 y14 y15 bl1⊢;have z12:=y12;have z13:=y13;have z14:=y14;have z15:=y15;clear y12 y13 y14 y15;obtain⟨hx2,⟨p20,p21,p22⟩,f20,f21,f22⟩:=id z14;refine eY (i:=18) (by kernel_rfl) (aI (i:=18) rfl rfl (fun K hK=> ?_))
   go_simp
   refine hK.out _ _ ?_;clear hK;have y14:=aD z14 (.bool r) (.slice co lc cc) (yi g);have y12:=z12.apart (c:=q14) n12_14.symm (.bool r) (.slice co lc cc) (yi g);have y13:=z13.apart (c:=q14) n13_14.symm (.bool r) (.slice co lc cc) (yi g);have y15:=z15.apart (c:=q14) n14_15 (.bool r) (.slice co lc cc) (yi g);have bl2:=am bl1 hb14 (.bool r) (.slice co lc cc) (yi g);clear z12 z13 z14 z15 hx2 p20 p21 p22 f20 f21 f22;generalize(((W2.setCell ⟨q14,0,none⟩ (.bool r)).setCell ⟨q14,1,none⟩ (.slice co lc cc)).setCell ⟨q14,2,none⟩ (yi g))=W3 at y12 y13 y14 y15 bl2⊢;have z12:=y12;have z13:=y13;have z14:=y14;have z15:=y15;clear y12 y13 y14 y15;obtain⟨hx3,⟨p30,p31,p32⟩,f30,f31,f32⟩:=id z15;refine eY (i:=19) (by kernel_rfl) (aI (i:=19) rfl rfl (fun K hK=> ?_))
   go_simp
   refine hK.out _ _ ?_;clear hK;have y15:=aD z15 (.bool u) (.slice d' ld cd) (yi k);have y12:=z12.apart (c:=q15) n12_15.symm (.bool u) (.slice d' ld cd) (yi k);have y13:=z13.apart (c:=q15) n13_15.symm (.bool u) (.slice d' ld cd) (yi k);have y14:=z14.apart (c:=q15) n14_15.symm (.bool u) (.slice d' ld cd) (yi k);have bl3:=am bl2 hb15 (.bool u) (.slice d' ld cd) (yi k);clear z12 z13 z14 z15 hx3 p30 p31 p32 f30 f31 f32;generalize(((W3.setCell ⟨q15,0,none⟩ (.bool u)).setCell ⟨q15,1,none⟩ (.slice d' ld cd)).setCell ⟨q15,2,none⟩ (yi k))=W4 at y12 y13 y14 y15 bl3⊢;have z12:=y12;have z13:=y13;have z14:=y14;have z15:=y15;clear y12 y13 y14 y15;refine jP (by kernel_rfl) ?_;have bd:yB W4 W4.drew:=(Below.refl _ _).drew;have bx:=aa (aa b03 bl3) bd;have kx:=(k3.l bl3).l bd;have yq12:=z12.l bd;have yq13:=z13.l bd;have yq14:=z14.l bd;have yq15:=z15.l bd;obtain⟨-,⟨c00,c01,c02⟩,-⟩:=id yq12;obtain⟨-,⟨c10,c11,c12⟩,-⟩:=id yq13;obtain⟨-,⟨c20,c21,c22⟩,-⟩:=id yq14;obtain⟨-,⟨c30,c31,c32⟩,-⟩:=id yq15;have eq0:RB≠q12:=by have:=k3.1;omega
   have er0:q12≠RB:=by have:=k3.1;omega
   have eq1:RB≠q13:=by have:=k3.1;omega
   have er1:q13≠RB:=by have:=k3.1;omega
   have eq2:RB≠q14:=by have:=k3.1;omega
   have er2:q14≠RB:=by have:=k3.1;omega
   have eq3:RB≠q15:=by have:=k3.1;omega
   have er3:q15≠RB:=by have:=k3.1;omega
   clear b03 bl3 k3 bd z12 z13 z14 z15 l3 m3 bel bl0 bl1 bl2 hb12 hb13 hb14 hb15 n12_13 n12_14 n12_15 n13_14 n13_15 n14_15;obtain⟨⟨rs,rn,re⟩,⟨qs,qn,qe⟩,rc⟩:=R
   go_goals
   go_wp2_with fail
   go_region_held3 (fun wq=>(wq.cell? ⟨q12,0,none⟩=some (.bool s)∧wq.cell? ⟨q12,1,none⟩=some (.slice ao la ca)∧wq.cell? ⟨q12,2,none⟩=some (yi e))∧(wq.cell? ⟨q13,0,none⟩=some (.bool t)∧wq.cell? ⟨q13,1,none⟩=some (.slice bo lb cb)∧wq.cell? ⟨q13,2,none⟩=some (yi f))∧(wq.cell? ⟨q14,0,none⟩=some (.bool r)∧wq.cell? ⟨q14,1,none⟩=some (.slice co lc cc)∧wq.cell? ⟨q14,2,none⟩=some (yi g))∧(wq.cell? ⟨q15,0,none⟩=some (.bool u)∧wq.cell? ⟨q15,1,none⟩=some (.slice d' ld cd)∧wq.cell? ⟨q15,2,none⟩=some (yi k))) (go_keep) (first
    | ((with_reducible (refine(HF0.out _ bx).mono ?_));rintro z wa ⟨va,rfl,o0a,ba1⟩;have ba:=aa bx ba1;have ka:=kx.l ba1;have yaq12:=yq12.l ba1;have yaq13:=yq13.l ba1;have yaq14:=yq14.l ba1;have yaq15:=yq15.l ba1;obtain⟨-,⟨ca00,ca01,ca02⟩,-⟩:=id yaq12;obtain⟨-,⟨ca10,ca11,ca12⟩,-⟩:=id yaq13;obtain⟨-,⟨ca20,ca21,ca22⟩,-⟩:=id yaq14;obtain⟨-,⟨ca30,ca31,ca32⟩,-⟩:=id yaq15;obtain⟨ao0,ca0,hv0⟩:=o0a.rd.shape;subst hv0;clear bx kx ba1)
    | ((with_reducible (refine(HF1.out _ ba).mono ?_));rintro z wb ⟨vb,rfl,o1b,bb1⟩;have bb:=aa ba bb1;have kb:=ka.l bb1;have ybq12:=yaq12.l bb1;have ybq13:=yaq13.l bb1;have ybq14:=yaq14.l bb1;have ybq15:=yaq15.l bb1;obtain⟨-,⟨cb00,cb01,cb02⟩,-⟩:=id ybq12;obtain⟨-,⟨cb10,cb11,cb12⟩,-⟩:=id ybq13;obtain⟨-,⟨cb20,cb21,cb22⟩,-⟩:=id ybq14;obtain⟨-,⟨cb30,cb31,cb32⟩,-⟩:=id ybq15;obtain⟨ao1,ca1,hv1⟩:=o1b.rd.shape;subst hv1;have o0b:=o0a.l bb1;clear ba ka bb1)
    | ((with_reducible (refine(HF2.out _ bb).mono ?_));rintro z wc ⟨vc,rfl,o2c,bc1⟩;have bc:=aa bb bc1;have kc:=kb.l bc1;have ycq12:=ybq12.l bc1;have ycq13:=ybq13.l bc1;have ycq14:=ybq14.l bc1;have ycq15:=ybq15.l bc1;obtain⟨-,⟨cc00,cc01,cc02⟩,-⟩:=id ycq12;obtain⟨-,⟨cc10,cc11,cc12⟩,-⟩:=id ycq13;obtain⟨-,⟨cc20,cc21,cc22⟩,-⟩:=id ycq14;obtain⟨-,⟨cc30,cc31,cc32⟩,-⟩:=id ycq15;obtain⟨ao2,ca2,hv2⟩:=o2c.rd.shape;subst hv2;have o0c:=o0b.l bc1;have o1c:=o1b.l bc1;clear bb kb bc1)
    | ((with_reducible (refine(HF3.out _ bc).mono ?_));rintro z wd ⟨vd,rfl,o3d,bd1⟩;have bd:=aa bc bd1;have kd:=kc.l bd1;have ydq12:=ycq12.l bd1;have ydq13:=ycq13.l bd1;have ydq14:=ycq14.l bd1;have ydq15:=ycq15.l bd1;obtain⟨-,⟨cd00,cd01,cd02⟩,-⟩:=id ydq12;obtain⟨-,⟨cd10,cd11,cd12⟩,-⟩:=id ydq13;obtain⟨-,⟨cd20,cd21,cd22⟩,-⟩:=id ydq14;obtain⟨-,⟨cd30,cd31,cd32⟩,-⟩:=id ydq15;obtain⟨ao3,ca3,hv3⟩:=o3d.rd.shape;subst hv3;have o0d:=o0c.l bd1;have o1d:=o1c.l bd1;have o2d:=o2c.l bd1;clear bc kc bd1)
    | (go_at_call 65;have bs:=af wd (.cells #[.bool (x 0).s,.slice ao0 (Dg.dg 4294967296 (x 0).n).length ca0,yi (x 0).e,.bool (x 1).s,.slice ao1 (Dg.dg 4294967296 (x 1).n).length ca1,yi (x 1).e,.bool (x 2).s,.slice ao2 (Dg.dg 4294967296 (x 2).n).length ca2,yi (x 2).e,.bool (x 3).s,.slice ao3 (Dg.dg 4294967296 (x 3).n).length ca3,yi (x 3).e] 54);have be:=aa bd bs;have ke:=kd.l bs;have o0e:=o0d.l bs;have o1e:=o1d.l bs;have o2e:=o2d.l bs;have o3e:=o3d.l bs;refine(HL.out wd.heap.size (fun j=>match j with|0=>ao0|1=>ao1|2=>ao2|_=>ao3) (fun j=>match j with|0=>ca0|1=>ca1|2=>ca2|_=>ca3) _ be (by simp[World.size_alloc]) (by intro j hj;match j,hj with|0,_=>exact⟨by rw[World.cell?_alloc_at _ _ _ _ rfl];rfl,by rw[World.cell?_alloc_at _ _ _ _ rfl];rfl,by rw[World.cell?_alloc_at _ _ _ _ rfl];rfl,o0e.rd⟩|1,_=>exact⟨by rw[World.cell?_alloc_at _ _ _ _ rfl];rfl,by rw[World.cell?_alloc_at _ _ _ _ rfl];rfl,by rw[World.cell?_alloc_at _ _ _ _ rfl];rfl,o1e.rd⟩|2,_=>exact⟨by rw[World.cell?_alloc_at _ _ _ _ rfl];rfl,by rw[World.cell?_alloc_at _ _ _ _ rfl];rfl,by rw[World.cell?_alloc_at _ _ _ _ rfl];rfl,o2e.rd⟩|3,_=>exact⟨by rw[World.cell?_alloc_at _ _ _ _ rfl];rfl,by rw[World.cell?_alloc_at _ _ _ _ rfl];rfl,by rw[World.cell?_alloc_at _ _ _ _ rfl];rfl,o3e.rd⟩)).mono ?_;rintro z wf ⟨pp,qq,rfl,op,oq,bf1⟩;have bf:=aa be bf1;have kf:=ke.l bf1;have hlt:=ke.1;obtain⟨po,pc,hp⟩:=op.rd.shape;subst hp;obtain⟨qo,qc,hq⟩:=oq.rd.shape;subst hq;obtain⟨hl,⟨g0,g1,g2,g3,g4,g5⟩,f0,f1,f2,f3,f4,f5⟩:=id kf;have yfq12:=(ydq12.l bs).l bf1;have yfq13:=(ydq13.l bs).l bf1;have yfq14:=(ydq14.l bs).l bf1;have yfq15:=(ydq15.l bs).l bf1;obtain⟨-,⟨cf00,cf01,cf02⟩,-⟩:=id yfq12;obtain⟨-,⟨cf10,cf11,cf12⟩,-⟩:=id yfq13;obtain⟨-,⟨cf20,cf21,cf22⟩,-⟩:=id yfq14;obtain⟨-,⟨cf30,cf31,cf32⟩,-⟩:=id yfq15))
   all_goals go_wp2
   obtain⟨-,⟨u0,u1,u2,u3,u4,u5⟩,-⟩:=bP kf (.bool rs) (yT po rn pc) (yi re) (.bool qs) (yT qo qn qc) (yi qe);have bb:=aW bf hrb (.bool rs) (yT po rn pc) (yi re) (.bool qs) (yT qo qn qc) (yi qe);refine bodyPost_ret (v:= .tuple #[.agg #[.bool rs,yT po rn pc,yi re,.bool qs,yT qo qn qc,yi qe],yi rc]) (by simp[results,results39,go_sem,u0,u1,u2,u3,u4,u5]) rfl ?_;exact⟨_,_,rfl,((op.apart6 hlt _ _ _ _ _ _).lower be.size),((oq.apart6 hlt _ _ _ _ _ _).lower be.size),bb⟩
 ·rw[if_neg hc]
  go_enter func39,ntmps39
  go_wp2_with fail
  refine HW2.mono ?_;rintro z w3 ⟨rfl,b3⟩;have k3:=k2.l b3;have b03:=aa b2 b3;clear l2 m2 k2 b2 b3 HW2;obtain⟨hl,⟨v0,v1,v2,v3,v4,v5⟩,f0,f1,f2,f3,f4,f5⟩:=id k3
  go_wp2
  obtain⟨-,⟨u0,u1,u2,u3,u4,u5⟩,-⟩:=bP k3 (.bool false) yN (yi 0) (.bool false) yN (yi 0);have bb:=aW b03 (show w.heap.size≤w.heap.size+1+1 by omega) (.bool false) yN (yi 0) (.bool false) yN (yi 0)
  refine bodyPost_ret (v:= .tuple #[.agg #[.bool false,yN,yi 0,.bool false,yN,yi 0],yi c]) (by simp[results,results39,go_sem,u0,u1,u2,u3,u4,u5]) rfl ?_;exact⟨_,_,rfl,aQ _ _ _ _,aQ _ _ _ _,bb⟩
end Go.Proofs.YtiakgfmlpdfhdaaGreatDoor
