/-
  Texts laid together: Dr2, Bs2, Se2, Bl8, Br1.
-/
import Derived.Test.YtiakgfmlpdfhdaaGreatDoorTa13
import Derived.Test.YtiakgfmlpdfhdaaGreatDoorTa17
import Derived.Test.YtiakgfmlpdfhdaaGreatDoorTa19
import Derived.Test.YtiakgfmlpdfhdaaGreatDoorTa20
set_option maxRecDepth 100000
set_option maxHeartbeats 3200000
namespace Go.Proofs.YtiakgfmlpdfhdaaGreatDoor
open _root_.Go.Proofs.Tryz
open Go.RowKit
theorem bQ (s:Bool)(ao:Option Addr)(ca:Nat)(xs:List Nat)(e:Int)(w:World)(hr:Rd w .u32 (.slice ao xs.length ca) xs)(sa:Dg.Small 4294967296 xs)(hL:xs.length≤20000)(he1: -1000000≤e)(he2:e≤1000000):
  yC 27 #[ydV s (.slice ao xs.length ca) e] w (dr w (bare ⟨s,Dg.vl 4294967296 xs,e⟩)):=
 (Aw s ao ca xs e w hr sa hL he1 he2).mono fun _ _ h=>h.near
theorem Hu (s:Bool)(ao:Option Addr)(ca la:Nat)(e:Int)(t:Bool)(bo:Option Addr)(cb lb:Nat)(f:Int)(r q:ak×Int)(w:World)
  (HS: ∀w1,yB w w1→yC 84 #[ydV s (.slice ao la ca) e] w1 (gR w1 r))
  (HT: ∀w1,yB w w1→yC 84 #[ydV t (.slice bo lb cb) f] w1 (gR w1 q)):
  yC 59 #[.agg #[.bool s,.slice ao la ca,yi e,.bool t,.slice bo lb cb,yi f]] w (jE w (iD r q)):=by
 have H1:Hid _:=HS;have H2:Hid _:=HT;clear HS HT;obtain⟨⟨rs,rn,re⟩,c⟩:=r;have l1:=(aJ w (.bool s) (.slice ao la ca) (yi e) (.bool t) (.slice bo lb cb) (yi f) 57).l (af _ (.cells #[.bool false,yN,yi 0,.bool false,yN,yi 0] 27));have k1:=aJ (w.alloc (.cells #[.bool s,.slice ao la ca,yi e,.bool t,.slice bo lb cb,yi f] 57)) (.bool false) yN (yi 0) (.bool false) yN (yi 0) 27;have b1:=aa (af w (.cells #[.bool s,.slice ao la ca,yi e,.bool t,.slice bo lb cb,yi f] 57)) (af _ (.cells #[.bool false,yN,yi 0,.bool false,yN,yi 0] 27));simp only[World.size_alloc] at k1;obtain⟨-,⟨c0,c1,c2,c3,c4,c5⟩,-⟩:=id l1
 go_enter func59,ntmps59
 go_wp2_with fail
 refine(H1.out _ b1).mono ?_;rintro z w4 ⟨v4,rfl,o4,b4⟩;have b04:=aa b1 b4;have q4:=l1.l b4;have k4:=k1.l b4;have o4:=o4.lower (show w.heap.size+2≤_ from by have:=k1.1;omega)
 clear b4 l1 k1 b1 c0 c1 c2 c3 c4 c5;obtain⟨ao4,cp4,h4⟩:=o4.rd.shape;subst h4;simp only at o4⊢;have b5:=af w4 (.cells (ydA rs (yT ao4 rn cp4) re) 25);have a5:=aA w4 (.bool rs) (yT ao4 rn cp4) (yi re) 25;have b05:=aa b04 b5;have q5:=q4.l b5;have k5:=k4.l b5;have o5:=o4.l b5;clear b04 q4 k4 b5 o4;obtain⟨-,⟨-,-,-,p3,p4,p5⟩,-⟩:=id q5
 by_cases hc:c=0
 ·subst hc
  obtain⟨⟨qs,qn,qe⟩,d⟩:=q
  go_wp2_with fail
  refine(H2.out _ b05).mono ?_;rintro z w7 ⟨v7,rfl,o7,b7⟩;have b07:=aa b05 b7;have a7:=a5.l b7;have k7:=k5.l b7;have o67:=o5.l b7;have o7:=o7.lower (show w.heap.size+2≤_ from by have:=k5.1;omega)
  clear b05 a5 k5 q5 b7 o5 p3 p4 p5;obtain⟨ao7,cp7,h7⟩:=o7.rd.shape;subst h7;simp only at o7⊢;have b8:=af w7 (.cells (ydA qs (yT ao7 qn cp7) qe) 25);have e8:=aA w7 (.bool qs) (yT ao7 qn cp7) (yi qe) 25;have bX:=aa b07 b8;have a8:=a7.l b8;have kX:=k7.l b8;have o68:=o67.l b8;have o78:=o7.l b8;clear b07 a7 k7 b8 o67 o7
  by_cases hd:d=0
  ·subst hd
   have hR:iD (⟨rs,rn,re⟩,0) (⟨qs,qn,qe⟩,0)=(⟨rs,rn,re⟩,⟨qs,qn,qe⟩,0):=by simp[iD]
   obtain⟨-,⟨i0,i1,i2⟩,-⟩:=id a8;obtain⟨-,⟨j0,j1,j2⟩,-⟩:=id e8;obtain⟨hl,⟨v0,v1,v2,v3,v4,v5⟩,f0,f1,f2,f3,f4,f5⟩:=id kX
   go_wp2
   obtain⟨-,⟨u0,u1,u2,u3,u4,u5⟩,-⟩:=bP kX (.bool rs) (yT ao4 rn cp4) (yi re) (.bool qs) (yT ao7 qn cp7) (yi qe);have bb:=aW bX (show w.heap.size≤w.heap.size+1 by omega) (.bool rs) (yT ao4 rn cp4) (yi re) (.bool qs) (yT ao7 qn cp7) (yi qe)
   refine bodyPost_ret (v:= .tuple #[.agg #[.bool rs,yT ao4 rn cp4,yi re,.bool qs,yT ao7 qn cp7,yi qe],yi 0]) (by simp[results,results59,go_sem,u0,u1,u2,u3,u4,u5]) rfl ?_
   try rw[hR]
   exact⟨_,_,rfl,(o68.apart6 (by omega) _ _ _ _ _ _).lower (by omega),(o78.apart6 (by omega) _ _ _ _ _ _).lower (by omega),bb⟩
  ·have hR:iD (⟨rs,rn,re⟩,0) (⟨qs,qn,qe⟩,d)=(⟨false,0,0⟩,⟨false,0,0⟩,d):=by simp[iD,hd]
   obtain⟨hl,⟨v0,v1,v2,v3,v4,v5⟩,f0,f1,f2,f3,f4,f5⟩:=id kX
   go_wp2
   obtain⟨-,⟨u0,u1,u2,u3,u4,u5⟩,-⟩:=bP kX (.bool false) yN (yi 0) (.bool false) yN (yi 0);have bb:=aW bX (show w.heap.size≤w.heap.size+1 by omega) (.bool false) yN (yi 0) (.bool false) yN (yi 0)
   refine bodyPost_ret (v:= .tuple #[.agg #[.bool false,yN,yi 0,.bool false,yN,yi 0],yi d]) (by simp[results,results59,go_sem,u0,u1,u2,u3,u4,u5]) rfl ?_
   try rw[hR]
   exact⟨_,_,rfl,aQ _ _ _ _,aQ _ _ _ _,bb⟩
 ·have hR:iD (⟨rs,rn,re⟩,c) q=(⟨false,0,0⟩,⟨false,0,0⟩,c):=by simp[iD,hc]
  have kX:=k5;have bX:=b05;obtain⟨hl,⟨v0,v1,v2,v3,v4,v5⟩,f0,f1,f2,f3,f4,f5⟩:=id kX
  go_wp2
  obtain⟨-,⟨u0,u1,u2,u3,u4,u5⟩,-⟩:=bP kX (.bool false) yN (yi 0) (.bool false) yN (yi 0);have bb:=aW bX (show w.heap.size≤w.heap.size+1 by omega) (.bool false) yN (yi 0) (.bool false) yN (yi 0)
  refine bodyPost_ret (v:= .tuple #[.agg #[.bool false,yN,yi 0,.bool false,yN,yi 0],yi c]) (by simp[results,results59,go_sem,u0,u1,u2,u3,u4,u5]) rfl ?_
  try rw[hR]
  exact⟨_,_,rfl,aQ _ _ _ _,aQ _ _ _ _,bb⟩
theorem refine_pi (pb:Nat)(x y:ak)(n:Int)(w:World)
  (HK: ∀w1,yB w w1→yC 36 #[yi n] w1 (aeT w1 x y))
  (HG: ∀xo xc yo yc w1,yB w w1→Rd w1 .u32 (yT xo x.n xc) (Dg.dg 4294967296 x.n)→Rd w1 .u32 (yT yo y.n yc) (Dg.dg 4294967296 y.n)→yC 57 #[.agg #[.bool x.s,yT xo x.n xc,yi x.e,.bool y.s,yT yo y.n yc,yi y.e],.pointer (some ⟨pb,0,none⟩)] w1 (yR w1 (.bool true))):
  yC 56 #[yi n,.func (.func 36) #[] #[],.func (.func 57) #[] #[.pointer (some ⟨pb,0,none⟩)]] w (aeT w x y):=by
 replace HK:Hid _:=HK;replace HG:Hid _:=HG;obtain⟨W3,hW4,q1,b2⟩:=cA w [.bool false,yN,yi 0,.bool false,yN,yi 0] 57;replace hW4:Hid _:=hW4
 go_enter func56,ntmps56
 go_upto_region 1 with fail
 rw[hW4.out];clear hW4
 go_wp2_with fail
 refine(HK.out _ b2).mono ?_;rintro zz w5 ⟨v1x7,v2x8,rfl,r1x9,r2x10,bb6⟩;have q11:=q1.l bb6;have b12:=aa b2 bb6;obtain⟨xo,xc,hv⟩:=r1x9.shape;subst hv;obtain⟨yo,yc,hv⟩:=r2x10.shape;subst hv;clear q1 b2 bb6 HK;obtain⟨W15,hW14,q16,al13⟩:=cA w5 [.bool x.s,yT xo x.n xc,yi x.e,.bool y.s,yT yo y.n yc,yi y.e] 57;replace hW14:Hid _:=hW14;have hl17:w.heap.size≤w5.heap.size:=b12.size;have hl18:=q11.lt;have q19:=q11.l al13;have r20:=r1x9.l al13;have r21:=r2x10.l al13;have b22:=aa b12 al13;clear q11 r1x9 r2x10 b12 al13
 go_wp2_with fail
 rw[hW14.out];clear hW14;have hbb:=b22;have qq0:=q19;have qq1:=q16;have rx:=r20;have ry:=r21;clear q19 q16 r20 r21 b22
 go_wp2
 go_loopw [0] (fun nv wr=>nv=yi n∧wr=W15) (fun _ _=>0)
 case atStart=>exact⟨rfl,rfl⟩
 case round=>
  obtain⟨rfl,hwr⟩:=hrel;subst hwr;obtain⟨c101,c102,c103,c104,c105,c106⟩:=qq1.cs6
  go_wp2_with fail
  refine(HG.out _ _ _ _ _ hbb rx ry).mono ?_;rintro zz w107 ⟨rfl,bb108⟩;have q109:=qq0.l bb108;have q110:=qq1.l bb108;have r111:=rx.l bb108;have r112:=ry.l bb108;have b113:=aa hbb bb108;clear qq0 qq1 rx ry hbb bb108 HG c101 c102 c103 c104 c105 c106;obtain⟨c114,c115,c116,c117,c118,c119⟩:=q110.cs6;have hf:=fin6 (P:=Tryz.prog) q109 b113 (by omega) underlying57 rfl (by kernel_rfl) (.bool x.s) (yT xo x.n xc) (yi x.e) (.bool y.s) (yT yo y.n yc) (yi y.e);have HH:Hid (_∧_∧_∧_):=⟨hf.1,hf.2.2.rd r111 (aX r111 q109 (by simp)),hf.2.2.rd r112 (aX r112 q109 (by simp)),hf.2.1⟩;obtain⟨⟨z0,z1,z2,z3,z4,z5⟩,y0,y1,y2,y3,y4,y5⟩:=csf6 q109;clear hf q109 q110 r111 r112 b113
  go_wp2
  obtain⟨hl,rRx,rRy,bR⟩:=HH.out;exact bodyPost_ret (br results56 rfl hl) rfl ⟨_,_,rfl,rRx,rRy,bR⟩
theorem refine_ln (pb:Nat)(x y:ak)(n:Int)(w:World)
  (HK: ∀w1,yB w w1→yC 48 #[yi n] w1 (aeT w1 x y))
  (HG: ∀xo xc yo yc w1,yB w w1→Rd w1 .u32 (yT xo x.n xc) (Dg.dg 4294967296 x.n)→Rd w1 .u32 (yT yo y.n yc) (Dg.dg 4294967296 y.n)→yC 57 #[.agg #[.bool x.s,yT xo x.n xc,yi x.e,.bool y.s,yT yo y.n yc,yi y.e],.pointer (some ⟨pb,0,none⟩)] w1 (yR w1 (.bool true))):
  yC 56 #[yi n,.func (.func 48) #[] #[],.func (.func 57) #[] #[.pointer (some ⟨pb,0,none⟩)]] w (aeT w x y):=by
 replace HK:Hid _:=HK;replace HG:Hid _:=HG;obtain⟨W3,hW4,q1,b2⟩:=cA w [.bool false,yN,yi 0,.bool false,yN,yi 0] 57;replace hW4:Hid _:=hW4
 go_enter func56,ntmps56
 go_upto_region 1 with fail
 rw[hW4.out];clear hW4
 go_wp2_with fail
 refine(HK.out _ b2).mono ?_;rintro zz w5 ⟨v1x7,v2x8,rfl,r1x9,r2x10,bb6⟩;have q11:=q1.l bb6;have b12:=aa b2 bb6;obtain⟨xo,xc,hv⟩:=r1x9.shape;subst hv;obtain⟨yo,yc,hv⟩:=r2x10.shape;subst hv;clear q1 b2 bb6 HK;obtain⟨W15,hW14,q16,al13⟩:=cA w5 [.bool x.s,yT xo x.n xc,yi x.e,.bool y.s,yT yo y.n yc,yi y.e] 57;replace hW14:Hid _:=hW14;have hl17:w.heap.size≤w5.heap.size:=b12.size;have hl18:=q11.lt;have q19:=q11.l al13;have r20:=r1x9.l al13;have r21:=r2x10.l al13;have b22:=aa b12 al13;clear q11 r1x9 r2x10 b12 al13
 go_wp2_with fail
 rw[hW14.out];clear hW14;have hbb:=b22;have qq0:=q19;have qq1:=q16;have rx:=r20;have ry:=r21;clear q19 q16 r20 r21 b22
 go_wp2
 go_loopw [0] (fun nv wr=>nv=yi n∧wr=W15) (fun _ _=>0)
 case atStart=>exact⟨rfl,rfl⟩
 case round=>
  obtain⟨rfl,hwr⟩:=hrel;subst hwr;obtain⟨c101,c102,c103,c104,c105,c106⟩:=qq1.cs6
  go_wp2_with fail
  refine(HG.out _ _ _ _ _ hbb rx ry).mono ?_;rintro zz w107 ⟨rfl,bb108⟩;have q109:=qq0.l bb108;have q110:=qq1.l bb108;have r111:=rx.l bb108;have r112:=ry.l bb108;have b113:=aa hbb bb108;clear qq0 qq1 rx ry hbb bb108 HG c101 c102 c103 c104 c105 c106;obtain⟨c114,c115,c116,c117,c118,c119⟩:=q110.cs6;have hf:=fin6 (P:=Tryz.prog) q109 b113 (by omega) underlying57 rfl (by kernel_rfl) (.bool x.s) (yT xo x.n xc) (yi x.e) (.bool y.s) (yT yo y.n yc) (yi y.e);have HH:Hid (_∧_∧_∧_):=⟨hf.1,hf.2.2.rd r111 (aX r111 q109 (by simp)),hf.2.2.rd r112 (aX r112 q109 (by simp)),hf.2.1⟩;obtain⟨⟨z0,z1,z2,z3,z4,z5⟩,y0,y1,y2,y3,y4,y5⟩:=csf6 q109;clear hf q109 q110 r111 r112 b113
  go_wp2
  obtain⟨hl,rRx,rRy,bR⟩:=HH.out;exact bodyPost_ret (br results56 rfl hl) rfl ⟨_,_,rfl,rRx,rRy,bR⟩
theorem refine_inv (pf pn:Nat)(pb:Nat)(x y:ak)(n:Int)(w:World)
  (HK: ∀w1,yB w w1→yC 62 #[yi n,.pointer (some ⟨pf,0,none⟩),.pointer (some ⟨pn,0,none⟩)] w1 (aeT w1 x y))
  (HG: ∀xo xc yo yc w1,yB w w1→Rd w1 .u32 (yT xo x.n xc) (Dg.dg 4294967296 x.n)→Rd w1 .u32 (yT yo y.n yc) (Dg.dg 4294967296 y.n)→yC 57 #[.agg #[.bool x.s,yT xo x.n xc,yi x.e,.bool y.s,yT yo y.n yc,yi y.e],.pointer (some ⟨pb,0,none⟩)] w1 (yR w1 (.bool true))):
  yC 56 #[yi n,.func (.func 62) #[] #[.pointer (some ⟨pf,0,none⟩),.pointer (some ⟨pn,0,none⟩)],.func (.func 57) #[] #[.pointer (some ⟨pb,0,none⟩)]] w (aeT w x y):=by
 replace HK:Hid _:=HK;replace HG:Hid _:=HG;obtain⟨W3,hW4,q1,b2⟩:=cA w [.bool false,yN,yi 0,.bool false,yN,yi 0] 57;replace hW4:Hid _:=hW4
 go_enter func56,ntmps56
 go_upto_region 1 with fail
 rw[hW4.out];clear hW4
 go_wp2_with fail
 refine(HK.out _ b2).mono ?_;rintro zz w5 ⟨v1x7,v2x8,rfl,r1x9,r2x10,bb6⟩;have q11:=q1.l bb6;have b12:=aa b2 bb6;obtain⟨xo,xc,hv⟩:=r1x9.shape;subst hv;obtain⟨yo,yc,hv⟩:=r2x10.shape;subst hv;clear q1 b2 bb6 HK;obtain⟨W15,hW14,q16,al13⟩:=cA w5 [.bool x.s,yT xo x.n xc,yi x.e,.bool y.s,yT yo y.n yc,yi y.e] 57;replace hW14:Hid _:=hW14;have hl17:w.heap.size≤w5.heap.size:=b12.size;have hl18:=q11.lt;have q19:=q11.l al13;have r20:=r1x9.l al13;have r21:=r2x10.l al13;have b22:=aa b12 al13;clear q11 r1x9 r2x10 b12 al13
 go_wp2_with fail
 rw[hW14.out];clear hW14;have hbb:=b22;have qq0:=q19;have qq1:=q16;have rx:=r20;have ry:=r21;clear q19 q16 r20 r21 b22
 go_wp2
 go_loopw [0] (fun nv wr=>nv=yi n∧wr=W15) (fun _ _=>0)
 case atStart=>exact⟨rfl,rfl⟩
 case round=>
  obtain⟨rfl,hwr⟩:=hrel;subst hwr;obtain⟨c101,c102,c103,c104,c105,c106⟩:=qq1.cs6
  go_wp2_with fail
  refine(HG.out _ _ _ _ _ hbb rx ry).mono ?_;rintro zz w107 ⟨rfl,bb108⟩;have q109:=qq0.l bb108;have q110:=qq1.l bb108;have r111:=rx.l bb108;have r112:=ry.l bb108;have b113:=aa hbb bb108;clear qq0 qq1 rx ry hbb bb108 HG c101 c102 c103 c104 c105 c106;obtain⟨c114,c115,c116,c117,c118,c119⟩:=q110.cs6;have hf:=fin6 (P:=Tryz.prog) q109 b113 (by omega) underlying57 rfl (by kernel_rfl) (.bool x.s) (yT xo x.n xc) (yi x.e) (.bool y.s) (yT yo y.n yc) (yi y.e);have HH:Hid (_∧_∧_∧_):=⟨hf.1,hf.2.2.rd r111 (aX r111 q109 (by simp)),hf.2.2.rd r112 (aX r112 q109 (by simp)),hf.2.1⟩;obtain⟨⟨z0,z1,z2,z3,z4,z5⟩,y0,y1,y2,y3,y4,y5⟩:=csf6 q109;clear hf q109 q110 r111 r112 b113
  go_wp2
  obtain⟨hl,rRx,rRy,bR⟩:=HH.out;exact bodyPost_ret (br results56 rfl hl) rfl ⟨_,_,rfl,rRx,rRy,bR⟩
theorem told_pi (x y u v p q:ak)(b n er:Int)(w:World)(h1: ¬b<10)(h2: ¬1000<b)(hn:IntKind.i64.wrap (b+64)=n)
  (HR: ∀pb w1,yB w w1→au w1 pb 3 [yi b]→yC 56 #[yi n,.func (.func 36) #[] #[],.func (.func 57) #[] #[.pointer (some ⟨pb,0,none⟩)]] w1 (aeT w1 x y))
  (HC: ∀xo xc yo yc w1,yB w w1→Rd w1 .u32 (yT xo x.n xc) (Dg.dg 4294967296 x.n)→Rd w1 .u32 (yT yo y.n yc) (Dg.dg 4294967296 y.n)→yC 58 #[.agg #[.bool x.s,yT xo x.n xc,yi x.e,.bool y.s,yT yo y.n yc,yi y.e],yi b] w1 (aeT w1 u v))
  (HH: ∀uo uc vo vc w1,yB w w1→Rd w1 .u32 (yT uo u.n uc) (Dg.dg 4294967296 u.n)→Rd w1 .u32 (yT vo v.n vc) (Dg.dg 4294967296 v.n)→yC 59 #[.agg #[.bool u.s,yT uo u.n uc,yi u.e,.bool v.s,yT vo v.n vc,yi v.e]] w1 (BRd w1 p q er)):
  yC 35 #[yi b,.func (.func 36) #[] #[]] w (BRd w p q er):=by
 replace HR:Hid _:=HR;replace HC:Hid _:=HC;replace HH:Hid _:=HH;obtain⟨W4,hW5,q1,q2,b3⟩:=iG w [yi b] 3 [.bool false,yN,yi 0,.bool false,yN,yi 0] 27;replace hW5:Hid _:=hW5
 go_enter func35,ntmps35
 go_upto_region 1 with fail
 rw[hW5.out];clear hW5;have c6:=q1.c 0 rfl
 go_wp2_with fail
 refine(HR.out _ _ b3 q1).mono ?_;rintro zz w7 ⟨v1x9,v2x10,rfl,r1x11,r2x12,bb8⟩;have q13:=q1.l bb8;have q14:=q2.l bb8;have b15:=aa b3 bb8;obtain⟨xo,xc,hv⟩:=r1x11.shape;subst hv;obtain⟨yo,yc,hv⟩:=r2x12.shape;subst hv;clear q1 q2 b3 bb8 HR c6;obtain⟨W18,hW17,q19,al16⟩:=cA w7 [.bool x.s,yT xo x.n xc,yi x.e,.bool y.s,yT yo y.n yc,yi y.e] 57;replace hW17:Hid _:=hW17;have hl20:w.heap.size≤w7.heap.size:=b15.size;have hl21:=q13.lt;have hl22:=q14.lt;have q23:=q13.l al16;have q24:=q14.l al16;have r25:=r1x11.l al16;have r26:=r2x12.l al16;have b27:=aa b15 al16;clear q13 q14 r1x11 r2x12 b15 al16
 go_upto_region 4 with fail
 rw[hW17.out];clear hW17;have c28:=q23.c 0 rfl;obtain⟨c29,c30,c31,c32,c33,c34⟩:=q19.cs6
 go_wp2_with fail
 refine(HC.out _ _ _ _ _ b27 r25 r26).mono ?_;rintro zz w35 ⟨v1x37,v2x38,rfl,r1x39,r2x40,bb36⟩;have q41:=q24.l bb36;have r42:=r25.l bb36;have r43:=r26.l bb36;have b44:=aa b27 bb36;obtain⟨uo,uc,hv⟩:=r1x39.shape;subst hv;obtain⟨vo,vc,hv⟩:=r2x40.shape;subst hv;clear q23 q24 q19 r25 r26 b27 bb36 HC c28 c29 c30 c31 c32 c33 c34
 go_wp2_with fail
 refine(HH.out _ _ _ _ _ b44 r1x39 r2x40).mono ?_;rintro zz w45 ⟨v1x47,v2x48,rfl,r1x49,r2x50,bb46⟩;have q51:=q41.l bb46;have r52:=r42.l bb46;have r53:=r43.l bb46;have r54:=r1x39.l bb46;have r55:=r2x40.l bb46;have b56:=aa b44 bb46;obtain⟨po,pc,hv⟩:=r1x49.shape;subst hv;obtain⟨qo,qc,hv⟩:=r2x50.shape;subst hv;clear q41 r42 r43 r1x39 r2x40 b44 bb46 HH;have hf:=fin6 (P:=Tryz.prog) q51 b56 (by omega) underlying27 rfl (by kernel_rfl) (.bool p.s) (yT po p.n pc) (yi p.e) (.bool q.s) (yT qo q.n qc) (yi q.e);have HH:Hid (_∧_∧_∧_):=⟨hf.1,hf.2.2.rd r1x49 (aX r1x49 q51 (by simp)),hf.2.2.rd r2x50 (aX r2x50 q51 (by simp)),hf.2.1⟩;obtain⟨⟨z0,z1,z2,z3,z4,z5⟩,y0,y1,y2,y3,y4,y5⟩:=csf6 q51;clear hf q51 r52 r53 r54 r55 r1x49 r2x50 b56
 go_wp2
 obtain⟨hl,rRp,rRq,bR⟩:=HH.out;exact bodyPost_ret (aj results35 rfl rfl hl) rfl ⟨_,_,rfl,rRp,rRq,bR⟩
theorem told_ln (x y u v p q:ak)(b n er:Int)(w:World)(h1: ¬b<10)(h2: ¬1000<b)(hn:IntKind.i64.wrap (b+64)=n)
  (HR: ∀pb w1,yB w w1→au w1 pb 3 [yi b]→yC 56 #[yi n,.func (.func 48) #[] #[],.func (.func 57) #[] #[.pointer (some ⟨pb,0,none⟩)]] w1 (aeT w1 x y))
  (HC: ∀xo xc yo yc w1,yB w w1→Rd w1 .u32 (yT xo x.n xc) (Dg.dg 4294967296 x.n)→Rd w1 .u32 (yT yo y.n yc) (Dg.dg 4294967296 y.n)→yC 58 #[.agg #[.bool x.s,yT xo x.n xc,yi x.e,.bool y.s,yT yo y.n yc,yi y.e],yi b] w1 (aeT w1 u v))
  (HH: ∀uo uc vo vc w1,yB w w1→Rd w1 .u32 (yT uo u.n uc) (Dg.dg 4294967296 u.n)→Rd w1 .u32 (yT vo v.n vc) (Dg.dg 4294967296 v.n)→yC 59 #[.agg #[.bool u.s,yT uo u.n uc,yi u.e,.bool v.s,yT vo v.n vc,yi v.e]] w1 (BRd w1 p q er)):
  yC 35 #[yi b,.func (.func 48) #[] #[]] w (BRd w p q er):=by
 replace HR:Hid _:=HR;replace HC:Hid _:=HC;replace HH:Hid _:=HH;obtain⟨W4,hW5,q1,q2,b3⟩:=iG w [yi b] 3 [.bool false,yN,yi 0,.bool false,yN,yi 0] 27;replace hW5:Hid _:=hW5
 go_enter func35,ntmps35
 go_upto_region 1 with fail
 rw[hW5.out];clear hW5;have c6:=q1.c 0 rfl
 go_wp2_with fail
 refine(HR.out _ _ b3 q1).mono ?_;rintro zz w7 ⟨v1x9,v2x10,rfl,r1x11,r2x12,bb8⟩;have q13:=q1.l bb8;have q14:=q2.l bb8;have b15:=aa b3 bb8;obtain⟨xo,xc,hv⟩:=r1x11.shape;subst hv;obtain⟨yo,yc,hv⟩:=r2x12.shape;subst hv;clear q1 q2 b3 bb8 HR c6;obtain⟨W18,hW17,q19,al16⟩:=cA w7 [.bool x.s,yT xo x.n xc,yi x.e,.bool y.s,yT yo y.n yc,yi y.e] 57;replace hW17:Hid _:=hW17;have hl20:w.heap.size≤w7.heap.size:=b15.size;have hl21:=q13.lt;have hl22:=q14.lt;have q23:=q13.l al16;have q24:=q14.l al16;have r25:=r1x11.l al16;have r26:=r2x12.l al16;have b27:=aa b15 al16;clear q13 q14 r1x11 r2x12 b15 al16
 go_upto_region 4 with fail
 rw[hW17.out];clear hW17;have c28:=q23.c 0 rfl;obtain⟨c29,c30,c31,c32,c33,c34⟩:=q19.cs6
 go_wp2_with fail
 refine(HC.out _ _ _ _ _ b27 r25 r26).mono ?_;rintro zz w35 ⟨v1x37,v2x38,rfl,r1x39,r2x40,bb36⟩;have q41:=q24.l bb36;have r42:=r25.l bb36;have r43:=r26.l bb36;have b44:=aa b27 bb36;obtain⟨uo,uc,hv⟩:=r1x39.shape;subst hv;obtain⟨vo,vc,hv⟩:=r2x40.shape;subst hv;clear q23 q24 q19 r25 r26 b27 bb36 HC c28 c29 c30 c31 c32 c33 c34
 go_wp2_with fail
 refine(HH.out _ _ _ _ _ b44 r1x39 r2x40).mono ?_;rintro zz w45 ⟨v1x47,v2x48,rfl,r1x49,r2x50,bb46⟩;have q51:=q41.l bb46;have r52:=r42.l bb46;have r53:=r43.l bb46;have r54:=r1x39.l bb46;have r55:=r2x40.l bb46;have b56:=aa b44 bb46;obtain⟨po,pc,hv⟩:=r1x49.shape;subst hv;obtain⟨qo,qc,hv⟩:=r2x50.shape;subst hv;clear q41 r42 r43 r1x39 r2x40 b44 bb46 HH;have hf:=fin6 (P:=Tryz.prog) q51 b56 (by omega) underlying27 rfl (by kernel_rfl) (.bool p.s) (yT po p.n pc) (yi p.e) (.bool q.s) (yT qo q.n qc) (yi q.e);have HH:Hid (_∧_∧_∧_):=⟨hf.1,hf.2.2.rd r1x49 (aX r1x49 q51 (by simp)),hf.2.2.rd r2x50 (aX r2x50 q51 (by simp)),hf.2.1⟩;obtain⟨⟨z0,z1,z2,z3,z4,z5⟩,y0,y1,y2,y3,y4,y5⟩:=csf6 q51;clear hf q51 r52 r53 r54 r55 r1x49 r2x50 b56
 go_wp2
 obtain⟨hl,rRp,rRq,bR⟩:=HH.out;exact bodyPost_ret (aj results35 rfl rfl hl) rfl ⟨_,_,rfl,rRp,rRq,bR⟩
theorem told_inv (pf pn:Nat)(x y u v p q:ak)(b n er:Int)(w:World)(h1: ¬b<10)(h2: ¬1000<b)(hn:IntKind.i64.wrap (b+64)=n)
  (HR: ∀pb w1,yB w w1→au w1 pb 3 [yi b]→yC 56 #[yi n,.func (.func 62) #[] #[.pointer (some ⟨pf,0,none⟩),.pointer (some ⟨pn,0,none⟩)],.func (.func 57) #[] #[.pointer (some ⟨pb,0,none⟩)]] w1 (aeT w1 x y))
  (HC: ∀xo xc yo yc w1,yB w w1→Rd w1 .u32 (yT xo x.n xc) (Dg.dg 4294967296 x.n)→Rd w1 .u32 (yT yo y.n yc) (Dg.dg 4294967296 y.n)→yC 58 #[.agg #[.bool x.s,yT xo x.n xc,yi x.e,.bool y.s,yT yo y.n yc,yi y.e],yi b] w1 (aeT w1 u v))
  (HH: ∀uo uc vo vc w1,yB w w1→Rd w1 .u32 (yT uo u.n uc) (Dg.dg 4294967296 u.n)→Rd w1 .u32 (yT vo v.n vc) (Dg.dg 4294967296 v.n)→yC 59 #[.agg #[.bool u.s,yT uo u.n uc,yi u.e,.bool v.s,yT vo v.n vc,yi v.e]] w1 (BRd w1 p q er)):
  yC 35 #[yi b,.func (.func 62) #[] #[.pointer (some ⟨pf,0,none⟩),.pointer (some ⟨pn,0,none⟩)]] w (BRd w p q er):=by
 replace HR:Hid _:=HR;replace HC:Hid _:=HC;replace HH:Hid _:=HH;obtain⟨W4,hW5,q1,q2,b3⟩:=iG w [yi b] 3 [.bool false,yN,yi 0,.bool false,yN,yi 0] 27;replace hW5:Hid _:=hW5
 go_enter func35,ntmps35
 go_upto_region 1 with fail
 rw[hW5.out];clear hW5;have c6:=q1.c 0 rfl
 go_wp2_with fail
 refine(HR.out _ _ b3 q1).mono ?_;rintro zz w7 ⟨v1x9,v2x10,rfl,r1x11,r2x12,bb8⟩;have q13:=q1.l bb8;have q14:=q2.l bb8;have b15:=aa b3 bb8;obtain⟨xo,xc,hv⟩:=r1x11.shape;subst hv;obtain⟨yo,yc,hv⟩:=r2x12.shape;subst hv;clear q1 q2 b3 bb8 HR c6;obtain⟨W18,hW17,q19,al16⟩:=cA w7 [.bool x.s,yT xo x.n xc,yi x.e,.bool y.s,yT yo y.n yc,yi y.e] 57;replace hW17:Hid _:=hW17;have hl20:w.heap.size≤w7.heap.size:=b15.size;have hl21:=q13.lt;have hl22:=q14.lt;have q23:=q13.l al16;have q24:=q14.l al16;have r25:=r1x11.l al16;have r26:=r2x12.l al16;have b27:=aa b15 al16;clear q13 q14 r1x11 r2x12 b15 al16
 go_upto_region 4 with fail
 rw[hW17.out];clear hW17;have c28:=q23.c 0 rfl;obtain⟨c29,c30,c31,c32,c33,c34⟩:=q19.cs6
 go_wp2_with fail
 refine(HC.out _ _ _ _ _ b27 r25 r26).mono ?_;rintro zz w35 ⟨v1x37,v2x38,rfl,r1x39,r2x40,bb36⟩;have q41:=q24.l bb36;have r42:=r25.l bb36;have r43:=r26.l bb36;have b44:=aa b27 bb36;obtain⟨uo,uc,hv⟩:=r1x39.shape;subst hv;obtain⟨vo,vc,hv⟩:=r2x40.shape;subst hv;clear q23 q24 q19 r25 r26 b27 bb36 HC c28 c29 c30 c31 c32 c33 c34
 go_wp2_with fail
 refine(HH.out _ _ _ _ _ b44 r1x39 r2x40).mono ?_;rintro zz w45 ⟨v1x47,v2x48,rfl,r1x49,r2x50,bb46⟩;have q51:=q41.l bb46;have r52:=r42.l bb46;have r53:=r43.l bb46;have r54:=r1x39.l bb46;have r55:=r2x40.l bb46;have b56:=aa b44 bb46;obtain⟨po,pc,hv⟩:=r1x49.shape;subst hv;obtain⟨qo,qc,hv⟩:=r2x50.shape;subst hv;clear q41 r42 r43 r1x39 r2x40 b44 bb46 HH;have hf:=fin6 (P:=Tryz.prog) q51 b56 (by omega) underlying27 rfl (by kernel_rfl) (.bool p.s) (yT po p.n pc) (yi p.e) (.bool q.s) (yT qo q.n qc) (yi q.e);have HH:Hid (_∧_∧_∧_):=⟨hf.1,hf.2.2.rd r1x49 (aX r1x49 q51 (by simp)),hf.2.2.rd r2x50 (aX r2x50 q51 (by simp)),hf.2.1⟩;obtain⟨⟨z0,z1,z2,z3,z4,z5⟩,y0,y1,y2,y3,y4,y5⟩:=csf6 q51;clear hf q51 r52 r53 r54 r55 r1x49 r2x50 b56
 go_wp2
 obtain⟨hl,rRp,rRq,bR⟩:=HH.out;exact bodyPost_ret (aj results35 rfl rfl hl) rfl ⟨_,_,rfl,rRp,rRq,bR⟩
theorem sumsAtan_W (x y:ak)(n k:Int)(w:World)
  (HI: ∀w1,yB w w1→yC 63 #[yi n,yi k,yi 1] w1 (aeT w1 x y)):
  yC 38 #[yi n,yi k] w (aeT w x y):=by
 replace HI:Hid _:=HI;obtain⟨W3,hW4,q1,b2⟩:=cA w [.bool false,yN,yi 0,.bool false,yN,yi 0] 57;replace hW4:Hid _:=hW4
 go_enter func38,ntmps38
 go_upto_region 1 with fail
 rw[hW4.out];clear hW4
 go_wp2_with fail
 refine(HI.out _ b2).mono ?_;rintro zz w5 ⟨v1x7,v2x8,rfl,r1x9,r2x10,bb6⟩;have q11:=q1.l bb6;have b12:=aa b2 bb6;obtain⟨xo,xc,hv⟩:=r1x9.shape;subst hv;obtain⟨yo,yc,hv⟩:=r2x10.shape;subst hv;clear q1 b2 bb6 HI;have hf:=fin6 (P:=Tryz.prog) q11 b12 (by omega) underlying57 rfl (by kernel_rfl) (.bool x.s) (yT xo x.n xc) (yi x.e) (.bool y.s) (yT yo y.n yc) (yi y.e);have HH:Hid (_∧_∧_∧_):=⟨hf.1,hf.2.2.rd r1x9 (aX r1x9 q11 (by simp)),hf.2.2.rd r2x10 (aX r2x10 q11 (by simp)),hf.2.1⟩;obtain⟨⟨z0,z1,z2,z3,z4,z5⟩,y0,y1,y2,y3,y4,y5⟩:=csf6 q11;clear hf q11 r1x9 r2x10 b12
 go_wp2
 obtain⟨hl,rRx,rRy,bR⟩:=HH.out;exact bodyPost_ret (br results38 rfl hl) rfl ⟨_,_,rfl,rRx,rRy,bR⟩
theorem sumsPi_W (a b p q x y:ak)(k ae be pe qe:Int)(w:World)
  (H1: ∀w1,yB w w1→yC 38 #[yi 5,yi k] w1 (aeT w1 a b))
  (H2: ∀ao ac bo bc w1,yC 60 #[.agg #[.bool a.s,yT ao a.n ac,yi a.e,.bool b.s,yT bo b.n bc,yi b.e],yi 4] w1 (yR w1 (.agg #[.bool a.s,yT ao a.n ac,yi ae,.bool b.s,yT bo b.n bc,yi be])))
  (H3: ∀w1,yB w w1→yC 38 #[yi 239,yi k] w1 (aeT w1 p q))
  (H4: ∀po pc qo qc w1,yC 60 #[.agg #[.bool p.s,yT po p.n pc,yi p.e,.bool q.s,yT qo q.n qc,yi q.e],yi 2] w1 (yR w1 (.agg #[.bool p.s,yT po p.n pc,yi pe,.bool q.s,yT qo q.n qc,yi qe])))
  (H5: ∀ao ac bo bc po pc qo qc w1,yB w w1→Rd w1 .u32 (yT ao a.n ac) (Dg.dg 4294967296 a.n)→Rd w1 .u32 (yT bo b.n bc) (Dg.dg 4294967296 b.n)→Rd w1 .u32 (yT po p.n pc) (Dg.dg 4294967296 p.n)→Rd w1 .u32 (yT qo q.n qc) (Dg.dg 4294967296 q.n)→yC 61 #[.agg #[.bool a.s,yT ao a.n ac,yi ae,.bool b.s,yT bo b.n bc,yi be],.agg #[.bool p.s,yT po p.n pc,yi pe,.bool q.s,yT qo q.n qc,yi qe]] w1 (aeT w1 x y)):
  yC 36 #[yi k] w (aeT w x y):=by
 replace H1:Hid _:=H1;replace H2:Hid _:=H2;replace H3:Hid _:=H3;replace H4:Hid _:=H4;replace H5:Hid _:=H5;obtain⟨W3,hW4,q1,b2⟩:=cA w [.bool false,yN,yi 0,.bool false,yN,yi 0] 57;replace hW4:Hid _:=hW4
 go_enter func36,ntmps36
 go_upto_region 1 with fail
 rw[hW4.out];clear hW4
 go_wp2_with fail
 refine(H1.out _ b2).mono ?_;rintro zz w5 ⟨v1x7,v2x8,rfl,r1x9,r2x10,bb6⟩;have q11:=q1.l bb6;have b12:=aa b2 bb6;obtain⟨ao,ac,hv⟩:=r1x9.shape;subst hv;obtain⟨bo,bc,hv⟩:=r2x10.shape;subst hv;clear q1 b2 bb6 H1
 go_wp2_with fail
 refine(H2.out _ _ _ _ _).mono ?_;rintro zz w13 ⟨rfl,bb14⟩;have q15:=q11.l bb14;have r16:=r1x9.l bb14;have r17:=r2x10.l bb14;have b18:=aa b12 bb14;clear q11 r1x9 r2x10 b12 bb14 H2
 go_wp2_with fail
 refine(H3.out _ b18).mono ?_;rintro zz w19 ⟨v1x21,v2x22,rfl,r1x23,r2x24,bb20⟩;have q25:=q15.l bb20;have r26:=r16.l bb20;have r27:=r17.l bb20;have b28:=aa b18 bb20;obtain⟨po,pc,hv⟩:=r1x23.shape;subst hv;obtain⟨qo,qc,hv⟩:=r2x24.shape;subst hv;clear q15 r16 r17 b18 bb20 H3
 go_wp2_with fail
 refine(H4.out _ _ _ _ _).mono ?_;rintro zz w29 ⟨rfl,bb30⟩;have q31:=q25.l bb30;have r32:=r26.l bb30;have r33:=r27.l bb30;have r34:=r1x23.l bb30;have r35:=r2x24.l bb30;have b36:=aa b28 bb30;clear q25 r26 r27 r1x23 r2x24 b28 bb30 H4
 go_wp2_with fail
 refine(H5.out _ _ _ _ _ _ _ _ _ b36 r32 r33 r34 r35).mono ?_;rintro zz w37 ⟨v1x39,v2x40,rfl,r1x41,r2x42,bb38⟩;have q43:=q31.l bb38;have r44:=r32.l bb38;have r45:=r33.l bb38;have r46:=r34.l bb38;have r47:=r35.l bb38;have b48:=aa b36 bb38;obtain⟨xo,xc,hv⟩:=r1x41.shape;subst hv;obtain⟨yo,yc,hv⟩:=r2x42.shape;subst hv;clear q31 r32 r33 r34 r35 b36 bb38 H5;have hf:=fin6 (P:=Tryz.prog) q43 b48 (by omega) underlying57 rfl (by kernel_rfl) (.bool x.s) (yT xo x.n xc) (yi x.e) (.bool y.s) (yT yo y.n yc) (yi y.e);have HH:Hid (_∧_∧_∧_):=⟨hf.1,hf.2.2.rd r1x41 (aX r1x41 q43 (by simp)),hf.2.2.rd r2x42 (aX r2x42 q43 (by simp)),hf.2.1⟩;obtain⟨⟨z0,z1,z2,z3,z4,z5⟩,y0,y1,y2,y3,y4,y5⟩:=csf6 q43;clear hf q43 r44 r45 r46 r47 r1x41 r2x42 b48
 go_wp2
 obtain⟨hl,rRx,rRy,bR⟩:=HH.out;exact bodyPost_ret (br results36 rfl hl) rfl ⟨_,_,rfl,rRx,rRy,bR⟩
theorem P6 (n:Int)(b:Nat)(m:Nat)(x:Nat→ak)(ao:Nat→Option Addr)(ca:Nat→Nat)(w:World)(hm:2≤m)(hm2:m≤4)(hb:b<w.heap.size)
  (h0: ∀j,j<m→w.cell? ⟨b,3*j,none⟩=some (.bool (x j).s)) (h1: ∀j,j<m→w.cell? ⟨b,3*j+1,none⟩=some (.slice (ao j) (Dg.dg 4294967296 (x j).n).length (ca j))) (h2: ∀j,j<m→w.cell? ⟨b,3*j+2,none⟩=some (yi (x j).e))
  (HC: ∀j k w1,j<m→k<m→yB w w1→yC 45 #[.agg #[.bool (x j).s,.slice (ao j) (Dg.dg 4294967296 (x j).n).length (ca j),yi (x j).e],.agg #[.bool (x k).s,.slice (ao k) (Dg.dg 4294967296 (x k).n).length (ca k),yi (x k).e]] w1 (yR w1 (yi (bJ (x j) (x k)))))
  (HU: ∀j up w1,j<m→yB w w1→yC 44 #[.agg #[.bool (x j).s,.slice (ao j) (Dg.dg 4294967296 (x j).n).length (ca j),yi (x j).e],yi n,.bool up] w1 (Lx w1 (aY (x j) n up)))
  (HS: ∀j up v w1,j<m→yB w w1→Dv w1 v (aY (x j) n up)→yC 84 #[v] w1 (gR w1 (bU (aY (x j) n up)))):
  yC 65 #[yi n,.slice (some ⟨b,0,none⟩) m m] w (jE w (iD (bU (aY (loT x (m-1)) n false)) (bU (aY (hiT x (m-1)) n true)))):=by
 have hl1:=tB x (m-1);have hl2:=wN x (m-1);have HA:Hid (∀w1,yB w w1→yC 89 #[.slice (some ⟨b,0,none⟩) m m] w1 (ac8 w1 x ao ca (loI x (m-1)) (hiI x (m-1)))):=fun w1 b1=>
  FN b m x ao ca w1 hm hm2 (Nat.lt_of_lt_of_le hb b1.size) (fun j hj=>cell_later b1 (h0 j hj)) (fun j hj=>cell_later b1 (h1 j hj)) (fun j hj=>cell_later b1 (h2 j hj)) (fun j k w2 hj hk b2=>HC j k w2 hj hk (aa b1 b2))
 have HK:Hid (∀w1,yB w w1→yC 58 #[.agg #[.bool (x (loI x (m-1))).s,.slice (ao (loI x (m-1))) (Dg.dg 4294967296 (x (loI x (m-1))).n).length (ca (loI x (m-1))),yi (x (loI x (m-1))).e,.bool (x (hiI x (m-1))).s,.slice (ao (hiI x (m-1))) (Dg.dg 4294967296 (x (hiI x (m-1))).n).length (ca (hiI x (m-1))),yi (x (hiI x (m-1))).e],yi n] w1 (aeT w1 (aY (loT x (m-1)) n false) (aY (hiT x (m-1)) n true))):=fun w1 b1=>
  Nt _ _ _ _ _ _ _ _ _ _ n _ _ w1 (fun w2 b2=>HU (loI x (m-1)) false w2 (by omega) (aa b1 b2)) (fun w2 b2=>HU (hiI x (m-1)) true w2 (by omega) (aa b1 b2))
 have HT:Hid (∀p q w1,yB w w1→Rd w1 .u32 p (Dg.dg 4294967296 (aY (loT x (m-1)) n false).n)→Rd w1 .u32 q (Dg.dg 4294967296 (aY (hiT x (m-1)) n true).n)→yC 59 #[.agg #[.bool (aY (loT x (m-1)) n false).s,p,yi (aY (loT x (m-1)) n false).e,.bool (aY (hiT x (m-1)) n true).s,q,yi (aY (hiT x (m-1)) n true).e]] w1 (jE w1 (iD (bU (aY (loT x (m-1)) n false)) (bU (aY (hiT x (m-1)) n true))))):=fun p q w1 b1 rp rq=>by
  obtain⟨po,pc,hp⟩:=rp.shape;obtain⟨qo,qc,hq⟩:=rq.shape;subst hp;subst hq;exact Hu _ _ _ _ _ _ _ _ _ _ _ _ w1 (fun w2 b2=>HS (loI x (m-1)) false _ w2 (by omega) (aa b1 b2) ⟨_,rfl,rp.l b2⟩) (fun w2 b2=>HS (hiI x (m-1)) true _ w2 (by omega) (aa b1 b2) ⟨_,rfl,rq.l b2⟩)
 clear h0 h1 h2 HC HU HS hl1 hl2;obtain⟨R,hR⟩: ∃R,iD (bU (aY (loT x (m-1)) n false)) (bU (aY (hiT x (m-1)) n true))=R:=⟨_,rfl⟩;rw[hR] at HT⊢;obtain⟨⟨ls,ln,le⟩,hL⟩: ∃L,aY (loT x (m-1)) n false=L:=⟨_,rfl⟩;obtain⟨⟨hs,hn,he⟩,hH⟩: ∃L,aY (hiT x (m-1)) n true=L:=⟨_,rfl⟩;rw[hL,hH] at HK HT;obtain⟨⟨rs,rn,re⟩,⟨qs,qn,qe⟩,rc⟩:=R;clear hR hL hH;have k1:=aJ w (.bool false) yN (yi 0) (.bool false) yN (yi 0) 27;have b1:=af w (.cells #[.bool false,yN,yi 0,.bool false,yN,yi 0] 27)
 go_enter func65,ntmps65
 go_wp2_with fail
 refine(HA.out _ b1).mono ?_;rintro z w2 ⟨rfl,b2⟩;have b02:=aa b1 b2
 go_wp2_with fail
 refine(HK.out _ b02).mono ?_;rintro z w3 ⟨p,q,rfl,rp,rq,b3⟩;have b03:=aa b02 b3
 go_wp2_with fail
 refine(HT.out p q _ b03 rp rq).mono ?_;rintro z w5 ⟨pp,qq,rfl,op,oq,b5⟩;have b05:=aa b03 b5;have k5:=((k1.l b2).l b3).l b5;have hlt:w.heap.size<w3.heap.size:=((k1.l b2).l b3).1;obtain⟨po,pc,hp⟩:=op.rd.shape;subst hp;obtain⟨qo,qc,hq⟩:=oq.rd.shape;subst hq;obtain⟨hl,⟨g0,g1,g2,g3,g4,g5⟩,f0,f1,f2,f3,f4,f5⟩:=id k5
 go_wp2
 obtain⟨-,⟨u0,u1,u2,u3,u4,u5⟩,-⟩:=bP k5 (.bool rs) (yT po rn pc) (yi re) (.bool qs) (yT qo qn qc) (yi qe);have bb:=aW b05 (show w.heap.size≤w.heap.size by omega) (.bool rs) (yT po rn pc) (yi re) (.bool qs) (yT qo qn qc) (yi qe)
 refine bodyPost_ret (v:= .tuple #[.agg #[.bool rs,yT po rn pc,yi re,.bool qs,yT qo qn qc,yi qe],yi rc]) (by simp[results,results65,go_sem,u0,u1,u2,u3,u4,u5]) rfl ?_;exact⟨_,_,rfl,((op.apart6 hlt _ _ _ _ _ _).lower (by omega)),((oq.apart6 hlt _ _ _ _ _ _).lower (by omega)),bb⟩
theorem same_yes (p q:ak)(a b:ak)(ao bo:Option Addr)(ac bc:Nat)(m c:Int)(B:Bool)(w:World)(hB:(c==0)=B)
  (HG:yH w 43 #[.agg #[.bool a.s,yT ao a.n ac,yi a.e,.bool b.s,yT bo b.n bc,yi b.e]] (.bool true))
  (C1: ∀w1,yB w w1→yC 44 #[yDV a ao ac,yi m,.bool a.s] w1 (Lx w1 p))
  (C2: ∀w1,yB w w1→yC 44 #[yDV b bo bc,yi m,.bool b.s] w1 (Lx w1 q))
  (C3: ∀po pc qo qc w1,yB w w1→Rd w1 .u32 (yT po p.n pc) (Dg.dg 4294967296 p.n)→Rd w1 .u32 (yT qo q.n qc) (Dg.dg 4294967296 q.n)→yC 45 #[yDV p po pc,yDV q qo qc] w1 (yR w1 (yi c))):
  yC 25 #[.agg #[.bool a.s,yT ao a.n ac,yi a.e,.bool b.s,yT bo b.n bc,yi b.e],yi m] w (yR w (.bool B)):=by
 replace HG:Hid _:=HG;replace C1:Hid _:=C1;replace C2:Hid _:=C2;replace C3:Hid _:=C3;obtain⟨W3,hW4,q1,b2⟩:=cA w [.bool a.s,yT ao a.n ac,yi a.e,.bool b.s,yT bo b.n bc,yi b.e] 57;replace hW4:Hid _:=hW4
 go_enter func25,ntmps25
 go_upto_region 1 with fail
 rw[hW4.out];clear hW4
 go_upto_region 1 with fail
 have bW5:yB W3 W3.drew:=(Below.refl _ _).drew;have q6:=q1.l bW5;have b7:=aa b2 bW5;clear q1 b2 bW5;refine wp_region_held_drew (S:=fun wq=>au wq w.heap.size 57 [.bool a.s,yT ao a.n ac,yi a.e,.bool b.s,yT bo b.n bc,yi b.e]) (by kernel_rfl) q6 (fun hS0=> ?_)
 generalize W3.drew=WD8 at q6 b7 hS0⊢;refine tq 0 (.agg #[.bool a.s,yT ao a.n ac,yi a.e,.bool b.s,yT bo b.n bc,yi b.e]) rfl (fun _ hw0=>fy 57 (.tmp 2) rfl w.heap.size 0 (by kernel_rfl) _ _ hw0.range underlying57 rfl (by kernel_rfl)) hS0 ?_
 refine wpAnyH_ready (rs:=[1]) (by kernel_rfl) (by simp) ?_;refine AllReadyH.cons rfl (fun K hK=> ?_) AllReadyH.nil
 go_simp
 refine(HG.out _ b7).mono ?_;rintro zz w9 ⟨rfl,bb10⟩;have q11:=q6.l bb10;have b12:=aa b7 bb10;clear q6 b7 bb10 HG;refine hK.out _ _ q11 (fun hS13=> ?_)
 clear hK K;refine tq 2 (.bool true) rfl (fun _ _=>by kernel_rfl) hS13 ?_
 refine tq 3 (.pointer (some ⟨w.heap.size,0,none⟩)) rfl (fun _ _=>by kernel_rfl) hS13 ?_
 refine tq 4 (yDV a ao ac) rfl (fun _ hw0=>fy 54 (.tmp 8) rfl w.heap.size 0 (by kernel_rfl) _ _ (kY hw0 0 3 rfl) underlying54 rfl (by kernel_rfl)) hS13 ?_
 refine tq 5 (yi m) rfl (fun _ _=>by kernel_rfl) hS13 ?_
 refine tq 6 (.pointer (some ⟨w.heap.size,0,none⟩)) rfl (fun _ _=>by kernel_rfl) hS13 ?_
 refine tq 7 (.pointer (some ⟨w.heap.size,0,none⟩)) rfl (fun _ _=>by kernel_rfl) hS13 ?_
 refine tq 8 (.pointer (some ⟨w.heap.size,0,none⟩)) rfl (fun _ _=>by kernel_rfl) hS13 ?_
 refine tq 9 (.bool a.s) rfl (fun _ hw0=>gU 4 (.tmp 13) rfl w.heap.size 0 (by kernel_rfl) _ _ underlying4 rfl (hw0.c 0 rfl)) hS13 ?_
 refine tq 11 (.pointer (some ⟨w.heap.size,3,none⟩)) rfl (fun _ _=>by kernel_rfl) hS13 ?_
 refine tq 12 (yDV b bo bc) rfl (fun _ hw0=>fy 54 (.tmp 16) rfl w.heap.size 3 (by kernel_rfl) _ _ (kY hw0 3 3 rfl) underlying54 rfl (by kernel_rfl)) hS13 ?_
 refine tq 13 (yi m) rfl (fun _ _=>by kernel_rfl) hS13 ?_
 refine tq 14 (.pointer (some ⟨w.heap.size,3,none⟩)) rfl (fun _ _=>by kernel_rfl) hS13 ?_
 refine tq 15 (.pointer (some ⟨w.heap.size,3,none⟩)) rfl (fun _ _=>by kernel_rfl) hS13 ?_
 refine tq 16 (.pointer (some ⟨w.heap.size,3,none⟩)) rfl (fun _ _=>by kernel_rfl) hS13 ?_
 refine tq 17 (.bool b.s) rfl (fun _ hw0=>gU 4 (.tmp 21) rfl w.heap.size 3 (by kernel_rfl) _ _ underlying4 rfl (hw0.c 3 rfl)) hS13 ?_
 refine wpAnyH_ready (rs:=[10]) (by kernel_rfl) (by simp) ?_;refine AllReadyH.cons rfl (fun K hK=> ?_) AllReadyH.nil
 go_simp
 refine(C1.out _ b12).mono ?_;rintro zz w14 ⟨v1x16,rfl,r1x17,bb15⟩;have q18:=q11.l bb15;have b19:=aa b12 bb15;obtain⟨po,pc,hv⟩:=r1x17.shape;subst hv;clear q11 b12 bb15 C1;refine hK.out _ _ q18 (fun hS20=> ?_)
 clear hK K;refine wpAnyH_ready (rs:=[18]) (by kernel_rfl) (by simp) ?_;refine AllReadyH.cons rfl (fun K hK=> ?_) AllReadyH.nil
 go_simp
 refine(C2.out _ b19).mono ?_;rintro zz w21 ⟨v1x23,rfl,r1x24,bb22⟩;have q25:=q18.l bb22;have r26:=r1x17.l bb22;have b27:=aa b19 bb22;obtain⟨qo,qc,hv⟩:=r1x24.shape;subst hv;clear q18 r1x17 b19 bb22 C2;refine hK.out _ _ q25 (fun hS28=> ?_)
 clear hK K;refine wpAnyH_ready (rs:=[19]) (by kernel_rfl) (by simp) ?_;refine AllReadyH.cons rfl (fun K hK=> ?_) AllReadyH.nil
 go_simp
 refine(C3.out _ _ _ _ _ b27 r26 r1x24).mono ?_;rintro zz w29 ⟨rfl,bb30⟩;have q31:=q25.l bb30;have b32:=aa b27 bb30;clear q25 r26 r1x24 b27 bb30 C3;refine hK.out _ _ q31 (fun hS33=> ?_)
 clear hK K;refine tq 20 (.bool B) rfl (fun _ _=>by go_simp) hS33 ?_
 refine tq 21 (.bool B) rfl (fun _ _=>by kernel_rfl) hS33 ?_
 refine tq 22 (.bool B) rfl (fun _ _=>by kernel_rfl) hS33 ?_
 refine wpAnyH_done (by kernel_rfl) ?_ _;clear hS0 hS13 hS20 hS28 hS33;simp only[Act.put,List.getElem_toArray,List.getElem_cons_succ,List.getElem_cons_zero,List.setIfInBounds_toArray,List.set_cons_zero,List.set_cons_succ]
 go_wp2
 go_ret
 exact⟨by rfl,b32⟩
end Go.Proofs.YtiakgfmlpdfhdaaGreatDoor
