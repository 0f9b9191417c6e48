/-
  Texts laid together: Gk1, Gk2, Dn2, Gk3, Gr8, Gk6, Gb2, Gb5.
-/
import Derived.Test.YtibnjbojkjablaaDoorGg15
set_option maxRecDepth 100000
set_option maxHeartbeats 3200000
namespace Go.Proofs.YtibnjbojkjablaaDoor
open Go.RowKit
def tH (w:World)(t:ak)(ok:Bool)(e:Ending)(w':World):Prop:=
 ∃s,e= .returned (.tuple #[ydV t.s s t.e,.bool ok])∧Own w' w.heap.size 48 .u32 s (Dg.dg 4294967296 t.n)∧yB w w'
theorem ZU (qs:Bool)(ao:Option Addr)(la ca:Nat)(bo:Option Addr)(lb cb:Nat)(E R D L G:Int)(gr:Bool)(way c:Int)(ts:Bool)(td:Nat)(tp:Int)(tx tv tu:Bool)(nc:Int)(rs:Bool)(rn:Nat)(re:Int)(bad:Bool)(w:World)
  (HB1:bad=true→ ¬c=0∨(c=0∧tv=true)∨(c=0∧tv=false∧tu=true∧gr=false)) (HB2:bad=false→c=0∧tv=false∧(tu=false∨gr=true))
  (HRO: ∀w1,yB w w1→yC 11 #[yrV qs (.slice ao la ca) (.slice bo lb cb) E,ygV R D L G gr,yi way] w1 (sq w1 c ⟨ts,td,tp,tx,tv,tu⟩))
  (HNU:bad=false→ ∀xo xc w1,yB w w1→Rd w1 .u32 (.slice xo (Dg.dg 4294967296 td).length xc) (Dg.dg 4294967296 td)→yC 13 #[ypV ts (.slice xo (Dg.dg 4294967296 td).length xc) tp tx tv tu,ygV R D L G gr] w1 (gR w1 (⟨rs,rn,re⟩,nc)))
  (HZ:bad=true→rs=false∧rn=0∧re=0):
  yC 5 #[yrV qs (.slice ao la ca) (.slice bo lb cb) E,ygV R D L G gr,yi way] w (tH w ⟨rs,rn,re⟩ (!bad&&(nc==0))):=by
 replace HB1:Hid _:=HB1;replace HB2:Hid _:=HB2;replace HRO:Hid _:=HRO;replace HNU:Hid _:=HNU;replace HZ:Hid _:=HZ;have b1:=aa (aa (af w (.cells (yrA qs (.slice ao la ca) (.slice bo lb cb) E) 25)) (af _ (.cells (ygA R D L G gr) 27))) (af _ (.cells (ydA false (.slice none 0 0) 0) 30));have q1:=((ah w (yrL qs (.slice ao la ca) (.slice bo lb cb) E) 25).l (af _ (.cells (ygA R D L G gr) 27))).l (af _ (.cells (ydA false (.slice none 0 0) 0) 30));have g1:=(ah (w.alloc (.cells (yrA qs (.slice ao la ca) (.slice bo lb cb) E) 25)) (ygL R D L G gr) 27).l (af _ (.cells (ydA false (.slice none 0 0) 0) 30));have c1:=ah ((w.alloc (.cells (yrA qs (.slice ao la ca) (.slice bo lb cb) E) 25)).alloc (.cells (ygA R D L G gr) 27)) (ydL false (.slice none 0 0) 0) 30;simp only[World.size_alloc] at g1 c1
 cases bad
 ·obtain⟨hc,hv,hu⟩:=HB2.out rfl
  have HN1:Hid _:=HNU.out rfl;clear HB1 HB2 HNU HZ;subst hc hv
  rcases hu with hu|hu
  ·subst hu
   obtain⟨y0,y1,y2,y3⟩:=q1.cs4;obtain⟨x0,x1,x2,x3,x4⟩:=g1.cs5
   go_enter Tryd.func5,Tryd.ntmps5
   go_wp2_with fail
   refine(HRO.out _ b1).mono ?_;rintro z w2 ⟨v2,rfl,o2,bb2⟩;obtain⟨xo,xc,hx2⟩:=o2.rd.shape;subst hx2;have r2:=o2.rd;simp only at r2⊢;clear y0 y1 y2 y3 x0 x1 x2 x3 x4 o2;have q_2:=q1.l bb2;have g_2:=g1.l bb2;have c_2:=c1.l bb2;have b0_2:=aa b1 bb2;clear q1 g1 c1 b1 bb2;have ap:=af w2 (.cells (ypA ts (.slice xo (Dg.dg 4294967296 td).length xc) tp tx false false) 45);have p2:=ah w2 (ypL ts (.slice xo (Dg.dg 4294967296 td).length xc) tp tx false false) 45;have hPa:w.heap.size+1+1<w2.heap.size:=c_2.lt;have q_3:=q_2.l ap;have g_3:=g_2.l ap;have c_3:=c_2.l ap;have r_3:=r2.l ap;have b0_3:=aa b0_2 ap;clear q_2 g_2 c_2 r2 b0_2 ap
   go_upto_region 2 with fail
   generalize w2.alloc (.cells (ypA ts (.slice xo (Dg.dg 4294967296 td).length xc) tp tx false false) 45)=W2 at q_3 g_3 c_3 r_3 p2 b0_3⊢;generalize w2.heap.size=PA at p2 hPa⊢;obtain⟨y0,y1,y2,y3,y4,y5⟩:=p2.cs6;obtain⟨x0,x1,x2,x3,x4⟩:=g_3.cs5
   go_wp2_with fail
   refine(HN1.out _ _ _ b0_3 r_3).mono ?_;rintro z w3 ⟨v3,rfl,o3,bb3⟩;have oL:=o3.lower b0_3.size;obtain⟨so,sc,hx3⟩:=oL.rd.shape;subst hx3;clear o3 y0 y1 y2 y3 y4 y5 x0 x1 x2 x3 x4;have q_4:=q_3.l bb3;have g_4:=g_3.l bb3;have c_4:=c_3.l bb3;have r_4:=r_3.l bb3;have p_4:=p2.l bb3;have b0_4:=aa b0_3 bb3;clear q_3 g_3 c_3 r_3 p2 b0_3 bb3;have an:=af w3 (.cells (ydA rs (.slice so (Dg.dg 4294967296 rn).length sc) re) 30);have n3:=ah w3 (ydL rs (.slice so (Dg.dg 4294967296 rn).length sc) re) 30;have hPb:w.heap.size+1+1<w3.heap.size:=c_4.lt;have q_5:=q_4.l an;have g_5:=g_4.l an;have c_5:=c_4.l an;have r_5:=r_4.l an;have p_5:=p_4.l an;have o_5:=oL.l an;have b0_5:=aa b0_4 an;clear q_4 g_4 c_4 r_4 p_4 oL b0_4 an
   go_upto_region 5 with fail
   generalize w3.alloc (.cells (ydA rs (.slice so (Dg.dg 4294967296 rn).length sc) re) 30)=W3 at q_5 g_5 c_5 r_5 p_5 o_5 n3 b0_5⊢;generalize w3.heap.size=PB at n3 hPb⊢;obtain⟨y0,y1,y2⟩:=n3.cs3;have d0:=c_5.c 0 rfl;have f0:=c_5.f 0;have d1:=c_5.c 1 rfl;have f1:=c_5.f 1;have d2:=c_5.c 2 rfl;have f2:=c_5.f 2
   go_wp2
   have bu:But (w.heap.size+1+1) W3 (((W3.setCell ⟨w.heap.size+1+1,0,none⟩ (.bool rs)).setCell ⟨w.heap.size+1+1,1,none⟩ (.slice so (Dg.dg 4294967296 rn).length sc)).setCell ⟨w.heap.size+1+1,2,none⟩ (yi re)):=((ag W3 (w.heap.size+1+1) 0 (.bool rs)).trans (ag _ (w.heap.size+1+1) 1 (.slice so (Dg.dg 4294967296 rn).length sc))).trans (ag _ (w.heap.size+1+1) 2 (yi re));have cX:au (((W3.setCell ⟨w.heap.size+1+1,0,none⟩ (.bool rs)).setCell ⟨w.heap.size+1+1,1,none⟩ (.slice so (Dg.dg 4294967296 rn).length sc)).setCell ⟨w.heap.size+1+1,2,none⟩ (yi re)) (w.heap.size+1+1) 30 (ydL rs (.slice so (Dg.dg 4294967296 rn).length sc) re):=((c_5.set 0 (.bool rs)).set 1 (.slice so (Dg.dg 4294967296 rn).length sc)).set 2 (yi re);have bX:=bu.below b0_5 (show w.heap.size≤w.heap.size+1+1 by omega)
   have oX:=bu.own o_5 c_5 (by decide);obtain⟨s0,s1,s2⟩:=cX.cs3;refine bodyPost_ret (v:= .tuple #[ydV rs (.slice so (Dg.dg 4294967296 rn).length sc) re,.bool (nc==0)]) (by simp[results,Tryd.results5,go_sem,s0,s1,s2]) rfl ?_;exact⟨_,by simp,oX,bX⟩
  ·subst hu
   cases tu
   ·skip
    obtain⟨y0,y1,y2,y3⟩:=q1.cs4;obtain⟨x0,x1,x2,x3,x4⟩:=g1.cs5
    go_enter Tryd.func5,Tryd.ntmps5
    go_wp2_with fail
    refine(HRO.out _ b1).mono ?_;rintro z w2 ⟨v2,rfl,o2,bb2⟩;obtain⟨xo,xc,hx2⟩:=o2.rd.shape;subst hx2;have r2:=o2.rd;simp only at r2⊢;clear y0 y1 y2 y3 x0 x1 x2 x3 x4 o2;have q_2:=q1.l bb2;have g_2:=g1.l bb2;have c_2:=c1.l bb2;have b0_2:=aa b1 bb2;clear q1 g1 c1 b1 bb2;have ap:=af w2 (.cells (ypA ts (.slice xo (Dg.dg 4294967296 td).length xc) tp tx false false) 45);have p2:=ah w2 (ypL ts (.slice xo (Dg.dg 4294967296 td).length xc) tp tx false false) 45;have hPa:w.heap.size+1+1<w2.heap.size:=c_2.lt;have q_3:=q_2.l ap;have g_3:=g_2.l ap;have c_3:=c_2.l ap;have r_3:=r2.l ap;have b0_3:=aa b0_2 ap;clear q_2 g_2 c_2 r2 b0_2 ap
    go_upto_region 2 with fail
    generalize w2.alloc (.cells (ypA ts (.slice xo (Dg.dg 4294967296 td).length xc) tp tx false false) 45)=W2 at q_3 g_3 c_3 r_3 p2 b0_3⊢;generalize w2.heap.size=PA at p2 hPa⊢;obtain⟨y0,y1,y2,y3,y4,y5⟩:=p2.cs6;obtain⟨x0,x1,x2,x3,x4⟩:=g_3.cs5
    go_wp2_with fail
    refine(HN1.out _ _ _ b0_3 r_3).mono ?_;rintro z w3 ⟨v3,rfl,o3,bb3⟩;have oL:=o3.lower b0_3.size;obtain⟨so,sc,hx3⟩:=oL.rd.shape;subst hx3;clear o3 y0 y1 y2 y3 y4 y5 x0 x1 x2 x3 x4;have q_4:=q_3.l bb3;have g_4:=g_3.l bb3;have c_4:=c_3.l bb3;have r_4:=r_3.l bb3;have p_4:=p2.l bb3;have b0_4:=aa b0_3 bb3;clear q_3 g_3 c_3 r_3 p2 b0_3 bb3;have an:=af w3 (.cells (ydA rs (.slice so (Dg.dg 4294967296 rn).length sc) re) 30);have n3:=ah w3 (ydL rs (.slice so (Dg.dg 4294967296 rn).length sc) re) 30;have hPb:w.heap.size+1+1<w3.heap.size:=c_4.lt;have q_5:=q_4.l an;have g_5:=g_4.l an;have c_5:=c_4.l an;have r_5:=r_4.l an;have p_5:=p_4.l an;have o_5:=oL.l an;have b0_5:=aa b0_4 an;clear q_4 g_4 c_4 r_4 p_4 oL b0_4 an
    go_upto_region 5 with fail
    generalize w3.alloc (.cells (ydA rs (.slice so (Dg.dg 4294967296 rn).length sc) re) 30)=W3 at q_5 g_5 c_5 r_5 p_5 o_5 n3 b0_5⊢;generalize w3.heap.size=PB at n3 hPb⊢;obtain⟨y0,y1,y2⟩:=n3.cs3;have d0:=c_5.c 0 rfl;have f0:=c_5.f 0;have d1:=c_5.c 1 rfl;have f1:=c_5.f 1;have d2:=c_5.c 2 rfl;have f2:=c_5.f 2
    go_wp2
    have bu:But (w.heap.size+1+1) W3 (((W3.setCell ⟨w.heap.size+1+1,0,none⟩ (.bool rs)).setCell ⟨w.heap.size+1+1,1,none⟩ (.slice so (Dg.dg 4294967296 rn).length sc)).setCell ⟨w.heap.size+1+1,2,none⟩ (yi re)):=((ag W3 (w.heap.size+1+1) 0 (.bool rs)).trans (ag _ (w.heap.size+1+1) 1 (.slice so (Dg.dg 4294967296 rn).length sc))).trans (ag _ (w.heap.size+1+1) 2 (yi re));have cX:au (((W3.setCell ⟨w.heap.size+1+1,0,none⟩ (.bool rs)).setCell ⟨w.heap.size+1+1,1,none⟩ (.slice so (Dg.dg 4294967296 rn).length sc)).setCell ⟨w.heap.size+1+1,2,none⟩ (yi re)) (w.heap.size+1+1) 30 (ydL rs (.slice so (Dg.dg 4294967296 rn).length sc) re):=((c_5.set 0 (.bool rs)).set 1 (.slice so (Dg.dg 4294967296 rn).length sc)).set 2 (yi re);have bX:=bu.below b0_5 (show w.heap.size≤w.heap.size+1+1 by omega)
    have oX:=bu.own o_5 c_5 (by decide);obtain⟨s0,s1,s2⟩:=cX.cs3;refine bodyPost_ret (v:= .tuple #[ydV rs (.slice so (Dg.dg 4294967296 rn).length sc) re,.bool (nc==0)]) (by simp[results,Tryd.results5,go_sem,s0,s1,s2]) rfl ?_;exact⟨_,by simp,oX,bX⟩
   ·skip
    obtain⟨y0,y1,y2,y3⟩:=q1.cs4;obtain⟨x0,x1,x2,x3,x4⟩:=g1.cs5
    go_enter Tryd.func5,Tryd.ntmps5
    go_wp2_with fail
    refine(HRO.out _ b1).mono ?_;rintro z w2 ⟨v2,rfl,o2,bb2⟩;obtain⟨xo,xc,hx2⟩:=o2.rd.shape;subst hx2;have r2:=o2.rd;simp only at r2⊢;clear y0 y1 y2 y3 x0 x1 x2 x3 x4 o2;have q_2:=q1.l bb2;have g_2:=g1.l bb2;have c_2:=c1.l bb2;have b0_2:=aa b1 bb2;clear q1 g1 c1 b1 bb2;have ap:=af w2 (.cells (ypA ts (.slice xo (Dg.dg 4294967296 td).length xc) tp tx false true) 45);have p2:=ah w2 (ypL ts (.slice xo (Dg.dg 4294967296 td).length xc) tp tx false true) 45;have hPa:w.heap.size+1+1<w2.heap.size:=c_2.lt;have q_3:=q_2.l ap;have g_3:=g_2.l ap;have c_3:=c_2.l ap;have r_3:=r2.l ap;have b0_3:=aa b0_2 ap;clear q_2 g_2 c_2 r2 b0_2 ap
    go_upto_region 2 with fail
    generalize w2.alloc (.cells (ypA ts (.slice xo (Dg.dg 4294967296 td).length xc) tp tx false true) 45)=W2 at q_3 g_3 c_3 r_3 p2 b0_3⊢;generalize w2.heap.size=PA at p2 hPa⊢;obtain⟨y0,y1,y2,y3,y4,y5⟩:=p2.cs6;obtain⟨x0,x1,x2,x3,x4⟩:=g_3.cs5
    go_wp2_with fail
    refine(HN1.out _ _ _ b0_3 r_3).mono ?_;rintro z w3 ⟨v3,rfl,o3,bb3⟩;have oL:=o3.lower b0_3.size;obtain⟨so,sc,hx3⟩:=oL.rd.shape;subst hx3;clear o3 y0 y1 y2 y3 y4 y5 x0 x1 x2 x3 x4;have q_4:=q_3.l bb3;have g_4:=g_3.l bb3;have c_4:=c_3.l bb3;have r_4:=r_3.l bb3;have p_4:=p2.l bb3;have b0_4:=aa b0_3 bb3;clear q_3 g_3 c_3 r_3 p2 b0_3 bb3;have an:=af w3 (.cells (ydA rs (.slice so (Dg.dg 4294967296 rn).length sc) re) 30);have n3:=ah w3 (ydL rs (.slice so (Dg.dg 4294967296 rn).length sc) re) 30;have hPb:w.heap.size+1+1<w3.heap.size:=c_4.lt;have q_5:=q_4.l an;have g_5:=g_4.l an;have c_5:=c_4.l an;have r_5:=r_4.l an;have p_5:=p_4.l an;have o_5:=oL.l an;have b0_5:=aa b0_4 an;clear q_4 g_4 c_4 r_4 p_4 oL b0_4 an
    go_upto_region 5 with fail
    generalize w3.alloc (.cells (ydA rs (.slice so (Dg.dg 4294967296 rn).length sc) re) 30)=W3 at q_5 g_5 c_5 r_5 p_5 o_5 n3 b0_5⊢;generalize w3.heap.size=PB at n3 hPb⊢;obtain⟨y0,y1,y2⟩:=n3.cs3;have d0:=c_5.c 0 rfl;have f0:=c_5.f 0;have d1:=c_5.c 1 rfl;have f1:=c_5.f 1;have d2:=c_5.c 2 rfl;have f2:=c_5.f 2
    go_wp2
    have bu:But (w.heap.size+1+1) W3 (((W3.setCell ⟨w.heap.size+1+1,0,none⟩ (.bool rs)).setCell ⟨w.heap.size+1+1,1,none⟩ (.slice so (Dg.dg 4294967296 rn).length sc)).setCell ⟨w.heap.size+1+1,2,none⟩ (yi re)):=((ag W3 (w.heap.size+1+1) 0 (.bool rs)).trans (ag _ (w.heap.size+1+1) 1 (.slice so (Dg.dg 4294967296 rn).length sc))).trans (ag _ (w.heap.size+1+1) 2 (yi re));have cX:au (((W3.setCell ⟨w.heap.size+1+1,0,none⟩ (.bool rs)).setCell ⟨w.heap.size+1+1,1,none⟩ (.slice so (Dg.dg 4294967296 rn).length sc)).setCell ⟨w.heap.size+1+1,2,none⟩ (yi re)) (w.heap.size+1+1) 30 (ydL rs (.slice so (Dg.dg 4294967296 rn).length sc) re):=((c_5.set 0 (.bool rs)).set 1 (.slice so (Dg.dg 4294967296 rn).length sc)).set 2 (yi re);have bX:=bu.below b0_5 (show w.heap.size≤w.heap.size+1+1 by omega)
    have oX:=bu.own o_5 c_5 (by decide);obtain⟨s0,s1,s2⟩:=cX.cs3;refine bodyPost_ret (v:= .tuple #[ydV rs (.slice so (Dg.dg 4294967296 rn).length sc) re,.bool (nc==0)]) (by simp[results,Tryd.results5,go_sem,s0,s1,s2]) rfl ?_;exact⟨_,by simp,oX,bX⟩
 ·obtain⟨h1,h2,h3⟩:=HZ.out rfl
  have hb:=HB1.out rfl;clear HB1 HB2 HNU HZ;subst h1 h2 h3
  rcases hb with hb| ⟨hb,hv⟩| ⟨hb,hv,hu,hg⟩
  ·have hcf:(c==0)=false:=by simp[hb]
   obtain⟨y0,y1,y2,y3⟩:=q1.cs4;obtain⟨x0,x1,x2,x3,x4⟩:=g1.cs5
   go_enter Tryd.func5,Tryd.ntmps5
   go_wp2_with fail
   refine(HRO.out _ b1).mono ?_;rintro z w2 ⟨v2,rfl,o2,bb2⟩;obtain⟨xo,xc,hx2⟩:=o2.rd.shape;subst hx2;have r2:=o2.rd;simp only at r2⊢;clear y0 y1 y2 y3 x0 x1 x2 x3 x4 o2;have q_2:=q1.l bb2;have g_2:=g1.l bb2;have c_2:=c1.l bb2;have b0_2:=aa b1 bb2;clear q1 g1 c1 b1 bb2;have ap:=af w2 (.cells (ypA ts (.slice xo (Dg.dg 4294967296 td).length xc) tp tx tv tu) 45);have p2:=ah w2 (ypL ts (.slice xo (Dg.dg 4294967296 td).length xc) tp tx tv tu) 45;have hPa:w.heap.size+1+1<w2.heap.size:=c_2.lt;have q_3:=q_2.l ap;have g_3:=g_2.l ap;have c_3:=c_2.l ap;have r_3:=r2.l ap;have b0_3:=aa b0_2 ap;clear q_2 g_2 c_2 r2 b0_2 ap
   go_upto_region 2 with fail
   generalize w2.alloc (.cells (ypA ts (.slice xo (Dg.dg 4294967296 td).length xc) tp tx tv tu) 45)=W2 at q_3 g_3 c_3 r_3 p2 b0_3⊢;generalize w2.heap.size=PA at p2 hPa⊢;obtain⟨y0,y1,y2,y3,y4,y5⟩:=p2.cs6;obtain⟨x0,x1,x2,x3,x4⟩:=g_3.cs5;have d0:=c_3.c 0 rfl;have f0:=c_3.f 0;have d1:=c_3.c 1 rfl;have f1:=c_3.f 1;have d2:=c_3.c 2 rfl;have f2:=c_3.f 2
   go_wp2
   have bu:But (w.heap.size+1+1) W2 (((W2.setCell ⟨w.heap.size+1+1,0,none⟩ (.bool false)).setCell ⟨w.heap.size+1+1,1,none⟩ (.slice none 0 0)).setCell ⟨w.heap.size+1+1,2,none⟩ (yi 0)):=((ag W2 (w.heap.size+1+1) 0 (.bool false)).trans (ag _ (w.heap.size+1+1) 1 (.slice none 0 0))).trans (ag _ (w.heap.size+1+1) 2 (yi 0));have cX:au (((W2.setCell ⟨w.heap.size+1+1,0,none⟩ (.bool false)).setCell ⟨w.heap.size+1+1,1,none⟩ (.slice none 0 0)).setCell ⟨w.heap.size+1+1,2,none⟩ (yi 0)) (w.heap.size+1+1) 30 (ydL false (.slice none 0 0) 0):=((c_3.set 0 (.bool false)).set 1 (.slice none 0 0)).set 2 (yi 0);have bX:=bu.below b0_3 (show w.heap.size≤w.heap.size+1+1 by omega)
   obtain⟨s0,s1,s2⟩:=cX.cs3;refine bodyPost_ret (v:= .tuple #[ydV false (.slice none 0 0) 0,.bool false]) (by simp[results,Tryd.results5,go_sem,s0,s1,s2]) rfl ?_;exact⟨_,by simp,aQ _ _ _ _,bX⟩
  ·subst hb hv
   obtain⟨y0,y1,y2,y3⟩:=q1.cs4;obtain⟨x0,x1,x2,x3,x4⟩:=g1.cs5
   go_enter Tryd.func5,Tryd.ntmps5
   go_wp2_with fail
   refine(HRO.out _ b1).mono ?_;rintro z w2 ⟨v2,rfl,o2,bb2⟩;obtain⟨xo,xc,hx2⟩:=o2.rd.shape;subst hx2;have r2:=o2.rd;simp only at r2⊢;clear y0 y1 y2 y3 x0 x1 x2 x3 x4 o2;have q_2:=q1.l bb2;have g_2:=g1.l bb2;have c_2:=c1.l bb2;have b0_2:=aa b1 bb2;clear q1 g1 c1 b1 bb2;have ap:=af w2 (.cells (ypA ts (.slice xo (Dg.dg 4294967296 td).length xc) tp tx true tu) 45);have p2:=ah w2 (ypL ts (.slice xo (Dg.dg 4294967296 td).length xc) tp tx true tu) 45;have hPa:w.heap.size+1+1<w2.heap.size:=c_2.lt;have q_3:=q_2.l ap;have g_3:=g_2.l ap;have c_3:=c_2.l ap;have r_3:=r2.l ap;have b0_3:=aa b0_2 ap;clear q_2 g_2 c_2 r2 b0_2 ap
   go_upto_region 2 with fail
   generalize w2.alloc (.cells (ypA ts (.slice xo (Dg.dg 4294967296 td).length xc) tp tx true tu) 45)=W2 at q_3 g_3 c_3 r_3 p2 b0_3⊢;generalize w2.heap.size=PA at p2 hPa⊢;obtain⟨y0,y1,y2,y3,y4,y5⟩:=p2.cs6;obtain⟨x0,x1,x2,x3,x4⟩:=g_3.cs5;have d0:=c_3.c 0 rfl;have f0:=c_3.f 0;have d1:=c_3.c 1 rfl;have f1:=c_3.f 1;have d2:=c_3.c 2 rfl;have f2:=c_3.f 2
   go_wp2
   have bu:But (w.heap.size+1+1) W2 (((W2.setCell ⟨w.heap.size+1+1,0,none⟩ (.bool false)).setCell ⟨w.heap.size+1+1,1,none⟩ (.slice none 0 0)).setCell ⟨w.heap.size+1+1,2,none⟩ (yi 0)):=((ag W2 (w.heap.size+1+1) 0 (.bool false)).trans (ag _ (w.heap.size+1+1) 1 (.slice none 0 0))).trans (ag _ (w.heap.size+1+1) 2 (yi 0));have cX:au (((W2.setCell ⟨w.heap.size+1+1,0,none⟩ (.bool false)).setCell ⟨w.heap.size+1+1,1,none⟩ (.slice none 0 0)).setCell ⟨w.heap.size+1+1,2,none⟩ (yi 0)) (w.heap.size+1+1) 30 (ydL false (.slice none 0 0) 0):=((c_3.set 0 (.bool false)).set 1 (.slice none 0 0)).set 2 (yi 0);have bX:=bu.below b0_3 (show w.heap.size≤w.heap.size+1+1 by omega)
   obtain⟨s0,s1,s2⟩:=cX.cs3;refine bodyPost_ret (v:= .tuple #[ydV false (.slice none 0 0) 0,.bool false]) (by simp[results,Tryd.results5,go_sem,s0,s1,s2]) rfl ?_;exact⟨_,by simp,aQ _ _ _ _,bX⟩
  ·subst hb hv hu hg
   obtain⟨y0,y1,y2,y3⟩:=q1.cs4;obtain⟨x0,x1,x2,x3,x4⟩:=g1.cs5
   go_enter Tryd.func5,Tryd.ntmps5
   go_wp2_with fail
   refine(HRO.out _ b1).mono ?_;rintro z w2 ⟨v2,rfl,o2,bb2⟩;obtain⟨xo,xc,hx2⟩:=o2.rd.shape;subst hx2;have r2:=o2.rd;simp only at r2⊢;clear y0 y1 y2 y3 x0 x1 x2 x3 x4 o2;have q_2:=q1.l bb2;have g_2:=g1.l bb2;have c_2:=c1.l bb2;have b0_2:=aa b1 bb2;clear q1 g1 c1 b1 bb2;have ap:=af w2 (.cells (ypA ts (.slice xo (Dg.dg 4294967296 td).length xc) tp tx false true) 45);have p2:=ah w2 (ypL ts (.slice xo (Dg.dg 4294967296 td).length xc) tp tx false true) 45;have hPa:w.heap.size+1+1<w2.heap.size:=c_2.lt;have q_3:=q_2.l ap;have g_3:=g_2.l ap;have c_3:=c_2.l ap;have r_3:=r2.l ap;have b0_3:=aa b0_2 ap;clear q_2 g_2 c_2 r2 b0_2 ap
   go_upto_region 2 with fail
   generalize w2.alloc (.cells (ypA ts (.slice xo (Dg.dg 4294967296 td).length xc) tp tx false true) 45)=W2 at q_3 g_3 c_3 r_3 p2 b0_3⊢;generalize w2.heap.size=PA at p2 hPa⊢;obtain⟨y0,y1,y2,y3,y4,y5⟩:=p2.cs6;obtain⟨x0,x1,x2,x3,x4⟩:=g_3.cs5;have d0:=c_3.c 0 rfl;have f0:=c_3.f 0;have d1:=c_3.c 1 rfl;have f1:=c_3.f 1;have d2:=c_3.c 2 rfl;have f2:=c_3.f 2
   go_wp2
   have bu:But (w.heap.size+1+1) W2 (((W2.setCell ⟨w.heap.size+1+1,0,none⟩ (.bool false)).setCell ⟨w.heap.size+1+1,1,none⟩ (.slice none 0 0)).setCell ⟨w.heap.size+1+1,2,none⟩ (yi 0)):=((ag W2 (w.heap.size+1+1) 0 (.bool false)).trans (ag _ (w.heap.size+1+1) 1 (.slice none 0 0))).trans (ag _ (w.heap.size+1+1) 2 (yi 0));have cX:au (((W2.setCell ⟨w.heap.size+1+1,0,none⟩ (.bool false)).setCell ⟨w.heap.size+1+1,1,none⟩ (.slice none 0 0)).setCell ⟨w.heap.size+1+1,2,none⟩ (yi 0)) (w.heap.size+1+1) 30 (ydL false (.slice none 0 0) 0):=((c_3.set 0 (.bool false)).set 1 (.slice none 0 0)).set 2 (yi 0);have bX:=bu.below b0_3 (show w.heap.size≤w.heap.size+1+1 by omega)
   obtain⟨s0,s1,s2⟩:=cX.cs3;refine bodyPost_ret (v:= .tuple #[ydV false (.slice none 0 0) 0,.bool false]) (by simp[results,Tryd.results5,go_sem,s0,s1,s2]) rfl ?_;exact⟨_,by simp,aQ _ _ _ _,bX⟩
theorem nW {R D L G:Int}{gr qs:Bool}{N M:Nat}{E way:Int}(h1:1≤D)(hLG:L≤G)(hN:N≠0)(hM:M≠0)(ho:(cI R D L G gr qs N M E way).ov=false)(hu:(cI R D L G gr qs N M E way).un=false∨gr=true):
  ((cI R D L G gr qs N M E way).d=0∧(cI R D L G gr qs N M E way).p=0)∨((cI R D L G gr qs N M E way).d≠0∧L≤(cI R D L G gr qs N M E way).p∧(cI R D L G gr qs N M E way).p≤G∧(cI R D L G gr qs N M E way).d<2^ (ai R*D.toNat)∧(2^ (ai R*(D-1).toNat)≤(cI R D L G gr qs N M E way).d∨(gr=true∧(cI R D L G gr qs N M E way).p=L))):=by
 rw[kJ gr qs N M E way h1 hLG hN hM] at ho hu⊢;simp only at ho hu⊢;have hov:=of_decide_eq_false ho
 by_cases hz:io R D (fM R D L gr qs N M E way)=0
 ·exact .inl ⟨hz,if_pos hz⟩
 ·refine .inr ⟨hz, ?_⟩
  rw[if_neg hz];have hwl:=rP R D L gr N M E h1 hN hM;have hge:=KL R D L gr qs N M E way;have hle:fM R D L gr qs N M E way≤cH R D L gr N M E+1:=by
   unfold fM
   split<;>omega
  have hpw:2^ (ai R*(D-1).toNat)<2^ (ai R*D.toNat):=by
   refine Nat.pow_lt_pow_right (by omega) ?_;exact Nat.mul_lt_mul_of_pos_left (by omega) (by have:=eN R;omega)
  have hcut:L≤dj R D L gr N M E∧(dj R D L gr N M E=aT R D (dY N M E)∨(gr=true∧dj R D L gr N M E=L)):=by
   unfold dj
   by_cases hc:(decide (aT R D (dY N M E)<L)&&gr)=true
   ·rw[if_pos hc]
    exact⟨Int.le_refl _,.inr ⟨(Bool.and_eq_true_iff.1 hc).2,rfl⟩⟩
   ·rw[if_neg hc]
    refine⟨?_,.inl rfl⟩
    rcases hu with hu|hu
    ·have:=of_decide_eq_false hu
     omega
    ·rw[hu,Bool.and_true] at hc
     have: ¬aT R D (dY N M E)<L:=fun c=>hc (decide_eq_true c)
     omega
  unfold io gD at*
  by_cases hq:fM R D L gr qs N M E way=2^ (ai R*D.toNat)
  ·rw[if_pos hq] at hov⊢
   rw[if_pos hq];exact⟨by omega,by omega,hpw,.inl (Nat.le_refl _)⟩
  ·rw[if_neg hq] at hov⊢
   rw[if_neg hq];refine⟨hcut.1,by omega,by omega, ?_⟩
   rcases hcut.2 with h|h
   ·refine .inl (Nat.le_trans ?_ hge)
    have:=mt (xx R D (aT R D (dY N M E)) N M E h1 hN hM).1 (Int.lt_irrefl _);rw[pP] at this;unfold cH shP;rw[h];omega
   ·exact .inr h
theorem wK {t:ak}(h1:(Dg.dg 4294967296 (bare t).n).length≤1200)(h2: -20000≤(bare t).e)(h3:(bare t).e≤20000):bU t=(bare t,0):=by
 unfold bU;rw[if_neg (by omega),if_neg (by omega)]
theorem nE {t:ak}(h:t.n≠0):t.e≤(bare t).e∧(bare t).e=t.e+tz t.n:=by
 unfold bare;rw[if_neg h];exact⟨by show t.e≤t.e+(tz t.n:Int);omega,rfl⟩
def dR (xs ys:List Nat)(E R D L G:Int)(gr qs:Bool)(way:Int):Bool:=
 !decide (eE xs ys E R D L G way=0)||(df xs ys E R D L G gr qs way).ov||((df xs ys E R D L G gr qs way).un&& !gr)
def iu (xs ys:List Nat)(E R D L G:Int)(gr qs:Bool)(way:Int):ak:=
 if dR xs ys E R D L G gr qs way=true then⟨false,0,0⟩ else bare ⟨(df xs ys E R D L G gr qs way).s,(df xs ys E R D L G gr qs way).d,(ai R:Int)*(df xs ys E R D L G gr qs way).p⟩
theorem kN {xs ys:List Nat}{E R D L G:Int}{gr qs:Bool}{way:Int}(h:dR xs ys E R D L G gr qs way=false):eE xs ys E R D L G way=0∧(df xs ys E R D L G gr qs way).ov=false∧((df xs ys E R D L G gr qs way).un=false∨gr=true):=by
 unfold dR at h;simp only[Bool.or_eq_false_iff,Bool.and_eq_false_iff,Bool.not_eq_false',decide_eq_true_iff] at h;exact⟨h.1.1,h.1.2,h.2⟩
theorem mh {xs ys:List Nat}{E R D L G way:Int}(h:eE xs ys E R D L G way=0):eA xs ys E=0∧bk R D L G=0∧iC way=true:=by
 unfold eE at h
 by_cases h1:jg (eA xs ys E) (bk R D L G)=0
 ·rw[if_pos h1] at h
  obtain⟨a,b⟩:=C4 h1;refine⟨a,b, ?_⟩
  by_cases h3:iC way=true
  ·exact h3
  ·rw[if_neg h3] at h
   cases h
 ·rw[if_neg h1] at h
  exact absurd h h1
theorem nF {xs:List Nat}(sa:Dg.Small 4294967296 xs)(h:chk xs=0)(hl: ¬xs.length=0):Dg.vl 4294967296 xs≠0:=fun c=>by
 have ex:Dg.dg 4294967296 (Dg.vl 4294967296 xs)=xs:=Dg.dg_vl _ (by omega) _ sa (aF h).1;rw[c] at ex;rw[←ex] at hl;exact hl rfl
def ia (R D L G:Int)(gr:Bool)(d:Nat)(p:Int):Prop:=
 (d=0∧p=0)∨(d≠0∧L≤p∧p≤G∧d<2^ (ai R*D.toNat)∧(2^ (ai R*(D-1).toNat)≤d∨(gr=true∧p=L)))
theorem Er {xs ys:List Nat}{E R D L G:Int}{gr qs:Bool}{way:Int}(sa:Dg.Small 4294967296 xs)(sb:Dg.Small 4294967296 ys)(h:dR xs ys E R D L G gr qs way=false):bk R D L G=0∧ia R D L G gr (df xs ys E R D L G gr qs way).d (df xs ys E R D L G gr qs way).p:=by
 obtain⟨h1,h2,h3⟩:=kN h;obtain⟨c1,c2,c3⟩:=mh h1;refine⟨c2, ?_⟩;obtain⟨-,d1,-,-,-,-,-,lg,-⟩:=cB c2;obtain⟨a1,a2,hl,-,-⟩:=gO c1;have hP:df xs ys E R D L G gr qs way=if xs.length=0 then⟨false,0,0,true,false,false⟩ else cI R D L G gr qs (Dg.vl 4294967296 xs) (Dg.vl 4294967296 ys) E way:=if_pos h1
 by_cases hz:xs.length=0
 ·rw[if_pos hz] at hP
  rw[hP];exact .inl ⟨rfl,rfl⟩
 ·rw[if_neg hz] at hP
  rw[hP] at h2 h3⊢;exact nW d1 lg (nF sa a1 hz) (nF sb a2 (by omega)) h2 h3
theorem jq {d k L:Nat}(h:d<2^k)(hk:k≤32*L):(Dg.dg 4294967296 d).length≤L:=by
 refine Dg.dg_len_le 4294967296 _ _ (by omega) (Nat.lt_of_lt_of_le h ?_);rw[show(4294967296:Nat)=2^32 from by decide,←Nat.pow_mul]
 exact Nat.pow_le_pow_right (by omega) hk
theorem qj {R D L G:Int}{gr:Bool}{d:Nat}{p:Int}(hg:bk R D L G=0)(h:ia R D L G gr d p):
  (Dg.dg 4294967296 d).length≤15∧ -17000≤p∧p≤17000∧ -17000≤(ai R:Int)*p∧(ai R:Int)*p≤17000∧tz d≤480:=by
 obtain⟨hR,d1,d2,l1,l2,g1,g2,lg,l16⟩:=cB hg
 rcases h with⟨rfl,rfl⟩| ⟨h0,h1,h2,h3,-⟩
 ·refine⟨Nat.zero_le _,by omega,by omega,by simp,by simp, ?_⟩
  exact Nat.le_trans (gZ 0 0 (Nat.le_refl _)) (by omega)
 ·have hw:=Nat.mul_le_mul (eN R).2 (show D.toNat≤120 by omega)
  have hl:(Dg.dg 4294967296 d).length≤15:=jq h3 (by omega);have:=gZ d 15 hl;refine⟨hl,by omega,by omega, ?_, ?_,by omega⟩<;>(unfold ai;split<;>simp<;>omega)
theorem Af {R D L G:Int}{gr s:Bool}{d:Nat}{p:Int}(hg:bk R D L G=0)(h:ia R D L G gr d p):
  cC (ix (Dg.dg 4294967296 d) p R D L G) ⟨s,Dg.vl 4294967296 (Dg.dg 4294967296 d),(ai R:Int)*p⟩=(bare ⟨s,d,(ai R:Int)*p⟩,0):=by
 obtain⟨l,p1,p2,w1,w2,tzl⟩:=qj hg h;have hp:ix (Dg.dg 4294967296 d) p R D L G=0:=kA ((bL (nt (n:=d) (e:=0) (by omega) (by omega) (by omega))).1) hg (by unfold eJ;simp;omega);rw[hp,Dg.vl_dg _ _ (by omega)]
 show bU _=_
 refine wK ?_ ?_ ?_
 ·exact Nat.le_trans (aH _ _ d (by omega) (kR _)) (by omega)
 ·by_cases h0:d=0
  ·simp[bare,h0]
  ·have:=(nE (t:=⟨s,d,(ai R:Int)*p⟩) h0).2
   simp only at this;omega
 ·by_cases h0:d=0
  ·simp[bare,h0]
  ·have:=(nE (t:=⟨s,d,(ai R:Int)*p⟩) h0).2
   simp only at this;omega
theorem oU (qs:Bool)(ao:Option Addr)(ca:Nat)(xs:List Nat)(bo:Option Addr)(cb:Nat)(ys:List Nat)(E R D L G:Int)(gr:Bool)(way:Int)(w:World)(ha:Rd w .u32 (.slice ao xs.length ca) xs)(hb:Rd w .u32 (.slice bo ys.length cb) ys)(sa:Dg.Small 4294967296 xs)(sb:Dg.Small 4294967296 ys)(hT:Tab w):
  yC 5 #[yrV qs (.slice ao xs.length ca) (.slice bo ys.length cb) E,ygV R D L G gr,yi way] w (tH w (iu xs ys E R D L G gr qs way) (!dR xs ys E R D L G gr qs way)):=by
 have hsp:=Er (E:=E) (R:=R) (D:=D) (L:=L) (G:=G) (gr:=gr) (qs:=qs) (way:=way) sa sb;have hbad:dR xs ys E R D L G gr qs way=true→ ¬eE xs ys E R D L G way=0∨(eE xs ys E R D L G way=0∧(df xs ys E R D L G gr qs way).ov=true)∨(eE xs ys E R D L G way=0∧(df xs ys E R D L G gr qs way).ov=false∧(df xs ys E R D L G gr qs way).un=true∧gr=false):=fun h=>by
  unfold dR at h
  by_cases h1:eE xs ys E R D L G way=0
  ·cases hov:(df xs ys E R D L G gr qs way).ov
   ·rw[hov,decide_eq_true h1] at h
    simp at h;exact .inr (.inr ⟨h1,rfl,h.1,h.2⟩)
   ·exact .inr (.inl ⟨h1,rfl⟩)
  ·exact .inl h1
 have hgood:=kN (xs:=xs) (ys:=ys) (E:=E) (R:=R) (D:=D) (L:=L) (G:=G) (gr:=gr) (qs:=qs) (way:=way);obtain⟨⟨rs,rn,re⟩,hr⟩: ∃t,iu xs ys E R D L G gr qs way=t:=⟨_,rfl⟩;have hz:dR xs ys E R D L G gr qs way=true→rs=false∧rn=0∧re=0:=fun h=>by
  unfold iu at hr;rw[if_pos h] at hr;simp only[ak.mk.injEq] at hr;exact⟨hr.1.symm,hr.2.1.symm,hr.2.2.symm⟩
 have hn:dR xs ys E R D L G gr qs way=false→bare ⟨(df xs ys E R D L G gr qs way).s,(df xs ys E R D L G gr qs way).d,(ai R:Int)*(df xs ys E R D L G gr qs way).p⟩=⟨rs,rn,re⟩:=fun h=>by
  rw[←hr];unfold iu;rw[if_neg (by rw[h];decide)]
 obtain⟨⟨ts,td,tp,tx,tv,tu⟩,hP⟩: ∃T,df xs ys E R D L G gr qs way=T:=⟨_,rfl⟩;rw[hP] at hsp hbad hgood hn;obtain⟨bad,hB⟩: ∃b,dR xs ys E R D L G gr qs way=b:=⟨_,rfl⟩;rw[hB] at hsp hbad hgood hz hn;rw[hr,hB];simp only at hsp hbad hgood hn;have hx:(!bad&&((0:Int)==0))= !bad:=by simp
 rw[←hx];refine ZU qs ao xs.length ca bo ys.length cb E R D L G gr way (eE xs ys E R D L G way) ts td tp tx tv tu 0 rs rn re bad w hbad hgood (fun w1 b=> ?_) (fun h xo xc w1 b r=> ?_) hz
 ·rw[←hP]
  exact jM qs ao ca xs bo cb ys E R D L G gr way w1 (ha.l b) (hb.l b) sa sb
 ·obtain⟨c2,hi⟩:=hsp h
  have:=kB R D L G gr ts xo xc (Dg.dg 4294967296 td) tp tx tv tu w1 r (Dg.small_dg _ _ (by omega)) (hT.l b);rw[Af c2 hi,hn h] at this;exact this
theorem Mh:eE [9] [1] 0 2 3 (-5) 5 1=0:=by kernel_rfl
theorem Kf:df [9] [1] 0 2 3 (-5) 5 true false 1=⟨false,4,1,false,false,false⟩:=by kernel_rfl
theorem Mi:Dg.dg 4294967296 4=[4]:=by kernel_rfl
theorem Pv {w:World}{e:Ending}{w':World}(h:sq w 0 ⟨false,4,1,false,false,false⟩ e w'): ∃o k,e= .returned (.tuple #[ypV false (.slice o 1 k) 1 false false false,yi 0])∧Own w' w.heap.size 48 .u32 (.slice o 1 k) [4]∧yB w w':=by
 obtain⟨v,h1,h2,h3⟩:=h;have h4:Own w' w.heap.size 48 .u32 v [4]:=Mi▸h2;obtain⟨o,k,hv⟩:=h4.rd.shape;exact⟨o,k,hv▸h1,hv▸h4,h3⟩
theorem jb (w:World):yC 4 #[] w (yR w (.bool true)):=by
 have lg:=ah w (ygL 2 3 (-5) 5 true) 27;have bg:=af w (.cells (ygA 2 3 (-5) 5 true) 27)
 go_enter Tryd.func4,Tryd.ntmps4
 go_upto_region 2 with fail
 change au (w.alloc (.cells (ygA 2 3 (-5) 5 true) 27)) w.heap.size 27 (ygL 2 3 (-5) 5 true) at lg;generalize(w.alloc (.cells (ygA 2 3 (-5) 5 true) 27))=W1 at lg bg⊢;have a1:=af W1 (.cells #[.int .u32 9] 48);have a2:=af (W1.alloc (.cells #[.int .u32 9] 48)) (.cells #[.int .u32 1] 48);have r1:=(cE (w:=W1) (k:= .u32) (e:=48) [9] #[.int .u32 9] rfl (by unfold maxLen;simp)).l a2;have r2:=cE (w:=W1.alloc (.cells #[.int .u32 9] 48)) (k:= .u32) (e:=48) [1] #[.int .u32 1] rfl (by unfold maxLen;simp);have hm:=jM false _ _ [9] _ _ [1] 0 2 3 (-5) 5 true 1 _ r1 r2 (Dg.small_cons.2 ⟨by omega,Dg.small_nil _ (by omega)⟩) (Dg.small_cons.2 ⟨by omega,Dg.small_nil _ (by omega)⟩);rw[Mh,Kf] at hm;simp only[World.size_alloc,show[9].length=1 from rfl,show[1].length=1 from rfl] at hm
 have g2:=(lg.l a1).l a2;have b2:=aa (aa bg a1) a2;clear lg bg a1 a2 r1 r2;obtain⟨x0,x1,x2,x3,x4⟩:=g2.cs5
 go_wp2_with fail
 refine hm.mono ?_;intro z w2 hz;obtain⟨vo,vk,rfl,ov,b⟩:=Pv hz;clear hz;have b3:=aa b2 b;clear hm b b2 g2 x0 x1 x2 x3 x4;have lp:=ah w2 (ypL false (.slice vo 1 vk) 1 false false false) 45;have ap:=af w2 (.cells (ypA false (.slice vo 1 vk) 1 false false false) 45);have bp:=aa b3 ap;have op:=ov.l ap
 go_upto_region 3 with fail
 clear ap ov b3;change au (w2.alloc (.cells (ypA false (.slice vo 1 vk) 1 false false false) 45)) w2.heap.size 45 (ypL false (.slice vo 1 vk) 1 false false false) at lp;generalize(w2.alloc (.cells (ypA false (.slice vo 1 vk) 1 false false false) 45))=W3 at lp bp op⊢;generalize w2.heap.size=PB at lp⊢;have a4:=af W3 (.cells #[.int .u32 4] 48);have r4:=cE (w:=W3) (k:= .u32) (e:=48) [4] #[.int .u32 4] rfl (by unfold maxLen;simp);have hs:=gM _ _ _ _ _ (op.rd.l a4) r4;have b5:=aa bp a4;have p5:=lp.l a4;rw[show decide ([4]=[4])=true from rfl] at hs
 simp only[show[4].length=1 from rfl] at hs
 have x1:=lp.c 1 rfl;have x2:=lp.c 2 rfl;have x3:=lp.c 3 rfl
 go_wp2_with fail
 refine hs.mono ?_;rintro z w5 ⟨rfl,b⟩;have b6:=aa b5 b;have p6:=p5.l b;clear hs b b5 p5 x1 x2 x3;have x2:=p6.c 2 rfl;have x3:=p6.c 3 rfl
 go_wp2
 go_ret
 exact⟨rfl,b6⟩
theorem kZ {R D L G:Int}{gr s:Bool}{d:Nat}{p:Int}(hg:bk R D L G=0)(h:ia R D L G gr d p):aS (Dg.dg 4294967296 (bare ⟨s,d,(ai R:Int)*p⟩).n) (bare ⟨s,d,(ai R:Int)*p⟩).e=0:=by
 obtain⟨l,p1,p2,w1,w2,tzl⟩:=qj hg h;refine nt ?_ ?_ ?_
 ·exact Nat.le_trans (aH _ _ d (by omega) (kR _)) (by omega)
 ·by_cases h0:d=0
  ·simp[bare,h0]
  ·have:=(nE (t:=⟨s,d,(ai R:Int)*p⟩) h0).2
   simp only at this;omega
 ·by_cases h0:d=0
  ·simp[bare,h0]
  ·have:=(nE (t:=⟨s,d,(ai R:Int)*p⟩) h0).2
   simp only at this;omega
theorem sD (R D:Int)(s:Bool)(d:Nat)(p:Int)(h1:1≤D):bare ⟨s,io R D d,(ai R:Int)*gD R D d p⟩=bare ⟨s,d,(ai R:Int)*p⟩:=by
 unfold io gD
 by_cases h:d=2^ (ai R*D.toNat)
 ·rw[if_pos h,if_pos h]
  have hc:=Int.natCast_mul (ai R) D.toNat;have hc1:=Int.natCast_mul (ai R) (D-1).toNat;rw[Int.toNat_of_nonneg (by omega)] at hc hc1;have e1:(ai R:Int)*(p+1)+((ai R*(D-1).toNat:Nat):Int)=(ai R:Int)*p+((ai R*D.toNat:Nat):Int):=by
   rw[hc,hc1,Int.mul_add,Int.mul_sub];omega
  refine fH (K:=(max (-((ai R:Int)*p)) (max (-((ai R:Int)*(p+1))) 0)).toNat) (by simp only;omega) (by simp only;omega) ?_;rw[eV,eV];simp only;rw[h,←Nat.pow_add,←Nat.pow_add]
  congr 2
  omega
 ·rw[if_neg h,if_neg h]
theorem GR (s:Bool)(e f:Int):bare ⟨s,0,e⟩=bare ⟨s,0,f⟩:=by simp[bare]
theorem ZV {xs ys:List Nat}{E R D L G:Int}{gr qs:Bool}{way:Int}(hC:eE xs ys E R D L G way=0)(sa:Dg.Small 4294967296 xs)(sb:Dg.Small 4294967296 ys)(hl: ¬xs.length=0):
  (dR xs ys E R D L G gr qs way=false↔ ¬G<gD R D (fM R D L gr qs (Dg.vl 4294967296 xs) (Dg.vl 4294967296 ys) E way) (dj R D L gr (Dg.vl 4294967296 xs) (Dg.vl 4294967296 ys) E)∧(¬aT R D (dY (Dg.vl 4294967296 xs) (Dg.vl 4294967296 ys) E)<L∨gr=true))∧
  (dR xs ys E R D L G gr qs way=false→iu xs ys E R D L G gr qs way=bare ⟨qs,fM R D L gr qs (Dg.vl 4294967296 xs) (Dg.vl 4294967296 ys) E way,(ai R:Int)*dj R D L gr (Dg.vl 4294967296 xs) (Dg.vl 4294967296 ys) E⟩)∧
  (df xs ys E R D L G gr qs way).ex=decide (gF R D L gr (Dg.vl 4294967296 xs) (Dg.vl 4294967296 ys) E=0):=by
 obtain⟨c1,c2,c3⟩:=mh hC;obtain⟨-,d1,-,-,-,-,-,lg,-⟩:=cB c2;obtain⟨a1,a2,hm,-,-⟩:=gO c1;have hN:=nF sa a1 hl;have hM:=nF sb a2 (by omega);have hP:df xs ys E R D L G gr qs way=cI R D L G gr qs (Dg.vl 4294967296 xs) (Dg.vl 4294967296 ys) E way:=(if_pos hC).trans (if_neg hl);rw[kJ gr qs _ _ E way d1 lg hN hM] at hP;obtain⟨N,hNN⟩: ∃N,Dg.vl 4294967296 xs=N:=⟨_,rfl⟩;obtain⟨M,hMM⟩: ∃M,Dg.vl 4294967296 ys=M:=⟨_,rfl⟩;rw[hNN,hMM] at hP⊢;refine⟨?_, ?_,by rw[hP]⟩
 ·unfold dR
  rw[hP,hC]
  by_cases h1:G<gD R D (fM R D L gr qs N M E way) (dj R D L gr N M E)
  ·simp[h1]
  ·by_cases h2:aT R D (dY N M E)<L
   ·cases gr<;>simp[h1,h2]
   ·simp[h1,h2]
 ·intro hb
  unfold iu;rw[if_neg (by rw[hb];decide),hP];simp only
  by_cases hz:io R D (fM R D L gr qs N M E way)=0
  ·rw[if_pos hz,←sD R D qs (fM R D L gr qs N M E way) _ d1,hz]
   exact GR _ _ _
  ·rw[if_neg hz]
   exact sD R D qs _ _ d1
theorem DY (R D L:Int)(gr qs:Bool)(N M:Nat)(E way:Int):fM R D L gr qs N M E way=cH R D L gr N M E∨fM R D L gr qs N M E way=cH R D L gr N M E+1:=by
 unfold fM
 split
 ·exact .inr rfl
 ·exact .inl rfl
theorem Bv {R D L:Int}{gr:Bool}{N M:Nat}{E:Int}(h1:1≤D)(hN:N≠0)(hM:M≠0)(hu: ¬aT R D (dY N M E)<L∨gr=true):
  L≤dj R D L gr N M E∧(2^ (ai R*(D-1).toNat)≤cH R D L gr N M E∨(gr=true∧dj R D L gr N M E=L)):=by
 have hcut:L≤dj R D L gr N M E∧(dj R D L gr N M E=aT R D (dY N M E)∨(gr=true∧dj R D L gr N M E=L)):=by
  unfold dj
  by_cases hc:(decide (aT R D (dY N M E)<L)&&gr)=true
  ·rw[if_pos hc]
   exact⟨Int.le_refl _,.inr ⟨(Bool.and_eq_true_iff.1 hc).2,rfl⟩⟩
  ·rw[if_neg hc]
   refine⟨?_,.inl rfl⟩
   rcases hu with hu|hu
   ·omega
   ·rw[hu,Bool.and_true] at hc
    have: ¬aT R D (dY N M E)<L:=fun c=>hc (decide_eq_true c)
    omega
 refine⟨hcut.1, ?_⟩
 rcases hcut.2 with h|h
 ·left
  have:=mt (xx R D (aT R D (dY N M E)) N M E h1 hN hM).1 (Int.lt_irrefl _);rw[pP] at this;unfold cH shP;rw[h];omega
 ·exact .inr h
end Go.Proofs.YtibnjbojkjablaaDoor
