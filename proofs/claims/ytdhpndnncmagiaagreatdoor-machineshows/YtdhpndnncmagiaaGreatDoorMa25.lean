/-
  Texts laid together: Dy3, Dy6, Dy7, Tx4, Tx7, Bl1, Bl6, BlN, Tx14.
-/
import Derived.Test.YtdhpndnncmagiaaGreatDoorMa18
import Derived.Test.YtdhpndnncmagiaaGreatDoorMa20
set_option maxRecDepth 100000
set_option maxHeartbeats 6400000
namespace Go.Proofs.YtdhpndnncmagiaaGreatDoor
open _root_.Go.Proofs.Tryz
open Go.RowKit
theorem kL (v:Value)(t:ak)(w:World)(hv:Dv w v t)(hL:(Dg.dg 4294967296 t.n).length≤500000)(he: -1000000≤t.e∧t.e≤1000000)(hT:Tab w)(htz:tz t.n≤1000000):
  yC 149 #[v] w (gR w (bU t)):=by
 have HB:Hid (∀w1,yB w w1→yC 206 #[v] w1 (jN w1 (bare t))):=fun w1 b1=>II v t w1 (hv.l b1) hL he (hT.l b1) htz
 obtain⟨s0,rfl,hr⟩:=hv;obtain⟨ao,ca,rfl⟩:=hr.shape;obtain⟨ts,n,e⟩:=t;simp only at hr hL he htz⊢HB;obtain⟨m,hm⟩: ∃m,(Dg.dg 4294967296 n).length=m:=⟨_,rfl⟩;rw[hm] at HB⊢;obtain⟨⟨bs,bn,be⟩,hbt⟩: ∃bt,bare ⟨ts,n,e⟩=bt:=⟨_,rfl⟩;unfold bU;rw[hbt] at HB⊢;simp only at HB⊢;clear hbt hm hr hL he htz hT;have l1:=(aA w (.bool ts) (.slice ao m ca) (yi e) 86).l (af _ (.cells (ydA false yN 0) 59));have l2:=aA (w.alloc (.cells (ydA ts (.slice ao m ca) e) 86)) (.bool false) yN (yi 0) 59;have bA:=aa (af w (.cells (ydA ts (.slice ao m ca) e) 86)) (af _ (.cells (ydA false yN 0) 59));rw[World.size_alloc] at l2
 by_cases h1:1200< (Dg.dg 4294967296 bn).length
 ·rw[if_pos h1]
  go_enter func149,ntmps149
  go_wp2_with fail
  refine(HB.out _ bA).mono ?_;rintro x w1 ⟨s,rfl,own1,b1⟩;have l1:=l1.l b1;have l2:=l2.l b1;have b01:=aa bA b1;rw[World.size_alloc,World.size_alloc] at own1;obtain⟨so,sc,hs⟩:=own1.rd.shape;subst hs;obtain⟨hl1,⟨c0,c1,c2⟩,f0,f1,f2⟩:=id l1;obtain⟨hl2,⟨d0,d1,d2⟩,k0,k1,k2⟩:=id l2;clear bA b1 HB
  go_wp2
  obtain⟨-,⟨g0,g1,g2⟩,-⟩:=aD (l2.apart (c:=w.heap.size) (by omega) (.bool bs) (yT so bn sc) (yi be)) (.bool false) yN (yi 0);have b2:=am (am b01 (Nat.le_refl _) (.bool bs) (yT so bn sc) (yi be)) (show w.heap.size≤w.heap.size+1 by omega) (.bool false) yN (yi 0)
  refine bodyPost_ret (v:= .tuple #[.agg #[(.bool false),yN,(yi 0)],yi 2]) (by simp[results,results149,go_sem,g0,g1,g2]) rfl ?_;exact⟨_,rfl,aQ _ _ _ _,b2⟩
 ·rw[if_neg h1]
  by_cases h2:be< -20000
  ·rw[if_pos (Or.inl h2)]
   go_enter func149,ntmps149
   go_wp2_with fail
   refine(HB.out _ bA).mono ?_;rintro x w1 ⟨s,rfl,own1,b1⟩;have l1:=l1.l b1;have l2:=l2.l b1;have b01:=aa bA b1;rw[World.size_alloc,World.size_alloc] at own1;obtain⟨so,sc,hs⟩:=own1.rd.shape;subst hs;obtain⟨hl1,⟨c0,c1,c2⟩,f0,f1,f2⟩:=id l1;obtain⟨hl2,⟨d0,d1,d2⟩,k0,k1,k2⟩:=id l2;clear bA b1 HB
   go_wp2
   obtain⟨-,⟨g0,g1,g2⟩,-⟩:=aD (l2.apart (c:=w.heap.size) (by omega) (.bool bs) (yT so bn sc) (yi be)) (.bool false) yN (yi 0);have b2:=am (am b01 (Nat.le_refl _) (.bool bs) (yT so bn sc) (yi be)) (show w.heap.size≤w.heap.size+1 by omega) (.bool false) yN (yi 0)
   refine bodyPost_ret (v:= .tuple #[.agg #[(.bool false),yN,(yi 0)],yi 3]) (by simp[results,results149,go_sem,g0,g1,g2]) rfl ?_;exact⟨_,rfl,aQ _ _ _ _,b2⟩
  ·by_cases h3:20000<be
   ·rw[if_pos (Or.inr h3)]
    go_enter func149,ntmps149
    go_wp2_with fail
    refine(HB.out _ bA).mono ?_;rintro x w1 ⟨s,rfl,own1,b1⟩;have l1:=l1.l b1;have l2:=l2.l b1;have b01:=aa bA b1;rw[World.size_alloc,World.size_alloc] at own1;obtain⟨so,sc,hs⟩:=own1.rd.shape;subst hs;obtain⟨hl1,⟨c0,c1,c2⟩,f0,f1,f2⟩:=id l1;obtain⟨hl2,⟨d0,d1,d2⟩,k0,k1,k2⟩:=id l2;clear bA b1 HB
    go_wp2
    obtain⟨-,⟨g0,g1,g2⟩,-⟩:=aD (l2.apart (c:=w.heap.size) (by omega) (.bool bs) (yT so bn sc) (yi be)) (.bool false) yN (yi 0);have b2:=am (am b01 (Nat.le_refl _) (.bool bs) (yT so bn sc) (yi be)) (show w.heap.size≤w.heap.size+1 by omega) (.bool false) yN (yi 0)
    refine bodyPost_ret (v:= .tuple #[.agg #[(.bool false),yN,(yi 0)],yi 3]) (by simp[results,results149,go_sem,g0,g1,g2]) rfl ?_;exact⟨_,rfl,aQ _ _ _ _,b2⟩
   ·rw[if_neg (by omega)]
    go_enter func149,ntmps149
    go_wp2_with fail
    refine(HB.out _ bA).mono ?_;rintro x w1 ⟨s,rfl,own1,b1⟩;have l1:=l1.l b1;have l2:=l2.l b1;have b01:=aa bA b1;rw[World.size_alloc,World.size_alloc] at own1;obtain⟨so,sc,hs⟩:=own1.rd.shape;subst hs;obtain⟨hl1,⟨c0,c1,c2⟩,f0,f1,f2⟩:=id l1;obtain⟨hl2,⟨d0,d1,d2⟩,k0,k1,k2⟩:=id l2;clear bA b1 HB
    go_wp2
    obtain⟨-,⟨g0,g1,g2⟩,-⟩:=aD (l2.apart (c:=w.heap.size) (by omega) (.bool bs) (yT so bn sc) (yi be)) (.bool bs) (yT so bn sc) (yi be);have own2:=(own1.apart3 (b:=w.heap.size) (by omega) (.bool bs) (yT so bn sc) (yi be)).apart3 (b:=w.heap.size+1) (by omega) (.bool bs) (yT so bn sc) (yi be);have b2:=am (am b01 (Nat.le_refl _) (.bool bs) (yT so bn sc) (yi be)) (show w.heap.size≤w.heap.size+1 by omega) (.bool bs) (yT so bn sc) (yi be)
    refine bodyPost_ret (v:= .tuple #[.agg #[(.bool bs),(yT so bn sc),(yi be)],yi 0]) (by simp[results,results149,go_sem,g0,g1,g2]) rfl ?_;exact⟨_,rfl,own2.lower (by omega),b2⟩
theorem ju (w:World)(a0 a1 a2 b0 b1 b2 c0 c1 c2:Value)(ta tb tc:TypeId):
  Loc (((w.alloc (.cells #[a0,a1,a2] ta)).alloc (.cells #[b0,b1,b2] tb)).alloc (.cells #[c0,c1,c2] tc)) w.heap.size a0 a1 a2∧
  Loc (((w.alloc (.cells #[a0,a1,a2] ta)).alloc (.cells #[b0,b1,b2] tb)).alloc (.cells #[c0,c1,c2] tc)) (w.heap.size+1) b0 b1 b2∧
  Loc (((w.alloc (.cells #[a0,a1,a2] ta)).alloc (.cells #[b0,b1,b2] tb)).alloc (.cells #[c0,c1,c2] tc)) (w.heap.size+1+1) c0 c1 c2∧
  yB w (((w.alloc (.cells #[a0,a1,a2] ta)).alloc (.cells #[b0,b1,b2] tb)).alloc (.cells #[c0,c1,c2] tc))∧
  (((w.alloc (.cells #[a0,a1,a2] ta)).alloc (.cells #[b0,b1,b2] tb)).alloc (.cells #[c0,c1,c2] tc)).heap.size=w.heap.size+1+1+1:=by
 have la:=aA w a0 a1 a2 ta;have lb:=aA (w.alloc (.cells #[a0,a1,a2] ta)) b0 b1 b2 tb;have lc:=aA ((w.alloc (.cells #[a0,a1,a2] ta)).alloc (.cells #[b0,b1,b2] tb)) c0 c1 c2 tc;have bB:=af (w.alloc (.cells #[a0,a1,a2] ta)) (.cells #[b0,b1,b2] tb);have bC:=af ((w.alloc (.cells #[a0,a1,a2] ta)).alloc (.cells #[b0,b1,b2] tb)) (.cells #[c0,c1,c2] tc);refine⟨(la.l bB).l bC, ?_, ?_,aa (aa (af w _) bB) bC,by simp[World.size_alloc]⟩
 ·have:=lb.l bC
  rwa [World.size_alloc] at this
 ·rwa [World.size_alloc,World.size_alloc] at lc
theorem Ac (v u:Value)(a b:ak)(w:World)(hv:Dv w v a)(hu:Dv w u b)(hLa:(Dg.dg 4294967296 a.n).length≤100000)(hLb:(Dg.dg 4294967296 b.n).length≤100000)
  (ha1: -100000≤a.e) (ha2:a.e≤100000) (hb1: -100000≤b.e) (hb2:b.e≤100000):
  Calls Tryz.prog 217 #[v,u] w (jN w (aK a b)):=by
 obtain⟨s0,rfl,ra⟩:=hv;obtain⟨ao,ca,rfl⟩:=ra.shape;obtain⟨s1,rfl,rb⟩:=hu;obtain⟨bo,cb,rfl⟩:=rb.shape;obtain⟨sa,an,ae⟩:=a;obtain⟨sb,bn,be⟩:=b;simp only at ra rb hLa hLb ha1 ha2 hb1 hb2⊢;have HTI:Hid (∀w1,Below w.heap.size w w1→Calls Tryz.prog 76 #[.slice ao (Dg.dg 4294967296 an).length ca,.slice bo (Dg.dg 4294967296 bn).length cb] w1 (Num w1 (an*bn))):=fun w1 b1=>by
  have:=qC _ _ _ _ w1 (ra.l b1) (rb.l b1) (Dg.small_dg _ _ (by omega)) (Dg.small_dg _ _ (by omega)) (by omega) (by omega);rw[Dg.vl_dg _ _ (by omega),Dg.vl_dg _ _ (by omega)] at this;exact this
 unfold aK;simp only;obtain⟨X,hX⟩: ∃X,an*bn=X:=⟨_,rfl⟩;obtain⟨ma,hma⟩: ∃m,(Dg.dg 4294967296 an).length=m:=⟨_,rfl⟩;obtain⟨mb,hmb⟩: ∃m,(Dg.dg 4294967296 bn).length=m:=⟨_,rfl⟩;rw[hX,hma,hmb] at HTI;rw[hX,hma,hmb];clear hX hma hmb ra rb hLa hLb;obtain⟨la,lb,lc,b01,sW⟩:=ju w (.bool sa) (.slice ao ma ca) (.int .i64 ae) (.bool sb) (.slice bo mb cb) (.int .i64 be) (.bool false) (.slice none 0 0) (.int .i64 0) 86 86 86;clear sW;obtain⟨W,hW⟩: ∃W,(((w.alloc (.cells #[.bool sa,.slice ao ma ca,.int .i64 ae] 86)).alloc (.cells #[.bool sb,.slice bo mb cb,.int .i64 be] 86)).alloc (.cells #[.bool false,.slice none 0 0,.int .i64 0] 86))=W:=⟨_,rfl⟩;rw[hW] at la lb lc b01;have bd:Below W.heap.size W W.drew:=(Below.refl _ _).drew;have la:=la.l bd;have lb:=lb.l bd;have lc:=lc.l bd;have b02:=aa b01 bd;rw[←hW] at la lb lc b02;clear bd b01 hW;obtain⟨-,⟨ca0,ca1,ca2⟩,-⟩:=id la;obtain⟨-,⟨cb0,cb1,cb2⟩,-⟩:=id lb;have ne3:w.heap.size+1+1≠w.heap.size:=by omega
 have ne4:w.heap.size≠w.heap.size+1+1:=by omega
 have e4:IntKind.i64.wrap (ae+be)=ae+be:=IntWalk.i64_in _ ⟨by omega,by omega⟩
 go_enter func217,ntmps217
 go_wp2_with fail
 go_region_held3 (fun wq=>(wq.cell? ⟨w.heap.size,0,none⟩=some (.bool sa)∧wq.cell? ⟨w.heap.size,1,none⟩=some (.slice ao ma ca)∧wq.cell? ⟨w.heap.size,2,none⟩=some (.int .i64 ae))∧wq.cell? ⟨w.heap.size+1,0,none⟩=some (.bool sb)∧wq.cell? ⟨w.heap.size+1,1,none⟩=some (.slice bo mb cb)∧wq.cell? ⟨w.heap.size+1,2,none⟩=some (.int .i64 be)) (go_keep) (first
  | (go_at_call 198;refine(cN sa ao ma ca ae _).mono ?_;rintro z w3 ⟨rfl,b3⟩;have la3:=la.l b3;have lb3:=lb.l b3;have lc3:=lc.l b3;have b03:=aa b02 b3;obtain⟨-,⟨p0,p1,p2⟩,-⟩:=id la3;obtain⟨-,⟨p3,p4,p5⟩,-⟩:=id lb3;clear b02)
  | (go_at_call 198;refine(cN sb bo mb cb be w3).mono ?_;rintro z w4 ⟨rfl,b4⟩;have la4:=la3.l b4;have lb4:=lb3.l b4;have lc4:=lc3.l b4;have b04:=aa b03 b4;obtain⟨-,⟨q0,q1,q2⟩,-⟩:=id la4;obtain⟨-,⟨q3,q4,q5⟩,-⟩:=id lb4)
  | (go_at_call 76;refine(HTI.out w4 b04).mono ?_;rintro z w5 ⟨vs,rfl,o5,b5⟩;have la5:=la4.l b5;have lb5:=lb4.l b5;have lc5:=lc4.l b5;have b05:=aa b04 b5;obtain⟨-,⟨t0,t1,t2⟩,-⟩:=id la5;obtain⟨-,⟨t3,t4,t5⟩,-⟩:=id lb5;obtain⟨so,sc,hvs⟩:=o5.rd.shape;subst hvs)
  | (go_at_call 137;refine(l9 (sa != sb) so _ sc _ w5).mono ?_;rintro z w6 ⟨rfl,b6⟩;have la6:=la5.l b6;have lb6:=lb5.l b6;have lc6:=lc5.l b6;have b06:=aa b05 b6;obtain⟨-,⟨u0,u1,u2⟩,-⟩:=id la6;obtain⟨-,⟨u3,u4,u5⟩,-⟩:=id lb6;obtain⟨hl6,⟨d0,d1,d2⟩,f0,f1,f2⟩:=id lc6))
 all_goals go_wp2
 obtain⟨-,⟨g0,g1,g2⟩,-⟩:=aD lc6 (.bool (sa != sb)) (.slice so (Dg.dg 4294967296 X).length sc) (.int .i64 (ae+be));have o7:=(o5.l b6).apart3 (b:=w.heap.size+1+1) lc4.1 (.bool (sa != sb)) (.slice so (Dg.dg 4294967296 X).length sc) (.int .i64 (ae+be));have b8:=am b06 (show w.heap.size≤w.heap.size+1+1 by omega) (.bool (sa != sb)) (.slice so (Dg.dg 4294967296 X).length sc) (.int .i64 (ae+be))
 refine bodyPost_ret (v:= .agg #[.bool (sa != sb),.slice so (Dg.dg 4294967296 X).length sc,.int .i64 (ae+be)]) (by simp[results,results217,go_sem,g0,g1,g2]) rfl ?_;exact⟨_,rfl,o7.lower b04.size,b8⟩
theorem tratio_up_mg:
  (∀(ng:Bool) (ds:ByteArray) (p tw mt ex:Int) (N F M Ksh:Nat) (w:World) (_:0< (Dg.dg 4294967296 N).length) (_:IntKind.i64.wrap (-tw)=mt) (_:IntKind.i64.wrap (p+tw)=ex) (_:0<p)
  (_: ∀w1,yC 125 #[.string ds] w1 (NmR w1 N))
  (_: ∀w1,yC 77 #[yi p] w1 (NmR w1 F))
  (_: ∀xo xc fo fc w1,Rd w1 .u32 (yT xo N xc) (Dg.dg 4294967296 N)→Rd w1 .u32 (yT fo F fc) (Dg.dg 4294967296 F)→yC 76 #[yT xo N xc,yT fo F fc] w1 (NmR w1 M))
  (_: ∀mo mc w1,yB w w1→Rd w1 .u32 (yT mo M mc) (Dg.dg 4294967296 M)→yC 127 #[yT mo M mc] w1 (yR w1 (yi tw)))
  (_: ∀mo mc w1,Rd w1 .u32 (yT mo M mc) (Dg.dg 4294967296 M)→yC 47 #[yT mo M mc,yi mt] w1 (NmR w1 Ksh)),
  yC 59 #[.agg #[.bool ng,.string ds,yi p]] w (RtR w ng Ksh 1 ex))∧
  (∀(ng:Bool) (ds:ByteArray) (p np tw mt ex:Int) (N F M Ksh:Nat) (w:World) (_:0< (Dg.dg 4294967296 N).length) (_:IntKind.i64.wrap (-tw)=mt) (_:IntKind.i64.wrap (p+tw)=ex) (_: ¬0<p) (_:IntKind.i64.wrap (-p)=np)
  (_: ∀w1,yC 125 #[.string ds] w1 (NmR w1 N))
  (_: ∀xo xc w1,Rd w1 .u32 (yT xo N xc) (Dg.dg 4294967296 N)→yC 126 #[yT xo N xc,yi np] w1 (TwR w1 M F))
  (_: ∀mo mc w1,yB w w1→Rd w1 .u32 (yT mo M mc) (Dg.dg 4294967296 M)→yC 127 #[yT mo M mc] w1 (yR w1 (yi tw)))
  (_: ∀mo mc w1,Rd w1 .u32 (yT mo M mc) (Dg.dg 4294967296 M)→yC 47 #[yT mo M mc,yi mt] w1 (NmR w1 Ksh)),
  yC 59 #[.agg #[.bool ng,.string ds,yi p]] w (RtR w ng Ksh F ex)):=by
 refine⟨?_, ?_⟩;have _z:Mgk 0:=mgkI 0
 all_goals
  first| (rename Mgk 0=>_z;intro ng ds p tw mt ex N F M Ksh w h0 hmt hex hp HD HF HT HW HS)| (intro ng ds p np tw mt ex N F M Ksh w h0 hmt hex hp hnp HD HR HW HS)
  replace HD:Hid _:=HD
  first| (rename Mgk 0=>_z;replace HF:Hid _:=HF;replace HT:Hid _:=HT)| (replace HR:Hid _:=HR)
  replace HW:Hid _:=HW;replace HS:Hid _:=HS;obtain⟨W4,hW5,q1,q2,b3⟩:=iG w [.bool ng,.string ds,yi p] 133 (yrL false yN yN 0) 77;replace hW5:Hid _:=hW5
  go_enter func59,ntmps59
  go_upto_region 1 with fail
  rw[hW5.out];clear hW5;have c6:=q1.c 1 rfl
  go_wp2_with fail
  refine(HD.out _).mono ?_;rintro zz w7 ⟨v1x9,rfl,r1x10,bb8⟩;have q11:=q1.l bb8;have q12:=q2.l bb8;have b13:=aa b3 bb8;obtain⟨xo,xc,hv⟩:=r1x10.shape;subst hv;clear q1 q2 b3 bb8 HD c6;have hl16:=q11.lt;have hl17:=q12.lt;have al14:=af w7 (.cells #[.int .u32 1] 116);have q15:=ah w7 [.int .u32 1] 116;have q18:=q11.l al14;have q19:=q12.l al14;have r20:=r1x10.l al14;have b21:=aa b13 al14;have c22:=q18.c 2 rfl
  go_wp2_with fail
  first| (rename Mgk 0=>_z;refine(HF.out _).mono ?_;rintro zz w23 ⟨v1x25,rfl,r1x26,bb24⟩;have q27:=q18.l bb24;have q28:=q19.l bb24;have q29:=q15.l bb24;have r30:=r20.l bb24;have b31:=aa b21 bb24;obtain⟨fo,fc,hv⟩:=r1x26.shape)| (refine(HR.out _ _ _ r20).mono ?_;rintro zz w23 ⟨v1x25,v2x26,rfl,r1x27,r2x28,bb24⟩;have q29:=q18.l bb24;have q30:=q19.l bb24;have r31:=r20.l bb24;have b32:=aa b21 bb24;obtain⟨mo,mc,hv⟩:=r1x27.shape)
  subst hv
  first| (rename Mgk 0=>_z;clear q18 q19 q15 r20 b21 bb24 HF c22 q11 q12 r1x10 b13 al14)| (obtain⟨fo,fc,hv⟩:=r2x28.shape;subst hv;clear q18 q19 q15 r20 b21 bb24 HR c22 q11 q12 r1x10 b13 al14)
  go_wp2_with fail
  first| (rename Mgk 0=>_z;refine(HT.out _ _ _ _ _ r30 r1x26).mono ?_;rintro zz w32 ⟨v1x34,rfl,r1x35,bb33⟩;have q36:=q27.l bb33;have q37:=q28.l bb33;have q38:=q29.l bb33;have r39:=r30.l bb33;have r40:=r1x26.l bb33;have b41:=aa b31 bb33;obtain⟨mo,mc,hv⟩:=r1x35.shape;subst hv;clear q27 q28 q29 r30 r1x26 b31 bb33 HT;go_wp2_with fail;refine(HW.out _ _ _ b41 r1x35).mono ?_;rintro zz w42 ⟨rfl,bb43⟩;have q44:=q36.l bb43;have q45:=q37.l bb43;have q46:=q38.l bb43;have r47:=r39.l bb43;have r48:=r40.l bb43;have r49:=r1x35.l bb43;have b50:=aa b41 bb43;clear q36 q37 q38 r39 r40 r1x35 b41 bb43 HW)| (refine(HW.out _ _ _ b32 r1x27).mono ?_;rintro zz w33 ⟨rfl,bb34⟩;have q35:=q29.l bb34;have q36:=q30.l bb34;have r37:=r31.l bb34;have r38:=r1x27.l bb34;have r39:=r2x28.l bb34;have b40:=aa b32 bb34;clear q29 q30 r31 r1x27 r2x28 b32 bb34 HW)
  go_upto_region 8 with fail
  first| (rename Mgk 0=>_z;have bW51:yB w42 w42.drew:=(Below.refl _ _).drew;have q52:=q44.l bW51;have q53:=q45.l bW51;have q54:=q46.l bW51;have r55:=r47.l bW51;have r56:=r48.l bW51;have r57:=r49.l bW51;have b58:=aa b50 bW51;clear q44 q45 q46 r47 r48 r49 b50 bW51;refine wp_region_held_drew (S:=fun wq=>au wq w.heap.size 133 [.bool ng,.string ds,yi p]) (by kernel_rfl) q52 (fun hS0=> ?_);generalize w42.drew=WD59 at q52 q53 q54 r55 r56 r57 b58 hS0⊢)| (have bW41:yB w33 w33.drew:=(Below.refl _ _).drew;have q42:=q35.l bW41;have q43:=q36.l bW41;have r44:=r37.l bW41;have r45:=r38.l bW41;have r46:=r39.l bW41;have b47:=aa b40 bW41;clear q35 q36 r37 r38 r39 b40 bW41;refine wp_region_held_drew (S:=fun wq=>au wq w.heap.size 133 [.bool ng,.string ds,yi p]) (by kernel_rfl) q42 (fun hS0=> ?_);generalize w33.drew=WD48 at q42 q43 r44 r45 r46 b47 hS0⊢)
  refine tq 0 (.pointer (some ⟨w.heap.size,0,none⟩)) rfl (fun _ _=>by kernel_rfl) hS0 ?_
  refine tq 1 (.bool ng) rfl (fun _ hw0=>gU 4 (.tmp 35) rfl w.heap.size 0 (by kernel_rfl) _ _ underlying4 rfl (hw0.c 0 rfl)) hS0 ?_
  refine tq 2 (yT mo M mc) rfl (fun _ _=>by kernel_rfl) hS0 ?_
  refine tq 3 (yi tw) rfl (fun _ _=>by kernel_rfl) hS0 ?_
  refine tq 4 (yi mt) rfl (fun _ _=>by go_simp) hS0 ?_
  first| (rename Mgk 0=>_z;refine tk 6 (.slice (some ⟨w7.heap.size,0,none⟩) 1 1) rfl (by kernel_rfl) (fun _ _ _ h=>h) (fun _ _=>by kernel_rfl) hS0 ?_)| (refine tk 6 (yT fo F fc) rfl (by kernel_rfl) (fun _ _ _ h=>h) (fun _ _=>by kernel_rfl) hS0 ?_)
  refine tq 7 (.pointer (some ⟨w.heap.size,2,none⟩)) rfl (fun _ _=>by kernel_rfl) hS0 ?_
  refine tq 8 (yi p) rfl (fun _ hw0=>gU 3 (.tmp 42) rfl w.heap.size 2 (by kernel_rfl) _ _ underlying3 rfl (hw0.c 2 rfl)) hS0 ?_
  refine tq 9 (yi tw) rfl (fun _ _=>by kernel_rfl) hS0 ?_
  refine tq 10 (yi ex) rfl (fun _ _=>by go_simp) hS0 ?_
  refine wpAnyH_ready (rs:=[5]) (by kernel_rfl) (by simp) ?_;refine AllReadyH.cons rfl (fun K hK=> ?_) AllReadyH.nil
  go_simp
  first| (rename Mgk 0=>_z;refine(HS.out _ _ _ r57).mono ?_;rintro zz w60 ⟨v1x62,rfl,r1x63,bb61⟩;have q64:=q52.l bb61;have q65:=q53.l bb61;have q66:=q54.l bb61;have r67:=r55.l bb61;have r68:=r56.l bb61;have r69:=r57.l bb61;have b70:=aa b58 bb61;obtain⟨ko,kc,hv⟩:=r1x63.shape)| (refine(HS.out _ _ _ r45).mono ?_;rintro zz w49 ⟨v1x51,rfl,r1x52,bb50⟩;have q53:=q42.l bb50;have q54:=q43.l bb50;have r55:=r44.l bb50;have r56:=r45.l bb50;have r57:=r46.l bb50;have b58:=aa b47 bb50;obtain⟨ko,kc,hv⟩:=r1x52.shape)
  subst hv
  first| (rename Mgk 0=>_z;clear q52 q53 q54 r55 r56 r57 b58 bb61 HS)| (clear q42 q43 r44 r45 r46 b47 bb50 HS)
  first| (rename Mgk 0=>_z;refine hK.out _ _ q64 (fun hS71=> ?_))| (refine hK.out _ _ q53 (fun hS59=> ?_))
  clear hK K
  first| (rename Mgk 0=>_z;refine tk 11 (yrV ng (yT ko Ksh kc) (.slice (some ⟨w7.heap.size,0,none⟩) 1 1) ex) rfl (by kernel_rfl) (fun _ _ _ h=>h) (fun _ _=>by kernel_rfl) hS71 ?_)| (refine tk 11 (yrV ng (yT ko Ksh kc) (yT fo F fc) ex) rfl (by kernel_rfl) (fun _ _ _ h=>h) (fun _ _=>by kernel_rfl) hS59 ?_)
  refine wpAnyH_ready (rs:=[12]) (by kernel_rfl) (by simp) ?_;refine AllReadyH.cons rfl (fun K hK=> ?_) AllReadyH.nil
  first| (rename Mgk 0=>_z;have bu:But (w.heap.size+1) w60 (w60.setCells (w.heap.size+1) 0 (yrL ng (yT ko Ksh kc) (.slice (some ⟨w7.heap.size,0,none⟩) 1 1) ex)):=de _ _ _ _;have hth:w60.there (w.heap.size+1) 0 4:=dD q65;have q72:au (w60.setCells (w.heap.size+1) 0 (yrL ng (yT ko Ksh kc) (.slice (some ⟨w7.heap.size,0,none⟩) 1 1) ex)) (w.heap.size+1) 77 (yrL ng (yT ko Ksh kc) (.slice (some ⟨w7.heap.size,0,none⟩) 1 1) ex):=q65.sets _ rfl;have r73:=bu.rd r67 (aX r67 q65 (by simp));have r74:=bu.rd r68 (aX r68 q65 (by simp));have r75:=bu.rd r69 (aX r69 q65 (by simp));have r76:=bu.rd r1x63 (aX r1x63 q65 (by simp));have q77:=bu.loc q64 (by omega);have q78:=bu.loc q66 (by omega);have b79:=bu.below b70 (by omega))| (have bu:But (w.heap.size+1) w49 (w49.setCells (w.heap.size+1) 0 (yrL ng (yT ko Ksh kc) (yT fo F fc) ex)):=de _ _ _ _;have hth:w49.there (w.heap.size+1) 0 4:=dD q54;have q60:au (w49.setCells (w.heap.size+1) 0 (yrL ng (yT ko Ksh kc) (yT fo F fc) ex)) (w.heap.size+1) 77 (yrL ng (yT ko Ksh kc) (yT fo F fc) ex):=q54.sets _ rfl;have r61:=bu.rd r55 (aX r55 q54 (by simp));have r62:=bu.rd r56 (aX r56 q54 (by simp));have r63:=bu.rd r57 (aX r57 q54 (by simp));have r64:=bu.rd r1x52 (aX r1x52 q54 (by simp));have q65:=bu.loc q53 (by omega);have b66:=bu.below b58 (by omega))
  rw[if_pos (by kernel_rfl)]
  first| (rename Mgk 0=>_z;refine wp_store_mid 77 (.tmp 2) (.tmp 46) rfl (w.heap.size+1) 0 (yrA ng (yT ko Ksh kc) (.slice (some ⟨w7.heap.size,0,none⟩) 1 1) ex) (by kernel_rfl) (by kernel_rfl) hth (by kernel_rfl) (by simp[Value.oneCell']) ?_)| (refine wp_store_mid 77 (.tmp 2) (.tmp 46) rfl (w.heap.size+1) 0 (yrA ng (yT ko Ksh kc) (yT fo F fc) ex) (by kernel_rfl) (by kernel_rfl) hth (by kernel_rfl) (by simp[Value.oneCell']) ?_)
  first| (rename Mgk 0=>_z;refine hK.out _ _ q77 (fun hS80=> ?_))| (refine hK.out _ _ q65 (fun hS67=> ?_))
  clear hK K
  first| (rename Mgk 0=>_z;clear q65 r67 r68 r69 r1x63 q64 q66 b70 bu hth)| (clear q54 r55 r56 r57 r1x52 q53 b58 bu hth)
  refine wpAnyH_done (by kernel_rfl) ?_ _
  first| (rename Mgk 0=>_z;clear hS0 hS71 hS80)| (clear hS0 hS59 hS67)
  first| (rename Mgk 0=>_z;change Exit.then _ _ _ _ (World.setCells w60 (w.heap.size+1) 0 (yrL ng (yT ko Ksh kc) (.slice (some ⟨w7.heap.size,0,none⟩) 1 1) ex)))| (change Exit.then _ _ _ _ (World.setCells w49 (w.heap.size+1) 0 (yrL ng (yT ko Ksh kc) (yT fo F fc) ex)))
  first| (rename Mgk 0=>_z;generalize World.setCells w60 (w.heap.size+1) 0 (yrL ng (yT ko Ksh kc) (.slice (some ⟨w7.heap.size,0,none⟩) 1 1) ex)=W81 at q77 q72 q78 r73 r74 r75 r76 b79⊢)| (generalize World.setCells w49 (w.heap.size+1) 0 (yrL ng (yT ko Ksh kc) (yT fo F fc) ex)=W68 at q65 q60 r61 r62 r63 r64 b66⊢)
  simp only[Act.put,List.getElem_toArray,List.getElem_cons_succ,List.getElem_cons_zero]
  first| (rename Mgk 0=>_z;have hl:=run_loadVar_mid (P:=Tryz.prog) _ (w.heap.size+1) 0 77 (yrL ng (yT ko Ksh kc) (.slice (some ⟨w7.heap.size,0,none⟩) 1 1) ex) _ q72.range underlying77 rfl (by kernel_rfl))| (have hl:=run_loadVar_mid (P:=Tryz.prog) _ (w.heap.size+1) 0 77 (yrL ng (yT ko Ksh kc) (yT fo F fc) ex) _ q60.range underlying77 rfl (by kernel_rfl))
  go_wp2
  first| (rename Mgk 0=>_z;exact bodyPost_ret (br results59 rfl hl) rfl ⟨_,_,rfl,r76,rd_one1 (q78.c 0 rfl),b79⟩)| (exact bodyPost_ret (br results59 rfl hl) rfl ⟨_,_,rfl,r64,r63,b66⟩)
theorem tdecOf_t_mg:
  (∀(xg:Bool) (xn wh hv hw:Nat) (xo:Option Addr) (xc:Nat) (e bl bm be gs up p1 p2 p3:Int) (ds:ByteArray) (w:World) (_:Rd w .u32 (yT xo xn xc) (Dg.dg 4294967296 xn)) (_:IntKind.i64.wrap (bl-1)=bm) (_:IntKind.i64.wrap (bm+e)=be) (_:IntKind.i64.wrap (60-gs)=up) (_:IntKind.i64.wrap (gs+(ds.size:Int))=p1) (_:IntKind.i64.wrap (p1-1)=p2) (_:IntKind.i64.wrap (p2-60)=p3)
  (_: ∀xo xc w1,Rd w1 .u32 (yT xo xn xc) (Dg.dg 4294967296 xn)→yC 44 #[yT xo xn xc] w1 (yR w1 (yi bl)))
  (_:yJ 43 #[yi be] (yi gs))
  (_: ∀xo xc w1,yB w w1→Rd w1 .u32 (yT xo xn xc) (Dg.dg 4294967296 xn)→yC 45 #[ydV xg (yT xo xn xc) e,yi up] w1 (NbR w1 wh true))
  (_: ∀vo vc w1,Rd w1 .u32 (yT vo wh vc) (Dg.dg 4294967296 wh)→yC 46 #[yT vo wh vc] w1 (yR w1 (.string ds)))
  (_: ∀vo vc w1,Rd w1 .u32 (yT vo wh vc) (Dg.dg 4294967296 wh)→yC 47 #[yT vo wh vc,yi 1] w1 (NmR w1 hv))
  (_: ∀ho hc q w1,Rd w1 .u32 (yT ho hv hc) (Dg.dg 4294967296 hv)→au w1 q 116 [.int .u32 1]→yC 48 #[yT ho hv hc,.slice (some ⟨q,0,none⟩) 1 1] w1 (NmR w1 hw)),
  yC 25 #[ydV xg (yT xo xn xc) e] w (DcR w xg hw (ds.size:Int) p3))∧
  (∀(xg:Bool) (xn wh hv:Nat) (xo:Option Addr) (xc:Nat) (e bl bm be gs up p1 p2 p3:Int) (ds:ByteArray) (w:World) (_:Rd w .u32 (yT xo xn xc) (Dg.dg 4294967296 xn)) (_:IntKind.i64.wrap (bl-1)=bm) (_:IntKind.i64.wrap (bm+e)=be) (_:IntKind.i64.wrap (60-gs)=up) (_:IntKind.i64.wrap (gs+(ds.size:Int))=p1) (_:IntKind.i64.wrap (p1-1)=p2) (_:IntKind.i64.wrap (p2-60)=p3)
  (_: ∀xo xc w1,Rd w1 .u32 (yT xo xn xc) (Dg.dg 4294967296 xn)→yC 44 #[yT xo xn xc] w1 (yR w1 (yi bl)))
  (_:yJ 43 #[yi be] (yi gs))
  (_: ∀xo xc w1,yB w w1→Rd w1 .u32 (yT xo xn xc) (Dg.dg 4294967296 xn)→yC 45 #[ydV xg (yT xo xn xc) e,yi up] w1 (NbR w1 wh false))
  (_: ∀vo vc w1,Rd w1 .u32 (yT vo wh vc) (Dg.dg 4294967296 wh)→yC 46 #[yT vo wh vc] w1 (yR w1 (.string ds)))
  (_: ∀vo vc w1,Rd w1 .u32 (yT vo wh vc) (Dg.dg 4294967296 wh)→yC 47 #[yT vo wh vc,yi 1] w1 (NmR w1 hv)),
  yC 25 #[ydV xg (yT xo xn xc) e] w (DcR w xg hv (ds.size:Int) p3)):=by
 refine⟨?_, ?_⟩;have _z:Mgk 0:=mgkI 0
 all_goals
  first| (rename Mgk 0=>_z;intro xg xn wh hv hw xo xc e bl bm be gs up p1 p2 p3 ds w rx h1 h2 h3 h4 h5 h6 HB HP HC HD HS HA)| (intro xg xn wh hv xo xc e bl bm be gs up p1 p2 p3 ds w rx h1 h2 h3 h4 h5 h6 HB HP HC HD HS)
  replace HB:Hid _:=HB;replace HP:Hid _:=HP;replace HC:Hid _:=HC;replace HD:Hid _:=HD;replace HS:Hid _:=HS
  first| (rename Mgk 0=>_z;replace HA:Hid _:=HA)|skip
  obtain⟨W4,hW5,q1,q2,b3⟩:=iG w (ydL xg (yT xo xn xc) e) 59 [.bool false,yN,yi 0,yi 0] 66;replace hW5:Hid _:=hW5;have r6:=rx.l b3;clear rx
  go_enter func25,ntmps25
  go_upto_region 1 with fail
  rw[hW5.out];clear hW5
  go_upto_region 1 with fail
  have bW7:yB W4 W4.drew:=(Below.refl _ _).drew;have q8:=q1.l bW7;have q9:=q2.l bW7;have r10:=r6.l bW7;have b11:=aa b3 bW7;clear q1 q2 r6 b3 bW7;refine wp_region_held_drew (S:=fun wq=>au wq w.heap.size 59 (ydL xg (yT xo xn xc) e)) (by kernel_rfl) q8 (fun hS0=> ?_)
  generalize W4.drew=WD12 at q8 q9 r10 b11 hS0⊢;refine tq 0 (.pointer (some ⟨w.heap.size,1,none⟩)) rfl (fun _ _=>by kernel_rfl) hS0 ?_
  refine tq 1 (yT xo xn xc) rfl (fun _ hw0=>gU 55 (.tmp 8) rfl w.heap.size 1 (by kernel_rfl) _ _ underlying55 rfl (hw0.c 1 rfl)) hS0 ?_
  refine tq 4 (.pointer (some ⟨w.heap.size,2,none⟩)) rfl (fun _ _=>by kernel_rfl) hS0 ?_
  refine tq 5 (yi e) rfl (fun _ hw0=>gU 3 (.tmp 12) rfl w.heap.size 2 (by kernel_rfl) _ _ underlying3 rfl (hw0.c 2 rfl)) hS0 ?_
  refine wpAnyH_ready (rs:=[2]) (by kernel_rfl) (by simp) ?_;refine AllReadyH.cons rfl (fun K hK=> ?_) AllReadyH.nil
  go_simp
  refine(HB.out _ _ _ r10).mono ?_;rintro zz w13 ⟨rfl,bb14⟩;have q15:=q8.l bb14;have q16:=q9.l bb14;have r17:=r10.l bb14;have b18:=aa b11 bb14;clear q8 q9 r10 b11 bb14 HB;refine hK.out _ _ q15 (fun hS19=> ?_)
  clear hK K;refine tq 3 (yi bm) rfl (fun _ _=>by go_simp) hS19 ?_
  refine tq 6 (yi be) rfl (fun _ _=>by go_simp) hS19 ?_
  refine wpAnyH_ready (rs:=[7]) (by kernel_rfl) (by simp) ?_;refine AllReadyH.cons rfl (fun K hK=> ?_) AllReadyH.nil
  go_simp
  refine(HP.out _).mono ?_;rintro zz w20 ⟨rfl,bb21⟩;have q22:=q15.l bb21;have q23:=q16.l bb21;have r24:=r17.l bb21;have b25:=aa b18 bb21;clear q15 q16 r17 b18 bb21 HP;refine hK.out _ _ q22 (fun hS26=> ?_)
  clear hK K;refine tq 8 (yi gs) rfl (fun _ _=>by kernel_rfl) hS26 ?_
  refine wpAnyH_done (by kernel_rfl) ?_ _;clear hS0 hS19 hS26;simp only[Act.put,List.getElem_toArray,List.getElem_cons_succ,List.getElem_cons_zero,List.setIfInBounds_toArray,List.set_cons_zero,List.set_cons_succ];obtain⟨c27,c28,c29⟩:=q22.cs3
  go_wp2_with fail
  refine(HC.out _ _ _ b25 r24).mono ?_;rintro zz w30 ⟨v1x32,rfl,r1x33,bb31⟩;have q34:=q22.l bb31;have q35:=q23.l bb31;have r36:=r24.l bb31;have b37:=aa b25 bb31;obtain⟨vo,vc,hv⟩:=r1x33.shape;subst hv;clear q22 q23 r24 b25 bb31 HC c27 c28 c29
  go_wp2_with fail
  refine(HD.out _ _ _ r1x33).mono ?_;rintro zz w38 ⟨rfl,bb39⟩;have q40:=q34.l bb39;have q41:=q35.l bb39;have r42:=r36.l bb39;have r43:=r1x33.l bb39;have b44:=aa b37 bb39;clear q34 q35 r36 r1x33 b37 bb39 HD
  go_wp2_with fail
  refine(HS.out _ _ _ r43).mono ?_;rintro zz w45 ⟨v1x47,rfl,r1x48,bb46⟩;have q49:=q40.l bb46;have q50:=q41.l bb46;have r51:=r42.l bb46;have r52:=r43.l bb46;have b53:=aa b44 bb46;obtain⟨ho,hc,hv⟩:=r1x48.shape;subst hv;clear q40 q41 r42 r43 b44 bb46 HS
  first| (rename Mgk 0=>_z;have hl56:=q49.lt;have hl57:=q50.lt;have al54:=af w45 (.cells #[.int .u32 1] 116);have q55:=ah w45 [.int .u32 1] 116;have q58:=q49.l al54;have q59:=q50.l al54;have r60:=r51.l al54;have r61:=r52.l al54;have r62:=r1x48.l al54;have b63:=aa b53 al54;go_wp2_with fail;refine(HA.out _ _ _ _ r62 q55).mono ?_;rintro zz w64 ⟨v1x66,rfl,r1x67,bb65⟩;have q68:=q58.l bb65;have q69:=q59.l bb65;have r70:=r60.l bb65;have r71:=r61.l bb65;have r72:=r62.l bb65;have b73:=aa b63 bb65;obtain⟨ko,kc,hv⟩:=r1x67.shape;subst hv;clear q58 q59 q55 r60 r61 r62 b63 bb65 HA q49 q50 r51 r52 r1x48 b53 al54;have c74:=q68.c 0 rfl;have hf:=afz (P:=Tryz.prog) q69 b73 (by omega) underlying66 rfl (by kernel_rfl) (.bool xg) (yT ko hw kc) (yi (ds.size:Int)) (yi p3);have HH:Hid (_∧_∧_):=⟨hf.1,hf.2.2.rd r1x67 (aX r1x67 q69 (by simp)),hf.2.1⟩;obtain⟨⟨z0,z1,z2,z3⟩,y0,y1,y2,y3⟩:=afB q69;clear hf q68 q69 r70 r71 r72 r1x67 b73)| (have c54:=q49.c 0 rfl;have hf:=afz (P:=Tryz.prog) q50 b53 (by omega) underlying66 rfl (by kernel_rfl) (.bool xg) (yT ho hv hc) (yi (ds.size:Int)) (yi p3);have HH:Hid (_∧_∧_):=⟨hf.1,hf.2.2.rd r1x48 (aX r1x48 q50 (by simp)),hf.2.1⟩;obtain⟨⟨z0,z1,z2,z3⟩,y0,y1,y2,y3⟩:=afB q50;clear hf q49 q50 r51 r52 r1x48 b53)
  go_wp2
  first| (rename Mgk 0=>_z;obtain⟨hl,rRk,bR⟩:=HH.out)| (obtain⟨hl,rRh,bR⟩:=HH.out)
  first| (rename Mgk 0=>_z;exact bodyPost_ret (br results25 rfl hl) rfl ⟨_,rfl,rRk,bR⟩)| (exact bodyPost_ret (br results25 rfl hl) rfl ⟨_,rfl,rRh,bR⟩)
theorem mL.l {w w':World}{b:Nat}{v0 v1 v2 v3 v4 v5:Value}(h:mL w b v0 v1 v2 v3 v4 v5)(hb:yB w w'):mL w' b v0 v1 v2 v3 v4 v5:=by
 obtain⟨hl,⟨c0,c1,c2,c3,c4,c5⟩,f0,f1,f2,f3,f4,f5⟩:=h;refine⟨Nat.lt_of_lt_of_le hl hb.size,⟨cell_later hb c0,cell_later hb c1,cell_later hb c2,cell_later hb c3,cell_later hb c4,cell_later hb c5⟩, ?_, ?_, ?_, ?_, ?_, ?_⟩
 all_goals rw[hb.frozen (by exact hl)];assumption
theorem ZB6.l {w w':World}{b:Nat}(h:ZB6 w b)(hb:yB w w'):ZB6 w' b:=by
 obtain⟨hl,ty,hh⟩:=h;exact⟨Nat.lt_of_lt_of_le hl hb.size,ty,(hb.block b hl).trans hh⟩
theorem Ag.l {W W':World}{base:Nat}{v:Value}(h:Ag W base v)(hb:yB W W'):Ag W' base v:=by
 obtain⟨p,h1,h2,h3⟩:=h;exact⟨p,h1,h2,h3.l hb⟩
theorem ov_any (m d:Nat)(o:Option Addr)(k:Nat)(o2:Option Addr)(k2:Nat)(w1:World)(hl:(Dg.dg 4294967296 m).length≤900000)(hd:d≠0)(h1:Rd w1 .u32 (yT o m k) (Dg.dg 4294967296 m))(h2:Rd w1 .u32 (yT o2 d k2) (Dg.dg 4294967296 d)):yC 50 #[yT o m k,yT o2 d k2] w1 (TwR w1 (m/d) (m % d)):=by
 have:=A9 _ _ _ _ w1 h1 h2 (Dg.small_dg _ _ (by omega)) (Dg.small_dg _ _ (by omega)) (Dg.norm_dg _ _ (by omega)) (Dg.norm_dg _ _ (by omega)) (fun c=>hd ((Dg.dg_nil_iff 4294967296 _ (by omega)).1 c)) hl
 rw[Dg.vl_dg _ _ (by omega),Dg.vl_dg _ _ (by omega)] at this;exact this.mono fun _ _ h=>two_tw h
end Go.Proofs.YtdhpndnncmagiaaGreatDoor
