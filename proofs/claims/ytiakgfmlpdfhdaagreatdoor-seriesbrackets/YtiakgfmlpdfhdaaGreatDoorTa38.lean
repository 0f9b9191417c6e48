/-
  Texts laid together: Dy3, Sp3.
-/
import Derived.Test.YtiakgfmlpdfhdaaGreatDoorTa32
import Derived.Test.YtiakgfmlpdfhdaaGreatDoorTa33
import Derived.Test.YtiakgfmlpdfhdaaGreatDoorTa34
import Derived.Test.YtiakgfmlpdfhdaaGreatDoorTa35
set_option maxRecDepth 100000
set_option maxHeartbeats 1600000
namespace Go.Proofs.YtiakgfmlpdfhdaaGreatDoor
open _root_.Go.Proofs.Tryz
open Go.RowKit
theorem kL (v:Value)(t:ak)(w:World)(hv:Dv w v t)(hL:(Dg.dg 4294967296 t.n).length≤500000)(he: -1000000≤t.e∧t.e≤1000000)(hT:Tab w)(htz:tz t.n≤1000000):
  yC 84 #[v] w (gR w (bU t)):=by
 have HB:Hid (∀w1,yB w w1→yC 102 #[v] w1 (jN w1 (bare t))):=fun w1 b1=>II v t w1 (hv.l b1) hL he (hT.l b1) htz
 obtain⟨s0,rfl,hr⟩:=hv;obtain⟨ao,ca,rfl⟩:=hr.shape;obtain⟨ts,n,e⟩:=t;simp only at hr hL he htz⊢HB;obtain⟨m,hm⟩: ∃m,(Dg.dg 4294967296 n).length=m:=⟨_,rfl⟩;rw[hm] at HB⊢;obtain⟨⟨bs,bn,be⟩,hbt⟩: ∃bt,bare ⟨ts,n,e⟩=bt:=⟨_,rfl⟩;unfold bU;rw[hbt] at HB⊢;simp only at HB⊢;clear hbt hm hr hL he htz hT;have l1:=(aA w (.bool ts) (.slice ao m ca) (yi e) 54).l (af _ (.cells (ydA false yN 0) 25));have l2:=aA (w.alloc (.cells (ydA ts (.slice ao m ca) e) 54)) (.bool false) yN (yi 0) 25;have bA:=aa (af w (.cells (ydA ts (.slice ao m ca) e) 54)) (af _ (.cells (ydA false yN 0) 25));rw[World.size_alloc] at l2
 by_cases h1:1200< (Dg.dg 4294967296 bn).length
 ·rw[if_pos h1]
  go_enter func84,ntmps84
  go_wp2_with fail
  refine(HB.out _ bA).mono ?_;rintro x w1 ⟨s,rfl,own1,b1⟩;have l1:=l1.l b1;have l2:=l2.l b1;have b01:=aa bA b1;rw[World.size_alloc,World.size_alloc] at own1;obtain⟨so,sc,hs⟩:=own1.rd.shape;subst hs;obtain⟨hl1,⟨c0,c1,c2⟩,f0,f1,f2⟩:=id l1;obtain⟨hl2,⟨d0,d1,d2⟩,k0,k1,k2⟩:=id l2;clear bA b1 HB
  go_wp2
  obtain⟨-,⟨g0,g1,g2⟩,-⟩:=aD (l2.apart (c:=w.heap.size) (by omega) (.bool bs) (yT so bn sc) (yi be)) (.bool false) yN (yi 0);have b2:=am (am b01 (Nat.le_refl _) (.bool bs) (yT so bn sc) (yi be)) (show w.heap.size≤w.heap.size+1 by omega) (.bool false) yN (yi 0)
  refine bodyPost_ret (v:= .tuple #[.agg #[(.bool false),yN,(yi 0)],yi 2]) (by simp[results,results84,go_sem,g0,g1,g2]) rfl ?_;exact⟨_,rfl,aQ _ _ _ _,b2⟩
 ·rw[if_neg h1]
  by_cases h2:be< -20000
  ·rw[if_pos (Or.inl h2)]
   go_enter func84,ntmps84
   go_wp2_with fail
   refine(HB.out _ bA).mono ?_;rintro x w1 ⟨s,rfl,own1,b1⟩;have l1:=l1.l b1;have l2:=l2.l b1;have b01:=aa bA b1;rw[World.size_alloc,World.size_alloc] at own1;obtain⟨so,sc,hs⟩:=own1.rd.shape;subst hs;obtain⟨hl1,⟨c0,c1,c2⟩,f0,f1,f2⟩:=id l1;obtain⟨hl2,⟨d0,d1,d2⟩,k0,k1,k2⟩:=id l2;clear bA b1 HB
   go_wp2
   obtain⟨-,⟨g0,g1,g2⟩,-⟩:=aD (l2.apart (c:=w.heap.size) (by omega) (.bool bs) (yT so bn sc) (yi be)) (.bool false) yN (yi 0);have b2:=am (am b01 (Nat.le_refl _) (.bool bs) (yT so bn sc) (yi be)) (show w.heap.size≤w.heap.size+1 by omega) (.bool false) yN (yi 0)
   refine bodyPost_ret (v:= .tuple #[.agg #[(.bool false),yN,(yi 0)],yi 3]) (by simp[results,results84,go_sem,g0,g1,g2]) rfl ?_;exact⟨_,rfl,aQ _ _ _ _,b2⟩
  ·by_cases h3:20000<be
   ·rw[if_pos (Or.inr h3)]
    go_enter func84,ntmps84
    go_wp2_with fail
    refine(HB.out _ bA).mono ?_;rintro x w1 ⟨s,rfl,own1,b1⟩;have l1:=l1.l b1;have l2:=l2.l b1;have b01:=aa bA b1;rw[World.size_alloc,World.size_alloc] at own1;obtain⟨so,sc,hs⟩:=own1.rd.shape;subst hs;obtain⟨hl1,⟨c0,c1,c2⟩,f0,f1,f2⟩:=id l1;obtain⟨hl2,⟨d0,d1,d2⟩,k0,k1,k2⟩:=id l2;clear bA b1 HB
    go_wp2
    obtain⟨-,⟨g0,g1,g2⟩,-⟩:=aD (l2.apart (c:=w.heap.size) (by omega) (.bool bs) (yT so bn sc) (yi be)) (.bool false) yN (yi 0);have b2:=am (am b01 (Nat.le_refl _) (.bool bs) (yT so bn sc) (yi be)) (show w.heap.size≤w.heap.size+1 by omega) (.bool false) yN (yi 0)
    refine bodyPost_ret (v:= .tuple #[.agg #[(.bool false),yN,(yi 0)],yi 3]) (by simp[results,results84,go_sem,g0,g1,g2]) rfl ?_;exact⟨_,rfl,aQ _ _ _ _,b2⟩
   ·rw[if_neg (by omega)]
    go_enter func84,ntmps84
    go_wp2_with fail
    refine(HB.out _ bA).mono ?_;rintro x w1 ⟨s,rfl,own1,b1⟩;have l1:=l1.l b1;have l2:=l2.l b1;have b01:=aa bA b1;rw[World.size_alloc,World.size_alloc] at own1;obtain⟨so,sc,hs⟩:=own1.rd.shape;subst hs;obtain⟨hl1,⟨c0,c1,c2⟩,f0,f1,f2⟩:=id l1;obtain⟨hl2,⟨d0,d1,d2⟩,k0,k1,k2⟩:=id l2;clear bA b1 HB
    go_wp2
    obtain⟨-,⟨g0,g1,g2⟩,-⟩:=aD (l2.apart (c:=w.heap.size) (by omega) (.bool bs) (yT so bn sc) (yi be)) (.bool bs) (yT so bn sc) (yi be);have own2:=(own1.apart3 (b:=w.heap.size) (by omega) (.bool bs) (yT so bn sc) (yi be)).apart3 (b:=w.heap.size+1) (by omega) (.bool bs) (yT so bn sc) (yi be);have b2:=am (am b01 (Nat.le_refl _) (.bool bs) (yT so bn sc) (yi be)) (show w.heap.size≤w.heap.size+1 by omega) (.bool bs) (yT so bn sc) (yi be)
    refine bodyPost_ret (v:= .tuple #[.agg #[(.bool bs),(yT so bn sc),(yi be)],yi 0]) (by simp[results,results84,go_sem,g0,g1,g2]) rfl ?_;exact⟨_,rfl,own2.lower (by omega),b2⟩
theorem told_pi_any (x y:ak)(b c q B:Nat)(w:World)(hb:10≤b∧b≤1000)(hT:Tab w)(fx:FitsT x)(fy:FitsT y)(ex: -((b+64:Nat):Int)≤x.e)(ey: -((b+64:Nat):Int)≤y.e)
  (c1:2^b≤2*c) (c2:c<2^b) (h1:((c*2^q:Nat):Int)≤V (b+64) x) (h2:V (b+64) x≤V (b+64) y) (h3:V (b+64) y< (((c+1)*2^q:Nat):Int)) (hB:(c+1)*2^q≤2^B) (hB2:B≤9000)
  (HK: ∀w1,yB w w1→yC 36 #[yi ((b+64:Nat):Int)] w1 (aeT w1 x y)):
  yC 35 #[yi b,.func (.func 36) #[] #[]] w (BRd w (bare (aY x b false)) (bare (aY y b true)) 0):=by
 have hb1:1≤b:=by omega
 have hbI:(1:Int)≤(b:Int):=by omega
 have hw:IntKind.i64.wrap ((b:Int)+64)=((b+64:Nat):Int):=by
  rw[show b+64=((b+64:Nat):Int) by omega]
  exact IntWalk.i64_in _ ⟨by omega,by omega⟩
 obtain⟨sx,sy,gx,gy,hc0⟩:=tell hb1 ex ey c1 c2 h1 h2 h3;obtain⟨u1,u2⟩:=cut_is_c hb1 ex c1 c2 h1 (by omega);obtain⟨v0,v1,v2⟩:=cut_up_c hb1 ey c2 h3;have hpb0:0<2^b:=Nat.pow_pos (by omega);have hcq:0<c*2^q:=Nat.mul_pos (by omega) (Nat.pow_pos (by omega));have hcc:c*2^q≤(c+1)*2^q:=Nat.mul_le_mul_right _ (by omega);have lx:=fx.len;have ly:=fy.len;obtain⟨-,x1,x2⟩:=fx;obtain⟨-,y1,y2⟩:=fy;have nu:=mi x b false hbI;have nv:=mi y b true hbI;rw[Int.toNat_natCast] at nu nv;obtain⟨-,su1,su2,-,su3⟩:=bare_smallS (B:=B) u2 (by omega) (by omega);obtain⟨-,sv1,sv2,-,-⟩:=bare_smallS (B:=B) v2 (by omega) (by omega);have ku:=short_is hb.2 nu (by omega) (by omega);have kv:=short_is hb.2 nv (by omega) (by omega);have lu:=tK (b:=(b:Int)) (up:=false) lx (by omega);have lv:=tK (b:=(b:Int)) (up:=true) ly (by omega);have eu:=WQ (up:=false) lx hbI;have ev:=WQ (up:=true) ly hbI;have zu:=gZ _ _ lu;have zv:=gZ _ _ lv;refine told_pi x y (aY x b false) (aY y b true) _ _ b ((b+64:Nat):Int) 0 w (by omega) (by omega) hw ?_ ?_ ?_
 ·intro pb w1 q1 hl
  refine refine_pi pb x y _ w1 (fun w2 q2=>HK w2 (aa q1 q2)) ?_
  intro xo xc yo yc w2 q2 rx ry;refine toldOk_W pb x y _ _ _ _ b w2 (hl.l q2).range ?_;intro w3 q3;have hT3:=hT.l (aa q1 (aa q2 q3));have rx3:=rx.l q3;have ry3:=ry.l q3;refine spanSame_W x y _ _ _ _ (aY x b false) (aY y b false) b w3 ?_ ?_ ?_ ?_
  ·intro w4 q4
   refine signs_pos x y _ _ _ _ w4 (fun w5 q5=> ?_) (fun w5 q5=> ?_)
   ·have:=qB _ x w5 ⟨_,rfl,(rx3.l q4).l q5⟩
    rwa [gx] at this
   ·have:=qB _ y w5 ⟨_,rfl,(ry3.l q4).l q5⟩
    rwa [gy] at this
  ·intro w4 q4
   have:=Ij _ x b x.s w4 ⟨_,rfl,rx3.l q4⟩ (by omega) (by omega) (by omega) hbI (by omega) (hT3.l q4);rw[show aY x b x.s=aY x b false by rw[sx]] at this
   exact this
  ·intro w4 q4
   have:=Ij _ y b y.s w4 ⟨_,rfl,ry3.l q4⟩ (by omega) (by omega) (by omega) hbI (by omega) (hT3.l q4);rw[show aY y b y.s=aY y b false by rw[sy]] at this
   exact this
  ·intro po pc qo qc w4 q4 rp rq
   have l2:=tK (b:=(b:Int)) (up:=false) ly (by omega);have e2:=WQ (up:=false) ly hbI;obtain⟨-,p2⟩:=cut_is_c hb1 ey c1 c2 (by omega) h3;obtain⟨-,t1,t2,-,t3⟩:=bare_smallS (B:=B) p2 (by have:=(cut_is_c hb1 ey c1 c2 (by omega) h3).1;omega) (by have:=(cut_is_c hb1 ey c1 c2 (by omega) h3).1;omega);have:=iE _ _ (aY x b false) (aY y b false) w4 ⟨_,rfl,rp⟩ ⟨_,rfl,rq⟩ (by omega) (by omega) (by omega) (cut_e_le su2 (by omega) su3) (by omega) (cut_e_le t2 (by omega) t3)
   rwa [hc0] at this
 ·intro xo xc yo yc w1 q1 rx ry
  exact Nt x.s xo xc _ x.e y.s yo yc _ y.e b _ _ w1
   (fun w2 q2=>Ij _ x b false w2 ⟨_,rfl,rx.l q2⟩ (by omega) (by omega) (by omega) hbI (by omega) (hT.l (aa q1 q2)))
   (fun w2 q2=>Ij _ y b true w2 ⟨_,rfl,ry.l q2⟩ (by omega) (by omega) (by omega) hbI (by omega) (hT.l (aa q1 q2)))
 ·intro uo uc vo vc w1 q1 ru rv
  have h:=Hu _ uo uc _ _ _ vo vc _ _ _ _ w1
   (fun w2 q2=>kL _ (aY x b false) w2 ⟨_,rfl,ru.l q2⟩ (by omega) ⟨by omega,by omega⟩ (hT.l (aa q1 q2)) (by omega))
   (fun w2 q2=>kL _ (aY y b true) w2 ⟨_,rfl,rv.l q2⟩ (by omega) ⟨by omega,by omega⟩ (hT.l (aa q1 q2)) (by omega))
  rw[ku,kv] at h;refine h.mono ?_;rintro z w2 ⟨p,q,k1,k2,k3,k4⟩;exact⟨p,q,k1,k2.rd,k3.rd,k4⟩
theorem told_ln_any (x y:ak)(b c q B:Nat)(w:World)(hb:10≤b∧b≤1000)(hT:Tab w)(fx:FitsT x)(fy:FitsT y)(ex: -((b+64:Nat):Int)≤x.e)(ey: -((b+64:Nat):Int)≤y.e)
  (c1:2^b≤2*c) (c2:c<2^b) (h1:((c*2^q:Nat):Int)≤V (b+64) x) (h2:V (b+64) x≤V (b+64) y) (h3:V (b+64) y< (((c+1)*2^q:Nat):Int)) (hB:(c+1)*2^q≤2^B) (hB2:B≤9000)
  (HK: ∀w1,yB w w1→yC 48 #[yi ((b+64:Nat):Int)] w1 (aeT w1 x y)):
  yC 35 #[yi b,.func (.func 48) #[] #[]] w (BRd w (bare (aY x b false)) (bare (aY y b true)) 0):=by
 have hb1:1≤b:=by omega
 have hbI:(1:Int)≤(b:Int):=by omega
 have hw:IntKind.i64.wrap ((b:Int)+64)=((b+64:Nat):Int):=by
  rw[show b+64=((b+64:Nat):Int) by omega]
  exact IntWalk.i64_in _ ⟨by omega,by omega⟩
 obtain⟨sx,sy,gx,gy,hc0⟩:=tell hb1 ex ey c1 c2 h1 h2 h3;obtain⟨u1,u2⟩:=cut_is_c hb1 ex c1 c2 h1 (by omega);obtain⟨v0,v1,v2⟩:=cut_up_c hb1 ey c2 h3;have hpb0:0<2^b:=Nat.pow_pos (by omega);have hcq:0<c*2^q:=Nat.mul_pos (by omega) (Nat.pow_pos (by omega));have hcc:c*2^q≤(c+1)*2^q:=Nat.mul_le_mul_right _ (by omega);have lx:=fx.len;have ly:=fy.len;obtain⟨-,x1,x2⟩:=fx;obtain⟨-,y1,y2⟩:=fy;have nu:=mi x b false hbI;have nv:=mi y b true hbI;rw[Int.toNat_natCast] at nu nv;obtain⟨-,su1,su2,-,su3⟩:=bare_smallS (B:=B) u2 (by omega) (by omega);obtain⟨-,sv1,sv2,-,-⟩:=bare_smallS (B:=B) v2 (by omega) (by omega);have ku:=short_is hb.2 nu (by omega) (by omega);have kv:=short_is hb.2 nv (by omega) (by omega);have lu:=tK (b:=(b:Int)) (up:=false) lx (by omega);have lv:=tK (b:=(b:Int)) (up:=true) ly (by omega);have eu:=WQ (up:=false) lx hbI;have ev:=WQ (up:=true) ly hbI;have zu:=gZ _ _ lu;have zv:=gZ _ _ lv;refine told_ln x y (aY x b false) (aY y b true) _ _ b ((b+64:Nat):Int) 0 w (by omega) (by omega) hw ?_ ?_ ?_
 ·intro pb w1 q1 hl
  refine refine_ln pb x y _ w1 (fun w2 q2=>HK w2 (aa q1 q2)) ?_
  intro xo xc yo yc w2 q2 rx ry;refine toldOk_W pb x y _ _ _ _ b w2 (hl.l q2).range ?_;intro w3 q3;have hT3:=hT.l (aa q1 (aa q2 q3));have rx3:=rx.l q3;have ry3:=ry.l q3;refine spanSame_W x y _ _ _ _ (aY x b false) (aY y b false) b w3 ?_ ?_ ?_ ?_
  ·intro w4 q4
   refine signs_pos x y _ _ _ _ w4 (fun w5 q5=> ?_) (fun w5 q5=> ?_)
   ·have:=qB _ x w5 ⟨_,rfl,(rx3.l q4).l q5⟩
    rwa [gx] at this
   ·have:=qB _ y w5 ⟨_,rfl,(ry3.l q4).l q5⟩
    rwa [gy] at this
  ·intro w4 q4
   have:=Ij _ x b x.s w4 ⟨_,rfl,rx3.l q4⟩ (by omega) (by omega) (by omega) hbI (by omega) (hT3.l q4);rw[show aY x b x.s=aY x b false by rw[sx]] at this
   exact this
  ·intro w4 q4
   have:=Ij _ y b y.s w4 ⟨_,rfl,ry3.l q4⟩ (by omega) (by omega) (by omega) hbI (by omega) (hT3.l q4);rw[show aY y b y.s=aY y b false by rw[sy]] at this
   exact this
  ·intro po pc qo qc w4 q4 rp rq
   have l2:=tK (b:=(b:Int)) (up:=false) ly (by omega);have e2:=WQ (up:=false) ly hbI;obtain⟨-,p2⟩:=cut_is_c hb1 ey c1 c2 (by omega) h3;obtain⟨-,t1,t2,-,t3⟩:=bare_smallS (B:=B) p2 (by have:=(cut_is_c hb1 ey c1 c2 (by omega) h3).1;omega) (by have:=(cut_is_c hb1 ey c1 c2 (by omega) h3).1;omega);have:=iE _ _ (aY x b false) (aY y b false) w4 ⟨_,rfl,rp⟩ ⟨_,rfl,rq⟩ (by omega) (by omega) (by omega) (cut_e_le su2 (by omega) su3) (by omega) (cut_e_le t2 (by omega) t3)
   rwa [hc0] at this
 ·intro xo xc yo yc w1 q1 rx ry
  exact Nt x.s xo xc _ x.e y.s yo yc _ y.e b _ _ w1
   (fun w2 q2=>Ij _ x b false w2 ⟨_,rfl,rx.l q2⟩ (by omega) (by omega) (by omega) hbI (by omega) (hT.l (aa q1 q2)))
   (fun w2 q2=>Ij _ y b true w2 ⟨_,rfl,ry.l q2⟩ (by omega) (by omega) (by omega) hbI (by omega) (hT.l (aa q1 q2)))
 ·intro uo uc vo vc w1 q1 ru rv
  have h:=Hu _ uo uc _ _ _ vo vc _ _ _ _ w1
   (fun w2 q2=>kL _ (aY x b false) w2 ⟨_,rfl,ru.l q2⟩ (by omega) ⟨by omega,by omega⟩ (hT.l (aa q1 q2)) (by omega))
   (fun w2 q2=>kL _ (aY y b true) w2 ⟨_,rfl,rv.l q2⟩ (by omega) ⟨by omega,by omega⟩ (hT.l (aa q1 q2)) (by omega))
  rw[ku,kv] at h;refine h.mono ?_;rintro z w2 ⟨p,q,k1,k2,k3,k4⟩;exact⟨p,q,k1,k2.rd,k3.rd,k4⟩
theorem told_inv_any (pf pn:Nat)(x y:ak)(b c q B:Nat)(w:World)(hb:10≤b∧b≤1000)(hT:Tab w)(fx:FitsT x)(fy:FitsT y)(ex: -((b+64:Nat):Int)≤x.e)(ey: -((b+64:Nat):Int)≤y.e)
  (c1:2^b≤2*c) (c2:c<2^b) (h1:((c*2^q:Nat):Int)≤V (b+64) x) (h2:V (b+64) x≤V (b+64) y) (h3:V (b+64) y< (((c+1)*2^q:Nat):Int)) (hB:(c+1)*2^q≤2^B) (hB2:B≤9000)
  (HK: ∀w1,yB w w1→yC 62 #[yi ((b+64:Nat):Int),.pointer (some ⟨pf,0,none⟩),.pointer (some ⟨pn,0,none⟩)] w1 (aeT w1 x y)):
  yC 35 #[yi b,.func (.func 62) #[] #[.pointer (some ⟨pf,0,none⟩),.pointer (some ⟨pn,0,none⟩)]] w (BRd w (bare (aY x b false)) (bare (aY y b true)) 0):=by
 have hb1:1≤b:=by omega
 have hbI:(1:Int)≤(b:Int):=by omega
 have hw:IntKind.i64.wrap ((b:Int)+64)=((b+64:Nat):Int):=by
  rw[show b+64=((b+64:Nat):Int) by omega]
  exact IntWalk.i64_in _ ⟨by omega,by omega⟩
 obtain⟨sx,sy,gx,gy,hc0⟩:=tell hb1 ex ey c1 c2 h1 h2 h3;obtain⟨u1,u2⟩:=cut_is_c hb1 ex c1 c2 h1 (by omega);obtain⟨v0,v1,v2⟩:=cut_up_c hb1 ey c2 h3;have hpb0:0<2^b:=Nat.pow_pos (by omega);have hcq:0<c*2^q:=Nat.mul_pos (by omega) (Nat.pow_pos (by omega));have hcc:c*2^q≤(c+1)*2^q:=Nat.mul_le_mul_right _ (by omega);have lx:=fx.len;have ly:=fy.len;obtain⟨-,x1,x2⟩:=fx;obtain⟨-,y1,y2⟩:=fy;have nu:=mi x b false hbI;have nv:=mi y b true hbI;rw[Int.toNat_natCast] at nu nv;obtain⟨-,su1,su2,-,su3⟩:=bare_smallS (B:=B) u2 (by omega) (by omega);obtain⟨-,sv1,sv2,-,-⟩:=bare_smallS (B:=B) v2 (by omega) (by omega);have ku:=short_is hb.2 nu (by omega) (by omega);have kv:=short_is hb.2 nv (by omega) (by omega);have lu:=tK (b:=(b:Int)) (up:=false) lx (by omega);have lv:=tK (b:=(b:Int)) (up:=true) ly (by omega);have eu:=WQ (up:=false) lx hbI;have ev:=WQ (up:=true) ly hbI;have zu:=gZ _ _ lu;have zv:=gZ _ _ lv;refine told_inv pf pn x y (aY x b false) (aY y b true) _ _ b ((b+64:Nat):Int) 0 w (by omega) (by omega) hw ?_ ?_ ?_
 ·intro pb w1 q1 hl
  refine refine_inv pf pn pb x y _ w1 (fun w2 q2=>HK w2 (aa q1 q2)) ?_
  intro xo xc yo yc w2 q2 rx ry;refine toldOk_W pb x y _ _ _ _ b w2 (hl.l q2).range ?_;intro w3 q3;have hT3:=hT.l (aa q1 (aa q2 q3));have rx3:=rx.l q3;have ry3:=ry.l q3;refine spanSame_W x y _ _ _ _ (aY x b false) (aY y b false) b w3 ?_ ?_ ?_ ?_
  ·intro w4 q4
   refine signs_pos x y _ _ _ _ w4 (fun w5 q5=> ?_) (fun w5 q5=> ?_)
   ·have:=qB _ x w5 ⟨_,rfl,(rx3.l q4).l q5⟩
    rwa [gx] at this
   ·have:=qB _ y w5 ⟨_,rfl,(ry3.l q4).l q5⟩
    rwa [gy] at this
  ·intro w4 q4
   have:=Ij _ x b x.s w4 ⟨_,rfl,rx3.l q4⟩ (by omega) (by omega) (by omega) hbI (by omega) (hT3.l q4);rw[show aY x b x.s=aY x b false by rw[sx]] at this
   exact this
  ·intro w4 q4
   have:=Ij _ y b y.s w4 ⟨_,rfl,ry3.l q4⟩ (by omega) (by omega) (by omega) hbI (by omega) (hT3.l q4);rw[show aY y b y.s=aY y b false by rw[sy]] at this
   exact this
  ·intro po pc qo qc w4 q4 rp rq
   have l2:=tK (b:=(b:Int)) (up:=false) ly (by omega);have e2:=WQ (up:=false) ly hbI;obtain⟨-,p2⟩:=cut_is_c hb1 ey c1 c2 (by omega) h3;obtain⟨-,t1,t2,-,t3⟩:=bare_smallS (B:=B) p2 (by have:=(cut_is_c hb1 ey c1 c2 (by omega) h3).1;omega) (by have:=(cut_is_c hb1 ey c1 c2 (by omega) h3).1;omega);have:=iE _ _ (aY x b false) (aY y b false) w4 ⟨_,rfl,rp⟩ ⟨_,rfl,rq⟩ (by omega) (by omega) (by omega) (cut_e_le su2 (by omega) su3) (by omega) (cut_e_le t2 (by omega) t3)
   rwa [hc0] at this
 ·intro xo xc yo yc w1 q1 rx ry
  exact Nt x.s xo xc _ x.e y.s yo yc _ y.e b _ _ w1
   (fun w2 q2=>Ij _ x b false w2 ⟨_,rfl,rx.l q2⟩ (by omega) (by omega) (by omega) hbI (by omega) (hT.l (aa q1 q2)))
   (fun w2 q2=>Ij _ y b true w2 ⟨_,rfl,ry.l q2⟩ (by omega) (by omega) (by omega) hbI (by omega) (hT.l (aa q1 q2)))
 ·intro uo uc vo vc w1 q1 ru rv
  have h:=Hu _ uo uc _ _ _ vo vc _ _ _ _ w1
   (fun w2 q2=>kL _ (aY x b false) w2 ⟨_,rfl,ru.l q2⟩ (by omega) ⟨by omega,by omega⟩ (hT.l (aa q1 q2)) (by omega))
   (fun w2 q2=>kL _ (aY y b true) w2 ⟨_,rfl,rv.l q2⟩ (by omega) ⟨by omega,by omega⟩ (hT.l (aa q1 q2)) (by omega))
  rw[ku,kv] at h;refine h.mono ?_;rintro z w2 ⟨p,q,k1,k2,k3,k4⟩;exact⟨p,q,k1,k2.rd,k3.rd,k4⟩
end Go.Proofs.YtiakgfmlpdfhdaaGreatDoor
