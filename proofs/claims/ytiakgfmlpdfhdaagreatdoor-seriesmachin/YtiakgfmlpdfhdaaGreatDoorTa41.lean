/-
  Texts laid together: Sp6, Sp7, Bl11, Bl18, Sp10, Sr3, Br4.
-/
import Derived.Test.YtiakgfmlpdfhdaaGreatDoorTa38
import Derived.Test.YtiakgfmlpdfhdaaGreatDoorTa39
import Derived.Test.YtiakgfmlpdfhdaaGreatDoorTa40
set_option maxHeartbeats 800000
namespace Go.Proofs.YtiakgfmlpdfhdaaGreatDoor
open _root_.Go.Proofs.Tryz
open Go.RowKit
theorem serAtan_ex (n b:Nat)(hn:2≤n∧n≤1000)(hb:10≤b∧b≤1000)(hX:chkN (XA n 1 1120)=true):
  ∃l h,GoodB (XA n 1 1120) b l h∧ ∀w,Tab w→yC 16 #[yi n,yi b] w (BRd w l h 0):=by
 obtain⟨c,q,B,c1,c2,t1,t2,t3,t4,t5,hG⟩:=inv_tell (tn:=1) hn.1 (by omega) hb hX;obtain⟨f1,f2,-⟩:=inv_fits n (b+64) 1 hn.1 (by omega) (by omega);obtain⟨e1,e2⟩:=inv_e (lp (n*n) 1 (b+64+1) 0 (2^ (b+64)/n) 0 0) (b+64);exact⟨_,_,hG,fun w hT=>serAtan_W _ _ _ _ 0 w (fun w1 q1=>ofinvAtan_W _ _ _ _ 0 w1 (by omega) (by omega) (fun pf pn w2 q2 hf hp=>told_inv_any pf pn _ _ b c q B w2 hb (hT.l (aa q1 q2)) f1 f2 (by omega) (by omega) c1 c2 t1 t2 t3 t4 t5 (fun w3 q3=>invAtan_W pf pn _ _ _ _ w3 (hf.l q3).range (hp.l q3).range (fun w4 _=>satan_any n (b+64) w4 ⟨hn.1,by omega⟩ (by omega)))))⟩
theorem serPi_ex (b:Nat)(hb:10≤b∧b≤1000)(hX:chkN XPi=true)(hL:1121≤Nat.log2 XPi):
  ∃l h,GoodB XPi b l h∧ ∀w,Tab w→yC 15 #[yi b] w (BRd w l h 0):=by
 obtain⟨c,q,B,c1,c2,t1,t2,t3,t4,t5,hG⟩:=pi_tell hb hX hL;obtain⟨f1,f2⟩:=pi_fits (b+64) (by omega);obtain⟨-,-,e1,e2,-,-⟩:=pi_V (b+64);exact⟨_,_,hG,fun w hT=>serPi_W _ _ _ 0 w (fun w1 q1=>told_pi_any _ _ b c q B w1 hb (hT.l q1) f1 f2 e1 e2 c1 c2 t1 t2 t3 t4 t5 (fun w2 _=>spi_any (b+64) w2 (by omega)))⟩
theorem qu (n:Int)(b:Nat)(m:Nat)(x:Nat→ak)(ao:Nat→Option Addr)(ca:Nat→Nat)(w:World)(hm:2≤m)(hm2:m≤4)(hb:b<w.heap.size)
  (hc: ∀j,j<m→w.cell? ⟨b,3*j,none⟩=some (.bool (x j).s)∧w.cell? ⟨b,3*j+1,none⟩=some (.slice (ao j) (Dg.dg 4294967296 (x j).n).length (ca j))∧w.cell? ⟨b,3*j+2,none⟩=some (yi (x j).e)∧Rd w .u32 (.slice (ao j) (Dg.dg 4294967296 (x j).n).length (ca j)) (Dg.dg 4294967296 (x j).n))
  (hn1:1≤n) (hn2:n≤4096) (hL: ∀j,j<m→(Dg.dg 4294967296 (x j).n).length≤9000) (he1: ∀j,j<m→ -100000≤(x j).e) (he2: ∀j,j<m→(x j).e≤100000) (hT:Tab w):
  yC 65 #[yi n,.slice (some ⟨b,0,none⟩) m m] w (jE w (du x m n)):=by
 refine P6 n b m x ao ca w hm hm2 hb (fun j hj=>(hc j hj).1) (fun j hj=>(hc j hj).2.1) (fun j hj=>(hc j hj).2.2.1) (fun j k w1 hj hk b1=> ?_) (fun j up w1 hj b1=> ?_) (fun j up v w1 hj b1 hv=> ?_)
 ·exact iE _ _ (x j) (x k) w1 ⟨_,rfl,(hc j hj).2.2.2.l b1⟩ ⟨_,rfl,(hc k hk).2.2.2.l b1⟩ (by have:=hL j hj;omega) (by have:=hL k hk;omega) (he1 j hj) (he2 j hj) (he1 k hk) (he2 k hk)
 ·exact Ij _ (x j) n up w1 ⟨_,rfl,(hc j hj).2.2.2.l b1⟩ (hL j hj) (by have:=he1 j hj;omega) (by have:=he2 j hj;omega) hn1 hn2 (hT.l b1)
 ·have h1:=tK (b:=n) (up:=up) (hL j hj) (by omega)
  have h2:=WQ (b:=n) (up:=up) (hL j hj) hn1;have h3:=he1 j hj;have h4:=he2 j hj;exact kL v _ w1 hv (by omega) ⟨by omega,by omega⟩ (hT.l b1) (by have:=gZ _ 9001 h1;omega)
theorem Sk (s:Bool)(ao:Option Addr)(ca:Nat)(xs:List Nat)(e:Int)(t:Bool)(bo:Option Addr)(cb:Nat)(ys:List Nat)(f:Int)(r:Bool)(co:Option Addr)(cc:Nat)(zs:List Nat)(g:Int)(u:Bool)(d':Option Addr)(cd:Nat)(us:List Nat)(k:Int)(n:Int)(w:World)
  (ha:Rd w .u32 (.slice ao xs.length ca) xs) (hb:Rd w .u32 (.slice bo ys.length cb) ys) (hc:Rd w .u32 (.slice co zs.length cc) zs) (hd:Rd w .u32 (.slice d' us.length cd) us) (sa:Dg.Small 4294967296 xs) (sb:Dg.Small 4294967296 ys) (sc:Dg.Small 4294967296 zs) (sd:Dg.Small 4294967296 us) (hT:Tab w):
  yC 19 #[.agg #[.bool s,.slice ao xs.length ca,yi e,.bool t,.slice bo ys.length cb,yi f],.agg #[.bool r,.slice co zs.length cc,yi g,.bool u,.slice d' us.length cd,yi k],yi n] w
   (jE w (if cW n (cu s xs e t ys f) (cu r zs g u us k)=0 then du (dk aG ⟨s,Dg.vl 4294967296 xs,e⟩ ⟨t,Dg.vl 4294967296 ys,f⟩ ⟨r,Dg.vl 4294967296 zs,g⟩ ⟨u,Dg.vl 4294967296 us,k⟩) 4 n else(⟨false,0,0⟩,⟨false,0,0⟩,cW n (cu s xs e t ys f) (cu r zs g u us k)))):=by
 refine Ty s ao ca xs.length e t bo cb ys.length f r co cc zs.length g u d' cd us.length k n _ w (fun w1 b1=> ?_)
 have D: ∀{S1:Bool} {O1:Option Addr} {C1:Nat} {L1:List Nat} {E1:Int} {S2:Bool} {O2:Option Addr} {C2:Nat} {L2:List Nat} {E2:Int},Rd w .u32 (.slice O1 L1.length C1) L1→Dg.Small 4294967296 L1→aS L1 E1=0→Rd w .u32 (.slice O2 L2.length C2) L2→Dg.Small 4294967296 L2→aS L2 E2=0→ ∀w2,yB w1 w2→
   yC 41 #[ydV S1 (.slice O1 L1.length C1) E1,ydV S2 (.slice O2 L2.length C2) E2] w2 (jN w2 (aG ⟨S1,Dg.vl 4294967296 L1,E1⟩ ⟨S2,Dg.vl 4294967296 L2,E2⟩)):=fun {S1 O1 C1 L1 E1 S2 O2 C2 L2 E2} r1 s1 c1 r2 s2 c2 w2 b2=>by
  obtain⟨m1,m2,m3,m4,m5⟩:=aO c1 s1;obtain⟨o1,o2,o3,o4,o5⟩:=aO c2 s2;exact uj _ _ ⟨S1,Dg.vl 4294967296 L1,E1⟩ ⟨S2,Dg.vl 4294967296 L2,E2⟩ w2 (jw (r1.l (aa b1 b2)) s1 m1) (jw (r2.l (aa b1 b2)) s2 o1) (by rw[m2];omega) (by rw[o2];omega) (by show-100000≤E1;omega) (by show E1≤100000;omega) (by show-100000≤E2;omega) (by show E2≤100000;omega)
 have P:cW n (cu s xs e t ys f) (cu r zs g u us k)=0→(aS xs e=0∧aS ys f=0)∧(aS zs g=0∧aS us k=0)∧1≤n∧n≤4096∧ ∀j,(Dg.dg 4294967296 (dk aG ⟨s,Dg.vl 4294967296 xs,e⟩ ⟨t,Dg.vl 4294967296 ys,f⟩ ⟨r,Dg.vl 4294967296 zs,g⟩ ⟨u,Dg.vl 4294967296 us,k⟩ j).n).length≤9000∧ -100000≤(dk aG ⟨s,Dg.vl 4294967296 xs,e⟩ ⟨t,Dg.vl 4294967296 ys,f⟩ ⟨r,Dg.vl 4294967296 zs,g⟩ ⟨u,Dg.vl 4294967296 us,k⟩ j).e∧(dk aG ⟨s,Dg.vl 4294967296 xs,e⟩ ⟨t,Dg.vl 4294967296 ys,f⟩ ⟨r,Dg.vl 4294967296 zs,g⟩ ⟨u,Dg.vl 4294967296 us,k⟩ j).e≤100000:=fun h0=>by
  obtain⟨q1,q2,n1,n2⟩:=fh h0;obtain⟨i1,i2,_⟩:=dx q1;obtain⟨d1,d2,_⟩:=dx q2;obtain⟨v1,v2,v3,v4,v5⟩:=aO i1 sa;obtain⟨u1,u2,u3,u4,u5⟩:=aO i2 sb;obtain⟨z1,z2,z3,z4,z5⟩:=aO d1 sc;obtain⟨y1,y2,y3,y4,y5⟩:=aO d2 sd;refine⟨⟨i1,i2⟩,⟨d1,d2⟩,n1,n2,gA aG ⟨s,Dg.vl 4294967296 xs,e⟩ ⟨t,Dg.vl 4294967296 ys,f⟩ ⟨r,Dg.vl 4294967296 zs,g⟩ ⟨u,Dg.vl 4294967296 us,k⟩ (fun T=>(Dg.dg 4294967296 T.n).length≤9000∧ -100000≤T.e∧T.e≤100000) ?_ ?_ ?_ ?_⟩
  ·exact kO (a:=⟨s,Dg.vl 4294967296 xs,e⟩) (b:=⟨r,Dg.vl 4294967296 zs,g⟩) (cf v2 v3) (cf z2 z3) v4 v5 z4 z5
  ·exact kO (a:=⟨s,Dg.vl 4294967296 xs,e⟩) (b:=⟨u,Dg.vl 4294967296 us,k⟩) (cf v2 v3) (cf y2 y3) v4 v5 y4 y5
  ·exact kO (a:=⟨t,Dg.vl 4294967296 ys,f⟩) (b:=⟨r,Dg.vl 4294967296 zs,g⟩) (cf u2 u3) (cf z2 z3) u4 u5 z4 z5
  ·exact kO (a:=⟨t,Dg.vl 4294967296 ys,f⟩) (b:=⟨u,Dg.vl 4294967296 us,k⟩) (cf u2 u3) (cf y2 y3) u4 u5 y4 y5
 exact Ai s ao ca xs.length e t bo cb ys.length f r co cc zs.length g u d' cd us.length k n 41 (cW n (cu s xs e t ys f) (cu r zs g u us k)) (dk aG ⟨s,Dg.vl 4294967296 xs,e⟩ ⟨t,Dg.vl 4294967296 ys,f⟩ ⟨r,Dg.vl 4294967296 zs,g⟩ ⟨u,Dg.vl 4294967296 us,k⟩) (du (dk aG ⟨s,Dg.vl 4294967296 xs,e⟩ ⟨t,Dg.vl 4294967296 ys,f⟩ ⟨r,Dg.vl 4294967296 zs,g⟩ ⟨u,Dg.vl 4294967296 us,k⟩) 4 n) w1
  (fun args W=>zJ func41 (by kernel_rfl) (c:=_) rfl args W)
  (fun b w2 b2 h=>nH n b s ao ca xs e t bo cb ys f r co cc zs g u d' cd us k w ha hb hc hd sa sb sc sd w2 (aa b1 b2) h)
  (fun h w2 b2=>D ha sa (P h).1.1 hc sc (P h).2.1.1 w2 b2) (fun h w2 b2=>D ha sa (P h).1.1 hd sd (P h).2.1.2 w2 b2) (fun h w2 b2=>D hb sb (P h).1.2 hc sc (P h).2.1.1 w2 b2) (fun h w2 b2=>D hb sb (P h).1.2 hd sd (P h).2.1.2 w2 b2)
  (fun h b aos cas w2 b2 hlt hcell=>qu n b 4 _ aos cas w2 (by omega) (by omega) hlt hcell (P h).2.2.1 (P h).2.2.2.1 (fun j _=>((P h).2.2.2.2 j).1) (fun j _=>((P h).2.2.2.2 j).2.1) (fun j _=>((P h).2.2.2.2 j).2.2) (hT.l (aa b1 b2)))
theorem DK (s:Bool)(ao:Option Addr)(ca:Nat)(xs:List Nat)(e:Int)(t:Bool)(bo:Option Addr)(cb:Nat)(ys:List Nat)(f:Int)(r:Bool)(co:Option Addr)(cc:Nat)(zs:List Nat)(g:Int)(u:Bool)(d':Option Addr)(cd:Nat)(us:List Nat)(k:Int)(n:Int)(w:World)
  (ha:Rd w .u32 (.slice ao xs.length ca) xs) (hb:Rd w .u32 (.slice bo ys.length cb) ys) (hc:Rd w .u32 (.slice co zs.length cc) zs) (hd:Rd w .u32 (.slice d' us.length cd) us) (sa:Dg.Small 4294967296 xs) (sb:Dg.Small 4294967296 ys) (sc:Dg.Small 4294967296 zs) (sd:Dg.Small 4294967296 us) (hT:Tab w):
  yC 18 #[.agg #[.bool s,.slice ao xs.length ca,yi e,.bool t,.slice bo ys.length cb,yi f],.agg #[.bool r,.slice co zs.length cc,yi g,.bool u,.slice d' us.length cd,yi k],yi n] w
   (jE w (if cW n (cu s xs e t ys f) (cu r zs g u us k)=0 then du (dk aK ⟨s,Dg.vl 4294967296 xs,e⟩ ⟨t,Dg.vl 4294967296 ys,f⟩ ⟨r,Dg.vl 4294967296 zs,g⟩ ⟨u,Dg.vl 4294967296 us,k⟩) 4 n else(⟨false,0,0⟩,⟨false,0,0⟩,cW n (cu s xs e t ys f) (cu r zs g u us k)))):=by
 refine TE s ao ca xs.length e t bo cb ys.length f r co cc zs.length g u d' cd us.length k n _ w (fun w1 b1=> ?_)
 have D: ∀{S1:Bool} {O1:Option Addr} {C1:Nat} {L1:List Nat} {E1:Int} {S2:Bool} {O2:Option Addr} {C2:Nat} {L2:List Nat} {E2:Int},Rd w .u32 (.slice O1 L1.length C1) L1→Dg.Small 4294967296 L1→aS L1 E1=0→Rd w .u32 (.slice O2 L2.length C2) L2→Dg.Small 4294967296 L2→aS L2 E2=0→ ∀w2,yB w1 w2→
   yC 40 #[ydV S1 (.slice O1 L1.length C1) E1,ydV S2 (.slice O2 L2.length C2) E2] w2 (jN w2 (aK ⟨S1,Dg.vl 4294967296 L1,E1⟩ ⟨S2,Dg.vl 4294967296 L2,E2⟩)):=fun {S1 O1 C1 L1 E1 S2 O2 C2 L2 E2} r1 s1 c1 r2 s2 c2 w2 b2=>by
  obtain⟨m1,m2,m3,m4,m5⟩:=aO c1 s1;obtain⟨o1,o2,o3,o4,o5⟩:=aO c2 s2;exact Ac _ _ ⟨S1,Dg.vl 4294967296 L1,E1⟩ ⟨S2,Dg.vl 4294967296 L2,E2⟩ w2 (jw (r1.l (aa b1 b2)) s1 m1) (jw (r2.l (aa b1 b2)) s2 o1) (by rw[m2];omega) (by rw[o2];omega) (by show-100000≤E1;omega) (by show E1≤100000;omega) (by show-100000≤E2;omega) (by show E2≤100000;omega)
 have P:cW n (cu s xs e t ys f) (cu r zs g u us k)=0→(aS xs e=0∧aS ys f=0)∧(aS zs g=0∧aS us k=0)∧1≤n∧n≤4096∧ ∀j,(Dg.dg 4294967296 (dk aK ⟨s,Dg.vl 4294967296 xs,e⟩ ⟨t,Dg.vl 4294967296 ys,f⟩ ⟨r,Dg.vl 4294967296 zs,g⟩ ⟨u,Dg.vl 4294967296 us,k⟩ j).n).length≤9000∧ -100000≤(dk aK ⟨s,Dg.vl 4294967296 xs,e⟩ ⟨t,Dg.vl 4294967296 ys,f⟩ ⟨r,Dg.vl 4294967296 zs,g⟩ ⟨u,Dg.vl 4294967296 us,k⟩ j).e∧(dk aK ⟨s,Dg.vl 4294967296 xs,e⟩ ⟨t,Dg.vl 4294967296 ys,f⟩ ⟨r,Dg.vl 4294967296 zs,g⟩ ⟨u,Dg.vl 4294967296 us,k⟩ j).e≤100000:=fun h0=>by
  obtain⟨q1,q2,n1,n2⟩:=fh h0;obtain⟨i1,i2,_⟩:=dx q1;obtain⟨d1,d2,_⟩:=dx q2;obtain⟨v1,v2,v3,v4,v5⟩:=aO i1 sa;obtain⟨u1,u2,u3,u4,u5⟩:=aO i2 sb;obtain⟨z1,z2,z3,z4,z5⟩:=aO d1 sc;obtain⟨y1,y2,y3,y4,y5⟩:=aO d2 sd;refine⟨⟨i1,i2⟩,⟨d1,d2⟩,n1,n2,gA aK ⟨s,Dg.vl 4294967296 xs,e⟩ ⟨t,Dg.vl 4294967296 ys,f⟩ ⟨r,Dg.vl 4294967296 zs,g⟩ ⟨u,Dg.vl 4294967296 us,k⟩ (fun T=>(Dg.dg 4294967296 T.n).length≤9000∧ -100000≤T.e∧T.e≤100000) ?_ ?_ ?_ ?_⟩
  ·exact uH (a:=⟨s,Dg.vl 4294967296 xs,e⟩) (b:=⟨r,Dg.vl 4294967296 zs,g⟩) (cf v2 v3) (cf z2 z3) v4 v5 z4 z5
  ·exact uH (a:=⟨s,Dg.vl 4294967296 xs,e⟩) (b:=⟨u,Dg.vl 4294967296 us,k⟩) (cf v2 v3) (cf y2 y3) v4 v5 y4 y5
  ·exact uH (a:=⟨t,Dg.vl 4294967296 ys,f⟩) (b:=⟨r,Dg.vl 4294967296 zs,g⟩) (cf u2 u3) (cf z2 z3) u4 u5 z4 z5
  ·exact uH (a:=⟨t,Dg.vl 4294967296 ys,f⟩) (b:=⟨u,Dg.vl 4294967296 us,k⟩) (cf u2 u3) (cf y2 y3) u4 u5 y4 y5
 exact Ai s ao ca xs.length e t bo cb ys.length f r co cc zs.length g u d' cd us.length k n 40 (cW n (cu s xs e t ys f) (cu r zs g u us k)) (dk aK ⟨s,Dg.vl 4294967296 xs,e⟩ ⟨t,Dg.vl 4294967296 ys,f⟩ ⟨r,Dg.vl 4294967296 zs,g⟩ ⟨u,Dg.vl 4294967296 us,k⟩) (du (dk aK ⟨s,Dg.vl 4294967296 xs,e⟩ ⟨t,Dg.vl 4294967296 ys,f⟩ ⟨r,Dg.vl 4294967296 zs,g⟩ ⟨u,Dg.vl 4294967296 us,k⟩) 4 n) w1
  (fun args W=>zJ func40 (by kernel_rfl) (c:=_) rfl args W)
  (fun b w2 b2 h=>nH n b s ao ca xs e t bo cb ys f r co cc zs g u d' cd us k w ha hb hc hd sa sb sc sd w2 (aa b1 b2) h)
  (fun h w2 b2=>D ha sa (P h).1.1 hc sc (P h).2.1.1 w2 b2) (fun h w2 b2=>D ha sa (P h).1.1 hd sd (P h).2.1.2 w2 b2) (fun h w2 b2=>D hb sb (P h).1.2 hc sc (P h).2.1.1 w2 b2) (fun h w2 b2=>D hb sb (P h).1.2 hd sd (P h).2.1.2 w2 b2)
  (fun h b aos cas w2 b2 hlt hcell=>qu n b 4 _ aos cas w2 (by omega) (by omega) hlt hcell (P h).2.2.1 (P h).2.2.2.1 (fun j _=>((P h).2.2.2.2 j).1) (fun j _=>((P h).2.2.2.2 j).2.1) (fun j _=>((P h).2.2.2.2 j).2.2) (hT.l (aa b1 b2)))
theorem serLn_ex (b:Nat)(hb:10≤b∧b≤1000)(hX:chkN XLn=true)(hL:1119≤Nat.log2 XLn):
  ∃l h,GoodB XLn b l h∧ ∀w,Tab w→yC 28 #[yi b] w (BRd w l h 0):=by
 obtain⟨c,q,B,c1,c2,t1,t2,t3,t4,t5,hG⟩:=ln_tell hb hX hL;obtain⟨-,-,-,-,f1,f2⟩:=ln_fits (b+64) (by omega);obtain⟨-,-,⟨-,-,-,-,e1,e2⟩,-⟩:=ln_V (b+64);exact⟨_,_,hG,fun w hT=>serLn2_W _ _ _ 0 w (fun w1 q1=>told_ln_any _ _ b c q B w1 hb (hT.l q1) f1 f2 (by omega) (by omega) c1 c2 t1 t2 t3 t4 t5 (fun w2 _=>sln_any (b+64) w2 (by omega)))⟩
theorem serBegun_any (w:World)(hT:Tab w):yC 7 #[] w (yR w (.bool true)):=by
 obtain⟨a,b,hG,hP⟩:=serPi_ex 20 ⟨by omega,by omega⟩ chk_pi log_pi';obtain⟨p,q,hG2,hL⟩:=serLn_ex 20 ⟨by omega,by omega⟩ chk_ln log_ln';obtain⟨ba,bb,⟨a1,a2,a3⟩,⟨b1,b2,b3⟩,g1,g2,g3,g4⟩:=hG;obtain⟨bp,-,⟨p1,p2,p3⟩,-,k1,-,-,-⟩:=hG2;have ma:=dyad_len16 a3;have mb:=dyad_len16 b3;have mp:=dyad_len16 p3;rw[pw_eq (show 1124-20=1104 from rfl)] at g4
 have n1:=pi_low';have n2:=pi_high';have v3:=V_whole 3;have v4:=V_whole 4;generalize pw 1120=P at*;generalize pw 1104=Q at*;have c1:dJ (bare (cO ⟨false,3,0⟩ (dB a)))≤0:=(cmp_le (K:=1120) (a:=⟨false,3,0⟩) (b:=a) ⟨⟨false,3,0⟩,(bare_dig (t:=0) (m:=1) (by decide) 0).symm⟩ ba (by show-((1120:Nat):Int)≤0;omega) (by omega)).1 (by rw[v3];omega)
 have c3:0<bJ p fL:=by
  rw[oY (K:=1120) (by omega) (by show-((1120:Nat):Int)≤fL.e;unfold fL;simp),V_zeroTS 1120]
  unfold sgn;rw[if_neg (by omega),if_neg (by omega)];omega
 have c2:dJ (bare (cO b (dB ⟨false,4,0⟩)))<0:=by
  have h1:=zx (K:=1120) (a:=b) (b:=dB ⟨false,4,0⟩) (by omega) (by show-((1120:Nat):Int)≤0;omega)
  have h2:=zy (K:=1120) (a:=b) (b:=dB ⟨false,4,0⟩) (by omega) (by show-((1120:Nat):Int)≤0;omega)
  rw[EI,v4] at h1;have h3:=Di 1120 (bare (cO b (dB ⟨false,4,0⟩)));rw[dw h2,h1] at h3;unfold dJ;rw[←h3];unfold sgn;rw[if_neg (by omega),if_pos (by omega)];omega
 exact serBegun_W a b p q a b p _ _ _ w c1 c2 c3 (fun w1 h=>hP w1 (hT.l h)) (fun w1 h=>hL w1 (hT.l h))
  (fun xo xc w1 _ r=>ofDyad_good ba a3 a1 a2 xo xc w1 r) (fun xo xc w1 _ r=>ofDyad_good bb b3 b1 b2 xo xc w1 r) (fun xo xc w1 _ r=>ofDyad_good bp p3 p1 p2 xo xc w1 r)
  (fun r xo xc w1 _ hr rx=>gQ _ _ ⟨false,3,0⟩ a w1 ⟨_,rfl,rd_cell16 (d:=3) hr (by decide)⟩ ⟨_,rfl,rx⟩ (by decide) (by omega) (by decide) (by decide) (by omega) (by omega))
  (fun r yo yc w1 _ hr ry=>gQ _ _ b ⟨false,4,0⟩ w1 ⟨_,rfl,ry⟩ ⟨_,rfl,rd_cell16 (d:=4) hr (by decide)⟩ (by omega) (by decide) (by omega) (by omega) (by decide) (by decide))
  (fun zo zc w1 _ rz=>by
   obtain⟨y,hy⟩:=bp;have hbp:bare p=p:=by rw[hy,iH]
   exact BL _ p w1 (by rw[hbp];exact⟨_,rfl,rz⟩) (by rw[hbp];omega) (by rw[hbp];omega) (by rw[hbp];omega))
theorem bracket_num (a b:ak)(ao bo:Option Addr)(ac bc m:Nat)(w:World)(ha:EndR a)(hb:EndR b)(hm:1≤m∧m≤4096)(hT:Tab w)(hk:cu a.s (Dg.dg 4294967296 a.n) a.e b.s (Dg.dg 4294967296 b.n) b.e=0)
  (ra:Rd w .u32 (yT ao a.n ac) (Dg.dg 4294967296 a.n)) (rb:Rd w .u32 (yT bo b.n bc) (Dg.dg 4294967296 b.n)):
  yC 5 #[.agg #[.bool a.s,yT ao a.n ac,yi a.e,.bool b.s,yT bo b.n bc,yi b.e],yi m] w (yR w (.tuple #[yi ((brkN a b m:Nat):Int),.bool (decide (0< ((brkN a b m:Nat):Int))),yi 0])):=by
 refine bracket_ok a.s b.s ao bo _ _ ac bc a.e b.e m _ w (by omega) (by omega) (fun w1 h1=> ?_) (fun w1 _=>iK _ _ _ _ _ w1) (fun w1 _=>iK _ _ _ _ _ w1) (fun q w1 h1 hq=> ?_)
 ·have:=qK a.s ao ac _ a.e b.s bo bc _ b.e w1 (ra.l h1) (rb.l h1) (Dg.small_dg _ _ (by omega)) (Dg.small_dg _ _ (by omega))
  rwa [hk] at this
 ·refine search_any q m _ w1 hm.2 (fun i w2 hi h2=> ?_)
  have hw:IntKind.i64.wrap ((i:Int)+1)=((i+1:Nat):Int):=by rw[IntWalk.i64_in _ ⟨by omega,by omega⟩];omega
  exact brk1_W a b ao bo ac bc q (i:Int) _ _ w2 (aC hq h2) hw (fun w3 h3=>spanSameP_any a b ao bo ac bc _ w3 ha hb ⟨by omega,by omega⟩ (hT.l (aa h1 (aa h2 h3))) (ra.l (aa h1 (aa h2 h3))) (rb.l (aa h1 (aa h2 h3))))
end Go.Proofs.YtiakgfmlpdfhdaaGreatDoor
