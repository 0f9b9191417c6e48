/- Texts laid together. -/
import Derived.Test.YthhiidikgchdeaaGreatDoorKs43
import Derived.Test.YthhiidikgchdeaaGreatDoorKs44
set_option maxHeartbeats 800000
namespace Go.Proofs.YthhiidikgchdeaaGreatDoor
open _root_.Go.Proofs.Tryz
open Go.RowKit
theorem DK (s:Bool)(y:Option Addr)(A:Nat)(xs:List Nat)(e:Int)(t:Bool)(z:Option Addr)(B:Nat)(i:List Nat)(f:Int)(r:Bool)(F:Option Addr)(C:Nat)(zs:List Nat)(g:Int)(u:Bool)(G:Option Addr)(E:Nat)(d:List Nat)(k:Int)(n:Int)(w:World)
  (U:Rd w .u32 (.slice y xs.length A) xs) (X:Rd w .u32 (.slice z i.length B) i) (Y:Rd w .u32 (.slice F zs.length C) zs) (Z:Rd w .u32 (.slice G d.length E) d) (K:Dg.Small 4294967296 xs) (L:Dg.Small 4294967296 i) (M:Dg.Small 4294967296 zs) (N:Dg.Small 4294967296 d) (hT:Tab w):
  yC 18 #[.agg #[.bool s,.slice y xs.length A,yi e,.bool t,.slice z i.length B,yi f],.agg #[.bool r,.slice F zs.length C,yi g,.bool u,.slice G d.length E,yi k],yi n] w
   (jE w (if cW n (cu s xs e t i f) (cu r zs g u d k)=0 then du (dk aK ⟨s,Dg.vl 4294967296 xs,e⟩ ⟨t,Dg.vl 4294967296 i,f⟩ ⟨r,Dg.vl 4294967296 zs,g⟩ ⟨u,Dg.vl 4294967296 d,k⟩) 4 n else(⟨false,0,0⟩,⟨false,0,0⟩,cW n (cu s xs e t i f) (cu r zs g u d k)))):=by
 refine TE s y A xs.length e t z B i.length f r F C zs.length g u G E d.length k n _ w (fun w1 J=> ?_)
 have D: ∀{H:Bool} {R:Option Addr} {O:Nat} {p:List Nat} {v:Int} {I:Bool} {S:Option Addr} {Q:Nat} {q:List Nat} {x:Int},Rd w .u32 (.slice R p.length O) p→Dg.Small 4294967296 p→aS p v=0→Rd w .u32 (.slice S q.length Q) q→Dg.Small 4294967296 q→aS q x=0→ ∀m,yB w1 m→
   yC 57 #[ydV H (.slice R p.length O) v,ydV I (.slice S q.length Q) x] m (jN m (aK ⟨H,Dg.vl 4294967296 p,v⟩ ⟨I,Dg.vl 4294967296 q,x⟩)):=fun {H R O p v I S Q q x} r1 s1 c1 r2 s2 c2 m o=>by
  obtain⟨m1,m2,m3,m4,m5⟩:=aO c1 s1;obtain⟨o1,o2,o3,o4,o5⟩:=aO c2 s2;exact Ac _ _ ⟨H,Dg.vl 4294967296 p,v⟩ ⟨I,Dg.vl 4294967296 q,x⟩ m (jw (r1.l (aa J o)) s1 m1) (jw (r2.l (aa J o)) s2 o1) (by rw[m2];omega) (by rw[o2];omega) (by show-2000000000≤v;omega) (by show v≤2000000000;omega) (by show-2000000000≤x;omega) (by show x≤2000000000;omega)
 have P:cW n (cu s xs e t i f) (cu r zs g u d k)=0→(aS xs e=0∧aS i f=0)∧(aS zs g=0∧aS d k=0)∧1≤n∧n≤4096∧ ∀j,(Dg.dg 4294967296 (dk aK ⟨s,Dg.vl 4294967296 xs,e⟩ ⟨t,Dg.vl 4294967296 i,f⟩ ⟨r,Dg.vl 4294967296 zs,g⟩ ⟨u,Dg.vl 4294967296 d,k⟩ j).n).length≤9000∧ -100000≤(dk aK ⟨s,Dg.vl 4294967296 xs,e⟩ ⟨t,Dg.vl 4294967296 i,f⟩ ⟨r,Dg.vl 4294967296 zs,g⟩ ⟨u,Dg.vl 4294967296 d,k⟩ j).e∧(dk aK ⟨s,Dg.vl 4294967296 xs,e⟩ ⟨t,Dg.vl 4294967296 i,f⟩ ⟨r,Dg.vl 4294967296 zs,g⟩ ⟨u,Dg.vl 4294967296 d,k⟩ j).e≤100000:=fun h0=>by
  obtain⟨q1,q2,n1,n2⟩:=fh h0;obtain⟨i1,i2,_⟩:=dx q1;obtain⟨d1,d2,_⟩:=dx q2;obtain⟨v1,v2,v3,v4,v5⟩:=aO i1 K;obtain⟨u1,u2,u3,u4,u5⟩:=aO i2 L;obtain⟨z1,z2,z3,z4,z5⟩:=aO d1 M;obtain⟨y1,y2,y3,y4,y5⟩:=aO d2 N;refine⟨⟨i1,i2⟩,⟨d1,d2⟩,n1,n2,gA aK ⟨s,Dg.vl 4294967296 xs,e⟩ ⟨t,Dg.vl 4294967296 i,f⟩ ⟨r,Dg.vl 4294967296 zs,g⟩ ⟨u,Dg.vl 4294967296 d,k⟩ (fun T=>(Dg.dg 4294967296 T.n).length≤9000∧ -100000≤T.e∧T.e≤100000) ?_ ?_ ?_ ?_⟩
  ·exact uH (a:=⟨s,Dg.vl 4294967296 xs,e⟩) (b:=⟨r,Dg.vl 4294967296 zs,g⟩) (cf v2 v3) (cf z2 z3) v4 v5 z4 z5
  ·exact uH (a:=⟨s,Dg.vl 4294967296 xs,e⟩) (b:=⟨u,Dg.vl 4294967296 d,k⟩) (cf v2 v3) (cf y2 y3) v4 v5 y4 y5
  ·exact uH (a:=⟨t,Dg.vl 4294967296 i,f⟩) (b:=⟨r,Dg.vl 4294967296 zs,g⟩) (cf u2 u3) (cf z2 z3) u4 u5 z4 z5
  ·exact uH (a:=⟨t,Dg.vl 4294967296 i,f⟩) (b:=⟨u,Dg.vl 4294967296 d,k⟩) (cf u2 u3) (cf y2 y3) u4 u5 y4 y5
 exact Ai s y A xs.length e t z B i.length f r F C zs.length g u G E d.length k n 57 (cW n (cu s xs e t i f) (cu r zs g u d k)) (dk aK ⟨s,Dg.vl 4294967296 xs,e⟩ ⟨t,Dg.vl 4294967296 i,f⟩ ⟨r,Dg.vl 4294967296 zs,g⟩ ⟨u,Dg.vl 4294967296 d,k⟩) (du (dk aK ⟨s,Dg.vl 4294967296 xs,e⟩ ⟨t,Dg.vl 4294967296 i,f⟩ ⟨r,Dg.vl 4294967296 zs,g⟩ ⟨u,Dg.vl 4294967296 d,k⟩) 4 n) w1
  (fun a1 W=>zJ func57 (by kernel_rfl) (c:=_) rfl a1 W)
  (fun b m o h=>nH n b s y A xs e t z B i f r F C zs g u G E d k w U X Y Z K L M N m (aa J o) h)
  (fun h m o=>D U K (P h).1.1 Y M (P h).2.1.1 m o) (fun h m o=>D U K (P h).1.1 Z N (P h).2.1.2 m o) (fun h m o=>D X L (P h).1.2 Y M (P h).2.1.1 m o) (fun h m o=>D X L (P h).1.2 Z N (P h).2.1.2 m o)
  (fun h b a0 a2 m o a4 a3=>qu n b 4 _ a0 a2 m (by omega) (by omega) a4 a3 (P h).2.2.1 (P h).2.2.2.1 (fun j _=>((P h).2.2.2.2 j).1) (fun j _=>((P h).2.2.2.2 j).2.1) (fun j _=>((P h).2.2.2.2 j).2.2) (hT.l (aa J o)))
theorem expOut_ok {s:Bool}{xs:List Nat}{e b:Int}(h:(expOut s xs e b).2.2=0):
  EndK (expOut s xs e b).1∧EndK (expOut s xs e b).2.1∧SIn (ivT (expOut s xs e b).1 (expOut s xs e b).2.1) (er (qT ⟨s,Dg.vl 4294967296 xs,e⟩)):=by
 unfold expOut at*
 by_cases c:numR s xs e b≠0
 ·rw[if_pos c] at h
  exact absurd h c
 ·rw[if_neg c] at h⊢
  have k:numR s xs e b=0:=by omega
  have l:= @fit_exp s xs e b k;have m:=qT_bare ⟨s,Dg.vl 4294967296 xs,e⟩;generalize bare ⟨s,Dg.vl 4294967296 xs,e⟩=x at*;rw[←m]
  by_cases d:0<bJ (sizeT x) (wTr 12000)
  ·rw[if_pos d] at h
   cases h
  ·rw[if_neg d] at h⊢
   by_cases a:x.n=0
   ·rw[if_pos a]
    refine⟨end_one,end_one,fun _=>1, ?_,0,fun n _=> ?_⟩
    ·rw[qT_zero a]
     exact er_zero
    ·have:qT (wTr 1)=1:=by rw[qT_w];rfl
     constructor
     ·show qT (wTr 1)≤1
      rw[this];exact Rat.le_refl
     ·show(1:Rat)≤qT (wTr 1)
      rw[this];exact Rat.le_refl
   ·rw[if_neg a] at h⊢
    obtain⟨j,q,r⟩:=l d a;obtain⟨o,t,p,u⟩:=expV_any (B:=b.toNat+64) a j (by omega) (by omega);obtain⟨f,g,i⟩:=ball_end h;refine⟨f,g, ?_⟩;rw[i];exact o.cut (cut_ivS (expV x (b.toNat+64)) (b.toNat+32) (by omega) p)
end Go.Proofs.YthhiidikgchdeaaGreatDoor
