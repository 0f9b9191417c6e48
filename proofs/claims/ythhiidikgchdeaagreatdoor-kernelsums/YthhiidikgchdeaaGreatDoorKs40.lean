/- Texts laid together. -/
import Derived.Test.YthhiidikgchdeaaGreatDoorKs33
import Derived.Test.YthhiidikgchdeaaGreatDoorKs35
import Derived.Test.YthhiidikgchdeaaGreatDoorKs36
set_option maxRecDepth 100000
set_option maxHeartbeats 1600000
namespace Go.Proofs.YthhiidikgchdeaaGreatDoor
open _root_.Go.Proofs.Tryz
open Go.RowKit
theorem QB (s:Bool)(j:Option Addr)(o:Nat)(xs:List Nat)(e:Int)(t:Bool)(m:Option Addr)(p:Nat)(d:List Nat)(f:Int)(w:World)(T:ak)
  (U:Rd w .u32 (.slice j xs.length o) xs) (S:Rd w .u32 (.slice m d.length p) d) (Q:Tab w)
  (F:dQ xs e d f=0→(Dg.dg 4294967296 T.n).length≤30000∧ -1000000≤T.e∧T.e≤1000000∧ ∀a:World,yB w a→yC 55 #[ydV s (.slice j xs.length o) e,ydV t (.slice m d.length p) f] a (jN a T)):
  yC 54 #[ydV s (.slice j xs.length o) e,ydV t (.slice m d.length p) f,.func (.func 55) #[] #[]] w (gR w (cC (dQ xs e d f) T)):=by
 obtain⟨q,u,g,M,X⟩:=ju w (.bool s) (.slice j xs.length o) (yi e) (.bool t) (.slice m d.length p) (yi f) (.bool false) yN (yi 0) 25 25 25;obtain⟨W,R⟩: ∃W,(((w.alloc (.cells (ydA s (.slice j xs.length o) e) 25)).alloc (.cells (ydA t (.slice m d.length p) f) 25)).alloc (.cells (ydA false yN 0) 25))=W:=⟨_,rfl⟩;rw[R] at q u g M X;have bX:=af W (.cells #[.bool s,.slice j xs.length o,yi e,.bool t,.slice m d.length p,yi f] 25);have k:=aa M bX;have q:=q.l bX;have u:=u.l bX;have g:=g.l bX;have x:=xy W.heap.size s j o xs e t m p d f (W.alloc (.cells #[.bool s,.slice j xs.length o,yi e,.bool t,.slice m d.length p,yi f] 25))
  (by rw[World.cell?_alloc_at _ _ _ _ rfl];rfl) (by rw[World.cell?_alloc_at _ _ _ _ rfl];rfl) (by rw[World.cell?_alloc_at _ _ _ _ rfl];rfl) (by rw[World.cell?_alloc_at _ _ _ _ rfl];rfl) (by rw[World.cell?_alloc_at _ _ _ _ rfl];rfl) (by rw[World.cell?_alloc_at _ _ _ _ rfl];rfl)
  (U.l k) (S.l k)
 rw[X] at x;rw[←R] at x q u g k;clear bX M X R;unfold cC;obtain⟨c,hc⟩: ∃c,dQ xs e d f=c:=⟨_,rfl⟩;rw[hc] at x F⊢;clear hc;have ba:w.heap.size+1+1≠w.heap.size:=by omega
 have bb:w.heap.size≠w.heap.size+1+1:=by omega
 by_cases h:c=0
 ·subst h
  rw[if_pos rfl];obtain⟨hL,b7,b9,hk⟩:=F rfl;have HK:Hid _:=hk;have Y:Hid (∀v a,yB w a→Dv a v T→yC 67 #[v] a (gR a (bU T))):=fun v a i hv=>
   kL v T a hv (by omega) ⟨by omega,by omega⟩ (Q.l i) (by have:=gZ T.n 30000 hL;omega)
  clear F hk U S Q hL;obtain⟨r,a1⟩: ∃r,bU T=r:=⟨_,rfl⟩;rw[a1] at Y⊢;obtain⟨⟨rs,H,G⟩,rc⟩:=r;clear a1
  go_enter func54,ntmps54
  go_wp2_with fail
  refine x.mono ?_;rintro z a ⟨rfl,i⟩;have q:=q.l i;have u:=u.l i;have g:=g.l i;have k:=aa k i;have A:yB a a.drew:=(Below.refl _ _).drew;have q:=q.l A;have u:=u.l A;have g:=g.l A;have Z:=aa k A;obtain⟨-,⟨av,ax,ay⟩,-⟩:=id q;obtain⟨-,⟨az,b0,b2⟩,-⟩:=id u;clear x i A k
  go_wp2_with fail
  go_region_held3 (fun y=>(y.cell? ⟨w.heap.size,0,none⟩=some (.bool s)∧y.cell? ⟨w.heap.size,1,none⟩=some (.slice j xs.length o)∧y.cell? ⟨w.heap.size,2,none⟩=some (yi e))∧y.cell? ⟨w.heap.size+1,0,none⟩=some (.bool t)∧y.cell? ⟨w.heap.size+1,1,none⟩=some (.slice m d.length p)∧y.cell? ⟨w.heap.size+1,2,none⟩=some (yi f)) (go_keep) (first
   | (go_at_call 59;refine(iK s j xs.length o e a.drew).mono ?_;rintro z w3 ⟨rfl,B⟩;have a2:=q.l B;have a5:=u.l B;have aq:=g.l B;have ac:=aa Z B;obtain⟨-,⟨p0,p1,p2⟩,-⟩:=id a2;obtain⟨-,⟨p3,p4,p5⟩,-⟩:=id a5;clear Z)
   | (go_at_call 59;refine(iK t m d.length p f w3).mono ?_;rintro z w4 ⟨rfl,C⟩;have a3:=a2.l C;have a6:=a5.l C;have ar:=aq.l C;have a0:=aa ac C;obtain⟨-,⟨q0,q1,q2⟩,-⟩:=id a3;obtain⟨-,⟨q3,q4,q5⟩,-⟩:=id a6)
   | (go_at_call 55;refine(HK.out w4 a0).mono ?_;rintro z w5 ⟨vs,rfl,o5,D⟩;have a4:=a3.l D;have a7:=a6.l D;have a8:=ar.l D;have K:=aa a0 D;obtain⟨-,⟨t0,t1,t2⟩,-⟩:=id a4;obtain⟨-,⟨t3,t4,t5⟩,-⟩:=id a7)
   | (go_at_call 67;refine(Y.out _ w5 K ⟨vs,rfl,o5.rd⟩).mono ?_;rintro z w6 ⟨vr,rfl,o6,E⟩;have an:=a4.l E;have ap:=a7.l E;have a9:=a8.l E;have ad:=aa K E;obtain⟨-,⟨u0,u1,u2⟩,-⟩:=id an;obtain⟨-,⟨u3,u4,u5⟩,-⟩:=id ap;obtain⟨J,I,al⟩:=o6.rd.shape;subst al;obtain⟨ae,⟨d0,d1,d2⟩,f0,f1,f2⟩:=id a9))
  all_goals go_wp2
  obtain⟨-,⟨N,O,P⟩,-⟩:=aD a9 (.bool rs) (yT J H I) (yi G);have o7:=o6.apart3 (b:=w.heap.size+1+1) a8.1 (.bool rs) (yT J H I) (yi G);have L:=am ad (show w.heap.size≤w.heap.size+1+1 by omega) (.bool rs) (yT J H I) (yi G)
  refine bodyPost_ret (v:= .tuple #[ydV rs (yT J H I) G,yi rc]) (by simp[results,results54,go_sem,N,O,P]) rfl ?_;exact⟨_,rfl,o7.lower K.size,L⟩
 ·rw[if_neg h]
  clear F U S Q
  go_enter func54,ntmps54
  go_wp2_with fail
  refine x.mono ?_;rintro z a ⟨rfl,i⟩;have g:=g.l i;have k:=aa k i;obtain⟨ae,⟨d0,d1,d2⟩,f0,f1,f2⟩:=id g;clear x i
  go_wp2
  obtain⟨-,⟨N,O,P⟩,-⟩:=aD g (.bool false) yN (yi 0);have L:=am k (show w.heap.size≤w.heap.size+1+1 by omega) (.bool false) yN (yi 0)
  refine bodyPost_ret (v:= .tuple #[ydV false yN 0,yi c]) (by simp[results,results54,go_sem,N,O,P]) rfl ?_;exact⟨_,rfl,aQ _ _ _ _,L⟩
theorem lT (s:Bool)(b:Option Addr)(i:Nat)(xs:List Nat)(e:Int)(t:Bool)(d:Option Addr)(j:Nat)(a:List Nat)(f:Int)(w:World)
  (E:Rd w .u32 (.slice b xs.length i) xs) (D:Rd w .u32 (.slice d a.length j) a) (F:Dg.Small 4294967296 xs) (G:Dg.Small 4294967296 a):
  yC 166 #[ydV s (.slice b xs.length i) e,ydV t (.slice d a.length j) f] w fun z w'=>
   z= .returned (.tuple #[yi (xw (dQ xs e a f) ⟨s,Dg.vl 4294967296 xs,e⟩ ⟨t,Dg.vl 4294967296 a,f⟩),yi (dQ xs e a f)])∧yB w w':=by
 have C:=aa (af w (.cells (ydA s (.slice b xs.length i) e) 25)) (af _ (.cells (ydA t (.slice d a.length j) f) 25));have o:=(aA w (.bool s) (.slice b xs.length i) (yi e) 25).l (af _ (.cells (ydA t (.slice d a.length j) f) 25));have k:=aA (w.alloc (.cells (ydA s (.slice b xs.length i) e) 25)) (.bool t) (.slice d a.length j) (yi f) 25;rw[World.size_alloc] at k;obtain⟨W,x⟩: ∃W,((w.alloc (.cells (ydA s (.slice b xs.length i) e) 25)).alloc (.cells (ydA t (.slice d a.length j) f) 25))=W:=⟨_,rfl⟩;have R:W.heap.size=w.heap.size+1+1:=by rw[←x];simp[World.size_alloc]
 rw[x] at C o k;have bX:=af W (.cells #[.bool s,.slice b xs.length i,yi e,.bool t,.slice d a.length j,yi f] 25);have m:=aa C bX;have o:=o.l bX;have k:=k.l bX;have p:=xy W.heap.size s b i xs e t d j a f (W.alloc (.cells #[.bool s,.slice b xs.length i,yi e,.bool t,.slice d a.length j,yi f] 25))
  (by rw[World.cell?_alloc_at _ _ _ _ rfl];rfl) (by rw[World.cell?_alloc_at _ _ _ _ rfl];rfl) (by rw[World.cell?_alloc_at _ _ _ _ rfl];rfl) (by rw[World.cell?_alloc_at _ _ _ _ rfl];rfl) (by rw[World.cell?_alloc_at _ _ _ _ rfl];rfl) (by rw[World.cell?_alloc_at _ _ _ _ rfl];rfl)
  (E.l m) (D.l m)
 rw[R] at p;rw[←x] at p o k m;have u:Hid (dQ xs e a f=0→yH w 22 #[ydV s (.slice b xs.length i) e,ydV t (.slice d a.length j) f] (yi (dJ (aG ⟨s,Dg.vl 4294967296 xs,e⟩ (dV ⟨t,Dg.vl 4294967296 a,f⟩))))):=fun h q n=>by
  obtain⟨Z,h2⟩:=iN h;obtain⟨X,e1,e2⟩:=bL Z;obtain⟨Y,f1,f2⟩:=bL h2;have H:=aF X;have I:=aF Y;have x1:(Dg.dg 4294967296 (Dg.vl 4294967296 xs)).length≤1200:=by rw[←Dg.eq_dg 4294967296 (by omega) xs _ F H.1 rfl];exact H.2
  have x2:(Dg.dg 4294967296 (Dg.vl 4294967296 a)).length≤1200:=by rw[←Dg.eq_dg 4294967296 (by omega) a _ G I.1 rfl];exact I.2
  exact iE _ _ _ _ q (jw (E.l n) F H.1) (jw (D.l n) G I.1) (by simp only;omega) (by simp only;omega) (by simp only;omega) (by simp only;omega) (by simp only;omega) (by simp only;omega)
 unfold xw;obtain⟨c,L⟩: ∃c,dQ xs e a f=c:=⟨_,rfl⟩;rw[L] at p u⊢;obtain⟨g,M⟩: ∃g,dJ (aG ⟨s,Dg.vl 4294967296 xs,e⟩ (dV ⟨t,Dg.vl 4294967296 a,f⟩))=g:=⟨_,rfl⟩;rw[M] at u⊢;clear L M C bX R x E D F G
 by_cases h:c=0
 ·subst h
  rw[if_pos rfl];have S:Hid (yH w 22 #[ydV s (.slice b xs.length i) e,ydV t (.slice d a.length j) f] (yi g)):=u.out rfl;clear u
  go_enter func166,ntmps166
  go_wp2_with fail
  refine p.mono ?_;rintro z q ⟨rfl,n⟩;have o:=o.l n;have k:=k.l n;have m:=aa m n;have v:yB q q.drew:=(Below.refl _ _).drew;have o:=o.l v;have k:=k.l v;have J:=aa m v;obtain⟨-,⟨a2,a3,a4⟩,-⟩:=id o;obtain⟨-,⟨a5,a6,a7⟩,-⟩:=id k;clear p n v m
  go_wp2_with fail
  go_region_held3 (fun r=>(r.cell? ⟨w.heap.size,0,none⟩=some (.bool s)∧r.cell? ⟨w.heap.size,1,none⟩=some (.slice b xs.length i)∧r.cell? ⟨w.heap.size,2,none⟩=some (yi e))∧r.cell? ⟨w.heap.size+1,0,none⟩=some (.bool t)∧r.cell? ⟨w.heap.size+1,1,none⟩=some (.slice d a.length j)∧r.cell? ⟨w.heap.size+1,2,none⟩=some (yi f)) (go_keep) (first
   | (go_at_call 59;refine(iK s b xs.length i e q.drew).mono ?_;rintro z w3 ⟨rfl,y⟩;have N:=o.l y;have P:=k.l y;have T:=aa J y;obtain⟨-,⟨p0,p1,p2⟩,-⟩:=id N;obtain⟨-,⟨p3,p4,p5⟩,-⟩:=id P;clear J)
   | (go_at_call 59;refine(iK t d a.length j f w3).mono ?_;rintro z w4 ⟨rfl,A⟩;have O:=N.l A;have Q:=P.l A;have K:=aa T A;obtain⟨-,⟨q0,q1,q2⟩,-⟩:=id O;obtain⟨-,⟨q3,q4,q5⟩,-⟩:=id Q)
   | (go_at_call 22;refine(S.out w4 K).mono ?_;rintro z w5 ⟨rfl,B⟩;have a0:=O.l B;have a1:=Q.l B;have U:=aa K B;obtain⟨-,⟨t0,t1,t2⟩,-⟩:=id a0;obtain⟨-,⟨t3,t4,t5⟩,-⟩:=id a1))
  all_goals go_wp2
  go_ret2
  exact⟨rfl,U⟩
 ·rw[if_neg h]
  clear u
  go_enter func166,ntmps166
  go_wp2_with fail
  refine p.mono ?_;rintro z q ⟨rfl,n⟩;have m:=aa m n;clear p n
  go_wp2
  go_ret2
  exact⟨rfl,m⟩
theorem over_ivS {s t:ak×ak}{B:Nat}{X1 X2:Rat}(c:1≤B)(hs:0<qT s.1)(h:qT s.1≤qT s.2)(q:0<qT t.1)(m:qT t.1≤qT t.2)(p:X1*qT t.2=qT s.1)(A:X2*qT t.1=qT s.2):
  IvN.Cut (p2 (2-(B:Int))) ⟨X1,X2⟩ (ivS (overS4 s t B))∧0<X1∧X1≤X2:=by
 have a3:0<qT s.2:=by grind
 have l:0<qT t.2:=by grind
 have p1:0<X1:=cancel_lt l (by rw[p];grind);have a5:0<X2:=cancel_lt q (by rw[A];grind);have one: ∀a b:ak,qT s.1≤qT a→qT a≤qT s.2→qT t.1≤qT b→qT b≤qT t.2→ ∃X,X*qT b=qT a∧X1≤X∧X≤X2∧(cK a b B).s=false∧b.n≠0:=by
  intro a b a1 a2 G H;have g:0<qT b:=by grind
  have Y:0<qT a:=by grind
  obtain⟨X,d⟩: ∃X,X*qT b=qT a:=⟨qT a/qT b,Rat.div_mul_cancel (by grind)⟩;have a4:0<X:=cancel_lt g (by rw[d];grind);refine⟨X,d, ?_, ?_, ?_,(pos_sign g).2⟩
  ·refine cancel_le l ?_
   rw[p];have:=Rat.mul_le_mul_of_nonneg_left H (show 0≤X by grind)
   grind
  ·refine cancel_le g ?_
   rw[d];have:=Rat.mul_le_mul_of_nonneg_left G (show 0≤X2 by grind)
   grind
  ·unfold cK d8
   simp only;rw[(pos_sign Y).1,(pos_sign g).1];rfl
 have dk: ∀j,j≤3→ ∃a b X,fourO s.1 s.2 t.1 t.2 B j=cK a b B∧X*qT b=qT a∧X1≤X∧X≤X2∧(cK a b B).s=false∧b.n≠0:=by
  intro j F
  rcases(by omega:j=0∨j=1∨j=2∨j=3) with rfl|rfl|rfl|rfl
  ·obtain⟨X,z⟩:=one s.1 t.1 Rat.le_refl h Rat.le_refl m;exact⟨_,_,X,rfl,z⟩
  ·obtain⟨X,z⟩:=one s.1 t.2 Rat.le_refl h m Rat.le_refl;exact⟨_,_,X,rfl,z⟩
  ·obtain⟨X,z⟩:=one s.2 t.1 h Rat.le_refl Rat.le_refl m;exact⟨_,_,X,rfl,z⟩
  ·obtain⟨X,z⟩:=one s.2 t.2 h Rat.le_refl m Rat.le_refl;exact⟨_,_,X,rfl,z⟩
 obtain⟨i,Z,u⟩:=Po (fourO s.1 s.2 t.1 t.2 B) 3;obtain⟨j,F,v⟩:=Pp (fourO s.1 s.2 t.1 t.2 B) 3;have D:=qlo_le (fourO s.1 s.2 t.1 t.2 B) 3 1 (by omega);have C:=qhi_ge (fourO s.1 s.2 t.1 t.2 B) 3 2 (by omega);obtain⟨a,b,X,w,K,x,L,o,M⟩:=dk i Z;obtain⟨e,f,r,y,N,g3,O,P,Q⟩:=dk j F;have s1:(cK s.1 t.2 B).s=false:=by
  unfold cK d8;simp only;rw[(pos_sign hs).1,(pos_sign l).1];rfl
 have s2:(cK s.2 t.1 B).s=false:=by
  unfold cK d8;simp only;rw[(pos_sign a3).1,(pos_sign q).1];rfl
 obtain⟨I,-⟩:=over_cut s.1 t.2 B c (pos_sign l).2 p;obtain⟨-,J⟩:=over_cut s.2 t.1 B c (pos_sign q).2 A;obtain⟨n1,-⟩:=over_cut_near a b B c M K false;obtain⟨n2,q2⟩:=over_cut_near e f B c Q N true;have d:ab X=X:=by unfold ab;grind
 have E:ab r=r:=by unfold ab;grind
 rw[d,ab_le] at n1;rw[E,ab_le] at n2;rw[E] at q2;have eL:(ivS (overS4 s t B)).lo=qT (aY (cK a b B) B false):=by
  show qT (aY (loT (fourO s.1 s.2 t.1 t.2 B) 3) B false)=_
  rw[u,w]
 have eH:(ivS (overS4 s t B)).hi=qT (aY (cK e f B) B true):=by
  show qT (aY (hiT (fourO s.1 s.2 t.1 t.2 B) 3) B true)=_
  rw[v,y]
 rw[u,w] at D;rw[v,y] at C;have k1:=(cut_lo (cK a b B) B (by omega)).1;have k2:=(cut_lo (cK e f B) B (by omega)).2;have S:qT (cK a b B)≤qT (cK s.1 t.2 B):=D;have R:qT (cK s.2 t.1 B)≤qT (cK e f B):=C;have r1:=(cut_grid c s1 (cut_is_grid c o false)).1 (Rat.le_trans k1 S);have r2:=(cut_grid c s2 (cut_is_grid c P true)).2 (Rat.le_trans R k2);have hd:=p2_pos (2-(B:Int));have T:ab X1=X1:=by unfold ab;grind
 have U:ab X2=X2:=by unfold ab;grind
 have W:X1≤X2:=Rat.le_trans x L;refine⟨⟨?_, ?_, ?_, ?_,fun k hk=> ?_⟩,p1,W⟩
 ·rw[eL]
  exact Rat.le_trans r1 I
 ·rw[eH]
  exact Rat.le_trans J r2
 ·rw[eL]
  show X1-_≤p2 (2-(B:Int))*ab X1
  rw[T]
  by_cases cc:p2 (2-(B:Int))≤1
  ·have:=Rat.mul_le_mul_of_nonneg_left x (show 0≤1-p2 (2-(B:Int)) by grind)
   grind
  ·have z:=qT_nn (show(aY (cK a b B) B false).s=false by rw[cut_sign];exact o)
   have:=Rat.mul_le_mul_of_nonneg_right (show 1≤p2 (2-(B:Int)) by grind) (show 0≤X1 by grind)
   grind
 ·rw[eH]
  show _-X2≤p2 (2-(B:Int))*ab X2
  rw[U];have:=Rat.mul_le_mul_of_nonneg_left O (show 0≤1+p2 (2-(B:Int)) by grind)
  grind
 ·have a0: -(hf k)≤X1∧X2≤hf k:=hk
  have z:=qT_nn (show(aY (cK a b B) B false).s=false by rw[cut_sign];exact o)
  have hh:=hf_pos k
  constructor
  ·rw[eL];grind
  ·rw[eH]
   rw[←p2_hf] at a0⊢;have:=q2 (-(k:Int)) (by grind);rw[ab_le] at this;exact this.1
theorem snarrow9 (v:Value)(a b:ak)(n:Nat)(w:World)(J:SpanV w v a b)(j:Fit9 a)(m:Fit9 b)(F:0<qT a)(P:qT b-qT a≤p2 (-(n:Int))*qT a)(Q:qT a≤qT b)(R:n≤10000):
  yC 72 #[v,yi n] w (yR w (.bool true)):=by
 obtain⟨q,r⟩:=pos_sign F;obtain⟨h,s⟩:=pos_sign (show 0<qT b by grind)
 obtain⟨t,u,rfl,i,k⟩:=J;obtain⟨A,z,rfl⟩:=i.shape;obtain⟨E,D,rfl⟩:=k.shape;obtain⟨N,x,y⟩:=j.all;obtain⟨O,B,C⟩:=m.all;obtain⟨S,e,d⟩:=a;obtain⟨T,bn,g⟩:=b;simp only at q h r s i k N O x y B C;subst q h;have K:RgT 2000000000 2000000000 (aG ⟨false,bn,g⟩ (dV ⟨false,e,d⟩)):=(RgT.plus m j.neg).mono (by omega) (by omega);have M:RgT 2000000000 2000000000 (upT ⟨false,e,d⟩ (-(n:Int))):=(j.up (-(n:Int))).mono (by omega) (by omega);have H:bJ (aG ⟨false,bn,g⟩ (dV ⟨false,e,d⟩)) (upT ⟨false,e,d⟩ (-(n:Int)))≤0:=by
  rcases Int.lt_or_le 0 (bJ (aG ⟨false,bn,g⟩ (dV ⟨false,e,d⟩)) (upT ⟨false,e,d⟩ (-(n:Int)))) with c|c
  ·rw[cmp_gt,qT_up,qT_plus,qT_neg] at c
   exfalso
   grind
  ·exact c
 have t:dJ ⟨false,e,d⟩=1:=by unfold dJ;rw[if_neg r];rfl
 have u:dJ ⟨false,bn,g⟩=1:=by unfold dJ;rw[if_neg s];rfl
 have I:IntKind.i64.wrap (d+ -(n:Int))=d+ -(n:Int):=IntWalk.i64_in _ ⟨by omega,by omega⟩;refine narrow_W ⟨false,e,d⟩ ⟨false,bn,g⟩ A E z D _ n (-(n:Int)) (d+ -(n:Int)) _ w i (IntWalk.i64_in _ ⟨by omega,by omega⟩) H
  (fun f h=>signs_pos ⟨false,e,d⟩ ⟨false,bn,g⟩ _ _ _ _ f (fun p o=> ?_) (fun p o=> ?_))
  (fun f h=>dminus9 _ _ ⟨false,bn,g⟩ ⟨false,e,d⟩ f ⟨_,rfl,k.l h⟩ ⟨_,rfl,i.l h⟩ m j)
  (fun f=>dsize_W ⟨false,e,d⟩ _ _ f) (fun f=>dscaled_W _ _ _ _ _ _ _ f I)
  (fun W U f _ L G=>dcmp9 _ _ _ (upT ⟨false,e,d⟩ (-(n:Int))) f ⟨_,rfl,L⟩ ⟨_,rfl,G⟩ K M)
 ·have:=qB _ ⟨false,e,d⟩ p ⟨_,rfl,(i.l h).l o⟩
  rwa [t] at this
 ·have:=qB _ ⟨false,bn,g⟩ p ⟨_,rfl,(k.l h).l o⟩
  rwa [u] at this
theorem expI {x:ak}{B:Nat}(a:84≤B)(b:B≤1000)(g:x.s=false)(f:x.n≠0)(e:RgT 40000 14 x):
  ∃I:Nat→ak×ak→ak×ak→Prop,I 0 (wTr 1,wTr 1) (wTr 1,wTr 1)∧ ∀k s t,I k s t→k≤B+1∧RgS 400000000 400000000 s∧RgS 400000000 400000000 t∧RgS 400000000 400000000 (partS (timesS t (restE x B (lnSpan x B)).2) (nxE (k+1)).1 (nxE (k+1)).2 B)∧
   (¬smallS (partS (timesS t (restE x B (lnSpan x B)).2) (nxE (k+1)).1 (nxE (k+1)).2 B) B→I (k+1) (cutSp (plusS s (partS (timesS t (restE x B (lnSpan x B)).2) (nxE (k+1)).1 (nxE (k+1)).2 B)) B) (partS (timesS t (restE x B (lnSpan x B)).2) (nxE (k+1)).1 (nxE (k+1)).2 B)):=by
 obtain⟨h,i,j,-⟩:=restE_any (l:=CxN.la) a b g f (expU a b e);obtain⟨m,-⟩:=wide_of a b;refine pws_walk (c:=cExp) (mu:=1/2) (wU:=p2 (17-(B:Int))) (d:=p2 (2-(B:Int))) (E:=100000) (T:=200000) (by omega) rfl (fun k=>⟨(cE_in k).1,(cE_in k).2.1⟩) (fun k=>(cE_in k).2.2) h i (fun k=> ?_) j m (restE_fit g f e a b).2 (by omega) (by omega) (fun k o=> ?_) ?_
 ·have:=(cE_in k).2.1
  grind
 ·have:(2:Nat)^30=1073741824:=by decide
  show 1<2^30∧k+1<2^30
  omega
 ·have:((B:Int)+3)*(100000+200000+(B:Int)+50)≤1003*(301050):=Int.mul_le_mul (by omega) (by omega) (by omega) (by omega)
  omega
theorem expS_rg {x:ak}{B:Nat}(g:x.s=false)(f:x.n≠0)(c:RgT 40000 14 x)(d:84≤B)(e:B≤1000):RgS 410000000 410000000 (expS x B (lnSpan x B)):=by
 obtain⟨I,I0,b⟩:=expI d e g f c;have gP:=pws_rg (nx:=nxE) (by omega) b (B+2) 0 _ _ I0 (by omega);have j:=(restE_fit g f c d e).1;have h:(2:Nat)^16=65536:=by decide
 rw[h] at j;unfold expS;obtain⟨P,a⟩: ∃P,pwsT (restE x B (lnSpan x B)).2 B nxE (B+2) 1 (wTr 1,wTr 1) (wTr 1,wTr 1)=P:=⟨_,rfl⟩;have i:RgS 400000001 400000004 P:=by rw[←a];exact gP
 rw[a];clear a gP b I0;generalize(restE x B (lnSpan x B)).1=N at*;exact(i.up (N:Int)).mono (by omega) (by omega)
theorem expV_fit {x:ak}{B:Nat}(f:x.n≠0)(d:RgT 40000 14 x)(e:84≤B)(a:B≤1000):RgS 500000010 500000010 (expV x B):=by
 have g:=expS_rg (x:=sizeT x) rfl f d e a;unfold expV;generalize expS (sizeT x) B (lnSpan (sizeT x) B)=P at*;obtain⟨p,q⟩:=P
 split
 ·have c: ∀j,RgT 500000000 500000000 (fourO (wTr 1) (wTr 1) p q B j):=fun j=>by
   match j with
   |0=>exact over_rg g.1 (by omega) a
   |1=>exact over_rg g.2 (by omega) a
   |2=>exact over_rg g.1 (by omega) a
   |_+3=>exact over_rg g.2 (by omega) a
  have go:RgS 500000000 500000000 (loT (fourO (wTr 1) (wTr 1) p q B) 3,hiT (fourO (wTr 1) (wTr 1) p q B) 3):=⟨RgT.lo fun j _=>c j,RgT.hi fun j _=>c j⟩
  exact(go.cut (b:=B) (by omega)).mono (by omega) (by omega)
 ·exact g.mono (by omega) (by omega)
end Go.Proofs.YthhiidikgchdeaaGreatDoor
