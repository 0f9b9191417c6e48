/- Texts laid together. -/
import Derived.Test.YthhiidikgchdeaaGreatDoorKs19
import Derived.Test.YthhiidikgchdeaaGreatDoorKs31
import Derived.Test.YthhiidikgchdeaaGreatDoorKs32
import Derived.Test.YthhiidikgchdeaaGreatDoorKs34
set_option maxRecDepth 100000
set_option maxHeartbeats 3200000
namespace Go.Proofs.YthhiidikgchdeaaGreatDoor
open _root_.Go.Proofs.Tryz
open Go.RowKit
theorem fH {K:Nat}{a b:ak}(t: -(K:Int)≤a.e)(u: -(K:Int)≤b.e)(h:V K a=V K b):bare a=bare b:=by
 rw[eV,eV] at h;have p1:0<2^ (a.e+K).toNat:=Nat.pow_pos (by omega);have p2:0<2^ (b.e+K).toNat:=Nat.pow_pos (by omega);unfold bare
 by_cases c:a.n=0
 ·have:b.n=0:=by
   rw[c,Nat.zero_mul] at h
   by_cases d:b.n=0
   ·exact d
   ·have f:b.n*2^ (b.e+K).toNat≠0:=Nat.ne_of_gt (Nat.mul_pos (by omega) p2)
    have:=(QI h.symm f).2;omega
  rw[if_pos c,if_pos this]
 ·have f:a.n*2^ (a.e+K).toNat≠0:=Nat.ne_of_gt (Nat.mul_pos (by omega) p1)
  obtain⟨r,g⟩:=QI h f;have d:b.n≠0:=by
   intro e;rw[e,Nat.zero_mul] at g;exact f g
  rw[if_neg c,if_neg d];obtain⟨m,i⟩:=fO c;obtain⟨k,j⟩:=fO d;have l:=lI i;have o:=lI j;have p:2^ (tz a.n+(a.e+K).toNat)*(2*m+1)=2^ (tz b.n+(b.e+K).toNat)*(2*k+1):=by
   rw[Nat.pow_add,Nat.pow_add,Nat.mul_assoc,Nat.mul_comm (2^ (a.e+K).toNat),←Nat.mul_assoc,←i,Nat.mul_assoc,Nat.mul_comm (2^ (b.e+K).toNat),←Nat.mul_assoc,←j];exact g
  obtain⟨s,q⟩:=Dh p;rw[l,o,r,q];have:a.e+(tz a.n:Int)=b.e+(tz b.n:Int):=by omega
  rw[this]
theorem pJ {zs:List Nat}(h:Dg.Norm zs)(a:zs.length≤1200):chk zs=0:=by
 unfold chk;rw[if_neg (fun c=>h (List.length_pos_iff.1 c.1) c.2),if_neg (by omega)]
theorem oZ {xs:List Nat}(a:Dg.Small 4294967296 xs):Dg.vl 4294967296 xs<65536^ (2*xs.length):=by
 rw[JJ];exact Dg.vl_lt _ _ a
theorem zX {xs:List Nat}(a:Dg.Small 4294967296 xs):(Dg.dg 65536 (Dg.vl 4294967296 xs)).length≤2*xs.length:=
 Dg.dg_len_le _ _ _ (by omega) (oZ a)
theorem Aw (s:Bool)(b:Option Addr)(c:Nat)(xs:List Nat)(e:Int)(w:World)(G:Rd w .u32 (.slice b xs.length c) xs)(u:Dg.Small 4294967296 xs)(T:xs.length≤20000)(U: -1000000≤e)(X:e≤1000000):
  yC 32 #[ydV s (.slice b xs.length c) e] w (di w (bare ⟨s,Dg.vl 4294967296 xs,e⟩)):=by
 have A:Hid (∀a,yB w a→yC 83 #[.slice b xs.length c] a (cG a (Dg.vl 4294967296 xs))):=fun a N=>fQ _ xs a (G.l N) u (by omega)
 have E:(Dg.dg 65536 (Dg.vl 4294967296 xs)).length≤100000:=by have:=zX u;omega
 obtain⟨n,F⟩: ∃n,Dg.vl 4294967296 xs=n:=⟨_,rfl⟩;rw[F] at A E⊢;have y:Hid (∀v a,Rv a v ⟨s,n,e⟩→yC 82 #[v] a (di a (bare ⟨s,n,e⟩))):=fun v a Y=>lA v _ a Y E U X
 obtain⟨⟨p,bn,o⟩,D⟩: ∃P,bare ⟨s,n,e⟩=P:=⟨_,rfl⟩;rw[D] at y⊢;clear F D G u T;have r:=aa (af w (.cells (ydA s (.slice b xs.length c) e) 25)) (af _ (.cells (ydA false yN 0) 59));have d:=(aA w (.bool s) (.slice b xs.length c) (yi e) 25).l (af _ (.cells (ydA false yN 0) 59));have f:=aA (w.alloc (.cells (ydA s (.slice b xs.length c) e) 25)) (.bool false) yN (yi 0) 59;have g:=dI (w.alloc (.cells (ydA s (.slice b xs.length c) e) 25)) 59;rw[World.size_alloc] at f g;obtain⟨W,t⟩: ∃W,((w.alloc (.cells (ydA s (.slice b xs.length c) e) 25)).alloc (.cells (ydA false yN 0) 59))=W:=⟨_,rfl⟩;rw[t] at r d f g;have h:yB W W.drew:=(Below.refl _ _).drew;have d:=d.l h;have f:=f.l h;have g:=g.l h;have q:=aa r h;rw[←t] at d f g q;clear r h t;obtain⟨-,⟨c0,c1,c2⟩,-⟩:=id d;have a6:w.heap.size+1≠w.heap.size:=by omega
 go_enter func32,ntmps32
 go_wp2_with fail
 go_region_held3 (fun x=>x.cell? ⟨w.heap.size,0,none⟩=some (.bool s)∧x.cell? ⟨w.heap.size,1,none⟩=some (.slice b xs.length c)∧x.cell? ⟨w.heap.size,2,none⟩=some (yi e)) (go_keep) (first
  | (go_at_call 83;refine(A.out _ q).mono ?_;rintro z w3 ⟨vs,rfl,J,k⟩;have H:=d.l k;have a2:=f.l k;have a3:=g.l k;have B:=aa q k;obtain⟨-,⟨p0,p1,p2⟩,-⟩:=id H;obtain⟨a8,a7,Z⟩:=J.shape;subst Z)
  | (go_at_call 82;refine(y.out _ w3 ⟨_,rfl,J⟩).mono ?_;rintro z w4 ⟨vt,rfl,K,C,m⟩;have a1:=H.l m;have I:=a2.l m;have a4:=a3.l m;have M:=aa B m;obtain⟨j,i,a0⟩:=K.shape;subst a0;have L:Hid (Far w.heap.size (yS j bn i)):=C.mono B.size;clear C;obtain⟨-,⟨q0,q1,q2⟩,-⟩:=id a1;obtain⟨a5,⟨d0,d1,d2⟩,f0,f1,f2⟩:=id I))
 all_goals go_wp2
 obtain⟨-,⟨Q,R,S⟩,-⟩:=aD I (.bool p) (yS j bn i) (yi o);have r7:=a4.rd K (Dg.norm_dg _ _ (by omega)) (.bool p) (yS j bn i) (yi o);have O:=am M (show w.heap.size≤w.heap.size+1 by omega) (.bool p) (yS j bn i) (yi o)
 refine bodyPost_ret (v:=(ydV p (yS j bn i) o)) (by simp[results,results32,go_sem,Q,R,S]) rfl ?_;exact⟨_,rfl,r7,L.out,O⟩
theorem vM (v u:Value)(a b:ak)(w:World)(hv:Rv w v a)(hu:Rv w u b)(a0:(Dg.dg 65536 a.n).length≤30000)(a1:(Dg.dg 65536 b.n).length≤30000)
  (F: -200000≤a.e) (G:a.e≤200000) (H: -200000≤b.e) (I:b.e≤200000):
  yC 42 #[v,u] w (di w (bare (cO a b))):=by
 obtain⟨s0,rfl,U⟩:=hv;obtain⟨A,C,rfl⟩:=U.shape;obtain⟨s1,rfl,W⟩:=hu;obtain⟨B,D,rfl⟩:=W.shape;obtain⟨m,i,d⟩:=a;obtain⟨o,bn,g⟩:=b;simp only at U W a0 a1 F G H I⊢;obtain⟨E,N⟩: ∃E:Int,(if bn=0 then d else if i=0 then g else min d g)=E:=⟨_,rfl⟩
 have hl: -200000≤E∧E≤200000:=by
  rw[←N];split
  ·omega
  ·split<;>omega
 obtain⟨X,O⟩: ∃X,i*2^ (max 0 (d-E)).toNat=X:=⟨_,rfl⟩;obtain⟨Y,R⟩: ∃Y,bn*2^ (max 0 (g-E)).toNat=Y:=⟨_,rfl⟩;have hd:cO ⟨m,i,d⟩ ⟨o,bn,g⟩=if m=o then⟨m,X+Y,E⟩ else if Y≤X then⟨m,X-Y,E⟩ else⟨o,Y-X,E⟩:=by
  simp only[cO,N,O,R]
 have S:((((Dg.dg 65536 i).length:Int)==0)=false∧(((Dg.dg 65536 bn).length:Int)==0)=false∧min d g=E)∨((((Dg.dg 65536 i).length:Int)==0)=true∧(((Dg.dg 65536 bn).length:Int)==0)=false∧g=E)∨((((Dg.dg 65536 i).length:Int)==0)=false∧(((Dg.dg 65536 bn).length:Int)==0)=true∧d=E)∨((((Dg.dg 65536 i).length:Int)==0)=true∧(((Dg.dg 65536 bn).length:Int)==0)=true∧d=E):=by
  rw[len_zero,len_zero,←N]
  by_cases j:i=0<;>by_cases k:bn=0<;>simp[j,k]
 have lx:(Dg.dg 65536 X).length≤55001:=by rw[←O];exact Nat.le_trans (jZ i _ 30000 25001 a0 (by omega)) (by omega)
 have ly:(Dg.dg 65536 Y).length≤55001:=by rw[←R];exact Nat.le_trans (jZ bn _ 30000 25001 a1 (by omega)) (by omega)
 have wr: ∀e:Int,-200000≤e→e≤200000→IntKind.i64.wrap (e-E)=e-E:=fun e j k=>IntWalk.i64_in _ ⟨by omega,by omega⟩
 have L: ∀c,yB w c→yC 85 #[yS A i C,yi (max 0 (d-E))] c (cG c X):=fun c f=>by
  have:=kD _ _ (max 0 (d-E)).toNat c (U.l f) (Dg.small_dg _ _ (by omega)) (by omega) (by omega)
  rwa [Dg.vl_dg _ _ (by omega),Int.toNat_of_nonneg (by omega),O] at this
 have M: ∀c,yB w c→yC 85 #[yS B bn D,yi (max 0 (g-E))] c (cG c Y):=fun c f=>by
  have:=kD _ _ (max 0 (g-E)).toNat c (W.l f) (Dg.small_dg _ _ (by omega)) (by omega) (by omega)
  rwa [Dg.vl_dg _ _ (by omega),Int.toNat_of_nonneg (by omega),R] at this
 have K: ∀s Z z y c,(Dg.dg 65536 Z).length≤100000→yB w c→Rd c .i64 (yS z Z y) (Dg.dg 65536 Z)→yC 82 #[ydV s (yS z Z y) E] c (Xi w.heap.size c (bare ⟨s,Z,E⟩)):=
  fun s Z z y c h f r=>(lA _ ⟨s,Z,E⟩ c ⟨_,rfl,r⟩ h (by simp only;omega) (by simp only;omega)).mono fun _ _ h=>h.hid f.size
 have ml: ∀P Q:Nat,(Dg.dg 65536 P).length≤55001→(Dg.dg 65536 (P-Q)).length≤100000:=fun P Q h=>Nat.le_trans (aH 65536 _ P (by omega) (Nat.sub_le _ _)) (by omega)
 have HC: ∀q p x t c,yB w c→Rd c .i64 (yS q X p) (Dg.dg 65536 X)→Rd c .i64 (yS x Y t) (Dg.dg 65536 Y)→yC 87 #[yS q X p,yS x Y t] c (yR c (yi (dm X Y))):=fun q p x t c _ j k=>by
  have:=fm _ _ _ _ c j k (Dg.small_dg _ _ (by omega)) (Dg.small_dg _ _ (by omega)) (Dg.norm_dg _ _ (by omega)) (Dg.norm_dg _ _ (by omega))
  rwa [Dg.vl_dg _ _ (by omega),Dg.vl_dg _ _ (by omega)] at this
 rw[hd]
 by_cases T:m=o
 ·subst T
  rw[if_pos rfl];refine refDP_same d g E _ _ _ _ m A B _ _ C D X Y (X+Y) _ w S (wr _ F G) (wr _ H I) rfl rfl L M (fun q p x t c _ j k=> ?_) (fun z y c f r=>K _ _ _ _ _ ?_ f r)
  ·have:=ew _ _ _ _ c j k (Dg.small_dg _ _ (by omega)) (Dg.small_dg _ _ (by omega)) (Dg.norm_dg _ _ (by omega)) (Dg.norm_dg _ _ (by omega)) (by omega) (by omega)
   rwa [Dg.vl_dg _ _ (by omega),Dg.vl_dg _ _ (by omega)] at this
  ·exact Nat.le_trans (og X Y 55001 lx ly) (by omega)
 ·have a2:(m==o)=false:=by simpa using T
  rw[if_neg T]
  by_cases J:Y≤X
  ·rw[if_pos J]
   refine refDP_geq d g E _ _ _ _ m o A B _ _ C D X Y (X-Y) _ w (dm X Y) a2 ?_ S (wr _ F G) (wr _ H I) rfl rfl L M HC (fun q p x t c _ j k=> ?_) (fun z y c f r=>K _ _ _ _ _ (ml _ _ lx) f r)
   ·unfold dm;split
    ·omega
    ·split<;>omega
   ·have:=kI _ _ _ _ c j k (Dg.small_dg _ _ (by omega)) (Dg.small_dg _ _ (by omega)) (by omega) (aH _ _ _ (by omega) J) (by rw[Dg.vl_dg _ _ (by omega),Dg.vl_dg _ _ (by omega)];exact J)
    rwa [Dg.vl_dg _ _ (by omega),Dg.vl_dg _ _ (by omega)] at this
  ·rw[if_neg J]
   refine refDP_less d g E _ _ _ _ m o A B _ _ C D X Y (Y-X) _ w (dm X Y) a2 ?_ S (wr _ F G) (wr _ H I) rfl rfl L M HC (fun q p x t c _ j k=> ?_) (fun z y c f r=>K _ _ _ _ _ (ml _ _ ly) f r)
   ·unfold dm;split
    ·omega
    ·split<;>omega
   ·have:=kI _ _ _ _ c k j (Dg.small_dg _ _ (by omega)) (Dg.small_dg _ _ (by omega)) (by omega) (aH _ _ _ (by omega) (by omega)) (by rw[Dg.vl_dg _ _ (by omega),Dg.vl_dg _ _ (by omega)];omega)
    rwa [Dg.vl_dg _ _ (by omega),Dg.vl_dg _ _ (by omega)] at this
theorem kR (t:ak):(bare t).n≤t.n:=by
 unfold bare
 split
 ·exact Nat.zero_le _
 ·exact Nat.div_le_self _ _
theorem nt {n:Nat}{e:Int}(h:(Dg.dg 4294967296 n).length≤1200)(a: -20000≤e)(b:e≤20000):aS (Dg.dg 4294967296 n) e=0:=by
 unfold aS;rw[pJ (Dg.norm_dg _ _ (by omega)) h,if_pos rfl,if_neg (by omega)]
theorem refined2_W (pi:Nat)(x y:ak)(g i:Option Addr)(f h:Nat)(b m:Int)(w:World)(k:w.rangeAt pi 0 [yi b])(B:IntKind.i64.wrap (b-6)=m)
  (a:yH w 72 #[.agg #[.bool x.s,yT g x.n f,yi x.e,.bool y.s,yT i y.n h,yi y.e],yi m] (.bool true)):
  yC 71 #[.agg #[.bool x.s,yT g x.n f,yi x.e,.bool y.s,yT i y.n h,yi y.e],.pointer (some ⟨pi,0,none⟩)] w (yR w (.bool true)):=by
 replace a:Hid _:=a;obtain⟨A,d,q1,c⟩:=cA w [.bool x.s,yT g x.n f,yi x.e,.bool y.s,yT i y.n h,yi y.e] 49;replace d:Hid _:=d;have l:=aC k c;clear k
 go_enter func71,ntmps71
 go_upto_region 1 with fail
 rw[d.out];clear d;have t:=l 0 _ rfl;obtain⟨u,v,z,p,q,r⟩:=q1.cs6
 go_wp2_with fail
 refine(a.out _ c).mono ?_;rintro D C ⟨rfl,j⟩;have o:=aa c j;clear l q1 c j a t u v z p q r
 go_wp2
 go_ret
 exact⟨by simp,o⟩
theorem Exp_e1 (s:Bool)(h:Option Addr)(n m:Nat)(e b c:Int)(w:World)(D: ¬c=0)
  (a:yH w 20 #[ydV s (.slice h n m) e,yi b] (.tuple #[ydV false yN 0,yi c])):
  yC 9 #[ydV s (.slice h n m) e,yi b] w (yR w (.tuple #[.agg #[.bool false,yN,yi 0,.bool false,yN,yi 0],yi c])):=by
 replace a:Hid _:=a;obtain⟨C,f,q1,q2,j⟩:=iG w (ydL s (.slice h n m) e) 25 [.bool false,yN,yi 0,.bool false,yN,yi 0] 27;replace f:Hid _:=f
 go_enter func9,ntmps9
 go_upto_region 1 with fail
 rw[f.out];clear f;obtain⟨v,x,y⟩:=q1.cs3
 go_wp2_with fail
 refine(a.out _ j).mono ?_;rintro T r ⟨rfl,k⟩;have o:=q2.l k;have i:=aa j k;clear q1 q2 j k a v x y;obtain⟨B,d,A,g⟩:=cA r (ydL false yN 0) 41;replace d:Hid _:=d;have E:w.heap.size≤r.heap.size:=i.size;have F:=o.lt;have p:=o.l g;have q:=aa i g;clear o i g A
 go_upto_region 2 with fail
 rw[d.out];clear d;have hf:=fin6 (P:=Tryz.prog) p q (by omega) underlying27 rfl (by kernel_rfl) (.bool false) yN (yi 0) (.bool false) yN (yi 0);have t:Hid (_∧_):=⟨hf.1,hf.2.1⟩;obtain⟨⟨M,N,O,Q,R,S⟩,G,H,I,J,K,L⟩:=csf6 p;clear hf p q
 go_wp2
 obtain⟨z,u⟩:=t.out;exact bodyPost_ret (aj results9 rfl rfl z) rfl ⟨rfl,u⟩
theorem Exp1_W (u:Nat)(a:ak)(q:Option Addr)(p:Nat)(x y:ak)(k:Int)(w:World)(t:w.rangeAt u 0 (yDL a q p))
  (c: ∀o,yB w o→yC 29 #[yDV a q p,yi k] o (aeT o x y)):
  yC 28 #[yi k,.pointer (some ⟨u,0,none⟩)] w (aeT w x y):=by
 replace c:Hid _:=c;obtain⟨K,f,q1,d⟩:=cA w [.bool false,yN,yi 0,.bool false,yN,yi 0] 49;replace f:Hid _:=f;have g:=aC t d;clear t
 go_enter func28,ntmps28
 go_upto_region 1 with fail
 rw[f.out];clear f;have A:=g 0 _ rfl;have B:=g 1 _ rfl;have C:=g 2 _ rfl
 go_wp2_with fail
 refine(c.out _ d).mono ?_;rintro zz N ⟨L,M,rfl,h,i,j⟩;have b:=q1.l j;have r:=aa d j;obtain⟨H,G,m⟩:=h.shape;subst m;obtain⟨J,I,m⟩:=i.shape;subst m;clear g q1 d j c A B C;have hf:=fin6 (P:=Tryz.prog) b r (by omega) underlying49 rfl (by kernel_rfl) (.bool x.s) (yT H x.n G) (yi x.e) (.bool y.s) (yT J y.n I) (yi y.e);have v:Hid (_∧_∧_∧_):=⟨hf.1,hf.2.2.rd h (aX h b (by simp)),hf.2.2.rd i (aX i b (by simp)),hf.2.1⟩;obtain⟨⟨W,X,Y,Z,z4,z5⟩,O,Q,R,S,T,U⟩:=csf6 b;clear hf b h i r
 go_wp2
 obtain⟨D,E,F,z⟩:=v.out;exact bodyPost_ret (br results28 rfl D) rfl ⟨_,_,rfl,E,F,z⟩
theorem gN {t:ak}(h:t.n≠0):(bare t).n≠0∧(bare t).e=t.e+(tz t.n:Int)∧(bare t).e+(bitLen (bare t).n:Int)=t.e+(bitLen t.n:Int):=by
 obtain⟨m,a⟩:=fO h;have e:(bare t).n=2*m+1∧(bare t).e=t.e+(tz t.n:Int):=by
  unfold bare;rw[if_neg h];exact⟨lI a,rfl⟩
 have b:bitLen t.n=tz t.n+bitLen (2*m+1):=by
  have:=Ad (2*m+1) (tz t.n) (by omega)
  rwa [←a] at this
 refine⟨by omega,e.2, ?_⟩;rw[e.1,e.2,b];omega
theorem wK {t:ak}(a:(Dg.dg 4294967296 (bare t).n).length≤1200)(b: -20000≤(bare t).e)(c:(bare t).e≤20000):bU t=(bare t,0):=by
 unfold bU;rw[if_neg (by omega),if_neg (by omega)]
theorem nE {t:ak}(h:t.n≠0):t.e≤(bare t).e∧(bare t).e=t.e+tz t.n:=by
 unfold bare;rw[if_neg h];exact⟨by show t.e≤t.e+(tz t.n:Int);omega,rfl⟩
theorem qj {R D L G:Int}{gr:Bool}{d:Nat}{p:Int}(c:bk R D L G=0)(h:ia R D L G gr d p):
  (Dg.dg 4294967296 d).length≤15∧ -17000≤p∧p≤17000∧ -17000≤(ai R:Int)*p∧(ai R:Int)*p≤17000∧tz d≤480:=by
 obtain⟨m,e,f,o,r,g,i,lg,q⟩:=cB c
 rcases h with⟨rfl,rfl⟩| ⟨j,k,l,b,-⟩
 ·refine⟨Nat.zero_le _,by omega,by omega,by simp,by simp, ?_⟩
  exact Nat.le_trans (gZ 0 0 (Nat.le_refl _)) (by omega)
 ·have n:=Nat.mul_le_mul (eN R).2 (show D.toNat≤120 by omega)
  have a:(Dg.dg 4294967296 d).length≤15:=jq b (by omega);have:=gZ d 15 a;refine⟨a,by omega,by omega, ?_, ?_,by omega⟩<;>(unfold ai;split<;>simp<;>omega)
theorem nrw_pos {S a:IvN}{aim:Nat}{v:Rat}(r:5≤aim)(m:S.has v)(q:0<v)(n:S.wd≤p2 (-(aim:Int))*v)(c:IvN.Cut (p2 (2-(aim:Int))) S a):0<a.lo∧a.hi-a.lo≤p2 (6-(aim:Int))*a.lo:=by
 obtain⟨B,C⟩:=m;have o:=c.lo;have p:=c.hi;have d:=c.lo';have f:=c.hi';have g:p2 (2-(aim:Int))=4*p2 (-(aim:Int)):=by
  rw[show 2-(aim:Int)=2+ -(aim:Int) by omega,p2_add]
  have:p2 2=4:=by decide+kernel
  rw[this]
 have h:p2 (6-(aim:Int))=64*p2 (-(aim:Int)):=by
  rw[show 6-(aim:Int)=6+ -(aim:Int) by omega,p2_add]
  have:p2 6=64:=by decide+kernel
  rw[this]
 have i:p2 (-(aim:Int))≤1/32:=by
  have:=p2_mono (show-(aim:Int)≤ -5 by omega)
  have e:p2 (-5)=1/32:=by
   have:=p2_neg 5;have b:p2 5=32:=by decide+kernel
   rw[b] at this
   grind
  rwa [e] at this
 have t:=p2_pos (-(aim:Int));rw[g] at d f;rw[h];generalize p2 (-(aim:Int))=z at*;unfold IvN.wd at n;have u:=Rat.mul_le_mul_of_nonneg_right i (show 0≤v by grind)
 have s:31/32*v≤S.lo:=by grind
 have k:S.hi≤33/32*v:=by grind
 have j:ab S.lo=S.lo:=by unfold ab;grind
 have b:ab S.hi=S.hi:=by unfold ab;grind
 rw[j] at d;rw[b] at f;have w:=Rat.mul_le_mul_of_nonneg_left (show S.lo≤v by grind) (show 0≤4*z by grind)
 have x:=Rat.mul_le_mul_of_nonneg_left k (show 0≤4*z by grind)
 have l:3/4*v≤a.lo:=by grind
 have y:=Rat.mul_le_mul_of_nonneg_left l (show 0≤64*z by grind)
 have A:=Rat.mul_nonneg (show 0≤z by grind) (show 0≤v by grind)
 constructor<;>grind
theorem bare_wOne:bare (wTr 1)=wTr 1:=by kernel_rfl
theorem short_one:iD (bU (wTr 1)) (bU (wTr 1))=(wTr 1,wTr 1,0):=by
 have h:bU (wTr 1)=(wTr 1,0):=by
  unfold bU;rw[bare_wOne,if_neg (by decide+kernel),if_neg (by decide)]
 rw[h];rfl
end Go.Proofs.YthhiidikgchdeaaGreatDoor
