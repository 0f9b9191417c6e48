/- Texts laid together. -/
import Derived.Test.YthhiidikgchdeabGreatDoorLb17
import Derived.Test.YthhiidikgchdeabGreatDoorLb25
import Derived.Test.YthhiidikgchdeabGreatDoorLb32
import Derived.Test.YthhiidikgchdeabGreatDoorLb33
import Derived.Test.YthhiidikgchdeabGreatDoorLb35
set_option maxRecDepth 100000
set_option maxHeartbeats 3200000
namespace Go.Proofs.YthhiidikgchdeabGreatDoor
open _root_.Go.Proofs.Tryz
open Go.RowKit
theorem Aw (s:Bool)(b:Option Addr)(c:Nat)(xs:List Nat)(e:Int)(w:World)(G:Rd w .u32 (.slice b xs.length c) xs)(u:Dg.Small 4294967296 xs)(T:xs.length≤20000)(U: -1000000≤e)(X:e≤1000000):
  yC 16 #[ydV s (.slice b xs.length c) e] w (di w (bare ⟨s,Dg.vl 4294967296 xs,e⟩)):=by
 have A:Hid (∀a,yB w a→yC 49 #[.slice b xs.length c] a (cG a (Dg.vl 4294967296 xs))):=fun a N=>fQ _ xs a (G.l N) u (by omega)
 have E:(Dg.dg 65536 (Dg.vl 4294967296 xs)).length≤100000:=by have:=zX u;omega
 obtain⟨n,F⟩: ∃n,Dg.vl 4294967296 xs=n:=⟨_,rfl⟩;rw[F] at A E⊢;have y:Hid (∀v a,Rv a v ⟨s,n,e⟩→yC 48 #[v] a (di a (bare ⟨s,n,e⟩))):=fun v a Y=>lA v _ a Y E U X
 obtain⟨⟨p,bn,o⟩,D⟩: ∃P,bare ⟨s,n,e⟩=P:=⟨_,rfl⟩;rw[D] at y⊢;clear F D G u T;have r:=aa (af w (.cells (ydA s (.slice b xs.length c) e) 25)) (af _ (.cells (ydA false yN 0) 43));have d:=(aA w (.bool s) (.slice b xs.length c) (yi e) 25).l (af _ (.cells (ydA false yN 0) 43));have f:=aA (w.alloc (.cells (ydA s (.slice b xs.length c) e) 25)) (.bool false) yN (yi 0) 43;have g:=dI (w.alloc (.cells (ydA s (.slice b xs.length c) e) 25)) 43;rw[World.size_alloc] at f g;obtain⟨W,t⟩: ∃W,((w.alloc (.cells (ydA s (.slice b xs.length c) e) 25)).alloc (.cells (ydA false yN 0) 43))=W:=⟨_,rfl⟩;rw[t] at r d f g;have h:yB W W.drew:=(Below.refl _ _).drew;have d:=d.l h;have f:=f.l h;have g:=g.l h;have q:=aa r h;rw[←t] at d f g q;clear r h t;obtain⟨-,⟨c0,c1,c2⟩,-⟩:=id d;have a6:w.heap.size+1≠w.heap.size:=by omega
 go_enter func16,ntmps16
 go_wp2_with fail
 go_region_held3 (fun x=>x.cell? ⟨w.heap.size,0,none⟩=some (.bool s)∧x.cell? ⟨w.heap.size,1,none⟩=some (.slice b xs.length c)∧x.cell? ⟨w.heap.size,2,none⟩=some (yi e)) (go_keep) (first
  | (go_at_call 49;refine(A.out _ q).mono ?_;rintro z w3 ⟨vs,rfl,J,k⟩;have H:=d.l k;have a2:=f.l k;have a3:=g.l k;have B:=aa q k;obtain⟨-,⟨p0,p1,p2⟩,-⟩:=id H;obtain⟨a8,a7,Z⟩:=J.shape;subst Z)
  | (go_at_call 48;refine(y.out _ w3 ⟨_,rfl,J⟩).mono ?_;rintro z w4 ⟨vt,rfl,K,C,m⟩;have a1:=H.l m;have I:=a2.l m;have a4:=a3.l m;have M:=aa B m;obtain⟨j,i,a0⟩:=K.shape;subst a0;have L:Hid (Far w.heap.size (yS j bn i)):=C.mono B.size;clear C;obtain⟨-,⟨q0,q1,q2⟩,-⟩:=id a1;obtain⟨a5,⟨d0,d1,d2⟩,f0,f1,f2⟩:=id I))
 all_goals go_wp2
 obtain⟨-,⟨Q,R,S⟩,-⟩:=aD I (.bool p) (yS j bn i) (yi o);have r7:=a4.rd K (Dg.norm_dg _ _ (by omega)) (.bool p) (yS j bn i) (yi o);have O:=am M (show w.heap.size≤w.heap.size+1 by omega) (.bool p) (yS j bn i) (yi o)
 refine bodyPost_ret (v:=(ydV p (yS j bn i) o)) (by simp[results,results16,go_sem,Q,R,S]) rfl ?_;exact⟨_,rfl,r7,L.out,O⟩
theorem vM (v u:Value)(a b:ak)(w:World)(hv:Rv w v a)(hu:Rv w u b)(a0:(Dg.dg 65536 a.n).length≤30000)(a1:(Dg.dg 65536 b.n).length≤30000)
  (F: -200000≤a.e) (G:a.e≤200000) (H: -200000≤b.e) (I:b.e≤200000):
  yC 50 #[v,u] w (di w (bare (cO a b))):=by
 obtain⟨s0,rfl,U⟩:=hv;obtain⟨A,C,rfl⟩:=U.shape;obtain⟨s1,rfl,W⟩:=hu;obtain⟨B,D,rfl⟩:=W.shape;obtain⟨m,i,d⟩:=a;obtain⟨o,bn,g⟩:=b;simp only at U W a0 a1 F G H I⊢;obtain⟨E,N⟩: ∃E:Int,(if bn=0 then d else if i=0 then g else min d g)=E:=⟨_,rfl⟩
 have hl: -200000≤E∧E≤200000:=by
  rw[←N];split
  ·omega
  ·split<;>omega
 obtain⟨X,O⟩: ∃X,i*2^ (max 0 (d-E)).toNat=X:=⟨_,rfl⟩;obtain⟨Y,R⟩: ∃Y,bn*2^ (max 0 (g-E)).toNat=Y:=⟨_,rfl⟩;have hd:cO ⟨m,i,d⟩ ⟨o,bn,g⟩=if m=o then⟨m,X+Y,E⟩ else if Y≤X then⟨m,X-Y,E⟩ else⟨o,Y-X,E⟩:=by
  simp only[cO,N,O,R]
 have S:((((Dg.dg 65536 i).length:Int)==0)=false∧(((Dg.dg 65536 bn).length:Int)==0)=false∧min d g=E)∨((((Dg.dg 65536 i).length:Int)==0)=true∧(((Dg.dg 65536 bn).length:Int)==0)=false∧g=E)∨((((Dg.dg 65536 i).length:Int)==0)=false∧(((Dg.dg 65536 bn).length:Int)==0)=true∧d=E)∨((((Dg.dg 65536 i).length:Int)==0)=true∧(((Dg.dg 65536 bn).length:Int)==0)=true∧d=E):=by
  rw[len_zero,len_zero,←N]
  by_cases j:i=0<;>by_cases k:bn=0<;>simp[j,k]
 have lx:(Dg.dg 65536 X).length≤55001:=by rw[←O];exact Nat.le_trans (jZ i _ 30000 25001 a0 (by omega)) (by omega)
 have ly:(Dg.dg 65536 Y).length≤55001:=by rw[←R];exact Nat.le_trans (jZ bn _ 30000 25001 a1 (by omega)) (by omega)
 have wr: ∀e:Int,-200000≤e→e≤200000→IntKind.i64.wrap (e-E)=e-E:=fun e j k=>IntWalk.i64_in _ ⟨by omega,by omega⟩
 have L: ∀c,yB w c→yC 90 #[yS A i C,yi (max 0 (d-E))] c (cG c X):=fun c f=>by
  have:=kD _ _ (max 0 (d-E)).toNat c (U.l f) (Dg.small_dg _ _ (by omega)) (by omega) (by omega)
  rwa [Dg.vl_dg _ _ (by omega),Int.toNat_of_nonneg (by omega),O] at this
 have M: ∀c,yB w c→yC 90 #[yS B bn D,yi (max 0 (g-E))] c (cG c Y):=fun c f=>by
  have:=kD _ _ (max 0 (g-E)).toNat c (W.l f) (Dg.small_dg _ _ (by omega)) (by omega) (by omega)
  rwa [Dg.vl_dg _ _ (by omega),Int.toNat_of_nonneg (by omega),R] at this
 have K: ∀s Z z y c,(Dg.dg 65536 Z).length≤100000→yB w c→Rd c .i64 (yS z Z y) (Dg.dg 65536 Z)→yC 48 #[ydV s (yS z Z y) E] c (Xi w.heap.size c (bare ⟨s,Z,E⟩)):=
  fun s Z z y c h f r=>(lA _ ⟨s,Z,E⟩ c ⟨_,rfl,r⟩ h (by simp only;omega) (by simp only;omega)).mono fun _ _ h=>h.hid f.size
 have ml: ∀P Q:Nat,(Dg.dg 65536 P).length≤55001→(Dg.dg 65536 (P-Q)).length≤100000:=fun P Q h=>Nat.le_trans (aH 65536 _ P (by omega) (Nat.sub_le _ _)) (by omega)
 have HC: ∀q p x t c,yB w c→Rd c .i64 (yS q X p) (Dg.dg 65536 X)→Rd c .i64 (yS x Y t) (Dg.dg 65536 Y)→yC 92 #[yS q X p,yS x Y t] c (yR c (yi (dm X Y))):=fun q p x t c _ j k=>by
  have:=fm _ _ _ _ c j k (Dg.small_dg _ _ (by omega)) (Dg.small_dg _ _ (by omega)) (Dg.norm_dg _ _ (by omega)) (Dg.norm_dg _ _ (by omega))
  rwa [Dg.vl_dg _ _ (by omega),Dg.vl_dg _ _ (by omega)] at this
 rw[hd]
 by_cases T:m=o
 ·subst T
  rw[if_pos rfl];refine refDP_same d g E _ _ _ _ m A B _ _ C D X Y (X+Y) _ w S (wr _ F G) (wr _ H I) rfl rfl L M (fun q p x t c _ j k=> ?_) (fun z y c f r=>K _ _ _ _ _ ?_ f r)
  ·have:=ew _ _ _ _ c j k (Dg.small_dg _ _ (by omega)) (Dg.small_dg _ _ (by omega)) (Dg.norm_dg _ _ (by omega)) (Dg.norm_dg _ _ (by omega)) (by omega) (by omega)
   rwa [Dg.vl_dg _ _ (by omega),Dg.vl_dg _ _ (by omega)] at this
  ·exact Nat.le_trans (og X Y 55001 lx ly) (by omega)
 ·have a2:(m==o)=false:=by simpa using T
  rw[if_neg T]
  by_cases J:Y≤X
  ·rw[if_pos J]
   refine refDP_geq d g E _ _ _ _ m o A B _ _ C D X Y (X-Y) _ w (dm X Y) a2 ?_ S (wr _ F G) (wr _ H I) rfl rfl L M HC (fun q p x t c _ j k=> ?_) (fun z y c f r=>K _ _ _ _ _ (ml _ _ lx) f r)
   ·unfold dm;split
    ·omega
    ·split<;>omega
   ·have:=kI _ _ _ _ c j k (Dg.small_dg _ _ (by omega)) (Dg.small_dg _ _ (by omega)) (by omega) (aH _ _ _ (by omega) J) (by rw[Dg.vl_dg _ _ (by omega),Dg.vl_dg _ _ (by omega)];exact J)
    rwa [Dg.vl_dg _ _ (by omega),Dg.vl_dg _ _ (by omega)] at this
  ·rw[if_neg J]
   refine refDP_less d g E _ _ _ _ m o A B _ _ C D X Y (Y-X) _ w (dm X Y) a2 ?_ S (wr _ F G) (wr _ H I) rfl rfl L M HC (fun q p x t c _ j k=> ?_) (fun z y c f r=>K _ _ _ _ _ (ml _ _ ly) f r)
   ·unfold dm;split
    ·omega
    ·split<;>omega
   ·have:=kI _ _ _ _ c k j (Dg.small_dg _ _ (by omega)) (Dg.small_dg _ _ (by omega)) (by omega) (aH _ _ _ (by omega) (by omega)) (by rw[Dg.vl_dg _ _ (by omega),Dg.vl_dg _ _ (by omega)];omega)
    rwa [Dg.vl_dg _ _ (by omega),Dg.vl_dg _ _ (by omega)] at this
theorem lw (v u:Value)(a b:ak)(w:World)(l:Rv w v a)(k:Rv w u b)(c:(Dg.dg 65536 a.n).length≤30000)(d:(Dg.dg 65536 b.n).length≤30000)
  (f: -200000≤a.e) (g:a.e≤200000) (i: -200000≤b.e) (j:b.e≤200000):
  yC 50 #[v,u] w (dr w (bare (cO a b))):=
 (vM v u a b w l k c d f g i j).mono fun _ _ h=>h.near
theorem uI (v:Value)(t:ak)(w:World)(c:Rv w v t):yC 51 #[v] w (dr w (dB t)):=by
 obtain⟨d,rfl,a⟩:=c;refine(ja d t w a).mono ?_;rintro z w' ⟨rfl,b⟩;exact⟨_,rfl,a.l b,b⟩
theorem gQ (v u : Value) (a b : ak) (w : World) (hv : Rv w v a) (hu : Rv w u b) (a4 : (Dg.dg 65536 a.n).length ≤ 30000) (a5 : (Dg.dg 65536 b.n).length ≤ 30000)
  (a9 : -200000 ≤ a.e) (ac : a.e ≤ 200000) (ad : -200000 ≤ b.e) (al : b.e ≤ 200000) :
  Calls Tryz.prog 17 #[v, u] w fun z w' => z = .returned (.int .i64 (dJ (bare (cO a (dB b))))) ∧ Below w.heap.size w w' := by
 have q : Hid (∀ j, Below w.heap.size w j → Calls Tryz.prog 51 #[u] j (dr j (dB b))) := fun j b1 => uI u b j (hu.l b1)
 have p : Hid (∀ x j, Below w.heap.size w j → Rv j x (dB b) → Calls Tryz.prog 50 #[v, x] j (dr j (bare (cO a (dB b))))) := fun x j b1 hx => lw v x a (dB b) j (hv.l b1) hx a4 a5 a9 ac ad al
 obtain ⟨s0, rfl, ra⟩ := hv
 obtain ⟨O, R, rfl⟩ := ra.shape
 obtain ⟨s1, rfl, rb⟩ := hu
 obtain ⟨Q, S, rfl⟩ := rb.shape
 obtain ⟨⟨rs, c, Z⟩, hT⟩ : ∃ T, bare (cO a (dB b)) = T := ⟨_, rfl⟩
 rw [hT] at p ⊢
 obtain ⟨⟨ms, mn, me⟩, a6⟩ : ∃ T, dB b = T := ⟨_, rfl⟩
 rw [a6] at p q
 have E := Dg.dg_nil_iff 65536 c (by omega)
 obtain ⟨X, a7⟩ : ∃ m, (Dg.dg 65536 a.n).length = m := ⟨_, rfl⟩
 obtain ⟨Y, a8⟩ : ∃ m, (Dg.dg 65536 b.n).length = m := ⟨_, rfl⟩
 rw [a7] at p ⊢
 rw [a8] at q ⊢
 obtain ⟨sa, an, N⟩ := a
 obtain ⟨sb, bn, P⟩ := b
 simp only at p q ⊢
 clear hT a7 a8 ra rb a4 a5 a6
 unfold dJ
 simp only
 have bA := aa (af w (.cells #[.bool sa, .slice O X R, .int .i64 N] 43)) (af _ (.cells #[.bool sb, .slice Q Y S, .int .i64 P] 43))
 have la := (aA w (.bool sa) (.slice O X R) (.int .i64 N) 43).l (af _ (.cells #[.bool sb, .slice Q Y S, .int .i64 P] 43))
 have lb := aA (w.alloc (.cells #[.bool sa, .slice O X R, .int .i64 N] 43)) (.bool sb) (.slice Q Y S) (.int .i64 P) 43
 rw [World.size_alloc] at lb
 obtain ⟨W, hW⟩ : ∃ W, ((w.alloc (.cells #[.bool sa, .slice O X R, .int .i64 N] 43)).alloc (.cells #[.bool sb, .slice Q Y S, .int .i64 P] 43)) = W := ⟨_, rfl⟩
 rw [hW] at bA la lb
 have bd : Below W.heap.size W W.drew := (Below.refl _ _).drew
 have r := aa bA bd
 have B := la.l bd
 have C := lb.l bd
 have I := aA W.drew (.bool false) (.slice none 0 0) (.int .i64 0) 43
 have sW : W.drew.heap.size = w.heap.size + 1 + 1 := by rw [← hW]; simp [World.size_alloc]
 rw [sW] at I
 rw [← hW] at r B C I
 obtain ⟨-, ⟨c0, c1, c2⟩, -⟩ := id B
 obtain ⟨-, ⟨c3, c4, c5⟩, -⟩ := id C
 clear bA la lb bd hW sW
 have a2 : w.heap.size + 1 + 1 ≠ w.heap.size := by omega
 have a3 : w.heap.size + 1 + 1 ≠ w.heap.size + 1 := by omega
 go_enter func17, ntmps17
 go_wp2_with fail
 go_region_held3 (fun M => (M.cell? ⟨w.heap.size, 0, none⟩ = some (.bool sa) ∧ M.cell? ⟨w.heap.size, 1, none⟩ = some (.slice O X R) ∧ M.cell? ⟨w.heap.size, 2, none⟩ = some (.int .i64 N)) ∧ M.cell? ⟨w.heap.size + 1, 0, none⟩ = some (.bool sb) ∧ M.cell? ⟨w.heap.size + 1, 1, none⟩ = some (.slice Q Y S) ∧ M.cell? ⟨w.heap.size + 1, 2, none⟩ = some (.int .i64 P)) (go_keep) (first
   | (go_at_call 51; refine (q.out _ r).mono ?_; rintro z D ⟨v1, rfl, q1, o⟩; have t := B.l o; have y := C.l o; have k := aa r o; obtain ⟨-, ⟨J, p1, p2⟩, -⟩ := id t; obtain ⟨-, ⟨K, p4, p5⟩, -⟩ := id y; have x0 := World.new_ne D _ J; have x1 := World.new_ne D _ K)
   | (go_at_call 51; refine (q.out _ (aa r (af _ (.cells #[.bool false, .slice none 0 0, .int .i64 0] 43)))).mono ?_; rintro z D ⟨v1, rfl, q1, o⟩; have t := (B.l (af _ (.cells #[.bool false, .slice none 0 0, .int .i64 0] 43))).l o; have y := (C.l (af _ (.cells #[.bool false, .slice none 0 0, .int .i64 0] 43))).l o; have k := aa (aa r (af _ (.cells #[.bool false, .slice none 0 0, .int .i64 0] 43))) o; have ap := I.l o; obtain ⟨-, ⟨J, p1, p2⟩, -⟩ := id t; obtain ⟨-, ⟨K, p4, p5⟩, -⟩ := id y; have x0 := World.new_ne D _ J; have x1 := World.new_ne D _ K)
   | (go_at_call 50; refine (p.out _ D k ⟨_, rfl, q1⟩).mono ?_; rintro z w4 ⟨v2, rfl, q2, i⟩; obtain ⟨tq, L, a1⟩ := q2.shape; subst a1; have F := t.l i; have G := y.l i; have A := aa k i; (try (have U := ap.l i; obtain ⟨-, ⟨d0, d1, d2⟩, f0, f1, f2⟩ := id U)); obtain ⟨-, ⟨u0, u1, u2⟩, -⟩ := id F; obtain ⟨-, ⟨u3, u4, u5⟩, -⟩ := id G; have y0 := World.new_ne w4 _ u0; have y1 := World.new_ne w4 _ u3)
   | (go_at_call 50; refine (p.out _ _ (aa k (af _ (.cells #[.bool false, .slice none 0 0, .int .i64 0] 43))) ⟨_, rfl, q1.l (af _ (.cells #[.bool false, .slice none 0 0, .int .i64 0] 43))⟩).mono ?_; rintro z w4 ⟨v2, rfl, q2, i⟩; obtain ⟨tq, L, a1⟩ := q2.shape; subst a1; have F := (t.l (af _ (.cells #[.bool false, .slice none 0 0, .int .i64 0] 43))).l i; have G := (y.l (af _ (.cells #[.bool false, .slice none 0 0, .int .i64 0] 43))).l i; have A := aa (aa k (af _ (.cells #[.bool false, .slice none 0 0, .int .i64 0] 43))) i; have U := (aA D (.bool false) (.slice none 0 0) (.int .i64 0) 43).l i; obtain ⟨-, ⟨d0, d1, d2⟩, f0, f1, f2⟩ := id U; obtain ⟨-, ⟨u0, u1, u2⟩, -⟩ := id F; obtain ⟨-, ⟨u3, u4, u5⟩, -⟩ := id G))
 ·have g : (Dg.dg 65536 c).length = 0 ↔ c = 0 := by rw [List.length_eq_zero_iff]; exact E
  have a0 := k.size
  have d := aa A (af w4 (.cells #[.bool rs, .slice tq (Dg.dg 65536 c).length L, .int .i64 Z] 43))
  clear B C I c0 c1 c2 c3 c4 c5 p q t y J p1 p2 K p4 p5 q1 q2 F G E r k A o i x0 x1 a2 a3
  by_cases h : c = 0
  ·have s := g.2 h
   have H : Hid (c = 0) := h
   rw [s] at d
   clear g h
   go_wp2
   go_ret
   exact ⟨by first | rfl | rw [if_pos H.out], d⟩
  ·have f : ¬(Dg.dg 65536 c).length = 0 := fun e => h (g.1 e)
   have H : Hid (¬c = 0) := h
   have s : (((Dg.dg 65536 c).length : Int) == 0) = false := by
    revert f
    generalize (Dg.dg 65536 c).length = mr
    intro f
    simp; exact f
   clear g h f
   cases rs
   ·go_wp2
    go_ret
    exact ⟨by first | rfl | (rw [if_neg H.out]; rfl), d⟩
   ·go_wp2
    go_ret
    exact ⟨by first | rfl | (rw [if_neg H.out]; rfl), d⟩
 ·obtain ⟨-, ⟨g0, g1, g2⟩, -⟩ := aD U (.bool rs) (.slice tq (Dg.dg 65536 c).length L) (.int .i64 Z)
  have g : (Dg.dg 65536 c).length = 0 ↔ c = 0 := by rw [List.length_eq_zero_iff]; exact E
  have a0 := k.size
  have d := am A a0 (.bool rs) (.slice tq (Dg.dg 65536 c).length L) (.int .i64 Z)
  clear B C I c0 c1 c2 c3 c4 c5 p q t y J p1 p2 K p4 p5 q1 q2 F G E r k A o i x0 x1 a2 a3
  by_cases h : c = 0
  ·have s := g.2 h
   have H : Hid (c = 0) := h
   rw [s] at d
   clear g h
   go_wp2
   go_ret
   exact ⟨by first | rfl | rw [if_pos H.out], d⟩
  ·have f : ¬(Dg.dg 65536 c).length = 0 := fun e => h (g.1 e)
   have H : Hid (¬c = 0) := h
   have s : (((Dg.dg 65536 c).length : Int) == 0) = false := by
    revert f
    generalize (Dg.dg 65536 c).length = mr
    intro f
    simp; exact f
   clear g h f
   cases rs
   ·go_wp2
    go_ret
    exact ⟨by first | rfl | (rw [if_neg H.out]; rfl), d⟩
   ·go_wp2
    go_ret
    exact ⟨by first | rfl | (rw [if_neg H.out]; rfl), d⟩
 ·obtain ⟨-, ⟨g0, g1, g2⟩, -⟩ := aD U (.bool rs) (.slice tq (Dg.dg 65536 c).length L) (.int .i64 Z)
  have g : (Dg.dg 65536 c).length = 0 ↔ c = 0 := by rw [List.length_eq_zero_iff]; exact E
  have a0 := k.size
  have d := am A (show w.heap.size ≤ w.heap.size + 1 + 1 by omega) (.bool rs) (.slice tq (Dg.dg 65536 c).length L) (.int .i64 Z)
  clear B C I c0 c1 c2 c3 c4 c5 p q t y J p1 p2 K p4 p5 q1 q2 F G E r k A o i x0 x1 a2 a3
  by_cases h : c = 0
  ·have s := g.2 h
   have H : Hid (c = 0) := h
   rw [s] at d
   clear g h
   go_wp2
   go_ret
   exact ⟨by first | rfl | rw [if_pos H.out], d⟩
  ·have f : ¬(Dg.dg 65536 c).length = 0 := fun e => h (g.1 e)
   have H : Hid (¬c = 0) := h
   have s : (((Dg.dg 65536 c).length : Int) == 0) = false := by
    revert f
    generalize (Dg.dg 65536 c).length = mr
    intro f
    simp; exact f
   clear g h f
   cases rs
   ·go_wp2
    go_ret
    exact ⟨by first | rfl | (rw [if_neg H.out]; rfl), d⟩
   ·go_wp2
    go_ret
    exact ⟨by first | rfl | (rw [if_neg H.out]; rfl), d⟩
theorem refined_Exp (H:Nat)(x y p q:ak)(b c n er:Int)(w:World)(hc:IntKind.i64.wrap (b+32)=c)(hn:IntKind.i64.wrap (c+32)=n)
  (i: ∀pf pi a,yB w a→au a pf 57 [.func (.func 44) #[] #[.pointer (some ⟨H,0,none⟩)]]→au a pi 3 [yi c]→yC 56 #[yi n,.func (.func 54) #[] #[.pointer (some ⟨pf,0,none⟩),.pointer (some ⟨pi,0,none⟩)],.func (.func 57) #[] #[.pointer (some ⟨pi,0,none⟩)]] a (aeT a x y))
  (j: ∀z v B A a,yB w a→Rd a .u32 (yT z x.n v) (Dg.dg 4294967296 x.n)→Rd a .u32 (yT B y.n A) (Dg.dg 4294967296 y.n)→yC 26 #[.agg #[.bool x.s,yT z x.n v,yi x.e,.bool y.s,yT B y.n A,yi y.e]] a (BRd a p q er)):
  yC 21 #[yi b,.func (.func 44) #[] #[.pointer (some ⟨H,0,none⟩)]] w (BRd w p q er):=by
 replace i:Hid _:=i;replace j:Hid _:=j;obtain⟨O,o,q1,q2,E⟩:=iG w [.func (.func 44) #[] #[.pointer (some ⟨H,0,none⟩)]] 57 [.bool false,yN,yi 0,.bool false,yN,yi 0] 29;replace o:Hid _:=o
 go_enter func21,ntmps21
 go_upto_region 1 with fail
 rw[o.out];clear o;obtain⟨W8,r,J,k⟩:=cA O [yi c] 3;replace r:Hid _:=r;have ad:w.heap.size≤O.heap.size:=E.size;have ae:=q1.lt;have al:=q2.lt;have R:=q1.l k;have S:=q2.l k;have C:=aa E k;clear q1 q2 E k
 go_upto_region 2 with fail
 rw[r.out];clear r;have Z:=J.c 0 rfl
 go_wp2_with fail
 refine(i.out _ _ _ C R J).mono ?_;rintro zz W ⟨ap,ar,rfl,K,L,G⟩;have I:=S.l G;have D:=aa C G;obtain⟨z,v,d⟩:=K.shape;subst d;obtain⟨B,A,d⟩:=L.shape;subst d;clear R S J C G i Z;obtain⟨ac,m,T,f⟩:=cA W [.bool x.s,yT z x.n v,yi x.e,.bool y.s,yT B y.n A,yi y.e] 54;replace m:Hid _:=m;have an:w.heap.size≤W.heap.size:=D.size;have ao:=I.lt;have U:=I.l f;have M:=K.l f;have N:=L.l f;have F:=aa D f;clear I K L D f
 go_upto_region 4 with fail
 rw[m.out];clear m;obtain⟨a0,a1,a2,a3,a4,a5⟩:=T.cs6
 go_wp2_with fail
 refine(j.out _ _ _ _ _ F M N).mono ?_;rintro zz ax ⟨aq,av,rfl,t,u,g⟩;have h:=U.l g;have a6:=M.l g;have a7:=N.l g;have Q:=aa F g;obtain⟨po,pc,d⟩:=t.shape;subst d;obtain⟨qo,qc,d⟩:=u.shape;subst d;clear U T M N F g j a0 a1 a2 a3 a4 a5;have hf:=fin6 (P:=Tryz.prog) h Q (by omega) underlying29 rfl (by kernel_rfl) (.bool p.s) (yT po p.n pc) (yi p.e) (.bool q.s) (yT qo q.n qc) (yi q.e);have X:Hid (_∧_∧_∧_):=⟨hf.1,hf.2.2.rd t (aX t h (by simp)),hf.2.2.rd u (aX u h (by simp)),hf.2.1⟩;obtain⟨⟨z0,z1,z2,z3,z4,z5⟩,y0,y1,y2,y3,y4,y5⟩:=csf6 h;clear hf h a6 a7 t u Q
 go_wp2
 obtain⟨hl,a8,a9,Y⟩:=X.out;exact bodyPost_ret (aj results21 rfl rfl hl) rfl ⟨_,_,rfl,a8,a9,Y⟩
theorem Exp_e1 (s:Bool)(h:Option Addr)(n m:Nat)(e b c:Int)(w:World)(D: ¬c=0)
  (a:yH w 41 #[ydV s (.slice h n m) e,yi b] (.tuple #[ydV false yN 0,yi c])):
  yC 14 #[ydV s (.slice h n m) e,yi b] w (yR w (.tuple #[.agg #[.bool false,yN,yi 0,.bool false,yN,yi 0],yi c])):=by
 replace a:Hid _:=a;obtain⟨C,f,q1,q2,j⟩:=iG w (ydL s (.slice h n m) e) 25 [.bool false,yN,yi 0,.bool false,yN,yi 0] 29;replace f:Hid _:=f
 go_enter func14,ntmps14
 go_upto_region 1 with fail
 rw[f.out];clear f;obtain⟨v,x,y⟩:=q1.cs3
 go_wp2_with fail
 refine(a.out _ j).mono ?_;rintro T r ⟨rfl,k⟩;have o:=q2.l k;have i:=aa j k;clear q1 q2 j k a v x y;obtain⟨B,d,A,g⟩:=cA r (ydL false yN 0) 48;replace d:Hid _:=d;have E:w.heap.size≤r.heap.size:=i.size;have F:=o.lt;have p:=o.l g;have q:=aa i g;clear o i g A
 go_upto_region 2 with fail
 rw[d.out];clear d;have hf:=fin6 (P:=Tryz.prog) p q (by omega) underlying29 rfl (by kernel_rfl) (.bool false) yN (yi 0) (.bool false) yN (yi 0);have t:Hid (_∧_):=⟨hf.1,hf.2.1⟩;obtain⟨⟨M,N,O,Q,R,S⟩,G,H,I,J,K,L⟩:=csf6 p;clear hf p q
 go_wp2
 obtain⟨z,u⟩:=t.out;exact bodyPost_ret (aj results14 rfl rfl z) rfl ⟨rfl,u⟩
theorem Exp1_W (u:Nat)(a:ak)(q:Option Addr)(p:Nat)(x y:ak)(k:Int)(w:World)(t:w.rangeAt u 0 (yDL a q p))
  (c: ∀o,yB w o→yC 45 #[yDV a q p,yi k] o (aeT o x y)):
  yC 44 #[yi k,.pointer (some ⟨u,0,none⟩)] w (aeT w x y):=by
 replace c:Hid _:=c;obtain⟨K,f,q1,d⟩:=cA w [.bool false,yN,yi 0,.bool false,yN,yi 0] 54;replace f:Hid _:=f;have g:=aC t d;clear t
 go_enter func44,ntmps44
 go_upto_region 1 with fail
 rw[f.out];clear f;have A:=g 0 _ rfl;have B:=g 1 _ rfl;have C:=g 2 _ rfl
 go_wp2_with fail
 refine(c.out _ d).mono ?_;rintro zz N ⟨L,M,rfl,h,i,j⟩;have b:=q1.l j;have r:=aa d j;obtain⟨H,G,m⟩:=h.shape;subst m;obtain⟨J,I,m⟩:=i.shape;subst m;clear g q1 d j c A B C;have hf:=fin6 (P:=Tryz.prog) b r (by omega) underlying54 rfl (by kernel_rfl) (.bool x.s) (yT H x.n G) (yi x.e) (.bool y.s) (yT J y.n I) (yi y.e);have v:Hid (_∧_∧_∧_):=⟨hf.1,hf.2.2.rd h (aX h b (by simp)),hf.2.2.rd i (aX i b (by simp)),hf.2.1⟩;obtain⟨⟨W,X,Y,Z,z4,z5⟩,O,Q,R,S,T,U⟩:=csf6 b;clear hf b h i r
 go_wp2
 obtain⟨D,E,F,z⟩:=v.out;exact bodyPost_ret (br results44 rfl D) rfl ⟨_,_,rfl,E,F,z⟩
theorem sminus_any (v u:Value)(a b p q:ak)(w:World)(r:SpanV w v a b)(o:SpanV w u p q)(k:FitsT a)(m:FitsT b)(n:FitsT p)(fq:FitsT q):yC 111 #[v,u] w (aeT w (aG a (dV q)) (aG b (dV p))):=by
 obtain⟨E,F,rfl,g,h⟩:=r;obtain⟨G,H,rfl,i,j⟩:=o;obtain⟨x,t,rfl⟩:=g.shape;obtain⟨z,y,rfl⟩:=h.shape;obtain⟨B,A,rfl⟩:=i.shape;obtain⟨D,C,rfl⟩:=j.shape;exact spanMinus_W a b p q _ _ _ _ _ _ _ _ _ _ w
  (fun d=>spanOpp_W p q _ _ _ _ d (fun f=>YA q.s _ _ _ q.e f) (fun f=>YA p.s _ _ _ p.e f))
  (fun d c=>splus_any _ _ a b (dV q) (dV p) d ⟨_,_,rfl,g.l c,h.l c⟩ ⟨_,_,rfl,j.l c,i.l c⟩ k m fq n)
theorem sminus9 (v u:Value)(a b p q:ak)(w:World)(r:SpanV w v a b)(o:SpanV w u p q)(k:Fit9 a)(m:Fit9 b)(n:Fit9 p)(fq:Fit9 q):yC 111 #[v,u] w (aeT w (aG a (dV q)) (aG b (dV p))):=by
 obtain⟨E,F,rfl,g,h⟩:=r;obtain⟨G,H,rfl,i,j⟩:=o;obtain⟨x,t,rfl⟩:=g.shape;obtain⟨z,y,rfl⟩:=h.shape;obtain⟨B,A,rfl⟩:=i.shape;obtain⟨D,C,rfl⟩:=j.shape;exact spanMinus_W a b p q _ _ _ _ _ _ _ _ _ _ w
  (fun d=>spanOpp_W p q _ _ _ _ d (fun f=>YA q.s _ _ _ q.e f) (fun f=>YA p.s _ _ _ p.e f))
  (fun d c=>splus9 _ _ a b (dV q) (dV p) d ⟨_,_,rfl,g.l c,h.l c⟩ ⟨_,_,rfl,j.l c,i.l c⟩ k m fq n)
theorem refined1_Log (E pf pi:Nat)(x y u v:ak)(k b:Int)(w:World)(R:w.rangeAt pf 0 [.func (.func 46) #[] #[.pointer (some ⟨E,0,none⟩)]])(Q:w.rangeAt pi 0 [yi b])
  (A: ∀a,yB w a→yC 46 #[yi k,.pointer (some ⟨E,0,none⟩)] a (aeT a x y))
  (z: ∀xo xc yo yc a,yB w a→Rd a .u32 (yT xo x.n xc) (Dg.dg 4294967296 x.n)→Rd a .u32 (yT yo y.n yc) (Dg.dg 4294967296 y.n)→yC 55 #[.agg #[.bool x.s,yT xo x.n xc,yi x.e,.bool y.s,yT yo y.n yc,yi y.e],yi b] a (aeT a u v)):
  yC 54 #[yi k,.pointer (some ⟨pf,0,none⟩),.pointer (some ⟨pi,0,none⟩)] w (aeT w u v):=by
 replace A:Hid _:=A;replace z:Hid _:=z;have aq:pf<w.heap.size:=World.block_lt_of_cell? _ _ (R 0 _ rfl);have ar:pi<w.heap.size:=World.block_lt_of_cell? _ _ (Q 0 _ rfl);obtain⟨M,D,q1,C⟩:=cA w [.bool false,yN,yi 0,.bool false,yN,yi 0] 54;replace D:Hid _:=D;have q5:=aC R C;have q6:=aC Q C;clear R Q
 go_enter func54,ntmps54
 go_upto_region 1 with fail
 rw[D.out];clear D
 go_upto_region 1 with fail
 have q:yB M M.drew:=(Below.refl _ _).drew;have F:=aC q5 q;have G:=aC q6 q;have T:=q1.l q;have B:=aa C q;clear q5 q6 q1 C q;refine wp_region_held_drew (S:=fun wq=>wq.rangeAt pf 0 [.func (.func 46) #[] #[.pointer (some ⟨E,0,none⟩)]]∧wq.rangeAt pi 0 [yi b]) (by kernel_rfl) ⟨F,G⟩ (fun t=> ?_)
 generalize M.drew=ap at F G T B t⊢;refine tq 0 (.func (.func 46) #[] #[.pointer (some ⟨E,0,none⟩)]) rfl (fun _ O=>gU 57 (.tmp 1) rfl pf 0 (by kernel_rfl) _ _ underlying57 rfl (O.1 0 _ rfl)) t ?_
 refine tq 1 (yi k) rfl (fun _ _=>by kernel_rfl) t ?_
 refine tq 3 (yi b) rfl (fun _ O=>gU 3 (.tmp 2) rfl pi 0 (by kernel_rfl) _ _ underlying3 rfl (O.2 0 _ rfl)) t ?_
 refine wpAnyH_ready (rs:=[2]) (by kernel_rfl) (by simp) ?_;refine AllReadyH.cons rfl (fun K d=> ?_) AllReadyH.nil
 go_simp
 refine(A.out _ B).mono ?_;rintro zz b0 ⟨av,ay,rfl,H,J,r⟩;have U:=aC F r;have W:=aC G r;have a4:=T.l r;have N:=aa B r;obtain⟨xo,xc,g⟩:=H.shape;subst g;obtain⟨yo,yc,g⟩:=J.shape;subst g;clear F G T B r A;refine d.out _ _ ⟨U,W⟩ (fun ac=> ?_)
 clear d K;refine wpAnyH_ready (rs:=[4]) (by kernel_rfl) (by simp) ?_;refine AllReadyH.cons rfl (fun K d=> ?_) AllReadyH.nil
 go_simp
 refine(z.out _ _ _ _ _ N H J).mono ?_;rintro zz p ⟨ax,az,rfl,I,L,f⟩;have X:=aC U f;have Y:=aC W f;have h:=a4.l f;have Z:=H.l f;have a0:=J.l f;have a1:=aa N f;obtain⟨j,i,g⟩:=I.shape;subst g;obtain⟨o,m,g⟩:=L.shape;subst g;clear U W a4 H J N f z;refine d.out _ _ ⟨X,Y⟩ (fun ad=> ?_)
 clear d K;refine wpAnyH_ready (rs:=[5]) (by kernel_rfl) (by simp) ?_;refine AllReadyH.cons rfl (fun K d=> ?_) AllReadyH.nil
 have c:But w.heap.size p (p.setCells w.heap.size 0 [.bool u.s,yT j u.n i,yi u.e,.bool v.s,yT o v.n m,yi v.e]):=de _ _ _ _;have a3:p.there w.heap.size 0 6:=dD h;have a5:au (p.setCells w.heap.size 0 [.bool u.s,yT j u.n i,yi u.e,.bool v.s,yT o v.n m,yi v.e]) w.heap.size 54 [.bool u.s,yT j u.n i,yi u.e,.bool v.s,yT o v.n m,yi v.e]:=h.sets _ rfl;have al:=c.rd Z (aX Z h (by simp));have an:=c.rd a0 (aX a0 h (by simp));have a8:=c.rd I (aX I h (by simp));have a9:=c.rd L (aX L h (by simp));have a6:=dZ c X (by omega);have a7:=dZ c Y (by omega);have a2:=c.below a1 (by omega);rw[if_pos (by kernel_rfl)];refine wp_store_mid 54 (.tmp 4) (.tmp 9) rfl w.heap.size 0 #[.bool u.s,yT j u.n i,yi u.e,.bool v.s,yT o v.n m,yi v.e] (by kernel_rfl) (by kernel_rfl) a3 (by kernel_rfl) (by simp[Value.oneCell']) ?_;refine d.out _ _ ⟨a6,a7⟩ (fun ae=> ?_)
 clear d K;clear h Z a0 I L X Y a1 c a3;refine wpAnyH_done (by kernel_rfl) ?_ _;clear t ac ad ae;change Exit.then _ _ _ _ (World.setCells p w.heap.size 0 [.bool u.s,yT j u.n i,yi u.e,.bool v.s,yT o v.n m,yi v.e]);generalize World.setCells p w.heap.size 0 [.bool u.s,yT j u.n i,yi u.e,.bool v.s,yT o v.n m,yi v.e]=ao at a6 a7 a5 al an a8 a9 a2⊢;simp only[Act.put,List.getElem_toArray,List.getElem_cons_succ,List.getElem_cons_zero];have hl:=run_loadVar_mid (P:=Tryz.prog) _ (w.heap.size) 0 54 [.bool u.s,yT j u.n i,yi u.e,.bool v.s,yT o v.n m,yi v.e] _ a5.range underlying54 rfl (by kernel_rfl)
 go_wp2
 exact bodyPost_ret (br results54 rfl hl) rfl ⟨_,_,rfl,a8,a9,a2⟩
theorem Log_W (x y p q:ak)(s:Bool)(N:Option Addr)(la X:Nat)(e b f g er:Int)(w:World)(hf: ¬f≤0)(hg: ¬g=0)
  (z: ∀a,yB w a→yC 41 #[ydV s (.slice N la X) e,yi b] a (NRd a x 0))
  (v: ∀d c a,yB w a→Rd a .u32 (yT d x.n c) (Dg.dg 4294967296 x.n)→yC 20 #[yDV x d c] a (yR a (yi f)))
  (B: ∀a,yB w a→yC 43 #[yi 1] a (Lx a y))
  (u: ∀d c yo yc a,yB w a→Rd a .u32 (yT d x.n c) (Dg.dg 4294967296 x.n)→Rd a .u32 (yT yo y.n yc) (Dg.dg 4294967296 y.n)→yC 42 #[yDV x d c,yDV y yo yc] a (yR a (yi g)))
  (A: ∀pa d c a,yB w a→au a pa 48 (yDL x d c)→Rd a .u32 (yT d x.n c) (Dg.dg 4294967296 x.n)→yC 21 #[yi b,.func (.func 46) #[] #[.pointer (some ⟨pa,0,none⟩)]] a (BRd a p q er)):
  yC 15 #[ydV s (.slice N la X) e,yi b] w (BRd w p q er):=by
 replace z:Hid _:=z;replace v:Hid _:=v;replace B:Hid _:=B;replace u:Hid _:=u;replace A:Hid _:=A;obtain⟨W4,F,q1,q2,R⟩:=iG w (ydL s (.slice N la X) e) 25 [.bool false,yN,yi 0,.bool false,yN,yi 0] 29;replace F:Hid _:=F
 go_enter func15,ntmps15
 go_upto_region 1 with fail
 rw[F.out];clear F;obtain⟨c6,c7,c8⟩:=q1.cs3
 go_wp2_with fail
 refine(z.out _ R).mono ?_;rintro M L ⟨bc,rfl,a5,W⟩;have a0:=q2.l W;have O:=aa R W;obtain⟨d,c,h⟩:=a5.shape;subst h;clear q1 q2 R W z c6 c7 c8;obtain⟨b8,E,a1,C⟩:=cA L (yDL x d c) 48;replace E:Hid _:=E;have ba:w.heap.size≤L.heap.size:=O.size;have bb:=a0.lt;have al:=a0.l C;have a6:=a5.l C;have Q:=aa O C;clear a0 a5 O C
 go_upto_region 2 with fail
 rw[E.out];clear E;obtain⟨ay,az,b0⟩:=a1.cs3
 go_wp2_with fail
 refine(v.out _ _ _ Q a6).mono ?_;rintro M ac ⟨rfl,k⟩;have an:=al.l k;have ap:=a1.l k;have av:=a6.l k;have ad:=aa Q k;clear al a1 a6 Q k v ay az b0
 go_upto_region 6 with fail
 have j:yB ac ac.drew:=(Below.refl _ _).drew;have a2:=an.l j;have G:=ap.l j;have a7:=av.l j;have D:=aa ad j;clear an ap av ad j;refine wp_region_held_drew (S:=fun wq=>au wq L.heap.size 48 (yDL x d c)) (by kernel_rfl) G (fun Y=> ?_)
 generalize ac.drew=b9 at a2 G a7 D Y⊢;refine tq 0 (yDV x d c) rfl (fun _ b2=>fy 48 (.tmp 6) rfl L.heap.size 0 (by kernel_rfl) _ _ b2.range underlying48 rfl (by kernel_rfl)) Y ?_
 refine wpAnyH_ready (rs:=[1]) (by kernel_rfl) (by simp) ?_;refine AllReadyH.cons rfl (fun K r=> ?_) AllReadyH.nil
 go_simp
 refine(B.out _ D).mono ?_;rintro M bg ⟨bd,rfl,H,m⟩;have aq:=a2.l m;have a3:=G.l m;have a8:=a7.l m;have T:=aa D m;obtain⟨yo,yc,h⟩:=H.shape;subst h;clear a2 G a7 D m B;refine r.out _ _ a3 (fun b1=> ?_)
 clear r K;refine wpAnyH_ready (rs:=[2]) (by kernel_rfl) (by simp) ?_;refine AllReadyH.cons rfl (fun K r=> ?_) AllReadyH.nil
 go_simp
 refine(u.out _ _ _ _ _ T a8 H).mono ?_;rintro M bh ⟨rfl,i⟩;have ar:=aq.l i;have a4:=a3.l i;have a9:=a8.l i;have ax:=H.l i;have U:=aa T i;clear aq a3 a8 H T i u;refine r.out _ _ a4 (fun Z=> ?_)
 clear r K;refine tq 3 (.bool false) rfl (fun _ _=>by go_simp) Z ?_
 refine tq 4 (.bool false) rfl (fun _ _=>by kernel_rfl) Z ?_
 refine wpAnyH_done (by kernel_rfl) ?_ _;clear Y b1 Z;simp only[Act.put,List.getElem_toArray,List.getElem_cons_succ,List.getElem_cons_zero,List.setIfInBounds_toArray,List.set_cons_zero,List.set_cons_succ]
 go_wp2_with fail
 refine(A.out _ _ _ _ U a4 a9).mono ?_;rintro M bi ⟨be,bf,rfl,I,J,o⟩;have t:=ar.l o;have b4:=a9.l o;have b5:=ax.l o;have ae:=aa U o;obtain⟨po,pc,h⟩:=I.shape;subst h;obtain⟨qo,qc,h⟩:=J.shape;subst h;clear ar a4 a9 ax U o A;have hf:=fin6 (P:=Tryz.prog) t ae (by omega) underlying29 rfl (by kernel_rfl) (.bool p.s) (yT po p.n pc) (yi p.e) (.bool q.s) (yT qo q.n qc) (yi q.e);have HH:Hid (_∧_∧_∧_):=⟨hf.1,hf.2.2.rd I (aX I t (by simp)),hf.2.2.rd J (aX J t (by simp)),hf.2.1⟩;obtain⟨⟨z0,z1,z2,z3,z4,z5⟩,y0,y1,y2,y3,y4,y5⟩:=csf6 t;clear hf t b4 b5 I J ae
 go_wp2
 obtain⟨hl,b6,b7,bR⟩:=HH.out;exact bodyPost_ret (aj results15 rfl rfl hl) rfl ⟨_,_,rfl,b6,b7,bR⟩
end Go.Proofs.YthhiidikgchdeabGreatDoor
