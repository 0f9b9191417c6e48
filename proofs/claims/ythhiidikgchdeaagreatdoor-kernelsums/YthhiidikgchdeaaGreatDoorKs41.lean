/- Texts laid together. -/
import Derived.Test.YthhiidikgchdeaaGreatDoorKs27
import Derived.Test.YthhiidikgchdeaaGreatDoorKs35
import Derived.Test.YthhiidikgchdeaaGreatDoorKs36
import Derived.Test.YthhiidikgchdeaaGreatDoorKs37
set_option maxRecDepth 100000
set_option maxHeartbeats 1600000
namespace Go.Proofs.YthhiidikgchdeaaGreatDoor
open _root_.Go.Proofs.Tryz
open Go.RowKit
theorem lw (v u:Value)(a b:ak)(w:World)(l:Rv w v a)(k:Rv w u b)(c:(Dg.dg 65536 a.n).length≤30000)(d:(Dg.dg 65536 b.n).length≤30000)
  (f: -200000≤a.e) (g:a.e≤200000) (i: -200000≤b.e) (j:b.e≤200000):
  yC 42 #[v,u] w (dr w (bare (cO a b))):=
 (vM v u a b w l k c d f g i j).mono fun _ _ h=>h.near
theorem uI (v:Value)(t:ak)(w:World)(c:Rv w v t):yC 41 #[v] w (dr w (dB t)):=by
 obtain⟨d,rfl,a⟩:=c;refine(ja d t w a).mono ?_;rintro z w' ⟨rfl,b⟩;exact⟨_,rfl,a.l b,b⟩
theorem gQ (v u : Value) (a b : ak) (w : World) (hv : Rv w v a) (hu : Rv w u b) (a4 : (Dg.dg 65536 a.n).length ≤ 30000) (a5 : (Dg.dg 65536 b.n).length ≤ 30000)
  (a9 : -200000 ≤ a.e) (ac : a.e ≤ 200000) (ad : -200000 ≤ b.e) (al : b.e ≤ 200000) :
  Calls Tryz.prog 34 #[v, u] w fun z w' => z = .returned (.int .i64 (dJ (bare (cO a (dB b))))) ∧ Below w.heap.size w w' := by
 have q : Hid (∀ j, Below w.heap.size w j → Calls Tryz.prog 41 #[u] j (dr j (dB b))) := fun j b1 => uI u b j (hu.l b1)
 have p : Hid (∀ x j, Below w.heap.size w j → Rv j x (dB b) → Calls Tryz.prog 42 #[v, x] j (dr j (bare (cO a (dB b))))) := fun x j b1 hx => lw v x a (dB b) j (hv.l b1) hx a4 a5 a9 ac ad al
 obtain ⟨s0, rfl, ra⟩ := hv
 obtain ⟨O, R, rfl⟩ := ra.shape
 obtain ⟨s1, rfl, rb⟩ := hu
 obtain ⟨Q, S, rfl⟩ := rb.shape
 obtain ⟨⟨rs, c, Z⟩, hT⟩ : ∃ T, bare (cO a (dB b)) = T := ⟨_, rfl⟩
 rw [hT] at p ⊢
 obtain ⟨⟨ms, mn, me⟩, a6⟩ : ∃ T, dB b = T := ⟨_, rfl⟩
 rw [a6] at p q
 have E := Dg.dg_nil_iff 65536 c (by omega)
 obtain ⟨X, a7⟩ : ∃ m, (Dg.dg 65536 a.n).length = m := ⟨_, rfl⟩
 obtain ⟨Y, a8⟩ : ∃ m, (Dg.dg 65536 b.n).length = m := ⟨_, rfl⟩
 rw [a7] at p ⊢
 rw [a8] at q ⊢
 obtain ⟨sa, an, N⟩ := a
 obtain ⟨sb, bn, P⟩ := b
 simp only at p q ⊢
 clear hT a7 a8 ra rb a4 a5 a6
 unfold dJ
 simp only
 have bA := aa (af w (.cells #[.bool sa, .slice O X R, .int .i64 N] 59)) (af _ (.cells #[.bool sb, .slice Q Y S, .int .i64 P] 59))
 have la := (aA w (.bool sa) (.slice O X R) (.int .i64 N) 59).l (af _ (.cells #[.bool sb, .slice Q Y S, .int .i64 P] 59))
 have lb := aA (w.alloc (.cells #[.bool sa, .slice O X R, .int .i64 N] 59)) (.bool sb) (.slice Q Y S) (.int .i64 P) 59
 rw [World.size_alloc] at lb
 obtain ⟨W, hW⟩ : ∃ W, ((w.alloc (.cells #[.bool sa, .slice O X R, .int .i64 N] 59)).alloc (.cells #[.bool sb, .slice Q Y S, .int .i64 P] 59)) = W := ⟨_, rfl⟩
 rw [hW] at bA la lb
 have bd : Below W.heap.size W W.drew := (Below.refl _ _).drew
 have r := aa bA bd
 have B := la.l bd
 have C := lb.l bd
 have I := aA W.drew (.bool false) (.slice none 0 0) (.int .i64 0) 59
 have sW : W.drew.heap.size = w.heap.size + 1 + 1 := by rw [← hW]; simp [World.size_alloc]
 rw [sW] at I
 rw [← hW] at r B C I
 obtain ⟨-, ⟨c0, c1, c2⟩, -⟩ := id B
 obtain ⟨-, ⟨c3, c4, c5⟩, -⟩ := id C
 clear bA la lb bd hW sW
 have a2 : w.heap.size + 1 + 1 ≠ w.heap.size := by omega
 have a3 : w.heap.size + 1 + 1 ≠ w.heap.size + 1 := by omega
 go_enter func34, ntmps34
 go_wp2_with fail
 go_region_held3 (fun M => (M.cell? ⟨w.heap.size, 0, none⟩ = some (.bool sa) ∧ M.cell? ⟨w.heap.size, 1, none⟩ = some (.slice O X R) ∧ M.cell? ⟨w.heap.size, 2, none⟩ = some (.int .i64 N)) ∧ M.cell? ⟨w.heap.size + 1, 0, none⟩ = some (.bool sb) ∧ M.cell? ⟨w.heap.size + 1, 1, none⟩ = some (.slice Q Y S) ∧ M.cell? ⟨w.heap.size + 1, 2, none⟩ = some (.int .i64 P)) (go_keep) (first
   | (go_at_call 41; refine (q.out _ r).mono ?_; rintro z D ⟨v1, rfl, q1, o⟩; have t := B.l o; have y := C.l o; have k := aa r o; obtain ⟨-, ⟨J, p1, p2⟩, -⟩ := id t; obtain ⟨-, ⟨K, p4, p5⟩, -⟩ := id y; have x0 := World.new_ne D _ J; have x1 := World.new_ne D _ K)
   | (go_at_call 41; refine (q.out _ (aa r (af _ (.cells #[.bool false, .slice none 0 0, .int .i64 0] 59)))).mono ?_; rintro z D ⟨v1, rfl, q1, o⟩; have t := (B.l (af _ (.cells #[.bool false, .slice none 0 0, .int .i64 0] 59))).l o; have y := (C.l (af _ (.cells #[.bool false, .slice none 0 0, .int .i64 0] 59))).l o; have k := aa (aa r (af _ (.cells #[.bool false, .slice none 0 0, .int .i64 0] 59))) o; have ap := I.l o; obtain ⟨-, ⟨J, p1, p2⟩, -⟩ := id t; obtain ⟨-, ⟨K, p4, p5⟩, -⟩ := id y; have x0 := World.new_ne D _ J; have x1 := World.new_ne D _ K)
   | (go_at_call 42; refine (p.out _ D k ⟨_, rfl, q1⟩).mono ?_; rintro z w4 ⟨v2, rfl, q2, i⟩; obtain ⟨tq, L, a1⟩ := q2.shape; subst a1; have F := t.l i; have G := y.l i; have A := aa k i; (try (have U := ap.l i; obtain ⟨-, ⟨d0, d1, d2⟩, f0, f1, f2⟩ := id U)); obtain ⟨-, ⟨u0, u1, u2⟩, -⟩ := id F; obtain ⟨-, ⟨u3, u4, u5⟩, -⟩ := id G; have y0 := World.new_ne w4 _ u0; have y1 := World.new_ne w4 _ u3)
   | (go_at_call 42; refine (p.out _ _ (aa k (af _ (.cells #[.bool false, .slice none 0 0, .int .i64 0] 59))) ⟨_, rfl, q1.l (af _ (.cells #[.bool false, .slice none 0 0, .int .i64 0] 59))⟩).mono ?_; rintro z w4 ⟨v2, rfl, q2, i⟩; obtain ⟨tq, L, a1⟩ := q2.shape; subst a1; have F := (t.l (af _ (.cells #[.bool false, .slice none 0 0, .int .i64 0] 59))).l i; have G := (y.l (af _ (.cells #[.bool false, .slice none 0 0, .int .i64 0] 59))).l i; have A := aa (aa k (af _ (.cells #[.bool false, .slice none 0 0, .int .i64 0] 59))) i; have U := (aA D (.bool false) (.slice none 0 0) (.int .i64 0) 59).l i; obtain ⟨-, ⟨d0, d1, d2⟩, f0, f1, f2⟩ := id U; obtain ⟨-, ⟨u0, u1, u2⟩, -⟩ := id F; obtain ⟨-, ⟨u3, u4, u5⟩, -⟩ := id G))
 ·have g : (Dg.dg 65536 c).length = 0 ↔ c = 0 := by rw [List.length_eq_zero_iff]; exact E
  have a0 := k.size
  have d := aa A (af w4 (.cells #[.bool rs, .slice tq (Dg.dg 65536 c).length L, .int .i64 Z] 59))
  clear B C I c0 c1 c2 c3 c4 c5 p q t y J p1 p2 K p4 p5 q1 q2 F G E r k A o i x0 x1 a2 a3
  by_cases h : c = 0
  ·have s := g.2 h
   have H : Hid (c = 0) := h
   rw [s] at d
   clear g h
   go_wp2
   go_ret
   exact ⟨by first | rfl | rw [if_pos H.out], d⟩
  ·have f : ¬(Dg.dg 65536 c).length = 0 := fun e => h (g.1 e)
   have H : Hid (¬c = 0) := h
   have s : (((Dg.dg 65536 c).length : Int) == 0) = false := by
    revert f
    generalize (Dg.dg 65536 c).length = mr
    intro f
    simp; exact f
   clear g h f
   cases rs
   ·go_wp2
    go_ret
    exact ⟨by first | rfl | (rw [if_neg H.out]; rfl), d⟩
   ·go_wp2
    go_ret
    exact ⟨by first | rfl | (rw [if_neg H.out]; rfl), d⟩
 ·obtain ⟨-, ⟨g0, g1, g2⟩, -⟩ := aD U (.bool rs) (.slice tq (Dg.dg 65536 c).length L) (.int .i64 Z)
  have g : (Dg.dg 65536 c).length = 0 ↔ c = 0 := by rw [List.length_eq_zero_iff]; exact E
  have a0 := k.size
  have d := am A a0 (.bool rs) (.slice tq (Dg.dg 65536 c).length L) (.int .i64 Z)
  clear B C I c0 c1 c2 c3 c4 c5 p q t y J p1 p2 K p4 p5 q1 q2 F G E r k A o i x0 x1 a2 a3
  by_cases h : c = 0
  ·have s := g.2 h
   have H : Hid (c = 0) := h
   rw [s] at d
   clear g h
   go_wp2
   go_ret
   exact ⟨by first | rfl | rw [if_pos H.out], d⟩
  ·have f : ¬(Dg.dg 65536 c).length = 0 := fun e => h (g.1 e)
   have H : Hid (¬c = 0) := h
   have s : (((Dg.dg 65536 c).length : Int) == 0) = false := by
    revert f
    generalize (Dg.dg 65536 c).length = mr
    intro f
    simp; exact f
   clear g h f
   cases rs
   ·go_wp2
    go_ret
    exact ⟨by first | rfl | (rw [if_neg H.out]; rfl), d⟩
   ·go_wp2
    go_ret
    exact ⟨by first | rfl | (rw [if_neg H.out]; rfl), d⟩
 ·obtain ⟨-, ⟨g0, g1, g2⟩, -⟩ := aD U (.bool rs) (.slice tq (Dg.dg 65536 c).length L) (.int .i64 Z)
  have g : (Dg.dg 65536 c).length = 0 ↔ c = 0 := by rw [List.length_eq_zero_iff]; exact E
  have a0 := k.size
  have d := am A (show w.heap.size ≤ w.heap.size + 1 + 1 by omega) (.bool rs) (.slice tq (Dg.dg 65536 c).length L) (.int .i64 Z)
  clear B C I c0 c1 c2 c3 c4 c5 p q t y J p1 p2 K p4 p5 q1 q2 F G E r k A o i x0 x1 a2 a3
  by_cases h : c = 0
  ·have s := g.2 h
   have H : Hid (c = 0) := h
   rw [s] at d
   clear g h
   go_wp2
   go_ret
   exact ⟨by first | rfl | rw [if_pos H.out], d⟩
  ·have f : ¬(Dg.dg 65536 c).length = 0 := fun e => h (g.1 e)
   have H : Hid (¬c = 0) := h
   have s : (((Dg.dg 65536 c).length : Int) == 0) = false := by
    revert f
    generalize (Dg.dg 65536 c).length = mr
    intro f
    simp; exact f
   clear g h f
   cases rs
   ·go_wp2
    go_ret
    exact ⟨by first | rfl | (rw [if_neg H.out]; rfl), d⟩
   ·go_wp2
    go_ret
    exact ⟨by first | rfl | (rw [if_neg H.out]; rfl), d⟩
theorem ie (s:Bool)(a:Option Addr)(c g:Nat)(e:Int)(t:Bool)(b:Option Addr)(d h:Nat)(f:Int)(x y:ak)(w:World)
  (K: ∀i,yB w i→yC 32 #[ydV s (.slice a g c) e] i (dr i x))
  (L: ∀i,yB w i→yC 32 #[ydV t (.slice b h d) f] i (dr i y)):
  yC 40 #[.agg #[.bool s,.slice a g c,yi e,.bool t,.slice b h d,yi f]] w (tR w x y):=by
 have S:Hid _:=K;have T:Hid _:=L;clear K L;obtain⟨xs,C,B⟩:=x;obtain⟨F,E,D⟩:=y;have I:=aa (af w (.cells #[.bool s,.slice a g c,yi e,.bool t,.slice b h d,yi f] 27)) (af _ (.cells #[.bool false,yN,yi 0,.bool false,yN,yi 0] 67));have j:=(aJ w (.bool s) (.slice a g c) (yi e) (.bool t) (.slice b h d) (yi f) 27).l (af _ (.cells #[.bool false,yN,yi 0,.bool false,yN,yi 0] 67));have k:=aJ (w.alloc (.cells #[.bool s,.slice a g c,yi e,.bool t,.slice b h d,yi f] 27)) (.bool false) yN (yi 0) (.bool false) yN (yi 0) 67;have n:=pM (w.alloc (.cells #[.bool s,.slice a g c,yi e,.bool t,.slice b h d,yi f] 27)) 67;rw[World.size_alloc] at k n;obtain⟨W,J⟩: ∃W,((w.alloc (.cells #[.bool s,.slice a g c,yi e,.bool t,.slice b h d,yi f] 27)).alloc (.cells #[.bool false,yN,yi 0,.bool false,yN,yi 0] 67))=W:=⟨_,rfl⟩;rw[J] at I j k n;have p:yB W W.drew:=(Below.refl _ _).drew;have j:=j.l p;have k:=k.l p;have n:=n.l p;have G:=aa I p;rw[←J] at j k n G;clear I p J;obtain⟨-,⟨c0,c1,c2,c3,c4,c5⟩,-⟩:=id j;have a7:w.heap.size+1≠w.heap.size:=by omega
 go_enter func40,ntmps40
 go_wp2_with fail
 go_region_held3 (fun m=>(m.cell? ⟨w.heap.size,0,none⟩=some (.bool s)∧m.cell? ⟨w.heap.size,1,none⟩=some (.slice a g c)∧m.cell? ⟨w.heap.size,2,none⟩=some (yi e))∧m.cell? ⟨w.heap.size,3,none⟩=some (.bool t)∧m.cell? ⟨w.heap.size,4,none⟩=some (.slice b h d)∧m.cell? ⟨w.heap.size,5,none⟩=some (yi f)) (go_keep) (first
  | (go_at_call 32;refine(S.out _ G).mono ?_;rintro z w3 ⟨vs,rfl,P,H⟩;have N:=j.l H;have a3:=k.l H;have a5:=n.l H;have M:=aa G H;clear G;obtain⟨-,⟨p0,p1,p2,p3,p4,p5⟩,-⟩:=id N;obtain⟨A,r,a0⟩:=P.shape;subst a0)
  | (go_at_call 32;refine(T.out w3 M).mono ?_;rintro z w4 ⟨vt,rfl,Q,o⟩;have a4:=P.l o;have a2:=N.l o;have O:=a3.l o;have R:=a5.l o;have U:=aa M o;obtain⟨u,q,a1⟩:=Q.shape;subst a1;obtain⟨-,⟨q0,q1,q2,q3,q4,q5⟩,-⟩:=id a2;obtain⟨a6,⟨d0,d1,d2,d3,d4,d5⟩,f0,f1,f2,f3,f4,f5⟩:=id O))
 all_goals go_wp2
 obtain⟨-,⟨Y,Z,g2,g3,g4,g5⟩,-⟩:=bP O (.bool xs) (yS A C r) (yi B) (.bool F) (yS u E q) (yi D);have r7:=R.rd a4 (Dg.norm_dg _ _ (by omega)) (.bool xs) (yS A C r) (yi B) (.bool F) (yS u E q) (yi D);have r8:=R.rd Q (Dg.norm_dg _ _ (by omega)) (.bool xs) (yS A C r) (yi B) (.bool F) (yS u E q) (yi D);have X:=aW U (show w.heap.size≤w.heap.size+1 by omega) (.bool xs) (yS A C r) (yi B) (.bool F) (yS u E q) (yi D)
 refine bodyPost_ret (v:= .agg #[.bool xs,yS A C r,yi B,.bool F,yS u E q,yi D]) (by simp[results,results40,go_sem,Y,Z,g2,g3,g4,g5]) rfl ?_;exact⟨_,_,rfl,r7,r8,X⟩
theorem P6 (n:Int)(b:Nat)(m:Nat)(x:Nat→ak)(g:Nat→Option Addr)(h:Nat→Nat)(w:World)(hm:2≤m)(a3:m≤4)(hb:b<w.heap.size)
  (Q: ∀j,j<m→w.cell? ⟨b,3*j,none⟩=some (.bool (x j).s)) (S: ∀j,j<m→w.cell? ⟨b,3*j+1,none⟩=some (.slice (g j) (Dg.dg 4294967296 (x j).n).length (h j))) (T: ∀j,j<m→w.cell? ⟨b,3*j+2,none⟩=some (yi (x j).e))
  (K: ∀j k a,j<m→k<m→yB w a→yC 22 #[.agg #[.bool (x j).s,.slice (g j) (Dg.dg 4294967296 (x j).n).length (h j),yi (x j).e],.agg #[.bool (x k).s,.slice (g k) (Dg.dg 4294967296 (x k).n).length (h k),yi (x k).e]] a (yR a (yi (bJ (x j) (x k)))))
  (C: ∀j up a,j<m→yB w a→yC 122 #[.agg #[.bool (x j).s,.slice (g j) (Dg.dg 4294967296 (x j).n).length (h j),yi (x j).e],yi n,.bool up] a (Lx a (aY (x j) n up)))
  (A: ∀j up v a,j<m→yB w a→Dv a v (aY (x j) n up)→yC 67 #[v] a (gR a (bU (aY (x j) n up)))):
  yC 113 #[yi n,.slice (some ⟨b,0,none⟩) m m] w (jE w (iD (bU (aY (loT x (m-1)) n false)) (bU (aY (hiT x (m-1)) n true)))):=by
 have a1:=tB x (m-1);have a2:=wN x (m-1);have HA:Hid (∀a,yB w a→yC 130 #[.slice (some ⟨b,0,none⟩) m m] a (ac8 a x g h (loI x (m-1)) (hiI x (m-1)))):=fun a d=>
  FN b m x g h a hm a3 (Nat.lt_of_lt_of_le hb d.size) (fun j i=>cell_later d (Q j i)) (fun j i=>cell_later d (S j i)) (fun j i=>cell_later d (T j i)) (fun j k f i hk c=>K j k f i hk (aa d c))
 have M:Hid (∀a,yB w a→yC 69 #[.agg #[.bool (x (loI x (m-1))).s,.slice (g (loI x (m-1))) (Dg.dg 4294967296 (x (loI x (m-1))).n).length (h (loI x (m-1))),yi (x (loI x (m-1))).e,.bool (x (hiI x (m-1))).s,.slice (g (hiI x (m-1))) (Dg.dg 4294967296 (x (hiI x (m-1))).n).length (h (hiI x (m-1))),yi (x (hiI x (m-1))).e],yi n] a (aeT a (aY (loT x (m-1)) n false) (aY (hiT x (m-1)) n true))):=fun a d=>
  Nt _ _ _ _ _ _ _ _ _ _ n _ _ a (fun f c=>C (loI x (m-1)) false f (by omega) (aa d c)) (fun f c=>C (hiI x (m-1)) true f (by omega) (aa d c))
 have B:Hid (∀p q a,yB w a→Rd a .u32 p (Dg.dg 4294967296 (aY (loT x (m-1)) n false).n)→Rd a .u32 q (Dg.dg 4294967296 (aY (hiT x (m-1)) n true).n)→yC 26 #[.agg #[.bool (aY (loT x (m-1)) n false).s,p,yi (aY (loT x (m-1)) n false).e,.bool (aY (hiT x (m-1)) n true).s,q,yi (aY (hiT x (m-1)) n true).e]] a (jE a (iD (bU (aY (loT x (m-1)) n false)) (bU (aY (hiT x (m-1)) n true))))):=fun p q a d rp y=>by
  obtain⟨r,o,E⟩:=rp.shape;obtain⟨u,t,F⟩:=y.shape;subst E;subst F;exact Hu _ _ _ _ _ _ _ _ _ _ _ _ a (fun f c=>A (loI x (m-1)) false _ f (by omega) (aa d c) ⟨_,rfl,rp.l c⟩) (fun f c=>A (hiI x (m-1)) true _ f (by omega) (aa d c) ⟨_,rfl,y.l c⟩)
 clear Q S T K C A a1 a2;obtain⟨R,X⟩: ∃R,iD (bU (aY (loT x (m-1)) n false)) (bU (aY (hiT x (m-1)) n true))=R:=⟨_,rfl⟩;rw[X] at B⊢;obtain⟨⟨ls,ln,le⟩,W⟩: ∃L,aY (loT x (m-1)) n false=L:=⟨_,rfl⟩;obtain⟨⟨hs,hn,he⟩,U⟩: ∃L,aY (hiT x (m-1)) n true=L:=⟨_,rfl⟩;rw[W,U] at M B;obtain⟨⟨rs,J,I⟩,⟨qs,H,G⟩,rc⟩:=R;clear X W U;have Z:=aJ w (.bool false) yN (yi 0) (.bool false) yN (yi 0) 27;have d:=af w (.cells #[.bool false,yN,yi 0,.bool false,yN,yi 0] 27)
 go_enter func113,ntmps113
 go_wp2_with fail
 refine(HA.out _ d).mono ?_;rintro z f ⟨rfl,c⟩;have N:=aa d c
 go_wp2_with fail
 refine(M.out _ N).mono ?_;rintro z w3 ⟨p,q,rfl,rp,y,D⟩;have O:=aa N D
 go_wp2_with fail
 refine(B.out p q _ O rp y).mono ?_;rintro z w5 ⟨pp,qq,rfl,op,oq,P⟩;have a0:=aa O P;have k5:=((Z.l c).l D).l P;have Y:w.heap.size<w3.heap.size:=((Z.l c).l D).1;obtain⟨r,o,E⟩:=op.rd.shape;subst E;obtain⟨u,t,F⟩:=oq.rd.shape;subst F;obtain⟨hl,⟨g0,g1,g2,g3,g4,g5⟩,f0,f1,f2,f3,f4,f5⟩:=id k5
 go_wp2
 obtain⟨-,⟨u0,u1,u2,u3,u4,u5⟩,-⟩:=bP k5 (.bool rs) (yT r J o) (yi I) (.bool qs) (yT u H t) (yi G);have bb:=aW a0 (show w.heap.size≤w.heap.size by omega) (.bool rs) (yT r J o) (yi I) (.bool qs) (yT u H t) (yi G)
 refine bodyPost_ret (v:= .tuple #[.agg #[.bool rs,yT r J o,yi I,.bool qs,yT u H t,yi G],yi rc]) (by simp[results,results113,go_sem,u0,u1,u2,u3,u4,u5]) rfl ?_;exact⟨_,_,rfl,((op.apart6 Y _ _ _ _ _ _).lower (by omega)),((oq.apart6 Y _ _ _ _ _ _).lower (by omega)),bb⟩
theorem jK {R D L G:Int}(gr:Bool)(t:ak)(m:L≤G):inR R D L G gr (bare t).n (bare t).e=dA R D L G gr t.n t.e:=by
 unfold inR dA;refine decide_eq_decide.2 ?_
 by_cases h:t.n=0
 ·have:(bare t).n=0:=by unfold bare;rw[if_pos h]
  simp only[h,this,true_or]
 ·obtain⟨a,b,c⟩:=gN h
  rw[c];simp only[a,h,false_or,b];unfold cP;rw[show t.e+(bitLen t.n:Int)-1=(bitLen t.n:Int)-1+t.e by omega]
  obtain⟨p,f⟩: ∃p,(bitLen t.n:Int)-1+t.e=p:=⟨_,rfl⟩;rw[show t.e+(bitLen t.n:Int)=p+1 by omega,f]
  clear a b c h;obtain⟨z,i⟩: ∃z,t.e+(tz t.n:Int)=z:=⟨_,rfl⟩;rw[i];have g:aT R D p=p/(ai R:Int)-(D-1):=rfl;obtain⟨k,d⟩: ∃k,aT R D p=k:=⟨_,rfl⟩;rw[d] at g⊢;clear f i d;unfold ai at*
  cases gr<;>by_cases j:R=16<;>simp only[j,if_true,if_false] at g⊢ <;>by_cases l:k<L<;>simp[l]<;>omega
theorem Af {R D L G:Int}{gr s:Bool}{d:Nat}{p:Int}(b:bk R D L G=0)(h:ia R D L G gr d p):
  cC (ix (Dg.dg 4294967296 d) p R D L G) ⟨s,Dg.vl 4294967296 (Dg.dg 4294967296 d),(ai R:Int)*p⟩=(bare ⟨s,d,(ai R:Int)*p⟩,0):=by
 obtain⟨l,p1,p2,g,i,f⟩:=qj b h;have c:ix (Dg.dg 4294967296 d) p R D L G=0:=kA ((bL (nt (n:=d) (e:=0) (by omega) (by omega) (by omega))).1) b (by unfold eJ;simp;omega);rw[c,Dg.vl_dg _ _ (by omega)]
 show bU _=_
 refine wK ?_ ?_ ?_
 ·exact Nat.le_trans (aH _ _ d (by omega) (kR _)) (by omega)
 ·by_cases a:d=0
  ·simp[bare,a]
  ·have:=(nE (t:=⟨s,d,(ai R:Int)*p⟩) a).2
   simp only at this;omega
 ·by_cases a:d=0
  ·simp[bare,a]
  ·have:=(nE (t:=⟨s,d,(ai R:Int)*p⟩) a).2
   simp only at this;omega
theorem kZ {R D L G:Int}{gr s:Bool}{d:Nat}{p:Int}(b:bk R D L G=0)(h:ia R D L G gr d p):aS (Dg.dg 4294967296 (bare ⟨s,d,(ai R:Int)*p⟩).n) (bare ⟨s,d,(ai R:Int)*p⟩).e=0:=by
 obtain⟨l,p1,p2,f,g,c⟩:=qj b h;refine nt ?_ ?_ ?_
 ·exact Nat.le_trans (aH _ _ d (by omega) (kR _)) (by omega)
 ·by_cases a:d=0
  ·simp[bare,a]
  ·have:=(nE (t:=⟨s,d,(ai R:Int)*p⟩) a).2
   simp only at this;omega
 ·by_cases a:d=0
  ·simp[bare,a]
  ·have:=(nE (t:=⟨s,d,(ai R:Int)*p⟩) a).2
   simp only at this;omega
theorem sD (R D:Int)(s:Bool)(d:Nat)(p:Int)(e:1≤D):bare ⟨s,io R D d,(ai R:Int)*gD R D d p⟩=bare ⟨s,d,(ai R:Int)*p⟩:=by
 unfold io gD
 by_cases h:d=2^ (ai R*D.toNat)
 ·rw[if_pos h,if_pos h]
  have a:=Int.natCast_mul (ai R) D.toNat;have b:=Int.natCast_mul (ai R) (D-1).toNat;rw[Int.toNat_of_nonneg (by omega)] at a b;have c:(ai R:Int)*(p+1)+((ai R*(D-1).toNat:Nat):Int)=(ai R:Int)*p+((ai R*D.toNat:Nat):Int):=by
   rw[a,b,Int.mul_add,Int.mul_sub];omega
  refine fH (K:=(max (-((ai R:Int)*p)) (max (-((ai R:Int)*(p+1))) 0)).toNat) (by simp only;omega) (by simp only;omega) ?_;rw[eV,eV];simp only;rw[h,←Nat.pow_add,←Nat.pow_add]
  congr 2
  omega
 ·rw[if_neg h,if_neg h]
theorem sshort9 (v:Value)(a b:ak)(w:World)(k:SpanV w v a b)(i:Fit9 a)(j:Fit9 b)(e:Tab w):yC 26 #[v] w (BRd w (iD (bU a) (bU b)).1 (iD (bU a) (bU b)).2.1 (iD (bU a) (bU b)).2.2):=by
 obtain⟨y,z,rfl,f,g⟩:=k;obtain⟨r,q,rfl⟩:=f.shape;obtain⟨x,u,rfl⟩:=g.shape;obtain⟨m,o,p⟩:=i.all;obtain⟨n,s,t⟩:=j.all;have ta:=gZ _ _ m;have A:=gZ _ _ n;exact(Hu _ _ _ _ _ _ _ _ _ _ _ _ w (fun d c=>kL _ a d ⟨_,rfl,f.l c⟩ (by omega) ⟨by omega,by omega⟩ (e.l c) (by omega)) (fun d c=>kL _ b d ⟨_,rfl,g.l c⟩ (by omega) ⟨by omega,by omega⟩ (e.l c) (by omega))).mono fun _ _ h=>own_brd h
end Go.Proofs.YthhiidikgchdeaaGreatDoor
