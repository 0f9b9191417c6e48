/-
  Texts laid together: Co6, Dp2, Dl9, Se2, Ce2, Ar2, As8, Bl18, Bv1.
-/
import Derived.Test.YtiakgfmlpdfhdaaGreatDoorTa20
import Derived.Test.YtiakgfmlpdfhdaaGreatDoorTa21
import Derived.Test.YtiakgfmlpdfhdaaGreatDoorTa33
set_option maxRecDepth 100000
set_option maxHeartbeats 3200000
namespace Go.Proofs.YtiakgfmlpdfhdaaGreatDoor
open _root_.Go.Proofs.Tryz
open Go.RowKit
theorem ik.store {w:World}{g:Nat}{zs:List Nat}(h:ik w g zs)(j x:Nat):ik (w.setCell ⟨g,j,none⟩ (.int .u8 x)) g (zs.set j x):=by
 refine⟨fun i hi=> ?_,fun i hi=> ?_,by simpa[World.setCell] using h.lt⟩
 ·rw[List.length_set] at hi
  by_cases e:j=i
  ·subst e
   rw[World.cell?_setCell_same (h:=h.c j hi)];simp[List.getD_eq_getElem?_getD,hi]
  ·rw[World.cell?_setCell_other (h:=by intro k;cases k;exact e rfl),h.c i hi]
   simp[List.getD_eq_getElem?_getD,e]
 ·rw[List.length_set] at hi
  rw[O7];exact h.f i hi
theorem lw (v u:Value)(a b:ak)(w:World)(hv:Rv w v a)(hu:Rv w u b)(hLa:(Dg.dg 65536 a.n).length≤30000)(hLb:(Dg.dg 65536 b.n).length≤30000)
  (ha1: -200000≤a.e) (ha2:a.e≤200000) (hb1: -200000≤b.e) (hb2:b.e≤200000):
  yC 29 #[v,u] w (dr w (bare (cO a b))):=
 (vM v u a b w hv hu hLa hLb ha1 ha2 hb1 hb2).mono fun _ _ h=>h.near
theorem gQ (v u : Value) (a b : ak) (w : World) (hv : Rv w v a) (hu : Rv w u b) (hLa : (Dg.dg 65536 a.n).length ≤ 30000) (hLb : (Dg.dg 65536 b.n).length ≤ 30000)
  (ha1 : -200000 ≤ a.e) (ha2 : a.e ≤ 200000) (hb1 : -200000 ≤ b.e) (hb2 : b.e ≤ 200000) :
  Calls Tryz.prog 11 #[v, u] w fun z w' => z = .returned (.int .i64 (dJ (bare (cO a (dB b))))) ∧ Below w.heap.size w w' := by
 have HM : Hid (∀ w1, Below w.heap.size w w1 → Calls Tryz.prog 9 #[u] w1 (dr w1 (dB b))) := fun w1 b1 => uI u b w1 (hu.l b1)
 have HP : Hid (∀ x w1, Below w.heap.size w w1 → Rv w1 x (dB b) → Calls Tryz.prog 29 #[v, x] w1 (dr w1 (bare (cO a (dB b))))) := fun x w1 b1 hx => lw v x a (dB b) w1 (hv.l b1) hx hLa hLb ha1 ha2 hb1 hb2
 obtain ⟨s0, rfl, ra⟩ := hv
 obtain ⟨ao, ca, rfl⟩ := ra.shape
 obtain ⟨s1, rfl, rb⟩ := hu
 obtain ⟨bo, cb, rfl⟩ := rb.shape
 obtain ⟨⟨rs, rn, re⟩, hT⟩ : ∃ T, bare (cO a (dB b)) = T := ⟨_, rfl⟩
 rw [hT] at HP ⊢
 obtain ⟨⟨ms, mn, me⟩, hMT⟩ : ∃ T, dB b = T := ⟨_, rfl⟩
 rw [hMT] at HP HM
 have hnl := Dg.dg_nil_iff 65536 rn (by omega)
 obtain ⟨ma, hma⟩ : ∃ m, (Dg.dg 65536 a.n).length = m := ⟨_, rfl⟩
 obtain ⟨mb, hmb⟩ : ∃ m, (Dg.dg 65536 b.n).length = m := ⟨_, rfl⟩
 rw [hma] at HP ⊢
 rw [hmb] at HM ⊢
 obtain ⟨sa, an, ae⟩ := a
 obtain ⟨sb, bn, be⟩ := b
 simp only at HP HM ⊢
 clear hT hma hmb ra rb hLa hLb hMT
 unfold dJ
 simp only
 have bA := aa (af w (.cells #[.bool sa, .slice ao ma ca, .int .i64 ae] 35)) (af _ (.cells #[.bool sb, .slice bo mb cb, .int .i64 be] 35))
 have la := (aA w (.bool sa) (.slice ao ma ca) (.int .i64 ae) 35).l (af _ (.cells #[.bool sb, .slice bo mb cb, .int .i64 be] 35))
 have lb := aA (w.alloc (.cells #[.bool sa, .slice ao ma ca, .int .i64 ae] 35)) (.bool sb) (.slice bo mb cb) (.int .i64 be) 35
 rw [World.size_alloc] at lb
 obtain ⟨W, hW⟩ : ∃ W, ((w.alloc (.cells #[.bool sa, .slice ao ma ca, .int .i64 ae] 35)).alloc (.cells #[.bool sb, .slice bo mb cb, .int .i64 be] 35)) = W := ⟨_, rfl⟩
 rw [hW] at bA la lb
 have bd : Below W.heap.size W W.drew := (Below.refl _ _).drew
 have b02 := aa bA bd
 have la2 := la.l bd
 have lb2 := lb.l bd
 have lzW := aA W.drew (.bool false) (.slice none 0 0) (.int .i64 0) 35
 have sW : W.drew.heap.size = w.heap.size + 1 + 1 := by rw [← hW]; simp [World.size_alloc]
 rw [sW] at lzW
 rw [← hW] at b02 la2 lb2 lzW
 obtain ⟨-, ⟨c0, c1, c2⟩, -⟩ := id la2
 obtain ⟨-, ⟨c3, c4, c5⟩, -⟩ := id lb2
 clear bA la lb bd hW sW
 have ne3 : w.heap.size + 1 + 1 ≠ w.heap.size := by omega
 have ne4 : w.heap.size + 1 + 1 ≠ w.heap.size + 1 := by omega
 go_enter func11, ntmps11
 go_wp2_with fail
 go_region_held3 (fun wq => (wq.cell? ⟨w.heap.size, 0, none⟩ = some (.bool sa) ∧ wq.cell? ⟨w.heap.size, 1, none⟩ = some (.slice ao ma ca) ∧ wq.cell? ⟨w.heap.size, 2, none⟩ = some (.int .i64 ae)) ∧ wq.cell? ⟨w.heap.size + 1, 0, none⟩ = some (.bool sb) ∧ wq.cell? ⟨w.heap.size + 1, 1, none⟩ = some (.slice bo mb cb) ∧ wq.cell? ⟨w.heap.size + 1, 2, none⟩ = some (.int .i64 be)) (go_keep) (first
   | (go_at_call 9; refine (HM.out _ b02).mono ?_; rintro z w3 ⟨v1, rfl, q1, b3⟩; have la3 := la2.l b3; have lb3 := lb2.l b3; have b03 := aa b02 b3; obtain ⟨-, ⟨p0, p1, p2⟩, -⟩ := id la3; obtain ⟨-, ⟨p3, p4, p5⟩, -⟩ := id lb3; have x0 := World.new_ne w3 _ p0; have x1 := World.new_ne w3 _ p3)
   | (go_at_call 9; refine (HM.out _ (aa b02 (af _ (.cells #[.bool false, .slice none 0 0, .int .i64 0] 35)))).mono ?_; rintro z w3 ⟨v1, rfl, q1, b3⟩; have la3 := (la2.l (af _ (.cells #[.bool false, .slice none 0 0, .int .i64 0] 35))).l b3; have lb3 := (lb2.l (af _ (.cells #[.bool false, .slice none 0 0, .int .i64 0] 35))).l b3; have b03 := aa (aa b02 (af _ (.cells #[.bool false, .slice none 0 0, .int .i64 0] 35))) b3; have lz3 := lzW.l b3; obtain ⟨-, ⟨p0, p1, p2⟩, -⟩ := id la3; obtain ⟨-, ⟨p3, p4, p5⟩, -⟩ := id lb3; have x0 := World.new_ne w3 _ p0; have x1 := World.new_ne w3 _ p3)
   | (go_at_call 29; refine (HP.out _ w3 b03 ⟨_, rfl, q1⟩).mono ?_; rintro z w4 ⟨v2, rfl, q2, b4⟩; obtain ⟨tq, tc, hvt⟩ := q2.shape; subst hvt; have la4 := la3.l b4; have lb4 := lb3.l b4; have b04 := aa b03 b4; (try (have lz4 := lz3.l b4; obtain ⟨-, ⟨d0, d1, d2⟩, f0, f1, f2⟩ := id lz4)); obtain ⟨-, ⟨u0, u1, u2⟩, -⟩ := id la4; obtain ⟨-, ⟨u3, u4, u5⟩, -⟩ := id lb4; have y0 := World.new_ne w4 _ u0; have y1 := World.new_ne w4 _ u3)
   | (go_at_call 29; refine (HP.out _ _ (aa b03 (af _ (.cells #[.bool false, .slice none 0 0, .int .i64 0] 35))) ⟨_, rfl, q1.l (af _ (.cells #[.bool false, .slice none 0 0, .int .i64 0] 35))⟩).mono ?_; rintro z w4 ⟨v2, rfl, q2, b4⟩; obtain ⟨tq, tc, hvt⟩ := q2.shape; subst hvt; have la4 := (la3.l (af _ (.cells #[.bool false, .slice none 0 0, .int .i64 0] 35))).l b4; have lb4 := (lb3.l (af _ (.cells #[.bool false, .slice none 0 0, .int .i64 0] 35))).l b4; have b04 := aa (aa b03 (af _ (.cells #[.bool false, .slice none 0 0, .int .i64 0] 35))) b4; have lz4 := (aA w3 (.bool false) (.slice none 0 0) (.int .i64 0) 35).l b4; obtain ⟨-, ⟨d0, d1, d2⟩, f0, f1, f2⟩ := id lz4; obtain ⟨-, ⟨u0, u1, u2⟩, -⟩ := id la4; obtain ⟨-, ⟨u3, u4, u5⟩, -⟩ := id lb4))
 ·have hlen : (Dg.dg 65536 rn).length = 0 ↔ rn = 0 := by rw [List.length_eq_zero_iff]; exact hnl
  have hs3 := b03.size
  have bZ := aa b04 (af w4 (.cells #[.bool rs, .slice tq (Dg.dg 65536 rn).length tc, .int .i64 re] 35))
  clear la2 lb2 lzW c0 c1 c2 c3 c4 c5 HP HM la3 lb3 p0 p1 p2 p3 p4 p5 q1 q2 la4 lb4 hnl b02 b03 b04 b3 b4 x0 x1 ne3 ne4
  by_cases h : rn = 0
  ·have h6 := hlen.2 h
   have H : Hid (rn = 0) := h
   rw [h6] at bZ
   clear hlen h
   go_wp2
   go_ret
   exact ⟨by first | rfl | rw [if_pos H.out], bZ⟩
  ·have h7 : ¬(Dg.dg 65536 rn).length = 0 := fun e => h (hlen.1 e)
   have H : Hid (¬rn = 0) := h
   have h6 : (((Dg.dg 65536 rn).length : Int) == 0) = false := by
    revert h7
    generalize (Dg.dg 65536 rn).length = mr
    intro h7
    simp; exact h7
   clear hlen h h7
   cases rs
   ·go_wp2
    go_ret
    exact ⟨by first | rfl | (rw [if_neg H.out]; rfl), bZ⟩
   ·go_wp2
    go_ret
    exact ⟨by first | rfl | (rw [if_neg H.out]; rfl), bZ⟩
 ·obtain ⟨-, ⟨g0, g1, g2⟩, -⟩ := aD lz4 (.bool rs) (.slice tq (Dg.dg 65536 rn).length tc) (.int .i64 re)
  have hlen : (Dg.dg 65536 rn).length = 0 ↔ rn = 0 := by rw [List.length_eq_zero_iff]; exact hnl
  have hs3 := b03.size
  have bZ := am b04 hs3 (.bool rs) (.slice tq (Dg.dg 65536 rn).length tc) (.int .i64 re)
  clear la2 lb2 lzW c0 c1 c2 c3 c4 c5 HP HM la3 lb3 p0 p1 p2 p3 p4 p5 q1 q2 la4 lb4 hnl b02 b03 b04 b3 b4 x0 x1 ne3 ne4
  by_cases h : rn = 0
  ·have h6 := hlen.2 h
   have H : Hid (rn = 0) := h
   rw [h6] at bZ
   clear hlen h
   go_wp2
   go_ret
   exact ⟨by first | rfl | rw [if_pos H.out], bZ⟩
  ·have h7 : ¬(Dg.dg 65536 rn).length = 0 := fun e => h (hlen.1 e)
   have H : Hid (¬rn = 0) := h
   have h6 : (((Dg.dg 65536 rn).length : Int) == 0) = false := by
    revert h7
    generalize (Dg.dg 65536 rn).length = mr
    intro h7
    simp; exact h7
   clear hlen h h7
   cases rs
   ·go_wp2
    go_ret
    exact ⟨by first | rfl | (rw [if_neg H.out]; rfl), bZ⟩
   ·go_wp2
    go_ret
    exact ⟨by first | rfl | (rw [if_neg H.out]; rfl), bZ⟩
 ·obtain ⟨-, ⟨g0, g1, g2⟩, -⟩ := aD lz4 (.bool rs) (.slice tq (Dg.dg 65536 rn).length tc) (.int .i64 re)
  have hlen : (Dg.dg 65536 rn).length = 0 ↔ rn = 0 := by rw [List.length_eq_zero_iff]; exact hnl
  have hs3 := b03.size
  have bZ := am b04 (show w.heap.size ≤ w.heap.size + 1 + 1 by omega) (.bool rs) (.slice tq (Dg.dg 65536 rn).length tc) (.int .i64 re)
  clear la2 lb2 lzW c0 c1 c2 c3 c4 c5 HP HM la3 lb3 p0 p1 p2 p3 p4 p5 q1 q2 la4 lb4 hnl b02 b03 b04 b3 b4 x0 x1 ne3 ne4
  by_cases h : rn = 0
  ·have h6 := hlen.2 h
   have H : Hid (rn = 0) := h
   rw [h6] at bZ
   clear hlen h
   go_wp2
   go_ret
   exact ⟨by first | rfl | rw [if_pos H.out], bZ⟩
  ·have h7 : ¬(Dg.dg 65536 rn).length = 0 := fun e => h (hlen.1 e)
   have H : Hid (¬rn = 0) := h
   have h6 : (((Dg.dg 65536 rn).length : Int) == 0) = false := by
    revert h7
    generalize (Dg.dg 65536 rn).length = mr
    intro h7
    simp; exact h7
   clear hlen h h7
   cases rs
   ·go_wp2
    go_ret
    exact ⟨by first | rfl | (rw [if_neg H.out]; rfl), bZ⟩
   ·go_wp2
    go_ret
    exact ⟨by first | rfl | (rw [if_neg H.out]; rfl), bZ⟩
theorem invAtan_W (pf pn : Nat) (x y : ak) (n k : Int) (w : World) (lf : w.rangeAt pf 0 [.func (.func 38) #[] #[]]) (ln : w.rangeAt pn 0 [.int .i64 n])
  (HI : ∀ w1, Below w.heap.size w w1 → Calls Tryz.prog 38 #[.int .i64 n, .int .i64 k] w1 (aeT w1 x y)) :
  Calls Tryz.prog 62 #[.int .i64 k, .pointer (some ⟨pf, 0, none⟩), .pointer (some ⟨pn, 0, none⟩)] w (aeT w x y) := by
 replace HI : Hid _ := HI
 obtain ⟨W3, hW4, q1, b2⟩ := cA w [.bool false, .slice none 0 0, .int .i64 0, .bool false, .slice none 0 0, .int .i64 0] 57
 replace hW4 : Hid _ := hW4
 have q5 := aC lf b2
 have q6 := aC ln b2
 clear lf ln
 go_enter func62, ntmps62
 go_upto_region 1 with fail
 rw [hW4.out]
 clear hW4
 have c7 := q5 0 _ rfl
 have c8 := q6 0 _ rfl
 go_wp2_with fail
 refine (HI.out _ b2).mono ?_
 rintro zz w9 ⟨v1x11, v2x12, rfl, r1x13, r2x14, bb10⟩
 have q15 := q1.l bb10
 have b16 := aa b2 bb10
 obtain ⟨xo, xc, hv⟩ := r1x13.shape
 subst hv
 obtain ⟨yo, yc, hv⟩ := r2x14.shape
 subst hv
 clear q5 q6 q1 b2 bb10 HI c7 c8
 have hf := fin6 (P := Tryz.prog) q15 b16 (by omega) underlying57 rfl (by kernel_rfl) (.bool x.s) (.slice xo (Dg.dg 4294967296 x.n).length xc) (.int .i64 x.e) (.bool y.s) (.slice yo (Dg.dg 4294967296 y.n).length yc) (.int .i64 y.e)
 have HH : Hid (_ ∧ _ ∧ _ ∧ _) := ⟨hf.1, hf.2.2.rd r1x13 (aX r1x13 q15 (by simp)), hf.2.2.rd r2x14 (aX r2x14 q15 (by simp)), hf.2.1⟩
 obtain ⟨⟨z0, z1, z2, z3, z4, z5⟩, y0, y1, y2, y3, y4, y5⟩ := csf6 q15
 clear hf q15 r1x13 r2x14 b16
 go_wp2
 obtain ⟨hl, rRx, rRy, bR⟩ := HH.out
 exact bodyPost_ret (br results62 rfl hl) rfl ⟨_, _, rfl, rRx, rRy, bR⟩
theorem ofinvAtan_W (p q:ak)(n b er:Int)(w:World)(h1: ¬n<2)(h2: ¬1000<n)
  (HT: ∀pf pn w1,yB w w1→au w1 pf 70 [.func (.func 38) #[] #[]]→au w1 pn 3 [yi n]→yC 35 #[yi b,.func (.func 62) #[] #[.pointer (some ⟨pf,0,none⟩),.pointer (some ⟨pn,0,none⟩)]] w1 (BRd w1 p q er)):
  yC 37 #[yi n,yi b,.func (.func 38) #[] #[]] w (BRd w p q er):=by
 replace HT:Hid _:=HT;obtain⟨W5,hW6,q1,q2,q3,b4⟩:=lG w [yi n] 3 [.func (.func 38) #[] #[]] 70 [.bool false,yN,yi 0,.bool false,yN,yi 0] 27;replace hW6:Hid _:=hW6
 go_enter func37,ntmps37
 go_upto_region 1 with fail
 rw[hW6.out];clear hW6;have c7:=q1.c 0 rfl
 go_wp2_with fail
 refine(HT.out _ _ _ b4 q2 q1).mono ?_;rintro zz w8 ⟨v1x10,v2x11,rfl,r1x12,r2x13,bb9⟩;have q14:=q3.l bb9;have b15:=aa b4 bb9;obtain⟨po,pc,hv⟩:=r1x12.shape;subst hv;obtain⟨qo,qc,hv⟩:=r2x13.shape;subst hv;clear q1 q2 q3 b4 bb9 HT c7;have hf:=fin6 (P:=Tryz.prog) q14 b15 (by omega) underlying27 rfl (by kernel_rfl) (.bool p.s) (yT po p.n pc) (yi p.e) (.bool q.s) (yT qo q.n qc) (yi q.e);have HH:Hid (_∧_∧_∧_):=⟨hf.1,hf.2.2.rd r1x12 (aX r1x12 q14 (by simp)),hf.2.2.rd r2x13 (aX r2x13 q14 (by simp)),hf.2.1⟩;obtain⟨⟨z0,z1,z2,z3,z4,z5⟩,y0,y1,y2,y3,y4,y5⟩:=csf6 q14;clear hf q14 r1x12 r2x13 b15
 go_wp2
 obtain⟨hl,rRp,rRq,bR⟩:=HH.out;exact bodyPost_ret (aj results37 rfl rfl hl) rfl ⟨_,_,rfl,rRp,rRq,bR⟩
theorem jp.store {w:World}{base g n cap:Nat}{bs:List Bool}(h:jp w base (.slice (some ⟨g,0,none⟩) n cap) bs)(hn:n=bs.length)(j:Nat)(x:Bool):
  jp (w.setCell ⟨g,j,none⟩ (.bool x)) base (.slice (some ⟨g,0,none⟩) n cap) (bs.set j x):=by
 subst hn;have:=(World.ownsRow.stored h j (.bool x)).1;unfold jp;rw[List.length_set,List.map_set];exact this
def sV (w:World)(n:Int)(g:Option Nat):List ByteArray→List Value→Prop
 | [],cs=>cs=[]
 |p::ps,cs=> ∃v rest,cs=opC n p v++rest∧F7 w n g p v∧sV w n g ps rest
theorem sV.mono {w w':World}{n:Int}{g g':Option Nat}(h: ∀p v,F7 w n g p v→F7 w' n g' p v): ∀{ps:List ByteArray} {cs:List Value},sV w n g ps cs→sV w' n g' ps cs
 | [],_,hc=>hc
 |p::_,_,hc=>by
  obtain⟨v,rest,h1,h2,h3⟩:=hc;exact⟨v,rest,h1,h p v h2,sV.mono h h3⟩
theorem sF.off {w w':World}{n:Int}{ps:List ByteArray}{g cap b:Nat}{ty:TypeId}{vs:List Value}(h:sF w n ps g cap)(bu:But b w w')(hl:au w b ty vs)(hu: ∀x∈vs,∀k:Int,x≠ .int .u32 k)(hg:g≠b):sF w' n ps g cap:=
 ⟨h.fit,h.most,fun i p hp=>by
  obtain⟨so,sc,h1,h2⟩:=h.each i p hp;exact⟨so,sc,fun j v hj=>by rw[bu.c (by exact hg)];exact h1 j v hj,bu.rd h2 (aX h2 hl hu)⟩⟩
theorem Ty (s:Bool)(ao:Option Addr)(ca la:Nat)(e:Int)(t:Bool)(bo:Option Addr)(cb lb:Nat)(f:Int)(r:Bool)(co:Option Addr)(cc lc:Nat)(g:Int)(u:Bool)(d':Option Addr)(cd ld:Nat)(k:Int)(n:Int)(R:ak×ak×Int)(w:World)
  (HR: ∀w1,yB w w1→yC 39 #[.agg #[.bool s,.slice ao la ca,yi e,.bool t,.slice bo lb cb,yi f],.agg #[.bool r,.slice co lc cc,yi g,.bool u,.slice d' ld cd,yi k],yi n,.func (.func 41) #[] #[]] w1 (jE w1 R)):
  yC 19 #[.agg #[.bool s,.slice ao la ca,yi e,.bool t,.slice bo lb cb,yi f],.agg #[.bool r,.slice co lc cc,yi g,.bool u,.slice d' ld cd,yi k],yi n] w (jE w R):=by
 replace HR:Hid _:=HR;obtain⟨⟨rs,rn,re⟩,⟨qs,qn,qe⟩,rc⟩:=R;have k1:=aJ ((w.alloc (.cells #[.bool s,.slice ao la ca,yi e,.bool t,.slice bo lb cb,yi f] 27)).alloc (.cells #[.bool r,.slice co lc cc,yi g,.bool u,.slice d' ld cd,yi k] 27)) (.bool false) yN (yi 0) (.bool false) yN (yi 0) 27;have b1:=aa (aa (af w (.cells #[.bool s,.slice ao la ca,yi e,.bool t,.slice bo lb cb,yi f] 27)) (af _ (.cells #[.bool r,.slice co lc cc,yi g,.bool u,.slice d' ld cd,yi k] 27))) (af _ (.cells #[.bool false,yN,yi 0,.bool false,yN,yi 0] 27));have l1:=((aJ w (.bool s) (.slice ao la ca) (yi e) (.bool t) (.slice bo lb cb) (yi f) 27).l (af _ (.cells #[.bool r,.slice co lc cc,yi g,.bool u,.slice d' ld cd,yi k] 27))).l (af _ (.cells #[.bool false,yN,yi 0,.bool false,yN,yi 0] 27));have m1:=(aJ (w.alloc (.cells #[.bool s,.slice ao la ca,yi e,.bool t,.slice bo lb cb,yi f] 27)) (.bool r) (.slice co lc cc) (yi g) (.bool u) (.slice d' ld cd) (yi k) 27).l (af _ (.cells #[.bool false,yN,yi 0,.bool false,yN,yi 0] 27));simp only[World.size_alloc] at k1 m1;obtain⟨-,⟨c0,c1,c2,c3,c4,c5⟩,-⟩:=id l1;obtain⟨-,⟨x0,x1,x2,x3,x4,x5⟩,-⟩:=id m1
 go_enter func19,ntmps19
 go_wp2_with fail
 refine(HR.out _ b1).mono ?_;rintro z w5 ⟨pp,qq,rfl,op,oq,b5⟩;have b05:=aa b1 b5;have k5:=k1.l b5;have hlt:=k1.1;obtain⟨po,pc,hp⟩:=op.rd.shape;subst hp;obtain⟨qo,qc,hq⟩:=oq.rd.shape;subst hq;obtain⟨hl,⟨g0,g1,g2,g3,g4,g5⟩,f0,f1,f2,f3,f4,f5⟩:=id k5;clear c0 c1 c2 c3 c4 c5 x0 x1 x2 x3 x4 x5 l1 m1 k1
 go_wp2
 obtain⟨-,⟨u0,u1,u2,u3,u4,u5⟩,-⟩:=bP k5 (.bool rs) (yT po rn pc) (yi re) (.bool qs) (yT qo qn qc) (yi qe);have bb:=aW b05 (show w.heap.size≤w.heap.size+1+1 by omega) (.bool rs) (yT po rn pc) (yi re) (.bool qs) (yT qo qn qc) (yi qe)
 refine bodyPost_ret (v:= .tuple #[.agg #[.bool rs,yT po rn pc,yi re,.bool qs,yT qo qn qc,yi qe],yi rc]) (by simp[results,results19,go_sem,u0,u1,u2,u3,u4,u5]) rfl ?_;exact⟨_,_,rfl,((op.apart6 hlt _ _ _ _ _ _).lower b1.size),((oq.apart6 hlt _ _ _ _ _ _).lower b1.size),bb⟩
theorem TE (s:Bool)(ao:Option Addr)(ca la:Nat)(e:Int)(t:Bool)(bo:Option Addr)(cb lb:Nat)(f:Int)(r:Bool)(co:Option Addr)(cc lc:Nat)(g:Int)(u:Bool)(d':Option Addr)(cd ld:Nat)(k:Int)(n:Int)(R:ak×ak×Int)(w:World)
  (HR: ∀w1,yB w w1→yC 39 #[.agg #[.bool s,.slice ao la ca,yi e,.bool t,.slice bo lb cb,yi f],.agg #[.bool r,.slice co lc cc,yi g,.bool u,.slice d' ld cd,yi k],yi n,.func (.func 40) #[] #[]] w1 (jE w1 R)):
  yC 18 #[.agg #[.bool s,.slice ao la ca,yi e,.bool t,.slice bo lb cb,yi f],.agg #[.bool r,.slice co lc cc,yi g,.bool u,.slice d' ld cd,yi k],yi n] w (jE w R):=by
 replace HR:Hid _:=HR;obtain⟨⟨rs,rn,re⟩,⟨qs,qn,qe⟩,rc⟩:=R;have k1:=aJ ((w.alloc (.cells #[.bool s,.slice ao la ca,yi e,.bool t,.slice bo lb cb,yi f] 27)).alloc (.cells #[.bool r,.slice co lc cc,yi g,.bool u,.slice d' ld cd,yi k] 27)) (.bool false) yN (yi 0) (.bool false) yN (yi 0) 27;have b1:=aa (aa (af w (.cells #[.bool s,.slice ao la ca,yi e,.bool t,.slice bo lb cb,yi f] 27)) (af _ (.cells #[.bool r,.slice co lc cc,yi g,.bool u,.slice d' ld cd,yi k] 27))) (af _ (.cells #[.bool false,yN,yi 0,.bool false,yN,yi 0] 27));have l1:=((aJ w (.bool s) (.slice ao la ca) (yi e) (.bool t) (.slice bo lb cb) (yi f) 27).l (af _ (.cells #[.bool r,.slice co lc cc,yi g,.bool u,.slice d' ld cd,yi k] 27))).l (af _ (.cells #[.bool false,yN,yi 0,.bool false,yN,yi 0] 27));have m1:=(aJ (w.alloc (.cells #[.bool s,.slice ao la ca,yi e,.bool t,.slice bo lb cb,yi f] 27)) (.bool r) (.slice co lc cc) (yi g) (.bool u) (.slice d' ld cd) (yi k) 27).l (af _ (.cells #[.bool false,yN,yi 0,.bool false,yN,yi 0] 27));simp only[World.size_alloc] at k1 m1;obtain⟨-,⟨c0,c1,c2,c3,c4,c5⟩,-⟩:=id l1;obtain⟨-,⟨x0,x1,x2,x3,x4,x5⟩,-⟩:=id m1
 go_enter func18,ntmps18
 go_wp2_with fail
 refine(HR.out _ b1).mono ?_;rintro z w5 ⟨pp,qq,rfl,op,oq,b5⟩;have b05:=aa b1 b5;have k5:=k1.l b5;have hlt:=k1.1;obtain⟨po,pc,hp⟩:=op.rd.shape;subst hp;obtain⟨qo,qc,hq⟩:=oq.rd.shape;subst hq;obtain⟨hl,⟨g0,g1,g2,g3,g4,g5⟩,f0,f1,f2,f3,f4,f5⟩:=id k5;clear c0 c1 c2 c3 c4 c5 x0 x1 x2 x3 x4 x5 l1 m1 k1
 go_wp2
 obtain⟨-,⟨u0,u1,u2,u3,u4,u5⟩,-⟩:=bP k5 (.bool rs) (yT po rn pc) (yi re) (.bool qs) (yT qo qn qc) (yi qe);have bb:=aW b05 (show w.heap.size≤w.heap.size+1+1 by omega) (.bool rs) (yT po rn pc) (yi re) (.bool qs) (yT qo qn qc) (yi qe)
 refine bodyPost_ret (v:= .tuple #[.agg #[.bool rs,yT po rn pc,yi re,.bool qs,yT qo qn qc,yi qe],yi rc]) (by simp[results,results18,go_sem,u0,u1,u2,u3,u4,u5]) rfl ?_;exact⟨_,_,rfl,((op.apart6 hlt _ _ _ _ _ _).lower b1.size),((oq.apart6 hlt _ _ _ _ _ _).lower b1.size),bb⟩
theorem BL (v:Value)(a:ak)(w:World)(hv:Rv w v (bare a))(hLa:(Dg.dg 65536 (bare a).n).length≤30000)(ha1: -200000≤(bare a).e)(ha2:(bare a).e≤200000):
  yC 13 #[v] w (yR w (yi (bJ a fL))):=by
 have HC:Hid (yH w 11 #[v,ydV false yN 0] (yi (bJ a fL))):=fun w1 b1=>by
  have h:=gQ v (ydV false yN 0) (bare a) (bare fL) w1 (hv.l b1) ⟨_,rfl,aN _ _⟩ hLa (by show(Dg.dg 65536 0).length≤30000;rw[show Dg.dg 65536 0=[] from rfl];simp) ha1 ha2 (by show-200000≤(0:Int);omega) (by show(0:Int)≤200000;omega)
  rw[lP] at h;exact h
 obtain⟨s0,rfl,ra⟩:=hv;obtain⟨ao,ca,rfl⟩:=ra.shape;obtain⟨⟨bs,bn,be⟩,hb⟩: ∃b,bare a=b:=⟨_,rfl⟩;rw[hb] at HC⊢;clear ra hb hLa ha1 ha2;simp only at HC⊢;obtain⟨m,hm⟩: ∃m,(Dg.dg 65536 bn).length=m:=⟨_,rfl⟩;rw[hm] at HC⊢;obtain⟨g,hg⟩: ∃g,bJ a fL=g:=⟨_,rfl⟩;rw[hg] at HC⊢;clear hm hg;have ba:=af w (.cells (ydA bs (.slice ao m ca) be) 35)
 go_enter func13,ntmps13
 go_wp2_with fail
 refine(HC.out _ ba).mono ?_;rintro z w2 ⟨rfl,b2⟩;have b02:=aa ba b2
 go_wp2
 go_ret
 exact⟨rfl,b02⟩
end Go.Proofs.YtiakgfmlpdfhdaaGreatDoor
