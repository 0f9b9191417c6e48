/-
  Texts laid together: Dy3, Dy4, Dr1, Aw0, Co1, Co2, Co3.
-/
import Derived.Laws.ResultCell
import Derived.Deep.Cut
import Derived.Test.YtbdokgamhinajaaGreatDoorSo05
set_option maxRecDepth 100000
set_option maxHeartbeats 6400000
namespace Go.Proofs.YtbdokgamhinajaaGreatDoor
open _root_.Go.Proofs.Tryz
open Go.RowKit
def bU (t:ak):ak×Int:=
 if 1200< (Dg.dg 4294967296 (bare t).n).length then(⟨false,0,0⟩,2) else if(bare t).e< -20000∨20000< (bare t).e then(⟨false,0,0⟩,3) else(bare t,0)
def gR (w:World)(r:ak×Int)(e:Ending)(w':World):Prop:=
 ∃s,e= .returned (.tuple #[ydV r.1.s s r.1.e,yi r.2])∧Own w' w.heap.size 148 .u32 s (Dg.dg 4294967296 r.1.n)∧yB w w'
theorem Loc.apart {w:World}{b c:Nat}{v0 v1 v2:Value}(h:Loc w b v0 v1 v2)(hne:c≠b)(x0 x1 x2:Value):
  Loc (((w.setCell ⟨c,0,none⟩ x0).setCell ⟨c,1,none⟩ x1).setCell ⟨c,2,none⟩ x2) b v0 v1 v2:=by
 obtain⟨hl,⟨c0,c1,c2⟩,f0,f1,f2⟩:=h;refine⟨by simpa using hl,⟨?_, ?_, ?_⟩,by simpa using f0,by simpa using f1,by simpa using f2⟩
 ·rw[World.cell?_setCell_other (h:=by simp),World.cell?_setCell_other (h:=by simp),World.cell?_setCell_other (h:=by simp)];exact c0
 ·rw[World.cell?_setCell_other (h:=by simp),World.cell?_setCell_other (h:=by simp),World.cell?_setCell_other (h:=by simp)];exact c1
 ·rw[World.cell?_setCell_other (h:=by simp),World.cell?_setCell_other (h:=by simp),World.cell?_setCell_other (h:=by simp)];exact c2
theorem am {B b:Nat}{w w1:World}(h:Below B w w1)(hb:B≤b)(x0 x1 x2:Value):Below B w (((w1.setCell ⟨b,0,none⟩ x0).setCell ⟨b,1,none⟩ x1).setCell ⟨b,2,none⟩ x2):=
 ((h.setCell (p:=⟨b,0,none⟩) hb x0).setCell (p:=⟨b,1,none⟩) hb x1).setCell (p:=⟨b,2,none⟩) hb x2
theorem kL (v:Value)(t:ak)(w:World)(hv:Dv w v t)(hL:(Dg.dg 4294967296 t.n).length≤500000)(he: -1000000≤t.e∧t.e≤1000000)(hT:Tab w)(htz:tz t.n≤1000000):
  yC 186 #[v] w (gR w (bU t)):=by
 have HB:Hid (∀w1,yB w w1→yC 201 #[v] w1 (jN w1 (bare t))):=fun w1 b1=>II v t w1 (hv.l b1) hL he (hT.l b1) htz
 obtain⟨s0,rfl,hr⟩:=hv;obtain⟨ao,ca,rfl⟩:=hr.shape;obtain⟨ts,n,e⟩:=t;simp only at hr hL he htz⊢HB;obtain⟨m,hm⟩: ∃m,(Dg.dg 4294967296 n).length=m:=⟨_,rfl⟩;rw[hm] at HB⊢;obtain⟨⟨bs,bn,be⟩,hbt⟩: ∃bt,bare ⟨ts,n,e⟩=bt:=⟨_,rfl⟩;unfold bU;rw[hbt] at HB⊢;simp only at HB⊢;clear hbt hm hr hL he htz hT;have l1:=(aA w (.bool ts) (.slice ao m ca) (yi e) 74).l (af _ (.cells (ydA false yN 0) 72));have l2:=aA (w.alloc (.cells (ydA ts (.slice ao m ca) e) 74)) (.bool false) yN (yi 0) 72;have bA:=aa (af w (.cells (ydA ts (.slice ao m ca) e) 74)) (af _ (.cells (ydA false yN 0) 72));rw[World.size_alloc] at l2
 by_cases h1:1200< (Dg.dg 4294967296 bn).length
 ·rw[if_pos h1]
  go_enter func186,ntmps186
  go_wp2_with fail
  refine(HB.out _ bA).mono ?_;rintro x w1 ⟨s,rfl,own1,b1⟩;have l1:=l1.l b1;have l2:=l2.l b1;have b01:=aa bA b1;rw[World.size_alloc,World.size_alloc] at own1;obtain⟨so,sc,hs⟩:=own1.rd.shape;subst hs;obtain⟨hl1,⟨c0,c1,c2⟩,f0,f1,f2⟩:=id l1;obtain⟨hl2,⟨d0,d1,d2⟩,k0,k1,k2⟩:=id l2;clear bA b1 HB
  go_wp2
  obtain⟨-,⟨g0,g1,g2⟩,-⟩:=aD (l2.apart (c:=w.heap.size) (by omega) (.bool bs) (yT so bn sc) (yi be)) (.bool false) yN (yi 0);have b2:=am (am b01 (Nat.le_refl _) (.bool bs) (yT so bn sc) (yi be)) (show w.heap.size≤w.heap.size+1 by omega) (.bool false) yN (yi 0)
  refine bodyPost_ret (v:= .tuple #[.agg #[(.bool false),yN,(yi 0)],yi 2]) (by simp[results,results186,go_sem,g0,g1,g2]) rfl ?_;exact⟨_,rfl,aQ _ _ _ _,b2⟩
 ·rw[if_neg h1]
  by_cases h2:be< -20000
  ·rw[if_pos (Or.inl h2)]
   go_enter func186,ntmps186
   go_wp2_with fail
   refine(HB.out _ bA).mono ?_;rintro x w1 ⟨s,rfl,own1,b1⟩;have l1:=l1.l b1;have l2:=l2.l b1;have b01:=aa bA b1;rw[World.size_alloc,World.size_alloc] at own1;obtain⟨so,sc,hs⟩:=own1.rd.shape;subst hs;obtain⟨hl1,⟨c0,c1,c2⟩,f0,f1,f2⟩:=id l1;obtain⟨hl2,⟨d0,d1,d2⟩,k0,k1,k2⟩:=id l2;clear bA b1 HB
   go_wp2
   obtain⟨-,⟨g0,g1,g2⟩,-⟩:=aD (l2.apart (c:=w.heap.size) (by omega) (.bool bs) (yT so bn sc) (yi be)) (.bool false) yN (yi 0);have b2:=am (am b01 (Nat.le_refl _) (.bool bs) (yT so bn sc) (yi be)) (show w.heap.size≤w.heap.size+1 by omega) (.bool false) yN (yi 0)
   refine bodyPost_ret (v:= .tuple #[.agg #[(.bool false),yN,(yi 0)],yi 3]) (by simp[results,results186,go_sem,g0,g1,g2]) rfl ?_;exact⟨_,rfl,aQ _ _ _ _,b2⟩
  ·by_cases h3:20000<be
   ·rw[if_pos (Or.inr h3)]
    go_enter func186,ntmps186
    go_wp2_with fail
    refine(HB.out _ bA).mono ?_;rintro x w1 ⟨s,rfl,own1,b1⟩;have l1:=l1.l b1;have l2:=l2.l b1;have b01:=aa bA b1;rw[World.size_alloc,World.size_alloc] at own1;obtain⟨so,sc,hs⟩:=own1.rd.shape;subst hs;obtain⟨hl1,⟨c0,c1,c2⟩,f0,f1,f2⟩:=id l1;obtain⟨hl2,⟨d0,d1,d2⟩,k0,k1,k2⟩:=id l2;clear bA b1 HB
    go_wp2
    obtain⟨-,⟨g0,g1,g2⟩,-⟩:=aD (l2.apart (c:=w.heap.size) (by omega) (.bool bs) (yT so bn sc) (yi be)) (.bool false) yN (yi 0);have b2:=am (am b01 (Nat.le_refl _) (.bool bs) (yT so bn sc) (yi be)) (show w.heap.size≤w.heap.size+1 by omega) (.bool false) yN (yi 0)
    refine bodyPost_ret (v:= .tuple #[.agg #[(.bool false),yN,(yi 0)],yi 3]) (by simp[results,results186,go_sem,g0,g1,g2]) rfl ?_;exact⟨_,rfl,aQ _ _ _ _,b2⟩
   ·rw[if_neg (by omega)]
    go_enter func186,ntmps186
    go_wp2_with fail
    refine(HB.out _ bA).mono ?_;rintro x w1 ⟨s,rfl,own1,b1⟩;have l1:=l1.l b1;have l2:=l2.l b1;have b01:=aa bA b1;rw[World.size_alloc,World.size_alloc] at own1;obtain⟨so,sc,hs⟩:=own1.rd.shape;subst hs;obtain⟨hl1,⟨c0,c1,c2⟩,f0,f1,f2⟩:=id l1;obtain⟨hl2,⟨d0,d1,d2⟩,k0,k1,k2⟩:=id l2;clear bA b1 HB
    go_wp2
    obtain⟨-,⟨g0,g1,g2⟩,-⟩:=aD (l2.apart (c:=w.heap.size) (by omega) (.bool bs) (yT so bn sc) (yi be)) (.bool bs) (yT so bn sc) (yi be);have own2:=(own1.apart3 (b:=w.heap.size) (by omega) (.bool bs) (yT so bn sc) (yi be)).apart3 (b:=w.heap.size+1) (by omega) (.bool bs) (yT so bn sc) (yi be);have b2:=am (am b01 (Nat.le_refl _) (.bool bs) (yT so bn sc) (yi be)) (show w.heap.size≤w.heap.size+1 by omega) (.bool bs) (yT so bn sc) (yi be)
    refine bodyPost_ret (v:= .tuple #[.agg #[(.bool bs),(yT so bn sc),(yi be)],yi 0]) (by simp[results,results186,go_sem,g0,g1,g2]) rfl ?_;exact⟨_,rfl,own2.lower (by omega),b2⟩
theorem CE (n:Nat)(i:Int)(h:0≤i):shN n i=n*2^i.toNat:=by
 unfold shN;rw[if_neg (by omega)]
theorem Zm (ts:Bool)(ao:Option Addr)(ca n:Nat)(e x:Int)(w:World)(hr:Rd w .u32 (.slice ao (Dg.dg 4294967296 n).length ca) (Dg.dg 4294967296 n))(hL:(Dg.dg 4294967296 n).length≤500000)
  (_h1: -1000000≤e) (_h2:e≤1000000) (_h3: -1000000≤x) (h4:x≤e) (h5:e-x≤1000000):
  Calls Tryz.prog 105 #[.agg #[.bool ts,.slice ao (Dg.dg 4294967296 n).length ca,.int .i64 e],.int .i64 x] w (Num w (n*2^ (e-x).toNat)):=by
 have HSH:Hid (∀w1,Below w.heap.size w w1→Calls Tryz.prog 130 #[.slice ao (Dg.dg 4294967296 n).length ca,.int .i64 (e-x)] w1 (Num w1 (n*2^ (e-x).toNat))):=fun w1 b1=>by
  have:=eO _ _ (e-x) w1 (hr.l b1) (Dg.small_dg _ _ (by omega)) (by omega) (by omega) (by omega)
  rwa [Dg.vl_dg _ _ (by omega),CE n _ (by omega)] at this
 obtain⟨m,hm⟩: ∃m,(Dg.dg 4294967296 n).length=m:=⟨_,rfl⟩;obtain⟨q,hq⟩: ∃q,n*2^ (e-x).toNat=q:=⟨_,rfl⟩;rw[hm,hq] at HSH⊢;clear hm hr hL hq;have l1:=aA w (.bool ts) (.slice ao m ca) (.int .i64 e) 74;have bA:=af w (.cells #[.bool ts,.slice ao m ca,.int .i64 e] 74);have bd:Below (w.alloc (.cells #[.bool ts,.slice ao m ca,.int .i64 e] 74)).heap.size (w.alloc (.cells #[.bool ts,.slice ao m ca,.int .i64 e] 74)) (w.alloc (.cells #[.bool ts,.slice ao m ca,.int .i64 e] 74)).drew:=(Below.refl _ _).drew;have l1:=l1.l bd;have b02:=aa bA bd;clear bA bd;have e3:IntKind.i64.wrap (e-x)=e-x:=IntWalk.i64_in _ ⟨by omega,by omega⟩;obtain⟨-,⟨c0,c1,c2⟩,-⟩:=id l1
 go_enter func105,ntmps105
 go_wp2_with fail
 go_region_held3 (fun wq=>wq.cell? ⟨w.heap.size,0,none⟩=some (.bool ts)∧wq.cell? ⟨w.heap.size,1,none⟩=some (.slice ao m ca)∧wq.cell? ⟨w.heap.size,2,none⟩=some (.int .i64 e)) (go_keep) (first
  | (go_at_call 115;refine(cN ts ao m ca e _).mono ?_;rintro x w3 ⟨rfl,b3⟩;have l13:=l1.l b3;have b03:=aa b02 b3;obtain⟨-,⟨p0,p1,p2⟩,-⟩:=id l13)
  | (go_at_call 130;refine(HSH.out _ b03).mono ?_;rintro x w4 ⟨vs,rfl,own4,b4⟩;have l14:=l13.l b4;have b04:=aa b03 b4;obtain⟨-,⟨q0,q1,q2⟩,-⟩:=id l14))
 all_goals go_wp2
 go_ret
 exact⟨_,rfl,own4.lower b03.size,b04⟩
theorem CF (n k L j:Nat)(h:(Dg.dg 4294967296 n).length≤L)(hk:k≤32*j):(Dg.dg 4294967296 (n*2^k)).length≤L+j:=by
 apply Dg.dg_len_le 4294967296 _ _ (by omega);have h1:=Dg.vl_lt 4294967296 (Dg.dg 4294967296 n) (Dg.small_dg _ _ (by omega));rw[Dg.vl_dg _ _ (by omega)] at h1;have h2:4294967296^ (Dg.dg 4294967296 n).length≤4294967296^L:=Nat.pow_le_pow_right (by omega) h;have h3:2^k≤4294967296^j:=by
  rw[show(4294967296:Nat)=2^32 from rfl,←Nat.pow_mul]
  exact Nat.pow_le_pow_right (by omega) (by omega)
 rw[Nat.pow_add];have h4:0<4294967296^j:=Nat.pow_pos (by omega);generalize 4294967296^j=c at*;generalize 4294967296^L=d at*;have h5:n*2^k≤n*c:=Nat.mul_le_mul_left _ h3;have h6:n*c<d*c:=Nat.mul_lt_mul_of_pos_right (by omega) h4;omega
theorem uj (v u:Value)(a b:ak)(w:World)(hv:Dv w v a)(hu:Dv w u b)(hLa:(Dg.dg 4294967296 a.n).length≤100000)(hLb:(Dg.dg 4294967296 b.n).length≤100000)
  (ha1: -100000≤a.e) (ha2:a.e≤100000) (hb1: -100000≤b.e) (hb2:b.e≤100000):
  Calls Tryz.prog 62 #[v,u] w (jN w (aG a b)):=by
 obtain⟨s0,rfl,ra⟩:=hv;obtain⟨ao,ca,rfl⟩:=ra.shape;obtain⟨s1,rfl,rb⟩:=hu;obtain⟨bo,cb,rfl⟩:=rb.shape;obtain⟨sa,an,ae⟩:=a;obtain⟨sb,bn,be⟩:=b;simp only at ra rb hLa hLb ha1 ha2 hb1 hb2⊢;have HATA:Hid (∀w1,Below w.heap.size w w1→Calls Tryz.prog 105 #[.agg #[.bool sa,.slice ao (Dg.dg 4294967296 an).length ca,.int .i64 ae],.int .i64 (min ae be)] w1 (Num w1 (an*2^ (ae-min ae be).toNat))):=fun w1 b1=>
  Zm sa ao ca an ae (min ae be) w1 (ra.l b1) (by omega) (by omega) (by omega) (by omega) (by omega) (by omega)
 have HATB:Hid (∀w1,Below w.heap.size w w1→Calls Tryz.prog 105 #[.agg #[.bool sb,.slice bo (Dg.dg 4294967296 bn).length cb,.int .i64 be],.int .i64 (min ae be)] w1 (Num w1 (bn*2^ (be-min ae be).toNat))):=fun w1 b1=>
  Zm sb bo cb bn be (min ae be) w1 (rb.l b1) (by omega) (by omega) (by omega) (by omega) (by omega) (by omega)
 have lX:=CF an (ae-min ae be).toNat 100000 6251 hLa (by omega);have lY:=CF bn (be-min ae be).toNat 100000 6251 hLb (by omega);unfold aG;simp only;obtain⟨X,hX⟩: ∃X,an*2^ (ae-min ae be).toNat=X:=⟨_,rfl⟩;obtain⟨Y,hY⟩: ∃Y,bn*2^ (be-min ae be).toNat=Y:=⟨_,rfl⟩;obtain⟨ma,hma⟩: ∃m,(Dg.dg 4294967296 an).length=m:=⟨_,rfl⟩;obtain⟨mb,hmb⟩: ∃m,(Dg.dg 4294967296 bn).length=m:=⟨_,rfl⟩;rw[hX] at HATA lX⊢;rw[hY] at HATB lY⊢;rw[hma] at HATA⊢;rw[hmb] at HATB⊢;obtain⟨x,hx⟩: ∃x,min ae be=x:=⟨_,rfl⟩;have HX:Hid _:=hx;have HPL:Hid (∀v1 v2 w1,Rd w1 .u32 v1 (Dg.dg 4294967296 X)→Rd w1 .u32 v2 (Dg.dg 4294967296 Y)→Calls Tryz.prog 107 #[v1,v2] w1 (Num w1 (X+Y))):=fun v1 v2 w1 h1 h2=>by
  have:=rj v1 v2 _ _ w1 h1 h2 (Dg.small_dg _ _ (by omega)) (Dg.small_dg _ _ (by omega)) (by omega) (by omega)
  rwa [Dg.vl_dg _ _ (by omega),Dg.vl_dg _ _ (by omega)] at this
 have HCM:Hid (∀v1 v2 w1,Rd w1 .u32 v1 (Dg.dg 4294967296 X)→Rd w1 .u32 v2 (Dg.dg 4294967296 Y)→Calls Tryz.prog 108 #[v1,v2] w1 fun e w'=>e= .returned (.int .i64 (dm X Y))∧Below w1.heap.size w1 w'):=fun v1 v2 w1 h1 h2=>by
  have:=jF v1 v2 _ _ w1 h1 h2 (Dg.small_dg _ _ (by omega)) (Dg.small_dg _ _ (by omega)) (Dg.norm_dg _ _ (by omega)) (Dg.norm_dg _ _ (by omega))
  rwa [Dg.vl_dg _ _ (by omega),Dg.vl_dg _ _ (by omega)] at this
 have HMI:Hid (∀P Q v1 v2 w1,P≤Q→(Dg.dg 4294967296 Q).length≤500000→Rd w1 .u32 v1 (Dg.dg 4294967296 Q)→Rd w1 .u32 v2 (Dg.dg 4294967296 P)→Calls Tryz.prog 109 #[v1,v2] w1 (Num w1 (Q-P))):=fun P Q v1 v2 w1 hle hl h1 h2=>by
  have:=zL v1 v2 _ _ w1 h1 h2 (Dg.small_dg _ _ (by omega)) (Dg.small_dg _ _ (by omega)) (by omega) (aH _ _ _ (by omega) hle) (by rw[Dg.vl_dg _ _ (by omega),Dg.vl_dg _ _ (by omega)];exact hle)
  rwa [Dg.vl_dg _ _ (by omega),Dg.vl_dg _ _ (by omega)] at this
 clear hX hY hma hmb hx ra rb hLa hLb;obtain⟨A,hA⟩: ∃A,w.alloc (.cells #[.bool sa,.slice ao ma ca,.int .i64 ae] 74)=A:=⟨_,rfl⟩;have la:=aA w (.bool sa) (.slice ao ma ca) (.int .i64 ae) 74;have bA:=af w (.cells #[.bool sa,.slice ao ma ca,.int .i64 ae] 74);have sA:A.heap.size=w.heap.size+1:=by rw[←hA,World.size_alloc]
 rw[hA] at la bA;obtain⟨B,hB⟩: ∃B,A.alloc (.cells #[.bool sb,.slice bo mb cb,.int .i64 be] 74)=B:=⟨_,rfl⟩;have lb:=aA A (.bool sb) (.slice bo mb cb) (.int .i64 be) 74;have bB:=af A (.cells #[.bool sb,.slice bo mb cb,.int .i64 be] 74);have sB:B.heap.size=w.heap.size+1+1:=by rw[←hB,World.size_alloc,sA]
 rw[hB] at lb bB;rw[sA] at lb;have lc:=aA B (.bool false) (.slice none 0 0) (.int .i64 0) 74;have bC:=af B (.cells #[.bool false,.slice none 0 0,.int .i64 0] 74);rw[sB] at lc;have bd:Below (B.alloc (.cells #[.bool false,.slice none 0 0,.int .i64 0] 74)).heap.size (B.alloc (.cells #[.bool false,.slice none 0 0,.int .i64 0] 74)) (B.alloc (.cells #[.bool false,.slice none 0 0,.int .i64 0] 74)).drew:=(Below.refl _ _).drew;have la:=((la.l bB).l bC).l bd;have lb:=(lb.l bC).l bd;have lc:=lc.l bd;have b02:=aa (aa (aa bA bB) bC) bd;rw[←hB,←hA] at la lb lc b02;clear bA bB bC bd sA sB hA hB;have ne3:w.heap.size+1+1≠w.heap.size:=by omega
 have ne4:w.heap.size≠w.heap.size+1+1:=by omega
 by_cases hs:sa=sb
 ·subst hs
  rw[if_pos rfl]
  go_enter func62,ntmps62
  obtain⟨-,⟨ca0,ca1,ca2⟩,-⟩:=id la;obtain⟨-,⟨cb0,cb1,cb2⟩,-⟩:=id lb
  go_wp2_with fail
  go_region_held3 (fun wq=>(wq.cell? ⟨w.heap.size,0,none⟩=some (.bool sa)∧wq.cell? ⟨w.heap.size,1,none⟩=some (.slice ao ma ca)∧wq.cell? ⟨w.heap.size,2,none⟩=some (.int .i64 ae))∧wq.cell? ⟨w.heap.size+1,0,none⟩=some (.bool sa)∧wq.cell? ⟨w.heap.size+1,1,none⟩=some (.slice bo mb cb)∧wq.cell? ⟨w.heap.size+1,2,none⟩=some (.int .i64 be)) (go_keep) (first
   | (go_at_call 105;refine(HATA.out _ b02).mono ?_;rintro z w3 ⟨v1,rfl,o1,b3⟩;have la3:=la.l b3;have lb3:=lb.l b3;have lc3:=lc.l b3;have b03:=aa b02 b3;obtain⟨-,⟨p0,p1,p2⟩,-⟩:=id la3;obtain⟨-,⟨p3,p4,p5⟩,-⟩:=id lb3;clear b02)
   | (go_at_call 105;refine(HATB.out _ b03).mono ?_;rintro z w4 ⟨v2,rfl,o2,b4⟩;have la4:=la3.l b4;have lb4:=lb3.l b4;have lc4:=lc3.l b4;have b04:=aa b03 b4;obtain⟨-,⟨q0,q1,q2⟩,-⟩:=id la4;obtain⟨-,⟨q3,q4,q5⟩,-⟩:=id lb4))
  clear la lb lc la3 lb3 lc3 p0 p1 p2 p3 p4 p5 ca0 ca1 ca2 cb0 cb1 cb2 b03;have r1:=(o1.l b4).rd;have r2:=o2.rd;clear o1 o2 b3 b4;have bd:Below w4.heap.size w4 w4.drew:=(Below.refl _ _).drew;have la5:=la4.l bd;have lb5:=lb4.l bd;have lc5:=lc4.l bd;have b05:=aa b04 bd;have r1:=r1.l bd;have r2:=r2.l bd;obtain⟨-,⟨c0,c1,c2⟩,-⟩:=id la5;obtain⟨-,⟨c3,c4,c5⟩,-⟩:=id lb5;clear la4 lb4 lc4 bd q0 q1 q2 q3 q4 q5
  go_wp2
  go_region_held3 (fun wq=>wq.cell? ⟨w.heap.size,0,none⟩=some (.bool sa)) (go_keep) (first
   | (go_at_call 107;refine(HPL.out v1 v2 _ r1 r2).mono ?_;rintro z w6 ⟨vs,rfl,o6,b6⟩;have la6:=la5.l b6;have lb6:=lb5.l b6;have lc6:=lc5.l b6;have b06:=aa b05 b6;obtain⟨so,sc,hvs⟩:=o6.rd.shape;subst hvs;obtain⟨-,⟨t0,t1,t2⟩,-⟩:=id la6;clear r1)
   | (go_at_call 106;refine(l9 sa so _ sc _ _).mono ?_;rintro z w7 ⟨rfl,b7⟩;have la7:=la6.l b7;have lb7:=lb6.l b7;have lc7:=lc6.l b7;have b07:=aa b06 b7;obtain⟨-,⟨u0,u1,u2⟩,-⟩:=id la7;obtain⟨hl7,⟨d0,d1,d2⟩,f0,f1,f2⟩:=id lc7))
  all_goals go_wp2
  obtain⟨-,⟨g0,g1,g2⟩,-⟩:=aD lc7 (.bool sa) (.slice so (Dg.dg 4294967296 (X+Y)).length sc) (.int .i64 (min ae be));have o7:=(o6.l b7).apart3 (b:=w.heap.size+1+1) lc5.1 (.bool sa) (.slice so (Dg.dg 4294967296 (X+Y)).length sc) (.int .i64 (min ae be));have b8:=am b07 (show w.heap.size≤w.heap.size+1+1 by omega) (.bool sa) (.slice so (Dg.dg 4294967296 (X+Y)).length sc) (.int .i64 (min ae be))
  refine bodyPost_ret (v:= .agg #[.bool sa,.slice so (Dg.dg 4294967296 (X+Y)).length sc,.int .i64 (min ae be)]) (by simp[results,results62,go_sem,g0,g1,g2]) rfl ?_;exact⟨_,rfl,o7.lower b05.size,b8⟩
 ·rw[if_neg hs]
  have hsb:(sa==sb)=false:=by simp[hs]
  by_cases hlt:X<Y
  ·rw[if_pos hlt]
   rw[gX (by omega)] at HCM
   go_enter func62,ntmps62
   obtain⟨-,⟨ca0,ca1,ca2⟩,-⟩:=id la;obtain⟨-,⟨cb0,cb1,cb2⟩,-⟩:=id lb
   go_wp2_with fail
   go_region_held3 (fun wq=>(wq.cell? ⟨w.heap.size,0,none⟩=some (.bool sa)∧wq.cell? ⟨w.heap.size,1,none⟩=some (.slice ao ma ca)∧wq.cell? ⟨w.heap.size,2,none⟩=some (.int .i64 ae))∧wq.cell? ⟨w.heap.size+1,0,none⟩=some (.bool sb)∧wq.cell? ⟨w.heap.size+1,1,none⟩=some (.slice bo mb cb)∧wq.cell? ⟨w.heap.size+1,2,none⟩=some (.int .i64 be)) (go_keep) (first
    | (go_at_call 105;refine(HATA.out _ b02).mono ?_;rintro z w3 ⟨v1,rfl,o1,b3⟩;have la3:=la.l b3;have lb3:=lb.l b3;have lc3:=lc.l b3;have b03:=aa b02 b3;obtain⟨-,⟨p0,p1,p2⟩,-⟩:=id la3;obtain⟨-,⟨p3,p4,p5⟩,-⟩:=id lb3;clear b02)
    | (go_at_call 105;refine(HATB.out _ b03).mono ?_;rintro z w4 ⟨v2,rfl,o2,b4⟩;have la4:=la3.l b4;have lb4:=lb3.l b4;have lc4:=lc3.l b4;have b04:=aa b03 b4;obtain⟨-,⟨q0,q1,q2⟩,-⟩:=id la4;obtain⟨-,⟨q3,q4,q5⟩,-⟩:=id lb4))
   clear la lb lc la3 lb3 lc3 p0 p1 p2 p3 p4 p5 ca0 ca1 ca2 cb0 cb1 cb2 b03;have r1:=(o1.l b4).rd;have r2:=o2.rd;clear o1 o2 b3 b4
   go_wp2_with fail
   refine(HCM.out v1 v2 w4 r1 r2).mono ?_;rintro z w9 ⟨rfl,b9⟩;have la4:=la4.l b9;have lb4:=lb4.l b9;have lc4:=lc4.l b9;have b04:=aa b04 b9;have r1:=r1.l b9;have r2:=r2.l b9;clear b9;have bd:Below w9.heap.size w9 w9.drew:=(Below.refl _ _).drew;have la5:=la4.l bd;have lb5:=lb4.l bd;have lc5:=lc4.l bd;have b05:=aa b04 bd;have r1:=r1.l bd;have r2:=r2.l bd;obtain⟨-,⟨c0,c1,c2⟩,-⟩:=id la5;obtain⟨-,⟨c3,c4,c5⟩,-⟩:=id lb5;clear la4 lb4 lc4 bd q0 q1 q2 q3 q4 q5
   go_wp2
   go_region_held3 (fun wq=>wq.cell? ⟨w.heap.size+1,0,none⟩=some (.bool sb)) (go_keep) (first
    | (go_at_call 109;refine(HMI.out X Y v2 v1 _ (by omega) (by omega) r2 r1).mono ?_;rintro z w6 ⟨vs,rfl,o6,b6⟩;have la6:=la5.l b6;have lb6:=lb5.l b6;have lc6:=lc5.l b6;have b06:=aa b05 b6;obtain⟨so,sc,hvs⟩:=o6.rd.shape;subst hvs;obtain⟨-,⟨t0,t1,t2⟩,-⟩:=id lb6;clear r1)
    | (go_at_call 106;refine(l9 sb so _ sc _ _).mono ?_;rintro z w7 ⟨rfl,b7⟩;have la7:=la6.l b7;have lb7:=lb6.l b7;have lc7:=lc6.l b7;have b07:=aa b06 b7;obtain⟨-,⟨u0,u1,u2⟩,-⟩:=id lb7;obtain⟨hl7,⟨d0,d1,d2⟩,f0,f1,f2⟩:=id lc7))
   all_goals go_wp2
   obtain⟨-,⟨g0,g1,g2⟩,-⟩:=aD lc7 (.bool sb) (.slice so (Dg.dg 4294967296 (Y-X)).length sc) (.int .i64 (min ae be));have o7:=(o6.l b7).apart3 (b:=w.heap.size+1+1) lc5.1 (.bool sb) (.slice so (Dg.dg 4294967296 (Y-X)).length sc) (.int .i64 (min ae be));have b8:=am b07 (show w.heap.size≤w.heap.size+1+1 by omega) (.bool sb) (.slice so (Dg.dg 4294967296 (Y-X)).length sc) (.int .i64 (min ae be))
   refine bodyPost_ret (v:= .agg #[.bool sb,.slice so (Dg.dg 4294967296 (Y-X)).length sc,.int .i64 (min ae be)]) (by simp[results,results62,go_sem,g0,g1,g2]) rfl ?_;exact⟨_,rfl,o7.lower b05.size,b8⟩
  ·rw[if_neg hlt]
   have hd:=abX (a:=(X:Int)) (b:=(Y:Int)) (by omega);obtain⟨r,hr⟩: ∃r,dm X Y=r:=⟨_,rfl⟩;rw[hr] at hd HCM;clear hr
   go_enter func62,ntmps62
   obtain⟨-,⟨ca0,ca1,ca2⟩,-⟩:=id la;obtain⟨-,⟨cb0,cb1,cb2⟩,-⟩:=id lb
   go_wp2_with fail
   go_region_held3 (fun wq=>(wq.cell? ⟨w.heap.size,0,none⟩=some (.bool sa)∧wq.cell? ⟨w.heap.size,1,none⟩=some (.slice ao ma ca)∧wq.cell? ⟨w.heap.size,2,none⟩=some (.int .i64 ae))∧wq.cell? ⟨w.heap.size+1,0,none⟩=some (.bool sb)∧wq.cell? ⟨w.heap.size+1,1,none⟩=some (.slice bo mb cb)∧wq.cell? ⟨w.heap.size+1,2,none⟩=some (.int .i64 be)) (go_keep) (first
    | (go_at_call 105;refine(HATA.out _ b02).mono ?_;rintro z w3 ⟨v1,rfl,o1,b3⟩;have la3:=la.l b3;have lb3:=lb.l b3;have lc3:=lc.l b3;have b03:=aa b02 b3;obtain⟨-,⟨p0,p1,p2⟩,-⟩:=id la3;obtain⟨-,⟨p3,p4,p5⟩,-⟩:=id lb3;clear b02)
    | (go_at_call 105;refine(HATB.out _ b03).mono ?_;rintro z w4 ⟨v2,rfl,o2,b4⟩;have la4:=la3.l b4;have lb4:=lb3.l b4;have lc4:=lc3.l b4;have b04:=aa b03 b4;obtain⟨-,⟨q0,q1,q2⟩,-⟩:=id la4;obtain⟨-,⟨q3,q4,q5⟩,-⟩:=id lb4))
   clear la lb lc la3 lb3 lc3 p0 p1 p2 p3 p4 p5 ca0 ca1 ca2 cb0 cb1 cb2 b03;have r1:=(o1.l b4).rd;have r2:=o2.rd;clear o1 o2 b3 b4
   go_wp2_with fail
   refine(HCM.out v1 v2 w4 r1 r2).mono ?_;rintro z w9 ⟨rfl,b9⟩;have la4:=la4.l b9;have lb4:=lb4.l b9;have lc4:=lc4.l b9;have b04:=aa b04 b9;have r1:=r1.l b9;have r2:=r2.l b9;clear b9;have bd:Below w9.heap.size w9 w9.drew:=(Below.refl _ _).drew;have la5:=la4.l bd;have lb5:=lb4.l bd;have lc5:=lc4.l bd;have b05:=aa b04 bd;have r1:=r1.l bd;have r2:=r2.l bd;obtain⟨-,⟨c0,c1,c2⟩,-⟩:=id la5;obtain⟨-,⟨c3,c4,c5⟩,-⟩:=id lb5;clear la4 lb4 lc4 bd q0 q1 q2 q3 q4 q5
   go_wp2
   go_region_held3 (fun wq=>wq.cell? ⟨w.heap.size,0,none⟩=some (.bool sa)) (go_keep) (first
    | (go_at_call 109;refine(HMI.out Y X v1 v2 _ (by omega) (by omega) r1 r2).mono ?_;rintro z w6 ⟨vs,rfl,o6,b6⟩;have la6:=la5.l b6;have lb6:=lb5.l b6;have lc6:=lc5.l b6;have b06:=aa b05 b6;obtain⟨so,sc,hvs⟩:=o6.rd.shape;subst hvs;obtain⟨-,⟨t0,t1,t2⟩,-⟩:=id la6;clear r1)
    | (go_at_call 106;refine(l9 sa so _ sc _ _).mono ?_;rintro z w7 ⟨rfl,b7⟩;have la7:=la6.l b7;have lb7:=lb6.l b7;have lc7:=lc6.l b7;have b07:=aa b06 b7;obtain⟨-,⟨u0,u1,u2⟩,-⟩:=id la7;obtain⟨hl7,⟨d0,d1,d2⟩,f0,f1,f2⟩:=id lc7))
   all_goals go_wp2
   obtain⟨-,⟨g0,g1,g2⟩,-⟩:=aD lc7 (.bool sa) (.slice so (Dg.dg 4294967296 (X-Y)).length sc) (.int .i64 (min ae be));have o7:=(o6.l b7).apart3 (b:=w.heap.size+1+1) lc5.1 (.bool sa) (.slice so (Dg.dg 4294967296 (X-Y)).length sc) (.int .i64 (min ae be));have b8:=am b07 (show w.heap.size≤w.heap.size+1+1 by omega) (.bool sa) (.slice so (Dg.dg 4294967296 (X-Y)).length sc) (.int .i64 (min ae be))
   refine bodyPost_ret (v:= .agg #[.bool sa,.slice so (Dg.dg 4294967296 (X-Y)).length sc,.int .i64 (min ae be)]) (by simp[results,results62,go_sem,g0,g1,g2]) rfl ?_;exact⟨_,rfl,o7.lower b05.size,b8⟩
def Rv (w:World)(v:Value)(t:ak):Prop:= ∃s,v=(ydV t.s s t.e)∧Rd w .i64 s (Dg.dg 65536 t.n)
theorem Rv.l {w w':World}{v:Value}{t:ak}(h:Rv w v t)(hb:yB w w'):Rv w' v t:=by
 obtain⟨s,hv,hr⟩:=h;exact⟨s,hv,hr.l hb⟩
def ZB (w:World)(b:Nat):Prop:=b<w.heap.size∧ ∃ty,w.heap[b]? =some (.cells (ydA false yN 0) ty (0,0))
theorem ZB.l {w w':World}{b:Nat}(h:ZB w b)(hb:yB w w'):ZB w' b:=by
 obtain⟨hl,ty,hh⟩:=h;exact⟨Nat.lt_of_lt_of_le hl hb.size,ty,(hb.block b hl).trans hh⟩
theorem ZB.rd {w:World}{b:Nat}{v:Value}{zs:List Nat}(h:ZB w b)(hr:Rd w .i64 v zs)(hn:Dg.Norm zs)(x0 x1 x2:Value):
  Rd (((w.setCell ⟨b,0,none⟩ x0).setCell ⟨b,1,none⟩ x1).setCell ⟨b,2,none⟩ x2) .i64 v zs:=by
 obtain⟨hl,ty,hh⟩:=h;obtain⟨ao,cap,rfl,h1,h2,h3⟩:=hr;refine⟨ao,cap,rfl,h1,h2,fun hp=> ?_⟩
 obtain⟨c,off,rfl,hc⟩:=h3 hp;refine⟨c,off,rfl,fun i hi=> ?_⟩
 have hne:c≠b:=by
  intro e;subst e;have k1:=hc (zs.length-1) (by omega);have hz:=hn (List.length_pos_iff.1 hp);unfold World.cell? at k1;simp only[hh] at k1;obtain⟨o,ho⟩: ∃o,off+(zs.length-1)=o:=⟨_,rfl⟩;rw[ho] at k1;generalize zs.getD (zs.length-1) 0=d at*
  match o,k1 with
  |0,k1=>simp at k1
  |1,k1=>simp at k1
  |2,k1=>simp at k1;omega
  |o+3,k1=>simp at k1
 rw[World.cell?_setCell_other (h:=by simp),World.cell?_setCell_other (h:=by simp),World.cell?_setCell_other (h:=by simp)];exact hc i hi
theorem cA (w:World)(c0:List Value)(t0:TypeId): ∃W,w.alloc (.cells c0.toArray t0)=W∧au W w.heap.size t0 c0∧yB w W:=
 ⟨_,rfl,ah w c0 t0,af w _⟩
theorem iG (w:World)(c0:List Value)(t0:TypeId)(c1:List Value)(t1:TypeId): ∃W,(w.alloc (.cells c0.toArray t0)).alloc (.cells c1.toArray t1)=W∧au W w.heap.size t0 c0∧au W (w.heap.size+1) t1 c1∧yB w W:=by
 obtain⟨W,rfl,h0,b0⟩:=cA w c0 t0;have h1:=ah (w.alloc (.cells c0.toArray t0)) c1 t1;have b1:=af (w.alloc (.cells c0.toArray t0)) (.cells c1.toArray t1);rw[World.size_alloc] at h1;exact⟨_,rfl,h0.l b1,h1,aa b0 b1⟩
theorem lG (w:World)(c0:List Value)(t0:TypeId)(c1:List Value)(t1:TypeId)(c2:List Value)(t2:TypeId): ∃W,((w.alloc (.cells c0.toArray t0)).alloc (.cells c1.toArray t1)).alloc (.cells c2.toArray t2)=W∧au W w.heap.size t0 c0∧au W (w.heap.size+1) t1 c1∧au W (w.heap.size+1+1) t2 c2∧yB w W:=by
 obtain⟨W,rfl,h0,h1,b0⟩:=iG w c0 t0 c1 t1;have h2:=ah ((w.alloc (.cells c0.toArray t0)).alloc (.cells c1.toArray t1)) c2 t2;have b2:=af ((w.alloc (.cells c0.toArray t0)).alloc (.cells c1.toArray t1)) (.cells c2.toArray t2);rw[World.size_alloc,World.size_alloc] at h2;exact⟨_,rfl,h0.l b2,h1.l b2,h2,aa b0 b2⟩
theorem pi (w:World)(c0:List Value)(t0:TypeId)(c1:List Value)(t1:TypeId)(c2:List Value)(t2:TypeId)(c3:List Value)(t3:TypeId): ∃W,(((w.alloc (.cells c0.toArray t0)).alloc (.cells c1.toArray t1)).alloc (.cells c2.toArray t2)).alloc (.cells c3.toArray t3)=W∧au W w.heap.size t0 c0∧au W (w.heap.size+1) t1 c1∧au W (w.heap.size+1+1) t2 c2∧au W (w.heap.size+1+1+1) t3 c3∧yB w W:=by
 obtain⟨W,rfl,h0,h1,h2,b0⟩:=lG w c0 t0 c1 t1 c2 t2;have h3:=ah (((w.alloc (.cells c0.toArray t0)).alloc (.cells c1.toArray t1)).alloc (.cells c2.toArray t2)) c3 t3;have b3:=af (((w.alloc (.cells c0.toArray t0)).alloc (.cells c1.toArray t1)).alloc (.cells c2.toArray t2)) (.cells c3.toArray t3);rw[World.size_alloc,World.size_alloc,World.size_alloc] at h3;exact⟨_,rfl,h0.l b3,h1.l b3,h2.l b3,h3,aa b0 b3⟩
theorem dL {P:Program}{w0 w:World}{n b:Nat}{ty:TypeId}{z0 z1 z2 z3 z4:Value}{d:TypeDesc}(h:au w b ty [z0,z1,z2,z3,z4])(hb:Below n w0 w)(hn:n≤b)(hu:P.underlying ty=some d)(hd:d.isRow=true)(hi:(P.info? ty).map (·.size)=some 5)(v0 v1 v2 v3 v4:Value):
  (loadVar ty ⟨b,0,none⟩).run P (((((w.setCell ⟨b,0,none⟩ v0).setCell ⟨b,1,none⟩ v1).setCell ⟨b,2,none⟩ v2).setCell ⟨b,3,none⟩ v3).setCell ⟨b,4,none⟩ v4)= .ok (.agg #[v0,v1,v2,v3,v4]) (((((w.setCell ⟨b,0,none⟩ v0).setCell ⟨b,1,none⟩ v1).setCell ⟨b,2,none⟩ v2).setCell ⟨b,3,none⟩ v3).setCell ⟨b,4,none⟩ v4)∧Below n w0 (((((w.setCell ⟨b,0,none⟩ v0).setCell ⟨b,1,none⟩ v1).setCell ⟨b,2,none⟩ v2).setCell ⟨b,3,none⟩ v3).setCell ⟨b,4,none⟩ v4)∧But b w (((((w.setCell ⟨b,0,none⟩ v0).setCell ⟨b,1,none⟩ v1).setCell ⟨b,2,none⟩ v2).setCell ⟨b,3,none⟩ v3).setCell ⟨b,4,none⟩ v4):=by
 have cR:au (((((w.setCell ⟨b,0,none⟩ v0).setCell ⟨b,1,none⟩ v1).setCell ⟨b,2,none⟩ v2).setCell ⟨b,3,none⟩ v3).setCell ⟨b,4,none⟩ v4) b ty [v0,v1,v2,v3,v4]:=(((((h.set 0 v0).set 1 v1).set 2 v2).set 3 v3).set 4 v4);have bu:=((((ag w b 0 v0).trans (ag _ b 1 v1)).trans (ag _ b 2 v2)).trans (ag _ b 3 v3)).trans (ag _ b 4 v4);exact⟨run_loadVar_mid (P:=P) _ b 0 ty [v0,v1,v2,v3,v4] _ cR.range hu hd hi,bu.below hb hn,bu⟩
theorem dN {w:World}{b:Nat}{ty:TypeId}{z0 z1 z2 z3 z4:Value}(h:au w b ty [z0,z1,z2,z3,z4]):(w.cell? ⟨b,0,none⟩=some z0∧w.cell? ⟨b,1,none⟩=some z1∧w.cell? ⟨b,2,none⟩=some z2∧w.cell? ⟨b,3,none⟩=some z3∧w.cell? ⟨b,4,none⟩=some z4)∧w.frozen? ⟨b,0,none⟩=false∧w.frozen? ⟨b,1,none⟩=false∧w.frozen? ⟨b,2,none⟩=false∧w.frozen? ⟨b,3,none⟩=false∧w.frozen? ⟨b,4,none⟩=false:=
 ⟨⟨h.c 0 rfl,h.c 1 rfl,h.c 2 rfl,h.c 3 rfl,h.c 4 rfl⟩,h.f 0,h.f 1,h.f 2,h.f 3,h.f 4⟩
theorem kY {w:World}{b:Nat}{ty:TypeId}{vs cs:List Value}(h:au w b ty vs)(o n:Nat)(e:(vs.drop o).take n=cs):w.rangeAt b o cs:=fun j v hj=>by
 subst e;refine h.c (o+j) ?_;rw[List.getElem?_take] at hj
 split at hj
 ·rw[List.getElem?_drop] at hj
  exact hj
 ·cases hj
theorem dZ {w w':World}{b g o:Nat}{cs:List Value}(bu:But b w w')(h:w.rangeAt g o cs)(hg:g≠b):w'.rangeAt g o cs:=fun j v hj=>by rw[bu.c (by exact hg)];exact h j v hj
theorem tk {P:Program}{md:Region.Mode}{ops:Array Oper}{Q:Exit→Act→World→Prop}{S:World→Prop}{oi:Oper}{fuel:Nat}{listed:Array Bool}{a:Act}{w:World}(i:Nat)(v:Value)(hi:ops[i]? =some oi)
  (hb:(Region.noSelect ops&&(Region.free md ops listed i&&((Region.ready md ops listed).contains i&&Region.wanted oi (yielded ops a.tmps))))=true)
  (hQ: ∀c a w,Q (.panic c) (a.put oi.dst v) w→Q (.panic c) a w) (hv: ∀w0,S w0→(execOp a.eval oi).run P w0= .ok (.value v) w0) (hS:S w)
  (h:wpAnyH P md ops Q S fuel (listed.setIfInBounds i true) (a.put oi.dst v) w):wpAnyH P md ops Q S (fuel+1) listed a w:=by
 simp only[Bool.and_eq_true] at hb;exact wpAnyH_take hi hb.1 hb.2.1 hb.2.2.1 hQ (Or.inl ⟨hb.2.2.2,hv⟩) hS h
def dK (n:Int):Int:=if n<1∨8<n then 0 else if n≤3 then 1 else if n≤5 then 2 else 3
theorem jk (n:Int)(w:World):yC 84 #[yi n] w fun z w'=>z= .returned (yi (dK n))∧w'=w:=by
 unfold dK
 by_cases h1:n<1
 ·rw[if_pos (.inl h1)]
  go_enter func84,ntmps84
  go_wp2
  go_ret
  exact⟨rfl,rfl⟩
 ·by_cases h2:8<n
  ·rw[if_pos (.inr h2)]
   go_enter func84,ntmps84
   go_wp2
   go_ret
   exact⟨rfl,rfl⟩
  ·rw[if_neg (by omega)]
   by_cases h3:n≤3
   ·rw[if_pos h3]
    go_enter func84,ntmps84
    go_wp2
    go_ret
    exact⟨rfl,rfl⟩
   ·rw[if_neg h3]
    by_cases h4:n≤5
    ·rw[if_pos h4]
     go_enter func84,ntmps84
     go_wp2
     go_ret
     exact⟨rfl,rfl⟩
    ·rw[if_neg h4]
     go_enter func84,ntmps84
     go_wp2
     go_ret
     exact⟨rfl,rfl⟩
def tS:Nat→List Value
 |1=>[yi 2,yi 24,yi (-149),yi 104,.bool true,yi 4,yi 8,yi 1,.func (.func 172) #[] #[]]
 |2=>[yi 2,yi 53,yi (-1074),yi 971,.bool true,yi 8,yi 11,yi 1,.func (.func 172) #[] #[]]
 |3=>[yi 2,yi 64,yi (-16445),yi 16320,.bool true,yi 10,yi 15,yi 1,.func (.func 173) #[] #[]]
 |4=>[yi 16,yi 6,yi (-70),yi 57,.bool false,yi 4,yi 7,yi 2,.func (.func 172) #[] #[]]
 |5=>[yi 16,yi 14,yi (-78),yi 49,.bool false,yi 8,yi 7,yi 2,.func (.func 172) #[] #[]]
 |6=>[yi 2,yi 24,yi (-151),yi 103,.bool false,yi 4,yi 8,yi 3,.func (.func 175) #[] #[]]
 |7=>[yi 2,yi 56,yi (-183),yi 71,.bool false,yi 8,yi 8,yi 3,.func (.func 175) #[] #[]]
 |8=>[yi 2,yi 53,yi (-1076),yi 970,.bool false,yi 8,yi 11,yi 3,.func (.func 175) #[] #[]]
 |_=>(yzL 0 0 0 0 false 0 0 0)
def Ar:List Value:=[yi 0,yi 0,yi 0,yi 0,.bool false,yi 0,yi 0,yi 0,.nilFunc,yi 2,yi 24,yi (-149),yi 104,.bool true,yi 4,yi 8,yi 1,.func (.func 172) #[] #[],yi 2,yi 53,yi (-1074),yi 971,.bool true,yi 8,yi 11,yi 1,.func (.func 172) #[] #[],yi 2,yi 64,yi (-16445),yi 16320,.bool true,yi 10,yi 15,yi 1,.func (.func 173) #[] #[],yi 16,yi 6,yi (-70),yi 57,.bool false,yi 4,yi 7,yi 2,.func (.func 172) #[] #[],yi 16,yi 14,yi (-78),yi 49,.bool false,yi 8,yi 7,yi 2,.func (.func 172) #[] #[],yi 2,yi 24,yi (-151),yi 103,.bool false,yi 4,yi 8,yi 3,.func (.func 175) #[] #[],yi 2,yi 56,yi (-183),yi 71,.bool false,yi 8,yi 8,yi 3,.func (.func 175) #[] #[],yi 2,yi 53,yi (-1076),yi 970,.bool false,yi 8,yi 11,yi 3,.func (.func 175) #[] #[]]
theorem br {P:Program}{fn:Func}{a:Nat}{ty:TypeId}{tmps:Array Value}{w:World}{b:Nat}{v:Value}(hres:fn.results= #[.cell a ty])(hp:tmps.getD a undef= .pointer (some ⟨b,0,none⟩))(hl:(loadVar ty ⟨b,0,none⟩).run P w= .ok v w):(results fn tmps).run P w= .ok v w:=by
 rw[Array.getD_eq_getD_getElem?] at hp;unfold results;simp[hres,hp,asAddr,hl]
set_option maxRecDepth 20000 in
theorem jG (w:World):yC 150 #[] w (yR w (.agg Ar.toArray)):=by
 have l0:au (w.alloc (.cells Tryz.zeroCells200 200)) w.heap.size 200 Tryz.zeroCells200.toList:=by
  have:=ah w Tryz.zeroCells200.toList 200
  rwa [Array.toArray_toList] at this
 have th:=l0.there 81 (by kernel_rfl);have cR:=l0.sets Ar (by kernel_rfl);have bu:=de w.heap.size Ar 0 (w.alloc (.cells Tryz.zeroCells200 200));have bR:=bu.below (af w (.cells Tryz.zeroCells200 200)) (Nat.le_refl _);have hl:=run_loadVar_mid (P:=Tryz.prog) _ w.heap.size 0 200 Ar _ cR.range underlying200 rfl (by kernel_rfl);have HH:Hid (_∧_):=⟨hl,bR⟩;clear hl bR cR bu l0
 go_enter func150,ntmps150
 go_wp2_with (refine wpList_store_mid rfl 200 (.tmp 0) (.tmp 28) rfl w.heap.size 0 #[yi 0,yi 0,yi 0,yi 0,.bool false,yi 0,yi 0,yi 0,.nilFunc,yi 2,yi 24,yi (-149),yi 104,.bool true,yi 4,yi 8,yi 1,.func (.func 172) #[] #[],yi 2,yi 53,yi (-1074),yi 971,.bool true,yi 8,yi 11,yi 1,.func (.func 172) #[] #[],yi 2,yi 64,yi (-16445),yi 16320,.bool true,yi 10,yi 15,yi 1,.func (.func 173) #[] #[],yi 16,yi 6,yi (-70),yi 57,.bool false,yi 4,yi 7,yi 2,.func (.func 172) #[] #[],yi 16,yi 14,yi (-78),yi 49,.bool false,yi 8,yi 7,yi 2,.func (.func 172) #[] #[],yi 2,yi 24,yi (-151),yi 103,.bool false,yi 4,yi 8,yi 3,.func (.func 175) #[] #[],yi 2,yi 56,yi (-183),yi 71,.bool false,yi 8,yi 8,yi 3,.func (.func 175) #[] #[],yi 2,yi 53,yi (-1076),yi 970,.bool false,yi 8,yi 11,yi 3,.func (.func 175) #[] #[]] rfl rfl th (by kernel_rfl) (by simp[Value.oneCell']) ?_)
 change bodyPost _ _ _ _ _ (World.setCells (w.alloc (.cells Tryz.zeroCells200 200)) w.heap.size 0 Ar);obtain⟨hl,bR⟩:=HH.out;generalize World.setCells (w.alloc (.cells Tryz.zeroCells200 200)) w.heap.size 0 Ar=W at hl bR⊢;exact bodyPost_ret (v:= .agg Ar.toArray) (br results150 rfl hl) rfl ⟨rfl,bR⟩
theorem aj {P:Program}{fn:Func}{a t:Nat}{ty:TypeId}{tmps:Array Value}{w:World}{b:Nat}{v u:Value}(hres:fn.results= #[.cell a ty,.tmp t])(hp:tmps.getD a undef= .pointer (some ⟨b,0,none⟩))(hu:tmps.getD t undef=u)(hl:(loadVar ty ⟨b,0,none⟩).run P w= .ok v w):(results fn tmps).run P w= .ok (.tuple #[v,u]) w:=by
 rw[Array.getD_eq_getD_getElem?] at hp hu;unfold results;simp[hres,hp,hu,asAddr,hl]
def tC (w:World)(n:Nat)(c:Int)(e:Ending)(w':World):Prop:=
 e= .returned (.tuple #[.agg (tS n).toArray,yi c])∧yB w w'
theorem lR (n:Int)(w:World)(h:dK n=0):yC 117 #[yi n] w (tC w 0 6):=by
 have hf:=jk n;rw[h] at hf;have HF:Hid _:=hf;clear hf h;have l0:=ah w (yzL 0 0 0 0 false 0 0 0) 170;have hsn:=gn;have b0:=af w (.cells (yzA 0 0 0 0 false 0 0 0) 170);have hl:=run_loadVar_mid (P:=Tryz.prog) _ w.heap.size 0 170 (tS 0) _ l0.range underlying170 rfl (by kernel_rfl);have HH:Hid (_∧_):=⟨hl,b0⟩;clear hl b0 l0
 go_enter func117,ntmps117
 go_wp2_with fail
 refine(HF.out _).mono ?_;rintro z w' ⟨rfl,rfl⟩
 go_wp2
 obtain⟨hl,bR⟩:=HH.out;exact bodyPost_ret (aj results117 rfl rfl hl) rfl ⟨rfl,bR⟩
theorem kC (k R D L G sz ex fam c:Int)(gr:Bool)(F:Nat)(A:Value)(w:World)(hc:(c==0)=false)
  (HF: ∀w1,yC 84 #[yi k] w1 fun z w'=>z= .returned (yi c)∧w'=w1)
  (HL: ∀w1,yC 150 #[] w1 fun z w'=>z= .returned A∧yB w1 w')
  (hix: ∀W:World,(Instr.index 200 A (yi k)).run Tryz.prog W= .ok (ylV R D L G gr sz ex fam F) W):
  yC 117 #[yi k] w (yR w (.tuple #[ylV R D L G gr sz ex fam F,yi 0])):=by
 replace HF:Hid _:=HF;replace HL:Hid _:=HL;have hsf:=cD;have l0:=ah w (yzL 0 0 0 0 false 0 0 0) 170;have b0:=af w (.cells (yzA 0 0 0 0 false 0 0 0) 170)
 go_enter func117,ntmps117
 go_wp2_with fail
 refine(HF.out _).mono ?_;rintro z w' ⟨rfl,rfl⟩
 go_wp2_with fail
 refine(HL.out _).mono ?_;rintro z w2 ⟨rfl,b2⟩;have l2:=l0.l b2;have cR:au (((((((((w2.setCell ⟨w.heap.size,0,none⟩ (yi R)).setCell ⟨w.heap.size,1,none⟩ (yi D)).setCell ⟨w.heap.size,2,none⟩ (yi L)).setCell ⟨w.heap.size,3,none⟩ (yi G)).setCell ⟨w.heap.size,4,none⟩ (.bool gr)).setCell ⟨w.heap.size,5,none⟩ (yi sz)).setCell ⟨w.heap.size,6,none⟩ (yi ex)).setCell ⟨w.heap.size,7,none⟩ (yi fam)).setCell ⟨w.heap.size,8,none⟩ (.func (.func F) #[] #[])) w.heap.size 170 (ylL R D L G gr sz ex fam F):=(((((((((l2.set 0 (yi R)).set 1 (yi D)).set 2 (yi L)).set 3 (yi G)).set 4 (.bool gr)).set 5 (yi sz)).set 6 (yi ex)).set 7 (yi fam)).set 8 (.func (.func F) #[] #[]));have bR:=(((((((((ag w2 w.heap.size 0 (yi R)).trans (ag _ w.heap.size 1 (yi D))).trans (ag _ w.heap.size 2 (yi L))).trans (ag _ w.heap.size 3 (yi G))).trans (ag _ w.heap.size 4 (.bool gr))).trans (ag _ w.heap.size 5 (yi sz))).trans (ag _ w.heap.size 6 (yi ex))).trans (ag _ w.heap.size 7 (yi fam))).trans (ag _ w.heap.size 8 (.func (.func F) #[] #[]))).below (aa b0 b2) (Nat.le_refl _);have hl:=run_loadVar_mid (P:=Tryz.prog) _ w.heap.size 0 170 (ylL R D L G gr sz ex fam F) _ cR.range underlying170 rfl (by kernel_rfl);have HH:Hid (_∧_):=⟨hl,bR⟩;have f0:=l2.f 0;have f1:=l2.f 1;have f2:=l2.f 2;have f3:=l2.f 3;have f4:=l2.f 4;have f5:=l2.f 5;have f6:=l2.f 6;have f7:=l2.f 7;have f8:=l2.f 8;obtain⟨x0,x1,x2,x3,x4,x5,x6,x7,x8⟩:=l2.cs9;clear hl bR cR l0 l2 b0 b2 HF HL
 go_wp2
 obtain⟨hl,bR⟩:=HH.out;exact bodyPost_ret (aj results117 rfl rfl hl) rfl ⟨rfl,bR⟩
theorem uU (w:World):yC 117 #[yi 1] w (tC w 1 0):=
 kC 1 _ _ _ _ _ _ _ 1 _ _ _ w rfl (jk 1) jG (fun W=>by kernel_rfl)
theorem uV (w:World):yC 117 #[yi 2] w (tC w 2 0):=
 kC 2 _ _ _ _ _ _ _ 1 _ _ _ w rfl (jk 2) jG (fun W=>by kernel_rfl)
theorem uW (w:World):yC 117 #[yi 3] w (tC w 3 0):=
 kC 3 _ _ _ _ _ _ _ 1 _ _ _ w rfl (jk 3) jG (fun W=>by kernel_rfl)
theorem uX (w:World):yC 117 #[yi 4] w (tC w 4 0):=
 kC 4 _ _ _ _ _ _ _ 2 _ _ _ w rfl (jk 4) jG (fun W=>by kernel_rfl)
theorem uY (w:World):yC 117 #[yi 5] w (tC w 5 0):=
 kC 5 _ _ _ _ _ _ _ 2 _ _ _ w rfl (jk 5) jG (fun W=>by kernel_rfl)
theorem uZ (w:World):yC 117 #[yi 6] w (tC w 6 0):=
 kC 6 _ _ _ _ _ _ _ 3 _ _ _ w rfl (jk 6) jG (fun W=>by kernel_rfl)
theorem vf (w:World):yC 117 #[yi 7] w (tC w 7 0):=
 kC 7 _ _ _ _ _ _ _ 3 _ _ _ w rfl (jk 7) jG (fun W=>by kernel_rfl)
theorem vh (w:World):yC 117 #[yi 8] w (tC w 8 0):=
 kC 8 _ _ _ _ _ _ _ 3 _ _ _ w rfl (jk 8) jG (fun W=>by kernel_rfl)
end Go.Proofs.YtbdokgamhinajaaGreatDoor
