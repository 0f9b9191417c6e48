/-
  Texts laid together: Dp2, Se1, Se2.
-/
import Derived.Test.YtiakgfmlpdfhdaaGreatDoorTa19
import Derived.Test.YtiakgfmlpdfhdaaGreatDoorTa22
import Derived.Test.YtiakgfmlpdfhdaaGreatDoorTa24
import Derived.Test.YtiakgfmlpdfhdaaGreatDoorTa25
set_option maxRecDepth 100000
set_option maxHeartbeats 3200000
namespace Go.Proofs.YtiakgfmlpdfhdaaGreatDoor
open _root_.Go.Proofs.Tryz
open Go.RowKit
theorem vM (v u:Value)(a b:ak)(w:World)(hv:Rv w v a)(hu:Rv w u b)(hLa:(Dg.dg 65536 a.n).length≤30000)(hLb:(Dg.dg 65536 b.n).length≤30000)
  (ha1: -200000≤a.e) (ha2:a.e≤200000) (hb1: -200000≤b.e) (hb2:b.e≤200000):
  yC 29 #[v,u] w (di w (bare (cO a b))):=by
 obtain⟨s0,rfl,ra⟩:=hv;obtain⟨ao,ca,rfl⟩:=ra.shape;obtain⟨s1,rfl,rb⟩:=hu;obtain⟨bo,cb,rfl⟩:=rb.shape;obtain⟨sa,an,ae⟩:=a;obtain⟨sb,bn,be⟩:=b;simp only at ra rb hLa hLb ha1 ha2 hb1 hb2⊢;obtain⟨E,hE⟩: ∃E:Int,(if bn=0 then ae else if an=0 then be else min ae be)=E:=⟨_,rfl⟩
 have hl: -200000≤E∧E≤200000:=by
  rw[←hE];split
  ·omega
  ·split<;>omega
 obtain⟨X,hX⟩: ∃X,an*2^ (max 0 (ae-E)).toNat=X:=⟨_,rfl⟩;obtain⟨Y,hY⟩: ∃Y,bn*2^ (max 0 (be-E)).toNat=Y:=⟨_,rfl⟩;have hd:cO ⟨sa,an,ae⟩ ⟨sb,bn,be⟩=if sa=sb then⟨sa,X+Y,E⟩ else if Y≤X then⟨sa,X-Y,E⟩ else⟨sb,Y-X,E⟩:=by
  simp only[cO,hE,hX,hY]
 have hc:((((Dg.dg 65536 an).length:Int)==0)=false∧(((Dg.dg 65536 bn).length:Int)==0)=false∧min ae be=E)∨((((Dg.dg 65536 an).length:Int)==0)=true∧(((Dg.dg 65536 bn).length:Int)==0)=false∧be=E)∨((((Dg.dg 65536 an).length:Int)==0)=false∧(((Dg.dg 65536 bn).length:Int)==0)=true∧ae=E)∨((((Dg.dg 65536 an).length:Int)==0)=true∧(((Dg.dg 65536 bn).length:Int)==0)=true∧ae=E):=by
  rw[len_zero,len_zero,←hE]
  by_cases h1:an=0<;>by_cases h2:bn=0<;>simp[h1,h2]
 have lx:(Dg.dg 65536 X).length≤55001:=by rw[←hX];exact Nat.le_trans (jZ an _ 30000 25001 hLa (by omega)) (by omega)
 have ly:(Dg.dg 65536 Y).length≤55001:=by rw[←hY];exact Nat.le_trans (jZ bn _ 30000 25001 hLb (by omega)) (by omega)
 have wr: ∀e:Int,-200000≤e→e≤200000→IntKind.i64.wrap (e-E)=e-E:=fun e h1 h2=>IntWalk.i64_in _ ⟨by omega,by omega⟩
 have HU: ∀w1,yB w w1→yC 49 #[yS ao an ca,yi (max 0 (ae-E))] w1 (cG w1 X):=fun w1 b1=>by
  have:=kD _ _ (max 0 (ae-E)).toNat w1 (ra.l b1) (Dg.small_dg _ _ (by omega)) (by omega) (by omega)
  rwa [Dg.vl_dg _ _ (by omega),Int.toNat_of_nonneg (by omega),hX] at this
 have HV: ∀w1,yB w w1→yC 49 #[yS bo bn cb,yi (max 0 (be-E))] w1 (cG w1 Y):=fun w1 b1=>by
  have:=kD _ _ (max 0 (be-E)).toNat w1 (rb.l b1) (Dg.small_dg _ _ (by omega)) (by omega) (by omega)
  rwa [Dg.vl_dg _ _ (by omega),Int.toNat_of_nonneg (by omega),hY] at this
 have HB: ∀s Z zo zc w1,(Dg.dg 65536 Z).length≤100000→yB w w1→Rd w1 .i64 (yS zo Z zc) (Dg.dg 65536 Z)→yC 34 #[ydV s (yS zo Z zc) E] w1 (Xi w.heap.size w1 (bare ⟨s,Z,E⟩)):=
  fun s Z zo zc w1 h b1 r=>(lA _ ⟨s,Z,E⟩ w1 ⟨_,rfl,r⟩ h (by simp only;omega) (by simp only;omega)).mono fun _ _ h=>h.hid b1.size
 have ml: ∀P Q:Nat,(Dg.dg 65536 P).length≤55001→(Dg.dg 65536 (P-Q)).length≤100000:=fun P Q h=>Nat.le_trans (aH 65536 _ P (by omega) (Nat.sub_le _ _)) (by omega)
 have HC: ∀xo xc yo yc w1,yB w w1→Rd w1 .i64 (yS xo X xc) (Dg.dg 65536 X)→Rd w1 .i64 (yS yo Y yc) (Dg.dg 65536 Y)→yC 50 #[yS xo X xc,yS yo Y yc] w1 (yR w1 (yi (dm X Y))):=fun xo xc yo yc w1 _ h1 h2=>by
  have:=fm _ _ _ _ w1 h1 h2 (Dg.small_dg _ _ (by omega)) (Dg.small_dg _ _ (by omega)) (Dg.norm_dg _ _ (by omega)) (Dg.norm_dg _ _ (by omega))
  rwa [Dg.vl_dg _ _ (by omega),Dg.vl_dg _ _ (by omega)] at this
 rw[hd]
 by_cases hs:sa=sb
 ·subst hs
  rw[if_pos rfl];refine refDP_same ae be E _ _ _ _ sa ao bo _ _ ca cb X Y (X+Y) _ w hc (wr _ ha1 ha2) (wr _ hb1 hb2) rfl rfl HU HV (fun xo xc yo yc w1 _ h1 h2=> ?_) (fun zo zc w1 b1 r=>HB _ _ _ _ _ ?_ b1 r)
  ·have:=ew _ _ _ _ w1 h1 h2 (Dg.small_dg _ _ (by omega)) (Dg.small_dg _ _ (by omega)) (Dg.norm_dg _ _ (by omega)) (Dg.norm_dg _ _ (by omega)) (by omega) (by omega)
   rwa [Dg.vl_dg _ _ (by omega),Dg.vl_dg _ _ (by omega)] at this
  ·exact Nat.le_trans (og X Y 55001 lx ly) (by omega)
 ·have hs':(sa==sb)=false:=by simpa using hs
  rw[if_neg hs]
  by_cases hq:Y≤X
  ·rw[if_pos hq]
   refine refDP_geq ae be E _ _ _ _ sa sb ao bo _ _ ca cb X Y (X-Y) _ w (dm X Y) hs' ?_ hc (wr _ ha1 ha2) (wr _ hb1 hb2) rfl rfl HU HV HC (fun xo xc yo yc w1 _ h1 h2=> ?_) (fun zo zc w1 b1 r=>HB _ _ _ _ _ (ml _ _ lx) b1 r)
   ·unfold dm;split
    ·omega
    ·split<;>omega
   ·have:=kI _ _ _ _ w1 h1 h2 (Dg.small_dg _ _ (by omega)) (Dg.small_dg _ _ (by omega)) (by omega) (aH _ _ _ (by omega) hq) (by rw[Dg.vl_dg _ _ (by omega),Dg.vl_dg _ _ (by omega)];exact hq)
    rwa [Dg.vl_dg _ _ (by omega),Dg.vl_dg _ _ (by omega)] at this
  ·rw[if_neg hq]
   refine refDP_less ae be E _ _ _ _ sa sb ao bo _ _ ca cb X Y (Y-X) _ w (dm X Y) hs' ?_ hc (wr _ ha1 ha2) (wr _ hb1 hb2) rfl rfl HU HV HC (fun xo xc yo yc w1 _ h1 h2=> ?_) (fun zo zc w1 b1 r=>HB _ _ _ _ _ (ml _ _ ly) b1 r)
   ·unfold dm;split
    ·omega
    ·split<;>omega
   ·have:=kI _ _ _ _ w1 h2 h1 (Dg.small_dg _ _ (by omega)) (Dg.small_dg _ _ (by omega)) (by omega) (aH _ _ _ (by omega) (by omega)) (by rw[Dg.vl_dg _ _ (by omega),Dg.vl_dg _ _ (by omega)];omega)
    rwa [Dg.vl_dg _ _ (by omega),Dg.vl_dg _ _ (by omega)] at this
theorem spanOpp_W (a b:ak)(ao bo:Option Addr)(ac bc:Nat)(w:World)
  (H1:yJ 100 #[yDV b bo bc] (ydV (!b.s) (yT bo b.n bc) b.e))
  (H2:yJ 100 #[yDV a ao ac] (ydV (!a.s) (yT ao a.n ac) a.e)):
  yC 86 #[.agg #[.bool a.s,yT ao a.n ac,yi a.e,.bool b.s,yT bo b.n bc,yi b.e]] w (yR w (.agg #[.bool (!b.s),yT bo b.n bc,yi b.e,.bool (!a.s),yT ao a.n ac,yi a.e])):=by
 replace H1:Hid _:=H1;replace H2:Hid _:=H2;obtain⟨W4,hW5,q1,q2,b3⟩:=iG w [.bool a.s,yT ao a.n ac,yi a.e,.bool b.s,yT bo b.n bc,yi b.e] 57 [.bool false,yN,yi 0,.bool false,yN,yi 0] 57;replace hW5:Hid _:=hW5
 go_enter func86,ntmps86
 go_upto_region 1 with fail
 rw[hW5.out];clear hW5
 go_upto_region 1 with fail
 have bW6:yB W4 W4.drew:=(Below.refl _ _).drew;have q7:=q1.l bW6;have q8:=q2.l bW6;have b9:=aa b3 bW6;clear q1 q2 b3 bW6;refine wp_region_held_drew (S:=fun wq=>au wq w.heap.size 57 [.bool a.s,yT ao a.n ac,yi a.e,.bool b.s,yT bo b.n bc,yi b.e]) (by kernel_rfl) q7 (fun hS0=> ?_)
 generalize W4.drew=WD10 at q7 q8 b9 hS0⊢;refine tq 0 (.pointer (some ⟨w.heap.size,3,none⟩)) rfl (fun _ _=>by kernel_rfl) hS0 ?_
 refine tq 1 (yDV b bo bc) rfl (fun _ hw0=>fy 54 (.tmp 3) rfl w.heap.size 3 (by kernel_rfl) _ _ (kY hw0 3 3 rfl) underlying54 rfl (by kernel_rfl)) hS0 ?_
 refine tq 3 (.pointer (some ⟨w.heap.size,0,none⟩)) rfl (fun _ _=>by kernel_rfl) hS0 ?_
 refine tq 4 (yDV a ao ac) rfl (fun _ hw0=>fy 54 (.tmp 6) rfl w.heap.size 0 (by kernel_rfl) _ _ (kY hw0 0 3 rfl) underlying54 rfl (by kernel_rfl)) hS0 ?_
 refine wpAnyH_ready (rs:=[2]) (by kernel_rfl) (by simp) ?_;refine AllReadyH.cons rfl (fun K hK=> ?_) AllReadyH.nil
 go_simp
 refine(H1.out _).mono ?_;rintro zz w11 ⟨rfl,bb12⟩;have q13:=q7.l bb12;have q14:=q8.l bb12;have b15:=aa b9 bb12;clear q7 q8 b9 bb12 H1;refine hK.out _ _ q13 (fun hS16=> ?_)
 clear hK K;refine wpAnyH_ready (rs:=[5]) (by kernel_rfl) (by simp) ?_;refine AllReadyH.cons rfl (fun K hK=> ?_) AllReadyH.nil
 go_simp
 refine(H2.out _).mono ?_;rintro zz w17 ⟨rfl,bb18⟩;have q19:=q13.l bb18;have q20:=q14.l bb18;have b21:=aa b15 bb18;clear q13 q14 b15 bb18 H2;refine hK.out _ _ q19 (fun hS22=> ?_)
 clear hK K;refine tq 6 (.agg #[.bool (!b.s),yT bo b.n bc,yi b.e,.bool (!a.s),yT ao a.n ac,yi a.e]) rfl (fun _ _=>by kernel_rfl) hS22 ?_
 refine wpAnyH_ready (rs:=[7]) (by kernel_rfl) (by simp) ?_;refine AllReadyH.cons rfl (fun K hK=> ?_) AllReadyH.nil
 have bu:But (w.heap.size+1) w17 (w17.setCells (w.heap.size+1) 0 [.bool (!b.s),yT bo b.n bc,yi b.e,.bool (!a.s),yT ao a.n ac,yi a.e]):=de _ _ _ _;have hth:w17.there (w.heap.size+1) 0 6:=dD q20;have q23:au (w17.setCells (w.heap.size+1) 0 [.bool (!b.s),yT bo b.n bc,yi b.e,.bool (!a.s),yT ao a.n ac,yi a.e]) (w.heap.size+1) 57 [.bool (!b.s),yT bo b.n bc,yi b.e,.bool (!a.s),yT ao a.n ac,yi a.e]:=q20.sets _ rfl;have q24:=bu.loc q19 (by omega);have b25:=bu.below b21 (by omega);rw[if_pos (by kernel_rfl)];refine wp_store_mid 57 (.tmp 2) (.tmp 9) rfl (w.heap.size+1) 0 #[.bool (!b.s),yT bo b.n bc,yi b.e,.bool (!a.s),yT ao a.n ac,yi a.e] (by kernel_rfl) (by kernel_rfl) hth (by kernel_rfl) (by simp[Value.oneCell']) ?_;refine hK.out _ _ q24 (fun hS26=> ?_)
 clear hK K;clear q20 q19 b21 bu hth;refine wpAnyH_done (by kernel_rfl) ?_ _;clear hS0 hS16 hS22 hS26;change Exit.then _ _ _ _ (World.setCells w17 (w.heap.size+1) 0 [.bool (!b.s),yT bo b.n bc,yi b.e,.bool (!a.s),yT ao a.n ac,yi a.e]);generalize World.setCells w17 (w.heap.size+1) 0 [.bool (!b.s),yT bo b.n bc,yi b.e,.bool (!a.s),yT ao a.n ac,yi a.e]=W27 at q24 q23 b25⊢;simp only[Act.put,List.getElem_toArray,List.getElem_cons_succ,List.getElem_cons_zero];have hl:=run_loadVar_mid (P:=Tryz.prog) _ (w.heap.size+1) 0 57 [.bool (!b.s),yT bo b.n bc,yi b.e,.bool (!a.s),yT ao a.n ac,yi a.e] _ q23.range underlying57 rfl (by kernel_rfl)
 go_wp2
 exact bodyPost_ret (br results86 rfl hl) rfl ⟨rfl,b25⟩
theorem spanSame_W (a b:ak)(ao bo:Option Addr)(ac bc:Nat)(x y:ak)(n:Int)(w:World)
  (HG:yH w 43 #[.agg #[.bool a.s,yT ao a.n ac,yi a.e,.bool b.s,yT bo b.n bc,yi b.e]] (.bool true))
  (H1: ∀w1,yB w w1→yC 44 #[yDV a ao ac,yi n,.bool a.s] w1 (Lx w1 x))
  (H2: ∀w1,yB w w1→yC 44 #[yDV b bo bc,yi n,.bool b.s] w1 (Lx w1 y))
  (H3: ∀xo xc yo yc w1,yB w w1→Rd w1 .u32 (yT xo x.n xc) (Dg.dg 4294967296 x.n)→Rd w1 .u32 (yT yo y.n yc) (Dg.dg 4294967296 y.n)→yC 45 #[yDV x xo xc,yDV y yo yc] w1 (yR w1 (yi 0))):
  yC 25 #[.agg #[.bool a.s,yT ao a.n ac,yi a.e,.bool b.s,yT bo b.n bc,yi b.e],yi n] w (yR w (.bool true)):=by
 replace HG:Hid _:=HG;replace H1:Hid _:=H1;replace H2:Hid _:=H2;replace H3:Hid _:=H3;obtain⟨W3,hW4,q1,b2⟩:=cA w [.bool a.s,yT ao a.n ac,yi a.e,.bool b.s,yT bo b.n bc,yi b.e] 57;replace hW4:Hid _:=hW4
 go_enter func25,ntmps25
 go_upto_region 1 with fail
 rw[hW4.out];clear hW4
 go_upto_region 1 with fail
 have bW5:yB W3 W3.drew:=(Below.refl _ _).drew;have q6:=q1.l bW5;have b7:=aa b2 bW5;clear q1 b2 bW5;refine wp_region_held_drew (S:=fun wq=>au wq w.heap.size 57 [.bool a.s,yT ao a.n ac,yi a.e,.bool b.s,yT bo b.n bc,yi b.e]) (by kernel_rfl) q6 (fun hS0=> ?_)
 generalize W3.drew=WD8 at q6 b7 hS0⊢;refine tq 0 (.agg #[.bool a.s,yT ao a.n ac,yi a.e,.bool b.s,yT bo b.n bc,yi b.e]) rfl (fun _ hw0=>fy 57 (.tmp 2) rfl w.heap.size 0 (by kernel_rfl) _ _ hw0.range underlying57 rfl (by kernel_rfl)) hS0 ?_
 refine wpAnyH_ready (rs:=[1]) (by kernel_rfl) (by simp) ?_;refine AllReadyH.cons rfl (fun K hK=> ?_) AllReadyH.nil
 go_simp
 refine(HG.out _ b7).mono ?_;rintro zz w9 ⟨rfl,bb10⟩;have q11:=q6.l bb10;have b12:=aa b7 bb10;clear q6 b7 bb10 HG;refine hK.out _ _ q11 (fun hS13=> ?_)
 clear hK K;refine tq 2 (.bool true) rfl (fun _ _=>by kernel_rfl) hS13 ?_
 refine tq 3 (.pointer (some ⟨w.heap.size,0,none⟩)) rfl (fun _ _=>by kernel_rfl) hS13 ?_
 refine tq 4 (yDV a ao ac) rfl (fun _ hw0=>fy 54 (.tmp 8) rfl w.heap.size 0 (by kernel_rfl) _ _ (kY hw0 0 3 rfl) underlying54 rfl (by kernel_rfl)) hS13 ?_
 refine tq 5 (yi n) rfl (fun _ _=>by kernel_rfl) hS13 ?_
 refine tq 6 (.pointer (some ⟨w.heap.size,0,none⟩)) rfl (fun _ _=>by kernel_rfl) hS13 ?_
 refine tq 7 (.pointer (some ⟨w.heap.size,0,none⟩)) rfl (fun _ _=>by kernel_rfl) hS13 ?_
 refine tq 8 (.pointer (some ⟨w.heap.size,0,none⟩)) rfl (fun _ _=>by kernel_rfl) hS13 ?_
 refine tq 9 (.bool a.s) rfl (fun _ hw0=>gU 4 (.tmp 13) rfl w.heap.size 0 (by kernel_rfl) _ _ underlying4 rfl (hw0.c 0 rfl)) hS13 ?_
 refine tq 11 (.pointer (some ⟨w.heap.size,3,none⟩)) rfl (fun _ _=>by kernel_rfl) hS13 ?_
 refine tq 12 (yDV b bo bc) rfl (fun _ hw0=>fy 54 (.tmp 16) rfl w.heap.size 3 (by kernel_rfl) _ _ (kY hw0 3 3 rfl) underlying54 rfl (by kernel_rfl)) hS13 ?_
 refine tq 13 (yi n) rfl (fun _ _=>by kernel_rfl) hS13 ?_
 refine tq 14 (.pointer (some ⟨w.heap.size,3,none⟩)) rfl (fun _ _=>by kernel_rfl) hS13 ?_
 refine tq 15 (.pointer (some ⟨w.heap.size,3,none⟩)) rfl (fun _ _=>by kernel_rfl) hS13 ?_
 refine tq 16 (.pointer (some ⟨w.heap.size,3,none⟩)) rfl (fun _ _=>by kernel_rfl) hS13 ?_
 refine tq 17 (.bool b.s) rfl (fun _ hw0=>gU 4 (.tmp 21) rfl w.heap.size 3 (by kernel_rfl) _ _ underlying4 rfl (hw0.c 3 rfl)) hS13 ?_
 refine wpAnyH_ready (rs:=[10]) (by kernel_rfl) (by simp) ?_;refine AllReadyH.cons rfl (fun K hK=> ?_) AllReadyH.nil
 go_simp
 refine(H1.out _ b12).mono ?_;rintro zz w14 ⟨v1x16,rfl,r1x17,bb15⟩;have q18:=q11.l bb15;have b19:=aa b12 bb15;obtain⟨xo,xc,hv⟩:=r1x17.shape;subst hv;clear q11 b12 bb15 H1;refine hK.out _ _ q18 (fun hS20=> ?_)
 clear hK K;refine wpAnyH_ready (rs:=[18]) (by kernel_rfl) (by simp) ?_;refine AllReadyH.cons rfl (fun K hK=> ?_) AllReadyH.nil
 go_simp
 refine(H2.out _ b19).mono ?_;rintro zz w21 ⟨v1x23,rfl,r1x24,bb22⟩;have q25:=q18.l bb22;have r26:=r1x17.l bb22;have b27:=aa b19 bb22;obtain⟨yo,yc,hv⟩:=r1x24.shape;subst hv;clear q18 r1x17 b19 bb22 H2;refine hK.out _ _ q25 (fun hS28=> ?_)
 clear hK K;refine wpAnyH_ready (rs:=[19]) (by kernel_rfl) (by simp) ?_;refine AllReadyH.cons rfl (fun K hK=> ?_) AllReadyH.nil
 go_simp
 refine(H3.out _ _ _ _ _ b27 r26 r1x24).mono ?_;rintro zz w29 ⟨rfl,bb30⟩;have q31:=q25.l bb30;have b32:=aa b27 bb30;clear q25 r26 r1x24 b27 bb30 H3;refine hK.out _ _ q31 (fun hS33=> ?_)
 clear hK K;refine tq 20 (.bool true) rfl (fun _ _=>by go_simp) hS33 ?_
 refine tq 21 (.bool true) rfl (fun _ _=>by kernel_rfl) hS33 ?_
 refine tq 22 (.bool true) rfl (fun _ _=>by kernel_rfl) hS33 ?_
 refine wpAnyH_done (by kernel_rfl) ?_ _;clear hS0 hS13 hS20 hS28 hS33;simp only[Act.put,List.getElem_toArray,List.getElem_cons_succ,List.getElem_cons_zero,List.setIfInBounds_toArray,List.set_cons_zero,List.set_cons_succ]
 go_wp2
 go_ret
 exact⟨by simp,b32⟩
theorem sumsLn2_W (a b c m n p q r s u v x y:ak)(k pe qe re se:Int)(w:World)
  (H1: ∀w1,yB w w1→yC 80 #[yi 26,yi k] w1 (aeT w1 a b))
  (H2: ∀w1,yB w w1→yC 82 #[yi 18] w1 (aeT w1 c c))
  (H3: ∀ao ac bo bc co cc eo ec w1,yB w w1→Rd w1 .u32 (yT ao a.n ac) (Dg.dg 4294967296 a.n)→Rd w1 .u32 (yT bo b.n bc) (Dg.dg 4294967296 b.n)→Rd w1 .u32 (yT co c.n cc) (Dg.dg 4294967296 c.n)→Rd w1 .u32 (yT eo c.n ec) (Dg.dg 4294967296 c.n)→yC 81 #[.agg #[.bool a.s,yT ao a.n ac,yi a.e,.bool b.s,yT bo b.n bc,yi b.e],.agg #[.bool c.s,yT co c.n cc,yi c.e,.bool c.s,yT eo c.n ec,yi c.e]] w1 (aeT w1 m n))
  (H4: ∀w1,yB w w1→yC 80 #[yi 4801,yi k] w1 (aeT w1 p q))
  (H5: ∀po pc qo qc w1,yC 60 #[.agg #[.bool p.s,yT po p.n pc,yi p.e,.bool q.s,yT qo q.n qc,yi q.e],yi 1] w1 (yR w1 (.agg #[.bool p.s,yT po p.n pc,yi pe,.bool q.s,yT qo q.n qc,yi qe])))
  (H6: ∀w1,yB w w1→yC 80 #[yi 8749,yi k] w1 (aeT w1 r s))
  (H7: ∀ro rc so sc w1,yC 60 #[.agg #[.bool r.s,yT ro r.n rc,yi r.e,.bool s.s,yT so s.n sc,yi s.e],yi 3] w1 (yR w1 (.agg #[.bool r.s,yT ro r.n rc,yi re,.bool s.s,yT so s.n sc,yi se])))
  (H8: ∀mo mc no nc po pc qo qc w1,yB w w1→Rd w1 .u32 (yT mo m.n mc) (Dg.dg 4294967296 m.n)→Rd w1 .u32 (yT no n.n nc) (Dg.dg 4294967296 n.n)→Rd w1 .u32 (yT po p.n pc) (Dg.dg 4294967296 p.n)→Rd w1 .u32 (yT qo q.n qc) (Dg.dg 4294967296 q.n)→yC 61 #[.agg #[.bool m.s,yT mo m.n mc,yi m.e,.bool n.s,yT no n.n nc,yi n.e],.agg #[.bool p.s,yT po p.n pc,yi pe,.bool q.s,yT qo q.n qc,yi qe]] w1 (aeT w1 u v))
  (H9: ∀uo uc vo vc ro rc so sc w1,yB w w1→Rd w1 .u32 (yT uo u.n uc) (Dg.dg 4294967296 u.n)→Rd w1 .u32 (yT vo v.n vc) (Dg.dg 4294967296 v.n)→Rd w1 .u32 (yT ro r.n rc) (Dg.dg 4294967296 r.n)→Rd w1 .u32 (yT so s.n sc) (Dg.dg 4294967296 s.n)→yC 83 #[.agg #[.bool u.s,yT uo u.n uc,yi u.e,.bool v.s,yT vo v.n vc,yi v.e],.agg #[.bool r.s,yT ro r.n rc,yi re,.bool s.s,yT so s.n sc,yi se]] w1 (aeT w1 x y)):
  yC 48 #[yi k] w (aeT w x y):=by
 replace H1:Hid _:=H1;replace H2:Hid _:=H2;replace H3:Hid _:=H3;replace H4:Hid _:=H4;replace H5:Hid _:=H5;replace H6:Hid _:=H6;replace H7:Hid _:=H7;replace H8:Hid _:=H8;replace H9:Hid _:=H9;obtain⟨W3,hW4,q1,b2⟩:=cA w [.bool false,yN,yi 0,.bool false,yN,yi 0] 57;replace hW4:Hid _:=hW4
 go_enter func48,ntmps48
 go_upto_region 1 with fail
 rw[hW4.out];clear hW4
 go_wp2_with fail
 refine(H1.out _ b2).mono ?_;rintro zz w5 ⟨v1x7,v2x8,rfl,r1x9,r2x10,bb6⟩;have q11:=q1.l bb6;have b12:=aa b2 bb6;obtain⟨ao,ac,hv⟩:=r1x9.shape;subst hv;obtain⟨bo,bc,hv⟩:=r2x10.shape;subst hv;clear q1 b2 bb6 H1
 go_wp2_with fail
 refine(H2.out _ b12).mono ?_;rintro zz w13 ⟨v1x15,v2x16,rfl,r1x17,r2x18,bb14⟩;have q19:=q11.l bb14;have r20:=r1x9.l bb14;have r21:=r2x10.l bb14;have b22:=aa b12 bb14;obtain⟨co,cc,hv⟩:=r1x17.shape;subst hv;obtain⟨eo,ec,hv⟩:=r2x18.shape;subst hv;clear q11 r1x9 r2x10 b12 bb14 H2
 go_wp2_with fail
 refine(H3.out _ _ _ _ _ _ _ _ _ b22 r20 r21 r1x17 r2x18).mono ?_;rintro zz w23 ⟨v1x25,v2x26,rfl,r1x27,r2x28,bb24⟩;have q29:=q19.l bb24;have r30:=r20.l bb24;have r31:=r21.l bb24;have r32:=r1x17.l bb24;have r33:=r2x18.l bb24;have b34:=aa b22 bb24;obtain⟨mo,mc,hv⟩:=r1x27.shape;subst hv;obtain⟨no,nc,hv⟩:=r2x28.shape;subst hv;clear q19 r20 r21 r1x17 r2x18 b22 bb24 H3
 go_wp2_with fail
 refine(H4.out _ b34).mono ?_;rintro zz w35 ⟨v1x37,v2x38,rfl,r1x39,r2x40,bb36⟩;have q41:=q29.l bb36;have r42:=r30.l bb36;have r43:=r31.l bb36;have r44:=r32.l bb36;have r45:=r33.l bb36;have r46:=r1x27.l bb36;have r47:=r2x28.l bb36;have b48:=aa b34 bb36;obtain⟨po,pc,hv⟩:=r1x39.shape;subst hv;obtain⟨qo,qc,hv⟩:=r2x40.shape;subst hv;clear q29 r30 r31 r32 r33 r1x27 r2x28 b34 bb36 H4
 go_wp2_with fail
 refine(H5.out _ _ _ _ _).mono ?_;rintro zz w49 ⟨rfl,bb50⟩;have q51:=q41.l bb50;have r52:=r42.l bb50;have r53:=r43.l bb50;have r54:=r44.l bb50;have r55:=r45.l bb50;have r56:=r46.l bb50;have r57:=r47.l bb50;have r58:=r1x39.l bb50;have r59:=r2x40.l bb50;have b60:=aa b48 bb50;clear q41 r42 r43 r44 r45 r46 r47 r1x39 r2x40 b48 bb50 H5
 go_wp2_with fail
 refine(H6.out _ b60).mono ?_;rintro zz w61 ⟨v1x63,v2x64,rfl,r1x65,r2x66,bb62⟩;have q67:=q51.l bb62;have r68:=r52.l bb62;have r69:=r53.l bb62;have r70:=r54.l bb62;have r71:=r55.l bb62;have r72:=r56.l bb62;have r73:=r57.l bb62;have r74:=r58.l bb62;have r75:=r59.l bb62;have b76:=aa b60 bb62;obtain⟨ro,rc,hv⟩:=r1x65.shape;subst hv;obtain⟨so,sc,hv⟩:=r2x66.shape;subst hv;clear q51 r52 r53 r54 r55 r56 r57 r58 r59 b60 bb62 H6
 go_wp2_with fail
 refine(H7.out _ _ _ _ _).mono ?_;rintro zz w77 ⟨rfl,bb78⟩;have q79:=q67.l bb78;have r80:=r68.l bb78;have r81:=r69.l bb78;have r82:=r70.l bb78;have r83:=r71.l bb78;have r84:=r72.l bb78;have r85:=r73.l bb78;have r86:=r74.l bb78;have r87:=r75.l bb78;have r88:=r1x65.l bb78;have r89:=r2x66.l bb78;have b90:=aa b76 bb78;clear q67 r68 r69 r70 r71 r72 r73 r74 r75 r1x65 r2x66 b76 bb78 H7;obtain⟨W93,hW92,q94,q95,q96,al91⟩:=lG w77 [.bool m.s,yT mo m.n mc,yi m.e,.bool n.s,yT no n.n nc,yi n.e] 57 [.bool p.s,yT po p.n pc,yi pe,.bool q.s,yT qo q.n qc,yi qe] 57 [.bool r.s,yT ro r.n rc,yi re,.bool s.s,yT so s.n sc,yi se] 57;replace hW92:Hid _:=hW92;have hl97:w.heap.size≤w77.heap.size:=b90.size;have hl98:=q79.lt;have q99:=q79.l al91;have r100:=r80.l al91;have r101:=r81.l al91;have r102:=r82.l al91;have r103:=r83.l al91;have r104:=r84.l al91;have r105:=r85.l al91;have r106:=r86.l al91;have r107:=r87.l al91;have r108:=r88.l al91;have r109:=r89.l al91;have b110:=aa b90 al91;clear q79 r80 r81 r82 r83 r84 r85 r86 r87 r88 r89 b90 al91
 go_upto_region 2 with fail
 rw[hW92.out];clear hW92
 go_upto_region 2 with fail
 have bW111:yB W93 W93.drew:=(Below.refl _ _).drew;have q112:=q99.l bW111;have q113:=q94.l bW111;have q114:=q95.l bW111;have q115:=q96.l bW111;have r116:=r100.l bW111;have r117:=r101.l bW111;have r118:=r102.l bW111;have r119:=r103.l bW111;have r120:=r104.l bW111;have r121:=r105.l bW111;have r122:=r106.l bW111;have r123:=r107.l bW111;have r124:=r108.l bW111;have r125:=r109.l bW111;have b126:=aa b110 bW111;clear q99 q94 q95 q96 r100 r101 r102 r103 r104 r105 r106 r107 r108 r109 b110 bW111;refine wp_region_held_drew (S:=fun wq=>au wq w77.heap.size 57 [.bool m.s,yT mo m.n mc,yi m.e,.bool n.s,yT no n.n nc,yi n.e]∧au wq (w77.heap.size+1) 57 [.bool p.s,yT po p.n pc,yi pe,.bool q.s,yT qo q.n qc,yi qe]∧au wq (w77.heap.size+1+1) 57 [.bool r.s,yT ro r.n rc,yi re,.bool s.s,yT so s.n sc,yi se]) (by kernel_rfl) ⟨q113,q114,q115⟩ (fun hS0=> ?_)
 generalize W93.drew=WD127 at q112 q113 q114 q115 r116 r117 r118 r119 r120 r121 r122 r123 r124 r125 b126 hS0⊢;refine tq 0 (.agg #[.bool m.s,yT mo m.n mc,yi m.e,.bool n.s,yT no n.n nc,yi n.e]) rfl (fun _ hw0=>fy 57 (.tmp 3) rfl w77.heap.size 0 (by kernel_rfl) _ _ hw0.1.range underlying57 rfl (by kernel_rfl)) hS0 ?_
 refine tq 1 (.agg #[.bool p.s,yT po p.n pc,yi pe,.bool q.s,yT qo q.n qc,yi qe]) rfl (fun _ hw0=>fy 57 (.tmp 4) rfl (w77.heap.size+1) 0 (by kernel_rfl) _ _ hw0.2.1.range underlying57 rfl (by kernel_rfl)) hS0 ?_
 refine tq 3 (.agg #[.bool r.s,yT ro r.n rc,yi re,.bool s.s,yT so s.n sc,yi se]) rfl (fun _ hw0=>fy 57 (.tmp 5) rfl (w77.heap.size+1+1) 0 (by kernel_rfl) _ _ hw0.2.2.range underlying57 rfl (by kernel_rfl)) hS0 ?_
 refine wpAnyH_ready (rs:=[2]) (by kernel_rfl) (by simp) ?_;refine AllReadyH.cons rfl (fun K hK=> ?_) AllReadyH.nil
 go_simp
 refine(H8.out _ _ _ _ _ _ _ _ _ b126 r120 r121 r122 r123).mono ?_;rintro zz w128 ⟨v1x130,v2x131,rfl,r1x132,r2x133,bb129⟩;have q134:=q112.l bb129;have q135:=q113.l bb129;have q136:=q114.l bb129;have q137:=q115.l bb129;have r138:=r116.l bb129;have r139:=r117.l bb129;have r140:=r118.l bb129;have r141:=r119.l bb129;have r142:=r120.l bb129;have r143:=r121.l bb129;have r144:=r122.l bb129;have r145:=r123.l bb129;have r146:=r124.l bb129;have r147:=r125.l bb129;have b148:=aa b126 bb129;obtain⟨uo,uc,hv⟩:=r1x132.shape;subst hv;obtain⟨vo,vc,hv⟩:=r2x133.shape;subst hv;clear q112 q113 q114 q115 r116 r117 r118 r119 r120 r121 r122 r123 r124 r125 b126 bb129 H8;refine hK.out _ _ ⟨q135,q136,q137⟩ (fun hS149=> ?_)
 clear hK K;refine wpAnyH_ready (rs:=[4]) (by kernel_rfl) (by simp) ?_;refine AllReadyH.cons rfl (fun K hK=> ?_) AllReadyH.nil
 go_simp
 refine(H9.out _ _ _ _ _ _ _ _ _ b148 r1x132 r2x133 r146 r147).mono ?_;rintro zz w150 ⟨v1x152,v2x153,rfl,r1x154,r2x155,bb151⟩;have q156:=q134.l bb151;have q157:=q135.l bb151;have q158:=q136.l bb151;have q159:=q137.l bb151;have r160:=r138.l bb151;have r161:=r139.l bb151;have r162:=r140.l bb151;have r163:=r141.l bb151;have r164:=r142.l bb151;have r165:=r143.l bb151;have r166:=r144.l bb151;have r167:=r145.l bb151;have r168:=r146.l bb151;have r169:=r147.l bb151;have r170:=r1x132.l bb151;have r171:=r2x133.l bb151;have b172:=aa b148 bb151;obtain⟨xo,xc,hv⟩:=r1x154.shape;subst hv;obtain⟨yo,yc,hv⟩:=r2x155.shape;subst hv;clear q134 q135 q136 q137 r138 r139 r140 r141 r142 r143 r144 r145 r146 r147 r1x132 r2x133 b148 bb151 H9;refine hK.out _ _ ⟨q157,q158,q159⟩ (fun hS173=> ?_)
 clear hK K;refine wpAnyH_ready (rs:=[5]) (by kernel_rfl) (by simp) ?_;refine AllReadyH.cons rfl (fun K hK=> ?_) AllReadyH.nil
 have bu:But w.heap.size w150 (w150.setCells w.heap.size 0 [.bool x.s,yT xo x.n xc,yi x.e,.bool y.s,yT yo y.n yc,yi y.e]):=de _ _ _ _;have hth:w150.there w.heap.size 0 6:=dD q156;have q174:au (w150.setCells w.heap.size 0 [.bool x.s,yT xo x.n xc,yi x.e,.bool y.s,yT yo y.n yc,yi y.e]) w.heap.size 57 [.bool x.s,yT xo x.n xc,yi x.e,.bool y.s,yT yo y.n yc,yi y.e]:=q156.sets _ rfl;have r175:=bu.rd r160 (aX r160 q156 (by simp));have r176:=bu.rd r161 (aX r161 q156 (by simp));have r177:=bu.rd r162 (aX r162 q156 (by simp));have r178:=bu.rd r163 (aX r163 q156 (by simp));have r179:=bu.rd r164 (aX r164 q156 (by simp));have r180:=bu.rd r165 (aX r165 q156 (by simp));have r181:=bu.rd r166 (aX r166 q156 (by simp));have r182:=bu.rd r167 (aX r167 q156 (by simp));have r183:=bu.rd r168 (aX r168 q156 (by simp));have r184:=bu.rd r169 (aX r169 q156 (by simp));have r185:=bu.rd r170 (aX r170 q156 (by simp));have r186:=bu.rd r171 (aX r171 q156 (by simp));have r187:=bu.rd r1x154 (aX r1x154 q156 (by simp));have r188:=bu.rd r2x155 (aX r2x155 q156 (by simp));have q189:=bu.loc q157 (by omega);have q190:=bu.loc q158 (by omega);have q191:=bu.loc q159 (by omega);have b192:=bu.below b172 (by omega);rw[if_pos (by kernel_rfl)];refine wp_store_mid 57 (.tmp 2) (.tmp 20) rfl w.heap.size 0 #[.bool x.s,yT xo x.n xc,yi x.e,.bool y.s,yT yo y.n yc,yi y.e] (by kernel_rfl) (by kernel_rfl) hth (by kernel_rfl) (by simp[Value.oneCell']) ?_;refine hK.out _ _ ⟨q189,q190,q191⟩ (fun hS193=> ?_)
 clear hK K;clear q156 r160 r161 r162 r163 r164 r165 r166 r167 r168 r169 r170 r171 r1x154 r2x155 q157 q158 q159 b172 bu hth;refine wpAnyH_done (by kernel_rfl) ?_ _;clear hS0 hS149 hS173 hS193;change Exit.then _ _ _ _ (World.setCells w150 w.heap.size 0 [.bool x.s,yT xo x.n xc,yi x.e,.bool y.s,yT yo y.n yc,yi y.e]);generalize World.setCells w150 w.heap.size 0 [.bool x.s,yT xo x.n xc,yi x.e,.bool y.s,yT yo y.n yc,yi y.e]=W194 at q174 q189 q190 q191 r175 r176 r177 r178 r179 r180 r181 r182 r183 r184 r185 r186 r187 r188 b192⊢;simp only[Act.put,List.getElem_toArray,List.getElem_cons_succ,List.getElem_cons_zero];have hl:=run_loadVar_mid (P:=Tryz.prog) _ (w.heap.size) 0 57 [.bool x.s,yT xo x.n xc,yi x.e,.bool y.s,yT yo y.n yc,yi y.e] _ q174.range underlying57 rfl (by kernel_rfl)
 go_wp2
 exact bodyPost_ret (br results48 rfl hl) rfl ⟨_,_,rfl,r187,r188,b192⟩
end Go.Proofs.YtiakgfmlpdfhdaaGreatDoor
