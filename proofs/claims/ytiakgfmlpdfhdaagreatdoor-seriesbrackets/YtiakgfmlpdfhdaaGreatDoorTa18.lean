/-
  Texts laid together: Dz, Co7, Co13, Dy7, Dy8, Dl8, Bm2, Bl26, Sr2, Br1.
-/
import Derived.Test.YtiakgfmlpdfhdaaGreatDoorTa05
import Derived.Test.YtiakgfmlpdfhdaaGreatDoorTa08
import Derived.Test.YtiakgfmlpdfhdaaGreatDoorTa09
import Derived.Test.YtiakgfmlpdfhdaaGreatDoorTa10
set_option maxRecDepth 100000
set_option maxHeartbeats 3200000
namespace Go.Proofs.YtiakgfmlpdfhdaaGreatDoor
open _root_.Go.Proofs.Tryz
open Go.RowKit
theorem iH (a:ak):bare (bare a)=bare a:=by
 have h1: -((a.e.natAbs:Nat):Int)≤a.e:=by omega
 exact fH (eL h1) h1 (dw h1)
def Bg (zs:List Nat):List Nat:=(List.range zs.length).map fun i=>zs.getD (i+1-2*(i % 2)) 0
def jT (k:Nat)(zs:List Nat):List Nat:=if k=3 then zs.reverse else if 6≤k then Bg zs else zs
theorem jw {w:World}{s:Bool}{ao:Option Addr}{ca:Nat}{xs:List Nat}{e:Int}(hr:Rd w .u32 (.slice ao xs.length ca) xs)(sa:Dg.Small 4294967296 xs)(hn:Dg.Norm xs):
  Dv w (ydV s (.slice ao xs.length ca) e) ⟨s,Dg.vl 4294967296 xs,e⟩:=by
 have h:=Dg.eq_dg 4294967296 (by omega) xs _ sa hn rfl;refine⟨_,rfl, ?_⟩;simp only;rw[←h];exact hr
theorem gl (s:Bool)(ao:Option Addr)(ca:Nat)(xs:List Nat)(e:Int)(w:World)(hr:Rd w .u32 (.slice ao xs.length ca) xs):
  yC 46 #[ydV s (.slice ao xs.length ca) e] w (yR w (yi (aS xs e))):=by
 have bA:=af w (.cells (ydA s (.slice ao xs.length ca) e) 25);have hk:=fP _ xs _ (hr.l bA);unfold aS;obtain⟨c,hc⟩: ∃c,chk xs=c:=⟨_,rfl⟩;rw[hc] at hk⊢;clear hc hr
 by_cases h:c=0
 ·subst h
  rw[if_pos rfl]
  by_cases h1:e< -20000
  ·rw[if_pos (Or.inl h1)]
   go_enter func46,ntmps46
   go_wp2_with fail
   refine hk.mono ?_;rintro z w' ⟨rfl,rfl⟩;clear hk
   go_wp2
   go_ret
   exact⟨rfl,bA⟩
  ·by_cases h2:20000<e
   ·rw[if_pos (Or.inr h2)]
    go_enter func46,ntmps46
    go_wp2_with fail
    refine hk.mono ?_;rintro z w' ⟨rfl,rfl⟩;clear hk
    go_wp2
    go_ret
    exact⟨rfl,bA⟩
   ·rw[if_neg (by omega)]
    go_enter func46,ntmps46
    go_wp2_with fail
    refine hk.mono ?_;rintro z w' ⟨rfl,rfl⟩;clear hk
    go_wp2
    go_ret
    exact⟨rfl,bA⟩
 ·rw[if_neg h]
  have h0:(c==0)=false:=by simp[h]
  go_enter func46,ntmps46
  go_wp2_with fail
  refine hk.mono ?_;rintro z w' ⟨rfl,rfl⟩;clear hk
  go_wp2
  go_ret
  exact⟨rfl,bA⟩
theorem lP (A B:ak):dJ (bare (cO (bare A) (dB (bare B))))=dJ (aG A (dV B)):=by
 have h1: -((A.e.natAbs+B.e.natAbs:Nat):Int)≤A.e:=by omega
 have h2: -((A.e.natAbs+B.e.natAbs:Nat):Int)≤B.e:=by omega
 have h3: -((A.e.natAbs+B.e.natAbs:Nat):Int)≤(dB (bare B)).e:=eL h2;rw[acR (A.e.natAbs+B.e.natAbs),dw (zy (eL h1) h3),zx (eL h1) h3,EI,dw h1,dw h2,CB]
 congr 1
theorem tM (a b:ak):bJ (bare a) (bare b)=bJ a b:=by
 have k0: -((a.e.natAbs+b.e.natAbs:Nat):Int)≤a.e:=by omega
 have k1: -((a.e.natAbs+b.e.natAbs:Nat):Int)≤b.e:=by omega
 rw[oY k0 k1,oY (eL k0) (eL k1),dw k0,dw k1]
theorem OL {a b:ak}(ha: ∃y,a=bare y)(hb: ∃y,b=bare y):dJ (bare (cO a (dB b)))=bJ a b:=by
 obtain⟨y,rfl⟩:=ha;obtain⟨z,rfl⟩:=hb;rw[tM];exact lP y z
theorem cmp_le {K:Nat}{a b:ak}(ha: ∃y,a=bare y)(hb: ∃y,b=bare y)(ea: -(K:Int)≤a.e)(eb: -(K:Int)≤b.e):(V K a≤V K b→dJ (bare (cO a (dB b)))≤0)∧(V K a<V K b→dJ (bare (cO a (dB b)))<0):=by
 rw[OL ha hb,oY ea eb];unfold sgn;refine⟨fun h=> ?_,fun h=> ?_⟩
 ·split
  ·omega
  ·rw[if_pos (by omega)];omega
 ·rw[if_neg (by omega),if_pos (by omega)]
  omega
theorem signs_W (a b:ak)(ao bo:Option Addr)(ac bc:Nat)(s1 s2 pr:Int)(B:Bool)(w:World)(hp:IntKind.i64.wrap (s1*s2)=pr)(hB:decide (0<pr)=B)
  (H1:yH w 74 #[yDV a ao ac] (yi s1))
  (H2:yH w 74 #[yDV b bo bc] (yi s2)):
  yC 43 #[.agg #[.bool a.s,yT ao a.n ac,yi a.e,.bool b.s,yT bo b.n bc,yi b.e]] w (yR w (.bool B)):=by
 replace H1:Hid _:=H1;replace H2:Hid _:=H2;obtain⟨W3,hW4,q1,b2⟩:=cA w [.bool a.s,yT ao a.n ac,yi a.e,.bool b.s,yT bo b.n bc,yi b.e] 57;replace hW4:Hid _:=hW4
 go_enter func43,ntmps43
 go_upto_region 1 with fail
 rw[hW4.out];clear hW4
 go_upto_region 1 with fail
 have bW5:yB W3 W3.drew:=(Below.refl _ _).drew;have q6:=q1.l bW5;have b7:=aa b2 bW5;clear q1 b2 bW5;refine wp_region_held_drew (S:=fun wq=>au wq w.heap.size 57 [.bool a.s,yT ao a.n ac,yi a.e,.bool b.s,yT bo b.n bc,yi b.e]) (by kernel_rfl) q6 (fun hS0=> ?_)
 generalize W3.drew=WD8 at q6 b7 hS0⊢;refine tq 0 (.pointer (some ⟨w.heap.size,0,none⟩)) rfl (fun _ _=>by kernel_rfl) hS0 ?_
 refine tq 1 (yDV a ao ac) rfl (fun _ hw0=>fy 54 (.tmp 3) rfl w.heap.size 0 (by kernel_rfl) _ _ (kY hw0 0 3 rfl) underlying54 rfl (by kernel_rfl)) hS0 ?_
 refine tq 3 (.pointer (some ⟨w.heap.size,3,none⟩)) rfl (fun _ _=>by kernel_rfl) hS0 ?_
 refine tq 4 (yDV b bo bc) rfl (fun _ hw0=>fy 54 (.tmp 6) rfl w.heap.size 3 (by kernel_rfl) _ _ (kY hw0 3 3 rfl) underlying54 rfl (by kernel_rfl)) hS0 ?_
 refine wpAnyH_ready (rs:=[2]) (by kernel_rfl) (by simp) ?_;refine AllReadyH.cons rfl (fun K hK=> ?_) AllReadyH.nil
 go_simp
 refine(H1.out _ b7).mono ?_;rintro zz w9 ⟨rfl,bb10⟩;have q11:=q6.l bb10;have b12:=aa b7 bb10;clear q6 b7 bb10 H1;refine hK.out _ _ q11 (fun hS13=> ?_)
 clear hK K;refine wpAnyH_ready (rs:=[5]) (by kernel_rfl) (by simp) ?_;refine AllReadyH.cons rfl (fun K hK=> ?_) AllReadyH.nil
 go_simp
 refine(H2.out _ b12).mono ?_;rintro zz w14 ⟨rfl,bb15⟩;have q16:=q11.l bb15;have b17:=aa b12 bb15;clear q11 b12 bb15 H2;refine hK.out _ _ q16 (fun hS18=> ?_)
 clear hK K;refine tq 6 (yi pr) rfl (fun _ _=>by go_simp) hS18 ?_
 refine tq 7 (.bool B) rfl (fun _ _=>by go_simp) hS18 ?_
 refine tq 8 (.bool B) rfl (fun _ _=>by kernel_rfl) hS18 ?_
 refine wpAnyH_done (by kernel_rfl) ?_ _;clear hS0 hS13 hS18;simp only[Act.put,List.getElem_toArray,List.getElem_cons_succ,List.getElem_cons_zero,List.setIfInBounds_toArray,List.set_cons_zero,List.set_cons_succ]
 go_wp2
 go_ret
 exact⟨by rfl,b17⟩
theorem same_no (a b:ak)(ao bo:Option Addr)(ac bc:Nat)(m:Int)(w:World)
  (HG:yH w 43 #[.agg #[.bool a.s,yT ao a.n ac,yi a.e,.bool b.s,yT bo b.n bc,yi b.e]] (.bool false)):
  yC 25 #[.agg #[.bool a.s,yT ao a.n ac,yi a.e,.bool b.s,yT bo b.n bc,yi b.e],yi m] w (yR w (.bool false)):=by
 replace HG:Hid _:=HG;obtain⟨W3,hW4,q1,b2⟩:=cA w [.bool a.s,yT ao a.n ac,yi a.e,.bool b.s,yT bo b.n bc,yi b.e] 57;replace hW4:Hid _:=hW4
 go_enter func25,ntmps25
 go_upto_region 1 with fail
 rw[hW4.out];clear hW4
 go_upto_region 1 with fail
 have bW5:yB W3 W3.drew:=(Below.refl _ _).drew;have q6:=q1.l bW5;have b7:=aa b2 bW5;clear q1 b2 bW5;refine wp_region_held_drew (S:=fun wq=>au wq w.heap.size 57 [.bool a.s,yT ao a.n ac,yi a.e,.bool b.s,yT bo b.n bc,yi b.e]) (by kernel_rfl) q6 (fun hS0=> ?_)
 generalize W3.drew=WD8 at q6 b7 hS0⊢;refine tq 0 (.agg #[.bool a.s,yT ao a.n ac,yi a.e,.bool b.s,yT bo b.n bc,yi b.e]) rfl (fun _ hw0=>fy 57 (.tmp 2) rfl w.heap.size 0 (by kernel_rfl) _ _ hw0.range underlying57 rfl (by kernel_rfl)) hS0 ?_
 refine wpAnyH_ready (rs:=[1]) (by kernel_rfl) (by simp) ?_;refine AllReadyH.cons rfl (fun K hK=> ?_) AllReadyH.nil
 go_simp
 refine(HG.out _ b7).mono ?_;rintro zz w9 ⟨rfl,bb10⟩;have q11:=q6.l bb10;have b12:=aa b7 bb10;clear q6 b7 bb10 HG;refine hK.out _ _ q11 (fun hS13=> ?_)
 clear hK K;refine tq 2 (.bool false) rfl (fun _ _=>by kernel_rfl) hS13 ?_
 refine wpAnyH_take (i:=3) (v:=undef) rfl (by kernel_rfl) (by kernel_rfl) (by kernel_rfl) (fun _ _ _ h=>h) (Or.inr ⟨by kernel_rfl,rfl⟩) hS13 ?_
 refine wpAnyH_take (i:=4) (v:=undef) rfl (by kernel_rfl) (by kernel_rfl) (by kernel_rfl) (fun _ _ _ h=>h) (Or.inr ⟨by kernel_rfl,rfl⟩) hS13 ?_
 refine wpAnyH_take (i:=5) (v:=undef) rfl (by kernel_rfl) (by kernel_rfl) (by kernel_rfl) (fun _ _ _ h=>h) (Or.inr ⟨by kernel_rfl,rfl⟩) hS13 ?_
 refine wpAnyH_take (i:=6) (v:=undef) rfl (by kernel_rfl) (by kernel_rfl) (by kernel_rfl) (fun _ _ _ h=>h) (Or.inr ⟨by kernel_rfl,rfl⟩) hS13 ?_
 refine wpAnyH_take (i:=7) (v:=undef) rfl (by kernel_rfl) (by kernel_rfl) (by kernel_rfl) (fun _ _ _ h=>h) (Or.inr ⟨by kernel_rfl,rfl⟩) hS13 ?_
 refine wpAnyH_take (i:=8) (v:=undef) rfl (by kernel_rfl) (by kernel_rfl) (by kernel_rfl) (fun _ _ _ h=>h) (Or.inr ⟨by kernel_rfl,rfl⟩) hS13 ?_
 refine wpAnyH_take (i:=9) (v:=undef) rfl (by kernel_rfl) (by kernel_rfl) (by kernel_rfl) (fun _ _ _ h=>h) (Or.inr ⟨by kernel_rfl,rfl⟩) hS13 ?_
 refine wpAnyH_take (i:=10) (v:=undef) rfl (by kernel_rfl) (by kernel_rfl) (by kernel_rfl) (fun _ _ _ h=>h) (Or.inr ⟨by kernel_rfl,rfl⟩) hS13 ?_
 refine wpAnyH_take (i:=11) (v:=undef) rfl (by kernel_rfl) (by kernel_rfl) (by kernel_rfl) (fun _ _ _ h=>h) (Or.inr ⟨by kernel_rfl,rfl⟩) hS13 ?_
 refine wpAnyH_take (i:=12) (v:=undef) rfl (by kernel_rfl) (by kernel_rfl) (by kernel_rfl) (fun _ _ _ h=>h) (Or.inr ⟨by kernel_rfl,rfl⟩) hS13 ?_
 refine wpAnyH_take (i:=13) (v:=undef) rfl (by kernel_rfl) (by kernel_rfl) (by kernel_rfl) (fun _ _ _ h=>h) (Or.inr ⟨by kernel_rfl,rfl⟩) hS13 ?_
 refine wpAnyH_take (i:=14) (v:=undef) rfl (by kernel_rfl) (by kernel_rfl) (by kernel_rfl) (fun _ _ _ h=>h) (Or.inr ⟨by kernel_rfl,rfl⟩) hS13 ?_
 refine wpAnyH_take (i:=15) (v:=undef) rfl (by kernel_rfl) (by kernel_rfl) (by kernel_rfl) (fun _ _ _ h=>h) (Or.inr ⟨by kernel_rfl,rfl⟩) hS13 ?_
 refine wpAnyH_take (i:=16) (v:=undef) rfl (by kernel_rfl) (by kernel_rfl) (by kernel_rfl) (fun _ _ _ h=>h) (Or.inr ⟨by kernel_rfl,rfl⟩) hS13 ?_
 refine wpAnyH_take (i:=17) (v:=undef) rfl (by kernel_rfl) (by kernel_rfl) (by kernel_rfl) (fun _ _ _ h=>h) (Or.inr ⟨by kernel_rfl,rfl⟩) hS13 ?_
 refine wpAnyH_take (i:=18) (v:=undef) rfl (by kernel_rfl) (by kernel_rfl) (by kernel_rfl) (fun _ _ _ h=>h) (Or.inr ⟨by kernel_rfl,rfl⟩) hS13 ?_
 refine wpAnyH_take (i:=19) (v:=undef) rfl (by kernel_rfl) (by kernel_rfl) (by kernel_rfl) (fun _ _ _ h=>h) (Or.inr ⟨by kernel_rfl,rfl⟩) hS13 ?_
 refine wpAnyH_take (i:=20) (v:=undef) rfl (by kernel_rfl) (by kernel_rfl) (by kernel_rfl) (fun _ _ _ h=>h) (Or.inr ⟨by kernel_rfl,rfl⟩) hS13 ?_
 refine tq 21 (.bool false) rfl (fun _ _=>by kernel_rfl) hS13 ?_
 refine tq 22 (.bool false) rfl (fun _ _=>by kernel_rfl) hS13 ?_
 refine wpAnyH_done (by kernel_rfl) ?_ _;clear hS0 hS13;simp only[Act.put,List.getElem_toArray,List.getElem_cons_succ,List.getElem_cons_zero,List.setIfInBounds_toArray,List.set_cons_zero,List.set_cons_succ]
 go_wp2
 go_ret
 exact⟨by rfl,b12⟩
theorem bracket_ok (sa sb:Bool)(ao bo:Option Addr)(la lb ac bc:Nat)(ea eb:Int)(m n:Int)(w:World)(hm1: ¬m<1)(hm: ¬4096<m)
  (HK:yH w 21 #[.agg #[.bool sa,.slice ao la ac,yi ea,.bool sb,.slice bo lb bc,yi eb]] (yi 0))
  (HO1:yH w 22 #[ydV sa (.slice ao la ac) ea] (ydV sa (.slice ao la ac) ea))
  (HO2:yH w 22 #[ydV sb (.slice bo lb bc) eb] (ydV sb (.slice bo lb bc) eb))
  (HS: ∀q w1,yB w w1→w1.rangeAt q 0 [.bool sa,.slice ao la ac,yi ea,.bool sb,.slice bo lb bc,yi eb]→yC 23 #[yi m,.func (.func 24) #[] #[.pointer (some ⟨q,0,none⟩)]] w1 (yR w1 (yi n))):
  yC 5 #[.agg #[.bool sa,.slice ao la ac,yi ea,.bool sb,.slice bo lb bc,yi eb],yi m] w (yR w (.tuple #[yi n,.bool (decide (0<n)),yi 0])):=by
 replace HK:Hid _:=HK;replace HO1:Hid _:=HO1;replace HO2:Hid _:=HO2;replace HS:Hid _:=HS;obtain⟨W3,hW4,q1,b2⟩:=cA w [.bool sa,.slice ao la ac,yi ea,.bool sb,.slice bo lb bc,yi eb] 27;replace hW4:Hid _:=hW4
 go_enter func5,ntmps5
 go_upto_region 1 with fail
 rw[hW4.out];clear hW4;obtain⟨c5,c6,c7,c8,c9,c10⟩:=q1.cs6
 go_wp2_with fail
 refine(HK.out _ b2).mono ?_;rintro zz w11 ⟨rfl,bb12⟩;have q13:=q1.l bb12;have b14:=aa b2 bb12;clear q1 b2 bb12 HK c5 c6 c7 c8 c9 c10
 go_upto_region 6 with fail
 have bW15:yB w11 w11.drew:=(Below.refl _ _).drew;have q16:=q13.l bW15;have b17:=aa b14 bW15;clear q13 b14 bW15;refine wp_region_held_drew (S:=fun wq=>au wq w.heap.size 27 [.bool sa,.slice ao la ac,yi ea,.bool sb,.slice bo lb bc,yi eb]) (by kernel_rfl) q16 (fun hS0=> ?_)
 generalize w11.drew=WD18 at q16 b17 hS0⊢;refine tq 0 (.pointer (some ⟨w.heap.size,0,none⟩)) rfl (fun _ _=>by kernel_rfl) hS0 ?_
 refine tq 1 (ydV sa (.slice ao la ac) ea) rfl (fun _ hw0=>fy 25 (.tmp 21) rfl w.heap.size 0 (by kernel_rfl) _ _ (kY hw0 0 3 rfl) underlying25 rfl (by kernel_rfl)) hS0 ?_
 refine tq 3 (.pointer (some ⟨w.heap.size,3,none⟩)) rfl (fun _ _=>by kernel_rfl) hS0 ?_
 refine tq 4 (ydV sb (.slice bo lb bc) eb) rfl (fun _ hw0=>fy 25 (.tmp 24) rfl w.heap.size 3 (by kernel_rfl) _ _ (kY hw0 3 3 rfl) underlying25 rfl (by kernel_rfl)) hS0 ?_
 refine wpAnyH_ready (rs:=[2,7]) (by kernel_rfl) (by simp) ?_;refine AllReadyH.cons rfl (fun K hK=> ?_) (AllReadyH.cons rfl (fun K hK=> ?_) AllReadyH.nil)
 ·go_simp
  refine(HO1.out _ b17).mono ?_;rintro zz w19 ⟨rfl,bb20⟩;have q21:=q16.l bb20;have b22:=aa b17 bb20;clear q16 b17 bb20 HO1;refine hK.out _ _ q21 (fun hS23=> ?_)
  clear hK K;refine wpAnyH_ready (rs:=[5,7]) (by kernel_rfl) (by simp) ?_;refine AllReadyH.cons rfl (fun K hK=> ?_) (AllReadyH.cons rfl (fun K hK=> ?_) AllReadyH.nil)
  ·go_simp
   refine(HO2.out _ b22).mono ?_;rintro zz w24 ⟨rfl,bb25⟩;have q26:=q21.l bb25;have b27:=aa b22 bb25;clear q21 b22 bb25 HO2;refine hK.out _ _ q26 (fun hS28=> ?_)
   clear hK K;refine tq 6 (.agg #[.bool sa,.slice ao la ac,yi ea,.bool sb,.slice bo lb bc,yi eb]) rfl (fun _ _=>by kernel_rfl) hS28 ?_
   refine wpAnyH_ready (rs:=[7]) (by kernel_rfl) (by simp) ?_;refine AllReadyH.cons rfl (fun K hK=> ?_) AllReadyH.nil
   go_simp
   have al29:=af w24 (.cells #[.bool false,yN,yi 0,.bool false,yN,yi 0] 57);have q30:=ah w24 [.bool false,yN,yi 0,.bool false,yN,yi 0] 57;have hl33:w.heap.size≤w24.heap.size:=b27.size;have hl34:=q26.lt;have q35:=q26.l al29;have b36:=aa b27 al29;refine hK.out _ _ q35 (fun hS37=> ?_)
   clear hK K;clear q26 b27 al29;generalize w24.alloc (.cells #[.bool false,yN,yi 0,.bool false,yN,yi 0] 57)=WN31 at q35 q30 b36 hS37⊢;generalize w24.heap.size=PQ32 at q30 hl33 hl34⊢;refine wpAnyH_ready (rs:=[8]) (by kernel_rfl) (by simp) ?_;refine AllReadyH.cons rfl (fun K hK=> ?_) AllReadyH.nil
   have bu:But PQ32 WN31 (WN31.setCells PQ32 0 [.bool sa,.slice ao la ac,yi ea,.bool sb,.slice bo lb bc,yi eb]):=de _ _ _ _;have hth:WN31.there PQ32 0 6:=dD q30;have q38:au (WN31.setCells PQ32 0 [.bool sa,.slice ao la ac,yi ea,.bool sb,.slice bo lb bc,yi eb]) PQ32 57 [.bool sa,.slice ao la ac,yi ea,.bool sb,.slice bo lb bc,yi eb]:=q30.sets _ rfl;have q39:=bu.loc q35 (by omega);have b40:=bu.below b36 (by omega);rw[if_pos (by kernel_rfl)];refine wp_store_mid 57 (.tmp 8) (.tmp 27) rfl PQ32 0 #[.bool sa,.slice ao la ac,yi ea,.bool sb,.slice bo lb bc,yi eb] (by kernel_rfl) (by kernel_rfl) hth (by kernel_rfl) (by simp[Value.oneCell']) ?_;refine hK.out _ _ q39 (fun hS41=> ?_)
   clear hK K;clear q30 q35 b36 bu hth;refine wpAnyH_done (by kernel_rfl) ?_ _;clear hS0 hS23 hS28 hS37 hS41;change Exit.then _ _ _ _ (World.setCells WN31 PQ32 0 [.bool sa,.slice ao la ac,yi ea,.bool sb,.slice bo lb bc,yi eb]);generalize World.setCells WN31 PQ32 0 [.bool sa,.slice ao la ac,yi ea,.bool sb,.slice bo lb bc,yi eb]=W42 at q39 q38 b40⊢;simp only[Act.put,List.getElem_toArray,List.getElem_cons_succ,List.getElem_cons_zero]
   go_wp2_with fail
   refine(HS.out _ _ b40 q38.range).mono ?_;rintro zz w43 ⟨rfl,bb44⟩;have b45:=aa b40 bb44;clear q39 q38 b40 bb44 HS
   go_wp2
   go_ret3
   exact⟨rfl,b45⟩
  ·go_simp
   have al24:=af w19 (.cells #[.bool false,yN,yi 0,.bool false,yN,yi 0] 57);have q25:=ah w19 [.bool false,yN,yi 0,.bool false,yN,yi 0] 57;have hl28:w.heap.size≤w19.heap.size:=b22.size;have hl29:=q21.lt;have q30:=q21.l al24;have b31:=aa b22 al24;refine hK.out _ _ q30 (fun hS32=> ?_)
   clear hK K;clear q21 b22 al24;generalize w19.alloc (.cells #[.bool false,yN,yi 0,.bool false,yN,yi 0] 57)=WN26 at q30 q25 b31 hS32⊢;generalize w19.heap.size=PQ27 at q25 hl28 hl29⊢;refine wpAnyH_ready (rs:=[5]) (by kernel_rfl) (by simp) ?_;refine AllReadyH.cons rfl (fun K hK=> ?_) AllReadyH.nil
   go_simp
   refine(HO2.out _ b31).mono ?_;rintro zz w33 ⟨rfl,bb34⟩;have q35:=q30.l bb34;have q36:=q25.l bb34;have b37:=aa b31 bb34;clear q30 q25 b31 bb34 HO2;refine hK.out _ _ q35 (fun hS38=> ?_)
   clear hK K;refine tq 6 (.agg #[.bool sa,.slice ao la ac,yi ea,.bool sb,.slice bo lb bc,yi eb]) rfl (fun _ _=>by kernel_rfl) hS38 ?_
   refine wpAnyH_ready (rs:=[8]) (by kernel_rfl) (by simp) ?_;refine AllReadyH.cons rfl (fun K hK=> ?_) AllReadyH.nil
   have bu:But PQ27 w33 (w33.setCells PQ27 0 [.bool sa,.slice ao la ac,yi ea,.bool sb,.slice bo lb bc,yi eb]):=de _ _ _ _;have hth:w33.there PQ27 0 6:=dD q36;have q39:au (w33.setCells PQ27 0 [.bool sa,.slice ao la ac,yi ea,.bool sb,.slice bo lb bc,yi eb]) PQ27 57 [.bool sa,.slice ao la ac,yi ea,.bool sb,.slice bo lb bc,yi eb]:=q36.sets _ rfl;have q40:=bu.loc q35 (by omega);have b41:=bu.below b37 (by omega);rw[if_pos (by kernel_rfl)];refine wp_store_mid 57 (.tmp 8) (.tmp 27) rfl PQ27 0 #[.bool sa,.slice ao la ac,yi ea,.bool sb,.slice bo lb bc,yi eb] (by kernel_rfl) (by kernel_rfl) hth (by kernel_rfl) (by simp[Value.oneCell']) ?_;refine hK.out _ _ q40 (fun hS42=> ?_)
   clear hK K;clear q36 q35 b37 bu hth;refine wpAnyH_done (by kernel_rfl) ?_ _;clear hS0 hS23 hS32 hS38 hS42;change Exit.then _ _ _ _ (World.setCells w33 PQ27 0 [.bool sa,.slice ao la ac,yi ea,.bool sb,.slice bo lb bc,yi eb]);generalize World.setCells w33 PQ27 0 [.bool sa,.slice ao la ac,yi ea,.bool sb,.slice bo lb bc,yi eb]=W43 at q40 q39 b41⊢;simp only[Act.put,List.getElem_toArray,List.getElem_cons_succ,List.getElem_cons_zero]
   go_wp2_with fail
   refine(HS.out _ _ b41 q39.range).mono ?_;rintro zz w44 ⟨rfl,bb45⟩;have b46:=aa b41 bb45;clear q40 q39 b41 bb45 HS
   go_wp2
   go_ret3
   exact⟨rfl,b46⟩
 ·go_simp
  have al19:=af WD18 (.cells #[.bool false,yN,yi 0,.bool false,yN,yi 0] 57);have q20:=ah WD18 [.bool false,yN,yi 0,.bool false,yN,yi 0] 57;have hl23:w.heap.size≤WD18.heap.size:=b17.size;have hl24:=q16.lt;have q25:=q16.l al19;have b26:=aa b17 al19;refine hK.out _ _ q25 (fun hS27=> ?_)
  clear hK K;clear q16 b17 al19;generalize WD18.alloc (.cells #[.bool false,yN,yi 0,.bool false,yN,yi 0] 57)=WN21 at q25 q20 b26 hS27⊢;generalize WD18.heap.size=PQ22 at q20 hl23 hl24⊢;refine wpAnyH_ready (rs:=[2]) (by kernel_rfl) (by simp) ?_;refine AllReadyH.cons rfl (fun K hK=> ?_) AllReadyH.nil
  go_simp
  refine(HO1.out _ b26).mono ?_;rintro zz w28 ⟨rfl,bb29⟩;have q30:=q25.l bb29;have q31:=q20.l bb29;have b32:=aa b26 bb29;clear q25 q20 b26 bb29 HO1;refine hK.out _ _ q30 (fun hS33=> ?_)
  clear hK K;refine wpAnyH_ready (rs:=[5]) (by kernel_rfl) (by simp) ?_;refine AllReadyH.cons rfl (fun K hK=> ?_) AllReadyH.nil
  go_simp
  refine(HO2.out _ b32).mono ?_;rintro zz w34 ⟨rfl,bb35⟩;have q36:=q30.l bb35;have q37:=q31.l bb35;have b38:=aa b32 bb35;clear q30 q31 b32 bb35 HO2;refine hK.out _ _ q36 (fun hS39=> ?_)
  clear hK K;refine tq 6 (.agg #[.bool sa,.slice ao la ac,yi ea,.bool sb,.slice bo lb bc,yi eb]) rfl (fun _ _=>by kernel_rfl) hS39 ?_
  refine wpAnyH_ready (rs:=[8]) (by kernel_rfl) (by simp) ?_;refine AllReadyH.cons rfl (fun K hK=> ?_) AllReadyH.nil
  have bu:But PQ22 w34 (w34.setCells PQ22 0 [.bool sa,.slice ao la ac,yi ea,.bool sb,.slice bo lb bc,yi eb]):=de _ _ _ _;have hth:w34.there PQ22 0 6:=dD q37;have q40:au (w34.setCells PQ22 0 [.bool sa,.slice ao la ac,yi ea,.bool sb,.slice bo lb bc,yi eb]) PQ22 57 [.bool sa,.slice ao la ac,yi ea,.bool sb,.slice bo lb bc,yi eb]:=q37.sets _ rfl;have q41:=bu.loc q36 (by omega);have b42:=bu.below b38 (by omega);rw[if_pos (by kernel_rfl)];refine wp_store_mid 57 (.tmp 8) (.tmp 27) rfl PQ22 0 #[.bool sa,.slice ao la ac,yi ea,.bool sb,.slice bo lb bc,yi eb] (by kernel_rfl) (by kernel_rfl) hth (by kernel_rfl) (by simp[Value.oneCell']) ?_;refine hK.out _ _ q41 (fun hS43=> ?_)
  clear hK K;clear q37 q36 b38 bu hth;refine wpAnyH_done (by kernel_rfl) ?_ _;clear hS0 hS27 hS33 hS39 hS43;change Exit.then _ _ _ _ (World.setCells w34 PQ22 0 [.bool sa,.slice ao la ac,yi ea,.bool sb,.slice bo lb bc,yi eb]);generalize World.setCells w34 PQ22 0 [.bool sa,.slice ao la ac,yi ea,.bool sb,.slice bo lb bc,yi eb]=W44 at q41 q40 b42⊢;simp only[Act.put,List.getElem_toArray,List.getElem_cons_succ,List.getElem_cons_zero]
  go_wp2_with fail
  refine(HS.out _ _ b42 q40.range).mono ?_;rintro zz w45 ⟨rfl,bb46⟩;have b47:=aa b42 bb46;clear q41 q40 b42 bb46 HS
  go_wp2
  go_ret3
  exact⟨rfl,b47⟩
end Go.Proofs.YtiakgfmlpdfhdaaGreatDoor
