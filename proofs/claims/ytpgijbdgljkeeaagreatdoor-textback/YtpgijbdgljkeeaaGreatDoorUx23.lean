/-
  Texts laid together: Gr2, Tx7.
-/
import Derived.Test.YtpgijbdgljkeeaaGreatDoorUx20
set_option maxRecDepth 100000
set_option maxHeartbeats 3200000
namespace Go.Proofs.YtpgijbdgljkeeaaGreatDoor
open _root_.Go.Proofs.Tryz
open Go.RowKit
theorem WO (qs:Bool)(ao:Option Addr)(ca:Nat)(bo:Option Addr)(cb:Nat)(N M:Nat)(E:Int)(w:World)
  (ha:Rd w .u32 (.slice ao (Dg.dg 4294967296 N).length ca) (Dg.dg 4294967296 N)) (hb:Rd w .u32 (.slice bo (Dg.dg 4294967296 M).length cb) (Dg.dg 4294967296 M)) (hla:(Dg.dg 4294967296 N).length≤10000) (hlb:(Dg.dg 4294967296 M).length≤10000) (hM:0<M) (e1: -500000≤E) (e2:E≤500000):
  Calls Tryz.prog 168 #[.agg #[.bool qs,.slice ao (Dg.dg 4294967296 N).length ca,.slice bo (Dg.dg 4294967296 M).length cb,.int .i64 E]] w fun z w'=>z= .returned (.int .i64 (dY N M E))∧Below w.heap.size w w':=by
 have b1:=af w (.cells #[.bool qs,.slice ao (Dg.dg 4294967296 N).length ca,.slice bo (Dg.dg 4294967296 M).length cb,.int .i64 E] 25);have l1:=ah w [.bool qs,.slice ao (Dg.dg 4294967296 N).length ca,.slice bo (Dg.dg 4294967296 M).length cb,.int .i64 E] 25;have hbn:bitLen N≤32*10000:=oP hla;have hbm:bitLen M≤32*10000:=oP hlb;have HB1:Hid (∀w1,Below w.heap.size w w1→Calls Tryz.prog 96 #[.slice ao (Dg.dg 4294967296 N).length ca] w1 fun z w'=>z= .returned (.int .i64 (bitLen N:Nat))∧w'=w1):=fun w1 b=>by
  have:=kE _ _ w1 (ha.l b) (Dg.small_dg _ _ (by omega)) (Dg.norm_dg _ _ (by omega)) (by omega)
  rwa [Dg.vl_dg _ _ (by omega)] at this
 have HB2:Hid (∀w1,Below w.heap.size w w1→Calls Tryz.prog 96 #[.slice bo (Dg.dg 4294967296 M).length cb] w1 fun z w'=>z= .returned (.int .i64 (bitLen M:Nat))∧w'=w1):=fun w1 b=>by
  have:=kE _ _ w1 (hb.l b) (Dg.small_dg _ _ (by omega)) (Dg.norm_dg _ _ (by omega)) (by omega)
  rwa [Dg.vl_dg _ _ (by omega)] at this
 obtain⟨ld,hld⟩: ∃l,(bitLen N:Int)-(bitLen M:Int)=l:=⟨_,rfl⟩;have HP:Hid (∀w1,Below w.heap.size w w1→Calls Tryz.prog 169 #[.agg #[.bool qs,.slice ao (Dg.dg 4294967296 N).length ca,.slice bo (Dg.dg 4294967296 M).length cb,.int .i64 E],.int .i64 (-ld)] w1 (WH w1 (eZ N (-ld)/dX M (-ld)) (eZ N (-ld) % dX M (-ld)) (dX M (-ld)))):=fun w1 b=>
  Eh qs ao ca bo cb N M E (-ld) w1 (ha.l b) (hb.l b) (by omega) (by omega) hM (by omega) (by omega)
 unfold dY;rw[hld];obtain⟨Q,hQ⟩: ∃Q,eZ N (-ld)/dX M (-ld)=Q:=⟨_,rfl⟩;rw[hQ] at HP⊢;have hQn:=Dg.dg_nil_iff 4294967296 Q (by omega);obtain⟨T,hT⟩: ∃T,E+(ld-(if Q=0 then 1 else 0))=T:=⟨_,rfl⟩
 have HT:Hid _:=hT;rw[hT];clear hT;obtain⟨x,hx⟩: ∃x,bitLen N=x:=⟨_,rfl⟩;obtain⟨y,hy⟩: ∃y,bitLen M=y:=⟨_,rfl⟩;rw[hx] at HB1 hld hbn;rw[hy] at HB2 hld hbm;obtain⟨ln,hln⟩: ∃l,(Dg.dg 4294967296 N).length=l:=⟨_,rfl⟩;obtain⟨lm,hlm⟩: ∃l,(Dg.dg 4294967296 M).length=l:=⟨_,rfl⟩;simp only[hln,hlm] at b1 l1 HB1 HB2 HP⊢;have w1:IntKind.i64.wrap (-ld)= -ld:=IntWalk.i64_in _ ⟨by omega,by omega⟩;have w0:IntKind.i64.wrap ld=ld:=IntWalk.i64_in _ ⟨by omega,by omega⟩;clear ha hb hla hlb hx hy hln hlm hQ hM;have l2:=l1.drew;have bd:=aa b1 ((Below.refl _ _).drew);have c1:=l2.c 1 rfl;have c2:=l2.c 2 rfl;clear l1 b1;have hlde:(x:Int)-(y:Int)=ld:=hld;clear hld
 go_enter func168,ntmps168
 go_wp2_with fail
 go_region_held3 (fun wq=>wq.cell? ⟨w.heap.size,1,none⟩=some (.slice ao ln ca)∧wq.cell? ⟨w.heap.size,2,none⟩=some (.slice bo lm cb)) (go_keep) (first
  | (go_at_call 96;(with_reducible (refine(HB1.out _ bd).mono ?_));rintro z w3 ⟨rfl,rfl⟩)
  | (go_at_call 96;(with_reducible (refine(HB2.out _ bd).mono ?_));rintro z w3 ⟨rfl,rfl⟩))
 have c0:=l2.c 0 rfl;have c3:=l2.c 3 rfl
 go_goals
 go_wp2_with fail
 refine(HP.out _ bd).mono ?_;rintro z w4 ⟨v1,v2,v3,rfl,o1,o2,r3,b4⟩;have b04:=aa bd b4;have l4:=l2.l b4;obtain⟨so,sc,hs⟩:=o1.rd.shape;subst hs;have c4:=l4.c 3 rfl;obtain⟨lq,hlq⟩: ∃l,(Dg.dg 4294967296 Q).length=l:=⟨_,rfl⟩;have hz:lq=0↔Q=0:=by rw[←hlq,List.length_eq_zero_iff];exact hQn
 rw[hlq];clear hlq hQn o1 o2 r3
 by_cases h0:Q=0
 ·have hT2:E+(ld-1)=T:=by rw[←HT.out,if_pos h0]
  subst hT2;have hl0:=hz.2 h0;clear hz h0 HT;subst hl0;have w2:IntKind.i64.wrap (ld-1)=ld-1:=IntWalk.i64_in _ ⟨by omega,by omega⟩;have w3:IntKind.i64.wrap (E+(ld-1))=E+(ld-1):=IntWalk.i64_in _ ⟨by omega,by omega⟩
  go_wp2
  go_ret
  exact⟨rfl,b04⟩
 ·have hT2:E+ld=T:=by rw[←HT.out,if_neg h0,Int.sub_zero]
  subst hT2;have hqf:((lq:Int)==0)=false:=by simp;exact fun h=>h0 (hz.1 h)
  have w3:IntKind.i64.wrap (E+ld)=E+ld:=IntWalk.i64_in _ ⟨by omega,by omega⟩
  go_wp2
  go_ret
  exact⟨rfl,b04⟩
theorem tscaled_uu (xg:Bool)(xn:Nat)(xo:Option Addr)(xc:Nat)(e n tw:Int)(F M Nn qt rm:Nat)(w:World)(rx:Rd w .u32 (yT xo xn xc) (Dg.dg 4294967296 xn))(htw:IntKind.i64.wrap (e+n)=tw)(hn:0<n)(ht:0<tw)
  (HF: ∀w1,yC 72 #[yi n] w1 (NmR w1 F))
  (HT: ∀xo xc fo fc w1,Rd w1 .u32 (yT xo xn xc) (Dg.dg 4294967296 xn)→Rd w1 .u32 (yT fo F fc) (Dg.dg 4294967296 F)→yC 71 #[yT xo xn xc,yT fo F fc] w1 (NmR w1 M))
  (HS: ∀mo mc w1,Rd w1 .u32 (yT mo M mc) (Dg.dg 4294967296 M)→yC 75 #[yT mo M mc,yi tw] w1 (NmR w1 Nn))
  (HO: ∀no nc q w1,Rd w1 .u32 (yT no Nn nc) (Dg.dg 4294967296 Nn)→au w1 q 138 [.int .u32 1]→yC 101 #[yT no Nn nc,.slice (some ⟨q,0,none⟩) 1 1] w1 (TwR w1 qt rm)):
  yC 97 #[ydV xg (yT xo xn xc) e,yi n] w (NbR w qt (decide (0< (Dg.dg 4294967296 rm).length))):=by
 replace HF:Hid _:=HF;replace HT:Hid _:=HT;replace HS:Hid _:=HS;replace HO:Hid _:=HO;obtain⟨W3,hW4,q1,b2⟩:=cA w (ydL xg (yT xo xn xc) e) 95;replace hW4:Hid _:=hW4;have r5:=rx.l b2;clear rx
 go_enter func97,ntmps97
 go_upto_region 1 with fail
 rw[hW4.out];clear hW4
 go_upto_region 1 with fail
 have bW6:yB W3 W3.drew:=(Below.refl _ _).drew;have q7:=q1.l bW6;have r8:=r5.l bW6;have b9:=aa b2 bW6;clear q1 r5 b2 bW6;refine wp_region_held_drew (S:=fun wq=>au wq w.heap.size 95 (ydL xg (yT xo xn xc) e)) (by kernel_rfl) q7 (fun hS0=> ?_)
 generalize W3.drew=WD10 at q7 r8 b9 hS0⊢;refine tq 0 (.pointer (some ⟨w.heap.size,1,none⟩)) rfl (fun _ _=>by kernel_rfl) hS0 ?_
 refine tq 1 (yT xo xn xc) rfl (fun _ hw0=>gU 23 (.tmp 11) rfl w.heap.size 1 (by kernel_rfl) _ _ underlying23 rfl (hw0.c 1 rfl)) hS0 ?_
 refine tq 3 (.pointer (some ⟨w.heap.size,2,none⟩)) rfl (fun _ _=>by kernel_rfl) hS0 ?_
 refine tq 4 (yi e) rfl (fun _ hw0=>gU 3 (.tmp 14) rfl w.heap.size 2 (by kernel_rfl) _ _ underlying3 rfl (hw0.c 2 rfl)) hS0 ?_
 refine tq 5 (yi n) rfl (fun _ _=>by kernel_rfl) hS0 ?_
 refine tq 6 (yi tw) rfl (fun _ _=>by go_simp) hS0 ?_
 refine tq 7 (yT xo xn xc) rfl (fun _ _=>by kernel_rfl) hS0 ?_
 refine wpAnyH_ready (rs:=[2]) (by kernel_rfl) (by simp) ?_;refine AllReadyH.cons rfl (fun K hK=> ?_) AllReadyH.nil
 go_simp
 have al11:=af WD10 (.cells #[.int .u32 1] 138);have q12:=ah WD10 [.int .u32 1] 138;have hl15:w.heap.size≤WD10.heap.size:=b9.size;have hl16:=q7.lt;have q17:=q7.l al11;have r18:=r8.l al11;have b19:=aa b9 al11;refine hK.out _ _ q17 (fun hS20=> ?_)
 clear hK K;clear q7 r8 b9 al11;generalize WD10.alloc (.cells #[.int .u32 1] 138)=WN13 at q17 q12 r18 b19 hS20⊢;generalize WD10.heap.size=PQ14 at q12 hl15 hl16⊢;refine tq 8 (.slice (some ⟨PQ14,0,none⟩) 1 1) rfl (fun _ _=>by kernel_rfl) hS20 ?_
 refine tq 9 (yi tw) rfl (fun _ _=>by kernel_rfl) hS20 ?_
 refine wpAnyH_done (by kernel_rfl) ?_ _;clear hS0 hS20;simp only[Act.put,List.getElem_toArray,List.getElem_cons_succ,List.getElem_cons_zero,List.setIfInBounds_toArray,List.set_cons_zero,List.set_cons_succ]
 go_wp2_with fail
 refine(HF.out _).mono ?_;rintro zz w21 ⟨v1x23,rfl,r1x24,bb22⟩;have q25:=q12.l bb22;have r26:=r18.l bb22;have b27:=aa b19 bb22;obtain⟨fo,fc,hv⟩:=r1x24.shape;subst hv;clear q17 q12 r18 b19 bb22 HF
 go_wp2_with fail
 refine(HT.out _ _ _ _ _ r26 r1x24).mono ?_;rintro zz w28 ⟨v1x30,rfl,r1x31,bb29⟩;have q32:=q25.l bb29;have b33:=aa b27 bb29;obtain⟨mo,mc,hv⟩:=r1x31.shape;subst hv;clear q25 r26 r1x24 b27 bb29 HT
 go_wp2_with fail
 refine(HS.out _ _ _ r1x31).mono ?_;rintro zz w34 ⟨v1x36,rfl,r1x37,bb35⟩;have q38:=q32.l bb35;have b39:=aa b33 bb35;obtain⟨no,nc,hv⟩:=r1x37.shape;subst hv;clear q32 r1x31 b33 bb35 HS
 go_wp2_with fail
 refine(HO.out _ _ _ _ r1x37 q38).mono ?_;rintro zz w40 ⟨v1x42,v2x43,rfl,r1x44,r2x45,bb41⟩;have b46:=aa b39 bb41;obtain⟨qo,qc,hv⟩:=r1x44.shape;subst hv;obtain⟨so,sc,hv⟩:=r2x45.shape;subst hv;clear q38 r1x37 b39 bb41 HO
 go_wp2
 go_ret2
 exact⟨_,rfl,r1x44,b46⟩
theorem tscaled_ud (xg:Bool)(xn:Nat)(xo:Option Addr)(xc:Nat)(e n tw mt:Int)(F M Dn qt rm:Nat)(w:World)(rx:Rd w .u32 (yT xo xn xc) (Dg.dg 4294967296 xn))(htw:IntKind.i64.wrap (e+n)=tw)(hn:0<n)(ht: ¬0<tw)(hmt:IntKind.i64.wrap (-tw)=mt)
  (HF: ∀w1,yC 72 #[yi n] w1 (NmR w1 F))
  (HT: ∀xo xc fo fc w1,Rd w1 .u32 (yT xo xn xc) (Dg.dg 4294967296 xn)→Rd w1 .u32 (yT fo F fc) (Dg.dg 4294967296 F)→yC 71 #[yT xo xn xc,yT fo F fc] w1 (NmR w1 M))
  (HS: ∀q w1,au w1 q 138 [.int .u32 1]→yC 75 #[.slice (some ⟨q,0,none⟩) 1 1,yi mt] w1 (NmR w1 Dn))
  (HO: ∀mo mc go gc w1,Rd w1 .u32 (yT mo M mc) (Dg.dg 4294967296 M)→Rd w1 .u32 (yT go Dn gc) (Dg.dg 4294967296 Dn)→yC 101 #[yT mo M mc,yT go Dn gc] w1 (TwR w1 qt rm)):
  yC 97 #[ydV xg (yT xo xn xc) e,yi n] w (NbR w qt (decide (0< (Dg.dg 4294967296 rm).length))):=by
 replace HF:Hid _:=HF;replace HT:Hid _:=HT;replace HS:Hid _:=HS;replace HO:Hid _:=HO;obtain⟨W3,hW4,q1,b2⟩:=cA w (ydL xg (yT xo xn xc) e) 95;replace hW4:Hid _:=hW4;have r5:=rx.l b2;clear rx
 go_enter func97,ntmps97
 go_upto_region 1 with fail
 rw[hW4.out];clear hW4
 go_upto_region 1 with fail
 have bW6:yB W3 W3.drew:=(Below.refl _ _).drew;have q7:=q1.l bW6;have r8:=r5.l bW6;have b9:=aa b2 bW6;clear q1 r5 b2 bW6;refine wp_region_held_drew (S:=fun wq=>au wq w.heap.size 95 (ydL xg (yT xo xn xc) e)) (by kernel_rfl) q7 (fun hS0=> ?_)
 generalize W3.drew=WD10 at q7 r8 b9 hS0⊢;refine tq 0 (.pointer (some ⟨w.heap.size,1,none⟩)) rfl (fun _ _=>by kernel_rfl) hS0 ?_
 refine tq 1 (yT xo xn xc) rfl (fun _ hw0=>gU 23 (.tmp 11) rfl w.heap.size 1 (by kernel_rfl) _ _ underlying23 rfl (hw0.c 1 rfl)) hS0 ?_
 refine tq 3 (.pointer (some ⟨w.heap.size,2,none⟩)) rfl (fun _ _=>by kernel_rfl) hS0 ?_
 refine tq 4 (yi e) rfl (fun _ hw0=>gU 3 (.tmp 14) rfl w.heap.size 2 (by kernel_rfl) _ _ underlying3 rfl (hw0.c 2 rfl)) hS0 ?_
 refine tq 5 (yi n) rfl (fun _ _=>by kernel_rfl) hS0 ?_
 refine tq 6 (yi tw) rfl (fun _ _=>by go_simp) hS0 ?_
 refine tq 7 (yT xo xn xc) rfl (fun _ _=>by kernel_rfl) hS0 ?_
 refine wpAnyH_ready (rs:=[2]) (by kernel_rfl) (by simp) ?_;refine AllReadyH.cons rfl (fun K hK=> ?_) AllReadyH.nil
 go_simp
 have al11:=af WD10 (.cells #[.int .u32 1] 138);have q12:=ah WD10 [.int .u32 1] 138;have hl15:w.heap.size≤WD10.heap.size:=b9.size;have hl16:=q7.lt;have q17:=q7.l al11;have r18:=r8.l al11;have b19:=aa b9 al11;refine hK.out _ _ q17 (fun hS20=> ?_)
 clear hK K;clear q7 r8 b9 al11;generalize WD10.alloc (.cells #[.int .u32 1] 138)=WN13 at q17 q12 r18 b19 hS20⊢;generalize WD10.heap.size=PQ14 at q12 hl15 hl16⊢;refine tq 8 (.slice (some ⟨PQ14,0,none⟩) 1 1) rfl (fun _ _=>by kernel_rfl) hS20 ?_
 refine tq 9 (yi tw) rfl (fun _ _=>by kernel_rfl) hS20 ?_
 refine wpAnyH_done (by kernel_rfl) ?_ _;clear hS0 hS20;simp only[Act.put,List.getElem_toArray,List.getElem_cons_succ,List.getElem_cons_zero,List.setIfInBounds_toArray,List.set_cons_zero,List.set_cons_succ]
 go_wp2_with fail
 refine(HF.out _).mono ?_;rintro zz w21 ⟨v1x23,rfl,r1x24,bb22⟩;have q25:=q12.l bb22;have r26:=r18.l bb22;have b27:=aa b19 bb22;obtain⟨fo,fc,hv⟩:=r1x24.shape;subst hv;clear q17 q12 r18 b19 bb22 HF
 go_wp2_with fail
 refine(HT.out _ _ _ _ _ r26 r1x24).mono ?_;rintro zz w28 ⟨v1x30,rfl,r1x31,bb29⟩;have q32:=q25.l bb29;have b33:=aa b27 bb29;obtain⟨mo,mc,hv⟩:=r1x31.shape;subst hv;clear q25 r26 r1x24 b27 bb29 HT
 go_wp2_with fail
 refine(HS.out _ _ q32).mono ?_;rintro zz w34 ⟨v1x36,rfl,r1x37,bb35⟩;have r38:=r1x31.l bb35;have b39:=aa b33 bb35;obtain⟨go,gc,hv⟩:=r1x37.shape;subst hv;clear q32 r1x31 b33 bb35 HS
 go_wp2_with fail
 refine(HO.out _ _ _ _ _ r38 r1x37).mono ?_;rintro zz w40 ⟨v1x42,v2x43,rfl,r1x44,r2x45,bb41⟩;have b46:=aa b39 bb41;obtain⟨qo,qc,hv⟩:=r1x44.shape;subst hv;obtain⟨so,sc,hv⟩:=r2x45.shape;subst hv;clear r38 r1x37 b39 bb41 HO
 go_wp2
 go_ret2
 exact⟨_,rfl,r1x44,b46⟩
end Go.Proofs.YtpgijbdgljkeeaaGreatDoor
