/-
  Texts laid together: Ce10, As3.
-/
import Derived.Deep.CutBlock
import Derived.Test.YtpainhklfoaniaaGreatDoorSc19
import Derived.Test.YtpainhklfoaniaaGreatDoorSc20
import Derived.Test.YtpainhklfoaniaaGreatDoorSc23
set_option maxRecDepth 100000
set_option maxHeartbeats 6400000
namespace Go.Proofs.YtpainhklfoaniaaGreatDoor
open _root_.Go.Proofs.Tryz
open Go.RowKit
theorem xD {w:World}{q:Nat}(h:w.cell? ⟨q,0,none⟩=some (.int .u32 1)):Rd w .u32 (.slice (some ⟨q,0,none⟩) 1 1) [1]:=
 ⟨_,1,rfl,Nat.le_refl _,by unfold maxLen;omega,fun _=>⟨q,0,rfl,fun i hi=>by
  obtain rfl:i=0:=by simpa using hi
  exact h⟩⟩
theorem fI (a:ak):(bare a).n=0↔a.n=0:=by
 by_cases h:a.n=0
 ·unfold bare
  rw[if_pos h];exact⟨fun _=>h,fun _=>rfl⟩
 ·unfold bare
  rw[if_neg h];obtain⟨m,hm⟩:=fO h;have:=lI hm;exact⟨fun h2=>by simp only at h2;omega,fun h2=>absurd h2 h⟩
theorem Re {k:Nat}(hk:1≤k∧k≤8):gW k<18446744073709551616:=by
 rcases bO hk with rfl|rfl|rfl|rfl|rfl|rfl|rfl|rfl<;>decide
def heE (R L:Int)(ld:Nat)(t:fz):Nat:=(t.p-L).toNat+if R=2∧t.d&&& ld≠0 then 1 else 0
theorem ZC (R D L G fam:Int)(gr:Bool)(sz ex:Nat)(F ld:Nat)(s:Bool)(ao:Option Addr)(ca:Nat)(xs:List Nat)(E:Int)(w:World)(WB:Bool→Nat→Nat→ByteArray)
  (hr:Rd w .u32 (.slice ao xs.length ca) xs) (sa:Dg.Small 4294967296 xs) (hd:aS xs E=0) (h0:Dg.vl 4294967296 xs≠0) (hg:bk R D L G=0) (h1:1≤D) (hLG:L≤G) (hD:ai R*D.toNat≤64) (hGL:G-L<60000) (hRc:R=2∨R=16) (hld:ld<18446744073709551616)
  (hh:dA R D L G gr (Dg.vl 4294967296 xs) E=true)
  (HL:yJ 131 #[ylV R D L G gr sz ex fam F] (.int .u64 ld))
  (HW: ∀ng e f w1,e<65536→f<18446744073709551616→yC 102 #[ylV R D L G gr sz ex fam F,yfV ng ((e:Nat):Int) ((f:Nat):Int)] w1 (yR w1 (.string (WB ng e f)))):
  yC 99 #[ylV R D L G gr sz ex fam F,ydV s (.slice ao xs.length ca) E] w (yR w (.tuple #[.string (WB (cI R D L G gr s (Dg.vl 4294967296 xs) 1 E 3).s (heE R L ld (cI R D L G gr s (Dg.vl 4294967296 xs) 1 E 3)) (cI R D L G gr s (Dg.vl 4294967296 xs) 1 E 3).d),yi 0])):=by
 obtain⟨c1,e1,e2⟩:=bL hd;have hlen:xs.length≠0:=fun h=>h0 (by rw[List.eq_nil_of_length_eq_zero h];rfl)
 have hC:eE xs [1] E R D L G 3=0:=by
  have hq:eA xs [1] E=0:=by
   unfold eA;rw[if_pos c1,if_pos (show chk [1]=0 by decide),if_neg]
   rintro(h|h)
   ·simp at h
   ·unfold eJ at h
    simp at h;omega
  have hw:jg (eA xs [1] E) (bk R D L G)=0:=by unfold jg;rw[if_pos hq];exact hg
  unfold eE;rw[if_pos hw,if_pos (by decide)]
 have hP:df xs [1] E R D L G gr s 3=cI R D L G gr s (Dg.vl 4294967296 xs) 1 E 3:=by
  unfold df;rw[if_pos hC,if_neg hlen];rfl
 obtain⟨hov,hun,hbare⟩:=mC (s:=s) (way:=3) h1 hLG h0 hh;have hsp:=nW h1 hLG h0 (by omega:(1:Nat)≠0) hov hun;have hR:=fun q w1 (b:yB w w1) (hc:w1.cell? ⟨q,0,none⟩=some (.int .u32 1))=>jM s ao ca xs (some ⟨q,0,none⟩) 1 [1] E R D L G gr 3 w1 (hr.l b) (xD hc) sa (fun i=>by
  match i with
  |0=>decide
  |i+1=>simp)
 rw[hC,hP] at hR;obtain⟨t,ht⟩: ∃t,cI R D L G gr s (Dg.vl 4294967296 xs) 1 E 3=t:=⟨_,rfl⟩;rw[ht] at hsp hbare hR⊢;have hd0:t.d≠0:=fun h=>by
  have hz:=congrArg ak.n hbare;have a1:=(fI ⟨t.s,t.d,(ai R:Int)*t.p⟩).2 h;rw[hz] at a1;exact h0 ((fI ⟨s,Dg.vl 4294967296 xs,E⟩).1 a1)
 obtain⟨-,hp1,hp2,hdl,-⟩:=hsp.resolve_left (fun h=>hd0 h.1)
 have hd64:t.d<18446744073709551616:=by
  have:(2:Nat)^ (ai R*D.toNat)≤2^64:=Nat.pow_le_pow_right (by omega) hD;omega
 clear ht hov hun hbare hsp hC hP hh;obtain⟨e,he⟩: ∃e:Nat,t.p-L=(e:Int):=⟨(t.p-L).toNat,by omega⟩;have hel:e<60000:=by omega
 have hew:IntKind.i64.wrap (t.p-L)=(e:Int):=by rw[he];exact IntWalk.i64_in _ ⟨by omega,by omega⟩
 have hzl:(Dg.dg 4294967296 t.d).length≤2:=Dg.dg_len_le 4294967296 t.d 2 (by omega) hd64;have hzp:0< (Dg.dg 4294967296 t.d).length:=List.length_pos_iff.2 (by rw[Ne,Dg.dg_nil_iff 4294967296 t.d (by omega)];exact hd0);have HWd: ∀po pc w1,Rd w1 .u32 (yT po t.d pc) (Dg.dg 4294967296 t.d)→ ∀w2,yB w1 w2→yC 87 #[yT po t.d pc] w2 fun z w'=>z= .returned (.int .u64 (t.d:Int))∧w2=w':=fun po pc w1 h w2 b=>by
  have:=XF _ _ w2 (h.l b) (Dg.small_dg 4294967296 t.d (by omega)) hzl;rw[Dg.vl_dg 4294967296 t.d (by omega)] at this;exact this.mono (fun _ _ h=>⟨h.1,h.2.symm⟩)
 have hen:(t.p-L).toNat=e:=by omega
 unfold heE;rw[hen];have HR2: ∀q w1,yB w w1→w1.cell? ⟨q,0,none⟩=some (.int .u32 1)→yC 56 #[yrV s (.slice ao xs.length ca) (.slice (some ⟨q,0,none⟩) 1 1) E,ygV R D L G gr,yi 3] w1 fun z w'=> ∃po pc,z= .returned (.tuple #[ypV t.s (yT po t.d pc) t.p t.ex t.ov t.un,yi 0])∧Rd w' .u32 (yT po t.d pc) (Dg.dg 4294967296 t.d)∧yB w1 w':=fun q w1 b hc=>(hR q w1 b hc).mono (fun z w' h=>by
  obtain⟨v,rfl,own,b2⟩:=h;obtain⟨po,pc,hv⟩:=own.rd.shape;subst hv;exact⟨po,pc,rfl,own.rd,b2⟩)
 rcases hRc with rfl|rfl
 ·by_cases hb:t.d&&& ld=0
  ·rw[if_neg (fun h=>h.2 hb),Nat.add_zero]
   exact CC _ D L G fam gr sz ex F s ao xs.length ca E w (Dg.dg 4294967296 t.d) _ t.s t.ex t.ov t.un t.p 0 HR2 t.s e t.d (fun po pc w1 _ h=>KG D L G fam gr sz ex F t.s t.ex t.ov t.un po _ pc t.p e t.d w1 hew (by omega) (HWd po pc w1 h) ld 0 (by rw[u64_and_nat t.d ld hd64 hld,hb];rfl) rfl HL) _ (fun w1=>HW t.s e t.d w1 (by omega) hd64) rfl hzp
  ·rw[if_pos ⟨rfl,hb⟩]
   have hF: ∀po pc w1,yB w w1→Rd w1 .u32 (yT po t.d pc) (Dg.dg 4294967296 t.d)→_:=fun po pc w1 _ h=>KF D L G fam gr sz ex F t.s t.ex t.ov t.un po _ pc t.p e t.d w1 hew (by omega) (HWd po pc w1 h) ld ((t.d&&& ld:Nat):Int) (u64_and_nat t.d ld hd64 hld) (by omega) HL
   exact CC _ D L G fam gr sz ex F s ao xs.length ca E w (Dg.dg 4294967296 t.d) _ t.s t.ex t.ov t.un t.p 0 HR2 t.s (e+1) t.d hF _ (fun w1=>HW t.s (e+1) t.d w1 (by omega) hd64) rfl hzp
 ·rw[if_neg (fun h=>by have:=h.1;omega),Nat.add_zero]
  exact CC _ D L G fam gr sz ex F s ao xs.length ca E w (Dg.dg 4294967296 t.d) _ t.s t.ex t.ov t.un t.p 0 HR2 t.s e t.d (fun po pc w1 _ h=>KE D L G fam gr sz ex F t.s t.ex t.ov t.un po _ pc t.p e t.d w1 hew (by omega) (HWd po pc w1 h)) _ (fun w1=>HW t.s e t.d w1 (by omega) hd64) rfl hzp
def gsI:Nat→Int
 |1=>104|2=>971|3=>16320|4=>57|5=>49|6=>103|7=>71|8=>970|_=>0
def plT (k:Nat)(s:Bool)(n:Nat)(E:Int):fz:=cI (rdN k) (dgN k) (lsI k) (gsI k) (decide (k≤3)) s n 1 E 3
theorem xE (k:Nat)(hk:1≤k∧k≤8)(s:Bool)(ao:Option Addr)(ca:Nat)(xs:List Nat)(E:Int)(w:World)(hr:Rd w .u32 (.slice ao xs.length ca) xs)(sa:Dg.Small 4294967296 xs)(hd:aS xs E=0)(h0:Dg.vl 4294967296 xs≠0)
  (hh:dA (rdN k) (dgN k) (lsI k) (gsI k) (decide (k≤3)) (Dg.vl 4294967296 xs) E=true):
  yC 99 #[.agg (tS k).toArray,ydV s (.slice ao xs.length ca) E] w (yR w (.tuple #[.string (cF (kU k (plT k s (Dg.vl 4294967296 xs) E).s (heE (rdN k) (lsI k) (gW k) (plT k s (Dg.vl 4294967296 xs) E)) (plT k s (Dg.vl 4294967296 xs) E).d)),yi 0])):=by
 have HL:=fun w1=>xX k hk w1
 have HW:=fun ng e f w1 (he:e<65536) (hf:f<18446744073709551616)=>Aq k hk ng e f w1 he hf
 have hl:=Re hk;unfold plT
 rcases bO hk with rfl|rfl|rfl|rfl|rfl|rfl|rfl|rfl
 all_goals exact ZC _ _ _ _ _ _ _ _ _ _ s ao ca xs E w (fun ng e f=>cF (kU _ ng e f)) hr sa hd h0 (by decide) (by decide) (by decide) (by decide) (by decide) (by decide) hl hh HL HW
theorem QM (n wy fam R D L G:Int)(gr ng:Bool)(r pw:Nat)(w:World)(hR:IntKind.u32.wrap R=(r:Int))
  (HP: ∀q w1,yB w w1→w1.cell? ⟨q,0,none⟩=some (.int .u32 r)→yC 90 #[.slice (some ⟨q,0,none⟩) 1 1,yi D] w1 (Num w1 pw))
  (HM: ∀vo vc q w1,Rd w1 .u32 (yT vo pw vc) (Dg.dg 4294967296 pw)→w1.cell? ⟨q,0,none⟩=some (.int .u32 1)→yC 159 #[yT vo pw vc,.slice (some ⟨q,0,none⟩) 1 1] w1 (Num w1 (pw-1))):
  yC 142 #[ykV n wy fam R D L G gr,.bool ng] w (iT w 2 ng (pw-1) G):=by
 replace HP:Hid _:=HP;replace HM:Hid _:=HM;have ad:=af w (.cells (ykA n wy fam R D L G gr) 143);have av:=af (w.alloc (.cells (ykA n wy fam R D L G gr) 143)) (.cells (yvA 0 false yN 0) 77);have d0:=(ah w (ykL n wy fam R D L G gr) 143).l av;have v0:=ah (w.alloc (.cells (ykA n wy fam R D L G gr) 143)) (yvL 0 false yN 0) 77;rw[World.size_alloc] at v0;have b0:=aa ad av;clear ad av
 go_enter func142,ntmps142
 go_upto_region 1 with fail
 generalize(w.alloc (.cells (ykA n wy fam R D L G gr) 143)).alloc (.cells (yvA 0 false yN 0) 77)=W0 at d0 v0 b0⊢;have y3:=d0.c 3 rfl;have y4:=d0.c 4 rfl;have al:=af W0 (.cells #[.int .u32 r] 108);have hc:=(ah W0 [.int .u32 r] 108).c 0 rfl;have d1:=d0.l al;have v1:=v0.l al;have b01:=aa b0 al;have z3:=d1.c 3 rfl;have z4:=d1.c 4 rfl;clear al
 go_wp2_with fail
 refine(HP.out _ _ b01 hc).mono ?_;rintro z w2 ⟨u,rfl,o2,b2⟩;obtain⟨vo,vc,hu⟩:=o2.rd.shape;subst hu;have r2:=o2.rd;have d2:=d1.l b2;have v2:=v1.l b2;have b02:=aa b01 b2;clear y3 y4 z3 z4 hc d0 v0 b0 d1 v1 b01 b2 o2 HP hR
 go_upto_region 2 with fail
 have bW:yB w2 w2.drew:=(Below.refl _ _).drew;have d3:=d2.l bW;have v3:=v2.l bW;have r3:=r2.l bW;have b03:=aa b02 bW;clear bW d2 v2 r2 b02;refine wp_region_held_drew (S:=fun wq=>wq.cell? ⟨w.heap.size,6,none⟩=some (yi G)) (by kernel_rfl) (d3.c 6 rfl) (fun hS0=> ?_)
 refine tq 0 (.bool ng) rfl (fun w0 _=>by kernel_rfl) hS0 ?_
 refine tq 1 (yT vo pw vc) rfl (fun w0 _=>by kernel_rfl) hS0 ?_
 refine tq 4 (.pointer (some ⟨w.heap.size,3,none⟩)) rfl (fun w0 _=>by kernel_rfl) hS0 ?_
 refine tq 5 (.pointer (some ⟨w.heap.size,6,none⟩)) rfl (fun w0 _=>by kernel_rfl) hS0 ?_
 refine tq 6 (yi G) rfl (fun w0 hw0=>gU 3 (.tmp 20) rfl w.heap.size 6 (by kernel_rfl) _ _ underlying3 rfl hw0) hS0 ?_
 refine wpAnyH_ready (rs:=[2]) (by kernel_rfl) (by simp) ?_;refine AllReadyH.cons rfl (fun K hK=> ?_) AllReadyH.nil
 go_simp
 have al:=af w2.drew (.cells #[.int .u32 1] 108);have hc:=(ah w2.drew [.int .u32 1] 108).c 0 rfl;have d4:=d3.l al;have v4:=v3.l al;have r4:=r3.l al;have b04:=aa b03 al;refine hK.out _ _ (d4.c 6 rfl) (fun hS2=> ?_)
 clear hK K al d3 v3 r3 b03;refine wpAnyH_ready (rs:=[3]) (by kernel_rfl) (by simp) ?_;refine AllReadyH.cons rfl (fun K hK=> ?_) AllReadyH.nil
 go_simp
 refine(HM.out _ _ _ _ r4 hc).mono ?_;rintro z w5 ⟨u,rfl,o5,b5⟩;obtain⟨mo,mc,hu⟩:=o5.rd.shape;subst hu;have r5:=o5.rd;have d5:=d4.l b5;have v5:=v4.l b5;have b05:=aa b04 b5;refine hK.out _ _ (d5.c 6 rfl) (fun hS3=> ?_)
 clear hK K d4 v4 r4 b04 b5 o5 hc;have bu:=(((ag w5 (w.heap.size+1) 0 (yi 2)).trans (ag _ (w.heap.size+1) 1 (.bool ng))).trans (ag _ (w.heap.size+1) 2 (.slice mo (Dg.dg 4294967296 (pw-1)).length mc))).trans (ag _ (w.heap.size+1) 3 (yi G));have bR:yB w (w5.setCells (w.heap.size+1) 0 (yvL 2 ng (.slice mo (Dg.dg 4294967296 (pw-1)).length mc) G)):=bu.below b05 (by omega);have rR:Rd (w5.setCells (w.heap.size+1) 0 (yvL 2 ng (.slice mo (Dg.dg 4294967296 (pw-1)).length mc) G)) .u32 (.slice mo (Dg.dg 4294967296 (pw-1)).length mc) (Dg.dg 4294967296 (pw-1)):=bu.rd r5 (aX r5 v5 (by simp));have hth:w5.there (w.heap.size+1) 0 4:=dD v5;have hl:=run_loadVar_mid (P:=Tryz.prog) _ (w.heap.size+1) 0 77 (yvL 2 ng (.slice mo (Dg.dg 4294967296 (pw-1)).length mc) G) _ (World.rangeAt_setCells_same w5 (w.heap.size+1) 0 (yvL 2 ng (.slice mo (Dg.dg 4294967296 (pw-1)).length mc) G) hth) underlying77 rfl (by kernel_rfl);have HH:Hid (_∧_∧_):=⟨hl,rR,bR⟩;clear hl rR bR bu;refine tq 7 ((yvV 2 ng (.slice mo (Dg.dg 4294967296 (pw-1)).length mc) G)) rfl (fun w0 _=>by kernel_rfl) hS3 ?_
 refine wpAnyH_ready (rs:=[8]) (by kernel_rfl) (by simp) ?_;refine AllReadyH.cons rfl (fun K hK=> ?_) AllReadyH.nil
 rw[if_pos (by kernel_rfl)];refine wp_store_mid 77 (.tmp 4) (.tmp 22) rfl (w.heap.size+1) 0 (yvA 2 ng (.slice mo (Dg.dg 4294967296 (pw-1)).length mc) G) (by kernel_rfl) (by kernel_rfl) hth (by kernel_rfl) (by simp[Value.oneCell']) ?_;refine hK.out _ _ ?_ (fun hS8=> ?_)
 ·have hbu:But (w.heap.size+1) w5 (w5.setCells (w.heap.size+1) 0 (yvL 2 ng (.slice mo (Dg.dg 4294967296 (pw-1)).length mc) G)):=de _ _ _ _
  exact(hbu.loc d5 (by omega)).c 6 rfl
 clear hK K;refine wpAnyH_done (by kernel_rfl) ?_ _;obtain⟨hl,rR,bR⟩:=HH.out;clear HH hS0 hS2 hS3 hS8 d5 v5 r5 b05 hth HM;change Exit.then _ _ _ _ (World.setCells w5 (w.heap.size+1) 0 (yvL 2 ng (.slice mo (Dg.dg 4294967296 (pw-1)).length mc) G));generalize World.setCells w5 (w.heap.size+1) 0 (yvL 2 ng (.slice mo (Dg.dg 4294967296 (pw-1)).length mc) G)=WE at hl rR bR⊢
 go_wp2
 exact bodyPost_ret (br results142 rfl hl) rfl ⟨_,rfl,rR,bR⟩
theorem adn (n wy R D L G:Int)(gr ng:Bool)(w:World)
  (HN:yJ 78 #[yi 3] (yi 5)):
  yC 104 #[ykV n wy 3 R D L G gr,.bool ng] w (iT w 5 false 0 0):=by
 replace HN:Hid _:=HN;have ad:=af w (.cells (ykA n wy 3 R D L G gr) 143);have av:=af (w.alloc (.cells (ykA n wy 3 R D L G gr) 143)) (.cells (yvA 0 false yN 0) 77);have d0:=(ah w (ykL n wy 3 R D L G gr) 143).l av;have v0:=ah (w.alloc (.cells (ykA n wy 3 R D L G gr) 143)) (yvL 0 false yN 0) 77;rw[World.size_alloc] at v0;have b0:=aa ad av;clear ad av
 go_enter func104,ntmps104
 go_upto_block 0 with fail
 generalize(w.alloc (.cells (ykA n wy 3 R D L G gr) 143)).alloc (.cells (yvA 0 false yN 0) 77)=W0 at d0 v0 b0⊢;obtain⟨y0,y1,y2,y3,y4,y5,y6,y7⟩:=d0.cs8
 go_wp2_with fail
 refine(HN.out _).mono ?_;rintro z w1 ⟨rfl,b1⟩;have v1:=v0.l b1;have b01:=aa b0 b1;clear y0 y1 y2 y3 y4 y5 y6 y7 d0 v0 b0 b1;have cR:au ((((w1.setCell ⟨w.heap.size+1,0,none⟩ (yi 5)).setCell ⟨w.heap.size+1,1,none⟩ (.bool false)).setCell ⟨w.heap.size+1,2,none⟩ yN).setCell ⟨w.heap.size+1,3,none⟩ (yi 0)) (w.heap.size+1) 77 (yvL 5 false yN 0):=((((v1.set 0 (yi 5)).set 1 (.bool false)).set 2 yN).set 3 (yi 0));have bu:=(((ag w1 (w.heap.size+1) 0 (yi 5)).trans (ag _ (w.heap.size+1) 1 (.bool false))).trans (ag _ (w.heap.size+1) 2 yN)).trans (ag _ (w.heap.size+1) 3 (yi 0));have bR:=bu.below b01 (by omega);have hl:=run_loadVar_mid (P:=Tryz.prog) _ (w.heap.size+1) 0 77 (yvL 5 false yN 0) _ cR.range underlying77 rfl (by kernel_rfl);have HH:Hid (_∧_):=⟨hl,bR⟩;obtain⟨z0,z1,z2,z3⟩:=v1.cs4;have fz0:=v1.f 0;have fz1:=v1.f 1;have fz2:=v1.f 2;have fz3:=v1.f 3;clear hl bR bu cR;clear v1 b01
 go_wp2
 obtain⟨hl,bR⟩:=HH.out;exact bodyPost_ret (br results104 rfl hl) rfl ⟨_,rfl,aN _ _,bR⟩
theorem abM (n wy R D L G:Int)(gr ng:Bool)(w:World)
  (HO:yJ 141 #[ykV n wy 1 R D L G gr,.bool ng] (.bool true)):
  yC 104 #[ykV n wy 1 R D L G gr,.bool ng] w (iT w 3 ng 0 0):=by
 replace HO:Hid _:=HO;have ad:=af w (.cells (ykA n wy 1 R D L G gr) 143);have av:=af (w.alloc (.cells (ykA n wy 1 R D L G gr) 143)) (.cells (yvA 0 false yN 0) 77);have d0:=(ah w (ykL n wy 1 R D L G gr) 143).l av;have v0:=ah (w.alloc (.cells (ykA n wy 1 R D L G gr) 143)) (yvL 0 false yN 0) 77;rw[World.size_alloc] at v0;have b0:=aa ad av;clear ad av
 go_enter func104,ntmps104
 go_upto_block 0 with fail
 generalize(w.alloc (.cells (ykA n wy 1 R D L G gr) 143)).alloc (.cells (yvA 0 false yN 0) 77)=W0 at d0 v0 b0⊢;obtain⟨y0,y1,y2,y3,y4,y5,y6,y7⟩:=d0.cs8
 go_wp2_with fail
 refine(HO.out _).mono ?_;rintro z w1 ⟨rfl,b1⟩;have v1:=v0.l b1;have b01:=aa b0 b1;clear y0 y1 y2 y3 y4 y5 y6 y7 d0 v0 b0 b1;have cR:au ((((w1.setCell ⟨w.heap.size+1,0,none⟩ (yi 3)).setCell ⟨w.heap.size+1,1,none⟩ (.bool ng)).setCell ⟨w.heap.size+1,2,none⟩ yN).setCell ⟨w.heap.size+1,3,none⟩ (yi 0)) (w.heap.size+1) 77 (yvL 3 ng yN 0):=((((v1.set 0 (yi 3)).set 1 (.bool ng)).set 2 yN).set 3 (yi 0));have bu:=(((ag w1 (w.heap.size+1) 0 (yi 3)).trans (ag _ (w.heap.size+1) 1 (.bool ng))).trans (ag _ (w.heap.size+1) 2 yN)).trans (ag _ (w.heap.size+1) 3 (yi 0));have bR:=bu.below b01 (by omega);have hl:=run_loadVar_mid (P:=Tryz.prog) _ (w.heap.size+1) 0 77 (yvL 3 ng yN 0) _ cR.range underlying77 rfl (by kernel_rfl);have HH:Hid (_∧_):=⟨hl,bR⟩;obtain⟨z0,z1,z2,z3⟩:=v1.cs4;have fz0:=v1.f 0;have fz1:=v1.f 1;have fz2:=v1.f 2;have fz3:=v1.f 3;clear hl bR bu cR;clear v1 b01
 go_wp2
 obtain⟨hl,bR⟩:=HH.out;exact bodyPost_ret (br results104 rfl hl) rfl ⟨_,rfl,aN _ _,bR⟩
theorem abN (n wy R D L G:Int)(gr ng:Bool)(m:Nat)(w:World)
  (HO:yJ 141 #[ykV n wy 1 R D L G gr,.bool ng] (.bool false))
  (HGr: ∀w1,yB w w1→yC 142 #[ykV n wy 1 R D L G gr,.bool ng] w1 (iT w1 2 ng m G)):
  yC 104 #[ykV n wy 1 R D L G gr,.bool ng] w (iT w 2 ng m G):=by
 replace HO:Hid _:=HO;replace HGr:Hid _:=HGr;have ad:=af w (.cells (ykA n wy 1 R D L G gr) 143);have av:=af (w.alloc (.cells (ykA n wy 1 R D L G gr) 143)) (.cells (yvA 0 false yN 0) 77);have d0:=(ah w (ykL n wy 1 R D L G gr) 143).l av;have v0:=ah (w.alloc (.cells (ykA n wy 1 R D L G gr) 143)) (yvL 0 false yN 0) 77;rw[World.size_alloc] at v0;have b0:=aa ad av;clear ad av
 go_enter func104,ntmps104
 go_upto_block 0 with fail
 generalize(w.alloc (.cells (ykA n wy 1 R D L G gr) 143)).alloc (.cells (yvA 0 false yN 0) 77)=W0 at d0 v0 b0⊢;obtain⟨y0,y1,y2,y3,y4,y5,y6,y7⟩:=d0.cs8
 go_wp2_with fail
 refine(HO.out _).mono ?_;rintro z w1 ⟨rfl,b1⟩;have d1:=d0.l b1;have v1:=v0.l b1;have b01:=aa b0 b1;clear y0 y1 y2 y3 y4 y5 y6 y7 d0 v0 b0 b1;obtain⟨y0,y1,y2,y3,y4,y5,y6,y7⟩:=d1.cs8
 go_wp2_with fail
 refine(HGr.out _ b01).mono ?_;rintro z w2 ⟨u,rfl,r2,b2⟩;obtain⟨mo,mc,hu⟩:=r2.shape;subst hu;have v2:=v1.l b2;have b02:=aa b01 b2;clear y0 y1 y2 y3 y4 y5 y6 y7 d1 v1 b01 b2;have cR:au ((((w2.setCell ⟨w.heap.size+1,0,none⟩ (yi 2)).setCell ⟨w.heap.size+1,1,none⟩ (.bool ng)).setCell ⟨w.heap.size+1,2,none⟩ (yT mo m mc)).setCell ⟨w.heap.size+1,3,none⟩ (yi G)) (w.heap.size+1) 77 (yvL 2 ng (yT mo m mc) G):=((((v2.set 0 (yi 2)).set 1 (.bool ng)).set 2 (yT mo m mc)).set 3 (yi G));have bu:=(((ag w2 (w.heap.size+1) 0 (yi 2)).trans (ag _ (w.heap.size+1) 1 (.bool ng))).trans (ag _ (w.heap.size+1) 2 (yT mo m mc))).trans (ag _ (w.heap.size+1) 3 (yi G));have bR:=bu.below b02 (by omega);have rR:=bu.rd r2 (aX r2 v2 (by simp));have hl:=run_loadVar_mid (P:=Tryz.prog) _ (w.heap.size+1) 0 77 (yvL 2 ng (yT mo m mc) G) _ cR.range underlying77 rfl (by kernel_rfl);have HH:Hid (_∧_∧_):=⟨hl,rR,bR⟩;obtain⟨z0,z1,z2,z3⟩:=v2.cs4;have fz0:=v2.f 0;have fz1:=v2.f 1;have fz2:=v2.f 2;have fz3:=v2.f 3;clear hl bR bu cR rR;clear v2 b02 r2
 go_wp2
 obtain⟨hl,rR,bR⟩:=HH.out;exact bodyPost_ret (br results104 rfl hl) rfl ⟨_,rfl,rR,bR⟩
theorem ado (n wy R D L G:Int)(gr ng:Bool)(m:Nat)(w:World)
  (HGr: ∀w1,yB w w1→yC 142 #[ykV n wy 2 R D L G gr,.bool ng] w1 (iT w1 2 ng m G)):
  yC 104 #[ykV n wy 2 R D L G gr,.bool ng] w (iT w 2 ng m G):=by
 replace HGr:Hid _:=HGr;have ad:=af w (.cells (ykA n wy 2 R D L G gr) 143);have av:=af (w.alloc (.cells (ykA n wy 2 R D L G gr) 143)) (.cells (yvA 0 false yN 0) 77);have d0:=(ah w (ykL n wy 2 R D L G gr) 143).l av;have v0:=ah (w.alloc (.cells (ykA n wy 2 R D L G gr) 143)) (yvL 0 false yN 0) 77;rw[World.size_alloc] at v0;have b0:=aa ad av;clear ad av
 go_enter func104,ntmps104
 go_upto_block 0 with fail
 generalize(w.alloc (.cells (ykA n wy 2 R D L G gr) 143)).alloc (.cells (yvA 0 false yN 0) 77)=W0 at d0 v0 b0⊢;obtain⟨y0,y1,y2,y3,y4,y5,y6,y7⟩:=d0.cs8
 go_wp2_with fail
 refine(HGr.out _ b0).mono ?_;rintro z w2 ⟨u,rfl,r2,b2⟩;obtain⟨mo,mc,hu⟩:=r2.shape;subst hu;have v2:=v0.l b2;have b02:=aa b0 b2;clear y0 y1 y2 y3 y4 y5 y6 y7 d0 v0 b0 b2;have cR:au ((((w2.setCell ⟨w.heap.size+1,0,none⟩ (yi 2)).setCell ⟨w.heap.size+1,1,none⟩ (.bool ng)).setCell ⟨w.heap.size+1,2,none⟩ (yT mo m mc)).setCell ⟨w.heap.size+1,3,none⟩ (yi G)) (w.heap.size+1) 77 (yvL 2 ng (yT mo m mc) G):=((((v2.set 0 (yi 2)).set 1 (.bool ng)).set 2 (yT mo m mc)).set 3 (yi G));have bu:=(((ag w2 (w.heap.size+1) 0 (yi 2)).trans (ag _ (w.heap.size+1) 1 (.bool ng))).trans (ag _ (w.heap.size+1) 2 (yT mo m mc))).trans (ag _ (w.heap.size+1) 3 (yi G));have bR:=bu.below b02 (by omega);have rR:=bu.rd r2 (aX r2 v2 (by simp));have hl:=run_loadVar_mid (P:=Tryz.prog) _ (w.heap.size+1) 0 77 (yvL 2 ng (yT mo m mc) G) _ cR.range underlying77 rfl (by kernel_rfl);have HH:Hid (_∧_∧_):=⟨hl,rR,bR⟩;obtain⟨z0,z1,z2,z3⟩:=v2.cs4;have fz0:=v2.f 0;have fz1:=v2.f 1;have fz2:=v2.f 2;have fz3:=v2.f 3;clear hl bR bu cR rR;clear v2 b02 r2
 go_wp2
 obtain⟨hl,rR,bR⟩:=HH.out;exact bodyPost_ret (br results104 rfl hl) rfl ⟨_,rfl,rR,bR⟩
end Go.Proofs.YtpainhklfoaniaaGreatDoor
