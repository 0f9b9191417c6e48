/-
  Texts laid together: Co3, Co21, Co16, Co17, Tx10, Tx2, Co4, Gh5, Gh7, Co22, As3, Pa2.
-/
import Derived.Test.YtdhpndnncmagiaaGreatDoorMa21
import Derived.Test.YtdhpndnncmagiaaGreatDoorMa26
import Derived.Test.YtdhpndnncmagiaaGreatDoorMa29
import Derived.Test.YtdhpndnncmagiaaGreatDoorMa30
set_option maxRecDepth 100000
set_option maxHeartbeats 12800000
namespace Go.Proofs.YtdhpndnncmagiaaGreatDoor
open _root_.Go.Proofs.Tryz
open Go.RowKit
theorem uU (w:World):yC 36 #[yi 1] w (tC w 1 0):=
 kC 1 _ _ _ _ _ _ _ 1 _ _ _ w rfl (jk 1) jG (fun W=>by kernel_rfl)
theorem uV (w:World):yC 36 #[yi 2] w (tC w 2 0):=
 kC 2 _ _ _ _ _ _ _ 1 _ _ _ w rfl (jk 2) jG (fun W=>by kernel_rfl)
theorem uW (w:World):yC 36 #[yi 3] w (tC w 3 0):=
 kC 3 _ _ _ _ _ _ _ 1 _ _ _ w rfl (jk 3) jG (fun W=>by kernel_rfl)
theorem uX (w:World):yC 36 #[yi 4] w (tC w 4 0):=
 kC 4 _ _ _ _ _ _ _ 2 _ _ _ w rfl (jk 4) jG (fun W=>by kernel_rfl)
theorem uY (w:World):yC 36 #[yi 5] w (tC w 5 0):=
 kC 5 _ _ _ _ _ _ _ 2 _ _ _ w rfl (jk 5) jG (fun W=>by kernel_rfl)
theorem uZ (w:World):yC 36 #[yi 6] w (tC w 6 0):=
 kC 6 _ _ _ _ _ _ _ 3 _ _ _ w rfl (jk 6) jG (fun W=>by kernel_rfl)
theorem vf (w:World):yC 36 #[yi 7] w (tC w 7 0):=
 kC 7 _ _ _ _ _ _ _ 3 _ _ _ w rfl (jk 7) jG (fun W=>by kernel_rfl)
theorem vh (w:World):yC 36 #[yi 8] w (tC w 8 0):=
 kC 8 _ _ _ _ _ _ _ 3 _ _ _ w rfl (jk 8) jG (fun W=>by kernel_rfl)
abbrev P9:=other_sign_mg.1
abbrev Uj:=other_sign_mg.2
abbrev aab:=value_c1_mg.1
abbrev aac:=value_c1_mg.2.1
abbrev aad:=value_c1_mg.2.2.1
abbrev aae:=value_c1_mg.2.2.2
theorem pU (k:Nat)(hk:1≤k∧k≤8)(w:World):yC 36 #[yi k] w (tC w k 0):=by
 rcases bO hk with rfl|rfl|rfl|rfl|rfl|rfl|rfl|rfl
 ·exact uU w
 ·exact uV w
 ·exact uW w
 ·exact uX w
 ·exact uY w
 ·exact uZ w
 ·exact vf w
 ·exact vh w
theorem tShort_num (wd md:ByteArray)(dg:Bool)(hv:Nat)(cn pw:Int)(PR:Nat→ByteArray)(mk:Nat→Bool)(n c p:Int)(g:Bool)(M:Nat)(x:ak)(s:ByteArray)(w:World)
  (HR: ∀w1,yB w w1→yC 23 #[yi n,.string s] w1 (Ys w1 c g M p x 0))
  (HW: ∀vo vc w1,yC 24 #[yvV c g (yT vo M vc) p] w1 (yR w1 (.tuple #[.string wd,.bool false])))
  (HE: ∀vo vc w1,yB w w1→Rd w1 .u32 (yT vo M vc) (Dg.dg 4294967296 M)→yC 54 #[yi n,yvV c g (yT vo M vc) p] w1 (yR w1 (.tuple #[.string md,yi 0])))
  (HD: ∀xo xc w1,yB w w1→Rd w1 .u32 (yT xo x.n xc) (Dg.dg 4294967296 x.n)→yC 25 #[yDV x xo xc] w1 (DcR w1 dg hv cn pw))
  (HP: ∀k:Nat,1≤k→k≤60→ ∀ho hc w1,yB w w1→Rd w1 .u32 (yT ho hv hc) (Dg.dg 4294967296 hv)→yC 26 #[.agg #[.bool dg,yT ho hv hc,yi cn,yi pw],yi (k:Int)] w1 (yR w1 (.string (PR k))))
  (HM: ∀k:Nat,yH w 55 #[.string (PR k),yi n,.string md] (.bool (mk k))):
  yC 27 #[yi n,.string s] w (yR w (.tuple #[.string (PR (shF mk 59 1)),yi 0])):=by
 replace HR:Hid _:=HR;replace HW:Hid _:=HW;replace HE:Hid _:=HE;replace HD:Hid _:=HD;replace HP:Hid _:=HP;replace HM:Hid _:=HM;obtain⟨rr,hrr⟩: ∃r,PR (shF mk 59 1)=r:=⟨_,rfl⟩;rw[hrr];replace hrr:Hid _:=hrr
 go_enter func27,ntmps27
 have b0:=Below.refl w.heap.size w
 go_wp2_with fail
 refine(HR.out _ b0).mono ?_;rintro zz w1 ⟨v1x3,v2x4,rfl,r1x5,r2x6,-,bb2⟩;have b7:=aa b0 bb2;obtain⟨vo,vc,hv⟩:=r1x5.shape;subst hv;obtain⟨xo,xc,hv⟩:=r2x6.shape;subst hv;clear b0 bb2 HR;obtain⟨W10,hW9,q11,q12,al8⟩:=iG w1 (yvL c g (yT vo M vc) p) 57 (yDL x xo xc) 59;replace hW9:Hid _:=hW9;have hl13:w.heap.size≤w1.heap.size:=b7.size;have r14:=r1x5.l al8;have r15:=r2x6.l al8;have b16:=aa b7 al8;clear r1x5 r2x6 b7 al8
 go_upto_region 2 with fail
 rw[hW9.out];clear hW9;obtain⟨c17,c18,c19,c20⟩:=q11.cs4
 go_wp2_with fail
 refine(HW.out _ _ _).mono ?_;rintro zz w21 ⟨rfl,bb22⟩;have q23:=q11.l bb22;have q24:=q12.l bb22;have r25:=r14.l bb22;have r26:=r15.l bb22;have b27:=aa b16 bb22;clear q11 q12 r14 r15 b16 bb22 HW c17 c18 c19 c20;obtain⟨c28,c29,c30,c31⟩:=q23.cs4
 go_wp2_with fail
 refine(HE.out _ _ _ b27 r25).mono ?_;rintro zz w32 ⟨rfl,bb33⟩;have q34:=q24.l bb33;have r35:=r26.l bb33;have b36:=aa b27 bb33;clear q23 q24 r25 r26 b27 bb33 HE c28 c29 c30 c31;obtain⟨c37,c38,c39⟩:=q34.cs3
 go_wp2_with fail
 refine(HD.out _ _ _ b36 r35).mono ?_;rintro zz w40 ⟨v1x42,rfl,r1x43,bb41⟩;have b44:=aa b36 bb41;obtain⟨ho,hc,hv⟩:=r1x43.shape;subst hv;clear q34 r35 b36 bb41 HD c37 c38 c39;obtain⟨W47,hW46,q48,al45⟩:=cA w40 [.bool dg,yT ho hv hc,yi cn,yi pw] 66;replace hW46:Hid _:=hW46;have hl49:w.heap.size≤w40.heap.size:=b44.size;have r50:=r1x43.l al45;have b51:=aa b44 al45;clear r1x43 b44 al45
 go_wp2_with fail
 rw[hW46.out];clear hW46;have hS:ShW w (w40.heap.size) [.bool dg,yT ho hv hc,yi cn,yi pw] (yT ho hv hc) hv W47:=⟨b51,q48,r50⟩;clear q48 r50 b51;generalize w40.heap.size=ad at hS⊢;generalize W47=ws at hS⊢
 go_loopw [13] (fun kv wr=> ∃k:Nat,1≤k∧k≤60∧kv=yi (k:Int)∧ShW w ad [.bool dg,yT ho hv hc,yi cn,yi pw] (yT ho hv hc) hv wr∧Hid (shF mk (60-k) k=shF mk 59 1)) (fun kv _=>60-(intOf kv).toNat)
 case atStart=>exact⟨1,by omega,by omega,rfl,hS,rfl⟩
 case round=>
  clear hS;obtain⟨k,hk1,hk2,rfl,hS,hF⟩:=hrel;obtain⟨bz,qd,rh⟩:=hS
  by_cases hlt:k<60
  ·have HPa:=HP.out k hk1 hk2
   have HMa:=HM.out k;obtain⟨pk,hpk⟩: ∃q,PR k=q:=⟨_,rfl⟩;rw[hpk] at HPa HMa;have HPb:=HPa;replace hpk:Hid _:=hpk;replace HPa:Hid _:=HPa;replace HPb:Hid _:=HPb
   cases hm:mk k
   case false=>
    rw[hm] at HMa;replace hm:Hid _:=hm;replace HMa:Hid _:=HMa;obtain⟨c101,c102,c103,c104⟩:=qd.cs4
    go_wp2_with fail
    refine(HPa.out _ _ _ bz rh).mono ?_;rintro zz w105 ⟨rfl,bb106⟩;have q107:=qd.l bb106;have r108:=rh.l bb106;have b109:=aa bz bb106;clear qd rh bz bb106 HPa c101 c102 c103 c104
    go_wp2_with fail
    refine(HMa.out _ b109).mono ?_;rintro zz w110 ⟨rfl,bb111⟩;have q112:=q107.l bb111;have r113:=r108.l bb111;have b114:=aa b109 bb111;clear q107 r108 b109 bb111 HMa
    go_wp2
    go_roundw
    case rel=>exact⟨k+1,by omega,by omega,by go_num,⟨b114,q112,r113⟩,by have e:shF mk ((60-(k+1))+1) k=shF mk (60-(k+1)) (k+1):=if_neg (by rw[hm.out];decide);rw[show(60-(k+1))+1=60-k by omega,hF.out] at e;exact e.symm⟩
    case measure=>simp[intOf];omega
   case true=>
    rw[hm] at HMa;replace hm:Hid _:=hm;replace HMa:Hid _:=HMa;obtain⟨c201,c202,c203,c204⟩:=qd.cs4
    go_wp2_with fail
    refine(HPa.out _ _ _ bz rh).mono ?_;rintro zz w205 ⟨rfl,bb206⟩;have q207:=qd.l bb206;have r208:=rh.l bb206;have b209:=aa bz bb206;clear qd rh bz bb206 HPa c201 c202 c203 c204
    go_wp2_with fail
    refine(HMa.out _ b209).mono ?_;rintro zz w210 ⟨rfl,bb211⟩;have q212:=q207.l bb211;have r213:=r208.l bb211;have b214:=aa b209 bb211;clear q207 r208 b209 bb211 HMa;obtain⟨c215,c216,c217,c218⟩:=q212.cs4
    go_wp2_with fail
    refine(HPb.out _ _ _ b214 r213).mono ?_;rintro zz w219 ⟨rfl,bb220⟩;have b221:=aa b214 bb220;clear q212 r213 b214 bb220 HPb c215 c216 c217 c218
    go_wp2
    go_ret2
    have e:shF mk (60-k) k=k:=by rw[show 60-k=(60-(k+1))+1 by omega];unfold shF;rw[if_pos hm.out]
    rw[←hrr.out,←hF.out,e,hpk.out];exact⟨rfl,b221⟩
  ·obtain rfl:k=60:=by omega
   have HPb:=HP.out 60 hk1 hk2;obtain⟨pk,hpk⟩: ∃q,PR 60=q:=⟨_,rfl⟩;rw[hpk] at HPb;replace hpk:Hid _:=hpk;replace HPb:Hid _:=HPb;obtain⟨c301,c302,c303,c304⟩:=qd.cs4
   go_wp2_with fail
   refine(HPb.out _ _ _ bz rh).mono ?_;rintro zz w305 ⟨rfl,bb306⟩;have b307:=aa bz bb306;clear qd rh bz bb306 HPb c301 c302 c303 c304
   go_wp2
   go_ret2
   rw[←hrr.out,←hF.out,show shF mk (60-60) 60=60 from rfl,hpk.out]
   exact⟨rfl,b307⟩
abbrev tread_okt_n:=tread_okt_n_mg.1
abbrev tread_okf_n:=tread_okt_n_mg.2.1
abbrev tread_dig_n:=tread_okt_n_mg.2.2.1
abbrev tread_pt_n:=tread_okt_n_mg.2.2.2
theorem cgrid_1_mg:
  (∀(w:World),
  yC 39 #[yi 1] w (yR w (.tuple #[ygV 2 24 (-149) 104 true,yi 0])))∧
  (∀(w:World),
  yC 39 #[yi 2] w (yR w (.tuple #[ygV 2 53 (-1074) 971 true,yi 0])))∧
  (∀(w:World),
  yC 39 #[yi 3] w (yR w (.tuple #[ygV 2 64 (-16445) 16320 true,yi 0])))∧
  (∀(w:World),
  yC 39 #[yi 4] w (yR w (.tuple #[ygV 16 6 (-70) 57 false,yi 0])))∧
  (∀(w:World),
  yC 39 #[yi 5] w (yR w (.tuple #[ygV 16 14 (-78) 49 false,yi 0])))∧
  (∀(w:World),
  yC 39 #[yi 6] w (yR w (.tuple #[ygV 2 24 (-151) 103 false,yi 0])))∧
  (∀(w:World),
  yC 39 #[yi 7] w (yR w (.tuple #[ygV 2 56 (-183) 71 false,yi 0])))∧
  (∀(w:World),
  yC 39 #[yi 8] w (yR w (.tuple #[ygV 2 53 (-1076) 970 false,yi 0]))):=by
 refine⟨?_, ?_, ?_, ?_, ?_, ?_, ?_, ?_⟩;have _z:Mgk 0:=mgkI 0
 rotate_left
 have _z:Mgk 1:=mgkI 1
 rotate_left
 have _z:Mgk 2:=mgkI 2
 rotate_left
 have _z:Mgk 3:=mgkI 3
 rotate_left
 have _z:Mgk 4:=mgkI 4
 rotate_left
 have _z:Mgk 5:=mgkI 5
 rotate_left
 have _z:Mgk 6:=mgkI 6
 rotate_left
 rotate_left
 all_goals
  intro w
  first| (rename Mgk 0=>_z;have HL:Hid (yJ 36 #[yi 1] (.tuple #[.agg #[yi 2,yi 24,yi (-149),yi 104,.bool true,yi 4,yi 8,yi 1,.func (.func 139) #[] #[]],yi 0])):=fun w1=>uU w1)| (rename Mgk 1=>_z;have HL:Hid (yJ 36 #[yi 2] (.tuple #[.agg #[yi 2,yi 53,yi (-1074),yi 971,.bool true,yi 8,yi 11,yi 1,.func (.func 139) #[] #[]],yi 0])):=fun w1=>uV w1)| (rename Mgk 2=>_z;have HL:Hid (yJ 36 #[yi 3] (.tuple #[.agg #[yi 2,yi 64,yi (-16445),yi 16320,.bool true,yi 10,yi 15,yi 1,.func (.func 140) #[] #[]],yi 0])):=fun w1=>uW w1)| (rename Mgk 3=>_z;have HL:Hid (yJ 36 #[yi 4] (.tuple #[.agg #[yi 16,yi 6,yi (-70),yi 57,.bool false,yi 4,yi 7,yi 2,.func (.func 139) #[] #[]],yi 0])):=fun w1=>uX w1)| (rename Mgk 4=>_z;have HL:Hid (yJ 36 #[yi 5] (.tuple #[.agg #[yi 16,yi 14,yi (-78),yi 49,.bool false,yi 8,yi 7,yi 2,.func (.func 139) #[] #[]],yi 0])):=fun w1=>uY w1)| (rename Mgk 5=>_z;have HL:Hid (yJ 36 #[yi 6] (.tuple #[.agg #[yi 2,yi 24,yi (-151),yi 103,.bool false,yi 4,yi 8,yi 3,.func (.func 141) #[] #[]],yi 0])):=fun w1=>uZ w1)| (rename Mgk 6=>_z;have HL:Hid (yJ 36 #[yi 7] (.tuple #[.agg #[yi 2,yi 56,yi (-183),yi 71,.bool false,yi 8,yi 8,yi 3,.func (.func 141) #[] #[]],yi 0])):=fun w1=>vf w1)| (have HL:Hid (yJ 36 #[yi 8] (.tuple #[.agg #[yi 2,yi 53,yi (-1076),yi 970,.bool false,yi 8,yi 11,yi 3,.func (.func 141) #[] #[]],yi 0])):=fun w1=>vh w1)
  have hsf:=cD;have hsn:=gn;have l0:=ah w (ygL 0 0 0 0 false) 49;have b0:=af w (.cells (ygA 0 0 0 0 false) 49)
  go_enter func39,ntmps39
  go_wp2_with fail
  refine(HL.out _).mono ?_;rintro z w2 ⟨rfl,b2⟩
  first| (rename Mgk 0=>_z;have l3:=(l0.l b2).l (af w2 (.cells #[yi 2,yi 24,yi (-149),yi 104,.bool true,yi 4,yi 8,yi 1,.func (.func 139) #[] #[]] 94)))| (rename Mgk 1=>_z;have l3:=(l0.l b2).l (af w2 (.cells #[yi 2,yi 53,yi (-1074),yi 971,.bool true,yi 8,yi 11,yi 1,.func (.func 139) #[] #[]] 94)))| (rename Mgk 2=>_z;have l3:=(l0.l b2).l (af w2 (.cells #[yi 2,yi 64,yi (-16445),yi 16320,.bool true,yi 10,yi 15,yi 1,.func (.func 140) #[] #[]] 94)))| (rename Mgk 3=>_z;have l3:=(l0.l b2).l (af w2 (.cells #[yi 16,yi 6,yi (-70),yi 57,.bool false,yi 4,yi 7,yi 2,.func (.func 139) #[] #[]] 94)))| (rename Mgk 4=>_z;have l3:=(l0.l b2).l (af w2 (.cells #[yi 16,yi 14,yi (-78),yi 49,.bool false,yi 8,yi 7,yi 2,.func (.func 139) #[] #[]] 94)))| (rename Mgk 5=>_z;have l3:=(l0.l b2).l (af w2 (.cells #[yi 2,yi 24,yi (-151),yi 103,.bool false,yi 4,yi 8,yi 3,.func (.func 141) #[] #[]] 94)))| (rename Mgk 6=>_z;have l3:=(l0.l b2).l (af w2 (.cells #[yi 2,yi 56,yi (-183),yi 71,.bool false,yi 8,yi 8,yi 3,.func (.func 141) #[] #[]] 94)))| (have l3:=(l0.l b2).l (af w2 (.cells #[yi 2,yi 53,yi (-1076),yi 970,.bool false,yi 8,yi 11,yi 3,.func (.func 141) #[] #[]] 94)))
  first| (rename Mgk 0=>_z;have cR:au ((((((w2.alloc (.cells #[yi 2,yi 24,yi (-149),yi 104,.bool true,yi 4,yi 8,yi 1,.func (.func 139) #[] #[]] 94)).setCell ⟨w.heap.size,0,none⟩ (yi 2)).setCell ⟨w.heap.size,1,none⟩ (yi 24)).setCell ⟨w.heap.size,2,none⟩ (yi (-149))).setCell ⟨w.heap.size,3,none⟩ (yi 104)).setCell ⟨w.heap.size,4,none⟩ (.bool true)) w.heap.size 49 (ygL 2 24 (-149) 104 true):=(((((l3.set 0 (yi 2)).set 1 (yi 24)).set 2 (yi (-149))).set 3 (yi 104)).set 4 (.bool true)))| (rename Mgk 1=>_z;have cR:au ((((((w2.alloc (.cells #[yi 2,yi 53,yi (-1074),yi 971,.bool true,yi 8,yi 11,yi 1,.func (.func 139) #[] #[]] 94)).setCell ⟨w.heap.size,0,none⟩ (yi 2)).setCell ⟨w.heap.size,1,none⟩ (yi 53)).setCell ⟨w.heap.size,2,none⟩ (yi (-1074))).setCell ⟨w.heap.size,3,none⟩ (yi 971)).setCell ⟨w.heap.size,4,none⟩ (.bool true)) w.heap.size 49 (ygL 2 53 (-1074) 971 true):=(((((l3.set 0 (yi 2)).set 1 (yi 53)).set 2 (yi (-1074))).set 3 (yi 971)).set 4 (.bool true)))| (rename Mgk 2=>_z;have cR:au ((((((w2.alloc (.cells #[yi 2,yi 64,yi (-16445),yi 16320,.bool true,yi 10,yi 15,yi 1,.func (.func 140) #[] #[]] 94)).setCell ⟨w.heap.size,0,none⟩ (yi 2)).setCell ⟨w.heap.size,1,none⟩ (yi 64)).setCell ⟨w.heap.size,2,none⟩ (yi (-16445))).setCell ⟨w.heap.size,3,none⟩ (yi 16320)).setCell ⟨w.heap.size,4,none⟩ (.bool true)) w.heap.size 49 (ygL 2 64 (-16445) 16320 true):=(((((l3.set 0 (yi 2)).set 1 (yi 64)).set 2 (yi (-16445))).set 3 (yi 16320)).set 4 (.bool true)))| (rename Mgk 3=>_z;have cR:au ((((((w2.alloc (.cells #[yi 16,yi 6,yi (-70),yi 57,.bool false,yi 4,yi 7,yi 2,.func (.func 139) #[] #[]] 94)).setCell ⟨w.heap.size,0,none⟩ (yi 16)).setCell ⟨w.heap.size,1,none⟩ (yi 6)).setCell ⟨w.heap.size,2,none⟩ (yi (-70))).setCell ⟨w.heap.size,3,none⟩ (yi 57)).setCell ⟨w.heap.size,4,none⟩ (.bool false)) w.heap.size 49 (ygL 16 6 (-70) 57 false):=(((((l3.set 0 (yi 16)).set 1 (yi 6)).set 2 (yi (-70))).set 3 (yi 57)).set 4 (.bool false)))| (rename Mgk 4=>_z;have cR:au ((((((w2.alloc (.cells #[yi 16,yi 14,yi (-78),yi 49,.bool false,yi 8,yi 7,yi 2,.func (.func 139) #[] #[]] 94)).setCell ⟨w.heap.size,0,none⟩ (yi 16)).setCell ⟨w.heap.size,1,none⟩ (yi 14)).setCell ⟨w.heap.size,2,none⟩ (yi (-78))).setCell ⟨w.heap.size,3,none⟩ (yi 49)).setCell ⟨w.heap.size,4,none⟩ (.bool false)) w.heap.size 49 (ygL 16 14 (-78) 49 false):=(((((l3.set 0 (yi 16)).set 1 (yi 14)).set 2 (yi (-78))).set 3 (yi 49)).set 4 (.bool false)))| (rename Mgk 5=>_z;have cR:au ((((((w2.alloc (.cells #[yi 2,yi 24,yi (-151),yi 103,.bool false,yi 4,yi 8,yi 3,.func (.func 141) #[] #[]] 94)).setCell ⟨w.heap.size,0,none⟩ (yi 2)).setCell ⟨w.heap.size,1,none⟩ (yi 24)).setCell ⟨w.heap.size,2,none⟩ (yi (-151))).setCell ⟨w.heap.size,3,none⟩ (yi 103)).setCell ⟨w.heap.size,4,none⟩ (.bool false)) w.heap.size 49 (ygL 2 24 (-151) 103 false):=(((((l3.set 0 (yi 2)).set 1 (yi 24)).set 2 (yi (-151))).set 3 (yi 103)).set 4 (.bool false)))| (rename Mgk 6=>_z;have cR:au ((((((w2.alloc (.cells #[yi 2,yi 56,yi (-183),yi 71,.bool false,yi 8,yi 8,yi 3,.func (.func 141) #[] #[]] 94)).setCell ⟨w.heap.size,0,none⟩ (yi 2)).setCell ⟨w.heap.size,1,none⟩ (yi 56)).setCell ⟨w.heap.size,2,none⟩ (yi (-183))).setCell ⟨w.heap.size,3,none⟩ (yi 71)).setCell ⟨w.heap.size,4,none⟩ (.bool false)) w.heap.size 49 (ygL 2 56 (-183) 71 false):=(((((l3.set 0 (yi 2)).set 1 (yi 56)).set 2 (yi (-183))).set 3 (yi 71)).set 4 (.bool false)))| (have cR:au ((((((w2.alloc (.cells #[yi 2,yi 53,yi (-1076),yi 970,.bool false,yi 8,yi 11,yi 3,.func (.func 141) #[] #[]] 94)).setCell ⟨w.heap.size,0,none⟩ (yi 2)).setCell ⟨w.heap.size,1,none⟩ (yi 53)).setCell ⟨w.heap.size,2,none⟩ (yi (-1076))).setCell ⟨w.heap.size,3,none⟩ (yi 970)).setCell ⟨w.heap.size,4,none⟩ (.bool false)) w.heap.size 49 (ygL 2 53 (-1076) 970 false):=(((((l3.set 0 (yi 2)).set 1 (yi 53)).set 2 (yi (-1076))).set 3 (yi 970)).set 4 (.bool false)))
  first| (rename Mgk 0=>_z;have bR:=(((((ag (w2.alloc (.cells #[yi 2,yi 24,yi (-149),yi 104,.bool true,yi 4,yi 8,yi 1,.func (.func 139) #[] #[]] 94)) w.heap.size 0 (yi 2)).trans (ag _ w.heap.size 1 (yi 24))).trans (ag _ w.heap.size 2 (yi (-149)))).trans (ag _ w.heap.size 3 (yi 104))).trans (ag _ w.heap.size 4 (.bool true))).below (aa (aa b0 b2) (af w2 (.cells #[yi 2,yi 24,yi (-149),yi 104,.bool true,yi 4,yi 8,yi 1,.func (.func 139) #[] #[]] 94))) (Nat.le_refl _))| (rename Mgk 1=>_z;have bR:=(((((ag (w2.alloc (.cells #[yi 2,yi 53,yi (-1074),yi 971,.bool true,yi 8,yi 11,yi 1,.func (.func 139) #[] #[]] 94)) w.heap.size 0 (yi 2)).trans (ag _ w.heap.size 1 (yi 53))).trans (ag _ w.heap.size 2 (yi (-1074)))).trans (ag _ w.heap.size 3 (yi 971))).trans (ag _ w.heap.size 4 (.bool true))).below (aa (aa b0 b2) (af w2 (.cells #[yi 2,yi 53,yi (-1074),yi 971,.bool true,yi 8,yi 11,yi 1,.func (.func 139) #[] #[]] 94))) (Nat.le_refl _))| (rename Mgk 2=>_z;have bR:=(((((ag (w2.alloc (.cells #[yi 2,yi 64,yi (-16445),yi 16320,.bool true,yi 10,yi 15,yi 1,.func (.func 140) #[] #[]] 94)) w.heap.size 0 (yi 2)).trans (ag _ w.heap.size 1 (yi 64))).trans (ag _ w.heap.size 2 (yi (-16445)))).trans (ag _ w.heap.size 3 (yi 16320))).trans (ag _ w.heap.size 4 (.bool true))).below (aa (aa b0 b2) (af w2 (.cells #[yi 2,yi 64,yi (-16445),yi 16320,.bool true,yi 10,yi 15,yi 1,.func (.func 140) #[] #[]] 94))) (Nat.le_refl _))| (rename Mgk 3=>_z;have bR:=(((((ag (w2.alloc (.cells #[yi 16,yi 6,yi (-70),yi 57,.bool false,yi 4,yi 7,yi 2,.func (.func 139) #[] #[]] 94)) w.heap.size 0 (yi 16)).trans (ag _ w.heap.size 1 (yi 6))).trans (ag _ w.heap.size 2 (yi (-70)))).trans (ag _ w.heap.size 3 (yi 57))).trans (ag _ w.heap.size 4 (.bool false))).below (aa (aa b0 b2) (af w2 (.cells #[yi 16,yi 6,yi (-70),yi 57,.bool false,yi 4,yi 7,yi 2,.func (.func 139) #[] #[]] 94))) (Nat.le_refl _))| (rename Mgk 4=>_z;have bR:=(((((ag (w2.alloc (.cells #[yi 16,yi 14,yi (-78),yi 49,.bool false,yi 8,yi 7,yi 2,.func (.func 139) #[] #[]] 94)) w.heap.size 0 (yi 16)).trans (ag _ w.heap.size 1 (yi 14))).trans (ag _ w.heap.size 2 (yi (-78)))).trans (ag _ w.heap.size 3 (yi 49))).trans (ag _ w.heap.size 4 (.bool false))).below (aa (aa b0 b2) (af w2 (.cells #[yi 16,yi 14,yi (-78),yi 49,.bool false,yi 8,yi 7,yi 2,.func (.func 139) #[] #[]] 94))) (Nat.le_refl _))| (rename Mgk 5=>_z;have bR:=(((((ag (w2.alloc (.cells #[yi 2,yi 24,yi (-151),yi 103,.bool false,yi 4,yi 8,yi 3,.func (.func 141) #[] #[]] 94)) w.heap.size 0 (yi 2)).trans (ag _ w.heap.size 1 (yi 24))).trans (ag _ w.heap.size 2 (yi (-151)))).trans (ag _ w.heap.size 3 (yi 103))).trans (ag _ w.heap.size 4 (.bool false))).below (aa (aa b0 b2) (af w2 (.cells #[yi 2,yi 24,yi (-151),yi 103,.bool false,yi 4,yi 8,yi 3,.func (.func 141) #[] #[]] 94))) (Nat.le_refl _))| (rename Mgk 6=>_z;have bR:=(((((ag (w2.alloc (.cells #[yi 2,yi 56,yi (-183),yi 71,.bool false,yi 8,yi 8,yi 3,.func (.func 141) #[] #[]] 94)) w.heap.size 0 (yi 2)).trans (ag _ w.heap.size 1 (yi 56))).trans (ag _ w.heap.size 2 (yi (-183)))).trans (ag _ w.heap.size 3 (yi 71))).trans (ag _ w.heap.size 4 (.bool false))).below (aa (aa b0 b2) (af w2 (.cells #[yi 2,yi 56,yi (-183),yi 71,.bool false,yi 8,yi 8,yi 3,.func (.func 141) #[] #[]] 94))) (Nat.le_refl _))| (have bR:=(((((ag (w2.alloc (.cells #[yi 2,yi 53,yi (-1076),yi 970,.bool false,yi 8,yi 11,yi 3,.func (.func 141) #[] #[]] 94)) w.heap.size 0 (yi 2)).trans (ag _ w.heap.size 1 (yi 53))).trans (ag _ w.heap.size 2 (yi (-1076)))).trans (ag _ w.heap.size 3 (yi 970))).trans (ag _ w.heap.size 4 (.bool false))).below (aa (aa b0 b2) (af w2 (.cells #[yi 2,yi 53,yi (-1076),yi 970,.bool false,yi 8,yi 11,yi 3,.func (.func 141) #[] #[]] 94))) (Nat.le_refl _))
  first| (rename Mgk 0=>_z;have hl:=run_loadVar_mid (P:=Tryz.prog) _ w.heap.size 0 49 (ygL 2 24 (-149) 104 true) _ cR.range underlying49 rfl (by kernel_rfl))| (rename Mgk 1=>_z;have hl:=run_loadVar_mid (P:=Tryz.prog) _ w.heap.size 0 49 (ygL 2 53 (-1074) 971 true) _ cR.range underlying49 rfl (by kernel_rfl))| (rename Mgk 2=>_z;have hl:=run_loadVar_mid (P:=Tryz.prog) _ w.heap.size 0 49 (ygL 2 64 (-16445) 16320 true) _ cR.range underlying49 rfl (by kernel_rfl))| (rename Mgk 3=>_z;have hl:=run_loadVar_mid (P:=Tryz.prog) _ w.heap.size 0 49 (ygL 16 6 (-70) 57 false) _ cR.range underlying49 rfl (by kernel_rfl))| (rename Mgk 4=>_z;have hl:=run_loadVar_mid (P:=Tryz.prog) _ w.heap.size 0 49 (ygL 16 14 (-78) 49 false) _ cR.range underlying49 rfl (by kernel_rfl))| (rename Mgk 5=>_z;have hl:=run_loadVar_mid (P:=Tryz.prog) _ w.heap.size 0 49 (ygL 2 24 (-151) 103 false) _ cR.range underlying49 rfl (by kernel_rfl))| (rename Mgk 6=>_z;have hl:=run_loadVar_mid (P:=Tryz.prog) _ w.heap.size 0 49 (ygL 2 56 (-183) 71 false) _ cR.range underlying49 rfl (by kernel_rfl))| (have hl:=run_loadVar_mid (P:=Tryz.prog) _ w.heap.size 0 49 (ygL 2 53 (-1076) 970 false) _ cR.range underlying49 rfl (by kernel_rfl))
  have HH:Hid (_∧_):=⟨hl,bR⟩;have x0:=l3.c 0 rfl;have f0:=l3.f 0;have x1:=l3.c 1 rfl;have f1:=l3.f 1;have x2:=l3.c 2 rfl;have f2:=l3.f 2;have x3:=l3.c 3 rfl;have f3:=l3.f 3;have x4:=l3.c 4 rfl;have f4:=l3.f 4;have hne:w2.heap.size≠w.heap.size:=Nat.ne_of_gt (l0.l b2).lt;clear hl bR cR l0 l3 b0 b2 HL
  go_wp2
  obtain⟨hl,bR⟩:=HH.out;exact bodyPost_ret (aj results39 rfl rfl hl) rfl ⟨rfl,bR⟩
theorem Ja (R D L G:Int)(gr s:Bool)(ao:Option Addr)(ca:Nat)(xs:List Nat)(e:Int)(w:World)(hr:Rd w .u32 (.slice ao xs.length ca) xs)(sa:Dg.Small 4294967296 xs)(hT:Tab w):
  yC 211 #[ydV s (.slice ao xs.length ca) e,ygV R D L G gr] w (DM w (um xs e R D L G gr) (Zo xs e R D L G gr) (Zp xs e R D L G gr) (onC (aS xs e) (bk R D L G))):=by
 have herr: ¬onC (aS xs e) (bk R D L G)=0→um xs e R D L G gr=false∧Zo xs e R D L G gr=0∧Zp xs e R D L G gr=0:=fun h=>⟨if_neg h,if_neg h,if_neg h⟩
 refine acT R D L G gr s ao _ ca e (aS xs e) (bk R D L G) _ _ _ _ w ?_ ?_ ?_ ?_ ?_ ?_ ?_
 ·intro h
  have h1:onC (aS xs e) (bk R D L G)=aS xs e:=if_neg h;obtain⟨a,b,c⟩:=herr (by rw[h1];exact h);exact⟨a,b,c,h1⟩
 ·intro h h2
  have h1:onC (aS xs e) (bk R D L G)=bk R D L G:=if_pos h;obtain⟨a,b,c⟩:=herr (by rw[h1];exact h2);exact⟨a,b,c,h1⟩
 ·intro h h2
  exact(if_pos h).trans h2
 ·intro w1 b
  exact nS s ao ca xs e w1 (hr.l b)
 ·intro w1
  exact vE R D L G gr w1
 ·intro w1
  exact iK s ao _ ca e w1
 ·intro h h2 w1 b
  have h1:onC (aS xs e) (bk R D L G)=0:=(if_pos h).trans h2;rw[show um xs e R D L G gr=_ from if_pos h1,show Zo xs e R D L G gr=_ from if_pos h1,show Zp xs e R D L G gr=_ from if_pos h1]
  obtain⟨c1,e1,e2⟩:=bL h;obtain⟨n1,l1⟩:=aF c1;have ex:Dg.dg 4294967296 (Dg.vl 4294967296 xs)=xs:=Dg.dg_vl _ (by omega) _ sa n1;have:=VU R D L G gr s ao ca (Dg.vl 4294967296 xs) e w1 h2 (by rw[ex];exact hr.l b) (by rw[ex];exact l1) e1 e2 (hT.l b)
  rwa [ex] at this
theorem qR (R D L G:Int)(gr s:Bool)(ao:Option Addr)(ca:Nat)(xs:List Nat)(e:Int)(w:World)(hr:Rd w .u32 (.slice ao xs.length ca) xs)(sa:Dg.Small 4294967296 xs)(hT:Tab w):
  yC 160 #[ydV s (.slice ao xs.length ca) e,ygV R D L G gr] w (yR w (.tuple #[.bool (um xs e R D L G gr),yi (onC (aS xs e) (bk R D L G))])):=
 aa8 R D L G gr s ao _ ca e _ _ _ _ w (fun w1 b=>Ja R D L G gr s ao ca xs e w1 (hr.l b) sa (hT.l b))
theorem LX (n:Int)(c p:Int)(ng:Bool)(ao:Option Addr)(dn dc:Nat)(w:World)
  (HL:yJ 36 #[yi n] (.tuple #[yzV 0 0 0 0 false 0 0 0,yi 6])):
  yC 54 #[yi n,yvV c ng (.slice ao dn dc) p] w (yR w (.tuple #[.string ⟨#[]⟩,yi 6])):=by
 have hsf:=cD;have hsn:=gn;have m0:=ah w (yvL c ng (.slice ao dn dc) p) 57;have b0:=af w (.cells (yvA c ng (.slice ao dn dc) p) 57);have HL':Hid _:=HL;clear HL
 go_enter func54,ntmps54
 go_wp2_with fail
 refine(HL'.out _).mono ?_;rintro z w1 ⟨rfl,b1⟩;have bq:=af w1 (.cells (yzA 0 0 0 0 false 0 0 0) 94);have m1:=(m0.l b1).l bq;have q1:=ah w1 (yzL 0 0 0 0 false 0 0 0) 94;have b01:=aa (aa b0 b1) bq;obtain⟨u0,u1,u2,u3⟩:=m1.cs4;obtain⟨s0,s1,s2,s3,s4,s5,s6,s7,s8⟩:=q1.cs9;clear m0 b0 b1 bq HL'
 go_wp2
 go_ret2
 exact⟨rfl,b01⟩
theorem abM (n wy R D L G:Int)(gr ng:Bool)(w:World)
  (HO:yJ 195 #[ykV n wy 1 R D L G gr,.bool ng] (.bool true)):
  yC 131 #[ykV n wy 1 R D L G gr,.bool ng] w (iT w 3 ng 0 0):=by
 replace HO:Hid _:=HO;have ad:=af w (.cells (ykA n wy 1 R D L G gr) 83);have av:=af (w.alloc (.cells (ykA n wy 1 R D L G gr) 83)) (.cells (yvA 0 false yN 0) 57);have d0:=(ah w (ykL n wy 1 R D L G gr) 83).l av;have v0:=ah (w.alloc (.cells (ykA n wy 1 R D L G gr) 83)) (yvL 0 false yN 0) 57;rw[World.size_alloc] at v0;have b0:=aa ad av;clear ad av
 go_enter func131,ntmps131
 go_upto_block 0 with fail
 generalize(w.alloc (.cells (ykA n wy 1 R D L G gr) 83)).alloc (.cells (yvA 0 false yN 0) 57)=W0 at d0 v0 b0⊢;obtain⟨y0,y1,y2,y3,y4,y5,y6,y7⟩:=d0.cs8
 go_wp2_with fail
 refine(HO.out _).mono ?_;rintro z w1 ⟨rfl,b1⟩;have v1:=v0.l b1;have b01:=aa b0 b1;clear y0 y1 y2 y3 y4 y5 y6 y7 d0 v0 b0 b1;have cR:au ((((w1.setCell ⟨w.heap.size+1,0,none⟩ (yi 3)).setCell ⟨w.heap.size+1,1,none⟩ (.bool ng)).setCell ⟨w.heap.size+1,2,none⟩ yN).setCell ⟨w.heap.size+1,3,none⟩ (yi 0)) (w.heap.size+1) 57 (yvL 3 ng yN 0):=((((v1.set 0 (yi 3)).set 1 (.bool ng)).set 2 yN).set 3 (yi 0));have bu:=(((ag w1 (w.heap.size+1) 0 (yi 3)).trans (ag _ (w.heap.size+1) 1 (.bool ng))).trans (ag _ (w.heap.size+1) 2 yN)).trans (ag _ (w.heap.size+1) 3 (yi 0));have bR:=bu.below b01 (by omega);have hl:=run_loadVar_mid (P:=Tryz.prog) _ (w.heap.size+1) 0 57 (yvL 3 ng yN 0) _ cR.range underlying57 rfl (by kernel_rfl);have HH:Hid (_∧_):=⟨hl,bR⟩;obtain⟨z0,z1,z2,z3⟩:=v1.cs4;have fz0:=v1.f 0;have fz1:=v1.f 1;have fz2:=v1.f 2;have fz3:=v1.f 3;clear hl bR bu cR;clear v1 b01
 go_wp2
 obtain⟨hl,bR⟩:=HH.out;exact bodyPost_ret (br results131 rfl hl) rfl ⟨_,rfl,aN _ _,bR⟩
theorem abN (n wy R D L G:Int)(gr ng:Bool)(m:Nat)(w:World)
  (HO:yJ 195 #[ykV n wy 1 R D L G gr,.bool ng] (.bool false))
  (HGr: ∀w1,yB w w1→yC 196 #[ykV n wy 1 R D L G gr,.bool ng] w1 (iT w1 2 ng m G)):
  yC 131 #[ykV n wy 1 R D L G gr,.bool ng] w (iT w 2 ng m G):=by
 replace HO:Hid _:=HO;replace HGr:Hid _:=HGr;have ad:=af w (.cells (ykA n wy 1 R D L G gr) 83);have av:=af (w.alloc (.cells (ykA n wy 1 R D L G gr) 83)) (.cells (yvA 0 false yN 0) 57);have d0:=(ah w (ykL n wy 1 R D L G gr) 83).l av;have v0:=ah (w.alloc (.cells (ykA n wy 1 R D L G gr) 83)) (yvL 0 false yN 0) 57;rw[World.size_alloc] at v0;have b0:=aa ad av;clear ad av
 go_enter func131,ntmps131
 go_upto_block 0 with fail
 generalize(w.alloc (.cells (ykA n wy 1 R D L G gr) 83)).alloc (.cells (yvA 0 false yN 0) 57)=W0 at d0 v0 b0⊢;obtain⟨y0,y1,y2,y3,y4,y5,y6,y7⟩:=d0.cs8
 go_wp2_with fail
 refine(HO.out _).mono ?_;rintro z w1 ⟨rfl,b1⟩;have d1:=d0.l b1;have v1:=v0.l b1;have b01:=aa b0 b1;clear y0 y1 y2 y3 y4 y5 y6 y7 d0 v0 b0 b1;obtain⟨y0,y1,y2,y3,y4,y5,y6,y7⟩:=d1.cs8
 go_wp2_with fail
 refine(HGr.out _ b01).mono ?_;rintro z w2 ⟨u,rfl,r2,b2⟩;obtain⟨mo,mc,hu⟩:=r2.shape;subst hu;have v2:=v1.l b2;have b02:=aa b01 b2;clear y0 y1 y2 y3 y4 y5 y6 y7 d1 v1 b01 b2;have cR:au ((((w2.setCell ⟨w.heap.size+1,0,none⟩ (yi 2)).setCell ⟨w.heap.size+1,1,none⟩ (.bool ng)).setCell ⟨w.heap.size+1,2,none⟩ (yT mo m mc)).setCell ⟨w.heap.size+1,3,none⟩ (yi G)) (w.heap.size+1) 57 (yvL 2 ng (yT mo m mc) G):=((((v2.set 0 (yi 2)).set 1 (.bool ng)).set 2 (yT mo m mc)).set 3 (yi G));have bu:=(((ag w2 (w.heap.size+1) 0 (yi 2)).trans (ag _ (w.heap.size+1) 1 (.bool ng))).trans (ag _ (w.heap.size+1) 2 (yT mo m mc))).trans (ag _ (w.heap.size+1) 3 (yi G));have bR:=bu.below b02 (by omega);have rR:=bu.rd r2 (aX r2 v2 (by simp));have hl:=run_loadVar_mid (P:=Tryz.prog) _ (w.heap.size+1) 0 57 (yvL 2 ng (yT mo m mc) G) _ cR.range underlying57 rfl (by kernel_rfl);have HH:Hid (_∧_∧_):=⟨hl,rR,bR⟩;obtain⟨z0,z1,z2,z3⟩:=v2.cs4;have fz0:=v2.f 0;have fz1:=v2.f 1;have fz2:=v2.f 2;have fz3:=v2.f 3;clear hl bR bu cR rR;clear v2 b02 r2
 go_wp2
 obtain⟨hl,rR,bR⟩:=HH.out;exact bodyPost_ret (br results131 rfl hl) rfl ⟨_,rfl,rR,bR⟩
theorem ado (n wy R D L G:Int)(gr ng:Bool)(m:Nat)(w:World)
  (HGr: ∀w1,yB w w1→yC 196 #[ykV n wy 2 R D L G gr,.bool ng] w1 (iT w1 2 ng m G)):
  yC 131 #[ykV n wy 2 R D L G gr,.bool ng] w (iT w 2 ng m G):=by
 replace HGr:Hid _:=HGr;have ad:=af w (.cells (ykA n wy 2 R D L G gr) 83);have av:=af (w.alloc (.cells (ykA n wy 2 R D L G gr) 83)) (.cells (yvA 0 false yN 0) 57);have d0:=(ah w (ykL n wy 2 R D L G gr) 83).l av;have v0:=ah (w.alloc (.cells (ykA n wy 2 R D L G gr) 83)) (yvL 0 false yN 0) 57;rw[World.size_alloc] at v0;have b0:=aa ad av;clear ad av
 go_enter func131,ntmps131
 go_upto_block 0 with fail
 generalize(w.alloc (.cells (ykA n wy 2 R D L G gr) 83)).alloc (.cells (yvA 0 false yN 0) 57)=W0 at d0 v0 b0⊢;obtain⟨y0,y1,y2,y3,y4,y5,y6,y7⟩:=d0.cs8
 go_wp2_with fail
 refine(HGr.out _ b0).mono ?_;rintro z w2 ⟨u,rfl,r2,b2⟩;obtain⟨mo,mc,hu⟩:=r2.shape;subst hu;have v2:=v0.l b2;have b02:=aa b0 b2;clear y0 y1 y2 y3 y4 y5 y6 y7 d0 v0 b0 b2;have cR:au ((((w2.setCell ⟨w.heap.size+1,0,none⟩ (yi 2)).setCell ⟨w.heap.size+1,1,none⟩ (.bool ng)).setCell ⟨w.heap.size+1,2,none⟩ (yT mo m mc)).setCell ⟨w.heap.size+1,3,none⟩ (yi G)) (w.heap.size+1) 57 (yvL 2 ng (yT mo m mc) G):=((((v2.set 0 (yi 2)).set 1 (.bool ng)).set 2 (yT mo m mc)).set 3 (yi G));have bu:=(((ag w2 (w.heap.size+1) 0 (yi 2)).trans (ag _ (w.heap.size+1) 1 (.bool ng))).trans (ag _ (w.heap.size+1) 2 (yT mo m mc))).trans (ag _ (w.heap.size+1) 3 (yi G));have bR:=bu.below b02 (by omega);have rR:=bu.rd r2 (aX r2 v2 (by simp));have hl:=run_loadVar_mid (P:=Tryz.prog) _ (w.heap.size+1) 0 57 (yvL 2 ng (yT mo m mc) G) _ cR.range underlying57 rfl (by kernel_rfl);have HH:Hid (_∧_∧_):=⟨hl,rR,bR⟩;obtain⟨z0,z1,z2,z3⟩:=v2.cs4;have fz0:=v2.f 0;have fz1:=v2.f 1;have fz2:=v2.f 2;have fz3:=v2.f 3;clear hl bR bu cR rR;clear v2 b02 r2
 go_wp2
 obtain⟨hl,rR,bR⟩:=HH.out;exact bodyPost_ret (br results131 rfl hl) rfl ⟨_,rfl,rR,bR⟩
def fY (k:Nat)(wy:Int)(t:ak):fz:=cI (rdN k) (dgN k) (lsI k) (gsI k) (decide (k≤3)) t.s t.n 1 t.e wy
end Go.Proofs.YtdhpndnncmagiaaGreatDoor
