/-
  Texts laid together: Cmp, Dy2, Lk, Dr1, Co6, Co20, Tx9.
-/
import Derived.Test.YtdhpndnncmagiaaGreatDoorMa04
import Derived.Test.YtdhpndnncmagiaaGreatDoorMa05
set_option maxRecDepth 100000
set_option maxHeartbeats 12800000
namespace Go.Proofs.YtdhpndnncmagiaaGreatDoor
open _root_.Go.Proofs.Tryz
open Go.RowKit
theorem jF (va vb:Value)(xs ys:List Nat)(w:World)(ha:Rd w .u32 va xs)(hb:Rd w .u32 vb ys)(sa:Dg.Small 4294967296 xs)(sb:Dg.Small 4294967296 ys)(na:Dg.Norm xs)(nb:Dg.Norm ys):
  yC 51 #[va,vb] w (yR w (yi (dm (Dg.vl 4294967296 xs) (Dg.vl 4294967296 ys)))):=by
 obtain⟨ao,ca,rfl,hla,hma,hca⟩:=ha;obtain⟨bo,cb,rfl,hlb,hmb,hcb⟩:=hb;unfold maxLen at hma hmb;obtain⟨r,hr⟩: ∃r,dm (Dg.vl 4294967296 xs) (Dg.vl 4294967296 ys)=r:=⟨_,rfl⟩;have hc0:=AM (xs.length:Int) (ys.length:Int) w
 by_cases h1:xs.length<ys.length
 ·have hv:=Dg.vl_lt_of_len 4294967296 (by omega) xs ys sa nb h1
  rw[gX (by omega)] at hr;subst hr;rw[gX (by omega)] at hc0;rw[gX (by omega)]
  go_enter func51,ntmps51
  go_wp2_with fail
  refine hc0.mono ?_;rintro e w' ⟨rfl,rfl⟩
  go_wp2
  go_ret
  exact⟨rfl,Below.refl _ _⟩
 ·by_cases h2:ys.length<xs.length
  ·have hv:=Dg.vl_lt_of_len 4294967296 (by omega) ys xs sb na h2
   rw[sO (by omega)] at hc0;rw[sO (by omega)];clear hr
   go_enter func51,ntmps51
   go_wp2_with fail
   refine hc0.mono ?_;rintro e w' ⟨rfl,rfl⟩
   go_wp2
   go_ret
   exact⟨rfl,Below.refl _ _⟩
  ·have hle:xs.length=ys.length:=by omega
   rw[hle,Bh] at hc0;rw[hr];have HR:Hid _:=hr;have HL:Hid _:=hle;rw[hle] at hla hca⊢;clear hr hle h1 h2
   go_enter func51,ntmps51
   go_wp2_with fail
   refine hc0.mono ?_;rintro e w' ⟨rfl,rfl⟩;clear hc0
   go_wp2
   go_loopw [6] (fun iv wr=> ∃k:Nat,k≤ys.length∧iv=yi ((k:Int)-1)∧Hid (∀j,k≤j→xs.getD j 0=ys.getD j 0)∧Below w'.heap.size w' wr) (fun iv _=>(intOf iv+1).toNat)
   case atStart=>exact⟨ys.length,Nat.le_refl _,rfl,fun j hj=>by rw[Dg.getD_of_le xs j (by rw[HL.out];exact hj),Dg.getD_of_le ys j hj],Below.refl _ _⟩
   case round=>
    obtain⟨k,hk,rfl,hall,bel⟩:=hrel
    by_cases hk0:k=0
    ·subst hk0
     have he:=Dg.eq_of_all xs ys HL.out (fun j=>hall j (by omega))
     have hr0:r=0:=by rw[←HR.out,he,Bh]
     subst hr0;clear he
     go_wp2
     go_ret
     exact⟨rfl,bel⟩
    ·obtain⟨m,rfl⟩: ∃m,k=m+1:=⟨k-1,by omega⟩
     obtain⟨b,off,rfl,hcell⟩:=hca (by omega);obtain⟨b2,off2,rfl,hcell2⟩:=hcb (by omega);have hx:=cell_later bel (hcell m (by omega));have hy:=cell_later bel (hcell2 m (by omega));have hst:xs.getD m 0<ys.getD m 0→dm (Dg.vl 4294967296 xs) (Dg.vl 4294967296 ys)= -1:=fun h=>
      gX (by have:=Dg.vl_lt_of_digit 4294967296 xs ys m HL.out (by rw[HL.out];omega) hall h sa;omega)
     have hst2:ys.getD m 0<xs.getD m 0→dm (Dg.vl 4294967296 xs) (Dg.vl 4294967296 ys)=1:=fun h=>
      sO (by have:=Dg.vl_lt_of_digit 4294967296 ys xs m HL.out.symm (by omega) (fun j hj=>(hall j hj).symm) h sb;omega)
     rw[HR.out] at hst hst2;obtain⟨x,ex⟩: ∃x,xs.getD m 0=x:=⟨_,rfl⟩;obtain⟨y,ey⟩: ∃y,ys.getD m 0=y:=⟨_,rfl⟩;have HX:Hid _:=ex;have HY:Hid _:=ey;rw[ex] at hx hst hst2;rw[ey] at hy hst hst2;clear ex ey hcell hcell2 hca hcb;have hcm:=fun wx=>RF (x:Int) (y:Int) wx
     have hmI:((m+1:Nat):Int)-1=(m:Int):=by omega
     by_cases hxy:x<y
     ·have hr1:=hst hxy
      subst hr1;rw[gX (by omega)] at hcm;clear hst hst2
      go_wp2
      go_quiet ((go_at_call 88;exact Calls.quiet_of_same (hcm _)))
      go_wp2
      go_ret
      exact⟨rfl,aL bel _⟩
     ·by_cases hyx:y<x
      ·have hr1:=hst2 hyx
       subst hr1;rw[sO (by omega)] at hcm;clear hst hst2
       go_wp2
       go_quiet ((go_at_call 88;exact Calls.quiet_of_same (hcm _)))
       go_wp2
       go_ret
       exact⟨rfl,aL bel _⟩
      ·have hxe:x=y:=by omega
       subst hxe;rw[Bh] at hcm;clear hst hst2
       go_wp2
       go_quiet ((go_at_call 88;exact Calls.quiet_of_same (hcm _)))
       go_wp2
       go_roundw
       case rel=>exact⟨m,by omega,by go_num,fun j hj=>by
        by_cases e:j=m
        ·rw[e];exact HX.out.trans HY.out.symm
        ·exact hall j (by omega),aL bel _⟩
       case measure=>simp[intOf]
theorem Dv.l {w w':World}{v:Value}{t:ak}(h:Dv w v t)(hb:yB w w'):Dv w' v t:=by
 obtain⟨s,hv,hr⟩:=h;exact⟨s,hv,hr.l hb⟩
theorem Loc.l {w w':World}{b:Nat}{v0 v1 v2:Value}(h:Loc w b v0 v1 v2)(hb:yB w w'):Loc w' b v0 v1 v2:=by
 obtain⟨hl,⟨c0,c1,c2⟩,f0,f1,f2⟩:=h;have hk:=hb.block b hl;refine⟨Nat.lt_of_lt_of_le hl hb.size,⟨cell_later hb c0,cell_later hb c1,cell_later hb c2⟩, ?_, ?_, ?_⟩
 ·rw[World.frozen?_of_block (w:=w) (a:=⟨b,0,none⟩) hk];exact f0
 ·rw[World.frozen?_of_block (w:=w) (a:=⟨b,1,none⟩) hk];exact f1
 ·rw[World.frozen?_of_block (w:=w) (a:=⟨b,2,none⟩) hk];exact f2
theorem au.l {w w':World}{b:Nat}{ty:TypeId}{vs:List Value}(h:au w b ty vs)(hb:yB w w'):au w' b ty vs:=(hb.block b h.lt).trans h
theorem au.drew {w:World}{b:Nat}{ty:TypeId}{vs:List Value}(h:au w b ty vs):au w.drew b ty vs:=h.l (Below.refl _ _).drew
theorem Rv.l {w w':World}{v:Value}{t:ak}(h:Rv w v t)(hb:yB w w'):Rv w' v t:=by
 obtain⟨s,hv,hr⟩:=h;exact⟨s,hv,hr.l hb⟩
theorem ZB.l {w w':World}{b:Nat}(h:ZB w b)(hb:yB w w'):ZB w' b:=by
 obtain⟨hl,ty,hh⟩:=h;exact⟨Nat.lt_of_lt_of_le hl hb.size,ty,(hb.block b hl).trans hh⟩
theorem ik.l {w w':World}{g:Nat}{zs:List Nat}(h:ik w g zs)(hb:yB w w'):ik w' g zs:=
 ⟨fun i hi=>cell_later hb (h.c i hi),fun i hi=>(Eu (hb.block g h.lt)).trans (h.f i hi),Nat.lt_of_lt_of_le h.lt hb.size⟩
theorem ik.drew {w:World}{g:Nat}{zs:List Nat}(h:ik w g zs):ik w.drew g zs:=h.l (Below.refl _ _).drew
theorem XU.l {w w1 w2:World}{lv:List Value}(h:XU w lv w1)(b:yB w1 w2):XU w lv w2:=⟨h.ly.l b,h.m.l b,aa h.b b⟩
theorem tprint_W (ng od:Bool)(hv Pn U f r r2 f1 gq n:Nat)(ho:Option Addr)(hc:Nat)(cn pw k c pw1:Int)(T:ByteArray)(ia:Int→ByteArray)(w:World)(rh:Rd w .u32 (yT ho hv hc) (Dg.dg 4294967296 hv))(hk:IntKind.i64.wrap (cn-(n:Int))=k)(hpw:IntKind.i64.wrap (pw+1)=pw1)(hn:1≤n∧n≤60)(hT:1≤T.size∧T.size≤100)(hia:(ia pw).size≤100∧(ia pw1).size≤100)
  (hcase:(0<c∧f1=gq)∨(c=0∧od=true∧f1=gq)∨(c=0∧od=false∧f=gq)∨(c<0∧f=gq))
  (HP: ∀q w1,au w1 q 116 [.int .u32 10]→yC 49 #[.slice (some ⟨q,0,none⟩) 1 1,yi k] w1 (NmR w1 Pn))
  (HS: ∀po pc w1,Rd w1 .u32 (yT po Pn pc) (Dg.dg 4294967296 Pn)→yC 47 #[yT po Pn pc,yi 1] w1 (NmR w1 U))
  (HO: ∀ho hc uo uc w1,Rd w1 .u32 (yT ho hv hc) (Dg.dg 4294967296 hv)→Rd w1 .u32 (yT uo U uc) (Dg.dg 4294967296 U)→yC 50 #[yT ho hv hc,yT uo U uc] w1 (TwR w1 f r))
  (HR: ∀ro rc w1,Rd w1 .u32 (yT ro r rc) (Dg.dg 4294967296 r)→yC 47 #[yT ro r rc,yi 1] w1 (NmR w1 r2))
  (HC: ∀so sc uo uc w1,Rd w1 .u32 (yT so r2 sc) (Dg.dg 4294967296 r2)→Rd w1 .u32 (yT uo U uc) (Dg.dg 4294967296 U)→yC 51 #[yT so r2 sc,yT uo U uc] w1 (yR w1 (yi c)))
  (HX: ∀fo fc w1,Rd w1 .u32 (yT fo f fc) (Dg.dg 4294967296 f)→yC 52 #[yT fo f fc] w1 (yR w1 (.bool od)))
  (HA: ∀fo fc q w1,Rd w1 .u32 (yT fo f fc) (Dg.dg 4294967296 f)→au w1 q 116 [.int .u32 1]→yC 48 #[yT fo f fc,.slice (some ⟨q,0,none⟩) 1 1] w1 (NmR w1 f1))
  (HD: ∀go gc w1,Rd w1 .u32 (yT go gq gc) (Dg.dg 4294967296 gq)→yC 46 #[yT go gq gc] w1 (yR w1 (.string T)))
  (HI:(yH w 53 #[yi pw] (.string (ia pw)))∧yH w 53 #[yi pw1] (.string (ia pw1))):
  yC 26 #[.agg #[.bool ng,yT ho hv hc,yi cn,yi pw],yi n] w (yR w (.string (tpS ng T n (ia (if n<T.size then pw1 else pw))))):=by
 replace HP:Hid _:=HP;replace HS:Hid _:=HS;replace HO:Hid _:=HO;replace HR:Hid _:=HR;replace HC:Hid _:=HC;replace HX:Hid _:=HX;replace HA:Hid _:=HA;replace HD:Hid _:=HD;replace HI:Hid _:=HI;replace hcase:Hid _:=hcase;replace hia:Hid _:=hia;obtain⟨st,hst⟩: ∃st,tpS ng T n (ia (if n<T.size then pw1 else pw))=st:=⟨_,rfl⟩
 rw[hst];replace hst:Hid _:=hst;have hn1:=hn.1;have hn2:=hn.2;have hT1:=hT.1;have hT2:=hT.2;clear hn hT;obtain⟨W3,hW4,q1,b2⟩:=cA w [.bool ng,yT ho hv hc,yi cn,yi pw] 66;replace hW4:Hid _:=hW4;have r5:=rh.l b2;clear rh
 go_enter func26,ntmps26
 go_upto_region 1 with fail
 rw[hW4.out];clear hW4;have hl8:=q1.lt;have al6:=af W3 (.cells #[.int .u32 10] 116);have q7:=ah W3 [.int .u32 10] 116;have q9:=q1.l al6;have r10:=r5.l al6;have b11:=aa b2 al6;have c12:=q9.c 2 rfl
 go_wp2_with fail
 refine(HP.out _ _ q7).mono ?_;rintro zz w13 ⟨v1x15,rfl,r1x16,bb14⟩;have q17:=q9.l bb14;have r18:=r10.l bb14;have b19:=aa b11 bb14;obtain⟨po,pc,hv⟩:=r1x16.shape;subst hv;clear q9 q7 r10 b11 bb14 HP c12 q1 r5 b2 al6
 go_wp2_with fail
 refine(HS.out _ _ _ r1x16).mono ?_;rintro zz w20 ⟨v1x22,rfl,r1x23,bb21⟩;have q24:=q17.l bb21;have r25:=r18.l bb21;have b26:=aa b19 bb21;obtain⟨uo,uc,hv⟩:=r1x23.shape;subst hv;clear q17 r18 r1x16 b19 bb21 HS;have c27:=q24.c 1 rfl
 go_wp2_with fail
 refine(HO.out _ _ _ _ _ r25 r1x23).mono ?_;rintro zz w28 ⟨v1x30,v2x31,rfl,r1x32,r2x33,bb29⟩;have q34:=q24.l bb29;have r35:=r1x23.l bb29;have b36:=aa b26 bb29;obtain⟨fo,fc,hv⟩:=r1x32.shape;subst hv;obtain⟨ro,rc,hv⟩:=r2x33.shape;subst hv;clear q24 r25 r1x23 b26 bb29 HO c27
 go_wp2_with fail
 refine(HR.out _ _ _ r2x33).mono ?_;rintro zz w37 ⟨v1x39,rfl,r1x40,bb38⟩;have q41:=q34.l bb38;have r42:=r35.l bb38;have r43:=r1x32.l bb38;have b44:=aa b36 bb38;obtain⟨so,sc,hv⟩:=r1x40.shape;subst hv;clear q34 r35 r1x32 r2x33 b36 bb38 HR
 go_wp2_with fail
 refine(HC.out _ _ _ _ _ r1x40 r42).mono ?_;rintro zz w45 ⟨rfl,bb46⟩;have q47:=q41.l bb46;have r48:=r43.l bb46;have b49:=aa b44 bb46;clear q41 r42 r43 r1x40 b44 bb46 HC
 rcases hcase.out with⟨h1,rfl⟩| ⟨rfl,rfl,rfl⟩| ⟨rfl,rfl,rfl⟩| ⟨h1,rfl⟩
 case' inl=>
  have hl203:=q47.lt;have al201:=af w45 (.cells #[.int .u32 1] 116);have q202:=ah w45 [.int .u32 1] 116;have q204:=q47.l al201;have r205:=r48.l al201;have b206:=aa b49 al201
  go_wp2_with fail
  refine(HA.out _ _ _ _ r205 q202).mono ?_;rintro zz w207 ⟨v1x209,rfl,r1x210,bb208⟩;have q211:=q204.l bb208;have b212:=aa b206 bb208;obtain⟨ao,ac,hv⟩:=r1x210.shape;subst hv;clear q204 q202 r205 b206 bb208 HA q47 r48 b49 al201
  go_upto_region 6 with fail
  have bW213:yB w207 w207.drew:=(Below.refl _ _).drew;have q214:=q211.l bW213;have r215:=r1x210.l bW213;have b216:=aa b212 bW213;clear q211 r1x210 b212 bW213;refine wp_region_held_drew (S:=fun wq=>au wq w.heap.size 66 [.bool ng,yT ho hv hc,yi cn,yi pw]) (by kernel_rfl) q214 (fun hS0=> ?_)
  generalize w207.drew=WD217 at q214 r215 b216 hS0⊢;refine tq 0 (yT ao f1 ac) rfl (fun _ _=>by kernel_rfl) hS0 ?_
  refine tq 2 (.pointer (some ⟨w.heap.size,3,none⟩)) rfl (fun _ _=>by kernel_rfl) hS0 ?_
  refine tq 3 (yi pw) rfl (fun _ hw0=>gU 3 (.tmp 44) rfl w.heap.size 3 (by kernel_rfl) _ _ underlying3 rfl (hw0.c 3 rfl)) hS0 ?_
  refine wpAnyH_ready (rs:=[1]) (by kernel_rfl) (by simp) ?_;refine AllReadyH.cons rfl (fun K hK=> ?_) AllReadyH.nil
  go_simp
  refine(HD.out _ _ _ r215).mono ?_;rintro zz w218 ⟨rfl,bb219⟩;have q220:=q214.l bb219;have b221:=aa b216 bb219;clear q214 r215 b216 bb219 HD;refine hK.out _ _ q220 (fun hS222=> ?_)
  clear hK K;refine tq 4 (.string T) rfl (fun _ _=>by kernel_rfl) hS222 ?_
  refine tq 5 (yi pw) rfl (fun _ _=>by kernel_rfl) hS222 ?_
  refine wpAnyH_done (by kernel_rfl) ?_ _;clear hS0 hS222;simp only[Act.put,List.getElem_toArray,List.getElem_cons_succ,List.getElem_cons_zero,List.setIfInBounds_toArray,List.set_cons_zero,List.set_cons_succ];have qz:=q220;have bz:=b221;clear q220 b221;obtain⟨wz,hwz⟩: ∃x,x=w218:=⟨_,rfl⟩;subst hwz;clear h1
 case' inr.inl=>
  go_wp2_with fail
  refine(HX.out _ _ _ r48).mono ?_;rintro zz w201 ⟨rfl,bb202⟩;have q203:=q47.l bb202;have r204:=r48.l bb202;have b205:=aa b49 bb202;clear q47 r48 b49 bb202 HX;have hl208:=q203.lt;have al206:=af w201 (.cells #[.int .u32 1] 116);have q207:=ah w201 [.int .u32 1] 116;have q209:=q203.l al206;have r210:=r204.l al206;have b211:=aa b205 al206
  go_wp2_with fail
  refine(HA.out _ _ _ _ r210 q207).mono ?_;rintro zz w212 ⟨v1x214,rfl,r1x215,bb213⟩;have q216:=q209.l bb213;have b217:=aa b211 bb213;obtain⟨ao,ac,hv⟩:=r1x215.shape;subst hv;clear q209 q207 r210 b211 bb213 HA q203 r204 b205 al206
  go_upto_region 6 with fail
  have bW218:yB w212 w212.drew:=(Below.refl _ _).drew;have q219:=q216.l bW218;have r220:=r1x215.l bW218;have b221:=aa b217 bW218;clear q216 r1x215 b217 bW218;refine wp_region_held_drew (S:=fun wq=>au wq w.heap.size 66 [.bool ng,yT ho hv hc,yi cn,yi pw]) (by kernel_rfl) q219 (fun hS0=> ?_)
  generalize w212.drew=WD222 at q219 r220 b221 hS0⊢;refine tq 0 (yT ao f1 ac) rfl (fun _ _=>by kernel_rfl) hS0 ?_
  refine tq 2 (.pointer (some ⟨w.heap.size,3,none⟩)) rfl (fun _ _=>by kernel_rfl) hS0 ?_
  refine tq 3 (yi pw) rfl (fun _ hw0=>gU 3 (.tmp 44) rfl w.heap.size 3 (by kernel_rfl) _ _ underlying3 rfl (hw0.c 3 rfl)) hS0 ?_
  refine wpAnyH_ready (rs:=[1]) (by kernel_rfl) (by simp) ?_;refine AllReadyH.cons rfl (fun K hK=> ?_) AllReadyH.nil
  go_simp
  refine(HD.out _ _ _ r220).mono ?_;rintro zz w223 ⟨rfl,bb224⟩;have q225:=q219.l bb224;have b226:=aa b221 bb224;clear q219 r220 b221 bb224 HD;refine hK.out _ _ q225 (fun hS227=> ?_)
  clear hK K;refine tq 4 (.string T) rfl (fun _ _=>by kernel_rfl) hS227 ?_
  refine tq 5 (yi pw) rfl (fun _ _=>by kernel_rfl) hS227 ?_
  refine wpAnyH_done (by kernel_rfl) ?_ _;clear hS0 hS227;simp only[Act.put,List.getElem_toArray,List.getElem_cons_succ,List.getElem_cons_zero,List.setIfInBounds_toArray,List.set_cons_zero,List.set_cons_succ];have qz:=q225;have bz:=b226;clear q225 b226;obtain⟨wz,hwz⟩: ∃x,x=w223:=⟨_,rfl⟩;subst hwz
 case' inr.inr.inl=>
  go_wp2_with fail
  refine(HX.out _ _ _ r48).mono ?_;rintro zz w201 ⟨rfl,bb202⟩;have q203:=q47.l bb202;have r204:=r48.l bb202;have b205:=aa b49 bb202;clear q47 r48 b49 bb202 HX
  go_upto_region 6 with fail
  have bW206:yB w201 w201.drew:=(Below.refl _ _).drew;have q207:=q203.l bW206;have r208:=r204.l bW206;have b209:=aa b205 bW206;clear q203 r204 b205 bW206;refine wp_region_held_drew (S:=fun wq=>au wq w.heap.size 66 [.bool ng,yT ho hv hc,yi cn,yi pw]) (by kernel_rfl) q207 (fun hS0=> ?_)
  generalize w201.drew=WD210 at q207 r208 b209 hS0⊢;refine tq 0 (yT fo f fc) rfl (fun _ _=>by kernel_rfl) hS0 ?_
  refine tq 2 (.pointer (some ⟨w.heap.size,3,none⟩)) rfl (fun _ _=>by kernel_rfl) hS0 ?_
  refine tq 3 (yi pw) rfl (fun _ hw0=>gU 3 (.tmp 44) rfl w.heap.size 3 (by kernel_rfl) _ _ underlying3 rfl (hw0.c 3 rfl)) hS0 ?_
  refine wpAnyH_ready (rs:=[1]) (by kernel_rfl) (by simp) ?_;refine AllReadyH.cons rfl (fun K hK=> ?_) AllReadyH.nil
  go_simp
  refine(HD.out _ _ _ r208).mono ?_;rintro zz w211 ⟨rfl,bb212⟩;have q213:=q207.l bb212;have b214:=aa b209 bb212;clear q207 r208 b209 bb212 HD;refine hK.out _ _ q213 (fun hS215=> ?_)
  clear hK K;refine tq 4 (.string T) rfl (fun _ _=>by kernel_rfl) hS215 ?_
  refine tq 5 (yi pw) rfl (fun _ _=>by kernel_rfl) hS215 ?_
  refine wpAnyH_done (by kernel_rfl) ?_ _;clear hS0 hS215;simp only[Act.put,List.getElem_toArray,List.getElem_cons_succ,List.getElem_cons_zero,List.setIfInBounds_toArray,List.set_cons_zero,List.set_cons_succ];have qz:=q213;have bz:=b214;clear q213 b214;obtain⟨wz,hwz⟩: ∃x,x=w211:=⟨_,rfl⟩;subst hwz
 case' inr.inr.inr=>
  have h0: ¬0<c:=by omega
  have h00:(c==0)=false:=by rw[beq_eq_false_iff_ne];omega
  clear h1
  go_upto_region 6 with fail
  have bW201:yB w45 w45.drew:=(Below.refl _ _).drew;have q202:=q47.l bW201;have r203:=r48.l bW201;have b204:=aa b49 bW201;clear q47 r48 b49 bW201;refine wp_region_held_drew (S:=fun wq=>au wq w.heap.size 66 [.bool ng,yT ho hv hc,yi cn,yi pw]) (by kernel_rfl) q202 (fun hS0=> ?_)
  generalize w45.drew=WD205 at q202 r203 b204 hS0⊢;refine tq 0 (yT fo f fc) rfl (fun _ _=>by kernel_rfl) hS0 ?_
  refine tq 2 (.pointer (some ⟨w.heap.size,3,none⟩)) rfl (fun _ _=>by kernel_rfl) hS0 ?_
  refine tq 3 (yi pw) rfl (fun _ hw0=>gU 3 (.tmp 44) rfl w.heap.size 3 (by kernel_rfl) _ _ underlying3 rfl (hw0.c 3 rfl)) hS0 ?_
  refine wpAnyH_ready (rs:=[1]) (by kernel_rfl) (by simp) ?_;refine AllReadyH.cons rfl (fun K hK=> ?_) AllReadyH.nil
  go_simp
  refine(HD.out _ _ _ r203).mono ?_;rintro zz w206 ⟨rfl,bb207⟩;have q208:=q202.l bb207;have b209:=aa b204 bb207;clear q202 r203 b204 bb207 HD;refine hK.out _ _ q208 (fun hS210=> ?_)
  clear hK K;refine tq 4 (.string T) rfl (fun _ _=>by kernel_rfl) hS210 ?_
  refine tq 5 (yi pw) rfl (fun _ _=>by kernel_rfl) hS210 ?_
  refine wpAnyH_done (by kernel_rfl) ?_ _;clear hS0 hS210;simp only[Act.put,List.getElem_toArray,List.getElem_cons_succ,List.getElem_cons_zero,List.setIfInBounds_toArray,List.set_cons_zero,List.set_cons_succ];have qz:=q208;have bz:=b209;clear q208 b209;obtain⟨wz,hwz⟩: ∃x,x=w206:=⟨_,rfl⟩;subst hwz;clear h0 h00
 all_goals
  clear hcase
  by_cases hlt:n<T.size
  ·have HIa:=HI.out.2
   have hii:=hia.out.2;obtain⟨ii,hi⟩: ∃x,ia pw1=x:=⟨_,rfl⟩;rw[hi] at HIa hii;replace HIa:Hid _:=HIa;replace hi:Hid _:=hi;have hsz:(T.extract 0 n).size=n:=by rw[ByteArray.size_extract];omega
   by_cases hgt:1<n
   ·cases ng
    case false=>
     go_upto_region 10 with fail
     have bW501:yB wz wz.drew:=(Below.refl _ _).drew;have q502:=qz.l bW501;have b503:=aa bz bW501;clear qz bz bW501;refine wp_region_held_drew (S:=fun _=>True) (by kernel_rfl) trivial (fun hS0=> ?_)
     generalize wz.drew=WD504 at q502 b503 hS0⊢;refine tq 0 (.string (T.extract 0 n)) rfl (fun _ _=>by kernel_rfl) hS0 ?_
     refine tq 1 (.string ((T.extract 0 n).extract 0 1)) rfl (fun _ _=>by go_simp<;>first|omega| (intro hh;omega)) hS0 ?_
     refine tq 2 (.string (((T.extract 0 n).extract 0 1)++⟨#[46]⟩)) rfl (fun _ _=>by go_simp<;>first|omega| (intro hh;omega)) hS0 ?_
     refine tq 3 (.string (T.extract 0 n)) rfl (fun _ _=>by kernel_rfl) hS0 ?_
     refine tq 4 (.string ((T.extract 0 n).extract 1 (T.extract 0 n).size)) rfl (fun _ _=>by go_simp<;>first|omega| (intro hh;omega)) hS0 ?_
     refine tq 5 (.string ((((T.extract 0 n).extract 0 1)++⟨#[46]⟩)++((T.extract 0 n).extract 1 (T.extract 0 n).size))) rfl (fun _ _=>by go_simp<;>first|omega| (intro hh;omega)) hS0 ?_
     refine tq 6 (.string ((((T.extract 0 n).extract 0 1)++⟨#[46]⟩)++((T.extract 0 n).extract 1 (T.extract 0 n).size))) rfl (fun _ _=>by kernel_rfl) hS0 ?_
     refine wpAnyH_done (by kernel_rfl) ?_ _;clear hS0;simp only[Act.put,List.getElem_toArray,List.getElem_cons_succ,List.getElem_cons_zero,List.setIfInBounds_toArray,List.set_cons_zero,List.set_cons_succ];have c505:=q502.c 0 rfl
     go_wp2_with fail
     refine(HIa.out _ b503).mono ?_;rintro zz w506 ⟨rfl,bb507⟩;have b508:=aa b503 bb507;clear q502 b503 bb507 HIa c505
     go_wp2
     go_ret
     rw[←hst.out];unfold tpS tpG tpP tpT;simp only[if_pos hlt,if_pos hgt,if_neg Bool.false_ne_true,hi.out];exact⟨by simp[Nat.min_eq_left (Nat.le_of_lt hlt)],b508⟩
    case true=>
     go_upto_region 10 with fail
     have bW501:yB wz wz.drew:=(Below.refl _ _).drew;have q502:=qz.l bW501;have b503:=aa bz bW501;clear qz bz bW501;refine wp_region_held_drew (S:=fun _=>True) (by kernel_rfl) trivial (fun hS0=> ?_)
     generalize wz.drew=WD504 at q502 b503 hS0⊢;refine tq 0 (.string (T.extract 0 n)) rfl (fun _ _=>by kernel_rfl) hS0 ?_
     refine tq 1 (.string ((T.extract 0 n).extract 0 1)) rfl (fun _ _=>by go_simp<;>first|omega| (intro hh;omega)) hS0 ?_
     refine tq 2 (.string (((T.extract 0 n).extract 0 1)++⟨#[46]⟩)) rfl (fun _ _=>by go_simp<;>first|omega| (intro hh;omega)) hS0 ?_
     refine tq 3 (.string (T.extract 0 n)) rfl (fun _ _=>by kernel_rfl) hS0 ?_
     refine tq 4 (.string ((T.extract 0 n).extract 1 (T.extract 0 n).size)) rfl (fun _ _=>by go_simp<;>first|omega| (intro hh;omega)) hS0 ?_
     refine tq 5 (.string ((((T.extract 0 n).extract 0 1)++⟨#[46]⟩)++((T.extract 0 n).extract 1 (T.extract 0 n).size))) rfl (fun _ _=>by go_simp<;>first|omega| (intro hh;omega)) hS0 ?_
     refine tq 6 (.string ((((T.extract 0 n).extract 0 1)++⟨#[46]⟩)++((T.extract 0 n).extract 1 (T.extract 0 n).size))) rfl (fun _ _=>by kernel_rfl) hS0 ?_
     refine wpAnyH_done (by kernel_rfl) ?_ _;clear hS0;simp only[Act.put,List.getElem_toArray,List.getElem_cons_succ,List.getElem_cons_zero,List.setIfInBounds_toArray,List.set_cons_zero,List.set_cons_succ];have c505:=q502.c 0 rfl
     go_wp2_with fail
     refine(HIa.out _ b503).mono ?_;rintro zz w506 ⟨rfl,bb507⟩;have b508:=aa b503 bb507;clear q502 b503 bb507 HIa c505
     go_wp2
     go_ret
     rw[←hst.out];unfold tpS tpG tpP tpT;simp only[if_pos hlt,if_pos hgt,hi.out];exact⟨by simp[Nat.min_eq_left (Nat.le_of_lt hlt)],b508⟩
   ·cases ng
    case false=>
     have c501:=qz.c 0 rfl
     go_wp2_with fail
     refine(HIa.out _ bz).mono ?_;rintro zz w502 ⟨rfl,bb503⟩;have b504:=aa bz bb503;clear qz bz bb503 HIa c501
     go_wp2
     go_ret
     rw[←hst.out];unfold tpS tpG tpP tpT;simp only[if_pos hlt,if_neg hgt,if_neg Bool.false_ne_true,hi.out];exact⟨by simp,b504⟩
    case true=>
     have c501:=qz.c 0 rfl
     go_wp2_with fail
     refine(HIa.out _ bz).mono ?_;rintro zz w502 ⟨rfl,bb503⟩;have b504:=aa bz bb503;clear qz bz bb503 HIa c501
     go_wp2
     go_ret
     rw[←hst.out];unfold tpS tpG tpP tpT;simp only[if_pos hlt,if_neg hgt,hi.out];exact⟨by simp,b504⟩
  ·have HIa:=HI.out.1
   have hii:=hia.out.1;obtain⟨ii,hi⟩: ∃x,ia pw=x:=⟨_,rfl⟩;rw[hi] at HIa hii;replace HIa:Hid _:=HIa;replace hi:Hid _:=hi
   by_cases hgt:1<n
   ·cases ng
    case false=>
     go_upto_region 10 with fail
     have bW501:yB wz wz.drew:=(Below.refl _ _).drew;have q502:=qz.l bW501;have b503:=aa bz bW501;clear qz bz bW501;refine wp_region_held_drew (S:=fun _=>True) (by kernel_rfl) trivial (fun hS0=> ?_)
     generalize wz.drew=WD504 at q502 b503 hS0⊢;refine tq 0 (.string T) rfl (fun _ _=>by kernel_rfl) hS0 ?_
     refine tq 1 (.string (T.extract 0 1)) rfl (fun _ _=>by go_simp<;>first|omega| (intro hh;omega)) hS0 ?_
     refine tq 2 (.string ((T.extract 0 1)++⟨#[46]⟩)) rfl (fun _ _=>by go_simp<;>first|omega| (intro hh;omega)) hS0 ?_
     refine tq 3 (.string T) rfl (fun _ _=>by kernel_rfl) hS0 ?_
     refine tq 4 (.string (T.extract 1 T.size)) rfl (fun _ _=>by go_simp<;>first|omega| (intro hh;omega)) hS0 ?_
     refine tq 5 (.string (((T.extract 0 1)++⟨#[46]⟩)++(T.extract 1 T.size))) rfl (fun _ _=>by go_simp<;>first|omega| (intro hh;omega)) hS0 ?_
     refine tq 6 (.string (((T.extract 0 1)++⟨#[46]⟩)++(T.extract 1 T.size))) rfl (fun _ _=>by kernel_rfl) hS0 ?_
     refine wpAnyH_done (by kernel_rfl) ?_ _;clear hS0;simp only[Act.put,List.getElem_toArray,List.getElem_cons_succ,List.getElem_cons_zero,List.setIfInBounds_toArray,List.set_cons_zero,List.set_cons_succ];have c505:=q502.c 0 rfl
     go_wp2_with fail
     refine(HIa.out _ b503).mono ?_;rintro zz w506 ⟨rfl,bb507⟩;have b508:=aa b503 bb507;clear q502 b503 bb507 HIa c505
     go_wp2
     go_ret
     rw[←hst.out];unfold tpS tpG tpP tpT;simp only[if_neg hlt,if_pos hgt,if_neg Bool.false_ne_true,hi.out];exact⟨by simp,b508⟩
    case true=>
     go_upto_region 10 with fail
     have bW501:yB wz wz.drew:=(Below.refl _ _).drew;have q502:=qz.l bW501;have b503:=aa bz bW501;clear qz bz bW501;refine wp_region_held_drew (S:=fun _=>True) (by kernel_rfl) trivial (fun hS0=> ?_)
     generalize wz.drew=WD504 at q502 b503 hS0⊢;refine tq 0 (.string T) rfl (fun _ _=>by kernel_rfl) hS0 ?_
     refine tq 1 (.string (T.extract 0 1)) rfl (fun _ _=>by go_simp<;>first|omega| (intro hh;omega)) hS0 ?_
     refine tq 2 (.string ((T.extract 0 1)++⟨#[46]⟩)) rfl (fun _ _=>by go_simp<;>first|omega| (intro hh;omega)) hS0 ?_
     refine tq 3 (.string T) rfl (fun _ _=>by kernel_rfl) hS0 ?_
     refine tq 4 (.string (T.extract 1 T.size)) rfl (fun _ _=>by go_simp<;>first|omega| (intro hh;omega)) hS0 ?_
     refine tq 5 (.string (((T.extract 0 1)++⟨#[46]⟩)++(T.extract 1 T.size))) rfl (fun _ _=>by go_simp<;>first|omega| (intro hh;omega)) hS0 ?_
     refine tq 6 (.string (((T.extract 0 1)++⟨#[46]⟩)++(T.extract 1 T.size))) rfl (fun _ _=>by kernel_rfl) hS0 ?_
     refine wpAnyH_done (by kernel_rfl) ?_ _;clear hS0;simp only[Act.put,List.getElem_toArray,List.getElem_cons_succ,List.getElem_cons_zero,List.setIfInBounds_toArray,List.set_cons_zero,List.set_cons_succ];have c505:=q502.c 0 rfl
     go_wp2_with fail
     refine(HIa.out _ b503).mono ?_;rintro zz w506 ⟨rfl,bb507⟩;have b508:=aa b503 bb507;clear q502 b503 bb507 HIa c505
     go_wp2
     go_ret
     rw[←hst.out];unfold tpS tpG tpP tpT;simp only[if_neg hlt,if_pos hgt,hi.out];exact⟨by simp,b508⟩
   ·cases ng
    case false=>
     have c501:=qz.c 0 rfl
     go_wp2_with fail
     refine(HIa.out _ bz).mono ?_;rintro zz w502 ⟨rfl,bb503⟩;have b504:=aa bz bb503;clear qz bz bb503 HIa c501
     go_wp2
     go_ret
     rw[←hst.out];unfold tpS tpG tpP tpT;simp only[if_neg hlt,if_neg hgt,if_neg Bool.false_ne_true,hi.out];exact⟨by simp,b504⟩
    case true=>
     have c501:=qz.c 0 rfl
     go_wp2_with fail
     refine(HIa.out _ bz).mono ?_;rintro zz w502 ⟨rfl,bb503⟩;have b504:=aa bz bb503;clear qz bz bb503 HIa c501
     go_wp2
     go_ret
     rw[←hst.out];unfold tpS tpG tpP tpT;simp only[if_neg hlt,if_neg hgt,hi.out];exact⟨by simp,b504⟩
end Go.Proofs.YtdhpndnncmagiaaGreatDoor
