/-
  Texts laid together: Shift, Lk, Ex, Aw0, Co2, Dp1c.
-/
import Derived.Test.YtiakgfmlpdfhdaaGreatDoorTa05
import Derived.Test.YtiakgfmlpdfhdaaGreatDoorTa06
set_option maxRecDepth 100000
set_option maxHeartbeats 3200000
namespace Go.Proofs.YtiakgfmlpdfhdaaGreatDoor
open _root_.Go.Proofs.Tryz
open Go.RowKit
theorem Nz (xs:List Nat)(wh P:Nat)(hP:0<P):KM xs (List.replicate (xs.length+wh+1) 0) wh P 0:=by
 have hz: ∀j,(List.replicate (xs.length+wh+1) 0).getD j 0=0:=fun j=>by
  by_cases h:j<xs.length+wh+1<;>simp[List.getD_eq_getElem?_getD,h]
 exact⟨by simp,Dg.small_replicate _ _ (by omega),fun j _=>hz j,by rw[hz];exact hP,by simp[Dg.vl_replicate_zero,Dg.vl]⟩
theorem vO (va:Value)(xs:List Nat)(n wh pt P:Nat)(w:World)(ha:Rd w .u32 va xs)(sa:Dg.Small 4294967296 xs)(hla:xs.length≤1000000)(hn:n=32*wh+pt)(hpt:pt<32)(hP:P=2^pt)(hnl:n≤1000000)(hne:xs≠[]):
  yC 99 #[va,yi n] w (Num w (Dg.vl 4294967296 xs*2^n)):=by
 obtain⟨ao,ca,rfl,-,-,hca⟩:=ha;obtain⟨i0,hi,hz0,hz1,hz2⟩:=info_parts Tryz.infoU32;have hl0:0<xs.length:=List.length_pos_iff.2 hne;have h00:((xs.length:Int)==0)=false:=by simp;exact hne
 have hq:(n:Int)/32=(wh:Int):=by omega
 have hr:(n:Int) % 32=(pt:Int):=by omega
 have HN:Hid _:=hn;have HP:Hid _:=hP;clear hn hP
 go_enter func99,ntmps99
 go_wp2_with (at_make;refine wpList_make_full _ rfl _ _ 92 rfl w.heap.size 49 i0 (.int .u32 0) 1 underlying92 hi hz0 hz1 _ _ _ _ (xs.length+wh+1) rfl rfl (by omega) (by omega) ?b2 ?b3 (Nat.le_refl _) ?_)
 case b2=>rw[hz2];have:=HN.out;omega
 case b3=>unfold maxLen;have:=HN.out;omega
 intro w0 hown0 hgrow0;have own0:=gL hown0;have bel0:yB w w0:=(Below.refl _ _).grown hgrow0 (Nat.le_refl _) (fun k h=>by cases h)
 have hwl:wh≤1000000:=by have:=HN.out;omega
 clear hown0 hgrow0
 go_wp2
 go_loopw [25] (fun kv wr=> ∃(k:Nat) (ups:List Nat),k≤xs.length∧kv=yi k∧Own wr w.heap.size 49 .u32 (.slice (some ⟨w.heap.size,0,none⟩) (xs.length+wh+1) (xs.length+wh+1)) ups∧KM xs ups wh P k∧yB w wr) (fun kv _=>xs.length-(intOf kv).toNat)
 case atStart=>exact⟨0,_,Nat.zero_le _,rfl,own0,Nz xs wh P (by rw[HP.out];exact Nat.pow_pos (by omega)),bel0⟩
 case round=>
  clear own0 bel0;obtain⟨k,ups,hk,rfl,own,hI,bel⟩:=hrel;have hul:=hI.1
  by_cases hlt:k<xs.length
  ·obtain⟨b,off,rfl,hcell⟩:=hca (by omega)
   have hx:=cell_later bel (hcell k hlt);have hxl:=sa k;have hu:=own.c (wh+k) (by omega);have hf:=own.f (wh+k);have hf2:=own.f (wh+k+1);have hu2:=own.c (wh+k+1) (by omega);have huP:=hI.2.2.2.1;obtain⟨x,ex⟩: ∃x,xs.getD k 0=x:=⟨_,rfl⟩;rw[ex] at hx hxl;obtain⟨u,eu⟩: ∃u,ups.getD (wh+k) 0=u:=⟨_,rfl⟩;rw[eu] at hu huP;have Hul:Hid _:=hul;have HX:Hid _:=ex;have HU:Hid _:=eu;clear ex eu hcell hca hul
   go_wp2
   go_region
   all_goals go_wp2
   all_goals go_roundw
   case rel=>
    have e1:=Y7 u x pt hpt (by rw[←HP.out];exact huP);have e2:=Vg x pt hpt;rw[e1,e2,←HP.out];have hst:=QJ hI hlt HX.out hxl ⟨2^ (32-pt),by rw[HP.out,←Nat.pow_add,show pt+(32-pt)=32 from by omega]⟩ (by omega)
    rw[HU.out] at hst;exact⟨k+1,_,by omega,by go_num,Own.l ((own.store (wh+k) _).store (wh+k+1) _) (Below.drew (Below.refl _ _)),hst,((bel.setCell (by exact Nat.le_refl _) _).setCell (by exact Nat.le_refl _) _).drew⟩
   case measure=>simp[intOf];omega
  ·have hke:k=xs.length:=by omega
   subst hke;have hps:=hI.2.1;have hv:=hI.2.2.2.2;rw[List.take_of_length_le (Nat.le_refl _)] at hv;have hv2:Dg.vl 4294967296 ups=Dg.vl 4294967296 xs*2^n:=by
    rw[hv,HP.out,HN.out,Nat.pow_add,Nat.pow_mul,Nat.mul_left_comm]
   have HV:Hid _:=hv2;clear hul hv hv2
   go_wp2_with fail
   refine(jD _ _ _ ups _ own.rd).mono ?_;rintro e w' ⟨m,rfl,hm,rfl⟩;have ht:=jW 4294967296 (by omega) own hps hm;rw[HV.out] at ht;clear hm
   go_wp2
   go_ret
   exact⟨_,rfl,ht,bel⟩
theorem cq {w:World}{k:IntKind}{v:Value}{zs:List Nat}(h:Rd w k v zs)(hn:Dg.Norm zs){b:Nat}{ty:TypeId}{vs:List Value}(hl:au w b ty vs)(hv0: ∀x∈vs,∀n:Int,n≠0→x≠ .int k n):wF b v zs:=fun hp a n c hv=>by
 obtain⟨ao,cap,rfl,_,_,h3⟩:=h;obtain⟨g,off,rfl,hc⟩:=h3 hp
 cases hv
 have h0:=hc (zs.length-1) (by omega)
 show g≠b
 intro e;subst e;have hnn:zs.getD (zs.length-1) 0≠0:=hn (by intro h;rw[h] at hp;simp at hp);unfold World.cell? at h0;simp only at h0;rw[hl] at h0;simp only[Option.isSome_none,Bool.false_eq_true,if_false,List.getElem?_toArray] at h0;exact hv0 _ (List.mem_of_getElem? h0) _ (by omega) rfl
theorem gU {P:Program}{o:Oper}{a:Act}{w:World}(t:TypeId)(x:Operand)(ho:o.op= .load t x)(b i:Nat)(hx:a.eval x= .pointer (some ⟨b,i,none⟩))(v:Value)(d:TypeDesc)(hu:P.underlying t=some d)(hd:d.isRow=false)(hc:w.cell? ⟨b,i,none⟩=some v):(execOp a.eval o).run P w= .ok (.value v) w:=by
 have hagg:(isAgg t).run P w= .ok false w:=by
  unfold isAgg;rw[Sem.run_bind,run_underlying hu w]
  cases d<;>simp_all
 have hl:(loadVar t ⟨b,i,none⟩).run P w= .ok v w:=by
  simp[loadVar,Sem.run_bind,hagg,hc]
 unfold execOp;simp[ho,hx,Instr.loadAt,Instr.sureAddr,hl]
theorem iG (w:World)(c0:List Value)(t0:TypeId)(c1:List Value)(t1:TypeId): ∃W,(w.alloc (.cells c0.toArray t0)).alloc (.cells c1.toArray t1)=W∧au W w.heap.size t0 c0∧au W (w.heap.size+1) t1 c1∧yB w W:=by
 obtain⟨W,rfl,h0,b0⟩:=cA w c0 t0;have h1:=ah (w.alloc (.cells c0.toArray t0)) c1 t1;have b1:=af (w.alloc (.cells c0.toArray t0)) (.cells c1.toArray t1);rw[World.size_alloc] at h1;exact⟨_,rfl,h0.l b1,h1,aa b0 b1⟩
theorem lG (w:World)(c0:List Value)(t0:TypeId)(c1:List Value)(t1:TypeId)(c2:List Value)(t2:TypeId): ∃W,((w.alloc (.cells c0.toArray t0)).alloc (.cells c1.toArray t1)).alloc (.cells c2.toArray t2)=W∧au W w.heap.size t0 c0∧au W (w.heap.size+1) t1 c1∧au W (w.heap.size+1+1) t2 c2∧yB w W:=by
 obtain⟨W,rfl,h0,h1,b0⟩:=iG w c0 t0 c1 t1;have h2:=ah ((w.alloc (.cells c0.toArray t0)).alloc (.cells c1.toArray t1)) c2 t2;have b2:=af ((w.alloc (.cells c0.toArray t0)).alloc (.cells c1.toArray t1)) (.cells c2.toArray t2);rw[World.size_alloc,World.size_alloc] at h2;exact⟨_,rfl,h0.l b2,h1.l b2,h2,aa b0 b2⟩
theorem br {P:Program}{fn:Func}{a:Nat}{ty:TypeId}{tmps:Array Value}{w:World}{b:Nat}{v:Value}(hres:fn.results= #[.cell a ty])(hp:tmps.getD a undef= .pointer (some ⟨b,0,none⟩))(hl:(loadVar ty ⟨b,0,none⟩).run P w= .ok v w):(results fn tmps).run P w= .ok v w:=by
 rw[Array.getD_eq_getD_getElem?] at hp;unfold results;simp[hres,hp,asAddr,hl]
theorem refDP_less (ea eb E da db ma mb:Int)(sa sb:Bool)(ao bo:Option Addr)(la lb ac bc:Nat)(X Y Z:Nat)(t:ak)(w:World)(cm:Int)(hs:(sa==sb)=false)(hc: ¬cm≥0)(hc:((la:Int)==0)=false∧((lb:Int)==0)=false∧min ea eb=E∨((la:Int)==0)=true∧((lb:Int)==0)=false∧eb=E∨((la:Int)==0)=false∧((lb:Int)==0)=true∧ea=E∨((la:Int)==0)=true∧((lb:Int)==0)=true∧ea=E)(hda:IntKind.i64.wrap (ea-E)=da)(hdb:IntKind.i64.wrap (eb-E)=db)(hma:max 0 da=ma)(hmb:max 0 db=mb)
  (HU: ∀w1,yB w w1→yC 49 #[.slice ao la ac,yi ma] w1 (cG w1 X))
  (HV: ∀w1,yB w w1→yC 49 #[.slice bo lb bc,yi mb] w1 (cG w1 Y))
  (HC: ∀xo xc yo yc w1,yB w w1→Rd w1 .i64 (yS xo X xc) (Dg.dg 65536 X)→Rd w1 .i64 (yS yo Y yc) (Dg.dg 65536 Y)→yC 50 #[yS xo X xc,yS yo Y yc] w1 (yR w1 (yi cm)))
  (HP: ∀xo xc yo yc w1,yB w w1→Rd w1 .i64 (yS xo X xc) (Dg.dg 65536 X)→Rd w1 .i64 (yS yo Y yc) (Dg.dg 65536 Y)→yC 51 #[yS yo Y yc,yS xo X xc] w1 (cG w1 Z))
  (HB: ∀zo zc w1,yB w w1→Rd w1 .i64 (yS zo Z zc) (Dg.dg 65536 Z)→yC 34 #[ydV sb (yS zo Z zc) E] w1 (Xi w.heap.size w1 t)):
  yC 29 #[ydV sa (.slice ao la ac) ea,ydV sb (.slice bo lb bc) eb] w (di w t):=by
 replace HU:Hid _:=HU;replace HV:Hid _:=HV;replace HC:Hid _:=HC;replace HP:Hid _:=HP;replace HB:Hid _:=HB;obtain⟨W5,hW6,q1,q2,q3,b4⟩:=lG w (ydL sa (.slice ao la ac) ea) 35 (ydL sb (.slice bo lb bc) eb) 35 (ydL false yN 0) 35;replace hW6:Hid _:=hW6
 go_enter func29,ntmps29
 go_upto_region 1 with fail
 rw[hW6.out];clear hW6;have c7:=q1.c 1 rfl;have c8:=q1.c 2 rfl;have c9:=q2.c 1 rfl;have c10:=q2.c 2 rfl
 rcases hc with⟨hla,hlb,hE⟩| ⟨hla,hlb,hE⟩| ⟨hla,hlb,hE⟩| ⟨hla,hlb,hE⟩
 all_goals try rw[hE] at c8
 all_goals try rw[hE] at c10
 all_goals
  go_upto_region 6 with fail
  clear hE;clear c7 c8 c9 c10;have bW11:yB W5 W5.drew:=(Below.refl _ _).drew;have q12:=q1.l bW11;have q13:=q2.l bW11;have q14:=q3.l bW11;have b15:=aa b4 bW11;clear q1 q2 q3 b4 bW11;refine wp_region_held_drew (S:=fun wq=>au wq w.heap.size 35 (ydL sa (.slice ao la ac) ea)∧au wq (w.heap.size+1) 35 (ydL sb (.slice bo lb bc) eb)) (by kernel_rfl) ⟨q12,q13⟩ (fun hS0=> ?_)
  generalize W5.drew=WD16 at q12 q13 q14 b15 hS0⊢;refine tq 0 (.pointer (some ⟨w.heap.size,1,none⟩)) rfl (fun _ _=>by kernel_rfl) hS0 ?_
  refine tq 1 (.slice ao la ac) rfl (fun _ hw0=>gU 33 (.tmp 25) rfl w.heap.size 1 (by kernel_rfl) _ _ underlying33 rfl (hw0.1.c 1 rfl)) hS0 ?_
  refine tq 2 (.pointer (some ⟨w.heap.size,2,none⟩)) rfl (fun _ _=>by kernel_rfl) hS0 ?_
  refine tq 3 (yi ea) rfl (fun _ hw0=>gU 3 (.tmp 27) rfl w.heap.size 2 (by kernel_rfl) _ _ underlying3 rfl (hw0.1.c 2 rfl)) hS0 ?_
  refine tq 4 (yi E) rfl (fun _ _=>by kernel_rfl) hS0 ?_
  refine tq 5 (yi da) rfl (fun _ _=>by go_simp) hS0 ?_
  refine tq 6 (yi ma) rfl (fun _ _=>by go_simp) hS0 ?_
  refine tq 8 (.pointer (some ⟨w.heap.size+1,1,none⟩)) rfl (fun _ _=>by kernel_rfl) hS0 ?_
  refine tq 9 (.slice bo lb bc) rfl (fun _ hw0=>gU 33 (.tmp 33) rfl (w.heap.size+1) 1 (by kernel_rfl) _ _ underlying33 rfl (hw0.2.c 1 rfl)) hS0 ?_
  refine tq 10 (.pointer (some ⟨w.heap.size+1,2,none⟩)) rfl (fun _ _=>by kernel_rfl) hS0 ?_
  refine tq 11 (yi eb) rfl (fun _ hw0=>gU 3 (.tmp 35) rfl (w.heap.size+1) 2 (by kernel_rfl) _ _ underlying3 rfl (hw0.2.c 2 rfl)) hS0 ?_
  refine tq 12 (yi E) rfl (fun _ _=>by kernel_rfl) hS0 ?_
  refine tq 13 (yi db) rfl (fun _ _=>by go_simp) hS0 ?_
  refine tq 14 (yi mb) rfl (fun _ _=>by go_simp) hS0 ?_
  refine wpAnyH_ready (rs:=[7]) (by kernel_rfl) (by simp) ?_;refine AllReadyH.cons rfl (fun K hK=> ?_) AllReadyH.nil
  go_simp
  refine(HU.out _ b15).mono ?_;rintro zz w17 ⟨v119,rfl,r120,bb18⟩;have q21:=q12.l bb18;have q22:=q13.l bb18;have q23:=q14.l bb18;have b24:=aa b15 bb18;obtain⟨xo,xc,hv⟩:=r120.shape;subst hv;clear q12 q13 q14 b15 bb18 HU;refine hK.out _ _ ⟨q21,q22⟩ (fun hS25=> ?_)
  clear hK K;refine wpAnyH_ready (rs:=[15]) (by kernel_rfl) (by simp) ?_;refine AllReadyH.cons rfl (fun K hK=> ?_) AllReadyH.nil
  go_simp
  refine(HV.out _ b24).mono ?_;rintro zz w26 ⟨v128,rfl,r129,bb27⟩;have q30:=q21.l bb27;have q31:=q22.l bb27;have q32:=q23.l bb27;have r33:=r120.l bb27;have b34:=aa b24 bb27;obtain⟨yo,yc,hv⟩:=r129.shape;subst hv;clear q21 q22 q23 r120 b24 bb27 HV;refine hK.out _ _ ⟨q30,q31⟩ (fun hS35=> ?_)
  clear hK K;refine tq 16 (yS xo X xc) rfl (fun _ _=>by kernel_rfl) hS35 ?_
  refine tq 17 (yS yo Y yc) rfl (fun _ _=>by kernel_rfl) hS35 ?_
  refine wpAnyH_done (by kernel_rfl) ?_ _;clear hS0 hS25 hS35;simp only[Act.put,List.getElem_toArray,List.getElem_cons_succ,List.getElem_cons_zero,List.setIfInBounds_toArray,List.set_cons_zero,List.set_cons_succ];have c36:=q30.c 0 rfl;have c37:=q31.c 0 rfl
  go_wp2_with fail
  refine(HC.out _ _ _ _ _ b34 r33 r129).mono ?_;rintro zz w38 ⟨rfl,bb39⟩;have q40:=q31.l bb39;have q41:=q32.l bb39;have r42:=r33.l bb39;have r43:=r129.l bb39;have b44:=aa b34 bb39;clear q30 q31 q32 r33 r129 b34 bb39 HC c36 c37
  go_upto_region 11 with fail
  have bW45:yB w38 w38.drew:=(Below.refl _ _).drew;have q46:=q40.l bW45;have q47:=q41.l bW45;have r48:=r42.l bW45;have r49:=r43.l bW45;have b50:=aa b44 bW45;clear q40 q41 r42 r43 b44 bW45;refine wp_region_held_drew (S:=fun wq=>au wq (w.heap.size+1) 35 (ydL sb (.slice bo lb bc) eb)) (by kernel_rfl) q46 (fun hS0=> ?_)
  generalize w38.drew=WD51 at q46 q47 r48 r49 b50 hS0⊢;refine tq 0 (.pointer (some ⟨w.heap.size+1,0,none⟩)) rfl (fun _ _=>by kernel_rfl) hS0 ?_
  refine tq 1 (.bool sb) rfl (fun _ hw0=>gU 4 (.tmp 66) rfl (w.heap.size+1) 0 (by kernel_rfl) _ _ underlying4 rfl (hw0.c 0 rfl)) hS0 ?_
  refine tq 2 (yS yo Y yc) rfl (fun _ _=>by kernel_rfl) hS0 ?_
  refine tq 3 (yS xo X xc) rfl (fun _ _=>by kernel_rfl) hS0 ?_
  refine tq 5 (yi E) rfl (fun _ _=>by kernel_rfl) hS0 ?_
  refine wpAnyH_ready (rs:=[4]) (by kernel_rfl) (by simp) ?_;refine AllReadyH.cons rfl (fun K hK=> ?_) AllReadyH.nil
  go_simp
  refine(HP.out _ _ _ _ _ b50 r48 r49).mono ?_;rintro zz w52 ⟨v154,rfl,r155,bb53⟩;have q56:=q46.l bb53;have q57:=q47.l bb53;have r58:=r48.l bb53;have r59:=r49.l bb53;have b60:=aa b50 bb53;obtain⟨zo,zc,hv⟩:=r155.shape;subst hv;clear q46 q47 r48 r49 b50 bb53 HP;refine hK.out _ _ q56 (fun hS61=> ?_)
  clear hK K;refine tq 6 (ydV sb (yS zo Z zc) E) rfl (fun _ _=>by kernel_rfl) hS61 ?_
  refine wpAnyH_ready (rs:=[7]) (by kernel_rfl) (by simp) ?_;refine AllReadyH.cons rfl (fun K hK=> ?_) AllReadyH.nil
  go_simp
  refine(HB.out _ _ _ b60 r155).mono ?_;rintro zz w62 ⟨v164,rfl,r165,bb63,hF⟩;have q66:=q56.l bb63;have q67:=q57.l bb63;have r68:=r58.l bb63;have r69:=r59.l bb63;have r70:=r155.l bb63;have b71:=aa b60 bb63;obtain⟨uo,uc,hv⟩:=r165.shape;subst hv;clear q56 q57 r58 r59 r155 b60 bb63 HB;refine hK.out _ _ q66 (fun hS72=> ?_)
  clear hK K;refine wpAnyH_ready (rs:=[8]) (by kernel_rfl) (by simp) ?_;refine AllReadyH.cons rfl (fun K hK=> ?_) AllReadyH.nil
  have bu:But (w.heap.size+1+1) w62 (w62.setCells (w.heap.size+1+1) 0 (ydL t.s (yS uo t.n uc) t.e)):=de _ _ _ _;have hth:w62.there (w.heap.size+1+1) 0 3:=dD q67;have q73:au (w62.setCells (w.heap.size+1+1) 0 (ydL t.s (yS uo t.n uc) t.e)) (w.heap.size+1+1) 35 (ydL t.s (yS uo t.n uc) t.e):=q67.sets _ rfl;have r74:=bu.rd r68 (cq r68 (Dg.norm_dg _ _ (by omega)) q67 (fun x hx n hn=>by simp at hx;rcases hx with rfl|rfl|rfl<;>simp;all_goals omega))
  have r75:=bu.rd r69 (cq r69 (Dg.norm_dg _ _ (by omega)) q67 (fun x hx n hn=>by simp at hx;rcases hx with rfl|rfl|rfl<;>simp;all_goals omega))
  have r76:=bu.rd r70 (cq r70 (Dg.norm_dg _ _ (by omega)) q67 (fun x hx n hn=>by simp at hx;rcases hx with rfl|rfl|rfl<;>simp;all_goals omega))
  have r77:=bu.rd r165 (cq r165 (Dg.norm_dg _ _ (by omega)) q67 (fun x hx n hn=>by simp at hx;rcases hx with rfl|rfl|rfl<;>simp;all_goals omega))
  have q78:=bu.loc q66 (by omega);have b79:=bu.below b71 (by omega);rw[if_pos (by kernel_rfl)];refine wp_store_mid 35 (.tmp 4) (.tmp 73) rfl (w.heap.size+1+1) 0 (ydA t.s (yS uo t.n uc) t.e) (by kernel_rfl) (by kernel_rfl) hth (by kernel_rfl) (by simp[Value.oneCell']) ?_;refine hK.out _ _ q78 (fun hS80=> ?_)
  clear hK K;clear q67 r68 r69 r70 r165 q66 b71 bu hth;refine wpAnyH_done (by kernel_rfl) ?_ _;clear hS0 hS61 hS72 hS80;change Exit.then _ _ _ _ (World.setCells w62 (w.heap.size+1+1) 0 (ydL t.s (yS uo t.n uc) t.e));generalize World.setCells w62 (w.heap.size+1+1) 0 (ydL t.s (yS uo t.n uc) t.e)=W81 at q78 q73 r74 r75 r76 r77 b79⊢;simp only[Act.put,List.getElem_toArray,List.getElem_cons_succ,List.getElem_cons_zero];have hl:=run_loadVar_mid (P:=Tryz.prog) _ (w.heap.size+1+1) 0 35 (ydL t.s (yS uo t.n uc) t.e) _ q73.range underlying35 rfl (by kernel_rfl)
  go_wp2
  exact bodyPost_ret (br results29 rfl hl) rfl ⟨_,rfl,r77,hF.out,b79⟩
end Go.Proofs.YtiakgfmlpdfhdaaGreatDoor
