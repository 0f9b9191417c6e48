/-
  Texts laid together: Tx8.
-/
import Derived.Test.YtpgijbdgljkeeaaGreatDoorUx14
import Derived.Test.YtpgijbdgljkeeaaGreatDoorUx17
set_option maxRecDepth 100000
set_option maxHeartbeats 3200000
namespace Go.Proofs.YtpgijbdgljkeeaaGreatDoor
open _root_.Go.Proofs.Tryz
open Go.RowKit Go.ChangeMaps Go.MapKept
def wdE:Array MapEntry:= #[⟨yi 1,.agg #[.string ⟨#[48]⟩,.string ⟨#[45,48]⟩],0⟩,⟨yi 3,.agg #[.string ⟨#[105,110,102]⟩,.string ⟨#[45,105,110,102]⟩],1⟩,⟨yi 4,.agg #[.string ⟨#[110,111,110,101]⟩,.string ⟨#[110,111,110,101]⟩],2⟩,⟨yi 5,.agg #[.string ⟨#[114,101,115,101,114,118,101,100]⟩,.string ⟨#[114,101,115,101,114,118,101,100]⟩],3⟩]
def MapAt (w:World)(r:Nat):Prop:=r<w.heap.size∧w.heap[r]? =some (.map wdE 4)
theorem MapAt.l {w w':World}{r:Nat}(h:MapAt w r)(b:yB w w'):MapAt w' r:=⟨Nat.lt_of_lt_of_le h.1 b.size,(b.block r h.1).trans h.2⟩
def MpR (w:World)(z:Ending)(w':World):Prop:= ∃r,z= .returned (.map (some r))∧MapAt w' r∧yB w w'
theorem twords_any (w:World):yC 94 #[] w (MpR w):=by
 have ht:=underlying171;have hk:=underlying3;have hb0:(w.alloc (.map #[] 0)).heap[w.heap.size]? =some (.map #[] 0):=heap_alloc_new _ _;have b0:=af w (.map #[] 0);have e0:=run_makeMap (P:=Tryz.prog) 171 w;obtain⟨W1,e1,hb1,b1⟩:=sS ht hk hb0 (Nat.le_refl _) b0 1 (.agg #[.string ⟨#[48]⟩,.string ⟨#[45,48]⟩]) rfl;obtain⟨W2,e2,hb2,b2⟩:=sS ht hk hb1 (Nat.le_refl _) b1 3 (.agg #[.string ⟨#[105,110,102]⟩,.string ⟨#[45,105,110,102]⟩]) rfl;obtain⟨W3,e3,hb3,b3⟩:=sS ht hk hb2 (Nat.le_refl _) b2 4 (.agg #[.string ⟨#[110,111,110,101]⟩,.string ⟨#[110,111,110,101]⟩]) rfl;obtain⟨W4,e4,hb4,b4⟩:=sS ht hk hb3 (Nat.le_refl _) b3 5 (.agg #[.string ⟨#[114,101,115,101,114,118,101,100]⟩,.string ⟨#[114,101,115,101,114,118,101,100]⟩]) rfl;have hlt:w.heap.size<W4.heap.size:=by
  rcases Nat.lt_or_ge w.heap.size W4.heap.size with h|h
  ·exact h
  ·rw[Array.getElem?_eq_none h] at hb4
   cases hb4
 have HB:Hid (MapAt W4 w.heap.size):=⟨hlt,hb4⟩;clear hb1 hb2 hb3 hb4 b1 b2 b3 ht hk hb0 hlt
 go_enter func94,ntmps94
 go_wp2
 go_ret
 exact⟨_,rfl,HB.out,b4⟩
theorem xlook {P:Program}{o:Oper}{a:Act}{w:World}(t:TypeId)(x y:Operand)(c:Bool)(ho:o.op= .lookup t x y c)(m k:Value)(hx:a.eval x=m)(hy:a.eval y=k){v:Value}(h:(Instr.lookup t m k c).run P w= .ok v w):(execOp a.eval o).run P w= .ok (.value v) w:=by
 unfold execOp;simp only[ho,hx,hy];simp[h]
theorem find_ok {P:Program}{t k e:TypeId}(ht:P.underlying t=some (.map k e))(hk:P.underlying k=some (.int .i64)){W:World}{r:Nat}{es:Array MapEntry}{c:Nat}(hb:W.heap[r]? =some (.map es c))(x:Int){i:Nat}{v:Value}(h:Instr.findNow (.int .i64) (yi x) es.toList 0=some (some (i,v))):
  (Instr.lookup t (.map (some r)) (yi x) true).run P W= .ok (.tuple #[v,.bool true]) W:=by
 have hkey:IsKey (.int .i64) (yi x):=rfl;simp[Instr.lookup,run_underlying ht,MapKept.run_getObj_map hb,run_checkKey hk hkey,run_findKey hk h,Result.andThen]
theorem miss_ok {P:Program}{t k e:TypeId}(ht:P.underlying t=some (.map k e))(hk:P.underlying k=some (.int .i64)){W:World}{r:Nat}{es:Array MapEntry}{c:Nat}(hb:W.heap[r]? =some (.map es c))(x:Int){z:Value}(hz:(zeroValue e).run P W= .ok z W)(h:Instr.findNow (.int .i64) (yi x) es.toList 0=some none):
  (Instr.lookup t (.map (some r)) (yi x) true).run P W= .ok (.tuple #[z,.bool false]) W:=by
 have hkey:IsKey (.int .i64) (yi x):=rfl;simp[Instr.lookup,run_underlying ht,MapKept.run_getObj_map hb,run_checkKey hk hkey,run_findKey hk h,hz,Result.andThen]
def wdV (c:Int):ByteArray×ByteArray×Bool:=if c=1 then(⟨#[48]⟩,⟨#[45,48]⟩,true) else if c=3 then(⟨#[105,110,102]⟩,⟨#[45,105,110,102]⟩,true) else if c=4 then(⟨#[110,111,110,101]⟩,⟨#[110,111,110,101]⟩,true) else if c=5 then(⟨#[114,101,115,101,114,118,101,100]⟩,⟨#[114,101,115,101,114,118,101,100]⟩,true) else(⟨#[]⟩,⟨#[]⟩,false)
theorem look_any (c:Int)(w:World)(r:Nat)(hm:MapAt w r):(Instr.lookup 171 (.map (some r)) (yi c) true).run Tryz.prog w= .ok (.tuple #[.agg #[.string (wdV c).1,.string (wdV c).2.1],.bool (wdV c).2.2]) w:=by
 unfold wdV
 by_cases h1:c=1
 ·subst h1
  rw[if_pos rfl];exact find_ok underlying171 underlying3 hm.2 1 rfl
 by_cases h3:c=3
 ·subst h3
  rw[if_neg (by decide)];rw[if_pos rfl];exact find_ok underlying171 underlying3 hm.2 3 rfl
 by_cases h4:c=4
 ·subst h4
  rw[if_neg (by decide)];rw[if_neg (by decide)];rw[if_pos rfl];exact find_ok underlying171 underlying3 hm.2 4 rfl
 by_cases h5:c=5
 ·subst h5
  rw[if_neg (by decide)];rw[if_neg (by decide)];rw[if_neg (by decide)];rw[if_pos rfl];exact find_ok underlying171 underlying3 hm.2 5 rfl
 rw[if_neg h1,if_neg h3,if_neg h4,if_neg h5];refine miss_ok underlying171 underlying3 hm.2 c ?_ ?_
 ·kernel_rfl
 ·simp[wdE,Instr.findNow,XI,h1,h3,h4,h5]
theorem tword_f (c p:Int)(vo:Option Addr)(vl vc:Nat)(sa sb:ByteArray)(ok:Bool)(w:World)
  (HW: ∀w1,yC 94 #[] w1 (MpR w1))
  (HL: ∀wq mr,MapAt wq mr→(Instr.lookup 171 (.map (some mr)) (yi c) true).run Tryz.prog wq= .ok (.tuple #[.agg #[.string sa,.string sb],.bool ok]) wq):
  yC 45 #[yvV c false (.slice vo vl vc) p] w (yR w (.tuple #[.string sa,.bool ok])):=by
 replace HW:Hid _:=HW;replace HL:Hid _:=HL;obtain⟨W3,hW4,q1,b2⟩:=cA w (yvL c false (.slice vo vl vc) p) 66;replace hW4:Hid _:=hW4
 go_enter func45,ntmps45
 go_upto_region 1 with fail
 rw[hW4.out];clear hW4
 go_upto_region 1 with fail
 have bW5:yB W3 W3.drew:=(Below.refl _ _).drew;have q6:=q1.l bW5;have b7:=aa b2 bW5;clear q1 b2 bW5;refine wp_region_held_drew (S:=fun wq=>au wq w.heap.size 66 (yvL c false (.slice vo vl vc) p)) (by kernel_rfl) q6 (fun hS0=> ?_)
 generalize W3.drew=WD8 at q6 b7 hS0⊢;refine tq 1 (.pointer (some ⟨w.heap.size,0,none⟩)) rfl (fun _ _=>by kernel_rfl) hS0 ?_
 refine tq 2 (yi c) rfl (fun _ hw0=>gU 3 (.tmp 8) rfl w.heap.size 0 (by kernel_rfl) _ _ underlying3 rfl (hw0.c 0 rfl)) hS0 ?_
 refine wpAnyH_ready (rs:=[0,7]) (by kernel_rfl) (by simp) ?_;refine AllReadyH.cons rfl (fun K hK=> ?_) (AllReadyH.cons rfl (fun K hK=> ?_) AllReadyH.nil)
 ·go_simp
  refine(HW.out _).mono ?_;rintro zz w9 ⟨mr,rfl,r1x11,bb10⟩;have q12:=q6.l bb10;have b13:=aa b7 bb10;clear q6 b7 bb10 HW;refine hK.out _ _ q12 (fun hS14=> ?_)
  clear hK K;refine wpAnyH_ready (rs:=[3,7]) (by kernel_rfl) (by simp) ?_;refine AllReadyH.cons rfl (fun K hK=> ?_) (AllReadyH.cons rfl (fun K hK=> ?_) AllReadyH.nil)
  ·rw[if_pos (by kernel_rfl)]
   refine wp_yield (.tuple #[.agg #[.string sa,.string sb],.bool ok]) (xlook 171 (.tmp 7) (.tmp 9) true rfl _ _ (by kernel_rfl) (by kernel_rfl) (HL.out _ _ r1x11)) ?_;refine hK.out _ _ q12 (fun hS15=> ?_)
   clear hK K;refine tq 4 (.tuple #[.agg #[.string sa,.string sb],.bool ok]) rfl (fun _ _=>by kernel_rfl) hS15 ?_
   refine tq 5 (.agg #[.string sa,.string sb]) rfl (fun _ _=>by go_simp) hS15 ?_
   refine tq 6 (.bool ok) rfl (fun _ _=>by go_simp) hS15 ?_
   refine wpAnyH_ready (rs:=[7]) (by kernel_rfl) (by simp) ?_;refine AllReadyH.cons rfl (fun K hK=> ?_) AllReadyH.nil
   go_simp
   have al16:=af w9 (.cells #[.string ⟨#[]⟩,.string ⟨#[]⟩] 169);have q17:=ah w9 [.string ⟨#[]⟩,.string ⟨#[]⟩] 169;have hl20:w.heap.size≤w9.heap.size:=b13.size;have hl21:=q12.lt;have q22:=q12.l al16;have b23:=aa b13 al16;refine hK.out _ _ q22 (fun hS24=> ?_)
   clear hK K;clear q12 r1x11 b13 al16;generalize w9.alloc (.cells #[.string ⟨#[]⟩,.string ⟨#[]⟩] 169)=WN18 at q22 q17 b23 hS24⊢;generalize w9.heap.size=PQ19 at q17 hl20 hl21⊢;refine wpAnyH_ready (rs:=[8]) (by kernel_rfl) (by simp) ?_;refine AllReadyH.cons rfl (fun K hK=> ?_) AllReadyH.nil
   have bu:But PQ19 WN18 (WN18.setCells PQ19 0 [.string sa,.string sb]):=de _ _ _ _;have hth:WN18.there PQ19 0 2:=dD q17;have q25:au (WN18.setCells PQ19 0 [.string sa,.string sb]) PQ19 169 [.string sa,.string sb]:=q17.sets _ rfl;have q26:=bu.loc q22 (by omega);have b27:=bu.below b23 (by omega);rw[if_pos (by kernel_rfl)];refine wp_store_mid 169 (.tmp 4) (.tmp 11) rfl PQ19 0 #[.string sa,.string sb] (by kernel_rfl) (by kernel_rfl) hth (by kernel_rfl) (by simp[Value.oneCell']) ?_;refine hK.out _ _ q26 (fun hS28=> ?_)
   clear hK K;clear q17 q22 b23 bu hth;refine tq 9 (.bool ok) rfl (fun _ _=>by kernel_rfl) hS28 ?_
   refine wpAnyH_done (by kernel_rfl) ?_ _;clear hS0 hS14 hS15 hS24 hS28;change Exit.then _ _ _ _ (World.setCells WN18 PQ19 0 [.string sa,.string sb]);generalize World.setCells WN18 PQ19 0 [.string sa,.string sb]=W29 at q26 q25 b27⊢;simp only[Act.put,List.getElem_toArray,List.getElem_cons_succ,List.getElem_cons_zero,List.setIfInBounds_toArray,List.set_cons_zero,List.set_cons_succ];have c30:=q26.c 1 rfl;have c31:=q25.c 0 rfl
   go_wp2
   go_ret2
   exact⟨rfl,b27⟩
  ·go_simp
   have al15:=af w9 (.cells #[.string ⟨#[]⟩,.string ⟨#[]⟩] 169);have q16:=ah w9 [.string ⟨#[]⟩,.string ⟨#[]⟩] 169;have hl19:w.heap.size≤w9.heap.size:=b13.size;have hl20:=q12.lt;have q21:=q12.l al15;have r22:=r1x11.l al15;have b23:=aa b13 al15;refine hK.out _ _ q21 (fun hS24=> ?_)
   clear hK K;clear q12 r1x11 b13 al15;generalize w9.alloc (.cells #[.string ⟨#[]⟩,.string ⟨#[]⟩] 169)=WN17 at q21 q16 r22 b23 hS24⊢;generalize w9.heap.size=PQ18 at q16 hl19 hl20⊢;refine wpAnyH_ready (rs:=[3]) (by kernel_rfl) (by simp) ?_;refine AllReadyH.cons rfl (fun K hK=> ?_) AllReadyH.nil
   rw[if_pos (by kernel_rfl)];refine wp_yield (.tuple #[.agg #[.string sa,.string sb],.bool ok]) (xlook 171 (.tmp 7) (.tmp 9) true rfl _ _ (by kernel_rfl) (by kernel_rfl) (HL.out _ _ r22)) ?_;refine hK.out _ _ q21 (fun hS25=> ?_)
   clear hK K;refine tq 4 (.tuple #[.agg #[.string sa,.string sb],.bool ok]) rfl (fun _ _=>by kernel_rfl) hS25 ?_
   refine tq 5 (.agg #[.string sa,.string sb]) rfl (fun _ _=>by go_simp) hS25 ?_
   refine tq 6 (.bool ok) rfl (fun _ _=>by go_simp) hS25 ?_
   refine wpAnyH_ready (rs:=[8]) (by kernel_rfl) (by simp) ?_;refine AllReadyH.cons rfl (fun K hK=> ?_) AllReadyH.nil
   have bu:But PQ18 WN17 (WN17.setCells PQ18 0 [.string sa,.string sb]):=de _ _ _ _;have hth:WN17.there PQ18 0 2:=dD q16;have q26:au (WN17.setCells PQ18 0 [.string sa,.string sb]) PQ18 169 [.string sa,.string sb]:=q16.sets _ rfl;have q27:=bu.loc q21 (by omega);have b28:=bu.below b23 (by omega);rw[if_pos (by kernel_rfl)];refine wp_store_mid 169 (.tmp 4) (.tmp 11) rfl PQ18 0 #[.string sa,.string sb] (by kernel_rfl) (by kernel_rfl) hth (by kernel_rfl) (by simp[Value.oneCell']) ?_;refine hK.out _ _ q27 (fun hS29=> ?_)
   clear hK K;clear q16 r22 q21 b23 bu hth;refine tq 9 (.bool ok) rfl (fun _ _=>by kernel_rfl) hS29 ?_
   refine wpAnyH_done (by kernel_rfl) ?_ _;clear hS0 hS14 hS24 hS25 hS29;change Exit.then _ _ _ _ (World.setCells WN17 PQ18 0 [.string sa,.string sb]);generalize World.setCells WN17 PQ18 0 [.string sa,.string sb]=W30 at q27 q26 b28⊢;simp only[Act.put,List.getElem_toArray,List.getElem_cons_succ,List.getElem_cons_zero,List.setIfInBounds_toArray,List.set_cons_zero,List.set_cons_succ];have c31:=q27.c 1 rfl;have c32:=q26.c 0 rfl
   go_wp2
   go_ret2
   exact⟨rfl,b28⟩
 ·go_simp
  have al9:=af WD8 (.cells #[.string ⟨#[]⟩,.string ⟨#[]⟩] 169);have q10:=ah WD8 [.string ⟨#[]⟩,.string ⟨#[]⟩] 169;have hl13:w.heap.size≤WD8.heap.size:=b7.size;have hl14:=q6.lt;have q15:=q6.l al9;have b16:=aa b7 al9;refine hK.out _ _ q15 (fun hS17=> ?_)
  clear hK K;clear q6 b7 al9;generalize WD8.alloc (.cells #[.string ⟨#[]⟩,.string ⟨#[]⟩] 169)=WN11 at q15 q10 b16 hS17⊢;generalize WD8.heap.size=PQ12 at q10 hl13 hl14⊢;refine wpAnyH_ready (rs:=[0]) (by kernel_rfl) (by simp) ?_;refine AllReadyH.cons rfl (fun K hK=> ?_) AllReadyH.nil
  go_simp
  refine(HW.out _).mono ?_;rintro zz w18 ⟨mr,rfl,r1x20,bb19⟩;have q21:=q15.l bb19;have q22:=q10.l bb19;have b23:=aa b16 bb19;clear q15 q10 b16 bb19 HW;refine hK.out _ _ q21 (fun hS24=> ?_)
  clear hK K;refine wpAnyH_ready (rs:=[3]) (by kernel_rfl) (by simp) ?_;refine AllReadyH.cons rfl (fun K hK=> ?_) AllReadyH.nil
  rw[if_pos (by kernel_rfl)];refine wp_yield (.tuple #[.agg #[.string sa,.string sb],.bool ok]) (xlook 171 (.tmp 7) (.tmp 9) true rfl _ _ (by kernel_rfl) (by kernel_rfl) (HL.out _ _ r1x20)) ?_;refine hK.out _ _ q21 (fun hS25=> ?_)
  clear hK K;refine tq 4 (.tuple #[.agg #[.string sa,.string sb],.bool ok]) rfl (fun _ _=>by kernel_rfl) hS25 ?_
  refine tq 5 (.agg #[.string sa,.string sb]) rfl (fun _ _=>by go_simp) hS25 ?_
  refine tq 6 (.bool ok) rfl (fun _ _=>by go_simp) hS25 ?_
  refine wpAnyH_ready (rs:=[8]) (by kernel_rfl) (by simp) ?_;refine AllReadyH.cons rfl (fun K hK=> ?_) AllReadyH.nil
  have bu:But PQ12 w18 (w18.setCells PQ12 0 [.string sa,.string sb]):=de _ _ _ _;have hth:w18.there PQ12 0 2:=dD q22;have q26:au (w18.setCells PQ12 0 [.string sa,.string sb]) PQ12 169 [.string sa,.string sb]:=q22.sets _ rfl;have q27:=bu.loc q21 (by omega);have b28:=bu.below b23 (by omega);rw[if_pos (by kernel_rfl)];refine wp_store_mid 169 (.tmp 4) (.tmp 11) rfl PQ12 0 #[.string sa,.string sb] (by kernel_rfl) (by kernel_rfl) hth (by kernel_rfl) (by simp[Value.oneCell']) ?_;refine hK.out _ _ q27 (fun hS29=> ?_)
  clear hK K;clear q22 r1x20 q21 b23 bu hth;refine tq 9 (.bool ok) rfl (fun _ _=>by kernel_rfl) hS29 ?_
  refine wpAnyH_done (by kernel_rfl) ?_ _;clear hS0 hS17 hS24 hS25 hS29;change Exit.then _ _ _ _ (World.setCells w18 PQ12 0 [.string sa,.string sb]);generalize World.setCells w18 PQ12 0 [.string sa,.string sb]=W30 at q27 q26 b28⊢;simp only[Act.put,List.getElem_toArray,List.getElem_cons_succ,List.getElem_cons_zero,List.setIfInBounds_toArray,List.set_cons_zero,List.set_cons_succ];have c31:=q27.c 1 rfl;have c32:=q26.c 0 rfl
  go_wp2
  go_ret2
  exact⟨rfl,b28⟩
theorem tword_t (c p:Int)(vo:Option Addr)(vl vc:Nat)(sa sb:ByteArray)(ok:Bool)(w:World)
  (HW: ∀w1,yC 94 #[] w1 (MpR w1))
  (HL: ∀wq mr,MapAt wq mr→(Instr.lookup 171 (.map (some mr)) (yi c) true).run Tryz.prog wq= .ok (.tuple #[.agg #[.string sa,.string sb],.bool ok]) wq):
  yC 45 #[yvV c true (.slice vo vl vc) p] w (yR w (.tuple #[.string sb,.bool ok])):=by
 replace HW:Hid _:=HW;replace HL:Hid _:=HL;obtain⟨W3,hW4,q1,b2⟩:=cA w (yvL c true (.slice vo vl vc) p) 66;replace hW4:Hid _:=hW4
 go_enter func45,ntmps45
 go_upto_region 1 with fail
 rw[hW4.out];clear hW4
 go_upto_region 1 with fail
 have bW5:yB W3 W3.drew:=(Below.refl _ _).drew;have q6:=q1.l bW5;have b7:=aa b2 bW5;clear q1 b2 bW5;refine wp_region_held_drew (S:=fun wq=>au wq w.heap.size 66 (yvL c true (.slice vo vl vc) p)) (by kernel_rfl) q6 (fun hS0=> ?_)
 generalize W3.drew=WD8 at q6 b7 hS0⊢;refine tq 1 (.pointer (some ⟨w.heap.size,0,none⟩)) rfl (fun _ _=>by kernel_rfl) hS0 ?_
 refine tq 2 (yi c) rfl (fun _ hw0=>gU 3 (.tmp 8) rfl w.heap.size 0 (by kernel_rfl) _ _ underlying3 rfl (hw0.c 0 rfl)) hS0 ?_
 refine wpAnyH_ready (rs:=[0,7]) (by kernel_rfl) (by simp) ?_;refine AllReadyH.cons rfl (fun K hK=> ?_) (AllReadyH.cons rfl (fun K hK=> ?_) AllReadyH.nil)
 ·go_simp
  refine(HW.out _).mono ?_;rintro zz w9 ⟨mr,rfl,r1x11,bb10⟩;have q12:=q6.l bb10;have b13:=aa b7 bb10;clear q6 b7 bb10 HW;refine hK.out _ _ q12 (fun hS14=> ?_)
  clear hK K;refine wpAnyH_ready (rs:=[3,7]) (by kernel_rfl) (by simp) ?_;refine AllReadyH.cons rfl (fun K hK=> ?_) (AllReadyH.cons rfl (fun K hK=> ?_) AllReadyH.nil)
  ·rw[if_pos (by kernel_rfl)]
   refine wp_yield (.tuple #[.agg #[.string sa,.string sb],.bool ok]) (xlook 171 (.tmp 7) (.tmp 9) true rfl _ _ (by kernel_rfl) (by kernel_rfl) (HL.out _ _ r1x11)) ?_;refine hK.out _ _ q12 (fun hS15=> ?_)
   clear hK K;refine tq 4 (.tuple #[.agg #[.string sa,.string sb],.bool ok]) rfl (fun _ _=>by kernel_rfl) hS15 ?_
   refine tq 5 (.agg #[.string sa,.string sb]) rfl (fun _ _=>by go_simp) hS15 ?_
   refine tq 6 (.bool ok) rfl (fun _ _=>by go_simp) hS15 ?_
   refine wpAnyH_ready (rs:=[7]) (by kernel_rfl) (by simp) ?_;refine AllReadyH.cons rfl (fun K hK=> ?_) AllReadyH.nil
   go_simp
   have al16:=af w9 (.cells #[.string ⟨#[]⟩,.string ⟨#[]⟩] 169);have q17:=ah w9 [.string ⟨#[]⟩,.string ⟨#[]⟩] 169;have hl20:w.heap.size≤w9.heap.size:=b13.size;have hl21:=q12.lt;have q22:=q12.l al16;have b23:=aa b13 al16;refine hK.out _ _ q22 (fun hS24=> ?_)
   clear hK K;clear q12 r1x11 b13 al16;generalize w9.alloc (.cells #[.string ⟨#[]⟩,.string ⟨#[]⟩] 169)=WN18 at q22 q17 b23 hS24⊢;generalize w9.heap.size=PQ19 at q17 hl20 hl21⊢;refine wpAnyH_ready (rs:=[8]) (by kernel_rfl) (by simp) ?_;refine AllReadyH.cons rfl (fun K hK=> ?_) AllReadyH.nil
   have bu:But PQ19 WN18 (WN18.setCells PQ19 0 [.string sa,.string sb]):=de _ _ _ _;have hth:WN18.there PQ19 0 2:=dD q17;have q25:au (WN18.setCells PQ19 0 [.string sa,.string sb]) PQ19 169 [.string sa,.string sb]:=q17.sets _ rfl;have q26:=bu.loc q22 (by omega);have b27:=bu.below b23 (by omega);rw[if_pos (by kernel_rfl)];refine wp_store_mid 169 (.tmp 4) (.tmp 11) rfl PQ19 0 #[.string sa,.string sb] (by kernel_rfl) (by kernel_rfl) hth (by kernel_rfl) (by simp[Value.oneCell']) ?_;refine hK.out _ _ q26 (fun hS28=> ?_)
   clear hK K;clear q17 q22 b23 bu hth;refine tq 9 (.bool ok) rfl (fun _ _=>by kernel_rfl) hS28 ?_
   refine wpAnyH_done (by kernel_rfl) ?_ _;clear hS0 hS14 hS15 hS24 hS28;change Exit.then _ _ _ _ (World.setCells WN18 PQ19 0 [.string sa,.string sb]);generalize World.setCells WN18 PQ19 0 [.string sa,.string sb]=W29 at q26 q25 b27⊢;simp only[Act.put,List.getElem_toArray,List.getElem_cons_succ,List.getElem_cons_zero,List.setIfInBounds_toArray,List.set_cons_zero,List.set_cons_succ];have c30:=q26.c 1 rfl;have c31:=q25.c 1 rfl
   go_wp2
   go_ret2
   exact⟨rfl,b27⟩
  ·go_simp
   have al15:=af w9 (.cells #[.string ⟨#[]⟩,.string ⟨#[]⟩] 169);have q16:=ah w9 [.string ⟨#[]⟩,.string ⟨#[]⟩] 169;have hl19:w.heap.size≤w9.heap.size:=b13.size;have hl20:=q12.lt;have q21:=q12.l al15;have r22:=r1x11.l al15;have b23:=aa b13 al15;refine hK.out _ _ q21 (fun hS24=> ?_)
   clear hK K;clear q12 r1x11 b13 al15;generalize w9.alloc (.cells #[.string ⟨#[]⟩,.string ⟨#[]⟩] 169)=WN17 at q21 q16 r22 b23 hS24⊢;generalize w9.heap.size=PQ18 at q16 hl19 hl20⊢;refine wpAnyH_ready (rs:=[3]) (by kernel_rfl) (by simp) ?_;refine AllReadyH.cons rfl (fun K hK=> ?_) AllReadyH.nil
   rw[if_pos (by kernel_rfl)];refine wp_yield (.tuple #[.agg #[.string sa,.string sb],.bool ok]) (xlook 171 (.tmp 7) (.tmp 9) true rfl _ _ (by kernel_rfl) (by kernel_rfl) (HL.out _ _ r22)) ?_;refine hK.out _ _ q21 (fun hS25=> ?_)
   clear hK K;refine tq 4 (.tuple #[.agg #[.string sa,.string sb],.bool ok]) rfl (fun _ _=>by kernel_rfl) hS25 ?_
   refine tq 5 (.agg #[.string sa,.string sb]) rfl (fun _ _=>by go_simp) hS25 ?_
   refine tq 6 (.bool ok) rfl (fun _ _=>by go_simp) hS25 ?_
   refine wpAnyH_ready (rs:=[8]) (by kernel_rfl) (by simp) ?_;refine AllReadyH.cons rfl (fun K hK=> ?_) AllReadyH.nil
   have bu:But PQ18 WN17 (WN17.setCells PQ18 0 [.string sa,.string sb]):=de _ _ _ _;have hth:WN17.there PQ18 0 2:=dD q16;have q26:au (WN17.setCells PQ18 0 [.string sa,.string sb]) PQ18 169 [.string sa,.string sb]:=q16.sets _ rfl;have q27:=bu.loc q21 (by omega);have b28:=bu.below b23 (by omega);rw[if_pos (by kernel_rfl)];refine wp_store_mid 169 (.tmp 4) (.tmp 11) rfl PQ18 0 #[.string sa,.string sb] (by kernel_rfl) (by kernel_rfl) hth (by kernel_rfl) (by simp[Value.oneCell']) ?_;refine hK.out _ _ q27 (fun hS29=> ?_)
   clear hK K;clear q16 r22 q21 b23 bu hth;refine tq 9 (.bool ok) rfl (fun _ _=>by kernel_rfl) hS29 ?_
   refine wpAnyH_done (by kernel_rfl) ?_ _;clear hS0 hS14 hS24 hS25 hS29;change Exit.then _ _ _ _ (World.setCells WN17 PQ18 0 [.string sa,.string sb]);generalize World.setCells WN17 PQ18 0 [.string sa,.string sb]=W30 at q27 q26 b28⊢;simp only[Act.put,List.getElem_toArray,List.getElem_cons_succ,List.getElem_cons_zero,List.setIfInBounds_toArray,List.set_cons_zero,List.set_cons_succ];have c31:=q27.c 1 rfl;have c32:=q26.c 1 rfl
   go_wp2
   go_ret2
   exact⟨rfl,b28⟩
 ·go_simp
  have al9:=af WD8 (.cells #[.string ⟨#[]⟩,.string ⟨#[]⟩] 169);have q10:=ah WD8 [.string ⟨#[]⟩,.string ⟨#[]⟩] 169;have hl13:w.heap.size≤WD8.heap.size:=b7.size;have hl14:=q6.lt;have q15:=q6.l al9;have b16:=aa b7 al9;refine hK.out _ _ q15 (fun hS17=> ?_)
  clear hK K;clear q6 b7 al9;generalize WD8.alloc (.cells #[.string ⟨#[]⟩,.string ⟨#[]⟩] 169)=WN11 at q15 q10 b16 hS17⊢;generalize WD8.heap.size=PQ12 at q10 hl13 hl14⊢;refine wpAnyH_ready (rs:=[0]) (by kernel_rfl) (by simp) ?_;refine AllReadyH.cons rfl (fun K hK=> ?_) AllReadyH.nil
  go_simp
  refine(HW.out _).mono ?_;rintro zz w18 ⟨mr,rfl,r1x20,bb19⟩;have q21:=q15.l bb19;have q22:=q10.l bb19;have b23:=aa b16 bb19;clear q15 q10 b16 bb19 HW;refine hK.out _ _ q21 (fun hS24=> ?_)
  clear hK K;refine wpAnyH_ready (rs:=[3]) (by kernel_rfl) (by simp) ?_;refine AllReadyH.cons rfl (fun K hK=> ?_) AllReadyH.nil
  rw[if_pos (by kernel_rfl)];refine wp_yield (.tuple #[.agg #[.string sa,.string sb],.bool ok]) (xlook 171 (.tmp 7) (.tmp 9) true rfl _ _ (by kernel_rfl) (by kernel_rfl) (HL.out _ _ r1x20)) ?_;refine hK.out _ _ q21 (fun hS25=> ?_)
  clear hK K;refine tq 4 (.tuple #[.agg #[.string sa,.string sb],.bool ok]) rfl (fun _ _=>by kernel_rfl) hS25 ?_
  refine tq 5 (.agg #[.string sa,.string sb]) rfl (fun _ _=>by go_simp) hS25 ?_
  refine tq 6 (.bool ok) rfl (fun _ _=>by go_simp) hS25 ?_
  refine wpAnyH_ready (rs:=[8]) (by kernel_rfl) (by simp) ?_;refine AllReadyH.cons rfl (fun K hK=> ?_) AllReadyH.nil
  have bu:But PQ12 w18 (w18.setCells PQ12 0 [.string sa,.string sb]):=de _ _ _ _;have hth:w18.there PQ12 0 2:=dD q22;have q26:au (w18.setCells PQ12 0 [.string sa,.string sb]) PQ12 169 [.string sa,.string sb]:=q22.sets _ rfl;have q27:=bu.loc q21 (by omega);have b28:=bu.below b23 (by omega);rw[if_pos (by kernel_rfl)];refine wp_store_mid 169 (.tmp 4) (.tmp 11) rfl PQ12 0 #[.string sa,.string sb] (by kernel_rfl) (by kernel_rfl) hth (by kernel_rfl) (by simp[Value.oneCell']) ?_;refine hK.out _ _ q27 (fun hS29=> ?_)
  clear hK K;clear q22 r1x20 q21 b23 bu hth;refine tq 9 (.bool ok) rfl (fun _ _=>by kernel_rfl) hS29 ?_
  refine wpAnyH_done (by kernel_rfl) ?_ _;clear hS0 hS17 hS24 hS25 hS29;change Exit.then _ _ _ _ (World.setCells w18 PQ12 0 [.string sa,.string sb]);generalize World.setCells w18 PQ12 0 [.string sa,.string sb]=W30 at q27 q26 b28⊢;simp only[Act.put,List.getElem_toArray,List.getElem_cons_succ,List.getElem_cons_zero,List.setIfInBounds_toArray,List.set_cons_zero,List.set_cons_succ];have c31:=q27.c 1 rfl;have c32:=q26.c 1 rfl
  go_wp2
  go_ret2
  exact⟨rfl,b28⟩
theorem tmakes_err (n fl er:Int)(tx ps md:ByteArray)(w:World)(he:(er==0)=false)
  (HP:yH w 13 #[yi n,.string tx,yi 1] (.tuple #[.string ps,yi fl,yi er])):
  yC 59 #[.string tx,yi n,.string md] w (yR w (.bool false)):=by
 replace HP:Hid _:=HP
 go_enter func59,ntmps59
 have b0:=Below.refl w.heap.size w
 go_wp2_with fail
 refine(HP.out _ b0).mono ?_;rintro zz w1 ⟨rfl,bb2⟩;have b3:=aa b0 bb2;clear b0 bb2 HP
 go_wp2
 go_ret
 exact⟨rfl,b3⟩
theorem tmakes_yes (n fl:Int)(tx ps md:ByteArray)(w:World)(he:(ps.toList==md.toList)=true)
  (HP:yH w 13 #[yi n,.string tx,yi 1] (.tuple #[.string ps,yi fl,yi 0])):
  yC 59 #[.string tx,yi n,.string md] w (yR w (.bool true)):=by
 replace HP:Hid _:=HP
 go_enter func59,ntmps59
 have b0:=Below.refl w.heap.size w
 go_wp2_with fail
 refine(HP.out _ b0).mono ?_;rintro zz w1 ⟨rfl,bb2⟩;have b3:=aa b0 bb2;clear b0 bb2 HP
 go_wp2
 go_ret
 exact⟨rfl,b3⟩
theorem tmakes_no (n fl:Int)(tx ps md:ByteArray)(w:World)(he:(ps.toList==md.toList)=false)
  (HP:yH w 13 #[yi n,.string tx,yi 1] (.tuple #[.string ps,yi fl,yi 0])):
  yC 59 #[.string tx,yi n,.string md] w (yR w (.bool false)):=by
 replace HP:Hid _:=HP
 go_enter func59,ntmps59
 have b0:=Below.refl w.heap.size w
 go_wp2_with fail
 refine(HP.out _ b0).mono ?_;rintro zz w1 ⟨rfl,bb2⟩;have b3:=aa b0 bb2;clear b0 bb2 HP
 go_wp2
 go_ret
 exact⟨rfl,b3⟩
end Go.Proofs.YtpgijbdgljkeeaaGreatDoor
