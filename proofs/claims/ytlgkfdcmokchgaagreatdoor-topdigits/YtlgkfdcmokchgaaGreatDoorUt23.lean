/-
  Texts laid together: Co9, Co11, Gr5, Tx8.
-/
import Derived.Test.YtlgkfdcmokchgaaGreatDoorUt17
import Derived.Test.YtlgkfdcmokchgaaGreatDoorUt18
set_option maxRecDepth 100000
set_option maxHeartbeats 3200000
namespace Go.Proofs.YtlgkfdcmokchgaaGreatDoor
open _root_.Go.Proofs.Tryz
open Go.RowKit
theorem L6 (R D L G sz ex fam fr:Int)(gr:Bool)(F:Nat)(w:World)(hlt:fr<D)
  (HF:yJ 144 #[ylV R D L G gr sz ex fam F] (yi fr)):
  yC 166 #[ylV R D L G gr sz ex fam F] w (yR w (.int .u64 0)):=by
 have hsf:=cD;replace HF:Hid _:=HF;have l0:=ah w (ylL R D L G gr sz ex fam F) 110;have b0:=af w (.cells (ylA R D L G gr sz ex fam F) 110);obtain⟨x0,x1,x2,x3,x4,x5,x6,x7,x8⟩:=l0.cs9
 go_enter func166,ntmps166
 go_wp2_with fail
 go_region_held3 (fun wq=>wq.cell? ⟨w.heap.size,0,none⟩=some (yi R)∧wq.cell? ⟨w.heap.size,1,none⟩=some (yi D)∧wq.cell? ⟨w.heap.size,2,none⟩=some (yi L)∧wq.cell? ⟨w.heap.size,3,none⟩=some (yi G)∧wq.cell? ⟨w.heap.size,4,none⟩=some (.bool gr)∧wq.cell? ⟨w.heap.size,5,none⟩=some (yi sz)∧wq.cell? ⟨w.heap.size,6,none⟩=some (yi ex)∧wq.cell? ⟨w.heap.size,7,none⟩=some (yi fam)∧wq.cell? ⟨w.heap.size,8,none⟩=some (.func (.func F) #[] #[])) (go_keep) (first
  | (go_at_call 144;refine(HF.out _).mono ?_;rintro z w2 ⟨rfl,b2⟩;have l2:=l0.drew.l b2;obtain⟨y0,y1,y2,y3,y4,y5,y6,y7,y8⟩:=l2.cs9))
 all_goals go_wp2
 all_goals go_ret
 all_goals exact⟨rfl,aa b0.drew b2⟩
theorem L7 (R D L G sz ex fam fr ld:Int)(gr:Bool)(F:Nat)(w:World)(hlt: ¬fr<D)
  (HF:yJ 144 #[ylV R D L G gr sz ex fam F] (yi fr))
  (HL:yJ 145 #[ylV R D L G gr sz ex fam F] (.int .u64 ld)):
  yC 166 #[ylV R D L G gr sz ex fam F] w (yR w (.int .u64 ld)):=by
 have hsf:=cD;replace HF:Hid _:=HF;replace HL:Hid _:=HL;have l0:=ah w (ylL R D L G gr sz ex fam F) 110;have b0:=af w (.cells (ylA R D L G gr sz ex fam F) 110);obtain⟨x0,x1,x2,x3,x4,x5,x6,x7,x8⟩:=l0.cs9
 go_enter func166,ntmps166
 go_wp2_with fail
 go_region_held3 (fun wq=>wq.cell? ⟨w.heap.size,0,none⟩=some (yi R)∧wq.cell? ⟨w.heap.size,1,none⟩=some (yi D)∧wq.cell? ⟨w.heap.size,2,none⟩=some (yi L)∧wq.cell? ⟨w.heap.size,3,none⟩=some (yi G)∧wq.cell? ⟨w.heap.size,4,none⟩=some (.bool gr)∧wq.cell? ⟨w.heap.size,5,none⟩=some (yi sz)∧wq.cell? ⟨w.heap.size,6,none⟩=some (yi ex)∧wq.cell? ⟨w.heap.size,7,none⟩=some (yi fam)∧wq.cell? ⟨w.heap.size,8,none⟩=some (.func (.func F) #[] #[])) (go_keep) (first
  | (go_at_call 144;refine(HF.out _).mono ?_;rintro z w2 ⟨rfl,b2⟩;have l2:=l0.drew.l b2;obtain⟨y0,y1,y2,y3,y4,y5,y6,y7,y8⟩:=l2.cs9))
 all_goals go_wp2_with fail
 all_goals (refine(HL.out _).mono ?_;rintro z w3 ⟨rfl,b3⟩;go_wp2;go_ret;exact⟨rfl,aa (aa b0.drew b2) b3⟩)
theorem Ra (R D L G fam sz ex on wr:Int)(gr ng:Bool)(F:Nat)(e f:Int)(w:World)(HO:yJ 165 #[ylV R D L G gr sz ex fam F] (yi on))(HW:yJ 166 #[ylV R D L G gr sz ex fam F] (.int .u64 wr))(h1:on=e)(h2:wr=f)(_h0:(on==0)=false):yC 140 #[ylV R D L G gr sz ex fam F,yfV ng e f] w (yR w (yi 3)):=by
 have hsf:=cD;replace HO:Hid _:=HO;replace HW:Hid _:=HW;have l0:=(ah w (ylL R D L G gr sz ex fam F) 110).l (af _ (.cells (yfA ng e f) 112));have m0:=ah (w.alloc (.cells (ylA R D L G gr sz ex fam F) 110)) (yfL ng e f) 112;have b0:=aa (af w (.cells (ylA R D L G gr sz ex fam F) 110)) (af _ (.cells (yfA ng e f) 112));rw[World.size_alloc] at m0;subst h1 h2;obtain⟨x0,x1,x2,x3,x4,x5,x6,x7,x8⟩:=l0.cs9;obtain⟨u0,u1,u2⟩:=m0.cs3
 go_enter func140,ntmps140
 go_wp2_with fail
 go_region_held3 (fun wq=>(wq.cell? ⟨w.heap.size,0,none⟩=some (yi R)∧wq.cell? ⟨w.heap.size,1,none⟩=some (yi D)∧wq.cell? ⟨w.heap.size,2,none⟩=some (yi L)∧wq.cell? ⟨w.heap.size,3,none⟩=some (yi G)∧wq.cell? ⟨w.heap.size,4,none⟩=some (.bool gr)∧wq.cell? ⟨w.heap.size,5,none⟩=some (yi sz)∧wq.cell? ⟨w.heap.size,6,none⟩=some (yi ex)∧wq.cell? ⟨w.heap.size,7,none⟩=some (yi fam)∧wq.cell? ⟨w.heap.size,8,none⟩=some (.func (.func F) #[] #[]))∧(wq.cell? ⟨w.heap.size+1,0,none⟩=some (.bool ng)∧wq.cell? ⟨w.heap.size+1,1,none⟩=some (yi on)∧wq.cell? ⟨w.heap.size+1,2,none⟩=some (.int .u64 wr))) (go_keep) (first
  | (go_at_call 165;refine(HO.out _).mono ?_;rintro z w2 ⟨rfl,b2⟩;have l2:=l0.drew.l b2;have m2:=m0.drew.l b2;have b02:=aa b0.drew b2;obtain⟨y0,y1,y2,y3,y4,y5,y6,y7,y8⟩:=l2.cs9;obtain⟨v0,v1,v2⟩:=m2.cs3)
  | (go_at_call 166;refine(HW.out _).mono ?_;rintro z w3 ⟨rfl,b3⟩;have l3:=l2.l b3;have m3:=m2.l b3;have b03:=aa b02 b3;obtain⟨z0,z1,z2,z3,z4,z5,z6,z7,z8⟩:=l3.cs9;obtain⟨t0,t1,t2⟩:=m3.cs3))
 all_goals go_wp2
 all_goals go_ret
 all_goals exact⟨rfl,b03⟩
def rf (R D L:Int)(gr qs:Bool)(N M:Nat)(E way:Int):Bool:=
 gY way (dm ((gF R D L gr N M E*2:Nat):Int) ((dX M (shP R D L gr N M E):Nat):Int)) (decide (cH R D L gr N M E % 2=1)) qs
def fM (R D L:Int)(gr qs:Bool)(N M:Nat)(E way:Int):Nat:=
 if decide (gF R D L gr N M E=0)=false∧rf R D L gr qs N M E way=true then cH R D L gr N M E+1 else cH R D L gr N M E
def cI (R D L G:Int)(gr qs:Bool)(N M:Nat)(E way:Int):fz:=
 if fM R D L gr qs N M E way=0 then⟨qs,0,0,decide (gF R D L gr N M E=0),false,decide (aT R D (dY N M E)<L)⟩
 else⟨qs,io R D (fM R D L gr qs N M E way),gD R D (fM R D L gr qs N M E way) (dj R D L gr N M E),decide (gF R D L gr N M E=0),decide (G<gD R D (fM R D L gr qs N M E way) (dj R D L gr N M E)),decide (aT R D (dY N M E)<L)⟩
open Go.RowKit Go.ChangeMaps Go.MapKept
def wdE:Array MapEntry:= #[⟨yi 1,.agg #[.string ⟨#[48]⟩,.string ⟨#[45,48]⟩],0⟩,⟨yi 3,.agg #[.string ⟨#[105,110,102]⟩,.string ⟨#[45,105,110,102]⟩],1⟩,⟨yi 4,.agg #[.string ⟨#[110,111,110,101]⟩,.string ⟨#[110,111,110,101]⟩],2⟩,⟨yi 5,.agg #[.string ⟨#[114,101,115,101,114,118,101,100]⟩,.string ⟨#[114,101,115,101,114,118,101,100]⟩],3⟩]
def MapAt (w:World)(r:Nat):Prop:=r<w.heap.size∧w.heap[r]? =some (.map wdE 4)
theorem MapAt.l {w w':World}{r:Nat}(h:MapAt w r)(b:yB w w'):MapAt w' r:=⟨Nat.lt_of_lt_of_le h.1 b.size,(b.block r h.1).trans h.2⟩
def MpR (w:World)(z:Ending)(w':World):Prop:= ∃r,z= .returned (.map (some r))∧MapAt w' r∧yB w w'
theorem twords_any (w:World):yC 85 #[] w (MpR w):=by
 have ht:=underlying160;have hk:=underlying3;have hb0:(w.alloc (.map #[] 0)).heap[w.heap.size]? =some (.map #[] 0):=heap_alloc_new _ _;have b0:=af w (.map #[] 0);have e0:=run_makeMap (P:=Tryz.prog) 160 w;obtain⟨W1,e1,hb1,b1⟩:=sS ht hk hb0 (Nat.le_refl _) b0 1 (.agg #[.string ⟨#[48]⟩,.string ⟨#[45,48]⟩]) rfl;obtain⟨W2,e2,hb2,b2⟩:=sS ht hk hb1 (Nat.le_refl _) b1 3 (.agg #[.string ⟨#[105,110,102]⟩,.string ⟨#[45,105,110,102]⟩]) rfl;obtain⟨W3,e3,hb3,b3⟩:=sS ht hk hb2 (Nat.le_refl _) b2 4 (.agg #[.string ⟨#[110,111,110,101]⟩,.string ⟨#[110,111,110,101]⟩]) rfl;obtain⟨W4,e4,hb4,b4⟩:=sS ht hk hb3 (Nat.le_refl _) b3 5 (.agg #[.string ⟨#[114,101,115,101,114,118,101,100]⟩,.string ⟨#[114,101,115,101,114,118,101,100]⟩]) rfl;have hlt:w.heap.size<W4.heap.size:=by
  rcases Nat.lt_or_ge w.heap.size W4.heap.size with h|h
  ·exact h
  ·rw[Array.getElem?_eq_none h] at hb4
   cases hb4
 have HB:Hid (MapAt W4 w.heap.size):=⟨hlt,hb4⟩;clear hb1 hb2 hb3 hb4 b1 b2 b3 ht hk hb0 hlt
 go_enter func85,ntmps85
 go_wp2
 go_ret
 exact⟨_,rfl,HB.out,b4⟩
theorem xlook {P:Program}{o:Oper}{a:Act}{w:World}(t:TypeId)(x y:Operand)(c:Bool)(ho:o.op= .lookup t x y c)(m k:Value)(hx:a.eval x=m)(hy:a.eval y=k){v:Value}(h:(Instr.lookup t m k c).run P w= .ok v w):(execOp a.eval o).run P w= .ok (.value v) w:=by
 unfold execOp;simp only[ho,hx,hy];simp[h]
theorem find_ok {P:Program}{t k e:TypeId}(ht:P.underlying t=some (.map k e))(hk:P.underlying k=some (.int .i64)){W:World}{r:Nat}{es:Array MapEntry}{c:Nat}(hb:W.heap[r]? =some (.map es c))(x:Int){i:Nat}{v:Value}(h:Instr.findNow (.int .i64) (yi x) es.toList 0=some (some (i,v))):
  (Instr.lookup t (.map (some r)) (yi x) true).run P W= .ok (.tuple #[v,.bool true]) W:=by
 have hkey:IsKey (.int .i64) (yi x):=rfl;simp[Instr.lookup,run_underlying ht,MapKept.run_getObj_map hb,run_checkKey hk hkey,run_findKey hk h,Result.andThen]
theorem miss_ok {P:Program}{t k e:TypeId}(ht:P.underlying t=some (.map k e))(hk:P.underlying k=some (.int .i64)){W:World}{r:Nat}{es:Array MapEntry}{c:Nat}(hb:W.heap[r]? =some (.map es c))(x:Int){z:Value}(hz:(zeroValue e).run P W= .ok z W)(h:Instr.findNow (.int .i64) (yi x) es.toList 0=some none):
  (Instr.lookup t (.map (some r)) (yi x) true).run P W= .ok (.tuple #[z,.bool false]) W:=by
 have hkey:IsKey (.int .i64) (yi x):=rfl;simp[Instr.lookup,run_underlying ht,MapKept.run_getObj_map hb,run_checkKey hk hkey,run_findKey hk h,hz,Result.andThen]
def wdV (c:Int):ByteArray×ByteArray×Bool:=if c=1 then(⟨#[48]⟩,⟨#[45,48]⟩,true) else if c=3 then(⟨#[105,110,102]⟩,⟨#[45,105,110,102]⟩,true) else if c=4 then(⟨#[110,111,110,101]⟩,⟨#[110,111,110,101]⟩,true) else if c=5 then(⟨#[114,101,115,101,114,118,101,100]⟩,⟨#[114,101,115,101,114,118,101,100]⟩,true) else(⟨#[]⟩,⟨#[]⟩,false)
theorem look_any (c:Int)(w:World)(r:Nat)(hm:MapAt w r):(Instr.lookup 160 (.map (some r)) (yi c) true).run Tryz.prog w= .ok (.tuple #[.agg #[.string (wdV c).1,.string (wdV c).2.1],.bool (wdV c).2.2]) w:=by
 unfold wdV
 by_cases h1:c=1
 ·subst h1
  rw[if_pos rfl];exact find_ok underlying160 underlying3 hm.2 1 rfl
 by_cases h3:c=3
 ·subst h3
  rw[if_neg (by decide)];rw[if_pos rfl];exact find_ok underlying160 underlying3 hm.2 3 rfl
 by_cases h4:c=4
 ·subst h4
  rw[if_neg (by decide)];rw[if_neg (by decide)];rw[if_pos rfl];exact find_ok underlying160 underlying3 hm.2 4 rfl
 by_cases h5:c=5
 ·subst h5
  rw[if_neg (by decide)];rw[if_neg (by decide)];rw[if_neg (by decide)];rw[if_pos rfl];exact find_ok underlying160 underlying3 hm.2 5 rfl
 rw[if_neg h1,if_neg h3,if_neg h4,if_neg h5];refine miss_ok underlying160 underlying3 hm.2 c ?_ ?_
 ·kernel_rfl
 ·simp[wdE,Instr.findNow,XI,h1,h3,h4,h5]
theorem tword_f (c p:Int)(vo:Option Addr)(vl vc:Nat)(sa sb:ByteArray)(ok:Bool)(w:World)
  (HW: ∀w1,yC 85 #[] w1 (MpR w1))
  (HL: ∀wq mr,MapAt wq mr→(Instr.lookup 160 (.map (some mr)) (yi c) true).run Tryz.prog wq= .ok (.tuple #[.agg #[.string sa,.string sb],.bool ok]) wq):
  yC 46 #[yvV c false (.slice vo vl vc) p] w (yR w (.tuple #[.string sa,.bool ok])):=by
 replace HW:Hid _:=HW;replace HL:Hid _:=HL;obtain⟨W3,hW4,q1,b2⟩:=cA w (yvL c false (.slice vo vl vc) p) 48;replace hW4:Hid _:=hW4
 go_enter func46,ntmps46
 go_upto_region 1 with fail
 rw[hW4.out];clear hW4
 go_upto_region 1 with fail
 have bW5:yB W3 W3.drew:=(Below.refl _ _).drew;have q6:=q1.l bW5;have b7:=aa b2 bW5;clear q1 b2 bW5;refine wp_region_held_drew (S:=fun wq=>au wq w.heap.size 48 (yvL c false (.slice vo vl vc) p)) (by kernel_rfl) q6 (fun hS0=> ?_)
 generalize W3.drew=WD8 at q6 b7 hS0⊢;refine tq 1 (.pointer (some ⟨w.heap.size,0,none⟩)) rfl (fun _ _=>by kernel_rfl) hS0 ?_
 refine tq 2 (yi c) rfl (fun _ hw0=>gU 3 (.tmp 8) rfl w.heap.size 0 (by kernel_rfl) _ _ underlying3 rfl (hw0.c 0 rfl)) hS0 ?_
 refine wpAnyH_ready (rs:=[0,7]) (by kernel_rfl) (by simp) ?_;refine AllReadyH.cons rfl (fun K hK=> ?_) (AllReadyH.cons rfl (fun K hK=> ?_) AllReadyH.nil)
 ·go_simp
  refine(HW.out _).mono ?_;rintro zz w9 ⟨mr,rfl,r1x11,bb10⟩;have q12:=q6.l bb10;have b13:=aa b7 bb10;clear q6 b7 bb10 HW;refine hK.out _ _ q12 (fun hS14=> ?_)
  clear hK K;refine wpAnyH_ready (rs:=[3,7]) (by kernel_rfl) (by simp) ?_;refine AllReadyH.cons rfl (fun K hK=> ?_) (AllReadyH.cons rfl (fun K hK=> ?_) AllReadyH.nil)
  ·rw[if_pos (by kernel_rfl)]
   refine wp_yield (.tuple #[.agg #[.string sa,.string sb],.bool ok]) (xlook 160 (.tmp 7) (.tmp 9) true rfl _ _ (by kernel_rfl) (by kernel_rfl) (HL.out _ _ r1x11)) ?_;refine hK.out _ _ q12 (fun hS15=> ?_)
   clear hK K;refine tq 4 (.tuple #[.agg #[.string sa,.string sb],.bool ok]) rfl (fun _ _=>by kernel_rfl) hS15 ?_
   refine tq 5 (.agg #[.string sa,.string sb]) rfl (fun _ _=>by go_simp) hS15 ?_
   refine tq 6 (.bool ok) rfl (fun _ _=>by go_simp) hS15 ?_
   refine wpAnyH_ready (rs:=[7]) (by kernel_rfl) (by simp) ?_;refine AllReadyH.cons rfl (fun K hK=> ?_) AllReadyH.nil
   go_simp
   have al16:=af w9 (.cells #[.string ⟨#[]⟩,.string ⟨#[]⟩] 158);have q17:=ah w9 [.string ⟨#[]⟩,.string ⟨#[]⟩] 158;have hl20:w.heap.size≤w9.heap.size:=b13.size;have hl21:=q12.lt;have q22:=q12.l al16;have b23:=aa b13 al16;refine hK.out _ _ q22 (fun hS24=> ?_)
   clear hK K;clear q12 r1x11 b13 al16;generalize w9.alloc (.cells #[.string ⟨#[]⟩,.string ⟨#[]⟩] 158)=WN18 at q22 q17 b23 hS24⊢;generalize w9.heap.size=PQ19 at q17 hl20 hl21⊢;refine wpAnyH_ready (rs:=[8]) (by kernel_rfl) (by simp) ?_;refine AllReadyH.cons rfl (fun K hK=> ?_) AllReadyH.nil
   have bu:But PQ19 WN18 (WN18.setCells PQ19 0 [.string sa,.string sb]):=de _ _ _ _;have hth:WN18.there PQ19 0 2:=dD q17;have q25:au (WN18.setCells PQ19 0 [.string sa,.string sb]) PQ19 158 [.string sa,.string sb]:=q17.sets _ rfl;have q26:=bu.loc q22 (by omega);have b27:=bu.below b23 (by omega);rw[if_pos (by kernel_rfl)];refine wp_store_mid 158 (.tmp 4) (.tmp 11) rfl PQ19 0 #[.string sa,.string sb] (by kernel_rfl) (by kernel_rfl) hth (by kernel_rfl) (by simp[Value.oneCell']) ?_;refine hK.out _ _ q26 (fun hS28=> ?_)
   clear hK K;clear q17 q22 b23 bu hth;refine tq 9 (.bool ok) rfl (fun _ _=>by kernel_rfl) hS28 ?_
   refine wpAnyH_done (by kernel_rfl) ?_ _;clear hS0 hS14 hS15 hS24 hS28;change Exit.then _ _ _ _ (World.setCells WN18 PQ19 0 [.string sa,.string sb]);generalize World.setCells WN18 PQ19 0 [.string sa,.string sb]=W29 at q26 q25 b27⊢;simp only[Act.put,List.getElem_toArray,List.getElem_cons_succ,List.getElem_cons_zero,List.setIfInBounds_toArray,List.set_cons_zero,List.set_cons_succ];have c30:=q26.c 1 rfl;have c31:=q25.c 0 rfl
   go_wp2
   go_ret2
   exact⟨rfl,b27⟩
  ·go_simp
   have al15:=af w9 (.cells #[.string ⟨#[]⟩,.string ⟨#[]⟩] 158);have q16:=ah w9 [.string ⟨#[]⟩,.string ⟨#[]⟩] 158;have hl19:w.heap.size≤w9.heap.size:=b13.size;have hl20:=q12.lt;have q21:=q12.l al15;have r22:=r1x11.l al15;have b23:=aa b13 al15;refine hK.out _ _ q21 (fun hS24=> ?_)
   clear hK K;clear q12 r1x11 b13 al15;generalize w9.alloc (.cells #[.string ⟨#[]⟩,.string ⟨#[]⟩] 158)=WN17 at q21 q16 r22 b23 hS24⊢;generalize w9.heap.size=PQ18 at q16 hl19 hl20⊢;refine wpAnyH_ready (rs:=[3]) (by kernel_rfl) (by simp) ?_;refine AllReadyH.cons rfl (fun K hK=> ?_) AllReadyH.nil
   rw[if_pos (by kernel_rfl)];refine wp_yield (.tuple #[.agg #[.string sa,.string sb],.bool ok]) (xlook 160 (.tmp 7) (.tmp 9) true rfl _ _ (by kernel_rfl) (by kernel_rfl) (HL.out _ _ r22)) ?_;refine hK.out _ _ q21 (fun hS25=> ?_)
   clear hK K;refine tq 4 (.tuple #[.agg #[.string sa,.string sb],.bool ok]) rfl (fun _ _=>by kernel_rfl) hS25 ?_
   refine tq 5 (.agg #[.string sa,.string sb]) rfl (fun _ _=>by go_simp) hS25 ?_
   refine tq 6 (.bool ok) rfl (fun _ _=>by go_simp) hS25 ?_
   refine wpAnyH_ready (rs:=[8]) (by kernel_rfl) (by simp) ?_;refine AllReadyH.cons rfl (fun K hK=> ?_) AllReadyH.nil
   have bu:But PQ18 WN17 (WN17.setCells PQ18 0 [.string sa,.string sb]):=de _ _ _ _;have hth:WN17.there PQ18 0 2:=dD q16;have q26:au (WN17.setCells PQ18 0 [.string sa,.string sb]) PQ18 158 [.string sa,.string sb]:=q16.sets _ rfl;have q27:=bu.loc q21 (by omega);have b28:=bu.below b23 (by omega);rw[if_pos (by kernel_rfl)];refine wp_store_mid 158 (.tmp 4) (.tmp 11) rfl PQ18 0 #[.string sa,.string sb] (by kernel_rfl) (by kernel_rfl) hth (by kernel_rfl) (by simp[Value.oneCell']) ?_;refine hK.out _ _ q27 (fun hS29=> ?_)
   clear hK K;clear q16 r22 q21 b23 bu hth;refine tq 9 (.bool ok) rfl (fun _ _=>by kernel_rfl) hS29 ?_
   refine wpAnyH_done (by kernel_rfl) ?_ _;clear hS0 hS14 hS24 hS25 hS29;change Exit.then _ _ _ _ (World.setCells WN17 PQ18 0 [.string sa,.string sb]);generalize World.setCells WN17 PQ18 0 [.string sa,.string sb]=W30 at q27 q26 b28⊢;simp only[Act.put,List.getElem_toArray,List.getElem_cons_succ,List.getElem_cons_zero,List.setIfInBounds_toArray,List.set_cons_zero,List.set_cons_succ];have c31:=q27.c 1 rfl;have c32:=q26.c 0 rfl
   go_wp2
   go_ret2
   exact⟨rfl,b28⟩
 ·go_simp
  have al9:=af WD8 (.cells #[.string ⟨#[]⟩,.string ⟨#[]⟩] 158);have q10:=ah WD8 [.string ⟨#[]⟩,.string ⟨#[]⟩] 158;have hl13:w.heap.size≤WD8.heap.size:=b7.size;have hl14:=q6.lt;have q15:=q6.l al9;have b16:=aa b7 al9;refine hK.out _ _ q15 (fun hS17=> ?_)
  clear hK K;clear q6 b7 al9;generalize WD8.alloc (.cells #[.string ⟨#[]⟩,.string ⟨#[]⟩] 158)=WN11 at q15 q10 b16 hS17⊢;generalize WD8.heap.size=PQ12 at q10 hl13 hl14⊢;refine wpAnyH_ready (rs:=[0]) (by kernel_rfl) (by simp) ?_;refine AllReadyH.cons rfl (fun K hK=> ?_) AllReadyH.nil
  go_simp
  refine(HW.out _).mono ?_;rintro zz w18 ⟨mr,rfl,r1x20,bb19⟩;have q21:=q15.l bb19;have q22:=q10.l bb19;have b23:=aa b16 bb19;clear q15 q10 b16 bb19 HW;refine hK.out _ _ q21 (fun hS24=> ?_)
  clear hK K;refine wpAnyH_ready (rs:=[3]) (by kernel_rfl) (by simp) ?_;refine AllReadyH.cons rfl (fun K hK=> ?_) AllReadyH.nil
  rw[if_pos (by kernel_rfl)];refine wp_yield (.tuple #[.agg #[.string sa,.string sb],.bool ok]) (xlook 160 (.tmp 7) (.tmp 9) true rfl _ _ (by kernel_rfl) (by kernel_rfl) (HL.out _ _ r1x20)) ?_;refine hK.out _ _ q21 (fun hS25=> ?_)
  clear hK K;refine tq 4 (.tuple #[.agg #[.string sa,.string sb],.bool ok]) rfl (fun _ _=>by kernel_rfl) hS25 ?_
  refine tq 5 (.agg #[.string sa,.string sb]) rfl (fun _ _=>by go_simp) hS25 ?_
  refine tq 6 (.bool ok) rfl (fun _ _=>by go_simp) hS25 ?_
  refine wpAnyH_ready (rs:=[8]) (by kernel_rfl) (by simp) ?_;refine AllReadyH.cons rfl (fun K hK=> ?_) AllReadyH.nil
  have bu:But PQ12 w18 (w18.setCells PQ12 0 [.string sa,.string sb]):=de _ _ _ _;have hth:w18.there PQ12 0 2:=dD q22;have q26:au (w18.setCells PQ12 0 [.string sa,.string sb]) PQ12 158 [.string sa,.string sb]:=q22.sets _ rfl;have q27:=bu.loc q21 (by omega);have b28:=bu.below b23 (by omega);rw[if_pos (by kernel_rfl)];refine wp_store_mid 158 (.tmp 4) (.tmp 11) rfl PQ12 0 #[.string sa,.string sb] (by kernel_rfl) (by kernel_rfl) hth (by kernel_rfl) (by simp[Value.oneCell']) ?_;refine hK.out _ _ q27 (fun hS29=> ?_)
  clear hK K;clear q22 r1x20 q21 b23 bu hth;refine tq 9 (.bool ok) rfl (fun _ _=>by kernel_rfl) hS29 ?_
  refine wpAnyH_done (by kernel_rfl) ?_ _;clear hS0 hS17 hS24 hS25 hS29;change Exit.then _ _ _ _ (World.setCells w18 PQ12 0 [.string sa,.string sb]);generalize World.setCells w18 PQ12 0 [.string sa,.string sb]=W30 at q27 q26 b28⊢;simp only[Act.put,List.getElem_toArray,List.getElem_cons_succ,List.getElem_cons_zero,List.setIfInBounds_toArray,List.set_cons_zero,List.set_cons_succ];have c31:=q27.c 1 rfl;have c32:=q26.c 0 rfl
  go_wp2
  go_ret2
  exact⟨rfl,b28⟩
theorem tword_t (c p:Int)(vo:Option Addr)(vl vc:Nat)(sa sb:ByteArray)(ok:Bool)(w:World)
  (HW: ∀w1,yC 85 #[] w1 (MpR w1))
  (HL: ∀wq mr,MapAt wq mr→(Instr.lookup 160 (.map (some mr)) (yi c) true).run Tryz.prog wq= .ok (.tuple #[.agg #[.string sa,.string sb],.bool ok]) wq):
  yC 46 #[yvV c true (.slice vo vl vc) p] w (yR w (.tuple #[.string sb,.bool ok])):=by
 replace HW:Hid _:=HW;replace HL:Hid _:=HL;obtain⟨W3,hW4,q1,b2⟩:=cA w (yvL c true (.slice vo vl vc) p) 48;replace hW4:Hid _:=hW4
 go_enter func46,ntmps46
 go_upto_region 1 with fail
 rw[hW4.out];clear hW4
 go_upto_region 1 with fail
 have bW5:yB W3 W3.drew:=(Below.refl _ _).drew;have q6:=q1.l bW5;have b7:=aa b2 bW5;clear q1 b2 bW5;refine wp_region_held_drew (S:=fun wq=>au wq w.heap.size 48 (yvL c true (.slice vo vl vc) p)) (by kernel_rfl) q6 (fun hS0=> ?_)
 generalize W3.drew=WD8 at q6 b7 hS0⊢;refine tq 1 (.pointer (some ⟨w.heap.size,0,none⟩)) rfl (fun _ _=>by kernel_rfl) hS0 ?_
 refine tq 2 (yi c) rfl (fun _ hw0=>gU 3 (.tmp 8) rfl w.heap.size 0 (by kernel_rfl) _ _ underlying3 rfl (hw0.c 0 rfl)) hS0 ?_
 refine wpAnyH_ready (rs:=[0,7]) (by kernel_rfl) (by simp) ?_;refine AllReadyH.cons rfl (fun K hK=> ?_) (AllReadyH.cons rfl (fun K hK=> ?_) AllReadyH.nil)
 ·go_simp
  refine(HW.out _).mono ?_;rintro zz w9 ⟨mr,rfl,r1x11,bb10⟩;have q12:=q6.l bb10;have b13:=aa b7 bb10;clear q6 b7 bb10 HW;refine hK.out _ _ q12 (fun hS14=> ?_)
  clear hK K;refine wpAnyH_ready (rs:=[3,7]) (by kernel_rfl) (by simp) ?_;refine AllReadyH.cons rfl (fun K hK=> ?_) (AllReadyH.cons rfl (fun K hK=> ?_) AllReadyH.nil)
  ·rw[if_pos (by kernel_rfl)]
   refine wp_yield (.tuple #[.agg #[.string sa,.string sb],.bool ok]) (xlook 160 (.tmp 7) (.tmp 9) true rfl _ _ (by kernel_rfl) (by kernel_rfl) (HL.out _ _ r1x11)) ?_;refine hK.out _ _ q12 (fun hS15=> ?_)
   clear hK K;refine tq 4 (.tuple #[.agg #[.string sa,.string sb],.bool ok]) rfl (fun _ _=>by kernel_rfl) hS15 ?_
   refine tq 5 (.agg #[.string sa,.string sb]) rfl (fun _ _=>by go_simp) hS15 ?_
   refine tq 6 (.bool ok) rfl (fun _ _=>by go_simp) hS15 ?_
   refine wpAnyH_ready (rs:=[7]) (by kernel_rfl) (by simp) ?_;refine AllReadyH.cons rfl (fun K hK=> ?_) AllReadyH.nil
   go_simp
   have al16:=af w9 (.cells #[.string ⟨#[]⟩,.string ⟨#[]⟩] 158);have q17:=ah w9 [.string ⟨#[]⟩,.string ⟨#[]⟩] 158;have hl20:w.heap.size≤w9.heap.size:=b13.size;have hl21:=q12.lt;have q22:=q12.l al16;have b23:=aa b13 al16;refine hK.out _ _ q22 (fun hS24=> ?_)
   clear hK K;clear q12 r1x11 b13 al16;generalize w9.alloc (.cells #[.string ⟨#[]⟩,.string ⟨#[]⟩] 158)=WN18 at q22 q17 b23 hS24⊢;generalize w9.heap.size=PQ19 at q17 hl20 hl21⊢;refine wpAnyH_ready (rs:=[8]) (by kernel_rfl) (by simp) ?_;refine AllReadyH.cons rfl (fun K hK=> ?_) AllReadyH.nil
   have bu:But PQ19 WN18 (WN18.setCells PQ19 0 [.string sa,.string sb]):=de _ _ _ _;have hth:WN18.there PQ19 0 2:=dD q17;have q25:au (WN18.setCells PQ19 0 [.string sa,.string sb]) PQ19 158 [.string sa,.string sb]:=q17.sets _ rfl;have q26:=bu.loc q22 (by omega);have b27:=bu.below b23 (by omega);rw[if_pos (by kernel_rfl)];refine wp_store_mid 158 (.tmp 4) (.tmp 11) rfl PQ19 0 #[.string sa,.string sb] (by kernel_rfl) (by kernel_rfl) hth (by kernel_rfl) (by simp[Value.oneCell']) ?_;refine hK.out _ _ q26 (fun hS28=> ?_)
   clear hK K;clear q17 q22 b23 bu hth;refine tq 9 (.bool ok) rfl (fun _ _=>by kernel_rfl) hS28 ?_
   refine wpAnyH_done (by kernel_rfl) ?_ _;clear hS0 hS14 hS15 hS24 hS28;change Exit.then _ _ _ _ (World.setCells WN18 PQ19 0 [.string sa,.string sb]);generalize World.setCells WN18 PQ19 0 [.string sa,.string sb]=W29 at q26 q25 b27⊢;simp only[Act.put,List.getElem_toArray,List.getElem_cons_succ,List.getElem_cons_zero,List.setIfInBounds_toArray,List.set_cons_zero,List.set_cons_succ];have c30:=q26.c 1 rfl;have c31:=q25.c 1 rfl
   go_wp2
   go_ret2
   exact⟨rfl,b27⟩
  ·go_simp
   have al15:=af w9 (.cells #[.string ⟨#[]⟩,.string ⟨#[]⟩] 158);have q16:=ah w9 [.string ⟨#[]⟩,.string ⟨#[]⟩] 158;have hl19:w.heap.size≤w9.heap.size:=b13.size;have hl20:=q12.lt;have q21:=q12.l al15;have r22:=r1x11.l al15;have b23:=aa b13 al15;refine hK.out _ _ q21 (fun hS24=> ?_)
   clear hK K;clear q12 r1x11 b13 al15;generalize w9.alloc (.cells #[.string ⟨#[]⟩,.string ⟨#[]⟩] 158)=WN17 at q21 q16 r22 b23 hS24⊢;generalize w9.heap.size=PQ18 at q16 hl19 hl20⊢;refine wpAnyH_ready (rs:=[3]) (by kernel_rfl) (by simp) ?_;refine AllReadyH.cons rfl (fun K hK=> ?_) AllReadyH.nil
   rw[if_pos (by kernel_rfl)];refine wp_yield (.tuple #[.agg #[.string sa,.string sb],.bool ok]) (xlook 160 (.tmp 7) (.tmp 9) true rfl _ _ (by kernel_rfl) (by kernel_rfl) (HL.out _ _ r22)) ?_;refine hK.out _ _ q21 (fun hS25=> ?_)
   clear hK K;refine tq 4 (.tuple #[.agg #[.string sa,.string sb],.bool ok]) rfl (fun _ _=>by kernel_rfl) hS25 ?_
   refine tq 5 (.agg #[.string sa,.string sb]) rfl (fun _ _=>by go_simp) hS25 ?_
   refine tq 6 (.bool ok) rfl (fun _ _=>by go_simp) hS25 ?_
   refine wpAnyH_ready (rs:=[8]) (by kernel_rfl) (by simp) ?_;refine AllReadyH.cons rfl (fun K hK=> ?_) AllReadyH.nil
   have bu:But PQ18 WN17 (WN17.setCells PQ18 0 [.string sa,.string sb]):=de _ _ _ _;have hth:WN17.there PQ18 0 2:=dD q16;have q26:au (WN17.setCells PQ18 0 [.string sa,.string sb]) PQ18 158 [.string sa,.string sb]:=q16.sets _ rfl;have q27:=bu.loc q21 (by omega);have b28:=bu.below b23 (by omega);rw[if_pos (by kernel_rfl)];refine wp_store_mid 158 (.tmp 4) (.tmp 11) rfl PQ18 0 #[.string sa,.string sb] (by kernel_rfl) (by kernel_rfl) hth (by kernel_rfl) (by simp[Value.oneCell']) ?_;refine hK.out _ _ q27 (fun hS29=> ?_)
   clear hK K;clear q16 r22 q21 b23 bu hth;refine tq 9 (.bool ok) rfl (fun _ _=>by kernel_rfl) hS29 ?_
   refine wpAnyH_done (by kernel_rfl) ?_ _;clear hS0 hS14 hS24 hS25 hS29;change Exit.then _ _ _ _ (World.setCells WN17 PQ18 0 [.string sa,.string sb]);generalize World.setCells WN17 PQ18 0 [.string sa,.string sb]=W30 at q27 q26 b28⊢;simp only[Act.put,List.getElem_toArray,List.getElem_cons_succ,List.getElem_cons_zero,List.setIfInBounds_toArray,List.set_cons_zero,List.set_cons_succ];have c31:=q27.c 1 rfl;have c32:=q26.c 1 rfl
   go_wp2
   go_ret2
   exact⟨rfl,b28⟩
 ·go_simp
  have al9:=af WD8 (.cells #[.string ⟨#[]⟩,.string ⟨#[]⟩] 158);have q10:=ah WD8 [.string ⟨#[]⟩,.string ⟨#[]⟩] 158;have hl13:w.heap.size≤WD8.heap.size:=b7.size;have hl14:=q6.lt;have q15:=q6.l al9;have b16:=aa b7 al9;refine hK.out _ _ q15 (fun hS17=> ?_)
  clear hK K;clear q6 b7 al9;generalize WD8.alloc (.cells #[.string ⟨#[]⟩,.string ⟨#[]⟩] 158)=WN11 at q15 q10 b16 hS17⊢;generalize WD8.heap.size=PQ12 at q10 hl13 hl14⊢;refine wpAnyH_ready (rs:=[0]) (by kernel_rfl) (by simp) ?_;refine AllReadyH.cons rfl (fun K hK=> ?_) AllReadyH.nil
  go_simp
  refine(HW.out _).mono ?_;rintro zz w18 ⟨mr,rfl,r1x20,bb19⟩;have q21:=q15.l bb19;have q22:=q10.l bb19;have b23:=aa b16 bb19;clear q15 q10 b16 bb19 HW;refine hK.out _ _ q21 (fun hS24=> ?_)
  clear hK K;refine wpAnyH_ready (rs:=[3]) (by kernel_rfl) (by simp) ?_;refine AllReadyH.cons rfl (fun K hK=> ?_) AllReadyH.nil
  rw[if_pos (by kernel_rfl)];refine wp_yield (.tuple #[.agg #[.string sa,.string sb],.bool ok]) (xlook 160 (.tmp 7) (.tmp 9) true rfl _ _ (by kernel_rfl) (by kernel_rfl) (HL.out _ _ r1x20)) ?_;refine hK.out _ _ q21 (fun hS25=> ?_)
  clear hK K;refine tq 4 (.tuple #[.agg #[.string sa,.string sb],.bool ok]) rfl (fun _ _=>by kernel_rfl) hS25 ?_
  refine tq 5 (.agg #[.string sa,.string sb]) rfl (fun _ _=>by go_simp) hS25 ?_
  refine tq 6 (.bool ok) rfl (fun _ _=>by go_simp) hS25 ?_
  refine wpAnyH_ready (rs:=[8]) (by kernel_rfl) (by simp) ?_;refine AllReadyH.cons rfl (fun K hK=> ?_) AllReadyH.nil
  have bu:But PQ12 w18 (w18.setCells PQ12 0 [.string sa,.string sb]):=de _ _ _ _;have hth:w18.there PQ12 0 2:=dD q22;have q26:au (w18.setCells PQ12 0 [.string sa,.string sb]) PQ12 158 [.string sa,.string sb]:=q22.sets _ rfl;have q27:=bu.loc q21 (by omega);have b28:=bu.below b23 (by omega);rw[if_pos (by kernel_rfl)];refine wp_store_mid 158 (.tmp 4) (.tmp 11) rfl PQ12 0 #[.string sa,.string sb] (by kernel_rfl) (by kernel_rfl) hth (by kernel_rfl) (by simp[Value.oneCell']) ?_;refine hK.out _ _ q27 (fun hS29=> ?_)
  clear hK K;clear q22 r1x20 q21 b23 bu hth;refine tq 9 (.bool ok) rfl (fun _ _=>by kernel_rfl) hS29 ?_
  refine wpAnyH_done (by kernel_rfl) ?_ _;clear hS0 hS17 hS24 hS25 hS29;change Exit.then _ _ _ _ (World.setCells w18 PQ12 0 [.string sa,.string sb]);generalize World.setCells w18 PQ12 0 [.string sa,.string sb]=W30 at q27 q26 b28⊢;simp only[Act.put,List.getElem_toArray,List.getElem_cons_succ,List.getElem_cons_zero,List.setIfInBounds_toArray,List.set_cons_zero,List.set_cons_succ];have c31:=q27.c 1 rfl;have c32:=q26.c 1 rfl
  go_wp2
  go_ret2
  exact⟨rfl,b28⟩
theorem tmakes_err (n fl er:Int)(tx ps md:ByteArray)(w:World)(he:(er==0)=false)
  (HP:yH w 14 #[yi n,.string tx,yi 1] (.tuple #[.string ps,yi fl,yi er])):
  yC 49 #[.string tx,yi n,.string md] w (yR w (.bool false)):=by
 replace HP:Hid _:=HP
 go_enter func49,ntmps49
 have b0:=Below.refl w.heap.size w
 go_wp2_with fail
 refine(HP.out _ b0).mono ?_;rintro zz w1 ⟨rfl,bb2⟩;have b3:=aa b0 bb2;clear b0 bb2 HP
 go_wp2
 go_ret
 exact⟨rfl,b3⟩
theorem tmakes_yes (n fl:Int)(tx ps md:ByteArray)(w:World)(he:(ps.toList==md.toList)=true)
  (HP:yH w 14 #[yi n,.string tx,yi 1] (.tuple #[.string ps,yi fl,yi 0])):
  yC 49 #[.string tx,yi n,.string md] w (yR w (.bool true)):=by
 replace HP:Hid _:=HP
 go_enter func49,ntmps49
 have b0:=Below.refl w.heap.size w
 go_wp2_with fail
 refine(HP.out _ b0).mono ?_;rintro zz w1 ⟨rfl,bb2⟩;have b3:=aa b0 bb2;clear b0 bb2 HP
 go_wp2
 go_ret
 exact⟨rfl,b3⟩
theorem tmakes_no (n fl:Int)(tx ps md:ByteArray)(w:World)(he:(ps.toList==md.toList)=false)
  (HP:yH w 14 #[yi n,.string tx,yi 1] (.tuple #[.string ps,yi fl,yi 0])):
  yC 49 #[.string tx,yi n,.string md] w (yR w (.bool false)):=by
 replace HP:Hid _:=HP
 go_enter func49,ntmps49
 have b0:=Below.refl w.heap.size w
 go_wp2_with fail
 refine(HP.out _ b0).mono ?_;rintro zz w1 ⟨rfl,bb2⟩;have b3:=aa b0 bb2;clear b0 bb2 HP
 go_wp2
 go_ret
 exact⟨rfl,b3⟩
end Go.Proofs.YtlgkfdcmokchgaaGreatDoor
