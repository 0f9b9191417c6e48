/-
  Texts laid together: Ab3, Pa5, Ra4, Ga2, Gc2, Ra8.
-/
import Derived.Test.YtbdokgamhinajaaGreatDoorChecked
import Derived.Test.YtbdokgamhinajaaGreatDoorSj45
set_option maxRecDepth 100000
set_option maxHeartbeats 3200000
namespace Go.Proofs.YtbdokgamhinajaaGreatDoor
open _root_.Go.Proofs.Tryz
open Go.RowKit
abbrev yEL (c:Int)(g:Bool)(t:ak)(o:Option Addr)(k:Nat):List Value:=[.int .i64 c,.bool g,.bool t.s,.slice o (Dg.dg 65536 t.n).length k,.int .i64 t.e]
abbrev yEV (c:Int)(g:Bool)(t:ak)(o:Option Addr)(k:Nat):Value:= .agg #[.int .i64 c,.bool g,.bool t.s,.slice o (Dg.dg 65536 t.n).length k,.int .i64 t.e]
abbrev yEA (c:Int)(g:Bool)(t:ak)(o:Option Addr)(k:Nat):Array Value:= #[.int .i64 c,.bool g,.bool t.s,.slice o (Dg.dg 65536 t.n).length k,.int .i64 t.e]
abbrev yML (t:ak)(o:Option Addr)(k:Nat):List Value:=[.bool t.s,.slice o (Dg.dg 65536 t.n).length k,.int .i64 t.e]
abbrev yMV (t:ak)(o:Option Addr)(k:Nat):Value:= .agg #[.bool t.s,.slice o (Dg.dg 65536 t.n).length k,.int .i64 t.e]
abbrev yMA (t:ak)(o:Option Addr)(k:Nat):Array Value:= #[.bool t.s,.slice o (Dg.dg 65536 t.n).length k,.int .i64 t.e]
abbrev yXL (c:Int)(g:Bool)(t:ak)(o:Option Addr)(k:Nat)(d:Int)(h:Bool)(s:ak)(p:Option Addr)(m:Nat):List Value:=[.int .i64 c,.bool g,.bool t.s,.slice o (Dg.dg 65536 t.n).length k,.int .i64 t.e,.int .i64 d,.bool h,.bool s.s,.slice p (Dg.dg 65536 s.n).length m,.int .i64 s.e]
def OX (n way:Int)(a b:ByteArray):Int×Bool×ak×Int:=vY n.toNat way ((bM n a:Nat):Int) (dz n a) (opT n a) ((bM n b:Nat):Int) (dz n b) (opT n b)
theorem DI (n way:Int)(a b:ByteArray)(w:World)(hT:Tab w):yC 8 #[yi n,.string a,.string b,yi way] w (mM (jV n way [a,b] (OX n way a b)) w):=by
 refine acw n way _ _ a b _ w (fun pb w1 b1 hl=> ?_)
 refine nQ n way [a,b] _ _ pb w1 (by simp) (by simp) hl (enter_of func30 (by kernel_rfl) rfl) (hT.l b1) (fun k hk hn he hN=> ?_)
 subst hn;unfold OX;rw[Int.toNat_natCast];obtain⟨sa,-,-⟩:=ir hk (eU he a (by simp));obtain⟨sb,-,-⟩:=ir hk (eU he b (by simp));refine⟨fun h=>FU (rJ sa sb).1 h,fun g cap w2 b2 h=> ?_⟩
 obtain⟨xo,xc,r0,k0⟩:=h.each 0 a rfl;obtain⟨yo,yc,r1,k1⟩:=h.each 1 b rfl;exact X7 _ _ _ _ _ _ _ _ _ _ _ _ _ _ _ _ _ _ _ _ _ _ _ _ w2 r0 r1 (fun w3 b3=>GQ k hk way _ _ _ _ _ _ _ _ _ _ w3 (k0.l b3) (k1.l b3) (jB sa) (jB sb))
theorem noNum_any {k:Nat}{a b:ByteArray}(ha:dF (k:Int) a=0)(hb:dF (k:Int) b=0):[a,b].any (dO (k:Int))=decide (¬(((bM (k:Int) a:Nat):Int)≤3∧((bM (k:Int) b:Nat):Int)≤3)):=by
 have h1:=zl ha;have h2:=zl hb;simp only[List.any_cons,List.any_nil,Bool.or_false];unfold dO;rw[Bool.eq_iff_iff];simp;omega
theorem pair_pay {k:Nat}(hk:1≤k∧k≤8){way:Int}{a b:ByteArray}(hw:1≤way∧way≤5)(he:fT (k:Int) [a,b]=0)(hf:dK (k:Int)≠0)(f:Int×Bool×ak×Int)(F:Nat){cx cy:Int}{gx gy:Bool}{x y:ak}(hcx:((bM (k:Int) a:Nat):Int)=cx)(hcy:((bM (k:Int) b:Nat):Int)=cy)
  (HOff: ∀c fl xo xc yo yc w,(∀pb w1,au w1 pb 32 (yXL cx gx x xo xc cy gy y yo yc)→yC 34 #[yi (k:Int),.slice (some ⟨pb,0,none⟩) 2 2] w1 (yR w1 (.tuple #[yoV c false false (.slice none 0 0) 0,yi fl,.bool true])))→yC F #[yi (k:Int),yEV cx gx x xo xc,yEV cy gy y yo yc,yi way] w (RVF w c false ⟨false,0,0⟩ fl))
  (HNum:cx≤3∧cy≤3→ ∃v,RefOf k way cx cy gx gy x y F v∧SameV k (m8 k way f.1 f.2.1 f.2.2.1 f.2.2.2) v):
  ∃v,RefOf k way cx cy gx gy x y F v∧SameV k (jV (k:Int) way [a,b] f) v:=by
 have ha:=eU he a (by simp);have hb:=eU he b (by simp);rw[rec_right f hf he hw,noNum_any ha hb,hcx,hcy]
 by_cases h3:cx≤3∧cy≤3
 ·rw[if_neg (by rw[decide_eq_false (fun c=>c h3)];decide)]
  exact HNum h3
 ·rw[if_pos (decide_eq_true h3)]
  have hfl:(if dK (k:Int)=1 then(0:Int) else 16)=if dK (k:Int)=3 then 16 else 0:=by
   rcases qt hk with h|h|h
   ·rw[if_pos h,if_neg (by omega)]
   ·exfalso
    have:=hex_num hk h ha;have:=hex_num hk h hb;omega
   ·rw[if_neg (by omega),if_pos h]
  rw[hfl];exact⟨nthV k (if dK (k:Int)=3 then 16 else 0),fun xo xc yo yc w _ _=>HOff _ _ xo xc yo yc w (fun pb w1 hl=>(off_pair k hk _ _ _ _ _ _ _ _ _ _ pb w1 hl).2 h3),same_off hk way _⟩
theorem acd (cx cy c fl:Int)(n wy:Int)(gx gy:Bool)(x y:ak)(xo yo:Option Addr)(xc yc:Nat)(w:World)(HO: ∀pb w1,au w1 pb 32 (yXL cx gx x xo xc cy gy y yo yc)→yC 34 #[yi n,.slice (some ⟨pb,0,none⟩) 2 2] w1 (yR w1 (.tuple #[yoV c false false (.slice none 0 0) 0,yi fl,.bool true]))):
  yC 10 #[yi n,yEV cx gx x xo xc,yEV cy gy y yo yc,yi wy] w (RVF w c false ⟨false,0,0⟩ fl):=by
 replace HO:Hid _:=HO;obtain⟨W5,hW6,q1,q2,q3,b4⟩:=lG w (yEL cx gx x xo xc) 32 (yEL cy gy y yo yc) 32 (yoL 0 false false (.slice none 0 0) 0) 32;replace hW6:Hid _:=hW6
 go_enter func10,ntmps10
 go_upto_region 1 with fail
 rw[hW6.out];clear hW6;obtain⟨c7,c8,c9,c10,c11⟩:=q1.cs5;obtain⟨c12,c13,c14,c15,c16⟩:=q2.cs5;have al17:=af W5 (.cells #[yi cx,.bool gx,.bool x.s,.slice xo (Dg.dg 65536 x.n).length xc,yi x.e,yi cy,.bool gy,.bool y.s,.slice yo (Dg.dg 65536 y.n).length yc,yi y.e] 32);have q18:=ah W5 (yXL cx gx x xo xc cy gy y yo yc) 32;have q19:=q3.l al17;have b20:=aa b4 al17
 go_wp2_with fail
 refine(HO.out _ _ q18).mono ?_;rintro zz w21 ⟨rfl,bb22⟩;have q23:=q19.l bb22;have b24:=aa b20 bb22;clear q19 q18 b20 bb22 HO c7 c8 c9 c10 c11 c12 c13 c14 c15 c16 q1 q2 q3 b4 al17;obtain⟨W28,hW27,q26,al25⟩:=cA w21 (yoL c false false (.slice none 0 0) 0) 32;replace hW27:Hid _:=hW27;have hl29:w.heap.size≤w21.heap.size:=b24.size;have hl30:=q23.lt;have q31:=q23.l al25;have b32:=aa b24 al25;clear q23 b24 al25
 go_upto_region 2 with fail
 rw[hW27.out];clear hW27;obtain⟨c33,c34,c35,c36,c37⟩:=q26.cs5;have hf:=dL (P:=Tryz.prog) q31 b32 (by omega) underlying32 rfl (by kernel_rfl) (yi c) (.bool false) (.bool false) (.slice none 0 0) (yi 0);have HH:Hid (_∧_):=⟨hf.1,hf.2.1⟩;obtain⟨⟨z0,z1,z2,z3,z4⟩,y0,y1,y2,y3,y4⟩:=dN q31;clear hf q31 q26 b32
 go_wp2
 obtain⟨hl,bR⟩:=HH.out;exact bodyPost_ret (aj results10 rfl rfl hl) rfl ⟨_,rfl,aN _ _,bR⟩
theorem aay (e:Int)(n wy f1 e1:Int)(sa sb st:ByteArray)(w:World)(he:(e==0)=false)
  (HA:yH w 8 #[yi n,.string sa,.string sb,yi wy] (.tuple #[.string st,yi f1,yi e1]))
  (HO: ∀pb w1,au w1 pb 9 [.string sa,.string sb]→yC 9 #[yi n,yi wy,.slice (some ⟨pb,0,none⟩) 2 2] w1 (yR w1 (.tuple #[.slice none 0 0,yi e])))
  (HB:yH w 11 #[] (.bool true))
  (HI:yH w 12 #[yi n,.string st,yi f1,yi e1,yi e,yoV 0 false false (.slice none 0 0) 0,yi 0] (.bool true)):
  yC 3 #[yi n,.string sa,.string sb,yi wy] w (yR w (.bool true)):=by
 replace HA:Hid _:=HA;replace HO:Hid _:=HO;replace HB:Hid _:=HB;replace HI:Hid _:=HI
 go_enter func3,ntmps3
 have b0:=Below.refl w.heap.size w
 go_wp2_with fail
 refine(HA.out _ b0).mono ?_;rintro zz w1 ⟨rfl,bb2⟩;have b3:=aa b0 bb2;clear b0 bb2 HA;have al4:=af w1 (.cells #[.string sa,.string sb] 9);have q5:=ah w1 [.string sa,.string sb] 9;have b6:=aa b3 al4
 go_wp2_with fail
 refine(HO.out _ _ q5).mono ?_;rintro zz w7 ⟨rfl,bb8⟩;have b9:=aa b6 bb8;clear q5 b6 bb8 HO b3 al4;obtain⟨W13,hW12,q11,al10⟩:=cA w7 (yoL 0 false false (.slice none 0 0) 0) 32;replace hW12:Hid _:=hW12;have hl14:w.heap.size≤w7.heap.size:=b9.size;have b15:=aa b9 al10;clear b9 al10
 go_upto_region 4 with fail
 rw[hW12.out];clear hW12
 go_wp2_with fail
 refine(HB.out _ b15).mono ?_;rintro zz w16 ⟨rfl,bb17⟩;have q18:=q11.l bb17;have b19:=aa b15 bb17;clear q11 b15 bb17 HB;obtain⟨c20,c21,c22,c23,c24⟩:=q18.cs5
 go_wp2_with fail
 refine(HI.out _ b19).mono ?_;rintro zz w25 ⟨rfl,bb26⟩;have b27:=aa b19 bb26;clear q18 b19 bb26 HI c20 c21 c22 c23 c24
 go_wp2
 go_ret
 exact⟨by simp,b27⟩
theorem ab1 (cx cy c fl:Int)(gx gy g:Bool)(x y t:ak)(n wy f1 e1:Int)(sa sb st:ByteArray)(w:World)
  (HA:yH w 8 #[yi n,.string sa,.string sb,yi wy] (.tuple #[.string st,yi f1,yi e1]))
  (HO: ∀pb w1,au w1 pb 9 [.string sa,.string sb]→yC 9 #[yi n,yi wy,.slice (some ⟨pb,0,none⟩) 2 2] w1 fun zz w'=> ∃gb cap xo xc yo yc,zz= .returned (.tuple #[.slice (some ⟨gb,0,none⟩) 2 cap,yi 0])∧w'.rangeAt gb 0 (yEL cx gx x xo xc)∧w'.rangeAt gb 5 (yEL cy gy y yo yc)∧Rd w' .i64 (.slice xo (Dg.dg 65536 x.n).length xc) (Dg.dg 65536 x.n)∧Rd w' .i64 (.slice yo (Dg.dg 65536 y.n).length yc) (Dg.dg 65536 y.n)∧yB w1 w')
  (HR: ∀xo xc yo yc w1,yB w w1→Rd w1 .i64 (.slice xo (Dg.dg 65536 x.n).length xc) (Dg.dg 65536 x.n)→Rd w1 .i64 (.slice yo (Dg.dg 65536 y.n).length yc) (Dg.dg 65536 y.n)→yC 10 #[yi n,yEV cx gx x xo xc,yEV cy gy y yo yc,yi wy] w1 (RVF w1 c g t fl))
  (HB:yH w 11 #[] (.bool true))
  (HI: ∀so sc w1,yB w w1→Rd w1 .i64 (.slice so (Dg.dg 65536 t.n).length sc) (Dg.dg 65536 t.n)→yC 12 #[yi n,.string st,yi f1,yi e1,yi 0,yEV c g t so sc,yi fl] w1 (yR w1 (.bool true))):
  yC 3 #[yi n,.string sa,.string sb,yi wy] w (yR w (.bool true)):=by
 replace HA:Hid _:=HA;replace HO:Hid _:=HO;replace HR:Hid _:=HR;replace HB:Hid _:=HB;replace HI:Hid _:=HI
 go_enter func3,ntmps3
 have b0:=Below.refl w.heap.size w
 go_wp2_with fail
 refine(HA.out _ b0).mono ?_;rintro zz w1 ⟨rfl,bb2⟩;have b3:=aa b0 bb2;clear b0 bb2 HA;have al4:=af w1 (.cells #[.string sa,.string sb] 9);have q5:=ah w1 [.string sa,.string sb] 9;have b6:=aa b3 al4
 go_wp2_with fail
 refine(HO.out _ _ q5).mono ?_;rintro zz w7 ⟨gb,cap,xo,xc,yo,yc,rfl,h0,h1,rx9,ry10,bb8⟩;have b11:=aa b6 bb8;clear q5 b6 bb8 HO b3 al4;obtain⟨W15,hW14,q13,al12⟩:=cA w7 (yoL 0 false false (.slice none 0 0) 0) 32;replace hW14:Hid _:=hW14;have hl16:w.heap.size≤w7.heap.size:=b11.size;have hl17:=World.block_lt_of_cell? _ _ (h0 0 _ rfl);have q18:=aC h0 al12;have q19:=aC h1 al12;have r20:=rx9.l al12;have r21:=ry10.l al12;have b22:=aa b11 al12;clear h0 h1 rx9 ry10 b11 al12
 go_upto_region 4 with fail
 rw[hW14.out];clear hW14
 go_upto_region 6 with fail
 have bW23:yB W15 W15.drew:=(Below.refl _ _).drew;have q24:=aC q18 bW23;have q25:=aC q19 bW23;have q26:=q13.l bW23;have r27:=r20.l bW23;have r28:=r21.l bW23;have b29:=aa b22 bW23;clear q18 q19 q13 r20 r21 b22 bW23;refine wp_region_held_drew (S:=fun wq=>wq.rangeAt gb 0 (yEL cx gx x xo xc)∧wq.rangeAt gb 5 (yEL cy gy y yo yc)) (by kernel_rfl) ⟨q24,q25⟩ (fun hS0=> ?_)
 generalize W15.drew=WD30 at q24 q25 q26 r27 r28 b29 hS0⊢;refine tk 0 (yi n) rfl (by kernel_rfl) (fun _ _ _ h=>h) (fun _ _=>by kernel_rfl) hS0 ?_
 refine tk 1 (.slice (some ⟨gb,0,none⟩) 2 cap) rfl (by kernel_rfl) (fun _ _ _ h=>h) (fun _ _=>by kernel_rfl) hS0 ?_
 refine tk 2 (.pointer (some ⟨gb,0,none⟩)) rfl (by kernel_rfl) (fun _ _ _ h=>h) (fun _ _=>by kernel_rfl) hS0 ?_
 refine tk 3 (yEV cx gx x xo xc) rfl (by kernel_rfl) (fun _ _ _ h=>h) (fun _ hw0=>fy 32 (.tmp 39) rfl gb 0 (by kernel_rfl) _ _ hw0.1 underlying32 rfl (by kernel_rfl)) hS0 ?_
 refine tk 4 (.slice (some ⟨gb,0,none⟩) 2 cap) rfl (by kernel_rfl) (fun _ _ _ h=>h) (fun _ _=>by kernel_rfl) hS0 ?_
 refine tk 5 (.pointer (some ⟨gb,5,none⟩)) rfl (by kernel_rfl) (fun _ _ _ h=>h) (fun _ _=>by kernel_rfl) hS0 ?_
 refine tk 6 (yEV cy gy y yo yc) rfl (by kernel_rfl) (fun _ _ _ h=>h) (fun _ hw0=>fy 32 (.tmp 42) rfl gb 5 (by kernel_rfl) _ _ hw0.2 underlying32 rfl (by kernel_rfl)) hS0 ?_
 refine tk 7 (yi wy) rfl (by kernel_rfl) (fun _ _ _ h=>h) (fun _ _=>by kernel_rfl) hS0 ?_
 refine wpAnyH_ready (rs:=[8]) (by kernel_rfl) (by simp) ?_;refine AllReadyH.cons rfl (fun K hK=> ?_) AllReadyH.nil
 go_simp
 refine(HR.out _ _ _ _ _ b29 r27 r28).mono ?_;rintro zz w31 ⟨v133,rfl,r134,bb32⟩;have q35:=aC q24 bb32;have q36:=aC q25 bb32;have q37:=q26.l bb32;have b38:=aa b29 bb32;obtain⟨so,sc,hv⟩:=r134.shape;subst hv;clear q24 q25 q26 r27 r28 b29 bb32 HR;refine hK.out _ _ ⟨q35,q36⟩ (fun hS39=> ?_)
 clear hK K;refine tk 9 (.tuple #[yEV c g t so sc,yi fl]) rfl (by kernel_rfl) (fun _ _ _ h=>h) (fun _ _=>by kernel_rfl) hS39 ?_
 refine tk 10 (yEV c g t so sc) rfl (by kernel_rfl) (fun _ _ _ h=>h) (fun _ _=>by go_simp) hS39 ?_
 refine tk 11 (yi fl) rfl (by kernel_rfl) (fun _ _ _ h=>h) (fun _ _=>by go_simp) hS39 ?_
 refine wpAnyH_ready (rs:=[12]) (by kernel_rfl) (by simp) ?_;refine AllReadyH.cons rfl (fun K hK=> ?_) AllReadyH.nil
 have bu:But w7.heap.size w31 (w31.setCells w7.heap.size 0 (yEL c g t so sc)):=de _ _ _ _;have hth:w31.there w7.heap.size 0 5:=dD q37;have q40:au (w31.setCells w7.heap.size 0 (yEL c g t so sc)) w7.heap.size 32 (yEL c g t so sc):=q37.sets _ rfl;have r41:=bu.rd r134 (mu r134 q37);have q42:=dZ bu q35 (by omega);have q43:=dZ bu q36 (by omega);have b44:=bu.below b38 (by omega);rw[if_pos (by kernel_rfl)];refine wp_store_mid 32 (.tmp 14) (.tmp 46) rfl w7.heap.size 0 (yEA c g t so sc) (by kernel_rfl) (by kernel_rfl) hth (by kernel_rfl) (by simp[Value.oneCell']) ?_;refine hK.out _ _ ⟨q42,q43⟩ (fun hS45=> ?_)
 clear hK K;clear q37 r134 q35 q36 b38 bu hth;refine tk 13 (yi fl) rfl (by kernel_rfl) (fun _ _ _ h=>h) (fun _ _=>by kernel_rfl) hS45 ?_
 refine wpAnyH_done (by kernel_rfl) ?_ _;clear hS0 hS39 hS45;change Exit.then _ _ _ _ (World.setCells w31 w7.heap.size 0 (yEL c g t so sc));generalize World.setCells w31 w7.heap.size 0 (yEL c g t so sc)=W46 at q42 q43 q40 r41 b44⊢;simp only[Act.put,List.getElem_toArray,List.getElem_cons_succ,List.getElem_cons_zero,List.setIfInBounds_toArray,List.set_cons_zero,List.set_cons_succ]
 go_wp2_with fail
 refine(HB.out _ b44).mono ?_;rintro zz w47 ⟨rfl,bb48⟩;have q49:=q40.l bb48;have r50:=r41.l bb48;have b51:=aa b44 bb48;clear q42 q43 q40 r41 b44 bb48 HB;obtain⟨c52,c53,c54,c55,c56⟩:=q49.cs5
 go_wp2_with fail
 refine(HI.out _ _ _ b51 r50).mono ?_;rintro zz w57 ⟨rfl,bb58⟩;have b59:=aa b51 bb58;clear q49 r50 b51 bb58 HI c52 c53 c54 c55 c56
 go_wp2
 go_ret
 exact⟨by simp,b59⟩
theorem plus_bare (a b:ak):bare (cO a b)=bare (aG a b):=by
 have k0: -((a.e.natAbs+b.e.natAbs:Nat):Int)≤a.e:=by omega
 have k1: -((a.e.natAbs+b.e.natAbs:Nat):Int)≤b.e:=by omega
 refine fH (zy k0 k1) (eS k0 k1) ?_;rw[zx k0 k1,dH k0 k1]
theorem Ue {t:ak}:(bare t).n=0↔t.n=0:=
 ⟨fun h=>Decidable.byContradiction fun c=>(gN c).1 h,fun h=>by unfold bare;rw[if_pos h]⟩
theorem bare_0 {t:ak}(h:t.n=0):bare t=⟨false,0,0⟩:=if_pos h
theorem plus_none {x y:ak}(h:(aG x y).n=0)(hx:x.n≠0):y.n≠0∧x.s≠y.s:=by
 have h1:0<x.n*2^ (x.e-min x.e y.e).toNat:=Nat.mul_pos (Nat.pos_of_ne_zero hx) (bG _);unfold aG at h;simp only at h
 by_cases hs:x.s=y.s
 ·rw[if_pos hs] at h
  simp only at h;omega
 ·refine⟨fun c=> ?_,hs⟩
  rw[if_neg hs,c,Nat.zero_mul,if_neg (Nat.not_lt_zero _)] at h;simp only at h;omega
theorem sum_ref {k:Nat}(hk:1≤k∧k≤8){way:Int}(hw:1≤way∧way≤5)(p q:Bool){x y u:ak}(hu:bare (aG x y)=bare u)(hp:x.n≠0→x.s=p)(hq:y.n≠0→y.s=q)(nx:x.n<2^128)(ny:y.n<2^64)(ex: -33000≤x.e∧x.e≤33200)(ey: -16500≤y.e∧y.e≤16500):
  ∃v:Int×Bool×ak×Int,(∀xo xc yo yc w,Rd w .i64 (.slice xo (Dg.dg 65536 x.n).length xc) (Dg.dg 65536 x.n)→Rd w .i64 (.slice yo (Dg.dg 65536 y.n).length yc) (Dg.dg 65536 y.n)→Calls Tryz.prog 36 #[.int .i64 (k:Int),.agg #[.bool x.s,.slice xo (Dg.dg 65536 x.n).length xc,.int .i64 x.e],.agg #[.bool y.s,.slice yo (Dg.dg 65536 y.n).length yc,.int .i64 y.e],.bool p,.bool q,.int .i64 way] w (RVF w v.1 v.2.1 v.2.2.1 v.2.2.2))∧
   SameV k (m8 k way (nu u (if p=q then p else decide (way=5))).1 (nu u (if p=q then p else decide (way=5))).2.1 (nu u (if p=q then p else decide (way=5))).2.2.1 (nu u (if p=q then p else decide (way=5))).2.2.2) v:=by
 have hlen: ∀{z m:Nat},z<2^m→m≤128→(Dg.dg 65536 z).length≤30000:=fun {z m} hz hm=>Nat.le_trans (Dg.dg_len_le 65536 _ 8 (by omega) (Nat.lt_of_lt_of_le (zw hz hm) (by decide))) (by omega)
 have HP:=fun xo xc yo yc (w:World) (rx:Rd w .i64 (.slice xo (Dg.dg 65536 x.n).length xc) (Dg.dg 65536 x.n)) (ry:Rd w .i64 (.slice yo (Dg.dg 65536 y.n).length yc) (Dg.dg 65536 y.n)) w1 (b:Below w.heap.size w w1)=>lw _ _ x y w1 ⟨_,rfl,rx.l b⟩ ⟨_,rfl,ry.l b⟩ (hlen nx (by omega)) (hlen ny (by omega)) (by omega) (by omega) (by omega) (by omega)
 rw[(plus_bare x y).trans hu] at HP
 by_cases h0:u.n=0
 ·rw[num_nil h0]
  refine⟨(1,(if p=q then p else decide (way=5))&&decide (dK (k:Int)=1),⟨false,0,0⟩,0),fun xo xc yo yc w rx ry=> ?_,same_nil hk way _ _ 0⟩
  have HQ: ∀w1,Below w.heap.size w w1→Calls Tryz.prog 72 #[.agg #[.bool x.s,.slice xo (Dg.dg 65536 x.n).length xc,.int .i64 x.e],.agg #[.bool y.s,.slice yo (Dg.dg 65536 y.n).length yc,.int .i64 y.e]] w1 fun z w'=> ∃uo uc,z= .returned (.agg #[.bool false,.slice uo 0 uc,.int .i64 0])∧Below w1.heap.size w1 w':=fun w1 b=>(HP xo xc yo yc w rx ry w1 b).mono (fun z w' hz=>by
   obtain⟨s,h1,h2,h3⟩:=hz;rw[bare_0 h0] at h1 h2;obtain⟨ao,cap,e⟩:=h2.shape;rw[e] at h1;exact⟨ao,cap,h1,h3⟩)
  by_cases hx:x.n=0
  ·have e:(Dg.dg 65536 x.n).length=0:=List.length_eq_zero_iff.2 ((Dg.dg_nil_iff 65536 _ (by omega)).2 hx)
   rw[e] at HQ⊢
   by_cases hpq:p=q
   ·subst hpq
    rw[if_pos rfl];exact aaw _ _ _ _ _ _ _ _ _ _ _ _ _ w HQ (fun w1=>refZero_any k hk p w1)
   ·rw[if_neg hpq]
    exact abT _ _ _ _ _ _ _ _ _ _ _ _ _ _ w (by simpa using hpq) HQ (fun w1=>refZero_any k hk _ w1)
  ·have hn:(aG x y).n=0:=by rw[←Ue,hu,Ue];exact h0
   obtain⟨y0,hs⟩:=plus_none hn hx;rw[if_neg (fun c=>hs (by rw[hp hx,hq y0];exact c))]
   exact aax _ _ _ _ _ _ _ _ _ _ _ _ _ w (by rw[len_zero];exact decide_eq_false hx) HQ (fun w1=>refZero_any k hk _ w1)
 ·rw[num_two h0]
  refine⟨plV k way (fY k way u),fun xo xc yo yc w rx ry=> ?_,same_fit hk way _ _ h0⟩
  have hn:(aG x y).n≠0:=fun c=>h0 (by rw[←Ue,←hu,Ue];exact c)
  obtain⟨b1,b2,b3⟩:=gN hn;rw[hu] at b1 b2 b3;have hN:=I3 (H:=33328) nx ny (by omega) (by omega);rw[←plc_bare hk way _ h0];exact abS _ _ _ _ _ _ _ _ _ _ (bare u) _ _ _ _ w (Nat.pos_of_ne_zero fun c=>b1 ((Dg.dg_nil_iff 65536 _ (by omega)).1 (List.length_eq_zero_iff.1 c))) (HP xo xc yo yc w rx ry) (fun uo uc w1 _ h=>fitD_any k hk way hw (bare u) uo uc w1 b1 h (by omega) (by omega) (by omega))
theorem add_ref {k:Nat}(hk:1≤k∧k≤8){way:Int}(hw:1≤way∧way≤5){cx cy:Int}{gx gy:Bool}{x y x' y':ak}(h3:cx≤3∧cy≤3)(hu:bare (aG x y)=bare (aG x' y'))(sx:iZ x)(sy:iZ y)(zx:cx=3→x=⟨false,0,0⟩)(zy:cy=3→y=⟨false,0,0⟩)(hp:x.n≠0→x.s=gx)(hq:y.n≠0→y.s=gy)(ix:cx=3→k≤3)(iy:cy=3→k≤3):
  ∃v,RefOf k way cx cy gx gy x y 10 v∧SameV k (m8 k way (vY k way cx gx x' cy gy y').1 (vY k way cx gx x' cy gy y').2.1 (vY k way cx gx x' cy gy y').2.2.1 (vY k way cx gx x' cy gy y').2.2.2) v:=by
 have HO:=fun pb w1 (xo:Option Addr) (xc:Nat) (yo:Option Addr) (yc:Nat) (hl:au w1 pb 32 (yXL cx gx x xo xc cy gy y yo yc))=>(off_pair k hk _ _ _ _ _ _ _ _ _ _ pb w1 hl).1 h3
 by_cases hx:cx=3
 ·subst hx
  have e0:=zx rfl
  by_cases hy:cy=3
  ·subst hy
   cases gx<;>cases gy
   ·rw[JA rfl (by simp)]
    exact⟨(3,false,x,0),fun xo xc yo yc w rx _=>acI _ _ _ _ _ _ _ _ _ w rx (fun pb w1 hl=>HO pb w1 xo xc yo yc hl),by rw[e0];exact same_inf hk (ix rfl) way _ _ 0⟩
   ·rw[Jz ⟨rfl,rfl,by simp⟩]
    exact⟨nthV k 16,fun xo xc yo yc w _ _=>VW _ _ _ _ _ _ _ _ _ w (fun pb w1 hl=>HO pb w1 xo xc yo yc hl) (fun w1=>lost_any k hk w1),same_off hk way 16⟩
   ·rw[Jz ⟨rfl,rfl,by simp⟩]
    exact⟨nthV k 16,fun xo xc yo yc w _ _=>VV _ _ _ _ _ _ _ _ _ w (fun pb w1 hl=>HO pb w1 xo xc yo yc hl) (fun w1=>lost_any k hk w1),same_off hk way 16⟩
   ·rw[JA rfl (by simp)]
    exact⟨(3,true,x,0),fun xo xc yo yc w rx _=>acI _ _ _ _ _ _ _ _ _ w rx (fun pb w1 hl=>HO pb w1 xo xc yo yc hl),by rw[e0];exact same_inf hk (ix rfl) way _ _ 0⟩
  ·rw[JA rfl (fun c=>hy c.1)]
   exact⟨(3,gx,x,0),fun xo xc yo yc w rx _=>adO _ _ _ _ _ _ _ _ _ _ _ w (by simpa using fun c:(3:Int)=cy=>hy c.symm) rx (fun pb w1 hl=>HO pb w1 xo xc yo yc hl),by rw[e0];exact same_inf hk (ix rfl) way _ _ 0⟩
 ·by_cases hy:cy=3
  ·subst hy
   have e0:=zy rfl;rw[Wy hx rfl];exact⟨(3,gy,y,0),fun xo xc yo yc w _ ry=>adP _ _ _ _ _ _ _ _ _ _ _ w (ne3 hx) ry (fun pb w1 hl=>HO pb w1 xo xc yo yc hl),by rw[e0];exact same_inf hk (iy rfl) way _ _ 0⟩
  ·rw[OZ hx hy]
   obtain⟨v,hv,hs⟩:=sum_ref hk hw gx gy hu hp hq (zw sx.1 (by omega)) sy.1 (by have:=sx.2;omega) sy.2;exact⟨v,fun xo xc yo yc w rx ry=>ace _ _ _ _ _ _ _ _ _ _ _ _ _ _ _ _ w (ne3 hx) (ne3 hy) (fun pb w1 hl=>HO pb w1 xo xc yo yc hl) (fun w1 b=>hv xo xc yo yc w1 (rx.l b) (ry.l b)),hs⟩
theorem op_facts {k:Nat}(hk:1≤k∧k≤8){p:ByteArray}(h:dF (k:Int) p=0):iZ (opT (k:Int) p)∧(((bM (k:Int) p:Nat):Int)=3→opT (k:Int) p=⟨false,0,0⟩)∧((opT (k:Int) p).n≠0→(opT (k:Int) p).s=dz (k:Int) p)∧(((bM (k:Int) p:Nat):Int)=3→k≤3):=by
 obtain⟨s1,z1,n1⟩:=ir hk h;refine⟨s1,fun c=>z1 (by omega),fun c=> ?_,fun c=>inf_few h (by omega)⟩
 by_cases h2:bM (k:Int) p=2
 ·exact op_sign hk h h2
 ·exact absurd (by rw[z1 h2]) c
end Go.Proofs.YtbdokgamhinajaaGreatDoor
