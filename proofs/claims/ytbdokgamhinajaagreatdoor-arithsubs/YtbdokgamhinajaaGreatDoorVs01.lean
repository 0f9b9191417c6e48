/-
  Texts laid together: Dz, Ab3, Dl8, Gb7, Pa6, Ra4, Ga2, Ra8, Gc5.
-/
import Derived.Test.YtbdokgamhinajaaGreatDoorChecked
import Derived.Test.YtbdokgamhinajaaGreatDoorSj45
set_option maxRecDepth 100000
set_option maxHeartbeats 3200000
namespace Go.Proofs.YtbdokgamhinajaaGreatDoor
open _root_.Go.Proofs.Tryz
theorem pC (K:Nat)(a:ak):V K (dV a)= -V K a:=by
 unfold V dV sz
 cases a.s<;>simp[Int.neg_mul]
open Go.RowKit
abbrev yEL (c:Int)(g:Bool)(t:ak)(o:Option Addr)(k:Nat):List Value:=[.int .i64 c,.bool g,.bool t.s,.slice o (Dg.dg 65536 t.n).length k,.int .i64 t.e]
abbrev yEV (c:Int)(g:Bool)(t:ak)(o:Option Addr)(k:Nat):Value:= .agg #[.int .i64 c,.bool g,.bool t.s,.slice o (Dg.dg 65536 t.n).length k,.int .i64 t.e]
abbrev yEA (c:Int)(g:Bool)(t:ak)(o:Option Addr)(k:Nat):Array Value:= #[.int .i64 c,.bool g,.bool t.s,.slice o (Dg.dg 65536 t.n).length k,.int .i64 t.e]
abbrev yML (t:ak)(o:Option Addr)(k:Nat):List Value:=[.bool t.s,.slice o (Dg.dg 65536 t.n).length k,.int .i64 t.e]
abbrev yMV (t:ak)(o:Option Addr)(k:Nat):Value:= .agg #[.bool t.s,.slice o (Dg.dg 65536 t.n).length k,.int .i64 t.e]
abbrev yMA (t:ak)(o:Option Addr)(k:Nat):Array Value:= #[.bool t.s,.slice o (Dg.dg 65536 t.n).length k,.int .i64 t.e]
abbrev yXL (c:Int)(g:Bool)(t:ak)(o:Option Addr)(k:Nat)(d:Int)(h:Bool)(s:ak)(p:Option Addr)(m:Nat):List Value:=[.int .i64 c,.bool g,.bool t.s,.slice o (Dg.dg 65536 t.n).length k,.int .i64 t.e,.int .i64 d,.bool h,.bool s.s,.slice p (Dg.dg 65536 s.n).length m,.int .i64 s.e]
def dB (t:ak):ak:=⟨!t.s&&decide (0<t.n),t.n,t.e⟩
theorem EI (K:Nat)(t:ak):V K (dB t)= -V K t:=by
 rw[←pC,eV,eV];unfold dB dV;simp only
 by_cases h:0<t.n
 ·simp[h]
 ·have h0:t.n=0:=by omega
  rw[h0,Nat.zero_mul];simp[sz]
theorem ja (s0:Value)(t:ak)(w:World)(hr:Rd w .i64 s0 (Dg.dg 65536 t.n)):yC 14 #[ydV t.s s0 t.e] w (yR w (.agg #[.bool (dB t).s,s0,yi (dB t).e])):=by
 obtain⟨ao,ca,rfl⟩:=hr.shape;obtain⟨ts,n,e⟩:=t;have hnl:=Dg.dg_nil_iff 65536 n (by omega);simp only at hr⊢;unfold dB;simp only;have hz:(0< (Dg.dg 65536 n).length)↔0<n:=by
  rw[List.length_pos_iff,Ne,hnl];omega
 obtain⟨m,hm⟩: ∃m,(Dg.dg 65536 n).length=m:=⟨_,rfl⟩;rw[hm] at hz hr⊢;clear hr
 by_cases h:0<n
 ·have h6:=hz.2 h
  rw[decide_eq_true h,Bool.and_true];clear hz h hm hnl
  cases ts
  ·go_enter func14,ntmps14
   go_wp2
   go_returns
   exact⟨rfl,aa (af w _) (af _ _)⟩
  ·go_enter func14,ntmps14
   go_wp2
   go_returns
   exact⟨rfl,aa (af w _) (af _ _)⟩
 ·have h6: ¬0<m:=fun e=>h (hz.1 e)
  rw[decide_eq_false h,Bool.and_false];clear hz h hm hnl
  cases ts
  ·go_enter func14,ntmps14
   go_wp2
   go_returns
   exact⟨rfl,aa (af w _) (af _ _)⟩
  ·go_enter func14,ntmps14
   go_wp2
   go_returns
   exact⟨rfl,aa (af w _) (af _ _)⟩
theorem Ht (c:Int)(gx:Bool)(x:ak)(xo:Option Addr)(xc:Nat)(w:World)(rx:Rd w .u32 (.slice xo (Dg.dg 4294967296 x.n).length xc) (Dg.dg 4294967296 x.n)):
  yC 39 #[yOV c gx x xo xc] w (xj w c (!gx) ⟨!x.s,x.n,x.e⟩):=by
 obtain⟨W4,hW5,q1,q2,b3⟩:=iG w (yOL c gx x xo xc) 76 (yoL 0 false false (.slice none 0 0) 0) 76;replace hW5:Hid _:=hW5;have r6:=rx.l b3;clear rx
 go_enter func39,ntmps39
 go_upto_region 1 with fail
 rw[hW5.out];clear hW5;have c8:=q1.c 1 rfl;have bu:=ag W4 w.heap.size 1 (.bool (!gx));have q7:au (W4.setCell ⟨w.heap.size,1,none⟩ (.bool (!gx))) w.heap.size 76 (yOL c (!gx) x xo xc):=(q1.set 1 (.bool (!gx)));have c9:=q1.c 1 rfl;have y10:=q1.f 1;have q11:=bu.loc q2 (by omega);have r12:=bu.rd r6 (aX r6 q1 (by simp));have b13:=bu.below b3 (by omega);clear bu
 go_upto_region 2 with fail
 generalize W4.setCell ⟨w.heap.size,1,none⟩ (.bool (!gx))=W14 at q7 q11 r12 b13⊢;clear q1 q2 r6 b3 c8 c9 y10;have c16:=q7.c 2 rfl;have bu:=ag W14 w.heap.size 2 (.bool (!x.s));have q15:au (W14.setCell ⟨w.heap.size,2,none⟩ (.bool (!x.s))) w.heap.size 76 (yoL c (!gx) (!x.s) (.slice xo (Dg.dg 4294967296 x.n).length xc) x.e):=(q7.set 2 (.bool (!x.s)));have c17:=q7.c 2 rfl;have y18:=q7.f 2;have q19:=bu.loc q11 (by omega);have r20:=bu.rd r12 (aX r12 q7 (by simp));have b21:=bu.below b13 (by omega);clear bu
 go_upto_region 3 with fail
 generalize W14.setCell ⟨w.heap.size,2,none⟩ (.bool (!x.s))=W22 at q15 q19 r20 b21⊢;clear q7 q11 r12 b13 c16 c17 y18;obtain⟨c23,c24,c25,c26,c27⟩:=q15.cs5;have hf:=dL (P:=Tryz.prog) q19 b21 (by omega) underlying76 rfl (by kernel_rfl) (yi c) (.bool (!gx)) (.bool (!x.s)) (.slice xo (Dg.dg 4294967296 x.n).length xc) (yi x.e);have HH:Hid (_∧_∧_):=⟨hf.1,hf.2.2.rd r20 (aX r20 q19 (by simp)),hf.2.1⟩;obtain⟨⟨z0,z1,z2,z3,z4⟩,y0,y1,y2,y3,y4⟩:=dN q19;clear hf q15 q19 r20 b21
 go_wp2
 obtain⟨hl,rRx,bR⟩:=HH.out;exact bodyPost_ret (br results39 rfl hl) rfl ⟨_,rfl,rRx,bR⟩
theorem ade (cx cy c fl:Int)(gg:Bool)(t:ak)(n wy fam R D L G:Int)(gr:Bool)(gx gy:Bool)(x y:ak)(xo yo:Option Addr)(xc yc:Nat)(g cap:Nat)(w:World)(h0:w.rangeAt g 0 (yOL cx gx x xo xc))(h1:w.rangeAt g 5 (yOL cy gy y yo yc))
  (HO: ∀w1,yB w w1→yC 39 #[yOV cy gy y yo yc] w1 (xj w1 cy (!gy) ⟨!y.s,y.n,y.e⟩))
  (HS: ∀qo qc w1,yB w w1→Rd w1 .u32 (.slice qo (Dg.dg 4294967296 y.n).length qc) (Dg.dg 4294967296 y.n)→yC 31 #[ykV n wy fam R D L G gr,yOV cx gx x xo xc,yoV cy (!gy) (!y.s) (.slice qo (Dg.dg 4294967296 y.n).length qc) y.e] w1 (dU w1 c gg t fl)):
  yC 38 #[ykV n wy fam R D L G gr,.slice (some ⟨g,0,none⟩) 2 cap] w (dU w c gg t fl):=by
 replace HO:Hid _:=HO;replace HS:Hid _:=HS;have hgl:g<w.heap.size:=World.block_lt_of_cell? w _ (h0 0 _ rfl);obtain⟨W4,hW5,q1,q2,b3⟩:=iG w (ykL n wy fam R D L G gr) 69 (yoL 0 false false (.slice none 0 0) 0) 76;replace hW5:Hid _:=hW5;have q6:=aC h0 b3;have q7:=aC h1 b3;clear h0 h1
 go_enter func38,ntmps38
 go_upto_region 1 with fail
 rw[hW5.out];clear hW5
 go_upto_region 1 with fail
 have bW8:yB W4 W4.drew:=(Below.refl _ _).drew;have q9:=aC q6 bW8;have q10:=aC q7 bW8;have q11:=q1.l bW8;have q12:=q2.l bW8;have b13:=aa b3 bW8;clear q6 q7 q1 q2 b3 bW8;refine wp_region_held_drew (S:=fun wq=>wq.rangeAt g 0 (yOL cx gx x xo xc)∧wq.rangeAt g 5 (yOL cy gy y yo yc)∧au wq w.heap.size 69 (ykL n wy fam R D L G gr)) (by kernel_rfl) ⟨q9,q10,q11⟩ (fun hS0=> ?_)
 generalize W4.drew=WD14 at q9 q10 q11 q12 b13 hS0⊢;refine tk 0 (ykV n wy fam R D L G gr) rfl (by kernel_rfl) (fun _ _ _ h=>h) (fun _ hw0=>fy 69 (.tmp 2) rfl w.heap.size 0 (by kernel_rfl) _ _ hw0.2.2.range underlying69 rfl (by kernel_rfl)) hS0 ?_
 refine tk 1 (.slice (some ⟨g,0,none⟩) 2 cap) rfl (by kernel_rfl) (fun _ _ _ h=>h) (fun _ _=>by kernel_rfl) hS0 ?_
 refine tk 2 (.pointer (some ⟨g,0,none⟩)) rfl (by kernel_rfl) (fun _ _ _ h=>h) (fun _ _=>by kernel_rfl) hS0 ?_
 refine tk 3 (yOV cx gx x xo xc) rfl (by kernel_rfl) (fun _ _ _ h=>h) (fun _ hw0=>fy 76 (.tmp 8) rfl g 0 (by kernel_rfl) _ _ hw0.1 underlying76 rfl (by kernel_rfl)) hS0 ?_
 refine tk 4 (.slice (some ⟨g,0,none⟩) 2 cap) rfl (by kernel_rfl) (fun _ _ _ h=>h) (fun _ _=>by kernel_rfl) hS0 ?_
 refine tk 5 (.pointer (some ⟨g,5,none⟩)) rfl (by kernel_rfl) (fun _ _ _ h=>h) (fun _ _=>by kernel_rfl) hS0 ?_
 refine tk 6 (yOV cy gy y yo yc) rfl (by kernel_rfl) (fun _ _ _ h=>h) (fun _ hw0=>fy 76 (.tmp 11) rfl g 5 (by kernel_rfl) _ _ hw0.2.1 underlying76 rfl (by kernel_rfl)) hS0 ?_
 refine wpAnyH_ready (rs:=[7]) (by kernel_rfl) (by simp) ?_;refine AllReadyH.cons rfl (fun K hK=> ?_) AllReadyH.nil
 go_simp
 refine(HO.out _ b13).mono ?_;rintro zz w15 ⟨v117,rfl,r118,bb16⟩;have q19:=aC q9 bb16;have q20:=aC q10 bb16;have q21:=q11.l bb16;have q22:=q12.l bb16;have b23:=aa b13 bb16;obtain⟨qo,qc,hv⟩:=r118.shape;subst hv;clear q9 q10 q11 q12 b13 bb16 HO;refine hK.out _ _ ⟨q19,q20,q21⟩ (fun hS24=> ?_)
 clear hK K;refine wpAnyH_ready (rs:=[8]) (by kernel_rfl) (by simp) ?_;refine AllReadyH.cons rfl (fun K hK=> ?_) AllReadyH.nil
 go_simp
 refine(HS.out _ _ _ b23 r118).mono ?_;rintro zz w25 ⟨v127,rfl,r128,bb26⟩;have q29:=aC q19 bb26;have q30:=aC q20 bb26;have q31:=q21.l bb26;have q32:=q22.l bb26;have r33:=r118.l bb26;have b34:=aa b23 bb26;obtain⟨so,sc,hv⟩:=r128.shape;subst hv;clear q19 q20 q21 q22 r118 b23 bb26 HS;refine hK.out _ _ ⟨q29,q30,q31⟩ (fun hS35=> ?_)
 clear hK K;refine tk 9 (yOV c gg t so sc) rfl (by kernel_rfl) (fun _ _ _ h=>h) (fun _ _=>by go_simp) hS35 ?_
 refine tk 10 (yi fl) rfl (by kernel_rfl) (fun _ _ _ h=>h) (fun _ _=>by go_simp) hS35 ?_
 refine wpAnyH_ready (rs:=[11]) (by kernel_rfl) (by simp) ?_;refine AllReadyH.cons rfl (fun K hK=> ?_) AllReadyH.nil
 have bu:But (w.heap.size+1) w25 (w25.setCells (w.heap.size+1) 0 (yOL c gg t so sc)):=de _ _ _ _;have hth:w25.there (w.heap.size+1) 0 5:=dD q32;have q36:au (w25.setCells (w.heap.size+1) 0 (yOL c gg t so sc)) (w.heap.size+1) 76 (yOL c gg t so sc):=q32.sets _ rfl;have r37:=bu.rd r33 (aX r33 q32 (by simp));have r38:=bu.rd r128 (aX r128 q32 (by simp));have q39:=dZ bu q29 (by omega);have q40:=dZ bu q30 (by omega);have q41:=bu.loc q31 (by omega);have b42:=bu.below b34 (by omega);rw[if_pos (by kernel_rfl)];refine wp_store_mid 76 (.tmp 4) (.tmp 15) rfl (w.heap.size+1) 0 (yOA c gg t so sc) (by kernel_rfl) (by kernel_rfl) hth (by kernel_rfl) (by simp[Value.oneCell']) ?_;refine hK.out _ _ ⟨q39,q40,q41⟩ (fun hS43=> ?_)
 clear hK K;clear q32 r33 r128 q29 q30 q31 b34 bu hth;refine tk 12 (yi fl) rfl (by kernel_rfl) (fun _ _ _ h=>h) (fun _ _=>by kernel_rfl) hS43 ?_
 refine wpAnyH_done (by kernel_rfl) ?_ _;clear hS0 hS24 hS35 hS43;change Exit.then _ _ _ _ (World.setCells w25 (w.heap.size+1) 0 (yOL c gg t so sc));generalize World.setCells w25 (w.heap.size+1) 0 (yOL c gg t so sc)=W44 at q39 q40 q41 q36 r37 r38 b42⊢;simp only[Act.put,List.getElem_toArray,List.getElem_cons_succ,List.getElem_cons_zero,List.setIfInBounds_toArray,List.set_cons_zero,List.set_cons_succ];have hl:=run_loadVar_mid (P:=Tryz.prog) _ (w.heap.size+1) 0 76 (yOL c gg t so sc) _ q36.range underlying76 rfl (by kernel_rfl)
 go_wp2
 exact bodyPost_ret (aj results38 rfl rfl hl) rfl ⟨_,rfl,r38,b42⟩
theorem aeQ (n way f1 e1:Int)(a b st:ByteArray)(w:World)
  (HR: ∀pb w1,yB w w1→au w1 pb 9 [.string a,.string b]→yC 29 #[yi n,yi way,.func (.func 38) #[] #[],.slice (some ⟨pb,0,none⟩) 2 2] w1 (yR w1 (.tuple #[.string st,yi f1,yi e1]))):
  yC 13 #[yi n,.string a,.string b,yi way] w (yR w (.tuple #[.string st,yi f1,yi e1])):=by
 replace HR:Hid _:=HR
 go_enter func13,ntmps13
 have b0:=Below.refl w.heap.size w;have al1:=af w (.cells #[.string a,.string b] 9);have q2:=ah w [.string a,.string b] 9;have b3:=aa b0 al1
 go_wp2_with fail
 refine(HR.out _ _ b3 q2).mono ?_;rintro zz w4 ⟨rfl,bb5⟩;have b6:=aa b3 bb5;clear q2 b3 bb5 b0 al1
 go_wp2
 go_ret3
 exact⟨rfl,b6⟩
def ET (t:ak):ak:=⟨!t.s,t.n,t.e⟩
def acW (n way:Int)(a b:ByteArray):Int×Bool×ak×Int:=vY n.toNat way ((bM n a:Nat):Int) (dz n a) (opT n a) ((bM n b:Nat):Int) (!dz n b) (ET (opT n b))
theorem Sn (n way:Int)(a b:ByteArray)(w:World)(hT:Tab w):yC 13 #[yi n,.string a,.string b,yi way] w (mM (jV n way [a,b] (acW n way a b)) w):=by
 refine aeQ n way _ _ a b _ w (fun pb w1 b1 hl=> ?_)
 refine nQ n way [a,b] _ _ pb w1 (by simp) (by simp) hl (enter_of func38 (by kernel_rfl) rfl) (hT.l b1) (fun k hk hn he hN=> ?_)
 subst hn;unfold acW;rw[Int.toNat_natCast];obtain⟨sa,-,-⟩:=ir hk (eU he a (by simp));obtain⟨sb,-,-⟩:=ir hk (eU he b (by simp));have sb':iZ (ET (opT (k:Int) b)):=sb;refine⟨fun h=>FU (rJ sa sb').1 h,fun g cap w2 b2 h=> ?_⟩
 obtain⟨xo,xc,r0,k0⟩:=h.each 0 a rfl;obtain⟨yo,yc,r1,k1⟩:=h.each 1 b rfl;exact ade _ _ _ _ _ _ _ _ _ _ _ _ _ _ _ _ _ _ _ _ _ _ _ _ w2 r0 r1 (fun w3 b3=>Ht _ _ _ _ _ w3 (k1.l b3)) (fun qo qc w3 b3 hq=>GQ k hk way _ _ _ _ _ (ET (opT (k:Int) b)) _ _ _ _ w3 (k0.l b3) hq (jB sa) (jB sb'))
theorem noNum_any {k:Nat}{a b:ByteArray}(ha:dF (k:Int) a=0)(hb:dF (k:Int) b=0):[a,b].any (dO (k:Int))=decide (¬(((bM (k:Int) a:Nat):Int)≤3∧((bM (k:Int) b:Nat):Int)≤3)):=by
 have h1:=zl ha;have h2:=zl hb;simp only[List.any_cons,List.any_nil,Bool.or_false];unfold dO;rw[Bool.eq_iff_iff];simp;omega
theorem pair_pay {k:Nat}(hk:1≤k∧k≤8){way:Int}{a b:ByteArray}(hw:1≤way∧way≤5)(he:fT (k:Int) [a,b]=0)(hf:dK (k:Int)≠0)(f:Int×Bool×ak×Int)(F:Nat){cx cy:Int}{gx gy:Bool}{x y:ak}(hcx:((bM (k:Int) a:Nat):Int)=cx)(hcy:((bM (k:Int) b:Nat):Int)=cy)
  (HOff: ∀c fl xo xc yo yc w,(∀pb w1,au w1 pb 32 (yXL cx gx x xo xc cy gy y yo yc)→yC 34 #[yi (k:Int),.slice (some ⟨pb,0,none⟩) 2 2] w1 (yR w1 (.tuple #[yoV c false false (.slice none 0 0) 0,yi fl,.bool true])))→yC F #[yi (k:Int),yEV cx gx x xo xc,yEV cy gy y yo yc,yi way] w (RVF w c false ⟨false,0,0⟩ fl))
  (HNum:cx≤3∧cy≤3→ ∃v,RefOf k way cx cy gx gy x y F v∧SameV k (m8 k way f.1 f.2.1 f.2.2.1 f.2.2.2) v):
  ∃v,RefOf k way cx cy gx gy x y F v∧SameV k (jV (k:Int) way [a,b] f) v:=by
 have ha:=eU he a (by simp);have hb:=eU he b (by simp);rw[rec_right f hf he hw,noNum_any ha hb,hcx,hcy]
 by_cases h3:cx≤3∧cy≤3
 ·rw[if_neg (by rw[decide_eq_false (fun c=>c h3)];decide)]
  exact HNum h3
 ·rw[if_pos (decide_eq_true h3)]
  have hfl:(if dK (k:Int)=1 then(0:Int) else 16)=if dK (k:Int)=3 then 16 else 0:=by
   rcases qt hk with h|h|h
   ·rw[if_pos h,if_neg (by omega)]
   ·exfalso
    have:=hex_num hk h ha;have:=hex_num hk h hb;omega
   ·rw[if_neg (by omega),if_pos h]
  rw[hfl];exact⟨nthV k (if dK (k:Int)=3 then 16 else 0),fun xo xc yo yc w _ _=>HOff _ _ xo xc yo yc w (fun pb w1 hl=>(off_pair k hk _ _ _ _ _ _ _ _ _ _ pb w1 hl).2 h3),same_off hk way _⟩
theorem acd (cx cy c fl:Int)(n wy:Int)(gx gy:Bool)(x y:ak)(xo yo:Option Addr)(xc yc:Nat)(w:World)(HO: ∀pb w1,au w1 pb 32 (yXL cx gx x xo xc cy gy y yo yc)→yC 34 #[yi n,.slice (some ⟨pb,0,none⟩) 2 2] w1 (yR w1 (.tuple #[yoV c false false (.slice none 0 0) 0,yi fl,.bool true]))):
  yC 10 #[yi n,yEV cx gx x xo xc,yEV cy gy y yo yc,yi wy] w (RVF w c false ⟨false,0,0⟩ fl):=by
 replace HO:Hid _:=HO;obtain⟨W5,hW6,q1,q2,q3,b4⟩:=lG w (yEL cx gx x xo xc) 32 (yEL cy gy y yo yc) 32 (yoL 0 false false (.slice none 0 0) 0) 32;replace hW6:Hid _:=hW6
 go_enter func10,ntmps10
 go_upto_region 1 with fail
 rw[hW6.out];clear hW6;obtain⟨c7,c8,c9,c10,c11⟩:=q1.cs5;obtain⟨c12,c13,c14,c15,c16⟩:=q2.cs5;have al17:=af W5 (.cells #[yi cx,.bool gx,.bool x.s,.slice xo (Dg.dg 65536 x.n).length xc,yi x.e,yi cy,.bool gy,.bool y.s,.slice yo (Dg.dg 65536 y.n).length yc,yi y.e] 32);have q18:=ah W5 (yXL cx gx x xo xc cy gy y yo yc) 32;have q19:=q3.l al17;have b20:=aa b4 al17
 go_wp2_with fail
 refine(HO.out _ _ q18).mono ?_;rintro zz w21 ⟨rfl,bb22⟩;have q23:=q19.l bb22;have b24:=aa b20 bb22;clear q19 q18 b20 bb22 HO c7 c8 c9 c10 c11 c12 c13 c14 c15 c16 q1 q2 q3 b4 al17;obtain⟨W28,hW27,q26,al25⟩:=cA w21 (yoL c false false (.slice none 0 0) 0) 32;replace hW27:Hid _:=hW27;have hl29:w.heap.size≤w21.heap.size:=b24.size;have hl30:=q23.lt;have q31:=q23.l al25;have b32:=aa b24 al25;clear q23 b24 al25
 go_upto_region 2 with fail
 rw[hW27.out];clear hW27;obtain⟨c33,c34,c35,c36,c37⟩:=q26.cs5;have hf:=dL (P:=Tryz.prog) q31 b32 (by omega) underlying32 rfl (by kernel_rfl) (yi c) (.bool false) (.bool false) (.slice none 0 0) (yi 0);have HH:Hid (_∧_):=⟨hf.1,hf.2.1⟩;obtain⟨⟨z0,z1,z2,z3,z4⟩,y0,y1,y2,y3,y4⟩:=dN q31;clear hf q31 q26 b32
 go_wp2
 obtain⟨hl,bR⟩:=HH.out;exact bodyPost_ret (aj results10 rfl rfl hl) rfl ⟨_,rfl,aN _ _,bR⟩
theorem plus_bare (a b:ak):bare (cO a b)=bare (aG a b):=by
 have k0: -((a.e.natAbs+b.e.natAbs:Nat):Int)≤a.e:=by omega
 have k1: -((a.e.natAbs+b.e.natAbs:Nat):Int)≤b.e:=by omega
 refine fH (zy k0 k1) (eS k0 k1) ?_;rw[zx k0 k1,dH k0 k1]
theorem Ue {t:ak}:(bare t).n=0↔t.n=0:=
 ⟨fun h=>Decidable.byContradiction fun c=>(gN c).1 h,fun h=>by unfold bare;rw[if_pos h]⟩
theorem bare_0 {t:ak}(h:t.n=0):bare t=⟨false,0,0⟩:=if_pos h
theorem plus_none {x y:ak}(h:(aG x y).n=0)(hx:x.n≠0):y.n≠0∧x.s≠y.s:=by
 have h1:0<x.n*2^ (x.e-min x.e y.e).toNat:=Nat.mul_pos (Nat.pos_of_ne_zero hx) (bG _);unfold aG at h;simp only at h
 by_cases hs:x.s=y.s
 ·rw[if_pos hs] at h
  simp only at h;omega
 ·refine⟨fun c=> ?_,hs⟩
  rw[if_neg hs,c,Nat.zero_mul,if_neg (Nat.not_lt_zero _)] at h;simp only at h;omega
theorem sum_ref {k:Nat}(hk:1≤k∧k≤8){way:Int}(hw:1≤way∧way≤5)(p q:Bool){x y u:ak}(hu:bare (aG x y)=bare u)(hp:x.n≠0→x.s=p)(hq:y.n≠0→y.s=q)(nx:x.n<2^128)(ny:y.n<2^64)(ex: -33000≤x.e∧x.e≤33200)(ey: -16500≤y.e∧y.e≤16500):
  ∃v:Int×Bool×ak×Int,(∀xo xc yo yc w,Rd w .i64 (.slice xo (Dg.dg 65536 x.n).length xc) (Dg.dg 65536 x.n)→Rd w .i64 (.slice yo (Dg.dg 65536 y.n).length yc) (Dg.dg 65536 y.n)→Calls Tryz.prog 36 #[.int .i64 (k:Int),.agg #[.bool x.s,.slice xo (Dg.dg 65536 x.n).length xc,.int .i64 x.e],.agg #[.bool y.s,.slice yo (Dg.dg 65536 y.n).length yc,.int .i64 y.e],.bool p,.bool q,.int .i64 way] w (RVF w v.1 v.2.1 v.2.2.1 v.2.2.2))∧
   SameV k (m8 k way (nu u (if p=q then p else decide (way=5))).1 (nu u (if p=q then p else decide (way=5))).2.1 (nu u (if p=q then p else decide (way=5))).2.2.1 (nu u (if p=q then p else decide (way=5))).2.2.2) v:=by
 have hlen: ∀{z m:Nat},z<2^m→m≤128→(Dg.dg 65536 z).length≤30000:=fun {z m} hz hm=>Nat.le_trans (Dg.dg_len_le 65536 _ 8 (by omega) (Nat.lt_of_lt_of_le (zw hz hm) (by decide))) (by omega)
 have HP:=fun xo xc yo yc (w:World) (rx:Rd w .i64 (.slice xo (Dg.dg 65536 x.n).length xc) (Dg.dg 65536 x.n)) (ry:Rd w .i64 (.slice yo (Dg.dg 65536 y.n).length yc) (Dg.dg 65536 y.n)) w1 (b:Below w.heap.size w w1)=>lw _ _ x y w1 ⟨_,rfl,rx.l b⟩ ⟨_,rfl,ry.l b⟩ (hlen nx (by omega)) (hlen ny (by omega)) (by omega) (by omega) (by omega) (by omega)
 rw[(plus_bare x y).trans hu] at HP
 by_cases h0:u.n=0
 ·rw[num_nil h0]
  refine⟨(1,(if p=q then p else decide (way=5))&&decide (dK (k:Int)=1),⟨false,0,0⟩,0),fun xo xc yo yc w rx ry=> ?_,same_nil hk way _ _ 0⟩
  have HQ: ∀w1,Below w.heap.size w w1→Calls Tryz.prog 72 #[.agg #[.bool x.s,.slice xo (Dg.dg 65536 x.n).length xc,.int .i64 x.e],.agg #[.bool y.s,.slice yo (Dg.dg 65536 y.n).length yc,.int .i64 y.e]] w1 fun z w'=> ∃uo uc,z= .returned (.agg #[.bool false,.slice uo 0 uc,.int .i64 0])∧Below w1.heap.size w1 w':=fun w1 b=>(HP xo xc yo yc w rx ry w1 b).mono (fun z w' hz=>by
   obtain⟨s,h1,h2,h3⟩:=hz;rw[bare_0 h0] at h1 h2;obtain⟨ao,cap,e⟩:=h2.shape;rw[e] at h1;exact⟨ao,cap,h1,h3⟩)
  by_cases hx:x.n=0
  ·have e:(Dg.dg 65536 x.n).length=0:=List.length_eq_zero_iff.2 ((Dg.dg_nil_iff 65536 _ (by omega)).2 hx)
   rw[e] at HQ⊢
   by_cases hpq:p=q
   ·subst hpq
    rw[if_pos rfl];exact aaw _ _ _ _ _ _ _ _ _ _ _ _ _ w HQ (fun w1=>refZero_any k hk p w1)
   ·rw[if_neg hpq]
    exact abT _ _ _ _ _ _ _ _ _ _ _ _ _ _ w (by simpa using hpq) HQ (fun w1=>refZero_any k hk _ w1)
  ·have hn:(aG x y).n=0:=by rw[←Ue,hu,Ue];exact h0
   obtain⟨y0,hs⟩:=plus_none hn hx;rw[if_neg (fun c=>hs (by rw[hp hx,hq y0];exact c))]
   exact aax _ _ _ _ _ _ _ _ _ _ _ _ _ w (by rw[len_zero];exact decide_eq_false hx) HQ (fun w1=>refZero_any k hk _ w1)
 ·rw[num_two h0]
  refine⟨plV k way (fY k way u),fun xo xc yo yc w rx ry=> ?_,same_fit hk way _ _ h0⟩
  have hn:(aG x y).n≠0:=fun c=>h0 (by rw[←Ue,←hu,Ue];exact c)
  obtain⟨b1,b2,b3⟩:=gN hn;rw[hu] at b1 b2 b3;have hN:=I3 (H:=33328) nx ny (by omega) (by omega);rw[←plc_bare hk way _ h0];exact abS _ _ _ _ _ _ _ _ _ _ (bare u) _ _ _ _ w (Nat.pos_of_ne_zero fun c=>b1 ((Dg.dg_nil_iff 65536 _ (by omega)).1 (List.length_eq_zero_iff.1 c))) (HP xo xc yo yc w rx ry) (fun uo uc w1 _ h=>fitD_any k hk way hw (bare u) uo uc w1 b1 h (by omega) (by omega) (by omega))
theorem add_ref {k:Nat}(hk:1≤k∧k≤8){way:Int}(hw:1≤way∧way≤5){cx cy:Int}{gx gy:Bool}{x y x' y':ak}(h3:cx≤3∧cy≤3)(hu:bare (aG x y)=bare (aG x' y'))(sx:iZ x)(sy:iZ y)(zx:cx=3→x=⟨false,0,0⟩)(zy:cy=3→y=⟨false,0,0⟩)(hp:x.n≠0→x.s=gx)(hq:y.n≠0→y.s=gy)(ix:cx=3→k≤3)(iy:cy=3→k≤3):
  ∃v,RefOf k way cx cy gx gy x y 10 v∧SameV k (m8 k way (vY k way cx gx x' cy gy y').1 (vY k way cx gx x' cy gy y').2.1 (vY k way cx gx x' cy gy y').2.2.1 (vY k way cx gx x' cy gy y').2.2.2) v:=by
 have HO:=fun pb w1 (xo:Option Addr) (xc:Nat) (yo:Option Addr) (yc:Nat) (hl:au w1 pb 32 (yXL cx gx x xo xc cy gy y yo yc))=>(off_pair k hk _ _ _ _ _ _ _ _ _ _ pb w1 hl).1 h3
 by_cases hx:cx=3
 ·subst hx
  have e0:=zx rfl
  by_cases hy:cy=3
  ·subst hy
   cases gx<;>cases gy
   ·rw[JA rfl (by simp)]
    exact⟨(3,false,x,0),fun xo xc yo yc w rx _=>acI _ _ _ _ _ _ _ _ _ w rx (fun pb w1 hl=>HO pb w1 xo xc yo yc hl),by rw[e0];exact same_inf hk (ix rfl) way _ _ 0⟩
   ·rw[Jz ⟨rfl,rfl,by simp⟩]
    exact⟨nthV k 16,fun xo xc yo yc w _ _=>VW _ _ _ _ _ _ _ _ _ w (fun pb w1 hl=>HO pb w1 xo xc yo yc hl) (fun w1=>lost_any k hk w1),same_off hk way 16⟩
   ·rw[Jz ⟨rfl,rfl,by simp⟩]
    exact⟨nthV k 16,fun xo xc yo yc w _ _=>VV _ _ _ _ _ _ _ _ _ w (fun pb w1 hl=>HO pb w1 xo xc yo yc hl) (fun w1=>lost_any k hk w1),same_off hk way 16⟩
   ·rw[JA rfl (by simp)]
    exact⟨(3,true,x,0),fun xo xc yo yc w rx _=>acI _ _ _ _ _ _ _ _ _ w rx (fun pb w1 hl=>HO pb w1 xo xc yo yc hl),by rw[e0];exact same_inf hk (ix rfl) way _ _ 0⟩
  ·rw[JA rfl (fun c=>hy c.1)]
   exact⟨(3,gx,x,0),fun xo xc yo yc w rx _=>adO _ _ _ _ _ _ _ _ _ _ _ w (by simpa using fun c:(3:Int)=cy=>hy c.symm) rx (fun pb w1 hl=>HO pb w1 xo xc yo yc hl),by rw[e0];exact same_inf hk (ix rfl) way _ _ 0⟩
 ·by_cases hy:cy=3
  ·subst hy
   have e0:=zy rfl;rw[Wy hx rfl];exact⟨(3,gy,y,0),fun xo xc yo yc w _ ry=>adP _ _ _ _ _ _ _ _ _ _ _ w (ne3 hx) ry (fun pb w1 hl=>HO pb w1 xo xc yo yc hl),by rw[e0];exact same_inf hk (iy rfl) way _ _ 0⟩
  ·rw[OZ hx hy]
   obtain⟨v,hv,hs⟩:=sum_ref hk hw gx gy hu hp hq (zw sx.1 (by omega)) sy.1 (by have:=sx.2;omega) sy.2;exact⟨v,fun xo xc yo yc w rx ry=>ace _ _ _ _ _ _ _ _ _ _ _ _ _ _ _ _ w (ne3 hx) (ne3 hy) (fun pb w1 hl=>HO pb w1 xo xc yo yc hl) (fun w1 b=>hv xo xc yo yc w1 (rx.l b) (ry.l b)),hs⟩
theorem op_facts {k:Nat}(hk:1≤k∧k≤8){p:ByteArray}(h:dF (k:Int) p=0):iZ (opT (k:Int) p)∧(((bM (k:Int) p:Nat):Int)=3→opT (k:Int) p=⟨false,0,0⟩)∧((opT (k:Int) p).n≠0→(opT (k:Int) p).s=dz (k:Int) p)∧(((bM (k:Int) p:Nat):Int)=3→k≤3):=by
 obtain⟨s1,z1,n1⟩:=ir hk h;refine⟨s1,fun c=>z1 (by omega),fun c=> ?_,fun c=>inf_few h (by omega)⟩
 by_cases h2:bM (k:Int) p=2
 ·exact op_sign hk h h2
 ·exact absurd (by rw[z1 h2]) c
theorem arithSubs_err (e:Int)(n wy f1 e1:Int)(sa sb st:ByteArray)(w:World)(he:(e==0)=false)
  (HA:yH w 13 #[yi n,.string sa,.string sb,yi wy] (.tuple #[.string st,yi f1,yi e1]))
  (HO: ∀pb w1,au w1 pb 9 [.string sa,.string sb]→yC 9 #[yi n,yi wy,.slice (some ⟨pb,0,none⟩) 2 2] w1 (yR w1 (.tuple #[.slice none 0 0,yi e])))
  (HB:yH w 11 #[] (.bool true))
  (HI:yH w 12 #[yi n,.string st,yi f1,yi e1,yi e,yoV 0 false false (.slice none 0 0) 0,yi 0] (.bool true)):
  yC 4 #[yi n,.string sa,.string sb,yi wy] w (yR w (.bool true)):=by
 replace HA:Hid _:=HA;replace HO:Hid _:=HO;replace HB:Hid _:=HB;replace HI:Hid _:=HI
 go_enter func4,ntmps4
 have b0:=Below.refl w.heap.size w
 go_wp2_with fail
 refine(HA.out _ b0).mono ?_;rintro zz w1 ⟨rfl,bb2⟩;have b3:=aa b0 bb2;clear b0 bb2 HA;have al4:=af w1 (.cells #[.string sa,.string sb] 9);have q5:=ah w1 [.string sa,.string sb] 9;have b6:=aa b3 al4
 go_wp2_with fail
 refine(HO.out _ _ q5).mono ?_;rintro zz w7 ⟨rfl,bb8⟩;have b9:=aa b6 bb8;clear q5 b6 bb8 HO b3 al4;obtain⟨W13,hW12,q11,al10⟩:=cA w7 (yoL 0 false false (.slice none 0 0) 0) 32;replace hW12:Hid _:=hW12;have hl14:w.heap.size≤w7.heap.size:=b9.size;have b15:=aa b9 al10;clear b9 al10
 go_upto_region 4 with fail
 rw[hW12.out];clear hW12
 go_wp2_with fail
 refine(HB.out _ b15).mono ?_;rintro zz w16 ⟨rfl,bb17⟩;have q18:=q11.l bb17;have b19:=aa b15 bb17;clear q11 b15 bb17 HB;obtain⟨c20,c21,c22,c23,c24⟩:=q18.cs5
 go_wp2_with fail
 refine(HI.out _ b19).mono ?_;rintro zz w25 ⟨rfl,bb26⟩;have b27:=aa b19 bb26;clear q18 b19 bb26 HI c20 c21 c22 c23 c24
 go_wp2
 go_ret
 exact⟨by simp,b27⟩
theorem arithSubs_ok (cx cy c fl:Int)(gx gy g:Bool)(x y t:ak)(us:Bool)(ue:Int)(n wy f1 e1:Int)(sa sb st:ByteArray)(w:World)(h3:cy≤3)
  (HA:yH w 13 #[yi n,.string sa,.string sb,yi wy] (.tuple #[.string st,yi f1,yi e1]))
  (HO: ∀pb w1,au w1 pb 9 [.string sa,.string sb]→yC 9 #[yi n,yi wy,.slice (some ⟨pb,0,none⟩) 2 2] w1 fun zz w'=> ∃gb cap xo xc yo yc,zz= .returned (.tuple #[.slice (some ⟨gb,0,none⟩) 2 cap,yi 0])∧w'.rangeAt gb 0 (yEL cx gx x xo xc)∧w'.rangeAt gb 5 (yEL cy gy y yo yc)∧Rd w' .i64 (.slice xo (Dg.dg 65536 x.n).length xc) (Dg.dg 65536 x.n)∧Rd w' .i64 (.slice yo (Dg.dg 65536 y.n).length yc) (Dg.dg 65536 y.n)∧yB w1 w')
  (HM: ∀yo yc w1,yB w w1→Rd w1 .i64 (.slice yo (Dg.dg 65536 y.n).length yc) (Dg.dg 65536 y.n)→yC 14 #[yMV y yo yc] w1 (yR w1 (ydV us (.slice yo (Dg.dg 65536 y.n).length yc) ue)))
  (HR: ∀xo xc yo yc w1,yB w w1→Rd w1 .i64 (.slice xo (Dg.dg 65536 x.n).length xc) (Dg.dg 65536 x.n)→Rd w1 .i64 (.slice yo (Dg.dg 65536 y.n).length yc) (Dg.dg 65536 y.n)→yC 10 #[yi n,yEV cx gx x xo xc,yoV cy (!gy) us (.slice yo (Dg.dg 65536 y.n).length yc) ue,yi wy] w1 (RVF w1 c g t fl))
  (HB:yH w 11 #[] (.bool true))
  (HI: ∀so sc w1,yB w w1→Rd w1 .i64 (.slice so (Dg.dg 65536 t.n).length sc) (Dg.dg 65536 t.n)→yC 12 #[yi n,.string st,yi f1,yi e1,yi 0,yEV c g t so sc,yi fl] w1 (yR w1 (.bool true))):
  yC 4 #[yi n,.string sa,.string sb,yi wy] w (yR w (.bool true)):=by
 replace HA:Hid _:=HA;replace HO:Hid _:=HO;replace HM:Hid _:=HM;replace HR:Hid _:=HR;replace HB:Hid _:=HB;replace HI:Hid _:=HI
 go_enter func4,ntmps4
 have b0:=Below.refl w.heap.size w
 go_wp2_with fail
 refine(HA.out _ b0).mono ?_;rintro zz w1 ⟨rfl,bb2⟩;have b3:=aa b0 bb2;clear b0 bb2 HA;have al4:=af w1 (.cells #[.string sa,.string sb] 9);have q5:=ah w1 [.string sa,.string sb] 9;have b6:=aa b3 al4
 go_wp2_with fail
 refine(HO.out _ _ q5).mono ?_;rintro zz w7 ⟨gb,cap,xo,xc,yo,yc,rfl,h0,h1,rx9,ry10,bb8⟩;have b11:=aa b6 bb8;clear q5 b6 bb8 HO b3 al4;obtain⟨W15,hW14,q13,al12⟩:=cA w7 (yoL 0 false false (.slice none 0 0) 0) 32;replace hW14:Hid _:=hW14;have hl16:w.heap.size≤w7.heap.size:=b11.size;have hl17:=World.block_lt_of_cell? _ _ (h0 0 _ rfl);have q18:=aC h0 al12;have q19:=aC h1 al12;have r20:=rx9.l al12;have r21:=ry10.l al12;have b22:=aa b11 al12;clear h0 h1 rx9 ry10 b11 al12
 go_upto_region 4 with fail
 rw[hW14.out];clear hW14;obtain⟨W26,hW25,q24,al23⟩:=cA W15 (yEL cy gy y yo yc) 32;replace hW25:Hid _:=hW25;have hl27:w.heap.size≤W15.heap.size:=b22.size;have hl28:=World.block_lt_of_cell? _ _ (q18 0 _ rfl);have hl29:=q13.lt;have c30:=q19 0 _ rfl;have c31:=q19 1 _ rfl;have c32:=q19 2 _ rfl;have c33:=q19 3 _ rfl;have c34:=q19 4 _ rfl;have q35:=aC q18 al23;have q36:=q13.l al23;have r37:=r20.l al23;have r38:=r21.l al23;have b39:=aa b22 al23;clear q18 q19 q13 b22
 go_upto_region 7 with fail
 rw[hW25.out];clear c30 c31 c32 c33 c34 hW25;have c41:=q24.c 0 rfl;have c42:=q24.c 1 rfl;have bu:=ag W26 W15.heap.size 1 (.bool (!gy));have q40:au (W26.setCell ⟨W15.heap.size,1,none⟩ (.bool (!gy))) W15.heap.size 32 (yEL cy (!gy) y yo yc):=(q24.set 1 (.bool (!gy)));have c43:=q24.c 1 rfl;have y44:=q24.f 1;have q45:=dZ bu q35 (by omega);have q46:=bu.loc q36 (by omega);have ba47:=bu.below al23 (by omega);have r48:=r20.l ba47;have r49:=r21.l ba47;have b50:=bu.below b39 (by omega);clear bu
 go_upto_region 9 with fail
 generalize W26.setCell ⟨W15.heap.size,1,none⟩ (.bool (!gy))=W51 at q45 q46 q40 r48 r49 b50 ba47⊢;clear q24 q35 q36 r37 al23 r38 b39 c41 c42 c43 y44;have c52:=q40.c 2 rfl;have c53:=q40.c 3 rfl;have c54:=q40.c 4 rfl
 go_wp2_with fail
 refine(HM.out _ _ _ b50 r49).mono ?_;rintro zz w55 ⟨rfl,bb56⟩;have q57:=aC q45 bb56;have q58:=q46.l bb56;have q59:=q40.l bb56;have r60:=r48.l bb56;have r61:=r49.l bb56;have b62:=aa b50 bb56;have ba63:=aa ba47 bb56;clear q45 q46 q40 r48 r49 b50 ba47 bb56 HM c52 c53 c54;have bu:=((ag w55 W15.heap.size 2 (.bool us)).trans (ag _ W15.heap.size 3 (.slice yo (Dg.dg 65536 y.n).length yc))).trans (ag _ W15.heap.size 4 (yi ue));have q64:au (((w55.setCell ⟨W15.heap.size,2,none⟩ (.bool us)).setCell ⟨W15.heap.size,3,none⟩ (.slice yo (Dg.dg 65536 y.n).length yc)).setCell ⟨W15.heap.size,4,none⟩ (yi ue)) W15.heap.size 32 (yoL cy (!gy) us (.slice yo (Dg.dg 65536 y.n).length yc) ue):=(((q59.set 2 (.bool us)).set 3 (.slice yo (Dg.dg 65536 y.n).length yc)).set 4 (yi ue));have c65:=q59.c 2 rfl;have y66:=q59.f 2;have c67:=q59.c 3 rfl;have y68:=q59.f 3;have c69:=q59.c 4 rfl;have y70:=q59.f 4;have q71:=dZ bu q57 (by omega);have q72:=bu.loc q58 (by omega);have ba73:=bu.below ba63 (by omega);have r74:=r20.l ba73;have r75:=r21.l ba73;have b76:=bu.below b62 (by omega);clear bu
 go_upto_region 10 with fail
 generalize((w55.setCell ⟨W15.heap.size,2,none⟩ (.bool us)).setCell ⟨W15.heap.size,3,none⟩ (.slice yo (Dg.dg 65536 y.n).length yc)).setCell ⟨W15.heap.size,4,none⟩ (yi ue)=W77 at q71 q72 q64 r74 r75 b76 ba73⊢;clear q59 q57 q58 r60 ba63 r61 b62 c65 y66 c67 y68 c69 y70
 go_upto_region 10 with fail
 have bW78:yB W77 W77.drew:=(Below.refl _ _).drew;have q79:=aC q71 bW78;have q80:=q72.l bW78;have q81:=q64.l bW78;have r82:=r74.l bW78;have r83:=r75.l bW78;have b84:=aa b76 bW78;have ba85:=aa ba73 bW78;clear q71 q72 q64 r74 r75 b76 ba73 bW78;refine wp_region_held_drew (S:=fun wq=>wq.rangeAt gb 0 (yEL cx gx x xo xc)∧au wq W15.heap.size 32 (yoL cy (!gy) us (.slice yo (Dg.dg 65536 y.n).length yc) ue)) (by kernel_rfl) ⟨q79,q81⟩ (fun hS0=> ?_)
 generalize W77.drew=WD86 at q79 q80 q81 r82 r83 b84 ba85 hS0⊢;refine tk 0 (yi n) rfl (by kernel_rfl) (fun _ _ _ h=>h) (fun _ _=>by kernel_rfl) hS0 ?_
 refine tk 1 (.slice (some ⟨gb,0,none⟩) 2 cap) rfl (by kernel_rfl) (fun _ _ _ h=>h) (fun _ _=>by kernel_rfl) hS0 ?_
 refine tk 2 (.pointer (some ⟨gb,0,none⟩)) rfl (by kernel_rfl) (fun _ _ _ h=>h) (fun _ _=>by kernel_rfl) hS0 ?_
 refine tk 3 (yEV cx gx x xo xc) rfl (by kernel_rfl) (fun _ _ _ h=>h) (fun _ hw0=>fy 32 (.tmp 54) rfl gb 0 (by kernel_rfl) _ _ hw0.1 underlying32 rfl (by kernel_rfl)) hS0 ?_
 refine tk 4 (yoV cy (!gy) us (.slice yo (Dg.dg 65536 y.n).length yc) ue) rfl (by kernel_rfl) (fun _ _ _ h=>h) (fun _ hw0=>fy 32 (.tmp 16) rfl W15.heap.size 0 (by kernel_rfl) _ _ hw0.2.range underlying32 rfl (by kernel_rfl)) hS0 ?_
 refine tk 5 (yi wy) rfl (by kernel_rfl) (fun _ _ _ h=>h) (fun _ _=>by kernel_rfl) hS0 ?_
 refine wpAnyH_ready (rs:=[6]) (by kernel_rfl) (by simp) ?_;refine AllReadyH.cons rfl (fun K hK=> ?_) AllReadyH.nil
 go_simp
 refine(HR.out _ _ _ _ _ b84 r82 r83).mono ?_;rintro zz w87 ⟨v189,rfl,r190,bb88⟩;have q91:=aC q79 bb88;have q92:=q80.l bb88;have q93:=q81.l bb88;have b94:=aa b84 bb88;have ba95:=aa ba85 bb88;obtain⟨so,sc,hv⟩:=r190.shape;subst hv;clear q79 q80 q81 r82 r83 b84 ba85 bb88 HR;refine hK.out _ _ ⟨q91,q93⟩ (fun hS96=> ?_)
 clear hK K;refine tk 7 (.tuple #[yEV c g t so sc,yi fl]) rfl (by kernel_rfl) (fun _ _ _ h=>h) (fun _ _=>by kernel_rfl) hS96 ?_
 refine tk 8 (yEV c g t so sc) rfl (by kernel_rfl) (fun _ _ _ h=>h) (fun _ _=>by go_simp) hS96 ?_
 refine tk 9 (yi fl) rfl (by kernel_rfl) (fun _ _ _ h=>h) (fun _ _=>by go_simp) hS96 ?_
 refine wpAnyH_ready (rs:=[10]) (by kernel_rfl) (by simp) ?_;refine AllReadyH.cons rfl (fun K hK=> ?_) AllReadyH.nil
 have bu:But w7.heap.size w87 (w87.setCells w7.heap.size 0 (yEL c g t so sc)):=de _ _ _ _;have hth:w87.there w7.heap.size 0 5:=dD q92;have q97:au (w87.setCells w7.heap.size 0 (yEL c g t so sc)) w7.heap.size 32 (yEL c g t so sc):=q92.sets _ rfl;have r98:=bu.rd r190 (cq r190 (Dg.norm_dg _ _ (by omega)) q92 (fun x hx n hn=>by simp at hx;rcases hx with rfl|rfl|rfl|rfl|rfl<;>simp;all_goals omega))
 have q99:=dZ bu q91 (by omega);have q100:=bu.loc q93 (by omega);have b101:=bu.below b94 (by omega);rw[if_pos (by kernel_rfl)];refine wp_store_mid 32 (.tmp 14) (.tmp 59) rfl w7.heap.size 0 (yEA c g t so sc) (by kernel_rfl) (by kernel_rfl) hth (by kernel_rfl) (by simp[Value.oneCell']) ?_;refine hK.out _ _ ⟨q99,q100⟩ (fun hS102=> ?_)
 clear hK K;clear q92 ba95 r190 q91 q93 b94 bu hth;refine tk 11 (yi fl) rfl (by kernel_rfl) (fun _ _ _ h=>h) (fun _ _=>by kernel_rfl) hS102 ?_
 refine wpAnyH_done (by kernel_rfl) ?_ _;clear hS0 hS96 hS102;change Exit.then _ _ _ _ (World.setCells w87 w7.heap.size 0 (yEL c g t so sc));generalize World.setCells w87 w7.heap.size 0 (yEL c g t so sc)=W103 at q99 q97 q100 r98 b101⊢;simp only[Act.put,List.getElem_toArray,List.getElem_cons_succ,List.getElem_cons_zero,List.setIfInBounds_toArray,List.set_cons_zero,List.set_cons_succ]
 go_wp2_with fail
 refine(HB.out _ b101).mono ?_;rintro zz w104 ⟨rfl,bb105⟩;have q106:=q97.l bb105;have r107:=r98.l bb105;have b108:=aa b101 bb105;clear q99 q97 q100 r98 b101 bb105 HB;obtain⟨c109,c110,c111,c112,c113⟩:=q106.cs5
 go_wp2_with fail
 refine(HI.out _ _ _ b108 r107).mono ?_;rintro zz w114 ⟨rfl,bb115⟩;have b116:=aa b108 bb115;clear q106 r107 b108 bb115 HI c109 c110 c111 c112 c113
 go_wp2
 go_ret
 exact⟨by simp,b116⟩
theorem arithSubs_off (cx cy c fl:Int)(gx gy g:Bool)(x y t:ak)(n wy f1 e1:Int)(sa sb st:ByteArray)(w:World)(h3: ¬cy≤3)
  (HA:yH w 13 #[yi n,.string sa,.string sb,yi wy] (.tuple #[.string st,yi f1,yi e1]))
  (HO: ∀pb w1,au w1 pb 9 [.string sa,.string sb]→yC 9 #[yi n,yi wy,.slice (some ⟨pb,0,none⟩) 2 2] w1 fun zz w'=> ∃gb cap xo xc yo yc,zz= .returned (.tuple #[.slice (some ⟨gb,0,none⟩) 2 cap,yi 0])∧w'.rangeAt gb 0 (yEL cx gx x xo xc)∧w'.rangeAt gb 5 (yEL cy gy y yo yc)∧Rd w' .i64 (.slice xo (Dg.dg 65536 x.n).length xc) (Dg.dg 65536 x.n)∧Rd w' .i64 (.slice yo (Dg.dg 65536 y.n).length yc) (Dg.dg 65536 y.n)∧yB w1 w')
  (HR: ∀xo xc yo yc w1,yB w w1→Rd w1 .i64 (.slice xo (Dg.dg 65536 x.n).length xc) (Dg.dg 65536 x.n)→Rd w1 .i64 (.slice yo (Dg.dg 65536 y.n).length yc) (Dg.dg 65536 y.n)→yC 10 #[yi n,yEV cx gx x xo xc,yEV cy gy y yo yc,yi wy] w1 (RVF w1 c g t fl))
  (HB:yH w 11 #[] (.bool true))
  (HI: ∀so sc w1,yB w w1→Rd w1 .i64 (.slice so (Dg.dg 65536 t.n).length sc) (Dg.dg 65536 t.n)→yC 12 #[yi n,.string st,yi f1,yi e1,yi 0,yEV c g t so sc,yi fl] w1 (yR w1 (.bool true))):
  yC 4 #[yi n,.string sa,.string sb,yi wy] w (yR w (.bool true)):=by
 replace HA:Hid _:=HA;replace HO:Hid _:=HO;replace HR:Hid _:=HR;replace HB:Hid _:=HB;replace HI:Hid _:=HI
 go_enter func4,ntmps4
 have b0:=Below.refl w.heap.size w
 go_wp2_with fail
 refine(HA.out _ b0).mono ?_;rintro zz w1 ⟨rfl,bb2⟩;have b3:=aa b0 bb2;clear b0 bb2 HA;have al4:=af w1 (.cells #[.string sa,.string sb] 9);have q5:=ah w1 [.string sa,.string sb] 9;have b6:=aa b3 al4
 go_wp2_with fail
 refine(HO.out _ _ q5).mono ?_;rintro zz w7 ⟨gb,cap,xo,xc,yo,yc,rfl,h0,h1,rx9,ry10,bb8⟩;have b11:=aa b6 bb8;clear q5 b6 bb8 HO b3 al4;obtain⟨W15,hW14,q13,al12⟩:=cA w7 (yoL 0 false false (.slice none 0 0) 0) 32;replace hW14:Hid _:=hW14;have hl16:w.heap.size≤w7.heap.size:=b11.size;have hl17:=World.block_lt_of_cell? _ _ (h0 0 _ rfl);have q18:=aC h0 al12;have q19:=aC h1 al12;have r20:=rx9.l al12;have r21:=ry10.l al12;have b22:=aa b11 al12;clear h0 h1 rx9 ry10 b11 al12
 go_upto_region 4 with fail
 rw[hW14.out];clear hW14;obtain⟨W26,hW25,q24,al23⟩:=cA W15 (yEL cy gy y yo yc) 32;replace hW25:Hid _:=hW25;have hl27:w.heap.size≤W15.heap.size:=b22.size;have hl28:=World.block_lt_of_cell? _ _ (q18 0 _ rfl);have hl29:=q13.lt;have c30:=q19 0 _ rfl;have c31:=q19 1 _ rfl;have c32:=q19 2 _ rfl;have c33:=q19 3 _ rfl;have c34:=q19 4 _ rfl;have q35:=aC q18 al23;have q36:=q13.l al23;have r37:=r20.l al23;have r38:=r21.l al23;have b39:=aa b22 al23;clear q18 q19 q13 b22
 go_upto_region 7 with fail
 rw[hW25.out];clear c30 c31 c32 c33 c34 hW25;have c40:=q24.c 0 rfl
 go_upto_region 10 with fail
 clear c40;have bW41:yB W26 W26.drew:=(Below.refl _ _).drew;have q42:=aC q35 bW41;have q43:=q36.l bW41;have q44:=q24.l bW41;have r45:=r37.l bW41;have r46:=r38.l bW41;have b47:=aa b39 bW41;have ba48:=aa al23 bW41;clear q35 q36 q24 r37 r38 b39 al23 bW41;refine wp_region_held_drew (S:=fun wq=>wq.rangeAt gb 0 (yEL cx gx x xo xc)∧au wq W15.heap.size 32 (yEL cy gy y yo yc)) (by kernel_rfl) ⟨q42,q44⟩ (fun hS0=> ?_)
 generalize W26.drew=WD49 at q42 q43 q44 r45 r46 b47 ba48 hS0⊢;refine tk 0 (yi n) rfl (by kernel_rfl) (fun _ _ _ h=>h) (fun _ _=>by kernel_rfl) hS0 ?_
 refine tk 1 (.slice (some ⟨gb,0,none⟩) 2 cap) rfl (by kernel_rfl) (fun _ _ _ h=>h) (fun _ _=>by kernel_rfl) hS0 ?_
 refine tk 2 (.pointer (some ⟨gb,0,none⟩)) rfl (by kernel_rfl) (fun _ _ _ h=>h) (fun _ _=>by kernel_rfl) hS0 ?_
 refine tk 3 (yEV cx gx x xo xc) rfl (by kernel_rfl) (fun _ _ _ h=>h) (fun _ hw0=>fy 32 (.tmp 54) rfl gb 0 (by kernel_rfl) _ _ hw0.1 underlying32 rfl (by kernel_rfl)) hS0 ?_
 refine tk 4 (yEV cy gy y yo yc) rfl (by kernel_rfl) (fun _ _ _ h=>h) (fun _ hw0=>fy 32 (.tmp 16) rfl W15.heap.size 0 (by kernel_rfl) _ _ hw0.2.range underlying32 rfl (by kernel_rfl)) hS0 ?_
 refine tk 5 (yi wy) rfl (by kernel_rfl) (fun _ _ _ h=>h) (fun _ _=>by kernel_rfl) hS0 ?_
 refine wpAnyH_ready (rs:=[6]) (by kernel_rfl) (by simp) ?_;refine AllReadyH.cons rfl (fun K hK=> ?_) AllReadyH.nil
 go_simp
 refine(HR.out _ _ _ _ _ b47 r45 r46).mono ?_;rintro zz w50 ⟨v152,rfl,r153,bb51⟩;have q54:=aC q42 bb51;have q55:=q43.l bb51;have q56:=q44.l bb51;have b57:=aa b47 bb51;have ba58:=aa ba48 bb51;obtain⟨so,sc,hv⟩:=r153.shape;subst hv;clear q42 q43 q44 r45 r46 b47 ba48 bb51 HR;refine hK.out _ _ ⟨q54,q56⟩ (fun hS59=> ?_)
 clear hK K;refine tk 7 (.tuple #[yEV c g t so sc,yi fl]) rfl (by kernel_rfl) (fun _ _ _ h=>h) (fun _ _=>by kernel_rfl) hS59 ?_
 refine tk 8 (yEV c g t so sc) rfl (by kernel_rfl) (fun _ _ _ h=>h) (fun _ _=>by go_simp) hS59 ?_
 refine tk 9 (yi fl) rfl (by kernel_rfl) (fun _ _ _ h=>h) (fun _ _=>by go_simp) hS59 ?_
 refine wpAnyH_ready (rs:=[10]) (by kernel_rfl) (by simp) ?_;refine AllReadyH.cons rfl (fun K hK=> ?_) AllReadyH.nil
 have bu:But w7.heap.size w50 (w50.setCells w7.heap.size 0 (yEL c g t so sc)):=de _ _ _ _;have hth:w50.there w7.heap.size 0 5:=dD q55;have q60:au (w50.setCells w7.heap.size 0 (yEL c g t so sc)) w7.heap.size 32 (yEL c g t so sc):=q55.sets _ rfl;have r61:=bu.rd r153 (cq r153 (Dg.norm_dg _ _ (by omega)) q55 (fun x hx n hn=>by simp at hx;rcases hx with rfl|rfl|rfl|rfl|rfl<;>simp;all_goals omega))
 have q62:=dZ bu q54 (by omega);have q63:=bu.loc q56 (by omega);have b64:=bu.below b57 (by omega);rw[if_pos (by kernel_rfl)];refine wp_store_mid 32 (.tmp 14) (.tmp 59) rfl w7.heap.size 0 (yEA c g t so sc) (by kernel_rfl) (by kernel_rfl) hth (by kernel_rfl) (by simp[Value.oneCell']) ?_;refine hK.out _ _ ⟨q62,q63⟩ (fun hS65=> ?_)
 clear hK K;clear q55 ba58 r153 q54 q56 b57 bu hth;refine tk 11 (yi fl) rfl (by kernel_rfl) (fun _ _ _ h=>h) (fun _ _=>by kernel_rfl) hS65 ?_
 refine wpAnyH_done (by kernel_rfl) ?_ _;clear hS0 hS59 hS65;change Exit.then _ _ _ _ (World.setCells w50 w7.heap.size 0 (yEL c g t so sc));generalize World.setCells w50 w7.heap.size 0 (yEL c g t so sc)=W66 at q62 q60 q63 r61 b64⊢;simp only[Act.put,List.getElem_toArray,List.getElem_cons_succ,List.getElem_cons_zero,List.setIfInBounds_toArray,List.set_cons_zero,List.set_cons_succ]
 go_wp2_with fail
 refine(HB.out _ b64).mono ?_;rintro zz w67 ⟨rfl,bb68⟩;have q69:=q60.l bb68;have r70:=r61.l bb68;have b71:=aa b64 bb68;clear q62 q60 q63 r61 b64 bb68 HB;obtain⟨c72,c73,c74,c75,c76⟩:=q69.cs5
 go_wp2_with fail
 refine(HI.out _ _ _ b71 r70).mono ?_;rintro zz w77 ⟨rfl,bb78⟩;have b79:=aa b71 bb78;clear q69 r70 b71 bb78 HI c72 c73 c74 c75 c76
 go_wp2
 go_ret
 exact⟨by simp,b79⟩
end Go.Proofs.YtbdokgamhinajaaGreatDoor
