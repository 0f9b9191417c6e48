/-
  Texts laid together: Ra4, Ga3, Gc2.
-/
import Derived.Test.YtnhackdjplppjaaGreatDoorUa02
set_option maxRecDepth 100000
set_option maxHeartbeats 3200000
namespace Go.Proofs.YtnhackdjplppjaaGreatDoor
open _root_.Go.Proofs.Tryz
open Go.RowKit
theorem way_is {way:Int}:iC way=true↔1≤way∧way≤5:=by
 unfold iC;simp
theorem rec_wrong {n way:Int}{ps:List ByteArray}(f:Int×Bool×ak×Int)(h:CK n way ps≠0):jV n way ps f=(⟨#[]⟩,0,CK n way ps):=by
 unfold CK at h⊢;unfold jV
 by_cases hf:dK n=0
 ·rw[if_pos hf,if_pos hf]
 rw[if_neg hf] at h⊢;rw[if_neg hf]
 by_cases he:fT n ps=0
 ·rw[if_pos he] at h⊢
  rw[if_neg (fun c=>c he)]
  cases hw:iC way
  ·rw[if_pos (by
    have: ¬(1≤way∧way≤5):=fun c=>by rw[way_is.2 c] at hw;cases hw
    omega)]
   rfl
  ·rw[hw] at h
   exact absurd rfl h
 ·rw[if_neg he,if_pos he]
theorem opn_right {n way:Int}{ps:List ByteArray}(h:CK n way ps=0): ∃k:Nat,(1≤k∧k≤8)∧n=(k:Int)∧dK n≠0∧fT n ps=0∧1≤way∧way≤5:=by
 unfold CK at h
 by_cases hf:dK n=0
 ·rw[if_pos hf] at h
  exact absurd h (by decide)
 rw[if_neg hf] at h;obtain⟨k1,k2,k3⟩:=fF hf;refine⟨n.toNat,⟨k1,k2⟩,k3.symm,hf, ?_⟩
 by_cases he:fT n ps=0
 ·rw[if_pos he] at h
  cases hw:iC way
  ·rw[hw] at h
   exact absurd h (by decide)
  ·exact⟨he,way_is.1 hw⟩
 ·rw[if_neg he] at h
  exact absurd h he
theorem rec_right {k:Nat}{way:Int}{ps:List ByteArray}(f:Int×Bool×ak×Int)(hf:dK (k:Int)≠0)(he:fT (k:Int) ps=0)(hw:1≤way∧way≤5):jV (k:Int) way ps f=if ps.any (dO (k:Int))=true then m8 k way (AZ (dK (k:Int))) false ⟨false,0,0⟩ (if dK (k:Int)=1 then 0 else 16) else m8 k way f.1 f.2.1 f.2.2.1 f.2.2.2:=by
 unfold jV;rw[if_neg hf,if_neg (by omega),if_neg (by omega),Int.toNat_natCast]
theorem open_err {n way:Int}{ps:List ByteArray}(h:CK n way ps≠0)(hm:ps.length≤3)(pb:Nat)(w:World)(hl:au w pb 9 (ps.map Value.string)):yC 18 #[yi n,yi way,.slice (some ⟨pb,0,none⟩) ps.length ps.length] w (yR w (.tuple #[.slice none 0 0,yi (CK n way ps)])):=
 (Qc n way ps pb w hl hm).mono (fun z w' h2=>by
  rcases h2 with⟨e,-⟩| ⟨-,e,b⟩
  ·exact absurd e h
  ·exact⟨e,b⟩)
theorem open_ok {n way:Int}{ps:List ByteArray}(h:CK n way ps=0)(hm:ps.length≤3)(h0:ps≠[])(pb:Nat)(w:World)(hl:au w pb 9 (ps.map Value.string)):yC 18 #[yi n,yi way,.slice (some ⟨pb,0,none⟩) ps.length ps.length] w fun z w'=> ∃gb cap,z= .returned (.tuple #[.slice (some ⟨gb,0,none⟩) ps.length cap,yi 0])∧ab5 w' n ps gb cap∧yB w w':=
 (Qc n way ps pb w hl hm).mono (fun z w' h2=>by
  rcases h2 with⟨-,v,cs,e,ho,hat,b⟩| ⟨e,-⟩
  ·obtain⟨g,cap,rfl,hv⟩:=ab6 h0 ho hat
   exact⟨g,cap,e,hv,b⟩
  ·exact absurd h e)
def RefOf (k:Nat)(wy:Int)(cx cy:Int)(gx gy:Bool)(x y:ak)(F:Nat)(v:Int×Bool×ak×Int):Prop:=
 ∀xo xc yo yc w,Rd w .i64 (.slice xo (Dg.dg 65536 x.n).length xc) (Dg.dg 65536 x.n)→Rd w .i64 (.slice yo (Dg.dg 65536 y.n).length yc) (Dg.dg 65536 y.n)→yC F #[yi (k:Int),yEV cx gx x xo xc,yEV cy gy y yo yc,yi wy] w (RVF w v.1 v.2.1 v.2.2.1 v.2.2.2)
theorem off_pair (k:Nat)(hk:1≤k∧k≤8)(cx cy:Int)(gx gy sx sy:Bool)(vx vy:Value)(ex ey:Int)(pb:Nat)(w:World)(hl:au w pb 32 [yi cx,.bool gx,.bool sx,vx,yi ex,yi cy,.bool gy,.bool sy,vy,yi ey]):
  (cx≤3∧cy≤3→yC 58 #[yi (k:Int),.slice (some ⟨pb,0,none⟩) 2 2] w (yR w (.tuple #[yoV 0 false false (.slice none 0 0) 0,yi 0,.bool false])))∧
  (¬(cx≤3∧cy≤3)→yC 58 #[yi (k:Int),.slice (some ⟨pb,0,none⟩) 2 2] w (yR w (.tuple #[yoV (AZ (dK (k:Int))) false false (.slice none 0 0) 0,yi (if dK (k:Int)=3 then 16 else 0),.bool true]))):=by
 have hc: ∀(i:Nat) c,[cx,cy][i]? =some c→w.cell? ⟨pb,i*5,none⟩=some (yi c):=fun i c h=>by
  rcases i with- | - |i
  ·obtain rfl:cx=c:=by simpa using h
   exact hl.c 0 rfl
  ·obtain rfl:cy=c:=by simpa using h
   exact hl.c 5 rfl
  ·simp at h
 obtain⟨h1,h2⟩:=off_row k hk [cx,cy] pb w (by simp) hc;refine⟨fun h=>h1 (fun c hc=>by
  rcases List.mem_cons.1 hc with rfl|hc
  ·exact h.1
  ·rw[List.mem_singleton.1 hc]
   exact h.2),fun h=>h2 ?_⟩
 by_cases c:cx≤3
 ·exact⟨1,cy,by omega,rfl,by omega⟩
 ·exact⟨0,cx,by omega,rfl,by omega⟩
theorem noNum_any {k:Nat}{a b:ByteArray}(ha:dF (k:Int) a=0)(hb:dF (k:Int) b=0):[a,b].any (dO (k:Int))=decide (¬(((bM (k:Int) a:Nat):Int)≤3∧((bM (k:Int) b:Nat):Int)≤3)):=by
 have h1:=zl ha;have h2:=zl hb;simp only[List.any_cons,List.any_nil,Bool.or_false];unfold dO;rw[Bool.eq_iff_iff];simp;omega
theorem hex_num {k:Nat}(hk:1≤k∧k≤8)(hf:dK (k:Int)=2){a:ByteArray}(ha:dF (k:Int) a=0):bM (k:Int) a≤2:=by
 have h45: ¬k≤3∧k≤5:=by
  revert hf
  rcases bO hk with rfl|rfl|rfl|rfl|rfl|rfl|rfl|rfl<;>decide
 unfold bM;rw[if_pos ha,Int.toNat_natCast];unfold dh;rw[if_neg h45.1,if_pos h45.2]
 split<;>omega
theorem inf_few {k:Nat}{a:ByteArray}(ha:dF (k:Int) a=0)(h:bM (k:Int) a=3):k≤3:=by
 refine Decidable.byContradiction fun h3=> ?_
 revert h
 unfold bM;rw[if_pos ha,Int.toNat_natCast];unfold dh;rw[if_neg h3]
 split
 ·split<;>omega
 ·split
  ·split<;>omega
  ·omega
theorem pair_pay {k:Nat}(hk:1≤k∧k≤8){way:Int}{a b:ByteArray}(hw:1≤way∧way≤5)(he:fT (k:Int) [a,b]=0)(hf:dK (k:Int)≠0)(f:Int×Bool×ak×Int)(F:Nat){cx cy:Int}{gx gy:Bool}{x y:ak}(hcx:((bM (k:Int) a:Nat):Int)=cx)(hcy:((bM (k:Int) b:Nat):Int)=cy)
  (HOff: ∀c fl xo xc yo yc w,(∀pb w1,au w1 pb 32 (yXL cx gx x xo xc cy gy y yo yc)→yC 58 #[yi (k:Int),.slice (some ⟨pb,0,none⟩) 2 2] w1 (yR w1 (.tuple #[yoV c false false (.slice none 0 0) 0,yi fl,.bool true])))→yC F #[yi (k:Int),yEV cx gx x xo xc,yEV cy gy y yo yc,yi way] w (RVF w c false ⟨false,0,0⟩ fl))
  (HNum:cx≤3∧cy≤3→ ∃v,RefOf k way cx cy gx gy x y F v∧SameV k (m8 k way f.1 f.2.1 f.2.2.1 f.2.2.2) v):
  ∃v,RefOf k way cx cy gx gy x y F v∧SameV k (jV (k:Int) way [a,b] f) v:=by
 have ha:=eU he a (by simp);have hb:=eU he b (by simp);rw[rec_right f hf he hw,noNum_any ha hb,hcx,hcy]
 by_cases h3:cx≤3∧cy≤3
 ·rw[if_neg (by rw[decide_eq_false (fun c=>c h3)];decide)]
  exact HNum h3
 ·rw[if_pos (decide_eq_true h3)]
  have hfl:(if dK (k:Int)=1 then(0:Int) else 16)=if dK (k:Int)=3 then 16 else 0:=by
   rcases qt hk with h|h|h
   ·rw[if_pos h,if_neg (by omega)]
   ·exfalso
    have:=hex_num hk h ha;have:=hex_num hk h hb;omega
   ·rw[if_neg (by omega),if_pos h]
  rw[hfl];exact⟨nthV k (if dK (k:Int)=3 then 16 else 0),fun xo xc yo yc w _ _=>HOff _ _ xo xc yo yc w (fun pb w1 hl=>(off_pair k hk _ _ _ _ _ _ _ _ _ _ pb w1 hl).2 h3),same_off hk way _⟩
theorem pat_ok {k:Nat}{r:ByteArray×Int×Int}{v:Int×Bool×ak×Int}(h:SameV k r v)(so:Option Addr)(sc:Nat)(w:World)(hr:Rd w .i64 (.slice so (Dg.dg 65536 v.2.2.1.n).length sc) (Dg.dg 65536 v.2.2.1.n)):yC 21 #[yi (k:Int),.string r.1,yi r.2.1,yi r.2.2,yi 0,yoV v.1 v.2.1 v.2.2.1.s (.slice so (Dg.dg 65536 v.2.2.1.n).length sc) v.2.2.1.e,yi v.2.2.2] w (yR w (.bool true)):=by
 obtain⟨h1,h2,h3⟩:=h;rw[h1,h2];exact aaY (k:Int) _ _ _ v.2.2.1 so sc r.1 w (fun w1 b=>h3 so sc w1 (hr.l b))
theorem abu (cx cy c fl:Int)(n wy:Int)(gx gy:Bool)(x y:ak)(xo yo:Option Addr)(xc yc:Nat)(w:World)(HO: ∀pb w1,au w1 pb 32 (yXL cx gx x xo xc cy gy y yo yc)→yC 58 #[yi n,.slice (some ⟨pb,0,none⟩) 2 2] w1 (yR w1 (.tuple #[yoV c false false (.slice none 0 0) 0,yi fl,.bool true]))):
  yC 25 #[yi n,yEV cx gx x xo xc,yEV cy gy y yo yc,yi wy] w (RVF w c false ⟨false,0,0⟩ fl):=by
 replace HO:Hid _:=HO;obtain⟨W5,hW6,q1,q2,q3,b4⟩:=lG w (yEL cx gx x xo xc) 32 (yEL cy gy y yo yc) 32 (yoL 0 false false (.slice none 0 0) 0) 32;replace hW6:Hid _:=hW6
 go_enter func25,ntmps25
 go_upto_region 1 with fail
 rw[hW6.out];clear hW6;obtain⟨c7,c8,c9,c10,c11⟩:=q1.cs5;obtain⟨c12,c13,c14,c15,c16⟩:=q2.cs5;have al17:=af W5 (.cells #[yi cx,.bool gx,.bool x.s,.slice xo (Dg.dg 65536 x.n).length xc,yi x.e,yi cy,.bool gy,.bool y.s,.slice yo (Dg.dg 65536 y.n).length yc,yi y.e] 32);have q18:=ah W5 (yXL cx gx x xo xc cy gy y yo yc) 32;have q19:=q3.l al17;have b20:=aa b4 al17
 go_wp2_with fail
 refine(HO.out _ _ q18).mono ?_;rintro zz w21 ⟨rfl,bb22⟩;have q23:=q19.l bb22;have b24:=aa b20 bb22;clear q19 q18 b20 bb22 HO c7 c8 c9 c10 c11 c12 c13 c14 c15 c16 q1 q2 q3 b4 al17;obtain⟨W28,hW27,q26,al25⟩:=cA w21 (yoL c false false (.slice none 0 0) 0) 32;replace hW27:Hid _:=hW27;have hl29:w.heap.size≤w21.heap.size:=b24.size;have hl30:=q23.lt;have q31:=q23.l al25;have b32:=aa b24 al25;clear q23 b24 al25
 go_upto_region 2 with fail
 rw[hW27.out];clear hW27;obtain⟨c33,c34,c35,c36,c37⟩:=q26.cs5;have hf:=dL (P:=Tryz.prog) q31 b32 (by omega) underlying32 rfl (by kernel_rfl) (yi c) (.bool false) (.bool false) (.slice none 0 0) (yi 0);have HH:Hid (_∧_):=⟨hf.1,hf.2.1⟩;obtain⟨⟨z0,z1,z2,z3,z4⟩,y0,y1,y2,y3,y4⟩:=dN q31;clear hf q31 q26 b32
 go_wp2
 obtain⟨hl,bR⟩:=HH.out;exact bodyPost_ret (aj results25 rfl rfl hl) rfl ⟨_,rfl,aN _ _,bR⟩
theorem abv (c:Int)(n wy:Int)(gx gy:Bool)(x y:ak)(xo yo:Option Addr)(xc yc:Nat)(w:World)(HO: ∀pb w1,au w1 pb 32 (yXL 3 gx x xo xc 1 gy y yo yc)→yC 58 #[yi n,.slice (some ⟨pb,0,none⟩) 2 2] w1 (yR w1 (.tuple #[yoV 0 false false (.slice none 0 0) 0,yi 0,.bool false])))
  (HL: ∀w1,yC 59 #[yi n] w1 (RVF w1 c false ⟨false,0,0⟩ 16)):
  yC 25 #[yi n,yEV 3 gx x xo xc,yEV 1 gy y yo yc,yi wy] w (RVF w c false ⟨false,0,0⟩ 16):=by
 replace HO:Hid _:=HO;replace HL:Hid _:=HL;obtain⟨W5,hW6,q1,q2,q3,b4⟩:=lG w (yEL 3 gx x xo xc) 32 (yEL 1 gy y yo yc) 32 (yoL 0 false false (.slice none 0 0) 0) 32;replace hW6:Hid _:=hW6
 go_enter func25,ntmps25
 go_upto_region 1 with fail
 rw[hW6.out];clear hW6;obtain⟨c7,c8,c9,c10,c11⟩:=q1.cs5;obtain⟨c12,c13,c14,c15,c16⟩:=q2.cs5;have al17:=af W5 (.cells #[yi 3,.bool gx,.bool x.s,.slice xo (Dg.dg 65536 x.n).length xc,yi x.e,yi 1,.bool gy,.bool y.s,.slice yo (Dg.dg 65536 y.n).length yc,yi y.e] 32);have q18:=ah W5 (yXL 3 gx x xo xc 1 gy y yo yc) 32;have q19:=q1.l al17;have q20:=q2.l al17;have q21:=q3.l al17;have b22:=aa b4 al17
 go_wp2_with fail
 refine(HO.out _ _ q18).mono ?_;rintro zz w23 ⟨rfl,bb24⟩;have q25:=q19.l bb24;have q26:=q20.l bb24;have q27:=q21.l bb24;have b28:=aa b22 bb24;clear q19 q20 q21 q18 b22 bb24 HO c7 c8 c9 c10 c11 c12 c13 c14 c15 c16 q1 q2 q3 b4 al17;obtain⟨W32,hW31,q30,al29⟩:=cA w23 (yoL 0 false false (.slice none 0 0) 0) 32;replace hW31:Hid _:=hW31;have hl33:w.heap.size≤w23.heap.size:=b28.size;have hl34:=q26.lt;have hl35:=q27.lt;have q36:=q25.l al29;have q37:=q26.l al29;have q38:=q27.l al29;have b39:=aa b28 al29;clear q25 q26 q27 b28 al29 q30
 go_upto_region 2 with fail
 rw[hW31.out];clear hW31;have c40:=q36.c 0 rfl;have c41:=q36.c 1 rfl;have c42:=q37.c 0 rfl;have c43:=q37.c 1 rfl
 go_wp2_with fail
 refine(HL.out _).mono ?_;rintro zz w44 ⟨v146,rfl,r147,bb45⟩;have q48:=q38.l bb45;have b49:=aa b39 bb45;obtain⟨so,sc,hv⟩:=r147.shape;subst hv;clear q36 q37 q38 b39 bb45 HL c40 c41 c42 c43;have hf:=dL (P:=Tryz.prog) q48 b49 (by omega) underlying32 rfl (by kernel_rfl) (yi c) (.bool false) (.bool false) (.slice so (Dg.dg 65536 0).length sc) (yi 0);have HH:Hid (_∧_∧_):=⟨hf.1,hf.2.2.rd r147 (mu r147 q48),hf.2.1⟩;obtain⟨⟨z0,z1,z2,z3,z4⟩,y0,y1,y2,y3,y4⟩:=dN q48;clear hf q48 r147 b49
 go_wp2
 obtain⟨hl,rRs,bR⟩:=HH.out;exact bodyPost_ret (aj results25 rfl rfl hl) rfl ⟨_,rfl,rRs,bR⟩
theorem abw (c:Int)(n wy:Int)(gx gy:Bool)(x y:ak)(xo yo:Option Addr)(xc yc:Nat)(w:World)(HO: ∀pb w1,au w1 pb 32 (yXL 1 gx x xo xc 3 gy y yo yc)→yC 58 #[yi n,.slice (some ⟨pb,0,none⟩) 2 2] w1 (yR w1 (.tuple #[yoV 0 false false (.slice none 0 0) 0,yi 0,.bool false])))
  (HL: ∀w1,yC 59 #[yi n] w1 (RVF w1 c false ⟨false,0,0⟩ 16)):
  yC 25 #[yi n,yEV 1 gx x xo xc,yEV 3 gy y yo yc,yi wy] w (RVF w c false ⟨false,0,0⟩ 16):=by
 replace HO:Hid _:=HO;replace HL:Hid _:=HL;obtain⟨W5,hW6,q1,q2,q3,b4⟩:=lG w (yEL 1 gx x xo xc) 32 (yEL 3 gy y yo yc) 32 (yoL 0 false false (.slice none 0 0) 0) 32;replace hW6:Hid _:=hW6
 go_enter func25,ntmps25
 go_upto_region 1 with fail
 rw[hW6.out];clear hW6;obtain⟨c7,c8,c9,c10,c11⟩:=q1.cs5;obtain⟨c12,c13,c14,c15,c16⟩:=q2.cs5;have al17:=af W5 (.cells #[yi 1,.bool gx,.bool x.s,.slice xo (Dg.dg 65536 x.n).length xc,yi x.e,yi 3,.bool gy,.bool y.s,.slice yo (Dg.dg 65536 y.n).length yc,yi y.e] 32);have q18:=ah W5 (yXL 1 gx x xo xc 3 gy y yo yc) 32;have q19:=q1.l al17;have q20:=q2.l al17;have q21:=q3.l al17;have b22:=aa b4 al17
 go_wp2_with fail
 refine(HO.out _ _ q18).mono ?_;rintro zz w23 ⟨rfl,bb24⟩;have q25:=q19.l bb24;have q26:=q20.l bb24;have q27:=q21.l bb24;have b28:=aa b22 bb24;clear q19 q20 q21 q18 b22 bb24 HO c7 c8 c9 c10 c11 c12 c13 c14 c15 c16 q1 q2 q3 b4 al17;obtain⟨W32,hW31,q30,al29⟩:=cA w23 (yoL 0 false false (.slice none 0 0) 0) 32;replace hW31:Hid _:=hW31;have hl33:w.heap.size≤w23.heap.size:=b28.size;have hl34:=q26.lt;have hl35:=q27.lt;have q36:=q25.l al29;have q37:=q26.l al29;have q38:=q27.l al29;have b39:=aa b28 al29;clear q25 q26 q27 b28 al29 q30
 go_upto_region 2 with fail
 rw[hW31.out];clear hW31;have c40:=q36.c 0 rfl;have c41:=q36.c 1 rfl;have c42:=q37.c 0 rfl;have c43:=q37.c 1 rfl
 go_wp2_with fail
 refine(HL.out _).mono ?_;rintro zz w44 ⟨v146,rfl,r147,bb45⟩;have q48:=q38.l bb45;have b49:=aa b39 bb45;obtain⟨so,sc,hv⟩:=r147.shape;subst hv;clear q36 q37 q38 b39 bb45 HL c40 c41 c42 c43;have hf:=dL (P:=Tryz.prog) q48 b49 (by omega) underlying32 rfl (by kernel_rfl) (yi c) (.bool false) (.bool false) (.slice so (Dg.dg 65536 0).length sc) (yi 0);have HH:Hid (_∧_∧_):=⟨hf.1,hf.2.2.rd r147 (mu r147 q48),hf.2.1⟩;obtain⟨⟨z0,z1,z2,z3,z4⟩,y0,y1,y2,y3,y4⟩:=dN q48;clear hf q48 r147 b49
 go_wp2
 obtain⟨hl,rRs,bR⟩:=HH.out;exact bodyPost_ret (aj results25 rfl rfl hl) rfl ⟨_,rfl,rRs,bR⟩
theorem abx (cy:Int)(n wy:Int)(gx gy:Bool)(x y:ak)(xo yo:Option Addr)(xc yc:Nat)(w:World)(hy1:(cy==1)=false)(HO: ∀pb w1,au w1 pb 32 (yXL 3 gx x xo xc cy gy y yo yc)→yC 58 #[yi n,.slice (some ⟨pb,0,none⟩) 2 2] w1 (yR w1 (.tuple #[yoV 0 false false (.slice none 0 0) 0,yi 0,.bool false]))):
  yC 25 #[yi n,yEV 3 gx x xo xc,yEV cy gy y yo yc,yi wy] w (RVF w 3 (gx != gy) ⟨false,0,0⟩ 0):=by
 replace HO:Hid _:=HO;obtain⟨W5,hW6,q1,q2,q3,b4⟩:=lG w (yEL 3 gx x xo xc) 32 (yEL cy gy y yo yc) 32 (yoL 0 false false (.slice none 0 0) 0) 32;replace hW6:Hid _:=hW6
 go_enter func25,ntmps25
 go_upto_region 1 with fail
 rw[hW6.out];clear hW6;obtain⟨c7,c8,c9,c10,c11⟩:=q1.cs5;obtain⟨c12,c13,c14,c15,c16⟩:=q2.cs5;have al17:=af W5 (.cells #[yi 3,.bool gx,.bool x.s,.slice xo (Dg.dg 65536 x.n).length xc,yi x.e,yi cy,.bool gy,.bool y.s,.slice yo (Dg.dg 65536 y.n).length yc,yi y.e] 32);have q18:=ah W5 (yXL 3 gx x xo xc cy gy y yo yc) 32;have q19:=q1.l al17;have q20:=q2.l al17;have q21:=q3.l al17;have b22:=aa b4 al17
 go_wp2_with fail
 refine(HO.out _ _ q18).mono ?_;rintro zz w23 ⟨rfl,bb24⟩;have q25:=q19.l bb24;have q26:=q20.l bb24;have q27:=q21.l bb24;have b28:=aa b22 bb24;clear q19 q20 q21 q18 b22 bb24 HO c7 c8 c9 c10 c11 c12 c13 c14 c15 c16 q1 q2 q3 b4 al17;obtain⟨W32,hW31,q30,al29⟩:=cA w23 (yoL 0 false false (.slice none 0 0) 0) 32;replace hW31:Hid _:=hW31;have hl33:w.heap.size≤w23.heap.size:=b28.size;have hl34:=q26.lt;have hl35:=q27.lt;have q36:=q25.l al29;have q37:=q26.l al29;have q38:=q27.l al29;have b39:=aa b28 al29;clear q25 q26 q27 b28 al29 q30
 go_upto_region 2 with fail
 rw[hW31.out];clear hW31;have c40:=q36.c 0 rfl;have c41:=q36.c 1 rfl;have c42:=q37.c 0 rfl;have c43:=q37.c 1 rfl;have hf:=dL (P:=Tryz.prog) q38 b39 (by omega) underlying32 rfl (by kernel_rfl) (yi 3) (.bool (gx != gy)) (.bool false) (.slice none 0 0) (yi 0);have HH:Hid (_∧_):=⟨hf.1,hf.2.1⟩;obtain⟨⟨z0,z1,z2,z3,z4⟩,y0,y1,y2,y3,y4⟩:=dN q38;clear hf q36 q37 q38 b39
 go_wp2
 obtain⟨hl,bR⟩:=HH.out;exact bodyPost_ret (aj results25 rfl rfl hl) rfl ⟨_,rfl,aN _ _,bR⟩
theorem aby (cx:Int)(n wy:Int)(gx gy:Bool)(x y:ak)(xo yo:Option Addr)(xc yc:Nat)(w:World)(hx3:(cx==3)=false)(hx1:(cx==1)=false)(HO: ∀pb w1,au w1 pb 32 (yXL cx gx x xo xc 3 gy y yo yc)→yC 58 #[yi n,.slice (some ⟨pb,0,none⟩) 2 2] w1 (yR w1 (.tuple #[yoV 0 false false (.slice none 0 0) 0,yi 0,.bool false]))):
  yC 25 #[yi n,yEV cx gx x xo xc,yEV 3 gy y yo yc,yi wy] w (RVF w 3 (gx != gy) ⟨false,0,0⟩ 0):=by
 replace HO:Hid _:=HO;obtain⟨W5,hW6,q1,q2,q3,b4⟩:=lG w (yEL cx gx x xo xc) 32 (yEL 3 gy y yo yc) 32 (yoL 0 false false (.slice none 0 0) 0) 32;replace hW6:Hid _:=hW6
 go_enter func25,ntmps25
 go_upto_region 1 with fail
 rw[hW6.out];clear hW6;obtain⟨c7,c8,c9,c10,c11⟩:=q1.cs5;obtain⟨c12,c13,c14,c15,c16⟩:=q2.cs5;have al17:=af W5 (.cells #[yi cx,.bool gx,.bool x.s,.slice xo (Dg.dg 65536 x.n).length xc,yi x.e,yi 3,.bool gy,.bool y.s,.slice yo (Dg.dg 65536 y.n).length yc,yi y.e] 32);have q18:=ah W5 (yXL cx gx x xo xc 3 gy y yo yc) 32;have q19:=q1.l al17;have q20:=q2.l al17;have q21:=q3.l al17;have b22:=aa b4 al17
 go_wp2_with fail
 refine(HO.out _ _ q18).mono ?_;rintro zz w23 ⟨rfl,bb24⟩;have q25:=q19.l bb24;have q26:=q20.l bb24;have q27:=q21.l bb24;have b28:=aa b22 bb24;clear q19 q20 q21 q18 b22 bb24 HO c7 c8 c9 c10 c11 c12 c13 c14 c15 c16 q1 q2 q3 b4 al17;obtain⟨W32,hW31,q30,al29⟩:=cA w23 (yoL 0 false false (.slice none 0 0) 0) 32;replace hW31:Hid _:=hW31;have hl33:w.heap.size≤w23.heap.size:=b28.size;have hl34:=q26.lt;have hl35:=q27.lt;have q36:=q25.l al29;have q37:=q26.l al29;have q38:=q27.l al29;have b39:=aa b28 al29;clear q25 q26 q27 b28 al29 q30
 go_upto_region 2 with fail
 rw[hW31.out];clear hW31;have c40:=q36.c 0 rfl;have c41:=q36.c 1 rfl;have c42:=q37.c 0 rfl;have c43:=q37.c 1 rfl;have hf:=dL (P:=Tryz.prog) q38 b39 (by omega) underlying32 rfl (by kernel_rfl) (yi 3) (.bool (gx != gy)) (.bool false) (.slice none 0 0) (yi 0);have HH:Hid (_∧_):=⟨hf.1,hf.2.1⟩;obtain⟨⟨z0,z1,z2,z3,z4⟩,y0,y1,y2,y3,y4⟩:=dN q38;clear hf q36 q37 q38 b39
 go_wp2
 obtain⟨hl,bR⟩:=HH.out;exact bodyPost_ret (aj results25 rfl rfl hl) rfl ⟨_,rfl,aN _ _,bR⟩
theorem abz (cy:Int)(zg:Bool)(n wy:Int)(gx gy:Bool)(x y:ak)(xo yo:Option Addr)(xc yc:Nat)(w:World)(hy3:(cy==3)=false)(HO: ∀pb w1,au w1 pb 32 (yXL 1 gx x xo xc cy gy y yo yc)→yC 58 #[yi n,.slice (some ⟨pb,0,none⟩) 2 2] w1 (yR w1 (.tuple #[yoV 0 false false (.slice none 0 0) 0,yi 0,.bool false])))
  (HZ:yJ 38 #[yi n,.bool (gx != gy)] (yoV 1 zg false (.slice none 0 0) 0)):
  yC 25 #[yi n,yEV 1 gx x xo xc,yEV cy gy y yo yc,yi wy] w (RVF w 1 zg ⟨false,0,0⟩ 0):=by
 replace HO:Hid _:=HO;replace HZ:Hid _:=HZ;obtain⟨W5,hW6,q1,q2,q3,b4⟩:=lG w (yEL 1 gx x xo xc) 32 (yEL cy gy y yo yc) 32 (yoL 0 false false (.slice none 0 0) 0) 32;replace hW6:Hid _:=hW6
 go_enter func25,ntmps25
 go_upto_region 1 with fail
 rw[hW6.out];clear hW6;obtain⟨c7,c8,c9,c10,c11⟩:=q1.cs5;obtain⟨c12,c13,c14,c15,c16⟩:=q2.cs5;have al17:=af W5 (.cells #[yi 1,.bool gx,.bool x.s,.slice xo (Dg.dg 65536 x.n).length xc,yi x.e,yi cy,.bool gy,.bool y.s,.slice yo (Dg.dg 65536 y.n).length yc,yi y.e] 32);have q18:=ah W5 (yXL 1 gx x xo xc cy gy y yo yc) 32;have q19:=q1.l al17;have q20:=q2.l al17;have q21:=q3.l al17;have b22:=aa b4 al17
 go_wp2_with fail
 refine(HO.out _ _ q18).mono ?_;rintro zz w23 ⟨rfl,bb24⟩;have q25:=q19.l bb24;have q26:=q20.l bb24;have q27:=q21.l bb24;have b28:=aa b22 bb24;clear q19 q20 q21 q18 b22 bb24 HO c7 c8 c9 c10 c11 c12 c13 c14 c15 c16 q1 q2 q3 b4 al17;obtain⟨W32,hW31,q30,al29⟩:=cA w23 (yoL 0 false false (.slice none 0 0) 0) 32;replace hW31:Hid _:=hW31;have hl33:w.heap.size≤w23.heap.size:=b28.size;have hl34:=q26.lt;have hl35:=q27.lt;have q36:=q25.l al29;have q37:=q26.l al29;have q38:=q27.l al29;have b39:=aa b28 al29;clear q25 q26 q27 b28 al29 q30
 go_upto_region 2 with fail
 rw[hW31.out];clear hW31;have c40:=q36.c 0 rfl;have c41:=q36.c 1 rfl;have c42:=q37.c 0 rfl;have c43:=q37.c 1 rfl
 go_wp2_with fail
 refine(HZ.out _).mono ?_;rintro zz w44 ⟨rfl,bb45⟩;have q46:=q38.l bb45;have b47:=aa b39 bb45;clear q36 q37 q38 b39 bb45 HZ c40 c41 c42 c43;have hf:=dL (P:=Tryz.prog) q46 b47 (by omega) underlying32 rfl (by kernel_rfl) (yi 1) (.bool zg) (.bool false) (.slice none 0 0) (yi 0);have HH:Hid (_∧_):=⟨hf.1,hf.2.1⟩;obtain⟨⟨z0,z1,z2,z3,z4⟩,y0,y1,y2,y3,y4⟩:=dN q46;clear hf q46 b47
 go_wp2
 obtain⟨hl,bR⟩:=HH.out;exact bodyPost_ret (aj results25 rfl rfl hl) rfl ⟨_,rfl,aN _ _,bR⟩
theorem abA (cx:Int)(zg:Bool)(n wy:Int)(gx gy:Bool)(x y:ak)(xo yo:Option Addr)(xc yc:Nat)(w:World)(hx3:(cx==3)=false)(hx1:(cx==1)=false)(HO: ∀pb w1,au w1 pb 32 (yXL cx gx x xo xc 1 gy y yo yc)→yC 58 #[yi n,.slice (some ⟨pb,0,none⟩) 2 2] w1 (yR w1 (.tuple #[yoV 0 false false (.slice none 0 0) 0,yi 0,.bool false])))
  (HZ:yJ 38 #[yi n,.bool (gx != gy)] (yoV 1 zg false (.slice none 0 0) 0)):
  yC 25 #[yi n,yEV cx gx x xo xc,yEV 1 gy y yo yc,yi wy] w (RVF w 1 zg ⟨false,0,0⟩ 0):=by
 replace HO:Hid _:=HO;replace HZ:Hid _:=HZ;obtain⟨W5,hW6,q1,q2,q3,b4⟩:=lG w (yEL cx gx x xo xc) 32 (yEL 1 gy y yo yc) 32 (yoL 0 false false (.slice none 0 0) 0) 32;replace hW6:Hid _:=hW6
 go_enter func25,ntmps25
 go_upto_region 1 with fail
 rw[hW6.out];clear hW6;obtain⟨c7,c8,c9,c10,c11⟩:=q1.cs5;obtain⟨c12,c13,c14,c15,c16⟩:=q2.cs5;have al17:=af W5 (.cells #[yi cx,.bool gx,.bool x.s,.slice xo (Dg.dg 65536 x.n).length xc,yi x.e,yi 1,.bool gy,.bool y.s,.slice yo (Dg.dg 65536 y.n).length yc,yi y.e] 32);have q18:=ah W5 (yXL cx gx x xo xc 1 gy y yo yc) 32;have q19:=q1.l al17;have q20:=q2.l al17;have q21:=q3.l al17;have b22:=aa b4 al17
 go_wp2_with fail
 refine(HO.out _ _ q18).mono ?_;rintro zz w23 ⟨rfl,bb24⟩;have q25:=q19.l bb24;have q26:=q20.l bb24;have q27:=q21.l bb24;have b28:=aa b22 bb24;clear q19 q20 q21 q18 b22 bb24 HO c7 c8 c9 c10 c11 c12 c13 c14 c15 c16 q1 q2 q3 b4 al17;obtain⟨W32,hW31,q30,al29⟩:=cA w23 (yoL 0 false false (.slice none 0 0) 0) 32;replace hW31:Hid _:=hW31;have hl33:w.heap.size≤w23.heap.size:=b28.size;have hl34:=q26.lt;have hl35:=q27.lt;have q36:=q25.l al29;have q37:=q26.l al29;have q38:=q27.l al29;have b39:=aa b28 al29;clear q25 q26 q27 b28 al29 q30
 go_upto_region 2 with fail
 rw[hW31.out];clear hW31;have c40:=q36.c 0 rfl;have c41:=q36.c 1 rfl;have c42:=q37.c 0 rfl;have c43:=q37.c 1 rfl
 go_wp2_with fail
 refine(HZ.out _).mono ?_;rintro zz w44 ⟨rfl,bb45⟩;have q46:=q38.l bb45;have b47:=aa b39 bb45;clear q36 q37 q38 b39 bb45 HZ c40 c41 c42 c43;have hf:=dL (P:=Tryz.prog) q46 b47 (by omega) underlying32 rfl (by kernel_rfl) (yi 1) (.bool zg) (.bool false) (.slice none 0 0) (yi 0);have HH:Hid (_∧_):=⟨hf.1,hf.2.1⟩;obtain⟨⟨z0,z1,z2,z3,z4⟩,y0,y1,y2,y3,y4⟩:=dN q46;clear hf q46 b47
 go_wp2
 obtain⟨hl,bR⟩:=HH.out;exact bodyPost_ret (aj results25 rfl rfl hl) rfl ⟨_,rfl,aN _ _,bR⟩
theorem abB (cx cy c fl:Int)(g:Bool)(t u:ak)(n wy:Int)(gx gy:Bool)(x y:ak)(xo yo:Option Addr)(xc yc:Nat)(w:World)(hx3:(cx==3)=false)(hy3:(cy==3)=false)(hx1:(cx==1)=false)(hy1:(cy==1)=false)(HO: ∀pb w1,au w1 pb 32 (yXL cx gx x xo xc cy gy y yo yc)→yC 58 #[yi n,.slice (some ⟨pb,0,none⟩) 2 2] w1 (yR w1 (.tuple #[yoV 0 false false (.slice none 0 0) 0,yi 0,.bool false])))
  (HT: ∀w1,yB w w1→yC 67 #[yMV x xo xc,yMV y yo yc] w1 (dr w1 u))
  (HD: ∀uo uc w1,yB w w1→Rd w1 .i64 (.slice uo (Dg.dg 65536 u.n).length uc) (Dg.dg 65536 u.n)→yC 66 #[yi n,yMV u uo uc,yi wy] w1 (RVF w1 c g t fl)):
  yC 25 #[yi n,yEV cx gx x xo xc,yEV cy gy y yo yc,yi wy] w (RVF w c g t fl):=by
 replace HO:Hid _:=HO;replace HT:Hid _:=HT;replace HD:Hid _:=HD;obtain⟨W5,hW6,q1,q2,q3,b4⟩:=lG w (yEL cx gx x xo xc) 32 (yEL cy gy y yo yc) 32 (yoL 0 false false (.slice none 0 0) 0) 32;replace hW6:Hid _:=hW6
 go_enter func25,ntmps25
 go_upto_region 1 with fail
 rw[hW6.out];clear hW6;obtain⟨c7,c8,c9,c10,c11⟩:=q1.cs5;obtain⟨c12,c13,c14,c15,c16⟩:=q2.cs5;have al17:=af W5 (.cells #[yi cx,.bool gx,.bool x.s,.slice xo (Dg.dg 65536 x.n).length xc,yi x.e,yi cy,.bool gy,.bool y.s,.slice yo (Dg.dg 65536 y.n).length yc,yi y.e] 32);have q18:=ah W5 (yXL cx gx x xo xc cy gy y yo yc) 32;have q19:=q1.l al17;have q20:=q2.l al17;have q21:=q3.l al17;have b22:=aa b4 al17
 go_wp2_with fail
 refine(HO.out _ _ q18).mono ?_;rintro zz w23 ⟨rfl,bb24⟩;have q25:=q19.l bb24;have q26:=q20.l bb24;have q27:=q21.l bb24;have b28:=aa b22 bb24;clear q19 q20 q21 q18 b22 bb24 HO c7 c8 c9 c10 c11 c12 c13 c14 c15 c16 q1 q2 q3 b4 al17;obtain⟨W32,hW31,q30,al29⟩:=cA w23 (yoL 0 false false (.slice none 0 0) 0) 32;replace hW31:Hid _:=hW31;have hl33:w.heap.size≤w23.heap.size:=b28.size;have hl34:=q26.lt;have hl35:=q27.lt;have q36:=q25.l al29;have q37:=q26.l al29;have q38:=q27.l al29;have b39:=aa b28 al29;clear q25 q26 q27 b28 al29 q30
 go_upto_region 2 with fail
 rw[hW31.out];clear hW31;obtain⟨c40,c41,c42,c43,c44⟩:=q36.cs5;obtain⟨c45,c46,c47,c48,c49⟩:=q37.cs5
 go_wp2_with fail
 refine(HT.out _ b39).mono ?_;rintro zz w50 ⟨v152,rfl,r153,bb51⟩;have q54:=q38.l bb51;have b55:=aa b39 bb51;obtain⟨uo,uc,hv⟩:=r153.shape;subst hv;clear q36 q37 q38 b39 bb51 HT c40 c41 c42 c43 c44 c45 c46 c47 c48 c49
 go_wp2_with fail
 refine(HD.out _ _ _ b55 r153).mono ?_;rintro zz w56 ⟨v158,rfl,r159,bb57⟩;have q60:=q54.l bb57;have r61:=r153.l bb57;have b62:=aa b55 bb57;obtain⟨so,sc,hv⟩:=r159.shape;subst hv;clear q54 r153 b55 bb57 HD;have hf:=dL (P:=Tryz.prog) q60 b62 (by omega) underlying32 rfl (by kernel_rfl) (yi c) (.bool g) (.bool t.s) (.slice so (Dg.dg 65536 t.n).length sc) (yi t.e);have HH:Hid (_∧_∧_):=⟨hf.1,hf.2.2.rd r159 (mu r159 q60),hf.2.1⟩;obtain⟨⟨z0,z1,z2,z3,z4⟩,y0,y1,y2,y3,y4⟩:=dN q60;clear hf q60 r61 r159 b62
 go_wp2
 obtain⟨hl,rRs,bR⟩:=HH.out;exact bodyPost_ret (aj results25 rfl rfl hl) rfl ⟨_,rfl,rRs,bR⟩
theorem aaz (e:Int)(n wy f1 e1:Int)(sa sb st:ByteArray)(w:World)(he:(e==0)=false)
  (HA:yH w 24 #[yi n,.string sa,.string sb,yi wy] (.tuple #[.string st,yi f1,yi e1]))
  (HO: ∀pb w1,au w1 pb 9 [.string sa,.string sb]→yC 18 #[yi n,yi wy,.slice (some ⟨pb,0,none⟩) 2 2] w1 (yR w1 (.tuple #[.slice none 0 0,yi e])))
  (HB:yH w 20 #[] (.bool true))
  (HI:yH w 21 #[yi n,.string st,yi f1,yi e1,yi e,yoV 0 false false (.slice none 0 0) 0,yi 0] (.bool true)):
  yC 5 #[yi n,.string sa,.string sb,yi wy] w (yR w (.bool true)):=by
 replace HA:Hid _:=HA;replace HO:Hid _:=HO;replace HB:Hid _:=HB;replace HI:Hid _:=HI
 go_enter func5,ntmps5
 have b0:=Below.refl w.heap.size w
 go_wp2_with fail
 refine(HA.out _ b0).mono ?_;rintro zz w1 ⟨rfl,bb2⟩;have b3:=aa b0 bb2;clear b0 bb2 HA;have al4:=af w1 (.cells #[.string sa,.string sb] 9);have q5:=ah w1 [.string sa,.string sb] 9;have b6:=aa b3 al4
 go_wp2_with fail
 refine(HO.out _ _ q5).mono ?_;rintro zz w7 ⟨rfl,bb8⟩;have b9:=aa b6 bb8;clear q5 b6 bb8 HO b3 al4;obtain⟨W13,hW12,q11,al10⟩:=cA w7 (yoL 0 false false (.slice none 0 0) 0) 32;replace hW12:Hid _:=hW12;have hl14:w.heap.size≤w7.heap.size:=b9.size;have b15:=aa b9 al10;clear b9 al10
 go_upto_region 4 with fail
 rw[hW12.out];clear hW12
 go_wp2_with fail
 refine(HB.out _ b15).mono ?_;rintro zz w16 ⟨rfl,bb17⟩;have q18:=q11.l bb17;have b19:=aa b15 bb17;clear q11 b15 bb17 HB;obtain⟨c20,c21,c22,c23,c24⟩:=q18.cs5
 go_wp2_with fail
 refine(HI.out _ b19).mono ?_;rintro zz w25 ⟨rfl,bb26⟩;have b27:=aa b19 bb26;clear q18 b19 bb26 HI c20 c21 c22 c23 c24
 go_wp2
 go_ret
 exact⟨by simp,b27⟩
theorem ab2 (cx cy c fl:Int)(gx gy g:Bool)(x y t:ak)(n wy f1 e1:Int)(sa sb st:ByteArray)(w:World)
  (HA:yH w 24 #[yi n,.string sa,.string sb,yi wy] (.tuple #[.string st,yi f1,yi e1]))
  (HO: ∀pb w1,au w1 pb 9 [.string sa,.string sb]→yC 18 #[yi n,yi wy,.slice (some ⟨pb,0,none⟩) 2 2] w1 fun zz w'=> ∃gb cap xo xc yo yc,zz= .returned (.tuple #[.slice (some ⟨gb,0,none⟩) 2 cap,yi 0])∧w'.rangeAt gb 0 (yEL cx gx x xo xc)∧w'.rangeAt gb 5 (yEL cy gy y yo yc)∧Rd w' .i64 (.slice xo (Dg.dg 65536 x.n).length xc) (Dg.dg 65536 x.n)∧Rd w' .i64 (.slice yo (Dg.dg 65536 y.n).length yc) (Dg.dg 65536 y.n)∧yB w1 w')
  (HR: ∀xo xc yo yc w1,yB w w1→Rd w1 .i64 (.slice xo (Dg.dg 65536 x.n).length xc) (Dg.dg 65536 x.n)→Rd w1 .i64 (.slice yo (Dg.dg 65536 y.n).length yc) (Dg.dg 65536 y.n)→yC 25 #[yi n,yEV cx gx x xo xc,yEV cy gy y yo yc,yi wy] w1 (RVF w1 c g t fl))
  (HB:yH w 20 #[] (.bool true))
  (HI: ∀so sc w1,yB w w1→Rd w1 .i64 (.slice so (Dg.dg 65536 t.n).length sc) (Dg.dg 65536 t.n)→yC 21 #[yi n,.string st,yi f1,yi e1,yi 0,yEV c g t so sc,yi fl] w1 (yR w1 (.bool true))):
  yC 5 #[yi n,.string sa,.string sb,yi wy] w (yR w (.bool true)):=by
 replace HA:Hid _:=HA;replace HO:Hid _:=HO;replace HR:Hid _:=HR;replace HB:Hid _:=HB;replace HI:Hid _:=HI
 go_enter func5,ntmps5
 have b0:=Below.refl w.heap.size w
 go_wp2_with fail
 refine(HA.out _ b0).mono ?_;rintro zz w1 ⟨rfl,bb2⟩;have b3:=aa b0 bb2;clear b0 bb2 HA;have al4:=af w1 (.cells #[.string sa,.string sb] 9);have q5:=ah w1 [.string sa,.string sb] 9;have b6:=aa b3 al4
 go_wp2_with fail
 refine(HO.out _ _ q5).mono ?_;rintro zz w7 ⟨gb,cap,xo,xc,yo,yc,rfl,h0,h1,rx9,ry10,bb8⟩;have b11:=aa b6 bb8;clear q5 b6 bb8 HO b3 al4;obtain⟨W15,hW14,q13,al12⟩:=cA w7 (yoL 0 false false (.slice none 0 0) 0) 32;replace hW14:Hid _:=hW14;have hl16:w.heap.size≤w7.heap.size:=b11.size;have hl17:=World.block_lt_of_cell? _ _ (h0 0 _ rfl);have q18:=aC h0 al12;have q19:=aC h1 al12;have r20:=rx9.l al12;have r21:=ry10.l al12;have b22:=aa b11 al12;clear h0 h1 rx9 ry10 b11 al12
 go_upto_region 4 with fail
 rw[hW14.out];clear hW14
 go_upto_region 6 with fail
 have bW23:yB W15 W15.drew:=(Below.refl _ _).drew;have q24:=aC q18 bW23;have q25:=aC q19 bW23;have q26:=q13.l bW23;have r27:=r20.l bW23;have r28:=r21.l bW23;have b29:=aa b22 bW23;clear q18 q19 q13 r20 r21 b22 bW23;refine wp_region_held_drew (S:=fun wq=>wq.rangeAt gb 0 (yEL cx gx x xo xc)∧wq.rangeAt gb 5 (yEL cy gy y yo yc)) (by kernel_rfl) ⟨q24,q25⟩ (fun hS0=> ?_)
 generalize W15.drew=WD30 at q24 q25 q26 r27 r28 b29 hS0⊢;refine tk 0 (yi n) rfl (by kernel_rfl) (fun _ _ _ h=>h) (fun _ _=>by kernel_rfl) hS0 ?_
 refine tk 1 (.slice (some ⟨gb,0,none⟩) 2 cap) rfl (by kernel_rfl) (fun _ _ _ h=>h) (fun _ _=>by kernel_rfl) hS0 ?_
 refine tk 2 (.pointer (some ⟨gb,0,none⟩)) rfl (by kernel_rfl) (fun _ _ _ h=>h) (fun _ _=>by kernel_rfl) hS0 ?_
 refine tk 3 (yEV cx gx x xo xc) rfl (by kernel_rfl) (fun _ _ _ h=>h) (fun _ hw0=>fy 32 (.tmp 39) rfl gb 0 (by kernel_rfl) _ _ hw0.1 underlying32 rfl (by kernel_rfl)) hS0 ?_
 refine tk 4 (.slice (some ⟨gb,0,none⟩) 2 cap) rfl (by kernel_rfl) (fun _ _ _ h=>h) (fun _ _=>by kernel_rfl) hS0 ?_
 refine tk 5 (.pointer (some ⟨gb,5,none⟩)) rfl (by kernel_rfl) (fun _ _ _ h=>h) (fun _ _=>by kernel_rfl) hS0 ?_
 refine tk 6 (yEV cy gy y yo yc) rfl (by kernel_rfl) (fun _ _ _ h=>h) (fun _ hw0=>fy 32 (.tmp 42) rfl gb 5 (by kernel_rfl) _ _ hw0.2 underlying32 rfl (by kernel_rfl)) hS0 ?_
 refine tk 7 (yi wy) rfl (by kernel_rfl) (fun _ _ _ h=>h) (fun _ _=>by kernel_rfl) hS0 ?_
 refine wpAnyH_ready (rs:=[8]) (by kernel_rfl) (by simp) ?_;refine AllReadyH.cons rfl (fun K hK=> ?_) AllReadyH.nil
 go_simp
 refine(HR.out _ _ _ _ _ b29 r27 r28).mono ?_;rintro zz w31 ⟨v133,rfl,r134,bb32⟩;have q35:=aC q24 bb32;have q36:=aC q25 bb32;have q37:=q26.l bb32;have b38:=aa b29 bb32;obtain⟨so,sc,hv⟩:=r134.shape;subst hv;clear q24 q25 q26 r27 r28 b29 bb32 HR;refine hK.out _ _ ⟨q35,q36⟩ (fun hS39=> ?_)
 clear hK K;refine tk 9 (.tuple #[yEV c g t so sc,yi fl]) rfl (by kernel_rfl) (fun _ _ _ h=>h) (fun _ _=>by kernel_rfl) hS39 ?_
 refine tk 10 (yEV c g t so sc) rfl (by kernel_rfl) (fun _ _ _ h=>h) (fun _ _=>by go_simp) hS39 ?_
 refine tk 11 (yi fl) rfl (by kernel_rfl) (fun _ _ _ h=>h) (fun _ _=>by go_simp) hS39 ?_
 refine wpAnyH_ready (rs:=[12]) (by kernel_rfl) (by simp) ?_;refine AllReadyH.cons rfl (fun K hK=> ?_) AllReadyH.nil
 have bu:But w7.heap.size w31 (w31.setCells w7.heap.size 0 (yEL c g t so sc)):=de _ _ _ _;have hth:w31.there w7.heap.size 0 5:=dD q37;have q40:au (w31.setCells w7.heap.size 0 (yEL c g t so sc)) w7.heap.size 32 (yEL c g t so sc):=q37.sets _ rfl;have r41:=bu.rd r134 (mu r134 q37);have q42:=dZ bu q35 (by omega);have q43:=dZ bu q36 (by omega);have b44:=bu.below b38 (by omega);rw[if_pos (by kernel_rfl)];refine wp_store_mid 32 (.tmp 14) (.tmp 46) rfl w7.heap.size 0 (yEA c g t so sc) (by kernel_rfl) (by kernel_rfl) hth (by kernel_rfl) (by simp[Value.oneCell']) ?_;refine hK.out _ _ ⟨q42,q43⟩ (fun hS45=> ?_)
 clear hK K;clear q37 r134 q35 q36 b38 bu hth;refine tk 13 (yi fl) rfl (by kernel_rfl) (fun _ _ _ h=>h) (fun _ _=>by kernel_rfl) hS45 ?_
 refine wpAnyH_done (by kernel_rfl) ?_ _;clear hS0 hS39 hS45;change Exit.then _ _ _ _ (World.setCells w31 w7.heap.size 0 (yEL c g t so sc));generalize World.setCells w31 w7.heap.size 0 (yEL c g t so sc)=W46 at q42 q43 q40 r41 b44⊢;simp only[Act.put,List.getElem_toArray,List.getElem_cons_succ,List.getElem_cons_zero,List.setIfInBounds_toArray,List.set_cons_zero,List.set_cons_succ]
 go_wp2_with fail
 refine(HB.out _ b44).mono ?_;rintro zz w47 ⟨rfl,bb48⟩;have q49:=q40.l bb48;have r50:=r41.l bb48;have b51:=aa b44 bb48;clear q42 q43 q40 r41 b44 bb48 HB;obtain⟨c52,c53,c54,c55,c56⟩:=q49.cs5
 go_wp2_with fail
 refine(HI.out _ _ _ b51 r50).mono ?_;rintro zz w57 ⟨rfl,bb58⟩;have b59:=aa b51 bb58;clear q49 r50 b51 bb58 HI c52 c53 c54 c55 c56
 go_wp2
 go_ret
 exact⟨by simp,b59⟩
end Go.Proofs.YtnhackdjplppjaaGreatDoor
