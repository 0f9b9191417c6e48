/-
  Texts laid together: Dz, Ab3, Dy6, Dk1, Cr11, Eg2, Eg3, Eb3, Aw0, Gb6, Gb7, Pa3, Pa4, Oa0, Ra1, Oq5, Du2.
-/
import Derived.Test.YtnhackdjplppjaaGreatDoorChecked
import Derived.Test.YtnhackdjplppjaaGreatDoorSh44
import Derived.Test.YtnhackdjplppjaaGreatDoorSh48
set_option maxRecDepth 100000
set_option maxHeartbeats 3200000
namespace Go.Proofs.YtnhackdjplppjaaGreatDoor
open _root_.Go.Proofs.Tryz
def dV (a:ak):ak:=⟨!a.s,a.n,a.e⟩
open Go.RowKit
abbrev yEL (c:Int)(g:Bool)(t:ak)(o:Option Addr)(k:Nat):List Value:=[.int .i64 c,.bool g,.bool t.s,.slice o (Dg.dg 65536 t.n).length k,.int .i64 t.e]
abbrev yEV (c:Int)(g:Bool)(t:ak)(o:Option Addr)(k:Nat):Value:= .agg #[.int .i64 c,.bool g,.bool t.s,.slice o (Dg.dg 65536 t.n).length k,.int .i64 t.e]
abbrev yEA (c:Int)(g:Bool)(t:ak)(o:Option Addr)(k:Nat):Array Value:= #[.int .i64 c,.bool g,.bool t.s,.slice o (Dg.dg 65536 t.n).length k,.int .i64 t.e]
abbrev yML (t:ak)(o:Option Addr)(k:Nat):List Value:=[.bool t.s,.slice o (Dg.dg 65536 t.n).length k,.int .i64 t.e]
abbrev yMV (t:ak)(o:Option Addr)(k:Nat):Value:= .agg #[.bool t.s,.slice o (Dg.dg 65536 t.n).length k,.int .i64 t.e]
abbrev yMA (t:ak)(o:Option Addr)(k:Nat):Array Value:= #[.bool t.s,.slice o (Dg.dg 65536 t.n).length k,.int .i64 t.e]
abbrev yXL (c:Int)(g:Bool)(t:ak)(o:Option Addr)(k:Nat)(d:Int)(h:Bool)(s:ak)(p:Option Addr)(m:Nat):List Value:=[.int .i64 c,.bool g,.bool t.s,.slice o (Dg.dg 65536 t.n).length k,.int .i64 t.e,.int .i64 d,.bool h,.bool s.s,.slice p (Dg.dg 65536 s.n).length m,.int .i64 s.e]
theorem ju (w:World)(a0 a1 a2 b0 b1 b2 c0 c1 c2:Value)(ta tb tc:TypeId):
  Loc (((w.alloc (.cells #[a0,a1,a2] ta)).alloc (.cells #[b0,b1,b2] tb)).alloc (.cells #[c0,c1,c2] tc)) w.heap.size a0 a1 a2∧
  Loc (((w.alloc (.cells #[a0,a1,a2] ta)).alloc (.cells #[b0,b1,b2] tb)).alloc (.cells #[c0,c1,c2] tc)) (w.heap.size+1) b0 b1 b2∧
  Loc (((w.alloc (.cells #[a0,a1,a2] ta)).alloc (.cells #[b0,b1,b2] tb)).alloc (.cells #[c0,c1,c2] tc)) (w.heap.size+1+1) c0 c1 c2∧
  yB w (((w.alloc (.cells #[a0,a1,a2] ta)).alloc (.cells #[b0,b1,b2] tb)).alloc (.cells #[c0,c1,c2] tc))∧
  (((w.alloc (.cells #[a0,a1,a2] ta)).alloc (.cells #[b0,b1,b2] tb)).alloc (.cells #[c0,c1,c2] tc)).heap.size=w.heap.size+1+1+1:=by
 have la:=aA w a0 a1 a2 ta;have lb:=aA (w.alloc (.cells #[a0,a1,a2] ta)) b0 b1 b2 tb;have lc:=aA ((w.alloc (.cells #[a0,a1,a2] ta)).alloc (.cells #[b0,b1,b2] tb)) c0 c1 c2 tc;have bB:=af (w.alloc (.cells #[a0,a1,a2] ta)) (.cells #[b0,b1,b2] tb);have bC:=af ((w.alloc (.cells #[a0,a1,a2] ta)).alloc (.cells #[b0,b1,b2] tb)) (.cells #[c0,c1,c2] tc);refine⟨(la.l bB).l bC, ?_, ?_,aa (aa (af w _) bB) bC,by simp[World.size_alloc]⟩
 ·have:=lb.l bC
  rwa [World.size_alloc] at this
 ·rwa [World.size_alloc,World.size_alloc] at lc
theorem gf {a L:Nat}(h:(Dg.dg 4294967296 a).length≤L):bitLen a≤32*L:=by
 refine bF a _ ?_;rw[Nat.pow_mul];have h1:=Dg.vl_lt 4294967296 _ (Dg.small_dg 4294967296 a (by omega));rw[Dg.vl_dg _ _ (by omega)] at h1;exact Nat.lt_of_lt_of_le h1 (Nat.pow_le_pow_right (by omega) h)
theorem Nu {k:Nat}(hk:1≤k∧k≤8)(ng:Bool)(E F:Nat):zR k ng E F=kt k ng E F:=by
 unfold zR kt dh;have ho:kp k=2^exN k-1:=rfl;have h1:2≤2^exN k:=by
  have h7:=(fZ hk).2.2.2.2.2;have:2^1≤2^exN k:=Nat.pow_le_pow_right (by omega) (by omega);omega
 by_cases h3:k=3
 ·have hd3:2^ (dgN k-1)=2^63:=by rw[h3];rfl
  rw[if_pos h3,if_pos (show k≤3 by omega),ho,hd3,if_pos h3]
  generalize(2:Nat)^exN k=px at*;generalize(2:Nat)^63=p63 at*
  by_cases e0:E=0
  ·rw[if_neg (show¬E+1=px by omega),if_neg (show¬(0<E∧F<p63) by omega),if_pos e0]
   split<;>simp
  ·rw[if_neg e0]
   by_cases e1:E+1=px
   ·rw[if_pos e1,if_pos (show E=px-1 by omega)]
    split<;>simp
   ·rw[if_neg e1,if_neg (show¬E=px-1 by omega)]
    by_cases ef:F<p63
    ·rw[if_pos (show 0<E∧F<p63 by omega),if_pos (show k=3∧F<p63 from⟨h3,ef⟩)]
     simp
    ·rw[if_neg (show¬(0<E∧F<p63) by omega),if_neg (show¬(k=3∧F<p63) from fun h=>ef h.2)]
     simp
 ·rw[if_neg h3]
  by_cases h2:k≤2
  ·rw[if_pos h2,if_pos (show k≤3 by omega),ho,if_neg h3]
   generalize(2:Nat)^exN k=px at*
   by_cases e0:E=0
   ·rw[if_neg (show¬E+1=px by omega),if_pos e0]
    split<;>simp
   ·rw[if_neg e0]
    by_cases e1:E+1=px
    ·rw[if_pos e1,if_pos (show E=px-1 by omega)]
     split<;>simp
    ·rw[if_neg e1,if_neg (show¬E=px-1 by omega),if_neg (show¬(k=3∧F<2^63) from fun h=>h3 h.1)]
     simp
  ·rw[if_neg h2,if_neg (show¬k≤3 by omega)]
   by_cases h5:k≤5
   ·rw[if_pos h5,if_pos h5]
    split<;>simp
   ·rw[if_neg h5,if_neg h5]
    by_cases e0:E=0
    ·rw[if_pos e0,if_pos e0]
     cases ng<;>simp
    ·rw[if_neg e0,if_neg e0]
     simp
theorem KN {xs:List Nat}{L:Nat}(sa:Dg.Small 4294967296 xs)(h:xs.length≤L):(Dg.dg 65536 (Dg.vl 4294967296 xs)).length≤2*L:=by
 refine Dg.dg_len_le 65536 _ _ (by omega) ?_;rw[Nat.pow_mul];exact Nat.lt_of_lt_of_le (Dg.vl_lt 4294967296 xs sa) (Nat.pow_le_pow_right (by omega) h)
theorem JN {xs:List Nat}(hc:chk xs=0)(hx:xs.length≠0):Dg.vl 4294967296 xs≠0:=fun h=>by
 obtain⟨n1,-⟩:=aF hc;exact Dg.vl_ne_zero 4294967296 (by omega) xs (by intro e;subst e;simp at hx) n1 h
theorem AW {k:Nat}{ng:Bool}{xs:List Nat}{p:Int}(hx:chk xs=0)(hl:xs.length≠0)(hp: ¬(p< -20000∨20000<p))(sa:Dg.Small 4294967296 xs)(hE:enE k ng xs p=0):
  (enN k ng xs p).1=bare ⟨ng,Dg.vl 4294967296 xs,(ai (rdN k:Int):Int)*p⟩∧(Dg.dg 65536 (bare ⟨ng,Dg.vl 4294967296 xs,(ai (rdN k:Int):Int)*p⟩).n).length≤20000∧ -79000≤(bare ⟨ng,Dg.vl 4294967296 xs,(ai (rdN k:Int):Int)*p⟩).e∧(bare ⟨ng,Dg.vl 4294967296 xs,(ai (rdN k:Int):Int)*p⟩).e≤200000:=by
 have h2:(enN k ng xs p).2=0:=by
  refine Decidable.byContradiction fun c=> ?_
  unfold enE at hE;rw[if_neg hp,if_neg hl,if_neg (fun h=>c h.1)] at hE
  omega
 have hr:=wI (show cC (ix xs p (rdN k:Int) (dgN k:Int) (lsI k) (gsI k)) ⟨ng,Dg.vl 4294967296 xs,(ai (rdN k:Int):Int)*p⟩=((enN k ng xs p).1,0) from Prod.ext rfl h2)
 have hd:=hr.2;rw[hr.1] at hd;obtain⟨-,e1,e2⟩:=bL hd;have hb:=AE (t:=⟨ng,Dg.vl 4294967296 xs,(ai (rdN k:Int):Int)*p⟩) (JN hx hl);have hl2:=KN sa (aF hx).2;refine⟨hr.1,Nat.le_trans hb.1 ?_,by omega,by omega⟩
 show(Dg.dg 65536 (Dg.vl 4294967296 xs)).length≤20000
 omega
theorem Oe {k:Nat}{ng:Bool}{xs ys:List Nat}{p q:Int}(sa:Dg.Small 4294967296 xs)(sb:Dg.Small 4294967296 ys)(hx:chk xs=0)(hy:chk ys=0)(h:enE k ng xs p=0)(h':enE k ng ys q=0)
  (hb:bare ⟨ng,Dg.vl 4294967296 ys,(ai (rdN k:Int):Int)*q⟩=bare ⟨ng,Dg.vl 4294967296 xs,(ai (rdN k:Int):Int)*p⟩):enS k ng ys q=enS k ng xs p:=by
 have key: ∀(zs:List Nat) (r:Int),enE k ng zs r=0→ ¬(r< -20000∨20000<r)∧zs.length≠0:=fun zs r hz=>by
  have hp: ¬(r< -20000∨20000<r):=fun c=>by
   unfold enE at hz;rw[if_pos c] at hz;omega
  refine⟨hp,fun c=> ?_⟩
  unfold enE at hz;rw[if_neg hp,if_pos c] at hz;omega
 obtain⟨a1,a2⟩:=key xs p h;obtain⟨b1,b2⟩:=key ys q h';unfold enS;rw[if_pos h,if_pos h',(AW (k:=k) (ng:=ng) hx a2 a1 sa h).1,(AW (k:=k) (ng:=ng) hy b2 b1 sb h').1,hb]
theorem lG (w:World)(c0:List Value)(t0:TypeId)(c1:List Value)(t1:TypeId)(c2:List Value)(t2:TypeId): ∃W,((w.alloc (.cells c0.toArray t0)).alloc (.cells c1.toArray t1)).alloc (.cells c2.toArray t2)=W∧au W w.heap.size t0 c0∧au W (w.heap.size+1) t1 c1∧au W (w.heap.size+1+1) t2 c2∧yB w W:=by
 obtain⟨W,rfl,h0,h1,b0⟩:=iG w c0 t0 c1 t1;have h2:=ah ((w.alloc (.cells c0.toArray t0)).alloc (.cells c1.toArray t1)) c2 t2;have b2:=af ((w.alloc (.cells c0.toArray t0)).alloc (.cells c1.toArray t1)) (.cells c2.toArray t2);rw[World.size_alloc,World.size_alloc] at h2;exact⟨_,rfl,h0.l b2,h1.l b2,h2,aa b0 b2⟩
theorem pi (w:World)(c0:List Value)(t0:TypeId)(c1:List Value)(t1:TypeId)(c2:List Value)(t2:TypeId)(c3:List Value)(t3:TypeId): ∃W,(((w.alloc (.cells c0.toArray t0)).alloc (.cells c1.toArray t1)).alloc (.cells c2.toArray t2)).alloc (.cells c3.toArray t3)=W∧au W w.heap.size t0 c0∧au W (w.heap.size+1) t1 c1∧au W (w.heap.size+1+1) t2 c2∧au W (w.heap.size+1+1+1) t3 c3∧yB w W:=by
 obtain⟨W,rfl,h0,h1,h2,b0⟩:=lG w c0 t0 c1 t1 c2 t2;have h3:=ah (((w.alloc (.cells c0.toArray t0)).alloc (.cells c1.toArray t1)).alloc (.cells c2.toArray t2)) c3 t3;have b3:=af (((w.alloc (.cells c0.toArray t0)).alloc (.cells c1.toArray t1)).alloc (.cells c2.toArray t2)) (.cells c3.toArray t3);rw[World.size_alloc,World.size_alloc,World.size_alloc] at h3;exact⟨_,rfl,h0.l b3,h1.l b3,h2.l b3,h3,aa b0 b3⟩
theorem dZ {w w':World}{b g o:Nat}{cs:List Value}(bu:But b w w')(h:w.rangeAt g o cs)(hg:g≠b):w'.rangeAt g o cs:=fun j v hj=>by rw[bu.c (by exact hg)];exact h j v hj
theorem SY (c:Int)(g s:Bool)(o:Option Addr)(l k:Nat)(e:Int)(w:World):
  yC 109 #[yoV c g s (.slice o l k) e] w (yR w (.bool (c==3))):=by
 obtain⟨W3,hW4,q1,b2⟩:=cA w (yoL c g s (.slice o l k) e) 98;replace hW4:Hid _:=hW4
 go_enter func109,ntmps109
 go_upto_region 1 with fail
 rw[hW4.out];clear hW4;have c5:=q1.c 0 rfl
 go_wp2
 go_ret
 exact⟨rfl,b2⟩
theorem lF (g s:Bool)(o:Option Addr)(l k:Nat)(e:Int)(w:World):yC 109 #[yoV 3 g s (.slice o l k) e] w (yR w (.bool true)):=SY 3 g s o l k e w
theorem iY (c:Int)(g s:Bool)(o:Option Addr)(l k:Nat)(e:Int)(w:World)(h:(c==3)=false):yC 109 #[yoV c g s (.slice o l k) e] w (yR w (.bool false)):=by
 have:=SY c g s o l k e w;rw[h] at this;exact this
theorem SZ (c:Int)(g s:Bool)(o:Option Addr)(l k:Nat)(e:Int)(w:World):
  yC 125 #[yoV c g s (.slice o l k) e] w (yR w (.bool (c==1))):=by
 obtain⟨W3,hW4,q1,b2⟩:=cA w (yoL c g s (.slice o l k) e) 98;replace hW4:Hid _:=hW4
 go_enter func125,ntmps125
 go_upto_region 1 with fail
 rw[hW4.out];clear hW4;have c5:=q1.c 0 rfl
 go_wp2
 go_ret
 exact⟨rfl,b2⟩
theorem BR (g s:Bool)(o:Option Addr)(l k:Nat)(e:Int)(w:World):yC 125 #[yoV 1 g s (.slice o l k) e] w (yR w (.bool true)):=SZ 1 g s o l k e w
theorem sC (c:Int)(g s:Bool)(o:Option Addr)(l k:Nat)(e:Int)(w:World)(h:(c==1)=false):yC 125 #[yoV c g s (.slice o l k) e] w (yR w (.bool false)):=by
 have:=SZ c g s o l k e w;rw[h] at this;exact this
theorem K6 (c:Int)(n wy fam R D L G:Int)(gr:Bool)(gx gy:Bool)(x y:ak)(xo yo:Option Addr)(xc yc:Nat)(w:World)
  (HN:yJ 108 #[ykV n wy fam R D L G gr,yi 16] (.tuple #[yoV c false false (.slice none 0 0) 0,yi 16])):
  yC 69 #[ykV n wy fam R D L G gr,yOV 3 gx x xo xc,yOV 3 gy y yo yc] w (dU w c false ⟨false,0,0⟩ 16):=by
 replace HN:Hid _:=HN;obtain⟨W6,hW7,q1,q2,q3,q4,b5⟩:=pi w (ykL n wy fam R D L G gr) 93 (yOL 3 gx x xo xc) 98 (yOL 3 gy y yo yc) 98 (yoL 0 false false (.slice none 0 0) 0) 98;replace hW7:Hid _:=hW7
 go_enter func69,ntmps69
 go_upto_region 1 with fail
 rw[hW7.out];clear hW7;obtain⟨c8,c9,c10,c11,c12⟩:=q2.cs5;have c13:=q3.c 1 rfl
 go_wp2_with fail
 refine(lF _ _ _ _ _ _ _).mono ?_;rintro zz w14 ⟨rfl,bb15⟩;have q16:=q1.l bb15;have q17:=q3.l bb15;have q18:=q4.l bb15;have b19:=aa b5 bb15;clear q1 q2 q3 q4 b5 bb15 c8 c9 c10 c11 c12 c13;obtain⟨c20,c21,c22,c23,c24⟩:=q17.cs5
 go_wp2_with fail
 refine(lF _ _ _ _ _ _ _).mono ?_;rintro zz w25 ⟨rfl,bb26⟩;have q27:=q16.l bb26;have q28:=q18.l bb26;have b29:=aa b19 bb26;clear q16 q17 q18 b19 bb26 c20 c21 c22 c23 c24;obtain⟨c30,c31,c32,c33,c34,c35,c36,c37⟩:=q27.cs8
 go_wp2_with fail
 refine(HN.out _).mono ?_;rintro zz w38 ⟨rfl,bb39⟩;have q40:=q28.l bb39;have b41:=aa b29 bb39;clear q27 q28 b29 bb39 HN c30 c31 c32 c33 c34 c35 c36 c37;have hf:=dL (P:=Tryz.prog) q40 b41 (by omega) underlying98 rfl (by kernel_rfl) (yi c) (.bool false) (.bool false) (.slice none 0 0) (yi 0);have HH:Hid (_∧_):=⟨hf.1,hf.2.1⟩;obtain⟨⟨z0,z1,z2,z3,z4⟩,y0,y1,y2,y3,y4⟩:=dN q40;clear hf q40 b41
 go_wp2
 obtain⟨hl,bR⟩:=HH.out;exact bodyPost_ret (aj results69 rfl rfl hl) rfl ⟨_,rfl,aN _ _,bR⟩
theorem K7 (c:Int)(n wy fam R D L G:Int)(gr:Bool)(gx gy:Bool)(x y:ak)(xo yo:Option Addr)(xc yc:Nat)(w:World)
  (HN:yJ 108 #[ykV n wy fam R D L G gr,yi 16] (.tuple #[yoV c false false (.slice none 0 0) 0,yi 16])):
  yC 69 #[ykV n wy fam R D L G gr,yOV 1 gx x xo xc,yOV 1 gy y yo yc] w (dU w c false ⟨false,0,0⟩ 16):=by
 replace HN:Hid _:=HN;obtain⟨W6,hW7,q1,q2,q3,q4,b5⟩:=pi w (ykL n wy fam R D L G gr) 93 (yOL 1 gx x xo xc) 98 (yOL 1 gy y yo yc) 98 (yoL 0 false false (.slice none 0 0) 0) 98;replace hW7:Hid _:=hW7
 go_enter func69,ntmps69
 go_upto_region 1 with fail
 rw[hW7.out];clear hW7;obtain⟨c8,c9,c10,c11,c12⟩:=q2.cs5;have c13:=q3.c 1 rfl
 go_wp2_with fail
 refine(iY _ _ _ _ _ _ _ _ rfl).mono ?_;rintro zz w14 ⟨rfl,bb15⟩;have q16:=q1.l bb15;have q17:=q2.l bb15;have q18:=q3.l bb15;have q19:=q4.l bb15;have b20:=aa b5 bb15;clear q1 q2 q3 q4 b5 bb15 c8 c9 c10 c11 c12 c13;obtain⟨c21,c22,c23,c24,c25⟩:=q17.cs5
 go_wp2_with fail
 refine(BR _ _ _ _ _ _ _).mono ?_;rintro zz w26 ⟨rfl,bb27⟩;have q28:=q16.l bb27;have q29:=q18.l bb27;have q30:=q19.l bb27;have b31:=aa b20 bb27;clear q16 q17 q18 q19 b20 bb27 c21 c22 c23 c24 c25;obtain⟨c32,c33,c34,c35,c36⟩:=q29.cs5
 go_wp2_with fail
 refine(BR _ _ _ _ _ _ _).mono ?_;rintro zz w37 ⟨rfl,bb38⟩;have q39:=q28.l bb38;have q40:=q30.l bb38;have b41:=aa b31 bb38;clear q28 q29 q30 b31 bb38 c32 c33 c34 c35 c36;obtain⟨c42,c43,c44,c45,c46,c47,c48,c49⟩:=q39.cs8
 go_wp2_with fail
 refine(HN.out _).mono ?_;rintro zz w50 ⟨rfl,bb51⟩;have q52:=q40.l bb51;have b53:=aa b41 bb51;clear q39 q40 b41 bb51 HN c42 c43 c44 c45 c46 c47 c48 c49;have hf:=dL (P:=Tryz.prog) q52 b53 (by omega) underlying98 rfl (by kernel_rfl) (yi c) (.bool false) (.bool false) (.slice none 0 0) (yi 0);have HH:Hid (_∧_):=⟨hf.1,hf.2.1⟩;obtain⟨⟨z0,z1,z2,z3,z4⟩,y0,y1,y2,y3,y4⟩:=dN q52;clear hf q52 b53
 go_wp2
 obtain⟨hl,bR⟩:=HH.out;exact bodyPost_ret (aj results69 rfl rfl hl) rfl ⟨_,rfl,aN _ _,bR⟩
theorem K8 (cy:Int)(n wy fam R D L G:Int)(gr:Bool)(gx gy:Bool)(x y:ak)(xo yo:Option Addr)(xc yc:Nat)(w:World)(hy3:(cy==3)=false):
  yC 69 #[ykV n wy fam R D L G gr,yOV 3 gx x xo xc,yOV cy gy y yo yc] w (dU w 3 (gx != gy) ⟨false,0,0⟩ 0):=by
 obtain⟨W6,hW7,q1,q2,q3,q4,b5⟩:=pi w (ykL n wy fam R D L G gr) 93 (yOL 3 gx x xo xc) 98 (yOL cy gy y yo yc) 98 (yoL 0 false false (.slice none 0 0) 0) 98;replace hW7:Hid _:=hW7;clear q1
 go_enter func69,ntmps69
 go_upto_region 1 with fail
 rw[hW7.out];clear hW7;obtain⟨c8,c9,c10,c11,c12⟩:=q2.cs5;have c13:=q3.c 1 rfl
 go_wp2_with fail
 refine(lF _ _ _ _ _ _ _).mono ?_;rintro zz w14 ⟨rfl,bb15⟩;have q16:=q2.l bb15;have q17:=q3.l bb15;have q18:=q4.l bb15;have b19:=aa b5 bb15;clear q2 q3 q4 b5 bb15 c8 c9 c10 c11 c12 c13;obtain⟨c20,c21,c22,c23,c24⟩:=q17.cs5
 go_wp2_with fail
 refine(iY _ _ _ _ _ _ _ _ hy3).mono ?_;rintro zz w25 ⟨rfl,bb26⟩;have q27:=q16.l bb26;have q28:=q18.l bb26;have b29:=aa b19 bb26;clear q16 q17 q18 b19 bb26 c20 c21 c22 c23 c24;obtain⟨c30,c31,c32,c33,c34⟩:=q27.cs5
 go_wp2_with fail
 refine(sC _ _ _ _ _ _ _ _ rfl).mono ?_;rintro zz w35 ⟨rfl,bb36⟩;have q37:=q27.l bb36;have q38:=q28.l bb36;have b39:=aa b29 bb36;clear q27 q28 b29 bb36 c30 c31 c32 c33 c34;obtain⟨c40,c41,c42,c43,c44⟩:=q37.cs5
 go_wp2_with fail
 refine(lF _ _ _ _ _ _ _).mono ?_;rintro zz w45 ⟨rfl,bb46⟩;have q47:=q38.l bb46;have b48:=aa b39 bb46;clear q37 q38 b39 bb46 c40 c41 c42 c43 c44;have hf:=dL (P:=Tryz.prog) q47 b48 (by omega) underlying98 rfl (by kernel_rfl) (yi 3) (.bool (gx != gy)) (.bool false) (.slice none 0 0) (yi 0);have HH:Hid (_∧_):=⟨hf.1,hf.2.1⟩;obtain⟨⟨z0,z1,z2,z3,z4⟩,y0,y1,y2,y3,y4⟩:=dN q47;clear hf q47 b48
 go_wp2
 obtain⟨hl,bR⟩:=HH.out;exact bodyPost_ret (aj results69 rfl rfl hl) rfl ⟨_,rfl,aN _ _,bR⟩
theorem K9 (n wy fam R D L G:Int)(gr:Bool)(gx gy:Bool)(x y:ak)(xo yo:Option Addr)(xc yc:Nat)(w:World):
  yC 69 #[ykV n wy fam R D L G gr,yOV 1 gx x xo xc,yOV 3 gy y yo yc] w (dU w 1 (gx != gy) ⟨false,0,0⟩ 0):=by
 obtain⟨W6,hW7,q1,q2,q3,q4,b5⟩:=pi w (ykL n wy fam R D L G gr) 93 (yOL 1 gx x xo xc) 98 (yOL 3 gy y yo yc) 98 (yoL 0 false false (.slice none 0 0) 0) 98;replace hW7:Hid _:=hW7;clear q1
 go_enter func69,ntmps69
 go_upto_region 1 with fail
 rw[hW7.out];clear hW7;obtain⟨c8,c9,c10,c11,c12⟩:=q2.cs5;have c13:=q3.c 1 rfl
 go_wp2_with fail
 refine(iY _ _ _ _ _ _ _ _ rfl).mono ?_;rintro zz w14 ⟨rfl,bb15⟩;have q16:=q2.l bb15;have q17:=q3.l bb15;have q18:=q4.l bb15;have b19:=aa b5 bb15;clear q2 q3 q4 b5 bb15 c8 c9 c10 c11 c12 c13;obtain⟨c20,c21,c22,c23,c24⟩:=q16.cs5
 go_wp2_with fail
 refine(BR _ _ _ _ _ _ _).mono ?_;rintro zz w25 ⟨rfl,bb26⟩;have q27:=q16.l bb26;have q28:=q17.l bb26;have q29:=q18.l bb26;have b30:=aa b19 bb26;clear q16 q17 q18 b19 bb26 c20 c21 c22 c23 c24;obtain⟨c31,c32,c33,c34,c35⟩:=q28.cs5
 go_wp2_with fail
 refine(sC _ _ _ _ _ _ _ _ rfl).mono ?_;rintro zz w36 ⟨rfl,bb37⟩;have q38:=q27.l bb37;have q39:=q28.l bb37;have q40:=q29.l bb37;have b41:=aa b30 bb37;clear q27 q28 q29 b30 bb37 c31 c32 c33 c34 c35;obtain⟨c42,c43,c44,c45,c46⟩:=q38.cs5
 go_wp2_with fail
 refine(iY _ _ _ _ _ _ _ _ rfl).mono ?_;rintro zz w47 ⟨rfl,bb48⟩;have q49:=q39.l bb48;have q50:=q40.l bb48;have b51:=aa b41 bb48;clear q38 q39 q40 b41 bb48 c42 c43 c44 c45 c46;obtain⟨c52,c53,c54,c55,c56⟩:=q49.cs5
 go_wp2_with fail
 refine(lF _ _ _ _ _ _ _).mono ?_;rintro zz w57 ⟨rfl,bb58⟩;have q59:=q50.l bb58;have b60:=aa b51 bb58;clear q49 q50 b51 bb58 c52 c53 c54 c55 c56;have hf:=dL (P:=Tryz.prog) q59 b60 (by omega) underlying98 rfl (by kernel_rfl) (yi 1) (.bool (gx != gy)) (.bool false) (.slice none 0 0) (yi 0);have HH:Hid (_∧_):=⟨hf.1,hf.2.1⟩;obtain⟨⟨z0,z1,z2,z3,z4⟩,y0,y1,y2,y3,y4⟩:=dN q59;clear hf q59 b60
 go_wp2
 obtain⟨hl,bR⟩:=HH.out;exact bodyPost_ret (aj results69 rfl rfl hl) rfl ⟨_,rfl,aN _ _,bR⟩
theorem La (cx:Int)(n wy fam R D L G:Int)(gr:Bool)(gx gy:Bool)(x y:ak)(xo yo:Option Addr)(xc yc:Nat)(w:World)(hx3:(cx==3)=false)(hx1:(cx==1)=false):
  yC 69 #[ykV n wy fam R D L G gr,yOV cx gx x xo xc,yOV 3 gy y yo yc] w (dU w 1 (gx != gy) ⟨false,0,0⟩ 0):=by
 obtain⟨W6,hW7,q1,q2,q3,q4,b5⟩:=pi w (ykL n wy fam R D L G gr) 93 (yOL cx gx x xo xc) 98 (yOL 3 gy y yo yc) 98 (yoL 0 false false (.slice none 0 0) 0) 98;replace hW7:Hid _:=hW7;clear q1
 go_enter func69,ntmps69
 go_upto_region 1 with fail
 rw[hW7.out];clear hW7;obtain⟨c8,c9,c10,c11,c12⟩:=q2.cs5;have c13:=q3.c 1 rfl
 go_wp2_with fail
 refine(iY _ _ _ _ _ _ _ _ hx3).mono ?_;rintro zz w14 ⟨rfl,bb15⟩;have q16:=q2.l bb15;have q17:=q3.l bb15;have q18:=q4.l bb15;have b19:=aa b5 bb15;clear q2 q3 q4 b5 bb15 c8 c9 c10 c11 c12 c13;obtain⟨c20,c21,c22,c23,c24⟩:=q16.cs5
 go_wp2_with fail
 refine(sC _ _ _ _ _ _ _ _ hx1).mono ?_;rintro zz w25 ⟨rfl,bb26⟩;have q27:=q16.l bb26;have q28:=q17.l bb26;have q29:=q18.l bb26;have b30:=aa b19 bb26;clear q16 q17 q18 b19 bb26 c20 c21 c22 c23 c24;obtain⟨c31,c32,c33,c34,c35⟩:=q27.cs5
 go_wp2_with fail
 refine(iY _ _ _ _ _ _ _ _ hx3).mono ?_;rintro zz w36 ⟨rfl,bb37⟩;have q38:=q28.l bb37;have q39:=q29.l bb37;have b40:=aa b30 bb37;clear q27 q28 q29 b30 bb37 c31 c32 c33 c34 c35;obtain⟨c41,c42,c43,c44,c45⟩:=q38.cs5
 go_wp2_with fail
 refine(lF _ _ _ _ _ _ _).mono ?_;rintro zz w46 ⟨rfl,bb47⟩;have q48:=q39.l bb47;have b49:=aa b40 bb47;clear q38 q39 b40 bb47 c41 c42 c43 c44 c45;have hf:=dL (P:=Tryz.prog) q48 b49 (by omega) underlying98 rfl (by kernel_rfl) (yi 1) (.bool (gx != gy)) (.bool false) (.slice none 0 0) (yi 0);have HH:Hid (_∧_):=⟨hf.1,hf.2.1⟩;obtain⟨⟨z0,z1,z2,z3,z4⟩,y0,y1,y2,y3,y4⟩:=dN q48;clear hf q48 b49
 go_wp2
 obtain⟨hl,bR⟩:=HH.out;exact bodyPost_ret (aj results69 rfl rfl hl) rfl ⟨_,rfl,aN _ _,bR⟩
theorem Lb (cx c fl:Int)(g:Bool)(t:ak)(n wy fam R D L G:Int)(gr:Bool)(gx gy:Bool)(x y:ak)(xo yo:Option Addr)(xc yc:Nat)(w:World)(hx3:(cx==3)=false)(hx1:(cx==1)=false)
  (HB: ∀w1,yB w w1→yC 128 #[ykV n wy fam R D L G gr,.bool (gx != gy)] w1 (dU w1 c g t fl)):
  yC 69 #[ykV n wy fam R D L G gr,yOV cx gx x xo xc,yOV 1 gy y yo yc] w (dU w c g t fl):=by
 replace HB:Hid _:=HB;obtain⟨W6,hW7,q1,q2,q3,q4,b5⟩:=pi w (ykL n wy fam R D L G gr) 93 (yOL cx gx x xo xc) 98 (yOL 1 gy y yo yc) 98 (yoL 0 false false (.slice none 0 0) 0) 98;replace hW7:Hid _:=hW7
 go_enter func69,ntmps69
 go_upto_region 1 with fail
 rw[hW7.out];clear hW7;obtain⟨c8,c9,c10,c11,c12⟩:=q2.cs5;have c13:=q3.c 1 rfl
 go_wp2_with fail
 refine(iY _ _ _ _ _ _ _ _ hx3).mono ?_;rintro zz w14 ⟨rfl,bb15⟩;have q16:=q1.l bb15;have q17:=q2.l bb15;have q18:=q3.l bb15;have q19:=q4.l bb15;have b20:=aa b5 bb15;clear q1 q2 q3 q4 b5 bb15 c8 c9 c10 c11 c12 c13;obtain⟨c21,c22,c23,c24,c25⟩:=q17.cs5
 go_wp2_with fail
 refine(sC _ _ _ _ _ _ _ _ hx1).mono ?_;rintro zz w26 ⟨rfl,bb27⟩;have q28:=q16.l bb27;have q29:=q17.l bb27;have q30:=q18.l bb27;have q31:=q19.l bb27;have b32:=aa b20 bb27;clear q16 q17 q18 q19 b20 bb27 c21 c22 c23 c24 c25;obtain⟨c33,c34,c35,c36,c37⟩:=q29.cs5
 go_wp2_with fail
 refine(iY _ _ _ _ _ _ _ _ hx3).mono ?_;rintro zz w38 ⟨rfl,bb39⟩;have q40:=q28.l bb39;have q41:=q30.l bb39;have q42:=q31.l bb39;have b43:=aa b32 bb39;clear q28 q29 q30 q31 b32 bb39 c33 c34 c35 c36 c37;obtain⟨c44,c45,c46,c47,c48⟩:=q41.cs5
 go_wp2_with fail
 refine(iY _ _ _ _ _ _ _ _ rfl).mono ?_;rintro zz w49 ⟨rfl,bb50⟩;have q51:=q40.l bb50;have q52:=q41.l bb50;have q53:=q42.l bb50;have b54:=aa b43 bb50;clear q40 q41 q42 b43 bb50 c44 c45 c46 c47 c48;obtain⟨c55,c56,c57,c58,c59⟩:=q52.cs5
 go_wp2_with fail
 refine(BR _ _ _ _ _ _ _).mono ?_;rintro zz w60 ⟨rfl,bb61⟩;have q62:=q51.l bb61;have q63:=q53.l bb61;have b64:=aa b54 bb61;clear q51 q52 q53 b54 bb61 c55 c56 c57 c58 c59;obtain⟨c65,c66,c67,c68,c69,c70,c71,c72⟩:=q62.cs8
 go_wp2_with fail
 refine(HB.out _ b64).mono ?_;rintro zz w73 ⟨v175,rfl,r176,bb74⟩;have q77:=q63.l bb74;have b78:=aa b64 bb74;obtain⟨so,sc,hv⟩:=r176.shape;subst hv;clear q62 q63 b64 bb74 HB c65 c66 c67 c68 c69 c70 c71 c72;have hf:=dL (P:=Tryz.prog) q77 b78 (by omega) underlying98 rfl (by kernel_rfl) (yi c) (.bool g) (.bool t.s) (.slice so (Dg.dg 4294967296 t.n).length sc) (yi t.e);have HH:Hid (_∧_∧_):=⟨hf.1,hf.2.2.rd r176 (aX r176 q77 (by simp)),hf.2.1⟩;obtain⟨⟨z0,z1,z2,z3,z4⟩,y0,y1,y2,y3,y4⟩:=dN q77;clear hf q77 r176 b78
 go_wp2
 obtain⟨hl,rRs,bR⟩:=HH.out;exact bodyPost_ret (aj results69 rfl rfl hl) rfl ⟨_,rfl,rRs,bR⟩
theorem Lc (cy c:Int)(g:Bool)(t u:ak)(n wy fam R D L G:Int)(gr:Bool)(gx gy:Bool)(x y:ak)(xo yo:Option Addr)(xc yc:Nat)(w:World)(hy3:(cy==3)=false)(hy1:(cy==1)=false)
  (HT: ∀w1,yB w w1→yC 129 #[yDV x xo xc,yDV y yo yc,yi 128] w1 (jN w1 u))
  (HM: ∀uo uc w1,Rd w1 .u32 (.slice uo (Dg.dg 4294967296 u.n).length uc) (Dg.dg 4294967296 u.n)→yC 110 #[yDV u uo uc,.bool (gx != gy)] w1 (xj w1 c g t)):
  yC 69 #[ykV n wy fam R D L G gr,yOV 1 gx x xo xc,yOV cy gy y yo yc] w (dU w c g t 0):=by
 replace HT:Hid _:=HT;replace HM:Hid _:=HM;obtain⟨W6,hW7,q1,q2,q3,q4,b5⟩:=pi w (ykL n wy fam R D L G gr) 93 (yOL 1 gx x xo xc) 98 (yOL cy gy y yo yc) 98 (yoL 0 false false (.slice none 0 0) 0) 98;replace hW7:Hid _:=hW7;clear q1
 go_enter func69,ntmps69
 go_upto_region 1 with fail
 rw[hW7.out];clear hW7;obtain⟨c8,c9,c10,c11,c12⟩:=q2.cs5;have c13:=q3.c 1 rfl
 go_wp2_with fail
 refine(iY _ _ _ _ _ _ _ _ rfl).mono ?_;rintro zz w14 ⟨rfl,bb15⟩;have q16:=q2.l bb15;have q17:=q3.l bb15;have q18:=q4.l bb15;have b19:=aa b5 bb15;clear q2 q3 q4 b5 bb15 c8 c9 c10 c11 c12 c13;obtain⟨c20,c21,c22,c23,c24⟩:=q16.cs5
 go_wp2_with fail
 refine(BR _ _ _ _ _ _ _).mono ?_;rintro zz w25 ⟨rfl,bb26⟩;have q27:=q16.l bb26;have q28:=q17.l bb26;have q29:=q18.l bb26;have b30:=aa b19 bb26;clear q16 q17 q18 b19 bb26 c20 c21 c22 c23 c24;obtain⟨c31,c32,c33,c34,c35⟩:=q28.cs5
 go_wp2_with fail
 refine(sC _ _ _ _ _ _ _ _ hy1).mono ?_;rintro zz w36 ⟨rfl,bb37⟩;have q38:=q27.l bb37;have q39:=q28.l bb37;have q40:=q29.l bb37;have b41:=aa b30 bb37;clear q27 q28 q29 b30 bb37 c31 c32 c33 c34 c35;obtain⟨c42,c43,c44,c45,c46⟩:=q38.cs5
 go_wp2_with fail
 refine(iY _ _ _ _ _ _ _ _ rfl).mono ?_;rintro zz w47 ⟨rfl,bb48⟩;have q49:=q38.l bb48;have q50:=q39.l bb48;have q51:=q40.l bb48;have b52:=aa b41 bb48;clear q38 q39 q40 b41 bb48 c42 c43 c44 c45 c46;obtain⟨c53,c54,c55,c56,c57⟩:=q50.cs5
 go_wp2_with fail
 refine(iY _ _ _ _ _ _ _ _ hy3).mono ?_;rintro zz w58 ⟨rfl,bb59⟩;have q60:=q49.l bb59;have q61:=q50.l bb59;have q62:=q51.l bb59;have b63:=aa b52 bb59;clear q49 q50 q51 b52 bb59 c53 c54 c55 c56 c57;obtain⟨c64,c65,c66,c67,c68⟩:=q61.cs5
 go_wp2_with fail
 refine(sC _ _ _ _ _ _ _ _ hy1).mono ?_;rintro zz w69 ⟨rfl,bb70⟩;have q71:=q60.l bb70;have q72:=q61.l bb70;have q73:=q62.l bb70;have b74:=aa b63 bb70;clear q60 q61 q62 b63 bb70 c64 c65 c66 c67 c68;have c75:=q71.c 2 rfl;have c76:=q71.c 3 rfl;have c77:=q71.c 4 rfl;have c78:=q72.c 2 rfl;have c79:=q72.c 3 rfl;have c80:=q72.c 4 rfl
 go_wp2_with fail
 refine(HT.out _ b74).mono ?_;rintro zz w81 ⟨v183,rfl,r184,bb82⟩;have q85:=q73.l bb82;have b86:=aa b74 bb82;have r87:=r184.rd;obtain⟨uo,uc,hv⟩:=r87.shape;subst hv;clear q71 q72 q73 b74 bb82 r184 HT c75 c76 c77 c78 c79 c80
 go_wp2_with fail
 refine(HM.out _ _ _ r87).mono ?_;rintro zz w88 ⟨v190,rfl,r191,bb89⟩;have q92:=q85.l bb89;have r93:=r87.l bb89;have b94:=aa b86 bb89;obtain⟨so,sc,hv⟩:=r191.shape;subst hv;clear q85 r87 b86 bb89 HM;have hf:=dL (P:=Tryz.prog) q92 b94 (by omega) underlying98 rfl (by kernel_rfl) (yi c) (.bool g) (.bool t.s) (.slice so (Dg.dg 4294967296 t.n).length sc) (yi t.e);have HH:Hid (_∧_∧_):=⟨hf.1,hf.2.2.rd r191 (aX r191 q92 (by simp)),hf.2.1⟩;obtain⟨⟨z0,z1,z2,z3,z4⟩,y0,y1,y2,y3,y4⟩:=dN q92;clear hf q92 r93 r191 b94
 go_wp2
 obtain⟨hl,rRs,bR⟩:=HH.out;exact bodyPost_ret (aj results69 rfl rfl hl) rfl ⟨_,rfl,rRs,bR⟩
theorem H8 (cx cy c:Int)(g:Bool)(t u:ak)(n wy fam R D L G:Int)(gr:Bool)(gx gy:Bool)(x y:ak)(xo yo:Option Addr)(xc yc:Nat)(w:World)(hx3:(cx==3)=false)(hx1:(cx==1)=false)(hy3:(cy==3)=false)(hy1:(cy==1)=false)
  (HT: ∀w1,yB w w1→yC 129 #[yDV x xo xc,yDV y yo yc,yi 128] w1 (jN w1 u))
  (HM: ∀uo uc w1,Rd w1 .u32 (.slice uo (Dg.dg 4294967296 u.n).length uc) (Dg.dg 4294967296 u.n)→yC 110 #[yDV u uo uc,.bool (gx != gy)] w1 (xj w1 c g t)):
  yC 69 #[ykV n wy fam R D L G gr,yOV cx gx x xo xc,yOV cy gy y yo yc] w (dU w c g t 0):=by
 replace HT:Hid _:=HT;replace HM:Hid _:=HM;obtain⟨W6,hW7,q1,q2,q3,q4,b5⟩:=pi w (ykL n wy fam R D L G gr) 93 (yOL cx gx x xo xc) 98 (yOL cy gy y yo yc) 98 (yoL 0 false false (.slice none 0 0) 0) 98;replace hW7:Hid _:=hW7;clear q1
 go_enter func69,ntmps69
 go_upto_region 1 with fail
 rw[hW7.out];clear hW7;obtain⟨c8,c9,c10,c11,c12⟩:=q2.cs5;have c13:=q3.c 1 rfl
 go_wp2_with fail
 refine(iY _ _ _ _ _ _ _ _ hx3).mono ?_;rintro zz w14 ⟨rfl,bb15⟩;have q16:=q2.l bb15;have q17:=q3.l bb15;have q18:=q4.l bb15;have b19:=aa b5 bb15;clear q2 q3 q4 b5 bb15 c8 c9 c10 c11 c12 c13;obtain⟨c20,c21,c22,c23,c24⟩:=q16.cs5
 go_wp2_with fail
 refine(sC _ _ _ _ _ _ _ _ hx1).mono ?_;rintro zz w25 ⟨rfl,bb26⟩;have q27:=q16.l bb26;have q28:=q17.l bb26;have q29:=q18.l bb26;have b30:=aa b19 bb26;clear q16 q17 q18 b19 bb26 c20 c21 c22 c23 c24;obtain⟨c31,c32,c33,c34,c35⟩:=q27.cs5
 go_wp2_with fail
 refine(iY _ _ _ _ _ _ _ _ hx3).mono ?_;rintro zz w36 ⟨rfl,bb37⟩;have q38:=q27.l bb37;have q39:=q28.l bb37;have q40:=q29.l bb37;have b41:=aa b30 bb37;clear q27 q28 q29 b30 bb37 c31 c32 c33 c34 c35;obtain⟨c42,c43,c44,c45,c46⟩:=q39.cs5
 go_wp2_with fail
 refine(iY _ _ _ _ _ _ _ _ hy3).mono ?_;rintro zz w47 ⟨rfl,bb48⟩;have q49:=q38.l bb48;have q50:=q39.l bb48;have q51:=q40.l bb48;have b52:=aa b41 bb48;clear q38 q39 q40 b41 bb48 c42 c43 c44 c45 c46;obtain⟨c53,c54,c55,c56,c57⟩:=q50.cs5
 go_wp2_with fail
 refine(sC _ _ _ _ _ _ _ _ hy1).mono ?_;rintro zz w58 ⟨rfl,bb59⟩;have q60:=q49.l bb59;have q61:=q50.l bb59;have q62:=q51.l bb59;have b63:=aa b52 bb59;clear q49 q50 q51 b52 bb59 c53 c54 c55 c56 c57;have c64:=q60.c 2 rfl;have c65:=q60.c 3 rfl;have c66:=q60.c 4 rfl;have c67:=q61.c 2 rfl;have c68:=q61.c 3 rfl;have c69:=q61.c 4 rfl
 go_wp2_with fail
 refine(HT.out _ b63).mono ?_;rintro zz w70 ⟨v172,rfl,r173,bb71⟩;have q74:=q62.l bb71;have b75:=aa b63 bb71;have r76:=r173.rd;obtain⟨uo,uc,hv⟩:=r76.shape;subst hv;clear q60 q61 q62 b63 bb71 r173 HT c64 c65 c66 c67 c68 c69
 go_wp2_with fail
 refine(HM.out _ _ _ r76).mono ?_;rintro zz w77 ⟨v179,rfl,r180,bb78⟩;have q81:=q74.l bb78;have r82:=r76.l bb78;have b83:=aa b75 bb78;obtain⟨so,sc,hv⟩:=r180.shape;subst hv;clear q74 r76 b75 bb78 HM;have hf:=dL (P:=Tryz.prog) q81 b83 (by omega) underlying98 rfl (by kernel_rfl) (yi c) (.bool g) (.bool t.s) (.slice so (Dg.dg 4294967296 t.n).length sc) (yi t.e);have HH:Hid (_∧_∧_):=⟨hf.1,hf.2.2.rd r180 (aX r180 q81 (by simp)),hf.2.1⟩;obtain⟨⟨z0,z1,z2,z3,z4⟩,y0,y1,y2,y3,y4⟩:=dN q81;clear hf q81 r82 r180 b83
 go_wp2
 obtain⟨hl,rRs,bR⟩:=HH.out;exact bodyPost_ret (aj results69 rfl rfl hl) rfl ⟨_,rfl,rRs,bR⟩
theorem UY (n wy R D L G:Int)(gr:Bool)(ng:Bool)(w:World):
  yC 128 #[ykV n wy 1 R D L G gr,.bool ng] w (dU w 3 ng ⟨false,0,0⟩ 8):=by
 obtain⟨W4,hW5,q1,q2,b3⟩:=iG w (ykL n wy 1 R D L G gr) 93 (yoL 0 false false (.slice none 0 0) 0) 98;replace hW5:Hid _:=hW5
 go_enter func128,ntmps128
 go_upto_region 1 with fail
 rw[hW5.out];clear hW5;have c6:=q1.c 2 rfl;have hf:=dL (P:=Tryz.prog) q2 b3 (by omega) underlying98 rfl (by kernel_rfl) (yi 3) (.bool ng) (.bool false) (.slice none 0 0) (yi 0);have HH:Hid (_∧_):=⟨hf.1,hf.2.1⟩;obtain⟨⟨z0,z1,z2,z3,z4⟩,y0,y1,y2,y3,y4⟩:=dN q2;clear hf q1 q2 b3
 go_wp2
 obtain⟨hl,bR⟩:=HH.out;exact bodyPost_ret (aj results128 rfl rfl hl) rfl ⟨_,rfl,aN _ _,bR⟩
theorem UZ (c:Int)(n wy R D L G:Int)(gr:Bool)(ng:Bool)(w:World)
  (HN:yJ 108 #[ykV n wy 3 R D L G gr,yi 8] (.tuple #[yoV c false false (.slice none 0 0) 0,yi 8])):
  yC 128 #[ykV n wy 3 R D L G gr,.bool ng] w (dU w c false ⟨false,0,0⟩ 8):=by
 replace HN:Hid _:=HN;obtain⟨W4,hW5,q1,q2,b3⟩:=iG w (ykL n wy 3 R D L G gr) 93 (yoL 0 false false (.slice none 0 0) 0) 98;replace hW5:Hid _:=hW5
 go_enter func128,ntmps128
 go_upto_region 1 with fail
 rw[hW5.out];clear hW5;obtain⟨c6,c7,c8,c9,c10,c11,c12,c13⟩:=q1.cs8
 go_wp2_with fail
 refine(HN.out _).mono ?_;rintro zz w14 ⟨rfl,bb15⟩;have q16:=q2.l bb15;have b17:=aa b3 bb15;clear q1 q2 b3 bb15 HN c6 c7 c8 c9 c10 c11 c12 c13;have hf:=dL (P:=Tryz.prog) q16 b17 (by omega) underlying98 rfl (by kernel_rfl) (yi c) (.bool false) (.bool false) (.slice none 0 0) (yi 0);have HH:Hid (_∧_):=⟨hf.1,hf.2.1⟩;obtain⟨⟨z0,z1,z2,z3,z4⟩,y0,y1,y2,y3,y4⟩:=dN q16;clear hf q16 b17
 go_wp2
 obtain⟨hl,bR⟩:=HH.out;exact bodyPost_ret (aj results128 rfl rfl hl) rfl ⟨_,rfl,aN _ _,bR⟩
theorem U0 (c:Int)(g:Bool)(m:Nat)(x t:ak)(n wy R D L G:Int)(gr:Bool)(ng:Bool)(w:World)
  (HG: ∀w1,yB w w1→yC 175 #[ykV n wy 2 R D L G gr,.bool ng] w1 (iT w1 2 ng m G))
  (HU: ∀mo mc w1,yB w w1→Rd w1 .u32 (.slice mo (Dg.dg 4294967296 m).length mc) (Dg.dg 4294967296 m)→yC 174 #[yvV 2 ng (.slice mo (Dg.dg 4294967296 m).length mc) G,ygV R D L G gr] w1 fun z w'=> ∃v,z= .returned (ydV x.s v x.e)∧Rd w' .u32 v (Dg.dg 4294967296 x.n)∧yB w1 w')
  (HO: ∀xo xc w1,yC 138 #[yDV x xo xc] w1 (yR w1 (yDV x xo xc)))
  (HM: ∀xo xc w1,Rd w1 .u32 (.slice xo (Dg.dg 4294967296 x.n).length xc) (Dg.dg 4294967296 x.n)→yC 110 #[yDV x xo xc,.bool ng] w1 (xj w1 c g t)):
  yC 128 #[ykV n wy 2 R D L G gr,.bool ng] w (dU w c g t 8):=by
 replace HG:Hid _:=HG;replace HU:Hid _:=HU;replace HO:Hid _:=HO;replace HM:Hid _:=HM;obtain⟨W4,hW5,q1,q2,b3⟩:=iG w (ykL n wy 2 R D L G gr) 93 (yoL 0 false false (.slice none 0 0) 0) 98;replace hW5:Hid _:=hW5
 go_enter func128,ntmps128
 go_upto_region 1 with fail
 rw[hW5.out];clear hW5;have c6:=q1.c 2 rfl
 go_upto_region 5 with fail
 clear c6;have bW7:yB W4 W4.drew:=(Below.refl _ _).drew;have q8:=q1.l bW7;have q9:=q2.l bW7;have b10:=aa b3 bW7;clear q1 q2 b3 bW7;refine wp_region_held_drew (S:=fun wq=>au wq w.heap.size 93 (ykL n wy 2 R D L G gr)) (by kernel_rfl) q8 (fun hS0=> ?_)
 generalize W4.drew=WD11 at q8 q9 b10 hS0⊢;refine tk 0 (ykV n wy 2 R D L G gr) rfl (by kernel_rfl) (fun _ _ _ h=>h) (fun _ hw0=>fy 93 (.tmp 2) rfl w.heap.size 0 (by kernel_rfl) _ _ hw0.range underlying93 rfl (by kernel_rfl)) hS0 ?_
 refine tk 1 (.bool ng) rfl (by kernel_rfl) (fun _ _ _ h=>h) (fun _ _=>by kernel_rfl) hS0 ?_
 refine tk 3 (.pointer (some ⟨w.heap.size,3,none⟩)) rfl (by kernel_rfl) (fun _ _ _ h=>h) (fun _ _=>by kernel_rfl) hS0 ?_
 refine tk 4 (ygV R D L G gr) rfl (by kernel_rfl) (fun _ _ _ h=>h) (fun _ hw0=>fy 56 (.tmp 17) rfl w.heap.size 3 (by kernel_rfl) _ _ (kY hw0 3 5 rfl) underlying56 rfl (by kernel_rfl)) hS0 ?_
 refine tk 7 (.bool ng) rfl (by kernel_rfl) (fun _ _ _ h=>h) (fun _ _=>by kernel_rfl) hS0 ?_
 refine wpAnyH_ready (rs:=[2]) (by kernel_rfl) (by simp) ?_;refine AllReadyH.cons rfl (fun K hK=> ?_) AllReadyH.nil
 go_simp
 refine(HG.out _ b10).mono ?_;rintro zz w12 ⟨v114,rfl,r115,bb13⟩;have q16:=q8.l bb13;have q17:=q9.l bb13;have b18:=aa b10 bb13;obtain⟨mo,mc,hv⟩:=r115.shape;subst hv;clear q8 q9 b10 bb13 HG;refine hK.out _ _ q16 (fun hS19=> ?_)
 clear hK K;refine wpAnyH_ready (rs:=[5]) (by kernel_rfl) (by simp) ?_;refine AllReadyH.cons rfl (fun K hK=> ?_) AllReadyH.nil
 go_simp
 refine(HU.out _ _ _ b18 r115).mono ?_;rintro zz w20 ⟨v122,rfl,r123,bb21⟩;have q24:=q16.l bb21;have q25:=q17.l bb21;have r26:=r115.l bb21;have b27:=aa b18 bb21;obtain⟨xo,xc,hv⟩:=r123.shape;subst hv;clear q16 q17 r115 b18 bb21 HU;refine hK.out _ _ q24 (fun hS28=> ?_)
 clear hK K;refine wpAnyH_ready (rs:=[6]) (by kernel_rfl) (by simp) ?_;refine AllReadyH.cons rfl (fun K hK=> ?_) AllReadyH.nil
 go_simp
 refine(HO.out _ _ _).mono ?_;rintro zz w29 ⟨rfl,bb30⟩;have q31:=q24.l bb30;have q32:=q25.l bb30;have r33:=r26.l bb30;have r34:=r123.l bb30;have b35:=aa b27 bb30;clear q24 q25 r26 r123 b27 bb30 HO;refine hK.out _ _ q31 (fun hS36=> ?_)
 clear hK K;refine wpAnyH_ready (rs:=[8]) (by kernel_rfl) (by simp) ?_;refine AllReadyH.cons rfl (fun K hK=> ?_) AllReadyH.nil
 go_simp
 refine(HM.out _ _ _ r34).mono ?_;rintro zz w37 ⟨v139,rfl,r140,bb38⟩;have q41:=q31.l bb38;have q42:=q32.l bb38;have r43:=r33.l bb38;have r44:=r34.l bb38;have b45:=aa b35 bb38;obtain⟨so,sc,hv⟩:=r140.shape;subst hv;clear q31 q32 r33 r34 b35 bb38 HM;refine hK.out _ _ q41 (fun hS46=> ?_)
 clear hK K;refine wpAnyH_ready (rs:=[9]) (by kernel_rfl) (by simp) ?_;refine AllReadyH.cons rfl (fun K hK=> ?_) AllReadyH.nil
 have bu:But (w.heap.size+1) w37 (w37.setCells (w.heap.size+1) 0 (yOL c g t so sc)):=de _ _ _ _;have hth:w37.there (w.heap.size+1) 0 5:=dD q42;have q47:au (w37.setCells (w.heap.size+1) 0 (yOL c g t so sc)) (w.heap.size+1) 98 (yOL c g t so sc):=q42.sets _ rfl;have r48:=bu.rd r43 (aX r43 q42 (by simp));have r49:=bu.rd r44 (aX r44 q42 (by simp));have r50:=bu.rd r140 (aX r140 q42 (by simp));have q51:=bu.loc q41 (by omega);have b52:=bu.below b45 (by omega);rw[if_pos (by kernel_rfl)];refine wp_store_mid 98 (.tmp 4) (.tmp 22) rfl (w.heap.size+1) 0 (yOA c g t so sc) (by kernel_rfl) (by kernel_rfl) hth (by kernel_rfl) (by simp[Value.oneCell']) ?_;refine hK.out _ _ q51 (fun hS53=> ?_)
 clear hK K;clear q42 r43 r44 r140 q41 b45 bu hth;refine tk 10 (yi 8) rfl (by kernel_rfl) (fun _ _ _ h=>h) (fun _ _=>by kernel_rfl) hS53 ?_
 refine wpAnyH_done (by kernel_rfl) ?_ _;clear hS0 hS19 hS28 hS36 hS46 hS53;change Exit.then _ _ _ _ (World.setCells w37 (w.heap.size+1) 0 (yOL c g t so sc));generalize World.setCells w37 (w.heap.size+1) 0 (yOL c g t so sc)=W54 at q51 q47 r48 r49 r50 b52⊢;simp only[Act.put,List.getElem_toArray,List.getElem_cons_succ,List.getElem_cons_zero,List.setIfInBounds_toArray,List.set_cons_zero,List.set_cons_succ];have hl:=run_loadVar_mid (P:=Tryz.prog) _ (w.heap.size+1) 0 98 (yOL c g t so sc) _ q47.range underlying98 rfl (by kernel_rfl)
 go_wp2
 exact bodyPost_ret (aj results128 rfl rfl hl) rfl ⟨_,rfl,r50,b52⟩
theorem adc (cx cy c fl:Int)(gg:Bool)(t:ak)(n wy fam R D L G:Int)(gr:Bool)(gx gy:Bool)(x y:ak)(xo yo:Option Addr)(xc yc:Nat)(g cap:Nat)(w:World)(h0:w.rangeAt g 0 (yOL cx gx x xo xc))(h1:w.rangeAt g 5 (yOL cy gy y yo yc))
  (HS: ∀w1,yB w w1→yC 69 #[ykV n wy fam R D L G gr,yOV cx gx x xo xc,yOV cy gy y yo yc] w1 (dU w1 c gg t fl)):
  yC 68 #[ykV n wy fam R D L G gr,.slice (some ⟨g,0,none⟩) 2 cap] w (dU w c gg t fl):=by
 replace HS:Hid _:=HS;have hgl:g<w.heap.size:=World.block_lt_of_cell? w _ (h0 0 _ rfl);obtain⟨W4,hW5,q1,q2,b3⟩:=iG w (ykL n wy fam R D L G gr) 93 (yoL 0 false false (.slice none 0 0) 0) 98;replace hW5:Hid _:=hW5;have q6:=aC h0 b3;have q7:=aC h1 b3;clear h0 h1
 go_enter func68,ntmps68
 go_upto_region 1 with fail
 rw[hW5.out];clear hW5
 go_upto_region 1 with fail
 have bW8:yB W4 W4.drew:=(Below.refl _ _).drew;have q9:=aC q6 bW8;have q10:=aC q7 bW8;have q11:=q1.l bW8;have q12:=q2.l bW8;have b13:=aa b3 bW8;clear q6 q7 q1 q2 b3 bW8;refine wp_region_held_drew (S:=fun wq=>wq.rangeAt g 0 (yOL cx gx x xo xc)∧wq.rangeAt g 5 (yOL cy gy y yo yc)∧au wq w.heap.size 93 (ykL n wy fam R D L G gr)) (by kernel_rfl) ⟨q9,q10,q11⟩ (fun hS0=> ?_)
 generalize W4.drew=WD14 at q9 q10 q11 q12 b13 hS0⊢;refine tk 0 (ykV n wy fam R D L G gr) rfl (by kernel_rfl) (fun _ _ _ h=>h) (fun _ hw0=>fy 93 (.tmp 2) rfl w.heap.size 0 (by kernel_rfl) _ _ hw0.2.2.range underlying93 rfl (by kernel_rfl)) hS0 ?_
 refine tk 1 (.slice (some ⟨g,0,none⟩) 2 cap) rfl (by kernel_rfl) (fun _ _ _ h=>h) (fun _ _=>by kernel_rfl) hS0 ?_
 refine tk 2 (.pointer (some ⟨g,0,none⟩)) rfl (by kernel_rfl) (fun _ _ _ h=>h) (fun _ _=>by kernel_rfl) hS0 ?_
 refine tk 3 (yOV cx gx x xo xc) rfl (by kernel_rfl) (fun _ _ _ h=>h) (fun _ hw0=>fy 98 (.tmp 8) rfl g 0 (by kernel_rfl) _ _ hw0.1 underlying98 rfl (by kernel_rfl)) hS0 ?_
 refine tk 4 (.slice (some ⟨g,0,none⟩) 2 cap) rfl (by kernel_rfl) (fun _ _ _ h=>h) (fun _ _=>by kernel_rfl) hS0 ?_
 refine tk 5 (.pointer (some ⟨g,5,none⟩)) rfl (by kernel_rfl) (fun _ _ _ h=>h) (fun _ _=>by kernel_rfl) hS0 ?_
 refine tk 6 (yOV cy gy y yo yc) rfl (by kernel_rfl) (fun _ _ _ h=>h) (fun _ hw0=>fy 98 (.tmp 11) rfl g 5 (by kernel_rfl) _ _ hw0.2.1 underlying98 rfl (by kernel_rfl)) hS0 ?_
 refine wpAnyH_ready (rs:=[7]) (by kernel_rfl) (by simp) ?_;refine AllReadyH.cons rfl (fun K hK=> ?_) AllReadyH.nil
 go_simp
 refine(HS.out _ b13).mono ?_;rintro zz w15 ⟨v117,rfl,r118,bb16⟩;have q19:=aC q9 bb16;have q20:=aC q10 bb16;have q21:=q11.l bb16;have q22:=q12.l bb16;have b23:=aa b13 bb16;obtain⟨so,sc,hv⟩:=r118.shape;subst hv;clear q9 q10 q11 q12 b13 bb16 HS;refine hK.out _ _ ⟨q19,q20,q21⟩ (fun hS24=> ?_)
 clear hK K;refine tk 8 (yOV c gg t so sc) rfl (by kernel_rfl) (fun _ _ _ h=>h) (fun _ _=>by go_simp) hS24 ?_
 refine tk 9 (yi fl) rfl (by kernel_rfl) (fun _ _ _ h=>h) (fun _ _=>by go_simp) hS24 ?_
 refine wpAnyH_ready (rs:=[10]) (by kernel_rfl) (by simp) ?_;refine AllReadyH.cons rfl (fun K hK=> ?_) AllReadyH.nil
 have bu:But (w.heap.size+1) w15 (w15.setCells (w.heap.size+1) 0 (yOL c gg t so sc)):=de _ _ _ _;have hth:w15.there (w.heap.size+1) 0 5:=dD q22;have q25:au (w15.setCells (w.heap.size+1) 0 (yOL c gg t so sc)) (w.heap.size+1) 98 (yOL c gg t so sc):=q22.sets _ rfl;have r26:=bu.rd r118 (aX r118 q22 (by simp));have q27:=dZ bu q19 (by omega);have q28:=dZ bu q20 (by omega);have q29:=bu.loc q21 (by omega);have b30:=bu.below b23 (by omega);rw[if_pos (by kernel_rfl)];refine wp_store_mid 98 (.tmp 4) (.tmp 14) rfl (w.heap.size+1) 0 (yOA c gg t so sc) (by kernel_rfl) (by kernel_rfl) hth (by kernel_rfl) (by simp[Value.oneCell']) ?_;refine hK.out _ _ ⟨q27,q28,q29⟩ (fun hS31=> ?_)
 clear hK K;clear q22 r118 q19 q20 q21 b23 bu hth;refine tk 11 (yi fl) rfl (by kernel_rfl) (fun _ _ _ h=>h) (fun _ _=>by kernel_rfl) hS31 ?_
 refine wpAnyH_done (by kernel_rfl) ?_ _;clear hS0 hS24 hS31;change Exit.then _ _ _ _ (World.setCells w15 (w.heap.size+1) 0 (yOL c gg t so sc));generalize World.setCells w15 (w.heap.size+1) 0 (yOL c gg t so sc)=W32 at q27 q28 q29 q25 r26 b30⊢;simp only[Act.put,List.getElem_toArray,List.getElem_cons_succ,List.getElem_cons_zero,List.setIfInBounds_toArray,List.set_cons_zero,List.set_cons_succ];have hl:=run_loadVar_mid (P:=Tryz.prog) _ (w.heap.size+1) 0 98 (yOL c gg t so sc) _ q25.range underlying98 rfl (by kernel_rfl)
 go_wp2
 exact bodyPost_ret (aj results68 rfl rfl hl) rfl ⟨_,rfl,r26,b30⟩
theorem aeS (n way f1 e1:Int)(a b st:ByteArray)(w:World)
  (HR: ∀pb w1,yB w w1→au w1 pb 9 [.string a,.string b]→yC 53 #[yi n,yi way,.func (.func 68) #[] #[],.slice (some ⟨pb,0,none⟩) 2 2] w1 (yR w1 (.tuple #[.string st,yi f1,yi e1]))):
  yC 26 #[yi n,.string a,.string b,yi way] w (yR w (.tuple #[.string st,yi f1,yi e1])):=by
 replace HR:Hid _:=HR
 go_enter func26,ntmps26
 have b0:=Below.refl w.heap.size w;have al1:=af w (.cells #[.string a,.string b] 9);have q2:=ah w [.string a,.string b] 9;have b3:=aa b0 al1
 go_wp2_with fail
 refine(HR.out _ _ b3 q2).mono ?_;rintro zz w4 ⟨rfl,bb5⟩;have b6:=aa b3 bb5;clear q2 b3 bb5 b0 al1
 go_wp2
 go_ret3
 exact⟨rfl,b6⟩
def iZ (t:ak):Prop:=t.n<2^64∧ -16500≤t.e∧t.e≤16500
theorem adR {t:ak}(h:iZ t):bitLen t.n≤64:=bF _ _ h.1
theorem VZ {k:Nat}(hk:1≤k∧k≤8)(s:ByteArray)(hc:dh k (aZ k s) (aR k s) (aU k s)=2):(ji k (aZ k s) (aR k s) (aU k s)).n<2^64∧ -16445≤(ji k (aZ k s) (aR k s) (aU k s)).e∧(ji k (aZ k s) (aR k s) (aU k s)).e≤16464∧(ji k (aZ k s) (aR k s) (aU k s)).n≠0:=by
 obtain⟨s1,s2⟩:=Cu k s;have h64:=mZ hk s2;obtain⟨v1,v2,-,-⟩:=J9 hk s1 s2 hc;have hb:=rT hk s1 s2 h64 hc (Nat.ne_of_gt (jX hc));have hT:=iq hk s1 s2 hc;rw[wQ hk] at hT;refine⟨?_,v1,v2, ?_⟩
 ·rw[hT,←hb]
  exact Nat.lt_of_le_of_lt (kR _) (J8 hk _ _ h64)
 ·rw[hT]
  exact(gN (t:=⟨_,_,_⟩) (Nat.ne_of_gt (jX hc))).1
theorem ir {k:Nat}(hk:1≤k∧k≤8){p:ByteArray}(h:dF (k:Int) p=0):iZ (opT (k:Int) p)∧(bM (k:Int) p≠2→opT (k:Int) p=⟨false,0,0⟩)∧(bM (k:Int) p=2→(opT (k:Int) p).n≠0):=by
 have e:opT (k:Int) p=ji k (aZ k p) (aR k p) (aU k p):=by
  unfold opT nxT;rw[if_pos h,Int.toNat_natCast]
 have ec:bM (k:Int) p=dh k (aZ k p) (aR k p) (aU k p):=by
  unfold bM;rw[if_pos h,Int.toNat_natCast]
 rw[e,ec]
 by_cases hc:dh k (aZ k p) (aR k p) (aU k p)=2
 ·obtain⟨s1,s2,s3,s4⟩:=VZ hk p hc
  exact⟨⟨s1,by omega,by omega⟩,fun c=>absurd hc c,fun _=>s4⟩
 ·have:=Fm hk (ng:=aZ k p) (E:=aR k p) (F:=aU k p) hc
  rw[this];exact⟨⟨by show(0:Nat)<2^64;exact Nat.two_pow_pos 64,by show(-16500:Int)≤0;omega,by show(0:Int)≤16500;omega⟩,fun _=>rfl,fun c=>absurd c hc⟩
def nu (t:ak)(sg:Bool):Int×Bool×ak×Int:=(vI t,xr t sg,tF t,0)
abbrev opV (c:Int)(g:Bool)(t:ak)(o:Option Addr)(k:Nat):Value:=(yOV c g t o k)
abbrev rdT (w:World)(t:ak)(o:Option Addr)(k:Nat):Prop:=Rd w .u32 (.slice o (Dg.dg 4294967296 t.n).length k) (Dg.dg 4294967296 t.n)
theorem zw {a b x:Nat}(h:x<2^a)(hab:a≤b):x<2^b:=Nat.lt_of_lt_of_le h (Nat.pow_le_pow_right (by omega) hab)
theorem xt {t:ak}{sg:Bool}(hn:sH t)(h:(nu t sg).1=2):(nu t sg).2.2.1.n≠0∧sH (nu t sg).2.2.1:=by
 have h0:t.n≠0:=fun c=>by
  have:vI t=2:=h;unfold vI at this;rw[if_pos c] at this;omega
 have e:(nu t sg).2.2.1=t:=if_neg h0;rw[e];exact⟨h0,hn⟩
theorem RK {R D L G:Int}{gr s:Bool}{n:Nat}{e way:Int}(h1:1≤D)(hLG:L≤G)(h0:n≠0)(hh:dA R D L G gr n e=true):(cI R D L G gr s n 1 e way).ex=true∧L≤cP R D L gr n e:=by
 have hs:L≤cP R D L gr n e∧cP R D L gr n e≤G∧(ai R:Int)*cP R D L gr n e≤e+(tz n:Int):=by
  unfold dA at hh
  rcases of_decide_eq_true hh with h|h
  ·exact absurd h h0
  ·exact h
 have hc:dj R D L gr n 1 e=cP R D L gr n e:=by
  unfold dj cP;rw[lU h0]
 refine⟨?_,hs.1⟩;rw[kJ gr s n 1 e way h1 hLG h0 (by omega)];refine decide_eq_true ?_;unfold gF shP;rw[hc];exact(nV s n e _ hs.2.2).1
theorem OC {k:Nat}(hk:1≤k∧k≤8)(way:Int)(g:Bool)(t:ak)(fl:Int)(h0:t.n≠0)(hh:dA (rdN k:Int) (dgN k:Int) (lsI k) (gsI k) (decide (k≤3)) t.n t.e=true)
  {xs:List Nat} {p:Int} (sa:Dg.Small 4294967296 xs) (hc:chk xs=0) (he:enE k t.s xs p=0) (hb:bare ⟨t.s,Dg.vl 4294967296 xs,(ai (rdN k:Int):Int)*p⟩=bare t):
  m8 k way 2 g t fl=(fq (k:Int) 2 t.s xs p,bits .or .i64 fl 0,0):=by
 obtain⟨-,-,d1,-,-,-,lg,-,w64,-,-,hg⟩:=eR hk;have hD:(1:Int)≤(dgN k:Int):=by omega
 obtain⟨o1,o2,o3⟩:=mC (s:=t.s) (way:=way) hD lg h0 hh;obtain⟨q1,q2,q3,q4⟩:=oj (s:=t.s) (way:=way) hD lg h0 hh;obtain⟨ex,hL⟩:=RK (s:=t.s) (way:=way) hD lg h0 hh;have hsp:ia (rdN k:Int) (dgN k:Int) (lsI k) (gsI k) (decide (k≤3)) (fY k way t).d (fY k way t).p:=nW hD lg h0 (by omega) o1 o2;obtain⟨l15,p1,p2,-,-,-⟩:=qj hg hsp;have hd:(fY k way t).d≠0:=fun c=>q4 (q2.symm.trans c)
 have hs:(fY k way t).s=t.s:=q1;have hset:pG k way (fY k way t)=(2,t.s,(fY k way t).d,(fY k way t).p,0):=by
  unfold pG;rw[if_neg (fun c=>by rw[show(fY k way t).ov=false from o1] at c;cases c),if_neg (fun c=>by have:=c.2;rw[show(fY k way t).p=cP (rdN k:Int) (dgN k:Int) (lsI k) (decide (k≤3)) t.n t.e from q3] at this;omega),if_neg hd,if_pos (show(fY k way t).ex=true from ex),hs]
 have hcd:chk (Dg.dg 4294967296 (fY k way t).d)=0:=pJ (Dg.norm_dg _ _ (by omega)) (by omega);have hl0:(Dg.dg 4294967296 (fY k way t).d).length≠0:=fun c=>hd ((Dg.dg_nil_iff 4294967296 _ (by omega)).1 (List.length_eq_zero_iff.1 c))
 have hv:=Dg.vl_dg 4294967296 (fY k way t).d (by omega);have hb2:bare ⟨t.s,Dg.vl 4294967296 (Dg.dg 4294967296 (fY k way t).d),(ai (rdN k:Int):Int)*(fY k way t).p⟩=bare t:=by
  rw[hv];have:=o3;rw[q1] at this;exact this
 have hE:enE k t.s (Dg.dg 4294967296 (fY k way t).d) (fY k way t).p=0:=by
  rw[mY hk hcd hl0 (by omega),hb2,jK _ _ lg,hh,if_pos rfl]
 unfold m8 Dw;rw[if_pos rfl,hset];simp only;rw[(xH hk hcd).1,hE,if_pos rfl,(xH hk hcd).2,(xH hk hc).2];rw[Oe sa (Dg.small_dg _ _ (by omega)) hc hcd he hE (hb2.trans hb.symm)]
theorem fm_is {k:Nat}(hk:1≤k∧k≤8):((fmN k:Nat):Int)=dK (k:Int):=by
 rcases bO hk with rfl|rfl|rfl|rfl|rfl|rfl|rfl|rfl<;>rfl
theorem form_any (k:Nat)(hk:1≤k∧k≤8)(w:World):yC 35 #[yi (k:Int)] w (yR w (.tuple #[.agg #[yi (szN k:Int),yi (exN k:Int),yi (frN k:Int),yi (rdN k:Int),yi (dgN k:Int),yi (lsI k),yi (gsI k),.bool (decide (k≤3)),yi (dK (k:Int))],.bool true])):=by
 have:=sU k hk w;rw[fm_is hk] at this;exact this
theorem refNothing_any (k:Nat)(hk:1≤k∧k≤8)(w:World):yC 117 #[yi (k:Int)] w (yR w (yoV (AZ (dK (k:Int))) false false (.slice none 0 0) 0)):=by
 have HF:=fun w1=>form_any k hk w1
 rcases qt hk with h|h|h<;>rw[h] at HF⊢
 ·exact aa4 _ _ _ _ _ _ _ _ _ _ w HF
 ·exact aa5 _ _ _ _ _ _ _ _ _ _ w HF
 ·exact aa6 _ _ _ _ _ _ _ _ _ _ w HF
theorem refZero_any (k:Nat)(hk:1≤k∧k≤8)(ng:Bool)(w:World):yC 38 #[yi (k:Int),.bool ng] w (yR w (yoV 1 (ng&&decide (dK (k:Int)=1)) false (.slice none 0 0) 0)):=
 aej _ _ _ _ _ _ _ _ _ _ _ _ w (fun w1=>form_any k hk w1)
theorem refW_any (k:Nat)(hk:1≤k∧k≤8)(D L G:Int)(gr:Bool)(w:World):yC 116 #[ygV (rdN k:Int) D L G gr] w (yR w (yi (ai (rdN k:Int):Int))):=by
 have:=eG (rdN k:Int) D L G gr w;rw[wQ hk] at this;exact this
def gtT (k:Nat)(ng:Bool):ak:=bare ⟨ng,rdN k^dgN k-1,(ai (rdN k:Int):Int)*gsI k⟩
theorem rd_pow {k:Nat}(hk:1≤k∧k≤8):rdN k^dgN k=2^ (ai (rdN k:Int)*dgN k):=by
 rcases bO hk with rfl|rfl|rfl|rfl|rfl|rfl|rfl|rfl<;>rfl
theorem refGreatest_any (k:Nat)(hk:1≤k∧k≤8)(ng:Bool)(w:World):yC 130 #[yi (k:Int),.bool ng] w (RVg w 2 ng (gtT k ng)):=by
 obtain⟨-,-,d1,-,-,-,lg,g2,w64,w4,w1',hg⟩:=eR hk;have hge:(ai (rdN k:Int):Int)*gsI k≤16384∧ -16384≤(ai (rdN k:Int):Int)*gsI k:=by
  rcases bO hk with rfl|rfl|rfl|rfl|rfl|rfl|rfl|rfl<;>decide
 have hL: ∀{x:Nat},x≤2^ (ai (rdN k:Int)*dgN k)→(Dg.dg 65536 x).length≤10:=fun {x} hx=>by
  refine Dg.dg_len_le 65536 _ _ (by omega) (Nat.lt_of_le_of_lt hx ?_);refine Nat.lt_of_le_of_lt (Nat.pow_le_pow_right (by omega) w64) (by decide)
 unfold gtT;rw[rd_pow hk];refine aaB (k:Int) _ _ _ (rdN k:Int) (dgN k:Int) (lsI k) (gsI k) _ (ai (rdN k:Int):Int) ((ai (rdN k:Int)*dgN k:Nat):Int) ((ai (rdN k:Int):Int)*gsI k) _ _ ng (2^ (ai (rdN k:Int)*dgN k)) _ w ?_ ?_ (fun w1=>form_any k hk w1) (fun w1=>refW_any k hk _ _ _ _ w1) (fun w1=>vJ _ (by omega) w1) (fun vo vc q w1 hv hq=> ?_) (fun vo vc w1 hv=> ?_)
 ·rw[←Int.natCast_mul]
  exact IntWalk.i64_in _ ⟨by omega,by omega⟩
 ·exact IntWalk.i64_in _ ⟨by omega,by omega⟩
 ·have hp:1≤2^ (ai (rdN k:Int)*dgN k):=bG _
  have hq1:Rd w1 .i64 (.slice (some ⟨q,0,none⟩) 1 1) [1]:=⟨_,1,rfl,Nat.le_refl _,by unfold maxLen;omega,fun _=>⟨q,0,rfl,fun i hi=>by
   obtain rfl:i=0:=by simpa using hi
   exact hq⟩⟩
  have hne:(Dg.dg 65536 (2^ (ai (rdN k:Int)*dgN k))).length≠0:=fun c=>by
   have:=(Dg.dg_nil_iff 65536 _ (by omega)).1 (List.length_eq_zero_iff.1 c);omega
  have:=kI (.slice vo (Dg.dg 65536 (2^ (ai (rdN k:Int)*dgN k))).length vc) (.slice (some ⟨q,0,none⟩) 1 1) _ [1] w1 hv hq1 (Dg.small_dg _ _ (by omega)) (Dg.small_cons.2 ⟨by omega,Dg.small_nil _ (by omega)⟩) (by have:=hL (Nat.le_refl (2^ (ai (rdN k:Int)*dgN k)));omega) (by simp;omega) (by rw[Dg.vl_dg _ _ (by omega),show Dg.vl 65536 [1]=1 from rfl];exact hp)
  rwa [Dg.vl_dg _ _ (by omega),show Dg.vl 65536 [1]=1 from rfl] at this
 ·exact lA _ ⟨ng,2^ (ai (rdN k:Int)*dgN k)-1,(ai (rdN k:Int):Int)*gsI k⟩ w1 ⟨_,rfl,hv⟩ (by have:=hL (Nat.sub_le (2^ (ai (rdN k:Int)*dgN k)) 1);simp only;omega) (by simp only;omega) (by simp only;omega)
def plV (k:Nat)(wy:Int)(P:fz):Int×Bool×ak×Int:=
 if P.ov=true then(if dK (k:Int)=3 then(5,false,⟨false,0,0⟩,5) else if dK (k:Int)=1∧aaV wy P.s=true then(3,P.s,⟨false,0,0⟩,5) else(2,P.s,gtT k P.s,5))
 else if P.un=true∧P.p<lsI k then(1,false,⟨false,0,0⟩,3)
 else if P.d=0 then(1,P.s,⟨false,0,0⟩,if P.ex=true then 0 else if P.un=true then 3 else 1)
 else(2,P.s,bare ⟨P.s,P.d,(ai (rdN k:Int):Int)*P.p⟩,if P.ex=true then 0 else if P.un=true then 3 else 1)
structure Plc (k:Nat) (P:fz):Prop where
 low:dK (k:Int)=1→P.p<lsI k→P.ov=true
 same:dK (k:Int)≠1→P.ov=false→P.un=true→P.ex=true→P.p<lsI k
 nil:P.ov=false→P.d=0→dK (k:Int)=1
 len:(Dg.dg 65536 P.d).length≤100000
 far:P.ov=false→(P.un=true∧P.p<lsI k)∨(-17000≤P.p∧P.p≤17000)
theorem placed_any (k:Nat)(hk:1≤k∧k≤8)(wy:Int)(hw:1≤wy∧wy≤5)(P:fz)(hP:Plc k P)(po:Option Addr)(pc:Nat)(w:World)(hr:Rd w .i64 (.slice po (Dg.dg 65536 P.d).length pc) (Dg.dg 65536 P.d)):
  yC 91 #[yi (k:Int),ypV P.s (.slice po (Dg.dg 65536 P.d).length pc) P.p P.ex P.ov P.un,yi wy] w (RVG w (plV k wy P).1 (plV k wy P).2.1 (plV k wy P).2.2.1 (plV k wy P).2.2.2):=by
 have HF:=fun w1=>form_any k hk w1
 have HN:=fun w1=>refNothing_any k hk w1
 have HG:=fun g w1=>refGreatest_any k hk g w1
 have HZ:=fun g w1=>refZero_any k hk g w1
 have HW:=fun D L G gr w1=>refW_any k hk D L G gr w1
 have wl:=eN (rdN k:Int);obtain⟨h1,h2,h3,h4,h5⟩:=hP;obtain⟨ps,pd,pp,ex,ov,un⟩:=P;simp only at h1 h2 h3 h4 h5 hr;unfold plV;simp only
 cases ov
 ·rw[if_neg (by decide)]
  by_cases hl:un=true∧pp<lsI k
  ·rw[if_pos hl]
   obtain⟨rfl,hl⟩:=hl;have hf:dK (k:Int)≠1:=fun c=>absurd (h1 c hl) (by decide)
   have hf2:1<dK (k:Int):=by rcases qt hk with h|h|h<;>omega
   have hz:(false&&decide (dK (k:Int)=1))=false:=rfl;have HZ':=HZ false;rw[hz] at HZ';exact refPl_low ex false _ _ _ _ _ _ _ _ _ _ _ _ _ _ _ _ _ w (by simpa using hf) hf2 hl HF HZ'
  rw[if_neg hl]
  by_cases hd:pd=0
  ·rw[if_pos hd]
   subst hd;have hf:=h3 rfl rfl;have HZ':=HZ ps;rw[show(ps&&decide (dK (k:Int)=1))=ps from by rw[hf];simp] at HZ'
   rw[hf] at HF
   cases ex<;>cases un
   ·exact aeG ps _ _ _ _ _ _ _ _ _ _ _ _ _ _ _ _ w HF HZ'
   ·exact aeh ps _ _ _ _ _ _ _ _ _ _ _ _ _ _ _ w HF HZ'
   ·exact aeE ps _ _ _ _ _ _ _ _ _ _ _ _ _ _ _ _ w HF HZ'
   ·exact aef ps _ _ _ _ _ _ _ _ _ _ _ _ _ _ _ w HF HZ'
  rw[if_neg hd];have hz:(((Dg.dg 65536 pd).length:Int)==0)=false:=by
   have:(Dg.dg 65536 pd).length≠0:=fun c=>hd ((Dg.dg_nil_iff 65536 _ (by omega)).1 (List.length_eq_zero_iff.1 c))
   simpa using this
  have hpr:=(h5 rfl).resolve_left hl;have hE:IntKind.i64.wrap ((ai (rdN k:Int):Int)*pp)=(ai (rdN k:Int):Int)*pp:=by
   have:=CU (R:=(rdN k:Int)) hpr.1 hpr.2;exact IntWalk.i64_in _ ⟨by omega,by omega⟩
  have HB: ∀w1,yB w w1→yC 79 #[ydV ps (.slice po (Dg.dg 65536 pd).length pc) ((ai (rdN k:Int):Int)*pp)] w1 (di w1 (bare ⟨ps,pd,(ai (rdN k:Int):Int)*pp⟩)):=fun w1 b=>by
   have:=CU (R:=(rdN k:Int)) hpr.1 hpr.2;exact lA _ ⟨ps,pd,(ai (rdN k:Int):Int)*pp⟩ w1 ⟨_,rfl,hr.l b⟩ h4 (by simp only;omega) (by simp only;omega)
  by_cases hf:dK (k:Int)=1
  ·rw[hf] at HF
   cases ex<;>cases un
   ·exact aeH _ _ _ _ _ _ _ _ _ _ _ _ _ _ _ _ _ _ _ _ w hz hE HF (fun w1=>HW _ _ _ _ w1) HB
   ·exact aei _ _ _ _ _ _ _ _ _ _ _ _ _ _ _ _ _ _ _ w hz hE HF (fun w1=>HW _ _ _ _ w1) HB
   ·exact aeF _ _ _ _ _ _ _ _ _ _ _ _ _ _ _ _ _ _ _ _ w hz hE HF (fun w1=>HW _ _ _ _ w1) HB
   ·exact aeg _ _ _ _ _ _ _ _ _ _ _ _ _ _ _ _ _ _ _ w hz hE HF (fun w1=>HW _ _ _ _ w1) HB
  ·have hf2:1<dK (k:Int):=by rcases qt hk with h|h|h<;>omega
   cases ex<;>cases un
   ·exact aeH _ _ _ _ _ _ _ _ _ _ _ _ _ _ _ _ _ _ _ _ w hz hE HF (fun w1=>HW _ _ _ _ w1) HB
   ·exact aeI _ _ _ _ _ _ _ _ _ _ _ _ _ _ _ _ _ _ _ _ w (by simpa using hf) hf2 (fun c=>hl ⟨rfl,c⟩) hz hE HF (fun w1=>HW _ _ _ _ w1) HB
   ·exact aeF _ _ _ _ _ _ _ _ _ _ _ _ _ _ _ _ _ _ _ _ w hz hE HF (fun w1=>HW _ _ _ _ w1) HB
   ·exact absurd (h2 hf rfl rfl rfl) (fun c=>hl ⟨rfl,c⟩)
 ·rw[if_pos rfl]
  rcases qt hk with hf|hf|hf
  ·rw[if_neg (by omega)]
   rw[hf] at HF;have hw':wy=1∨wy=2∨wy=3∨wy=4∨wy=5:=by omega
   rcases hw' with rfl|rfl|rfl|rfl|rfl
   ·rw[if_pos ⟨hf,rfl⟩]
    exact refPl_u1 ex _ _ _ _ _ _ _ _ _ _ _ _ _ _ _ _ w HF
   ·rw[if_pos ⟨hf,rfl⟩]
    exact refPl_u2 ex _ _ _ _ _ _ _ _ _ _ _ _ _ _ _ _ w HF
   ·have ho:aaV 3 ps=false:=by cases ps<;>rfl
    rw[if_neg (by rw[ho];simp)];exact refPl_i3 ex _ _ _ _ _ _ _ _ _ _ _ _ _ _ _ _ _ w HF (fun w1=>HG ps w1)
   ·cases ps
    ·rw[if_pos ⟨hf,rfl⟩]
     exact refPl_u4 ex _ _ _ _ _ _ _ _ _ _ _ _ _ _ _ w HF
    ·rw[if_neg (by simp[aaV])]
     exact refPl_i4 ex _ _ _ _ _ _ _ _ _ _ _ _ _ _ _ _ w HF (fun w1=>HG true w1)
   ·cases ps
    ·rw[if_neg (by simp[aaV])]
     exact refPl_i5 ex _ _ _ _ _ _ _ _ _ _ _ _ _ _ _ _ w HF (fun w1=>HG false w1)
    ·rw[if_pos ⟨hf,rfl⟩]
     exact refPl_u5 ex _ _ _ _ _ _ _ _ _ _ _ _ _ _ _ w HF
  ·rw[if_neg (by omega),if_neg (fun c=>by omega)]
   rw[hf] at HF;exact refPl_o2 ex _ _ _ _ _ _ _ _ _ _ _ _ _ _ _ _ _ _ w HF (fun w1=>HG ps w1)
  ·rw[if_pos hf]
   rw[hf] at HF HN;exact refPl_o3 ex _ _ _ _ _ _ _ _ _ _ _ _ _ _ _ _ _ w HF HN
theorem acu {k:Nat}(hk:1≤k∧k≤8){p:ByteArray}(h:dF (k:Int) p=0):
  opT (k:Int) p=rfT (k:Int) p∧dz (k:Int) p=rfG (k:Int) p∧bM (k:Int) p=dh k (aZ k p) (aR k p) (aU k p)∧rfT (k:Int) p=nxT k p:=by
 unfold opT rfT dz rfG bM nxT;rw[if_pos h,if_pos h,if_pos h,Int.toNat_natCast,Nu hk];exact⟨rfl,rfl,rfl,rfl⟩
def gV (a b:ak)(B:Nat):Nat:=B+bitLen b.n-bitLen a.n
def cK (a b:ak)(B:Nat):ak:=d8 (a.s != b.s) (a.n*2^gV a b B/b.n) (a.e-b.e-(gV a b B:Int)) (decide (0<a.n*2^gV a b B % b.n))
theorem Jw (v u:Value)(a b:ak)(B:Nat)(w:World)(hv:Dv w v a)(hu:Dv w u b)(hb0:0<b.n)(hLa:(Dg.dg 4294967296 a.n).length≤3000)(hLb:(Dg.dg 4294967296 b.n).length≤3000)
  (ha1: -100000≤a.e) (ha2:a.e≤100000) (hb1: -100000≤b.e) (hb2:b.e≤100000) (hB:B≤10000):
  yC 129 #[v,u,yi B] w (jN w (cK a b B)):=by
 obtain⟨s0,rfl,ra⟩:=hv;obtain⟨s1,rfl,rb⟩:=hu;obtain⟨sa,an,ae⟩:=a;obtain⟨sb,bn,be⟩:=b;simp only at ra rb hLa hLb ha1 ha2 hb1 hb2 hb0⊢;have hla:=gf hLa;have hlb:=gf hLb;have HBA:Hid (∀w1,yB w w1→yC 176 #[s0] w1 fun z w'=>z= .returned (yi (bitLen an:Nat))∧w'=w1):=fun w1 b1=>by
  have:=kE s0 _ w1 (ra.l b1) (Dg.small_dg _ _ (by omega)) (Dg.norm_dg _ _ (by omega)) (by omega)
  rwa [Dg.vl_dg _ _ (by omega)] at this
 have HBB:Hid (∀w1,yB w w1→yC 176 #[s1] w1 fun z w'=>z= .returned (yi (bitLen bn:Nat))∧w'=w1):=fun w1 b1=>by
  have:=kE s1 _ w1 (rb.l b1) (Dg.small_dg _ _ (by omega)) (Dg.norm_dg _ _ (by omega)) (by omega)
  rwa [Dg.vl_dg _ _ (by omega)] at this
 unfold cK gV;simp only;have hsm:max (0:Int) ((B:Int)+(bitLen bn:Int)-(bitLen an:Int))=((B+bitLen bn-bitLen an:Nat):Int):=by omega
 have hshl:B+bitLen bn-bitLen an≤106000:=by omega
 obtain⟨sh,hsh⟩: ∃sh,B+bitLen bn-bitLen an=sh:=⟨_,rfl⟩;rw[hsh] at hsm hshl⊢;have HSF:Hid (∀w1,yB w w1→yC 177 #[s0,yi sh] w1 (Num w1 (an*2^sh))):=fun w1 b1=>by
  have:=eO s0 _ (sh:Int) w1 (ra.l b1) (Dg.small_dg _ _ (by omega)) (by omega) (by omega) (by omega);rw[Dg.vl_dg _ _ (by omega),CE _ _ (by omega),Int.toNat_natCast] at this;exact this
 have hml:=CF an sh 3000 3313 hLa (by omega);have HOV:Hid (∀v1 w1,yB w w1→Rd w1 .u32 v1 (Dg.dg 4294967296 (an*2^sh))→yC 178 #[v1,s1] w1 (Two w1 (an*2^sh/bn) (an*2^sh % bn))):=fun v1 w1 b1 r=>by
  have:=A9 v1 s1 _ _ w1 r (rb.l b1) (Dg.small_dg _ _ (by omega)) (Dg.small_dg _ _ (by omega)) (Dg.norm_dg _ _ (by omega)) (Dg.norm_dg _ _ (by omega)) (by rw[Ne,Dg.dg_nil_iff _ _ (by omega)];omega) (by omega)
  rwa [Dg.vl_dg _ _ (by omega),Dg.vl_dg _ _ (by omega)] at this
 have hql:(Dg.dg 4294967296 (an*2^sh/bn)).length≤500000:=Nat.le_trans (aH 4294967296 _ _ (by omega) (Nat.div_le_self _ _)) (by omega);obtain⟨Q,hQ⟩: ∃Q,an*2^sh/bn=Q:=⟨_,rfl⟩;obtain⟨M,hM⟩: ∃M,an*2^sh % bn=M:=⟨_,rfl⟩;rw[hQ,hM] at HOV⊢;rw[hQ] at hql;have HEN:Hid (∀v1 lf w1,decide (0<M)=lf→Rd w1 .u32 v1 (Dg.dg 4294967296 Q)→yC 179 #[.bool (sa != sb),v1,yi (ae-be-(sh:Int)),.bool lf] w1 (jN w1 (d8 (sa != sb) Q (ae-be-(sh:Int)) (decide (0<M))))):=fun v1 lf w1 h r=>by
  rw[h];exact xG _ v1 Q _ lf w1 r hql (by omega) (by omega)
 obtain⟨⟨zs,zn,ze⟩,hz⟩: ∃r,d8 (sa != sb) Q (ae-be-(sh:Int)) (decide (0<M))=r:=⟨_,rfl⟩;rw[hz] at HEN⊢;have hMz:(0< (Dg.dg 4294967296 M).length)↔0<M:=by
  rw[List.length_pos_iff,Ne,Dg.dg_nil_iff _ _ (by omega)];omega
 obtain⟨ao,ca,rfl⟩:=ra.shape;obtain⟨bo,cb,rfl⟩:=rb.shape;obtain⟨ma,hma⟩: ∃m,(Dg.dg 4294967296 an).length=m:=⟨_,rfl⟩;obtain⟨mb,hmb⟩: ∃m,(Dg.dg 4294967296 bn).length=m:=⟨_,rfl⟩;obtain⟨la0,hla0⟩: ∃m,bitLen an=m:=⟨_,rfl⟩;obtain⟨lb0,hlb0⟩: ∃m,bitLen bn=m:=⟨_,rfl⟩;rw[hma] at HBA HSF⊢;rw[hmb] at HBB HOV⊢;rw[hla0] at HBA hla hsm;rw[hlb0] at HBB hlb hsm;clear hz hma hmb hla0 hlb0 hQ hM ra rb hLa hLb hsh hml hb0 hql;obtain⟨la,lb,lc,bb,-⟩:=ju w (.bool sa) (.slice ao ma ca) (yi ae) (.bool sb) (.slice bo mb cb) (yi be) (.bool false) (.slice none 0 0) (yi 0) 96 96 96;obtain⟨W,hW⟩: ∃W,(((w.alloc (.cells (ydA sa (.slice ao ma ca) ae) 96)).alloc (.cells (ydA sb (.slice bo mb cb) be) 96)).alloc (.cells (ydA false (.slice none 0 0) 0) 96))=W:=⟨_,rfl⟩;rw[hW] at la lb lc bb;have bd:yB W W.drew:=(Below.refl _ _).drew;have la1:=la.l bd;have lb1:=lb.l bd;have lc1:=lc.l bd;have b01:=aa bb bd;rw[←hW] at la1 lb1 lc1 b01;obtain⟨-,⟨c0,c1,c2⟩,-⟩:=id la1;obtain⟨-,⟨c3,c4,c5⟩,-⟩:=id lb1;have hw1:IntKind.i64.wrap ((B:Int)+(lb0:Int))=(B:Int)+(lb0:Int):=IntWalk.i64_in _ ⟨by omega,by omega⟩;have hw2:IntKind.i64.wrap ((B:Int)+(lb0:Int)-(la0:Int))=(B:Int)+(lb0:Int)-(la0:Int):=IntWalk.i64_in _ ⟨by omega,by omega⟩;clear la lb lc bb bd hW
 go_enter func129,ntmps129
 go_wp2_with fail
 go_region_held3 (fun wq=>(wq.cell? ⟨w.heap.size,0,none⟩=some (.bool sa)∧wq.cell? ⟨w.heap.size,1,none⟩=some (.slice ao ma ca)∧wq.cell? ⟨w.heap.size,2,none⟩=some (yi ae))∧wq.cell? ⟨w.heap.size+1,0,none⟩=some (.bool sb)∧wq.cell? ⟨w.heap.size+1,1,none⟩=some (.slice bo mb cb)∧wq.cell? ⟨w.heap.size+1,2,none⟩=some (yi be)) (go_keep) (first
  | (go_at_call 172;refine(cN sb bo mb cb be _).mono ?_;rintro z w2 ⟨rfl,b2⟩;have la2:=la1.l b2;have lb2:=lb1.l b2;have lc2:=lc1.l b2;have b02:=aa b01 b2;obtain⟨-,⟨p0,p1,p2⟩,-⟩:=id la2;obtain⟨-,⟨p3,p4,p5⟩,-⟩:=id lb2;clear b01)
  | (go_at_call 176;refine(HBB.out w2 b02).mono ?_;rintro z w3 ⟨rfl,rfl⟩;clear HBB)
  | (go_at_call 172;refine(cN sa ao ma ca ae _).mono ?_;rintro z w4 ⟨rfl,b4⟩;have la4:=la2.l b4;have lb4:=lb2.l b4;have lc4:=lc2.l b4;have b04:=aa b02 b4;obtain⟨-,⟨q0,q1,q2⟩,-⟩:=id la4;obtain⟨-,⟨q3,q4,q5⟩,-⟩:=id lb4)
  | (go_at_call 176;refine(HBA.out w4 b04).mono ?_;rintro z w5 ⟨rfl,rfl⟩))
 clear c0 c1 c2 c3 c4 c5 p0 p1 p2 p3 p4 p5 q0 q1 q2 q3 q4 q5 la1 lb1 lc1 la2 lb2 lc2 b02 b2 b4;have bd:yB w5 w5.drew:=(Below.refl _ _).drew;have la5:=la4.l bd;have lb5:=lb4.l bd;have lc5:=lc4.l bd;have b05:=aa b04 bd;obtain⟨-,⟨c0,c1,c2⟩,-⟩:=id la5;obtain⟨-,⟨c3,c4,c5⟩,-⟩:=id lb5;clear la4 lb4 lc4 b04 bd
 go_wp2_with fail
 go_region_held3 (fun wq=>(wq.cell? ⟨w.heap.size,0,none⟩=some (.bool sa)∧wq.cell? ⟨w.heap.size,1,none⟩=some (.slice ao ma ca)∧wq.cell? ⟨w.heap.size,2,none⟩=some (yi ae))∧wq.cell? ⟨w.heap.size+1,0,none⟩=some (.bool sb)∧wq.cell? ⟨w.heap.size+1,1,none⟩=some (.slice bo mb cb)∧wq.cell? ⟨w.heap.size+1,2,none⟩=some (yi be)) (go_keep) (first
  | (go_at_call 172;refine(cN sa ao ma ca ae _).mono ?_;rintro z w6 ⟨rfl,b6⟩;have la6:=la5.l b6;have lb6:=lb5.l b6;have lc6:=lc5.l b6;have b06:=aa b05 b6;obtain⟨-,⟨p0,p1,p2⟩,-⟩:=id la6;obtain⟨-,⟨p3,p4,p5⟩,-⟩:=id lb6;clear b05)
  | (go_at_call 177;refine(HSF.out w6 b06).mono ?_;rintro z w7 ⟨v7,rfl,o7,b7⟩;have la7:=la6.l b7;have lb7:=lb6.l b7;have lc7:=lc6.l b7;have b07:=aa b06 b7;obtain⟨-,⟨q0,q1,q2⟩,-⟩:=id la7;obtain⟨-,⟨q3,q4,q5⟩,-⟩:=id lb7)
  | (go_at_call 172;refine(cN sb bo mb cb be _).mono ?_;rintro z w8 ⟨rfl,b8⟩;have la8:=la7.l b8;have lb8:=lb7.l b8;have lc8:=lc7.l b8;have b08:=aa b07 b8;have r8:=(o7.l b8).rd;obtain⟨-,⟨t0,t1,t2⟩,-⟩:=id la8;obtain⟨-,⟨t3,t4,t5⟩,-⟩:=id lb8)
  | (go_at_call 178;refine(HOV.out _ w8 b08 r8).mono ?_;rintro z w9 ⟨vq,vr,rfl,oq,orr,b9⟩;have la9:=la8.l b9;have lb9:=lb8.l b9;have lc9:=lc8.l b9;have b09:=aa b08 b9;obtain⟨-,⟨x0,x1,x2⟩,-⟩:=id la9;obtain⟨-,⟨x3,x4,x5⟩,-⟩:=id lb9))
 have rq:=oq.rd;obtain⟨ro,rc,hvr⟩:=orr.rd.shape;subst hvr;have hlt:=lc9.1;clear c0 c1 c2 c3 c4 c5 p0 p1 p2 p3 p4 p5 q0 q1 q2 q3 q4 q5 t0 t1 t2 t3 t4 t5 la5 lb5 lc5 la6 lb6 lc6 la7 lb7 lc7 la8 lb8 lc8 b06 b6 b07 b7 b08 b8 b9 o7 r8 oq orr HBA HSF HOV;have hw3:IntKind.i64.wrap (ae-be)=ae-be:=IntWalk.i64_in _ ⟨by omega,by omega⟩;have hw4:IntKind.i64.wrap (ae-be-(sh:Int))=ae-be-(sh:Int):=IntWalk.i64_in _ ⟨by omega,by omega⟩
 by_cases hM0:0<M
 ·have hlen:=hMz.2 hM0
  have HD:Hid (decide (0<M)=true):=decide_eq_true hM0;clear hMz hM0
  go_wp2_with fail
  refine(HEN.out _ true _ HD.out rq).mono ?_;rintro z w10 ⟨vz,rfl,oz,b10⟩;have lc10:=lc9.l b10;have b010:=aa b09 b10;obtain⟨zo,zc,hvz⟩:=oz.rd.shape;subst hvz;obtain⟨hl6,⟨d0,d1,d2⟩,f0,f1,f2⟩:=id lc10;clear x0 x1 x2 x3 x4 x5 b10 rq la9 lb9;obtain⟨-,⟨g0,g1,g2⟩,-⟩:=aD lc10 (.bool zs) (.slice zo (Dg.dg 4294967296 zn).length zc) (yi ze);have o11:=oz.apart3 (b:=w.heap.size+1+1) hlt (.bool zs) (.slice zo (Dg.dg 4294967296 zn).length zc) (yi ze);have b11:=am b010 (show w.heap.size≤w.heap.size+1+1 by omega) (.bool zs) (.slice zo (Dg.dg 4294967296 zn).length zc) (yi ze)
  go_wp2
  refine bodyPost_ret (v:=(ydV zs (.slice zo (Dg.dg 4294967296 zn).length zc) ze)) (by simp[results,results129,go_sem,g0,g1,g2]) rfl ?_;exact⟨_,rfl,o11.lower b09.size,b11⟩
 ·have hlen: ¬0< (Dg.dg 4294967296 M).length:=fun h=>hM0 (hMz.1 h)
  have HD:Hid (decide (0<M)=false):=decide_eq_false hM0;clear hMz hM0
  go_wp2_with fail
  refine(HEN.out _ false _ HD.out rq).mono ?_;rintro z w10 ⟨vz,rfl,oz,b10⟩;have lc10:=lc9.l b10;have b010:=aa b09 b10;obtain⟨zo,zc,hvz⟩:=oz.rd.shape;subst hvz;obtain⟨hl6,⟨d0,d1,d2⟩,f0,f1,f2⟩:=id lc10;clear x0 x1 x2 x3 x4 x5 b10 rq la9 lb9;obtain⟨-,⟨g0,g1,g2⟩,-⟩:=aD lc10 (.bool zs) (.slice zo (Dg.dg 4294967296 zn).length zc) (yi ze);have o11:=oz.apart3 (b:=w.heap.size+1+1) hlt (.bool zs) (.slice zo (Dg.dg 4294967296 zn).length zc) (yi ze);have b11:=am b010 (show w.heap.size≤w.heap.size+1+1 by omega) (.bool zs) (.slice zo (Dg.dg 4294967296 zn).length zc) (yi ze)
  go_wp2
  refine bodyPost_ret (v:=(ydV zs (.slice zo (Dg.dg 4294967296 zn).length zc) ze)) (by simp[results,results129,go_sem,g0,g1,g2]) rfl ?_;exact⟨_,rfl,o11.lower b09.size,b11⟩
end Go.Proofs.YtnhackdjplppjaaGreatDoor
