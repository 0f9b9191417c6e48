/-
  Texts laid together: Math, Dz, Ab3, Ref2, Dr1, Aw0, RootM, Roo1, Dr3a, Dk1, Cr11, Gb6, Gb7, Ra1, Pa3, Pa4, Oq5, Ra2, Ra3, Ga5, Ra4.
-/
import Derived.Test.YtnhackdjplppjaaGreatDoorChecked
import Derived.Test.YtnhackdjplppjaaGreatDoorSh44
import Derived.Test.YtnhackdjplppjaaGreatDoorSh48
set_option maxRecDepth 100000
set_option maxHeartbeats 3200000
namespace Go.Proofs.YtnhackdjplppjaaGreatDoor
open _root_.Go.Proofs.Tryz
namespace Dg
theorem dg_inj (B n m:Nat)(hB:2≤B)(h:dg B n=dg B m):n=m:=by
 have:=congrArg (vl B) h
 rwa [vl_dg B n hB,vl_dg B m hB] at this
end Dg
def dV (a:ak):ak:=⟨!a.s,a.n,a.e⟩
open Go.RowKit
abbrev yEL (c:Int)(g:Bool)(t:ak)(o:Option Addr)(k:Nat):List Value:=[.int .i64 c,.bool g,.bool t.s,.slice o (Dg.dg 65536 t.n).length k,.int .i64 t.e]
abbrev yEV (c:Int)(g:Bool)(t:ak)(o:Option Addr)(k:Nat):Value:= .agg #[.int .i64 c,.bool g,.bool t.s,.slice o (Dg.dg 65536 t.n).length k,.int .i64 t.e]
abbrev yEA (c:Int)(g:Bool)(t:ak)(o:Option Addr)(k:Nat):Array Value:= #[.int .i64 c,.bool g,.bool t.s,.slice o (Dg.dg 65536 t.n).length k,.int .i64 t.e]
abbrev yML (t:ak)(o:Option Addr)(k:Nat):List Value:=[.bool t.s,.slice o (Dg.dg 65536 t.n).length k,.int .i64 t.e]
abbrev yMV (t:ak)(o:Option Addr)(k:Nat):Value:= .agg #[.bool t.s,.slice o (Dg.dg 65536 t.n).length k,.int .i64 t.e]
abbrev yMA (t:ak)(o:Option Addr)(k:Nat):Array Value:= #[.bool t.s,.slice o (Dg.dg 65536 t.n).length k,.int .i64 t.e]
abbrev yXL (c:Int)(g:Bool)(t:ak)(o:Option Addr)(k:Nat)(d:Int)(h:Bool)(s:ak)(p:Option Addr)(m:Nat):List Value:=[.int .i64 c,.bool g,.bool t.s,.slice o (Dg.dg 65536 t.n).length k,.int .i64 t.e,.int .i64 d,.bool h,.bool s.s,.slice p (Dg.dg 65536 s.n).length m,.int .i64 s.e]
theorem JJ (k:Nat):(65536:Nat)^ (2*k)=4294967296^k:=by rw[Nat.pow_mul]
theorem iJ (v:Value)(t:ak)(w:World)(hv:Rv w v t)(hL:(Dg.dg 65536 t.n).length≤100000)(he1: -1000000≤t.e)(he2:t.e≤1000000):
  yC 79 #[v] w (dr w (bare t)):=
 (lA v t w hv hL he1 he2).mono fun _ _ h=>h.near
theorem lG (w:World)(c0:List Value)(t0:TypeId)(c1:List Value)(t1:TypeId)(c2:List Value)(t2:TypeId): ∃W,((w.alloc (.cells c0.toArray t0)).alloc (.cells c1.toArray t1)).alloc (.cells c2.toArray t2)=W∧au W w.heap.size t0 c0∧au W (w.heap.size+1) t1 c1∧au W (w.heap.size+1+1) t2 c2∧yB w W:=by
 obtain⟨W,rfl,h0,h1,b0⟩:=iG w c0 t0 c1 t1;have h2:=ah ((w.alloc (.cells c0.toArray t0)).alloc (.cells c1.toArray t1)) c2 t2;have b2:=af ((w.alloc (.cells c0.toArray t0)).alloc (.cells c1.toArray t1)) (.cells c2.toArray t2);rw[World.size_alloc,World.size_alloc] at h2;exact⟨_,rfl,h0.l b2,h1.l b2,h2,aa b0 b2⟩
theorem dZ {w w':World}{b g o:Nat}{cs:List Value}(bu:But b w w')(h:w.rangeAt g o cs)(hg:g≠b):w'.rangeAt g o cs:=fun j v hj=>by rw[bu.c (by exact hg)];exact h j v hj
theorem aa1 (r x:Int)(hr:0≤r)(hx:0≤x)(m:Nat):((m:Int)+1)*r*x^m≤r^ (m+1)+m*x^ (m+1):=by
 induction m with
 |zero=>simp[Int.pow_succ]
 |succ m ih=>
  have h1:r*(((m:Int)+1)*r*x^m)≤r*(r^ (m+1)+m*x^ (m+1)):=Int.mul_le_mul_of_nonneg_left ih hr;have h2:0≤((m:Int)+1)*x^m*((x-r)*(x-r)):=by
   refine Int.mul_nonneg (Int.mul_nonneg (by omega) (Int.pow_nonneg hx)) ?_
   rcases Int.le_total 0 (x-r) with h|h
   ·exact Int.mul_nonneg h h
   ·exact Int.mul_nonneg_of_nonpos_of_nonpos h h
  have e1:((m+1:Nat):Int)=(m:Int)+1:=by omega
  rw[e1,Int.pow_succ r (m+1),Int.pow_succ x (m+1)];rw[Int.pow_succ x m] at h1⊢;generalize r^ (m+1)=P at h1⊢;generalize x^m=X at h1 h2⊢;generalize(m:Int)=M at h1 h2⊢;have key:P*r+(M+1)*(X*x*x)-(M+1+1)*r*(X*x)=(r*(P+M*(X*x))-r*((M+1)*r*X))+(M+1)*X*((x-r)*(x-r)):=by grind
  omega
theorem XD (r x m:Nat):(m+1)*r*x^m≤r^ (m+1)+m*x^ (m+1):=by
 have:=aa1 (r:Int) (x:Int) (by omega) (by omega) m
 exact_mod_cast this
def mQ (a x m:Nat):Nat:=(m*x+a/x^m)/(m+1)
theorem Pz {a x m z:Nat}(hx:0<x)(hz:z^ (m+1)≤a):z≤mQ a x m:=by
 unfold mQ;rw[Nat.le_div_iff_mul_le (by omega),Nat.mul_comm];have h1:=XD z x m;have hp:0<x^m:=Nat.pow_pos hx
 rcases Nat.lt_or_ge ((m+1)*z) (m*x) with h|h
 ·exact Nat.le_trans (Nat.le_of_lt h) (Nat.le_add_right _ _)
 ·have h2:((m+1)*z-m*x)*x^m≤a:=by
   have e:m*x*x^m=m*x^ (m+1):=by rw[Nat.mul_assoc,←Nat.pow_succ']
   rw[Nat.sub_mul,e];exact Nat.sub_le_of_le_add (Nat.le_trans h1 (Nat.add_le_add_right hz _))
  have h3:=(Nat.le_div_iff_mul_le hp).2 h2;exact Nat.sub_le_iff_le_add'.1 h3
theorem TY {a x m:Nat}(hx:0<x)(h:x≤mQ a x m):x^ (m+1)≤a:=by
 unfold mQ at h;rw[Nat.le_div_iff_mul_le (by omega),Nat.mul_add,Nat.mul_one,Nat.mul_comm x m] at h;have hp:0<x^m:=Nat.pow_pos hx;have h2:x≤a/x^m:=by omega
 rw[Nat.le_div_iff_mul_le hp] at h2;rw[Nat.pow_succ'];exact h2
def C0 (a k x:Nat):Prop:= ∀z,z^k≤a→z≤x
theorem C3 {a k bits n:Nat}(ha:a<2^bits)(hn:bits≤n*k):C0 a k (2^n):=fun z hz=>by
 rcases Nat.lt_or_ge (2^n) z with h|h
 ·exfalso
  have h1:(2^n)^k≤z^k:=Nat.pow_le_pow_left (by omega) k;rw[←Nat.pow_mul] at h1;have h2:(2:Nat)^bits≤2^ (n*k):=Nat.pow_le_pow_right (by omega) hn;omega
 ·exact h
theorem Ff {a x m:Nat}(hx:0<x):C0 a (m+1) (mQ a x m):=fun _ hz=>Pz hx hz
theorem ID {a k x:Nat}(h:C0 a k x)(ha:0<a):0<x:=h 1 (by rw[Nat.one_pow];exact ha)
def fJ (a k x:Nat):Prop:=x^k≤a∧a< (x+1)^k
theorem Ml {a x m:Nat}(h:C0 a (m+1) x)(hx:0<x)(hs:x≤mQ a x m):fJ a (m+1) x:=
 ⟨TY hx hs,by
  rcases Nat.lt_or_ge a ((x+1)^ (m+1)) with h1|h1
  ·exact h1
  ·have:=h (x+1) h1;omega⟩
theorem XE (a:Nat):fJ a 1 a:=⟨by simp,by simp⟩
theorem IE {k:Nat}(hk:0<k):fJ 0 k 0:=⟨by rw[Nat.zero_pow hk];exact Nat.le_refl _,by simp⟩
theorem zh {a k x:Nat}(hk:0<k)(h:fJ a k x):x≤a:=by
 rcases Nat.eq_zero_or_pos x with e|e
 ·omega
 ·exact Nat.le_trans (Nat.le_self_pow (by omega) x) h.1
theorem Sm {w:World}{k:IntKind}{v:Value}{xs ys:List Nat}(h:Rd w k v xs)(g:Rd w k v ys):xs=ys:=by
 obtain⟨ao,ca,rfl⟩:=h.shape;have hl:=wn g;obtain⟨_,_,h1⟩:=iQ h;rw[hl] at g;obtain⟨_,_,g1⟩:=iQ g;refine Dg.eq_of_all xs ys hl fun j=> ?_
 by_cases hj:j<xs.length
 ·obtain⟨b,off,e1,c1⟩:=h1 (by omega)
  obtain⟨b2,off2,e2,c2⟩:=g1 (by omega);rw[e1] at e2
  cases e2
  have a1:=c1 j hj;rw[c2 j (by omega)] at a1
  injection a1 with a1
  injection a1 with _ a1
  omega
 ·rw[Dg.getD_of_le xs j (by omega),Dg.getD_of_le ys j (by omega)]
theorem LY {w:World}{v:Value}{n:Nat}(h:Rd w .u32 v (Dg.dg 4294967296 n)):(Classical.epsilon fun n=>Rd w .u32 v (Dg.dg 4294967296 n))=n:=
 Dg.dg_inj 4294967296 _ _ (by omega) (Sm (Classical.epsilon_spec (p:=fun n=>Rd w .u32 v (Dg.dg 4294967296 n)) ⟨n,h⟩) h)
theorem og (x y L:Nat)(hx:(Dg.dg 65536 x).length≤L)(hy:(Dg.dg 65536 y).length≤L):(Dg.dg 65536 (x+y)).length≤L+1:=by
 apply Dg.dg_len_le 65536 _ _ (by omega);have h1:=Dg.vl_lt 65536 (Dg.dg 65536 x) (Dg.small_dg _ _ (by omega));have h2:=Dg.vl_lt 65536 (Dg.dg 65536 y) (Dg.small_dg _ _ (by omega));rw[Dg.vl_dg _ _ (by omega)] at h1 h2;have h3:65536^ (Dg.dg 65536 x).length≤65536^L:=Nat.pow_le_pow_right (by omega) hx;have h4:65536^ (Dg.dg 65536 y).length≤65536^L:=Nat.pow_le_pow_right (by omega) hy;rw[Nat.pow_succ];omega
theorem gf {a L:Nat}(h:(Dg.dg 4294967296 a).length≤L):bitLen a≤32*L:=by
 refine bF a _ ?_;rw[Nat.pow_mul];have h1:=Dg.vl_lt 4294967296 _ (Dg.small_dg 4294967296 a (by omega));rw[Dg.vl_dg _ _ (by omega)] at h1;exact Nat.lt_of_lt_of_le h1 (Nat.pow_le_pow_right (by omega) h)
theorem Nu {k:Nat}(hk:1≤k∧k≤8)(ng:Bool)(E F:Nat):zR k ng E F=kt k ng E F:=by
 unfold zR kt dh;have ho:kp k=2^exN k-1:=rfl;have h1:2≤2^exN k:=by
  have h7:=(fZ hk).2.2.2.2.2;have:2^1≤2^exN k:=Nat.pow_le_pow_right (by omega) (by omega);omega
 by_cases h3:k=3
 ·have hd3:2^ (dgN k-1)=2^63:=by rw[h3];rfl
  rw[if_pos h3,if_pos (show k≤3 by omega),ho,hd3,if_pos h3]
  generalize(2:Nat)^exN k=px at*;generalize(2:Nat)^63=p63 at*
  by_cases e0:E=0
  ·rw[if_neg (show¬E+1=px by omega),if_neg (show¬(0<E∧F<p63) by omega),if_pos e0]
   split<;>simp
  ·rw[if_neg e0]
   by_cases e1:E+1=px
   ·rw[if_pos e1,if_pos (show E=px-1 by omega)]
    split<;>simp
   ·rw[if_neg e1,if_neg (show¬E=px-1 by omega)]
    by_cases ef:F<p63
    ·rw[if_pos (show 0<E∧F<p63 by omega),if_pos (show k=3∧F<p63 from⟨h3,ef⟩)]
     simp
    ·rw[if_neg (show¬(0<E∧F<p63) by omega),if_neg (show¬(k=3∧F<p63) from fun h=>ef h.2)]
     simp
 ·rw[if_neg h3]
  by_cases h2:k≤2
  ·rw[if_pos h2,if_pos (show k≤3 by omega),ho,if_neg h3]
   generalize(2:Nat)^exN k=px at*
   by_cases e0:E=0
   ·rw[if_neg (show¬E+1=px by omega),if_pos e0]
    split<;>simp
   ·rw[if_neg e0]
    by_cases e1:E+1=px
    ·rw[if_pos e1,if_pos (show E=px-1 by omega)]
     split<;>simp
    ·rw[if_neg e1,if_neg (show¬E=px-1 by omega),if_neg (show¬(k=3∧F<2^63) from fun h=>h3 h.1)]
     simp
  ·rw[if_neg h2,if_neg (show¬k≤3 by omega)]
   by_cases h5:k≤5
   ·rw[if_pos h5,if_pos h5]
    split<;>simp
   ·rw[if_neg h5,if_neg h5]
    by_cases e0:E=0
    ·rw[if_pos e0,if_pos e0]
     cases ng<;>simp
    ·rw[if_neg e0,if_neg e0]
     simp
theorem SY (c:Int)(g s:Bool)(o:Option Addr)(l k:Nat)(e:Int)(w:World):
  yC 109 #[yoV c g s (.slice o l k) e] w (yR w (.bool (c==3))):=by
 obtain⟨W3,hW4,q1,b2⟩:=cA w (yoL c g s (.slice o l k) e) 98;replace hW4:Hid _:=hW4
 go_enter func109,ntmps109
 go_upto_region 1 with fail
 rw[hW4.out];clear hW4;have c5:=q1.c 0 rfl
 go_wp2
 go_ret
 exact⟨rfl,b2⟩
theorem lF (g s:Bool)(o:Option Addr)(l k:Nat)(e:Int)(w:World):yC 109 #[yoV 3 g s (.slice o l k) e] w (yR w (.bool true)):=SY 3 g s o l k e w
theorem iY (c:Int)(g s:Bool)(o:Option Addr)(l k:Nat)(e:Int)(w:World)(h:(c==3)=false):yC 109 #[yoV c g s (.slice o l k) e] w (yR w (.bool false)):=by
 have:=SY c g s o l k e w;rw[h] at this;exact this
theorem SZ (c:Int)(g s:Bool)(o:Option Addr)(l k:Nat)(e:Int)(w:World):
  yC 125 #[yoV c g s (.slice o l k) e] w (yR w (.bool (c==1))):=by
 obtain⟨W3,hW4,q1,b2⟩:=cA w (yoL c g s (.slice o l k) e) 98;replace hW4:Hid _:=hW4
 go_enter func125,ntmps125
 go_upto_region 1 with fail
 rw[hW4.out];clear hW4;have c5:=q1.c 0 rfl
 go_wp2
 go_ret
 exact⟨rfl,b2⟩
theorem BR (g s:Bool)(o:Option Addr)(l k:Nat)(e:Int)(w:World):yC 125 #[yoV 1 g s (.slice o l k) e] w (yR w (.bool true)):=SZ 1 g s o l k e w
theorem sC (c:Int)(g s:Bool)(o:Option Addr)(l k:Nat)(e:Int)(w:World)(h:(c==1)=false):yC 125 #[yoV c g s (.slice o l k) e] w (yR w (.bool false)):=by
 have:=SZ c g s o l k e w;rw[h] at this;exact this
theorem abo (n wy fam R D L G:Int)(gr:Bool)(gx:Bool)(x:ak)(xo:Option Addr)(xc:Nat)(w:World)(rx:Rd w .u32 (.slice xo (Dg.dg 4294967296 x.n).length xc) (Dg.dg 4294967296 x.n)):
  yC 73 #[ykV n wy fam R D L G gr,yOV 1 gx x xo xc] w (dU w 1 gx x 0):=by
 obtain⟨W5,hW6,q1,q2,q3,b4⟩:=lG w (ykL n wy fam R D L G gr) 93 (yOL 1 gx x xo xc) 98 (yoL 0 false false (.slice none 0 0) 0) 98;replace hW6:Hid _:=hW6;have r7:=rx.l b4;clear q1 rx
 go_enter func73,ntmps73
 go_upto_region 1 with fail
 rw[hW6.out];clear hW6;obtain⟨c8,c9,c10,c11,c12⟩:=q2.cs5
 go_wp2_with fail
 refine(BR _ _ _ _ _ _ _).mono ?_;rintro zz w13 ⟨rfl,bb14⟩;have q15:=q2.l bb14;have q16:=q3.l bb14;have r17:=r7.l bb14;have b18:=aa b4 bb14;clear q2 q3 r7 b4 bb14 c8 c9 c10 c11 c12;obtain⟨c19,c20,c21,c22,c23⟩:=q15.cs5;have hf:=dL (P:=Tryz.prog) q16 b18 (by omega) underlying98 rfl (by kernel_rfl) (yi 1) (.bool gx) (.bool x.s) (.slice xo (Dg.dg 4294967296 x.n).length xc) (yi x.e);have HH:Hid (_∧_∧_):=⟨hf.1,hf.2.2.rd r17 (aX r17 q16 (by simp)),hf.2.1⟩;obtain⟨⟨z0,z1,z2,z3,z4⟩,y0,y1,y2,y3,y4⟩:=dN q16;clear hf q15 q16 r17 b18
 go_wp2
 obtain⟨hl,rRx,bR⟩:=HH.out;exact bodyPost_ret (aj results73 rfl rfl hl) rfl ⟨_,rfl,rRx,bR⟩
theorem UT (cx c:Int)(n wy fam R D L G:Int)(gr:Bool)(x:ak)(xo:Option Addr)(xc:Nat)(w:World)(hx1:(cx==1)=false)
  (HN:yJ 108 #[ykV n wy fam R D L G gr,yi 16] (.tuple #[yoV c false false (.slice none 0 0) 0,yi 16])):
  yC 73 #[ykV n wy fam R D L G gr,yOV cx true x xo xc] w (dU w c false ⟨false,0,0⟩ 16):=by
 replace HN:Hid _:=HN;obtain⟨W5,hW6,q1,q2,q3,b4⟩:=lG w (ykL n wy fam R D L G gr) 93 (yOL cx true x xo xc) 98 (yoL 0 false false (.slice none 0 0) 0) 98;replace hW6:Hid _:=hW6
 go_enter func73,ntmps73
 go_upto_region 1 with fail
 rw[hW6.out];clear hW6;obtain⟨c7,c8,c9,c10,c11⟩:=q2.cs5
 go_wp2_with fail
 refine(sC _ _ _ _ _ _ _ _ hx1).mono ?_;rintro zz w12 ⟨rfl,bb13⟩;have q14:=q1.l bb13;have q15:=q2.l bb13;have q16:=q3.l bb13;have b17:=aa b4 bb13;clear q1 q2 q3 b4 bb13 c7 c8 c9 c10 c11;obtain⟨c18,c19,c20,c21,c22,c23,c24,c25⟩:=q14.cs8;have c26:=q15.c 1 rfl
 go_wp2_with fail
 refine(HN.out _).mono ?_;rintro zz w27 ⟨rfl,bb28⟩;have q29:=q16.l bb28;have b30:=aa b17 bb28;clear q14 q15 q16 b17 bb28 HN c18 c19 c20 c21 c22 c23 c24 c25 c26;have hf:=dL (P:=Tryz.prog) q29 b30 (by omega) underlying98 rfl (by kernel_rfl) (yi c) (.bool false) (.bool false) (.slice none 0 0) (yi 0);have HH:Hid (_∧_):=⟨hf.1,hf.2.1⟩;obtain⟨⟨z0,z1,z2,z3,z4⟩,y0,y1,y2,y3,y4⟩:=dN q29;clear hf q29 b30
 go_wp2
 obtain⟨hl,bR⟩:=HH.out;exact bodyPost_ret (aj results73 rfl rfl hl) rfl ⟨_,rfl,aN _ _,bR⟩
theorem abp (n wy fam R D L G:Int)(gr:Bool)(x:ak)(xo:Option Addr)(xc:Nat)(w:World)(rx:Rd w .u32 (.slice xo (Dg.dg 4294967296 x.n).length xc) (Dg.dg 4294967296 x.n)):
  yC 73 #[ykV n wy fam R D L G gr,yOV 3 false x xo xc] w (dU w 3 false x 0):=by
 obtain⟨W5,hW6,q1,q2,q3,b4⟩:=lG w (ykL n wy fam R D L G gr) 93 (yOL 3 false x xo xc) 98 (yoL 0 false false (.slice none 0 0) 0) 98;replace hW6:Hid _:=hW6;have r7:=rx.l b4;clear q1 rx
 go_enter func73,ntmps73
 go_upto_region 1 with fail
 rw[hW6.out];clear hW6;obtain⟨c8,c9,c10,c11,c12⟩:=q2.cs5
 go_wp2_with fail
 refine(sC _ _ _ _ _ _ _ _ rfl).mono ?_;rintro zz w13 ⟨rfl,bb14⟩;have q15:=q2.l bb14;have q16:=q3.l bb14;have r17:=r7.l bb14;have b18:=aa b4 bb14;clear q2 q3 r7 b4 bb14 c8 c9 c10 c11 c12;obtain⟨c19,c20,c21,c22,c23⟩:=q15.cs5
 go_wp2_with fail
 refine(lF _ _ _ _ _ _ _).mono ?_;rintro zz w24 ⟨rfl,bb25⟩;have q26:=q15.l bb25;have q27:=q16.l bb25;have r28:=r17.l bb25;have b29:=aa b18 bb25;clear q15 q16 r17 b18 bb25 c19 c20 c21 c22 c23;obtain⟨c30,c31,c32,c33,c34⟩:=q26.cs5;have hf:=dL (P:=Tryz.prog) q27 b29 (by omega) underlying98 rfl (by kernel_rfl) (yi 3) (.bool false) (.bool x.s) (.slice xo (Dg.dg 4294967296 x.n).length xc) (yi x.e);have HH:Hid (_∧_∧_):=⟨hf.1,hf.2.2.rd r28 (aX r28 q27 (by simp)),hf.2.1⟩;obtain⟨⟨z0,z1,z2,z3,z4⟩,y0,y1,y2,y3,y4⟩:=dN q27;clear hf q26 q27 r28 b29
 go_wp2
 obtain⟨hl,rRx,bR⟩:=HH.out;exact bodyPost_ret (aj results73 rfl rfl hl) rfl ⟨_,rfl,rRx,bR⟩
theorem UV (cx c:Int)(g:Bool)(t u:ak)(n wy fam R D L G:Int)(gr:Bool)(x:ak)(xo:Option Addr)(xc:Nat)(w:World)(hx1:(cx==1)=false)(hx3:(cx==3)=false)
  (HT: ∀w1,yB w w1→yC 131 #[yDV x xo xc,yi 128] w1 (jN w1 u))
  (HM: ∀uo uc w1,Rd w1 .u32 (.slice uo (Dg.dg 4294967296 u.n).length uc) (Dg.dg 4294967296 u.n)→yC 110 #[yDV u uo uc,.bool false] w1 (xj w1 c g t)):
  yC 73 #[ykV n wy fam R D L G gr,yOV cx false x xo xc] w (dU w c g t 0):=by
 replace HT:Hid _:=HT;replace HM:Hid _:=HM;obtain⟨W5,hW6,q1,q2,q3,b4⟩:=lG w (ykL n wy fam R D L G gr) 93 (yOL cx false x xo xc) 98 (yoL 0 false false (.slice none 0 0) 0) 98;replace hW6:Hid _:=hW6;clear q1
 go_enter func73,ntmps73
 go_upto_region 1 with fail
 rw[hW6.out];clear hW6;obtain⟨c7,c8,c9,c10,c11⟩:=q2.cs5
 go_wp2_with fail
 refine(sC _ _ _ _ _ _ _ _ hx1).mono ?_;rintro zz w12 ⟨rfl,bb13⟩;have q14:=q2.l bb13;have q15:=q3.l bb13;have b16:=aa b4 bb13;clear q2 q3 b4 bb13 c7 c8 c9 c10 c11;obtain⟨c17,c18,c19,c20,c21⟩:=q14.cs5
 go_wp2_with fail
 refine(iY _ _ _ _ _ _ _ _ hx3).mono ?_;rintro zz w22 ⟨rfl,bb23⟩;have q24:=q14.l bb23;have q25:=q15.l bb23;have b26:=aa b16 bb23;clear q14 q15 b16 bb23 c17 c18 c19 c20 c21;have c27:=q24.c 2 rfl;have c28:=q24.c 3 rfl;have c29:=q24.c 4 rfl
 go_wp2_with fail
 refine(HT.out _ b26).mono ?_;rintro zz w30 ⟨v132,rfl,r133,bb31⟩;have q34:=q25.l bb31;have b35:=aa b26 bb31;have r36:=r133.rd;obtain⟨uo,uc,hv⟩:=r36.shape;subst hv;clear q24 q25 b26 bb31 r133 HT c27 c28 c29
 go_wp2_with fail
 refine(HM.out _ _ _ r36).mono ?_;rintro zz w37 ⟨v139,rfl,r140,bb38⟩;have q41:=q34.l bb38;have r42:=r36.l bb38;have b43:=aa b35 bb38;obtain⟨so,sc,hv⟩:=r140.shape;subst hv;clear q34 r36 b35 bb38 HM;have hf:=dL (P:=Tryz.prog) q41 b43 (by omega) underlying98 rfl (by kernel_rfl) (yi c) (.bool g) (.bool t.s) (.slice so (Dg.dg 4294967296 t.n).length sc) (yi t.e);have HH:Hid (_∧_∧_):=⟨hf.1,hf.2.2.rd r140 (aX r140 q41 (by simp)),hf.2.1⟩;obtain⟨⟨z0,z1,z2,z3,z4⟩,y0,y1,y2,y3,y4⟩:=dN q41;clear hf q41 r42 r140 b43
 go_wp2
 obtain⟨hl,rRs,bR⟩:=HH.out;exact bodyPost_ret (aj results73 rfl rfl hl) rfl ⟨_,rfl,rRs,bR⟩
theorem abq (cx c fl:Int)(gg:Bool)(t:ak)(n wy fam R D L G:Int)(gr:Bool)(gx:Bool)(x:ak)(xo:Option Addr)(xc:Nat)(g cap:Nat)(w:World)(h0:w.rangeAt g 0 (yOL cx gx x xo xc))
  (HS: ∀w1,yB w w1→yC 73 #[ykV n wy fam R D L G gr,yOV cx gx x xo xc] w1 (dU w1 c gg t fl)):
  yC 72 #[ykV n wy fam R D L G gr,.slice (some ⟨g,0,none⟩) 1 cap] w (dU w c gg t fl):=by
 replace HS:Hid _:=HS;have hgl:g<w.heap.size:=World.block_lt_of_cell? w _ (h0 0 _ rfl);obtain⟨W4,hW5,q1,q2,b3⟩:=iG w (ykL n wy fam R D L G gr) 93 (yoL 0 false false (.slice none 0 0) 0) 98;replace hW5:Hid _:=hW5;have q6:=aC h0 b3;clear h0
 go_enter func72,ntmps72
 go_upto_region 1 with fail
 rw[hW5.out];clear hW5
 go_upto_region 1 with fail
 have bW7:yB W4 W4.drew:=(Below.refl _ _).drew;have q8:=aC q6 bW7;have q9:=q1.l bW7;have q10:=q2.l bW7;have b11:=aa b3 bW7;clear q6 q1 q2 b3 bW7;refine wp_region_held_drew (S:=fun wq=>wq.rangeAt g 0 (yOL cx gx x xo xc)∧au wq w.heap.size 93 (ykL n wy fam R D L G gr)) (by kernel_rfl) ⟨q8,q9⟩ (fun hS0=> ?_)
 generalize W4.drew=WD12 at q8 q9 q10 b11 hS0⊢;refine tk 0 (ykV n wy fam R D L G gr) rfl (by kernel_rfl) (fun _ _ _ h=>h) (fun _ hw0=>fy 93 (.tmp 2) rfl w.heap.size 0 (by kernel_rfl) _ _ hw0.2.range underlying93 rfl (by kernel_rfl)) hS0 ?_
 refine tk 1 (.slice (some ⟨g,0,none⟩) 1 cap) rfl (by kernel_rfl) (fun _ _ _ h=>h) (fun _ _=>by kernel_rfl) hS0 ?_
 refine tk 2 (.pointer (some ⟨g,0,none⟩)) rfl (by kernel_rfl) (fun _ _ _ h=>h) (fun _ _=>by kernel_rfl) hS0 ?_
 refine tk 3 (yOV cx gx x xo xc) rfl (by kernel_rfl) (fun _ _ _ h=>h) (fun _ hw0=>fy 98 (.tmp 8) rfl g 0 (by kernel_rfl) _ _ hw0.1 underlying98 rfl (by kernel_rfl)) hS0 ?_
 refine wpAnyH_ready (rs:=[4]) (by kernel_rfl) (by simp) ?_;refine AllReadyH.cons rfl (fun K hK=> ?_) AllReadyH.nil
 go_simp
 refine(HS.out _ b11).mono ?_;rintro zz w13 ⟨v115,rfl,r116,bb14⟩;have q17:=aC q8 bb14;have q18:=q9.l bb14;have q19:=q10.l bb14;have b20:=aa b11 bb14;obtain⟨so,sc,hv⟩:=r116.shape;subst hv;clear q8 q9 q10 b11 bb14 HS;refine hK.out _ _ ⟨q17,q18⟩ (fun hS21=> ?_)
 clear hK K;refine tk 5 (yOV c gg t so sc) rfl (by kernel_rfl) (fun _ _ _ h=>h) (fun _ _=>by go_simp) hS21 ?_
 refine tk 6 (yi fl) rfl (by kernel_rfl) (fun _ _ _ h=>h) (fun _ _=>by go_simp) hS21 ?_
 refine wpAnyH_ready (rs:=[7]) (by kernel_rfl) (by simp) ?_;refine AllReadyH.cons rfl (fun K hK=> ?_) AllReadyH.nil
 have bu:But (w.heap.size+1) w13 (w13.setCells (w.heap.size+1) 0 (yOL c gg t so sc)):=de _ _ _ _;have hth:w13.there (w.heap.size+1) 0 5:=dD q19;have q22:au (w13.setCells (w.heap.size+1) 0 (yOL c gg t so sc)) (w.heap.size+1) 98 (yOL c gg t so sc):=q19.sets _ rfl;have r23:=bu.rd r116 (aX r116 q19 (by simp));have q24:=dZ bu q17 (by omega);have q25:=bu.loc q18 (by omega);have b26:=bu.below b20 (by omega);rw[if_pos (by kernel_rfl)];refine wp_store_mid 98 (.tmp 4) (.tmp 11) rfl (w.heap.size+1) 0 (yOA c gg t so sc) (by kernel_rfl) (by kernel_rfl) hth (by kernel_rfl) (by simp[Value.oneCell']) ?_;refine hK.out _ _ ⟨q24,q25⟩ (fun hS27=> ?_)
 clear hK K;clear q19 r116 q17 q18 b20 bu hth;refine tk 8 (yi fl) rfl (by kernel_rfl) (fun _ _ _ h=>h) (fun _ _=>by kernel_rfl) hS27 ?_
 refine wpAnyH_done (by kernel_rfl) ?_ _;clear hS0 hS21 hS27;change Exit.then _ _ _ _ (World.setCells w13 (w.heap.size+1) 0 (yOL c gg t so sc));generalize World.setCells w13 (w.heap.size+1) 0 (yOL c gg t so sc)=W28 at q24 q25 q22 r23 b26⊢;simp only[Act.put,List.getElem_toArray,List.getElem_cons_succ,List.getElem_cons_zero,List.setIfInBounds_toArray,List.set_cons_zero,List.set_cons_succ];have hl:=run_loadVar_mid (P:=Tryz.prog) _ (w.heap.size+1) 0 98 (yOL c gg t so sc) _ q22.range underlying98 rfl (by kernel_rfl)
 go_wp2
 exact bodyPost_ret (aj results72 rfl rfl hl) rfl ⟨_,rfl,r23,b26⟩
theorem adf (n way f1 e1:Int)(a st:ByteArray)(w:World)
  (HR: ∀pb w1,yB w w1→au w1 pb 9 [.string a]→yC 53 #[yi n,yi way,.func (.func 72) #[] #[],.slice (some ⟨pb,0,none⟩) 1 1] w1 (yR w1 (.tuple #[.string st,yi f1,yi e1]))):
  yC 30 #[yi n,.string a,yi way] w (yR w (.tuple #[.string st,yi f1,yi e1])):=by
 replace HR:Hid _:=HR
 go_enter func30,ntmps30
 have b0:=Below.refl w.heap.size w;have al1:=af w (.cells #[.string a] 9);have q2:=ah w [.string a] 9;have b3:=aa b0 al1
 go_wp2_with fail
 refine(HR.out _ _ b3 q2).mono ?_;rintro zz w4 ⟨rfl,bb5⟩;have b6:=aa b3 bb5;clear q2 b3 bb5 b0 al1
 go_wp2
 go_ret3
 exact⟨rfl,b6⟩
theorem fm_is {k:Nat}(hk:1≤k∧k≤8):((fmN k:Nat):Int)=dK (k:Int):=by
 rcases bO hk with rfl|rfl|rfl|rfl|rfl|rfl|rfl|rfl<;>rfl
theorem form_any (k:Nat)(hk:1≤k∧k≤8)(w:World):yC 35 #[yi (k:Int)] w (yR w (.tuple #[.agg #[yi (szN k:Int),yi (exN k:Int),yi (frN k:Int),yi (rdN k:Int),yi (dgN k:Int),yi (lsI k),yi (gsI k),.bool (decide (k≤3)),yi (dK (k:Int))],.bool true])):=by
 have:=sU k hk w;rw[fm_is hk] at this;exact this
theorem refNothing_any (k:Nat)(hk:1≤k∧k≤8)(w:World):yC 117 #[yi (k:Int)] w (yR w (yoV (AZ (dK (k:Int))) false false (.slice none 0 0) 0)):=by
 have HF:=fun w1=>form_any k hk w1
 rcases qt hk with h|h|h<;>rw[h] at HF⊢
 ·exact aa4 _ _ _ _ _ _ _ _ _ _ w HF
 ·exact aa5 _ _ _ _ _ _ _ _ _ _ w HF
 ·exact aa6 _ _ _ _ _ _ _ _ _ _ w HF
theorem refZero_any (k:Nat)(hk:1≤k∧k≤8)(ng:Bool)(w:World):yC 38 #[yi (k:Int),.bool ng] w (yR w (yoV 1 (ng&&decide (dK (k:Int)=1)) false (.slice none 0 0) 0)):=
 aej _ _ _ _ _ _ _ _ _ _ _ _ w (fun w1=>form_any k hk w1)
theorem refW_any (k:Nat)(hk:1≤k∧k≤8)(D L G:Int)(gr:Bool)(w:World):yC 116 #[ygV (rdN k:Int) D L G gr] w (yR w (yi (ai (rdN k:Int):Int))):=by
 have:=eG (rdN k:Int) D L G gr w;rw[wQ hk] at this;exact this
def gtT (k:Nat)(ng:Bool):ak:=bare ⟨ng,rdN k^dgN k-1,(ai (rdN k:Int):Int)*gsI k⟩
theorem rd_pow {k:Nat}(hk:1≤k∧k≤8):rdN k^dgN k=2^ (ai (rdN k:Int)*dgN k):=by
 rcases bO hk with rfl|rfl|rfl|rfl|rfl|rfl|rfl|rfl<;>rfl
theorem refGreatest_any (k:Nat)(hk:1≤k∧k≤8)(ng:Bool)(w:World):yC 130 #[yi (k:Int),.bool ng] w (RVg w 2 ng (gtT k ng)):=by
 obtain⟨-,-,d1,-,-,-,lg,g2,w64,w4,w1',hg⟩:=eR hk;have hge:(ai (rdN k:Int):Int)*gsI k≤16384∧ -16384≤(ai (rdN k:Int):Int)*gsI k:=by
  rcases bO hk with rfl|rfl|rfl|rfl|rfl|rfl|rfl|rfl<;>decide
 have hL: ∀{x:Nat},x≤2^ (ai (rdN k:Int)*dgN k)→(Dg.dg 65536 x).length≤10:=fun {x} hx=>by
  refine Dg.dg_len_le 65536 _ _ (by omega) (Nat.lt_of_le_of_lt hx ?_);refine Nat.lt_of_le_of_lt (Nat.pow_le_pow_right (by omega) w64) (by decide)
 unfold gtT;rw[rd_pow hk];refine aaB (k:Int) _ _ _ (rdN k:Int) (dgN k:Int) (lsI k) (gsI k) _ (ai (rdN k:Int):Int) ((ai (rdN k:Int)*dgN k:Nat):Int) ((ai (rdN k:Int):Int)*gsI k) _ _ ng (2^ (ai (rdN k:Int)*dgN k)) _ w ?_ ?_ (fun w1=>form_any k hk w1) (fun w1=>refW_any k hk _ _ _ _ w1) (fun w1=>vJ _ (by omega) w1) (fun vo vc q w1 hv hq=> ?_) (fun vo vc w1 hv=> ?_)
 ·rw[←Int.natCast_mul]
  exact IntWalk.i64_in _ ⟨by omega,by omega⟩
 ·exact IntWalk.i64_in _ ⟨by omega,by omega⟩
 ·have hp:1≤2^ (ai (rdN k:Int)*dgN k):=bG _
  have hq1:Rd w1 .i64 (.slice (some ⟨q,0,none⟩) 1 1) [1]:=⟨_,1,rfl,Nat.le_refl _,by unfold maxLen;omega,fun _=>⟨q,0,rfl,fun i hi=>by
   obtain rfl:i=0:=by simpa using hi
   exact hq⟩⟩
  have hne:(Dg.dg 65536 (2^ (ai (rdN k:Int)*dgN k))).length≠0:=fun c=>by
   have:=(Dg.dg_nil_iff 65536 _ (by omega)).1 (List.length_eq_zero_iff.1 c);omega
  have:=kI (.slice vo (Dg.dg 65536 (2^ (ai (rdN k:Int)*dgN k))).length vc) (.slice (some ⟨q,0,none⟩) 1 1) _ [1] w1 hv hq1 (Dg.small_dg _ _ (by omega)) (Dg.small_cons.2 ⟨by omega,Dg.small_nil _ (by omega)⟩) (by have:=hL (Nat.le_refl (2^ (ai (rdN k:Int)*dgN k)));omega) (by simp;omega) (by rw[Dg.vl_dg _ _ (by omega),show Dg.vl 65536 [1]=1 from rfl];exact hp)
  rwa [Dg.vl_dg _ _ (by omega),show Dg.vl 65536 [1]=1 from rfl] at this
 ·exact lA _ ⟨ng,2^ (ai (rdN k:Int)*dgN k)-1,(ai (rdN k:Int):Int)*gsI k⟩ w1 ⟨_,rfl,hv⟩ (by have:=hL (Nat.sub_le (2^ (ai (rdN k:Int)*dgN k)) 1);simp only;omega) (by simp only;omega) (by simp only;omega)
def plV (k:Nat)(wy:Int)(P:fz):Int×Bool×ak×Int:=
 if P.ov=true then(if dK (k:Int)=3 then(5,false,⟨false,0,0⟩,5) else if dK (k:Int)=1∧aaV wy P.s=true then(3,P.s,⟨false,0,0⟩,5) else(2,P.s,gtT k P.s,5))
 else if P.un=true∧P.p<lsI k then(1,false,⟨false,0,0⟩,3)
 else if P.d=0 then(1,P.s,⟨false,0,0⟩,if P.ex=true then 0 else if P.un=true then 3 else 1)
 else(2,P.s,bare ⟨P.s,P.d,(ai (rdN k:Int):Int)*P.p⟩,if P.ex=true then 0 else if P.un=true then 3 else 1)
structure Plc (k:Nat) (P:fz):Prop where
 low:dK (k:Int)=1→P.p<lsI k→P.ov=true
 same:dK (k:Int)≠1→P.ov=false→P.un=true→P.ex=true→P.p<lsI k
 nil:P.ov=false→P.d=0→dK (k:Int)=1
 len:(Dg.dg 65536 P.d).length≤100000
 far:P.ov=false→(P.un=true∧P.p<lsI k)∨(-17000≤P.p∧P.p≤17000)
theorem placed_any (k:Nat)(hk:1≤k∧k≤8)(wy:Int)(hw:1≤wy∧wy≤5)(P:fz)(hP:Plc k P)(po:Option Addr)(pc:Nat)(w:World)(hr:Rd w .i64 (.slice po (Dg.dg 65536 P.d).length pc) (Dg.dg 65536 P.d)):
  yC 91 #[yi (k:Int),ypV P.s (.slice po (Dg.dg 65536 P.d).length pc) P.p P.ex P.ov P.un,yi wy] w (RVG w (plV k wy P).1 (plV k wy P).2.1 (plV k wy P).2.2.1 (plV k wy P).2.2.2):=by
 have HF:=fun w1=>form_any k hk w1
 have HN:=fun w1=>refNothing_any k hk w1
 have HG:=fun g w1=>refGreatest_any k hk g w1
 have HZ:=fun g w1=>refZero_any k hk g w1
 have HW:=fun D L G gr w1=>refW_any k hk D L G gr w1
 have wl:=eN (rdN k:Int);obtain⟨h1,h2,h3,h4,h5⟩:=hP;obtain⟨ps,pd,pp,ex,ov,un⟩:=P;simp only at h1 h2 h3 h4 h5 hr;unfold plV;simp only
 cases ov
 ·rw[if_neg (by decide)]
  by_cases hl:un=true∧pp<lsI k
  ·rw[if_pos hl]
   obtain⟨rfl,hl⟩:=hl;have hf:dK (k:Int)≠1:=fun c=>absurd (h1 c hl) (by decide)
   have hf2:1<dK (k:Int):=by rcases qt hk with h|h|h<;>omega
   have hz:(false&&decide (dK (k:Int)=1))=false:=rfl;have HZ':=HZ false;rw[hz] at HZ';exact refPl_low ex false _ _ _ _ _ _ _ _ _ _ _ _ _ _ _ _ _ w (by simpa using hf) hf2 hl HF HZ'
  rw[if_neg hl]
  by_cases hd:pd=0
  ·rw[if_pos hd]
   subst hd;have hf:=h3 rfl rfl;have HZ':=HZ ps;rw[show(ps&&decide (dK (k:Int)=1))=ps from by rw[hf];simp] at HZ'
   rw[hf] at HF
   cases ex<;>cases un
   ·exact aeG ps _ _ _ _ _ _ _ _ _ _ _ _ _ _ _ _ w HF HZ'
   ·exact aeh ps _ _ _ _ _ _ _ _ _ _ _ _ _ _ _ w HF HZ'
   ·exact aeE ps _ _ _ _ _ _ _ _ _ _ _ _ _ _ _ _ w HF HZ'
   ·exact aef ps _ _ _ _ _ _ _ _ _ _ _ _ _ _ _ w HF HZ'
  rw[if_neg hd];have hz:(((Dg.dg 65536 pd).length:Int)==0)=false:=by
   have:(Dg.dg 65536 pd).length≠0:=fun c=>hd ((Dg.dg_nil_iff 65536 _ (by omega)).1 (List.length_eq_zero_iff.1 c))
   simpa using this
  have hpr:=(h5 rfl).resolve_left hl;have hE:IntKind.i64.wrap ((ai (rdN k:Int):Int)*pp)=(ai (rdN k:Int):Int)*pp:=by
   have:=CU (R:=(rdN k:Int)) hpr.1 hpr.2;exact IntWalk.i64_in _ ⟨by omega,by omega⟩
  have HB: ∀w1,yB w w1→yC 79 #[ydV ps (.slice po (Dg.dg 65536 pd).length pc) ((ai (rdN k:Int):Int)*pp)] w1 (di w1 (bare ⟨ps,pd,(ai (rdN k:Int):Int)*pp⟩)):=fun w1 b=>by
   have:=CU (R:=(rdN k:Int)) hpr.1 hpr.2;exact lA _ ⟨ps,pd,(ai (rdN k:Int):Int)*pp⟩ w1 ⟨_,rfl,hr.l b⟩ h4 (by simp only;omega) (by simp only;omega)
  by_cases hf:dK (k:Int)=1
  ·rw[hf] at HF
   cases ex<;>cases un
   ·exact aeH _ _ _ _ _ _ _ _ _ _ _ _ _ _ _ _ _ _ _ _ w hz hE HF (fun w1=>HW _ _ _ _ w1) HB
   ·exact aei _ _ _ _ _ _ _ _ _ _ _ _ _ _ _ _ _ _ _ w hz hE HF (fun w1=>HW _ _ _ _ w1) HB
   ·exact aeF _ _ _ _ _ _ _ _ _ _ _ _ _ _ _ _ _ _ _ _ w hz hE HF (fun w1=>HW _ _ _ _ w1) HB
   ·exact aeg _ _ _ _ _ _ _ _ _ _ _ _ _ _ _ _ _ _ _ w hz hE HF (fun w1=>HW _ _ _ _ w1) HB
  ·have hf2:1<dK (k:Int):=by rcases qt hk with h|h|h<;>omega
   cases ex<;>cases un
   ·exact aeH _ _ _ _ _ _ _ _ _ _ _ _ _ _ _ _ _ _ _ _ w hz hE HF (fun w1=>HW _ _ _ _ w1) HB
   ·exact aeI _ _ _ _ _ _ _ _ _ _ _ _ _ _ _ _ _ _ _ _ w (by simpa using hf) hf2 (fun c=>hl ⟨rfl,c⟩) hz hE HF (fun w1=>HW _ _ _ _ w1) HB
   ·exact aeF _ _ _ _ _ _ _ _ _ _ _ _ _ _ _ _ _ _ _ _ w hz hE HF (fun w1=>HW _ _ _ _ w1) HB
   ·exact absurd (h2 hf rfl rfl rfl) (fun c=>hl ⟨rfl,c⟩)
 ·rw[if_pos rfl]
  rcases qt hk with hf|hf|hf
  ·rw[if_neg (by omega)]
   rw[hf] at HF;have hw':wy=1∨wy=2∨wy=3∨wy=4∨wy=5:=by omega
   rcases hw' with rfl|rfl|rfl|rfl|rfl
   ·rw[if_pos ⟨hf,rfl⟩]
    exact refPl_u1 ex _ _ _ _ _ _ _ _ _ _ _ _ _ _ _ _ w HF
   ·rw[if_pos ⟨hf,rfl⟩]
    exact refPl_u2 ex _ _ _ _ _ _ _ _ _ _ _ _ _ _ _ _ w HF
   ·have ho:aaV 3 ps=false:=by cases ps<;>rfl
    rw[if_neg (by rw[ho];simp)];exact refPl_i3 ex _ _ _ _ _ _ _ _ _ _ _ _ _ _ _ _ _ w HF (fun w1=>HG ps w1)
   ·cases ps
    ·rw[if_pos ⟨hf,rfl⟩]
     exact refPl_u4 ex _ _ _ _ _ _ _ _ _ _ _ _ _ _ _ w HF
    ·rw[if_neg (by simp[aaV])]
     exact refPl_i4 ex _ _ _ _ _ _ _ _ _ _ _ _ _ _ _ _ w HF (fun w1=>HG true w1)
   ·cases ps
    ·rw[if_neg (by simp[aaV])]
     exact refPl_i5 ex _ _ _ _ _ _ _ _ _ _ _ _ _ _ _ _ w HF (fun w1=>HG false w1)
    ·rw[if_pos ⟨hf,rfl⟩]
     exact refPl_u5 ex _ _ _ _ _ _ _ _ _ _ _ _ _ _ _ w HF
  ·rw[if_neg (by omega),if_neg (fun c=>by omega)]
   rw[hf] at HF;exact refPl_o2 ex _ _ _ _ _ _ _ _ _ _ _ _ _ _ _ _ _ _ w HF (fun w1=>HG ps w1)
  ·rw[if_pos hf]
   rw[hf] at HF HN;exact refPl_o3 ex _ _ _ _ _ _ _ _ _ _ _ _ _ _ _ _ _ w HF HN
def iZ (t:ak):Prop:=t.n<2^64∧ -16500≤t.e∧t.e≤16500
theorem VZ {k:Nat}(hk:1≤k∧k≤8)(s:ByteArray)(hc:dh k (aZ k s) (aR k s) (aU k s)=2):(ji k (aZ k s) (aR k s) (aU k s)).n<2^64∧ -16445≤(ji k (aZ k s) (aR k s) (aU k s)).e∧(ji k (aZ k s) (aR k s) (aU k s)).e≤16464∧(ji k (aZ k s) (aR k s) (aU k s)).n≠0:=by
 obtain⟨s1,s2⟩:=Cu k s;have h64:=mZ hk s2;obtain⟨v1,v2,-,-⟩:=J9 hk s1 s2 hc;have hb:=rT hk s1 s2 h64 hc (Nat.ne_of_gt (jX hc));have hT:=iq hk s1 s2 hc;rw[wQ hk] at hT;refine⟨?_,v1,v2, ?_⟩
 ·rw[hT,←hb]
  exact Nat.lt_of_le_of_lt (kR _) (J8 hk _ _ h64)
 ·rw[hT]
  exact(gN (t:=⟨_,_,_⟩) (Nat.ne_of_gt (jX hc))).1
theorem ir {k:Nat}(hk:1≤k∧k≤8){p:ByteArray}(h:dF (k:Int) p=0):iZ (opT (k:Int) p)∧(bM (k:Int) p≠2→opT (k:Int) p=⟨false,0,0⟩)∧(bM (k:Int) p=2→(opT (k:Int) p).n≠0):=by
 have e:opT (k:Int) p=ji k (aZ k p) (aR k p) (aU k p):=by
  unfold opT nxT;rw[if_pos h,Int.toNat_natCast]
 have ec:bM (k:Int) p=dh k (aZ k p) (aR k p) (aU k p):=by
  unfold bM;rw[if_pos h,Int.toNat_natCast]
 rw[e,ec]
 by_cases hc:dh k (aZ k p) (aR k p) (aU k p)=2
 ·obtain⟨s1,s2,s3,s4⟩:=VZ hk p hc
  exact⟨⟨s1,by omega,by omega⟩,fun c=>absurd hc c,fun _=>s4⟩
 ·have:=Fm hk (ng:=aZ k p) (E:=aR k p) (F:=aU k p) hc
  rw[this];exact⟨⟨by show(0:Nat)<2^64;exact Nat.two_pow_pos 64,by show(-16500:Int)≤0;omega,by show(0:Int)≤16500;omega⟩,fun _=>rfl,fun c=>absurd c hc⟩
def nu (t:ak)(sg:Bool):Int×Bool×ak×Int:=(vI t,xr t sg,tF t,0)
abbrev opV (c:Int)(g:Bool)(t:ak)(o:Option Addr)(k:Nat):Value:=(yOV c g t o k)
abbrev rdT (w:World)(t:ak)(o:Option Addr)(k:Nat):Prop:=Rd w .u32 (.slice o (Dg.dg 4294967296 t.n).length k) (Dg.dg 4294967296 t.n)
theorem xt {t:ak}{sg:Bool}(hn:sH t)(h:(nu t sg).1=2):(nu t sg).2.2.1.n≠0∧sH (nu t sg).2.2.1:=by
 have h0:t.n≠0:=fun c=>by
  have:vI t=2:=h;unfold vI at this;rw[if_pos c] at this;omega
 have e:(nu t sg).2.2.1=t:=if_neg h0;rw[e];exact⟨h0,hn⟩
theorem acu {k:Nat}(hk:1≤k∧k≤8){p:ByteArray}(h:dF (k:Int) p=0):
  opT (k:Int) p=rfT (k:Int) p∧dz (k:Int) p=rfG (k:Int) p∧bM (k:Int) p=dh k (aZ k p) (aR k p) (aU k p)∧rfT (k:Int) p=nxT k p:=by
 unfold opT rfT dz rfG bM nxT;rw[if_pos h,if_pos h,if_pos h,Int.toNat_natCast,Nu hk];exact⟨rfl,rfl,rfl,rfl⟩
theorem fam_one {k:Nat}(hk:1≤k∧k≤8):dK (k:Int)=1↔k≤3:=by
 rcases bO hk with rfl|rfl|rfl|rfl|rfl|rfl|rfl|rfl<;>decide
structure Rnd (k:Nat) (P:fz):Prop where
 plc:Plc k P
 nil0:P.d=0→P.p=0
 spot:P.ov=false→ ¬(P.un=true∧P.p<lsI k)→P.d≠0→ia (rdN k:Int) (dgN k:Int) (lsI k) (gsI k) (decide (k≤3)) P.d P.p
theorem rnd_of {k:Nat}(hk:1≤k∧k≤8)(s:Bool)(N M:Nat)(E way:Int)(hN:N≠0)(hM:M≠0):Rnd k (cI (rdN k:Int) (dgN k:Int) (lsI k) (gsI k) (decide (k≤3)) s N M E way):=by
 obtain⟨-,-,d1,-,l1,l0,lg,g2,w64,-,ww,hg⟩:=eR hk;have hD:(1:Int)≤(dgN k:Int):=by omega
 have hfk:=fam_one hk;have hrs:=nW (R:=(rdN k:Int)) (D:=(dgN k:Int)) (L:=lsI k) (G:=gsI k) (gr:=decide (k≤3)) (qs:=s) (N:=N) (M:=M) (E:=E) (way:=way) hD lg hN hM;rw[kJ _ s N M E way hD lg hN hM] at hrs⊢;have hwl:=rP (rdN k:Int) (dgN k:Int) (lsI k) (decide (k≤3)) N M E hD hN hM;have hwp:=Vf (rdN k:Int) (dgN k:Int) (lsI k) (decide (k≤3)) N M E hD hN hM;have hds:=uh (rdN k:Int) (dgN k:Int) (lsI k) (decide (k≤3)) N M E hD hN hM (dj (rdN k:Int) (dgN k:Int) (lsI k) (decide (k≤3)) N M E);have hdz:=CD (rdN k:Int) (dgN k:Int) (fM (rdN k:Int) (dgN k:Int) (lsI k) (decide (k≤3)) s N M E way);have hdg:=KL (rdN k:Int) (dgN k:Int) (lsI k) (decide (k≤3)) s N M E way;have hd1:fM (rdN k:Int) (dgN k:Int) (lsI k) (decide (k≤3)) s N M E way≤cH (rdN k:Int) (dgN k:Int) (lsI k) (decide (k≤3)) N M E+1:=by
  unfold fM
  split<;>omega
 have hdn:gF (rdN k:Int) (dgN k:Int) (lsI k) (decide (k≤3)) N M E=0→fM (rdN k:Int) (dgN k:Int) (lsI k) (decide (k≤3)) s N M E way=cH (rdN k:Int) (dgN k:Int) (lsI k) (decide (k≤3)) N M E:=fun h=>by
  unfold fM;rw[if_neg (fun c=>of_decide_eq_false c.1 h)]
 have hcut:(k≤3→lsI k≤dj (rdN k:Int) (dgN k:Int) (lsI k) (decide (k≤3)) N M E)∧(¬k≤3→dj (rdN k:Int) (dgN k:Int) (lsI k) (decide (k≤3)) N M E=aT (rdN k:Int) (dgN k:Int) (dY N M E)):=by
  unfold dj;refine⟨fun h=> ?_,fun h=> ?_⟩
  ·rw[decide_eq_true h,Bool.and_true]
   split
   ·exact Int.le_refl _
   ·rename_i c
    simpa using c
  ·rw[decide_eq_false h,Bool.and_false,if_neg (by decide)]
 have hcP:gD (rdN k:Int) (dgN k:Int) (fM (rdN k:Int) (dgN k:Int) (lsI k) (decide (k≤3)) s N M E way) (dj (rdN k:Int) (dgN k:Int) (lsI k) (decide (k≤3)) N M E)=dj (rdN k:Int) (dgN k:Int) (lsI k) (decide (k≤3)) N M E∨(gD (rdN k:Int) (dgN k:Int) (fM (rdN k:Int) (dgN k:Int) (lsI k) (decide (k≤3)) s N M E way) (dj (rdN k:Int) (dgN k:Int) (lsI k) (decide (k≤3)) N M E)=dj (rdN k:Int) (dgN k:Int) (lsI k) (decide (k≤3)) N M E+1∧io (rdN k:Int) (dgN k:Int) (fM (rdN k:Int) (dgN k:Int) (lsI k) (decide (k≤3)) s N M E way)=2^ (ai (rdN k:Int)*((dgN k:Int)-1).toNat)):=by
  unfold gD io
  split
  ·exact .inr ⟨rfl,rfl⟩
  ·exact .inl rfl
 have hpw:2^ (ai (rdN k:Int)*((dgN k:Int)-1).toNat)<2^ (ai (rdN k:Int)*(dgN k:Int).toNat):=by
  refine Nat.pow_lt_pow_right (by omega) (Nat.mul_lt_mul_of_pos_left ?_ (by omega));omega
 have hcl:io (rdN k:Int) (dgN k:Int) (fM (rdN k:Int) (dgN k:Int) (lsI k) (decide (k≤3)) s N M E way)<2^ (ai (rdN k:Int)*(dgN k:Int).toNat):=by
  unfold io
  split
  ·exact hpw
  ·omega
 have hlen:(Dg.dg 65536 (io (rdN k:Int) (dgN k:Int) (fM (rdN k:Int) (dgN k:Int) (lsI k) (decide (k≤3)) s N M E way))).length≤100000:=by
  refine Nat.le_trans (Dg.dg_len_le 65536 _ 4 (by omega) (Nat.lt_of_lt_of_le hcl ?_)) (by omega);rw[Int.toNat_natCast];exact Nat.le_trans (Nat.pow_le_pow_right (by omega) w64) (by decide)
 generalize fM (rdN k:Int) (dgN k:Int) (lsI k) (decide (k≤3)) s N M E way=dg at*;generalize dj (rdN k:Int) (dgN k:Int) (lsI k) (decide (k≤3)) N M E=ct at*;generalize aT (rdN k:Int) (dgN k:Int) (dY N M E)=pw at*;generalize cH (rdN k:Int) (dgN k:Int) (lsI k) (decide (k≤3)) N M E=wh at*;generalize gF (rdN k:Int) (dgN k:Int) (lsI k) (decide (k≤3)) N M E=lf at*;generalize hcPe:gD (rdN k:Int) (dgN k:Int) dg ct=cp at*;generalize hcDe:io (rdN k:Int) (dgN k:Int) dg=cd at*;have hpos: ¬k≤3→cd≠0:=fun h c=>by
  have:=hwp (hcut.2 h);have:=hdz.1 c;omega
 refine⟨⟨fun hf hl=> ?_,fun hf ho hu he=> ?_,fun ho hd=> ?_,hlen,fun ho=> ?_⟩,fun hd=>if_pos hd,fun ho hnl hd=> ?_⟩
 ·simp only at hl
  have h3:=hfk.1 hf;have:=hcut.1 h3
  exfalso
  split at hl<;>omega
 ·simp only at ho hu he⊢
  have h3: ¬k≤3:=fun c=>hf (hfk.2 c)
  have e1:=hdn (of_decide_eq_true he);have e2:=hcut.2 h3;have e3:=of_decide_eq_true hu;rw[if_neg (hpos h3)];rw[e1,hds.2] at hcPe;omega
 ·exact hfk.2 (Decidable.byContradiction fun h3=>hpos h3 hd)
 ·simp only at ho⊢
  have hG:=of_decide_eq_false ho
  by_cases h3:k≤3
  ·have:=hcut.1 h3
   right
   split<;>omega
  ·rw[if_neg (hpos h3)]
   have e2:=hcut.2 h3
   by_cases hl:cp<lsI k
   ·left
    exact⟨decide_eq_true (by omega),hl⟩
   ·right
    omega
 ·simp only at ho hnl hd⊢
  rw[if_neg hd] at hnl⊢
  by_cases h3:k≤3
  ·have:=hrs ho (.inr (decide_eq_true h3))
   rw[if_neg hd] at this;exact this
  ·by_cases hu:pw<lsI k
   ·have e2:=hcut.2 h3
    have hl: ¬cp<lsI k:=fun c=>hnl ⟨decide_eq_true hu,c⟩
    have hG:=of_decide_eq_false ho;obtain⟨c1,c2⟩:=hcP.resolve_left (by omega);exact .inr ⟨hd,by omega,by omega,hcl,.inl (by omega)⟩
   ·have:=hrs ho (.inl (decide_eq_false hu))
    rw[if_neg hd] at this;exact this
def SameV (k:Nat)(r:ByteArray×Int×Int)(v:Int×Bool×ak×Int):Prop:=
 r.2.2=0∧r.2.1=v.2.2.2∧ ∀so sc w,Rd w .i64 (.slice so (Dg.dg 65536 v.2.2.1.n).length sc) (Dg.dg 65536 v.2.2.1.n)→yC 61 #[yi (k:Int),yoV v.1 v.2.1 v.2.2.1.s (.slice so (Dg.dg 65536 v.2.2.1.n).length sc) v.2.2.1.e] w (yR w (.string r.1))
theorem same_num {k:Nat}(hk:1≤k∧k≤8)(g:Bool){m:Nat}{p:Int}(fl:Int)(hm:m≠0)(hs:ia (rdN k:Int) (dgN k:Int) (lsI k) (gsI k) (decide (k≤3)) m p):SameV k (Dw k 2 g m p fl) (2,g,bare ⟨g,m,(ai (rdN k:Int):Int)*p⟩,fl):=by
 obtain⟨-,-,d1,-,-,-,lg,-,w64,-,-,hg⟩:=eR hk;obtain⟨l15,p1,p2,w1',w2',t480⟩:=qj hg hs;have hh:=mI (s:=g) hg hs;have hc:chk (Dg.dg 4294967296 m)=0:=pJ (Dg.norm_dg _ _ (by omega)) (by omega);have hl0:(Dg.dg 4294967296 m).length≠0:=fun c=>hm ((Dg.dg_nil_iff 4294967296 _ (by omega)).1 (List.length_eq_zero_iff.1 c))
 have hsh:=Af (s:=g) hg hs;have hb0:(bare ⟨g,m,(ai (rdN k:Int):Int)*p⟩).n≠0:=fun c=>hm ((fI _).1 c)
 have hbs:(bare ⟨g,m,(ai (rdN k:Int):Int)*p⟩).s=g:=by unfold bare;rw[if_neg hm]
 have hE:enE k g (Dg.dg 4294967296 m) p=0:=by
  rw[mY hk hc hl0 (by omega),Dg.vl_dg _ _ (by omega),jK _ _ lg];rw[nN _ _ lg] at hh;rw[hh,if_pos rfl]
 have hS:fq (k:Int) 2 g (Dg.dg 4294967296 m) p=cF (kU k g (heE (rdN k:Int) (lsI k) (gW k) (plT k g (bare ⟨g,m,(ai (rdN k:Int):Int)*p⟩).n (bare ⟨g,m,(ai (rdN k:Int):Int)*p⟩).e)) (plT k g (bare ⟨g,m,(ai (rdN k:Int):Int)*p⟩).n (bare ⟨g,m,(ai (rdN k:Int):Int)*p⟩).e).d):=by
  have hN:enN k g (Dg.dg 4294967296 m) p=(bare ⟨g,m,(ai (rdN k:Int):Int)*p⟩,0):=hsh;have hps:(plT k g (bare ⟨g,m,(ai (rdN k:Int):Int)*p⟩).n (bare ⟨g,m,(ai (rdN k:Int):Int)*p⟩).e).s=g:=(oj (s:=g) (way:=3) (by omega) lg hb0 hh).1;rw[(xH hk hc).2];unfold enS;rw[if_pos hE,hN];simp only;rw[hbs,hps]
 unfold Dw;rw[(xH hk hc).1,hE,if_pos rfl,hS];refine⟨rfl,rfl,fun so sc w hr=> ?_⟩
 simp only at hr⊢;have hbn:=kR ⟨g,m,(ai (rdN k:Int):Int)*p⟩;obtain⟨b1,b2,b3⟩:=gN (t:=⟨g,m,(ai (rdN k:Int):Int)*p⟩) hm;simp only at b2 hbn;have hlen:(Dg.dg 65536 (bare ⟨g,m,(ai (rdN k:Int):Int)*p⟩).n).length≤20000:=by
  have hlt:m<4294967296^15:=by
   have:=Dg.vl_lt 4294967296 _ (Dg.small_dg 4294967296 m (by omega));rw[Dg.vl_dg _ _ (by omega)] at this;exact Nat.lt_of_lt_of_le this (Nat.pow_le_pow_right (by omega) l15)
  refine Nat.le_trans (Dg.dg_len_le 65536 _ 30 (by omega) (Nat.lt_of_le_of_lt hbn (Nat.lt_of_lt_of_le hlt ?_))) (by omega);exact Nat.le_of_eq (by rw[show(4294967296:Nat)=65536^2 from rfl,←Nat.pow_mul])
 exact Bu k hk g g _ so _ sc _ w hr hlen (by omega) (by omega) hb0 hh
theorem same_oth {k:Nat}(hk:1≤k∧k≤8){c:Nat}(hc:c=1∨c=3∨c=4∨c=5)(g:Bool)(fl:Int)(hs:iR k c=true)(hg:g=true→Bk k c=true):SameV k (Dw k (c:Int) g 0 0 fl) ((c:Int),g,⟨false,0,0⟩,fl):=by
 have hf: ¬(dK (k:Int)=0∨(c:Int)<1∨5< (c:Int)):=by
  rcases qt hk with h|h|h<;>omega
 have ho:qX k c 0 g 0=0:=by
  unfold qX;rw[if_neg (by rw[hs];decide),if_neg];rintro(h|h|h)
  ·omega
  ·exact h rfl
  ·rw[hg h.1] at h
   exact absurd h.2 (by decide)
 have hE:gI (k:Int) (c:Int) g (Dg.dg 4294967296 0) 0=0:=by
  unfold gI;rw[if_neg hf,if_neg (fun h=>h (by decide)),if_neg (by omega),Int.toNat_natCast,Int.toNat_natCast]
  exact ho
 have hS:fq (k:Int) (c:Int) g (Dg.dg 4294967296 0) 0=cF (kU k (pI k c||g) (pg k c) (lS k c)):=by
  unfold fq Fv;rw[if_neg hf,if_neg (fun h=>h (by decide)),if_neg (by omega),Int.toNat_natCast,Int.toNat_natCast]
  exact if_pos ho
 unfold Dw;rw[hE,if_pos rfl,hS];exact⟨rfl,rfl,fun so sc w hr=>Bt k c hk hc hs g false so 0 sc 0 w⟩
theorem same_plc {k:Nat}(hk:1≤k∧k≤8)(wy:Int)(P:fz)(h:Rnd k P):SameV k (Dw k (pG k wy P).1 (pG k wy P).2.1 (pG k wy P).2.2.1 (pG k wy P).2.2.2.1 (bits .or .i64 0 (pG k wy P).2.2.2.2)) (plV k wy P):=by
 have hp1:rdN k^dgN k-1≠0:=by
  rcases bO hk with rfl|rfl|rfl|rfl|rfl|rfl|rfl|rfl<;>decide
 have b5:bits .or .i64 0 5=5:=rfl;have b3:bits .or .i64 0 3=3:=rfl;unfold pG plV
 by_cases ho:P.ov=true
 ·simp only[if_pos ho]
  unfold ovV;rw[b5]
  rcases qt hk with hf|hf|hf
  ·have h3: ¬dK (k:Int)=3:=by omega
   simp only[if_neg h3]
   by_cases hb:aaV wy P.s=true
   ·have hc:dK (k:Int)=1∧aaV wy P.s=true:=⟨hf,hb⟩
    simp only[if_pos hc];have h3:=(fam_one hk).1 hf;exact same_oth hk (c:=3) (by decide) P.s 5 (by simp[iR,h3]) (fun _=>rfl)
   ·have hc: ¬(dK (k:Int)=1∧aaV wy P.s=true):=fun c=>hb c.2
    simp only[if_neg hc];exact same_num hk P.s 5 hp1 (EV hk)
  ·have h3: ¬dK (k:Int)=3:=by omega
   have hc: ¬(dK (k:Int)=1∧aaV wy P.s=true):=fun c=>by omega
   simp only[if_neg h3,if_neg hc];exact same_num hk P.s 5 hp1 (EV hk)
  ·simp only[if_pos hf]
   have h6:6≤k:=by
    revert hf
    rcases bO hk with rfl|rfl|rfl|rfl|rfl|rfl|rfl|rfl<;>decide
   exact same_oth hk (c:=5) (by decide) false 5 (by simp[iR,h6]) (fun c=>by cases c)
 simp only[if_neg ho]
 by_cases hl:P.un=true∧P.p<lsI k
 ·simp only[if_pos hl]
  rw[b3];exact same_oth hk (c:=1) (by decide) false 3 rfl (fun c=>by cases c)
 simp only[if_neg hl];have hfl:bits .or .i64 0 (if P.ex=true then 0 else if P.un=true then 3 else 1)=(if P.ex=true then 0 else if P.un=true then 3 else 1):=by
  split
  ·rfl
  ·split<;>rfl
 rw[hfl]
 by_cases hd:P.d=0
 ·simp only[if_pos hd]
  rw[hd,h.nil0 hd];have h3:=(fam_one hk).1 (h.plc.nil (by simpa using ho) hd);exact same_oth hk (c:=1) (by decide) P.s _ rfl (fun _=>by simp[Bk];omega)
 ·simp only[if_neg hd]
  exact same_num hk P.s _ hd (h.spot (by simpa using ho) hl hd)
theorem rd_one16 {w:World}{q:Nat}(h:w.cell? ⟨q,0,none⟩=some (yi 1)):Rd w .i64 (.slice (some ⟨q,0,none⟩) 1 1) [1]:=
 ⟨_,1,rfl,Nat.le_refl _,by unfold maxLen;omega,fun _=>⟨q,0,rfl,fun i hi=>by
  obtain rfl:i=0:=by simpa using hi
  exact h⟩⟩
theorem refOfD_any (x:ak)(xo:Option Addr)(xc:Nat)(w:World):
  yC 127 #[yMV x xo xc] w fun z w'=> ∃eo ec,z= .returned (yrV x.s (.slice xo (Dg.dg 65536 x.n).length xc) (.slice eo 1 ec) x.e)∧Rd w' .i64 (.slice eo 1 ec) [1]∧yB w w':=by
 obtain⟨W,hW,q1,q2,b⟩:=iG w (yML x xo xc) 30 (yrL false (.slice none 0 0) (.slice none 0 0) 0) 66;replace hW:Hid _:=hW
 go_enter func127,ntmps127
 go_upto_region 1 with fail
 rw[hW.out];clear hW;have al:=af W (.cells #[yi 1] 3);have hn:=ah W [yi 1] 3;have hlt:=q2.lt;have q3:=q2.l al;have b3:=aa b al;have hf:=afz (P:=Tryz.prog) q3 b3 (by omega) underlying66 rfl (by kernel_rfl) (.bool x.s) (.slice xo (Dg.dg 65536 x.n).length xc) (.slice (some ⟨W.heap.size,0,none⟩) 1 1) (yi x.e);have HH:Hid (_∧_∧_):=⟨hf.1,hf.2.2.loc hn (by omega),hf.2.1⟩;obtain⟨c0,c1,c2⟩:=q1.cs3;obtain⟨d0,d1,d2⟩:=(q1.l al).cs3;obtain⟨⟨z0,z1,z2,z3⟩,y0,y1,y2,y3⟩:=afB q3;clear hf q1 q2 q3 b b3 al hn hlt
 go_wp2
 obtain⟨hl,hq,bR⟩:=HH.out;exact bodyPost_ret (br results127 rfl hl) rfl ⟨_,_,rfl,rd_one16 (hq.c 0 rfl),bR⟩
theorem round_bare {R D L G:Int}{gr:Bool}{way:Int}(t:ak)(h0:t.n≠0)(hD:1≤D)(hw:ai R*D.toNat≤64)(s:Bool):
  cI R D L G gr s (bare t).n 1 (bare t).e way=cI R D L G gr s t.n 1 t.e way:=by
 obtain⟨b1,b2,-⟩:=gN h0;obtain⟨m,hm⟩:=fO h0;have hn:(bare t).n=2*m+1:=by
  unfold bare;rw[if_neg h0];exact lI hm
 refine AC b1 (by omega) h0 (by omega) hD hw (J:=dY (bare t).n 1 (bare t).e-64) (aep ((max (-t.e) 0).toNat) (by omega) (by omega) (by omega) (by omega) ?_ _) (by omega);rw[hn,b2,Nat.mul_one,Nat.mul_one,show(t.e+(tz t.n:Int)+((max (-t.e) 0).toNat:Int)).toNat=tz t.n+(t.e+((max (-t.e) 0).toNat:Int)).toNat by omega,Nat.pow_add]
 generalize(t.e+((max (-t.e) 0).toNat:Int)).toNat=q at*
 conv=>rhs;rw[hm]
 rw[←Nat.mul_assoc,Nat.mul_comm (2*m+1)]
theorem fitted_any (k:Nat)(hk:1≤k∧k≤8)(wy:Int)(hw:1≤wy∧wy≤5)(qs:Bool)(N M:Nat)(E:Int)(no mo:Option Addr)(nc mc:Nat)(w:World)(hN:N≠0)(hM:M≠0)(rN:Rd w .i64 (.slice no (Dg.dg 65536 N).length nc) (Dg.dg 65536 N))(rM:Rd w .i64 (.slice mo (Dg.dg 65536 M).length mc) (Dg.dg 65536 M))
  (lN:bitLen N≤40000) (lM:bitLen M≤40000) (e1: -100000≤E) (e2:E≤100000):
  yC 39 #[yi (k:Int),yrV qs (.slice no (Dg.dg 65536 N).length nc) (.slice mo (Dg.dg 65536 M).length mc) E,yi wy] w (RVF w (plV k wy (cI (rdN k:Int) (dgN k:Int) (lsI k) (gsI k) (decide (k≤3)) qs N M E wy)).1 (plV k wy (cI (rdN k:Int) (dgN k:Int) (lsI k) (gsI k) (decide (k≤3)) qs N M E wy)).2.1 (plV k wy (cI (rdN k:Int) (dgN k:Int) (lsI k) (gsI k) (decide (k≤3)) qs N M E wy)).2.2.1 (plV k wy (cI (rdN k:Int) (dgN k:Int) (lsI k) (gsI k) (decide (k≤3)) qs N M E wy)).2.2.2):=by
 obtain⟨-,-,-,-,-,-,-,-,-,-,-,hg⟩:=eR hk;have key: ∀L:Nat,40000≤16*L→ ∀{x:Nat},bitLen x≤40000→(Dg.dg 65536 x).length≤L:=fun L hL {x} h=>by
  refine Dg.dg_len_le 65536 x L (by omega) ?_;rw[show(65536:Nat)=2^16 from rfl,←Nat.pow_mul]
  exact wZ (Nat.le_trans h hL)
 have hlen: ∀{x:Nat},bitLen x≤40000→(Dg.dg 65536 x).length≤20000:=fun {x} h=>key 20000 (by omega) h
 have hy:iC wy=true:=by unfold iC;simpa using hw
 refine(acs (k:Int) _ _ _ (rdN k:Int) (dgN k:Int) (lsI k) (gsI k) _ _ wy E _ (decide (k≤3)) _ _ qs N M no mo nc mc (cI (rdN k:Int) (dgN k:Int) (lsI k) (gsI k) (decide (k≤3)) qs N M E wy) _ w (fun w1=>form_any k hk w1) (fun w1 b=>KU _ _ _ _ _ qs no nc mo mc N M E wy w1 hg hy (rN.l b) (rM.l b) (hlen lN) (hlen lM) hN hM e1 e2 (by omega) (by omega)) (fun po pc w1 h=>placed_any k hk wy hw _ (rnd_of hk qs N M E wy hN hM).plc po pc w1 h)).mono (fun z w' h=>h.near)
theorem fitD_any (k:Nat)(hk:1≤k∧k≤8)(wy:Int)(hw:1≤wy∧wy≤5)(x:ak)(xo:Option Addr)(xc:Nat)(w:World)(h0:x.n≠0)(rx:Rd w .i64 (.slice xo (Dg.dg 65536 x.n).length xc) (Dg.dg 65536 x.n))(lN:bitLen x.n≤40000)(e1: -100000≤x.e)(e2:x.e≤100000):
  yC 66 #[yi (k:Int),yMV x xo xc,yi wy] w (RVF w (plV k wy (fY k wy x)).1 (plV k wy (fY k wy x)).2.1 (plV k wy (fY k wy x)).2.2.1 (plV k wy (fY k wy x)).2.2.2):=by
 have hz:(((Dg.dg 65536 x.n).length:Int)==0)=false:=by
  have:(Dg.dg 65536 x.n).length≠0:=fun c=>h0 ((Dg.dg_nil_iff 65536 _ (by omega)).1 (List.length_eq_zero_iff.1 c))
  simpa using this
 exact aeo (k:Int) _ wy _ _ x _ xo xc w hz (fun w1 b=>refOfD_any x xo xc w1) (fun eo ec w1 b h=>fitted_any k hk wy hw x.s x.n 1 x.e xo eo xc ec w1 h0 (by omega) (rx.l b) h lN (by decide) e1 e2)
def nthV (k:Nat)(fl:Int):Int×Bool×ak×Int:=(AZ (dK (k:Int)),false,⟨false,0,0⟩,fl)
theorem same_off {k:Nat}(hk:1≤k∧k≤8)(way fl:Int):SameV k (m8 k way (AZ (dK (k:Int))) false ⟨false,0,0⟩ fl) (nthV k fl):=by
 unfold m8 nthV;rw[if_neg (show¬AZ (dK (k:Int))=2 from fun h=>vN (k:=k) (fl:=0) h)]
 have key: ∀c:Nat,AZ (dK (k:Int))=(c:Int)→(c=1∨c=3∨c=4∨c=5)→iR k c=true→SameV k (Dw k (c:Int) false 0 0 fl) ((c:Int),false,⟨false,0,0⟩,fl):=fun c _ hc hs=>same_oth hk hc false fl hs (fun c=>by cases c)
 rcases qt hk with hf|hf|hf
 ·have e:AZ (dK (k:Int))=((4:Nat):Int):=by rw[hf];rfl
  rw[e,if_neg (by decide)];exact key 4 e (by decide) (by have:=(fam_one hk).1 hf;simp[iR,this])
 ·have e:AZ (dK (k:Int))=((1:Nat):Int):=by rw[hf];rfl
  rw[e,if_pos (by decide)];exact key 1 e (by decide) rfl
 ·have e:AZ (dK (k:Int))=((5:Nat):Int):=by rw[hf];rfl
  rw[e,if_neg (by decide)];have h6:6≤k:=by
   revert hf
   rcases bO hk with rfl|rfl|rfl|rfl|rfl|rfl|rfl|rfl<;>decide
  exact key 5 e (by decide) (by simp[iR,h6])
theorem same_inf {k:Nat}(hk:1≤k∧k≤8)(h3:k≤3)(way:Int)(g:Bool)(t:ak)(fl:Int):SameV k (m8 k way 3 g t fl) (3,g,⟨false,0,0⟩,fl):=by
 unfold m8;rw[if_neg (by decide),if_neg (by decide)];exact same_oth hk (c:=3) (by decide) g fl (by simp[iR,h3]) (fun _=>rfl)
theorem same_nil {k:Nat}(hk:1≤k∧k≤8)(way:Int)(g:Bool)(t:ak)(fl:Int):SameV k (m8 k way 1 g t fl) (1,g&&decide (dK (k:Int)=1),⟨false,0,0⟩,fl):=by
 unfold m8;rw[if_neg (by decide),if_pos rfl];refine same_oth hk (c:=1) (by decide) _ fl rfl (fun h=> ?_)
 have:=(fam_one hk).1 (of_decide_eq_true (Bool.and_eq_true_iff.1 h).2);simp[Bk];omega
theorem same_fit {k:Nat}(hk:1≤k∧k≤8)(way:Int)(g:Bool)(t:ak)(h0:t.n≠0):SameV k (m8 k way 2 g t 0) (plV k way (fY k way t)):=by
 unfold m8;rw[if_pos rfl];exact same_plc hk way _ (rnd_of hk t.s t.n 1 t.e way h0 (by omega))
theorem lost_any (k:Nat)(hk:1≤k∧k≤8)(w:World):yC 59 #[yi (k:Int)] w (RVF w (AZ (dK (k:Int))) false ⟨false,0,0⟩ 16):=
 aen (k:Int) _ w (fun w1=>refNothing_any k hk w1)
theorem off_row (k:Nat)(hk:1≤k∧k≤8)(cl:List Int)(pb:Nat)(w:World)(hm:cl.length≤3)(hc: ∀(i:Nat) c,cl[i]? =some c→w.cell? ⟨pb,i*5,none⟩=some (yi c)):
  ((∀c∈cl,c≤3)→yC 58 #[yi (k:Int),.slice (some ⟨pb,0,none⟩) cl.length cl.length] w (yR w (.tuple #[yoV 0 false false (.slice none 0 0) 0,yi 0,.bool false])))∧
  ((∃j c,0≤j∧cl[j]? =some c∧4≤c)→yC 58 #[yi (k:Int),.slice (some ⟨pb,0,none⟩) cl.length cl.length] w (yR w (.tuple #[yoV (AZ (dK (k:Int))) false false (.slice none 0 0) 0,yi (if dK (k:Int)=3 then 16 else 0),.bool true]))):=by
 have HF:=fun w1=>form_any k hk w1
 have HN:=fun w1=>refNothing_any k hk w1
 refine⟨fun h=>aey _ _ _ _ _ _ _ _ _ _ _ cl pb w hm hc h HF,fun h=> ?_⟩
 by_cases hf:dK (k:Int)=3
 ·rw[if_pos hf]
  rw[hf] at HF;exact aez _ _ _ _ _ _ _ _ _ _ _ cl pb w hm hc h HF HN
 ·rw[if_neg hf]
  exact aff _ _ _ _ _ _ _ _ _ _ _ _ cl pb w hm hc (by simpa using hf) h HF HN
theorem aal (n c e wt:Int)(g:Bool)(t:ak)(so:Option Addr)(sc:Nat)(w:World)(he:(e==0)=false):
  yC 21 #[yi n,.string ⟨#[]⟩,yi 0,yi e,yi e,yEV c g t so sc,yi wt] w (yR w (.bool true)):=by
 obtain⟨W3,hW4,q1,b2⟩:=cA w (yEL c g t so sc) 32;replace hW4:Hid _:=hW4;clear q1
 go_enter func21,ntmps21
 go_upto_region 1 with fail
 rw[hW4.out];clear hW4
 go_wp2
 go_ret
 exact⟨by simp,b2⟩
theorem way_is {way:Int}:iC way=true↔1≤way∧way≤5:=by
 unfold iC;simp
theorem rec_wrong {n way:Int}{ps:List ByteArray}(f:Int×Bool×ak×Int)(h:CK n way ps≠0):jV n way ps f=(⟨#[]⟩,0,CK n way ps):=by
 unfold CK at h⊢;unfold jV
 by_cases hf:dK n=0
 ·rw[if_pos hf,if_pos hf]
 rw[if_neg hf] at h⊢;rw[if_neg hf]
 by_cases he:fT n ps=0
 ·rw[if_pos he] at h⊢
  rw[if_neg (fun c=>c he)]
  cases hw:iC way
  ·rw[if_pos (by
    have: ¬(1≤way∧way≤5):=fun c=>by rw[way_is.2 c] at hw;cases hw
    omega)]
   rfl
  ·rw[hw] at h
   exact absurd rfl h
 ·rw[if_neg he,if_pos he]
theorem opn_right {n way:Int}{ps:List ByteArray}(h:CK n way ps=0): ∃k:Nat,(1≤k∧k≤8)∧n=(k:Int)∧dK n≠0∧fT n ps=0∧1≤way∧way≤5:=by
 unfold CK at h
 by_cases hf:dK n=0
 ·rw[if_pos hf] at h
  exact absurd h (by decide)
 rw[if_neg hf] at h;obtain⟨k1,k2,k3⟩:=fF hf;refine⟨n.toNat,⟨k1,k2⟩,k3.symm,hf, ?_⟩
 by_cases he:fT n ps=0
 ·rw[if_pos he] at h
  cases hw:iC way
  ·rw[hw] at h
   exact absurd h (by decide)
  ·exact⟨he,way_is.1 hw⟩
 ·rw[if_neg he] at h
  exact absurd h he
theorem rec_right {k:Nat}{way:Int}{ps:List ByteArray}(f:Int×Bool×ak×Int)(hf:dK (k:Int)≠0)(he:fT (k:Int) ps=0)(hw:1≤way∧way≤5):jV (k:Int) way ps f=if ps.any (dO (k:Int))=true then m8 k way (AZ (dK (k:Int))) false ⟨false,0,0⟩ (if dK (k:Int)=1 then 0 else 16) else m8 k way f.1 f.2.1 f.2.2.1 f.2.2.2:=by
 unfold jV;rw[if_neg hf,if_neg (by omega),if_neg (by omega),Int.toNat_natCast]
theorem open_err {n way:Int}{ps:List ByteArray}(h:CK n way ps≠0)(hm:ps.length≤3)(pb:Nat)(w:World)(hl:au w pb 9 (ps.map Value.string)):yC 18 #[yi n,yi way,.slice (some ⟨pb,0,none⟩) ps.length ps.length] w (yR w (.tuple #[.slice none 0 0,yi (CK n way ps)])):=
 (Qc n way ps pb w hl hm).mono (fun z w' h2=>by
  rcases h2 with⟨e,-⟩| ⟨-,e,b⟩
  ·exact absurd e h
  ·exact⟨e,b⟩)
theorem open_ok {n way:Int}{ps:List ByteArray}(h:CK n way ps=0)(hm:ps.length≤3)(h0:ps≠[])(pb:Nat)(w:World)(hl:au w pb 9 (ps.map Value.string)):yC 18 #[yi n,yi way,.slice (some ⟨pb,0,none⟩) ps.length ps.length] w fun z w'=> ∃gb cap,z= .returned (.tuple #[.slice (some ⟨gb,0,none⟩) ps.length cap,yi 0])∧ab5 w' n ps gb cap∧yB w w':=
 (Qc n way ps pb w hl hm).mono (fun z w' h2=>by
  rcases h2 with⟨-,v,cs,e,ho,hat,b⟩| ⟨e,-⟩
  ·obtain⟨g,cap,rfl,hv⟩:=ab6 h0 ho hat
   exact⟨g,cap,e,hv,b⟩
  ·exact absurd h e)
theorem hex_num {k:Nat}(hk:1≤k∧k≤8)(hf:dK (k:Int)=2){a:ByteArray}(ha:dF (k:Int) a=0):bM (k:Int) a≤2:=by
 have h45: ¬k≤3∧k≤5:=by
  revert hf
  rcases bO hk with rfl|rfl|rfl|rfl|rfl|rfl|rfl|rfl<;>decide
 unfold bM;rw[if_pos ha,Int.toNat_natCast];unfold dh;rw[if_neg h45.1,if_pos h45.2]
 split<;>omega
theorem inf_few {k:Nat}{a:ByteArray}(ha:dF (k:Int) a=0)(h:bM (k:Int) a=3):k≤3:=by
 refine Decidable.byContradiction fun h3=> ?_
 revert h
 unfold bM;rw[if_pos ha,Int.toNat_natCast];unfold dh;rw[if_neg h3]
 split
 ·split<;>omega
 ·split
  ·split<;>omega
  ·omega
theorem pat_ok {k:Nat}{r:ByteArray×Int×Int}{v:Int×Bool×ak×Int}(h:SameV k r v)(so:Option Addr)(sc:Nat)(w:World)(hr:Rd w .i64 (.slice so (Dg.dg 65536 v.2.2.1.n).length sc) (Dg.dg 65536 v.2.2.1.n)):yC 21 #[yi (k:Int),.string r.1,yi r.2.1,yi r.2.2,yi 0,yoV v.1 v.2.1 v.2.2.1.s (.slice so (Dg.dg 65536 v.2.2.1.n).length sc) v.2.2.1.e,yi v.2.2.2] w (yR w (.bool true)):=by
 obtain⟨h1,h2,h3⟩:=h;rw[h1,h2];exact aaY (k:Int) _ _ _ v.2.2.1 so sc r.1 w (fun w1 b=>h3 so sc w1 (hr.l b))
end Go.Proofs.YtnhackdjplppjaaGreatDoor
