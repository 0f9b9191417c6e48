/-
  Texts laid together: Over, Dy4, Gr1.
-/
import Derived.Laws.ResultCell
import Derived.Test.YtpainhklfoaniaaGreatDoorSc14
import Derived.Test.YtpainhklfoaniaaGreatDoorSc07
set_option maxRecDepth 100000
set_option maxHeartbeats 3200000
namespace Go.Proofs.YtpainhklfoaniaaGreatDoor
open _root_.Go.Proofs.Tryz
open Go.RowKit
theorem zf (w:World)(base e d:Nat)(hb:base≤w.heap.size):Own (w.alloc (.cells #[.int .u32 d] e)) base e .u32 (.slice (some ⟨w.heap.size,0,none⟩) 1 1) [d]:=
 World.ownsRow_lit (e:=e) (size:=1) (base:=base) w #[.int .u32 d] 1 hb (by unfold maxLen;omega) rfl
theorem Xx {a b:Int}(h:b≤a):decide (dm a b<0)=false:=by
 unfold dm;rw[if_neg (by omega)]
 by_cases h2:b<a
 ·rw[if_pos h2];rfl
 ·rw[if_neg h2];rfl
theorem A9 (va vb:Value)(xs ys:List Nat)(w:World)(ha:Rd w .u32 va xs)(hb:Rd w .u32 vb ys)(sa:Dg.Small 4294967296 xs)(sb:Dg.Small 4294967296 ys)(na:Dg.Norm xs)(nb:Dg.Norm ys)(hne:ys≠[])(hla:xs.length≤900000):
  yC 144 #[va,vb] w (Two w (Dg.vl 4294967296 xs/Dg.vl 4294967296 ys) (Dg.vl 4294967296 xs % Dg.vl 4294967296 ys)):=by
 have hcm:=jF va vb xs ys w ha hb sa sb na nb;have hY0:0<Dg.vl 4294967296 ys:=Nat.pos_of_ne_zero (Dg.vl_ne_zero 4294967296 (by omega) ys hne nb);have hln:0<ys.length:=List.length_pos_iff.2 hne
 by_cases hlt:Dg.vl 4294967296 xs<Dg.vl 4294967296 ys
 ·rw[gX (by omega)] at hcm
  rw[Nat.div_eq_of_lt hlt,Nat.mod_eq_of_lt hlt];have HX:Hid (xs=Dg.dg 4294967296 (Dg.vl 4294967296 xs)):=Dg.eq_dg 4294967296 (by omega) xs _ sa na rfl;have HA:Hid (Rd w .u32 va xs):=ha;obtain⟨ao,ca,rfl⟩:=ha.shape;obtain⟨bo,cb,rfl⟩:=hb.shape;clear ha hb sa sb na nb hne hlt hY0
  go_enter func144,ntmps144
  go_wp2_with fail
  refine hcm.mono ?_;rintro e w1 ⟨rfl,b1⟩;clear hcm
  go_wp2_with fail
  refine(Bz _ xs w1 (HA.out.l b1) (by omega)).mono ?_;rintro e w2 ⟨rfl,own2,b2⟩;have own2:=own2.lower b1.size;have b12:=aa b1 b2;clear b1 b2 HA
  go_wp2
  go_ret2
  exact⟨_,_,rfl,aQ _ _ _ _,HX.out▸own2,b12⟩
 ·have hd:=Xx (a:=(Dg.vl 4294967296 xs:Int)) (b:=(Dg.vl 4294967296 ys:Int)) (by omega)
  obtain⟨r,hr⟩: ∃r,dm (Dg.vl 4294967296 xs) (Dg.vl 4294967296 ys)=r:=⟨_,rfl⟩;rw[hr] at hd hcm;clear hr;have HA:Hid (Rd w .u32 va xs):=ha;have HB:Hid (Rd w .u32 vb ys):=hb;obtain⟨ao,ca,rfl⟩:=ha.shape;obtain⟨bo,cb,rfl⟩:=hb.shape
  by_cases h1:ys.length=1
  ·obtain⟨d,rfl⟩: ∃d,ys=[d]:=List.length_eq_one_iff.1 h1
   have hv:Dg.vl 4294967296 [d]=d:=by simp[Dg.vl]
   have hdl:d<4294967296:=(Dg.small_cons.1 sb).1;rw[hv] at hY0⊢;clear ha hb hlt hv h1 hln hne nb sb
   go_enter func144,ntmps144
   go_wp2_with fail
   refine hcm.mono ?_;rintro e w1 ⟨rfl,b1⟩;clear hcm
   go_wp2_with fail
   refine(Bz _ xs w1 (HA.out.l b1) (by omega)).mono ?_;rintro e w2 ⟨rfl,own2,b2⟩;have b12:=aa b1 b2;obtain⟨-,-,hcb⟩:=iQ (HB.out.l b12);obtain⟨bb,boff,rfl,hcell⟩:=hcb (by simp);have hc:=hcell 0 (by simp);simp only[List.getD_cons_zero,Nat.add_zero] at hc;clear hcell hcb
   go_wp2_with fail
   refine(uG _ _ _ _ xs d w2 own2 sa hY0 hdl (by omega)).mono ?_;rintro e w3 ⟨qs,rfl,own3,hql,hqs,hqv,gr3⟩;have b13:=b12.grown gr3 b12.size (fun k hk=>by cases hk;exact b1.size)
   have r3:=own3.rd;have own3:=own3.lower b1.size;obtain⟨rm,hrm⟩: ∃rm,Dg.vl 4294967296 xs % d=rm:=⟨_,rfl⟩;rw[hrm];have hrl:rm<4294967296:=by have:=Nat.mod_lt (Dg.vl 4294967296 xs) hY0;omega
   clear gr3 own2 b12 b2 hc
   go_wp2_with fail
   refine(jD _ _ _ _ _ r3).mono ?_;rintro e w4 ⟨m,rfl,hm,rfl⟩;have t3:=jW 4294967296 (by omega) own3 hqs hm;rw[hqv] at t3;have ownd:=zf w4 w.heap.size 108 rm b13.size;have b4:yB w4 (w4.alloc (.cells #[.int .u32 (rm:Int)] 108)):=(Below.refl _ _).alloc (Nat.le_refl _) _;have t4:=t3.l b4;have b14:=aa b13 b4;have rd4:=ownd.rd;clear own3 r3 hm t3 b4 b13 b1 hqv
   go_wp2_with fail
   refine(jD _ _ _ _ _ rd4).mono ?_;rintro e w5 ⟨m2,rfl,hm2,rfl⟩;have t5:=jW 4294967296 (by omega) ownd (Dg.small_cons.2 ⟨hrl,Dg.small_nil _ (by omega)⟩) hm2;rw[show Dg.vl 4294967296 [rm]=rm from by simp[Dg.vl]] at t5
   clear ownd rd4 hm2
   go_wp2
   go_ret2
   exact⟨_,_,rfl,t4,by rw[hrm];exact t5,b14⟩
  ·have hll:ys.length≤xs.length:=by
    rcases Nat.lt_or_ge xs.length ys.length with e|e
    ·exact absurd (Dg.vl_lt_of_len 4294967296 (by omega) xs ys sa nb e) hlt
    ·exact e
   have HLO:Hid (∀w1,yB w w1→yC 162 #[.slice ao xs.length ca,.slice bo ys.length cb] w1 (Two w1 (Dg.vl 4294967296 xs/Dg.vl 4294967296 ys) (Dg.vl 4294967296 xs % Dg.vl 4294967296 ys))):=fun w1 b1=>
    JS _ _ xs ys w1 (ha.l b1) (hb.l b1) sa sb nb (by omega) hll hla
   obtain⟨q,hq⟩: ∃q,Dg.vl 4294967296 xs/Dg.vl 4294967296 ys=q:=⟨_,rfl⟩;obtain⟨m,hm⟩: ∃m,Dg.vl 4294967296 xs % Dg.vl 4294967296 ys=m:=⟨_,rfl⟩;rw[hq,hm] at HLO⊢;have h2:((ys.length:Int)==1)=false:=by simp;omega
   clear ha hb hlt hne nb sb na sa hY0 hq hm HA HB
   go_enter func144,ntmps144
   go_wp2_with fail
   refine hcm.mono ?_;rintro e w1 ⟨rfl,b1⟩;clear hcm
   go_wp2_with fail
   refine(HLO.out w1 b1).mono ?_;rintro e w2 ⟨v1,v2,rfl,o1,o2,b2⟩;have o1:=o1.lower b1.size;have o2:=o2.lower b1.size;have b12:=aa b1 b2;clear b1 b2 HLO
   go_wp2
   go_ret2
   exact⟨_,_,rfl,o1,o2,b12⟩
theorem CE (n:Nat)(i:Int)(h:0≤i):shN n i=n*2^i.toNat:=by
 unfold shN;rw[if_neg (by omega)]
def eJ (m n:Int):Bool:=decide (n< -m)||decide (m<n)
theorem nK (n m:Int)(w:World)(h0:0≤m)(h1:m≤1000000):yC 107 #[yi n,yi m] w fun z w'=>z= .returned (.bool (eJ m n))∧w'=w:=by
 have hw:IntKind.i64.wrap (-m)= -m:=IntWalk.i64_in _ ⟨by omega,by omega⟩;unfold eJ
 by_cases h:n< -m
 ·go_enter func107,ntmps107
  go_wp2
  go_ret
  simp[h]
 ·go_enter func107,ntmps107
  go_wp2
  go_ret
  simp;omega
def xa (R:Int):Int:=if R=16 then 4000 else 17000
def bk (R D L G:Int):Int:=if R=2∨R=16 then(if D<1∨120<D∨eJ (xa R) L=true∨eJ (xa R) G=true∨G<L then 3 else 0) else 6
theorem FD {R D L G:Int}(h1: ¬R=2)(h2: ¬R=16):bk R D L G=6:=if_neg (fun h=>h.elim h1 h2)
theorem zp {R D L G:Int}(h:R=2∨R=16)(hb:D<1∨120<D∨eJ (xa R) L=true∨eJ (xa R) G=true∨G<L):bk R D L G=3:=(if_pos h).trans (if_pos hb)
theorem Bm {R D L G:Int}(h:R=2∨R=16)(hb: ¬(D<1∨120<D∨eJ (xa R) L=true∨eJ (xa R) G=true∨G<L)):bk R D L G=0:=(if_pos h).trans (if_neg hb)
theorem cB {R D L G:Int}(h:bk R D L G=0):(R=2∨R=16)∧1≤D∧D≤120∧ -17000≤L∧L≤17000∧ -17000≤G∧G≤17000∧L≤G∧(R=16→ -4000≤L∧G≤4000):=by
 unfold bk at h
 split at h
 ·rename_i h1
  split at h
  ·omega
  ·rename_i h2
   have f1:eJ (xa R) L=false:=by
    cases hc:eJ (xa R) L
    ·rfl
    ·exact absurd (.inr (.inr (.inl hc))) h2
   have f2:eJ (xa R) G=false:=by
    cases hc:eJ (xa R) G
    ·rfl
    ·exact absurd (.inr (.inr (.inr (.inl hc)))) h2
   unfold eJ xa at f1 f2;simp only[Bool.or_eq_false_iff,decide_eq_false_iff_not] at f1 f2;refine⟨h1,by omega,by omega, ?_⟩
   split at f1<;>split at f2<;>first|omega| (refine⟨by omega,by omega,by omega,by omega,by omega,fun _=>by omega⟩)
 ·omega
theorem MW (D L G:Int)(gr:Bool)(w:World):
  yC 108 #[ygV 2 D L G gr] w (yR w (yi (bk 2 D L G))):=by
 have bA:=af w (.cells (ygA 2 D L G gr) 26);have l1:=ah w (ygL 2 D L G gr) 26;have c1:=l1.c 1 rfl;have c2:=l1.c 2 rfl;have c3:=l1.c 3 rfl;obtain⟨C,hC⟩: ∃C,bk 2 D L G=C:=⟨_,rfl⟩;have HC3:Hid (D<1∨120<D∨eJ 17000 L=true∨eJ 17000 G=true∨G<L→3=C):=fun h=>by rw[←hC];exact(zp (R:=2) (by omega) h).symm
 have HC0:Hid (¬(D<1∨120<D∨eJ 17000 L=true∨eJ 17000 G=true∨G<L)→0=C):=fun h=>by rw[←hC];exact(Bm (R:=2) (by omega) h).symm
 rw[hC];have H1:Hid (∀w1,yC 107 #[yi L,yi 17000] w1 fun z w'=>z= .returned (.bool (eJ 17000 L))∧w'=w1):=fun w1=>nK L 17000 w1 (by omega) (by omega)
 have H2:Hid (∀w1,yC 107 #[yi G,yi 17000] w1 fun z w'=>z= .returned (.bool (eJ 17000 G))∧w'=w1):=fun w1=>nK G 17000 w1 (by omega) (by omega)
 obtain⟨bl,hbl⟩: ∃b,eJ 17000 L=b:=⟨_,rfl⟩;obtain⟨bg,hbg⟩: ∃b,eJ 17000 G=b:=⟨_,rfl⟩;rw[hbl] at H1 HC3 HC0;rw[hbg] at H2 HC3 HC0;clear hC hbl hbg
 by_cases d1:D<1
 ·obtain rfl:=HC3.out (.inl d1)
  go_enter func108,ntmps108
  go_wp2
  go_ret
  exact⟨rfl,bA⟩
 ·by_cases d2:120<D
  ·obtain rfl:=HC3.out (.inr (.inl d2))
   go_enter func108,ntmps108
   go_wp2
   go_ret
   exact⟨rfl,bA⟩
  ·cases bl
   ·cases bg
    ·by_cases d3:G<L
     ·obtain rfl:=HC3.out (.inr (.inr (.inr (.inr d3))))
      go_enter func108,ntmps108
      go_wp2_with fail
      refine(H1.out _).mono ?_;rintro z w2 ⟨rfl,rfl⟩
      go_wp2_with fail
      refine(H2.out _).mono ?_;rintro z w3 ⟨rfl,rfl⟩
      go_wp2
      go_ret
      exact⟨rfl,bA⟩
     ·obtain rfl:=HC0.out (by simp[d1,d2,d3])
      go_enter func108,ntmps108
      go_wp2_with fail
      refine(H1.out _).mono ?_;rintro z w2 ⟨rfl,rfl⟩
      go_wp2_with fail
      refine(H2.out _).mono ?_;rintro z w3 ⟨rfl,rfl⟩
      go_wp2
      go_ret
      exact⟨rfl,bA⟩
    ·obtain rfl:=HC3.out (.inr (.inr (.inr (.inl rfl))))
     go_enter func108,ntmps108
     go_wp2_with fail
     refine(H1.out _).mono ?_;rintro z w2 ⟨rfl,rfl⟩
     go_wp2_with fail
     refine(H2.out _).mono ?_;rintro z w3 ⟨rfl,rfl⟩
     go_wp2
     go_ret
     exact⟨rfl,bA⟩
   ·obtain rfl:=HC3.out (.inr (.inr (.inl rfl)))
    go_enter func108,ntmps108
    go_wp2_with fail
    refine(H1.out _).mono ?_;rintro z w2 ⟨rfl,rfl⟩
    go_wp2
    go_ret
    exact⟨rfl,bA⟩
theorem Ky (D L G:Int)(gr:Bool)(w:World):
  yC 108 #[ygV 16 D L G gr] w (yR w (yi (bk 16 D L G))):=by
 have bA:=af w (.cells (ygA 16 D L G gr) 26);have l1:=ah w (ygL 16 D L G gr) 26;have c1:=l1.c 1 rfl;have c2:=l1.c 2 rfl;have c3:=l1.c 3 rfl;obtain⟨C,hC⟩: ∃C,bk 16 D L G=C:=⟨_,rfl⟩;have HC3:Hid (D<1∨120<D∨eJ 4000 L=true∨eJ 4000 G=true∨G<L→3=C):=fun h=>by rw[←hC];exact(zp (R:=16) (by omega) h).symm
 have HC0:Hid (¬(D<1∨120<D∨eJ 4000 L=true∨eJ 4000 G=true∨G<L)→0=C):=fun h=>by rw[←hC];exact(Bm (R:=16) (by omega) h).symm
 rw[hC];have H1:Hid (∀w1,yC 107 #[yi L,yi 4000] w1 fun z w'=>z= .returned (.bool (eJ 4000 L))∧w'=w1):=fun w1=>nK L 4000 w1 (by omega) (by omega)
 have H2:Hid (∀w1,yC 107 #[yi G,yi 4000] w1 fun z w'=>z= .returned (.bool (eJ 4000 G))∧w'=w1):=fun w1=>nK G 4000 w1 (by omega) (by omega)
 obtain⟨bl,hbl⟩: ∃b,eJ 4000 L=b:=⟨_,rfl⟩;obtain⟨bg,hbg⟩: ∃b,eJ 4000 G=b:=⟨_,rfl⟩;rw[hbl] at H1 HC3 HC0;rw[hbg] at H2 HC3 HC0;clear hC hbl hbg
 by_cases d1:D<1
 ·obtain rfl:=HC3.out (.inl d1)
  go_enter func108,ntmps108
  go_wp2
  go_ret
  exact⟨rfl,bA⟩
 ·by_cases d2:120<D
  ·obtain rfl:=HC3.out (.inr (.inl d2))
   go_enter func108,ntmps108
   go_wp2
   go_ret
   exact⟨rfl,bA⟩
  ·cases bl
   ·cases bg
    ·by_cases d3:G<L
     ·obtain rfl:=HC3.out (.inr (.inr (.inr (.inr d3))))
      go_enter func108,ntmps108
      go_wp2_with fail
      refine(H1.out _).mono ?_;rintro z w2 ⟨rfl,rfl⟩
      go_wp2_with fail
      refine(H2.out _).mono ?_;rintro z w3 ⟨rfl,rfl⟩
      go_wp2
      go_ret
      exact⟨rfl,bA⟩
     ·obtain rfl:=HC0.out (by simp[d1,d2,d3])
      go_enter func108,ntmps108
      go_wp2_with fail
      refine(H1.out _).mono ?_;rintro z w2 ⟨rfl,rfl⟩
      go_wp2_with fail
      refine(H2.out _).mono ?_;rintro z w3 ⟨rfl,rfl⟩
      go_wp2
      go_ret
      exact⟨rfl,bA⟩
    ·obtain rfl:=HC3.out (.inr (.inr (.inr (.inl rfl))))
     go_enter func108,ntmps108
     go_wp2_with fail
     refine(H1.out _).mono ?_;rintro z w2 ⟨rfl,rfl⟩
     go_wp2_with fail
     refine(H2.out _).mono ?_;rintro z w3 ⟨rfl,rfl⟩
     go_wp2
     go_ret
     exact⟨rfl,bA⟩
   ·obtain rfl:=HC3.out (.inr (.inr (.inl rfl)))
    go_enter func108,ntmps108
    go_wp2_with fail
    refine(H1.out _).mono ?_;rintro z w2 ⟨rfl,rfl⟩
    go_wp2
    go_ret
    exact⟨rfl,bA⟩
theorem vE (R D L G:Int)(gr:Bool)(w:World):
  yC 108 #[ygV R D L G gr] w (yR w (yi (bk R D L G))):=by
 by_cases h2:R=2
 ·subst h2
  exact MW D L G gr w
 ·by_cases h16:R=16
  ·subst h16
   exact Ky D L G gr w
  ·rw[FD h2 h16]
   have bA:=af w (.cells (ygA R D L G gr) 26);have e1:(R != 2)=true:=by simp;exact h2
   have e2:(R != 16)=true:=by simp;exact h16
   go_enter func108,ntmps108
   go_wp2
   go_ret
   exact⟨rfl,bA⟩
def xg (R:Int):Int:=if R=16 then 4 else 1
theorem tY (R D L G:Int)(gr:Bool)(w:World):
  yC 117 #[ygV R D L G gr] w (yR w (yi (xg R))):=by
 have bA:=af w (.cells (ygA R D L G gr) 160);unfold xg
 by_cases h:R=16
 ·rw[if_pos h]
  subst h
  go_enter func117,ntmps117
  go_wp2
  go_ret
  exact⟨rfl,bA⟩
 ·rw[if_neg h]
  have e:(R==16)=false:=by simp;exact h
  go_enter func117,ntmps117
  go_wp2
  go_ret
  exact⟨rfl,bA⟩
def ai (R:Int):Nat:=if R=16 then 4 else 1
theorem jf (R:Int):xg R=(ai R:Int):=by unfold xg ai;split<;>rfl
theorem eN (R:Int):1≤ai R∧ai R≤4:=by unfold ai;split<;>omega
theorem C7 (R D L G:Int)(gr:Bool)(n:Nat)(w:World)(hn:n≤1000):
  yC 165 #[ygV R D L G gr,yi n] w (Num w (2^ (ai R*n))):=by
 have b1:=af w (.cells (ygA R D L G gr) 160);have b2:=aa b1 (af _ (.cells #[.int .u32 ((1:Nat):Int)] 108));have r2:=cE (w:=w.alloc (.cells (ygA R D L G gr) 160)) (k:= .u32) (e:=108) [1] #[.int .u32 ((1:Nat):Int)] rfl (by unfold maxLen;simp);rw[World.size_alloc] at r2;have HW:Hid (yJ 117 #[ygV R D L G gr] (yi (xg R))):=fun w1=>tY R D L G gr w1
 have hwl:=eN R;rw[jf] at HW;obtain⟨wd,hwd⟩: ∃k,ai R=k:=⟨_,rfl⟩;rw[hwd] at HW hwl⊢;have hml:wd*n≤4000:=Nat.le_trans (Nat.mul_le_mul hwl.2 hn) (by omega);have HS:Hid (∀v w1,Rd w1 .u32 v [1]→yC 118 #[v,yi ((wd:Int)*(n:Int))] w1 (Num w1 (2^ (wd*n)))):=fun v w1 r=>by
  have:=eO v [1] ((wd*n:Nat):Int) w1 r (Dg.small_cons.2 ⟨by omega,Dg.small_nil _ (by omega)⟩) (by simp) (by omega) (by omega);rw[CE _ _ (by omega),Int.toNat_natCast,show Dg.vl 4294967296 [1]=1 from rfl,Nat.one_mul] at this
  rwa [Int.natCast_mul] at this
 have hmi:(wd:Int)*(n:Int)≤4000:=by exact_mod_cast hml
 have hm0:0≤(wd:Int)*(n:Int):=by exact_mod_cast Nat.zero_le _
 have hw1:IntKind.i64.wrap ((wd:Int)*(n:Int))=(wd:Int)*(n:Int):=IntWalk.i64_in _ ⟨by omega,by omega⟩;clear hwd
 go_enter func165,ntmps165
 go_wp2_with fail
 refine(HW.out _).mono ?_;rintro z w3 ⟨rfl,b3⟩;have b03:=aa b2 b3;have r3:=r2.l b3;clear b1 b2 r2 b3
 go_wp2_with fail
 refine(HS.out _ _ r3).mono ?_;rintro z w4 ⟨v4,rfl,o4,b4⟩;have b04:=aa b03 b4;have o5:=o4.lower b03.size
 go_wp2
 go_ret
 exact⟨_,rfl,o5,b04⟩
theorem Ax (R D L G:Int)(gr:Bool)(w:World)(h1:1≤D)(h2:D≤120):
  yC 150 #[ygV R D L G gr] w (Num w (2^ (ai R*(D-1).toNat))):=by
 obtain⟨d,rfl⟩: ∃d:Nat,D=(d:Int)+1:=⟨(D-1).toNat,by omega⟩;have e0:((d:Int)+1-1).toNat=d:=by omega
 rw[e0];have b1:=af w (.cells (ygA R ((d:Int)+1) L G gr) 160);have HR:Hid (∀w1,yC 165 #[ygV R ((d:Int)+1) L G gr,yi d] w1 (Num w1 (2^ (ai R*d)))):=fun w1=>C7 R _ L G gr d w1 (by omega)
 go_enter func150,ntmps150
 go_wp2_with fail
 refine(HR.out _).mono ?_;rintro z w4 ⟨v4,rfl,o4,b4⟩;have b04:=aa b1 b4;have o5:=o4.lower b1.size
 go_wp2
 go_ret
 exact⟨_,rfl,o5,b04⟩
theorem MX (R D L G:Int)(gr:Bool)(w:World)(h1:1≤D)(h2:D≤120):
  yC 149 #[ygV R D L G gr] w (Num w (2^ (ai R*D.toNat))):=by
 obtain⟨d,rfl⟩: ∃d:Nat,D=(d:Int):=⟨D.toNat,by omega⟩;rw[Int.toNat_natCast];have b1:=af w (.cells (ygA R (d:Int) L G gr) 160);have HR:Hid (∀w1,yC 165 #[ygV R (d:Int) L G gr,yi d] w1 (Num w1 (2^ (ai R*d)))):=fun w1=>C7 R _ L G gr d w1 (by omega)
 go_enter func149,ntmps149
 go_wp2_with fail
 refine(HR.out _).mono ?_;rintro z w4 ⟨v4,rfl,o4,b4⟩;have b04:=aa b1 b4;have o5:=o4.lower b1.size
 go_wp2
 go_ret
 exact⟨_,rfl,o5,b04⟩
def aT (R D top:Int):Int:=top/(ai R:Int)-(D-1)
theorem Qd (a:Int)(k:Nat)(hk:0<k):(a<a.tdiv k*k→a/(k:Int)=a.tdiv k-1)∧(¬a<a.tdiv k*k→a/(k:Int)=a.tdiv k):=by
 have e:=Int.tmod_add_mul_tdiv a k;have h1:a.tmod k<k:=Int.tmod_lt_of_pos a (by omega);have h2: -(k:Int)<a.tmod k:=by
  have h:=Int.tmod_lt_of_pos (-a) (b:=(k:Int)) (by omega);rw[Int.neg_tmod] at h;omega
 have e2:(k:Int)*a.tdiv k=a.tdiv k*k:=Int.mul_comm _ _;rw[e2] at e
 constructor
 ·intro h
  have h3:a=(a.tmod k+k)+(k:Int)*(a.tdiv k-1):=by
   rw[Int.mul_sub,e2];omega
  rw[h3,Int.add_mul_ediv_left _ _ (by omega),Int.ediv_eq_zero_of_lt (by omega) (by omega)];rw[←h3];omega
 ·intro h
  have h3:a=a.tmod k+(k:Int)*a.tdiv k:=by
   rw[e2];omega
  rw[h3,Int.add_mul_ediv_left _ _ (by omega),Int.ediv_eq_zero_of_lt (by omega) (by omega)];rw[←h3];omega
theorem FE (R D L G:Int)(gr:Bool)(top:Int)(w:World)(h1:1≤D)(h2:D≤120)(t1: -1000000≤top)(t2:top≤1000000):
  yC 114 #[ygV R D L G gr,yi top] w (yR w (yi (aT R D top))):=by
 have b1:=af w (.cells (ygA R D L G gr) 160);have l1:=ah w (ygL R D L G gr) 160;have HW:Hid (yJ 117 #[ygV R D L G gr] (yi (xg R))):=fun w1=>tY R D L G gr w1
 have hwl:=eN R;have hfl:=Qd top (ai R) (by omega);unfold aT;rw[jf] at HW;obtain⟨wd,hwd⟩: ∃k,ai R=k:=⟨_,rfl⟩;rw[hwd] at HW hwl hfl⊢;have hne:((wd:Int)==0)=false:=by simp;omega
 have hne2: ¬(wd:Int)=0:=by omega
 have q1: -1000000≤top.tdiv wd∧top.tdiv wd≤1000000:=by
  have:=Int.natAbs_tdiv_le_natAbs top wd;omega
 have q2: -1000004≤top.tdiv wd*wd∧top.tdiv wd*wd≤1000004:=by
  have e:=Int.tmod_add_mul_tdiv top wd;have e2:(wd:Int)*top.tdiv wd=top.tdiv wd*wd:=Int.mul_comm _ _;have hx:=Int.tmod_lt_of_pos top (b:=(wd:Int)) (by omega);have hy:=Int.tmod_lt_of_pos (-top) (b:=(wd:Int)) (by omega);rw[Int.neg_tmod] at hy;omega
 obtain⟨q,hq⟩: ∃q,top.tdiv wd=q:=⟨_,rfl⟩;rw[hq] at hfl q1 q2;obtain⟨m,hm⟩: ∃m,q*(wd:Int)=m:=⟨_,rfl⟩;rw[hm] at hfl q2;have w0:IntKind.i64.wrap q=q:=IntWalk.i64_in _ ⟨by omega,by omega⟩;have w1:IntKind.i64.wrap m=m:=IntWalk.i64_in _ ⟨by omega,by omega⟩;have w2:IntKind.i64.wrap (D-1)=D-1:=IntWalk.i64_in _ ⟨by omega,by omega⟩;clear hwd
 by_cases hlt:top<m
 ·rw[hfl.1 hlt]
  have w3:IntKind.i64.wrap (q-1)=q-1:=IntWalk.i64_in _ ⟨by omega,by omega⟩;have w4:IntKind.i64.wrap (q-1-(D-1))=q-1-(D-1):=IntWalk.i64_in _ ⟨by omega,by omega⟩;clear hfl
  go_enter func114,ntmps114
  go_wp2_with fail
  refine(HW.out _).mono ?_;rintro z w3' ⟨rfl,b3⟩;have b03:=aa b1 b3;have c1:=(l1.l b3).c 1 rfl
  go_wp2
  go_ret
  exact⟨rfl,b03⟩
 ·rw[hfl.2 hlt]
  have hltf:decide (top<m)=false:=by simp;omega
  have w4:IntKind.i64.wrap (q-(D-1))=q-(D-1):=IntWalk.i64_in _ ⟨by omega,by omega⟩;clear hfl
  go_enter func114,ntmps114
  go_wp2_with fail
  refine(HW.out _).mono ?_;rintro z w3' ⟨rfl,b3⟩;have b03:=aa b1 b3;have c1:=(l1.l b3).c 1 rfl
  go_wp2
  go_ret
  exact⟨rfl,b03⟩
def eA (xs ys:List Nat)(E:Int):Int:=if chk xs=0 then(if chk ys=0 then(if ys.length=0∨eJ 20000 E=true then 3 else 0) else chk ys) else chk xs
def jg (c d:Int):Int:=if c=0 then d else c
def nL (cx cy:Int)(ly:Nat)(fe:Bool)(gc:Int):Int:=if cx=0 then(if cy=0 then(if ly=0∨fe=true then 3 else gc) else cy) else cx
theorem Uu (xs ys:List Nat)(E gc:Int):jg (eA xs ys E) gc=nL (chk xs) (chk ys) ys.length (eJ 20000 E) gc:=by
 unfold jg eA nL
 by_cases h1:chk xs=0
 ·rw[if_pos h1,if_pos h1]
  by_cases h2:chk ys=0
  ·rw[if_pos h2,if_pos h2]
   by_cases h3:ys.length=0∨eJ 20000 E=true
   ·rw[if_pos h3,if_pos h3,if_neg (by omega)]
   ·rw[if_neg h3,if_neg h3,if_pos rfl]
  ·rw[if_neg h2,if_neg h2,if_neg h2]
 ·rw[if_neg h1,if_neg h1,if_neg h1]
theorem MY (qs:Bool)(ao:Option Addr)(ca la:Nat)(bo:Option Addr)(cb lb:Nat)(E R D L G:Int)(gr:Bool)(cx cy:Int)(fe:Bool)(gc:Int)(w:World)
  (H1: ∀w1,yB w w1→yC 71 #[.slice ao la ca] w1 fun z w'=>z= .returned (yi cx)∧w'=w1)
  (H2: ∀w1,yB w w1→yC 71 #[.slice bo lb cb] w1 fun z w'=>z= .returned (yi cy)∧w'=w1)
  (H3: ∀w1,yC 107 #[yi E,yi 20000] w1 fun z w'=>z= .returned (.bool fe)∧w'=w1)
  (H4:yJ 108 #[ygV R D L G gr] (yi gc)):
  yC 84 #[yrV qs (.slice ao la ca) (.slice bo lb cb) E,ygV R D L G gr] w (yR w (yi (nL cx cy lb fe gc))):=by
 replace H1:Hid _:=H1;replace H2:Hid _:=H2;replace H3:Hid _:=H3;replace H4:Hid _:=H4;have b1:=aa (af w (.cells (yrA qs (.slice ao la ca) (.slice bo lb cb) E) 91)) (af _ (.cells (ygA R D L G gr) 26))
 by_cases hx:cx=0
 ·subst hx
  by_cases hy:cy=0
  ·subst hy
   by_cases hl:lb=0
   ·subst hl
    rw[show nL 0 0 0 fe gc=3 from by unfold nL;simp]
    go_enter func84,ntmps84
    go_wp2_with fail
    refine(H1.out _ b1).mono ?_;rintro z w2 ⟨rfl,rfl⟩
    go_wp2_with fail
    refine(H2.out _ b1).mono ?_;rintro z w2 ⟨rfl,rfl⟩
    go_wp2
    go_ret
    exact⟨rfl,b1⟩
   ·have hlf:((lb:Int)==0)=false:=by simp;exact hl
    cases fe
    ·rw[show nL 0 0 lb false gc=gc from by unfold nL;simp[hl]]
     go_enter func84,ntmps84
     go_wp2_with fail
     refine(H1.out _ b1).mono ?_;rintro z w2 ⟨rfl,rfl⟩
     go_wp2_with fail
     refine(H2.out _ b1).mono ?_;rintro z w2 ⟨rfl,rfl⟩
     go_wp2_with fail
     refine(H3.out _).mono ?_;rintro z w2 ⟨rfl,rfl⟩
     go_wp2_with fail
     refine(H4.out _).mono ?_;rintro z w4 ⟨rfl,b4⟩;have b04:=aa b1 b4
     go_wp2
     go_ret
     exact⟨rfl,b04⟩
    ·rw[show nL 0 0 lb true gc=3 from by unfold nL;simp]
     go_enter func84,ntmps84
     go_wp2_with fail
     refine(H1.out _ b1).mono ?_;rintro z w2 ⟨rfl,rfl⟩
     go_wp2_with fail
     refine(H2.out _ b1).mono ?_;rintro z w2 ⟨rfl,rfl⟩
     go_wp2_with fail
     refine(H3.out _).mono ?_;rintro z w2 ⟨rfl,rfl⟩
     go_wp2
     go_ret
     exact⟨rfl,b1⟩
  ·have hyf:(cy==0)=false:=by simp;exact hy
   rw[show nL 0 cy lb fe gc=cy from by unfold nL;simp[hy]]
   go_enter func84,ntmps84
   go_wp2_with fail
   refine(H1.out _ b1).mono ?_;rintro z w2 ⟨rfl,rfl⟩
   go_wp2_with fail
   refine(H2.out _ b1).mono ?_;rintro z w2 ⟨rfl,rfl⟩
   go_wp2
   go_ret
   exact⟨rfl,b1⟩
 ·have hxf:(cx==0)=false:=by simp;exact hx
  rw[show nL cx cy lb fe gc=cx from by unfold nL;simp[hx]]
  go_enter func84,ntmps84
  go_wp2_with fail
  refine(H1.out _ b1).mono ?_;rintro z w2 ⟨rfl,rfl⟩
  go_wp2
  go_ret
  exact⟨rfl,b1⟩
theorem Qe (qs:Bool)(ao:Option Addr)(ca:Nat)(xs:List Nat)(bo:Option Addr)(cb:Nat)(ys:List Nat)(E R D L G:Int)(gr:Bool)(w:World)(ha:Rd w .u32 (.slice ao xs.length ca) xs)(hb:Rd w .u32 (.slice bo ys.length cb) ys):
  yC 84 #[yrV qs (.slice ao xs.length ca) (.slice bo ys.length cb) E,ygV R D L G gr] w (yR w (yi (jg (eA xs ys E) (bk R D L G)))):=by
 rw[Uu];exact MY qs ao ca xs.length bo cb ys.length E R D L G gr _ _ _ _ w (fun w1 b1=>jC _ _ w1 (ha.l b1)) (fun w1 b1=>jC _ _ w1 (hb.l b1)) (fun w1=>nK E 20000 w1 (by omega) (by omega)) (fun w1=>vE R D L G gr w1)
end Go.Proofs.YtpainhklfoaniaaGreatDoor
