/-
  Texts laid together: Gq1, Gq4, Gr13.
-/
import Derived.Test.YtpainhklfoaniaaGreatDoorSc27
import Derived.Test.YtpainhklfoaniaaGreatDoorSc23
set_option maxRecDepth 100000
set_option maxHeartbeats 1600000
namespace Go.Proofs.YtpainhklfoaniaaGreatDoor
open _root_.Go.Proofs.Tryz
open Go.RowKit
def Rp (w:World)(q r d:Nat)(e:Ending)(w':World):Prop:=
 ∃v1 v2 v3,e= .returned (.tuple #[v1,v2,v3])∧Rd w' .i64 v1 (Dg.dg 65536 q)∧Rd w' .i64 v2 (Dg.dg 65536 r)∧Rd w' .i64 v3 (Dg.dg 65536 d)∧yB w w'
theorem Jh (n k L j:Nat)(h:(Dg.dg 65536 n).length≤L)(hk:k≤16*j):(Dg.dg 65536 (n*2^k)).length≤L+j:=by
 apply Dg.dg_len_le 65536 _ _ (by omega);have h1:=Dg.vl_lt 65536 (Dg.dg 65536 n) (Dg.small_dg _ _ (by omega));rw[Dg.vl_dg _ _ (by omega)] at h1;have h2:65536^ (Dg.dg 65536 n).length≤65536^L:=Nat.pow_le_pow_right (by omega) h;have h3:2^k≤65536^j:=by
  rw[show(65536:Nat)=2^16 from rfl,←Nat.pow_mul]
  exact Nat.pow_le_pow_right (by omega) hk
 rw[Nat.pow_add];exact Nat.lt_of_lt_of_le (Nat.mul_lt_mul_of_pos_right (Nat.lt_of_lt_of_le h1 h2) (Nat.pow_pos (by omega))) (Nat.mul_le_mul_left _ h3)
theorem GB {N:Nat}{n:Int}(h:(Dg.dg 65536 N).length≤100000)(hn:n≤900000):(Dg.dg 65536 (eZ N n)).length≤160000:=by
 rw[fw];exact Nat.le_trans (Jh N n.toNat 100000 56251 h (by omega)) (by omega)
theorem GC {M:Nat}{n:Int}(h:(Dg.dg 65536 M).length≤100000)(hn: -900000≤n):(Dg.dg 65536 (dX M n)).length≤160000:=by
 rw[eM];exact Nat.le_trans (Jh M (-n).toNat 100000 56251 h (by omega)) (by omega)
theorem N8 {M:Nat}(n:Int)(hM:0<M):0<dX M n:=by
 rw[eM];exact Nat.mul_pos hM (bG _)
theorem BM (qs:Bool)(ao:Option Addr)(la ca:Nat)(bo:Option Addr)(lb cb:Nat)(N M:Nat)(E n:Int)(w:World)
  (ha:Rd w .i64 (.slice ao la ca) (Dg.dg 65536 N)) (hb:Rd w .i64 (.slice bo lb cb) (Dg.dg 65536 M)) (hla:(Dg.dg 65536 N).length≤100000) (hlb:(Dg.dg 65536 M).length≤100000) (hM:0<M) (n1: -900000≤E-n) (n2:E-n≤900000):
  yC 59 #[yrV qs (.slice ao la ca) (.slice bo lb cb) E,yi n] w (Rp w (eZ N (E-n)/dX M (E-n)) (eZ N (E-n) % dX M (E-n)) (dX M (E-n))):=by
 have b1:=af w (.cells (yrA qs (.slice ao la ca) (.slice bo lb cb) E) 58);have l1:=ah w (yrL qs (.slice ao la ca) (.slice bo lb cb) E) 58;have hX:=GB (n:=E-n) hla n2;have hY:=GC (n:=E-n) hlb n1;have hY0:=N8 (E-n) hM;have HIN:Hid (∀v u w1,Rd w1 .i64 v (Dg.dg 65536 (eZ N (E-n)))→Rd w1 .i64 u (Dg.dg 65536 (dX M (E-n)))→yC 88 #[v,u] w1 (JI w1 (eZ N (E-n)/dX M (E-n)) (eZ N (E-n) % dX M (E-n)))):=fun v u w1 r1 r2=>
  qM v u _ _ w1 r1 r2 (by omega) (by omega) hY0
 have HSN:Hid (∀w1,yB w w1→n≤E→yC 62 #[.slice ao la ca,yi (E-n)] w1 (cG w1 (eZ N (E-n)))):=fun w1 b hn=>by
  have:=kD _ _ (E-n).toNat w1 (ha.l b) (Dg.small_dg _ _ (by omega)) (by omega) (by omega);rw[Dg.vl_dg _ _ (by omega),←fw,Int.toNat_of_nonneg (by omega)] at this;exact this
 have HSD:Hid (∀w1,yB w w1→ ¬n≤E→yC 62 #[.slice bo lb cb,yi (n-E)] w1 (cG w1 (dX M (E-n)))):=fun w1 b hn=>by
  have:=kD _ _ (n-E).toNat w1 (hb.l b) (Dg.small_dg _ _ (by omega)) (by omega) (by omega);rw[Dg.vl_dg _ _ (by omega),Int.toNat_of_nonneg (by omega),show n-E= -(E-n) by omega,←eM] at this
  rw[show n-E= -(E-n) by omega]
  exact this
 have HN0:Hid (¬n≤E→eZ N (E-n)=N):=fun h=>if_pos (by omega)
 have HD0:Hid (n≤E→dX M (E-n)=M):=fun h=>if_neg (by omega)
 have RA:Hid (Rd _ _ _ _):=ha.l b1;have RB:Hid (Rd _ _ _ _):=hb.l b1;have W1:IntKind.i64.wrap (E-n)=E-n:=IntWalk.i64_in _ ⟨by omega,by omega⟩;have W2:IntKind.i64.wrap (n-E)=n-E:=IntWalk.i64_in _ ⟨by omega,by omega⟩;obtain⟨X,hX⟩: ∃X,eZ N (E-n)=X:=⟨_,rfl⟩;obtain⟨Y,hY⟩: ∃Y,dX M (E-n)=Y:=⟨_,rfl⟩;rw[hX] at HIN HSN HN0⊢;rw[hY] at HIN HSD HD0⊢;clear ha hb hla hlb hX hY hY0 hM;have c1:=l1.c 1 rfl;have c2:=l1.c 2 rfl;have c3:=l1.c 3 rfl
 by_cases hn:n≤E
 ·obtain rfl:=HD0.out hn
  go_enter func59,ntmps59
  go_wp2_with fail
  go_quiet (fail)
  have bd:=aL b1 nq;have rb:=Rd.l RB.out (aL (Below.refl _ _) nq)
  go_wp2_with fail
  refine(HSN.out _ bd hn).mono ?_;rintro z w2 ⟨v2,rfl,r2,b2⟩;have b02:=aa bd b2;have rb2:=rb.l b2
  go_wp2_with fail
  refine(HIN.out _ _ _ r2 rb2).mono ?_;rintro z w3 ⟨v3,v4,rfl,r3,r4,b3⟩;have b03:=aa b02 b3
  go_wp2
  go_ret3
  exact⟨_,_,_,rfl,r3,r4,rb2.l b3,b03⟩
 ·have hnf:decide (n≤E)=false:=by simp;omega
  obtain rfl:=HN0.out hn
  go_enter func59,ntmps59
  go_wp2_with fail
  go_quiet (fail)
  have bd:=aL b1 nq;have ra:=Rd.l RA.out (aL (Below.refl _ _) nq)
  go_wp2_with fail
  refine(HSD.out _ bd hn).mono ?_;rintro z w2 ⟨v2,rfl,r2,b2⟩;have b02:=aa bd b2;have ra2:=ra.l b2
  go_wp2_with fail
  refine(HIN.out _ _ _ ra2 r2).mono ?_;rintro z w3 ⟨v3,v4,rfl,r3,r4,b3⟩;have b03:=aa b02 b3
  go_wp2
  go_ret3
  exact⟨_,_,_,rfl,r3,r4,r2.l b3,b03⟩
theorem Rd.setC {w:World}{k:IntKind}{v:Value}{zs:List Nat}(h:Rd w k v zs){b i:Nat}{x:Value}(hx:w.cell? ⟨b,i,none⟩=some x)(hn: ∀n:Int,x≠ .int k n)(y:Value):Rd (w.setCell ⟨b,i,none⟩ y) k v zs:=by
 obtain⟨ao,cap,rfl,h1,h2,h3⟩:=h;refine⟨ao,cap,rfl,h1,h2,fun hp=> ?_⟩
 obtain⟨g,off,rfl,hc⟩:=h3 hp;refine⟨g,off,rfl,fun j hj=> ?_⟩
 have hj:=hc j hj;have hne:(⟨b,i,none⟩:Addr)≠⟨g,off+j,none⟩:=by
  intro e;rw[←e,hx] at hj;exact hn _ (Option.some.inj hj)
 exact(World.cell?_setCell_other _ _ _ _ hne).trans hj
theorem ZQ (n wh pt:Nat)(w:World)(hn:n=16*wh+pt)(hpt:pt<16)(hnl:n≤1000000):
  yC 26 #[yi n] w fun e w'=> ∃v,e= .returned v∧Own w' w.heap.size 3 .i64 v (Dg.dg 65536 (2^n))∧yB w w':=by
 have hd:=C6 wh pt hpt;rw[←hn] at hd;obtain⟨i0,hi,hz0,hz1,hz2⟩:=info_parts Tryz.infoI64;have hq:(n:Int)/16=(wh:Int):=by omega
 have hr:(n:Int) % 16=(pt:Int):=by omega
 have hwl:wh≤1000000:=by omega
 have HD:Hid ((List.replicate (wh+1) 0).set wh (2^pt)=Dg.dg 65536 (2^n)):=hd;clear hd hn
 go_enter func26,ntmps26
 go_wp2_with (at_make;refine wpList_make_full _ rfl _ _ 33 rfl w.heap.size 3 i0 (yi 0) 1 underlying33 hi hz0 hz1 _ _ _ _ (wh+1) rfl rfl (by omega) (by omega) ?b2 ?b3 (Nat.le_refl _) ?_)
 case b2=>rw[hz2];omega
 case b3=>unfold maxLen;omega
 intro w0 hown0 hgrow0;have own0:=gL hown0;have bel0:yB w w0:=(Below.refl _ _).grown hgrow0 (Nat.le_refl _) (fun k h=>by cases h)
 clear hown0 hgrow0
 go_wp2
 go_loop [4,5] (fun dv iv=> ∃k d:Nat,k≤pt∧iv=yi k∧dv=yi d∧Hid (d=2^k)) (fun _ iv=>pt-(intOf iv).toNat)
 case atStart=>exact⟨0,1,Nat.zero_le _,rfl,rfl,rfl⟩
 case round=>
  obtain⟨k,d,hk,rfl,rfl,hdk⟩:=hrel;have hdl:d≤65536:=by
   rw[hdk.out];have:2^k≤2^15:=Nat.pow_le_pow_right (by omega) (by omega);omega
  by_cases hlt:k<pt
  ·go_wp2
   go_round
   case rel=>exact⟨k+1,2*d,by omega,by go_num,by go_num,by rw[show d=2^k from hdk.out,Nat.pow_succ];exact Nat.mul_comm _ _⟩
   case measure=>simp[intOf];omega
  ·have hke:k=pt:=by omega
   subst hke;have hc:=own0.c wh (by simp);have hf:=own0.f wh;have own2:=own0.store wh d;have bel2:=bel0.setCell (p:=⟨w.heap.size,wh,none⟩) (by exact Nat.le_refl _) (yi (d:Int));have hdd:=hdk.out;rw[show(List.replicate (wh+1) 0).set wh d=Dg.dg 65536 (2^n) from by rw[hdd];exact HD.out] at own2
   have HO:Hid _:=own2;have rd2:=own2.rd;clear hdd own2
   go_wp2
   go_ret
   exact⟨_,rfl,HO.out,bel2⟩
theorem nh (R D L G:Int)(gr:Bool)(w:World):
  yC 31 #[ygV R D L G gr] w (yR w (yi (xg R))):=by
 have bA:=af w (.cells (ygA R D L G gr) 26);unfold xg
 by_cases h:R=16
 ·rw[if_pos h]
  subst h
  go_enter func31,ntmps31
  go_wp2
  go_ret
  exact⟨rfl,bA⟩
 ·rw[if_neg h]
  have e:(R==16)=false:=by simp;exact h
  go_enter func31,ntmps31
  go_wp2
  go_ret
  exact⟨rfl,bA⟩
theorem KW (neg odd:Bool)(half:Int)(w:World):
  yC 60 #[yi 1,.bool neg,.bool odd,yi half] w fun z w'=>z= .returned (.bool (gY 1 half odd neg))∧w'=w:=by
 unfold gY
 by_cases h:0<half
 ·go_enter func60,ntmps60
  go_wp2
  go_ret
  simp
 ·by_cases h0:half=0
  ·subst h0
   cases odd
   ·go_enter func60,ntmps60
    go_wp2
    go_ret
    simp
   ·go_enter func60,ntmps60
    go_wp2
    go_ret
    simp
  ·have e:(half==0)=false:=by simp;exact h0
   go_enter func60,ntmps60
   go_wp2
   go_ret
   simp;omega
theorem KX (neg odd:Bool)(half:Int)(w:World):
  yC 60 #[yi 2,.bool neg,.bool odd,yi half] w fun z w'=>z= .returned (.bool (gY 2 half odd neg))∧w'=w:=by
 unfold gY
 go_enter func60,ntmps60
 go_wp2
 go_ret
 simp
theorem KY (neg odd:Bool)(half:Int)(w:World):
  yC 60 #[yi 3,.bool neg,.bool odd,yi half] w fun z w'=>z= .returned (.bool (gY 3 half odd neg))∧w'=w:=by
 unfold gY
 go_enter func60,ntmps60
 go_wp2
 go_ret
 simp
theorem KZ (neg odd:Bool)(half:Int)(w:World):
  yC 60 #[yi 4,.bool neg,.bool odd,yi half] w fun z w'=>z= .returned (.bool (gY 4 half odd neg))∧w'=w:=by
 unfold gY
 go_enter func60,ntmps60
 go_wp2
 go_ret
 simp
theorem K3 (neg odd:Bool)(half:Int)(w:World):
  yC 60 #[yi 5,.bool neg,.bool odd,yi half] w fun z w'=>z= .returned (.bool (gY 5 half odd neg))∧w'=w:=by
 unfold gY
 go_enter func60,ntmps60
 go_wp2
 go_ret
 simp
theorem Od {way:Int}(hw:iC way=true)(neg odd:Bool)(half:Int)(w:World):
  yC 60 #[yi way,.bool neg,.bool odd,yi half] w fun z w'=>z= .returned (.bool (gY way half odd neg))∧w'=w:=by
 rcases zi hw with rfl|rfl|rfl|rfl|rfl
 ·exact KW neg odd half w
 ·exact KX neg odd half w
 ·exact KY neg odd half w
 ·exact KZ neg odd half w
 ·exact K3 neg odd half w
end Go.Proofs.YtpainhklfoaniaaGreatDoor
