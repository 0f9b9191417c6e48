/-
  Texts laid together: Roo3, Du3, Pa8, Dk3, Bl1, Bl6, Bm1, Bs1, Inv, BlN, BlM, Bm6, Bm7, Rr1.
-/
import Derived.OrdersHeld
import Derived.Test.YtnhackdjplppjaaGreatDoorUb03
set_option maxRecDepth 100000
set_option maxHeartbeats 3200000
namespace Go.Proofs.YtnhackdjplppjaaGreatDoor
open _root_.Go.Proofs.Tryz
open Go.RowKit
def acJ (w:World)(a k:Nat)(e:Ending)(w':World):Prop:=
 ∃x v,e= .returned v∧fJ a k x∧Own w' w.heap.size 141 .u32 v (Dg.dg 4294967296 x)∧yB w w'
theorem RD (n:Nat):(2:Nat)^n<4294967296^ (n/32+1):=by
 have e:(4294967296:Nat)=2^32:=by decide
 rw[e,←Nat.pow_mul];exact Nat.pow_lt_pow_right (by omega) (by omega)
theorem adQ (b k:Nat)(hk:0<k):b≤(b+k-1)/k*k:=by
 have h1:=Nat.div_add_mod (b+k-1) k;have h2:=Nat.mod_lt (b+k-1) hk;rw[Nat.mul_comm] at h1;omega
theorem H9 {a L:Nat}(h:(Dg.dg 4294967296 a).length≤L):bitLen a≤32*L:=by
 refine bF a _ ?_;rw[Nat.pow_mul];exact om h
theorem Dm {a b:Int}(h:b≤a):(0:Int)≤dm a b:=by
 unfold dm;rw[if_neg (by omega)]
 split<;>omega
theorem Om (va:Value)(a k:Nat)(w:World)(ha:Rd w .u32 va (Dg.dg 4294967296 a))(hk1:1≤k)(hk2:k≤10)(hla:(Dg.dg 4294967296 a).length≤1300):
  yC 180 #[va,yi k] w (acJ w a k):=by
 have hcp:=Bz va _ w ha (by omega);have hnl:=Dg.dg_nil_iff 4294967296 a (by omega)
 by_cases hk:k=1
 ·subst hk
  obtain⟨ao,ca,rfl⟩:=ha.shape;obtain⟨ds,hds⟩: ∃ds,Dg.dg 4294967296 a=ds:=⟨_,rfl⟩;rw[hds] at hcp⊢;have HD:Hid (Dg.dg 4294967296 a=ds):=hds;clear ha hla hds hnl
  go_enter func180,ntmps180
  go_wp2_with fail
  refine hcp.mono ?_;rintro e w1 ⟨rfl,o1,b1⟩;clear hcp
  go_wp2
  go_ret
  exact⟨a,_,rfl,XE a,HD.out▸o1,b1⟩
 ·have hk3:((k:Int)==1)=false:=by simp;omega
  by_cases ha0:a=0
  ·subst ha0
   obtain⟨ao,ca,rfl⟩:=ha.shape;have hl0:(Dg.dg 4294967296 0).length=0:=rfl;rw[hl0] at hcp⊢;clear ha hla hnl hl0
   go_enter func180,ntmps180
   go_wp2_with fail
   refine hcp.mono ?_;rintro e w1 ⟨rfl,o1,b1⟩;clear hcp
   go_wp2
   go_ret
   exact⟨0,_,rfl,IE (by omega),o1,b1⟩
  ·obtain⟨m,rfl⟩: ∃m,k=m+1:=⟨k-1,by omega⟩
   have hbt:=fun wr (b:yB w wr)=>kE va _ wr (ha.l b) (Dg.small_dg _ _ (by omega)) (Dg.norm_dg _ _ (by omega)) (by omega)
   rw[Dg.vl_dg _ _ (by omega)] at hbt;have hb1:=(bitLen_spec a).1;have hb2:bitLen a≤32*1300:=H9 hla;obtain⟨bt,hbte⟩: ∃bt,bitLen a=bt:=⟨_,rfl⟩;rw[hbte] at hbt hb1 hb2;have hup:=adQ bt (m+1) (by omega);have hnle:(bt+(m+1)-1)/(m+1)≤50000:=Nat.le_trans (Nat.div_le_self _ _) (by omega);have hni:(((bt:Int)+((m:Int)+1)-1).tdiv ((m:Int)+1))=(((bt+(m+1)-1)/(m+1):Nat):Int):=by
    rw[Int.tdiv_eq_ediv_of_nonneg (by omega)];have:((bt:Int)+((m:Int)+1)-1)=((bt+(m+1)-1:Nat):Int):=by omega
    rw[this];exact(Int.natCast_ediv _ (m+1)).symm
   have hni2:(((bt:Int)+((m:Int)+1)-1)/((m:Int)+1))=(((bt+(m+1)-1)/(m+1):Nat):Int):=by
    have:((bt:Int)+((m:Int)+1)-1)=((bt+(m+1)-1:Nat):Int):=by omega
    rw[this];exact(Int.natCast_ediv _ (m+1)).symm
   obtain⟨n,hn⟩: ∃n,(bt+(m+1)-1)/(m+1)=n:=⟨_,rfl⟩;rw[hn] at hup hnle hni hni2;have HAB:Hid (C0 a (m+1) (2^n)):=C3 hb1 hup;have HX0:Hid ((2:Nat)^n<4294967296^ (n/32+1)):=RD n;have hL:n/32+1≤5000:=by omega
   obtain⟨L,hLe⟩: ∃L,n/32+1=L:=⟨_,rfl⟩;rw[hLe] at HX0 hL;have HR:Hid (∀v wr,Rd wr .u32 v [1]→yC 218 #[v,yi n] wr (Num wr (2^n))):=fun v wr r=>by
    have:=vO v [1] n (n/32) (n % 32) (2^ (n % 32)) wr r (Dg.small_cons.2 ⟨by omega,Dg.small_nil _ (by omega)⟩) (by simp) (by omega) (by omega) rfl (by omega) (by simp);rw[show Dg.vl 4294967296 [1]=1 from rfl,Nat.one_mul] at this
    exact this
   have HN:Hid (∀v x wr,yB w wr→Rd wr .u32 v (Dg.dg 4294967296 x)→0<x→x<4294967296^L→yC 222 #[va,v,yi ((m:Int)+1)] wr (Num wr (mQ a x m))):=fun v x wr b r hx hxl=>
    QP va v a x m L wr (ha.l b) r hx (by omega) (by omega) (by omega) hxl hL
   have HBT:Hid _:=hbt;obtain⟨ao,ca,rfl⟩:=ha.shape;have hm0: ¬(Dg.dg 4294967296 a).length=0:=by rw[List.length_eq_zero_iff,hnl];exact ha0
   obtain⟨ma,hma⟩: ∃m,(Dg.dg 4294967296 a).length=m:=⟨_,rfl⟩;rw[hma] at hm0 HN HBT⊢;have hml:((ma:Int)==0)=false:=by simp;exact hm0
   have HA0:Hid (0<a):=Nat.pos_of_ne_zero ha0;have b1:yB w (w.alloc (.cells #[.int .u32 ((1:Nat):Int)] 141)):=(Below.refl _ _).alloc (Nat.le_refl _) _;have od:=(zf w w.heap.size 141 1 (Nat.le_refl _)).rd;clear ha hcp hnl hla hma hbt hbte hn hLe hup hb1 ha0
   go_enter func180,ntmps180
   go_wp2_with fail
   refine(HBT.out _ b1).mono ?_;rintro e w1 ⟨rfl,rfl⟩;clear HBT
   go_wp2_with fail
   refine(HR.out _ _ od).mono ?_;rintro e w2 ⟨v2,rfl,o2,b2⟩;have b02:=aa b1 b2;have o2:=o2.lower b1.size;clear od b1 b2 HR
   go_wp2
   go_loopw [5] (fun rv wr=> ∃x,Own wr w.heap.size 141 .u32 rv (Dg.dg 4294967296 x)∧C0 a (m+1) x∧x<4294967296^L∧yB w wr) (fun rv wr=>Classical.epsilon fun n=>Rd wr .u32 rv (Dg.dg 4294967296 n))
   case atStart=>exact⟨2^n,o2,HAB.out,HX0.out,b02⟩
   case round=>
    clear o2 b02 HAB HX0;obtain⟨x,own,hab,hxl,bel⟩:=hrel;have hx:=ID hab HA0.out;have hst:=Ff (a:=a) (m:=m) hx;have hcm:=fun v wr (r:Rd wr .u32 v (Dg.dg 4294967296 (mQ a x m))) v' (r':Rd wr .u32 v' (Dg.dg 4294967296 x))=>jF v v' _ _ wr r r' (Dg.small_dg _ _ (by omega)) (Dg.small_dg _ _ (by omega)) (Dg.norm_dg _ _ (by omega)) (Dg.norm_dg _ _ (by omega))
    simp only[Dg.vl_dg _ _ (show 2≤4294967296 by omega)] at hcm
    have hnr:=HN.out _ x _ bel own.rd hx hxl;have HEN:Hid (x≤mQ a x m→fJ a (m+1) x):=fun h=>Ml hab hx h
    obtain⟨y,hy⟩: ∃y,mQ a x m=y:=⟨_,rfl⟩;rw[hy] at hnr hcm HEN hst;have HCM:Hid _:=hcm;clear hcm hy
    by_cases hlt:y<x
    ·go_wp2_with fail
     refine hnr.mono ?_;rintro e w3 ⟨v3,rfl,o3,b3⟩;have b03:=aa bel b3
     go_wp2_with fail
     refine(HCM.out _ _ o3.rd _ (own.l b3).rd).mono ?_;rintro e w4 ⟨rfl,b4⟩;rw[gX (by omega)];have b04:=aa b03 b4;have o4:=(o3.lower bel.size).l b4;have e1:=LY own.rd;have e2:=LY o4.rd
     go_wp2
     go_roundw
     case rel=>exact⟨y,o4,hst,Nat.lt_trans hlt hxl,b04⟩
     case measure=>rw[e1,e2];exact hlt
    ·go_wp2_with fail
     refine hnr.mono ?_;rintro e w3 ⟨v3,rfl,o3,b3⟩;have b03:=aa bel b3
     go_wp2_with fail
     refine(HCM.out _ _ o3.rd _ (own.l b3).rd).mono ?_;rintro e w4 ⟨rfl,b4⟩;have hge:=Dm (a:=(y:Int)) (b:=(x:Int)) (by omega);obtain⟨r,hr⟩: ∃r,dm (y:Int) (x:Int)=r:=⟨_,rfl⟩;rw[hr] at hge⊢;have b04:=aa b03 b4;have o4:=(own.l b3).l b4
     go_wp2
     go_ret
     exact⟨x,_,rfl,HEN.out (by omega),o4,b04⟩
def Fo (a k:Nat):Nat→Nat
 |0=>0
 |n+1=>if(n+1)^k≤a then n+1 else Fo a k n
def gG (a k:Nat):Nat:=Fo a k a
theorem MC {a k x:Nat}(h:fJ a k x): ∀m,x≤m→Fo a k m=x
 |0,hm=>by rw[Nat.le_zero.1 hm,Fo]
 |m+1,hm=>by
  rw[Fo]
  by_cases c:(m+1)^k≤a
  ·rw[if_pos c]
   rcases Nat.lt_or_ge x (m+1) with g|g
   ·have h1:(x+1)^k≤(m+1)^k:=Nat.pow_le_pow_left g k
    have h2:=h.2;omega
   ·omega
  ·rw[if_neg c]
   refine MC h m (Nat.le_of_not_lt fun g=>c ?_)
   obtain rfl:x=m+1:=by omega
   exact h.1
theorem tT {a k x:Nat}(h:fJ a k x):gG a k=x:=by
 refine MC h a (zh (Nat.pos_of_ne_zero fun c=> ?_) h)
 subst c;have h1:=h.1;have h2:=h.2;rw[Nat.pow_zero] at h1 h2;omega
def fu (t:ak)(B:Nat):Nat:=if(t.e-((2*B-bitLen t.n:Nat):Int)) % 2=0 then 2*B-bitLen t.n else 2*B-bitLen t.n+1
def bK (t:ak)(B:Nat):ak:=
 d8 false (gG (t.n*2^fu t B) 2) ((t.e-(fu t B:Int))/2) (decide (gG (t.n*2^fu t B) 2*gG (t.n*2^fu t B) 2<t.n*2^fu t B))
theorem Au (t:ak)(B:Nat):(t.e-(fu t B:Int)) % 2=0:=by
 unfold fu
 split
 ·assumption
 ·rename_i h
  omega
theorem IH (v:Value)(t:ak)(B:Nat)(w:World)(hv:Dv w v t)(hL:(Dg.dg 4294967296 t.n).length≤1299)(he1: -100000≤t.e)(he2:t.e≤100000)(hB:B≤10000)(hw:(Dg.dg 4294967296 (t.n*2^fu t B)).length≤1300):
  yC 131 #[v,yi B] w (jN w (bK t B)):=by
 obtain⟨v0,rfl,hr⟩:=hv;obtain⟨ts,n,e⟩:=t;have hev:=Au ⟨ts,n,e⟩ B;unfold bK;have hbl:=gf hL;have hsd:fu ⟨ts,n,e⟩ B=if(e-((2*B-bitLen n:Nat):Int)) % 2=0 then 2*B-bitLen n else 2*B-bitLen n+1:=rfl
 simp only at hr hL he1 he2 hw hev hbl⊢;have HBT:Hid (∀w1,yB w w1→yC 176 #[v0] w1 fun z w'=>z= .returned (yi (bitLen n:Nat))∧w'=w1):=fun w1 b1=>by
  have:=kE v0 _ w1 (hr.l b1) (Dg.small_dg _ _ (by omega)) (Dg.norm_dg _ _ (by omega)) (by omega)
  rwa [Dg.vl_dg _ _ (by omega)] at this
 obtain⟨L,hLe⟩: ∃L,bitLen n=L:=⟨_,rfl⟩;rw[hLe] at HBT hbl hsd;obtain⟨s0,hs0⟩: ∃s0,2*B-L=s0:=⟨_,rfl⟩;rw[hs0] at hsd;obtain⟨sh,hsh⟩: ∃sh,fu ⟨ts,n,e⟩ B=sh:=⟨_,rfl⟩;rw[hsh] at hsd hw hev⊢;have hshl:sh≤20001:=by rw[hsd];split<;>omega
 have HSF:Hid (∀w1,yB w w1→yC 177 #[v0,yi sh] w1 (Num w1 (n*2^sh))):=fun w1 b1=>by
  have:=eO v0 _ (sh:Int) w1 (hr.l b1) (Dg.small_dg _ _ (by omega)) (by omega) (by omega) (by omega);rw[Dg.vl_dg _ _ (by omega),CE _ _ (by omega),Int.toNat_natCast] at this;exact this
 obtain⟨N,hN⟩: ∃N,n*2^sh=N:=⟨_,rfl⟩;rw[hN] at HSF hw⊢;have HRO:Hid (∀v1 w1,Rd w1 .u32 v1 (Dg.dg 4294967296 N)→yC 180 #[v1,yi 2] w1 (acJ w1 N 2)):=fun v1 w1 r=>Om v1 N 2 w1 r (by omega) (by omega) hw
 have HXE:Hid (∀x,fJ N 2 x→gG N 2=x):=fun x h=>tT h
 have HLE:Hid (∀x,fJ N 2 x→x*x≤N∧(Dg.dg 4294967296 x).length≤1300):=fun x h=>⟨by have:=h.1;rwa [Nat.pow_two] at this,Nat.le_trans (aH 4294967296 _ N (by omega) (zh (by omega) h)) hw⟩
 obtain⟨R,hR⟩: ∃R,gG N 2=R:=⟨_,rfl⟩;rw[hR] at HXE⊢;obtain⟨ao,ca,rfl⟩:=hr.shape;obtain⟨m,hm⟩: ∃m,(Dg.dg 4294967296 n).length=m:=⟨_,rfl⟩;rw[hm] at HBT HSF⊢;have hmax:max (0:Int) (2*(B:Int)-(L:Int))=(s0:Int):=by omega
 have hq1:(e-(sh:Int)).tdiv 2=(e-(sh:Int))/2:=by
  obtain⟨k,hk⟩: ∃k:Int,e-(sh:Int)=2*k:=⟨(e-(sh:Int))/2,by omega⟩;rw[hk,Int.mul_tdiv_cancel_left k (by omega),Int.mul_ediv_cancel_left k (by omega)]
 have HTM:Hid (∀v1 w1,Rd w1 .u32 v1 (Dg.dg 4294967296 R)→(Dg.dg 4294967296 R).length≤1300→yC 173 #[v1,v1] w1 (Num w1 (R*R))):=fun v1 w1 r hl=>by
  have:=qC v1 v1 _ _ w1 r r (Dg.small_dg _ _ (by omega)) (Dg.small_dg _ _ (by omega)) (by omega) (by omega);rw[Dg.vl_dg _ _ (by omega)] at this;exact this
 have HCM:Hid (∀v1 v2 w1,Rd w1 .u32 v1 (Dg.dg 4294967296 (R*R))→Rd w1 .u32 v2 (Dg.dg 4294967296 N)→yC 169 #[v1,v2] w1 (yR w1 (yi (dm ((R*R:Nat):Int) N)))):=fun v1 v2 w1 h1 h2=>by
  have:=jF v1 v2 _ _ w1 h1 h2 (Dg.small_dg _ _ (by omega)) (Dg.small_dg _ _ (by omega)) (Dg.norm_dg _ _ (by omega)) (Dg.norm_dg _ _ (by omega))
  rwa [Dg.vl_dg _ _ (by omega),Dg.vl_dg _ _ (by omega)] at this
 obtain⟨g,hg⟩: ∃g,dm ((R*R:Nat):Int) (N:Int)=g:=⟨_,rfl⟩;have HG:Hid (R*R≤N→decide (R*R<N)=decide (g<0)):=fun hle=>by
  rw[←hg]
  rcases Nat.lt_or_ge (R*R) N with h|h
  ·rw[gX (Int.ofNat_lt.2 h)]
   simp[h]
  ·have he:R*R=N:=by omega
   rw[he,Bh];simp
 rw[hg] at HCM;have HEN:Hid (∀v1 lf w1,decide (R*R<N)=lf→(Dg.dg 4294967296 R).length≤1300→Rd w1 .u32 v1 (Dg.dg 4294967296 R)→yC 179 #[.bool false,v1,yi ((e-(sh:Int))/2),.bool lf] w1 (jN w1 (d8 false R ((e-(sh:Int))/2) (decide (R*R<N))))):=fun v1 lf w1 h hl r=>by
  rw[h];exact xG _ v1 R _ lf w1 r (by omega) (by omega) (by omega)
 obtain⟨⟨zs,zn,ze⟩,hz⟩: ∃r,d8 false R ((e-(sh:Int))/2) (decide (R*R<N))=r:=⟨_,rfl⟩;rw[hz] at HEN⊢;obtain⟨q,hq⟩: ∃q,(e-(sh:Int))/2=q:=⟨_,rfl⟩;rw[hq] at HEN hq1;have hw1:IntKind.i64.wrap (e-(sh:Int))=e-(sh:Int):=IntWalk.i64_in _ ⟨by omega,by omega⟩;have hw2:IntKind.i64.wrap q=q:=IntWalk.i64_in _ ⟨by omega,by omega⟩;have bA:=aa (af w (.cells (ydA ts (.slice ao m ca) e) 96)) (af _ (.cells (ydA false (.slice none 0 0) 0) 96));have l1:=(aA w (.bool ts) (.slice ao m ca) (yi e) 96).l (af _ (.cells (ydA false (.slice none 0 0) 0) 96));have l2:=aA (w.alloc (.cells (ydA ts (.slice ao m ca) e) 96)) (.bool false) (.slice none 0 0) (yi 0) 96;rw[World.size_alloc] at l2;have hs0l:s0≤20000:=by omega
 clear hr hN hR hm hz hg hw hL hLe hs0 hsh
 by_cases hpar:(e-(s0:Int)) % 2=0
 ·rw[if_pos hpar] at hsd
  subst hsd;have ht:(e-(sh:Int)).tmod 2=0:=by
   obtain⟨k,hk⟩: ∃k:Int,e-(sh:Int)=2*k:=⟨(e-(sh:Int))/2,by omega⟩;rw[hk];exact Int.mul_tmod_right 2 k
  clear hpar hev
  go_enter func131,ntmps131
  go_wp2_with fail
  refine(cN ts ao m ca e _).mono ?_;rintro z w1 ⟨rfl,b1⟩;replace l1:=l1.l b1;replace l2:=l2.l b1;replace bA:=aa bA b1;clear b1
  go_wp2_with fail
  refine(HBT.out _ bA).mono ?_;rintro z w2 ⟨rfl,rfl⟩;obtain⟨-,⟨c0,c1,c2⟩,-⟩:=id l1
  go_wp2_with fail
  refine(cN ts ao m ca e _).mono ?_;rintro z w3 ⟨rfl,b3⟩;replace l1:=l1.l b3;replace l2:=l2.l b3;replace bA:=aa bA b3;clear b3 c0 c1 c2
  go_wp2_with fail
  refine(HSF.out _ bA).mono ?_;rintro z w4 ⟨v4,rfl,o4,b4⟩;replace l1:=l1.l b4;replace l2:=l2.l b4;replace bA:=aa bA b4;have r4:=o4.rd;clear b4 o4
  go_wp2_with fail
  refine(HRO.out _ _ r4).mono ?_;rintro z w5 ⟨x,v5,rfl,hx,o5,b5⟩;have hxe:=HXE.out x hx;subst hxe;obtain⟨hle,hxl⟩:=HLE.out _ hx;have HLF:Hid _:=HG.out hle;replace l1:=l1.l b5;replace l2:=l2.l b5;replace bA:=aa bA b5;replace r4:=r4.l b5;have r5:=o5.rd;have bd:yB w5 w5.drew:=(Below.refl _ _).drew;replace l1:=l1.l bd;replace l2:=l2.l bd;replace bA:=aa bA bd;replace r4:=r4.l bd;replace r5:=r5.l bd;obtain⟨-,⟨c0,c1,c2⟩,-⟩:=id l1;clear b5 o5 hx bd HBT HSF HRO
  go_wp2_with fail
  go_region_held3 (fun wq=>wq.cell? ⟨w.heap.size,0,none⟩=some (.bool ts)∧wq.cell? ⟨w.heap.size,1,none⟩=some (.slice ao m ca)∧wq.cell? ⟨w.heap.size,2,none⟩=some (yi e)) (go_keep) (first
   | (go_at_call 173;refine(HTM.out _ _ r5 hxl).mono ?_;rintro z w6 ⟨v6,rfl,o6,b6⟩;have l16:=l1.l b6;have l26:=l2.l b6;have b06:=aa bA b6;have r46:=r4.l b6;have r56:=r5.l b6;have r6:=o6.rd;obtain⟨-,⟨p0,p1,p2⟩,-⟩:=id l16)
   | (go_at_call 169;refine(HCM.out _ _ w6 r6 r46).mono ?_;rintro z w7 ⟨rfl,b7⟩;have l17:=l16.l b7;have l27:=l26.l b7;have b07:=aa b06 b7;have r57:=r56.l b7;obtain⟨-,⟨q0,q1,q2⟩,-⟩:=id l17)
   | (go_at_call 179;refine(HEN.out _ _ w7 HLF.out hxl r57).mono ?_;rintro z w8 ⟨v8,rfl,o8,b8⟩;have l28:=l27.l b8;have b08:=aa b07 b8;have l18:=l17.l b8;obtain⟨so,sc,hvs⟩:=o8.rd.shape;subst hvs;obtain⟨-,⟨t0,t1,t2⟩,-⟩:=id l18;obtain⟨hl8,⟨d0,d1,d2⟩,f0,f1,f2⟩:=id l28))
  all_goals go_wp2
  obtain⟨-,⟨g0,g1,g2⟩,-⟩:=aD l28 (.bool zs) (.slice so (Dg.dg 4294967296 zn).length sc) (yi ze);have o9:=o8.apart3 (b:=w.heap.size+1) l27.1 (.bool zs) (.slice so (Dg.dg 4294967296 zn).length sc) (yi ze);have b9:=am b08 (show w.heap.size≤w.heap.size+1 by omega) (.bool zs) (.slice so (Dg.dg 4294967296 zn).length sc) (yi ze)
  refine bodyPost_ret (v:=(ydV zs (.slice so (Dg.dg 4294967296 zn).length sc) ze)) (by simp[results,results131,go_sem,g0,g1,g2]) rfl ?_;exact⟨_,rfl,o9.lower b07.size,b9⟩
 ·rw[if_neg hpar] at hsd
  subst hsd;have ht:((e-(s0:Int)).tmod 2==0)=false:=by
   simp;intro h;have:=Int.dvd_of_tmod_eq_zero h;omega
  clear hpar hev;have hw3:IntKind.i64.wrap (e-(s0:Int))=e-(s0:Int):=IntWalk.i64_in _ ⟨by omega,by omega⟩;have hcast:((s0+1:Nat):Int)=(s0:Int)+1:=by omega
  rw[hcast] at HSF hq1 hw1;clear hcast hq
  go_enter func131,ntmps131
  go_wp2_with fail
  refine(cN ts ao m ca e _).mono ?_;rintro z w1 ⟨rfl,b1⟩;replace l1:=l1.l b1;replace l2:=l2.l b1;replace bA:=aa bA b1;clear b1
  go_wp2_with fail
  refine(HBT.out _ bA).mono ?_;rintro z w2 ⟨rfl,rfl⟩;obtain⟨-,⟨c0,c1,c2⟩,-⟩:=id l1
  go_wp2_with fail
  refine(cN ts ao m ca e _).mono ?_;rintro z w3 ⟨rfl,b3⟩;replace l1:=l1.l b3;replace l2:=l2.l b3;replace bA:=aa bA b3;clear b3 c0 c1 c2
  go_wp2_with fail
  refine(HSF.out _ bA).mono ?_;rintro z w4 ⟨v4,rfl,o4,b4⟩;replace l1:=l1.l b4;replace l2:=l2.l b4;replace bA:=aa bA b4;have r4:=o4.rd;clear b4 o4
  go_wp2_with fail
  refine(HRO.out _ _ r4).mono ?_;rintro z w5 ⟨x,v5,rfl,hx,o5,b5⟩;have hxe:=HXE.out x hx;subst hxe;obtain⟨hle,hxl⟩:=HLE.out _ hx;have HLF:Hid _:=HG.out hle;replace l1:=l1.l b5;replace l2:=l2.l b5;replace bA:=aa bA b5;replace r4:=r4.l b5;have r5:=o5.rd;have bd:yB w5 w5.drew:=(Below.refl _ _).drew;replace l1:=l1.l bd;replace l2:=l2.l bd;replace bA:=aa bA bd;replace r4:=r4.l bd;replace r5:=r5.l bd;obtain⟨-,⟨c0,c1,c2⟩,-⟩:=id l1;clear b5 o5 hx bd HBT HSF HRO
  go_wp2_with fail
  go_region_held3 (fun wq=>wq.cell? ⟨w.heap.size,0,none⟩=some (.bool ts)∧wq.cell? ⟨w.heap.size,1,none⟩=some (.slice ao m ca)∧wq.cell? ⟨w.heap.size,2,none⟩=some (yi e)) (go_keep) (first
   | (go_at_call 173;refine(HTM.out _ _ r5 hxl).mono ?_;rintro z w6 ⟨v6,rfl,o6,b6⟩;have l16:=l1.l b6;have l26:=l2.l b6;have b06:=aa bA b6;have r46:=r4.l b6;have r56:=r5.l b6;have r6:=o6.rd;obtain⟨-,⟨p0,p1,p2⟩,-⟩:=id l16)
   | (go_at_call 169;refine(HCM.out _ _ w6 r6 r46).mono ?_;rintro z w7 ⟨rfl,b7⟩;have l17:=l16.l b7;have l27:=l26.l b7;have b07:=aa b06 b7;have r57:=r56.l b7;obtain⟨-,⟨q0,q1,q2⟩,-⟩:=id l17)
   | (go_at_call 179;refine(HEN.out _ _ w7 HLF.out hxl r57).mono ?_;rintro z w8 ⟨v8,rfl,o8,b8⟩;have l28:=l27.l b8;have b08:=aa b07 b8;have l18:=l17.l b8;obtain⟨so,sc,hvs⟩:=o8.rd.shape;subst hvs;obtain⟨-,⟨t0,t1,t2⟩,-⟩:=id l18;obtain⟨hl8,⟨d0,d1,d2⟩,f0,f1,f2⟩:=id l28))
  all_goals go_wp2
  obtain⟨-,⟨g0,g1,g2⟩,-⟩:=aD l28 (.bool zs) (.slice so (Dg.dg 4294967296 zn).length sc) (yi ze);have o9:=o8.apart3 (b:=w.heap.size+1) l27.1 (.bool zs) (.slice so (Dg.dg 4294967296 zn).length sc) (yi ze);have b9:=am b08 (show w.heap.size≤w.heap.size+1 by omega) (.bool zs) (.slice so (Dg.dg 4294967296 zn).length sc) (yi ze)
  refine bodyPost_ret (v:=(ydV zs (.slice so (Dg.dg 4294967296 zn).length sc) ze)) (by simp[results,results131,go_sem,g0,g1,g2]) rfl ?_;exact⟨_,rfl,o9.lower b07.size,b9⟩
def Dp (k:Nat)(cx:Int)(gx:Bool)(x:ak):Int×Bool×ak×Int:=
 if cx=1 then(1,gx,x,0) else if gx=true then noV k 16 else if cx=3 then(3,false,x,0) else nu (bK x 128) false
def Z6 (n:Int)(a:ByteArray):Int×Bool×ak×Int:=Dp n.toNat ((bM n a:Nat):Int) (dz n a) (opT n a)
theorem BV (x:ak):fu x 128≤257:=by unfold fu;split<;>omega
theorem Jp {x:ak}(hx:iZ x): ∃A,x.n*2^fu x 128<2^A∧A≤321:=by
 refine⟨64+fu x 128, ?_,by have:=BV x;omega⟩;rw[Nat.pow_add];exact Nat.mul_lt_mul_of_pos_right hx.1 (bG _)
theorem Lf {a x:Nat}(h:x*x≤a):x≤a:=by
 rcases Nat.eq_zero_or_pos x with h0|h0
 ·omega
 ·exact Nat.le_trans (Nat.le_mul_of_pos_left x h0) h
theorem OE (a:Nat): ∀m,Fo a 2 m≤a
 |0=>Nat.zero_le _
 |m+1=>by
  unfold Fo
  by_cases c:(m+1)^2≤a
  ·rw[if_pos c]
   rw[Nat.pow_two] at c;exact Lf c
  ·rw[if_neg c]
   exact OE a m
theorem Wc {x:ak}(hx:iZ x):sH (bK x 128):=by
 obtain⟨A,hA,hl⟩:=Jp hx;obtain⟨x1,x2,x3⟩:=hx;have hS:=BV x;have hr:gG (x.n*2^fu x 128) 2<2^A:=Nat.lt_of_le_of_lt (OE (x.n*2^fu x 128) (x.n*2^fu x 128)) hA;have h2:(bK x 128).n<2^ (A+1):=by
  show gG (x.n*2^fu x 128) 2*2+(if _ then 1 else 0)<2^ (A+1)
  rw[Nat.pow_succ]
  split<;>omega
 have h3:=bF _ _ h2;have he:(bK x 128).e=(x.e-(fu x 128:Int))/2-1:=rfl;exact⟨by omega,by omega⟩
theorem RL (k:Nat)(hk:1≤k∧k≤8)(wy cx:Int)(gx:Bool)(x:ak)(xo:Option Addr)(xc:Nat)(w:World)(rx:rdT w x xo xc)(sx:iZ x):
  yC 73 #[dsk k wy,opV cx gx x xo xc] w (RE w (Dp k cx gx x)):=by
 unfold Dp
 by_cases h1:cx=1
 ·subst h1
  rw[if_pos rfl];exact abo _ _ _ _ _ _ _ _ _ _ _ _ w rx
 rw[if_neg h1]
 cases gx
 ·rw[if_neg (by decide)]
  by_cases h3:cx=3
  ·subst h3
   rw[if_pos rfl];exact abp _ _ _ _ _ _ _ _ _ _ _ w rx
  ·rw[if_neg h3]
   have hL:=jq sx.1 (L:=1200) (by omega);exact UV _ _ _ _ _ _ _ _ _ _ _ _ _ _ _ _ w (ne1 h1) (ne3 h3) (fun w1 b=>IH _ x 128 w1 ⟨_,rfl,rx.l b⟩ (by omega) (by have:=sx.2;omega) (by have:=sx.2;omega) (by omega) (by obtain⟨A,hA,hl⟩:=Jp sx;exact jq hA (by omega))) (fun uo uc w1 h=>mT (bK x 128) false uo uc w1 h)
 ·rw[if_pos rfl]
  exact UT _ _ _ _ _ _ _ _ _ _ _ _ _ w (ne1 h1) (fun w1=>lV k hk wy 16 w1)
theorem RM {k:Nat}{cx:Int}{gx:Bool}{x:ak}(hn:sH (bK x 128))(h:(Dp k cx gx x).1=2):(Dp k cx gx x).2.2.1.n≠0∧sH (Dp k cx gx x).2.2.1:=by
 unfold Dp at h⊢
 by_cases h1:cx=1
 ·rw[if_pos h1] at h
  exact absurd h (show¬(1:Int)=2 by decide)
 rw[if_neg h1] at h⊢
 cases gx
 ·rw[if_neg (by decide)] at h⊢
  by_cases h3:cx=3
  ·rw[if_pos h3] at h
   exact absurd h (show¬(3:Int)=2 by decide)
  ·rw[if_neg h3] at h⊢
   exact xt hn h
 ·rw[if_pos rfl] at h
  exact(vN h).elim
theorem OG (n way:Int)(a:ByteArray)(w:World)(hT:Tab w):yC 30 #[yi n,.string a,yi way] w (mM (jV n way [a] (Z6 n a)) w):=by
 refine adf n way _ _ a _ w (fun pb w1 b1 hl=> ?_)
 refine nQ n way [a] _ _ pb w1 (by simp) (by simp) hl (enter_of func72 (by kernel_rfl) rfl) (hT.l b1) (fun k hk hn he hN=> ?_)
 subst hn;unfold Z6;rw[Int.toNat_natCast];obtain⟨sa,-,-⟩:=ir hk (eU he a (by simp));refine⟨fun h=>RM (Wc sa) h,fun g cap w2 b2 h=> ?_⟩
 obtain⟨xo,xc,r0,k0⟩:=h.each 0 a rfl;exact abq _ _ _ _ _ _ _ _ _ _ _ _ _ _ _ _ _ _ _ w2 r0 (fun w3 b3=>RL k hk way _ _ _ _ _ w3 (k0.l b3) sa)
theorem l8 {a L:Nat}(h:(Dg.dg 65536 a).length≤L):bitLen a≤16*L:=by
 refine bF a _ ?_;rw[Nat.pow_mul];have h1:=Dg.vl_lt 65536 _ (Dg.small_dg 65536 a (by omega));rw[Dg.vl_dg _ _ (by omega)] at h1;exact Nat.lt_of_lt_of_le h1 (Nat.pow_le_pow_right (by omega) h)
def mL (w:World)(b:Nat)(v0 v1 v2 v3 v4 v5:Value):Prop:=
 b<w.heap.size∧(w.cell? ⟨b,0,none⟩=some v0∧w.cell? ⟨b,1,none⟩=some v1∧w.cell? ⟨b,2,none⟩=some v2∧w.cell? ⟨b,3,none⟩=some v3∧w.cell? ⟨b,4,none⟩=some v4∧w.cell? ⟨b,5,none⟩=some v5)∧
  (w.frozen? ⟨b,0,none⟩=false∧w.frozen? ⟨b,1,none⟩=false∧w.frozen? ⟨b,2,none⟩=false∧w.frozen? ⟨b,3,none⟩=false∧w.frozen? ⟨b,4,none⟩=false∧w.frozen? ⟨b,5,none⟩=false)
theorem mL.l {w w':World}{b:Nat}{v0 v1 v2 v3 v4 v5:Value}(h:mL w b v0 v1 v2 v3 v4 v5)(hb:yB w w'):mL w' b v0 v1 v2 v3 v4 v5:=by
 obtain⟨hl,⟨c0,c1,c2,c3,c4,c5⟩,f0,f1,f2,f3,f4,f5⟩:=h;refine⟨Nat.lt_of_lt_of_le hl hb.size,⟨cell_later hb c0,cell_later hb c1,cell_later hb c2,cell_later hb c3,cell_later hb c4,cell_later hb c5⟩, ?_, ?_, ?_, ?_, ?_, ?_⟩
 all_goals rw[hb.frozen (by exact hl)];assumption
def ZB6 (w:World)(b:Nat):Prop:=b<w.heap.size∧ ∃ty,w.heap[b]? =some (.cells #[.bool false,.slice none 0 0,yi 0,.bool false,.slice none 0 0,yi 0] ty (0,0))
theorem ZB6.l {w w':World}{b:Nat}(h:ZB6 w b)(hb:yB w w'):ZB6 w' b:=by
 obtain⟨hl,ty,hh⟩:=h;exact⟨Nat.lt_of_lt_of_le hl hb.size,ty,(hb.block b hl).trans hh⟩
theorem ZB6.rd {w:World}{b:Nat}{v:Value}{zs:List Nat}(h:ZB6 w b)(hr:Rd w .i64 v zs)(hn:Dg.Norm zs)(x0 x1 x2 x3 x4 x5:Value):
  Rd ((((((w.setCell ⟨b,0,none⟩ x0).setCell ⟨b,1,none⟩ x1).setCell ⟨b,2,none⟩ x2).setCell ⟨b,3,none⟩ x3).setCell ⟨b,4,none⟩ x4).setCell ⟨b,5,none⟩ x5) .i64 v zs:=by
 obtain⟨hl,ty,hh⟩:=h;obtain⟨ao,cap,rfl,h1,h2,h3⟩:=hr;refine⟨ao,cap,rfl,h1,h2,fun hp=> ?_⟩
 obtain⟨c,off,rfl,hc⟩:=h3 hp;refine⟨c,off,rfl,fun i hi=> ?_⟩
 have hne:c≠b:=by
  intro e;subst e;have k1:=hc (zs.length-1) (by omega);have hz:=hn (List.length_pos_iff.1 hp);unfold World.cell? at k1;simp only[hh] at k1;obtain⟨o,ho⟩: ∃o,off+(zs.length-1)=o:=⟨_,rfl⟩;rw[ho] at k1;generalize zs.getD (zs.length-1) 0=d at*
  match o,k1 with
  |0,k1=>simp at k1
  |1,k1=>simp at k1
  |2,k1=>simp at k1;omega
  |3,k1=>simp at k1
  |4,k1=>simp at k1
  |5,k1=>simp at k1;omega
  |o+6,k1=>simp at k1
 rw[World.cell?_setCell_other (h:=by simp),World.cell?_setCell_other (h:=by simp),World.cell?_setCell_other (h:=by simp),World.cell?_setCell_other (h:=by simp),World.cell?_setCell_other (h:=by simp),World.cell?_setCell_other (h:=by simp)];exact hc i hi
def bJ (a b:ak):Int:=dJ (aG a (dV b))
def hiI (x:Nat→ak):Nat→Nat
 |0=>0
 |i+1=>if 0<bJ (x (i+1)) (x (hiI x i)) then i+1 else hiI x i
theorem mL.apart3 {w:World}{b c:Nat}{v0 v1 v2 v3 v4 v5:Value}(h:mL w b v0 v1 v2 v3 v4 v5)(hne:c≠b)(x0 x1 x2:Value):
  mL (((w.setCell ⟨c,0,none⟩ x0).setCell ⟨c,1,none⟩ x1).setCell ⟨c,2,none⟩ x2) b v0 v1 v2 v3 v4 v5:=by
 obtain⟨hl,⟨c0,c1,c2,c3,c4,c5⟩,f0,f1,f2,f3,f4,f5⟩:=h;refine⟨by simpa using hl,⟨?_, ?_, ?_, ?_, ?_, ?_⟩,by simpa using f0,by simpa using f1,by simpa using f2,by simpa using f3,by simpa using f4,by simpa using f5⟩
 all_goals (rw[World.cell?_setCell_other (h:=by simp),World.cell?_setCell_other (h:=by simp),World.cell?_setCell_other (h:=by simp)];assumption)
def left (listed:Array Bool):Nat:=(listed.toList.filter (fun b=> !b)).length
def Ag (W:World)(base:Nat)(v:Value):Prop:= ∃p,v= .pointer (some ⟨p,0,none⟩)∧base≤p∧Loc W p (.bool false) (.slice none 0 0) (yi 0)
theorem Ag.l {W W':World}{base:Nat}{v:Value}(h:Ag W base v)(hb:yB W W'):Ag W' base v:=by
 obtain⟨p,h1,h2,h3⟩:=h;exact⟨p,h1,h2,h3.l hb⟩
def BT (W:World)(base:Nat)(v:Value):Prop:= ∃p,v= .pointer (some ⟨p,0,none⟩)∧base≤p∧mL W p (.bool false) (.slice none 0 0) (yi 0) (.bool false) (.slice none 0 0) (yi 0)∧ZB6 W p
def V4 (W:World)(base:Nat)(v:Value):Prop:= ∃p,v= .pointer (some ⟨p,0,none⟩)∧base≤p∧Loc W p (.bool false) (.slice none 0 0) (yi 0)∧ZB W p
theorem BT.l {W W':World}{base:Nat}{v:Value}(h:BT W base v)(hb:yB W W'):BT W' base v:=by
 obtain⟨p,h1,h2,h3,h4⟩:=h;exact⟨p,h1,h2,h3.l hb,h4.l hb⟩
theorem V4.l {W W':World}{base:Nat}{v:Value}(h:V4 W base v)(hb:yB W W'):V4 W' base v:=by
 obtain⟨p,h1,h2,h3,h4⟩:=h;exact⟨p,h1,h2,h3.l hb,h4.l hb⟩
theorem ZB.off {w w':World}{q b:Nat}(h:ZB w q)(hg:w.grownBy w' (some b))(hne:q≠b):ZB w' q:=by
 obtain⟨hl,ty,hh⟩:=h;exact⟨Nat.lt_of_lt_of_le hl hg.size,ty,(hg.block q hl (by intro e;cases e;exact hne rfl)).trans hh⟩
theorem ZB6.off {w w':World}{q b:Nat}(h:ZB6 w q)(hg:w.grownBy w' (some b))(hne:q≠b):ZB6 w' q:=by
 obtain⟨hl,ty,hh⟩:=h;exact⟨Nat.lt_of_lt_of_le hl hg.size,ty,(hg.block q hl (by intro e;cases e;exact hne rfl)).trans hh⟩
def RB6 (W:World)(v:Value)(x y:ak):Prop:= ∃p q,v= .agg #[.bool x.s,p,yi x.e,.bool y.s,q,yi y.e]∧Rd W .i64 p (Dg.dg 65536 x.n)∧Rd W .i64 q (Dg.dg 65536 y.n)
theorem RB6.l {W W':World}{v:Value}{x y:ak}(h:RB6 W v x y)(hb:yB W W'):RB6 W' v x y:=by
 obtain⟨p,q,h1,h2,h3⟩:=h;exact⟨p,q,h1,h2.l hb,h3.l hb⟩
theorem Kk {x y:Nat}(h:x≤y):x*x≤y*y:=Nat.mul_le_mul h h
theorem DP {P Q:Nat}(h:fJ P 2 Q):Q*Q≤P∧P< (Q+1)*(Q+1):=by
 obtain⟨h1,h2⟩:=h;rw[Nat.pow_two] at h1 h2;exact⟨h1,h2⟩
theorem aa2 (a:Nat): ∃x,fJ a 2 x:=by
 have key: ∀n x:Nat,x*x≤a→a< (x+n)*(x+n)→ ∃x,fJ a 2 x:=fun n=>by
  induction n with
  |zero=>intro x h1 h2;simp only[Nat.add_zero] at h2;omega
  |succ n ih=>
   intro x h1 h2
   by_cases h:(x+1)*(x+1)≤a
   ·exact ih (x+1) h (by rw[show x+1+n=x+(n+1) by omega];exact h2)
   ·refine⟨x, ?_, ?_⟩
    ·rw[Nat.pow_two];exact h1
    ·rw[Nat.pow_two];omega
 refine key (a+1) 0 (by omega) ?_;simp only[Nat.zero_add];have:(a+1)*1≤(a+1)*(a+1):=Nat.mul_le_mul_left _ (by omega);omega
theorem qw (a:Nat):fJ a 2 (gG a 2):=by
 obtain⟨x,hx⟩:=aa2 a;rw[tT hx];exact hx
theorem Bc {P Q B:Nat}(h:fJ P 2 Q)(hB:1≤B)(hP:2^ (2*B-2)≤P):2^B≤2*Q:=by
 obtain⟨h1,h2⟩:=DP h;obtain⟨c,rfl⟩: ∃c,B=c+1:=⟨B-1,by omega⟩;rw[show 2*(c+1)-2=c+c by omega,Nat.pow_add] at hP
 rw[Nat.pow_succ];generalize 2^c=x at hP⊢
 rcases Nat.lt_or_ge Q x with h3|h3
 ·have:=Kk (x:=Q+1) (y:=x) h3
  omega
 ·omega
theorem tU {n k L:Nat}(h:n<2^k)(hk:k≤16*L):(Dg.dg 65536 n).length≤L:=by
 refine Dg.dg_len_le 65536 n L (by omega) (Nat.lt_of_lt_of_le h ?_);rw[show(65536:Nat)=2^16 from rfl,←Nat.pow_mul]
 exact Nat.pow_le_pow_right (by omega) hk
theorem GU {w:World}{v:Value}{n:Nat}(h:Rd w .i64 v (Dg.dg 65536 n)):(Classical.epsilon fun n=>Rd w .i64 v (Dg.dg 65536 n))=n:=
 Dg.dg_inj 65536 _ _ (by omega) (Sm (Classical.epsilon_spec (p:=fun n=>Rd w .i64 v (Dg.dg 65536 n)) ⟨n,h⟩) h)
def acL (w:World)(a n:Nat)(rv:Value)(wr:World):Prop:=
 ∃x,Rd wr .i64 rv (Dg.dg 65536 x)∧C0 a 2 x∧x≤2^n∧yB w wr
theorem ae1 (a x:Nat):mQ a x 1=(x+a/x)/2:=by
 unfold mQ;rw[Nat.one_mul,Nat.pow_one]
theorem Oz (va:Value)(a:Nat)(w:World)(ha:Rd w .i64 va (Dg.dg 65536 a))(hla:(Dg.dg 65536 a).length≤3000)(ha0:0<a):
  yC 75 #[va,yi 2] w (cG w (gG a 2)):=by
 have hb1:=(bitLen_spec a).1;have hb2:bitLen a≤16*3000:=l8 hla;have HLN:Hid (∀wr,yB w wr→yC 119 #[va] wr fun e w'=>e= .returned (yi (bitLen a:Nat))∧w'=wr):=fun wr b=>by
  have:=kF va _ wr (ha.l b) (Dg.small_dg _ _ (by omega)) (Dg.norm_dg _ _ (by omega)) (by omega)
  rwa [Dg.vl_dg _ _ (by omega)] at this
 obtain⟨bt,hbt⟩: ∃bt,bitLen a=bt:=⟨_,rfl⟩;rw[hbt] at HLN hb1 hb2;obtain⟨n,hn⟩: ∃n,(bt+1)/2=n:=⟨_,rfl⟩;have hnl:n≤24001:=by omega
 have HAB:Hid (C0 a 2 (2^n)):=C3 hb1 (by omega);have HP2:Hid (∀wr,yC 114 #[yi n] wr (cG wr (2^n))):=fun wr=>pf n (n/16) (n % 16) wr (by omega) (by omega) (by omega)
 have HXL:Hid (∀x,x≤2^n→(Dg.dg 65536 x).length≤3000):=fun x hx=>tU (k:=n+1) (Nat.lt_of_le_of_lt hx (Nat.pow_lt_pow_right (by omega) (by omega))) (by omega)
 have HIN:Hid (∀v x wr,yB w wr→Rd wr .i64 v (Dg.dg 65536 x)→0<x→x≤2^n→yC 132 #[va,v] wr (JI wr (a/x) (a % x))):=fun v x wr b r h0 hx=>
  qM va v _ _ wr (ha.l b) r (by omega) (by have:=HXL.out x hx;omega) h0
 have HPL:Hid (∀v u x wr,Rd wr .i64 v (Dg.dg 65536 x)→Rd wr .i64 u (Dg.dg 65536 (a/x))→x≤2^n→yC 78 #[v,u] wr (cG wr (x+a/x))):=fun v u x wr r1 r2 hx=>by
  have l1:=HXL.out x hx;have l2:=aH 65536 (a/x) a (by omega) (Nat.div_le_self _ _);have:=ew v u _ _ wr r1 r2 (Dg.small_dg _ _ (by omega)) (Dg.small_dg _ _ (by omega)) (Dg.norm_dg _ _ (by omega)) (Dg.norm_dg _ _ (by omega)) (by omega) (by omega)
  rwa [Dg.vl_dg _ _ (by omega),Dg.vl_dg _ _ (by omega)] at this
 have HDN:Hid (∀v x wr,Rd wr .i64 v (Dg.dg 65536 (x+a/x))→x≤2^n→yC 133 #[v,yi 1] wr (cG wr (mQ a x 1))):=fun v x wr r hx=>by
  have l1:=HXL.out x hx;have l2:=aH 65536 (a/x) a (by omega) (Nat.div_le_self _ _);have l3:=og x (a/x) 3000 l1 (by omega);have:=Ft v _ 1 0 1 2 32768 wr r (Dg.small_dg _ _ (by omega)) (by omega) (by omega) (by omega) (by omega) (by rfl) (by rfl);rw[Dg.vl_dg _ _ (by omega),Nat.pow_one] at this;rw[ae1];exact this
 have HCM:Hid (∀v u x y wr,Rd wr .i64 v (Dg.dg 65536 y)→Rd wr .i64 u (Dg.dg 65536 x)→yC 77 #[v,u] wr (yR wr (yi (dm (y:Int) (x:Int))))):=fun v u x y wr r1 r2=>by
  have:=fm v u _ _ wr r1 r2 (Dg.small_dg _ _ (by omega)) (Dg.small_dg _ _ (by omega)) (Dg.norm_dg _ _ (by omega)) (Dg.norm_dg _ _ (by omega))
  rwa [Dg.vl_dg _ _ (by omega),Dg.vl_dg _ _ (by omega)] at this
 have hdiv:((bt:Int)+1).tdiv 2=(n:Int):=by
  rw[Int.tdiv_eq_ediv_of_nonneg (by omega)];omega
 have hdiv2:((bt:Int)+1)/2=(n:Int):=by omega
 have HRT:Hid (∀x,fJ a 2 x→gG a 2=x):=fun x h=>tT h
 obtain⟨R,hR⟩: ∃R,gG a 2=R:=⟨_,rfl⟩;rw[hR] at HRT⊢;have hm0: ¬(Dg.dg 65536 a).length=0:=by rw[List.length_eq_zero_iff,Dg.dg_nil_iff _ _ (by omega)];omega
 obtain⟨ao,ca,rfl⟩:=ha.shape;obtain⟨ma,hma⟩: ∃m,(Dg.dg 65536 a).length=m:=⟨_,rfl⟩;rw[hma] at hm0 HLN HIN⊢;have hml:(0:Int)< (ma:Int):=by omega
 have HA0:Hid (0<a):=ha0;clear ha hla hma hbt hn hb1 ha0 hm0 HXL hR
 go_enter func75,ntmps75
 go_wp2_with fail
 refine(HLN.out _ (Below.refl _ _)).mono ?_;rintro e w1 ⟨rfl,rfl⟩;clear HLN
 go_wp2_with fail
 refine(HP2.out _).mono ?_;rintro e w2 ⟨v2,rfl,r2,b2⟩;clear HP2
 go_wp2
 have L0:acL w1 a n v2 w2:=⟨2^n,r2,HAB.out,Nat.le_refl _,b2⟩
 go_loopw [5] (acL w1 a n) (fun rv wr=>Classical.epsilon fun n=>Rd wr .i64 rv (Dg.dg 65536 n))
 case atStart=>exact L0
 case round=>
  clear L0 r2 b2 HAB;obtain⟨x,rx,hab,hxl,bel⟩:=hrel;have hx:=ID hab HA0.out;have hst:=Ff (a:=a) (m:=1) hx;have HEN:Hid (x≤mQ a x 1→fJ a 2 x):=fun h=>Ml hab hx h
  have H1:Hid _:=HIN.out _ x _ bel rx hx hxl;have H2:Hid (∀v u wr,Rd wr .i64 v (Dg.dg 65536 x)→Rd wr .i64 u (Dg.dg 65536 (a/x))→yC 78 #[v,u] wr (cG wr (x+a/x))):=fun v u wr r1 r2=>HPL.out v u x wr r1 r2 hxl
  have H3:Hid (∀v wr,Rd wr .i64 v (Dg.dg 65536 (x+a/x))→yC 133 #[v,yi 1] wr (cG wr (mQ a x 1))):=fun v wr r=>HDN.out v x wr r hxl
  clear HIN HPL HDN;obtain⟨y,hy⟩: ∃y,mQ a x 1=y:=⟨_,rfl⟩;rw[hy] at H3 HEN hst;have H4:Hid (∀v u wr,Rd wr .i64 v (Dg.dg 65536 y)→Rd wr .i64 u (Dg.dg 65536 x)→yC 77 #[v,u] wr (yR wr (yi (dm (y:Int) (x:Int))))):=fun v u wr r1 r2=>HCM.out v u x y wr r1 r2
  clear HCM hy;obtain⟨s,hs⟩: ∃s,x+a/x=s:=⟨_,rfl⟩;obtain⟨q,hq⟩: ∃q,a/x=q:=⟨_,rfl⟩;rw[hs,hq] at H2;rw[hs] at H3;rw[hq] at H1;clear hs hq
  go_wp2_with fail
  refine Calls.mono H1.out ?_;rintro e w3 ⟨vq,vr,rfl,rq,-,b3⟩;have b03:=aa bel b3;have rx3:=rx.l b3;clear H1 b3
  go_wp2_with fail
  refine(H2.out _ _ _ rx3 rq).mono ?_;rintro e w4 ⟨v4,rfl,r4,b4⟩;have b04:=aa b03 b4;have rx4:=rx3.l b4;clear H2 b4 rq rx3 b03
  go_wp2_with fail
  refine(H3.out _ _ r4).mono ?_;rintro e w5 ⟨v5,rfl,r5,b5⟩;have b05:=aa b04 b5;have rx5:=rx4.l b5;clear H3 b5 r4 rx4 b04
  go_wp2_with fail
  refine(H4.out _ _ _ r5 rx5).mono ?_;rintro e w6 ⟨rfl,b6⟩;have b06:=aa b05 b6;have rx6:=rx5.l b6;have r6:=r5.l b6;clear H4 b6 r5 rx5 b05
  by_cases hlt:y<x
  ·rw[gX (by omega)]
   have e1:=GU rx;have e2:=GU r6
   go_wp2
   go_roundw
   case rel=>exact⟨y,r6,hst,Nat.le_trans (Nat.le_of_lt hlt) hxl,b06⟩
   case measure=>rw[e1,e2];exact hlt
  ·have hge:=Dm (a:=(y:Int)) (b:=(x:Int)) (by omega)
   obtain⟨r,hr⟩: ∃r,dm (y:Int) (x:Int)=r:=⟨_,rfl⟩;rw[hr] at hge⊢;have hx2:=HRT.out x (HEN.out (by omega));subst hx2
   go_wp2
   go_ret
   exact⟨_,rfl,rx6,b06⟩
end Go.Proofs.YtnhackdjplppjaaGreatDoor
