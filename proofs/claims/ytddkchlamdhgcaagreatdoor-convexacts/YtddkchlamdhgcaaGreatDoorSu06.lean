/-
  Texts laid together: Ab1, Leaf, Div1, Begun, Add, Cmp, Ref2, Ref3, Bits, Shift, Ref6, Dy1, Dy2, Dr1, Co6, Back, Long, Gr1, Gr2, Gr4, Gm1, Cr4, Dr3a, Into0, Into1, Co10, Cr5, Cr9, Ar2, Rk1, Cv1, Gq1, Gq5, Eh1.
-/
import Derived.Deep.CutBlock
import Derived.Maps.AppendAt
import Derived.Test.YtddkchlamdhgcaaGreatDoorSu01
import Derived.Test.YtddkchlamdhgcaaGreatDoorSu02
set_option maxRecDepth 100000
set_option maxHeartbeats 4000000
namespace Go.Proofs.YtddkchlamdhgcaaGreatDoor
open _root_.Go.Proofs.Tryz
open Go.RowKit
abbrev yOL (c:Int)(g:Bool)(t:ak)(o:Option Addr)(k:Nat):List Value:=[.int .i64 c,.bool g,.bool t.s,.slice o (Dg.dg 4294967296 t.n).length k,.int .i64 t.e]
abbrev yOV (c:Int)(g:Bool)(t:ak)(o:Option Addr)(k:Nat):Value:= .agg #[.int .i64 c,.bool g,.bool t.s,.slice o (Dg.dg 4294967296 t.n).length k,.int .i64 t.e]
abbrev yOA (c:Int)(g:Bool)(t:ak)(o:Option Addr)(k:Nat):Array Value:= #[.int .i64 c,.bool g,.bool t.s,.slice o (Dg.dg 4294967296 t.n).length k,.int .i64 t.e]
abbrev yDL (t:ak)(o:Option Addr)(k:Nat):List Value:=[.bool t.s,.slice o (Dg.dg 4294967296 t.n).length k,.int .i64 t.e]
abbrev yDV (t:ak)(o:Option Addr)(k:Nat):Value:= .agg #[.bool t.s,.slice o (Dg.dg 4294967296 t.n).length k,.int .i64 t.e]
abbrev yDA (t:ak)(o:Option Addr)(k:Nat):Array Value:= #[.bool t.s,.slice o (Dg.dg 4294967296 t.n).length k,.int .i64 t.e]
theorem AM (a b:Int)(w:World):yC 130 #[yi a,yi b] w fun e w'=>e= .returned (yi (dm a b))∧w'=w:=by
 unfold dm
 by_cases h1:a<b
 ·rw[if_pos h1]
  go_enter func130,ntmps130
  go_wp2
  go_ret
  exact⟨rfl,rfl⟩
 ·by_cases h2:b<a
  ·rw[if_neg h1,if_pos h2]
   go_enter func130,ntmps130
   go_wp2
   go_ret
   exact⟨rfl,rfl⟩
  ·rw[if_neg h1,if_neg h2]
   go_enter func130,ntmps130
   go_wp2
   go_ret
   exact⟨rfl,rfl⟩
theorem RF (a b:Int)(w:World):yC 131 #[.int .u32 a,.int .u32 b] w fun e w'=>e= .returned (yi (dm a b))∧w'=w:=by
 unfold dm
 by_cases h1:a<b
 ·rw[if_pos h1]
  go_enter func131,ntmps131
  go_wp2
  go_ret
  exact⟨rfl,rfl⟩
 ·by_cases h2:b<a
  ·rw[if_neg h1,if_pos h2]
   go_enter func131,ntmps131
   go_wp2
   go_ret
   exact⟨rfl,rfl⟩
  ·rw[if_neg h1,if_neg h2]
   go_enter func131,ntmps131
   go_wp2
   go_ret
   exact⟨rfl,rfl⟩
theorem Vb (hi lo y:Nat)(w:World)(h1:hi<y)(h2:lo<4294967296)(h3:y<4294967296):
  yC 153 #[.int .u32 hi,.int .u32 lo,.int .u32 y] w (yR w (.tuple #[.int .u32 ((hi*4294967296+lo)/y:Nat),.int .u32 ((hi*4294967296+lo) % y:Nat)])):=by
 have hor:=KJ hi lo (by omega) h2;obtain⟨t,ht⟩: ∃t,hi*4294967296+lo=t:=⟨_,rfl⟩;have hq1:=I6 h1 h2 ht.symm;have htb:t<18446744073709551616:=by omega
 rw[ht] at hor⊢;have hr1:t % y<y:=Nat.mod_lt _ (by omega);obtain⟨q,hq⟩: ∃q,t/y=q:=⟨_,rfl⟩;obtain⟨r,hr⟩: ∃r,t % y=r:=⟨_,rfl⟩;have hqI:(t:Int)/(y:Int)=(q:Int):=by rw[←hq];exact(Int.natCast_ediv t y).symm
 have hrI:(t:Int) % (y:Int)=(r:Int):=by rw[←hr];exact(Int.natCast_emod t y).symm
 rw[hq] at hq1⊢;rw[hr] at hr1⊢;clear hq hr ht;have hd:decide (y≤hi)=false:=by simp;omega
 have hy:((y:Int) != 0)=true:=by rw[bne_iff_ne];omega
 go_enter func153,ntmps153
 go_wp2
 go_quiet (fail)
 go_wp2
 go_ret2
 exact⟨rfl,aL (Below.refl _ _) _⟩
theorem cE {w:World}{k:IntKind}{e:Nat}(zs:List Nat)(cs:Array Value)(hcs:cs=(zs.map (fun n:Nat=>Value.int k (n:Int))).toArray)(hl:zs.length≤maxLen):
  Rd (w.alloc (.cells cs e)) k (.slice (some ⟨w.heap.size,0,none⟩) zs.length zs.length) zs:=by
 refine⟨_,zs.length,rfl,Nat.le_refl _,hl,fun _=>⟨w.heap.size,0,rfl,fun i hi=> ?_⟩⟩
 rw[World.cell?_alloc_at _ _ _ _ rfl,hcs,Nat.zero_add];simp only[List.getElem?_toArray];exact j9 k zs i hi
theorem zA (x y c:Nat)(w:World)(hx:x<4294967296)(hy:y<4294967296)(hc:c≤1):
  yC 159 #[.int .u32 x,.int .u32 y,.int .u32 c] w fun e w'=>e= .returned (.tuple #[.int .u32 ((x+4294967296-y-c) % 4294967296:Nat),.int .u32 ((brw x y c:Nat):Int)])∧w'=w:=by
 have hb:=NE x y c hx hy hc;have hsg: ¬IntKind.u32.signed=true:=by decide
 have hd:(((x:Int)-(y:Int)) % 4294967296-(c:Int)) % 4294967296=(((x+4294967296-y-c) % 4294967296:Nat):Int):=by omega
 obtain⟨d,ed⟩: ∃d,(x+4294967296-y-c) % 4294967296=d:=⟨_,rfl⟩;rw[ed] at hd⊢;have Hd:Hid _:=hd;clear hd ed
 go_enter func159,ntmps159
 go_wp2
 go_ret2
 exact⟨by rw[←Hd.out];rfl,rfl⟩
theorem jF (va vb:Value)(xs ys:List Nat)(w:World)(ha:Rd w .u32 va xs)(hb:Rd w .u32 vb ys)(sa:Dg.Small 4294967296 xs)(sb:Dg.Small 4294967296 ys)(na:Dg.Norm xs)(nb:Dg.Norm ys):
  yC 100 #[va,vb] w (yR w (yi (dm (Dg.vl 4294967296 xs) (Dg.vl 4294967296 ys)))):=by
 obtain⟨ao,ca,rfl,hla,hma,hca⟩:=ha;obtain⟨bo,cb,rfl,hlb,hmb,hcb⟩:=hb;unfold maxLen at hma hmb;obtain⟨r,hr⟩: ∃r,dm (Dg.vl 4294967296 xs) (Dg.vl 4294967296 ys)=r:=⟨_,rfl⟩;have hc0:=AM (xs.length:Int) (ys.length:Int) w
 by_cases h1:xs.length<ys.length
 ·have hv:=Dg.vl_lt_of_len 4294967296 (by omega) xs ys sa nb h1
  rw[gX (by omega)] at hr;subst hr;rw[gX (by omega)] at hc0;rw[gX (by omega)]
  go_enter func100,ntmps100
  go_wp2_with fail
  refine hc0.mono ?_;rintro e w' ⟨rfl,rfl⟩
  go_wp2
  go_ret
  exact⟨rfl,Below.refl _ _⟩
 ·by_cases h2:ys.length<xs.length
  ·have hv:=Dg.vl_lt_of_len 4294967296 (by omega) ys xs sb na h2
   rw[sO (by omega)] at hc0;rw[sO (by omega)];clear hr
   go_enter func100,ntmps100
   go_wp2_with fail
   refine hc0.mono ?_;rintro e w' ⟨rfl,rfl⟩
   go_wp2
   go_ret
   exact⟨rfl,Below.refl _ _⟩
  ·have hle:xs.length=ys.length:=by omega
   rw[hle,Bh] at hc0;rw[hr];have HR:Hid _:=hr;have HL:Hid _:=hle;rw[hle] at hla hca⊢;clear hr hle h1 h2
   go_enter func100,ntmps100
   go_wp2_with fail
   refine hc0.mono ?_;rintro e w' ⟨rfl,rfl⟩;clear hc0
   go_wp2
   go_loopw [6] (fun iv wr=> ∃k:Nat,k≤ys.length∧iv=yi ((k:Int)-1)∧Hid (∀j,k≤j→xs.getD j 0=ys.getD j 0)∧Below w'.heap.size w' wr) (fun iv _=>(intOf iv+1).toNat)
   case atStart=>exact⟨ys.length,Nat.le_refl _,rfl,fun j hj=>by rw[Dg.getD_of_le xs j (by rw[HL.out];exact hj),Dg.getD_of_le ys j hj],Below.refl _ _⟩
   case round=>
    obtain⟨k,hk,rfl,hall,bel⟩:=hrel
    by_cases hk0:k=0
    ·subst hk0
     have he:=Dg.eq_of_all xs ys HL.out (fun j=>hall j (by omega))
     have hr0:r=0:=by rw[←HR.out,he,Bh]
     subst hr0;clear he
     go_wp2
     go_ret
     exact⟨rfl,bel⟩
    ·obtain⟨m,rfl⟩: ∃m,k=m+1:=⟨k-1,by omega⟩
     obtain⟨b,off,rfl,hcell⟩:=hca (by omega);obtain⟨b2,off2,rfl,hcell2⟩:=hcb (by omega);have hx:=cell_later bel (hcell m (by omega));have hy:=cell_later bel (hcell2 m (by omega));have hst:xs.getD m 0<ys.getD m 0→dm (Dg.vl 4294967296 xs) (Dg.vl 4294967296 ys)= -1:=fun h=>
      gX (by have:=Dg.vl_lt_of_digit 4294967296 xs ys m HL.out (by rw[HL.out];omega) hall h sa;omega)
     have hst2:ys.getD m 0<xs.getD m 0→dm (Dg.vl 4294967296 xs) (Dg.vl 4294967296 ys)=1:=fun h=>
      sO (by have:=Dg.vl_lt_of_digit 4294967296 ys xs m HL.out.symm (by omega) (fun j hj=>(hall j hj).symm) h sb;omega)
     rw[HR.out] at hst hst2;obtain⟨x,ex⟩: ∃x,xs.getD m 0=x:=⟨_,rfl⟩;obtain⟨y,ey⟩: ∃y,ys.getD m 0=y:=⟨_,rfl⟩;have HX:Hid _:=ex;have HY:Hid _:=ey;rw[ex] at hx hst hst2;rw[ey] at hy hst hst2;clear ex ey hcell hcell2 hca hcb;have hcm:=fun wx=>RF (x:Int) (y:Int) wx
     have hmI:((m+1:Nat):Int)-1=(m:Int):=by omega
     by_cases hxy:x<y
     ·have hr1:=hst hxy
      subst hr1;rw[gX (by omega)] at hcm;clear hst hst2
      go_wp2
      go_quiet ((go_at_call 131;exact Calls.quiet_of_same (hcm _)))
      go_wp2
      go_ret
      exact⟨rfl,aL bel _⟩
     ·by_cases hyx:y<x
      ·have hr1:=hst2 hyx
       subst hr1;rw[sO (by omega)] at hcm;clear hst hst2
       go_wp2
       go_quiet ((go_at_call 131;exact Calls.quiet_of_same (hcm _)))
       go_wp2
       go_ret
       exact⟨rfl,aL bel _⟩
      ·have hxe:x=y:=by omega
       subst hxe;rw[Bh] at hcm;clear hst hst2
       go_wp2
       go_quiet ((go_at_call 131;exact Calls.quiet_of_same (hcm _)))
       go_wp2
       go_roundw
       case rel=>exact⟨m,by omega,by go_num,fun j hj=>by
        by_cases e:j=m
        ·rw[e];exact HX.out.trans HY.out.symm
        ·exact hall j (by omega),aL bel _⟩
       case measure=>simp[intOf]
theorem iW {w wr w3:World}{e x:Nat}{k:IntKind}{es:List Nat}{lv v':Value}(bel:yB w wr)(ownL:Own wr w.heap.size e k lv es)
  (hown':w3.ownsRow w.heap.size e 1 v' (es.length+1) ((es.map (fun n:Nat=>Value.int k (n:Int)))++[.int k x]))
  (hgrow:(wr.alloc (.cells #[.int k x] e)).grownBy w3 lv.ownBlock):
  Own w3 w.heap.size e k v' (es++[x])∧yB w w3:=by
 have b1:yB wr (wr.alloc (.cells #[.int k x] e)):=(Below.refl _ _).alloc (Nat.le_refl _) _;refine⟨?_, ?_⟩
 ·unfold Own
  simpa using hown'
 ·refine(aa bel b1).grown hgrow (Nat.le_trans bel.size b1.size) (fun k hk=> ?_)
  exact(World.ownsRow.lt ownL k hk).1
theorem fm (va vb:Value)(xs ys:List Nat)(w:World)(ha:Rd w .i64 va xs)(hb:Rd w .i64 vb ys)(sa:Dg.Small 65536 xs)(sb:Dg.Small 65536 ys)(na:Dg.Norm xs)(nb:Dg.Norm ys):
  yC 38 #[va,vb] w (yR w (yi (dm (Dg.vl 65536 xs) (Dg.vl 65536 ys)))):=by
 obtain⟨ao,ca,rfl,hla,hma,hca⟩:=ha;obtain⟨bo,cb,rfl,hlb,hmb,hcb⟩:=hb;unfold maxLen at hma hmb
 by_cases h1:xs.length<ys.length
 ·have hv:=Dg.vl_lt_of_len 65536 (by omega) xs ys sa nb h1
  rw[gX (by omega)];have hne:((xs.length:Int) != (ys.length:Int))=true:=by rw[bne_iff_ne];omega
  go_enter func38,ntmps38
  go_wp2
  go_ret
  exact⟨rfl,Below.refl _ _⟩
 ·by_cases h2:ys.length<xs.length
  ·have hv:=Dg.vl_lt_of_len 65536 (by omega) ys xs sb na h2
   rw[sO (by omega)];have hne:((xs.length:Int) != (ys.length:Int))=true:=by rw[bne_iff_ne];omega
   go_enter func38,ntmps38
   go_wp2
   go_ret
   exact⟨rfl,Below.refl _ _⟩
  ·have hle:xs.length=ys.length:=by omega
   obtain⟨r,hr⟩: ∃r,dm (Dg.vl 65536 xs) (Dg.vl 65536 ys)=r:=⟨_,rfl⟩;rw[hr];have HR:Hid _:=hr;have HL:Hid _:=hle;rw[hle] at hla hca⊢;clear hr hle h1 h2
   go_enter func38,ntmps38
   go_wp2
   go_loopw [5] (fun iv wr=> ∃k:Nat,k≤ys.length∧iv=yi ((k:Int)-1)∧Hid (∀j,k≤j→xs.getD j 0=ys.getD j 0)∧yB w wr) (fun iv _=>(intOf iv+1).toNat)
   case atStart=>exact⟨ys.length,Nat.le_refl _,rfl,fun j hj=>by rw[Dg.getD_of_le xs j (by rw[HL.out];exact hj),Dg.getD_of_le ys j hj],Below.refl _ _⟩
   case round=>
    obtain⟨k,hk,rfl,hall,bel⟩:=hrel
    by_cases hk0:k=0
    ·subst hk0
     have he:=Dg.eq_of_all xs ys HL.out (fun j=>hall j (by omega))
     have hr0:r=0:=by rw[←HR.out,he,Bh]
     subst hr0;clear he
     go_wp2
     go_ret
     exact⟨rfl,bel⟩
    ·obtain⟨m,rfl⟩: ∃m,k=m+1:=⟨k-1,by omega⟩
     obtain⟨b,off,rfl,hcell⟩:=hca (by omega);obtain⟨b2,off2,rfl,hcell2⟩:=hcb (by omega);have hx:=cell_later bel (hcell m (by omega));have hy:=cell_later bel (hcell2 m (by omega));have hst:xs.getD m 0<ys.getD m 0→dm (Dg.vl 65536 xs) (Dg.vl 65536 ys)= -1:=fun h=>
      gX (by have:=Dg.vl_lt_of_digit 65536 xs ys m HL.out (by rw[HL.out];omega) hall h sa;omega)
     have hst2:ys.getD m 0<xs.getD m 0→dm (Dg.vl 65536 xs) (Dg.vl 65536 ys)=1:=fun h=>
      sO (by have:=Dg.vl_lt_of_digit 65536 ys xs m HL.out.symm (by omega) (fun j hj=>(hall j hj).symm) h sb;omega)
     rw[HR.out] at hst hst2;obtain⟨x,ex⟩: ∃x,xs.getD m 0=x:=⟨_,rfl⟩;obtain⟨y,ey⟩: ∃y,ys.getD m 0=y:=⟨_,rfl⟩;have HX:Hid _:=ex;have HY:Hid _:=ey;rw[ex] at hx hst hst2;rw[ey] at hy hst hst2;clear ex ey hcell hcell2 hca hcb;have hmI:((m+1:Nat):Int)-1=(m:Int):=by omega
     rw[hmI];clear hmI
     by_cases hxy:x<y
     ·have hr1:=hst hxy
      subst hr1;clear hst hst2
      go_wp2
      go_quiet (fail)
      go_wp2
      go_ret
      exact⟨rfl,aL bel _⟩
     ·by_cases hyx:y<x
      ·have hr1:=hst2 hyx
       subst hr1;clear hst hst2
       go_wp2
       go_quiet (fail)
       go_wp2
       go_quiet (fail)
       go_wp2
       go_ret
       exact⟨rfl,aL (aL bel _) _⟩
      ·have hxe:x=y:=by omega
       subst hxe;clear hst hst2
       go_wp2
       go_quiet (fail)
       go_wp2
       go_quiet (fail)
       go_wp2
       go_roundw
       case rel=>exact⟨m,by omega,by go_num,fun j hj=>by
        by_cases e:j=m
        ·rw[e];exact HX.out.trans HY.out.symm
        ·exact hall j (by omega),aL bel _⟩
       case measure=>simp[intOf]
theorem Un (x:Int)(w:World)(h0:0≤x)(h1:x≤4294967295):
  yC 134 #[.int .u32 x] w fun e w'=>e= .returned (yi (bitLen x.toNat:Nat))∧w'=w:=by
 go_enter func134,ntmps134
 go_wp2
 all_goals try (exfalso;have hz:=Lib.len8tab_size;omega)
 all_goals (go_ret;refine⟨congrArg Ending.returned (congrArg (Value.int IntKind.i64) ?_),rfl⟩)
 all_goals simp only[X4]
 ·exact qz 24 _ x.toNat (by have:=bitLen_shift x.toNat 24 (by omega);rw[this];congr 2;omega) (by omega)
 ·exact qz 16 _ x.toNat (by have:=bitLen_shift x.toNat 16 (by omega);rw[this];congr 2;omega) (by omega)
 ·exact qz 8 _ x.toNat (by have:=bitLen_shift x.toNat 8 (by omega);rw[this];congr 2;omega) (by omega)
 ·have hb:=bitLen_le8 x.toNat (by omega)
  have e1:=IntWalk.wrap64_in ((bitLen x.toNat:Nat):Int) ⟨by omega,by omega⟩;rw[e1,e1]
theorem IK (x:Nat)(w:World)(h:x<4294967296):
  yC 134 #[.int .u32 x] w fun e w'=>e= .returned (yi (bitLen x:Nat))∧w'=w:=by
 have:=Un x w (by omega) (by omega);rw[Int.toNat_natCast] at this;exact this
theorem Y9 {xs ds:List Nat}{wh P Q k v:Nat}(h:abK xs ds wh P Q k)(hk:k<xs.length-wh)(hv:v=xs.getD (wh+k) 0/P+xs.getD (wh+k+1) 0 % P*Q):abK xs (ds.set k v) wh P Q (k+1):=by
 obtain⟨h1,h2⟩:=h;refine⟨by simpa using h1,fun j=> ?_⟩
 rw[Dg.getD_set _ _ _ _ (by omega)]
 by_cases e:k=j
 ·subst e;rw[if_pos rfl,if_pos (by omega)];exact hv
 ·rw[if_neg e,h2 j]
  by_cases e2:j<k
  ·rw[if_pos e2,if_pos (by omega)]
  ·rw[if_neg e2,if_neg (by omega)]
theorem Fr (n:Nat):(Dg.dg 65536 (2^n)).length≤n/16+1:=by
 refine Dg.dg_len_le _ _ _ (by omega) ?_;rw[show(65536:Nat)=2^16 from by decide,←Nat.pow_mul]
 exact Nat.pow_lt_pow_right (by omega) (by omega)
theorem XR (P Q:Nat)(l:List Nat)(k:Nat)(h:k<l.length):(low P Q l).take (k+1)=(low P Q l).take k++[l.getD k 0/P+l.getD (k+1) 0 % P*Q]:=by
 rw[Dg.take_succ' _ k (by rw[mA];exact h),Gb P Q l k h]
theorem Ug (P Q:Nat)(l:List Nat)(hPQ:P*Q=65536)(hs:Dg.Small 65536 l):Dg.Small 65536 (low P Q l):=by
 intro j
 by_cases hj:j<l.length
 ·rw[Gb P Q l j hj]
  have hP:0<P:=by
   rcases Nat.eq_zero_or_pos P with e|e
   ·subst e;simp at hPQ
   ·exact e
  have h1:l.getD j 0/P<Q:=by rw[Nat.div_lt_iff_lt_mul hP,Nat.mul_comm,hPQ];exact hs j
  have h2:(l.getD (j+1) 0 % P+1)*Q≤P*Q:=Nat.mul_le_mul_right _ (Nat.mod_lt _ hP);rw[Nat.add_mul,hPQ] at h2;omega
 ·rw[Dg.getD_of_le _ _ (by rw[mA];omega)];omega
theorem Zx (l:List Nat)(k t m:Nat)(hk:k<l.length)(h: ∀j,j<k→l.getD j 0=0)(hd:l.getD k 0=2^t*(2*m+1))(ht:t<32):tz (Dg.vl 4294967296 l)=32*k+t:=by
 have h1:=Dg.vl_split 4294967296 l k hk;have h0:Dg.vl 4294967296 (l.take k)=0:=Dg.vl_zeros 4294967296 (l.take k) (fun i=>by
  by_cases hi:i<k
  ·have:=h i hi
   simpa[List.getD_eq_getElem?_getD,List.getElem?_take,hi] using this
  ·simp[List.getD_eq_getElem?_getD,List.getElem?_take,hi])
 rw[h0,hd,Nat.zero_add] at h1;obtain⟨u,hu⟩: ∃u,Dg.vl 4294967296 (l.drop (k+1))=u:=⟨_,rfl⟩;rw[hu] at h1;have e32:(4294967296:Nat)=2^t*(2*2^ (31-t)):=by
  have:(4294967296:Nat)=2^ (t+(1+(31-t))):=by rw[show t+(1+(31-t))=32 from by omega]
  rw[this,Nat.pow_add,Nat.pow_add,Nat.pow_one]
 have e1:(2:Nat)^ (32*k)=4294967296^k:=by rw[Nat.pow_mul]
 refine F8 (m:=m+2^ (31-t)*u) ?_;rw[h1,Nat.pow_add,e1,Nat.mul_assoc]
 congr 1
 generalize 2^ (31-t)=c at*;have e2:4294967296*u=2^t*(2*(c*u)):=by rw[e32];simp only[Nat.mul_assoc]
 rw[e2,←Nat.mul_add]
 congr 1
 omega
def Dv (w:World)(v:Value)(t:ak):Prop:= ∃s,v=(ydV t.s s t.e)∧Rd w .u32 s (Dg.dg 4294967296 t.n)
def jN (w:World)(t:ak)(e:Ending)(w':World):Prop:= ∃s,e= .returned (ydV t.s s t.e)∧Own w' w.heap.size 135 .u32 s (Dg.dg 4294967296 t.n)∧yB w w'
theorem l9 (b:Bool)(ao:Option Addr)(n ca:Nat)(e:Int)(w:World):yC 151 (ydA b (.slice ao n ca) e) w (yR w (ydV b (.slice ao n ca) e)):=by
 go_enter func151,ntmps151
 go_wp2
 go_returns
 exact⟨rfl,(Below.refl _ _).alloc (Nat.le_refl _) _⟩
def Rv (w:World)(v:Value)(t:ak):Prop:= ∃s,v=(ydV t.s s t.e)∧Rd w .i64 s (Dg.dg 65536 t.n)
def dr (w:World)(t:ak)(e:Ending)(w':World):Prop:= ∃s,e= .returned (ydV t.s s t.e)∧Rd w' .i64 s (Dg.dg 65536 t.n)∧yB w w'
def di (w:World)(t:ak)(e:Ending)(w':World):Prop:= ∃s,e= .returned (ydV t.s s t.e)∧Rd w' .i64 s (Dg.dg 65536 t.n)∧Far w.heap.size s∧yB w w'
theorem QY (l:List Nat)(k t m:Nat)(hk:k<l.length)(h: ∀j,j<k→l.getD j 0=0)(hd:l.getD k 0=2^t*(2*m+1))(ht:t<16):tz (Dg.vl 65536 l)=16*k+t:=by
 have h1:=Dg.vl_split 65536 l k hk;have h0:Dg.vl 65536 (l.take k)=0:=Dg.vl_zeros 65536 (l.take k) (fun i=>by
  by_cases hi:i<k
  ·have:=h i hi
   simpa[List.getD_eq_getElem?_getD,List.getElem?_take,hi] using this
  ·simp[List.getD_eq_getElem?_getD,List.getElem?_take,hi])
 rw[h0,hd,Nat.zero_add] at h1;obtain⟨u,hu⟩: ∃u,Dg.vl 65536 (l.drop (k+1))=u:=⟨_,rfl⟩;rw[hu] at h1;have e32:(65536:Nat)=2^t*(2*2^ (15-t)):=by
  have:(65536:Nat)=2^ (t+(1+(15-t))):=by rw[show t+(1+(15-t))=16 from by omega]
  rw[this,Nat.pow_add,Nat.pow_add,Nat.pow_one]
 have e1:(2:Nat)^ (16*k)=65536^k:=by rw[Nat.pow_mul]
 refine F8 (m:=m+2^ (15-t)*u) ?_;rw[h1,Nat.pow_add,e1,Nat.mul_assoc]
 congr 1
 generalize 2^ (15-t)=c at*;have e2:65536*u=2^t*(2*(c*u)):=by rw[e32];simp only[Nat.mul_assoc]
 rw[e2,←Nat.mul_add]
 congr 1
 omega
theorem zU (s:ByteArray):Dg.Small 256 (jr s):=by
 intro i;unfold jr;simp only[List.getD_eq_getElem?_getD,List.getElem?_map]
 cases h:s.data.toList[i]? with
 |none=>simp
 |some b=>simpa using b.toNat_lt
theorem XC (x:Nat)(w:World)(h:x<4294967296):yC 154 #[.int .u32 x] w fun e w'=>e= .returned (yi ((32-bitLen x:Nat):Int))∧w'=w:=by
 have hl:=IK x w h;have hb:=bF x 32 (by omega);obtain⟨l,hl2⟩: ∃l,bitLen x=l:=⟨_,rfl⟩;rw[hl2] at hl hb⊢;clear hl2
 go_enter func154,ntmps154
 go_wp2_with fail
 refine hl.mono ?_;rintro e w' ⟨rfl,rfl⟩
 go_wp2
 go_ret
 exact⟨by go_num,rfl⟩
def GsR (w:World)(g at0 top d1 d0 p0:Nat)(gv rv:Value)(wr:World):Prop:=
 ∃(t r:Nat),gv= .int .u64 t∧rv= .int .u64 r∧Hid (GsI top d1 d0 p0 t r)∧r<4294967296∧t≤4294967297∧wr.cell? ⟨g,at0,none⟩=some (.int .u32 p0)∧yB w wr
theorem V7 (ys:List Nat)(s:Nat)(sb:Dg.Small 4294967296 ys)(nb:Dg.Norm ys)(hn:2≤ys.length)(hs:s=32-bitLen (ys.getD (ys.length-1) 0)):
  s<32∧2147483648*4294967296^ (ys.length-1)≤Dg.vl 4294967296 ys*2^s∧Dg.vl 4294967296 ys*2^s<4294967296^ys.length:=by
 have hy0:ys.getD (ys.length-1) 0≠0:=nb (by intro e;rw[e] at hn;simp at hn);have hyl:=sb (ys.length-1);have hsp:=Dg.vl_split 4294967296 ys (ys.length-1) (by omega);have hlo:=Dg.vl_lt 4294967296 (ys.take (ys.length-1)) (Dg.small_take sb _ (by omega));rw[List.length_take,Nat.min_eq_left (by omega)] at hlo;rw[show ys.length-1+1=ys.length from by omega,List.drop_length] at hsp
 simp only[Dg.vl,Nat.mul_zero,Nat.add_zero] at hsp;generalize ys.getD (ys.length-1) 0=y at*;generalize Dg.vl 4294967296 (ys.take (ys.length-1))=lo at*;have⟨h1,h2,h3⟩:=uB y hy0;have h4:=bF y 32 (by omega);have e1:2^ (bitLen y-1)*2^s=2147483648:=by rw[←Nat.pow_add,show bitLen y-1+s=31 from by omega]
 have e2:2^bitLen y*2^s=4294967296:=by rw[←Nat.pow_add,show bitLen y+s=32 from by omega]
 have e3:(4294967296:Nat)^ys.length=4294967296^ (ys.length-1)*4294967296:=by rw[←Nat.pow_succ,show(ys.length-1).succ=ys.length from by omega]
 have a1:2^ (bitLen y-1)*2^s≤y*2^s:=Nat.mul_le_mul_right _ h2;have a2:(y+1)*2^s≤2^bitLen y*2^s:=Nat.mul_le_mul_right _ h3;refine⟨by omega, ?_, ?_⟩
 ·rw[hsp,Nat.add_mul,Nat.mul_assoc]
  have:4294967296^ (ys.length-1)*2147483648≤4294967296^ (ys.length-1)*(y*2^s):=Nat.mul_le_mul_left _ (by omega);rw[Nat.mul_comm 2147483648];omega
 ·rw[hsp,e3]
  have b1:(lo+4294967296^ (ys.length-1)*y)<4294967296^ (ys.length-1)*(y+1):=by rw[Nat.mul_add,Nat.mul_one];omega
  have b2:(lo+4294967296^ (ys.length-1)*y)*2^s<4294967296^ (ys.length-1)*(y+1)*2^s:=Nat.mul_lt_mul_of_pos_right b1 (Nat.pow_pos (by omega));rw[Nat.mul_assoc (4294967296^ (ys.length-1)) (y+1)] at b2;have b3:4294967296^ (ys.length-1)*((y+1)*2^s)≤4294967296^ (ys.length-1)*4294967296:=Nat.mul_le_mul_left _ (by omega);omega
def aT (R D top:Int):Int:=top/(ai R:Int)-(D-1)
theorem oP {a L:Nat}(h:(Dg.dg 4294967296 a).length≤L):bitLen a≤32*L:=by
 refine bF a _ ?_;rw[Nat.pow_mul];have h1:=Dg.vl_lt 4294967296 _ (Dg.small_dg 4294967296 a (by omega));rw[Dg.vl_dg _ _ (by omega)] at h1;exact Nat.lt_of_lt_of_le h1 (Nat.pow_le_pow_right (by omega) h)
def Fk (w:World)(t:fz)(e:Ending)(w':World):Prop:=
 ∃v,e= .returned (ypV t.s v t.p t.ex t.ov t.un)∧Own w' w.heap.size 135 .u32 v (Dg.dg 4294967296 t.d)∧yB w w'
theorem fw (N:Nat)(n:Int):eZ N n=N*2^n.toNat:=by
 unfold eZ
 split
 ·rw[show n.toNat=0 by omega,Nat.pow_zero,Nat.mul_one]
 ·rfl
theorem eM (M:Nat)(n:Int):dX M n=M*2^ (-n).toNat:=by
 unfold dX
 split
 ·rfl
 ·rw[show(-n).toNat=0 by omega,Nat.pow_zero,Nat.mul_one]
def Hf (w:World)(c:Int)(ng:Bool)(t:ak)(z:Ending)(w':World):Prop:=
 ∃s,z= .returned (yoV c ng t.s s t.e)∧Rd w' .i64 s (Dg.dg 65536 t.n)∧yB w w'∧Far w.heap.size s
def Xi (B:Nat)(w:World)(t:ak)(z:Ending)(w':World):Prop:=
 ∃s,z= .returned (ydV t.s s t.e)∧Rd w' .i64 s (Dg.dg 65536 t.n)∧yB w w'∧Hid (Far B s)
theorem di.hid {B:Nat}{w:World}{t:ak}{e:Ending}{w':World}(hb:B≤w.heap.size)(h:di w t e w'):Xi B w t e w':=by
 obtain⟨s,h1,h2,h3,h4⟩:=h;exact⟨s,h1,h2,h4,(fun a n c h=>Nat.le_trans hb (h3 a n c h):Far B s)⟩
theorem jZ (n k L j:Nat)(h:(Dg.dg 65536 n).length≤L)(hk:k≤16*j):(Dg.dg 65536 (n*2^k)).length≤L+j:=by
 apply Dg.dg_len_le 65536 _ _ (by omega);have h1:=Dg.vl_lt 65536 (Dg.dg 65536 n) (Dg.small_dg _ _ (by omega));rw[Dg.vl_dg _ _ (by omega)] at h1;have h2:65536^ (Dg.dg 65536 n).length≤65536^L:=Nat.pow_le_pow_right (by omega) h;have h3:2^k≤65536^j:=by
  rw[show(65536:Nat)=2^16 from rfl,←Nat.pow_mul]
  exact Nat.pow_le_pow_right (by omega) (by omega)
 rw[Nat.pow_add];have h4:0<65536^j:=Nat.pow_pos (by omega);generalize 65536^j=c at*;generalize 65536^L=d at*;have h5:n*2^k≤n*c:=Nat.mul_le_mul_left _ h3;have h6:n*c<d*c:=Nat.mul_lt_mul_of_pos_right (by omega) h4;omega
theorem Ho {P:Program}{w:World}{base e:Nat}{k:IntKind}{v u:Value}{xs ys:List Nat}(t ty:Nat)(i:TypeInfo)(bytes:Nat)(ht:P.underlying t=some (.slice e))(hi:P.info? e=some i)
  (hz:i.zero=some (.int k 0)) (hsize:i.size=1) (hby:i.bytes=bytes) (hb8:bytes≤8)
  (ho:Own w base e k v xs) (hr:Rd w k u ys) (hl:xs.length+ys.length≤3000000) (hbase:base≤w.heap.size):
  ∃v' w',(Builtin.append_ #[t,t] ty #[v,u]).run P w= .ok v' w'∧Own w' base e k v' (xs++ys)∧w.grownBy w' v.ownBlock:=by
 obtain⟨ao,cap,rfl,h1,h2,h3⟩:=hr
 cases ao with
 |none=>
  have hy:ys.length=0:=by
   rcases Nat.eq_zero_or_pos ys.length with e|e
   ·exact e
   ·obtain⟨b,off,e2,_⟩:=h3 e;cases e2
  have hyn:ys=[]:=List.length_eq_zero_iff.1 hy;subst hyn;refine⟨v,w, ?_,by rw[List.append_nil];exact ho,ib _ _⟩
  rcases ho.2 with⟨rfl,_⟩| ⟨g,cap',cur,rfl,_,_,hnc,_⟩
  ·simp[Builtin.append_,run_underlying ht,sizeOf,typeInfo,hi,Builtin.lenOf,Builtin.firstCells]
  ·simp[Builtin.append_,run_underlying ht,sizeOf,typeInfo,hi,Builtin.lenOf,Builtin.firstCells,hnc,storeCells]
 |some ad=>
  obtain⟨v',w',r1,r2,r3,_⟩:=run_append_own (P:=P) (w:=w) base t ty e i (.int k 0) 1 bytes ht hi hz hsize hby rfl (by omega) v xs.length _ ho ad ys.length cap (ys.map (fun n:Nat=>Value.int k (n:Int))) (by simp) (fun j u hj=>by
    have hjl:j<ys.length:=by
     have:=(List.getElem?_eq_some_iff.1 hj).1
     simpa using this
    obtain⟨b,off,e2,hc⟩:=h3 (by omega)
    cases e2
    rw[rO,hc j hjl];rw[←hj,j9 k ys j hjl]) (fun u hu=>by
    obtain⟨n,_,rfl⟩:=List.mem_map.1 hu;rfl) (by unfold maxLen;omega) (Nat.le_trans (Nat.mul_le_mul (show xs.length+ys.length≤3000000 from hl) hb8) (by omega)) hbase
  exact⟨v',w',r1,by unfold Own;rw[List.map_append,List.length_append];exact r2,r3⟩
theorem Wm {rs:List Nat}(h:Dg.Small 65536 rs)(n j:Nat):sJ rs n j<65536^j:=by
 induction j with
 |zero=>simp[sJ]
 |succ j ih=>
  have:=h (n-j);simp only[sJ,Nat.pow_succ];omega
theorem aaR (b y r:Nat)(hb:b<256)(hy:y<18446744073709551616):bits .or .u8 b (bits .and .u64 y 1 % 256*2^ (7-r) % 256)=((b|||y % 2*2^ (7-r):Nat):Int):=by
 have e2:=u64_and_nat y 1 hy (by omega);rw[Nat.and_one_is_mod] at e2;have h2:=Nat.mod_lt y (show 0<2 by omega)
 have h3:=Cf y r;have e3:(((y % 2:Nat):Int) % 256*2^ (7-r))=((y % 2*2^ (7-r):Nat):Int):=by
  rw[show((y % 2:Nat):Int) % 256=((y % 2:Nat):Int) from by omega]
  push_cast
  rfl
 rw[show 1=((1:Nat):Int) from rfl,e2,e3,show((y % 2*2^ (7-r):Nat):Int) % 256=((y % 2*2^ (7-r):Nat):Int) from by omega]
 exact u8_or_nat _ _ hb h3
def JV (w:World)(c:Int)(g:Bool)(t:ak)(ng:Bool)(z:Ending)(w':World):Prop:=
 ∃s,z= .returned (.tuple #[yoV c g t.s s t.e,.bool ng])∧Rd w' .i64 s (Dg.dg 65536 t.n)∧yB w w'∧Far w.heap.size s
def zR (k:Nat)(ng:Bool)(E FF:Nat):Bool:=
 if k=3 then(if E+1=2^exN k then(if FF=2^ (dgN k-1) then ng else false) else if 0<E∧FF<2^ (dgN k-1) then false else ng)
 else if k≤2 then(if E+1=2^exN k then(if FF=0 then ng else false) else ng)
 else if k≤5 then ng
 else(if E=0 then false else ng)
def fT (n:Int):List ByteArray→Int
 | []=>0
 |p::ps=>if dF n p=0 then fT n ps else dF n p
theorem ut.mono {J K:Int}{N1 M1 N2 M2:Nat}{E1 E2:Int}(h:ut J N1 M1 E1 N2 M2 E2)(hk:J≤K):ut K N1 M1 E1 N2 M2 E2:=fun j hj=>h j (by omega)
def CRes (w:World)(c:Int)(g:Bool)(m:Nat)(p:Int)(t:ak)(er:Int)(z:Ending)(w':World):Prop:=
 ∃v x,z= .returned (.tuple #[yvV c g v p,ydV t.s x t.e,yi er])∧Rd w' .u32 v (Dg.dg 4294967296 m)∧Rd w' .u32 x (Dg.dg 4294967296 t.n)∧yB w w'
theorem Jh (n k L j:Nat)(h:(Dg.dg 65536 n).length≤L)(hk:k≤16*j):(Dg.dg 65536 (n*2^k)).length≤L+j:=by
 apply Dg.dg_len_le 65536 _ _ (by omega);have h1:=Dg.vl_lt 65536 (Dg.dg 65536 n) (Dg.small_dg _ _ (by omega));rw[Dg.vl_dg _ _ (by omega)] at h1;have h2:65536^ (Dg.dg 65536 n).length≤65536^L:=Nat.pow_le_pow_right (by omega) h;have h3:2^k≤65536^j:=by
  rw[show(65536:Nat)=2^16 from rfl,←Nat.pow_mul]
  exact Nat.pow_le_pow_right (by omega) hk
 rw[Nat.pow_add];exact Nat.lt_of_lt_of_le (Nat.mul_lt_mul_of_pos_right (Nat.lt_of_lt_of_le h1 h2) (Nat.pow_pos (by omega))) (Nat.mul_le_mul_left _ h3)
def GT (w:World)(t:fz)(e:Ending)(w':World):Prop:=
 ∃v,e= .returned (ypV t.s v t.p t.ex t.ov t.un)∧Rd w' .i64 v (Dg.dg 65536 t.d)∧yB w w'
def dyC (t:ak)(v:Value):List Value:=(ydL t.s v t.e)
end Go.Proofs.YtddkchlamdhgcaaGreatDoor
