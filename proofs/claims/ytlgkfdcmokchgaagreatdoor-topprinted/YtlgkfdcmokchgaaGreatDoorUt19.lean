/-
  Texts laid together: Ref4, Dy1, Roo1, Co10, Co11, Co15, Tx7.
-/
import Derived.Test.YtlgkfdcmokchgaaGreatDoorUt04
import Derived.Test.YtlgkfdcmokchgaaGreatDoorUt09
import Derived.Test.YtlgkfdcmokchgaaGreatDoorUt11
set_option maxRecDepth 100000
set_option maxHeartbeats 3200000
namespace Go.Proofs.YtlgkfdcmokchgaaGreatDoor
open _root_.Go.Proofs.Tryz
open Go.RowKit
theorem kI (va vb:Value)(xs ys:List Nat)(w:World)(ha:Rd w .i64 va xs)(hb:Rd w .i64 vb ys)(sa:Dg.Small 65536 xs)(sb:Dg.Small 65536 ys)(hla:xs.length≤2000000)(hlb:ys.length≤xs.length)(hv:Dg.vl 65536 ys≤Dg.vl 65536 xs):
  yC 65 #[va,vb] w (cG w (Dg.vl 65536 xs-Dg.vl 65536 ys)):=by
 obtain⟨ao,ca,rfl,-,-,hca⟩:=ha;obtain⟨bo,cb,rfl,-,-,hcb⟩:=hb;obtain⟨i0,hi,hz0,hz1,hz2⟩:=info_parts Tryz.infoI64;have HV:Hid _:=hv;clear hv
 go_enter func65,ntmps65
 go_wp2
 go_loopw [5,6,7] (fun ov cv iv wr=> ∃(k c:Nat) (ps:List Nat),k≤xs.length∧iv=yi k∧cv=yi c∧Own wr w.heap.size 3 .i64 ov ps∧QA xs ys ps k c∧yB w wr) (fun _ _ iv _=>xs.length-(intOf iv).toNat)
 case atStart=>exact⟨0,0,[],by omega,rfl,rfl,aQ _ _ _ _,⟨rfl,Dg.small_nil _ (by omega),by omega,by simp[Dg.vl]⟩,Below.refl _ _⟩
 case round=>
  obtain⟨k,c,ps,hk,rfl,rfl,own,hI,bel⟩:=hrel;have hcl:=hI.2.2.1;have hpl:=hI.1;have hbs:=bel.size
  by_cases hlt:k<xs.length
  ·obtain⟨b,off,rfl,hcella⟩:=hca (by omega)
   have hcell:=cell_later bel (hcella k hlt);have hxl:=sa k;have hyl:=sb k;have hy0: ¬k<ys.length→ys.getD k 0=0:=fun h=>Dg.getD_of_le _ _ (by omega)
   have hst: ∀d c',d<65536→c'≤1→xs.getD k 0+65536*c'=d+ys.getD k 0+c→QA xs ys (ps++[d]) (k+1) c':=fun d c' h1 h2 h3=>I1 hI h1 h2 h3
   have hcy:k<ys.length→ ∃b off,bo=some ⟨b,off,none⟩∧wr.cell? ⟨b,off+k,none⟩=some (yi ((ys.getD k 0:Nat):Int)):=fun h=>by
    obtain⟨b,off,e,hcell⟩:=hcb (by omega);exact⟨b,off,e,cell_later bel (hcell k h)⟩
   obtain⟨x,ex⟩: ∃x,xs.getD k 0=x:=⟨_,rfl⟩;obtain⟨y,ey⟩: ∃y,ys.getD k 0=y:=⟨_,rfl⟩;rw[ex] at hxl hst hcell;rw[ey] at hyl hy0 hst hcy;have Hst:Hid _:=hst;have Hpl:Hid _:=hpl;have hpl2:ps.length≤2000000:=by omega
   clear ex ey hca hcb hI hst hpl hcella;have fin: ∀(T:Int) (d:Nat),T=((d:Nat):Int)→ ∀v' w3,w3.ownsRow w.heap.size 3 1 v' (ps.length+1) ((ps.map (fun n:Nat=>Value.int .i64 (n:Int)))++[yi T])→(wr.alloc (.cells #[yi T] 3)).grownBy w3 (Value.ownBlock u5)→
     Own w3 w.heap.size 3 .i64 v' (ps++[d])∧yB w w3:=by
    intro T d hT v' w3 h1 h2;rw[hT] at h1 h2;exact iW bel own h1 h2
   by_cases h2:k<ys.length
   ·obtain⟨b2,off2,rfl,hcell2⟩:=hcy h2
    clear hcy hy0
    by_cases hneg:x<y+c
    ·have hneg2:((x:Int)-(c:Int)-(y:Int))<0:=by omega
     go_wp2_with (at_builtin;refine wpList_append_own _ rfl _ _ 27 rfl w.heap.size 3 i0 (yi 0) 1 8 underlying27 hi hz0 hz1 hz2 rfl (by decide) _ _ _ rfl (World.ownsRow.alloc own _) ⟨wr.heap.size,0,none⟩ 1 1 [yi ((x:Int)-(c:Int)-(y:Int)+65536)] rfl rfl ?c1 ?c2 ?c3 ?c4 ?c5 ?_)
     try (case c1=>exact cell_one_new _ _ _)
     case c2=>first|rfl| (intro u hu;simp at hu;subst hu;rfl)| (simp;done)| (simp[Value.oneCell'];done)| (trace_state;fail)
     case c3=>unfold maxLen;omega
     case c4=>omega
     case c5=>first|omega| (simp;omega)
     intro v' w3 hown' hgrow _;have R:=fin _ (x+65536-y-c) (by omega) v' w3 hown' hgrow;clear hown' hgrow own fin
     go_wp2
     go_roundw
     case rel=>exact⟨k+1,1,_,by omega,by go_num,by go_num,R.1,Hst.out _ _ (by omega) (by omega) (by omega),R.2⟩
     case measure=>simp[intOf];omega
    ·have hneg2: ¬((x:Int)-(c:Int)-(y:Int))<0:=by omega
     go_wp2_with (at_builtin;refine wpList_append_own _ rfl _ _ 27 rfl w.heap.size 3 i0 (yi 0) 1 8 underlying27 hi hz0 hz1 hz2 rfl (by decide) _ _ _ rfl (World.ownsRow.alloc own _) ⟨wr.heap.size,0,none⟩ 1 1 [yi ((x:Int)-(c:Int)-(y:Int))] rfl rfl ?d1 ?d2 ?d3 ?d4 ?d5 ?_)
     try (case d1=>exact cell_one_new _ _ _)
     case d2=>first|rfl| (intro u hu;simp at hu;subst hu;rfl)| (simp;done)| (simp[Value.oneCell'];done)| (trace_state;fail)
     case d3=>unfold maxLen;omega
     case d4=>omega
     case d5=>first|omega| (simp;omega)
     intro v' w3 hown' hgrow _;have R:=fin _ (x-y-c) (by omega) v' w3 hown' hgrow;clear hown' hgrow own fin
     go_wp2
     go_roundw
     case rel=>exact⟨k+1,0,_,by omega,by go_num,by go_num,R.1,Hst.out _ _ (by omega) (by omega) (by omega),R.2⟩
     case measure=>simp[intOf];omega
   ·have hy:=hy0 h2
    subst hy;clear hcy hy0
    by_cases hneg:x<c
    ·have hneg2:((x:Int)-(c:Int))<0:=by omega
     go_wp2_with (at_builtin;refine wpList_append_own _ rfl _ _ 27 rfl w.heap.size 3 i0 (yi 0) 1 8 underlying27 hi hz0 hz1 hz2 rfl (by decide) _ _ _ rfl (World.ownsRow.alloc own _) ⟨wr.heap.size,0,none⟩ 1 1 [yi ((x:Int)-(c:Int)+65536)] rfl rfl ?e1 ?e2 ?e3 ?e4 ?e5 ?_)
     try (case e1=>exact cell_one_new _ _ _)
     case e2=>first|rfl| (intro u hu;simp at hu;subst hu;rfl)| (simp;done)| (simp[Value.oneCell'];done)| (trace_state;fail)
     case e3=>unfold maxLen;omega
     case e4=>omega
     case e5=>first|omega| (simp;omega)
     intro v' w3 hown' hgrow _;have R:=fin _ (x+65536-c) (by omega) v' w3 hown' hgrow;clear hown' hgrow own fin
     go_wp2
     go_roundw
     case rel=>exact⟨k+1,1,_,by omega,by go_num,by go_num,R.1,Hst.out _ _ (by omega) (by omega) (by omega),R.2⟩
     case measure=>simp[intOf];omega
    ·have hneg2: ¬((x:Int)-(c:Int))<0:=by omega
     go_wp2_with (at_builtin;refine wpList_append_own _ rfl _ _ 27 rfl w.heap.size 3 i0 (yi 0) 1 8 underlying27 hi hz0 hz1 hz2 rfl (by decide) _ _ _ rfl (World.ownsRow.alloc own _) ⟨wr.heap.size,0,none⟩ 1 1 [yi ((x:Int)-(c:Int))] rfl rfl ?f1 ?f2 ?f3 ?f4 ?f5 ?_)
     try (case f1=>exact cell_one_new _ _ _)
     case f2=>first|rfl| (intro u hu;simp at hu;subst hu;rfl)| (simp;done)| (simp[Value.oneCell'];done)| (trace_state;fail)
     case f3=>unfold maxLen;omega
     case f4=>omega
     case f5=>first|omega| (simp;omega)
     intro v' w3 hown' hgrow _;have R:=fin _ (x-c) (by omega) v' w3 hown' hgrow;clear hown' hgrow own fin
     go_wp2
     go_roundw
     case rel=>exact⟨k+1,0,_,by omega,by go_num,by go_num,R.1,Hst.out _ _ (by omega) (by omega) (by omega),R.2⟩
     case measure=>simp[intOf];omega
  ·have hke:k=xs.length:=by omega
   subst hke;have hen:=Nl hI hlb HV.out;have hps:=hI.2.1;have hpl2:ps.length≤2000000:=by omega
   clear hpl;obtain⟨oo,oc,rfl⟩:=own.rd.shape
   go_wp2_with fail
   refine(i9 _ _ _ _ _ own.rd).mono ?_;rintro e w' ⟨n,rfl,hn,rfl⟩;have hnl:=hn.1;have hr:=uE (cap':=n) 65536 (by omega) own.rd hps hn (Nat.le_refl _) (by unfold maxLen;omega);rw[hen] at hr;clear hn hen
   go_wp2
   go_ret
   exact⟨_,rfl,hr,bel⟩
theorem Gl (v:Value)(n:Nat)(w:World)(hv:Rd w .u32 v (Dg.dg 4294967296 n))(hL:(Dg.dg 4294967296 n).length≤1000000)(hT:Tab w):
  yC 108 #[v] w fun e w'=>e= .returned (yi ((if n=0 then 0 else tz n:Nat):Int))∧w'=w:=by
 have hs:=Dg.small_dg 4294967296 n (by omega);have hvl:=Dg.vl_dg 4294967296 n (by omega);have hz:(∀j,(Dg.dg 4294967296 n).getD j 0=0)→n=0:=fun h=>by rw[←hvl];exact Dg.vl_zeros _ _ h
 obtain⟨xs,hx⟩: ∃xs,Dg.dg 4294967296 n=xs:=⟨_,rfl⟩;rw[hx] at hv hs hvl hz hL;obtain⟨ao,ca,rfl⟩:=hv.shape;obtain⟨hlc,hm,hcb⟩:=iQ hv;have HZ:Hid (∀k,xs.length≤k→(∀j,j<k→xs.getD j 0=0)→n=0):=fun k hk h=>hz (fun j=>by
  by_cases hj:j<k
  ·exact h j hj
  ·simp[List.getD_eq_getElem?_getD,show xs.length≤j from by omega])
 have HN:Hid _:=hvl;clear hx hz hvl hv
 go_enter func108,ntmps108
 go_wp2
 go_loop [7] (fun iv=> ∃k:Nat,k≤xs.length∧iv=yi k∧Hid (∀j,j<k→xs.getD j 0=0)) (fun iv=>xs.length-(intOf iv).toNat)
 case atStart=>exact⟨0,Nat.zero_le _,rfl,fun j hj=>absurd hj (Nat.not_lt_zero j)⟩
 case round=>
  obtain⟨k,hk,rfl,hzk⟩:=hrel
  by_cases hlt:k<xs.length
  ·obtain⟨b,off,rfl,hcell⟩:=hcb (by omega)
   have hc:=hcell k hlt;have hl:=hs k;obtain⟨x,hx⟩: ∃x,xs.getD k 0=x:=⟨_,rfl⟩;rw[hx] at hc hl;have HX:Hid _:=hx;clear hx hcell hcb
   by_cases hx0:x=0
   ·subst hx0
    go_wp2
    go_round
    case rel=>exact⟨k+1,by omega,by go_num,fun j hj=>by
     by_cases e:j=k
     ·rw[e];exact HX.out
     ·exact hzk.out j (by omega)⟩
    case measure=>simp[intOf];omega
   ·have ht:=Zw x w hl hx0 hT
    have h0:((x:Int)==0)=false:=by simp;exact hx0
    go_wp2_with fail
    refine ht.mono ?_;rintro e w' ⟨t,m,rfl,hxm,htl,rfl⟩;have e1:=Zx xs k t m hlt hzk.out (by rw[HX.out];exact hxm) htl;rw[HN.out] at e1;have hn0:n≠0:=by
     intro e;have h2:=adl 4294967296 xs k (by omega) hs (by rw[HN.out];exact e);rw[HX.out] at h2;exact hx0 h2
    clear ht hxm
    go_wp2
    go_ret
    refine⟨?_,rfl⟩
    first|rfl| (rw[e1];rfl)| (simp only[e1];rfl)| (show Ending.returned (Value.int IntKind.i64 (32*(k:Int)+(t:Int)))=_;rw[e1];rfl)
  ·have hn0:=HZ.out k (by omega) hzk.out
   go_wp2
   go_ret
   subst hn0;exact⟨rfl,rfl⟩
theorem Iq (va:Value)(n k L:Nat)(w:World)(ha:Rd w .u32 va (Dg.dg 4294967296 n))(hL:n<4294967296^L)(hLk:L*k≤400000)(hLl:L≤400000)(hk:k≤1000000):
  yC 81 #[va,yi k] w (Num w (n^k)):=by
 have HA:Hid (Rd w .u32 va (Dg.dg 4294967296 n)):=ha;have hnl:(Dg.dg 4294967296 n).length≤L:=Dg.dg_len_le 4294967296 n L (by omega) hL;have HL: ∀j,j≤k→(Dg.dg 4294967296 (n^j)).length≤400001:=fun j hj=>by
  have hp:=aaT (j:=j) hL;have hlj:L*j≤L*k:=Nat.mul_le_mul (Nat.le_refl _) hj;omega
 have HT:Hid (∀j v wr,j≤k→yB w wr→Rd wr .u32 v (Dg.dg 4294967296 (n^j))→yC 57 #[v,va] wr (Num wr (n^ (j+1)))):=fun j v wr hj b r=>by
  have:=qC v va _ _ wr r (ha.l b) (Dg.small_dg _ _ (by omega)) (Dg.small_dg _ _ (by omega)) (by have:=HL j hj;omega) (by omega);rw[Dg.vl_dg _ _ (by omega),Dg.vl_dg _ _ (by omega),←Nat.pow_succ] at this;exact this
 have HS:Hid (∀j v wr,j≤k→Rd wr .u32 v (Dg.dg 4294967296 (n^j))→yC 57 #[v,v] wr (Num wr (n^ (j+j)))):=fun j v wr hj r=>by
  have:=qC v v _ _ wr r r (Dg.small_dg _ _ (by omega)) (Dg.small_dg _ _ (by omega)) (by have:=HL j hj;omega) (by have:=HL j hj;omega);rw[Dg.vl_dg _ _ (by omega),←Nat.pow_add] at this;exact this
 have HB:Hid (∀wr,yC 122 #[.int .u64 k] wr fun e w'=>e= .returned (yi (bitLen k:Nat))∧w'=wr):=fun wr=>LZ k wr (by omega)
 have hbl:bitLen k≤20:=bF k 20 (by omega);have hz:k/2^bitLen k=0:=Nat.div_eq_of_lt (bitLen_spec k).1;have o1:=zf w w.heap.size 54 1 (Nat.le_refl _);have b1:yB w (w.alloc (.cells #[.int .u32 ((1:Nat):Int)] 54)):=(Below.refl _ _).alloc (Nat.le_refl _) _;obtain⟨ao,ca,rfl⟩:=ha.shape;obtain⟨ma,hma⟩: ∃m,(Dg.dg 4294967296 n).length=m:=⟨_,rfl⟩;rw[hma] at HT HA⊢;clear ha hma hnl HL;obtain⟨bl,hbe⟩: ∃b,bitLen k=b:=⟨_,rfl⟩;rw[hbe] at HB hbl hz;clear hbe
 go_enter func81,ntmps81
 go_wp2_with fail
 refine(HB.out _).mono ?_;rintro e w' ⟨rfl,rfl⟩
 go_wp2
 have L0:aex w n k bl (.slice (some ⟨w.heap.size,0,none⟩) 1 1) (yi ((bl:Int)-1)) (w.alloc (.cells #[.int .u32 ((1:Nat):Int)] 54)):=⟨bl,Nat.le_refl _,rfl,by rw[hz];exact o1,b1⟩
 go_loopw [5,6] (aex w n k bl) (fun _ iv _=>(intOf iv+1).toNat)
 case atStart=>exact L0
 case round=>
  clear L0 o1 b1;obtain⟨j,hj,rfl,own,bel⟩:=hrel
  rcases Nat.eq_zero_or_pos j with h0|h0
  ·subst h0
   go_wp2
   go_ret
   refine⟨_,rfl, ?_,bel⟩;rw[show k/2^0=k by simp] at own
   exact own
  ·obtain⟨i,rfl⟩: ∃i,j=i+1:=⟨j-1,by omega⟩
   have hle:k/2^ (i+1)≤k:=Nat.div_le_self _ _;have hh:=aaU k i;have e1:((i+1:Nat):Int)-1=(i:Int):=by omega
   rw[e1]
   go_wp2_with fail
   refine(HS.out _ _ _ hle own.rd).mono ?_;rintro z w2 ⟨v2,rfl,o2,b2⟩;have b02:=aa bel b2;have o2:=o2.lower bel.size;clear own b2;have hq:((k:Int)/2^i).tmod 2=((k/2^i % 2:Nat):Int):=by
    have h1:(k:Int)/2^i=((k/2^i:Nat):Int):=by rw[Int.natCast_ediv,Int.natCast_pow];rfl
    rw[h1,Int.ofNat_tmod];rfl
   by_cases hodd:k/2^i % 2=1
   ·have hc:(((k:Int)/2^i).tmod 2==1)=true:=by rw[hq,hodd];rfl
    have hx:k/2^ (i+1)+k/2^ (i+1)≤k:=by have:=Nat.div_le_self k (2^i);omega
    have hy:k/2^ (i+1)+k/2^ (i+1)+1=k/2^i:=by omega
    have H2:Hid _:=HT.out _ v2 w2 hx b02 o2.rd;rw[hy] at H2;clear hq hh hodd
    go_wp2_with fail
    refine Calls.mono H2.out ?_;rintro z w3 ⟨v3,rfl,o3,b3⟩;have o3:=o3.lower b02.size;have b03:=aa b02 b3
    go_wp2
    go_roundw
    case rel=>exact⟨i,by omega,rfl,o3,b03⟩
    case measure=>simp[intOf]
   ·have hc:(((k:Int)/2^i).tmod 2==1)=false:=by
     rw[hq];have:k/2^i % 2=0:=by omega
     rw[this];rfl
    have hy:k/2^ (i+1)+k/2^ (i+1)=k/2^i:=by omega
    rw[hy] at o2;clear hq hh hodd
    go_wp2
    go_roundw
    case rel=>exact⟨i,by omega,rfl,o2,b02⟩
    case measure=>simp[intOf]
theorem AY (g cap:Nat)(zs:List Nat)(f c x:Nat)(w:World)(hr:ik w g zs)(hs:Dg.Small 256 zs)(hx:x<18446744073709551616)(hfc:f+c≤8*zs.length)(hl:zs.length≤1000):
  yC 167 #[.slice (some ⟨g,0,none⟩) zs.length cap,yi f,yi c,.int .u64 x] w fun e w'=>e= .returned (.tuple #[])∧ik w' g (iS f c x zs)∧w.grownBy w' (some g):=by
 go_enter func167,ntmps167
 go_wp2
 go_loopw [3,8] (fun xv iv wr=> ∃(j y:Nat) (cur:List Nat),j≤c∧iv=yi ((f:Int)+j-1)∧xv= .int .u64 y∧y<18446744073709551616∧ik wr g cur∧Dg.Small 256 cur∧Hid (cur.length=zs.length)∧Hid (iS f j y cur=iS f c x zs)∧w.grownBy wr (some g))
  (fun _ iv _=>(intOf iv+1).toNat)
 case atStart=>exact⟨c,x,zs,Nat.le_refl _,by go_num,rfl,hx,hr,hs,rfl,rfl,ib _ _⟩
 case round=>
  obtain⟨j,y,cur,hj,rfl,rfl,hy,own,hsm,Hl,Hx,gr⟩:=hrel;have hlen:=Hl.out
  by_cases hj0:0<j
  ·obtain⟨j',rfl⟩: ∃j',j=j'+1:=⟨j-1,by omega⟩
   obtain⟨i,hi⟩: ∃i,f+j'=i:=⟨_,rfl⟩;have hiI:(f:Int)+((j'+1:Nat):Int)-1=(i:Int):=by omega
   rw[hiI];obtain⟨q,hq⟩: ∃q,i/8=q:=⟨_,rfl⟩;obtain⟨r,hr'⟩: ∃r,i % 8=r:=⟨_,rfl⟩;have hqI:(i:Int)/8=(q:Int):=by omega
   have hrI:(i:Int) % 8=(r:Int):=by omega
   have hcell:=own.c q (by omega);have hfree:=own.f q (by omega);have hs1:=hsm q;obtain⟨b,hb⟩: ∃b,cur.getD q 0=b:=⟨_,rfl⟩;rw[hb] at hcell hs1;have hql:q<zs.length:=by omega
   have hr8:r<8:=by omega
   have HH:Hid (_∧_∧_∧_):=⟨hi,hq,hr',hb⟩;have hic:(f:Int)≤(i:Int):=by omega
   have hib:(i:Int)≤8000:=by omega
   clear hi hq hr' hb hlen hiI
   go_wp2
   go_region
   all_goals go_wp2
   all_goals go_roundw
   case rel=>
    obtain⟨hi,hq,hr',hb⟩:=HH.out;have hbl:b|||y % 2*2^ (7-r)<256:=Nat.or_lt_two_pow (n:=8) hs1 (Cf y r)
    refine⟨j',y/2,cur.set q (b|||y % 2*2^ (7-r)),by omega,by congr 1;omega,rfl,by omega, ?_,Io hsm _ _ hbl, ?_, ?_,eF gr (eF (bI _ _ _ _) (vm _ _))⟩
    ·rw[aaR b y r hs1 hy]
     exact(own.store q _).drew
    ·show _=_
     rw[List.length_set];exact Hl.out
    ·show _=_
     have:=Hx.out;rw[iS,hi,hq,hr',hb] at this;exact this
   case measure=>simp only[intOf];omega
  ·have hd: ¬((f:Int)≤(f:Int)+(j:Int)-1):=by omega
   have h0:Hid (j=0):=(by omega:j=0);clear hlen
   go_wp2
   go_end0
   have h1:=h0.out;subst h1;have:=Hx.out;rw[iS] at this;rw[←this];exact⟨rfl,own,gr⟩
theorem KP (R D L G fam sz ex on wr:Int)(gr ng:Bool)(F:Nat)(e f:Int)(w:World)(HO:yJ 165 #[ylV R D L G gr sz ex fam F] (yi on))(HW:yJ 166 #[ylV R D L G gr sz ex fam F] (.int .u64 wr))(h1:on=e)(h2:f≠wr)(_h0:(on==0)=false):yC 140 #[ylV R D L G gr sz ex fam F,yfV ng e f] w (yR w (yi 4)):=by
 have hsf:=cD;replace HO:Hid _:=HO;replace HW:Hid _:=HW;have l0:=(ah w (ylL R D L G gr sz ex fam F) 110).l (af _ (.cells (yfA ng e f) 112));have m0:=ah (w.alloc (.cells (ylA R D L G gr sz ex fam F) 110)) (yfL ng e f) 112;have b0:=aa (af w (.cells (ylA R D L G gr sz ex fam F) 110)) (af _ (.cells (yfA ng e f) 112));rw[World.size_alloc] at m0;subst h1;have hfb:(f==wr)=false:=by simpa using h2
 clear h2;obtain⟨x0,x1,x2,x3,x4,x5,x6,x7,x8⟩:=l0.cs9;obtain⟨u0,u1,u2⟩:=m0.cs3
 go_enter func140,ntmps140
 go_wp2_with fail
 go_region_held3 (fun wq=>(wq.cell? ⟨w.heap.size,0,none⟩=some (yi R)∧wq.cell? ⟨w.heap.size,1,none⟩=some (yi D)∧wq.cell? ⟨w.heap.size,2,none⟩=some (yi L)∧wq.cell? ⟨w.heap.size,3,none⟩=some (yi G)∧wq.cell? ⟨w.heap.size,4,none⟩=some (.bool gr)∧wq.cell? ⟨w.heap.size,5,none⟩=some (yi sz)∧wq.cell? ⟨w.heap.size,6,none⟩=some (yi ex)∧wq.cell? ⟨w.heap.size,7,none⟩=some (yi fam)∧wq.cell? ⟨w.heap.size,8,none⟩=some (.func (.func F) #[] #[]))∧(wq.cell? ⟨w.heap.size+1,0,none⟩=some (.bool ng)∧wq.cell? ⟨w.heap.size+1,1,none⟩=some (yi on)∧wq.cell? ⟨w.heap.size+1,2,none⟩=some (.int .u64 f))) (go_keep) (first
  | (go_at_call 165;refine(HO.out _).mono ?_;rintro z w2 ⟨rfl,b2⟩;have l2:=l0.drew.l b2;have m2:=m0.drew.l b2;have b02:=aa b0.drew b2;obtain⟨y0,y1,y2,y3,y4,y5,y6,y7,y8⟩:=l2.cs9;obtain⟨v0,v1,v2⟩:=m2.cs3)
  | (go_at_call 166;refine(HW.out _).mono ?_;rintro z w3 ⟨rfl,b3⟩;have l3:=l2.l b3;have m3:=m2.l b3;have b03:=aa b02 b3;obtain⟨z0,z1,z2,z3,z4,z5,z6,z7,z8⟩:=l3.cs9;obtain⟨t0,t1,t2⟩:=m3.cs3))
 go_wp2_with fail
 refine wp_region_held_drew (S:=(fun wq=>(wq.cell? ⟨w.heap.size,0,none⟩=some (yi R)∧wq.cell? ⟨w.heap.size,1,none⟩=some (yi D)∧wq.cell? ⟨w.heap.size,2,none⟩=some (yi L)∧wq.cell? ⟨w.heap.size,3,none⟩=some (yi G)∧wq.cell? ⟨w.heap.size,4,none⟩=some (.bool gr)∧wq.cell? ⟨w.heap.size,5,none⟩=some (yi sz)∧wq.cell? ⟨w.heap.size,6,none⟩=some (yi ex)∧wq.cell? ⟨w.heap.size,7,none⟩=some (yi fam)∧wq.cell? ⟨w.heap.size,8,none⟩=some (.func (.func F) #[] #[]))∧(wq.cell? ⟨w.heap.size+1,0,none⟩=some (.bool ng)∧wq.cell? ⟨w.heap.size+1,1,none⟩=some (yi on)∧wq.cell? ⟨w.heap.size+1,2,none⟩=some (.int .u64 f)))) (by kernel_rfl) ⟨⟨l3.drew.c 0 rfl,l3.drew.c 1 rfl,l3.drew.c 2 rfl,l3.drew.c 3 rfl,l3.drew.c 4 rfl,l3.drew.c 5 rfl,l3.drew.c 6 rfl,l3.drew.c 7 rfl,l3.drew.c 8 rfl⟩,m3.drew.c 0 rfl,m3.drew.c 1 rfl,m3.drew.c 2 rfl⟩ (fun hS0=> ?_)
 refine tq 0 (.pointer (some ⟨w.heap.size+1,1,none⟩)) rfl (fun w0 _=>by go_simp) hS0 ?_
 refine tq 1 (yi on) rfl (fun w0 hw0=>by obtain⟨⟨p0,p1,p2,p3,p4,p5,p6,p7,p8⟩,q0,q1,q2⟩:=hw0;go_simp) hS0 ?_
 refine tq 2 ((ylV R D L G gr sz ex fam F)) rfl (fun w0 hw0=>by obtain⟨⟨p0,p1,p2,p3,p4,p5,p6,p7,p8⟩,q0,q1,q2⟩:=hw0;go_simp) hS0 ?_
 refine wpAnyH_ready (rs:=[3]) (by kernel_rfl) (by simp) ?_;refine AllReadyH.cons rfl (fun K hK=> ?_) AllReadyH.nil
 go_simp
 refine(HO.out _).mono ?_;rintro z w4 ⟨rfl,b4⟩;have l4:=l3.drew.l b4;have m4:=m3.drew.l b4;have b04:=aa b03.drew b4;refine hK.out _ _ ⟨⟨l4.c 0 rfl,l4.c 1 rfl,l4.c 2 rfl,l4.c 3 rfl,l4.c 4 rfl,l4.c 5 rfl,l4.c 6 rfl,l4.c 7 rfl,l4.c 8 rfl⟩,m4.c 0 rfl,m4.c 1 rfl,m4.c 2 rfl⟩ (fun hS3=> ?_)
 clear hK K;refine tq 4 (.bool true) rfl (fun w0 _=>by go_simp) hS3 ?_
 refine tq 5 (.bool true) rfl (fun w0 _=>by go_simp) hS3 ?_
 refine wpAnyH_take (i:=6) (v:=undef) rfl (by kernel_rfl) (by kernel_rfl) (by kernel_rfl) (fun _ _ _ h=>h) (Or.inr ⟨by kernel_rfl,rfl⟩) hS3 ?_
 refine wpAnyH_take (i:=7) (v:=undef) rfl (by kernel_rfl) (by kernel_rfl) (by kernel_rfl) (fun _ _ _ h=>h) (Or.inr ⟨by kernel_rfl,rfl⟩) hS3 ?_
 refine wpAnyH_take (i:=8) (v:=undef) rfl (by kernel_rfl) (by kernel_rfl) (by kernel_rfl) (fun _ _ _ h=>h) (Or.inr ⟨by kernel_rfl,rfl⟩) hS3 ?_
 refine wpAnyH_take (i:=9) (v:=undef) rfl (by kernel_rfl) (by kernel_rfl) (by kernel_rfl) (fun _ _ _ h=>h) (Or.inr ⟨by kernel_rfl,rfl⟩) hS3 ?_
 refine wpAnyH_take (i:=10) (v:=undef) rfl (by kernel_rfl) (by kernel_rfl) (by kernel_rfl) (fun _ _ _ h=>h) (Or.inr ⟨by kernel_rfl,rfl⟩) hS3 ?_
 refine wpAnyH_take (i:=11) (v:=undef) rfl (by kernel_rfl) (by kernel_rfl) (by kernel_rfl) (fun _ _ _ h=>h) (Or.inr ⟨by kernel_rfl,rfl⟩) hS3 ?_
 refine wpAnyH_take (i:=12) (v:=undef) rfl (by kernel_rfl) (by kernel_rfl) (by kernel_rfl) (fun _ _ _ h=>h) (Or.inr ⟨by kernel_rfl,rfl⟩) hS3 ?_
 refine wpAnyH_take (i:=13) (v:=undef) rfl (by kernel_rfl) (by kernel_rfl) (by kernel_rfl) (fun _ _ _ h=>h) (Or.inr ⟨by kernel_rfl,rfl⟩) hS3 ?_
 refine tq 14 (.bool true) rfl (fun w0 _=>by go_simp) hS3 ?_
 refine tq 15 (.bool true) rfl (fun w0 _=>by go_simp) hS3 ?_
 simp only[Act.put,List.getElem_toArray,List.getElem_cons_succ,List.getElem_cons_zero,List.setIfInBounds_toArray,List.set_cons_zero,List.set_cons_succ];refine wpAnyH_done (by kernel_rfl) ?_ _
 go_wp2
 go_ret
 exact⟨rfl,b04⟩
theorem KH (x:Nat)(hx:x<18446744073709551616)(w:World):
  yC 24 #[.int .u64 x] w fun z w'=> ∃v,z= .returned v∧Own w' w.heap.size 54 .u32 v (Dg.dg 4294967296 x)∧yB w w':=by
 have hlo:(x:Int) % 4294967296=((x % 4294967296:Nat):Int):=by omega
 have hhi:(x:Int)/4294967296=((x/4294967296:Nat):Int):=by omega
 have hx2:x/4294967296<4294967296:=by omega
 have hx1:x % 4294967296<4294967296:=Nat.mod_lt _ (by omega);have hd:=Nq x;obtain⟨lo,elo⟩: ∃n,x % 4294967296=n:=⟨_,rfl⟩;obtain⟨hi,ehi⟩: ∃n,x/4294967296=n:=⟨_,rfl⟩;rw[elo] at hlo hd hx1;rw[ehi] at hhi hd hx2;have own:Own (w.alloc (.cells #[.int .u32 (lo:Int),.int .u32 (hi:Int)] 54)) w.heap.size 54 .u32 (.slice (some ⟨w.heap.size,0,none⟩) 2 2) [lo,hi]:=
  pr (zs:=[lo,hi]) (heap_alloc_new _ _) (Nat.le_refl _) (by unfold maxLen;simp)
 have htr:=jD (some ⟨w.heap.size,0,none⟩) 2 2 [lo,hi] _ own.rd;have hsm:Dg.Small 4294967296 [lo,hi]:=by
  intro i
  match i with
  |0=>exact hx1
  |1=>exact hx2
  |i+2=>simp
 have b0:=af w (.cells #[.int .u32 (lo:Int),.int .u32 (hi:Int)] 54);have HH:Hid (_∧_):=⟨hd,hsm⟩;have hxI:(x:Int)<18446744073709551616:=by omega
 clear elo ehi hd hsm
 go_enter func24,ntmps24
 go_wp2_with fail
 refine htr.mono ?_;rintro z w1 ⟨n,rfl,ht,rfl⟩
 go_wp2
 go_ret
 obtain⟨hd,hsm⟩:=HH.out;refine⟨_,rfl, ?_,b0⟩;have:=Dg.trim_eq 4294967296 (by omega) [lo,hi] n hsm ht.1 ht.2.1 ht.2.2;rw[hd] at this;rw[←this];exact own.take n ht.1
theorem tscaled_uu (xg:Bool)(xn:Nat)(xo:Option Addr)(xc:Nat)(e n tw:Int)(F M Nn qt rm:Nat)(w:World)(rx:Rd w .u32 (yT xo xn xc) (Dg.dg 4294967296 xn))(htw:IntKind.i64.wrap (e+n)=tw)(hn:0<n)(ht:0<tw)
  (HF: ∀w1,yC 106 #[yi n] w1 (NmR w1 F))
  (HT: ∀xo xc fo fc w1,Rd w1 .u32 (yT xo xn xc) (Dg.dg 4294967296 xn)→Rd w1 .u32 (yT fo F fc) (Dg.dg 4294967296 F)→yC 57 #[yT xo xn xc,yT fo F fc] w1 (NmR w1 M))
  (HS: ∀mo mc w1,Rd w1 .u32 (yT mo M mc) (Dg.dg 4294967296 M)→yC 91 #[yT mo M mc,yi tw] w1 (NmR w1 Nn))
  (HO: ∀no nc q w1,Rd w1 .u32 (yT no Nn nc) (Dg.dg 4294967296 Nn)→au w1 q 54 [.int .u32 1]→yC 92 #[yT no Nn nc,.slice (some ⟨q,0,none⟩) 1 1] w1 (TwR w1 qt rm)):
  yC 90 #[ydV xg (yT xo xn xc) e,yi n] w (NbR w qt (decide (0< (Dg.dg 4294967296 rm).length))):=by
 replace HF:Hid _:=HF;replace HT:Hid _:=HT;replace HS:Hid _:=HS;replace HO:Hid _:=HO;obtain⟨W3,hW4,q1,b2⟩:=cA w (ydL xg (yT xo xn xc) e) 78;replace hW4:Hid _:=hW4;have r5:=rx.l b2;clear rx
 go_enter func90,ntmps90
 go_upto_region 1 with fail
 rw[hW4.out];clear hW4
 go_upto_region 1 with fail
 have bW6:yB W3 W3.drew:=(Below.refl _ _).drew;have q7:=q1.l bW6;have r8:=r5.l bW6;have b9:=aa b2 bW6;clear q1 r5 b2 bW6;refine wp_region_held_drew (S:=fun wq=>au wq w.heap.size 78 (ydL xg (yT xo xn xc) e)) (by kernel_rfl) q7 (fun hS0=> ?_)
 generalize W3.drew=WD10 at q7 r8 b9 hS0⊢;refine tq 0 (.pointer (some ⟨w.heap.size,1,none⟩)) rfl (fun _ _=>by kernel_rfl) hS0 ?_
 refine tq 1 (yT xo xn xc) rfl (fun _ hw0=>gU 33 (.tmp 11) rfl w.heap.size 1 (by kernel_rfl) _ _ underlying33 rfl (hw0.c 1 rfl)) hS0 ?_
 refine tq 3 (.pointer (some ⟨w.heap.size,2,none⟩)) rfl (fun _ _=>by kernel_rfl) hS0 ?_
 refine tq 4 (yi e) rfl (fun _ hw0=>gU 3 (.tmp 14) rfl w.heap.size 2 (by kernel_rfl) _ _ underlying3 rfl (hw0.c 2 rfl)) hS0 ?_
 refine tq 5 (yi n) rfl (fun _ _=>by kernel_rfl) hS0 ?_
 refine tq 6 (yi tw) rfl (fun _ _=>by go_simp) hS0 ?_
 refine tq 7 (yT xo xn xc) rfl (fun _ _=>by kernel_rfl) hS0 ?_
 refine wpAnyH_ready (rs:=[2]) (by kernel_rfl) (by simp) ?_;refine AllReadyH.cons rfl (fun K hK=> ?_) AllReadyH.nil
 go_simp
 have al11:=af WD10 (.cells #[.int .u32 1] 54);have q12:=ah WD10 [.int .u32 1] 54;have hl15:w.heap.size≤WD10.heap.size:=b9.size;have hl16:=q7.lt;have q17:=q7.l al11;have r18:=r8.l al11;have b19:=aa b9 al11;refine hK.out _ _ q17 (fun hS20=> ?_)
 clear hK K;clear q7 r8 b9 al11;generalize WD10.alloc (.cells #[.int .u32 1] 54)=WN13 at q17 q12 r18 b19 hS20⊢;generalize WD10.heap.size=PQ14 at q12 hl15 hl16⊢;refine tq 8 (.slice (some ⟨PQ14,0,none⟩) 1 1) rfl (fun _ _=>by kernel_rfl) hS20 ?_
 refine tq 9 (yi tw) rfl (fun _ _=>by kernel_rfl) hS20 ?_
 refine wpAnyH_done (by kernel_rfl) ?_ _;clear hS0 hS20;simp only[Act.put,List.getElem_toArray,List.getElem_cons_succ,List.getElem_cons_zero,List.setIfInBounds_toArray,List.set_cons_zero,List.set_cons_succ]
 go_wp2_with fail
 refine(HF.out _).mono ?_;rintro zz w21 ⟨v1x23,rfl,r1x24,bb22⟩;have q25:=q12.l bb22;have r26:=r18.l bb22;have b27:=aa b19 bb22;obtain⟨fo,fc,hv⟩:=r1x24.shape;subst hv;clear q17 q12 r18 b19 bb22 HF
 go_wp2_with fail
 refine(HT.out _ _ _ _ _ r26 r1x24).mono ?_;rintro zz w28 ⟨v1x30,rfl,r1x31,bb29⟩;have q32:=q25.l bb29;have b33:=aa b27 bb29;obtain⟨mo,mc,hv⟩:=r1x31.shape;subst hv;clear q25 r26 r1x24 b27 bb29 HT
 go_wp2_with fail
 refine(HS.out _ _ _ r1x31).mono ?_;rintro zz w34 ⟨v1x36,rfl,r1x37,bb35⟩;have q38:=q32.l bb35;have b39:=aa b33 bb35;obtain⟨no,nc,hv⟩:=r1x37.shape;subst hv;clear q32 r1x31 b33 bb35 HS
 go_wp2_with fail
 refine(HO.out _ _ _ _ r1x37 q38).mono ?_;rintro zz w40 ⟨v1x42,v2x43,rfl,r1x44,r2x45,bb41⟩;have b46:=aa b39 bb41;obtain⟨qo,qc,hv⟩:=r1x44.shape;subst hv;obtain⟨so,sc,hv⟩:=r2x45.shape;subst hv;clear q38 r1x37 b39 bb41 HO
 go_wp2
 go_ret2
 exact⟨_,rfl,r1x44,b46⟩
theorem tscaled_ud (xg:Bool)(xn:Nat)(xo:Option Addr)(xc:Nat)(e n tw mt:Int)(F M Dn qt rm:Nat)(w:World)(rx:Rd w .u32 (yT xo xn xc) (Dg.dg 4294967296 xn))(htw:IntKind.i64.wrap (e+n)=tw)(hn:0<n)(ht: ¬0<tw)(hmt:IntKind.i64.wrap (-tw)=mt)
  (HF: ∀w1,yC 106 #[yi n] w1 (NmR w1 F))
  (HT: ∀xo xc fo fc w1,Rd w1 .u32 (yT xo xn xc) (Dg.dg 4294967296 xn)→Rd w1 .u32 (yT fo F fc) (Dg.dg 4294967296 F)→yC 57 #[yT xo xn xc,yT fo F fc] w1 (NmR w1 M))
  (HS: ∀q w1,au w1 q 54 [.int .u32 1]→yC 91 #[.slice (some ⟨q,0,none⟩) 1 1,yi mt] w1 (NmR w1 Dn))
  (HO: ∀mo mc go gc w1,Rd w1 .u32 (yT mo M mc) (Dg.dg 4294967296 M)→Rd w1 .u32 (yT go Dn gc) (Dg.dg 4294967296 Dn)→yC 92 #[yT mo M mc,yT go Dn gc] w1 (TwR w1 qt rm)):
  yC 90 #[ydV xg (yT xo xn xc) e,yi n] w (NbR w qt (decide (0< (Dg.dg 4294967296 rm).length))):=by
 replace HF:Hid _:=HF;replace HT:Hid _:=HT;replace HS:Hid _:=HS;replace HO:Hid _:=HO;obtain⟨W3,hW4,q1,b2⟩:=cA w (ydL xg (yT xo xn xc) e) 78;replace hW4:Hid _:=hW4;have r5:=rx.l b2;clear rx
 go_enter func90,ntmps90
 go_upto_region 1 with fail
 rw[hW4.out];clear hW4
 go_upto_region 1 with fail
 have bW6:yB W3 W3.drew:=(Below.refl _ _).drew;have q7:=q1.l bW6;have r8:=r5.l bW6;have b9:=aa b2 bW6;clear q1 r5 b2 bW6;refine wp_region_held_drew (S:=fun wq=>au wq w.heap.size 78 (ydL xg (yT xo xn xc) e)) (by kernel_rfl) q7 (fun hS0=> ?_)
 generalize W3.drew=WD10 at q7 r8 b9 hS0⊢;refine tq 0 (.pointer (some ⟨w.heap.size,1,none⟩)) rfl (fun _ _=>by kernel_rfl) hS0 ?_
 refine tq 1 (yT xo xn xc) rfl (fun _ hw0=>gU 33 (.tmp 11) rfl w.heap.size 1 (by kernel_rfl) _ _ underlying33 rfl (hw0.c 1 rfl)) hS0 ?_
 refine tq 3 (.pointer (some ⟨w.heap.size,2,none⟩)) rfl (fun _ _=>by kernel_rfl) hS0 ?_
 refine tq 4 (yi e) rfl (fun _ hw0=>gU 3 (.tmp 14) rfl w.heap.size 2 (by kernel_rfl) _ _ underlying3 rfl (hw0.c 2 rfl)) hS0 ?_
 refine tq 5 (yi n) rfl (fun _ _=>by kernel_rfl) hS0 ?_
 refine tq 6 (yi tw) rfl (fun _ _=>by go_simp) hS0 ?_
 refine tq 7 (yT xo xn xc) rfl (fun _ _=>by kernel_rfl) hS0 ?_
 refine wpAnyH_ready (rs:=[2]) (by kernel_rfl) (by simp) ?_;refine AllReadyH.cons rfl (fun K hK=> ?_) AllReadyH.nil
 go_simp
 have al11:=af WD10 (.cells #[.int .u32 1] 54);have q12:=ah WD10 [.int .u32 1] 54;have hl15:w.heap.size≤WD10.heap.size:=b9.size;have hl16:=q7.lt;have q17:=q7.l al11;have r18:=r8.l al11;have b19:=aa b9 al11;refine hK.out _ _ q17 (fun hS20=> ?_)
 clear hK K;clear q7 r8 b9 al11;generalize WD10.alloc (.cells #[.int .u32 1] 54)=WN13 at q17 q12 r18 b19 hS20⊢;generalize WD10.heap.size=PQ14 at q12 hl15 hl16⊢;refine tq 8 (.slice (some ⟨PQ14,0,none⟩) 1 1) rfl (fun _ _=>by kernel_rfl) hS20 ?_
 refine tq 9 (yi tw) rfl (fun _ _=>by kernel_rfl) hS20 ?_
 refine wpAnyH_done (by kernel_rfl) ?_ _;clear hS0 hS20;simp only[Act.put,List.getElem_toArray,List.getElem_cons_succ,List.getElem_cons_zero,List.setIfInBounds_toArray,List.set_cons_zero,List.set_cons_succ]
 go_wp2_with fail
 refine(HF.out _).mono ?_;rintro zz w21 ⟨v1x23,rfl,r1x24,bb22⟩;have q25:=q12.l bb22;have r26:=r18.l bb22;have b27:=aa b19 bb22;obtain⟨fo,fc,hv⟩:=r1x24.shape;subst hv;clear q17 q12 r18 b19 bb22 HF
 go_wp2_with fail
 refine(HT.out _ _ _ _ _ r26 r1x24).mono ?_;rintro zz w28 ⟨v1x30,rfl,r1x31,bb29⟩;have q32:=q25.l bb29;have b33:=aa b27 bb29;obtain⟨mo,mc,hv⟩:=r1x31.shape;subst hv;clear q25 r26 r1x24 b27 bb29 HT
 go_wp2_with fail
 refine(HS.out _ _ q32).mono ?_;rintro zz w34 ⟨v1x36,rfl,r1x37,bb35⟩;have r38:=r1x31.l bb35;have b39:=aa b33 bb35;obtain⟨go,gc,hv⟩:=r1x37.shape;subst hv;clear q32 r1x31 b33 bb35 HS
 go_wp2_with fail
 refine(HO.out _ _ _ _ _ r38 r1x37).mono ?_;rintro zz w40 ⟨v1x42,v2x43,rfl,r1x44,r2x45,bb41⟩;have b46:=aa b39 bb41;obtain⟨qo,qc,hv⟩:=r1x44.shape;subst hv;obtain⟨so,sc,hv⟩:=r2x45.shape;subst hv;clear r38 r1x37 b39 bb41 HO
 go_wp2
 go_ret2
 exact⟨_,rfl,r1x44,b46⟩
theorem tscaled_du (xg:Bool)(xn:Nat)(xo:Option Addr)(xc:Nat)(e n tw mn:Int)(F Nn qt rm:Nat)(w:World)(rx:Rd w .u32 (yT xo xn xc) (Dg.dg 4294967296 xn))(htw:IntKind.i64.wrap (e+n)=tw)(hn: ¬0<n)(ht:0<tw)(hmn:IntKind.i64.wrap (-n)=mn)
  (HF: ∀w1,yC 106 #[yi mn] w1 (NmR w1 F))
  (HS: ∀xo xc w1,Rd w1 .u32 (yT xo xn xc) (Dg.dg 4294967296 xn)→yC 91 #[yT xo xn xc,yi tw] w1 (NmR w1 Nn))
  (HO: ∀no nc fo fc w1,Rd w1 .u32 (yT no Nn nc) (Dg.dg 4294967296 Nn)→Rd w1 .u32 (yT fo F fc) (Dg.dg 4294967296 F)→yC 92 #[yT no Nn nc,yT fo F fc] w1 (TwR w1 qt rm)):
  yC 90 #[ydV xg (yT xo xn xc) e,yi n] w (NbR w qt (decide (0< (Dg.dg 4294967296 rm).length))):=by
 replace HF:Hid _:=HF;replace HS:Hid _:=HS;replace HO:Hid _:=HO;obtain⟨W3,hW4,q1,b2⟩:=cA w (ydL xg (yT xo xn xc) e) 78;replace hW4:Hid _:=hW4;have r5:=rx.l b2;clear rx
 go_enter func90,ntmps90
 go_upto_region 1 with fail
 rw[hW4.out];clear hW4
 go_upto_region 1 with fail
 have bW6:yB W3 W3.drew:=(Below.refl _ _).drew;have q7:=q1.l bW6;have r8:=r5.l bW6;have b9:=aa b2 bW6;clear q1 r5 b2 bW6;refine wp_region_held_drew (S:=fun wq=>au wq w.heap.size 78 (ydL xg (yT xo xn xc) e)) (by kernel_rfl) q7 (fun hS0=> ?_)
 generalize W3.drew=WD10 at q7 r8 b9 hS0⊢;refine tq 0 (.pointer (some ⟨w.heap.size,1,none⟩)) rfl (fun _ _=>by kernel_rfl) hS0 ?_
 refine tq 1 (yT xo xn xc) rfl (fun _ hw0=>gU 33 (.tmp 11) rfl w.heap.size 1 (by kernel_rfl) _ _ underlying33 rfl (hw0.c 1 rfl)) hS0 ?_
 refine tq 3 (.pointer (some ⟨w.heap.size,2,none⟩)) rfl (fun _ _=>by kernel_rfl) hS0 ?_
 refine tq 4 (yi e) rfl (fun _ hw0=>gU 3 (.tmp 14) rfl w.heap.size 2 (by kernel_rfl) _ _ underlying3 rfl (hw0.c 2 rfl)) hS0 ?_
 refine tq 5 (yi n) rfl (fun _ _=>by kernel_rfl) hS0 ?_
 refine tq 6 (yi tw) rfl (fun _ _=>by go_simp) hS0 ?_
 refine tq 7 (yT xo xn xc) rfl (fun _ _=>by kernel_rfl) hS0 ?_
 refine wpAnyH_ready (rs:=[2]) (by kernel_rfl) (by simp) ?_;refine AllReadyH.cons rfl (fun K hK=> ?_) AllReadyH.nil
 go_simp
 have al11:=af WD10 (.cells #[.int .u32 1] 54);have q12:=ah WD10 [.int .u32 1] 54;have hl15:w.heap.size≤WD10.heap.size:=b9.size;have hl16:=q7.lt;have q17:=q7.l al11;have r18:=r8.l al11;have b19:=aa b9 al11;refine hK.out _ _ q17 (fun hS20=> ?_)
 clear hK K;clear q7 r8 b9 al11;generalize WD10.alloc (.cells #[.int .u32 1] 54)=WN13 at q17 q12 r18 b19 hS20⊢;generalize WD10.heap.size=PQ14 at q12 hl15 hl16⊢;refine tq 8 (.slice (some ⟨PQ14,0,none⟩) 1 1) rfl (fun _ _=>by kernel_rfl) hS20 ?_
 refine tq 9 (yi tw) rfl (fun _ _=>by kernel_rfl) hS20 ?_
 refine wpAnyH_done (by kernel_rfl) ?_ _;clear hS0 hS20;simp only[Act.put,List.getElem_toArray,List.getElem_cons_succ,List.getElem_cons_zero,List.setIfInBounds_toArray,List.set_cons_zero,List.set_cons_succ]
 go_wp2_with fail
 refine(HF.out _).mono ?_;rintro zz w21 ⟨v1x23,rfl,r1x24,bb22⟩;have r25:=r18.l bb22;have b26:=aa b19 bb22;obtain⟨fo,fc,hv⟩:=r1x24.shape;subst hv;clear q17 q12 r18 b19 bb22 HF
 go_wp2_with fail
 refine(HS.out _ _ _ r25).mono ?_;rintro zz w27 ⟨v1x29,rfl,r1x30,bb28⟩;have r31:=r1x24.l bb28;have b32:=aa b26 bb28;obtain⟨no,nc,hv⟩:=r1x30.shape;subst hv;clear r25 r1x24 b26 bb28 HS
 go_wp2_with fail
 refine(HO.out _ _ _ _ _ r1x30 r31).mono ?_;rintro zz w33 ⟨v1x35,v2x36,rfl,r1x37,r2x38,bb34⟩;have b39:=aa b32 bb34;obtain⟨qo,qc,hv⟩:=r1x37.shape;subst hv;obtain⟨so,sc,hv⟩:=r2x38.shape;subst hv;clear r31 r1x30 b32 bb34 HO
 go_wp2
 go_ret2
 exact⟨_,rfl,r1x37,b39⟩
theorem tscaled_dd (xg:Bool)(xn:Nat)(xo:Option Addr)(xc:Nat)(e n tw mn mt:Int)(F Dn qt rm:Nat)(w:World)(rx:Rd w .u32 (yT xo xn xc) (Dg.dg 4294967296 xn))(htw:IntKind.i64.wrap (e+n)=tw)(hn: ¬0<n)(ht: ¬0<tw)(hmn:IntKind.i64.wrap (-n)=mn)(hmt:IntKind.i64.wrap (-tw)=mt)
  (HF: ∀w1,yC 106 #[yi mn] w1 (NmR w1 F))
  (HS: ∀fo fc w1,Rd w1 .u32 (yT fo F fc) (Dg.dg 4294967296 F)→yC 91 #[yT fo F fc,yi mt] w1 (NmR w1 Dn))
  (HO: ∀xo xc go gc w1,Rd w1 .u32 (yT xo xn xc) (Dg.dg 4294967296 xn)→Rd w1 .u32 (yT go Dn gc) (Dg.dg 4294967296 Dn)→yC 92 #[yT xo xn xc,yT go Dn gc] w1 (TwR w1 qt rm)):
  yC 90 #[ydV xg (yT xo xn xc) e,yi n] w (NbR w qt (decide (0< (Dg.dg 4294967296 rm).length))):=by
 replace HF:Hid _:=HF;replace HS:Hid _:=HS;replace HO:Hid _:=HO;obtain⟨W3,hW4,q1,b2⟩:=cA w (ydL xg (yT xo xn xc) e) 78;replace hW4:Hid _:=hW4;have r5:=rx.l b2;clear rx
 go_enter func90,ntmps90
 go_upto_region 1 with fail
 rw[hW4.out];clear hW4
 go_upto_region 1 with fail
 have bW6:yB W3 W3.drew:=(Below.refl _ _).drew;have q7:=q1.l bW6;have r8:=r5.l bW6;have b9:=aa b2 bW6;clear q1 r5 b2 bW6;refine wp_region_held_drew (S:=fun wq=>au wq w.heap.size 78 (ydL xg (yT xo xn xc) e)) (by kernel_rfl) q7 (fun hS0=> ?_)
 generalize W3.drew=WD10 at q7 r8 b9 hS0⊢;refine tq 0 (.pointer (some ⟨w.heap.size,1,none⟩)) rfl (fun _ _=>by kernel_rfl) hS0 ?_
 refine tq 1 (yT xo xn xc) rfl (fun _ hw0=>gU 33 (.tmp 11) rfl w.heap.size 1 (by kernel_rfl) _ _ underlying33 rfl (hw0.c 1 rfl)) hS0 ?_
 refine tq 3 (.pointer (some ⟨w.heap.size,2,none⟩)) rfl (fun _ _=>by kernel_rfl) hS0 ?_
 refine tq 4 (yi e) rfl (fun _ hw0=>gU 3 (.tmp 14) rfl w.heap.size 2 (by kernel_rfl) _ _ underlying3 rfl (hw0.c 2 rfl)) hS0 ?_
 refine tq 5 (yi n) rfl (fun _ _=>by kernel_rfl) hS0 ?_
 refine tq 6 (yi tw) rfl (fun _ _=>by go_simp) hS0 ?_
 refine tq 7 (yT xo xn xc) rfl (fun _ _=>by kernel_rfl) hS0 ?_
 refine wpAnyH_ready (rs:=[2]) (by kernel_rfl) (by simp) ?_;refine AllReadyH.cons rfl (fun K hK=> ?_) AllReadyH.nil
 go_simp
 have al11:=af WD10 (.cells #[.int .u32 1] 54);have q12:=ah WD10 [.int .u32 1] 54;have hl15:w.heap.size≤WD10.heap.size:=b9.size;have hl16:=q7.lt;have q17:=q7.l al11;have r18:=r8.l al11;have b19:=aa b9 al11;refine hK.out _ _ q17 (fun hS20=> ?_)
 clear hK K;clear q7 r8 b9 al11;generalize WD10.alloc (.cells #[.int .u32 1] 54)=WN13 at q17 q12 r18 b19 hS20⊢;generalize WD10.heap.size=PQ14 at q12 hl15 hl16⊢;refine tq 8 (.slice (some ⟨PQ14,0,none⟩) 1 1) rfl (fun _ _=>by kernel_rfl) hS20 ?_
 refine tq 9 (yi tw) rfl (fun _ _=>by kernel_rfl) hS20 ?_
 refine wpAnyH_done (by kernel_rfl) ?_ _;clear hS0 hS20;simp only[Act.put,List.getElem_toArray,List.getElem_cons_succ,List.getElem_cons_zero,List.setIfInBounds_toArray,List.set_cons_zero,List.set_cons_succ]
 go_wp2_with fail
 refine(HF.out _).mono ?_;rintro zz w21 ⟨v1x23,rfl,r1x24,bb22⟩;have r25:=r18.l bb22;have b26:=aa b19 bb22;obtain⟨fo,fc,hv⟩:=r1x24.shape;subst hv;clear q17 q12 r18 b19 bb22 HF
 go_wp2_with fail
 refine(HS.out _ _ _ r1x24).mono ?_;rintro zz w27 ⟨v1x29,rfl,r1x30,bb28⟩;have r31:=r25.l bb28;have b32:=aa b26 bb28;obtain⟨go,gc,hv⟩:=r1x30.shape;subst hv;clear r25 r1x24 b26 bb28 HS
 go_wp2_with fail
 refine(HO.out _ _ _ _ _ r31 r1x30).mono ?_;rintro zz w33 ⟨v1x35,v2x36,rfl,r1x37,r2x38,bb34⟩;have b39:=aa b32 bb34;obtain⟨qo,qc,hv⟩:=r1x37.shape;subst hv;obtain⟨so,sc,hv⟩:=r2x38.shape;subst hv;clear r31 r1x30 b32 bb34 HO
 go_wp2
 go_ret2
 exact⟨_,rfl,r1x37,b39⟩
end Go.Proofs.YtlgkfdcmokchgaaGreatDoor
