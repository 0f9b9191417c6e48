/-
  Texts laid together: DivBy, Ref4, Dy1, Co2, Co3, Co14, Gm2, Ref7, LessF, Co20, Ce9, Co25, Cr11, Eb4, Oq1, BlM.
-/
import Derived.Test.YtddkchlamdhgcaaGreatDoorSu06
import Derived.Test.YtddkchlamdhgcaaGreatDoorSu08
import Derived.Test.YtddkchlamdhgcaaGreatDoorSu09
import Derived.Test.YtddkchlamdhgcaaGreatDoorSu11
set_option maxRecDepth 100000
set_option maxHeartbeats 6400000
namespace Go.Proofs.YtddkchlamdhgcaaGreatDoor
open _root_.Go.Proofs.Tryz
open Go.RowKit
theorem uG (g n cap base:Nat)(zs:List Nat)(d:Nat)(w:World)(ho:Own w base 135 .u32 (.slice (some ⟨g,0,none⟩) n cap) zs)(hs:Dg.Small 4294967296 zs)(hd:0<d)(hd2:d<4294967296)(hl:zs.length≤1000000):
  yC 145 #[.slice (some ⟨g,0,none⟩) n cap,.int .u32 d] w fun e w'=>
   ∃qs,e= .returned (.int .u32 ((Dg.vl 4294967296 zs % d:Nat):Int))∧Own w' base 135 .u32 (.slice (some ⟨g,0,none⟩) n cap) qs∧qs.length=zs.length∧Dg.Small 4294967296 qs∧Dg.vl 4294967296 qs=Dg.vl 4294967296 zs/d∧w.grownBy w' (some g):=by
 have hn:=ho.len;subst hn
 go_enter func145,ntmps145
 go_wp2
 go_loopw [5,6] (fun rv iv wr=> ∃(k r:Nat) (cur:List Nat),k≤zs.length∧iv=yi ((k:Int)-1)∧rv= .int .u32 r∧Own wr base 135 .u32 (.slice (some ⟨g,0,none⟩) zs.length cap) cur∧acQ zs cur d k r∧w.grownBy wr (some g))
  (fun _ iv _=>(intOf iv+1).toNat)
 case atStart=>exact⟨zs.length,0,zs,Nat.le_refl _,rfl,rfl,ho,⟨rfl,hs,hd,fun _ _=>rfl,by simp[Dg.vl]⟩,ib _ _⟩
 case round=>
  obtain⟨k,r,cur,hk,rfl,rfl,own,hI,gr⟩:=hrel
  by_cases hk0:k=0
  ·subst hk0
   go_wp2
   go_ret
   obtain⟨h1,h2,h3,h4,h5⟩:=hI;simp only[List.drop_zero] at h5;have e1:Dg.vl 4294967296 zs/d=Dg.vl 4294967296 cur:=by
    rw[h5,Nat.mul_comm,Nat.mul_add_div hd,Nat.div_eq_of_lt h3];omega
   have e2:Dg.vl 4294967296 zs % d=r:=by
    rw[h5,Nat.mul_comm,Nat.mul_add_mod,Nat.mod_eq_of_lt h3]
   exact⟨cur,by rw[e2];rfl,own,h1,h2,e1.symm,gr⟩
  ·obtain⟨m,rfl⟩: ∃m,k=m+1:=⟨k-1,by omega⟩
   have hlen:=hI.1;have hz:=own.c m (by omega);have hf:=own.f m;have hr:=hI.2.2.1;have hzs:=hs m;rw[hI.2.2.2.1 m (by omega)] at hz;obtain⟨z,ez⟩: ∃z,zs.getD m 0=z:=⟨_,rfl⟩;rw[ez] at hz hzs;have Hz:Hid _:=ez;clear ez;have hq:=I6 (t:=r*4294967296+z) hr hzs rfl
   go_wp2_with fail
   refine(Vb r z d wr hr hzs hd2).mono ?_;rintro e w1 ⟨rfl,bel⟩;have own1:=own.l bel;have hz1:=own1.c m (by omega);have hf1:=own1.f m;have gr1:=eF gr (Ew (some g) bel)
   go_wp2
   go_roundw
   case rel=>exact⟨m,_,_,by omega,by go_num,rfl,own1.store m _,Tx hI (by omega) (by rw[Hz.out]) hd hq,eF gr1 (bI _ _ _ _)⟩
   case measure=>simp[intOf]
theorem kI (va vb:Value)(xs ys:List Nat)(w:World)(ha:Rd w .i64 va xs)(hb:Rd w .i64 vb ys)(sa:Dg.Small 65536 xs)(sb:Dg.Small 65536 ys)(hla:xs.length≤2000000)(hlb:ys.length≤xs.length)(hv:Dg.vl 65536 ys≤Dg.vl 65536 xs):
  yC 23 #[va,vb] w (cG w (Dg.vl 65536 xs-Dg.vl 65536 ys)):=by
 obtain⟨ao,ca,rfl,-,-,hca⟩:=ha;obtain⟨bo,cb,rfl,-,-,hcb⟩:=hb;obtain⟨i0,hi,hz0,hz1,hz2⟩:=info_parts Tryz.infoI64;have HV:Hid _:=hv;clear hv
 go_enter func23,ntmps23
 go_wp2
 go_loopw [5,6,7] (fun ov cv iv wr=> ∃(k c:Nat) (ps:List Nat),k≤xs.length∧iv=yi k∧cv=yi c∧Own wr w.heap.size 3 .i64 ov ps∧QA xs ys ps k c∧yB w wr) (fun _ _ iv _=>xs.length-(intOf iv).toNat)
 case atStart=>exact⟨0,0,[],by omega,rfl,rfl,aQ _ _ _ _,⟨rfl,Dg.small_nil _ (by omega),by omega,by simp[Dg.vl]⟩,Below.refl _ _⟩
 case round=>
  obtain⟨k,c,ps,hk,rfl,rfl,own,hI,bel⟩:=hrel;have hcl:=hI.2.2.1;have hpl:=hI.1;have hbs:=bel.size
  by_cases hlt:k<xs.length
  ·obtain⟨b,off,rfl,hcella⟩:=hca (by omega)
   have hcell:=cell_later bel (hcella k hlt);have hxl:=sa k;have hyl:=sb k;have hy0: ¬k<ys.length→ys.getD k 0=0:=fun h=>Dg.getD_of_le _ _ (by omega)
   have hst: ∀d c',d<65536→c'≤1→xs.getD k 0+65536*c'=d+ys.getD k 0+c→QA xs ys (ps++[d]) (k+1) c':=fun d c' h1 h2 h3=>I1 hI h1 h2 h3
   have hcy:k<ys.length→ ∃b off,bo=some ⟨b,off,none⟩∧wr.cell? ⟨b,off+k,none⟩=some (yi ((ys.getD k 0:Nat):Int)):=fun h=>by
    obtain⟨b,off,e,hcell⟩:=hcb (by omega);exact⟨b,off,e,cell_later bel (hcell k h)⟩
   obtain⟨x,ex⟩: ∃x,xs.getD k 0=x:=⟨_,rfl⟩;obtain⟨y,ey⟩: ∃y,ys.getD k 0=y:=⟨_,rfl⟩;rw[ex] at hxl hst hcell;rw[ey] at hyl hy0 hst hcy;have Hst:Hid _:=hst;have Hpl:Hid _:=hpl;have hpl2:ps.length≤2000000:=by omega
   clear ex ey hca hcb hI hst hpl hcella;have fin: ∀(T:Int) (d:Nat),T=((d:Nat):Int)→ ∀v' w3,w3.ownsRow w.heap.size 3 1 v' (ps.length+1) ((ps.map (fun n:Nat=>Value.int .i64 (n:Int)))++[yi T])→(wr.alloc (.cells #[yi T] 3)).grownBy w3 (Value.ownBlock u5)→
     Own w3 w.heap.size 3 .i64 v' (ps++[d])∧yB w w3:=by
    intro T d hT v' w3 h1 h2;rw[hT] at h1 h2;exact iW bel own h1 h2
   by_cases h2:k<ys.length
   ·obtain⟨b2,off2,rfl,hcell2⟩:=hcy h2
    clear hcy hy0
    by_cases hneg:x<y+c
    ·have hneg2:((x:Int)-(c:Int)-(y:Int))<0:=by omega
     go_wp2_with (at_builtin;refine wpList_append_own _ rfl _ _ 28 rfl w.heap.size 3 i0 (yi 0) 1 8 underlying28 hi hz0 hz1 hz2 rfl (by decide) _ _ _ rfl (World.ownsRow.alloc own _) ⟨wr.heap.size,0,none⟩ 1 1 [yi ((x:Int)-(c:Int)-(y:Int)+65536)] rfl rfl ?c1 ?c2 ?c3 ?c4 ?c5 ?_)
     try (case c1=>exact cell_one_new _ _ _)
     case c2=>first|rfl| (intro u hu;simp at hu;subst hu;rfl)| (simp;done)| (simp[Value.oneCell'];done)| (trace_state;fail)
     case c3=>unfold maxLen;omega
     case c4=>omega
     case c5=>first|omega| (simp;omega)
     intro v' w3 hown' hgrow _;have R:=fin _ (x+65536-y-c) (by omega) v' w3 hown' hgrow;clear hown' hgrow own fin
     go_wp2
     go_roundw
     case rel=>exact⟨k+1,1,_,by omega,by go_num,by go_num,R.1,Hst.out _ _ (by omega) (by omega) (by omega),R.2⟩
     case measure=>simp[intOf];omega
    ·have hneg2: ¬((x:Int)-(c:Int)-(y:Int))<0:=by omega
     go_wp2_with (at_builtin;refine wpList_append_own _ rfl _ _ 28 rfl w.heap.size 3 i0 (yi 0) 1 8 underlying28 hi hz0 hz1 hz2 rfl (by decide) _ _ _ rfl (World.ownsRow.alloc own _) ⟨wr.heap.size,0,none⟩ 1 1 [yi ((x:Int)-(c:Int)-(y:Int))] rfl rfl ?d1 ?d2 ?d3 ?d4 ?d5 ?_)
     try (case d1=>exact cell_one_new _ _ _)
     case d2=>first|rfl| (intro u hu;simp at hu;subst hu;rfl)| (simp;done)| (simp[Value.oneCell'];done)| (trace_state;fail)
     case d3=>unfold maxLen;omega
     case d4=>omega
     case d5=>first|omega| (simp;omega)
     intro v' w3 hown' hgrow _;have R:=fin _ (x-y-c) (by omega) v' w3 hown' hgrow;clear hown' hgrow own fin
     go_wp2
     go_roundw
     case rel=>exact⟨k+1,0,_,by omega,by go_num,by go_num,R.1,Hst.out _ _ (by omega) (by omega) (by omega),R.2⟩
     case measure=>simp[intOf];omega
   ·have hy:=hy0 h2
    subst hy;clear hcy hy0
    by_cases hneg:x<c
    ·have hneg2:((x:Int)-(c:Int))<0:=by omega
     go_wp2_with (at_builtin;refine wpList_append_own _ rfl _ _ 28 rfl w.heap.size 3 i0 (yi 0) 1 8 underlying28 hi hz0 hz1 hz2 rfl (by decide) _ _ _ rfl (World.ownsRow.alloc own _) ⟨wr.heap.size,0,none⟩ 1 1 [yi ((x:Int)-(c:Int)+65536)] rfl rfl ?e1 ?e2 ?e3 ?e4 ?e5 ?_)
     try (case e1=>exact cell_one_new _ _ _)
     case e2=>first|rfl| (intro u hu;simp at hu;subst hu;rfl)| (simp;done)| (simp[Value.oneCell'];done)| (trace_state;fail)
     case e3=>unfold maxLen;omega
     case e4=>omega
     case e5=>first|omega| (simp;omega)
     intro v' w3 hown' hgrow _;have R:=fin _ (x+65536-c) (by omega) v' w3 hown' hgrow;clear hown' hgrow own fin
     go_wp2
     go_roundw
     case rel=>exact⟨k+1,1,_,by omega,by go_num,by go_num,R.1,Hst.out _ _ (by omega) (by omega) (by omega),R.2⟩
     case measure=>simp[intOf];omega
    ·have hneg2: ¬((x:Int)-(c:Int))<0:=by omega
     go_wp2_with (at_builtin;refine wpList_append_own _ rfl _ _ 28 rfl w.heap.size 3 i0 (yi 0) 1 8 underlying28 hi hz0 hz1 hz2 rfl (by decide) _ _ _ rfl (World.ownsRow.alloc own _) ⟨wr.heap.size,0,none⟩ 1 1 [yi ((x:Int)-(c:Int))] rfl rfl ?f1 ?f2 ?f3 ?f4 ?f5 ?_)
     try (case f1=>exact cell_one_new _ _ _)
     case f2=>first|rfl| (intro u hu;simp at hu;subst hu;rfl)| (simp;done)| (simp[Value.oneCell'];done)| (trace_state;fail)
     case f3=>unfold maxLen;omega
     case f4=>omega
     case f5=>first|omega| (simp;omega)
     intro v' w3 hown' hgrow _;have R:=fin _ (x-c) (by omega) v' w3 hown' hgrow;clear hown' hgrow own fin
     go_wp2
     go_roundw
     case rel=>exact⟨k+1,0,_,by omega,by go_num,by go_num,R.1,Hst.out _ _ (by omega) (by omega) (by omega),R.2⟩
     case measure=>simp[intOf];omega
  ·have hke:k=xs.length:=by omega
   subst hke;have hen:=Nl hI hlb HV.out;have hps:=hI.2.1;have hpl2:ps.length≤2000000:=by omega
   clear hpl;obtain⟨oo,oc,rfl⟩:=own.rd.shape
   go_wp2_with fail
   refine(i9 _ _ _ _ _ own.rd).mono ?_;rintro e w' ⟨n,rfl,hn,rfl⟩;have hnl:=hn.1;have hr:=uE (cap':=n) 65536 (by omega) own.rd hps hn (Nat.le_refl _) (by unfold maxLen;omega);rw[hen] at hr;clear hn hen
   go_wp2
   go_ret
   exact⟨_,rfl,hr,bel⟩
theorem Gl (v:Value)(n:Nat)(w:World)(hv:Rd w .u32 v (Dg.dg 4294967296 n))(hL:(Dg.dg 4294967296 n).length≤1000000)(hT:Tab w):
  yC 150 #[v] w fun e w'=>e= .returned (yi ((if n=0 then 0 else tz n:Nat):Int))∧w'=w:=by
 have hs:=Dg.small_dg 4294967296 n (by omega);have hvl:=Dg.vl_dg 4294967296 n (by omega);have hz:(∀j,(Dg.dg 4294967296 n).getD j 0=0)→n=0:=fun h=>by rw[←hvl];exact Dg.vl_zeros _ _ h
 obtain⟨xs,hx⟩: ∃xs,Dg.dg 4294967296 n=xs:=⟨_,rfl⟩;rw[hx] at hv hs hvl hz hL;obtain⟨ao,ca,rfl⟩:=hv.shape;obtain⟨hlc,hm,hcb⟩:=iQ hv;have HZ:Hid (∀k,xs.length≤k→(∀j,j<k→xs.getD j 0=0)→n=0):=fun k hk h=>hz (fun j=>by
  by_cases hj:j<k
  ·exact h j hj
  ·simp[List.getD_eq_getElem?_getD,show xs.length≤j from by omega])
 have HN:Hid _:=hvl;clear hx hz hvl hv
 go_enter func150,ntmps150
 go_wp2
 go_loop [7] (fun iv=> ∃k:Nat,k≤xs.length∧iv=yi k∧Hid (∀j,j<k→xs.getD j 0=0)) (fun iv=>xs.length-(intOf iv).toNat)
 case atStart=>exact⟨0,Nat.zero_le _,rfl,fun j hj=>absurd hj (Nat.not_lt_zero j)⟩
 case round=>
  obtain⟨k,hk,rfl,hzk⟩:=hrel
  by_cases hlt:k<xs.length
  ·obtain⟨b,off,rfl,hcell⟩:=hcb (by omega)
   have hc:=hcell k hlt;have hl:=hs k;obtain⟨x,hx⟩: ∃x,xs.getD k 0=x:=⟨_,rfl⟩;rw[hx] at hc hl;have HX:Hid _:=hx;clear hx hcell hcb
   by_cases hx0:x=0
   ·subst hx0
    go_wp2
    go_round
    case rel=>exact⟨k+1,by omega,by go_num,fun j hj=>by
     by_cases e:j=k
     ·rw[e];exact HX.out
     ·exact hzk.out j (by omega)⟩
    case measure=>simp[intOf];omega
   ·have ht:=Zw x w hl hx0 hT
    have h0:((x:Int)==0)=false:=by simp;exact hx0
    go_wp2_with fail
    refine ht.mono ?_;rintro e w' ⟨t,m,rfl,hxm,htl,rfl⟩;have e1:=Zx xs k t m hlt hzk.out (by rw[HX.out];exact hxm) htl;rw[HN.out] at e1;have hn0:n≠0:=by
     intro e;have h2:=adl 4294967296 xs k (by omega) hs (by rw[HN.out];exact e);rw[HX.out] at h2;exact hx0 h2
    clear ht hxm
    go_wp2
    go_ret
    refine⟨?_,rfl⟩
    first|rfl| (rw[e1];rfl)| (simp only[e1];rfl)| (show Ending.returned (Value.int IntKind.i64 (32*(k:Int)+(t:Int)))=_;rw[e1];rfl)
  ·have hn0:=HZ.out k (by omega) hzk.out
   go_wp2
   go_ret
   subst hn0;exact⟨rfl,rfl⟩
set_option maxRecDepth 20000 in
theorem jG (w:World):yC 81 #[] w (yR w (.agg Ar.toArray)):=by
 have l0:au (w.alloc (.cells Tryz.zeroCells160 160)) w.heap.size 160 Tryz.zeroCells160.toList:=by
  have:=ah w Tryz.zeroCells160.toList 160
  rwa [Array.toArray_toList] at this
 have th:=l0.there 81 (by kernel_rfl);have cR:=l0.sets Ar (by kernel_rfl);have bu:=de w.heap.size Ar 0 (w.alloc (.cells Tryz.zeroCells160 160));have bR:=bu.below (af w (.cells Tryz.zeroCells160 160)) (Nat.le_refl _);have hl:=run_loadVar_mid (P:=Tryz.prog) _ w.heap.size 0 160 Ar _ cR.range underlying160 rfl (by kernel_rfl);have HH:Hid (_∧_):=⟨hl,bR⟩;clear hl bR cR bu l0
 go_enter func81,ntmps81
 go_wp2_with (refine wpList_store_mid rfl 160 (.tmp 0) (.tmp 28) rfl w.heap.size 0 #[yi 0,yi 0,yi 0,yi 0,.bool false,yi 0,yi 0,yi 0,.nilFunc,yi 2,yi 24,yi (-149),yi 104,.bool true,yi 4,yi 8,yi 1,.func (.func 117) #[] #[],yi 2,yi 53,yi (-1074),yi 971,.bool true,yi 8,yi 11,yi 1,.func (.func 117) #[] #[],yi 2,yi 64,yi (-16445),yi 16320,.bool true,yi 10,yi 15,yi 1,.func (.func 118) #[] #[],yi 16,yi 6,yi (-70),yi 57,.bool false,yi 4,yi 7,yi 2,.func (.func 117) #[] #[],yi 16,yi 14,yi (-78),yi 49,.bool false,yi 8,yi 7,yi 2,.func (.func 117) #[] #[],yi 2,yi 24,yi (-151),yi 103,.bool false,yi 4,yi 8,yi 3,.func (.func 120) #[] #[],yi 2,yi 56,yi (-183),yi 71,.bool false,yi 8,yi 8,yi 3,.func (.func 120) #[] #[],yi 2,yi 53,yi (-1076),yi 970,.bool false,yi 8,yi 11,yi 3,.func (.func 120) #[] #[]] rfl rfl th (by kernel_rfl) (by simp[Value.oneCell']) ?_)
 change bodyPost _ _ _ _ _ (World.setCells (w.alloc (.cells Tryz.zeroCells160 160)) w.heap.size 0 Ar);obtain⟨hl,bR⟩:=HH.out;generalize World.setCells (w.alloc (.cells Tryz.zeroCells160 160)) w.heap.size 0 Ar=W at hl bR⊢;exact bodyPost_ret (v:= .agg Ar.toArray) (br results81 rfl hl) rfl ⟨rfl,bR⟩
theorem lR (n:Int)(w:World)(h:dK n=0):yC 57 #[yi n] w (tC w 0 6):=by
 have hf:=jk n;rw[h] at hf;have HF:Hid _:=hf;clear hf h;have l0:=ah w (yzL 0 0 0 0 false 0 0 0) 116;have hsn:=gn;have b0:=af w (.cells (yzA 0 0 0 0 false 0 0 0) 116);have hl:=run_loadVar_mid (P:=Tryz.prog) _ w.heap.size 0 116 (tS 0) _ l0.range underlying116 rfl (by kernel_rfl);have HH:Hid (_∧_):=⟨hl,b0⟩;clear hl b0 l0
 go_enter func57,ntmps57
 go_wp2_with fail
 refine(HF.out _).mono ?_;rintro z w' ⟨rfl,rfl⟩
 go_wp2
 obtain⟨hl,bR⟩:=HH.out;exact bodyPost_ret (aj results57 rfl rfl hl) rfl ⟨rfl,bR⟩
theorem S5 {k:Nat}(s:ByteArray):aR k s<2^exN k:=gh _ _ _
theorem GM {k:Nat}(hk:1≤k∧k≤8)(s:ByteArray):aR k s<65536:=by
 have h1:=S5 (k:=k) s;have h2:(2:Nat)^exN k≤2^15:=Nat.pow_le_pow_right (by omega) (fZ hk).2.1;omega
theorem S6 {k:Nat}(s:ByteArray):aU k s<2^frN k:=gh _ _ _
theorem vW {k:Nat}(hk:1≤k∧k≤8)(s:ByteArray):aU k s<18446744073709551616:=by
 have h1:=S6 (k:=k) s;have h2:(2:Nat)^frN k≤2^64:=Nat.pow_le_pow_right (by omega) (fZ hk).2.2.2.1;omega
def inR (R D L G:Int)(gr:Bool)(m:Nat)(e:Int):Bool:=
 decide (m=0∨((ai R:Int)*L≤e∧e+(bitLen m:Int)≤(ai R:Int)*(G+D)∧(gr=true∨L≤aT R D (e+(bitLen m:Int)-1))∧(ai R:Int)*max L (aT R D (e+(bitLen m:Int)-1))≤e))
theorem IU (va:Value)(xs:List Nat)(vb:Value)(d:Nat)(w:World)(ha:Rd w .i64 va xs)(hb:Rd w .i64 vb [d])(sa:Dg.Small 65536 xs)(hla:xs.length≤1000000)(hd0:0<d)(hd:d<65536):
  yC 66 #[va,vb] w fun e w'=> ∃vq vr,e= .returned (.tuple #[vq,vr])∧Rd w' .i64 vq (Dg.dg 65536 (Dg.vl 65536 xs/d))∧Rd w' .i64 vr (Dg.dg 65536 (Dg.vl 65536 xs % d))∧yB w w':=by
 obtain⟨i0,hi,hz0,hz1,hz2⟩:=info_parts Tryz.infoI64;obtain⟨ao,ca,rfl,-,-,hca⟩:=ha;obtain⟨bo,cb,rfl,-,-,hcb⟩:=hb;obtain⟨bb,boff,rfl,hcellb⟩:=hcb (by simp);have hcb0:=hcellb 0 (by simp);simp only[List.getD_cons_zero,Nat.add_zero] at hcb0;have hlen1:([d]:List Nat).length=1:=rfl;rw[hlen1];clear hcellb hcb hlen1
 go_enter func66,ntmps66
 go_wp2_with (at_make;refine wpList_make_full _ rfl _ _ 28 rfl w.heap.size 3 i0 (yi 0) 1 underlying28 hi hz0 hz1 _ _ _ _ xs.length rfl rfl (by omega) (by omega) ?b2 ?b3 (Nat.le_refl _) ?_)
 case b2=>rw[hz2];omega
 case b3=>unfold maxLen;omega
 intro w0 hown0 hgrow0;have own0:=gL hown0;have bel0:yB w w0:=(Below.refl _ _).grown hgrow0 (Nat.le_refl _) (fun k h=>by cases h)
 clear hown0 hgrow0
 go_wp2
 go_loopw [7,8] (fun rv iv wr=> ∃(k r:Nat) (cur:List Nat),k≤xs.length∧iv=yi ((k:Int)-1)∧rv=yi r∧Own wr w.heap.size 3 .i64 (.slice (some ⟨w.heap.size,0,none⟩) xs.length xs.length) cur∧X9 xs cur d k r∧yB w wr)
  (fun _ iv _=>(intOf iv+1).toNat)
 case atStart=>exact⟨xs.length,0,_,Nat.le_refl _,rfl,rfl,own0,⟨by simp,Dg.small_replicate _ _ (by omega),hd0,by simp[Dg.vl]⟩,bel0⟩
 case round=>
  clear own0 bel0;obtain⟨k,r,cur,hk,rfl,rfl,own,hI,bel⟩:=hrel;have hlen:=hI.1;have hr:=hI.2.2.1
  by_cases hk0:k=0
  ·subst hk0
   obtain⟨h1,h2,h3,h5⟩:=hI;simp only[List.drop_zero] at h5;have e1:Dg.vl 65536 xs/d=Dg.vl 65536 cur:=by
    rw[h5,Nat.mul_comm,Nat.mul_add_div hd0,Nat.div_eq_of_lt h3];omega
   have e2:Dg.vl 65536 xs % d=r:=by
    rw[h5,Nat.mul_comm,Nat.mul_add_mod,Nat.mod_eq_of_lt h3]
   have HE1:Hid (Dg.vl 65536 xs/d=Dg.vl 65536 cur):=e1;have HE2:Hid (Dg.vl 65536 xs % d=r):=e2;have hcl:cur.length≤1000000:=by omega
   clear h5 e1 e2 hlen h1
   go_wp2_with fail
   refine(i9 _ _ _ cur _ own.rd).mono ?_;rintro e w' ⟨m,rfl,hm,rfl⟩;have rq:=xh own h2 hm (by omega);have a1:Below w'.heap.size w' (w'.alloc (.cells #[yi r] 3)):=(Below.refl _ _).alloc (Nat.le_refl _) _;have r1:=cE (w:=w') (k:= .i64) (e:=3) [r] #[yi r] rfl (by unfold maxLen;simp)
   go_wp2_with fail
   refine(i9 _ _ _ [r] _ r1).mono ?_;rintro e w2 ⟨m2,rfl,hm2,rfl⟩;have hml:=hm2.1;simp only[List.length_cons,List.length_nil] at hml;have rr:=uE (cap':=m2) 65536 (by omega) r1 (Dg.small_cons.2 ⟨by omega,Dg.small_nil _ (by omega)⟩) hm2 (Nat.le_refl _) (by unfold maxLen;omega);have ev:Dg.vl 65536 [r]=r:=by simp[Dg.vl]
   rw[ev] at rr;have rq2:=rq.l a1;have bel2:=aa bel a1;clear hm hm2 r1 ev
   go_wp2
   go_ret2
   exact⟨_,_,rfl,by rw[HE1.out];exact rq2,by rw[HE2.out];exact rr,bel2⟩
  ·obtain⟨m,rfl⟩: ∃m,k=m+1:=⟨k-1,by omega⟩
   obtain⟨b,off,rfl,hcell⟩:=hca (by omega);have hx:=cell_later bel (hcell m (by omega));have hbb:=cell_later bel hcb0;have hxl:=sa m;have hq:=own.c m (by omega);have hf:=own.f m;obtain⟨x,ex⟩: ∃x,xs.getD m 0=x:=⟨_,rfl⟩;rw[ex] at hx hxl;have hql:=M8 (t:=65536*r+x) hr hxl rfl;have hst:=Qp hI (by omega) (by rw[ex]) hd0 hql;have hrl:(65536*r+x) % d<d:=Nat.mod_lt _ hd0;obtain⟨t,ht⟩: ∃t,65536*r+x=t:=⟨_,rfl⟩;have htl:t<4294967296:=by omega
   rw[ht] at hst hql hrl;have htI:65536*(r:Int)+(x:Int)=(t:Int):=by omega
   obtain⟨q1,hq1⟩: ∃q1,t/d=q1:=⟨_,rfl⟩;obtain⟨m1,hm1⟩: ∃m1,t % d=m1:=⟨_,rfl⟩;have e1:(t:Int).tdiv d=(q1:Int):=by rw[Int.tdiv_eq_ediv_of_nonneg (by omega),←hq1];exact(Int.natCast_ediv t d).symm
   have e2:(t:Int).tmod d=(m1:Int):=by rw[Int.tmod_eq_emod_of_nonneg (by omega),←hm1];exact(Int.natCast_emod t d).symm
   have e3:(t:Int)/(d:Int)=(q1:Int):=by rw[←hq1];exact(Int.natCast_ediv t d).symm
   have e4:(t:Int) % (d:Int)=(m1:Int):=by rw[←hm1];exact(Int.natCast_emod t d).symm
   rw[hq1] at hst hql;rw[hm1] at hst hrl;have e5:IntKind.i64.wrap (q1:Int)=(q1:Int):=IntWalk.i64_in _ ⟨by omega,by omega⟩;have hdne:((d:Int)==0)=false:=by simp;omega
   clear ex hcell hca hI hq1 hm1 ht hlen
   go_wp2
   go_region
   all_goals go_wp2
   all_goals go_roundw
   case rel=>exact⟨m,_,_,by omega,by go_num,rfl,Own.l (own.store m _) (Below.drew (Below.refl _ _)),hst,(bel.setCell (by exact Nat.le_refl _) _).drew⟩
   case measure=>simp[intOf]
theorem Lt (va vb:Value)(xs ys:List Nat)(w:World)(ha:Rd w .i64 va xs)(hb:Rd w .i64 vb ys)(sa:Dg.Small 65536 xs)(sb:Dg.Small 65536 ys)(hla:xs.length≤2000000)(hlb:ys.length≤xs.length)(hv:Dg.vl 65536 ys≤Dg.vl 65536 xs):
  yC 23 #[va,vb] w (Si w (Dg.vl 65536 xs-Dg.vl 65536 ys)):=by
 obtain⟨ao,ca,rfl,-,-,hca⟩:=ha;obtain⟨bo,cb,rfl,-,-,hcb⟩:=hb;obtain⟨i0,hi,hz0,hz1,hz2⟩:=info_parts Tryz.infoI64;have HV:Hid (Dg.vl 65536 ys≤Dg.vl 65536 xs):=hv;clear hv
 go_enter func23,ntmps23
 go_wp2
 go_loopw [5,6,7] (fun ov cv iv wr=> ∃(k c:Nat) (ps:List Nat),k≤xs.length∧iv=yi k∧cv=yi c∧Own wr w.heap.size 3 .i64 ov ps∧QA xs ys ps k c∧yB w wr) (fun _ _ iv _=>xs.length-(intOf iv).toNat)
 case atStart=>exact⟨0,0,[],by omega,rfl,rfl,aQ _ _ _ _,⟨rfl,Dg.small_nil _ (by omega),by omega,by simp[Dg.vl]⟩,Below.refl _ _⟩
 case round=>
  obtain⟨k,c,ps,hk,rfl,rfl,own,hI,bel⟩:=hrel;have hcl:=hI.2.2.1;have hpl:=hI.1;have hbs:=bel.size
  by_cases hlt:k<xs.length
  ·obtain⟨b,off,rfl,hcella⟩:=hca (by omega)
   have hcell:=cell_later bel (hcella k hlt);have hxl:=sa k;have hyl:=sb k;have hy0: ¬k<ys.length→ys.getD k 0=0:=fun h=>Dg.getD_of_le _ _ (by omega)
   have hst: ∀d c',d<65536→c'≤1→xs.getD k 0+65536*c'=d+ys.getD k 0+c→QA xs ys (ps++[d]) (k+1) c':=fun d c' h1 h2 h3=>I1 hI h1 h2 h3
   have hcy:k<ys.length→ ∃b off,bo=some ⟨b,off,none⟩∧wr.cell? ⟨b,off+k,none⟩=some (yi ((ys.getD k 0:Nat):Int)):=fun h=>by
    obtain⟨b,off,e,hcell⟩:=hcb (by omega);exact⟨b,off,e,cell_later bel (hcell k h)⟩
   obtain⟨x,ex⟩: ∃x,xs.getD k 0=x:=⟨_,rfl⟩;obtain⟨y,ey⟩: ∃y,ys.getD k 0=y:=⟨_,rfl⟩;rw[ex] at hxl hst hcell;rw[ey] at hyl hy0 hst hcy;have Hst:Hid _:=hst;have Hpl:Hid (ps.length=k):=hpl;have hpl2:ps.length≤2000000:=by omega
   clear ex ey hca hcb hI hst hpl hcella;have fin: ∀(T:Int) (d:Nat),T=((d:Nat):Int)→ ∀v' w3,w3.ownsRow w.heap.size 3 1 v' (ps.length+1) ((ps.map (fun n:Nat=>Value.int .i64 (n:Int)))++[yi T])→(wr.alloc (.cells #[yi T] 3)).grownBy w3 (Value.ownBlock u5)→
     Own w3 w.heap.size 3 .i64 v' (ps++[d])∧yB w w3:=by
    intro T d hT v' w3 h1 h2;rw[hT] at h1 h2;exact iW bel own h1 h2
   by_cases h2:k<ys.length
   ·obtain⟨b2,off2,rfl,hcell2⟩:=hcy h2
    clear hcy hy0
    by_cases hneg:x<y+c
    ·have hneg2:((x:Int)-(c:Int)-(y:Int))<0:=by omega
     go_wp2_with (at_builtin;refine wpList_append_own _ rfl _ _ 28 rfl w.heap.size 3 i0 (yi 0) 1 8 underlying28 hi hz0 hz1 hz2 rfl (by decide) _ _ _ rfl (World.ownsRow.alloc own _) ⟨wr.heap.size,0,none⟩ 1 1 [yi ((x:Int)-(c:Int)-(y:Int)+65536)] rfl rfl ?c1 ?c2 ?c3 ?c4 ?c5 ?_)
     try (case c1=>exact cell_one_new _ _ _)
     case c2=>first|rfl| (intro u hu;simp at hu;subst hu;rfl)| (simp;done)| (simp[Value.oneCell'];done)| (trace_state;fail)
     case c3=>unfold maxLen;omega
     case c4=>omega
     case c5=>first|omega| (simp;omega)
     intro v' w3 hown' hgrow _;have R:=fin _ (x+65536-y-c) (by omega) v' w3 hown' hgrow;clear hown' hgrow own fin
     go_wp2
     go_roundw
     case rel=>exact⟨k+1,1,_,by omega,by go_num,by go_num,R.1,Hst.out _ _ (by omega) (by omega) (by omega),R.2⟩
     case measure=>simp[intOf];omega
    ·have hneg2: ¬((x:Int)-(c:Int)-(y:Int))<0:=by omega
     go_wp2_with (at_builtin;refine wpList_append_own _ rfl _ _ 28 rfl w.heap.size 3 i0 (yi 0) 1 8 underlying28 hi hz0 hz1 hz2 rfl (by decide) _ _ _ rfl (World.ownsRow.alloc own _) ⟨wr.heap.size,0,none⟩ 1 1 [yi ((x:Int)-(c:Int)-(y:Int))] rfl rfl ?d1 ?d2 ?d3 ?d4 ?d5 ?_)
     try (case d1=>exact cell_one_new _ _ _)
     case d2=>first|rfl| (intro u hu;simp at hu;subst hu;rfl)| (simp;done)| (simp[Value.oneCell'];done)| (trace_state;fail)
     case d3=>unfold maxLen;omega
     case d4=>omega
     case d5=>first|omega| (simp;omega)
     intro v' w3 hown' hgrow _;have R:=fin _ (x-y-c) (by omega) v' w3 hown' hgrow;clear hown' hgrow own fin
     go_wp2
     go_roundw
     case rel=>exact⟨k+1,0,_,by omega,by go_num,by go_num,R.1,Hst.out _ _ (by omega) (by omega) (by omega),R.2⟩
     case measure=>simp[intOf];omega
   ·have hy:=hy0 h2
    subst hy;clear hcy hy0
    by_cases hneg:x<c
    ·have hneg2:((x:Int)-(c:Int))<0:=by omega
     go_wp2_with (at_builtin;refine wpList_append_own _ rfl _ _ 28 rfl w.heap.size 3 i0 (yi 0) 1 8 underlying28 hi hz0 hz1 hz2 rfl (by decide) _ _ _ rfl (World.ownsRow.alloc own _) ⟨wr.heap.size,0,none⟩ 1 1 [yi ((x:Int)-(c:Int)+65536)] rfl rfl ?e1 ?e2 ?e3 ?e4 ?e5 ?_)
     try (case e1=>exact cell_one_new _ _ _)
     case e2=>first|rfl| (intro u hu;simp at hu;subst hu;rfl)| (simp;done)| (simp[Value.oneCell'];done)| (trace_state;fail)
     case e3=>unfold maxLen;omega
     case e4=>omega
     case e5=>first|omega| (simp;omega)
     intro v' w3 hown' hgrow _;have R:=fin _ (x+65536-c) (by omega) v' w3 hown' hgrow;clear hown' hgrow own fin
     go_wp2
     go_roundw
     case rel=>exact⟨k+1,1,_,by omega,by go_num,by go_num,R.1,Hst.out _ _ (by omega) (by omega) (by omega),R.2⟩
     case measure=>simp[intOf];omega
    ·have hneg2: ¬((x:Int)-(c:Int))<0:=by omega
     go_wp2_with (at_builtin;refine wpList_append_own _ rfl _ _ 28 rfl w.heap.size 3 i0 (yi 0) 1 8 underlying28 hi hz0 hz1 hz2 rfl (by decide) _ _ _ rfl (World.ownsRow.alloc own _) ⟨wr.heap.size,0,none⟩ 1 1 [yi ((x:Int)-(c:Int))] rfl rfl ?f1 ?f2 ?f3 ?f4 ?f5 ?_)
     try (case f1=>exact cell_one_new _ _ _)
     case f2=>first|rfl| (intro u hu;simp at hu;subst hu;rfl)| (simp;done)| (simp[Value.oneCell'];done)| (trace_state;fail)
     case f3=>unfold maxLen;omega
     case f4=>omega
     case f5=>first|omega| (simp;omega)
     intro v' w3 hown' hgrow _;have R:=fin _ (x-c) (by omega) v' w3 hown' hgrow;clear hown' hgrow own fin
     go_wp2
     go_roundw
     case rel=>exact⟨k+1,0,_,by omega,by go_num,by go_num,R.1,Hst.out _ _ (by omega) (by omega) (by omega),R.2⟩
     case measure=>simp[intOf];omega
  ·have hke:k=xs.length:=by omega
   subst hke;have hen:=Nl hI hlb HV.out;have hps:=hI.2.1;have hpl2:ps.length≤2000000:=by omega
   clear hpl;obtain⟨oo,oc,rfl⟩:=own.rd.shape
   go_wp2_with fail
   refine(i9 _ _ _ _ _ own.rd).mono ?_;rintro e w' ⟨n,rfl,hn,rfl⟩;have hnl:=hn.1;have hr:=uE (cap':=n) 65536 (by omega) own.rd hps hn (Nat.le_refl _) (by unfold maxLen;omega);rw[hen] at hr;clear hn hen
   go_wp2
   go_ret
   exact⟨_,rfl,hr,LP (JH own) n n,bel⟩
theorem Qa (k c:Nat)(hk:1≤k∧k≤8)(hc:c=1∨c=3∨c=4∨c=5)(w:World):
  yC 85 #[.agg (tS k).toArray,yi c] w (yR w (.bool (Bk k c))):=by
 rcases bO hk with rfl|rfl|rfl|rfl|rfl|rfl|rfl|rfl
 all_goals rcases hc with rfl|rfl|rfl|rfl
 all_goals first
  |exact MQ _ _ _ _ _ _ _ _ _ _ _ _ true w rfl rfl rfl
  |exact MQ _ _ _ _ _ _ _ _ _ _ _ _ false w rfl rfl rfl
theorem ME {k:Nat}(hk:1≤k∧k≤8)(zs:List Nat)(hl:zs.length=szN k):jT k (jT k zs)=zs:=by
 apply List.ext_getElem (by rw[nM,nM]);intro p hp1 hp2;have e1:(jT k (jT k zs)).getD p 0=(jT k (jT k zs))[p]:=by simp only[List.getD_eq_getElem?_getD,List.getElem?_eq_getElem hp1,Option.getD_some]
 have e2:zs.getD p 0=zs[p]:=by simp only[List.getD_eq_getElem?_getD,List.getElem?_eq_getElem hp2,Option.getD_some]
 have hp:p<szN k:=by omega
 rw[←e1,←e2,Kh k _ p (by rw[nM];exact hl) (by rw[nM];exact hp2),Kh k zs _ hl (by rw[hl];exact Co hk hp),xU hk hp]
def Gi (n:Int)(s:ByteArray):Bool:=if dF n s=0 then aZ n.toNat s else false
theorem Nu {k:Nat}(hk:1≤k∧k≤8)(ng:Bool)(E F:Nat):zR k ng E F=kt k ng E F:=by
 unfold zR kt dh;have ho:kp k=2^exN k-1:=rfl;have h1:2≤2^exN k:=by
  have h7:=(fZ hk).2.2.2.2.2;have:2^1≤2^exN k:=Nat.pow_le_pow_right (by omega) (by omega);omega
 by_cases h3:k=3
 ·have hd3:2^ (dgN k-1)=2^63:=by rw[h3];rfl
  rw[if_pos h3,if_pos (show k≤3 by omega),ho,hd3,if_pos h3]
  generalize(2:Nat)^exN k=px at*;generalize(2:Nat)^63=p63 at*
  by_cases e0:E=0
  ·rw[if_neg (show¬E+1=px by omega),if_neg (show¬(0<E∧F<p63) by omega),if_pos e0]
   split<;>simp
  ·rw[if_neg e0]
   by_cases e1:E+1=px
   ·rw[if_pos e1,if_pos (show E=px-1 by omega)]
    split<;>simp
   ·rw[if_neg e1,if_neg (show¬E=px-1 by omega)]
    by_cases ef:F<p63
    ·rw[if_pos (show 0<E∧F<p63 by omega),if_pos (show k=3∧F<p63 from⟨h3,ef⟩)]
     simp
    ·rw[if_neg (show¬(0<E∧F<p63) by omega),if_neg (show¬(k=3∧F<p63) from fun h=>ef h.2)]
     simp
 ·rw[if_neg h3]
  by_cases h2:k≤2
  ·rw[if_pos h2,if_pos (show k≤3 by omega),ho,if_neg h3]
   generalize(2:Nat)^exN k=px at*
   by_cases e0:E=0
   ·rw[if_neg (show¬E+1=px by omega),if_pos e0]
    split<;>simp
   ·rw[if_neg e0]
    by_cases e1:E+1=px
    ·rw[if_pos e1,if_pos (show E=px-1 by omega)]
     split<;>simp
    ·rw[if_neg e1,if_neg (show¬E=px-1 by omega),if_neg (show¬(k=3∧F<2^63) from fun h=>h3 h.1)]
     simp
  ·rw[if_neg h2,if_neg (show¬k≤3 by omega)]
   by_cases h5:k≤5
   ·rw[if_pos h5,if_pos h5]
    split<;>simp
   ·rw[if_neg h5,if_neg h5]
    by_cases e0:E=0
    ·rw[if_pos e0,if_pos e0]
     cases ng<;>simp
    ·rw[if_neg e0,if_neg e0]
     simp
theorem Cu (k:Nat)(s:ByteArray):aR k s<2^exN k∧aU k s<2^frN k:=⟨gh _ _ _,gh _ _ _⟩
def CK (n way:Int)(ps:List ByteArray):Int:=if dK n=0 then 6 else if fT n ps=0 then(if iC way then 0 else 6) else fT n ps
def BT (W:World)(base:Nat)(v:Value):Prop:= ∃p,v= .pointer (some ⟨p,0,none⟩)∧base≤p∧mL W p (.bool false) yN (yi 0) (.bool false) yN (yi 0)∧ZB6 W p
end Go.Proofs.YtddkchlamdhgcaaGreatDoor
