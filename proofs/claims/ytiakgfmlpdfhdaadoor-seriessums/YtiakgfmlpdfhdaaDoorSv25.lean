/-
  Texts laid together: Dy1, Dy2, Dr1, Dl8, Take, Back, Long, Long1, Fro.
-/
import Derived.Test.YtiakgfmlpdfhdaaDoorSv11
import Derived.Test.YtiakgfmlpdfhdaaDoorSv13
import Derived.Test.YtiakgfmlpdfhdaaDoorSv16
import Derived.Test.YtiakgfmlpdfhdaaDoorSv20
set_option maxRecDepth 100000
set_option maxHeartbeats 3200000
namespace Go.Proofs.YtiakgfmlpdfhdaaDoor
open Go.RowKit
theorem Gl (v:Value)(n:Nat)(w:World)(hv:Rd w .u32 v (Dg.dg 4294967296 n))(hL:(Dg.dg 4294967296 n).length≤1000000)(hT:Tab w):
  yC 83 #[v] w fun e w'=>e= .returned (yi ((if n=0 then 0 else tz n:Nat):Int))∧w'=w:=by
 have hs:=Dg.small_dg 4294967296 n (by omega);have hvl:=Dg.vl_dg 4294967296 n (by omega);have hz:(∀j,(Dg.dg 4294967296 n).getD j 0=0)→n=0:=fun h=>by rw[←hvl];exact Dg.vl_zeros _ _ h
 obtain⟨xs,hx⟩: ∃xs,Dg.dg 4294967296 n=xs:=⟨_,rfl⟩;rw[hx] at hv hs hvl hz hL;obtain⟨ao,ca,rfl⟩:=hv.shape;obtain⟨hlc,hm,hcb⟩:=iQ hv;have HZ:Hid (∀k,xs.length≤k→(∀j,j<k→xs.getD j 0=0)→n=0):=fun k hk h=>hz (fun j=>by
  by_cases hj:j<k
  ·exact h j hj
  ·simp[List.getD_eq_getElem?_getD,show xs.length≤j from by omega])
 have HN:Hid _:=hvl;clear hx hz hvl hv
 go_enter Tryd.func83,Tryd.ntmps83
 go_wp2
 go_loop [7] (fun iv=> ∃k:Nat,k≤xs.length∧iv=yi k∧Hid (∀j,j<k→xs.getD j 0=0)) (fun iv=>xs.length-(intOf iv).toNat)
 case atStart=>exact⟨0,Nat.zero_le _,rfl,fun j hj=>absurd hj (Nat.not_lt_zero j)⟩
 case round=>
  obtain⟨k,hk,rfl,hzk⟩:=hrel
  by_cases hlt:k<xs.length
  ·obtain⟨b,off,rfl,hcell⟩:=hcb (by omega)
   have hc:=hcell k hlt;have hl:=hs k;obtain⟨x,hx⟩: ∃x,xs.getD k 0=x:=⟨_,rfl⟩;rw[hx] at hc hl;have HX:Hid _:=hx;clear hx hcell hcb
   by_cases hx0:x=0
   ·subst hx0
    go_wp2
    go_round
    case rel=>exact⟨k+1,by omega,by go_num,fun j hj=>by
     by_cases e:j=k
     ·rw[e];exact HX.out
     ·exact hzk.out j (by omega)⟩
    case measure=>simp[intOf];omega
   ·have ht:=Zw x w hl hx0 hT
    have h0:((x:Int)==0)=false:=by simp;exact hx0
    go_wp2_with fail
    refine ht.mono ?_;rintro e w' ⟨t,m,rfl,hxm,htl,rfl⟩;have e1:=Zx xs k t m hlt hzk.out (by rw[HX.out];exact hxm) htl;rw[HN.out] at e1;have hn0:n≠0:=by
     intro e;have h2:=adl 4294967296 xs k (by omega) hs (by rw[HN.out];exact e);rw[HX.out] at h2;exact hx0 h2
    clear ht hxm
    go_wp2
    go_ret
    refine⟨?_,rfl⟩
    first|rfl| (rw[e1];rfl)| (simp only[e1];rfl)| (show Ending.returned (Value.int IntKind.i64 (32*(k:Int)+(t:Int)))=_;rw[e1];rfl)
  ·have hn0:=HZ.out k (by omega) hzk.out
   go_wp2
   go_ret
   subst hn0;exact⟨rfl,rfl⟩
theorem II (v:Value)(t:ak)(w:World)(hv:Dv w v t)(hL:(Dg.dg 4294967296 t.n).length≤500000)(he: -1000000≤t.e∧t.e≤1000000)(hT:Tab w)(htz:tz t.n≤1000000):
  Calls Tryd.prog 84 #[v] w (jN w (bare t)):=by
 obtain⟨s,rfl,hr⟩:=hv;obtain⟨ts,n,e⟩:=t;simp only at hr hL he htz⊢;obtain⟨ao,ca,rfl⟩:=hr.shape;obtain⟨e1,e2⟩:=he
 by_cases hn:n=0
 ·subst hn
  rw[show Dg.dg 4294967296 0=[] from rfl] at hr⊢
  go_enter Tryd.func84,Tryd.ntmps84
  rw[show bare ⟨ts,0,e⟩=⟨false,0,0⟩ from by unfold bare;rfl]
  go_wp2
  go_returns
  exact⟨_,rfl,aQ _ _ _ _,((Below.refl _ _).alloc (Nat.le_refl _) _).alloc (by simp[World.size_alloc]) _⟩
 ·have h0:(((Dg.dg 4294967296 n).length:Int)==0)=false:=by simp[Dg.dg_nil_iff 4294967296 n (by omega)];exact hn
  have HB:Hid (bare ⟨ts,n,e⟩=⟨ts,n/2^tz n,e+tz n⟩):=by show bare ⟨ts,n,e⟩=_;unfold bare;rw[if_neg hn]
  have hsm:=Dg.small_dg 4294967296 n (by omega);have hvl:=Dg.vl_dg 4294967296 n (by omega);have HTW:Hid (∀w1,Below w.heap.size w w1→Calls Tryd.prog 83 #[.slice ao (Dg.dg 4294967296 n).length ca] w1 fun e w'=>e= .returned (.int .i64 ((tz n:Nat):Int))∧w'=w1):=fun w1 b1=>by
   have:=Gl _ n w1 (hr.l b1) (by omega) (hT.l b1)
   rwa [if_neg hn] at this
  have HSH:Hid (∀w1,Below w.heap.size w w1→Calls Tryd.prog 73 #[.slice ao (Dg.dg 4294967296 n).length ca,.int .i64 (-((tz n:Nat):Int))] w1 (Num w1 (n/2^tz n))):=fun w1 b1=>by
   have:=eO _ _ (-((tz n:Nat):Int)) w1 (hr.l b1) hsm (by omega) (by omega) (by omega);rw[hvl] at this;have e:shN n (-((tz n:Nat):Int))=n/2^tz n:=by
    unfold shN
    by_cases hz: -((tz n:Nat):Int)<0
    ·rw[if_pos hz];congr 2;omega
    ·rw[if_neg hz]
     have h0:tz n=0:=by omega
     rw[h0];simp
   rwa [e] at this
  obtain⟨m,hm⟩: ∃m,(Dg.dg 4294967296 n).length=m:=⟨_,rfl⟩;obtain⟨k,hk⟩: ∃k,tz n=k:=⟨_,rfl⟩;obtain⟨q,hq⟩: ∃q,n/2^tz n=q:=⟨_,rfl⟩;rw[hq,hk] at HB;rw[hq,hk,hm] at HSH;rw[hk,hm] at HTW;rw[hm] at h0 hL⊢;rw[hk] at htz;rw[HB.out];clear hm hk hq hr hsm hvl HB hn hT;have l1:=(aA w (.bool ts) (.slice ao m ca) (.int .i64 e) 66).l (af _ (.cells #[.bool false,.slice none 0 0,.int .i64 0] 66));have l2:=aA (w.alloc (.cells #[.bool ts,.slice ao m ca,.int .i64 e] 66)) (.bool false) (.slice none 0 0) (.int .i64 0) 66;have bA:=aa (af w (.cells #[.bool ts,.slice ao m ca,.int .i64 e] 66)) (af _ (.cells #[.bool false,.slice none 0 0,.int .i64 0] 66));rw[World.size_alloc] at l2
  go_enter Tryd.func84,Tryd.ntmps84
  go_wp2_with fail
  refine(cN ts ao m ca e _).mono ?_;rintro x w1 ⟨rfl,b1⟩;have l1:=l1.l b1;have l2:=l2.l b1;have b01:=aa bA b1;clear bA b1
  go_wp2_with fail
  refine(HTW.out w1 b01).mono ?_;rintro x w2 ⟨rfl,rfl⟩;have bd:Below w2.heap.size w2 w2.drew:=(Below.refl _ _).drew;have l1:=l1.l bd;have l2:=l2.l bd;have b02:=aa b01 bd;obtain⟨-,⟨c0,c1,c2⟩,-⟩:=id l1;clear b01 bd;have e3:IntKind.i64.wrap (-(k:Int))= -(k:Int):=IntWalk.i64_in _ ⟨by omega,by omega⟩;have e4:IntKind.i64.wrap (e+(k:Int))=e+(k:Int):=IntWalk.i64_in _ ⟨by omega,by omega⟩
  go_wp2_with fail
  go_region_held3 (fun wq=>wq.cell? ⟨w.heap.size,0,none⟩=some (.bool ts)∧wq.cell? ⟨w.heap.size,1,none⟩=some (.slice ao m ca)∧wq.cell? ⟨w.heap.size,2,none⟩=some (.int .i64 e)) (go_keep) (first
   | (go_at_call 81;refine(cN ts ao m ca e _).mono ?_;rintro x w3 ⟨rfl,b3⟩;have l13:=l1.l b3;have l23:=l2.l b3;have b03:=aa b02 b3;obtain⟨-,⟨p0,p1,p2⟩,-⟩:=id l13)
   | (go_at_call 73;refine(HSH.out _ b03).mono ?_;rintro x w4 ⟨vs,rfl,own4,b4⟩;have l14:=l13.l b4;have l24:=l23.l b4;have b04:=aa b03 b4;obtain⟨so,sc,hvs⟩:=own4.rd.shape;subst hvs;obtain⟨-,⟨q0,q1,q2⟩,-⟩:=id l14)
   | (go_at_call 77;refine(l9 ts so _ sc _ _).mono ?_;rintro x w5 ⟨rfl,b5⟩;have l25:=l24.l b5;have l15:=l14.l b5;obtain⟨-,⟨r0,r1,r2⟩,-⟩:=id l15;have b05:=aa b04 b5;have rd5:=own4.rd.l b5;obtain⟨hl5,⟨d0,d1,d2⟩,f0,f1,f2⟩:=id l25))
  all_goals go_wp2
  have l5:=aD l25 (.bool ts) (.slice so (Dg.dg 4294967296 q).length sc) (.int .i64 (e+(k:Int)));have hbw:w.heap.size≤w.heap.size+1:=by omega
  have b5':=((b05.setCell (p:=⟨w.heap.size+1,0,none⟩) hbw (.bool ts)).setCell (p:=⟨w.heap.size+1,1,none⟩) hbw (.slice so (Dg.dg 4294967296 q).length sc)).setCell (p:=⟨w.heap.size+1,2,none⟩) hbw (.int .i64 (e+(k:Int)));have own5:=(own4.l b5).apart3 (b:=w.heap.size+1) l23.1 (.bool ts) (.slice so (Dg.dg 4294967296 q).length sc) (.int .i64 (e+(k:Int)));obtain⟨-,⟨g0,g1,g2⟩,-⟩:=l5;refine bodyPost_ret (v:= .agg #[.bool ts,.slice so (Dg.dg 4294967296 q).length sc,.int .i64 (e+(k:Int))]) (by simp[results,Tryd.results84,go_sem,g0,g1,g2]) rfl ?_;exact⟨_,rfl,own5.lower b03.size,b5'⟩
theorem di.near {w:World}{t:ak}{e:Ending}{w':World}(h:di w t e w'):dr w t e w':=by
 obtain⟨s,h1,h2,-,h3⟩:=h;exact⟨s,h1,h2,h3⟩
theorem uI (v:Value)(t:ak)(w:World)(hv:Rv w v t):yC 28 #[v] w (dr w (dB t)):=by
 obtain⟨s0,rfl,hr⟩:=hv;refine(ja s0 t w hr).mono ?_;rintro z w' ⟨rfl,b⟩;exact⟨_,rfl,hr.l b,b⟩
theorem H7 (g N i pc base t:Nat)(R ys:List Nat)(vb:Value)(w:World)(ho:Own w base 87 .u32 (.slice (some ⟨g,0,none⟩) N N) R)(sR:Dg.Small 4294967296 R)(sb:Dg.Small 4294967296 ys)
  (hby: ∀w',w.grownBy w' (some g)→Rd w' .u32 vb ys) (hl:i+ys.length<R.length) (ht:t<4294967296) (hRl:R.length≤2000000):
  yC 105 #[.slice (some ⟨g,i,none⟩) (ys.length+1) pc,vb,.int .u32 t] w fun e w'=>
   ∃(b:Nat) (cur:List Nat),e= .returned (.bool (decide (b=1)))∧acc R cur ys i t b∧Own w' base 87 .u32 (.slice (some ⟨g,0,none⟩) N N) cur∧w.grownBy w' (some g):=by
 obtain⟨bo,cb,rfl⟩:=(hby w (ib _ _)).shape;have HBY:Hid _:=hby
 clear hby
 go_enter Tryd.func105,Tryd.ntmps105
 go_wp2
 go_loopw [7,8,14] (fun cv bv kv wr=> ∃(k c b:Nat) (cur:List Nat),k≤ys.length∧kv=yi k∧cv= .int .u64 c∧bv= .int .u32 b∧Own wr base 87 .u32 (.slice (some ⟨g,0,none⟩) N N) cur∧SX R cur ys i t k c b∧w.grownBy wr (some g)) (fun _ _ kv _=>ys.length-(intOf kv).toNat)
 case atStart=>exact⟨0,0,0,R,Nat.zero_le _,rfl,rfl,rfl,ho,⟨rfl,sR,by omega,by omega,fun _ _=>rfl,by simp[Dg.vl]⟩,ib _ _⟩
 case round=>
  clear ho;obtain⟨k,c,b,cur,hk,rfl,rfl,rfl,own,hI,gr⟩:=hrel;have hcl:=hI.1;have hc32:=hI.2.2.1;have hb1:=hI.2.2.2.1
  by_cases hlt:k<ys.length
  ·obtain⟨-,-,hcb⟩:=iQ (HBY.out wr gr)
   obtain⟨b2,off2,rfl,hcell2⟩:=hcb (by omega);have hy:=hcell2 k hlt;have hyl:=sb k;have hp:=own.c (i+k) (by omega);have hf:=own.f (i+k);rw[hI.2.2.2.2.1 _ (Nat.le_refl _)] at hp;have hpl:=sR (i+k);obtain⟨y,ey⟩: ∃y,ys.getD k 0=y:=⟨_,rfl⟩;obtain⟨p,ep⟩: ∃p,R.getD (i+k) 0=p:=⟨_,rfl⟩;rw[ey] at hy hyl;rw[ep] at hp hpl;have hxy:=uf hyl ht;have hxyI:(y:Int)*(t:Int)≤18446744065119617025:=by rw[←Int.natCast_mul];omega
   have hxy0:0≤(y:Int)*(t:Int):=by rw[←Int.natCast_mul];omega
   have hst:=VS hI hlt (by omega) ey ep hpl rfl (by omega);have hlo:(c+y*t) % 4294967296<4294967296:=Nat.mod_lt _ (by omega);have hs32:=zA p ((c+y*t) % 4294967296) b wr hpl hlo hb1;rw[←Sd] at hs32;have HST:Hid _:=hst;obtain⟨nw,hnw⟩: ∃nw,(p+4294967296-(c+y*t) % 4294967296-b) % 4294967296=nw:=⟨_,rfl⟩;obtain⟨nb,hnb⟩: ∃nb,brw p ((c+y*t) % 4294967296) b=nb:=⟨_,rfl⟩;rw[hnw,hnb] at hs32 HST;clear ey ep hcell2 hcb hst hlo hcl hnw hnb
   go_wp2_with fail
   refine hs32.mono ?_;rintro e w' ⟨rfl,rfl⟩;clear hs32
   go_wp2
   go_roundw
   case rel=>
    rw[Se];exact⟨k+1,_,nb,_,by omega,by go_num,rfl,rfl,own.store (i+k) _,HST.out,eF gr (bI _ _ _ _)⟩
   case measure=>simp[intOf];omega
  ·have hke:k=ys.length:=by omega
   subst hke;have hp:=own.c (i+ys.length) (by omega);have hf:=own.f (i+ys.length);rw[hI.2.2.2.2.1 _ (Nat.le_refl _)] at hp;have hpl:=sR (i+ys.length);obtain⟨p,ep⟩: ∃p,R.getD (i+ys.length) 0=p:=⟨_,rfl⟩;rw[ep] at hp hpl;have hst:=VT hI hl ep hpl;have hs32:=zA p c b wr hpl hc32 hb1;have hbl:=RN p c b;obtain⟨nw,hnw⟩: ∃nw,(p+4294967296-c-b) % 4294967296=nw:=⟨_,rfl⟩;obtain⟨nb,hnb⟩: ∃nb,brw p c b=nb:=⟨_,rfl⟩;rw[hnw,hnb] at hs32 hst;rw[hnb] at hbl;have HST:Hid (acc R (cur.set (i+ys.length) nw) ys i t nb):=⟨hst.1,hst.2.1,hst.2.2.1,hbl,hst.2.2.2⟩;have own2:=own.store (i+ys.length) nw;have gr2:=eF gr (bI wr g (i+ys.length) (.int .u32 (nw:Int)));clear ep hst hcl hnw hnb
   go_wp2_with fail
   refine hs32.mono ?_;rintro e w' ⟨rfl,rfl⟩;clear hs32
   by_cases hz:nb=0
   ·subst hz
    go_wp2
    go_ret
    exact⟨0,_,rfl,HST,own2,gr2⟩
   ·have hz1:nb=1:=by omega
    subst hz1
    go_wp2
    go_ret
    exact⟨1,_,rfl,HST,own2,gr2⟩
theorem Mj (g N i pc base:Nat)(R ys:List Nat)(vb:Value)(w:World)(ho:Own w base 87 .u32 (.slice (some ⟨g,0,none⟩) N N) R)(sR:Dg.Small 4294967296 R)(sb:Dg.Small 4294967296 ys)
  (hby: ∀w',w.grownBy w' (some g)→Rd w' .u32 vb ys) (hl:i+ys.length<R.length) (hRl:R.length≤2000000):
  yC 106 #[.slice (some ⟨g,i,none⟩) (ys.length+1) pc,vb] w fun e w'=>
   ∃(o:Nat) (cur:List Nat),e= .returned (.tuple #[])∧Py R cur ys i o∧Own w' base 87 .u32 (.slice (some ⟨g,0,none⟩) N N) cur∧w.grownBy w' (some g):=by
 obtain⟨bo,cb,rfl⟩:=(hby w (ib _ _)).shape;have HBY:Hid _:=hby
 clear hby
 go_enter Tryd.func106,Tryd.ntmps106
 go_wp2
 go_loopw [4,9] (fun cv kv wr=> ∃(k c:Nat) (cur:List Nat),k≤ys.length∧kv=yi k∧cv= .int .u32 c∧Own wr base 87 .u32 (.slice (some ⟨g,0,none⟩) N N) cur∧Sp R cur ys i k c∧w.grownBy wr (some g)) (fun _ kv _=>ys.length-(intOf kv).toNat)
 case atStart=>exact⟨0,0,R,Nat.zero_le _,rfl,rfl,ho,⟨rfl,sR,by omega,fun _ _=>rfl,by simp[Dg.vl]⟩,ib _ _⟩
 case round=>
  clear ho;obtain⟨k,c,cur,hk,rfl,rfl,own,hI,gr⟩:=hrel;have hcl:=hI.1;have hc1:=hI.2.2.1
  by_cases hlt:k<ys.length
  ·obtain⟨-,-,hcb⟩:=iQ (HBY.out wr gr)
   obtain⟨b2,off2,rfl,hcell2⟩:=hcb (by omega);have hy:=hcell2 k hlt;have hyl:=sb k;have hp:=own.c (i+k) (by omega);have hf:=own.f (i+k);rw[hI.2.2.2.1 _ (Nat.le_refl _)] at hp;have hpl:=sR (i+k);obtain⟨y,ey⟩: ∃y,ys.getD k 0=y:=⟨_,rfl⟩;obtain⟨p,ep⟩: ∃p,R.getD (i+k) 0=p:=⟨_,rfl⟩;rw[ey] at hy hyl;rw[ep] at hp hpl;have hst:=TV hI (by omega) ey ep hpl hyl;have ha32:=ur p y c wr hpl hyl hc1;clear ey ep hcell2 hcb hcl
   go_wp2_with fail
   refine ha32.mono ?_;rintro e w' ⟨rfl,rfl⟩;clear ha32
   go_wp2
   go_roundw
   case rel=>exact⟨k+1,_,_,by omega,by go_num,rfl,own.store (i+k) _,hst,eF gr (bI _ _ _ _)⟩
   case measure=>simp[intOf];omega
  ·have hke:k=ys.length:=by omega
   subst hke;have hp:=own.c (i+ys.length) (by omega);have hf:=own.f (i+ys.length);rw[hI.2.2.2.1 _ (Nat.le_refl _)] at hp;have hpl:=sR (i+ys.length);obtain⟨p,ep⟩: ∃p,R.getD (i+ys.length) 0=p:=⟨_,rfl⟩;rw[ep] at hp hpl;have hst:=TW hI hl ep hpl;have e0:((p:Int)+(c:Int)) % 4294967296=(((p+c) % 4294967296:Nat):Int):=by omega
   have own2:=own.store (i+ys.length) ((p+c) % 4294967296);have gr2:=eF gr (bI wr g (i+ys.length) (.int .u32 (((p+c) % 4294967296:Nat):Int)));rw[←e0] at own2 gr2;have HST:Hid _:=hst;clear ep hst hcl e0
   go_wp2
   go_end0
   exact⟨_,_,rfl,HST,own2,gr2⟩
def ae2 (w:World)(A D M N gr go gb cb:Nat)(bs:List Nat)(iv:Value)(wr:World):Prop:=
 ∃(k:Nat) (R os:List Nat),k≤M∧iv=yi ((k:Int)-1)∧Jm A D M R os N k∧Own wr w.heap.size 87 .u32 (.slice (some ⟨gr,0,none⟩) N N) R∧Own wr w.heap.size 87 .u32 (.slice (some ⟨go,0,none⟩) M M) os∧
  Own wr w.heap.size 87 .u32 (.slice (some ⟨gb,0,none⟩) bs.length cb) bs∧yB w wr
theorem Xs {X Y s M N:Nat}{R os:List Nat}(hY:0<Y)(h:Jm (X*2^s) (Y*2^s) M R os N 0):Dg.vl 4294967296 os=X/Y∧Dg.vl 4294967296 R/2^s=X % Y:=by
 obtain⟨-,-,-,-,-,h6,h7⟩:=h;rw[Nat.pow_zero,Nat.mul_one] at h7;have hp:0<2^s:=Nat.pow_pos (by omega);have hD:0<Y*2^s:=Nat.mul_pos hY hp;have e1:X*2^s/(Y*2^s)=Dg.vl 4294967296 os:=by
  rw[←h6,Nat.mul_add_div hD,Nat.div_eq_of_lt h7,Nat.add_zero]
 have e2:X*2^s % (Y*2^s)=Dg.vl 4294967296 R:=by
  rw[←h6,Nat.mul_add_mod,Nat.mod_eq_of_lt h7]
 rw[Nat.mul_div_mul_right _ _ hp] at e1;rw[Nat.mul_mod_mul_right] at e2;refine⟨e1.symm, ?_⟩;rw[←e2,Nat.mul_div_cancel _ hp]
theorem Bj (d:Nat)(w:World)(hd:d<65536):yC 32 #[yi d] w (cG w d):=by
 obtain⟨i0,hi,hz0,hz1,hz2⟩:=info_parts Tryd.infoI64;have hone:=Cv d hd
 by_cases h:d=0
 ·subst h
  go_enter Tryd.func32,Tryd.ntmps32
  go_wp2
  refine wp_loop_rounds 1 ?_;rw[rounds_succ]
  go_wp2
  go_ret
  exact⟨_,rfl,(aQ _ 0 0 _).rd,Below.refl _ _⟩
 ·rw[if_neg h] at hone
  have HO:Hid (Dg.dg 65536 d=[d]):=hone;have e1:(d:Int) % 65536=(d:Int):=by omega
  have e2:(d:Int)/65536=0:=by omega
  have hpos:(0:Int)< (d:Int):=by omega
  clear hone
  go_enter Tryd.func32,Tryd.ntmps32
  go_wp2
  refine wp_loop_rounds 2 ?_;rw[rounds_succ]
  go_wp2_with (at_builtin;refine wpList_append_own _ rfl _ _ 34 rfl w.heap.size 3 i0 (yi 0) 1 8 Tryd.underlying34 hi hz0 hz1 hz2 rfl (by decide) _ _ _ rfl (World.ownsRow.alloc (World.ownsRow_nil w w.heap.size 3 1) _) ⟨w.heap.size,0,none⟩ 1 1 [yi d] rfl rfl ?c1 ?c2 ?c3 ?c4 ?c5 ?_)
  case c1=>exact cell_one_new _ _ _
  case c2=>intro u hu;simp at hu;subst hu;rfl
  case c3=>unfold maxLen;omega
  case c4=>omega
  case c5=>simp
  intro v' w3 hown' hgrow _;have R:=iW (Below.refl w.heap.size w) (aQ w w.heap.size 3 .i64) hown' hgrow;clear hown' hgrow;rw[List.nil_append,←HO.out] at R
  go_wp2
  rw[rounds_succ]
  go_wp2
  go_ret
  exact⟨_,rfl,R.1.rd,R.2⟩
end Go.Proofs.YtiakgfmlpdfhdaaDoor
