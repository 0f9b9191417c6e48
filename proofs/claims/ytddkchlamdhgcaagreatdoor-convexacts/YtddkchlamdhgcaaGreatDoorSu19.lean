/-
  Texts laid together: Shift, Ref6, Over, Gm2, Gk6, Into1, Into2, Ce9, Nx2, Ar8, Pa3.
-/
import Derived.Test.YtddkchlamdhgcaaGreatDoorSu13
import Derived.Test.YtddkchlamdhgcaaGreatDoorSu14
import Derived.Test.YtddkchlamdhgcaaGreatDoorSu15
import Derived.Test.YtddkchlamdhgcaaGreatDoorSu16
import Derived.Test.YtddkchlamdhgcaaGreatDoorSu17
set_option maxRecDepth 100000
set_option maxHeartbeats 3200000
namespace Go.Proofs.YtddkchlamdhgcaaGreatDoor
open _root_.Go.Proofs.Tryz
open Go.RowKit
theorem eO (va:Value)(xs:List Nat)(n:Int)(w:World)(ha:Rd w .u32 va xs)(sa:Dg.Small 4294967296 xs)(hla:xs.length≤1000000)(h1: -1000000≤n)(h2:n≤1000000):
  yC 99 #[va,yi n] w (Num w (shN (Dg.vl 4294967296 xs) n)):=by
 unfold shN
 by_cases hn:n<0
 ·rw[if_pos hn]
  obtain⟨m,hm⟩: ∃m:Nat,-n=(m:Int):=⟨(-n).toNat,by omega⟩;have hl:=Dj va xs m (m/32) (m % 32) w ha sa hla (by omega) (by omega) (by omega);rw[hm,Int.toNat_natCast]
  go_enter func99,ntmps99
  go_wp2_with fail
  refine hl.mono ?_;rintro e w1 ⟨v,rfl,own,bel⟩
  go_wp2
  go_ret
  exact⟨_,rfl,own,bel⟩
 ·rw[if_neg hn]
  obtain⟨m,rfl⟩: ∃m:Nat,n=(m:Int):=⟨n.toNat,by omega⟩;rw[Int.toNat_natCast]
  by_cases hne:xs=[]
  ·subst hne
   obtain⟨ao,ca,rfl⟩:=ha.shape;have hz:Dg.vl 4294967296 []*2^m=0:=by simp[Dg.vl]
   rw[hz]
   go_enter func99,ntmps99
   go_wp2
   go_ret
   exact⟨_,rfl,aQ _ _ _ _,Below.refl _ _⟩
  ·have hl:=vO va xs m (m/32) (m % 32) (2^ (m % 32)) w ha sa hla (by omega) (by omega) rfl (by omega) hne
   go_enter func99,ntmps99
   go_wp2_with fail
   refine hl.mono ?_;rintro e w1 ⟨v,rfl,own,bel⟩
   go_wp2
   go_ret
   exact⟨_,rfl,own,bel⟩
theorem kD (va:Value)(xs:List Nat)(n:Nat)(w:World)(ha:Rd w .i64 va xs)(sa:Dg.Small 65536 xs)(hla:xs.length≤1000000)(hnl:n≤1000000):
  yC 41 #[va,yi n] w (cG w (Dg.vl 65536 xs*2^n)):=by
 obtain⟨ao,ca,rfl⟩:=ha.shape
 by_cases hne:xs=[]
 ·subst hne
  have hz:Dg.vl 65536 []*2^n=0:=by simp[Dg.vl]
  rw[hz]
  go_enter func41,ntmps41
  go_wp2
  go_ret
  exact⟨_,rfl,(aQ _ 0 0 _).rd,Below.refl _ _⟩
 ·have h00:((xs.length:Int)==0)=false:=by simp;exact hne
  have hp:=pf n (n/16) (n % 16) w (by omega) (by omega) hnl;have hl:=Fr n
  go_enter func41,ntmps41
  go_wp2_with fail
  refine hp.mono ?_;rintro e w1 ⟨v1,rfl,r1,b1⟩;have ht:=fN _ v1 xs _ w1 (ha.l b1) r1 sa (Dg.small_dg _ _ (by omega)) hla (by omega);rw[Dg.vl_dg _ _ (by omega)] at ht
  go_wp2_with fail
  refine ht.mono ?_;rintro e w2 ⟨v2,rfl,r2,b2⟩;have b12:=aa b1 b2;clear ht hp
  go_wp2
  go_ret
  exact⟨_,rfl,r2,b12⟩
theorem A9 (va vb:Value)(xs ys:List Nat)(w:World)(ha:Rd w .u32 va xs)(hb:Rd w .u32 vb ys)(sa:Dg.Small 4294967296 xs)(sb:Dg.Small 4294967296 ys)(na:Dg.Norm xs)(nb:Dg.Norm ys)(hne:ys≠[])(hla:xs.length≤900000):
  yC 127 #[va,vb] w (Two w (Dg.vl 4294967296 xs/Dg.vl 4294967296 ys) (Dg.vl 4294967296 xs % Dg.vl 4294967296 ys)):=by
 have hcm:=jF va vb xs ys w ha hb sa sb na nb;have hY0:0<Dg.vl 4294967296 ys:=Nat.pos_of_ne_zero (Dg.vl_ne_zero 4294967296 (by omega) ys hne nb);have hln:0<ys.length:=List.length_pos_iff.2 hne
 by_cases hlt:Dg.vl 4294967296 xs<Dg.vl 4294967296 ys
 ·rw[gX (by omega)] at hcm
  rw[Nat.div_eq_of_lt hlt,Nat.mod_eq_of_lt hlt];have HX:Hid (xs=Dg.dg 4294967296 (Dg.vl 4294967296 xs)):=Dg.eq_dg 4294967296 (by omega) xs _ sa na rfl;have HA:Hid (Rd w .u32 va xs):=ha;obtain⟨ao,ca,rfl⟩:=ha.shape;obtain⟨bo,cb,rfl⟩:=hb.shape;clear ha hb sa sb na nb hne hlt hY0
  go_enter func127,ntmps127
  go_wp2_with fail
  refine hcm.mono ?_;rintro e w1 ⟨rfl,b1⟩;clear hcm
  go_wp2_with fail
  refine(Bz _ xs w1 (HA.out.l b1) (by omega)).mono ?_;rintro e w2 ⟨rfl,own2,b2⟩;have own2:=own2.lower b1.size;have b12:=aa b1 b2;clear b1 b2 HA
  go_wp2
  go_ret2
  exact⟨_,_,rfl,aQ _ _ _ _,HX.out▸own2,b12⟩
 ·have hd:=Xx (a:=(Dg.vl 4294967296 xs:Int)) (b:=(Dg.vl 4294967296 ys:Int)) (by omega)
  obtain⟨r,hr⟩: ∃r,dm (Dg.vl 4294967296 xs) (Dg.vl 4294967296 ys)=r:=⟨_,rfl⟩;rw[hr] at hd hcm;clear hr;have HA:Hid (Rd w .u32 va xs):=ha;have HB:Hid (Rd w .u32 vb ys):=hb;obtain⟨ao,ca,rfl⟩:=ha.shape;obtain⟨bo,cb,rfl⟩:=hb.shape
  by_cases h1:ys.length=1
  ·obtain⟨d,rfl⟩: ∃d,ys=[d]:=List.length_eq_one_iff.1 h1
   have hv:Dg.vl 4294967296 [d]=d:=by simp[Dg.vl]
   have hdl:d<4294967296:=(Dg.small_cons.1 sb).1;rw[hv] at hY0⊢;clear ha hb hlt hv h1 hln hne nb sb
   go_enter func127,ntmps127
   go_wp2_with fail
   refine hcm.mono ?_;rintro e w1 ⟨rfl,b1⟩;clear hcm
   go_wp2_with fail
   refine(Bz _ xs w1 (HA.out.l b1) (by omega)).mono ?_;rintro e w2 ⟨rfl,own2,b2⟩;have b12:=aa b1 b2;obtain⟨-,-,hcb⟩:=iQ (HB.out.l b12);obtain⟨bb,boff,rfl,hcell⟩:=hcb (by simp);have hc:=hcell 0 (by simp);simp only[List.getD_cons_zero,Nat.add_zero] at hc;clear hcell hcb
   go_wp2_with fail
   refine(uG _ _ _ _ xs d w2 own2 sa hY0 hdl (by omega)).mono ?_;rintro e w3 ⟨qs,rfl,own3,hql,hqs,hqv,gr3⟩;have b13:=b12.grown gr3 b12.size (fun k hk=>by cases hk;exact b1.size)
   have r3:=own3.rd;have own3:=own3.lower b1.size;obtain⟨rm,hrm⟩: ∃rm,Dg.vl 4294967296 xs % d=rm:=⟨_,rfl⟩;rw[hrm];have hrl:rm<4294967296:=by have:=Nat.mod_lt (Dg.vl 4294967296 xs) hY0;omega
   clear gr3 own2 b12 b2 hc
   go_wp2_with fail
   refine(jD _ _ _ _ _ r3).mono ?_;rintro e w4 ⟨m,rfl,hm,rfl⟩;have t3:=jW 4294967296 (by omega) own3 hqs hm;rw[hqv] at t3;have ownd:=zf w4 w.heap.size 135 rm b13.size;have b4:yB w4 (w4.alloc (.cells #[.int .u32 (rm:Int)] 135)):=(Below.refl _ _).alloc (Nat.le_refl _) _;have t4:=t3.l b4;have b14:=aa b13 b4;have rd4:=ownd.rd;clear own3 r3 hm t3 b4 b13 b1 hqv
   go_wp2_with fail
   refine(jD _ _ _ _ _ rd4).mono ?_;rintro e w5 ⟨m2,rfl,hm2,rfl⟩;have t5:=jW 4294967296 (by omega) ownd (Dg.small_cons.2 ⟨hrl,Dg.small_nil _ (by omega)⟩) hm2;rw[show Dg.vl 4294967296 [rm]=rm from by simp[Dg.vl]] at t5
   clear ownd rd4 hm2
   go_wp2
   go_ret2
   exact⟨_,_,rfl,t4,by rw[hrm];exact t5,b14⟩
  ·have hll:ys.length≤xs.length:=by
    rcases Nat.lt_or_ge xs.length ys.length with e|e
    ·exact absurd (Dg.vl_lt_of_len 4294967296 (by omega) xs ys sa nb e) hlt
    ·exact e
   have HLO:Hid (∀w1,yB w w1→yC 146 #[.slice ao xs.length ca,.slice bo ys.length cb] w1 (Two w1 (Dg.vl 4294967296 xs/Dg.vl 4294967296 ys) (Dg.vl 4294967296 xs % Dg.vl 4294967296 ys))):=fun w1 b1=>
    JS _ _ xs ys w1 (ha.l b1) (hb.l b1) sa sb nb (by omega) hll hla
   obtain⟨q,hq⟩: ∃q,Dg.vl 4294967296 xs/Dg.vl 4294967296 ys=q:=⟨_,rfl⟩;obtain⟨m,hm⟩: ∃m,Dg.vl 4294967296 xs % Dg.vl 4294967296 ys=m:=⟨_,rfl⟩;rw[hq,hm] at HLO⊢;have h2:((ys.length:Int)==1)=false:=by simp;omega
   clear ha hb hlt hne nb sb na sa hY0 hq hm HA HB
   go_enter func127,ntmps127
   go_wp2_with fail
   refine hcm.mono ?_;rintro e w1 ⟨rfl,b1⟩;clear hcm
   go_wp2_with fail
   refine(HLO.out w1 b1).mono ?_;rintro e w2 ⟨v1,v2,rfl,o1,o2,b2⟩;have o1:=o1.lower b1.size;have o2:=o2.lower b1.size;have b12:=aa b1 b2;clear b1 b2 HLO
   go_wp2
   go_ret2
   exact⟨_,_,rfl,o1,o2,b12⟩
theorem jK {R D L G:Int}(gr:Bool)(t:ak)(hLG:L≤G):inR R D L G gr (bare t).n (bare t).e=dA R D L G gr t.n t.e:=by
 unfold inR dA;refine decide_eq_decide.2 ?_
 by_cases h:t.n=0
 ·have:(bare t).n=0:=by unfold bare;rw[if_pos h]
  simp only[h,this,true_or]
 ·obtain⟨h1,h2,h3⟩:=gN h
  rw[h3];simp only[h1,h,false_or,h2];unfold cP;rw[show t.e+(bitLen t.n:Int)-1=(bitLen t.n:Int)-1+t.e by omega]
  obtain⟨p,hp⟩: ∃p,(bitLen t.n:Int)-1+t.e=p:=⟨_,rfl⟩;rw[show t.e+(bitLen t.n:Int)=p+1 by omega,hp]
  clear h1 h2 h3 h;obtain⟨z,hz⟩: ∃z,t.e+(tz t.n:Int)=z:=⟨_,rfl⟩;rw[hz];have hw:aT R D p=p/(ai R:Int)-(D-1):=rfl;obtain⟨k,hk⟩: ∃k,aT R D p=k:=⟨_,rfl⟩;rw[hk] at hw⊢;clear hp hz hk;unfold ai at*
  cases gr<;>by_cases h16:R=16<;>simp only[h16,if_true,if_false] at hw⊢ <;>by_cases hl:k<L<;>simp[hl]<;>omega
theorem nN {R D L G:Int}(gr:Bool)(t:ak)(hLG:L≤G):dA R D L G gr (bare t).n (bare t).e=dA R D L G gr t.n t.e:=by
 rw[←jK gr t hLG,←jK gr (bare t) hLG,iH]
theorem Tj (va vb:Value)(xs bs:List Nat)(w:World)(ha:Rd w .i64 va xs)(hb:Rd w .i64 vb bs)(sa:Dg.Small 65536 xs)(sb:Dg.Small 65536 bs)(nb:Dg.Norm bs)(hla:xs.length≤900000)(hlb:bs.length≤900000)(hb2:2≤bs.length):
  yC 66 #[va,vb] w fun e w'=> ∃vq vr,e= .returned (.tuple #[vq,vr])∧Rd w' .i64 vq (Dg.dg 65536 (Dg.vl 65536 xs/Dg.vl 65536 bs))∧Rd w' .i64 vr (Dg.dg 65536 (Dg.vl 65536 xs % Dg.vl 65536 bs))∧yB w w':=by
 obtain⟨i0,hi,hz0,hz1,hz2⟩:=info_parts Tryz.infoI64;have hbne:bs≠[]:=by intro e;rw[e] at hb2;simp at hb2
 have hb0:0<Dg.vl 65536 bs:=Nat.pos_of_ne_zero (Dg.vl_ne_zero 65536 (by omega) bs hbne nb);have HB:Hid (Rd w .i64 vb bs):=hb;have HCM:Hid (∀v u x y w1,Rd w1 .i64 v (Dg.dg 65536 x)→Rd w1 .i64 u (Dg.dg 65536 y)→yC 38 #[v,u] w1 (yR w1 (yi (dm x y)))):=fun v u x y w1 r q=>by
  have:=fm v u _ _ w1 r q (Dg.small_dg _ _ (by omega)) (Dg.small_dg _ _ (by omega)) (Dg.norm_dg _ _ (by omega)) (Dg.norm_dg _ _ (by omega))
  rwa [Dg.vl_dg _ _ (by omega),Dg.vl_dg _ _ (by omega)] at this
 have hbd:=Dg.eq_dg 65536 (by omega) bs _ sb nb rfl;have HBC:Hid (∀v x w1,yB w w1→Rd w1 .i64 v (Dg.dg 65536 x)→yC 38 #[v,vb] w1 (yR w1 (yi (dm x (Dg.vl 65536 bs))))):=fun v x w1 b r=>
  HCM.out v vb x _ w1 r (by rw[←hbd];exact hb.l b)
 have HTM:Hid (∀v d w1,d<65536→yB w w1→Rd w1 .i64 v (Dg.dg 65536 d)→yC 39 #[vb,v] w1 (cG w1 (Dg.vl 65536 bs*d))):=fun v d w1 hd b r=>by
  have hl:(Dg.dg 65536 d).length≤1:=Dg.dg_len_le 65536 d 1 (by omega) (by omega);have:=fN vb v bs _ w1 (hb.l b) r sb (Dg.small_dg _ _ (by omega)) (by omega) (by omega)
  rwa [Dg.vl_dg _ _ (by omega)] at this
 have HLS:Hid (∀v u x y w1,(Dg.dg 65536 x).length≤1000000→y≤x→Rd w1 .i64 v (Dg.dg 65536 x)→Rd w1 .i64 u (Dg.dg 65536 y)→yC 23 #[v,u] w1 (Si w1 (x-y))):=fun v u x y w1 hl hxy r q=>by
  have h5:=Dg.vl_lt 65536 _ (Dg.small_dg 65536 x (by omega));rw[Dg.vl_dg _ _ (by omega)] at h5;have:=Lt v u _ _ w1 r q (Dg.small_dg _ _ (by omega)) (Dg.small_dg _ _ (by omega)) (by omega) (Dg.dg_len_le 65536 y _ (by omega) (Nat.lt_of_le_of_lt hxy h5)) (by rw[Dg.vl_dg _ _ (by omega),Dg.vl_dg _ _ (by omega)];exact hxy)
  rwa [Dg.vl_dg _ _ (by omega),Dg.vl_dg _ _ (by omega)] at this
 clear hbd;obtain⟨ao,ca,rfl,-,-,hca⟩:=ha;obtain⟨bo,cb,rfl,-,-,hcb⟩:=hb;have hl1:((bs.length:Int)==1)=false:=by simp;omega
 go_enter func66,ntmps66
 go_wp2_with (at_make;refine wpList_make_full _ rfl _ _ 28 rfl w.heap.size 3 i0 (yi 0) 1 underlying28 hi hz0 hz1 _ _ _ _ xs.length rfl rfl (by omega) (by omega) ?b2 ?b3 (Nat.le_refl _) ?_)
 case b2=>rw[hz2];omega
 case b3=>unfold maxLen;omega
 intro w0 hown0 hgrow0;have own0:=gL hown0;have bel0:yB w w0:=(Below.refl _ _).grown hgrow0 (Nat.le_refl _) (fun k h=>by cases h)
 clear hown0 hgrow0
 go_wp2
 go_loopw [10,11] (fun rv iv wr=> ∃(k R:Nat) (cur:List Nat),k≤xs.length∧iv=yi ((k:Int)-1)∧aeu w xs (Dg.vl 65536 bs) k R cur rv wr)
  (fun _ iv _=>(intOf iv+1).toNat)
 case atStart=>exact⟨xs.length,0,_,Nat.le_refl _,rfl,own0,(aQ _ 0 0 .i64).rd,NF xs _ hb0,bel0⟩
 case round=>
  clear own0 bel0;obtain⟨k,R,cur,hk,rfl,own,hR,hI,bel⟩:=hrel
  by_cases hk0:k=0
  ·subst hk0
   obtain⟨e1,e2⟩:=Vo hI;have hcl:cur.length≤1000000:=by have:=hI.1;omega
   have hcs:=hI.2.1;have HE1:Hid (Dg.vl 65536 xs/Dg.vl 65536 bs=Dg.vl 65536 cur):=e1;have HE2:Hid (Dg.vl 65536 xs % Dg.vl 65536 bs=R):=e2;clear e1 e2 hI
   go_wp2_with fail
   refine(i9 _ _ _ cur _ own.rd).mono ?_;rintro e w' ⟨m,rfl,hm,rfl⟩;have rq:=xh own hcs hm (by omega)
   go_wp2
   go_ret2
   exact⟨_,_,rfl,by rw[HE1.out];exact rq,by rw[HE2.out];exact hR,bel⟩
  ·obtain⟨m,rfl⟩: ∃m,k=m+1:=⟨k-1,by omega⟩
   obtain⟨ab,aoff,rfl,hcell⟩:=hca (by omega);have hx:=cell_later bel (hcell m (by omega));have hxl:=sa m;obtain⟨N,hN⟩: ∃N,N=xs.getD m 0+65536*R:=⟨_,rfl⟩;obtain⟨hNlt,hset⟩:=Vn hI (by omega) hN hb0 hxl;have hskip:=fun h:N<Dg.vl 65536 bs=>QV hI (by omega) hN h
   have hRb:=hI.2.2.2.1;have hcl:=hI.1;obtain⟨x,ex⟩: ∃x,xs.getD m 0=x:=⟨_,rfl⟩;rw[ex] at hx hxl hN;have a1:yB wr (wr.alloc (.cells #[yi (x:Int)] 3)):=(Below.refl _ _).alloc (Nat.le_refl _) _;have own1:=aaD wr wr.heap.size 3 x (Nat.le_refl _);have hRl:(Dg.dg 65536 R).length≤bs.length:=Dg.dg_len_le 65536 R bs.length (by omega) (Nat.lt_trans hRb (Dg.vl_lt 65536 bs sb));obtain⟨v1,w1,hrun,own2,gr⟩:=Ho (P:=Tryz.prog) 28 28 i0 8 underlying28 hi hz0 hz1 hz2 (Nat.le_refl _) own1 (hR.l a1) (by simp only[List.length_cons,List.length_nil];omega) (by simp);have b1:yB wr w1:=a1.grown gr a1.size (fun k hk=>by cases hk;exact Nat.le_refl _)
   have hs2:Dg.Small 65536 ([x]++Dg.dg 65536 R):=Dg.small_cons.2 ⟨hxl,Dg.small_dg _ _ (by omega)⟩;have hv2:Dg.vl 65536 ([x]++Dg.dg 65536 R)=N:=by rw[List.singleton_append];simp only[Dg.vl];rw[Dg.vl_dg _ _ (by omega),hN]
   obtain⟨g1,c1,rfl,-,-⟩:=World.ownsRow.form own2 (by simp);have r2:=own2.rd;have hl2:([x]++Dg.dg 65536 R).length≤1000000:=by simp only[List.length_append,List.length_cons,List.length_nil];omega
   have own:=own.l b1;have bel:=aa bel b1;have HSET:Hid (BI xs (cur.set m (N/Dg.vl 65536 bs)) (Dg.vl 65536 bs) m (N % Dg.vl 65536 bs)):=hset;have HSKIP:Hid (N<Dg.vl 65536 bs→BI xs cur (Dg.vl 65536 bs) m N):=hskip;have HNLT:Hid (N<65536*Dg.vl 65536 bs):=hNlt;have HV2:Hid (Dg.vl 65536 ([x]++Dg.dg 65536 R)=N):=hv2;have HS2:Hid (Dg.Small 65536 ([x]++Dg.dg 65536 R)):=hs2;clear hset hskip hNlt hv2 hs2 own2 gr a1 own1 hR hI ex hN hcell hRb hRl b1
   go_wp2_with (at_builtin;refine kq (by rfl) _ _ 28 (by rfl) _ _ _ w1 (by rfl) (by rfl) hrun ?_)
   go_wp2_with fail
   refine(i9 _ _ _ _ _ r2).mono ?_;rintro e w' ⟨n1,rfl,htr,rfl⟩;have hml:=htr.1;have r1:=uE (cap':=n1) 65536 (by omega) r2 HS2.out htr (Nat.le_refl _) (by unfold maxLen;omega);rw[HV2.out] at r1;clear htr r2 HS2 HV2 hrun;have HN1:Hid (n1=(Dg.dg 65536 N).length):=wn r1
   by_cases hlt:N<Dg.vl 65536 bs
   ·have hI2:=HSKIP.out hlt
    go_wp2_with fail
    refine(HBC.out _ N _ bel r1).mono ?_;rintro e w2 ⟨rfl,b2⟩;rw[gX (by omega)];have own:=own.l b2;have r2:=r1.l b2;have bel:=aa bel b2
    go_wp2
    go_roundw
    case rel=>exact⟨m,N,cur,by omega,by go_num,own,r2,hI2,bel⟩
    case measure=>simp[intOf]
   ·have hd:=Ti (a:=(N:Int)) (b:=(Dg.vl 65536 bs:Int)) (by omega)
    obtain⟨cr,hcr⟩: ∃cr,dm (N:Int) (Dg.vl 65536 bs:Int)=cr:=⟨_,rfl⟩;rw[hcr] at hd;have HCR:Hid (dm (N:Int) (Dg.vl 65536 bs:Int)=cr):=hcr;clear hcr
    go_wp2_with fail
    refine(HBC.out _ N _ bel r1).mono ?_;rintro e w2 ⟨rfl,b2⟩;rw[HCR.out];have own:=own.l b2;have r2:=r1.l b2;have bel:=aa bel b2;obtain⟨-,-,hcb2⟩:=iQ (HB.out.l bel);obtain⟨bb,boff,rfl,hcellb⟩:=hcb2 (by omega);have e1:=hcellb (bs.length-1) (by omega);have e0:=hcellb (bs.length-2) (by omega);have hd1:=sb (bs.length-1);have hd0:=sb (bs.length-2);obtain⟨d1,ed1⟩: ∃d1,bs.getD (bs.length-1) 0=d1:=⟨_,rfl⟩;obtain⟨d0,ed0⟩: ∃d0,bs.getD (bs.length-2) 0=d0:=⟨_,rfl⟩;have hgs:=Zu (Dg.dg 65536 N) bs bs.length N (Dg.vl 65536 bs) (sJ (Dg.dg 65536 N) bs.length 3) (d1*65536+d0) hb2 rfl (Dg.small_dg _ _ (by omega)) nb (Dg.vl_dg _ _ (by omega)) rfl (Dg.dg_len_le 65536 N _ (by omega) (by
     have h5:=Dg.vl_lt 65536 bs sb;have h6:=HNLT.out;rw[Nat.pow_succ];omega)) HNLT.out (by simp[sJ]) (by rw[ed1,ed0])
    rw[ed1] at e1 hd1;rw[ed0] at e0 hd0;have n1':((bs.length:Int)-1)=((bs.length-1:Nat):Int):=by omega
    have n2':((bs.length:Int)-2)=((bs.length-2:Nat):Int):=by omega
    have hi1:((bs.length-1:Nat):Int)< (bs.length:Int):=by omega
    have hi2:((bs.length-2:Nat):Int)< (bs.length:Int):=by omega
    have HGS:Hid _:=hgs;clear hgs ed1 ed0 hcellb hcb2 HCR
    go_wp2
    go_quiet (fail)
    go_wp2
    have bq:yB w2 (w2.drewN nq):=aL (Below.refl _ _) nq;have own:=own.l bq;have r2:=r2.l bq;have bel:=aa bel bq;obtain⟨W3,hW3⟩: ∃W3,w2.drewN nq=W3:=⟨_,rfl⟩;rw[hW3] at own r2 bel;have HW3:Hid (w2.drewN nq=W3):=hW3;rw[hW3];clear hW3 bq b2
    go_loopw [12,14] (fun tv jv wq=>wq=W3∧ ∃j:Nat,j≤3∧jv=yi j∧tv=yi (sJ (Dg.dg 65536 N) bs.length j)) (fun _ jv _=>3-(intOf jv).toNat)
    case atStart=>exact⟨rfl,0,by omega,rfl,rfl⟩
    case round=>
     obtain⟨hwq,j,hj,rfl,rfl⟩:=hrel;subst hwq;have hT:=Wm (Dg.small_dg 65536 N (by omega)) bs.length j;have hTj:j<3→sJ (Dg.dg 65536 N) bs.length j<4294967296:=fun h=>Nat.lt_of_lt_of_le hT (Nat.pow_le_pow_right (n:=65536) (by omega) (show j≤2 by omega))
     have hTs:sJ (Dg.dg 65536 N) bs.length (j+1)=65536*sJ (Dg.dg 65536 N) bs.length j+(Dg.dg 65536 N).getD (bs.length-j) 0:=rfl;have hDl:=Dg.small_dg 65536 N (by omega) (bs.length-j);have hD0: ¬bs.length-j<n1→(Dg.dg 65536 N).getD (bs.length-j) 0=0:=fun h=>Dg.getD_of_le _ _ (by rw[←HN1.out];omega)
     have hDc:bs.length-j<n1→wr.cell? ⟨g1,bs.length-j,none⟩=some (yi (((Dg.dg 65536 N).getD (bs.length-j) 0:Nat):Int)):=fun h=>Wo r2 _ (by rw[←HN1.out];exact h)
     by_cases hj3:j<3
     ·have hTl:=hTj hj3
      obtain⟨T,hTe⟩: ∃T,sJ (Dg.dg 65536 N) bs.length j=T:=⟨_,rfl⟩;obtain⟨D,hDe⟩: ∃D,(Dg.dg 65536 N).getD (bs.length-j) 0=D:=⟨_,rfl⟩;rw[hTe] at hTs hTl⊢;rw[hDe] at hTs hDl hD0 hDc;obtain⟨i,hie⟩: ∃i,bs.length-j=i:=⟨_,rfl⟩;have hiI:((bs.length:Int)-(j:Int))=(i:Int):=by omega
      rw[hie] at hD0 hDc;have HTS:Hid (sJ (Dg.dg 65536 N) bs.length (j+1)=65536*T+D):=hTs;clear hT hTj hTs hTe hDe hie
      by_cases hat:i<n1
      ·have hDc:=hDc hat
       clear hD0
       go_wp2
       go_roundw
       case rel=>exact⟨trivial,j+1,by omega,by go_num,by rw[HTS.out];go_num⟩
       case measure=>simp[intOf];omega
      ·have hD:=hD0 hat
       subst hD;clear hDc hD0
       go_wp2
       go_roundw
       case rel=>exact⟨trivial,j+1,by omega,by go_num,by rw[HTS.out];go_num⟩
       case measure=>simp[intOf];omega
     ·have hj4:j=3:=by omega
      subst hj4;clear hTj hTs hDl hD0 hDc hj hj3;have hTl:sJ (Dg.dg 65536 N) bs.length 3<281474976710656:=Nat.lt_of_lt_of_le hT (by decide);clear hT;obtain⟨T,hTe⟩: ∃T,sJ (Dg.dg 65536 N) bs.length 3=T:=⟨_,rfl⟩;rw[hTe] at HGS hTl⊢;clear hTe;have hq1:(T:Int).tdiv ((d1:Int)*65536+(d0:Int)+1)=((T/(d1*65536+d0+1):Nat):Int):=by
       rw[Int.tdiv_eq_ediv_of_nonneg (by omega)];exact(Int.natCast_ediv T (d1*65536+d0+1)).symm
      have hq2:(T:Int)/((d1:Int)*65536+(d0:Int)+1)=((T/(d1*65536+d0+1):Nat):Int):=(Int.natCast_ediv T (d1*65536+d0+1)).symm;have hql:T/(d1*65536+d0+1)≤T:=Nat.div_le_self _ _;obtain⟨q,hqe⟩: ∃q,T/(d1*65536+d0+1)=q:=⟨_,rfl⟩;rw[hqe] at HGS hq1 hq2 hql;have hne:(((d1:Int)*65536+(d0:Int)+1)==0)=false:=by simp;omega
      clear hqe
      go_wp2
      obtain⟨D,hD⟩: ∃D:Nat,min (65535:Int) (max 0 ((q:Int)-1)+4)=(D:Int):=⟨(min (65535:Int) (max 0 ((q:Int)-1)+4)).toNat,by omega⟩;have HD1:Hid (N/Dg.vl 65536 bs≤D∧D≤65535):=⟨by have:=HGS.out;omega,by omega⟩;have HD2:Hid (min (65535:Int) (max 0 ((q:Int)-1)+4)=(D:Int)):=hD;clear hD HGS hq1 hq2 hql hne hTl;obtain⟨W5,rfl⟩: ∃W5,W5=wr:=⟨_,rfl⟩
      go_loopw [10,17] (fun rv dv wq=>aev W5 g1 n1 (N/Dg.vl 65536 bs) rv dv wq) (fun _ dv _=>(intOf dv).toNat)
      case atStart=>exact⟨rfl,D,HD1.out.1,HD1.out.2,by rw[HD2.out],Below.refl _ _⟩
      case round=>
       obtain⟨rfl,d,hg1,hg2,rfl,b5⟩:=hrel;have own5:=own.l b5;have r5:=r2.l b5;have bel5:=aa bel b5;have hNl:(Dg.dg 65536 N).length≤1000000:=by rw[←HN1.out];omega
       clear HD1 HD2
       by_cases hle:Dg.vl 65536 bs*d≤N
       ·have hdq:=NG hg1 hle hb0
        have hcle:=Wn (a:=((Dg.vl 65536 bs*d:Nat):Int)) (b:=(N:Int)) (Int.ofNat_le.2 hle);obtain⟨cz,hcz⟩: ∃cz,dm ((Dg.vl 65536 bs*d:Nat):Int) (N:Int)=cz:=⟨_,rfl⟩;rw[hcz] at hcle;have HCZ:Hid (dm ((Dg.vl 65536 bs*d:Nat):Int) (N:Int)=cz):=hcz;have HLE:Hid (Dg.vl 65536 bs*d≤N):=hle;have HDQ:Hid (d=N/Dg.vl 65536 bs):=hdq;clear hcz hle hdq
        go_wp2_with fail
        refine(Bj d _ (by omega)).mono ?_;rintro e w6 ⟨v6,rfl,r6,b6⟩;have bel6:=aa bel5 b6
        go_wp2_with fail
        refine(HTM.out _ d _ (by omega) bel6 r6).mono ?_;rintro e w7 ⟨v7,rfl,r7,b7⟩;have b57:=aa b6 b7;have bel7:=aa bel5 b57;have r57:=r5.l b57;clear bel6 r6 b6 b7
        go_wp2_with fail
        refine(HCM.out _ _ _ _ _ r7 r57).mono ?_;rintro e w8 ⟨rfl,b8⟩;rw[HCZ.out];have r7:=r7.l b8;have r58:=r57.l b8;have bel8:=aa bel7 b8;have own8:=(own5.l b57).l b8;clear r57 bel7 b57 HCZ own5
        go_wp2_with fail
        refine(HLS.out _ _ _ _ _ hNl HLE.out r58 r7).mono ?_;rintro e w9 ⟨v9,rfl,r9,f9,b9⟩;have own9:=own8.l b9;have bel9:=aa bel8 b9;have hq9:=own9.c m (by omega);have hf9:=own9.f m;have hs9:w.heap.size<w8.heap.size:=by have:=own8.block;omega
        have own10:=own9.store m d;have r10:=r9.set_far (g:=w.heap.size) (j:=m) f9 hs9 (yi (d:Int));have bel10:=bel9.setCell (p:=⟨w.heap.size,m,none⟩) (Nat.le_refl _) (yi (d:Int));have HN:Hid (N-Dg.vl 65536 bs*d=N % Dg.vl 65536 bs):=by
         rw[HDQ.out];have:=Nat.div_add_mod N (Dg.vl 65536 bs);unfold Hid;omega
        clear r58 r7 bel8 own8 b8 b9 HLE f9 r9 bel9
        go_wp2
        go_roundw
        case rel=>exact⟨m,N % Dg.vl 65536 bs,cur.set m (N/Dg.vl 65536 bs),by omega,by go_num,by rw[←HDQ.out];exact own10,by rw[←HN.out];exact r10,HSET.out,bel10⟩
        case measure=>simp[intOf]
       ·have hdl:=QW hg1 hle hb0
        have hcz:=sO (a:=((Dg.vl 65536 bs*d:Nat):Int)) (b:=(N:Int)) (by omega);have HCZ:Hid (dm ((Dg.vl 65536 bs*d:Nat):Int) (N:Int)=1):=hcz;have HG:Hid (N/Dg.vl 65536 bs≤d-1):=Nat.le_sub_of_add_le hdl;have hd0':0<d:=Nat.lt_of_lt_of_le (Nat.succ_pos _) hdl;clear hcz hle hdl
        go_wp2_with fail
        refine(Bj d _ (by omega)).mono ?_;rintro e w6 ⟨v6,rfl,r6,b6⟩;have bel6:=aa bel5 b6
        go_wp2_with fail
        refine(HTM.out _ d _ (by omega) bel6 r6).mono ?_;rintro e w7 ⟨v7,rfl,r7,b7⟩;have b57:=aa b6 b7;have r57:=r5.l b57;clear bel6 r6 b6 b7
        go_wp2_with fail
        refine(HCM.out _ _ _ _ _ r7 r57).mono ?_;rintro e w8 ⟨rfl,b8⟩;rw[HCZ.out];have b58:=aa (aa b5 b57) b8;clear r57 b57 HCZ own5 r7
        go_wp2
        go_roundw
        case rel=>
         refine⟨_,_,_,_,_,_,_,_,_,_,_,_,_,_,_,_,_,_,_,_,⟨rfl,d-1,HG.out,by omega, ?_,b58⟩,rfl⟩
         go_num
        case measure=>simp[intOf];omega
theorem qM (va vb:Value)(a b:Nat)(w:World)(ha:Rd w .i64 va (Dg.dg 65536 a))(hb:Rd w .i64 vb (Dg.dg 65536 b))(hla:(Dg.dg 65536 a).length≤900000)(hlb:(Dg.dg 65536 b).length≤900000)(hb0:0<b):
  yC 66 #[va,vb] w (JI w (a/b) (a % b)):=by
 have hne: ¬(Dg.dg 65536 b).length=0:=by rw[List.length_eq_zero_iff,Dg.dg_nil_iff _ _ (by omega)];omega
 by_cases h1:(Dg.dg 65536 b).length=1
 ·obtain⟨d,hd⟩: ∃d,Dg.dg 65536 b=[d]:=List.length_eq_one_iff.1 h1
  have hs:=Dg.small_dg 65536 b (by omega);have hv:=Dg.vl_dg 65536 b (by omega);rw[hd] at hs hv;have hdb:d=b:=by simpa[Dg.vl] using hv
  subst hdb;have:=IU va _ vb d w ha (by rw[←hd];exact hb) (Dg.small_dg _ _ (by omega)) (by omega) hb0 (Dg.small_cons.1 hs).1;rw[Dg.vl_dg _ _ (by omega)] at this;exact this
 ·have:=Tj va vb _ _ w ha hb (Dg.small_dg _ _ (by omega)) (Dg.small_dg _ _ (by omega)) (Dg.norm_dg _ _ (by omega)) hla hlb (by omega)
  rw[Dg.vl_dg _ _ (by omega),Dg.vl_dg _ _ (by omega)] at this;exact this
theorem Kr {k:Nat}(hk:1≤k∧k≤8)(ng:Bool)(e f:Nat):wG k (cF (kU k ng e f))=byL (Eb (exN k) (frN k) ng e f) (szN k):=by
 unfold wG;rw[xP hk,Hm _ (xi k _ (Uh _ _)),ME hk _ (xT _ _)]
theorem mS {k:Nat}(hk:1≤k∧k≤8)(ng:Bool)(e f:Nat):
  aZ k (cF (kU k ng e f))=ng∧aR k (cF (kU k ng e f))=e % 2^exN k∧aU k (cF (kU k ng e f))=f % 2^frN k∧(cF (kU k ng e f)).size=szN k:=by
 obtain⟨h1,h2,h3,h4,-,h7⟩:=fZ hk;unfold aZ aR aU;rw[Kr hk];refine⟨?_, ?_, ?_, ?_⟩
 ·rw[zk _ _ _ _ (by omega)]
  simp only[jY,Eb]
  cases ng<;>simp
 ·rw[zk _ _ _ _ (by omega),←Fu (exN k) e]
  refine nz _ (fun j hj=> ?_)
  unfold Eb;rw[if_neg (by omega),if_pos (show 1+j≤exN k by omega),show exN k-(1+j)=exN k-1-j from by omega]
 ·rw[zk _ _ _ _ (by omega),←Fu (frN k) f]
  refine nz _ (fun j hj=> ?_)
  unfold Eb;rw[if_neg (by omega),if_neg (show¬1+exN k+j≤exN k by omega),show exN k+frN k-(1+exN k+j)=frN k-1-j from by omega]
 ·rw[fS,Mx]
theorem EX {k:Nat}(hk:1≤k∧k≤8)(s:ByteArray)(hc:dh k (aZ k s) (aR k s) (aU k s)=1∨dh k (aZ k s) (aR k s) (aU k s)=2):
  cC (ix (Dg.dg 4294967296 (ge k (aZ k s) (aR k s) (aU k s))) (gw k (aZ k s) (aR k s) (aU k s)) (rdN k) (dgN k) (lsI k) (gsI k)) ⟨kt k (aZ k s) (aR k s) (aU k s),Dg.vl 4294967296 (Dg.dg 4294967296 (ge k (aZ k s) (aR k s) (aU k s))),(ai (rdN k):Int)*gw k (aZ k s) (aR k s) (aU k s)⟩=(nxT k s,0):=by
 obtain⟨s1,s2⟩:=Cu k s;have h64:=mZ hk s2;have hgr:=(eR hk).2.2.2.2.2.2.2.2.2.2.2;unfold nxT;generalize aZ k s=ng at*;generalize aR k s=E at*;generalize aU k s=F at*;rw[Dg.vl_dg _ _ (by omega)];have hm:(Dg.dg 4294967296 (ge k ng E F)).length≤2:=Dg.dg_len_le 4294967296 _ 2 (by omega) (Nat.lt_of_lt_of_le (J8 hk ng E h64) (by decide));have hck:chk (Dg.dg 4294967296 (ge k ng E F))=0:=(bL (nt (n:=ge k ng E F) (e:=0) (by omega) (by omega) (by omega))).1
 rcases hc with hc|hc
 ·have hM:ge k ng E F=0:=if_neg (by omega)
  have hP:gw k ng E F=0:=if_neg (by omega);rw[hP,kA hck hgr (by decide),hM,zd hk hc];exact uR _ _
 ·obtain⟨v1,v2,v3,v4⟩:=J9 hk s1 s2 hc
  rw[kA hck hgr (by unfold eJ;simp;omega)];have hb:=rT hk s1 s2 h64 hc (Nat.ne_of_gt (jX hc));have hT:=iq hk s1 s2 hc;rw[wQ hk] at hT;have hG:kt k ng E F=ng:=by
   unfold kt;rw[if_pos (by omega)]
  rw[hG]
  show bU _=_
  rw[hT,←hb];rw[hT,←hb] at v1 v2;exact wK (Nat.le_trans (aH _ _ _ (by omega) (kR _)) (by simp only;omega)) (by omega) (by omega)
theorem XP {k:Nat}(hk:1≤k∧k≤8)(s:ByteArray):
  cC (ix (Dg.dg 4294967296 (ge k (aZ k s) (aR k s) (aU k s))) (gw k (aZ k s) (aR k s) (aU k s)) (rdN k) (dgN k) (lsI k) (gsI k)) ⟨kt k (aZ k s) (aR k s) (aU k s),Dg.vl 4294967296 (Dg.dg 4294967296 (ge k (aZ k s) (aR k s) (aU k s))),(ai (rdN k):Int)*gw k (aZ k s) (aR k s) (aU k s)⟩=(nxT k s,0):=by
 by_cases hc:dh k (aZ k s) (aR k s) (aU k s)=2
 ·exact EX hk s (.inr hc)
 ·have hgr:=(eR hk).2.2.2.2.2.2.2.2.2.2.2
  have hM:ge k (aZ k s) (aR k s) (aU k s)=0:=if_neg hc;have hP:gw k (aZ k s) (aR k s) (aU k s)=0:=if_neg hc;have hnil:Dg.dg 4294967296 0=[]:=(Dg.dg_nil_iff _ _ (by omega)).2 rfl;rw[hM,hP,hnil,kA (by decide) hgr (by decide)];unfold nxT;rw[Fm hk hc];exact uR _ _
theorem VZ {k:Nat}(hk:1≤k∧k≤8)(s:ByteArray)(hc:dh k (aZ k s) (aR k s) (aU k s)=2):(ji k (aZ k s) (aR k s) (aU k s)).n<2^64∧ -16445≤(ji k (aZ k s) (aR k s) (aU k s)).e∧(ji k (aZ k s) (aR k s) (aU k s)).e≤16464∧(ji k (aZ k s) (aR k s) (aU k s)).n≠0:=by
 obtain⟨s1,s2⟩:=Cu k s;have h64:=mZ hk s2;obtain⟨v1,v2,-,-⟩:=J9 hk s1 s2 hc;have hb:=rT hk s1 s2 h64 hc (Nat.ne_of_gt (jX hc));have hT:=iq hk s1 s2 hc;rw[wQ hk] at hT;refine⟨?_,v1,v2, ?_⟩
 ·rw[hT,←hb]
  exact Nat.lt_of_le_of_lt (kR _) (J8 hk _ _ h64)
 ·rw[hT]
  exact(gN (t:=⟨_,_,_⟩) (Nat.ne_of_gt (jX hc))).1
end Go.Proofs.YtddkchlamdhgcaaGreatDoor
