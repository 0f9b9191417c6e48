/-
  Texts laid together: Into1, Into2, Lkn, Co5, Cr1, Cr3, Cr4, Gh5, Dn2, Gk3, Gk6.
-/
import Derived.Test.YtpgijbdgljkeeaaGreatDoorUe02
set_option maxRecDepth 100000
set_option maxHeartbeats 3200000
namespace Go.Proofs.YtpgijbdgljkeeaaGreatDoor
open _root_.Go.Proofs.Tryz
open Go.RowKit
def aeu (w:World)(xs:List Nat)(b k R:Nat)(cur:List Nat)(rv:Value)(wr:World):Prop:=
 Own wr w.heap.size 3 .i64 (.slice (some ⟨w.heap.size,0,none⟩) xs.length xs.length) cur∧Rd wr .i64 rv (Dg.dg 65536 R)∧BI xs cur b k R∧yB w wr
def aev (W5:World)(g1 n1 Q:Nat)(rv dv:Value)(wq:World):Prop:=
 rv= .slice (some ⟨g1,0,none⟩) n1 n1∧ ∃d:Nat,Q≤d∧d≤65535∧dv=yi d∧yB W5 wq
def sJ (rs:List Nat)(n:Nat):Nat→Nat
 |0=>0
 |j+1=>65536*sJ rs n j+rs.getD (n-j) 0
theorem Wm {rs:List Nat}(h:Dg.Small 65536 rs)(n j:Nat):sJ rs n j<65536^j:=by
 induction j with
 |zero=>simp[sJ]
 |succ j ih=>
  have:=h (n-j);simp only[sJ,Nat.pow_succ];omega
theorem aaD (w:World)(base e d:Nat)(hb:base≤w.heap.size):Own (w.alloc (.cells #[yi d] e)) base e .i64 (.slice (some ⟨w.heap.size,0,none⟩) 1 1) [d]:=
 World.ownsRow_lit (e:=e) (size:=1) (base:=base) w #[yi d] 1 hb (by unfold maxLen;omega) rfl
theorem Ti {a b:Int}(h:b≤a):decide (dm a b<0)=false:=by
 unfold dm;rw[if_neg (by omega)]
 by_cases h2:b<a
 ·rw[if_pos h2];rfl
 ·rw[if_neg h2];rfl
theorem Wn {a b:Int}(h:a≤b):dm a b≤0:=by
 unfold dm
 by_cases h1:a<b
 ·rw[if_pos h1];omega
 ·rw[if_neg h1,if_neg (by omega)];omega
theorem Wo {w:World}{k:IntKind}{g n c:Nat}{zs:List Nat}(h:Rd w k (.slice (some ⟨g,0,none⟩) n c) zs)(i:Nat)(hi:i<zs.length):w.cell? ⟨g,i,none⟩=some (.int k ((zs.getD i 0:Nat):Int)):=by
 have hn:=wn h;subst hn;obtain⟨_,_,h3⟩:=iQ h;obtain⟨b,off,e,hc⟩:=h3 (by omega)
 cases e
 have:=hc i hi
 rwa [Nat.zero_add] at this
theorem Tj (va vb:Value)(xs bs:List Nat)(w:World)(ha:Rd w .i64 va xs)(hb:Rd w .i64 vb bs)(sa:Dg.Small 65536 xs)(sb:Dg.Small 65536 bs)(nb:Dg.Norm bs)(hla:xs.length≤900000)(hlb:bs.length≤900000)(hb2:2≤bs.length):
  yC 35 #[va,vb] w fun e w'=> ∃vq vr,e= .returned (.tuple #[vq,vr])∧Rd w' .i64 vq (Dg.dg 65536 (Dg.vl 65536 xs/Dg.vl 65536 bs))∧Rd w' .i64 vr (Dg.dg 65536 (Dg.vl 65536 xs % Dg.vl 65536 bs))∧yB w w':=by
 obtain⟨i0,hi,hz0,hz1,hz2⟩:=info_parts Tryz.infoI64;have hbne:bs≠[]:=by intro e;rw[e] at hb2;simp at hb2
 have hb0:0<Dg.vl 65536 bs:=Nat.pos_of_ne_zero (Dg.vl_ne_zero 65536 (by omega) bs hbne nb);have HB:Hid (Rd w .i64 vb bs):=hb;have HCM:Hid (∀v u x y w1,Rd w1 .i64 v (Dg.dg 65536 x)→Rd w1 .i64 u (Dg.dg 65536 y)→yC 54 #[v,u] w1 (yR w1 (yi (dm x y)))):=fun v u x y w1 r q=>by
  have:=fm v u _ _ w1 r q (Dg.small_dg _ _ (by omega)) (Dg.small_dg _ _ (by omega)) (Dg.norm_dg _ _ (by omega)) (Dg.norm_dg _ _ (by omega))
  rwa [Dg.vl_dg _ _ (by omega),Dg.vl_dg _ _ (by omega)] at this
 have hbd:=Dg.eq_dg 65536 (by omega) bs _ sb nb rfl;have HBC:Hid (∀v x w1,yB w w1→Rd w1 .i64 v (Dg.dg 65536 x)→yC 54 #[v,vb] w1 (yR w1 (yi (dm x (Dg.vl 65536 bs))))):=fun v x w1 b r=>
  HCM.out v vb x _ w1 r (by rw[←hbd];exact hb.l b)
 have HTM:Hid (∀v d w1,d<65536→yB w w1→Rd w1 .i64 v (Dg.dg 65536 d)→yC 34 #[vb,v] w1 (cG w1 (Dg.vl 65536 bs*d))):=fun v d w1 hd b r=>by
  have hl:(Dg.dg 65536 d).length≤1:=Dg.dg_len_le 65536 d 1 (by omega) (by omega);have:=fN vb v bs _ w1 (hb.l b) r sb (Dg.small_dg _ _ (by omega)) (by omega) (by omega)
  rwa [Dg.vl_dg _ _ (by omega)] at this
 have HLS:Hid (∀v u x y w1,(Dg.dg 65536 x).length≤1000000→y≤x→Rd w1 .i64 v (Dg.dg 65536 x)→Rd w1 .i64 u (Dg.dg 65536 y)→yC 79 #[v,u] w1 (Si w1 (x-y))):=fun v u x y w1 hl hxy r q=>by
  have h5:=Dg.vl_lt 65536 _ (Dg.small_dg 65536 x (by omega));rw[Dg.vl_dg _ _ (by omega)] at h5;have:=Lt v u _ _ w1 r q (Dg.small_dg _ _ (by omega)) (Dg.small_dg _ _ (by omega)) (by omega) (Dg.dg_len_le 65536 y _ (by omega) (Nat.lt_of_le_of_lt hxy h5)) (by rw[Dg.vl_dg _ _ (by omega),Dg.vl_dg _ _ (by omega)];exact hxy)
  rwa [Dg.vl_dg _ _ (by omega),Dg.vl_dg _ _ (by omega)] at this
 clear hbd;obtain⟨ao,ca,rfl,-,-,hca⟩:=ha;obtain⟨bo,cb,rfl,-,-,hcb⟩:=hb;have hl1:((bs.length:Int)==1)=false:=by simp;omega
 go_enter func35,ntmps35
 go_wp2_with (at_make;refine wpList_make_full _ rfl _ _ 29 rfl w.heap.size 3 i0 (yi 0) 1 underlying29 hi hz0 hz1 _ _ _ _ xs.length rfl rfl (by omega) (by omega) ?b2 ?b3 (Nat.le_refl _) ?_)
 case b2=>rw[hz2];omega
 case b3=>unfold maxLen;omega
 intro w0 hown0 hgrow0;have own0:=gL hown0;have bel0:yB w w0:=(Below.refl _ _).grown hgrow0 (Nat.le_refl _) (fun k h=>by cases h)
 clear hown0 hgrow0
 go_wp2
 go_loopw [10,11] (fun rv iv wr=> ∃(k R:Nat) (cur:List Nat),k≤xs.length∧iv=yi ((k:Int)-1)∧aeu w xs (Dg.vl 65536 bs) k R cur rv wr)
  (fun _ iv _=>(intOf iv+1).toNat)
 case atStart=>exact⟨xs.length,0,_,Nat.le_refl _,rfl,own0,(aQ _ 0 0 .i64).rd,NF xs _ hb0,bel0⟩
 case round=>
  clear own0 bel0;obtain⟨k,R,cur,hk,rfl,own,hR,hI,bel⟩:=hrel
  by_cases hk0:k=0
  ·subst hk0
   obtain⟨e1,e2⟩:=Vo hI;have hcl:cur.length≤1000000:=by have:=hI.1;omega
   have hcs:=hI.2.1;have HE1:Hid (Dg.vl 65536 xs/Dg.vl 65536 bs=Dg.vl 65536 cur):=e1;have HE2:Hid (Dg.vl 65536 xs % Dg.vl 65536 bs=R):=e2;clear e1 e2 hI
   go_wp2_with fail
   refine(i9 _ _ _ cur _ own.rd).mono ?_;rintro e w' ⟨m,rfl,hm,rfl⟩;have rq:=xh own hcs hm (by omega)
   go_wp2
   go_ret2
   exact⟨_,_,rfl,by rw[HE1.out];exact rq,by rw[HE2.out];exact hR,bel⟩
  ·obtain⟨m,rfl⟩: ∃m,k=m+1:=⟨k-1,by omega⟩
   obtain⟨ab,aoff,rfl,hcell⟩:=hca (by omega);have hx:=cell_later bel (hcell m (by omega));have hxl:=sa m;obtain⟨N,hN⟩: ∃N,N=xs.getD m 0+65536*R:=⟨_,rfl⟩;obtain⟨hNlt,hset⟩:=Vn hI (by omega) hN hb0 hxl;have hskip:=fun h:N<Dg.vl 65536 bs=>QV hI (by omega) hN h
   have hRb:=hI.2.2.2.1;have hcl:=hI.1;obtain⟨x,ex⟩: ∃x,xs.getD m 0=x:=⟨_,rfl⟩;rw[ex] at hx hxl hN;have a1:yB wr (wr.alloc (.cells #[yi (x:Int)] 3)):=(Below.refl _ _).alloc (Nat.le_refl _) _;have own1:=aaD wr wr.heap.size 3 x (Nat.le_refl _);have hRl:(Dg.dg 65536 R).length≤bs.length:=Dg.dg_len_le 65536 R bs.length (by omega) (Nat.lt_trans hRb (Dg.vl_lt 65536 bs sb));obtain⟨v1,w1,hrun,own2,gr⟩:=Ho (P:=Tryz.prog) 29 29 i0 8 underlying29 hi hz0 hz1 hz2 (Nat.le_refl _) own1 (hR.l a1) (by simp only[List.length_cons,List.length_nil];omega) (by simp);have b1:yB wr w1:=a1.grown gr a1.size (fun k hk=>by cases hk;exact Nat.le_refl _)
   have hs2:Dg.Small 65536 ([x]++Dg.dg 65536 R):=Dg.small_cons.2 ⟨hxl,Dg.small_dg _ _ (by omega)⟩;have hv2:Dg.vl 65536 ([x]++Dg.dg 65536 R)=N:=by rw[List.singleton_append];simp only[Dg.vl];rw[Dg.vl_dg _ _ (by omega),hN]
   obtain⟨g1,c1,rfl,-,-⟩:=World.ownsRow.form own2 (by simp);have r2:=own2.rd;have hl2:([x]++Dg.dg 65536 R).length≤1000000:=by simp only[List.length_append,List.length_cons,List.length_nil];omega
   have own:=own.l b1;have bel:=aa bel b1;have HSET:Hid (BI xs (cur.set m (N/Dg.vl 65536 bs)) (Dg.vl 65536 bs) m (N % Dg.vl 65536 bs)):=hset;have HSKIP:Hid (N<Dg.vl 65536 bs→BI xs cur (Dg.vl 65536 bs) m N):=hskip;have HNLT:Hid (N<65536*Dg.vl 65536 bs):=hNlt;have HV2:Hid (Dg.vl 65536 ([x]++Dg.dg 65536 R)=N):=hv2;have HS2:Hid (Dg.Small 65536 ([x]++Dg.dg 65536 R)):=hs2;clear hset hskip hNlt hv2 hs2 own2 gr a1 own1 hR hI ex hN hcell hRb hRl b1
   go_wp2_with (at_builtin;refine kq (by rfl) _ _ 29 (by rfl) _ _ _ w1 (by rfl) (by rfl) hrun ?_)
   go_wp2_with fail
   refine(i9 _ _ _ _ _ r2).mono ?_;rintro e w' ⟨n1,rfl,htr,rfl⟩;have hml:=htr.1;have r1:=uE (cap':=n1) 65536 (by omega) r2 HS2.out htr (Nat.le_refl _) (by unfold maxLen;omega);rw[HV2.out] at r1;clear htr r2 HS2 HV2 hrun;have HN1:Hid (n1=(Dg.dg 65536 N).length):=wn r1
   by_cases hlt:N<Dg.vl 65536 bs
   ·have hI2:=HSKIP.out hlt
    go_wp2_with fail
    refine(HBC.out _ N _ bel r1).mono ?_;rintro e w2 ⟨rfl,b2⟩;rw[gX (by omega)];have own:=own.l b2;have r2:=r1.l b2;have bel:=aa bel b2
    go_wp2
    go_roundw
    case rel=>exact⟨m,N,cur,by omega,by go_num,own,r2,hI2,bel⟩
    case measure=>simp[intOf]
   ·have hd:=Ti (a:=(N:Int)) (b:=(Dg.vl 65536 bs:Int)) (by omega)
    obtain⟨cr,hcr⟩: ∃cr,dm (N:Int) (Dg.vl 65536 bs:Int)=cr:=⟨_,rfl⟩;rw[hcr] at hd;have HCR:Hid (dm (N:Int) (Dg.vl 65536 bs:Int)=cr):=hcr;clear hcr
    go_wp2_with fail
    refine(HBC.out _ N _ bel r1).mono ?_;rintro e w2 ⟨rfl,b2⟩;rw[HCR.out];have own:=own.l b2;have r2:=r1.l b2;have bel:=aa bel b2;obtain⟨-,-,hcb2⟩:=iQ (HB.out.l bel);obtain⟨bb,boff,rfl,hcellb⟩:=hcb2 (by omega);have e1:=hcellb (bs.length-1) (by omega);have e0:=hcellb (bs.length-2) (by omega);have hd1:=sb (bs.length-1);have hd0:=sb (bs.length-2);obtain⟨d1,ed1⟩: ∃d1,bs.getD (bs.length-1) 0=d1:=⟨_,rfl⟩;obtain⟨d0,ed0⟩: ∃d0,bs.getD (bs.length-2) 0=d0:=⟨_,rfl⟩;have hgs:=Zu (Dg.dg 65536 N) bs bs.length N (Dg.vl 65536 bs) (sJ (Dg.dg 65536 N) bs.length 3) (d1*65536+d0) hb2 rfl (Dg.small_dg _ _ (by omega)) nb (Dg.vl_dg _ _ (by omega)) rfl (Dg.dg_len_le 65536 N _ (by omega) (by
     have h5:=Dg.vl_lt 65536 bs sb;have h6:=HNLT.out;rw[Nat.pow_succ];omega)) HNLT.out (by simp[sJ]) (by rw[ed1,ed0])
    rw[ed1] at e1 hd1;rw[ed0] at e0 hd0;have n1':((bs.length:Int)-1)=((bs.length-1:Nat):Int):=by omega
    have n2':((bs.length:Int)-2)=((bs.length-2:Nat):Int):=by omega
    have hi1:((bs.length-1:Nat):Int)< (bs.length:Int):=by omega
    have hi2:((bs.length-2:Nat):Int)< (bs.length:Int):=by omega
    have HGS:Hid _:=hgs;clear hgs ed1 ed0 hcellb hcb2 HCR
    go_wp2
    go_quiet (fail)
    go_wp2
    have bq:yB w2 (w2.drewN nq):=aL (Below.refl _ _) nq;have own:=own.l bq;have r2:=r2.l bq;have bel:=aa bel bq;obtain⟨W3,hW3⟩: ∃W3,w2.drewN nq=W3:=⟨_,rfl⟩;rw[hW3] at own r2 bel;have HW3:Hid (w2.drewN nq=W3):=hW3;rw[hW3];clear hW3 bq b2
    go_loopw [12,14] (fun tv jv wq=>wq=W3∧ ∃j:Nat,j≤3∧jv=yi j∧tv=yi (sJ (Dg.dg 65536 N) bs.length j)) (fun _ jv _=>3-(intOf jv).toNat)
    case atStart=>exact⟨rfl,0,by omega,rfl,rfl⟩
    case round=>
     obtain⟨hwq,j,hj,rfl,rfl⟩:=hrel;subst hwq;have hT:=Wm (Dg.small_dg 65536 N (by omega)) bs.length j;have hTj:j<3→sJ (Dg.dg 65536 N) bs.length j<4294967296:=fun h=>Nat.lt_of_lt_of_le hT (Nat.pow_le_pow_right (n:=65536) (by omega) (show j≤2 by omega))
     have hTs:sJ (Dg.dg 65536 N) bs.length (j+1)=65536*sJ (Dg.dg 65536 N) bs.length j+(Dg.dg 65536 N).getD (bs.length-j) 0:=rfl;have hDl:=Dg.small_dg 65536 N (by omega) (bs.length-j);have hD0: ¬bs.length-j<n1→(Dg.dg 65536 N).getD (bs.length-j) 0=0:=fun h=>Dg.getD_of_le _ _ (by rw[←HN1.out];omega)
     have hDc:bs.length-j<n1→wr.cell? ⟨g1,bs.length-j,none⟩=some (yi (((Dg.dg 65536 N).getD (bs.length-j) 0:Nat):Int)):=fun h=>Wo r2 _ (by rw[←HN1.out];exact h)
     by_cases hj3:j<3
     ·have hTl:=hTj hj3
      obtain⟨T,hTe⟩: ∃T,sJ (Dg.dg 65536 N) bs.length j=T:=⟨_,rfl⟩;obtain⟨D,hDe⟩: ∃D,(Dg.dg 65536 N).getD (bs.length-j) 0=D:=⟨_,rfl⟩;rw[hTe] at hTs hTl⊢;rw[hDe] at hTs hDl hD0 hDc;obtain⟨i,hie⟩: ∃i,bs.length-j=i:=⟨_,rfl⟩;have hiI:((bs.length:Int)-(j:Int))=(i:Int):=by omega
      rw[hie] at hD0 hDc;have HTS:Hid (sJ (Dg.dg 65536 N) bs.length (j+1)=65536*T+D):=hTs;clear hT hTj hTs hTe hDe hie
      by_cases hat:i<n1
      ·have hDc:=hDc hat
       clear hD0
       go_wp2
       go_roundw
       case rel=>exact⟨trivial,j+1,by omega,by go_num,by rw[HTS.out];go_num⟩
       case measure=>simp[intOf];omega
      ·have hD:=hD0 hat
       subst hD;clear hDc hD0
       go_wp2
       go_roundw
       case rel=>exact⟨trivial,j+1,by omega,by go_num,by rw[HTS.out];go_num⟩
       case measure=>simp[intOf];omega
     ·have hj4:j=3:=by omega
      subst hj4;clear hTj hTs hDl hD0 hDc hj hj3;have hTl:sJ (Dg.dg 65536 N) bs.length 3<281474976710656:=Nat.lt_of_lt_of_le hT (by decide);clear hT;obtain⟨T,hTe⟩: ∃T,sJ (Dg.dg 65536 N) bs.length 3=T:=⟨_,rfl⟩;rw[hTe] at HGS hTl⊢;clear hTe;have hq1:(T:Int).tdiv ((d1:Int)*65536+(d0:Int)+1)=((T/(d1*65536+d0+1):Nat):Int):=by
       rw[Int.tdiv_eq_ediv_of_nonneg (by omega)];exact(Int.natCast_ediv T (d1*65536+d0+1)).symm
      have hq2:(T:Int)/((d1:Int)*65536+(d0:Int)+1)=((T/(d1*65536+d0+1):Nat):Int):=(Int.natCast_ediv T (d1*65536+d0+1)).symm;have hql:T/(d1*65536+d0+1)≤T:=Nat.div_le_self _ _;obtain⟨q,hqe⟩: ∃q,T/(d1*65536+d0+1)=q:=⟨_,rfl⟩;rw[hqe] at HGS hq1 hq2 hql;have hne:(((d1:Int)*65536+(d0:Int)+1)==0)=false:=by simp;omega
      clear hqe
      go_wp2
      obtain⟨D,hD⟩: ∃D:Nat,min (65535:Int) (max 0 ((q:Int)-1)+4)=(D:Int):=⟨(min (65535:Int) (max 0 ((q:Int)-1)+4)).toNat,by omega⟩;have HD1:Hid (N/Dg.vl 65536 bs≤D∧D≤65535):=⟨by have:=HGS.out;omega,by omega⟩;have HD2:Hid (min (65535:Int) (max 0 ((q:Int)-1)+4)=(D:Int)):=hD;clear hD HGS hq1 hq2 hql hne hTl;obtain⟨W5,rfl⟩: ∃W5,W5=wr:=⟨_,rfl⟩
      go_loopw [10,17] (fun rv dv wq=>aev W5 g1 n1 (N/Dg.vl 65536 bs) rv dv wq) (fun _ dv _=>(intOf dv).toNat)
      case atStart=>exact⟨rfl,D,HD1.out.1,HD1.out.2,by rw[HD2.out],Below.refl _ _⟩
      case round=>
       obtain⟨rfl,d,hg1,hg2,rfl,b5⟩:=hrel;have own5:=own.l b5;have r5:=r2.l b5;have bel5:=aa bel b5;have hNl:(Dg.dg 65536 N).length≤1000000:=by rw[←HN1.out];omega
       clear HD1 HD2
       by_cases hle:Dg.vl 65536 bs*d≤N
       ·have hdq:=NG hg1 hle hb0
        have hcle:=Wn (a:=((Dg.vl 65536 bs*d:Nat):Int)) (b:=(N:Int)) (Int.ofNat_le.2 hle);obtain⟨cz,hcz⟩: ∃cz,dm ((Dg.vl 65536 bs*d:Nat):Int) (N:Int)=cz:=⟨_,rfl⟩;rw[hcz] at hcle;have HCZ:Hid (dm ((Dg.vl 65536 bs*d:Nat):Int) (N:Int)=cz):=hcz;have HLE:Hid (Dg.vl 65536 bs*d≤N):=hle;have HDQ:Hid (d=N/Dg.vl 65536 bs):=hdq;clear hcz hle hdq
        go_wp2_with fail
        refine(Bj d _ (by omega)).mono ?_;rintro e w6 ⟨v6,rfl,r6,b6⟩;have bel6:=aa bel5 b6
        go_wp2_with fail
        refine(HTM.out _ d _ (by omega) bel6 r6).mono ?_;rintro e w7 ⟨v7,rfl,r7,b7⟩;have b57:=aa b6 b7;have bel7:=aa bel5 b57;have r57:=r5.l b57;clear bel6 r6 b6 b7
        go_wp2_with fail
        refine(HCM.out _ _ _ _ _ r7 r57).mono ?_;rintro e w8 ⟨rfl,b8⟩;rw[HCZ.out];have r7:=r7.l b8;have r58:=r57.l b8;have bel8:=aa bel7 b8;have own8:=(own5.l b57).l b8;clear r57 bel7 b57 HCZ own5
        go_wp2_with fail
        refine(HLS.out _ _ _ _ _ hNl HLE.out r58 r7).mono ?_;rintro e w9 ⟨v9,rfl,r9,f9,b9⟩;have own9:=own8.l b9;have bel9:=aa bel8 b9;have hq9:=own9.c m (by omega);have hf9:=own9.f m;have hs9:w.heap.size<w8.heap.size:=by have:=own8.block;omega
        have own10:=own9.store m d;have r10:=r9.set_far (g:=w.heap.size) (j:=m) f9 hs9 (yi (d:Int));have bel10:=bel9.setCell (p:=⟨w.heap.size,m,none⟩) (Nat.le_refl _) (yi (d:Int));have HN:Hid (N-Dg.vl 65536 bs*d=N % Dg.vl 65536 bs):=by
         rw[HDQ.out];have:=Nat.div_add_mod N (Dg.vl 65536 bs);unfold Hid;omega
        clear r58 r7 bel8 own8 b8 b9 HLE f9 r9 bel9
        go_wp2
        go_roundw
        case rel=>exact⟨m,N % Dg.vl 65536 bs,cur.set m (N/Dg.vl 65536 bs),by omega,by go_num,by rw[←HDQ.out];exact own10,by rw[←HN.out];exact r10,HSET.out,bel10⟩
        case measure=>simp[intOf]
       ·have hdl:=QW hg1 hle hb0
        have hcz:=sO (a:=((Dg.vl 65536 bs*d:Nat):Int)) (b:=(N:Int)) (by omega);have HCZ:Hid (dm ((Dg.vl 65536 bs*d:Nat):Int) (N:Int)=1):=hcz;have HG:Hid (N/Dg.vl 65536 bs≤d-1):=Nat.le_sub_of_add_le hdl;have hd0':0<d:=Nat.lt_of_lt_of_le (Nat.succ_pos _) hdl;clear hcz hle hdl
        go_wp2_with fail
        refine(Bj d _ (by omega)).mono ?_;rintro e w6 ⟨v6,rfl,r6,b6⟩;have bel6:=aa bel5 b6
        go_wp2_with fail
        refine(HTM.out _ d _ (by omega) bel6 r6).mono ?_;rintro e w7 ⟨v7,rfl,r7,b7⟩;have b57:=aa b6 b7;have r57:=r5.l b57;clear bel6 r6 b6 b7
        go_wp2_with fail
        refine(HCM.out _ _ _ _ _ r7 r57).mono ?_;rintro e w8 ⟨rfl,b8⟩;rw[HCZ.out];have b58:=aa (aa b5 b57) b8;clear r57 b57 HCZ own5 r7
        go_wp2
        go_roundw
        case rel=>
         refine⟨_,_,_,_,_,_,_,_,_,_,_,_,_,_,_,_,_,_,_,_,⟨rfl,d-1,HG.out,by omega, ?_,b58⟩,rfl⟩
         go_num
        case measure=>simp[intOf];omega
def JI (w:World)(q r:Nat)(e:Ending)(w':World):Prop:=
 ∃vq vr,e= .returned (.tuple #[vq,vr])∧Rd w' .i64 vq (Dg.dg 65536 q)∧Rd w' .i64 vr (Dg.dg 65536 r)∧yB w w'
theorem qM (va vb:Value)(a b:Nat)(w:World)(ha:Rd w .i64 va (Dg.dg 65536 a))(hb:Rd w .i64 vb (Dg.dg 65536 b))(hla:(Dg.dg 65536 a).length≤900000)(hlb:(Dg.dg 65536 b).length≤900000)(hb0:0<b):
  yC 35 #[va,vb] w (JI w (a/b) (a % b)):=by
 have hne: ¬(Dg.dg 65536 b).length=0:=by rw[List.length_eq_zero_iff,Dg.dg_nil_iff _ _ (by omega)];omega
 by_cases h1:(Dg.dg 65536 b).length=1
 ·obtain⟨d,hd⟩: ∃d,Dg.dg 65536 b=[d]:=List.length_eq_one_iff.1 h1
  have hs:=Dg.small_dg 65536 b (by omega);have hv:=Dg.vl_dg 65536 b (by omega);rw[hd] at hs hv;have hdb:d=b:=by simpa[Dg.vl] using hv
  subst hdb;have:=IU va _ vb d w ha (by rw[←hd];exact hb) (Dg.small_dg _ _ (by omega)) (by omega) hb0 (Dg.small_cons.1 hs).1;rw[Dg.vl_dg _ _ (by omega)] at this;exact this
 ·have:=Tj va vb _ _ w ha hb (Dg.small_dg _ _ (by omega)) (Dg.small_dg _ _ (by omega)) (Dg.norm_dg _ _ (by omega)) hla hlb (by omega)
  rw[Dg.vl_dg _ _ (by omega),Dg.vl_dg _ _ (by omega)] at this;exact this
theorem t9 {w:World}{k:IntKind}{v:Value}{zs:List Nat}(h:Rd w k v zs){b:Nat}(hb:w.heap.size≤b):wF b v zs:=fun hp a n c hv=>by
 obtain⟨ao,cap,rfl,_,_,h3⟩:=h;obtain⟨g,off,rfl,hc⟩:=h3 hp
 cases hv
 have h0:=hc 0 hp
 show g≠b
 intro e;subst e;unfold World.cell? at h0;simp only at h0;rw[Array.getElem?_eq_none hb] at h0
 cases h0
theorem nD (a b c d e f g:Int)(w:World):yC 40 #[yi a,yi b,yi c,yi d,yi e,yi f,yi g] w (yR w (yhV a b c 2 d e f (g==1) g)):=by
 go_enter func40,ntmps40
 go_wp2
 go_returns
 exact⟨rfl,af _ _⟩
theorem Ly (w:World):yC 14 #[yi 1] w (yR w (.tuple #[yhV 4 8 23 2 24 (-149) 104 true 1,.bool true])):=by
 have HT:Hid (yJ 40 #[yi 4,yi 8,yi 23,yi 24,yi (-149),yi 104,yi 1] (yhV 4 8 23 2 24 (-149) 104 true 1)):=fun w1=>nD _ _ _ _ _ _ _ w1
 have l0:=ah w (yhL 0 0 0 0 0 0 0 false 0) 42;have b0:=af w (.cells (yhA 0 0 0 0 0 0 0 false 0) 42)
 go_enter func14,ntmps14
 go_wp2_with fail
 refine(HT.out _).mono ?_;rintro z w2 ⟨rfl,b2⟩;have l2:=l0.l b2;have cR:au (((((((((w2.setCell ⟨w.heap.size,0,none⟩ (yi 4)).setCell ⟨w.heap.size,1,none⟩ (yi 8)).setCell ⟨w.heap.size,2,none⟩ (yi 23)).setCell ⟨w.heap.size,3,none⟩ (yi 2)).setCell ⟨w.heap.size,4,none⟩ (yi 24)).setCell ⟨w.heap.size,5,none⟩ (yi (-149))).setCell ⟨w.heap.size,6,none⟩ (yi 104)).setCell ⟨w.heap.size,7,none⟩ (.bool true)).setCell ⟨w.heap.size,8,none⟩ (yi 1)) w.heap.size 42 (yhL 4 8 23 2 24 (-149) 104 true 1):=(((((((((l2.set 0 (yi 4)).set 1 (yi 8)).set 2 (yi 23)).set 3 (yi 2)).set 4 (yi 24)).set 5 (yi (-149))).set 6 (yi 104)).set 7 (.bool true)).set 8 (yi 1));have bR:=(((((((((ag w2 w.heap.size 0 (yi 4)).trans (ag _ w.heap.size 1 (yi 8))).trans (ag _ w.heap.size 2 (yi 23))).trans (ag _ w.heap.size 3 (yi 2))).trans (ag _ w.heap.size 4 (yi 24))).trans (ag _ w.heap.size 5 (yi (-149)))).trans (ag _ w.heap.size 6 (yi 104))).trans (ag _ w.heap.size 7 (.bool true))).trans (ag _ w.heap.size 8 (yi 1))).below (aa b0 b2) (Nat.le_refl _);have hl:=run_loadVar_mid (P:=Tryz.prog) _ w.heap.size 0 42 (yhL 4 8 23 2 24 (-149) 104 true 1) _ cR.range underlying42 rfl (by kernel_rfl);have HH:Hid (_∧_):=⟨hl,bR⟩;have x0:=l2.c 0 rfl;have f0:=l2.f 0;have x1:=l2.c 1 rfl;have f1:=l2.f 1;have x2:=l2.c 2 rfl;have f2:=l2.f 2;have x3:=l2.c 3 rfl;have f3:=l2.f 3;have x4:=l2.c 4 rfl;have f4:=l2.f 4;have x5:=l2.c 5 rfl;have f5:=l2.f 5;have x6:=l2.c 6 rfl;have f6:=l2.f 6;have x7:=l2.c 7 rfl;have f7:=l2.f 7;have x8:=l2.c 8 rfl;have f8:=l2.f 8;clear hl bR cR l0 l2 b0 b2 HT
 go_wp2
 obtain⟨hl,bR⟩:=HH.out;exact bodyPost_ret (aj results14 rfl rfl hl) rfl ⟨rfl,bR⟩
theorem Lz (w:World):yC 14 #[yi 2] w (yR w (.tuple #[yhV 8 11 52 2 53 (-1074) 971 true 1,.bool true])):=by
 have HT:Hid (yJ 40 #[yi 8,yi 11,yi 52,yi 53,yi (-1074),yi 971,yi 1] (yhV 8 11 52 2 53 (-1074) 971 true 1)):=fun w1=>nD _ _ _ _ _ _ _ w1
 have l0:=ah w (yhL 0 0 0 0 0 0 0 false 0) 42;have b0:=af w (.cells (yhA 0 0 0 0 0 0 0 false 0) 42)
 go_enter func14,ntmps14
 go_wp2_with fail
 refine(HT.out _).mono ?_;rintro z w2 ⟨rfl,b2⟩;have l2:=l0.l b2;have cR:au (((((((((w2.setCell ⟨w.heap.size,0,none⟩ (yi 8)).setCell ⟨w.heap.size,1,none⟩ (yi 11)).setCell ⟨w.heap.size,2,none⟩ (yi 52)).setCell ⟨w.heap.size,3,none⟩ (yi 2)).setCell ⟨w.heap.size,4,none⟩ (yi 53)).setCell ⟨w.heap.size,5,none⟩ (yi (-1074))).setCell ⟨w.heap.size,6,none⟩ (yi 971)).setCell ⟨w.heap.size,7,none⟩ (.bool true)).setCell ⟨w.heap.size,8,none⟩ (yi 1)) w.heap.size 42 (yhL 8 11 52 2 53 (-1074) 971 true 1):=(((((((((l2.set 0 (yi 8)).set 1 (yi 11)).set 2 (yi 52)).set 3 (yi 2)).set 4 (yi 53)).set 5 (yi (-1074))).set 6 (yi 971)).set 7 (.bool true)).set 8 (yi 1));have bR:=(((((((((ag w2 w.heap.size 0 (yi 8)).trans (ag _ w.heap.size 1 (yi 11))).trans (ag _ w.heap.size 2 (yi 52))).trans (ag _ w.heap.size 3 (yi 2))).trans (ag _ w.heap.size 4 (yi 53))).trans (ag _ w.heap.size 5 (yi (-1074)))).trans (ag _ w.heap.size 6 (yi 971))).trans (ag _ w.heap.size 7 (.bool true))).trans (ag _ w.heap.size 8 (yi 1))).below (aa b0 b2) (Nat.le_refl _);have hl:=run_loadVar_mid (P:=Tryz.prog) _ w.heap.size 0 42 (yhL 8 11 52 2 53 (-1074) 971 true 1) _ cR.range underlying42 rfl (by kernel_rfl);have HH:Hid (_∧_):=⟨hl,bR⟩;have x0:=l2.c 0 rfl;have f0:=l2.f 0;have x1:=l2.c 1 rfl;have f1:=l2.f 1;have x2:=l2.c 2 rfl;have f2:=l2.f 2;have x3:=l2.c 3 rfl;have f3:=l2.f 3;have x4:=l2.c 4 rfl;have f4:=l2.f 4;have x5:=l2.c 5 rfl;have f5:=l2.f 5;have x6:=l2.c 6 rfl;have f6:=l2.f 6;have x7:=l2.c 7 rfl;have f7:=l2.f 7;have x8:=l2.c 8 rfl;have f8:=l2.f 8;clear hl bR cR l0 l2 b0 b2 HT
 go_wp2
 obtain⟨hl,bR⟩:=HH.out;exact bodyPost_ret (aj results14 rfl rfl hl) rfl ⟨rfl,bR⟩
theorem LA (w:World):yC 14 #[yi 3] w (yR w (.tuple #[yhV 10 15 64 2 64 (-16445) 16320 true 1,.bool true])):=by
 have HT:Hid (yJ 40 #[yi 10,yi 15,yi 64,yi 64,yi (-16445),yi 16320,yi 1] (yhV 10 15 64 2 64 (-16445) 16320 true 1)):=fun w1=>nD _ _ _ _ _ _ _ w1
 have l0:=ah w (yhL 0 0 0 0 0 0 0 false 0) 42;have b0:=af w (.cells (yhA 0 0 0 0 0 0 0 false 0) 42)
 go_enter func14,ntmps14
 go_wp2_with fail
 refine(HT.out _).mono ?_;rintro z w2 ⟨rfl,b2⟩;have l2:=l0.l b2;have cR:au (((((((((w2.setCell ⟨w.heap.size,0,none⟩ (yi 10)).setCell ⟨w.heap.size,1,none⟩ (yi 15)).setCell ⟨w.heap.size,2,none⟩ (yi 64)).setCell ⟨w.heap.size,3,none⟩ (yi 2)).setCell ⟨w.heap.size,4,none⟩ (yi 64)).setCell ⟨w.heap.size,5,none⟩ (yi (-16445))).setCell ⟨w.heap.size,6,none⟩ (yi 16320)).setCell ⟨w.heap.size,7,none⟩ (.bool true)).setCell ⟨w.heap.size,8,none⟩ (yi 1)) w.heap.size 42 (yhL 10 15 64 2 64 (-16445) 16320 true 1):=(((((((((l2.set 0 (yi 10)).set 1 (yi 15)).set 2 (yi 64)).set 3 (yi 2)).set 4 (yi 64)).set 5 (yi (-16445))).set 6 (yi 16320)).set 7 (.bool true)).set 8 (yi 1));have bR:=(((((((((ag w2 w.heap.size 0 (yi 10)).trans (ag _ w.heap.size 1 (yi 15))).trans (ag _ w.heap.size 2 (yi 64))).trans (ag _ w.heap.size 3 (yi 2))).trans (ag _ w.heap.size 4 (yi 64))).trans (ag _ w.heap.size 5 (yi (-16445)))).trans (ag _ w.heap.size 6 (yi 16320))).trans (ag _ w.heap.size 7 (.bool true))).trans (ag _ w.heap.size 8 (yi 1))).below (aa b0 b2) (Nat.le_refl _);have hl:=run_loadVar_mid (P:=Tryz.prog) _ w.heap.size 0 42 (yhL 10 15 64 2 64 (-16445) 16320 true 1) _ cR.range underlying42 rfl (by kernel_rfl);have HH:Hid (_∧_):=⟨hl,bR⟩;have x0:=l2.c 0 rfl;have f0:=l2.f 0;have x1:=l2.c 1 rfl;have f1:=l2.f 1;have x2:=l2.c 2 rfl;have f2:=l2.f 2;have x3:=l2.c 3 rfl;have f3:=l2.f 3;have x4:=l2.c 4 rfl;have f4:=l2.f 4;have x5:=l2.c 5 rfl;have f5:=l2.f 5;have x6:=l2.c 6 rfl;have f6:=l2.f 6;have x7:=l2.c 7 rfl;have f7:=l2.f 7;have x8:=l2.c 8 rfl;have f8:=l2.f 8;clear hl bR cR l0 l2 b0 b2 HT
 go_wp2
 obtain⟨hl,bR⟩:=HH.out;exact bodyPost_ret (aj results14 rfl rfl hl) rfl ⟨rfl,bR⟩
theorem LC (w:World):yC 14 #[yi 4] w (yR w (.tuple #[yhV 4 7 24 16 6 (-70) 57 false 2,.bool true])):=by
 have l0:=ah w (yhL 4 7 24 16 6 (-70) 57 false 2) 42;have b0:=af w (.cells (yhA 4 7 24 16 6 (-70) 57 false 2) 42);have hl:=run_loadVar_mid (P:=Tryz.prog) _ w.heap.size 0 42 (yhL 4 7 24 16 6 (-70) 57 false 2) _ l0.range underlying42 rfl (by kernel_rfl);have HH:Hid (_∧_):=⟨hl,b0⟩;clear hl b0 l0
 go_enter func14,ntmps14
 go_wp2
 obtain⟨hl,bR⟩:=HH.out;exact bodyPost_ret (aj results14 rfl rfl hl) rfl ⟨rfl,bR⟩
theorem LD (w:World):yC 14 #[yi 5] w (yR w (.tuple #[yhV 8 7 56 16 14 (-78) 49 false 2,.bool true])):=by
 have l0:=ah w (yhL 8 7 56 16 14 (-78) 49 false 2) 42;have b0:=af w (.cells (yhA 8 7 56 16 14 (-78) 49 false 2) 42);have hl:=run_loadVar_mid (P:=Tryz.prog) _ w.heap.size 0 42 (yhL 8 7 56 16 14 (-78) 49 false 2) _ l0.range underlying42 rfl (by kernel_rfl);have HH:Hid (_∧_):=⟨hl,b0⟩;clear hl b0 l0
 go_enter func14,ntmps14
 go_wp2
 obtain⟨hl,bR⟩:=HH.out;exact bodyPost_ret (aj results14 rfl rfl hl) rfl ⟨rfl,bR⟩
theorem LE (w:World):yC 14 #[yi 6] w (yR w (.tuple #[yhV 4 8 23 2 24 (-151) 103 false 3,.bool true])):=by
 have HT:Hid (yJ 40 #[yi 4,yi 8,yi 23,yi 24,yi (-151),yi 103,yi 3] (yhV 4 8 23 2 24 (-151) 103 false 3)):=fun w1=>nD _ _ _ _ _ _ _ w1
 have l0:=ah w (yhL 0 0 0 0 0 0 0 false 0) 42;have b0:=af w (.cells (yhA 0 0 0 0 0 0 0 false 0) 42)
 go_enter func14,ntmps14
 go_wp2_with fail
 refine(HT.out _).mono ?_;rintro z w2 ⟨rfl,b2⟩;have l2:=l0.l b2;have cR:au (((((((((w2.setCell ⟨w.heap.size,0,none⟩ (yi 4)).setCell ⟨w.heap.size,1,none⟩ (yi 8)).setCell ⟨w.heap.size,2,none⟩ (yi 23)).setCell ⟨w.heap.size,3,none⟩ (yi 2)).setCell ⟨w.heap.size,4,none⟩ (yi 24)).setCell ⟨w.heap.size,5,none⟩ (yi (-151))).setCell ⟨w.heap.size,6,none⟩ (yi 103)).setCell ⟨w.heap.size,7,none⟩ (.bool false)).setCell ⟨w.heap.size,8,none⟩ (yi 3)) w.heap.size 42 (yhL 4 8 23 2 24 (-151) 103 false 3):=(((((((((l2.set 0 (yi 4)).set 1 (yi 8)).set 2 (yi 23)).set 3 (yi 2)).set 4 (yi 24)).set 5 (yi (-151))).set 6 (yi 103)).set 7 (.bool false)).set 8 (yi 3));have bR:=(((((((((ag w2 w.heap.size 0 (yi 4)).trans (ag _ w.heap.size 1 (yi 8))).trans (ag _ w.heap.size 2 (yi 23))).trans (ag _ w.heap.size 3 (yi 2))).trans (ag _ w.heap.size 4 (yi 24))).trans (ag _ w.heap.size 5 (yi (-151)))).trans (ag _ w.heap.size 6 (yi 103))).trans (ag _ w.heap.size 7 (.bool false))).trans (ag _ w.heap.size 8 (yi 3))).below (aa b0 b2) (Nat.le_refl _);have hl:=run_loadVar_mid (P:=Tryz.prog) _ w.heap.size 0 42 (yhL 4 8 23 2 24 (-151) 103 false 3) _ cR.range underlying42 rfl (by kernel_rfl);have HH:Hid (_∧_):=⟨hl,bR⟩;have x0:=l2.c 0 rfl;have f0:=l2.f 0;have x1:=l2.c 1 rfl;have f1:=l2.f 1;have x2:=l2.c 2 rfl;have f2:=l2.f 2;have x3:=l2.c 3 rfl;have f3:=l2.f 3;have x4:=l2.c 4 rfl;have f4:=l2.f 4;have x5:=l2.c 5 rfl;have f5:=l2.f 5;have x6:=l2.c 6 rfl;have f6:=l2.f 6;have x7:=l2.c 7 rfl;have f7:=l2.f 7;have x8:=l2.c 8 rfl;have f8:=l2.f 8;clear hl bR cR l0 l2 b0 b2 HT
 go_wp2
 obtain⟨hl,bR⟩:=HH.out;exact bodyPost_ret (aj results14 rfl rfl hl) rfl ⟨rfl,bR⟩
theorem LF (w:World):yC 14 #[yi 7] w (yR w (.tuple #[yhV 8 8 55 2 56 (-183) 71 false 3,.bool true])):=by
 have HT:Hid (yJ 40 #[yi 8,yi 8,yi 55,yi 56,yi (-183),yi 71,yi 3] (yhV 8 8 55 2 56 (-183) 71 false 3)):=fun w1=>nD _ _ _ _ _ _ _ w1
 have l0:=ah w (yhL 0 0 0 0 0 0 0 false 0) 42;have b0:=af w (.cells (yhA 0 0 0 0 0 0 0 false 0) 42)
 go_enter func14,ntmps14
 go_wp2_with fail
 refine(HT.out _).mono ?_;rintro z w2 ⟨rfl,b2⟩;have l2:=l0.l b2;have cR:au (((((((((w2.setCell ⟨w.heap.size,0,none⟩ (yi 8)).setCell ⟨w.heap.size,1,none⟩ (yi 8)).setCell ⟨w.heap.size,2,none⟩ (yi 55)).setCell ⟨w.heap.size,3,none⟩ (yi 2)).setCell ⟨w.heap.size,4,none⟩ (yi 56)).setCell ⟨w.heap.size,5,none⟩ (yi (-183))).setCell ⟨w.heap.size,6,none⟩ (yi 71)).setCell ⟨w.heap.size,7,none⟩ (.bool false)).setCell ⟨w.heap.size,8,none⟩ (yi 3)) w.heap.size 42 (yhL 8 8 55 2 56 (-183) 71 false 3):=(((((((((l2.set 0 (yi 8)).set 1 (yi 8)).set 2 (yi 55)).set 3 (yi 2)).set 4 (yi 56)).set 5 (yi (-183))).set 6 (yi 71)).set 7 (.bool false)).set 8 (yi 3));have bR:=(((((((((ag w2 w.heap.size 0 (yi 8)).trans (ag _ w.heap.size 1 (yi 8))).trans (ag _ w.heap.size 2 (yi 55))).trans (ag _ w.heap.size 3 (yi 2))).trans (ag _ w.heap.size 4 (yi 56))).trans (ag _ w.heap.size 5 (yi (-183)))).trans (ag _ w.heap.size 6 (yi 71))).trans (ag _ w.heap.size 7 (.bool false))).trans (ag _ w.heap.size 8 (yi 3))).below (aa b0 b2) (Nat.le_refl _);have hl:=run_loadVar_mid (P:=Tryz.prog) _ w.heap.size 0 42 (yhL 8 8 55 2 56 (-183) 71 false 3) _ cR.range underlying42 rfl (by kernel_rfl);have HH:Hid (_∧_):=⟨hl,bR⟩;have x0:=l2.c 0 rfl;have f0:=l2.f 0;have x1:=l2.c 1 rfl;have f1:=l2.f 1;have x2:=l2.c 2 rfl;have f2:=l2.f 2;have x3:=l2.c 3 rfl;have f3:=l2.f 3;have x4:=l2.c 4 rfl;have f4:=l2.f 4;have x5:=l2.c 5 rfl;have f5:=l2.f 5;have x6:=l2.c 6 rfl;have f6:=l2.f 6;have x7:=l2.c 7 rfl;have f7:=l2.f 7;have x8:=l2.c 8 rfl;have f8:=l2.f 8;clear hl bR cR l0 l2 b0 b2 HT
 go_wp2
 obtain⟨hl,bR⟩:=HH.out;exact bodyPost_ret (aj results14 rfl rfl hl) rfl ⟨rfl,bR⟩
theorem LH (w:World):yC 14 #[yi 8] w (yR w (.tuple #[yhV 8 11 52 2 53 (-1076) 970 false 3,.bool true])):=by
 have HT:Hid (yJ 40 #[yi 8,yi 11,yi 52,yi 53,yi (-1076),yi 970,yi 3] (yhV 8 11 52 2 53 (-1076) 970 false 3)):=fun w1=>nD _ _ _ _ _ _ _ w1
 have l0:=ah w (yhL 0 0 0 0 0 0 0 false 0) 42;have b0:=af w (.cells (yhA 0 0 0 0 0 0 0 false 0) 42)
 go_enter func14,ntmps14
 go_wp2_with fail
 refine(HT.out _).mono ?_;rintro z w2 ⟨rfl,b2⟩;have l2:=l0.l b2;have cR:au (((((((((w2.setCell ⟨w.heap.size,0,none⟩ (yi 8)).setCell ⟨w.heap.size,1,none⟩ (yi 11)).setCell ⟨w.heap.size,2,none⟩ (yi 52)).setCell ⟨w.heap.size,3,none⟩ (yi 2)).setCell ⟨w.heap.size,4,none⟩ (yi 53)).setCell ⟨w.heap.size,5,none⟩ (yi (-1076))).setCell ⟨w.heap.size,6,none⟩ (yi 970)).setCell ⟨w.heap.size,7,none⟩ (.bool false)).setCell ⟨w.heap.size,8,none⟩ (yi 3)) w.heap.size 42 (yhL 8 11 52 2 53 (-1076) 970 false 3):=(((((((((l2.set 0 (yi 8)).set 1 (yi 11)).set 2 (yi 52)).set 3 (yi 2)).set 4 (yi 53)).set 5 (yi (-1076))).set 6 (yi 970)).set 7 (.bool false)).set 8 (yi 3));have bR:=(((((((((ag w2 w.heap.size 0 (yi 8)).trans (ag _ w.heap.size 1 (yi 11))).trans (ag _ w.heap.size 2 (yi 52))).trans (ag _ w.heap.size 3 (yi 2))).trans (ag _ w.heap.size 4 (yi 53))).trans (ag _ w.heap.size 5 (yi (-1076)))).trans (ag _ w.heap.size 6 (yi 970))).trans (ag _ w.heap.size 7 (.bool false))).trans (ag _ w.heap.size 8 (yi 3))).below (aa b0 b2) (Nat.le_refl _);have hl:=run_loadVar_mid (P:=Tryz.prog) _ w.heap.size 0 42 (yhL 8 11 52 2 53 (-1076) 970 false 3) _ cR.range underlying42 rfl (by kernel_rfl);have HH:Hid (_∧_):=⟨hl,bR⟩;have x0:=l2.c 0 rfl;have f0:=l2.f 0;have x1:=l2.c 1 rfl;have f1:=l2.f 1;have x2:=l2.c 2 rfl;have f2:=l2.f 2;have x3:=l2.c 3 rfl;have f3:=l2.f 3;have x4:=l2.c 4 rfl;have f4:=l2.f 4;have x5:=l2.c 5 rfl;have f5:=l2.f 5;have x6:=l2.c 6 rfl;have f6:=l2.f 6;have x7:=l2.c 7 rfl;have f7:=l2.f 7;have x8:=l2.c 8 rfl;have f8:=l2.f 8;clear hl bR cR l0 l2 b0 b2 HT
 go_wp2
 obtain⟨hl,bR⟩:=HH.out;exact bodyPost_ret (aj results14 rfl rfl hl) rfl ⟨rfl,bR⟩
def afl:Nat→List Value
 |1=>(yhL 4 8 23 2 24 (-149) 104 true 1)
 |2=>(yhL 8 11 52 2 53 (-1074) 971 true 1)
 |3=>(yhL 10 15 64 2 64 (-16445) 16320 true 1)
 |4=>(yhL 4 7 24 16 6 (-70) 57 false 2)
 |5=>(yhL 8 7 56 16 14 (-78) 49 false 2)
 |6=>(yhL 4 8 23 2 24 (-151) 103 false 3)
 |7=>(yhL 8 8 55 2 56 (-183) 71 false 3)
 |8=>(yhL 8 11 52 2 53 (-1076) 970 false 3)
 |_=>(yhL 0 0 0 0 0 0 0 false 0)
theorem qU (k:Nat)(hk:1≤k∧k≤8)(w:World):yC 14 #[yi k] w (yR w (.tuple #[.agg (afl k).toArray,.bool true])):=by
 rcases bO hk with rfl|rfl|rfl|rfl|rfl|rfl|rfl|rfl
 ·exact Ly w
 ·exact Lz w
 ·exact LA w
 ·exact LC w
 ·exact LD w
 ·exact LE w
 ·exact LF w
 ·exact LH w
def plN (k i:Nat):Nat:=if k=3 then szN k-1-i else if 6≤k then i+1-2*(i % 2) else i
theorem Kh (k:Nat)(zs:List Nat)(i:Nat)(hk:zs.length=szN k)(hi:i<zs.length):(jT k zs).getD i 0=zs.getD (plN k i) 0:=by
 unfold jT plN
 by_cases h3:k=3
 ·rw[if_pos h3,if_pos h3,List.getD_eq_getElem?_getD,List.getElem?_reverse hi,←List.getD_eq_getElem?_getD,hk]
 ·rw[if_neg h3,if_neg h3]
  by_cases h6:6≤k
  ·rw[if_pos h6,if_pos h6,Fl zs i hi]
  ·rw[if_neg h6,if_neg h6]
theorem Co {k i:Nat}(hk:1≤k∧k≤8)(hi:i<szN k):plN k i<szN k:=by
 obtain⟨m,hm⟩:=(fZ hk).2.2.2.2.1;unfold plN
 split
 ·omega
 ·split<;>omega
theorem sM (n:Int)(sz ex fr:Nat)(R D L G fam:Int)(gr:Bool)(i:Nat)(w:World)(hi:i<sz)(hsz:sz≤10)
  (HF:yJ 14 #[yi n] (.tuple #[yhV sz ex fr R D L G gr fam,.bool true])):
  yC 105 #[yi n,yi i] w (yR w (yi (if n=3 then sz-1-i else if fam=3 then i+1-2*((i:Int) % 2) else i))):=by
 have HF':Hid _:=HF;clear HF
 by_cases h3:n=3
 ·subst h3
  rw[if_pos rfl]
  go_enter func105,ntmps105
  go_wp2_with fail
  refine(HF'.out _).mono ?_;rintro z w1 ⟨rfl,b1⟩
  go_wp2
  go_ret
  exact⟨by go_num,aa b1 (af _ _)⟩
 ·have hn:(n==3)=false:=by simpa using h3
  rw[if_neg h3]
  by_cases hf:fam=3
  ·subst hf
   rw[if_pos rfl];clear h3
   go_enter func105,ntmps105
   go_wp2_with fail
   refine(HF'.out _).mono ?_;rintro z w1 ⟨rfl,b1⟩
   go_wp2
   go_ret
   exact⟨by go_num,aa b1 (af _ _)⟩
  ·have hfb:(fam==3)=false:=by simpa using hf
   rw[if_neg hf];clear h3 hf
   go_enter func105,ntmps105
   go_wp2_with fail
   refine(HF'.out _).mono ?_;rintro z w1 ⟨rfl,b1⟩
   go_wp2
   go_ret
   exact⟨rfl,aa b1 (af _ _)⟩
theorem IF (k:Nat)(hk:1≤k∧k≤8)(i:Nat)(hi:i<szN k)(w:World):yC 105 #[yi k,yi i] w (yR w (yi ((plN k i:Nat):Int))):=by
 have HF:=fun w1=>qU k hk w1
 have hsz:=(fZ hk).2.2.1;have key: ∀x:Int,((plN k i:Nat):Int)=x→yC 105 #[yi k,yi i] w ((yR w (yi x)))→yC 105 #[yi k,yi i] w ((yR w (yi ((plN k i:Nat):Int)))):=fun x hx h=>by rw[hx];exact h
 rcases bO hk with rfl|rfl|rfl|rfl|rfl|rfl|rfl|rfl
 ·exact key _ (by unfold plN;simp) (sM _ _ _ _ _ _ _ _ _ _ i w hi hsz HF)
 ·exact key _ (by unfold plN;simp) (sM _ _ _ _ _ _ _ _ _ _ i w hi hsz HF)
 ·exact key _ (by unfold plN;simp only[szN] at hi⊢;simp;omega) (sM _ _ _ _ _ _ _ _ _ _ i w hi hsz HF)
 ·exact key _ (by unfold plN;simp) (sM _ _ _ _ _ _ _ _ _ _ i w hi hsz HF)
 ·exact key _ (by unfold plN;simp) (sM _ _ _ _ _ _ _ _ _ _ i w hi hsz HF)
 ·exact key _ (by unfold plN;simp;omega) (sM _ _ _ _ _ _ _ _ _ _ i w hi hsz HF)
 ·exact key _ (by unfold plN;simp;omega) (sM _ _ _ _ _ _ _ _ _ _ i w hi hsz HF)
 ·exact key _ (by unfold plN;simp;omega) (sM _ _ _ _ _ _ _ _ _ _ i w hi hsz HF)
def jY (bf:Nat→Bool):Nat→Nat
 |0=>0
 |n+1=>jY bf n*2+if bf n then 1 else 0
theorem DZ (bf:Nat→Bool): ∀n,jY bf n<2^n
 |0=>by simp[jY]
 |n+1=>by
  have:=DZ bf n;rw[jY,Nat.pow_succ]
  split<;>omega
theorem eG (R D L G:Int)(gr:Bool)(w:World):
  yC 52 #[ygV R D L G gr] w (yR w (yi (wdI R))):=by
 have bA:=af w (.cells (ygA R D L G gr) 40);unfold wdI
 by_cases h:R=16
 ·rw[if_pos h]
  subst h
  go_enter func52,ntmps52
  go_wp2
  go_ret
  exact⟨rfl,bA⟩
 ·rw[if_neg h]
  have e:(R==16)=false:=by simp;exact h
  go_enter func52,ntmps52
  go_wp2
  go_ret
  exact⟨rfl,bA⟩
theorem BE {a L:Nat}(h:(Dg.dg 65536 a).length≤L):bitLen a≤16*L:=by
 refine bF a _ ?_;rw[Nat.pow_mul];have h1:=Dg.vl_lt 65536 _ (Dg.small_dg 65536 a (by omega));rw[Dg.vl_dg _ _ (by omega)] at h1;exact Nat.lt_of_lt_of_le h1 (Nat.pow_le_pow_right (by omega) h)
theorem Gh (R D e:Int)(bl:Nat)(h: -79000≤e+bl):(e+(bl:Int)-1+80000).tdiv (ai R)-(80000:Int).tdiv (ai R)-D+1=aT R D (e+(bl:Int)-1):=by
 rw[Int.tdiv_eq_ediv_of_nonneg (by omega),Int.tdiv_eq_ediv_of_nonneg (by omega)];unfold aT ai
 split<;>simp<;>omega
theorem nE {t:ak}(h:t.n≠0):t.e≤(bare t).e∧(bare t).e=t.e+tz t.n:=by
 unfold bare;rw[if_neg h];exact⟨by show t.e≤t.e+(tz t.n:Int);omega,rfl⟩
def ia (R D L G:Int)(gr:Bool)(d:Nat)(p:Int):Prop:=
 (d=0∧p=0)∨(d≠0∧L≤p∧p≤G∧d<2^ (ai R*D.toNat)∧(2^ (ai R*(D-1).toNat)≤d∨(gr=true∧p=L)))
theorem qj {R D L G:Int}{gr:Bool}{d:Nat}{p:Int}(hg:bk R D L G=0)(h:ia R D L G gr d p):
  (Dg.dg 4294967296 d).length≤15∧ -17000≤p∧p≤17000∧ -17000≤(ai R:Int)*p∧(ai R:Int)*p≤17000∧tz d≤480:=by
 obtain⟨hR,d1,d2,l1,l2,g1,g2,lg,l16⟩:=cB hg
 rcases h with⟨rfl,rfl⟩| ⟨h0,h1,h2,h3,-⟩
 ·refine⟨Nat.zero_le _,by omega,by omega,by simp,by simp, ?_⟩
  exact Nat.le_trans (gZ 0 0 (Nat.le_refl _)) (by omega)
 ·have hw:=Nat.mul_le_mul (eN R).2 (show D.toNat≤120 by omega)
  have hl:(Dg.dg 4294967296 d).length≤15:=jq h3 (by omega);have:=gZ d 15 hl;refine⟨hl,by omega,by omega, ?_, ?_,by omega⟩<;>(unfold ai;split<;>simp<;>omega)
theorem Af {R D L G:Int}{gr s:Bool}{d:Nat}{p:Int}(hg:bk R D L G=0)(h:ia R D L G gr d p):
  cC (ix (Dg.dg 4294967296 d) p R D L G) ⟨s,Dg.vl 4294967296 (Dg.dg 4294967296 d),(ai R:Int)*p⟩=(bare ⟨s,d,(ai R:Int)*p⟩,0):=by
 obtain⟨l,p1,p2,w1,w2,tzl⟩:=qj hg h;have hp:ix (Dg.dg 4294967296 d) p R D L G=0:=kA ((bL (nt (n:=d) (e:=0) (by omega) (by omega) (by omega))).1) hg (by unfold eJ;simp;omega);rw[hp,Dg.vl_dg _ _ (by omega)]
 show bU _=_
 refine wK ?_ ?_ ?_
 ·exact Nat.le_trans (aH _ _ d (by omega) (kR _)) (by omega)
 ·by_cases h0:d=0
  ·simp[bare,h0]
  ·have:=(nE (t:=⟨s,d,(ai R:Int)*p⟩) h0).2
   simp only at this;omega
 ·by_cases h0:d=0
  ·simp[bare,h0]
  ·have:=(nE (t:=⟨s,d,(ai R:Int)*p⟩) h0).2
   simp only at this;omega
theorem nN {R D L G:Int}(gr:Bool)(t:ak)(hLG:L≤G):dA R D L G gr (bare t).n (bare t).e=dA R D L G gr t.n t.e:=by
 rw[←jK gr t hLG,←jK gr (bare t) hLG,iH]
theorem mI {R D L G:Int}{gr s:Bool}{d:Nat}{p:Int}(hg:bk R D L G=0)(h:ia R D L G gr d p):dA R D L G gr (bare ⟨s,d,(ai R:Int)*p⟩).n (bare ⟨s,d,(ai R:Int)*p⟩).e=true:=by
 obtain⟨-,d1,-,-,-,-,-,lg,-⟩:=cB hg;rw[nN gr _ lg]
 rcases h with⟨rfl,rfl⟩| ⟨h0,h1,h2,h3,h4⟩
 ·exact tO R D L G gr _
 ·rw[tN d1 h3 h1 h4 h0]
  exact decide_eq_true h2
end Go.Proofs.YtpgijbdgljkeeaaGreatDoor
