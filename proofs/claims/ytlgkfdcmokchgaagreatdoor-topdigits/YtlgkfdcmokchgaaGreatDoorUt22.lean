/-
  Texts laid together: Long2, Over, Tx4, Cr4, Gn1, Cv3, Bl6.
-/
import Derived.Test.YtlgkfdcmokchgaaGreatDoorUt11
import Derived.Test.YtlgkfdcmokchgaaGreatDoorUt12
import Derived.Test.YtlgkfdcmokchgaaGreatDoorUt16
import Derived.Test.YtlgkfdcmokchgaaGreatDoorUt17
set_option maxRecDepth 100000
set_option maxHeartbeats 3200000
namespace Go.Proofs.YtlgkfdcmokchgaaGreatDoor
open _root_.Go.Proofs.Tryz
open Go.RowKit
theorem JS (va vb:Value)(xs ys:List Nat)(w:World)(ha:Rd w .u32 va xs)(hb:Rd w .u32 vb ys)(sa:Dg.Small 4294967296 xs)(sb:Dg.Small 4294967296 ys)(nb:Dg.Norm ys)(hn:2≤ys.length)(hle:ys.length≤xs.length)(hla:xs.length≤900000):
  yC 136 #[va,vb] w (Two w (Dg.vl 4294967296 xs/Dg.vl 4294967296 ys) (Dg.vl 4294967296 xs % Dg.vl 4294967296 ys)):=by
 obtain⟨i0,hi,hz0,hz1,hz2⟩:=info_parts Tryz.infoU32;have hsz:(Tryz.prog.info? 54).map (·.size)=some 1:=by rw[hi];simp[hz1]
 obtain⟨s,hs⟩: ∃s,32-bitLen (ys.getD (ys.length-1) 0)=s:=⟨_,rfl⟩;obtain⟨hs32,hD1,hD2⟩:=V7 ys s sb nb hn hs.symm;have hlz:=XC (ys.getD (ys.length-1) 0) w (sb _);rw[hs] at hlz;have hrb:=vO vb ys s 0 s (2^s) w hb sb (by omega) (by omega) hs32 rfl (by omega) (by intro e;rw[e] at hn;simp at hn);have HRA:Hid (∀w1,yB w w1→yC 135 #[va,yi s] w1 (Num w1 (Dg.vl 4294967296 xs*2^s))):=fun w1 b1=>
  vO va xs s 0 s (2^s) w1 (ha.l b1) sa (by omega) (by omega) hs32 rfl (by omega) (by intro e;rw[e] at hle;have h0:ys.length≤0:=hle;omega)
 obtain⟨ao,ca,rfl⟩:=ha.shape;obtain⟨bo,cb,rfl⟩:=hb.shape;obtain⟨-,-,hcb⟩:=iQ hb;obtain⟨bb,boff,rfl,hcell⟩:=hcb (by omega);have hy:=hcell (ys.length-1) (by omega);have hyl:=sb (ys.length-1);have n1:((ys.length:Int)-1)=((ys.length-1:Nat):Int):=by omega
 have hvx:=Dg.vl_lt 4294967296 xs sa;obtain⟨X,hX⟩: ∃X,Dg.vl 4294967296 xs=X:=⟨_,rfl⟩;obtain⟨Y,hY⟩: ∃Y,Dg.vl 4294967296 ys=Y:=⟨_,rfl⟩;rw[hX] at HRA hvx⊢;rw[hY] at hrb hD1 hD2⊢;obtain⟨nn,hnn⟩: ∃nn,ys.length=nn:=⟨_,rfl⟩;obtain⟨na,hna⟩: ∃na,xs.length=na:=⟨_,rfl⟩;obtain⟨y,hyy⟩: ∃y,ys.getD (ys.length-1) 0=y:=⟨_,rfl⟩;rw[hyy] at hlz hy hyl;rw[hnn] at hD1 hD2 hrb hy n1 hn hle⊢;rw[hna] at HRA hle hla hvx⊢;have HD1:Hid (2147483648*4294967296^ (nn-1)≤Y*2^s):=hD1;have HD2:Hid (Y*2^s<4294967296^nn):=hD2;have HVX:Hid (X<4294967296^na):=hvx;clear ha hb sa sb nb hs hcb hcell hX hY hnn hna hyy hD1 hD2 hvx
 go_enter func136,ntmps136
 go_wp2_with fail
 refine hlz.mono ?_;rintro e w' ⟨rfl,rfl⟩;clear hlz
 go_wp2_with fail
 refine hrb.mono ?_;rintro e w1 ⟨vby,rfl,ownb,bel1⟩;clear hrb;have hDl:(Dg.dg 4294967296 (Y*2^s)).length=nn:=V8 nn _ (by omega) (by have:=HD1.out;omega) HD2.out;obtain⟨gb,cby,rfl,hgb1,hgb2,hcby⟩:=ownb.form (by omega);rw[hDl] at ownb hcby⊢;obtain⟨bs,hbs⟩: ∃bs,Dg.dg 4294967296 (Y*2^s)=bs:=⟨_,rfl⟩;rw[hbs] at ownb hDl
 go_wp2_with (at_make;refine wpList_make_full _ rfl _ _ 57 rfl w1.heap.size 54 i0 (.int .u32 0) 1 underlying57 hi hz0 hz1 _ _ _ _ (na+1) rfl rfl (by omega) (by omega) ?b2 ?b3 (Nat.le_refl _) ?_)
 case b2=>rw[hz2];omega
 case b3=>unfold maxLen;omega
 intro w2 hown2 hgrow2;have own2:=gL hown2;have bel2:yB w1 w2:=(Below.refl _ _).grown hgrow2 (Nat.le_refl _) (fun k h=>by cases h)
 clear hown2 hgrow2
 go_wp2_with fail
 refine(HRA.out w2 (aa bel1 bel2)).mono ?_;rintro e w3 ⟨vra,rfl,owna,bel3⟩;obtain⟨az,haz⟩: ∃az,Dg.dg 4294967296 (X*2^s)=az:=⟨_,rfl⟩;rw[haz] at owna;have hal:az.length≤na+1:=by rw[←haz];exact RI X na s HVX.out hs32
 have rda:=owna.rd;obtain⟨ara,cra,rfl⟩:=rda.shape;have own3:=own2.l bel3;obtain⟨w4,hrun,own4,gr4⟩:=Nw 57 57 3 underlying57 hsz own3 rda (by simpa using hal);have b12:=aa bel1 bel2;have b13:=aa b12 bel3;have bel4:Below w'.heap.size w' w4:=b13.grown gr4 b13.size (fun k hk=>by cases hk;exact bel1.size)
 have ownb4:=((ownb.l bel2).l bel3).other gr4 (by omega);have own4:=own4.lower bel1.size;clear own3 rda owna HRA own2 ownb hsz
 go_wp2_with (at_make;refine wpList_make_full _ rfl _ _ 57 rfl w4.heap.size 54 i0 (.int .u32 0) 1 underlying57 hi hz0 hz1 _ _ _ _ (na+1-nn) rfl rfl ?b0 ?b1 ?b2 ?b3 (Nat.le_refl _) ?_)
 case b0=>omega
 case b1=>omega
 case b2=>rw[hz2];omega
 case b3=>unfold maxLen;omega
 intro w5 hown5 hgrow5;have own5:=gL hown5;have bel5:yB w4 w5:=(Below.refl _ _).grown hgrow5 (Nat.le_refl _) (fun k h=>by cases h)
 have ownr5:=own4.l bel5;have ownb5:=ownb4.l bel5;have belw:=aa bel4 bel5;have hb14:w1.heap.size<w4.heap.size:=own4.block.2;have hbw1:w'.heap.size≤w1.heap.size:=bel1.size;clear hown5 hgrow5 own4 ownb4 bel4 bel5 bel1 bel2 bel3 b12 b13 gr4 hrun hy hyl n1;have hst:=Pj (nn:=nn) haz hal HVX.out hs32 (by omega) (by omega) HD1.out;have hsb:Dg.Small 4294967296 bs:=by rw[←hbs];exact Dg.small_dg _ _ (by omega)
 have hvb:Dg.vl 4294967296 bs=Y*2^s:=by rw[←hbs];exact Dg.vl_dg _ _ (by omega)
 have hY0:0<Y:=by
  rcases Nat.eq_zero_or_pos Y with e|e
  ·have:=HD1.out
   rw[e,Nat.zero_mul] at this;have h2:=Nat.pow_pos (n:=nn-1) (show 0<4294967296 by omega)
   omega
  ·exact e
 obtain⟨M,hM⟩: ∃M,na+1=M+nn:=⟨na+1-nn,by omega⟩;rw[hM,Nat.add_sub_cancel] at own5 hst;rw[hM] at ownr5;rw[hM,Nat.add_sub_cancel];obtain⟨g4,hg4⟩: ∃g4,w4.heap.size=g4:=⟨_,rfl⟩;obtain⟨g1,hg1⟩: ∃g1,w1.heap.size=g1:=⟨_,rfl⟩;rw[hg4] at own5 hb14⊢;rw[hg1] at ownr5 hb14 hbw1 hgb2⊢;have own5:=own5.lower (show w'.heap.size≤g4 by omega)
 have ne1:gb≠g1:=by omega
 have ne2:g1≠g4:=by omega
 have ne3:gb≠g4:=by omega
 have hbw4:w'.heap.size≤g4:=by omega
 have hMN:M+nn≤900001:=by omega
 clear haz hal HVX hbs hM hle hla hg4 hg1
 go_wp2
 go_loopw [10] (fun iv wr=>ae2 w' (X*2^s) (Y*2^s) M (M+nn) g1 g4 gb cby bs iv wr) (fun iv _=>(intOf iv+1).toNat)
 case atStart=>exact⟨M,_,_,Nat.le_refl _,rfl,hst,ownr5,own5,by rw[hDl];exact ownb5,belw⟩
 case round=>
  clear hst own5 ownr5 ownb5 belw hgb1 hgb2 hcby hb14 hi hz0 hz1 hz2;obtain⟨k,R,os,hk,rfl,hI,ownR,ownO,ownB,bel⟩:=hrel
  by_cases hk0:k=0
  ·subst hk0
   have hen:=Xs hY0 hI;have ro:=ownO.rd;have rr:=ownR.rd;clear ownB
   go_wp2_with fail
   refine(jD _ _ _ _ _ ro).mono ?_;rintro e w6 ⟨m,rfl,hm,rfl⟩;have to0:=jW 4294967296 (by omega) ownO hI.2.2.2.1 hm;rw[hen.1] at to0
   go_wp2_with fail
   refine(jD _ _ _ _ _ rr).mono ?_;rintro e w6 ⟨m2,rfl,hm2,rfl⟩;have tr:=jW 4294967296 (by omega) ownR hI.2.2.1 hm2;have hlow:=Dj _ _ s 0 s w6 tr.rd (Dg.small_dg _ _ (by omega)) (by have h1:=hm2.1;have h2:=hI.1;have h3:=tr.len;omega) (by omega) hs32 (by omega);rw[Dg.vl_dg _ _ (by omega),hen.2] at hlow;clear ro rr hm hm2 hen ownO ownR tr hI
   go_wp2_with fail
   refine hlow.mono ?_;rintro e w7 ⟨vr,rfl,ownr7,bel7⟩;have to7:=to0.l bel7;have b7:=aa bel bel7;have or7:=ownr7.lower bel.size;clear hlow
   go_wp2
   go_ret2
   exact⟨_,_,rfl,to7,or7,b7⟩
  ·obtain⟨i,rfl⟩: ∃i,k=i+1:=⟨k-1,by omega⟩
   have n2:((i+1:Nat):Int)-1=(i:Int):=by omega
   rw[n2];have hRl:=hI.1;rw[hDl] at ownB;have c2:=ownR.c (i+nn) (by omega);have c1:=ownR.c (i+(nn-1)) (by omega);have c0:=ownR.c (i+(nn-2)) (by omega);have e1:=ownB.c (nn-1) (by omega);have e0:=ownB.c (nn-2) (by omega);have lg:=Pi hI hsb hvb hn HD1.out HD2.out;have hgs:=TX g1 i nn (M+nn-i) gb 0 cby _ _ _ _ _ wr hn (by omega) (by omega) c2 c1 c0 (by rw[Nat.zero_add];exact e1) (by rw[Nat.zero_add];exact e0) (hI.2.2.1 _) (hI.2.2.1 _) (hI.2.2.1 _) (hsb _) (hsb _) lg.1 lg.2.1;have LG:=lg.2.2;have HLG:Hid _:=LG;clear c2 c1 c0 e1 e0 lg LG
   go_wp2_with fail
   rw[show i+nn+1-i=nn+1 from by omega]
   refine hgs.mono ?_;rintro e w6 ⟨g,rfl,hgl,hlow,hup,bel6⟩;clear hgs;have hq:=HLG.out g hgl hlow hup;clear HLG hlow hup;have ownR6:=ownR.l bel6;have ownO6:=ownO.l bel6;have ownB6:=ownB.l bel6;have b6:=aa bel bel6;clear ownR ownO ownB bel6 bel;have htk:=H7 g1 (M+nn) i (M+nn-i) w'.heap.size g R bs _ w6 ownR6 hI.2.2.1 hsb (fun w'' hg=>(ownB6.other hg ne1).rd) (by omega) hgl (by omega)
   rw[hDl] at htk;obtain⟨q,hqq⟩: ∃q,Dg.vl 4294967296 R/4294967296^i/(Y*2^s)=q:=⟨_,rfl⟩;rw[hqq] at hq;have HRE:Hid (∀cur b,acc R cur bs i g b→_):=fun cur b hT=>QR hT hI.2.2.1 rfl hvb (Nat.mul_pos hY0 (Nat.pow_pos (by omega))) (by rw[hDl];exact HD2.out) hI.2.2.2.2.2.2 hqq hq.2
   go_wp2_with fail
   refine htk.mono ?_;rintro e w7 ⟨b,cur,rfl,hT,ownC,gr7⟩;have hre:=HRE.out cur b hT;have hb1:=hT.2.2.2.1;have hTl:=hT.1;have hTs:=hT.2.1;have ownO7:=ownO6.other gr7 ne2.symm;have ownB7:=ownB6.other gr7 ne1;have b7:=b6.grown gr7 b6.size (fun k hk=>by cases hk;exact hbw1)
   have hql:=hq.1;have hil:i<M:=by omega
   clear HRE hT htk hq hqq ownR6 ownO6 ownB6 b6 gr7
   by_cases hb:b=0
   ·subst hb
    obtain⟨rfl,hv,hlt⟩:=hre.1 rfl;have hnx:=Iv hI hil hgl hTl hTs hv hlt;have ed:decide ((0:Nat)=1)=false:=rfl;rw[ed];have hf:=ownO7.f i;have hcO:=ownO7.c i (by have:=hI.2.1;omega);clear hre hv hlt hI hTs
    go_wp2
    go_roundw
    case rel=>exact⟨i,cur,_,by omega,by go_num,hnx,ownC.other (bI _ _ _ _) ne2,ownO7.store i _,by rw[hDl];exact ownB7.other (bI _ _ _ _) ne3,b7.setCell (by exact hbw4) _⟩
    case measure=>simp[intOf]
   ·have hb:b=1:=by omega
    subst hb;obtain⟨rfl,hbk⟩:=hre.2 rfl;have hpb:=Mj g1 (M+nn) i (M+nn-i) w'.heap.size cur bs _ w7 ownC hTs hsb (fun w'' hg=>(ownB7.other hg ne1).rd) (by omega) (by omega)
    rw[hDl] at hpb;have ed:decide ((1:Nat)=1)=true:=rfl;rw[ed];have n3:((q+1:Nat):Int)-1=(q:Int):=by omega
    have HBK:Hid _:=hbk;clear hre hbk
    go_wp2_with fail
    refine hpb.mono ?_;rintro e w8 ⟨o,cur',rfl,hB,ownC8,gr8⟩;obtain⟨hv,hlt⟩:=HBK.out cur' o hB;have hnx:=Iv hI hil hql (hB.1.trans hTl) hB.2.1 hv hlt;have ownO8:=ownO7.other gr8 ne2.symm;have ownB8:=ownB7.other gr8 ne1;have b8:=b7.grown gr8 b7.size (fun k hk=>by cases hk;exact hbw1)
    have hf:=ownO8.f i;have hcO:=ownO8.c i (by have:=hI.2.1;omega);clear hpb HBK hv hlt hB gr8 hI hTs ownC ownO7 ownB7 b7
    go_wp2
    go_roundw
    case rel=>exact⟨i,cur',_,by omega,by go_num,hnx,ownC8.other (bI _ _ _ _) ne2,ownO8.store i _,by rw[hDl];exact ownB8.other (bI _ _ _ _) ne3,b8.setCell (by exact hbw4) _⟩
    case measure=>simp[intOf]
theorem A9 (va vb:Value)(xs ys:List Nat)(w:World)(ha:Rd w .u32 va xs)(hb:Rd w .u32 vb ys)(sa:Dg.Small 4294967296 xs)(sb:Dg.Small 4294967296 ys)(na:Dg.Norm xs)(nb:Dg.Norm ys)(hne:ys≠[])(hla:xs.length≤900000):
  yC 92 #[va,vb] w (Two w (Dg.vl 4294967296 xs/Dg.vl 4294967296 ys) (Dg.vl 4294967296 xs % Dg.vl 4294967296 ys)):=by
 have hcm:=jF va vb xs ys w ha hb sa sb na nb;have hY0:0<Dg.vl 4294967296 ys:=Nat.pos_of_ne_zero (Dg.vl_ne_zero 4294967296 (by omega) ys hne nb);have hln:0<ys.length:=List.length_pos_iff.2 hne
 by_cases hlt:Dg.vl 4294967296 xs<Dg.vl 4294967296 ys
 ·rw[gX (by omega)] at hcm
  rw[Nat.div_eq_of_lt hlt,Nat.mod_eq_of_lt hlt];have HX:Hid (xs=Dg.dg 4294967296 (Dg.vl 4294967296 xs)):=Dg.eq_dg 4294967296 (by omega) xs _ sa na rfl;have HA:Hid (Rd w .u32 va xs):=ha;obtain⟨ao,ca,rfl⟩:=ha.shape;obtain⟨bo,cb,rfl⟩:=hb.shape;clear ha hb sa sb na nb hne hlt hY0
  go_enter func92,ntmps92
  go_wp2_with fail
  refine hcm.mono ?_;rintro e w1 ⟨rfl,b1⟩;clear hcm
  go_wp2_with fail
  refine(Bz _ xs w1 (HA.out.l b1) (by omega)).mono ?_;rintro e w2 ⟨rfl,own2,b2⟩;have own2:=own2.lower b1.size;have b12:=aa b1 b2;clear b1 b2 HA
  go_wp2
  go_ret2
  exact⟨_,_,rfl,aQ _ _ _ _,HX.out▸own2,b12⟩
 ·have hd:=Xx (a:=(Dg.vl 4294967296 xs:Int)) (b:=(Dg.vl 4294967296 ys:Int)) (by omega)
  obtain⟨r,hr⟩: ∃r,dm (Dg.vl 4294967296 xs) (Dg.vl 4294967296 ys)=r:=⟨_,rfl⟩;rw[hr] at hd hcm;clear hr;have HA:Hid (Rd w .u32 va xs):=ha;have HB:Hid (Rd w .u32 vb ys):=hb;obtain⟨ao,ca,rfl⟩:=ha.shape;obtain⟨bo,cb,rfl⟩:=hb.shape
  by_cases h1:ys.length=1
  ·obtain⟨d,rfl⟩: ∃d,ys=[d]:=List.length_eq_one_iff.1 h1
   have hv:Dg.vl 4294967296 [d]=d:=by simp[Dg.vl]
   have hdl:d<4294967296:=(Dg.small_cons.1 sb).1;rw[hv] at hY0⊢;clear ha hb hlt hv h1 hln hne nb sb
   go_enter func92,ntmps92
   go_wp2_with fail
   refine hcm.mono ?_;rintro e w1 ⟨rfl,b1⟩;clear hcm
   go_wp2_with fail
   refine(Bz _ xs w1 (HA.out.l b1) (by omega)).mono ?_;rintro e w2 ⟨rfl,own2,b2⟩;have b12:=aa b1 b2;obtain⟨-,-,hcb⟩:=iQ (HB.out.l b12);obtain⟨bb,boff,rfl,hcell⟩:=hcb (by simp);have hc:=hcell 0 (by simp);simp only[List.getD_cons_zero,Nat.add_zero] at hc;clear hcell hcb
   go_wp2_with fail
   refine(uG _ _ _ _ xs d w2 own2 sa hY0 hdl (by omega)).mono ?_;rintro e w3 ⟨qs,rfl,own3,hql,hqs,hqv,gr3⟩;have b13:=b12.grown gr3 b12.size (fun k hk=>by cases hk;exact b1.size)
   have r3:=own3.rd;have own3:=own3.lower b1.size;obtain⟨rm,hrm⟩: ∃rm,Dg.vl 4294967296 xs % d=rm:=⟨_,rfl⟩;rw[hrm];have hrl:rm<4294967296:=by have:=Nat.mod_lt (Dg.vl 4294967296 xs) hY0;omega
   clear gr3 own2 b12 b2 hc
   go_wp2_with fail
   refine(jD _ _ _ _ _ r3).mono ?_;rintro e w4 ⟨m,rfl,hm,rfl⟩;have t3:=jW 4294967296 (by omega) own3 hqs hm;rw[hqv] at t3;have ownd:=zf w4 w.heap.size 54 rm b13.size;have b4:yB w4 (w4.alloc (.cells #[.int .u32 (rm:Int)] 54)):=(Below.refl _ _).alloc (Nat.le_refl _) _;have t4:=t3.l b4;have b14:=aa b13 b4;have rd4:=ownd.rd;clear own3 r3 hm t3 b4 b13 b1 hqv
   go_wp2_with fail
   refine(jD _ _ _ _ _ rd4).mono ?_;rintro e w5 ⟨m2,rfl,hm2,rfl⟩;have t5:=jW 4294967296 (by omega) ownd (Dg.small_cons.2 ⟨hrl,Dg.small_nil _ (by omega)⟩) hm2;rw[show Dg.vl 4294967296 [rm]=rm from by simp[Dg.vl]] at t5
   clear ownd rd4 hm2
   go_wp2
   go_ret2
   exact⟨_,_,rfl,t4,by rw[hrm];exact t5,b14⟩
  ·have hll:ys.length≤xs.length:=by
    rcases Nat.lt_or_ge xs.length ys.length with e|e
    ·exact absurd (Dg.vl_lt_of_len 4294967296 (by omega) xs ys sa nb e) hlt
    ·exact e
   have HLO:Hid (∀w1,yB w w1→yC 136 #[.slice ao xs.length ca,.slice bo ys.length cb] w1 (Two w1 (Dg.vl 4294967296 xs/Dg.vl 4294967296 ys) (Dg.vl 4294967296 xs % Dg.vl 4294967296 ys))):=fun w1 b1=>
    JS _ _ xs ys w1 (ha.l b1) (hb.l b1) sa sb nb (by omega) hll hla
   obtain⟨q,hq⟩: ∃q,Dg.vl 4294967296 xs/Dg.vl 4294967296 ys=q:=⟨_,rfl⟩;obtain⟨m,hm⟩: ∃m,Dg.vl 4294967296 xs % Dg.vl 4294967296 ys=m:=⟨_,rfl⟩;rw[hq,hm] at HLO⊢;have h2:((ys.length:Int)==1)=false:=by simp;omega
   clear ha hb hlt hne nb sb na sa hY0 hq hm HA HB
   go_enter func92,ntmps92
   go_wp2_with fail
   refine hcm.mono ?_;rintro e w1 ⟨rfl,b1⟩;clear hcm
   go_wp2_with fail
   refine(HLO.out w1 b1).mono ?_;rintro e w2 ⟨v1,v2,rfl,o1,o2,b2⟩;have o1:=o1.lower b1.size;have o2:=o2.lower b1.size;have b12:=aa b1 b2;clear b1 b2 HLO
   go_wp2
   go_ret2
   exact⟨_,_,rfl,o1,o2,b12⟩
theorem tratio_up (ng:Bool)(ds:ByteArray)(p tw mt ex:Int)(N F M Ksh:Nat)(w:World)(h0:0< (Dg.dg 4294967296 N).length)(hmt:IntKind.i64.wrap (-tw)=mt)(hex:IntKind.i64.wrap (p+tw)=ex)(hp:0<p)
  (HD: ∀w1,yC 33 #[.string ds] w1 (NmR w1 N))
  (HF: ∀w1,yC 106 #[yi p] w1 (NmR w1 F))
  (HT: ∀xo xc fo fc w1,Rd w1 .u32 (yT xo N xc) (Dg.dg 4294967296 N)→Rd w1 .u32 (yT fo F fc) (Dg.dg 4294967296 F)→yC 57 #[yT xo N xc,yT fo F fc] w1 (NmR w1 M))
  (HW: ∀mo mc w1,yB w w1→Rd w1 .u32 (yT mo M mc) (Dg.dg 4294967296 M)→yC 108 #[yT mo M mc] w1 (yR w1 (yi tw)))
  (HS: ∀mo mc w1,Rd w1 .u32 (yT mo M mc) (Dg.dg 4294967296 M)→yC 91 #[yT mo M mc,yi mt] w1 (NmR w1 Ksh)):
  yC 74 #[.agg #[.bool ng,.string ds,yi p]] w (RtR w ng Ksh 1 ex):=by
 replace HD:Hid _:=HD;replace HF:Hid _:=HF;replace HT:Hid _:=HT;replace HW:Hid _:=HW;replace HS:Hid _:=HS;obtain⟨W4,hW5,q1,q2,b3⟩:=iG w [.bool ng,.string ds,yi p] 136 (yrL false yN yN 0) 60;replace hW5:Hid _:=hW5
 go_enter func74,ntmps74
 go_upto_region 1 with fail
 rw[hW5.out];clear hW5;have c6:=q1.c 1 rfl
 go_wp2_with fail
 refine(HD.out _).mono ?_;rintro zz w7 ⟨v1x9,rfl,r1x10,bb8⟩;have q11:=q1.l bb8;have q12:=q2.l bb8;have b13:=aa b3 bb8;obtain⟨xo,xc,hv⟩:=r1x10.shape;subst hv;clear q1 q2 b3 bb8 HD c6;have hl16:=q11.lt;have hl17:=q12.lt;have al14:=af w7 (.cells #[.int .u32 1] 54);have q15:=ah w7 [.int .u32 1] 54;have q18:=q11.l al14;have q19:=q12.l al14;have r20:=r1x10.l al14;have b21:=aa b13 al14;have c22:=q18.c 2 rfl
 go_wp2_with fail
 refine(HF.out _).mono ?_;rintro zz w23 ⟨v1x25,rfl,r1x26,bb24⟩;have q27:=q18.l bb24;have q28:=q19.l bb24;have q29:=q15.l bb24;have r30:=r20.l bb24;have b31:=aa b21 bb24;obtain⟨fo,fc,hv⟩:=r1x26.shape;subst hv;clear q18 q19 q15 r20 b21 bb24 HF c22 q11 q12 r1x10 b13 al14
 go_wp2_with fail
 refine(HT.out _ _ _ _ _ r30 r1x26).mono ?_;rintro zz w32 ⟨v1x34,rfl,r1x35,bb33⟩;have q36:=q27.l bb33;have q37:=q28.l bb33;have q38:=q29.l bb33;have r39:=r30.l bb33;have r40:=r1x26.l bb33;have b41:=aa b31 bb33;obtain⟨mo,mc,hv⟩:=r1x35.shape;subst hv;clear q27 q28 q29 r30 r1x26 b31 bb33 HT
 go_wp2_with fail
 refine(HW.out _ _ _ b41 r1x35).mono ?_;rintro zz w42 ⟨rfl,bb43⟩;have q44:=q36.l bb43;have q45:=q37.l bb43;have q46:=q38.l bb43;have r47:=r39.l bb43;have r48:=r40.l bb43;have r49:=r1x35.l bb43;have b50:=aa b41 bb43;clear q36 q37 q38 r39 r40 r1x35 b41 bb43 HW
 go_upto_region 8 with fail
 have bW51:yB w42 w42.drew:=(Below.refl _ _).drew;have q52:=q44.l bW51;have q53:=q45.l bW51;have q54:=q46.l bW51;have r55:=r47.l bW51;have r56:=r48.l bW51;have r57:=r49.l bW51;have b58:=aa b50 bW51;clear q44 q45 q46 r47 r48 r49 b50 bW51;refine wp_region_held_drew (S:=fun wq=>au wq w.heap.size 136 [.bool ng,.string ds,yi p]) (by kernel_rfl) q52 (fun hS0=> ?_)
 generalize w42.drew=WD59 at q52 q53 q54 r55 r56 r57 b58 hS0⊢;refine tq 0 (.pointer (some ⟨w.heap.size,0,none⟩)) rfl (fun _ _=>by kernel_rfl) hS0 ?_
 refine tq 1 (.bool ng) rfl (fun _ hw0=>gU 4 (.tmp 35) rfl w.heap.size 0 (by kernel_rfl) _ _ underlying4 rfl (hw0.c 0 rfl)) hS0 ?_
 refine tq 2 (yT mo M mc) rfl (fun _ _=>by kernel_rfl) hS0 ?_
 refine tq 3 (yi tw) rfl (fun _ _=>by kernel_rfl) hS0 ?_
 refine tq 4 (yi mt) rfl (fun _ _=>by go_simp) hS0 ?_
 refine tq 6 (.slice (some ⟨w7.heap.size,0,none⟩) 1 1) rfl (fun _ _=>by kernel_rfl) hS0 ?_
 refine tq 7 (.pointer (some ⟨w.heap.size,2,none⟩)) rfl (fun _ _=>by kernel_rfl) hS0 ?_
 refine tq 8 (yi p) rfl (fun _ hw0=>gU 3 (.tmp 42) rfl w.heap.size 2 (by kernel_rfl) _ _ underlying3 rfl (hw0.c 2 rfl)) hS0 ?_
 refine tq 9 (yi tw) rfl (fun _ _=>by kernel_rfl) hS0 ?_
 refine tq 10 (yi ex) rfl (fun _ _=>by go_simp) hS0 ?_
 refine wpAnyH_ready (rs:=[5]) (by kernel_rfl) (by simp) ?_;refine AllReadyH.cons rfl (fun K hK=> ?_) AllReadyH.nil
 go_simp
 refine(HS.out _ _ _ r57).mono ?_;rintro zz w60 ⟨v1x62,rfl,r1x63,bb61⟩;have q64:=q52.l bb61;have q65:=q53.l bb61;have q66:=q54.l bb61;have r67:=r55.l bb61;have r68:=r56.l bb61;have r69:=r57.l bb61;have b70:=aa b58 bb61;obtain⟨ko,kc,hv⟩:=r1x63.shape;subst hv;clear q52 q53 q54 r55 r56 r57 b58 bb61 HS;refine hK.out _ _ q64 (fun hS71=> ?_)
 clear hK K;refine tq 11 (yrV ng (yT ko Ksh kc) (.slice (some ⟨w7.heap.size,0,none⟩) 1 1) ex) rfl (fun _ _=>by kernel_rfl) hS71 ?_
 refine wpAnyH_ready (rs:=[12]) (by kernel_rfl) (by simp) ?_;refine AllReadyH.cons rfl (fun K hK=> ?_) AllReadyH.nil
 have bu:But (w.heap.size+1) w60 (w60.setCells (w.heap.size+1) 0 (yrL ng (yT ko Ksh kc) (.slice (some ⟨w7.heap.size,0,none⟩) 1 1) ex)):=de _ _ _ _;have hth:w60.there (w.heap.size+1) 0 4:=dD q65;have q72:au (w60.setCells (w.heap.size+1) 0 (yrL ng (yT ko Ksh kc) (.slice (some ⟨w7.heap.size,0,none⟩) 1 1) ex)) (w.heap.size+1) 60 (yrL ng (yT ko Ksh kc) (.slice (some ⟨w7.heap.size,0,none⟩) 1 1) ex):=q65.sets _ rfl;have r73:=bu.rd r67 (aX r67 q65 (by simp));have r74:=bu.rd r68 (aX r68 q65 (by simp));have r75:=bu.rd r69 (aX r69 q65 (by simp));have r76:=bu.rd r1x63 (aX r1x63 q65 (by simp));have q77:=bu.loc q64 (by omega);have q78:=bu.loc q66 (by omega);have b79:=bu.below b70 (by omega);rw[if_pos (by kernel_rfl)];refine wp_store_mid 60 (.tmp 2) (.tmp 46) rfl (w.heap.size+1) 0 (yrA ng (yT ko Ksh kc) (.slice (some ⟨w7.heap.size,0,none⟩) 1 1) ex) (by kernel_rfl) (by kernel_rfl) hth (by kernel_rfl) (by simp[Value.oneCell']) ?_;refine hK.out _ _ q77 (fun hS80=> ?_)
 clear hK K;clear q65 r67 r68 r69 r1x63 q64 q66 b70 bu hth;refine wpAnyH_done (by kernel_rfl) ?_ _;clear hS0 hS71 hS80;change Exit.then _ _ _ _ (World.setCells w60 (w.heap.size+1) 0 (yrL ng (yT ko Ksh kc) (.slice (some ⟨w7.heap.size,0,none⟩) 1 1) ex));generalize World.setCells w60 (w.heap.size+1) 0 (yrL ng (yT ko Ksh kc) (.slice (some ⟨w7.heap.size,0,none⟩) 1 1) ex)=W81 at q77 q72 q78 r73 r74 r75 r76 b79⊢;simp only[Act.put,List.getElem_toArray,List.getElem_cons_succ,List.getElem_cons_zero];have hl:=run_loadVar_mid (P:=Tryz.prog) _ (w.heap.size+1) 0 60 (yrL ng (yT ko Ksh kc) (.slice (some ⟨w7.heap.size,0,none⟩) 1 1) ex) _ q72.range underlying60 rfl (by kernel_rfl)
 go_wp2
 exact bodyPost_ret (br results74 rfl hl) rfl ⟨_,_,rfl,r76,rd_one1 (q78.c 0 rfl),b79⟩
theorem tratio_down (ng:Bool)(ds:ByteArray)(p np tw mt ex:Int)(N F M Ksh:Nat)(w:World)(h0:0< (Dg.dg 4294967296 N).length)(hmt:IntKind.i64.wrap (-tw)=mt)(hex:IntKind.i64.wrap (p+tw)=ex)(hp: ¬0<p)(hnp:IntKind.i64.wrap (-p)=np)
  (HD: ∀w1,yC 33 #[.string ds] w1 (NmR w1 N))
  (HR: ∀xo xc w1,Rd w1 .u32 (yT xo N xc) (Dg.dg 4294967296 N)→yC 107 #[yT xo N xc,yi np] w1 (TwR w1 M F))
  (HW: ∀mo mc w1,yB w w1→Rd w1 .u32 (yT mo M mc) (Dg.dg 4294967296 M)→yC 108 #[yT mo M mc] w1 (yR w1 (yi tw)))
  (HS: ∀mo mc w1,Rd w1 .u32 (yT mo M mc) (Dg.dg 4294967296 M)→yC 91 #[yT mo M mc,yi mt] w1 (NmR w1 Ksh)):
  yC 74 #[.agg #[.bool ng,.string ds,yi p]] w (RtR w ng Ksh F ex):=by
 replace HD:Hid _:=HD;replace HR:Hid _:=HR;replace HW:Hid _:=HW;replace HS:Hid _:=HS;obtain⟨W4,hW5,q1,q2,b3⟩:=iG w [.bool ng,.string ds,yi p] 136 (yrL false yN yN 0) 60;replace hW5:Hid _:=hW5
 go_enter func74,ntmps74
 go_upto_region 1 with fail
 rw[hW5.out];clear hW5;have c6:=q1.c 1 rfl
 go_wp2_with fail
 refine(HD.out _).mono ?_;rintro zz w7 ⟨v1x9,rfl,r1x10,bb8⟩;have q11:=q1.l bb8;have q12:=q2.l bb8;have b13:=aa b3 bb8;obtain⟨xo,xc,hv⟩:=r1x10.shape;subst hv;clear q1 q2 b3 bb8 HD c6;have hl16:=q11.lt;have hl17:=q12.lt;have al14:=af w7 (.cells #[.int .u32 1] 54);have q15:=ah w7 [.int .u32 1] 54;have q18:=q11.l al14;have q19:=q12.l al14;have r20:=r1x10.l al14;have b21:=aa b13 al14;have c22:=q18.c 2 rfl
 go_wp2_with fail
 refine(HR.out _ _ _ r20).mono ?_;rintro zz w23 ⟨v1x25,v2x26,rfl,r1x27,r2x28,bb24⟩;have q29:=q18.l bb24;have q30:=q19.l bb24;have r31:=r20.l bb24;have b32:=aa b21 bb24;obtain⟨mo,mc,hv⟩:=r1x27.shape;subst hv;obtain⟨fo,fc,hv⟩:=r2x28.shape;subst hv;clear q18 q19 q15 r20 b21 bb24 HR c22 q11 q12 r1x10 b13 al14
 go_wp2_with fail
 refine(HW.out _ _ _ b32 r1x27).mono ?_;rintro zz w33 ⟨rfl,bb34⟩;have q35:=q29.l bb34;have q36:=q30.l bb34;have r37:=r31.l bb34;have r38:=r1x27.l bb34;have r39:=r2x28.l bb34;have b40:=aa b32 bb34;clear q29 q30 r31 r1x27 r2x28 b32 bb34 HW
 go_upto_region 8 with fail
 have bW41:yB w33 w33.drew:=(Below.refl _ _).drew;have q42:=q35.l bW41;have q43:=q36.l bW41;have r44:=r37.l bW41;have r45:=r38.l bW41;have r46:=r39.l bW41;have b47:=aa b40 bW41;clear q35 q36 r37 r38 r39 b40 bW41;refine wp_region_held_drew (S:=fun wq=>au wq w.heap.size 136 [.bool ng,.string ds,yi p]) (by kernel_rfl) q42 (fun hS0=> ?_)
 generalize w33.drew=WD48 at q42 q43 r44 r45 r46 b47 hS0⊢;refine tq 0 (.pointer (some ⟨w.heap.size,0,none⟩)) rfl (fun _ _=>by kernel_rfl) hS0 ?_
 refine tq 1 (.bool ng) rfl (fun _ hw0=>gU 4 (.tmp 35) rfl w.heap.size 0 (by kernel_rfl) _ _ underlying4 rfl (hw0.c 0 rfl)) hS0 ?_
 refine tq 2 (yT mo M mc) rfl (fun _ _=>by kernel_rfl) hS0 ?_
 refine tq 3 (yi tw) rfl (fun _ _=>by kernel_rfl) hS0 ?_
 refine tq 4 (yi mt) rfl (fun _ _=>by go_simp) hS0 ?_
 refine tq 6 (yT fo F fc) rfl (fun _ _=>by kernel_rfl) hS0 ?_
 refine tq 7 (.pointer (some ⟨w.heap.size,2,none⟩)) rfl (fun _ _=>by kernel_rfl) hS0 ?_
 refine tq 8 (yi p) rfl (fun _ hw0=>gU 3 (.tmp 42) rfl w.heap.size 2 (by kernel_rfl) _ _ underlying3 rfl (hw0.c 2 rfl)) hS0 ?_
 refine tq 9 (yi tw) rfl (fun _ _=>by kernel_rfl) hS0 ?_
 refine tq 10 (yi ex) rfl (fun _ _=>by go_simp) hS0 ?_
 refine wpAnyH_ready (rs:=[5]) (by kernel_rfl) (by simp) ?_;refine AllReadyH.cons rfl (fun K hK=> ?_) AllReadyH.nil
 go_simp
 refine(HS.out _ _ _ r45).mono ?_;rintro zz w49 ⟨v1x51,rfl,r1x52,bb50⟩;have q53:=q42.l bb50;have q54:=q43.l bb50;have r55:=r44.l bb50;have r56:=r45.l bb50;have r57:=r46.l bb50;have b58:=aa b47 bb50;obtain⟨ko,kc,hv⟩:=r1x52.shape;subst hv;clear q42 q43 r44 r45 r46 b47 bb50 HS;refine hK.out _ _ q53 (fun hS59=> ?_)
 clear hK K;refine tq 11 (yrV ng (yT ko Ksh kc) (yT fo F fc) ex) rfl (fun _ _=>by kernel_rfl) hS59 ?_
 refine wpAnyH_ready (rs:=[12]) (by kernel_rfl) (by simp) ?_;refine AllReadyH.cons rfl (fun K hK=> ?_) AllReadyH.nil
 have bu:But (w.heap.size+1) w49 (w49.setCells (w.heap.size+1) 0 (yrL ng (yT ko Ksh kc) (yT fo F fc) ex)):=de _ _ _ _;have hth:w49.there (w.heap.size+1) 0 4:=dD q54;have q60:au (w49.setCells (w.heap.size+1) 0 (yrL ng (yT ko Ksh kc) (yT fo F fc) ex)) (w.heap.size+1) 60 (yrL ng (yT ko Ksh kc) (yT fo F fc) ex):=q54.sets _ rfl;have r61:=bu.rd r55 (aX r55 q54 (by simp));have r62:=bu.rd r56 (aX r56 q54 (by simp));have r63:=bu.rd r57 (aX r57 q54 (by simp));have r64:=bu.rd r1x52 (aX r1x52 q54 (by simp));have q65:=bu.loc q53 (by omega);have b66:=bu.below b58 (by omega);rw[if_pos (by kernel_rfl)];refine wp_store_mid 60 (.tmp 2) (.tmp 46) rfl (w.heap.size+1) 0 (yrA ng (yT ko Ksh kc) (yT fo F fc) ex) (by kernel_rfl) (by kernel_rfl) hth (by kernel_rfl) (by simp[Value.oneCell']) ?_;refine hK.out _ _ q65 (fun hS67=> ?_)
 clear hK K;clear q54 r55 r56 r57 r1x52 q53 b58 bu hth;refine wpAnyH_done (by kernel_rfl) ?_ _;clear hS0 hS59 hS67;change Exit.then _ _ _ _ (World.setCells w49 (w.heap.size+1) 0 (yrL ng (yT ko Ksh kc) (yT fo F fc) ex));generalize World.setCells w49 (w.heap.size+1) 0 (yrL ng (yT ko Ksh kc) (yT fo F fc) ex)=W68 at q65 q60 r61 r62 r63 r64 b66⊢;simp only[Act.put,List.getElem_toArray,List.getElem_cons_succ,List.getElem_cons_zero];have hl:=run_loadVar_mid (P:=Tryz.prog) _ (w.heap.size+1) 0 60 (yrL ng (yT ko Ksh kc) (yT fo F fc) ex) _ q60.range underlying60 rfl (by kernel_rfl)
 go_wp2
 exact bodyPost_ret (br results74 rfl hl) rfl ⟨_,_,rfl,r64,r63,b66⟩
theorem di.hid {B:Nat}{w:World}{t:ak}{e:Ending}{w':World}(hb:B≤w.heap.size)(h:di w t e w'):Xi B w t e w':=by
 obtain⟨s,h1,h2,h3,h4⟩:=h;exact⟨s,h1,h2,h4,(fun a n c h=>Nat.le_trans hb (h3 a n c h):Far B s)⟩
theorem Zq (R D L G:Int)(gr ng:Bool)(ao:Option Addr)(la ca:Nat)(p wd:Int)(w:World)(WP:IntKind.i64.wrap (wd*p)=wd*p)
  (HW:yJ 119 #[ygV R D L G gr] (yi wd)):
  yC 162 #[ygV R D L G gr,.bool ng,.agg #[.slice ao la ca,yi p]] w (yR w (ydV ng (.slice ao la ca) (wd*p))):=by
 replace HW:Hid _:=HW;have HN:Hid (∀w1,yC 181 (ydA ng (.slice ao la ca) (wd*p)) w1 (yR w1 (ydV ng (.slice ao la ca) (wd*p)))):=fun w1=>l9 ng ao la ca (wd*p) w1
 have b1:=aa (aa (af w (.cells (ygA R D L G gr) 145)) (af _ (.cells #[.slice ao la ca,yi p] 153))) (af _ (.cells (ydA false yN 0) 197));have g1:=((ah w (ygL R D L G gr) 145).l (af _ (.cells #[.slice ao la ca,yi p] 153))).l (af _ (.cells (ydA false yN 0) 197));have s1:=(ah (w.alloc (.cells (ygA R D L G gr) 145)) [.slice ao la ca,yi p] 153).l (af _ (.cells (ydA false yN 0) 197));have c1:=ah ((w.alloc (.cells (ygA R D L G gr) 145)).alloc (.cells #[.slice ao la ca,yi p] 153)) (ydL false yN 0) 197;simp only[World.size_alloc] at s1 c1;have g_2:=g1.l ((Below.refl _ _).drew);have s_2:=s1.l ((Below.refl _ _).drew);have c_2:=c1.l ((Below.refl _ _).drew);have b0_2:=aa b1 ((Below.refl _ _).drew);clear g1 s1 c1 b1;obtain⟨x0,x1,x2,x3,x4⟩:=g_2.cs5;obtain⟨y0,y1⟩:=s_2.cs2;have nA:w.heap.size+1+1≠w.heap.size:=by omega
 have nB:w.heap.size+1+1≠w.heap.size+1:=by omega
 go_enter func162,ntmps162
 go_wp2_with fail
 go_region_held3 (fun wq=>wq.cell? ⟨w.heap.size,0,none⟩=some (yi R)∧wq.cell? ⟨w.heap.size,1,none⟩=some (yi D)∧wq.cell? ⟨w.heap.size,2,none⟩=some (yi L)∧wq.cell? ⟨w.heap.size,3,none⟩=some (yi G)∧wq.cell? ⟨w.heap.size,4,none⟩=some (.bool gr)∧wq.cell? ⟨w.heap.size+1,0,none⟩=some (.slice ao la ca)∧wq.cell? ⟨w.heap.size+1,1,none⟩=some (yi p)) (go_keep) (first
  | (go_at_call 119;have hgd:=b0_2;clear hgd;refine(HW.out _).mono ?_;rintro z wa ⟨rfl,bb_wa⟩;have b0_wa:=aa b0_2 bb_wa;have g_wa:=g_2.l bb_wa;have s_wa:=s_2.l bb_wa;have c_wa:=c_2.l bb_wa;obtain⟨xa0,xa1,xa2,xa3,xa4⟩:=g_wa.cs5;obtain⟨ya0,ya1⟩:=s_wa.cs2;clear b0_2)
  | (go_at_call 181;have hgd:=b0_wa;clear hgd;refine(HN.out _).mono ?_;rintro z wb ⟨rfl,bb_wb⟩;have b0_wb:=aa b0_wa bb_wb;have g_wb:=g_wa.l bb_wb;have s_wb:=s_wa.l bb_wb;have c_wb:=c_wa.l bb_wb;obtain⟨xb0,xb1,xb2,xb3,xb4⟩:=g_wb.cs5;obtain⟨yb0,yb1⟩:=s_wb.cs2;have z0:=c_wb.c 0 rfl;have e0:=c_wb.f 0;have z1:=c_wb.c 1 rfl;have e1:=c_wb.f 1;have z2:=c_wb.c 2 rfl;have e2:=c_wb.f 2;clear b0_wa))
 all_goals go_wp2
 have bu:But (w.heap.size+1+1) wb (((wb.setCell ⟨w.heap.size+1+1,0,none⟩ (.bool ng)).setCell ⟨w.heap.size+1+1,1,none⟩ (.slice ao la ca)).setCell ⟨w.heap.size+1+1,2,none⟩ (yi (wd*p))):=((ag wb (w.heap.size+1+1) 0 (.bool ng)).trans (ag _ (w.heap.size+1+1) 1 (.slice ao la ca))).trans (ag _ (w.heap.size+1+1) 2 (yi (wd*p)));have cX:au (((wb.setCell ⟨w.heap.size+1+1,0,none⟩ (.bool ng)).setCell ⟨w.heap.size+1+1,1,none⟩ (.slice ao la ca)).setCell ⟨w.heap.size+1+1,2,none⟩ (yi (wd*p))) (w.heap.size+1+1) 197 (ydL ng (.slice ao la ca) (wd*p)):=((c_wb.set 0 (.bool ng)).set 1 (.slice ao la ca)).set 2 (yi (wd*p));have bX:=bu.below b0_wb (show w.heap.size≤w.heap.size+1+1 by omega)
 obtain⟨s0,s1,s2⟩:=cX.cs3;refine bodyPost_ret (v:=(ydV ng (.slice ao la ca) (wd*p))) (by simp[results,results162,go_sem,s0,s1,s2]) rfl ?_;exact⟨rfl,bX⟩
theorem toInt_exact (n wy p pp r:Int)(g ps ov un:Bool)(m P:Nat)(t:ak)(s:ByteArray)(w:World)
  (HQ: ∀w1,yB w w1→yC 38 #[yi n,.string s,yi wy] w1 (CRes w1 2 g m p t 0))
  (HT: ∀xo xc w1,yC 40 #[yDV t xo xc] w1 fun z w'=> ∃eo ec,z= .returned (yrV t.s (yT xo t.n xc) (.slice eo 1 ec) t.e)∧Rd w' .u32 (.slice eo 1 ec) [1]∧yB w1 w')
  (HG: ∀xo xc eo ec w1,yB w w1→Rd w1 .u32 (yT xo t.n xc) (Dg.dg 4294967296 t.n)→Rd w1 .u32 (.slice eo 1 ec) [1]→yC 39 #[yrV t.s (yT xo t.n xc) (.slice eo 1 ec) t.e,ygV 2 64 0 0 true,yi wy] w1 fun z w'=> ∃po pc,z= .returned (.tuple #[ypV ps (yT po P pc) pp true ov un,yi 0])∧Rd w' .u32 (yT po P pc) (Dg.dg 4294967296 P)∧yB w1 w')
  (HH: ∀po pc w1,yB w w1→Rd w1 .u32 (yT po P pc) (Dg.dg 4294967296 P)→yC 41 #[ypV ps (yT po P pc) pp true ov un] w1 (yR w1 (.tuple #[yi r,.bool true]))):
  yC 15 #[yi n,.string s,yi wy] w (yR w (.tuple #[yi r,yi 0,yi 0])):=by
 replace HQ:Hid _:=HQ;replace HT:Hid _:=HT;replace HG:Hid _:=HG;replace HH:Hid _:=HH
 go_enter func15,ntmps15
 have b0:=Below.refl w.heap.size w
 go_wp2_with fail
 refine(HQ.out _ b0).mono ?_;rintro zz w1 ⟨v13,v24,rfl,r15,r26,bb2⟩;have b7:=aa b0 bb2;obtain⟨vo,vc,hv⟩:=r15.shape;subst hv;obtain⟨xo,xc,hv⟩:=r26.shape;subst hv;clear b0 bb2 HQ;obtain⟨W10,hW9,q11,q12,al8⟩:=iG w1 (yvL 2 g (yT vo m vc) p) 48 (yDL t xo xc) 78;replace hW9:Hid _:=hW9;have hl13:w.heap.size≤w1.heap.size:=b7.size;have r14:=r26.l al8;have b15:=aa b7 al8;clear r15 r26 b7 al8
 go_upto_region 2 with fail
 rw[hW9.out];clear hW9;obtain⟨W18,hW17,q19,al16⟩:=cA W10 (ygL 2 64 0 0 true) 82;replace hW17:Hid _:=hW17;have hl20:w.heap.size≤W10.heap.size:=b15.size;have hl21:=q12.lt;have c22:=q11.c 0 rfl;have q23:=q12.l al16;have r24:=r14.l al16;have b25:=aa b15 al16;clear q11 q12 r14 b15 al16
 go_upto_region 7 with fail
 rw[hW17.out];clear c22 hW17
 go_upto_region 7 with fail
 have bW26:yB W18 W18.drew:=(Below.refl _ _).drew;have q27:=q23.l bW26;have q28:=q19.l bW26;have r29:=r24.l bW26;have b30:=aa b25 bW26;clear q23 q19 r24 b25 bW26;refine wp_region_held_drew (S:=fun wq=>au wq (w1.heap.size+1) 78 (yDL t xo xc)∧au wq W10.heap.size 82 (ygL 2 64 0 0 true)) (by kernel_rfl) ⟨q27,q28⟩ (fun hS0=> ?_)
 generalize W18.drew=WD31 at q27 q28 r29 b30 hS0⊢;refine tq 0 (yDV t xo xc) rfl (fun _ hw0=>fy 78 (.tmp 10) rfl (w1.heap.size+1) 0 (by kernel_rfl) _ _ hw0.1.range underlying78 rfl (by kernel_rfl)) hS0 ?_
 refine tq 2 (ygV 2 64 0 0 true) rfl (fun _ hw0=>fy 82 (.tmp 12) rfl W10.heap.size 0 (by kernel_rfl) _ _ hw0.2.range underlying82 rfl (by kernel_rfl)) hS0 ?_
 refine tq 3 (yi wy) rfl (fun _ _=>by kernel_rfl) hS0 ?_
 refine wpAnyH_ready (rs:=[1,8]) (by kernel_rfl) (by simp) ?_;refine AllReadyH.cons rfl (fun K hK=> ?_) (AllReadyH.cons rfl (fun K hK=> ?_) AllReadyH.nil)
 ·go_simp
  refine(HT.out _ _ _).mono ?_;rintro zz w32 ⟨eo,ec,rfl,r134,bb33⟩;have q35:=q27.l bb33;have q36:=q28.l bb33;have r37:=r29.l bb33;have b38:=aa b30 bb33;clear q27 q28 r29 b30 bb33 HT;refine hK.out _ _ ⟨q35,q36⟩ (fun hS39=> ?_)
  clear hK K;refine wpAnyH_ready (rs:=[4,8]) (by kernel_rfl) (by simp) ?_;refine AllReadyH.cons rfl (fun K hK=> ?_) (AllReadyH.cons rfl (fun K hK=> ?_) AllReadyH.nil)
  ·go_simp
   refine(HG.out _ _ _ _ _ b38 r37 r134).mono ?_;rintro zz w40 ⟨po,pc,rfl,r142,bb41⟩;have q43:=q35.l bb41;have q44:=q36.l bb41;have b45:=aa b38 bb41;clear q35 q36 r37 r134 b38 bb41 HG;refine hK.out _ _ ⟨q43,q44⟩ (fun hS46=> ?_)
   clear hK K;refine tq 5 (.tuple #[ypV ps (yT po P pc) pp true ov un,yi 0]) rfl (fun _ _=>by kernel_rfl) hS46 ?_
   refine tq 6 (ypV ps (yT po P pc) pp true ov un) rfl (fun _ _=>by go_simp) hS46 ?_
   refine tq 7 (yi 0) rfl (fun _ _=>by go_simp) hS46 ?_
   refine wpAnyH_ready (rs:=[8]) (by kernel_rfl) (by simp) ?_;refine AllReadyH.cons rfl (fun K hK=> ?_) AllReadyH.nil
   go_simp
   have al47:=af w40 (.cells (ypA false yN 0 false false false) 84);have q48:=ah w40 (ypL false yN 0 false false false) 84;have hl51:w.heap.size≤w40.heap.size:=b45.size;have hl52:=q43.lt;have hl53:=q44.lt;have q54:=q43.l al47;have q55:=q44.l al47;have r56:=r142.l al47;have b57:=aa b45 al47;refine hK.out _ _ ⟨q54,q55⟩ (fun hS58=> ?_)
   clear hK K;clear q43 q44 r142 b45 al47;generalize w40.alloc (.cells (ypA false yN 0 false false false) 84)=WN49 at q54 q55 q48 r56 b57 hS58⊢;generalize w40.heap.size=PQ50 at q48 hl51 hl52 hl53⊢;refine wpAnyH_ready (rs:=[9]) (by kernel_rfl) (by simp) ?_;refine AllReadyH.cons rfl (fun K hK=> ?_) AllReadyH.nil
   have bu:But PQ50 WN49 (WN49.setCells PQ50 0 (ypL ps (yT po P pc) pp true ov un)):=de _ _ _ _;have hth:WN49.there PQ50 0 6:=dD q48;have q59:au (WN49.setCells PQ50 0 (ypL ps (yT po P pc) pp true ov un)) PQ50 84 (ypL ps (yT po P pc) pp true ov un):=q48.sets _ rfl;have r60:=bu.rd r56 (aX r56 q48 (by simp));have q61:=bu.loc q54 (by omega);have q62:=bu.loc q55 (by omega);have b63:=bu.below b57 (by omega);rw[if_pos (by kernel_rfl)];refine wp_store_mid 84 (.tmp 13) (.tmp 42) rfl PQ50 0 (ypA ps (yT po P pc) pp true ov un) (by kernel_rfl) (by kernel_rfl) hth (by kernel_rfl) (by simp[Value.oneCell']) ?_;refine hK.out _ _ ⟨q61,q62⟩ (fun hS64=> ?_)
   clear hK K;clear q48 r56 q54 q55 b57 bu hth;refine tq 10 (yi 0) rfl (fun _ _=>by kernel_rfl) hS64 ?_
   refine wpAnyH_done (by kernel_rfl) ?_ _;clear hS0 hS39 hS46 hS58 hS64;change Exit.then _ _ _ _ (World.setCells WN49 PQ50 0 (ypL ps (yT po P pc) pp true ov un));generalize World.setCells WN49 PQ50 0 (ypL ps (yT po P pc) pp true ov un)=W65 at q61 q62 q59 r60 b63⊢;simp only[Act.put,List.getElem_toArray,List.getElem_cons_succ,List.getElem_cons_zero,List.setIfInBounds_toArray,List.set_cons_zero,List.set_cons_succ];obtain⟨c66,c67,c68,c69,c70,c71⟩:=q59.cs6
   go_wp2_with fail
   refine(HH.out _ _ _ b63 r60).mono ?_;rintro zz w72 ⟨rfl,bb73⟩;have q74:=q59.l bb73;have b75:=aa b63 bb73;clear q61 q62 q59 r60 b63 bb73 HH c66 c67 c68 c69 c70 c71;have c76:=q74.c 3 rfl
   go_wp2
   go_ret3
   exact⟨by simp,b75⟩
  ·go_simp
   have al40:=af w32 (.cells (ypA false yN 0 false false false) 84);have q41:=ah w32 (ypL false yN 0 false false false) 84;have hl44:w.heap.size≤w32.heap.size:=b38.size;have hl45:=q35.lt;have hl46:=q36.lt;have q47:=q35.l al40;have q48:=q36.l al40;have r49:=r37.l al40;have r50:=r134.l al40;have b51:=aa b38 al40;refine hK.out _ _ ⟨q47,q48⟩ (fun hS52=> ?_)
   clear hK K;clear q35 q36 r37 r134 b38 al40;generalize w32.alloc (.cells (ypA false yN 0 false false false) 84)=WN42 at q47 q48 q41 r49 r50 b51 hS52⊢;generalize w32.heap.size=PQ43 at q41 hl44 hl45 hl46⊢;refine wpAnyH_ready (rs:=[4]) (by kernel_rfl) (by simp) ?_;refine AllReadyH.cons rfl (fun K hK=> ?_) AllReadyH.nil
   go_simp
   refine(HG.out _ _ _ _ _ b51 r49 r50).mono ?_;rintro zz w53 ⟨po,pc,rfl,r155,bb54⟩;have q56:=q47.l bb54;have q57:=q48.l bb54;have q58:=q41.l bb54;have b59:=aa b51 bb54;clear q47 q48 q41 r49 r50 b51 bb54 HG;refine hK.out _ _ ⟨q56,q57⟩ (fun hS60=> ?_)
   clear hK K;refine tq 5 (.tuple #[ypV ps (yT po P pc) pp true ov un,yi 0]) rfl (fun _ _=>by kernel_rfl) hS60 ?_
   refine tq 6 (ypV ps (yT po P pc) pp true ov un) rfl (fun _ _=>by go_simp) hS60 ?_
   refine tq 7 (yi 0) rfl (fun _ _=>by go_simp) hS60 ?_
   refine wpAnyH_ready (rs:=[9]) (by kernel_rfl) (by simp) ?_;refine AllReadyH.cons rfl (fun K hK=> ?_) AllReadyH.nil
   have bu:But PQ43 w53 (w53.setCells PQ43 0 (ypL ps (yT po P pc) pp true ov un)):=de _ _ _ _;have hth:w53.there PQ43 0 6:=dD q58;have q61:au (w53.setCells PQ43 0 (ypL ps (yT po P pc) pp true ov un)) PQ43 84 (ypL ps (yT po P pc) pp true ov un):=q58.sets _ rfl;have r62:=bu.rd r155 (aX r155 q58 (by simp));have q63:=bu.loc q56 (by omega);have q64:=bu.loc q57 (by omega);have b65:=bu.below b59 (by omega);rw[if_pos (by kernel_rfl)];refine wp_store_mid 84 (.tmp 13) (.tmp 42) rfl PQ43 0 (ypA ps (yT po P pc) pp true ov un) (by kernel_rfl) (by kernel_rfl) hth (by kernel_rfl) (by simp[Value.oneCell']) ?_;refine hK.out _ _ ⟨q63,q64⟩ (fun hS66=> ?_)
   clear hK K;clear q58 r155 q56 q57 b59 bu hth;refine tq 10 (yi 0) rfl (fun _ _=>by kernel_rfl) hS66 ?_
   refine wpAnyH_done (by kernel_rfl) ?_ _;clear hS0 hS39 hS52 hS60 hS66;change Exit.then _ _ _ _ (World.setCells w53 PQ43 0 (ypL ps (yT po P pc) pp true ov un));generalize World.setCells w53 PQ43 0 (ypL ps (yT po P pc) pp true ov un)=W67 at q63 q64 q61 r62 b65⊢;simp only[Act.put,List.getElem_toArray,List.getElem_cons_succ,List.getElem_cons_zero,List.setIfInBounds_toArray,List.set_cons_zero,List.set_cons_succ];obtain⟨c68,c69,c70,c71,c72,c73⟩:=q61.cs6
   go_wp2_with fail
   refine(HH.out _ _ _ b65 r62).mono ?_;rintro zz w74 ⟨rfl,bb75⟩;have q76:=q61.l bb75;have b77:=aa b65 bb75;clear q63 q64 q61 r62 b65 bb75 HH c68 c69 c70 c71 c72 c73;have c78:=q76.c 3 rfl
   go_wp2
   go_ret3
   exact⟨by simp,b77⟩
 ·go_simp
  have al32:=af WD31 (.cells (ypA false yN 0 false false false) 84);have q33:=ah WD31 (ypL false yN 0 false false false) 84;have hl36:w.heap.size≤WD31.heap.size:=b30.size;have hl37:=q27.lt;have hl38:=q28.lt;have q39:=q27.l al32;have q40:=q28.l al32;have r41:=r29.l al32;have b42:=aa b30 al32;refine hK.out _ _ ⟨q39,q40⟩ (fun hS43=> ?_)
  clear hK K;clear q27 q28 r29 b30 al32;generalize WD31.alloc (.cells (ypA false yN 0 false false false) 84)=WN34 at q39 q40 q33 r41 b42 hS43⊢;generalize WD31.heap.size=PQ35 at q33 hl36 hl37 hl38⊢;refine wpAnyH_ready (rs:=[1]) (by kernel_rfl) (by simp) ?_;refine AllReadyH.cons rfl (fun K hK=> ?_) AllReadyH.nil
  go_simp
  refine(HT.out _ _ _).mono ?_;rintro zz w44 ⟨eo,ec,rfl,r146,bb45⟩;have q47:=q39.l bb45;have q48:=q40.l bb45;have q49:=q33.l bb45;have r50:=r41.l bb45;have b51:=aa b42 bb45;clear q39 q40 q33 r41 b42 bb45 HT;refine hK.out _ _ ⟨q47,q48⟩ (fun hS52=> ?_)
  clear hK K;refine wpAnyH_ready (rs:=[4]) (by kernel_rfl) (by simp) ?_;refine AllReadyH.cons rfl (fun K hK=> ?_) AllReadyH.nil
  go_simp
  refine(HG.out _ _ _ _ _ b51 r50 r146).mono ?_;rintro zz w53 ⟨po,pc,rfl,r155,bb54⟩;have q56:=q47.l bb54;have q57:=q48.l bb54;have q58:=q49.l bb54;have b59:=aa b51 bb54;clear q47 q48 q49 r50 r146 b51 bb54 HG;refine hK.out _ _ ⟨q56,q57⟩ (fun hS60=> ?_)
  clear hK K;refine tq 5 (.tuple #[ypV ps (yT po P pc) pp true ov un,yi 0]) rfl (fun _ _=>by kernel_rfl) hS60 ?_
  refine tq 6 (ypV ps (yT po P pc) pp true ov un) rfl (fun _ _=>by go_simp) hS60 ?_
  refine tq 7 (yi 0) rfl (fun _ _=>by go_simp) hS60 ?_
  refine wpAnyH_ready (rs:=[9]) (by kernel_rfl) (by simp) ?_;refine AllReadyH.cons rfl (fun K hK=> ?_) AllReadyH.nil
  have bu:But PQ35 w53 (w53.setCells PQ35 0 (ypL ps (yT po P pc) pp true ov un)):=de _ _ _ _;have hth:w53.there PQ35 0 6:=dD q58;have q61:au (w53.setCells PQ35 0 (ypL ps (yT po P pc) pp true ov un)) PQ35 84 (ypL ps (yT po P pc) pp true ov un):=q58.sets _ rfl;have r62:=bu.rd r155 (aX r155 q58 (by simp));have q63:=bu.loc q56 (by omega);have q64:=bu.loc q57 (by omega);have b65:=bu.below b59 (by omega);rw[if_pos (by kernel_rfl)];refine wp_store_mid 84 (.tmp 13) (.tmp 42) rfl PQ35 0 (ypA ps (yT po P pc) pp true ov un) (by kernel_rfl) (by kernel_rfl) hth (by kernel_rfl) (by simp[Value.oneCell']) ?_;refine hK.out _ _ ⟨q63,q64⟩ (fun hS66=> ?_)
  clear hK K;clear q58 r155 q56 q57 b59 bu hth;refine tq 10 (yi 0) rfl (fun _ _=>by kernel_rfl) hS66 ?_
  refine wpAnyH_done (by kernel_rfl) ?_ _;clear hS0 hS43 hS52 hS60 hS66;change Exit.then _ _ _ _ (World.setCells w53 PQ35 0 (ypL ps (yT po P pc) pp true ov un));generalize World.setCells w53 PQ35 0 (ypL ps (yT po P pc) pp true ov un)=W67 at q63 q64 q61 r62 b65⊢;simp only[Act.put,List.getElem_toArray,List.getElem_cons_succ,List.getElem_cons_zero,List.setIfInBounds_toArray,List.set_cons_zero,List.set_cons_succ];obtain⟨c68,c69,c70,c71,c72,c73⟩:=q61.cs6
  go_wp2_with fail
  refine(HH.out _ _ _ b65 r62).mono ?_;rintro zz w74 ⟨rfl,bb75⟩;have q76:=q61.l bb75;have b77:=aa b65 bb75;clear q63 q64 q61 r62 b65 bb75 HH c68 c69 c70 c71 c72 c73;have c78:=q76.c 3 rfl
  go_wp2
  go_ret3
  exact⟨by simp,b77⟩
theorem ZB6.rd {w:World}{b:Nat}{v:Value}{zs:List Nat}(h:ZB6 w b)(hr:Rd w .i64 v zs)(hn:Dg.Norm zs)(x0 x1 x2 x3 x4 x5:Value):
  Rd ((((((w.setCell ⟨b,0,none⟩ x0).setCell ⟨b,1,none⟩ x1).setCell ⟨b,2,none⟩ x2).setCell ⟨b,3,none⟩ x3).setCell ⟨b,4,none⟩ x4).setCell ⟨b,5,none⟩ x5) .i64 v zs:=by
 obtain⟨hl,ty,hh⟩:=h;obtain⟨ao,cap,rfl,h1,h2,h3⟩:=hr;refine⟨ao,cap,rfl,h1,h2,fun hp=> ?_⟩
 obtain⟨c,off,rfl,hc⟩:=h3 hp;refine⟨c,off,rfl,fun i hi=> ?_⟩
 have hne:c≠b:=by
  intro e;subst e;have k1:=hc (zs.length-1) (by omega);have hz:=hn (List.length_pos_iff.1 hp);unfold World.cell? at k1;simp only[hh] at k1;obtain⟨o,ho⟩: ∃o,off+(zs.length-1)=o:=⟨_,rfl⟩;rw[ho] at k1;generalize zs.getD (zs.length-1) 0=d at*
  match o,k1 with
  |0,k1=>simp at k1
  |1,k1=>simp at k1
  |2,k1=>simp at k1;omega
  |3,k1=>simp at k1
  |4,k1=>simp at k1
  |5,k1=>simp at k1;omega
  |o+6,k1=>simp at k1
 rw[World.cell?_setCell_other (h:=by simp),World.cell?_setCell_other (h:=by simp),World.cell?_setCell_other (h:=by simp),World.cell?_setCell_other (h:=by simp),World.cell?_setCell_other (h:=by simp),World.cell?_setCell_other (h:=by simp)];exact hc i hi
end Go.Proofs.YtlgkfdcmokchgaaGreatDoor
