/-
  Texts laid together: Long2, Into1.
-/
import Derived.Test.YtiakgfmlpdfhdaaDoorSv24
import Derived.Test.YtiakgfmlpdfhdaaDoorSv25
set_option maxRecDepth 100000
set_option maxHeartbeats 3200000
namespace Go.Proofs.YtiakgfmlpdfhdaaDoor
open Go.RowKit
theorem JS (va vb:Value)(xs ys:List Nat)(w:World)(ha:Rd w .u32 va xs)(hb:Rd w .u32 vb ys)(sa:Dg.Small 4294967296 xs)(sb:Dg.Small 4294967296 ys)(nb:Dg.Norm ys)(hn:2≤ys.length)(hle:ys.length≤xs.length)(hla:xs.length≤900000):
  yC 95 #[va,vb] w (Two w (Dg.vl 4294967296 xs/Dg.vl 4294967296 ys) (Dg.vl 4294967296 xs % Dg.vl 4294967296 ys)):=by
 obtain⟨i0,hi,hz0,hz1,hz2⟩:=info_parts Tryd.infoU32;have hsz:(Tryd.prog.info? 87).map (·.size)=some 1:=by rw[hi];simp[hz1]
 obtain⟨s,hs⟩: ∃s,32-bitLen (ys.getD (ys.length-1) 0)=s:=⟨_,rfl⟩;obtain⟨hs32,hD1,hD2⟩:=V7 ys s sb nb hn hs.symm;have hlz:=XC (ys.getD (ys.length-1) 0) w (sb _);rw[hs] at hlz;have hrb:=vO vb ys s 0 s (2^s) w hb sb (by omega) (by omega) hs32 rfl (by omega) (by intro e;rw[e] at hn;simp at hn);have HRA:Hid (∀w1,yB w w1→yC 91 #[va,yi s] w1 (Num w1 (Dg.vl 4294967296 xs*2^s))):=fun w1 b1=>
  vO va xs s 0 s (2^s) w1 (ha.l b1) sa (by omega) (by omega) hs32 rfl (by omega) (by intro e;rw[e] at hle;have h0:ys.length≤0:=hle;omega)
 obtain⟨ao,ca,rfl⟩:=ha.shape;obtain⟨bo,cb,rfl⟩:=hb.shape;obtain⟨-,-,hcb⟩:=iQ hb;obtain⟨bb,boff,rfl,hcell⟩:=hcb (by omega);have hy:=hcell (ys.length-1) (by omega);have hyl:=sb (ys.length-1);have n1:((ys.length:Int)-1)=((ys.length-1:Nat):Int):=by omega
 have hvx:=Dg.vl_lt 4294967296 xs sa;obtain⟨X,hX⟩: ∃X,Dg.vl 4294967296 xs=X:=⟨_,rfl⟩;obtain⟨Y,hY⟩: ∃Y,Dg.vl 4294967296 ys=Y:=⟨_,rfl⟩;rw[hX] at HRA hvx⊢;rw[hY] at hrb hD1 hD2⊢;obtain⟨nn,hnn⟩: ∃nn,ys.length=nn:=⟨_,rfl⟩;obtain⟨na,hna⟩: ∃na,xs.length=na:=⟨_,rfl⟩;obtain⟨y,hyy⟩: ∃y,ys.getD (ys.length-1) 0=y:=⟨_,rfl⟩;rw[hyy] at hlz hy hyl;rw[hnn] at hD1 hD2 hrb hy n1 hn hle⊢;rw[hna] at HRA hle hla hvx⊢;have HD1:Hid (2147483648*4294967296^ (nn-1)≤Y*2^s):=hD1;have HD2:Hid (Y*2^s<4294967296^nn):=hD2;have HVX:Hid (X<4294967296^na):=hvx;clear ha hb sa sb nb hs hcb hcell hX hY hnn hna hyy hD1 hD2 hvx
 go_enter Tryd.func95,Tryd.ntmps95
 go_wp2_with fail
 refine hlz.mono ?_;rintro e w' ⟨rfl,rfl⟩;clear hlz
 go_wp2_with fail
 refine hrb.mono ?_;rintro e w1 ⟨vby,rfl,ownb,bel1⟩;clear hrb;have hDl:(Dg.dg 4294967296 (Y*2^s)).length=nn:=V8 nn _ (by omega) (by have:=HD1.out;omega) HD2.out;obtain⟨gb,cby,rfl,hgb1,hgb2,hcby⟩:=ownb.form (by omega);rw[hDl] at ownb hcby⊢;obtain⟨bs,hbs⟩: ∃bs,Dg.dg 4294967296 (Y*2^s)=bs:=⟨_,rfl⟩;rw[hbs] at ownb hDl
 go_wp2_with (at_make;refine wpList_make_full _ rfl _ _ 92 rfl w1.heap.size 87 i0 (.int .u32 0) 1 Tryd.underlying92 hi hz0 hz1 _ _ _ _ (na+1) rfl rfl (by omega) (by omega) ?b2 ?b3 (Nat.le_refl _) ?_)
 case b2=>rw[hz2];omega
 case b3=>unfold maxLen;omega
 intro w2 hown2 hgrow2;have own2:=gL hown2;have bel2:yB w1 w2:=(Below.refl _ _).grown hgrow2 (Nat.le_refl _) (fun k h=>by cases h)
 clear hown2 hgrow2
 go_wp2_with fail
 refine(HRA.out w2 (aa bel1 bel2)).mono ?_;rintro e w3 ⟨vra,rfl,owna,bel3⟩;obtain⟨az,haz⟩: ∃az,Dg.dg 4294967296 (X*2^s)=az:=⟨_,rfl⟩;rw[haz] at owna;have hal:az.length≤na+1:=by rw[←haz];exact RI X na s HVX.out hs32
 have rda:=owna.rd;obtain⟨ara,cra,rfl⟩:=rda.shape;have own3:=own2.l bel3;obtain⟨w4,hrun,own4,gr4⟩:=Nw 92 92 3 Tryd.underlying92 hsz own3 rda (by simpa using hal);have b12:=aa bel1 bel2;have b13:=aa b12 bel3;have bel4:Below w'.heap.size w' w4:=b13.grown gr4 b13.size (fun k hk=>by cases hk;exact bel1.size)
 have ownb4:=((ownb.l bel2).l bel3).other gr4 (by omega);have own4:=own4.lower bel1.size;clear own3 rda owna HRA own2 ownb hsz
 go_wp2_with (at_make;refine wpList_make_full _ rfl _ _ 92 rfl w4.heap.size 87 i0 (.int .u32 0) 1 Tryd.underlying92 hi hz0 hz1 _ _ _ _ (na+1-nn) rfl rfl ?b0 ?b1 ?b2 ?b3 (Nat.le_refl _) ?_)
 case b0=>omega
 case b1=>omega
 case b2=>rw[hz2];omega
 case b3=>unfold maxLen;omega
 intro w5 hown5 hgrow5;have own5:=gL hown5;have bel5:yB w4 w5:=(Below.refl _ _).grown hgrow5 (Nat.le_refl _) (fun k h=>by cases h)
 have ownr5:=own4.l bel5;have ownb5:=ownb4.l bel5;have belw:=aa bel4 bel5;have hb14:w1.heap.size<w4.heap.size:=own4.block.2;have hbw1:w'.heap.size≤w1.heap.size:=bel1.size;clear hown5 hgrow5 own4 ownb4 bel4 bel5 bel1 bel2 bel3 b12 b13 gr4 hrun hy hyl n1;have hst:=Pj (nn:=nn) haz hal HVX.out hs32 (by omega) (by omega) HD1.out;have hsb:Dg.Small 4294967296 bs:=by rw[←hbs];exact Dg.small_dg _ _ (by omega)
 have hvb:Dg.vl 4294967296 bs=Y*2^s:=by rw[←hbs];exact Dg.vl_dg _ _ (by omega)
 have hY0:0<Y:=by
  rcases Nat.eq_zero_or_pos Y with e|e
  ·have:=HD1.out
   rw[e,Nat.zero_mul] at this;have h2:=Nat.pow_pos (n:=nn-1) (show 0<4294967296 by omega)
   omega
  ·exact e
 obtain⟨M,hM⟩: ∃M,na+1=M+nn:=⟨na+1-nn,by omega⟩;rw[hM,Nat.add_sub_cancel] at own5 hst;rw[hM] at ownr5;rw[hM,Nat.add_sub_cancel];obtain⟨g4,hg4⟩: ∃g4,w4.heap.size=g4:=⟨_,rfl⟩;obtain⟨g1,hg1⟩: ∃g1,w1.heap.size=g1:=⟨_,rfl⟩;rw[hg4] at own5 hb14⊢;rw[hg1] at ownr5 hb14 hbw1 hgb2⊢;have own5:=own5.lower (show w'.heap.size≤g4 by omega)
 have ne1:gb≠g1:=by omega
 have ne2:g1≠g4:=by omega
 have ne3:gb≠g4:=by omega
 have hbw4:w'.heap.size≤g4:=by omega
 have hMN:M+nn≤900001:=by omega
 clear haz hal HVX hbs hM hle hla hg4 hg1
 go_wp2
 go_loopw [10] (fun iv wr=>ae2 w' (X*2^s) (Y*2^s) M (M+nn) g1 g4 gb cby bs iv wr) (fun iv _=>(intOf iv+1).toNat)
 case atStart=>exact⟨M,_,_,Nat.le_refl _,rfl,hst,ownr5,own5,by rw[hDl];exact ownb5,belw⟩
 case round=>
  clear hst own5 ownr5 ownb5 belw hgb1 hgb2 hcby hb14 hi hz0 hz1 hz2;obtain⟨k,R,os,hk,rfl,hI,ownR,ownO,ownB,bel⟩:=hrel
  by_cases hk0:k=0
  ·subst hk0
   have hen:=Xs hY0 hI;have ro:=ownO.rd;have rr:=ownR.rd;clear ownB
   go_wp2_with fail
   refine(jD _ _ _ _ _ ro).mono ?_;rintro e w6 ⟨m,rfl,hm,rfl⟩;have to0:=jW 4294967296 (by omega) ownO hI.2.2.2.1 hm;rw[hen.1] at to0
   go_wp2_with fail
   refine(jD _ _ _ _ _ rr).mono ?_;rintro e w6 ⟨m2,rfl,hm2,rfl⟩;have tr:=jW 4294967296 (by omega) ownR hI.2.2.1 hm2;have hlow:=Dj _ _ s 0 s w6 tr.rd (Dg.small_dg _ _ (by omega)) (by have h1:=hm2.1;have h2:=hI.1;have h3:=tr.len;omega) (by omega) hs32 (by omega);rw[Dg.vl_dg _ _ (by omega),hen.2] at hlow;clear ro rr hm hm2 hen ownO ownR tr hI
   go_wp2_with fail
   refine hlow.mono ?_;rintro e w7 ⟨vr,rfl,ownr7,bel7⟩;have to7:=to0.l bel7;have b7:=aa bel bel7;have or7:=ownr7.lower bel.size;clear hlow
   go_wp2
   go_ret2
   exact⟨_,_,rfl,to7,or7,b7⟩
  ·obtain⟨i,rfl⟩: ∃i,k=i+1:=⟨k-1,by omega⟩
   have n2:((i+1:Nat):Int)-1=(i:Int):=by omega
   rw[n2];have hRl:=hI.1;rw[hDl] at ownB;have c2:=ownR.c (i+nn) (by omega);have c1:=ownR.c (i+(nn-1)) (by omega);have c0:=ownR.c (i+(nn-2)) (by omega);have e1:=ownB.c (nn-1) (by omega);have e0:=ownB.c (nn-2) (by omega);have lg:=Pi hI hsb hvb hn HD1.out HD2.out;have hgs:=TX g1 i nn (M+nn-i) gb 0 cby _ _ _ _ _ wr hn (by omega) (by omega) c2 c1 c0 (by rw[Nat.zero_add];exact e1) (by rw[Nat.zero_add];exact e0) (hI.2.2.1 _) (hI.2.2.1 _) (hI.2.2.1 _) (hsb _) (hsb _) lg.1 lg.2.1;have LG:=lg.2.2;have HLG:Hid _:=LG;clear c2 c1 c0 e1 e0 lg LG
   go_wp2_with fail
   rw[show i+nn+1-i=nn+1 from by omega]
   refine hgs.mono ?_;rintro e w6 ⟨g,rfl,hgl,hlow,hup,bel6⟩;clear hgs;have hq:=HLG.out g hgl hlow hup;clear HLG hlow hup;have ownR6:=ownR.l bel6;have ownO6:=ownO.l bel6;have ownB6:=ownB.l bel6;have b6:=aa bel bel6;clear ownR ownO ownB bel6 bel;have htk:=H7 g1 (M+nn) i (M+nn-i) w'.heap.size g R bs _ w6 ownR6 hI.2.2.1 hsb (fun w'' hg=>(ownB6.other hg ne1).rd) (by omega) hgl (by omega)
   rw[hDl] at htk;obtain⟨q,hqq⟩: ∃q,Dg.vl 4294967296 R/4294967296^i/(Y*2^s)=q:=⟨_,rfl⟩;rw[hqq] at hq;have HRE:Hid (∀cur b,acc R cur bs i g b→_):=fun cur b hT=>QR hT hI.2.2.1 rfl hvb (Nat.mul_pos hY0 (Nat.pow_pos (by omega))) (by rw[hDl];exact HD2.out) hI.2.2.2.2.2.2 hqq hq.2
   go_wp2_with fail
   refine htk.mono ?_;rintro e w7 ⟨b,cur,rfl,hT,ownC,gr7⟩;have hre:=HRE.out cur b hT;have hb1:=hT.2.2.2.1;have hTl:=hT.1;have hTs:=hT.2.1;have ownO7:=ownO6.other gr7 ne2.symm;have ownB7:=ownB6.other gr7 ne1;have b7:=b6.grown gr7 b6.size (fun k hk=>by cases hk;exact hbw1)
   have hql:=hq.1;have hil:i<M:=by omega
   clear HRE hT htk hq hqq ownR6 ownO6 ownB6 b6 gr7
   by_cases hb:b=0
   ·subst hb
    obtain⟨rfl,hv,hlt⟩:=hre.1 rfl;have hnx:=Iv hI hil hgl hTl hTs hv hlt;have ed:decide ((0:Nat)=1)=false:=rfl;rw[ed];have hf:=ownO7.f i;have hcO:=ownO7.c i (by have:=hI.2.1;omega);clear hre hv hlt hI hTs
    go_wp2
    go_roundw
    case rel=>exact⟨i,cur,_,by omega,by go_num,hnx,ownC.other (bI _ _ _ _) ne2,ownO7.store i _,by rw[hDl];exact ownB7.other (bI _ _ _ _) ne3,b7.setCell (by exact hbw4) _⟩
    case measure=>simp[intOf]
   ·have hb:b=1:=by omega
    subst hb;obtain⟨rfl,hbk⟩:=hre.2 rfl;have hpb:=Mj g1 (M+nn) i (M+nn-i) w'.heap.size cur bs _ w7 ownC hTs hsb (fun w'' hg=>(ownB7.other hg ne1).rd) (by omega) (by omega)
    rw[hDl] at hpb;have ed:decide ((1:Nat)=1)=true:=rfl;rw[ed];have n3:((q+1:Nat):Int)-1=(q:Int):=by omega
    have HBK:Hid _:=hbk;clear hre hbk
    go_wp2_with fail
    refine hpb.mono ?_;rintro e w8 ⟨o,cur',rfl,hB,ownC8,gr8⟩;obtain⟨hv,hlt⟩:=HBK.out cur' o hB;have hnx:=Iv hI hil hql (hB.1.trans hTl) hB.2.1 hv hlt;have ownO8:=ownO7.other gr8 ne2.symm;have ownB8:=ownB7.other gr8 ne1;have b8:=b7.grown gr8 b7.size (fun k hk=>by cases hk;exact hbw1)
    have hf:=ownO8.f i;have hcO:=ownO8.c i (by have:=hI.2.1;omega);clear hpb HBK hv hlt hB gr8 hI hTs ownC ownO7 ownB7 b7
    go_wp2
    go_roundw
    case rel=>exact⟨i,cur',_,by omega,by go_num,hnx,ownC8.other (bI _ _ _ _) ne2,ownO8.store i _,by rw[hDl];exact ownB8.other (bI _ _ _ _) ne3,b8.setCell (by exact hbw4) _⟩
    case measure=>simp[intOf]
theorem Tj (va vb:Value)(xs bs:List Nat)(w:World)(ha:Rd w .i64 va xs)(hb:Rd w .i64 vb bs)(sa:Dg.Small 65536 xs)(sb:Dg.Small 65536 bs)(nb:Dg.Norm bs)(hla:xs.length≤900000)(hlb:bs.length≤900000)(hb2:2≤bs.length):
  yC 36 #[va,vb] w fun e w'=> ∃vq vr,e= .returned (.tuple #[vq,vr])∧Rd w' .i64 vq (Dg.dg 65536 (Dg.vl 65536 xs/Dg.vl 65536 bs))∧Rd w' .i64 vr (Dg.dg 65536 (Dg.vl 65536 xs % Dg.vl 65536 bs))∧yB w w':=by
 obtain⟨i0,hi,hz0,hz1,hz2⟩:=info_parts Tryd.infoI64;have hbne:bs≠[]:=by intro e;rw[e] at hb2;simp at hb2
 have hb0:0<Dg.vl 65536 bs:=Nat.pos_of_ne_zero (Dg.vl_ne_zero 65536 (by omega) bs hbne nb);have HB:Hid (Rd w .i64 vb bs):=hb;have HCM:Hid (∀v u x y w1,Rd w1 .i64 v (Dg.dg 65536 x)→Rd w1 .i64 u (Dg.dg 65536 y)→yC 52 #[v,u] w1 (yR w1 (yi (dm x y)))):=fun v u x y w1 r q=>by
  have:=fm v u _ _ w1 r q (Dg.small_dg _ _ (by omega)) (Dg.small_dg _ _ (by omega)) (Dg.norm_dg _ _ (by omega)) (Dg.norm_dg _ _ (by omega))
  rwa [Dg.vl_dg _ _ (by omega),Dg.vl_dg _ _ (by omega)] at this
 have hbd:=Dg.eq_dg 65536 (by omega) bs _ sb nb rfl;have HBC:Hid (∀v x w1,yB w w1→Rd w1 .i64 v (Dg.dg 65536 x)→yC 52 #[v,vb] w1 (yR w1 (yi (dm x (Dg.vl 65536 bs))))):=fun v x w1 b r=>
  HCM.out v vb x _ w1 r (by rw[←hbd];exact hb.l b)
 have HTM:Hid (∀v d w1,d<65536→yB w w1→Rd w1 .i64 v (Dg.dg 65536 d)→yC 30 #[vb,v] w1 (cG w1 (Dg.vl 65536 bs*d))):=fun v d w1 hd b r=>by
  have hl:(Dg.dg 65536 d).length≤1:=Dg.dg_len_le 65536 d 1 (by omega) (by omega);have:=fN vb v bs _ w1 (hb.l b) r sb (Dg.small_dg _ _ (by omega)) (by omega) (by omega)
  rwa [Dg.vl_dg _ _ (by omega)] at this
 have HLS:Hid (∀v u x y w1,(Dg.dg 65536 x).length≤1000000→y≤x→Rd w1 .i64 v (Dg.dg 65536 x)→Rd w1 .i64 u (Dg.dg 65536 y)→yC 33 #[v,u] w1 (Si w1 (x-y))):=fun v u x y w1 hl hxy r q=>by
  have h5:=Dg.vl_lt 65536 _ (Dg.small_dg 65536 x (by omega));rw[Dg.vl_dg _ _ (by omega)] at h5;have:=Lt v u _ _ w1 r q (Dg.small_dg _ _ (by omega)) (Dg.small_dg _ _ (by omega)) (by omega) (Dg.dg_len_le 65536 y _ (by omega) (Nat.lt_of_le_of_lt hxy h5)) (by rw[Dg.vl_dg _ _ (by omega),Dg.vl_dg _ _ (by omega)];exact hxy)
  rwa [Dg.vl_dg _ _ (by omega),Dg.vl_dg _ _ (by omega)] at this
 clear hbd;obtain⟨ao,ca,rfl,-,-,hca⟩:=ha;obtain⟨bo,cb,rfl,-,-,hcb⟩:=hb;have hl1:((bs.length:Int)==1)=false:=by simp;omega
 go_enter Tryd.func36,Tryd.ntmps36
 go_wp2_with (at_make;refine wpList_make_full _ rfl _ _ 34 rfl w.heap.size 3 i0 (yi 0) 1 Tryd.underlying34 hi hz0 hz1 _ _ _ _ xs.length rfl rfl (by omega) (by omega) ?b2 ?b3 (Nat.le_refl _) ?_)
 case b2=>rw[hz2];omega
 case b3=>unfold maxLen;omega
 intro w0 hown0 hgrow0;have own0:=gL hown0;have bel0:yB w w0:=(Below.refl _ _).grown hgrow0 (Nat.le_refl _) (fun k h=>by cases h)
 clear hown0 hgrow0
 go_wp2
 go_loopw [10,11] (fun rv iv wr=> ∃(k R:Nat) (cur:List Nat),k≤xs.length∧iv=yi ((k:Int)-1)∧aeu w xs (Dg.vl 65536 bs) k R cur rv wr)
  (fun _ iv _=>(intOf iv+1).toNat)
 case atStart=>exact⟨xs.length,0,_,Nat.le_refl _,rfl,own0,(aQ _ 0 0 .i64).rd,NF xs _ hb0,bel0⟩
 case round=>
  clear own0 bel0;obtain⟨k,R,cur,hk,rfl,own,hR,hI,bel⟩:=hrel
  by_cases hk0:k=0
  ·subst hk0
   obtain⟨e1,e2⟩:=Vo hI;have hcl:cur.length≤1000000:=by have:=hI.1;omega
   have hcs:=hI.2.1;have HE1:Hid (Dg.vl 65536 xs/Dg.vl 65536 bs=Dg.vl 65536 cur):=e1;have HE2:Hid (Dg.vl 65536 xs % Dg.vl 65536 bs=R):=e2;clear e1 e2 hI
   go_wp2_with fail
   refine(i9 _ _ _ cur _ own.rd).mono ?_;rintro e w' ⟨m,rfl,hm,rfl⟩;have rq:=xh own hcs hm (by omega)
   go_wp2
   go_ret2
   exact⟨_,_,rfl,by rw[HE1.out];exact rq,by rw[HE2.out];exact hR,bel⟩
  ·obtain⟨m,rfl⟩: ∃m,k=m+1:=⟨k-1,by omega⟩
   obtain⟨ab,aoff,rfl,hcell⟩:=hca (by omega);have hx:=cell_later bel (hcell m (by omega));have hxl:=sa m;obtain⟨N,hN⟩: ∃N,N=xs.getD m 0+65536*R:=⟨_,rfl⟩;obtain⟨hNlt,hset⟩:=Vn hI (by omega) hN hb0 hxl;have hskip:=fun h:N<Dg.vl 65536 bs=>QV hI (by omega) hN h
   have hRb:=hI.2.2.2.1;have hcl:=hI.1;obtain⟨x,ex⟩: ∃x,xs.getD m 0=x:=⟨_,rfl⟩;rw[ex] at hx hxl hN;have a1:yB wr (wr.alloc (.cells #[yi (x:Int)] 3)):=(Below.refl _ _).alloc (Nat.le_refl _) _;have own1:=aaD wr wr.heap.size 3 x (Nat.le_refl _);have hRl:(Dg.dg 65536 R).length≤bs.length:=Dg.dg_len_le 65536 R bs.length (by omega) (Nat.lt_trans hRb (Dg.vl_lt 65536 bs sb));obtain⟨v1,w1,hrun,own2,gr⟩:=Ho (P:=Tryd.prog) 34 34 i0 8 Tryd.underlying34 hi hz0 hz1 hz2 (Nat.le_refl _) own1 (hR.l a1) (by simp only[List.length_cons,List.length_nil];omega) (by simp);have b1:yB wr w1:=a1.grown gr a1.size (fun k hk=>by cases hk;exact Nat.le_refl _)
   have hs2:Dg.Small 65536 ([x]++Dg.dg 65536 R):=Dg.small_cons.2 ⟨hxl,Dg.small_dg _ _ (by omega)⟩;have hv2:Dg.vl 65536 ([x]++Dg.dg 65536 R)=N:=by rw[List.singleton_append];simp only[Dg.vl];rw[Dg.vl_dg _ _ (by omega),hN]
   obtain⟨g1,c1,rfl,-,-⟩:=World.ownsRow.form own2 (by simp);have r2:=own2.rd;have hl2:([x]++Dg.dg 65536 R).length≤1000000:=by simp only[List.length_append,List.length_cons,List.length_nil];omega
   have own:=own.l b1;have bel:=aa bel b1;have HSET:Hid (BI xs (cur.set m (N/Dg.vl 65536 bs)) (Dg.vl 65536 bs) m (N % Dg.vl 65536 bs)):=hset;have HSKIP:Hid (N<Dg.vl 65536 bs→BI xs cur (Dg.vl 65536 bs) m N):=hskip;have HNLT:Hid (N<65536*Dg.vl 65536 bs):=hNlt;have HV2:Hid (Dg.vl 65536 ([x]++Dg.dg 65536 R)=N):=hv2;have HS2:Hid (Dg.Small 65536 ([x]++Dg.dg 65536 R)):=hs2;clear hset hskip hNlt hv2 hs2 own2 gr a1 own1 hR hI ex hN hcell hRb hRl b1
   go_wp2_with (at_builtin;refine kq (by rfl) _ _ 34 (by rfl) _ _ _ w1 (by rfl) (by rfl) hrun ?_)
   go_wp2_with fail
   refine(i9 _ _ _ _ _ r2).mono ?_;rintro e w' ⟨n1,rfl,htr,rfl⟩;have hml:=htr.1;have r1:=uE (cap':=n1) 65536 (by omega) r2 HS2.out htr (Nat.le_refl _) (by unfold maxLen;omega);rw[HV2.out] at r1;clear htr r2 HS2 HV2 hrun;have HN1:Hid (n1=(Dg.dg 65536 N).length):=wn r1
   by_cases hlt:N<Dg.vl 65536 bs
   ·have hI2:=HSKIP.out hlt
    go_wp2_with fail
    refine(HBC.out _ N _ bel r1).mono ?_;rintro e w2 ⟨rfl,b2⟩;rw[gX (by omega)];have own:=own.l b2;have r2:=r1.l b2;have bel:=aa bel b2
    go_wp2
    go_roundw
    case rel=>exact⟨m,N,cur,by omega,by go_num,own,r2,hI2,bel⟩
    case measure=>simp[intOf]
   ·have hd:=Ti (a:=(N:Int)) (b:=(Dg.vl 65536 bs:Int)) (by omega)
    obtain⟨cr,hcr⟩: ∃cr,dm (N:Int) (Dg.vl 65536 bs:Int)=cr:=⟨_,rfl⟩;rw[hcr] at hd;have HCR:Hid (dm (N:Int) (Dg.vl 65536 bs:Int)=cr):=hcr;clear hcr
    go_wp2_with fail
    refine(HBC.out _ N _ bel r1).mono ?_;rintro e w2 ⟨rfl,b2⟩;rw[HCR.out];have own:=own.l b2;have r2:=r1.l b2;have bel:=aa bel b2;obtain⟨-,-,hcb2⟩:=iQ (HB.out.l bel);obtain⟨bb,boff,rfl,hcellb⟩:=hcb2 (by omega);have e1:=hcellb (bs.length-1) (by omega);have e0:=hcellb (bs.length-2) (by omega);have hd1:=sb (bs.length-1);have hd0:=sb (bs.length-2);obtain⟨d1,ed1⟩: ∃d1,bs.getD (bs.length-1) 0=d1:=⟨_,rfl⟩;obtain⟨d0,ed0⟩: ∃d0,bs.getD (bs.length-2) 0=d0:=⟨_,rfl⟩;have hgs:=Zu (Dg.dg 65536 N) bs bs.length N (Dg.vl 65536 bs) (sJ (Dg.dg 65536 N) bs.length 3) (d1*65536+d0) hb2 rfl (Dg.small_dg _ _ (by omega)) nb (Dg.vl_dg _ _ (by omega)) rfl (Dg.dg_len_le 65536 N _ (by omega) (by
     have h5:=Dg.vl_lt 65536 bs sb;have h6:=HNLT.out;rw[Nat.pow_succ];omega)) HNLT.out (by simp[sJ]) (by rw[ed1,ed0])
    rw[ed1] at e1 hd1;rw[ed0] at e0 hd0;have n1':((bs.length:Int)-1)=((bs.length-1:Nat):Int):=by omega
    have n2':((bs.length:Int)-2)=((bs.length-2:Nat):Int):=by omega
    have hi1:((bs.length-1:Nat):Int)< (bs.length:Int):=by omega
    have hi2:((bs.length-2:Nat):Int)< (bs.length:Int):=by omega
    have HGS:Hid _:=hgs;clear hgs ed1 ed0 hcellb hcb2 HCR
    go_wp2
    go_quiet (fail)
    go_wp2
    have bq:yB w2 (w2.drewN nq):=aL (Below.refl _ _) nq;have own:=own.l bq;have r2:=r2.l bq;have bel:=aa bel bq;obtain⟨W3,hW3⟩: ∃W3,w2.drewN nq=W3:=⟨_,rfl⟩;rw[hW3] at own r2 bel;have HW3:Hid (w2.drewN nq=W3):=hW3;rw[hW3];clear hW3 bq b2
    go_loopw [12,14] (fun tv jv wq=>wq=W3∧ ∃j:Nat,j≤3∧jv=yi j∧tv=yi (sJ (Dg.dg 65536 N) bs.length j)) (fun _ jv _=>3-(intOf jv).toNat)
    case atStart=>exact⟨rfl,0,by omega,rfl,rfl⟩
    case round=>
     obtain⟨hwq,j,hj,rfl,rfl⟩:=hrel;subst hwq;have hT:=Wm (Dg.small_dg 65536 N (by omega)) bs.length j;have hTj:j<3→sJ (Dg.dg 65536 N) bs.length j<4294967296:=fun h=>Nat.lt_of_lt_of_le hT (Nat.pow_le_pow_right (n:=65536) (by omega) (show j≤2 by omega))
     have hTs:sJ (Dg.dg 65536 N) bs.length (j+1)=65536*sJ (Dg.dg 65536 N) bs.length j+(Dg.dg 65536 N).getD (bs.length-j) 0:=rfl;have hDl:=Dg.small_dg 65536 N (by omega) (bs.length-j);have hD0: ¬bs.length-j<n1→(Dg.dg 65536 N).getD (bs.length-j) 0=0:=fun h=>Dg.getD_of_le _ _ (by rw[←HN1.out];omega)
     have hDc:bs.length-j<n1→wr.cell? ⟨g1,bs.length-j,none⟩=some (yi (((Dg.dg 65536 N).getD (bs.length-j) 0:Nat):Int)):=fun h=>Wo r2 _ (by rw[←HN1.out];exact h)
     by_cases hj3:j<3
     ·have hTl:=hTj hj3
      obtain⟨T,hTe⟩: ∃T,sJ (Dg.dg 65536 N) bs.length j=T:=⟨_,rfl⟩;obtain⟨D,hDe⟩: ∃D,(Dg.dg 65536 N).getD (bs.length-j) 0=D:=⟨_,rfl⟩;rw[hTe] at hTs hTl⊢;rw[hDe] at hTs hDl hD0 hDc;obtain⟨i,hie⟩: ∃i,bs.length-j=i:=⟨_,rfl⟩;have hiI:((bs.length:Int)-(j:Int))=(i:Int):=by omega
      rw[hie] at hD0 hDc;have HTS:Hid (sJ (Dg.dg 65536 N) bs.length (j+1)=65536*T+D):=hTs;clear hT hTj hTs hTe hDe hie
      by_cases hat:i<n1
      ·have hDc:=hDc hat
       clear hD0
       go_wp2
       go_roundw
       case rel=>exact⟨trivial,j+1,by omega,by go_num,by rw[HTS.out];go_num⟩
       case measure=>simp[intOf];omega
      ·have hD:=hD0 hat
       subst hD;clear hDc hD0
       go_wp2
       go_roundw
       case rel=>exact⟨trivial,j+1,by omega,by go_num,by rw[HTS.out];go_num⟩
       case measure=>simp[intOf];omega
     ·have hj4:j=3:=by omega
      subst hj4;clear hTj hTs hDl hD0 hDc hj hj3;have hTl:sJ (Dg.dg 65536 N) bs.length 3<281474976710656:=Nat.lt_of_lt_of_le hT (by decide);clear hT;obtain⟨T,hTe⟩: ∃T,sJ (Dg.dg 65536 N) bs.length 3=T:=⟨_,rfl⟩;rw[hTe] at HGS hTl⊢;clear hTe;have hq1:(T:Int).tdiv ((d1:Int)*65536+(d0:Int)+1)=((T/(d1*65536+d0+1):Nat):Int):=by
       rw[Int.tdiv_eq_ediv_of_nonneg (by omega)];exact(Int.natCast_ediv T (d1*65536+d0+1)).symm
      have hq2:(T:Int)/((d1:Int)*65536+(d0:Int)+1)=((T/(d1*65536+d0+1):Nat):Int):=(Int.natCast_ediv T (d1*65536+d0+1)).symm;have hql:T/(d1*65536+d0+1)≤T:=Nat.div_le_self _ _;obtain⟨q,hqe⟩: ∃q,T/(d1*65536+d0+1)=q:=⟨_,rfl⟩;rw[hqe] at HGS hq1 hq2 hql;have hne:(((d1:Int)*65536+(d0:Int)+1)==0)=false:=by simp;omega
      clear hqe
      go_wp2
      obtain⟨D,hD⟩: ∃D:Nat,min (65535:Int) (max 0 ((q:Int)-1)+4)=(D:Int):=⟨(min (65535:Int) (max 0 ((q:Int)-1)+4)).toNat,by omega⟩;have HD1:Hid (N/Dg.vl 65536 bs≤D∧D≤65535):=⟨by have:=HGS.out;omega,by omega⟩;have HD2:Hid (min (65535:Int) (max 0 ((q:Int)-1)+4)=(D:Int)):=hD;clear hD HGS hq1 hq2 hql hne hTl;obtain⟨W5,rfl⟩: ∃W5,W5=wr:=⟨_,rfl⟩
      go_loopw [10,17] (fun rv dv wq=>aev W5 g1 n1 (N/Dg.vl 65536 bs) rv dv wq) (fun _ dv _=>(intOf dv).toNat)
      case atStart=>exact⟨rfl,D,HD1.out.1,HD1.out.2,by rw[HD2.out],Below.refl _ _⟩
      case round=>
       obtain⟨rfl,d,hg1,hg2,rfl,b5⟩:=hrel;have own5:=own.l b5;have r5:=r2.l b5;have bel5:=aa bel b5;have hNl:(Dg.dg 65536 N).length≤1000000:=by rw[←HN1.out];omega
       clear HD1 HD2
       by_cases hle:Dg.vl 65536 bs*d≤N
       ·have hdq:=NG hg1 hle hb0
        have hcle:=Wn (a:=((Dg.vl 65536 bs*d:Nat):Int)) (b:=(N:Int)) (Int.ofNat_le.2 hle);obtain⟨cz,hcz⟩: ∃cz,dm ((Dg.vl 65536 bs*d:Nat):Int) (N:Int)=cz:=⟨_,rfl⟩;rw[hcz] at hcle;have HCZ:Hid (dm ((Dg.vl 65536 bs*d:Nat):Int) (N:Int)=cz):=hcz;have HLE:Hid (Dg.vl 65536 bs*d≤N):=hle;have HDQ:Hid (d=N/Dg.vl 65536 bs):=hdq;clear hcz hle hdq
        go_wp2_with fail
        refine(Bj d _ (by omega)).mono ?_;rintro e w6 ⟨v6,rfl,r6,b6⟩;have bel6:=aa bel5 b6
        go_wp2_with fail
        refine(HTM.out _ d _ (by omega) bel6 r6).mono ?_;rintro e w7 ⟨v7,rfl,r7,b7⟩;have b57:=aa b6 b7;have bel7:=aa bel5 b57;have r57:=r5.l b57;clear bel6 r6 b6 b7
        go_wp2_with fail
        refine(HCM.out _ _ _ _ _ r7 r57).mono ?_;rintro e w8 ⟨rfl,b8⟩;rw[HCZ.out];have r7:=r7.l b8;have r58:=r57.l b8;have bel8:=aa bel7 b8;have own8:=(own5.l b57).l b8;clear r57 bel7 b57 HCZ own5
        go_wp2_with fail
        refine(HLS.out _ _ _ _ _ hNl HLE.out r58 r7).mono ?_;rintro e w9 ⟨v9,rfl,r9,f9,b9⟩;have own9:=own8.l b9;have bel9:=aa bel8 b9;have hq9:=own9.c m (by omega);have hf9:=own9.f m;have hs9:w.heap.size<w8.heap.size:=by have:=own8.block;omega
        have own10:=own9.store m d;have r10:=r9.set_far (g:=w.heap.size) (j:=m) f9 hs9 (yi (d:Int));have bel10:=bel9.setCell (p:=⟨w.heap.size,m,none⟩) (Nat.le_refl _) (yi (d:Int));have HN:Hid (N-Dg.vl 65536 bs*d=N % Dg.vl 65536 bs):=by
         rw[HDQ.out];have:=Nat.div_add_mod N (Dg.vl 65536 bs);unfold Hid;omega
        clear r58 r7 bel8 own8 b8 b9 HLE f9 r9 bel9
        go_wp2
        go_roundw
        case rel=>exact⟨m,N % Dg.vl 65536 bs,cur.set m (N/Dg.vl 65536 bs),by omega,by go_num,by rw[←HDQ.out];exact own10,by rw[←HN.out];exact r10,HSET.out,bel10⟩
        case measure=>simp[intOf]
       ·have hdl:=QW hg1 hle hb0
        have hcz:=sO (a:=((Dg.vl 65536 bs*d:Nat):Int)) (b:=(N:Int)) (by omega);have HCZ:Hid (dm ((Dg.vl 65536 bs*d:Nat):Int) (N:Int)=1):=hcz;have HG:Hid (N/Dg.vl 65536 bs≤d-1):=Nat.le_sub_of_add_le hdl;have hd0':0<d:=Nat.lt_of_lt_of_le (Nat.succ_pos _) hdl;clear hcz hle hdl
        go_wp2_with fail
        refine(Bj d _ (by omega)).mono ?_;rintro e w6 ⟨v6,rfl,r6,b6⟩;have bel6:=aa bel5 b6
        go_wp2_with fail
        refine(HTM.out _ d _ (by omega) bel6 r6).mono ?_;rintro e w7 ⟨v7,rfl,r7,b7⟩;have b57:=aa b6 b7;have r57:=r5.l b57;clear bel6 r6 b6 b7
        go_wp2_with fail
        refine(HCM.out _ _ _ _ _ r7 r57).mono ?_;rintro e w8 ⟨rfl,b8⟩;rw[HCZ.out];have b58:=aa (aa b5 b57) b8;clear r57 b57 HCZ own5 r7
        go_wp2
        go_roundw
        case rel=>
         refine⟨_,_,_,_,_,_,_,_,_,_,_,_,_,_,_,_,_,_,_,_,⟨rfl,d-1,HG.out,by omega, ?_,b58⟩,rfl⟩
         go_num
        case measure=>simp[intOf];omega
end Go.Proofs.YtiakgfmlpdfhdaaDoor
